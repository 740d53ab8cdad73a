import PyProof.Rows.All
import Wide.All
import OpenK.AllK
import Wide.FinOn
import KE.KStateDown
import KE.KExcIs
import HandS.ForMost
import HandS.WordsExc
import HandS.Defaults
import HandS.More
import HandS.IsInst
import HandS.ExcInit
import HandS.HeadHook1
import HandS.HeadHook2
import PyProof.ReprNest
import PyProof.ReprDict
import HandS.Head0
import HandS.Head1
import HandS.Head2
import HandS.HeadEnd
import PyProof.ReprRoads
import HandS.ExcBuiltin
import HandS.ExcValue
import KE.KDictZip
import KE.KDictItemsList
import HandS.Codes
import PySem.Challenge.RW_shownviews_k00_errors_and_their_fields
set_option Elab.async false
set_option linter.all false
set_option maxRecDepth 100000
set_option maxHeartbeats 0
/-! Exceptions of the program's own classes as values: made, asked by isinstance, their fields read. -/
namespace Xv
open PySem PySem.Spec PyProof.Rows L2
/-! ### a class, by one look at the written part -/
def oexB (K : PySem.W.Frag) (C : Addr) : Bool := match K.lookup C with
  | some ⟨.type t, _, .cls cd, sl⟩ => (match cd.mro, sl.toList with
    | .ref C' :: bm, [_, _, _, _, some (.builtin n), _] => decide (t = "type") && (decide (C' = C) && (decide (n = "ValueError.__new__") && (!cd.hasDel && (cd.hasDict && PySem.HandSPX.refsVE bm))))
    | _, _ => false)
  | _ => false
def xclB (K : PySem.W.Frag) (C : Addr) : Bool := oexB K C && (He.eqO (PySem.W.findIn K (.ref C) "__setattr__") (some (some (.builtin "object.__setattr__"))) && (decide (PySem.W.subIn K (.ref C) (.type "BaseException") = some true) && (decide (PySem.W.typeIn K (.ref C) = some (.type "type")) &&
  (PySem.W.keepIn K (.ref C) && ((PySem.W.clsIn K C).isSome && (He.eqO (PySem.W.findIn K (.ref C) "__getattribute__") (some (some (.builtin "BaseException.__getattribute__"))) && (He.eqO (PySem.W.findIn K (.ref C) "__getattr__") (some none) &&
  (He.eqO (PySem.W.findIn K (.ref C) "__class__") (some (some (.builtin "object.__class__"))) && (decide (PySem.W.mroIn K C (.type "object") = some true) && (PySem.W.hasDictIn K C &&
  (He.eqO (PySem.W.specialIn K (.builtin "object.__class__") "__get__") (some (some (.builtin "getset_descriptor.__get__"))) && decide (PySem.W.takesIn K (.builtin "object.__class__") = some true))))))))))))
structure XCl (K : PySem.W.Frag) (C : Addr) : Prop where
  oex : OexC K C
  cl : (PySem.W.clsIn K C).isSome = true
  ga : PySem.W.findIn K (.ref C) "__getattribute__" = some (some (.builtin "BaseException.__getattribute__"))
  gt : PySem.W.findIn K (.ref C) "__getattr__" = some none
  ca : PySem.W.findIn K (.ref C) "__class__" = some (some (.builtin "object.__class__"))
  mo : PySem.W.mroIn K C (.type "object") = some true
  hd : PySem.W.hasDictIn K C = true
  gn : PySem.W.specialIn K (.builtin "object.__class__") "__get__" = some (some (.builtin "getset_descriptor.__get__"))
  tk : PySem.W.takesIn K (.builtin "object.__class__") = some true
theorem xcl_ok {K : PySem.W.Frag} {C : Addr} (h : xclB K C = true) : XCl K C := by
  obtain ⟨h1, h⟩ := He.ba h
  obtain ⟨h2, h⟩ := He.ba h
  obtain ⟨h3, h⟩ := He.ba h
  obtain ⟨h4, h⟩ := He.ba h
  obtain ⟨h5, h⟩ := He.ba h
  obtain ⟨h6, h⟩ := He.ba h
  obtain ⟨h7, h⟩ := He.ba h
  obtain ⟨h8, h⟩ := He.ba h
  obtain ⟨h9, h⟩ := He.ba h
  obtain ⟨h10, h⟩ := He.ba h
  obtain ⟨h11, h⟩ := He.ba h
  obtain ⟨h12, h13⟩ := He.ba h
  refine ⟨⟨?_, He.eqO_ok h2, of_decide_eq_true h3, of_decide_eq_true h4, h5⟩, h6, He.eqO_ok h7, He.eqO_ok h8, He.eqO_ok h9, of_decide_eq_true h10, h11, He.eqO_ok h12, of_decide_eq_true h13⟩
  unfold oexB at h1
  split at h1
  case h_2 => cases h1
  case h_1 t dd cd sl ho =>
    split at h1
    case h_2 => cases h1
    case h_1 C' bm k0 k1 k2 k3 n k5 hm hs =>
      obtain ⟨a1, h1⟩ := He.ba h1
      obtain ⟨a2, h1⟩ := He.ba h1
      obtain ⟨a3, h1⟩ := He.ba h1
      obtain ⟨a4, h1⟩ := He.ba h1
      obtain ⟨a5, a6⟩ := He.ba h1
      have e1 := of_decide_eq_true a1
      have e2 := of_decide_eq_true a2
      have e3 := of_decide_eq_true a3
      subst e1 e2 e3
      obtain ⟨nm, bs, mro, ns, qn, hd, sn, sub, ab, col, del⟩ := cd
      dsimp only at hm a4 a5
      have e4 : del = false := by cases del <;> first | rfl | cases a4
      subst hm e4 a5
      have e5 : sl = #[k0, k1, k2, k3, some (.builtin "ValueError.__new__"), k5] := by
        obtain ⟨l⟩ := sl
        dsimp only at hs
        rw [hs]
      subst e5
      exact ⟨nm, qn, ns, bs, bm, sn, sub, ab, col, dd, k0, k1, k2, k3, k5, ho, a6⟩
/-- an exception stands at a: its class C, its fields (none: it has no dict) -/
def XAt (H : Hp) (a C : Addr) : Option (List (Str × V)) → Prop
  | none => H a = some (exo a C none)
  | some fs => ∃ dx, H a = some (exo a C (some dx)) ∧ H dx = some (exd dx fs)
theorem XAt.same {H H' : Hp} {a C : Addr} {fs : Option (List (Str × V))} (h : XAt H a C fs) (k : ∀ b o, H b = some o → H' b = some o) : XAt H' a C fs := by
  cases fs with
  | none => exact k _ _ h
  | some fs =>
    obtain ⟨dx, h1, h2⟩ := h
    exact ⟨dx, k _ _ h1, k _ _ h2⟩
theorem XAt.get {P : Program} {w : World} {H : Hp} {h : Heap} {a C : Addr} {fs : Option (List (Str × V))} (x : XAt H a C fs) (ok : HOk P w H h) : ∃ ox od, PySem.W.InstAt h a ox C od := by
  cases fs with
  | none =>
    obtain ⟨t1, e⟩ := exo_at ok x
    exact ⟨_, none, e, rfl, rfl, trivial⟩
  | some fs =>
    obtain ⟨dx, h1, h2⟩ := x
    obtain ⟨t1, e⟩ := exo_at ok h1
    obtain ⟨mA, hn, _⟩ := exd_at ok h2
    obtain ⟨od, ho, _⟩ := lookIn_ns hn
    exact ⟨_, some od, e, rfl, rfl, ho⟩
section
variable {X : Cx}
/-! ### isinstance -/
def rIsX (K : PySem.W.Frag) : List V → Hp → VK → Prop := fun xs H Q => ∃ (a C : Addr) (fs : Option (List (Str × V))) (c : V) (u : Value) (b : Bool), xs = [.ref a, c] ∧ ClsV c u ∧ XAt H a C fs ∧ XCl K C ∧ PySem.W.kitOne K (.ref C) u = some b ∧ Q (.bl b) H
theorem call_isX : CallR X (.builtin "isinstance") (rIsX X.K) := by
  intro pins s σ H xs us Q I r h
  obtain ⟨a, C, fs, c, u, b, rfl, k, xa, T, e, q⟩ := h
  obtain ⟨u1, u2, rfl, r1, r2⟩ := vals2 r
  have e2 := k.eq r2
  subst e2
  cases (show u1 = Value.ref a from r1)
  obtain ⟨ox, od, J⟩ := xa.get I.hok
  exact PySem.W.kia_one (PySem.W.kitx_exc (x := a) (od := od) T.cl T.ga T.gt T.oex.exC T.ca T.gn T.tk T.mo) I.kIn J e (fun z => nomatch z) fun tk => ⟨.bl b, H, I.tok tk, rfl, q⟩
/-! ### a field -/
def tXf (K : PySem.W.Frag) (f : Str) (te : TE) : TE := fun σ H Q => te σ H fun x H1 => ∃ (a C : Addr) (fs : List (Str × V)) (v : V), x = .ref a ∧ XAt H1 a C (some fs) ∧ XCl K C ∧ PySem.W.findIn K (.ref C) f = some none ∧ fs.lookup f = some v ∧ Q v H1
theorem pe_xf {e : Expr} {te : TE} {f : Str} {pos : Pos} (he : PE X e te) (hb : attributeBase e f X.env (eval e X.env) = eval e X.env := by rfl) : PE X (.Attribute e f pos) (tXf X.K f te) := by
  refine ⟨fun pins s σ H Q I h => ?_⟩
  refine attr_of hb (thn (he.run pins s σ H _ I h) fun u s1 hh => ?_)
  obtain ⟨x, H1, I1, rx, a, C, fs, v, ex, xa, T, hno, el, q⟩ := hh
  subst ex
  obtain rfl : u = Value.ref a := rx
  obtain ⟨dx, h1, h2⟩ := xa
  obtain ⟨t1, eo⟩ := exo_at I1.hok h1
  obtain ⟨mA, hn, hr⟩ := exd_at I1.hok h2
  obtain ⟨od, ho, hl⟩ := lookIn_ns hn
  obtain ⟨u, hu, ru⟩ := RelO.some_of (v := v) (o := mA f) (by rw [← el]; exact hr f)
  have J : PySem.W.InstAt s1.heap a { cls := .ref C, dict := some dx, data := .fields #[.ref t1, .none, .none, .none, .bool false, .none] } C (some od) := ⟨eo, rfl, rfl, ho⟩
  exact HandSPX.exc_get I1.kIn J T.ga T.gt T.oex.exC (PySem.W.findObj_own T.hd hno rfl (by rw [hl, hu])) (handed_of ru) ⟨v, H1, I1.tok _, ru, q⟩
/-! ### made -/
def tXm (C : Addr) (sp : Sp) (ta : TA) : TE := fun σ H Q => ta σ H fun vs H1 => ∀ a, H1 a = none → sp (.ref a :: vs) (upd H1 a (exo a C none)) (fun v H2 => v = .non ∧ Q (.ref a) H2) E0
theorem xmade {pins : List (Addr × Obj)} {σ : L2.St} {H1 : Hp} {s1 : Shared} {Q : VK} {C fI : Addr} {k : Nat} {fd : FuncData} {ps : List Str} {sp : Sp} {vs : List V} {us : List Value} (T : OexC X.K C) (iC : PySem.W.findIn X.K (.ref C) "__init__" = some (some (.ref fI)))
    (tI : PySem.W.typeIn X.K (.ref fI) = some (.type "function")) (F1 : FnOk X.prog X.w X.K X.mg X.base CX0 k fI fd ps sp) (hr : Room (k + 1) X.A) (hb : Binds X.K fd ps []) (I1 : Inv X pins σ H1 s1) (r1 : Vals vs us) (hz : us.length ≤ sizeLine)
    (q1 : ∀ a, H1 a = none → sp (.ref a :: vs) (upd H1 a (exo a C none)) (fun v H2 => v = .non ∧ Q (.ref a) H2) E0) : wpAny (model X.prog X.w) X.A (call (.ref C) us) (EP X pins σ Q) X.xe s1 := by
  obtain ⟨nm, qn, N, bs, bm, sn, sub, ab, col, dd, k0, k1, k2, k3, k5, hC, hbm⟩ := T.cls
  obtain ⟨hp, g, dr, tk, os⟩ := s1
  have hsz : hp.objs.size ≤ hp.objs.size + 1 := Nat.le_succ _
  have hn : H1 (hp.objs.size + 1) = none := I1.hok.fresh hsz
  have hq := q1 _ hn
  have kk : ∀ b o, hp.get? b = some o → ((hp.push (PySem.W.kdv_tup us)).push (PySem.HandSPX.excO C hp.objs.size)).get? b = some o := fun b o z =>
    Heap.get?_push_of_some _ (Heap.get?_push_of_some _ z)
  have hg2 : ((hp.push (PySem.W.kdv_tup us)).push (PySem.HandSPX.excO C hp.objs.size)).get? (hp.objs.size + 1) = some (PySem.HandSPX.excO C hp.objs.size) := by heap_get
  have I2 := I1.laid (t' := tk) (a := hp.objs.size + 1) (o := exo (hp.objs.size + 1) C none) (h' := (hp.push (PySem.W.kdv_tup us)).push (PySem.HandSPX.excO C hp.objs.size)) kk hsz (exo_ok hg2)
  have r2 : Vals (V.ref (hp.objs.size + 1) :: vs) (Value.ref (hp.objs.size + 1) :: us) := .cons rfl r1
  have hl : ((Value.ref (hp.objs.size + 1) :: us) ++ []).length = ps.length := by
    rw [List.append_nil, ← r2.length]
    exact F1.len _ _ _ _ hq
  have hb2 := hb _ (Value.ref (hp.objs.size + 1) :: us) I2.kIn hl
  rw [List.append_nil] at hb2
  refine wpAny_call (PySem.HandSPX.call_own F.excBase_ValueError (fun Y => PySem.HandSPX.refsVE_contains Y bm hbm) (I1.kIn _ _ hC) (PySem.W.looks_findIn I1.kIn iC) (fun self => PySem.W.bind_fn I1.kIn self tI) hz ?_)
  refine codeAny_mono (F1.run _ X.stack _ _ ⟨_, []⟩ _ _ _ _ (hr.make C us []) (I2.env0.make C us []) hb2 r2 hq) fun r s' hq' => ?_
  cases r with
  | error er => exact hq'.elim
  | ok fl =>
    cases fl with
    | ret u =>
      obtain ⟨v, H2, os2, bare2, un2, hok2, rv, ev, q2⟩ := hq'
      subst ev
      exact ⟨rv, .ref (hp.objs.size + 1), H2, I2.call' (ch := []) os2 un2 hok2 bare2 (fun b z => absurd z (by simp)), rfl, q2⟩
    | next => exact False.elim hq'
    | brk => exact False.elim hq'
    | cont => exact False.elim hq'
theorem pe_xm {x : Str} {C fI : Addr} {k j : Nat} {fd : FuncData} {ps : List Str} {sp : Sp} {e : Expr} {es : List Expr} {ta : TA} {p pos : Pos} (T : OexC X.K C) (iC : PySem.W.findIn X.K (.ref C) "__init__" = some (some (.ref fI))) (tI : PySem.W.typeIn X.K (.ref fI) = some (.type "function"))
    (F1 : FnOk X.prog X.w X.K X.mg X.base CX0 k fI fd ps sp) (hr : Room j X.A) (hj : k + 1 ≤ j) (hb : Binds X.K fd ps []) (hm : X.mg x = some (.ref C)) (ha : PA X (e :: es) ta) (hg : Gl X x := by rfl)
    (hdb : (x == ("__debug__" : Str)) = false := by decide) (he : starEach (e :: es) X.env = (false, eval e X.env) :: starEach es X.env := by rfl) (hpl : (backTo pos (starEach es X.env)).any (·.1) = false := by rfl)
    (hz : ps.length ≤ 1000 := by decide) : PE X (.Call (.Name x p) (e :: es) [] pos) (tXm C sp ta) := by
  refine ⟨fun pins s σ H Q I h => ?_⟩
  refine wpAny_Call_Name_kw (ld_glob I hg hm ?_ hdb)
  refine PySem.W.callWith_K (h₀ := X.base) I.ok.mod.kin T.kC (thn (ha.run pos pins s σ H _ I h) fun us s1 ⟨vs, H1, I1, r1, q1⟩ => ⟨I1.kIn, ?_⟩) he hpl
  have hn : H1 (s1.heap.objs.size) = none := I1.hok.fresh (Nat.le_refl _)
  have hl := F1.len _ _ _ _ (q1 _ hn)
  refine xmade T iC tI F1 (hr.mono hj) hb I1 r1 ?_ q1
  show us.length ≤ sizeLine
  rw [← r1.length, sizeLine_eq]
  have e1 : vs.length + 1 = ps.length := hl
  omega
theorem pe_xm0 {x : Str} {C fI : Addr} {k j : Nat} {fd : FuncData} {ps : List Str} {sp : Sp} {p pos : Pos} (T : OexC X.K C) (iC : PySem.W.findIn X.K (.ref C) "__init__" = some (some (.ref fI))) (tI : PySem.W.typeIn X.K (.ref fI) = some (.type "function"))
    (F1 : FnOk X.prog X.w X.K X.mg X.base CX0 k fI fd ps sp) (hr : Room j X.A) (hj : k + 1 ≤ j) (hb : Binds X.K fd ps []) (hm : X.mg x = some (.ref C)) (hg : Gl X x := by rfl) (hdb : (x == ("__debug__" : Str)) = false := by decide) :
    PE X (.Call (.Name x p) [] [] pos) (tXm C sp tNil) := by
  refine ⟨fun pins s σ H Q I h => ?_⟩
  refine wpAny_Call_Name_kw (ld_glob I hg hm ?_ hdb)
  exact PySem.W.callWith_K0 I.kIn T.kC (xmade (us := []) T iC tI F1 (hr.mono hj) hb I .nil (Nat.zero_le _) h)
end
end Xv
/-! Promises of defs that are called where no repr is under way. -/
namespace Gd
open PySem PySem.Spec PyProof.Rows L2
structure FnG (P : Program) (w : World) (K : PySem.W.Frag) (mg : Str → Option Value) (base : Heap) (k : Nat) (f : Addr) (fd : FuncData) (ps : List Str) (sp : Sp) : Prop where
  len : ∀ vs H Q E, sp vs H Q E → vs.length = ps.length
  run : ∀ (A : Around) (outer : List Env) (s : Shared) (H : Hp) (args : Args) (us : List Value) (vs : List V) (Q : VK), A.guards = some [] → Room k A → Env0 P w K mg base A outer s H → BindsTo s fd args (ps.zip us) → Vals vs us → sp vs H Q E0 →
    codeAny (model P w) A (.call (.ref f) args) (CR CX0 outer P w H s Q E0) s
section
variable {P : Program} {w : World} {K : PySem.W.Frag} {mg : Str → Option Value} {base : Heap}
theorem FnG.of {k : Nat} {f : Addr} {fd : FuncData} {ps : List Str} {sp : Sp} (F : FnOk P w K mg base CX0 k f fd ps sp) : FnG P w K mg base k f fd ps sp :=
  ⟨F.len, fun A outer s H args us vs Q _ hr e0 hb r h => F.run A outer s H args us vs Q E0 hr e0 hb r h⟩
theorem FnG.mono {j k : Nat} {f : Addr} {fd : FuncData} {ps : List Str} {sp : Sp} (F : FnG P w K mg base j f fd ps sp) (h : j ≤ k) : FnG P w K mg base k f fd ps sp :=
  ⟨F.len, fun A outer s H args us vs Q hg hr => F.run A outer s H args us vs Q hg (hr.mono h)⟩
/-- THE RULE for a def of the text -/
theorem fnG {k : Nat} {x qual : Str} {params : Arguments} {body : List Stmt} {scope : Scope} {dvs : List V} {kws : List (Str × V)} {f : Addr} {fd : FuncData} {N ps : List Str} {sp : Sp} (F : FunD K x qual params body scope dvs kws f fd) (S : FnScope N ps scope)
    (len : ∀ vs H Q E, sp vs H Q E → vs.length = ps.length)
    (hbody : ∀ (cdv : Value) (A : Around) (outer : List Env) (s : Shared) (H : Hp) (vs : List V) (Q : VK), A.guards = some [] → Room k (A.deeper (envOfC qual scope s.heap.objs.size f cdv)) → sp vs H Q E0 →
      ∃ t, PSs (cxOf CX0 P w K mg base N qual scope f cdv A outer s H E0) body t ∧ t { nx := fun _ H' => Q .non H', rt := Q } (L2.start N vs) H) : FnG P w K mg base (k + 1) f fd ps sp := by
  obtain ⟨oc, od, dV, kV, doc, pm, an, cdv, ct, osl, rfl, lk, hcd, _, _⟩ := F.ex
  constructor
  · exact len
  intro A outer s H args us vs Q hg hr e0 hb rv hsp
  have nvs := len _ _ _ _ hsp
  have inK : K.In s.heap := e0.mod.kin.keeps fun b o z => (e0.bs b o z).1
  have noL : s.heap.NoLimit := e0.mod.nolimit.keeps fun b o z => (e0.bs b o z).1
  refine codeAny_call_function hr.depth (inK _ _ lk) rfl S.co S.gen rfl (PySem.W.codeRec_of inK hcd) (hb _ _ _ _ ?_)
  refine wpAny_newFunctionEnv_cells S.kind ?_ fun env he s1 cc => ?_
  · rintro ⟨n, v⟩ hy
    exact (S.par n (List.of_mem_zip hy).1).elim Or.inl fun q => Or.inr ⟨q, PySem.W.cellsFrom_some _ _ _ (.inl q)⟩
  subst he
  refine ⟨noL.keeps cc.toInCall.keep, codeAny_func ?_⟩
  obtain ⟨t, ht, hq⟩ := hbody cdv A outer s H vs Q hg (hr.deeper _) hsp
  have J0 : Inv (cxOf CX0 P w K mg base N qual scope f cdv A outer s H E0) [] (L2.start N vs) H s1 := inv_start S hr.hd e0 nvs rv cc
  refine wpAny_mono (ht.run [] s1 _ H _ J0 hq) (fun fl s' out => ?_) fun e s' out => out
  have fin : ∀ {σ' : L2.St} {H' : Hp} {v : V} {u : Value}, Inv (cxOf CX0 P w K mg base N qual scope f cdv A outer s H E0) [] σ' H' s' → RelV v u → Q v H' → CE outer P w H s Q u s' :=
    fun {σ' H' v u} J ru q => ⟨v, H', J.os, J.bare, J.base, J.hok, ru, q⟩
  cases fl with
  | ret u =>
    obtain ⟨v, σ', H', J, ru, q⟩ := out
    exact fin J ru q
  | next =>
    obtain ⟨σ', H', J, q⟩ := out
    exact fin (v := .non) (u := .none) J rfl q
  | brk => exact out.elim fun _ z => z.elim fun _ z => z.2.elim
  | cont => exact out.elim fun _ z => z.elim fun _ z => z.2.elim
/-- a def of the text that keeps its promise, wherever it stands -/
def Dg (P : Program) (w : World) (K : PySem.W.Frag) (mg : Str → Option Value) (base : Heap) (x : Str) (k : Nat) (ps : List Str) (sp : Sp) : Prop :=
  ∃ (f : Addr) (fd : FuncData), mg x = some (.ref f) ∧ PySem.W.keepIn K (.ref f) = true ∧ Binds K fd ps [] ∧ FnG P w K mg base k f fd ps sp
end
section
variable {X : Cx} {x : Str} {k j : Nat} {ps : List Str} {sp : Sp} {e : Expr} {es : List Expr} {ta : TA} {p pos : Pos}
theorem run_g {pins : List (Addr × Obj)} {σ : L2.St} {H : Hp} {s : Shared} {Q : VK} {us : List Value} {vs : List V} {f : Addr} {fd : FuncData} (F : FnG X.prog X.w X.K X.mg X.base k f fd ps sp) (hg : X.A.guards = some []) (hr : Room k X.A) (hb : Binds X.K fd ps [])
    (I : Inv X pins σ H s) (rv : Vals vs us) (h : sp vs H Q E0) : wpAny (model X.prog X.w) X.A (call (.ref f) us) (EP X pins σ Q) X.xe s := by
  have nl : us.length = ps.length := by rw [← rv.length]; exact F.len _ _ _ _ h
  have hb2 := hb s us I.kIn (by rw [List.append_nil]; exact nl)
  rw [List.append_nil] at hb2
  refine wpAny_call (codeAny_mono (F.run X.A X.stack s H ⟨us, []⟩ us vs Q hg hr I.env0 hb2 rv h) fun r s' out => ?_)
  cases r with
  | error er => exact out.elim
  | ok fl =>
    cases fl with
    | ret u => exact I.after out
    | next => exact out.elim
    | brk => exact out.elim
    | cont => exact out.elim
def tCg (sp : Sp) (ta : TA) : TE := fun σ H Q => ta σ H fun vs H1 => sp vs H1 Q E0
theorem pe_dg (D : Dg X.prog X.w X.K X.mg X.base x k ps sp) (hg : X.A.guards = some []) (hr : Room j X.A) (hj : k ≤ j) (ha : PA X (e :: es) ta) (hgl : Gl X x := by rfl)
    (hdb : (x == ("__debug__" : Str)) = false := by decide) (he : starEach (e :: es) X.env = (false, eval e X.env) :: starEach es X.env := by rfl) (hpl : (backTo pos (starEach es X.env)).any (·.1) = false := by rfl) :
    PE X (.Call (.Name x p) (e :: es) [] pos) (tCg sp ta) := by
  obtain ⟨f, fd, hm, hk, hb, F⟩ := D
  refine ⟨fun pins s σ H Q I h => wpAny_Call_Name_kw (ld_glob I hgl hm ?_ hdb)⟩
  exact PySem.W.callWith_K (h₀ := X.base) I.ok.mod.kin hk (thn (ha.run pos pins s σ H _ I h) fun us s1 ⟨vs, H1, I1, rv, q⟩ => ⟨I1.kIn, run_g F hg (hr.mono hj) hb I1 rv q⟩) he hpl
theorem pe_dg0 (D : Dg X.prog X.w X.K X.mg X.base x k ps sp) (hg : X.A.guards = some []) (hr : Room j X.A) (hj : k ≤ j) (hgl : Gl X x := by rfl) (hdb : (x == ("__debug__" : Str)) = false := by decide) :
    PE X (.Call (.Name x p) [] [] pos) (tCg sp tNil) := by
  obtain ⟨f, fd, hm, hk, hb, F⟩ := D
  refine ⟨fun pins s σ H Q I h => wpAny_Call_Name_kw (ld_glob I hgl hm ?_ hdb)⟩
  exact PySem.W.callWith_K0 I.kIn hk (run_g (us := []) F hg (hr.mono hj) hb I .nil h)
end
/-! ### the law's own call, from the caller -/
theorem callG {P : Program} {w : World} {K : PySem.W.Frag} {mg mb : Str → Option Value} {k : Nat} {fa a : Addr} {fd : FuncData} {x : Str} {sp : Sp} {s1 : Shared} {vs : List Value} {ns : List Int} (KX : K.In s1.heap) (hns : s1.heap.Ns mainGlobals mg)
    (hmb : s1.heap.Ns builtinsNs mb) (hbb : ∀ x : Str, x ≠ "__name__" → mb x = bootBuiltins x) (hlim : s1.heap.NoLimit) (hgen : s1.gens = #[]) (ha : s1.heap.get? a = some { cls := .type "list", data := .seq vs.toArray }) (hi : IntsAre vs ns) (hl : ns.length ≤ sizeLine)
    (hr : Room k callerA) (F : ∀ base : Heap, K.In base → base.Ns mainGlobals mg → FnG P w K mg base k fa fd [x] sp) (hbind : ∀ (s : Shared) (u : Value), BindsTo s fd ⟨[u], []⟩ [(x, u)])
    (hsp : ∀ H : Hp, Only H → SqL K H a (ns.map V.int) → sp [.ref a] H (fun v _ => v = .bl true) E0) :
    codeAny (model P w) callerA (.call (.ref fa) ⟨[.ref a], []⟩) (fun r s' => r = .ok (.ret (.bool true)) ∧ OldK s1.heap s'.heap ∧ s'.os = s1.os ∧ AllBare s'.gens) s1 := by
  have rv := vals_ints hi
  have core : ∀ H : Hp, Only H → SqL K H a (ns.map V.int) → HOk P w H s1.heap → (∀ b, H b ≠ none → b = a) → (H a ≠ none → K.lookup a = none) →
      codeAny (model P w) callerA (.call (.ref fa) ⟨[.ref a], []⟩) (fun r s' => r = .ok (.ret (.bool true)) ∧ OldK s1.heap s'.heap ∧ s'.os = s1.os ∧ AllBare s'.gens) s1 := by
    intro H onl sq ok only_a notK
    have dictless : ∀ {b : Addr} {o : Obj} {es : Array DictEntry} {ep : Nat}, s1.heap.get? b = some o → o.data = .dict es ep → H b = none := by
      intro b o es ep eo ed
      refine Classical.byContradiction fun nn => ?_
      have eb := only_a b nn
      rw [eb, ha] at eo
      cases eo
      cases ed
    have nsb : ∀ {b : Addr} {m : Str → Option Value}, s1.heap.Ns b m → (hidT s1.heap H).Ns b m := by
      rintro b m ⟨o, es, ep, eo, ed, rr⟩
      exact ⟨o, es, ep, hidT_get eo (dictless eo ed), ed, rr⟩
    have Kb : K.In (hidT s1.heap H) := by
      intro b o eb
      refine hidT_get (KX b o eb) (Classical.byContradiction fun nn => ?_)
      have e2 := only_a b nn
      subst e2
      rw [notK nn] at eb
      cases eb
    obtain ⟨mc, l1, l2⟩ := hlim
    have md : Mod K mg (hidT s1.heap H) := ⟨Kb, nsb hns, ⟨mb, nsb hmb, hbb⟩, ⟨mc, nsb l1, l2⟩⟩
    have en : Env0 P w K mg (hidT s1.heap H) callerA [] s1 H := ⟨rfl, md, fun b o z => of_hidT z, Nat.le_of_eq (hidT_size _ _), trivial, fun b z => absurd z List.not_mem_nil, ok, .of_eq hgen⟩
    refine codeAny_mono ((F _ Kb (nsb hns)).run callerA [] s1 H ⟨[.ref a], []⟩ [.ref a] [.ref a] _ rfl hr en (hbind s1 (.ref a)) (.cons rfl .nil) (hsp H onl sq)) fun r s' out => ?_
    cases r with
    | error er => exact out.elim
    | ok fl =>
      cases fl with
      | next => exact out.elim
      | brk => exact out.elim
      | cont => exact out.elim
      | ret u =>
        obtain ⟨v, H', os, bare, un, ok', ru, ev⟩ := out
        have ev2 : v = .bl true := ev
        subst ev2
        cases (show u = Value.bool true from ru)
        refine ⟨rfl, OldK.of_keep fun b o eo => ?_, os, bare⟩
        rcases onl b with nb | ⟨ob, xs, fb⟩
        · exact un.keep b o eo nb List.not_mem_nil List.not_mem_nil
        · obtain ⟨g1, _⟩ := ok b _ fb
          obtain ⟨g2, _⟩ := ok' b _ (un.frzs b ob _ fb)
          rw [eo] at g1
          cases g1
          exact g2
  cases hk : K.lookup a with
  | some o =>
    have eo := KX a o hk
    rw [ha] at eo
    cases eo
    refine core (fun _ => none) (fun _ => .inl rfl) (.inr ⟨_, vs.toArray, _, hk, rfl, rfl, rfl, ?_, by simpa using rv⟩) (fun b u z => nomatch z) (fun b z => absurd rfl z) fun z => absurd rfl z
    rw [List.size_toArray, hi.length]
    exact hl
  | none =>
    have hd : (fun b => if b = a then some (HO.frz { cls := .type "list", data := .seq vs.toArray } (.lst (ns.map V.int))) else none) a = some (HO.frz { cls := .type "list", data := .seq vs.toArray } (.lst (ns.map V.int))) := if_pos rfl
    refine core (fun b => if b = a then some (HO.frz { cls := .type "list", data := .seq vs.toArray } (.lst (ns.map V.int))) else none) (fun b => ?_) (.inl (.inr ⟨_, hd⟩)) (fun b u z => ?_) (fun b z => ?_) fun _ => hk
    · by_cases hb : b = a
      · exact .inr ⟨_, _, if_pos hb⟩
      · exact .inl (if_neg hb)
    · by_cases hb : b = a
      · subst hb
        rw [hd] at z
        cases z
        refine ⟨ha, ?_, vs, _, rv, ha⟩
        rw [List.length_map]
        exact hl
      · have z2 := (if_neg hb).symm.trans z
        cases z2
    · exact Classical.byContradiction fun hb => z (if_neg hb)
theorem walkG {l : PySem.W.OpenLaw} {n k : Nat} {q : Program} {loose : List Str} {XP : (Str → Option Value) → Heap → Prop} {YP : World → Heap → Prop} {d : DefRec} {x : Str} (hn : l.most = some n) (hn2 : n ≤ sizeLine) (hdf : d.params.defaults = []) (hr : Room k callerA)
    (F : ∀ (w : World) (mg : Str → Option Value) (fa : Addr) (h : Heap), YP w h → h.Ns mainGlobals mg → mg d.name = some (.ref fa) →
      ∃ (K : PySem.W.Frag) (fd : FuncData) (sp : Sp), K.In h ∧ (∀ (s : Shared) (u : Value), BindsTo s fd ⟨[u], []⟩ [(x, u)]) ∧
        (∀ (H : Hp) (a : Addr) (ns : List Int), ns.length ≤ n → Only H → SqL K H a (ns.map V.int) → sp [.ref a] H (fun v _ => v = .bl true) E0) ∧
        ∀ base : Heap, K.In base → base.Ns mainGlobals mg → FnG l.prog w K mg base k fa fd [x] sp) : PySem.W.WalkO q loose XP YP l.row.toRowW d [] (fun f vs => PySem.call f vs) := by
  refine Att.attach_call hn hdf fun w s0 s1 mg mb fa o pm cd doc a vs ns G Y ho hd hcd hmg hobj hints hlen hg => ?_
  obtain ⟨K, fd, sp, KX, hb, hsp, hF⟩ := F w mg fa _ Y G.T.g hmg
  exact callG KX G.T.g G.T.b G.T.builtins G.T.nolimit hg hobj hints (Nat.le_trans hlen hn2) hr hF hb fun H hO hS => hsp H a ns hlen hO hS
end Gd
/-! Data in the heap, its repr; counts; the types of exceptions. -/
namespace Hd
open PySem PySem.Spec PyProof.Rows L2
def kD : Key → PyData
  | .inl i => .int i
  | .inr x => .str x
mutual
inductive Dd (K : PySem.W.Frag) (H : Hp) : V → PyData → Prop
  | non : Dd K H .non .none
  | bl (b : Bool) : Dd K H (.bl b) (.bool b)
  | int (i : Int) : Dd K H (.int i) (.int i)
  | str (x : Str) : Dd K H (.str x) (.str x)
  | lst {a : Addr} {xs : List V} {ds : List PyData} : SqL K H a xs → DdAll K H xs ds → Dd K H (.ref a) (.list ds)
  | tup {a : Addr} {xs : List V} {ds : List PyData} : SqT K H a xs → DdAll K H xs ds → Dd K H (.ref a) (.tuple ds)
  | dct {a : Addr} {kvs : List (Key × V)} {ds : List (PyData × PyData)} : H a = some (.dK kvs) → DdKv K H kvs ds → Dd K H (.ref a) (.dict ds)
inductive DdAll (K : PySem.W.Frag) (H : Hp) : List V → List PyData → Prop
  | nil : DdAll K H [] []
  | cons {v : V} {vs : List V} {d : PyData} {ds : List PyData} : Dd K H v d → DdAll K H vs ds → DdAll K H (v :: vs) (d :: ds)
inductive DdKv (K : PySem.W.Frag) (H : Hp) : List (Key × V) → List (PyData × PyData) → Prop
  | nil : DdKv K H [] []
  | cons {k : Key} {v : V} {r : List (Key × V)} {d : PyData} {ds : List (PyData × PyData)} : Dd K H v d → DdKv K H r ds → DdKv K H ((k, v) :: r) ((kD k, d) :: ds)
end
theorem SqT.same {K : PySem.W.Frag} {H H' : Hp} {a : Addr} {xs : List V} (e : Same H H') (h : SqT K H a xs) : SqT K H' a xs := by
  rcases h with (h | ⟨o, h⟩) | h
  · exact .inl (.inl (e _ _ h))
  · exact .inl (.inr ⟨o, e _ _ h⟩)
  · exact .inr h
mutual
theorem Dd.same {K : PySem.W.Frag} {H H' : Hp} (e : Same H H') : ∀ {v : V} {d : PyData}, Dd K H v d → Dd K H' v d
  | _, _, .non => .non
  | _, _, .bl b => .bl b
  | _, _, .int i => .int i
  | _, _, .str x => .str x
  | _, _, .lst h r => .lst (Same.seq e h) (DdAll.same e r)
  | _, _, .tup h r => .tup (SqT.same e h) (DdAll.same e r)
  | _, _, .dct h r => .dct (e _ _ h) (DdKv.same e r)
theorem DdAll.same {K : PySem.W.Frag} {H H' : Hp} (e : Same H H') : ∀ {vs : List V} {ds : List PyData}, DdAll K H vs ds → DdAll K H' vs ds
  | _, _, .nil => .nil
  | _, _, .cons h r => .cons (Dd.same e h) (DdAll.same e r)
theorem DdKv.same {K : PySem.W.Frag} {H H' : Hp} (e : Same H H') : ∀ {vs : List (Key × V)} {ds : List (PyData × PyData)}, DdKv K H vs ds → DdKv K H' vs ds
  | _, _, .nil => .nil
  | _, _, .cons h r => .cons (Dd.same e h) (DdKv.same e r)
end
section
variable {X : Cx} {pins : List (Addr × Obj)} {σ : L2.St} {H : Hp} {s : Shared}
theorem keyD_reads {h : Heap} {k : Key} {v : Value} (e : keyIs k v = true) : Reads h v (kD k) [] := by
  rcases keyIs_shape e with ⟨i, t, rfl, rfl⟩ | ⟨x, t, rfl, rfl⟩
  · exact Reads.int i t
  · exact Reads.str x t
mutual
theorem Dd.reads (I : Inv X pins σ H s) : ∀ (d : PyData) (v : V) (u : Value), Dd X.K H v d → RelV v u → ∃ as, Reads s.heap u d as
  | .none, _, _, h, r => by
    cases h
    cases r
    exact ⟨_, Reads.none⟩
  | .bool b, _, _, h, r => by
    cases h
    cases r
    exact ⟨_, Reads.bool b⟩
  | .int i, _, _, h, r => by
    cases h
    obtain ⟨t, rfl⟩ := r
    exact ⟨_, Reads.int i t⟩
  | .str x, _, _, h, r => by
    cases h
    obtain ⟨t, rfl⟩ := r
    exact ⟨_, Reads.str x t⟩
  | .list ds, _, _, h, r => by
    cases h with
    | lst hs ha =>
      cases r
      obtain ⟨its, rv, ⟨o, n, e1, e2, _, e3⟩, _⟩ := I.list hs
      exact (Dd.readsAll I ds _ its ha rv).elim fun as z => ⟨_, Reads.list e1 e2 e3 z⟩
  | .tuple ds, _, _, h, r => by
    cases h with
    | tup hs ha =>
      cases r
      obtain ⟨its, rv, ⟨o, e1, e2, n, e3⟩, _⟩ := I.tuple hs
      exact (Dd.readsAll I ds _ its ha rv).elim fun as z => ⟨_, Reads.tuple e1 e2 e3 z⟩
  | .dict ds, _, _, h, r => by
    cases h with
    | dct hs ha =>
      cases r
      obtain ⟨_, _, vs, kv, o, es, ep, e1, e2, e3, _, pr, _⟩ := I.hok _ _ hs
      obtain ⟨as, bs, z1, z2⟩ := Dd.readsKv I ds _ vs _ ha kv pr
      exact ⟨_, Reads.dict e1 e2.1 e3 z1 z2⟩
theorem Dd.readsAll (I : Inv X pins σ H s) : ∀ (ds : List PyData) (vs : List V) (us : List Value), DdAll X.K H vs ds → Vals vs us → ∃ as, ReadsAll s.heap us ds as
  | [], _, _, h, r => by
    cases h
    cases r
    exact ⟨_, ReadsAll.nil⟩
  | d :: ds, _, _, h, r => by
    cases h with
    | cons h1 h2 =>
      cases r with
      | cons r1 r2 =>
        obtain ⟨as, q1⟩ := Dd.reads I d _ _ h1 r1
        exact (Dd.readsAll I ds _ _ h2 r2).elim fun bs q2 => ⟨_, ReadsAll.cons q1 q2⟩
theorem Dd.readsKv (I : Inv X pins σ H s) : ∀ (ds : List (PyData × PyData)) (vs : List (Key × V)) (us : List (Key × Value)) (es : List DictEntry), DdKv X.K H vs ds → KV vs us → Pairs (mixKind X.prog X.w) es us →
    ∃ as bs, ReadsAll s.heap (es.map (·.key)) (ds.map (·.1)) as ∧ ReadsAll s.heap (es.map (·.val)) (ds.map (·.2)) bs
  | [], _, _, _, h, r, p => by
    cases h
    cases r
    cases p
    exact ⟨_, _, ReadsAll.nil, ReadsAll.nil⟩
  | (k, d) :: ds, _, _, _, h, r, p => by
    cases h with
    | cons h1 h2 =>
      cases r with
      | cons r1 r2 =>
        cases p with
        | @cons e0 kv0 es0 kvs0 p1 p2 p3 =>
          obtain ⟨q1, q2⟩ := r1
          dsimp only at q1 q2
          obtain ⟨as, z⟩ := Dd.reads I d _ _ h1 q2
          obtain ⟨as', bs', z1, z2⟩ := Dd.readsKv I ds _ _ _ h2 r2 p3
          rw [← q1] at p1
          have z3 : Reads s.heap e0.val d as := by
            rw [p2]
            exact z
          exact ⟨_, _, ReadsAll.cons (keyD_reads p1) z1, ReadsAll.cons z3 z2⟩
end
end
/-! ### repr -/
def scalD : PyData → Bool
  | .list _ => false
  | .tuple _ => false
  | .dict _ => false
  | _ => true
theorem scal_nil {h : Heap} {v : Value} {d : PyData} {as : List Addr} (r : Reads h v d as) (e : scalD d = true) : as = [] := by
  cases r <;> first | rfl | cases e
theorem scals_nil {h : Heap} : ∀ {vs : List Value} {ds : List PyData} {as : List Addr}, ReadsAll h vs ds as → ds.all scalD = true → as = []
  | _, _, _, .nil, _ => rfl
  | _, _, _, .cons r t, e => by
    rw [List.all_cons, Bool.and_eq_true] at e
    rw [scal_nil r e.1, scals_nil t e.2]
    rfl
def okR : PyData → Bool
  | .dict ds => ds.all fun p => scalD p.1 && scalD p.2
  | d => !d.hasDict
def rRepr (K : PySem.W.Frag) : List V → Hp → VK → Prop := fun xs H Q => ∃ (x : V) (d : PyData), xs = [x] ∧ Dd K H x d ∧ d.showable = true ∧ okR d = true ∧ d.depth ≤ 60 ∧ d.shown.length ≤ sizeLine ∧ Q (.str d.shown) H
theorem call_repr {X : Cx} {k : Nat} (hg : X.A.guards = some []) (hr : Room k X.A) : CallR X (.builtin "repr") (rRepr X.K) := by
  intro pins s σ H xs us Q I r h
  obtain ⟨x, d, rfl, hd, hs, ho, hp, hz, q⟩ := h
  obtain ⟨u, rfl, ru⟩ := vals1 r
  have hu := hr.units
  obtain ⟨as, rd⟩ := Dd.reads I d x u hd ru
  have main : ∀ a, u = .ref a → wpAny (model X.prog X.w) X.A (call (.builtin "repr") [u]) (EP X pins σ Q) X.xe s := by
    rintro a rfl
    refine repr_of_reads' (h₀ := s.heap) rd hs (fun hh => ?_) hg (by omega) (fun _ _ z => z) (fun h' u tk hk => ⟨.str d.shown, H, I.kept (t' := tk) hk, ⟨u, rfl⟩, q⟩) hz
    cases hd with
    | @dct a0 kvs0 ds0 e1 e2 =>
      cases (show Value.ref a = Value.ref a0 from ru)
      cases rd with
      | dict g1 g2 g3 g4 g5 =>
        have n1 := scals_nil g4 (by
          rw [List.all_map, List.all_eq_true]
          intro p hp
          have z := List.all_eq_true.mp (show List.all ds0 (fun p => scalD p.1 && scalD p.2) = true from ho) p hp
          exact (Bool.and_eq_true_iff.mp z).1)
        have n2 := scals_nil g5 (by
          rw [List.all_map, List.all_eq_true]
          intro p hp
          have z := List.all_eq_true.mp (show List.all ds0 (fun p => scalD p.1 && scalD p.2) = true from ho) p hp
          exact (Bool.and_eq_true_iff.mp z).2)
        rw [n1, n2]
        obtain ⟨_, ne, _⟩ := I.hok _ _ e1
        intro hm
        have e := List.mem_singleton.mp hm
        rw [← e] at ne
        simp at ne
    | @lst a0 xs0 ds0 e1 e2 =>
      have ho2 : (!PyData.hasDict (.list ds0)) = true := ho
      rw [hh] at ho2
      cases ho2
    | @tup a0 xs0 ds0 e1 e2 =>
      have ho2 : (!PyData.hasDict (.tuple ds0)) = true := ho
      rw [hh] at ho2
      cases ho2
    | non => cases (show Value.ref a = Value.none from ru)
    | bl b => cases (show Value.ref a = Value.bool b from ru)
    | int i =>
      obtain ⟨t, z⟩ := (show ∃ t, Value.ref a = Value.int i t from ru)
      cases z
    | str y =>
      obtain ⟨t, z⟩ := (show ∃ t, Value.ref a = Value.str y t from ru)
      cases z
  cases hd with
  | non =>
    cases ru
    exact PySem.P.repr_of_none ⟨.str "None", H, I.tok _, ⟨_, rfl⟩, q⟩
  | bl b =>
    cases ru
    exact PySem.P.repr_of_bool ⟨.str _, H, I.tok _, ⟨_, rfl⟩, q⟩
  | int i =>
    obtain ⟨t, rfl⟩ := ru
    exact PySem.P.repr_of_int (of_decide_eq_true hs) ⟨.str _, H, I.tok _, ⟨_, rfl⟩, q⟩
  | str z =>
    obtain ⟨t, rfl⟩ := ru
    exact PySem.P.repr_of_str ⟨.str _, H, I.tok _, ⟨_, rfl⟩, q⟩ hz
  | lst e1 e2 => exact main _ ru
  | tup e1 e2 => exact main _ ru
  | dct e1 e2 => exact main _ ru
/-! ### counts of flat values -/
def rCntF (K : PySem.W.Frag) : V → List V → Hp → VK → Prop := fun x xs H Q => ∃ (p : Addr) (zs : List V) (k : V), x = .ref p ∧ xs = [k] ∧ SqL K H p zs ∧ flatV k = true ∧ zs.all flatV = true ∧ Q (.int ((zs.countP fun y => eqV y k : Nat) : Int)) H
theorem countP_eqU {x : V} : ∀ {xs : List V} {us : List Value}, Vals xs us → xs.all flatV = true → us.countP (eqU x) = xs.countP fun y => eqV y x
  | _, _, .nil, _ => rfl
  | y :: xs, u :: us, .cons r t, f => by
    rw [List.all_cons, Bool.and_eq_true] at f
    rw [List.countP_cons, List.countP_cons, eqU_of r f.1, countP_eqU t f.2]
theorem mt_countF {X : Cx} : MtR X "list.count" (rCntF X.K) := by
  intro pins s σ H x xs v us Q I rx rxs h
  obtain ⟨p, zs, k, rfl, rfl, hs, fk, fz, q⟩ := h
  cases rx
  obtain ⟨u, rfl, ru⟩ := rxs.one
  obtain ⟨its, rv, ⟨⟨cls, dd, data, sl⟩, n, ho, hc, hdn, hd⟩, hlen⟩ := I.list hs
  simp only at hc hd
  subst hc hd
  refine call_meets PySem.F.slot_list_count ⟨_, ho, rfl⟩ PySem.F.entry_list_count (PySem.F.args_list_count_2 _ _)
    (SeqAt.list_countAt p its.toArray n dd sl u (eqU k)) ⟨ho, fun y hy => mem_eqAt ru fk rv fz y (by simpa using hy), ?_⟩
  have ec : its.toArray.toList.countP (eqU k) = zs.countP fun y => eqV y k := countP_eqU rv fz
  refine ⟨.int ((zs.countP fun y => eqV y k : Nat) : Int), H, I.tok _, ⟨s.toks, ?_⟩, q⟩
  rw [← ec]
/-! ### an exception of a built-in class as a value -/
def bxo (a : Addr) : HO := .ext fun h => ∃ o, h.get? a = some o ∧ o.cls = .type "ValueError"
theorem bxo_ok {P : Program} {w : World} {H : Hp} {h : Heap} {a : Addr} {o : Obj} (e : h.get? a = some o) (c : o.cls = .type "ValueError") : ObjOk P w H h a (bxo a) :=
  ⟨⟨o, e, c⟩, ⟨o, e⟩, fun _ _ ⟨u, z, q⟩ k => ⟨u, k _ z, q⟩⟩
def tBx (ta : TA) : TE := fun σ H Q => ta σ H fun vs H1 => vs.length ≤ 1000 ∧ ∀ a, H1 a = none → Q (.ref a) (upd H1 a (bxo a))
theorem pe_bx {X : Cx} {e : Expr} {es : List Expr} {ta : TA} {p pos : Pos} (hg : Gl X "ValueError") (hm : X.mg "ValueError" = none) (ha : PA X (e :: es) ta)
    (he : starEach (e :: es) X.env = (false, eval e X.env) :: starEach es X.env := by rfl) (hpl : (backTo pos (starEach es X.env)).any (·.1) = false := by rfl) :
    PE X (.Call (.Name "ValueError" p) (e :: es) [] pos) (tBx ta) := by
  refine ⟨fun pins s σ H Q I h => wpAny_Call_Name_kw (ld_blt I hg hm PyProof.Rows.Boot.«ValueError» ?_ (by decide) (by decide))⟩
  refine PyProof.Rows.callWith_type1 (thn (ha.run pos pins s σ H _ I h) fun us s1 ⟨vs, H1, I1, rv, hz, q⟩ => ?_) he hpl
  obtain ⟨hp, g, d, tk, os⟩ := s1
  refine wpAny_call_exc PySem.F.excCall_ValueError (fun h' a mk => ?_) ?_
  · have hn : H1 a = none := I1.hok.gone mk.new
    obtain ⟨t, ht, _, _⟩ := mk.there
    exact ⟨.ref a, upd H1 a (bxo a), I1.laidN mk.keeps mk.new hn (bxo_ok ht rfl), rfl, q a hn⟩
  · show us.length ≤ sizeLine
    rw [← rv.length, sizeLine_eq]
    omega
/-! ### isinstance of whatever is an exception -/
def XTy (K : PySem.W.Frag) (H : Hp) (a : Addr) (t : Value) : Prop := (∃ C fs, Xv.XAt H a C fs ∧ Xv.XCl K C ∧ t = .ref C) ∨ (H a = some (bxo a) ∧ t = .type "ValueError")
theorem XTy.same {K : PySem.W.Frag} {H H' : Hp} {a : Addr} {t : Value} (h : XTy K H a t) (k : ∀ b o, H b = some o → H' b = some o) : XTy K H' a t := by
  rcases h with ⟨C, fs, h1, h2, h3⟩ | ⟨h1, h2⟩
  · exact .inl ⟨C, fs, h1.same k, h2, h3⟩
  · exact .inr ⟨k _ _ h1, h2⟩
def rIsT (K : PySem.W.Frag) : List V → Hp → VK → Prop := fun xs H Q => ∃ (a : Addr) (t : Value) (c : V) (u : Value) (b : Bool), xs = [.ref a, c] ∧ ClsV c u ∧ XTy K H a t ∧ PySem.W.kitOne K t u = some b ∧ Q (.bl b) H
theorem call_isT {X : Cx} : CallR X (.builtin "isinstance") (rIsT X.K) := by
  intro pins s σ H xs us Q I r h
  obtain ⟨a, t, c, u, b, rfl, k, xa, e, q⟩ := h
  rcases xa with ⟨C, fs, h1, h2, rfl⟩ | ⟨h1, rfl⟩
  · exact Xv.call_isX pins s σ H _ us Q I r ⟨a, C, fs, c, u, b, rfl, k, h1, h2, e, q⟩
  · obtain ⟨u1, u2, rfl, r1, r2⟩ := vals2 r
    have e2 := k.eq r2
    subst e2
    cases (show u1 = Value.ref a from r1)
    obtain ⟨⟨o, z1, z2⟩, _, _⟩ := I.hok _ _ h1
    exact PySem.W.kia_one (PySem.W.kitx_bexc PySem.F.excAttr_ValueError PySem.F.lkClass_ValueError PySem.F.soClass_ValueError (by decide)) I.kIn ⟨o, z1, z2⟩ e (fun z => nomatch z) fun tk => ⟨.bl b, H, I.tok tk, rfl, q⟩
end Hd
/-! list(zip(xs, ys)) over two lists of one length. -/
namespace Zl
open PySem PySem.Spec PySem.Calls PyProof.Rows
theorem no_len : typeLookup (.type "zip") "__len__" = pure none := am_miss_of_fast (by decide +kernel)
theorem no_hint : typeLookup (.type "zip") "__length_hint__" = pure none := am_miss_of_fast (by decide +kernel)
/-- the zip at z behind i turns; what it gave out lies from N on -/
structure Zs (N z TI TO i1 i2 l1 l2 : Addr) (xs ys : Array Value) (h : Heap) (i : Nat) : Prop where
  pr : IsPair h TI (.ref i1) (.ref i2)
  a1 : h.IsListIter i1 l1 i
  a2 : h.IsListIter i2 l2 i
  b1 : h.IsList l1 xs
  b2 : h.IsList l2 ys
  out : (IsZip h z TI TO .none ∧ ∃ a b, IsPair h TO a b) ∨ ∃ T f oT, IsZipHeld h z TI TO T f ∧ h.get? T = some oT ∧ N ≤ T
/-- the addresses that a turn may change -/
structure Low (N S z TI TO i1 i2 l1 l2 : Addr) : Prop where
  ap : ZipApart z TI TO i1 i2 l1 l2
  pS : S < N
  pz : z < N
  pTO : TO < N
  p1 : i1 < N
  p2 : i2 < N
  Sz : S ≠ z
  STI : S ≠ TI
  STO : S ≠ TO
  S1 : S ≠ i1
  S2 : S ≠ i2
  Sl1 : S ≠ l1
  Sl2 : S ≠ l2
structure Got (N : Addr) (xs ys : Array Value) (h : Heap) (as : List Addr) : Prop where
  up : as.Pairwise (· < ·)
  ge : ∀ a ∈ as, N ≤ a
  at_ : ∀ (j : Nat) (a : Addr), as[j]? = some a → ∃ x y, xs[j]? = some x ∧ ys[j]? = some y ∧ IsPair h a x y
section
variable {prog : Program} {w : World} {A : Around} {s : Shared} {R : Result → Shared → Prop} {N S z TI TO i1 i2 l1 l2 : Addr} {xs ys : Array Value}
theorem next (L : Low N S z TI TO i1 i2 l1 l2) {i : Nat} {E : Value → Shared → Prop} {Q : Option Value → Shared → Prop} (Z : Zs N z TI TO i1 i2 l1 l2 xs ys s.heap i) {x y : Value} (hx : xs[i]? = some x) (hy : ys[i]? = some y) (hN : N ≤ s.heap.objs.size)
    (hQ : ∀ h', Zs N z TI TO i1 i2 l1 l2 xs ys h' (i + 1) → IsPair h' s.heap.objs.size x y → h'.objs.size = s.heap.objs.size + 1 → (∀ c o, c ≠ z → c ≠ TO → c ≠ i1 → c ≠ i2 → s.heap.get? c = some o → h'.get? c = some o) →
      Q (some (.ref s.heap.objs.size)) { s with heap := h' }) : wpAny (model prog w) A (pyNext (.ref z)) Q E s := by
  obtain ⟨pr, a1, a2, b1, b2, out⟩ := Z
  have D := L.ap
  rcases out with ⟨hz, p, q, hTO⟩ | ⟨T, f, oT, hz, hT, hge⟩
  · refine wpAny_pyNext_zip_item D hz pr hTO a1 a2 b1 b2 hx hy fun h' c1 c2 c3 c4 c5 c6 k => ?_
    refine hQ h' ⟨k _ _ D.TIz D.TITO D.TIi1 D.TIi2 pr, c3, c4, ?_, ?_, .inr ⟨_, false, _, c1, c5, hN⟩⟩ c5 c6 k
    · exact b1.at fun o e => k _ o D.l1z D.l1TO D.l1i1 D.l1i2 e
    · exact b2.at fun o e => k _ o D.l2z D.l2TO D.l2i1 D.l2i2 e
  · refine wpAny_pyNext_zip_item_held D hz hT pr a1 a2 b1 b2 hx hy fun h' c1 c3 c4 c5 c6 k => ?_
    have n0 : T ≠ z := fun e => absurd (e ▸ hge) (Nat.not_le.mpr L.pz)
    have n1 : T ≠ i1 := fun e => absurd (e ▸ hge) (Nat.not_le.mpr L.p1)
    have n2 : T ≠ i2 := fun e => absurd (e ▸ hge) (Nat.not_le.mpr L.p2)
    refine hQ h' ⟨k _ _ D.TIz D.TIi1 D.TIi2 pr, c3, c4, ?_, ?_, .inr ⟨T, true, oT, c1, k _ _ n0 n1 n2 hT, hge⟩⟩ c5 c6 fun c o e1 _ e3 e4 => k c o e1 e3 e4
    · exact b1.at fun o e => k _ o D.l1z D.l1i1 D.l1i2 e
    · exact b2.at fun o e => k _ o D.l2z D.l2i1 D.l2i2 e
theorem stop (L : Low N S z TI TO i1 i2 l1 l2) {i : Nat} {E : Value → Shared → Prop} {Q : Option Value → Shared → Prop} (hh : A.handled = none) (Z : Zs N z TI TO i1 i2 l1 l2 xs ys s.heap i) (hx : xs[i]? = none)
    (hQ : ∀ h', (∀ c o, c ≠ z → c ≠ TO → c ≠ i1 → c ≠ i2 → s.heap.get? c = some o → h'.get? c = some o) → Q none { s with heap := h' }) : wpAny (model prog w) A (pyNext (.ref z)) Q E s := by
  obtain ⟨pr, a1, a2, b1, b2, out⟩ := Z
  rcases out with ⟨hz, p, q, hTO⟩ | ⟨T, f, oT, hz, hT, hge⟩
  · exact wpAny_pyNext_zip_end hh L.ap hz pr hTO a1 a2 b1 b2 (.inl hx) hQ
  · exact wpAny_pyNext_zip_end_held hh L.ap hz hT pr a1 a2 b1 b2 (.inl hx) fun h' k => hQ h' fun c o e1 _ e3 e4 => k c o e1 e3 e4
theorem Zs.upd (L : Low N S z TI TO i1 i2 l1 l2) {h : Heap} {i : Nat} {f : Obj → Obj} (Z : Zs N z TI TO i1 i2 l1 l2 xs ys h i) : Zs N z TI TO i1 i2 l1 l2 xs ys (h.update S f) i := by
  have k : ∀ b o, S ≠ b → h.get? b = some o → (h.update S f).get? b = some o := fun b o n e => (Heap.get?_update_other _ _ n).trans e
  obtain ⟨pr, a1, a2, b1, b2, out⟩ := Z
  refine ⟨k _ _ L.STI pr, a1.at fun o => k _ o L.S1, a2.at fun o => k _ o L.S2, b1.at fun o => k _ o L.Sl1, b2.at fun o => k _ o L.Sl2, ?_⟩
  rcases out with ⟨hz, p, q, hTO⟩ | ⟨T, g, oT, hz, hT, hge⟩
  · exact .inl ⟨k _ _ L.Sz hz, p, q, k _ _ L.STO hTO⟩
  · exact .inr ⟨T, g, oT, k _ _ L.Sz hz, k _ _ (Nat.ne_of_lt (Nat.lt_of_lt_of_le L.pS hge)) hT, hge⟩
theorem loop (L : Low N S z TI TO i1 i2 l1 l2) (hh : A.handled = none) (he : xs.size = ys.size) (hn : xs.size ≤ sizeLine) (res : Value) {h1 : Heap}
    (hR : ∀ h' tk acc c as, (∀ b o, b ≠ S → b ≠ z → b ≠ TO → b ≠ i1 → b ≠ i2 → h1.get? b = some o → h'.get? b = some o) → h'.get? S = some { cls := .type "list", dict := none, data := .seq acc c, slots := #[] } → as.length = xs.size → Got N xs ys h' as →
      acc.toList = as.map Value.ref → R (.ok (.ret res)) { s with heap := h', toks := tk }) :
    ∀ (k i : Nat) (h : Heap) (tk c : Nat) (acc : Array Value) (as : List Addr), xs.size - i = k → i ≤ xs.size → Zs N z TI TO i1 i2 l1 l2 xs ys h i → (∀ b o, b ≠ S → b ≠ z → b ≠ TO → b ≠ i1 → b ≠ i2 → h1.get? b = some o → h.get? b = some o) →
      h.get? S = some { cls := .type "list", dict := none, data := .seq acc c, slots := #[] } → acc.toList = as.map Value.ref → as.length = i → Got N xs ys h as → N ≤ h.objs.size →
      codeAny (model prog w) A (.builtin "list.extend.loop" ⟨[.ref S, .ref z, res], []⟩) R { s with heap := h, toks := tk } := by
  have nz : ∀ {a : Addr}, N ≤ a → a ≠ S ∧ a ≠ z ∧ a ≠ TO ∧ a ≠ i1 ∧ a ≠ i2 := fun {a} g =>
    ⟨Nat.ne_of_gt (Nat.lt_of_lt_of_le L.pS g), Nat.ne_of_gt (Nat.lt_of_lt_of_le L.pz g), Nat.ne_of_gt (Nat.lt_of_lt_of_le L.pTO g), Nat.ne_of_gt (Nat.lt_of_lt_of_le L.p1 g), Nat.ne_of_gt (Nat.lt_of_lt_of_le L.p2 g)⟩
  intro k
  induction k with
  | zero =>
    intro i h tk c acc as hk hi Z keep hS hacc hal G hNs
    refine codeAny_builtin PySem.F.entry_extend_loop ?_
    rw [Around.under_plainId PySem.F.plain_extend_loop _]
    refine wpAny_bind (stop (s := { s with heap := h, toks := tk }) (A := A.in1) L hh Z (Array.getElem?_eq_none (by omega)) fun h' kp => ?_)
    refine wpAny_pure (hR h' tk acc c as (fun b o e1 e2 e3 e4 e5 e => kp b o e2 e3 e4 e5 (keep b o e1 e2 e3 e4 e5 e)) (kp S _ L.Sz L.STO L.S1 L.S2 hS) (by omega) ⟨G.up, G.ge, fun j a hj => ?_⟩ hacc)
    obtain ⟨x, y, g1, g2, g3⟩ := G.at_ j a hj
    obtain ⟨_, n2, n3, n4, n5⟩ := nz (G.ge a (List.mem_of_getElem? hj))
    exact ⟨x, y, g1, g2, kp a _ n2 n3 n4 n5 g3⟩
  | succ k ih =>
    intro i h tk c acc as hk hi Z keep hS hacc hal G hNs
    have lt : i < xs.size := by omega
    have lt2 : i < ys.size := by omega
    have asz : acc.size = i := by
      have e := congrArg List.length hacc
      rw [List.length_map, hal] at e
      simpa using e
    refine codeAny_builtin PySem.F.entry_extend_loop ?_
    rw [Around.under_plainId PySem.F.plain_extend_loop _]
    refine wpAny_bind (next (s := { s with heap := h, toks := tk }) L Z (Array.getElem?_eq_getElem lt) (Array.getElem?_eq_getElem lt2) hNs fun h' Z' c5 c6 kp => ?_)
    dsimp only at c5 c6 kp ⊢
    have hS' := kp S _ L.Sz L.STO L.S1 L.S2 hS
    have Sl : S < h.objs.size := Heap.lt_size hS
    have up : ∀ b o, b ≠ S → h'.get? b = some o → (h'.update S (Obj.mapSeq (·.push (Value.ref h.objs.size)))).get? b = some o := fun b o n e => (Heap.get?_update_other _ _ (Ne.symm n)).trans e
    refine wpAny_bind ?_
    refine wpAny_updateSeq hS' rfl (wpAny_pure ⟨plainId_quiet PySem.F.plain_extend_loop _, ?_⟩) (by rw [asz]; omega) (by show (acc.push (Value.ref h.objs.size)).size ≤ sizeLine + 1; rw [Array.size_push, asz]; omega)
    have gnew := up h.objs.size _ (Nat.ne_of_gt Sl) c5
    refine ih (i + 1) _ tk _ (acc.push (Value.ref h.objs.size)) (as ++ [h.objs.size]) (by omega) lt (Z'.upd L) ?_ (Heap.get?_update_self _ hS' rfl) ?_ ?_ ⟨?_, ?_, ?_⟩ ?_
    · intro b o e1 e2 e3 e4 e5 e
      exact up b o e1 (kp b o e2 e3 e4 e5 (keep b o e1 e2 e3 e4 e5 e))
    · rw [Array.toList_push, hacc, List.map_append]
      rfl
    · rw [List.length_append, hal]
      rfl
    · refine List.pairwise_append.mpr ⟨G.up, List.pairwise_singleton _ _, fun a ha b hb => ?_⟩
      rw [List.mem_singleton.mp hb]
      obtain ⟨j, hj⟩ := List.mem_iff_getElem?.mp ha
      obtain ⟨x, y, _, _, g3⟩ := G.at_ j a hj
      exact Heap.lt_size g3
    · intro a ha
      rcases List.mem_append.mp ha with ha | ha
      · exact G.ge a ha
      · rw [List.mem_singleton.mp ha]
        exact hNs
    · intro j b hj
      by_cases hlt : j < as.length
      · rw [List.getElem?_append_left hlt] at hj
        obtain ⟨x, y, g1, g2, g3⟩ := G.at_ j b hj
        obtain ⟨n1, n2, n3, n4, n5⟩ := nz (G.ge b (List.mem_of_getElem? hj))
        exact ⟨x, y, g1, g2, up b _ n1 (kp b _ n2 n3 n4 n5 g3)⟩
      · have e : j = as.length := by
          have := (List.getElem?_eq_some_iff.mp hj).1
          rw [List.length_append, List.length_singleton] at this
          omega
        subst e
        have hb : h.objs.size = b := by simpa using hj
        subst hb
        subst hal
        exact ⟨_, _, Array.getElem?_eq_getElem lt, Array.getElem?_eq_getElem lt2, gnew⟩
    · exact Nat.le_trans hNs (Nat.le_of_lt (Heap.lt_size gnew))
end
section
variable {prog : Program} {w : World} {A : Around} {E : Value → Shared → Prop} {s : Shared} {z TI TO i1 i2 l1 l2 : Addr} {xs ys : Array Value}
/-- list(z), z a zip that has not begun -/
theorem call {Q : Value → Shared → Prop} (hh : A.handled = none) (D : ZipApart z TI TO i1 i2 l1 l2) (hz : IsZip s.heap z TI TO .none) (hTO : ∃ a b, IsPair s.heap TO a b) (hTI : IsPair s.heap TI (.ref i1) (.ref i2)) (a1 : s.heap.IsListIter i1 l1 0) (a2 : s.heap.IsListIter i2 l2 0)
    (b1 : s.heap.IsList l1 xs) (b2 : s.heap.IsList l2 ys) (he : xs.size = ys.size) (hn : xs.size ≤ sizeLine)
    (hQ : ∀ h' tk acc c as, (∀ b o, b ≠ z → b ≠ TO → b ≠ i1 → b ≠ i2 → s.heap.get? b = some o → h'.get? b = some o) → h'.get? s.heap.objs.size = some { cls := .type "list", dict := none, data := .seq acc c, slots := #[] } → as.length = xs.size → Got (s.heap.objs.size + 1) xs ys h' as →
      acc.toList = as.map Value.ref → Q (.ref s.heap.objs.size) { s with heap := h', toks := tk }) : wpAny (model prog w) A (call (.type "list") [.ref z]) Q E s := by
  obtain ⟨p, q, hTO⟩ := hTO
  have lz := Heap.lt_size hz
  have lTO := Heap.lt_size hTO
  have lTI := Heap.lt_size hTI
  have li1 : i1 < s.heap.objs.size := let ⟨_, e, _⟩ := a1; Heap.lt_size e
  have li2 : i2 < s.heap.objs.size := let ⟨_, e, _⟩ := a2; Heap.lt_size e
  have ll1 : l1 < s.heap.objs.size := let ⟨_, e, _⟩ := b1; Heap.lt_size e
  have ll2 : l2 < s.heap.objs.size := let ⟨_, e, _⟩ := b2; Heap.lt_size e
  refine callType_codes (Q₁ := fun obj t => obj = .ref s.heap.objs.size ∧ t = { s with heap := s.heap.push { cls := .type "list", data := .seq #[] } }) PySem.F.called_list (PySem.F.typeCall_list_1 _) PySem.F.entry_list_init
    (code_list_new _ ⟨rfl, rfl⟩) fun obj t ht => ?_
  obtain ⟨rfl, rfl⟩ := ht
  generalize hL : s.heap.objs.size = S at *
  have hS : (s.heap.push { cls := .type "list", data := .seq #[] }).get? S = some { cls := .type "list", data := .seq #[] } := by
    rw [← hL]
    exact Heap.get?_push_size _ rfl
  have low : Low (S + 1) S z TI TO i1 i2 l1 l2 := ⟨D, Nat.lt_succ_self _, Nat.lt_succ_of_lt lz, Nat.lt_succ_of_lt lTO, Nat.lt_succ_of_lt li1, Nat.lt_succ_of_lt li2, Nat.ne_of_gt lz, Nat.ne_of_gt lTI, Nat.ne_of_gt lTO, Nat.ne_of_gt li1, Nat.ne_of_gt li2, Nat.ne_of_gt ll1, Nat.ne_of_gt ll2⟩
  have k0 : ∀ b o, s.heap.get? b = some o → (s.heap.push { cls := .type "list", data := .seq #[] }).get? b = some o := fun b o e => Heap.get?_push_of_some _ e
  have Z0 : Zs (S + 1) z TI TO i1 i2 l1 l2 xs ys (s.heap.push { cls := .type "list", data := .seq #[] }) 0 :=
    ⟨k0 _ _ hTI, a1.at fun o => k0 _ o, a2.at fun o => k0 _ o, b1.at fun o => k0 _ o, b2.at fun o => k0 _ o, .inl ⟨k0 _ _ hz, p, q, k0 _ _ hTO⟩⟩
  refine ⟨⟨_, hS, rfl⟩, PySem.F.args_list_init_2 _ _, ?_⟩
  show wpAny _ A.in1.in1 (do let old ← Builtin.List.listItems (.ref S); Builtin.List.listUpdate (.ref S) (fun _ => #[]); letGo old.toList.reverse; Builtin.List.listExtendWith (.ref S) (.ref z) .none) _ _ _
  refine wpAny_bind ?_
  unfold Builtin.List.listItems
  refine wpAny_bind (wpAny_seqItems hS rfl (wpAny_pure ?_))
  show wpAny _ A.in1.in1 (updateSeq S (fun _ => #[]) >>= fun _ => letGo (#[] : Array Value).toList.reverse >>= fun _ => Builtin.List.listExtendWith (.ref S) (.ref z) .none) _ _ _
  refine wpAny_bind (wpAny_updateSeq hS rfl ?_)
  have hS2 := Heap.get?_update_self (Obj.mapSeq (fun _ => (#[] : Array Value))) hS rfl
  have Z1 := Z0.upd low (f := Obj.mapSeq (fun _ => (#[] : Array Value)))
  refine wpAny_bind (wpAny_letGo ?_)
  unfold Builtin.List.listExtendWith
  have zty : ∀ {h : Heap}, (∃ f, h.get? z = some { cls := .type "zip", dict := none, data := f, slots := #[] }) → ∀ t : Shared, t.heap = h → t.TypeIs (.ref z) "zip" := fun {h} ⟨f, e⟩ t q => ⟨_, by rw [q]; exact e, rfl⟩
  have zat : ∀ {h : Heap}, Zs (S + 1) z TI TO i1 i2 l1 l2 xs ys h 0 → ∃ f, h.get? z = some { cls := .type "zip", dict := none, data := f, slots := #[] } := fun {h} Z => by
    rcases Z.out with ⟨e, _⟩ | ⟨_, _, _, e, _⟩
    · exact ⟨_, e⟩
    · exact ⟨_, e⟩
  have zun : ∀ {h : Heap}, Zs (S + 1) z TI TO i1 i2 l1 l2 xs ys h 0 → ∃ f0, IsZip h z TI TO f0 ∨ True := fun _ => ⟨.none, .inr trivial⟩
  refine wpAny_bind (wpAny_typeOf (T := "zip") (zty (zat Z1) _ rfl) ?_)
  have e1 : Builtin.List.listSameRef (.ref S) (.ref z) = false := by
    have := low.Sz
    simp [Builtin.List.listSameRef, this]
  have e2 : (Value.type "zip" == Value.type "list") = false := by decide
  have e3 : (Value.type "zip" == Value.type "tuple") = false := by decide
  simp only [e1, e2, e3, Bool.or_false, Bool.false_eq_true, if_false]
  have hz1 : IsZip ((s.heap.push { cls := .type "list", data := .seq #[] }).update S (Obj.mapSeq (fun _ => (#[] : Array Value)))) z TI TO .none :=
    (Heap.get?_update_other _ _ low.Sz).trans (k0 _ _ hz)
  refine wpAny_bind (wpAny_pyIter_zip hz1 ?_)
  refine wpAny_bind (wpAny_holding ?_)
  unfold Builtin.List.listLengthHint
  refine wpAny_bind (wpAny_specialOf (zty (zat Z1) _ rfl) no_len ?_)
  show wpAny _ A.in1.in1 (specialOf (Value.ref z) (Str.ofString "__length_hint__") >>= _) _ _ _
  refine wpAny_bind (wpAny_specialOf (zty (zat Z1) _ rfl) no_hint ?_)
  refine wpAny_pure ?_
  refine wpAny_bind (wpAny_rule ?_)
  refine wpAny_bind ?_
  show wpAny _ A.in1.in1 (updateSeq S (·.push .none) >>= fun _ => updateSeq S (·.pop)) _ _ _
  refine wpAny_bind (wpAny_updateSeq hS2 rfl ?_)
  have hS3 := Heap.get?_update_self (Obj.mapSeq (·.push Value.none)) hS2 rfl
  refine wpAny_updateSeq (hz := by seq_fits) hS3 rfl ?_
  have hS4 := Heap.get?_update_self (Obj.mapSeq (·.pop)) hS3 rfl
  have Z3 := (Z1.upd low (f := Obj.mapSeq (·.push Value.none))).upd low (f := Obj.mapSeq (·.pop))
  refine wpAny_pure ⟨plainId_quiet PySem.F.plain_extend_loop _, ?_⟩
  refine loop (A := A.in1) (s := s) (h1 := s.heap) low hh he hn .none (fun h' tk acc c as kp hS' hl G hacc => ⟨rfl, hQ h' tk acc c as (fun b o e2 e3 e4 e5 e => ?_) hS' hl G hacc⟩) xs.size 0 _ _ _ #[] [] (Nat.sub_zero _) (Nat.zero_le _) Z3 ?_ hS4 rfl rfl ⟨List.Pairwise.nil, (fun _ z => nomatch z), fun j a hj => by simp at hj⟩ (Heap.lt_size hS4)
  rotate_left
  · exact kp b o (Nat.ne_of_lt (hL ▸ Heap.lt_size e)) e2 e3 e4 e5 e
  · intro b o n _ _ _ _ e
    exact (Heap.get?_update_other _ _ (Ne.symm n)).trans ((Heap.get?_update_other _ _ (Ne.symm n)).trans ((Heap.get?_update_other _ _ (Ne.symm n)).trans (k0 b o e)))
end
end Zl
namespace Zl
open PySem PySem.Spec PyProof.Rows L2
section
variable {X : Cx} {pins : List (Addr × Obj)} {σ : L2.St} {H H' : Hp} {s : Shared}
/-- several new objects are tracked at once -/
theorem many {h' : Heap} {t' : Nat} (I : Inv X pins σ H s) (k : ∀ b o, s.heap.get? b = some o → h'.get? b = some o) (sm : Same H H') (nw : ∀ b, H b = none → s.heap.get? b ≠ none → H' b = none)
    (ok : ∀ b o, H b = none → H' b = some o → ObjOk X.prog X.w H' h' b o) : Inv X pins σ H' { s with heap := h', toks := t' } := by
  refine I.un ⟨fun b o e _ _ _ => k b o e, fun b o e _ _ _ => ⟨o.slots, k b o e⟩, fun b o e n _ => nw b n (by rw [e]; simp), fun b o e _ => ⟨o, k b o e⟩, fun b xs e => sm b _ e, fun b o u e => sm b _ e, fun b ps e => ⟨#[], by rw [sm b _ e]; simp⟩⟩ fun b o e => ?_
  cases hb : H b with
  | none => exact ok b o hb e
  | some u =>
    have e2 := sm b u hb
    rw [e] at e2
    cases e2
    exact (I.hok b o hb).stay (fun c v _ z => k c v z) (fun c z => sm c _ z) fun c xs z => sm c _ z
end
/-- the j-th of as stands at the pair of the j-th of xs and ys -/
def pairUp : List Addr → List V → List V → Hp → Hp
  | a :: as, x :: xs, y :: ys, H => fun b => if b = a then some (.tup [x, y]) else pairUp as xs ys H b
  | _, _, _, H => H
theorem pairUp_out {H : Hp} {b : Addr} : ∀ {as : List Addr} {xs ys : List V}, b ∉ as → pairUp as xs ys H b = H b
  | [], _, _, _ => by simp [pairUp]
  | _ :: _, [], _, _ => by simp [pairUp]
  | _ :: _, _ :: _, [], _ => by simp [pairUp]
  | a :: as, x :: xs, y :: ys, n => by
    have n1 : b ≠ a := fun e => n (e ▸ List.mem_cons_self)
    unfold pairUp
    rw [if_neg n1]
    exact pairUp_out fun m => n (List.mem_cons_of_mem _ m)
theorem pairUp_at {H : Hp} : ∀ {as : List Addr} {xs ys : List V} {j : Nat} {a : Addr} {x y : V}, as.Pairwise (· < ·) → as[j]? = some a → xs[j]? = some x → ys[j]? = some y → pairUp as xs ys H a = some (.tup [x, y])
  | a0 :: as, x0 :: xs, y0 :: ys, 0, a, x, y, _, h1, h2, h3 => by
    simp at h1 h2 h3
    subst h1 h2 h3
    unfold pairUp
    rw [if_pos rfl]
  | a0 :: as, x0 :: xs, y0 :: ys, j + 1, a, x, y, p, h1, h2, h3 => by
    simp at h1 h2 h3
    obtain ⟨p1, p2⟩ := List.pairwise_cons.mp p
    have n1 : a ≠ a0 := Nat.ne_of_gt (p1 a (List.mem_of_getElem? h1))
    unfold pairUp
    rw [if_neg n1]
    exact pairUp_at p2 h1 h2 h3
  | [], _, _, _, _, _, _, _, h1, _, _ => by simp at h1
  | _ :: _, [], _, _, _, _, _, _, _, h2, _ => by simp at h2
  | _ :: _, _ :: _, [], _, _, _, _, _, _, _, h3 => by simp at h3
theorem zap (n a b : Nat) (la : a < n) (lb : b < n) : ZipApart (n + 4) (n + 2) (n + 3) n (n + 1) a b := by
  constructor <;> (refine (fun e => ?_ : (_ : Nat) ≠ _); omega)
theorem lt4 {b n : Nat} (h : b < n) : b ≠ n + 4 ∧ b ≠ n + 3 ∧ b ≠ n ∧ b ≠ n + 1 := ⟨by omega, by omega, by omega, by omega⟩
theorem ge6 {c n m : Nat} (h : n + 5 + 1 ≤ c) (e : m = n + 5) : n ≤ c ∧ c ≠ m := ⟨by omega, by omega⟩
theorem refVals : ∀ as : List Addr, Vals (as.map V.ref) (as.map Value.ref)
  | [] => .nil
  | _ :: r => .cons rfl (refVals r)
/-- list(zip(a, b)): a new list of new pairs -/
def tLz (K : PySem.W.Frag) (ta : TA) : TE := fun σ H Q => ta σ H fun vs H1 => ∃ (a b : Addr) (xs ys : List V), vs = [.ref a, .ref b] ∧ SqL K H1 a xs ∧ SqL K H1 b ys ∧ xs.length = ys.length ∧
  ∀ (p : Addr) (as : List Addr) (H2 : Hp), Same H1 H2 → H1 p = none → H2 p = some (.lst (as.map V.ref)) → as.length = xs.length → (∀ (j : Nat) (c : Addr) (x y : V), as[j]? = some c → xs[j]? = some x → ys[j]? = some y → H2 c = some (.tup [x, y])) → Q (.ref p) H2
theorem pe_lz {X : Cx} {e1 e2 : Expr} {ta : TA} {p p2 pos pos2 : Pos} (hcalm : X.calm = true) (hg : Gl X "list") (hm : X.mg "list" = none) (hg2 : Gl X "zip") (hm2 : X.mg "zip" = none) (ha : PA X [e1, e2] ta)
    (he : starEach [e1, e2] X.env = (false, eval e1 X.env) :: starEach [e2] X.env := by rfl) (hpl : (backTo pos2 (starEach [e2] X.env)).any (·.1) = false := by rfl)
    (he2 : starEach [.Call (.Name "zip" p2) [e1, e2] [] pos2] X.env = (false, eval (.Call (.Name "zip" p2) [e1, e2] [] pos2) X.env) :: starEach [] X.env := by rfl) :
    PE X (.Call (.Name "list" p) [.Call (.Name "zip" p2) [e1, e2] [] pos2] [] pos) (tLz X.K ta) := by
  refine ⟨fun pins s σ H Q I h => wpAny_Call_Name_kw (ld_blt I hg hm (by decide +kernel : bootBuiltins "list" = some (.type "list")) ?_ (by decide) (by decide))⟩
  refine PyProof.Rows.callWith_type1 ?_ he2 (by rfl)
  rw [he2]
  refine Calls.spliced_cons (wpAny_Call_Name_kw (ld_blt I hg2 hm2 (by decide +kernel : bootBuiltins "zip" = some (.type "zip")) ?_ (by decide) (by decide)))
  refine PyProof.Rows.callWith_type1 (thn (ha.run pos2 pins s σ H _ I h) fun us s1 ⟨vs, H1, I1, rv, a, b, xs, ys, ev, q1, q2, hl, q⟩ => ?_) he hpl
  subst ev
  obtain ⟨u1, u2, eu, r1, r2⟩ := vals2 rv
  subst eu
  cases (show u1 = Value.ref a from r1)
  cases (show u2 = Value.ref b from r2)
  obtain ⟨its, v1, g1, hz1⟩ := I1.list q1
  obtain ⟨its2, v2, g2, hz2⟩ := I1.list q2
  have n1 := v1.length
  have n2 := v2.length
  have la : a < s1.heap.objs.size := let ⟨_, _, e, _⟩ := g1; Heap.lt_size e
  have lb : b < s1.heap.objs.size := let ⟨_, _, e, _⟩ := g2; Heap.lt_size e
  refine call_zip_2 g1.isList g2.isList fun h' z0 z1 z2 z3 z4 z5 z6 => Calls.spliced_nil ?_
  have D := zap s1.heap.objs.size a b la lb
  have k5 : ∀ {b : Addr} {o : Obj}, s1.heap.get? b = some o → b ≠ s1.heap.objs.size + 4 ∧ b ≠ s1.heap.objs.size + 3 ∧ b ≠ s1.heap.objs.size ∧ b ≠ s1.heap.objs.size + 1 := fun {b o} e => lt4 (Heap.lt_size e)
  have b1 : h'.IsList a its.toArray := g1.isList.at fun o => z6 _ o
  have b2 : h'.IsList b its2.toArray := g2.isList.at fun o => z6 _ o
  refine call (s := { s1 with heap := h' }) (I1.ok.hd hcalm) D z0 ⟨_, _, z2⟩ z1 z3 z4 b1 b2 (by simp; omega) (by simp; omega) fun h2 tk acc c as kp hS hl2 G hacc => ?_
  have kk : ∀ b o, s1.heap.get? b = some o → h2.get? b = some o := fun b o e => by
    obtain ⟨e1, e2, e3, e4⟩ := k5 e
    exact kp b o e1 e2 e3 e4 (z6 b o e)
  have big : ∀ c, s1.heap.objs.size ≤ c → H1 c = none := fun c hc => I1.hok.fresh hc
  have hp0 : H1 h'.objs.size = none := big _ (by rw [z5]; exact Nat.le_add_right _ _)
  have hge : ∀ c ∈ as, s1.heap.objs.size ≤ c ∧ c ≠ h'.objs.size := fun c hc => by
    have := G.ge c hc
    rw [z5] at this
    exact ge6 this z5
  have hpa : h'.objs.size ∉ as := fun m => (hge _ m).2 rfl
  have len : as.length = xs.length := by
    have : its.toArray.size = its.length := by simp
    omega
  have up : ∀ (j : Nat) (c : Addr) (x y : V), as[j]? = some c → xs[j]? = some x → ys[j]? = some y → (upd (pairUp as xs ys H1) h'.objs.size (.lst (as.map V.ref))) c = some (.tup [x, y]) := fun j c x y e1 e2 e3 => by
    rw [upd_ne (hge c (List.mem_of_getElem? e1)).2]
    exact pairUp_at G.up e1 e2 e3
  have sm : Same H1 (upd (pairUp as xs ys H1) h'.objs.size (.lst (as.map V.ref))) := fun b o e => by
    rw [upd_ne (ne_of_none e hp0), pairUp_out fun m => ?_]
    · exact e
    · have := big b (hge b m).1
      rw [e] at this
      cases this
  refine ⟨.ref h'.objs.size, _, many (s := s1) (t' := tk) (h' := h2) (H' := upd (pairUp as xs ys H1) h'.objs.size (.lst (as.map V.ref))) I1 kk sm (fun b n e => ?_) (fun b o n e => ?_), rfl, q _ as _ sm hp0 upd_same len up⟩
  · have lt : b < s1.heap.objs.size := by
      cases z : s1.heap.get? b with
      | none => exact absurd z e
      | some o => exact Heap.lt_size z
    have n1 : b ≠ h'.objs.size := by rw [z5]; exact Nat.ne_of_lt (Nat.lt_of_lt_of_le lt (Nat.le_add_right _ _))
    rw [upd_ne n1, pairUp_out fun m => absurd (hge b m).1 (Nat.not_le.mpr lt)]
    exact n
  · by_cases hb : b = h'.objs.size
    · subst hb
      rw [upd_same] at e
      cases e
      refine ⟨by rw [List.length_map]; omega, as.map Value.ref, c, refVals as, ?_⟩
      rw [hS, ← hacc]
    · rw [upd_ne hb] at e
      by_cases hm : b ∈ as
      · obtain ⟨j, hj⟩ := List.mem_iff_getElem?.mp hm
        have jl : j < as.length := (List.getElem?_eq_some_iff.mp hj).1
        have ex : xs[j]? = some xs[j] := List.getElem?_eq_getElem (by omega)
        have ey : ys[j]? = some ys[j] := List.getElem?_eq_getElem (by omega)
        rw [pairUp_at G.up hj ex ey] at e
        cases e
        obtain ⟨x, y, p1, p2, p3⟩ := G.at_ j b hj
        obtain ⟨ux, eux, rux⟩ := v1.get ex
        obtain ⟨uy, euy, ruy⟩ := v2.get ey
        have ex2 : x = ux := by
          have : its.toArray[j]? = its[j]? := by simp
          rw [this, eux] at p1
          exact (Option.some.inj p1).symm
        have ey2 : y = uy := by
          have : its2.toArray[j]? = its2[j]? := by simp
          rw [this, euy] at p2
          exact (Option.some.inj p2).symm
        subst ex2 ey2
        exact ⟨by rw [sizeLine_eq]; exact (by decide : 2 ≤ 16777216), [x, y], .cons rux (.cons ruy .nil), _, p3, rfl, _, rfl⟩
      · rw [pairUp_out hm, n] at e
        cases e
end Zl
namespace Sv
open PySem PySem.Spec PyProof.Rows L2
def top (i : Nat) : Stmt := PySem.Challenge.pw_shownviews_k00_errors_and_their_fields.main.body.getD i (.Pass ⟨0, 0, 0, 0⟩)
abbrev sHand : Stmt := top 46
abbrev sDraw : Stmt := top 47
abbrev sSome : Stmt := top 48
abbrev FnP (K : PySem.W.Frag) (x : Str) (st : Stmt) (f : Addr) (fd : FuncData) : Prop := FunD K x x (defArgs st) (defBody st) (defScope st) [] [] f fd
theorem tst {c : Bool} {A B : Prop} (h1 : c = true → A) (h2 : c = false → B) : if c = true then A else B := by
  cases c with
  | true => exact iteT (h1 rfl)
  | false => exact iteF (h2 rfl)
theorem mod64 (x : Int) {m : Int} (h : 0 < m) (h2 : m < 2 ^ 62) : -(2 ^ 64) < x % m ∧ x % m < 2 ^ 64 := by
  have h1 := Int.emod_nonneg x (show m ≠ 0 by omega)
  have h3 := Int.emod_lt_of_pos x h
  exact ⟨by omega, by omega⟩
/-- all but the object at a is as it was -/
def Keep (a : Addr) (H H' : Hp) : Prop := ∀ b o, b ≠ a → H b = some o → H' b = some o
theorem Keep.refl {a : Addr} {H : Hp} : Keep a H H := fun _ _ _ h => h
theorem Keep.trans {a : Addr} {H H1 H2 : Hp} (x : Keep a H H1) (y : Keep a H1 H2) : Keep a H H2 := fun b o n h => y b o n (x b o n h)
theorem Keep.upd {a : Addr} {H H1 : Hp} {o : HO} (x : Keep a H H1) : Keep a H (upd H1 a o) := fun b u n h => by
  rw [upd_ne n]
  exact x b u n h
theorem Keep.new {a p : Addr} {H H1 : Hp} {o : HO} (x : Keep a H H1) (hp : H p = none) : Keep a H (L2.upd H1 p o) := fun b u n h => by
  rw [upd_ne (ne_of_none h hp)]
  exact x b u n h
/-- the hand of the draws: what stands at a -/
structure Hand (H : Hp) (a c : Addr) (cs : List Int) (i b sd n : Int) : Prop where
  at_ : H a = some (.lst [.ref c, .int i, .int b, .int sd, .int n])
  cells : H c = some (.lst (cs.map V.int))
  len : cs.length ≤ 63
  pos : ∀ x ∈ cs, 0 ≤ x
  i0 : 0 ≤ i
  b0 : 0 ≤ b
  s0 : 0 ≤ sd
  n0 : 0 ≤ n
def HandP (H : Hp) (a : Addr) : Prop := ∃ c cs i b sd n, Hand H a c cs i b sd n
theorem Hand.ne {H : Hp} {a c : Addr} {cs : List Int} {i b sd n : Int} (h : Hand H a c cs i b sd n) : c ≠ a := ne_of h.cells h.at_ (by
  intro z
  injection z with z
  cases cs with
  | nil => cases z
  | cons x r => cases z)
theorem HandP.keep {a p : Addr} {H H' : Hp} (h : HandP H a) (k : ∀ b o, H b = some o → H' b = some o) : HandP H' a := by
  obtain ⟨c, cs, i, b, sd, n, x⟩ := h
  exact ⟨c, cs, i, b, sd, n, k _ _ x.at_, k _ _ x.cells, x.len, x.pos, x.i0, x.b0, x.s0, x.n0⟩
section
variable {P : Program} {w : World} {K : PySem.W.Frag} {mg : Str → Option Value} {base : Heap}
/-! ### the hand -/
def spHand (K : PySem.W.Frag) : Sp := fun vs H Q _ => ∃ (a : Addr) (ns : List Int), vs = [.ref a] ∧ SqL K H a (ns.map V.int) ∧ ns.length ≤ 63 ∧ ∀ H' p, Same H H' → H p = none → HandP H' p → Q (.ref p) H'
theorem scHand : FnScope ["script", "cells", "cell"] ["script"] (defScope sHand) := ⟨rfl, rfl, rfl, by decide +kernel, rfl, by decide +kernel, by decide +kernel⟩
theorem cut63 {α : Type} (f : α → V) (ns : List α) (h : ns.length ≤ 63) : cutV (ns.map f) none (some 63) = ns.map f := by
  unfold cutV
  rw [HT.sIx_none]
  have e : HT.sIx (ns.map f).length (ns.map f).length (some 63) = min 63 (ns.map f).length := HT.sIx_nat _ _ 63
  rw [e, List.length_map, show min 63 ns.length = ns.length by omega]
  show ((ns.map f).drop 0).take (ns.length - 0) = _
  rw [List.drop_zero, Nat.sub_zero]
  exact List.take_of_length_le (by rw [List.length_map]; exact Nat.le_refl _)
def absI (n : Int) : Int := if n < 0 then -n else n
theorem ok_hand {f : Addr} {fd : FuncData} (F : FnP K "_law_hand" sHand f fd) (m1 : mg "abs" = none) (m2 : mg "int" = none) (m3 : mg "len" = none) : FnOk P w K mg base CX0 1 f fd ["script"] (spHand K) := by
  refine F.ok scHand (fun vs H Q E h => ?_) (fun cdv A outer s H vs Q E hr h => ?_)
  · obtain ⟨a, ns, rfl, _⟩ := h
    rfl
  · obtain ⟨a, ns, rfl, hS, hl, q⟩ := h
    refine ⟨_, (pss_cons (ps_setLc (i := 1) (own := [("cell", 2)]) (g := gName 2) (tt := tYes) rfl scHand.nd rfl rfl (sw_true rfl rfl rfl (by decide +kernel)) (pi_list (pe_slice sl_list (pv 0) po_none (po_some pe_int))) (blkOk_by (N := ["script", "cells", "cell"]) (sc := defScope sHand) (by decide +kernel)) (fun _ _ _ _ _ => pg_name (i := 2) scHand.nd rfl (Or.inl rfl)) (fun _ _ _ _ _ => pts_nil) (fun _ _ _ _ _ => (pe_callB call_abs (by rfl) m1 (by decide +kernel) (pa_cons (pe_callTy call_int1 (by rfl) m2 (by decide +kernel) (pa_cons (pv 2) pa_nil)) pa_nil))))
      (pss_one (ps_ret (pe_lst (pa_cons (pv 1) (pa_cons pe_int (pa_cons pe_int (pa_cons (pe_op op_add pe_int (pe_op op_mul pe_int (pe_callB call_len_seq (by rfl) m3 PySem.boot_len (pa_cons (pv 1) pa_nil)))) (pa_cons pe_int pa_nil))))))))), ?_⟩
    refine ⟨_, rfl, _, rfl, a, _, rfl, hS, fun p np => ?_⟩
    rw [show cutV (ns.map V.int) none (some 63) = ns.map V.int from cut63 V.int ns hl]
    refine ⟨p, rfl, ⟨_, SqL.of upd_same⟩, fun D nD => ?_⟩
    have nDp : D ≠ p := fun e => by
      rw [e, upd_same] at nD
      cases nD
    have nD0 : H D = none := by rw [upd_ne nDp] at nD; exact nD
    refine lc_list (xs := ns.map V.int) (fun i H' => H' = upd (upd H p (.lst (ns.map V.int))) D (.lst (((ns.map absI).take i).map V.int))) rfl (fun i H' _ e => ?_) (fun i x H' hx e => ?_) (fun H' e => ?_)
    · rw [e]
      exact SqL.of (by rw [upd_ne nDp.symm, upd_same])
    · subst e
      obtain ⟨n, hn, rfl⟩ : ∃ n, ns[i]? = some n ∧ x = V.int n := by
        rw [List.getElem?_map] at hx
        obtain ⟨n, h1, h2⟩ := Option.map_eq_some_iff.mp hx
        exact ⟨n, h1, h2.symm⟩
      have hlt : i < ns.length := (List.getElem?_eq_some_iff.mp hn).1
      refine ⟨rfl, _, rfl, .inl ⟨_, rfl, ?_⟩⟩
      refine ⟨_, rfl, _, upd_same, small1000 (by rw [List.length_map, List.length_take]; omega), ?_⟩
      rw [upd_upd]
      congr 2
      rw [List.take_add_one, List.getElem?_map, hn, List.map_append]
      rfl
    · subst e
      refine ⟨_, rfl, _, rfl, D, _, rfl, .inl (SqL.of upd_same), _, _, rfl, rfl, .inl ⟨by decide, by decide⟩, _, _, rfl, rfl, (by rw [sizeLine_eq]; exact (by decide : 5 ≤ 16777216)), fun hp nh => ?_⟩
      have eT : ((ns.map absI).take (ns.map V.int).length) = ns.map absI := List.take_of_length_le (by rw [List.length_map, List.length_map]; exact Nat.le_refl _)
      rw [eT] at nh ⊢
      have ph : hp ≠ D := fun e => by
        rw [e, upd_same] at nh
        cases nh
      have php : hp ≠ p := fun e => by
        rw [e, upd_ne nDp.symm, upd_same] at nh
        cases nh
      have nh0 : H hp = none := by rw [upd_ne ph, upd_ne php] at nh; exact nh
      refine q _ hp (fun b o e => ?_) nh0 ⟨D, ns.map absI, 0, 0, _, 0, upd_same, by rw [upd_ne ph.symm]; exact upd_same, by rw [List.length_map]; exact hl, fun x hx => ?_, by decide, by decide, ?_, by decide⟩
      · rw [upd_ne (ne_of_none e nh0), upd_ne (ne_of_none e nD0), upd_ne (ne_of_none e np)]
        exact e
      · obtain ⟨n, _, rfl⟩ := List.mem_map.mp hx
        unfold absI
        split <;> omega
      · omega
def spDraw : Sp := fun vs H Q _ => ∃ (a : Addr) (m : Int), vs = [.ref a, .int m] ∧ HandP H a ∧ 0 < m ∧ m < 1073741824 ∧ ∀ (d : Int) (H' : Hp), 0 ≤ d → d < m → HandP H' a → Keep a H H' → Q (.int d) H'
theorem scDraw : FnScope ["hand", "many", "cell", "digit", "number"] ["hand", "many"] (defScope sDraw) := ⟨rfl, rfl, rfl, by decide +kernel, rfl, by decide +kernel, by decide +kernel⟩
theorem ok_draw {f : Addr} {fd : FuncData} (F : FnP K "_law_draw" sDraw f fd) (m2 : mg "int" = none) (m3 : mg "len" = none) : FnOk P w K mg base CX0 1 f fd ["hand", "many"] spDraw := by
  refine F.ok scDraw (fun vs H Q E h => ?_) (fun cdv A outer s H vs Q E hr h => ?_)
  · obtain ⟨a, m, rfl, _⟩ := h
    rfl
  · obtain ⟨a, m, rfl, hh, hm, hm2, q⟩ := h
    refine ⟨_, (C8.pss_cut (ps_if (PW.pt (pw_and (pt_cmpR op_eq (pe_ix ix_list (pv 0) pe_int (fun _ _ => rfl)) pe_int (nomark _)) (pw_and1 (pt_cmpR op_lt (pe_ix ix_list (pv 0) pe_int (fun _ _ => rfl)) (pe_callB call_len_seq (by rfl) m3 PySem.boot_len (pa_cons (pe_ix ix_list (pv 0) pe_int (fun _ _ => rfl)) pa_nil)) (nomark _))))) (pss_cons (ps_set (i := 2) scDraw.nd rfl (Or.inl rfl) (pe_ix ix_list (pe_ix ix_list (pv 0) pe_int (fun _ _ => rfl)) (pe_ix ix_list (pv 0) pe_int (fun _ _ => rfl)) (fun _ _ => rfl)))
      (pss_cons (ps_asg (pe_op op_add (pe_ix ix_list (pv 0) pe_int (fun _ _ => rfl)) pe_int) (pg_sub (pv 0) pe_int set_list))
      (pss_cons (ps_asg (pe_op op_mod (pe_callTy call_int1 (by rfl) m2 (by decide +kernel) (pa_cons (pe_op op_add (pe_op op_add (pe_op op_mul (pe_ix ix_list (pv 0) pe_int (fun _ _ => rfl)) pe_int) (pv 2)) pe_int) pa_nil)) pe_int) (pg_sub (pv 0) pe_int set_list))
      (pss_one (ps_if (pt_cmpR op_ge (pv 2) (pe_op op_pow pe_int pe_int) (nomark _)) (pss_one (ps_asg (pv 2) (pg_sub (pv 0) pe_int set_list))) pss_nil))))) pss_nil)
      (pss_cons (ps_if (pt_cmpR op_gt (pe_ix ix_list (pv 0) pe_int (fun _ _ => rfl)) pe_int (nomark _)) (pss_cons (ps_set (i := 3) scDraw.nd rfl (Or.inl rfl) (pe_op op_mod (pe_callTy call_int1 (by rfl) m2 (by decide +kernel) (pa_cons (pe_ix ix_list (pv 0) pe_int (fun _ _ => rfl)) pa_nil)) (pv 1)))
      (pss_cons (ps_asg (pe_op op_fdiv (pe_ix ix_list (pv 0) pe_int (fun _ _ => rfl)) (pv 1)) (pg_sub (pv 0) pe_int set_list))
      (pss_one (ps_ret (pv 3))))) pss_nil)
      (pss_cons (ps_asg (pe_op op_add (pe_ix ix_list (pv 0) pe_int (fun _ _ => rfl)) pe_int) (pg_sub (pv 0) pe_int set_list))
      (pss_cons (ps_set (i := 4) scDraw.nd rfl (Or.inl rfl) (pe_op op_mod (pe_callTy call_int1 (by rfl) m2 (by decide +kernel) (pa_cons (pe_op op_mul (pe_callTy call_int1 (by rfl) m2 (by decide +kernel) (pa_cons (pe_op op_add (pe_ix ix_list (pv 0) pe_int (fun _ _ => rfl)) (pe_op op_mul pe_int (pe_ix ix_list (pv 0) pe_int (fun _ _ => rfl)))) pa_nil)) pe_int) pa_nil)) pe_int))
      (pss_cons (ps_set (i := 4) scDraw.nd rfl (Or.inl rfl) (pe_op op_mod (pe_callTy call_int1 (by rfl) m2 (by decide +kernel) (pa_cons (pe_op op_mul (pv 4) (pe_op op_add (pe_op op_fdiv (pv 4) pe_int) pe_int)) pa_nil)) pe_int))
      (pss_cons (ps_set (i := 4) scDraw.nd rfl (Or.inl rfl) (pe_op op_mod (pe_callTy call_int1 (by rfl) m2 (by decide +kernel) (pa_cons (pe_op op_mul (pv 4) (pe_op op_add (pe_op op_fdiv (pv 4) pe_int) pe_int)) pa_nil)) pe_int))
      (pss_one (ps_ret (pe_op op_mod (pe_callTy call_int1 (by rfl) m2 (by decide +kernel) (pa_cons (pe_op op_fdiv (pv 4) pe_int) pa_nil)) (pv 1)))))))))), ?_⟩
    refine ⟨fun σ' H' => ∃ x, σ' = [some (.ref a), some (.int m), x, none, none] ∧ HandP H' a ∧ Keep a H H', ?_, fun σ' H' hM => ?_⟩
    · obtain ⟨c, cs, i, b, sd, n, h⟩ := hh
      have hat := h.at_
      refine ⟨_, rfl, a, _, _, _, rfl, rfl, SqL.of hat, atI_nat (j := 2) rfl, rfl, _, rfl, tst (fun e1 => ?_) fun _ => ⟨none, rfl, ⟨c, cs, i, b, sd, n, h⟩, Keep.refl⟩⟩
      refine ⟨_, rfl, a, _, _, _, rfl, rfl, SqL.of hat, atI_nat (j := 1) rfl, _, rfl, a, _, _, _, rfl, rfl, SqL.of hat, atI_nat (j := 0) rfl, c, _, rfl, .inl (SqL.of h.cells), _, _, rfl, rfl, _, rfl, tst (fun e2 => ?_) fun _ => ⟨none, rfl, ⟨c, cs, i, b, sd, n, h⟩, Keep.refl⟩⟩
      have hi : i < (cs.length : Int) := by
        have z := of_decide_eq_true e2
        rw [List.length_map] at z
        exact z
      have hi0 := h.i0
      obtain ⟨j, rfl⟩ : ∃ j : Nat, i = (j : Int) := ⟨i.toNat, by omega⟩
      have hj : j < cs.length := by omega
      obtain ⟨x, hx⟩ : ∃ x, cs[j]? = some x := ⟨cs[j], List.getElem?_eq_getElem hj⟩
      have x0 : 0 ≤ x := h.pos x (List.mem_of_getElem? hx)
      have hxm : (cs.map V.int)[j]? = some (V.int x) := by rw [List.getElem?_map, hx]; rfl
      have cne := h.ne
      -- cell = hand[0][hand[1]]
      refine ⟨_, rfl, a, _, _, _, rfl, rfl, SqL.of hat, atI_nat (j := 0) rfl, _, rfl, a, _, _, _, rfl, rfl, SqL.of hat, atI_nat (j := 1) rfl, c, _, _, _, rfl, rfl, SqL.of h.cells, atI_nat hxm, ?_⟩
      -- hand[1] = hand[1] + 1
      refine ⟨_, rfl, a, _, _, _, rfl, rfl, SqL.of hat, atI_nat (j := 1) rfl, _, _, rfl, rfl, _, rfl, a, _, _, 1, rfl, rfl, hat, rfl, ?_⟩
      -- hand[3] = int(hand[3] * 69621 + cell + 83) % 2147483629
      refine ⟨_, rfl, a, _, _, _, rfl, rfl, SqL.of upd_same, atI_nat (j := 3) rfl, _, _, rfl, rfl, .inr ⟨by decide, by decide⟩, _, rfl, _, _, rfl, rfl, _, _, rfl, rfl, .inl ⟨_, rfl, _, _, rfl, rfl, (by show (0 : Int) < 2147483629; decide), _, rfl, a, _, _, 3, rfl, rfl, upd_same, rfl, ?_⟩⟩
      -- if cell >= 10 ** 18
      refine ⟨_, rfl, _, _, rfl, rfl, ⟨by decide, by decide, by decide⟩, _, _, rfl, rfl, _, rfl, tst (fun e3 => ?_) fun _ => ?_⟩
      · refine ⟨_, rfl, _, rfl, a, _, _, 2, rfl, rfl, upd_same, rfl, some (V.int x), rfl, ⟨c, cs, ((j : Int) + 1), x, _, n, upd_same, ?_, h.len, h.pos, by omega, x0, Int.emod_nonneg _ (by decide), h.n0⟩, ((Keep.refl.upd).upd).upd⟩
        rw [upd_ne cne, upd_ne cne, upd_ne cne]
        exact h.cells
      · refine ⟨some (V.int x), rfl, ⟨c, cs, ((j : Int) + 1), b, _, n, upd_same, ?_, h.len, h.pos, by omega, h.b0, Int.emod_nonneg _ (by decide), h.n0⟩, (Keep.refl.upd).upd⟩
        rw [upd_ne cne, upd_ne cne]
        exact h.cells
    · obtain ⟨x, rfl, ⟨c, cs, i, b, sd, n, h⟩, kp⟩ := hM
      have hat := h.at_
      have cne := h.ne
      refine ⟨_, rfl, a, _, _, _, rfl, rfl, SqL.of hat, atI_nat (j := 2) rfl, _, _, rfl, rfl, _, rfl, tst (fun e1 => ?_) fun _ => ?_⟩
      · -- digit = int(hand[2]) % many; hand[2] = hand[2] // many; return digit
        refine ⟨_, rfl, a, _, _, _, rfl, rfl, SqL.of hat, atI_nat (j := 2) rfl, .inl ⟨_, rfl, _, rfl, _, _, rfl, rfl, hm, ?_⟩⟩
        refine ⟨_, rfl, a, _, _, _, rfl, rfl, SqL.of hat, atI_nat (j := 2) rfl, _, rfl, _, _, rfl, rfl, ⟨hm, hm2⟩, _, rfl, a, _, _, 2, rfl, rfl, hat, rfl, ?_⟩
        refine ⟨_, rfl, ?_⟩
        refine q _ _ (Int.emod_nonneg _ (by omega)) (Int.emod_lt_of_pos _ hm) ⟨c, cs, i, b / m, sd, n, upd_same, by rw [upd_ne cne]; exact h.cells, h.len, h.pos, h.i0, Int.ediv_nonneg h.b0 (by omega), h.s0, h.n0⟩ kp.upd
      · -- hand[4] = hand[4] + 1
        refine ⟨_, rfl, a, _, _, _, rfl, rfl, SqL.of hat, atI_nat (j := 4) rfl, _, _, rfl, rfl, _, rfl, a, _, _, 4, rfl, rfl, hat, rfl, ?_⟩
        -- number = int(int(hand[3] + 7919 * hand[4]) * 48271) % 2147483647
        refine ⟨_, rfl, a, _, _, _, rfl, rfl, SqL.of upd_same, atI_nat (j := 3) rfl, _, rfl, a, _, _, _, rfl, rfl, SqL.of upd_same, atI_nat (j := 4) rfl, _, _, rfl, rfl, .inl ⟨by decide, by decide⟩, _, _, rfl, rfl, .inl ⟨_, rfl, _, _, rfl, rfl, .inr ⟨by decide, by decide⟩, .inl ⟨_, rfl, _, _, rfl, rfl, (by show (0 : Int) < 2147483647; decide), ?_⟩⟩⟩
        -- number = int(number * (number // 1009 + 69621)) % 2147483647
        refine ⟨_, rfl, _, rfl, _, _, rfl, rfl, ⟨by decide, by decide⟩, _, _, rfl, rfl, _, _, rfl, rfl, .inl (mod64 _ (by decide) (by decide)), .inl ⟨_, rfl, _, _, rfl, rfl, (by show (0 : Int) < 2147483647; decide), ?_⟩⟩
        -- number = int(number * (number // 2003 + 40692)) % 2147483399
        refine ⟨_, rfl, _, rfl, _, _, rfl, rfl, ⟨by decide, by decide⟩, _, _, rfl, rfl, _, _, rfl, rfl, .inl (mod64 _ (by decide) (by decide)), .inl ⟨_, rfl, _, _, rfl, rfl, (by show (0 : Int) < 2147483399; decide), ?_⟩⟩
        -- return int(number // 16) % many
        refine ⟨_, rfl, _, _, rfl, rfl, ⟨by decide, by decide⟩, .inl ⟨_, rfl, _, rfl, _, _, rfl, rfl, hm, ?_⟩⟩
        refine q _ _ (Int.emod_nonneg _ (by omega)) (Int.emod_lt_of_pos _ hm) ⟨c, cs, i, b, sd, n + 1, upd_same, by rw [upd_ne cne]; exact h.cells, h.len, h.pos, h.i0, h.b0, h.s0, by have := h.n0; omega⟩ kp.upd

/-- a def of the text that keeps its promise, wherever it stands -/
def Df (P : Program) (w : World) (K : PySem.W.Frag) (mg : Str → Option Value) (base : Heap) (x : Str) (k : Nat) (ps : List Str) (sp : Sp) : Prop :=
  ∃ (f : Addr) (fd : FuncData), mg x = some (.ref f) ∧ PySem.W.keepIn K (.ref f) = true ∧ Binds K fd ps [] ∧ FnOk P w K mg base CX0 k f fd ps sp
theorem pe_df {X : Cx} {x : Str} {k j : Nat} {ps : List Str} {sp : Sp} {e : Expr} {es : List Expr} {ta : TA} {p pos : Pos} (D : Df X.prog X.w X.K X.mg X.base x k ps sp) (hr : Room j X.A) (hj : k ≤ j) (ha : PA X (e :: es) ta) (hg : Gl X x := by rfl)
    (hdb : (x == ("__debug__" : Str)) = false := by decide) (he : starEach (e :: es) X.env = (false, eval e X.env) :: starEach es X.env := by rfl) (hpl : (backTo pos (starEach es X.env)).any (·.1) = false := by rfl) :
    PE X (.Call (.Name x p) (e :: es) [] pos) (tCall sp [] E0 ta) := by
  obtain ⟨f, fd, hm, hk, hb, F⟩ := D
  exact pe_call F (hr.mono hj) hg hm hk hb .nil pass0 ha hdb he hpl
def spSome (K : PySem.W.Frag) : Sp := fun vs H Q _ => ∃ (a l : Addr) (xs : List V), vs = [.ref a, .ref l] ∧ HandP H a ∧ l ≠ a ∧ SqL K H l xs ∧ 0 < xs.length ∧ xs.length ≤ 1000 ∧ ∀ (x : V) (H' : Hp), x ∈ xs → HandP H' a → Keep a H H' → Q x H'
theorem scSome : FnScope ["hand", "things"] ["hand", "things"] (defScope sSome) := ⟨rfl, rfl, rfl, by decide +kernel, rfl, by decide +kernel, by decide +kernel⟩
theorem SqL.keep {a l : Addr} {H H' : Hp} {xs : List V} (k : Keep a H H') (n : l ≠ a) (h : SqL K H l xs) : SqL K H' l xs := by
  rcases h with (h | ⟨o, h⟩) | h
  · exact .inl (.inl (k _ _ n h))
  · exact .inl (.inr ⟨o, k _ _ n h⟩)
  · exact .inr h
theorem ok_some {f : Addr} {fd : FuncData} (F : FnP K "_law_some" sSome f fd) (D : Df P w K mg base "_law_draw" 1 ["hand", "many"] spDraw) (m3 : mg "len" = none) : FnOk P w K mg base CX0 2 f fd ["hand", "things"] (spSome K) := by
  refine F.ok scSome (fun vs H Q E h => ?_) (fun cdv A outer s H vs Q E hr h => ?_)
  · obtain ⟨a, l, xs, rfl, _⟩ := h
    rfl
  · obtain ⟨a, l, xs, rfl, hh, hla, hS, h0, h1, q⟩ := h
    refine ⟨_, PSs.nox (pss_one (ps_ret (pe_ix ix_list (pv 1) (pe_df D hr (by decide) (pa_cons (pv 0) (pa_cons (pe_callB call_len_seq (by rfl) m3 PySem.boot_len (pa_cons (pv 1) pa_nil)) pa_nil))) (fun _ _ => rfl)))), ?_⟩
    refine ⟨_, rfl, _, rfl, _, rfl, l, _, rfl, .inl hS, a, _, rfl, hh, by omega, by omega, fun d H' d0 d1 hh' kp => ?_⟩
    obtain ⟨j, rfl⟩ : ∃ j : Nat, d = (j : Int) := ⟨d.toNat, by omega⟩
    have hj : j < xs.length := by omega
    exact ⟨l, _, _, xs[j], rfl, rfl, SqL.keep kp hla hS, atI_nat (List.getElem?_eq_getElem hj), q _ _ (List.getElem_mem hj) hh' kp⟩


end
end Sv
namespace Sv
open PySem PySem.Spec PyProof.Rows L2 Gd Hd Xv
def plainN : List Str := ("BadDeed" : Str) :: ("Down" : Str) :: ("Here" : Str) :: ("NoArea" : Str) :: ("NoBook" : Str) :: ("NoClosed" : Str) :: ("NoDeed" : Str) :: ("NoEdit" : Str) :: ("NoFact" : Str) :: ("NoFacts" : Str) :: ("NoLetter" : Str) :: ("NoLife" : Str) :: ("NoLot" : Str) :: ("NoMark" : Str) :: ("NoName" : Str) :: ("NoNumber" : Str) :: ("NoPattern" : Str) :: ("NoPlan" : Str) :: ("NoPrime" : Str) :: ("NoRoot" : Str) :: ("NoRow" : Str) :: ("NoRows" : Str) :: ("NoRule" : Str) :: ("NoSchema" : Str) :: ("NoShowing" : Str) :: ("NoStore" : Str) :: ("NoStretch" : Str) :: ("NoTables" : Str) :: ("NoText" : Str) :: ("NoView" : Str) :: ("NotHere" : Str) :: ("OtherPrime" : Str) :: ("OtherSchema" : Str) :: ("TooSmall" : Str) :: ("Unsafe" : Str) :: []
/-- the classes with a field -/
def fillN : List (Str × Str) := [("BadDisk", "part"), ("BadKept", "area"), ("BadStore", "index"), ("BadText", "place"), ("Barred", "bar"), ("Full", "area"), ("NotYet", "lacking"), ("TooMany", "most")]
def cls : List Str := ("BadDeed" : Str) :: ("BadDisk" : Str) :: ("BadKept" : Str) :: ("BadStore" : Str) :: ("BadText" : Str) :: ("Barred" : Str) :: ("Down" : Str) :: ("Full" : Str) :: ("Here" : Str) :: ("NoArea" : Str) :: ("NoBook" : Str) :: ("NoClosed" : Str) :: ("NoDeed" : Str) :: ("NoEdit" : Str) :: ("NoFact" : Str) :: ("NoFacts" : Str) :: ("NoLetter" : Str) :: ("NoLife" : Str) :: ("NoLot" : Str) :: ("NoMark" : Str) :: ("NoName" : Str) :: ("NoNumber" : Str) :: ("NoPattern" : Str) :: ("NoPlan" : Str) :: ("NoPrime" : Str) :: ("NoRoot" : Str) :: ("NoRow" : Str) :: ("NoRows" : Str) :: ("NoRule" : Str) :: ("NoSchema" : Str) :: ("NoShowing" : Str) :: ("NoStore" : Str) :: ("NoStretch" : Str) :: ("NoTables" : Str) :: ("NoText" : Str) :: ("NoView" : Str) :: ("NotHere" : Str) :: ("NotYet" : Str) :: ("OtherPrime" : Str) :: ("OtherSchema" : Str) :: ("TooMany" : Str) :: ("TooSmall" : Str) :: ("Unsafe" : Str) :: []
def f0 (K : PySem.W.Frag) : Addr := He.ma K (He.ga K "ViewError") "__init__"
def chk (K : PySem.W.Frag) : Bool :=
  (cls.all fun x => He.eqO (PySem.W.nsIn K mainGlobals x) (some (some (.ref (He.ga K x)))) && xclB K (He.ga K x)) &&
  ((cls.all fun x => cls.all fun y => decide (PySem.W.kitOne K (.ref (He.ga K x)) (.ref (He.ga K y)) = some (decide (x = y)))) &&
  ((cls.all fun x => decide (PySem.W.kitOne K (.ref (He.ga K x)) (.ref (He.ga K "ViewError")) = some true) && decide (PySem.W.kitOne K (.ref (He.ga K x)) (.type "ValueError") = some true)) &&
  ((cls.all fun y => decide (PySem.W.kitOne K (.type "ValueError") (.ref (He.ga K y)) = some false)) && (decide (PySem.W.kitOne K (.type "ValueError") (.ref (He.ga K "ViewError")) = some false) &&
  ((plainN.all fun x => He.eqO (PySem.W.findIn K (.ref (He.ga K x)) "__init__") (some (some (.ref (f0 K))))) && (decide (PySem.W.typeIn K (.ref (f0 K)) = some (.type "function")) &&
  (fillN.all fun q => He.eqO (PySem.W.findIn K (.ref (He.ga K q.1)) "__init__") (some (some (.ref (He.ma K (He.ga K q.1) "__init__")))) && (decide (PySem.W.typeIn K (.ref (He.ma K (He.ga K q.1) "__init__")) = some (.type "function")) &&
    He.eqO (PySem.W.findIn K (.ref (He.ga K q.1)) q.2) (some none)))))))))
structure Tx (K : PySem.W.Frag) (mg : Str → Option Value) : Prop where
  glo : ∀ x ∈ cls, mg x = some (.ref (He.ga K x))
  xcl : ∀ x ∈ cls, XCl K (He.ga K x)
  kk : ∀ x ∈ cls, ∀ y ∈ cls, PySem.W.kitOne K (.ref (He.ga K x)) (.ref (He.ga K y)) = some (decide (x = y))
  kv : ∀ x ∈ cls, PySem.W.kitOne K (.ref (He.ga K x)) (.ref (He.ga K "ViewError")) = some true
  ke : ∀ x ∈ cls, PySem.W.kitOne K (.ref (He.ga K x)) (.type "ValueError") = some true
  kb : ∀ y ∈ cls, PySem.W.kitOne K (.type "ValueError") (.ref (He.ga K y)) = some false
  kw : PySem.W.kitOne K (.type "ValueError") (.ref (He.ga K "ViewError")) = some false
  i0 : ∀ x ∈ plainN, PySem.W.findIn K (.ref (He.ga K x)) "__init__" = some (some (.ref (f0 K)))
  t0 : PySem.W.typeIn K (.ref (f0 K)) = some (.type "function")
  i1 : ∀ q ∈ fillN, PySem.W.findIn K (.ref (He.ga K q.1)) "__init__" = some (some (.ref (He.ma K (He.ga K q.1) "__init__")))
  t1 : ∀ q ∈ fillN, PySem.W.typeIn K (.ref (He.ma K (He.ga K q.1) "__init__")) = some (.type "function")
  no : ∀ q ∈ fillN, PySem.W.findIn K (.ref (He.ga K q.1)) q.2 = some none
theorem tx_ok {K : PySem.W.Frag} {mg : Str → Option Value} {h : Heap} (X : K.In h) (G : h.Ns mainGlobals mg) (c : chk K = true) : Tx K mg := by
  obtain ⟨c1, c⟩ := He.ba c
  obtain ⟨c2, c⟩ := He.ba c
  obtain ⟨c3, c⟩ := He.ba c
  obtain ⟨c4, c⟩ := He.ba c
  obtain ⟨c5, c⟩ := He.ba c
  obtain ⟨c6, c⟩ := He.ba c
  obtain ⟨c7, c8⟩ := He.ba c
  have l1 := List.all_eq_true.mp c1
  have l3 := List.all_eq_true.mp c3
  have l8 := List.all_eq_true.mp c8
  exact {
    glo := fun x hx => PySem.W.mg_of X G (He.eqO_ok (He.ba (l1 x hx)).1)
    xcl := fun x hx => xcl_ok (He.ba (l1 x hx)).2
    kk := fun x hx y hy => of_decide_eq_true (List.all_eq_true.mp (List.all_eq_true.mp c2 x hx) y hy)
    kv := fun x hx => of_decide_eq_true (He.ba (l3 x hx)).1
    ke := fun x hx => of_decide_eq_true (He.ba (l3 x hx)).2
    kb := fun y hy => of_decide_eq_true (List.all_eq_true.mp c4 y hy)
    kw := of_decide_eq_true c5
    i0 := fun x hx => He.eqO_ok (List.all_eq_true.mp c6 x hx)
    t0 := of_decide_eq_true c7
    i1 := fun q hq => He.eqO_ok (He.ba (l8 q hq)).1
    t1 := fun q hq => of_decide_eq_true (He.ba (He.ba (l8 q hq)).2).1
    no := fun q hq => He.eqO_ok (He.ba (He.ba (l8 q hq)).2).2 }
section
variable {P : Program} {w : World} {K : PySem.W.Frag} {mg : Str → Option Value} {base : Heap}
/-! ### the classes' own __init__ -/
abbrev FnQ (K : PySem.W.Frag) (q : Str) (st : Stmt) (f : Addr) (fd : FuncData) : Prop := FunD K "__init__" q (defArgs st) (defBody st) (defScope st) [] [] f fd
def sp0 : Sp := fun vs H Q _ => ∃ a : Addr, vs = [.ref a] ∧ Q .non H
abbrev sInit0 : Stmt := inClass (top 1) 0
theorem ok_init0 {f : Addr} {fd : FuncData} (F : FnQ K "ViewError.__init__" sInit0 f fd) : FnOk P w K mg base CX0 1 f fd ["self"] sp0 := by
  refine F.ok (N := ["self"]) ⟨rfl, rfl, rfl, by decide +kernel, rfl, by decide +kernel, by decide +kernel⟩ (fun vs H Q E h => ?_) (fun cdv A outer s H vs Q E hr h => ?_)
  · obtain ⟨a, rfl, _⟩ := h
    rfl
  · obtain ⟨a, rfl, q⟩ := h
    exact ⟨_, pss_one ps_pass, q⟩
def sp1 (K : PySem.W.Frag) (f : Str) : Sp := fun vs H Q _ => ∃ (a C : Addr) (v : V), vs = [.ref a, v] ∧ OexC K C ∧ PySem.W.findIn K (.ref C) f = some none ∧ H a = some (exo a C none) ∧
  ∀ dx, H dx = none → dx ≠ a → Q .non (upd (upd H dx (exd dx [(f, v)])) a (exo a C (some dx)))
abbrev sBadDisk : Stmt := inClass (top 3) 0
theorem ok_BadDisk {f : Addr} {fd : FuncData} (F : FnQ K "BadDisk.__init__" sBadDisk f fd) : FnOk P w K mg base CX0 1 f fd ["self", "part"] (sp1 K "part") := by
  refine F.ok (N := ["self", "part"]) ⟨rfl, rfl, rfl, by decide +kernel, rfl, by decide +kernel, by decide +kernel⟩ (fun vs H Q E h => ?_) (fun cdv A outer s H vs Q E hr h => ?_)
  · obtain ⟨a, C, v, rfl, _⟩ := h
    rfl
  · obtain ⟨a, C, v, rfl, T, hno, ha, q⟩ := h
    exact ⟨_, pss_one (ps_ost (pv 0) (pv 1)), _, rfl, _, rfl, a, C, rfl, T, hno, .inl ⟨ha, q⟩⟩
abbrev sBadKept : Stmt := inClass (top 4) 0
theorem ok_BadKept {f : Addr} {fd : FuncData} (F : FnQ K "BadKept.__init__" sBadKept f fd) : FnOk P w K mg base CX0 1 f fd ["self", "area"] (sp1 K "area") := by
  refine F.ok (N := ["self", "area"]) ⟨rfl, rfl, rfl, by decide +kernel, rfl, by decide +kernel, by decide +kernel⟩ (fun vs H Q E h => ?_) (fun cdv A outer s H vs Q E hr h => ?_)
  · obtain ⟨a, C, v, rfl, _⟩ := h
    rfl
  · obtain ⟨a, C, v, rfl, T, hno, ha, q⟩ := h
    exact ⟨_, pss_one (ps_ost (pv 0) (pv 1)), _, rfl, _, rfl, a, C, rfl, T, hno, .inl ⟨ha, q⟩⟩
abbrev sBadStore : Stmt := inClass (top 5) 0
theorem ok_BadStore {f : Addr} {fd : FuncData} (F : FnQ K "BadStore.__init__" sBadStore f fd) : FnOk P w K mg base CX0 1 f fd ["self", "index"] (sp1 K "index") := by
  refine F.ok (N := ["self", "index"]) ⟨rfl, rfl, rfl, by decide +kernel, rfl, by decide +kernel, by decide +kernel⟩ (fun vs H Q E h => ?_) (fun cdv A outer s H vs Q E hr h => ?_)
  · obtain ⟨a, C, v, rfl, _⟩ := h
    rfl
  · obtain ⟨a, C, v, rfl, T, hno, ha, q⟩ := h
    exact ⟨_, pss_one (ps_ost (pv 0) (pv 1)), _, rfl, _, rfl, a, C, rfl, T, hno, .inl ⟨ha, q⟩⟩
abbrev sBadText : Stmt := inClass (top 6) 0
theorem ok_BadText {f : Addr} {fd : FuncData} (F : FnQ K "BadText.__init__" sBadText f fd) : FnOk P w K mg base CX0 1 f fd ["self", "place"] (sp1 K "place") := by
  refine F.ok (N := ["self", "place"]) ⟨rfl, rfl, rfl, by decide +kernel, rfl, by decide +kernel, by decide +kernel⟩ (fun vs H Q E h => ?_) (fun cdv A outer s H vs Q E hr h => ?_)
  · obtain ⟨a, C, v, rfl, _⟩ := h
    rfl
  · obtain ⟨a, C, v, rfl, T, hno, ha, q⟩ := h
    exact ⟨_, pss_one (ps_ost (pv 0) (pv 1)), _, rfl, _, rfl, a, C, rfl, T, hno, .inl ⟨ha, q⟩⟩
abbrev sBarred : Stmt := inClass (top 7) 0
theorem ok_Barred {f : Addr} {fd : FuncData} (F : FnQ K "Barred.__init__" sBarred f fd) : FnOk P w K mg base CX0 1 f fd ["self", "bar"] (sp1 K "bar") := by
  refine F.ok (N := ["self", "bar"]) ⟨rfl, rfl, rfl, by decide +kernel, rfl, by decide +kernel, by decide +kernel⟩ (fun vs H Q E h => ?_) (fun cdv A outer s H vs Q E hr h => ?_)
  · obtain ⟨a, C, v, rfl, _⟩ := h
    rfl
  · obtain ⟨a, C, v, rfl, T, hno, ha, q⟩ := h
    exact ⟨_, pss_one (ps_ost (pv 0) (pv 1)), _, rfl, _, rfl, a, C, rfl, T, hno, .inl ⟨ha, q⟩⟩
abbrev sFull : Stmt := inClass (top 9) 0
theorem ok_Full {f : Addr} {fd : FuncData} (F : FnQ K "Full.__init__" sFull f fd) : FnOk P w K mg base CX0 1 f fd ["self", "area"] (sp1 K "area") := by
  refine F.ok (N := ["self", "area"]) ⟨rfl, rfl, rfl, by decide +kernel, rfl, by decide +kernel, by decide +kernel⟩ (fun vs H Q E h => ?_) (fun cdv A outer s H vs Q E hr h => ?_)
  · obtain ⟨a, C, v, rfl, _⟩ := h
    rfl
  · obtain ⟨a, C, v, rfl, T, hno, ha, q⟩ := h
    exact ⟨_, pss_one (ps_ost (pv 0) (pv 1)), _, rfl, _, rfl, a, C, rfl, T, hno, .inl ⟨ha, q⟩⟩
abbrev sNotYet : Stmt := inClass (top 39) 0
theorem ok_NotYet {f : Addr} {fd : FuncData} (F : FnQ K "NotYet.__init__" sNotYet f fd) : FnOk P w K mg base CX0 1 f fd ["self", "lacking"] (sp1 K "lacking") := by
  refine F.ok (N := ["self", "lacking"]) ⟨rfl, rfl, rfl, by decide +kernel, rfl, by decide +kernel, by decide +kernel⟩ (fun vs H Q E h => ?_) (fun cdv A outer s H vs Q E hr h => ?_)
  · obtain ⟨a, C, v, rfl, _⟩ := h
    rfl
  · obtain ⟨a, C, v, rfl, T, hno, ha, q⟩ := h
    exact ⟨_, pss_one (ps_ost (pv 0) (pv 1)), _, rfl, _, rfl, a, C, rfl, T, hno, .inl ⟨ha, q⟩⟩
abbrev sTooMany : Stmt := inClass (top 42) 0
theorem ok_TooMany {f : Addr} {fd : FuncData} (F : FnQ K "TooMany.__init__" sTooMany f fd) : FnOk P w K mg base CX0 1 f fd ["self", "most"] (sp1 K "most") := by
  refine F.ok (N := ["self", "most"]) ⟨rfl, rfl, rfl, by decide +kernel, rfl, by decide +kernel, by decide +kernel⟩ (fun vs H Q E h => ?_) (fun cdv A outer s H vs Q E hr h => ?_)
  · obtain ⟨a, C, v, rfl, _⟩ := h
    rfl
  · obtain ⟨a, C, v, rfl, T, hno, ha, q⟩ := h
    exact ⟨_, pss_one (ps_ost (pv 0) (pv 1)), _, rfl, _, rfl, a, C, rfl, T, hno, .inl ⟨ha, q⟩⟩

theorem pe_cls {X : Cx} {x : Str} {pos : Pos} (T : Tx X.K X.mg) (hx : x ∈ cls) (hg : Gl X x := by rfl) (hd : (x == ("__debug__" : Str)) = false := by decide) : PE X (.Name x pos) (tC (.ref (He.ga X.K x))) := pe_glob hg (T.glo x hx) rfl hd
/-! ### _law_kinds -/
abbrev sKinds : Stmt := top 49
def tIs (K : PySem.W.Frag) (ns : List Str) : TA := ns.foldr (fun y t => tCons (tCB (rIsT K) (tCons (tVar 0) (tCons (tC (.ref (He.ga K y))) tNil))) t) tNil
theorem tIs_ok {a : Addr} {t : Value} {b : Str → Bool} {σ : L2.St} {H : Hp} (hσ : σ[0]? = some (some (.ref a))) (hx : XTy K H a t) : ∀ (ns : List Str) {Q : List V → Hp → Prop}, (∀ y ∈ ns, PySem.W.kitOne K t (.ref (He.ga K y)) = some (b y)) → Q (ns.map fun y => .bl (b y)) H → tIs K ns σ H Q
  | [], Q, _, q => q
  | y :: r, Q, k, q => ⟨_, hσ, a, t, _, _, _, rfl, .own _, hx, k y List.mem_cons_self, tIs_ok hσ hx r (fun z hz => k z (List.mem_cons_of_mem _ hz)) q⟩
def spKinds (K : PySem.W.Frag) : Sp := fun vs H Q _ => ∃ (a : Addr) (t : Value) (b : Str → Bool), vs = [.ref a] ∧ XTy K H a t ∧ (∀ y ∈ cls, PySem.W.kitOne K t (.ref (He.ga K y)) = some (b y)) ∧
  ∀ H' p, Same H H' → H p = none → H' p = some (.lst (cls.map fun y => .bl (b y))) → Q (.ref p) H'
structure MidK (K : PySem.W.Frag) (H : Hp) (a : Addr) (b : Str → Bool) (n : Nat) (σ : L2.St) (H' : Hp) : Prop where
  ex : ∃ p, σ = [some (.ref a), some (.ref p)] ∧ H' p = some (.lst ((cls.take n).map fun y => .bl (b y))) ∧ H p = none ∧ Same H H'
theorem kStep {H : Hp} {a : Addr} {t : Value} {b : Str → Bool} {n m : Nat} {σ : L2.St} {H' : Hp} {D : Ends} (ns : List Str) (hx : XTy K H a t) (hk : ∀ y ∈ cls, PySem.W.kitOne K t (.ref (He.ga K y)) = some (b y)) (M : MidK K H a b n σ H')
    (e : cls.take m = cls.take n ++ ns) (hD : D.nx = MidK K H a b m) : tAsg (tOp rCat (tVar 1) (tLst (tIs K ns))) (gName 1) D σ H' := by
  obtain ⟨p, rfl, hp, hn, sm⟩ := M
  have sub : ∀ y ∈ ns, y ∈ cls := fun y hy => List.mem_of_mem_take (by rw [e]; exact List.mem_append_right _ hy)
  have lcls : cls.length = 43 := rfl
  have len : (cls.take n).length + ns.length ≤ 43 := by
    have := congrArg List.length e
    rw [List.length_append, List.length_take] at this
    omega
  refine ⟨_, rfl, tIs_ok rfl (hx.same sm) ns (fun y hy => hk y (sub y hy)) ⟨by rw [List.length_map, sizeLine_eq]; omega, fun l hl => ?_⟩⟩
  have hpl : p ≠ l := ne_of_none hp hl
  refine ⟨p, l, _, _, rfl, rfl, by rw [upd_ne hpl]; exact hp, upd_same, by rw [List.length_map, List.length_map, sizeLine_eq]; omega, fun p2 hp2 => ?_⟩
  have nl : p2 ≠ l := fun z => by
    rw [z, upd_same] at hp2
    cases hp2
  rw [upd_ne nl] at hp2
  show D.nx _ _
  rw [hD]
  have hl0 : H l = none := Same.free sm hl
  have hp0 : H p2 = none := Same.free sm hp2
  refine ⟨p2, rfl, ?_, hp0, fun c o z => ?_⟩
  · rw [upd_same, e, List.map_append]
  · rw [upd_ne (ne_of_none z hp0), upd_ne (ne_of_none z hl0)]
    exact sm c o z
theorem scKinds : FnScope ["one", "found"] ["one"] (defScope sKinds) := ⟨rfl, rfl, rfl, by decide +kernel, rfl, by decide +kernel, by decide +kernel⟩
theorem ok_kinds {f : Addr} {fd : FuncData} (F : FnP K "_law_kinds" sKinds f fd) (T : Tx K mg) (m : mg "isinstance" = none) : FnOk P w K mg base CX0 1 f fd ["one"] (spKinds K) := by
  refine F.ok scKinds (fun vs H Q E h => ?_) (fun cdv A outer s H vs Q E hr h => ?_)
  · obtain ⟨a, t, b, rfl, _⟩ := h
    rfl
  · obtain ⟨a, t, b, rfl, hx, hk, q⟩ := h
    refine ⟨_, (C8.pss_cut (ps_set (i := 1) scKinds.nd rfl (Or.inl rfl) (pe_lst (pa_cons (pe_callB call_isT (by rfl) m (by decide +kernel) (pa_cons (pv 0) (pa_cons (pe_cls T (by decide +kernel)) pa_nil))) (pa_cons (pe_callB call_isT (by rfl) m (by decide +kernel) (pa_cons (pv 0) (pa_cons (pe_cls T (by decide +kernel)) pa_nil))) (pa_cons (pe_callB call_isT (by rfl) m (by decide +kernel) (pa_cons (pv 0) (pa_cons (pe_cls T (by decide +kernel)) pa_nil))) (pa_cons (pe_callB call_isT (by rfl) m (by decide +kernel) (pa_cons (pv 0) (pa_cons (pe_cls T (by decide +kernel)) pa_nil))) pa_nil))))))
      (C8.pss_cut (ps_set (i := 1) scKinds.nd rfl (Or.inl rfl) (pe_op op_cat (pv 1) (pe_lst (pa_cons (pe_callB call_isT (by rfl) m (by decide +kernel) (pa_cons (pv 0) (pa_cons (pe_cls T (by decide +kernel)) pa_nil))) pa_nil))))
      (C8.pss_cut (ps_set (i := 1) scKinds.nd rfl (Or.inl rfl) (pe_op op_cat (pv 1) (pe_lst (pa_cons (pe_callB call_isT (by rfl) m (by decide +kernel) (pa_cons (pv 0) (pa_cons (pe_cls T (by decide +kernel)) pa_nil))) (pa_cons (pe_callB call_isT (by rfl) m (by decide +kernel) (pa_cons (pv 0) (pa_cons (pe_cls T (by decide +kernel)) pa_nil))) (pa_cons (pe_callB call_isT (by rfl) m (by decide +kernel) (pa_cons (pv 0) (pa_cons (pe_cls T (by decide +kernel)) pa_nil))) (pa_cons (pe_callB call_isT (by rfl) m (by decide +kernel) (pa_cons (pv 0) (pa_cons (pe_cls T (by decide +kernel)) pa_nil))) pa_nil)))))))
      (C8.pss_cut (ps_set (i := 1) scKinds.nd rfl (Or.inl rfl) (pe_op op_cat (pv 1) (pe_lst (pa_cons (pe_callB call_isT (by rfl) m (by decide +kernel) (pa_cons (pv 0) (pa_cons (pe_cls T (by decide +kernel)) pa_nil))) (pa_cons (pe_callB call_isT (by rfl) m (by decide +kernel) (pa_cons (pv 0) (pa_cons (pe_cls T (by decide +kernel)) pa_nil))) (pa_cons (pe_callB call_isT (by rfl) m (by decide +kernel) (pa_cons (pv 0) (pa_cons (pe_cls T (by decide +kernel)) pa_nil))) pa_nil))))))
      (C8.pss_cut (ps_set (i := 1) scKinds.nd rfl (Or.inl rfl) (pe_op op_cat (pv 1) (pe_lst (pa_cons (pe_callB call_isT (by rfl) m (by decide +kernel) (pa_cons (pv 0) (pa_cons (pe_cls T (by decide +kernel)) pa_nil))) (pa_cons (pe_callB call_isT (by rfl) m (by decide +kernel) (pa_cons (pv 0) (pa_cons (pe_cls T (by decide +kernel)) pa_nil))) (pa_cons (pe_callB call_isT (by rfl) m (by decide +kernel) (pa_cons (pv 0) (pa_cons (pe_cls T (by decide +kernel)) pa_nil))) pa_nil))))))
      (C8.pss_cut (ps_set (i := 1) scKinds.nd rfl (Or.inl rfl) (pe_op op_cat (pv 1) (pe_lst (pa_cons (pe_callB call_isT (by rfl) m (by decide +kernel) (pa_cons (pv 0) (pa_cons (pe_cls T (by decide +kernel)) pa_nil))) (pa_cons (pe_callB call_isT (by rfl) m (by decide +kernel) (pa_cons (pv 0) (pa_cons (pe_cls T (by decide +kernel)) pa_nil))) (pa_cons (pe_callB call_isT (by rfl) m (by decide +kernel) (pa_cons (pv 0) (pa_cons (pe_cls T (by decide +kernel)) pa_nil))) pa_nil))))))
      (C8.pss_cut (ps_set (i := 1) scKinds.nd rfl (Or.inl rfl) (pe_op op_cat (pv 1) (pe_lst (pa_cons (pe_callB call_isT (by rfl) m (by decide +kernel) (pa_cons (pv 0) (pa_cons (pe_cls T (by decide +kernel)) pa_nil))) (pa_cons (pe_callB call_isT (by rfl) m (by decide +kernel) (pa_cons (pv 0) (pa_cons (pe_cls T (by decide +kernel)) pa_nil))) (pa_cons (pe_callB call_isT (by rfl) m (by decide +kernel) (pa_cons (pv 0) (pa_cons (pe_cls T (by decide +kernel)) pa_nil))) pa_nil))))))
      (C8.pss_cut (ps_set (i := 1) scKinds.nd rfl (Or.inl rfl) (pe_op op_cat (pv 1) (pe_lst (pa_cons (pe_callB call_isT (by rfl) m (by decide +kernel) (pa_cons (pv 0) (pa_cons (pe_cls T (by decide +kernel)) pa_nil))) (pa_cons (pe_callB call_isT (by rfl) m (by decide +kernel) (pa_cons (pv 0) (pa_cons (pe_cls T (by decide +kernel)) pa_nil))) (pa_cons (pe_callB call_isT (by rfl) m (by decide +kernel) (pa_cons (pv 0) (pa_cons (pe_cls T (by decide +kernel)) pa_nil))) pa_nil))))))
      (C8.pss_cut (ps_set (i := 1) scKinds.nd rfl (Or.inl rfl) (pe_op op_cat (pv 1) (pe_lst (pa_cons (pe_callB call_isT (by rfl) m (by decide +kernel) (pa_cons (pv 0) (pa_cons (pe_cls T (by decide +kernel)) pa_nil))) (pa_cons (pe_callB call_isT (by rfl) m (by decide +kernel) (pa_cons (pv 0) (pa_cons (pe_cls T (by decide +kernel)) pa_nil))) (pa_cons (pe_callB call_isT (by rfl) m (by decide +kernel) (pa_cons (pv 0) (pa_cons (pe_cls T (by decide +kernel)) pa_nil))) pa_nil))))))
      (C8.pss_cut (ps_set (i := 1) scKinds.nd rfl (Or.inl rfl) (pe_op op_cat (pv 1) (pe_lst (pa_cons (pe_callB call_isT (by rfl) m (by decide +kernel) (pa_cons (pv 0) (pa_cons (pe_cls T (by decide +kernel)) pa_nil))) (pa_cons (pe_callB call_isT (by rfl) m (by decide +kernel) (pa_cons (pv 0) (pa_cons (pe_cls T (by decide +kernel)) pa_nil))) (pa_cons (pe_callB call_isT (by rfl) m (by decide +kernel) (pa_cons (pv 0) (pa_cons (pe_cls T (by decide +kernel)) pa_nil))) pa_nil))))))
      (C8.pss_cut (ps_set (i := 1) scKinds.nd rfl (Or.inl rfl) (pe_op op_cat (pv 1) (pe_lst (pa_cons (pe_callB call_isT (by rfl) m (by decide +kernel) (pa_cons (pv 0) (pa_cons (pe_cls T (by decide +kernel)) pa_nil))) (pa_cons (pe_callB call_isT (by rfl) m (by decide +kernel) (pa_cons (pv 0) (pa_cons (pe_cls T (by decide +kernel)) pa_nil))) (pa_cons (pe_callB call_isT (by rfl) m (by decide +kernel) (pa_cons (pv 0) (pa_cons (pe_cls T (by decide +kernel)) pa_nil))) pa_nil))))))
      (C8.pss_cut (ps_set (i := 1) scKinds.nd rfl (Or.inl rfl) (pe_op op_cat (pv 1) (pe_lst (pa_cons (pe_callB call_isT (by rfl) m (by decide +kernel) (pa_cons (pv 0) (pa_cons (pe_cls T (by decide +kernel)) pa_nil))) (pa_cons (pe_callB call_isT (by rfl) m (by decide +kernel) (pa_cons (pv 0) (pa_cons (pe_cls T (by decide +kernel)) pa_nil))) (pa_cons (pe_callB call_isT (by rfl) m (by decide +kernel) (pa_cons (pv 0) (pa_cons (pe_cls T (by decide +kernel)) pa_nil))) pa_nil))))))
      (C8.pss_cut (ps_set (i := 1) scKinds.nd rfl (Or.inl rfl) (pe_op op_cat (pv 1) (pe_lst (pa_cons (pe_callB call_isT (by rfl) m (by decide +kernel) (pa_cons (pv 0) (pa_cons (pe_cls T (by decide +kernel)) pa_nil))) (pa_cons (pe_callB call_isT (by rfl) m (by decide +kernel) (pa_cons (pv 0) (pa_cons (pe_cls T (by decide +kernel)) pa_nil))) (pa_cons (pe_callB call_isT (by rfl) m (by decide +kernel) (pa_cons (pv 0) (pa_cons (pe_cls T (by decide +kernel)) pa_nil))) pa_nil))))))
      (C8.pss_cut (ps_set (i := 1) scKinds.nd rfl (Or.inl rfl) (pe_op op_cat (pv 1) (pe_lst (pa_cons (pe_callB call_isT (by rfl) m (by decide +kernel) (pa_cons (pv 0) (pa_cons (pe_cls T (by decide +kernel)) pa_nil))) (pa_cons (pe_callB call_isT (by rfl) m (by decide +kernel) (pa_cons (pv 0) (pa_cons (pe_cls T (by decide +kernel)) pa_nil))) (pa_cons (pe_callB call_isT (by rfl) m (by decide +kernel) (pa_cons (pv 0) (pa_cons (pe_cls T (by decide +kernel)) pa_nil))) pa_nil))))))
      (C8.pss_cut (ps_set (i := 1) scKinds.nd rfl (Or.inl rfl) (pe_op op_cat (pv 1) (pe_lst (pa_cons (pe_callB call_isT (by rfl) m (by decide +kernel) (pa_cons (pv 0) (pa_cons (pe_cls T (by decide +kernel)) pa_nil))) pa_nil))))
      (pss_one (ps_ret (pv 1)))))))))))))))))), ?_⟩
    have hk0 : ∀ y ∈ cls.take 4, PySem.W.kitOne K t (.ref (He.ga K y)) = some (b y) := fun y hy => hk y (List.mem_of_mem_take hy)
    refine ⟨MidK K H a b 4, tIs_ok (K := K) rfl hx (cls.take 4) hk0 ⟨by rw [sizeLine_eq]; exact (by decide : 4 ≤ 16777216), fun p hp => ⟨p, rfl, upd_same, hp, fun c o z => by rw [upd_ne (ne_of_none z hp)]; exact z⟩⟩, fun σ H' M => ?_⟩
    refine ⟨MidK K H a b 5, kStep (K := K) (n := 4) (m := 5) (("BadText" : Str) :: []) hx hk M (by decide +kernel) rfl, fun σ H' M => ?_⟩
    refine ⟨MidK K H a b 9, kStep (K := K) (n := 5) (m := 9) (("Barred" : Str) :: ("Down" : Str) :: ("Full" : Str) :: ("Here" : Str) :: []) hx hk M (by decide +kernel) rfl, fun σ H' M => ?_⟩
    refine ⟨MidK K H a b 12, kStep (K := K) (n := 9) (m := 12) (("NoArea" : Str) :: ("NoBook" : Str) :: ("NoClosed" : Str) :: []) hx hk M (by decide +kernel) rfl, fun σ H' M => ?_⟩
    refine ⟨MidK K H a b 15, kStep (K := K) (n := 12) (m := 15) (("NoDeed" : Str) :: ("NoEdit" : Str) :: ("NoFact" : Str) :: []) hx hk M (by decide +kernel) rfl, fun σ H' M => ?_⟩
    refine ⟨MidK K H a b 18, kStep (K := K) (n := 15) (m := 18) (("NoFacts" : Str) :: ("NoLetter" : Str) :: ("NoLife" : Str) :: []) hx hk M (by decide +kernel) rfl, fun σ H' M => ?_⟩
    refine ⟨MidK K H a b 21, kStep (K := K) (n := 18) (m := 21) (("NoLot" : Str) :: ("NoMark" : Str) :: ("NoName" : Str) :: []) hx hk M (by decide +kernel) rfl, fun σ H' M => ?_⟩
    refine ⟨MidK K H a b 24, kStep (K := K) (n := 21) (m := 24) (("NoNumber" : Str) :: ("NoPattern" : Str) :: ("NoPlan" : Str) :: []) hx hk M (by decide +kernel) rfl, fun σ H' M => ?_⟩
    refine ⟨MidK K H a b 27, kStep (K := K) (n := 24) (m := 27) (("NoPrime" : Str) :: ("NoRoot" : Str) :: ("NoRow" : Str) :: []) hx hk M (by decide +kernel) rfl, fun σ H' M => ?_⟩
    refine ⟨MidK K H a b 30, kStep (K := K) (n := 27) (m := 30) (("NoRows" : Str) :: ("NoRule" : Str) :: ("NoSchema" : Str) :: []) hx hk M (by decide +kernel) rfl, fun σ H' M => ?_⟩
    refine ⟨MidK K H a b 33, kStep (K := K) (n := 30) (m := 33) (("NoShowing" : Str) :: ("NoStore" : Str) :: ("NoStretch" : Str) :: []) hx hk M (by decide +kernel) rfl, fun σ H' M => ?_⟩
    refine ⟨MidK K H a b 36, kStep (K := K) (n := 33) (m := 36) (("NoTables" : Str) :: ("NoText" : Str) :: ("NoView" : Str) :: []) hx hk M (by decide +kernel) rfl, fun σ H' M => ?_⟩
    refine ⟨MidK K H a b 39, kStep (K := K) (n := 36) (m := 39) (("NotHere" : Str) :: ("NotYet" : Str) :: ("OtherPrime" : Str) :: []) hx hk M (by decide +kernel) rfl, fun σ H' M => ?_⟩
    refine ⟨MidK K H a b 42, kStep (K := K) (n := 39) (m := 42) (("OtherSchema" : Str) :: ("TooMany" : Str) :: ("TooSmall" : Str) :: []) hx hk M (by decide +kernel) rfl, fun σ H' M => ?_⟩
    refine ⟨MidK K H a b 43, kStep (K := K) (n := 42) (m := 43) (("Unsafe" : Str) :: []) hx hk M (by decide +kernel) rfl, fun σ H' M => ?_⟩
    obtain ⟨p, rfl, hp, hn, sm⟩ := M
    exact ⟨_, rfl, q _ p sm hn hp⟩
/-! ### _law_plain -/
abbrev sPlain : Stmt := top 50
def DI0 (P : Program) (w : World) (K : PySem.W.Frag) (mg : Str → Option Value) (base : Heap) : Prop := ∃ fd, FnOk P w K mg base CX0 1 (f0 K) fd ["self"] sp0 ∧ Binds K fd ["self"] []
theorem plain_cls : ∀ x ∈ plainN, x ∈ cls := by decide +kernel
theorem pe_mk {X : Cx} {x : Str} {p pos : Pos} (T : Tx X.K X.mg) (D : DI0 X.prog X.w X.K X.mg X.base) (hr : Room 2 X.A) (hx : x ∈ plainN) (hg : Gl X x := by rfl) (hdb : (x == ("__debug__" : Str)) = false := by decide) :
    PE X (.Call (.Name x p) [] [] pos) (tXm (He.ga X.K x) sp0 tNil) := by
  obtain ⟨fd, F, hb⟩ := D
  exact pe_xm0 (T.xcl x (plain_cls x hx)).oex (T.i0 x hx) T.t0 F hr (by decide) hb (T.glo x (plain_cls x hx)) hg hdb
def tMk (K : PySem.W.Frag) (ns : List Str) : TA := ns.foldr (fun y t => tCons (tXm (He.ga K y) sp0 tNil) t) tNil
abbrev Made (K : PySem.W.Frag) (H : Hp) : List Str → List Addr → Prop := Paired fun y a => XAt H a (He.ga K y) none
theorem Made.same {K : PySem.W.Frag} {H H' : Hp} {ns : List Str} {as : List Addr} (h : Made K H ns as) (s : Same H H') : Made K H' ns as := Paired.mapP h fun _ _ z => z.same s
theorem Made.append {K : PySem.W.Frag} {H : Hp} : ∀ {ns ms : List Str} {as bs : List Addr}, Made K H ns as → Made K H ms bs → Made K H (ns ++ ms) (as ++ bs)
  | _, _, _, _, .nil, h => h
  | _, _, _, _, .cons r t, h => .cons r (Made.append t h)
theorem Same.up {H : Hp} {a : Addr} {o : HO} (n : H a = none) : Same H (upd H a o) := fun b u e => by
  rw [upd_ne (ne_of_none e n)]
  exact e
theorem tMk_ok {K : PySem.W.Frag} {σ : L2.St} : ∀ (ns : List Str) {H : Hp} {Q : List V → Hp → Prop}, (∀ as H', Same H H' → Made K H' ns as → Q (as.map V.ref) H') → tMk K ns σ H Q
  | [], H, Q, q => q [] H (Same.refl H) .nil
  | y :: r, H, Q, q => fun a ha => ⟨a, rfl, rfl, tMk_ok r fun as H' s m => q (a :: as) H' ((Same.up ha).trans s) (.cons (s _ _ upd_same) m)⟩
def spPlain (K : PySem.W.Frag) : Sp := fun vs H Q _ => ∃ h : Addr, vs = [.ref h] ∧ ∀ H' p as, Same H H' → H p = none → H' p = some (.lst (as.map V.ref)) → Made K H' plainN as → Q (.ref p) H'
structure MidP (K : PySem.W.Frag) (H : Hp) (h : Addr) (n : Nat) (σ : L2.St) (H' : Hp) : Prop where
  ex : ∃ p as, σ = [some (.ref h), some (.ref p)] ∧ H' p = some (.lst (as.map V.ref)) ∧ Made K H' (plainN.take n) as ∧ H p = none ∧ Same H H'
theorem pStep {H : Hp} {h : Addr} {n m : Nat} {σ : L2.St} {H' : Hp} {D : Ends} (ns : List Str) (M : MidP K H h n σ H') (e : plainN.take m = plainN.take n ++ ns) (hD : D.nx = MidP K H h m) : tAsg (tOp rCat (tVar 1) (tLst (tMk K ns))) (gName 1) D σ H' := by
  obtain ⟨p, as, rfl, hp, mk, hn, sm⟩ := M
  have lp : plainN.length = 35 := rfl
  have len : (plainN.take n).length + ns.length ≤ 35 := by
    have := congrArg List.length e
    rw [List.length_append, List.length_take] at this
    omega
  refine ⟨_, rfl, tMk_ok ns fun bs H1 s1 mb => ⟨?_, fun l hl => ?_⟩⟩
  · rw [List.length_map, ← Paired.length mb, sizeLine_eq]
    omega
  have hp1 := s1 _ _ hp
  have hpl : p ≠ l := ne_of_none hp1 hl
  refine ⟨p, l, _, _, rfl, rfl, by rw [upd_ne hpl]; exact hp1, upd_same, ?_, fun p2 hp2 => ?_⟩
  · rw [List.length_map, List.length_map, ← Paired.length mb, ← Paired.length mk, sizeLine_eq]
    omega
  have nl : p2 ≠ l := fun z => by
    rw [z, upd_same] at hp2
    cases hp2
  have s2 : Same H1 (upd (upd H1 l (.lst (bs.map V.ref))) p2 (.lst (as.map V.ref ++ bs.map V.ref))) := (Same.up hl).trans (Same.up hp2)
  show D.nx _ _
  rw [hD]
  refine ⟨p2, as ++ bs, rfl, ?_, ?_, ?_, (sm.trans s1).trans s2⟩
  · rw [upd_same, List.map_append]
  · rw [e]
    exact Made.append (mk.same (s1.trans s2)) (mb.same s2)
  · rw [upd_ne nl] at hp2
    exact Same.free (sm.trans s1) hp2
theorem scPlain : FnScope ["hand", "made"] ["hand"] (defScope sPlain) := ⟨rfl, rfl, rfl, by decide +kernel, rfl, by decide +kernel, by decide +kernel⟩
theorem ok_plain {f : Addr} {fd : FuncData} (F : FnP K "_law_plain" sPlain f fd) (T : Tx K mg) (D : DI0 P w K mg base) : FnOk P w K mg base CX0 3 f fd ["hand"] (spPlain K) := by
  refine F.ok scPlain (fun vs H Q E h => ?_) (fun cdv A outer s H vs Q E hr h => ?_)
  · obtain ⟨a, rfl, _⟩ := h
    rfl
  · obtain ⟨h, rfl, q⟩ := h
    refine ⟨_, (C8.pss_cut (ps_set (i := 1) scPlain.nd rfl (Or.inl rfl) (pe_lst (pa_cons (pe_mk T D hr (by decide +kernel)) (pa_cons (pe_mk T D hr (by decide +kernel)) (pa_cons (pe_mk T D hr (by decide +kernel)) (pa_cons (pe_mk T D hr (by decide +kernel)) (pa_cons (pe_mk T D hr (by decide +kernel)) (pa_cons (pe_mk T D hr (by decide +kernel)) (pa_cons (pe_mk T D hr (by decide +kernel)) (pa_cons (pe_mk T D hr (by decide +kernel)) (pa_cons (pe_mk T D hr (by decide +kernel)) (pa_cons (pe_mk T D hr (by decide +kernel)) pa_nil))))))))))))
      (C8.pss_cut (ps_set (i := 1) scPlain.nd rfl (Or.inl rfl) (pe_op op_cat (pv 1) (pe_lst (pa_cons (pe_mk T D hr (by decide +kernel)) pa_nil))))
      (C8.pss_cut (ps_set (i := 1) scPlain.nd rfl (Or.inl rfl) (pe_op op_cat (pv 1) (pe_lst (pa_cons (pe_mk T D hr (by decide +kernel)) (pa_cons (pe_mk T D hr (by decide +kernel)) (pa_cons (pe_mk T D hr (by decide +kernel)) (pa_cons (pe_mk T D hr (by decide +kernel)) (pa_cons (pe_mk T D hr (by decide +kernel)) (pa_cons (pe_mk T D hr (by decide +kernel)) (pa_cons (pe_mk T D hr (by decide +kernel)) (pa_cons (pe_mk T D hr (by decide +kernel)) (pa_cons (pe_mk T D hr (by decide +kernel)) pa_nil))))))))))))
      (C8.pss_cut (ps_set (i := 1) scPlain.nd rfl (Or.inl rfl) (pe_op op_cat (pv 1) (pe_lst (pa_cons (pe_mk T D hr (by decide +kernel)) (pa_cons (pe_mk T D hr (by decide +kernel)) (pa_cons (pe_mk T D hr (by decide +kernel)) (pa_cons (pe_mk T D hr (by decide +kernel)) (pa_cons (pe_mk T D hr (by decide +kernel)) (pa_cons (pe_mk T D hr (by decide +kernel)) (pa_cons (pe_mk T D hr (by decide +kernel)) (pa_cons (pe_mk T D hr (by decide +kernel)) pa_nil)))))))))))
      (C8.pss_cut (ps_set (i := 1) scPlain.nd rfl (Or.inl rfl) (pe_op op_cat (pv 1) (pe_lst (pa_cons (pe_mk T D hr (by decide +kernel)) (pa_cons (pe_mk T D hr (by decide +kernel)) (pa_cons (pe_mk T D hr (by decide +kernel)) (pa_cons (pe_mk T D hr (by decide +kernel)) (pa_cons (pe_mk T D hr (by decide +kernel)) (pa_cons (pe_mk T D hr (by decide +kernel)) (pa_cons (pe_mk T D hr (by decide +kernel)) pa_nil))))))))))
      (pss_one (ps_ret (pv 1)))))))), ?_⟩
    refine ⟨MidP K H h 10, tMk_ok (K := K) (plainN.take 10) fun as H1 s1 mk => ⟨?_, fun p hp => ?_⟩, fun σ H' M => ?_⟩
    · rw [List.length_map, ← Paired.length mk, List.length_take, sizeLine_eq]
      omega
    · exact ⟨p, as, rfl, upd_same, mk.same (Same.up hp), Same.free s1 hp, s1.trans (Same.up hp)⟩
    refine ⟨MidP K H h 11, pStep (K := K) (n := 10) (m := 11) (("NoLetter" : Str) :: []) M (by decide +kernel) rfl, fun σ H' M => ?_⟩
    refine ⟨MidP K H h 20, pStep (K := K) (n := 11) (m := 20) (("NoLife" : Str) :: ("NoLot" : Str) :: ("NoMark" : Str) :: ("NoName" : Str) :: ("NoNumber" : Str) :: ("NoPattern" : Str) :: ("NoPlan" : Str) :: ("NoPrime" : Str) :: ("NoRoot" : Str) :: []) M (by decide +kernel) rfl, fun σ H' M => ?_⟩
    refine ⟨MidP K H h 28, pStep (K := K) (n := 20) (m := 28) (("NoRow" : Str) :: ("NoRows" : Str) :: ("NoRule" : Str) :: ("NoSchema" : Str) :: ("NoShowing" : Str) :: ("NoStore" : Str) :: ("NoStretch" : Str) :: ("NoTables" : Str) :: []) M (by decide +kernel) rfl, fun σ H' M => ?_⟩
    refine ⟨MidP K H h 35, pStep (K := K) (n := 28) (m := 35) (("NoText" : Str) :: ("NoView" : Str) :: ("NotHere" : Str) :: ("OtherPrime" : Str) :: ("OtherSchema" : Str) :: ("TooSmall" : Str) :: ("Unsafe" : Str) :: []) M (by decide +kernel) rfl, fun σ H' M => ?_⟩
    
    obtain ⟨p, as, rfl, hp, mk, hn, sm⟩ := M
    exact ⟨_, rfl, q _ p as sm hn hp mk⟩


end
end Sv
namespace Sv
open PySem PySem.Spec PyProof.Rows L2 Gd Hd Xv
section
variable {P : Program} {w : World} {K : PySem.W.Frag} {mg : Str → Option Value} {base : Heap}
/-! ### _law_filled -/
abbrev sFilled : Stmt := top 51
def DI1 (P : Program) (w : World) (K : PySem.W.Frag) (mg : Str → Option Value) (base : Heap) : Prop := ∀ q ∈ fillN, ∃ fd, FnOk P w K mg base CX0 1 (He.ma K (He.ga K q.1) "__init__") fd ["self", q.2] (sp1 K q.2) ∧ Binds K fd ["self", q.2] []
theorem fill_cls : ∀ q ∈ fillN, q.1 ∈ cls := by decide +kernel
theorem pe_mf {X : Cx} {x f : Str} {e : Expr} {ta : TA} {p pos : Pos} (T : Tx X.K X.mg) (D : DI1 X.prog X.w X.K X.mg X.base) (hr : Room 2 X.A) (hx : (x, f) ∈ fillN) (ha : PA X [e] ta) (hg : Gl X x := by rfl) (hdb : (x == ("__debug__" : Str)) = false := by decide)
    (he : starEach [e] X.env = (false, eval e X.env) :: starEach [] X.env := by rfl) (hpl : (backTo pos (starEach [] X.env)).any (·.1) = false := by rfl) :
    PE X (.Call (.Name x p) [e] [] pos) (tXm (He.ga X.K x) (sp1 X.K f) ta) := by
  obtain ⟨fd, F, hb⟩ := D _ hx
  exact pe_xm (T.xcl x (fill_cls _ hx)).oex (T.i1 _ hx) (T.t1 _ hx) F hr (by decide) hb (T.glo x (fill_cls _ hx)) ha hg hdb he hpl (by show 2 ≤ 1000; decide)
abbrev MadeF (K : PySem.W.Frag) (v : V) (H : Hp) : List (Str × Str) → List Addr → Prop := Paired fun q a => XAt H a (He.ga K q.1) (some [(q.2, v)])
theorem MadeF.same {v : V} {H H' : Hp} {ns : List (Str × Str)} {as : List Addr} (h : MadeF K v H ns as) (s : Same H H') : MadeF K v H' ns as := Paired.mapP h fun _ _ z => z.same s
theorem same_x {H : Hp} {a dx : Addr} {o u z : HO} (ha : H a = none) (hd : upd H a o dx = none) : Same H (upd (upd (upd H a o) dx u) a z) := fun b r e => by
  have n1 : b ≠ a := ne_of_none e ha
  have n2 : b ≠ dx := fun q => by
    rw [← q, upd_ne n1, e] at hd
    cases hd
  rw [upd_ne n1, upd_ne n2, upd_ne n1]
  exact e
theorem mf_ok {σ : L2.St} {v : V} {x f : Str} {H : Hp} {Q : VK} (T : Tx K mg) (hx : (x, f) ∈ fillN) (hσ : σ[0]? = some (some v)) (q : ∀ a H', Same H H' → H a = none → XAt H' a (He.ga K x) (some [(f, v)]) → Q (.ref a) H') :
    tXm (He.ga K x) (sp1 K f) (tCons (tVar 0) tNil) σ H Q := by
  refine ⟨v, hσ, fun a ha => ⟨a, _, v, rfl, (T.xcl x (fill_cls _ hx)).oex, T.no _ hx, upd_same, fun dx hd nd => ⟨rfl, q a _ (same_x ha hd) ha ⟨dx, upd_same, ?_⟩⟩⟩⟩
  rw [upd_ne nd, upd_same]
def tFl (K : PySem.W.Frag) (ns : List (Str × Str)) : TA := ns.foldr (fun q t => tCons (tXm (He.ga K q.1) (sp1 K q.2) (tCons (tVar 0) tNil)) t) tNil
theorem tFl_ok {σ : L2.St} {v : V} (T : Tx K mg) (hσ : σ[0]? = some (some v)) : ∀ (ns : List (Str × Str)) {H : Hp} {Q : List V → Hp → Prop}, (∀ q ∈ ns, q ∈ fillN) → (∀ as H', Same H H' → MadeF K v H' ns as → Q (as.map V.ref) H') → tFl K ns σ H Q
  | [], H, Q, _, q => q [] H (Same.refl H) .nil
  | (x, f) :: r, H, Q, sub, q => mf_ok (Q := fun y H1 => tFl K r σ H1 fun ys H2 => Q (y :: ys) H2) T (sub _ List.mem_cons_self) hσ fun a H1 s1 _ xa => tFl_ok T hσ r (fun z hz => sub z (List.mem_cons_of_mem _ hz)) fun as H2 s2 m => q (a :: as) H2 (s1.trans s2) (.cons (xa.same s2) m)
theorem lk1 {f : Str} {v : V} : List.lookup f [(f, v)] = some v := by simp [List.lookup]
theorem vs8 {v : V} (j : Nat) (h : j < 8) : ([v, v, v, v, v, v, v] ++ [v])[j]? = some v := by
  match j, h with
  | 0, _ | 1, _ | 2, _ | 3, _ | 4, _ | 5, _ | 6, _ | 7, _ => rfl
theorem paired_at {α β : Type} {F : α → β → Prop} : ∀ {l : List α} {m : List β} {j : Nat} {a : α}, Paired F l m → l[j]? = some a → ∃ b, m[j]? = some b ∧ F a b
  | _, _, _, _, .nil, h => by simp at h
  | _, _, 0, _, .cons r _, h => by
    simp at h
    subst h
    exact ⟨_, rfl, r⟩
  | _, _, j + 1, _, .cons _ t, h => by
    obtain ⟨b, h1, h2⟩ := paired_at (j := j) t (by simpa using h)
    exact ⟨b, by simpa using h1, h2⟩
theorem paired_get {α β : Type} {F : α → β → Prop} : ∀ {l : List α} {m : List β}, m.length = l.length → (∀ (j : Nat) (a : α) (b : β), l[j]? = some a → m[j]? = some b → F a b) → Paired F l m
  | [], [], _, _ => .nil
  | [], _ :: _, h, _ => by simp at h
  | _ :: _, [], h, _ => by simp at h
  | a :: l, b :: m, h, k => .cons (k 0 a b rfl rfl) (paired_get (by simpa using h) fun j x y hx hy => k (j + 1) x y (by simpa using hx) (by simpa using hy))
def spFilled (K : PySem.W.Frag) : Sp := fun vs H Q _ => ∃ v : V, vs = [v] ∧ ∀ H' p ts, Same H H' → H p = none → H' p = some (.lst (ts.map V.ref)) →
  Paired (fun (q : Str × Str) (t : Addr) => ∃ a, H' t = some (.tup [.ref a, v]) ∧ XAt H' a (He.ga K q.1) (some [(q.2, v)])) fillN ts → Q (.ref p) H'
theorem scFilled : FnScope ["thing", "found", "kept", "many"] ["thing"] (defScope sFilled) := ⟨rfl, rfl, rfl, by decide +kernel, rfl, by decide +kernel, by decide +kernel⟩
theorem ok_filled {f : Addr} {fd : FuncData} (F : FnP K "_law_filled" sFilled f fd) (T : Tx K mg) (D : DI1 P w K mg base) (ml : mg "list" = none) (mz : mg "zip" = none) : FnOk P w K mg base CX0 3 f fd ["thing"] (spFilled K) := by
  refine F.ok scFilled (fun vs H Q E h => ?_) (fun cdv A outer s H vs Q E hr h => ?_)
  · obtain ⟨a, rfl, _⟩ := h
    rfl
  · obtain ⟨v, rfl, q⟩ := h
    refine ⟨_, (pss_cons (ps_set (i := 1) scFilled.nd rfl (Or.inl rfl) (pe_lst (pa_cons (pe_mf T D hr (f := "part") (by decide +kernel) (pa_cons (pv 0) pa_nil)) (pa_cons (pe_mf T D hr (f := "area") (by decide +kernel) (pa_cons (pv 0) pa_nil)) (pa_cons (pe_mf T D hr (f := "index") (by decide +kernel) (pa_cons (pv 0) pa_nil)) (pa_cons (pe_mf T D hr (f := "place") (by decide +kernel) (pa_cons (pv 0) pa_nil)) (pa_cons (pe_mf T D hr (f := "bar") (by decide +kernel) (pa_cons (pv 0) pa_nil)) (pa_cons (pe_mf T D hr (f := "area") (by decide +kernel) (pa_cons (pv 0) pa_nil)) (pa_cons (pe_mf T D hr (f := "lacking") (by decide +kernel) (pa_cons (pv 0) pa_nil)) pa_nil)))))))))
      (pss_cons (ps_set (i := 2) scFilled.nd rfl (Or.inl rfl) (pe_lst (pa_cons (pe_xf (pe_ix ix_list (pv 1) pe_int (fun _ _ => rfl))) (pa_cons (pe_xf (pe_ix ix_list (pv 1) pe_int (fun _ _ => rfl))) (pa_cons (pe_xf (pe_ix ix_list (pv 1) pe_int (fun _ _ => rfl))) (pa_cons (pe_xf (pe_ix ix_list (pv 1) pe_int (fun _ _ => rfl))) (pa_cons (pe_xf (pe_ix ix_list (pv 1) pe_int (fun _ _ => rfl))) (pa_cons (pe_xf (pe_ix ix_list (pv 1) pe_int (fun _ _ => rfl))) (pa_cons (pe_xf (pe_ix ix_list (pv 1) pe_int (fun _ _ => rfl))) pa_nil)))))))))
      (pss_cons (ps_set (i := 3) scFilled.nd rfl (Or.inl rfl) (pe_mf T D hr (f := "most") (by decide +kernel) (pa_cons (pv 0) pa_nil)))
      (pss_one (ps_ret (Zl.pe_lz rfl (by rfl) ml (by rfl) mz (pa_cons (pe_op op_cat (pv 1) (pe_lst (pa_cons (pv 3) pa_nil))) (pa_cons (pe_op op_cat (pv 2) (pe_lst (pa_cons (pe_xf (pv 3)) pa_nil))) pa_nil)))))))), ?_⟩
    refine tFl_ok (K := K) T (v := v) rfl (fillN.take 7) (fun z hz => List.mem_of_mem_take hz) fun as H1 s1 mk => ⟨?_, fun p hp => ?_⟩
    · rw [List.length_map, ← Paired.length mk, List.length_take, sizeLine_eq]
      omega
    have mk1 := mk.same (Same.up (o := .lst (as.map V.ref)) hp)
    have sH1 : Same H (upd H1 p (.lst (as.map V.ref))) := s1.trans (Same.up hp)
    have hp0 : H p = none := Same.free s1 hp
    have hpp : (upd H1 p (.lst (as.map V.ref))) p = some (.lst (as.map V.ref)) := upd_same
    generalize upd H1 p (.lst (as.map V.ref)) = H2 at mk1 sH1 hpp ⊢
    match as, mk1 with
    | [a1, a2, a3, a4, a5, a6, a7], .cons x1 (.cons x2 (.cons x3 (.cons x4 (.cons x5 (.cons x6 (.cons x7 .nil)))))) =>
    refine ⟨_, rfl, p, _, _, _, rfl, rfl, SqL.of hpp, atI_nat (j := 0) rfl, a1, _, _, v, rfl, x1, T.xcl "BadDisk" (by decide +kernel), T.no ("BadDisk", "part") (by decide +kernel), lk1, _, rfl, p, _, _, _, rfl, rfl, SqL.of hpp, atI_nat (j := 1) rfl, a2, _, _, v, rfl, x2, T.xcl "BadKept" (by decide +kernel), T.no ("BadKept", "area") (by decide +kernel), lk1, _, rfl, p, _, _, _, rfl, rfl, SqL.of hpp, atI_nat (j := 2) rfl, a3, _, _, v, rfl, x3, T.xcl "BadStore" (by decide +kernel), T.no ("BadStore", "index") (by decide +kernel), lk1, _, rfl, p, _, _, _, rfl, rfl, SqL.of hpp, atI_nat (j := 3) rfl, a4, _, _, v, rfl, x4, T.xcl "BadText" (by decide +kernel), T.no ("BadText", "place") (by decide +kernel), lk1, _, rfl, p, _, _, _, rfl, rfl, SqL.of hpp, atI_nat (j := 4) rfl, a5, _, _, v, rfl, x5, T.xcl "Barred" (by decide +kernel), T.no ("Barred", "bar") (by decide +kernel), lk1, _, rfl, p, _, _, _, rfl, rfl, SqL.of hpp, atI_nat (j := 5) rfl, a6, _, _, v, rfl, x6, T.xcl "Full" (by decide +kernel), T.no ("Full", "area") (by decide +kernel), lk1, _, rfl, p, _, _, _, rfl, rfl, SqL.of hpp, atI_nat (j := 6) rfl, a7, _, _, v, rfl, x7, T.xcl "NotYet" (by decide +kernel), T.no ("NotYet", "lacking") (by decide +kernel), lk1, by rw [sizeLine_eq]; exact (by decide : 7 ≤ 16777216), fun l hl => ?_⟩
    have sK : Same H2 (upd H2 l (.lst [v, v, v, v, v, v, v])) := Same.up hl
    have hl0 : H l = none := Same.free sH1 hl
    have hpl : p ≠ l := ne_of_none hpp hl
    dsimp only [gName, tSeq, tAsg]
    refine mf_ok (σ := [some v, some (.ref p), some (.ref l), none]) (v := v) (x := "TooMany") (f := "most") T (by decide +kernel) rfl fun a8 H4 s4 n8 x8 => ?_
    have s24 : Same H2 H4 := sK.trans s4
    have hp4 := s24 _ _ hpp
    have hl4 : H4 l = some (.lst [v, v, v, v, v, v, v]) := s4 _ _ upd_same
    refine ⟨_, rfl, _, rfl, by rw [sizeLine_eq]; exact (by decide : 1 ≤ 16777216), fun m1 hm1 => ?_⟩
    have t1 : Same H4 (upd H4 m1 (.lst [.ref a8])) := Same.up hm1
    refine ⟨p, m1, _, _, rfl, rfl, t1 _ _ hp4, upd_same, by rw [sizeLine_eq]; exact (by decide : 7 + 1 ≤ 16777216), fun c1 hc1 => ?_⟩
    have t2 := t1.trans (Same.up (o := .lst ([a1, a2, a3, a4, a5, a6, a7].map V.ref ++ [V.ref a8])) hc1)
    have hc1x : (upd (upd H4 m1 (.lst [.ref a8])) c1 (.lst ([a1, a2, a3, a4, a5, a6, a7].map V.ref ++ [V.ref a8]))) c1 = _ := upd_same
    generalize upd (upd H4 m1 (.lst [.ref a8])) c1 (.lst ([a1, a2, a3, a4, a5, a6, a7].map V.ref ++ [V.ref a8])) = H6 at t2 hc1x ⊢
    refine ⟨_, rfl, _, rfl, a8, _, _, v, rfl, x8.same t2, T.xcl "TooMany" (by decide +kernel), T.no ("TooMany", "most") (by decide +kernel), lk1, by rw [sizeLine_eq]; exact (by decide : 1 ≤ 16777216), fun m2 hm2 => ?_⟩
    have t3 : Same H6 (upd H6 m2 (.lst [v])) := Same.up hm2
    refine ⟨l, m2, _, _, rfl, rfl, t3 _ _ (t2 _ _ hl4), upd_same, by rw [sizeLine_eq]; exact (by decide : 7 + 1 ≤ 16777216), fun c2 hc2 => ?_⟩
    have t4 := t3.trans (Same.up (o := .lst ([v, v, v, v, v, v, v] ++ [v])) hc2)
    have hc2x : (upd (upd H6 m2 (.lst [v])) c2 (.lst ([v, v, v, v, v, v, v] ++ [v]))) c2 = _ := upd_same
    generalize upd (upd H6 m2 (.lst [v])) c2 (.lst ([v, v, v, v, v, v, v] ++ [v])) = H7 at t4 hc2x ⊢
    refine ⟨c1, c2, _, _, rfl, SqL.of (t4 _ _ hc1x), SqL.of hc2x, rfl, fun p5 ts H8 s8 n8' h8 l8 e8 => ?_⟩
    have s48 : Same H4 H8 := (t2.trans t4).trans s8
    have s28 : Same H2 H8 := s24.trans s48
    have sA : Same H H8 := sH1.trans s28
    refine q H8 p5 ts sA (Same.free ((sH1.trans s24).trans (t2.trans t4)) n8') h8 (paired_get l8 fun j nq t hn ht => ?_)
    have full : MadeF K v H8 fillN [a1, a2, a3, a4, a5, a6, a7, a8] := .cons (x1.same s28) (.cons (x2.same s28) (.cons (x3.same s28) (.cons (x4.same s28) (.cons (x5.same s28) (.cons (x6.same s28) (.cons (x7.same s28) (.cons (x8.same s48) .nil)))))))
    obtain ⟨a, ha, xa⟩ := paired_at full hn
    refine ⟨a, e8 j t (.ref a) v ht ?_ ?_, xa⟩
    · show ([a1, a2, a3, a4, a5, a6, a7, a8].map V.ref)[j]? = _
      rw [List.getElem?_map, ha]
      rfl
    · have jl : j < 8 := (List.getElem?_eq_some_iff.mp hn).1
      exact vs8 j jl

end
end Sv
namespace Sv
open PySem PySem.Spec PyProof.Rows L2 Gd Hd Xv
section
variable {P : Program} {w : World} {K : PySem.W.Frag} {mg : Str → Option Value} {base : Heap}
/-! ### _law_thing -/
abbrev sThing : Stmt := top 52
/-- a thing of the menu, told by the heap -/
structure Thing (K : PySem.W.Frag) (H : Hp) (v : V) (d : PyData) : Prop where
  dd : Dd K H v d
  ok : okR d = true
  sh : d.showable = true
  dp : d.depth ≤ 60
  sz : d.shown.length ≤ sizeLine
theorem Thing.same {H H' : Hp} {v : V} {d : PyData} (t : Thing K H v d) (s : Same H H') : Thing K H' v d := ⟨t.dd.same s, t.ok, t.sh, t.dp, t.sz⟩
def spThing (K : PySem.W.Frag) : Sp := fun vs H Q _ => ∃ a : Addr, vs = [.ref a] ∧ HandP H a ∧ ∀ v d H', HandP H' a → Keep a H H' → Thing K H' v d → Q v H'
theorem scThing : FnScope ["hand", "some"] ["hand"] (defScope sThing) := ⟨rfl, rfl, rfl, by decide +kernel, rfl, by decide +kernel, by decide +kernel⟩
theorem sz1 {n : Nat} (h : n ≤ 1000) : n ≤ sizeLine := by
  rw [sizeLine_eq]
  omega
theorem twice {H : Hp} {a : Addr} {o u : HO} (n : H a = none) : Same H (upd (upd H a o) a u) := fun b z e => by
  rw [upd_ne (ne_of_none e n), upd_ne (ne_of_none e n)]
  exact e
theorem ok_thing {f : Addr} {fd : FuncData} (F : FnP K "_law_thing" sThing f fd) (D : Df P w K mg base "_law_some" 2 ["hand", "things"] (spSome K)) : FnOk P w K mg base CX0 3 f fd ["hand"] (spThing K) := by
  refine F.ok scThing (fun vs H Q E h => ?_) (fun cdv A outer s H vs Q E hr h => ?_)
  · obtain ⟨a, rfl, _⟩ := h
    rfl
  · obtain ⟨a, rfl, hh, q⟩ := h
    obtain ⟨c, cs, i, b, sd, n, hat⟩ := id hh
    have ha := hat.at_
    refine ⟨_, PSs.nox (pss_cons (ps_set (i := 1) scThing.nd rfl (Or.inl rfl) (pe_lst (pa_cons pe_non (pa_cons pe_int (pa_cons (pe_un un_neg pe_int) (pa_cons (pe_op op_pow pe_int pe_int) (pa_cons pe_bl (pa_cons pe_str (pa_cons pe_str (pa_cons (pe_tup pa_nil) (pa_cons (pe_tup (pa_cons pe_int (pa_cons (pe_tup (pa_cons pe_int (pa_cons pe_int pa_nil))) pa_nil))) (pa_cons (pe_lst (pa_cons pe_int (pa_cons (pe_lst (pa_cons pe_int pa_nil)) pa_nil))) (pa_cons (pe_disp (pps_cons pe_str pe_int pps_nil) (by rfl) (by rfl) (by exact List.cons_ne_nil _ _) (by decide)) (pa_cons (pe_tup (pa_cons pe_str (pa_cons pe_str pa_nil))) pa_nil))))))))))))))
      (pss_one (ps_ret (pe_df D hr (by decide) (pa_cons (pv 0) (pa_cons (pe_op op_cat (pv 1) (pe_lst (pa_cons (pe_tup (pa_cons (pe_tup (pa_cons pe_int (pa_cons pe_int (pa_cons pe_int pa_nil)))) pa_nil)) pa_nil))) pa_nil)))))), ?_⟩
    refine ⟨_, rfl, _, _, rfl, rfl, ⟨by decide, by decide, by decide⟩, sz1 (n := 0) (by decide), fun pe hpe => ⟨sz1 (n := 2) (by decide), fun p23 h23 => ⟨sz1 (n := 2) (by decide), fun p1 h1 => ⟨sz1 (n := 1) (by decide), fun l5 h5 => ⟨sz1 (n := 2) (by decide), fun l4 h4 => fun d hd => ⟨upd_same, [(.inr "a", .int 1)], rfl, by decide, sz1 (n := 2) (by decide), fun pu hu => ⟨sz1 (n := 12) (by decide), fun L hL => ?_⟩⟩⟩⟩⟩⟩⟩
    refine ⟨_, rfl, _, rfl, sz1 (n := 3) (by decide), fun p7 h7 => ⟨sz1 (n := 1) (by decide), fun p71 h71 => ⟨sz1 (n := 1) (by decide), fun M hM => ?_⟩⟩⟩
    have t1 := Same.up (o := .tup []) hpe
    have t2 := Same.up (o := .tup [.int 2, .int 3]) h23
    have t3 := Same.up (o := .tup [.int 1, .ref p23]) h1
    have t4 := Same.up (o := .lst [.int 5]) h5
    have t5 := Same.up (o := .lst [.int 4, .ref l5]) h4
    have t6 := twice (o := .dK []) (u := .dK [(.inr "a", .int 1)]) hd
    have t7 := Same.up (o := .tup [.str "unsafe", .str "one"]) hu
    have t8 := Same.up (o := .lst [.non, .int 0, .int (-1), .int (10 ^ 30), .bl true, .str "", .str "area", .ref pe, .ref p1, .ref l4, .ref d, .ref pu]) hL
    have t9 := Same.up (o := .tup [.int 7, .int 1, .int 2]) h7
    have t10 := Same.up (o := .tup [.ref p7]) h71
    have t11 := Same.up (o := .lst [.ref p71]) hM
    refine ⟨L, M, _, _, rfl, rfl, (t9.trans (t10.trans t11)) _ _ upd_same, upd_same, sz1 (n := 13) (by decide), fun C hC => ?_⟩
    have t12 := Same.up (o := .lst [.non, .int 0, .int (-1), .int (10 ^ 30), .bl true, .str "", .str "area", .ref pe, .ref p1, .ref l4, .ref d, .ref pu, .ref p71]) hC
    -- from the later heaps back
    have u11 := t11.trans t12
    have u10 := t10.trans u11
    have u9 := t9.trans u10
    have u8 := t8.trans u9
    have u7 := t7.trans u8
    have u6 := t6.trans u7
    have u5 := t5.trans u6
    have u4 := t4.trans u5
    have u3 := t3.trans u4
    have u2 := t2.trans u3
    have u1 := t1.trans u2
    have v2 := t1.trans t2
    have v3 := v2.trans t3
    have v4 := v3.trans t4
    have v5 := v4.trans t5
    have v6 := v5.trans t6
    have v8 := (v6.trans t7).trans t8
    have v11 := ((v8.trans t9).trans t10).trans t11
    have ne {p : Addr} {H1 : Hp} (s1 : Same H H1) (hp : H1 p = none) : p ≠ a := (ne_of_none (s1 _ _ ha) hp).symm
    refine ⟨a, C, _, rfl, hh.keep (p := a) u1, ne v11 hC, SqL.of upd_same, (by decide : 0 < 13), (by decide : 13 ≤ 1000), fun x H' hx hh' kp => ?_⟩
    have kp0 : Keep a H H' := fun b o nb e => kp b o nb (u1 b o e)
    have g {b : Addr} {o : HO} {H1 : Hp} (nb : b ≠ a) (s1 : Same H1 _) (e : H1 b = some o) : H' b = some o := kp b o nb (s1 b o e)
    have npe := ne (Same.refl H) hpe
    have apeF : H' pe = some (.tup []) := g npe u2 upd_same
    have ap23 : H' p23 = some (.tup [.int 2, .int 3]) := g (ne t1 h23) u3 upd_same
    have ap1 : H' p1 = some (.tup [.int 1, .ref p23]) := g (ne v2 h1) u4 upd_same
    have al5 : H' l5 = some (.lst [.int 5]) := g (ne v3 h5) u5 upd_same
    have al4 : H' l4 = some (.lst [.int 4, .ref l5]) := g (ne v4 h4) u6 upd_same
    have ad : H' d = some (.dK [(.inr "a", .int 1)]) := g (ne v5 hd) u7 upd_same
    have apu : H' pu = some (.tup [.str "unsafe", .str "one"]) := g (ne v6 hu) u8 upd_same
    have ap7 : H' p7 = some (.tup [.int 7, .int 1, .int 2]) := g (ne v8 h7) u10 upd_same
    have ap71 : H' p71 = some (.tup [.ref p7]) := g (ne (v8.trans t9) h71) u11 upd_same
    clear t1 t2 t3 t4 t5 t6 t7 t8 t9 t10 t11 t12 u1 u2 u3 u4 u5 u6 u7 u8 u9 u10 u11 v2 v3 v4 v5 v6 v8 v11 g
    have fin : ∀ d : PyData, Dd K H' x d → okR d = true → d.showable = true → d.depth ≤ 60 → d.shown.length ≤ 1000 → Q x H' := fun d h1 h2 h3 h4 h5 => q x d H' hh' kp0 ⟨h1, h2, h3, h4, sz1 h5⟩
    obtain rfl | hx := List.mem_cons.mp hx
    · exact fin .none .non rfl rfl (by decide) (by decide +kernel)
    obtain rfl | hx := List.mem_cons.mp hx
    · exact fin (.int 0) (.int 0) rfl (by decide +kernel) (by decide) (by decide +kernel)
    obtain rfl | hx := List.mem_cons.mp hx
    · exact fin (.int (-1)) (.int (-1)) rfl (by decide +kernel) (by decide) (by decide +kernel)
    obtain rfl | hx := List.mem_cons.mp hx
    · exact fin (.int (10 ^ 30)) (.int (10 ^ 30)) rfl (by decide +kernel) (by decide) (by decide +kernel)
    obtain rfl | hx := List.mem_cons.mp hx
    · exact fin (.bool true) (.bl true) rfl rfl (by decide) (by decide +kernel)
    obtain rfl | hx := List.mem_cons.mp hx
    · exact fin (.str "") (.str "") rfl rfl (by decide) (by decide +kernel)
    obtain rfl | hx := List.mem_cons.mp hx
    · exact fin (.str "area") (.str "area") rfl rfl (by decide) (by decide +kernel)
    obtain rfl | hx := List.mem_cons.mp hx
    · exact fin (.tuple []) (.tup (.inl (.inl apeF)) .nil) (by decide +kernel) (by decide +kernel) (by decide +kernel) (by decide +kernel)
    obtain rfl | hx := List.mem_cons.mp hx
    · exact fin (.tuple [.int 1, .tuple [.int 2, .int 3]]) (.tup (.inl (.inl ap1)) (.cons (.int 1) (.cons (.tup (.inl (.inl ap23)) (.cons (.int 2) (.cons (.int 3) .nil))) .nil))) (by decide +kernel) (by decide +kernel) (by decide +kernel) (by decide +kernel)
    obtain rfl | hx := List.mem_cons.mp hx
    · exact fin (.list [.int 4, .list [.int 5]]) (.lst (SqL.of al4) (.cons (.int 4) (.cons (.lst (SqL.of al5) (.cons (.int 5) .nil)) .nil))) (by decide +kernel) (by decide +kernel) (by decide +kernel) (by decide +kernel)
    obtain rfl | hx := List.mem_cons.mp hx
    · exact fin (.dict [(.str "a", .int 1)]) (.dct ad (.cons (.int 1) .nil)) (by decide +kernel) (by decide +kernel) (by decide +kernel) (by decide +kernel)
    obtain rfl | hx := List.mem_cons.mp hx
    · exact fin (.tuple [.str "unsafe", .str "one"]) (.tup (.inl (.inl apu)) (.cons (.str _) (.cons (.str _) .nil))) (by decide +kernel) (by decide +kernel) (by decide +kernel) (by decide +kernel)
    obtain rfl | hx := List.mem_cons.mp hx
    · exact fin (.tuple [.tuple [.int 7, .int 1, .int 2]]) (.tup (.inl (.inl ap71)) (.cons (.tup (.inl (.inl ap7)) (.cons (.int 7) (.cons (.int 1) (.cons (.int 2) .nil)))) .nil)) (by decide +kernel) (by decide +kernel) (by decide +kernel) (by decide +kernel)
    · cases hx
end
end Sv
namespace Sv
open PySem PySem.Spec PyProof.Rows L2 Gd Hd Xv
section
variable {P : Program} {w : World} {K : PySem.W.Frag} {mg : Str → Option Value} {base : Heap}
/-! ### law -/
abbrev sLaw : Stmt := top 53
theorem view_cls {X : Cx} {pos : Pos} (hm : X.mg "ViewError" = some (.ref (He.ga X.K "ViewError"))) (hg : Gl X "ViewError" := by rfl) : PE X (.Name "ViewError" pos) (tC (.ref (He.ga X.K "ViewError"))) := pe_glob hg hm rfl
theorem val_cls {X : Cx} {pos : Pos} (hm : X.mg "ValueError" = none) (hg : Gl X "ValueError" := by rfl) : PE X (.Name "ValueError" pos) (tC (.ty "ValueError")) := pe_bltn hg hm (by decide +kernel) rfl
def spLaw (K : PySem.W.Frag) : Sp := fun vs H Q _ => ∃ (a : Addr) (ns : List Int), vs = [.ref a] ∧ SqL K H a (ns.map V.int) ∧ ns.length ≤ 63 ∧ ∀ H', Q (.bl true) H'
theorem scLaw : FnScope ["script", "hand", "plain", "thing", "filled", "error", "kept", "kinds"] ["script"] (defScope sLaw) := ⟨rfl, rfl, rfl, by decide +kernel, rfl, by decide +kernel, by decide +kernel⟩
/-- what stands of the text when the law is called -/
structure Rest (P : Program) (w : World) (K : PySem.W.Frag) (mg : Str → Option Value) (base : Heap) : Prop where
  tx : Tx K mg
  dhand : Df P w K mg base "_law_hand" 1 ["script"] (spHand K)
  dplain : Df P w K mg base "_law_plain" 3 ["hand"] (spPlain K)
  dthing : Df P w K mg base "_law_thing" 3 ["hand"] (spThing K)
  dfilled : Df P w K mg base "_law_filled" 3 ["thing"] (spFilled K)
  dkinds : Df P w K mg base "_law_kinds" 1 ["one"] (spKinds K)
  view : mg "ViewError" = some (.ref (He.ga K "ViewError"))
  mV : mg "ValueError" = none
  mlen : mg "len" = none
  mall : mg "all" = none
  many : mg "any" = none
  mrepr : mg "repr" = none
  mis : mg "isinstance" = none
theorem ne_of_lst {H : Hp} {l p : Addr} {xs : List V} (h : H l = some (.lst xs)) (hh : HandP H p) (n : xs.length ≠ 5) : l ≠ p := fun e => by
  obtain ⟨c, cs, i, b, sd, k, z⟩ := hh
  have z1 := z.at_
  rw [← e, h] at z1
  cases z1
  exact n rfl
theorem Made.keep {H H' : Hp} {p : Addr} {ns : List Str} {as : List Addr} (h : Made K H ns as) (k : Keep p H H') (hh : HandP H p) : Made K H' ns as := Paired.mapP h fun y a z => by
  refine k a _ (fun e => ?_) z
  obtain ⟨c, cs, i, b, sd, n, w⟩ := hh
  have w1 := w.at_
  have z1 : H a = some (exo a (He.ga K y) none) := z
  rw [← e, z1] at w1
  cases w1
theorem filled_split {H : Hp} {v : V} : ∀ {qs : List (Str × Str)} {ts : List Addr}, Paired (fun (q : Str × Str) (t : Addr) => ∃ a, H t = some (.tup [.ref a, v]) ∧ XAt H a (He.ga K q.1) (some [(q.2, v)])) qs ts →
    ∃ bs, MadeF K v H qs bs ∧ Paired (fun t b => H t = some (.tup [.ref b, v])) ts bs
  | _, _, .nil => ⟨[], .nil, .nil⟩
  | _, _, .cons ⟨a, h1, h2⟩ r => by
    obtain ⟨bs, g1, g2⟩ := filled_split r
    exact ⟨a :: bs, .cons h2 g1, .cons h1 g2⟩
theorem map_at {ts : List Addr} {i : Nat} {x : V} (h : (ts.map V.ref)[i]? = some x) : ∃ t, ts[i]? = some t ∧ x = V.ref t := by
  rw [List.getElem?_map] at h
  obtain ⟨n, h1, h2⟩ := Option.map_eq_some_iff.mp h
  exact ⟨n, h1, h2.symm⟩
theorem tup_at2 {H : Hp} {v : V} {ts bs : List Addr} {i : Nat} {t : Addr} (h : Paired (fun t b => H t = some (.tup [.ref b, v])) ts bs) (e : ts[i]? = some t) : ∃ b, H t = some (.tup [.ref b, v]) ∧ bs[i]? = some b := by
  obtain ⟨b, h1, h2⟩ := paired_at h e
  exact ⟨b, h2, h1⟩
theorem tup_at {H : Hp} {v : V} {ts bs : List Addr} {i : Nat} {t : Addr} (h : Paired (fun t b => H t = some (.tup [.ref b, v])) ts bs) (e : ts[i]? = some t) : ∃ b, H t = some (.tup [.ref b, v]) := (tup_at2 h e).imp fun _ z => z.1
theorem sz0 {n : Nat} (h : n ≤ 1000) : n < sizeLine := by
  rw [sizeLine_eq]
  omega
theorem all_true (n : Nat) : ((List.replicate n true).all id) = true := List.all_eq_true.mpr fun x hx => (List.mem_replicate.mp hx).2
theorem cnt1 : ∀ y ∈ cls, (cls.map fun z => V.bl (decide (y = z))).countP (fun v => eqV v (.bl true)) = 1 := by decide +kernel
theorem flats (b : Str → Bool) : ((cls.map fun z => V.bl (b z)).all flatV) = true := by
  rw [List.all_map]
  exact List.all_eq_true.mpr fun _ _ => rfl
theorem none_in : inV (.bl true) (cls.map fun _ => .bl false) = false := by decide +kernel
theorem paired_mem {α β : Type} {F : α → β → Prop} : ∀ {l : List α} {m : List β} {b : β}, Paired F l m → b ∈ m → ∃ a, a ∈ l ∧ F a b
  | _, _, _, .nil, h => by cases h
  | _, _, b, .cons (a := a0) (b := b0) r t, h => by
    rcases List.mem_cons.mp h with h | h
    · subst h
      exact ⟨_, List.mem_cons_self, r⟩
    · obtain ⟨a, h1, h2⟩ := paired_mem t h
      exact ⟨a, List.mem_cons_of_mem _ h1, h2⟩
theorem each {H : Hp} {v : V} {as bs : List Addr} (m : Made K H plainN as) (f : MadeF K v H fillN bs) : ∀ x ∈ as.map V.ref ++ bs.map V.ref, ∃ e y fs, x = V.ref e ∧ y ∈ cls ∧ XAt H e (He.ga K y) fs := by
  intro x hx
  rcases List.mem_append.mp hx with hx | hx
  · obtain ⟨e, he, rfl⟩ := List.mem_map.mp hx
    obtain ⟨y, hy, z⟩ := paired_mem m he
    exact ⟨e, y, _, rfl, plain_cls y hy, z⟩
  · obtain ⟨e, he, rfl⟩ := List.mem_map.mp hx
    obtain ⟨y, hy, z⟩ := paired_mem f he
    exact ⟨e, y.1, _, rfl, fill_cls y hy, z⟩
theorem ok_law {f : Addr} {fd : FuncData} (F : FnP K "law" sLaw f fd) (R : Rest P w K mg base) : FnG P w K mg base 4 f fd ["script"] (spLaw K) := by
  refine fnG F scLaw (fun vs H Q E h => ?_) (fun cdv A outer s H vs Q hgd hr h => ?_)
  · obtain ⟨a, ns, rfl, _⟩ := h
    rfl
  · obtain ⟨a, ns, rfl, hS, hl, q⟩ := h
    have hg : (A.deeper (envOfC "law" (defScope sLaw) s.heap.objs.size f cdv)).guards = some [] := hgd
    refine ⟨_, (pss_cons (ps_set (i := 1) scLaw.nd rfl (Or.inl rfl) (pe_df R.dhand hr (by decide) (pa_cons (pv 0) pa_nil)))
      (pss_cons (ps_set (i := 2) scLaw.nd rfl (Or.inl rfl) (pe_df R.dplain hr (by decide) (pa_cons (pv 1) pa_nil)))
      (pss_cons (ps_if (pt_cmpR op_ne (pe_callB call_len_seq (by rfl) R.mlen PySem.boot_len (pa_cons (pv 2) pa_nil)) pe_int (nomark _)) (pss_one (ps_ret pe_bl)) pss_nil)
      (pss_cons (ps_set (i := 3) scLaw.nd rfl (Or.inr rfl) (pe_df R.dthing hr (by decide) (pa_cons (pv 1) pa_nil)))
      (pss_cons (ps_set (i := 4) scLaw.nd rfl (Or.inl rfl) (pe_df R.dfilled hr (by decide) (pa_cons (pv 3) pa_nil)))
      (pss_cons (ps_if (pt_not (pt_val (pe_callB (cr_all rfl) (by rfl) R.mall (by decide +kernel) (pa_cons (pe_lc (own := [("error", 5), ("kept", 6)]) (g := gTup K 2 (gCons (gName 5) (gCons (gName 6) gNil))) (tt := tYes) (by rfl) scLaw.nd (pi_list (pv 4)) (blkOk_by (N := ["script", "hand", "plain", "thing", "filled", "error", "kept", "kinds"]) (sc := defScope sLaw) (by decide +kernel)) (fun _ _ _ _ _ => (pg_tup rfl (pgs_cons (pg_name (i := 5) scLaw.nd rfl (Or.inl rfl)) (pgs_cons (pg_name (i := 6) scLaw.nd rfl (Or.inl rfl)) pgs_nil)))) (fun _ _ _ _ _ => pts_nil) (fun _ _ _ _ _ => (pe_cmpR op_eq (pe_callB (id := "repr") (r := rRepr K) (call_repr (k := 3) hg hr) (by rfl) R.mrepr (by decide +kernel) (pa_cons (pv 6) pa_nil)) (pe_callB (id := "repr") (r := rRepr K) (call_repr (k := 3) hg hr) (by rfl) R.mrepr (by decide +kernel) (pa_cons (pv 3) pa_nil)) (nomark _)))) pa_nil)))) (pss_one (ps_ret pe_bl)) pss_nil)
      (pss_cons (ps_for (passes_of rfl) rfl (pi_list (pe_op op_cat (pv 2) (pe_lc (own := [("error", 5), ("kept", 6)]) (g := gTup K 2 (gCons (gName 5) (gCons (gName 6) gNil))) (tt := tYes) (by rfl) scLaw.nd (pi_list (pv 4)) (blkOk_by (N := ["script", "hand", "plain", "thing", "filled", "error", "kept", "kinds"]) (sc := defScope sLaw) (by decide +kernel)) (fun _ _ _ _ _ => (pg_tup rfl (pgs_cons (pg_name (i := 5) scLaw.nd rfl (Or.inl rfl)) (pgs_cons (pg_name (i := 6) scLaw.nd rfl (Or.inl rfl)) pgs_nil)))) (fun _ _ _ _ _ => pts_nil) (fun _ _ _ _ _ => (pv 5))))) (pg_name (i := 5) scLaw.nd rfl (Or.inl rfl)) (pss_cons (ps_set (i := 7) scLaw.nd rfl (Or.inl rfl) (pe_df R.dkinds hr (by decide) (pa_cons (pv 5) pa_nil)))
      (pss_one (ps_if (PW.pt (pw_or (pt_cmpR op_ne (pe_bm PySem.F.plainAttrs_list PySem.F.slot_list_count PySem.F.type_list_count mt_countF (pv 7) (pa_cons pe_bl pa_nil)) pe_int (nomark _)) (pw_or (pt_not (pt_val (pe_callB call_isT (by rfl) R.mis (by decide +kernel) (pa_cons (pv 5) (pa_cons (view_cls R.view) pa_nil))))) (pw_or1 (pt_not (pt_val (pe_callB call_isT (by rfl) R.mis (by decide +kernel) (pa_cons (pv 5) (pa_cons (val_cls R.mV) pa_nil))))))))) (pss_one (ps_ret pe_bl)) pss_nil))))
      (pss_one (ps_ret (pe_not (pe_callB (cr_any rfl) (by rfl) R.many (by decide +kernel) (pa_cons (pe_lst (pa_cons (pe_cmpR op_in_seq pe_bl (pe_df R.dkinds hr (by decide) (pa_cons (pe_bx (by rfl) R.mV (pa_cons pe_str pa_nil)) pa_nil)) (by rfl)) (pa_cons (pe_callB call_isT (by rfl) R.mis (by decide +kernel) (pa_cons (pe_bx (by rfl) R.mV (pa_cons pe_str pa_nil)) (pa_cons (view_cls R.view) pa_nil))) pa_nil))) pa_nil)))))))))))), ?_⟩
    refine ⟨_, rfl, a, ns, rfl, hS, hl, fun H1 p s1 n1 hh => ?_⟩
    refine ⟨_, rfl, p, rfl, fun H2 l as s2 n2 e2 mk => ?_⟩
    have l35 : (as.map V.ref).length = 35 := by
      rw [List.length_map, ← Paired.length mk]
      rfl
    have hh2 : HandP H2 p := hh.keep (p := p) s2
    refine ⟨_, rfl, l, _, rfl, .inl (SqL.of e2), rfl, _, rfl, ?_⟩
    rw [l35]
    refine iteF ?_
    refine ⟨_, rfl, p, rfl, hh2, fun v d H3 hh3 k3 th => ?_⟩
    have hne : l ≠ p := ne_of_lst e2 hh2 (by rw [l35]; decide)
    have el3 : H3 l = some (.lst (as.map V.ref)) := k3 _ _ hne e2
    have mk3 : Made K H3 plainN as := mk.keep k3 hh2
    refine ⟨_, rfl, v, rfl, fun H4 q4 ts s4 n4 e4 pf => ?_⟩
    obtain ⟨bs, fb, tb⟩ := filled_split pf
    have th4 := th.same s4
    have mk4 := mk3.same s4
    have el4 := s4 _ _ el3
    refine ⟨_, rfl, q4, rfl, ⟨_, SqL.of e4⟩, fun D hD => ?_⟩
    refine lc_list (xs := ts.map V.ref) (fun i H' => Same H4 H' ∧ H' D = some (.lst ((List.replicate i true).map V.bl))) ⟨Same.up hD, upd_same⟩ (fun i H' _ e => SqL.of (e.1 _ _ e4)) (fun i x H' hx e => ?_) (fun H5 e => ?_)
    · obtain ⟨t, ht, rfl⟩ := map_at hx
      obtain ⟨b, hb⟩ := tup_at tb ht
      have hd := th4.dd.same e.1
      refine ⟨t, [.ref b, v], rfl, .inl (.inl (e.1 _ _ hb)), rfl, _, _, rfl, _, _, rfl, rfl, rfl, ?_⟩
      refine ⟨_, rfl, v, d, rfl, hd, th.sh, th.ok, th.dp, th.sz, _, rfl, v, d, rfl, hd, th.sh, th.ok, th.dp, th.sz, rfl, ?_⟩
      have lt : i < ts.length := (List.getElem?_eq_some_iff.mp ht).1
      have l8 : ts.length = 8 := by rw [← Paired.length pf]; rfl
      refine ⟨_, e.2, sz0 (by rw [List.length_map, List.length_replicate]; omega), ?_, ?_⟩
      · intro c o z
        rw [upd_ne (ne_of_none z hD)]
        exact e.1 c o z
      · rw [upd_same, decide_eq_true rfl, List.replicate_succ', List.map_append]
        rfl
    refine ⟨D, _, rfl, SqL.of e.2, _, rfl, ?_⟩
    rw [all_true]
    refine iteF ?_
    have s5 := e.1
    have e45 := s5 _ _ e4
    refine ⟨_, rfl, _, rfl, q4, rfl, ⟨_, SqL.of e45⟩, fun D2 hD2 => ?_⟩
    refine lc_list (xs := ts.map V.ref) (fun i H' => Same H5 H' ∧ H' D2 = some (.lst ((bs.take i).map V.ref))) ⟨Same.up hD2, upd_same⟩ (fun i H' _ e => SqL.of (e.1 _ _ e45)) (fun i x H' hx e => ?_) (fun H6 e => ?_)
    · obtain ⟨t, ht, rfl⟩ := map_at hx
      obtain ⟨b, hb, hbi⟩ := tup_at2 tb ht
      refine ⟨t, [.ref b, v], rfl, .inl (.inl (e.1 _ _ (s5 _ _ hb))), rfl, _, _, rfl, _, _, rfl, rfl, rfl, _, rfl, ?_⟩
      have lt : i < ts.length := (List.getElem?_eq_some_iff.mp ht).1
      have l8 : ts.length = 8 := by rw [← Paired.length pf]; rfl
      refine ⟨_, e.2, sz0 (by rw [List.length_map, List.length_take]; omega), ?_, ?_⟩
      · intro c o z
        rw [upd_ne (ne_of_none z hD2)]
        exact e.1 c o z
      · rw [upd_same, List.take_add_one, hbi, List.map_append]
        rfl
    have l8 : ts.length = 8 := by rw [← Paired.length pf]; rfl
    have b8 : bs.length = 8 := by rw [← Paired.length fb]; rfl
    have eD2 : H6 D2 = some (.lst (bs.map V.ref)) := by
      rw [e.2, List.length_map, l8, List.take_of_length_le (by omega)]
    have s6 := s5.trans e.1
    refine ⟨l, D2, _, _, rfl, rfl, s6 _ _ el4, eD2, sz1 (by rw [l35, List.length_map, b8]; decide), fun C hC => ⟨C, rfl, ⟨_, SqL.of upd_same⟩, ?_⟩⟩
    have s7 := s6.trans (Same.up (o := .lst (as.map V.ref ++ bs.map V.ref)) hC)
    have eC : (upd H6 C (.lst (as.map V.ref ++ bs.map V.ref))) C = some (.lst (as.map V.ref ++ bs.map V.ref)) := upd_same
    have all7 : ∀ x ∈ as.map V.ref ++ bs.map V.ref, ∃ e y fs, x = V.ref e ∧ y ∈ cls ∧ XAt (upd H6 C (.lst (as.map V.ref ++ bs.map V.ref))) e (He.ga K y) fs := each (mk4.same s7) (MadeF.same fb s7)
    generalize upd H6 C (.lst (as.map V.ref ++ bs.map V.ref)) = H7 at s7 eC all7 ⊢
    refine for_list (xs := as.map V.ref ++ bs.map V.ref) (fun _ σ H' => Same H7 H' ∧ ∃ x5 x7, σ = [some (.ref a), some (.ref p), some (.ref l), some v, some (.ref q4), x5, none, x7]) ⟨Same.refl _, none, none, rfl⟩ (fun i σ H' _ z => SqL.of (z.1 _ _ eC)) (fun i x σ H' hx z => ?_) (fun σ H8 z => ?_)
    · obtain ⟨s8, x5, x7, rfl⟩ := z
      obtain ⟨e, y, fs, rfl, hy, xa⟩ := all7 x (List.mem_of_getElem? hx)
      have ty {H9 : Hp} (s9 : Same H7 H9) : XTy K H9 e (.ref (He.ga K y)) := .inl ⟨_, fs, xa.same s9, R.tx.xcl y hy, rfl⟩
      refine ⟨_, rfl, e, .ref (He.ga K y), (fun z => decide (y = z)), rfl, ty s8, R.tx.kk y hy, fun H9 k9 s9 n9 e9 => ?_⟩
      have s79 := s8.trans s9
      refine ⟨_, rfl, .inl ⟨rfl, _, SqL.of e9⟩, k9, _, _, rfl, rfl, SqL.of e9, rfl, flats _, rfl, _, rfl, ?_⟩
      rw [cnt1 y hy]
      refine iteF ?_
      refine ⟨_, rfl, e, _, _, _, _, rfl, .own _, ty s79, R.tx.kv y hy, _, rfl, iteF ?_⟩
      refine ⟨_, rfl, e, _, _, _, _, rfl, .ty _, ty s79, R.tx.ke y hy, _, rfl, iteF ?_⟩
      exact ⟨s79, _, _, rfl⟩
    · obtain ⟨s8, x5, x7, rfl⟩ := z
      refine ⟨by decide, fun z1 hz1 => ⟨z1, .type "ValueError", (fun _ => false), rfl, .inr ⟨upd_same, rfl⟩, R.tx.kb, fun H9 k9 s9 n9 e9 => ⟨k9, _, rfl, .inl (SqL.of e9), rfl, flats _, ?_⟩⟩⟩
      refine ⟨by decide, fun z2 hz2 => ⟨z2, _, _, _, false, rfl, .own _, .inr ⟨upd_same, rfl⟩, R.tx.kw, sz1 (by decide : 2 ≤ 1000), fun L hL => ⟨L, [inV (.bl true) (cls.map fun _ => .bl false), false], rfl, SqL.of upd_same, ?_⟩⟩⟩
      rw [none_in]
      exact ⟨_, rfl, q _⟩
end
end Sv
namespace Sv
open PySem PySem.Spec PyProof.Rows L2 Gd Hd Xv
/-! ### the head: facts by names, the run -/
def dHand : He.DefD := ⟨("_law_hand", none), "_law_hand", "_law_hand", defArgs sHand, defBody sHand, defScope sHand, [], []⟩
def dDraw : He.DefD := ⟨("_law_draw", none), "_law_draw", "_law_draw", defArgs sDraw, defBody sDraw, defScope sDraw, [], []⟩
def dSome : He.DefD := ⟨("_law_some", none), "_law_some", "_law_some", defArgs sSome, defBody sSome, defScope sSome, [], []⟩
def dKinds : He.DefD := ⟨("_law_kinds", none), "_law_kinds", "_law_kinds", defArgs sKinds, defBody sKinds, defScope sKinds, [], []⟩
def dPlain : He.DefD := ⟨("_law_plain", none), "_law_plain", "_law_plain", defArgs sPlain, defBody sPlain, defScope sPlain, [], []⟩
def dFilled : He.DefD := ⟨("_law_filled", none), "_law_filled", "_law_filled", defArgs sFilled, defBody sFilled, defScope sFilled, [], []⟩
def dThing : He.DefD := ⟨("_law_thing", none), "_law_thing", "_law_thing", defArgs sThing, defBody sThing, defScope sThing, [], []⟩
def dLaw : He.DefD := ⟨("law", none), "law", "law", defArgs sLaw, defBody sLaw, defScope sLaw, [], []⟩
def dI0 : He.DefD := ⟨("ViewError", some "__init__"), "__init__", "ViewError.__init__", defArgs sInit0, defBody sInit0, defScope sInit0, [], []⟩
def dBadDisk : He.DefD := ⟨("BadDisk", some "__init__"), "__init__", "BadDisk.__init__", defArgs sBadDisk, defBody sBadDisk, defScope sBadDisk, [], []⟩
def dBadKept : He.DefD := ⟨("BadKept", some "__init__"), "__init__", "BadKept.__init__", defArgs sBadKept, defBody sBadKept, defScope sBadKept, [], []⟩
def dBadStore : He.DefD := ⟨("BadStore", some "__init__"), "__init__", "BadStore.__init__", defArgs sBadStore, defBody sBadStore, defScope sBadStore, [], []⟩
def dBadText : He.DefD := ⟨("BadText", some "__init__"), "__init__", "BadText.__init__", defArgs sBadText, defBody sBadText, defScope sBadText, [], []⟩
def dBarred : He.DefD := ⟨("Barred", some "__init__"), "__init__", "Barred.__init__", defArgs sBarred, defBody sBarred, defScope sBarred, [], []⟩
def dFull : He.DefD := ⟨("Full", some "__init__"), "__init__", "Full.__init__", defArgs sFull, defBody sFull, defScope sFull, [], []⟩
def dNotYet : He.DefD := ⟨("NotYet", some "__init__"), "__init__", "NotYet.__init__", defArgs sNotYet, defBody sNotYet, defScope sNotYet, [], []⟩
def dTooMany : He.DefD := ⟨("TooMany", some "__init__"), "__init__", "TooMany.__init__", defArgs sTooMany, defBody sTooMany, defScope sTooMany, [], []⟩
def fn : List He.DefD := [dHand, dDraw, dSome, dKinds, dPlain, dFilled, dThing, dLaw, dI0, dBadDisk, dBadKept, dBadStore, dBadText, dBarred, dFull, dNotYet, dTooMany]
def fa : List He.Fa := [.glo "_law_hand", .glo "_law_draw", .glo "_law_some", .glo "_law_kinds", .glo "_law_plain", .glo "_law_filled", .glo "_law_thing", .glo "law", .glo "ViewError", .free "abs", .free "int", .free "len", .free "list", .free "zip", .free "isinstance", .free "all", .free "any", .free "repr", .free "ValueError"]
def obs (g : Addr → Option Obj) : Bool × He.AlD := (chk (He.frG g (He.asD g 5)), He.obsD fa fn (He.frG g (He.asD g 5)))
def hk : PySem.W.Hook where
  α := Bool × He.AlD
  obs := fun s => obs s.heap.get?
  val := fun _ => (true, He.valD fn)
  says := fun _ h => ∃ K : PySem.W.Frag, K.In h ∧ chk K = true ∧ He.SaysD fa fn K
  of := fun _ _ e => ⟨_, He.frG_in, congrArg (fun z : Bool × He.AlD => z.1) e, congrArg (fun z : Bool × He.AlD => z.2) e⟩
  keeps := fun _ _ _ ⟨K, hK, c⟩ k => ⟨K, PySem.W.Frag.In.keeps hK k, c⟩
def ob (s : PySem.W.SharedT) : Bool × He.AlD := obs (HandSHeadRun.getT s)
theorem ob_eq (s : PySem.W.SharedT) : ob s = hk.obs s.abs := by
  show obs (HandSHeadRun.getT s) = obs s.abs.heap.get?
  rw [show HandSHeadRun.getT s = s.abs.heap.get? from funext (HandSHeadRun.getT_eq s)]
theorem facts {P : Program} {w : World} {K : PySem.W.Frag} {h : Heap} {mg : Str → Option Value} {f : Addr} (X : K.In h) (G : h.Ns mainGlobals mg) (hfa : mg ("law" : Str) = some (.ref f)) (ck : chk K = true) (c : He.SaysD fa fn K) :
    ∃ fd : FuncData, (∀ (s : Shared) (v : Value), BindsTo s fd ⟨[v], []⟩ [("script", v)]) ∧ ∀ base : Heap, K.In base → base.Ns mainGlobals mg → FnG P w K mg base 4 f fd ["script"] (spLaw K) := by
  obtain ⟨fdHand, FHand⟩ := c.def_ 0 (d := dHand) rfl
  obtain ⟨fdDraw, FDraw⟩ := c.def_ 1 (d := dDraw) rfl
  obtain ⟨fdSome, FSome⟩ := c.def_ 2 (d := dSome) rfl
  obtain ⟨fdKinds, FKinds⟩ := c.def_ 3 (d := dKinds) rfl
  obtain ⟨fdPlain, FPlain⟩ := c.def_ 4 (d := dPlain) rfl
  obtain ⟨fdFilled, FFilled⟩ := c.def_ 5 (d := dFilled) rfl
  obtain ⟨fdThing, FThing⟩ := c.def_ 6 (d := dThing) rfl
  obtain ⟨fdLaw, FLaw⟩ := c.def_ 7 (d := dLaw) rfl
  obtain ⟨fdI0, FI0⟩ := c.def_ 8 (d := dI0) rfl
  obtain ⟨fdBadDisk, FBadDisk⟩ := c.def_ 9 (d := dBadDisk) rfl
  obtain ⟨fdBadKept, FBadKept⟩ := c.def_ 10 (d := dBadKept) rfl
  obtain ⟨fdBadStore, FBadStore⟩ := c.def_ 11 (d := dBadStore) rfl
  obtain ⟨fdBadText, FBadText⟩ := c.def_ 12 (d := dBadText) rfl
  obtain ⟨fdBarred, FBarred⟩ := c.def_ 13 (d := dBarred) rfl
  obtain ⟨fdFull, FFull⟩ := c.def_ 14 (d := dFull) rfl
  obtain ⟨fdNotYet, FNotYet⟩ := c.def_ 15 (d := dNotYet) rfl
  obtain ⟨fdTooMany, FTooMany⟩ := c.def_ 16 (d := dTooMany) rfl
  have e := hfa.symm.trans (He.glo_ok X G (c.fact 7 (f := .glo "law") rfl))
  cases e
  have b := FunD.bindsA (ps := ["script"]) FLaw (fun _ _ _ _ _ _ us hl => match us, hl with | [_], _ => rfl)
  have tx := tx_ok X G ck
  refine ⟨fdLaw, fun s v => b s [v] rfl, fun base _ _ => ?_⟩
  have eHand : Df P w K mg base "_law_hand" 1 ["script"] (spHand K) := ⟨_, _, (He.glo_ok X G (c.fact 0 (f := .glo "_law_hand") rfl)), FHand.kp, FHand.bindsN (fun _ _ _ _ _ _ us hl => match us, hl with | [_], _ => rfl), ok_hand FHand (He.free_ok X G (c.fact 9 (f := .free "abs") rfl)) (He.free_ok X G (c.fact 10 (f := .free "int") rfl)) (He.free_ok X G (c.fact 11 (f := .free "len") rfl))⟩
  have eDraw : Df P w K mg base "_law_draw" 1 ["hand", "many"] spDraw := ⟨_, _, (He.glo_ok X G (c.fact 1 (f := .glo "_law_draw") rfl)), FDraw.kp, FDraw.bindsN (fun _ _ _ _ _ _ us hl => match us, hl with | [_, _], _ => rfl), ok_draw FDraw (He.free_ok X G (c.fact 10 (f := .free "int") rfl)) (He.free_ok X G (c.fact 11 (f := .free "len") rfl))⟩
  have eSome : Df P w K mg base "_law_some" 2 ["hand", "things"] (spSome K) := ⟨_, _, (He.glo_ok X G (c.fact 2 (f := .glo "_law_some") rfl)), FSome.kp, FSome.bindsN (fun _ _ _ _ _ _ us hl => match us, hl with | [_, _], _ => rfl), ok_some FSome eDraw (He.free_ok X G (c.fact 11 (f := .free "len") rfl))⟩
  have eKinds : Df P w K mg base "_law_kinds" 1 ["one"] (spKinds K) := ⟨_, _, (He.glo_ok X G (c.fact 3 (f := .glo "_law_kinds") rfl)), FKinds.kp, FKinds.bindsN (fun _ _ _ _ _ _ us hl => match us, hl with | [_], _ => rfl), ok_kinds FKinds tx (He.free_ok X G (c.fact 14 (f := .free "isinstance") rfl))⟩
  have i0 : DI0 P w K mg base := ⟨_, ok_init0 FI0, FI0.bindsN (fun _ _ _ _ _ _ us hl => match us, hl with | [_], _ => rfl)⟩
  have i1 : DI1 P w K mg base := by
    intro q hq
    rcases List.mem_cons.mp hq with rfl | hq
    · exact ⟨_, ok_BadDisk FBadDisk, FBadDisk.bindsN (fun _ _ _ _ _ _ us hl => match us, hl with | [_, _], _ => rfl)⟩
    rcases List.mem_cons.mp hq with rfl | hq
    · exact ⟨_, ok_BadKept FBadKept, FBadKept.bindsN (fun _ _ _ _ _ _ us hl => match us, hl with | [_, _], _ => rfl)⟩
    rcases List.mem_cons.mp hq with rfl | hq
    · exact ⟨_, ok_BadStore FBadStore, FBadStore.bindsN (fun _ _ _ _ _ _ us hl => match us, hl with | [_, _], _ => rfl)⟩
    rcases List.mem_cons.mp hq with rfl | hq
    · exact ⟨_, ok_BadText FBadText, FBadText.bindsN (fun _ _ _ _ _ _ us hl => match us, hl with | [_, _], _ => rfl)⟩
    rcases List.mem_cons.mp hq with rfl | hq
    · exact ⟨_, ok_Barred FBarred, FBarred.bindsN (fun _ _ _ _ _ _ us hl => match us, hl with | [_, _], _ => rfl)⟩
    rcases List.mem_cons.mp hq with rfl | hq
    · exact ⟨_, ok_Full FFull, FFull.bindsN (fun _ _ _ _ _ _ us hl => match us, hl with | [_, _], _ => rfl)⟩
    rcases List.mem_cons.mp hq with rfl | hq
    · exact ⟨_, ok_NotYet FNotYet, FNotYet.bindsN (fun _ _ _ _ _ _ us hl => match us, hl with | [_, _], _ => rfl)⟩
    rcases List.mem_cons.mp hq with rfl | hq
    · exact ⟨_, ok_TooMany FTooMany, FTooMany.bindsN (fun _ _ _ _ _ _ us hl => match us, hl with | [_, _], _ => rfl)⟩
    cases hq
  exact ok_law FLaw {
    tx := tx
    dhand := eHand
    dplain := ⟨_, _, (He.glo_ok X G (c.fact 4 (f := .glo "_law_plain") rfl)), FPlain.kp, FPlain.bindsN (fun _ _ _ _ _ _ us hl => match us, hl with | [_], _ => rfl), ok_plain FPlain tx i0⟩
    dthing := ⟨_, _, (He.glo_ok X G (c.fact 6 (f := .glo "_law_thing") rfl)), FThing.kp, FThing.bindsN (fun _ _ _ _ _ _ us hl => match us, hl with | [_], _ => rfl), ok_thing FThing eSome⟩
    dfilled := ⟨_, _, (He.glo_ok X G (c.fact 5 (f := .glo "_law_filled") rfl)), FFilled.kp, FFilled.bindsN (fun _ _ _ _ _ _ us hl => match us, hl with | [_], _ => rfl), ok_filled FFilled tx i1 (He.free_ok X G (c.fact 12 (f := .free "list") rfl)) (He.free_ok X G (c.fact 13 (f := .free "zip") rfl))⟩
    dkinds := eKinds
    view := (He.glo_ok X G (c.fact 8 (f := .glo "ViewError") rfl))
    mV := (He.free_ok X G (c.fact 18 (f := .free "ValueError") rfl))
    mlen := (He.free_ok X G (c.fact 11 (f := .free "len") rfl))
    mall := (He.free_ok X G (c.fact 15 (f := .free "all") rfl))
    many := (He.free_ok X G (c.fact 16 (f := .free "any") rfl))
    mrepr := (He.free_ok X G (c.fact 17 (f := .free "repr") rfl))
    mis := (He.free_ok X G (c.fact 14 (f := .free "isinstance") rfl)) }
end Sv
namespace Sv
open PySem PySem.Spec PyProof.Rows L2 Gd Hd Xv
abbrev R : PySem.W.OpenRow := PySem.W.OpenLaw.row PySem.Challenge.rw_shownviews_k00_errors_and_their_fields
def loose1 : List Str := ["ViewError", "BadDeed", "BadDisk", "BadKept", "BadStore", "BadText", "Barred", "Down", "Full", "Here", "NoArea", "NoBook", "NoClosed", "NoDeed", "NoEdit", "NoFact", "NoFacts", "NoLetter", "NoLife", "NoLot", "NoMark", "NoName", "NoNumber", "NoPattern", "NoPlan", "NoPrime", "NoRoot", "NoRow", "NoRows", "NoRule"]
def loose2 : List Str := ["NoSchema", "NoShowing", "NoStore", "NoStretch", "NoTables", "NoText", "NoView", "NotHere", "NotYet", "OtherPrime", "OtherSchema", "TooMany", "TooSmall", "Unsafe", "_law_hand", "_law_draw", "_law_some", "_law_kinds", "_law_plain", "_law_filled", "_law_thing"]
abbrev loose : List Str := loose1 ++ loose2
theorem run (w : World) : HandSHeadRun.RunEq R (PySem.W.view R.prog [53]) hk ob 12000 loose w := by
  intro os
  kernel_rfl
end Sv
open PySem PySem.W PySem.Calls PyProof.Rows
theorem PySem.Challenge.cw_shownviews_k00_errors_and_their_fields_holds : PySem.Challenge.rw_shownviews_k00_errors_and_their_fields.Holds := by
  w_on; o_law
  refine HandSHeadRun.head_any (r := Sv.R) (q := view Sv.R.prog [53]) (H := Sv.hk) (ob := Sv.ob) (M := 12000) (loose := Sv.loose) (d := HandSHeadRun.topDef Sv.R.prog 53) (kwd := []) Sv.ob_eq
    (by kernel_rfl) (fun s => by kernel_rfl) Sv.run (by kernel_rfl) (by kernel_rfl) (by kernel_rfl) (by rfl) (by first | assumption | decide +kernel) (by decide +kernel) ⟨rfl, rfl, rfl, rfl, rfl, by decide +kernel⟩ ?hw ?hc
  case hw => w_witness2
  case hc =>
    refine Gd.walkG (l := PySem.Challenge.rw_shownviews_k00_errors_and_their_fields) (n := 63) (k := 4) (x := "script") rfl (by decide) (by kernel_rfl) ⟨rfl, by decide, by decide⟩ ?F
    intro w mg fa h Y G hmg0
    obtain ⟨K, KX, ck, c⟩ := Y
    have hmg : mg ("law" : PySem.Str) = some (.ref fa) := by
      have e : (HandSHeadRun.topDef Sv.R.prog 53).name = ("law" : PySem.Str) := by kernel_rfl
      rw [← e]
      exact hmg0
    obtain ⟨fd, hb, hF⟩ := Sv.facts (P := (PySem.Challenge.rw_shownviews_k00_errors_and_their_fields).prog) (w := w) KX G hmg ck c
    exact ⟨K, fd, Sv.spLaw K, KX, hb, fun H a ns hl _ hS => ⟨a, ns, rfl, hS, hl, fun _ => rfl⟩, hF⟩
