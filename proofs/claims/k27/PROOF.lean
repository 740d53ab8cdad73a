import PyProof.Rows.All
import Wide.All
import OpenK.AllK
import Wide.FinOn
import KE.KStateDown
import KE.KExcIs
import HandS.ForMost
import HandS.WordsExc
import HandS.Defaults
import HandS.More
import HandS.IsInst
import HandS.ExcInit
import HandS.HeadHook1
import HandS.HeadHook2
import HandS.Codes
import HandS.Head0
import HandS.Head1
import HandS.Head2
import HandS.HeadEnd
import HandS.TupAny
import HandS.Lambda
import HandS.Text
import HandS.Comp
import HandS.ReplaceLit
import HandS.ReplaceList
import HandS.ReplaceDef
import HandS.FStr
import HandS.Wide
import HandS.Small
import PyProof.StrBlock2
import HandS.TupMul
import PyProof.ReprRoads
import HandS.ExcIs
import HandS.Flow
import HandS.Style
import HandS.HeadWalk
import HandS.HeadHook4
import PySem.Challenge.RW_shownviews_k27_whole_mixing_texts_number
set_option Elab.async false
set_option linter.all false
set_option maxRecDepth 100000
set_option maxHeartbeats 0
/-! Exceptions of the program's own classes as values: made, asked by isinstance, their fields read. -/
namespace Xv
open PySem PySem.Spec PyProof.Rows L2
/-! ### a class, by one look at the written part -/
def oexB (K : PySem.W.Frag) (C : Addr) : Bool := match K.lookup C with
  | some ⟨.type t, _, .cls cd, sl⟩ => (match cd.mro, sl.toList with
    | .ref C' :: bm, [_, _, _, _, some (.builtin n), _] => decide (t = "type") && (decide (C' = C) && (decide (n = "ValueError.__new__") && (!cd.hasDel && (cd.hasDict && PySem.HandSPX.refsVE bm))))
    | _, _ => false)
  | _ => false
def xclB (K : PySem.W.Frag) (C : Addr) : Bool := oexB K C && (He.eqO (PySem.W.findIn K (.ref C) "__setattr__") (some (some (.builtin "object.__setattr__"))) && (decide (PySem.W.subIn K (.ref C) (.type "BaseException") = some true) && (decide (PySem.W.typeIn K (.ref C) = some (.type "type")) &&
  (PySem.W.keepIn K (.ref C) && ((PySem.W.clsIn K C).isSome && (He.eqO (PySem.W.findIn K (.ref C) "__getattribute__") (some (some (.builtin "BaseException.__getattribute__"))) && (He.eqO (PySem.W.findIn K (.ref C) "__getattr__") (some none) &&
  (He.eqO (PySem.W.findIn K (.ref C) "__class__") (some (some (.builtin "object.__class__"))) && (decide (PySem.W.mroIn K C (.type "object") = some true) && (PySem.W.hasDictIn K C &&
  (He.eqO (PySem.W.specialIn K (.builtin "object.__class__") "__get__") (some (some (.builtin "getset_descriptor.__get__"))) && decide (PySem.W.takesIn K (.builtin "object.__class__") = some true))))))))))))
structure XCl (K : PySem.W.Frag) (C : Addr) : Prop where
  oex : OexC K C
  cl : (PySem.W.clsIn K C).isSome = true
  ga : PySem.W.findIn K (.ref C) "__getattribute__" = some (some (.builtin "BaseException.__getattribute__"))
  gt : PySem.W.findIn K (.ref C) "__getattr__" = some none
  ca : PySem.W.findIn K (.ref C) "__class__" = some (some (.builtin "object.__class__"))
  mo : PySem.W.mroIn K C (.type "object") = some true
  hd : PySem.W.hasDictIn K C = true
  gn : PySem.W.specialIn K (.builtin "object.__class__") "__get__" = some (some (.builtin "getset_descriptor.__get__"))
  tk : PySem.W.takesIn K (.builtin "object.__class__") = some true
theorem xcl_ok {K : PySem.W.Frag} {C : Addr} (h : xclB K C = true) : XCl K C := by
  obtain ⟨h1, h⟩ := He.ba h
  obtain ⟨h2, h⟩ := He.ba h
  obtain ⟨h3, h⟩ := He.ba h
  obtain ⟨h4, h⟩ := He.ba h
  obtain ⟨h5, h⟩ := He.ba h
  obtain ⟨h6, h⟩ := He.ba h
  obtain ⟨h7, h⟩ := He.ba h
  obtain ⟨h8, h⟩ := He.ba h
  obtain ⟨h9, h⟩ := He.ba h
  obtain ⟨h10, h⟩ := He.ba h
  obtain ⟨h11, h⟩ := He.ba h
  obtain ⟨h12, h13⟩ := He.ba h
  refine ⟨⟨?_, He.eqO_ok h2, of_decide_eq_true h3, of_decide_eq_true h4, h5⟩, h6, He.eqO_ok h7, He.eqO_ok h8, He.eqO_ok h9, of_decide_eq_true h10, h11, He.eqO_ok h12, of_decide_eq_true h13⟩
  unfold oexB at h1
  split at h1
  case h_2 => cases h1
  case h_1 t dd cd sl ho =>
    split at h1
    case h_2 => cases h1
    case h_1 C' bm k0 k1 k2 k3 n k5 hm hs =>
      obtain ⟨a1, h1⟩ := He.ba h1
      obtain ⟨a2, h1⟩ := He.ba h1
      obtain ⟨a3, h1⟩ := He.ba h1
      obtain ⟨a4, h1⟩ := He.ba h1
      obtain ⟨a5, a6⟩ := He.ba h1
      have e1 := of_decide_eq_true a1
      have e2 := of_decide_eq_true a2
      have e3 := of_decide_eq_true a3
      subst e1 e2 e3
      obtain ⟨nm, bs, mro, ns, qn, hd, sn, sub, ab, col, del⟩ := cd
      dsimp only at hm a4 a5
      have e4 : del = false := by cases del <;> first | rfl | cases a4
      subst hm e4 a5
      have e5 : sl = #[k0, k1, k2, k3, some (.builtin "ValueError.__new__"), k5] := by
        obtain ⟨l⟩ := sl
        dsimp only at hs
        rw [hs]
      subst e5
      exact ⟨nm, qn, ns, bs, bm, sn, sub, ab, col, dd, k0, k1, k2, k3, k5, ho, a6⟩
/-- an exception stands at a: its class C, its fields (none: it has no dict) -/
def XAt (H : Hp) (a C : Addr) : Option (List (Str × V)) → Prop
  | none => H a = some (exo a C none)
  | some fs => ∃ dx, H a = some (exo a C (some dx)) ∧ H dx = some (exd dx fs)
theorem XAt.same {H H' : Hp} {a C : Addr} {fs : Option (List (Str × V))} (h : XAt H a C fs) (k : ∀ b o, H b = some o → H' b = some o) : XAt H' a C fs := by
  cases fs with
  | none => exact k _ _ h
  | some fs =>
    obtain ⟨dx, h1, h2⟩ := h
    exact ⟨dx, k _ _ h1, k _ _ h2⟩
theorem XAt.get {P : Program} {w : World} {H : Hp} {h : Heap} {a C : Addr} {fs : Option (List (Str × V))} (x : XAt H a C fs) (ok : HOk P w H h) : ∃ ox od, PySem.W.InstAt h a ox C od := by
  cases fs with
  | none =>
    obtain ⟨t1, e⟩ := exo_at ok x
    exact ⟨_, none, e, rfl, rfl, trivial⟩
  | some fs =>
    obtain ⟨dx, h1, h2⟩ := x
    obtain ⟨t1, e⟩ := exo_at ok h1
    obtain ⟨mA, hn, _⟩ := exd_at ok h2
    obtain ⟨od, ho, _⟩ := lookIn_ns hn
    exact ⟨_, some od, e, rfl, rfl, ho⟩
section
variable {X : Cx}
/-! ### isinstance -/
def rIsX (K : PySem.W.Frag) : List V → Hp → VK → Prop := fun xs H Q => ∃ (a C : Addr) (fs : Option (List (Str × V))) (c : V) (u : Value) (b : Bool), xs = [.ref a, c] ∧ ClsV c u ∧ XAt H a C fs ∧ XCl K C ∧ PySem.W.kitOne K (.ref C) u = some b ∧ Q (.bl b) H
theorem call_isX : CallR X (.builtin "isinstance") (rIsX X.K) := by
  intro pins s σ H xs us Q I r h
  obtain ⟨a, C, fs, c, u, b, rfl, k, xa, T, e, q⟩ := h
  obtain ⟨u1, u2, rfl, r1, r2⟩ := vals2 r
  have e2 := k.eq r2
  subst e2
  cases (show u1 = Value.ref a from r1)
  obtain ⟨ox, od, J⟩ := xa.get I.hok
  exact PySem.W.kia_one (PySem.W.kitx_exc (x := a) (od := od) T.cl T.ga T.gt T.oex.exC T.ca T.gn T.tk T.mo) I.kIn J e (fun z => nomatch z) fun tk => ⟨.bl b, H, I.tok tk, rfl, q⟩
/-! ### a field -/
def tXf (K : PySem.W.Frag) (f : Str) (te : TE) : TE := fun σ H Q => te σ H fun x H1 => ∃ (a C : Addr) (fs : List (Str × V)) (v : V), x = .ref a ∧ XAt H1 a C (some fs) ∧ XCl K C ∧ PySem.W.findIn K (.ref C) f = some none ∧ fs.lookup f = some v ∧ Q v H1
theorem pe_xf {e : Expr} {te : TE} {f : Str} {pos : Pos} (he : PE X e te) (hb : attributeBase e f X.env (eval e X.env) = eval e X.env := by rfl) : PE X (.Attribute e f pos) (tXf X.K f te) := by
  refine ⟨fun pins s σ H Q I h => ?_⟩
  refine attr_of hb (thn (he.run pins s σ H _ I h) fun u s1 hh => ?_)
  obtain ⟨x, H1, I1, rx, a, C, fs, v, ex, xa, T, hno, el, q⟩ := hh
  subst ex
  obtain rfl : u = Value.ref a := rx
  obtain ⟨dx, h1, h2⟩ := xa
  obtain ⟨t1, eo⟩ := exo_at I1.hok h1
  obtain ⟨mA, hn, hr⟩ := exd_at I1.hok h2
  obtain ⟨od, ho, hl⟩ := lookIn_ns hn
  obtain ⟨u, hu, ru⟩ := RelO.some_of (v := v) (o := mA f) (by rw [← el]; exact hr f)
  have J : PySem.W.InstAt s1.heap a { cls := .ref C, dict := some dx, data := .fields #[.ref t1, .none, .none, .none, .bool false, .none] } C (some od) := ⟨eo, rfl, rfl, ho⟩
  exact HandSPX.exc_get I1.kIn J T.ga T.gt T.oex.exC (PySem.W.findObj_own T.hd hno rfl (by rw [hl, hu])) (handed_of ru) ⟨v, H1, I1.tok _, ru, q⟩
/-! ### made -/
def tXm (C : Addr) (sp : Sp) (ta : TA) : TE := fun σ H Q => ta σ H fun vs H1 => ∀ a, H1 a = none → sp (.ref a :: vs) (upd H1 a (exo a C none)) (fun v H2 => v = .non ∧ Q (.ref a) H2) E0
theorem xmade {pins : List (Addr × Obj)} {σ : L2.St} {H1 : Hp} {s1 : Shared} {Q : VK} {C fI : Addr} {k : Nat} {fd : FuncData} {ps : List Str} {sp : Sp} {vs : List V} {us : List Value} (T : OexC X.K C) (iC : PySem.W.findIn X.K (.ref C) "__init__" = some (some (.ref fI)))
    (tI : PySem.W.typeIn X.K (.ref fI) = some (.type "function")) (F1 : FnOk X.prog X.w X.K X.mg X.base CX0 k fI fd ps sp) (hr : Room (k + 1) X.A) (hb : Binds X.K fd ps []) (I1 : Inv X pins σ H1 s1) (r1 : Vals vs us) (hz : us.length ≤ sizeLine)
    (q1 : ∀ a, H1 a = none → sp (.ref a :: vs) (upd H1 a (exo a C none)) (fun v H2 => v = .non ∧ Q (.ref a) H2) E0) : wpAny (model X.prog X.w) X.A (call (.ref C) us) (EP X pins σ Q) X.xe s1 := by
  obtain ⟨nm, qn, N, bs, bm, sn, sub, ab, col, dd, k0, k1, k2, k3, k5, hC, hbm⟩ := T.cls
  obtain ⟨hp, g, dr, tk, os⟩ := s1
  have hsz : hp.objs.size ≤ hp.objs.size + 1 := Nat.le_succ _
  have hn : H1 (hp.objs.size + 1) = none := I1.hok.fresh hsz
  have hq := q1 _ hn
  have kk : ∀ b o, hp.get? b = some o → ((hp.push (PySem.W.kdv_tup us)).push (PySem.HandSPX.excO C hp.objs.size)).get? b = some o := fun b o z =>
    Heap.get?_push_of_some _ (Heap.get?_push_of_some _ z)
  have hg2 : ((hp.push (PySem.W.kdv_tup us)).push (PySem.HandSPX.excO C hp.objs.size)).get? (hp.objs.size + 1) = some (PySem.HandSPX.excO C hp.objs.size) := by heap_get
  have I2 := I1.laid (t' := tk) (a := hp.objs.size + 1) (o := exo (hp.objs.size + 1) C none) (h' := (hp.push (PySem.W.kdv_tup us)).push (PySem.HandSPX.excO C hp.objs.size)) kk hsz (exo_ok hg2)
  have r2 : Vals (V.ref (hp.objs.size + 1) :: vs) (Value.ref (hp.objs.size + 1) :: us) := .cons rfl r1
  have hl : ((Value.ref (hp.objs.size + 1) :: us) ++ []).length = ps.length := by
    rw [List.append_nil, ← r2.length]
    exact F1.len _ _ _ _ hq
  have hb2 := hb _ (Value.ref (hp.objs.size + 1) :: us) I2.kIn hl
  rw [List.append_nil] at hb2
  refine wpAny_call (PySem.HandSPX.call_own F.excBase_ValueError (fun Y => PySem.HandSPX.refsVE_contains Y bm hbm) (I1.kIn _ _ hC) (PySem.W.looks_findIn I1.kIn iC) (fun self => PySem.W.bind_fn I1.kIn self tI) hz ?_)
  refine codeAny_mono (F1.run _ X.stack _ _ ⟨_, []⟩ _ _ _ _ (hr.make C us []) (I2.env0.make C us []) hb2 r2 hq) fun r s' hq' => ?_
  cases r with
  | error er => exact hq'.elim
  | ok fl =>
    cases fl with
    | ret u =>
      obtain ⟨v, H2, os2, bare2, un2, hok2, rv, ev, q2⟩ := hq'
      subst ev
      exact ⟨rv, .ref (hp.objs.size + 1), H2, I2.call' (ch := []) os2 un2 hok2 bare2 (fun b z => absurd z (by simp)), rfl, q2⟩
    | next => exact False.elim hq'
    | brk => exact False.elim hq'
    | cont => exact False.elim hq'
theorem pe_xm {x : Str} {C fI : Addr} {k j : Nat} {fd : FuncData} {ps : List Str} {sp : Sp} {e : Expr} {es : List Expr} {ta : TA} {p pos : Pos} (T : OexC X.K C) (iC : PySem.W.findIn X.K (.ref C) "__init__" = some (some (.ref fI))) (tI : PySem.W.typeIn X.K (.ref fI) = some (.type "function"))
    (F1 : FnOk X.prog X.w X.K X.mg X.base CX0 k fI fd ps sp) (hr : Room j X.A) (hj : k + 1 ≤ j) (hb : Binds X.K fd ps []) (hm : X.mg x = some (.ref C)) (ha : PA X (e :: es) ta) (hg : Gl X x := by rfl)
    (hdb : (x == ("__debug__" : Str)) = false := by decide) (he : starEach (e :: es) X.env = (false, eval e X.env) :: starEach es X.env := by rfl) (hpl : (backTo pos (starEach es X.env)).any (·.1) = false := by rfl)
    (hz : ps.length ≤ 1000 := by decide) : PE X (.Call (.Name x p) (e :: es) [] pos) (tXm C sp ta) := by
  refine ⟨fun pins s σ H Q I h => ?_⟩
  refine wpAny_Call_Name_kw (ld_glob I hg hm ?_ hdb)
  refine PySem.W.callWith_K (h₀ := X.base) I.ok.mod.kin T.kC (thn (ha.run pos pins s σ H _ I h) fun us s1 ⟨vs, H1, I1, r1, q1⟩ => ⟨I1.kIn, ?_⟩) he hpl
  have hn : H1 (s1.heap.objs.size) = none := I1.hok.fresh (Nat.le_refl _)
  have hl := F1.len _ _ _ _ (q1 _ hn)
  refine xmade T iC tI F1 (hr.mono hj) hb I1 r1 ?_ q1
  show us.length ≤ sizeLine
  rw [← r1.length, sizeLine_eq]
  have e1 : vs.length + 1 = ps.length := hl
  omega
theorem pe_xm0 {x : Str} {C fI : Addr} {k j : Nat} {fd : FuncData} {ps : List Str} {sp : Sp} {p pos : Pos} (T : OexC X.K C) (iC : PySem.W.findIn X.K (.ref C) "__init__" = some (some (.ref fI))) (tI : PySem.W.typeIn X.K (.ref fI) = some (.type "function"))
    (F1 : FnOk X.prog X.w X.K X.mg X.base CX0 k fI fd ps sp) (hr : Room j X.A) (hj : k + 1 ≤ j) (hb : Binds X.K fd ps []) (hm : X.mg x = some (.ref C)) (hg : Gl X x := by rfl) (hdb : (x == ("__debug__" : Str)) = false := by decide) :
    PE X (.Call (.Name x p) [] [] pos) (tXm C sp tNil) := by
  refine ⟨fun pins s σ H Q I h => ?_⟩
  refine wpAny_Call_Name_kw (ld_glob I hg hm ?_ hdb)
  exact PySem.W.callWith_K0 I.kIn T.kC (xmade (us := []) T iC tI F1 (hr.mono hj) hb I .nil (Nat.zero_le _) h)
end
end Xv
namespace Sm
open PySem PySem.Spec PyProof.Rows L2
def top (i : Nat) : Stmt := PySem.Challenge.pw_shownviews_k27_whole_mixing_texts_number.main.body.getD i (.Pass ⟨0, 0, 0, 0⟩)
abbrev sHand : Stmt := top 31
abbrev sDraw : Stmt := top 32
abbrev sSome : Stmt := top 33
abbrev FnP (K : PySem.W.Frag) (x : Str) (st : Stmt) (f : Addr) (fd : FuncData) : Prop := FunD K x x (defArgs st) (defBody st) (defScope st) [] [] f fd
theorem tst {c : Bool} {A B : Prop} (h1 : c = true → A) (h2 : c = false → B) : if c = true then A else B := by
  cases c with
  | true => exact iteT (h1 rfl)
  | false => exact iteF (h2 rfl)
theorem mod64 (x : Int) {m : Int} (h : 0 < m) (h2 : m < 2 ^ 62) : -(2 ^ 64) < x % m ∧ x % m < 2 ^ 64 := by
  have h1 := Int.emod_nonneg x (show m ≠ 0 by omega)
  have h3 := Int.emod_lt_of_pos x h
  exact ⟨by omega, by omega⟩
/-- all but the object at a is as it was -/
def Keep (a : Addr) (H H' : Hp) : Prop := ∀ b o, b ≠ a → H b = some o → H' b = some o
theorem Keep.refl {a : Addr} {H : Hp} : Keep a H H := fun _ _ _ h => h
theorem Keep.trans {a : Addr} {H H1 H2 : Hp} (x : Keep a H H1) (y : Keep a H1 H2) : Keep a H H2 := fun b o n h => y b o n (x b o n h)
theorem Keep.upd {a : Addr} {H H1 : Hp} {o : HO} (x : Keep a H H1) : Keep a H (upd H1 a o) := fun b u n h => by
  rw [upd_ne n]
  exact x b u n h
theorem Keep.new {a p : Addr} {H H1 : Hp} {o : HO} (x : Keep a H H1) (hp : H p = none) : Keep a H (L2.upd H1 p o) := fun b u n h => by
  rw [upd_ne (ne_of_none h hp)]
  exact x b u n h
/-- the hand of the draws: what stands at a -/
structure Hand (H : Hp) (a c : Addr) (cs : List Int) (i b sd n : Int) : Prop where
  at_ : H a = some (.lst [.ref c, .int i, .int b, .int sd, .int n])
  cells : H c = some (.lst (cs.map V.int))
  len : cs.length ≤ 63
  pos : ∀ x ∈ cs, 0 ≤ x
  i0 : 0 ≤ i
  b0 : 0 ≤ b
  s0 : 0 ≤ sd
  n0 : 0 ≤ n
def HandC (H : Hp) (a c : Addr) : Prop := ∃ cs i b sd n, Hand H a c cs i b sd n
def HandP (H : Hp) (a : Addr) : Prop := ∃ c, HandC H a c
theorem Hand.ne {H : Hp} {a c : Addr} {cs : List Int} {i b sd n : Int} (h : Hand H a c cs i b sd n) : c ≠ a := ne_of h.cells h.at_ (by
  intro z
  injection z with z
  cases cs with
  | nil => cases z
  | cons x r => cases z)
theorem HandP.keep {a p : Addr} {H H' : Hp} (h : HandP H a) (k : ∀ b o, H b = some o → H' b = some o) : HandP H' a := by
  obtain ⟨c, cs, i, b, sd, n, x⟩ := h
  exact ⟨c, cs, i, b, sd, n, k _ _ x.at_, k _ _ x.cells, x.len, x.pos, x.i0, x.b0, x.s0, x.n0⟩
section
variable {P : Program} {w : World} {K : PySem.W.Frag} {mg : Str → Option Value} {base : Heap}
/-! ### the hand -/
def spHand (K : PySem.W.Frag) : Sp := fun vs H Q _ => ∃ (a : Addr) (ns : List Int), vs = [.ref a] ∧ SqL K H a (ns.map V.int) ∧ ns.length ≤ 63 ∧ ∀ H' p, Same H H' → H p = none → HandP H' p → Q (.ref p) H'
theorem scHand : FnScope ["script", "cells", "cell"] ["script"] (defScope sHand) := ⟨rfl, rfl, rfl, by decide +kernel, rfl, by decide +kernel, by decide +kernel⟩
theorem cut63 {α : Type} (f : α → V) (ns : List α) (h : ns.length ≤ 63) : cutV (ns.map f) none (some 63) = ns.map f := by
  unfold cutV
  rw [HT.sIx_none]
  have e : HT.sIx (ns.map f).length (ns.map f).length (some 63) = min 63 (ns.map f).length := HT.sIx_nat _ _ 63
  rw [e, List.length_map, show min 63 ns.length = ns.length by omega]
  show ((ns.map f).drop 0).take (ns.length - 0) = _
  rw [List.drop_zero, Nat.sub_zero]
  exact List.take_of_length_le (by rw [List.length_map]; exact Nat.le_refl _)
def absI (n : Int) : Int := if n < 0 then -n else n
theorem ok_hand {f : Addr} {fd : FuncData} (F : FnP K "_law_hand" sHand f fd) (m1 : mg "abs" = none) (m2 : mg "int" = none) (m3 : mg "len" = none) : FnOk P w K mg base CX0 1 f fd ["script"] (spHand K) := by
  refine F.ok scHand (fun vs H Q E h => ?_) (fun cdv A outer s H vs Q E hr h => ?_)
  · obtain ⟨a, ns, rfl, _⟩ := h
    rfl
  · obtain ⟨a, ns, rfl, hS, hl, q⟩ := h
    refine ⟨_, (pss_cons (ps_setLc (i := 1) (own := [("cell", 2)]) (g := gName 2) (tt := tYes) rfl scHand.nd rfl rfl (sw_true rfl rfl rfl (by decide +kernel)) (pi_list (pe_slice sl_list (pv 0) po_none (po_some pe_int))) (blkOk_by (N := ["script", "cells", "cell"]) (sc := defScope sHand) (by decide +kernel)) (fun _ _ _ _ _ => pg_name (i := 2) scHand.nd rfl (Or.inl rfl)) (fun _ _ _ _ _ => pts_nil) (fun _ _ _ _ _ => (pe_callB call_abs (by rfl) m1 (by decide +kernel) (pa_cons (pe_callTy call_int1 (by rfl) m2 (by decide +kernel) (pa_cons (pv 2) pa_nil)) pa_nil))))
      (pss_one (ps_ret (pe_lst (pa_cons (pv 1) (pa_cons pe_int (pa_cons pe_int (pa_cons (pe_op op_add pe_int (pe_op op_mul pe_int (pe_callB call_len_seq (by rfl) m3 PySem.boot_len (pa_cons (pv 1) pa_nil)))) (pa_cons pe_int pa_nil))))))))), ?_⟩
    refine ⟨_, rfl, _, rfl, a, _, rfl, hS, fun p np => ?_⟩
    rw [show cutV (ns.map V.int) none (some 63) = ns.map V.int from cut63 V.int ns hl]
    refine ⟨p, rfl, ⟨_, SqL.of upd_same⟩, fun D nD => ?_⟩
    have nDp : D ≠ p := fun e => by
      rw [e, upd_same] at nD
      cases nD
    have nD0 : H D = none := by rw [upd_ne nDp] at nD; exact nD
    refine lc_list (xs := ns.map V.int) (fun i H' => H' = upd (upd H p (.lst (ns.map V.int))) D (.lst (((ns.map absI).take i).map V.int))) rfl (fun i H' _ e => ?_) (fun i x H' hx e => ?_) (fun H' e => ?_)
    · rw [e]
      exact SqL.of (by rw [upd_ne nDp.symm, upd_same])
    · subst e
      obtain ⟨n, hn, rfl⟩ : ∃ n, ns[i]? = some n ∧ x = V.int n := by
        rw [List.getElem?_map] at hx
        obtain ⟨n, h1, h2⟩ := Option.map_eq_some_iff.mp hx
        exact ⟨n, h1, h2.symm⟩
      have hlt : i < ns.length := (List.getElem?_eq_some_iff.mp hn).1
      refine ⟨rfl, _, rfl, .inl ⟨_, rfl, ?_⟩⟩
      refine ⟨_, rfl, _, upd_same, small1000 (by rw [List.length_map, List.length_take]; omega), ?_⟩
      rw [upd_upd]
      congr 2
      rw [List.take_add_one, List.getElem?_map, hn, List.map_append]
      rfl
    · subst e
      refine ⟨_, rfl, _, rfl, D, _, rfl, .inl (SqL.of upd_same), _, _, rfl, rfl, .inl ⟨by decide, by decide⟩, _, _, rfl, rfl, (by rw [sizeLine_eq]; exact (by decide : 5 ≤ 16777216)), fun hp nh => ?_⟩
      have eT : ((ns.map absI).take (ns.map V.int).length) = ns.map absI := List.take_of_length_le (by rw [List.length_map, List.length_map]; exact Nat.le_refl _)
      rw [eT] at nh ⊢
      have ph : hp ≠ D := fun e => by
        rw [e, upd_same] at nh
        cases nh
      have php : hp ≠ p := fun e => by
        rw [e, upd_ne nDp.symm, upd_same] at nh
        cases nh
      have nh0 : H hp = none := by rw [upd_ne ph, upd_ne php] at nh; exact nh
      refine q _ hp (fun b o e => ?_) nh0 ⟨D, ns.map absI, 0, 0, _, 0, upd_same, by rw [upd_ne ph.symm]; exact upd_same, by rw [List.length_map]; exact hl, fun x hx => ?_, by decide, by decide, ?_, by decide⟩
      · rw [upd_ne (ne_of_none e nh0), upd_ne (ne_of_none e nD0), upd_ne (ne_of_none e np)]
        exact e
      · obtain ⟨n, _, rfl⟩ := List.mem_map.mp hx
        unfold absI
        split <;> omega
      · omega
def spDraw : Sp := fun vs H Q _ => ∃ (a c : Addr) (m : Int), vs = [.ref a, .int m] ∧ HandC H a c ∧ 0 < m ∧ m < 1073741824 ∧ ∀ (d : Int) (H' : Hp), 0 ≤ d → d < m → HandC H' a c → Keep a H H' → Q (.int d) H'
theorem scDraw : FnScope ["hand", "many", "cell", "figure", "number"] ["hand", "many"] (defScope sDraw) := ⟨rfl, rfl, rfl, by decide +kernel, rfl, by decide +kernel, by decide +kernel⟩
theorem ok_draw {f : Addr} {fd : FuncData} (F : FnP K "_law_draw" sDraw f fd) (m2 : mg "int" = none) (m3 : mg "len" = none) : FnOk P w K mg base CX0 1 f fd ["hand", "many"] spDraw := by
  refine F.ok scDraw (fun vs H Q E h => ?_) (fun cdv A outer s H vs Q E hr h => ?_)
  · obtain ⟨a, c, m, rfl, _⟩ := h
    rfl
  · obtain ⟨a, c, m, rfl, hh, hm, hm2, q⟩ := h
    refine ⟨_, (C8.pss_cut (ps_if (PW.pt (pw_and (pt_cmpR op_eq (pe_ix ix_list (pv 0) pe_int (fun _ _ => rfl)) pe_int (nomark _)) (pw_and1 (pt_cmpR op_lt (pe_ix ix_list (pv 0) pe_int (fun _ _ => rfl)) (pe_callB call_len_seq (by rfl) m3 PySem.boot_len (pa_cons (pe_ix ix_list (pv 0) pe_int (fun _ _ => rfl)) pa_nil)) (nomark _))))) (pss_cons (ps_set (i := 2) scDraw.nd rfl (Or.inl rfl) (pe_ix ix_list (pe_ix ix_list (pv 0) pe_int (fun _ _ => rfl)) (pe_ix ix_list (pv 0) pe_int (fun _ _ => rfl)) (fun _ _ => rfl)))
      (pss_cons (ps_asg (pe_op op_add (pe_ix ix_list (pv 0) pe_int (fun _ _ => rfl)) pe_int) (pg_sub (pv 0) pe_int set_list))
      (pss_cons (ps_asg (pe_op op_mod (pe_callTy call_int1 (by rfl) m2 (by decide +kernel) (pa_cons (pe_op op_add (pe_op op_add (pe_op op_mul (pe_ix ix_list (pv 0) pe_int (fun _ _ => rfl)) pe_int) (pv 2)) pe_int) pa_nil)) pe_int) (pg_sub (pv 0) pe_int set_list))
      (pss_one (ps_if (pt_cmpR op_ge (pv 2) (pe_op op_pow pe_int pe_int) (nomark _)) (pss_one (ps_asg (pv 2) (pg_sub (pv 0) pe_int set_list))) pss_nil))))) pss_nil)
      (pss_cons (ps_if (pt_cmpR op_gt (pe_ix ix_list (pv 0) pe_int (fun _ _ => rfl)) pe_int (nomark _)) (pss_cons (ps_set (i := 3) scDraw.nd rfl (Or.inl rfl) (pe_op op_mod (pe_callTy call_int1 (by rfl) m2 (by decide +kernel) (pa_cons (pe_ix ix_list (pv 0) pe_int (fun _ _ => rfl)) pa_nil)) (pv 1)))
      (pss_cons (ps_asg (pe_op op_fdiv (pe_ix ix_list (pv 0) pe_int (fun _ _ => rfl)) (pv 1)) (pg_sub (pv 0) pe_int set_list))
      (pss_one (ps_ret (pv 3))))) pss_nil)
      (pss_cons (ps_asg (pe_op op_add (pe_ix ix_list (pv 0) pe_int (fun _ _ => rfl)) pe_int) (pg_sub (pv 0) pe_int set_list))
      (pss_cons (ps_set (i := 4) scDraw.nd rfl (Or.inl rfl) (pe_op op_mod (pe_callTy call_int1 (by rfl) m2 (by decide +kernel) (pa_cons (pe_op op_mul (pe_callTy call_int1 (by rfl) m2 (by decide +kernel) (pa_cons (pe_op op_add (pe_ix ix_list (pv 0) pe_int (fun _ _ => rfl)) (pe_op op_mul pe_int (pe_ix ix_list (pv 0) pe_int (fun _ _ => rfl)))) pa_nil)) pe_int) pa_nil)) pe_int))
      (pss_cons (ps_set (i := 4) scDraw.nd rfl (Or.inl rfl) (pe_op op_mod (pe_callTy call_int1 (by rfl) m2 (by decide +kernel) (pa_cons (pe_op op_mul (pv 4) (pe_op op_add (pe_op op_fdiv (pv 4) pe_int) pe_int)) pa_nil)) pe_int))
      (pss_cons (ps_set (i := 4) scDraw.nd rfl (Or.inl rfl) (pe_op op_mod (pe_callTy call_int1 (by rfl) m2 (by decide +kernel) (pa_cons (pe_op op_mul (pv 4) (pe_op op_add (pe_op op_fdiv (pv 4) pe_int) pe_int)) pa_nil)) pe_int))
      (pss_one (ps_ret (pe_op op_mod (pe_callTy call_int1 (by rfl) m2 (by decide +kernel) (pa_cons (pe_op op_fdiv (pv 4) pe_int) pa_nil)) (pv 1)))))))))), ?_⟩
    refine ⟨fun σ' H' => ∃ x, σ' = [some (.ref a), some (.int m), x, none, none] ∧ HandC H' a c ∧ Keep a H H', ?_, fun σ' H' hM => ?_⟩
    · obtain ⟨cs, i, b, sd, n, h⟩ := hh
      have hat := h.at_
      refine ⟨_, rfl, a, _, _, _, rfl, rfl, SqL.of hat, atI_nat (j := 2) rfl, rfl, _, rfl, tst (fun e1 => ?_) fun _ => ⟨none, rfl, ⟨cs, i, b, sd, n, h⟩, Keep.refl⟩⟩
      refine ⟨_, rfl, a, _, _, _, rfl, rfl, SqL.of hat, atI_nat (j := 1) rfl, _, rfl, a, _, _, _, rfl, rfl, SqL.of hat, atI_nat (j := 0) rfl, c, _, rfl, .inl (SqL.of h.cells), _, _, rfl, rfl, _, rfl, tst (fun e2 => ?_) fun _ => ⟨none, rfl, ⟨cs, i, b, sd, n, h⟩, Keep.refl⟩⟩
      have hi : i < (cs.length : Int) := by
        have z := of_decide_eq_true e2
        rw [List.length_map] at z
        exact z
      have hi0 := h.i0
      obtain ⟨j, rfl⟩ : ∃ j : Nat, i = (j : Int) := ⟨i.toNat, by omega⟩
      have hj : j < cs.length := by omega
      obtain ⟨x, hx⟩ : ∃ x, cs[j]? = some x := ⟨cs[j], List.getElem?_eq_getElem hj⟩
      have x0 : 0 ≤ x := h.pos x (List.mem_of_getElem? hx)
      have hxm : (cs.map V.int)[j]? = some (V.int x) := by rw [List.getElem?_map, hx]; rfl
      have cne := h.ne
      -- cell = hand[0][hand[1]]
      refine ⟨_, rfl, a, _, _, _, rfl, rfl, SqL.of hat, atI_nat (j := 0) rfl, _, rfl, a, _, _, _, rfl, rfl, SqL.of hat, atI_nat (j := 1) rfl, c, _, _, _, rfl, rfl, SqL.of h.cells, atI_nat hxm, ?_⟩
      -- hand[1] = hand[1] + 1
      refine ⟨_, rfl, a, _, _, _, rfl, rfl, SqL.of hat, atI_nat (j := 1) rfl, _, _, rfl, rfl, _, rfl, a, _, _, 1, rfl, rfl, hat, rfl, ?_⟩
      -- hand[3] = int(hand[3] * 69621 + cell + 83) % 2147483629
      refine ⟨_, rfl, a, _, _, _, rfl, rfl, SqL.of upd_same, atI_nat (j := 3) rfl, _, _, rfl, rfl, .inr ⟨by decide, by decide⟩, _, rfl, _, _, rfl, rfl, _, _, rfl, rfl, .inl ⟨_, rfl, _, _, rfl, rfl, (by show (0 : Int) < 2147483647; decide), _, rfl, a, _, _, 3, rfl, rfl, upd_same, rfl, ?_⟩⟩
      -- if cell >= 10 ** 18
      refine ⟨_, rfl, _, _, rfl, rfl, ⟨by decide, by decide, by decide⟩, _, _, rfl, rfl, _, rfl, tst (fun e3 => ?_) fun _ => ?_⟩
      · refine ⟨_, rfl, _, rfl, a, _, _, 2, rfl, rfl, upd_same, rfl, some (V.int x), rfl, ⟨cs, ((j : Int) + 1), x, _, n, upd_same, ?_, h.len, h.pos, by omega, x0, Int.emod_nonneg _ (by decide), h.n0⟩, ((Keep.refl.upd).upd).upd⟩
        rw [upd_ne cne, upd_ne cne, upd_ne cne]
        exact h.cells
      · refine ⟨some (V.int x), rfl, ⟨cs, ((j : Int) + 1), b, _, n, upd_same, ?_, h.len, h.pos, by omega, h.b0, Int.emod_nonneg _ (by decide), h.n0⟩, (Keep.refl.upd).upd⟩
        rw [upd_ne cne, upd_ne cne]
        exact h.cells
    · obtain ⟨x, rfl, ⟨cs, i, b, sd, n, h⟩, kp⟩ := hM
      have hat := h.at_
      have cne := h.ne
      refine ⟨_, rfl, a, _, _, _, rfl, rfl, SqL.of hat, atI_nat (j := 2) rfl, _, _, rfl, rfl, _, rfl, tst (fun e1 => ?_) fun _ => ?_⟩
      · -- digit = int(hand[2]) % many; hand[2] = hand[2] // many; return digit
        refine ⟨_, rfl, a, _, _, _, rfl, rfl, SqL.of hat, atI_nat (j := 2) rfl, .inl ⟨_, rfl, _, rfl, _, _, rfl, rfl, hm, ?_⟩⟩
        refine ⟨_, rfl, a, _, _, _, rfl, rfl, SqL.of hat, atI_nat (j := 2) rfl, _, rfl, _, _, rfl, rfl, ⟨hm, hm2⟩, _, rfl, a, _, _, 2, rfl, rfl, hat, rfl, ?_⟩
        refine ⟨_, rfl, ?_⟩
        refine q _ _ (Int.emod_nonneg _ (by omega)) (Int.emod_lt_of_pos _ hm) ⟨cs, i, b / m, sd, n, upd_same, by rw [upd_ne cne]; exact h.cells, h.len, h.pos, h.i0, Int.ediv_nonneg h.b0 (by omega), h.s0, h.n0⟩ kp.upd
      · -- hand[4] = hand[4] + 1
        refine ⟨_, rfl, a, _, _, _, rfl, rfl, SqL.of hat, atI_nat (j := 4) rfl, _, _, rfl, rfl, _, rfl, a, _, _, 4, rfl, rfl, hat, rfl, ?_⟩
        -- number = int(int(hand[3] + 7919 * hand[4]) * 48271) % 2147483647
        refine ⟨_, rfl, a, _, _, _, rfl, rfl, SqL.of upd_same, atI_nat (j := 3) rfl, _, rfl, a, _, _, _, rfl, rfl, SqL.of upd_same, atI_nat (j := 4) rfl, _, _, rfl, rfl, .inl ⟨by decide, by decide⟩, _, _, rfl, rfl, .inl ⟨_, rfl, _, _, rfl, rfl, .inr ⟨by decide, by decide⟩, .inl ⟨_, rfl, _, _, rfl, rfl, (by show (0 : Int) < 2147483399; decide), ?_⟩⟩⟩
        -- number = int(number * (number // 1009 + 69621)) % 2147483647
        refine ⟨_, rfl, _, rfl, _, _, rfl, rfl, ⟨by decide, by decide⟩, _, _, rfl, rfl, _, _, rfl, rfl, .inl (mod64 _ (by decide) (by decide)), .inl ⟨_, rfl, _, _, rfl, rfl, (by show (0 : Int) < 2147483629; decide), ?_⟩⟩
        -- number = int(number * (number // 2003 + 40692)) % 2147483399
        refine ⟨_, rfl, _, rfl, _, _, rfl, rfl, ⟨by decide, by decide⟩, _, _, rfl, rfl, _, _, rfl, rfl, .inl (mod64 _ (by decide) (by decide)), .inl ⟨_, rfl, _, _, rfl, rfl, (by show (0 : Int) < 2147483647; decide), ?_⟩⟩
        -- return int(number // 16) % many
        refine ⟨_, rfl, _, _, rfl, rfl, ⟨by decide, by decide⟩, .inl ⟨_, rfl, _, rfl, _, _, rfl, rfl, hm, ?_⟩⟩
        refine q _ _ (Int.emod_nonneg _ (by omega)) (Int.emod_lt_of_pos _ hm) ⟨cs, i, b, sd, n + 1, upd_same, by rw [upd_ne cne]; exact h.cells, h.len, h.pos, h.i0, h.b0, h.s0, by have := h.n0; omega⟩ kp.upd

/-- a def of the text that keeps its promise, wherever it stands -/
def Df (P : Program) (w : World) (K : PySem.W.Frag) (mg : Str → Option Value) (base : Heap) (x : Str) (k : Nat) (ps : List Str) (sp : Sp) : Prop :=
  ∃ (f : Addr) (fd : FuncData), mg x = some (.ref f) ∧ PySem.W.keepIn K (.ref f) = true ∧ Binds K fd ps [] ∧ FnOk P w K mg base CX0 k f fd ps sp
theorem pe_df {X : Cx} {x : Str} {k j : Nat} {ps : List Str} {sp : Sp} {e : Expr} {es : List Expr} {ta : TA} {p pos : Pos} (D : Df X.prog X.w X.K X.mg X.base x k ps sp) (hr : Room j X.A) (hj : k ≤ j) (ha : PA X (e :: es) ta) (hg : Gl X x := by rfl)
    (hdb : (x == ("__debug__" : Str)) = false := by decide) (he : starEach (e :: es) X.env = (false, eval e X.env) :: starEach es X.env := by rfl) (hpl : (backTo pos (starEach es X.env)).any (·.1) = false := by rfl) :
    PE X (.Call (.Name x p) (e :: es) [] pos) (tCall sp [] E0 ta) := by
  obtain ⟨f, fd, hm, hk, hb, F⟩ := D
  exact pe_call F (hr.mono hj) hg hm hk hb .nil pass0 ha hdb he hpl
def spSome (K : PySem.W.Frag) : Sp := fun vs H Q _ => ∃ (a c l : Addr) (xs : List V), vs = [.ref a, .ref l] ∧ HandC H a c ∧ l ≠ a ∧ SqL K H l xs ∧ 0 < xs.length ∧ xs.length ≤ 1000 ∧ ∀ (x : V) (H' : Hp), x ∈ xs → HandC H' a c → Keep a H H' → Q x H'
theorem scSome : FnScope ["hand", "things"] ["hand", "things"] (defScope sSome) := ⟨rfl, rfl, rfl, by decide +kernel, rfl, by decide +kernel, by decide +kernel⟩
theorem SqL.keep {a l : Addr} {H H' : Hp} {xs : List V} (k : Keep a H H') (n : l ≠ a) (h : SqL K H l xs) : SqL K H' l xs := by
  rcases h with (h | ⟨o, h⟩) | h
  · exact .inl (.inl (k _ _ n h))
  · exact .inl (.inr ⟨o, k _ _ n h⟩)
  · exact .inr h
theorem ok_some {f : Addr} {fd : FuncData} (F : FnP K "_law_some" sSome f fd) (D : Df P w K mg base "_law_draw" 1 ["hand", "many"] spDraw) (m3 : mg "len" = none) : FnOk P w K mg base CX0 2 f fd ["hand", "things"] (spSome K) := by
  refine F.ok scSome (fun vs H Q E h => ?_) (fun cdv A outer s H vs Q E hr h => ?_)
  · obtain ⟨a, c, l, xs, rfl, _⟩ := h
    rfl
  · obtain ⟨a, c, l, xs, rfl, hh, hla, hS, h0, h1, q⟩ := h
    refine ⟨_, PSs.nox (pss_one (ps_ret (pe_ix ix_list (pv 1) (pe_df D hr (by decide) (pa_cons (pv 0) (pa_cons (pe_callB call_len_seq (by rfl) m3 PySem.boot_len (pa_cons (pv 1) pa_nil)) pa_nil))) (fun _ _ => rfl)))), ?_⟩
    refine ⟨_, rfl, _, rfl, _, rfl, l, _, rfl, .inl hS, a, c, _, rfl, hh, by omega, by omega, fun d H' d0 d1 hh' kp => ?_⟩
    obtain ⟨j, rfl⟩ : ∃ j : Nat, d = (j : Int) := ⟨d.toNat, by omega⟩
    have hj : j < xs.length := by omega
    exact ⟨l, _, _, xs[j], rfl, rfl, SqL.keep kp hla hS, atI_nat (List.getElem?_eq_getElem hj), q _ _ (List.getElem_mem hj) hh' kp⟩


end
end Sm
/-! Data in the heap but for the object at a (the hand of the draws); what keeps it. -/
namespace Vd
open PySem PySem.Spec PyProof.Rows L2
def TupN (H : Hp) (p : Addr) (xs : List V) : Prop := H p = some (.tup xs) ∨ ∃ o : Obj, H p = some (.frz o (.tup xs))
theorem TupN.sq {K : PySem.W.Frag} {H : Hp} {p : Addr} {xs : List V} (h : TupN H p xs) : SqT K H p xs := .inl h
theorem TupN.same {H H' : Hp} {p : Addr} {xs : List V} (h : TupN H p xs) (s : ∀ b o, H b = some o → H' b = some o) : TupN H' p xs := h.imp (s _ _) fun z => z.imp fun _ => s _ _
def kD : Key → PyData
  | .inl i => .int i
  | .inr x => .str x
mutual
inductive Dd (K : PySem.W.Frag) (H : Hp) : V → PyData → Prop
  | non : Dd K H .non .none
  | bl (b : Bool) : Dd K H (.bl b) (.bool b)
  | int (i : Int) : Dd K H (.int i) (.int i)
  | str (x : Str) : Dd K H (.str x) (.str x)
  | lst {a : Addr} {xs : List V} {ds : List PyData} : SqL K H a xs → DdAll K H xs ds → Dd K H (.ref a) (.list ds)
  | tup {a : Addr} {xs : List V} {ds : List PyData} : TupN H a xs → DdAll K H xs ds → Dd K H (.ref a) (.tuple ds)
  | dct {a : Addr} {kvs : List (Key × V)} {ds : List (PyData × PyData)} : H a = some (.dK kvs) → DdKv K H kvs ds → Dd K H (.ref a) (.dict ds)
inductive DdAll (K : PySem.W.Frag) (H : Hp) : List V → List PyData → Prop
  | nil : DdAll K H [] []
  | cons {v : V} {vs : List V} {d : PyData} {ds : List PyData} : Dd K H v d → DdAll K H vs ds → DdAll K H (v :: vs) (d :: ds)
inductive DdKv (K : PySem.W.Frag) (H : Hp) : List (Key × V) → List (PyData × PyData) → Prop
  | nil : DdKv K H [] []
  | cons {k : Key} {v : V} {r : List (Key × V)} {d : PyData} {ds : List (PyData × PyData)} : Dd K H v d → DdKv K H r ds → DdKv K H ((k, v) :: r) ((kD k, d) :: ds)
end
mutual
theorem Dd.same {K : PySem.W.Frag} {H H' : Hp} (e : Same H H') : ∀ {v : V} {d : PyData}, Dd K H v d → Dd K H' v d
  | _, _, .non => .non
  | _, _, .bl b => .bl b
  | _, _, .int i => .int i
  | _, _, .str x => .str x
  | _, _, .lst h r => .lst (Same.seq e h) (DdAll.same e r)
  | _, _, .tup h r => .tup (TupN.same h e) (DdAll.same e r)
  | _, _, .dct h r => .dct (e _ _ h) (DdKv.same e r)
theorem DdAll.same {K : PySem.W.Frag} {H H' : Hp} (e : Same H H') : ∀ {vs : List V} {ds : List PyData}, DdAll K H vs ds → DdAll K H' vs ds
  | _, _, .nil => .nil
  | _, _, .cons h r => .cons (Dd.same e h) (DdAll.same e r)
theorem DdKv.same {K : PySem.W.Frag} {H H' : Hp} (e : Same H H') : ∀ {vs : List (Key × V)} {ds : List (PyData × PyData)}, DdKv K H vs ds → DdKv K H' vs ds
  | _, _, .nil => .nil
  | _, _, .cons h r => .cons (Dd.same e h) (DdKv.same e r)
end
def vis (a : Addr) (H : Hp) : Hp := fun b => if b = a then none else match H b with
  | some (.tbl _) => none
  | o => o
theorem vis_sub {a b : Addr} {H : Hp} {o : HO} (h : vis a H b = some o) : H b = some o ∧ b ≠ a ∧ ∀ ps, o ≠ .tbl ps := by
  unfold vis at h
  by_cases e : b = a
  · rw [if_pos e] at h
    cases h
  · rw [if_neg e] at h
    cases q : H b with
    | none =>
      rw [q] at h
      cases h
    | some u =>
      rw [q] at h
      cases u <;> first | (cases h; exact ⟨rfl, e, fun ps z => nomatch z⟩) | cases h
theorem vis_at {a b : Addr} {H : Hp} {o : HO} (h : H b = some o) (n : b ≠ a) (t : ∀ ps, o ≠ .tbl ps) : vis a H b = some o := by
  unfold vis
  rw [if_neg n, h]
  cases o <;> first | rfl | exact absurd rfl (t _)
theorem vis_same {a : Addr} {H : Hp} : Same (vis a H) H := fun _ _ h => (vis_sub h).1
/-- all that the data at H can lean on stands at H' too -/
def Kp (a : Addr) (H H' : Hp) : Prop := Same (vis a H) (vis a H')
theorem Kp.refl {a : Addr} {H : Hp} : Kp a H H := fun _ _ h => h
theorem Kp.trans {a : Addr} {H H1 H2 : Hp} (x : Kp a H H1) (y : Kp a H1 H2) : Kp a H H2 := fun b o h => y b o (x b o h)
theorem Kp.ext {a : Addr} {H H' : Hp} (k : ∀ b o, b ≠ a → (∀ ps, o ≠ .tbl ps) → H b = some o → H' b = some o) : Kp a H H' := fun b o h => by
  obtain ⟨h1, h2, h3⟩ := vis_sub h
  exact vis_at (k b o h2 h3 h1) h2 h3
theorem kp_same {a : Addr} {H H' : Hp} (s : Same H H') : Kp a H H' := Kp.ext fun b o _ _ h => s b o h
theorem kp_keep {a : Addr} {H H' : Hp} (s : Sm.Keep a H H') : Kp a H H' := Kp.ext fun b o n _ h => s b o n h
theorem kp_extN {a : Addr} {H H' : Hp} (s : LamX.ExtN H H') : Kp a H H' := Kp.ext fun b o _ t h => s b o h t
theorem same_up {H : Hp} {a : Addr} {o : HO} (n : H a = none) : Same H (upd H a o) := fun b u e => by
  rw [upd_ne (ne_of_none e n)]
  exact e
theorem kp_up {a p : Addr} {H : Hp} {o : HO} (n : H p = none) : Kp a H (upd H p o) := kp_same (same_up n)
/-- the place p is written again (it was new when H0 stood) -/
theorem kp_in {a p : Addr} {H H1 : Hp} {o : HO} (k : Kp a H H1) (n : H p = none) : Kp a H (upd H1 p o) := fun b u h => by
  obtain ⟨h1, h2, h3⟩ := vis_sub (k b u h)
  have e := (vis_sub h).1
  exact vis_at (by rw [upd_ne (ne_of_none e n)]; exact h1) h2 h3
variable {K : PySem.W.Frag} {a : Addr} {H H' : Hp}
abbrev Dv (a : Addr) (K : PySem.W.Frag) (H : Hp) (v : V) (d : PyData) : Prop := Dd K (vis a H) v d
abbrev DvAll (a : Addr) (K : PySem.W.Frag) (H : Hp) (vs : List V) (ds : List PyData) : Prop := DdAll K (vis a H) vs ds
theorem Dv.kp {v : V} {d : PyData} (h : Dv a K H v d) (k : Kp a H H') : Dv a K H' v d := Dd.same k h
theorem DvAll.kp {v : List V} {d : List PyData} (h : DvAll a K H v d) (k : Kp a H H') : DvAll a K H' v d := DdAll.same k h
theorem Dv.dd {v : V} {d : PyData} (h : Dv a K H v d) : Dd K H v d := Dd.same vis_same h
theorem tupN_vis {p : Addr} {xs : List V} (h : TupN (vis a H) p xs) : TupN H p xs := TupN.same h vis_same
theorem sqL_vis {p : Addr} {xs : List V} (h : SqL K (vis a H) p xs) : SqL K H p xs := Same.seq vis_same h
theorem Dv.tup {p : Addr} {xs : List V} {ds : List PyData} (h : TupN H p xs) (n : p ≠ a) (x : DvAll a K H xs ds) : Dv a K H (.ref p) (.tuple ds) := by
  rcases h with h | ⟨o, h⟩
  · exact Dd.tup (.inl (vis_at h n (fun _ z => nomatch z))) x
  · exact Dd.tup (.inr ⟨o, vis_at h n (fun _ z => nomatch z)⟩) x
theorem Dv.lst {p : Addr} {xs : List V} {ds : List PyData} (h : H p = some (.lst xs)) (n : p ≠ a) (x : DvAll a K H xs ds) : Dv a K H (.ref p) (.list ds) := Dd.lst (SqL.of (vis_at h n fun _ z => nomatch z)) x
theorem Dv.ofTup {v : V} {ds : List PyData} (h : Dv a K H v (.tuple ds)) : ∃ p xs, v = .ref p ∧ TupN (vis a H) p xs ∧ DvAll a K H xs ds := by
  cases h with
  | tup h1 h2 => exact ⟨_, _, rfl, h1, h2⟩
theorem dall_len : ∀ {vs : List V} {ds : List PyData}, DdAll K H vs ds → vs.length = ds.length
  | _, _, .nil => rfl
  | _, _, .cons _ t => by rw [List.length_cons, List.length_cons, dall_len t]
theorem dall_at : ∀ {vs : List V} {ds : List PyData} {i : Nat} {d : PyData}, DdAll K H vs ds → ds[i]? = some d → ∃ v, vs[i]? = some v ∧ Dd K H v d
  | _, _, _, _, .nil, h => by simp at h
  | _, _, 0, _, .cons r _, h => by
    simp at h
    subst h
    exact ⟨_, rfl, r⟩
  | _, _, j + 1, _, .cons _ t, h => by
    obtain ⟨b, h1, h2⟩ := dall_at (i := j) t (by simpa using h)
    exact ⟨b, by simpa using h1, h2⟩
theorem dall_at' : ∀ {vs : List V} {ds : List PyData} {i : Nat} {v : V}, DdAll K H vs ds → vs[i]? = some v → ∃ d, ds[i]? = some d ∧ Dd K H v d
  | _, _, _, _, .nil, h => by simp at h
  | _, _, 0, _, .cons r _, h => by
    simp at h
    subst h
    exact ⟨_, rfl, r⟩
  | _, _, j + 1, _, .cons _ t, h => by
    obtain ⟨b, h1, h2⟩ := dall_at' (i := j) t (by simpa using h)
    exact ⟨b, by simpa using h1, h2⟩
theorem dall_app : ∀ {vs us : List V} {ds es : List PyData}, DdAll K H vs ds → DdAll K H us es → DdAll K H (vs ++ us) (ds ++ es)
  | _, _, _, _, .nil, h => h
  | _, _, _, _, .cons r t, h => .cons r (dall_app t h)
theorem dall_take : ∀ {vs : List V} {ds : List PyData} (n : Nat), DdAll K H vs ds → DdAll K H (vs.take n) (ds.take n)
  | _, _, 0, _ => by
    rw [List.take_zero, List.take_zero]
    exact .nil
  | _, _, n + 1, .nil => .nil
  | _, _, n + 1, .cons r t => .cons r (dall_take n t)
theorem dall_drop : ∀ {vs : List V} {ds : List PyData} (n : Nat), DdAll K H vs ds → DdAll K H (vs.drop n) (ds.drop n)
  | _, _, 0, h => h
  | _, _, n + 1, .nil => .nil
  | _, _, n + 1, .cons r t => dall_drop n t
theorem dall_mem : ∀ {vs : List V} {ds : List PyData} {v : V}, DdAll K H vs ds → v ∈ vs → ∃ d, d ∈ ds ∧ Dd K H v d
  | _, _, _, .nil, h => by cases h
  | _, _, _, .cons r t, h => by
    rcases List.mem_cons.mp h with h | h
    · subst h
      exact ⟨_, List.mem_cons_self, r⟩
    · obtain ⟨d, h1, h2⟩ := dall_mem t h
      exact ⟨d, List.mem_cons_of_mem _ h1, h2⟩
/-! ### isinstance of data -/
def tyD : PyData → String
  | .none => "NoneType"
  | .bool _ => "bool"
  | .int _ => "int"
  | .str _ => "str"
  | .list _ => "list"
  | .tuple _ => "tuple"
  | .dict _ => "dict"
theorem tyx {v : V} {d : PyData} (h : Dd K H v d) : TyX K H v (.type (tyD d)) := by
  cases h with
  | non => exact .base .non
  | bl b => exact .base (.bl b)
  | int i => exact .base (.int i)
  | str x => exact .base (.str x)
  | lst h _ =>
    rcases h with (h | ⟨o, h⟩) | ⟨o, _, _, h, c, _⟩
    · exact .base (.lst h)
    · exact .base (.frz h)
    · exact .kList h c
  | tup h _ =>
    rcases h with h | ⟨o, h⟩
    · exact .base (.tup h)
    · exact .fTuple h
  | dct h _ => exact .base (.dK h)
theorem isi {v : V} {d : PyData} {n : String} {b : Bool} {Q : VK} (h : Dd K H v d) (e : kitB (tyD d) n = some b) (q : Q (.bl b) H) : rIsi K [v, .ty n] H Q := ⟨v, .ty n, _, _, b, rfl, .ty n, tyx h, kit_ty e, q⟩
def isI : PyData → Bool
  | .int _ => true
  | .bool _ => true
  | _ => false
def isB : PyData → Bool
  | .bool _ => true
  | _ => false
def isT : PyData → Bool
  | .tuple _ => true
  | _ => false
def isL : PyData → Bool
  | .list _ => true
  | _ => false
def isD : PyData → Bool
  | .dict _ => true
  | _ => false
def isS : PyData → Bool
  | .str _ => true
  | _ => false
theorem kI (d : PyData) : kitB (tyD d) "int" = some (isI d) := by cases d <;> (dsimp only [tyD, isI]; decide +kernel)
theorem kB (d : PyData) : kitB (tyD d) "bool" = some (isB d) := by cases d <;> (dsimp only [tyD, isB]; decide +kernel)
theorem kT (d : PyData) : kitB (tyD d) "tuple" = some (isT d) := by cases d <;> (dsimp only [tyD, isT]; decide +kernel)
theorem kL (d : PyData) : kitB (tyD d) "list" = some (isL d) := by cases d <;> (dsimp only [tyD, isL]; decide +kernel)
theorem kDi (d : PyData) : kitB (tyD d) "dict" = some (isD d) := by cases d <;> (dsimp only [tyD, isD]; decide +kernel)
theorem kS (d : PyData) : kitB (tyD d) "str" = some (isS d) := by cases d <;> (dsimp only [tyD, isS]; decide +kernel)
end Vd
namespace Sm
open PySem PySem.Spec PyProof.Rows L2 Vd
theorem ty_cls {X : Cx} {n : String} {x : Str} {pos : Pos} (hm : X.mg x = none) (hg : Gl X x) (hb : bootBuiltins x = some (.type n)) (h : x ≠ "__name__" := by decide) (hd : (x == ("__debug__" : Str)) = false := by decide) : PE X (.Name x pos) (tC (.ty n)) := pe_bltn hg hm hb rfl h hd
/-! ### the data of this law -/
mutual
def okD : PyData → Bool
  | .str x => decide (x.length ≤ 4000)
  | .int i => decide (i.natAbs < 2 ^ 200)
  | .list ds => decide (ds.length ≤ 4000) && okAll ds
  | .tuple ds => decide (ds.length ≤ 4000) && okAll ds
  | _ => true
def okAll : List PyData → Bool
  | [] => true
  | d :: r => okD d && okAll r
end
theorem okAll_mem : ∀ {ds : List PyData} {d : PyData}, okAll ds = true → d ∈ ds → okD d = true
  | x :: r, d, h, m => by
    unfold okAll at h
    obtain ⟨h1, h2⟩ := Bool.and_eq_true_iff.mp h
    rcases List.mem_cons.mp m with rfl | m
    · exact h1
    · exact okAll_mem h2 m
theorem ok_str {x : Str} (h : okD (.str x) = true) : x.length ≤ 4000 := by
  unfold okD at h
  exact of_decide_eq_true h
theorem ok_int {i : Int} (h : okD (.int i) = true) : i.natAbs < 2 ^ 200 := by
  unfold okD at h
  exact of_decide_eq_true h
theorem ok_tup {ds : List PyData} (h : okD (.tuple ds) = true) : ds.length ≤ 4000 ∧ okAll ds = true := by
  unfold okD at h
  obtain ⟨h1, h2⟩ := Bool.and_eq_true_iff.mp h
  exact ⟨of_decide_eq_true h1, h2⟩
def rngB (l h c : Nat) : Bool := decide (l ≤ c) && decide (c ≤ h)
def sgn (l h : Nat) (x : Str) : Bool := x.cps.toList.all (rngB l h)
def intD (d : PyData) : Bool := isI d && !isB d
def wordD : PyData → Bool
  | .str x => decide (x.length ≤ 20) && sgn 32 126 x
  | _ => false
def worthD (d : PyData) : Bool := intD d || wordD d
def nameD : PyData → Bool
  | .str x => (decide (1 ≤ x.length) && decide (x.length ≤ 8)) && sgn 97 122 x
  | _ => false
def tupOfD (lo hi : Int) (d : PyData) : Bool := match d with
  | .tuple ds => decide (lo ≤ (ds.length : Int)) && decide ((ds.length : Int) ≤ hi)
  | _ => false
def rowD (d : PyData) : Bool := match d with
  | .tuple ds => (decide ((1 : Int) ≤ (ds.length : Int)) && decide ((ds.length : Int) ≤ 5)) && ds.all worthD
  | _ => false
def primeD : PyData → Bool
  | .int i => decide (1000 ≤ i) && decide (i ≤ 170141183460469231731687303715884105728)
  | _ => false
def signB (c : Nat) : Bool := rngB 32 126 c || decide (c = 10)
def textD : PyData → Bool
  | .str x => x.cps.toList.all signB
  | _ => false
def isR : PyData → Bool
  | .str x => decide (x = ("rule" : Str))
  | _ => false
def ruleD : PyData → Bool
  | .tuple [t, x] => nameD t && textD x
  | _ => false
def factD : PyData → Bool
  | .tuple [n, r] => nameD n && (if isR n = true then ruleD r else rowD r)
  | _ => false
theorem intD_of {d : PyData} (h : intD d = true) : ∃ i, d = .int i := by
  cases d with
  | int i => exact ⟨i, rfl⟩
  | _ => cases h
theorem isS_of {d : PyData} (h : isS d = true) : ∃ i, d = .str i := by
  cases d with
  | str i => exact ⟨i, rfl⟩
  | _ => cases h
theorem isT_of {d : PyData} (h : isT d = true) : ∃ i, d = .tuple i := by
  cases d with
  | tuple i => exact ⟨i, rfl⟩
  | _ => cases h
theorem dd_int {K : PySem.W.Frag} {H : Hp} {v : V} {i : Int} (h : Dd K H v (.int i)) : v = .int i := by
  cases h
  rfl
theorem dd_str {K : PySem.W.Frag} {H : Hp} {v : V} {i : Str} (h : Dd K H v (.str i)) : v = .str i := by
  cases h
  rfl
theorem SqT.same {K : PySem.W.Frag} {H H' : Hp} {a : Addr} {xs : List V} (e : Same H H') (h : SqT K H a xs) : SqT K H' a xs := by
  rcases h with (h | ⟨o, h⟩) | h
  · exact .inl (.inl (e _ _ h))
  · exact .inl (.inr ⟨o, e _ _ h⟩)
  · exact .inr h
/-! ### signs -/
theorem lex1 (c d : Nat) : ([c] < [d]) = (c < d) := by
  simp [List.cons_lt_cons_iff]
theorem le1 {x : Str} {n c : Nat} (h : x.cps.toList = [n]) : (!decide ((⟨#[c]⟩ : Str).cps.toList < x.cps.toList)) = decide (n ≤ c) := by
  rw [h]
  show (!decide ([c] < [n])) = _
  rw [Bool.eq_iff_iff]
  simp [lex1]
theorem le2 {x : Str} {n c : Nat} (h : x.cps.toList = [n]) : (!decide (x.cps.toList < (⟨#[c]⟩ : Str).cps.toList)) = decide (c ≤ n) := by
  rw [h]
  show (!decide ([n] < [c])) = _
  rw [Bool.eq_iff_iff]
  simp [lex1]
def rLeS : R2 := fun x y H Q => ∃ i j, x = .str i ∧ y = .str j ∧ Q (.bl (!decide (j.cps.toList < i.cps.toList))) H
theorem rd_sgn {lo hi : Str} {l h j c : Nat} {σ : L2.St} {H : Hp} {Q : VK} (el : lo.cps.toList = [l]) (eh : hi.cps.toList = [h]) (hσ : σ[j]? = some (some (.str ⟨#[c]⟩))) (q : Q (.bl (rngB l h c)) H) : tChain rLeS rLeS (tC (.str lo)) (tVar j) (tC (.str hi)) σ H Q := by
  refine ⟨_, hσ, lo, ⟨#[c]⟩, rfl, rfl, _, rfl, ?_⟩
  rw [le1 el]
  refine tst (fun e => ⟨_, _, rfl, rfl, ?_⟩) fun e => ?_
  · rw [le2 eh]
    unfold rngB at q
    rw [e, Bool.true_and] at q
    exact q
  · unfold rngB at q
    rw [e, Bool.false_and] at q
    exact q
theorem lc_str {x : Str} {g : TG} {tt : TT} {te : TE} {vs : List Nat} {σ : L2.St} {H1 : Hp} {D : Addr} {Qd : Hp → Prop} (Pv : Nat → Hp → Prop) (h0 : Pv 0 (upd H1 D (.lst [])))
    (hs : ∀ i c H, x.cps.toList[i]? = some c → Pv i H → g (.str ⟨#[c]⟩) (wipe σ vs) H fun σ2 H2 => wipe σ2 vs = wipe σ vs ∧ tt σ2 H2 fun b H3 =>
      if b = true then te σ2 H3 fun y H4 => ∃ acc, H4 D = some (.lst acc) ∧ acc.length < sizeLine ∧ Pv (i + 1) (upd H4 D (.lst (acc ++ [y]))) else Pv (i + 1) H3) (hd : ∀ H, Pv x.cps.toList.length H → Qd H) :
    ∃ W : Nat → Nat → Hp → Prop, (∃ m, W 0 m (upd H1 D (.lst []))) ∧ ∀ i m H, W i m H →
      ((Its x).stop i H ∧ Qd H) ∨ ((Its x).go i H ∧ ∃ Nx : Hp → Prop, (∀ H', Nx H' → ∃ m', m' < m ∧ W (i + 1) m' H') ∧ ∀ x' H', (Its x).yld i H x' H' → g x' (wipe σ vs) H' fun σ2 H2 => wipe σ2 vs = wipe σ vs ∧ tt σ2 H2 fun b H3 =>
        if b = true then te σ2 H3 fun y H4 => ∃ acc, H4 D = some (.lst acc) ∧ acc.length < sizeLine ∧ Nx (upd H4 D (.lst (acc ++ [y]))) else Nx H3) := by
  have sz : x.cps.toList.length = x.cps.size := Array.length_toList
  refine ⟨fun i m H => m = x.cps.size - i ∧ i ≤ x.cps.size ∧ Pv i H, ⟨x.cps.size, by simp, Nat.zero_le _, h0⟩, ?_⟩
  rintro i m H ⟨rfl, hi, p⟩
  by_cases hlt : i < x.cps.size
  · refine .inr ⟨hlt, Pv (i + 1), fun H' p' => ⟨x.cps.size - (i + 1), by omega, rfl, hlt, p'⟩, fun v H' y => ?_⟩
    obtain ⟨rfl, c, hc, rfl⟩ := y
    exact hs i c _ (by rw [Array.getElem?_toList]; exact hc) p
  · have e : i = x.cps.size := by omega
    exact .inl ⟨by show x.cps.size ≤ i; omega, hd H (by rw [sz, ← e]; exact p)⟩
theorem allB {α : Type} (l : List α) (g : α → Bool) : ((l.map g).all id) = l.all g := by
  rw [List.all_map]
  rfl
def rAll (K : PySem.W.Frag) : List V → Hp → VK → Prop := fun xs H Q => ∃ (a : Addr) (bs : List Bool), xs = [.ref a] ∧ SqL K H a (bs.map V.bl) ∧ Q (.bl (bs.all id)) H
/-- all([test of sign for sign in x]) -/
theorem all_sgn {K : PySem.W.Frag} {x : Str} {p : Nat → Bool} {i j : Nat} {te : TE} {σ : L2.St} {H : Hp} {Q : VK} (hσ : σ[i]? = some (some (.str x))) (hz : x.length ≤ 4000) (hw : ∀ v, wipe ((wipe σ [j]).set j v) [j] = wipe σ [j])
    (hte : ∀ (c : Nat) (H : Hp) (Q : VK), Q (.bl (p c)) H → te ((wipe σ [j]).set j (some (.str ⟨#[c]⟩))) H Q) (q : ∀ H', Same H H' → Q (.bl (x.cps.toList.all p)) H') : tCB (rAll K) (tCons (tLc (iStr (tVar i)) (gName j) tYes te [j]) tNil) σ H Q := by
  refine ⟨_, hσ, x, rfl, fun D hD => ?_⟩
  refine lc_str (fun i H' => Same H H' ∧ H' D = some (.lst ((x.cps.toList.take i).map fun d => V.bl (p d)))) ⟨same_up hD, upd_same⟩ (fun i c H' hx e => ?_) (fun H1 e => ?_)
  · refine ⟨hw _, ?_⟩
    refine hte c H' _ ⟨_, e.2, ?_, ?_, ?_⟩
    · have : i < x.cps.toList.length := (List.getElem?_eq_some_iff.mp hx).1
      rw [Array.length_toList] at this
      have h2 : x.cps.size ≤ 4000 := hz
      rw [List.length_map, List.length_take, Array.length_toList, sizeLine_eq]
      omega
    · intro c' o z
      rw [upd_ne (ne_of_none z hD)]
      exact e.1 c' o z
    · rw [upd_same, List.take_add_one, hx, List.map_append]
      rfl
  · refine ⟨D, x.cps.toList.map p, rfl, SqL.of ?_, ?_⟩
    · rw [e.2, List.take_of_length_le (Nat.le_refl _), List.map_map]
      rfl
    · rw [allB]
      exact q H1 e.1
/-- all([test of one for one in t]) -/
theorem all_tup {K : PySem.W.Frag} {a : Addr} {xs : List V} {ds : List PyData} {p : PyData → Bool} {i j : Nat} {te : TE} {σ : L2.St} {H : Hp} {Q : VK} {tp : TE} (htp : ∀ Q' : VK, Q' (.ref a) H → tp σ H Q') (h1 : SqT K H a xs) (hd : DdAll K H xs ds) (hz : ds.length ≤ 4000) (hw : ∀ v, wipe ((wipe σ [j]).set j v) [j] = wipe σ [j])
    (hte : ∀ (v : V) (d : PyData) (H' : Hp) (Q : VK), d ∈ ds → Same H H' → Dd K H' v d → (∀ H'', Same H' H'' → Q (.bl (p d)) H'') → te ((wipe σ [j]).set j (some v)) H' Q) (q : ∀ H', Same H H' → Q (.bl (ds.all p)) H') : tCB (rAll K) (tCons (tLc (iTup K tp) (gName j) tYes te [j]) tNil) σ H Q := by
  have hx0 : xs.length = ds.length := dall_len hd
  refine htp _ ⟨a, rfl, ⟨_, h1⟩, fun D hD => ?_⟩
  refine lc_tup (xs := xs) (fun i H' => Same H H' ∧ H' D = some (.lst ((ds.take i).map fun d => V.bl (p d)))) ⟨same_up hD, upd_same⟩ (fun i H' _ e => SqT.same e.1 h1) (fun i x H' hx e => ?_) (fun H1 e => ?_)
  · obtain ⟨d, he, hdd⟩ := dall_at' hd hx
    have il : i < ds.length := (List.getElem?_eq_some_iff.mp he).1
    refine ⟨hw _, ?_⟩
    refine hte x d H' _ (List.mem_of_getElem? he) e.1 (Dd.same e.1 hdd) fun H2 s2 => ⟨_, s2 _ _ e.2, ?_, ?_, ?_⟩
    · rw [List.length_map, List.length_take, sizeLine_eq]
      omega
    · intro c' o z
      rw [upd_ne (ne_of_none z hD)]
      exact s2 _ _ (e.1 c' o z)
    · rw [upd_same, List.take_add_one, he, List.map_append]
      rfl
  · refine ⟨D, ds.map p, rfl, SqL.of ?_, ?_⟩
    · rw [e.2, hx0, List.take_of_length_le (Nat.le_refl _), List.map_map]
      rfl
    · rw [allB]
      exact q H1 e.1
section
variable {P : Program} {w : World} {K : PySem.W.Frag} {mg : Str → Option Value} {base : Heap}
/-- a look at a thing -/
def spA (K : PySem.W.Frag) (g : PyData → Bool) : Sp := fun vs H Q _ => ∃ (v : V) (d : PyData), vs = [v] ∧ Dd K H v d ∧ okD d = true ∧ ∀ H', Same H H' → Q (.bl (g d)) H'
theorem spA_len {g : PyData → Bool} {x : Str} : ∀ vs H Q E, spA K g vs H Q E → vs.length = [x].length := fun vs H Q E h => by
  obtain ⟨v, d, rfl, _⟩ := h
  rfl
/-- what the module's names stand for -/
structure Nm (mg : Str → Option Value) : Prop where
  isinstance : mg "isinstance" = none
  int : mg "int" = none
  bool : mg "bool" = none
  tuple : mg "tuple" = none
  list : mg "list" = none
  str : mg "str" = none
  len : mg "len" = none
  all : mg "all" = none
  zip : mg "zip" = none
  range : mg "range" = none
  ord : mg "ord" = none
  LONGEST_WORD_ : ∃ t, mg "LONGEST_WORD" = some (.int 20 t)
  LONGEST_NAME_ : ∃ t, mg "LONGEST_NAME" = some (.int 8 t)
  LEAST_PRIME_ : ∃ t, mg "LEAST_PRIME" = some (.int 1000 t)
  GREATEST_PRIME_ : ∃ t, mg "GREATEST_PRIME" = some (.int 170141183460469231731687303715884105728 t)
  BEFORE_BLANK_ : ∃ t, mg "BEFORE_BLANK" = some (.int 31 t)
abbrev DA (P : Program) (w : World) (K : PySem.W.Frag) (mg : Str → Option Value) (base : Heap) (x : Str) (k : Nat) (g : PyData → Bool) : Prop := Df P w K mg base x k ["thing"] (spA K g)
/-! ### the program's looks -/
abbrev sInteger : Stmt := top 10
abbrev sWord : Stmt := top 11
abbrev sWorth : Stmt := top 12
abbrev sName : Stmt := top 13
abbrev sTupleOf : Stmt := top 14
abbrev sRow : Stmt := top 15
abbrev sPrime : Stmt := top 20
abbrev sText : Stmt := top 22
abbrev sFact : Stmt := top 25
theorem scInteger : FnScope ["thing"] ["thing"] (defScope sInteger) := ⟨rfl, rfl, rfl, by decide +kernel, rfl, by decide +kernel, by decide +kernel⟩
theorem ok_integer {f : Addr} {fd : FuncData} (F : FnP K "is_integer" sInteger f fd) (M : Nm mg) : FnOk P w K mg base CX0 1 f fd ["thing"] (spA K intD) := by
  refine F.ok scInteger spA_len (fun cdv A outer s H vs Q E hr h => ?_)
  obtain ⟨v, d, rfl, hd, _, q⟩ := h
  refine ⟨_, PSs.nox (pss_one (ps_ret (pe_and (pe_callB (id := "isinstance") (r := rIsi K) call_isi (by rfl) M.isinstance (by decide +kernel) (pa_cons (pv 0) (pa_cons (ty_cls (n := "int") M.int (by rfl) (by decide +kernel)) pa_nil))) (pe_one (pe_not (pe_callB (id := "isinstance") (r := rIsi K) call_isi (by rfl) M.isinstance (by decide +kernel) (pa_cons (pv 0) (pa_cons (ty_cls (n := "bool") M.bool (by rfl) (by decide +kernel)) pa_nil)))))))), ?_⟩
  have q := q H (Same.refl H)
  refine ⟨_, rfl, _, _, _, _, _, rfl, .ty _, tyx hd, kit_ty (kI d), _, rfl, tst (fun e => ⟨_, rfl, _, _, _, _, _, rfl, .ty _, tyx hd, kit_ty (kB d), _, rfl, ?_⟩) fun e => ?_⟩
  · show Q (.bl (!isB d)) H
    unfold intD at q
    rw [e, Bool.true_and] at q
    exact q
  · show Q (.bl false) H
    unfold intD at q
    rw [e, Bool.false_and] at q
    exact q
theorem scWord : FnScope ["thing", "sign"] ["thing"] (defScope sWord) := ⟨rfl, rfl, rfl, by decide +kernel, rfl, by decide +kernel, by decide +kernel⟩
theorem ok_word {f : Addr} {fd : FuncData} (F : FnP K "is_word" sWord f fd) (M : Nm mg) : FnOk P w K mg base CX0 1 f fd ["thing"] (spA K wordD) := by
  obtain ⟨tw, hw⟩ := M.LONGEST_WORD_
  refine F.ok scWord spA_len (fun cdv A outer s H vs Q E hr h => ?_)
  obtain ⟨v, d, rfl, hd, ok, q⟩ := h
  refine ⟨_, PSs.nox (pss_cons (ps_if (PW.pt (pw_or (pt_not (pt_val (pe_callB (id := "isinstance") (r := rIsi K) call_isi (by rfl) M.isinstance (by decide +kernel) (pa_cons (pv 0) (pa_cons (ty_cls (n := "str") M.str (by rfl) (by decide +kernel)) pa_nil))))) (pw_or1 (pt_cmpR op_gt (pe_callB call_len_str (by rfl) M.len PySem.boot_len (pa_cons (pv 0) pa_nil)) (pe_glob (v := .int 20) (by rfl) hw ⟨tw, rfl⟩) (nomark _))))) (pss_one (ps_ret pe_bl)) pss_nil)
      (pss_one (ps_ret (pe_callB (r := rAll K) (cr_all rfl) (by rfl) M.all (by decide +kernel) (pa_cons (pe_lc (own := [("sign", 1)]) (g := gName 1) (tt := tYes) (by rfl) scWord.nd (pi_str (pv 0)) (blkOk_by (N := ["thing", "sign"]) (sc := defScope sWord) (by decide +kernel)) (fun _ _ _ _ _ => pg_name (i := 1) scWord.nd rfl (Or.inl rfl)) (fun _ _ _ _ _ => pts_nil) (fun _ _ _ _ _ => (pe_chain (r := rLeS) (r' := rLeS) op_le_str op_le_str pe_str (pv 1) pe_str))) pa_nil))))), ?_⟩
  refine ⟨_, rfl, _, _, _, _, _, rfl, .ty _, tyx hd, kit_ty (kS d), _, rfl, tst (fun e => ?_) fun e => ?_⟩
  · have z : wordD d = false := by cases d <;> first | rfl | cases e
    have q2 := q H (Same.refl H)
    rw [z] at q2
    exact iteT q2
  obtain ⟨x, rfl⟩ := isS_of (show isS d = true by simpa using e)
  cases dd_str hd
  have hz := ok_str ok
  refine ⟨_, rfl, x, rfl, by rw [sizeLine_eq]; omega, _, _, rfl, rfl, _, rfl, tst (fun e2 => ?_) fun e2 => ?_⟩
  · have z : wordD (.str x) = false := by
      have h1 := of_decide_eq_true e2
      show (decide (x.length ≤ 20) && _) = false
      rw [decide_eq_false (by omega), Bool.false_and]
    have q2 := q H (Same.refl H)
    rw [z] at q2
    exact q2
  · refine all_sgn (p := rngB 32 126) (i := 0) (j := 1) rfl hz (fun _ => rfl) (fun c H Q q => rd_sgn (l := 32) (h := 126) (by decide) (by decide) rfl q) fun H' s => ?_
    have q2 := q H' s
    have h1 := of_decide_eq_false e2
    have z : wordD (.str x) = sgn 32 126 x := by
      show (decide (x.length ≤ 20) && _) = _
      rw [decide_eq_true (by omega), Bool.true_and]
    rw [z] at q2
    exact q2
theorem scWorth : FnScope ["thing"] ["thing"] (defScope sWorth) := ⟨rfl, rfl, rfl, by decide +kernel, rfl, by decide +kernel, by decide +kernel⟩
theorem ok_worth {f : Addr} {fd : FuncData} (F : FnP K "is_free_worth" sWorth f fd) (DI : DA P w K mg base "is_integer" 1 intD) (DW : DA P w K mg base "is_word" 1 wordD) : FnOk P w K mg base CX0 2 f fd ["thing"] (spA K worthD) := by
  refine F.ok scWorth spA_len (fun cdv A outer s H vs Q E hr h => ?_)
  obtain ⟨v, d, rfl, hd, ok, q⟩ := h
  refine ⟨_, PSs.nox (pss_one (ps_ret (pe_or (pe_df DI hr (by decide) (pa_cons (pv 0) pa_nil)) (pe_one (pe_df DW hr (by decide) (pa_cons (pv 0) pa_nil)))))), ?_⟩
  refine ⟨_, rfl, v, d, rfl, hd, ok, fun H1 s1 => ⟨_, rfl, tst (fun e => ?_) fun e => ?_⟩⟩
  · have q2 := q H1 s1
    unfold worthD at q2
    rw [e, Bool.true_or] at q2
    exact q2
  · refine ⟨_, rfl, v, d, rfl, hd.same s1, ok, fun H2 s2 => ?_⟩
    have q2 := q H2 (s1.trans s2)
    unfold worthD at q2
    rw [e, Bool.false_or] at q2
    exact q2
theorem scName : FnScope ["thing", "sign"] ["thing"] (defScope sName) := ⟨rfl, rfl, rfl, by decide +kernel, rfl, by decide +kernel, by decide +kernel⟩
theorem ok_name {f : Addr} {fd : FuncData} (F : FnP K "is_name" sName f fd) (M : Nm mg) : FnOk P w K mg base CX0 1 f fd ["thing"] (spA K nameD) := by
  obtain ⟨tw, hw⟩ := M.LONGEST_NAME_
  refine F.ok scName spA_len (fun cdv A outer s H vs Q E hr h => ?_)
  obtain ⟨v, d, rfl, hd, ok, q⟩ := h
  refine ⟨_, PSs.nox (pss_cons (ps_if (PW.pt (pw_or (pt_not (pt_val (pe_callB (id := "isinstance") (r := rIsi K) call_isi (by rfl) M.isinstance (by decide +kernel) (pa_cons (pv 0) (pa_cons (ty_cls (n := "str") M.str (by rfl) (by decide +kernel)) pa_nil))))) (pw_or1 (pt_not (pt_chain op_le op_le pe_int (pe_callB call_len_str (by rfl) M.len PySem.boot_len (pa_cons (pv 0) pa_nil)) (pe_glob (v := .int 8) (by rfl) hw ⟨tw, rfl⟩)))))) (pss_one (ps_ret pe_bl)) pss_nil)
      (pss_one (ps_ret (pe_callB (r := rAll K) (cr_all rfl) (by rfl) M.all (by decide +kernel) (pa_cons (pe_lc (own := [("sign", 1)]) (g := gName 1) (tt := tYes) (by rfl) scName.nd (pi_str (pv 0)) (blkOk_by (N := ["thing", "sign"]) (sc := defScope sName) (by decide +kernel)) (fun _ _ _ _ _ => pg_name (i := 1) scName.nd rfl (Or.inl rfl)) (fun _ _ _ _ _ => pts_nil) (fun _ _ _ _ _ => (pe_chain (r := rLeS) (r' := rLeS) op_le_str op_le_str pe_str (pv 1) pe_str))) pa_nil))))), ?_⟩
  refine ⟨_, rfl, _, _, _, _, _, rfl, .ty _, tyx hd, kit_ty (kS d), _, rfl, tst (fun e => ?_) fun e => ?_⟩
  · have z : nameD d = false := by cases d <;> first | rfl | cases e
    have q2 := q H (Same.refl H)
    rw [z] at q2
    exact iteT q2
  obtain ⟨x, rfl⟩ := isS_of (show isS d = true by simpa using e)
  cases dd_str hd
  have hz := ok_str ok
  have no : (decide (1 ≤ x.length) && decide (x.length ≤ 8)) = false → Q (.bl false) H := fun n => by
    have q2 := q H (Same.refl H)
    have z : nameD (.str x) = false := by
      show ((decide (1 ≤ x.length) && decide (x.length ≤ 8)) && _) = false
      rw [n, Bool.false_and]
    rw [z] at q2
    exact q2
  refine ⟨_, rfl, x, rfl, by rw [sizeLine_eq]; omega, _, _, rfl, rfl, _, rfl, tst (fun e1 => ⟨_, _, rfl, rfl, _, rfl, tst (fun e2 => ?_) fun e2 => ?_⟩) fun e1 => ⟨_, rfl, iteT ?_⟩⟩
  · have h1 : decide ((x.length : Int) ≤ 8) = false := by simpa using e2
    have h2 := of_decide_eq_false h1
    exact no (by rw [show decide (x.length ≤ 8) = false from decide_eq_false (by omega), Bool.and_false])
  · refine all_sgn (p := rngB 97 122) (i := 0) (j := 1) rfl hz (fun _ => rfl) (fun c H Q q => rd_sgn (l := 97) (h := 122) (by decide) (by decide) rfl q) fun H' s => ?_
    have q2 := q H' s
    have h1 := of_decide_eq_true e1
    have h2 : decide ((x.length : Int) ≤ 8) = true := by simpa using e2
    have h3 := of_decide_eq_true h2
    have z : nameD (.str x) = sgn 97 122 x := by
      show ((decide (1 ≤ x.length) && decide (x.length ≤ 8)) && _) = _
      rw [decide_eq_true (by omega), decide_eq_true (by omega), Bool.true_and, Bool.true_and]
    rw [z] at q2
    exact q2
  · have h1 := of_decide_eq_false e1
    exact no (by rw [show decide (1 ≤ x.length) = false from decide_eq_false (by omega), Bool.false_and])
def spTupOf (K : PySem.W.Frag) : Sp := fun vs H Q _ => ∃ (v : V) (d : PyData) (lo hi : Int), vs = [v, .int lo, .int hi] ∧ Dd K H v d ∧ Q (.bl (tupOfD lo hi d)) H
theorem scTupleOf : FnScope ["thing", "least", "most"] ["thing", "least", "most"] (defScope sTupleOf) := ⟨rfl, rfl, rfl, by decide +kernel, rfl, by decide +kernel, by decide +kernel⟩
theorem ok_tupleOf {f : Addr} {fd : FuncData} (F : FnP K "is_tuple_of" sTupleOf f fd) (M : Nm mg) : FnOk P w K mg base CX0 1 f fd ["thing", "least", "most"] (spTupOf K) := by
  refine F.ok scTupleOf (fun vs H Q E h => ?_) (fun cdv A outer s H vs Q E hr h => ?_)
  · obtain ⟨v, d, lo, hi, rfl, _⟩ := h
    rfl
  · obtain ⟨v, d, lo, hi, rfl, hd, q⟩ := h
    refine ⟨_, PSs.nox (pss_one (ps_ret (pe_and (pe_callB (id := "isinstance") (r := rIsi K) call_isi (by rfl) M.isinstance (by decide +kernel) (pa_cons (pv 0) (pa_cons (ty_cls (n := "tuple") M.tuple (by rfl) (by decide +kernel)) pa_nil))) (pe_one (pe_chain op_le op_le (pv 1) (pe_callB call_len_seq (by rfl) M.len PySem.boot_len (pa_cons (pv 0) pa_nil)) (pv 2)))))), ?_⟩
    refine ⟨_, rfl, _, _, _, _, _, rfl, .ty _, tyx hd, kit_ty (kT d), _, rfl, tst (fun e => ?_) fun e => ?_⟩
    · cases hd with
      | tup h0 h2 =>
        rename_i p xs ds
        have h1 := h0.sq (K := K)
        refine ⟨_, rfl, _, rfl, p, xs, rfl, .inr h1, _, _, rfl, rfl, _, rfl, tst (fun e2 => ⟨_, rfl, _, _, rfl, rfl, ?_⟩) fun e2 => ?_⟩
        · have q2 : Q (.bl (decide (lo ≤ (ds.length : Int)) && decide ((ds.length : Int) ≤ hi))) H := q
          rw [← dall_len h2, show decide (lo ≤ (xs.length : Int)) = true from e2, Bool.true_and] at q2
          exact q2
        · have q2 : Q (.bl (decide (lo ≤ (ds.length : Int)) && decide ((ds.length : Int) ≤ hi))) H := q
          rw [← dall_len h2, show decide (lo ≤ (xs.length : Int)) = false from e2, Bool.false_and] at q2
          exact q2
      | _ => cases e
    · have z : tupOfD lo hi d = false := by
        cases d with
        | tuple ds => cases e
        | _ => rfl
      rw [z] at q
      exact q
abbrev DTup (P : Program) (w : World) (K : PySem.W.Frag) (mg : Str → Option Value) (base : Heap) : Prop := Df P w K mg base "is_tuple_of" 1 ["thing", "least", "most"] (spTupOf K)
theorem scRow : FnScope ["thing", "worth"] ["thing"] (defScope sRow) := ⟨rfl, rfl, rfl, by decide +kernel, rfl, by decide +kernel, by decide +kernel⟩
theorem ok_row {f : Addr} {fd : FuncData} (F : FnP K "is_free_row" sRow f fd) (M : Nm mg) (DT : DTup P w K mg base) (DW : DA P w K mg base "is_free_worth" 2 worthD) : FnOk P w K mg base CX0 3 f fd ["thing"] (spA K rowD) := by
  refine F.ok scRow spA_len (fun cdv A outer s H vs Q E hr h => ?_)
  obtain ⟨v, d, rfl, hd, ok, q⟩ := h
  refine ⟨_, PSs.nox (pss_one (ps_ret (pe_and (pe_df DT hr (by decide) (pa_cons (pv 0) (pa_cons pe_int (pa_cons pe_int pa_nil)))) (pe_one (pe_callB (r := rAll K) (cr_all rfl) (by rfl) M.all (by decide +kernel) (pa_cons (pe_lc (own := [("worth", 1)]) (g := gName 1) (tt := tYes) (by rfl) scRow.nd (pi_tup (pv 0)) (blkOk_by (N := ["thing", "worth"]) (sc := defScope sRow) (by decide +kernel)) (fun _ _ _ _ _ => pg_name (i := 1) scRow.nd rfl (Or.inl rfl)) (fun _ _ _ _ _ => pts_nil) (fun _ _ _ _ _ => (pe_df DW hr (by decide) (pa_cons (pv 1) pa_nil)))) pa_nil)))))), ?_⟩
  refine ⟨_, rfl, v, d, 1, 5, rfl, hd, _, rfl, tst (fun e => ?_) fun e => ?_⟩
  · cases d with
    | tuple ds =>
      cases hd with
      | tup h0 h2 =>
        obtain ⟨o1, o2⟩ := ok_tup ok
        refine all_tup (p := worthD) (i := 0) (j := 1) (fun Q' z => ⟨_, rfl, z⟩) (h0.sq (K := K)) h2 o1 (fun _ => rfl) (fun v d H' Q m s hd z => ⟨_, rfl, v, d, rfl, hd, okAll_mem o2 m, z⟩) fun H' s => ?_
        have q2 := q H' s
        have z : rowD (.tuple ds) = ds.all worthD := by
          show ((decide ((1 : Int) ≤ (ds.length : Int)) && decide ((ds.length : Int) ≤ 5)) && _) = _
          rw [show (decide ((1 : Int) ≤ (ds.length : Int)) && decide ((ds.length : Int) ≤ 5)) = true from e, Bool.true_and]
        rw [z] at q2
        exact q2
    | _ => cases e
  · have z : rowD d = false := by
      cases d with
      | tuple ds =>
        show ((decide ((1 : Int) ≤ (ds.length : Int)) && decide ((ds.length : Int) ≤ 5)) && _) = _
        rw [show (decide ((1 : Int) ≤ (ds.length : Int)) && decide ((ds.length : Int) ≤ 5)) = false from e, Bool.false_and]
      | _ => rfl
    have q2 := q H (Same.refl H)
    rw [z] at q2
    exact q2
theorem scPrime : FnScope ["thing"] ["thing"] (defScope sPrime) := ⟨rfl, rfl, rfl, by decide +kernel, rfl, by decide +kernel, by decide +kernel⟩
theorem ok_prime {f : Addr} {fd : FuncData} (F : FnP K "is_prime" sPrime f fd) (M : Nm mg) (DI : DA P w K mg base "is_integer" 1 intD) : FnOk P w K mg base CX0 2 f fd ["thing"] (spA K primeD) := by
  obtain ⟨tl, hl⟩ := M.LEAST_PRIME_
  obtain ⟨tg, hg⟩ := M.GREATEST_PRIME_
  refine F.ok scPrime spA_len (fun cdv A outer s H vs Q E hr h => ?_)
  obtain ⟨v, d, rfl, hd, ok, q⟩ := h
  refine ⟨_, PSs.nox (pss_one (ps_ret (pe_and (pe_df DI hr (by decide) (pa_cons (pv 0) pa_nil)) (pe_one (pe_chain op_le op_le (pe_glob (v := .int 1000) (by rfl) hl ⟨tl, rfl⟩) (pv 0) (pe_glob (v := .int 170141183460469231731687303715884105728) (by rfl) hg ⟨tg, rfl⟩)))))), ?_⟩
  refine ⟨_, rfl, v, d, rfl, hd, ok, fun H1 s1 => ⟨_, rfl, tst (fun e => ?_) fun e => ?_⟩⟩
  · obtain ⟨i, rfl⟩ := intD_of e
    cases dd_int hd
    have q2 : Q (.bl (decide (1000 ≤ i) && decide (i ≤ 170141183460469231731687303715884105728))) H1 := q H1 s1
    refine ⟨_, rfl, _, _, rfl, rfl, _, rfl, tst (fun e2 => ⟨_, _, rfl, rfl, ?_⟩) fun e2 => ?_⟩
    · rw [show decide (1000 ≤ i) = true from e2, Bool.true_and] at q2
      exact q2
    · rw [show decide (1000 ≤ i) = false from e2, Bool.false_and] at q2
      exact q2
  · have z : primeD d = false := by
      cases d with
      | int i => cases e
      | _ => rfl
    have q2 := q H1 s1
    rw [z] at q2
    exact q2
theorem scText : FnScope ["thing", "sign"] ["thing"] (defScope sText) := ⟨rfl, rfl, rfl, by decide +kernel, rfl, by decide +kernel, by decide +kernel⟩
theorem nl_eq (c : Nat) : decide (V.str ⟨#[c]⟩ = V.str ("\n" : Str)) = decide (c = 10) := by
  have e : ("\n" : Str) = ⟨#[10]⟩ := by decide
  rw [e, Bool.eq_iff_iff]
  simp
theorem ok_text {f : Addr} {fd : FuncData} (F : FnP K "is_text" sText f fd) (M : Nm mg) : FnOk P w K mg base CX0 1 f fd ["thing"] (spA K textD) := by
  refine F.ok scText spA_len (fun cdv A outer s H vs Q E hr h => ?_)
  obtain ⟨v, d, rfl, hd, ok, q⟩ := h
  refine ⟨_, PSs.nox (pss_one (ps_ret (pe_and (pe_callB (id := "isinstance") (r := rIsi K) call_isi (by rfl) M.isinstance (by decide +kernel) (pa_cons (pv 0) (pa_cons (ty_cls (n := "str") M.str (by rfl) (by decide +kernel)) pa_nil))) (pe_one (pe_callB (r := rAll K) (cr_all rfl) (by rfl) M.all (by decide +kernel) (pa_cons (pe_lc (own := [("sign", 1)]) (g := gName 1) (tt := tYes) (by rfl) scText.nd (pi_str (pv 0)) (blkOk_by (N := ["thing", "sign"]) (sc := defScope sText) (by decide +kernel)) (fun _ _ _ _ _ => pg_name (i := 1) scText.nd rfl (Or.inl rfl)) (fun _ _ _ _ _ => pts_nil) (fun _ _ _ _ _ => (pe_or (pe_chain (r := rLeS) (r' := rLeS) op_le_str op_le_str pe_str (pv 1) pe_str) (pe_one (pe_cmpR op_eq (pv 1) pe_str (nomark _)))))) pa_nil)))))), ?_⟩
  refine ⟨_, rfl, _, _, _, _, _, rfl, .ty _, tyx hd, kit_ty (kS d), _, rfl, tst (fun e => ?_) fun e => ?_⟩
  · obtain ⟨x, rfl⟩ := isS_of e
    cases dd_str hd
    refine all_sgn (p := signB) (i := 0) (j := 1) rfl (ok_str ok) (fun _ => rfl) (fun c H Q q => ?_) fun H' s => q H' s
    refine rd_sgn (l := 32) (h := 126) (by decide) (by decide) rfl ⟨_, rfl, tst (fun e => ?_) fun e => ⟨_, rfl, rfl, ?_⟩⟩
    · unfold signB at q
      rw [e, Bool.true_or] at q
      exact q
    · unfold signB at q
      rw [e, Bool.false_or] at q
      rw [nl_eq]
      exact q
  · have z : textD d = false := by
      cases d with
      | str i => cases e
      | _ => rfl
    have q2 := q H (Same.refl H)
    rw [z] at q2
    exact q2
theorem tup2 {d : PyData} (h : tupOfD 2 2 d = true) : ∃ x y, d = .tuple [x, y] := by
  cases d with
  | tuple ds =>
    obtain ⟨h1, h2⟩ := Bool.and_eq_true_iff.mp (show (decide ((2 : Int) ≤ (ds.length : Int)) && decide ((ds.length : Int) ≤ 2)) = true from h)
    have h3 := of_decide_eq_true h1
    have h4 := of_decide_eq_true h2
    match ds, h3, h4 with
    | [x, y], _, _ => exact ⟨x, y, rfl⟩
    | [], h3, _ => simp at h3
    | [_], h3, _ => simp at h3
    | _ :: _ :: _ :: _, _, h4 =>
      simp only [List.length_cons] at h4
      omega
  | _ => cases h
theorem no2 {d : PyData} (h : tupOfD 2 2 d = false) : factD d = false ∧ ruleD d = false := by
  cases d with
  | tuple ds => match ds, h with
    | [x, y], h => cases h
    | [], _ => exact ⟨rfl, rfl⟩
    | [_], _ => exact ⟨rfl, rfl⟩
    | _ :: _ :: _ :: _, _ => exact ⟨rfl, rfl⟩
  | _ => exact ⟨rfl, rfl⟩
theorem rule2 {t y : PyData} : ruleD (.tuple [t, y]) = (nameD t && textD y) := rfl
/-- the two of a pair -/
theorem dd_two {H : Hp} {v : V} {x y : PyData} (h : Dd K H v (.tuple [x, y])) : ∃ p u1 u2, v = .ref p ∧ TupN H p [u1, u2] ∧ Dd K H u1 x ∧ Dd K H u2 y := by
  cases h with
  | tup h0 h2 =>
    cases h2 with
    | cons g1 g2 =>
    cases g2 with
    | cons g3 g4 =>
    cases g4
    exact ⟨_, _, _, rfl, h0, g1, g3⟩
theorem ok_two {x y : PyData} (h : okD (.tuple [x, y]) = true) : okD x = true ∧ okD y = true := by
  obtain ⟨_, h2⟩ := ok_tup h
  exact ⟨okAll_mem h2 List.mem_cons_self, okAll_mem h2 (List.mem_cons_of_mem _ List.mem_cons_self)⟩
theorem scFact : FnScope ["thing", "name", "row"] ["thing"] (defScope sFact) := ⟨rfl, rfl, rfl, by decide +kernel, rfl, by decide +kernel, by decide +kernel⟩
theorem ok_fact {f : Addr} {fd : FuncData} (F : FnP K "is_fact" sFact f fd) (DT : DTup P w K mg base) (DN : DA P w K mg base "is_name" 1 nameD) (DX : DA P w K mg base "is_text" 1 textD) (DR : DA P w K mg base "is_free_row" 3 rowD) : FnOk P w K mg base CX0 4 f fd ["thing"] (spA K factD) := by
  refine F.ok scFact spA_len (fun cdv A outer s H vs Q E hr h => ?_)
  obtain ⟨v, d, rfl, hd, ok, q⟩ := h
  refine ⟨_, PSs.nox (pss_cons (ps_if (PW.pt (pw_or (pt_not (pt_val (pe_df DT hr (by decide) (pa_cons (pv 0) (pa_cons pe_int (pa_cons pe_int pa_nil)))))) (pw_or1 (pt_not (pt_val (pe_df DN hr (by decide) (pa_cons (pe_ix ix_tup (pv 0) pe_int (fun _ _ => rfl)) pa_nil))))))) (pss_one (ps_ret pe_bl)) pss_nil)
      (pss_cons (ps_asg (pv 0) (pg_tup rfl (pgs_cons (pg_name (i := 1) scFact.nd rfl (Or.inl rfl)) (pgs_cons (pg_name (i := 2) scFact.nd rfl (Or.inl rfl)) pgs_nil))))
      (pss_cons (ps_if (pt_cmpR op_eq (pv 1) pe_str (nomark _)) (pss_one (ps_ret (pe_and (pe_df DT hr (by decide) (pa_cons (pv 2) (pa_cons pe_int (pa_cons pe_int pa_nil)))) (pe_and (pe_df DN hr (by decide) (pa_cons (pe_ix ix_tup (pv 2) pe_int (fun _ _ => rfl)) pa_nil)) (pe_one (pe_df DX hr (by decide) (pa_cons (pe_ix ix_tup (pv 2) pe_int (fun _ _ => rfl)) pa_nil))))))) pss_nil)
      (pss_one (ps_ret (pe_df DR hr (by decide) (pa_cons (pv 2) pa_nil))))))), ?_⟩
  refine ⟨_, rfl, v, d, 2, 2, rfl, hd, _, rfl, tst (fun e => ?_) fun e => ?_⟩
  · have q2 := q H (Same.refl H)
    rw [(no2 (show tupOfD 2 2 d = false by simpa using e)).1] at q2
    exact iteT q2
  obtain ⟨n, r, rfl⟩ := tup2 (show tupOfD 2 2 d = true by simpa using e)
  obtain ⟨p, u1, u2, rfl, h0, g1, g2⟩ := dd_two hd
  obtain ⟨on, or_⟩ := ok_two ok
  refine ⟨_, rfl, p, _, _, u1, rfl, rfl, h0.sq, atI_nat (j := 0) rfl, u1, n, rfl, g1, on, fun H1 s1 => ⟨_, rfl, tst (fun e2 => ?_) fun e2 => ?_⟩⟩
  · have q2 := q H1 s1
    have z : factD (.tuple [n, r]) = false := by
      show (nameD n && _) = false
      rw [show nameD n = false by simpa using e2, Bool.false_and]
    rw [z] at q2
    exact q2
  have en : nameD n = true := by simpa using e2
  have zf : factD (.tuple [n, r]) = if isR n = true then ruleD r else rowD r := by
    show (nameD n && _) = _
    rw [en, Bool.true_and]
  obtain ⟨x, rfl⟩ : ∃ x, n = .str x := by
    cases n with
    | str x => exact ⟨x, rfl⟩
    | _ => cases en
  cases dd_str g1
  refine ⟨_, rfl, p, _, rfl, (h0.same s1).sq, rfl, _, _, rfl, _, _, rfl, rfl, ?_⟩
  refine ⟨_, rfl, rfl, _, rfl, tst (fun e3 => ?_) fun e3 => ?_⟩
  · have ei : isR (.str x) = true := by
      have h1 := of_decide_eq_true e3
      injection h1 with h1
      exact decide_eq_true h1
    rw [ei, if_pos rfl] at zf
    refine ⟨_, rfl, u2, r, 2, 2, rfl, g2.same s1, _, rfl, tst (fun e4 => ?_) fun e4 => ?_⟩
    · obtain ⟨t, y, rfl⟩ := tup2 e4
      obtain ⟨p2, w1, w2, rfl, h3, g3, g4⟩ := dd_two g2
      obtain ⟨ot, oy⟩ := ok_two or_
      refine ⟨_, rfl, p2, _, _, w1, rfl, rfl, (h3.same s1).sq, atI_nat (j := 0) rfl, w1, t, rfl, g3.same s1, ot, fun H2 s2 => ⟨_, rfl, tst (fun e5 => ?_) fun e5 => ?_⟩⟩
      · refine ⟨_, rfl, p2, _, _, w2, rfl, rfl, (h3.same (s1.trans s2)).sq, atI_nat (j := 1) rfl, w2, y, rfl, g4.same (s1.trans s2), oy, fun H3 s3 => ?_⟩
        have q2 := q H3 ((s1.trans s2).trans s3)
        rw [zf, rule2, e5, Bool.true_and] at q2
        exact q2
      · have q2 := q H2 (s1.trans s2)
        rw [zf, rule2, e5, Bool.false_and] at q2
        exact q2
    · have q2 := q H1 s1
      rw [zf, (no2 e4).2] at q2
      exact q2
  · have ei : isR (.str x) = false := by
      have h1 := of_decide_eq_false e3
      exact decide_eq_false fun h => h1 (by rw [h])
    rw [ei] at zf
    refine ⟨_, rfl, u2, r, rfl, g2.same s1, or_, fun H2 s2 => ?_⟩
    have q2 := q H2 (s1.trans s2)
    rw [zf] at q2
    exact q2
end
end Sm
namespace Sm
open PySem PySem.Spec PyProof.Rows L2 Vd
section
variable {P : Program} {w : World} {K : PySem.W.Frag} {mg : Str → Option Value} {base : Heap}
/-! ### the law's looks -/
abbrev sLPrime : Stmt := top 41
abbrev sLText : Stmt := top 42
abbrev sLWorth : Stmt := top 43
abbrev sLName : Stmt := top 44
abbrev sLFact : Stmt := top 45
theorem scLPrime : FnScope ["thing"] ["thing"] (defScope sLPrime) := ⟨rfl, rfl, rfl, by decide +kernel, rfl, by decide +kernel, by decide +kernel⟩
theorem ok_lprime {f : Addr} {fd : FuncData} (F : FnP K "_law_is_prime" sLPrime f fd) (M : Nm mg) : FnOk P w K mg base CX0 1 f fd ["thing"] (spA K primeD) := by
  refine F.ok scLPrime spA_len (fun cdv A outer s H vs Q E hr h => ?_)
  obtain ⟨v, d, rfl, hd, ok, q⟩ := h
  refine ⟨_, PSs.nox (pss_cons (ps_if (PW.pt (pw_or (pt_not (pt_val (pe_callB (id := "isinstance") (r := rIsi K) call_isi (by rfl) M.isinstance (by decide +kernel) (pa_cons (pv 0) (pa_cons (ty_cls (n := "int") M.int (by rfl) (by decide +kernel)) pa_nil))))) (pw_or1 (pt_val (pe_callB (id := "isinstance") (r := rIsi K) call_isi (by rfl) M.isinstance (by decide +kernel) (pa_cons (pv 0) (pa_cons (ty_cls (n := "bool") M.bool (by rfl) (by decide +kernel)) pa_nil))))))) (pss_one (ps_ret pe_bl)) pss_nil)
      (pss_one (ps_ret (pe_chain op_le op_le pe_int (pv 0) pe_int)))), ?_⟩
  have no : intD d = false → Q (.bl false) H := fun n => by
    have z : primeD d = false := by
      cases d with
      | int i => cases n
      | _ => rfl
    have q2 := q H (Same.refl H)
    rw [z] at q2
    exact q2
  refine ⟨_, rfl, _, _, _, _, _, rfl, .ty _, tyx hd, kit_ty (kI d), _, rfl, tst (fun e => iteT (no ?_)) fun e => ?_⟩
  · unfold intD
    rw [show isI d = false by simpa using e, Bool.false_and]
  refine ⟨_, rfl, _, _, _, _, _, rfl, .ty _, tyx hd, kit_ty (kB d), _, rfl, tst (fun e2 => no ?_) fun e2 => ?_⟩
  · unfold intD
    rw [e2]
    simp
  have ei : intD d = true := by
    unfold intD
    rw [show isI d = true by simpa using e, e2]
    rfl
  obtain ⟨i, rfl⟩ := intD_of ei
  cases dd_int hd
  have q2 : Q (.bl (decide (1000 ≤ i) && decide (i ≤ 170141183460469231731687303715884105728))) H := q H (Same.refl H)
  refine ⟨_, rfl, _, _, rfl, rfl, _, rfl, tst (fun e2 => ⟨_, _, rfl, rfl, ?_⟩) fun e2 => ?_⟩
  · rw [show decide (1000 ≤ i) = true from e2, Bool.true_and] at q2
    exact q2
  · rw [show decide (1000 ≤ i) = false from e2, Bool.false_and] at q2
    exact q2
theorem scLText : FnScope ["thing", "sign"] ["thing"] (defScope sLText) := ⟨rfl, rfl, rfl, by decide +kernel, rfl, by decide +kernel, by decide +kernel⟩
theorem ok_ltext {f : Addr} {fd : FuncData} (F : FnP K "_law_is_text" sLText f fd) (M : Nm mg) : FnOk P w K mg base CX0 1 f fd ["thing"] (spA K textD) := by
  refine F.ok scLText spA_len (fun cdv A outer s H vs Q E hr h => ?_)
  obtain ⟨v, d, rfl, hd, ok, q⟩ := h
  refine ⟨_, PSs.nox (pss_one (ps_ret (pe_and (pe_callB (id := "isinstance") (r := rIsi K) call_isi (by rfl) M.isinstance (by decide +kernel) (pa_cons (pv 0) (pa_cons (ty_cls (n := "str") M.str (by rfl) (by decide +kernel)) pa_nil))) (pe_one (pe_callB (r := rAll K) (cr_all rfl) (by rfl) M.all (by decide +kernel) (pa_cons (pe_lc (own := [("sign", 1)]) (g := gName 1) (tt := tYes) (by rfl) scLText.nd (pi_str (pv 0)) (blkOk_by (N := ["thing", "sign"]) (sc := defScope sLText) (by decide +kernel)) (fun _ _ _ _ _ => pg_name (i := 1) scLText.nd rfl (Or.inl rfl)) (fun _ _ _ _ _ => pts_nil) (fun _ _ _ _ _ => (pe_or (pe_cmpR op_eq (pv 1) pe_str (nomark _)) (pe_one (pe_chain (r := rLeS) (r' := rLeS) op_le_str op_le_str pe_str (pv 1) pe_str))))) pa_nil)))))), ?_⟩
  refine ⟨_, rfl, _, _, _, _, _, rfl, .ty _, tyx hd, kit_ty (kS d), _, rfl, tst (fun e => ?_) fun e => ?_⟩
  · obtain ⟨x, rfl⟩ := isS_of e
    cases dd_str hd
    refine all_sgn (p := signB) (i := 0) (j := 1) rfl (ok_str ok) (fun _ => rfl) (fun c H Q q => ?_) fun H' s => q H' s
    refine ⟨_, rfl, rfl, ?_⟩
    rw [nl_eq]
    refine ⟨_, rfl, tst (fun e => ?_) fun e => ?_⟩
    · unfold signB at q
      rw [e, Bool.or_true] at q
      exact q
    · refine rd_sgn (l := 32) (h := 126) (by decide) (by decide) rfl ?_
      unfold signB at q
      rw [e, Bool.or_false] at q
      exact q
  · have z : textD d = false := by
      cases d with
      | str i => cases e
      | _ => rfl
    have q2 := q H (Same.refl H)
    rw [z] at q2
    exact q2
theorem scLWorth : FnScope ["thing", "sign"] ["thing"] (defScope sLWorth) := ⟨rfl, rfl, rfl, by decide +kernel, rfl, by decide +kernel, by decide +kernel⟩
theorem ok_lworth {f : Addr} {fd : FuncData} (F : FnP K "_law_is_worth" sLWorth f fd) (M : Nm mg) : FnOk P w K mg base CX0 1 f fd ["thing"] (spA K worthD) := by
  refine F.ok scLWorth spA_len (fun cdv A outer s H vs Q E hr h => ?_)
  obtain ⟨v, d, rfl, hd, ok, q⟩ := h
  refine ⟨_, PSs.nox (pss_cons (ps_if (pt_val (pe_callB (id := "isinstance") (r := rIsi K) call_isi (by rfl) M.isinstance (by decide +kernel) (pa_cons (pv 0) (pa_cons (ty_cls (n := "str") M.str (by rfl) (by decide +kernel)) pa_nil)))) (pss_one (ps_ret (pe_and (pe_cmpR op_le (pe_callB call_len_str (by rfl) M.len PySem.boot_len (pa_cons (pv 0) pa_nil)) pe_int (nomark _)) (pe_one (pe_callB (r := rAll K) (cr_all rfl) (by rfl) M.all (by decide +kernel) (pa_cons (pe_lc (own := [("sign", 1)]) (g := gName 1) (tt := tYes) (by rfl) scLWorth.nd (pi_str (pv 0)) (blkOk_by (N := ["thing", "sign"]) (sc := defScope sLWorth) (by decide +kernel)) (fun _ _ _ _ _ => pg_name (i := 1) scLWorth.nd rfl (Or.inl rfl)) (fun _ _ _ _ _ => pts_nil) (fun _ _ _ _ _ => (pe_chain (r := rLeS) (r' := rLeS) op_le_str op_le_str pe_str (pv 1) pe_str))) pa_nil)))))) pss_nil)
      (pss_one (ps_ret (pe_and (pe_callB (id := "isinstance") (r := rIsi K) call_isi (by rfl) M.isinstance (by decide +kernel) (pa_cons (pv 0) (pa_cons (ty_cls (n := "int") M.int (by rfl) (by decide +kernel)) pa_nil))) (pe_one (pe_not (pe_callB (id := "isinstance") (r := rIsi K) call_isi (by rfl) M.isinstance (by decide +kernel) (pa_cons (pv 0) (pa_cons (ty_cls (n := "bool") M.bool (by rfl) (by decide +kernel)) pa_nil))))))))), ?_⟩
  refine ⟨_, rfl, _, _, _, _, _, rfl, .ty _, tyx hd, kit_ty (kS d), _, rfl, tst (fun e => ?_) fun e => ?_⟩
  · obtain ⟨x, rfl⟩ := isS_of e
    cases dd_str hd
    have hz := ok_str ok
    refine ⟨_, rfl, x, rfl, by rw [sizeLine_eq]; omega, _, _, rfl, rfl, _, rfl, tst (fun e2 => ?_) fun e2 => ?_⟩
    · refine all_sgn (p := rngB 32 126) (i := 0) (j := 1) rfl hz (fun _ => rfl) (fun c H Q q => rd_sgn (l := 32) (h := 126) (by decide) (by decide) rfl q) fun H' s => ?_
      have h1 := of_decide_eq_true e2
      have q2 : Q (.bl (decide (x.length ≤ 20) && sgn 32 126 x)) H' := q H' s
      rw [decide_eq_true (by omega), Bool.true_and] at q2
      exact q2
    · have h1 := of_decide_eq_false e2
      have q2 : Q (.bl (decide (x.length ≤ 20) && sgn 32 126 x)) H := q H (Same.refl H)
      rw [decide_eq_false (by omega), Bool.false_and] at q2
      exact q2
  · have q2 := q H (Same.refl H)
    have z : worthD d = (isI d && !isB d) := by
      cases d with
      | str i => cases e
      | int i => rfl
      | bool i => rfl
      | _ => rfl
    rw [z] at q2
    refine ⟨_, rfl, _, _, _, _, _, rfl, .ty _, tyx hd, kit_ty (kI d), _, rfl, tst (fun e => ⟨_, rfl, _, _, _, _, _, rfl, .ty _, tyx hd, kit_ty (kB d), _, rfl, ?_⟩) fun e => ?_⟩
    · rw [e, Bool.true_and] at q2
      exact q2
    · rw [e, Bool.false_and] at q2
      exact q2
theorem scLName : FnScope ["thing", "sign"] ["thing"] (defScope sLName) := ⟨rfl, rfl, rfl, by decide +kernel, rfl, by decide +kernel, by decide +kernel⟩
theorem ok_lname {f : Addr} {fd : FuncData} (F : FnP K "_law_is_name" sLName f fd) (M : Nm mg) : FnOk P w K mg base CX0 1 f fd ["thing"] (spA K nameD) := by
  refine F.ok scLName spA_len (fun cdv A outer s H vs Q E hr h => ?_)
  obtain ⟨v, d, rfl, hd, ok, q⟩ := h
  refine ⟨_, PSs.nox (pss_one (ps_ret (pe_and (pe_callB (id := "isinstance") (r := rIsi K) call_isi (by rfl) M.isinstance (by decide +kernel) (pa_cons (pv 0) (pa_cons (ty_cls (n := "str") M.str (by rfl) (by decide +kernel)) pa_nil))) (pe_and (pe_chain op_le op_le pe_int (pe_callB call_len_str (by rfl) M.len PySem.boot_len (pa_cons (pv 0) pa_nil)) pe_int) (pe_one (pe_callB (r := rAll K) (cr_all rfl) (by rfl) M.all (by decide +kernel) (pa_cons (pe_lc (own := [("sign", 1)]) (g := gName 1) (tt := tYes) (by rfl) scLName.nd (pi_str (pv 0)) (blkOk_by (N := ["thing", "sign"]) (sc := defScope sLName) (by decide +kernel)) (fun _ _ _ _ _ => pg_name (i := 1) scLName.nd rfl (Or.inl rfl)) (fun _ _ _ _ _ => pts_nil) (fun _ _ _ _ _ => (pe_chain (r := rLeS) (r' := rLeS) op_le_str op_le_str pe_str (pv 1) pe_str))) pa_nil))))))), ?_⟩
  refine ⟨_, rfl, _, _, _, _, _, rfl, .ty _, tyx hd, kit_ty (kS d), _, rfl, tst (fun e => ?_) fun e => ?_⟩
  · obtain ⟨x, rfl⟩ := isS_of e
    cases dd_str hd
    have hz := ok_str ok
    have q2 : ∀ H', Same H H' → Q (.bl ((decide (1 ≤ x.length) && decide (x.length ≤ 8)) && sgn 97 122 x)) H' := q
    refine ⟨_, rfl, x, rfl, by rw [sizeLine_eq]; omega, _, _, rfl, rfl, _, rfl, tst (fun e1 => ⟨_, _, rfl, rfl, _, rfl, tst (fun e2 => ?_) fun e2 => ?_⟩) fun e1 => ⟨_, rfl, iteF ?_⟩⟩
    · refine all_sgn (p := rngB 97 122) (i := 0) (j := 1) rfl hz (fun _ => rfl) (fun c H Q q => rd_sgn (l := 97) (h := 122) (by decide) (by decide) rfl q) fun H' s => ?_
      have h1 := of_decide_eq_true e1
      have h2 := of_decide_eq_true e2
      have q3 := q2 H' s
      rw [decide_eq_true (by omega), decide_eq_true (by omega), Bool.true_and, Bool.true_and] at q3
      exact q3
    · have h2 := of_decide_eq_false e2
      have q3 := q2 H (Same.refl H)
      rw [show decide (x.length ≤ 8) = false from decide_eq_false (by omega), Bool.and_false, Bool.false_and] at q3
      exact q3
    · have h1 := of_decide_eq_false e1
      have q3 := q2 H (Same.refl H)
      rw [show decide (1 ≤ x.length) = false from decide_eq_false (by omega), Bool.false_and, Bool.false_and] at q3
      exact q3
  · have z : nameD d = false := by cases d <;> first | rfl | cases e
    have q2 := q H (Same.refl H)
    rw [z] at q2
    exact q2
theorem scLFact : FnScope ["thing", "worth"] ["thing"] (defScope sLFact) := ⟨rfl, rfl, rfl, by decide +kernel, rfl, by decide +kernel, by decide +kernel⟩
theorem not2 {ds : List PyData} (h : ds.length ≠ 2) : factD (.tuple ds) = false := by
  match ds, h with
  | [x, y], h => exact absurd rfl h
  | [], _ => rfl
  | [_], _ => rfl
  | _ :: _ :: _ :: _, _ => rfl
theorem len2 {ds : List PyData} (h : ds.length = 2) : ∃ x y, ds = [x, y] := by
  match ds, h with
  | [x, y], _ => exact ⟨x, y, rfl⟩
theorem ok_lfact {f : Addr} {fd : FuncData} (F : FnP K "_law_is_fact" sLFact f fd) (M : Nm mg) (DN : DA P w K mg base "_law_is_name" 1 nameD) (DX : DA P w K mg base "_law_is_text" 1 textD) (DW : DA P w K mg base "_law_is_worth" 1 worthD) : FnOk P w K mg base CX0 2 f fd ["thing"] (spA K factD) := by
  refine F.ok scLFact spA_len (fun cdv A outer s H vs Q E hr h => ?_)
  obtain ⟨v, d, rfl, hd, ok, q⟩ := h
  refine ⟨_, PSs.nox (pss_cons (ps_if (PW.pt (pw_or (pt_not (pt_val (pe_callB (id := "isinstance") (r := rIsi K) call_isi (by rfl) M.isinstance (by decide +kernel) (pa_cons (pv 0) (pa_cons (ty_cls (n := "tuple") M.tuple (by rfl) (by decide +kernel)) pa_nil))))) (pw_or (pt_cmpR op_ne (pe_callB call_len_seq (by rfl) M.len PySem.boot_len (pa_cons (pv 0) pa_nil)) pe_int (nomark _)) (pw_or (pt_not (pt_val (pe_df DN hr (by decide) (pa_cons (pe_ix ix_tup (pv 0) pe_int (fun _ _ => rfl)) pa_nil)))) (pw_or1 (pt_not (pt_val (pe_callB (id := "isinstance") (r := rIsi K) call_isi (by rfl) M.isinstance (by decide +kernel) (pa_cons (pe_ix ix_tup (pv 0) pe_int (fun _ _ => rfl)) (pa_cons (ty_cls (n := "tuple") M.tuple (by rfl) (by decide +kernel)) pa_nil)))))))))) (pss_one (ps_ret pe_bl)) pss_nil)
      (pss_cons (ps_if (pt_cmpR op_eq (pe_ix ix_tup (pv 0) pe_int (fun _ _ => rfl)) pe_str (nomark _)) (pss_one (ps_ret (pe_and (pe_cmpR op_eq (pe_callB call_len_seq (by rfl) M.len PySem.boot_len (pa_cons (pe_ix ix_tup (pv 0) pe_int (fun _ _ => rfl)) pa_nil)) pe_int (nomark _)) (pe_and (pe_df DN hr (by decide) (pa_cons (pe_ix ix_tup (pe_ix ix_tup (pv 0) pe_int (fun _ _ => rfl)) pe_int (fun _ _ => rfl)) pa_nil)) (pe_one (pe_df DX hr (by decide) (pa_cons (pe_ix ix_tup (pe_ix ix_tup (pv 0) pe_int (fun _ _ => rfl)) pe_int (fun _ _ => rfl)) pa_nil))))))) pss_nil)
      (pss_one (ps_ret (pe_and (pe_chain op_le op_le pe_int (pe_callB call_len_seq (by rfl) M.len PySem.boot_len (pa_cons (pe_ix ix_tup (pv 0) pe_int (fun _ _ => rfl)) pa_nil)) pe_int) (pe_one (pe_callB (r := rAll K) (cr_all rfl) (by rfl) M.all (by decide +kernel) (pa_cons (pe_lc (own := [("worth", 1)]) (g := gName 1) (tt := tYes) (by rfl) scLFact.nd (pi_tup (pe_ix ix_tup (pv 0) pe_int (fun _ _ => rfl))) (blkOk_by (N := ["thing", "worth"]) (sc := defScope sLFact) (by decide +kernel)) (fun _ _ _ _ _ => pg_name (i := 1) scLFact.nd rfl (Or.inl rfl)) (fun _ _ _ _ _ => pts_nil) (fun _ _ _ _ _ => (pe_df DW hr (by decide) (pa_cons (pv 1) pa_nil)))) pa_nil)))))))), ?_⟩
  have no : ∀ H', Same H H' → factD d = false → Q (.bl false) H' := fun H' s n => by
    have q2 := q H' s
    rw [n] at q2
    exact q2
  refine ⟨_, rfl, _, _, _, _, _, rfl, .ty _, tyx hd, kit_ty (kT d), _, rfl, tst (fun e => iteT (no H (Same.refl H) ?_)) fun e => ?_⟩
  · cases d with
    | tuple ds => cases e
    | _ => rfl
  obtain ⟨ds, rfl⟩ := isT_of (show isT d = true by simpa using e)
  obtain ⟨p, xs, rfl, h0, hx⟩ : ∃ p xs, v = .ref p ∧ TupN H p xs ∧ DdAll K H xs ds := by
    cases hd with
    | tup h0 h2 => exact ⟨_, _, rfl, h0, h2⟩
  have hl := dall_len hx
  refine ⟨_, rfl, p, _, rfl, .inr h0.sq, rfl, _, rfl, tst (fun e2 => iteT (no H (Same.refl H) (not2 ?_))) fun e2 => ?_⟩
  · intro c
    rw [← hl] at c
    rw [c] at e2
    cases e2
  have l2 : ds.length = 2 := by
    rw [← hl]
    have z : (!decide (V.int (xs.length : Int) = V.int 2)) = false := e2
    have z2 : decide (V.int (xs.length : Int) = V.int 2) = true := by simpa using z
    have z3 := of_decide_eq_true z2
    injection z3 with z3
    omega
  obtain ⟨n, r, rfl⟩ := len2 l2
  obtain ⟨p', u1, u2, ep, h0', g1, g2⟩ := dd_two hd
  cases ep
  obtain ⟨on, or_⟩ := ok_two ok
  refine ⟨_, rfl, p, _, _, u1, rfl, rfl, h0'.sq, atI_nat (j := 0) rfl, u1, n, rfl, g1, on, fun H1 s1 => ⟨_, rfl, tst (fun e3 => iteT (no H1 s1 ?_)) fun e3 => ?_⟩⟩
  · show (nameD n && _) = false
    rw [show nameD n = false by simpa using e3, Bool.false_and]
  have en : nameD n = true := by simpa using e3
  have zf : factD (.tuple [n, r]) = if isR n = true then ruleD r else rowD r := by
    show (nameD n && _) = _
    rw [en, Bool.true_and]
  obtain ⟨x, rfl⟩ : ∃ x, n = .str x := by
    cases n with
    | str x => exact ⟨x, rfl⟩
    | _ => cases en
  cases dd_str g1
  refine ⟨_, rfl, p, _, _, u2, rfl, rfl, (h0'.same s1).sq, atI_nat (j := 1) rfl, _, _, _, _, _, rfl, .ty _, tyx (g2.same s1), kit_ty (kT r), _, rfl, tst (fun e4 => no H1 s1 ?_) fun e4 => ?_⟩
  · rw [zf]
    cases r with
    | tuple ds => cases e4
    | _ => cases isR (.str x) <;> rfl
  obtain ⟨ws, rfl⟩ := isT_of (show isT r = true by simpa using e4)
  obtain ⟨p2, ys, rfl, h2, hy⟩ : ∃ p xs, u2 = .ref p ∧ TupN H p xs ∧ DdAll K H xs ws := by
    cases g2 with
    | tup h0 h2 => exact ⟨_, _, rfl, h0, h2⟩
  have hyl := dall_len hy
  obtain ⟨ow, oa⟩ := ok_tup or_
  have k1 : ∀ {j : Nat} {u : V}, ([V.str x, .ref p2] : List V)[j]? = some u → atI [V.str x, .ref p2] (j : Int) = some u := fun h => atI_nat h
  refine ⟨_, rfl, p, _, _, .str x, rfl, rfl, (h0'.same s1).sq, atI_nat (j := 0) rfl, rfl, _, rfl, tst (fun e5 => ?_) fun e5 => ?_⟩
  · have ei : isR (.str x) = true := by
      have h1 := of_decide_eq_true e5
      injection h1 with h1
      exact decide_eq_true h1
    rw [ei, if_pos rfl] at zf
    refine ⟨_, rfl, p, _, _, .ref p2, rfl, rfl, (h0'.same s1).sq, atI_nat (j := 1) rfl, p2, _, rfl, .inr (h2.same s1).sq, rfl, _, rfl, tst (fun e6 => ?_) fun e6 => ?_⟩
    · have l3 : ws.length = 2 := by
        rw [← hyl]
        have z3 := of_decide_eq_true e6
        injection z3 with z3
        omega
      obtain ⟨t, y, rfl⟩ := len2 l3
      obtain ⟨p3, w1, w2, ep, h3, g3, g4⟩ := dd_two g2
      cases ep
      obtain ⟨ot, oy⟩ := ok_two or_
      refine ⟨_, rfl, p, _, _, .ref p2, rfl, rfl, (h0'.same s1).sq, atI_nat (j := 1) rfl, p2, _, _, w1, rfl, rfl, (h3.same s1).sq, atI_nat (j := 0) rfl, w1, t, rfl, g3.same s1, ot, fun H2 s2 => ⟨_, rfl, tst (fun e7 => ?_) fun e7 => ?_⟩⟩
      · have s12 := s1.trans s2
        refine ⟨_, rfl, p, _, _, .ref p2, rfl, rfl, (h0'.same s12).sq, atI_nat (j := 1) rfl, p2, _, _, w2, rfl, rfl, (h3.same s12).sq, atI_nat (j := 1) rfl, w2, y, rfl, g4.same s12, oy, fun H3 s3 => ?_⟩
        have q2 := q H3 (s12.trans s3)
        rw [zf, rule2, e7, Bool.true_and] at q2
        exact q2
      · have q2 := q H2 (s1.trans s2)
        rw [zf, rule2, e7, Bool.false_and] at q2
        exact q2
    · refine no H1 s1 ?_
      rw [zf]
      have l3 : ws.length ≠ 2 := fun c => by
        rw [← hyl] at c
        have z3 := of_decide_eq_false e6
        exact z3 (by rw [c]; rfl)
      match ws, l3 with
      | [x, y], h => exact absurd rfl h
      | [], _ => rfl
      | [_], _ => rfl
      | _ :: _ :: _ :: _, _ => rfl
  · have ei : isR (.str x) = false := by
      have h1 := of_decide_eq_false e5
      exact decide_eq_false fun h => h1 (by rw [h])
    rw [ei, if_neg Bool.false_ne_true] at zf
    have zr : factD (.tuple [.str x, .tuple ws]) = ((decide ((1 : Int) ≤ (ws.length : Int)) && decide ((ws.length : Int) ≤ 5)) && ws.all worthD) := zf
    refine ⟨_, rfl, p, _, _, .ref p2, rfl, rfl, (h0'.same s1).sq, atI_nat (j := 1) rfl, p2, _, rfl, .inr (h2.same s1).sq, _, _, rfl, rfl, _, rfl, tst (fun e6 => ⟨_, _, rfl, rfl, _, rfl, tst (fun e7 => ?_) fun e7 => ?_⟩) fun e6 => ⟨_, rfl, iteF ?_⟩⟩
    · refine all_tup (p := worthD) (i := 0) (j := 1) (tp := tOp (rIxT K) (tVar 0) (tC (.int 1))) (fun Q' z => ⟨_, rfl, p, _, _, .ref p2, rfl, rfl, (h0'.same s1).sq, atI_nat (j := 1) rfl, z⟩) ((h2.same s1).sq (K := K)) (DdAll.same s1 hy) ow (fun _ => rfl) (fun v d H' Q m s hd z => ⟨_, rfl, v, d, rfl, hd, okAll_mem oa m, z⟩) fun H' s => ?_
      have q2 := q H' (s1.trans s)
      rw [zr, ← hyl, show decide ((1 : Int) ≤ (ys.length : Int)) = true from e6, show decide ((ys.length : Int) ≤ 5) = true from e7, Bool.true_and, Bool.true_and] at q2
      exact q2
    · have q2 := q H1 s1
      rw [zr, ← hyl, show decide ((ys.length : Int) ≤ 5) = false from e7, Bool.and_false, Bool.false_and] at q2
      exact q2
    · have q2 := q H1 s1
      rw [zr, ← hyl, show decide ((1 : Int) ≤ (ys.length : Int)) = false from e6, Bool.false_and, Bool.false_and] at q2
      exact q2
end
end Sm
namespace Sm
open PySem PySem.Spec PyProof.Rows L2 Vd CwR
/-! ### texts -/
def repS (x : Str) : Str := Txt.replace (Txt.replace x ("~" : Str) ("~~" : Str)) ("'" : Str) ("~'" : Str)
def wtext : PyData → Str
  | .str x => (("'" : Str) ++ repS x) ++ ("'" : Str)
  | .int i => Str.ofString (toString i)
  | _ => Str.empty
def joinT (ws : List PyData) : Str := Txt.join ("," : Str) (ws.map wtext)
def ftext : PyData → Str
  | .tuple [.str n, .tuple ws] => ((n ++ ("(" : Str)) ++ joinT ws) ++ (")" : Str)
  | _ => Str.empty
theorem len_app (a b : Str) : (a ++ b).length = a.length + b.length := by
  show (a.cps ++ b.cps).size = a.cps.size + b.cps.size
  exact Array.size_append
theorem list_app (a b : Str) : (a ++ b).cps.toList = a.cps.toList ++ b.cps.toList := by
  show (a.cps ++ b.cps).toList = _
  exact Array.toList_append
theorem emp_app (a : Str) : Str.empty ++ a = a := by
  obtain ⟨l⟩ := a
  show (⟨#[] ++ l⟩ : Str) = ⟨l⟩
  rw [Array.empty_append]
theorem rep_len1 {x y z : Str} {n k : Nat} (h : x.length ≤ n) (hz : z.length ≤ k) : (Txt.replace x y z).length ≤ n + (n + 1) * k := by
  have h1 := TK.replace_len x y z
  have h2 : (x.length + 1) * z.length ≤ (n + 1) * k := Nat.mul_le_mul (by omega) hz
  omega
theorem rep_lenA {x : Str} (h : x.length ≤ 4000) : (Txt.replace x ("~" : Str) ("~~" : Str)).length ≤ 12002 := rep_len1 (n := 4000) (k := 2) h (by decide)
theorem rep_len {x : Str} (h : x.length ≤ 4000) : (repS x).length ≤ 36008 := rep_len1 (n := 12002) (k := 2) (rep_lenA h) (by decide)
/-- signs below 2 ^ 32 -/
def Sml (x : Str) : Prop := ∀ c ∈ x.cps.toList, c < 4294967296
theorem sml_app {a b : Str} (h : Sml a) (k : Sml b) : Sml (a ++ b) := fun c hc => by
  rw [list_app] at hc
  rcases List.mem_append.mp hc with hc | hc
  · exact h c hc
  · exact k c hc
theorem sml_of (s : String) : Sml (Str.ofString s) := fun c hc => by
  rw [Str.ofString_eq_toList] at hc
  obtain ⟨ch, _, rfl⟩ := List.mem_map.mp hc
  exact ch.val.toNat_lt
theorem mem_repl {y z : List Nat} {c : Nat} : ∀ (s : Nat) (l : List Nat), c ∈ StrLaws.replS y z s l → c ∈ l ∨ c ∈ z
  | _, [], h => by
    rw [StrLaws.replS] at h
    exact .inl h
  | 0, d :: r, h => by
    rw [StrLaws.replS] at h
    split at h
    · rcases List.mem_append.mp h with h | h
      · exact .inr h
      · exact (mem_repl _ r h).imp (List.mem_cons_of_mem _) id
    · rcases List.mem_cons.mp h with h | h
      · exact .inl (h ▸ List.mem_cons_self)
      · exact (mem_repl _ r h).imp (List.mem_cons_of_mem _) id
  | s + 1, d :: r, h => by
    rw [StrLaws.replS] at h
    exact (mem_repl s r h).imp (List.mem_cons_of_mem _) id
theorem sml_rep {x y z : Str} (hy : 1 ≤ y.length) (h : Sml x) (k : Sml z) : Sml (Txt.replace x y z) := fun c hc => by
  rw [StrLaws.replace_list hy] at hc
  rcases mem_repl 0 _ hc with hc | hc
  · exact h c hc
  · exact k c hc
theorem sml_repS {x : Str} (h : Sml x) : Sml (repS x) := sml_rep (by decide) (sml_rep (by decide) h (sml_of _)) (sml_of _)
theorem sml_sgn {l h : Nat} (hh : h < 4294967296) {x : Str} (s : sgn l h x = true) : Sml x := fun c hc => by
  have := List.all_eq_true.mp s c hc
  have h2 := of_decide_eq_true (Bool.and_eq_true_iff.mp this).2
  omega
theorem sml_text {x : Str} (s : textD (.str x) = true) : Sml x := fun c hc => by
  have := List.all_eq_true.mp s c hc
  rcases Bool.or_eq_true_iff.mp this with h | h
  · have h2 := of_decide_eq_true (Bool.and_eq_true_iff.mp h).2
    omega
  · have h2 := of_decide_eq_true h
    omega
theorem mem_glue {z : List Nat} {c : Nat} : ∀ {r : List Str}, c ∈ StrLaws.glueL z r → c ∈ z ∨ ∃ p ∈ r, c ∈ p.cps.toList
  | [], h => by
    unfold StrLaws.glueL at h
    cases h
  | p :: r, h => by
    unfold StrLaws.glueL at h
    rcases List.mem_append.mp h with h | h
    · exact .inl h
    · rcases List.mem_append.mp h with h | h
      · exact .inr ⟨p, List.mem_cons_self, h⟩
      · exact (mem_glue h).imp id fun ⟨q, h1, h2⟩ => ⟨q, List.mem_cons_of_mem _ h1, h2⟩
theorem sml_join {a : Str} {ys : List Str} (h : Sml a) (k : ∀ y ∈ ys, Sml y) : Sml (Txt.join a ys) := fun c hc => by
  cases ys with
  | nil =>
    have e : (Txt.join a []).cps.toList = [] := rfl
    rw [e] at hc
    cases hc
  | cons p r =>
    have e : (Txt.join a (p :: r)).cps.toList = StrLaws.glueT a.cps.toList (p :: r) := StrLaws.glued_list a p r
    rw [e] at hc
    unfold StrLaws.glueT at hc
    rcases List.mem_append.mp hc with hc | hc
    · exact k p List.mem_cons_self c hc
    · rcases mem_glue hc with hc | ⟨q, h1, h2⟩
      · exact h c hc
      · exact k q (List.mem_cons_of_mem _ h1) c h2
/-- a worth, or a rule's text -/
def Leaf (d : PyData) : Prop := okD d = true ∧ ((∃ i, d = .int i) ∨ ∃ x, d = .str x ∧ Sml x)
theorem leaf_len {d : PyData} (h : Leaf d) : (wtext d).length ≤ 36010 := by
  obtain ⟨o, h⟩ := h
  rcases h with ⟨i, rfl⟩ | ⟨x, rfl, _⟩
  · have h1 := int_text_length_le (a := i) (k := 200) (by decide) (PySem.Flt.log2_lt_of (by decide) (ok_int o))
    show (Str.ofString (toString i)).length ≤ 36010
    rw [PySem.ofString_length]
    omega
  · have h1 := rep_len (ok_str o)
    show ((("'" : Str) ++ repS x) ++ ("'" : Str)).length ≤ 36010
    rw [len_app, len_app, show (("'" : Str)).length = 1 from by decide]
    omega
theorem leaf_sml {d : PyData} (h : Leaf d) : Sml (wtext d) := by
  obtain ⟨o, h⟩ := h
  rcases h with ⟨i, rfl⟩ | ⟨x, rfl, s⟩
  · exact sml_of _
  · exact sml_app (sml_app (sml_of _) (sml_repS s)) (sml_of _)
theorem worth_leaf {d : PyData} (o : okD d = true) (h : worthD d = true) : Leaf d := by
  refine ⟨o, ?_⟩
  rcases Bool.or_eq_true_iff.mp h with h | h
  · exact .inl (intD_of h)
  · cases d with
    | str x => exact .inr ⟨x, rfl, sml_sgn (by decide) (Bool.and_eq_true_iff.mp (show (decide (x.length ≤ 20) && sgn 32 126 x) = true from h)).2⟩
    | _ => cases h
theorem name_sml {x : Str} (h : nameD (.str x) = true) : Sml x ∧ x.length ≤ 8 := by
  obtain ⟨h1, h2⟩ := Bool.and_eq_true_iff.mp (show ((decide (1 ≤ x.length) && decide (x.length ≤ 8)) && sgn 97 122 x) = true from h)
  exact ⟨sml_sgn (by decide) h2, of_decide_eq_true (Bool.and_eq_true_iff.mp h1).2⟩
theorem fact_parts {d : PyData} (o : okD d = true) (h : factD d = true) : ∃ n ws, d = .tuple [.str n, .tuple ws] ∧ n.length ≤ 8 ∧ Sml n ∧ ws.length ≤ 5 ∧ ∀ x ∈ ws, Leaf x := by
  cases hd : tupOfD 2 2 d with
  | false =>
    rw [(no2 hd).1] at h
    cases h
  | true =>
    obtain ⟨n, r, rfl⟩ := tup2 hd
    obtain ⟨on, or_⟩ := ok_two o
    obtain ⟨h1, h2⟩ := Bool.and_eq_true_iff.mp (show (nameD n && (if isR n = true then ruleD r else rowD r)) = true from h)
    obtain ⟨x, rfl⟩ : ∃ x, n = .str x := by
      cases n with
      | str x => exact ⟨x, rfl⟩
      | _ => cases h1
    obtain ⟨s1, s2⟩ := name_sml h1
    cases hr : isR (.str x) with
    | true =>
      rw [hr, if_pos rfl] at h2
      cases hq : tupOfD 2 2 r with
      | false =>
        rw [(no2 hq).2] at h2
        cases h2
      | true =>
        obtain ⟨t, y, rfl⟩ := tup2 hq
        obtain ⟨ot, oy⟩ := ok_two or_
        rw [rule2] at h2
        obtain ⟨h3, h4⟩ := Bool.and_eq_true_iff.mp h2
        obtain ⟨u, rfl⟩ : ∃ x, t = .str x := by
          cases t with
          | str x => exact ⟨x, rfl⟩
          | _ => cases h3
        obtain ⟨v, rfl⟩ : ∃ x, y = .str x := by
          cases y with
          | str x => exact ⟨x, rfl⟩
          | _ => cases h4
        refine ⟨x, _, rfl, s2, s1, (by show 2 ≤ 5; decide), fun z hz => ?_⟩
        rcases List.mem_cons.mp hz with rfl | hz
        · exact ⟨ot, .inr ⟨_, rfl, (name_sml h3).1⟩⟩
        · rw [List.mem_singleton.mp hz]
          exact ⟨oy, .inr ⟨_, rfl, sml_text h4⟩⟩
    | false =>
      rw [hr, if_neg Bool.false_ne_true] at h2
      cases r with
      | tuple ws =>
        obtain ⟨_, oa⟩ := ok_tup or_
        obtain ⟨h3, h4⟩ := Bool.and_eq_true_iff.mp (show ((decide ((1 : Int) ≤ (ws.length : Int)) && decide ((ws.length : Int) ≤ 5)) && ws.all worthD) = true from h2)
        have h5 := of_decide_eq_true (Bool.and_eq_true_iff.mp h3).2
        exact ⟨x, ws, rfl, s2, s1, by omega, fun z hz => worth_leaf (okAll_mem oa hz) (List.all_eq_true.mp h4 z hz)⟩
      | _ => cases h2
theorem join_len {ws : List PyData} (h : ws.length ≤ 5) (k : ∀ x ∈ ws, Leaf x) : ((ws.map wtext).map (·.length)).sum + (ws.map wtext).length * (("," : Str)).length ≤ 200000 := by
  have h1 := sumLen_le_of_bound wtext 36010 ws fun a ha => leaf_len (k a ha)
  rw [List.length_map, show (("," : Str)).length = 1 from by decide]
  have : 36010 * ws.length ≤ 36010 * 5 := Nat.mul_le_mul_left _ h
  omega
theorem joinT_len {ws : List PyData} (h : ws.length ≤ 5) (k : ∀ x ∈ ws, Leaf x) : (joinT ws).length ≤ 200000 := by
  unfold joinT
  rw [TL.join_eq]
  exact Nat.le_trans (StrLaws.join_length_le _ _) (join_len h k)
theorem ftext_sml {d : PyData} (o : okD d = true) (h : factD d = true) : Sml (ftext d) := by
  obtain ⟨n, ws, rfl, _, h1, _, h2⟩ := fact_parts o h
  exact sml_app (sml_app (sml_app h1 (sml_of _)) (sml_join (sml_of _) fun y hy => by
    obtain ⟨x, hx, rfl⟩ := List.mem_map.mp hy
    exact leaf_sml (h2 x hx))) (sml_of _)
/-! ### mixing -/
def numS (c : Nat) : Int := if c = 10 then 0 else (c : Int) - 31
def mixS (p m : Int) (c : Nat) : Int := (m * m + 3 * m * numS c + numS c + 5) % p
def mixF (p : Int) (x : Str) : Int := x.cps.toList.foldl (mixS p) 1
theorem for_str {x : Str} {g : TG} {tb : TS} {D : Ends} {σ : L2.St} {H : Hp} (Pv : Nat → L2.St → Hp → Prop) (h0 : Pv 0 σ H)
    (hs : ∀ i c σ H, x.cps.toList[i]? = some c → Pv i σ H → g (.str ⟨#[c]⟩) σ H fun σ2 H2 => tb { D with nx := Pv (i + 1), ct := Pv (i + 1), bk := D.nx } σ2 H2) (hd : ∀ σ H, Pv x.cps.toList.length σ H → D.nx σ H) :
    ∃ W : Nat → Nat → L2.St → Hp → Prop, (∃ m, W 0 m σ H) ∧ ∀ i m σ H, W i m σ H →
      ((Its x).stop i H ∧ D.nx σ H) ∨ ((Its x).go i H ∧ ∃ N : L2.St → Hp → Prop, (∀ σ' H', N σ' H' → ∃ m', m' < m ∧ W (i + 1) m' σ' H') ∧ ∀ v H', (Its x).yld i H v H' → g v σ H' fun σ2 H2 => tb { D with nx := N, ct := N, bk := D.nx } σ2 H2) := by
  have sz : x.cps.toList.length = x.cps.size := Array.length_toList
  refine ⟨fun i m σ H => m = x.cps.size - i ∧ i ≤ x.cps.size ∧ Pv i σ H, ⟨x.cps.size, by simp, Nat.zero_le _, h0⟩, ?_⟩
  rintro i m σ H ⟨rfl, hi, p⟩
  by_cases hlt : i < x.cps.size
  · refine .inr ⟨hlt, Pv (i + 1), fun σ' H' p' => ⟨x.cps.size - (i + 1), by omega, rfl, hlt, p'⟩, fun v H' y => ?_⟩
    obtain ⟨rfl, c, hc, rfl⟩ := y
    exact hs i c σ _ (by rw [Array.getElem?_toList]; exact hc) p
  · have e : i = x.cps.size := by omega
    exact .inl ⟨by show x.cps.size ≤ i; omega, hd σ H (by rw [sz, ← e]; exact p)⟩
theorem sq_ok {m : Int} (h0 : 0 ≤ m) (h1 : m ≤ 170141183460469231731687303715884105728) : CMulW m m := wide_mul (a := 130) (b := 130) (by omega) (by omega) (by decide) (by decide) (by decide)
theorem num_ok {c : Nat} (h : c < 4294967296) : -(2 ^ 64) < numS c ∧ numS c < 2 ^ 64 := by
  unfold numS
  split <;> omega
section
variable {P : Program} {w : World} {K : PySem.W.Frag} {mg : Str → Option Value} {base : Heap}
def spMix : Sp := fun vs H Q _ => ∃ (p : Int) (x : Str), vs = [.int p, .str x] ∧ 0 < p ∧ p ≤ 170141183460469231731687303715884105728 ∧ Sml x ∧ Q (.int (mixF p x)) H
theorem spMix_len {x y : Str} : ∀ vs H Q E, spMix vs H Q E → vs.length = [x, y].length := fun vs H Q E h => by
  obtain ⟨v, d, rfl, _⟩ := h
  rfl
abbrev sMixed : Stmt := top 24
abbrev sLMix : Stmt := top 34
theorem fold_take {p : Int} {x : Str} {i c : Nat} (h : x.cps.toList[i]? = some c) : (x.cps.toList.take (i + 1)).foldl (mixS p) 1 = mixS p ((x.cps.toList.take i).foldl (mixS p) 1) c := by
  rw [List.take_add_one, h, List.foldl_append]
  rfl
theorem scMixed : FnScope ["p", "text", "told", "sign", "number"] ["p", "text"] (defScope sMixed) := ⟨rfl, rfl, rfl, by decide +kernel, rfl, by decide +kernel, by decide +kernel⟩
theorem ok_mixed {f : Addr} {fd : FuncData} (F : FnP K "mixed" sMixed f fd) (M : Nm mg) : FnOk P w K mg base CX0 1 f fd ["p", "text"] spMix := by
  obtain ⟨tb, hb⟩ := M.BEFORE_BLANK_
  refine F.ok scMixed spMix_len (fun cdv A outer s H vs Q E hr h => ?_)
  obtain ⟨p, x, rfl, p0, p1, sm, q⟩ := h
  refine ⟨_, PSs.nox (pss_cons (ps_set (i := 2) scMixed.nd rfl (Or.inl rfl) pe_int)
      (pss_cons (ps_for PassesOwn.never rfl (pi_str (pv 1)) (pg_name (i := 3) scMixed.nd rfl (Or.inl rfl)) (pss_cons (ps_set (i := 4) scMixed.nd rfl (Or.inl rfl) (pe_ifExp (pt_cmpR op_eq (pv 3) pe_str (nomark _)) pe_int (pe_op op_sub (pe_callB call_ord (by rfl) M.ord (by decide +kernel) (pa_cons (pv 3) pa_nil)) (pe_glob (v := .int 31) (by rfl) hb ⟨tb, rfl⟩))))
      (pss_one (ps_set (i := 2) scMixed.nd rfl (Or.inl rfl) (pe_op op_mod (pe_op op_add (pe_op op_add (pe_op op_add (pe_op op_mulW (pv 2) (pv 2)) (pe_op op_mul (pe_op op_mul pe_int (pv 2)) (pv 4))) (pv 4)) pe_int) (pv 0))))))
      (pss_one (ps_ret (pv 2))))), ?_⟩
  refine ⟨_, rfl, x, rfl, ?_⟩
  refine for_str (fun i σ H' => H' = H ∧ ∃ m a b, σ = [some (.int p), some (.str x), some (.int m), a, b] ∧ m = (x.cps.toList.take i).foldl (mixS p) 1 ∧ 0 ≤ m ∧ m ≤ 170141183460469231731687303715884105728) ⟨rfl, 1, none, none, rfl, by rw [List.take_zero]; rfl, by decide, by decide⟩ (fun i c σ H' hx z => ?_) (fun σ H' z => ?_)
  · obtain ⟨rfl, m, a, b, rfl, em, m0, m1⟩ := z
    have hc := sm c (List.mem_of_getElem? hx)
    have key : ∀ n : Int, n = numS c → (∃ m' a b, [some (.int p), some (.str x), some (.int ((m * m + 3 * m * n + n + 5) % p)), some (.str ⟨#[c]⟩), some (.int n)] = [some (.int p), some (.str x), some (V.int m'), a, b] ∧ m' = (x.cps.toList.take (i + 1)).foldl (mixS p) 1 ∧ 0 ≤ m' ∧ m' ≤ 170141183460469231731687303715884105728) := fun n en => by
      refine ⟨_, _, _, rfl, ?_, Int.emod_nonneg _ (by omega), ?_⟩
      · rw [fold_take hx, ← em, en]
        rfl
      · have := Int.emod_lt_of_pos (m * m + 3 * m * n + n + 5) p0
        omega
    refine ⟨_, rfl, rfl, _, rfl, tst (fun e => ?_) fun e => ?_⟩
    · have en : (0 : Int) = numS c := by
        rw [nl_eq] at e
        unfold numS
        rw [if_pos (of_decide_eq_true e)]
      exact ⟨_, rfl, _, rfl, _, _, rfl, rfl, sq_ok m0 m1, _, rfl, _, _, rfl, rfl, .inl ⟨by decide, by decide⟩, _, rfl, _, _, rfl, rfl, .inr ⟨by decide, by decide⟩, _, _, rfl, rfl, _, rfl, _, _, rfl, rfl, _, _, rfl, rfl, _, rfl, _, _, rfl, rfl, p0, rfl, key 0 en⟩
    · have en : (c : Int) - 31 = numS c := by
        rw [nl_eq] at e
        unfold numS
        rw [if_neg (of_decide_eq_false e)]
      have hn : -(2 ^ 64) < (c : Int) - 31 ∧ (c : Int) - 31 < 2 ^ 64 := by rw [en]; exact num_ok hc
      exact ⟨_, rfl, ⟨#[c]⟩, rfl, rfl, _, _, rfl, rfl, _, rfl, _, rfl, _, _, rfl, rfl, sq_ok m0 m1, _, rfl, _, _, rfl, rfl, .inl ⟨by decide, by decide⟩, _, rfl, _, _, rfl, rfl, .inr hn, _, _, rfl, rfl, _, rfl, _, _, rfl, rfl, _, _, rfl, rfl, _, rfl, _, _, rfl, rfl, p0, rfl, key _ en⟩
  · obtain ⟨rfl, m, a, b, rfl, em, m0, m1⟩ := z
    refine ⟨_, rfl, ?_⟩
    rw [List.take_of_length_le (Nat.le_refl _)] at em
    rw [em]
    exact q
theorem scLMix : FnScope ["p", "text", "found", "sign", "number"] ["p", "text"] (defScope sLMix) := ⟨rfl, rfl, rfl, by decide +kernel, rfl, by decide +kernel, by decide +kernel⟩
theorem ok_lmix {f : Addr} {fd : FuncData} (F : FnP K "_law_mix" sLMix f fd) (M : Nm mg) : FnOk P w K mg base CX0 1 f fd ["p", "text"] spMix := by
  refine F.ok scLMix spMix_len (fun cdv A outer s H vs Q E hr h => ?_)
  obtain ⟨p, x, rfl, p0, p1, sm, q⟩ := h
  refine ⟨_, PSs.nox (pss_cons (ps_set (i := 2) scLMix.nd rfl (Or.inl rfl) pe_int)
      (pss_cons (ps_for PassesOwn.never rfl (pi_str (pv 1)) (pg_name (i := 3) scLMix.nd rfl (Or.inl rfl)) (pss_cons (ps_set (i := 4) scLMix.nd rfl (Or.inl rfl) (pe_ifExp (pt_cmpR op_eq (pv 3) pe_str (nomark _)) pe_int (pe_op op_sub (pe_callB call_ord (by rfl) M.ord (by decide +kernel) (pa_cons (pv 3) pa_nil)) pe_int)))
      (pss_one (ps_set (i := 2) scLMix.nd rfl (Or.inl rfl) (pe_op op_mod (pe_callTy call_int1 (by rfl) M.int (by decide +kernel) (pa_cons (pe_op op_add (pe_op op_add (pe_op op_add (pe_op op_mulW (pv 2) (pv 2)) (pe_op op_mul (pe_op op_mul pe_int (pv 2)) (pv 4))) (pv 4)) pe_int) pa_nil)) (pv 0))))))
      (pss_one (ps_ret (pv 2))))), ?_⟩
  refine ⟨_, rfl, x, rfl, ?_⟩
  refine for_str (fun i σ H' => H' = H ∧ ∃ m a b, σ = [some (.int p), some (.str x), some (.int m), a, b] ∧ m = (x.cps.toList.take i).foldl (mixS p) 1 ∧ 0 ≤ m ∧ m ≤ 170141183460469231731687303715884105728) ⟨rfl, 1, none, none, rfl, by rw [List.take_zero]; rfl, by decide, by decide⟩ (fun i c σ H' hx z => ?_) (fun σ H' z => ?_)
  · obtain ⟨rfl, m, a, b, rfl, em, m0, m1⟩ := z
    have hc := sm c (List.mem_of_getElem? hx)
    have key : ∀ n : Int, n = numS c → (∃ m' a b, [some (.int p), some (.str x), some (.int ((m * m + 3 * m * n + n + 5) % p)), some (.str ⟨#[c]⟩), some (.int n)] = [some (.int p), some (.str x), some (V.int m'), a, b] ∧ m' = (x.cps.toList.take (i + 1)).foldl (mixS p) 1 ∧ 0 ≤ m' ∧ m' ≤ 170141183460469231731687303715884105728) := fun n en => by
      refine ⟨_, _, _, rfl, ?_, Int.emod_nonneg _ (by omega), ?_⟩
      · rw [fold_take hx, ← em, en]
        rfl
      · have := Int.emod_lt_of_pos (m * m + 3 * m * n + n + 5) p0
        omega
    refine ⟨_, rfl, rfl, _, rfl, tst (fun e => ?_) fun e => ?_⟩
    · have en : (0 : Int) = numS c := by
        rw [nl_eq] at e
        unfold numS
        rw [if_pos (of_decide_eq_true e)]
      exact ⟨_, rfl, _, rfl, _, _, rfl, rfl, sq_ok m0 m1, _, rfl, _, _, rfl, rfl, .inl ⟨by decide, by decide⟩, _, rfl, _, _, rfl, rfl, .inr ⟨by decide, by decide⟩, _, _, rfl, rfl, _, rfl, _, _, rfl, rfl, _, _, rfl, rfl, .inl ⟨_, rfl, _, rfl, _, _, rfl, rfl, p0, rfl, key 0 en⟩⟩
    · have en : (c : Int) - 31 = numS c := by
        rw [nl_eq] at e
        unfold numS
        rw [if_neg (of_decide_eq_false e)]
      have hn : -(2 ^ 64) < (c : Int) - 31 ∧ (c : Int) - 31 < 2 ^ 64 := by rw [en]; exact num_ok hc
      exact ⟨_, rfl, ⟨#[c]⟩, rfl, rfl, _, _, rfl, rfl, _, rfl, _, rfl, _, _, rfl, rfl, sq_ok m0 m1, _, rfl, _, _, rfl, rfl, .inl ⟨by decide, by decide⟩, _, rfl, _, _, rfl, rfl, .inr hn, _, _, rfl, rfl, _, rfl, _, _, rfl, rfl, _, _, rfl, rfl, .inl ⟨_, rfl, _, rfl, _, _, rfl, rfl, p0, rfl, key _ en⟩⟩
  · obtain ⟨rfl, m, a, b, rfl, em, m0, m1⟩ := z
    refine ⟨_, rfl, ?_⟩
    rw [List.take_of_length_le (Nat.le_refl _)] at em
    rw [em]
    exact q
end
end Sm
namespace Sm
open PySem PySem.Spec PyProof.Rows L2 Vd CwR
section
variable {X : Cx}
/-- name = value, where a token is out -/
theorem pst_set {i : Nat} {x : Str} {e : Expr} {te : TE} {pos pos' : Pos} (hN : X.N.Nodup) (hi : X.N[i]? = some x) (hx : Loc X.env.scope x) (he : PET X e te) (hs : swapsWith e (some (.Name x pos')) pos.line X.env = pure false := by rfl) (hf : X.fn x = true ∨ X.env.scope.names.lookup x = some .local := by first | exact .inl rfl | exact .inr rfl | assumption) :
    PST X (.Assign [.Name x pos'] e pos) (tAsg te (gName i)) := fun pins s σ H D h0 I h =>
  wpAny_Assign_Name (thn (he pins s σ H _ h0 I h) fun v s1 ⟨y, H1, I1, r1, q1⟩ => store_ok I1 hN hi hx r1 (fun s2 I2 => ⟨_, H1, I2, q1⟩) hf) hs
end
/-- a list of worths' texts -/
theorem map_tup {K : PySem.W.Frag} {a : Addr} {xs : List V} {ds : List PyData} {p : PyData → V} {j : Nat} {te : TE} {σ : L2.St} {H : Hp} {Q : VK} {tp : TE} (htp : ∀ Q' : VK, Q' (.ref a) H → tp σ H Q') (h1 : SqT K H a xs) (hd : DdAll K H xs ds) (hz : ds.length ≤ 4000) (hw : ∀ v, wipe ((wipe σ [j]).set j v) [j] = wipe σ [j])
    (hte : ∀ (v : V) (d : PyData) (H' : Hp) (Q : VK), d ∈ ds → Same H H' → Dd K H' v d → (∀ H'', Same H' H'' → Q (p d) H'') → te ((wipe σ [j]).set j (some v)) H' Q) (q : ∀ D H', Same H H' → H' D = some (.lst (ds.map p)) → Q (.ref D) H') : tLc (iTup K tp) (gName j) tYes te [j] σ H Q := by
  have hx0 : xs.length = ds.length := dall_len hd
  refine htp _ ⟨a, rfl, ⟨_, h1⟩, fun D hD => ?_⟩
  refine lc_tup (xs := xs) (fun i H' => Same H H' ∧ H' D = some (.lst ((ds.take i).map p))) ⟨same_up hD, upd_same⟩ (fun i H' _ e => SqT.same e.1 h1) (fun i x H' hx e => ?_) (fun H1 e => ?_)
  · obtain ⟨d, he, hdd⟩ := dall_at' hd hx
    have il : i < ds.length := (List.getElem?_eq_some_iff.mp he).1
    refine ⟨hw _, ?_⟩
    refine hte x d H' _ (List.mem_of_getElem? he) e.1 (Dd.same e.1 hdd) fun H2 s2 => ⟨_, s2 _ _ e.2, ?_, ?_, ?_⟩
    · rw [List.length_map, List.length_take, sizeLine_eq]
      omega
    · intro c' o z
      rw [upd_ne (ne_of_none z hD)]
      exact s2 _ _ (e.1 c' o z)
    · rw [upd_same, List.take_add_one, he, List.map_append]
      rfl
  · refine q D H1 e.1 ?_
    rw [e.2, hx0, List.take_of_length_le (Nat.le_refl _)]
section
variable {P : Program} {w : World} {K : PySem.W.Frag} {mg : Str → Option Value} {base : Heap}
abbrev sWorthText : Stmt := top 6
abbrev sLWorthText : Stmt := top 35
def spWorthText (K : PySem.W.Frag) : Sp := fun vs H Q _ => ∃ (v : V) (d : PyData), vs = [v] ∧ Dd K H v d ∧ Leaf d ∧ Q (.str (wtext d)) H
theorem spWorthText_len {x : Str} : ∀ vs H Q E, spWorthText K vs H Q E → vs.length = [x].length := fun vs H Q E h => by
  obtain ⟨v, d, rfl, _⟩ := h
  rfl
theorem rep_fit {x : Str} (h : x.length ≤ 4000) : x.length + (x.length + 1) * (("~~" : Str)).length ≤ 16777216 := by
  rw [show (("~~" : Str)).length = 2 from by decide]
  omega
theorem rep_fit2 {x : Str} (h : x.length ≤ 4000) : (Txt.replace x ("~" : Str) ("~~" : Str)).length + ((Txt.replace x ("~" : Str) ("~~" : Str)).length + 1) * (("~'" : Str)).length ≤ 16777216 := by
  have := rep_lenA h
  rw [show (("~'" : Str)).length = 2 from by decide]
  omega
theorem rep_out {x : Str} (h : x.length ≤ 4000) : (("'" : Str) ++ repS x).length ≤ sizeLine ∧ ((("'" : Str) ++ repS x) ++ ("'" : Str)).length ≤ sizeLine := by
  have := rep_len h
  simp only [len_app, show (("'" : Str)).length = 1 from by decide, sizeLine_eq]
  omega
theorem scWorthText : FnScope ["worth", "escaped"] ["worth"] (defScope sWorthText) := ⟨rfl, rfl, rfl, by decide +kernel, rfl, by decide +kernel, by decide +kernel⟩
theorem ok_worthText {f : Addr} {fd : FuncData} (F : FnP K "worth_text" sWorthText f fd) (M : Nm mg) : FnOk P w K mg base CX0 1 f fd ["worth"] (spWorthText K) := by
  obtain ⟨oc, od, dV, kV, doc, pm, an, cdv, ct, osl, rfl, lk, hcd, _, _⟩ := F.ex
  refine fn_ofT lk hcd scWorthText (by decide +kernel) (by decide) spWorthText_len (fun A outer s H vs Q E hr h => ?_)
  obtain ⟨v, d, rfl, hd, lf, q⟩ := h
  refine ⟨_, psst_cons (pst_if (pt_val (pe_callB (id := "isinstance") (r := rIsi K) call_isi (by rfl) M.isinstance (by decide +kernel) (pa_cons (pv 0) (pa_cons (ty_cls (n := "str") M.str (by rfl) (by decide +kernel)) pa_nil)))) (psst_cons (pst_set (i := 1) scWorthText.nd rfl (Or.inl rfl) (pet_replT (pet_replC (pv 0)))) (psst_one (PST.of (ps_ret (pe_joined (PJ.cons pe_str (PJ.cons (pe_fmt (pv 1)) (PJ.cons pe_str PJ.nil)))))))) psst_nil) (psst_one (PST.of (ps_ret (pe_callTy call_str_int (by rfl) M.str (by decide +kernel) (pa_cons (pv 0) pa_nil))))), ?_⟩
  obtain ⟨o, lf2⟩ := lf
  rcases lf2 with ⟨i, rfl⟩ | ⟨x, rfl, _⟩
  · cases dd_int hd
    exact ⟨_, rfl, _, _, _, _, _, rfl, .ty _, tyx hd, kit_ty (kS (.int i)), _, rfl, iteF ⟨_, rfl, i, rfl, Nat.lt_of_lt_of_le (PySem.Flt.log2_lt_of (by decide) (ok_int o)) (by decide), q⟩⟩
  · cases dd_str hd
    have hz := ok_str o
    obtain ⟨z1, z2⟩ := rep_out hz
    refine ⟨_, rfl, _, _, _, _, _, rfl, .ty _, tyx hd, kit_ty (kS (.str x)), _, rfl, iteT ⟨_, rfl, _, rfl, rep_fit hz, _, rfl, rep_fit2 hz, ?_⟩⟩
    refine ⟨_, rfl, by decide, _, rfl, .inl ⟨_, rfl, Nat.le_trans (rep_len hz) (by rw [sizeLine_eq]; decide), _, rfl, ?_, _, rfl, ?_, ?_⟩⟩
    · rw [emp_app]
      exact z1
    · rw [emp_app]
      exact z2
    · rw [emp_app]
      exact q
theorem scLWorthText : FnScope ["worth"] ["worth"] (defScope sLWorthText) := ⟨rfl, rfl, rfl, by decide +kernel, rfl, by decide +kernel, by decide +kernel⟩
theorem ok_lworthText {f : Addr} {fd : FuncData} (F : FnP K "_law_worth_text" sLWorthText f fd) (M : Nm mg) : FnOk P w K mg base CX0 1 f fd ["worth"] (spWorthText K) := by
  obtain ⟨oc, od, dV, kV, doc, pm, an, cdv, ct, osl, rfl, lk, hcd, _, _⟩ := F.ex
  refine fn_ofT lk hcd scLWorthText (by decide +kernel) (by decide) spWorthText_len (fun A outer s H vs Q E hr h => ?_)
  obtain ⟨v, d, rfl, hd, lf, q⟩ := h
  refine ⟨_, psst_cons (pst_if (pt_val (pe_callB (id := "isinstance") (r := rIsi K) call_isi (by rfl) M.isinstance (by decide +kernel) (pa_cons (pv 0) (pa_cons (ty_cls (n := "str") M.str (by rfl) (by decide +kernel)) pa_nil)))) (psst_one (pst_ret (pet_op op_add_str (pet_op op_add_str (PET.of pe_str) (pet_replT (pet_replC (pv 0)))) (PET.of pe_str)))) psst_nil) (psst_one (PST.of (ps_ret (pe_callTy call_str_int (by rfl) M.str (by decide +kernel) (pa_cons (pv 0) pa_nil))))), ?_⟩
  obtain ⟨o, lf2⟩ := lf
  rcases lf2 with ⟨i, rfl⟩ | ⟨x, rfl, _⟩
  · cases dd_int hd
    exact ⟨_, rfl, _, _, _, _, _, rfl, .ty _, tyx hd, kit_ty (kS (.int i)), _, rfl, iteF ⟨_, rfl, i, rfl, Nat.lt_of_lt_of_le (PySem.Flt.log2_lt_of (by decide) (ok_int o)) (by decide), q⟩⟩
  · cases dd_str hd
    have hz := ok_str o
    obtain ⟨z1, z2⟩ := rep_out hz
    rw [len_app] at z1
    rw [len_app] at z2
    exact ⟨_, rfl, _, _, _, _, _, rfl, .ty _, tyx hd, kit_ty (kS (.str x)), _, rfl, iteT ⟨_, rfl, _, rfl, rep_fit hz, _, rfl, rep_fit2 hz, _, _, rfl, rfl, z1, _, _, rfl, rfl, z2, q⟩⟩
/-! ### texts of facts -/
abbrev sTextOf : Stmt := top 28
abbrev sLFactText : Stmt := top 36
abbrev sLNumber : Stmt := top 37
def spText (K : PySem.W.Frag) : Sp := fun vs H Q _ => ∃ (v : V) (d : PyData), vs = [v] ∧ Dd K H v d ∧ okD d = true ∧ factD d = true ∧ ∀ H', Same H H' → Q (.str (ftext d)) H'
theorem spText_len {x : Str} : ∀ vs H Q E, spText K vs H Q E → vs.length = [x].length := fun vs H Q E h => by
  obtain ⟨v, d, rfl, _⟩ := h
  rfl
theorem dd_fact {H : Hp} {v : V} {n : Str} {ws : List PyData} (h : Dd K H v (.tuple [.str n, .tuple ws])) : ∃ p p2 xs, v = .ref p ∧ TupN H p [.str n, .ref p2] ∧ TupN H p2 xs ∧ DdAll K H xs ws := by
  obtain ⟨p, u1, u2, rfl, h0, g1, g2⟩ := dd_two h
  cases dd_str g1
  cases g2 with
  | tup h1 h2 => exact ⟨p, _, _, rfl, h0, h1, h2⟩
theorem scTextOf : FnScope ["fact", "name", "row", "inner", "worth"] ["fact"] (defScope sTextOf) := ⟨rfl, rfl, rfl, by decide +kernel, rfl, by decide +kernel, by decide +kernel⟩
theorem out_len {n : Str} {ws : List PyData} (h8 : n.length ≤ 8) (h5 : ws.length ≤ 5) (k : ∀ x ∈ ws, Leaf x) : (n ++ ("(" : Str)).length ≤ sizeLine ∧ ((n ++ ("(" : Str)) ++ joinT ws).length ≤ sizeLine ∧ (((n ++ ("(" : Str)) ++ joinT ws) ++ (")" : Str)).length ≤ sizeLine := by
  have h1 := joinT_len h5 k
  simp only [len_app, show (("(" : Str)).length = 1 from by decide, show ((")" : Str)).length = 1 from by decide, sizeLine_eq]
  omega
theorem ok_textOf {f : Addr} {fd : FuncData} (F : FnP K "text_of" sTextOf f fd) (M : Nm mg) (DW : Df P w K mg base "worth_text" 1 ["worth"] (spWorthText K)) : FnOk P w K mg base CX0 2 f fd ["fact"] (spText K) := by
  refine F.ok scTextOf spText_len (fun cdv A outer s H vs Q E hr h => ?_)
  obtain ⟨v, d, rfl, hd, ok, hf, q⟩ := h
  obtain ⟨n, ws, rfl, h8, _, h5, lf⟩ := fact_parts ok hf
  obtain ⟨p, p2, xs, rfl, h0, h1, h2⟩ := dd_fact hd
  refine ⟨_, PSs.nox (pss_cons (ps_asg (pv 0) (pg_tup rfl (pgs_cons (pg_name (i := 1) scTextOf.nd rfl (Or.inl rfl)) (pgs_cons (pg_name (i := 2) scTextOf.nd rfl (Or.inl rfl)) pgs_nil))))
      (pss_cons (ps_set (i := 3) scTextOf.nd rfl (Or.inl rfl) (pe_join pe_str (pe_lc (own := [("worth", 4)]) (g := gName 4) (tt := tYes) (by rfl) scTextOf.nd (pi_tup (pv 2)) (blkOk_by (N := ["fact", "name", "row", "inner", "worth"]) (sc := defScope sTextOf) (by decide +kernel)) (fun _ _ _ _ _ => pg_name (i := 4) scTextOf.nd rfl (Or.inl rfl)) (fun _ _ _ _ _ => pts_nil) (fun _ _ _ _ _ => (pe_df DW hr (by decide) (pa_cons (pv 4) pa_nil))))))
      (pss_one (ps_ret (pe_joined (PJ.cons (pe_fmt (pv 1)) (PJ.cons pe_str (PJ.cons (pe_fmt (pv 3)) (PJ.cons pe_str PJ.nil))))))))), ?_⟩
  refine ⟨_, rfl, p, _, rfl, h0.sq, rfl, _, _, rfl, _, _, rfl, rfl, ?_⟩
  refine ⟨⟨_, rfl⟩, ?_⟩
  refine map_tup (p := fun d => V.str (wtext d)) (j := 4) (fun Q' z => ⟨_, rfl, z⟩) (h1.sq (K := K)) h2 (by omega) (fun _ => rfl) (fun v d H' Q m s hd z => ⟨_, rfl, v, d, rfl, hd, lf d m, z H' (Same.refl _)⟩) fun D H' s hD => ?_
  refine ⟨_, D, ws.map wtext, rfl, rfl, .inl (SqL.of (by rw [hD, List.map_map]; rfl)), Nat.le_trans (join_len h5 lf) (by decide), ?_⟩
  obtain ⟨z1, z2, z3⟩ := out_len h8 h5 lf
  have hz := joinT_len h5 lf
  refine ⟨_, rfl, .inl ⟨n, rfl, by rw [sizeLine_eq]; omega, n, rfl, by rw [emp_app, sizeLine_eq]; omega, _, rfl, by rw [emp_app]; exact z1, _, rfl, .inl ⟨_, rfl, Nat.le_trans hz (by rw [sizeLine_eq]; decide), _, rfl, by rw [emp_app]; exact z2, _, rfl, by rw [emp_app]; exact z3, ?_⟩⟩⟩
  rw [emp_app]
  exact q H' s
theorem scLFactText : FnScope ["fact", "worth"] ["fact"] (defScope sLFactText) := ⟨rfl, rfl, rfl, by decide +kernel, rfl, by decide +kernel, by decide +kernel⟩
theorem ok_lfactText {f : Addr} {fd : FuncData} (F : FnP K "_law_fact_text" sLFactText f fd) (M : Nm mg) (DW : Df P w K mg base "_law_worth_text" 1 ["worth"] (spWorthText K)) : FnOk P w K mg base CX0 2 f fd ["fact"] (spText K) := by
  refine F.ok scLFactText spText_len (fun cdv A outer s H vs Q E hr h => ?_)
  obtain ⟨v, d, rfl, hd, ok, hf, q⟩ := h
  obtain ⟨n, ws, rfl, h8, _, h5, lf⟩ := fact_parts ok hf
  obtain ⟨p, p2, xs, rfl, h0, h1, h2⟩ := dd_fact hd
  refine ⟨_, PSs.nox (pss_one (ps_ret (pe_op op_add_str (pe_op op_add_str (pe_op op_add_str (pe_ix ix_tup (pv 0) pe_int (fun _ _ => rfl)) pe_str) (pe_join pe_str (pe_lc (own := [("worth", 1)]) (g := gName 1) (tt := tYes) (by rfl) scLFactText.nd (pi_tup (pe_ix ix_tup (pv 0) pe_int (fun _ _ => rfl))) (blkOk_by (N := ["fact", "worth"]) (sc := defScope sLFactText) (by decide +kernel)) (fun _ _ _ _ _ => pg_name (i := 1) scLFactText.nd rfl (Or.inl rfl)) (fun _ _ _ _ _ => pts_nil) (fun _ _ _ _ _ => (pe_df DW hr (by decide) (pa_cons (pv 1) pa_nil)))))) pe_str))), ?_⟩
  obtain ⟨z1, z2, z3⟩ := out_len h8 h5 lf
  rw [len_app] at z1 z2 z3
  refine ⟨_, rfl, p, _, _, _, rfl, rfl, h0.sq, atI_nat (j := 0) rfl, _, _, rfl, rfl, z1, ?_⟩
  refine ⟨⟨_, rfl⟩, ?_⟩
  refine map_tup (p := fun d => V.str (wtext d)) (j := 1) (tp := tOp (rIxT K) (tVar 0) (tC (.int 1))) (fun Q' z => ⟨_, rfl, p, _, _, .ref p2, rfl, rfl, h0.sq, atI_nat (j := 1) rfl, z⟩) (h1.sq (K := K)) h2 (by omega) (fun _ => rfl) (fun v d H' Q m s hd z => ⟨_, rfl, v, d, rfl, hd, lf d m, z H' (Same.refl _)⟩) fun D H' s hD => ?_
  exact ⟨_, D, ws.map wtext, rfl, rfl, .inl (SqL.of (by rw [hD, List.map_map]; rfl)), Nat.le_trans (join_len h5 lf) (by decide), _, _, rfl, rfl, z2, _, _, rfl, rfl, z3, q H' s⟩
/-- a number of a fact -/
def spNum (K : PySem.W.Frag) : Sp := fun vs H Q _ => ∃ (p : Int) (v : V) (d : PyData), vs = [.int p, v] ∧ 0 < p ∧ p ≤ 170141183460469231731687303715884105728 ∧ Dd K H v d ∧ okD d = true ∧ factD d = true ∧ ∀ H', Same H H' → Q (.int (mixF p (ftext d))) H'
theorem scLNumber : FnScope ["p", "fact"] ["p", "fact"] (defScope sLNumber) := ⟨rfl, rfl, rfl, by decide +kernel, rfl, by decide +kernel, by decide +kernel⟩
theorem ok_lnumber {f : Addr} {fd : FuncData} (F : FnP K "_law_number" sLNumber f fd) (DM : Df P w K mg base "_law_mix" 1 ["p", "text"] spMix) (DT : Df P w K mg base "_law_fact_text" 2 ["fact"] (spText K)) : FnOk P w K mg base CX0 3 f fd ["p", "fact"] (spNum K) := by
  refine F.ok scLNumber (fun vs H Q E h => ?_) (fun cdv A outer s H vs Q E hr h => ?_)
  · obtain ⟨p, v, d, rfl, _⟩ := h
    rfl
  obtain ⟨p, v, d, rfl, p0, p1, hd, ok, hf, q⟩ := h
  refine ⟨_, PSs.nox (pss_one (ps_ret (pe_df DM hr (by decide) (pa_cons (pv 0) (pa_cons (pe_df DT hr (by decide) (pa_cons (pv 1) pa_nil)) pa_nil))))), ?_⟩
  exact ⟨_, rfl, _, rfl, v, d, rfl, hd, ok, hf, fun H1 s1 => ⟨p, ftext d, rfl, p0, p1, ftext_sml ok hf, q H1 s1⟩⟩
end
end Sm
/-! raise C(), C an own class whose __init__ (its own or an elder's) stores nothing. -/
namespace Nz
open PySem PySem.Spec PyProof.Rows L2
variable {X : Cx}
theorem mk_endN {pins : List (Addr × Obj)} {σ : L2.St} {H1 H2 : Hp} {hp hp2 h2 : Heap} {g1 g2 : Array GenState} {d1 d2 : Drawn} {t1 t2 : Nat} {os1 os2 : OsState} {a C : Addr} (I1 : Inv X pins σ H1 ⟨hp, g1, d1, t1, os1⟩)
    (ha : hp.objs.size ≤ a) (k : ∀ b o, hp.get? b = some o → hp2.get? b = some o) (un : Un (frs X.stack) [] (upd H1 a (exo a C none)) H2 hp2 h2) (hok : HOk X.prog X.w H2 h2) (ho : os2 = os1) (hb : AllBare g2)
    (ea : H2 a = some (exo a C none)) :
    ∃ (t0 : Addr) (G : Heap), Inv X pins σ (del H2 a) ⟨G, g2, d2, t2, os2⟩ ∧ (∀ b o, G.get? b = some o → h2.get? b = some o) ∧ G.get? a = none ∧
      h2.get? a = some ({ cls := .ref C, dict := none, data := .fields #[.ref t0, .none, .none, .none, .bool false, .none] } : Obj) := by
  obtain ⟨t0, hoe⟩ := exo_at hok ea
  have hn : H1 a = none := I1.hok.fresh ha
  obtain ⟨G, g1', g2'⟩ := restrict h2 fun b => decide (b ≠ a)
  have gk : ∀ b, b ≠ a → G.get? b = h2.get? b := fun b hb => g1' b (decide_eq_true hb)
  have ge : G.get? a = none := g2' a (by simp)
  have nha : ∀ {b : Addr} {o : Obj}, hp.get? b = some o → b ≠ a := fun {b o} z => Nat.ne_of_lt (Nat.lt_of_lt_of_le (Heap.lt_size z) ha)
  have up : ∀ {b : Addr}, b ≠ a → H1 b = none → upd H1 a (exo a C none) b = none := fun {b} hb n => by rw [upd_ne hb]; exact n
  have U : Un (frs X.stack) [] H1 (del H2 a) hp G := {
    keep := fun b o z n hf hx => by
      rw [gk b (nha z)]
      exact un.keep b o (k b o z) (up (nha z) n) hf hx
    slot := fun b o z n hf hx => by
      rw [gk b (nha z)]
      exact un.slot b o (k b o z) (up (nha z) n) hf hx
    free := fun b o z n hx => by
      rw [del_ne (nha z)]
      exact un.free b o (k b o z) (up (nha z) n) hx
    there := fun b o z hx => by
      rw [gk b (nha z)]
      exact un.there b o (k b o z) hx
    tups := fun b xs z => by
      rw [del_ne (ne_of_none z hn)]
      exact un.tups b xs (by rw [upd_ne (ne_of_none z hn)]; exact z)
    frzs := fun b o v z => by
      rw [del_ne (ne_of_none z hn)]
      exact un.frzs b o v (by rw [upd_ne (ne_of_none z hn)]; exact z)
    tbls := fun b ps z => by
      rw [del_ne (ne_of_none z hn)]
      exact un.tbls b ps (by rw [upd_ne (ne_of_none z hn)]; exact z) }
  have hok3 : HOk X.prog X.w (del H2 a) G := fun b o z => by
    have hba : b ≠ a := fun e => by
      rw [e, del_same] at z
      cases z
    rw [del_ne hba] at z
    have noa : ∀ {c : Addr}, H2 c = some (.own b) → c ≠ a := fun {c} hc => at_ne ea hc exo_own
    exact (hok b o z).stay (fun c v hc y => by
        have hca : c ≠ a := by
          rcases hc with hc | hc
          · rw [hc]
            exact hba
          · exact noa hc
        rw [gk c hca]
        exact y)
      (fun c hc => by rw [del_ne (noa hc)]; exact hc) (fun c xs hc => by rw [del_ne (at_ne ea hc exo_tup)]; exact hc)
  have J : Inv X pins σ (del H2 a) ⟨G, g2, d2, t2, os2⟩ := I1.call' (ch := []) ho U hok3 hb (fun b z => absurd z (by simp))
  refine ⟨t0, G, J, fun b o z => ?_, ge, hoe⟩
  by_cases hba : b = a
  · rw [hba, ge] at z
    cases z
  · exact (gk b hba).symm.trans z
theorem del_upd {H : Hp} {a : Addr} {o : HO} (h : H a = none) : del (upd H a o) a = H := funext fun b => by
  by_cases e : b = a
  · rw [e, del_same, h]
  · rw [del_ne e, upd_ne e]
def tRz (C : Addr) (sp : Sp) : L2.St → Hp → XK → Prop := fun _ H Q => ∀ a, H a = none → sp [.ref a] (upd H a (exo a C none)) (fun v H2 => v = .non ∧ H2 a = some (exo a C none) ∧ Q (.ref C) none (del H2 a)) E0
theorem pmk_oex0 {x : Str} {C fI : Addr} {k : Nat} {fd : FuncData} {ps : List Str} {sp : Sp} {p pos : Pos} (T : OexC X.K C) (iC : PySem.W.findIn X.K (.ref C) "__init__" = some (some (.ref fI))) (tI : PySem.W.typeIn X.K (.ref fI) = some (.type "function"))
    (F1 : FnOk X.prog X.w X.K X.mg X.base CX0 k fI fd ps sp) (hr : Room (k + 1) X.A) (hb : Binds X.K fd ps []) (hm : X.mg x = some (.ref C)) (hg : Gl X x := by rfl) (hdb : (x == ("__debug__" : Str)) = false := by decide) :
    PMk X (.Call (.Name x p) [] [] pos) (tRz C sp) := by
  intro pins s σ H Q I h
  obtain ⟨nm, q, N, bs, bm, sn, sub, ab, col, dd, k0, k1, k2, k3, k5, hC, hbm⟩ := T.cls
  refine wpAny_Call_Name_kw (ld_glob I hg hm ?_ hdb)
  refine PySem.W.callWith_K0 I.kIn T.kC ?_
  obtain ⟨hp, g, dr, tk, os⟩ := s
  have hsz : hp.objs.size ≤ hp.objs.size + 1 := Nat.le_succ _
  have hn : H (hp.objs.size + 1) = none := I.hok.fresh hsz
  have hq := h (hp.objs.size + 1) hn
  have kk : ∀ b o, hp.get? b = some o → ((hp.push (PySem.W.kdv_tup [])).push (PySem.HandSPX.excO C hp.objs.size)).get? b = some o := fun b o e => Heap.get?_push_of_some _ (Heap.get?_push_of_some _ e)
  have hget : ((hp.push (PySem.W.kdv_tup [])).push (PySem.HandSPX.excO C hp.objs.size)).get? (hp.objs.size + 1) = some (PySem.HandSPX.excO C hp.objs.size) := by heap_get
  have I2 : Inv X pins σ (upd H (hp.objs.size + 1) (exo (hp.objs.size + 1) C none)) ⟨(hp.push (PySem.W.kdv_tup [])).push (PySem.HandSPX.excO C hp.objs.size), g, dr, tk, os⟩ :=
    I.laid (t' := tk) (a := hp.objs.size + 1) (o := exo (hp.objs.size + 1) C none) (h' := (hp.push (PySem.W.kdv_tup [])).push (PySem.HandSPX.excO C hp.objs.size)) kk hsz (exo_ok hget)
  have r2 : Vals [V.ref (hp.objs.size + 1)] [Value.ref (hp.objs.size + 1)] := .cons rfl .nil
  have hl : ([Value.ref (hp.objs.size + 1)] ++ ([] : List Value)).length = ps.length := by
    have e := r2.length
    rw [F1.len _ _ _ _ hq] at e
    exact e.symm
  refine wpAny_call (PySem.HandSPX.call_own F.excBase_ValueError (fun Y => PySem.HandSPX.refsVE_contains Y bm hbm) (I.kIn _ _ hC) (PySem.W.looks_findIn I.kIn iC) (fun self => PySem.W.bind_fn I.kIn self tI) (Nat.zero_le _)
    (codeAny_mono (F1.run _ X.stack _ _ ⟨[Value.ref (hp.objs.size + 1)], []⟩ [Value.ref (hp.objs.size + 1)] _ _ (fun _ _ _ => False) (hr.make C [] []) (I2.env0.make C [] []) (hb _ [Value.ref (hp.objs.size + 1)] I2.kIn hl) r2 hq) fun r s' hq' => ?_))
  cases r with
  | error er => exact pass0 pins σ _ _ er s' I2 hq'
  | ok fl =>
    cases fl with
    | ret u =>
      obtain ⟨v, H2, os2, bare2, un2, hok2, rv, ev, ea, q2⟩ := hq'
      subst ev
      obtain ⟨h2, g2, d2, t2, os'⟩ := s'
      refine ⟨rv, ?_⟩
      obtain ⟨t0, G, J, kG, ge, hoe⟩ := mk_endN (d2 := d2) (t2 := t2) I hsz kk un2 hok2 os2 bare2 ea
      exact ⟨_, _, _, ⟨G, g2, d2, t2, os'⟩, _, .ref C, none, rfl, J, kG, ge, hoe, ⟨rfl, rfl⟩, rfl, rfl, del_same, rfl, bare2, raises_own T.exC T.tyC, q2⟩
    | next => exact False.elim hq'
    | brk => exact False.elim hq'
    | cont => exact False.elim hq'
end Nz
namespace Sm
open PySem PySem.Spec PyProof.Rows L2 Vd Xv
section
variable {P : Program} {w : World} {K : PySem.W.Frag} {mg : Str → Option Value} {base : Heap}
/-- a def of the text that may raise, wherever it stands -/
def DfX (P : Program) (w : World) (K : PySem.W.Frag) (mg : Str → Option Value) (base : Heap) (x : Str) (k : Nat) (ps : List Str) (sp : Sp) : Prop :=
  ∃ (f : Addr) (fd : FuncData), mg x = some (.ref f) ∧ PySem.W.keepIn K (.ref f) = true ∧ Binds K fd ps [] ∧ FnOk P w K mg base (L2.CX P w) k f fd ps sp
theorem pe_dfX {X : Cx} {x : Str} {k j : Nat} {ps : List Str} {sp : Sp} {W : WX} {e : Expr} {es : List Expr} {ta : TA} {p pos : Pos} (D : DfX X.prog X.w X.K X.mg X.base x k ps sp) (tk : Takes X W) (hr : Room j X.A) (hj : k ≤ j) (ha : PA X (e :: es) ta) (hg : Gl X x := by rfl)
    (hdb : (x == ("__debug__" : Str)) = false := by decide) (he : starEach (e :: es) X.env = (false, eval e X.env) :: starEach es X.env := by rfl) (hpl : (backTo pos (starEach es X.env)).any (·.1) = false := by rfl) :
    PE X (.Call (.Name x p) (e :: es) [] pos) (tCallS sp (WE W) ta) := by
  obtain ⟨f, fd, hm, hk, hb, F⟩ := D
  exact pe_callS F (hr.mono hj) hg hm hk hb (fun σ => passAt tk σ) ha hdb he hpl
/-- an error class without an __init__ of its own -/
structure CM (K : PySem.W.Frag) (mg : Str → Option Value) (x : Str) (C fI : Addr) : Prop where
  oex : OexC K C
  init : PySem.W.findIn K (.ref C) "__init__" = some (some (.ref fI))
  tI : PySem.W.typeIn K (.ref fI) = some (.type "function")
  glo : mg x = some (.ref C)
def sp0 : Sp := fun vs H Q _ => ∃ a : Addr, vs = [.ref a] ∧ Q .non H
def DI0 (P : Program) (w : World) (K : PySem.W.Frag) (mg : Str → Option Value) (base : Heap) (fI : Addr) : Prop := ∃ fd, FnOk P w K mg base CX0 1 fI fd ["self"] sp0 ∧ Binds K fd ["self"] []
theorem pmk_no {X : Cx} {x : Str} {C fI : Addr} {p pos : Pos} (c : CM X.K X.mg x C fI) (D : DI0 X.prog X.w X.K X.mg X.base fI) (hr : Room 2 X.A) (hg : Gl X x := by rfl) (hdb : (x == ("__debug__" : Str)) = false := by decide) : PMk X (.Call (.Name x p) [] [] pos) (Nz.tRz C sp0) := by
  obtain ⟨fd, F, hb⟩ := D
  exact Nz.pmk_oex0 c.oex c.init c.tI F hr hb c.glo hg hdb
theorem rz_ok {σ : L2.St} {C : Addr} {H : Hp} {Q : XK} (q : Q (.ref C) none H) : Nz.tRz C sp0 σ H Q := fun a ha => ⟨a, rfl, rfl, upd_same, by rw [Nz.del_upd ha]; exact q⟩
/-- a look that raises the class at C -/
def spCk (K : PySem.W.Frag) (C : Addr) (g : PyData → Bool) : Sp := fun vs H Q E => ∃ (v : V) (d : PyData), vs = [v] ∧ Dd K H v d ∧ okD d = true ∧ (g d = false → ∀ H', Same H H' → E (.ref C) none H') ∧ (g d = true → ∀ H', Same H H' → Q .non H')
theorem spCk_len {C : Addr} {g : PyData → Bool} {x : Str} : ∀ vs H Q E, spCk K C g vs H Q E → vs.length = [x].length := fun vs H Q E h => by
  obtain ⟨v, d, rfl, _⟩ := h
  rfl
abbrev sCkPrime : Stmt := top 21
abbrev sMix : Stmt := top 23
abbrev sCkFact : Stmt := top 26
abbrev sFactText : Stmt := top 27
abbrev sNumberOf : Stmt := top 29
theorem scCkPrime : FnScope ["thing"] ["thing"] (defScope sCkPrime) := ⟨rfl, rfl, rfl, by decide +kernel, rfl, by decide +kernel, by decide +kernel⟩
theorem ok_ckPrime {f C fI : Addr} {fd : FuncData} (F : FnP K "check_prime" sCkPrime f fd) (c : CM K mg "NoPrime" C fI) (DI : DI0 P w K mg base fI) (DP : DA P w K mg base "is_prime" 2 primeD) : FnOk P w K mg base (L2.CX P w) 3 f fd ["thing"] (spCk K C primeD) := by
  refine F.ok (CX := L2.CX P w) scCkPrime spCk_len (fun cdv A outer s H vs Q E hr h => ?_)
  obtain ⟨v, d, rfl, hd, ok, no, yes⟩ := h
  have hr2 := hr.mono (j := 2) (by decide)
  refine ⟨_, (pss_one (ps_if (pt_not (pt_val (pe_df DP hr (by decide) (pa_cons (pv 0) pa_nil)))) (pss_one (ps_raise rfl (takes_of rfl rfl rfl rfl) (pmk_no c DI hr2))) pss_nil)), ?_⟩
  refine ⟨_, rfl, v, d, rfl, hd, ok, fun H1 s1 => ⟨_, rfl, tst (fun e => ?_) fun e => ?_⟩⟩
  · exact rz_ok (no (by simpa using e) H1 s1)
  · exact yes (by simpa using e) H1 s1
theorem scCkFact : FnScope ["thing"] ["thing"] (defScope sCkFact) := ⟨rfl, rfl, rfl, by decide +kernel, rfl, by decide +kernel, by decide +kernel⟩
theorem ok_ckFact {f C fI : Addr} {fd : FuncData} (F : FnP K "check_fact" sCkFact f fd) (c : CM K mg "NoFact" C fI) (DI : DI0 P w K mg base fI) (DP : DA P w K mg base "is_fact" 4 factD) : FnOk P w K mg base (L2.CX P w) 5 f fd ["thing"] (spCk K C factD) := by
  refine F.ok (CX := L2.CX P w) scCkFact spCk_len (fun cdv A outer s H vs Q E hr h => ?_)
  obtain ⟨v, d, rfl, hd, ok, no, yes⟩ := h
  have hr2 := hr.mono (j := 2) (by decide)
  refine ⟨_, (pss_one (ps_if (pt_not (pt_val (pe_df DP hr (by decide) (pa_cons (pv 0) pa_nil)))) (pss_one (ps_raise rfl (takes_of rfl rfl rfl rfl) (pmk_no c DI hr2))) pss_nil)), ?_⟩
  refine ⟨_, rfl, v, d, rfl, hd, ok, fun H1 s1 => ⟨_, rfl, tst (fun e => ?_) fun e => ?_⟩⟩
  · exact rz_ok (no (by simpa using e) H1 s1)
  · exact yes (by simpa using e) H1 s1
theorem prime_of {d : PyData} (h : primeD d = true) : ∃ p, d = .int p ∧ 0 < p ∧ p ≤ 170141183460469231731687303715884105728 := by
  cases d with
  | int p =>
    obtain ⟨h1, h2⟩ := Bool.and_eq_true_iff.mp (show (decide (1000 ≤ p) && decide (p ≤ 170141183460469231731687303715884105728)) = true from h)
    have h3 := of_decide_eq_true h1
    have h4 := of_decide_eq_true h2
    exact ⟨p, rfl, by omega, h4⟩
  | _ => cases h
theorem text_of' {d : PyData} (h : textD d = true) : ∃ x, d = .str x ∧ Sml x := by
  cases d with
  | str x => exact ⟨x, rfl, sml_text h⟩
  | _ => cases h
/-- mix: first NoPrime, then NoText -/
def spMixX (K : PySem.W.Frag) (CP CT : Addr) : Sp := fun vs H Q E => ∃ (v1 v2 : V) (d1 d2 : PyData), vs = [v1, v2] ∧ Dd K H v1 d1 ∧ Dd K H v2 d2 ∧ okD d1 = true ∧ okD d2 = true ∧ (primeD d1 = false → ∀ H', Same H H' → E (.ref CP) none H') ∧
  (primeD d1 = true → textD d2 = false → ∀ H', Same H H' → E (.ref CT) none H') ∧ ∀ p x, d1 = .int p → d2 = .str x → primeD d1 = true → textD d2 = true → ∀ H', Same H H' → Q (.int (mixF p x)) H'
theorem scMix : FnScope ["p", "text"] ["p", "text"] (defScope sMix) := ⟨rfl, rfl, rfl, by decide +kernel, rfl, by decide +kernel, by decide +kernel⟩
theorem ok_mix {f CP CT fI : Addr} {fd : FuncData} (F : FnP K "mix" sMix f fd) (c : CM K mg "NoText" CT fI) (DI : DI0 P w K mg base fI) (DC : DfX P w K mg base "check_prime" 3 ["thing"] (spCk K CP primeD)) (DX : DA P w K mg base "is_text" 1 textD) (DM : Df P w K mg base "mixed" 1 ["p", "text"] spMix) : FnOk P w K mg base (L2.CX P w) 4 f fd ["p", "text"] (spMixX K CP CT) := by
  refine F.ok (CX := L2.CX P w) scMix (fun vs H Q E h => ?_) (fun cdv A outer s H vs Q E hr h => ?_)
  · obtain ⟨v1, v2, d1, d2, rfl, _⟩ := h
    rfl
  obtain ⟨v1, v2, d1, d2, rfl, h1, h2, o1, o2, no1, no2, yes⟩ := h
  have hr2 := hr.mono (j := 2) (by decide)
  refine ⟨_, (pss_cons (ps_expr (pe_dfX DC (takes_of rfl rfl rfl rfl) hr (by decide) (pa_cons (pv 0) pa_nil)))
      (pss_cons (ps_if (pt_not (pt_val (pe_df DX hr (by decide) (pa_cons (pv 1) pa_nil)))) (pss_one (ps_raise rfl (takes_of rfl rfl rfl rfl) (pmk_no c DI hr2))) pss_nil)
      (pss_one (ps_ret (pe_df DM hr (by decide) (pa_cons (pv 0) (pa_cons (pv 1) pa_nil))))))), ?_⟩
  refine ⟨_, rfl, v1, d1, rfl, h1, o1, no1, fun e1 H1 s1 => ?_⟩
  refine ⟨_, rfl, v2, d2, rfl, h2.same s1, o2, fun H2 s2 => ⟨_, rfl, tst (fun e => ?_) fun e => ?_⟩⟩
  · exact rz_ok (no2 e1 (by simpa using e) H2 (s1.trans s2))
  · have e2 : textD d2 = true := by simpa using e
    obtain ⟨p, rfl, p0, p1⟩ := prime_of e1
    obtain ⟨x, rfl, sx⟩ := text_of' e2
    cases dd_int h1
    cases dd_str h2
    exact ⟨_, rfl, _, rfl, p, x, rfl, p0, p1, sx, yes p x rfl rfl e1 e2 H2 (s1.trans s2)⟩
/-- fact_text -/
def spFT (K : PySem.W.Frag) (CF : Addr) : Sp := fun vs H Q E => ∃ (v : V) (d : PyData), vs = [v] ∧ Dd K H v d ∧ okD d = true ∧ (factD d = false → ∀ H', Same H H' → E (.ref CF) none H') ∧ (factD d = true → ∀ H', Same H H' → Q (.str (ftext d)) H')
theorem scFactText : FnScope ["fact"] ["fact"] (defScope sFactText) := ⟨rfl, rfl, rfl, by decide +kernel, rfl, by decide +kernel, by decide +kernel⟩
theorem ok_factText {f CF : Addr} {fd : FuncData} (F : FnP K "fact_text" sFactText f fd) (DC : DfX P w K mg base "check_fact" 5 ["thing"] (spCk K CF factD)) (DT : Df P w K mg base "text_of" 2 ["fact"] (spText K)) : FnOk P w K mg base (L2.CX P w) 6 f fd ["fact"] (spFT K CF) := by
  refine F.ok (CX := L2.CX P w) scFactText (fun vs H Q E h => ?_) (fun cdv A outer s H vs Q E hr h => ?_)
  · obtain ⟨v1, d1, rfl, _⟩ := h
    rfl
  obtain ⟨v, d, rfl, hd, ok, no, yes⟩ := h
  refine ⟨_, (pss_cons (ps_expr (pe_dfX DC (takes_of rfl rfl rfl rfl) hr (by decide) (pa_cons (pv 0) pa_nil)))
      (pss_one (ps_ret (pe_df DT hr (by decide) (pa_cons (pv 0) pa_nil))))), ?_⟩
  exact ⟨_, rfl, v, d, rfl, hd, ok, no, fun e1 H1 s1 => ⟨_, rfl, v, d, rfl, hd.same s1, ok, e1, fun H2 s2 => yes e1 H2 (s1.trans s2)⟩⟩
/-- number_of: first NoPrime, then NoFact -/
def spNumX (K : PySem.W.Frag) (CP CF : Addr) : Sp := fun vs H Q E => ∃ (v1 v2 : V) (d1 d2 : PyData), vs = [v1, v2] ∧ Dd K H v1 d1 ∧ Dd K H v2 d2 ∧ okD d1 = true ∧ okD d2 = true ∧ (primeD d1 = false → ∀ H', Same H H' → E (.ref CP) none H') ∧
  (primeD d1 = true → factD d2 = false → ∀ H', Same H H' → E (.ref CF) none H') ∧ ∀ p, d1 = .int p → primeD d1 = true → factD d2 = true → ∀ H', Same H H' → Q (.int (mixF p (ftext d2))) H'
theorem scNumberOf : FnScope ["p", "fact"] ["p", "fact"] (defScope sNumberOf) := ⟨rfl, rfl, rfl, by decide +kernel, rfl, by decide +kernel, by decide +kernel⟩
theorem ok_numberOf {f CP CF : Addr} {fd : FuncData} (F : FnP K "number_of" sNumberOf f fd) (DC : DfX P w K mg base "check_prime" 3 ["thing"] (spCk K CP primeD)) (DF : DfX P w K mg base "check_fact" 5 ["thing"] (spCk K CF factD)) (DT : Df P w K mg base "text_of" 2 ["fact"] (spText K)) (DM : Df P w K mg base "mixed" 1 ["p", "text"] spMix) : FnOk P w K mg base (L2.CX P w) 6 f fd ["p", "fact"] (spNumX K CP CF) := by
  refine F.ok (CX := L2.CX P w) scNumberOf (fun vs H Q E h => ?_) (fun cdv A outer s H vs Q E hr h => ?_)
  · obtain ⟨v1, v2, d1, d2, rfl, _⟩ := h
    rfl
  obtain ⟨v1, v2, d1, d2, rfl, h1, h2, o1, o2, no1, no2, yes⟩ := h
  refine ⟨_, (pss_cons (ps_expr (pe_dfX DC (takes_of rfl rfl rfl rfl) hr (by decide) (pa_cons (pv 0) pa_nil)))
      (pss_cons (ps_expr (pe_dfX DF (takes_of rfl rfl rfl rfl) hr (by decide) (pa_cons (pv 1) pa_nil)))
      (pss_one (ps_ret (pe_df DM hr (by decide) (pa_cons (pv 0) (pa_cons (pe_df DT hr (by decide) (pa_cons (pv 1) pa_nil)) pa_nil))))))), ?_⟩
  refine ⟨_, rfl, v1, d1, rfl, h1, o1, no1, fun e1 H1 s1 => ⟨_, rfl, v2, d2, rfl, h2.same s1, o2, fun e2 H2 s2 => no2 e1 e2 H2 (s1.trans s2), fun e2 H2 s2 => ?_⟩⟩
  have s12 := s1.trans s2
  obtain ⟨p, rfl, p0, p1⟩ := prime_of e1
  cases dd_int h1
  exact ⟨_, rfl, _, rfl, v2, d2, rfl, h2.same s12, o2, e2, fun H3 s3 => ⟨p, ftext d2, rfl, p0, p1, ftext_sml o2 e2, yes p rfl e1 e2 H3 (s12.trans s3)⟩⟩
end
end Sm
namespace Sm
open PySem PySem.Spec PyProof.Rows L2 Vd
/-! ### what the hand keeps -/
def Live (a : Addr) (H : Hp) : Prop := ∃ xs, H a = some (.lst xs)
theorem Live.same {a : Addr} {H H' : Hp} (h : Live a H) (s : Same H H') : Live a H' := h.imp fun _ z => s _ _ z
theorem Live.ne {a p : Addr} {H : Hp} (h : Live a H) (n : H p = none) : p ≠ a := fun e => by
  obtain ⟨o, h⟩ := h
  rw [e, h] at n
  cases n
theorem HandC.live {H : Hp} {a c : Addr} (h : HandC H a c) : Live a H := by
  obtain ⟨cs, i, b, sd, n, z⟩ := h
  exact ⟨_, z.at_⟩
theorem keep_same {a : Addr} {H H' : Hp} (s : Same H H') : Keep a H H' := fun b o _ h => s b o h
theorem HandC.same {H H' : Hp} {a c : Addr} (h : HandC H a c) (k : Same H H') : HandC H' a c := by
  obtain ⟨cs, i, b, sd, n, x⟩ := h
  exact ⟨cs, i, b, sd, n, k _ _ x.at_, k _ _ x.cells, x.len, x.pos, x.i0, x.b0, x.s0, x.n0⟩
theorem HandC.set {H : Hp} {a c D : Addr} {o : HO} (h : HandC H a c) (n1 : D ≠ a) (n2 : D ≠ c) : HandC (upd H D o) a c := by
  obtain ⟨cs, i, b, sd, n, x⟩ := h
  exact ⟨cs, i, b, sd, n, by rw [upd_ne n1.symm]; exact x.at_, by rw [upd_ne n2.symm]; exact x.cells, x.len, x.pos, x.i0, x.b0, x.s0, x.n0⟩
theorem HandC.cne {H : Hp} {a c D : Addr} (h : HandC H a c) (n : H D = none) : D ≠ c := fun e => by
  obtain ⟨cs, i, b, sd, k, x⟩ := h
  have := x.cells
  rw [← e, n] at this
  cases this
section
variable {K : PySem.W.Frag} {a c : Addr} {H0 : Hp} {σ : L2.St}
theorem _root_.Vd.Dv.ky {H H' : Hp} {v : V} {d : PyData} (h : Dv a K H v d) (k : Keep a H H') : Dv a K H' v d := h.kp (kp_keep k)
theorem _root_.Vd.DvAll.ky {H H' : Hp} {v : List V} {d : List PyData} (h : DvAll a K H v d) (k : Keep a H H') : DvAll a K H' v d := DdAll.same (kp_keep k) h
theorem tris_new {p : Addr} {H : Hp} {xs : List V} {ds : List PyData} (hl : Live a H) (n : H p = none) (x : DvAll a K H xs ds) : Dv a K (upd H p (.tup xs)) (.ref p) (.tuple ds) :=
  Dv.tup (.inl upd_same) (hl.ne n) (x.kp (kp_up n))
/-! ### readings of whole numbers alone -/
def YI (σ : L2.St) (t : TE) (i : Int) : Prop := ∀ (H : Hp) (Q : VK), Q (.int i) H → t σ H Q
theorem tC_pass {v : V} {H : Hp} {Q : VK} (h : Q v H) : tC v σ H Q := h
theorem yi_c {i : Int} : YI σ (tC (.int i)) i := fun _ _ q => q
theorem yi_var {k : Nat} {i : Int} (h : σ[k]? = some (some (.int i))) : YI σ (tVar k) i := fun _ _ q => ⟨_, h, q⟩
theorem yi_neg {t : TE} {i : Int} (h : YI σ t i) : YI σ (tUn (rU fun i => .int (-i)) t) (-i) := fun H Q q => h H _ ⟨_, rfl, q⟩
theorem yi_add {t u : TE} {i j : Int} (h : YI σ t i) (h' : YI σ u j) : YI σ (tOp (rI0 fun i j => .int (i + j)) t u) (i + j) := fun H Q q => h H _ (h' H _ ⟨_, _, rfl, rfl, q⟩)
theorem yi_sub {t u : TE} {i j : Int} (h : YI σ t i) (h' : YI σ u j) : YI σ (tOp (rI0 fun i j => .int (i - j)) t u) (i - j) := fun H Q q => h H _ (h' H _ ⟨_, _, rfl, rfl, q⟩)
theorem yi_pow {t u : TE} {i j : Int} (h : YI σ t i) (h' : YI σ u j) (hc : CPow i j := by exact ⟨by decide, by decide, by decide⟩) : YI σ (tOp (rI CPow fun i j => .int (i ^ j.toNat)) t u) (i ^ j.toNat) := fun H Q q => h H _ (h' H _ ⟨_, _, rfl, rfl, hc, q⟩)
theorem yi_shl {t u : TE} {i j : Int} (h : YI σ t i) (h' : YI σ u j) (hc : CPow i j := by exact ⟨by decide, by decide, by decide⟩) : YI σ (tOp (rI CPow fun i j => .int (i * 2 ^ j.toNat)) t u) (i * 2 ^ j.toNat) := fun H Q q => h H _ (h' H _ ⟨_, _, rfl, rfl, hc, q⟩)
/-! ### readings that give some data of which R holds -/
def YE (a c : Addr) (K : PySem.W.Frag) (H0 : Hp) (σ : L2.St) (t : TE) (R : PyData → Prop) : Prop := ∀ (H : Hp) (Q : VK), HandC H a c → Keep a H0 H → (∀ v d H', R d → HandC H' a c → Keep a H H' → Dv a K H' v d → Q v H') → t σ H Q
def YA (a c : Addr) (K : PySem.W.Frag) (H0 : Hp) (σ : L2.St) (t : TA) (n : Nat) (R : PyData → Prop) : Prop := ∀ (H : Hp) (Q : List V → Hp → Prop), HandC H a c → Keep a H0 H → (∀ vs ds H', vs.length = n → (∀ d ∈ ds, R d) → HandC H' a c → Keep a H H' → DvAll a K H' vs ds → Q vs H') → t σ H Q
/-- a draw below m -/
def YD (a c : Addr) (H0 : Hp) (σ : L2.St) (t : TE) (m : Int) : Prop := ∀ (H : Hp) (Q : VK), HandC H a c → Keep a H0 H → (∀ (d : Int) H', 0 ≤ d → d < m → HandC H' a c → Keep a H H' → Q (.int d) H') → t σ H Q
variable {R : PyData → Prop}
theorem ye_int {t : TE} {i : Int} (h : YI σ t i) (r : R (.int i)) : YE a c K H0 σ t R := fun H Q hh k q => h H Q (q _ _ H r hh .refl (.int i))
theorem ye_bl {i : Bool} (r : R (.bool i)) : YE a c K H0 σ (tC (.bl i)) R := fun H Q hh k q => q _ _ H r hh .refl (.bl i)
theorem ye_str {i : Str} (r : R (.str i)) : YE a c K H0 σ (tC (.str i)) R := fun H Q hh k q => q _ _ H r hh .refl (.str i)
theorem ye_non (r : R .none) : YE a c K H0 σ (tC .non) R := fun H Q hh k q => q _ _ H r hh .refl .non
theorem ye_var {i : Nat} {v : V} {d : PyData} (h : σ[i]? = some (some v)) (hd : Dv a K H0 v d) (r : R d) : YE a c K H0 σ (tVar i) R := fun H Q hh k q => ⟨v, h, q v d H r hh .refl (hd.ky k)⟩
theorem ya_nil : YA a c K H0 σ tNil 0 R := fun H Q hh k q => q [] [] H rfl (fun _ z => nomatch z) hh .refl .nil
theorem ya_cons {t : TE} {ta : TA} {n : Nat} (h : YE a c K H0 σ t R) (ha : YA a c K H0 σ ta n R) : YA a c K H0 σ (tCons t ta) (n + 1) R := fun H Q hh k q =>
  h H _ hh k fun v d H1 z hh1 k1 hd => ha H1 _ hh1 (k.trans k1) fun vs ds H2 len zs hh2 k2 hds => q (v :: vs) (d :: ds) H2 (by rw [List.length_cons, len]) (fun x hx => by
    rcases List.mem_cons.mp hx with rfl | hx
    · exact z
    · exact zs x hx) hh2 (k1.trans k2) (.cons (hd.ky k2) hds)
abbrev Ok (d : PyData) : Prop := okD d = true
theorem ok_all : ∀ {ds : List PyData}, (∀ d ∈ ds, Ok d) → okAll ds = true
  | [], _ => by
    unfold okAll
    rfl
  | d :: r, h => by
    unfold okAll
    rw [h d List.mem_cons_self, ok_all fun x hx => h x (List.mem_cons_of_mem _ hx)]
    rfl
theorem ok_tuple {ds : List PyData} (n : ds.length ≤ 4000) (h : okAll ds = true) : Ok (.tuple ds) := by
  show okD _ = true
  unfold okD
  rw [decide_eq_true n, h]
  rfl
theorem ok_list {ds : List PyData} (n : ds.length ≤ 4000) (h : okAll ds = true) : Ok (.list ds) := by
  show okD _ = true
  unfold okD
  rw [decide_eq_true n, h]
  rfl
theorem ok_strI {x : Str} (n : x.length ≤ 4000) : Ok (.str x) := by
  show okD _ = true
  unfold okD
  exact decide_eq_true n
theorem ok_intI {x : Int} (n : x.natAbs < 2 ^ 200) : Ok (.int x) := by
  show okD _ = true
  unfold okD
  exact decide_eq_true n
theorem ye_tup {ta : TA} {n : Nat} (ha : YA a c K H0 σ ta n Ok) (hn : n ≤ 4000 := by decide) : YE a c K H0 σ (tTup ta) Ok := fun H Q hh k q =>
  ha H _ hh k fun vs ds H1 len zs hh1 k1 hds => ⟨by rw [len, sizeLine_eq]; omega, fun p hp => q _ (.tuple ds) _ (ok_tuple (by rw [← dall_len hds, len]; exact hn) (ok_all zs)) (hh1.same (same_up hp)) (k1.trans (keep_same (same_up hp))) (tris_new hh1.live hp hds)⟩
theorem ye_lst {ta : TA} {n : Nat} (ha : YA a c K H0 σ ta n Ok) (hn : n ≤ 4000 := by decide) : YE a c K H0 σ (tLst ta) Ok := fun H Q hh k q =>
  ha H _ hh k fun vs ds H1 len zs hh1 k1 hds => ⟨by rw [len, sizeLine_eq]; omega, fun p hp => q _ (.list ds) _ (ok_list (by rw [← dall_len hds, len]; exact hn) (ok_all zs)) (hh1.same (same_up hp)) (k1.trans (keep_same (same_up hp))) (Dv.lst upd_same (hh1.live.ne hp) (hds.kp (kp_up hp)))⟩
theorem ye_dict0 : YE a c K H0 σ tDNewK Ok := fun H Q hh k q p hp => q _ (.dict []) _ (by decide) (hh.same (same_up hp)) (keep_same (same_up hp)) (Dd.dct (vis_at upd_same (hh.live.ne hp) fun _ z => nomatch z) .nil)
theorem ye_dict1 {i : Nat} {v : V} {d : PyData} (h : σ[i]? = some (some v)) (hd : Dv a K H0 v d) : YE a c K H0 σ (tDisp [(tC (.int 0), tVar i)]) Ok := fun H Q hh k q p hp => ⟨v, h, upd_same, [(Sum.inl 0, v)], rfl, by show 1 ≤ 15; decide, by
  have e : upd (upd H p (.dK [])) p (.dK (mergeK [] [(Sum.inl 0, v)])) = upd H p (.dK [(Sum.inl 0, v)]) := by
    rw [upd_upd]
    rfl
  rw [e]
  exact q _ (.dict [(.int 0, d)]) _ (by unfold Ok okD; rfl) (hh.same (same_up hp)) (keep_same (same_up hp)) (Dd.dct (vis_at upd_same (hh.live.ne hp) fun _ z => nomatch z) (.cons (k := Sum.inl 0) ((hd.ky k).kp (kp_up hp)) .nil))⟩
/-! ### draws -/
theorem yd_draw {i : Nat} {t : TE} {m : Int} (hσ : σ[i]? = some (some (.ref a))) (h : YI σ t m) (m0 : 0 < m) (m1 : m < 1073741824) : YD a c H0 σ (tCall spDraw [] E0 (tCons (tVar i) (tCons t tNil))) m := fun H Q hh k q =>
  ⟨_, hσ, h H _ ⟨a, c, m, rfl, hh, m0, m1, q⟩⟩
theorem ye_draw {t : TE} {m : Int} (h : YD a c H0 σ t m) (r : ∀ d, 0 ≤ d → d < m → R (.int d)) : YE a c K H0 σ t R := fun H Q hh k q => h H Q hh k fun d H' d0 d1 hh' k' => q _ _ H' (r d d0 d1) hh' k' (.int d)
theorem yd_add {t u : TE} {j m : Int} (hu : YI σ u j) (h : YD a c H0 σ t m) (R : PyData → Prop) (r : ∀ d, 0 ≤ d → d < m → R (.int (j + d))) : YE a c K H0 σ (tOp (rI0 fun i j => .int (i + j)) u t) R := fun H Q hh k q => hu H _ (h H _ hh k fun d H' d0 d1 hh' k' => ⟨_, _, rfl, rfl, q _ _ H' (r d d0 d1) hh' k' (.int _)⟩)
theorem yd_sub {t u : TE} {j m : Int} (hu : YI σ u j) (h : YD a c H0 σ t m) (R : PyData → Prop) (r : ∀ d, 0 ≤ d → d < m → R (.int (d - j))) : YE a c K H0 σ (tOp (rI0 fun i j => .int (i - j)) t u) R := fun H Q hh k q => h H _ hh k fun d H' d0 d1 hh' k' => hu H' _ ⟨_, _, rfl, rfl, q _ _ H' (r d d0 d1) hh' k' (.int _)⟩
/-- [..][a draw] -/
theorem ye_ixdraw {t : TE} {ta : TA} {n : Nat} (ha : YA a c K H0 σ ta n R) (h : ∀ H1, YD a c H1 σ t n) (hn : n ≤ 4000) : YE a c K H0 σ (tOp (rIxL K) (tLst ta) t) R := fun H Q hh k q =>
  ha H _ hh k fun vs ds H1 len zs hh1 k1 hds => ⟨by rw [len, sizeLine_eq]; omega, fun p hp => h _ _ _ (hh1.same (same_up hp)) .refl fun d H2 d0 d1 hh2 k2 => by
    obtain ⟨j, rfl⟩ : ∃ j : Nat, d = (j : Int) := ⟨d.toNat, by omega⟩
    have hj : j < vs.length := by omega
    obtain ⟨d, hd1, hd2⟩ := dall_at' hds (List.getElem?_eq_getElem hj)
    have np := hh1.live.ne hp
    refine ⟨p, vs, _, vs[j], rfl, rfl, SqL.of (k2 _ _ np upd_same), atI_nat (List.getElem?_eq_getElem hj), ?_⟩
    exact q _ d H2 (zs d (List.mem_of_getElem? hd1)) hh2 (k1.trans ((keep_same (same_up hp)).trans k2)) (Dv.ky (Dd.same (kp_up hp) hd2) k2)⟩
/-- a list of such things -/
structure LD (a : Addr) (K : PySem.W.Frag) (H : Hp) (L : Addr) (n : Nat) (R : PyData → Prop) : Prop where
  ex : ∃ vs ds, H L = some (.lst vs) ∧ DvAll a K H vs ds ∧ vs.length = n ∧ ∀ d ∈ ds, R d
  ne : L ≠ a
theorem LD.ky {H H' : Hp} {L : Addr} {n : Nat} (h : LD a K H L n R) (k : Keep a H H') : LD a K H' L n R := by
  obtain ⟨⟨vs, ds, h1, h2, h3, h4⟩, ne⟩ := h
  exact ⟨⟨vs, ds, k _ _ ne h1, h2.ky k, h3, h4⟩, ne⟩
theorem ld_lst {ta : TA} {n : Nat} {H : Hp} {Q : VK} (ha : YA a c K H0 σ ta n R) (hh : HandC H a c) (k : Keep a H0 H) (hn : n ≤ 4000) (q : ∀ L H', HandC H' a c → Keep a H H' → LD a K H' L n R → Q (.ref L) H') : tLst ta σ H Q :=
  ha H _ hh k fun vs ds H1 len zs hh1 k1 hds => ⟨by rw [len, sizeLine_eq]; omega, fun p hp => q p _ (hh1.same (same_up hp)) (k1.trans (keep_same (same_up hp))) ⟨⟨vs, ds, upd_same, hds.kp (kp_up hp), len, zs⟩, hh1.live.ne hp⟩⟩
theorem ld_cat {i n m : Nat} {L : Addr} {ta : TA} {H : Hp} {Q : VK} (hσ : σ[i]? = some (some (.ref L))) (hL : LD a K H L n R) (ha : YA a c K H0 σ ta m R) (hh : HandC H a c) (k : Keep a H0 H) (hn : n + m ≤ 4000) (q : ∀ L' H', HandC H' a c → Keep a H H' → LD a K H' L' (n + m) R → Q (.ref L') H') :
    tOp rCat (tVar i) (tLst ta) σ H Q := ⟨_, hσ, ld_lst (n := m) ha hh k (by omega) fun L2 H1 hh1 k1 l2 => by
  obtain ⟨⟨vs, ds, h1, h2, h3, h4⟩, ne⟩ := hL.ky k1
  obtain ⟨⟨us, es, g1, g2, g3, g4⟩, ne2⟩ := l2
  refine ⟨L, L2, _, _, rfl, rfl, h1, g1, by rw [h3, g3, sizeLine_eq]; omega, fun p hp => q p _ (hh1.same (same_up hp)) (k1.trans (keep_same (same_up hp))) ⟨⟨_, ds ++ es, upd_same, (DvAll.kp (dall_app h2 g2) (kp_up hp)), by rw [List.length_append, h3, g3], fun d hd => ?_⟩, hh1.live.ne hp⟩⟩
  rcases List.mem_append.mp hd with hd | hd
  · exact h4 d hd
  · exact g4 d hd⟩
theorem ld_some {H : Hp} {L : Addr} {n : Nat} {Q : VK} {E : XK} (hL : LD a K H L n R) (hh : HandC H a c) (h0 : 0 < n) (h1 : n ≤ 1000) (q : ∀ v d H', R d → HandC H' a c → Keep a H H' → Dv a K H' v d → Q v H') : spSome K [.ref a, .ref L] H Q E := by
  obtain ⟨⟨vs, ds, e1, e2, e3, e4⟩, ne⟩ := hL
  refine ⟨a, c, L, vs, rfl, hh, ne, SqL.of e1, by omega, by omega, fun x H' hx hh' k => ?_⟩
  obtain ⟨d, hd1, hd2⟩ := dall_mem e2 hx
  exact q x d H' (e4 d hd1) hh' k (Dv.ky hd2 k)
/-- _law_some(hand, [..]) -/
theorem ye_some {i n : Nat} {ta : TA} (hσ : σ[i]? = some (some (.ref a))) (ha : YA a c K H0 σ ta n R) (h0 : 0 < n := by decide) (h1 : n ≤ 1000 := by decide) : YE a c K H0 σ (tCall (spSome K) [] E0 (tCons (tVar i) (tCons (tLst ta) tNil))) R := fun H Q hh k q =>
  ⟨_, hσ, ld_lst (n := n) ha hh k (by omega) fun L H1 hh1 k1 l1 => ld_some (E := E0) l1 hh1 h0 h1 fun v d H2 r hh2 k2 hd => q v d H2 r hh2 (k1.trans k2) hd⟩
/-- _law_some(hand, things) of a list in a slot -/
theorem ye_somev {i j n : Nat} {L : Addr} (hσ : σ[i]? = some (some (.ref a))) (hL : σ[j]? = some (some (.ref L))) (l : LD a K H0 L n R) (h0 : 0 < n) (h1 : n ≤ 1000) : YE a c K H0 σ (tCall (spSome K) [] E0 (tCons (tVar i) (tCons (tVar j) tNil))) R := fun H Q hh k q =>
  ⟨_, hσ, _, hL, ld_some (E := E0) (l.ky k) hh h0 h1 q⟩
/-- a call of a def that draws -/
def spY (K : PySem.W.Frag) (R : PyData → Prop) : Sp := fun vs H Q _ => ∃ a c : Addr, vs = [.ref a] ∧ HandC H a c ∧ ∀ v d H', R d → HandC H' a c → Keep a H H' → Dv a K H' v d → Q v H'
theorem spY_len {x : Str} : ∀ vs H Q E, spY K R vs H Q E → vs.length = [x].length := fun vs H Q E h => by
  obtain ⟨a, c, rfl, _⟩ := h
  rfl
theorem ye_call {i : Nat} (hσ : σ[i]? = some (some (.ref a))) : YE a c K H0 σ (tCall (spY K R) [] E0 (tCons (tVar i) tNil)) R := fun H Q hh k q => ⟨_, hσ, a, c, rfl, hh, q⟩
/-- x if a draw == j else y -/
theorem ye_ifd {td ta tb : TE} {m j : Int} (hd : YD a c H0 σ td m) (h1 : YE a c K H0 σ ta R) (h2 : YE a c K H0 σ tb R) : YE a c K H0 σ (tIf (tTest (tOp rEq td (tC (.int j)))) ta tb) R := fun H Q hh k q =>
  hd H _ hh k fun d H1 d0 d1 hh1 k1 => ⟨rfl, _, rfl, tst (fun e => h1 H1 _ hh1 (k.trans k1) fun v d H2 r hh2 k2 hd => q v d H2 r hh2 (k1.trans k2) hd) fun e => h2 H1 _ hh1 (k.trans k1) fun v d H2 r hh2 k2 hd => q v d H2 r hh2 (k1.trans k2) hd⟩
theorem YE.imp {t : TE} {R' : PyData → Prop} (h : YE a c K H0 σ t R) (i : ∀ d, R d → R' d) : YE a c K H0 σ t R' := fun H Q hh k q => h H Q hh k fun v d H' r => q v d H' (i d r)
/-! ### texts -/
def rMulS : R2 := fun x y H Q => ∃ (i : Str) (n : Int), x = .str i ∧ y = .int n ∧ i.length = 1 ∧ 1 ≤ n ∧ n ≤ 1000 ∧ Q (.str (Txt.mul i n)) H
theorem op_mulS {X : Cx} : OpR X (binaryOp .Mult) rMulS := by
  intro pins s σ H x y v u Q I rx ry h
  obtain ⟨i, n, rfl, rfl, hz, n0, n1, q⟩ := h
  obtain ⟨t, rfl⟩ := rx
  obtain ⟨t', rfl⟩ := ry
  refine PySem.SB.mul ⟨?_, fun _ _ => ?_, fun _ _ => ?_⟩ fun t2 k => ⟨.str (Txt.mul i n), H, I.tok _, ⟨t2, rfl⟩, q⟩
  · rw [decide_eq_false (by omega), decide_eq_false (by omega)]
    rfl
  · rw [hz]
    have h1 : (9223372036854775807 : Int) / n ≥ 9223372036854775807 / 1000 := by
      rw [ge_iff_le, Int.le_ediv_iff_mul_le (by omega)]
      have : (9223372036854775807 / 1000 : Int) * n ≤ (9223372036854775807 / 1000) * 1000 := Int.mul_le_mul_of_nonneg_left n1 (by decide)
      omega
    have e : ((2 : Int) ^ 63 - 1) = 9223372036854775807 := by decide
    rw [e]
    omega
  · rw [hz]
    unfold Builtin.Str.tooLong
    rw [sizeLine_eq]
    exact decide_eq_false (by omega)
theorem ye_mulS {u : TE} {i : Str} (hz : i.length = 1) (h : YE a c K H0 σ u fun d => ∃ k, d = .int k ∧ 1 ≤ k ∧ k ≤ 1000 ∧ R (.str (Txt.mul i k))) : YE a c K H0 σ (tOp rMulS (tC (.str i)) u) R := fun H Q hh k q => h H _ hh k fun v d H' r hh' k' hd => by
  obtain ⟨n, rfl, n0, n1, r⟩ := r
  cases hd
  exact ⟨i, n, rfl, rfl, hz, n0, n1, q _ _ H' r hh' k' (.str _)⟩
/-! ### tuples -/
def YT (a c : Addr) (K : PySem.W.Frag) (H0 : Hp) (σ : L2.St) (t : TE) (m : Nat) : Prop := ∀ (H : Hp) (Q : VK), HandC H a c → Keep a H0 H → (∀ v ds H', ds.length ≤ m → okAll ds = true → HandC H' a c → Keep a H H' → Dv a K H' v (.tuple ds) → Q v H') → t σ H Q
theorem ofTup' {H : Hp} {v : V} {ds : List PyData} (h : Dv a K H v (.tuple ds)) : ∃ p xs, v = .ref p ∧ TupN (vis a H) p xs ∧ DvAll a K H xs ds := by
  cases h with
  | tup h1 h2 => exact ⟨_, _, rfl, h1, h2⟩
theorem yt_e {t : TE} {m : Nat} (h : YT a c K H0 σ t m) (hm : m ≤ 4000 := by decide) : YE a c K H0 σ t Ok := fun H Q hh k q => h H Q hh k fun v ds H1 l o hh1 k1 hd => q v _ H1 (ok_tuple (by omega) o) hh1 k1 hd
theorem yt_tup {ta : TA} {n : Nat} (ha : YA a c K H0 σ ta n Ok) (hn : n ≤ 4000 := by decide) : YT a c K H0 σ (tTup ta) n := fun H Q hh k q =>
  ha H _ hh k fun vs ds H1 len zs hh1 k1 hds => ⟨by rw [len, sizeLine_eq]; omega, fun p hp => q _ ds _ (by rw [← dall_len hds, len]; exact Nat.le_refl _) (ok_all zs) (hh1.same (same_up hp)) (k1.trans (keep_same (same_up hp))) (tris_new hh1.live hp hds)⟩
theorem yt_var {i : Nat} {v : V} {ds : List PyData} {m : Nat} (h : σ[i]? = some (some v)) (hd : Dv a K H0 v (.tuple ds)) (z : ds.length ≤ m) (o : okAll ds = true) : YT a c K H0 σ (tVar i) m := fun H Q hh k q => ⟨v, h, q v ds H z o hh .refl (hd.ky k)⟩
theorem okAll_app : ∀ {ds es : List PyData}, okAll ds = true → okAll es = true → okAll (ds ++ es) = true := fun {ds es} h k => ok_all fun d hd => by
  rcases List.mem_append.mp hd with hd | hd
  · exact okAll_mem h hd
  · exact okAll_mem k hd
theorem yt_cat {t u : TE} {m n : Nat} (h : YT a c K H0 σ t m) (h' : YT a c K H0 σ u n) (hm : m + n ≤ 8000 := by decide) : YT a c K H0 σ (tOp (rCatA K) t u) (m + n) := fun H Q hh k q =>
  h H _ hh k fun v1 d1 H1 l1 o1 hh1 k1 e1 => h' H1 _ hh1 (k.trans k1) fun v2 d2 H2 l2 o2 hh2 k2 e2 => by
    have e1' := e1.ky k2
    obtain ⟨p1, xs1, rfl, t1, g1⟩ := ofTup' e1'
    obtain ⟨p2, xs2, rfl, t2, g2⟩ := ofTup' e2
    have z1 := dall_len g1
    have z2 := dall_len g2
    refine ⟨p1, p2, xs1, xs2, rfl, rfl, (tupN_vis t1).sq, (tupN_vis t2).sq, by rw [z1, z2, sizeLine_eq]; omega, fun e => ?_, fun _ e => ?_, fun _ _ p hp => ?_⟩
    · exact q _ d2 H2 (by omega) o2 hh2 (k1.trans k2) e2
    · exact q _ d1 H2 (by omega) o1 hh2 (k1.trans k2) e1'
    · exact q _ (d1 ++ d2) _ (by rw [List.length_append]; omega) (okAll_app o1 o2) (hh2.same (same_up hp)) ((k1.trans k2).trans (keep_same (same_up hp))) (tris_new hh2.live hp (dall_app g1 g2))
theorem dall_cut {H : Hp} {vs : List V} {ds : List PyData} (h : DdAll K H vs ds) (lo hi : Option Int) : ∃ es, DdAll K H (cutV vs lo hi) es ∧ es.length ≤ ds.length ∧ ∀ e ∈ es, e ∈ ds := by
  refine ⟨_, dall_take _ (dall_drop _ h), ?_, fun e he => List.mem_of_mem_drop (List.mem_of_mem_take he)⟩
  rw [List.length_take, List.length_drop]
  omega
theorem yt_sl {t : TE} {tl th : TO} {lo hi : Option Int} {m : Nat} (h : YT a c K H0 σ t m) (hl : ∀ H (Q : Option Int → Hp → Prop), Q lo H → tl σ H Q) (hu : ∀ H (Q : Option Int → Hp → Prop), Q hi H → th σ H Q) : YT a c K H0 σ (tSl (rSlA K) t tl th) m := fun H Q hh k q =>
  h H _ hh k fun v1 d1 H1 l1 o1 hh1 k1 e1 => hl H1 _ (hu H1 _ (by
    obtain ⟨p1, xs1, rfl, t1, g1⟩ := ofTup' e1
    refine ⟨p1, xs1, rfl, (tupN_vis t1).sq, fun _ => q _ d1 H1 l1 o1 hh1 k1 e1, fun _ p hp => ?_⟩
    obtain ⟨es, g, gl, gm⟩ := dall_cut g1 lo hi
    exact q _ es _ (by omega) (ok_all fun d hd => okAll_mem o1 (gm d hd)) (hh1.same (same_up hp)) (k1.trans (keep_same (same_up hp))) (tris_new hh1.live hp g)))
theorem yo_no {σ : L2.St} : ∀ H (Q : Option Int → Hp → Prop), Q none H → tNoPart σ H Q := fun _ _ z => z
theorem yo_some {σ : L2.St} {t : TE} {i : Int} (h : YI σ t i) : ∀ H (Q : Option Int → Hp → Prop), Q (some i) H → tPart t σ H Q := fun H _ z => h H _ ⟨_, rfl, z⟩
theorem dall_flat {H : Hp} {vs : List V} {ds : List PyData} (h : DdAll K H vs ds) : ∀ n : Nat, DdAll K H (List.replicate n vs).flatten (List.replicate n ds).flatten
  | 0 => .nil
  | n + 1 => by
    rw [List.replicate_succ, List.replicate_succ, List.flatten_cons, List.flatten_cons]
    exact dall_app h (dall_flat h n)
theorem yt_rep {t : TE} {m k : Nat} {ti : TE} (hk : YI σ ti k) (k2 : 2 ≤ k) (k3 : k ≤ 100) (hm : m ≤ 10) (ne : ∀ (H : Hp) (Q : VK), HandC H a c → Keep a H0 H → (∀ v ds H', ds ≠ [] → ds.length ≤ m → okAll ds = true → HandC H' a c → Keep a H H' → Dv a K H' v (.tuple ds) → Q v H') → t σ H Q) : YT a c K H0 σ (tOp (rRepT K) t ti) (k * m) := fun H Q hh kk q =>
  ne H _ hh kk fun v1 d1 H1 n1 l1 o1 hh1 k1 e1 => hk H1 _ (by
    obtain ⟨p1, xs1, rfl, t1, g1⟩ := ofTup' e1
    have z1 := dall_len g1
    refine ⟨p1, (k : Int), xs1, rfl, rfl, (tupN_vis t1).sq, fun e => n1 (List.length_eq_zero_iff.mp (by rw [← z1, e]; rfl)), by omega, by omega, by omega, fun p hp => ?_⟩
    refine q _ (List.replicate k d1).flatten _ ?_ (ok_all fun d hd => ?_) (hh1.same (same_up hp)) (k1.trans (keep_same (same_up hp))) (tris_new hh1.live hp (by rw [Int.toNat_natCast]; exact dall_flat g1 k))
    · rw [List.length_flatten, List.map_replicate, List.sum_replicate_nat]
      exact Nat.mul_le_mul_left _ l1
    · obtain ⟨l, hl, hd⟩ := List.mem_flatten.mp hd
      rw [List.eq_of_mem_replicate hl] at hd
      exact okAll_mem o1 hd)
def rLof (K : PySem.W.Frag) : List V → Hp → VK → Prop := fun xs H Q => ∃ p ys, xs = [.ref p] ∧ (SqL K H p ys ∨ SqT K H p ys) ∧ ∀ l, H l = none → Q (.ref l) (upd H l (.lst ys))
theorem call_lof {X : Cx} : CallR X (.type "list") (rLof X.K) := call_list_of
theorem ye_list {i : Nat} {v : V} {ds : List PyData} (h : σ[i]? = some (some v)) (hd : Dv a K H0 v (.tuple ds)) (z : ds.length ≤ 4000) (o : okAll ds = true) : YE a c K H0 σ (tCB (rLof K) (tCons (tVar i) tNil)) Ok := fun H Q hh k q => by
  obtain ⟨p1, xs1, rfl, t1, g1⟩ := ofTup' (hd.ky k)
  exact ⟨_, h, p1, xs1, rfl, .inr (tupN_vis t1).sq, fun p hp => q _ (.list ds) _ (ok_list z o) (hh.same (same_up hp)) (keep_same (same_up hp)) (Dv.lst upd_same (hh.live.ne hp) (DvAll.kp g1 (kp_up hp)))⟩
theorem ye_ix0 {i : Nat} {v : V} {d : PyData} {ds : List PyData} (h : σ[i]? = some (some v)) (hd : Dv a K H0 v (.tuple (d :: ds))) (r : R d) : YE a c K H0 σ (tOp (rIxT K) (tVar i) (tC (.int 0))) R := fun H Q hh k q => by
  obtain ⟨p1, xs1, rfl, t1, g1⟩ := ofTup' (hd.ky k)
  cases g1 with
  | cons g1 _ => exact ⟨_, h, p1, _, _, _, rfl, rfl, (tupN_vis t1).sq, atI_nat (j := 0) rfl, q _ d H r hh .refl g1⟩
theorem ye_upper {i : Nat} {x : Str} (h : σ[i]? = some (some (.str x))) (hz : x.length ≤ 1000) : YE a c K H0 σ (tM0 (fun x xs H Q => ∃ a, x = .str a ∧ xs = [] ∧ a.length ≤ 5592405 ∧ Q (.str (Txt.upper a)) H) (tVar i)) Ok := fun H Q hh k q =>
  ⟨_, h, ⟨_, rfl⟩, x, rfl, rfl, by omega, q _ _ H (ok_strI (by have := len_upper x; omega)) hh .refl (.str _)⟩
theorem ye_addS {i : Nat} {x y : Str} (h : σ[i]? = some (some (.str x))) (hz : x.length ≤ 1000) (hy : y.length ≤ 1000) : YE a c K H0 σ (tOp (fun x y H Q => ∃ i j, x = .str i ∧ y = .str j ∧ i.length + j.length ≤ sizeLine ∧ Q (.str (i ++ j)) H) (tVar i) (tC (.str y))) Ok := fun H Q hh k q =>
  ⟨_, h, x, y, rfl, rfl, by rw [sizeLine_eq]; omega, q _ _ H (ok_strI (by rw [len_app]; omega)) hh .refl (.str _)⟩
end
end Sm
namespace Sm
open PySem PySem.Spec PyProof.Rows L2 Vd
section
variable {P : Program} {w : World} {K : PySem.W.Frag} {mg : Str → Option Value} {base : Heap}
abbrev DDraw (P : Program) (w : World) (K : PySem.W.Frag) (mg : Str → Option Value) (base : Heap) : Prop := Df P w K mg base "_law_draw" 1 ["hand", "many"] spDraw
abbrev DSome (P : Program) (w : World) (K : PySem.W.Frag) (mg : Str → Option Value) (base : Heap) : Prop := Df P w K mg base "_law_some" 2 ["hand", "things"] (spSome K)
abbrev DY (P : Program) (w : World) (K : PySem.W.Frag) (mg : Str → Option Value) (base : Heap) (x : Str) (k : Nat) (R : PyData → Prop) : Prop := Df P w K mg base x k ["hand"] (spY K R)
/-! ### _law_deep, _law_odd, _law_odd_prime -/
abbrev sDeep : Stmt := top 38
abbrev sOdd : Stmt := top 39
abbrev sOddPrime : Stmt := top 40
theorem scDeep : FnScope ["hand", "found", "turn"] ["hand"] (defScope sDeep) := ⟨rfl, rfl, rfl, by decide +kernel, rfl, by decide +kernel, by decide +kernel⟩
theorem ok_deep {f : Addr} {fd : FuncData} (F : FnP K "_law_deep" sDeep f fd) (M : Nm mg) (DD : DDraw P w K mg base) : FnOk P w K mg base CX0 2 f fd ["hand"] (spY K Ok) := by
  refine F.ok scDeep spY_len (fun cdv A outer s H vs Q E hr h => ?_)
  obtain ⟨a, c, rfl, hh, q⟩ := h
  refine ⟨_, PSs.nox (pss_cons (ps_set (i := 1) scDeep.nd rfl (Or.inl rfl) (pe_ix ix_list (pe_lst (pa_cons pe_non (pa_cons pe_str (pa_cons (pe_un un_neg pe_int) (pa_cons pe_dnewK (pa_cons pe_bl pa_nil)))))) (pe_df DD hr (by decide) (pa_cons (pv 0) (pa_cons pe_int pa_nil))) (fun _ _ => rfl)))
      (pss_cons (ps_for PassesOwn.never rfl (pi_range1 (by rfl) M.range (pa_cons (pe_op op_add pe_int (pe_df DD hr (by decide) (pa_cons (pv 0) (pa_cons pe_int pa_nil)))) pa_nil)) (pg_name (i := 2) scDeep.nd rfl (Or.inl rfl)) (pss_one (ps_set (i := 1) scDeep.nd rfl (Or.inl rfl) (pe_ix ix_list (pe_lst (pa_cons (pe_tup (pa_cons (pv 1) pa_nil)) (pa_cons (pe_lst (pa_cons (pv 1) pa_nil)) (pa_cons (pe_disp (pps_cons pe_int (pv 1) pps_nil) (by rfl) (by rfl) (by exact List.cons_ne_nil _ _) (by decide)) pa_nil)))) (pe_df DD hr (by decide) (pa_cons (pv 0) (pa_cons pe_int pa_nil))) (fun _ _ => rfl)))))
      (pss_one (ps_ret (pv 1))))), ?_⟩
  dsimp only [tSeq, tAsg, gName]
  refine ye_ixdraw (a := a) (c := c) (K := K) (H0 := H) (n := 5) (R := Ok) (ya_cons (ye_non (by decide +kernel)) (ya_cons (ye_str (by decide +kernel)) (ya_cons (ye_int (yi_neg yi_c) (by decide +kernel)) (ya_cons ye_dict0 (ya_cons (ye_bl (by decide +kernel)) ya_nil))))) (fun _ => yd_draw rfl yi_c (by decide) (by decide)) (by decide) H _ hh .refl fun v d H1 r hh1 k1 hd => ?_
  refine ⟨_, rfl, a, c, _, rfl, hh1, by decide, by decide, fun n H2 n0 n1 hh2 k2 => ?_⟩
  refine ⟨_, _, rfl, rfl, _, rfl, by omega, by omega, ?_⟩
  refine for_range (lo := 0) (n := (1 + n).toNat) (fun i σ H' => HandC H' a c ∧ Keep a H H' ∧ ∃ v d x2, σ = [some (.ref a), some v, x2] ∧ Dv a K H' v d ∧ Ok d) ⟨hh2, k1.trans k2, v, d, none, rfl, hd.ky k2, r⟩ (fun i σ H' hi z => ?_) (fun σ H' z => ?_)
  · obtain ⟨hh3, k3, v, d, x2, rfl, hd, r⟩ := z
    refine ye_ixdraw (a := a) (c := c) (K := K) (H0 := H') (n := 3) (R := Ok) (ya_cons (ye_tup (ya_cons (ye_var rfl hd r) ya_nil)) (ya_cons (ye_lst (ya_cons (ye_var rfl hd r) ya_nil)) (ya_cons (ye_dict1 rfl hd) ya_nil))) (fun _ => yd_draw rfl yi_c (by decide) (by decide)) (by decide) H' _ hh3 .refl fun v d H4 r hh4 k4 hd => ?_
    exact ⟨hh4, k3.trans k4, v, d, _, rfl, hd, r⟩
  · obtain ⟨hh3, k3, v, d, x2, rfl, hd, r⟩ := z
    exact ⟨_, rfl, q v d H' r hh3 k3 hd⟩
theorem scOdd : FnScope ["hand"] ["hand"] (defScope sOdd) := ⟨rfl, rfl, rfl, by decide +kernel, rfl, by decide +kernel, by decide +kernel⟩
theorem ok_odd {f : Addr} {fd : FuncData} (F : FnP K "_law_odd" sOdd f fd) (M : Nm mg) (DS : DSome P w K mg base) (DP : DY P w K mg base "_law_deep" 2 Ok) : FnOk P w K mg base CX0 3 f fd ["hand"] (spY K Ok) := by
  refine F.ok scOdd spY_len (fun cdv A outer s H vs Q E hr h => ?_)
  obtain ⟨a, c, rfl, hh, q⟩ := h
  refine ⟨_, PSs.nox (pss_one (ps_ret (pe_df DS hr (by decide) (pa_cons (pv 0) (pa_cons (pe_lst (pa_cons pe_non (pa_cons pe_bl (pa_cons pe_bl (pa_cons pe_int (pa_cons (pe_un un_neg pe_int) (pa_cons pe_int (pa_cons (pe_op op_shl pe_int pe_int) (pa_cons pe_str (pa_cons pe_str (pa_cons (pe_tup pa_nil) (pa_cons (pe_lst pa_nil) (pa_cons pe_dnewK (pa_cons (pe_tup (pa_cons pe_int pa_nil)) (pa_cons (pe_tup (pa_cons pe_str pa_nil)) (pa_cons (pe_df DP hr (by decide) (pa_cons (pv 0) pa_nil)) pa_nil)))))))))))))))) pa_nil))))), ?_⟩
  exact ye_some (a := a) (c := c) (K := K) (H0 := H) (R := Ok) rfl (ya_cons (ye_non (by decide +kernel)) (ya_cons (ye_bl (by decide +kernel)) (ya_cons (ye_bl (by decide +kernel)) (ya_cons (ye_int yi_c (by decide +kernel)) (ya_cons (ye_int (yi_neg yi_c) (by decide +kernel)) (ya_cons (ye_int yi_c (by decide +kernel)) (ya_cons (ye_int (yi_shl yi_c yi_c) (by decide +kernel)) (ya_cons (ye_str (by decide +kernel)) (ya_cons (ye_str (by decide +kernel)) (ya_cons (ye_tup ya_nil) (ya_cons (ye_lst ya_nil) (ya_cons ye_dict0 (ya_cons (ye_tup (ya_cons (ye_int yi_c (by decide +kernel)) ya_nil)) (ya_cons (ye_tup (ya_cons (ye_str (by decide +kernel)) ya_nil)) (ya_cons (ye_call rfl) ya_nil))))))))))))))) (by decide) (by decide) H _ hh .refl q
theorem scOddPrime : FnScope ["hand", "top", "things"] ["hand"] (defScope sOddPrime) := ⟨rfl, rfl, rfl, by decide +kernel, rfl, by decide +kernel, by decide +kernel⟩
theorem ok_oddPrime {f : Addr} {fd : FuncData} (F : FnP K "_law_odd_prime" sOddPrime f fd) (M : Nm mg) (DS : DSome P w K mg base) : FnOk P w K mg base CX0 3 f fd ["hand"] (spY K Ok) := by
  refine F.ok scOddPrime spY_len (fun cdv A outer s H vs Q E hr h => ?_)
  obtain ⟨a, c, rfl, hh, q⟩ := h
  refine ⟨_, PSs.nox (pss_cons (ps_set (i := 1) scOddPrime.nd rfl (Or.inl rfl) pe_int)
      (pss_cons (ps_set (i := 2) scOddPrime.nd rfl (Or.inl rfl) (pe_lst (pa_cons pe_int (pa_cons pe_int (pa_cons (pe_op op_sub (pv 1) pe_int) (pa_cons (pv 1) (pa_cons (pe_op op_add (pv 1) pe_int) (pa_cons pe_bl (pa_cons pe_non (pa_cons pe_str (pa_cons (pe_op op_sub pe_int pe_int) (pa_cons (pe_tup (pa_cons pe_int pa_nil)) (pa_cons pe_int (pa_cons pe_int (pa_cons pe_int (pa_cons (pe_op op_pow pe_int pe_int) pa_nil))))))))))))))))
      (pss_one (ps_ret (pe_df DS hr (by decide) (pa_cons (pv 0) (pa_cons (pv 2) pa_nil))))))), ?_⟩
  dsimp only [tSeq, tAsg, gName]
  refine tC_pass ?_
  show tLst _ [some (.ref a), some (.int 170141183460469231731687303715884105728), none] H _
  refine ld_lst (a := a) (c := c) (K := K) (H0 := H) (n := 14) (R := Ok) (ya_cons (ye_int yi_c (by decide +kernel)) (ya_cons (ye_int yi_c (by decide +kernel)) (ya_cons (ye_int (yi_sub (yi_var rfl) yi_c) (by decide +kernel)) (ya_cons (ye_int (yi_var rfl) (by decide +kernel)) (ya_cons (ye_int (yi_add (yi_var rfl) yi_c) (by decide +kernel)) (ya_cons (ye_bl (by decide +kernel)) (ya_cons (ye_non (by decide +kernel)) (ya_cons (ye_str (by decide +kernel)) (ya_cons (ye_int (yi_sub yi_c yi_c) (by decide +kernel)) (ya_cons (ye_tup (ya_cons (ye_int yi_c (by decide +kernel)) ya_nil)) (ya_cons (ye_int yi_c (by decide +kernel)) (ya_cons (ye_int yi_c (by decide +kernel)) (ya_cons (ye_int yi_c (by decide +kernel)) (ya_cons (ye_int (yi_pow yi_c yi_c) (by decide +kernel)) ya_nil)))))))))))))) hh .refl (by decide) fun L1 H1 hh1 k1 l1 => ?_
  exact ye_somev (a := a) (c := c) (K := K) (H0 := H1) (R := Ok) rfl rfl l1 (by decide) (by decide) H1 _ hh1 .refl fun v d H2 r hh2 k2 hd => q v d H2 r hh2 (k1.trans k2) hd
/-! ### _law_prime, _law_worth -/
abbrev sPrimeD : Stmt := top 47
abbrev sWorthD : Stmt := top 48
def RP (d : PyData) : Prop := primeD d = true ∧ okD d = true
theorem scPrimeD : FnScope ["hand"] ["hand"] (defScope sPrimeD) := ⟨rfl, rfl, rfl, by decide +kernel, rfl, by decide +kernel, by decide +kernel⟩
theorem ok_primeD {f : Addr} {fd : FuncData} (F : FnP K "_law_prime" sPrimeD f fd) (M : Nm mg) (DS : DSome P w K mg base) : FnOk P w K mg base CX0 3 f fd ["hand"] (spY K RP) := by
  refine F.ok scPrimeD spY_len (fun cdv A outer s H vs Q E hr h => ?_)
  obtain ⟨a, c, rfl, hh, q⟩ := h
  refine ⟨_, PSs.nox (pss_one (ps_ret (pe_df DS hr (by decide) (pa_cons (pv 0) (pa_cons (pe_lst (pa_cons pe_int (pa_cons pe_int (pa_cons pe_int (pa_cons pe_int (pa_cons pe_int (pa_cons pe_int (pa_cons pe_int pa_nil)))))))) pa_nil))))), ?_⟩
  exact ye_some (a := a) (c := c) (K := K) (H0 := H) (R := RP) rfl (ya_cons (ye_int yi_c ⟨by decide +kernel, by decide +kernel⟩) (ya_cons (ye_int yi_c ⟨by decide +kernel, by decide +kernel⟩) (ya_cons (ye_int yi_c ⟨by decide +kernel, by decide +kernel⟩) (ya_cons (ye_int yi_c ⟨by decide +kernel, by decide +kernel⟩) (ya_cons (ye_int yi_c ⟨by decide +kernel, by decide +kernel⟩) (ya_cons (ye_int yi_c ⟨by decide +kernel, by decide +kernel⟩) (ya_cons (ye_int yi_c ⟨by decide +kernel, by decide +kernel⟩) ya_nil))))))) (by decide) (by decide) H _ hh .refl q
def RW (d : PyData) : Prop := worthD d = true ∧ okD d = true
theorem quote_ok {k : Int} (h0 : 1 ≤ k) (h1 : k ≤ 20) : RW (.str (Txt.mul ("'" : Str) k)) := by
  have e : (Txt.mul ("'" : Str) k).cps.toList = List.replicate k.toNat 39 := by
    have h := mul_one_list 39 k
    have e2 : (⟨#[39]⟩ : Str) = ("'" : Str) := by decide
    rw [e2] at h
    exact h
  have el : (Txt.mul ("'" : Str) k).length = k.toNat := by
    show (Txt.mul ("'" : Str) k).cps.size = _
    rw [← Array.length_toList, e, List.length_replicate]
  refine ⟨?_, ok_strI (by omega)⟩
  show (_ || (decide ((Txt.mul ("'" : Str) k).length ≤ 20) && sgn 32 126 _)) = true
  rw [decide_eq_true (by omega), Bool.true_and]
  refine Bool.or_eq_true_iff.mpr (.inr ?_)
  unfold sgn
  rw [e]
  exact List.all_eq_true.mpr fun x hx => by
    rw [List.eq_of_mem_replicate hx]
    rfl
theorem small_ok {i : Int} (h : i.natAbs < 2 ^ 200) : RW (.int i) := ⟨rfl, ok_intI h⟩
theorem scWorthD : FnScope ["hand", "words"] ["hand"] (defScope sWorthD) := ⟨rfl, rfl, rfl, by decide +kernel, rfl, by decide +kernel, by decide +kernel⟩
theorem p200 {n : Nat} (h : n < 1000000) : n < 2 ^ 200 := Nat.lt_trans h (by decide)
theorem ok_worthD {f : Addr} {fd : FuncData} (F : FnP K "_law_worth" sWorthD f fd) (M : Nm mg) (DD : DDraw P w K mg base) (DS : DSome P w K mg base) : FnOk P w K mg base CX0 3 f fd ["hand"] (spY K RW) := by
  refine F.ok scWorthD spY_len (fun cdv A outer s H vs Q E hr h => ?_)
  obtain ⟨a, c, rfl, hh, q⟩ := h
  refine ⟨_, PSs.nox (pss_cons (ps_set (i := 1) scWorthD.nd rfl (Or.inl rfl) (pe_lst (pa_cons pe_str (pa_cons pe_str (pa_cons pe_str (pa_cons pe_str (pa_cons pe_str (pa_cons pe_str (pa_cons pe_str (pa_cons pe_str (pa_cons pe_str (pa_cons (pe_op (r := rMulS) op_mulS pe_str (pe_op op_add pe_int (pe_df DD hr (by decide) (pa_cons (pv 0) (pa_cons pe_int pa_nil))))) pa_nil))))))))))))
      (pss_cons (ps_if (pt_cmpR op_eq (pe_df DD hr (by decide) (pa_cons (pv 0) (pa_cons pe_int pa_nil))) pe_int (nomark _)) (pss_one (ps_ret (pe_df DS hr (by decide) (pa_cons (pv 0) (pa_cons (pv 1) pa_nil))))) pss_nil)
      (pss_one (ps_ret (pe_df DS hr (by decide) (pa_cons (pv 0) (pa_cons (pe_lst (pa_cons (pe_df DD hr (by decide) (pa_cons (pv 0) (pa_cons pe_int pa_nil))) (pa_cons (pe_op op_sub (pe_df DD hr (by decide) (pa_cons (pv 0) (pa_cons pe_int pa_nil))) pe_int) (pa_cons (pe_op op_sub (pe_op op_pow pe_int pe_int) pe_int) (pa_cons (pe_op op_sub pe_int (pe_op op_pow pe_int pe_int)) (pa_cons pe_int (pa_cons (pe_op op_pow pe_int pe_int) pa_nil))))))) pa_nil))))))), ?_⟩
  dsimp only [tSeq, tAsg, gName]
  refine ld_lst (a := a) (c := c) (K := K) (H0 := H) (n := 10) (R := RW) (ya_cons (ye_str ⟨by decide +kernel, by decide +kernel⟩) (ya_cons (ye_str ⟨by decide +kernel, by decide +kernel⟩) (ya_cons (ye_str ⟨by decide +kernel, by decide +kernel⟩) (ya_cons (ye_str ⟨by decide +kernel, by decide +kernel⟩) (ya_cons (ye_str ⟨by decide +kernel, by decide +kernel⟩) (ya_cons (ye_str ⟨by decide +kernel, by decide +kernel⟩) (ya_cons (ye_str ⟨by decide +kernel, by decide +kernel⟩) (ya_cons (ye_str ⟨by decide +kernel, by decide +kernel⟩) (ya_cons (ye_str ⟨by decide +kernel, by decide +kernel⟩) (ya_cons (ye_mulS (by decide) (yd_add (j := 1) (m := 20) yi_c (yd_draw rfl yi_c (by decide) (by decide)) _ fun d d0 d1 => ⟨1 + d, rfl, by omega, by omega, quote_ok (by omega) (by omega)⟩)) ya_nil)))))))))) hh .refl (by decide) fun L1 H1 hh1 k1 l1 => ?_
  refine ⟨_, rfl, a, c, _, rfl, hh1, by decide, by decide, fun n H2 n0 n1 hh2 k2 => ⟨rfl, _, rfl, tst (fun e => ?_) fun e => ?_⟩⟩
  · exact ye_somev (a := a) (c := c) (K := K) (H0 := H2) (R := RW) rfl rfl (l1.ky k2) (by decide) (by decide) H2 _ hh2 .refl fun v d H3 r hh3 k3 hd => q v d H3 r hh3 (k1.trans (k2.trans k3)) hd
  · exact ye_some (a := a) (c := c) (K := K) (H0 := H2) (R := RW) rfl (ya_cons (ye_draw (yd_draw rfl yi_c (by decide) (by decide)) fun d d0 d1 => small_ok (p200 (by omega))) (ya_cons (yd_sub (j := 30) (m := 60) yi_c (yd_draw rfl yi_c (by decide) (by decide)) _ fun d d0 d1 => small_ok (p200 (by omega))) (ya_cons (ye_int (yi_sub (yi_pow yi_c yi_c) yi_c) ⟨by decide +kernel, by decide +kernel⟩) (ya_cons (ye_int (yi_sub yi_c (yi_pow yi_c yi_c)) ⟨by decide +kernel, by decide +kernel⟩) (ya_cons (ye_int yi_c ⟨by decide +kernel, by decide +kernel⟩) (ya_cons (ye_int (yi_pow yi_c yi_c) ⟨by decide +kernel, by decide +kernel⟩) ya_nil)))))) (by decide) (by decide) H2 _ hh2 .refl fun v d H3 r hh3 k3 hd => q v d H3 r hh3 (k1.trans (k2.trans k3)) hd
/-! ### _law_fact -/
abbrev sFactD : Stmt := top 49
def RF (d : PyData) : Prop := factD d = true ∧ okD d = true
def RN (d : PyData) : Prop := nameD d = true ∧ okD d = true
def RT (d : PyData) : Prop := textD d = true ∧ okD d = true
def wv : PyData → V
  | .int i => .int i
  | .str x => .str x
  | _ => .non
theorem rw_wv {a : Addr} {H : Hp} {v : V} {d : PyData} (r : RW d) (h : Dv a K H v d) : v = wv d := by
  rcases Bool.or_eq_true_iff.mp r.1 with e | e
  · obtain ⟨i, rfl⟩ := intD_of e
    exact dd_int h
  · cases d with
    | str x => exact dd_str h
    | _ => cases e
theorem wv_dv {a : Addr} {H : Hp} {d : PyData} (r : RW d) : Dv a K H (wv d) d := by
  rcases Bool.or_eq_true_iff.mp r.1 with e | e
  · obtain ⟨i, rfl⟩ := intD_of e
    exact .int i
  · cases d with
    | str x => exact .str x
    | _ => cases e
theorem wv_all {a : Addr} {H : Hp} : ∀ {ds : List PyData}, (∀ d ∈ ds, RW d) → DvAll a K H (ds.map wv) ds
  | [], _ => .nil
  | d :: r, h => .cons (wv_dv (h d List.mem_cons_self)) (wv_all fun x hx => h x (List.mem_cons_of_mem _ hx))
theorem rf_rule {t x : PyData} (h : RN t) (k : RT x) : RF (.tuple [.str "rule", .tuple [t, x]]) := by
  refine ⟨?_, ok_tuple (by show 2 ≤ 4000; decide) (ok_all fun d hd => ?_)⟩
  · show (nameD (.str "rule") && (if isR (.str "rule") = true then ruleD (.tuple [t, x]) else rowD (.tuple [t, x]))) = true
    rw [show nameD (.str "rule") = true from by decide +kernel, show isR (.str "rule") = true from by decide +kernel, if_pos rfl, rule2, h.1, k.1]
    rfl
  · rcases List.mem_cons.mp hd with rfl | hd
    · exact (by decide +kernel : okD (.str "rule") = true)
    · rw [List.mem_singleton.mp hd]
      exact ok_tuple (by show 2 ≤ 4000; decide) (ok_all fun d hd => by
        rcases List.mem_cons.mp hd with rfl | hd
        · exact h.2
        · rw [List.mem_singleton.mp hd]
          exact k.2)
def names : List Str := ["a", "b", "b", "bag", "q", "zz"]
def RM (d : PyData) : Prop := ∃ x : Str, d = .str x ∧ x ∈ names
theorem rf_row {x : Str} {ds : List PyData} (h : x ∈ names) (h0 : 1 ≤ ds.length) (h1 : ds.length ≤ 5) (k : ∀ d ∈ ds, RW d) : RF (.tuple [.str x, .tuple ds]) := by
  have n1 : nameD (.str x) = true := (by decide +kernel : ∀ x ∈ names, nameD (.str x) = true) x h
  have n2 : isR (.str x) = false := (by decide +kernel : ∀ x ∈ names, isR (.str x) = false) x h
  have n3 : okD (.str x) = true := (by decide +kernel : ∀ x ∈ names, okD (.str x) = true) x h
  refine ⟨?_, ok_tuple (by show 2 ≤ 4000; decide) (ok_all fun d hd => ?_)⟩
  · show (nameD (.str x) && (if isR (.str x) = true then ruleD (.tuple ds) else rowD (.tuple ds))) = true
    rw [n1, n2, if_neg Bool.false_ne_true, Bool.true_and]
    show ((decide ((1 : Int) ≤ (ds.length : Int)) && decide ((ds.length : Int) ≤ 5)) && ds.all worthD) = true
    rw [decide_eq_true (by omega), decide_eq_true (by omega), Bool.true_and, Bool.true_and]
    exact List.all_eq_true.mpr fun d hd => (k d hd).1
  · rcases List.mem_cons.mp hd with rfl | hd
    · exact n3
    · rw [List.mem_singleton.mp hd]
      exact ok_tuple (by omega) (ok_all fun d hd => (k d hd).2)
theorem scFactD : FnScope ["hand", "texts", "name", "many", "place"] ["hand"] (defScope sFactD) := ⟨rfl, rfl, rfl, by decide +kernel, rfl, by decide +kernel, by decide +kernel⟩
def kvsOf (q : Int) : List (Key × V) := [(Sum.inr "a", .int 1), (Sum.inr "b", .int 2), (Sum.inr "bag", .int 3), (Sum.inr "q", .int (1 + q)), (Sum.inr "zz", .int 2)]
theorem kvs_merge (q : Int) : mergeK [] (kvsOf q) = kvsOf q := rfl
theorem kvs_get {x : Str} (h : x ∈ names) {q : Int} (q0 : 0 ≤ q) (q1 : q < 5) : ∃ m : Int, 1 ≤ m ∧ m ≤ 5 ∧ valV (kvsOf q) (Sum.inr x) = some (.int m) := by
  unfold names at h
  simp only [List.mem_cons, List.not_mem_nil, or_false] at h
  rcases h with rfl | rfl | rfl | rfl | rfl | rfl
  · exact ⟨1, by decide, by decide, rfl⟩
  · exact ⟨2, by decide, by decide, rfl⟩
  · exact ⟨2, by decide, by decide, rfl⟩
  · exact ⟨3, by decide, by decide, rfl⟩
  · exact ⟨1 + q, by omega, by omega, rfl⟩
  · exact ⟨2, by decide, by decide, rfl⟩
theorem ok_factD {f : Addr} {fd : FuncData} (F : FnP K "_law_fact" sFactD f fd) (M : Nm mg) (DD : DDraw P w K mg base) (DS : DSome P w K mg base) (DW : DY P w K mg base "_law_worth" 3 RW) : FnOk P w K mg base CX0 4 f fd ["hand"] (spY K RF) := by
  refine F.ok scFactD spY_len (fun cdv A outer s H vs Q E hr h => ?_)
  obtain ⟨a, c, rfl, hh, q⟩ := h
  have hu : (A.deeper (envOfC "_law_fact" (defScope sFactD) s.heap.objs.size f cdv)).units + 1 < cLine := by
    have := hr.units
    omega
  refine ⟨_, PSs.nox (pss_cons (ps_if (pt_cmpR op_eq (pe_df DD hr (by decide) (pa_cons (pv 0) (pa_cons pe_int pa_nil))) pe_int (nomark _)) (pss_cons (ps_set (i := 1) scFactD.nd rfl (Or.inl rfl) (pe_lst (pa_cons pe_str (pa_cons pe_str (pa_cons pe_str (pa_cons pe_str pa_nil))))))
      (pss_one (ps_ret (pe_tup (pa_cons pe_str (pa_cons (pe_tup (pa_cons (pe_df DS hr (by decide) (pa_cons (pv 0) (pa_cons (pe_lst (pa_cons pe_str (pa_cons pe_str (pa_cons pe_str (pa_cons pe_str pa_nil))))) pa_nil))) (pa_cons (pe_df DS hr (by decide) (pa_cons (pv 0) (pa_cons (pv 1) pa_nil))) pa_nil))) pa_nil)))))) pss_nil)
      (pss_cons (ps_set (i := 2) scFactD.nd rfl (Or.inl rfl) (pe_df DS hr (by decide) (pa_cons (pv 0) (pa_cons (pe_lst (pa_cons pe_str (pa_cons pe_str (pa_cons pe_str (pa_cons pe_str (pa_cons pe_str (pa_cons pe_str pa_nil))))))) pa_nil))))
      (pss_cons (ps_set (i := 3) scFactD.nd rfl (Or.inl rfl) (pe_dget hu (pe_disp (pps_cons pe_str pe_int (pps_cons pe_str pe_int (pps_cons pe_str pe_int (pps_cons pe_str (pe_op op_add pe_int (pe_df DD hr (by decide) (pa_cons (pv 0) (pa_cons pe_int pa_nil)))) (pps_cons pe_str pe_int pps_nil))))) (by rfl) (by rfl) (by exact List.cons_ne_nil _ _) (by decide)) (pv 2) (fun _ _ => rfl)))
      (pss_one (ps_ret (pe_tup (pa_cons (pv 2) (pa_cons (pe_callTy call_tuple_of (by rfl) M.tuple (by decide +kernel) (pa_cons (pe_lc (own := [("place", 4)]) (g := gName 4) (tt := tYes) (by rfl) scFactD.nd (pi_range1 (by rfl) M.range (pa_cons (pv 3) pa_nil)) (blkOk_by (N := ["hand", "texts", "name", "many", "place"]) (sc := defScope sFactD) (by decide +kernel)) (fun _ _ _ _ _ => pg_name (i := 4) scFactD.nd rfl (Or.inl rfl)) (fun _ _ _ _ _ => pts_nil) (fun _ _ _ _ _ => (pe_df DW hr (by decide) (pa_cons (pv 0) pa_nil)))) pa_nil)) pa_nil)))))))), ?_⟩
  refine ⟨_, rfl, a, c, _, rfl, hh, by decide, by decide, fun n H1 n0 n1 hh1 k1 => ⟨rfl, _, rfl, tst (fun e => ?_) fun e => ?_⟩⟩
  · dsimp only [tSeq, tAsg, gName]
    refine ld_lst (a := a) (c := c) (K := K) (H0 := H1) (n := 4) (R := RT) (ya_cons (ye_str ⟨by decide +kernel, by decide +kernel⟩) (ya_cons (ye_str ⟨by decide +kernel, by decide +kernel⟩) (ya_cons (ye_str ⟨by decide +kernel, by decide +kernel⟩) (ya_cons (ye_str ⟨by decide +kernel, by decide +kernel⟩) ya_nil)))) hh1 .refl (by decide) fun L1 H2 hh2 k2 l2 => ?_
    refine ye_some (a := a) (c := c) (K := K) (H0 := H2) (R := RN) rfl (ya_cons (ye_str ⟨by decide +kernel, by decide +kernel⟩) (ya_cons (ye_str ⟨by decide +kernel, by decide +kernel⟩) (ya_cons (ye_str ⟨by decide +kernel, by decide +kernel⟩) (ya_cons (ye_str ⟨by decide +kernel, by decide +kernel⟩) ya_nil)))) (by decide) (by decide) H2 _ hh2 .refl fun v1 d1 H3 r1 hh3 k3 hd1 => ?_
    refine ye_somev (a := a) (c := c) (K := K) (H0 := H3) (R := RT) rfl rfl (l2.ky k3) (by decide) (by decide) H3 _ hh3 .refl fun v2 d2 H4 r2 hh4 k4 hd2 => ?_
    refine ⟨by show 2 ≤ sizeLine; rw [sizeLine_eq]; decide, fun p hp => ⟨by show 2 ≤ sizeLine; rw [sizeLine_eq]; decide, fun p2 hp2 => ?_⟩⟩
    have t1 := tris_new (ds := [d1, d2]) hh4.live hp (.cons (hd1.ky k4) (.cons hd2 .nil))
    have hh5 := hh4.same (same_up (o := .tup [v1, v2]) hp)
    have t2 := tris_new (ds := [.str "rule", .tuple [d1, d2]]) hh5.live hp2 (.cons (.str _) (.cons t1 .nil))
    exact q _ _ _ (rf_rule r1 r2) (hh5.same (same_up hp2)) (k1.trans (k2.trans (k3.trans (k4.trans ((keep_same (same_up hp)).trans (keep_same (same_up hp2))))))) t2
  · refine ye_some (a := a) (c := c) (K := K) (H0 := H1) (R := RM) rfl (ya_cons (ye_str ⟨_, rfl, by decide +kernel⟩) (ya_cons (ye_str ⟨_, rfl, by decide +kernel⟩) (ya_cons (ye_str ⟨_, rfl, by decide +kernel⟩) (ya_cons (ye_str ⟨_, rfl, by decide +kernel⟩) (ya_cons (ye_str ⟨_, rfl, by decide +kernel⟩) (ya_cons (ye_str ⟨_, rfl, by decide +kernel⟩) ya_nil)))))) (by decide) (by decide) H1 _ hh1 .refl fun v d H2 r hh2 k2 hd => ?_
    obtain ⟨x, rfl, hx⟩ := r
    cases dd_str hd
    refine fun p hp => ?_
    have np := hh2.live.ne hp
    refine ⟨_, rfl, a, c, _, rfl, hh2.same (same_up hp), by decide, by decide, fun n H3 n0 n1 hh3 k3 => ⟨_, _, rfl, rfl, k3 _ _ np upd_same, kvsOf n, rfl, (by show 5 ≤ 15; decide), ?_⟩⟩
    rw [kvs_merge]
    have s4 : Keep a H2 (upd H3 p (.dK (kvsOf n))) := fun b o nb e => by
      have e3 := k3 b o nb (same_up hp b o e)
      rw [upd_ne (ne_of_none e hp)]
      exact e3
    have hh4 : HandC (upd H3 p (.dK (kvsOf n))) a c := hh3.set np (fun z => by
      obtain ⟨cs, i, b, sd, m, y⟩ := hh3
      have h1 := y.cells
      rw [← z, k3 _ _ np upd_same] at h1
      cases h1)
    have a4 : (upd H3 p (.dK (kvsOf n))) p = some (.dK (kvsOf n)) := upd_same
    generalize upd H3 p (.dK (kvsOf n)) = H4 at s4 hh4 a4 ⊢
    obtain ⟨m, m0, m1, hm⟩ := kvs_get hx n0 n1
    refine ⟨_, rfl, p, .int m, rfl, by have := DGet.k (k := Sum.inr x) a4; rw [hm] at this; exact this, ?_⟩
    refine ⟨_, rfl, _, rfl, m, rfl, by omega, by omega, fun D hD => ?_⟩
    have nDa := hh4.live.ne hD
    have nDc := hh4.cne hD
    refine lc_range (n := m.toNat) (fun i H' => HandC H' a c ∧ Keep a H4 H' ∧ ∃ ds : List PyData, H' D = some (.lst (ds.map wv)) ∧ ds.length = i ∧ ∀ d ∈ ds, RW d) ⟨hh4.same (same_up hD), keep_same (same_up hD), [], upd_same, rfl, fun _ z => nomatch z⟩ (fun i H' hi z => ?_) (fun H' z => ?_)
    · obtain ⟨hh5, k5, ds, eD, el, en⟩ := z
      refine ⟨rfl, _, rfl, a, c, rfl, hh5, fun v d H6 r hh6 k6 hd => ?_⟩
      have eD6 := k6 _ _ nDa eD
      refine ⟨_, eD6, by rw [List.length_map, el, sizeLine_eq]; omega, hh6.set nDa nDc, fun b o nb e => by rw [upd_ne (ne_of_none e hD)]; exact (k5.trans k6) b o nb e, ds ++ [d], by rw [upd_same, List.map_append, rw_wv r hd]; rfl, by rw [List.length_append, el]; rfl, fun y hy => ?_⟩
      rcases List.mem_append.mp hy with hy | hy
      · exact en y hy
      · rw [List.mem_singleton.mp hy]
        exact r
    · obtain ⟨hh5, k5, ds, eD, el, en⟩ := z
      refine ⟨D, _, rfl, .inl ⟨SqL.of eD, fun l hl => ⟨by show 2 ≤ sizeLine; rw [sizeLine_eq]; decide, fun p2 hp2 => ?_⟩⟩⟩
      have t1 := tris_new (ds := ds) (a := a) (K := K) hh5.live hl (wv_all en)
      have hh6 := hh5.same (same_up (o := .tup (ds.map wv)) hl)
      have t2 := tris_new (ds := [.str x, .tuple ds]) hh6.live hp2 (.cons (.str _) (.cons t1 .nil))
      exact q _ _ _ (rf_row hx (by omega) (by omega) en) (hh6.same (same_up hp2)) (k1.trans (k2.trans (s4.trans (k5.trans ((keep_same (same_up hl)).trans (keep_same (same_up hp2))))))) t2
/-! ### _law_text -/
abbrev sTextD : Stmt := top 51
def signs12 : List Str := [" ", "~", "'", "a", "Z", "0", "\n", "_", "!", "}", ",", "("]
theorem scTextD : FnScope ["hand", "signs", "many", "turn"] ["hand"] (defScope sTextD) := ⟨rfl, rfl, rfl, by decide +kernel, rfl, by decide +kernel, by decide +kernel⟩
def RX (d : PyData) : Prop := ∃ x : Str, d = .str x ∧ textD d = true ∧ x.length ≤ 2000
def RI (d : PyData) : Prop := ∃ i : Int, d = .int i ∧ 0 ≤ i ∧ i ≤ 2000
theorem join_text {ys : List Str} (h : ∀ y ∈ ys, y.length = 1 ∧ textD (.str y) = true) (hl : ys.length ≤ 2000) : RX (.str (Txt.join ("" : Str) ys)) := by
  refine ⟨_, rfl, List.all_eq_true.mpr fun c hc => ?_, ?_⟩
  · cases ys with
    | nil =>
      have e : (Txt.join ("" : Str) []).cps.toList = [] := rfl
      rw [e] at hc
      cases hc
    | cons p r =>
      have e : (Txt.join ("" : Str) (p :: r)).cps.toList = StrLaws.glueT ("" : Str).cps.toList (p :: r) := StrLaws.glued_list _ p r
      rw [e] at hc
      unfold StrLaws.glueT at hc
      rcases List.mem_append.mp hc with hc | hc
      · exact List.all_eq_true.mp (h p List.mem_cons_self).2 c hc
      · rcases mem_glue hc with hc | ⟨q, h1, h2⟩
        · rw [show (("" : Str)).cps.toList = [] from by decide] at hc
          cases hc
        · exact List.all_eq_true.mp (h q (List.mem_cons_of_mem _ h1)).2 c h2
  · rw [TL.join_eq]
    have h1 := StrLaws.join_length_le ("" : Str) ys
    have h2 := sumLen_of_ones ys fun y hy => (h y hy).1
    rw [h2, show (("" : Str)).length = 0 from by decide, Nat.mul_zero] at h1
    omega
theorem ok_textD {f : Addr} {fd : FuncData} (F : FnP K "_law_text" sTextD f fd) (M : Nm mg) (DD : DDraw P w K mg base) (DS : DSome P w K mg base) : FnOk P w K mg base CX0 3 f fd ["hand"] (spY K RX) := by
  refine F.ok scTextD spY_len (fun cdv A outer s H vs Q E hr h => ?_)
  obtain ⟨a, c, rfl, hh, q⟩ := h
  refine ⟨_, PSs.nox (pss_cons (ps_set (i := 1) scTextD.nd rfl (Or.inr rfl) (pe_lst (pa_cons pe_str (pa_cons pe_str (pa_cons pe_str (pa_cons pe_str (pa_cons pe_str (pa_cons pe_str (pa_cons pe_str (pa_cons pe_str (pa_cons pe_str (pa_cons pe_str (pa_cons pe_str (pa_cons pe_str pa_nil))))))))))))))
      (pss_cons (ps_set (i := 2) scTextD.nd rfl (Or.inl rfl) (pe_ifExp (pt_cmpR op_eq (pe_df DD hr (by decide) (pa_cons (pv 0) (pa_cons pe_int pa_nil))) pe_int (nomark _)) (pe_df DS hr (by decide) (pa_cons (pv 0) (pa_cons (pe_lst (pa_cons pe_int (pa_cons pe_int (pa_cons pe_int (pa_cons pe_int (pa_cons pe_int pa_nil)))))) pa_nil))) (pe_df DD hr (by decide) (pa_cons (pv 0) (pa_cons pe_int pa_nil)))))
      (pss_one (ps_ret (pe_join pe_str (pe_lc (own := [("turn", 3)]) (g := gName 3) (tt := tYes) (by rfl) scTextD.nd (pi_range1 (by rfl) M.range (pa_cons (pv 2) pa_nil)) (blkOk_by (N := ["hand", "signs", "many", "turn"]) (sc := defScope sTextD) (by decide +kernel)) (fun _ _ _ _ _ => pg_name (i := 3) scTextD.nd rfl (Or.inl rfl)) (fun _ _ _ _ _ => pts_nil) (fun _ _ _ _ _ => (pe_df DS hr (by decide) (pa_cons (pv 0) (pa_cons (pv 1) pa_nil)))))))))), ?_⟩
  refine ⟨by show 12 ≤ sizeLine; rw [sizeLine_eq]; decide, fun L hL => ?_⟩
  have nL := hh.live.ne hL
  have aL : (upd H L (.lst (signs12.map V.str))) L = some (.lst (signs12.map V.str)) := upd_same
  have sL : Same H (upd H L (.lst (signs12.map V.str))) := same_up hL
  show tSeq _ _ _ _ (upd H L (.lst (signs12.map V.str)))
  generalize upd H L (.lst (signs12.map V.str)) = H1 at aL sL ⊢
  have hh1 := hh.same sL
  refine ye_ifd (a := a) (c := c) (K := K) (H0 := H1) (R := RI) (m := 4) (yd_draw rfl yi_c (by decide) (by decide)) (ye_some rfl (ya_cons (ye_int yi_c ⟨_, rfl, by decide, by decide⟩) (ya_cons (ye_int yi_c ⟨_, rfl, by decide, by decide⟩) (ya_cons (ye_int yi_c ⟨_, rfl, by decide, by decide⟩) (ya_cons (ye_int yi_c ⟨_, rfl, by decide, by decide⟩) (ya_cons (ye_int yi_c ⟨_, rfl, by decide, by decide⟩) ya_nil)))))) (ye_draw (m := 9) (yd_draw rfl yi_c (by decide) (by decide)) fun d d0 d1 => ⟨d, rfl, d0, by omega⟩) H1 _ hh1 .refl fun v d H3 r hh3 k3 hd => ?_
  obtain ⟨m, rfl, m0, m1⟩ := r
  cases dd_int hd
  refine ⟨⟨_, rfl⟩, _, rfl, m, rfl, by omega, by omega, fun D hD => ?_⟩
  have nDa := hh3.live.ne hD
  have nDc := hh3.cne hD
  have aL3 := k3 _ _ nL aL
  have nDL : L ≠ D := ne_of_none aL3 hD
  refine lc_range (n := m.toNat) (fun i H' => HandC H' a c ∧ Keep a H3 H' ∧ ∃ ys : List Str, H' D = some (.lst (ys.map V.str)) ∧ ys.length = i ∧ ∀ y ∈ ys, y.length = 1 ∧ textD (.str y) = true) ⟨hh3.same (same_up hD), keep_same (same_up hD), [], upd_same, rfl, fun _ z => nomatch z⟩ (fun i H' hi z => ?_) (fun H' z => ?_)
  · obtain ⟨hh5, k5, ys, eD, el, en⟩ := z
    refine ⟨rfl, _, rfl, _, rfl, a, c, L, signs12.map V.str, rfl, hh5, nL, SqL.of (k5 _ _ nL aL3), by decide, by decide, fun x H6 hx hh6 k6 => ?_⟩
    obtain ⟨y, hy, rfl⟩ := List.mem_map.mp hx
    have hy2 := (by decide +kernel : ∀ y ∈ signs12, y.length = 1 ∧ textD (.str y) = true) y hy
    have eD6 := k6 _ _ nDa eD
    refine ⟨_, eD6, by rw [List.length_map, el, sizeLine_eq]; omega, hh6.set nDa nDc, fun b o nb e => by rw [upd_ne (ne_of_none e hD)]; exact (k5.trans k6) b o nb e, ys ++ [y], by rw [upd_same, List.map_append]; rfl, by rw [List.length_append, el]; rfl, fun z hz => ?_⟩
    rcases List.mem_append.mp hz with hz | hz
    · exact en z hz
    · rw [List.mem_singleton.mp hz]
      exact hy2
  · obtain ⟨hh5, k5, ys, eD, el, en⟩ := z
    have r := join_text en (by omega)
    refine ⟨_, D, ys, rfl, rfl, .inl (SqL.of eD), ?_, ?_⟩
    · rw [sumLen_of_ones ys fun y hy => (en y hy).1, show (("" : Str)).length = 0 from by decide]
      omega
    · exact q _ _ H' r hh5 ((keep_same sL).trans (k3.trans k5)) (.str _)
end
end Sm
namespace Sm
open PySem PySem.Spec PyProof.Rows L2 Vd
section
variable {P : Program} {w : World} {K : PySem.W.Frag} {mg : Str → Option Value} {base : Heap}
abbrev sBent : Stmt := top 46
theorem scBent : FnScope ["hand", "fact", "name", "row", "at", "thing", "things"] ["hand", "fact"] (defScope sBent) := ⟨rfl, rfl, rfl, by decide +kernel, rfl, by decide +kernel, by decide +kernel⟩
def spBent (K : PySem.W.Frag) : Sp := fun vs H Q _ => ∃ (a c : Addr) (v : V) (d : PyData), vs = [.ref a, v] ∧ HandC H a c ∧ Dv a K H v d ∧ RF d ∧ ∀ v' d' H', Ok d' → HandC H' a c → Keep a H H' → Dv a K H' v' d' → Q v' H'
theorem fact_ne {n : Str} {ws : List PyData} (h : factD (.tuple [.str n, .tuple ws]) = true) : 1 ≤ ws.length ∧ (isR (.str n) = true → ∃ t x, ws = [t, x]) := by
  obtain ⟨h1, h2⟩ := Bool.and_eq_true_iff.mp (show (nameD (.str n) && (if isR (.str n) = true then ruleD (.tuple ws) else rowD (.tuple ws))) = true from h)
  cases hr : isR (.str n) with
  | true =>
    rw [hr, if_pos rfl] at h2
    cases hq : tupOfD 2 2 (.tuple ws) with
    | false =>
      rw [(no2 hq).2] at h2
      cases h2
    | true =>
      obtain ⟨t, x, e⟩ := tup2 hq
      injection e with e
      subst e
      exact ⟨by show 1 ≤ 2; decide, fun _ => ⟨t, x, rfl⟩⟩
  | false =>
    rw [hr, if_neg Bool.false_ne_true] at h2
    obtain ⟨h3, h4⟩ := Bool.and_eq_true_iff.mp (show ((decide ((1 : Int) ≤ (ws.length : Int)) && decide ((ws.length : Int) ≤ 5)) && ws.all worthD) = true from h2)
    have h5 := of_decide_eq_true (Bool.and_eq_true_iff.mp h3).1
    exact ⟨by omega, fun z => nomatch z⟩
theorem ok_bent {f : Addr} {fd : FuncData} (F : FnP K "_law_bent_fact" sBent f fd) (M : Nm mg) (DD : DDraw P w K mg base) (DS : DSome P w K mg base) (DO : DY P w K mg base "_law_odd" 3 Ok) : FnOk P w K mg base CX0 4 f fd ["hand", "fact"] (spBent K) := by
  refine F.ok scBent (fun vs H Q E h => ?_) (fun cdv A outer s H vs Q E hr h => ?_)
  · obtain ⟨a, c, v, d, rfl, _⟩ := h
    rfl
  obtain ⟨a, c, v, d, rfl, hh, hd, ⟨hf, ok⟩, q⟩ := h
  obtain ⟨n, ws, rfl, h8, _, h5, lf⟩ := fact_parts ok hf
  obtain ⟨n1, nr⟩ := fact_ne hf
  obtain ⟨on, ow⟩ := ok_two ok
  obtain ⟨_, oa⟩ := ok_tup ow
  obtain ⟨_, of_⟩ := ok_tup ok
  obtain ⟨p, u1, u2, rfl, h0, g1, g2⟩ := dd_two hd
  cases dd_str g1
  obtain ⟨p2, xs, rfl, t2, hx⟩ := ofTup' g2
  have hxl := dall_len hx
  refine ⟨_, PSs.nox (pss_cons (ps_asg (pv 1) (pg_tup rfl (pgs_cons (pg_name (i := 2) scBent.nd rfl (Or.inl rfl)) (pgs_cons (pg_name (i := 3) scBent.nd rfl (Or.inl rfl)) pgs_nil))))
      (pss_cons (ps_if (pt_cmpR op_eq (pv 2) pe_str (nomark _)) (pss_one (ps_ret (pe_df DS hr (by decide) (pa_cons (pv 0) (pa_cons (pe_lst (pa_cons (pe_callTy (r := rLof K) call_lof (by rfl) M.list (by decide +kernel) (pa_cons (pv 1) pa_nil)) (pa_cons (pe_tup (pa_cons (pv 2) (pa_cons (pe_callTy (r := rLof K) call_lof (by rfl) M.list (by decide +kernel) (pa_cons (pv 3) pa_nil)) pa_nil))) (pa_cons (pe_tup (pa_cons (pv 2) (pa_cons (pe_tup (pa_cons (pe_ix ix_tup (pv 3) pe_int (fun _ _ => rfl)) (pa_cons pe_non pa_nil))) pa_nil))) (pa_cons (pe_tup (pa_cons (pv 2) (pa_cons (pe_tup pa_nil) pa_nil))) (pa_cons (pe_df DO hr (by decide) (pa_cons (pv 0) pa_nil)) pa_nil)))))) pa_nil))))) pss_nil)
      (pss_cons (ps_par (i := 4) (j := 5) (by rfl) scBent.nd rfl rfl (by decide) rfl rfl (pa_cons (pe_df DD hr (by decide) (pa_cons (pv 0) (pa_cons (pe_callB call_len_seq (by rfl) M.len PySem.boot_len (pa_cons (pv 3) pa_nil)) pa_nil))) (pa_cons (pe_df DS hr (by decide) (pa_cons (pv 0) (pa_cons (pe_lst (pa_cons pe_bl (pa_cons pe_non (pa_cons (pe_op (r := rMulS) op_mulS pe_str pe_int) (pa_cons (pe_lst (pa_cons pe_str pa_nil)) (pa_cons (pe_tup (pa_cons pe_str pa_nil)) (pa_cons pe_str (pa_cons pe_str (pa_cons pe_int pa_nil))))))))) pa_nil))) pa_nil)) (by rfl))
      (pss_cons (ps_set (i := 6) scBent.nd rfl (Or.inl rfl) (pe_lst (pa_cons (pe_tup (pa_cons (pv 2) (pa_cons (pe_op (r := rCatA K) op_catA (pe_op (r := rCatA K) op_catA (pe_slice (r := rSlA K) sl_tupA (pv 3) po_none (po_some (pv 4))) (pe_tup (pa_cons (pv 5) pa_nil))) (pe_slice (r := rSlA K) sl_tupA (pv 3) (po_some (pe_op op_add (pv 4) pe_int)) po_none)) pa_nil))) (pa_cons (pe_tup (pa_cons (pv 2) (pa_cons (pe_tup pa_nil) pa_nil))) (pa_cons (pe_tup (pa_cons (pv 2) (pa_cons (pe_op (r := rRepT K) op_repT (pv 3) pe_int) pa_nil))) (pa_cons (pe_callTy (r := rLof K) call_lof (by rfl) M.list (by decide +kernel) (pa_cons (pv 1) pa_nil)) (pa_cons (pe_tup (pa_cons (pe_upper (pv 2)) (pa_cons (pv 3) pa_nil))) pa_nil)))))))
      (pss_cons (ps_set (i := 6) scBent.nd rfl (Or.inl rfl) (pe_op op_cat (pv 6) (pe_lst (pa_cons (pe_tup (pa_cons (pe_op op_add_str (pv 2) pe_str) (pa_cons (pv 3) pa_nil))) (pa_cons (pe_tup (pa_cons pe_str (pa_cons (pv 3) pa_nil))) (pa_cons (pe_tup (pa_cons (pv 2) (pa_cons (pe_callTy (r := rLof K) call_lof (by rfl) M.list (by decide +kernel) (pa_cons (pv 3) pa_nil)) pa_nil))) (pa_cons (pe_op (r := rCatA K) op_catA (pv 1) (pe_tup (pa_cons pe_int pa_nil))) (pa_cons (pe_tup (pa_cons pe_int (pa_cons (pv 3) pa_nil))) (pa_cons (pe_df DO hr (by decide) (pa_cons (pv 0) pa_nil)) pa_nil)))))))))
      (pss_one (ps_ret (pe_df DS hr (by decide) (pa_cons (pv 0) (pa_cons (pv 6) pa_nil)))))))))), ?_⟩
  refine ⟨_, rfl, p, _, rfl, (tupN_vis h0).sq, rfl, _, _, rfl, _, _, rfl, rfl, ?_⟩
  refine ⟨_, rfl, rfl, _, rfl, tst (fun e => ?_) fun e => ?_⟩
  · have ei : isR (.str n) = true := by
      have h1 := of_decide_eq_true e
      injection h1 with h1
      exact decide_eq_true h1
    obtain ⟨t, x, rfl⟩ := nr ei
    have ot : Ok t := okAll_mem oa List.mem_cons_self
    exact ye_some (a := a) (c := c) (K := K) (H0 := H) (R := Ok) rfl (ya_cons (ye_list rfl hd (by show 2 ≤ 4000; decide) of_) (ya_cons (ye_tup (ya_cons (ye_var rfl (.str n) on) (ya_cons (ye_list rfl g2 (by omega) oa) ya_nil))) (ya_cons (ye_tup (ya_cons (ye_var rfl (.str n) on) (ya_cons (ye_tup (ya_cons (ye_ix0 rfl g2 ot) (ya_cons (ye_non (by decide +kernel)) ya_nil))) ya_nil))) (ya_cons (ye_tup (ya_cons (ye_var rfl (.str n) on) (ya_cons (ye_tup ya_nil) ya_nil))) (ya_cons (ye_call rfl) ya_nil))))) (by decide) (by decide) H _ hh .refl q
  · refine ⟨_, rfl, _, rfl, p2, _, rfl, .inr (tupN_vis t2).sq, a, c, _, rfl, hh, by omega, by omega, fun at_ H1 at0 at1 hh1 k1 => ?_⟩
    refine ye_some (a := a) (c := c) (K := K) (H0 := H1) (R := Ok) rfl (ya_cons (ye_bl (by decide +kernel)) (ya_cons (ye_non (by decide +kernel)) (ya_cons (ye_mulS (by decide) (ye_int yi_c ⟨21, rfl, by decide, by decide, by decide +kernel⟩)) (ya_cons (ye_lst (ya_cons (ye_str (by decide +kernel)) ya_nil)) (ya_cons (ye_tup (ya_cons (ye_str (by decide +kernel)) ya_nil)) (ya_cons (ye_str (by decide +kernel)) (ya_cons (ye_str (by decide +kernel)) (ya_cons (ye_int yi_c (by decide +kernel)) ya_nil)))))))) (by decide) (by decide) H1 _ hh1 .refl fun vt dt H2 rt hh2 k2 hdt => ⟨_, _, rfl, ?_⟩
    have k02 := k1.trans k2
    have hd2 : Dv a K H2 (.ref p) (.tuple [.str n, .tuple ws]) := hd.ky k02
    have g22 : Dv a K H2 (.ref p2) (.tuple ws) := Dv.ky g2 k02
    dsimp only [tSeq, tAsg, gName]
    show tLst _ [some (.ref a), some (.ref p), some (.str n), some (.ref p2), some (.int at_), some vt, none] H2 _
    refine ld_lst (a := a) (c := c) (K := K) (H0 := H2) (n := 5) (R := Ok) (ya_cons (ye_tup (ya_cons (ye_var rfl (.str n) on) (ya_cons (yt_e (yt_cat (yt_cat (yt_sl (yt_var (m := 5) rfl g22 h5 oa) yo_no (yo_some (yi_var rfl))) (yt_tup (ya_cons (ye_var rfl hdt rt) ya_nil))) (yt_sl (yt_var (m := 5) rfl g22 h5 oa) (yo_some (yi_add (yi_var rfl) yi_c)) yo_no))) ya_nil))) (ya_cons (ye_tup (ya_cons (ye_var rfl (.str n) on) (ya_cons (ye_tup ya_nil) ya_nil))) (ya_cons (ye_tup (ya_cons (ye_var rfl (.str n) on) (ya_cons (yt_e (yt_rep (m := 5) (k := 6) yi_c (by decide) (by decide) (by decide) fun H' Q' hh' k' q' => ⟨_, rfl, q' _ ws H' (fun z => by rw [z] at n1; exact absurd n1 (by decide)) h5 oa hh' .refl (g22.ky k')⟩) (by decide)) ya_nil))) (ya_cons (ye_list rfl hd2 (by show 2 ≤ 4000; decide) of_) (ya_cons (ye_tup (ya_cons (ye_upper rfl (by omega)) (ya_cons (ye_var rfl g22 ow) ya_nil))) ya_nil))))) hh2 .refl (by decide) fun L1 H3 hh3 k3 l3 => ?_
    show tOp rCat (tVar 6) (tLst _) [some (.ref a), some (.ref p), some (.str n), some (.ref p2), some (.int at_), some vt, some (.ref L1)] H3 _
    have hd3 := hd2.ky k3
    have g23 := g22.ky k3
    refine ld_cat (a := a) (c := c) (K := K) (H0 := H3) (n := 5) (m := 6) rfl l3 (ya_cons (ye_tup (ya_cons (ye_addS rfl (by omega) (by decide)) (ya_cons (ye_var rfl g23 ow) ya_nil))) (ya_cons (ye_tup (ya_cons (ye_str (by decide +kernel)) (ya_cons (ye_var rfl g23 ow) ya_nil))) (ya_cons (ye_tup (ya_cons (ye_var rfl (.str n) on) (ya_cons (ye_list rfl g23 (by omega) oa) ya_nil))) (ya_cons (yt_e (yt_cat (yt_var (m := 2) rfl hd3 (by show 2 ≤ 2; decide) of_) (yt_tup (ya_cons (ye_int yi_c (by decide +kernel)) ya_nil)))) (ya_cons (ye_tup (ya_cons (ye_int yi_c (by decide +kernel)) (ya_cons (ye_var rfl g23 ow) ya_nil))) (ya_cons (ye_call rfl) ya_nil)))))) hh3 .refl (by decide) fun L2 H4 hh4 k4 l4 => ?_
    exact ye_somev (a := a) (c := c) (K := K) (H0 := H4) (σ := [some (.ref a), some (.ref p), some (.str n), some (.ref p2), some (.int at_), some vt, some (.ref L2)]) (R := Ok) rfl rfl l4 (by decide) (by decide) H4 _ hh4 .refl fun v d H5 r hh5 k5 hd => q v d H5 r hh5 (k02.trans (k3.trans (k4.trans k5))) hd
end
end Sm
namespace Hd
open PySem PySem.Spec PyProof.Rows L2
/-! ### counts of flat values -/
def rCntF (K : PySem.W.Frag) : V → List V → Hp → VK → Prop := fun x xs H Q => ∃ (p : Addr) (zs : List V) (k : V), x = .ref p ∧ xs = [k] ∧ SqL K H p zs ∧ flatV k = true ∧ zs.all flatV = true ∧ Q (.int ((zs.countP fun y => eqV y k : Nat) : Int)) H
theorem countP_eqU {x : V} : ∀ {xs : List V} {us : List Value}, Vals xs us → xs.all flatV = true → us.countP (eqU x) = xs.countP fun y => eqV y x
  | _, _, .nil, _ => rfl
  | y :: xs, u :: us, .cons r t, f => by
    rw [List.all_cons, Bool.and_eq_true] at f
    rw [List.countP_cons, List.countP_cons, eqU_of r f.1, countP_eqU t f.2]
theorem mt_countF {X : Cx} : MtR X "list.count" (rCntF X.K) := by
  intro pins s σ H x xs v us Q I rx rxs h
  obtain ⟨p, zs, k, rfl, rfl, hs, fk, fz, q⟩ := h
  cases rx
  obtain ⟨u, rfl, ru⟩ := rxs.one
  obtain ⟨its, rv, ⟨⟨cls, dd, data, sl⟩, n, ho, hc, hdn, hd⟩, hlen⟩ := I.list hs
  simp only at hc hd
  subst hc hd
  refine call_meets PySem.F.slot_list_count ⟨_, ho, rfl⟩ PySem.F.entry_list_count (PySem.F.args_list_count_2 _ _)
    (SeqAt.list_countAt p its.toArray n dd sl u (eqU k)) ⟨ho, fun y hy => mem_eqAt ru fk rv fz y (by simpa using hy), ?_⟩
  have ec : its.toArray.toList.countP (eqU k) = zs.countP fun y => eqV y k := countP_eqU rv fz
  refine ⟨.int ((zs.countP fun y => eqV y k : Nat) : Int), H, I.tok _, ⟨s.toks, ?_⟩, q⟩
  rw [← ec]
end Hd
namespace Sm
open PySem PySem.Spec PyProof.Rows L2 Vd Xv LamX
/-! ### _law_is of two equal numbers, or texts -/
abbrev sIs : Stmt := top 50
theorem scIs : FnScope ["told", "due", "one", "two"] ["told", "due"] (defScope sIs) := ⟨rfl, rfl, rfl, by decide +kernel, rfl, by decide +kernel, by decide +kernel⟩
def spIs : Sp := fun vs H Q _ => ((∃ i : Int, vs = [.int i, .int i]) ∨ ∃ x : Str, vs = [.str x, .str x]) ∧ ∀ H', Same H H' → Q (.bl true) H'
section
variable {P : Program} {w : World} {K : PySem.W.Frag} {mg : Str → Option Value} {base : Heap}
theorem kTL {K : PySem.W.Frag} (d : PyData) : PySem.W.kitAny K (.type (tyD d)) [.type "tuple", .type "list"] = some (isT d || isL d) := by
  refine kitAny_cons (kit_ty (kT d)) (fun e => ?_) (fun e => by rw [e]; rfl)
  rw [e, Bool.false_or]
  refine kitAny_cons (kit_ty (kL d)) (fun e2 => ?_) (fun e2 => e2)
  rw [e2]
  rfl
theorem ok_is {f : Addr} {fd : FuncData} (F : FnP K "_law_is" sIs f fd) (M : Nm mg) : FnOk P w K mg base CX0 1 f fd ["told", "due"] spIs := by
  refine F.ok scIs (fun vs H Q E h => ?_) (fun cdv A outer s H vs Q E hr h => ?_)
  · obtain ⟨⟨i, rfl⟩ | ⟨x, rfl⟩, _⟩ := h <;> rfl
  obtain ⟨h, q⟩ := h
  refine ⟨_, PSs.nox (pss_cons (ps_if (pt_val (pe_callB (id := "isinstance") (r := rIsiT K) call_isiT (by rfl) M.isinstance (by decide +kernel) (pa_cons (pv 1) (pa_cons (pe_tup (pa_cons (ty_cls (n := "tuple") M.tuple (by rfl) (by decide +kernel)) (pa_cons (ty_cls (n := "list") M.list (by rfl) (by decide +kernel)) pa_nil))) pa_nil)))) (pss_cons ps_never (pss_one ps_never)) pss_nil)
      (pss_cons (ps_if (PW.pt (pw_or (pt_val (pe_callB (id := "isinstance") (r := rIsi K) call_isi (by rfl) M.isinstance (by decide +kernel) (pa_cons (pv 1) (pa_cons (ty_cls (n := "str") M.str (by rfl) (by decide +kernel)) pa_nil)))) (pw_or1 (pt_cmpR op_isN (pv 1) pe_non (nomark _))))) (pss_one (ps_ret (pe_and (pe_cmpR op_eq (pe_callB (id := "isinstance") (r := rIsi K) call_isi (by rfl) M.isinstance (by decide +kernel) (pa_cons (pv 0) (pa_cons (ty_cls (n := "str") M.str (by rfl) (by decide +kernel)) pa_nil))) (pe_callB (id := "isinstance") (r := rIsi K) call_isi (by rfl) M.isinstance (by decide +kernel) (pa_cons (pv 1) (pa_cons (ty_cls (n := "str") M.str (by rfl) (by decide +kernel)) pa_nil))) (nomark _)) (pe_one (pe_cmpR op_eq (pv 0) (pv 1) (nomark _)))))) pss_nil)
      (pss_one (ps_ret (pe_and (pe_callB (id := "isinstance") (r := rIsi K) call_isi (by rfl) M.isinstance (by decide +kernel) (pa_cons (pv 0) (pa_cons (ty_cls (n := "int") M.int (by rfl) (by decide +kernel)) pa_nil))) (pe_and (pe_cmpR op_eq (pe_callB (id := "isinstance") (r := rIsi K) call_isi (by rfl) M.isinstance (by decide +kernel) (pa_cons (pv 0) (pa_cons (ty_cls (n := "bool") M.bool (by rfl) (by decide +kernel)) pa_nil))) (pe_callB (id := "isinstance") (r := rIsi K) call_isi (by rfl) M.isinstance (by decide +kernel) (pa_cons (pv 1) (pa_cons (ty_cls (n := "bool") M.bool (by rfl) (by decide +kernel)) pa_nil))) (nomark _)) (pe_one (pe_cmpR op_eq (pv 0) (pv 1) (nomark _))))))))), ?_⟩
  rcases h with ⟨i, rfl⟩ | ⟨x, rfl⟩
  · have d := Dd.int (K := K) (H := H) i
    refine ⟨_, rfl, by show 2 ≤ sizeLine; rw [sizeLine_eq]; decide, fun tp htp => ⟨_, tp, [.ty "tuple", .ty "list"], _, _, _, rfl, upd_same, .cons (.ty _) (.cons (.ty _) .nil), tyx (d.same (same_up htp)), kTL (.int i), _, rfl, iteF ?_⟩⟩
    have s1 : Same H (upd H tp (.tup [.ty "tuple", .ty "list"])) := same_up htp
    generalize upd H tp (.tup [.ty "tuple", .ty "list"]) = H1 at s1 ⊢
    have d1 := d.same s1
    refine ⟨_, rfl, _, _, _, _, _, rfl, .ty _, tyx d1, kit_ty (kS (.int i)), _, rfl, iteF ⟨_, rfl, rfl, _, rfl, iteF ?_⟩⟩
    refine ⟨_, rfl, _, _, _, _, _, rfl, .ty _, tyx d1, kit_ty (kI (.int i)), _, rfl, iteT ⟨_, rfl, _, _, _, _, _, rfl, .ty _, tyx d1, kit_ty (kB (.int i)), _, rfl, _, _, _, _, _, rfl, .ty _, tyx d1, kit_ty (kB (.int i)), rfl, _, rfl, ?_⟩⟩
    refine iteT ⟨_, rfl, _, rfl, rfl, ?_⟩
    rw [show decide (V.int i = V.int i) = true from decide_eq_true rfl]
    exact q _ s1
  · have d := Dd.str (K := K) (H := H) x
    refine ⟨_, rfl, by show 2 ≤ sizeLine; rw [sizeLine_eq]; decide, fun tp htp => ⟨_, tp, [.ty "tuple", .ty "list"], _, _, _, rfl, upd_same, .cons (.ty _) (.cons (.ty _) .nil), tyx (d.same (same_up htp)), kTL (.str x), _, rfl, iteF ?_⟩⟩
    have s1 : Same H (upd H tp (.tup [.ty "tuple", .ty "list"])) := same_up htp
    generalize upd H tp (.tup [.ty "tuple", .ty "list"]) = H1 at s1 ⊢
    have d1 := d.same s1
    refine ⟨_, rfl, _, _, _, _, _, rfl, .ty _, tyx d1, kit_ty (kS (.str x)), _, rfl, iteT (iteT ?_)⟩
    refine ⟨_, rfl, _, _, _, _, _, rfl, .ty _, tyx d1, kit_ty (kS (.str x)), _, rfl, _, _, _, _, _, rfl, .ty _, tyx d1, kit_ty (kS (.str x)), rfl, _, rfl, ?_⟩
    refine iteT ⟨_, rfl, _, rfl, rfl, ?_⟩
    rw [show decide (V.str x = V.str x) = true from decide_eq_true rfl]
    exact q _ s1
/-! ### what a call told: a pair, or the word of the error -/
def oV : Option Str → V
  | none => .non
  | some x => .str x
def TD (o : Option Str) (H : Hp) (u : V) : Prop := match o with
  | some x => u = .str x
  | none => ∃ (p : Addr) (v : V), u = .ref p ∧ H p = some (.tup [.str "let", v])
theorem TD.same {o : Option Str} {H H' : Hp} {u : V} (h : TD o H u) (s : Same H H') : TD o H' u := by
  cases o with
  | some x => exact h
  | none => exact h.imp fun p z => z.imp fun v z => ⟨z.1, s _ _ z.2⟩
abbrev sIsDue : Stmt := top 53
def spIsDue : Sp := fun vs H Q _ => ∃ (u : V) (o : Option Str), vs = [u, oV o] ∧ TD o H u ∧ Q (.bl true) H
theorem scIsDue : FnScope ["told", "due"] ["told", "due"] (defScope sIsDue) := ⟨rfl, rfl, rfl, by decide +kernel, rfl, by decide +kernel, by decide +kernel⟩
theorem ok_isDue {f : Addr} {fd : FuncData} (F : FnP K "_law_is_due" sIsDue f fd) : FnOk P w K mg base CX0 1 f fd ["told", "due"] spIsDue := by
  refine F.ok scIsDue (fun vs H Q E h => ?_) (fun cdv A outer s H vs Q E hr h => ?_)
  · obtain ⟨u, o, rfl, _⟩ := h
    rfl
  obtain ⟨u, o, rfl, t, q⟩ := h
  refine ⟨_, PSs.nox (pss_one (ps_ret (pe_ifExp (pt_cmpR op_isN (pv 1) pe_non (nomark _)) (pe_cmpR op_eq (pe_ix ix_tup (pv 0) pe_int (fun _ _ => rfl)) pe_str (nomark _)) (pe_cmpR op_eq (pv 0) (pv 1) (nomark _))))), ?_⟩
  cases o with
  | none =>
    obtain ⟨p, v, rfl, hp⟩ := t
    exact ⟨_, rfl, rfl, _, rfl, iteT ⟨_, rfl, p, _, _, _, rfl, rfl, .inl (.inl hp), atI_nat (j := 0) rfl, rfl, q⟩⟩
  | some x =>
    cases t
    refine ⟨_, rfl, rfl, _, rfl, iteF ⟨_, rfl, _, rfl, rfl, ?_⟩⟩
    have e : decide (V.str x = oV (some x)) = true := decide_eq_true rfl
    rw [e]
    exact q
end
/-! ### _law_word -/
abbrev sLWord : Stmt := top 52
theorem scLWord : FnScope ["call", "error", "some"] ["call"] (defScope sLWord) := ⟨rfl, rfl, rfl, by decide +kernel, rfl, by decide +kernel, by decide +kernel⟩
/-- what the classes say of an error of one of the three classes -/
structure Cf (K : PySem.W.Frag) (mg : Str → Option Value) (CP CT CF : Addr) : Prop where
  exc : ∀ C ∈ [CP, CT, CF], ExcC K C
  view : ∃ V, mg "ViewError" = some (.ref V) ∧ ∀ C ∈ [CP, CT, CF], PySem.W.exmOne K (.ref C) (.ref V) = some true
  gP : mg "NoPrime" = some (.ref CP)
  gT : mg "NoText" = some (.ref CT)
  gF : mg "NoFact" = some (.ref CF)
  kit : ∀ C ∈ [CP, CT, CF], ∀ D ∈ [CP, CT, CF], PySem.W.kitOne K (.ref C) (.ref D) = some (decide (C = D))
  nd : [CP, CT, CF].Nodup
/-- of what a lambda does: the pair, or the word of the class that it raises -/
def TTw (CP CT CF : Addr) : (XK → Hp → VK → Prop) → Hp → VK → Prop := fun tl H Q => tl (fun cls d H' => ∃ C x, ((C, x) ∈ [(CP, ("prime" : Str)), (CT, "text"), (CF, "fact")] ∧ cls = .ref C ∧ d = none) ∧ ∀ H'', Same H' H'' → Q (.str x) H'') H
  fun v H1 => 2 ≤ sizeLine ∧ ∀ p, H1 p = none → Q (.ref p) (upd H1 p (.tup [.str "let", v]))
theorem takes_len {X : Cx} {W : WX} (t : Takes X W) : Takes X (fun cls d σ H => σ.length = X.N.length → W cls d σ H) := fun u s' ⟨a, B, sI, pins, σ, H, cls, d, e, I, nb, up, sky, na, os, ag, w⟩ => t u s' ⟨a, B, sI, pins, σ, H, cls, d, e, I, nb, up, sky, na, os, ag, w I.len⟩
theorem guardE {α : Type} {X : Cx} {sts : List Stmt} {p : α → Prop} {t : α → TS} (h : ∀ x, p x → PSs X sts (t x)) : PSs X sts (fun D σ H => ∃ x, p x ∧ t x D σ H) := ⟨fun pins s σ H D I z => z.elim fun x z => (h x z.1).run pins s σ H D I z.2⟩
def tSuite (K : PySem.W.Frag) (CP CT CF a C : Addr) : TS :=
  tSeq (tAsg (tLst (tCons (tCB (rIsE K C a) (tCons (tVar 1) (tCons (tC (.ref CP)) tNil))) (tCons (tCB (rIsE K C a) (tCons (tVar 1) (tCons (tC (.ref CT)) tNil))) (tCons (tCB (rIsE K C a) (tCons (tVar 1) (tCons (tC (.ref CF)) tNil))) tNil)))) (gName 2))
  (tSeq (tRet (tIf (tTest (tOp rEq (tBM K "list" (Hd.rCntF K) (tVar 2) (tCons (tC (.bl true)) tNil)) (tC (.int 1)))) (tOp (rIxL K) (tLst (tCons (tC (.str "prime")) (tCons (tC (.str "text")) (tCons (tC (.str "fact")) tNil)))) (tBM K "list" (rIndex K) (tVar 2) (tCons (tC (.bl true)) tNil))) (tC (.str "odd")))) tNext)
theorem suite_at {K : PySem.W.Frag} {CP CT CF a C : Addr} {D : Ends} {x0 x2 : Option V} {H : Hp} {b1 b2 b3 : Bool} {j : Nat} {x : Str} (e0 : PySem.W.kitOne K (.ref C) (.ref CP) = some b1) (e1 : PySem.W.kitOne K (.ref C) (.ref CT) = some b2) (e2 : PySem.W.kitOne K (.ref C) (.ref CF) = some b3)
    (hc : ([V.bl b1, .bl b2, .bl b3].countP fun y => eqV y (.bl true)) = 1) (hj : [V.bl b1, .bl b2, .bl b3][j]? = some (.bl true)) (hn : ∀ (m : Nat) (z' : V), m < j → [V.bl b1, .bl b2, .bl b3][m]? = some z' → eqV z' (.bl true) = false) (hx : [V.str "prime", .str "text", .str "fact"][j]? = some (.str x))
    (h : ∀ (H' : Hp), Same H H' → D.rt (.str x) H') : tSuite K CP CT CF a C D [x0, some (.ref a), x2] H := by
  have rr : ∀ {D : Addr} (u : Value), RelV (.ref D) u → u = .ref D := fun {D} u r => r
  refine ⟨_, rfl, .ref CP, _, _, rfl, rr, e0, _, rfl, .ref CT, _, _, rfl, rr, e1, _, rfl, .ref CF, _, _, rfl, rr, e2, by show 3 ≤ sizeLine; rw [sizeLine_eq]; decide, fun p hp => ?_⟩
  have s1 : Same H (upd H p (.lst [.bl b1, .bl b2, .bl b3])) := same_up hp
  have a1 : (upd H p (.lst [.bl b1, .bl b2, .bl b3])) p = some (.lst [.bl b1, .bl b2, .bl b3]) := upd_same
  generalize upd H p (.lst [.bl b1, .bl b2, .bl b3]) = H1 at s1 a1 ⊢
  refine ⟨_, rfl, .inl ⟨rfl, _, SqL.of a1⟩, p, _, _, rfl, rfl, SqL.of a1, rfl, rfl, rfl, _, rfl, ?_⟩
  rw [hc]
  refine iteT ⟨by show 3 ≤ sizeLine; rw [sizeLine_eq]; decide, fun l hl => ?_⟩
  have s2 : Same H1 (upd H1 l (.lst [.str "prime", .str "text", .str "fact"])) := same_up hl
  refine ⟨_, rfl, .inl ⟨rfl, _, SqL.of (s2 _ _ a1)⟩, p, _, _, j, _, rfl, rfl, SqL.of (s2 _ _ a1), rfl, rfl, hj, rfl, hn, ?_⟩
  exact ⟨l, _, _, _, rfl, rfl, SqL.of upd_same, atI_nat hx, h _ (s1.trans s2)⟩
theorem suite_run {K : PySem.W.Frag} {mg : Str → Option Value} {CP CT CF a C : Addr} {x : Str} {D : Ends} {x0 x2 : Option V} {H : Hp} (cf : Cf K mg CP CT CF) (hm : (C, x) ∈ [(CP, ("prime" : Str)), (CT, "text"), (CF, "fact")])
    (h : ∀ (H' : Hp), Same H H' → D.rt (.str x) H') : tSuite K CP CT CF a C D [x0, some (.ref a), x2] H := by
  have nd := cf.nd
  simp only [List.nodup_cons, List.mem_cons, List.not_mem_nil, or_false, not_or, not_false_eq_true, List.nodup_nil, and_true] at nd
  obtain ⟨⟨n1, n2⟩, n3⟩ := nd
  have mP : CP ∈ [CP, CT, CF] := by simp
  have mT : CT ∈ [CP, CT, CF] := by simp
  have mF : CF ∈ [CP, CT, CF] := by simp
  simp only [List.mem_cons, List.not_mem_nil, or_false, Prod.mk.injEq] at hm
  rcases hm with ⟨rfl, rfl⟩ | ⟨rfl, rfl⟩ | ⟨rfl, rfl⟩
  · have k0 := cf.kit _ mP _ mP
    have k1 := cf.kit _ mP _ mT
    have k2 := cf.kit _ mP _ mF
    rw [decide_eq_true rfl] at k0
    rw [decide_eq_false n1] at k1
    rw [decide_eq_false n2] at k2
    exact suite_at (j := 0) k0 k1 k2 (by decide) rfl (fun m z' hm => absurd hm (by omega)) rfl h
  · have k0 := cf.kit _ mT _ mP
    have k1 := cf.kit _ mT _ mT
    have k2 := cf.kit _ mT _ mF
    rw [decide_eq_false (Ne.symm n1)] at k0
    rw [decide_eq_true rfl] at k1
    rw [decide_eq_false n3] at k2
    refine suite_at (j := 1) k0 k1 k2 (by decide) rfl (fun m z' hm e => ?_) rfl h
    have : m = 0 := by omega
    subst this
    cases e
    rfl
  · have k0 := cf.kit _ mF _ mP
    have k1 := cf.kit _ mF _ mT
    have k2 := cf.kit _ mF _ mF
    rw [decide_eq_false (Ne.symm n2)] at k0
    rw [decide_eq_false (Ne.symm n3)] at k1
    rw [decide_eq_true rfl] at k2
    refine suite_at (j := 2) k0 k1 k2 (by decide) rfl (fun m z' hm e => ?_) rfl h
    have : m = 0 ∨ m = 1 := by omega
    rcases this with rfl | rfl
    · cases e
      rfl
    · cases e
      rfl
theorem word_gives {X : Cx} {g CP CT CF : Addr} {cdg : Value} {q : Str} (M : Nm X.mg) (cf : Cf X.K X.mg CP CT CF) : GivesTo X ["call", "error", "some"] "_law_word" (defScope sLWord) g cdg (defBody sLWord) "call" q (TTw CP CT CF) := by
  intro f c' s H Q tl act hc h
  obtain ⟨CV, gV, eV⟩ := cf.view
  have gP := cf.gP
  have gT := cf.gT
  have gF := cf.gF
  have mem3 : ∀ {C : Addr} {x : Str}, (C, x) ∈ [(CP, ("prime" : Str)), (CT, "text"), (CF, "fact")] → C ∈ [CP, CT, CF] := fun {C x} hm => by
    simp only [List.mem_cons, List.not_mem_nil, or_false, Prod.mk.injEq] at hm ⊢
    rcases hm with ⟨h, _⟩ | ⟨h, _⟩ | ⟨h, _⟩
    · exact .inl h
    · exact .inr (.inl h)
    · exact .inr (.inr h)
  refine ⟨_, (pss_one (ps_try_as (X := (cxOf C8.CX0 X.prog X.w X.K X.mg X.base ["call", "error", "some"] "_law_word" (defScope sLWord) g cdg X.A X.stack s H C8.E0).nox) (c := .ref CV) (i := 1)
        (tb := fun W D σ H => ∃ Ech : XK, (∀ (cls : Value) (d : Option Addr) (σ' : L2.St) (H' : Hp), σ'.length = 3 → Ech cls d H' → W cls d σ' H') ∧ σ[0]? = some (some (.ref f)) ∧ H c' = some (CodeO c' q) ∧ tl Ech H fun v H1 => 2 ≤ sizeLine ∧ ∀ p, H1 p = none → D.rt (.ref p) (upd H1 p (.tup [.str "let", v])))
        (ts := fun a cls d D σ H => ∃ C, (C ∈ [CP, CT, CF] ∧ cls = .ref C ∧ d = none) ∧ tSuite X.K CP CT CF a C D σ H)
        rfl rfl scLWord.nd rfl rfl ⟨by rfl, by decide, .inl gV⟩ LamX.takes0 (fun W pn xe tk _ => ?_) (fun a oe cls d pn hz hv => ?_))), ?_⟩
  · refine ⟨fun pins s' σ H' D I h' => ?_⟩
    obtain ⟨Ech, hW, h1, h2, h3⟩ := h'
    exact (pss_one (ps_ret (pe_tup (pa_cons pe_str (pa_cons (act _ pn xe Ech _ _ (takes_len tk) fun cls d σ' H' e l => hW cls d σ' H' l e) pa_nil))))).run pins s' σ H' D I ⟨h1, h2, h3⟩
  · refine guardE fun C hcd => ?_
    obtain ⟨hC, rfl, rfl⟩ := hcd
    have hx := cf.exc C hC
    exact (pss_cons (ps_set (i := 2) scLWord.nd rfl (Or.inl rfl) (pe_lst (pa_cons (pe_callB (r := rIsE X.K C a) (call_isE hx hz hv) (by rfl) M.isinstance (by decide +kernel) (pa_cons (pv 1) (pa_cons (pe_glob (v := .ref CP) (by rfl) gP rfl) pa_nil))) (pa_cons (pe_callB (r := rIsE X.K C a) (call_isE hx hz hv) (by rfl) M.isinstance (by decide +kernel) (pa_cons (pv 1) (pa_cons (pe_glob (v := .ref CT) (by rfl) gT rfl) pa_nil))) (pa_cons (pe_callB (r := rIsE X.K C a) (call_isE hx hz hv) (by rfl) M.isinstance (by decide +kernel) (pa_cons (pv 1) (pa_cons (pe_glob (v := .ref CF) (by rfl) gF rfl) pa_nil))) pa_nil)))))
      (pss_one (ps_ret (pe_ifExp (pt_cmpR op_eq (pe_bm PySem.F.plainAttrs_list PySem.F.slot_list_count PySem.F.type_list_count Hd.mt_countF (pv 2) (pa_cons pe_bl pa_nil)) pe_int (nomark _)) (pe_ix ix_list (pe_lst (pa_cons pe_str (pa_cons pe_str (pa_cons pe_str pa_nil)))) (pe_bm PySem.F.plainAttrs_list PySem.F.slot_list_index PySem.F.type_list_index mt_index (pv 2) (pa_cons pe_bl pa_nil)) (fun _ _ => rfl)) pe_str))))
  · refine ⟨_, fun cls d σ' H' hl z => ?_, rfl, hc, h⟩
    obtain ⟨C, x, ⟨hm, rfl, rfl⟩, qq⟩ := z
    refine ⟨true, eV C (mem3 hm), fun _ a _ => ⟨C, ⟨mem3 hm, rfl, rfl⟩, ?_⟩, fun z => nomatch z⟩
    obtain ⟨x0, x1, x2, rfl⟩ : ∃ x0 x1 x2, σ' = [x0, x1, x2] := by
      match σ', hl with
      | [x0, x1, x2], _ => exact ⟨x0, x1, x2, rfl⟩
    exact suite_run cf hm fun H'' sm => qq H'' sm
end Sm
namespace Sm
open PySem PySem.Spec PyProof.Rows L2 Vd Xv LamX
theorem TabS.keep {a c : Addr} {H H' : Hp} {p : Addr} {q : Str} (t : TabS H p q) (h : HandC H a c) (k : Keep a H H') : TabS H' p q := by
  obtain ⟨ps, h1, h2, h3⟩ := t
  obtain ⟨xs, hx⟩ := h.live
  refine ⟨ps, k _ _ (fun e => ?_) h1, h2, fun pos cv hc => ?_⟩
  · rw [e, hx] at h1
    cases h1
  · obtain ⟨c', e1, e2⟩ := h3 pos cv hc
    refine ⟨c', e1, k _ _ (fun e => ?_) e2⟩
    rw [e, hx] at e2
    cases e2
/-- what the law keeps: the hand, the tables -/
structure LS (T : List (Addr × Str)) (a c : Addr) (H : Hp) : Prop where
  hand : HandC H a c
  tabs : Tabs T H
theorem LS.same {T : List (Addr × Str)} {a c : Addr} {H H' : Hp} (h : LS T a c H) (s : Same H H') : LS T a c H' := ⟨h.hand.same s, h.tabs.ext s⟩
theorem LS.keep {T : List (Addr × Str)} {a c : Addr} {H H' : Hp} (h : LS T a c H) (hh : HandC H' a c) (k : Keep a H H') : LS T a c H' := ⟨hh, fun p hp => TabS.keep (h.tabs p hp) h.hand k⟩
theorem HandC.extN {H H' : Hp} {a c : Addr} (h : HandC H a c) (k : ExtN H H') : HandC H' a c := by
  obtain ⟨cs, i, b, sd, n, x⟩ := h
  exact ⟨cs, i, b, sd, n, k _ _ x.at_ (fun _ z => nomatch z), k _ _ x.cells (fun _ z => nomatch z), x.len, x.pos, x.i0, x.b0, x.s0, x.n0⟩
/-! ### what is due -/
def oP (d : PyData) : Option Str := if primeD d = true then none else some "prime"
def oT (d : PyData) : Option Str := if textD d = true then none else some "text"
def oF (d : PyData) : Option Str := if factD d = true then none else some "fact"
def oOr (x y : Option Str) : Option Str := match x with
  | some z => some z
  | none => y
theorem oP_t {d : PyData} (h : primeD d = true) : oP d = none := if_pos h
theorem oP_f {d : PyData} (h : primeD d = false) : oP d = some "prime" := if_neg (by rw [h]; exact Bool.false_ne_true)
theorem oT_t {d : PyData} (h : textD d = true) : oT d = none := if_pos h
theorem oT_f {d : PyData} (h : textD d = false) : oT d = some "text" := if_neg (by rw [h]; exact Bool.false_ne_true)
theorem oF_t {d : PyData} (h : factD d = true) : oF d = none := if_pos h
theorem oF_f {d : PyData} (h : factD d = false) : oF d = some "fact" := if_neg (by rw [h]; exact Bool.false_ne_true)
section
variable {K : PySem.W.Frag} {a CP CT CF : Addr} {σ : L2.St} {H : Hp} {Q : VK}
theorem lam_mix {i j : Nat} {v1 v2 : V} {d1 d2 : PyData} (h1 : σ[i]? = some (some v1)) (h2 : σ[j]? = some (some v2)) (e1 : Dv a K H v1 d1) (e2 : Dv a K H v2 d2) (o1 : Ok d1) (o2 : Ok d2) (q : ∀ u H', Same H H' → TD (oOr (oP d1) (oT d2)) H' u → Q u H') :
    TTw CP CT CF (fun E H' Q' => tCallS (spMixX K CP CT) (WE fun cls d _ H => E cls d H) (tCons (tVar i) (tCons (tVar j) tNil)) σ H' Q') H Q := by
  refine ⟨v1, h1, v2, h2, v1, v2, d1, d2, rfl, e1.dd, e2.dd, o1, o2, fun n H' s => ⟨CP, "prime", ⟨by simp, rfl, rfl⟩, fun H'' s2 => q _ H'' (s.trans s2) ?_⟩, fun y n H' s => ⟨CT, "text", ⟨by simp, rfl, rfl⟩, fun H'' s2 => q _ H'' (s.trans s2) ?_⟩, fun p x r1 r2 y1 y2 H' s => ⟨by rw [sizeLine_eq]; decide, fun p hp => q _ _ (s.trans (same_up hp)) ?_⟩⟩
  · rw [oP_f n]
    rfl
  · rw [oP_t y, oT_f n]
    rfl
  · rw [oP_t y1, oT_t y2]
    exact ⟨p, _, rfl, upd_same⟩
theorem lam_num {i j : Nat} {v1 v2 : V} {d1 d2 : PyData} (h1 : σ[i]? = some (some v1)) (h2 : σ[j]? = some (some v2)) (e1 : Dv a K H v1 d1) (e2 : Dv a K H v2 d2) (o1 : Ok d1) (o2 : Ok d2) (q : ∀ u H', Same H H' → TD (oOr (oP d1) (oF d2)) H' u → Q u H') :
    TTw CP CT CF (fun E H' Q' => tCallS (spNumX K CP CF) (WE fun cls d _ H => E cls d H) (tCons (tVar i) (tCons (tVar j) tNil)) σ H' Q') H Q := by
  refine ⟨v1, h1, v2, h2, v1, v2, d1, d2, rfl, e1.dd, e2.dd, o1, o2, fun n H' s => ⟨CP, "prime", ⟨by simp, rfl, rfl⟩, fun H'' s2 => q _ H'' (s.trans s2) ?_⟩, fun y n H' s => ⟨CF, "fact", ⟨by simp, rfl, rfl⟩, fun H'' s2 => q _ H'' (s.trans s2) ?_⟩, fun p r1 y1 y2 H' s => ⟨by rw [sizeLine_eq]; decide, fun p hp => q _ _ (s.trans (same_up hp)) ?_⟩⟩
  · rw [oP_f n]
    rfl
  · rw [oP_t y, oF_f n]
    rfl
  · rw [oP_t y1, oF_t y2]
    exact ⟨p, _, rfl, upd_same⟩
theorem lam_fact {i : Nat} {v1 : V} {d1 : PyData} (h1 : σ[i]? = some (some v1)) (e1 : Dv a K H v1 d1) (o1 : Ok d1) (q : ∀ u H', Same H H' → TD (oF d1) H' u → Q u H') :
    TTw CP CT CF (fun E H' Q' => tCallS (spFT K CF) (WE fun cls d _ H => E cls d H) (tCons (tVar i) tNil) σ H' Q') H Q := by
  refine ⟨v1, h1, v1, d1, rfl, e1.dd, o1, fun n H' s => ⟨CF, "fact", ⟨by simp, rfl, rfl⟩, fun H'' s2 => q _ H'' (s.trans s2) ?_⟩, fun y1 H' s => ⟨by rw [sizeLine_eq]; decide, fun p hp => q _ _ (s.trans (same_up hp)) ?_⟩⟩
  · rw [oF_f n]
    rfl
  · rw [oF_t y1]
    exact ⟨p, _, rfl, upd_same⟩
/-- None if a look else a word -/
theorem rd_look {g : PyData → Bool} {i : Nat} {v : V} {d : PyData} {x : Str} (h : σ[i]? = some (some v)) (e : Dv a K H v d) (o : Ok d) (q : ∀ H', Same H H' → Q (oV (if g d = true then none else some x)) H') : tIf (tTest (tCall (spA K g) [] E0 (tCons (tVar i) tNil))) (tC .non) (tC (.str x)) σ H Q :=
  ⟨v, h, v, d, rfl, e.dd, o, fun H' s => ⟨_, rfl, tst (fun e => by
    have := q H' s
    rw [if_pos e] at this
    exact this) fun e => by
    have := q H' s
    rw [if_neg (by rw [e]; exact Bool.false_ne_true)] at this
    exact this⟩⟩
/-- first or .. -/
theorem rd_or {i : Nat} {o p : Option Str} {tb : TE} (h : σ[i]? = some (some (oV o))) (ho : o = none ∨ o = some "prime") (hb : ∀ Q' : VK, (∀ H', Same H H' → Q' (oV p) H') → tb σ H Q') (q : ∀ H', Same H H' → Q (oV (oOr o p)) H') : tOrT K (tVar i) tb σ H Q := by
  rcases ho with rfl | rfl
  · exact ⟨_, h, false, rfl, iteF (hb Q q)⟩
  · exact ⟨_, h, true, ⟨by decide, rfl⟩, iteT (q H (Same.refl H))⟩
end
theorem ye_bent {K : PySem.W.Frag} {a c : Addr} {H0 : Hp} {σ : L2.St} {i j : Nat} {v : V} {d : PyData} (hσ : σ[i]? = some (some (.ref a))) (h : σ[j]? = some (some v)) (hd : Dv a K H0 v d) (r : RF d) : YE a c K H0 σ (tCall (spBent K) [] E0 (tCons (tVar i) (tCons (tVar j) tNil))) Ok := fun H Q hh k q =>
  ⟨_, hσ, v, h, a, c, v, d, rfl, hh, hd.ky k, r, q⟩
abbrev sRef : Stmt := top 54
theorem scRef : FnScope ["hand", "p", "fact", "text", "first", "last"] ["hand"] (defScope sRef) := ⟨rfl, rfl, rfl, by decide +kernel, rfl, by decide +kernel, by decide +kernel⟩
abbrev qq : Str := (envOfC "_law_refused_right" (defScope sRef) 0 0 .none).qual ++ ("<lambda>" : Str)
section
variable {P : Program} {w : World} {K : PySem.W.Frag} {mg : Str → Option Value} {base : Heap}
structure Dr (P : Program) (w : World) (K : PySem.W.Frag) (mg : Str → Option Value) (base : Heap) (CP CT CF : Addr) : Prop where
  draw : DDraw P w K mg base
  some : DSome P w K mg base
  oddPrime : DY P w K mg base "_law_odd_prime" 3 Ok
  fact : DY P w K mg base "_law_fact" 4 RF
  bent : Df P w K mg base "_law_bent_fact" 4 ["hand", "fact"] (spBent K)
  isPrime : DA P w K mg base "_law_is_prime" 1 primeD
  isText : DA P w K mg base "_law_is_text" 1 textD
  isFact : DA P w K mg base "_law_is_fact" 2 factD
  isDue : Df P w K mg base "_law_is_due" 1 ["told", "due"] spIsDue
  mix : DfX P w K mg base "mix" 4 ["p", "text"] (spMixX K CP CT)
  num : DfX P w K mg base "number_of" 6 ["p", "fact"] (spNumX K CP CF)
  ft : DfX P w K mg base "fact_text" 6 ["fact"] (spFT K CF)
/-- _law_word's function object -/
structure Wf (K : PySem.W.Frag) (mg : Str → Option Value) (g : Addr) (cdg : Value) : Prop where
  ex : ∃ oc od dV kV doc pm an ct osl, K.lookup g = some ⟨oc, od, .func (PySem.W.fnOf "_law_word" "_law_word" (defArgs sLWord) (defBody sLWord) (defScope sLWord) dV kV doc pm an cdg ct), osl⟩ ∧ L2.Binds K (PySem.W.fnOf "_law_word" "_law_word" (defArgs sLWord) (defBody sLWord) (defScope sLWord) dV kV doc pm an cdg ct) ["call"] []
  code : PySem.W.codeIn K cdg "_law_word" = true
  keep : PySem.W.keepIn K (.ref g) = true
  glo : mg "_law_word" = some (.ref g)
def spRef (Pt : Addr) : Sp := fun vs H Q _ => ∃ a c : Addr, vs = [.ref a] ∧ LS [(Pt, qq)] a c H ∧ ∀ H', LS [(Pt, qq)] a c H' → Q (.bl true) H'
theorem ok_ref {f CP CT CF g cc Pt : Addr} {cdg : Value} {fd : FuncData} (F : FnP K "_law_refused_right" sRef f fd) (hcode : ∀ oc od dV kV doc pm an cdv ct osl, K.lookup f = some ⟨oc, od, .func (PySem.W.fnOf "_law_refused_right" "_law_refused_right" (defArgs sRef) (defBody sRef) (defScope sRef) dV kV doc pm an cdv ct), osl⟩ → cdv = .ref cc) (TB : TabB base mg cc Pt)
    (M : Nm mg) (cf : Cf K mg CP CT CF) (Dx : Dr P w K mg base CP CT CF) (wf : Wf K mg g cdg) : FnOk P w K mg base CX0 9 f fd ["hand"] (spRef Pt) := by
  obtain ⟨oc, od, dV, kV, doc, pm, an, cdv, ct, osl, rfl, lk, hcd, _, _⟩ := F.ex
  cases hcode _ _ _ _ _ _ _ _ _ _ lk
  refine fn_of (k := 8) lk hcd scRef (fun vs H Q E h => ?_) (fun A outer s H vs Q E hr h => ?_)
  · obtain ⟨a, c, rfl, _⟩ := h
    rfl
  obtain ⟨a, c, rfl, ls, q⟩ := h
  obtain ⟨oc2, od2, dV2, kV2, doc2, pm2, an2, ct2, osl2, lk2, hb2⟩ := wf.ex
  have hh := ls.hand
  refine ⟨_, PSs.nox (pss_cons (ps_asg (pe_tup (pa_cons (pe_df Dx.oddPrime hr (by decide) (pa_cons (pv 0) pa_nil)) (pa_cons (pe_df Dx.fact hr (by decide) (pa_cons (pv 0) pa_nil)) pa_nil))) (pg_tup rfl (pgs_cons (pg_name (i := 1) scRef.nd rfl (Or.inr rfl)) (pgs_cons (pg_name (i := 2) scRef.nd rfl (Or.inr rfl)) pgs_nil))))
      (pss_cons (ps_set (i := 3) scRef.nd rfl (Or.inr rfl) (pe_df Dx.some hr (by decide) (pa_cons (pv 0) (pa_cons (pe_lst (pa_cons pe_str (pa_cons pe_str (pa_cons pe_str (pa_cons pe_non (pa_cons pe_int (pa_cons (pe_lst (pa_cons pe_str pa_nil)) (pa_cons (pe_tup (pa_cons pe_str pa_nil)) pa_nil)))))))) pa_nil))))
      (pss_cons (ps_set (i := 2) scRef.nd rfl (Or.inr rfl) (pe_ifExp (pt_cmpR op_eq (pe_df Dx.draw hr (by decide) (pa_cons (pv 0) (pa_cons pe_int pa_nil))) pe_int (nomark _)) (pe_df Dx.bent hr (by decide) (pa_cons (pv 0) (pa_cons (pv 2) pa_nil))) (pv 2)))
      (pss_cons (ps_set (i := 4) scRef.nd rfl (Or.inl rfl) (pe_ifExp (pt_val (pe_df Dx.isPrime hr (by decide) (pa_cons (pv 1) pa_nil))) pe_non pe_str))
      (pss_cons (ps_if (pt_not (pt_val (pe_df Dx.isDue hr (by decide) (pa_cons (pe_lamcall (T := [(Pt, qq)]) (TT := TTw CP CT CF) (t := fun E => tCallS (spMixX K CP CT) (WE fun cls d _ H => E cls d H) (tCons (tVar 1) (tCons (tVar 3) tNil))) (Ng := ["call", "error", "some"]) (k := 6) (by rfl) wf.glo wf.keep lk2 wf.code hb2 scLWord rfl (Or.inl rfl) (word_gives M cf) TB rfl (List.mem_cons_self) (fun p hp _ => (congrArg Prod.snd (List.mem_singleton.mp hp)).trans rfl) hr (lamS_by (sc := defScope sRef) (by decide +kernel)) rfl (fun _ _ _ _ _ => rfl) (fun A outer s H E f c hr => pe_dfX Dx.mix (takes_of rfl rfl rfl rfl) hr (by decide) (pa_cons (pv 1) (pa_cons (pv 3) pa_nil)))) (pa_cons (pe_orT (pv 4) (pe_one (pe_ifExp (pt_val (pe_df Dx.isText hr (by decide) (pa_cons (pv 3) pa_nil))) pe_non pe_str))) pa_nil))))) (pss_one (ps_ret pe_bl)) pss_nil)
      (pss_cons (ps_set (i := 5) scRef.nd rfl (Or.inl rfl) (pe_ifExp (pt_val (pe_df Dx.isFact hr (by decide) (pa_cons (pv 2) pa_nil))) pe_non pe_str))
      (pss_cons (ps_if (pt_not (pt_val (pe_df Dx.isDue hr (by decide) (pa_cons (pe_lamcall (T := [(Pt, qq)]) (TT := TTw CP CT CF) (t := fun E => tCallS (spNumX K CP CF) (WE fun cls d _ H => E cls d H) (tCons (tVar 1) (tCons (tVar 2) tNil))) (Ng := ["call", "error", "some"]) (k := 6) (by rfl) wf.glo wf.keep lk2 wf.code hb2 scLWord rfl (Or.inl rfl) (word_gives M cf) TB rfl (List.mem_cons_self) (fun p hp _ => (congrArg Prod.snd (List.mem_singleton.mp hp)).trans rfl) hr (lamS_by (sc := defScope sRef) (by decide +kernel)) rfl (fun _ _ _ _ _ => rfl) (fun A outer s H E f c hr => pe_dfX Dx.num (takes_of rfl rfl rfl rfl) hr (by decide) (pa_cons (pv 1) (pa_cons (pv 2) pa_nil)))) (pa_cons (pe_orT (pv 4) (pe_one (pv 5))) pa_nil))))) (pss_one (ps_ret pe_bl)) pss_nil)
      (pss_one (ps_ret (pe_df Dx.isDue hr (by decide) (pa_cons (pe_lamcall (T := [(Pt, qq)]) (TT := TTw CP CT CF) (t := fun E => tCallS (spFT K CF) (WE fun cls d _ H => E cls d H) (tCons (tVar 2) tNil)) (Ng := ["call", "error", "some"]) (k := 6) (by rfl) wf.glo wf.keep lk2 wf.code hb2 scLWord rfl (Or.inl rfl) (word_gives M cf) TB rfl (List.mem_cons_self) (fun p hp _ => (congrArg Prod.snd (List.mem_singleton.mp hp)).trans rfl) hr (lamS_by (sc := defScope sRef) (by decide +kernel)) rfl (fun _ _ _ _ _ => rfl) (fun A outer s H E f c hr => pe_dfX Dx.ft (takes_of rfl rfl rfl rfl) hr (by decide) (pa_cons (pv 2) pa_nil))) (pa_cons (pv 5) pa_nil)))))))))))), ?_⟩
  -- p, fact
  refine ye_call (a := a) (c := c) (K := K) (H0 := H) (R := Ok) rfl H _ hh .refl fun v1 d1 H1 o1 hh1 k1 hd1 => ?_
  refine ye_call (a := a) (c := c) (K := K) (H0 := H1) (R := RF) rfl H1 _ hh1 .refl fun v2 d2 H2 r2 hh2 k2 hd2 => ⟨by show 2 ≤ sizeLine; rw [sizeLine_eq]; decide, fun pt hpt => ⟨pt, _, rfl, .inl (.inl upd_same), rfl, _, _, rfl, _, _, rfl, rfl, ?_⟩⟩
  have s3 : Same H2 (upd H2 pt (.tup [v1, v2])) := same_up hpt
  generalize upd H2 pt (.tup [v1, v2]) = H3 at s3 ⊢
  have hh3 := hh2.same s3
  have e1 : Dv a K H3 v1 d1 := (hd1.ky k2).kp (kp_same s3)
  have e2 : Dv a K H3 v2 d2 := hd2.kp (kp_same s3)
  have k3 : Keep a H H3 := k1.trans (k2.trans (keep_same s3))
  -- text
  dsimp only [tSeq, tAsg, gName]
  refine ye_some (a := a) (c := c) (K := K) (H0 := H3) (R := Ok) rfl (ya_cons (ye_str (by decide +kernel)) (ya_cons (ye_str (by decide +kernel)) (ya_cons (ye_str (by decide +kernel)) (ya_cons (ye_non (by decide +kernel)) (ya_cons (ye_int yi_c (by decide +kernel)) (ya_cons (ye_lst (ya_cons (ye_str (by decide +kernel)) ya_nil)) (ya_cons (ye_tup (ya_cons (ye_str (by decide +kernel)) ya_nil)) ya_nil))))))) (by decide) (by decide) H3 _ hh3 .refl fun v3 d3 H4 o3 hh4 k4 e3 => ?_
  have e1 := e1.ky k4
  have e2 := e2.ky k4
  -- fact
  refine ye_ifd (a := a) (c := c) (K := K) (H0 := H4) (R := Ok) (m := 2) (σ := [some (.ref a), some v1, some v2, some v3, none, none]) (yd_draw rfl yi_c (by decide) (by decide)) (ye_bent rfl rfl e2 r2) (ye_var rfl e2 r2.2) H4 _ hh4 .refl fun v4 d4 H5 o4 hh5 k5 e4 => ?_
  have e1 := e1.ky k5
  have e3 := e3.ky k5
  have ls5 : LS [(Pt, qq)] a c H5 := ls.keep hh5 (k3.trans (k4.trans k5))
  -- first
  refine rd_look (a := a) (g := primeD) (σ := [some (.ref a), some v1, some v4, some v3, none, none]) rfl e1 o1 fun H6 s6 => ?_
  have ls6 := ls5.same s6
  have e1 := e1.kp (kp_same s6)
  have e3 := e3.kp (kp_same s6)
  have e4 := e4.kp (kp_same s6)
  show _
  have hP : oP d1 = none ∨ oP d1 = some "prime" := by
    unfold oP
    split
    · exact .inl rfl
    · exact .inr rfl
  -- mix
  refine ⟨ls6.tabs, fun H7 x7 t7 => lam_mix (a := a) (σ := [some (.ref a), some v1, some v4, some v3, some (oV (oP d1)), none]) rfl rfl (e1.kp (kp_extN x7)) (e3.kp (kp_extN x7)) o1 o3 fun u H8 s8 td => ?_⟩
  have ls8 : LS [(Pt, qq)] a c H8 := ⟨(ls6.hand.extN x7).same s8, t7.ext s8⟩
  have e1 := (e1.kp (kp_extN x7)).kp (kp_same s8)
  have e3 := (e3.kp (kp_extN x7)).kp (kp_same s8)
  have e4 := (e4.kp (kp_extN x7)).kp (kp_same s8)
  refine rd_or (p := oT d3) (σ := [some (.ref a), some v1, some v4, some v3, some (oV (oP d1)), none]) rfl hP (fun Q' q' => rd_look (a := a) (g := textD) rfl e3 o3 q') fun H9 s9 => ?_
  refine ⟨u, _, rfl, td.same s9, _, rfl, iteF ?_⟩
  have ls9 := ls8.same s9
  have e1 := e1.kp (kp_same s9)
  have e4 := e4.kp (kp_same s9)
  -- last
  refine rd_look (a := a) (g := factD) (σ := [some (.ref a), some v1, some v4, some v3, some (oV (oP d1)), none]) rfl e4 o4 fun H10 s10 => ?_
  have ls10 := ls9.same s10
  have e1 := e1.kp (kp_same s10)
  have e4 := e4.kp (kp_same s10)
  -- number_of
  refine ⟨ls10.tabs, fun H11 x11 t11 => lam_num (a := a) (σ := [some (.ref a), some v1, some v4, some v3, some (oV (oP d1)), some (oV (oF d4))]) rfl rfl (e1.kp (kp_extN x11)) (e4.kp (kp_extN x11)) o1 o4 fun u2 H12 s12 td2 => ?_⟩
  have ls12 : LS [(Pt, qq)] a c H12 := ⟨(ls10.hand.extN x11).same s12, t11.ext s12⟩
  have e4 := (e4.kp (kp_extN x11)).kp (kp_same s12)
  refine rd_or (p := oF d4) (σ := [some (.ref a), some v1, some v4, some v3, some (oV (oP d1)), some (oV (oF d4))]) rfl hP (fun Q' q' => ⟨_, rfl, q' _ (Same.refl _)⟩) fun H13 s13 => ?_
  refine ⟨u2, _, rfl, td2.same s13, _, rfl, iteF ?_⟩
  have ls13 := ls12.same s13
  have e4 := e4.kp (kp_same s13)
  -- fact_text
  refine ⟨ls13.tabs, fun H14 x14 t14 => lam_fact (a := a) (σ := [some (.ref a), some v1, some v4, some v3, some (oV (oP d1)), some (oV (oF d4))]) rfl (e4.kp (kp_extN x14)) o4 fun u3 H15 s15 td3 => ?_⟩
  exact ⟨_, rfl, u3, _, rfl, td3, q H15 ⟨(ls13.hand.extN x14).same s15, t14.ext s15⟩⟩
end
end Sm
namespace Sm
open PySem PySem.Spec PyProof.Rows L2 Vd Xv LamX
abbrev sLaw : Stmt := top 55
theorem scLaw : FnScope ["script", "hand", "turn", "p", "text", "fact"] ["script"] (defScope sLaw) := ⟨rfl, rfl, rfl, by decide +kernel, rfl, by decide +kernel, by decide +kernel⟩
section
variable {P : Program} {w : World} {K : PySem.W.Frag} {mg : Str → Option Value} {base : Heap}
structure Dl (P : Program) (w : World) (K : PySem.W.Frag) (mg : Str → Option Value) (base : Heap) (CP CT CF Pt : Addr) : Prop where
  r : Dr P w K mg base CP CT CF
  hand : Df P w K mg base "_law_hand" 1 ["script"] (spHand K)
  prime : DY P w K mg base "_law_prime" 3 RP
  text : DY P w K mg base "_law_text" 3 RX
  lmix : Df P w K mg base "_law_mix" 1 ["p", "text"] spMix
  lft : Df P w K mg base "_law_fact_text" 2 ["fact"] (spText K)
  lnum : Df P w K mg base "_law_number" 3 ["p", "fact"] (spNum K)
  is : Df P w K mg base "_law_is" 1 ["told", "due"] spIs
  ref : Df P w K mg base "_law_refused_right" 9 ["hand"] (spRef Pt)
def spLaw (K : PySem.W.Frag) (Pt : Addr) : Sp := fun vs H Q _ => ∃ (a : Addr) (ns : List Int), vs = [.ref a] ∧ SqL K H a (ns.map V.int) ∧ ns.length ≤ 63 ∧ H Pt = some (.tbl #[]) ∧ ∀ H', Q (.bl true) H'
theorem ok_law {f CP CT CF Pt : Addr} {fd : FuncData} (F : FnP K "law" sLaw f fd) (M : Nm mg) (Dx : Dl P w K mg base CP CT CF Pt) : FnOk P w K mg base CX0 10 f fd ["script"] (spLaw K Pt) := by
  refine F.ok scLaw (fun vs H Q E h => ?_) (fun cdv A outer s H vs Q E hr h => ?_)
  · obtain ⟨a, ns, rfl, _⟩ := h
    rfl
  obtain ⟨sa, ns, rfl, hS, hl, hP, q⟩ := h
  refine ⟨_, PSs.nox (pss_cons (ps_set (i := 1) scLaw.nd rfl (Or.inl rfl) (pe_df Dx.hand hr (by decide) (pa_cons (pv 0) pa_nil)))
      (pss_cons (ps_for PassesOwn.never rfl (pi_range1 rfl M.range (pa_cons pe_int pa_nil)) (pg_name (i := 2) scLaw.nd rfl (Or.inl rfl)) (pss_cons (ps_par3 (i := 3) (j := 4) (l := 5) (by rfl) scLaw.nd rfl rfl rfl (by decide) (by decide) (by decide) rfl rfl rfl (pa_cons (pe_df Dx.prime hr (by decide) (pa_cons (pv 1) pa_nil)) (pa_cons (pe_df Dx.text hr (by decide) (pa_cons (pv 1) pa_nil)) (pa_cons (pe_df Dx.r.fact hr (by decide) (pa_cons (pv 1) pa_nil)) pa_nil))) (by rfl))
      (pss_cons (ps_if (PW.pt (pw_or (pt_not (pt_val (pe_df Dx.is hr (by decide) (pa_cons (pe_dfX Dx.r.mix L2.takes0 hr (by decide) (pa_cons (pv 3) (pa_cons (pv 4) pa_nil))) (pa_cons (pe_df Dx.lmix hr (by decide) (pa_cons (pv 3) (pa_cons (pv 4) pa_nil))) pa_nil))))) (pw_or1 (pt_not (pt_val (pe_df Dx.is hr (by decide) (pa_cons (pe_dfX Dx.r.ft L2.takes0 hr (by decide) (pa_cons (pv 5) pa_nil)) (pa_cons (pe_df Dx.lft hr (by decide) (pa_cons (pv 5) pa_nil)) pa_nil)))))))) (pss_one (ps_ret pe_bl)) pss_nil)
      (pss_one (ps_if (PW.pt (pw_or (pt_not (pt_val (pe_df Dx.is hr (by decide) (pa_cons (pe_dfX Dx.r.num L2.takes0 hr (by decide) (pa_cons (pv 3) (pa_cons (pv 5) pa_nil))) (pa_cons (pe_df Dx.lnum hr (by decide) (pa_cons (pv 3) (pa_cons (pv 5) pa_nil))) pa_nil))))) (pw_or1 (pt_not (pt_val (pe_df Dx.ref hr (by decide) (pa_cons (pv 1) pa_nil))))))) (pss_one (ps_ret pe_bl)) pss_nil)))))
      (pss_one (ps_ret pe_bl)))), ?_⟩
  refine ⟨_, rfl, sa, ns, rfl, hS, hl, fun H1 a s1 n1 hp => ?_⟩
  obtain ⟨c, hh⟩ := hp
  have T1 : Tabs [(Pt, qq)] H1 := fun p hp => by
    rw [List.mem_singleton.mp hp]
    exact (TabS.nil hP).ext s1
  have ls1 : LS [(Pt, qq)] a c H1 := ⟨hh, T1⟩
  refine ⟨6, rfl, by decide, by decide, ?_⟩
  refine for_range (lo := 0) (n := 6) (fun i σ H' => LS [(Pt, qq)] a c H' ∧ ∃ x2 x3 x4 x5, σ = [some (.ref sa), some (.ref a), x2, x3, x4, x5]) ⟨ls1, _, _, _, _, rfl⟩ (fun i σ H2 hi z => ?_) (fun σ H' z => ?_)
  · obtain ⟨ls2, x2, x3, x4, x5, rfl⟩ := z
    have hh2 := ls2.hand
    refine ye_call (a := a) (c := c) (K := K) (H0 := H2) (R := RP) rfl H2 _ hh2 .refl fun v1 d1 H3 r1 hh3 k3 hd1 => ?_
    refine ye_call (a := a) (c := c) (K := K) (H0 := H3) (R := RX) rfl H3 _ hh3 .refl fun v2 d2 H4 r2 hh4 k4 hd2 => ?_
    refine ye_call (a := a) (c := c) (K := K) (H0 := H4) (R := RF) rfl H4 _ hh4 .refl fun v3 d3 H5 r3 hh5 k5 hd3 => ⟨_, _, _, rfl, ?_⟩
    have ls5 := ls2.keep hh5 (k3.trans (k4.trans k5))
    obtain ⟨p, rfl, p0, p1⟩ := prime_of r1.1
    obtain ⟨x, rfl, tx, xl⟩ := r2
    cases dd_int hd1
    cases dd_str hd2
    obtain ⟨hf, of_⟩ := r3
    have np : ∀ {α : Prop}, primeD (.int p) = false → α := fun n => by
      rw [r1.1] at n
      cases n
    have sx := sml_text tx
    -- the mixing
    refine ⟨_, rfl, _, rfl, .int p, .str x, .int p, .str x, rfl, .int p, .str x, r1.2, ok_strI (by omega), fun n => np n, fun _ n => ?_, fun p' x' e1 e2 _ _ H6 s6 => ?_⟩
    · rw [tx] at n
      cases n
    cases e1
    cases e2
    refine ⟨_, rfl, _, rfl, p, x, rfl, p0, p1, sx, .inl ⟨_, rfl⟩, fun H7 s7 => ⟨_, rfl, iteF ?_⟩⟩
    have s57 := s6.trans s7
    have e3 := hd3.kp (kp_same s57)
    -- the text
    refine ⟨_, rfl, v3, d3, rfl, e3.dd, of_, fun n => ?_, fun _ H8 s8 => ?_⟩
    · rw [hf] at n
      cases n
    refine ⟨_, rfl, v3, d3, rfl, (e3.kp (kp_same s8)).dd, of_, hf, fun H9 s9 => ⟨.inr ⟨_, rfl⟩, fun H10 s10 => ⟨_, rfl, iteF ?_⟩⟩⟩
    have s710 := s8.trans (s9.trans s10)
    have e3 := e3.kp (kp_same s710)
    -- the number
    refine ⟨_, rfl, _, rfl, .int p, v3, .int p, d3, rfl, .int p, e3.dd, r1.2, of_, fun n => np n, fun _ n => ?_, fun p' e1 _ _ H11 s11 => ?_⟩
    · rw [hf] at n
      cases n
    cases e1
    refine ⟨_, rfl, _, rfl, p, v3, d3, rfl, p0, p1, (e3.kp (kp_same s11)).dd, of_, hf, fun H12 s12 => ⟨.inl ⟨_, rfl⟩, fun H13 s13 => ⟨_, rfl, iteF ?_⟩⟩⟩
    have ls13 := ls5.same (s57.trans (s710.trans (s11.trans (s12.trans s13))))
    exact ⟨_, rfl, a, c, rfl, ls13, fun H14 ls14 => ⟨_, rfl, iteF ⟨ls14, _, _, _, _, rfl⟩⟩⟩
  · obtain ⟨_, x2, x3, x4, x5, rfl⟩ := z
    exact q H'
end
end Sm
namespace Sm
open PySem PySem.Spec PyProof.Rows L2 Vd Xv LamX
/-! ### the head: facts by names -/
abbrev sInit0 : Stmt := inClass (top 1) 0
theorem ok_init0 {P : Program} {w : World} {K : PySem.W.Frag} {mg : Str → Option Value} {base : Heap} {f : Addr} {fd : FuncData} (F : FunD K "__init__" "ViewError.__init__" (defArgs sInit0) (defBody sInit0) (defScope sInit0) [] [] f fd) : FnOk P w K mg base CX0 1 f fd ["self"] sp0 := by
  refine F.ok (N := ["self"]) ⟨rfl, rfl, rfl, by decide +kernel, rfl, by decide +kernel, by decide +kernel⟩ (fun vs H Q E h => ?_) (fun cdv A outer s H vs Q E hr h => ?_)
  · obtain ⟨a, rfl, _⟩ := h
    rfl
  · obtain ⟨a, rfl, q⟩ := h
    exact ⟨_, pss_one ps_pass, q⟩
def f0 (K : PySem.W.Frag) : Addr := He.ma K (He.ga K "ViewError") "__init__"
def c3 : List Str := ["NoPrime", "NoText", "NoFact"]
def chk (K : PySem.W.Frag) : Bool :=
  (c3.all fun x => xclB K (He.ga K x) && (decide (PySem.W.exmOne K (.ref (He.ga K x)) (.ref (He.ga K "ViewError")) = some true) && (He.eqO (PySem.W.findIn K (.ref (He.ga K x)) "__init__") (some (some (.ref (f0 K)))) && decide (PySem.W.typeIn K (.ref (f0 K)) = some (.type "function"))))) &&
  ((c3.all fun x => c3.all fun y => decide (PySem.W.kitOne K (.ref (He.ga K x)) (.ref (He.ga K y)) = some (decide (He.ga K x = He.ga K y)))) && decide ([He.ga K "NoPrime", He.ga K "NoText", He.ga K "NoFact"].Nodup))
structure Ck (K : PySem.W.Frag) (mg : Str → Option Value) : Prop where
  cf : Cf K mg (He.ga K "NoPrime") (He.ga K "NoText") (He.ga K "NoFact")
  cmP : CM K mg "NoPrime" (He.ga K "NoPrime") (f0 K)
  cmT : CM K mg "NoText" (He.ga K "NoText") (f0 K)
  cmF : CM K mg "NoFact" (He.ga K "NoFact") (f0 K)
theorem chk_ok {K : PySem.W.Frag} {mg : Str → Option Value} (gv : mg "ViewError" = some (.ref (He.ga K "ViewError"))) (gp : mg "NoPrime" = some (.ref (He.ga K "NoPrime"))) (gt : mg "NoText" = some (.ref (He.ga K "NoText"))) (gf : mg "NoFact" = some (.ref (He.ga K "NoFact"))) (c : chk K = true) : Ck K mg := by
  obtain ⟨c1, c⟩ := He.ba c
  obtain ⟨c2, c4⟩ := He.ba c
  have l1 := List.all_eq_true.mp c1
  have l2 := List.all_eq_true.mp c2
  have one : ∀ x ∈ c3, XCl K (He.ga K x) ∧ PySem.W.exmOne K (.ref (He.ga K x)) (.ref (He.ga K "ViewError")) = some true ∧ PySem.W.findIn K (.ref (He.ga K x)) "__init__" = some (some (.ref (f0 K))) ∧ PySem.W.typeIn K (.ref (f0 K)) = some (.type "function") := fun x hx => by
    obtain ⟨h1, h⟩ := He.ba (l1 x hx)
    obtain ⟨h2, h⟩ := He.ba h
    obtain ⟨h3, h4⟩ := He.ba h
    exact ⟨xcl_ok h1, of_decide_eq_true h2, He.eqO_ok h3, of_decide_eq_true h4⟩
  have two : ∀ x ∈ c3, ∀ y ∈ c3, PySem.W.kitOne K (.ref (He.ga K x)) (.ref (He.ga K y)) = some (decide (He.ga K x = He.ga K y)) := fun x hx y hy => of_decide_eq_true (List.all_eq_true.mp (l2 x hx) y hy)
  have mp : ("NoPrime" : Str) ∈ c3 := List.mem_cons_self
  have mt : ("NoText" : Str) ∈ c3 := List.mem_cons_of_mem _ List.mem_cons_self
  have mf : ("NoFact" : Str) ∈ c3 := List.mem_cons_of_mem _ (List.mem_cons_of_mem _ List.mem_cons_self)
  have up : ∀ C ∈ [He.ga K "NoPrime", He.ga K "NoText", He.ga K "NoFact"], ∃ x ∈ c3, C = He.ga K x := fun C hC => by
    rcases List.mem_cons.mp hC with h | hC
    · exact ⟨_, mp, h⟩
    · rcases List.mem_cons.mp hC with h | hC
      · exact ⟨_, mt, h⟩
      · exact ⟨_, mf, List.mem_singleton.mp hC⟩
  have cm : ∀ x ∈ c3, mg x = some (.ref (He.ga K x)) → CM K mg x (He.ga K x) (f0 K) := fun x hx g => ⟨(one x hx).1.oex, (one x hx).2.2.1, (one x hx).2.2.2, g⟩
  exact {
    cf := {
      exc := fun C hC => by
        obtain ⟨x, hx, rfl⟩ := up C hC
        have x := (one x hx).1
        exact ⟨x.ga, x.gt, x.oex.exC, x.hd, x.ca, x.gn, x.tk, x.mo⟩
      view := ⟨_, gv, fun C hC => by
        obtain ⟨x, hx, rfl⟩ := up C hC
        exact (one x hx).2.1⟩
      gP := gp
      gT := gt
      gF := gf
      kit := fun C hC D hD => by
        obtain ⟨x, hx, rfl⟩ := up C hC
        obtain ⟨y, hy, rfl⟩ := up D hD
        exact two x hx y hy
      nd := of_decide_eq_true c4 }
    cmP := cm _ mp gp
    cmT := cm _ mt gt
    cmF := cm _ mf gf }
def dHand : He.DefD := ⟨("_law_hand", none), "_law_hand", "_law_hand", defArgs sHand, defBody sHand, defScope sHand, [], []⟩
def dDraw : He.DefD := ⟨("_law_draw", none), "_law_draw", "_law_draw", defArgs sDraw, defBody sDraw, defScope sDraw, [], []⟩
def dSome : He.DefD := ⟨("_law_some", none), "_law_some", "_law_some", defArgs sSome, defBody sSome, defScope sSome, [], []⟩
def dInteger : He.DefD := ⟨("is_integer", none), "is_integer", "is_integer", defArgs sInteger, defBody sInteger, defScope sInteger, [], []⟩
def dWord : He.DefD := ⟨("is_word", none), "is_word", "is_word", defArgs sWord, defBody sWord, defScope sWord, [], []⟩
def dWorth : He.DefD := ⟨("is_free_worth", none), "is_free_worth", "is_free_worth", defArgs sWorth, defBody sWorth, defScope sWorth, [], []⟩
def dName : He.DefD := ⟨("is_name", none), "is_name", "is_name", defArgs sName, defBody sName, defScope sName, [], []⟩
def dTupleOf : He.DefD := ⟨("is_tuple_of", none), "is_tuple_of", "is_tuple_of", defArgs sTupleOf, defBody sTupleOf, defScope sTupleOf, [], []⟩
def dRow : He.DefD := ⟨("is_free_row", none), "is_free_row", "is_free_row", defArgs sRow, defBody sRow, defScope sRow, [], []⟩
def dPrime : He.DefD := ⟨("is_prime", none), "is_prime", "is_prime", defArgs sPrime, defBody sPrime, defScope sPrime, [], []⟩
def dText : He.DefD := ⟨("is_text", none), "is_text", "is_text", defArgs sText, defBody sText, defScope sText, [], []⟩
def dFact : He.DefD := ⟨("is_fact", none), "is_fact", "is_fact", defArgs sFact, defBody sFact, defScope sFact, [], []⟩
def dLPrime : He.DefD := ⟨("_law_is_prime", none), "_law_is_prime", "_law_is_prime", defArgs sLPrime, defBody sLPrime, defScope sLPrime, [], []⟩
def dLText : He.DefD := ⟨("_law_is_text", none), "_law_is_text", "_law_is_text", defArgs sLText, defBody sLText, defScope sLText, [], []⟩
def dLWorth : He.DefD := ⟨("_law_is_worth", none), "_law_is_worth", "_law_is_worth", defArgs sLWorth, defBody sLWorth, defScope sLWorth, [], []⟩
def dLName : He.DefD := ⟨("_law_is_name", none), "_law_is_name", "_law_is_name", defArgs sLName, defBody sLName, defScope sLName, [], []⟩
def dLFact : He.DefD := ⟨("_law_is_fact", none), "_law_is_fact", "_law_is_fact", defArgs sLFact, defBody sLFact, defScope sLFact, [], []⟩
def dMixed : He.DefD := ⟨("mixed", none), "mixed", "mixed", defArgs sMixed, defBody sMixed, defScope sMixed, [], []⟩
def dLMix : He.DefD := ⟨("_law_mix", none), "_law_mix", "_law_mix", defArgs sLMix, defBody sLMix, defScope sLMix, [], []⟩
def dWorthText : He.DefD := ⟨("worth_text", none), "worth_text", "worth_text", defArgs sWorthText, defBody sWorthText, defScope sWorthText, [], []⟩
def dLWorthText : He.DefD := ⟨("_law_worth_text", none), "_law_worth_text", "_law_worth_text", defArgs sLWorthText, defBody sLWorthText, defScope sLWorthText, [], []⟩
def dTextOf : He.DefD := ⟨("text_of", none), "text_of", "text_of", defArgs sTextOf, defBody sTextOf, defScope sTextOf, [], []⟩
def dLFactText : He.DefD := ⟨("_law_fact_text", none), "_law_fact_text", "_law_fact_text", defArgs sLFactText, defBody sLFactText, defScope sLFactText, [], []⟩
def dLNumber : He.DefD := ⟨("_law_number", none), "_law_number", "_law_number", defArgs sLNumber, defBody sLNumber, defScope sLNumber, [], []⟩
def dCkPrime : He.DefD := ⟨("check_prime", none), "check_prime", "check_prime", defArgs sCkPrime, defBody sCkPrime, defScope sCkPrime, [], []⟩
def dCkFact : He.DefD := ⟨("check_fact", none), "check_fact", "check_fact", defArgs sCkFact, defBody sCkFact, defScope sCkFact, [], []⟩
def dMix : He.DefD := ⟨("mix", none), "mix", "mix", defArgs sMix, defBody sMix, defScope sMix, [], []⟩
def dFactText : He.DefD := ⟨("fact_text", none), "fact_text", "fact_text", defArgs sFactText, defBody sFactText, defScope sFactText, [], []⟩
def dNumberOf : He.DefD := ⟨("number_of", none), "number_of", "number_of", defArgs sNumberOf, defBody sNumberOf, defScope sNumberOf, [], []⟩
def dDeep : He.DefD := ⟨("_law_deep", none), "_law_deep", "_law_deep", defArgs sDeep, defBody sDeep, defScope sDeep, [], []⟩
def dOdd : He.DefD := ⟨("_law_odd", none), "_law_odd", "_law_odd", defArgs sOdd, defBody sOdd, defScope sOdd, [], []⟩
def dOddPrime : He.DefD := ⟨("_law_odd_prime", none), "_law_odd_prime", "_law_odd_prime", defArgs sOddPrime, defBody sOddPrime, defScope sOddPrime, [], []⟩
def dPrimeD : He.DefD := ⟨("_law_prime", none), "_law_prime", "_law_prime", defArgs sPrimeD, defBody sPrimeD, defScope sPrimeD, [], []⟩
def dWorthD : He.DefD := ⟨("_law_worth", none), "_law_worth", "_law_worth", defArgs sWorthD, defBody sWorthD, defScope sWorthD, [], []⟩
def dFactD : He.DefD := ⟨("_law_fact", none), "_law_fact", "_law_fact", defArgs sFactD, defBody sFactD, defScope sFactD, [], []⟩
def dTextD : He.DefD := ⟨("_law_text", none), "_law_text", "_law_text", defArgs sTextD, defBody sTextD, defScope sTextD, [], []⟩
def dBent : He.DefD := ⟨("_law_bent_fact", none), "_law_bent_fact", "_law_bent_fact", defArgs sBent, defBody sBent, defScope sBent, [], []⟩
def dIs : He.DefD := ⟨("_law_is", none), "_law_is", "_law_is", defArgs sIs, defBody sIs, defScope sIs, [], []⟩
def dIsDue : He.DefD := ⟨("_law_is_due", none), "_law_is_due", "_law_is_due", defArgs sIsDue, defBody sIsDue, defScope sIsDue, [], []⟩
def dLWord : He.DefD := ⟨("_law_word", none), "_law_word", "_law_word", defArgs sLWord, defBody sLWord, defScope sLWord, [], []⟩
def dRef : He.DefD := ⟨("_law_refused_right", none), "_law_refused_right", "_law_refused_right", defArgs sRef, defBody sRef, defScope sRef, [], []⟩
def dLaw : He.DefD := ⟨("law", none), "law", "law", defArgs sLaw, defBody sLaw, defScope sLaw, [], []⟩
def dI0 : He.DefD := ⟨("ViewError", some "__init__"), "__init__", "ViewError.__init__", defArgs sInit0, defBody sInit0, defScope sInit0, [], []⟩
def fn : List He.DefD := [dHand, dDraw, dSome, dInteger, dWord, dWorth, dName, dTupleOf, dRow, dPrime, dText, dFact, dLPrime, dLText, dLWorth, dLName, dLFact, dMixed, dLMix, dWorthText, dLWorthText, dTextOf, dLFactText, dLNumber, dCkPrime, dCkFact, dMix, dFactText, dNumberOf, dDeep, dOdd, dOddPrime, dPrimeD, dWorthD, dFactD, dTextD, dBent, dIs, dIsDue, dLWord, dRef, dLaw, dI0]
def fa : List He.Fa := [.glo "_law_hand", .glo "_law_draw", .glo "_law_some", .glo "is_integer", .glo "is_word", .glo "is_free_worth", .glo "is_name", .glo "is_tuple_of", .glo "is_free_row", .glo "is_prime", .glo "is_text", .glo "is_fact", .glo "_law_is_prime", .glo "_law_is_text", .glo "_law_is_worth", .glo "_law_is_name", .glo "_law_is_fact", .glo "mixed", .glo "_law_mix", .glo "worth_text", .glo "_law_worth_text", .glo "text_of", .glo "_law_fact_text", .glo "_law_number", .glo "check_prime", .glo "check_fact", .glo "mix", .glo "fact_text", .glo "number_of", .glo "_law_deep", .glo "_law_odd", .glo "_law_odd_prime", .glo "_law_prime", .glo "_law_worth", .glo "_law_fact", .glo "_law_text", .glo "_law_bent_fact", .glo "_law_is", .glo "_law_is_due", .glo "_law_word", .glo "_law_refused_right", .glo "law", .glo "ViewError", .glo "NoPrime", .glo "NoText", .glo "NoFact", .free "abs", .free "isinstance", .free "int", .free "bool", .free "tuple", .free "list", .free "str", .free "len", .free "all", .free "zip", .free "range", .free "ord", .int "LONGEST_WORD" 20, .int "LONGEST_NAME" 8, .int "LEAST_PRIME" 1000, .int "GREATEST_PRIME" 170141183460469231731687303715884105728, .int "BEFORE_BLANK" 31]
def tf : List He.Defn := [("_law_refused_right", none)]
def hk : PySem.W.Hook := He.hookX 5 fa fn [] tf chk
def ob (s : PySem.W.SharedT) : He.AlX := He.obsX 5 fa fn [] tf chk (HandSHeadRun.getT s)
theorem ob_eq (s : PySem.W.SharedT) : ob s = hk.obs s.abs := He.obsX_eq (HandSHeadRun.getT_eq s)
theorem facts {w : World} {K : PySem.W.Frag} {h : Heap} {mg : Str → Option Value} {f : Addr} (X : K.In h) (G : h.Ns mainGlobals mg) (hfa : mg ("law" : Str) = some (.ref f)) (c : He.SaysX fa fn [] tf chk w h K) :
    LamX.LawAtS PySem.Challenge.rw_shownviews_k27_whole_mixing_texts_number w K CX0 10 63 "script" mg f h := by
  have cd : He.SaysD fa fn K := c.t.d
  obtain ⟨fdHand, FHand⟩ := cd.def_ 0 (d := dHand) rfl
  obtain ⟨fdDraw, FDraw⟩ := cd.def_ 1 (d := dDraw) rfl
  obtain ⟨fdSome, FSome⟩ := cd.def_ 2 (d := dSome) rfl
  obtain ⟨fdInteger, FInteger⟩ := cd.def_ 3 (d := dInteger) rfl
  obtain ⟨fdWord, FWord⟩ := cd.def_ 4 (d := dWord) rfl
  obtain ⟨fdWorth, FWorth⟩ := cd.def_ 5 (d := dWorth) rfl
  obtain ⟨fdName, FName⟩ := cd.def_ 6 (d := dName) rfl
  obtain ⟨fdTupleOf, FTupleOf⟩ := cd.def_ 7 (d := dTupleOf) rfl
  obtain ⟨fdRow, FRow⟩ := cd.def_ 8 (d := dRow) rfl
  obtain ⟨fdPrime, FPrime⟩ := cd.def_ 9 (d := dPrime) rfl
  obtain ⟨fdText, FText⟩ := cd.def_ 10 (d := dText) rfl
  obtain ⟨fdFact, FFact⟩ := cd.def_ 11 (d := dFact) rfl
  obtain ⟨fdLPrime, FLPrime⟩ := cd.def_ 12 (d := dLPrime) rfl
  obtain ⟨fdLText, FLText⟩ := cd.def_ 13 (d := dLText) rfl
  obtain ⟨fdLWorth, FLWorth⟩ := cd.def_ 14 (d := dLWorth) rfl
  obtain ⟨fdLName, FLName⟩ := cd.def_ 15 (d := dLName) rfl
  obtain ⟨fdLFact, FLFact⟩ := cd.def_ 16 (d := dLFact) rfl
  obtain ⟨fdMixed, FMixed⟩ := cd.def_ 17 (d := dMixed) rfl
  obtain ⟨fdLMix, FLMix⟩ := cd.def_ 18 (d := dLMix) rfl
  obtain ⟨fdWorthText, FWorthText⟩ := cd.def_ 19 (d := dWorthText) rfl
  obtain ⟨fdLWorthText, FLWorthText⟩ := cd.def_ 20 (d := dLWorthText) rfl
  obtain ⟨fdTextOf, FTextOf⟩ := cd.def_ 21 (d := dTextOf) rfl
  obtain ⟨fdLFactText, FLFactText⟩ := cd.def_ 22 (d := dLFactText) rfl
  obtain ⟨fdLNumber, FLNumber⟩ := cd.def_ 23 (d := dLNumber) rfl
  obtain ⟨fdCkPrime, FCkPrime⟩ := cd.def_ 24 (d := dCkPrime) rfl
  obtain ⟨fdCkFact, FCkFact⟩ := cd.def_ 25 (d := dCkFact) rfl
  obtain ⟨fdMix, FMix⟩ := cd.def_ 26 (d := dMix) rfl
  obtain ⟨fdFactText, FFactText⟩ := cd.def_ 27 (d := dFactText) rfl
  obtain ⟨fdNumberOf, FNumberOf⟩ := cd.def_ 28 (d := dNumberOf) rfl
  obtain ⟨fdDeep, FDeep⟩ := cd.def_ 29 (d := dDeep) rfl
  obtain ⟨fdOdd, FOdd⟩ := cd.def_ 30 (d := dOdd) rfl
  obtain ⟨fdOddPrime, FOddPrime⟩ := cd.def_ 31 (d := dOddPrime) rfl
  obtain ⟨fdPrimeD, FPrimeD⟩ := cd.def_ 32 (d := dPrimeD) rfl
  obtain ⟨fdWorthD, FWorthD⟩ := cd.def_ 33 (d := dWorthD) rfl
  obtain ⟨fdFactD, FFactD⟩ := cd.def_ 34 (d := dFactD) rfl
  obtain ⟨fdTextD, FTextD⟩ := cd.def_ 35 (d := dTextD) rfl
  obtain ⟨fdBent, FBent⟩ := cd.def_ 36 (d := dBent) rfl
  obtain ⟨fdIs, FIs⟩ := cd.def_ 37 (d := dIs) rfl
  obtain ⟨fdIsDue, FIsDue⟩ := cd.def_ 38 (d := dIsDue) rfl
  obtain ⟨fdLWord, FLWord⟩ := cd.def_ 39 (d := dLWord) rfl
  obtain ⟨fdRef, FRef⟩ := cd.def_ 40 (d := dRef) rfl
  obtain ⟨fdLaw, FLaw⟩ := cd.def_ 41 (d := dLaw) rfl
  obtain ⟨fdI0, FI0⟩ := cd.def_ 42 (d := dI0) rfl
  have e := hfa.symm.trans (He.glo_ok X G (cd.fact 41 (f := .glo "law") rfl))
  cases e
  have b := FunD.bindsA (ps := ["script"]) FLaw (fun _ _ _ _ _ _ us hl => match us, hl with | [_], _ => rfl)
  have M : Nm mg := {
    isinstance := (He.free_ok X G (cd.fact 47 (f := .free "isinstance") rfl))
    int := (He.free_ok X G (cd.fact 48 (f := .free "int") rfl))
    bool := (He.free_ok X G (cd.fact 49 (f := .free "bool") rfl))
    tuple := (He.free_ok X G (cd.fact 50 (f := .free "tuple") rfl))
    list := (He.free_ok X G (cd.fact 51 (f := .free "list") rfl))
    str := (He.free_ok X G (cd.fact 52 (f := .free "str") rfl))
    len := (He.free_ok X G (cd.fact 53 (f := .free "len") rfl))
    all := (He.free_ok X G (cd.fact 54 (f := .free "all") rfl))
    zip := (He.free_ok X G (cd.fact 55 (f := .free "zip") rfl))
    range := (He.free_ok X G (cd.fact 56 (f := .free "range") rfl))
    ord := (He.free_ok X G (cd.fact 57 (f := .free "ord") rfl))
    LONGEST_WORD_ := He.int_ok X G (cd.fact 58 (f := .int "LONGEST_WORD" 20) rfl)
    LONGEST_NAME_ := He.int_ok X G (cd.fact 59 (f := .int "LONGEST_NAME" 8) rfl)
    LEAST_PRIME_ := He.int_ok X G (cd.fact 60 (f := .int "LEAST_PRIME" 1000) rfl)
    GREATEST_PRIME_ := He.int_ok X G (cd.fact 61 (f := .int "GREATEST_PRIME" 170141183460469231731687303715884105728) rfl)
    BEFORE_BLANK_ := He.int_ok X G (cd.fact 62 (f := .int "BEFORE_BLANK" 31) rfl) }
  have Z := chk_ok (He.glo_ok X G (cd.fact 42 (f := .glo "ViewError") rfl)) (He.glo_ok X G (cd.fact 43 (f := .glo "NoPrime") rfl)) (He.glo_ok X G (cd.fact 44 (f := .glo "NoText") rfl)) (He.glo_ok X G (cd.fact 45 (f := .glo "NoFact") rfl)) c.more
  obtain ⟨ocW, odW, dVW, kVW, docW, pmW, anW, cdg, ctW, oslW, eW, lkW, hcdW, _, _⟩ := FLWord.ex
  obtain ⟨ocL, odL, dVL, kVL, docL, pmL, anL, cdL, ctL, oslL, eL, lkL, hcdL, _, _⟩ := FRef.ex
  obtain ⟨cc, ecc⟩ := He.codeIn_ref hcdL
  have ec : He.codeOf K ("_law_refused_right", none) = cc := He.codeOf_eq lkL (by rw [eL, ecc])
  have hcode : ∀ oc od dV kV doc pm an cdv ct osl, K.lookup (He.fAd K ("_law_refused_right", none)) = some ⟨oc, od, .func (PySem.W.fnOf "_law_refused_right" "_law_refused_right" (defArgs sRef) (defBody sRef) (defScope sRef) dV kV doc pm an cdv ct), osl⟩ → cdv = .ref (He.cT K ("_law_refused_right", none)).1 := fun oc od dV kV doc pm an cdv ct osl lk => by
    rw [eL] at lkL
    have e2 := lk.symm.trans lkL
    have e3 : cdv = cdL := congrArg (fun z : Option Obj => match z with | some ⟨_, _, .func fd, _⟩ => fd.code | _ => .none) e2
    rw [e3, ecc, ← ec]
    rfl
  refine ⟨fdLaw, [He.cT K ("_law_refused_right", none)], spLaw K (He.cT K ("_law_refused_right", none)).2, fun p hp => ?_, fun p hp => ?_, fun p hp => ?_, fun s u => b s [u] rfl, fun H a ns hl _ hP hS => ⟨a, ns, rfl, hS, hl, hP _ List.mem_cons_self, fun _ => rfl⟩, fun base _ _ hT => ?_⟩
  · rw [List.mem_singleton.mp hp]
    exact c.empty _ List.mem_cons_self
  · rw [List.mem_singleton.mp hp]
    exact c.out _ List.mem_cons_self
  · rw [List.mem_singleton.mp hp]
    exact PySem.W.codeHd_of_K X (c.hd _ List.mem_cons_self)
  generalize (PySem.Challenge.rw_shownviews_k27_whole_mixing_texts_number).prog = P
  have eDraw : Df P w K mg base "_law_draw" 1 ["hand", "many"] spDraw := ⟨_, _, (He.glo_ok X G (cd.fact 1 (f := .glo "_law_draw") rfl)), FDraw.kp, FDraw.bindsN (fun _ _ _ _ _ _ us hl => match us, hl with | [_, _], _ => rfl), ok_draw FDraw M.int M.len⟩
  have eSome : Df P w K mg base "_law_some" 2 ["hand", "things"] (spSome K) := ⟨_, _, (He.glo_ok X G (cd.fact 2 (f := .glo "_law_some") rfl)), FSome.kp, FSome.bindsN (fun _ _ _ _ _ _ us hl => match us, hl with | [_, _], _ => rfl), ok_some FSome eDraw M.len⟩
  have eInt : Df P w K mg base "is_integer" 1 ["thing"] (spA K intD) := ⟨_, _, (He.glo_ok X G (cd.fact 3 (f := .glo "is_integer") rfl)), FInteger.kp, FInteger.bindsN (fun _ _ _ _ _ _ us hl => match us, hl with | [_], _ => rfl), ok_integer FInteger M⟩
  have eWord : Df P w K mg base "is_word" 1 ["thing"] (spA K wordD) := ⟨_, _, (He.glo_ok X G (cd.fact 4 (f := .glo "is_word") rfl)), FWord.kp, FWord.bindsN (fun _ _ _ _ _ _ us hl => match us, hl with | [_], _ => rfl), ok_word FWord M⟩
  have eWorth : Df P w K mg base "is_free_worth" 2 ["thing"] (spA K worthD) := ⟨_, _, (He.glo_ok X G (cd.fact 5 (f := .glo "is_free_worth") rfl)), FWorth.kp, FWorth.bindsN (fun _ _ _ _ _ _ us hl => match us, hl with | [_], _ => rfl), ok_worth FWorth eInt eWord⟩
  have eName : Df P w K mg base "is_name" 1 ["thing"] (spA K nameD) := ⟨_, _, (He.glo_ok X G (cd.fact 6 (f := .glo "is_name") rfl)), FName.kp, FName.bindsN (fun _ _ _ _ _ _ us hl => match us, hl with | [_], _ => rfl), ok_name FName M⟩
  have eTup : Df P w K mg base "is_tuple_of" 1 ["thing", "least", "most"] (spTupOf K) := ⟨_, _, (He.glo_ok X G (cd.fact 7 (f := .glo "is_tuple_of") rfl)), FTupleOf.kp, FTupleOf.bindsN (fun _ _ _ _ _ _ us hl => match us, hl with | [_, _, _], _ => rfl), ok_tupleOf FTupleOf M⟩
  have eRow : Df P w K mg base "is_free_row" 3 ["thing"] (spA K rowD) := ⟨_, _, (He.glo_ok X G (cd.fact 8 (f := .glo "is_free_row") rfl)), FRow.kp, FRow.bindsN (fun _ _ _ _ _ _ us hl => match us, hl with | [_], _ => rfl), ok_row FRow M eTup eWorth⟩
  have ePrime : Df P w K mg base "is_prime" 2 ["thing"] (spA K primeD) := ⟨_, _, (He.glo_ok X G (cd.fact 9 (f := .glo "is_prime") rfl)), FPrime.kp, FPrime.bindsN (fun _ _ _ _ _ _ us hl => match us, hl with | [_], _ => rfl), ok_prime FPrime M eInt⟩
  have eText : Df P w K mg base "is_text" 1 ["thing"] (spA K textD) := ⟨_, _, (He.glo_ok X G (cd.fact 10 (f := .glo "is_text") rfl)), FText.kp, FText.bindsN (fun _ _ _ _ _ _ us hl => match us, hl with | [_], _ => rfl), ok_text FText M⟩
  have eFact : Df P w K mg base "is_fact" 4 ["thing"] (spA K factD) := ⟨_, _, (He.glo_ok X G (cd.fact 11 (f := .glo "is_fact") rfl)), FFact.kp, FFact.bindsN (fun _ _ _ _ _ _ us hl => match us, hl with | [_], _ => rfl), ok_fact FFact eTup eName eText eRow⟩
  have eLPrime : Df P w K mg base "_law_is_prime" 1 ["thing"] (spA K primeD) := ⟨_, _, (He.glo_ok X G (cd.fact 12 (f := .glo "_law_is_prime") rfl)), FLPrime.kp, FLPrime.bindsN (fun _ _ _ _ _ _ us hl => match us, hl with | [_], _ => rfl), ok_lprime FLPrime M⟩
  have eLText : Df P w K mg base "_law_is_text" 1 ["thing"] (spA K textD) := ⟨_, _, (He.glo_ok X G (cd.fact 13 (f := .glo "_law_is_text") rfl)), FLText.kp, FLText.bindsN (fun _ _ _ _ _ _ us hl => match us, hl with | [_], _ => rfl), ok_ltext FLText M⟩
  have eLWorth : Df P w K mg base "_law_is_worth" 1 ["thing"] (spA K worthD) := ⟨_, _, (He.glo_ok X G (cd.fact 14 (f := .glo "_law_is_worth") rfl)), FLWorth.kp, FLWorth.bindsN (fun _ _ _ _ _ _ us hl => match us, hl with | [_], _ => rfl), ok_lworth FLWorth M⟩
  have eLName : Df P w K mg base "_law_is_name" 1 ["thing"] (spA K nameD) := ⟨_, _, (He.glo_ok X G (cd.fact 15 (f := .glo "_law_is_name") rfl)), FLName.kp, FLName.bindsN (fun _ _ _ _ _ _ us hl => match us, hl with | [_], _ => rfl), ok_lname FLName M⟩
  have eLFact : Df P w K mg base "_law_is_fact" 2 ["thing"] (spA K factD) := ⟨_, _, (He.glo_ok X G (cd.fact 16 (f := .glo "_law_is_fact") rfl)), FLFact.kp, FLFact.bindsN (fun _ _ _ _ _ _ us hl => match us, hl with | [_], _ => rfl), ok_lfact FLFact M eLName eLText eLWorth⟩
  have eMixed : Df P w K mg base "mixed" 1 ["p", "text"] spMix := ⟨_, _, (He.glo_ok X G (cd.fact 17 (f := .glo "mixed") rfl)), FMixed.kp, FMixed.bindsN (fun _ _ _ _ _ _ us hl => match us, hl with | [_, _], _ => rfl), ok_mixed FMixed M⟩
  have eLMix : Df P w K mg base "_law_mix" 1 ["p", "text"] spMix := ⟨_, _, (He.glo_ok X G (cd.fact 18 (f := .glo "_law_mix") rfl)), FLMix.kp, FLMix.bindsN (fun _ _ _ _ _ _ us hl => match us, hl with | [_, _], _ => rfl), ok_lmix FLMix M⟩
  have eWT : Df P w K mg base "worth_text" 1 ["worth"] (spWorthText K) := ⟨_, _, (He.glo_ok X G (cd.fact 19 (f := .glo "worth_text") rfl)), FWorthText.kp, FWorthText.bindsN (fun _ _ _ _ _ _ us hl => match us, hl with | [_], _ => rfl), ok_worthText FWorthText M⟩
  have eLWT : Df P w K mg base "_law_worth_text" 1 ["worth"] (spWorthText K) := ⟨_, _, (He.glo_ok X G (cd.fact 20 (f := .glo "_law_worth_text") rfl)), FLWorthText.kp, FLWorthText.bindsN (fun _ _ _ _ _ _ us hl => match us, hl with | [_], _ => rfl), ok_lworthText FLWorthText M⟩
  have eTextOf : Df P w K mg base "text_of" 2 ["fact"] (spText K) := ⟨_, _, (He.glo_ok X G (cd.fact 21 (f := .glo "text_of") rfl)), FTextOf.kp, FTextOf.bindsN (fun _ _ _ _ _ _ us hl => match us, hl with | [_], _ => rfl), ok_textOf FTextOf M eWT⟩
  have eLFT : Df P w K mg base "_law_fact_text" 2 ["fact"] (spText K) := ⟨_, _, (He.glo_ok X G (cd.fact 22 (f := .glo "_law_fact_text") rfl)), FLFactText.kp, FLFactText.bindsN (fun _ _ _ _ _ _ us hl => match us, hl with | [_], _ => rfl), ok_lfactText FLFactText M eLWT⟩
  have eLNum : Df P w K mg base "_law_number" 3 ["p", "fact"] (spNum K) := ⟨_, _, (He.glo_ok X G (cd.fact 23 (f := .glo "_law_number") rfl)), FLNumber.kp, FLNumber.bindsN (fun _ _ _ _ _ _ us hl => match us, hl with | [_, _], _ => rfl), ok_lnumber FLNumber eLMix eLFT⟩
  have i0 : DI0 P w K mg base (f0 K) := ⟨_, ok_init0 FI0, FI0.bindsN (fun _ _ _ _ _ _ us hl => match us, hl with | [_], _ => rfl)⟩
  have eCkP : DfX P w K mg base "check_prime" 3 ["thing"] (spCk K (He.ga K "NoPrime") primeD) := ⟨_, _, (He.glo_ok X G (cd.fact 24 (f := .glo "check_prime") rfl)), FCkPrime.kp, FCkPrime.bindsN (fun _ _ _ _ _ _ us hl => match us, hl with | [_], _ => rfl), ok_ckPrime FCkPrime Z.cmP i0 ePrime⟩
  have eCkF : DfX P w K mg base "check_fact" 5 ["thing"] (spCk K (He.ga K "NoFact") factD) := ⟨_, _, (He.glo_ok X G (cd.fact 25 (f := .glo "check_fact") rfl)), FCkFact.kp, FCkFact.bindsN (fun _ _ _ _ _ _ us hl => match us, hl with | [_], _ => rfl), ok_ckFact FCkFact Z.cmF i0 eFact⟩
  have eMix : DfX P w K mg base "mix" 4 ["p", "text"] (spMixX K (He.ga K "NoPrime") (He.ga K "NoText")) := ⟨_, _, (He.glo_ok X G (cd.fact 26 (f := .glo "mix") rfl)), FMix.kp, FMix.bindsN (fun _ _ _ _ _ _ us hl => match us, hl with | [_, _], _ => rfl), ok_mix FMix Z.cmT i0 eCkP eText eMixed⟩
  have eFT : DfX P w K mg base "fact_text" 6 ["fact"] (spFT K (He.ga K "NoFact")) := ⟨_, _, (He.glo_ok X G (cd.fact 27 (f := .glo "fact_text") rfl)), FFactText.kp, FFactText.bindsN (fun _ _ _ _ _ _ us hl => match us, hl with | [_], _ => rfl), ok_factText FFactText eCkF eTextOf⟩
  have eNum : DfX P w K mg base "number_of" 6 ["p", "fact"] (spNumX K (He.ga K "NoPrime") (He.ga K "NoFact")) := ⟨_, _, (He.glo_ok X G (cd.fact 28 (f := .glo "number_of") rfl)), FNumberOf.kp, FNumberOf.bindsN (fun _ _ _ _ _ _ us hl => match us, hl with | [_, _], _ => rfl), ok_numberOf FNumberOf eCkP eCkF eTextOf eMixed⟩
  have eDeep : Df P w K mg base "_law_deep" 2 ["hand"] (spY K Ok) := ⟨_, _, (He.glo_ok X G (cd.fact 29 (f := .glo "_law_deep") rfl)), FDeep.kp, FDeep.bindsN (fun _ _ _ _ _ _ us hl => match us, hl with | [_], _ => rfl), ok_deep FDeep M eDraw⟩
  have eOdd : Df P w K mg base "_law_odd" 3 ["hand"] (spY K Ok) := ⟨_, _, (He.glo_ok X G (cd.fact 30 (f := .glo "_law_odd") rfl)), FOdd.kp, FOdd.bindsN (fun _ _ _ _ _ _ us hl => match us, hl with | [_], _ => rfl), ok_odd FOdd M eSome eDeep⟩
  have eOddP : Df P w K mg base "_law_odd_prime" 3 ["hand"] (spY K Ok) := ⟨_, _, (He.glo_ok X G (cd.fact 31 (f := .glo "_law_odd_prime") rfl)), FOddPrime.kp, FOddPrime.bindsN (fun _ _ _ _ _ _ us hl => match us, hl with | [_], _ => rfl), ok_oddPrime FOddPrime M eSome⟩
  have ePrimeD : Df P w K mg base "_law_prime" 3 ["hand"] (spY K RP) := ⟨_, _, (He.glo_ok X G (cd.fact 32 (f := .glo "_law_prime") rfl)), FPrimeD.kp, FPrimeD.bindsN (fun _ _ _ _ _ _ us hl => match us, hl with | [_], _ => rfl), ok_primeD FPrimeD M eSome⟩
  have eWorthD : Df P w K mg base "_law_worth" 3 ["hand"] (spY K RW) := ⟨_, _, (He.glo_ok X G (cd.fact 33 (f := .glo "_law_worth") rfl)), FWorthD.kp, FWorthD.bindsN (fun _ _ _ _ _ _ us hl => match us, hl with | [_], _ => rfl), ok_worthD FWorthD M eDraw eSome⟩
  have eFactD : Df P w K mg base "_law_fact" 4 ["hand"] (spY K RF) := ⟨_, _, (He.glo_ok X G (cd.fact 34 (f := .glo "_law_fact") rfl)), FFactD.kp, FFactD.bindsN (fun _ _ _ _ _ _ us hl => match us, hl with | [_], _ => rfl), ok_factD FFactD M eDraw eSome eWorthD⟩
  have eTextD : Df P w K mg base "_law_text" 3 ["hand"] (spY K RX) := ⟨_, _, (He.glo_ok X G (cd.fact 35 (f := .glo "_law_text") rfl)), FTextD.kp, FTextD.bindsN (fun _ _ _ _ _ _ us hl => match us, hl with | [_], _ => rfl), ok_textD FTextD M eDraw eSome⟩
  have eBent : Df P w K mg base "_law_bent_fact" 4 ["hand", "fact"] (spBent K) := ⟨_, _, (He.glo_ok X G (cd.fact 36 (f := .glo "_law_bent_fact") rfl)), FBent.kp, FBent.bindsN (fun _ _ _ _ _ _ us hl => match us, hl with | [_, _], _ => rfl), ok_bent FBent M eDraw eSome eOdd⟩
  have eIs : Df P w K mg base "_law_is" 1 ["told", "due"] spIs := ⟨_, _, (He.glo_ok X G (cd.fact 37 (f := .glo "_law_is") rfl)), FIs.kp, FIs.bindsN (fun _ _ _ _ _ _ us hl => match us, hl with | [_, _], _ => rfl), ok_is FIs M⟩
  have eIsDue : Df P w K mg base "_law_is_due" 1 ["told", "due"] spIsDue := ⟨_, _, (He.glo_ok X G (cd.fact 38 (f := .glo "_law_is_due") rfl)), FIsDue.kp, FIsDue.bindsN (fun _ _ _ _ _ _ us hl => match us, hl with | [_, _], _ => rfl), ok_isDue FIsDue⟩
  have Dr0 : Dr P w K mg base (He.ga K "NoPrime") (He.ga K "NoText") (He.ga K "NoFact") := { draw := eDraw, some := eSome, oddPrime := eOddP, fact := eFactD, bent := eBent, isPrime := eLPrime, isText := eLText, isFact := eLFact, isDue := eIsDue, mix := eMix, num := eNum, ft := eFT }
  have bW : L2.Binds K fdLWord ["call"] [] := FLWord.bindsN (fun _ _ _ _ _ _ us hl => match us, hl with | [_], _ => rfl)
  have wf : Wf K mg (He.fAd K ("_law_word", none)) cdg := ⟨⟨ocW, odW, dVW, kVW, docW, pmW, anW, ctW, oslW, eW ▸ lkW, eW ▸ bW⟩, hcdW, FLWord.kp, (He.glo_ok X G (cd.fact 39 (f := .glo "_law_word") rfl))⟩
  have eRef : Df P w K mg base "_law_refused_right" 9 ["hand"] (spRef (He.cT K ("_law_refused_right", none)).2) := ⟨_, _, (He.glo_ok X G (cd.fact 40 (f := .glo "_law_refused_right") rfl)), FRef.kp, FRef.bindsN (fun _ _ _ _ _ _ us hl => match us, hl with | [_], _ => rfl), ok_ref FRef hcode (hT _ List.mem_cons_self) M Z.cf Dr0 wf⟩
  have Dx : Dl P w K mg base (He.ga K "NoPrime") (He.ga K "NoText") (He.ga K "NoFact") (He.cT K ("_law_refused_right", none)).2 := {
    r := Dr0
    hand := ⟨_, _, (He.glo_ok X G (cd.fact 0 (f := .glo "_law_hand") rfl)), FHand.kp, FHand.bindsN (fun _ _ _ _ _ _ us hl => match us, hl with | [_], _ => rfl), ok_hand FHand (He.free_ok X G (cd.fact 46 (f := .free "abs") rfl)) M.int M.len⟩
    prime := ePrimeD, text := eTextD, lmix := eLMix, lft := eLFT, lnum := eLNum, is := eIs, ref := eRef }
  exact ok_law FLaw M Dx
end Sm
namespace Sm
open PySem PySem.Spec PyProof.Rows L2
abbrev R : PySem.W.OpenRow := PySem.W.OpenLaw.row PySem.Challenge.rw_shownviews_k27_whole_mixing_texts_number
def loose1 : List Str := ["ViewError", "NoFact", "NoPrime", "NoText", "worth_text", "LONGEST_WORD", "LONGEST_NAME", "is_integer", "is_word", "is_free_worth", "is_name", "is_tuple_of", "is_free_row", "LEAST_PRIME", "GREATEST_PRIME", "BEFORE_BLANK", "is_prime", "check_prime", "is_text", "mix", "mixed", "is_fact", "check_fact", "fact_text", "text_of"]
def loose2 : List Str := ["number_of", "_law_hand", "_law_draw", "_law_some", "_law_mix", "_law_worth_text", "_law_fact_text", "_law_number", "_law_deep", "_law_odd", "_law_odd_prime", "_law_is_prime", "_law_is_text", "_law_is_worth", "_law_is_name", "_law_is_fact", "_law_bent_fact", "_law_prime", "_law_worth", "_law_fact", "_law_is", "_law_text", "_law_word", "_law_is_due", "_law_refused_right"]
abbrev loose : List Str := loose1 ++ loose2
theorem run (w : World) : HandSHeadRun.RunEq R (PySem.W.view R.prog [55]) hk ob 20000 loose w := by
  intro os
  kernel_rfl
end Sm
open PySem PySem.W PySem.Calls PyProof.Rows
theorem PySem.Challenge.cw_shownviews_k27_whole_mixing_texts_number_holds : PySem.Challenge.rw_shownviews_k27_whole_mixing_texts_number.Holds := by
  w_on; o_law
  refine HandSHeadRun.head_any (r := Sm.R) (q := view Sm.R.prog [55]) (H := Sm.hk) (ob := Sm.ob) (M := 20000) (loose := Sm.loose) (d := HandSHeadRun.topDef Sm.R.prog 55) (kwd := []) Sm.ob_eq
    (by kernel_rfl) (fun s => by kernel_rfl) Sm.run (by kernel_rfl) (by kernel_rfl) (by kernel_rfl) (by rfl) (by first | assumption | decide +kernel) (by decide +kernel) ⟨rfl, rfl, rfl, rfl, rfl, by decide +kernel⟩ ?hw ?hc
  case hw => w_witness2
  case hc =>
    refine LamX.walk_ofTsE (l := PySem.Challenge.rw_shownviews_k27_whole_mixing_texts_number) (n := 63) (k := 10) (x := "script") (CX := fun _ => L2.CX0) rfl (by decide) (by kernel_rfl) ⟨rfl, by decide, by decide⟩ ?F (fun _ _ _ _ _ h => h)
    intro w mg fa h Y G hmg0
    obtain ⟨K, KX, c⟩ := Y
    have hmg : mg ("law" : PySem.Str) = some (.ref fa) := by
      have e : (HandSHeadRun.topDef Sm.R.prog 55).name = ("law" : PySem.Str) := by kernel_rfl
      rw [← e]
      exact hmg0
    exact ⟨K, KX, Sm.facts KX G hmg c⟩
