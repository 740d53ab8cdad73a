import PyProof.Rows.All
import Wide.All
import OpenK.AllK
import Wide.FinOn
import KE.KDictZip
import KE.KDictItemsList
import HandS.ForMost
import HandS.WordsExc
import HandS.More
import KE.KDictPairs
import HandS.Base
import HandS.Call
import HandS.List
import HandS.Dict
import HandS.Conv
import HandS.TupAny
import HandS.Text
import HandS.SortOrd
import HandS.SortRule
import HandS.DictTup
import HandS.SortInts
import KE.KStateDown
import HandS.Defaults
import HandS.Codes
import HandS.IsInst
import HandS.Head0
import HandS.Head1
import HandS.Head2
import HandS.HeadEnd
import HandS.HeadHook1
import HandS.HeadHook2
import HandS.Lambda
import PyProof.EqKinds
import PyProof.EqAt
import PyProof.Dict
import PyProof.ReprRoads
import HandS.Comp
import HandS.Iter
import HandS.Zip
import KE.KIntText
import PyProof.StrLawsRepr
import PyProof.ReprNest
import PyProof.ReprDict
import KE.KRevSl
import PyProof.Rows.TupMore
import HandS.Style
import PyProof.StrBlock2
import HandS.TupMul
import HandS.TupSets
import KE.KExcIs
import HandS.ExcInit
import HandS.Small
import HandS.ExcIs
import HandS.HeadWalk
import HandS.HeadHook4
import PySem.Challenge.RW_shownviews_k01_schemas_rows_deeds_edits
set_option Elab.async false
set_option linter.all false
set_option maxRecDepth 100000
set_option maxHeartbeats 0
/-! list(zip(xs, ys)) over two lists of one length. -/
namespace Zl
open PySem PySem.Spec PySem.Calls PyProof.Rows
theorem no_len : typeLookup (.type "zip") "__len__" = pure none := am_miss_of_fast (by decide +kernel)
theorem no_hint : typeLookup (.type "zip") "__length_hint__" = pure none := am_miss_of_fast (by decide +kernel)
/-- the zip at z behind i turns; what it gave out lies from N on -/
structure Zs (N z TI TO i1 i2 l1 l2 : Addr) (xs ys : Array Value) (h : Heap) (i : Nat) : Prop where
  pr : IsPair h TI (.ref i1) (.ref i2)
  a1 : h.IsListIter i1 l1 i
  a2 : h.IsListIter i2 l2 i
  b1 : h.IsList l1 xs
  b2 : h.IsList l2 ys
  out : (IsZip h z TI TO .none ∧ ∃ a b, IsPair h TO a b) ∨ ∃ T f oT, IsZipHeld h z TI TO T f ∧ h.get? T = some oT ∧ N ≤ T
/-- the addresses that a turn may change -/
structure Low (N S z TI TO i1 i2 l1 l2 : Addr) : Prop where
  ap : ZipApart z TI TO i1 i2 l1 l2
  pS : S < N
  pz : z < N
  pTO : TO < N
  p1 : i1 < N
  p2 : i2 < N
  Sz : S ≠ z
  STI : S ≠ TI
  STO : S ≠ TO
  S1 : S ≠ i1
  S2 : S ≠ i2
  Sl1 : S ≠ l1
  Sl2 : S ≠ l2
structure Got (N : Addr) (xs ys : Array Value) (h : Heap) (as : List Addr) : Prop where
  up : as.Pairwise (· < ·)
  ge : ∀ a ∈ as, N ≤ a
  at_ : ∀ (j : Nat) (a : Addr), as[j]? = some a → ∃ x y, xs[j]? = some x ∧ ys[j]? = some y ∧ IsPair h a x y
section
variable {prog : Program} {w : World} {A : Around} {s : Shared} {R : Result → Shared → Prop} {N S z TI TO i1 i2 l1 l2 : Addr} {xs ys : Array Value}
theorem next (L : Low N S z TI TO i1 i2 l1 l2) {i : Nat} {E : Value → Shared → Prop} {Q : Option Value → Shared → Prop} (Z : Zs N z TI TO i1 i2 l1 l2 xs ys s.heap i) {x y : Value} (hx : xs[i]? = some x) (hy : ys[i]? = some y) (hN : N ≤ s.heap.objs.size)
    (hQ : ∀ h', Zs N z TI TO i1 i2 l1 l2 xs ys h' (i + 1) → IsPair h' s.heap.objs.size x y → h'.objs.size = s.heap.objs.size + 1 → (∀ c o, c ≠ z → c ≠ TO → c ≠ i1 → c ≠ i2 → s.heap.get? c = some o → h'.get? c = some o) →
      Q (some (.ref s.heap.objs.size)) { s with heap := h' }) : wpAny (model prog w) A (pyNext (.ref z)) Q E s := by
  obtain ⟨pr, a1, a2, b1, b2, out⟩ := Z
  have D := L.ap
  rcases out with ⟨hz, p, q, hTO⟩ | ⟨T, f, oT, hz, hT, hge⟩
  · refine wpAny_pyNext_zip_item D hz pr hTO a1 a2 b1 b2 hx hy fun h' c1 c2 c3 c4 c5 c6 k => ?_
    refine hQ h' ⟨k _ _ D.TIz D.TITO D.TIi1 D.TIi2 pr, c3, c4, ?_, ?_, .inr ⟨_, false, _, c1, c5, hN⟩⟩ c5 c6 k
    · exact b1.at fun o e => k _ o D.l1z D.l1TO D.l1i1 D.l1i2 e
    · exact b2.at fun o e => k _ o D.l2z D.l2TO D.l2i1 D.l2i2 e
  · refine wpAny_pyNext_zip_item_held D hz hT pr a1 a2 b1 b2 hx hy fun h' c1 c3 c4 c5 c6 k => ?_
    have n0 : T ≠ z := fun e => absurd (e ▸ hge) (Nat.not_le.mpr L.pz)
    have n1 : T ≠ i1 := fun e => absurd (e ▸ hge) (Nat.not_le.mpr L.p1)
    have n2 : T ≠ i2 := fun e => absurd (e ▸ hge) (Nat.not_le.mpr L.p2)
    refine hQ h' ⟨k _ _ D.TIz D.TIi1 D.TIi2 pr, c3, c4, ?_, ?_, .inr ⟨T, true, oT, c1, k _ _ n0 n1 n2 hT, hge⟩⟩ c5 c6 fun c o e1 _ e3 e4 => k c o e1 e3 e4
    · exact b1.at fun o e => k _ o D.l1z D.l1i1 D.l1i2 e
    · exact b2.at fun o e => k _ o D.l2z D.l2i1 D.l2i2 e
theorem stop (L : Low N S z TI TO i1 i2 l1 l2) {i : Nat} {E : Value → Shared → Prop} {Q : Option Value → Shared → Prop} (hh : A.handled = none) (Z : Zs N z TI TO i1 i2 l1 l2 xs ys s.heap i) (hx : xs[i]? = none)
    (hQ : ∀ h', (∀ c o, c ≠ z → c ≠ TO → c ≠ i1 → c ≠ i2 → s.heap.get? c = some o → h'.get? c = some o) → Q none { s with heap := h' }) : wpAny (model prog w) A (pyNext (.ref z)) Q E s := by
  obtain ⟨pr, a1, a2, b1, b2, out⟩ := Z
  rcases out with ⟨hz, p, q, hTO⟩ | ⟨T, f, oT, hz, hT, hge⟩
  · exact wpAny_pyNext_zip_end hh L.ap hz pr hTO a1 a2 b1 b2 (.inl hx) hQ
  · exact wpAny_pyNext_zip_end_held hh L.ap hz hT pr a1 a2 b1 b2 (.inl hx) fun h' k => hQ h' fun c o e1 _ e3 e4 => k c o e1 e3 e4
theorem Zs.upd (L : Low N S z TI TO i1 i2 l1 l2) {h : Heap} {i : Nat} {f : Obj → Obj} (Z : Zs N z TI TO i1 i2 l1 l2 xs ys h i) : Zs N z TI TO i1 i2 l1 l2 xs ys (h.update S f) i := by
  have k : ∀ b o, S ≠ b → h.get? b = some o → (h.update S f).get? b = some o := fun b o n e => (Heap.get?_update_other _ _ n).trans e
  obtain ⟨pr, a1, a2, b1, b2, out⟩ := Z
  refine ⟨k _ _ L.STI pr, a1.at fun o => k _ o L.S1, a2.at fun o => k _ o L.S2, b1.at fun o => k _ o L.Sl1, b2.at fun o => k _ o L.Sl2, ?_⟩
  rcases out with ⟨hz, p, q, hTO⟩ | ⟨T, g, oT, hz, hT, hge⟩
  · exact .inl ⟨k _ _ L.Sz hz, p, q, k _ _ L.STO hTO⟩
  · exact .inr ⟨T, g, oT, k _ _ L.Sz hz, k _ _ (Nat.ne_of_lt (Nat.lt_of_lt_of_le L.pS hge)) hT, hge⟩
theorem loop (L : Low N S z TI TO i1 i2 l1 l2) (hh : A.handled = none) (he : xs.size = ys.size) (hn : xs.size ≤ sizeLine) (res : Value) {h1 : Heap}
    (hR : ∀ h' tk acc c as, (∀ b o, b ≠ S → b ≠ z → b ≠ TO → b ≠ i1 → b ≠ i2 → h1.get? b = some o → h'.get? b = some o) → h'.get? S = some { cls := .type "list", dict := none, data := .seq acc c, slots := #[] } → as.length = xs.size → Got N xs ys h' as →
      acc.toList = as.map Value.ref → R (.ok (.ret res)) { s with heap := h', toks := tk }) :
    ∀ (k i : Nat) (h : Heap) (tk c : Nat) (acc : Array Value) (as : List Addr), xs.size - i = k → i ≤ xs.size → Zs N z TI TO i1 i2 l1 l2 xs ys h i → (∀ b o, b ≠ S → b ≠ z → b ≠ TO → b ≠ i1 → b ≠ i2 → h1.get? b = some o → h.get? b = some o) →
      h.get? S = some { cls := .type "list", dict := none, data := .seq acc c, slots := #[] } → acc.toList = as.map Value.ref → as.length = i → Got N xs ys h as → N ≤ h.objs.size →
      codeAny (model prog w) A (.builtin "list.extend.loop" ⟨[.ref S, .ref z, res], []⟩) R { s with heap := h, toks := tk } := by
  have nz : ∀ {a : Addr}, N ≤ a → a ≠ S ∧ a ≠ z ∧ a ≠ TO ∧ a ≠ i1 ∧ a ≠ i2 := fun {a} g =>
    ⟨Nat.ne_of_gt (Nat.lt_of_lt_of_le L.pS g), Nat.ne_of_gt (Nat.lt_of_lt_of_le L.pz g), Nat.ne_of_gt (Nat.lt_of_lt_of_le L.pTO g), Nat.ne_of_gt (Nat.lt_of_lt_of_le L.p1 g), Nat.ne_of_gt (Nat.lt_of_lt_of_le L.p2 g)⟩
  intro k
  induction k with
  | zero =>
    intro i h tk c acc as hk hi Z keep hS hacc hal G hNs
    refine codeAny_builtin PySem.F.entry_extend_loop ?_
    rw [Around.under_plainId PySem.F.plain_extend_loop _]
    refine wpAny_bind (stop (s := { s with heap := h, toks := tk }) (A := A.in1) L hh Z (Array.getElem?_eq_none (by omega)) fun h' kp => ?_)
    refine wpAny_pure (hR h' tk acc c as (fun b o e1 e2 e3 e4 e5 e => kp b o e2 e3 e4 e5 (keep b o e1 e2 e3 e4 e5 e)) (kp S _ L.Sz L.STO L.S1 L.S2 hS) (by omega) ⟨G.up, G.ge, fun j a hj => ?_⟩ hacc)
    obtain ⟨x, y, g1, g2, g3⟩ := G.at_ j a hj
    obtain ⟨_, n2, n3, n4, n5⟩ := nz (G.ge a (List.mem_of_getElem? hj))
    exact ⟨x, y, g1, g2, kp a _ n2 n3 n4 n5 g3⟩
  | succ k ih =>
    intro i h tk c acc as hk hi Z keep hS hacc hal G hNs
    have lt : i < xs.size := by omega
    have lt2 : i < ys.size := by omega
    have asz : acc.size = i := by
      have e := congrArg List.length hacc
      rw [List.length_map, hal] at e
      simpa using e
    refine codeAny_builtin PySem.F.entry_extend_loop ?_
    rw [Around.under_plainId PySem.F.plain_extend_loop _]
    refine wpAny_bind (next (s := { s with heap := h, toks := tk }) L Z (Array.getElem?_eq_getElem lt) (Array.getElem?_eq_getElem lt2) hNs fun h' Z' c5 c6 kp => ?_)
    dsimp only at c5 c6 kp ⊢
    have hS' := kp S _ L.Sz L.STO L.S1 L.S2 hS
    have Sl : S < h.objs.size := Heap.lt_size hS
    have up : ∀ b o, b ≠ S → h'.get? b = some o → (h'.update S (Obj.mapSeq (·.push (Value.ref h.objs.size)))).get? b = some o := fun b o n e => (Heap.get?_update_other _ _ (Ne.symm n)).trans e
    refine wpAny_bind ?_
    refine wpAny_updateSeq hS' rfl (wpAny_pure ⟨plainId_quiet PySem.F.plain_extend_loop _, ?_⟩) (by rw [asz]; omega) (by show (acc.push (Value.ref h.objs.size)).size ≤ sizeLine + 1; rw [Array.size_push, asz]; omega)
    have gnew := up h.objs.size _ (Nat.ne_of_gt Sl) c5
    refine ih (i + 1) _ tk _ (acc.push (Value.ref h.objs.size)) (as ++ [h.objs.size]) (by omega) lt (Z'.upd L) ?_ (Heap.get?_update_self _ hS' rfl) ?_ ?_ ⟨?_, ?_, ?_⟩ ?_
    · intro b o e1 e2 e3 e4 e5 e
      exact up b o e1 (kp b o e2 e3 e4 e5 (keep b o e1 e2 e3 e4 e5 e))
    · rw [Array.toList_push, hacc, List.map_append]
      rfl
    · rw [List.length_append, hal]
      rfl
    · refine List.pairwise_append.mpr ⟨G.up, List.pairwise_singleton _ _, fun a ha b hb => ?_⟩
      rw [List.mem_singleton.mp hb]
      obtain ⟨j, hj⟩ := List.mem_iff_getElem?.mp ha
      obtain ⟨x, y, _, _, g3⟩ := G.at_ j a hj
      exact Heap.lt_size g3
    · intro a ha
      rcases List.mem_append.mp ha with ha | ha
      · exact G.ge a ha
      · rw [List.mem_singleton.mp ha]
        exact hNs
    · intro j b hj
      by_cases hlt : j < as.length
      · rw [List.getElem?_append_left hlt] at hj
        obtain ⟨x, y, g1, g2, g3⟩ := G.at_ j b hj
        obtain ⟨n1, n2, n3, n4, n5⟩ := nz (G.ge b (List.mem_of_getElem? hj))
        exact ⟨x, y, g1, g2, up b _ n1 (kp b _ n2 n3 n4 n5 g3)⟩
      · have e : j = as.length := by
          have := (List.getElem?_eq_some_iff.mp hj).1
          rw [List.length_append, List.length_singleton] at this
          omega
        subst e
        have hb : h.objs.size = b := by simpa using hj
        subst hb
        subst hal
        exact ⟨_, _, Array.getElem?_eq_getElem lt, Array.getElem?_eq_getElem lt2, gnew⟩
    · exact Nat.le_trans hNs (Nat.le_of_lt (Heap.lt_size gnew))
end
section
variable {prog : Program} {w : World} {A : Around} {E : Value → Shared → Prop} {s : Shared} {z TI TO i1 i2 l1 l2 : Addr} {xs ys : Array Value}
/-- list(z), z a zip that has not begun -/
theorem call {Q : Value → Shared → Prop} (hh : A.handled = none) (D : ZipApart z TI TO i1 i2 l1 l2) (hz : IsZip s.heap z TI TO .none) (hTO : ∃ a b, IsPair s.heap TO a b) (hTI : IsPair s.heap TI (.ref i1) (.ref i2)) (a1 : s.heap.IsListIter i1 l1 0) (a2 : s.heap.IsListIter i2 l2 0)
    (b1 : s.heap.IsList l1 xs) (b2 : s.heap.IsList l2 ys) (he : xs.size = ys.size) (hn : xs.size ≤ sizeLine)
    (hQ : ∀ h' tk acc c as, (∀ b o, b ≠ z → b ≠ TO → b ≠ i1 → b ≠ i2 → s.heap.get? b = some o → h'.get? b = some o) → h'.get? s.heap.objs.size = some { cls := .type "list", dict := none, data := .seq acc c, slots := #[] } → as.length = xs.size → Got (s.heap.objs.size + 1) xs ys h' as →
      acc.toList = as.map Value.ref → Q (.ref s.heap.objs.size) { s with heap := h', toks := tk }) : wpAny (model prog w) A (call (.type "list") [.ref z]) Q E s := by
  obtain ⟨p, q, hTO⟩ := hTO
  have lz := Heap.lt_size hz
  have lTO := Heap.lt_size hTO
  have lTI := Heap.lt_size hTI
  have li1 : i1 < s.heap.objs.size := let ⟨_, e, _⟩ := a1; Heap.lt_size e
  have li2 : i2 < s.heap.objs.size := let ⟨_, e, _⟩ := a2; Heap.lt_size e
  have ll1 : l1 < s.heap.objs.size := let ⟨_, e, _⟩ := b1; Heap.lt_size e
  have ll2 : l2 < s.heap.objs.size := let ⟨_, e, _⟩ := b2; Heap.lt_size e
  refine callType_codes (Q₁ := fun obj t => obj = .ref s.heap.objs.size ∧ t = { s with heap := s.heap.push { cls := .type "list", data := .seq #[] } }) PySem.F.called_list (PySem.F.typeCall_list_1 _) PySem.F.entry_list_init
    (code_list_new _ ⟨rfl, rfl⟩) fun obj t ht => ?_
  obtain ⟨rfl, rfl⟩ := ht
  generalize hL : s.heap.objs.size = S at *
  have hS : (s.heap.push { cls := .type "list", data := .seq #[] }).get? S = some { cls := .type "list", data := .seq #[] } := by
    rw [← hL]
    exact Heap.get?_push_size _ rfl
  have low : Low (S + 1) S z TI TO i1 i2 l1 l2 := ⟨D, Nat.lt_succ_self _, Nat.lt_succ_of_lt lz, Nat.lt_succ_of_lt lTO, Nat.lt_succ_of_lt li1, Nat.lt_succ_of_lt li2, Nat.ne_of_gt lz, Nat.ne_of_gt lTI, Nat.ne_of_gt lTO, Nat.ne_of_gt li1, Nat.ne_of_gt li2, Nat.ne_of_gt ll1, Nat.ne_of_gt ll2⟩
  have k0 : ∀ b o, s.heap.get? b = some o → (s.heap.push { cls := .type "list", data := .seq #[] }).get? b = some o := fun b o e => Heap.get?_push_of_some _ e
  have Z0 : Zs (S + 1) z TI TO i1 i2 l1 l2 xs ys (s.heap.push { cls := .type "list", data := .seq #[] }) 0 :=
    ⟨k0 _ _ hTI, a1.at fun o => k0 _ o, a2.at fun o => k0 _ o, b1.at fun o => k0 _ o, b2.at fun o => k0 _ o, .inl ⟨k0 _ _ hz, p, q, k0 _ _ hTO⟩⟩
  refine ⟨⟨_, hS, rfl⟩, PySem.F.args_list_init_2 _ _, ?_⟩
  show wpAny _ A.in1.in1 (do let old ← Builtin.List.listItems (.ref S); Builtin.List.listUpdate (.ref S) (fun _ => #[]); letGo old.toList.reverse; Builtin.List.listExtendWith (.ref S) (.ref z) .none) _ _ _
  refine wpAny_bind ?_
  unfold Builtin.List.listItems
  refine wpAny_bind (wpAny_seqItems hS rfl (wpAny_pure ?_))
  show wpAny _ A.in1.in1 (updateSeq S (fun _ => #[]) >>= fun _ => letGo (#[] : Array Value).toList.reverse >>= fun _ => Builtin.List.listExtendWith (.ref S) (.ref z) .none) _ _ _
  refine wpAny_bind (wpAny_updateSeq hS rfl ?_)
  have hS2 := Heap.get?_update_self (Obj.mapSeq (fun _ => (#[] : Array Value))) hS rfl
  have Z1 := Z0.upd low (f := Obj.mapSeq (fun _ => (#[] : Array Value)))
  refine wpAny_bind (wpAny_letGo ?_)
  unfold Builtin.List.listExtendWith
  have zty : ∀ {h : Heap}, (∃ f, h.get? z = some { cls := .type "zip", dict := none, data := f, slots := #[] }) → ∀ t : Shared, t.heap = h → t.TypeIs (.ref z) "zip" := fun {h} ⟨f, e⟩ t q => ⟨_, by rw [q]; exact e, rfl⟩
  have zat : ∀ {h : Heap}, Zs (S + 1) z TI TO i1 i2 l1 l2 xs ys h 0 → ∃ f, h.get? z = some { cls := .type "zip", dict := none, data := f, slots := #[] } := fun {h} Z => by
    rcases Z.out with ⟨e, _⟩ | ⟨_, _, _, e, _⟩
    · exact ⟨_, e⟩
    · exact ⟨_, e⟩
  have zun : ∀ {h : Heap}, Zs (S + 1) z TI TO i1 i2 l1 l2 xs ys h 0 → ∃ f0, IsZip h z TI TO f0 ∨ True := fun _ => ⟨.none, .inr trivial⟩
  refine wpAny_bind (wpAny_typeOf (T := "zip") (zty (zat Z1) _ rfl) ?_)
  have e1 : Builtin.List.listSameRef (.ref S) (.ref z) = false := by
    have := low.Sz
    simp [Builtin.List.listSameRef, this]
  have e2 : (Value.type "zip" == Value.type "list") = false := by decide
  have e3 : (Value.type "zip" == Value.type "tuple") = false := by decide
  simp only [e1, e2, e3, Bool.or_false, Bool.false_eq_true, if_false]
  have hz1 : IsZip ((s.heap.push { cls := .type "list", data := .seq #[] }).update S (Obj.mapSeq (fun _ => (#[] : Array Value)))) z TI TO .none :=
    (Heap.get?_update_other _ _ low.Sz).trans (k0 _ _ hz)
  refine wpAny_bind (wpAny_pyIter_zip hz1 ?_)
  refine wpAny_bind (wpAny_holding ?_)
  unfold Builtin.List.listLengthHint
  refine wpAny_bind (wpAny_specialOf (zty (zat Z1) _ rfl) no_len ?_)
  show wpAny _ A.in1.in1 (specialOf (Value.ref z) (Str.ofString "__length_hint__") >>= _) _ _ _
  refine wpAny_bind (wpAny_specialOf (zty (zat Z1) _ rfl) no_hint ?_)
  refine wpAny_pure ?_
  refine wpAny_bind (wpAny_rule ?_)
  refine wpAny_bind ?_
  show wpAny _ A.in1.in1 (updateSeq S (·.push .none) >>= fun _ => updateSeq S (·.pop)) _ _ _
  refine wpAny_bind (wpAny_updateSeq hS2 rfl ?_)
  have hS3 := Heap.get?_update_self (Obj.mapSeq (·.push Value.none)) hS2 rfl
  refine wpAny_updateSeq (hz := by seq_fits) hS3 rfl ?_
  have hS4 := Heap.get?_update_self (Obj.mapSeq (·.pop)) hS3 rfl
  have Z3 := (Z1.upd low (f := Obj.mapSeq (·.push Value.none))).upd low (f := Obj.mapSeq (·.pop))
  refine wpAny_pure ⟨plainId_quiet PySem.F.plain_extend_loop _, ?_⟩
  refine loop (A := A.in1) (s := s) (h1 := s.heap) low hh he hn .none (fun h' tk acc c as kp hS' hl G hacc => ⟨rfl, hQ h' tk acc c as (fun b o e2 e3 e4 e5 e => ?_) hS' hl G hacc⟩) xs.size 0 _ _ _ #[] [] (Nat.sub_zero _) (Nat.zero_le _) Z3 ?_ hS4 rfl rfl ⟨List.Pairwise.nil, (fun _ z => nomatch z), fun j a hj => by simp at hj⟩ (Heap.lt_size hS4)
  rotate_left
  · exact kp b o (Nat.ne_of_lt (hL ▸ Heap.lt_size e)) e2 e3 e4 e5 e
  · intro b o n _ _ _ _ e
    exact (Heap.get?_update_other _ _ (Ne.symm n)).trans ((Heap.get?_update_other _ _ (Ne.symm n)).trans ((Heap.get?_update_other _ _ (Ne.symm n)).trans (k0 b o e)))
end
end Zl
namespace Zl
open PySem PySem.Spec PyProof.Rows L2
section
variable {X : Cx} {pins : List (Addr × Obj)} {σ : L2.St} {H H' : Hp} {s : Shared}
/-- several new objects are tracked at once -/
theorem many {h' : Heap} {t' : Nat} (I : Inv X pins σ H s) (k : ∀ b o, s.heap.get? b = some o → h'.get? b = some o) (sm : Same H H') (nw : ∀ b, H b = none → s.heap.get? b ≠ none → H' b = none)
    (ok : ∀ b o, H b = none → H' b = some o → ObjOk X.prog X.w H' h' b o) : Inv X pins σ H' { s with heap := h', toks := t' } := by
  refine I.un ⟨fun b o e _ _ _ => k b o e, fun b o e _ _ _ => ⟨o.slots, k b o e⟩, fun b o e n _ => nw b n (by rw [e]; simp), fun b o e _ => ⟨o, k b o e⟩, fun b xs e => sm b _ e, fun b o u e => sm b _ e, fun b ps e => ⟨#[], by rw [sm b _ e]; simp⟩⟩ fun b o e => ?_
  cases hb : H b with
  | none => exact ok b o hb e
  | some u =>
    have e2 := sm b u hb
    rw [e] at e2
    cases e2
    exact (I.hok b o hb).stay (fun c v _ z => k c v z) (fun c z => sm c _ z) fun c xs z => sm c _ z
end
/-- the j-th of as stands at the pair of the j-th of xs and ys -/
def pairUp : List Addr → List V → List V → Hp → Hp
  | a :: as, x :: xs, y :: ys, H => fun b => if b = a then some (.tup [x, y]) else pairUp as xs ys H b
  | _, _, _, H => H
theorem pairUp_out {H : Hp} {b : Addr} : ∀ {as : List Addr} {xs ys : List V}, b ∉ as → pairUp as xs ys H b = H b
  | [], _, _, _ => by simp [pairUp]
  | _ :: _, [], _, _ => by simp [pairUp]
  | _ :: _, _ :: _, [], _ => by simp [pairUp]
  | a :: as, x :: xs, y :: ys, n => by
    have n1 : b ≠ a := fun e => n (e ▸ List.mem_cons_self)
    unfold pairUp
    rw [if_neg n1]
    exact pairUp_out fun m => n (List.mem_cons_of_mem _ m)
theorem pairUp_at {H : Hp} : ∀ {as : List Addr} {xs ys : List V} {j : Nat} {a : Addr} {x y : V}, as.Pairwise (· < ·) → as[j]? = some a → xs[j]? = some x → ys[j]? = some y → pairUp as xs ys H a = some (.tup [x, y])
  | a0 :: as, x0 :: xs, y0 :: ys, 0, a, x, y, _, h1, h2, h3 => by
    simp at h1 h2 h3
    subst h1 h2 h3
    unfold pairUp
    rw [if_pos rfl]
  | a0 :: as, x0 :: xs, y0 :: ys, j + 1, a, x, y, p, h1, h2, h3 => by
    simp at h1 h2 h3
    obtain ⟨p1, p2⟩ := List.pairwise_cons.mp p
    have n1 : a ≠ a0 := Nat.ne_of_gt (p1 a (List.mem_of_getElem? h1))
    unfold pairUp
    rw [if_neg n1]
    exact pairUp_at p2 h1 h2 h3
  | [], _, _, _, _, _, _, _, h1, _, _ => by simp at h1
  | _ :: _, [], _, _, _, _, _, _, _, h2, _ => by simp at h2
  | _ :: _, _ :: _, [], _, _, _, _, _, _, _, h3 => by simp at h3
theorem zap (n a b : Nat) (la : a < n) (lb : b < n) : ZipApart (n + 4) (n + 2) (n + 3) n (n + 1) a b := by
  constructor <;> (refine (fun e => ?_ : (_ : Nat) ≠ _); omega)
theorem lt4 {b n : Nat} (h : b < n) : b ≠ n + 4 ∧ b ≠ n + 3 ∧ b ≠ n ∧ b ≠ n + 1 := ⟨by omega, by omega, by omega, by omega⟩
theorem ge6 {c n m : Nat} (h : n + 5 + 1 ≤ c) (e : m = n + 5) : n ≤ c ∧ c ≠ m := ⟨by omega, by omega⟩
theorem refVals : ∀ as : List Addr, Vals (as.map V.ref) (as.map Value.ref)
  | [] => .nil
  | _ :: r => .cons rfl (refVals r)
/-- list(zip(a, b)): a new list of new pairs -/
def tLz (K : PySem.W.Frag) (ta : TA) : TE := fun σ H Q => ta σ H fun vs H1 => ∃ (a b : Addr) (xs ys : List V), vs = [.ref a, .ref b] ∧ SqL K H1 a xs ∧ SqL K H1 b ys ∧ xs.length = ys.length ∧
  ∀ (p : Addr) (as : List Addr) (H2 : Hp), Same H1 H2 → H1 p = none → H2 p = some (.lst (as.map V.ref)) → as.length = xs.length → (∀ (j : Nat) (c : Addr) (x y : V), as[j]? = some c → xs[j]? = some x → ys[j]? = some y → H2 c = some (.tup [x, y])) → Q (.ref p) H2
theorem pe_lz {X : Cx} {e1 e2 : Expr} {ta : TA} {p p2 pos pos2 : Pos} (hcalm : X.calm = true) (hg : Gl X "list") (hm : X.mg "list" = none) (hg2 : Gl X "zip") (hm2 : X.mg "zip" = none) (ha : PA X [e1, e2] ta)
    (he : starEach [e1, e2] X.env = (false, eval e1 X.env) :: starEach [e2] X.env := by rfl) (hpl : (backTo pos2 (starEach [e2] X.env)).any (·.1) = false := by rfl)
    (he2 : starEach [.Call (.Name "zip" p2) [e1, e2] [] pos2] X.env = (false, eval (.Call (.Name "zip" p2) [e1, e2] [] pos2) X.env) :: starEach [] X.env := by rfl) :
    PE X (.Call (.Name "list" p) [.Call (.Name "zip" p2) [e1, e2] [] pos2] [] pos) (tLz X.K ta) := by
  refine ⟨fun pins s σ H Q I h => wpAny_Call_Name_kw (ld_blt I hg hm (by decide +kernel : bootBuiltins "list" = some (.type "list")) ?_ (by decide) (by decide))⟩
  refine PyProof.Rows.callWith_type1 ?_ he2 (by rfl)
  rw [he2]
  refine Calls.spliced_cons (wpAny_Call_Name_kw (ld_blt I hg2 hm2 (by decide +kernel : bootBuiltins "zip" = some (.type "zip")) ?_ (by decide) (by decide)))
  refine PyProof.Rows.callWith_type1 (thn (ha.run pos2 pins s σ H _ I h) fun us s1 ⟨vs, H1, I1, rv, a, b, xs, ys, ev, q1, q2, hl, q⟩ => ?_) he hpl
  subst ev
  obtain ⟨u1, u2, eu, r1, r2⟩ := vals2 rv
  subst eu
  cases (show u1 = Value.ref a from r1)
  cases (show u2 = Value.ref b from r2)
  obtain ⟨its, v1, g1, hz1⟩ := I1.list q1
  obtain ⟨its2, v2, g2, hz2⟩ := I1.list q2
  have n1 := v1.length
  have n2 := v2.length
  have la : a < s1.heap.objs.size := let ⟨_, _, e, _⟩ := g1; Heap.lt_size e
  have lb : b < s1.heap.objs.size := let ⟨_, _, e, _⟩ := g2; Heap.lt_size e
  refine call_zip_2 g1.isList g2.isList fun h' z0 z1 z2 z3 z4 z5 z6 => Calls.spliced_nil ?_
  have D := zap s1.heap.objs.size a b la lb
  have k5 : ∀ {b : Addr} {o : Obj}, s1.heap.get? b = some o → b ≠ s1.heap.objs.size + 4 ∧ b ≠ s1.heap.objs.size + 3 ∧ b ≠ s1.heap.objs.size ∧ b ≠ s1.heap.objs.size + 1 := fun {b o} e => lt4 (Heap.lt_size e)
  have b1 : h'.IsList a its.toArray := g1.isList.at fun o => z6 _ o
  have b2 : h'.IsList b its2.toArray := g2.isList.at fun o => z6 _ o
  refine call (s := { s1 with heap := h' }) (I1.ok.hd hcalm) D z0 ⟨_, _, z2⟩ z1 z3 z4 b1 b2 (by simp; omega) (by simp; omega) fun h2 tk acc c as kp hS hl2 G hacc => ?_
  have kk : ∀ b o, s1.heap.get? b = some o → h2.get? b = some o := fun b o e => by
    obtain ⟨e1, e2, e3, e4⟩ := k5 e
    exact kp b o e1 e2 e3 e4 (z6 b o e)
  have big : ∀ c, s1.heap.objs.size ≤ c → H1 c = none := fun c hc => I1.hok.fresh hc
  have hp0 : H1 h'.objs.size = none := big _ (by rw [z5]; exact Nat.le_add_right _ _)
  have hge : ∀ c ∈ as, s1.heap.objs.size ≤ c ∧ c ≠ h'.objs.size := fun c hc => by
    have := G.ge c hc
    rw [z5] at this
    exact ge6 this z5
  have hpa : h'.objs.size ∉ as := fun m => (hge _ m).2 rfl
  have len : as.length = xs.length := by
    have : its.toArray.size = its.length := by simp
    omega
  have up : ∀ (j : Nat) (c : Addr) (x y : V), as[j]? = some c → xs[j]? = some x → ys[j]? = some y → (upd (pairUp as xs ys H1) h'.objs.size (.lst (as.map V.ref))) c = some (.tup [x, y]) := fun j c x y e1 e2 e3 => by
    rw [upd_ne (hge c (List.mem_of_getElem? e1)).2]
    exact pairUp_at G.up e1 e2 e3
  have sm : Same H1 (upd (pairUp as xs ys H1) h'.objs.size (.lst (as.map V.ref))) := fun b o e => by
    rw [upd_ne (ne_of_none e hp0), pairUp_out fun m => ?_]
    · exact e
    · have := big b (hge b m).1
      rw [e] at this
      cases this
  refine ⟨.ref h'.objs.size, _, many (s := s1) (t' := tk) (h' := h2) (H' := upd (pairUp as xs ys H1) h'.objs.size (.lst (as.map V.ref))) I1 kk sm (fun b n e => ?_) (fun b o n e => ?_), rfl, q _ as _ sm hp0 upd_same len up⟩
  · have lt : b < s1.heap.objs.size := by
      cases z : s1.heap.get? b with
      | none => exact absurd z e
      | some o => exact Heap.lt_size z
    have n1 : b ≠ h'.objs.size := by rw [z5]; exact Nat.ne_of_lt (Nat.lt_of_lt_of_le lt (Nat.le_add_right _ _))
    rw [upd_ne n1, pairUp_out fun m => absurd (hge b m).1 (Nat.not_le.mpr lt)]
    exact n
  · by_cases hb : b = h'.objs.size
    · subst hb
      rw [upd_same] at e
      cases e
      refine ⟨by rw [List.length_map]; omega, as.map Value.ref, c, refVals as, ?_⟩
      rw [hS, ← hacc]
    · rw [upd_ne hb] at e
      by_cases hm : b ∈ as
      · obtain ⟨j, hj⟩ := List.mem_iff_getElem?.mp hm
        have jl : j < as.length := (List.getElem?_eq_some_iff.mp hj).1
        have ex : xs[j]? = some xs[j] := List.getElem?_eq_getElem (by omega)
        have ey : ys[j]? = some ys[j] := List.getElem?_eq_getElem (by omega)
        rw [pairUp_at G.up hj ex ey] at e
        cases e
        obtain ⟨x, y, p1, p2, p3⟩ := G.at_ j b hj
        obtain ⟨ux, eux, rux⟩ := v1.get ex
        obtain ⟨uy, euy, ruy⟩ := v2.get ey
        have ex2 : x = ux := by
          have : its.toArray[j]? = its[j]? := by simp
          rw [this, eux] at p1
          exact (Option.some.inj p1).symm
        have ey2 : y = uy := by
          have : its2.toArray[j]? = its2[j]? := by simp
          rw [this, euy] at p2
          exact (Option.some.inj p2).symm
        subst ex2 ey2
        exact ⟨by rw [sizeLine_eq]; exact (by decide : 2 ≤ 16777216), [x, y], .cons rux (.cons ruy .nil), _, p3, rfl, _, rfl⟩
      · rw [pairUp_out hm, n] at e
        cases e
end Zl
/-! Tuples of which it is known that they have no dict of their own; dict(t), sorted(d.items()). -/
namespace Tn
open PySem PySem.Spec PyProof.Rows L2
def TupN (H : Hp) (p : Addr) (xs : List V) : Prop := ∃ o : Obj, H p = some (.frz o (.tup xs)) ∧ o.dict = none
theorem TupN.sq {K : PySem.W.Frag} {H : Hp} {p : Addr} {xs : List V} (h : TupN H p xs) : SqT K H p xs := .inl (.inr (h.imp fun _ z => z.1))
theorem TupN.same {H H' : Hp} {p : Addr} {xs : List V} (h : TupN H p xs) (s : ∀ b o, H b = some o → H' b = some o) : TupN H' p xs := h.imp fun _ z => ⟨s _ _ z.1, z.2⟩
def newT (xs : List V) (H : Hp) (Q : VK) : Prop := ∀ (p : Addr) (o : Obj), H p = none → o.dict = none → Q (.ref p) (upd H p (.frz o (.tup xs)))
section
variable {X : Cx} {pins : List (Addr × Obj)} {σ : L2.St} {H : Hp} {s : Shared}
theorem laidT {t' : Nat} {us : List Value} {xs : List V} (I : Inv X pins σ H s) (r : Vals xs us) (z : xs.length ≤ sizeLine) :
    Inv X pins σ (upd H s.heap.objs.size (.frz { cls := .type "tuple", data := .seq us.toArray } (.tup xs))) { s with heap := s.heap.push { cls := .type "tuple", data := .seq us.toArray }, toks := t' } :=
  I.laid (fun _ _ e => Heap.get?_push_of_some _ e) (Nat.le_refl _) ⟨Heap.get?_push_size _ rfl, z, us, r, ⟨_, Heap.get?_push_size _ rfl, rfl, _, rfl⟩⟩
end
section
variable {X : Cx}
def tTupF (t : TA) : TE := fun σ H Q => t σ H fun xs H1 => xs.length ≤ sizeLine ∧ newT xs H1 Q
theorem pe_tupF {es : List Expr} {t : TA} {x1 : Nat} {pos : Pos} (h : PA X es t) : PE X (.Tuple es x1 pos) (tTupF t) := by
  refine ⟨fun pins s σ H Q I hq => ?_⟩
  refine wpAny_Tuple_spliced (thn (h.run pos pins s σ H _ I hq) fun us s1 ⟨xs, H1, I1, r, z, q⟩ => ⟨by rw [← r.length]; exact z, ?_⟩)
  exact ⟨.ref s1.heap.objs.size, _, laidT I1 r z, rfl, q _ _ (I1.hok.fresh (Nat.le_refl _)) rfl⟩
def rSlF (K : PySem.W.Frag) : V → Option Int → Option Int → Hp → VK → Prop := fun x lo hi H Q => ∃ a xs, x = .ref a ∧ SqT K H a xs ∧
  (HT.sIx xs.length 0 lo = 0 ∧ HT.sIx xs.length xs.length hi = xs.length → Q (.ref a) H) ∧ (¬ (HT.sIx xs.length 0 lo = 0 ∧ HT.sIx xs.length xs.length hi = xs.length) → newT (cutV xs lo hi) H Q)
theorem sl_tupF : SlR X (rSlF X.K) := by
  intro pins s σ H x v vl vu lo hi sl Q I rx hs pl pu h
  obtain ⟨a, xs, rfl, hx, q1, q2⟩ := h
  by_cases hw : HT.sIx xs.length 0 lo = 0 ∧ HT.sIx xs.length xs.length hi = xs.length
  · exact sl_tupA pins s σ H _ v vl vu lo hi sl Q I rx hs pl pu ⟨a, xs, rfl, hx, q1, fun n => absurd hw n⟩
  · cases rx
    obtain ⟨its, r, ht, hz⟩ := I.tuple hx
    have hlen : its.toArray.size = xs.length := by rw [List.size_toArray]; exact r.length.symm
    refine ⟨"tuple", _, PyProof.Rows.slot_tuple_getitem.lookup, ht.typeIs, ?_⟩
    refine HT.getItem_tuple_cut ht hs pl pu (by rw [hlen]; exact hw) ?_ (by rw [hlen]; exact hz)
    rw [hlen]
    exact ⟨.ref s.heap.objs.size, _, laidT (t' := s.toks) I ((r.drop (HT.sIx xs.length 0 lo)).take (HT.sIx xs.length xs.length hi - HT.sIx xs.length 0 lo)) (Nat.le_trans (cutV_length xs lo hi) hz), rfl, q2 hw _ _ (I.hok.fresh (Nat.le_refl _)) rfl⟩
def rCatF (K : PySem.W.Frag) : R2 := fun x y H Q => ∃ a b xs ys, x = .ref a ∧ y = .ref b ∧ SqT K H a xs ∧ SqT K H b ys ∧ xs.length + ys.length ≤ sizeLine ∧
  (xs = [] → Q (.ref b) H) ∧ (xs ≠ [] → ys = [] → Q (.ref a) H) ∧ (xs ≠ [] → ys ≠ [] → newT (xs ++ ys) H Q)
theorem op_catF : OpR X (binaryOp .Add) (rCatF X.K) := by
  intro pins s σ H x y v u Q I rx ry h
  obtain ⟨a, b, xs, ys, rfl, rfl, ha, hb, hz, q0, q1, q2⟩ := h
  by_cases hx : xs = []
  · exact op_catA pins s σ H _ _ v u Q I rx ry ⟨a, b, xs, ys, rfl, rfl, ha, hb, hz, q0, q1, fun n => absurd hx n⟩
  · cases rx
    cases ry
    obtain ⟨its, r1, p1, _⟩ := I.tuple ha
    obtain ⟨its2, r2, p2, _⟩ := I.tuple hb
    refine HT.cat_tup p1 p2 (fun z => hx (r1.nil_iff.mp z)) (fun z => ⟨.ref a, H, I, rfl, q1 hx (r2.nil_iff.mp z)⟩) (fun z => ?_) (by rw [← r1.length, ← r2.length]; exact hz)
    exact ⟨.ref s.heap.objs.size, _, laidT (t' := s.toks) I (r1.append r2) (by rw [List.length_append]; exact hz), rfl, q2 hx (fun w => z (r2.nil_iff.mpr w)) _ _ (I.hok.fresh (Nat.le_refl _)) rfl⟩
/-- tuple(x) of a list -/
def tTof (K : PySem.W.Frag) (ta : TE) : TE := fun σ H Q => ta σ H fun x H1 => ∃ p xs, x = .ref p ∧ SqL K H1 p xs ∧ newT xs H1 Q
theorem pe_tof {a : Expr} {ta : TE} {p pos : Pos} (hg : Gl X "tuple") (hm : X.mg "tuple" = none) (ha : PE X a ta) (na : starEach [a] X.env = (false, eval a X.env) :: starEach [] X.env := by rfl) :
    PE X (.Call (.Name "tuple" p) [a] [] pos) (tTof X.K ta) := by
  refine ⟨fun pins s σ H Q I h => ?_⟩
  refine Call_ (ld_blt I hg hm boot_tuple (PyProof.Rows.callWith_type1 (one_arg ha I h (fun v s2 x H2 I2 r q => ?_) na) na))
  obtain ⟨p, xs, rfl, hs, q⟩ := q
  obtain rfl : v = .ref p := r
  obtain ⟨its, rv, pl, hz⟩ := I2.list hs
  refine call_tuple_list pl.isList (fun h' hk => ?_) (by rw [List.size_toArray, ← rv.length]; exact hz)
  have I3 : Inv X pins σ H2 { s2 with heap := h' } := I2.kept (t' := s2.toks) hk
  exact ⟨.ref h'.objs.size, _, laidT (t' := s2.toks) I3 rv hz, rfl, q _ _ (I3.hok.fresh (Nat.le_refl _)) rfl⟩
/-! ### dict(t) -/
def rDictT : List V → Hp → VK → Prop := fun xs H Q => ∃ (a : Addr) (ps : List Addr) (kvs : List (Key × V)), xs = [.ref a] ∧ TupN H a (ps.map V.ref) ∧ Paired (fun p kv => TupN H p [kV kv.1, kv.2]) ps kvs ∧
    ∀ p, H p = none → Q (.ref p) (upd H p (.dK (mergeK [] kvs)))
theorem pairs_at {pins : List (Addr × Obj)} {σ : L2.St} {H : Hp} {s : Shared} (I : Inv X pins σ H s) : ∀ {ps : List Addr} {kvs : List (Key × V)}, Paired (fun p kv => TupN H p [kV kv.1, kv.2]) ps kvs →
    ∃ (prs : List (Key × Value)) (us : List Value), KV kvs prs ∧ prs.length = ps.length ∧ us.length = ps.length ∧ ∀ (j : Nat) (u v : Value), (us.zip (prs.map (·.2)))[j]? = some (u, v) → ∃ (b : Addr) (q : Key × Value), ps[j]? = some b ∧ prs[j]? = some q ∧ v = q.2 ∧ s.heap.IsTuple b #[u, v] ∧ keyIs q.1 u = true
  | _, _, .nil => ⟨[], [], .nil, rfl, rfl, fun j u v e => by simp at e⟩
  | _, _, .cons (a := p) (b := kv) h t => by
    obtain ⟨prs, us, r, hl, hu, hp⟩ := pairs_at I t
    obtain ⟨its, rv, ht, _⟩ := I.tuple (h.sq (K := X.K))
    obtain ⟨u, y, ei, ru, ry⟩ := vals2 rv
    subst ei
    refine ⟨(kv.1, y) :: prs, u :: us, .cons ⟨rfl, ry⟩ r, by rw [List.length_cons, List.length_cons, hl], by rw [List.length_cons, List.length_cons, hu], fun j u' v' e => ?_⟩
    cases j with
    | zero =>
      have e' : (u, y) = (u', v') := Option.some.inj e
      cases e'
      exact ⟨p, (kv.1, y), rfl, rfl, rfl, ht, kV_is (P := X.prog) (w := X.w) ru⟩
    | succ j =>
      obtain ⟨b, q, e1, e2, e3, e4, e5⟩ := hp j u' v' (by simpa using e)
      exact ⟨b, q, by simpa using e1, by simpa using e2, e3, e4, e5⟩
theorem call_dictT (hcalm : X.calm = true) : CallR X (.type "dict") rDictT := by
  intro pins s σ H xs us Q I r q
  obtain ⟨a, ps, kvs, rfl, ⟨ot, hq, hdn⟩, hp, q⟩ := q
  obtain ⟨u, rfl, rx⟩ := vals1 r
  cases rx
  obtain ⟨ho, hz, its, rv, o2, e2, hc, n, hd⟩ := (show ObjOk X.prog X.w H s.heap a (.frz ot (.tup (ps.map V.ref))) from I.hok a _ hq)
  rw [ho] at e2
  cases e2
  have ei := refs_at rv
  subst ei
  rw [List.length_map] at hz
  obtain ⟨prs, vs, rel, hl, hu, hpr⟩ := pairs_at I hp
  have hzl : (vs.zip (prs.map (·.2))).length = ps.length := by rw [List.length_zip, List.length_map, hu, hl, Nat.min_self]
  refine PySem.call_dict_pairs (knd := mixKind X.prog X.w) (kvs := prs) (PySem.PairArg.tuple a (ps.map Value.ref).toArray (fun j => ps.getD j 0) (vs.zip (prs.map (·.2)))) (I.ok.hd hcalm) ⟨⟨ot, n, ho, hc, hdn, hd⟩, by simp [hzl], fun j k v e => ?_⟩ ⟨by rw [hzl, hl], fun i key v e => ?_⟩ (by rw [hzl]; exact hz) fun h' tk hd' k => ?_
  · obtain ⟨b, q', e1, e3, e4, e5, e6⟩ := hpr j k v e
    have eb : ps.getD j 0 = b := by rw [List.getD_eq_getElem?_getD, e1]; rfl
    refine ⟨?_, ?_⟩
    · dsimp only
      rw [eb]
      simp [e1]
    · dsimp only
      rw [eb]
      exact .inl e5
  · obtain ⟨b, q', e1, e3, e4, e5, e6⟩ := hpr i key v e
    exact ⟨q'.1, by rw [e3, e4], e6⟩
  · have hm : (s.heap.objs.size == sysModules) = false := beq_eq_false_iff_ne.mpr (Nat.ne_of_gt I.big)
    have hlen : (mergeK [] kvs).length ≤ sizeLine := by
      refine Nat.le_trans (length_mergeK kvs []) ?_
      rw [List.length_nil, Nat.zero_add, rel.length, hl]
      exact hz
    exact ⟨.ref s.heap.objs.size, upd H s.heap.objs.size (.dK (mergeK [] kvs)), I.laid (t' := tk) (fun b o e => k b o (fun z => nomatch z) e) (Nat.le_refl _) (show ObjOk X.prog X.w _ _ _ (.dK (mergeK [] kvs)) from ⟨hlen, hm, merged [] prs, KV.merge rel .nil, hd'⟩), rfl, q _ (I.hok.fresh (Nat.le_refl _))⟩
/-! ### sorted(d), sorted(d.items()) -/
theorem nd_map {α β : Type} {f : α → β} {l : List α} (h : (l.map f).Nodup) : l.Nodup := by
  have h1 : l.Pairwise fun a b => f a ≠ f b := List.pairwise_map.mp h
  exact h1.imp fun n e => n (by rw [e])
theorem pat {α β : Type} {F : α → β → Prop} : ∀ {l : List α} {m : List β} {j : Nat} {a : α}, Paired F l m → l[j]? = some a → ∃ b, m[j]? = some b ∧ F a b
  | _, _, _, _, .nil, h => by simp at h
  | _, _, 0, _, .cons r _, h => by
    simp at h
    subst h
    exact ⟨_, rfl, r⟩
  | _, _, j + 1, _, .cons _ t, h => by
    obtain ⟨b, h1, h2⟩ := pat (j := j) t (by simpa using h)
    exact ⟨b, by simpa using h1, h2⟩
theorem pget {α β : Type} {F : α → β → Prop} : ∀ {l : List α} {m : List β}, m.length = l.length → (∀ (j : Nat) (a : α) (b : β), l[j]? = some a → m[j]? = some b → F a b) → Paired F l m
  | [], [], _, _ => .nil
  | [], _ :: _, h, _ => by simp at h
  | _ :: _, [], h, _ => by simp at h
  | a :: l, b :: m, h, k => .cons (k 0 a b rfl rfl) (pget (by simpa using h) fun j x y hx hy => k (j + 1) x y (by simpa using hx) (by simpa using hy))
def rSoD : List V → Hp → VK → Prop := fun xs H Q => ∃ (a : Addr) (kvs : List (Key × V)) (ns : List Int), xs = [.ref a] ∧ H a = some (.dK kvs) ∧ kvs.map (·.1) = ns.map Sum.inl ∧
  ∀ (ys : List Int) (p : Addr), ys.Perm ns → ys.Pairwise (· ≤ ·) → ns.Nodup → H p = none → Q (.ref p) (upd H p (.lst (ys.map V.int)))
theorem call_sortedDI (hcalm : X.calm = true) : CallR X (.builtin "sorted") rSoD := by
  intro pins s σ H xs us Q I r q
  obtain ⟨a, kvs, ns, rfl, hd, hks, q⟩ := q
  obtain ⟨u, rfl, rx⟩ := vals1 r
  cases rx
  obtain ⟨z, lo, vs, rel, dd⟩ := dk_of I.hok hd
  obtain ⟨ep, hat⟩ := dd.dictAt
  have hkeys : vs.map (·.1) = ns.map Sum.inl := rel.keys.symm.trans hks
  have nd : ns.Nodup := by
    have h1 := hat.nodup
    rw [hkeys] at h1
    exact nd_map h1
  have hl : vs.length = ns.length := by
    have e := congrArg List.length hkeys
    rw [List.length_map, List.length_map] at e
    exact e
  have h16 : vs.length ≤ sizeLine := by rw [← rel.length]; exact z
  refine Calls.call_function_entry PyProof.Rows.kind_sorted PyProof.Rows.plain_sorted PyProof.Rows.entry_sorted (PyProof.Rows.args_sorted1 _) ?_
  unfold Builtin.«sorted»
  refine wpAny_bind (m := checkCount "sorted" 1 1 _) (wpAny_pure ?_)
  refine wpAny_bind (PySem.W.kdu_collect (A := X.A.in1) (PySem.W.kdl_dict (knd := mixKind X.prog X.w) (kvs := vs) (ep := ep) lo) (I.ok.hd hcalm) hat h16 fun h' tk acc hk hacc => ?_)
  have hal : acc.toList.length = vs.length := by rw [Array.length_toList, hacc.1]
  have hV : Vals (vs.map fun p => kV p.1) acc.toList := keys_at hal fun j v e => by
    obtain ⟨k, x, e1, e2⟩ := hacc.2 j v (by rw [← Array.getElem?_toList]; exact e)
    exact ⟨k, x, e1, e2⟩
  have hI : IntsAre acc.toList ns := by
    refine intsAre_of ?_
    have e : (vs.map fun p => kV p.1) = ns.map V.int := by
      rw [show (vs.map fun p => kV p.1) = (vs.map (·.1)).map kV by rw [List.map_map]; rfl, hkeys, List.map_map]
      rfl
    rw [← e]
    exact hV
  have I1 : Inv X pins σ H { s with heap := h', toks := tk } := I.kept hk
  have hz : acc.toList.length ≤ sizeLine := by rw [hal]; exact h16
  refine wpAny_bind (wpAny_newList ?_ hz)
  have hoL : (h'.push (seqObj "list" acc.toList.toArray 0)).get? h'.objs.size = some (seqObj "list" acc.toList.toArray 0) := Heap.get?_push_size _ rfl
  show wpAny _ _ _ _ _ { s with heap := h'.push (seqObj "list" acc.toList.toArray 0), toks := tk }
  refine wpAny_bind (wpAny_holding (wpAny_call_entry PyProof.Rows.slot_list_sort ⟨_, hoL, rfl⟩ PyProof.Rows.entry_list_sort
    (SrtO.list_sort_ord SrtO.swo_int (s := { s with heap := h'.push (seqObj "list" acc.toList.toArray 0), toks := tk }) hoL hz (fun h2 => SrtO.ints_sortable hI h2) fun out h1 h2 => ⟨_, rfl, ?_⟩) (PyProof.Rows.args_list_sort _)))
  obtain ⟨k1, k2, k3⟩ := SrtO.ints_out hI h1 h2
  obtain ⟨e', he'⟩ := PyProof.Rows.sortedHeap_at (vs := acc.toList) (out := out.toArray) hoL
  have hlen : ((out.map SrtO.iv).map V.int).length ≤ sizeLine := by
    rw [List.length_map, k2.length_eq, ← hl]
    exact h16
  refine wpAny_pure ⟨_, rfl, .ref h'.objs.size, upd H h'.objs.size (.lst ((out.map SrtO.iv).map V.int)), I1.laid (t' := tk) (fun b u e => ?_) (Nat.le_refl _)
    (show ObjOk X.prog X.w _ _ _ (.lst ((out.map SrtO.iv).map V.int)) from ⟨hlen, out, e', vals_of_ints k1, he'⟩), rfl, q _ _ k2 k3 nd (I1.hok.fresh (Nat.le_refl _))⟩
  have hb : b < h'.objs.size := Heap.lt_size e
  rw [PyProof.Rows.sortedHeap_old (Nat.ne_of_lt hb) (by rw [size_push']; exact Nat.lt_succ_of_lt hb)]
  exact Heap.get?_push_of_some _ e
def rItemsK : V → List V → Hp → VK → Prop := fun x xs H Q => ∃ (a : Addr) (kvs : List (Key × V)), x = .ref a ∧ xs = [] ∧ H a = some (.dK kvs) ∧ ∀ p, H p = none → Q (.ref p) (upd H p (DX.itemsO p a))
theorem mt_itemsK : MtR X "dict.items" rItemsK := by
  intro pins s σ H x xs v us Q I rx rxs h
  obtain ⟨a, kvs, rfl, rfl, ha, q⟩ := h
  cases rx
  cases rxs
  obtain ⟨z, hd, vs, rel, dd⟩ := dk_of I.hok ha
  obtain ⟨es, ep, hr, _⟩ := dd.raw
  refine DT.callItems (es := es) (ep := ep) hd hr ?_
  have hf : H s.heap.objs.size = none := I.hok.fresh (Nat.le_refl _)
  exact ⟨.ref s.heap.objs.size, upd H s.heap.objs.size (DX.itemsO s.heap.objs.size a), I.laid (t' := s.toks) (fun b u e => Heap.get?_push_of_some _ e) (Nat.le_refl _) (DX.itemsO_ok (Heap.get?_push_size _ rfl)), rfl, q _ hf⟩
theorem refs_of : ∀ {out : List Value}, (∀ v ∈ out, ∃ b, v = Value.ref b) → ∃ ts : List Addr, out = ts.map Value.ref
  | [], _ => ⟨[], rfl⟩
  | v :: r, h => by
    obtain ⟨b, rfl⟩ := h v List.mem_cons_self
    obtain ⟨ts, rfl⟩ := refs_of (out := r) fun u hu => h u (List.mem_cons_of_mem _ hu)
    exact ⟨b :: ts, rfl⟩
def adr : Value → Addr
  | .ref b => b
  | _ => 0
theorem perm_refs {ts as : List Addr} (h : (ts.map Value.ref).Perm (as.map Value.ref)) : ts.Perm as := by
  have e := h.map adr
  rw [List.map_map, List.map_map] at e
  have e1 : ∀ l : List Addr, l.map (adr ∘ Value.ref) = l := fun l => by
    induction l with
    | nil => rfl
    | cons a l ih => rw [List.map_cons, ih]; rfl
  rw [e1, e1] at e
  exact e
/-- the pair of ints at b -/
def kk (h : Heap) (b : Addr) : Int × Int := match h.get? b with
  | some ⟨_, _, .seq its _, _⟩ => (match its.toList with
    | [.int x _, .int y _] => (x, y)
    | _ => (0, 0))
  | _ => (0, 0)
def kv (h : Heap) : Value → Int × Int
  | .ref b => kk h b
  | _ => (0, 0)
def rSoI : List V → Hp → VK → Prop := fun xs H Q => ∃ (r a : Addr) (ms : List (Int × Int)), xs = [.ref r] ∧ H r = some (DX.itemsO r a) ∧ H a = some (.dK (ms.map fun p => (Sum.inl p.1, V.int p.2))) ∧
  ∀ (ts : List Addr) (ps : List (Int × Int)) (H2 : Hp) (p : Addr), Same H H2 → H p = none → H2 p = some (.lst (ts.map V.ref)) → ps.Perm ms → ps.Pairwise (fun p q => p.1 ≤ q.1) → (ms.map (·.1)).Nodup → Paired (fun t q => TupN H2 t [.int q.1, .int q.2]) ts ps → Q (.ref p) H2
theorem call_sortedIt (hcalm : X.calm = true) : CallR X (.builtin "sorted") rSoI := by
  intro pins s σ H xs us Q I r q
  obtain ⟨r0, a, ms, rfl, hv, hd, q⟩ := q
  obtain ⟨u, rfl, rx⟩ := vals1 r
  cases rx
  obtain ⟨z, lo, vs, rel, dd⟩ := dk_of I.hok hd
  obtain ⟨ep0, hat⟩ := dd.dictAt
  have hkeys : vs.map (·.1) = (ms.map (·.1)).map Sum.inl := by
    rw [← rel.keys, List.map_map, List.map_map]
    rfl
  have nd : (ms.map (·.1)).Nodup := by
    have h1 := hat.nodup
    rw [hkeys] at h1
    exact nd_map h1
  obtain ⟨es, ep, hr, hes, hek⟩ := dd.raw
  have hlen : vs.length = ms.length := by rw [← rel.length, List.length_map]
  rw [List.length_map] at z
  have hvw : s.heap.IsItemsView r0 a := (I.hok _ _ hv).1
  refine Calls.call_function_entry PyProof.Rows.kind_sorted PyProof.Rows.plain_sorted PyProof.Rows.entry_sorted (PyProof.Rows.args_sorted1 _) ?_
  unfold Builtin.«sorted»
  refine wpAny_bind (m := checkCount "sorted" 1 1 _) (wpAny_pure ?_)
  refine wpAny_bind (PySem.W.dil_collect (A := X.A.in1) (es := es) (ep := ep) (I.ok.hd hcalm) hvw hr (by rw [hes, hlen]; exact z) fun h' tk as hk hl hG => ?_)
  have pr : ∀ (j : Nat) (b : Addr), as[j]? = some b → ∃ (l n : Int) (t1 t2 : Tok), ms[j]? = some (l, n) ∧ h'.get? b = some { cls := .type "tuple", data := .seq #[.int l t1, .int n t2] } := by
    intro j b hj
    obtain ⟨hje, hb⟩ := hG.pairs j b hj
    have hjm : j < ms.length := by rw [← hlen, ← hes]; exact hje
    obtain ⟨q', hq', f1, f2⟩ := pat (j := j) rel (by rw [List.getElem?_map, List.getElem?_eq_getElem hjm]; rfl)
    obtain ⟨g1, g2⟩ := hek j hje _ _ hq'
    rw [← f1] at g1
    rcases keyIs_shape (show keyIs (Sum.inl ms[j].1) es[j].key = true from g1) with ⟨i, t, e1, e2⟩ | ⟨x, t, e1, e2⟩
    · obtain ⟨t2, e3⟩ := (show ∃ t, q'.2 = Value.int _ t from f2)
      injection e1 with e1
      refine ⟨ms[j].1, ms[j].2, t, t2, List.getElem?_eq_getElem hjm, ?_⟩
      rw [hb, e2, g2, e3, e1]
    · cases e1
  have kkp : ∀ (j : Nat) (b : Addr), as[j]? = some b → ms[j]? = some (kk h' b) := fun j b hj => by
    obtain ⟨l, n, t1, t2, e1, e2⟩ := pr j b hj
    unfold kk
    rw [e1, e2]
  have I1 : Inv X pins σ H { s with heap := h', toks := tk } := I.kept hk
  have lz : (as.map Value.ref).length ≤ sizeLine := by rw [List.length_map, hl, hes, hlen]; exact z
  refine wpAny_bind (wpAny_newList ?_ lz)
  have hoL : (h'.push (seqObj "list" (as.map Value.ref).toArray 0)).get? h'.objs.size = some (seqObj "list" (as.map Value.ref).toArray 0) := Heap.get?_push_size _ rfl
  show wpAny _ _ _ _ _ { s with heap := h'.push (seqObj "list" (as.map Value.ref).toArray 0), toks := tk }
  have isp : ∀ v ∈ as.map Value.ref, Srt.IsPair (h'.push (seqObj "list" (as.map Value.ref).toArray 0)) v (kv h' v).1 (kv h' v).2 := fun v hv => by
    obtain ⟨b, hb, rfl⟩ := List.mem_map.mp hv
    obtain ⟨j, hj⟩ := List.mem_iff_getElem?.mp hb
    obtain ⟨l, n, t1, t2, e1, e2⟩ := pr j b hj
    have e3 : kk h' b = (l, n) := Option.some.inj ((kkp j b hj).symm.trans e1)
    refine ⟨b, _, t1, t2, 0, rfl, Heap.get?_push_of_some _ e2, rfl, ?_⟩
    show Data.seq #[.int l t1, .int n t2] 0 = Data.seq #[.int (kk h' b).1 t1, .int (kk h' b).2 t2] 0
    rw [e3]
  refine wpAny_bind (wpAny_holding (wpAny_call_entry PyProof.Rows.slot_list_sort ⟨_, hoL, rfl⟩ PyProof.Rows.entry_list_sort
    (SrtO.list_sort_ord (SrtO.swo_lex (kv h')) (s := { s with heap := h'.push (seqObj "list" (as.map Value.ref).toArray 0), toks := tk }) hoL lz (fun h2 => SrtO.pairs_sortableO (s := { s with heap := h'.push (seqObj "list" (as.map Value.ref).toArray 0), toks := tk }) (by omega) isp fun o e => ?_) fun out h1 h2 => ⟨_, rfl, ?_⟩) (PyProof.Rows.args_list_sort _)))
  · have e' : some o = some (seqObj "list" (as.map Value.ref).toArray 0) := e.symm.trans hoL
    cases e'
    intro c
    exact absurd (Value.type.inj c) (by decide)
  obtain ⟨n', he'⟩ := PyProof.Rows.sortedHeap_at (vs := as.map Value.ref) (out := out.toArray) hoL
  have old : ∀ b o, h'.get? b = some o → (sortedHeap (h'.push (seqObj "list" (as.map Value.ref).toArray 0)) h'.objs.size (as.map Value.ref) out.toArray).get? b = some o := fun b o e => by
    have hb : b < h'.objs.size := Heap.lt_size e
    rw [PyProof.Rows.sortedHeap_old (Nat.ne_of_lt hb) (by rw [size_push']; exact Nat.lt_succ_of_lt hb)]
    exact Heap.get?_push_of_some _ e
  -- the addresses in the new order
  obtain ⟨ts, rfl⟩ : ∃ ts : List Addr, out = ts.map Value.ref := by
    refine refs_of fun v hv => ?_
    obtain ⟨b, _, e⟩ := List.mem_map.mp (h2.perm.mem_iff.mp hv)
    exact ⟨b, e.symm⟩
  have tperm : ts.Perm as := perm_refs h2.perm
  have asms : as.map (kk h') = ms := by
    refine List.ext_getElem? fun j => ?_
    rw [List.getElem?_map]
    cases e : as[j]? with
    | some b => exact (kkp j b e).symm
    | none =>
      have hj : as.length ≤ j := List.getElem?_eq_none_iff.mp e
      rw [hl, hes, hlen] at hj
      exact (List.getElem?_eq_none hj).symm
  have fresh : ∀ b ∈ as, H b = none := fun b hb => by
    refine I.hok.fresh (Nat.le_of_lt (hG.above b hb))
  have nB : h'.objs.size ∉ as := fun hm => by
    obtain ⟨j, hj⟩ := List.mem_iff_getElem?.mp hm
    obtain ⟨_, _, _, _, _, e2⟩ := pr j _ hj
    exact absurd (Heap.lt_size e2) (Nat.lt_irrefl _)
  have hB : H h'.objs.size = none := I1.hok.fresh (Nat.le_refl _)
  let HT : Hp := fun b => if b ∈ as then some (.frz ((h'.get? b).getD default) (.tup [.int (kk h' b).1, .int (kk h' b).2])) else H b
  have HTin : ∀ b, b ∈ as → HT b = some (.frz ((h'.get? b).getD default) (.tup [.int (kk h' b).1, .int (kk h' b).2])) := fun b hb => if_pos hb
  have HTout : ∀ b, b ∉ as → HT b = H b := fun b hb => if_neg hb
  have sm : Same H (upd HT h'.objs.size (.lst (ts.map V.ref))) := fun b o e => by
    rw [upd_ne (ne_of_none e hB), HTout b fun m => ?_]
    · exact e
    · rw [fresh b m] at e
      cases e
  have tn : ∀ b ∈ as, TupN (upd HT h'.objs.size (.lst (ts.map V.ref))) b [.int (kk h' b).1, .int (kk h' b).2] := fun b hb => by
    refine ⟨(h'.get? b).getD default, ?_, ?_⟩
    · rw [upd_ne (show b ≠ h'.objs.size from fun e => nB (e ▸ hb))]
      exact HTin b hb
    · obtain ⟨j, hj⟩ := List.mem_iff_getElem?.mp hb
      obtain ⟨_, _, _, _, _, e2⟩ := pr j b hj
      rw [e2]
      rfl
  refine wpAny_pure ⟨_, rfl, .ref h'.objs.size, upd HT h'.objs.size (.lst (ts.map V.ref)), Zl.many (s := s) (t' := tk) (H' := upd HT h'.objs.size (.lst (ts.map V.ref))) I (fun b o e => old b o (hk b o e)) sm (fun b n e => ?_) (fun b o n e => ?_), rfl,
    q ts (ts.map (kk h')) _ _ sm hB upd_same (by rw [← asms]; exact tperm.map _) ?_ nd ?_⟩
  · have lt : b < s.heap.objs.size := by
      cases z : s.heap.get? b with
      | none => exact absurd z e
      | some o => exact Heap.lt_size z
    have lt2 : b < h'.objs.size := by
      cases z : s.heap.get? b with
      | none => exact absurd z e
      | some o => exact Heap.lt_size (hk _ _ z)
    rw [upd_ne (Nat.ne_of_lt lt2), HTout b fun m => absurd (hG.above b m) (Nat.not_lt.mpr (Nat.le_of_lt lt))]
    exact n
  · by_cases hb : b = h'.objs.size
    · subst hb
      rw [upd_same] at e
      cases e
      refine ⟨?_, ts.map Value.ref, n', Zl.refVals ts, he'⟩
      rw [List.length_map, tperm.length_eq, hl, hes, hlen]
      exact z
    · rw [upd_ne hb] at e
      by_cases hm : b ∈ as
      · rw [HTin b hm] at e
        cases e
        obtain ⟨j, hj⟩ := List.mem_iff_getElem?.mp hm
        obtain ⟨l, m, t1, t2, e1, e2⟩ := pr j b hj
        have e3 : kk h' b = (l, m) := Option.some.inj ((kkp j b hj).symm.trans e1)
        rw [e2, e3]
        exact ⟨old _ _ e2, by show 2 ≤ sizeLine; rw [sizeLine_eq]; decide, [.int l t1, .int m t2], .cons ⟨t1, rfl⟩ (.cons ⟨t2, rfl⟩ .nil), _, old _ _ e2, rfl, _, rfl⟩
      · rw [HTout b hm, n] at e
        cases e
  · have h3 := List.pairwise_map.mp h1
    refine List.pairwise_map.mpr (h3.imp fun {x y} e => ?_)
    have e2 : SrtO.lexB (kk h' y) (kk h' x) = false := e
    refine Int.not_lt.mp fun lt => ?_
    rw [SrtO.lexB_iff.mpr (.inl lt)] at e2
    cases e2
  · refine pget (by rw [List.length_map]) fun j t q' ht hq' => ?_
    rw [List.getElem?_map, ht] at hq'
    cases hq'
    exact tn t (tperm.mem_iff.mp (List.mem_of_getElem? ht))
end
end Tn
namespace Sm
open PySem PySem.Spec PyProof.Rows L2
def top (i : Nat) : Stmt := PySem.Challenge.pw_shownviews_k01_schemas_rows_deeds_edits.main.body.getD i (.Pass ⟨0, 0, 0, 0⟩)
abbrev sHand : Stmt := top 61
abbrev sDraw : Stmt := top 62
abbrev sSome : Stmt := top 63
abbrev FnP (K : PySem.W.Frag) (x : Str) (st : Stmt) (f : Addr) (fd : FuncData) : Prop := FunD K x x (defArgs st) (defBody st) (defScope st) [] [] f fd
theorem tst {c : Bool} {A B : Prop} (h1 : c = true → A) (h2 : c = false → B) : if c = true then A else B := by
  cases c with
  | true => exact iteT (h1 rfl)
  | false => exact iteF (h2 rfl)
theorem mod64 (x : Int) {m : Int} (h : 0 < m) (h2 : m < 2 ^ 62) : -(2 ^ 64) < x % m ∧ x % m < 2 ^ 64 := by
  have h1 := Int.emod_nonneg x (show m ≠ 0 by omega)
  have h3 := Int.emod_lt_of_pos x h
  exact ⟨by omega, by omega⟩
/-- all but the object at a is as it was -/
def Keep (a : Addr) (H H' : Hp) : Prop := ∀ b o, b ≠ a → H b = some o → H' b = some o
theorem Keep.refl {a : Addr} {H : Hp} : Keep a H H := fun _ _ _ h => h
theorem Keep.trans {a : Addr} {H H1 H2 : Hp} (x : Keep a H H1) (y : Keep a H1 H2) : Keep a H H2 := fun b o n h => y b o n (x b o n h)
theorem Keep.upd {a : Addr} {H H1 : Hp} {o : HO} (x : Keep a H H1) : Keep a H (upd H1 a o) := fun b u n h => by
  rw [upd_ne n]
  exact x b u n h
theorem Keep.new {a p : Addr} {H H1 : Hp} {o : HO} (x : Keep a H H1) (hp : H p = none) : Keep a H (L2.upd H1 p o) := fun b u n h => by
  rw [upd_ne (ne_of_none h hp)]
  exact x b u n h
/-- the hand of the draws: what stands at a -/
structure Hand (H : Hp) (a c : Addr) (cs : List Int) (i b sd n : Int) : Prop where
  at_ : H a = some (.lst [.ref c, .int i, .int b, .int sd, .int n])
  cells : H c = some (.lst (cs.map V.int))
  len : cs.length ≤ 63
  pos : ∀ x ∈ cs, 0 ≤ x
  i0 : 0 ≤ i
  b0 : 0 ≤ b
  s0 : 0 ≤ sd
  n0 : 0 ≤ n
def HandC (H : Hp) (a c : Addr) : Prop := ∃ cs i b sd n, Hand H a c cs i b sd n
def HandP (H : Hp) (a : Addr) : Prop := ∃ c, HandC H a c
theorem Hand.ne {H : Hp} {a c : Addr} {cs : List Int} {i b sd n : Int} (h : Hand H a c cs i b sd n) : c ≠ a := ne_of h.cells h.at_ (by
  intro z
  injection z with z
  cases cs with
  | nil => cases z
  | cons x r => cases z)
theorem HandP.keep {a p : Addr} {H H' : Hp} (h : HandP H a) (k : ∀ b o, H b = some o → H' b = some o) : HandP H' a := by
  obtain ⟨c, cs, i, b, sd, n, x⟩ := h
  exact ⟨c, cs, i, b, sd, n, k _ _ x.at_, k _ _ x.cells, x.len, x.pos, x.i0, x.b0, x.s0, x.n0⟩
section
variable {P : Program} {w : World} {K : PySem.W.Frag} {mg : Str → Option Value} {base : Heap}
/-! ### the hand -/
def spHand (K : PySem.W.Frag) : Sp := fun vs H Q _ => ∃ (a : Addr) (ns : List Int), vs = [.ref a] ∧ SqL K H a (ns.map V.int) ∧ ns.length ≤ 63 ∧ ∀ H' p, Same H H' → H p = none → HandP H' p → Q (.ref p) H'
theorem scHand : FnScope ["script", "cells", "cell"] ["script"] (defScope sHand) := ⟨rfl, rfl, rfl, by decide +kernel, rfl, by decide +kernel, by decide +kernel⟩
theorem cut63 {α : Type} (f : α → V) (ns : List α) (h : ns.length ≤ 63) : cutV (ns.map f) none (some 63) = ns.map f := by
  unfold cutV
  rw [HT.sIx_none]
  have e : HT.sIx (ns.map f).length (ns.map f).length (some 63) = min 63 (ns.map f).length := HT.sIx_nat _ _ 63
  rw [e, List.length_map, show min 63 ns.length = ns.length by omega]
  show ((ns.map f).drop 0).take (ns.length - 0) = _
  rw [List.drop_zero, Nat.sub_zero]
  exact List.take_of_length_le (by rw [List.length_map]; exact Nat.le_refl _)
def absI (n : Int) : Int := if n < 0 then -n else n
theorem ok_hand {f : Addr} {fd : FuncData} (F : FnP K "_law_hand" sHand f fd) (m1 : mg "abs" = none) (m2 : mg "int" = none) (m3 : mg "len" = none) : FnOk P w K mg base CX0 1 f fd ["script"] (spHand K) := by
  refine F.ok scHand (fun vs H Q E h => ?_) (fun cdv A outer s H vs Q E hr h => ?_)
  · obtain ⟨a, ns, rfl, _⟩ := h
    rfl
  · obtain ⟨a, ns, rfl, hS, hl, q⟩ := h
    refine ⟨_, (pss_cons (ps_setLc (i := 1) (own := [("cell", 2)]) (g := gName 2) (tt := tYes) rfl scHand.nd rfl rfl (sw_true rfl rfl rfl (by decide +kernel)) (pi_list (pe_slice sl_list (pv 0) po_none (po_some pe_int))) (blkOk_by (N := ["script", "cells", "cell"]) (sc := defScope sHand) (by decide +kernel)) (fun _ _ _ _ _ => pg_name (i := 2) scHand.nd rfl (Or.inl rfl)) (fun _ _ _ _ _ => pts_nil) (fun _ _ _ _ _ => (pe_callB call_abs (by rfl) m1 (by decide +kernel) (pa_cons (pe_callTy call_int1 (by rfl) m2 (by decide +kernel) (pa_cons (pv 2) pa_nil)) pa_nil))))
      (pss_one (ps_ret (pe_lst (pa_cons (pv 1) (pa_cons pe_int (pa_cons pe_int (pa_cons (pe_op op_add pe_int (pe_op op_mul pe_int (pe_callB call_len_seq (by rfl) m3 PySem.boot_len (pa_cons (pv 1) pa_nil)))) (pa_cons pe_int pa_nil))))))))), ?_⟩
    refine ⟨_, rfl, _, rfl, a, _, rfl, hS, fun p np => ?_⟩
    rw [show cutV (ns.map V.int) none (some 63) = ns.map V.int from cut63 V.int ns hl]
    refine ⟨p, rfl, ⟨_, SqL.of upd_same⟩, fun D nD => ?_⟩
    have nDp : D ≠ p := fun e => by
      rw [e, upd_same] at nD
      cases nD
    have nD0 : H D = none := by rw [upd_ne nDp] at nD; exact nD
    refine lc_list (xs := ns.map V.int) (fun i H' => H' = upd (upd H p (.lst (ns.map V.int))) D (.lst (((ns.map absI).take i).map V.int))) rfl (fun i H' _ e => ?_) (fun i x H' hx e => ?_) (fun H' e => ?_)
    · rw [e]
      exact SqL.of (by rw [upd_ne nDp.symm, upd_same])
    · subst e
      obtain ⟨n, hn, rfl⟩ : ∃ n, ns[i]? = some n ∧ x = V.int n := by
        rw [List.getElem?_map] at hx
        obtain ⟨n, h1, h2⟩ := Option.map_eq_some_iff.mp hx
        exact ⟨n, h1, h2.symm⟩
      have hlt : i < ns.length := (List.getElem?_eq_some_iff.mp hn).1
      refine ⟨rfl, _, rfl, .inl ⟨_, rfl, ?_⟩⟩
      refine ⟨_, rfl, _, upd_same, small1000 (by rw [List.length_map, List.length_take]; omega), ?_⟩
      rw [upd_upd]
      congr 2
      rw [List.take_add_one, List.getElem?_map, hn, List.map_append]
      rfl
    · subst e
      refine ⟨_, rfl, _, rfl, D, _, rfl, .inl (SqL.of upd_same), _, _, rfl, rfl, .inl ⟨by decide, by decide⟩, _, _, rfl, rfl, (by rw [sizeLine_eq]; exact (by decide : 5 ≤ 16777216)), fun hp nh => ?_⟩
      have eT : ((ns.map absI).take (ns.map V.int).length) = ns.map absI := List.take_of_length_le (by rw [List.length_map, List.length_map]; exact Nat.le_refl _)
      rw [eT] at nh ⊢
      have ph : hp ≠ D := fun e => by
        rw [e, upd_same] at nh
        cases nh
      have php : hp ≠ p := fun e => by
        rw [e, upd_ne nDp.symm, upd_same] at nh
        cases nh
      have nh0 : H hp = none := by rw [upd_ne ph, upd_ne php] at nh; exact nh
      refine q _ hp (fun b o e => ?_) nh0 ⟨D, ns.map absI, 0, 0, _, 0, upd_same, by rw [upd_ne ph.symm]; exact upd_same, by rw [List.length_map]; exact hl, fun x hx => ?_, by decide, by decide, ?_, by decide⟩
      · rw [upd_ne (ne_of_none e nh0), upd_ne (ne_of_none e nD0), upd_ne (ne_of_none e np)]
        exact e
      · obtain ⟨n, _, rfl⟩ := List.mem_map.mp hx
        unfold absI
        split <;> omega
      · omega
def spDraw : Sp := fun vs H Q _ => ∃ (a c : Addr) (m : Int), vs = [.ref a, .int m] ∧ HandC H a c ∧ 0 < m ∧ m < 1073741824 ∧ ∀ (d : Int) (H' : Hp), 0 ≤ d → d < m → HandC H' a c → Keep a H H' → Q (.int d) H'
theorem scDraw : FnScope ["hand", "many", "cell", "digit", "number"] ["hand", "many"] (defScope sDraw) := ⟨rfl, rfl, rfl, by decide +kernel, rfl, by decide +kernel, by decide +kernel⟩
theorem ok_draw {f : Addr} {fd : FuncData} (F : FnP K "_law_draw" sDraw f fd) (m2 : mg "int" = none) (m3 : mg "len" = none) : FnOk P w K mg base CX0 1 f fd ["hand", "many"] spDraw := by
  refine F.ok scDraw (fun vs H Q E h => ?_) (fun cdv A outer s H vs Q E hr h => ?_)
  · obtain ⟨a, c, m, rfl, _⟩ := h
    rfl
  · obtain ⟨a, c, m, rfl, hh, hm, hm2, q⟩ := h
    refine ⟨_, (C8.pss_cut (ps_if (PW.pt (pw_and (pt_cmpR op_eq (pe_ix ix_list (pv 0) pe_int (fun _ _ => rfl)) pe_int (nomark _)) (pw_and1 (pt_cmpR op_lt (pe_ix ix_list (pv 0) pe_int (fun _ _ => rfl)) (pe_callB call_len_seq (by rfl) m3 PySem.boot_len (pa_cons (pe_ix ix_list (pv 0) pe_int (fun _ _ => rfl)) pa_nil)) (nomark _))))) (pss_cons (ps_set (i := 2) scDraw.nd rfl (Or.inl rfl) (pe_ix ix_list (pe_ix ix_list (pv 0) pe_int (fun _ _ => rfl)) (pe_ix ix_list (pv 0) pe_int (fun _ _ => rfl)) (fun _ _ => rfl)))
      (pss_cons (ps_asg (pe_op op_add (pe_ix ix_list (pv 0) pe_int (fun _ _ => rfl)) pe_int) (pg_sub (pv 0) pe_int set_list))
      (pss_cons (ps_asg (pe_op op_mod (pe_callTy call_int1 (by rfl) m2 (by decide +kernel) (pa_cons (pe_op op_add (pe_op op_add (pe_op op_mul (pe_ix ix_list (pv 0) pe_int (fun _ _ => rfl)) pe_int) (pv 2)) pe_int) pa_nil)) pe_int) (pg_sub (pv 0) pe_int set_list))
      (pss_one (ps_if (pt_cmpR op_ge (pv 2) (pe_op op_pow pe_int pe_int) (nomark _)) (pss_one (ps_asg (pv 2) (pg_sub (pv 0) pe_int set_list))) pss_nil))))) pss_nil)
      (pss_cons (ps_if (pt_cmpR op_gt (pe_ix ix_list (pv 0) pe_int (fun _ _ => rfl)) pe_int (nomark _)) (pss_cons (ps_set (i := 3) scDraw.nd rfl (Or.inl rfl) (pe_op op_mod (pe_callTy call_int1 (by rfl) m2 (by decide +kernel) (pa_cons (pe_ix ix_list (pv 0) pe_int (fun _ _ => rfl)) pa_nil)) (pv 1)))
      (pss_cons (ps_asg (pe_op op_fdiv (pe_ix ix_list (pv 0) pe_int (fun _ _ => rfl)) (pv 1)) (pg_sub (pv 0) pe_int set_list))
      (pss_one (ps_ret (pv 3))))) pss_nil)
      (pss_cons (ps_asg (pe_op op_add (pe_ix ix_list (pv 0) pe_int (fun _ _ => rfl)) pe_int) (pg_sub (pv 0) pe_int set_list))
      (pss_cons (ps_set (i := 4) scDraw.nd rfl (Or.inl rfl) (pe_op op_mod (pe_callTy call_int1 (by rfl) m2 (by decide +kernel) (pa_cons (pe_op op_mul (pe_callTy call_int1 (by rfl) m2 (by decide +kernel) (pa_cons (pe_op op_add (pe_ix ix_list (pv 0) pe_int (fun _ _ => rfl)) (pe_op op_mul pe_int (pe_ix ix_list (pv 0) pe_int (fun _ _ => rfl)))) pa_nil)) pe_int) pa_nil)) pe_int))
      (pss_cons (ps_set (i := 4) scDraw.nd rfl (Or.inl rfl) (pe_op op_mod (pe_callTy call_int1 (by rfl) m2 (by decide +kernel) (pa_cons (pe_op op_mul (pv 4) (pe_op op_add (pe_op op_fdiv (pv 4) pe_int) pe_int)) pa_nil)) pe_int))
      (pss_cons (ps_set (i := 4) scDraw.nd rfl (Or.inl rfl) (pe_op op_mod (pe_callTy call_int1 (by rfl) m2 (by decide +kernel) (pa_cons (pe_op op_mul (pv 4) (pe_op op_add (pe_op op_fdiv (pv 4) pe_int) pe_int)) pa_nil)) pe_int))
      (pss_one (ps_ret (pe_op op_mod (pe_callTy call_int1 (by rfl) m2 (by decide +kernel) (pa_cons (pe_op op_fdiv (pv 4) pe_int) pa_nil)) (pv 1)))))))))), ?_⟩
    refine ⟨fun σ' H' => ∃ x, σ' = [some (.ref a), some (.int m), x, none, none] ∧ HandC H' a c ∧ Keep a H H', ?_, fun σ' H' hM => ?_⟩
    · obtain ⟨cs, i, b, sd, n, h⟩ := hh
      have hat := h.at_
      refine ⟨_, rfl, a, _, _, _, rfl, rfl, SqL.of hat, atI_nat (j := 2) rfl, rfl, _, rfl, tst (fun e1 => ?_) fun _ => ⟨none, rfl, ⟨cs, i, b, sd, n, h⟩, Keep.refl⟩⟩
      refine ⟨_, rfl, a, _, _, _, rfl, rfl, SqL.of hat, atI_nat (j := 1) rfl, _, rfl, a, _, _, _, rfl, rfl, SqL.of hat, atI_nat (j := 0) rfl, c, _, rfl, .inl (SqL.of h.cells), _, _, rfl, rfl, _, rfl, tst (fun e2 => ?_) fun _ => ⟨none, rfl, ⟨cs, i, b, sd, n, h⟩, Keep.refl⟩⟩
      have hi : i < (cs.length : Int) := by
        have z := of_decide_eq_true e2
        rw [List.length_map] at z
        exact z
      have hi0 := h.i0
      obtain ⟨j, rfl⟩ : ∃ j : Nat, i = (j : Int) := ⟨i.toNat, by omega⟩
      have hj : j < cs.length := by omega
      obtain ⟨x, hx⟩ : ∃ x, cs[j]? = some x := ⟨cs[j], List.getElem?_eq_getElem hj⟩
      have x0 : 0 ≤ x := h.pos x (List.mem_of_getElem? hx)
      have hxm : (cs.map V.int)[j]? = some (V.int x) := by rw [List.getElem?_map, hx]; rfl
      have cne := h.ne
      -- cell = hand[0][hand[1]]
      refine ⟨_, rfl, a, _, _, _, rfl, rfl, SqL.of hat, atI_nat (j := 0) rfl, _, rfl, a, _, _, _, rfl, rfl, SqL.of hat, atI_nat (j := 1) rfl, c, _, _, _, rfl, rfl, SqL.of h.cells, atI_nat hxm, ?_⟩
      -- hand[1] = hand[1] + 1
      refine ⟨_, rfl, a, _, _, _, rfl, rfl, SqL.of hat, atI_nat (j := 1) rfl, _, _, rfl, rfl, _, rfl, a, _, _, 1, rfl, rfl, hat, rfl, ?_⟩
      -- hand[3] = int(hand[3] * 69621 + cell + 83) % 2147483629
      refine ⟨_, rfl, a, _, _, _, rfl, rfl, SqL.of upd_same, atI_nat (j := 3) rfl, _, _, rfl, rfl, .inr ⟨by decide, by decide⟩, _, rfl, _, _, rfl, rfl, _, _, rfl, rfl, .inl ⟨_, rfl, _, _, rfl, rfl, (by show (0 : Int) < 2147483629; decide), _, rfl, a, _, _, 3, rfl, rfl, upd_same, rfl, ?_⟩⟩
      -- if cell >= 10 ** 18
      refine ⟨_, rfl, _, _, rfl, rfl, ⟨by decide, by decide, by decide⟩, _, _, rfl, rfl, _, rfl, tst (fun e3 => ?_) fun _ => ?_⟩
      · refine ⟨_, rfl, _, rfl, a, _, _, 2, rfl, rfl, upd_same, rfl, some (V.int x), rfl, ⟨cs, ((j : Int) + 1), x, _, n, upd_same, ?_, h.len, h.pos, by omega, x0, Int.emod_nonneg _ (by decide), h.n0⟩, ((Keep.refl.upd).upd).upd⟩
        rw [upd_ne cne, upd_ne cne, upd_ne cne]
        exact h.cells
      · refine ⟨some (V.int x), rfl, ⟨cs, ((j : Int) + 1), b, _, n, upd_same, ?_, h.len, h.pos, by omega, h.b0, Int.emod_nonneg _ (by decide), h.n0⟩, (Keep.refl.upd).upd⟩
        rw [upd_ne cne, upd_ne cne]
        exact h.cells
    · obtain ⟨x, rfl, ⟨cs, i, b, sd, n, h⟩, kp⟩ := hM
      have hat := h.at_
      have cne := h.ne
      refine ⟨_, rfl, a, _, _, _, rfl, rfl, SqL.of hat, atI_nat (j := 2) rfl, _, _, rfl, rfl, _, rfl, tst (fun e1 => ?_) fun _ => ?_⟩
      · -- digit = int(hand[2]) % many; hand[2] = hand[2] // many; return digit
        refine ⟨_, rfl, a, _, _, _, rfl, rfl, SqL.of hat, atI_nat (j := 2) rfl, .inl ⟨_, rfl, _, rfl, _, _, rfl, rfl, hm, ?_⟩⟩
        refine ⟨_, rfl, a, _, _, _, rfl, rfl, SqL.of hat, atI_nat (j := 2) rfl, _, rfl, _, _, rfl, rfl, ⟨hm, hm2⟩, _, rfl, a, _, _, 2, rfl, rfl, hat, rfl, ?_⟩
        refine ⟨_, rfl, ?_⟩
        refine q _ _ (Int.emod_nonneg _ (by omega)) (Int.emod_lt_of_pos _ hm) ⟨cs, i, b / m, sd, n, upd_same, by rw [upd_ne cne]; exact h.cells, h.len, h.pos, h.i0, Int.ediv_nonneg h.b0 (by omega), h.s0, h.n0⟩ kp.upd
      · -- hand[4] = hand[4] + 1
        refine ⟨_, rfl, a, _, _, _, rfl, rfl, SqL.of hat, atI_nat (j := 4) rfl, _, _, rfl, rfl, _, rfl, a, _, _, 4, rfl, rfl, hat, rfl, ?_⟩
        -- number = int(int(hand[3] + 7919 * hand[4]) * 48271) % 2147483647
        refine ⟨_, rfl, a, _, _, _, rfl, rfl, SqL.of upd_same, atI_nat (j := 3) rfl, _, rfl, a, _, _, _, rfl, rfl, SqL.of upd_same, atI_nat (j := 4) rfl, _, _, rfl, rfl, .inl ⟨by decide, by decide⟩, _, _, rfl, rfl, .inl ⟨_, rfl, _, _, rfl, rfl, .inr ⟨by decide, by decide⟩, .inl ⟨_, rfl, _, _, rfl, rfl, (by show (0 : Int) < 2147483647; decide), ?_⟩⟩⟩
        -- number = int(number * (number // 1009 + 69621)) % 2147483647
        refine ⟨_, rfl, _, rfl, _, _, rfl, rfl, ⟨by decide, by decide⟩, _, _, rfl, rfl, _, _, rfl, rfl, .inl (mod64 _ (by decide) (by decide)), .inl ⟨_, rfl, _, _, rfl, rfl, (by show (0 : Int) < 2147483647; decide), ?_⟩⟩
        -- number = int(number * (number // 2003 + 40692)) % 2147483399
        refine ⟨_, rfl, _, rfl, _, _, rfl, rfl, ⟨by decide, by decide⟩, _, _, rfl, rfl, _, _, rfl, rfl, .inl (mod64 _ (by decide) (by decide)), .inl ⟨_, rfl, _, _, rfl, rfl, (by show (0 : Int) < 2147483399; decide), ?_⟩⟩
        -- return int(number // 16) % many
        refine ⟨_, rfl, _, _, rfl, rfl, ⟨by decide, by decide⟩, .inl ⟨_, rfl, _, rfl, _, _, rfl, rfl, hm, ?_⟩⟩
        refine q _ _ (Int.emod_nonneg _ (by omega)) (Int.emod_lt_of_pos _ hm) ⟨cs, i, b, sd, n + 1, upd_same, by rw [upd_ne cne]; exact h.cells, h.len, h.pos, h.i0, h.b0, h.s0, by have := h.n0; omega⟩ kp.upd

/-- a def of the text that keeps its promise, wherever it stands -/
def Df (P : Program) (w : World) (K : PySem.W.Frag) (mg : Str → Option Value) (base : Heap) (x : Str) (k : Nat) (ps : List Str) (sp : Sp) : Prop :=
  ∃ (f : Addr) (fd : FuncData), mg x = some (.ref f) ∧ PySem.W.keepIn K (.ref f) = true ∧ Binds K fd ps [] ∧ FnOk P w K mg base CX0 k f fd ps sp
theorem pe_df {X : Cx} {x : Str} {k j : Nat} {ps : List Str} {sp : Sp} {e : Expr} {es : List Expr} {ta : TA} {p pos : Pos} (D : Df X.prog X.w X.K X.mg X.base x k ps sp) (hr : Room j X.A) (hj : k ≤ j) (ha : PA X (e :: es) ta) (hg : Gl X x := by rfl)
    (hdb : (x == ("__debug__" : Str)) = false := by decide) (he : starEach (e :: es) X.env = (false, eval e X.env) :: starEach es X.env := by rfl) (hpl : (backTo pos (starEach es X.env)).any (·.1) = false := by rfl) :
    PE X (.Call (.Name x p) (e :: es) [] pos) (tCall sp [] E0 ta) := by
  obtain ⟨f, fd, hm, hk, hb, F⟩ := D
  exact pe_call F (hr.mono hj) hg hm hk hb .nil pass0 ha hdb he hpl
def spSome (K : PySem.W.Frag) : Sp := fun vs H Q _ => ∃ (a c l : Addr) (xs : List V), vs = [.ref a, .ref l] ∧ HandC H a c ∧ l ≠ a ∧ SqL K H l xs ∧ 0 < xs.length ∧ xs.length ≤ 1000 ∧ ∀ (x : V) (H' : Hp), x ∈ xs → HandC H' a c → Keep a H H' → Q x H'
theorem scSome : FnScope ["hand", "things"] ["hand", "things"] (defScope sSome) := ⟨rfl, rfl, rfl, by decide +kernel, rfl, by decide +kernel, by decide +kernel⟩
theorem SqL.keep {a l : Addr} {H H' : Hp} {xs : List V} (k : Keep a H H') (n : l ≠ a) (h : SqL K H l xs) : SqL K H' l xs := by
  rcases h with (h | ⟨o, h⟩) | h
  · exact .inl (.inl (k _ _ n h))
  · exact .inl (.inr ⟨o, k _ _ n h⟩)
  · exact .inr h
theorem ok_some {f : Addr} {fd : FuncData} (F : FnP K "_law_some" sSome f fd) (D : Df P w K mg base "_law_draw" 1 ["hand", "many"] spDraw) (m3 : mg "len" = none) : FnOk P w K mg base CX0 2 f fd ["hand", "things"] (spSome K) := by
  refine F.ok scSome (fun vs H Q E h => ?_) (fun cdv A outer s H vs Q E hr h => ?_)
  · obtain ⟨a, c, l, xs, rfl, _⟩ := h
    rfl
  · obtain ⟨a, c, l, xs, rfl, hh, hla, hS, h0, h1, q⟩ := h
    refine ⟨_, PSs.nox (pss_one (ps_ret (pe_ix ix_list (pv 1) (pe_df D hr (by decide) (pa_cons (pv 0) (pa_cons (pe_callB call_len_seq (by rfl) m3 PySem.boot_len (pa_cons (pv 1) pa_nil)) pa_nil))) (fun _ _ => rfl)))), ?_⟩
    refine ⟨_, rfl, _, rfl, _, rfl, l, _, rfl, .inl hS, a, c, _, rfl, hh, by omega, by omega, fun d H' d0 d1 hh' kp => ?_⟩
    obtain ⟨j, rfl⟩ : ∃ j : Nat, d = (j : Int) := ⟨d.toNat, by omega⟩
    have hj : j < xs.length := by omega
    exact ⟨l, _, _, xs[j], rfl, rfl, SqL.keep kp hla hS, atI_nat (List.getElem?_eq_getElem hj), q _ _ (List.getElem_mem hj) hh' kp⟩


end
end Sm
/-! Data in the heap but for the object at a (the hand of the draws); what keeps it. -/
namespace Vd
open PySem PySem.Spec PyProof.Rows L2 Tn
def kD : Key → PyData
  | .inl i => .int i
  | .inr x => .str x
mutual
inductive Dd (K : PySem.W.Frag) (H : Hp) : V → PyData → Prop
  | non : Dd K H .non .none
  | bl (b : Bool) : Dd K H (.bl b) (.bool b)
  | int (i : Int) : Dd K H (.int i) (.int i)
  | str (x : Str) : Dd K H (.str x) (.str x)
  | lst {a : Addr} {xs : List V} {ds : List PyData} : SqL K H a xs → a ≠ sysModules → DdAll K H xs ds → Dd K H (.ref a) (.list ds)
  | tup {a : Addr} {xs : List V} {ds : List PyData} : TupN H a xs → DdAll K H xs ds → Dd K H (.ref a) (.tuple ds)
  | dct {a : Addr} {kvs : List (Key × V)} {ds : List (PyData × PyData)} : H a = some (.dK kvs) → DdKv K H kvs ds → Dd K H (.ref a) (.dict ds)
inductive DdAll (K : PySem.W.Frag) (H : Hp) : List V → List PyData → Prop
  | nil : DdAll K H [] []
  | cons {v : V} {vs : List V} {d : PyData} {ds : List PyData} : Dd K H v d → DdAll K H vs ds → DdAll K H (v :: vs) (d :: ds)
inductive DdKv (K : PySem.W.Frag) (H : Hp) : List (Key × V) → List (PyData × PyData) → Prop
  | nil : DdKv K H [] []
  | cons {k : Key} {v : V} {r : List (Key × V)} {d : PyData} {ds : List (PyData × PyData)} : Dd K H v d → DdKv K H r ds → DdKv K H ((k, v) :: r) ((kD k, d) :: ds)
end
mutual
theorem Dd.same {K : PySem.W.Frag} {H H' : Hp} (e : Same H H') : ∀ {v : V} {d : PyData}, Dd K H v d → Dd K H' v d
  | _, _, .non => .non
  | _, _, .bl b => .bl b
  | _, _, .int i => .int i
  | _, _, .str x => .str x
  | _, _, .lst h n r => .lst (Same.seq e h) n (DdAll.same e r)
  | _, _, .tup h r => .tup (TupN.same h e) (DdAll.same e r)
  | _, _, .dct h r => .dct (e _ _ h) (DdKv.same e r)
theorem DdAll.same {K : PySem.W.Frag} {H H' : Hp} (e : Same H H') : ∀ {vs : List V} {ds : List PyData}, DdAll K H vs ds → DdAll K H' vs ds
  | _, _, .nil => .nil
  | _, _, .cons h r => .cons (Dd.same e h) (DdAll.same e r)
theorem DdKv.same {K : PySem.W.Frag} {H H' : Hp} (e : Same H H') : ∀ {vs : List (Key × V)} {ds : List (PyData × PyData)}, DdKv K H vs ds → DdKv K H' vs ds
  | _, _, .nil => .nil
  | _, _, .cons h r => .cons (Dd.same e h) (DdKv.same e r)
end
def vis (a : Addr) (H : Hp) : Hp := fun b => if b = a then none else match H b with
  | some (.tbl _) => none
  | o => o
theorem vis_sub {a b : Addr} {H : Hp} {o : HO} (h : vis a H b = some o) : H b = some o ∧ b ≠ a ∧ ∀ ps, o ≠ .tbl ps := by
  unfold vis at h
  by_cases e : b = a
  · rw [if_pos e] at h
    cases h
  · rw [if_neg e] at h
    cases q : H b with
    | none =>
      rw [q] at h
      cases h
    | some u =>
      rw [q] at h
      cases u <;> first | (cases h; exact ⟨rfl, e, fun ps z => nomatch z⟩) | cases h
theorem vis_at {a b : Addr} {H : Hp} {o : HO} (h : H b = some o) (n : b ≠ a) (t : ∀ ps, o ≠ .tbl ps) : vis a H b = some o := by
  unfold vis
  rw [if_neg n, h]
  cases o <;> first | rfl | exact absurd rfl (t _)
theorem vis_same {a : Addr} {H : Hp} : Same (vis a H) H := fun _ _ h => (vis_sub h).1
/-- all that the data at H can lean on stands at H' too -/
def Kp (a : Addr) (H H' : Hp) : Prop := Same (vis a H) (vis a H')
theorem Kp.refl {a : Addr} {H : Hp} : Kp a H H := fun _ _ h => h
theorem Kp.trans {a : Addr} {H H1 H2 : Hp} (x : Kp a H H1) (y : Kp a H1 H2) : Kp a H H2 := fun b o h => y b o (x b o h)
theorem Kp.ext {a : Addr} {H H' : Hp} (k : ∀ b o, b ≠ a → (∀ ps, o ≠ .tbl ps) → H b = some o → H' b = some o) : Kp a H H' := fun b o h => by
  obtain ⟨h1, h2, h3⟩ := vis_sub h
  exact vis_at (k b o h2 h3 h1) h2 h3
theorem kp_same {a : Addr} {H H' : Hp} (s : Same H H') : Kp a H H' := Kp.ext fun b o _ _ h => s b o h
theorem kp_keep {a : Addr} {H H' : Hp} (s : Sm.Keep a H H') : Kp a H H' := Kp.ext fun b o n _ h => s b o n h
theorem kp_extN {a : Addr} {H H' : Hp} (s : LamX.ExtN H H') : Kp a H H' := Kp.ext fun b o _ t h => s b o h t
theorem same_up {H : Hp} {a : Addr} {o : HO} (n : H a = none) : Same H (upd H a o) := fun b u e => by
  rw [upd_ne (ne_of_none e n)]
  exact e
theorem kp_up {a p : Addr} {H : Hp} {o : HO} (n : H p = none) : Kp a H (upd H p o) := kp_same (same_up n)
/-- the place p is written again (it was new when H0 stood) -/
theorem kp_in {a p : Addr} {H H1 : Hp} {o : HO} (k : Kp a H H1) (n : H p = none) : Kp a H (upd H1 p o) := fun b u h => by
  obtain ⟨h1, h2, h3⟩ := vis_sub (k b u h)
  have e := (vis_sub h).1
  exact vis_at (by rw [upd_ne (ne_of_none e n)]; exact h1) h2 h3
variable {K : PySem.W.Frag} {a : Addr} {H H' : Hp}
abbrev Dv (a : Addr) (K : PySem.W.Frag) (H : Hp) (v : V) (d : PyData) : Prop := Dd K (vis a H) v d
abbrev DvAll (a : Addr) (K : PySem.W.Frag) (H : Hp) (vs : List V) (ds : List PyData) : Prop := DdAll K (vis a H) vs ds
theorem Dv.kp {v : V} {d : PyData} (h : Dv a K H v d) (k : Kp a H H') : Dv a K H' v d := Dd.same k h
theorem DvAll.kp {v : List V} {d : List PyData} (h : DvAll a K H v d) (k : Kp a H H') : DvAll a K H' v d := DdAll.same k h
theorem Dv.dd {v : V} {d : PyData} (h : Dv a K H v d) : Dd K H v d := Dd.same vis_same h
theorem tupN_vis {p : Addr} {xs : List V} (h : TupN (vis a H) p xs) : TupN H p xs := TupN.same h vis_same
theorem sqL_vis {p : Addr} {xs : List V} (h : SqL K (vis a H) p xs) : SqL K H p xs := Same.seq vis_same h
theorem Dv.tup {p : Addr} {xs : List V} {ds : List PyData} (h : TupN H p xs) (n : p ≠ a) (x : DvAll a K H xs ds) : Dv a K H (.ref p) (.tuple ds) := by
  obtain ⟨o, h1, h2⟩ := h
  exact Dd.tup ⟨o, vis_at h1 n (fun _ z => nomatch z), h2⟩ x
theorem Dv.lst {p : Addr} {xs : List V} {ds : List PyData} (h : H p = some (.lst xs)) (n : p ≠ a) (m : p ≠ sysModules) (x : DvAll a K H xs ds) : Dv a K H (.ref p) (.list ds) := Dd.lst (SqL.of (vis_at h n fun _ z => nomatch z)) m x
theorem Dv.ofTup {v : V} {ds : List PyData} (h : Dv a K H v (.tuple ds)) : ∃ p xs, v = .ref p ∧ TupN (vis a H) p xs ∧ DvAll a K H xs ds := by
  cases h with
  | tup h1 h2 => exact ⟨_, _, rfl, h1, h2⟩
theorem dall_len : ∀ {vs : List V} {ds : List PyData}, DdAll K H vs ds → vs.length = ds.length
  | _, _, .nil => rfl
  | _, _, .cons _ t => by rw [List.length_cons, List.length_cons, dall_len t]
theorem dall_at : ∀ {vs : List V} {ds : List PyData} {i : Nat} {d : PyData}, DdAll K H vs ds → ds[i]? = some d → ∃ v, vs[i]? = some v ∧ Dd K H v d
  | _, _, _, _, .nil, h => by simp at h
  | _, _, 0, _, .cons r _, h => by
    simp at h
    subst h
    exact ⟨_, rfl, r⟩
  | _, _, j + 1, _, .cons _ t, h => by
    obtain ⟨b, h1, h2⟩ := dall_at (i := j) t (by simpa using h)
    exact ⟨b, by simpa using h1, h2⟩
theorem dall_at' : ∀ {vs : List V} {ds : List PyData} {i : Nat} {v : V}, DdAll K H vs ds → vs[i]? = some v → ∃ d, ds[i]? = some d ∧ Dd K H v d
  | _, _, _, _, .nil, h => by simp at h
  | _, _, 0, _, .cons r _, h => by
    simp at h
    subst h
    exact ⟨_, rfl, r⟩
  | _, _, j + 1, _, .cons _ t, h => by
    obtain ⟨b, h1, h2⟩ := dall_at' (i := j) t (by simpa using h)
    exact ⟨b, by simpa using h1, h2⟩
theorem dall_app : ∀ {vs us : List V} {ds es : List PyData}, DdAll K H vs ds → DdAll K H us es → DdAll K H (vs ++ us) (ds ++ es)
  | _, _, _, _, .nil, h => h
  | _, _, _, _, .cons r t, h => .cons r (dall_app t h)
theorem dall_take : ∀ {vs : List V} {ds : List PyData} (n : Nat), DdAll K H vs ds → DdAll K H (vs.take n) (ds.take n)
  | _, _, 0, _ => by
    rw [List.take_zero, List.take_zero]
    exact .nil
  | _, _, n + 1, .nil => .nil
  | _, _, n + 1, .cons r t => .cons r (dall_take n t)
theorem dall_drop : ∀ {vs : List V} {ds : List PyData} (n : Nat), DdAll K H vs ds → DdAll K H (vs.drop n) (ds.drop n)
  | _, _, 0, h => h
  | _, _, n + 1, .nil => .nil
  | _, _, n + 1, .cons r t => dall_drop n t
theorem dall_mem : ∀ {vs : List V} {ds : List PyData} {v : V}, DdAll K H vs ds → v ∈ vs → ∃ d, d ∈ ds ∧ Dd K H v d
  | _, _, _, .nil, h => by cases h
  | _, _, _, .cons r t, h => by
    rcases List.mem_cons.mp h with h | h
    · subst h
      exact ⟨_, List.mem_cons_self, r⟩
    · obtain ⟨d, h1, h2⟩ := dall_mem t h
      exact ⟨d, List.mem_cons_of_mem _ h1, h2⟩
/-! ### isinstance of data -/
def tyD : PyData → String
  | .none => "NoneType"
  | .bool _ => "bool"
  | .int _ => "int"
  | .str _ => "str"
  | .list _ => "list"
  | .tuple _ => "tuple"
  | .dict _ => "dict"
theorem tyx {v : V} {d : PyData} (h : Dd K H v d) : TyX K H v (.type (tyD d)) := by
  cases h with
  | non => exact .base .non
  | bl b => exact .base (.bl b)
  | int i => exact .base (.int i)
  | str x => exact .base (.str x)
  | lst h _ _ =>
    rcases h with (h | ⟨o, h⟩) | ⟨o, _, _, h, c, _⟩
    · exact .base (.lst h)
    · exact .base (.frz h)
    · exact .kList h c
  | tup h _ =>
    obtain ⟨o, h1, _⟩ := h
    exact .fTuple h1
  | dct h _ => exact .base (.dK h)
theorem isi {v : V} {d : PyData} {n : String} {b : Bool} {Q : VK} (h : Dd K H v d) (e : kitB (tyD d) n = some b) (q : Q (.bl b) H) : rIsi K [v, .ty n] H Q := ⟨v, .ty n, _, _, b, rfl, .ty n, tyx h, kit_ty e, q⟩
def isI : PyData → Bool
  | .int _ => true
  | .bool _ => true
  | _ => false
def isB : PyData → Bool
  | .bool _ => true
  | _ => false
def isT : PyData → Bool
  | .tuple _ => true
  | _ => false
def isL : PyData → Bool
  | .list _ => true
  | _ => false
def isD : PyData → Bool
  | .dict _ => true
  | _ => false
def isS : PyData → Bool
  | .str _ => true
  | _ => false
theorem kI (d : PyData) : kitB (tyD d) "int" = some (isI d) := by cases d <;> (dsimp only [tyD, isI]; decide +kernel)
theorem kB (d : PyData) : kitB (tyD d) "bool" = some (isB d) := by cases d <;> (dsimp only [tyD, isB]; decide +kernel)
theorem kT (d : PyData) : kitB (tyD d) "tuple" = some (isT d) := by cases d <;> (dsimp only [tyD, isT]; decide +kernel)
theorem kL (d : PyData) : kitB (tyD d) "list" = some (isL d) := by cases d <;> (dsimp only [tyD, isL]; decide +kernel)
theorem kDi (d : PyData) : kitB (tyD d) "dict" = some (isD d) := by cases d <;> (dsimp only [tyD, isD]; decide +kernel)
theorem kS (d : PyData) : kitB (tyD d) "str" = some (isS d) := by cases d <;> (dsimp only [tyD, isS]; decide +kernel)
end Vd
/-! == and `in` of any data (dicts too) with texts. -/
namespace PySem.SeqAt
open AutoSeq1 (wpAny_loadPart')
open MeetsSeq
theorem dict_eq_declines_str (l : Addr) (es : Array DictEntry) (n : Nat) (dd : Option Addr) (sl : Array (Option Value)) (b : Str) (u : Tok) :
    Meets (Builtin.«dict.__eq__» ⟨[.ref l, .str b u], []⟩) (fun _ R s => s.heap.get? l = some { cls := .type "dict", dict := dd, data := .dict es n, slots := sl } ∧ R (.ok (.ret .notImplemented)) s) :=
  .of_wp fun prog w A R s h => by
    obtain ⟨hl, h⟩ := h
    have f1 := F.sub_str_dict
    refine wpAny_bind ?_
    unfold Builtin.Dict.dictSlotArgs
    refine wpAny_bind (wpAny_notOrdered_dict ⟨_, hl, rfl⟩ ?_)
    obtain ⟨hp, g, d, tk, os⟩ := s
    wp_walk using wpAny_loadPart' hl, wpAny_load hl
    exact ⟨_, rfl, h⟩
theorem str_eq_declines_dict (b : Str) (u : Tok) (l : Addr) (c : Value) (es : Array DictEntry) (n : Nat) (dd : Option Addr) (sl : Array (Option Value)) :
    Meets (Builtin.«str.__eq__» ⟨[.str b u, .ref l], []⟩) (fun _ R s => s.heap.get? l = some { cls := c, dict := dd, data := .dict es n, slots := sl } ∧ R (.ok (.ret .notImplemented)) s) :=
  .of_wp fun prog w A R s h => by obtain ⟨hp, g, d, tk, os⟩ := s; obtain ⟨hl, h⟩ := h; wp_walk using wpAny_loadPart' hl, wpAny_load hl; exact ⟨_, rfl, h⟩
section
variable {A : Around} {s : Shared}
theorem RcAt.dict_str {l : Addr} {o : Obj} {es : Array DictEntry} {n : Nat} (b : Str) (u : Tok) (ho : s.heap.get? l = some o) (hc : o.cls = .type "dict") (hd : o.data = .dict es n) (hu : A.units < cLine) : RcAt A s (.ref l) (.str b u) false := fun prog w E Q h => by
  obtain ⟨cls, dd, data, sl⟩ := o
  simp only at hc hd
  subst hc hd
  exact rc_eq_decline_or (k := false) ⟨_, ho, rfl⟩ (typeIs_str s b u) (by decide) F.sub_str_dict F.slot_dict_eq F.slot_str_eq_refl
    (fun _ hq => call_meets F.slot_dict_eq ⟨_, ho, rfl⟩ F.entry_dict_eq (F.args_dict_eq_2 _ _) (dict_eq_declines_str l es n dd sl b u) ⟨ho, hq⟩)
    (fun _ hq => call_meets F.slot_str_eq_refl (typeIs_str s b u) F.entry_str_eq (F.args_str_eq_2 _ _) (str_eq_declines_dict b u l (.type "dict") es n dd sl) ⟨ho, hq⟩)
    (fun _ hq => wpAny_of_eq (rfl : isSame (.ref l) (.str b u) = pure false) hq) (.inr hu) h
theorem RcAt.str_dict {l : Addr} {o : Obj} {es : Array DictEntry} {n : Nat} (b : Str) (u : Tok) (ho : s.heap.get? l = some o) (hc : o.cls = .type "dict") (hd : o.data = .dict es n) (hu : A.units < cLine) : RcAt A s (.str b u) (.ref l) false := fun prog w E Q h => by
  obtain ⟨cls, dd, data, sl⟩ := o
  simp only at hc hd
  subst hc hd
  exact rc_eq_decline_or (k := false) (typeIs_str s b u) ⟨_, ho, rfl⟩ (by decide) F.sub_dict_str F.slot_str_eq F.slot_dict_eq_refl
    (fun _ hq => call_meets F.slot_str_eq (typeIs_str s b u) F.entry_str_eq (F.args_str_eq_2 _ _) (str_eq_declines_dict b u l (.type "dict") es n dd sl) ⟨ho, hq⟩)
    (fun _ hq => call_meets F.slot_dict_eq_refl ⟨_, ho, rfl⟩ F.entry_dict_eq (F.args_dict_eq_2 _ _) (dict_eq_declines_str l es n dd sl b u) ⟨ho, hq⟩)
    (fun _ hq => wpAny_of_eq (rfl : isSame (.str b u) (.ref l) = pure false) hq) (.inr hu) h
theorem EqAt.str_dict {l : Addr} {o : Obj} {es : Array DictEntry} {n : Nat} (b : Str) (u : Tok) (ho : s.heap.get? l = some o) (hc : o.cls = .type "dict") (hd : o.data = .dict es n) (hu : A.units < cLine) : EqAt A s (.str b u) (.ref l) false := fun prog w E Q h => by
  unfold eqBool
  refine wpAny_holding ?_
  refine wpAny_ite_split (fun hab => absurd (eq_of_beq hab) nofun) (fun _ => ?_)
  exact wpAny_bind (RcAt.str_dict b u ho hc hd hu prog w E _ (wpAny_truthy_bool h))
end
end PySem.SeqAt
namespace Vd
open PySem PySem.Spec PyProof.Rows L2 Tn
def eqS (d : PyData) (x : Str) : Bool := match d with
  | .str y => y == x
  | _ => false
section
variable {X : Cx}
theorem rc_ds {pins : List (Addr × Obj)} {σ : L2.St} {H : Hp} {s : Shared} {A : Around} (hu : A.units < cLine) (I : Inv X pins σ H s) {v : V} {d : PyData} {a : Value} (hd : Dd X.K H v d) (ra : RelV v a) (x : Str) (t : Tok) : SeqAt.RcAt A s a (.str x t) (eqS d x) := by
  cases hd with
  | non => cases ra; exact SeqAt.RcAt.none_str x t
  | bl b => cases ra; exact SeqAt.RcAt.bool_str b x t
  | int i => obtain ⟨t', rfl⟩ := ra; exact SeqAt.RcAt.int_str i t' x t
  | str y => obtain ⟨t', rfl⟩ := ra; exact SeqAt.RcAt.str_str y t' x t
  | lst h _ _ =>
    cases ra
    obtain ⟨its, rv, pl, _⟩ := I.list h
    exact SeqAt.RcAt.list_str x t pl.isList hu
  | tup h _ =>
    cases ra
    obtain ⟨its, rv, pl, _⟩ := I.tuple (TupN.sq h)
    exact SeqAt.RcAt.tuple_str x t pl hu
  | dct h _ =>
    cases ra
    obtain ⟨_, _, vs, kv, o, es, ep, e1, e2, e3, _⟩ := I.hok _ _ h
    exact SeqAt.RcAt.dict_str x t e1 e2.1 e3 hu
theorem rc_sd {pins : List (Addr × Obj)} {σ : L2.St} {H : Hp} {s : Shared} {A : Around} (hu : A.units < cLine) (I : Inv X pins σ H s) {v : V} {d : PyData} {a : Value} (hd : Dd X.K H v d) (ra : RelV v a) (x : Str) (t : Tok) : SeqAt.RcAt A s (.str x t) a (eqS d x) := by
  cases hd with
  | non => cases ra; exact SeqAt.RcAt.str_none x t
  | bl b => cases ra; exact SeqAt.RcAt.str_bool x t b
  | int i => obtain ⟨t', rfl⟩ := ra; exact SeqAt.RcAt.str_int x t i t'
  | str y =>
    obtain ⟨t', rfl⟩ := ra
    show SeqAt.RcAt A s _ _ (y == x)
    rw [BEq.comm]
    exact SeqAt.RcAt.str_str x t y t'
  | lst h _ _ =>
    cases ra
    obtain ⟨its, rv, pl, _⟩ := I.list h
    exact SeqAt.RcAt.str_list x t pl.isList hu
  | tup h _ =>
    cases ra
    obtain ⟨its, rv, pl, _⟩ := I.tuple (TupN.sq h)
    exact SeqAt.RcAt.str_tuple x t pl hu
  | dct h _ =>
    cases ra
    obtain ⟨_, _, vs, kv, o, es, ep, e1, e2, e3, _⟩ := I.hok _ _ h
    exact SeqAt.RcAt.str_dict x t e1 e2.1 e3 hu
theorem eq_sd {pins : List (Addr × Obj)} {σ : L2.St} {H : Hp} {s : Shared} {A : Around} (hu : A.units < cLine) (I : Inv X pins σ H s) {v : V} {d : PyData} {a : Value} (hd : Dd X.K H v d) (ra : RelV v a) (x : Str) (t : Tok) : SeqAt.EqAt A s (.str x t) a (eqS d x) := by
  cases hd with
  | non => cases ra; exact SeqAt.EqAt.str_none x t
  | bl b => cases ra; exact SeqAt.EqAt.str_bool x t b
  | int i => obtain ⟨t', rfl⟩ := ra; exact SeqAt.EqAt.str_int x t i t'
  | str y =>
    obtain ⟨t', rfl⟩ := ra
    show SeqAt.EqAt A s _ _ (y == x)
    rw [BEq.comm]
    exact SeqAt.EqAt.str_str x t y t'
  | lst h _ _ =>
    cases ra
    obtain ⟨its, rv, pl, _⟩ := I.list h
    exact SeqAt.EqAt.str_list x t pl.isList hu
  | tup h _ =>
    cases ra
    obtain ⟨its, rv, pl, _⟩ := I.tuple (TupN.sq h)
    exact SeqAt.EqAt.str_tuple x t pl hu
  | dct h _ =>
    cases ra
    obtain ⟨_, _, vs, kv, o, es, ep, e1, e2, e3, _⟩ := I.hok _ _ h
    exact SeqAt.EqAt.str_dict x t e1 e2.1 e3 hu
/-- data == a text -/
def rEqS (K : PySem.W.Frag) : R2 := fun x y H Q => ∃ (d : PyData) (z : Str), Dd K H x d ∧ y = .str z ∧ Q (.bl (eqS d z)) H
/-- a text == data -/
def rSEq (K : PySem.W.Frag) : R2 := fun x y H Q => ∃ (d : PyData) (z : Str), Dd K H y d ∧ x = .str z ∧ Q (.bl (eqS d z)) H
theorem op_eqS (hu : X.A.units + 1 < cLine) : OpR X (compareOp .Eq) (rEqS X.K) := by
  intro pins s σ H x y v u Q I rx ry h
  obtain ⟨d, z, hd, rfl, q⟩ := h
  obtain ⟨t, rfl⟩ := ry
  exact rc_ds (by omega) I hd rx z t _ _ _ _ ⟨.bl _, H, I, rfl, q⟩
theorem op_sEq (hu : X.A.units + 1 < cLine) : OpR X (compareOp .Eq) (rSEq X.K) := by
  intro pins s σ H x y v u Q I rx ry h
  obtain ⟨d, z, hd, rfl, q⟩ := h
  obtain ⟨t, rfl⟩ := rx
  exact rc_sd (by omega) I hd ry z t _ _ _ _ ⟨.bl _, H, I, rfl, q⟩
/-- data in a list or tuple of texts -/
def inS (d : PyData) (zs : List Str) : Bool := zs.any fun z => eqS d z
def rInS (K : PySem.W.Frag) (neg : Bool) : R2 := fun x y H Q => ∃ (d : PyData) (p : Addr) (zs : List Str), Dd K H x d ∧ y = .ref p ∧ (SqL K H p (zs.map V.str) ∨ SqT K H p (zs.map V.str)) ∧ Q (.bl (if neg then !inS d zs else inS d zs)) H
def eqSu (d : PyData) (u : Value) : Bool := match u with
  | .str z _ => eqS d z
  | _ => false
theorem any_S {d : PyData} : ∀ {zs : List Str} {us : List Value}, Vals (zs.map V.str) us → us.any (eqSu d) = inS d zs
  | [], _, h => by cases h; rfl
  | z :: zs, _, h => by
    cases h with
    | cons r t =>
      obtain ⟨k, rfl⟩ := r
      show (eqS d z || _) = (eqS d z || _)
      rw [any_S t]
      rfl
theorem mem_S {pins : List (Addr × Obj)} {σ : L2.St} {H : Hp} {s : Shared} {A : Around} (hu : A.units < cLine) (I : Inv X pins σ H s) {v : V} {d : PyData} {a : Value} (hd : Dd X.K H v d) (ra : RelV v a) :
    ∀ {zs : List Str} {us : List Value}, Vals (zs.map V.str) us → ∀ u ∈ us, SeqAt.EqAt A s u a (eqSu d u)
  | [], _, h => by cases h; exact fun u hu => by cases hu
  | z :: zs, _, h => by
    cases h with
    | cons r t =>
      obtain ⟨k, rfl⟩ := r
      intro u hm
      rcases List.mem_cons.mp hm with rfl | hm
      · exact eq_sd hu I hd ra z k
      · exact mem_S hu I hd ra t u hm
theorem op_inS' (hu : X.A.units + 2 < cLine) : OpR X (compareOp .In) (rInS X.K false) := by
  intro pins s σ H x y v u Q I rx ry h
  obtain ⟨d, p, zs, hd, rfl, hs, q⟩ := h
  cases ry
  have h1 : X.A.in1.units < cLine := by show X.A.units + 1 < cLine; omega
  rcases hs with hs | hs
  · obtain ⟨its, r, pl, _⟩ := I.list hs
    refine SeqAt.in_listAt (eqSu d) pl.isList (fun w hw => mem_S h1 I hd rx r w (by simpa using hw)) ⟨.bl _, H, I, rfl, ?_⟩
    rw [show its.toArray.any (eqSu d) = its.any (eqSu d) by simp, any_S r]
    exact q
  · obtain ⟨its, r, pl, _⟩ := I.tuple hs
    refine SeqAt.in_tupleAt (eqSu d) pl (fun w hw => mem_S h1 I hd rx r w (by simpa using hw)) ⟨.bl _, H, I, rfl, ?_⟩
    rw [show its.toArray.any (eqSu d) = its.any (eqSu d) by simp, any_S r]
    exact q
theorem op_notInS' (hu : X.A.units + 2 < cLine) : OpR X (compareOp .NotIn) (rInS X.K true) := by
  intro pins s σ H x y v u Q I rx ry h
  obtain ⟨d, p, zs, hd, rfl, hs, q⟩ := h
  cases ry
  have h1 : X.A.in1.units < cLine := by show X.A.units + 1 < cLine; omega
  rcases hs with hs | hs
  · obtain ⟨its, r, pl, _⟩ := I.list hs
    refine SeqAt.notIn_listAt (eqSu d) pl.isList (fun w hw => mem_S h1 I hd rx r w (by simpa using hw)) ⟨.bl _, H, I, rfl, ?_⟩
    rw [show its.toArray.any (eqSu d) = its.any (eqSu d) by simp, any_S r]
    exact q
  · obtain ⟨its, r, pl, _⟩ := I.tuple hs
    refine SeqAt.notIn_tupleAt (eqSu d) pl (fun w hw => mem_S h1 I hd rx r w (by simpa using hw)) ⟨.bl _, H, I, rfl, ?_⟩
    rw [show its.toArray.any (eqSu d) = its.any (eqSu d) by simp, any_S r]
    exact q
end
end Vd
/-! repr of any data; lists that are laid, with their places. -/
namespace Vd
open PySem PySem.Spec PyProof.Rows L2 Tn
section
variable {X : Cx} {pins : List (Addr × Obj)} {σ : L2.St} {H : Hp} {s : Shared}
theorem keyD_reads {h : Heap} {k : Key} {v : Value} (e : keyIs k v = true) : Reads h v (kD k) [] := by
  rcases keyIs_shape e with ⟨i, t, rfl, rfl⟩ | ⟨x, t, rfl, rfl⟩
  · exact Reads.int i t
  · exact Reads.str x t
theorem nomem {as bs : List Addr} (h1 : sysModules ∉ as) (h2 : sysModules ∉ bs) : sysModules ∉ as ++ bs := fun h => (List.mem_append.mp h).elim h1 h2
mutual
theorem dd_reads (I : Inv X pins σ H s) : ∀ (d : PyData) (v : V) (u : Value), Dd X.K H v d → RelV v u → ∃ as, Reads s.heap u d as ∧ sysModules ∉ as
  | .none, _, _, h, r => by
    cases h
    cases r
    exact ⟨_, Reads.none, List.not_mem_nil⟩
  | .bool b, _, _, h, r => by
    cases h
    cases r
    exact ⟨_, Reads.bool b, List.not_mem_nil⟩
  | .int i, _, _, h, r => by
    cases h
    obtain ⟨t, rfl⟩ := r
    exact ⟨_, Reads.int i t, List.not_mem_nil⟩
  | .str x, _, _, h, r => by
    cases h
    obtain ⟨t, rfl⟩ := r
    exact ⟨_, Reads.str x t, List.not_mem_nil⟩
  | .list ds, _, _, h, r => by
    cases h with
    | lst hs hn ha =>
      cases r
      obtain ⟨its, rv, ⟨o, n, e1, e2, _, e3⟩, _⟩ := I.list hs
      obtain ⟨as, z, m⟩ := dd_readsAll I ds _ its ha rv
      exact ⟨_, Reads.list e1 e2 e3 z, fun h => (List.mem_cons.mp h).elim (fun e => hn e.symm) m⟩
  | .tuple ds, _, _, h, r => by
    cases h with
    | tup hs ha =>
      cases r
      obtain ⟨its, rv, ⟨o, e1, e2, n, e3⟩, _⟩ := I.tuple (TupN.sq hs)
      obtain ⟨as, z, m⟩ := dd_readsAll I ds _ its ha rv
      exact ⟨_, Reads.tuple e1 e2 e3 z, m⟩
  | .dict ds, _, _, h, r => by
    cases h with
    | dct hs ha =>
      cases r
      obtain ⟨_, ne, vs, kv, o, es, ep, e1, e2, e3, _, pr, _⟩ := I.hok _ _ hs
      obtain ⟨as, bs, z1, z2, m1, m2⟩ := dd_readsKv I ds _ vs _ ha kv pr
      exact ⟨_, Reads.dict e1 e2.1 e3 z1 z2, nomem (fun h => (List.mem_cons.mp h).elim (fun e => by rw [← e] at ne; simp at ne) m1) m2⟩
theorem dd_readsAll (I : Inv X pins σ H s) : ∀ (ds : List PyData) (vs : List V) (us : List Value), DdAll X.K H vs ds → Vals vs us → ∃ as, ReadsAll s.heap us ds as ∧ sysModules ∉ as
  | [], _, _, h, r => by
    cases h
    cases r
    exact ⟨_, ReadsAll.nil, List.not_mem_nil⟩
  | d :: ds, _, _, h, r => by
    cases h with
    | cons h1 h2 =>
      cases r with
      | cons r1 r2 =>
        obtain ⟨as, q1, m1⟩ := dd_reads I d _ _ h1 r1
        obtain ⟨bs, q2, m2⟩ := dd_readsAll I ds _ _ h2 r2
        exact ⟨_, ReadsAll.cons q1 q2, nomem m1 m2⟩
theorem dd_readsKv (I : Inv X pins σ H s) : ∀ (ds : List (PyData × PyData)) (vs : List (Key × V)) (us : List (Key × Value)) (es : List DictEntry), DdKv X.K H vs ds → KV vs us → Pairs (mixKind X.prog X.w) es us →
    ∃ as bs, ReadsAll s.heap (es.map (·.key)) (ds.map (·.1)) as ∧ ReadsAll s.heap (es.map (·.val)) (ds.map (·.2)) bs ∧ sysModules ∉ as ∧ sysModules ∉ bs
  | [], _, _, _, h, r, p => by
    cases h
    cases r
    cases p
    exact ⟨_, _, ReadsAll.nil, ReadsAll.nil, List.not_mem_nil, List.not_mem_nil⟩
  | (k, d) :: ds, _, _, _, h, r, p => by
    cases h with
    | cons h1 h2 =>
      cases r with
      | cons r1 r2 =>
        cases p with
        | @cons e0 kv0 es0 kvs0 p1 p2 p3 =>
          obtain ⟨q1, q2⟩ := r1
          dsimp only at q1 q2
          obtain ⟨as, z, m⟩ := dd_reads I d _ _ h1 q2
          obtain ⟨as', bs', z1, z2, m1, m2⟩ := dd_readsKv I ds _ _ _ h2 r2 p3
          rw [← q1] at p1
          have z3 : Reads s.heap e0.val d as := by
            rw [p2]
            exact z
          exact ⟨_, _, ReadsAll.cons (keyD_reads p1) z1, ReadsAll.cons z3 z2, nomem List.not_mem_nil m1, nomem m m2⟩
end
end
def rRepr (K : PySem.W.Frag) : List V → Hp → VK → Prop := fun xs H Q => ∃ (x : V) (d : PyData), xs = [x] ∧ Dd K H x d ∧ d.showable = true ∧ d.depth ≤ 100 ∧ d.shown.length ≤ sizeLine ∧ Q (.str d.shown) H
theorem call_repr {X : Cx} (hg : X.A.guards = some []) (hr : X.A.units + 101 < cLine) : CallR X (.builtin "repr") (rRepr X.K) := by
  intro pins s σ H xs us Q I r h
  obtain ⟨x, d, rfl, hd, hs, hp, hz, q⟩ := h
  obtain ⟨u, rfl, ru⟩ := vals1 r
  obtain ⟨as, rd, nm⟩ := dd_reads I d x u hd ru
  have main : ∀ a, u = .ref a → wpAny (model X.prog X.w) X.A (call (.builtin "repr") [u]) (EP X pins σ Q) X.xe s := by
    rintro a rfl
    exact repr_of_reads' (h₀ := s.heap) rd hs (fun _ => nm) hg (by omega) (fun _ _ z => z) (fun h' u tk hk => ⟨.str d.shown, H, I.kept (t' := tk) hk, ⟨u, rfl⟩, q⟩) hz
  cases hd with
  | non =>
    cases ru
    exact PySem.P.repr_of_none ⟨.str "None", H, I.tok _, ⟨_, rfl⟩, q⟩
  | bl b =>
    cases ru
    exact PySem.P.repr_of_bool ⟨.str _, H, I.tok _, ⟨_, rfl⟩, q⟩
  | int i =>
    obtain ⟨t, rfl⟩ := ru
    exact PySem.P.repr_of_int (of_decide_eq_true hs) ⟨.str _, H, I.tok _, ⟨_, rfl⟩, q⟩
  | str z =>
    obtain ⟨t, rfl⟩ := ru
    exact PySem.P.repr_of_str ⟨.str _, H, I.tok _, ⟨_, rfl⟩, q⟩ hz
  | lst e1 e2 e3 => exact main _ ru
  | tup e1 e2 => exact main _ ru
  | dct e1 e2 => exact main _ ru
/-- repr of a flag wants no guard -/
def rReprB : List V → Hp → VK → Prop := fun xs H Q => ∃ b : Bool, xs = [.bl b] ∧ Q (.str (if b then "True" else "False")) H
theorem call_reprB {X : Cx} : CallR X (.builtin "repr") rReprB := by
  intro pins s σ H xs us Q I r h
  obtain ⟨b, rfl, q⟩ := h
  obtain ⟨u, rfl, ru⟩ := vals1 r
  cases ru
  exact PySem.P.repr_of_bool ⟨.str _, H, I.tok _, ⟨_, rfl⟩, q⟩
/-- repr of a text -/
def rReprS : List V → Hp → VK → Prop := fun xs H Q => ∃ z : Str, xs = [.str z] ∧ (PyData.str z).shown.length ≤ sizeLine ∧ Q (.str (PyData.str z).shown) H
theorem call_reprS {X : Cx} : CallR X (.builtin "repr") rReprS := by
  intro pins s σ H xs us Q I r h
  obtain ⟨z, rfl, hz, q⟩ := h
  obtain ⟨u, rfl, ru⟩ := vals1 r
  obtain ⟨t, rfl⟩ := ru
  exact PySem.P.repr_of_str ⟨.str _, H, I.tok _, ⟨_, rfl⟩, q⟩ hz
/-- a written list, and that its place is not the modules' -/
def tLstN (t : TA) : TE := fun σ H Q => t σ H fun xs H1 => xs.length ≤ sizeLine ∧ ∀ p, H1 p = none → p ≠ sysModules → Q (.ref p) (upd H1 p (.lst xs))
theorem pe_lstN {X : Cx} {es : List Expr} {t : TA} {pos : Pos} (h : PA X es t) : PE X (.List es pos) (tLstN t) := by
  refine ⟨fun pins s σ H Q I hq => ?_⟩
  refine wpAny_List_spliced (thn (h.run pos pins s σ H _ I hq) fun us s1 ⟨xs, H1, I1, r, z, q⟩ => ⟨by rw [← r.length]; exact z, ?_⟩)
  have hf : H1 s1.heap.objs.size = none := I1.hok.fresh (Nat.le_refl _)
  refine ⟨.ref s1.heap.objs.size, upd H1 s1.heap.objs.size (.lst xs), I1.laid (t' := s1.toks) (fun b u e => Heap.get?_push_of_some _ e) (Nat.le_refl _) ?_, rfl, q _ hf (Nat.ne_of_gt I1.big)⟩
  exact ⟨z, us, 0, r, Heap.get?_push_size _ rfl⟩
/-- list(t) of a tuple -/
def rListN (K : PySem.W.Frag) : List V → Hp → VK → Prop := fun xs H Q => ∃ (p : Addr) (zs : List V), xs = [.ref p] ∧ (SqL K H p zs ∨ SqT K H p zs) ∧ ∀ l, H l = none → l ≠ sysModules → Q (.ref l) (upd H l (.lst zs))
end Vd
/-! Readings of expressions that only look: flags, numbers, data; the heap only grows. -/
namespace Sm
open PySem PySem.Spec PyProof.Rows L2 Tn Vd RZ
theorem ty_cls {X : Cx} {n : String} {x : Str} {pos : Pos} (hm : X.mg x = none) (hg : Gl X x) (hb : bootBuiltins x = some (.type n)) (h : x ≠ "__name__" := by decide) (hd : (x == ("__debug__" : Str)) = false := by decide) : PE X (.Name x pos) (tC (.ty n)) := pe_bltn hg hm hb rfl h hd
theorem SqT.same {K : PySem.W.Frag} {H H' : Hp} {a : Addr} {xs : List V} (e : Same H H') (h : SqT K H a xs) : SqT K H' a xs := by
  rcases h with (h | ⟨o, h⟩) | h
  · exact .inl (.inl (e _ _ h))
  · exact .inl (.inr ⟨o, e _ _ h⟩)
  · exact .inr h
theorem SqL.same {K : PySem.W.Frag} {H H' : Hp} {a : Addr} {xs : List V} (e : Same H H') (h : SqL K H a xs) : SqL K H' a xs := Same.seq e h
def YB (te : TE) (σ : L2.St) (H : Hp) (b : Bool) : Prop := ∀ (H1 : Hp) (Q : VK), Same H H1 → (∀ H2, Same H1 H2 → Q (.bl b) H2) → te σ H1 Q
def YN (te : TE) (σ : L2.St) (H : Hp) (i : Int) : Prop := ∀ (H1 : Hp) (Q : VK), Same H H1 → (∀ H2, Same H1 H2 → Q (.int i) H2) → te σ H1 Q
def YS (te : TE) (σ : L2.St) (H : Hp) (x : Str) : Prop := ∀ (H1 : Hp) (Q : VK), Same H H1 → (∀ H2, Same H1 H2 → Q (.str x) H2) → te σ H1 Q
def YV (K : PySem.W.Frag) (te : TE) (σ : L2.St) (H : Hp) (d : PyData) : Prop := ∀ (H1 : Hp) (Q : VK), Same H H1 → (∀ v H2, Same H1 H2 → Dd K H2 v d → Q v H2) → te σ H1 Q
/-- a list or tuple of these values -/
def YQ (K : PySem.W.Frag) (te : TE) (σ : L2.St) (H : Hp) (xs : List V) : Prop := ∀ (H1 : Hp) (Q : VK), Same H H1 → (∀ a H2, Same H1 H2 → SqL K H2 a xs → Q (.ref a) H2) → te σ H1 Q
def YT (tt : TT) (σ : L2.St) (H : Hp) (b : Bool) : Prop := ∀ (H1 : Hp) (Q : Bool → Hp → Prop), Same H H1 → (∀ H2, Same H1 H2 → Q b H2) → tt σ H1 Q
def RB (t : TS) (σ : L2.St) (H : Hp) (b : Bool) : Prop := ∀ (H1 : Hp) (D : Ends), Same H H1 → (∀ H2, Same H1 H2 → D.rt (.bl b) H2) → t D σ H1
theorem dall_uncons {K : PySem.W.Frag} {H : Hp} {xs : List V} {d : PyData} {ds : List PyData} (h : DdAll K H xs (d :: ds)) : ∃ v vs, xs = v :: vs ∧ Dd K H v d ∧ DdAll K H vs ds := by
  cases h with
  | cons h1 h2 => exact ⟨_, _, rfl, h1, h2⟩
theorem dall_unnil {K : PySem.W.Frag} {H : Hp} {xs : List V} (h : DdAll K H xs []) : xs = [] := by
  cases h
  rfl
section
variable {K : PySem.W.Frag} {σ : L2.St} {H : Hp} {ta tb tc : TE} {a b c : Bool} {d : PyData} {i j k : Int} {r r' : R2}
theorem yb_eq (h : YB ta σ H a) (e : a = b) : YB ta σ H b := e ▸ h
theorem rb_eq {t : TS} (h : RB t σ H a) (e : a = b) : RB t σ H b := e ▸ h
theorem yb_c : YB (tC (.bl b)) σ H b := fun H1 Q s q => q H1 (Same.refl H1)
theorem yn_c : YN (tC (.int i)) σ H i := fun H1 Q s q => q H1 (Same.refl H1)
theorem ys_c {x : Str} : YS (tC (.str x)) σ H x := fun H1 Q s q => q H1 (Same.refl H1)
theorem yv_c {v : V} {d : PyData} (h : ∀ H', Dd K H' v d) : YV K (tC v) σ H d := fun H1 Q s q => q _ H1 (Same.refl H1) (h H1)
theorem yb_and (ha : YB ta σ H a) (hb : a = true → YB tb σ H b) : YB (tAndV ta tb) σ H (a && b) := fun H1 Q s q => ha H1 _ s fun H2 s2 =>
  ⟨a, rfl, tst (fun e => hb e H2 Q (s.trans s2) fun H3 s3 => by have z := q H3 (s2.trans s3); rw [e, Bool.true_and] at z; exact z) fun e => by have z := q H2 s2; rw [e, Bool.false_and] at z; exact z⟩
theorem yb_or (ha : YB ta σ H a) (hb : a = false → YB tb σ H b) : YB (tOrV ta tb) σ H (a || b) := fun H1 Q s q => ha H1 _ s fun H2 s2 =>
  ⟨a, rfl, tst (fun e => by have z := q H2 s2; rw [e, Bool.true_or] at z; exact z) fun e => hb e H2 Q (s.trans s2) fun H3 s3 => by have z := q H3 (s2.trans s3); rw [e, Bool.false_or] at z; exact z⟩
theorem yb_not (ha : YB ta σ H a) : YB (tNotV ta) σ H (!a) := fun H1 Q s q => ha H1 _ s fun H2 s2 => ⟨a, rfl, q H2 s2⟩
theorem yt_b (ha : YB ta σ H a) : YT (tB ta) σ H a := fun H1 Q s q => ha H1 _ s fun H2 s2 => ⟨a, rfl, q H2 s2⟩
theorem yt_t (ha : YB ta σ H a) : YT (tTest ta) σ H a := fun H1 Q s q => ha H1 _ s fun H2 s2 => ⟨a, rfl, q H2 s2⟩
theorem yt_and {t u : TT} (ha : YT t σ H a) (hb : a = true → YT u σ H b) : YT (tAnd t u) σ H (a && b) := fun H1 Q s q => ha H1 _ s fun H2 s2 =>
  tst (fun e => hb e H2 Q (s.trans s2) fun H3 s3 => by have z := q H3 (s2.trans s3); rw [e, Bool.true_and] at z; exact z) fun e => by have z := q H2 s2; rw [e, Bool.false_and] at z; exact z
theorem yt_or {t u : TT} (ha : YT t σ H a) (hb : a = false → YT u σ H b) : YT (tOr t u) σ H (a || b) := fun H1 Q s q => ha H1 _ s fun H2 s2 =>
  tst (fun e => by have z := q H2 s2; rw [e, Bool.true_or] at z; exact z) fun e => hb e H2 Q (s.trans s2) fun H3 s3 => by have z := q H3 (s2.trans s3); rw [e, Bool.false_or] at z; exact z
theorem yt_not {t : TT} (ha : YT t σ H a) : YT (tNot t) σ H (!a) := fun H1 Q s q => ha H1 _ s fun H2 s2 => q H2 s2
theorem yb_if {t : TT} (ht : YT t σ H c) (ha : c = true → YB ta σ H a) (hb : c = false → YB tb σ H b) : YB (tIf t ta tb) σ H (if c = true then a else b) := fun H1 Q s q => ht H1 _ s fun H2 s2 =>
  tst (fun e => ha e H2 Q (s.trans s2) fun H3 s3 => by have z := q H3 (s2.trans s3); rw [e, if_pos rfl] at z; exact z) fun e => hb e H2 Q (s.trans s2) fun H3 s3 => by have z := q H3 (s2.trans s3); rw [e, if_neg Bool.false_ne_true] at z; exact z
theorem yn_if {t : TT} (ht : YT t σ H c) (ha : c = true → YN ta σ H i) (hb : c = false → YN tb σ H j) : YN (tIf t ta tb) σ H (if c = true then i else j) := fun H1 Q s q => ht H1 _ s fun H2 s2 =>
  tst (fun e => ha e H2 Q (s.trans s2) fun H3 s3 => by have z := q H3 (s2.trans s3); rw [e, if_pos rfl] at z; exact z) fun e => hb e H2 Q (s.trans s2) fun H3 s3 => by have z := q H3 (s2.trans s3); rw [e, if_neg Bool.false_ne_true] at z; exact z
theorem yv_if {t : TT} {d e : PyData} (ht : YT t σ H c) (ha : c = true → YV K ta σ H d) (hb : c = false → YV K tb σ H e) : YV K (tIf t ta tb) σ H (if c = true then d else e) := fun H1 Q s q => ht H1 _ s fun H2 s2 =>
  tst (fun e => ha e H2 Q (s.trans s2) fun v H3 s3 hd => q v H3 (s2.trans s3) (by rw [e, if_pos rfl]; exact hd)) fun e => hb e H2 Q (s.trans s2) fun v H3 s3 hd => q v H3 (s2.trans s3) (by rw [e, if_neg Bool.false_ne_true]; exact hd)
/-- an operator of two numbers -/
theorem yb_op (hr : ∀ Hx (Q : VK), Q (.bl b) Hx → r (.int i) (.int j) Hx Q) (ha : YN ta σ H i) (hb : YN tb σ H j) : YB (tOp r ta tb) σ H b := fun H1 Q s q => ha H1 _ s fun H2 s2 => hb H2 _ (s.trans s2) fun H3 s3 => hr H3 Q (q H3 (s2.trans s3))
theorem yb_ops {x y : Str} (hr : ∀ Hx (Q : VK), Q (.bl b) Hx → r (.str x) (.str y) Hx Q) (ha : YS ta σ H x) (hb : YS tb σ H y) : YB (tOp r ta tb) σ H b := fun H1 Q s q => ha H1 _ s fun H2 s2 => hb H2 _ (s.trans s2) fun H3 s3 => hr H3 Q (q H3 (s2.trans s3))
theorem yn_op (hr : ∀ Hx (Q : VK), Q (.int k) Hx → r (.int i) (.int j) Hx Q) (ha : YN ta σ H i) (hb : YN tb σ H j) : YN (tOp r ta tb) σ H k := fun H1 Q s q => ha H1 _ s fun H2 s2 => hb H2 _ (s.trans s2) fun H3 s3 => hr H3 Q (q H3 (s2.trans s3))
theorem yb_chain (hr : ∀ Hx (Q : VK), Q (.bl b) Hx → r (.int i) (.int j) Hx Q) (hr' : ∀ Hx (Q : VK), Q (.bl c) Hx → r' (.int j) (.int k) Hx Q) (ha : YN ta σ H i) (hb : YN tb σ H j) (hc : YN tc σ H k) : YB (tChain r r' ta tb tc) σ H (b && c) := fun H1 Q s q =>
  ha H1 _ s fun H2 s2 => hb H2 _ (s.trans s2) fun H3 s3 => hr H3 _ ⟨b, rfl, tst (fun e => hc H3 _ ((s.trans s2).trans s3) fun H4 s4 => hr' H4 Q (by have z := q H4 ((s2.trans s3).trans s4); rw [e, Bool.true_and] at z; exact z))
    fun e => by have z := q H3 (s2.trans s3); rw [e, Bool.false_and] at z; exact z⟩
theorem yv_var {m : Nat} {v : V} (hσ : σ[m]? = some (some v)) (hd : Dd K H v d) : YV K (tVar m) σ H d := fun H1 Q s q => ⟨v, hσ, q v H1 (Same.refl H1) (hd.same s)⟩
theorem yn_var {m : Nat} (hσ : σ[m]? = some (some (.int i))) : YN (tVar m) σ H i := fun H1 Q s q => ⟨_, hσ, q H1 (Same.refl H1)⟩
theorem ys_var {m : Nat} {x : Str} (hσ : σ[m]? = some (some (.str x))) : YS (tVar m) σ H x := fun H1 Q s q => ⟨_, hσ, q H1 (Same.refl H1)⟩
theorem yq_var {m : Nat} {p : Addr} {xs : List V} (hσ : σ[m]? = some (some (.ref p))) (h : SqL K H p xs) : YQ K (tVar m) σ H xs := fun H1 Q s q => ⟨_, hσ, q p H1 (Same.refl H1) (SqL.same s h)⟩
/-- data of a kind -/
theorem yn_v (h : YV K ta σ H (.int i)) : YN ta σ H i := fun H1 Q s q => h H1 Q s fun v H2 s2 hd => by cases hd; exact q H2 s2
theorem ys_v {x : Str} (h : YV K ta σ H (.str x)) : YS ta σ H x := fun H1 Q s q => h H1 Q s fun v H2 s2 hd => by cases hd; exact q H2 s2
theorem yb_v (h : YV K ta σ H (.bool b)) : YB ta σ H b := fun H1 Q s q => h H1 Q s fun v H2 s2 hd => by cases hd; exact q H2 s2
theorem ofTup {v : V} {ds : List PyData} (h : Dd K H v (.tuple ds)) : ∃ p xs, v = .ref p ∧ TupN H p xs ∧ DdAll K H xs ds := by
  cases h with
  | tup h1 h2 => exact ⟨_, _, rfl, h1, h2⟩
/-- == of data and a text -/
theorem yb_eqS {x : Str} (ha : YV K ta σ H d) (hb : YS tb σ H x) : YB (tOp (rEqS K) ta tb) σ H (eqS d x) := fun H1 Q s q => ha H1 _ s fun v H2 s2 hd => hb H2 _ (s.trans s2) fun H3 s3 => ⟨d, x, hd.same s3, rfl, q H3 (s2.trans s3)⟩
theorem yb_sEq {x : Str} (ha : YS ta σ H x) (hb : YV K tb σ H d) : YB (tOp (rSEq K) ta tb) σ H (eqS d x) := fun H1 Q s q => ha H1 _ s fun H2 s2 => hb H2 _ (s.trans s2) fun v H3 s3 hd => ⟨d, x, hd, rfl, q H3 (s2.trans s3)⟩
def YSs (t : TA) (σ : L2.St) (H : Hp) (zs : List Str) : Prop := ∀ (H1 : Hp) (Q : List V → Hp → Prop), Same H H1 → (∀ H2, Same H1 H2 → Q (zs.map V.str) H2) → t σ H1 Q
theorem yss_nil : YSs tNil σ H [] := fun H1 Q s q => q H1 (Same.refl H1)
theorem yss_cons {x : Str} {zs : List Str} {t : TA} (ha : YS ta σ H x) (ht : YSs t σ H zs) : YSs (tCons ta t) σ H (x :: zs) := fun H1 Q s q => ha H1 _ s fun H2 s2 => ht H2 _ (s.trans s2) fun H3 s3 => q H3 (s2.trans s3)
theorem yb_inS {zs : List Str} {t : TA} (ha : YV K ta σ H d) (hz : zs.length ≤ 100) (ht : YSs t σ H zs) : YB (tOp (rInS K false) ta (tTup t)) σ H (inS d zs) := fun H1 Q s q => ha H1 _ s fun v H2 s2 hd => ht H2 _ (s.trans s2) fun H3 s3 =>
  ⟨by rw [List.length_map, sizeLine_eq]; omega, fun p hp => ⟨d, p, zs, (hd.same s3).same (same_up hp), rfl, .inr (.inl (.inl upd_same)), q _ ((s2.trans s3).trans (same_up hp))⟩⟩
theorem yb_notInS {zs : List Str} {t : TA} (ha : YV K ta σ H d) (hz : zs.length ≤ 100) (ht : YSs t σ H zs) : YB (tOp (rInS K true) ta (tTup t)) σ H (!inS d zs) := fun H1 Q s q => ha H1 _ s fun v H2 s2 hd => ht H2 _ (s.trans s2) fun H3 s3 =>
  ⟨by rw [List.length_map, sizeLine_eq]; omega, fun p hp => ⟨d, p, zs, (hd.same s3).same (same_up hp), rfl, .inr (.inl (.inl upd_same)), q _ ((s2.trans s3).trans (same_up hp))⟩⟩
/-- isinstance -/
theorem yb_isi {n : String} (ha : YV K ta σ H d) (e : kitB (tyD d) n = some b) : YB (tCB (rIsi K) (tCons ta (tCons (tC (.ty n)) tNil))) σ H b := fun H1 Q s q => ha H1 _ s fun v H2 s2 hd => isi hd e (q H2 s2)
/-- len -/
theorem yn_lenT {ds : List PyData} (ha : YV K ta σ H (.tuple ds)) : YN (tCB (fun xs H Q => ∃ p ys, xs = [.ref p] ∧ (SqL K H p ys ∨ SqT K H p ys) ∧ Q (.int ys.length) H) (tCons ta tNil)) σ H ds.length := fun H1 Q s q => ha H1 _ s fun v H2 s2 hd => by
  obtain ⟨p, xs, rfl, h0, h2⟩ := ofTup hd
  refine ⟨p, xs, rfl, .inr h0.sq, ?_⟩
  rw [dall_len h2]
  exact q H2 s2
theorem yn_lenS {x : Str} (ha : YS ta σ H x) (hz : x.length ≤ sizeLine) : YN (tCB (fun xs H Q => ∃ z : Str, xs = [.str z] ∧ z.length ≤ sizeLine ∧ Q (.int z.length) H) (tCons ta tNil)) σ H x.length := fun H1 Q s q => ha H1 _ s fun H2 s2 => ⟨x, rfl, hz, q H2 s2⟩
/-- a place of a tuple -/
theorem yv_ix {ds : List PyData} {e : PyData} {m : Nat} (ha : YV K ta σ H (.tuple ds)) (hb : YN tb σ H m) (he : ds[m]? = some e) : YV K (tOp (rIxT K) ta tb) σ H e := fun H1 Q s q => ha H1 _ s fun v H2 s2 hd => hb H2 _ (s.trans s2) fun H3 s3 => by
  obtain ⟨p, xs, rfl, h0, h2⟩ := ofTup (hd.same s3)
  obtain ⟨u, hu, hdu⟩ := dall_at h2 he
  exact ⟨p, xs, m, u, rfl, rfl, h0.sq, atI_nat hu, q u H3 (s2.trans s3) hdu⟩
theorem atI_lastN {α : Type} {xs : List α} {v : α} (h : xs.getLast? = some v) : atI xs (-1) = some v := by
  obtain ⟨ys, rfl⟩ := List.getLast?_eq_some_iff.mp h
  exact atI_last _ v
theorem dall_last : ∀ {vs : List V} {ds : List PyData} {d : PyData}, DdAll K H vs ds → ds.getLast? = some d → ∃ v, vs.getLast? = some v ∧ Dd K H v d := fun {vs ds d} h e => by
  rw [List.getLast?_eq_getElem?] at e
  obtain ⟨v, h1, h2⟩ := dall_at h e
  refine ⟨v, ?_, h2⟩
  rw [List.getLast?_eq_getElem?, dall_len h]
  exact h1
theorem yv_ixL {ds : List PyData} {e : PyData} (ha : YV K ta σ H (.tuple ds)) (hb : YN tb σ H (-1)) (he : ds.getLast? = some e) : YV K (tOp (rIxT K) ta tb) σ H e := fun H1 Q s q => ha H1 _ s fun v H2 s2 hd => hb H2 _ (s.trans s2) fun H3 s3 => by
  obtain ⟨p, xs, rfl, h0, h2⟩ := ofTup (hd.same s3)
  obtain ⟨u, hu, hdu⟩ := dall_last h2 he
  exact ⟨p, xs, -1, u, rfl, rfl, h0.sq, atI_lastN hu, q u H3 (s2.trans s3) hdu⟩
theorem yn_neg {r : V → Hp → VK → Prop} (hr : ∀ Hx (Q : VK), Q (.int j) Hx → r (.int i) Hx Q) (ha : YN ta σ H i) : YN (tUn r ta) σ H j := fun H1 Q s q => ha H1 _ s fun H2 s2 => hr H2 Q (q H2 s2)
/-- a slice of a tuple -/
theorem yv_sl {ds es : List PyData} {tl th : TO} {lo hi : Option Int} (ha : YV K ta σ H (.tuple ds)) (hl : ∀ (H1 : Hp) (Q : Option Int → Hp → Prop), Same H H1 → (∀ H2, Same H1 H2 → Q lo H2) → tl σ H1 Q) (hh : ∀ (H1 : Hp) (Q : Option Int → Hp → Prop), Same H H1 → (∀ H2, Same H1 H2 → Q hi H2) → th σ H1 Q)
    (hx : ∀ xs : List V, xs.length = ds.length → (HT.sIx xs.length 0 lo = 0 ∧ HT.sIx xs.length xs.length hi = xs.length → es = ds)) (hy : ∀ (H' : Hp) (xs : List V), DdAll K H' xs ds → DdAll K H' (cutV xs lo hi) es) : YV K (tSl (rSlF K) ta tl th) σ H (.tuple es) := fun H1 Q s q => ha H1 _ s fun v H2 s2 hd =>
  hl H2 _ (s.trans s2) fun H3 s3 => hh H3 _ ((s.trans s2).trans s3) fun H4 s4 => by
    obtain ⟨p, xs, rfl, h0, h2⟩ := ofTup (hd.same (s3.trans s4))
    refine ⟨p, xs, rfl, h0.sq, fun w => ?_, fun w l o hl ho => ?_⟩
    · have e := hx xs (dall_len h2) w
      exact q _ H4 ((s2.trans s3).trans s4) (e ▸ hd.same (s3.trans s4))
    · exact q _ _ (((s2.trans s3).trans s4).trans (same_up hl)) (.tup ⟨o, upd_same, ho⟩ (DdAll.same (same_up hl) (hy H4 xs h2)))
theorem yo_no : ∀ (H1 : Hp) (Q : Option Int → Hp → Prop), Same H H1 → (∀ H2, Same H1 H2 → Q none H2) → tNoPart σ H1 Q := fun H1 Q s q => q H1 (Same.refl H1)
theorem yo_some (ha : YN ta σ H i) : ∀ (H1 : Hp) (Q : Option Int → Hp → Prop), Same H H1 → (∀ H2, Same H1 H2 → Q (some i) H2) → tPart ta σ H1 Q := fun H1 Q s q => ha H1 _ s fun H2 s2 => ⟨i, rfl, q H2 s2⟩
/-! ### statements -/
theorem rb_ret (h : YB ta σ H b) : RB (tRet ta) σ H b := fun H1 D s q => h H1 _ s q
theorem rb_if {tc : TT} {u : TS} (hc : YT tc σ H c) (ht : c = true → YB ta σ H b) (hu : c = false → RB u σ H b) : RB (tSeq (tIfS tc (tRet ta) tNext) u) σ H b := fun H1 D s q => hc H1 _ s fun H2 s2 =>
  tst (fun e => ht e H2 _ (s.trans s2) fun H3 s3 => q H3 (s2.trans s3)) fun e => hu e H2 D (s.trans s2) fun H3 s3 => q H3 (s2.trans s3)
theorem rb_asg1 {u : TS} {m : Nat} (ha : YV K ta σ H d) (h : ∀ v H', Same H H' → Dd K H' v d → RB u (σ.set m (some v)) H' b) : RB (tSeq (tAsg ta (gName m)) u) σ H b := fun H1 D s q => ha H1 _ s fun v H2 s2 hd => h v H2 (s.trans s2) hd H2 D (Same.refl H2) fun H3 s3 => q H3 (s2.trans s3)
theorem rb_set {u : TS} {m : Nat} {tS : TS} (ha : YV K ta σ H d) (e : tS = tAsg ta (gName m)) (h : ∀ v H', Same H H' → Dd K H' v d → RB u (σ.set m (some v)) H' b) : RB (tSeq tS u) σ H b := e ▸ rb_asg1 ha h
theorem rb_un2 {u : TS} {m1 m2 : Nat} {d1 d2 : PyData} (ha : YV K ta σ H (.tuple [d1, d2])) (h : ∀ v1 v2 H', Same H H' → Dd K H' v1 d1 → Dd K H' v2 d2 → RB u ((σ.set m1 (some v1)).set m2 (some v2)) H' b) :
    RB (tSeq (tAsg ta (gTup K 2 (gCons (gName m1) (gCons (gName m2) gNil)))) u) σ H b := fun H1 D s q => ha H1 _ s fun v H2 s2 hd => by
  obtain ⟨p, xs, rfl, h0, h2⟩ := ofTup hd
  obtain ⟨u1, r1, rfl, g1, h2x⟩ := dall_uncons h2
  obtain ⟨u2, r2, rfl, g2, h2xx⟩ := dall_uncons h2x
  cases dall_unnil h2xx
  exact ⟨p, _, rfl, h0.sq, rfl, _, _, rfl, _, _, rfl, rfl, h _ _ H2 (s.trans s2) g1 g2 H2 D (Same.refl H2) fun H3 s3 => q H3 (s2.trans s3)⟩
theorem rb_un3 {u : TS} {m1 m2 m3 : Nat} {d1 d2 d3 : PyData} (ha : YV K ta σ H (.tuple [d1, d2, d3])) (h : ∀ v1 v2 v3 H', Same H H' → Dd K H' v1 d1 → Dd K H' v2 d2 → Dd K H' v3 d3 → RB u (((σ.set m1 (some v1)).set m2 (some v2)).set m3 (some v3)) H' b) :
    RB (tSeq (tAsg ta (gTup K 3 (gCons (gName m1) (gCons (gName m2) (gCons (gName m3) gNil))))) u) σ H b := fun H1 D s q => ha H1 _ s fun v H2 s2 hd => by
  obtain ⟨p, xs, rfl, h0, h2⟩ := ofTup hd
  obtain ⟨u1, r1, rfl, g1, h2x⟩ := dall_uncons h2
  obtain ⟨u2, r2, rfl, g2, h2xx⟩ := dall_uncons h2x
  obtain ⟨u3, r3, rfl, g3, h2xxx⟩ := dall_uncons h2xx
  cases dall_unnil h2xxx
  exact ⟨p, _, rfl, h0.sq, rfl, _, _, rfl, _, _, rfl, _, _, rfl, rfl, h _ _ _ H2 (s.trans s2) g1 g2 g3 H2 D (Same.refl H2) fun H3 s3 => q H3 (s2.trans s3)⟩
theorem rb_un5 {u : TS} {m1 m2 m3 m4 m5 : Nat} {d1 d2 d3 d4 d5 : PyData} (ha : YV K ta σ H (.tuple [d1, d2, d3, d4, d5])) (h : ∀ v1 v2 v3 v4 v5 H', Same H H' → Dd K H' v1 d1 → Dd K H' v2 d2 → Dd K H' v3 d3 → Dd K H' v4 d4 → Dd K H' v5 d5 →
      RB u (((((σ.set m1 (some v1)).set m2 (some v2)).set m3 (some v3)).set m4 (some v4)).set m5 (some v5)) H' b) :
    RB (tSeq (tAsg ta (gTup K 5 (gCons (gName m1) (gCons (gName m2) (gCons (gName m3) (gCons (gName m4) (gCons (gName m5) gNil))))))) u) σ H b := fun H1 D s q => ha H1 _ s fun v H2 s2 hd => by
  obtain ⟨p, xs, rfl, h0, h2⟩ := ofTup hd
  obtain ⟨u1, r1, rfl, g1, h2x⟩ := dall_uncons h2
  obtain ⟨u2, r2, rfl, g2, h2xx⟩ := dall_uncons h2x
  obtain ⟨u3, r3, rfl, g3, h2xxx⟩ := dall_uncons h2xx
  obtain ⟨u4, r4, rfl, g4, h2xxxx⟩ := dall_uncons h2xxx
  obtain ⟨u5, r5, rfl, g5, h2xxxxx⟩ := dall_uncons h2xxxx
  cases dall_unnil h2xxxxx
  exact ⟨p, _, rfl, h0.sq, rfl, _, _, rfl, _, _, rfl, _, _, rfl, _, _, rfl, _, _, rfl, rfl, h _ _ _ _ _ H2 (s.trans s2) g1 g2 g3 g4 g5 H2 D (Same.refl H2) fun H3 s3 => q H3 (s2.trans s3)⟩
/-! ### all([..]) -/
def rAll (K : PySem.W.Frag) : List V → Hp → VK → Prop := fun xs H Q => ∃ (a : Addr) (bs : List Bool), xs = [.ref a] ∧ SqL K H a (bs.map V.bl) ∧ Q (.bl (bs.all id)) H
theorem grow {bs : List Bool} {n : Nat} {b : Bool} {H0 H' H2 : Hp} {D : Addr} (hb : bs[n]? = some b) (hz : bs.length ≤ 1000000) (hD : H0 D = none) (e : Same H0 H' ∧ H' D = some (.lst ((bs.take n).map V.bl))) (s : Same H' H2) :
    ∃ acc, H2 D = some (.lst acc) ∧ acc.length < sizeLine ∧ Same H0 (upd H2 D (.lst (acc ++ [.bl b]))) ∧ (upd H2 D (.lst (acc ++ [.bl b]))) D = some (.lst ((bs.take (n + 1)).map V.bl)) := by
  refine ⟨_, s _ _ e.2, ?_, ?_, ?_⟩
  · have h1 : n < bs.length := (List.getElem?_eq_some_iff.mp hb).1
    rw [List.length_map, List.length_take, sizeLine_eq]
    omega
  · intro c o z
    rw [upd_ne (ne_of_none z hD)]
    exact s _ _ (e.1 c o z)
  · rw [upd_same, List.take_add_one, hb, List.map_append]
    rfl
theorem fin_all {bs : List Bool} {H0 H1 : Hp} {D : Addr} {Q : VK} (e : Same H0 H1 ∧ H1 D = some (.lst ((bs.take bs.length).map V.bl))) (q : ∀ H2, Same H0 H2 → Q (.bl (bs.all id)) H2) : rAll K [.ref D] H1 Q :=
  ⟨D, bs, rfl, SqL.of (by rw [e.2, List.take_of_length_le (Nat.le_refl _)]), q H1 e.1⟩
theorem allB {α : Type} (l : List α) (g : α → Bool) : ((l.map g).all id) = l.all g := by
  rw [List.all_map]
  rfl
/-- all([test of one for one in tuple]) -/
theorem yb_allT {ds : List PyData} {p : PyData → Bool} {te tp : TE} {m : Nat} (ha : YV K tp σ H (.tuple ds)) (hz : ds.length ≤ 1000000) (hw : ∀ v, wipe ((wipe σ [m]).set m v) [m] = wipe σ [m])
    (hte : ∀ v d H', d ∈ ds → Same H H' → Dd K H' v d → YB te ((wipe σ [m]).set m (some v)) H' (p d)) : YB (tCB (rAll K) (tCons (tLc (iTup K tp) (gName m) tYes te [m]) tNil)) σ H (ds.all p) := fun H1 Q s q => ha H1 _ s fun v H2 s2 hd => by
  obtain ⟨a, xs, rfl, h0, h2⟩ := ofTup hd
  refine ⟨a, rfl, ⟨_, h0.sq⟩, fun D hD => ?_⟩
  refine lc_tup (xs := xs) (fun i H' => Same H2 H' ∧ H' D = some (.lst (((ds.map p).take i).map V.bl))) ⟨same_up hD, upd_same⟩ (fun i H' _ e => SqT.same e.1 h0.sq) (fun i x H' hx e => ?_) (fun H1 e => ?_)
  · obtain ⟨d, he, hdd⟩ := dall_at' h2 hx
    exact ⟨hw _, hte x d H' (List.mem_of_getElem? he) ((s.trans s2).trans e.1) (Dd.same e.1 hdd) H' _ (Same.refl H') fun H3 s3 => grow (by rw [List.getElem?_map, he]; rfl) (by rw [List.length_map]; exact hz) hD e s3⟩
  · rw [dall_len h2, ← List.length_map (f := p)] at e
    exact fin_all e fun H3 s3 => by have z := q H3 (s2.trans s3); rw [allB]; exact z
/-- all([test of sign for sign in text]) -/
theorem lc_str {x : Str} {g : TG} {tt : TT} {te : TE} {vs : List Nat} {σ : L2.St} {H1 : Hp} {D : Addr} {Qd : Hp → Prop} (Pv : Nat → Hp → Prop) (h0 : Pv 0 (upd H1 D (.lst [])))
    (hs : ∀ i c H, x.cps.toList[i]? = some c → Pv i H → g (.str ⟨#[c]⟩) (wipe σ vs) H fun σ2 H2 => wipe σ2 vs = wipe σ vs ∧ tt σ2 H2 fun b H3 =>
      if b = true then te σ2 H3 fun y H4 => ∃ acc, H4 D = some (.lst acc) ∧ acc.length < sizeLine ∧ Pv (i + 1) (upd H4 D (.lst (acc ++ [y]))) else Pv (i + 1) H3) (hd : ∀ H, Pv x.cps.toList.length H → Qd H) :
    ∃ W : Nat → Nat → Hp → Prop, (∃ m, W 0 m (upd H1 D (.lst []))) ∧ ∀ i m H, W i m H →
      ((Its x).stop i H ∧ Qd H) ∨ ((Its x).go i H ∧ ∃ Nx : Hp → Prop, (∀ H', Nx H' → ∃ m', m' < m ∧ W (i + 1) m' H') ∧ ∀ x' H', (Its x).yld i H x' H' → g x' (wipe σ vs) H' fun σ2 H2 => wipe σ2 vs = wipe σ vs ∧ tt σ2 H2 fun b H3 =>
        if b = true then te σ2 H3 fun y H4 => ∃ acc, H4 D = some (.lst acc) ∧ acc.length < sizeLine ∧ Nx (upd H4 D (.lst (acc ++ [y]))) else Nx H3) := by
  have sz : x.cps.toList.length = x.cps.size := Array.length_toList
  refine ⟨fun i m H => m = x.cps.size - i ∧ i ≤ x.cps.size ∧ Pv i H, ⟨x.cps.size, by simp, Nat.zero_le _, h0⟩, ?_⟩
  rintro i m H ⟨rfl, hi, p⟩
  by_cases hlt : i < x.cps.size
  · refine .inr ⟨hlt, Pv (i + 1), fun H' p' => ⟨x.cps.size - (i + 1), by omega, rfl, hlt, p'⟩, fun v H' y => ?_⟩
    obtain ⟨rfl, c, hc, rfl⟩ := y
    exact hs i c _ (by rw [Array.getElem?_toList]; exact hc) p
  · have e : i = x.cps.size := by omega
    exact .inl ⟨by show x.cps.size ≤ i; omega, hd H (by rw [sz, ← e]; exact p)⟩
theorem yb_allS {x : Str} {p : Nat → Bool} {te tp : TE} {m : Nat} (ha : YS tp σ H x) (hz : x.length ≤ 1000000) (hw : ∀ v, wipe ((wipe σ [m]).set m v) [m] = wipe σ [m])
    (hte : ∀ c H', Same H H' → YB te ((wipe σ [m]).set m (some (.str ⟨#[c]⟩))) H' (p c)) : YB (tCB (rAll K) (tCons (tLc (iStr tp) (gName m) tYes te [m]) tNil)) σ H (x.cps.toList.all p) := fun H1 Q s q => ha H1 _ s fun H2 s2 => by
  refine ⟨x, rfl, fun D hD => ?_⟩
  refine lc_str (fun i H' => Same H2 H' ∧ H' D = some (.lst (((x.cps.toList.map p).take i).map V.bl))) ⟨same_up hD, upd_same⟩ (fun i c H' hx e => ?_) (fun H1 e => ?_)
  · exact ⟨hw _, hte c H' ((s.trans s2).trans e.1) H' _ (Same.refl H') fun H3 s3 => grow (by rw [List.getElem?_map, hx]; rfl) (by rw [List.length_map, Array.length_toList]; exact hz) hD e s3⟩
  · rw [← List.length_map (f := p)] at e
    exact fin_all e fun H3 s3 => by have z := q H3 (s2.trans s3); rw [allB]; exact z
/-- all([test of one for a, b in tuple of pairs]) -/
theorem yb_allP {es : List (PyData × PyData)} {p : PyData → PyData → Bool} {te tp : TE} {m1 m2 : Nat} (ha : YV K tp σ H (.tuple (es.map fun e => .tuple [e.1, e.2]))) (hz : es.length ≤ 1000000) (hw : ∀ v1 v2, wipe (((wipe σ [m1, m2]).set m1 v1).set m2 v2) [m1, m2] = wipe σ [m1, m2])
    (hte : ∀ v1 v2 d1 d2 H', (d1, d2) ∈ es → Same H H' → Dd K H' v1 d1 → Dd K H' v2 d2 → YB te (((wipe σ [m1, m2]).set m1 (some v1)).set m2 (some v2)) H' (p d1 d2)) :
    YB (tCB (rAll K) (tCons (tLc (iTup K tp) (gTup K 2 (gCons (gName m1) (gCons (gName m2) gNil))) tYes te [m1, m2]) tNil)) σ H (es.all fun e => p e.1 e.2) := fun H1 Q s q => ha H1 _ s fun v H2 s2 hd => by
  obtain ⟨a, xs, rfl, h0, h2⟩ := ofTup hd
  have hl : xs.length = es.length := by rw [dall_len h2, List.length_map]
  refine ⟨a, rfl, ⟨_, h0.sq⟩, fun D hD => ?_⟩
  refine lc_tup (xs := xs) (fun i H' => Same H2 H' ∧ H' D = some (.lst (((es.map fun e => p e.1 e.2).take i).map V.bl))) ⟨same_up hD, upd_same⟩ (fun i H' _ e => SqT.same e.1 h0.sq) (fun i x H' hx e => ?_) (fun H1 e => ?_)
  · obtain ⟨d, he, hdd⟩ := dall_at' h2 hx
    rw [List.getElem?_map] at he
    obtain ⟨⟨d1, d2⟩, z1, z2⟩ := Option.map_eq_some_iff.mp he
    subst z2
    obtain ⟨t, ys, rfl, t0, t2⟩ := ofTup (Dd.same e.1 hdd)
    obtain ⟨u1, r1, rfl, g1, t2x⟩ := dall_uncons t2
    obtain ⟨u2, r2, rfl, g2, t2xx⟩ := dall_uncons t2x
    cases dall_unnil t2xx
    exact ⟨t, _, rfl, t0.sq, rfl, _, _, rfl, _, _, rfl, rfl, hw _ _, hte _ _ d1 d2 H' (List.mem_of_getElem? z1) ((s.trans s2).trans e.1) g1 g2 H' _ (Same.refl H') fun H3 s3 => grow (by rw [List.getElem?_map, z1]; rfl) (by rw [List.length_map]; exact hz) hD e s3⟩
  · rw [hl, ← List.length_map (f := fun e : PyData × PyData => p e.1 e.2)] at e
    exact fin_all e fun H3 s3 => by have z := q H3 (s2.trans s3); rw [allB]; exact z
/-- all([test of place for place in range(n)]) -/
theorem yb_allR {n : Int} {bs : List Bool} {te : TE} {m : Nat} {ti : TI} (hi : ∀ (H1 : Hp) (R : It → Hp → Prop), Same H H1 → (∀ H2, Same H1 H2 → R (Itr 0 n.toNat) H2) → ti σ H1 R) (hn : bs.length = n.toNat) (hz : bs.length ≤ 1000000) (hw : ∀ v, wipe ((wipe σ [m]).set m v) [m] = wipe σ [m])
    (hte : ∀ (i : Nat) H', i < bs.length → Same H H' → ∀ b, bs[i]? = some b → YB te ((wipe σ [m]).set m (some (.int (0 + (i : Int))))) H' b) : YB (tCB (rAll K) (tCons (tLc ti (gName m) tYes te [m]) tNil)) σ H (bs.all id) := fun H1 Q s q => hi H1 _ s fun H2 s2 D hD => by
  refine lc_range (n := n.toNat) (fun i H' => Same H2 H' ∧ H' D = some (.lst ((bs.take i).map V.bl))) ⟨same_up hD, upd_same⟩ (fun i H' hi e => ?_) (fun H1 e => ?_)
  · have hb : bs[i]? = some bs[i] := List.getElem?_eq_getElem (by omega)
    exact ⟨hw _, hte i H' (by omega) ((s.trans s2).trans e.1) _ hb H' _ (Same.refl H') fun H3 s3 => grow hb hz hD e s3⟩
  · rw [← hn] at e
    exact fin_all e fun H3 s3 => q H3 (s2.trans s3)
/-- zip of tuples, of one length at least -/
theorem lc_zipT {a b : Addr} {xs ys : List V} {g : TG} {tt : TT} {te : TE} {vs : List Nat} {σ : L2.St} {H1 : Hp} {D : Addr} {Qd : Hp → Prop} (n : Nat) (hn : n = min xs.length ys.length) (Pv : Nat → Hp → Prop) (h0 : Pv 0 (upd H1 D (.lst []))) (hl : ∀ i H, Pv i H → SqT K H a xs ∧ SqT K H b ys)
    (hs : ∀ i x y T H, xs[i]? = some x → ys[i]? = some y → Pv i H → H T = none → g (.ref T) (wipe σ vs) (upd H T (.tup [x, y])) fun σ2 H2 => wipe σ2 vs = wipe σ vs ∧ tt σ2 H2 fun b H3 =>
      if b = true then te σ2 H3 fun y H4 => ∃ acc, H4 D = some (.lst acc) ∧ acc.length < sizeLine ∧ Pv (i + 1) (upd H4 D (.lst (acc ++ [y]))) else Pv (i + 1) H3) (hd : ∀ H, Pv n H → Qd H) :
    ∃ W : Nat → Nat → Hp → Prop, (∃ m, W 0 m (upd H1 D (.lst []))) ∧ ∀ i m H, W i m H →
      ((ItzT K a b).stop i H ∧ Qd H) ∨ ((ItzT K a b).go i H ∧ ∃ Nx : Hp → Prop, (∀ H', Nx H' → ∃ m', m' < m ∧ W (i + 1) m' H') ∧ ∀ x H', (ItzT K a b).yld i H x H' → g x (wipe σ vs) H' fun σ2 H2 => wipe σ2 vs = wipe σ vs ∧ tt σ2 H2 fun b H3 =>
        if b = true then te σ2 H3 fun y H4 => ∃ acc, H4 D = some (.lst acc) ∧ acc.length < sizeLine ∧ Nx (upd H4 D (.lst (acc ++ [y]))) else Nx H3) := by
  refine ⟨fun i m H => m = n - i ∧ i ≤ n ∧ Pv i H, ⟨n, by simp, Nat.zero_le _, h0⟩, ?_⟩
  rintro i m H ⟨rfl, hi, p⟩
  obtain ⟨qx, qy⟩ := hl i H p
  by_cases hlt : i < n
  · have hx : xs[i]? = some xs[i] := List.getElem?_eq_getElem (by omega)
    have hy : ys[i]? = some ys[i] := List.getElem?_eq_getElem (by omega)
    refine .inr ⟨⟨xs, ys, _, _, qx, qy, hx, hy⟩, Pv (i + 1), fun H' p' => ⟨n - (i + 1), by omega, rfl, hlt, p'⟩, fun v H' z => ?_⟩
    obtain ⟨T, x, y, rfl, hT, rfl, z1, z2⟩ := z
    exact hs i x y T H (z1 _ qx) (z2 _ qy) p hT
  · have e : i = n := by omega
    subst e
    exact .inl ⟨⟨xs, ys, qx, qy, by omega⟩, hd H p⟩
theorem lc_zip {a b : Addr} {xs ys : List V} {g : TG} {tt : TT} {te : TE} {vs : List Nat} {σ : L2.St} {H1 : Hp} {D : Addr} {Qd : Hp → Prop} (n : Nat) (hn : n = min xs.length ys.length) (Pv : Nat → Hp → Prop) (h0 : Pv 0 (upd H1 D (.lst []))) (hl : ∀ i H, Pv i H → SqL K H a xs ∧ SqL K H b ys)
    (hs : ∀ i x y T H, xs[i]? = some x → ys[i]? = some y → Pv i H → H T = none → g (.ref T) (wipe σ vs) (upd H T (.tup [x, y])) fun σ2 H2 => wipe σ2 vs = wipe σ vs ∧ tt σ2 H2 fun b H3 =>
      if b = true then te σ2 H3 fun y H4 => ∃ acc, H4 D = some (.lst acc) ∧ acc.length < sizeLine ∧ Pv (i + 1) (upd H4 D (.lst (acc ++ [y]))) else Pv (i + 1) H3) (hd : ∀ H, Pv n H → Qd H) :
    ∃ W : Nat → Nat → Hp → Prop, (∃ m, W 0 m (upd H1 D (.lst []))) ∧ ∀ i m H, W i m H →
      ((Itz K a b).stop i H ∧ Qd H) ∨ ((Itz K a b).go i H ∧ ∃ Nx : Hp → Prop, (∀ H', Nx H' → ∃ m', m' < m ∧ W (i + 1) m' H') ∧ ∀ x H', (Itz K a b).yld i H x H' → g x (wipe σ vs) H' fun σ2 H2 => wipe σ2 vs = wipe σ vs ∧ tt σ2 H2 fun b H3 =>
        if b = true then te σ2 H3 fun y H4 => ∃ acc, H4 D = some (.lst acc) ∧ acc.length < sizeLine ∧ Nx (upd H4 D (.lst (acc ++ [y]))) else Nx H3) := by
  refine ⟨fun i m H => m = n - i ∧ i ≤ n ∧ Pv i H, ⟨n, by simp, Nat.zero_le _, h0⟩, ?_⟩
  rintro i m H ⟨rfl, hi, p⟩
  obtain ⟨qx, qy⟩ := hl i H p
  by_cases hlt : i < n
  · have hx : xs[i]? = some xs[i] := List.getElem?_eq_getElem (by omega)
    have hy : ys[i]? = some ys[i] := List.getElem?_eq_getElem (by omega)
    refine .inr ⟨⟨xs, ys, _, _, qx, qy, hx, hy⟩, Pv (i + 1), fun H' p' => ⟨n - (i + 1), by omega, rfl, hlt, p'⟩, fun v H' z => ?_⟩
    obtain ⟨T, x, y, rfl, hT, rfl, z1, z2⟩ := z
    exact hs i x y T H (z1 _ qx) (z2 _ qy) p hT
  · have e : i = n := by omega
    subst e
    exact .inl ⟨⟨xs, ys, qx, qy, by omega⟩, hd H p⟩
/-- all([test of a, b for a, b in zip(t, u)]) of tuples of data -/
theorem yb_allZT {ds es : List PyData} {p : PyData → PyData → Bool} {te t1 t2 : TE} {m1 m2 : Nat} (h1 : YV K t1 σ H (.tuple ds)) (h2 : YV K t2 σ H (.tuple es)) (hz : (ds.zip es).length ≤ 1000000) (hw : ∀ v1 v2, wipe (((wipe σ [m1, m2]).set m1 v1).set m2 v2) [m1, m2] = wipe σ [m1, m2])
    (hte : ∀ v1 v2 d1 d2 H', (d1, d2) ∈ ds.zip es → Same H H' → Dd K H' v1 d1 → Dd K H' v2 d2 → YB te (((wipe σ [m1, m2]).set m1 (some v1)).set m2 (some v2)) H' (p d1 d2)) :
    YB (tCB (rAll K) (tCons (tLc (iZipA K (tCons t1 (tCons t2 tNil))) (gTup K 2 (gCons (gName m1) (gCons (gName m2) gNil))) tYes te [m1, m2]) tNil)) σ H ((ds.zip es).all fun e => p e.1 e.2) := fun H1 Q s q => h1 H1 _ s fun v H2 s2 hd => h2 H2 _ (s.trans s2) fun u H3 s3 hu => by
  obtain ⟨a, xs, rfl, a0, a2⟩ := ofTup (hd.same s3)
  obtain ⟨b, ys, rfl, b0, b2⟩ := ofTup hu
  refine ⟨a, b, xs, ys, rfl, .inr ⟨a0.sq, b0.sq, fun D hD => ?_⟩⟩
  refine lc_zipT (xs := xs) (ys := ys) (ds.zip es).length (by rw [List.length_zip, dall_len a2, dall_len b2]) (fun i H' => Same H3 H' ∧ H' D = some (.lst ((((ds.zip es).map fun e => p e.1 e.2).take i).map V.bl))) ⟨same_up hD, upd_same⟩ (fun i H' e => ⟨SqT.same e.1 a0.sq, SqT.same e.1 b0.sq⟩) (fun i x y T H' hx hy e hT => ?_) (fun H1 e => ?_)
  · obtain ⟨d1, e1, g1⟩ := dall_at' a2 hx
    obtain ⟨d2, e2, g2⟩ := dall_at' b2 hy
    have ez : (ds.zip es)[i]? = some (d1, d2) := by
      rw [List.getElem?_zip_eq_some]
      exact ⟨e1, e2⟩
    have sT := same_up (o := .tup [x, y]) hT
    exact ⟨T, _, rfl, .inl (.inl upd_same), rfl, _, _, rfl, _, _, rfl, rfl, hw _ _, hte _ _ d1 d2 _ (List.mem_of_getElem? ez) (((s.trans s2).trans s3).trans (e.1.trans sT)) (g1.same (e.1.trans sT)) (g2.same (e.1.trans sT)) _ _ (Same.refl _) fun H5 s5 =>
      grow (by rw [List.getElem?_map, ez]; rfl) (by rw [List.length_map]; exact hz) hD ⟨e.1.trans sT, sT _ _ e.2⟩ s5⟩
  · rw [← List.length_map (f := fun e : PyData × PyData => p e.1 e.2)] at e
    exact fin_all e fun H4 s4 => by have z := q H4 ((s2.trans s3).trans s4); rw [allB]; exact z
/-- all([test of a, b for a, b in zip(t, u)]) of lists -/
theorem yb_allZL {xs ys : List V} {p : V → V → Bool} {te t1 t2 : TE} {m1 m2 : Nat} (h1 : YQ K t1 σ H xs) (h2 : YQ K t2 σ H ys) (hz : (xs.zip ys).length ≤ 1000000) (hw : ∀ v1 v2, wipe (((wipe σ [m1, m2]).set m1 v1).set m2 v2) [m1, m2] = wipe σ [m1, m2])
    (hte : ∀ v1 v2 H', (v1, v2) ∈ xs.zip ys → Same H H' → YB te (((wipe σ [m1, m2]).set m1 (some v1)).set m2 (some v2)) H' (p v1 v2)) :
    YB (tCB (rAll K) (tCons (tLc (iZip K (tCons t1 (tCons t2 tNil))) (gTup K 2 (gCons (gName m1) (gCons (gName m2) gNil))) tYes te [m1, m2]) tNil)) σ H ((xs.zip ys).all fun e => p e.1 e.2) := fun H1 Q s q => h1 H1 _ s fun a H2 s2 a0 => h2 H2 _ (s.trans s2) fun b H3 s3 b0 => by
  refine ⟨a, b, xs, ys, rfl, SqL.same s3 a0, b0, fun D hD => ?_⟩
  refine lc_zip (xs := xs) (ys := ys) (xs.zip ys).length (by rw [List.length_zip]) (fun i H' => Same H3 H' ∧ H' D = some (.lst ((((xs.zip ys).map fun e => p e.1 e.2).take i).map V.bl))) ⟨same_up hD, upd_same⟩ (fun i H' e => ⟨SqL.same (s3.trans e.1) a0, SqL.same e.1 b0⟩) (fun i x y T H' hx hy e hT => ?_) (fun H1 e => ?_)
  · have ez : (xs.zip ys)[i]? = some (x, y) := by
      rw [List.getElem?_zip_eq_some]
      exact ⟨hx, hy⟩
    have sT := same_up (o := .tup [x, y]) hT
    exact ⟨T, _, rfl, .inl (.inl upd_same), rfl, _, _, rfl, _, _, rfl, rfl, hw _ _, hte _ _ _ (List.mem_of_getElem? ez) (((s.trans s2).trans s3).trans (e.1.trans sT)) _ _ (Same.refl _) fun H5 s5 =>
      grow (by rw [List.getElem?_map, ez]; rfl) (by rw [List.length_map]; exact hz) hD ⟨e.1.trans sT, sT _ _ e.2⟩ s5⟩
  · rw [← List.length_map (f := fun e : V × V => p e.1 e.2)] at e
    exact fin_all e fun H4 s4 => by have z := q H4 ((s2.trans s3).trans s4); rw [allB]; exact z
/-- [f of one for one in tuple]: a list -/
theorem yq_lcT {ds : List PyData} {f : PyData → V} {te tp : TE} {m : Nat} (ha : YV K tp σ H (.tuple ds)) (hz : ds.length ≤ 1000000) (hw : ∀ v, wipe ((wipe σ [m]).set m v) [m] = wipe σ [m])
    (hte : ∀ v d H' (Q : VK), d ∈ ds → Same H H' → Dd K H' v d → (∀ H2, Same H' H2 → Q (f d) H2) → te ((wipe σ [m]).set m (some v)) H' Q) : YQ K (tLc (iTup K tp) (gName m) tYes te [m]) σ H (ds.map f) := fun H1 Q s q => ha H1 _ s fun v H2 s2 hd => by
  obtain ⟨a, xs, rfl, h0, h2⟩ := ofTup hd
  refine ⟨a, rfl, ⟨_, h0.sq⟩, fun D hD => ?_⟩
  refine lc_tup (xs := xs) (fun i H' => Same H2 H' ∧ H' D = some (.lst ((ds.map f).take i))) ⟨same_up hD, upd_same⟩ (fun i H' _ e => SqT.same e.1 h0.sq) (fun i x H' hx e => ?_) (fun H1 e => ?_)
  · obtain ⟨d, he, hdd⟩ := dall_at' h2 hx
    refine ⟨hw _, hte x d H' _ (List.mem_of_getElem? he) ((s.trans s2).trans e.1) (Dd.same e.1 hdd) fun H3 s3 => ⟨_, s3 _ _ e.2, ?_, ?_, ?_⟩⟩
    · have h1 : i < ds.length := (List.getElem?_eq_some_iff.mp he).1
      rw [List.length_take, List.length_map, sizeLine_eq]
      omega
    · intro c o z
      rw [upd_ne (ne_of_none z hD)]
      exact s3 _ _ (e.1 c o z)
    · rw [upd_same, List.take_add_one, List.getElem?_map, he]
      rfl
  · refine q D H1 (s2.trans e.1) (SqL.of ?_)
    rw [e.2, List.take_of_length_le (by rw [List.length_map, dall_len h2]; exact Nat.le_refl _)]
end
end Sm
namespace Sm
open PySem PySem.Spec PyProof.Rows L2 Tn Vd RZ
/-! ### the data of this law -/
def sgnOk (c : Nat) : Bool := decide (c = 10) || (decide (32 ≤ c) && decide (c ≤ 126) && !decide (c = 34) && !decide (c = 92))
mutual
def aOk : PyData → Bool
  | .str x => x.cps.toList.all sgnOk
  | .int i => decide (i.natAbs < 10 ^ 60)
  | .list ds => aOkL ds
  | .tuple ds => aOkL ds
  | .dict kvs => kvs.isEmpty
  | _ => true
def aOkL : List PyData → Bool
  | [] => true
  | d :: r => aOk d && aOkL r
end
mutual
def szD : PyData → Nat
  | .str x => 10 * x.length + 5
  | .int i => 70
  | .list ds => szL ds + 5
  | .tuple ds => szL ds + 5
  | _ => 6
def szL : List PyData → Nat
  | [] => 0
  | d :: r => szD d + 5 + szL r
end
def okD (d : PyData) : Bool := aOk d && decide (szD d ≤ 1000000)
theorem aOkL_mem : ∀ {ds : List PyData} {d : PyData}, aOkL ds = true → d ∈ ds → aOk d = true
  | x :: r, d, h, m => by
    unfold aOkL at h
    obtain ⟨h1, h2⟩ := Bool.and_eq_true_iff.mp h
    rcases List.mem_cons.mp m with rfl | m
    · exact h1
    · exact aOkL_mem h2 m
theorem aOkL_of : ∀ {ds : List PyData}, (∀ d ∈ ds, aOk d = true) → aOkL ds = true
  | [], _ => by unfold aOkL; rfl
  | x :: r, h => by
    unfold aOkL
    rw [h x List.mem_cons_self, aOkL_of fun d m => h d (List.mem_cons_of_mem _ m)]
    rfl
theorem szL_mem : ∀ {ds : List PyData} {d : PyData}, d ∈ ds → szD d + 5 ≤ szL ds
  | x :: r, d, m => by
    unfold szL
    rcases List.mem_cons.mp m with rfl | m
    · omega
    · have := szL_mem m
      omega
theorem szL_len : ∀ {ds : List PyData}, 5 * ds.length ≤ szL ds
  | [] => by unfold szL; exact Nat.le_refl _
  | x :: r => by
    unfold szL
    have := szL_len (ds := r)
    rw [List.length_cons]
    omega
theorem szL_app : ∀ {ds es : List PyData}, szL (ds ++ es) = szL ds + szL es
  | [], es => by
    rw [List.nil_append, show szL [] = 0 by unfold szL; rfl, Nat.zero_add]
  | x :: r, es => by
    have e : ∀ (y : PyData) (l : List PyData), szL (y :: l) = szD y + 5 + szL l := fun y l => by rw [szL]
    rw [List.cons_append, e, e, szL_app (ds := r)]
    omega
theorem ok_str {x : Str} (h : okD (.str x) = true) : x.length ≤ 1000000 := by
  have h2 := of_decide_eq_true (Bool.and_eq_true_iff.mp h).2
  unfold szD at h2
  omega
theorem ok_tup {ds : List PyData} (h : okD (.tuple ds) = true) : ds.length ≤ 1000000 ∧ ∀ d ∈ ds, okD d = true := by
  obtain ⟨h1, h2⟩ := Bool.and_eq_true_iff.mp h
  have h3 := of_decide_eq_true h2
  unfold szD at h3
  unfold aOk at h1
  refine ⟨by have := szL_len (ds := ds); omega, fun d m => ?_⟩
  unfold okD
  rw [aOkL_mem h1 m, Bool.true_and]
  have := szL_mem m
  exact decide_eq_true (by omega)
/-! ### what the looks tell -/
def rngB (l h c : Nat) : Bool := decide (l ≤ c) && decide (c ≤ h)
def sgn (l h : Nat) (x : Str) : Bool := x.cps.toList.all (rngB l h)
def intD (d : PyData) : Bool := isI d && !isB d
def intOf : PyData → Int
  | .int i => i
  | _ => 0
def numD (d : PyData) : Bool := intD d && decide (0 ≤ intOf d)
def smallD (d : PyData) : Bool := intD d && (decide (-100000000000000000000 < intOf d) && decide (intOf d < 100000000000000000000))
def lenS : PyData → Nat
  | .str x => x.length
  | _ => 0
def sgnD (l h : Nat) : PyData → Bool
  | .str x => sgn l h x
  | _ => false
def wordD (d : PyData) : Bool := isS d && (decide ((lenS d : Int) ≤ 20) && sgnD 32 126 d)
def worthD (d : PyData) : Bool := smallD d || wordD d
def nameD (d : PyData) : Bool := isS d && ((decide ((1 : Int) ≤ (lenS d : Int)) && decide ((lenS d : Int) ≤ 8)) && sgnD 97 122 d)
def partsD : PyData → List PyData
  | .tuple ds => ds
  | _ => []
def tupOfD (lo hi : Int) (d : PyData) : Bool := isT d && (decide (lo ≤ ((partsD d).length : Int)) && decide (((partsD d).length : Int) ≤ hi))
def sortD (d : PyData) : Bool := inS d ["number", "word"]
def sortsD (d : PyData) : Bool := tupOfD 1 5 d && (partsD d).all sortD
def lastD (d : PyData) : PyData := ((partsD d).getLast?).getD .none
def kindD (k s : PyData) : Bool := if numD k = true then decide (intOf k < ((partsD s).length : Int)) else (eqS k "bag" || (eqS k "sum" && eqS (lastD s) "number"))
def at_ (d : PyData) (i : Nat) : PyData := ((partsD d)[i]?).getD .none
def relD (d : PyData) : Bool := tupOfD 3 3 d && (nameD (at_ d 0) && (sortsD (at_ d 2) && kindD (at_ d 1) (at_ d 2)))
theorem intD_of {d : PyData} (h : intD d = true) : ∃ i, d = .int i := by
  cases d with
  | int i => exact ⟨i, rfl⟩
  | _ => cases h
theorem isS_of {d : PyData} (h : isS d = true) : ∃ i, d = .str i := by
  cases d with
  | str i => exact ⟨i, rfl⟩
  | _ => cases h
theorem isT_of {d : PyData} (h : isT d = true) : ∃ i, d = .tuple i := by
  cases d with
  | tuple i => exact ⟨i, rfl⟩
  | _ => cases h
theorem tupOf_of {lo hi : Int} {d : PyData} (h : tupOfD lo hi d = true) : ∃ ds, d = .tuple ds ∧ lo ≤ (ds.length : Int) ∧ (ds.length : Int) ≤ hi := by
  obtain ⟨h1, h2⟩ := Bool.and_eq_true_iff.mp h
  obtain ⟨ds, rfl⟩ := isT_of h1
  obtain ⟨h3, h4⟩ := Bool.and_eq_true_iff.mp h2
  exact ⟨ds, rfl, of_decide_eq_true h3, of_decide_eq_true h4⟩
theorem tup2 {d : PyData} (h : tupOfD 2 2 d = true) : ∃ x y, d = .tuple [x, y] := by
  obtain ⟨ds, rfl, h1, h2⟩ := tupOf_of h
  match ds, h1, h2 with
  | [x, y], _, _ => exact ⟨x, y, rfl⟩
  | [], h1, _ => exact absurd h1 (by simp)
  | [_], h1, _ => exact absurd h1 (by simp)
  | _ :: _ :: _ :: _, _, h2 =>
    simp only [List.length_cons] at h2
    omega
theorem tup3 {d : PyData} (h : tupOfD 3 3 d = true) : ∃ x y z, d = .tuple [x, y, z] := by
  obtain ⟨ds, rfl, h1, h2⟩ := tupOf_of h
  match ds, h1, h2 with
  | [x, y, z], _, _ => exact ⟨x, y, z, rfl⟩
  | [], h1, _ => exact absurd h1 (by simp)
  | [_], h1, _ => exact absurd h1 (by simp)
  | [_, _], h1, _ => exact absurd h1 (by simp)
  | _ :: _ :: _ :: _ :: _, _, h2 =>
    simp only [List.length_cons] at h2
    omega
theorem tup5 {d : PyData} (h : tupOfD 5 5 d = true) : ∃ x y z u v, d = .tuple [x, y, z, u, v] := by
  obtain ⟨ds, rfl, h1, h2⟩ := tupOf_of h
  match ds, h1, h2 with
  | [x, y, z, u, v], _, _ => exact ⟨x, y, z, u, v, rfl⟩
  | [], h1, _ => exact absurd h1 (by simp)
  | [_], h1, _ => exact absurd h1 (by simp)
  | [_, _], h1, _ => exact absurd h1 (by simp)
  | [_, _, _], h1, _ => exact absurd h1 (by simp)
  | [_, _, _, _], h1, _ => exact absurd h1 (by simp)
  | _ :: _ :: _ :: _ :: _ :: _ :: _, _, h2 =>
    simp only [List.length_cons] at h2
    omega
theorem dd_int {K : PySem.W.Frag} {H : Hp} {v : V} {i : Int} (h : Dd K H v (.int i)) : v = .int i := by
  cases h
  rfl
theorem dd_str {K : PySem.W.Frag} {H : Hp} {v : V} {i : Str} (h : Dd K H v (.str i)) : v = .str i := by
  cases h
  rfl
/-! ### signs -/
theorem lex1 (c d : Nat) : ([c] < [d]) = (c < d) := by
  simp [List.cons_lt_cons_iff]
theorem le1 {x : Str} {n c : Nat} (h : x.cps.toList = [n]) : (!decide ((⟨#[c]⟩ : Str).cps.toList < x.cps.toList)) = decide (n ≤ c) := by
  rw [h]
  show (!decide ([c] < [n])) = _
  rw [Bool.eq_iff_iff]
  simp [lex1]
theorem le2 {x : Str} {n c : Nat} (h : x.cps.toList = [n]) : (!decide (x.cps.toList < (⟨#[c]⟩ : Str).cps.toList)) = decide (c ≤ n) := by
  rw [h]
  show (!decide ([n] < [c])) = _
  rw [Bool.eq_iff_iff]
  simp [lex1]
def rLeS : R2 := fun x y H Q => ∃ i j, x = .str i ∧ y = .str j ∧ Q (.bl (!decide (j.cps.toList < i.cps.toList))) H
theorem yb_sgn {lo hi : Str} {l h j c : Nat} {σ : L2.St} {H : Hp} (el : lo.cps.toList = [l]) (eh : hi.cps.toList = [h]) (hσ : σ[j]? = some (some (.str ⟨#[c]⟩))) : YB (tChain rLeS rLeS (tC (.str lo)) (tVar j) (tC (.str hi))) σ H (rngB l h c) := fun H1 Q s q => by
  refine ⟨_, hσ, lo, ⟨#[c]⟩, rfl, rfl, _, rfl, ?_⟩
  rw [le1 el]
  have z := q H1 (Same.refl H1)
  refine tst (fun e => ⟨_, _, rfl, rfl, ?_⟩) fun e => ?_
  · rw [le2 eh]
    unfold rngB at z
    rw [e, Bool.true_and] at z
    exact z
  · unfold rngB at z
    rw [e, Bool.false_and] at z
    exact z
section
variable {P : Program} {w : World} {K : PySem.W.Frag} {mg : Str → Option Value} {base : Heap}
theorem hu_of {k : Nat} {A : Around} (hr : Room k A) : A.units + 2 < cLine := by
  have := hr.un
  omega
theorem hu_of64 {k : Nat} {A : Around} (hr : Room k A) : A.units + 64 < cLine := by
  have := hr.un
  omega
theorem hu_of1 {k : Nat} {A : Around} (hr : Room k A) : A.units + 1 < cLine := by
  have := hr.un
  omega
/-- a look at a thing -/
def spA (K : PySem.W.Frag) (g : PyData → Bool) : Sp := fun vs H Q _ => ∃ (v : V) (d : PyData), vs = [v] ∧ Dd K H v d ∧ okD d = true ∧ ∀ H', Same H H' → Q (.bl (g d)) H'
theorem spA_len {g : PyData → Bool} {x : Str} : ∀ vs H Q E, spA K g vs H Q E → vs.length = [x].length := fun vs H Q E h => by
  obtain ⟨v, d, rfl, _⟩ := h
  rfl
/-- a look at a thing with another one beside it -/
def spA2 (K : PySem.W.Frag) (f : PyData → PyData → Prop) (g : PyData → PyData → Bool) : Sp := fun vs H Q _ => ∃ (u v : V) (e d : PyData), vs = [u, v] ∧ Dd K H u e ∧ Dd K H v d ∧ okD d = true ∧ f e d ∧ ∀ H', Same H H' → Q (.bl (g e d)) H'
theorem spA2_len {f : PyData → PyData → Prop} {g : PyData → PyData → Bool} {x y : Str} : ∀ vs H Q E, spA2 K f g vs H Q E → vs.length = [x, y].length := fun vs H Q E h => by
  obtain ⟨u, v, e, d, rfl, _⟩ := h
  rfl
/-- what the module's names stand for -/
structure Nm (mg : Str → Option Value) : Prop where
  isinstance : mg "isinstance" = none
  int : mg "int" = none
  bool : mg "bool" = none
  tuple : mg "tuple" = none
  list : mg "list" = none
  str : mg "str" = none
  len : mg "len" = none
  all : mg "all" = none
  zip : mg "zip" = none
  range : mg "range" = none
  abs : mg "abs" = none
  dict : mg "dict" = none
  sorted : mg "sorted" = none
  repr : mg "repr" = none
  LONGEST_WORD : ∃ t, mg "LONGEST_WORD" = some (.int 20 t)
  LONGEST_NAME : ∃ t, mg "LONGEST_NAME" = some (.int 8 t)
  TOO_GREAT : ∃ t, mg "TOO_GREAT" = some (.int 100000000000000000000 t)
  VARIABLES : ∃ t, mg "VARIABLES" = some (.int 20 t)
  LAST_LIFE : ∃ t, mg "LAST_LIFE" = some (.int 999 t)
abbrev DA (P : Program) (w : World) (K : PySem.W.Frag) (mg : Str → Option Value) (base : Heap) (x : Str) (k : Nat) (g : PyData → Bool) : Prop := Df P w K mg base x k ["thing"] (spA K g)
theorem yb_da {g : PyData → Bool} {ta : TE} {σ : L2.St} {H : Hp} {d : PyData} (ha : YV K ta σ H d) (ok : okD d = true) : YB (tCall (spA K g) [] E0 (tCons ta tNil)) σ H (g d) := fun H1 Q s q => ha H1 _ s fun v H2 s2 hd => ⟨v, d, rfl, hd, ok, fun H3 s3 => q H3 (s2.trans s3)⟩
theorem yb_da2 {f : PyData → PyData → Prop} {g : PyData → PyData → Bool} {ta tb : TE} {σ : L2.St} {H : Hp} {d e : PyData} (ha : YV K ta σ H e) (hb : YV K tb σ H d) (ok : okD d = true) (hf : f e d) : YB (tCall (spA2 K f g) [] E0 (tCons ta (tCons tb tNil))) σ H (g e d) := fun H1 Q s q => ha H1 _ s fun u H2 s2 hu => hb H2 _ (s.trans s2) fun v H3 s3 hd =>
  ⟨u, v, e, d, rfl, hu.same s3, hd, ok, hf, fun H4 s4 => q H4 ((s2.trans s3).trans s4)⟩
def spTupOf (K : PySem.W.Frag) : Sp := fun vs H Q _ => ∃ (v : V) (d : PyData) (lo hi : Int), vs = [v, .int lo, .int hi] ∧ Dd K H v d ∧ ∀ H', Same H H' → Q (.bl (tupOfD lo hi d)) H'
abbrev DTup (P : Program) (w : World) (K : PySem.W.Frag) (mg : Str → Option Value) (base : Heap) : Prop := Df P w K mg base "is_tuple_of" 1 ["thing", "least", "most"] (spTupOf K)
theorem yb_tup {ta tb tc : TE} {σ : L2.St} {H : Hp} {d : PyData} {lo hi : Int} (ha : YV K ta σ H d) (hb : YN tb σ H lo) (hc : YN tc σ H hi) : YB (tCall (spTupOf K) [] E0 (tCons ta (tCons tb (tCons tc tNil)))) σ H (tupOfD lo hi d) := fun H1 Q s q => ha H1 _ s fun v H2 s2 hd => hb H2 _ (s.trans s2) fun H3 s3 => hc H3 _ ((s.trans s2).trans s3) fun H4 s4 =>
  ⟨v, d, lo, hi, rfl, hd.same (s3.trans s4), fun H5 s5 => q H5 (((s2.trans s3).trans s4).trans s5)⟩
/-! ### the program's looks -/
abbrev sInteger : Stmt := top 17
abbrev sNumber : Stmt := top 18
abbrev sSmall : Stmt := top 19
abbrev sWord : Stmt := top 20
abbrev sWorth : Stmt := top 21
abbrev sName : Stmt := top 22
abbrev sTupleOf : Stmt := top 23
abbrev sRising : Stmt := top 24
abbrev sSchema : Stmt := top 26
abbrev sRelation : Stmt := top 27
abbrev sSorts : Stmt := top 28
abbrev sKind : Stmt := top 29
theorem scInteger : FnScope ["thing"] ["thing"] (defScope sInteger) := ⟨rfl, rfl, rfl, by decide +kernel, rfl, by decide +kernel, by decide +kernel⟩
theorem ok_integer {f : Addr} {fd : FuncData} (F : FnP K "is_integer" sInteger f fd) (M : Nm mg) : FnOk P w K mg base CX0 1 f fd ["thing"] (spA K intD) := by
  refine F.ok scInteger spA_len (fun cdv A outer s H vs Q E hr h => ?_)
  obtain ⟨v, d, rfl, hd, _, q⟩ := h
  refine ⟨_, PSs.nox (pss_one (ps_ret (pe_and (pe_callB (id := "isinstance") (r := rIsi K) call_isi (by rfl) M.isinstance (by decide +kernel) (pa_cons (pv 0) (pa_cons (ty_cls (n := "int") M.int (by rfl) (by decide +kernel)) pa_nil))) (pe_one (pe_not (pe_callB (id := "isinstance") (r := rIsi K) call_isi (by rfl) M.isinstance (by decide +kernel) (pa_cons (pv 0) (pa_cons (ty_cls (n := "bool") M.bool (by rfl) (by decide +kernel)) pa_nil)))))))), ?_⟩
  exact rb_ret (yb_and (yb_isi (yv_var rfl hd) (kI d)) fun _ => yb_not (yb_isi (yv_var rfl hd) (kB d))) H _ (Same.refl H) q
theorem scNumber : FnScope ["thing"] ["thing"] (defScope sNumber) := ⟨rfl, rfl, rfl, by decide +kernel, rfl, by decide +kernel, by decide +kernel⟩
theorem ok_number {f : Addr} {fd : FuncData} (F : FnP K "is_number" sNumber f fd) (DI : DA P w K mg base "is_integer" 1 intD) : FnOk P w K mg base CX0 2 f fd ["thing"] (spA K numD) := by
  refine F.ok scNumber spA_len (fun cdv A outer s H vs Q E hr h => ?_)
  obtain ⟨v, d, rfl, hd, ok, q⟩ := h
  refine ⟨_, PSs.nox (pss_one (ps_ret (pe_and (pe_df DI hr (by decide) (pa_cons (pv 0) pa_nil)) (pe_one (pe_cmpR op_ge (pv 0) pe_int (nomark _)))))), ?_⟩
  refine rb_ret (yb_and (yb_da (yv_var rfl hd) ok) fun e => ?_) H _ (Same.refl H) q
  obtain ⟨i, rfl⟩ := intD_of e
  exact yb_op (fun _ _ q => ⟨_, _, rfl, rfl, q⟩) (yn_v (yv_var rfl hd)) yn_c
theorem scSmall : FnScope ["thing"] ["thing"] (defScope sSmall) := ⟨rfl, rfl, rfl, by decide +kernel, rfl, by decide +kernel, by decide +kernel⟩
theorem ok_small {f : Addr} {fd : FuncData} (F : FnP K "is_small_integer" sSmall f fd) (M : Nm mg) (DI : DA P w K mg base "is_integer" 1 intD) : FnOk P w K mg base CX0 2 f fd ["thing"] (spA K smallD) := by
  refine F.ok scSmall spA_len (fun cdv A outer s H vs Q E hr h => ?_)
  obtain ⟨v, d, rfl, hd, ok, q⟩ := h
  refine ⟨_, PSs.nox (pss_one (ps_ret (pe_and (pe_df DI hr (by decide) (pa_cons (pv 0) pa_nil)) (pe_one (pe_chain op_lt op_lt (pe_un un_neg (pe_glob (v := .int 100000000000000000000) (by rfl) (M.TOO_GREAT).choose_spec ⟨_, rfl⟩)) (pv 0) (pe_glob (v := .int 100000000000000000000) (by rfl) (M.TOO_GREAT).choose_spec ⟨_, rfl⟩)))))), ?_⟩
  refine rb_ret (yb_and (yb_da (yv_var rfl hd) ok) fun e => ?_) H _ (Same.refl H) q
  obtain ⟨i, rfl⟩ := intD_of e
  exact yb_chain (fun _ _ q => ⟨_, _, rfl, rfl, q⟩) (fun _ _ q => ⟨_, _, rfl, rfl, q⟩) (yn_neg (fun _ _ q => ⟨_, rfl, q⟩) yn_c) (yn_v (yv_var rfl hd)) yn_c
theorem scWord : FnScope ["thing", "sign"] ["thing"] (defScope sWord) := ⟨rfl, rfl, rfl, by decide +kernel, rfl, by decide +kernel, by decide +kernel⟩
theorem size6 : sizeLine = 16777216 := sizeLine_eq
theorem ok_word {f : Addr} {fd : FuncData} (F : FnP K "is_word" sWord f fd) (M : Nm mg) : FnOk P w K mg base CX0 1 f fd ["thing"] (spA K wordD) := by
  refine F.ok scWord spA_len (fun cdv A outer s H vs Q E hr h => ?_)
  obtain ⟨v, d, rfl, hd, ok, q⟩ := h
  refine ⟨_, PSs.nox (pss_cons (ps_if (PW.pt (pw_or (pt_not (pt_val (pe_callB (id := "isinstance") (r := rIsi K) call_isi (by rfl) M.isinstance (by decide +kernel) (pa_cons (pv 0) (pa_cons (ty_cls (n := "str") M.str (by rfl) (by decide +kernel)) pa_nil))))) (pw_or1 (pt_cmpR op_gt (pe_callB call_len_str (by rfl) M.len PySem.boot_len (pa_cons (pv 0) pa_nil)) (pe_glob (v := .int 20) (by rfl) (M.LONGEST_WORD).choose_spec ⟨_, rfl⟩) (nomark _))))) (pss_one (ps_ret pe_bl)) pss_nil)
      (pss_one (ps_ret (pe_callB (r := rAll K) (cr_all rfl) (by rfl) M.all (by decide +kernel) (pa_cons (pe_lc (own := [("sign", 1)]) (g := gName 1) (tt := tYes) (by rfl) scWord.nd (pi_str (pv 0)) (blkOk_by (N := ["thing", "sign"]) (sc := defScope sWord) (by decide +kernel)) (fun _ _ _ _ _ => pg_name (i := 1) scWord.nd rfl (Or.inl rfl)) (fun _ _ _ _ _ => pts_nil) (fun _ _ _ _ _ => (pe_chain (r := rLeS) (r' := rLeS) op_le_str op_le_str pe_str (pv 1) pe_str))) pa_nil))))), ?_⟩
  refine rb_if (c := !isS d || !decide ((lenS d : Int) ≤ 20)) (yt_or (yt_not (yt_b (yb_isi (yv_var rfl hd) (kS d)))) fun e => ?_) (fun e => yb_eq yb_c ?_) (fun e => rb_ret ?_) H _ (Same.refl H) q
  · obtain ⟨x, rfl⟩ := isS_of (show isS d = true by simpa using e)
    have hz := ok_str ok
    exact yt_t (yb_eq (yb_op (fun _ _ q => ⟨_, _, rfl, rfl, q⟩) (yn_lenS (ys_v (yv_var rfl hd)) (by rw [size6]; omega)) yn_c) (by show decide _ = !decide _; rw [← decide_not]; exact decide_eq_decide.mpr (by show (20 : Int) < (x.length : Int) ↔ ¬ ((x.length : Int) ≤ 20); omega)))
  · unfold wordD
    cases h1 : isS d <;> cases h2 : decide ((lenS d : Int) ≤ 20) <;> simp [h1, h2] at e ⊢
  · obtain ⟨e1, e2⟩ : isS d = true ∧ decide ((lenS d : Int) ≤ 20) = true := by
      cases h1 : isS d <;> cases h2 : decide ((lenS d : Int) ≤ 20) <;> simp [h1, h2] at e ⊢
    obtain ⟨x, rfl⟩ := isS_of e1
    refine yb_eq (yb_allS (p := rngB 32 126) (ys_v (yv_var rfl hd)) (ok_str ok) (fun _ => rfl) fun c H' s => yb_sgn (by decide) (by decide) rfl) ?_
    unfold wordD
    rw [e1, e2]
    rfl
theorem scWorth : FnScope ["thing"] ["thing"] (defScope sWorth) := ⟨rfl, rfl, rfl, by decide +kernel, rfl, by decide +kernel, by decide +kernel⟩
theorem ok_worth {f : Addr} {fd : FuncData} (F : FnP K "is_worth" sWorth f fd) (DI : DA P w K mg base "is_small_integer" 2 smallD) (DW : DA P w K mg base "is_word" 1 wordD) : FnOk P w K mg base CX0 3 f fd ["thing"] (spA K worthD) := by
  refine F.ok scWorth spA_len (fun cdv A outer s H vs Q E hr h => ?_)
  obtain ⟨v, d, rfl, hd, ok, q⟩ := h
  refine ⟨_, PSs.nox (pss_one (ps_ret (pe_or (pe_df DI hr (by decide) (pa_cons (pv 0) pa_nil)) (pe_one (pe_df DW hr (by decide) (pa_cons (pv 0) pa_nil)))))), ?_⟩
  exact rb_ret (yb_or (yb_da (yv_var rfl hd) ok) fun _ => yb_da (yv_var rfl hd) ok) H _ (Same.refl H) q
theorem scName : FnScope ["thing", "sign"] ["thing"] (defScope sName) := ⟨rfl, rfl, rfl, by decide +kernel, rfl, by decide +kernel, by decide +kernel⟩
theorem ok_name {f : Addr} {fd : FuncData} (F : FnP K "is_name" sName f fd) (M : Nm mg) : FnOk P w K mg base CX0 1 f fd ["thing"] (spA K nameD) := by
  refine F.ok scName spA_len (fun cdv A outer s H vs Q E hr h => ?_)
  obtain ⟨v, d, rfl, hd, ok, q⟩ := h
  refine ⟨_, PSs.nox (pss_cons (ps_if (PW.pt (pw_or (pt_not (pt_val (pe_callB (id := "isinstance") (r := rIsi K) call_isi (by rfl) M.isinstance (by decide +kernel) (pa_cons (pv 0) (pa_cons (ty_cls (n := "str") M.str (by rfl) (by decide +kernel)) pa_nil))))) (pw_or1 (pt_not (pt_chain op_le op_le pe_int (pe_callB call_len_str (by rfl) M.len PySem.boot_len (pa_cons (pv 0) pa_nil)) (pe_glob (v := .int 8) (by rfl) (M.LONGEST_NAME).choose_spec ⟨_, rfl⟩)))))) (pss_one (ps_ret pe_bl)) pss_nil)
      (pss_one (ps_ret (pe_callB (r := rAll K) (cr_all rfl) (by rfl) M.all (by decide +kernel) (pa_cons (pe_lc (own := [("sign", 1)]) (g := gName 1) (tt := tYes) (by rfl) scName.nd (pi_str (pv 0)) (blkOk_by (N := ["thing", "sign"]) (sc := defScope sName) (by decide +kernel)) (fun _ _ _ _ _ => pg_name (i := 1) scName.nd rfl (Or.inl rfl)) (fun _ _ _ _ _ => pts_nil) (fun _ _ _ _ _ => (pe_chain (r := rLeS) (r' := rLeS) op_le_str op_le_str pe_str (pv 1) pe_str))) pa_nil))))), ?_⟩
  refine rb_if (c := !isS d || !(decide ((1 : Int) ≤ (lenS d : Int)) && decide ((lenS d : Int) ≤ 8))) (yt_or (yt_not (yt_b (yb_isi (yv_var rfl hd) (kS d)))) fun e => ?_) (fun e => yb_eq yb_c ?_) (fun e => rb_ret ?_) H _ (Same.refl H) q
  · obtain ⟨x, rfl⟩ := isS_of (show isS d = true by simpa using e)
    have hz := ok_str ok
    exact yt_not (yt_t (yb_chain (fun _ _ q => ⟨_, _, rfl, rfl, q⟩) (fun _ _ q => ⟨_, _, rfl, rfl, q⟩) yn_c (yn_lenS (ys_v (yv_var rfl hd)) (by rw [size6]; omega)) yn_c))
  · unfold nameD
    generalize (decide ((1 : Int) ≤ (lenS d : Int)) && decide ((lenS d : Int) ≤ 8)) = z at e ⊢
    cases h1 : isS d <;> cases z <;> simp [h1] at e ⊢
  · obtain ⟨e1, e2⟩ : isS d = true ∧ (decide ((1 : Int) ≤ (lenS d : Int)) && decide ((lenS d : Int) ≤ 8)) = true := by
      generalize (decide ((1 : Int) ≤ (lenS d : Int)) && decide ((lenS d : Int) ≤ 8)) = z at e ⊢
      cases h1 : isS d <;> cases z <;> simp [h1] at e ⊢
    obtain ⟨x, rfl⟩ := isS_of e1
    refine yb_eq (yb_allS (p := rngB 97 122) (ys_v (yv_var rfl hd)) (ok_str ok) (fun _ => rfl) fun c H' s => yb_sgn (by decide) (by decide) rfl) ?_
    unfold nameD
    rw [e1, e2]
    rfl
theorem scTupleOf : FnScope ["thing", "least", "most"] ["thing", "least", "most"] (defScope sTupleOf) := ⟨rfl, rfl, rfl, by decide +kernel, rfl, by decide +kernel, by decide +kernel⟩
theorem ok_tupleOf {f : Addr} {fd : FuncData} (F : FnP K "is_tuple_of" sTupleOf f fd) (M : Nm mg) : FnOk P w K mg base CX0 1 f fd ["thing", "least", "most"] (spTupOf K) := by
  refine F.ok scTupleOf (fun vs H Q E h => ?_) (fun cdv A outer s H vs Q E hr h => ?_)
  · obtain ⟨v, d, lo, hi, rfl, _⟩ := h
    rfl
  obtain ⟨v, d, lo, hi, rfl, hd, q⟩ := h
  refine ⟨_, PSs.nox (pss_one (ps_ret (pe_and (pe_callB (id := "isinstance") (r := rIsi K) call_isi (by rfl) M.isinstance (by decide +kernel) (pa_cons (pv 0) (pa_cons (ty_cls (n := "tuple") M.tuple (by rfl) (by decide +kernel)) pa_nil))) (pe_one (pe_chain op_le op_le (pv 1) (pe_callB call_len_seq (by rfl) M.len PySem.boot_len (pa_cons (pv 0) pa_nil)) (pv 2)))))), ?_⟩
  refine rb_ret (yb_and (yb_isi (yv_var rfl hd) (kT d)) fun e => ?_) H _ (Same.refl H) q
  obtain ⟨ds, rfl⟩ := isT_of e
  exact yb_chain (fun _ _ q => ⟨_, _, rfl, rfl, q⟩) (fun _ _ q => ⟨_, _, rfl, rfl, q⟩) (yn_var rfl) (yn_lenT (yv_var rfl hd)) (yn_var rfl)
end
end Sm
/-! What a shown thing is, it tells: repr of this law's data is one to one. -/
namespace Sm
open PySem PySem.Spec PyProof.Rows L2 Tn Vd
def SC (d : PyData) : List Nat := d.shown.cps.toList
def delC (c : Nat) : Bool := decide (c = 44) || decide (c = 93) || decide (c = 41)
def delim (s : List Nat) : Prop := ∀ c r, s = c :: r → delC c = true
theorem atom_inj : ∀ {A B s t : List Nat}, (∀ x ∈ A, delC x = false) → (∀ x ∈ B, delC x = false) → delim s → delim t → A ++ s = B ++ t → A = B ∧ s = t
  | [], [], _, _, _, _, _, _, h => ⟨rfl, h⟩
  | [], b :: B, s, t, _, hB, hs, _, h => by
    have h1 := hs b (B ++ t) h
    rw [hB b List.mem_cons_self] at h1
    cases h1
  | a :: A, [], s, t, hA, _, _, ht, h => by
    have h1 := ht a (A ++ s) h.symm
    rw [hA a List.mem_cons_self] at h1
    cases h1
  | a :: A, b :: B, s, t, hA, hB, hs, ht, h => by
    injection h with h1 h2
    obtain ⟨h3, h4⟩ := atom_inj (fun x m => hA x (List.mem_cons_of_mem _ m)) (fun x m => hB x (List.mem_cons_of_mem _ m)) hs ht h2
    rw [h1, h3]
    exact ⟨rfl, h4⟩
/-! ### whole numbers -/
def digs (m : Nat) : List Nat := (Nat.toDigits 10 m).map Char.toNat
theorem digs_inj {m n : Nat} (h : digs m = digs n) : m = n := by
  have h1 := PySem.W.KIN.val_back m
  have h2 := PySem.W.KIN.val_back n
  unfold digs at h
  rw [h] at h1
  rw [← h1, h2]
theorem digs_range {m c : Nat} (h : c ∈ digs m) : 48 ≤ c ∧ c ≤ 57 := by
  obtain ⟨ch, hch, e⟩ := List.mem_map.mp h
  have r := digit_range (Nat.isDigit_of_mem_toDigits (by decide) (by decide) hch)
  rw [← e]
  exact r
theorem digs_ne (m : Nat) : digs m ≠ [] := fun h => by
  have h2 := congrArg List.length h
  unfold digs at h2
  rw [List.length_map] at h2
  have := Nat.length_toDigits_pos (b := 10) (n := m)
  simp at h2
theorem sc_int (i : Int) : SC (.int i) = if 0 ≤ i then digs i.natAbs else 45 :: digs i.natAbs := by
  unfold SC
  rw [PyData.shown_int, signs_ofString, Int.toString_eq_repr, Int.repr_eq_if]
  by_cases h : 0 ≤ i
  · rw [if_pos h, if_pos h, Nat.toList_repr]
    unfold digs
    rw [show i.toNat = i.natAbs by omega]
  · rw [if_neg h, if_neg h, String.toList_append, List.map_append, Nat.toList_repr]
    unfold digs
    rw [show (-i).toNat = i.natAbs by omega]
    rfl
theorem int_inj {i j : Int} (h : SC (.int i) = SC (.int j)) : i = j := by
  rw [sc_int, sc_int] at h
  by_cases h1 : 0 ≤ i <;> by_cases h2 : 0 ≤ j
  · rw [if_pos h1, if_pos h2] at h
    have := digs_inj h
    omega
  · rw [if_pos h1, if_neg h2] at h
    have := digs_range (m := i.natAbs) (c := 45) (by rw [h]; exact List.mem_cons_self)
    omega
  · rw [if_neg h1, if_pos h2] at h
    have := digs_range (m := j.natAbs) (c := 45) (by rw [← h]; exact List.mem_cons_self)
    omega
  · rw [if_neg h1, if_neg h2] at h
    injection h with _ h
    have := digs_inj h
    omega
theorem int_del {i : Int} {x : Nat} (h : x ∈ SC (.int i)) : delC x = false := by
  rw [sc_int] at h
  have key : x = 45 ∨ (48 ≤ x ∧ x ≤ 57) := by
    by_cases h1 : 0 ≤ i
    · rw [if_pos h1] at h
      exact .inr (digs_range h)
    · rw [if_neg h1] at h
      rcases List.mem_cons.mp h with h | h
      · exact .inl h
      · exact .inr (digs_range h)
  unfold delC
  rw [decide_eq_false (by omega), decide_eq_false (by omega), decide_eq_false (by omega)]
  rfl
/-! ### texts -/
def enc (c : Nat) : List Nat := if c = 10 then [92, 110] else [c]
theorem reprChar_enc {q c : Nat} (hq : q = 34 ∨ q = 39) (hc : sgnOk c = true) (hn : c ≠ q) : PySem.Builtin.Str.reprChar q c = enc c := by
  have hlt : c < 127 := by
    unfold sgnOk at hc
    simp at hc
    omega
  have key : ∀ q ∈ [34, 39], ∀ c ∈ List.range 127, sgnOk c = true → c ≠ q → PySem.Builtin.Str.reprChar q c = enc c := by decide +kernel
  exact key q (by rcases hq with rfl | rfl <;> simp) c (List.mem_range.mpr hlt) hc hn
theorem foldl_flat (q : Nat) : ∀ (l : List Nat) (acc : Array Nat), (l.foldl (fun out c => out ++ (PySem.Builtin.Str.reprChar q c).toArray) acc).toList = acc.toList ++ l.flatMap (PySem.Builtin.Str.reprChar q)
  | [], acc => by simp
  | c :: r, acc => by
    rw [List.foldl_cons, foldl_flat q r, List.flatMap_cons]
    simp
theorem sc_str (x : Str) : SC (.str x) = PySem.reprQuote x :: (x.cps.toList.flatMap (PySem.Builtin.Str.reprChar (PySem.reprQuote x)) ++ [PySem.reprQuote x]) := by
  unfold SC
  show (reprText x).cps.toList = _
  unfold reprText
  show ((x.cps.foldl (fun out c => out ++ (PySem.Builtin.Str.reprChar (reprQuote x) c).toArray) #[reprQuote x]).push (reprQuote x)).toList = _
  rw [Array.toList_push, ← Array.foldl_toList, foldl_flat]
  rfl
theorem sgnOk_ne {c : Nat} (h : sgnOk c = true) : c ≠ 34 ∧ c ≠ 92 := by
  unfold sgnOk at h
  simp at h
  omega
theorem quote_of (x : Str) (h : x.cps.toList.all sgnOk = true) : (PySem.reprQuote x = 34 ∨ PySem.reprQuote x = 39) ∧ ∀ c ∈ x.cps.toList, c ≠ PySem.reprQuote x := by
  have h34 : x.cps.contains 34 = false := by
    cases e : x.cps.contains 34 with
    | false => rfl
    | true =>
      have m : (34 : Nat) ∈ x.cps.toList := by simpa using Array.contains_iff.mp e
      exact absurd rfl (sgnOk_ne (List.all_eq_true.mp h 34 m)).1
  unfold PySem.reprQuote
  rw [h34]
  cases e : x.cps.contains 39 with
  | true => exact ⟨.inl rfl, fun c m => (sgnOk_ne (List.all_eq_true.mp h c m)).1⟩
  | false =>
    refine ⟨.inr rfl, fun c m z => ?_⟩
    have z2 : c = 39 := z
    subst z2
    have e2 : x.cps.contains 39 = true := Array.contains_iff.mpr (by simpa using m)
    rw [e] at e2
    cases e2
theorem flat_enc {q : Nat} (hq : q = 34 ∨ q = 39) : ∀ {l : List Nat}, (∀ c ∈ l, sgnOk c = true ∧ c ≠ q) → l.flatMap (PySem.Builtin.Str.reprChar q) = l.flatMap enc
  | [], _ => rfl
  | c :: r, h => by
    rw [List.flatMap_cons, List.flatMap_cons, reprChar_enc hq (h c List.mem_cons_self).1 (h c List.mem_cons_self).2, flat_enc hq fun d m => h d (List.mem_cons_of_mem _ m)]
theorem enc_inj {q : Nat} (hq : q = 34 ∨ q = 39) : ∀ {A B s t : List Nat}, (∀ c ∈ A, sgnOk c = true ∧ c ≠ q) → (∀ c ∈ B, sgnOk c = true ∧ c ≠ q) → A.flatMap enc ++ q :: s = B.flatMap enc ++ q :: t → A = B ∧ s = t
  | [], [], _, _, _, _, h => by
    injection h with _ h
    exact ⟨rfl, h⟩
  | [], b :: B, s, t, _, hB, h => by
    exfalso
    obtain ⟨h1, h2⟩ := hB b List.mem_cons_self
    rw [List.flatMap_cons] at h
    unfold enc at h
    by_cases e : b = 10
    · rw [if_pos e] at h
      injection h with h _
      omega
    · rw [if_neg e] at h
      injection h with h _
      exact h2 h.symm
  | a :: A, [], s, t, hA, _, h => by
    exfalso
    obtain ⟨h1, h2⟩ := hA a List.mem_cons_self
    rw [List.flatMap_cons] at h
    unfold enc at h
    by_cases e : a = 10
    · rw [if_pos e] at h
      injection h with h _
      omega
    · rw [if_neg e] at h
      injection h with h _
      exact h2 h
  | a :: A, b :: B, s, t, hA, hB, h => by
    obtain ⟨a1, a2⟩ := hA a List.mem_cons_self
    obtain ⟨b1, b2⟩ := hB b List.mem_cons_self
    have rec' := fun z => enc_inj hq (A := A) (B := B) (s := s) (t := t) (fun x m => hA x (List.mem_cons_of_mem _ m)) (fun x m => hB x (List.mem_cons_of_mem _ m)) z
    rw [List.flatMap_cons, List.flatMap_cons, List.append_assoc, List.append_assoc] at h
    by_cases e : a = 10 <;> by_cases e2 : b = 10
    · rw [show enc a = [92, 110] from if_pos e, show enc b = [92, 110] from if_pos e2] at h
      injection h with _ h
      injection h with _ h
      obtain ⟨h3, h4⟩ := rec' h
      rw [e, e2, h3]
      exact ⟨rfl, h4⟩
    · rw [show enc a = [92, 110] from if_pos e, show enc b = [b] from if_neg e2] at h
      injection h with h _
      exact absurd h.symm (sgnOk_ne b1).2
    · rw [show enc a = [a] from if_neg e, show enc b = [92, 110] from if_pos e2] at h
      injection h with h _
      exact absurd h (sgnOk_ne a1).2
    · rw [show enc a = [a] from if_neg e, show enc b = [b] from if_neg e2] at h
      injection h with h0 h
      obtain ⟨h3, h4⟩ := rec' h
      rw [h0, h3]
      exact ⟨rfl, h4⟩
theorem str_inj {x y : Str} {s t : List Nat} (hx : x.cps.toList.all sgnOk = true) (hy : y.cps.toList.all sgnOk = true) (h : SC (.str x) ++ s = SC (.str y) ++ t) : x = y ∧ s = t := by
  obtain ⟨q1, n1⟩ := quote_of x hx
  obtain ⟨q2, n2⟩ := quote_of y hy
  rw [sc_str, sc_str, flat_enc q1 fun c m => ⟨List.all_eq_true.mp hx c m, n1 c m⟩, flat_enc q2 fun c m => ⟨List.all_eq_true.mp hy c m, n2 c m⟩] at h
  injection h with h0 h
  rw [← h0] at h n2
  simp only [List.append_eq, List.append_assoc, List.singleton_append] at h
  obtain ⟨h3, h4⟩ := enc_inj q1 (fun c m => ⟨List.all_eq_true.mp hx c m, n1 c m⟩) (fun c m => ⟨List.all_eq_true.mp hy c m, n2 c m⟩) h
  refine ⟨?_, h4⟩
  cases x
  cases y
  exact congrArg _ (Array.toList_inj.mp h3)
/-! ### lists and tuples -/
def restC (c : Nat) (ts : List Str) : List Nat := ts.flatMap (fun t => 44 :: 32 :: t.cps.toList) ++ [c]
theorem comma : ((", " : String) : Str).cps.toList = [44, 32] := by decide +kernel
theorem textFrom_cps : ∀ (ts : List Str) (k : Nat) (acc : Str), (textFrom (k + 1) acc ts).cps.toList = acc.cps.toList ++ ts.flatMap fun t => 44 :: 32 :: t.cps.toList
  | [], k, acc => by
    show acc.cps.toList = _
    simp
  | t :: r, k, acc => by
    show (textFrom (k + 1 + 1) (acc ++ (if k + 1 > 0 then ", " else "" : String) ++ t) r).cps.toList = _
    rw [textFrom_cps r (k + 1), if_pos (Nat.succ_pos k), cps_toList_append, cps_toList_append, comma, List.flatMap_cons]
    simp
theorem listText_nil' : (listText []).cps.toList = [91, 93] := by decide +kernel
theorem listText_cons (t : Str) (r : List Str) : (listText (t :: r)).cps.toList = 91 :: (t.cps.toList ++ restC 93 r) := by
  unfold listText restC
  show (textFrom (0 + 1) (("[" : Str) ++ (if 0 > 0 then ", " else "" : String) ++ t) r ++ "]").cps.toList = _
  rw [cps_toList_append, textFrom_cps, cps_toList_append, cps_toList_append]
  show (([91] ++ []) ++ t.cps.toList ++ _) ++ [93] = _
  simp
theorem join_cps : ∀ (t : Str) (r : List Str), (Str.join ", " (t :: r)).cps.toList = t.cps.toList ++ r.flatMap fun t => 44 :: 32 :: t.cps.toList
  | t, [] => by
    show t.cps.toList = _
    simp
  | t, u :: r => by
    show (t ++ ", " ++ Str.join ", " (u :: r)).cps.toList = _
    rw [cps_toList_append, cps_toList_append, join_cps u r, comma, List.flatMap_cons]
    simp
theorem tupleText_nil' : (tupleText []).cps.toList = [40, 41] := by decide +kernel
theorem tupleText_one (t : Str) : (tupleText [t]).cps.toList = 40 :: (t.cps.toList ++ [44, 41]) := by
  unfold tupleText
  rw [cps_toList_append, cps_toList_append, join_cps]
  show [40] ++ (t.cps.toList ++ []) ++ [44, 41] = _
  simp
theorem tupleText_more (t u : Str) (r : List Str) : (tupleText (t :: u :: r)).cps.toList = 40 :: (t.cps.toList ++ restC 41 (u :: r)) := by
  unfold tupleText restC
  rw [cps_toList_append, cps_toList_append, join_cps, if_neg (by simp)]
  show [40] ++ _ ++ [41] = _
  simp
/-- what the first sign tells -/
def kindOf : PyData → Nat
  | .none => 0
  | .bool _ => 1
  | .int _ => 2
  | .str _ => 3
  | .list _ => 4
  | .tuple _ => 5
  | .dict _ => 6
def kindC (c : Nat) : Nat := if c = 78 then 0 else if c = 84 ∨ c = 70 then 1 else if c = 34 ∨ c = 39 then 3 else if c = 91 then 4 else if c = 40 then 5 else if c = 123 then 6 else if c = 45 ∨ (48 ≤ c ∧ c ≤ 57) then 2 else 9
theorem head_of : ∀ (d : PyData), aOk d = true → ∃ c r, SC d = c :: r ∧ kindC c = kindOf d
  | .none, _ => ⟨78, [111, 110, 101], by decide +kernel, rfl⟩
  | .bool true, _ => ⟨84, [114, 117, 101], by decide +kernel, rfl⟩
  | .bool false, _ => ⟨70, [97, 108, 115, 101], by decide +kernel, rfl⟩
  | .int i, _ => by
    rw [sc_int]
    by_cases h : 0 ≤ i
    · rw [if_pos h]
      cases e : digs i.natAbs with
      | nil => exact absurd e (digs_ne _)
      | cons c r =>
        have := digs_range (m := i.natAbs) (c := c) (by rw [e]; exact List.mem_cons_self)
        refine ⟨c, r, rfl, ?_⟩
        unfold kindC kindOf
        rw [if_neg (by omega), if_neg (by omega), if_neg (by omega), if_neg (by omega), if_neg (by omega), if_neg (by omega), if_pos (by omega)]
    · rw [if_neg h]
      exact ⟨45, _, rfl, rfl⟩
  | .str x, h => by
    unfold aOk at h
    rw [sc_str]
    refine ⟨_, _, rfl, ?_⟩
    rcases (quote_of x h).1 with e | e <;> (rw [e]; rfl)
  | .list [], _ => ⟨91, [93], listText_nil', rfl⟩
  | .list (d :: r), _ => ⟨91, _, listText_cons _ _, rfl⟩
  | .tuple [], _ => ⟨40, [41], tupleText_nil', rfl⟩
  | .tuple [d], _ => ⟨40, _, tupleText_one _, rfl⟩
  | .tuple (d :: e :: r), _ => ⟨40, _, tupleText_more _ _ _, rfl⟩
  | .dict [], _ => ⟨123, [125], by decide +kernel, rfl⟩
  | .dict (p :: r), h => by
    unfold aOk at h
    cases h
theorem kind_eq {d e : PyData} {s t : List Nat} (hd : aOk d = true) (he : aOk e = true) (h : SC d ++ s = SC e ++ t) : kindOf d = kindOf e := by
  obtain ⟨c, r, e1, k1⟩ := head_of d hd
  obtain ⟨c2, r2, e2, k2⟩ := head_of e he
  rw [e1, e2] at h
  injection h with h
  rw [← k1, ← k2, h]
theorem delim_rest {c : Nat} (hc : c = 93 ∨ c = 41) (ts : List Str) (s : List Nat) : delim (restC c ts ++ s) := by
  intro x r h
  unfold restC at h
  cases ts with
  | nil =>
    injection h with h
    rw [← h]
    rcases hc with rfl | rfl <;> rfl
  | cons t ts =>
    rw [List.flatMap_cons] at h
    injection h with h
    rw [← h]
    rfl
theorem aOkL_cons {d : PyData} {r : List PyData} (h : aOkL (d :: r) = true) : aOk d = true ∧ aOkL r = true := by
  unfold aOkL at h
  exact Bool.and_eq_true_iff.mp h
theorem restC_cons (c : Nat) (t : Str) (r : List Str) (s : List Nat) : restC c (t :: r) ++ s = 44 :: 32 :: (t.cps.toList ++ (restC c r ++ s)) := by
  unfold restC
  rw [List.flatMap_cons]
  simp
theorem none_del : ∀ x ∈ SC .none, delC x = false := by decide +kernel
theorem bool_del : ∀ (b : Bool), ∀ x ∈ SC (.bool b), delC x = false := by decide +kernel
theorem bool_inj {a b : Bool} (h : SC (.bool a) = SC (.bool b)) : a = b := by
  cases a <;> cases b <;> first | rfl | (exfalso; revert h; decide +kernel)
theorem kd0 {e : PyData} (h : kindOf e = 0) : e = .none := by
  cases e with
  | none => rfl
  | _ => simp [kindOf] at h
theorem kd1 {e : PyData} (h : kindOf e = 1) : ∃ b, e = .bool b := by
  cases e with
  | bool b => exact ⟨b, rfl⟩
  | _ => simp [kindOf] at h
theorem kd2 {e : PyData} (h : kindOf e = 2) : ∃ b, e = .int b := by
  cases e with
  | int b => exact ⟨b, rfl⟩
  | _ => simp [kindOf] at h
theorem kd3 {e : PyData} (h : kindOf e = 3) : ∃ b, e = .str b := by
  cases e with
  | str b => exact ⟨b, rfl⟩
  | _ => simp [kindOf] at h
theorem kd4 {e : PyData} (h : kindOf e = 4) : ∃ b, e = .list b := by
  cases e with
  | list b => exact ⟨b, rfl⟩
  | _ => simp [kindOf] at h
theorem kd5 {e : PyData} (h : kindOf e = 5) : ∃ b, e = .tuple b := by
  cases e with
  | tuple b => exact ⟨b, rfl⟩
  | _ => simp [kindOf] at h
theorem kd6 {e : PyData} (h : kindOf e = 6) : ∃ b, e = .dict b := by
  cases e with
  | dict b => exact ⟨b, rfl⟩
  | _ => simp [kindOf] at h
mutual
theorem pInj : ∀ (d e : PyData) (s t : List Nat), aOk d = true → aOk e = true → delim s → delim t → SC d ++ s = SC e ++ t → d = e ∧ s = t
  | .none, e, s, t, hd, he, hs, ht, h => by
    have k := kind_eq hd he h
    obtain rfl := kd0 k.symm
    exact ⟨rfl, (atom_inj none_del none_del hs ht h).2⟩
  | .bool b, e, s, t, hd, he, hs, ht, h => by
    have k := kind_eq hd he h
    obtain ⟨c, rfl⟩ := kd1 k.symm
    obtain ⟨h1, h2⟩ := atom_inj (bool_del b) (bool_del c) hs ht h
    rw [bool_inj h1]
    exact ⟨rfl, h2⟩
  | .int i, e, s, t, hd, he, hs, ht, h => by
    have k := kind_eq hd he h
    obtain ⟨j, rfl⟩ := kd2 k.symm
    obtain ⟨h1, h2⟩ := atom_inj (fun x m => int_del m) (fun x m => int_del m) hs ht h
    rw [int_inj h1]
    exact ⟨rfl, h2⟩
  | .str x, e, s, t, hd, he, hs, ht, h => by
    have k := kind_eq hd he h
    obtain ⟨y, rfl⟩ := kd3 k.symm
    unfold aOk at hd he
    obtain ⟨h1, h2⟩ := str_inj hd he h
    rw [h1]
    exact ⟨rfl, h2⟩
  | .dict kvs, e, s, t, hd, he, hs, ht, h => by
    have k := kind_eq hd he h
    obtain ⟨kvs2, rfl⟩ := kd6 k.symm
    unfold aOk at hd he
    cases kvs with
    | cons p r => cases hd
    | nil =>
      cases kvs2 with
      | cons p r => cases he
      | nil => exact ⟨rfl, List.append_cancel_left h⟩
  | .list ds, e, s, t, hd, he, hs, ht, h => by
    have k := kind_eq hd he h
    obtain ⟨es, rfl⟩ := kd4 k.symm
    unfold aOk at hd he
    cases ds with
    | nil =>
      cases es with
      | nil => exact ⟨rfl, List.append_cancel_left h⟩
      | cons e es =>
        exfalso
        have h2 : [91, 93] ++ s = 91 :: (SC e ++ restC 93 (PyData.shownAll es)) ++ t := by
          have := listText_cons e.shown (PyData.shownAll es)
          rw [← listText_nil', show SC e = e.shown.cps.toList from rfl, ← this]
          exact h
        injection h2 with _ h2
        obtain ⟨c, r, e1, k1⟩ := head_of e (aOkL_cons he).1
        rw [e1] at h2
        injection h2 with h2
        rw [← h2] at k1
        cases e <;> exact absurd k1 (by simp [kindC, kindOf])
    | cons d ds =>
      have a1 : SC (.list (d :: ds)) = 91 :: (SC d ++ restC 93 (PyData.shownAll ds)) := listText_cons d.shown (PyData.shownAll ds)
      rw [a1] at h
      cases es with
      | nil =>
        exfalso
        have a2 : SC (.list []) = [91, 93] := listText_nil'
        rw [a2] at h
        injection h with _ h
        obtain ⟨c, r, e1, k1⟩ := head_of d (aOkL_cons hd).1
        rw [e1] at h
        injection h with h
        rw [h] at k1
        cases d <;> exact absurd k1 (by simp [kindC, kindOf])
      | cons e es =>
        have a2 : SC (.list (e :: es)) = 91 :: (SC e ++ restC 93 (PyData.shownAll es)) := listText_cons e.shown (PyData.shownAll es)
        rw [a2] at h
        injection h with _ h
        simp only [List.append_eq, List.append_assoc] at h
        obtain ⟨h1, h2⟩ := pInj d e _ _ (aOkL_cons hd).1 (aOkL_cons he).1 (delim_rest (.inl rfl) _ _) (delim_rest (.inl rfl) _ _) h
        obtain ⟨h3, h4⟩ := rInj ds es 93 s t (.inl rfl) (aOkL_cons hd).2 (aOkL_cons he).2 h2
        rw [h1, h3]
        exact ⟨rfl, h4⟩
  | .tuple ds, e, s, t, hd, he, hs, ht, h => by
    have k := kind_eq hd he h
    obtain ⟨es, rfl⟩ := kd5 k.symm
    unfold aOk at hd he
    cases ds with
    | nil =>
      cases es with
      | nil => exact ⟨rfl, List.append_cancel_left h⟩
      | cons e es =>
        exfalso
        have a2 : ∃ z, SC (.tuple (e :: es)) = 40 :: (SC e ++ z) := by
          cases es with
          | nil => exact ⟨_, tupleText_one e.shown⟩
          | cons u r => exact ⟨_, tupleText_more e.shown u.shown (PyData.shownAll r)⟩
        obtain ⟨z, a2⟩ := a2
        rw [show SC (.tuple []) = [40, 41] from tupleText_nil', a2] at h
        injection h with _ h
        obtain ⟨c, r, e1, k1⟩ := head_of e (aOkL_cons he).1
        rw [e1] at h
        injection h with h
        rw [← h] at k1
        cases e <;> exact absurd k1 (by simp [kindC, kindOf])
    | cons d ds =>
      cases es with
      | nil =>
        exfalso
        have a2 : ∃ z, SC (.tuple (d :: ds)) = 40 :: (SC d ++ z) := by
          cases ds with
          | nil => exact ⟨_, tupleText_one d.shown⟩
          | cons u r => exact ⟨_, tupleText_more d.shown u.shown (PyData.shownAll r)⟩
        obtain ⟨z, a2⟩ := a2
        rw [show SC (.tuple []) = [40, 41] from tupleText_nil', a2] at h
        injection h with _ h
        obtain ⟨c, r, e1, k1⟩ := head_of d (aOkL_cons hd).1
        rw [e1] at h
        injection h with h
        rw [h] at k1
        cases d <;> exact absurd k1 (by simp [kindC, kindOf])
      | cons e es =>
        cases ds with
        | nil =>
          have a1 : SC (.tuple [d]) = 40 :: (SC d ++ [44, 41]) := tupleText_one d.shown
          rw [a1] at h
          cases es with
          | nil =>
            have a2 : SC (.tuple [e]) = 40 :: (SC e ++ [44, 41]) := tupleText_one e.shown
            rw [a2] at h
            injection h with _ h
            simp only [List.append_eq, List.append_assoc] at h
            obtain ⟨h1, h2⟩ := pInj d e _ _ (aOkL_cons hd).1 (aOkL_cons he).1 (fun c r z => by injection z with z; rw [← z]; rfl) (fun c r z => by injection z with z; rw [← z]; rfl) h
            rw [h1]
            exact ⟨rfl, List.append_cancel_left h2⟩
          | cons u r =>
            exfalso
            have a2 : SC (.tuple (e :: u :: r)) = 40 :: (SC e ++ restC 41 (u.shown :: PyData.shownAll r)) := tupleText_more e.shown u.shown (PyData.shownAll r)
            rw [a2] at h
            injection h with _ h
            simp only [List.append_eq, List.append_assoc] at h
            obtain ⟨h1, h2⟩ := pInj d e _ _ (aOkL_cons hd).1 (aOkL_cons he).1 (fun c r z => by injection z with z; rw [← z]; rfl) (delim_rest (.inr rfl) _ _) h
            rw [restC_cons] at h2
            injection h2 with _ h2
            injection h2 with h2
            cases h2
        | cons d2 ds =>
          have a1 : SC (.tuple (d :: d2 :: ds)) = 40 :: (SC d ++ restC 41 (d2.shown :: PyData.shownAll ds)) := tupleText_more d.shown d2.shown (PyData.shownAll ds)
          rw [a1] at h
          cases es with
          | nil =>
            exfalso
            have a2 : SC (.tuple [e]) = 40 :: (SC e ++ [44, 41]) := tupleText_one e.shown
            rw [a2] at h
            injection h with _ h
            simp only [List.append_eq, List.append_assoc] at h
            obtain ⟨h1, h2⟩ := pInj d e _ _ (aOkL_cons hd).1 (aOkL_cons he).1 (delim_rest (.inr rfl) _ _) (fun c r z => by injection z with z; rw [← z]; rfl) h
            rw [restC_cons] at h2
            injection h2 with _ h2
            injection h2 with h2
            cases h2
          | cons e2 es =>
            have a2 : SC (.tuple (e :: e2 :: es)) = 40 :: (SC e ++ restC 41 (e2.shown :: PyData.shownAll es)) := tupleText_more e.shown e2.shown (PyData.shownAll es)
            rw [a2] at h
            injection h with _ h
            simp only [List.append_eq, List.append_assoc] at h
            obtain ⟨h1, h2⟩ := pInj d e _ _ (aOkL_cons hd).1 (aOkL_cons he).1 (delim_rest (.inr rfl) _ _) (delim_rest (.inr rfl) _ _) h
            obtain ⟨h3, h4⟩ := rInj (d2 :: ds) (e2 :: es) 41 s t (.inr rfl) (aOkL_cons hd).2 (aOkL_cons he).2 h2
            rw [h1, h3]
            exact ⟨rfl, h4⟩
theorem rInj : ∀ (ds es : List PyData) (c : Nat) (s t : List Nat), (c = 93 ∨ c = 41) → aOkL ds = true → aOkL es = true → restC c (PyData.shownAll ds) ++ s = restC c (PyData.shownAll es) ++ t → ds = es ∧ s = t
  | [], [], c, s, t, hc, _, _, h => ⟨rfl, List.append_cancel_left h⟩
  | [], e :: es, c, s, t, hc, _, _, h => by
    exfalso
    rw [show PyData.shownAll (e :: es) = e.shown :: PyData.shownAll es from rfl, restC_cons] at h
    injection h with h
    omega
  | d :: ds, [], c, s, t, hc, _, _, h => by
    exfalso
    rw [show PyData.shownAll (d :: ds) = d.shown :: PyData.shownAll ds from rfl, restC_cons] at h
    injection h with h
    omega
  | d :: ds, e :: es, c, s, t, hc, hd, he, h => by
    rw [show PyData.shownAll (d :: ds) = d.shown :: PyData.shownAll ds from rfl, show PyData.shownAll (e :: es) = e.shown :: PyData.shownAll es from rfl, restC_cons, restC_cons] at h
    injection h with _ h
    injection h with _ h
    obtain ⟨h1, h2⟩ := pInj d e _ _ (aOkL_cons hd).1 (aOkL_cons he).1 (delim_rest hc _ _) (delim_rest hc _ _) h
    obtain ⟨h3, h4⟩ := rInj ds es c s t hc (aOkL_cons hd).2 (aOkL_cons he).2 h2
    rw [h1, h3]
    exact ⟨rfl, h4⟩
end
theorem shown_inj {d e : PyData} (hd : aOk d = true) (he : aOk e = true) (h : d.shown = e.shown) : d = e :=
  (pInj d e [] [] hd he (fun _ _ z => nomatch z) (fun _ _ z => nomatch z) (by show SC d ++ [] = SC e ++ []; unfold SC; rw [h])).1
end Sm
namespace Sm
open PySem PySem.Spec PyProof.Rows L2 Tn Vd RZ
/-! ### schemas -/
def ltV : V → V → Bool
  | .int i, .int j => decide (i < j)
  | .str i, .str j => decide (i.cps.toList < j.cps.toList)
  | _, _ => false
def risV (xs : List V) : Bool := (xs.zip (xs.drop 1)).all fun e => ltV e.1 e.2
def KeyV (xs : List V) : Prop := (∀ x ∈ xs, ∃ i : Int, x = .int i) ∨ ∀ x ∈ xs, ∃ z : Str, x = .str z
def rLtB : R2 := fun x y H Q => (∃ i j : Int, x = .int i ∧ y = .int j ∧ Q (.bl (decide (i < j))) H) ∨ ∃ i j : Str, x = .str i ∧ y = .str j ∧ Q (.bl (decide (i.cps.toList < j.cps.toList))) H
theorem op_ltB {X : Cx} : OpR X (compareOp .Lt) rLtB := by
  intro pins s σ H x y v u Q I rx ry h
  rcases h with h | h
  · exact op_lt pins s σ H x y v u Q I rx ry h
  · exact op_lt_str pins s σ H x y v u Q I rx ry h
def strOf : PyData → Str
  | .str x => x
  | _ => ""
def namesD (d : PyData) : List V := (partsD d).map fun r => V.str (strOf (at_ r 0))
def schD (d : PyData) : Bool := tupOfD 1 8 d && ((partsD d).all relD && (!inV (.str "rule") (namesD d) && risV (namesD d)))
def relOf (e d : PyData) : PyData := ((partsD e).find? fun r => eqS d (strOf (at_ r 0))).getD .none
def sortWD (s d : PyData) : Bool := if eqS s "word" = true then wordD d else smallD d
def ofSorts (ss d : PyData) : Bool := tupOfD (partsD ss).length (partsD ss).length d && ((partsD ss).zip (partsD d)).all fun e => sortWD e.1 e.2
theorem relD_of {d : PyData} (h : relD d = true) : ∃ x k ss, d = .tuple [.str x, k, .tuple ss] ∧ nameD (.str x) = true ∧ sortsD (.tuple ss) = true ∧ kindD k (.tuple ss) = true := by
  obtain ⟨h1, h2⟩ := Bool.and_eq_true_iff.mp h
  obtain ⟨x, y, z, rfl⟩ := tup3 h1
  obtain ⟨h3, h4⟩ := Bool.and_eq_true_iff.mp h2
  obtain ⟨h5, h6⟩ := Bool.and_eq_true_iff.mp h4
  obtain ⟨x, rfl⟩ := isS_of (Bool.and_eq_true_iff.mp h3).1
  obtain ⟨ss, rfl, _, _⟩ := tupOf_of (Bool.and_eq_true_iff.mp h5).1
  exact ⟨x, y, ss, rfl, h3, h5, h6⟩
theorem eqS_of {d : PyData} {x : Str} (h : eqS d x = true) : d = .str x := by
  cases d with
  | str y =>
    have e : (y == x) = true := h
    rw [eq_of_beq e]
  | _ => cases h
theorem schD_of {e : PyData} (h : schD e = true) : ∃ rs, e = .tuple rs ∧ 1 ≤ rs.length ∧ rs.length ≤ 8 ∧ ∀ r ∈ rs, relD r = true := by
  obtain ⟨h1, h2⟩ := Bool.and_eq_true_iff.mp h
  obtain ⟨rs, rfl, h3, h4⟩ := tupOf_of h1
  exact ⟨rs, rfl, by omega, by omega, fun r m => List.all_eq_true.mp (Bool.and_eq_true_iff.mp h2).1 r m⟩
theorem relOf_of {e d : PyData} (h : schD e = true) : relOf e d = .none ∨ ∃ x k ss, relOf e d = .tuple [.str x, k, .tuple ss] ∧ d = .str x ∧ relD (relOf e d) = true := by
  obtain ⟨rs, rfl, _, _, h4⟩ := schD_of h
  unfold relOf
  cases q : (partsD (.tuple rs)).find? fun r => eqS d (strOf (at_ r 0)) with
  | none => exact .inl rfl
  | some r =>
    have m := List.mem_of_find?_eq_some q
    have p := List.find?_some q
    have hr := h4 r m
    obtain ⟨x, k, ss, rfl, _⟩ := relD_of hr
    exact .inr ⟨x, k, ss, rfl, eqS_of p, hr⟩
section
variable {K : PySem.W.Frag} {σ : L2.St} {H : Hp} {ta tb tc : TE} {a b c : Bool} {d : PyData} {i j k : Int} {r r' : R2}
theorem yq_sl1 {xs : List V} {tl : TO} (ha : YQ K ta σ H xs) (hl : ∀ (H1 : Hp) (Q : Option Int → Hp → Prop), Same H H1 → (∀ H2, Same H1 H2 → Q (some 1) H2) → tl σ H1 Q) : YQ K (tSl (rSlL K) ta tl tNoPart) σ H (xs.drop 1) := fun H1 Q s q => ha H1 _ s fun p H2 s2 hp => hl H2 _ (s.trans s2) fun H3 s3 =>
  ⟨p, xs, rfl, SqL.same s3 hp, fun l hl => by
    have e : cutV xs (some 1) none = xs.drop 1 := by
      unfold cutV
      have e : HT.sIx xs.length 0 (some 1) = min 1 xs.length := HT.sIx_nat _ _ 1
      rw [e, HT.sIx_none]
      cases xs with
      | nil => rfl
      | cons x r =>
        have e2 : min 1 (x :: r).length = 1 := by rw [List.length_cons]; omega
        rw [e2]
        show ((x :: r).drop 1).take ((x :: r).length - 1) = _
        exact List.take_of_length_le (by rw [List.length_drop]; omega)
    rw [e]
    exact q l _ ((s2.trans s3).trans (same_up hl)) (SqL.of upd_same)⟩
theorem rb_setq {u : TS} {m : Nat} {xs : List V} (ha : YQ K ta σ H xs) (h : ∀ p H', Same H H' → SqL K H' p xs → RB u (σ.set m (some (.ref p))) H' b) : RB (tSeq (tAsg ta (gName m)) u) σ H b := fun H1 D s q => ha H1 _ s fun p H2 s2 hp => h p H2 (s.trans s2) hp H2 D (Same.refl H2) fun H3 s3 => q H3 (s2.trans s3)
theorem yb_notIn {x : V} {xs : List V} (hx : ∀ (Hx : Hp) (Q : VK), Q x Hx → ta σ Hx Q) (ha : YQ K tb σ H xs) (fx : flatV x = true) (fs : xs.all flatV = true) : YB (tOp (rIn K true) ta tb) σ H (!inV x xs) := fun H1 Q s q => hx H1 _ (ha H1 _ s fun p H2 s2 hp => ⟨p, xs, rfl, .inl hp, fx, fs, q H2 s2⟩)
def spRising (K : PySem.W.Frag) : Sp := fun vs H Q _ => ∃ (p : Addr) (xs : List V), vs = [.ref p] ∧ SqL K H p xs ∧ xs.length ≤ 1000000 ∧ KeyV xs ∧ ∀ H', Same H H' → Q (.bl (risV xs)) H'
theorem yb_rising {xs : List V} (ha : YQ K ta σ H xs) (hz : xs.length ≤ 1000000) (hk : KeyV xs) : YB (tCall (spRising K) [] E0 (tCons ta tNil)) σ H (risV xs) := fun H1 Q s q => ha H1 _ s fun p H2 s2 hp => ⟨p, xs, rfl, hp, hz, hk, fun H3 s3 => q H3 (s2.trans s3)⟩
/-- data that is told -/
def RV (K : PySem.W.Frag) (t : TS) (σ : L2.St) (H : Hp) (d : PyData) : Prop := ∀ (H1 : Hp) (D : Ends), Same H H1 → (∀ v H2, Same H1 H2 → Dd K H2 v d → D.rt v H2) → t D σ H1
theorem rv_ret (h : YV K ta σ H d) : RV K (tRet ta) σ H d := fun H1 D s q => h H1 _ s q
theorem rv_if {tc : TT} {u : TS} (hc : YT tc σ H c) (ht : c = true → YV K ta σ H d) (hu : c = false → RV K u σ H d) : RV K (tSeq (tIfS tc (tRet ta) tNext) u) σ H d := fun H1 D s q => hc H1 _ s fun H2 s2 =>
  tst (fun e => ht e H2 _ (s.trans s2) fun v H3 s3 => q v H3 (s2.trans s3)) fun e => hu e H2 D (s.trans s2) fun v H3 s3 => q v H3 (s2.trans s3)
def find1 (p : PyData → Bool) (f : PyData → PyData) (z : PyData) : List PyData → PyData
  | [] => z
  | d :: r => if p d = true then f d else find1 p f z r
theorem find1_drop {p : PyData → Bool} {f : PyData → PyData} {z : PyData} {ds : List PyData} {i : Nat} {d : PyData} (h : ds[i]? = some d) : find1 p f z (ds.drop i) = if p d = true then f d else find1 p f z (ds.drop (i + 1)) := by
  have hi := (List.getElem?_eq_some_iff.mp h)
  obtain ⟨hl, e⟩ := hi
  rw [List.drop_eq_getElem_cons hl, e]
  rfl
/-- for one in tuple: if test: return that; and on -/
theorem rv_for {ds : List PyData} {p : PyData → Bool} {f : PyData → PyData} {z : PyData} {tp te : TE} {tt : TT} {u : TS} {m : Nat} (ha : YV K tp σ H (.tuple ds)) (ht : ∀ v d H' x, d ∈ ds → Same H H' → Dd K H' v d → YT tt ((σ.set m x).set m (some v)) H' (p d))
    (he : ∀ v d H' x, d ∈ ds → p d = true → Same H H' → Dd K H' v d → YV K te ((σ.set m x).set m (some v)) H' (f d)) (hu : ∀ x H', Same H H' → RV K u (σ.set m x) H' z) (hx : ∃ x, σ = σ.set m x) :
    RV K (tSeq (tFor (iTup K tp) (gName m) (tIfS tt (tRet te) tNext)) u) σ H (find1 p f z ds) := fun H1 D s q => ha H1 _ s fun v H2 s2 hd => by
  obtain ⟨a, xs, rfl, h0, h2⟩ := ofTup hd
  refine ⟨a, rfl, ⟨_, h0.sq⟩, ?_⟩
  refine for_tup (xs := xs) (fun i σ' H' => (∃ x, σ' = σ.set m x) ∧ Same H2 H' ∧ find1 p f z (ds.drop i) = find1 p f z ds) ⟨hx, Same.refl H2, rfl⟩ (fun i σ' H' _ e => SqT.same e.2.1 h0.sq) (fun i x σ' H' hx e => ?_) (fun σ' H' e => ?_)
  · obtain ⟨d, hd1, hdd⟩ := dall_at' h2 hx
    obtain ⟨⟨y, rfl⟩, s3, ef⟩ := e
    have fd := find1_drop (p := p) (f := f) (z := z) hd1
    refine ht x d H' y (List.mem_of_getElem? hd1) ((s.trans s2).trans s3) (Dd.same s3 hdd) H' _ (Same.refl H') fun H4 s4 => tst (fun e => ?_) fun e => ?_
    · refine he x d H' y (List.mem_of_getElem? hd1) e ((s.trans s2).trans s3) (Dd.same s3 hdd) H4 _ s4 fun w H5 s5 hw => q w H5 (((s2.trans s3).trans s4).trans s5) ?_
      rw [← ef, fd, e, if_pos rfl]
      exact hw
    · refine ⟨⟨some x, List.set_set ..⟩, s3.trans s4, ?_⟩
      rw [← ef, fd, e, if_neg Bool.false_ne_true]
  · obtain ⟨⟨y, rfl⟩, s3, ef⟩ := e
    refine hu y H' ((s.trans s2).trans s3) H' _ (Same.refl H') fun w H5 s5 hw => q w H5 ((s2.trans s3).trans s5) ?_
    rw [← ef, dall_len h2, List.drop_length]
    exact hw
end
section
variable {P : Program} {w : World} {K : PySem.W.Frag} {mg : Str → Option Value} {base : Heap}
theorem scRising : FnScope ["keys", "low", "high"] ["keys"] (defScope sRising) := ⟨rfl, rfl, rfl, by decide +kernel, rfl, by decide +kernel, by decide +kernel⟩
theorem ok_rising {f : Addr} {fd : FuncData} (F : FnP K "is_rising" sRising f fd) (M : Nm mg) : FnOk P w K mg base CX0 1 f fd ["keys"] (spRising K) := by
  refine F.ok scRising (fun vs H Q E h => ?_) (fun cdv A outer s H vs Q E hr h => ?_)
  · obtain ⟨v, d, rfl, _⟩ := h
    rfl
  obtain ⟨p, xs, rfl, hp, hz, hk, q⟩ := h
  refine ⟨_, PSs.nox (pss_one (ps_ret (pe_callB (r := rAll K) (cr_all rfl) (by rfl) M.all (by decide +kernel) (pa_cons (pe_lc (own := [("low", 1), ("high", 2)]) (g := gTup K 2 (gCons (gName 1) (gCons (gName 2) gNil))) (tt := tYes) (by rfl) scRising.nd (pi_zip (by rfl) M.zip (pa_cons (pv 0) (pa_cons (pe_slice sl_list (pv 0) (po_some pe_int) po_none) pa_nil))) (blkOk_by (N := ["keys", "low", "high"]) (sc := defScope sRising) (by decide +kernel)) (fun _ _ _ _ _ => (pg_tup rfl (pgs_cons (pg_name (i := 1) scRising.nd rfl (Or.inl rfl)) (pgs_cons (pg_name (i := 2) scRising.nd rfl (Or.inl rfl)) pgs_nil)))) (fun _ _ _ _ _ => pts_nil) (fun _ _ _ _ _ => (pe_cmpR op_ltB (pv 1) (pv 2) (nomark _)))) pa_nil)))), ?_⟩
  refine rb_ret (yb_allZL (p := ltV) (yq_var rfl hp) (yq_sl1 (yq_var rfl hp) (yo_some yn_c)) (by rw [List.length_zip]; omega) (fun _ _ => rfl) fun v1 v2 H' m s => ?_) H _ (Same.refl H) q
  have m1 := List.of_mem_zip m
  have m2 := List.mem_of_mem_drop m1.2
  rcases hk with hk | hk
  · obtain ⟨i, rfl⟩ := hk _ m1.1
    obtain ⟨j, rfl⟩ := hk _ m2
    exact yb_op (fun _ _ q => .inl ⟨_, _, rfl, rfl, q⟩) (yn_var rfl) (yn_var rfl)
  · obtain ⟨i, rfl⟩ := hk _ m1.1
    obtain ⟨j, rfl⟩ := hk _ m2
    exact yb_ops (fun _ _ q => .inr ⟨_, _, rfl, rfl, q⟩) (ys_var rfl) (ys_var rfl)
theorem scSorts : FnScope ["thing", "sort"] ["thing"] (defScope sSorts) := ⟨rfl, rfl, rfl, by decide +kernel, rfl, by decide +kernel, by decide +kernel⟩
theorem ok_sorts {f : Addr} {fd : FuncData} (F : FnP K "are_sorts" sSorts f fd) (M : Nm mg) (DT : DTup P w K mg base) : FnOk P w K mg base CX0 2 f fd ["thing"] (spA K sortsD) := by
  refine F.ok scSorts spA_len (fun cdv A outer s H vs Q E hr h => ?_)
  obtain ⟨v, d, rfl, hd, ok, q⟩ := h
  refine ⟨_, PSs.nox (pss_one (ps_ret (pe_and (pe_df DT hr (by decide) (pa_cons (pv 0) (pa_cons pe_int (pa_cons pe_int pa_nil)))) (pe_one (pe_callB (r := rAll K) (cr_all rfl) (by rfl) M.all (by decide +kernel) (pa_cons (pe_lc (own := [("sort", 1)]) (g := gName 1) (tt := tYes) (by rfl) scSorts.nd (pi_tup (pv 0)) (blkOk_by (N := ["thing", "sort"]) (sc := defScope sSorts) (by decide +kernel)) (fun _ _ _ _ _ => pg_name (i := 1) scSorts.nd rfl (Or.inl rfl)) (fun _ _ _ _ _ => pts_nil) (fun _ _ _ _ _ => (pe_cmpR (r := rInS K false) (op_inS' (hu_of hr)) (pv 1) (pe_tup (pa_cons pe_str (pa_cons pe_str pa_nil))) (by rfl)))) pa_nil)))))), ?_⟩
  refine rb_ret (yb_and (yb_tup (yv_var rfl hd) yn_c yn_c) fun e => ?_) H _ (Same.refl H) q
  obtain ⟨ds, rfl, _, _⟩ := tupOf_of e
  exact yb_allT (p := sortD) (yv_var rfl hd) (ok_tup ok).1 (fun _ => rfl) fun v d H' m s hd => yb_inS (yv_var rfl hd) (by decide) (yss_cons ys_c (yss_cons ys_c yss_nil))
theorem scKind : FnScope ["thing", "sorts"] ["thing", "sorts"] (defScope sKind) := ⟨rfl, rfl, rfl, by decide +kernel, rfl, by decide +kernel, by decide +kernel⟩
def KindF (k s : PyData) : Prop := okD k = true ∧ ∃ ss x, s = .tuple ss ∧ ss.getLast? = some (.str x)
theorem ok_kind {f : Addr} {fd : FuncData} (F : FnP K "is_kind" sKind f fd) (M : Nm mg) (DN : DA P w K mg base "is_number" 2 numD) : FnOk P w K mg base CX0 3 f fd ["thing", "sorts"] (spA2 K KindF kindD) := by
  refine F.ok scKind spA2_len (fun cdv A outer s H vs Q E hr h => ?_)
  obtain ⟨u, v, k, s, rfl, hk, hs, ok, ⟨okk, ss, x, rfl, hl⟩, q⟩ := h
  refine ⟨_, PSs.nox (pss_cons (ps_if (pt_val (pe_df DN hr (by decide) (pa_cons (pv 0) pa_nil))) (pss_one (ps_ret (pe_cmpR op_lt (pv 0) (pe_callB call_len_seq (by rfl) M.len PySem.boot_len (pa_cons (pv 1) pa_nil)) (nomark _)))) pss_nil)
      (pss_one (ps_ret (pe_or (pe_cmpR (op_eqS (hu_of1 hr)) (pv 0) pe_str (nomark _)) (pe_one (pe_and (pe_cmpR (op_eqS (hu_of1 hr)) (pv 0) pe_str (nomark _)) (pe_one (pe_cmpR (op_eqS (hu_of1 hr)) (pe_ix ix_tup (pv 1) (pe_un un_neg pe_int) (fun _ _ => rfl)) pe_str (nomark _))))))))), ?_⟩
  refine rb_if (c := numD k) (yt_b (yb_da (yv_var rfl hk) okk)) (fun e => ?_) (fun e => rb_ret ?_) H _ (Same.refl H) q
  · obtain ⟨i, rfl⟩ := intD_of (Bool.and_eq_true_iff.mp e).1
    refine yb_eq (yb_op (fun _ _ q => ⟨_, _, rfl, rfl, q⟩) (yn_v (yv_var rfl hk)) (yn_lenT (yv_var rfl hs))) ?_
    unfold kindD
    rw [e, if_pos rfl]
    rfl
  · refine yb_eq (yb_or (yb_eqS (yv_var rfl hk) ys_c) fun _ => yb_and (yb_eqS (yv_var rfl hk) ys_c) fun _ => yb_eqS (yv_ixL (yv_var rfl hs) (yn_neg (fun _ _ q => ⟨_, rfl, q⟩) yn_c) hl) ys_c) ?_
    unfold kindD lastD
    rw [e, if_neg Bool.false_ne_true]
    show _ = (_ || (_ && eqS ((ss.getLast?).getD .none) "number"))
    rw [hl]
    rfl
theorem scRelation : FnScope ["thing", "name", "kind", "sorts"] ["thing"] (defScope sRelation) := ⟨rfl, rfl, rfl, by decide +kernel, rfl, by decide +kernel, by decide +kernel⟩
theorem ok_relation {f : Addr} {fd : FuncData} (F : FnP K "is_relation" sRelation f fd) (DT : DTup P w K mg base) (DN : DA P w K mg base "is_name" 1 nameD) (DS : DA P w K mg base "are_sorts" 2 sortsD) (DK : Df P w K mg base "is_kind" 3 ["thing", "sorts"] (spA2 K KindF kindD)) : FnOk P w K mg base CX0 4 f fd ["thing"] (spA K relD) := by
  refine F.ok scRelation spA_len (fun cdv A outer s H vs Q E hr h => ?_)
  obtain ⟨v, d, rfl, hd, ok, q⟩ := h
  refine ⟨_, PSs.nox (pss_cons (ps_if (pt_not (pt_val (pe_df DT hr (by decide) (pa_cons (pv 0) (pa_cons pe_int (pa_cons pe_int pa_nil)))))) (pss_one (ps_ret pe_bl)) pss_nil)
      (pss_cons (ps_asg (pv 0) (pg_tup rfl (pgs_cons (pg_name (i := 1) scRelation.nd rfl (Or.inl rfl)) (pgs_cons (pg_name (i := 2) scRelation.nd rfl (Or.inl rfl)) (pgs_cons (pg_name (i := 3) scRelation.nd rfl (Or.inl rfl)) pgs_nil)))))
      (pss_one (ps_ret (pe_and (pe_df DN hr (by decide) (pa_cons (pv 1) pa_nil)) (pe_and (pe_df DS hr (by decide) (pa_cons (pv 3) pa_nil)) (pe_one (pe_df DK hr (by decide) (pa_cons (pv 2) (pa_cons (pv 3) pa_nil)))))))))), ?_⟩
  refine rb_if (c := !tupOfD 3 3 d) (yt_not (yt_b (yb_tup (yv_var rfl hd) yn_c yn_c))) (fun e => yb_eq yb_c ?_) (fun e => ?_) H _ (Same.refl H) q
  · unfold relD
    rw [show tupOfD 3 3 d = false by simpa using e]
    rfl
  · have e : tupOfD 3 3 d = true := by simpa using e
    obtain ⟨x, y, z, rfl⟩ := tup3 e
    obtain ⟨_, om⟩ := ok_tup ok
    have ox := om x (by simp)
    have oy := om y (by simp)
    have oz := om z (by simp)
    refine rb_un3 (yv_var rfl hd) fun v1 v2 v3 H' s h1 h2 h3 => rb_ret (yb_eq (yb_and (yb_da (yv_var rfl h1) ox) fun _ => yb_and (yb_da (yv_var rfl h3) oz) fun es => yb_da2 (yv_var rfl h2) (yv_var rfl h3) oz ?_) ?_)
    · obtain ⟨e1, e2⟩ := Bool.and_eq_true_iff.mp es
      obtain ⟨ss, rfl, l1, l2⟩ := tupOf_of e1
      have hne : ss ≠ [] := fun z => by rw [z] at l1; exact absurd l1 (by decide)
      have hl : ss.getLast? = some (ss.getLast hne) := List.getLast?_eq_some_getLast hne
      have hm := List.all_eq_true.mp e2 _ (List.getLast_mem hne)
      obtain ⟨x2, hx2⟩ : ∃ x2, ss.getLast hne = .str x2 := by
        cases hq : ss.getLast hne with
        | str x2 => exact ⟨x2, rfl⟩
        | _ =>
          rw [hq] at hm
          cases hm
      exact ⟨oy, ss, x2, rfl, by rw [hl, hx2]⟩
    · unfold relD
      rw [e]
      rfl
theorem scSchema : FnScope ["thing", "names", "part"] ["thing"] (defScope sSchema) := ⟨rfl, rfl, rfl, by decide +kernel, rfl, by decide +kernel, by decide +kernel⟩
theorem ok_schema {f : Addr} {fd : FuncData} (F : FnP K "is_schema" sSchema f fd) (M : Nm mg) (DT : DTup P w K mg base) (DR : DA P w K mg base "is_relation" 4 relD) (DG : Df P w K mg base "is_rising" 1 ["keys"] (spRising K)) : FnOk P w K mg base CX0 5 f fd ["thing"] (spA K schD) := by
  refine F.ok scSchema spA_len (fun cdv A outer s H vs Q E hr h => ?_)
  obtain ⟨v, d, rfl, hd, ok, q⟩ := h
  refine ⟨_, PSs.nox (pss_cons (ps_if (PW.pt (pw_or (pt_not (pt_val (pe_df DT hr (by decide) (pa_cons (pv 0) (pa_cons pe_int (pa_cons pe_int pa_nil)))))) (pw_or1 (pt_not (pt_val (pe_callB (r := rAll K) (cr_all rfl) (by rfl) M.all (by decide +kernel) (pa_cons (pe_lc (own := [("part", 2)]) (g := gName 2) (tt := tYes) (by rfl) scSchema.nd (pi_tup (pv 0)) (blkOk_by (N := ["thing", "names", "part"]) (sc := defScope sSchema) (by decide +kernel)) (fun _ _ _ _ _ => pg_name (i := 2) scSchema.nd rfl (Or.inl rfl)) (fun _ _ _ _ _ => pts_nil) (fun _ _ _ _ _ => (pe_df DR hr (by decide) (pa_cons (pv 2) pa_nil)))) pa_nil))))))) (pss_one (ps_ret pe_bl)) pss_nil)
      (pss_cons (ps_setLc (i := 1) (own := [("part", 2)]) (g := gName 2) (tt := tYes) rfl scSchema.nd rfl rfl (sw_true rfl rfl rfl (by decide +kernel)) (pi_tup (pv 0)) (blkOk_by (N := ["thing", "names", "part"]) (sc := defScope sSchema) (by decide +kernel)) (fun _ _ _ _ _ => pg_name (i := 2) scSchema.nd rfl (Or.inl rfl)) (fun _ _ _ _ _ => pts_nil) (fun _ _ _ _ _ => (pe_ix (r := rIxT K) ix_tup (pv 2) pe_int (fun _ _ => rfl))))
      (pss_one (ps_ret (pe_and (pe_cmpR op_notIn_seq pe_str (pv 1) (by rfl)) (pe_one (pe_df DG hr (by decide) (pa_cons (pv 1) pa_nil)))))))), ?_⟩
  refine rb_if (c := !tupOfD 1 8 d || !(partsD d).all relD) (yt_or (yt_not (yt_b (yb_tup (yv_var rfl hd) yn_c yn_c))) fun e => ?_) (fun e => yb_eq yb_c ?_) (fun e => ?_) H _ (Same.refl H) q
  · have e : tupOfD 1 8 d = true := by simpa using e
    obtain ⟨ds, rfl, _, _⟩ := tupOf_of e
    exact yt_not (yt_b (yb_allT (p := relD) (yv_var rfl hd) (ok_tup ok).1 (fun _ => rfl) fun v d H' m s hd => yb_da (yv_var rfl hd) ((ok_tup ok).2 d m)))
  · unfold schD
    cases h1 : tupOfD 1 8 d <;> cases h2 : (partsD d).all relD <;> simp [h1, h2] at e ⊢
  · obtain ⟨e1, e2⟩ : tupOfD 1 8 d = true ∧ (partsD d).all relD = true := by
      cases h1 : tupOfD 1 8 d <;> cases h2 : (partsD d).all relD <;> simp [h1, h2] at e ⊢
    obtain ⟨ds, rfl, _, _⟩ := tupOf_of e1
    have hz := (ok_tup ok).1
    refine rb_setq (xs := namesD (.tuple ds)) (yq_lcT (f := fun r => V.str (strOf (at_ r 0))) (yv_var rfl hd) hz (fun _ => rfl) fun v d H' Q m s hd q => ?_) fun p H' s hp => rb_ret ?_
    · obtain ⟨x, k, ss, rfl, _⟩ := relD_of (List.all_eq_true.mp e2 d m)
      exact ys_v (yv_ix (m := 0) (yv_var rfl hd) yn_c rfl) H' Q (Same.refl H') q
    · refine yb_eq (yb_and (yb_notIn (x := .str "rule") (fun _ _ q => q) (yq_var rfl hp) rfl (List.all_eq_true.mpr fun x hx => ?_)) fun _ => yb_rising (yq_var rfl hp) (by show (List.map _ ds).length ≤ _; rw [List.length_map]; exact hz) (.inr fun x hx => ?_)) ?_
      · obtain ⟨r, _, rfl⟩ := List.mem_map.mp hx
        rfl
      · obtain ⟨r, _, rfl⟩ := List.mem_map.mp hx
        exact ⟨_, rfl⟩
      · unfold schD
        rw [e1, e2]
        rfl
abbrev sRelOf : Stmt := top 30
abbrev sOfSorts : Stmt := top 31
abbrev sOfSort : Stmt := top 32
def spRelOf (K : PySem.W.Frag) : Sp := fun vs H Q _ => ∃ (u v : V) (e d : PyData), vs = [u, v] ∧ Dd K H u e ∧ Dd K H v d ∧ schD e = true ∧ ∀ w H', Same H H' → Dd K H' w (relOf e d) → Q w H'
theorem yv_relOf {e : PyData} {ta tb : TE} {σ : L2.St} {H : Hp} {d : PyData} (ha : YV K ta σ H e) (hb : YV K tb σ H d) (hs : schD e = true) : YV K (tCall (spRelOf K) [] E0 (tCons ta (tCons tb tNil))) σ H (relOf e d) := fun H1 Q s q => ha H1 _ s fun u H2 s2 hu => hb H2 _ (s.trans s2) fun v H3 s3 hd =>
  ⟨u, v, e, d, rfl, hu.same s3, hd, hs, fun w H4 s4 hw => q w H4 ((s2.trans s3).trans s4) hw⟩
theorem scRelOf : FnScope ["schema", "name", "relation"] ["schema", "name"] (defScope sRelOf) := ⟨rfl, rfl, rfl, by decide +kernel, rfl, by decide +kernel, by decide +kernel⟩
theorem find1_relOf {rs : List PyData} {d : PyData} : find1 (fun r => eqS d (strOf (at_ r 0))) (fun r => r) .none rs = relOf (.tuple rs) d := by
  induction rs with
  | nil => rfl
  | cons r t ih =>
    unfold relOf at ih ⊢
    show (if eqS d (strOf (at_ r 0)) = true then r else find1 _ _ _ t) = ((r :: t).find? _).getD .none
    rw [List.find?_cons]
    cases h : eqS d (strOf (at_ r 0)) with
    | true => rfl
    | false =>
      rw [if_neg Bool.false_ne_true]
      exact ih
theorem ok_relOf {f : Addr} {fd : FuncData} (F : FnP K "relation_of" sRelOf f fd) : FnOk P w K mg base CX0 1 f fd ["schema", "name"] (spRelOf K) := by
  refine F.ok scRelOf (fun vs H Q E h => ?_) (fun cdv A outer s H vs Q E hr h => ?_)
  · obtain ⟨u, v, e, d, rfl, _⟩ := h
    rfl
  obtain ⟨u, v, e, d, rfl, hu, hd, hs, q⟩ := h
  refine ⟨_, PSs.nox (pss_cons (ps_for PassesOwn.never rfl (pi_tup (pv 0)) (pg_name (i := 2) scRelOf.nd rfl (Or.inl rfl)) (pss_one (ps_if (pt_cmpR (op_sEq (hu_of1 hr)) (pe_ix ix_tup (pv 2) pe_int (fun _ _ => rfl)) (pv 1) (nomark _)) (pss_one (ps_ret (pv 2))) pss_nil)))
      (pss_one (ps_ret pe_non))), ?_⟩
  obtain ⟨rs, rfl, l1, l2, hm⟩ := schD_of hs
  rw [← find1_relOf] at q
  refine rv_for (p := fun r => eqS d (strOf (at_ r 0))) (f := fun r => r) (z := .none) (yv_var rfl hu) (fun v r H' x m s hr => ?_) (fun v r H' x m _ s hr => yv_var rfl hr) (fun x H' s => rv_ret (yv_c fun _ => .non)) ⟨none, rfl⟩ H _ (Same.refl H) q
  obtain ⟨x, k, ss, rfl, _⟩ := relD_of (hm r m)
  exact yt_t (yb_sEq (ys_v (yv_ix (m := 0) (yv_var rfl hr) yn_c rfl)) (yv_var rfl (hd.same s)))
theorem scOfSort : FnScope ["sort", "thing"] ["sort", "thing"] (defScope sOfSort) := ⟨rfl, rfl, rfl, by decide +kernel, rfl, by decide +kernel, by decide +kernel⟩
theorem ok_ofSort {f : Addr} {fd : FuncData} (F : FnP K "is_of_sort" sOfSort f fd) (DI : DA P w K mg base "is_small_integer" 2 smallD) (DW : DA P w K mg base "is_word" 1 wordD) : FnOk P w K mg base CX0 3 f fd ["sort", "thing"] (spA2 K (fun _ _ => True) sortWD) := by
  refine F.ok scOfSort spA2_len (fun cdv A outer s H vs Q E hr h => ?_)
  obtain ⟨u, v, e, d, rfl, hu, hd, ok, _, q⟩ := h
  refine ⟨_, PSs.nox (pss_one (ps_ret (pe_ifExp (pt_cmpR (op_eqS (hu_of1 hr)) (pv 0) pe_str (nomark _)) (pe_df DW hr (by decide) (pa_cons (pv 1) pa_nil)) (pe_df DI hr (by decide) (pa_cons (pv 1) pa_nil))))), ?_⟩
  exact rb_ret (yb_if (yt_t (yb_eqS (yv_var rfl hu) ys_c)) (fun _ => yb_da (yv_var rfl hd) ok) fun _ => yb_da (yv_var rfl hd) ok) H _ (Same.refl H) q
def SortsF (s d : PyData) : Prop := ∃ ss, s = .tuple ss ∧ ss.length ≤ 1000
theorem scOfSorts : FnScope ["sorts", "thing", "sort", "worth"] ["sorts", "thing"] (defScope sOfSorts) := ⟨rfl, rfl, rfl, by decide +kernel, rfl, by decide +kernel, by decide +kernel⟩
theorem ok_ofSorts {f : Addr} {fd : FuncData} (F : FnP K "is_of_sorts" sOfSorts f fd) (M : Nm mg) (DT : DTup P w K mg base) (DS : Df P w K mg base "is_of_sort" 3 ["sort", "thing"] (spA2 K (fun _ _ => True) sortWD)) : FnOk P w K mg base CX0 4 f fd ["sorts", "thing"] (spA2 K SortsF ofSorts) := by
  refine F.ok scOfSorts spA2_len (fun cdv A outer s H vs Q E hr h => ?_)
  obtain ⟨u, v, e, d, rfl, hu, hd, ok, ⟨ss, rfl, hl⟩, q⟩ := h
  refine ⟨_, PSs.nox (pss_cons (ps_if (pt_not (pt_val (pe_df DT hr (by decide) (pa_cons (pv 1) (pa_cons (pe_callB call_len_seq (by rfl) M.len PySem.boot_len (pa_cons (pv 0) pa_nil)) (pa_cons (pe_callB call_len_seq (by rfl) M.len PySem.boot_len (pa_cons (pv 0) pa_nil)) pa_nil)))))) (pss_one (ps_ret pe_bl)) pss_nil)
      (pss_one (ps_ret (pe_callB (r := rAll K) (cr_all rfl) (by rfl) M.all (by decide +kernel) (pa_cons (pe_lc (own := [("sort", 2), ("worth", 3)]) (g := gTup K 2 (gCons (gName 2) (gCons (gName 3) gNil))) (tt := tYes) (by rfl) scOfSorts.nd (pi_zipA (by rfl) M.zip (pa_cons (pv 0) (pa_cons (pv 1) pa_nil))) (blkOk_by (N := ["sorts", "thing", "sort", "worth"]) (sc := defScope sOfSorts) (by decide +kernel)) (fun _ _ _ _ _ => (pg_tup rfl (pgs_cons (pg_name (i := 2) scOfSorts.nd rfl (Or.inl rfl)) (pgs_cons (pg_name (i := 3) scOfSorts.nd rfl (Or.inl rfl)) pgs_nil)))) (fun _ _ _ _ _ => pts_nil) (fun _ _ _ _ _ => (pe_df DS hr (by decide) (pa_cons (pv 2) (pa_cons (pv 3) pa_nil))))) pa_nil))))), ?_⟩
  refine rb_if (c := !tupOfD ss.length ss.length d) (yt_not (yt_b (yb_tup (yv_var rfl hd) (yn_lenT (yv_var rfl hu)) (yn_lenT (yv_var rfl hu))))) (fun e => yb_eq yb_c ?_) (fun e => rb_ret ?_) H _ (Same.refl H) q
  · unfold ofSorts
    show false = (tupOfD ss.length ss.length d && _)
    rw [show tupOfD ss.length ss.length d = false by simpa using e]
    rfl
  · have e : tupOfD ss.length ss.length d = true := by simpa using e
    obtain ⟨ds, rfl, _, _⟩ := tupOf_of e
    refine yb_eq (yb_allZT (p := sortWD) (yv_var rfl hu) (yv_var rfl hd) (by rw [List.length_zip]; omega) (fun _ _ => rfl) fun v1 v2 d1 d2 H' m s h1 h2 => yb_da2 (yv_var rfl h1) (yv_var rfl h2) ((ok_tup ok).2 d2 (List.of_mem_zip m).2) trivial) ?_
    unfold ofSorts
    show _ = (tupOfD ss.length ss.length (.tuple ds) && _)
    rw [e]
    rfl
end
end Sm
namespace Sm
open PySem PySem.Spec PyProof.Rows L2 Tn Vd RZ
/-! ### rules -/
def varNumD (d : PyData) : Bool := numD d && decide (intOf d < 20)
def varD (d : PyData) : Bool := tupOfD 2 2 d && (eqS (at_ d 0) "?" && varNumD (at_ d 1))
def termD (d : PyData) : Bool := worthD d || varD d
def blankT : PyData := .tuple [.str "any"]
/-- what stands in a condition of a drawn rule -/
def TermP (d : PyData) : Prop := okD d = true ∧ termD d = true
def AskP (d : PyData) : Prop := okD d = true ∧ (termD d = true ∨ d = blankT)
def AskedP (e n d : PyData) : Prop := ∃ x ts, n = .str x ∧ d = .tuple ts ∧ nameD n = true ∧ x ≠ "rule" ∧ okD n = true ∧ 1 ≤ ts.length ∧ ts.length ≤ 5 ∧ (∀ t ∈ ts, AskP t) ∧ (relOf e n = .none ∨ ∃ y k ss, relOf e n = .tuple [y, k, .tuple ss] ∧ ss.length = ts.length)
inductive CondP (e : PyData) : PyData → Prop
  | cmp (w : Str) (a b : PyData) : w ∈ (["less", "same", "unlike"] : List Str) → TermP a → TermP b → CondP e (.tuple [.str w, a, b])
  | ask (w : Str) (n t : PyData) : w ∈ (["is", "not"] : List Str) → AskedP e n t → CondP e (.tuple [.str w, n, t])
  | cnt (i n t : PyData) : okD i = true → varNumD i = true → AskedP e n t → CondP e (.tuple [.str "many", i, n, t])
def RuleP (e d : PyData) : Prop := ∃ x ts cs, d = .tuple [.tuple [.str x, .tuple ts], .tuple cs] ∧ nameD (.str x) = true ∧ x ≠ "rule" ∧ okD d = true ∧ relOf e (.str x) = .none ∧ 1 ≤ ts.length ∧ ts.length ≤ 5 ∧ (∀ t ∈ ts, TermP t) ∧ 1 ≤ cs.length ∧ cs.length ≤ 8 ∧ ∀ c ∈ cs, CondP e c
def RuleF (e d : PyData) : Prop := schD e = true ∧ (tupOfD 2 2 d = false ∨ RuleP e d)
section
variable {K : PySem.W.Frag} {σ : L2.St} {H : Hp} {ta tb tc : TE} {a b c : Bool} {d : PyData} {i j k : Int} {r r' : R2}
/-- a list or tuple of texts -/
def YZ (K : PySem.W.Frag) (te : TE) (σ : L2.St) (H : Hp) (zs : List Str) : Prop := ∀ (H1 : Hp) (Q : VK), Same H H1 → (∀ p H2, Same H1 H2 → (SqL K H2 p (zs.map V.str) ∨ SqT K H2 p (zs.map V.str)) → Q (.ref p) H2) → te σ H1 Q
theorem yb_inZ {zs : List Str} (ha : YV K ta σ H d) (hz : YZ K tb σ H zs) : YB (tOp (rInS K false) ta tb) σ H (inS d zs) := fun H1 Q s q => ha H1 _ s fun v H2 s2 hd => hz H2 _ (s.trans s2) fun p H3 s3 hp => ⟨d, p, zs, hd.same s3, rfl, hp, q H3 (s2.trans s3)⟩
theorem yb_notInZ {zs : List Str} (ha : YV K ta σ H d) (hz : YZ K tb σ H zs) : YB (tOp (rInS K true) ta tb) σ H (!inS d zs) := fun H1 Q s q => ha H1 _ s fun v H2 s2 hd => hz H2 _ (s.trans s2) fun p H3 s3 hp => ⟨d, p, zs, hd.same s3, rfl, hp, q H3 (s2.trans s3)⟩
theorem yz_tup {zs : List Str} {t : TA} (hz : zs.length ≤ 100) (ht : YSs t σ H zs) : YZ K (tTup t) σ H zs := fun H1 Q s q => ht H1 _ s fun H2 s2 => ⟨by rw [List.length_map, sizeLine_eq]; omega, fun p hp => q p _ (s2.trans (same_up hp)) (.inr (.inl (.inl upd_same)))⟩
theorem yz_c {zs : List Str} {p : Addr} (h : ∀ H, SqT K H p (zs.map V.str)) : YZ K (tC (.ref p)) σ H zs := fun H1 Q s q => q p H1 (Same.refl H1) (.inr (h H1))
theorem yz_if {t : TT} {xs ys : List Str} (ht : YT t σ H c) (ha : c = true → YZ K ta σ H xs) (hb : c = false → YZ K tb σ H ys) : YZ K (tIf t ta tb) σ H (if c = true then xs else ys) := fun H1 Q s q => ht H1 _ s fun H2 s2 =>
  tst (fun e => ha e H2 Q (s.trans s2) fun v H3 s3 hd => q v H3 (s2.trans s3) (by rw [e, if_pos rfl]; exact hd)) fun e => hb e H2 Q (s.trans s2) fun v H3 s3 hd => q v H3 (s2.trans s3) (by rw [e, if_neg Bool.false_ne_true]; exact hd)
/-- texts that are told -/
def RZs (K : PySem.W.Frag) (t : TS) (σ : L2.St) (H : Hp) (zs : List Str) : Prop := ∀ (H1 : Hp) (D : Ends), Same H H1 → (∀ p H2, Same H1 H2 → (SqL K H2 p (zs.map V.str) ∨ SqT K H2 p (zs.map V.str)) → D.rt (.ref p) H2) → t D σ H1
theorem rz_ret {zs : List Str} (h : YZ K ta σ H zs) : RZs K (tRet ta) σ H zs := fun H1 D s q => h H1 _ s q
theorem rz_if {tc : TT} {u : TS} {zs : List Str} (hc : YT tc σ H c) (ht : c = true → YZ K ta σ H zs) (hu : c = false → RZs K u σ H zs) : RZs K (tSeq (tIfS tc (tRet ta) tNext) u) σ H zs := fun H1 D s q => hc H1 _ s fun H2 s2 =>
  tst (fun e => ht e H2 _ (s.trans s2) fun v H3 s3 => q v H3 (s2.trans s3)) fun e => hu e H2 D (s.trans s2) fun v H3 s3 => q v H3 (s2.trans s3)
/-- x is not None -/
def isNn : PyData → Bool
  | .none => true
  | _ => false
theorem dd_non {v : V} (h : Dd K H v d) : decide (v = .non) = isNn d := by
  cases h <;> first | rfl | (show decide _ = false; exact decide_eq_false fun z => by cases z)
theorem yb_notN (ha : YV K ta σ H d) : YB (tOp (fun x y H Q => y = .non ∧ Q (.bl (!decide (x = .non))) H) ta (tC .non)) σ H (!isNn d) := fun H1 Q s q => ha H1 _ s fun v H2 s2 hd => ⟨rfl, by rw [dd_non hd]; exact q H2 s2⟩
theorem yb_isN (ha : YV K ta σ H d) : YB (tOp (fun x y H Q => y = .non ∧ Q (.bl (decide (x = .non))) H) ta (tC .non)) σ H (isNn d) := fun H1 Q s q => ha H1 _ s fun v H2 s2 hd => ⟨rfl, by rw [dd_non hd]; exact q H2 s2⟩
theorem yb_neI (ha : YN ta σ H i) (hb : YN tb σ H j) : YB (tOp rNe ta tb) σ H (!decide (i = j)) := yb_op (fun _ _ q => ⟨rfl, by rw [show decide (V.int i = V.int j) = decide (i = j) by rw [dec_int, Bool.eq_iff_iff]; simp]; exact q⟩) ha hb
theorem yb_eqI (ha : YN ta σ H i) (hb : YN tb σ H j) : YB (tOp rEq ta tb) σ H (decide (i = j)) := yb_op (fun _ _ q => ⟨rfl, by rw [show decide (V.int i = V.int j) = decide (i = j) by rw [dec_int, Bool.eq_iff_iff]; simp]; exact q⟩) ha hb
theorem yb_neS {x y : Str} (ha : YS ta σ H x) (hb : YS tb σ H y) : YB (tOp rNe ta tb) σ H (!decide (x = y)) := yb_ops (fun _ _ q => ⟨rfl, by rw [show decide (V.str x = V.str y) = decide (x = y) by rw [dec_str, Bool.eq_iff_iff]; simp]; exact q⟩) ha hb
theorem yb_eqSS {x y : Str} (ha : YS ta σ H x) (hb : YS tb σ H y) : YB (tOp rEq ta tb) σ H (decide (x = y)) := yb_ops (fun _ _ q => ⟨rfl, by rw [show decide (V.str x = V.str y) = decide (x = y) by rw [dec_str, Bool.eq_iff_iff]; simp]; exact q⟩) ha hb
end
structure NmK (K : PySem.W.Frag) (mg : Str → Option Value) : Prop where
  COMPARISONS : ∃ a, mg "COMPARISONS" = some (.ref a) ∧ ∀ H, SqT K H a [.str "less", .str "same", .str "unlike"]
  COUNTS : ∃ a, mg "COUNTS" = some (.ref a) ∧ ∀ H, SqT K H a [.str "many", .str "sum", .str "least", .str "greatest"]
  BLANK : ∃ a, mg "BLANK" = some (.ref a) ∧ ∀ H, SqT K H a [.str "any"]
section
variable {P : Program} {w : World} {K : PySem.W.Frag} {mg : Str → Option Value} {base : Heap}
abbrev sRuleOf : Stmt := top 36
abbrev sHead : Stmt := top 37
abbrev sAskedName : Stmt := top 38
abbrev sVarNum : Stmt := top 39
abbrev sVar : Stmt := top 40
abbrev sBlank : Stmt := top 41
abbrev sTerm : Stmt := top 42
abbrev sCond : Stmt := top 43
abbrev sCount : Stmt := top 44
abbrev sAreAsked : Stmt := top 46
theorem scAskedName : FnScope ["thing"] ["thing"] (defScope sAskedName) := ⟨rfl, rfl, rfl, by decide +kernel, rfl, by decide +kernel, by decide +kernel⟩
def askedD (d : PyData) : Bool := nameD d && !decide (strOf d = "rule")
theorem ok_askedName {f : Addr} {fd : FuncData} (F : FnP K "is_asked_name" sAskedName f fd) (DN : DA P w K mg base "is_name" 1 nameD) : FnOk P w K mg base CX0 2 f fd ["thing"] (spA K askedD) := by
  refine F.ok scAskedName spA_len (fun cdv A outer s H vs Q E hr h => ?_)
  obtain ⟨v, d, rfl, hd, ok, q⟩ := h
  refine ⟨_, PSs.nox (pss_one (ps_ret (pe_and (pe_df DN hr (by decide) (pa_cons (pv 0) pa_nil)) (pe_one (pe_cmpR op_ne (pv 0) pe_str (nomark _)))))), ?_⟩
  refine rb_ret (yb_and (yb_da (yv_var rfl hd) ok) fun e => ?_) H _ (Same.refl H) q
  obtain ⟨x, rfl⟩ := isS_of (Bool.and_eq_true_iff.mp e).1
  exact yb_neS (ys_v (yv_var rfl hd)) ys_c
theorem scVarNum : FnScope ["thing"] ["thing"] (defScope sVarNum) := ⟨rfl, rfl, rfl, by decide +kernel, rfl, by decide +kernel, by decide +kernel⟩
theorem ok_varNum {f : Addr} {fd : FuncData} (F : FnP K "is_variable_number" sVarNum f fd) (M : Nm mg) (DN : DA P w K mg base "is_number" 2 numD) : FnOk P w K mg base CX0 3 f fd ["thing"] (spA K varNumD) := by
  refine F.ok scVarNum spA_len (fun cdv A outer s H vs Q E hr h => ?_)
  obtain ⟨v, d, rfl, hd, ok, q⟩ := h
  refine ⟨_, PSs.nox (pss_one (ps_ret (pe_and (pe_df DN hr (by decide) (pa_cons (pv 0) pa_nil)) (pe_one (pe_cmpR op_lt (pv 0) (pe_glob (v := .int 20) (by rfl) (M.VARIABLES).choose_spec ⟨_, rfl⟩) (nomark _)))))), ?_⟩
  refine rb_ret (yb_and (yb_da (yv_var rfl hd) ok) fun e => ?_) H _ (Same.refl H) q
  obtain ⟨i, rfl⟩ := intD_of (Bool.and_eq_true_iff.mp e).1
  exact yb_op (fun _ _ q => ⟨_, _, rfl, rfl, q⟩) (yn_v (yv_var rfl hd)) yn_c
theorem scVar : FnScope ["thing"] ["thing"] (defScope sVar) := ⟨rfl, rfl, rfl, by decide +kernel, rfl, by decide +kernel, by decide +kernel⟩
theorem ok_var {f : Addr} {fd : FuncData} (F : FnP K "is_variable" sVar f fd) (DT : DTup P w K mg base) (DN : DA P w K mg base "is_variable_number" 3 varNumD) : FnOk P w K mg base CX0 4 f fd ["thing"] (spA K varD) := by
  refine F.ok scVar spA_len (fun cdv A outer s H vs Q E hr h => ?_)
  obtain ⟨v, d, rfl, hd, ok, q⟩ := h
  refine ⟨_, PSs.nox (pss_one (ps_ret (pe_and (pe_df DT hr (by decide) (pa_cons (pv 0) (pa_cons pe_int (pa_cons pe_int pa_nil)))) (pe_and (pe_cmpR (op_eqS (hu_of1 hr)) (pe_ix ix_tup (pv 0) pe_int (fun _ _ => rfl)) pe_str (nomark _)) (pe_one (pe_df DN hr (by decide) (pa_cons (pe_ix ix_tup (pv 0) pe_int (fun _ _ => rfl)) pa_nil))))))), ?_⟩
  refine rb_ret (yb_eq (yb_and (yb_tup (yv_var rfl hd) yn_c yn_c) fun e => ?_) rfl) H _ (Same.refl H) q
  obtain ⟨x, y, rfl⟩ := tup2 e
  exact yb_and (yb_eqS (yv_ix (m := 0) (yv_var rfl hd) yn_c rfl) ys_c) fun _ => yb_da (yv_ix (m := 1) (yv_var rfl hd) yn_c rfl) ((ok_tup ok).2 y (by simp))
theorem scBlank : FnScope ["thing"] ["thing"] (defScope sBlank) := ⟨rfl, rfl, rfl, by decide +kernel, rfl, by decide +kernel, by decide +kernel⟩
def spBlank (K : PySem.W.Frag) : Sp := fun vs H Q _ => ∃ v : V, vs = [v] ∧ Dd K H v blankT ∧ ∀ H', Same H H' → Q (.bl true) H'
theorem ok_blank {f : Addr} {fd : FuncData} (F : FnP K "is_blank" sBlank f fd) (M : Nm mg) (N : NmK K mg) : FnOk P w K mg base CX0 1 f fd ["thing"] (spBlank K) := by
  refine F.ok scBlank (fun vs H Q E h => ?_) (fun cdv A outer s H vs Q E hr h => ?_)
  · obtain ⟨v, rfl, _⟩ := h
    rfl
  obtain ⟨v, rfl, hd, q⟩ := h
  obtain ⟨a, ha, hs⟩ := N.BLANK
  refine ⟨_, PSs.nox (pss_one (ps_ret (pe_and (pe_callB (id := "isinstance") (r := rIsi K) call_isi (by rfl) M.isinstance (by decide +kernel) (pa_cons (pv 0) (pa_cons (ty_cls (n := "tuple") M.tuple (by rfl) (by decide +kernel)) pa_nil))) (pe_one (pe_cmpR (op_eqD (hu_of64 hr)) (pv 0) (pe_glob (v := .ref a) (by rfl) ha rfl) (nomark _)))))), ?_⟩
  obtain ⟨p, xs, rfl, h0, h2⟩ := ofTup hd
  obtain ⟨u, r, rfl, g1, g2⟩ := dall_uncons h2
  cases dall_unnil g2
  cases g1
  exact ⟨_, rfl, _, _, _, _, _, rfl, .ty _, tyx hd, kit_ty (kT _), _, rfl, iteT ⟨_, rfl, .tuple [.str "any"], .tuple [.str "any"], .tup h0.sq (.cons (.str _) .nil), .tup (hs _) (.cons (.str _) .nil), by decide +kernel, by decide +kernel, q H (Same.refl H)⟩⟩
theorem yb_blank {ta : TE} {σ : L2.St} {H : Hp} (ha : YV K ta σ H blankT) : YB (tCall (spBlank K) [] E0 (tCons ta tNil)) σ H true := fun H1 Q s q => ha H1 _ s fun v H2 s2 hd => ⟨v, rfl, hd, fun H3 s3 => q H3 (s2.trans s3)⟩
theorem scTerm : FnScope ["thing"] ["thing"] (defScope sTerm) := ⟨rfl, rfl, rfl, by decide +kernel, rfl, by decide +kernel, by decide +kernel⟩
theorem ok_term {f : Addr} {fd : FuncData} (F : FnP K "is_term" sTerm f fd) (DW : DA P w K mg base "is_worth" 3 worthD) (DV : DA P w K mg base "is_variable" 4 varD) : FnOk P w K mg base CX0 5 f fd ["thing"] (spA K termD) := by
  refine F.ok scTerm spA_len (fun cdv A outer s H vs Q E hr h => ?_)
  obtain ⟨v, d, rfl, hd, ok, q⟩ := h
  refine ⟨_, PSs.nox (pss_one (ps_ret (pe_or (pe_df DW hr (by decide) (pa_cons (pv 0) pa_nil)) (pe_one (pe_df DV hr (by decide) (pa_cons (pv 0) pa_nil)))))), ?_⟩
  exact rb_ret (yb_or (yb_da (yv_var rfl hd) ok) fun _ => yb_da (yv_var rfl hd) ok) H _ (Same.refl H) q
/-! are_asked -/
def spAsked (K : PySem.W.Frag) : Sp := fun vs H Q _ => ∃ (u v x : V) (e n d : PyData), vs = [u, v, x] ∧ Dd K H u e ∧ Dd K H v n ∧ Dd K H x d ∧ schD e = true ∧ AskedP e n d ∧ ∀ H', Same H H' → Q (.bl true) H'
theorem yb_asked {ta tb tc : TE} {σ : L2.St} {H : Hp} {e n d : PyData} (ha : YV K ta σ H e) (hb : YV K tb σ H n) (hc : YV K tc σ H d) (hs : schD e = true) (hp : AskedP e n d) : YB (tCall (spAsked K) [] E0 (tCons ta (tCons tb (tCons tc tNil)))) σ H true := fun H1 Q s q => ha H1 _ s fun u H2 s2 hu => hb H2 _ (s.trans s2) fun v H3 s3 hv => hc H3 _ ((s.trans s2).trans s3) fun x H4 s4 hx =>
  ⟨u, v, x, e, n, d, rfl, hu.same (s3.trans s4), hv.same s4, hx, hs, hp, fun H5 s5 => q H5 (((s2.trans s3).trans s4).trans s5)⟩
theorem scAreAsked : FnScope ["schema", "name", "thing", "relation", "part"] ["schema", "name", "thing"] (defScope sAreAsked) := ⟨rfl, rfl, rfl, by decide +kernel, rfl, by decide +kernel, by decide +kernel⟩
theorem all_true {ds : List PyData} : ds.all (fun _ => true) = true := List.all_eq_true.mpr fun _ _ => rfl
theorem tupOf_true {lo hi : Int} {ds : List PyData} (h1 : lo ≤ (ds.length : Int)) (h2 : (ds.length : Int) ≤ hi) : tupOfD lo hi (.tuple ds) = true := by
  unfold tupOfD
  show (true && (decide (lo ≤ (ds.length : Int)) && decide ((ds.length : Int) ≤ hi))) = true
  rw [decide_eq_true h1, decide_eq_true h2]
  rfl
theorem ok_areAsked {f : Addr} {fd : FuncData} (F : FnP K "are_asked" sAreAsked f fd) (M : Nm mg) (DT : DTup P w K mg base) (DN : DA P w K mg base "is_asked_name" 2 askedD) (DR : Df P w K mg base "relation_of" 1 ["schema", "name"] (spRelOf K)) (DM : DA P w K mg base "is_term" 5 termD) (DB : Df P w K mg base "is_blank" 1 ["thing"] (spBlank K)) : FnOk P w K mg base CX0 6 f fd ["schema", "name", "thing"] (spAsked K) := by
  refine F.ok scAreAsked (fun vs H Q E h => ?_) (fun cdv A outer s H vs Q E hr h => ?_)
  · obtain ⟨u, v, x, e, n, d, rfl, _⟩ := h
    rfl
  obtain ⟨u, v, x, e, n, d, rfl, hu, hv, hx, hs, ⟨z, ts, rfl, rfl, hn, hz, okn, l1, l2, ht, hrel⟩, q⟩ := h
  refine ⟨_, PSs.nox (pss_cons (ps_if (PW.pt (pw_or (pt_not (pt_val (pe_df DN hr (by decide) (pa_cons (pv 1) pa_nil)))) (pw_or1 (pt_not (pt_val (pe_df DT hr (by decide) (pa_cons (pv 2) (pa_cons pe_int (pa_cons pe_int pa_nil))))))))) (pss_one (ps_ret pe_bl)) pss_nil)
      (pss_cons (ps_set (i := 3) scAreAsked.nd rfl (Or.inl rfl) (pe_df DR hr (by decide) (pa_cons (pv 0) (pa_cons (pv 1) pa_nil))))
      (pss_cons (ps_if (PW.pt (pw_and (pt_cmpR op_notN (pv 3) pe_non (nomark _)) (pw_and1 (pt_cmpR op_ne (pe_callB call_len_seq (by rfl) M.len PySem.boot_len (pa_cons (pv 2) pa_nil)) (pe_callB call_len_seq (by rfl) M.len PySem.boot_len (pa_cons (pe_ix ix_tup (pv 3) pe_int (fun _ _ => rfl)) pa_nil)) (nomark _))))) (pss_one (ps_ret pe_bl)) pss_nil)
      (pss_one (ps_ret (pe_callB (r := rAll K) (cr_all rfl) (by rfl) M.all (by decide +kernel) (pa_cons (pe_lc (own := [("part", 4)]) (g := gName 4) (tt := tYes) (by rfl) scAreAsked.nd (pi_tup (pv 2)) (blkOk_by (N := ["schema", "name", "thing", "relation", "part"]) (sc := defScope sAreAsked) (by decide +kernel)) (fun _ _ _ _ _ => pg_name (i := 4) scAreAsked.nd rfl (Or.inl rfl)) (fun _ _ _ _ _ => pts_nil) (fun _ _ _ _ _ => (pe_or (pe_df DM hr (by decide) (pa_cons (pv 4) pa_nil)) (pe_one (pe_df DB hr (by decide) (pa_cons (pv 4) pa_nil)))))) pa_nil))))))), ?_⟩
  have ez : askedD (.str z) = true := by
    unfold askedD
    rw [hn, show decide (strOf (.str z) = ("rule" : Str)) = false from decide_eq_false hz]
    rfl
  have et : tupOfD 1 5 (.tuple ts) = true := tupOf_true (by omega) (by omega)
  refine rb_if (c := !askedD (.str z) || !tupOfD 1 5 (.tuple ts)) (yt_or (yt_not (yt_b (yb_da (yv_var rfl hv) okn))) fun _ => yt_not (yt_b (yb_tup (yv_var rfl hx) yn_c yn_c))) (fun e => by rw [ez, et] at e; cases e) (fun _ => ?_) H _ (Same.refl H) q
  refine rb_asg1 (yv_relOf (yv_var rfl hu) (yv_var rfl hv) hs) fun v4 H4 s4 h4 => ?_
  have hx4 := hx.same s4
  refine rb_if (c := false) ?_ (fun e => by cases e) fun _ => rb_ret (yb_eq (yb_allT (p := fun _ => true) (yv_var rfl hx4) (by omega) (fun _ => rfl) fun vp dp H' m s hp => ?_) all_true)
  · rcases hrel with e | ⟨y, k, ss, e, hl⟩
    · rw [e] at h4
      exact yt_and (a := false) (b := false) (yt_t (yb_notN (yv_var rfl h4))) fun e => by cases e
    · rw [e] at h4
      refine yt_and (a := true) (b := false) (yt_t (yb_notN (yv_var rfl h4))) fun _ => yt_t (yb_eq (yb_neI (yn_lenT (yv_var rfl hx4)) (yn_lenT (yv_ix (m := 2) (yv_var rfl h4) yn_c rfl))) ?_)
      rw [hl]
      simp
  · obtain ⟨okp, hp2⟩ := ht dp m
    refine yb_eq (yb_or (b := true) (yb_da (yv_var rfl hp) okp) fun e => ?_) (by cases termD dp <;> rfl)
    rcases hp2 with h | rfl
    · rw [h] at e
      cases e
    · exact yb_blank (yv_var rfl hp)
/-! is_count_condition, is_condition -/
def spCond (K : PySem.W.Frag) (Pc : PyData → PyData → Prop) : Sp := fun vs H Q _ => ∃ (u v : V) (e d : PyData), vs = [u, v] ∧ Dd K H u e ∧ Dd K H v d ∧ schD e = true ∧ Pc e d ∧ ∀ H', Same H H' → Q (.bl true) H'
theorem yb_cond {Pc : PyData → PyData → Prop} {ta tb : TE} {σ : L2.St} {H : Hp} {e d : PyData} (ha : YV K ta σ H e) (hb : YV K tb σ H d) (hs : schD e = true) (hp : Pc e d) : YB (tCall (spCond K Pc) [] E0 (tCons ta (tCons tb tNil))) σ H true := fun H1 Q s q => ha H1 _ s fun u H2 s2 hu => hb H2 _ (s.trans s2) fun v H3 s3 hv =>
  ⟨u, v, e, d, rfl, hu.same s3, hv, hs, hp, fun H5 s5 => q H5 ((s2.trans s3).trans s5)⟩
def CntP (e d : PyData) : Prop := ∃ i n t, d = .tuple [.str "many", i, n, t] ∧ okD i = true ∧ varNumD i = true ∧ AskedP e n t
theorem scCount : FnScope ["schema", "thing"] ["schema", "thing"] (defScope sCount) := ⟨rfl, rfl, rfl, by decide +kernel, rfl, by decide +kernel, by decide +kernel⟩
theorem ok_count {f : Addr} {fd : FuncData} (F : FnP K "is_count_condition" sCount f fd) (M : Nm mg) (DV : DA P w K mg base "is_variable_number" 3 varNumD) (DA' : Df P w K mg base "are_asked" 6 ["schema", "name", "thing"] (spAsked K)) {kb : Nat} (hkb : kb ≤ 6) {spb : Sp} (DB : Df P w K mg base "is_place_of_blank" kb ["terms", "thing"] spb) : FnOk P w K mg base CX0 7 f fd ["schema", "thing"] (spCond K CntP) := by
  refine F.ok scCount (fun vs H Q E h => ?_) (fun cdv A outer s H vs Q E hr h => ?_)
  · obtain ⟨u, v, e, d, rfl, _⟩ := h
    rfl
  obtain ⟨u, v, e, d, rfl, hu, hv, hs, ⟨i, n, t, rfl, oki, hi, hp⟩, q⟩ := h
  refine ⟨_, PSs.nox (pss_cons (ps_if (pt_cmpR op_ne (pe_callB call_len_seq (by rfl) M.len PySem.boot_len (pa_cons (pv 1) pa_nil)) (pe_ifExp (pt_cmpR op_eq (pe_ix ix_tup (pv 1) pe_int (fun _ _ => rfl)) pe_str (nomark _)) pe_int pe_int) (nomark _)) (pss_one (ps_ret pe_bl)) pss_nil)
      (pss_cons (ps_if (PW.pt (pw_or (pt_not (pt_val (pe_df DV hr (by decide) (pa_cons (pe_ix ix_tup (pv 1) pe_int (fun _ _ => rfl)) pa_nil)))) (pw_or1 (pt_not (pt_val (pe_df DA' hr (by decide) (pa_cons (pv 0) (pa_cons (pe_ix ix_tup (pv 1) pe_int (fun _ _ => rfl)) (pa_cons (pe_ix ix_tup (pv 1) pe_int (fun _ _ => rfl)) pa_nil))))))))) (pss_one (ps_ret pe_bl)) pss_nil)
      (pss_one (ps_ret (pe_or (pe_cmpR op_eq (pe_ix ix_tup (pv 1) pe_int (fun _ _ => rfl)) pe_str (nomark _)) (pe_one (pe_df DB hr hkb (pa_cons (pe_ix ix_tup (pv 1) pe_int (fun _ _ => rfl)) (pa_cons (pe_ix ix_tup (pv 1) pe_int (fun _ _ => rfl)) pa_nil))))))))), ?_⟩
  have e4 : YB (tOp rEq (tOp (rIxT K) (tVar 1) (tC (.int 0))) (tC (.str "many"))) (L2.start ["schema", "thing"] [u, v]) H true := yb_eq (yb_eqSS (ys_v (yv_ix (m := 0) (yv_var rfl hv) yn_c rfl)) ys_c) (by decide)
  refine rb_if (c := false) (yt_t (yb_eq (yb_neI (yn_lenT (yv_var rfl hv)) (yn_if (c := true) (i := 4) (j := 5) (yt_t e4) (fun _ => yn_c) fun _ => yn_c)) (by simp))) (fun e => by cases e) (fun _ => ?_) H _ (Same.refl H) q
  refine rb_if (c := false) (yt_or (a := false) (b := false) (yt_not (yt_b (yb_eq (yb_da (yv_ix (m := 1) (yv_var rfl hv) yn_c rfl) oki) hi))) fun _ => yt_not (yt_b (yb_asked (yv_var rfl hu) (yv_ix (m := 2) (yv_var rfl hv) yn_c rfl) (yv_ix (m := 3) (yv_var rfl hv) yn_c rfl) hs hp))) (fun e => by cases e) fun _ => rb_ret ?_
  exact yb_or (a := true) (b := true) e4 fun e => by cases e
theorem scCond : FnScope ["schema", "thing", "word"] ["schema", "thing"] (defScope sCond) := ⟨rfl, rfl, rfl, by decide +kernel, rfl, by decide +kernel, by decide +kernel⟩
theorem ok_cond {f : Addr} {fd : FuncData} (F : FnP K "is_condition" sCond f fd) (M : Nm mg) (N : NmK K mg) (DT : DTup P w K mg base) (DM : DA P w K mg base "is_term" 5 termD) (DA' : Df P w K mg base "are_asked" 6 ["schema", "name", "thing"] (spAsked K)) (DC : Df P w K mg base "is_count_condition" 7 ["schema", "thing"] (spCond K CntP)) : FnOk P w K mg base CX0 8 f fd ["schema", "thing"] (spCond K CondP) := by
  refine F.ok scCond (fun vs H Q E h => ?_) (fun cdv A outer s H vs Q E hr h => ?_)
  · obtain ⟨u, v, e, d, rfl, _⟩ := h
    rfl
  obtain ⟨u, v, e, d, rfl, hu, hv, hs, hp, q⟩ := h
  obtain ⟨ac, mc, hc⟩ := N.COMPARISONS
  obtain ⟨an, mn, hn⟩ := N.COUNTS
  refine ⟨_, PSs.nox (pss_cons (ps_if (pt_not (pt_val (pe_df DT hr (by decide) (pa_cons (pv 1) (pa_cons pe_int (pa_cons pe_int pa_nil)))))) (pss_one (ps_ret pe_bl)) pss_nil)
      (pss_cons (ps_set (i := 2) scCond.nd rfl (Or.inl rfl) (pe_ix ix_tup (pv 1) pe_int (fun _ _ => rfl)))
      (pss_cons (ps_if (pt_cmpR (op_inS' (hu_of hr)) (pv 2) (pe_glob (v := .ref ac) (by rfl) mc rfl) (by rfl)) (pss_one (ps_ret (pe_and (pe_cmpR op_eq (pe_callB call_len_seq (by rfl) M.len PySem.boot_len (pa_cons (pv 1) pa_nil)) pe_int (nomark _)) (pe_and (pe_df DM hr (by decide) (pa_cons (pe_ix ix_tup (pv 1) pe_int (fun _ _ => rfl)) pa_nil)) (pe_one (pe_df DM hr (by decide) (pa_cons (pe_ix ix_tup (pv 1) pe_int (fun _ _ => rfl)) pa_nil))))))) pss_nil)
      (pss_cons (ps_if (pt_cmpR (op_inS' (hu_of hr)) (pv 2) (pe_tup (pa_cons pe_str (pa_cons pe_str pa_nil))) (by rfl)) (pss_one (ps_ret (pe_and (pe_cmpR op_eq (pe_callB call_len_seq (by rfl) M.len PySem.boot_len (pa_cons (pv 1) pa_nil)) pe_int (nomark _)) (pe_one (pe_df DA' hr (by decide) (pa_cons (pv 0) (pa_cons (pe_ix ix_tup (pv 1) pe_int (fun _ _ => rfl)) (pa_cons (pe_ix ix_tup (pv 1) pe_int (fun _ _ => rfl)) pa_nil)))))))) pss_nil)
      (pss_one (ps_ret (pe_and (pe_cmpR (op_inS' (hu_of hr)) (pv 2) (pe_glob (v := .ref an) (by rfl) mn rfl) (by rfl)) (pe_one (pe_df DC hr (by decide) (pa_cons (pv 0) (pa_cons (pv 1) pa_nil))))))))))), ?_⟩
  cases hp with
  | cmp wd a b hw ha hb =>
    refine rb_if (c := false) (yt_not (yt_b (yb_eq (yb_tup (yv_var rfl hv) yn_c yn_c) (tupOf_true (by simp) (by simp))))) (fun e => by cases e) (fun _ => ?_) H _ (Same.refl H) q
    refine rb_asg1 (yv_ix (m := 0) (yv_var rfl hv) yn_c rfl) fun v4 H4 s4 h4 => ?_
    have hv4 := hv.same s4
    refine rb_if (c := true) (yt_t (yb_eq (yb_inZ (yv_var rfl h4) (yz_c (zs := ["less", "same", "unlike"]) hc)) ?_)) (fun _ => ?_) fun e => by cases e
    · exact (by decide +kernel : ∀ x ∈ (["less", "same", "unlike"] : List Str), inS (.str x) ["less", "same", "unlike"] = true) wd hw
    · exact yb_and (a := true) (b := true) (yb_eq (yb_eqI (yn_lenT (yv_var rfl hv4)) yn_c) (by simp)) fun _ => yb_and (a := true) (b := true) (yb_eq (yb_da (yv_ix (m := 1) (yv_var rfl hv4) yn_c rfl) ha.1) ha.2) fun _ => yb_eq (yb_da (yv_ix (m := 2) (yv_var rfl hv4) yn_c rfl) hb.1) hb.2
  | ask wd n t hw hp =>
    refine rb_if (c := false) (yt_not (yt_b (yb_eq (yb_tup (yv_var rfl hv) yn_c yn_c) (tupOf_true (by simp) (by simp))))) (fun e => by cases e) (fun _ => ?_) H _ (Same.refl H) q
    refine rb_asg1 (yv_ix (m := 0) (yv_var rfl hv) yn_c rfl) fun v4 H4 s4 h4 => ?_
    have hv4 := hv.same s4
    have hu4 := hu.same s4
    refine rb_if (c := false) (yt_t (yb_eq (yb_inZ (yv_var rfl h4) (yz_c (zs := ["less", "same", "unlike"]) hc)) ?_)) (fun e => by cases e) fun _ => ?_
    · exact (by decide +kernel : ∀ x ∈ (["is", "not"] : List Str), inS (.str x) ["less", "same", "unlike"] = false) wd hw
    refine rb_if (c := true) (yt_t (yb_eq (yb_inS (yv_var rfl h4) (zs := ["is", "not"]) (by decide) (yss_cons ys_c (yss_cons ys_c yss_nil))) ?_)) (fun _ => ?_) fun e => by cases e
    · exact (by decide +kernel : ∀ x ∈ (["is", "not"] : List Str), inS (.str x) ["is", "not"] = true) wd hw
    · exact yb_and (a := true) (b := true) (yb_eq (yb_eqI (yn_lenT (yv_var rfl hv4)) yn_c) (by simp)) fun _ => yb_asked (yv_var rfl hu4) (yv_ix (m := 1) (yv_var rfl hv4) yn_c rfl) (yv_ix (m := 2) (yv_var rfl hv4) yn_c rfl) hs hp
  | cnt i n t oki hi hp =>
    refine rb_if (c := false) (yt_not (yt_b (yb_eq (yb_tup (yv_var rfl hv) yn_c yn_c) (tupOf_true (by simp) (by simp))))) (fun e => by cases e) (fun _ => ?_) H _ (Same.refl H) q
    refine rb_asg1 (yv_ix (m := 0) (yv_var rfl hv) yn_c rfl) fun v4 H4 s4 h4 => ?_
    have hv4 := hv.same s4
    have hu4 := hu.same s4
    refine rb_if (c := false) (yt_t (yb_eq (yb_inZ (yv_var rfl h4) (yz_c (zs := ["less", "same", "unlike"]) hc)) (by decide +kernel))) (fun e => by cases e) fun _ => ?_
    refine rb_if (c := false) (yt_t (yb_eq (yb_inS (yv_var rfl h4) (zs := ["is", "not"]) (by decide) (yss_cons ys_c (yss_cons ys_c yss_nil))) (by decide +kernel))) (fun e => by cases e) fun _ => rb_ret ?_
    exact yb_and (a := true) (b := true) (yb_eq (yb_inZ (yv_var rfl h4) (yz_c (zs := ["many", "sum", "least", "greatest"]) hn)) (by decide +kernel)) fun _ => yb_cond (yv_var rfl hu4) (yv_var rfl hv4) hs ⟨i, n, t, rfl, oki, hi, hp⟩
/-! is_head, is_rule_of -/
def HeadP (e d : PyData) : Prop := ∃ x ts, d = .tuple [.str x, .tuple ts] ∧ nameD (.str x) = true ∧ x ≠ "rule" ∧ okD (.str x) = true ∧ relOf e (.str x) = .none ∧ 1 ≤ ts.length ∧ ts.length ≤ 5 ∧ ∀ t ∈ ts, TermP t
theorem scHead : FnScope ["schema", "thing", "name", "terms", "term"] ["schema", "thing"] (defScope sHead) := ⟨rfl, rfl, rfl, by decide +kernel, rfl, by decide +kernel, by decide +kernel⟩
theorem ok_head {f : Addr} {fd : FuncData} (F : FnP K "is_head" sHead f fd) (M : Nm mg) (DT : DTup P w K mg base) (DN : DA P w K mg base "is_asked_name" 2 askedD) (DR : Df P w K mg base "relation_of" 1 ["schema", "name"] (spRelOf K)) (DM : DA P w K mg base "is_term" 5 termD) : FnOk P w K mg base CX0 6 f fd ["schema", "thing"] (spCond K HeadP) := by
  refine F.ok scHead (fun vs H Q E h => ?_) (fun cdv A outer s H vs Q E hr h => ?_)
  · obtain ⟨u, v, e, d, rfl, _⟩ := h
    rfl
  obtain ⟨u, v, e, d, rfl, hu, hv, hs, ⟨x, ts, rfl, hn, hx, okx, hrel, l1, l2, ht⟩, q⟩ := h
  refine ⟨_, PSs.nox (pss_cons (ps_if (pt_not (pt_val (pe_df DT hr (by decide) (pa_cons (pv 1) (pa_cons pe_int (pa_cons pe_int pa_nil)))))) (pss_one (ps_ret pe_bl)) pss_nil)
      (pss_cons (ps_asg (pv 1) (pg_tup rfl (pgs_cons (pg_name (i := 2) scHead.nd rfl (Or.inl rfl)) (pgs_cons (pg_name (i := 3) scHead.nd rfl (Or.inl rfl)) pgs_nil))))
      (pss_cons (ps_if (PW.pt (pw_or (pt_not (pt_val (pe_df DN hr (by decide) (pa_cons (pv 2) pa_nil)))) (pw_or1 (pt_cmpR op_notN (pe_df DR hr (by decide) (pa_cons (pv 0) (pa_cons (pv 2) pa_nil))) pe_non (nomark _))))) (pss_one (ps_ret pe_bl)) pss_nil)
      (pss_one (ps_ret (pe_and (pe_df DT hr (by decide) (pa_cons (pv 3) (pa_cons pe_int (pa_cons pe_int pa_nil)))) (pe_one (pe_callB (r := rAll K) (cr_all rfl) (by rfl) M.all (by decide +kernel) (pa_cons (pe_lc (own := [("term", 4)]) (g := gName 4) (tt := tYes) (by rfl) scHead.nd (pi_tup (pv 3)) (blkOk_by (N := ["schema", "thing", "name", "terms", "term"]) (sc := defScope sHead) (by decide +kernel)) (fun _ _ _ _ _ => pg_name (i := 4) scHead.nd rfl (Or.inl rfl)) (fun _ _ _ _ _ => pts_nil) (fun _ _ _ _ _ => (pe_df DM hr (by decide) (pa_cons (pv 4) pa_nil)))) pa_nil))))))))), ?_⟩
  have ez : askedD (.str x) = true := by
    unfold askedD
    rw [hn, show decide (strOf (.str x) = ("rule" : Str)) = false from decide_eq_false hx]
    rfl
  refine rb_if (c := false) (yt_not (yt_b (yb_eq (yb_tup (yv_var rfl hv) yn_c yn_c) (tupOf_true (by simp) (by simp))))) (fun e => by cases e) (fun _ => ?_) H _ (Same.refl H) q
  refine rb_un2 (yv_var rfl hv) fun v1 v2 H4 s4 h1 h2 => ?_
  have hu4 := hu.same s4
  refine rb_if (c := false) (yt_or (a := false) (b := false) (yt_not (yt_b (yb_eq (yb_da (yv_var rfl h1) okx) ez))) fun _ => yt_t (yb_eq (yb_notN (yv_relOf (yv_var rfl hu4) (yv_var rfl h1) hs)) (by rw [hrel]; rfl))) (fun e => by cases e) fun _ => rb_ret ?_
  exact yb_and (a := true) (b := true) (yb_eq (yb_tup (yv_var rfl h2) yn_c yn_c) (tupOf_true (by omega) (by omega))) fun _ => yb_eq (yb_allT (p := fun _ => true) (yv_var rfl h2) (by omega) (fun _ => rfl) fun vp dp H' m s hp => yb_eq (yb_da (yv_var rfl hp) (ht dp m).1) (ht dp m).2) all_true
theorem scRuleOf : FnScope ["schema", "thing", "head", "body", "condition"] ["schema", "thing"] (defScope sRuleOf) := ⟨rfl, rfl, rfl, by decide +kernel, rfl, by decide +kernel, by decide +kernel⟩
theorem ok_ruleOf {f : Addr} {fd : FuncData} (F : FnP K "is_rule_of" sRuleOf f fd) (M : Nm mg) (DT : DTup P w K mg base) (DH : Df P w K mg base "is_head" 6 ["schema", "thing"] (spCond K HeadP)) (DC : Df P w K mg base "is_condition" 8 ["schema", "thing"] (spCond K CondP)) : FnOk P w K mg base CX0 9 f fd ["schema", "thing"] (spA2 K RuleF fun _ d => tupOfD 2 2 d) := by
  refine F.ok scRuleOf spA2_len (fun cdv A outer s H vs Q E hr h => ?_)
  obtain ⟨u, v, e, d, rfl, hu, hv, ok, ⟨hs, hp⟩, q⟩ := h
  refine ⟨_, PSs.nox (pss_cons (ps_if (pt_not (pt_val (pe_df DT hr (by decide) (pa_cons (pv 1) (pa_cons pe_int (pa_cons pe_int pa_nil)))))) (pss_one (ps_ret pe_bl)) pss_nil)
      (pss_cons (ps_asg (pv 1) (pg_tup rfl (pgs_cons (pg_name (i := 2) scRuleOf.nd rfl (Or.inl rfl)) (pgs_cons (pg_name (i := 3) scRuleOf.nd rfl (Or.inl rfl)) pgs_nil))))
      (pss_cons (ps_if (PW.pt (pw_or (pt_not (pt_val (pe_df DH hr (by decide) (pa_cons (pv 0) (pa_cons (pv 2) pa_nil))))) (pw_or1 (pt_not (pt_val (pe_df DT hr (by decide) (pa_cons (pv 3) (pa_cons pe_int (pa_cons pe_int pa_nil))))))))) (pss_one (ps_ret pe_bl)) pss_nil)
      (pss_one (ps_ret (pe_callB (r := rAll K) (cr_all rfl) (by rfl) M.all (by decide +kernel) (pa_cons (pe_lc (own := [("condition", 4)]) (g := gName 4) (tt := tYes) (by rfl) scRuleOf.nd (pi_tup (pv 3)) (blkOk_by (N := ["schema", "thing", "head", "body", "condition"]) (sc := defScope sRuleOf) (by decide +kernel)) (fun _ _ _ _ _ => pg_name (i := 4) scRuleOf.nd rfl (Or.inl rfl)) (fun _ _ _ _ _ => pts_nil) (fun _ _ _ _ _ => (pe_df DC hr (by decide) (pa_cons (pv 0) (pa_cons (pv 4) pa_nil))))) pa_nil))))))), ?_⟩
  refine rb_if (c := !tupOfD 2 2 d) (yt_not (yt_b (yb_tup (yv_var rfl hv) yn_c yn_c))) (fun e => yb_eq yb_c (by cases h : tupOfD 2 2 d <;> simp [h] at e ⊢)) (fun e => ?_) H _ (Same.refl H) q
  have e2 : tupOfD 2 2 d = true := by simpa using e
  rcases hp with hp | ⟨x, ts, cs, rfl, hn, hx, okx, hrel, l1, l2, ht, l3, l4, hc⟩
  · rw [hp] at e2
    cases e2
  refine rb_un2 (yv_var rfl hv) fun v1 v2 H4 s4 h1 h2 => ?_
  have hu4 := hu.same s4
  have okh := (ok_tup ok).2 (.tuple [.str x, .tuple ts]) (by simp)
  have okx2 := (ok_tup okh).2 (.str x) (by simp)
  refine rb_if (c := false) (yt_or (a := false) (b := false) (yt_not (yt_b (yb_cond (yv_var rfl hu4) (yv_var rfl h1) hs ⟨x, ts, rfl, hn, hx, okx2, hrel, l1, l2, ht⟩))) fun _ => yt_not (yt_b (yb_eq (yb_tup (yv_var rfl h2) yn_c yn_c) (tupOf_true (by omega) (by omega))))) (fun e => by cases e) fun _ => rb_ret ?_
  exact yb_eq (yb_allT (p := fun _ => true) (yv_var rfl h2) (by omega) (fun _ => rfl) fun vp dp H' m s hp => yb_cond (yv_var rfl (hu4.same s)) (yv_var rfl hp) hs (hc dp m)) (all_true.trans e2.symm)
end
end Sm
namespace Sm
open PySem PySem.Spec PyProof.Rows L2 Tn Vd RZ
/-! ### deeds -/
def amountD (d : PyData) : Bool := smallD d && !decide (intOf d = 0)
def lifeD (d : PyData) : Bool := intD d && (decide (1 ≤ intOf d) && decide (intOf d ≤ 999))
def fromOneD (d : PyData) : Bool := numD d && decide (0 < intOf d)
def wordsD (k : PyData) : List Str := if eqS k "bag" = true then ["bring", "drop"] else (if eqS k "sum" = true then ["add"] else ["put", "take"])
def lenD (d : PyData) : Nat := (partsD d).length
def headD (s : PyData) : PyData := .tuple ((partsD s).dropLast)
def takeD (s k : PyData) : PyData := .tuple ((partsD s).take (intOf k).toNat)
def factDeedD (r d : PyData) : Bool := if (!inS (at_ d 0) (wordsD (at_ r 1))) = true then false else
  (if eqS (at_ d 0) "add" = true then (decide ((lenD d : Int) = 4) && (ofSorts (headD (at_ r 2)) (at_ d 2) && amountD (at_ d 3)))
   else (decide ((lenD d : Int) = 3) && ofSorts (if eqS (at_ d 0) "take" = true then takeD (at_ r 2) (at_ r 1) else at_ r 2) (at_ d 2)))
def ruleDeedD (d : PyData) : Bool := if (!nameD (at_ d 1)) = true then false else (if eqS (at_ d 0) "unrule" = true then decide ((lenD d : Int) = 2) else (decide ((lenD d : Int) = 3) && tupOfD 2 2 (at_ d 2)))
def deedD (e d : PyData) : Bool := if (!tupOfD 2 4 d) = true then false else (if inS (at_ d 0) ["rule", "unrule"] = true then ruleDeedD d else (!isNn (relOf e (at_ d 1)) && factDeedD (relOf e (at_ d 1)) d))
/-- deeds that this law judges: rules among them are drawn ones, or none -/
def DeedF (e d : PyData) : Prop := schD e = true ∧ ∀ x y z, d = .tuple [x, y, z] → eqS x "rule" = true → nameD y = true → RuleF e z
def markPairD (d : PyData) : Bool := tupOfD 2 2 d && (lifeD (at_ d 0) && fromOneD (at_ d 1))
def livesD (d : PyData) : List V := (partsD d).map fun p => V.int (intOf (at_ p 0))
def markD (d : PyData) : Bool := isT d && ((partsD d).all markPairD && risV (livesD d))
def numIn (m : PyData) (l : Int) : Int := match (partsD m).find? fun p => decide (intOf (at_ p 0) = l) with
  | some p => intOf (at_ p 1)
  | none => 0
def editD (e d : PyData) : Bool := tupOfD 5 5 d && ((lifeD (at_ d 0) && (fromOneD (at_ d 1) && (fromOneD (at_ d 2) && markD (at_ d 3)))) && (decide (numIn (at_ d 3) (intOf (at_ d 0)) = intOf (at_ d 1) - 1) && deedD e (at_ d 4)))
def EditF (e d : PyData) : Prop := schD e = true ∧ ∀ a b c m x, d = .tuple [a, b, c, m, x] → DeedF e x
theorem markPair_of {d : PyData} (h : markPairD d = true) : ∃ l n : Int, d = .tuple [.int l, .int n] ∧ 1 ≤ l ∧ l ≤ 999 ∧ 0 < n := by
  obtain ⟨h1, h2⟩ := Bool.and_eq_true_iff.mp h
  obtain ⟨x, y, rfl⟩ := tup2 h1
  obtain ⟨h3, h4⟩ := Bool.and_eq_true_iff.mp h2
  obtain ⟨h5, h6⟩ := Bool.and_eq_true_iff.mp h3
  obtain ⟨l, e⟩ := intD_of h5
  obtain ⟨n, e2⟩ := intD_of (Bool.and_eq_true_iff.mp (Bool.and_eq_true_iff.mp h4).1).1
  have e3 : x = .int l := e
  have e4 : y = .int n := e2
  subst e3 e4
  obtain ⟨h7, h8⟩ := Bool.and_eq_true_iff.mp h6
  exact ⟨l, n, rfl, of_decide_eq_true h7, of_decide_eq_true h8, of_decide_eq_true (Bool.and_eq_true_iff.mp h4).2⟩
section
variable {K : PySem.W.Frag} {σ : L2.St} {H : Hp} {ta tb tc : TE} {a b c : Bool} {d : PyData} {i j k : Int} {r r' : R2}
/-- a slice of a tuple, ahead of a place -/
theorem yv_slTake {ds : List PyData} {th : TO} {n : Nat} (hn : n ≤ ds.length) (ha : YV K ta σ H (.tuple ds)) (hh : ∀ (H1 : Hp) (Q : Option Int → Hp → Prop), Same H H1 → (∀ H2, Same H1 H2 → Q (some (n : Int)) H2) → th σ H1 Q) : YV K (tSl (rSlF K) ta tNoPart th) σ H (.tuple (ds.take n)) := by
  refine yv_sl ha yo_no hh (fun xs hl w => ?_) (fun H' xs hx => ?_)
  · have e : HT.sIx xs.length xs.length (some (n : Int)) = min n xs.length := HT.sIx_nat _ _ n
    rw [e] at w
    rw [List.take_of_length_le (by omega)]
  · have e : HT.sIx xs.length xs.length (some (n : Int)) = min n xs.length := HT.sIx_nat _ _ n
    have e2 : cutV xs none (some (n : Int)) = xs.take n := by
      unfold cutV
      rw [e, HT.sIx_none, List.drop_zero, Nat.sub_zero]
      by_cases h : n ≤ xs.length
      · rw [show min n xs.length = n by omega]
      · rw [List.take_of_length_le (by omega), List.take_of_length_le (by omega)]
    rw [e2]
    exact dall_take n hx
theorem sIx_neg1 {n z : Nat} : HT.sIx n z (some (-1)) = n - 1 := by
  unfold HT.sIx
  first | rfl | omega | (simp; omega) | (split <;> omega)
theorem yv_slInit {ds : List PyData} {th : TO} (hne : ds ≠ []) (ha : YV K ta σ H (.tuple ds)) (hh : ∀ (H1 : Hp) (Q : Option Int → Hp → Prop), Same H H1 → (∀ H2, Same H1 H2 → Q (some (-1)) H2) → th σ H1 Q) : YV K (tSl (rSlF K) ta tNoPart th) σ H (.tuple ds.dropLast) := by
  have l0 : 0 < ds.length := List.length_pos_iff.mpr hne
  refine yv_sl ha yo_no hh (fun xs hl w => ?_) (fun H' xs hx => ?_)
  · rw [sIx_neg1] at w
    omega
  · have e2 : cutV xs none (some (-1)) = xs.take (ds.length - 1) := by
      unfold cutV
      rw [sIx_neg1, HT.sIx_none, List.drop_zero, Nat.sub_zero, dall_len hx]
    rw [e2, List.dropLast_eq_take]
    exact dall_take _ hx
/-- for a, b in tuple of pairs: if test: return b; return z -/
theorem rv_forP {ds : List (PyData × PyData)} {p : PyData → PyData → Bool} {f : PyData → PyData → PyData} {z : PyData} {tp te : TE} {tt : TT} {u : TS} {m1 m2 : Nat} (ha : YV K tp σ H (.tuple (ds.map fun e => .tuple [e.1, e.2])))
    (hset : ∀ x1 x2 v1 v2, (((σ.set m1 x1).set m2 x2).set m1 v1).set m2 v2 = (σ.set m1 v1).set m2 v2)
    (ht : ∀ v1 v2 d1 d2 H', (d1, d2) ∈ ds → Same H H' → Dd K H' v1 d1 → Dd K H' v2 d2 → YT tt ((σ.set m1 (some v1)).set m2 (some v2)) H' (p d1 d2))
    (he : ∀ v1 v2 d1 d2 H', (d1, d2) ∈ ds → Same H H' → Dd K H' v1 d1 → Dd K H' v2 d2 → YV K te ((σ.set m1 (some v1)).set m2 (some v2)) H' (f d1 d2)) (hu : ∀ x1 x2 H', Same H H' → RV K u ((σ.set m1 x1).set m2 x2) H' z) (hx : ∃ x1 x2, σ = (σ.set m1 x1).set m2 x2) :
    RV K (tSeq (tFor (iTup K tp) (gTup K 2 (gCons (gName m1) (gCons (gName m2) gNil))) (tIfS tt (tRet te) tNext)) u) σ H (match ds.find? fun e => p e.1 e.2 with
      | some e => f e.1 e.2
      | none => z) := fun H1 D s q => ha H1 _ s fun v H2 s2 hd => by
  obtain ⟨a, xs, rfl, h0, h2⟩ := ofTup hd
  have hl : xs.length = ds.length := by rw [dall_len h2, List.length_map]
  refine ⟨a, rfl, ⟨_, h0.sq⟩, ?_⟩
  refine for_tup (xs := xs) (fun i σ' H' => (∃ x1 x2, σ' = (σ.set m1 x1).set m2 x2) ∧ Same H2 H' ∧ ∀ e ∈ ds.take i, p e.1 e.2 = false) ⟨hx, Same.refl H2, fun e m => by rw [List.take_zero] at m; cases m⟩ (fun i σ' H' _ e => SqT.same e.2.1 h0.sq) (fun i x σ' H' hx e => ?_) (fun σ' H' e => ?_)
  · obtain ⟨d, hd1, hdd⟩ := dall_at' h2 hx
    rw [List.getElem?_map] at hd1
    obtain ⟨⟨d1, d2⟩, z1, z2⟩ := Option.map_eq_some_iff.mp hd1
    subst z2
    obtain ⟨⟨y1, y2, rfl⟩, s3, ef⟩ := e
    obtain ⟨t, ys, rfl, t0, t2⟩ := ofTup (Dd.same s3 hdd)
    obtain ⟨u1, r1, rfl, g1, t2x⟩ := dall_uncons t2
    obtain ⟨u2, r2, rfl, g2, t2xx⟩ := dall_uncons t2x
    cases dall_unnil t2xx
    have hm := List.mem_of_getElem? z1
    refine ⟨t, _, rfl, t0.sq, rfl, _, _, rfl, _, _, rfl, rfl, ?_⟩
    rw [hset]
    refine ht _ _ d1 d2 H' hm ((s.trans s2).trans s3) g1 g2 H' _ (Same.refl H') fun H4 s4 => tst (fun e => ?_) fun e => ?_
    · refine he _ _ d1 d2 H' hm ((s.trans s2).trans s3) g1 g2 H4 _ s4 fun w H5 s5 hw => q w H5 (((s2.trans s3).trans s4).trans s5) ?_
      have ef2 : ds.find? (fun e => p e.1 e.2) = some (d1, d2) := by
        have hi := List.getElem?_eq_some_iff.mp z1
        obtain ⟨hlt, e3⟩ := hi
        have e4 : ds = ds.take i ++ (d1, d2) :: ds.drop (i + 1) := by
          rw [← e3, ← List.drop_eq_getElem_cons hlt, List.take_append_drop]
        rw [e4, List.find?_append, List.find?_eq_none.mpr (fun e m => by rw [ef e m]; exact Bool.false_ne_true), List.find?_cons, show p (d1, d2).1 (d1, d2).2 = true from e]
        rfl
      rw [ef2]
      exact hw
    · refine ⟨⟨_, _, rfl⟩, s3.trans s4, fun e' m => ?_⟩
      rw [List.take_add_one, z1] at m
      rcases List.mem_append.mp m with m | m
      · exact ef e' m
      · have : e' = (d1, d2) := by simpa using m
        rw [this]
        exact e
  · obtain ⟨⟨y1, y2, rfl⟩, s3, ef⟩ := e
    refine hu y1 y2 H' ((s.trans s2).trans s3) H' _ (Same.refl H') fun w H5 s5 hw => q w H5 ((s2.trans s3).trans s5) ?_
    rw [hl, List.take_length] at ef
    rw [List.find?_eq_none.mpr (fun e m => by rw [ef e m]; exact Bool.false_ne_true)]
    exact hw
end
section
variable {P : Program} {w : World} {K : PySem.W.Frag} {mg : Str → Option Value} {base : Heap}
abbrev sDeed : Stmt := top 49
abbrev sRuleDeed : Stmt := top 50
abbrev sFactDeed : Stmt := top 51
abbrev sWordsOf : Stmt := top 52
abbrev sAmount : Stmt := top 53
abbrev sLife : Stmt := top 54
abbrev sFromOne : Stmt := top 55
abbrev sMark : Stmt := top 56
abbrev sMarkPair : Stmt := top 57
abbrev sEdit : Stmt := top 58
abbrev sNumberIn : Stmt := top 59
theorem scAmount : FnScope ["thing"] ["thing"] (defScope sAmount) := ⟨rfl, rfl, rfl, by decide +kernel, rfl, by decide +kernel, by decide +kernel⟩
theorem ok_amount {f : Addr} {fd : FuncData} (F : FnP K "is_amount" sAmount f fd) (DI : DA P w K mg base "is_small_integer" 2 smallD) : FnOk P w K mg base CX0 3 f fd ["thing"] (spA K amountD) := by
  refine F.ok scAmount spA_len (fun cdv A outer s H vs Q E hr h => ?_)
  obtain ⟨v, d, rfl, hd, ok, q⟩ := h
  refine ⟨_, PSs.nox (pss_one (ps_ret (pe_and (pe_df DI hr (by decide) (pa_cons (pv 0) pa_nil)) (pe_one (pe_cmpR op_ne (pv 0) pe_int (nomark _)))))), ?_⟩
  refine rb_ret (yb_and (yb_da (yv_var rfl hd) ok) fun e => ?_) H _ (Same.refl H) q
  obtain ⟨i, rfl⟩ := intD_of (Bool.and_eq_true_iff.mp e).1
  exact yb_neI (yn_v (yv_var rfl hd)) yn_c
theorem scLife : FnScope ["thing"] ["thing"] (defScope sLife) := ⟨rfl, rfl, rfl, by decide +kernel, rfl, by decide +kernel, by decide +kernel⟩
theorem ok_life {f : Addr} {fd : FuncData} (F : FnP K "is_life" sLife f fd) (M : Nm mg) (DI : DA P w K mg base "is_integer" 1 intD) : FnOk P w K mg base CX0 2 f fd ["thing"] (spA K lifeD) := by
  refine F.ok scLife spA_len (fun cdv A outer s H vs Q E hr h => ?_)
  obtain ⟨v, d, rfl, hd, ok, q⟩ := h
  refine ⟨_, PSs.nox (pss_one (ps_ret (pe_and (pe_df DI hr (by decide) (pa_cons (pv 0) pa_nil)) (pe_one (pe_chain op_le op_le pe_int (pv 0) (pe_glob (v := .int 999) (by rfl) (M.LAST_LIFE).choose_spec ⟨_, rfl⟩)))))), ?_⟩
  refine rb_ret (yb_and (yb_da (yv_var rfl hd) ok) fun e => ?_) H _ (Same.refl H) q
  obtain ⟨i, rfl⟩ := intD_of e
  exact yb_chain (fun _ _ q => ⟨_, _, rfl, rfl, q⟩) (fun _ _ q => ⟨_, _, rfl, rfl, q⟩) yn_c (yn_v (yv_var rfl hd)) yn_c
theorem scFromOne : FnScope ["thing"] ["thing"] (defScope sFromOne) := ⟨rfl, rfl, rfl, by decide +kernel, rfl, by decide +kernel, by decide +kernel⟩
theorem ok_fromOne {f : Addr} {fd : FuncData} (F : FnP K "is_from_one" sFromOne f fd) (DN : DA P w K mg base "is_number" 2 numD) : FnOk P w K mg base CX0 3 f fd ["thing"] (spA K fromOneD) := by
  refine F.ok scFromOne spA_len (fun cdv A outer s H vs Q E hr h => ?_)
  obtain ⟨v, d, rfl, hd, ok, q⟩ := h
  refine ⟨_, PSs.nox (pss_one (ps_ret (pe_and (pe_df DN hr (by decide) (pa_cons (pv 0) pa_nil)) (pe_one (pe_cmpR op_gt (pv 0) pe_int (nomark _)))))), ?_⟩
  refine rb_ret (yb_and (yb_da (yv_var rfl hd) ok) fun e => ?_) H _ (Same.refl H) q
  obtain ⟨i, rfl⟩ := intD_of (Bool.and_eq_true_iff.mp e).1
  exact yb_op (fun _ _ q => ⟨_, _, rfl, rfl, q⟩) (yn_v (yv_var rfl hd)) yn_c
theorem scMarkPair : FnScope ["thing"] ["thing"] (defScope sMarkPair) := ⟨rfl, rfl, rfl, by decide +kernel, rfl, by decide +kernel, by decide +kernel⟩
theorem ok_markPair {f : Addr} {fd : FuncData} (F : FnP K "is_mark_pair" sMarkPair f fd) (DT : DTup P w K mg base) (DL : DA P w K mg base "is_life" 2 lifeD) (DF : DA P w K mg base "is_from_one" 3 fromOneD) : FnOk P w K mg base CX0 4 f fd ["thing"] (spA K markPairD) := by
  refine F.ok scMarkPair spA_len (fun cdv A outer s H vs Q E hr h => ?_)
  obtain ⟨v, d, rfl, hd, ok, q⟩ := h
  refine ⟨_, PSs.nox (pss_one (ps_ret (pe_and (pe_df DT hr (by decide) (pa_cons (pv 0) (pa_cons pe_int (pa_cons pe_int pa_nil)))) (pe_and (pe_df DL hr (by decide) (pa_cons (pe_ix ix_tup (pv 0) pe_int (fun _ _ => rfl)) pa_nil)) (pe_one (pe_df DF hr (by decide) (pa_cons (pe_ix ix_tup (pv 0) pe_int (fun _ _ => rfl)) pa_nil))))))), ?_⟩
  refine rb_ret (yb_eq (yb_and (yb_tup (yv_var rfl hd) yn_c yn_c) fun e => ?_) rfl) H _ (Same.refl H) q
  obtain ⟨x, y, rfl⟩ := tup2 e
  obtain ⟨_, om⟩ := ok_tup ok
  exact yb_and (yb_da (yv_ix (m := 0) (yv_var rfl hd) yn_c rfl) (om x (by simp))) fun _ => yb_da (yv_ix (m := 1) (yv_var rfl hd) yn_c rfl) (om y (by simp))
theorem scMark : FnScope ["thing", "pair"] ["thing"] (defScope sMark) := ⟨rfl, rfl, rfl, by decide +kernel, rfl, by decide +kernel, by decide +kernel⟩
theorem ok_mark {f : Addr} {fd : FuncData} (F : FnP K "is_mark" sMark f fd) (M : Nm mg) (DP : DA P w K mg base "is_mark_pair" 4 markPairD) (DG : Df P w K mg base "is_rising" 1 ["keys"] (spRising K)) : FnOk P w K mg base CX0 5 f fd ["thing"] (spA K markD) := by
  refine F.ok scMark spA_len (fun cdv A outer s H vs Q E hr h => ?_)
  obtain ⟨v, d, rfl, hd, ok, q⟩ := h
  refine ⟨_, PSs.nox (pss_cons (ps_if (PW.pt (pw_or (pt_not (pt_val (pe_callB (id := "isinstance") (r := rIsi K) call_isi (by rfl) M.isinstance (by decide +kernel) (pa_cons (pv 0) (pa_cons (ty_cls (n := "tuple") M.tuple (by rfl) (by decide +kernel)) pa_nil))))) (pw_or1 (pt_not (pt_val (pe_callB (r := rAll K) (cr_all rfl) (by rfl) M.all (by decide +kernel) (pa_cons (pe_lc (own := [("pair", 1)]) (g := gName 1) (tt := tYes) (by rfl) scMark.nd (pi_tup (pv 0)) (blkOk_by (N := ["thing", "pair"]) (sc := defScope sMark) (by decide +kernel)) (fun _ _ _ _ _ => pg_name (i := 1) scMark.nd rfl (Or.inl rfl)) (fun _ _ _ _ _ => pts_nil) (fun _ _ _ _ _ => (pe_df DP hr (by decide) (pa_cons (pv 1) pa_nil)))) pa_nil))))))) (pss_one (ps_ret pe_bl)) pss_nil)
      (pss_one (ps_ret (pe_df DG hr (by decide) (pa_cons (pe_lc (own := [("pair", 1)]) (g := gName 1) (tt := tYes) (by rfl) scMark.nd (pi_tup (pv 0)) (blkOk_by (N := ["thing", "pair"]) (sc := defScope sMark) (by decide +kernel)) (fun _ _ _ _ _ => pg_name (i := 1) scMark.nd rfl (Or.inl rfl)) (fun _ _ _ _ _ => pts_nil) (fun _ _ _ _ _ => (pe_ix (r := rIxT K) ix_tup (pv 1) pe_int (fun _ _ => rfl)))) pa_nil))))), ?_⟩
  refine rb_if (c := !isT d || !(partsD d).all markPairD) (yt_or (yt_not (yt_b (yb_isi (yv_var rfl hd) (kT d)))) fun e => ?_) (fun e => yb_eq yb_c ?_) (fun e => rb_ret ?_) H _ (Same.refl H) q
  · obtain ⟨ds, rfl⟩ := isT_of (show isT d = true by simpa using e)
    exact yt_not (yt_b (yb_allT (p := markPairD) (yv_var rfl hd) (ok_tup ok).1 (fun _ => rfl) fun v d H' m s hd => yb_da (yv_var rfl hd) ((ok_tup ok).2 d m)))
  · unfold markD
    cases h1 : isT d <;> cases h2 : (partsD d).all markPairD <;> simp [h1, h2] at e ⊢
  · obtain ⟨e1, e2⟩ : isT d = true ∧ (partsD d).all markPairD = true := by
      cases h1 : isT d <;> cases h2 : (partsD d).all markPairD <;> simp [h1, h2] at e ⊢
    obtain ⟨ds, rfl⟩ := isT_of e1
    have hz := (ok_tup ok).1
    refine yb_eq (yb_rising (xs := livesD (.tuple ds)) (yq_lcT (f := fun p => V.int (intOf (at_ p 0))) (yv_var rfl hd) hz (fun _ => rfl) fun v d H' Q m s hd q => ?_) (by show (List.map _ ds).length ≤ _; rw [List.length_map]; exact hz) (.inl fun x hx => ?_)) ?_
    · obtain ⟨l, n, rfl, _⟩ := markPair_of (List.all_eq_true.mp e2 d m)
      exact yn_v (yv_ix (m := 0) (yv_var rfl hd) yn_c rfl) H' Q (Same.refl H') q
    · obtain ⟨r, _, rfl⟩ := List.mem_map.mp hx
      exact ⟨_, rfl⟩
    · unfold markD
      rw [e1, e2]
      rfl
theorem scNumberIn : FnScope ["mark", "life", "other", "number"] ["mark", "life"] (defScope sNumberIn) := ⟨rfl, rfl, rfl, by decide +kernel, rfl, by decide +kernel, by decide +kernel⟩
def spNumIn (K : PySem.W.Frag) : Sp := fun vs H Q _ => ∃ (u v : V) (m : PyData) (l : Int), vs = [u, .int l] ∧ Dd K H u m ∧ isT m = true ∧ (partsD m).all markPairD = true ∧ ∀ H', Same H H' → Q (.int (numIn m l)) H'
theorem yn_numIn {ta tb : TE} {σ : L2.St} {H : Hp} {m : PyData} {l : Int} (ha : YV K ta σ H m) (hb : YN tb σ H l) (h1 : isT m = true) (h2 : (partsD m).all markPairD = true) : YN (tCall (spNumIn K) [] E0 (tCons ta (tCons tb tNil))) σ H (numIn m l) := fun H1 Q s q => ha H1 _ s fun u H2 s2 hu => hb H2 _ (s.trans s2) fun H3 s3 =>
  ⟨u, u, m, l, rfl, hu.same s3, h1, h2, fun H4 s4 => q H4 ((s2.trans s3).trans s4)⟩
theorem ok_numberIn {f : Addr} {fd : FuncData} (F : FnP K "number_in" sNumberIn f fd) : FnOk P w K mg base CX0 1 f fd ["mark", "life"] (spNumIn K) := by
  refine F.ok scNumberIn (fun vs H Q E h => ?_) (fun cdv A outer s H vs Q E hr h => ?_)
  · obtain ⟨u, v, m, l, rfl, _⟩ := h
    rfl
  obtain ⟨u, v, m, l, rfl, hu, h1, h2, q⟩ := h
  refine ⟨_, PSs.nox (pss_cons (ps_for PassesOwn.never rfl (pi_tup (pv 0)) (pg_tup rfl (pgs_cons (pg_name (i := 2) scNumberIn.nd rfl (Or.inl rfl)) (pgs_cons (pg_name (i := 3) scNumberIn.nd rfl (Or.inl rfl)) pgs_nil))) (pss_one (ps_if (pt_cmpR op_eq (pv 2) (pv 1) (nomark _)) (pss_one (ps_ret (pv 3))) pss_nil)))
      (pss_one (ps_ret pe_int))), ?_⟩
  obtain ⟨ds, rfl⟩ := isT_of h1
  obtain ⟨es, rfl, hes⟩ : ∃ es : List (PyData × PyData), ds = es.map (fun e => PyData.tuple [e.1, e.2]) ∧ ∀ e ∈ es, ∃ l n : Int, e = (.int l, .int n) := by
    have h3 : ∀ d ∈ ds, markPairD d = true := fun d m => List.all_eq_true.mp h2 d m
    clear h1 h2 q hu
    induction ds with
    | nil => exact ⟨[], rfl, fun _ z => nomatch z⟩
    | cons d r ih =>
      obtain ⟨es, rfl, h⟩ := ih fun d m => h3 d (List.mem_cons_of_mem _ m)
      obtain ⟨l, n, rfl, _⟩ := markPair_of (h3 d List.mem_cons_self)
      exact ⟨(.int l, .int n) :: es, rfl, fun e m => by
        rcases List.mem_cons.mp m with rfl | m
        · exact ⟨l, n, rfl⟩
        · exact h e m⟩
  have core := rv_forP (K := K) (σ := L2.start ["mark", "life", "other", "number"] [u, .int l]) (H := H) (ds := es) (p := fun a b => decide (intOf a = l)) (f := fun a b => b) (z := .int 0) (m1 := 2) (m2 := 3) (tp := tVar 0) (te := tVar 3) (tt := tTest (tOp rEq (tVar 2) (tVar 1))) (u := tRet (tC (.int 0))) (yv_var rfl hu) (fun _ _ _ _ => rfl)
    (fun v1 v2 d1 d2 H' m s g1 g2 => by
      obtain ⟨l', n, e⟩ := hes _ m
      cases e
      exact yt_t (yb_eqI (yn_v (yv_var rfl g1)) (yn_var rfl)))
    (fun v1 v2 d1 d2 H' m s g1 g2 => yv_var rfl g2) (fun x1 x2 H' s => rv_ret (yv_c fun _ => .int 0)) ⟨none, none, rfl⟩
  refine core H _ (Same.refl H) fun v' H' s hv => ?_
  have e : (match es.find? fun e => decide (intOf e.1 = l) with
      | some e => e.2
      | none => PyData.int 0) = .int (numIn (.tuple (es.map fun e => PyData.tuple [e.1, e.2])) l) := by
    unfold numIn
    show _ = PyData.int (match (es.map fun e => PyData.tuple [e.1, e.2]).find? fun p => decide (intOf (at_ p 0) = l) with
      | some p => intOf (at_ p 1)
      | none => 0)
    rw [List.find?_map]
    show _ = PyData.int (match (es.find? fun e => decide (intOf e.1 = l)).map (fun e => PyData.tuple [e.1, e.2]) with
      | some p => intOf (at_ p 1)
      | none => 0)
    cases hq : es.find? fun e => decide (intOf e.1 = l) with
    | none => rfl
    | some e =>
      obtain ⟨l', n, rfl⟩ := hes e (List.mem_of_find?_eq_some hq)
      rfl
  have hv2 : Dd K H' v' (.int (numIn (.tuple (es.map fun e => PyData.tuple [e.1, e.2])) l)) := e ▸ hv
  cases hv2
  exact q H' s
theorem scWordsOf : FnScope ["kind"] ["kind"] (defScope sWordsOf) := ⟨rfl, rfl, rfl, by decide +kernel, rfl, by decide +kernel, by decide +kernel⟩
def spWords (K : PySem.W.Frag) : Sp := fun vs H Q _ => ∃ (v : V) (k : PyData), vs = [v] ∧ Dd K H v k ∧ ∀ p H', Same H H' → (SqL K H' p ((wordsD k).map V.str) ∨ SqT K H' p ((wordsD k).map V.str)) → Q (.ref p) H'
theorem yz_words {ta : TE} {σ : L2.St} {H : Hp} {k : PyData} (ha : YV K ta σ H k) : YZ K (tCall (spWords K) [] E0 (tCons ta tNil)) σ H (wordsD k) := fun H1 Q s q => ha H1 _ s fun v H2 s2 hv => ⟨v, k, rfl, hv, fun p H3 s3 hp => q p H3 (s2.trans s3) hp⟩
theorem ok_wordsOf {f : Addr} {fd : FuncData} (F : FnP K "words_of" sWordsOf f fd) : FnOk P w K mg base CX0 1 f fd ["kind"] (spWords K) := by
  refine F.ok scWordsOf (fun vs H Q E h => ?_) (fun cdv A outer s H vs Q E hr h => ?_)
  · obtain ⟨v, k, rfl, _⟩ := h
    rfl
  obtain ⟨v, k, rfl, hd, q⟩ := h
  refine ⟨_, PSs.nox (pss_cons (ps_if (pt_cmpR (op_eqS (hu_of1 hr)) (pv 0) pe_str (nomark _)) (pss_one (ps_ret (pe_tup (pa_cons pe_str (pa_cons pe_str pa_nil))))) pss_nil)
      (pss_one (ps_ret (pe_ifExp (pt_cmpR (op_eqS (hu_of1 hr)) (pv 0) pe_str (nomark _)) (pe_tup (pa_cons pe_str pa_nil)) (pe_tup (pa_cons pe_str (pa_cons pe_str pa_nil))))))), ?_⟩
  refine rz_if (c := eqS k "bag") (zs := wordsD k) (yt_t (yb_eqS (yv_var rfl hd) ys_c)) (fun e => ?_) (fun e => rz_ret ?_) H _ (Same.refl H) q
  · unfold wordsD
    rw [if_pos e]
    exact yz_tup (by decide) (yss_cons ys_c (yss_cons ys_c yss_nil))
  · unfold wordsD
    rw [e, if_neg Bool.false_ne_true]
    exact yz_if (yt_t (yb_eqS (yv_var rfl hd) ys_c)) (fun _ => yz_tup (by decide) (yss_cons ys_c yss_nil)) fun _ => yz_tup (by decide) (yss_cons ys_c (yss_cons ys_c yss_nil))
theorem tup24 {d : PyData} (h : tupOfD 2 4 d = true) : (∃ x y, d = .tuple [x, y]) ∨ (∃ x y z, d = .tuple [x, y, z]) ∨ ∃ x y z u, d = .tuple [x, y, z, u] := by
  obtain ⟨ds, rfl, h1, h2⟩ := tupOf_of h
  match ds, h1, h2 with
  | [], h1, _ => exact absurd h1 (by simp)
  | [_], h1, _ => exact absurd h1 (by simp)
  | [x, y], _, _ => exact .inl ⟨x, y, rfl⟩
  | [x, y, z], _, _ => exact .inr (.inl ⟨x, y, z, rfl⟩)
  | [x, y, z, u], _, _ => exact .inr (.inr ⟨x, y, z, u, rfl⟩)
  | _ :: _ :: _ :: _ :: _ :: _, _, h2 =>
    simp only [List.length_cons] at h2
    omega
/-- the first places of a deed, read -/
theorem yv_at {ta : TE} {σ : L2.St} {H : Hp} {ds : List PyData} {m : Nat} {tb : TE} (ha : YV K ta σ H (.tuple ds)) (hb : YN tb σ H m) (h : m < ds.length) : YV K (tOp (rIxT K) ta tb) σ H (at_ (.tuple ds) m) := yv_ix ha hb (by
  unfold at_ partsD
  rw [List.getElem?_eq_getElem h]
  rfl)
theorem ok_at {ds : List PyData} {m : Nat} (ok : okD (.tuple ds) = true) (h : m < ds.length) : okD (at_ (.tuple ds) m) = true := by
  unfold at_ partsD
  rw [List.getElem?_eq_getElem h]
  exact (ok_tup ok).2 _ (List.getElem_mem h)
theorem scFactDeed : FnScope ["relation", "thing", "_", "kind", "sorts", "wanted"] ["relation", "thing"] (defScope sFactDeed) := ⟨rfl, rfl, rfl, by decide +kernel, rfl, by decide +kernel, by decide +kernel⟩
theorem factDeed_eq {x k : PyData} {ss : List PyData} {d : PyData} : factDeedD (.tuple [x, k, .tuple ss]) d = if (!inS (at_ d 0) (wordsD k)) = true then false else
  (if eqS (at_ d 0) "add" = true then (decide ((lenD d : Int) = 4) && (ofSorts (headD (.tuple ss)) (at_ d 2) && amountD (at_ d 3)))
   else (decide ((lenD d : Int) = 3) && ofSorts (if eqS (at_ d 0) "take" = true then takeD (.tuple ss) k else .tuple ss) (at_ d 2))) := rfl
def FactF (r d : PyData) : Prop := relD r = true ∧ tupOfD 2 4 d = true
theorem ok_factDeed {f : Addr} {fd : FuncData} (F : FnP K "is_fact_deed" sFactDeed f fd) (M : Nm mg) (DW : Df P w K mg base "words_of" 1 ["kind"] (spWords K)) (DO : Df P w K mg base "is_of_sorts" 4 ["sorts", "thing"] (spA2 K SortsF ofSorts)) (DM : DA P w K mg base "is_amount" 3 amountD) : FnOk P w K mg base CX0 5 f fd ["relation", "thing"] (spA2 K FactF factDeedD) := by
  refine F.ok scFactDeed spA2_len (fun cdv A outer s H vs Q E hr h => ?_)
  obtain ⟨u, v, r, d, rfl, hu, hd, ok, ⟨hrel, ht⟩, q⟩ := h
  refine ⟨_, PSs.nox (pss_cons (ps_asg (pv 0) (pg_tup rfl (pgs_cons (pg_name (i := 2) scFactDeed.nd rfl (Or.inl rfl)) (pgs_cons (pg_name (i := 3) scFactDeed.nd rfl (Or.inl rfl)) (pgs_cons (pg_name (i := 4) scFactDeed.nd rfl (Or.inl rfl)) pgs_nil)))))
      (pss_cons (ps_if (pt_cmpR (r := rInS K true) (op_notInS' (hu_of hr)) (pe_ix ix_tup (pv 1) pe_int (fun _ _ => rfl)) (pe_df DW hr (by decide) (pa_cons (pv 3) pa_nil)) (by rfl)) (pss_one (ps_ret pe_bl)) pss_nil)
      (pss_cons (ps_if (pt_cmpR (op_eqS (hu_of1 hr)) (pe_ix ix_tup (pv 1) pe_int (fun _ _ => rfl)) pe_str (nomark _)) (pss_one (ps_ret (pe_and (pe_cmpR op_eq (pe_callB call_len_seq (by rfl) M.len PySem.boot_len (pa_cons (pv 1) pa_nil)) pe_int (nomark _)) (pe_and (pe_df DO hr (by decide) (pa_cons (pe_slice (r := rSlF K) sl_tupF (pv 4) po_none (po_some (pe_un un_neg pe_int))) (pa_cons (pe_ix ix_tup (pv 1) pe_int (fun _ _ => rfl)) pa_nil))) (pe_one (pe_df DM hr (by decide) (pa_cons (pe_ix ix_tup (pv 1) pe_int (fun _ _ => rfl)) pa_nil))))))) pss_nil)
      (pss_cons (ps_set (i := 5) scFactDeed.nd rfl (Or.inl rfl) (pe_ifExp (pt_cmpR (op_eqS (hu_of1 hr)) (pe_ix ix_tup (pv 1) pe_int (fun _ _ => rfl)) pe_str (nomark _)) (pe_slice (r := rSlF K) sl_tupF (pv 4) po_none (po_some (pv 3))) (pv 4)))
      (pss_one (ps_ret (pe_and (pe_cmpR op_eq (pe_callB call_len_seq (by rfl) M.len PySem.boot_len (pa_cons (pv 1) pa_nil)) pe_int (nomark _)) (pe_one (pe_df DO hr (by decide) (pa_cons (pv 5) (pa_cons (pe_ix ix_tup (pv 1) pe_int (fun _ _ => rfl)) pa_nil))))))))))), ?_⟩
  obtain ⟨x, k, ss, rfl, _, es, ek⟩ := relD_of hrel
  obtain ⟨ds, rfl, l1, l2⟩ := tupOf_of ht
  have hss : 1 ≤ ss.length ∧ ss.length ≤ 5 := by
    obtain ⟨_, e, h1, h2⟩ := tupOf_of (Bool.and_eq_true_iff.mp es).1
    cases e
    omega
  refine rb_un3 (b := factDeedD (.tuple [.str x, k, .tuple ss]) (.tuple ds)) (yv_var rfl hu) (fun v1 v2 v3 H' s1 h1 h2 h3 => ?_) H _ (Same.refl H) q
  have hd1 := hd.same s1
  refine rb_if (c := !inS (at_ (.tuple ds) 0) (wordsD k)) (yt_t (yb_notInZ (yv_at (m := 0) (yv_var rfl hd1) yn_c (by omega)) (yz_words (yv_var rfl h2)))) (fun e => yb_eq yb_c ?_) (fun e => ?_)
  · rw [factDeed_eq, if_pos e]
  refine rb_if (c := eqS (at_ (.tuple ds) 0) "add") (yt_t (yb_eqS (yv_at (m := 0) (yv_var rfl hd1) yn_c (by omega)) ys_c)) (fun e2 => yb_eq (yb_and (b := ofSorts (headD (.tuple ss)) (at_ (.tuple ds) 2) && amountD (at_ (.tuple ds) 3)) (yb_eqI (yn_lenT (yv_var rfl hd1)) yn_c) fun e3 => ?_) ?_) (fun e2 => ?_)
  · have l4 : (ds.length : Int) = 4 := of_decide_eq_true e3
    exact yb_and (yb_da2 (yv_slInit (ds := ss) (fun z => by rw [z] at hss; exact absurd hss.1 (by decide)) (yv_var rfl h3) (yo_some (yn_neg (fun _ _ q => ⟨_, rfl, q⟩) yn_c))) (yv_at (m := 2) (yv_var rfl hd1) yn_c (by omega)) (ok_at ok (by omega)) ⟨_, rfl, by show (List.dropLast ss).length ≤ 1000; rw [List.length_dropLast]; omega⟩) fun _ => yb_da (yv_at (m := 3) (yv_var rfl hd1) yn_c (by omega)) (ok_at ok (by omega))
  · rw [factDeed_eq, if_neg (show ¬ (!inS (at_ (.tuple ds) 0) (wordsD k)) = true from by rw [e]; exact Bool.false_ne_true), if_pos e2]
    rfl
  · refine rb_asg1 (d := if eqS (at_ (.tuple ds) 0) "take" = true then takeD (.tuple ss) k else .tuple ss) (yv_if (yt_t (yb_eqS (yv_at (m := 0) (yv_var rfl hd1) yn_c (by omega)) ys_c)) (fun e3 => ?_) fun _ => yv_var rfl h3) fun v6 H6 s6 h6 => rb_ret (yb_eq (yb_and (yb_eqI (yn_lenT (yv_var rfl (hd1.same s6))) yn_c) fun e3 => yb_da2 (yv_var rfl h6) (yv_at (m := 2) (yv_var rfl (hd1.same s6)) yn_c ?_) ?_ ?_) ?_)
    · have e4 := eqS_of e3
      have e5 : inS (.str "take") (wordsD k) = true := by
        rw [e4] at e
        simpa using e
      have hk : numD k = true := by
        cases hn : numD k with
        | true => rfl
        | false =>
          unfold kindD at ek
          rw [hn, if_neg Bool.false_ne_true] at ek
          unfold wordsD at e5
          cases hb : eqS k "bag" with
          | true =>
            rw [hb, if_pos rfl] at e5
            exact absurd e5 (by decide +kernel)
          | false =>
            rw [hb, Bool.false_or] at ek
            rw [hb, if_neg Bool.false_ne_true, if_pos (Bool.and_eq_true_iff.mp ek).1] at e5
            exact absurd e5 (by decide +kernel)
      obtain ⟨i, rfl⟩ := intD_of (Bool.and_eq_true_iff.mp hk).1
      have i0 : 0 ≤ i := of_decide_eq_true (Bool.and_eq_true_iff.mp hk).2
      obtain ⟨n, rfl⟩ : ∃ n : Nat, i = (n : Int) := ⟨i.toNat, by omega⟩
      have hlt : (n : Int) < (ss.length : Int) := by
        unfold kindD at ek
        rw [hk, if_pos rfl] at ek
        exact of_decide_eq_true ek
      exact yv_slTake (ds := ss) (n := n) (by omega) (yv_var rfl h3) (yo_some (yn_v (yv_var rfl h2)))
    · have l4 : (ds.length : Int) = 3 := of_decide_eq_true e3
      omega
    · have l4 : (ds.length : Int) = 3 := of_decide_eq_true e3
      exact ok_at ok (by omega)
    · cases eqS (at_ (.tuple ds) 0) "take" with
      | true => exact ⟨_, rfl, by show (ss.take _).length ≤ _; rw [List.length_take]; omega⟩
      | false => exact ⟨_, rfl, by omega⟩
    · rw [factDeed_eq, if_neg (show ¬ (!inS (at_ (.tuple ds) 0) (wordsD k)) = true from by rw [e]; exact Bool.false_ne_true), e2, if_neg Bool.false_ne_true]
      rfl
theorem scRuleDeed : FnScope ["schema", "thing"] ["schema", "thing"] (defScope sRuleDeed) := ⟨rfl, rfl, rfl, by decide +kernel, rfl, by decide +kernel, by decide +kernel⟩
def RuleDeedF (e d : PyData) : Prop := tupOfD 2 4 d = true ∧ inS (at_ d 0) ["rule", "unrule"] = true ∧ DeedF e d
theorem ok_ruleDeed {f : Addr} {fd : FuncData} (F : FnP K "is_rule_deed" sRuleDeed f fd) (M : Nm mg) (DN : DA P w K mg base "is_name" 1 nameD) (DR : Df P w K mg base "is_rule_of" 9 ["schema", "thing"] (spA2 K RuleF fun _ d => tupOfD 2 2 d)) : FnOk P w K mg base CX0 10 f fd ["schema", "thing"] (spA2 K RuleDeedF fun _ d => ruleDeedD d) := by
  refine F.ok scRuleDeed spA2_len (fun cdv A outer s H vs Q E hr h => ?_)
  obtain ⟨u, v, e, d, rfl, hu, hd, ok, ⟨ht, hi, hf⟩, q⟩ := h
  refine ⟨_, PSs.nox (pss_cons (ps_if (pt_not (pt_val (pe_df DN hr (by decide) (pa_cons (pe_ix ix_tup (pv 1) pe_int (fun _ _ => rfl)) pa_nil)))) (pss_one (ps_ret pe_bl)) pss_nil)
      (pss_cons (ps_if (pt_cmpR (op_eqS (hu_of1 hr)) (pe_ix ix_tup (pv 1) pe_int (fun _ _ => rfl)) pe_str (nomark _)) (pss_one (ps_ret (pe_cmpR op_eq (pe_callB call_len_seq (by rfl) M.len PySem.boot_len (pa_cons (pv 1) pa_nil)) pe_int (nomark _)))) pss_nil)
      (pss_one (ps_ret (pe_and (pe_cmpR op_eq (pe_callB call_len_seq (by rfl) M.len PySem.boot_len (pa_cons (pv 1) pa_nil)) pe_int (nomark _)) (pe_one (pe_df DR hr (by decide) (pa_cons (pv 0) (pa_cons (pe_ix ix_tup (pv 1) pe_int (fun _ _ => rfl)) pa_nil))))))))), ?_⟩
  obtain ⟨ds, rfl, l1, l2⟩ := tupOf_of ht
  refine rb_if (b := ruleDeedD (.tuple ds)) (c := !nameD (at_ (.tuple ds) 1)) (yt_not (yt_b (yb_da (yv_at (m := 1) (yv_var rfl hd) yn_c (by omega)) (ok_at ok (by omega))))) (fun e => yb_eq yb_c ?_) (fun e1 => ?_) H _ (Same.refl H) q
  · unfold ruleDeedD
    rw [if_pos e]
  refine rb_if (c := eqS (at_ (.tuple ds) 0) "unrule") (yt_t (yb_eqS (yv_at (m := 0) (yv_var rfl hd) yn_c (by omega)) ys_c)) (fun e2 => yb_eq (yb_eqI (yn_lenT (yv_var rfl hd)) yn_c) ?_) (fun e2 => rb_ret (yb_eq (yb_and (yb_eqI (yn_lenT (yv_var rfl hd)) yn_c) fun e3 => yb_da2 (yv_var rfl hu) (yv_at (m := 2) (yv_var rfl hd) yn_c ?_) ?_ ?_) ?_))
  · unfold ruleDeedD
    rw [e1, if_neg Bool.false_ne_true, if_pos e2]
    rfl
  · have l4 : (ds.length : Int) = 3 := of_decide_eq_true e3
    omega
  · have l4 : (ds.length : Int) = 3 := of_decide_eq_true e3
    exact ok_at ok (by omega)
  · have l4 : (ds.length : Int) = 3 := of_decide_eq_true e3
    match ds, l4 with
    | [x, y, z], _ =>
      refine hf.2 x y z rfl ?_ (by
        cases h : nameD y with
        | true => rfl
        | false =>
          have h2 : (!nameD y) = false := e1
          rw [h] at h2
          cases h2)
      have h3 : (eqS x "rule" || (eqS x "unrule" || false)) = true := hi
      have h4 : eqS x "unrule" = false := e2
      rw [h4] at h3
      simpa using h3
    | [], l => simp at l
    | [_], l => simp at l
    | [_, _], l => simp at l
    | _ :: _ :: _ :: _ :: _, l =>
      simp only [List.length_cons] at l
      omega
  · show _ = ruleDeedD (.tuple ds)
    unfold ruleDeedD
    rw [e1, if_neg Bool.false_ne_true, e2, if_neg Bool.false_ne_true]
    rfl
theorem scDeed : FnScope ["schema", "thing", "relation"] ["schema", "thing"] (defScope sDeed) := ⟨rfl, rfl, rfl, by decide +kernel, rfl, by decide +kernel, by decide +kernel⟩
theorem ok_deed {f : Addr} {fd : FuncData} (F : FnP K "is_deed" sDeed f fd) (DT : DTup P w K mg base) (DR : Df P w K mg base "is_rule_deed" 10 ["schema", "thing"] (spA2 K RuleDeedF fun _ d => ruleDeedD d)) (DL : Df P w K mg base "relation_of" 1 ["schema", "name"] (spRelOf K)) (DC : Df P w K mg base "is_fact_deed" 5 ["relation", "thing"] (spA2 K FactF factDeedD)) : FnOk P w K mg base CX0 11 f fd ["schema", "thing"] (spA2 K DeedF deedD) := by
  refine F.ok scDeed spA2_len (fun cdv A outer s H vs Q E hr h => ?_)
  obtain ⟨u, v, e, d, rfl, hu, hd, ok, hf, q⟩ := h
  refine ⟨_, PSs.nox (pss_cons (ps_if (pt_not (pt_val (pe_df DT hr (by decide) (pa_cons (pv 1) (pa_cons pe_int (pa_cons pe_int pa_nil)))))) (pss_one (ps_ret pe_bl)) pss_nil)
      (pss_cons (ps_if (pt_cmpR (op_inS' (hu_of hr)) (pe_ix ix_tup (pv 1) pe_int (fun _ _ => rfl)) (pe_tup (pa_cons pe_str (pa_cons pe_str pa_nil))) (by rfl)) (pss_one (ps_ret (pe_df DR hr (by decide) (pa_cons (pv 0) (pa_cons (pv 1) pa_nil))))) pss_nil)
      (pss_cons (ps_set (i := 2) scDeed.nd rfl (Or.inl rfl) (pe_df DL hr (by decide) (pa_cons (pv 0) (pa_cons (pe_ix ix_tup (pv 1) pe_int (fun _ _ => rfl)) pa_nil))))
      (pss_one (ps_ret (pe_and (pe_cmpR op_notN (pv 2) pe_non (nomark _)) (pe_one (pe_df DC hr (by decide) (pa_cons (pv 2) (pa_cons (pv 1) pa_nil)))))))))), ?_⟩
  refine rb_if (c := !tupOfD 2 4 d) (yt_not (yt_b (yb_tup (yv_var rfl hd) yn_c yn_c))) (fun e => yb_eq yb_c ?_) (fun e1 => ?_) H _ (Same.refl H) q
  · unfold deedD
    rw [if_pos e]
  have ht : tupOfD 2 4 d = true := by simpa using e1
  obtain ⟨ds, rfl, l1, l2⟩ := tupOf_of ht
  refine rb_if (c := inS (at_ (.tuple ds) 0) ["rule", "unrule"]) (yt_t (yb_inS (yv_at (m := 0) (yv_var rfl hd) yn_c (by omega)) (by decide) (yss_cons ys_c (yss_cons ys_c yss_nil)))) (fun e2 => yb_eq (yb_da2 (yv_var rfl hu) (yv_var rfl hd) ok ⟨ht, e2, hf⟩) ?_) (fun e2 => ?_)
  · unfold deedD
    rw [e1, if_neg Bool.false_ne_true, if_pos e2]
  · refine rb_asg1 (yv_relOf (yv_var rfl hu) (yv_at (m := 1) (yv_var rfl hd) yn_c (by omega)) hf.1) fun v4 H4 s4 h4 => rb_ret (yb_eq (yb_and (yb_notN (yv_var rfl h4)) fun e3 => yb_da2 (yv_var rfl h4) (yv_var rfl (hd.same s4)) ok ⟨?_, ht⟩) ?_)
    · rcases relOf_of (d := at_ (.tuple ds) 1) hf.1 with h | ⟨x, k, ss, h, _, hr⟩
      · rw [h] at e3
        cases e3
      · exact hr
    · unfold deedD
      rw [e1, if_neg Bool.false_ne_true, e2, if_neg Bool.false_ne_true]
theorem scEdit : FnScope ["schema", "thing", "life", "number", "height", "seen", "deed"] ["schema", "thing"] (defScope sEdit) := ⟨rfl, rfl, rfl, by decide +kernel, rfl, by decide +kernel, by decide +kernel⟩
theorem ok_edit {f : Addr} {fd : FuncData} (F : FnP K "is_edit" sEdit f fd) (DT : DTup P w K mg base) (DL : DA P w K mg base "is_life" 2 lifeD) (DF : DA P w K mg base "is_from_one" 3 fromOneD) (DM : DA P w K mg base "is_mark" 5 markD) (DN : Df P w K mg base "number_in" 1 ["mark", "life"] (spNumIn K)) (DD : Df P w K mg base "is_deed" 11 ["schema", "thing"] (spA2 K DeedF deedD)) : FnOk P w K mg base CX0 12 f fd ["schema", "thing"] (spA2 K EditF editD) := by
  refine F.ok scEdit spA2_len (fun cdv A outer s H vs Q E hr h => ?_)
  obtain ⟨u, v, e, d, rfl, hu, hd, ok, hf, q⟩ := h
  refine ⟨_, PSs.nox (pss_cons (ps_if (pt_not (pt_val (pe_df DT hr (by decide) (pa_cons (pv 1) (pa_cons pe_int (pa_cons pe_int pa_nil)))))) (pss_one (ps_ret pe_bl)) pss_nil)
      (pss_cons (ps_asg (pv 1) (pg_tup rfl (pgs_cons (pg_name (i := 2) scEdit.nd rfl (Or.inl rfl)) (pgs_cons (pg_name (i := 3) scEdit.nd rfl (Or.inl rfl)) (pgs_cons (pg_name (i := 4) scEdit.nd rfl (Or.inl rfl)) (pgs_cons (pg_name (i := 5) scEdit.nd rfl (Or.inl rfl)) (pgs_cons (pg_name (i := 6) scEdit.nd rfl (Or.inl rfl)) pgs_nil)))))))
      (pss_cons (ps_if (pt_not (PW.pt (pw_and (pt_val (pe_df DL hr (by decide) (pa_cons (pv 2) pa_nil))) (pw_and (pt_val (pe_df DF hr (by decide) (pa_cons (pv 3) pa_nil))) (pw_and (pt_val (pe_df DF hr (by decide) (pa_cons (pv 4) pa_nil))) (pw_and1 (pt_val (pe_df DM hr (by decide) (pa_cons (pv 5) pa_nil))))))))) (pss_one (ps_ret pe_bl)) pss_nil)
      (pss_one (ps_ret (pe_and (pe_cmpR op_eq (pe_df DN hr (by decide) (pa_cons (pv 5) (pa_cons (pv 2) pa_nil))) (pe_op op_sub (pv 3) pe_int) (nomark _)) (pe_one (pe_df DD hr (by decide) (pa_cons (pv 0) (pa_cons (pv 6) pa_nil)))))))))), ?_⟩
  refine rb_if (c := !tupOfD 5 5 d) (yt_not (yt_b (yb_tup (yv_var rfl hd) yn_c yn_c))) (fun e => yb_eq yb_c ?_) (fun e1 => ?_) H _ (Same.refl H) q
  · unfold editD
    rw [show tupOfD 5 5 d = false by simpa using e]
    rfl
  have ht : tupOfD 5 5 d = true := by simpa using e1
  obtain ⟨a0, a1, a2, a3, a4, rfl⟩ := tup5 ht
  obtain ⟨_, om⟩ := ok_tup ok
  have o0 := om a0 (by simp)
  have o1 := om a1 (by simp)
  have o2 := om a2 (by simp)
  have o3 := om a3 (by simp)
  have o4 := om a4 (by simp)
  refine rb_un5 (yv_var rfl hd) fun v1 v2 v3 v4 v5 H' s1 h1 h2 h3 h4 h5 => ?_
  have hu1 := hu.same s1
  refine rb_if (c := !(lifeD a0 && (fromOneD a1 && (fromOneD a2 && markD a3)))) (yt_not (yt_and (yt_b (yb_da (yv_var rfl h1) o0)) fun _ => yt_and (yt_b (yb_da (yv_var rfl h2) o1)) fun _ => yt_and (yt_b (yb_da (yv_var rfl h3) o2)) fun _ => yt_b (yb_da (yv_var rfl h4) o3))) (fun e => yb_eq yb_c ?_) (fun e => rb_ret ?_)
  · unfold editD
    rw [ht, Bool.true_and]
    show false = ((lifeD a0 && (fromOneD a1 && (fromOneD a2 && markD a3))) && _)
    generalize (lifeD a0 && (fromOneD a1 && (fromOneD a2 && markD a3))) = z at e ⊢
    cases z with
    | true => cases e
    | false => rfl
  · have e2 : (lifeD a0 && (fromOneD a1 && (fromOneD a2 && markD a3))) = true := by
      generalize (lifeD a0 && (fromOneD a1 && (fromOneD a2 && markD a3))) = z at e ⊢
      simpa using e
    obtain ⟨x0, x1⟩ := Bool.and_eq_true_iff.mp e2
    obtain ⟨x1, x2⟩ := Bool.and_eq_true_iff.mp x1
    obtain ⟨x2, x3⟩ := Bool.and_eq_true_iff.mp x2
    obtain ⟨l, rfl⟩ := intD_of (Bool.and_eq_true_iff.mp x0).1
    obtain ⟨n, rfl⟩ := intD_of (Bool.and_eq_true_iff.mp (Bool.and_eq_true_iff.mp x1).1).1
    obtain ⟨m1, m2⟩ := Bool.and_eq_true_iff.mp x3
    refine yb_eq (yb_and (yb_eqI (yn_numIn (yv_var rfl h4) (yn_v (yv_var rfl h1)) m1 (Bool.and_eq_true_iff.mp m2).1) (yn_op (fun _ _ q => ⟨_, _, rfl, rfl, q⟩) (yn_v (yv_var rfl h2)) yn_c)) fun _ => yb_da2 (yv_var rfl hu1) (yv_var rfl h5) o4 (hf.2 _ _ _ _ _ rfl)) ?_
    unfold editD
    rw [ht, Bool.true_and]
    show _ = ((lifeD (.int l) && (fromOneD (.int n) && (fromOneD a2 && markD a3))) && _)
    rw [e2, Bool.true_and]
    rfl
end
end Sm
namespace Sm
open PySem PySem.Spec PyProof.Rows L2 Tn Vd RZ
/-! ### the law's looks -/
theorem ofnot {b : Bool} (h : (!b) = false) : b = true := by
  cases b with
  | true => rfl
  | false => cases h
def RuleNm (d : PyData) : Bool := eqS (at_ d 0) "rule"
def lawRelD (d : PyData) : Bool := relD d && !RuleNm d
def lawWorthD (s d : PyData) : Bool := if eqS s "number" = true then smallD d else wordD d
section
variable {K : PySem.W.Frag} {σ : L2.St} {H : Hp} {ta tb tc : TE} {a b c : Bool} {d : PyData} {i j k : Int} {r r' : R2}
theorem yr_range1 {n : Int} (ha : YN ta σ H n) (h1 : -(2 ^ 62) ≤ n) (h2 : n < 2 ^ 62) : ∀ (H1 : Hp) (R : It → Hp → Prop), Same H H1 → (∀ H2, Same H1 H2 → R (Itr 0 n.toNat) H2) → iRng1 (tCons ta tNil) σ H1 R := fun H1 R s q => ha H1 _ s fun H2 s2 => ⟨n, rfl, h1, h2, q H2 s2⟩
theorem yn_abs (ha : YN ta σ H i) : YN (tCB (fun xs H Q => ∃ i, xs = [.int i] ∧ Q (.int (if i < 0 then -i else i)) H) (tCons ta tNil)) σ H (if i < 0 then -i else i) := fun H1 Q s q => ha H1 _ s fun H2 s2 => ⟨i, rfl, q H2 s2⟩
theorem zipB (xs : List V) : ((xs.zip (xs.drop 1)).map fun e => ltV e.1 e.2).all id = risV xs := by
  rw [List.all_map]
  rfl
theorem zipL (xs : List V) : ((xs.zip (xs.drop 1)).map fun e => ltV e.1 e.2).length = xs.length - 1 := by
  rw [List.length_map, List.length_zip, List.length_drop]
  omega
theorem zipAt {xs : List V} {i : Nat} {b : Bool} (h : ((xs.zip (xs.drop 1)).map fun e => ltV e.1 e.2)[i]? = some b) : ∃ x y, xs[i]? = some x ∧ xs[i + 1]? = some y ∧ b = ltV x y := by
  rw [List.getElem?_map] at h
  obtain ⟨⟨x, y⟩, h1, h2⟩ := Option.map_eq_some_iff.mp h
  rw [List.getElem?_zip_eq_some] at h1
  refine ⟨x, y, h1.1, ?_, h2.symm⟩
  have h3 := h1.2
  rw [List.getElem?_drop] at h3
  rw [Nat.add_comm]
  exact h3
/-- all([t[at][0] < t[at + 1][0] for at in range(len(t) - 1)]) -/
theorem yb_risR {ds : List PyData} {f : PyData → V} {te tn : TE} {m : Nat} (hn : YN tn σ H ((ds.length : Int) - 1)) (hz : ds.length ≤ 1000000) (hw : ∀ v, wipe ((wipe σ [m]).set m v) [m] = wipe σ [m])
    (hte : ∀ (i : Nat) (d1 d2 : PyData) H', ds[i]? = some d1 → ds[i + 1]? = some d2 → Same H H' → YB te ((wipe σ [m]).set m (some (.int (i : Int)))) H' (ltV (f d1) (f d2))) :
    YB (tCB (rAll K) (tCons (tLc (iRng1 (tCons tn tNil)) (gName m) tYes te [m]) tNil)) σ H (risV (ds.map f)) := by
  refine yb_eq (yb_allR (bs := (((ds.map f).zip ((ds.map f).drop 1)).map fun e => ltV e.1 e.2)) (yr_range1 hn (by omega) (by omega)) (by rw [zipL, List.length_map]; omega) (by rw [zipL, List.length_map]; omega) hw fun i H' hi s b hb => ?_) (zipB _)
  obtain ⟨x, y, h1, h2, rfl⟩ := zipAt hb
  rw [List.getElem?_map] at h1 h2
  obtain ⟨d1, e1, rfl⟩ := Option.map_eq_some_iff.mp h1
  obtain ⟨d2, e2, rfl⟩ := Option.map_eq_some_iff.mp h2
  have := hte i d1 d2 H' e1 e2 s
  rw [show (0 : Int) + (i : Int) = (i : Int) by omega]
  exact this
end
section
variable {P : Program} {w : World} {K : PySem.W.Frag} {mg : Str → Option Value} {base : Heap}
abbrev sLInt : Stmt := top 71
abbrev sLName : Stmt := top 72
abbrev sLWorth : Stmt := top 73
abbrev sLRelation : Stmt := top 74
abbrev sLSchema : Stmt := top 75
abbrev sLWorths : Stmt := top 76
abbrev sLMark : Stmt := top 78
theorem scLInt : FnScope ["thing"] ["thing"] (defScope sLInt) := ⟨rfl, rfl, rfl, by decide +kernel, rfl, by decide +kernel, by decide +kernel⟩
theorem ok_lint {f : Addr} {fd : FuncData} (F : FnP K "_law_is_int" sLInt f fd) (M : Nm mg) : FnOk P w K mg base CX0 1 f fd ["thing"] (spA K intD) := by
  refine F.ok scLInt spA_len (fun cdv A outer s H vs Q E hr h => ?_)
  obtain ⟨v, d, rfl, hd, _, q⟩ := h
  refine ⟨_, PSs.nox (pss_one (ps_ret (pe_and (pe_callB (id := "isinstance") (r := rIsi K) call_isi (by rfl) M.isinstance (by decide +kernel) (pa_cons (pv 0) (pa_cons (ty_cls (n := "int") M.int (by rfl) (by decide +kernel)) pa_nil))) (pe_one (pe_not (pe_callB (id := "isinstance") (r := rIsi K) call_isi (by rfl) M.isinstance (by decide +kernel) (pa_cons (pv 0) (pa_cons (ty_cls (n := "bool") M.bool (by rfl) (by decide +kernel)) pa_nil)))))))), ?_⟩
  exact rb_ret (yb_and (yb_isi (yv_var rfl hd) (kI d)) fun _ => yb_not (yb_isi (yv_var rfl hd) (kB d))) H _ (Same.refl H) q
theorem scLName : FnScope ["thing", "sign"] ["thing"] (defScope sLName) := ⟨rfl, rfl, rfl, by decide +kernel, rfl, by decide +kernel, by decide +kernel⟩
theorem ok_lname {f : Addr} {fd : FuncData} (F : FnP K "_law_is_name" sLName f fd) (M : Nm mg) : FnOk P w K mg base CX0 1 f fd ["thing"] (spA K nameD) := by
  refine F.ok scLName spA_len (fun cdv A outer s H vs Q E hr h => ?_)
  obtain ⟨v, d, rfl, hd, ok, q⟩ := h
  refine ⟨_, PSs.nox (pss_one (ps_ret (pe_and (pe_callB (id := "isinstance") (r := rIsi K) call_isi (by rfl) M.isinstance (by decide +kernel) (pa_cons (pv 0) (pa_cons (ty_cls (n := "str") M.str (by rfl) (by decide +kernel)) pa_nil))) (pe_and (pe_chain op_le op_le pe_int (pe_callB call_len_str (by rfl) M.len PySem.boot_len (pa_cons (pv 0) pa_nil)) pe_int) (pe_one (pe_callB (r := rAll K) (cr_all rfl) (by rfl) M.all (by decide +kernel) (pa_cons (pe_lc (own := [("sign", 1)]) (g := gName 1) (tt := tYes) (by rfl) scLName.nd (pi_str (pv 0)) (blkOk_by (N := ["thing", "sign"]) (sc := defScope sLName) (by decide +kernel)) (fun _ _ _ _ _ => pg_name (i := 1) scLName.nd rfl (Or.inl rfl)) (fun _ _ _ _ _ => pts_nil) (fun _ _ _ _ _ => (pe_chain (r := rLeS) (r' := rLeS) op_le_str op_le_str pe_str (pv 1) pe_str))) pa_nil))))))), ?_⟩
  refine rb_ret (yb_and (yb_isi (yv_var rfl hd) (kS d)) fun e => ?_) H _ (Same.refl H) q
  obtain ⟨x, rfl⟩ := isS_of e
  have hz := ok_str ok
  exact yb_and (yb_chain (fun _ _ q => ⟨_, _, rfl, rfl, q⟩) (fun _ _ q => ⟨_, _, rfl, rfl, q⟩) yn_c (yn_lenS (ys_v (yv_var rfl hd)) (by rw [size6]; omega)) yn_c) fun _ => yb_allS (p := rngB 97 122) (ys_v (yv_var rfl hd)) (ok_str ok) (fun _ => rfl) fun c H' s => yb_sgn (by decide) (by decide) rfl
theorem scLWorth : FnScope ["sort", "thing", "sign"] ["sort", "thing"] (defScope sLWorth) := ⟨rfl, rfl, rfl, by decide +kernel, rfl, by decide +kernel, by decide +kernel⟩
theorem ok_lworth {f : Addr} {fd : FuncData} (F : FnP K "_law_is_worth" sLWorth f fd) (M : Nm mg) (DI : DA P w K mg base "_law_is_int" 1 intD) : FnOk P w K mg base CX0 2 f fd ["sort", "thing"] (spA2 K (fun _ _ => True) lawWorthD) := by
  refine F.ok scLWorth spA2_len (fun cdv A outer s H vs Q E hr h => ?_)
  obtain ⟨u, v, e, d, rfl, hu, hd, ok, _, q⟩ := h
  refine ⟨_, PSs.nox (pss_cons (ps_if (pt_cmpR (op_eqS (hu_of1 hr)) (pv 0) pe_str (nomark _)) (pss_one (ps_ret (pe_and (pe_df DI hr (by decide) (pa_cons (pv 1) pa_nil)) (pe_one (pe_cmpR op_lt (pe_callB call_abs (by rfl) M.abs (by decide +kernel) (pa_cons (pv 1) pa_nil)) (pe_op op_pow pe_int pe_int) (nomark _)))))) pss_nil)
      (pss_one (ps_ret (pe_and (pe_callB (id := "isinstance") (r := rIsi K) call_isi (by rfl) M.isinstance (by decide +kernel) (pa_cons (pv 1) (pa_cons (ty_cls (n := "str") M.str (by rfl) (by decide +kernel)) pa_nil))) (pe_and (pe_cmpR op_le (pe_callB call_len_str (by rfl) M.len PySem.boot_len (pa_cons (pv 1) pa_nil)) pe_int (nomark _)) (pe_one (pe_callB (r := rAll K) (cr_all rfl) (by rfl) M.all (by decide +kernel) (pa_cons (pe_lc (own := [("sign", 2)]) (g := gName 2) (tt := tYes) (by rfl) scLWorth.nd (pi_str (pv 1)) (blkOk_by (N := ["sort", "thing", "sign"]) (sc := defScope sLWorth) (by decide +kernel)) (fun _ _ _ _ _ => pg_name (i := 2) scLWorth.nd rfl (Or.inl rfl)) (fun _ _ _ _ _ => pts_nil) (fun _ _ _ _ _ => (pe_chain (r := rLeS) (r' := rLeS) op_le_str op_le_str pe_str (pv 2) pe_str))) pa_nil)))))))), ?_⟩
  refine rb_if (b := lawWorthD e d) (c := eqS e "number") (yt_t (yb_eqS (yv_var rfl hu) ys_c)) (fun e1 => yb_eq (yb_and (b := (decide (-100000000000000000000 < intOf d) && decide (intOf d < 100000000000000000000))) (yb_da (yv_var rfl hd) ok) fun e2 => ?_) ?_) (fun e1 => rb_ret (yb_eq (yb_and (b := (decide ((lenS d : Int) ≤ 20) && sgnD 32 126 d)) (yb_isi (yv_var rfl hd) (kS d)) fun e2 => ?_) ?_)) H _ (Same.refl H) q
  · obtain ⟨i, rfl⟩ := intD_of e2
    refine yb_eq (yb_op (b := decide ((if i < 0 then -i else i) < (10 : Int) ^ (20 : Int).toNat)) (fun _ _ q => ⟨_, _, rfl, rfl, q⟩) (yn_abs (yn_v (yv_var rfl hd))) (yn_op (fun _ _ q => ⟨_, _, rfl, rfl, ⟨by decide, by decide, by decide⟩, q⟩) yn_c yn_c)) ?_
    show decide ((if i < 0 then -i else i) < (10 : Int) ^ (20 : Int).toNat) = (decide (-100000000000000000000 < i) && decide (i < 100000000000000000000))
    rw [show (10 : Int) ^ (20 : Int).toNat = 100000000000000000000 by decide, ← Bool.decide_and]
    exact decide_eq_decide.mpr (by split <;> omega)
  · unfold lawWorthD
    rw [if_pos e1]
    rfl
  · obtain ⟨x, rfl⟩ := isS_of e2
    have hz := ok_str ok
    exact yb_and (yb_op (fun _ _ q => ⟨_, _, rfl, rfl, q⟩) (yn_lenS (ys_v (yv_var rfl hd)) (by rw [size6]; omega)) yn_c) fun _ => yb_allS (p := rngB 32 126) (ys_v (yv_var rfl hd)) (ok_str ok) (fun _ => rfl) fun c H' s => yb_sgn (by decide) (by decide) rfl
  · unfold lawWorthD
    rw [e1, if_neg Bool.false_ne_true]
    rfl
theorem scLRelation : FnScope ["thing", "sorts", "sort"] ["thing"] (defScope sLRelation) := ⟨rfl, rfl, rfl, by decide +kernel, rfl, by decide +kernel, by decide +kernel⟩
def lrel1 (d : PyData) : Bool := !isT d || (!decide ((lenD d : Int) = 3) || (!nameD (at_ d 0) || RuleNm d))
def lkindD (k s : PyData) : Bool := if isS k = true then (eqS k "bag" || (eqS k "sum" && eqS (lastD s) "number")) else (intD k && (decide (0 ≤ intOf k) && decide (intOf k < ((partsD s).length : Int))))
theorem lkind_eq {k s : PyData} : lkindD k s = kindD k s := by
  unfold lkindD kindD
  cases k with
  | str x => rfl
  | int i =>
    show (true && (decide (0 ≤ i) && decide (i < ((partsD s).length : Int)))) = if (true && decide (0 ≤ i)) = true then decide (i < ((partsD s).length : Int)) else false
    cases h : decide (0 ≤ i) <;> simp
  | _ => rfl
theorem isT3 {d : PyData} (h1 : isT d = true) (h2 : decide ((lenD d : Int) = 3) = true) : ∃ x y z, d = .tuple [x, y, z] := by
  obtain ⟨ds, rfl⟩ := isT_of h1
  have h3 : (ds.length : Int) = 3 := of_decide_eq_true h2
  exact tup3 (tupOf_true (by omega) (by omega))
theorem tup3_of {d : PyData} : tupOfD 3 3 d = (isT d && decide ((lenD d : Int) = 3)) := by
  unfold tupOfD lenD
  cases isT d
  · rfl
  · rw [Bool.true_and, Bool.true_and, ← Bool.decide_and]
    exact decide_eq_decide.mpr (by omega)
theorem ok_lrelation {f : Addr} {fd : FuncData} (F : FnP K "_law_is_relation" sLRelation f fd) (M : Nm mg) (DI : DA P w K mg base "_law_is_int" 1 intD) (DN : DA P w K mg base "_law_is_name" 1 nameD) : FnOk P w K mg base CX0 2 f fd ["thing"] (spA K lawRelD) := by
  refine F.ok scLRelation spA_len (fun cdv A outer s H vs Q E hr h => ?_)
  obtain ⟨v, d, rfl, hd, ok, q⟩ := h
  refine ⟨_, PSs.nox (pss_cons (ps_if (PW.pt (pw_or (pt_not (pt_val (pe_callB (id := "isinstance") (r := rIsi K) call_isi (by rfl) M.isinstance (by decide +kernel) (pa_cons (pv 0) (pa_cons (ty_cls (n := "tuple") M.tuple (by rfl) (by decide +kernel)) pa_nil))))) (pw_or (pt_cmpR op_ne (pe_callB call_len_seq (by rfl) M.len PySem.boot_len (pa_cons (pv 0) pa_nil)) pe_int (nomark _)) (pw_or (pt_not (pt_val (pe_df DN hr (by decide) (pa_cons (pe_ix ix_tup (pv 0) pe_int (fun _ _ => rfl)) pa_nil)))) (pw_or1 (pt_cmpR (op_eqS (hu_of1 hr)) (pe_ix ix_tup (pv 0) pe_int (fun _ _ => rfl)) pe_str (nomark _))))))) (pss_one (ps_ret pe_bl)) pss_nil)
      (pss_cons (ps_set (i := 1) scLRelation.nd rfl (Or.inl rfl) (pe_ix ix_tup (pv 0) pe_int (fun _ _ => rfl)))
      (pss_cons (ps_if (PW.pt (pw_or (pt_not (pt_val (pe_callB (id := "isinstance") (r := rIsi K) call_isi (by rfl) M.isinstance (by decide +kernel) (pa_cons (pv 1) (pa_cons (ty_cls (n := "tuple") M.tuple (by rfl) (by decide +kernel)) pa_nil))))) (pw_or1 (pt_not (pt_chain op_le op_le pe_int (pe_callB call_len_seq (by rfl) M.len PySem.boot_len (pa_cons (pv 1) pa_nil)) pe_int))))) (pss_one (ps_ret pe_bl)) pss_nil)
      (pss_cons (ps_if (pt_not (pt_val (pe_callB (r := rAll K) (cr_all rfl) (by rfl) M.all (by decide +kernel) (pa_cons (pe_lc (own := [("sort", 2)]) (g := gName 2) (tt := tYes) (by rfl) scLRelation.nd (pi_tup (pv 1)) (blkOk_by (N := ["thing", "sorts", "sort"]) (sc := defScope sLRelation) (by decide +kernel)) (fun _ _ _ _ _ => pg_name (i := 2) scLRelation.nd rfl (Or.inl rfl)) (fun _ _ _ _ _ => pts_nil) (fun _ _ _ _ _ => (pe_and (pe_callB (id := "isinstance") (r := rIsi K) call_isi (by rfl) M.isinstance (by decide +kernel) (pa_cons (pv 2) (pa_cons (ty_cls (n := "str") M.str (by rfl) (by decide +kernel)) pa_nil))) (pe_one (pe_cmpR (r := rInS K false) (op_inS' (hu_of hr)) (pv 2) (pe_tup (pa_cons pe_str (pa_cons pe_str pa_nil))) (by rfl)))))) pa_nil)))) (pss_one (ps_ret pe_bl)) pss_nil)
      (pss_cons (ps_if (pt_val (pe_callB (id := "isinstance") (r := rIsi K) call_isi (by rfl) M.isinstance (by decide +kernel) (pa_cons (pe_ix ix_tup (pv 0) pe_int (fun _ _ => rfl)) (pa_cons (ty_cls (n := "str") M.str (by rfl) (by decide +kernel)) pa_nil)))) (pss_one (ps_ret (pe_or (pe_cmpR (op_eqS (hu_of1 hr)) (pe_ix ix_tup (pv 0) pe_int (fun _ _ => rfl)) pe_str (nomark _)) (pe_one (pe_and (pe_cmpR (op_eqS (hu_of1 hr)) (pe_ix ix_tup (pv 0) pe_int (fun _ _ => rfl)) pe_str (nomark _)) (pe_one (pe_cmpR (op_eqS (hu_of1 hr)) (pe_ix ix_tup (pv 1) (pe_un un_neg pe_int) (fun _ _ => rfl)) pe_str (nomark _)))))))) pss_nil)
      (pss_one (ps_ret (pe_and (pe_df DI hr (by decide) (pa_cons (pe_ix ix_tup (pv 0) pe_int (fun _ _ => rfl)) pa_nil)) (pe_one (pe_chain op_le op_lt pe_int (pe_ix ix_tup (pv 0) pe_int (fun _ _ => rfl)) (pe_callB call_len_seq (by rfl) M.len PySem.boot_len (pa_cons (pv 1) pa_nil)))))))))))), ?_⟩
  refine rb_if (b := lawRelD d) (c := lrel1 d) (yt_or (yt_not (yt_b (yb_isi (yv_var rfl hd) (kT d)))) fun e => ?_) (fun e => yb_eq yb_c ?_) (fun e => ?_) H _ (Same.refl H) q
  · obtain ⟨ds, rfl⟩ := isT_of (show isT d = true by simpa using e)
    refine yt_or (yt_t (yb_neI (yn_lenT (yv_var rfl hd)) yn_c)) fun e2 => ?_
    have l3 : ds.length = 3 := by
      have := of_decide_eq_true (ofnot (b := decide ((ds.length : Int) = 3)) e2)
      omega
    refine yt_or (yt_not (yt_b (yb_da (yv_at (m := 0) (yv_var rfl hd) yn_c (by omega)) (ok_at ok (by omega))))) fun e3 => yt_t (yb_eqS (yv_at (m := 0) (yv_var rfl hd) yn_c (by omega)) ys_c)
  · unfold lawRelD relD
    rw [tup3_of]
    unfold lrel1 at e
    cases h1 : isT d <;> cases h2 : decide ((lenD d : Int) = 3) <;> cases h3 : nameD (at_ d 0) <;> cases h4 : RuleNm d <;> simp [h1, h2, h3, h4] at e ⊢
  · obtain ⟨e1, e2, e3, e4⟩ : isT d = true ∧ decide ((lenD d : Int) = 3) = true ∧ nameD (at_ d 0) = true ∧ RuleNm d = false := by
      unfold lrel1 at e
      cases h1 : isT d <;> cases h2 : decide ((lenD d : Int) = 3) <;> cases h3 : nameD (at_ d 0) <;> cases h4 : RuleNm d <;> simp [h1, h2, h3, h4] at e ⊢
    have et := tup3_of (d := d)
    rw [e1, e2] at et
    obtain ⟨x, k, ss, rfl⟩ := isT3 e1 e2
    obtain ⟨_, om⟩ := ok_tup ok
    have oss := om ss (by simp)
    have ok2 := om k (by simp)
    have zl : lawRelD (.tuple [x, k, ss]) = (sortsD ss && kindD k ss) := by
      unfold lawRelD relD
      rw [et, e3, e4]
      simp only [Bool.true_and, Bool.not_false, Bool.and_true]
      rfl
    refine rb_asg1 (yv_ix (m := 2) (yv_var rfl hd) yn_c rfl) fun v4 H4 s4 h4 => ?_
    have hd4 := hd.same s4
    refine rb_if (c := !isT ss || !(decide ((1 : Int) ≤ (lenD ss : Int)) && decide ((lenD ss : Int) ≤ 5))) (yt_or (yt_not (yt_b (yb_isi (yv_var rfl h4) (kT ss)))) fun e5 => ?_) (fun e5 => yb_eq yb_c ?_) fun e5 => ?_
    · obtain ⟨ys, rfl⟩ := isT_of (show isT ss = true by simpa using e5)
      exact yt_not (yt_t (yb_chain (fun _ _ q => ⟨_, _, rfl, rfl, q⟩) (fun _ _ q => ⟨_, _, rfl, rfl, q⟩) yn_c (yn_lenT (yv_var rfl h4)) yn_c))
    · rw [zl]
      unfold sortsD tupOfD
      show false = (((isT ss && (decide ((1 : Int) ≤ (lenD ss : Int)) && decide ((lenD ss : Int) ≤ 5))) && _) && _)
      generalize (decide ((1 : Int) ≤ (lenD ss : Int)) && decide ((lenD ss : Int) ≤ 5)) = z at e5 ⊢
      cases h1 : isT ss <;> cases z <;> simp [h1] at e5 ⊢
    · obtain ⟨e6, e7⟩ : isT ss = true ∧ (decide ((1 : Int) ≤ (lenD ss : Int)) && decide ((lenD ss : Int) ≤ 5)) = true := by
        generalize (decide ((1 : Int) ≤ (lenD ss : Int)) && decide ((lenD ss : Int) ≤ 5)) = z at e5 ⊢
        cases h1 : isT ss <;> cases z <;> simp [h1] at e5 ⊢
      have es : sortsD ss = (partsD ss).all sortD := by
        unfold sortsD tupOfD
        show ((isT ss && (decide ((1 : Int) ≤ (lenD ss : Int)) && decide ((lenD ss : Int) ≤ 5))) && _) = _
        rw [e6, e7]
        rfl
      rw [zl, es]
      obtain ⟨ys, rfl⟩ := isT_of e6
      have hz := (ok_tup oss).1
      refine rb_if (c := !(ys.all sortD)) (yt_not (yt_b (yb_allT (p := sortD) (yv_var rfl h4) hz (fun _ => rfl) fun vy dy H' m s hy => yb_eq (yb_and (b := inS dy ["number", "word"]) (yb_isi (yv_var rfl hy) (kS dy)) fun _ => yb_inS (yv_var rfl hy) (by decide) (yss_cons ys_c (yss_cons ys_c yss_nil))) ?_))) (fun e8 => yb_eq yb_c ?_) fun e8 => ?_
      · cases dy <;> rfl
      · show false = (ys.all sortD && _)
        rw [show ys.all sortD = false by simpa using e8]
        rfl
      · have e9 : ys.all sortD = true := by simpa using e8
        show RB _ _ H4 (ys.all sortD && _)
        rw [e9, Bool.true_and, ← lkind_eq]
        have hl : ∃ x2, ys.getLast? = some x2 := by
          have hne : ys ≠ [] := fun z => by
            have h1 := of_decide_eq_true (Bool.and_eq_true_iff.mp e7).1
            rw [z] at h1
            exact absurd h1 (by decide)
          exact ⟨_, List.getLast?_eq_some_getLast hne⟩
        obtain ⟨x2, hl⟩ := hl
        refine rb_if (c := isS k) (yt_b (yb_isi (yv_ix (m := 1) (yv_var rfl hd4) yn_c rfl) (kS k))) (fun e10 => yb_eq (yb_or (yb_eqS (yv_ix (m := 1) (yv_var rfl hd4) yn_c rfl) ys_c) fun _ => yb_and (yb_eqS (yv_ix (m := 1) (yv_var rfl hd4) yn_c rfl) ys_c) fun _ => yb_eqS (yv_ixL (yv_var rfl h4) (yn_neg (fun _ _ q => ⟨_, rfl, q⟩) yn_c) hl) ys_c) ?_) fun e10 => rb_ret (yb_eq (yb_and (b := (decide (0 ≤ intOf k) && decide (intOf k < (ys.length : Int)))) (yb_da (yv_ix (m := 1) (yv_var rfl hd4) yn_c rfl) ok2) fun e11 => ?_) ?_)
        · unfold lkindD lastD
          rw [if_pos e10]
          show _ = (_ || (_ && eqS ((ys.getLast?).getD .none) "number"))
          rw [hl]
          rfl
        · obtain ⟨i, rfl⟩ := intD_of e11
          exact yb_chain (fun _ _ q => ⟨_, _, rfl, rfl, q⟩) (fun _ _ q => ⟨_, _, rfl, rfl, q⟩) yn_c (yn_v (yv_ix (m := 1) (yv_var rfl hd4) yn_c rfl)) (yn_lenT (yv_var rfl h4))
        · unfold lkindD
          rw [e10, if_neg Bool.false_ne_true]
          rfl
theorem scLSchema : FnScope ["thing", "one", "at"] ["thing"] (defScope sLSchema) := ⟨rfl, rfl, rfl, by decide +kernel, rfl, by decide +kernel, by decide +kernel⟩
theorem inV_names {ds : List PyData} (h : ∀ d ∈ ds, relD d = true) : inV (.str "rule") (ds.map fun r => V.str (strOf (at_ r 0))) = !(ds.all fun d => !RuleNm d) := by
  induction ds with
  | nil => rfl
  | cons d r ih =>
    obtain ⟨x, k, ss, rfl, _⟩ := relD_of (h d List.mem_cons_self)
    have ih2 := ih fun d m => h d (List.mem_cons_of_mem _ m)
    unfold inV at ih2 ⊢
    show ((x == "rule") || _) = !((!(x == "rule")) && _)
    rw [ih2]
    cases (x == "rule") <;> simp
theorem lawSch {ds : List PyData} : (ds.all lawRelD && risV (ds.map fun r => V.str (strOf (at_ r 0)))) = (ds.all relD && (!inV (.str "rule") (ds.map fun r => V.str (strOf (at_ r 0))) && risV (ds.map fun r => V.str (strOf (at_ r 0))))) := by
  have e : ds.all lawRelD = (ds.all relD && ds.all fun d => !RuleNm d) := by
    induction ds with
    | nil => rfl
    | cons d r ih =>
      rw [List.all_cons, List.all_cons, List.all_cons, ih]
      unfold lawRelD
      cases relD d <;> cases RuleNm d <;> cases r.all relD <;> simp
  cases h : ds.all relD with
  | false =>
    rw [e, h]
    rfl
  | true =>
    rw [e, h, inV_names fun d m => List.all_eq_true.mp h d m]
    simp
theorem ok_lschema {f : Addr} {fd : FuncData} (F : FnP K "_law_is_due_schema" sLSchema f fd) (M : Nm mg) (DR : DA P w K mg base "_law_is_relation" 2 lawRelD) : FnOk P w K mg base CX0 3 f fd ["thing"] (spA K schD) := by
  refine F.ok scLSchema spA_len (fun cdv A outer s H vs Q E hr h => ?_)
  obtain ⟨v, d, rfl, hd, ok, q⟩ := h
  refine ⟨_, PSs.nox (pss_cons (ps_if (PW.pt (pw_or (pt_not (pt_val (pe_callB (id := "isinstance") (r := rIsi K) call_isi (by rfl) M.isinstance (by decide +kernel) (pa_cons (pv 0) (pa_cons (ty_cls (n := "tuple") M.tuple (by rfl) (by decide +kernel)) pa_nil))))) (pw_or (pt_not (pt_chain op_le op_le pe_int (pe_callB call_len_seq (by rfl) M.len PySem.boot_len (pa_cons (pv 0) pa_nil)) pe_int)) (pw_or1 (pt_not (pt_val (pe_callB (r := rAll K) (cr_all rfl) (by rfl) M.all (by decide +kernel) (pa_cons (pe_lc (own := [("one", 1)]) (g := gName 1) (tt := tYes) (by rfl) scLSchema.nd (pi_tup (pv 0)) (blkOk_by (N := ["thing", "one", "at"]) (sc := defScope sLSchema) (by decide +kernel)) (fun _ _ _ _ _ => pg_name (i := 1) scLSchema.nd rfl (Or.inl rfl)) (fun _ _ _ _ _ => pts_nil) (fun _ _ _ _ _ => (pe_df DR hr (by decide) (pa_cons (pv 1) pa_nil)))) pa_nil)))))))) (pss_one (ps_ret pe_bl)) pss_nil)
      (pss_one (ps_ret (pe_callB (r := rAll K) (cr_all rfl) (by rfl) M.all (by decide +kernel) (pa_cons (pe_lc (own := [("at", 2)]) (g := gName 2) (tt := tYes) (by rfl) scLSchema.nd (pi_range1 rfl M.range (pa_cons (pe_op op_sub (pe_callB call_len_seq (by rfl) M.len PySem.boot_len (pa_cons (pv 0) pa_nil)) pe_int) pa_nil)) (blkOk_by (N := ["thing", "one", "at"]) (sc := defScope sLSchema) (by decide +kernel)) (fun _ _ _ _ _ => pg_name (i := 2) scLSchema.nd rfl (Or.inl rfl)) (fun _ _ _ _ _ => pts_nil) (fun _ _ _ _ _ => (pe_cmpR op_lt_str (pe_ix (r := rIxT K) ix_tup (pe_ix (r := rIxT K) ix_tup (pv 0) (pv 2) (fun _ _ => rfl)) pe_int (fun _ _ => rfl)) (pe_ix (r := rIxT K) ix_tup (pe_ix (r := rIxT K) ix_tup (pv 0) (pe_op op_add (pv 2) pe_int) (fun _ _ => rfl)) pe_int (fun _ _ => rfl)) (nomark _)))) pa_nil))))), ?_⟩
  have z0 : schD d = (tupOfD 1 8 d && ((partsD d).all lawRelD && risV (namesD d))) := by
    unfold schD namesD
    rw [lawSch]
  rw [z0] at q
  refine rb_if (b := tupOfD 1 8 d && ((partsD d).all lawRelD && risV (namesD d))) (c := !isT d || (!(decide ((1 : Int) ≤ (lenD d : Int)) && decide ((lenD d : Int) ≤ 8)) || !(partsD d).all lawRelD)) (yt_or (yt_not (yt_b (yb_isi (yv_var rfl hd) (kT d)))) fun e => ?_) (fun e => yb_eq yb_c ?_) (fun e => rb_ret ?_) H _ (Same.refl H) q
  · obtain ⟨ds, rfl⟩ := isT_of (show isT d = true by simpa using e)
    exact yt_or (yt_not (yt_t (yb_chain (fun _ _ q => ⟨_, _, rfl, rfl, q⟩) (fun _ _ q => ⟨_, _, rfl, rfl, q⟩) yn_c (yn_lenT (yv_var rfl hd)) yn_c))) fun _ => yt_not (yt_b (yb_allT (p := lawRelD) (yv_var rfl hd) (ok_tup ok).1 (fun _ => rfl) fun v d H' m s hd => yb_da (yv_var rfl hd) ((ok_tup ok).2 d m)))
  · unfold tupOfD
    show false = ((isT d && (decide ((1 : Int) ≤ (lenD d : Int)) && decide ((lenD d : Int) ≤ 8))) && _)
    generalize (decide ((1 : Int) ≤ (lenD d : Int)) && decide ((lenD d : Int) ≤ 8)) = z at e ⊢
    cases h1 : isT d <;> cases z <;> cases h2 : (partsD d).all lawRelD <;> simp [h1, h2] at e ⊢
  · obtain ⟨e1, e2, e3⟩ : isT d = true ∧ (decide ((1 : Int) ≤ (lenD d : Int)) && decide ((lenD d : Int) ≤ 8)) = true ∧ (partsD d).all lawRelD = true := by
      generalize (decide ((1 : Int) ≤ (lenD d : Int)) && decide ((lenD d : Int) ≤ 8)) = z at e ⊢
      cases h1 : isT d <;> cases z <;> cases h2 : (partsD d).all lawRelD <;> simp [h1, h2] at e ⊢
    obtain ⟨ds, rfl⟩ := isT_of e1
    refine yb_eq (yb_risR (ds := ds) (f := fun r => V.str (strOf (at_ r 0))) (yn_op (fun _ _ q => ⟨_, _, rfl, rfl, q⟩) (yn_lenT (yv_var rfl hd)) yn_c) (ok_tup ok).1 (fun _ => rfl) fun i d1 d2 H' h1 h2 s => ?_) ?_
    · have r1 := (Bool.and_eq_true_iff.mp (List.all_eq_true.mp e3 d1 (List.mem_of_getElem? h1))).1
      have r2 := (Bool.and_eq_true_iff.mp (List.all_eq_true.mp e3 d2 (List.mem_of_getElem? h2))).1
      obtain ⟨x1, k1, s1, rfl, _⟩ := relD_of r1
      obtain ⟨x2, k2, s2, rfl, _⟩ := relD_of r2
      exact yb_ops (fun _ _ q => ⟨_, _, rfl, rfl, q⟩) (ys_v (yv_ix (m := 0) (yv_ix (m := i) (yv_var rfl (hd.same s)) (yn_var rfl) h1) yn_c rfl)) (ys_v (yv_ix (m := 0) (yv_ix (m := i + 1) (yv_var rfl (hd.same s)) (yn_op (fun _ _ q => ⟨_, _, rfl, rfl, q⟩) (yn_var rfl) yn_c) h2) yn_c rfl))
    · unfold tupOfD
      show _ = ((isT (.tuple ds) && (decide ((1 : Int) ≤ (lenD (.tuple ds) : Int)) && decide ((lenD (.tuple ds) : Int) ≤ 8))) && _)
      rw [e1, e2, e3]
      rfl
theorem scLWorths : FnScope ["sorts", "thing", "sort", "one"] ["sorts", "thing"] (defScope sLWorths) := ⟨rfl, rfl, rfl, by decide +kernel, rfl, by decide +kernel, by decide +kernel⟩
def SortsG (s d : PyData) : Prop := ∃ ss, s = .tuple ss ∧ ss.length ≤ 1000 ∧ ∀ x ∈ ss, sortD x = true
theorem lworth_eq {s d : PyData} (h : sortD s = true) : lawWorthD s d = sortWD s d := by
  have h2 : (eqS s "number" || (eqS s "word" || false)) = true := h
  unfold lawWorthD sortWD
  cases h3 : eqS s "number" with
  | true =>
    rw [eqS_of h3, if_pos rfl, if_neg (by decide +kernel)]
  | false =>
    rw [h3] at h2
    have h4 : eqS s "word" = true := by simpa using h2
    rw [if_neg Bool.false_ne_true, if_pos h4]
theorem tupNN {n : Nat} {d : PyData} : tupOfD n n d = (isT d && decide ((lenD d : Int) = (n : Int))) := by
  unfold tupOfD lenD
  cases isT d
  · rfl
  · rw [Bool.true_and, Bool.true_and, ← Bool.decide_and]
    exact decide_eq_decide.mpr (by omega)
theorem ok_lworths {f : Addr} {fd : FuncData} (F : FnP K "_law_are_worths" sLWorths f fd) (M : Nm mg) (DW : Df P w K mg base "_law_is_worth" 2 ["sort", "thing"] (spA2 K (fun _ _ => True) lawWorthD)) : FnOk P w K mg base CX0 3 f fd ["sorts", "thing"] (spA2 K SortsG ofSorts) := by
  refine F.ok scLWorths spA2_len (fun cdv A outer s H vs Q E hr h => ?_)
  obtain ⟨u, v, e, d, rfl, hu, hd, ok, ⟨ss, rfl, hl, hss⟩, q⟩ := h
  refine ⟨_, PSs.nox (pss_cons (ps_if (PW.pt (pw_or (pt_not (pt_val (pe_callB (id := "isinstance") (r := rIsi K) call_isi (by rfl) M.isinstance (by decide +kernel) (pa_cons (pv 1) (pa_cons (ty_cls (n := "tuple") M.tuple (by rfl) (by decide +kernel)) pa_nil))))) (pw_or1 (pt_cmpR op_ne (pe_callB call_len_seq (by rfl) M.len PySem.boot_len (pa_cons (pv 1) pa_nil)) (pe_callB call_len_seq (by rfl) M.len PySem.boot_len (pa_cons (pv 0) pa_nil)) (nomark _))))) (pss_one (ps_ret pe_bl)) pss_nil)
      (pss_one (ps_ret (pe_callB (r := rAll K) (cr_all rfl) (by rfl) M.all (by decide +kernel) (pa_cons (pe_lc (own := [("sort", 2), ("one", 3)]) (g := gTup K 2 (gCons (gName 2) (gCons (gName 3) gNil))) (tt := tYes) (by rfl) scLWorths.nd (pi_zipA (by rfl) M.zip (pa_cons (pv 0) (pa_cons (pv 1) pa_nil))) (blkOk_by (N := ["sorts", "thing", "sort", "one"]) (sc := defScope sLWorths) (by decide +kernel)) (fun _ _ _ _ _ => (pg_tup rfl (pgs_cons (pg_name (i := 2) scLWorths.nd rfl (Or.inl rfl)) (pgs_cons (pg_name (i := 3) scLWorths.nd rfl (Or.inl rfl)) pgs_nil)))) (fun _ _ _ _ _ => pts_nil) (fun _ _ _ _ _ => (pe_df DW hr (by decide) (pa_cons (pv 2) (pa_cons (pv 3) pa_nil))))) pa_nil))))), ?_⟩
  have zo : ofSorts (.tuple ss) d = ((isT d && decide ((lenD d : Int) = (ss.length : Int))) && (ss.zip (partsD d)).all fun e => sortWD e.1 e.2) := by
    unfold ofSorts
    show (tupOfD ss.length ss.length d && _) = _
    rw [tupNN]
    rfl
  rw [zo] at q
  refine rb_if (b := ((isT d && decide ((lenD d : Int) = (ss.length : Int))) && (ss.zip (partsD d)).all fun e => sortWD e.1 e.2)) (c := !isT d || !decide ((lenD d : Int) = (ss.length : Int))) (yt_or (yt_not (yt_b (yb_isi (yv_var rfl hd) (kT d)))) fun e => ?_) (fun e => yb_eq yb_c ?_) (fun e => rb_ret ?_) H _ (Same.refl H) q
  · obtain ⟨ds, rfl⟩ := isT_of (show isT d = true by simpa using e)
    exact yt_t (yb_neI (yn_lenT (yv_var rfl hd)) (yn_lenT (yv_var rfl hu)))
  · cases h1 : isT d <;> cases h2 : decide ((lenD d : Int) = (ss.length : Int)) <;> simp [h1, h2] at e ⊢
  · obtain ⟨e1, e2⟩ : isT d = true ∧ decide ((lenD d : Int) = (ss.length : Int)) = true := by
      cases h1 : isT d <;> cases h2 : decide ((lenD d : Int) = (ss.length : Int)) <;> simp [h1, h2] at e ⊢
    obtain ⟨ds, rfl⟩ := isT_of e1
    refine yb_eq (yb_allZT (p := sortWD) (yv_var rfl hu) (yv_var rfl hd) (by rw [List.length_zip]; omega) (fun _ _ => rfl) fun v1 v2 d1 d2 H' m s h1 h2 => yb_eq (yb_da2 (yv_var rfl h1) (yv_var rfl h2) ((ok_tup ok).2 d2 (List.of_mem_zip m).2) trivial) (lworth_eq (hss d1 (List.of_mem_zip m).1))) ?_
    rw [e1, e2]
    rfl
theorem scLMark : FnScope ["thing", "one", "life", "number", "at"] ["thing"] (defScope sLMark) := ⟨rfl, rfl, rfl, by decide +kernel, rfl, by decide +kernel, by decide +kernel⟩
def pair2 (d : PyData) : Bool := isT d && decide ((lenD d : Int) = 2)
def ints2 (d : PyData) : Bool := intD (at_ d 0) && intD (at_ d 1)
def rng2 (d : PyData) : Bool := (decide (0 < intOf (at_ d 0)) && decide (intOf (at_ d 0) < 1000)) && decide (0 < intOf (at_ d 1))
theorem mp_eq (d : PyData) : markPairD d = (pair2 d && (ints2 d && rng2 d)) := by
  unfold markPairD pair2 ints2 rng2
  rw [show tupOfD 2 2 d = (isT d && decide ((lenD d : Int) = 2)) from tupNN (n := 2)]
  cases h : (isT d && decide ((lenD d : Int) = 2)) with
  | false => rfl
  | true =>
    unfold lifeD fromOneD numD
    cases h1 : intD (at_ d 0) <;> cases h2 : intD (at_ d 1) <;> simp
    rw [Bool.eq_iff_iff]
    simp
    omega
theorem all_mp (ds : List PyData) : ds.all markPairD = (ds.all pair2 && (ds.all ints2 && ds.all rng2)) := by
  induction ds with
  | nil => rfl
  | cons d r ih =>
    rw [List.all_cons, List.all_cons, List.all_cons, List.all_cons, ih, mp_eq]
    cases pair2 d <;> cases ints2 d <;> cases rng2 d <;> simp
theorem pair2_of {d : PyData} (h : pair2 d = true) : ∃ x y, d = .tuple [x, y] := by
  obtain ⟨h1, h2⟩ := Bool.and_eq_true_iff.mp h
  obtain ⟨ds, rfl⟩ := isT_of h1
  have h3 : (ds.length : Int) = 2 := of_decide_eq_true h2
  exact tup2 (tupOf_true (by omega) (by omega))
theorem pairs_of {ds : List PyData} (h : ds.all pair2 = true) : ∃ es : List (PyData × PyData), ds = es.map fun e => PyData.tuple [e.1, e.2] := by
  induction ds with
  | nil => exact ⟨[], rfl⟩
  | cons d r ih =>
    rw [List.all_cons] at h
    obtain ⟨h1, h2⟩ := Bool.and_eq_true_iff.mp h
    obtain ⟨es, rfl⟩ := ih h2
    obtain ⟨x, y, rfl⟩ := pair2_of h1
    exact ⟨(x, y) :: es, rfl⟩
theorem ok_lmark {f : Addr} {fd : FuncData} (F : FnP K "_law_is_due_mark" sLMark f fd) (M : Nm mg) (DI : DA P w K mg base "_law_is_int" 1 intD) : FnOk P w K mg base CX0 2 f fd ["thing"] (spA K markD) := by
  refine F.ok scLMark spA_len (fun cdv A outer s H vs Q E hr h => ?_)
  obtain ⟨v, d, rfl, hd, ok, q⟩ := h
  refine ⟨_, PSs.nox (pss_cons (ps_if (PW.pt (pw_or (pt_not (pt_val (pe_callB (id := "isinstance") (r := rIsi K) call_isi (by rfl) M.isinstance (by decide +kernel) (pa_cons (pv 0) (pa_cons (ty_cls (n := "tuple") M.tuple (by rfl) (by decide +kernel)) pa_nil))))) (pw_or1 (pt_not (pt_val (pe_callB (r := rAll K) (cr_all rfl) (by rfl) M.all (by decide +kernel) (pa_cons (pe_lc (own := [("one", 1)]) (g := gName 1) (tt := tYes) (by rfl) scLMark.nd (pi_tup (pv 0)) (blkOk_by (N := ["thing", "one", "life", "number", "at"]) (sc := defScope sLMark) (by decide +kernel)) (fun _ _ _ _ _ => pg_name (i := 1) scLMark.nd rfl (Or.inl rfl)) (fun _ _ _ _ _ => pts_nil) (fun _ _ _ _ _ => (pe_and (pe_callB (id := "isinstance") (r := rIsi K) call_isi (by rfl) M.isinstance (by decide +kernel) (pa_cons (pv 1) (pa_cons (ty_cls (n := "tuple") M.tuple (by rfl) (by decide +kernel)) pa_nil))) (pe_one (pe_cmpR op_eq (pe_callB (r := fun xs H Q => ∃ p ys, xs = [.ref p] ∧ (SqL K H p ys ∨ SqT K H p ys) ∧ Q (.int ys.length) H) call_len_seq (by rfl) M.len PySem.boot_len (pa_cons (pv 1) pa_nil)) pe_int (nomark _)))))) pa_nil))))))) (pss_one (ps_ret pe_bl)) pss_nil)
      (pss_cons (ps_if (pt_not (pt_val (pe_callB (r := rAll K) (cr_all rfl) (by rfl) M.all (by decide +kernel) (pa_cons (pe_lc (own := [("life", 2), ("number", 3)]) (g := gTup K 2 (gCons (gName 2) (gCons (gName 3) gNil))) (tt := tYes) (by rfl) scLMark.nd (pi_tup (pv 0)) (blkOk_by (N := ["thing", "one", "life", "number", "at"]) (sc := defScope sLMark) (by decide +kernel)) (fun _ _ _ _ _ => (pg_tup rfl (pgs_cons (pg_name (i := 2) scLMark.nd rfl (Or.inl rfl)) (pgs_cons (pg_name (i := 3) scLMark.nd rfl (Or.inl rfl)) pgs_nil)))) (fun _ _ _ _ _ => pts_nil) (fun _ _ _ _ _ => (pe_and (pe_df DI hr (by decide) (pa_cons (pv 2) pa_nil)) (pe_one (pe_df DI hr (by decide) (pa_cons (pv 3) pa_nil)))))) pa_nil)))) (pss_one (ps_ret pe_bl)) pss_nil)
      (pss_cons (ps_if (pt_not (pt_val (pe_callB (r := rAll K) (cr_all rfl) (by rfl) M.all (by decide +kernel) (pa_cons (pe_lc (own := [("life", 2), ("number", 3)]) (g := gTup K 2 (gCons (gName 2) (gCons (gName 3) gNil))) (tt := tYes) (by rfl) scLMark.nd (pi_tup (pv 0)) (blkOk_by (N := ["thing", "one", "life", "number", "at"]) (sc := defScope sLMark) (by decide +kernel)) (fun _ _ _ _ _ => (pg_tup rfl (pgs_cons (pg_name (i := 2) scLMark.nd rfl (Or.inl rfl)) (pgs_cons (pg_name (i := 3) scLMark.nd rfl (Or.inl rfl)) pgs_nil)))) (fun _ _ _ _ _ => pts_nil) (fun _ _ _ _ _ => (pe_and (pe_chain op_lt op_lt pe_int (pv 2) pe_int) (pe_one (pe_cmpR op_gt (pv 3) pe_int (nomark _)))))) pa_nil)))) (pss_one (ps_ret pe_bl)) pss_nil)
      (pss_one (ps_ret (pe_callB (r := rAll K) (cr_all rfl) (by rfl) M.all (by decide +kernel) (pa_cons (pe_lc (own := [("at", 4)]) (g := gName 4) (tt := tYes) (by rfl) scLMark.nd (pi_range1 rfl M.range (pa_cons (pe_op op_sub (pe_callB (r := fun xs H Q => ∃ p ys, xs = [.ref p] ∧ (SqL K H p ys ∨ SqT K H p ys) ∧ Q (.int ys.length) H) call_len_seq (by rfl) M.len PySem.boot_len (pa_cons (pv 0) pa_nil)) pe_int) pa_nil)) (blkOk_by (N := ["thing", "one", "life", "number", "at"]) (sc := defScope sLMark) (by decide +kernel)) (fun _ _ _ _ _ => pg_name (i := 4) scLMark.nd rfl (Or.inl rfl)) (fun _ _ _ _ _ => pts_nil) (fun _ _ _ _ _ => (pe_cmpR op_lt (pe_ix (r := rIxT K) ix_tup (pe_ix (r := rIxT K) ix_tup (pv 0) (pv 4) (fun _ _ => rfl)) pe_int (fun _ _ => rfl)) (pe_ix (r := rIxT K) ix_tup (pe_ix (r := rIxT K) ix_tup (pv 0) (pe_op op_add (pv 4) pe_int) (fun _ _ => rfl)) pe_int (fun _ _ => rfl)) (nomark _)))) pa_nil))))))), ?_⟩
  have z0 : markD d = (isT d && (((partsD d).all pair2 && ((partsD d).all ints2 && (partsD d).all rng2)) && risV (livesD d))) := by
    unfold markD
    rw [all_mp]
  rw [z0] at q
  refine rb_if (b := (isT d && (((partsD d).all pair2 && ((partsD d).all ints2 && (partsD d).all rng2)) && risV (livesD d)))) (c := !isT d || !(partsD d).all pair2) (yt_or (yt_not (yt_b (yb_isi (yv_var rfl hd) (kT d)))) fun e => ?_) (fun e => yb_eq yb_c ?_) (fun e => ?_) H _ (Same.refl H) q
  · obtain ⟨ds, rfl⟩ := isT_of (show isT d = true by simpa using e)
    refine yt_not (yt_b (yb_allT (p := pair2) (yv_var rfl hd) (ok_tup ok).1 (fun _ => rfl) fun v d H' m s hd => yb_and (yb_isi (yv_var rfl hd) (kT d)) fun e2 => ?_))
    obtain ⟨es, rfl⟩ := isT_of e2
    exact yb_eqI (yn_lenT (yv_var rfl hd)) yn_c
  · cases h1 : isT d <;> cases h2 : (partsD d).all pair2 <;> simp [h1, h2] at e ⊢
  obtain ⟨e1, e2⟩ : isT d = true ∧ (partsD d).all pair2 = true := by
    cases h1 : isT d <;> cases h2 : (partsD d).all pair2 <;> simp [h1, h2] at e ⊢
  obtain ⟨ds, rfl⟩ := isT_of e1
  obtain ⟨hz, om⟩ := ok_tup ok
  obtain ⟨es, rfl⟩ := pairs_of e2
  have e0 : ((es.map fun e => PyData.tuple [e.1, e.2]).all ints2) = es.all fun e => (intD e.1 && intD e.2) := by
    rw [List.all_map]
    rfl
  have er : ((es.map fun e => PyData.tuple [e.1, e.2]).all rng2) = es.all fun e => ((decide (0 < intOf e.1) && decide (intOf e.1 < 1000)) && decide (0 < intOf e.2)) := by
    rw [List.all_map]
    rfl
  show RB _ _ H ((true && ((((es.map fun e => PyData.tuple [e.1, e.2]).all pair2) && (((es.map fun e => PyData.tuple [e.1, e.2]).all ints2) && ((es.map fun e => PyData.tuple [e.1, e.2]).all rng2))) && _)))
  rw [show (es.map fun e => PyData.tuple [e.1, e.2]).all pair2 = true from e2, e0, er, Bool.true_and, Bool.true_and]
  have oke : ∀ d1 d2, (d1, d2) ∈ es → okD d1 = true ∧ okD d2 = true := fun d1 d2 m => by
    have o := om _ (List.mem_map_of_mem (f := fun e : PyData × PyData => PyData.tuple [e.1, e.2]) m)
    exact ⟨(ok_tup o).2 d1 (by simp), (ok_tup o).2 d2 (by simp)⟩
  refine rb_if (c := !(es.all fun e => (intD e.1 && intD e.2))) (yt_not (yt_b (yb_allP (p := fun a b => intD a && intD b) (yv_var rfl hd) (by rw [List.length_map] at hz; exact hz) (fun _ _ => rfl) fun v1 v2 d1 d2 H' m s g1 g2 => yb_and (yb_da (yv_var rfl g1) (oke d1 d2 m).1) fun _ => yb_da (yv_var rfl g2) (oke d1 d2 m).2))) (fun e3 => yb_eq yb_c ?_) fun e3 => ?_
  · generalize (es.all fun e => (intD e.1 && intD e.2)) = z at e3 ⊢
    cases z with
    | true => cases e3
    | false => rfl
  have e4 : (es.all fun e => (intD e.1 && intD e.2)) = true := by
    generalize (es.all fun e => (intD e.1 && intD e.2)) = z at e3 ⊢
    cases z with
    | true => rfl
    | false => cases e3
  rw [e4, Bool.true_and]
  have hint : ∀ d1 d2, (d1, d2) ∈ es → ∃ i j : Int, d1 = .int i ∧ d2 = .int j := fun d1 d2 m => by
    obtain ⟨h1, h2⟩ := Bool.and_eq_true_iff.mp (List.all_eq_true.mp e4 (d1, d2) m)
    obtain ⟨i, rfl⟩ := intD_of h1
    obtain ⟨j, rfl⟩ := intD_of h2
    exact ⟨i, j, rfl, rfl⟩
  refine rb_if (c := !(es.all fun e => ((decide (0 < intOf e.1) && decide (intOf e.1 < 1000)) && decide (0 < intOf e.2)))) (yt_not (yt_b (yb_allP (p := fun a b => ((decide (0 < intOf a) && decide (intOf a < 1000)) && decide (0 < intOf b))) (yv_var rfl hd) (by rw [List.length_map] at hz; exact hz) (fun _ _ => rfl) fun v1 v2 d1 d2 H' m s g1 g2 => ?_))) (fun e5 => yb_eq yb_c ?_) fun e5 => rb_ret ?_
  · obtain ⟨i, j, rfl, rfl⟩ := hint d1 d2 m
    exact yb_and (yb_chain (fun _ _ q => ⟨_, _, rfl, rfl, q⟩) (fun _ _ q => ⟨_, _, rfl, rfl, q⟩) yn_c (yn_v (yv_var rfl g1)) yn_c) fun _ => yb_op (fun _ _ q => ⟨_, _, rfl, rfl, q⟩) (yn_v (yv_var rfl g2)) yn_c
  · generalize (es.all fun e => ((decide (0 < intOf e.1) && decide (intOf e.1 < 1000)) && decide (0 < intOf e.2))) = z at e5 ⊢
    cases z with
    | true => cases e5
    | false => rfl
  · have e6 : (es.all fun e => ((decide (0 < intOf e.1) && decide (intOf e.1 < 1000)) && decide (0 < intOf e.2))) = true := by
      generalize (es.all fun e => ((decide (0 < intOf e.1) && decide (intOf e.1 < 1000)) && decide (0 < intOf e.2))) = z at e5 ⊢
      cases z with
      | true => rfl
      | false => cases e5
    rw [e6, Bool.true_and]
    have hl : YN (tOp (rI0 fun i j => .int (i - j)) (tCB (fun xs H Q => ∃ p ys, xs = [.ref p] ∧ (SqL K H p ys ∨ SqT K H p ys) ∧ Q (.int ys.length) H) (tCons (tVar 0) tNil)) (tC (.int 1))) (L2.start ["thing", "one", "life", "number", "at"] [v]) H (((es.map fun e => PyData.tuple [e.1, e.2]).length : Int) - 1) := yn_op (fun _ _ q => ⟨_, _, rfl, rfl, q⟩) (yn_lenT (yv_var rfl hd)) yn_c
    refine yb_eq (yb_risR (m := 4) (ds := es.map fun e => PyData.tuple [e.1, e.2]) (f := fun p => V.int (intOf (at_ p 0))) hl hz (fun _ => rfl) fun i d1 d2 H' h1 h2 s => ?_) rfl
    have h1' := h1
    have h2' := h2
    rw [List.getElem?_map] at h1 h2
    obtain ⟨⟨a1, b1⟩, m1, rfl⟩ := Option.map_eq_some_iff.mp h1
    obtain ⟨⟨a2, b2⟩, m2, rfl⟩ := Option.map_eq_some_iff.mp h2
    obtain ⟨i1, j1, rfl, rfl⟩ := hint a1 b1 (List.mem_of_getElem? m1)
    obtain ⟨i2, j2, rfl, rfl⟩ := hint a2 b2 (List.mem_of_getElem? m2)
    exact yb_op (fun _ _ q => ⟨_, _, rfl, rfl, q⟩) (yn_v (yv_ix (m := 0) (yv_ix (m := i) (yv_var rfl (hd.same s)) (yn_var rfl) h1') yn_c rfl)) (yn_v (yv_ix (m := 0) (yv_ix (m := i + 1) (yv_var rfl (hd.same s)) (yn_op (fun _ _ q => ⟨_, _, rfl, rfl, q⟩) (yn_var rfl) yn_c) h2') yn_c rfl))
end
end Sm
/-! Promises of defs that are called where no repr is under way. -/
namespace Gd
open PySem PySem.Spec PyProof.Rows L2
structure FnG (P : Program) (w : World) (K : PySem.W.Frag) (mg : Str → Option Value) (base : Heap) (k : Nat) (f : Addr) (fd : FuncData) (ps : List Str) (sp : Sp) : Prop where
  len : ∀ vs H Q E, sp vs H Q E → vs.length = ps.length
  run : ∀ (A : Around) (outer : List Env) (s : Shared) (H : Hp) (args : Args) (us : List Value) (vs : List V) (Q : VK), A.guards = some [] → Room k A → Env0 P w K mg base A outer s H → BindsTo s fd args (ps.zip us) → Vals vs us → sp vs H Q E0 →
    codeAny (model P w) A (.call (.ref f) args) (CR CX0 outer P w H s Q E0) s
section
variable {P : Program} {w : World} {K : PySem.W.Frag} {mg : Str → Option Value} {base : Heap}
theorem FnG.of {k : Nat} {f : Addr} {fd : FuncData} {ps : List Str} {sp : Sp} (F : FnOk P w K mg base CX0 k f fd ps sp) : FnG P w K mg base k f fd ps sp :=
  ⟨F.len, fun A outer s H args us vs Q _ hr e0 hb r h => F.run A outer s H args us vs Q E0 hr e0 hb r h⟩
theorem FnG.mono {j k : Nat} {f : Addr} {fd : FuncData} {ps : List Str} {sp : Sp} (F : FnG P w K mg base j f fd ps sp) (h : j ≤ k) : FnG P w K mg base k f fd ps sp :=
  ⟨F.len, fun A outer s H args us vs Q hg hr => F.run A outer s H args us vs Q hg (hr.mono h)⟩
/-- THE RULE for a def of the text -/
theorem fnG {k : Nat} {x qual : Str} {params : Arguments} {body : List Stmt} {scope : Scope} {dvs : List V} {kws : List (Str × V)} {f : Addr} {fd : FuncData} {N ps : List Str} {sp : Sp} (F : FunD K x qual params body scope dvs kws f fd) (S : FnScope N ps scope)
    (len : ∀ vs H Q E, sp vs H Q E → vs.length = ps.length)
    (hbody : ∀ (cdv : Value) (A : Around) (outer : List Env) (s : Shared) (H : Hp) (vs : List V) (Q : VK), A.guards = some [] → Room k (A.deeper (envOfC qual scope s.heap.objs.size f cdv)) → sp vs H Q E0 →
      ∃ t, PSs (cxOf CX0 P w K mg base N qual scope f cdv A outer s H E0) body t ∧ t { nx := fun _ H' => Q .non H', rt := Q } (L2.start N vs) H) : FnG P w K mg base (k + 1) f fd ps sp := by
  obtain ⟨oc, od, dV, kV, doc, pm, an, cdv, ct, osl, rfl, lk, hcd, _, _⟩ := F.ex
  constructor
  · exact len
  intro A outer s H args us vs Q hg hr e0 hb rv hsp
  have nvs := len _ _ _ _ hsp
  have inK : K.In s.heap := e0.mod.kin.keeps fun b o z => (e0.bs b o z).1
  have noL : s.heap.NoLimit := e0.mod.nolimit.keeps fun b o z => (e0.bs b o z).1
  refine codeAny_call_function hr.depth (inK _ _ lk) rfl S.co S.gen rfl (PySem.W.codeRec_of inK hcd) (hb _ _ _ _ ?_)
  refine wpAny_newFunctionEnv_cells S.kind ?_ fun env he s1 cc => ?_
  · rintro ⟨n, v⟩ hy
    exact (S.par n (List.of_mem_zip hy).1).elim Or.inl fun q => Or.inr ⟨q, PySem.W.cellsFrom_some _ _ _ (.inl q)⟩
  subst he
  refine ⟨noL.keeps cc.toInCall.keep, codeAny_func ?_⟩
  obtain ⟨t, ht, hq⟩ := hbody cdv A outer s H vs Q hg (hr.deeper _) hsp
  have J0 : Inv (cxOf CX0 P w K mg base N qual scope f cdv A outer s H E0) [] (L2.start N vs) H s1 := inv_start S hr.hd e0 nvs rv cc
  refine wpAny_mono (ht.run [] s1 _ H _ J0 hq) (fun fl s' out => ?_) fun e s' out => out
  have fin : ∀ {σ' : L2.St} {H' : Hp} {v : V} {u : Value}, Inv (cxOf CX0 P w K mg base N qual scope f cdv A outer s H E0) [] σ' H' s' → RelV v u → Q v H' → CE outer P w H s Q u s' :=
    fun {σ' H' v u} J ru q => ⟨v, H', J.os, J.bare, J.base, J.hok, ru, q⟩
  cases fl with
  | ret u =>
    obtain ⟨v, σ', H', J, ru, q⟩ := out
    exact fin J ru q
  | next =>
    obtain ⟨σ', H', J, q⟩ := out
    exact fin (v := .non) (u := .none) J rfl q
  | brk => exact out.elim fun _ z => z.elim fun _ z => z.2.elim
  | cont => exact out.elim fun _ z => z.elim fun _ z => z.2.elim
/-- a def of the text that keeps its promise, wherever it stands -/
def Dg (P : Program) (w : World) (K : PySem.W.Frag) (mg : Str → Option Value) (base : Heap) (x : Str) (k : Nat) (ps : List Str) (sp : Sp) : Prop :=
  ∃ (f : Addr) (fd : FuncData), mg x = some (.ref f) ∧ PySem.W.keepIn K (.ref f) = true ∧ Binds K fd ps [] ∧ FnG P w K mg base k f fd ps sp
end
section
variable {X : Cx} {x : Str} {k j : Nat} {ps : List Str} {sp : Sp} {e : Expr} {es : List Expr} {ta : TA} {p pos : Pos}
theorem run_g {pins : List (Addr × Obj)} {σ : L2.St} {H : Hp} {s : Shared} {Q : VK} {us : List Value} {vs : List V} {f : Addr} {fd : FuncData} (F : FnG X.prog X.w X.K X.mg X.base k f fd ps sp) (hg : X.A.guards = some []) (hr : Room k X.A) (hb : Binds X.K fd ps [])
    (I : Inv X pins σ H s) (rv : Vals vs us) (h : sp vs H Q E0) : wpAny (model X.prog X.w) X.A (call (.ref f) us) (EP X pins σ Q) X.xe s := by
  have nl : us.length = ps.length := by rw [← rv.length]; exact F.len _ _ _ _ h
  have hb2 := hb s us I.kIn (by rw [List.append_nil]; exact nl)
  rw [List.append_nil] at hb2
  refine wpAny_call (codeAny_mono (F.run X.A X.stack s H ⟨us, []⟩ us vs Q hg hr I.env0 hb2 rv h) fun r s' out => ?_)
  cases r with
  | error er => exact out.elim
  | ok fl =>
    cases fl with
    | ret u => exact I.after out
    | next => exact out.elim
    | brk => exact out.elim
    | cont => exact out.elim
def tCg (sp : Sp) (ta : TA) : TE := fun σ H Q => ta σ H fun vs H1 => sp vs H1 Q E0
theorem pe_dg (D : Dg X.prog X.w X.K X.mg X.base x k ps sp) (hg : X.A.guards = some []) (hr : Room j X.A) (hj : k ≤ j) (ha : PA X (e :: es) ta) (hgl : Gl X x := by rfl)
    (hdb : (x == ("__debug__" : Str)) = false := by decide) (he : starEach (e :: es) X.env = (false, eval e X.env) :: starEach es X.env := by rfl) (hpl : (backTo pos (starEach es X.env)).any (·.1) = false := by rfl) :
    PE X (.Call (.Name x p) (e :: es) [] pos) (tCg sp ta) := by
  obtain ⟨f, fd, hm, hk, hb, F⟩ := D
  refine ⟨fun pins s σ H Q I h => wpAny_Call_Name_kw (ld_glob I hgl hm ?_ hdb)⟩
  exact PySem.W.callWith_K (h₀ := X.base) I.ok.mod.kin hk (thn (ha.run pos pins s σ H _ I h) fun us s1 ⟨vs, H1, I1, rv, q⟩ => ⟨I1.kIn, run_g F hg (hr.mono hj) hb I1 rv q⟩) he hpl
theorem pe_dg0 (D : Dg X.prog X.w X.K X.mg X.base x k ps sp) (hg : X.A.guards = some []) (hr : Room j X.A) (hj : k ≤ j) (hgl : Gl X x := by rfl) (hdb : (x == ("__debug__" : Str)) = false := by decide) :
    PE X (.Call (.Name x p) [] [] pos) (tCg sp tNil) := by
  obtain ⟨f, fd, hm, hk, hb, F⟩ := D
  refine ⟨fun pins s σ H Q I h => wpAny_Call_Name_kw (ld_glob I hgl hm ?_ hdb)⟩
  exact PySem.W.callWith_K0 I.kIn hk (run_g (us := []) F hg (hr.mono hj) hb I .nil h)
end
/-! ### the law's own call, from the caller -/
theorem callG {P : Program} {w : World} {K : PySem.W.Frag} {mg mb : Str → Option Value} {k : Nat} {fa a : Addr} {fd : FuncData} {x : Str} {sp : Sp} {s1 : Shared} {vs : List Value} {ns : List Int} (KX : K.In s1.heap) (hns : s1.heap.Ns mainGlobals mg)
    (hmb : s1.heap.Ns builtinsNs mb) (hbb : ∀ x : Str, x ≠ "__name__" → mb x = bootBuiltins x) (hlim : s1.heap.NoLimit) (hgen : s1.gens = #[]) (ha : s1.heap.get? a = some { cls := .type "list", data := .seq vs.toArray }) (hi : IntsAre vs ns) (hl : ns.length ≤ sizeLine)
    (hr : Room k callerA) (F : ∀ base : Heap, K.In base → base.Ns mainGlobals mg → FnG P w K mg base k fa fd [x] sp) (hbind : ∀ (s : Shared) (u : Value), BindsTo s fd ⟨[u], []⟩ [(x, u)])
    (hsp : ∀ H : Hp, Only H → SqL K H a (ns.map V.int) → sp [.ref a] H (fun v _ => v = .bl true) E0) :
    codeAny (model P w) callerA (.call (.ref fa) ⟨[.ref a], []⟩) (fun r s' => r = .ok (.ret (.bool true)) ∧ OldK s1.heap s'.heap ∧ s'.os = s1.os ∧ AllBare s'.gens) s1 := by
  have rv := vals_ints hi
  have core : ∀ H : Hp, Only H → SqL K H a (ns.map V.int) → HOk P w H s1.heap → (∀ b, H b ≠ none → b = a) → (H a ≠ none → K.lookup a = none) →
      codeAny (model P w) callerA (.call (.ref fa) ⟨[.ref a], []⟩) (fun r s' => r = .ok (.ret (.bool true)) ∧ OldK s1.heap s'.heap ∧ s'.os = s1.os ∧ AllBare s'.gens) s1 := by
    intro H onl sq ok only_a notK
    have dictless : ∀ {b : Addr} {o : Obj} {es : Array DictEntry} {ep : Nat}, s1.heap.get? b = some o → o.data = .dict es ep → H b = none := by
      intro b o es ep eo ed
      refine Classical.byContradiction fun nn => ?_
      have eb := only_a b nn
      rw [eb, ha] at eo
      cases eo
      cases ed
    have nsb : ∀ {b : Addr} {m : Str → Option Value}, s1.heap.Ns b m → (hidT s1.heap H).Ns b m := by
      rintro b m ⟨o, es, ep, eo, ed, rr⟩
      exact ⟨o, es, ep, hidT_get eo (dictless eo ed), ed, rr⟩
    have Kb : K.In (hidT s1.heap H) := by
      intro b o eb
      refine hidT_get (KX b o eb) (Classical.byContradiction fun nn => ?_)
      have e2 := only_a b nn
      subst e2
      rw [notK nn] at eb
      cases eb
    obtain ⟨mc, l1, l2⟩ := hlim
    have md : Mod K mg (hidT s1.heap H) := ⟨Kb, nsb hns, ⟨mb, nsb hmb, hbb⟩, ⟨mc, nsb l1, l2⟩⟩
    have en : Env0 P w K mg (hidT s1.heap H) callerA [] s1 H := ⟨rfl, md, fun b o z => of_hidT z, Nat.le_of_eq (hidT_size _ _), trivial, fun b z => absurd z List.not_mem_nil, ok, .of_eq hgen⟩
    refine codeAny_mono ((F _ Kb (nsb hns)).run callerA [] s1 H ⟨[.ref a], []⟩ [.ref a] [.ref a] _ rfl hr en (hbind s1 (.ref a)) (.cons rfl .nil) (hsp H onl sq)) fun r s' out => ?_
    cases r with
    | error er => exact out.elim
    | ok fl =>
      cases fl with
      | next => exact out.elim
      | brk => exact out.elim
      | cont => exact out.elim
      | ret u =>
        obtain ⟨v, H', os, bare, un, ok', ru, ev⟩ := out
        have ev2 : v = .bl true := ev
        subst ev2
        cases (show u = Value.bool true from ru)
        refine ⟨rfl, OldK.of_keep fun b o eo => ?_, os, bare⟩
        rcases onl b with nb | ⟨ob, xs, fb⟩
        · exact un.keep b o eo nb List.not_mem_nil List.not_mem_nil
        · obtain ⟨g1, _⟩ := ok b _ fb
          obtain ⟨g2, _⟩ := ok' b _ (un.frzs b ob _ fb)
          rw [eo] at g1
          cases g1
          exact g2
  cases hk : K.lookup a with
  | some o =>
    have eo := KX a o hk
    rw [ha] at eo
    cases eo
    refine core (fun _ => none) (fun _ => .inl rfl) (.inr ⟨_, vs.toArray, _, hk, rfl, rfl, rfl, ?_, by simpa using rv⟩) (fun b u z => nomatch z) (fun b z => absurd rfl z) fun z => absurd rfl z
    rw [List.size_toArray, hi.length]
    exact hl
  | none =>
    have hd : (fun b => if b = a then some (HO.frz { cls := .type "list", data := .seq vs.toArray } (.lst (ns.map V.int))) else none) a = some (HO.frz { cls := .type "list", data := .seq vs.toArray } (.lst (ns.map V.int))) := if_pos rfl
    refine core (fun b => if b = a then some (HO.frz { cls := .type "list", data := .seq vs.toArray } (.lst (ns.map V.int))) else none) (fun b => ?_) (.inl (.inr ⟨_, hd⟩)) (fun b u z => ?_) (fun b z => ?_) fun _ => hk
    · by_cases hb : b = a
      · exact .inr ⟨_, _, if_pos hb⟩
      · exact .inl (if_neg hb)
    · by_cases hb : b = a
      · subst hb
        rw [hd] at z
        cases z
        refine ⟨ha, ?_, vs, _, rv, ha⟩
        rw [List.length_map]
        exact hl
      · have z2 := (if_neg hb).symm.trans z
        cases z2
    · exact Classical.byContradiction fun hb => z (if_neg hb)
theorem walkG {l : PySem.W.OpenLaw} {n k : Nat} {q : Program} {loose : List Str} {XP : (Str → Option Value) → Heap → Prop} {YP : World → Heap → Prop} {d : DefRec} {x : Str} (hn : l.most = some n) (hn2 : n ≤ sizeLine) (hdf : d.params.defaults = []) (hr : Room k callerA)
    (F : ∀ (w : World) (mg : Str → Option Value) (fa : Addr) (h : Heap), YP w h → h.Ns mainGlobals mg → mg d.name = some (.ref fa) →
      ∃ (K : PySem.W.Frag) (fd : FuncData) (sp : Sp), K.In h ∧ (∀ (s : Shared) (u : Value), BindsTo s fd ⟨[u], []⟩ [(x, u)]) ∧
        (∀ (H : Hp) (a : Addr) (ns : List Int), ns.length ≤ n → Only H → SqL K H a (ns.map V.int) → sp [.ref a] H (fun v _ => v = .bl true) E0) ∧
        ∀ base : Heap, K.In base → base.Ns mainGlobals mg → FnG l.prog w K mg base k fa fd [x] sp) : PySem.W.WalkO q loose XP YP l.row.toRowW d [] (fun f vs => PySem.call f vs) := by
  refine Att.attach_call hn hdf fun w s0 s1 mg mb fa o pm cd doc a vs ns G Y ho hd hcd hmg hobj hints hlen hg => ?_
  obtain ⟨K, fd, sp, KX, hb, hsp, hF⟩ := F w mg fa _ Y G.T.g hmg
  exact callG KX G.T.g G.T.b G.T.builtins G.T.nolimit hg hobj hints (Nat.le_trans hlen hn2) hr hF hb fun H hO hS => hsp H a ns hlen hO hS
end Gd
namespace Sm
open PySem PySem.Spec PyProof.Rows L2 Tn Vd RZ Gd
/-! ### how long what is shown can be -/
theorem len_sc (d : PyData) : d.shown.length = (SC d).length := Array.length_toList.symm
theorem restC_len (c : Nat) : ∀ ts : List Str, (restC c ts).length = (ts.map fun t => t.length + 2).sum + 1
  | [] => rfl
  | t :: r => by
    have := restC_cons c t r []
    rw [List.append_nil, List.append_nil] at this
    rw [this, List.length_cons, List.length_cons, List.length_append, restC_len c r, List.map_cons, List.sum_cons, Array.length_toList]
    show t.length + ((r.map fun t => t.length + 2).sum + 1) + 1 + 1 = _
    omega
theorem szL_cons (d : PyData) (r : List PyData) : szL (d :: r) = szD d + 5 + szL r := by rw [szL]
theorem szL_nil : szL [] = 0 := by rw [szL]
theorem sgn_lt {c : Nat} (h : sgnOk c = true) : c < 16 ^ 8 := by
  unfold sgnOk at h
  simp at h
  omega
mutual
theorem shown_len : ∀ (d : PyData), aOk d = true → d.shown.length ≤ szD d
  | .none, _ => by unfold szD; decide +kernel
  | .bool b, _ => by unfold szD; revert b; decide +kernel
  | .int i, h => by
    unfold aOk at h
    unfold szD
    have h1 := int_text_length_le10 (k := 60) (by decide) (of_decide_eq_true h)
    rw [PyData.shown_int, PySem.ofString_length]
    omega
  | .str x, h => by
    unfold aOk at h
    unfold szD
    have := StrLaws.reprText_len x fun c m => sgn_lt (List.all_eq_true.mp h c m)
    show (reprText x).length ≤ _
    omega
  | .dict kvs, h => by
    unfold aOk at h
    unfold szD
    cases kvs with
    | nil => decide +kernel
    | cons p r => cases h
  | .list ds, h => by
    unfold aOk at h
    unfold szD
    cases ds with
    | nil => rw [szL_nil]; decide +kernel
    | cons d r =>
      obtain ⟨h1, h2⟩ := aOkL_cons h
      rw [len_sc, show SC (.list (d :: r)) = 91 :: (SC d ++ restC 93 (PyData.shownAll r)) from listText_cons d.shown (PyData.shownAll r), List.length_cons, List.length_append, restC_len, ← len_sc, szL_cons]
      have := shown_len d h1
      have := shownL_len r h2
      omega
  | .tuple ds, h => by
    unfold aOk at h
    unfold szD
    cases ds with
    | nil => rw [szL_nil]; decide +kernel
    | cons d r =>
      obtain ⟨h1, h2⟩ := aOkL_cons h
      cases r with
      | nil =>
        rw [len_sc, show SC (.tuple [d]) = 40 :: (SC d ++ [44, 41]) from tupleText_one d.shown, List.length_cons, List.length_append, ← len_sc, szL_cons]
        have := shown_len d h1
        show d.shown.length + 2 + 1 ≤ _
        omega
      | cons u r =>
        rw [len_sc, show SC (.tuple (d :: u :: r)) = 40 :: (SC d ++ restC 41 (PyData.shownAll (u :: r))) from tupleText_more d.shown u.shown (PyData.shownAll r), List.length_cons, List.length_append, restC_len, ← len_sc, szL_cons]
        have := shown_len d h1
        have := shownL_len (u :: r) h2
        omega
theorem shownL_len : ∀ (ds : List PyData), aOkL ds = true → ((PyData.shownAll ds).map fun t => t.length + 2).sum ≤ szL ds
  | [], _ => by rw [szL_nil]; exact Nat.le_refl _
  | d :: r, h => by
    obtain ⟨h1, h2⟩ := aOkL_cons h
    have := shown_len d h1
    have := shownL_len r h2
    show (d.shown.length + 2) + ((PyData.shownAll r).map fun t => t.length + 2).sum ≤ _
    rw [szL_cons]
    omega
end
mutual
theorem showable_of : ∀ (d : PyData), aOk d = true → d.showable = true
  | .none, _ => rfl
  | .bool b, _ => rfl
  | .str x, _ => rfl
  | .int i, h => by
    unfold aOk at h
    have h1 := of_decide_eq_true h
    show decide (i.natAbs.log2 < 1920) = true
    refine decide_eq_true ?_
    by_cases h0 : i.natAbs = 0
    · rw [h0]
      decide
    · rw [Nat.log2_lt h0]
      exact Nat.lt_of_lt_of_le h1 (by decide +kernel)
  | .dict kvs, h => by
    unfold aOk at h
    cases kvs with
    | nil => rfl
    | cons p r => cases h
  | .list ds, h => by
    unfold aOk at h
    exact showableL_of ds h
  | .tuple ds, h => by
    unfold aOk at h
    exact showableL_of ds h
theorem showableL_of : ∀ (ds : List PyData), aOkL ds = true → PyData.showableAll ds = true
  | [], _ => rfl
  | d :: r, h => by
    obtain ⟨h1, h2⟩ := aOkL_cons h
    show (d.showable && PyData.showableAll r) = true
    rw [showable_of d h1, showableL_of r h2]
    rfl
end
/-- data of this law: its signs, its size, its depth -/
def okR (d : PyData) : Prop := okD d = true ∧ d.depth ≤ 100
theorem okD_a {d : PyData} (h : okD d = true) : aOk d = true := (Bool.and_eq_true_iff.mp h).1
theorem okD_len {d : PyData} (h : okD d = true) : d.shown.length ≤ 1000000 := Nat.le_trans (shown_len d (okD_a h)) (of_decide_eq_true (Bool.and_eq_true_iff.mp h).2)
theorem depth_mem : ∀ {ds : List PyData} {d : PyData}, d ∈ ds → d.depth ≤ PyData.depthAll ds
  | x :: r, d, m => by
    rcases List.mem_cons.mp m with rfl | m
    · exact Nat.le_max_left _ _
    · exact Nat.le_trans (depth_mem m) (Nat.le_max_right _ _)
theorem okR_at {ds : List PyData} {m : Nat} (h : okR (.tuple ds)) (hm : m < ds.length) : okR (at_ (.tuple ds) m) := by
  refine ⟨ok_at h.1 hm, ?_⟩
  have e : at_ (.tuple ds) m = ds[m] := by
    unfold at_ partsD
    rw [List.getElem?_eq_getElem hm]
    rfl
  rw [e]
  have h1 := depth_mem (List.getElem_mem hm)
  have h2 : PyData.depthAll ds + 1 ≤ 100 := h.2
  omega
section
variable {K : PySem.W.Frag} {σ : L2.St} {H : Hp} {ta tb tc : TE} {a b c : Bool} {d : PyData} {i j k : Int} {r r' : R2}
theorem ys_repr (ha : YV K ta σ H d) (ok : okR d) : YS (tCB (rRepr K) (tCons ta tNil)) σ H d.shown := fun H1 Q s q => ha H1 _ s fun v H2 s2 hd => ⟨v, d, rfl, hd, showable_of d (okD_a ok.1), ok.2, by have := okD_len ok.1; rw [size6]; omega, q H2 s2⟩
/-- a list of data -/
def YL (K : PySem.W.Frag) (te : TE) (σ : L2.St) (H : Hp) (ds : List PyData) : Prop := ∀ (H1 : Hp) (Q : VK), Same H H1 → (∀ p vs H2, Same H1 H2 → SqL K H2 p vs → DdAll K H2 vs ds → Q (.ref p) H2) → te σ H1 Q
theorem yl_var {m : Nat} {p : Addr} {vs : List V} {ds : List PyData} (hσ : σ[m]? = some (some (.ref p))) (h : SqL K H p vs) (hd : DdAll K H vs ds) : YL K (tVar m) σ H ds := fun H1 Q s q => ⟨_, hσ, q p vs H1 (Same.refl H1) (SqL.same s h) (DdAll.same s hd)⟩
theorem yn_lenL {ds : List PyData} (ha : YL K ta σ H ds) : YN (tCB (fun xs H Q => ∃ p ys, xs = [.ref p] ∧ (SqL K H p ys ∨ SqT K H p ys) ∧ Q (.int ys.length) H) (tCons ta tNil)) σ H ds.length := fun H1 Q s q => ha H1 _ s fun p vs H2 s2 hp hd => ⟨p, vs, rfl, .inl hp, by rw [dall_len hd]; exact q H2 s2⟩
theorem yv_ixLL {ds : List PyData} {e : PyData} {m : Nat} (ha : YL K ta σ H ds) (hb : YN tb σ H m) (he : ds[m]? = some e) : YV K (tOp (rIxL K) ta tb) σ H e := fun H1 Q s q => ha H1 _ s fun p vs H2 s2 hp hd => hb H2 _ (s.trans s2) fun H3 s3 => by
  obtain ⟨u, hu, hdu⟩ := dall_at (DdAll.same s3 hd) he
  exact ⟨p, vs, m, u, rfl, rfl, SqL.same s3 hp, atI_nat hu, q u H3 (s2.trans s3) hdu⟩
theorem rb_setl {u : TS} {m : Nat} {ds : List PyData} (ha : YL K ta σ H ds) (h : ∀ p vs H', Same H H' → SqL K H' p vs → DdAll K H' vs ds → RB u (σ.set m (some (.ref p))) H' b) : RB (tSeq (tAsg ta (gName m)) u) σ H b := fun H1 D s q => ha H1 _ s fun p vs H2 s2 hp hd => h p vs H2 (s.trans s2) hp hd H2 D (Same.refl H2) fun H3 s3 => q H3 (s2.trans s3)
theorem yv_b (h : YB ta σ H b) : YV K ta σ H (.bool b) := fun H1 Q s q => h H1 _ s fun H2 s2 => q _ H2 s2 (.bl b)
/-- [f of one for one in list] of texts -/
theorem yq_lcL {ds : List PyData} {f : PyData → V} {te tp : TE} {m : Nat} (ha : YL K tp σ H ds) (hz : ds.length ≤ 1000000) (hw : ∀ v, wipe ((wipe σ [m]).set m v) [m] = wipe σ [m])
    (hte : ∀ v d H' (Q : VK), d ∈ ds → Same H H' → Dd K H' v d → (∀ H2, Same H' H2 → Q (f d) H2) → te ((wipe σ [m]).set m (some v)) H' Q) : YQ K (tLc (iList K tp) (gName m) tYes te [m]) σ H (ds.map f) := fun H1 Q s q => ha H1 _ s fun a xs H2 s2 h0 h2 => by
  refine ⟨a, rfl, ⟨_, h0⟩, fun D hD => ?_⟩
  refine lc_list (xs := xs) (fun i H' => Same H2 H' ∧ H' D = some (.lst ((ds.map f).take i))) ⟨same_up hD, upd_same⟩ (fun i H' _ e => SqL.same e.1 h0) (fun i x H' hx e => ?_) (fun H1 e => ?_)
  · obtain ⟨d, he, hdd⟩ := dall_at' h2 hx
    refine ⟨hw _, hte x d H' _ (List.mem_of_getElem? he) ((s.trans s2).trans e.1) (Dd.same e.1 hdd) fun H3 s3 => ⟨_, s3 _ _ e.2, ?_, ?_, ?_⟩⟩
    · have h1 : i < ds.length := (List.getElem?_eq_some_iff.mp he).1
      rw [List.length_take, List.length_map, sizeLine_eq]
      omega
    · intro c o z
      rw [upd_ne (ne_of_none z hD)]
      exact s3 _ _ (e.1 c o z)
    · rw [upd_same, List.take_add_one, List.getElem?_map, he]
      rfl
  · refine q D H1 (s2.trans e.1) (SqL.of ?_)
    rw [e.2, List.take_of_length_le (by rw [List.length_map, dall_len h2]; exact Nat.le_refl _)]
/-- [one for one in tuple if test] -/
theorem yl_filtT {ds : List PyData} {p : PyData → Bool} {tt : TT} {tp : TE} {m : Nat} (ha : YV K tp σ H (.tuple ds)) (hz : ds.length ≤ 1000000) (hw : ∀ v, wipe ((wipe σ [m]).set m v) [m] = wipe σ [m]) (hm : ∀ v, ((wipe σ [m]).set m (some v))[m]? = some (some v))
    (ht : ∀ v d H', d ∈ ds → Same H H' → Dd K H' v d → YT tt ((wipe σ [m]).set m (some v)) H' (p d)) : YL K (tLc (iTup K tp) (gName m) tt (tVar m) [m]) σ H (ds.filter p) := fun H1 Q s q => ha H1 _ s fun v H2 s2 hd => by
  obtain ⟨a, xs, rfl, h0, h2⟩ := ofTup hd
  refine ⟨a, rfl, ⟨_, h0.sq⟩, fun D hD => ?_⟩
  refine lc_tup (xs := xs) (fun i H' => Same H2 H' ∧ ∃ us, H' D = some (.lst us) ∧ DdAll K H2 us ((ds.take i).filter p)) ⟨same_up hD, [], upd_same, .nil⟩ (fun i H' _ e => SqT.same e.1 h0.sq) (fun i x H' hx e => ?_) (fun H1 e => ?_)
  · obtain ⟨d, he, hdd⟩ := dall_at' h2 hx
    obtain ⟨s3, us, eD, hu⟩ := e
    have hlt : i < ds.length := (List.getElem?_eq_some_iff.mp he).1
    refine ⟨hw _, ht x d H' (List.mem_of_getElem? he) ((s.trans s2).trans s3) (Dd.same s3 hdd) H' _ (Same.refl H') fun H3 s4 => tst (fun e => ?_) fun e => ?_⟩
    · refine ⟨x, hm x, us, s4 _ _ eD, ?_, ?_, us ++ [x], upd_same, ?_⟩
      · have l1 := dall_len hu
        have l2 := List.length_filter_le p (ds.take i)
        rw [List.length_take] at l2
        rw [size6]
        omega
      · intro c o z
        rw [upd_ne (ne_of_none z hD)]
        exact s4 _ _ (s3 c o z)
      · rw [List.take_add_one, he, List.filter_append]
        show DdAll K H2 _ (_ ++ List.filter p [d])
        rw [List.filter_cons, e, if_pos rfl]
        exact dall_app hu (.cons hdd .nil)
    · refine ⟨s3.trans s4, us, s4 _ _ eD, ?_⟩
      rw [List.take_add_one, he, List.filter_append]
      show DdAll K H2 _ (_ ++ List.filter p [d])
      rw [List.filter_cons, e, if_neg Bool.false_ne_true, List.filter_nil, List.append_nil]
      exact hu
  · obtain ⟨s3, us, eD, hu⟩ := e
    rw [dall_len h2, List.take_length] at hu
    exact q D us H1 (s2.trans s3) (SqL.of eD) (DdAll.same s3 hu)
theorem yb_notInQ {x : Str} {xs : List V} (hx : YS ta σ H x) (ha : YQ K tb σ H xs) (fs : xs.all flatV = true) : YB (tOp (rIn K true) ta tb) σ H (!inV (.str x) xs) := fun H1 Q s q => hx H1 _ s fun H2 s2 => ha H2 _ (s.trans s2) fun p H3 s3 hp => ⟨p, xs, rfl, .inl hp, rfl, fs, q H3 (s2.trans s3)⟩
theorem yb_inQ {x : Str} {xs : List V} (hx : YS ta σ H x) (ha : YQ K tb σ H xs) (fs : xs.all flatV = true) : YB (tOp (rIn K false) ta tb) σ H (inV (.str x) xs) := fun H1 Q s q => hx H1 _ s fun H2 s2 => ha H2 _ (s.trans s2) fun p H3 s3 hp => ⟨p, xs, rfl, .inl hp, rfl, fs, q H3 (s2.trans s3)⟩
end
theorem or3f {a b c : Bool} (h : (!a || (!b || !c)) = false) : a = true ∧ b = true ∧ c = true := by
  cases a <;> cases b <;> cases c <;> simp at h ⊢
theorem or3g {a b c : Bool} (h : (!a || (b || !c)) = false) : a = true ∧ b = false ∧ c = true := by
  cases a <;> cases b <;> cases c <;> simp at h ⊢
theorem or2f {a b : Bool} (h : (!a || !b) = false) : a = true ∧ b = true := by
  cases a <;> cases b <;> simp at h ⊢
theorem rb_ifs {σ : L2.St} {H : Hp} {b c : Bool} {tc : TT} {t u : TS} (hc : YT tc σ H c) (ht : c = true → RB t σ H b) (hu : c = false → RB u σ H b) : RB (tSeq (tIfS tc t tNext) u) σ H b := fun H1 D s q => hc H1 _ s fun H2 s2 =>
  tst (fun e => ht e H2 { D with nx := u D } (s.trans s2) fun H3 s3 => q H3 (s2.trans s3)) fun e => hu e H2 D (s.trans s2) fun H3 s3 => q H3 (s2.trans s3)
theorem flat_shown (rs : List PyData) : (rs.map fun r => V.str r.shown).all flatV = true := List.all_eq_true.mpr fun x hx => by
  obtain ⟨r, _, rfl⟩ := List.mem_map.mp hx
  rfl
/-- a thing is shown as one of these exactly if it is one of these -/
theorem inV_shown {d : PyData} {rs : List PyData} (hd : aOk d = true) (hr : ∀ r ∈ rs, aOk r = true) : inV (.str d.shown) (rs.map fun r => V.str r.shown) = true ↔ d ∈ rs := by
  unfold inV
  rw [List.any_map, List.any_eq_true]
  constructor
  · rintro ⟨r, m, e⟩
    have e2 : (r.shown == d.shown) = true := e
    rw [← shown_inj (hr r m) hd (eq_of_beq e2)]
    exact m
  · intro m
    exact ⟨d, m, by show (d.shown == d.shown) = true; simp⟩
theorem hu_of101 {k : Nat} {A : Around} (hr : Room k A) : A.units + 101 < cLine := by
  have := hr.un
  omega
section
variable {P : Program} {w : World} {K : PySem.W.Frag} {mg : Str → Option Value} {base : Heap}
abbrev sLDeed : Stmt := top 77
abbrev sLEdit : Stmt := top 79
abbrev sRuleBent : Stmt := top 86
/-! _law_is_rule_bent -/
def rules_ok (rs : List PyData) : Prop := rs.length ≤ 100 ∧ ∀ r ∈ rs, okR r ∧ tupOfD 2 2 r = true
def bentD (rs : List PyData) (d : PyData) : Bool := (isT d && (decide ((lenD d : Int) = 3) && decide ((at_ d 0).shown = (PyData.str "rule").shown))) && ((isT (at_ d 2) && decide ((lenD (at_ d 2) : Int) = 2)) && !inV (.str (at_ d 2).shown) (rs.map fun r => V.str r.shown))
def spRules (K : PySem.W.Frag) (g : List PyData → PyData → Bool) : Sp := fun vs H Q _ => ∃ (p : Addr) (ws : List V) (rs : List PyData) (v : V) (d : PyData), vs = [.ref p, v] ∧ SqL K H p ws ∧ DdAll K H ws rs ∧ rules_ok rs ∧ Dd K H v d ∧ okR d ∧ ∀ H', Same H H' → Q (.bl (g rs d)) H'
theorem scRuleBent : FnScope ["rules", "thing", "rule"] ["rules", "thing"] (defScope sRuleBent) := ⟨rfl, rfl, rfl, by decide +kernel, rfl, by decide +kernel, by decide +kernel⟩
theorem rule_okR : okR (.str "rule") := ⟨by decide +kernel, by decide +kernel⟩
theorem ok_ruleBent {f : Addr} {fd : FuncData} (F : FnP K "_law_is_rule_bent" sRuleBent f fd) (M : Nm mg) : FnG P w K mg base 2 f fd ["rules", "thing"] (spRules K bentD) := by
  refine fnG F scRuleBent (fun vs H Q E h => ?_) (fun cdv A outer s H vs Q hgd hr h => ?_)
  · obtain ⟨p, ws, rs, v, d, rfl, _⟩ := h
    rfl
  obtain ⟨p, ws, rs, v, d, rfl, hp, hws, hrs, hd, ok, q⟩ := h
  have hg : (A.deeper (envOfC "_law_is_rule_bent" (defScope sRuleBent) s.heap.objs.size f cdv)).guards = some [] := hgd
  refine ⟨_, PSs.nox (pss_cons (ps_if (PW.pt (pw_or (pt_not (pt_val (pe_callB (id := "isinstance") (r := rIsi K) call_isi (by rfl) M.isinstance (by decide +kernel) (pa_cons (pv 1) (pa_cons (ty_cls (n := "tuple") M.tuple (by rfl) (by decide +kernel)) pa_nil))))) (pw_or (pt_cmpR op_ne (pe_callB call_len_seq (by rfl) M.len PySem.boot_len (pa_cons (pv 1) pa_nil)) pe_int (nomark _)) (pw_or1 (pt_cmpR op_ne (pe_callB (id := "repr") (r := rRepr K) (call_repr hg (hu_of101 hr)) (by rfl) M.repr (by decide +kernel) (pa_cons (pe_ix ix_tup (pv 1) pe_int (fun _ _ => rfl)) pa_nil)) (pe_callB (id := "repr") (r := rRepr K) (call_repr hg (hu_of101 hr)) (by rfl) M.repr (by decide +kernel) (pa_cons pe_str pa_nil)) (nomark _)))))) (pss_one (ps_ret pe_bl)) pss_nil)
      (pss_one (ps_ret (pe_and (pe_callB (id := "isinstance") (r := rIsi K) call_isi (by rfl) M.isinstance (by decide +kernel) (pa_cons (pe_ix ix_tup (pv 1) pe_int (fun _ _ => rfl)) (pa_cons (ty_cls (n := "tuple") M.tuple (by rfl) (by decide +kernel)) pa_nil))) (pe_and (pe_cmpR op_eq (pe_callB call_len_seq (by rfl) M.len PySem.boot_len (pa_cons (pe_ix ix_tup (pv 1) pe_int (fun _ _ => rfl)) pa_nil)) pe_int (nomark _)) (pe_one (pe_cmpR op_notIn_seq (pe_callB (id := "repr") (r := rRepr K) (call_repr hg (hu_of101 hr)) (by rfl) M.repr (by decide +kernel) (pa_cons (pe_ix ix_tup (pv 1) pe_int (fun _ _ => rfl)) pa_nil)) (pe_lc (own := [("rule", 2)]) (g := gName 2) (tt := tYes) (by rfl) scRuleBent.nd (pi_list (pv 0)) (blkOk_by (N := ["rules", "thing", "rule"]) (sc := defScope sRuleBent) (by decide +kernel)) (fun _ _ _ _ _ => pg_name (i := 2) scRuleBent.nd rfl (Or.inl rfl)) (fun _ _ _ _ _ => pts_nil) (fun _ _ _ _ _ => (pe_callB (id := "repr") (r := rRepr K) (call_repr hg (hu_of101 hr)) (by rfl) M.repr (by decide +kernel) (pa_cons (pv 2) pa_nil)))) (by rfl)))))))), ?_⟩
  refine rb_if (b := bentD rs d) (c := !isT d || (!decide ((lenD d : Int) = 3) || !decide ((at_ d 0).shown = (PyData.str "rule").shown))) (yt_or (yt_not (yt_b (yb_isi (yv_var rfl hd) (kT d)))) fun e => ?_) (fun e => yb_eq yb_c ?_) (fun e => rb_ret ?_) H _ (Same.refl H) q
  · obtain ⟨ds, rfl⟩ := isT_of (ofnot e)
    refine yt_or (yt_t (yb_neI (yn_lenT (yv_var rfl hd)) yn_c)) fun e2 => ?_
    have l3 : (ds.length : Int) = 3 := of_decide_eq_true (ofnot (b := decide ((ds.length : Int) = 3)) e2)
    exact yt_t (yb_neS (ys_repr (yv_at (m := 0) (yv_var rfl hd) yn_c (by omega)) (okR_at ok (by omega))) (ys_repr (yv_c fun _ => .str _) rule_okR))
  · unfold bentD
    cases h1 : isT d <;> cases h2 : decide ((lenD d : Int) = 3) <;> cases h3 : decide ((at_ d 0).shown = (PyData.str "rule").shown) <;> simp only [h1, h2, h3] at e ⊢ <;> first | rfl | cases e
  · obtain ⟨e1, e2, e3⟩ := or3f e
    have zb : bentD rs d = ((isT (at_ d 2) && (decide ((lenD (at_ d 2) : Int) = 2) && !inV (.str (at_ d 2).shown) (rs.map fun r => V.str r.shown)))) := by
      unfold bentD
      rw [e1, e2, e3]
      simp only [Bool.true_and, Bool.and_assoc]
    rw [zb]
    obtain ⟨ds, rfl⟩ := isT_of e1
    have l3 : (ds.length : Int) = 3 := of_decide_eq_true e2
    have h2 : YV K (tOp (rIxT K) (tVar 1) (tC (.int 2))) (L2.start ["rules", "thing", "rule"] [.ref p, v]) H (at_ (.tuple ds) 2) := yv_at (m := 2) (yv_var rfl hd) yn_c (by omega)
    refine yb_and (yb_isi h2 (kT _)) fun e4 => ?_
    obtain ⟨es, e5⟩ := isT_of e4
    have h3 : YV K (tOp (rIxT K) (tVar 1) (tC (.int 2))) (L2.start ["rules", "thing", "rule"] [.ref p, v]) H (.tuple es) := e5 ▸ h2
    refine yb_and (yb_eq (yb_eqI (yn_lenT h3) yn_c) (by rw [e5]; rfl)) fun e6 => yb_notInQ (ys_repr h2 (okR_at ok (by omega))) (yq_lcL (f := fun r => V.str r.shown) (yl_var rfl hp hws) (by have := hrs.1; omega) (fun _ => rfl) fun v' d' H' Q' m' s' hd' q' => ?_) (flat_shown rs)
    exact ys_repr (yv_var rfl hd') (hrs.2 d' m').1 H' Q' (Same.refl H') q'
/-! _law_is_due_deed -/
def factDue1 (r d : PyData) : Bool :=
    if (!decide ((lenD d : Int) = if eqS (at_ d 0) "add" = true then 4 else 3)) = true then false else
    (if inS (at_ d 0) ["bring", "drop"] = true then (eqS (at_ r 1) "bag" && ofSorts (at_ r 2) (at_ d 2)) else
    (if eqS (at_ d 0) "add" = true then (eqS (at_ r 1) "sum" && ((smallD (at_ d 3) && !decide (intOf (at_ d 3) = 0)) && ofSorts (headD (at_ r 2)) (at_ d 2))) else
    (if (!inS (at_ d 0) ["put", "take"] || !intD (at_ r 1)) = true then false else
    ofSorts (if eqS (at_ d 0) "put" = true then at_ r 2 else takeD (at_ r 2) (at_ r 1)) (at_ d 2))))
def factDue2 : List PyData → PyData → Bool
  | [], _ => false
  | r :: _, d => factDue1 r d
def factDue (e d : PyData) : Bool := factDue2 ((partsD e).filter fun r => isS (at_ d 1) && eqS (at_ d 1) (strOf (at_ r 0))) d
def dueD (e : PyData) (rs : List PyData) (d : PyData) : Bool := if (!isT d || (decide ((lenD d : Int) < 2) || !isS (at_ d 0))) = true then false else
  (if eqS (at_ d 0) "rule" = true then (decide ((lenD d : Int) = 3) && (nameD (at_ d 1) && inV (.str (at_ d 2).shown) (rs.map fun r => V.str r.shown))) else
  (if eqS (at_ d 0) "unrule" = true then (decide ((lenD d : Int) = 2) && nameD (at_ d 1)) else factDue e d))
def spDue (K : PySem.W.Frag) (g : PyData → List PyData → PyData → Bool) : Sp := fun vs H Q _ => ∃ (u : V) (e : PyData) (p : Addr) (ws : List V) (rs : List PyData) (v : V) (d : PyData), vs = [u, .ref p, v] ∧ Dd K H u e ∧ schD e = true ∧ okD e = true ∧ SqL K H p ws ∧ DdAll K H ws rs ∧ rules_ok rs ∧ Dd K H v d ∧ okR d ∧ ∀ H', Same H H' → Q (.bl (g e rs d)) H'
theorem scLDeed : FnScope ["schema", "rules", "thing", "right", "rule", "some", "one", "name", "kind", "sorts", "is_amount_v"] ["schema", "rules", "thing"] (defScope sLDeed) := ⟨rfl, rfl, rfl, by decide +kernel, rfl, by decide +kernel, by decide +kernel⟩
theorem sorts_G {r : PyData} {x k : PyData} {ss : List PyData} (h : sortsD (.tuple ss) = true) : SortsG (.tuple ss) r ∧ 1 ≤ ss.length ∧ ss.length ≤ 5 := by
  obtain ⟨h1, h2⟩ := Bool.and_eq_true_iff.mp h
  obtain ⟨_, e, h3, h4⟩ := tupOf_of h1
  cases e
  exact ⟨⟨ss, rfl, by omega, fun x m => List.all_eq_true.mp h2 x m⟩, by omega, by omega⟩
theorem ok_ldeed {f : Addr} {fd : FuncData} (F : FnP K "_law_is_due_deed" sLDeed f fd) (M : Nm mg) (DN : DA P w K mg base "_law_is_name" 1 nameD) (DI : DA P w K mg base "_law_is_int" 1 intD) (DW : Df P w K mg base "_law_is_worth" 2 ["sort", "thing"] (spA2 K (fun _ _ => True) lawWorthD)) (DS : Df P w K mg base "_law_are_worths" 3 ["sorts", "thing"] (spA2 K SortsG ofSorts)) : FnG P w K mg base 4 f fd ["schema", "rules", "thing"] (spDue K dueD) := by
  refine fnG F scLDeed (fun vs H Q E h => ?_) (fun cdv A outer s H vs Q hgd hr h => ?_)
  · obtain ⟨u, e, p, ws, rs, v, d, rfl, _⟩ := h
    rfl
  obtain ⟨u, e, p, ws, rs, v, d, rfl, hu, hs, oke, hp, hws, hrs, hd, ok, q⟩ := h
  have hg : (A.deeper (envOfC "_law_is_due_deed" (defScope sLDeed) s.heap.objs.size f cdv)).guards = some [] := hgd
  refine ⟨_, PSs.nox (pss_cons (ps_if (PW.pt (pw_or (pt_not (pt_val (pe_callB (id := "isinstance") (r := rIsi K) call_isi (by rfl) M.isinstance (by decide +kernel) (pa_cons (pv 2) (pa_cons (ty_cls (n := "tuple") M.tuple (by rfl) (by decide +kernel)) pa_nil))))) (pw_or (pt_cmpR op_lt (pe_callB call_len_seq (by rfl) M.len PySem.boot_len (pa_cons (pv 2) pa_nil)) pe_int (nomark _)) (pw_or1 (pt_not (pt_val (pe_callB (id := "isinstance") (r := rIsi K) call_isi (by rfl) M.isinstance (by decide +kernel) (pa_cons (pe_ix ix_tup (pv 2) pe_int (fun _ _ => rfl)) (pa_cons (ty_cls (n := "str") M.str (by rfl) (by decide +kernel)) pa_nil))))))))) (pss_one (ps_ret pe_bl)) pss_nil)
      (pss_cons (ps_if (pt_cmpR (op_eqS (hu_of1 hr)) (pe_ix ix_tup (pv 2) pe_int (fun _ _ => rfl)) pe_str (nomark _)) (pss_cons (ps_setLc (i := 3) (own := [("rule", 4)]) (g := gName 4) (tt := tYes) rfl scLDeed.nd rfl rfl (sw_true rfl rfl rfl (by decide +kernel)) (pi_list (pv 1)) (blkOk_by (N := ["schema", "rules", "thing", "right", "rule", "some", "one", "name", "kind", "sorts", "is_amount_v"]) (sc := defScope sLDeed) (by decide +kernel)) (fun _ _ _ _ _ => pg_name (i := 4) scLDeed.nd rfl (Or.inl rfl)) (fun _ _ _ _ _ => pts_nil) (fun _ _ _ _ _ => (pe_callB (id := "repr") (r := rRepr K) (call_repr hg (hu_of101 hr)) (by rfl) M.repr (by decide +kernel) (pa_cons (pv 4) pa_nil))))
      (pss_one (ps_ret (pe_and (pe_cmpR op_eq (pe_callB call_len_seq (by rfl) M.len PySem.boot_len (pa_cons (pv 2) pa_nil)) pe_int (nomark _)) (pe_and (pe_df DN hr (by decide) (pa_cons (pe_ix (r := rIxT K) ix_tup (pv 2) pe_int (fun _ _ => rfl)) pa_nil)) (pe_one (pe_cmpR op_in_seq (pe_callB (id := "repr") (r := rRepr K) (call_repr hg (hu_of101 hr)) (by rfl) M.repr (by decide +kernel) (pa_cons (pe_ix ix_tup (pv 2) pe_int (fun _ _ => rfl)) pa_nil)) (pv 3) (by rfl)))))))) pss_nil)
      (pss_cons (ps_if (pt_cmpR (op_eqS (hu_of1 hr)) (pe_ix ix_tup (pv 2) pe_int (fun _ _ => rfl)) pe_str (nomark _)) (pss_one (ps_ret (pe_and (pe_cmpR op_eq (pe_callB call_len_seq (by rfl) M.len PySem.boot_len (pa_cons (pv 2) pa_nil)) pe_int (nomark _)) (pe_one (pe_df DN hr (by decide) (pa_cons (pe_ix (r := rIxT K) ix_tup (pv 2) pe_int (fun _ _ => rfl)) pa_nil)))))) pss_nil)
      (pss_cons (ps_setLc (i := 5) (own := [("one", 6)]) (g := gName 6) rfl scLDeed.nd rfl rfl (sw_true rfl rfl rfl (by decide +kernel)) (pi_tup (pv 0)) (blkOk_by (N := ["schema", "rules", "thing", "right", "rule", "some", "one", "name", "kind", "sorts", "is_amount_v"]) (sc := defScope sLDeed) (by decide +kernel)) (fun _ _ _ _ _ => pg_name (i := 6) scLDeed.nd rfl (Or.inl rfl)) (fun _ _ _ _ _ => pts_one (PW.pt (pw_and (pt_val (pe_callB (id := "isinstance") (r := rIsi K) call_isi (by rfl) M.isinstance (by decide +kernel) (pa_cons (pe_ix (r := rIxT K) ix_tup (pv 2) pe_int (fun _ _ => rfl)) (pa_cons (ty_cls (n := "str") M.str (by rfl) (by decide +kernel)) pa_nil)))) (pw_and1 (pt_cmpR (r := rSEq K) (op_sEq (hu_of1 hr)) (pe_ix (r := rIxT K) ix_tup (pv 6) pe_int (fun _ _ => rfl)) (pe_ix (r := rIxT K) ix_tup (pv 2) pe_int (fun _ _ => rfl)) (nomark _)))))) (fun _ _ _ _ _ => (pv 6)))
      (pss_cons (ps_if (PW.pt (pw_or (pt_cmpR op_eq (pe_callB call_len_seq (by rfl) M.len PySem.boot_len (pa_cons (pv 5) pa_nil)) pe_int (nomark _)) (pw_or1 (pt_cmpR op_ne (pe_callB call_len_seq (by rfl) M.len PySem.boot_len (pa_cons (pv 2) pa_nil)) (pe_ifExp (pt_cmpR (op_eqS (hu_of1 hr)) (pe_ix ix_tup (pv 2) pe_int (fun _ _ => rfl)) pe_str (nomark _)) pe_int pe_int) (nomark _))))) (pss_one (ps_ret pe_bl)) pss_nil)
      (pss_cons (ps_asg (pe_ix ix_list (pv 5) pe_int (fun _ _ => rfl)) (pg_tup rfl (pgs_cons (pg_name (i := 7) scLDeed.nd rfl (Or.inl rfl)) (pgs_cons (pg_name (i := 8) scLDeed.nd rfl (Or.inl rfl)) (pgs_cons (pg_name (i := 9) scLDeed.nd rfl (Or.inl rfl)) pgs_nil)))))
      (pss_cons (ps_if (pt_cmpR (op_inS' (hu_of hr)) (pe_ix ix_tup (pv 2) pe_int (fun _ _ => rfl)) (pe_tup (pa_cons pe_str (pa_cons pe_str pa_nil))) (by rfl)) (pss_one (ps_ret (pe_and (pe_cmpR (op_eqS (hu_of1 hr)) (pv 8) pe_str (nomark _)) (pe_one (pe_df DS hr (by decide) (pa_cons (pv 9) (pa_cons (pe_ix ix_tup (pv 2) pe_int (fun _ _ => rfl)) pa_nil))))))) pss_nil)
      (pss_cons (ps_if (pt_cmpR (op_eqS (hu_of1 hr)) (pe_ix ix_tup (pv 2) pe_int (fun _ _ => rfl)) pe_str (nomark _)) (pss_cons (ps_set (i := 10) scLDeed.nd rfl (Or.inl rfl) (pe_and (pe_df DW hr (by decide) (pa_cons pe_str (pa_cons (pe_ix ix_tup (pv 2) pe_int (fun _ _ => rfl)) pa_nil))) (pe_one (pe_cmpR op_ne (pe_ix ix_tup (pv 2) pe_int (fun _ _ => rfl)) pe_int (nomark _)))))
      (pss_one (ps_ret (pe_and (pe_cmpR (op_eqS (hu_of1 hr)) (pv 8) pe_str (nomark _)) (pe_and (pv 10) (pe_one (pe_df DS hr (by decide) (pa_cons (pe_slice (r := rSlF K) sl_tupF (pv 9) po_none (po_some (pe_un un_neg pe_int))) (pa_cons (pe_ix ix_tup (pv 2) pe_int (fun _ _ => rfl)) pa_nil))))))))) pss_nil)
      (pss_cons (ps_if (PW.pt (pw_or (pt_cmpR (op_notInS' (hu_of hr)) (pe_ix ix_tup (pv 2) pe_int (fun _ _ => rfl)) (pe_tup (pa_cons pe_str (pa_cons pe_str pa_nil))) (by rfl)) (pw_or1 (pt_not (pt_val (pe_df DI hr (by decide) (pa_cons (pv 8) pa_nil))))))) (pss_one (ps_ret pe_bl)) pss_nil)
      (pss_one (ps_ret (pe_df DS hr (by decide) (pa_cons (pe_ifExp (pt_cmpR (op_eqS (hu_of1 hr)) (pe_ix ix_tup (pv 2) pe_int (fun _ _ => rfl)) pe_str (nomark _)) (pv 9) (pe_slice (r := rSlF K) sl_tupF (pv 9) po_none (po_some (pv 8)))) (pa_cons (pe_ix ix_tup (pv 2) pe_int (fun _ _ => rfl)) pa_nil)))))))))))))), ?_⟩
  refine rb_if (b := dueD e rs d) (c := !isT d || (decide ((lenD d : Int) < 2) || !isS (at_ d 0))) (yt_or (yt_not (yt_b (yb_isi (yv_var rfl hd) (kT d)))) fun e1 => ?_) (fun e1 => yb_eq yb_c ?_) (fun e1 => ?_) H _ (Same.refl H) q
  · obtain ⟨ds, rfl⟩ := isT_of (ofnot e1)
    refine yt_or (yt_t (yb_op (fun _ _ q => ⟨_, _, rfl, rfl, q⟩) (yn_lenT (yv_var rfl hd)) yn_c)) fun e2 => ?_
    have l2 : ¬ ((ds.length : Int) < 2) := of_decide_eq_false e2
    exact yt_not (yt_b (yb_isi (yv_at (m := 0) (yv_var rfl hd) yn_c (by omega)) (kS _)))
  · unfold dueD
    rw [if_pos e1]
  have z1 : dueD e rs d = (if eqS (at_ d 0) "rule" = true then (decide ((lenD d : Int) = 3) && (nameD (at_ d 1) && inV (.str (at_ d 2).shown) (rs.map fun r => V.str r.shown))) else
      (if eqS (at_ d 0) "unrule" = true then (decide ((lenD d : Int) = 2) && nameD (at_ d 1)) else factDue e d)) := by
    unfold dueD
    rw [e1, if_neg Bool.false_ne_true]
  rw [z1]
  obtain ⟨t1, t2, t3⟩ := or3g e1
  obtain ⟨ds, rfl⟩ := isT_of t1
  have l2 : ¬ ((ds.length : Int) < 2) := of_decide_eq_false t2
  obtain ⟨hz, om⟩ := ok_tup ok.1
  refine rb_ifs (c := eqS (at_ (.tuple ds) 0) "rule") (yt_t (yb_eqS (yv_at (m := 0) (yv_var rfl hd) yn_c (by omega)) ys_c)) (fun e2 => ?_) (fun e2 => ?_)
  · rw [if_pos e2]
    refine rb_setq (xs := rs.map fun r => V.str r.shown) (yq_lcL (f := fun r => V.str r.shown) (yl_var rfl hp hws) (by have := hrs.1; omega) (fun _ => rfl) fun v' d' H' Q' m' s' hd' q' => ys_repr (yv_var rfl hd') (hrs.2 d' m').1 H' Q' (Same.refl H') q') fun p3 H3 s3 hp3 => rb_ret ?_
    have hd3 := hd.same s3
    refine yb_and (yb_eqI (yn_lenT (yv_var rfl hd3)) yn_c) fun e3 => ?_
    have l3 : (ds.length : Int) = 3 := of_decide_eq_true e3
    exact yb_and (yb_da (yv_at (m := 1) (yv_var rfl hd3) yn_c (by omega)) (ok_at ok.1 (by omega))) fun _ => yb_inQ (ys_repr (yv_at (m := 2) (yv_var rfl hd3) yn_c (by omega)) (okR_at ok (by omega))) (yq_var rfl hp3) (flat_shown rs)
  · rw [e2, if_neg Bool.false_ne_true]
    refine rb_if (c := eqS (at_ (.tuple ds) 0) "unrule") (yt_t (yb_eqS (yv_at (m := 0) (yv_var rfl hd) yn_c (by omega)) ys_c)) (fun e3 => yb_eq (yb_and (yb_eqI (yn_lenT (yv_var rfl hd)) yn_c) fun _ => yb_da (yv_at (m := 1) (yv_var rfl hd) yn_c (by omega)) (ok_at ok.1 (by omega))) ?_) (fun e3 => ?_)
    · rw [if_pos e3]
      rfl
    rw [e3, if_neg Bool.false_ne_true]
    obtain ⟨rr, rfl, k1, k2, hm⟩ := schD_of hs
    have hname : ∀ r ∈ rr, ∃ x k ss, r = .tuple [.str x, k, .tuple ss] ∧ sortsD (.tuple ss) = true ∧ kindD k (.tuple ss) = true := fun r m => by
      obtain ⟨x, k, ss, e, _, h1, h2⟩ := relD_of (hm r m)
      exact ⟨x, k, ss, e, h1, h2⟩
    have hf : YL K (tLc (iTup K (tVar 0)) (gName 6) (tAnd (tB (tCB (rIsi K) (tCons (tOp (rIxT K) (tVar 2) (tC (.int 1))) (tCons (tC (.ty "str")) tNil)))) (tTest (tOp (rSEq K) (tOp (rIxT K) (tVar 6) (tC (.int 0))) (tOp (rIxT K) (tVar 2) (tC (.int 1)))))) (tVar 6) [6]) (L2.start ["schema", "rules", "thing", "right", "rule", "some", "one", "name", "kind", "sorts", "is_amount_v"] [u, .ref p, v]) H
        (rr.filter fun r => isS (at_ (.tuple ds) 1) && eqS (at_ (.tuple ds) 1) (strOf (at_ r 0))) := yl_filtT (yv_var rfl hu) (by omega) (fun _ => rfl) (fun _ => rfl) fun v' r H' m' s' hr' => by
      obtain ⟨x, k, ss, rfl, _⟩ := hname r m'
      exact yt_and (yt_b (yb_isi (yv_at (m := 1) (yv_var rfl (hd.same s')) yn_c (by omega)) (kS _))) fun _ => yt_t (yb_sEq (ys_v (yv_ix (m := 0) (yv_var rfl hr') yn_c rfl)) (yv_at (m := 1) (yv_var rfl (hd.same s')) yn_c (by omega)))
    refine rb_setl hf fun p5 vs5 H5 s5 hp5 hv5 => ?_
    have hd5 := hd.same s5
    show RB _ _ H5 (factDue2 (rr.filter (fun r => isS (at_ (.tuple ds) 1) && eqS (at_ (.tuple ds) 1) (strOf (at_ r 0)))) (.tuple ds))
    have hsub : ∀ r ∈ rr.filter (fun r => isS (at_ (.tuple ds) 1) && eqS (at_ (.tuple ds) 1) (strOf (at_ r 0))), r ∈ rr := fun r m => (List.mem_filter.mp m).1
    generalize rr.filter (fun r => isS (at_ (.tuple ds) 1) && eqS (at_ (.tuple ds) 1) (strOf (at_ r 0))) = fs at hv5 hsub ⊢
    cases fs with
    | nil =>
      show RB _ _ H5 false
      exact rb_if (c := true) (yt_or (a := true) (b := true) (yt_t (yb_eq (yb_eqI (yn_lenL (yl_var rfl hp5 hv5)) yn_c) (by simp))) fun e => by cases e) (fun _ => yb_c) fun e => by cases e
    | cons r fs =>
      obtain ⟨x, k, ss, rfl, hso, hki⟩ := hname r (hsub r List.mem_cons_self)
      obtain ⟨hG, s1, s5'⟩ := sorts_G (r := .none) (x := .none) (k := .none) hso
      have okk : okD k = true := (ok_tup ((ok_tup oke).2 _ (hsub _ List.mem_cons_self))).2 k (by simp)
      refine rb_if (c := !decide ((lenD (.tuple ds) : Int) = if eqS (at_ (.tuple ds) 0) "add" = true then 4 else 3)) (yt_or (a := false) (b := !decide ((lenD (.tuple ds) : Int) = if eqS (at_ (.tuple ds) 0) "add" = true then 4 else 3)) (yt_t (yb_eq (yb_eqI (yn_lenL (yl_var rfl hp5 hv5)) yn_c) (decide_eq_false (by rw [List.length_cons]; omega)))) fun _ => yt_t (yb_neI (yn_lenT (yv_var rfl hd5)) (yn_if (yt_t (yb_eqS (yv_at (m := 0) (yv_var rfl hd5) yn_c (by omega)) ys_c)) (fun _ => yn_c) fun _ => yn_c))) (fun e4 => yb_eq yb_c ?_) fun e4 => ?_
      · show false = factDue1 _ _
        unfold factDue1
        rw [if_pos e4]
      have e5 := of_decide_eq_true (ofnot e4)
      have l3 : 3 ≤ ds.length := by
        have e6 : (ds.length : Int) = if eqS (at_ (.tuple ds) 0) "add" = true then 4 else 3 := e5
        split at e6 <;> omega
      show RB _ _ H5 (factDue1 (.tuple [.str x, k, .tuple ss]) (.tuple ds))
      unfold factDue1
      rw [e4, if_neg Bool.false_ne_true]
      refine rb_un3 (yv_ixLL (m := 0) (yl_var rfl hp5 hv5) yn_c rfl) fun v7 v8 v9 H6 s6 h7 h8 h9 => ?_
      have hd6 := hd5.same s6
      have hd0 : ∀ {σ : L2.St} {H' : Hp}, σ[2]? = some (some v) → Same H6 H' → YV K (tOp (rIxT K) (tVar 2) (tC (.int 0))) σ H' (at_ (.tuple ds) 0) := fun hσ s => yv_at (m := 0) (yv_var hσ (hd6.same s)) yn_c (by omega)
      have hd2 : ∀ {σ : L2.St} {H' : Hp}, σ[2]? = some (some v) → Same H6 H' → YV K (tOp (rIxT K) (tVar 2) (tC (.int 2))) σ H' (at_ (.tuple ds) 2) := fun hσ s => yv_at (m := 2) (yv_var hσ (hd6.same s)) yn_c (by omega)
      have o2 := ok_at (m := 2) ok.1 (by omega)
      show RB _ _ H6 (if inS (at_ (.tuple ds) 0) ["bring", "drop"] = true then (eqS k "bag" && ofSorts (.tuple ss) (at_ (.tuple ds) 2)) else
        (if eqS (at_ (.tuple ds) 0) "add" = true then (eqS k "sum" && ((smallD (at_ (.tuple ds) 3) && !decide (intOf (at_ (.tuple ds) 3) = 0)) && ofSorts (headD (.tuple ss)) (at_ (.tuple ds) 2))) else
        (if (!inS (at_ (.tuple ds) 0) ["put", "take"] || !intD k) = true then false else
        ofSorts (if eqS (at_ (.tuple ds) 0) "put" = true then .tuple ss else takeD (.tuple ss) k) (at_ (.tuple ds) 2))))
      refine rb_if (c := inS (at_ (.tuple ds) 0) ["bring", "drop"]) (yt_t (yb_inS (hd0 rfl (Same.refl _)) (by decide) (yss_cons ys_c (yss_cons ys_c yss_nil)))) (fun e7 => yb_eq (yb_and (b := ofSorts (.tuple ss) (at_ (.tuple ds) 2)) (yb_eqS (yv_var rfl h8) ys_c) fun _ => yb_da2 (yv_var rfl h9) (hd2 rfl (Same.refl _)) o2 hG) (by rw [if_pos e7])) fun e7 => ?_
      rw [e7, if_neg Bool.false_ne_true]
      refine rb_ifs (c := eqS (at_ (.tuple ds) 0) "add") (yt_t (yb_eqS (hd0 rfl (Same.refl _)) ys_c)) (fun e8 => ?_) (fun e8 => ?_)
      · rw [if_pos e8]
        have l4 : (ds.length : Int) = 4 := by
          have e6 : (ds.length : Int) = if eqS (at_ (.tuple ds) 0) "add" = true then 4 else 3 := e5
          rw [if_pos e8] at e6
          exact e6
        have o3 := ok_at (m := 3) ok.1 (by omega)
        refine rb_asg1 (K := K) (d := .bool (smallD (at_ (.tuple ds) 3) && !decide (intOf (at_ (.tuple ds) 3) = 0))) (yv_b (yb_and (yb_eq (yb_da2 (e := .str "number") (yv_c fun _ => .str _) (yv_at (m := 3) (yv_var rfl hd6) yn_c (by omega)) o3 trivial) rfl) fun e9 => ?_)) fun v10 H7 s7 h10 => rb_ret (yb_and (yb_eqS (yv_var rfl (h8.same s7)) ys_c) fun _ => yb_and (b := ofSorts (headD (.tuple ss)) (at_ (.tuple ds) 2)) (yb_v (K := K) (yv_var rfl h10)) fun _ => ?_)
        · obtain ⟨i, hi⟩ := intD_of (Bool.and_eq_true_iff.mp e9).1
          have h3 := yv_at (σ := (((L2.start ["schema", "rules", "thing", "right", "rule", "some", "one", "name", "kind", "sorts", "is_amount_v"] [u, .ref p, v]).set 5 (some (.ref p5))).set 7 (some v7)).set 8 (some v8) |>.set 9 (some v9)) (m := 3) (tb := tC (.int 3)) (yv_var (m := 2) rfl hd6) yn_c (by omega)
          rw [hi] at h3 ⊢
          exact yb_neI (yn_v h3) yn_c
        exact yb_da2 (yv_slInit (ds := ss) (fun z => by rw [z] at s1; exact absurd s1 (by decide)) (yv_var rfl (h9.same s7)) (yo_some (yn_neg (fun _ _ q => ⟨_, rfl, q⟩) yn_c))) (hd2 rfl s7) o2 (by
          obtain ⟨_, e, g1, g2⟩ := hG
          cases e
          exact ⟨_, rfl, by show (List.dropLast ss).length ≤ 1000; rw [List.length_dropLast]; omega, fun x m => g2 x (by have m2 : x ∈ List.dropLast ss := m; rw [List.dropLast_eq_take] at m2; exact List.mem_of_mem_take m2)⟩)
      · rw [e8, if_neg Bool.false_ne_true]
        refine rb_if (c := !inS (at_ (.tuple ds) 0) ["put", "take"] || !intD k) (yt_or (yt_t (yb_notInS (hd0 rfl (Same.refl _)) (by decide) (yss_cons ys_c (yss_cons ys_c yss_nil)))) fun _ => yt_not (yt_b (yb_da (yv_var rfl h8) ?_))) (fun e9 => yb_eq yb_c (by rw [if_pos e9])) fun e9 => ?_
        · exact okk
        rw [e9, if_neg Bool.false_ne_true]
        obtain ⟨f1, f2⟩ := or2f e9
        obtain ⟨i, rfl⟩ := intD_of f2
        have hlt : 0 ≤ i ∧ i < (ss.length : Int) := by
          unfold kindD at hki
          cases hn : numD (.int i) with
          | true =>
            rw [hn, if_pos rfl] at hki
            exact ⟨of_decide_eq_true (Bool.and_eq_true_iff.mp hn).2, of_decide_eq_true hki⟩
          | false =>
            rw [hn, if_neg Bool.false_ne_true] at hki
            cases hki
        obtain ⟨n, rfl⟩ : ∃ n : Nat, i = (n : Int) := ⟨i.toNat, by omega⟩
        refine rb_ret (yb_da2 (e := if eqS (at_ (.tuple ds) 0) "put" = true then .tuple ss else takeD (.tuple ss) (.int n)) (yv_if (yt_t (yb_eqS (hd0 rfl (Same.refl _)) ys_c)) (fun _ => yv_var rfl h9) fun _ => yv_slTake (ds := ss) (n := n) (by omega) (yv_var rfl h9) (yo_some (yn_v (yv_var rfl h8)))) (hd2 rfl (Same.refl _)) o2 ?_)
        cases eqS (at_ (.tuple ds) 0) "put" with
        | true =>
          obtain ⟨_, e, g1, g2⟩ := hG
          cases e
          exact ⟨_, rfl, g1, g2⟩
        | false =>
          obtain ⟨_, e, g1, g2⟩ := hG
          cases e
          exact ⟨_, rfl, by show (ss.take _).length ≤ 1000; rw [List.length_take]; omega, fun x m => g2 x (List.mem_of_mem_take m)⟩
end
end Sm
namespace Sm
open PySem PySem.Spec PyProof.Rows L2 Tn Vd RZ Gd
/-! ### marks as dicts -/
abbrev Mk := List (Int × Int)
def fK (p : Int × Int) : Key × V := (Sum.inl p.1, .int p.2)
def pairT (p : Int × Int) : PyData := .tuple [.int p.1, .int p.2]
theorem ris_pair : ∀ {ps : Mk}, risV (ps.map fun p => V.int p.1) = true → ps.Pairwise fun p q => p.1 < q.1
  | [], _ => .nil
  | [p], _ => List.pairwise_singleton _ _
  | p :: q :: r, h => by
    have h2 : (decide (p.1 < q.1) && risV ((q :: r).map fun p => V.int p.1)) = true := h
    obtain ⟨h3, h4⟩ := Bool.and_eq_true_iff.mp h2
    have ih := ris_pair h4
    have h5 := of_decide_eq_true h3
    refine List.pairwise_cons.mpr ⟨fun x m => ?_, ih⟩
    rcases List.mem_cons.mp m with rfl | m
    · exact h5
    · have := (List.pairwise_cons.mp ih).1 x m
      omega
theorem mark_of {d : PyData} (h : markD d = true) : ∃ ps : Mk, d = .tuple (ps.map pairT) ∧ ps.Pairwise fun p q => p.1 < q.1 := by
  obtain ⟨h1, h2⟩ := Bool.and_eq_true_iff.mp h
  obtain ⟨ds, rfl⟩ := isT_of h1
  obtain ⟨h3, h4⟩ := Bool.and_eq_true_iff.mp h2
  have h5 : ∀ d ∈ ds, markPairD d = true := fun d m => List.all_eq_true.mp h3 d m
  obtain ⟨ps, rfl⟩ : ∃ ps : Mk, ds = ps.map pairT := by
    clear h1 h2 h3 h4 h
    induction ds with
    | nil => exact ⟨[], rfl⟩
    | cons d r ih =>
      obtain ⟨ps, rfl⟩ := ih fun d m => h5 d (List.mem_cons_of_mem _ m)
      obtain ⟨l, n, rfl, _⟩ := markPair_of (h5 d List.mem_cons_self)
      exact ⟨(l, n) :: ps, rfl⟩
  refine ⟨ps, rfl, ris_pair ?_⟩
  have e : livesD (.tuple (ps.map pairT)) = ps.map fun p => V.int p.1 := by
    show (ps.map pairT).map _ = _
    rw [List.map_map]
    rfl
  rw [← e]
  exact h4
theorem pairs_dd {K : PySem.W.Frag} {H : Hp} : ∀ {ps : Mk} {xs : List V}, DdAll K H xs (ps.map pairT) → ∃ as : List Addr, xs = as.map V.ref ∧ Paired (fun a (kv : Key × V) => TupN H a [kV kv.1, kv.2]) as (ps.map fK)
  | [], xs, h => by
    cases dall_unnil h
    exact ⟨[], rfl, .nil⟩
  | p :: r, xs, h => by
    obtain ⟨v, vs, rfl, h1, h2⟩ := dall_uncons h
    obtain ⟨as, rfl, ih⟩ := pairs_dd h2
    obtain ⟨a, ys, rfl, t0, t2⟩ := ofTup h1
    obtain ⟨u1, r1, rfl, g1, t2x⟩ := dall_uncons t2
    obtain ⟨u2, r2, rfl, g2, t2xx⟩ := dall_uncons t2x
    cases dall_unnil t2xx
    cases g1
    cases g2
    exact ⟨a :: as, rfl, .cons t0 ih⟩
theorem val_mk {l : Int} : ∀ (ps : Mk), valV (ps.map fK) (Sum.inl l) = (ps.find? fun p => decide (p.1 = l)).map fun p => V.int p.2
  | [] => rfl
  | p :: r => by
    by_cases e : p.1 = l
    · rw [List.map_cons, valV_pos (by show (Sum.inl p.1 : Key) = Sum.inl l; rw [e]), List.find?_cons, decide_eq_true e]
      rfl
    · rw [List.map_cons, valV_neg (fun z => e (Sum.inl.inj z)), val_mk r, List.find?_cons, decide_eq_false e]
theorem putK_new' {kvs : List (Key × V)} {k : Key} (v : V) (h : valV kvs k = none) : putK kvs k v = kvs ++ [(k, v)] := by
  unfold putK
  rw [if_neg]
  intro z
  obtain ⟨kv, m, e⟩ := List.any_eq_true.mp z
  unfold valV at h
  rw [Option.map_eq_none_iff, List.find?_eq_none] at h
  exact h kv m e
theorem merge_app : ∀ (more acc : Mk), ((acc ++ more).map (·.1)).Nodup → mergeK (acc.map fK) (more.map fK) = (acc ++ more).map fK
  | [], acc, _ => by rw [List.append_nil]; rfl
  | p :: r, acc, nd => by
    have e : acc ++ p :: r = (acc ++ [p]) ++ r := by simp
    show mergeK (putK (acc.map fK) (Sum.inl p.1) (.int p.2)) (r.map fK) = _
    have no : valV (acc.map fK) (Sum.inl p.1) = none := by
      rw [val_mk]
      cases h : acc.find? fun q => decide (q.1 = p.1) with
      | none => rfl
      | some q =>
        have h1 := List.find?_some h
        have h2 := List.mem_of_find?_eq_some h
        rw [List.map_append, List.map_cons] at nd
        have h3 := (List.nodup_append.mp nd).2.2
        exact absurd (of_decide_eq_true h1) (h3 q.1 (List.mem_map.mpr ⟨q, h2, rfl⟩) p.1 List.mem_cons_self)
    rw [putK_new' _ no]
    have e2 : acc.map fK ++ [((Sum.inl p.1 : Key), V.int p.2)] = (acc ++ [p]).map fK := by
      rw [List.map_append]
      rfl
    rw [e2, merge_app r (acc ++ [p]) (by rw [← e]; exact nd), e]
theorem merge_mk {ps : Mk} (h : ps.Pairwise fun p q => p.1 < q.1) : mergeK [] (ps.map fK) = ps.map fK := merge_app ps [] (by
  rw [List.nil_append]
  exact List.pairwise_map.mpr (h.imp fun z e => by omega))
theorem numIn_mk (ps : Mk) (l : Int) : V.int (numIn (.tuple (ps.map pairT)) l) = (valV (ps.map fK) (Sum.inl l)).getD (.int 0) := by
  rw [val_mk]
  unfold numIn
  show V.int (match (ps.map pairT).find? fun p => decide (intOf (at_ p 0) = l) with
      | some p => intOf (at_ p 1)
      | none => 0) = _
  rw [List.find?_map]
  show V.int (match (ps.find? fun p => decide (p.1 = l)).map pairT with
      | some p => intOf (at_ p 1)
      | none => 0) = _
  cases ps.find? fun p => decide (p.1 = l) <;> rfl
section
variable {K : PySem.W.Frag} {σ : L2.St} {H : Hp} {ta tb tc : TE} {a b c : Bool} {d : PyData} {i j k : Int} {r r' : R2}
/-- dict(mark).get(life, 0) -/
theorem yn_dget {l : Int} (ha : YV K ta σ H d) (hm : markD d = true) (hb : YN tb σ H l) (hc : YN tc σ H 0) : YN (tDGet2 (tCB rDictT (tCons ta tNil)) tb tc) σ H (numIn d l) := fun H1 Q s q => ha H1 _ s fun v H2 s2 hd => by
  obtain ⟨ps, rfl, hp⟩ := mark_of hm
  obtain ⟨a, xs, rfl, h0, h2⟩ := ofTup hd
  obtain ⟨as, rfl, hpr⟩ := pairs_dd h2
  refine ⟨a, as, ps.map fK, rfl, h0, hpr, fun p hp' => ?_⟩
  rw [merge_mk hp]
  have sp := same_up (o := .dK (ps.map fK)) hp'
  refine ⟨p, rfl, .inl ⟨_, .inl upd_same⟩, ?_⟩
  refine hb _ _ ((s.trans s2).trans sp) fun H4 s4 => hc H4 _ (((s.trans s2).trans sp).trans s4) fun H5 s5 => ⟨_, DGet.k (k := Sum.inl l) (s5 _ _ (s4 _ _ upd_same)), ?_⟩
  rw [← numIn_mk]
  exact q H5 (((s2.trans sp).trans s4).trans s5)
theorem yb_due {g : PyData → List PyData → PyData → Bool} {e : PyData} {rs : List PyData} (ha : YV K ta σ H e) (hb : YL K tb σ H rs) (hc : YV K tc σ H d) (hs : schD e = true) (oke : okD e = true) (hr : rules_ok rs) (ok : okR d) : YB (tCg (spDue K g) (tCons ta (tCons tb (tCons tc tNil)))) σ H (g e rs d) := fun H1 Q s q =>
  ha H1 _ s fun u H2 s2 hu => hb H2 _ (s.trans s2) fun p ws H3 s3 hp hw => hc H3 _ ((s.trans s2).trans s3) fun v H4 s4 hv =>
    ⟨u, e, p, ws, rs, v, d, rfl, hu.same (s3.trans s4), hs, oke, SqL.same s4 hp, DdAll.same s4 hw, hr, hv, ok, fun H5 s5 => q H5 (((s2.trans s3).trans s4).trans s5)⟩
end
section
variable {P : Program} {w : World} {K : PySem.W.Frag} {mg : Str → Option Value} {base : Heap}
def dueE (e : PyData) (rs : List PyData) (d : PyData) : Bool := if (!isT d || (!decide ((lenD d : Int) = 5) || !((partsD d).take 3).all intD)) = true then false else
  (if (!(decide (0 < intOf (at_ d 0)) && decide (intOf (at_ d 0) < 1000)) || (decide (intOf (at_ d 1) < 1) || (decide (intOf (at_ d 2) < 1) || !markD (at_ d 3)))) = true then false else
  (decide (numIn (at_ d 3) (intOf (at_ d 0)) = intOf (at_ d 1) - 1) && dueD e rs (at_ d 4)))
theorem scLEdit : FnScope ["schema", "rules", "thing", "one", "life", "number", "height", "seen", "deed"] ["schema", "rules", "thing"] (defScope sLEdit) := ⟨rfl, rfl, rfl, by decide +kernel, rfl, by decide +kernel, by decide +kernel⟩
theorem ok_ledit {f : Addr} {fd : FuncData} (F : FnP K "_law_is_due_edit" sLEdit f fd) (M : Nm mg) (DI : DA P w K mg base "_law_is_int" 1 intD) (DM : DA P w K mg base "_law_is_due_mark" 2 markD) (DD : Dg P w K mg base "_law_is_due_deed" 4 ["schema", "rules", "thing"] (spDue K dueD)) : FnG P w K mg base 5 f fd ["schema", "rules", "thing"] (spDue K dueE) := by
  refine fnG F scLEdit (fun vs H Q E h => ?_) (fun cdv A outer s H vs Q hgd hr h => ?_)
  · obtain ⟨u, e, p, ws, rs, v, d, rfl, _⟩ := h
    rfl
  obtain ⟨u, e, p, ws, rs, v, d, rfl, hu, hs, oke, hp, hws, hrs, hd, ok, q⟩ := h
  have hg : (A.deeper (envOfC "_law_is_due_edit" (defScope sLEdit) s.heap.objs.size f cdv)).guards = some [] := hgd
  have hu2 : (A.deeper (envOfC "_law_is_due_edit" (defScope sLEdit) s.heap.objs.size f cdv)).units + 1 < cLine := hu_of1 hr
  refine ⟨_, PSs.nox (pss_cons (ps_if (PW.pt (pw_or (pt_not (pt_val (pe_callB (id := "isinstance") (r := rIsi K) call_isi (by rfl) M.isinstance (by decide +kernel) (pa_cons (pv 2) (pa_cons (ty_cls (n := "tuple") M.tuple (by rfl) (by decide +kernel)) pa_nil))))) (pw_or (pt_cmpR op_ne (pe_callB call_len_seq (by rfl) M.len PySem.boot_len (pa_cons (pv 2) pa_nil)) pe_int (nomark _)) (pw_or1 (pt_not (pt_val (pe_callB (r := rAll K) (cr_all rfl) (by rfl) M.all (by decide +kernel) (pa_cons (pe_lc (own := [("one", 3)]) (g := gName 3) (tt := tYes) (by rfl) scLEdit.nd (pi_tup (pe_slice (r := rSlF K) sl_tupF (pv 2) po_none (po_some pe_int))) (blkOk_by (N := ["schema", "rules", "thing", "one", "life", "number", "height", "seen", "deed"]) (sc := defScope sLEdit) (by decide +kernel)) (fun _ _ _ _ _ => pg_name (i := 3) scLEdit.nd rfl (Or.inl rfl)) (fun _ _ _ _ _ => pts_nil) (fun _ _ _ _ _ => (pe_df DI hr (by decide) (pa_cons (pv 3) pa_nil)))) pa_nil)))))))) (pss_one (ps_ret pe_bl)) pss_nil)
      (pss_cons (ps_asg (pv 2) (pg_tup rfl (pgs_cons (pg_name (i := 4) scLEdit.nd rfl (Or.inl rfl)) (pgs_cons (pg_name (i := 5) scLEdit.nd rfl (Or.inl rfl)) (pgs_cons (pg_name (i := 6) scLEdit.nd rfl (Or.inl rfl)) (pgs_cons (pg_name (i := 7) scLEdit.nd rfl (Or.inl rfl)) (pgs_cons (pg_name (i := 8) scLEdit.nd rfl (Or.inl rfl)) pgs_nil)))))))
      (pss_cons (ps_if (PW.pt (pw_or (pt_not (pt_chain op_lt op_lt pe_int (pv 4) pe_int)) (pw_or (pt_cmpR op_lt (pv 5) pe_int (nomark _)) (pw_or (pt_cmpR op_lt (pv 6) pe_int (nomark _)) (pw_or1 (pt_not (pt_val (pe_df DM hr (by decide) (pa_cons (pv 7) pa_nil))))))))) (pss_one (ps_ret pe_bl)) pss_nil)
      (pss_one (ps_ret (pe_and (pe_cmpR op_eq (pe_dget2 hu2 (pe_callTy (call_dictT rfl) (by rfl) M.dict (by decide +kernel) (pa_cons (pv 7) pa_nil)) (pv 4) pe_int ⟨by rfl, by rfl, by rfl, by rfl⟩) (pe_op op_sub (pv 5) pe_int) (nomark _)) (pe_one (pe_dg DD hg hr (by decide) (pa_cons (pv 0) (pa_cons (pv 1) (pa_cons (pv 8) pa_nil))))))))))), ?_⟩
  refine rb_if (b := dueE e rs d) (c := !isT d || (!decide ((lenD d : Int) = 5) || !((partsD d).take 3).all intD)) (yt_or (yt_not (yt_b (yb_isi (yv_var rfl hd) (kT d)))) fun e1 => ?_) (fun e1 => yb_eq yb_c ?_) (fun e1 => ?_) H _ (Same.refl H) q
  · obtain ⟨ds, rfl⟩ := isT_of (ofnot e1)
    refine yt_or (yt_t (yb_neI (yn_lenT (yv_var rfl hd)) yn_c)) fun e2 => ?_
    have l5 : (ds.length : Int) = 5 := of_decide_eq_true (ofnot (b := decide ((ds.length : Int) = 5)) e2)
    exact yt_not (yt_b (yb_allT (ds := ds.take 3) (p := intD) (yv_slTake (ds := ds) (n := 3) (by omega) (yv_var rfl hd) (yo_some yn_c)) (by rw [List.length_take]; omega) (fun _ => rfl) fun v' d' H' m' s' h' => yb_da (yv_var rfl h') ((ok_tup ok.1).2 d' (List.mem_of_mem_take m'))))
  · unfold dueE
    rw [if_pos e1]
  obtain ⟨t1, t2, t3⟩ := or3f e1
  obtain ⟨ds, rfl⟩ := isT_of t1
  have l5 : (ds.length : Int) = 5 := of_decide_eq_true t2
  obtain ⟨a0, a1, a2, a3, a4, e5⟩ := tup5 (tupOf_true (ds := ds) (lo := 5) (hi := 5) (by omega) (by omega))
  cases e5
  have h3 : (intD a0 && (intD a1 && (intD a2 && true))) = true := t3
  obtain ⟨i0, h4⟩ := Bool.and_eq_true_iff.mp h3
  obtain ⟨i1, h5⟩ := Bool.and_eq_true_iff.mp h4
  obtain ⟨i2, _⟩ := Bool.and_eq_true_iff.mp h5
  obtain ⟨x0, rfl⟩ := intD_of i0
  obtain ⟨x1, rfl⟩ := intD_of i1
  obtain ⟨x2, rfl⟩ := intD_of i2
  have o3 := okR_at (m := 3) ok (by simp)
  have o4 := okR_at (m := 4) ok (by simp)
  have z1 : dueE e rs (.tuple [.int x0, .int x1, .int x2, a3, a4]) = (if (!(decide (0 < x0) && decide (x0 < 1000)) || (decide (x1 < 1) || (decide (x2 < 1) || !markD a3))) = true then false else
      (decide (numIn a3 x0 = x1 - 1) && dueD e rs a4)) := by
    unfold dueE
    rw [e1, if_neg Bool.false_ne_true]
    rfl
  rw [z1]
  refine rb_un5 (yv_var rfl hd) fun v1 v2 v3 v4 v5 H' s1 h1 h2 h3 h4 h5 => ?_
  refine rb_if (c := !(decide (0 < x0) && decide (x0 < 1000)) || (decide (x1 < 1) || (decide (x2 < 1) || !markD a3))) (yt_or (yt_not (yt_t (yb_chain (fun _ _ q => ⟨_, _, rfl, rfl, q⟩) (fun _ _ q => ⟨_, _, rfl, rfl, q⟩) yn_c (yn_v (yv_var rfl h1)) yn_c))) fun _ => yt_or (yt_t (yb_op (fun _ _ q => ⟨_, _, rfl, rfl, q⟩) (yn_v (yv_var rfl h2)) yn_c)) fun _ => yt_or (yt_t (yb_op (fun _ _ q => ⟨_, _, rfl, rfl, q⟩) (yn_v (yv_var rfl h3)) yn_c)) fun _ => yt_not (yt_b (yb_da (yv_var rfl h4) o3.1))) (fun e2 => yb_eq yb_c (by rw [if_pos e2])) fun e2 => rb_ret ?_
  rw [e2, if_neg Bool.false_ne_true]
  have hm : markD a3 = true := by
    cases hq : markD a3 with
    | true => rfl
    | false =>
      rw [hq] at e2
      simp at e2
  refine yb_and (yb_eqI (yn_dget (yv_var rfl h4) hm (yn_v (yv_var rfl h1)) yn_c) (yn_op (fun _ _ q => ⟨_, _, rfl, rfl, q⟩) (yn_v (yv_var rfl h2)) yn_c)) fun _ => yb_due (yv_var rfl (hu.same s1)) (yl_var rfl (SqL.same s1 hp) (DdAll.same s1 hws)) (yv_var rfl h5) hs oke hrs o4
end
/-! ### the law's own looks are the program's -/
theorem w_bring_bring : eqS (.str "bring") "bring" = true := by decide +kernel
theorem w_bring_drop : eqS (.str "bring") "drop" = false := by decide +kernel
theorem w_bring_add : eqS (.str "bring") "add" = false := by decide +kernel
theorem w_bring_put : eqS (.str "bring") "put" = false := by decide +kernel
theorem w_bring_take : eqS (.str "bring") "take" = false := by decide +kernel
theorem w_drop_bring : eqS (.str "drop") "bring" = false := by decide +kernel
theorem w_drop_drop : eqS (.str "drop") "drop" = true := by decide +kernel
theorem w_drop_add : eqS (.str "drop") "add" = false := by decide +kernel
theorem w_drop_put : eqS (.str "drop") "put" = false := by decide +kernel
theorem w_drop_take : eqS (.str "drop") "take" = false := by decide +kernel
theorem w_add_bring : eqS (.str "add") "bring" = false := by decide +kernel
theorem w_add_drop : eqS (.str "add") "drop" = false := by decide +kernel
theorem w_add_add : eqS (.str "add") "add" = true := by decide +kernel
theorem w_add_put : eqS (.str "add") "put" = false := by decide +kernel
theorem w_add_take : eqS (.str "add") "take" = false := by decide +kernel
theorem w_put_bring : eqS (.str "put") "bring" = false := by decide +kernel
theorem w_put_drop : eqS (.str "put") "drop" = false := by decide +kernel
theorem w_put_add : eqS (.str "put") "add" = false := by decide +kernel
theorem w_put_put : eqS (.str "put") "put" = true := by decide +kernel
theorem w_put_take : eqS (.str "put") "take" = false := by decide +kernel
theorem w_take_bring : eqS (.str "take") "bring" = false := by decide +kernel
theorem w_take_drop : eqS (.str "take") "drop" = false := by decide +kernel
theorem w_take_add : eqS (.str "take") "add" = false := by decide +kernel
theorem w_take_put : eqS (.str "take") "put" = false := by decide +kernel
theorem w_take_take : eqS (.str "take") "take" = true := by decide +kernel
theorem word_cases (d : PyData) : d = .str "bring" ∨ d = .str "drop" ∨ d = .str "add" ∨ d = .str "put" ∨ d = .str "take" ∨ (eqS d "bring" = false ∧ eqS d "drop" = false ∧ eqS d "add" = false ∧ eqS d "put" = false ∧ eqS d "take" = false) := by
  cases h1 : eqS d "bring" with
  | true => exact .inl (eqS_of h1)
  | false =>
  cases h2 : eqS d "drop" with
  | true => exact .inr (.inl (eqS_of h2))
  | false =>
  cases h3 : eqS d "add" with
  | true => exact .inr (.inr (.inl (eqS_of h3)))
  | false =>
  cases h4 : eqS d "put" with
  | true => exact .inr (.inr (.inr (.inl (eqS_of h4))))
  | false =>
  cases h5 : eqS d "take" with
  | true => exact .inr (.inr (.inr (.inr (.inl (eqS_of h5)))))
  | false => exact .inr (.inr (.inr (.inr (.inr ⟨rfl, rfl, rfl, rfl, rfl⟩))))
theorem inS2 (d : PyData) (x y : Str) : inS d [x, y] = (eqS d x || eqS d y) := by
  show (eqS d x || (eqS d y || false)) = _
  rw [Bool.or_false]
theorem inS1 (d : PyData) (x : Str) : inS d [x] = eqS d x := by
  show (eqS d x || false) = _
  rw [Bool.or_false]
theorem kind_cases {k s : PyData} (h : kindD k s = true) : k = .str "bag" ∨ k = .str "sum" ∨ ∃ i, k = .int i := by
  unfold kindD at h
  cases hn : numD k with
  | true =>
    obtain ⟨i, rfl⟩ := intD_of (Bool.and_eq_true_iff.mp hn).1
    exact .inr (.inr ⟨i, rfl⟩)
  | false =>
    rw [hn, if_neg Bool.false_ne_true] at h
    rcases Bool.or_eq_true_iff.mp h with h | h
    · exact .inl (eqS_of h)
    · exact .inr (.inl (eqS_of (Bool.and_eq_true_iff.mp h).1))
theorem words_bag : wordsD (.str "bag") = (["bring", "drop"] : List Str) := by decide +kernel
theorem words_sum : wordsD (.str "sum") = (["add"] : List Str) := by decide +kernel
theorem words_int (i : Int) : wordsD (.int i) = (["put", "take"] : List Str) := rfl
theorem fact_eq {x k : PyData} {ss : List PyData} {d : PyData} (hk : kindD k (.tuple ss) = true) : factDue1 (.tuple [x, k, .tuple ss]) d = factDeedD (.tuple [x, k, .tuple ss]) d := by
  rw [factDeed_eq]
  unfold factDue1
  show (if (!decide ((lenD d : Int) = if eqS (at_ d 0) "add" = true then 4 else 3)) = true then false else
    (if inS (at_ d 0) ["bring", "drop"] = true then (eqS k "bag" && ofSorts (.tuple ss) (at_ d 2)) else
    (if eqS (at_ d 0) "add" = true then (eqS k "sum" && ((smallD (at_ d 3) && !decide (intOf (at_ d 3) = 0)) && ofSorts (headD (.tuple ss)) (at_ d 2))) else
    (if (!inS (at_ d 0) ["put", "take"] || !intD k) = true then false else
    ofSorts (if eqS (at_ d 0) "put" = true then .tuple ss else takeD (.tuple ss) k) (at_ d 2))))) = _
  unfold amountD
  generalize (smallD (at_ d 3) && !decide (intOf (at_ d 3) = 0)) = am
  generalize at_ d 2 = a2
  generalize (lenD d : Int) = n
  have key : ∀ a0 : PyData, (if (!decide (n = if eqS a0 "add" = true then 4 else 3)) = true then false else
    (if inS a0 ["bring", "drop"] = true then (eqS k "bag" && ofSorts (.tuple ss) a2) else
    (if eqS a0 "add" = true then (eqS k "sum" && (am && ofSorts (headD (.tuple ss)) a2)) else
    (if (!inS a0 ["put", "take"] || !intD k) = true then false else
    ofSorts (if eqS a0 "put" = true then .tuple ss else takeD (.tuple ss) k) a2)))) =
    if (!inS a0 (wordsD k)) = true then false else
    (if eqS a0 "add" = true then (decide (n = 4) && (ofSorts (headD (.tuple ss)) a2 && am)) else (decide (n = 3) && ofSorts (if eqS a0 "take" = true then takeD (.tuple ss) k else .tuple ss) a2)) := by
    intro a0
    generalize ofSorts (headD (.tuple ss)) a2 = o1
    have o4 : ∀ c : Bool, ofSorts (if c = true then .tuple ss else takeD (.tuple ss) k) a2 = if c = true then ofSorts (.tuple ss) a2 else ofSorts (takeD (.tuple ss) k) a2 := fun c => by cases c <;> rfl
    have o5 : ∀ c : Bool, ofSorts (if c = true then takeD (.tuple ss) k else .tuple ss) a2 = if c = true then ofSorts (takeD (.tuple ss) k) a2 else ofSorts (.tuple ss) a2 := fun c => by cases c <;> rfl
    rw [o4, o5]
    generalize ofSorts (.tuple ss) a2 = o2
    generalize ofSorts (takeD (.tuple ss) k) a2 = o3
    rw [inS2, inS2]
    rcases kind_cases hk with rfl | rfl | ⟨i, rfl⟩
    · rw [words_bag, inS2, show eqS (.str "bag") "bag" = true by decide +kernel, show eqS (.str "bag") "sum" = false by decide +kernel, show intD (.str "bag") = false from rfl]
      rcases word_cases a0 with rfl | rfl | rfl | rfl | rfl | ⟨h1, h2, h3, h4, h5⟩
      all_goals first | simp only [w_bring_bring, w_bring_drop, w_bring_add, w_bring_put, w_bring_take, w_drop_bring, w_drop_drop, w_drop_add, w_drop_put, w_drop_take, w_add_bring, w_add_drop, w_add_add, w_add_put, w_add_take, w_put_bring, w_put_drop, w_put_add, w_put_put, w_put_take, w_take_bring, w_take_drop, w_take_add, w_take_put, w_take_take] | simp only [h1, h2, h3, h4, h5]
      all_goals by_cases e4 : n = 4 <;> by_cases e3 : n = 3 <;> cases am <;> cases o1 <;> cases o2 <;> cases o3 <;> simp [e4, e3]
    · rw [words_sum, inS1, show eqS (.str "sum") "bag" = false by decide +kernel, show eqS (.str "sum") "sum" = true by decide +kernel, show intD (.str "sum") = false from rfl]
      rcases word_cases a0 with rfl | rfl | rfl | rfl | rfl | ⟨h1, h2, h3, h4, h5⟩
      all_goals first | simp only [w_bring_bring, w_bring_drop, w_bring_add, w_bring_put, w_bring_take, w_drop_bring, w_drop_drop, w_drop_add, w_drop_put, w_drop_take, w_add_bring, w_add_drop, w_add_add, w_add_put, w_add_take, w_put_bring, w_put_drop, w_put_add, w_put_put, w_put_take, w_take_bring, w_take_drop, w_take_add, w_take_put, w_take_take] | simp only [h1, h2, h3, h4, h5]
      all_goals by_cases e4 : n = 4 <;> by_cases e3 : n = 3 <;> cases am <;> cases o1 <;> cases o2 <;> cases o3 <;> simp [e4, e3]
    · rw [words_int, inS2, show eqS (.int i) "bag" = false from rfl, show eqS (.int i) "sum" = false from rfl, show intD (.int i) = true from rfl]
      rcases word_cases a0 with rfl | rfl | rfl | rfl | rfl | ⟨h1, h2, h3, h4, h5⟩
      all_goals first | simp only [w_bring_bring, w_bring_drop, w_bring_add, w_bring_put, w_bring_take, w_drop_bring, w_drop_drop, w_drop_add, w_drop_put, w_drop_take, w_add_bring, w_add_drop, w_add_add, w_add_put, w_add_take, w_put_bring, w_put_drop, w_put_add, w_put_put, w_put_take, w_take_bring, w_take_drop, w_take_add, w_take_put, w_take_take] | simp only [h1, h2, h3, h4, h5]
      all_goals by_cases e4 : n = 4 <;> by_cases e3 : n = 3 <;> cases am <;> cases o1 <;> cases o2 <;> cases o3 <;> simp [e4, e3]
  exact key (at_ d 0)
end Sm
namespace Sm
open PySem PySem.Spec PyProof.Rows L2 Tn Vd RZ Gd
theorem shown_rule {d : PyData} (hd : aOk d = true) : decide (d.shown = (PyData.str "rule").shown) = eqS d "rule" := by
  cases h : eqS d "rule" with
  | true =>
    rw [eqS_of h]
    exact decide_eq_true rfl
  | false =>
    refine decide_eq_false fun z => ?_
    rw [shown_inj hd (by decide +kernel) z] at h
    exact absurd h (by decide +kernel)
theorem aOk_at {d : PyData} (h : aOk d = true) (i : Nat) : aOk (at_ d i) = true := by
  unfold at_
  cases d with
  | tuple ds =>
    unfold aOk at h
    show aOk ((ds[i]?).getD .none) = true
    cases q : ds[i]? with
    | none => unfold aOk; rfl
    | some x => exact aOkL_mem h (List.mem_of_getElem? q)
  | _ => show aOk (([] : List PyData)[i]?.getD .none) = true; rw [List.getElem?_nil]; unfold aOk; rfl
theorem tup24_of {ds : List PyData} : tupOfD 2 4 (.tuple ds) = (decide (2 ≤ (ds.length : Int)) && decide ((ds.length : Int) ≤ 4)) := rfl
theorem eqS_two {d : PyData} {x y : Str} (h : eqS d x = true) (n : x ≠ y) : eqS d y = false := by
  rw [eqS_of h]
  show (x == y) = false
  exact beq_eq_false_iff_ne.mpr n
theorem factDue_eq {rr ds : List PyData} (hs : schD (.tuple rr) = true) (h2 : ¬ ((ds.length : Int) < 2)) :
    factDue (.tuple rr) (.tuple ds) = if (!tupOfD 2 4 (.tuple ds)) = true then false else (!isNn (relOf (.tuple rr) (at_ (.tuple ds) 1)) && factDeedD (relOf (.tuple rr) (at_ (.tuple ds) 1)) (.tuple ds)) := by
  obtain ⟨_, er, _, _, hm⟩ := schD_of hs
  cases er
  unfold factDue relOf
  have ep : (fun r => isS (at_ (.tuple ds) 1) && eqS (at_ (.tuple ds) 1) (strOf (at_ r 0))) = fun r => eqS (at_ (.tuple ds) 1) (strOf (at_ r 0)) := by
    funext r
    cases h : eqS (at_ (.tuple ds) 1) (strOf (at_ r 0)) with
    | true =>
      rw [eqS_of h]
      rfl
    | false => rw [Bool.and_false]
  rw [ep]
  have ef : (partsD (.tuple rr)).find? (fun r => eqS (at_ (.tuple ds) 1) (strOf (at_ r 0))) = ((partsD (.tuple rr)).filter fun r => eqS (at_ (.tuple ds) 1) (strOf (at_ r 0))).head? := by
    rw [List.head?_filter]
  rw [ef]
  have hsub : ∀ r ∈ (partsD (.tuple rr)).filter (fun r => eqS (at_ (.tuple ds) 1) (strOf (at_ r 0))), relD r = true := fun r m => hm r (List.mem_filter.mp m).1
  generalize (partsD (.tuple rr)).filter (fun r => eqS (at_ (.tuple ds) 1) (strOf (at_ r 0))) = fs at hsub ⊢
  cases fs with
  | nil =>
    show false = if _ then false else (!true && _)
    cases tupOfD 2 4 (.tuple ds) <;> rfl
  | cons r fs =>
    obtain ⟨x, k, ss, rfl, _, _, hk⟩ := relD_of (hsub r List.mem_cons_self)
    show factDue1 _ _ = if _ then false else (!false && factDeedD _ _)
    rw [fact_eq hk]
    cases ht : tupOfD 2 4 (.tuple ds) with
    | true => rfl
    | false =>
      rw [← fact_eq hk]
      unfold factDue1
      rw [tup24_of] at ht
      have h4 : ¬ ((ds.length : Int) ≤ 4) := by
        intro z
        rw [decide_eq_true (by omega), decide_eq_true z] at ht
        cases ht
      rw [if_pos]
      · rfl
      · show (!decide ((ds.length : Int) = _)) = true
        rw [decide_eq_false]
        · rfl
        · split <;> omega
theorem due_eq {e d : PyData} {rs : List PyData} (hs : schD e = true) (hr : rules_ok rs) (ha : aOk d = true) (hb : bentD rs d = false) : dueD e rs d = deedD e d := by
  obtain ⟨rr, rfl, _, _, hm⟩ := schD_of hs
  cases d with
  | tuple ds =>
    unfold dueD
    show (if (decide ((ds.length : Int) < 2) || !isS (at_ (.tuple ds) 0)) = true then false else _) = _
    by_cases h2 : (ds.length : Int) < 2
    · rw [decide_eq_true h2, Bool.true_or, if_pos rfl]
      unfold deedD
      rw [tup24_of, decide_eq_false (by omega)]
      rfl
    · rw [decide_eq_false h2, Bool.false_or]
      have zd : deedD (.tuple rr) (.tuple ds) = if (!tupOfD 2 4 (.tuple ds)) = true then false else (if inS (at_ (.tuple ds) 0) ["rule", "unrule"] = true then ruleDeedD (.tuple ds) else (!isNn (relOf (.tuple rr) (at_ (.tuple ds) 1)) && factDeedD (relOf (.tuple rr) (at_ (.tuple ds) 1)) (.tuple ds))) := rfl
      rw [zd, inS2]
      cases h3 : isS (at_ (.tuple ds) 0) with
      | false =>
        rw [show (!false) = true from rfl, if_pos rfl]
        have no : ∀ x, eqS (at_ (.tuple ds) 0) x = false := fun x => by
          cases hq : eqS (at_ (.tuple ds) 0) x with
          | false => rfl
          | true =>
            rw [eqS_of hq] at h3
            cases h3
        rw [no, no, Bool.or_false, if_neg Bool.false_ne_true, ← factDue_eq hs h2]
        unfold factDue
        show false = factDue2 _ _
        generalize (partsD (.tuple rr)).filter (fun r => isS (at_ (.tuple ds) 1) && eqS (at_ (.tuple ds) 1) (strOf (at_ r 0))) = fs
        cases fs with
        | nil => rfl
        | cons r fs =>
          show false = factDue1 _ _
          unfold factDue1
          rw [inS2, inS2, no, no, no, no, no]
          cases (!decide ((lenD (.tuple ds) : Int) = if false = true then 4 else 3)) <;> rfl
      | true =>
        rw [show (!true) = false from rfl, if_neg Bool.false_ne_true]
        cases h4 : eqS (at_ (.tuple ds) 0) "rule" with
        | true =>
          have h5 : eqS (at_ (.tuple ds) 0) "unrule" = false := eqS_two h4 (by decide)
          rw [if_pos rfl, Bool.true_or, if_pos rfl]
          unfold ruleDeedD
          rw [h5, if_neg Bool.false_ne_true]
          show (decide ((ds.length : Int) = 3) && _) = if _ then false else if _ then false else (decide ((ds.length : Int) = 3) && _)
          by_cases l3 : (ds.length : Int) = 3
          · rw [decide_eq_true l3, tup24_of, decide_eq_true (by omega), decide_eq_true (by omega)]
            show (nameD (at_ (.tuple ds) 1) && _) = if (!nameD (at_ (.tuple ds) 1)) = true then false else _
            cases hn : nameD (at_ (.tuple ds) 1) with
            | false => rfl
            | true =>
              show inV _ _ = tupOfD 2 2 (at_ (.tuple ds) 2)
              have hb2 : ((isT (at_ (.tuple ds) 2) && decide ((lenD (at_ (.tuple ds) 2) : Int) = 2)) && !inV (.str (at_ (.tuple ds) 2).shown) (rs.map fun r => V.str r.shown)) = false := by
                have h6 : ((true && (decide ((ds.length : Int) = 3) && decide ((at_ (.tuple ds) 0).shown = (PyData.str "rule").shown))) && _) = false := hb
                rw [decide_eq_true l3, shown_rule (aOk_at ha 0), h4] at h6
                exact h6
              have et : tupOfD 2 2 (at_ (.tuple ds) 2) = (isT (at_ (.tuple ds) 2) && decide ((lenD (at_ (.tuple ds) 2) : Int) = 2)) := tupNN (n := 2)
              rw [← et] at hb2
              cases hi : inV (.str (at_ (.tuple ds) 2).shown) (rs.map fun r => V.str r.shown) with
              | true =>
                have m := (inV_shown (aOk_at ha 2) fun r m => okD_a (hr.2 r m).1.1).mp hi
                exact (hr.2 _ m).2.symm
              | false =>
                rw [hi] at hb2
                cases ht : tupOfD 2 2 (at_ (.tuple ds) 2) with
                | false => rfl
                | true =>
                  rw [ht] at hb2
                  cases hb2
          · rw [decide_eq_false l3]
            cases tupOfD 2 4 (.tuple ds) <;> cases nameD (at_ (.tuple ds) 1) <;> rfl
        | false =>
          rw [if_neg Bool.false_ne_true, Bool.false_or]
          cases h5 : eqS (at_ (.tuple ds) 0) "unrule" with
          | true =>
            rw [if_pos rfl, if_pos rfl]
            unfold ruleDeedD
            rw [h5, if_pos rfl]
            show (decide ((ds.length : Int) = 2) && nameD (at_ (.tuple ds) 1)) = if _ then false else if (!nameD (at_ (.tuple ds) 1)) = true then false else decide ((ds.length : Int) = 2)
            by_cases l3 : (ds.length : Int) = 2
            · rw [decide_eq_true l3, tup24_of, decide_eq_true (by omega), decide_eq_true (by omega)]
              cases nameD (at_ (.tuple ds) 1) <;> rfl
            · rw [decide_eq_false l3]
              cases tupOfD 2 4 (.tuple ds) <;> cases nameD (at_ (.tuple ds) 1) <;> rfl
          | false =>
            rw [if_neg Bool.false_ne_true, if_neg Bool.false_ne_true]
            exact factDue_eq hs h2
  | _ => rfl
def innerD (d : PyData) : PyData := if (isT d && decide ((lenD d : Int) = 5)) = true then at_ d 4 else .none
theorem dueE_eq {e d : PyData} {rs : List PyData} (hs : schD e = true) (hr : rules_ok rs) (ha : aOk d = true) (hb : bentD rs (innerD d) = false) : dueE e rs d = editD e d := by
  unfold dueE editD
  have t5 : tupOfD 5 5 d = (isT d && decide ((lenD d : Int) = 5)) := tupNN (n := 5)
  rw [t5]
  cases h1 : isT d with
  | false => rfl
  | true =>
    cases h2 : decide ((lenD d : Int) = 5) with
    | false => rfl
    | true =>
      unfold innerD at hb
      rw [h1, h2, Bool.and_self, if_pos rfl] at hb
      rw [due_eq hs hr (aOk_at ha 4) hb]
      obtain ⟨a0, a1, a2, a3, a4, rfl⟩ := tup5 (by rw [t5, h1, h2]; rfl)
      show (if (!(intD a0 && (intD a1 && (intD a2 && true)))) = true then false else if (!(decide (0 < intOf a0) && decide (intOf a0 < 1000)) || (decide (intOf a1 < 1) || (decide (intOf a2 < 1) || !markD a3))) = true then false else (decide (numIn a3 (intOf a0) = intOf a1 - 1) && deedD e a4)) = ((lifeD a0 && (fromOneD a1 && (fromOneD a2 && markD a3))) && (decide (numIn a3 (intOf a0) = intOf a1 - 1) && deedD e a4))
      generalize (decide (numIn a3 (intOf a0) = intOf a1 - 1) && deedD e a4) = z
      unfold lifeD fromOneD numD
      cases h3 : intD a0 <;> cases h4 : intD a1 <;> cases h5 : intD a2 <;> cases h6 : markD a3
      all_goals first
        | rfl
        | simp; done
        | (by_cases c0 : 0 < intOf a0 <;> by_cases c1 : intOf a0 < 1000 <;> by_cases c2 : intOf a1 < 1 <;> by_cases c3 : intOf a2 < 1 <;> simp [c0, c1, c2, c3] <;> omega)
        | (by_cases c0 : 0 < intOf a0 <;> by_cases c1 : intOf a0 < 1000 <;> by_cases c2 : intOf a1 < 1 <;> by_cases c3 : intOf a2 < 1 <;> simp [c0, c1, c2, c3])
/-- what this law judges, the program may be asked -/
theorem deedF_of {e d : PyData} {rs : List PyData} (hs : schD e = true) (hr : ∀ r ∈ rs, RuleP e r) (hra : ∀ r ∈ rs, aOk r = true) (ha : aOk d = true) (hb : bentD rs d = false) : DeedF e d := by
  refine ⟨hs, fun x y z h h2 _ => ⟨hs, ?_⟩⟩
  subst h
  cases ht : tupOfD 2 2 z with
  | false => exact .inl rfl
  | true =>
    refine .inr (hr z ((inV_shown (aOk_at ha 2) hra).mp ?_))
    have h6 : ((true && (true && decide (x.shown = (PyData.str "rule").shown))) && ((isT z && decide ((lenD z : Int) = 2)) && !inV (.str z.shown) (rs.map fun r => V.str r.shown))) = false := hb
    have et : tupOfD 2 2 z = (isT z && decide ((lenD z : Int) = 2)) := tupNN (n := 2)
    rw [← et, ht, shown_rule (d := x) (aOk_at ha 0), h2] at h6
    show inV (.str z.shown) _ = true
    cases hi : inV (.str z.shown) (rs.map fun r => V.str r.shown) with
    | true => rfl
    | false =>
      rw [hi] at h6
      cases h6
theorem editF_of {e d : PyData} {rs : List PyData} (hs : schD e = true) (hr : ∀ r ∈ rs, RuleP e r) (hra : ∀ r ∈ rs, aOk r = true) (ha : aOk d = true) (hb : bentD rs (innerD d) = false) : EditF e d := by
  refine ⟨hs, fun a b c m x h => ?_⟩
  subst h
  exact deedF_of hs hr hra (aOk_at ha 4 : aOk x = true) hb
end Sm
/-! tuple[::-1]; text * any number. -/
namespace HT
open PySem PySem.Spec PyProof.Rows
section
variable {prog : Program} {w : World} {A : Around} {E : Value → Shared → Prop} {s : Shared}
theorem sliceApplied_rev {sl : Addr} {vl vu vs : Value} {n : Nat} {Q : Int × Int × Nat → Shared → Prop} (hs : s.heap.IsSliceOf sl vl vu vs) (pl : IsPart vl none) (pu : IsPart vu none) (ps : IsPart vs (some (-1)))
    (h : Q ((n : Int) - 1, -1, n) s) : wpAny (model prog w) A (Builtin.Slice.sliceApplied (.ref sl) (pure (n : Int))) Q E s := by
  obtain ⟨os, hos, hcs, hds⟩ := id hs
  unfold Builtin.Slice.sliceApplied Builtin.Slice.sliceFields
  refine wpAny_bind (wpAny_bind (wpAny_field hos hds (x := vl) rfl (wpAny_bind (wpAny_field hos hds (x := vu) rfl (wpAny_bind (wpAny_field hos hds (x := vs) rfl (wpAny_pure ?_)))))))
  refine wpAny_bind (slicePart_ ps ?_)
  show wpAny _ _ (if ((-1 : Int) == 0) = true then _ else _) _ _ s
  rw [if_neg (by decide)]
  refine wpAny_bind (slicePart_ pl (wpAny_bind (slicePart_ pu (wpAny_bind (wpAny_pure ?_)))))
  show wpAny _ _ (pure ((n : Int) - 1, (-1 : Int), Builtin.Slice.slicePlaces ((n : Int) - 1) (-1) (-1))) _ _ s
  have e : Builtin.Slice.slicePlaces ((n : Int) - 1) (-1) (-1) = n := by
    unfold Builtin.Slice.slicePlaces
    rw [if_neg (by decide)]
    by_cases hn : (n : Int) - 1 > -1
    · rw [if_pos hn, show (- -1 : Int) = 1 by decide, Int.ediv_one]
      omega
    · rw [if_neg hn]
      omega
  rw [e]
  exact wpAny_pure h
theorem fm_congr {α β : Type} {f g : α → Option β} : ∀ {l : List α}, (∀ m ∈ l, f m = g m) → l.filterMap f = l.filterMap g
  | [], _ => rfl
  | x :: r, h => by
    rw [List.filterMap_cons, List.filterMap_cons, h x List.mem_cons_self, fm_congr fun m z => h m (List.mem_cons_of_mem _ z)]
theorem pick_rev (xs : Array Value) : ((List.range xs.size).filterMap fun (m : Nat) => xs[(((xs.size : Int) - 1) + (m : Int) * (-1)).toNat]?).toArray = xs.toList.reverse.toArray := by
  have e : (List.range xs.size).filterMap (fun (m : Nat) => xs[(((xs.size : Int) - 1) + (m : Int) * (-1)).toNat]?) = ((List.range xs.size).map fun k => xs.size - 1 - k).filterMap (xs[·]?) := by
    rw [List.filterMap_map]
    refine fm_congr fun m hm => ?_
    have := List.mem_range.mp hm
    have e2 : (((xs.size : Int) - 1) + (m : Int) * (-1)).toNat = xs.size - 1 - m := by omega
    show xs[(((xs.size : Int) - 1) + (m : Int) * (-1)).toNat]? = xs[xs.size - 1 - m]?
    rw [e2]
  rw [e, PySem.W.krv_range, List.filterMap_reverse, PySem.W.krv_all]
theorem getItem_tuple_rev {t sl : Addr} {items : Array Value} {vl vu vs : Value} {Q : Value → Shared → Prop} (ht : IsTup s.heap t items) (hs : s.heap.IsSliceOf sl vl vu vs) (pl : IsPart vl none) (pu : IsPart vu none) (ps : IsPart vs (some (-1)))
    (h : Q (.ref s.heap.objs.size) { s with heap := s.heap.push { cls := .type "tuple", data := .seq items.toList.reverse.toArray } })
    (hsz : items.size ≤ sizeLine) : wpAny (model prog w) A (getItem (.ref t) (.ref sl)) Q E s := by
  have htake : sizeOk (.seq items.toList.reverse.toArray) := by
    show items.toList.reverse.toArray.size ≤ sizeLine
    rw [List.size_toArray, List.length_reverse, Array.length_toList]
    exact hsz
  obtain ⟨os, hos, hcs, hds⟩ := id hs
  have hTs : s.TypeIs (.ref sl) "slice" := ⟨os, hos, hcs⟩
  unfold getItem
  try with_reducible refine wpAny_holding ?_
  first | refine wpAny_bind (wpAny_pure ?_) | skip
  refine wpAny_bind (wpAny_sequenceKey ht.typeIs (by decide) ?_)
  refine wpAny_bind (wpAny_callSpecial?_slot (name := Str.ofString "__getitem__") ht.typeIs PyProof.Rows.slot_tuple_getitem
    (wpAny_call_entry PyProof.Rows.slot_tuple_getitem ht.typeIs entry_tuple_getitem ?_ (args_tuple_getitem _ _)))
  show wpAny _ _ (Builtin.Tuple.tupleItemsOf (.ref t) >>= _) _ _ s
  refine wpAny_bind (tupleItemsOf_ ht ?_)
  refine wpAny_bind (wpAny_typeOf hTs ?_)
  rw [if_pos (by decide)]
  refine wpAny_bind (sliceApplied_rev hs pl pu ps ?_)
  show wpAny _ _ (if (((items.size : Int) - 1) == 0 && (-1 : Int) == 1 && items.size == items.size) = true then _ else _) _ _ s
  rw [if_neg (by rw [show ((-1 : Int) == 1) = false by decide, Bool.and_false, Bool.false_and]; exact Bool.false_ne_true), pick_rev]
  first
    | exact wpAny_bind (m := Builtin.Tuple.tupleExact _) (wpAny_newObj_type (wpAny_pure ⟨_, rfl, wpAny_pure h⟩) htake)
    | exact wpAny_bind (m := Builtin.Tuple.tupleExact _) (wpAny_newObj_type (wpAny_bind (wpAny_pure (wpAny_pure ⟨_, rfl, wpAny_pure h⟩))) htake)
    | exact wpAny_bind (wpAny_bind (m := Builtin.Tuple.tupleExact _) (wpAny_newObj_type (wpAny_pure (wpAny_pure ⟨_, rfl, wpAny_pure h⟩)) htake))
    | exact wpAny_bind (wpAny_bind (m := Builtin.Tuple.tupleExact _) (wpAny_newObj_type (wpAny_pure ⟨_, rfl, wpAny_pure h⟩) htake))
end
end HT
namespace Tn
open PySem PySem.Spec PyProof.Rows L2
section
variable {X : Cx}
def tRevT (K : PySem.W.Frag) (te : TE) : TE := fun σ H Q => te σ H fun x H1 => ∃ a xs, x = .ref a ∧ SqT K H1 a xs ∧ newT xs.reverse H1 Q
theorem pe_revT {e : Expr} {te : TE} {k : Nat} {p1 p2 p3 pos : Pos} (he : PE X e te) : PE X (.Subscript e (.Slice none none (some (.UnaryOp .USub (.Constant (.int 1) k p1) p2)) p3) pos) (tRevT X.K te) := by
  refine ⟨fun pins s σ H Q I h => ?_⟩
  refine Subscript_ (thn (he.run pins s σ H _ I h) fun v s1 ⟨x, H1, I1, r1, q1⟩ => ?_)
  obtain ⟨a, xs, ex, hx, q⟩ := q1
  subst ex
  cases r1
  have hst : PO X (some (.UnaryOp .USub (.Constant (.int 1) k p1) p2)) (tPart (tUn (rU fun i => .int (-i)) (tC (.int 1)))) := po_some (pe_un un_neg pe_int)
  refine wpAny_Slice (thn (po_none.run pins s1 σ H1 (fun o H2 => o = none ∧ H2 = H1) I1 ⟨rfl, rfl⟩) fun vl s2 ⟨l, H2, I2, pl, el, e2⟩ => ?_)
  subst el e2
  refine thn (po_none.run pins s2 σ H2 (fun o H3 => o = none ∧ H3 = H2) I2 ⟨rfl, rfl⟩) fun vu s3 ⟨u, H3, I3, pu, eu, e3⟩ => ?_
  subst eu e3
  refine thn (hst.run pins s3 σ H3 (fun o H4 => o = some (-1) ∧ H4 = H3) I3 ⟨1, rfl, -1, rfl, rfl, rfl⟩) fun vs s4 ⟨o, H4, I4, ps, eo, e4⟩ => ?_
  subst eo e4
  have I5 : Inv X pins σ H4 { s4 with heap := s4.heap.push { cls := .type "slice", data := .fields #[vl, vu, vs] } } := I4.kept (t' := s4.toks) fun b ob q => Heap.get?_push_of_some _ q
  obtain ⟨its, r, ht, hz⟩ := I5.tuple hx
  have hlen := r.length
  show wpAny (model X.prog X.w) X.A (subscriptTail e (.Slice none none (some (.UnaryOp .USub (.Constant (.int 1) k p1) p2)) p3) (.ref a) (.ref s4.heap.objs.size)) (EP X pins σ Q) X.xe { s4 with heap := s4.heap.push { cls := .type "slice", data := .fields #[vl, vu, vs] } }
  refine tail_any (ops := [.ref a, .ref s4.heap.objs.size]) ht.typeIs (PyProof.Rows.slot_tuple_getitem.lookup) ?_ (by with_unfolding_all rfl)
  refine HT.getItem_tuple_rev ht (Heap.IsSliceOf.new _ vl vu vs) pl pu ps ?_ (by rw [List.size_toArray]; omega)
  exact ⟨.ref _, _, laidT (t' := s4.toks) I5 r.reverse (by rw [List.length_reverse]; exact hz), rfl, q _ _ (I5.hok.fresh (Nat.le_refl _)) rfl⟩
end
/-! ### text * number -/
def rMulA : R2 := fun x y H Q => ∃ (i : Str) (n : Int), x = .str i ∧ y = .int n ∧ i.length = 1 ∧ -1000000 ≤ n ∧ n ≤ 1000 ∧ Q (.str (Txt.mul i n)) H
theorem op_mulA {X : Cx} : OpR X (binaryOp .Mult) rMulA := by
  intro pins s σ H x y v u Q I rx ry h
  obtain ⟨i, n, rfl, rfl, hz, n0, n1, q⟩ := h
  obtain ⟨t, rfl⟩ := rx
  obtain ⟨t', rfl⟩ := ry
  refine PySem.SB.mul ⟨?_, fun h1 _ => ?_, fun h1 _ => ?_⟩ fun t2 k => ⟨.str (Txt.mul i n), H, I.tok _, ⟨t2, rfl⟩, q⟩
  · rw [decide_eq_false (by omega), decide_eq_false (by omega)]
    rfl
  · rw [hz]
    have h2 : (9223372036854775807 : Int) / n ≥ 9223372036854775807 / 1000 := by
      rw [ge_iff_le, Int.le_ediv_iff_mul_le (by omega)]
      have : (9223372036854775807 / 1000 : Int) * n ≤ (9223372036854775807 / 1000) * 1000 := Int.mul_le_mul_of_nonneg_left n1 (by decide)
      omega
    have e : ((2 : Int) ^ 63 - 1) = 9223372036854775807 := by decide
    rw [e]
    omega
  · rw [hz]
    unfold Builtin.Str.tooLong
    rw [sizeLine_eq]
    exact decide_eq_false (by omega)
/-! ### a tuple many times -/
end Tn
/-! Readings of what draws by the hand: all but the hand stays. -/
namespace Sm
open PySem PySem.Spec PyProof.Rows L2 Tn Vd RZ Gd
def Live (a : Addr) (H : Hp) : Prop := ∃ xs, H a = some (.lst xs)
theorem Live.same {a : Addr} {H H' : Hp} (h : Live a H) (s : Same H H') : Live a H' := h.imp fun _ z => s _ _ z
theorem Live.ne {a p : Addr} {H : Hp} (h : Live a H) (n : H p = none) : p ≠ a := fun e => by
  obtain ⟨o, h⟩ := h
  rw [e, h] at n
  cases n
theorem HandC.live {H : Hp} {a c : Addr} (h : HandC H a c) : Live a H := by
  obtain ⟨cs, i, b, sd, n, z⟩ := h
  exact ⟨_, z.at_⟩
theorem keep_same {a : Addr} {H H' : Hp} (s : Same H H') : Keep a H H' := fun b o _ h => s b o h
theorem HandC.same {H H' : Hp} {a c : Addr} (h : HandC H a c) (k : Same H H') : HandC H' a c := by
  obtain ⟨cs, i, b, sd, n, x⟩ := h
  exact ⟨cs, i, b, sd, n, k _ _ x.at_, k _ _ x.cells, x.len, x.pos, x.i0, x.b0, x.s0, x.n0⟩
theorem HandC.set {H : Hp} {a c D : Addr} {o : HO} (h : HandC H a c) (n1 : D ≠ a) (n2 : D ≠ c) : HandC (upd H D o) a c := by
  obtain ⟨cs, i, b, sd, n, x⟩ := h
  exact ⟨cs, i, b, sd, n, by rw [upd_ne n1.symm]; exact x.at_, by rw [upd_ne n2.symm]; exact x.cells, x.len, x.pos, x.i0, x.b0, x.s0, x.n0⟩
theorem HandC.cne {H : Hp} {a c D : Addr} (h : HandC H a c) (n : H D = none) : D ≠ c := fun e => by
  obtain ⟨cs, i, b, sd, k, x⟩ := h
  have := x.cells
  rw [← e, n] at this
  cases this
section
variable {K : PySem.W.Frag} {a c : Addr} {H0 : Hp} {σ : L2.St}
theorem _root_.Vd.Dv.ky {H H' : Hp} {v : V} {d : PyData} (h : Dv a K H v d) (k : Keep a H H') : Dv a K H' v d := h.kp (kp_keep k)
theorem _root_.Vd.DvAll.ky {H H' : Hp} {v : List V} {d : List PyData} (h : DvAll a K H v d) (k : Keep a H H') : DvAll a K H' v d := DdAll.same (kp_keep k) h
theorem ofTup' {H : Hp} {v : V} {ds : List PyData} (h : Dv a K H v (.tuple ds)) : ∃ p xs, v = .ref p ∧ TupN (vis a H) p xs ∧ DvAll a K H xs ds := by
  cases h with
  | tup h1 h2 => exact ⟨_, _, rfl, h1, h2⟩
theorem tris_new {p : Addr} {o : Obj} {H : Hp} {xs : List V} {ds : List PyData} (hl : Live a H) (n : H p = none) (ho : o.dict = none) (x : DvAll a K H xs ds) : Dv a K (upd H p (.frz o (.tup xs))) (.ref p) (.tuple ds) :=
  Dd.tup ⟨o, vis_at upd_same (hl.ne n) (fun _ z => nomatch z), ho⟩ (x.kp (kp_up n))
/-! ### readings that give some data of which R holds -/
def YE (a c : Addr) (K : PySem.W.Frag) (H0 : Hp) (σ : L2.St) (t : TE) (R : PyData → Prop) : Prop := ∀ (H : Hp) (Q : VK), HandC H a c → Keep a H0 H → (∀ v d H', R d → HandC H' a c → Keep a H H' → Dv a K H' v d → Q v H') → t σ H Q
/-- arguments, of which a property of all of them holds -/
def YH (a c : Addr) (K : PySem.W.Frag) (H0 : Hp) (σ : L2.St) (t : TA) (R : List PyData → Prop) : Prop := ∀ (H : Hp) (Q : List V → Hp → Prop), HandC H a c → Keep a H0 H → (∀ vs ds H', R ds → HandC H' a c → Keep a H H' → DvAll a K H' vs ds → Q vs H') → t σ H Q
/-- a draw below m -/
def YD (a c : Addr) (H0 : Hp) (σ : L2.St) (t : TE) (m : Int) : Prop := ∀ (H : Hp) (Q : VK), HandC H a c → Keep a H0 H → (∀ (d : Int) H', 0 ≤ d → d < m → HandC H' a c → Keep a H H' → Q (.int d) H') → t σ H Q
/-- a whole number, nothing changes -/
def YI (σ : L2.St) (t : TE) (i : Int) : Prop := ∀ (H : Hp) (Q : VK), Q (.int i) H → t σ H Q
variable {R R' : PyData → Prop} {RL : List PyData → Prop}
theorem yi_c {i : Int} : YI σ (tC (.int i)) i := fun _ _ q => q
theorem yi_var {k : Nat} {i : Int} (h : σ[k]? = some (some (.int i))) : YI σ (tVar k) i := fun _ _ q => ⟨_, h, q⟩
theorem yi_neg {t : TE} {i : Int} (h : YI σ t i) : YI σ (tUn (rU fun i => .int (-i)) t) (-i) := fun H Q q => h H _ ⟨_, rfl, q⟩
theorem yi_add {t u : TE} {i j : Int} (h : YI σ t i) (h' : YI σ u j) : YI σ (tOp (rI0 fun i j => .int (i + j)) t u) (i + j) := fun H Q q => h H _ (h' H _ ⟨_, _, rfl, rfl, q⟩)
theorem yi_sub {t u : TE} {i j : Int} (h : YI σ t i) (h' : YI σ u j) : YI σ (tOp (rI0 fun i j => .int (i - j)) t u) (i - j) := fun H Q q => h H _ (h' H _ ⟨_, _, rfl, rfl, q⟩)
theorem yi_pow {t u : TE} {i j : Int} (h : YI σ t i) (h' : YI σ u j) (hc : CPow i j := by exact ⟨by decide, by decide, by decide⟩) : YI σ (tOp (rI CPow fun i j => .int (i ^ j.toNat)) t u) (i ^ j.toNat) := fun H Q q => h H _ (h' H _ ⟨_, _, rfl, rfl, hc, q⟩)
theorem YE.imp {t : TE} (h : YE a c K H0 σ t R) (i : ∀ d, R d → R' d) : YE a c K H0 σ t R' := fun H Q hh k q => h H Q hh k fun v d H' r => q v d H' (i d r)
theorem YH.imp {t : TA} {RL' : List PyData → Prop} (h : YH a c K H0 σ t RL) (i : ∀ d, RL d → RL' d) : YH a c K H0 σ t RL' := fun H Q hh k q => h H Q hh k fun v d H' r => q v d H' (i d r)
theorem ye_int {t : TE} {i : Int} (h : YI σ t i) (r : R (.int i)) : YE a c K H0 σ t R := fun H Q hh k q => h H Q (q _ _ H r hh .refl (.int i))
theorem ye_bl {i : Bool} (r : R (.bool i)) : YE a c K H0 σ (tC (.bl i)) R := fun H Q hh k q => q _ _ H r hh .refl (.bl i)
theorem ye_str {i : Str} (r : R (.str i)) : YE a c K H0 σ (tC (.str i)) R := fun H Q hh k q => q _ _ H r hh .refl (.str i)
theorem ye_non (r : R .none) : YE a c K H0 σ (tC .non) R := fun H Q hh k q => q _ _ H r hh .refl .non
theorem ye_var {i : Nat} {v : V} {d : PyData} (h : σ[i]? = some (some v)) (hd : Dv a K H0 v d) (r : R d) : YE a c K H0 σ (tVar i) R := fun H Q hh k q => ⟨v, h, q v d H r hh .refl (hd.ky k)⟩
theorem ye_draw {t : TE} {m : Int} (h : YD a c H0 σ t m) (r : ∀ d, 0 ≤ d → d < m → R (.int d)) : YE a c K H0 σ t R := fun H Q hh k q => h H Q hh k fun d H' d0 d1 hh' k' => q _ _ H' (r d d0 d1) hh' k' (.int d)
theorem yd_draw {i : Nat} {t : TE} {m : Int} (hσ : σ[i]? = some (some (.ref a))) (h : YI σ t m) (m0 : 0 < m) (m1 : m < 1073741824) : YD a c H0 σ (tCall spDraw [] E0 (tCons (tVar i) (tCons t tNil))) m := fun H Q hh k q =>
  ⟨_, hσ, h H _ ⟨a, c, m, rfl, hh, m0, m1, q⟩⟩
/-- data told by a look: nothing but new things -/
theorem ye_yv {t : TE} {d : PyData} (h : ∀ H, Keep a H0 H → YV K t σ H d) (r : R d) (hv : ∀ {H : Hp} {v : V}, Live a H → Dd K H v d → Dv a K H v d) : YE a c K H0 σ t R := fun H Q hh k q => h H k H Q (Same.refl H) fun v H2 s hd => q v d H2 r (hh.same s) (keep_same s) (hv (hh.live.same s) hd)
theorem yh_nil : YH a c K H0 σ tNil (fun ds => ds = []) := fun H Q hh k q => q [] [] H rfl hh .refl .nil
theorem yh_cons {t : TE} {ta : TA} (h : YE a c K H0 σ t R) (ha : YH a c K H0 σ ta RL) : YH a c K H0 σ (tCons t ta) (fun ds => ∃ d r, ds = d :: r ∧ R d ∧ RL r) := fun H Q hh k q =>
  h H _ hh k fun v d H1 z hh1 k1 hd => ha H1 _ hh1 (k.trans k1) fun vs ds H2 zs hh2 k2 hds => q (v :: vs) (d :: ds) H2 ⟨d, ds, rfl, z, zs⟩ hh2 (k1.trans k2) (.cons (hd.ky k2) hds)
/-- n things of one property -/
def All (n : Nat) (R : PyData → Prop) (ds : List PyData) : Prop := ds.length = n ∧ ∀ d ∈ ds, R d
theorem ya_nil : YH a c K H0 σ tNil (All 0 R) := yh_nil.imp fun ds e => ⟨by rw [e]; rfl, by rw [e]; exact fun _ z => nomatch z⟩
theorem ya_cons {t : TE} {ta : TA} {n : Nat} (h : YE a c K H0 σ t R) (ha : YH a c K H0 σ ta (All n R)) : YH a c K H0 σ (tCons t ta) (All (n + 1) R) := (yh_cons h ha).imp fun ds e => by
  obtain ⟨d, r, rfl, h1, h2, h3⟩ := e
  exact ⟨by rw [List.length_cons, h2], fun x m => by
    rcases List.mem_cons.mp m with rfl | m
    · exact h1
    · exact h3 x m⟩
theorem ye_tup {ta : TA} (ha : YH a c K H0 σ ta RL) (hz : ∀ ds, RL ds → ds.length ≤ 4000) (h : ∀ ds, RL ds → R (.tuple ds)) : YE a c K H0 σ (tTupF ta) R := fun H Q hh k q =>
  ha H _ hh k fun vs ds H1 zs hh1 k1 hds => ⟨by rw [dall_len hds, sizeLine_eq]; have := hz ds zs; omega, fun p o hp ho => q _ (.tuple ds) _ (h ds zs) (hh1.same (same_up hp)) (k1.trans (keep_same (same_up hp))) (tris_new hh1.live hp ho hds)⟩
theorem ye_lst {ta : TA} (ha : YH a c K H0 σ ta RL) (hz : ∀ ds, RL ds → ds.length ≤ 4000) (h : ∀ ds, RL ds → R (.list ds)) : YE a c K H0 σ (tLstN ta) R := fun H Q hh k q =>
  ha H _ hh k fun vs ds H1 zs hh1 k1 hds => ⟨by rw [dall_len hds, sizeLine_eq]; have := hz ds zs; omega, fun p hp hn => q _ (.list ds) _ (h ds zs) (hh1.same (same_up hp)) (k1.trans (keep_same (same_up hp))) (Dv.lst upd_same (hh1.live.ne hp) hn (hds.kp (kp_up hp)))⟩
theorem ye_dict0 (r : R (.dict [])) : YE a c K H0 σ tDNewK R := fun H Q hh k q p hp => q _ (.dict []) _ r (hh.same (same_up hp)) (keep_same (same_up hp)) (Dd.dct (vis_at upd_same (hh.live.ne hp) fun _ z => nomatch z) .nil)
/-- a list of such things -/
structure LD (a : Addr) (K : PySem.W.Frag) (H : Hp) (L : Addr) (n : Nat) (R : PyData → Prop) : Prop where
  ex : ∃ vs ds, H L = some (.lst vs) ∧ DvAll a K H vs ds ∧ vs.length = n ∧ ∀ d ∈ ds, R d
  ne : L ≠ a
theorem LD.ky {H H' : Hp} {L : Addr} {n : Nat} (h : LD a K H L n R) (k : Keep a H H') : LD a K H' L n R := by
  obtain ⟨⟨vs, ds, h1, h2, h3, h4⟩, ne⟩ := h
  exact ⟨⟨vs, ds, k _ _ ne h1, h2.ky k, h3, h4⟩, ne⟩
theorem ld_lst {ta : TA} {n : Nat} {H : Hp} {Q : VK} (ha : YH a c K H0 σ ta (All n R)) (hh : HandC H a c) (k : Keep a H0 H) (hn : n ≤ 4000) (q : ∀ L H', HandC H' a c → Keep a H H' → LD a K H' L n R → Q (.ref L) H') : tLst ta σ H Q :=
  ha H _ hh k fun vs ds H1 zs hh1 k1 hds => ⟨by rw [dall_len hds, zs.1, sizeLine_eq]; omega, fun p hp => q p _ (hh1.same (same_up hp)) (k1.trans (keep_same (same_up hp))) ⟨⟨vs, ds, upd_same, hds.kp (kp_up hp), by rw [dall_len hds, zs.1], zs.2⟩, hh1.live.ne hp⟩⟩
theorem ld_cat {i n m : Nat} {L : Addr} {ta : TA} {H : Hp} {Q : VK} (hσ : σ[i]? = some (some (.ref L))) (hL : LD a K H L n R) (ha : YH a c K H0 σ ta (All m R)) (hh : HandC H a c) (k : Keep a H0 H) (hn : n + m ≤ 4000) (q : ∀ L' H', HandC H' a c → Keep a H H' → LD a K H' L' (n + m) R → Q (.ref L') H') :
    tOp rCat (tVar i) (tLst ta) σ H Q := ⟨_, hσ, ld_lst (n := m) ha hh k (by omega) fun L2 H1 hh1 k1 l2 => by
  obtain ⟨⟨vs, ds, h1, h2, h3, h4⟩, ne⟩ := hL.ky k1
  obtain ⟨⟨us, es, g1, g2, g3, g4⟩, ne2⟩ := l2
  refine ⟨L, L2, _, _, rfl, rfl, h1, g1, by rw [h3, g3, sizeLine_eq]; omega, fun p hp => q p _ (hh1.same (same_up hp)) (k1.trans (keep_same (same_up hp))) ⟨⟨_, ds ++ es, upd_same, (DvAll.kp (dall_app h2 g2) (kp_up hp)), by rw [List.length_append, h3, g3], fun d hd => ?_⟩, hh1.live.ne hp⟩⟩
  rcases List.mem_append.mp hd with hd | hd
  · exact h4 d hd
  · exact g4 d hd⟩
theorem ld_some {H : Hp} {L : Addr} {n : Nat} {Q : VK} {E : XK} (hL : LD a K H L n R) (hh : HandC H a c) (h0 : 0 < n) (h1 : n ≤ 1000) (q : ∀ v d H', R d → HandC H' a c → Keep a H H' → Dv a K H' v d → Q v H') : spSome K [.ref a, .ref L] H Q E := by
  obtain ⟨⟨vs, ds, e1, e2, e3, e4⟩, ne⟩ := hL
  refine ⟨a, c, L, vs, rfl, hh, ne, SqL.of e1, by omega, by omega, fun x H' hx hh' k => ?_⟩
  obtain ⟨d, hd1, hd2⟩ := dall_mem e2 hx
  exact q x d H' (e4 d hd1) hh' k (Dv.ky hd2 k)
/-- _law_some(hand, [..]) -/
theorem ye_some {i n : Nat} {ta : TA} (hσ : σ[i]? = some (some (.ref a))) (ha : YH a c K H0 σ ta (All n R)) (h0 : 0 < n := by decide) (h1 : n ≤ 1000 := by decide) : YE a c K H0 σ (tCall (spSome K) [] E0 (tCons (tVar i) (tCons (tLst ta) tNil))) R := fun H Q hh k q =>
  ⟨_, hσ, ld_lst (n := n) ha hh k (by omega) fun L H1 hh1 k1 l1 => ld_some (E := E0) l1 hh1 h0 h1 fun v d H2 r hh2 k2 hd => q v d H2 r hh2 (k1.trans k2) hd⟩
theorem ye_somev {i j n : Nat} {L : Addr} (hσ : σ[i]? = some (some (.ref a))) (hL : σ[j]? = some (some (.ref L))) (l : LD a K H0 L n R) (h0 : 0 < n) (h1 : n ≤ 1000) : YE a c K H0 σ (tCall (spSome K) [] E0 (tCons (tVar i) (tCons (tVar j) tNil))) R := fun H Q hh k q =>
  ⟨_, hσ, _, hL, ld_some (E := E0) (l.ky k) hh h0 h1 q⟩
/-- a call of a def that draws -/
def spY (K : PySem.W.Frag) (R : PyData → Prop) : Sp := fun vs H Q _ => ∃ a c : Addr, vs = [.ref a] ∧ HandC H a c ∧ ∀ v d H', R d → HandC H' a c → Keep a H H' → Dv a K H' v d → Q v H'
theorem spY_len {x : Str} : ∀ vs H Q E, spY K R vs H Q E → vs.length = [x].length := fun vs H Q E h => by
  obtain ⟨a, c, rfl, _⟩ := h
  rfl
theorem ye_call {i : Nat} (hσ : σ[i]? = some (some (.ref a))) : YE a c K H0 σ (tCall (spY K R) [] E0 (tCons (tVar i) tNil)) R := fun H Q hh k q => ⟨_, hσ, a, c, rfl, hh, q⟩
/-- a call of a def that draws, about a thing: what is told stands in R to it -/
def spZ (K : PySem.W.Frag) (F : PyData → Prop) (R : PyData → PyData → Prop) : Sp := fun vs H Q _ => ∃ (a c : Addr) (u : V) (e : PyData), vs = [.ref a, u] ∧ HandC H a c ∧ Dv a K H u e ∧ F e ∧ ∀ v d H', R e d → HandC H' a c → Keep a H H' → Dv a K H' v d → Q v H'
theorem spZ_len {F : PyData → Prop} {R : PyData → PyData → Prop} {x y : Str} : ∀ vs H Q E, spZ K F R vs H Q E → vs.length = [x, y].length := fun vs H Q E h => by
  obtain ⟨a, c, u, e, rfl, _⟩ := h
  rfl
theorem ye_z {F : PyData → Prop} {R2 : PyData → PyData → Prop} {i : Nat} {t : TE} (hσ : σ[i]? = some (some (.ref a))) (h : YE a c K H0 σ t F) : YE a c K H0 σ (tCall (spZ K F R2) [] E0 (tCons (tVar i) (tCons t tNil))) (fun d => ∃ e, F e ∧ R2 e d) := fun H Q hh k q =>
  ⟨_, hσ, h H _ hh k fun u e H1 fe hh1 k1 he => ⟨a, c, u, e, rfl, hh1, he, fe, fun v d H2 r hh2 k2 hd => q v d H2 ⟨e, fe, r⟩ hh2 (k1.trans k2) hd⟩⟩
theorem ye_zv {F : PyData → Prop} {R2 : PyData → PyData → Prop} {i j : Nat} {u : V} {e : PyData} (hσ : σ[i]? = some (some (.ref a))) (hj : σ[j]? = some (some u)) (he : Dv a K H0 u e) (fe : F e) : YE a c K H0 σ (tCall (spZ K F R2) [] E0 (tCons (tVar i) (tCons (tVar j) tNil))) (R2 e) := fun H Q hh k q =>
  ⟨_, hσ, _, hj, a, c, u, e, rfl, hh, he.ky k, fe, q⟩
end
/-! ### sizes -/
mutual
def iLe (B : Nat) : PyData → Bool
  | .int i => decide (i.natAbs ≤ B)
  | .list ds => iLeL B ds
  | .tuple ds => iLeL B ds
  | _ => true
def iLeL (B : Nat) : List PyData → Bool
  | [] => true
  | d :: r => iLe B d && iLeL B r
end
theorem iLeL_mem {B : Nat} : ∀ {ds : List PyData} {d : PyData}, iLeL B ds = true → d ∈ ds → iLe B d = true
  | x :: r, d, h, m => by
    unfold iLeL at h
    obtain ⟨h1, h2⟩ := Bool.and_eq_true_iff.mp h
    rcases List.mem_cons.mp m with rfl | m
    · exact h1
    · exact iLeL_mem h2 m
theorem iLeL_of {B : Nat} : ∀ {ds : List PyData}, (∀ d ∈ ds, iLe B d = true) → iLeL B ds = true
  | [], _ => by unfold iLeL; rfl
  | x :: r, h => by
    unfold iLeL
    rw [h x List.mem_cons_self, iLeL_of fun d m => h d (List.mem_cons_of_mem _ m)]
    rfl
mutual
theorem iLe_mono {B C : Nat} (h : B ≤ C) : ∀ (d : PyData), iLe B d = true → iLe C d = true
  | .int i, e => by
    unfold iLe at e ⊢
    exact decide_eq_true (Nat.le_trans (of_decide_eq_true e) h)
  | .list ds, e => by
    unfold iLe at e ⊢
    exact iLeL_mono h ds e
  | .tuple ds, e => by
    unfold iLe at e ⊢
    exact iLeL_mono h ds e
  | .none, _ => by unfold iLe; rfl
  | .bool b, _ => by unfold iLe; rfl
  | .str x, _ => by unfold iLe; rfl
  | .dict kvs, _ => by unfold iLe; rfl
theorem iLeL_mono {B C : Nat} (h : B ≤ C) : ∀ (ds : List PyData), iLeL B ds = true → iLeL C ds = true
  | [], _ => by unfold iLeL; rfl
  | d :: r, e => by
    unfold iLeL at e ⊢
    obtain ⟨h1, h2⟩ := Bool.and_eq_true_iff.mp e
    rw [iLe_mono h d h1, iLeL_mono h r h2]
    rfl
end
/-- data of at most that size and depth, with whole numbers not beyond -/
structure Bd (n k b : Nat) (d : PyData) : Prop where
  ok : aOk d = true
  sz : szD d ≤ n
  dp : d.depth ≤ k
  ib : iLe (10 ^ 30 + b) d = true
theorem Bd.mono {n k b n' k' b' : Nat} {d : PyData} (h : Bd n k b d) (hn : n ≤ n') (hk : k ≤ k') (hb : b ≤ b') : Bd n' k' b' d := ⟨h.ok, Nat.le_trans h.sz hn, Nat.le_trans h.dp hk, iLe_mono (by omega) d h.ib⟩
theorem Bd.okD {n k b : Nat} {d : PyData} (h : Bd n k b d) (hn : n ≤ 1000000) : Sm.okD d = true := by
  unfold Sm.okD
  rw [h.ok, decide_eq_true (Nat.le_trans h.sz hn)]
  rfl
theorem Bd.okR {n k b : Nat} {d : PyData} (h : Bd n k b d) (hn : n ≤ 1000000) (hk : k ≤ 100) : Sm.okR d := ⟨h.okD hn, Nat.le_trans h.dp hk⟩
theorem bd_int {i : Int} {b : Nat} (h : i.natAbs ≤ 10 ^ 30 + b) (hb : b ≤ 1000) : Bd 70 0 b (.int i) := ⟨by
  unfold aOk
  exact decide_eq_true (Nat.lt_of_le_of_lt h (Nat.lt_of_le_of_lt (Nat.add_le_add_left hb _) (by decide))), by unfold szD; exact Nat.le_refl _, Nat.le_refl _, by unfold iLe; exact decide_eq_true h⟩
theorem bd_str {x : Str} {n b : Nat} (h : x.cps.toList.all sgnOk = true) (hn : x.length ≤ n) : Bd (10 * n + 5) 0 b (.str x) := ⟨by unfold aOk; exact h, by unfold szD; omega, Nat.le_refl _, by unfold iLe; rfl⟩
theorem bd_non {b : Nat} : Bd 6 0 b .none := ⟨by unfold aOk; rfl, by unfold szD; exact Nat.le_refl _, Nat.le_refl _, by unfold iLe; rfl⟩
theorem bd_bool {c : Bool} {b : Nat} : Bd 6 0 b (.bool c) := ⟨by unfold aOk; rfl, by unfold szD; exact Nat.le_refl _, Nat.le_refl _, by unfold iLe; rfl⟩
theorem bd_dict {b : Nat} : Bd 6 1 b (.dict []) := ⟨by unfold aOk; rfl, by unfold szD; exact Nat.le_refl _, by decide, by unfold iLe; rfl⟩
theorem depthAll_le {k : Nat} : ∀ {ds : List PyData}, (∀ d ∈ ds, d.depth ≤ k) → PyData.depthAll ds ≤ k
  | [], _ => Nat.zero_le _
  | d :: r, h => Nat.max_le.mpr ⟨h d List.mem_cons_self, depthAll_le fun x m => h x (List.mem_cons_of_mem _ m)⟩
theorem bd_tupL {n k b : Nat} {ds : List PyData} (h : ∀ d ∈ ds, aOk d = true ∧ d.depth ≤ k ∧ iLe (10 ^ 30 + b) d = true) (hl : szL ds + 5 ≤ n) : Bd n (k + 1) b (.tuple ds) := ⟨by unfold aOk; exact aOkL_of fun d z => (h d z).1, by unfold szD; exact hl, Nat.succ_le_succ (depthAll_le fun d z => (h d z).2.1), by unfold iLe; exact iLeL_of fun d z => (h d z).2.2⟩
theorem bd_listL {n k b : Nat} {ds : List PyData} (h : ∀ d ∈ ds, aOk d = true ∧ d.depth ≤ k ∧ iLe (10 ^ 30 + b) d = true) (hl : szL ds + 5 ≤ n) : Bd n (k + 1) b (.list ds) := ⟨by unfold aOk; exact aOkL_of fun d z => (h d z).1, by unfold szD; exact hl, Nat.succ_le_succ (depthAll_le fun d z => (h d z).2.1), by unfold iLe; exact iLeL_of fun d z => (h d z).2.2⟩
theorem szL_le {n : Nat} : ∀ {ds : List PyData}, (∀ d ∈ ds, szD d ≤ n) → szL ds ≤ ds.length * (n + 5)
  | [], _ => by rw [szL_nil]; exact Nat.zero_le _
  | d :: r, h => by
    have h1 := h d List.mem_cons_self
    have h2 := szL_le (ds := r) fun x m => h x (List.mem_cons_of_mem _ m)
    rw [szL_cons, List.length_cons, Nat.add_mul, Nat.one_mul]
    omega
theorem bd_tup {n k b m : Nat} {ds : List PyData} (h : ∀ d ∈ ds, Bd n k b d) (hl : ds.length ≤ m) : Bd (m * (n + 5) + 5) (k + 1) b (.tuple ds) := bd_tupL (fun d z => ⟨(h d z).ok, (h d z).dp, (h d z).ib⟩) (by
  have h1 := szL_le fun d z => (h d z).sz
  have h2 : ds.length * (n + 5) ≤ m * (n + 5) := Nat.mul_le_mul_right _ hl
  omega)
theorem bd_list {n k b m : Nat} {ds : List PyData} (h : ∀ d ∈ ds, Bd n k b d) (hl : ds.length ≤ m) : Bd (m * (n + 5) + 5) (k + 1) b (.list ds) := bd_listL (fun d z => ⟨(h d z).ok, (h d z).dp, (h d z).ib⟩) (by
  have h1 := szL_le fun d z => (h d z).sz
  have h2 : ds.length * (n + 5) ≤ m * (n + 5) := Nat.mul_le_mul_right _ hl
  omega)
theorem Bd.parts {n k b : Nat} {ds : List PyData} (h : Bd n k b (.tuple ds)) : szL ds + 5 ≤ n ∧ 1 ≤ k ∧ ∀ d ∈ ds, aOk d = true ∧ d.depth ≤ k - 1 ∧ iLe (10 ^ 30 + b) d = true := by
  have h1 := h.ok
  have h2 := h.sz
  have h3 : PyData.depthAll ds + 1 ≤ k := h.dp
  have h4 := h.ib
  unfold aOk at h1
  unfold szD at h2
  unfold iLe at h4
  exact ⟨h2, by omega, fun d m => ⟨aOkL_mem h1 m, by have := depth_mem m; omega, iLeL_mem h4 m⟩⟩
end Sm
namespace Sm
open PySem PySem.Spec PyProof.Rows L2 Tn Vd RZ Gd
section
variable {P : Program} {w : World} {K : PySem.W.Frag} {mg : Str → Option Value} {base : Heap}
abbrev DDraw (P : Program) (w : World) (K : PySem.W.Frag) (mg : Str → Option Value) (base : Heap) : Prop := Df P w K mg base "_law_draw" 1 ["hand", "many"] spDraw
abbrev DSome (P : Program) (w : World) (K : PySem.W.Frag) (mg : Str → Option Value) (base : Heap) : Prop := Df P w K mg base "_law_some" 2 ["hand", "things"] (spSome K)
abbrev DY (P : Program) (w : World) (K : PySem.W.Frag) (mg : Str → Option Value) (base : Heap) (x : Str) (k : Nat) (R : PyData → Prop) : Prop := Df P w K mg base x k ["hand"] (spY K R)
theorem ts_asg {te : TE} {m : Nat} {u : TS} {D : Ends} {σ : L2.St} {H : Hp} (h : te σ H fun x H1 => u D (σ.set m (some x)) H1) : tSeq (tAsg te (gName m)) u D σ H := h
/-! ### _law_deep, _law_odd -/
abbrev sDeep : Stmt := top 70
abbrev sOdd : Stmt := top 80
theorem scDeep : FnScope ["hand", "thing", "turn"] ["hand", "thing"] (defScope sDeep) := ⟨rfl, rfl, rfl, by decide +kernel, rfl, by decide +kernel, by decide +kernel⟩
theorem bd_one {n k b : Nat} {d : PyData} (h : Bd n k b d) : Bd (n + 10) (k + 1) b (.tuple [d]) := by
  have := bd_tup (m := 1) (ds := [d]) (fun x m => by rw [List.mem_singleton.mp m]; exact h) (Nat.le_refl _)
  exact this.mono (by omega) (Nat.le_refl _) (Nat.le_refl _)
theorem bd_oneL {n k b : Nat} {d : PyData} (h : Bd n k b d) : Bd (n + 10) (k + 1) b (.list [d]) := by
  have := bd_list (m := 1) (ds := [d]) (fun x m => by rw [List.mem_singleton.mp m]; exact h) (Nat.le_refl _)
  exact this.mono (by omega) (Nat.le_refl _) (Nat.le_refl _)
def OneR (R : PyData → Prop) (ds : List PyData) : Prop := ∃ d, ds = [d] ∧ R d
theorem yh_one {a c : Addr} {H0 : Hp} {σ : L2.St} {t : TE} {R : PyData → Prop} (h : YE a c K H0 σ t R) : YH a c K H0 σ (tCons t tNil) (OneR R) := (yh_cons h yh_nil).imp fun ds e => by
  obtain ⟨d, r, rfl, h1, rfl⟩ := e
  exact ⟨d, rfl, h1⟩
theorem OneR.len {R : PyData → Prop} {ds : List PyData} (h : OneR R ds) : ds.length ≤ 4000 := by
  obtain ⟨d, rfl, _⟩ := h
  show 1 ≤ 4000
  decide
theorem ok_deep {f : Addr} {fd : FuncData} (F : FnP K "_law_deep" sDeep f fd) (M : Nm mg) (DD : DDraw P w K mg base) (DS : DSome P w K mg base) : FnOk P w K mg base CX0 3 f fd ["hand", "thing"] (spZ K (Bd 70 0 0) fun _ => Bd 330 26 0) := by
  refine F.ok scDeep spZ_len (fun cdv A outer s H vs Q E hr h => ?_)
  obtain ⟨a, c, u, e, rfl, hh, he, hb, q⟩ := h
  refine ⟨_, PSs.nox (pss_cons (ps_for PassesOwn.never rfl (pi_range1 (by rfl) M.range (pa_cons (pe_op op_add pe_int (pe_df DD hr (by decide) (pa_cons (pv 0) (pa_cons pe_int pa_nil)))) pa_nil)) (pg_name (i := 2) scDeep.nd rfl (Or.inl rfl)) (pss_one (ps_set (i := 1) scDeep.nd rfl (Or.inl rfl) (pe_df DS hr (by decide) (pa_cons (pv 0) (pa_cons (pe_lst (pa_cons (pe_tupF (pa_cons (pv 1) pa_nil)) (pa_cons (pe_lstN (pa_cons (pv 1) pa_nil)) pa_nil))) pa_nil))))))
      (pss_one (ps_ret (pv 1)))), ?_⟩
  refine ⟨_, rfl, a, c, _, rfl, hh, by decide, by decide, fun n H2 n0 n1 hh2 k2 => ?_⟩
  refine ⟨_, _, rfl, rfl, _, rfl, by omega, by omega, ?_⟩
  refine for_range (lo := 0) (n := (16 + n).toNat) (fun i σ H' => HandC H' a c ∧ Keep a H H' ∧ ∃ v d x2, σ = [some (.ref a), some v, x2] ∧ Dv a K H' v d ∧ Bd (70 + 10 * i) i 0 d) ⟨hh2, k2, u, e, none, rfl, he.ky k2, hb⟩ (fun i σ H' hi z => ?_) (fun σ H' z => ?_)
  · obtain ⟨hh3, k3, v, d, x2, rfl, hd, r⟩ := z
    refine ye_some (a := a) (c := c) (K := K) (H0 := H') (n := 2) (R := Bd (70 + 10 * (i + 1)) (i + 1) 0) rfl (ya_cons (ye_tup (yh_one (ye_var rfl hd r)) (fun _ z => z.len) fun ds z => ?_) (ya_cons (ye_lst (yh_one (ye_var rfl hd r)) (fun _ z => z.len) fun ds z => ?_) ya_nil)) (by decide) (by decide) H' _ hh3 .refl fun v d H4 r hh4 k4 hd => ?_
    · obtain ⟨d', rfl, h'⟩ := z
      exact (bd_one h').mono (by omega) (Nat.le_refl _) (Nat.le_refl _)
    · obtain ⟨d', rfl, h'⟩ := z
      exact (bd_oneL h').mono (by omega) (Nat.le_refl _) (Nat.le_refl _)
    · exact ⟨hh4, k3.trans k4, v, d, _, rfl, hd, r⟩
  · obtain ⟨hh3, k3, v, d, x2, rfl, hd, r⟩ := z
    exact ⟨_, rfl, q v d H' (r.mono (by omega) (by omega) (Nat.le_refl _)) hh3 k3 hd⟩
abbrev Odd : PyData → Prop := Bd 400 30 0
theorem od_str {x : Str} (h : x.cps.toList.all sgnOk = true) (hn : x.length ≤ 10) : Odd (.str x) := (bd_str h hn).mono (by decide) (by decide) (Nat.le_refl _)
theorem od_int {i : Int} (h : i.natAbs ≤ 10 ^ 30) : Odd (.int i) := (bd_int (b := 0) h (by decide)).mono (by decide) (by decide) (Nat.le_refl _)
theorem od_non : Odd .none := bd_non.mono (by decide) (by decide) (Nat.le_refl _)
theorem od_bool {b : Bool} : Odd (.bool b) := bd_bool.mono (by decide) (by decide) (Nat.le_refl _)
theorem od_dict : Odd (.dict []) := bd_dict.mono (by decide) (by decide) (Nat.le_refl _)
theorem od_0 : Odd (.int 0) := od_int (Nat.zero_le _)
theorem od_m : Odd (.int (-1)) := od_int (show 1 ≤ 10 ^ 30 by decide)
theorem od_1000 : Odd (.int 1000) := od_int (show 1000 ≤ 10 ^ 30 by decide)
theorem big_eq : (10 : Int) ^ (30 : Int).toNat = ((10 ^ 30 : Nat) : Int) := by decide +kernel
theorem od_big : Odd (.int ((10 : Int) ^ (30 : Int).toNat)) := by
  rw [big_eq]
  exact od_int (by rw [Int.natAbs_natCast]; exact Nat.le_refl _)
theorem ye_pow30 {K : PySem.W.Frag} {a c : Addr} {H0 : Hp} {σ : L2.St} : YE a c K H0 σ (tOp (rI CPow fun i j => .int (i ^ j.toNat)) (tC (.int 10)) (tC (.int 30))) Odd := fun H Q hh k q => ⟨_, _, rfl, rfl, ⟨by decide, by decide, by decide⟩, q _ _ H od_big hh .refl (.int _)⟩
theorem od_e : Odd (.str "") := od_str (by decide +kernel) (by decide +kernel)
theorem od_rule : Odd (.str "rule") := od_str (by decide +kernel) (by decide +kernel)
theorem od_word : Odd (.str "word") := od_str (by decide +kernel) (by decide +kernel)
theorem od_bag : Odd (.str "bag") := od_str (by decide +kernel) (by decide +kernel)
theorem bd_zero : Bd 70 0 0 (.int 0) := bd_int (Nat.zero_le _) (by decide)
theorem od_t0 : Odd (.tuple []) := (bd_tup (n := 0) (k := 0) (b := 0) (m := 0) (ds := []) (fun _ z => nomatch z) (Nat.le_refl _)).mono (by decide) (by decide) (Nat.le_refl _)
theorem od_l0 : Odd (.list []) := (bd_list (n := 0) (k := 0) (b := 0) (m := 0) (ds := []) (fun _ z => nomatch z) (Nat.le_refl _)).mono (by decide) (by decide) (Nat.le_refl _)
theorem od_one {d : PyData} (h : Bd 6 0 0 d) : Odd (.tuple [d]) := (bd_one h).mono (by decide) (by decide) (Nat.le_refl _)
theorem od_deep {d : PyData} (h : Bd 330 26 0 d) : Odd d := h.mono (by decide) (by decide) (Nat.le_refl _)
theorem scOdd : FnScope ["hand", "some"] ["hand"] (defScope sOdd) := ⟨rfl, rfl, rfl, by decide +kernel, rfl, by decide +kernel, by decide +kernel⟩
theorem ok_odd {f : Addr} {fd : FuncData} (F : FnP K "_law_odd" sOdd f fd) (M : Nm mg) (DS : DSome P w K mg base) (DP : Df P w K mg base "_law_deep" 3 ["hand", "thing"] (spZ K (Bd 70 0 0) fun _ => Bd 330 26 0)) : FnOk P w K mg base CX0 4 f fd ["hand"] (spY K Odd) := by
  refine F.ok scOdd spY_len (fun cdv A outer s H vs Q E hr h => ?_)
  obtain ⟨a, c, rfl, hh, q⟩ := h
  refine ⟨_, PSs.nox (pss_cons (ps_set (i := 1) scOdd.nd rfl (Or.inl rfl) (pe_lst (pa_cons pe_non (pa_cons pe_int (pa_cons (pe_un un_neg pe_int) (pa_cons pe_bl (pa_cons pe_str (pa_cons pe_str (pa_cons pe_str (pa_cons (pe_tupF pa_nil) (pa_cons (pe_lstN pa_nil) (pa_cons pe_dnewK (pa_cons (pe_tupF (pa_cons pe_non pa_nil)) (pa_cons pe_str (pa_cons (pe_op op_pow pe_int pe_int) (pa_cons pe_int (pa_cons (pe_df DP hr (by decide) (pa_cons (pv 0) (pa_cons pe_int pa_nil))) pa_nil)))))))))))))))))
      (pss_one (ps_ret (pe_df DS hr (by decide) (pa_cons (pv 0) (pa_cons (pv 1) pa_nil)))))), ?_⟩
  refine ts_asg ?_
  refine ld_lst (a := a) (c := c) (K := K) (H0 := H) (n := 15) (R := Odd) (ya_cons (ye_non od_non) (ya_cons (ye_int yi_c od_0) (ya_cons (ye_int (yi_neg yi_c) od_m) (ya_cons (ye_bl od_bool) (ya_cons (ye_str od_e) (ya_cons (ye_str od_rule) (ya_cons (ye_str od_word) (ya_cons (ye_tup yh_nil (fun _ e => by rw [e]; exact Nat.zero_le _) fun ds e => by rw [e]; exact od_t0) (ya_cons (ye_lst yh_nil (fun _ e => by rw [e]; exact Nat.zero_le _) fun ds e => by rw [e]; exact od_l0) (ya_cons (ye_dict0 od_dict) (ya_cons (ye_tup (yh_one (ye_non (bd_non (b := 0)))) (fun _ z => z.len) fun ds z => ?_) (ya_cons (ye_str od_bag) (ya_cons ye_pow30 (ya_cons (ye_int yi_c od_1000) (ya_cons (YE.imp (ye_z (F := Bd 70 0 0) rfl (ye_int yi_c bd_zero)) fun d z => ?_) ya_nil))))))))))))))) hh .refl (by decide) fun L1 H1 hh1 k1 l1 => ?_
  · obtain ⟨d', rfl, h'⟩ := z
    exact od_one h'
  · obtain ⟨e, _, h'⟩ := z
    exact od_deep h'
  · exact ye_somev (a := a) (c := c) (K := K) (H0 := H1) (R := Odd) rfl rfl l1 (by decide) (by decide) H1 _ hh1 .refl fun v d H2 r hh2 k2 hd => q v d H2 r hh2 (k1.trans k2) hd
end
end Sm
namespace Sm
open PySem PySem.Spec PyProof.Rows L2 Tn Vd RZ Gd
/-- list(t), a new place that is not the modules' -/
def rListN (K : PySem.W.Frag) : List V → Hp → VK → Prop := fun xs H Q => ∃ (p : Addr) (zs : List V), xs = [.ref p] ∧ SqT K H p zs ∧ ∀ l, H l = none → l ≠ sysModules → Q (.ref l) (upd H l (.lst zs))
theorem call_listN {X : Cx} : CallR X (.type "list") (rListN X.K) := by
  intro pins s σ H xs us Q I r h
  obtain ⟨p, ys, rfl, hq, q⟩ := h
  obtain ⟨u, rfl, rx⟩ := vals1 r
  cases rx
  obtain ⟨its, r', pl, hz⟩ := I.tuple hq
  have hlen := r'.length
  obtain ⟨o, ho, hc, n, hd⟩ := pl
  exact call_list_seq p (.inr rfl) ho hc hd (fun h' c' kp e => ⟨.ref s.heap.objs.size, _, I.laid (t' := s.toks) kp (Nat.le_refl _) (show ObjOk X.prog X.w _ h' _ (.lst ys) from ⟨hz, its, c', r', e⟩), rfl, q _ (I.hok.fresh (Nat.le_refl _)) (Nat.ne_of_gt I.big)⟩) (by simp only [List.size_toArray] <;> omega)
section
variable {P : Program} {w : World} {K : PySem.W.Frag} {mg : Str → Option Value} {base : Heap}
abbrev sBent : Stmt := top 81
abbrev sNear : Stmt := top 82
theorem scBent : FnScope ["hand", "thing", "at", "way"] ["hand", "thing"] (defScope sBent) := ⟨rfl, rfl, rfl, by decide +kernel, rfl, by decide +kernel, by decide +kernel⟩
theorem scNear : FnScope ["hand", "thing", "some"] ["hand", "thing"] (defScope sNear) := ⟨rfl, rfl, rfl, by decide +kernel, rfl, by decide +kernel, by decide +kernel⟩
def spBent (K : PySem.W.Frag) (k : Nat) : Sp := fun vs H Q _ => ∃ (a c : Addr) (u : V) (e : PyData) (n b : Nat), vs = [.ref a, u] ∧ HandC H a c ∧ Dv a K H u e ∧ Bd n k b e ∧ n ≤ 100000 ∧ b ≤ 100 ∧ ∀ v d H', Bd (3 * n + 2000) (k + 31) (b + 1) d → HandC H' a c → Keep a H H' → Dv a K H' v d → Q v H'
theorem spBent_len {k : Nat} {x y : Str} : ∀ vs H Q E, spBent K k vs H Q E → vs.length = [x, y].length := fun vs H Q E h => by
  obtain ⟨a, c, u, e, n, b, rfl, _⟩ := h
  rfl
section
variable {a c : Addr} {H0 : Hp} {σ : L2.St} {R : PyData → Prop}
/-- slices, joins, turns of the things of a tuple -/
def TupR (RL : List PyData → Prop) (d : PyData) : Prop := ∃ ds, d = .tuple ds ∧ RL ds
theorem yo_no' : ∀ H (Q : Option Int → Hp → Prop), Q none H → tNoPart σ H Q := fun _ _ z => z
theorem yo_some' {t : TE} {i : Int} (h : YI σ t i) : ∀ H (Q : Option Int → Hp → Prop), Q (some i) H → tPart t σ H Q := fun H _ z => h H _ ⟨_, rfl, z⟩
theorem ye_sl {i : Nat} {v : V} {ds es : List PyData} {tl th : TO} {lo hi : Option Int} (h : σ[i]? = some (some v)) (hd : Dv a K H0 v (.tuple ds)) (hl : ∀ H (Q : Option Int → Hp → Prop), Q lo H → tl σ H Q) (hu : ∀ H (Q : Option Int → Hp → Prop), Q hi H → th σ H Q)
    (hx : ∀ xs : List V, xs.length = ds.length → (HT.sIx xs.length 0 lo = 0 ∧ HT.sIx xs.length xs.length hi = xs.length → es = ds)) (hy : ∀ (H' : Hp) (xs : List V), DdAll K H' xs ds → DdAll K H' (cutV xs lo hi) es) : YE a c K H0 σ (tSl (rSlF K) (tVar i) tl th) (TupR fun x => x = es) := fun H Q hh k q =>
  ⟨v, h, hl H _ (hu H _ (by
    obtain ⟨p1, xs1, rfl, t1, g1⟩ := ofTup' (hd.ky k)
    refine ⟨p1, xs1, rfl, (tupN_vis t1).sq, fun w => ?_, fun _ p o hp ho => ?_⟩
    · exact q _ (.tuple ds) H ⟨ds, rfl, (hx xs1 (dall_len g1) w).symm⟩ hh .refl (hd.ky k)
    · exact q _ (.tuple es) _ ⟨es, rfl, rfl⟩ (hh.same (same_up hp)) (keep_same (same_up hp)) (tris_new hh.live hp ho (hy _ _ g1))))⟩
theorem cut_take {n : Nat} {α : Type} (xs : List V) : cutV xs none (some (n : Int)) = xs.take n := by
  have e : HT.sIx xs.length xs.length (some (n : Int)) = min n xs.length := HT.sIx_nat _ _ n
  unfold cutV
  rw [e, HT.sIx_none, List.drop_zero, Nat.sub_zero]
  by_cases h : n ≤ xs.length
  · rw [show min n xs.length = n by omega]
  · rw [List.take_of_length_le (by omega), List.take_of_length_le (by omega)]
theorem cut_drop {n : Nat} (xs : List V) : cutV xs (some (n : Int)) none = xs.drop n := by
  have e : HT.sIx xs.length 0 (some (n : Int)) = min n xs.length := HT.sIx_nat _ _ n
  unfold cutV
  rw [e, HT.sIx_none]
  by_cases h : n ≤ xs.length
  · rw [show min n xs.length = n by omega]
    exact List.take_of_length_le (by rw [List.length_drop]; exact Nat.le_refl _)
  · rw [show min n xs.length = xs.length by omega, List.drop_of_length_le (Nat.le_refl _), List.drop_of_length_le (by omega), List.take_nil]
theorem cut_one {n : Nat} (xs : List V) (h : n < xs.length) : cutV xs (some (n : Int)) (some ((n : Int) + 1)) = (xs.drop n).take 1 := by
  have e : HT.sIx xs.length 0 (some (n : Int)) = min n xs.length := HT.sIx_nat _ _ n
  have e2 : HT.sIx xs.length xs.length (some ((n + 1 : Nat) : Int)) = min (n + 1) xs.length := HT.sIx_nat _ _ (n + 1)
  unfold cutV
  rw [e, show ((n : Int) + 1) = ((n + 1 : Nat) : Int) by omega, e2, show min n xs.length = n by omega, show min (n + 1) xs.length = n + 1 by omega, show n + 1 - n = 1 by omega]
theorem ye_take {i n : Nat} {v : V} {ds : List PyData} {t : TE} (h : σ[i]? = some (some v)) (hd : Dv a K H0 v (.tuple ds)) (ht : YI σ t (n : Int)) (hn : n ≤ ds.length) : YE a c K H0 σ (tSl (rSlF K) (tVar i) tNoPart (tPart t)) (TupR fun x => x = ds.take n) :=
  ye_sl h hd yo_no' (yo_some' ht) (fun xs hl w => by
    have e : HT.sIx xs.length xs.length (some (n : Int)) = min n xs.length := HT.sIx_nat _ _ n
    rw [e] at w
    exact List.take_of_length_le (by omega)) fun H' xs hx => by rw [cut_take (α := Unit)]; exact dall_take n hx
theorem ye_drop {i n : Nat} {v : V} {ds : List PyData} {t : TE} (h : σ[i]? = some (some v)) (hd : Dv a K H0 v (.tuple ds)) (ht : YI σ t (n : Int)) (hn : n ≤ ds.length) : YE a c K H0 σ (tSl (rSlF K) (tVar i) (tPart t) tNoPart) (TupR fun x => x = ds.drop n) :=
  ye_sl h hd (yo_some' ht) yo_no' (fun xs hl w => by
    have e : HT.sIx xs.length 0 (some (n : Int)) = min n xs.length := HT.sIx_nat _ _ n
    rw [e] at w
    have hn0 : n = 0 := by omega
    rw [hn0]
    rfl) fun H' xs hx => by rw [cut_drop]; exact dall_drop n hx
theorem ye_one1 {i n : Nat} {v : V} {ds : List PyData} {t u : TE} (h : σ[i]? = some (some v)) (hd : Dv a K H0 v (.tuple ds)) (ht : YI σ t (n : Int)) (hu : YI σ u ((n : Int) + 1)) (hn : n < ds.length) : YE a c K H0 σ (tSl (rSlF K) (tVar i) (tPart t) (tPart u)) (TupR fun x => x = (ds.drop n).take 1) :=
  ye_sl h hd (yo_some' ht) (yo_some' hu) (fun xs hl w => by
    have e : HT.sIx xs.length 0 (some (n : Int)) = min n xs.length := HT.sIx_nat _ _ n
    have e2 : HT.sIx xs.length xs.length (some ((n + 1 : Nat) : Int)) = min (n + 1) xs.length := HT.sIx_nat _ _ (n + 1)
    rw [show ((n : Int) + 1) = ((n + 1 : Nat) : Int) by omega, e, e2] at w
    have hn0 : n = 0 := by omega
    rw [hn0, List.drop_zero]
    exact List.take_of_length_le (by omega)) fun H' xs hx => by rw [cut_one xs (by rw [dall_len hx]; exact hn)]; exact dall_take 1 (dall_drop n hx)
theorem ye_catF {t u : TE} {R1 R2 : List PyData → Prop} (h : YE a c K H0 σ t (TupR R1)) (h' : YE a c K H0 σ u (TupR R2)) (hz : ∀ x y, R1 x → R2 y → x.length + y.length ≤ 1000000) : YE a c K H0 σ (tOp (rCatF K) t u) (TupR fun z => ∃ x y, R1 x ∧ R2 y ∧ z = x ++ y) := fun H Q hh k q =>
  h H _ hh k fun v1 d1 H1 r1 hh1 k1 e1 => h' H1 _ hh1 (k.trans k1) fun v2 d2 H2 r2 hh2 k2 e2 => by
    obtain ⟨x, rfl, r1⟩ := r1
    obtain ⟨y, rfl, r2⟩ := r2
    have e1' := e1.ky k2
    obtain ⟨p1, xs1, rfl, t1, g1⟩ := ofTup' e1'
    obtain ⟨p2, xs2, rfl, t2, g2⟩ := ofTup' e2
    have z1 := dall_len g1
    have z2 := dall_len g2
    have z3 := hz x y r1 r2
    refine ⟨p1, p2, xs1, xs2, rfl, rfl, (tupN_vis t1).sq, (tupN_vis t2).sq, by rw [z1, z2, sizeLine_eq]; omega, fun e => ?_, fun _ e => ?_, fun _ _ p o hp ho => ?_⟩
    · refine q _ (.tuple y) H2 ⟨y, rfl, x, y, r1, r2, ?_⟩ hh2 (k1.trans k2) e2
      rw [e] at z1
      rw [List.eq_nil_of_length_eq_zero z1.symm, List.nil_append]
    · refine q _ (.tuple x) H2 ⟨x, rfl, x, y, r1, r2, ?_⟩ hh2 (k1.trans k2) e1'
      rw [e] at z2
      rw [List.eq_nil_of_length_eq_zero z2.symm, List.append_nil]
    · exact q _ (.tuple (x ++ y)) _ ⟨_, rfl, x, y, r1, r2, rfl⟩ (hh2.same (same_up hp)) ((k1.trans k2).trans (keep_same (same_up hp))) (tris_new hh2.live hp ho (dall_app g1 g2))
theorem dall_rev {H : Hp} : ∀ {vs : List V} {ds : List PyData}, DdAll K H vs ds → DdAll K H vs.reverse ds.reverse
  | _, _, .nil => .nil
  | _, _, .cons r t => by
    rw [List.reverse_cons, List.reverse_cons]
    exact dall_app (dall_rev t) (.cons r .nil)
theorem ye_rev {i : Nat} {v : V} {ds : List PyData} (h : σ[i]? = some (some v)) (hd : Dv a K H0 v (.tuple ds)) : YE a c K H0 σ (tRevT K (tVar i)) (TupR fun x => x = ds.reverse) := fun H Q hh k q => by
  obtain ⟨p1, xs1, rfl, t1, g1⟩ := ofTup' (hd.ky k)
  exact ⟨_, h, p1, xs1, rfl, (tupN_vis t1).sq, fun p o hp ho => q _ _ _ ⟨_, rfl, rfl⟩ (hh.same (same_up hp)) (keep_same (same_up hp)) (tris_new hh.live hp ho (dall_rev g1))⟩
theorem ye_listN {i : Nat} {v : V} {ds : List PyData} (h : σ[i]? = some (some v)) (hd : Dv a K H0 v (.tuple ds)) (r : R (.list ds)) : YE a c K H0 σ (tCB (rListN K) (tCons (tVar i) tNil)) R := fun H Q hh k q => by
  obtain ⟨p1, xs1, rfl, t1, g1⟩ := ofTup' (hd.ky k)
  exact ⟨_, h, p1, xs1, rfl, (tupN_vis t1).sq, fun p hp hn => q _ (.list ds) _ r (hh.same (same_up hp)) (keep_same (same_up hp)) (Dv.lst upd_same (hh.live.ne hp) hn (DvAll.kp g1 (kp_up hp)))⟩
end
theorem szL_take {n : Nat} : ∀ (ds : List PyData), szL (ds.take n) + szL (ds.drop n) = szL ds := fun ds => by
  rw [← szL_app, List.take_append_drop]
theorem szL_rev : ∀ (ds : List PyData), szL ds.reverse = szL ds
  | [] => rfl
  | d :: r => by
    rw [List.reverse_cons, szL_app, szL_rev r, szL_cons, szL_cons, szL_nil]
    omega
end
end Sm
namespace Sm
open PySem PySem.Spec PyProof.Rows L2 Tn Vd RZ Gd
section
variable {P : Program} {w : World} {K : PySem.W.Frag} {mg : Str → Option Value} {base : Heap}
theorem kTSI {K : PySem.W.Frag} (d : PyData) : PySem.W.kitAny K (.type (tyD d)) [.type "tuple", .type "str", .type "int"] = some (isT d || (isS d || isI d)) := by
  refine kitAny_cons (kit_ty (kT d)) (fun e => ?_) (fun e => by rw [e]; rfl)
  rw [e, Bool.false_or]
  refine kitAny_cons (kit_ty (kS d)) (fun e2 => ?_) (fun e2 => by rw [e2]; rfl)
  rw [e2, Bool.false_or]
  refine kitAny_cons (kit_ty (kI d)) (fun e3 => ?_) (fun e3 => e3)
  rw [e3]
  rfl
theorem yi_suc {σ : L2.St} {k j : Nat} (h : σ[k]? = some (some (.int (j : Int)))) : YI σ (tOp (rI0 fun i j => .int (i + j)) (tVar k) (tC (.int 1))) ((j + 1 : Nat) : Int) := fun H Q q => ⟨_, h, _, _, rfl, rfl, by show Q (V.int ((j : Int) + 1)) H; rw [show (j : Int) + 1 = ((j + 1 : Nat) : Int) by omega]; exact q⟩
abbrev OddT (K : PySem.W.Frag) : TE := tCall (spY K Odd) [] E0 (tCons (tVar 0) tNil)
abbrev SelfL (K : PySem.W.Frag) : TE := tIf (tB (tCB (rIsi K) (tCons (tVar 1) (tCons (tC (.ty "tuple")) tNil)))) (tCB (rListN K) (tCons (tVar 1) tNil)) (tLstN (tCons (tVar 1) tNil))
abbrev Ret1 (K : PySem.W.Frag) : TE := tCall (spSome K) [] E0 (tCons (tVar 0) (tCons (tLst (tCons (OddT K) (tCons (OddT K) (tCons (SelfL K) tNil)))) tNil))
theorem bd_of_odd {n k b : Nat} {d : PyData} (h : Odd d) : Bd (3 * n + 2000) (k + 31) (b + 1) d := h.mono (by omega) (by omega) (by omega)
theorem ret1 {a c : Addr} {H0 : Hp} {σ : L2.St} {u : V} {e : PyData} {n k b : Nat} (h0 : σ[0]? = some (some (.ref a))) (h1 : σ[1]? = some (some u)) (he : Dv a K H0 u e) (hb : Bd n k b e) : YE a c K H0 σ (Ret1 K) (Bd (3 * n + 2000) (k + 31) (b + 1)) := by
  refine ye_some (n := 3) h0 (ya_cons ((ye_call h0).imp fun d z => bd_of_odd z) (ya_cons ((ye_call h0).imp fun d z => bd_of_odd z) (ya_cons (fun H Q hh k1 q => ?_) ya_nil))) (by decide) (by decide)
  refine ⟨_, h1, _, _, _, _, _, rfl, .ty _, tyx (he.ky k1).dd, kit_ty (kT e), _, rfl, tst (fun e1 => ?_) fun e1 => ?_⟩
  · obtain ⟨ds, rfl⟩ := isT_of e1
    obtain ⟨z1, z2, z3⟩ := hb.parts
    exact ye_listN (H0 := H) (R := Bd (3 * n + 2000) (k + 31) (b + 1)) h1 (he.ky k1) (by
      have := bd_listL (n := n) (k := k - 1) (b := b) z3 z1
      exact this.mono (by omega) (by omega) (by omega)) H Q hh .refl q
  · exact ye_lst (H0 := H) (yh_one (ye_var (R := Bd n k b) h1 (he.ky k1) hb)) (fun _ z => z.len) (fun ds z => by
      obtain ⟨d', rfl, h'⟩ := z
      exact (bd_oneL h').mono (by omega) (by omega) (by omega)) H Q hh .refl q
/-- joins of parts of a tuple -/
theorem bd_parts {n k b : Nat} {ds es : List PyData} {m r : Nat} (h : Bd n k b (.tuple ds)) (hs : szL es + 5 ≤ 3 * n + 2000) (hm : ∀ d ∈ es, d ∈ ds ∨ (aOk d = true ∧ d.depth ≤ k + 30 ∧ iLe (10 ^ 30 + (b + 1)) d = true)) : Bd (3 * n + 2000) (k + 31) (b + 1) (.tuple es) := by
  obtain ⟨z1, z2, z3⟩ := h.parts
  refine bd_tupL (k := k + 30) (fun d m => ?_) hs
  rcases hm d m with h1 | h1
  · obtain ⟨a1, a2, a3⟩ := z3 d h1
    exact ⟨a1, by omega, iLe_mono (by omega) d a3⟩
  · exact h1
def nearB (e : PyData) : Bool := isT e || (isS e || intD e)
def spNear (K : PySem.W.Frag) (k : Nat) : Sp := fun vs H Q _ => ∃ (a c : Addr) (u : V) (e : PyData) (n b : Nat), vs = [.ref a, u] ∧ HandC H a c ∧ Dv a K H u e ∧ nearB e = true ∧ Bd n k b e ∧ n ≤ 100000 ∧ b ≤ 100 ∧ ∀ v d H', Bd (3 * n + 2000) (k + 31) (b + 1) d → HandC H' a c → Keep a H H' → Dv a K H' v d → Q v H'
theorem ok_bent {f : Addr} {fd : FuncData} (F : FnP K "_law_bent" sBent f fd) (M : Nm mg) (DD : DDraw P w K mg base) (DS : DSome P w K mg base) (DO : DY P w K mg base "_law_odd" 4 Odd) {lv k : Nat} (h4 : 4 ≤ lv) {spN : Sp} (DN : Df P w K mg base "_law_near" lv ["hand", "thing"] spN)
    (hN : ∀ vs H Q E, 1 ≤ k → spNear K (k - 1) vs H Q E → spN vs H Q E) : FnOk P w K mg base CX0 (lv + 1) f fd ["hand", "thing"] (spBent K k) := by
  refine F.ok scBent spBent_len (fun cdv A outer s H vs Q E hr h => ?_)
  obtain ⟨a, c, u, e, n, b, rfl, hh, he, hb, hn, hbb, q⟩ := h
  refine ⟨_, PSs.nox (pss_cons (ps_if (PW.pt (pw_or (pt_not (pt_val (pe_callB (id := "isinstance") (r := rIsi K) call_isi (by rfl) M.isinstance (by decide +kernel) (pa_cons (pv 1) (pa_cons (ty_cls (n := "tuple") M.tuple (by rfl) (by decide +kernel)) pa_nil))))) (pw_or (pt_cmpR op_eq (pe_callB call_len_seq (by rfl) M.len PySem.boot_len (pa_cons (pv 1) pa_nil)) pe_int (nomark _)) (pw_or1 (pt_cmpR op_eq (pe_df DD hr (by omega) (pa_cons (pv 0) (pa_cons pe_int pa_nil))) pe_int (nomark _)))))) (pss_one (ps_ret (pe_df DS hr (by omega) (pa_cons (pv 0) (pa_cons (pe_lst (pa_cons (pe_df DO hr (by omega) (pa_cons (pv 0) pa_nil)) (pa_cons (pe_df DO hr (by omega) (pa_cons (pv 0) pa_nil)) (pa_cons (pe_ifExp (pt_val (pe_callB (id := "isinstance") (r := rIsi K) call_isi (by rfl) M.isinstance (by decide +kernel) (pa_cons (pv 1) (pa_cons (ty_cls (n := "tuple") M.tuple (by rfl) (by decide +kernel)) pa_nil)))) (pe_callTy (r := rListN K) call_listN (by rfl) M.list (by decide +kernel) (pa_cons (pv 1) pa_nil)) (pe_lstN (pa_cons (pv 1) pa_nil))) pa_nil)))) pa_nil))))) pss_nil)
      (pss_cons (ps_par (i := 2) (j := 3) (by rfl) scBent.nd rfl rfl (by decide) rfl rfl (pa_cons (pe_df DD hr (by omega) (pa_cons (pv 0) (pa_cons (pe_callB call_len_seq (by rfl) M.len PySem.boot_len (pa_cons (pv 1) pa_nil)) pa_nil))) (pa_cons (pe_df DD hr (by omega) (pa_cons (pv 0) (pa_cons pe_int pa_nil))) pa_nil)) (by rfl))
      (pss_cons (ps_if (pt_cmpR op_eq (pv 3) pe_int (nomark _)) (pss_one (ps_ret (pe_op (r := rCatF K) op_catF (pe_slice (r := rSlF K) sl_tupF (pv 1) po_none (po_some (pv 2))) (pe_slice (r := rSlF K) sl_tupF (pv 1) (po_some (pe_op op_add (pv 2) pe_int)) po_none)))) pss_nil)
      (pss_cons (ps_if (pt_cmpR op_eq (pv 3) pe_int (nomark _)) (pss_one (ps_ret (pe_op (r := rCatF K) op_catF (pe_op (r := rCatF K) op_catF (pe_slice (r := rSlF K) sl_tupF (pv 1) po_none (po_some (pv 2))) (pe_slice (r := rSlF K) sl_tupF (pv 1) (po_some (pv 2)) (po_some (pe_op op_add (pv 2) pe_int)))) (pe_slice (r := rSlF K) sl_tupF (pv 1) (po_some (pv 2)) po_none)))) pss_nil)
      (pss_cons (ps_if (pt_cmpR op_eq (pv 3) pe_int (nomark _)) (pss_one (ps_ret (pe_revT (pv 1)))) pss_nil)
      (pss_cons (ps_if (PW.pt (pw_or (pt_cmpR op_eq (pv 3) pe_int (nomark _)) (pw_or (pt_not (pt_val (pe_callB (id := "isinstance") (r := rIsiT K) call_isiT (by rfl) M.isinstance (by decide +kernel) (pa_cons (pe_ix ix_tup (pv 1) (pv 2) (fun _ _ => rfl)) (pa_cons (pe_tup (pa_cons (ty_cls (n := "tuple") M.tuple (by rfl) (by decide +kernel)) (pa_cons (ty_cls (n := "str") M.str (by rfl) (by decide +kernel)) (pa_cons (ty_cls (n := "int") M.int (by rfl) (by decide +kernel)) pa_nil)))) pa_nil))))) (pw_or1 (pt_val (pe_callB (id := "isinstance") (r := rIsi K) call_isi (by rfl) M.isinstance (by decide +kernel) (pa_cons (pe_ix ix_tup (pv 1) (pv 2) (fun _ _ => rfl)) (pa_cons (ty_cls (n := "bool") M.bool (by rfl) (by decide +kernel)) pa_nil)))))))) (pss_one (ps_ret (pe_op (r := rCatF K) op_catF (pe_op (r := rCatF K) op_catF (pe_slice (r := rSlF K) sl_tupF (pv 1) po_none (po_some (pv 2))) (pe_tupF (pa_cons (pe_df DO hr (by omega) (pa_cons (pv 0) pa_nil)) pa_nil))) (pe_slice (r := rSlF K) sl_tupF (pv 1) (po_some (pe_op op_add (pv 2) pe_int)) po_none)))) pss_nil)
      (pss_one (ps_ret (pe_op (r := rCatF K) op_catF (pe_op (r := rCatF K) op_catF (pe_slice (r := rSlF K) sl_tupF (pv 1) po_none (po_some (pv 2))) (pe_tupF (pa_cons (pe_df DN hr (by omega) (pa_cons (pv 0) (pa_cons (pe_ix ix_tup (pv 1) (pv 2) (fun _ _ => rfl)) pa_nil))) pa_nil))) (pe_slice (r := rSlF K) sl_tupF (pv 1) (po_some (pe_op op_add (pv 2) pe_int)) po_none)))))))))), ?_⟩
  have r1 : ∀ H1, HandC H1 a c → Keep a H H1 → Ret1 K (L2.start ["hand", "thing", "at", "way"] [.ref a, u]) H1 Q := fun H1 hh1 k1 => ret1 (H0 := H) rfl rfl he hb H1 Q hh1 k1 fun v d H2 z hh2 k2 hd => q v d H2 z hh2 (k1.trans k2) hd
  refine ⟨_, rfl, _, _, _, _, _, rfl, .ty _, tyx he.dd, kit_ty (kT e), _, rfl, tst (fun e1 => iteT (r1 H hh .refl)) fun e1 => ?_⟩
  obtain ⟨ds, rfl⟩ := isT_of (ofnot e1)
  obtain ⟨z1, z2, z3⟩ := hb.parts
  have zl := szL_len (ds := ds)
  obtain ⟨p1, xs1, rfl, t1, g1⟩ := ofTup' he
  have hl1 := dall_len g1
  refine ⟨_, rfl, p1, xs1, rfl, .inr (tupN_vis t1).sq, rfl, _, rfl, tst (fun e2 => iteT (r1 H hh .refl)) fun e2 => ?_⟩
  have hne : ds.length ≠ 0 := fun z => by
    rw [hl1, z] at e2
    cases e2
  refine ⟨_, rfl, a, c, _, rfl, hh, by decide, by decide, fun d1 H1 d10 d11 hh1 k1 => ⟨rfl, _, rfl, tst (fun e3 => r1 H1 hh1 k1) fun e3 => ?_⟩⟩
  have he1 := he.ky k1
  obtain ⟨p2, xs2, ep, t2, g2⟩ := ofTup' he1
  cases ep
  have hl2 := dall_len g2
  refine ⟨_, rfl, _, rfl, p1, xs2, rfl, .inr (tupN_vis t2).sq, a, c, _, rfl, hh1, by omega, by omega, fun at_ H2 at0 at1 hh2 k2 => ?_⟩
  refine ⟨_, rfl, a, c, _, rfl, hh2, by decide, by decide, fun way H3 w0 w1 hh3 k3 => ⟨_, _, rfl, ?_⟩⟩
  obtain ⟨j, rfl⟩ : ∃ j : Nat, at_ = (j : Int) := ⟨at_.toNat, by omega⟩
  have hj : j < ds.length := by omega
  have k13 := k1.trans (k2.trans k3)
  have he3 : Dv a K H3 (.ref p1) (.tuple ds) := he.ky k13
  have fin : ∀ {t : TE} {RL : List PyData → Prop} {σ : L2.St} {H4 : Hp}, HandC H4 a c → Keep a H H4 → YE a c K H4 σ t (TupR RL) → (∀ es, RL es → Bd (3 * n + 2000) (k + 31) (b + 1) (.tuple es)) → t σ H4 Q := fun {t RL σ H4} hh4 k4 ht hR => ht H4 Q hh4 .refl fun v d H5 z hh5 k5 hd => by
    obtain ⟨es, rfl, z⟩ := z
    exact q v _ H5 (hR es z) hh5 (k4.trans k5) hd
  have tk := szL_take (n := j) ds
  have tk1 := szL_take (n := j + 1) ds
  show tSeq _ _ _ [some (.ref a), some (.ref p1), some (.int (j : Int)), some (.int way)] H3
  refine ⟨_, rfl, rfl, _, rfl, tst (fun e4 => ?_) fun e4 => ?_⟩
  · refine fin hh3 k13 (ye_catF (ye_take rfl he3 (yi_var rfl) (by omega)) (ye_drop (n := j + 1) rfl he3 (yi_suc rfl) (by omega)) ?_) ?_
    · rintro _ _ rfl rfl
      rw [List.length_take, List.length_drop]
      omega
    · rintro _ ⟨_, _, rfl, rfl, rfl⟩
      refine bd_parts (m := 0) (r := 0) hb (by rw [szL_app]; omega) fun d m => .inl ?_
      rcases List.mem_append.mp m with m | m
      · exact List.mem_of_mem_take m
      · exact List.mem_of_mem_drop m
  refine ⟨_, rfl, rfl, _, rfl, tst (fun e5 => ?_) fun e5 => ?_⟩
  · refine fin hh3 k13 (ye_catF (ye_catF (ye_take rfl he3 (yi_var rfl) (by omega)) (ye_one1 (n := j) rfl he3 (yi_var rfl) (yi_add (yi_var rfl) yi_c) hj) ?_) (ye_drop rfl he3 (yi_var rfl) (by omega)) ?_) ?_
    · rintro _ _ rfl rfl
      rw [List.length_take, List.length_take, List.length_drop]
      omega
    · rintro _ _ ⟨_, _, rfl, rfl, rfl⟩ rfl
      rw [List.length_append, List.length_take, List.length_take, List.length_drop]
      omega
    · rintro _ ⟨_, _, ⟨_, _, rfl, rfl, rfl⟩, rfl, rfl⟩
      have tk2 := szL_take (n := 1) (ds.drop j)
      refine bd_parts (m := 0) (r := 0) hb (by rw [szL_app, szL_app]; omega) fun d m => .inl ?_
      rcases List.mem_append.mp m with m | m
      · rcases List.mem_append.mp m with m | m
        · exact List.mem_of_mem_take m
        · exact List.mem_of_mem_drop (List.mem_of_mem_take m)
      · exact List.mem_of_mem_drop m
  refine ⟨_, rfl, rfl, _, rfl, tst (fun e6 => ?_) fun e6 => ?_⟩
  · refine fin hh3 k13 (ye_rev rfl he3) ?_
    rintro _ rfl
    exact bd_parts (m := 0) (r := 0) hb (by rw [szL_rev]; omega) fun d m => .inl (List.mem_reverse.mp m)
  have swap : ∀ (d : PyData), aOk d = true → d.depth ≤ k + 30 → iLe (10 ^ 30 + (b + 1)) d = true → szD d ≤ 3 * szD (ds[j]) + 2000 → Bd (3 * n + 2000) (k + 31) (b + 1) (.tuple (ds.take j ++ [d] ++ ds.drop (j + 1))) := fun d h1 h2 h3 h5 => by
    have ej : ds.drop j = ds[j] :: ds.drop (j + 1) := List.drop_eq_getElem_cons hj
    have s1 : szL (ds.drop j) = szD ds[j] + 5 + szL (ds.drop (j + 1)) := by rw [ej, szL_cons]
    refine bd_parts (m := 0) (r := 0) hb (by rw [szL_app, szL_app, szL_cons, szL_nil]; omega) fun x m => ?_
    rcases List.mem_append.mp m with m | m
    · rcases List.mem_append.mp m with m | m
      · exact .inl (List.mem_of_mem_take m)
      · rw [List.mem_singleton.mp m]
        exact .inr ⟨h1, h2, h3⟩
    · exact .inl (List.mem_of_mem_drop m)
  have ret : ∀ {t : TE} {H4 : Hp} {R : PyData → Prop}, HandC H4 a c → Keep a H H4 → YE a c K H4 [some (.ref a), some (.ref p1), some (.int (j : Int)), some (.int way)] t R → (∀ d, R d → aOk d = true ∧ d.depth ≤ k + 30 ∧ iLe (10 ^ 30 + (b + 1)) d = true ∧ szD d ≤ 3 * szD (ds[j]) + 2000) →
      tOp (rCatF K) (tOp (rCatF K) (tSl (rSlF K) (tVar 1) tNoPart (tPart (tVar 2))) (tTupF (tCons t tNil))) (tSl (rSlF K) (tVar 1) (tPart (tOp (rI0 fun i j => .int (i + j)) (tVar 2) (tC (.int 1)))) tNoPart) [some (.ref a), some (.ref p1), some (.int (j : Int)), some (.int way)] H4 Q := fun {t H4 R} hh4 k4 ht hR => by
    have he4 : Dv a K H4 (.ref p1) (.tuple ds) := he.ky k4
    refine fin hh4 k4 (ye_catF (ye_catF (ye_take rfl he4 (yi_var rfl) (by omega)) (ye_tup (R := TupR (OneR R)) (yh_one ht) (fun _ z => z.len) fun ds z => ⟨ds, rfl, z⟩) ?_) (ye_drop (n := j + 1) rfl he4 (yi_suc rfl) (by omega)) ?_) ?_
    · rintro _ y rfl z
      have := z.len
      rw [List.length_take]
      omega
    · rintro _ _ ⟨_, y, rfl, z, rfl⟩ rfl
      have := z.len
      rw [List.length_append, List.length_take, List.length_drop]
      omega
    · rintro _ ⟨_, _, ⟨_, y, rfl, ⟨d, rfl, z⟩, rfl⟩, rfl, rfl⟩
      obtain ⟨h1, h2, h3, h5⟩ := hR d z
      exact swap d h1 h2 h3 h5
  have rodd : ∀ H4, HandC H4 a c → Keep a H H4 → tOp (rCatF K) (tOp (rCatF K) (tSl (rSlF K) (tVar 1) tNoPart (tPart (tVar 2))) (tTupF (tCons (OddT K) tNil))) (tSl (rSlF K) (tVar 1) (tPart (tOp (rI0 fun i j => .int (i + j)) (tVar 2) (tC (.int 1)))) tNoPart) [some (.ref a), some (.ref p1), some (.int (j : Int)), some (.int way)] H4 Q := fun H4 hh4 k4 => ret hh4 k4 (ye_call rfl) fun d z => ⟨z.ok, by have := z.dp; omega, iLe_mono (by omega) d z.ib, by have := z.sz; omega⟩
  have hel : ∀ {H4 : Hp}, Keep a H H4 → ∃ v, xs1[j]? = some v ∧ Dv a K H4 v ds[j] := fun {H4} k4 => by
    obtain ⟨v, hv, hdv⟩ := dall_at g1 (List.getElem?_eq_getElem hj)
    exact ⟨v, hv, Dv.ky hdv k4⟩
  have rix : ∀ {H4 : Hp} {Q' : VK}, Keep a H H4 → (∀ v, Dv a K H4 v ds[j] → Q' v H4) → tOp (rIxT K) (tVar 1) (tVar 2) [some (.ref a), some (.ref p1), some (.int (j : Int)), some (.int way)] H4 Q' := fun {H4 Q'} k4 q' => by
    obtain ⟨p3, xs3, ep, t3, g3⟩ := ofTup' (he.ky k4)
    cases ep
    obtain ⟨v, hv, hdv⟩ := dall_at g3 (List.getElem?_eq_getElem hj)
    exact ⟨_, rfl, _, rfl, p1, xs3, _, v, rfl, rfl, (tupN_vis t3).sq, atI_nat hv, q' v hdv⟩
  refine ⟨_, rfl, rfl, _, rfl, tst (fun e7 => iteT (rodd H3 hh3 k13)) fun e7 => ?_⟩
  refine rix k13 fun v3 hv3 => ?_
  refine ⟨by show 3 ≤ sizeLine; rw [sizeLine_eq]; decide, fun tp htp => ⟨_, tp, [.ty "tuple", .ty "str", .ty "int"], _, _, _, rfl, upd_same, .cons (.ty _) (.cons (.ty _) (.cons (.ty _) .nil)), tyx (hv3.dd.same (same_up htp)), kTSI ds[j], _, rfl, ?_⟩⟩
  have s4 : Same H3 (upd H3 tp (.tup [.ty "tuple", .ty "str", .ty "int"])) := same_up htp
  have hh4 := hh3.same s4
  have k14 := k13.trans (keep_same s4)
  generalize upd H3 tp (.tup [.ty "tuple", .ty "str", .ty "int"]) = H4 at s4 hh4 k14 ⊢
  refine tst (fun e8 => iteT (rodd H4 hh4 k14)) fun e8 => ?_
  refine rix k14 fun v4 hv4 => ⟨_, _, _, _, _, rfl, .ty _, tyx hv4.dd, kit_ty (kB ds[j]), _, rfl, tst (fun e9 => rodd H4 hh4 k14) fun e9 => ?_⟩
  refine ret (R := Bd (3 * szD ds[j] + 2000) (k - 1 + 31) (b + 1)) hh4 k14 (fun H5 Q' hh5 k5 q' => ?_) fun d z => ⟨z.ok, by have := z.dp; omega, z.ib, z.sz⟩
  refine ⟨_, rfl, rix (k14.trans k5) fun v5 hv5 => hN _ _ _ _ z2 ⟨a, c, v5, ds[j], szD ds[j], b, rfl, hh5, hv5, ?_, ?_, ?_, hbb, q'⟩⟩
  · have e10 := ofnot e8
    unfold nearB intD
    rw [e9]
    simpa using e10
  · obtain ⟨a1, a2, a3⟩ := z3 ds[j] (List.getElem_mem hj)
    exact ⟨a1, Nat.le_refl _, a2, a3⟩
  · have := szL_mem (List.getElem_mem hj)
    omega
theorem spNear_len {k : Nat} {x y : Str} : ∀ vs H Q E, spNear K k vs H Q E → vs.length = [x, y].length := fun vs H Q E h => by
  obtain ⟨a, c, u, e, n, b, rfl, _⟩ := h
  rfl
abbrev rAddS : R2 := fun x y H Q => ∃ i j, x = .str i ∧ y = .str j ∧ i.length + j.length ≤ sizeLine ∧ Q (.str (i ++ j)) H
section
variable {a c : Addr} {H0 : Hp} {σ : L2.St} {R : PyData → Prop}
/-- a text told, nothing changes -/
def YSx (σ : L2.St) (t : TE) (x : Str) : Prop := ∀ (H : Hp) (Q : VK), Q (.str x) H → t σ H Q
theorem ye_s {t : TE} {x : Str} (h : YSx σ t x) (r : R (.str x)) : YE a c K H0 σ t R := fun H Q hh k q => h H Q (q _ _ H r hh .refl (.str x))
theorem ysx_c {x : Str} : YSx σ (tC (.str x)) x := fun _ _ q => q
theorem ysx_var {i : Nat} {x : Str} (h : σ[i]? = some (some (.str x))) : YSx σ (tVar i) x := fun _ _ q => ⟨_, h, q⟩
theorem ysx_add {t u : TE} {x y : Str} (h : YSx σ t x) (h' : YSx σ u y) (hz : x.length + y.length ≤ 2000000) : YSx σ (tOp rAddS t u) (x ++ y) := fun H Q q => h H _ (h' H _ ⟨x, y, rfl, rfl, by rw [sizeLine_eq]; omega, q⟩)
theorem ysx_mul {t u : TE} {x : Str} {n : Int} (h : YSx σ t x) (h' : YI σ u n) (hz : x.length = 1) (h1 : -1000000 ≤ n) (h2 : n ≤ 1000) : YSx σ (tOp rMulA t u) (Txt.mul x n) := fun H Q q => h H _ (h' H _ ⟨x, n, rfl, rfl, hz, h1, h2, q⟩)
theorem ysx_init {i : Nat} {x : Str} {th : TE} (h : σ[i]? = some (some (.str x))) (hi : YI σ th (-1)) (hz : x.length ≤ 1000000) : YSx σ (tSl rSlS (tVar i) tNoPart (tPart th)) (cutS x none (some (-1))) := fun H Q q => ⟨_, h, hi H _ ⟨_, rfl, x, rfl, by rw [sizeLine_eq]; omega, q⟩⟩
theorem yi_lenS {i : Nat} {x : Str} (h : σ[i]? = some (some (.str x))) (hz : x.length ≤ 1000000) : YI σ (tCB (fun xs H Q => ∃ z : Str, xs = [.str z] ∧ z.length ≤ sizeLine ∧ Q (.int z.length) H) (tCons (tVar i) tNil)) x.length := fun H Q q => ⟨_, h, x, rfl, by rw [sizeLine_eq]; omega, q⟩
end
theorem app_sgn {x y : Str} (h : x.cps.toList.all sgnOk = true) (h' : y.cps.toList.all sgnOk = true) : (x ++ y).cps.toList.all sgnOk = true := by
  rw [cps_toList_append, List.all_append, h, h']
  rfl
theorem app_len {x y : Str} : (x ++ y).length = x.length + y.length := strLen_append x y
theorem mul_sgn {n : Int} : (Txt.mul ("x" : Str) n).cps.toList.all sgnOk = true ∧ (Txt.mul ("x" : Str) n).length = n.toNat := by
  have e : (Txt.mul ("x" : Str) n).cps.toList = List.replicate n.toNat 120 := by
    have h := mul_one_list 120 n
    have e2 : (⟨#[120]⟩ : Str) = ("x" : Str) := by decide
    rw [e2] at h
    exact h
  refine ⟨?_, ?_⟩
  · rw [e]
    exact List.all_eq_true.mpr fun x hx => by
      rw [List.eq_of_mem_replicate hx]
      rfl
  · show (Txt.mul ("x" : Str) n).cps.size = _
    rw [← Array.length_toList, e, List.length_replicate]
theorem mulA_sgn : (Txt.mul ("a" : Str) 9).cps.toList.all sgnOk = true ∧ (Txt.mul ("a" : Str) 9).length ≤ 21 := by decide +kernel
theorem cut_sgn {x : Str} (h : x.cps.toList.all sgnOk = true) : (cutS x none (some (-1))).cps.toList.all sgnOk = true ∧ (cutS x none (some (-1))).length ≤ x.length := by
  refine ⟨?_, cutS_length x _ _⟩
  unfold cutS
  exact List.all_eq_true.mpr fun c m => List.all_eq_true.mp h c (List.mem_of_mem_drop (List.mem_of_mem_take (by simpa using m)))
theorem near_str {x y : Str} {n k b : Nat} (hx : Bd n k b (.str x)) (hy : y.cps.toList.all sgnOk = true) (hl : y.length ≤ x.length + 100) : Bd (3 * n + 2000) (k + 31) (b + 1) (.str y) := by
  have h1 := hx.sz
  unfold szD at h1
  exact (bd_str (b := b) hy hl).mono (by omega) (by omega) (by omega)
theorem near_int {i : Int} {n k b : Nat} (h : i.natAbs ≤ 10 ^ 30 + (b + 1)) (hb : b ≤ 100) : Bd (3 * n + 2000) (k + 31) (b + 1) (.int i) := (bd_int h (by omega)).mono (by omega) (by omega) (Nat.le_refl _)
theorem int_sgn {i : Int} (h : i.natAbs < 10 ^ 60) : (Str.ofString (toString i)).cps.toList.all sgnOk = true ∧ (Str.ofString (toString i)).length ≤ 61 := by
  constructor
  · have e : (Str.ofString (toString i)).cps.toList = SC (.int i) := by
      unfold SC
      rw [PyData.shown_int]
    rw [e, sc_int]
    refine List.all_eq_true.mpr fun c m => ?_
    have key : c = 45 ∨ (48 ≤ c ∧ c ≤ 57) := by
      by_cases h1 : 0 ≤ i
      · rw [if_pos h1] at m
        exact .inr (digs_range m)
      · rw [if_neg h1] at m
        rcases List.mem_cons.mp m with m | m
        · exact .inl m
        · exact .inr (digs_range m)
    unfold sgnOk
    simp
    omega
  · have h1 := int_text_length_le10 (k := 60) (by decide) h
    rw [PySem.ofString_length]
    omega
end
end Sm
namespace Sm
open PySem PySem.Spec PyProof.Rows L2 Tn Vd RZ Gd
section
variable {P : Program} {w : World} {K : PySem.W.Frag} {mg : Str → Option Value} {base : Heap}
theorem ye_strI {a c : Addr} {H0 : Hp} {σ : L2.St} {R : PyData → Prop} {m : Nat} {i : Int} (h : σ[m]? = some (some (.int i))) (hl : i.natAbs.log2 < 1920) (r : R (.str (Str.ofString (toString i)))) : YE a c K H0 σ (tCB (fun xs H Q => ∃ i : Int, xs = [.int i] ∧ i.natAbs.log2 < 1920 ∧ Q (.str (toString i)) H) (tCons (tVar m) tNil)) R := fun H Q hh k q => ⟨_, h, i, rfl, hl, q _ _ H r hh .refl (.str _)⟩
theorem ye_eq1 {a c : Addr} {H0 : Hp} {σ : L2.St} {R : PyData → Prop} {m : Nat} {i : Int} (h : σ[m]? = some (some (.int i))) (r : ∀ b, R (.bool b)) : YE a c K H0 σ (tOp rEq (tVar m) (tC (.int 1))) R := fun H Q hh k q => ⟨_, h, rfl, q _ (.bool _) H (r _) hh .refl (.bl _)⟩
theorem ts_nx {te : TE} {m : Nat} {u : TS} {D : Ends} {r : VK} {b c : L2.St → Hp → Prop} {σ : L2.St} {H : Hp} (h : te σ H fun x H1 => u D (σ.set m (some x)) H1) : tNext { nx := tSeq (tAsg te (gName m)) u D, rt := r, bk := b, ct := c } σ H := h
theorem p1020 : (10 : Int) ^ (20 : Int).toNat = 100000000000000000000 := by decide +kernel
theorem ok_near {f : Addr} {fd : FuncData} (F : FnP K "_law_near" sNear f fd) (M : Nm mg) (DS : DSome P w K mg base) {lv k : Nat} (h4 : 4 ≤ lv) (DB : Df P w K mg base "_law_bent" lv ["hand", "thing"] (spBent K k)) : FnOk P w K mg base CX0 (lv + 1) f fd ["hand", "thing"] (spNear K k) := by
  refine F.ok scNear spNear_len (fun cdv A outer s H vs Q E hr h => ?_)
  obtain ⟨a, c, u, e, n, b, rfl, hh, he, hk, hb, hn, hbb, q⟩ := h
  refine ⟨_, PSs.nox (pss_cons (ps_if (pt_val (pe_callB (id := "isinstance") (r := rIsi K) call_isi (by rfl) M.isinstance (by decide +kernel) (pa_cons (pv 1) (pa_cons (ty_cls (n := "tuple") M.tuple (by rfl) (by decide +kernel)) pa_nil)))) (pss_one (ps_ret (pe_df DB hr (by omega) (pa_cons (pv 0) (pa_cons (pv 1) pa_nil))))) pss_nil)
      (pss_cons (ps_if (pt_val (pe_callB (id := "isinstance") (r := rIsi K) call_isi (by rfl) M.isinstance (by decide +kernel) (pa_cons (pv 1) (pa_cons (ty_cls (n := "str") M.str (by rfl) (by decide +kernel)) pa_nil)))) (pss_cons (ps_set (i := 2) scNear.nd rfl (Or.inl rfl) (pe_lst (pa_cons (pe_op (r := rAddS) op_add_str (pv 1) pe_str) (pa_cons (pe_slice (r := rSlS) sl_str (pv 1) po_none (po_some (pe_un un_neg pe_int))) (pa_cons (pe_op (r := rAddS) op_add_str (pv 1) (pe_op (r := rMulA) op_mulA pe_str (pe_op op_sub pe_int (pe_callB call_len_str (by rfl) M.len PySem.boot_len (pa_cons (pv 1) pa_nil))))) (pa_cons (pe_op (r := rAddS) op_add_str (pv 1) (pe_op (r := rMulA) op_mulA pe_str (pe_op op_sub pe_int (pe_callB call_len_str (by rfl) M.len PySem.boot_len (pa_cons (pv 1) pa_nil))))) (pa_cons (pe_op (r := rAddS) op_add_str (pv 1) pe_str) pa_nil)))))))
      (pss_cons (ps_set (i := 2) scNear.nd rfl (Or.inl rfl) (pe_op op_cat (pv 2) (pe_lst (pa_cons pe_str (pa_cons pe_str (pa_cons pe_str (pa_cons pe_str (pa_cons pe_str (pa_cons pe_str (pa_cons pe_str (pa_cons pe_str (pa_cons (pe_op (r := rMulA) op_mulA pe_str pe_int) (pa_cons (pe_lstN (pa_cons (pv 1) pa_nil)) pa_nil)))))))))))))
      (pss_one (ps_ret (pe_df DS hr (by omega) (pa_cons (pv 0) (pa_cons (pv 2) pa_nil))))))) pss_nil)
      (pss_cons (ps_set (i := 2) scNear.nd rfl (Or.inl rfl) (pe_lst (pa_cons (pe_op op_add (pv 1) pe_int) (pa_cons (pe_op op_sub (pv 1) pe_int) (pa_cons pe_int (pa_cons (pe_op op_sub (pe_op op_pow pe_int pe_int) pe_int) (pa_cons (pe_op op_pow pe_int pe_int) (pa_cons (pe_un un_neg (pe_op op_pow pe_int pe_int)) (pa_cons (pe_op op_sub pe_int (pe_op op_pow pe_int pe_int)) (pa_cons (pe_callTy call_str_int (by rfl) M.str (by decide +kernel) (pa_cons (pv 1) pa_nil)) (pa_cons (pe_cmpR op_eq (pv 1) pe_int (nomark _)) (pa_cons (pe_lstN (pa_cons (pv 1) pa_nil)) pa_nil))))))))))))
      (pss_one (ps_ret (pe_df DS hr (by omega) (pa_cons (pv 0) (pa_cons (pv 2) pa_nil)))))))), ?_⟩
  refine ⟨_, rfl, _, _, _, _, _, rfl, .ty _, tyx he.dd, kit_ty (kT e), _, rfl, tst (fun e1 => ⟨_, rfl, _, rfl, a, c, u, e, n, b, rfl, hh, he, hb, hn, hbb, q⟩) fun e1 => ?_⟩
  refine ⟨_, rfl, _, _, _, _, _, rfl, .ty _, tyx he.dd, kit_ty (kS e), _, rfl, tst (fun e2 => ?_) fun e2 => ?_⟩
  · obtain ⟨x, rfl⟩ := isS_of e2
    cases dd_str he.dd
    have hx : x.cps.toList.all sgnOk = true := by
      have := hb.ok
      unfold aOk at this
      exact this
    have hz : x.length ≤ 10000 := by
      have := hb.sz
      unfold szD at this
      omega
    have W : ∀ {y : Str}, y.cps.toList.all sgnOk = true → y.length ≤ 21 → Bd (3 * n + 2000) (k + 31) (b + 1) (.str y) := fun h1 h2 => near_str hb h1 (by omega)
    refine ts_asg ?_
    refine ld_lst (a := a) (c := c) (K := K) (H0 := H) (n := 5) (R := Bd (3 * n + 2000) (k + 31) (b + 1))
      (ya_cons (ye_s (ysx_add (ysx_var rfl) ysx_c (by rw [show ("a" : Str).length = 1 by decide]; omega)) (near_str hb (app_sgn hx (by decide +kernel)) (by rw [app_len, show ("a" : Str).length = 1 by decide]; omega)))
      (ya_cons (ye_s (ysx_init rfl (yi_neg yi_c) (by omega)) (near_str hb (cut_sgn hx).1 (by have := (cut_sgn hx).2; omega)))
      (ya_cons (ye_s (ysx_add (ysx_var rfl) (ysx_mul ysx_c (yi_sub yi_c (yi_lenS rfl (by omega))) (by decide) (by omega) (by omega)) (by rw [mul_sgn.2]; omega)) (near_str hb (app_sgn hx mul_sgn.1) (by rw [app_len, mul_sgn.2]; omega)))
      (ya_cons (ye_s (ysx_add (ysx_var rfl) (ysx_mul ysx_c (yi_sub yi_c (yi_lenS rfl (by omega))) (by decide) (by omega) (by omega)) (by rw [mul_sgn.2]; omega)) (near_str hb (app_sgn hx mul_sgn.1) (by rw [app_len, mul_sgn.2]; omega)))
      (ya_cons (ye_s (ysx_add (ysx_var rfl) ysx_c (by rw [show ("\n" : Str).length = 1 by decide]; omega)) (near_str hb (app_sgn hx (by decide +kernel)) (by rw [app_len, show ("\n" : Str).length = 1 by decide]; omega))) ya_nil))))) hh .refl (by decide) fun L1 H1 hh1 k1 l1 => ?_
    refine ts_asg ?_
    refine ld_cat (a := a) (c := c) (K := K) (H0 := H1) (n := 5) (m := 10) (R := Bd (3 * n + 2000) (k + 31) (b + 1)) rfl l1
      (ya_cons (ye_str (W (by decide +kernel) (by decide +kernel))) (ya_cons (ye_str (W (by decide +kernel) (by decide +kernel))) (ya_cons (ye_str (W (by decide +kernel) (by decide +kernel))) (ya_cons (ye_str (W (by decide +kernel) (by decide +kernel))) (ya_cons (ye_str (W (by decide +kernel) (by decide +kernel))) (ya_cons (ye_str (W (by decide +kernel) (by decide +kernel))) (ya_cons (ye_str (W (by decide +kernel) (by decide +kernel))) (ya_cons (ye_str (W (by decide +kernel) (by decide +kernel)))
      (ya_cons (ye_s (ysx_mul ysx_c yi_c (by decide) (by decide) (by decide)) (W mulA_sgn.1 mulA_sgn.2))
      (ya_cons (ye_lst (yh_one (ye_var (R := Bd n k b) rfl (he.ky k1) hb)) (fun _ z => z.len) fun ds z => ?_) ya_nil)))))))))) hh1 .refl (by decide) fun L2 H2 hh2 k2 l2 => ?_
    · obtain ⟨d', rfl, h'⟩ := z
      exact (bd_oneL h').mono (by omega) (by omega) (by omega)
    · exact ye_somev (a := a) (c := c) (K := K) (H0 := H2) (R := Bd (3 * n + 2000) (k + 31) (b + 1)) rfl rfl l2 (by decide) (by decide) H2 _ hh2 .refl fun v d H3 r hh3 k3 hd => q v d H3 r hh3 (k1.trans (k2.trans k3)) hd
  · have hi : intD e = true := by
      unfold nearB at hk
      rw [e1, e2] at hk
      simpa using hk
    obtain ⟨i, rfl⟩ := intD_of hi
    cases dd_int he.dd
    have hib : i.natAbs ≤ 10 ^ 30 + b := by
      have := hb.ib
      unfold iLe at this
      exact of_decide_eq_true this
    have hia : i.natAbs < 10 ^ 60 := by
      have := hb.ok
      unfold aOk at this
      exact of_decide_eq_true this
    have hil : i.natAbs.log2 < 1920 := by
      have := showable_of (.int i) hb.ok
      exact of_decide_eq_true this
    have N : ∀ {z : Int}, (z = i + 1 ∨ z = i - 1 ∨ z.natAbs ≤ 100000000000000000000) → Bd (3 * n + 2000) (k + 31) (b + 1) (.int z) := fun {z} hz => near_int (by
      have big : (100000000000000000000 : Nat) ≤ 10 ^ 30 := by decide
      generalize (10 : Nat) ^ 30 = B at hib big ⊢
      rcases hz with rfl | rfl | hz <;> omega) hbb
    refine ts_nx ?_
    refine ld_lst (a := a) (c := c) (K := K) (H0 := H) (n := 10) (R := Bd (3 * n + 2000) (k + 31) (b + 1))
      (ya_cons (ye_int (yi_add (yi_var rfl) yi_c) (N (.inl rfl))) (ya_cons (ye_int (yi_sub (yi_var rfl) yi_c) (N (.inr (.inl rfl)))) (ya_cons (ye_int yi_c (N (.inr (.inr (Nat.zero_le _)))))
      (ya_cons (ye_int (yi_sub (yi_pow yi_c yi_c) yi_c) (by rw [p1020]; exact N (.inr (.inr (by decide))))) (ya_cons (ye_int (yi_pow yi_c yi_c) (by rw [p1020]; exact N (.inr (.inr (by decide)))))
      (ya_cons (ye_int (yi_neg (yi_pow yi_c yi_c)) (by rw [p1020]; exact N (.inr (.inr (by decide))))) (ya_cons (ye_int (yi_sub yi_c (yi_pow yi_c yi_c)) (by rw [p1020]; exact N (.inr (.inr (by decide)))))
      (ya_cons (ye_strI rfl hil ((bd_str (b := b + 1) (int_sgn hia).1 (int_sgn hia).2).mono (by omega) (by omega) (Nat.le_refl _)))
      (ya_cons (ye_eq1 rfl fun c => (bd_bool (b := b + 1)).mono (by omega) (by omega) (Nat.le_refl _))
      (ya_cons (ye_lst (yh_one (ye_var (R := Bd n k b) rfl he hb)) (fun _ z => z.len) fun ds z => ?_) ya_nil)))))))))) hh .refl (by decide) fun L1 H1 hh1 k1 l1 => ?_
    · obtain ⟨d', rfl, h'⟩ := z
      exact (bd_oneL h').mono (by omega) (by omega) (by omega)
    · exact ye_somev (a := a) (c := c) (K := K) (H0 := H1) (R := Bd (3 * n + 2000) (k + 31) (b + 1)) rfl rfl l1 (by decide) (by decide) H1 _ hh1 .refl fun v d H2 r hh2 k2 hd => q v d H2 r hh2 (k1.trans k2) hd
/-- both, at every depth -/
theorem bent_near {fb fn : Addr} {db dn : FuncData} (FB : FnP K "_law_bent" sBent fb db) (FN : FnP K "_law_near" sNear fn dn) (M : Nm mg) (DD : DDraw P w K mg base) (DS : DSome P w K mg base) (DO : DY P w K mg base "_law_odd" 4 Odd) (mb : mg "_law_bent" = some (.ref fb)) (mn : mg "_law_near" = some (.ref fn)) :
    ∀ k : Nat, Df P w K mg base "_law_bent" (5 + 2 * k) ["hand", "thing"] (spBent K k) ∧ Df P w K mg base "_law_near" (6 + 2 * k) ["hand", "thing"] (spNear K k)
  | 0 => by
    have hn0 : Df P w K mg base "_law_near" 4 ["hand", "thing"] (fun _ _ _ _ => False) := ⟨_, _, mn, FN.kp, FN.bindsN (fun _ _ _ _ _ _ us hl => match us, hl with | [_, _], _ => rfl), ⟨fun _ _ _ _ z => z.elim, fun _ _ _ _ _ _ _ _ _ _ _ _ _ z => z.elim⟩⟩
    have hb : Df P w K mg base "_law_bent" 5 ["hand", "thing"] (spBent K 0) := ⟨_, _, mb, FB.kp, FB.bindsN (fun _ _ _ _ _ _ us hl => match us, hl with | [_, _], _ => rfl), ok_bent FB M DD DS DO (Nat.le_refl 4) hn0 (fun _ _ _ _ z => absurd z (by decide))⟩
    exact ⟨hb, ⟨_, _, mn, FN.kp, FN.bindsN (fun _ _ _ _ _ _ us hl => match us, hl with | [_, _], _ => rfl), ok_near FN M DS (by omega) hb⟩⟩
  | k + 1 => by
    obtain ⟨_, hn⟩ := bent_near FB FN M DD DS DO mb mn k
    have hb : Df P w K mg base "_law_bent" (5 + 2 * (k + 1)) ["hand", "thing"] (spBent K (k + 1)) := ⟨_, _, mb, FB.kp, FB.bindsN (fun _ _ _ _ _ _ us hl => match us, hl with | [_, _], _ => rfl), by
      have := ok_bent (base := base) FB M DD DS DO (lv := 6 + 2 * k) (k := k + 1) (by omega) hn (fun _ _ _ _ _ z => z)
      rw [show 5 + 2 * (k + 1) = 6 + 2 * k + 1 by omega]
      exact this⟩
    refine ⟨hb, ⟨_, _, mn, FN.kp, FN.bindsN (fun _ _ _ _ _ _ us hl => match us, hl with | [_, _], _ => rfl), ?_⟩⟩
    have := ok_near (base := base) FN M DS (lv := 5 + 2 * (k + 1)) (k := k + 1) (by omega) hb
    rw [show 6 + 2 * (k + 1) = 5 + 2 * (k + 1) + 1 by omega]
    exact this
end
end Sm
namespace Sm
open PySem PySem.Spec PyProof.Rows L2 Tn Vd RZ Gd
section
variable {P : Program} {w : World} {K : PySem.W.Frag} {mg : Str → Option Value} {base : Heap}
abbrev sWorthD : Stmt := top 66
abbrev sRowD : Stmt := top 67
/-! ### _law_worth, _law_row -/
def RN (d : PyData) : Prop := smallD d = true ∧ Bd 210 0 0 d
def RWd (d : PyData) : Prop := wordD d = true ∧ Bd 210 0 0 d
def RW (s d : PyData) : Prop := sortWD s d = true ∧ Bd 210 0 0 d
theorem rn_int {i : Int} (h : -100000000000000000000 < i) (h' : i < 100000000000000000000) : RN (.int i) := by
  refine ⟨?_, (bd_int (b := 0) ?_ (by decide)).mono (by decide) (by decide) (Nat.le_refl _)⟩
  · show (true && (decide (-100000000000000000000 < i) && decide (i < 100000000000000000000))) = true
    rw [decide_eq_true h, decide_eq_true h']
    rfl
  · have big : (100000000000000000000 : Nat) ≤ 10 ^ 30 := by decide
    generalize (10 : Nat) ^ 30 = B at big ⊢
    omega
theorem rw_str {x : Str} (h : wordD (.str x) = true) (h2 : x.cps.toList.all sgnOk = true) (h3 : x.length ≤ 20) : RWd (.str x) := ⟨h, (bd_str h2 h3).mono (by decide) (by decide) (Nat.le_refl _)⟩
theorem x20 : RWd (.str (Txt.mul ("x" : Str) 20)) := rw_str (by decide +kernel) (by decide +kernel) (by decide +kernel)
theorem p1019 : (10 : Int) ^ (19 : Int).toNat = 10000000000000000000 := by decide +kernel
theorem scWorthD : FnScope ["hand", "sort"] ["hand", "sort"] (defScope sWorthD) := ⟨rfl, rfl, rfl, by decide +kernel, rfl, by decide +kernel, by decide +kernel⟩
theorem ok_worthD {f : Addr} {fd : FuncData} (F : FnP K "_law_worth" sWorthD f fd) (DS : DSome P w K mg base) : FnOk P w K mg base CX0 3 f fd ["hand", "sort"] (spZ K (fun s => sortD s = true) RW) := by
  refine F.ok scWorthD spZ_len (fun cdv A outer s H vs Q E hr h => ?_)
  obtain ⟨a, c, u, e, rfl, hh, he, hs, q⟩ := h
  refine ⟨_, PSs.nox (pss_cons (ps_if (pt_cmpR (op_eqS (hu_of1 hr)) (pv 1) pe_str (nomark _)) (pss_one (ps_ret (pe_df DS hr (by decide) (pa_cons (pv 0) (pa_cons (pe_lst (pa_cons pe_int (pa_cons pe_int (pa_cons pe_int (pa_cons pe_int (pa_cons pe_int (pa_cons (pe_un un_neg pe_int) (pa_cons (pe_op op_sub (pe_op op_pow pe_int pe_int) pe_int) (pa_cons (pe_op op_sub pe_int (pe_op op_pow pe_int pe_int)) (pa_cons (pe_op op_pow pe_int pe_int) pa_nil)))))))))) pa_nil))))) pss_nil)
      (pss_one (ps_ret (pe_df DS hr (by decide) (pa_cons (pv 0) (pa_cons (pe_lst (pa_cons pe_str (pa_cons pe_str (pa_cons pe_str (pa_cons pe_str (pa_cons pe_str (pa_cons pe_str (pa_cons pe_str (pa_cons pe_str (pa_cons (pe_op (r := rMulA) op_mulA pe_str pe_int) (pa_cons pe_str pa_nil))))))))))) pa_nil)))))), ?_⟩
  refine ⟨_, rfl, e, _, he.dd, rfl, _, rfl, tst (fun e1 => ?_) fun e1 => ?_⟩
  · refine ye_some (a := a) (c := c) (K := K) (H0 := H) (n := 9) (R := RN) rfl (ya_cons (ye_int yi_c (rn_int (by decide) (by decide))) (ya_cons (ye_int yi_c (rn_int (by decide) (by decide))) (ya_cons (ye_int yi_c (rn_int (by decide) (by decide))) (ya_cons (ye_int yi_c (rn_int (by decide) (by decide))) (ya_cons (ye_int yi_c (rn_int (by decide) (by decide))) (ya_cons (ye_int (yi_neg yi_c) (rn_int (by decide) (by decide)))
      (ya_cons (ye_int (yi_sub (yi_pow yi_c yi_c) yi_c) (by rw [p1020]; exact rn_int (by decide) (by decide))) (ya_cons (ye_int (yi_sub yi_c (yi_pow yi_c yi_c)) (by rw [p1020]; exact rn_int (by decide) (by decide))) (ya_cons (ye_int (yi_pow yi_c yi_c) (by rw [p1019]; exact rn_int (by decide) (by decide))) ya_nil))))))))) (by decide) (by decide) H _ hh .refl fun v d H1 r hh1 k1 hd => q v d H1 ⟨?_, r.2⟩ hh1 k1 hd
    unfold sortWD
    rw [eqS_two e1 (by decide), if_neg Bool.false_ne_true]
    exact r.1
  · refine ye_some (a := a) (c := c) (K := K) (H0 := H) (n := 10) (R := RWd) rfl (ya_cons (ye_str (rw_str (by decide +kernel) (by decide +kernel) (by decide +kernel))) (ya_cons (ye_str (rw_str (by decide +kernel) (by decide +kernel) (by decide +kernel))) (ya_cons (ye_str (rw_str (by decide +kernel) (by decide +kernel) (by decide +kernel))) (ya_cons (ye_str (rw_str (by decide +kernel) (by decide +kernel) (by decide +kernel))) (ya_cons (ye_str (rw_str (by decide +kernel) (by decide +kernel) (by decide +kernel))) (ya_cons (ye_str (rw_str (by decide +kernel) (by decide +kernel) (by decide +kernel)))
      (ya_cons (ye_str (rw_str (by decide +kernel) (by decide +kernel) (by decide +kernel))) (ya_cons (ye_str (rw_str (by decide +kernel) (by decide +kernel) (by decide +kernel))) (ya_cons (ye_s (ysx_mul ysx_c yi_c (by decide) (by decide) (by decide)) x20) (ya_cons (ye_str (rw_str (by decide +kernel) (by decide +kernel) (by decide +kernel))) ya_nil)))))))))) (by decide) (by decide) H _ hh .refl fun v d H1 r hh1 k1 hd => q v d H1 ⟨?_, r.2⟩ hh1 k1 hd
    have h2 : (eqS e "number" || (eqS e "word" || false)) = true := hs
    rw [e1] at h2
    have h3 : eqS e "word" = true := by simpa using h2
    unfold sortWD
    rw [if_pos h3]
    exact r.1
theorem rw_flat {s d : PyData} {a : Addr} {H : Hp} {v : V} (r : RW s d) (h : Dv a K H v d) (H' : Hp) : Dv a K H' v d := by
  have r1 := r.1
  unfold sortWD at r1
  cases h with
  | int i => exact .int i
  | str x => exact .str x
  | _ =>
    exfalso
    cases q : eqS s "word" <;> rw [q] at r1 <;> cases r1
/-- the sorts of a relation -/
def SortsR (s : PyData) : Prop := ∃ ss, s = .tuple ss ∧ 1 ≤ ss.length ∧ ss.length ≤ 5 ∧ ∀ x ∈ ss, sortD x = true
def RowR (s d : PyData) : Prop := ofSorts s d = true ∧ Bd 1100 1 0 d
theorem scRowD : FnScope ["hand", "sorts", "sort"] ["hand", "sorts"] (defScope sRowD) := ⟨rfl, rfl, rfl, by decide +kernel, rfl, by decide +kernel, by decide +kernel⟩
theorem ok_rowD {f : Addr} {fd : FuncData} (F : FnP K "_law_row" sRowD f fd) (M : Nm mg) (DW : Df P w K mg base "_law_worth" 3 ["hand", "sort"] (spZ K (fun s => sortD s = true) RW)) : FnOk P w K mg base CX0 4 f fd ["hand", "sorts"] (spZ K SortsR RowR) := by
  refine F.ok scRowD spZ_len (fun cdv A outer s H vs Q E hr h => ?_)
  obtain ⟨a, c, u, e, rfl, hh, he, ⟨ss, rfl, l1, l5, hs⟩, q⟩ := h
  refine ⟨_, PSs.nox (pss_one (ps_ret (pe_tof (by rfl) M.tuple (pe_lc (own := [("sort", 2)]) (g := gName 2) (tt := tYes) (by rfl) scRowD.nd (pi_tup (pv 1)) (blkOk_by (N := ["hand", "sorts", "sort"]) (sc := defScope sRowD) (by decide +kernel)) (fun _ _ _ _ _ => pg_name (i := 2) scRowD.nd rfl (Or.inl rfl)) (fun _ _ _ _ _ => pts_nil) (fun _ _ _ _ _ => (pe_df DW hr (by decide) (pa_cons (pv 0) (pa_cons (pv 2) pa_nil)))))))), ?_⟩
  obtain ⟨p, xs, rfl, t0, g0⟩ := ofTup' he
  have hl := dall_len g0
  refine ⟨_, rfl, p, rfl, ⟨_, (tupN_vis t0).sq⟩, fun D hD => ?_⟩
  have nDa := hh.live.ne hD
  have nDc := hh.cne hD
  have hpa : p ≠ a := by
    obtain ⟨o, z, _⟩ := t0
    exact (vis_sub z).2.1
  have npD : p ≠ D := by
    obtain ⟨o, z, _⟩ := tupN_vis t0
    exact ne_of_none z hD
  refine lc_tup (xs := xs) (fun i H' => HandC H' a c ∧ Keep a H H' ∧ ∃ (vs : List V) (ds : List PyData), H' D = some (.lst vs) ∧ (∀ H'' : Hp, DvAll a K H'' vs ds) ∧ ds.length = i ∧ ∀ (j : Nat) (s d : PyData), ss[j]? = some s → ds[j]? = some d → RW s d) ?h0 (fun i H' _ z => ?_) (fun i x H' hx z => ?_) (fun H1 z => ?_)
  case h0 => exact ⟨hh.same (same_up hD), keep_same (same_up hD), [], [], upd_same, fun _ => .nil, rfl, fun j s' d' _ z => by simp at z⟩
  · obtain ⟨o, z0, _⟩ := tupN_vis t0
    exact .inl (.inr ⟨o, z.2.1 _ _ hpa z0⟩)
  · obtain ⟨hh1, k1, vs, ds, eD, hv, el, en⟩ := z
    obtain ⟨d, hd1, hdd⟩ := dall_at' g0 hx
    have hi : i < ss.length := (List.getElem?_eq_some_iff.mp hd1).1
    refine ⟨rfl, _, rfl, _, rfl, a, c, x, d, rfl, hh1, Dv.ky hdd k1, hs d (List.mem_of_getElem? hd1), fun v dw H2 r hh2 k2 hdw => ?_⟩
    have eD2 := k2 _ _ nDa eD
    refine ⟨vs, eD2, by rw [dall_len (hv H2), el, size6]; omega, hh2.set nDa nDc, ?_, vs ++ [v], ds ++ [dw], upd_same, fun H'' => dall_app (hv H'') (.cons (rw_flat r hdw H'') .nil), by rw [List.length_append, el]; rfl, fun j s' d' h1 h2 => ?_⟩
    · intro b o nb eb
      rw [upd_ne (ne_of_none eb hD)]
      exact (k1.trans k2) b o nb eb
    · by_cases hj : j < ds.length
      · rw [List.getElem?_append_left hj] at h2
        exact en j s' d' h1 h2
      · have hj2 : j = i := by
          have := (List.getElem?_eq_some_iff.mp h2).1
          rw [List.length_append] at this
          have h3 : ([dw] : List PyData).length = 1 := rfl
          omega
        subst hj2
        rw [List.getElem?_append_right (by omega), el, Nat.sub_self] at h2
        have e2 : dw = d' := Option.some.inj h2
        rw [hd1] at h1
        have e1 : d = s' := Option.some.inj h1
        rw [← e1, ← e2]
        exact r
  · obtain ⟨hh1, k1, vs, ds, eD, hv, el, en⟩ := z
    refine ⟨D, vs, rfl, SqL.of eD, fun pp o hp ho => ?_⟩
    have t1 := tris_new hh1.live hp ho (hv H1)
    refine q _ _ _ ⟨?_, ?_⟩ (hh1.same (same_up hp)) (k1.trans (keep_same (same_up hp))) t1
    · unfold ofSorts
      show (tupOfD ss.length ss.length (.tuple ds) && (ss.zip ds).all fun e => sortWD e.1 e.2) = true
      rw [tupOf_true (by rw [el, hl]; omega) (by rw [el, hl]; omega), Bool.true_and]
      refine List.all_eq_true.mpr fun e m => ?_
      obtain ⟨j, hj⟩ := List.getElem?_of_mem m
      rw [List.getElem?_zip_eq_some] at hj
      exact (en j e.1 e.2 hj.1 hj.2).1
    · refine (bd_tup (n := 210) (k := 0) (b := 0) (m := 5) (fun d m => ?_) (by rw [el, hl]; exact l5)).mono (by decide) (by decide) (Nat.le_refl _)
      obtain ⟨j, hj⟩ := List.getElem?_of_mem m
      have hj2 : j < ss.length := by
        have := (List.getElem?_eq_some_iff.mp hj).1
        omega
      exact (en j ss[j] d (List.getElem?_eq_getElem hj2) hj).2
end
end Sm
namespace Sm
open PySem PySem.Spec PyProof.Rows L2 Tn Vd RZ Gd
theorem er_map {α β : Type} (f : α → β) : ∀ (xs : List α) (j : Nat), (xs.map f).eraseIdx j = (xs.eraseIdx j).map f
  | [], _ => rfl
  | _ :: _, 0 => rfl
  | x :: r, j + 1 => by
    show f x :: (r.map f).eraseIdx j = f x :: (r.eraseIdx j).map f
    rw [er_map f r j]
theorem er_perm {α : Type} : ∀ (xs : List α) (j : Nat) (h : j < xs.length), (xs[j] :: xs.eraseIdx j).Perm xs
  | x :: r, 0, _ => List.Perm.refl _
  | x :: r, j + 1, h => by
    have h2 : j < r.length := by
      rw [List.length_cons] at h
      omega
    show (r[j] :: x :: r.eraseIdx j).Perm (x :: r)
    exact (List.Perm.swap x r[j] _).trans ((er_perm r j h2).cons x)
section
variable {P : Program} {w : World} {K : PySem.W.Frag} {mg : Str → Option Value} {base : Heap}
abbrev sMixed : Stmt := top 64
/-! ### _law_mixed -/
def spMixed (K : PySem.W.Frag) : Sp := fun vs H Q _ => ∃ (a c T : Addr) (zs : List Str), vs = [.ref a, .ref T] ∧ HandC H a c ∧ T ≠ a ∧ H T = some (.lst (zs.map V.str)) ∧ zs.length ≤ 100 ∧
  ∀ (L : Addr) (ys : List Str) (H' : Hp), H' L = some (.lst (ys.map V.str)) → L ≠ a → ys.Perm zs → HandC H' a c → Keep a H H' → Q (.ref L) H'
theorem scMixed : FnScope ["hand", "things", "left", "found", "turn"] ["hand", "things"] (defScope sMixed) := ⟨rfl, rfl, rfl, by decide +kernel, rfl, by decide +kernel, by decide +kernel⟩
theorem HandC.keep' {H H' : Hp} {a c p : Addr} {o : HO} (h : HandC H a c) (n1 : p ≠ a) (n2 : p ≠ c) : HandC (upd H p o) a c := h.set n1 n2
theorem ok_mixed {f : Addr} {fd : FuncData} (F : FnP K "_law_mixed" sMixed f fd) (M : Nm mg) (DD : DDraw P w K mg base) : FnOk P w K mg base CX0 2 f fd ["hand", "things"] (spMixed K) := by
  refine F.ok scMixed (fun vs H Q E h => ?_) (fun cdv A outer s H vs Q E hr h => ?_)
  · obtain ⟨a, c, T, zs, rfl, _⟩ := h
    rfl
  obtain ⟨a, c, T, zs, rfl, hh, nT, eT, hz, q⟩ := h
  refine ⟨_, PSs.nox (pss_cons (ps_par (i := 2) (j := 3) (by rfl) scMixed.nd rfl rfl (by decide) rfl rfl (pa_cons (pe_callTy call_list_of (by rfl) M.list (by decide +kernel) (pa_cons (pv 1) pa_nil)) (pa_cons (pe_lst pa_nil) pa_nil)) (by rfl))
      (pss_cons (ps_for PassesOwn.never rfl (pi_range1 (by rfl) M.range (pa_cons (pe_callB call_len_seq (by rfl) M.len PySem.boot_len (pa_cons (pv 1) pa_nil)) pa_nil)) (pg_name (i := 4) scMixed.nd rfl (Or.inl rfl)) (pss_one (ps_expr (pe_bm PySem.F.plainAttrs_list PySem.F.slot_list_append PySem.F.type_list_append mt_append (pv 3) (pa_cons (pe_bm PySem.F.plainAttrs_list PySem.F.slot_list_pop PySem.F.type_list_pop mt_popAt (pv 2) (pa_cons (pe_df DD hr (by decide) (pa_cons (pv 0) (pa_cons (pe_callB call_len_seq (by rfl) M.len PySem.boot_len (pa_cons (pv 2) pa_nil)) pa_nil))) pa_nil)) pa_nil)))))
      (pss_one (ps_ret (pv 3))))), ?_⟩
  refine ⟨_, rfl, T, _, rfl, .inl (SqL.of eT), fun L hL => ⟨by rw [size6]; exact Nat.zero_le _, fun G hG => ⟨_, _, rfl, ?_⟩⟩⟩
  have sL := same_up (o := .lst (zs.map V.str)) hL
  have sG := same_up (o := .lst []) hG
  have nLa := hh.live.ne hL
  have nLc := hh.cne hL
  have nGa := (hh.same sL).live.ne hG
  have nGc := (hh.same sL).cne hG
  have eL : (upd H L (.lst (zs.map V.str))) L = some (.lst (zs.map V.str)) := upd_same
  have nGL : L ≠ G := ne_of_none eL hG
  have hh2 : HandC (upd (upd H L (.lst (zs.map V.str))) G (.lst [])) a c := (hh.same sL).same sG
  have eT2 : (upd (upd H L (.lst (zs.map V.str))) G (.lst [])) T = some (.lst (zs.map V.str)) := sG _ _ (sL _ _ eT)
  have k2 : Keep a H (upd (upd H L (.lst (zs.map V.str))) G (.lst [])) := keep_same (sL.trans sG)
  refine ⟨_, rfl, T, _, rfl, .inl (SqL.of eT2), _, rfl, by omega, by rw [List.length_map]; omega, ?_⟩
  refine for_range (lo := 0) (n := ((zs.map V.str).length : Int).toNat) (fun i σ H' => HandC H' a c ∧ Keep a H H' ∧ ∃ (ys fs : List Str) (x : Option V), σ = [some (.ref a), some (.ref T), some (.ref L), some (.ref G), x] ∧ H' L = some (.lst (ys.map V.str)) ∧ H' G = some (.lst (fs.map V.str)) ∧ (fs ++ ys).Perm zs ∧ fs.length = i) ⟨hh2, k2, zs, [], none, rfl, by rw [upd_ne nGL]; exact eL, upd_same, List.Perm.refl _, rfl⟩ (fun i σ H' hi z => ?_) (fun σ H' z => ?_)
  · obtain ⟨hh3, k3, ys, fs, x, rfl, e1, e2, pr, el⟩ := z
    have hlen := pr.length_eq
    rw [List.length_append] at hlen
    have hi2 : i < zs.length := by
      rw [List.length_map] at hi
      omega
    have hy0 : 0 < ys.length := by omega
    refine ⟨_, rfl, .inl ⟨rfl, _, SqL.of e2⟩, _, rfl, .inl ⟨rfl, _, SqL.of e1⟩, _, rfl, _, rfl, L, _, rfl, .inl (SqL.of e1), a, c, _, rfl, hh3, by rw [List.length_map]; omega, by rw [List.length_map]; omega, fun d H4 d0 d1 hh4 k4 => ?_⟩
    rw [List.length_map] at d1
    obtain ⟨j, rfl⟩ : ∃ j : Nat, d = (j : Int) := ⟨d.toNat, by omega⟩
    have hj : j < ys.length := by omega
    have e14 := k4 _ _ nLa e1
    have e24 := k4 _ _ nGa e2
    refine ⟨L, _, _, j, V.str ys[j], rfl, rfl, e14, by omega, by omega, by unfold seqIndex?; rw [List.length_map]; simp; omega, by rw [List.getElem?_map, List.getElem?_eq_getElem hj]; rfl, ?_⟩
    refine ⟨G, _, _, rfl, rfl, by rw [upd_ne nGL.symm]; exact e24, by rw [List.length_map, size6]; omega, ?_⟩
    refine ⟨(hh4.set nLa nLc).set nGa nGc, ?_, ys.eraseIdx j, fs ++ [ys[j]], _, rfl, ?_, by rw [upd_same, List.map_append]; rfl, ?_, by rw [List.length_append, el]; rfl⟩
    · intro bb o nb eb
      have hb1 : bb ≠ L := ne_of_none eb hL
      have hb2 : bb ≠ G := ne_of_none (sL _ _ eb) hG
      rw [upd_ne hb2, upd_ne hb1]
      exact k4 bb o nb (k3 bb o nb eb)
    · rw [upd_ne nGL, upd_same]
      congr 2
      exact er_map V.str ys j
    · have p1 : (ys[j] :: ys.eraseIdx j).Perm ys := er_perm ys j hj
      have p2 : (fs ++ [ys[j]] ++ ys.eraseIdx j).Perm (fs ++ ys) := by
        rw [List.append_assoc]
        exact List.Perm.append_left fs p1
      exact p2.trans pr
  · obtain ⟨hh3, k3, ys, fs, x, rfl, e1, e2, pr, el⟩ := z
    have hlen := pr.length_eq
    rw [List.length_append] at hlen
    have hy : ys = [] := List.eq_nil_of_length_eq_zero (by rw [List.length_map] at el; omega)
    subst hy
    rw [List.append_nil] at pr
    exact ⟨_, rfl, q G fs H' e2 nGa pr hh3 k3⟩
end
end Sm
namespace Sm
open PySem PySem.Spec PyProof.Rows L2 Tn Vd RZ Gd
/-! ### data made of frozen things alone -/
def visF (H : Hp) : Hp := fun b => match H b with
  | some (.frz o x) => some (.frz o x)
  | _ => none
theorem visF_sub {H : Hp} {b : Addr} {o : HO} (h : visF H b = some o) : H b = some o ∧ ∃ p x, o = .frz p x := by
  unfold visF at h
  cases q : H b with
  | none => rw [q] at h; cases h
  | some u =>
    rw [q] at h
    cases u <;> first | (cases h; exact ⟨rfl, _, _, rfl⟩) | cases h
theorem visF_at {H : Hp} {b : Addr} {o : Obj} {x : HO} (h : H b = some (.frz o x)) : visF H b = some (.frz o x) := by
  unfold visF
  rw [h]
def KpF (H H' : Hp) : Prop := Same (visF H) (visF H')
theorem KpF.refl {H : Hp} : KpF H H := fun _ _ h => h
theorem KpF.trans {H H1 H2 : Hp} (x : KpF H H1) (y : KpF H1 H2) : KpF H H2 := fun b o h => y b o (x b o h)
theorem kpf_same {H H' : Hp} (s : Same H H') : KpF H H' := fun b o h => by
  obtain ⟨h1, p, x, rfl⟩ := visF_sub h
  exact visF_at (s _ _ h1)
theorem kpf_keep {a : Addr} {H H' : Hp} (hl : Live a H) (k : Keep a H H') : KpF H H' := fun b o h => by
  obtain ⟨h1, p, x, rfl⟩ := visF_sub h
  refine visF_at (k _ _ (fun e => ?_) h1)
  obtain ⟨ys, z⟩ := hl
  rw [e, z] at h1
  cases h1
theorem kpf_lst {p : Addr} {H : Hp} {xs : List V} {o : HO} (h : H p = some (.lst xs)) : KpF H (upd H p o) := fun b u hb => by
  obtain ⟨h1, q, x, rfl⟩ := visF_sub hb
  refine visF_at ?_
  rw [upd_ne (fun e => ?_)]
  · exact h1
  · rw [e, h] at h1
    cases h1
abbrev Df' (K : PySem.W.Frag) (H : Hp) (v : V) (d : PyData) : Prop := Dd K (visF H) v d
abbrev DfAll (K : PySem.W.Frag) (H : Hp) (vs : List V) (ds : List PyData) : Prop := DdAll K (visF H) vs ds
theorem visF_same {H : Hp} : Same (visF H) H := fun _ _ h => (visF_sub h).1
theorem visF_vis {a : Addr} {H : Hp} (hl : Live a H) : Same (visF H) (vis a H) := fun b o h => by
  obtain ⟨h1, p, x, rfl⟩ := visF_sub h
  refine vis_at h1 (fun e => ?_) fun _ z => nomatch z
  obtain ⟨ys, z⟩ := hl
  rw [e, z] at h1
  cases h1
theorem dfall_kp {K : PySem.W.Frag} {H H' : Hp} {vs : List V} {ds : List PyData} (h : DfAll K H vs ds) (k : KpF H H') : DfAll K H' vs ds := DdAll.same k h
theorem df_tup {K : PySem.W.Frag} {H : Hp} {p : Addr} {o : Obj} {xs : List V} {ds : List PyData} (n : H p = none) (ho : o.dict = none) (x : DfAll K H xs ds) : Df' K (upd H p (.frz o (.tup xs))) (.ref p) (.tuple ds) :=
  Dd.tup ⟨o, visF_at upd_same, ho⟩ (dfall_kp x (kpf_same (same_up n)))
/-! ### drawn schemas -/
def six : List Str := ["a", "bag", "link", "name", "stock", "zzzzzzzz"]
def RelR (x : Str) (d : PyData) : Prop := ∃ k ss, d = .tuple [.str x, k, .tuple ss] ∧ relD d = true ∧ Bd 1200 2 0 d
structure SchR (d : PyData) : Prop where
  sch : schD d = true
  bd : Bd 8000 3 0 d
  six : ∀ r ∈ partsD d, strOf (at_ r 0) ∈ six
  nd : ((partsD d).map fun r => strOf (at_ r 0)).Nodup
theorem six_name : ∀ x ∈ six, nameD (.str x) = true ∧ x ≠ "rule" ∧ x.cps.toList.all sgnOk = true ∧ x.length ≤ 8 := by decide +kernel
theorem len5 (P : PyData → Prop) : True := trivial
/-- a triple of a drawn schema -/
theorem relR_of {x : Str} {k : PyData} {ss : List PyData} (hx : x ∈ six) (hs : ∀ s ∈ ss, s = .str "number" ∨ s = .str "word") (l1 : 1 ≤ ss.length) (l5 : ss.length ≤ 5)
    (hk : k = .str "bag" ∨ (k = .str "sum" ∧ ss.getLast? = some (.str "number")) ∨ ∃ j : Nat, k = .int j ∧ j < ss.length) : RelR x (.tuple [.str x, k, .tuple ss]) := by
  obtain ⟨hn, hr, hg, hl⟩ := six_name x hx
  have hsort : ∀ s ∈ ss, sortD s = true := fun s m => by
    rcases hs s m with rfl | rfl <;> decide +kernel
  have hsz : ∀ s ∈ ss, Bd 65 0 0 s := fun s m => by
    rcases hs s m with rfl | rfl
    · exact (bd_str (n := 6) (by decide +kernel) (by decide +kernel)).mono (by decide) (Nat.le_refl _) (Nat.le_refl _)
    · exact (bd_str (n := 6) (by decide +kernel) (by decide +kernel)).mono (by decide) (Nat.le_refl _) (Nat.le_refl _)
  refine ⟨k, ss, rfl, ?_, ?_⟩
  · unfold relD
    have h1 : tupOfD 3 3 (.tuple [.str x, k, .tuple ss]) = true := rfl
    have h2 : sortsD (.tuple ss) = true := by
      unfold sortsD
      rw [tupOf_true (by omega) (by omega)]
      exact List.all_eq_true.mpr hsort
    have h3 : kindD k (.tuple ss) = true := by
      rcases hk with rfl | ⟨rfl, e⟩ | ⟨j, rfl, hj⟩
      · show (if numD (.str "bag") = true then _ else (eqS (.str "bag") "bag" || _)) = true
        rfl
      · unfold kindD lastD
        show (if numD (.str "sum") = true then _ else (eqS (.str "sum") "bag" || (eqS (.str "sum") "sum" && eqS (((partsD (.tuple ss)).getLast?).getD .none) "number"))) = true
        rw [show (partsD (.tuple ss)).getLast? = some (.str "number") from e]
        rfl
      · unfold kindD
        have hn : numD (.int j) = true := by
          show (true && decide (0 ≤ (j : Int))) = true
          rw [decide_eq_true (by omega)]
          rfl
        rw [if_pos hn]
        exact decide_eq_true (show (j : Int) < (ss.length : Int) by omega)
    rw [h1]
    show (true && (nameD (.str x) && (sortsD (.tuple ss) && kindD k (.tuple ss)))) = true
    rw [hn, h2, h3]
    rfl
  · have b1 : Bd 355 1 0 (.str x) := (bd_str hg hl).mono (by decide) (by decide) (Nat.le_refl _)
    have b2 : Bd 355 1 0 k := by
      rcases hk with rfl | ⟨rfl, _⟩ | ⟨j, rfl, hj⟩
      · exact (bd_str (n := 3) (by decide +kernel) (by decide +kernel)).mono (by decide) (by decide) (Nat.le_refl _)
      · exact (bd_str (n := 3) (by decide +kernel) (by decide +kernel)).mono (by decide) (by decide) (Nat.le_refl _)
      · refine (bd_int (b := 0) ?_ (by decide)).mono (by decide) (by decide) (Nat.le_refl _)
        have big : (5 : Nat) ≤ 10 ^ 30 := by decide
        generalize (10 : Nat) ^ 30 = B at big ⊢
        omega
    have b3 : Bd 355 1 0 (.tuple ss) := (bd_tup (n := 65) (k := 0) (b := 0) (m := 5) hsz l5).mono (by decide) (by decide) (Nat.le_refl _)
    refine (bd_tup (n := 355) (k := 1) (b := 0) (m := 3) (fun d m => ?_) (Nat.le_refl _)).mono (by decide) (by decide) (Nat.le_refl _)
    simp only [List.mem_cons, List.not_mem_nil, or_false] at m
    rcases m with rfl | rfl | rfl
    · exact b1
    · exact b2
    · exact b3
/-- names that ascend -/
theorem lt_of_le_ne {x y : Str} (h : ltCps y.cps.toList x.cps.toList = false) (n : x ≠ y) : x.cps.toList < y.cps.toList := by
  rw [ltCps_eq] at h
  have h1 : x.cps.toList ≤ y.cps.toList := List.not_lt.mp (of_decide_eq_false h)
  by_cases h2 : x.cps.toList < y.cps.toList
  · exact h2
  · have h3 : y.cps.toList ≤ x.cps.toList := List.not_lt.mp h2
    have e := List.le_antisymm h1 h3
    exfalso
    apply n
    cases x
    cases y
    simp only [Array.toList_inj] at e
    rw [e]
theorem risV_sorted : ∀ {zs : List Str}, sortedS zs = true → zs.Nodup → risV (zs.map V.str) = true
  | [], _, _ => rfl
  | [x], _, _ => rfl
  | x :: y :: r, h, n => by
    have h2 : (!ltCps y.cps.toList x.cps.toList && risingS y r) = true := h
    obtain ⟨h3, h4⟩ := Bool.and_eq_true_iff.mp h2
    obtain ⟨n1, n2⟩ := List.nodup_cons.mp n
    have ih : risV ((y :: r).map V.str) = true := risV_sorted (zs := y :: r) h4 n2
    show (decide (x.cps.toList < y.cps.toList) && risV ((y :: r).map V.str)) = true
    rw [ih, decide_eq_true (lt_of_le_ne (by simpa using h3) fun e => n1 (by rw [e]; exact List.mem_cons_self))]
    rfl
theorem names_of {zs : List Str} {ds : List PyData} (hl : ds.length = zs.length) (hd : ∀ (j : Nat) (x : Str) (d : PyData), zs[j]? = some x → ds[j]? = some d → RelR x d) : (ds.map fun r => V.str (strOf (at_ r 0))) = zs.map V.str := by
  refine List.ext_getElem? fun j => ?_
  rw [List.getElem?_map, List.getElem?_map]
  by_cases h : j < ds.length
  · rw [List.getElem?_eq_getElem h, List.getElem?_eq_getElem (hl ▸ h)]
    obtain ⟨k, ss, e, _, _⟩ := hd j _ _ (List.getElem?_eq_getElem (hl ▸ h)) (List.getElem?_eq_getElem h)
    show some (V.str (strOf (at_ ds[j] 0))) = some (V.str zs[j])
    rw [e]
    rfl
  · rw [List.getElem?_eq_none (by omega), List.getElem?_eq_none (by omega)]
    rfl
theorem strs_of {zs : List Str} {ds : List PyData} (hl : ds.length = zs.length) (hd : ∀ (j : Nat) (x : Str) (d : PyData), zs[j]? = some x → ds[j]? = some d → RelR x d) : (ds.map fun r => strOf (at_ r 0)) = zs := by
  refine List.ext_getElem? fun j => ?_
  rw [List.getElem?_map]
  by_cases h : j < ds.length
  · rw [List.getElem?_eq_getElem h, List.getElem?_eq_getElem (hl ▸ h)]
    obtain ⟨k, ss, e, _, _⟩ := hd j _ _ (List.getElem?_eq_getElem (hl ▸ h)) (List.getElem?_eq_getElem h)
    show some (strOf (at_ ds[j] 0)) = some zs[j]
    rw [e]
    rfl
  · rw [List.getElem?_eq_none (by omega), List.getElem?_eq_none (by omega)]
    rfl
theorem inV_six {zs : List Str} (h6 : ∀ z ∈ zs, z ∈ six) : inV (.str "rule") (zs.map V.str) = false := by
  refine Bool.eq_false_iff.mpr fun h => ?_
  obtain ⟨y, hy, e⟩ := List.any_eq_true.mp h
  obtain ⟨z, hz, rfl⟩ := List.mem_map.mp hy
  have e2 : (z == ("rule" : Str)) = true := e
  exact (six_name z (h6 z hz)).2.1 (eq_of_beq e2)
theorem schR_of {zs : List Str} {ds : List PyData} (hz : sortedS zs = true) (hn : zs.Nodup) (h6 : ∀ z ∈ zs, z ∈ six) (l1 : 1 ≤ zs.length) (l6 : zs.length ≤ 6) (hl : ds.length = zs.length) (hd : ∀ (j : Nat) (x : Str) (d : PyData), zs[j]? = some x → ds[j]? = some d → RelR x d) : SchR (.tuple ds) := by
  have hm : ∀ d ∈ ds, ∃ x ∈ zs, RelR x d := fun d m => by
    obtain ⟨j, hj⟩ := List.getElem?_of_mem m
    have hlt : j < zs.length := by rw [← hl]; exact (List.getElem?_eq_some_iff.mp hj).1
    exact ⟨zs[j], List.getElem_mem hlt, hd j _ d (List.getElem?_eq_getElem hlt) hj⟩
  refine ⟨?_, ?_, fun r m => ?_, ?_⟩
  · unfold schD
    rw [tupOf_true (by omega) (by omega), Bool.true_and]
    show (ds.all relD && (!inV (.str "rule") (ds.map fun r => V.str (strOf (at_ r 0))) && risV (ds.map fun r => V.str (strOf (at_ r 0))))) = true
    rw [names_of hl hd, inV_six h6, risV_sorted hz hn, List.all_eq_true.mpr fun d m => ?_]
    · rfl
    · obtain ⟨x, _, k, ss, _, h, _⟩ := hm d m
      exact h
  · refine (bd_tup (n := 1200) (k := 2) (b := 0) (m := 6) (fun d m => ?_) (by omega)).mono (by decide) (by decide) (Nat.le_refl _)
    obtain ⟨x, _, k, ss, _, _, h⟩ := hm d m
    exact h
  · obtain ⟨x, hx, k, ss, e, _, _⟩ := hm r m
    rw [e]
    exact h6 x hx
  · show (ds.map fun r => strOf (at_ r 0)).Nodup
    rw [strs_of hl hd]
    exact hn
theorem find_nd {f : PyData → Str} : ∀ {rs : List PyData} {r : PyData}, (rs.map f).Nodup → r ∈ rs → rs.find? (fun q => f r == f q) = some r
  | [], _, _, m => by cases m
  | q :: rs, r, nd, m => by
    obtain ⟨n1, n2⟩ := List.nodup_cons.mp (show (f q :: rs.map f).Nodup from nd)
    rw [List.find?_cons]
    rcases List.mem_cons.mp m with rfl | m
    · rw [beq_self_eq_true]
    · have : (f r == f q) = false := beq_eq_false_iff_ne.mpr fun e => n1 (by rw [← e]; exact List.mem_map_of_mem m)
      rw [this]
      exact find_nd n2 m
theorem relOf_self {e r : PyData} (h : SchR e) (m : r ∈ partsD e) : relOf e (.str (strOf (at_ r 0))) = r := by
  unfold relOf
  have := find_nd (f := fun r => strOf (at_ r 0)) h.nd m
  have e2 : (partsD e).find? (fun q => eqS (.str (strOf (at_ r 0))) (strOf (at_ q 0))) = some r := this
  rw [e2]
  rfl
theorem near_not : ∀ x ∈ (["near", "far", "odd"] : List Str), x ∉ six := by decide +kernel
theorem relOf_none {e : PyData} {x : Str} (h : SchR e) (hx : x ∉ six) : relOf e (.str x) = .none := by
  unfold relOf
  have : (partsD e).find? (fun r => eqS (.str x) (strOf (at_ r 0))) = none := by
    rw [List.find?_eq_none]
    intro r m z
    have e2 : (x == strOf (at_ r 0)) = true := z
    exact hx (eq_of_beq e2 ▸ h.six r m)
  rw [this]
  rfl
section
variable {P : Program} {w : World} {K : PySem.W.Frag} {mg : Str → Option Value} {base : Heap}
abbrev sSchemaD : Stmt := top 65
def spSchema (K : PySem.W.Frag) : Sp := fun vs H Q _ => ∃ (a c : Addr) (m : Int), vs = [.ref a, .int m] ∧ HandC H a c ∧ 1 ≤ m ∧ m ≤ 6 ∧ ∀ v d H', SchR d → HandC H' a c → Keep a H H' → Dv a K H' v d → Q v H'
theorem scSchemaD : FnScope ["hand", "most", "names", "found", "name", "sorts", "place", "kind"] ["hand", "most"] (defScope sSchemaD) := ⟨rfl, rfl, rfl, by decide +kernel, rfl, by decide +kernel, by decide +kernel⟩
theorem ok_schemaD {f : Addr} {fd : FuncData} (F : FnP K "_law_schema" sSchemaD f fd) (M : Nm mg) (DD : DDraw P w K mg base) (DS : DSome P w K mg base) (DM : Df P w K mg base "_law_mixed" 2 ["hand", "things"] (spMixed K)) : FnOk P w K mg base CX0 3 f fd ["hand", "most"] (spSchema K) := by
  refine F.ok scSchemaD (fun vs H Q E h => ?_) (fun cdv A outer s H vs Q E hr h => ?_)
  · obtain ⟨a, c, m, rfl, _⟩ := h
    rfl
  obtain ⟨a, c, m, rfl, hh, m1, m6, q⟩ := h
  refine ⟨_, PSs.nox (pss_cons (ps_set (i := 2) scSchemaD.nd rfl (Or.inl rfl) (pe_slice sl_list (pe_df DM hr (by decide) (pa_cons (pv 0) (pa_cons (pe_lst (pa_cons pe_str (pa_cons pe_str (pa_cons pe_str (pa_cons pe_str (pa_cons pe_str (pa_cons pe_str pa_nil))))))) pa_nil))) po_none (po_some (pe_op op_add pe_int (pe_df DD hr (by decide) (pa_cons (pv 0) (pa_cons (pv 1) pa_nil)))))))
      (pss_cons (ps_set (i := 3) scSchemaD.nd rfl (Or.inl rfl) (pe_lst pa_nil))
      (pss_cons (ps_for PassesOwn.never rfl (pi_list (pe_callB cr_sortedS (by rfl) M.sorted (by decide +kernel) (pa_cons (pv 2) pa_nil))) (pg_name (i := 4) scSchemaD.nd rfl (Or.inl rfl)) (pss_cons (ps_setLc (i := 5) (own := [("place", 6)]) (g := gName 6) (tt := tYes) rfl scSchemaD.nd rfl rfl (sw_true rfl rfl rfl (by decide +kernel)) (pi_range1 (by rfl) M.range (pa_cons (pe_df DS hr (by decide) (pa_cons (pv 0) (pa_cons (pe_lst (pa_cons pe_int (pa_cons pe_int (pa_cons pe_int (pa_cons pe_int (pa_cons pe_int (pa_cons pe_int pa_nil))))))) pa_nil))) pa_nil)) (blkOk_by (N := ["hand", "most", "names", "found", "name", "sorts", "place", "kind"]) (sc := defScope sSchemaD) (by decide +kernel)) (fun _ _ _ _ _ => pg_name (i := 6) scSchemaD.nd rfl (Or.inl rfl)) (fun _ _ _ _ _ => pts_nil) (fun _ _ _ _ _ => (pe_df DS hr (by decide) (pa_cons (pv 0) (pa_cons (pe_lst (pa_cons pe_str (pa_cons pe_str pa_nil))) pa_nil)))))
      (pss_cons (ps_set (i := 7) scSchemaD.nd rfl (Or.inl rfl) (pe_df DS hr (by decide) (pa_cons (pv 0) (pa_cons (pe_lst (pa_cons pe_str (pa_cons pe_str (pa_cons (pe_df DD hr (by decide) (pa_cons (pv 0) (pa_cons (pe_callB call_len_seq (by rfl) M.len PySem.boot_len (pa_cons (pv 5) pa_nil)) pa_nil))) pa_nil)))) pa_nil))))
      (pss_cons (ps_asg (pe_ifExp (pt_cmpR (op_eqS (hu_of1 hr)) (pv 7) pe_str (nomark _)) pe_str (pe_ix ix_list (pv 5) (pe_un un_neg pe_int) (fun _ _ => rfl))) (pg_sub (pv 5) (pe_un un_neg pe_int) set_list))
      (pss_one (ps_expr (pe_bm PySem.F.plainAttrs_list PySem.F.slot_list_append PySem.F.type_list_append mt_append (pv 3) (pa_cons (pe_tupF (pa_cons (pv 4) (pa_cons (pv 7) (pa_cons (pe_tof (by rfl) M.tuple (pv 5)) pa_nil)))) pa_nil))))))))
      (pss_one (ps_ret (pe_tof (by rfl) M.tuple (pv 3))))))), ?_⟩
  refine ⟨_, rfl, by rw [size6]; decide, fun T hT => ⟨a, c, T, six, rfl, hh.same (same_up hT), hh.live.ne hT, upd_same, by decide, fun L ys H1 eL nLa perm hh1 k1 => ?_⟩⟩
  refine ⟨_, rfl, _, rfl, a, c, m, rfl, hh1, by omega, by omega, fun d H2 d0 d1 hh2 k2 => ?_⟩
  refine ⟨_, _, rfl, rfl, _, rfl, L, _, rfl, SqL.of (k2 _ _ nLa eL), fun N hN => ?_⟩
  obtain ⟨n, rfl⟩ : ∃ n : Nat, d = (n : Int) := ⟨d.toNat, by omega⟩
  rw [show (1 : Int) + (n : Int) = ((n + 1 : Nat) : Int) by omega, cut_take (α := Unit)]
  refine ⟨by rw [size6]; exact Nat.zero_le _, fun G hG => ?_⟩
  have k02 : Keep a H H2 := (keep_same (same_up hT)).trans (k1.trans k2)
  have eN : (upd H2 N (.lst ((ys.map V.str).take (n + 1)))) N = some (.lst ((ys.map V.str).take (n + 1))) := upd_same
  have nNG : N ≠ G := ne_of_none eN hG
  have sN := same_up (o := .lst ((ys.map V.str).take (n + 1))) hN
  have sG := same_up (o := .lst []) hG
  refine ⟨_, rfl, N, ys.take (n + 1), rfl, SqL.of ?_, ?_, fun zs Z pz sz hZ => ⟨Z, rfl, ⟨_, SqL.of upd_same⟩, ?_⟩⟩
  · rw [sG _ _ eN, List.map_take]
  · have := List.length_take_le (n + 1) ys
    have := perm.length_eq
    have : six.length = 6 := rfl
    omega
  have hh3 : HandC (upd (upd (upd H2 N (.lst ((ys.map V.str).take (n + 1)))) G (.lst [])) Z (.lst (zs.map V.str))) a c := ((hh2.same sN).same sG).same (same_up hZ)
  have nGa := (hh2.same sN).live.ne hG
  have nGc := (hh2.same sN).cne hG
  have eG0 : (upd (upd H2 N (.lst ((ys.map V.str).take (n + 1)))) G (.lst [])) G = some (.lst []) := upd_same
  have nGZ : G ≠ Z := ne_of_none eG0 hZ
  have nZa := ((hh2.same sN).same sG).live.ne hZ
  have sZ := same_up (o := .lst (zs.map V.str)) hZ
  have k3 : Keep a H (upd (upd (upd H2 N (.lst ((ys.map V.str).take (n + 1)))) G (.lst [])) Z (.lst (zs.map V.str))) := k02.trans (keep_same (sN.trans (sG.trans sZ)))
  refine for_list (xs := zs.map V.str) (fun i σ H' => HandC H' a c ∧ Keep a H H' ∧ ∃ (vs : List V) (ds : List PyData) (x4 x5 x6 x7 : Option V), σ = [some (.ref a), some (.int m), some (.ref N), some (.ref G), x4, x5, x6, x7] ∧ H' G = some (.lst vs) ∧ H' Z = some (.lst (zs.map V.str)) ∧
      DfAll K H' vs ds ∧ ds.length = i ∧ ∀ (j : Nat) (x : Str) (d : PyData), zs[j]? = some x → ds[j]? = some d → RelR x d) ⟨hh3, k3, [], [], none, none, none, none, rfl, sZ _ _ eG0, upd_same, .nil, rfl, fun j x d _ z => by simp at z⟩ (fun i σ H' _ z => ?_) (fun i x σ H' hx z => ?_) (fun σ H' z => ?_)
  · obtain ⟨_, _, vs, ds, _, _, _, _, _, _, e, _⟩ := z
    exact SqL.of e
  · obtain ⟨hh4, k4, vs, ds, x4, x5, x6, x7, rfl, eG, eZ, hd, el, hr⟩ := z
    obtain ⟨z, hz, rfl⟩ : ∃ z, zs[i]? = some z ∧ x = V.str z := by
      rw [List.getElem?_map] at hx
      obtain ⟨z, h1, h2⟩ := Option.map_eq_some_iff.mp hx
      exact ⟨z, h1, h2.symm⟩
    have nGa' := nGa
    refine ye_some (a := a) (c := c) (K := K) (H0 := H') (n := 6) (R := fun d => ∃ n : Nat, d = .int n ∧ 1 ≤ n ∧ n ≤ 5) rfl (ya_cons (ye_int yi_c ⟨1, rfl, by decide, by decide⟩) (ya_cons (ye_int yi_c ⟨1, rfl, by decide, by decide⟩) (ya_cons (ye_int yi_c ⟨2, rfl, by decide, by decide⟩) (ya_cons (ye_int yi_c ⟨2, rfl, by decide, by decide⟩) (ya_cons (ye_int yi_c ⟨3, rfl, by decide, by decide⟩) (ya_cons (ye_int yi_c ⟨5, rfl, by decide, by decide⟩) ya_nil)))))) (by decide) (by decide) H' _ hh4 .refl fun v d5 H5 r hh5 k5 hd5 => ?_
    obtain ⟨k, rfl, hk1, hk5⟩ := r
    cases hd5
    refine ⟨_, rfl, by omega, by omega, fun D hD => ?_⟩
    have nDa := hh5.live.ne hD
    have nDc := hh5.cne hD
    have eG5 := k5 _ _ nGa eG
    have nDG : G ≠ D := ne_of_none eG5 hD
    have eZ5 := k5 _ _ nZa eZ
    have nDZ : Z ≠ D := ne_of_none eZ5 hD
    refine lc_range (n := (k : Int).toNat) (fun i H6 => HandC H6 a c ∧ Keep a H5 H6 ∧ ∃ ts : List Str, H6 D = some (.lst (ts.map V.str)) ∧ (∀ t ∈ ts, t = "number" ∨ t = "word") ∧ ts.length = i) ⟨hh5.same (same_up hD), keep_same (same_up hD), [], upd_same, fun _ z => absurd z (by simp), rfl⟩ (fun i H6 hi z6 => ?_) (fun H6 z6 => ?_)
    · obtain ⟨hh6, k6, ts, eD, ht, hl⟩ := z6
      refine ⟨rfl, ?_⟩
      refine ye_some (a := a) (c := c) (K := K) (H0 := H6) (n := 2) (R := fun d => ∃ t : Str, d = .str t ∧ (t = "number" ∨ t = "word")) rfl (ya_cons (ye_str ⟨_, rfl, .inl rfl⟩) (ya_cons (ye_str ⟨_, rfl, .inr rfl⟩) ya_nil)) (by decide) (by decide) H6 _ hh6 .refl fun v d7 H7 r hh7 k7 hd7 => ?_
      obtain ⟨t, rfl, ht2⟩ := r
      cases hd7
      have eD7 := k7 _ _ nDa eD
      refine ⟨_, eD7, by rw [List.length_map, size6]; omega, hh7.set nDa nDc, ?_, ts ++ [t], by rw [upd_same, List.map_append]; rfl, fun x m => ?_, by rw [List.length_append, hl]; rfl⟩
      · intro b o nb eb
        rw [upd_ne (ne_of_none eb hD)]
        exact (k6.trans k7) b o nb eb
      · rcases List.mem_append.mp m with m | m
        · exact ht x m
        · rw [List.mem_singleton.mp m]
          exact ht2
    · obtain ⟨hh6, k6, ts, eD, ht, hl⟩ := z6
      refine ye_some (a := a) (c := c) (K := K) (H0 := H6) (σ := [some (.ref a), some (.int m), some (.ref N), some (.ref G), some (.str z), some (.ref D), x6, x7]) (n := 3) (R := fun d => d = .str "bag" ∨ d = .str "sum" ∨ ∃ j : Nat, d = .int j ∧ j < k) rfl (ya_cons (ye_str (.inl rfl)) (ya_cons (ye_str (.inr (.inl rfl))) (ya_cons (fun H8 Q8 hh8 k8 q8 => ⟨_, rfl, _, rfl, D, _, rfl, .inl (SqL.of (k8 _ _ nDa eD)), a, c, _, rfl, hh8, by rw [List.length_map]; omega, by rw [List.length_map]; omega, fun d9 H9 d0 d1 hh9 k9 => q8 _ (.int d9) H9 (.inr (.inr ⟨d9.toNat, by rw [Int.toNat_of_nonneg d0], by rw [List.length_map] at d1; omega⟩)) hh9 k9 (.int d9)⟩) ya_nil))) (by decide) (by decide) H6 _ hh6 .refl fun v d8 H8 r hh8 k8 hd8 => ?_
      have eD8 := k8 _ _ nDa eD
      have hk : ts.length = k := by omega
      have hix : ixN (ts.map V.str).length (-1) = some (k - 1) := by
        unfold ixN
        rw [List.length_map, hk]
        rw [if_neg (by omega), if_pos (by omega)]
        congr 1
        omega
      have hkd : d8 = .str "bag" ∨ d8 = .str "sum" ∨ ∃ j : Nat, d8 = .int j ∧ j < k := r
      refine ⟨_, rfl, _, _, hd8.dd, rfl, _, rfl, tst (fun e1 => ?_) fun e1 => ?_⟩
      case' refine_1 =>
        have e2 := eqS_of e1
        obtain ⟨t', et, ht1, ht2⟩ : ∃ t' : Str, t' = "number" ∧ (t' = "number" ∨ t' = "word") ∧ (d8 = .str "sum" → t' = "number") := ⟨_, rfl, .inl rfl, fun _ => rfl⟩
        rw [← et]
      case' refine_2 =>
        have hl0 : ts[k - 1]? = some ts[k - 1] := List.getElem?_eq_getElem (by omega)
        have hla : atI (ts.map V.str) (-1) = some (V.str ts[k - 1]) := atI_lastN (by
          have hq : (ts.map V.str)[k - 1]? = some (V.str ts[k - 1]) := by rw [List.getElem?_map, hl0]; rfl
          rw [List.getLast?_eq_getElem?]
          have : (ts.map V.str).length - 1 = k - 1 := by rw [List.length_map, hk]
          rw [this]
          exact hq)
        refine ⟨_, rfl, _, rfl, D, _, _, _, rfl, rfl, SqL.of eD8, hla, ?_⟩
        obtain ⟨t', et, ht1, ht2⟩ : ∃ t' : Str, t' = ts[k - 1] ∧ (t' = "number" ∨ t' = "word") ∧ (d8 = .str "sum" → t' = "number") := ⟨_, rfl, ht _ (List.getElem_mem _), fun e => by rw [e] at e1; exact absurd e1 (by decide)⟩
        rw [← et]
      all_goals
        refine ⟨_, rfl, _, rfl, D, _, _, k - 1, rfl, rfl, eD8, hix, ?_⟩
        rw [← List.map_set]
        generalize e2' : ts.set (k - 1) t' = ts2
        have l2 : ts2.length = k := by rw [← e2', List.length_set]; exact hk
        have m2 : ∀ t ∈ ts2, t = "number" ∨ t = "word" := fun t m => by
          rw [← e2'] at m
          rcases List.mem_or_eq_of_mem_set m with m | rfl
          · exact ht t m
          · exact ht1
        have g2 : d8 = .str "sum" → (ts2.map PyData.str).getLast? = some (.str "number") := fun e => by
          have h9 : ts2[k - 1]? = some t' := by
            rw [← e2', List.getElem?_set_self (by omega)]
          rw [List.getLast?_eq_getElem?, List.length_map, l2, List.getElem?_map, h9, ht2 e]
          rfl
        have hv : ∀ H' : Hp, Df' K H' v d8 := by
          rcases hkd with rfl | rfl | ⟨j, rfl, _⟩ <;> cases hd8 <;> intro H'
          · exact .str _
          · exact .str _
          · exact .int _
        have k18 : Keep a H' H8 := k5.trans (k6.trans k8)
        have eG8 := k18 _ _ nGa eG
        have eZ8 := k18 _ _ nZa eZ
        refine ⟨_, rfl, .inl ⟨rfl, _, SqL.of (by rw [upd_ne nDG]; exact eG8)⟩, _, rfl, _, rfl, _, rfl, D, _, rfl, SqL.of upd_same, fun p1 o1 hp1 ho1 => ⟨by rw [size6]; exact (by decide : 3 ≤ 16777216), fun p2 o2 hp2 ho2 => ?_⟩⟩
        have f9 : ∀ (ts : List Str) (H : Hp), DfAll K H (ts.map V.str) (ts.map PyData.str) := fun ts H => by
          induction ts with
          | nil => exact .nil
          | cons t r ih => exact .cons (.str t) ih
        have t1 := df_tup (K := K) hp1 ho1 (f9 ts2 _)
        have t2 := df_tup (K := K) hp2 ho2 (.cons (.str z) (.cons (hv _) (.cons t1 .nil)))
        have eG9 := (same_up (o := .frz o2 (.tup [.str z, v, .ref p1])) hp2) _ _ ((same_up (o := .frz o1 (.tup (ts2.map V.str))) hp1) _ _ (show (upd H8 D (.lst (ts2.map V.str))) G = some (.lst vs) by rw [upd_ne nDG]; exact eG8))
        have eZ9 := (same_up (o := .frz o2 (.tup [.str z, v, .ref p1])) hp2) _ _ ((same_up (o := .frz o1 (.tup (ts2.map V.str))) hp1) _ _ (show (upd H8 D (.lst (ts2.map V.str))) Z = some (.lst (zs.map V.str)) by rw [upd_ne nDZ]; exact eZ8))
        have kf := (((kpf_keep hh4.live k18).trans (kpf_lst (o := .lst (ts2.map V.str)) eD8)).trans (kpf_same (same_up (o := .frz o1 (.tup (ts2.map V.str))) hp1))).trans (kpf_same (same_up (o := .frz o2 (.tup [.str z, v, .ref p1])) hp2))
        refine ⟨G, _, _, rfl, rfl, eG9, ?_, ?_, ?_, vs ++ [.ref p2], ds ++ [.tuple [.str z, d8, .tuple (ts2.map PyData.str)]], _, _, _, _, rfl, upd_same, ?_, ?_, ?_, ?_⟩
        · have h1 : i < zs.length := (List.getElem?_eq_some_iff.mp hz).1
          have h2 := pz.length_eq
          have h3 := List.length_take_le (n + 1) ys
          rw [dall_len hd, el, size6]
          omega
        · exact (((hh8.set nDa nDc).same (same_up hp1)).same (same_up hp2)).set nGa nGc
        · intro b o nb eb
          have b1 : b ≠ G := ne_of_none (sN _ _ (k02 b o nb eb)) hG
          have b2 := k5 b o nb (k4 b o nb eb)
          have b3 : b ≠ D := ne_of_none b2 hD
          rw [upd_ne b1]
          refine same_up hp2 _ _ (same_up hp1 _ _ ?_)
          rw [upd_ne b3]
          exact (k6.trans k8) b o nb b2
        · rw [upd_ne nGZ.symm]
          exact eZ9
        · exact dfall_kp (dall_app (dfall_kp hd kf) (.cons t2 .nil)) (kpf_lst eG9)
        · rw [List.length_append, el]
          rfl
        · intro j x d h1 h2
          by_cases hj : j < ds.length
          · rw [List.getElem?_append_left hj] at h2
            exact hr j x d h1 h2
          · have hj2 : j = i := by
              have := (List.getElem?_eq_some_iff.mp h2).1
              rw [List.length_append, List.length_singleton] at this
              omega
            subst hj2
            rw [List.getElem?_append_right (by omega), el, Nat.sub_self] at h2
            have e3 : PyData.tuple [.str z, d8, .tuple (ts2.map PyData.str)] = d := Option.some.inj h2
            have e4 : z = x := by
              rw [hz] at h1
              exact Option.some.inj h1
            rw [← e3, ← e4]
            refine relR_of (perm.mem_iff.mp (List.mem_of_mem_take (pz.mem_iff.mp (List.mem_of_getElem? hz)))) (fun s m => ?_) (by rw [List.length_map]; omega) (by rw [List.length_map]; omega) ?_
            · obtain ⟨t, mt, rfl⟩ := List.mem_map.mp m
              rcases m2 t mt with rfl | rfl
              · exact .inl rfl
              · exact .inr rfl
            · rcases hkd with h | h | ⟨j, h, hj⟩
              · exact .inl h
              · exact .inr (.inl ⟨h, g2 h⟩)
              · exact .inr (.inr ⟨j, h, by rw [List.length_map]; omega⟩)
  · obtain ⟨hh4, k4, vs, ds, x4, x5, x6, x7, rfl, eG, eZ, hd, el, hr⟩ := z
    rw [List.length_map] at el
    refine ⟨_, rfl, G, vs, rfl, SqL.of eG, fun pp o hp ho => ?_⟩
    have t1 := df_tup hp ho hd
    refine q _ _ _ (schR_of sz ?_ ?_ ?_ ?_ el hr) (hh4.same (same_up hp)) (k4.trans (keep_same (same_up hp))) (Dd.same (visF_vis (hh4.live.same (same_up hp))) t1)
    · exact pz.nodup_iff.mpr ((perm.nodup_iff.mpr (by decide +kernel)).sublist (List.take_sublist _ _))
    · exact fun z m => perm.mem_iff.mp (List.mem_of_mem_take (pz.mem_iff.mp m))
    · have h2 := pz.length_eq
      have h3 := perm.length_eq
      have h4 : six.length = 6 := rfl
      rw [List.length_take] at h2
      omega
    · have h2 := pz.length_eq
      have h3 := perm.length_eq
      have h4 : six.length = 6 := rfl
      rw [List.length_take] at h2
      omega
end
end Sm
/-! A tuple many times: frozen, dictless. -/
namespace Tn
open PySem PySem.Spec PyProof.Rows L2
theorem tuple_mul1 (l : Addr) (items : Array Value) (n : Nat) (dd : Option Addr) (sl : Array (Option Value)) (u : Tok) (c1 : (items.isEmpty || (1 : Int) == 1) = true) :
    Meets (Builtin.«tuple.__mul__» ⟨[.ref l, .int 1 u], []⟩) (fun _ R s => s.heap.get? l = some { cls := .type "tuple", dict := dd, data := .seq items n, slots := sl } ∧ R (.ok (.ret (Value.ref l))) s) :=
  .of_wp fun prog w A R s h => by
    obtain ⟨hp, g, d, tk, os⟩ := s
    obtain ⟨hl, h⟩ := h
    have f1 := AutoSeq1.idx_int
    wp_walk using wpAny_loadPart' hl
    repeat (first
      | (refine wpAny_ite_true (decide_eq_true c1) ?_; wp_walk using wpAny_loadPart' hl)
      | (refine wpAny_ite_true (by rw [c1]) ?_; wp_walk using wpAny_loadPart' hl))
    exact ⟨_, rfl, h⟩
/-- t * k, k from 1 on -/
def rRepF (K : PySem.W.Frag) : R2 := fun x y H Q => ∃ l k xs, x = .ref l ∧ y = .int k ∧ SqT K H l xs ∧ xs ≠ [] ∧ 1 ≤ k ∧ k ≤ 1000 ∧ xs.length ≤ 1000 ∧ (k = 1 → Q (.ref l) H) ∧ (2 ≤ k → newT (List.replicate k.toNat xs).flatten H Q)
section
variable {X : Cx}
theorem op_repF : OpR X (binaryOp .Mult) (rRepF X.K) := by
  intro pins s σ H x y v u Q I rx ry h
  obtain ⟨l, k, xs, rfl, rfl, hT, hne, h1, h2, hz, q1, q2⟩ := h
  cases rx
  obtain ⟨t, rfl⟩ := ry
  obtain ⟨its, r, ⟨⟨cls, dd, data, sl⟩, ho, hc, n, hd⟩, hs⟩ := I.tuple hT
  simp only at hc hd
  subst hc hd
  by_cases hk : k = 1
  · subst hk
    exact wpAny_binaryOp_repeat_ref (T := "tuple") (U := "int") (by decide) ⟨_, ho, rfl⟩ (fun s' => typeIs_int s' 1 t) noFill_tuple_mul F.fills_int_mul F.slot_int_rmul repeat_tuple F.slot_int_index.lookup
      (call_meets F.slot_int_rmul (typeIs_int s 1 t) F.entry_int_rmul (F.args_int_rmul_2 _ _) (int_rmul_tuple 1 t l its.toArray n dd sl)
        ⟨ho, rfl, ⟨_, ho, rfl⟩, call_meets F.slot_tuple_mul ⟨_, ho, rfl⟩ F.entry_tuple_mul (F.args_tuple_mul_2 _ _) (tuple_mul1 l its.toArray n dd sl t (by simp)) ⟨ho, ⟨.ref l, H, I, rfl, q1 rfl⟩⟩⟩)
  have hle : its.length = xs.length := r.length.symm
  have hn : its ≠ [] := fun e => hne (by
    rw [e] at hle
    exact List.eq_nil_of_length_eq_zero hle.symm)
  have hi : its.toArray.isEmpty = false := by
    cases its with
    | nil => exact absurd rfl hn
    | cons a b => rfl
  have hsz0 : its.toArray.size = xs.length := by rw [List.size_toArray, hle]
  have hm : ((its.toArray.size : Nat) : Int) * k ≤ 1000000 := by
    rw [hsz0]
    have a1 : ((xs.length : Nat) : Int) * k ≤ 1000 * k := Int.mul_le_mul_of_nonneg_right (by omega) (by omega)
    omega
  have flen : (List.replicate k.toNat its).flatten.length ≤ sizeLine := by
    rw [PyProof.Rows.lm_len_rep_flat, hle, sizeLine_eq]
    have a1 : k.toNat * xs.length ≤ 1000 * 1000 := Nat.mul_le_mul (by omega) hz
    omega
  have c0 : (decide (k < -(2 ^ 63)) || decide (k ≥ 2 ^ 63)) = false := by
    rw [decide_eq_false (by omega), decide_eq_false (by omega)] <;> rfl
  have c1 : (its.toArray.isEmpty || k == 1) = false := by
    rw [hi, Bool.false_or]
    exact beq_eq_false_iff_ne.mpr (by omega)
  have c2 : (decide (k ≤ 0) || its.toArray.isEmpty) = false := by
    rw [hi, Bool.or_false]
    exact decide_eq_false (by omega)
  have c4 : Builtin.Tuple.tupleTooMany (((its.toArray.size : Nat) : Int) * k) = false := by
    unfold Builtin.Tuple.tupleTooMany
    rw [sizeLine_eq]
    exact decide_eq_false (by omega)
  refine wpAny_binaryOp_repeat_ref (T := "tuple") (U := "int") (by decide) ⟨_, ho, rfl⟩ (fun s' => typeIs_int s' k t) noFill_tuple_mul F.fills_int_mul F.slot_int_rmul repeat_tuple F.slot_int_index.lookup
    (call_meets F.slot_int_rmul (typeIs_int s k t) F.entry_int_rmul (F.args_int_rmul_2 _ _) (int_rmul_tuple k t l its.toArray n dd sl)
      ⟨ho, rfl, ⟨_, ho, rfl⟩, call_meets F.slot_tuple_mul ⟨_, ho, rfl⟩ F.entry_tuple_mul (F.args_tuple_mul_2 _ _) (tuple_mulW l its.toArray n dd sl k t c0 c1 c2 (by omega) c4 (by rw [size_rep, List.size_toArray]; exact flen)) ⟨ho, ?_⟩⟩)
  rw [size_rep]
  exact ⟨.ref s.heap.objs.size, _, laidT (t' := s.toks) I (r.rep k.toNat) (by rw [PyProof.Rows.lm_len_rep_flat, sizeLine_eq]; have a1 : k.toNat * xs.length ≤ 1000 * 1000 := Nat.mul_le_mul (by omega) hz; omega), rfl, q2 (by omega) _ _ (I.hok.fresh (Nat.le_refl _)) rfl⟩
end
end Tn
namespace Sm
open PySem PySem.Spec PyProof.Rows L2 Tn Vd RZ Gd
/-! ### data without lists and dicts -/
mutual
def noL : PyData → Bool
  | .list _ => false
  | .dict _ => false
  | .tuple ds => noLL ds
  | _ => true
def noLL : List PyData → Bool
  | [] => true
  | d :: r => noL d && noLL r
end
mutual
theorem toF {K : PySem.W.Frag} {H : Hp} : ∀ {v : V} {d : PyData}, Dd K H v d → noL d = true → Dd K (visF H) v d
  | _, _, .non, _ => .non
  | _, _, .bl b, _ => .bl b
  | _, _, .int i, _ => .int i
  | _, _, .str x, _ => .str x
  | _, _, .lst _ _ _, n => by
    unfold noL at n
    cases n
  | _, _, .tup h r, n => by
    unfold noL at n
    obtain ⟨o, h1, h2⟩ := h
    exact .tup ⟨o, visF_at h1, h2⟩ (toFAll r n)
  | _, _, .dct _ _, n => by
    unfold noL at n
    cases n
theorem toFAll {K : PySem.W.Frag} {H : Hp} : ∀ {vs : List V} {ds : List PyData}, DdAll K H vs ds → noLL ds = true → DdAll K (visF H) vs ds
  | _, _, .nil, _ => .nil
  | _, _, .cons h r, n => by
    unfold noLL at n
    obtain ⟨n1, n2⟩ := Bool.and_eq_true_iff.mp n
    exact .cons (toF h n1) (toFAll r n2)
end
theorem noLL_of : ∀ {ds : List PyData}, (∀ d ∈ ds, noL d = true) → noLL ds = true
  | [], _ => by unfold noLL; rfl
  | d :: r, h => by
    unfold noLL
    rw [h d List.mem_cons_self, noLL_of fun x m => h x (List.mem_cons_of_mem _ m)]
    rfl
theorem noL_tup {ds : List PyData} (h : ∀ d ∈ ds, noL d = true) : noL (.tuple ds) = true := by
  unfold noL
  exact noLL_of h
theorem dv_toF {K : PySem.W.Frag} {a : Addr} {H : Hp} {v : V} {d : PyData} (h : Dv a K H v d) (n : noL d = true) : Df' K H v d := toF h.dd n
theorem df_dv {K : PySem.W.Frag} {a : Addr} {H : Hp} {v : V} {d : PyData} (hl : Live a H) (h : Df' K H v d) : Dv a K H v d := Dd.same (visF_vis hl) h
theorem dfall_dv {K : PySem.W.Frag} {a : Addr} {H : Hp} {v : List V} {d : List PyData} (hl : Live a H) (h : DfAll K H v d) : DvAll a K H v d := DdAll.same (visF_vis hl) h
theorem noL_worth {d : PyData} (h : worthD d = true) : noL d = true := by
  cases d <;> first | rfl | (exfalso; revert h; unfold worthD smallD wordD intD; simp [isI, isS, isB])
theorem worth_of {s d : PyData} (h : sortWD s d = true) : worthD d = true := by
  unfold sortWD at h
  unfold worthD
  by_cases e : eqS s "word" = true
  · rw [if_pos e] at h
    rw [h, Bool.or_true]
  · rw [if_neg e] at h
    rw [h]
    rfl
section
variable {P : Program} {w : World} {K : PySem.W.Frag} {mg : Str → Option Value} {base : Heap}
/-! ### _law_some of a tuple -/
def spSomeT (K : PySem.W.Frag) : Sp := fun vs H Q _ => ∃ (a c l : Addr) (xs : List V), vs = [.ref a, .ref l] ∧ HandC H a c ∧ SqT K H l xs ∧ (∀ H', Keep a H H' → SqT K H' l xs) ∧ 0 < xs.length ∧ xs.length ≤ 1000 ∧ ∀ (x : V) (H' : Hp), x ∈ xs → HandC H' a c → Keep a H H' → Q x H'
theorem ok_someT {f : Addr} {fd : FuncData} (F : FnP K "_law_some" sSome f fd) (D : Df P w K mg base "_law_draw" 1 ["hand", "many"] spDraw) (m3 : mg "len" = none) : FnOk P w K mg base CX0 2 f fd ["hand", "things"] (spSomeT K) := by
  refine F.ok scSome (fun vs H Q E h => ?_) (fun cdv A outer s H vs Q E hr h => ?_)
  · obtain ⟨a, c, l, xs, rfl, _⟩ := h
    rfl
  · obtain ⟨a, c, l, xs, rfl, hh, hS, hK, h0, h1, q⟩ := h
    refine ⟨_, PSs.nox (pss_one (ps_ret (pe_ix ix_tup (pv 1) (pe_df D hr (by decide) (pa_cons (pv 0) (pa_cons (pe_callB call_len_seq (by rfl) m3 PySem.boot_len (pa_cons (pv 1) pa_nil)) pa_nil))) (fun _ _ => rfl)))), ?_⟩
    refine ⟨_, rfl, _, rfl, _, rfl, l, _, rfl, .inr hS, a, c, _, rfl, hh, by omega, by omega, fun d H' d0 d1 hh' kp => ?_⟩
    obtain ⟨j, rfl⟩ : ∃ j : Nat, d = (j : Int) := ⟨d.toNat, by omega⟩
    have hj : j < xs.length := by omega
    exact ⟨l, _, _, xs[j], rfl, rfl, hK H' kp, atI_nat (List.getElem?_eq_getElem hj), q _ _ (List.getElem_mem hj) hh' kp⟩
abbrev DSomeT (P : Program) (w : World) (K : PySem.W.Frag) (mg : Str → Option Value) (base : Heap) : Prop := Df P w K mg base "_law_some" 2 ["hand", "things"] (spSomeT K)
theorem ye_someT {a c : Addr} {H0 : Hp} {σ : L2.St} {R : PyData → Prop} {i j : Nat} {v : V} {ds : List PyData} (hσ : σ[i]? = some (some (.ref a))) (hj : σ[j]? = some (some v)) (hd : Dv a K H0 v (.tuple ds)) (h0 : 0 < ds.length) (h1 : ds.length ≤ 1000) (hR : ∀ d ∈ ds, R d) : YE a c K H0 σ (tCall (spSomeT K) [] E0 (tCons (tVar i) (tCons (tVar j) tNil))) R := fun H Q hh k q => by
  obtain ⟨p, xs, rfl, t0, g0⟩ := ofTup' (hd.ky k)
  have hl := dall_len g0
  refine ⟨_, hσ, _, hj, a, c, p, xs, rfl, hh, (tupN_vis t0).sq, fun H' kk => ?_, by omega, by omega, fun x H' hx hh' kk => ?_⟩
  · obtain ⟨o, z, _⟩ := t0
    obtain ⟨z1, z2, _⟩ := vis_sub z
    exact .inl (.inr ⟨o, kk _ _ z2 z1⟩)
  · obtain ⟨d, m, hdd⟩ := dall_mem g0 hx
    exact q x d H' (hR d m) hh' kk (Dv.ky hdd kk)
/-! ### rules -/
structure RuleR (e d : PyData) : Prop where
  p : RuleP e d
  bd : Bd 3300 5 0 d
  no : noL d = true
def RT (d : PyData) : Prop := TermP d ∧ Bd 220 1 0 d ∧ noL d = true
theorem rt_var {j : Nat} (h : j < 5) : RT (.tuple [.str "?", .int (j : Int)]) := by
  have hb : Bd 220 1 0 (.tuple [.str "?", .int (j : Int)]) := by
    refine (bd_tup (n := 70) (k := 0) (b := 0) (m := 2) (fun d m => ?_) (Nat.le_refl _)).mono (by decide) (by decide) (Nat.le_refl _)
    simp only [List.mem_cons, List.not_mem_nil, or_false] at m
    rcases m with rfl | rfl
    · exact (bd_str (n := 1) (by decide +kernel) (by decide +kernel)).mono (by decide) (by decide) (Nat.le_refl _)
    · refine bd_int ?_ (by decide)
      have big : (5 : Nat) ≤ 10 ^ 30 := by decide
      generalize (10 : Nat) ^ 30 = B at big ⊢
      omega
  refine ⟨⟨hb.okD (by decide), ?_⟩, hb, by rfl⟩
  unfold termD
  have : varD (.tuple [.str "?", .int (j : Int)]) = true := by
    show (true && (true && (decide (0 ≤ (j : Int)) && decide ((j : Int) < 20)))) = true
    rw [decide_eq_true (by omega), decide_eq_true (by omega)]
    rfl
  rw [this, Bool.or_true]
theorem rt_worth {d : PyData} (h : worthD d = true) (hb : Bd 210 0 0 d) : RT d := ⟨⟨hb.okD (by decide), by unfold termD; rw [h]; rfl⟩, hb.mono (by decide) (by decide) (Nat.le_refl _), noL_worth h⟩
/-- a condition that is drawn -/
structure CondR (e c : PyData) : Prop where
  p : CondP e c
  bd : Bd 1300 3 0 c
  no : noL c = true
theorem asked_of {e r : PyData} {x : Str} {k : PyData} {ss ts : List PyData} (h : SchR e) (m : r ∈ partsD e) (er : r = .tuple [.str x, k, .tuple ss]) (hr : relD r = true) (hl : ts.length = ss.length) (h1 : 1 ≤ ss.length) (h5 : ss.length ≤ 5) (ht : ∀ t ∈ ts, AskP t) : AskedP e (.str x) (.tuple ts) := by
  have h6 := h.six r m
  have hs := relOf_self h m
  rw [er] at h6 hs
  obtain ⟨n1, n2, n3, n4⟩ := six_name x h6
  exact ⟨x, ts, rfl, rfl, n1, n2, (bd_str (b := 0) n3 n4).okD (by decide), by omega, by omega, ht, .inr ⟨.str x, k, ss, hs, hl.symm⟩⟩
theorem name_bd {e r : PyData} (h : SchR e) (m : r ∈ partsD e) : Bd 85 0 0 (.str (strOf (at_ r 0))) := by
  obtain ⟨n1, n2, n3, n4⟩ := six_name _ (h.six r m)
  exact bd_str n3 n4
/-- sums of sizes -/
theorem bd_tup3 {n1 n2 n3 k : Nat} {x y z : PyData} (h1 : Bd n1 k 0 x) (h2 : Bd n2 k 0 y) (h3 : Bd n3 k 0 z) : Bd (n1 + n2 + n3 + 20) (k + 1) 0 (.tuple [x, y, z]) := bd_tupL (fun d m => by
    simp only [List.mem_cons, List.not_mem_nil, or_false] at m
    rcases m with rfl | rfl | rfl
    · exact ⟨h1.ok, h1.dp, h1.ib⟩
    · exact ⟨h2.ok, h2.dp, h2.ib⟩
    · exact ⟨h3.ok, h3.dp, h3.ib⟩) (by
  have := h1.sz
  have := h2.sz
  have := h3.sz
  rw [szL_cons, szL_cons, szL_cons, szL_nil]
  omega)
theorem bd_tup2 {n1 n2 k : Nat} {x y : PyData} (h1 : Bd n1 k 0 x) (h2 : Bd n2 k 0 y) : Bd (n1 + n2 + 15) (k + 1) 0 (.tuple [x, y]) := bd_tupL (fun d m => by
    simp only [List.mem_cons, List.not_mem_nil, or_false] at m
    rcases m with rfl | rfl
    · exact ⟨h1.ok, h1.dp, h1.ib⟩
    · exact ⟨h2.ok, h2.dp, h2.ib⟩) (by
  have := h1.sz
  have := h2.sz
  rw [szL_cons, szL_cons, szL_nil]
  omega)
theorem bd_tup4 {n1 n2 n3 n4 k : Nat} {x y z u : PyData} (h1 : Bd n1 k 0 x) (h2 : Bd n2 k 0 y) (h3 : Bd n3 k 0 z) (h4 : Bd n4 k 0 u) : Bd (n1 + n2 + n3 + n4 + 25) (k + 1) 0 (.tuple [x, y, z, u]) := bd_tupL (fun d m => by
    simp only [List.mem_cons, List.not_mem_nil, or_false] at m
    rcases m with rfl | rfl | rfl | rfl
    · exact ⟨h1.ok, h1.dp, h1.ib⟩
    · exact ⟨h2.ok, h2.dp, h2.ib⟩
    · exact ⟨h3.ok, h3.dp, h3.ib⟩
    · exact ⟨h4.ok, h4.dp, h4.ib⟩) (by
  have := h1.sz
  have := h2.sz
  have := h3.sz
  have := h4.sz
  rw [szL_cons, szL_cons, szL_cons, szL_cons, szL_nil]
  omega)
theorem noL_str {x : Str} : noL (.str x) = true := rfl
theorem noL_int {x : Int} : noL (.int x) = true := rfl
theorem noL2 {x y : PyData} (h1 : noL x = true) (h2 : noL y = true) : noL (.tuple [x, y]) = true := noL_tup fun d m => by
  simp only [List.mem_cons, List.not_mem_nil, or_false] at m
  rcases m with rfl | rfl <;> assumption
theorem noL3 {x y z : PyData} (h1 : noL x = true) (h2 : noL y = true) (h3 : noL z = true) : noL (.tuple [x, y, z]) = true := noL_tup fun d m => by
  simp only [List.mem_cons, List.not_mem_nil, or_false] at m
  rcases m with rfl | rfl | rfl <;> assumption
theorem noL4 {x y z u : PyData} (h1 : noL x = true) (h2 : noL y = true) (h3 : noL z = true) (h4 : noL u = true) : noL (.tuple [x, y, z, u]) = true := noL_tup fun d m => by
  simp only [List.mem_cons, List.not_mem_nil, or_false] at m
  rcases m with rfl | rfl | rfl | rfl <;> assumption
end
end Sm
namespace Sm
open PySem PySem.Spec PyProof.Rows L2 Tn Vd RZ Gd
theorem dall_set {K : PySem.W.Frag} {H : Hp} {v : V} {d : PyData} : ∀ {vs : List V} {ds : List PyData}, DdAll K H vs ds → Dd K H v d → ∀ j : Nat, DdAll K H (vs.set j v) (ds.set j d)
  | _, _, .nil, _, _ => .nil
  | _, _, .cons h r, hv, 0 => .cons hv r
  | _, _, .cons h r, hv, j + 1 => .cons h (dall_set r hv j)
section
variable {P : Program} {w : World} {K : PySem.W.Frag} {mg : Str → Option Value} {base : Heap}
abbrev sRuleD : Stmt := top 68
theorem scRuleD : FnScope ["hand", "schema", "name", "kind", "sorts", "terms", "at", "body"] ["hand", "schema"] (defScope sRuleD) := ⟨rfl, rfl, rfl, by decide +kernel, rfl, by decide +kernel, by decide +kernel⟩
theorem ok_ruleD {f : Addr} {fd : FuncData} (F : FnP K "_law_rule" sRuleD f fd) (M : Nm mg) (DD : DDraw P w K mg base) (DS : DSome P w K mg base) (DST : DSomeT P w K mg base) (DW : Df P w K mg base "_law_worth" 3 ["hand", "sort"] (spZ K (fun s => sortD s = true) RW)) : FnOk P w K mg base CX0 4 f fd ["hand", "schema"] (spZ K SchR RuleR) := by
  refine F.ok scRuleD spZ_len (fun cdv A outer s H vs Q E hr h => ?_)
  obtain ⟨a, c, u, e, rfl, hh, he, hs, q⟩ := h
  refine ⟨_, PSs.nox (pss_cons (ps_asg (pe_df DST hr (by decide) (pa_cons (pv 0) (pa_cons (pv 1) pa_nil))) (pg_tup rfl (pgs_cons (pg_name (i := 2) scRuleD.nd rfl (Or.inl rfl)) (pgs_cons (pg_name (i := 3) scRuleD.nd rfl (Or.inl rfl)) (pgs_cons (pg_name (i := 4) scRuleD.nd rfl (Or.inl rfl)) pgs_nil)))))
      (pss_cons (ps_setLc (i := 5) (own := [("at", 6)]) (g := gName 6) (tt := tYes) rfl scRuleD.nd rfl rfl (sw_true rfl rfl rfl (by decide +kernel)) (pi_range1 (by rfl) M.range (pa_cons (pe_callB call_len_seq (by rfl) M.len PySem.boot_len (pa_cons (pv 4) pa_nil)) pa_nil)) (blkOk_by (N := ["hand", "schema", "name", "kind", "sorts", "terms", "at", "body"]) (sc := defScope sRuleD) (by decide +kernel)) (fun _ _ _ _ _ => pg_name (i := 6) scRuleD.nd rfl (Or.inl rfl)) (fun _ _ _ _ _ => pts_nil) (fun _ _ _ _ _ => (pe_tupF (pa_cons pe_str (pa_cons (pv 6) pa_nil)))))
      (pss_cons (ps_asg (pe_df DS hr (by decide) (pa_cons (pv 0) (pa_cons (pe_lst (pa_cons (pe_ix ix_list (pv 5) (pe_un un_neg pe_int) (fun _ _ => rfl)) (pa_cons (pe_ix ix_list (pv 5) (pe_un un_neg pe_int) (fun _ _ => rfl)) (pa_cons (pe_ix ix_list (pv 5) pe_int (fun _ _ => rfl)) (pa_cons (pe_df DW hr (by decide) (pa_cons (pv 0) (pa_cons (pe_ix ix_tup (pv 4) (pe_un un_neg pe_int) (fun _ _ => rfl)) pa_nil))) pa_nil))))) pa_nil))) (pg_sub (pv 5) (pe_un un_neg pe_int) set_list))
      (pss_cons (ps_set (i := 7) scRuleD.nd rfl (Or.inl rfl) (pe_lst (pa_cons (pe_tupF (pa_cons pe_str (pa_cons (pv 2) (pa_cons (pe_tof (by rfl) M.tuple (pv 5)) pa_nil)))) pa_nil)))
      (C8.pss_cut (ps_if (pt_cmpR op_eq (pe_df DD hr (by decide) (pa_cons (pv 0) (pa_cons pe_int pa_nil))) pe_int (nomark _)) (pss_one (ps_expr (pe_bm PySem.F.plainAttrs_list PySem.F.slot_list_append PySem.F.type_list_append mt_append (pv 7) (pa_cons (pe_tupF (pa_cons (pe_df DS hr (by decide) (pa_cons (pv 0) (pa_cons (pe_lst (pa_cons pe_str (pa_cons pe_str (pa_cons pe_str pa_nil)))) pa_nil))) (pa_cons (pe_tupF (pa_cons pe_str (pa_cons pe_int pa_nil))) (pa_cons (pe_df DW hr (by decide) (pa_cons (pv 0) (pa_cons (pe_ix ix_tup (pv 4) pe_int (fun _ _ => rfl)) pa_nil))) pa_nil)))) pa_nil)))) pss_nil)
      (C8.pss_cut (ps_if (pt_cmpR op_eq (pe_df DD hr (by decide) (pa_cons (pv 0) (pa_cons pe_int pa_nil))) pe_int (nomark _)) (pss_one (ps_expr (pe_bm PySem.F.plainAttrs_list PySem.F.slot_list_append PySem.F.type_list_append mt_append (pv 7) (pa_cons (pe_tupF (pa_cons pe_str (pa_cons (pe_df DS hr (by decide) (pa_cons (pv 0) (pa_cons (pe_lst (pa_cons pe_str (pa_cons pe_str pa_nil))) pa_nil))) (pa_cons (pe_tupF (pa_cons (pe_tupF (pa_cons pe_str (pa_cons pe_int pa_nil))) pa_nil)) pa_nil)))) pa_nil)))) pss_nil)
      (C8.pss_cut (ps_if (pt_cmpR op_eq (pe_df DD hr (by decide) (pa_cons (pv 0) (pa_cons pe_int pa_nil))) pe_int (nomark _)) (pss_one (ps_expr (pe_bm PySem.F.plainAttrs_list PySem.F.slot_list_append PySem.F.type_list_append mt_append (pv 7) (pa_cons (pe_tupF (pa_cons pe_str (pa_cons pe_int (pa_cons (pv 2) (pa_cons (pe_op (r := rRepF K) op_repF (pe_tupF (pa_cons (pe_tupF (pa_cons pe_str pa_nil)) pa_nil)) (pe_callB call_len_seq (by rfl) M.len PySem.boot_len (pa_cons (pv 4) pa_nil))) pa_nil))))) pa_nil)))) pss_nil)
      (pss_one (ps_ret (pe_tupF (pa_cons (pe_tupF (pa_cons (pe_df DS hr (by decide) (pa_cons (pv 0) (pa_cons (pe_lst (pa_cons pe_str (pa_cons pe_str (pa_cons pe_str pa_nil)))) pa_nil))) (pa_cons (pe_tupF (pa_cons (pe_tupF (pa_cons pe_str (pa_cons pe_int pa_nil))) pa_nil)) pa_nil))) (pa_cons (pe_tof (by rfl) M.tuple (pv 7)) pa_nil)))))))))))), ?_⟩
  obtain ⟨rs, rfl, l1, l8, hrel⟩ := schD_of hs.sch
  refine ye_someT (a := a) (c := c) (K := K) (H0 := H) (R := fun r => r ∈ rs) rfl rfl he (by omega) (by omega) (fun _ m => m) H _ hh .refl fun v1 r H1 hr1 hh1 k1 hd1 => ?_
  obtain ⟨x, k, ss, er, hn, hss, hk⟩ := relD_of (hrel r hr1)
  subst er
  obtain ⟨p1, xs1, rfl, t1, g1⟩ := ofTup' hd1
  obtain ⟨w1, r1, rfl, b1, g1⟩ := dall_uncons g1
  obtain ⟨w2, r2, rfl, b2, g1⟩ := dall_uncons g1
  obtain ⟨w3, r3, rfl, b3, g1⟩ := dall_uncons g1
  cases dall_unnil g1
  cases b1
  refine ⟨p1, _, rfl, (tupN_vis t1).sq, rfl, _, _, rfl, _, _, rfl, _, _, rfl, rfl, ?_⟩
  obtain ⟨p4, xs4, rfl, t4, g4⟩ := ofTup' b3
  have l4 := dall_len g4
  obtain ⟨s1, s5⟩ : 1 ≤ ss.length ∧ ss.length ≤ 5 := by
    obtain ⟨z, e1, e2, e3⟩ := tupOf_of (Bool.and_eq_true_iff.mp hss).1
    cases e1
    omega
  have hsort : ∀ z ∈ ss, sortD z = true := fun z m => List.all_eq_true.mp (Bool.and_eq_true_iff.mp hss).2 z m
  have sq4 : ∀ H', Keep a H1 H' → SqT K H' p4 xs4 := fun H' kk => by
    obtain ⟨o, z, _⟩ := t4
    obtain ⟨z1, z2, _⟩ := vis_sub z
    exact .inl (.inr ⟨o, kk _ _ z2 z1⟩)
  refine ⟨_, rfl, p4, _, rfl, .inr (tupN_vis t4).sq, _, rfl, by omega, by omega, fun D hD => ?_⟩
  have nDa := hh1.live.ne hD
  have nDc := hh1.cne hD
  refine lc_range (n := (xs4.length : Int).toNat) (fun i H6 => HandC H6 a c ∧ Keep a H1 H6 ∧ ∃ (vs : List V) (ds : List PyData), H6 D = some (.lst vs) ∧ DfAll K H6 vs ds ∧ ds.length = i ∧ ∀ d ∈ ds, RT d) ⟨hh1.same (same_up hD), keep_same (same_up hD), [], [], upd_same, .nil, rfl, fun _ z => absurd z (by simp)⟩ (fun i H6 hi z6 => ?_) (fun H6 z6 => ?_)
  · obtain ⟨hh6, k6, vs, ds, eD, hd, el, hp⟩ := z6
    refine ⟨rfl, _, rfl, by rw [size6]; exact (by decide : 2 ≤ 16777216), fun p o hp1 ho1 => ?_⟩
    have eD2 := same_up (o := .frz o (.tup [.str "?", .int (0 + (i : Int))])) hp1 _ _ eD
    have t5 := df_tup (K := K) hp1 ho1 (.cons (.str "?") (.cons (.int (0 + (i : Int))) .nil))
    refine ⟨vs, eD2, by rw [dall_len hd, size6]; omega, (hh6.same (same_up hp1)).set nDa nDc, ?_, vs ++ [.ref p], ds ++ [.tuple [.str "?", .int (0 + (i : Int))]], upd_same, ?_, by rw [List.length_append, el]; rfl, fun d m => ?_⟩
    · intro b o nb eb
      rw [upd_ne (ne_of_none eb hD)]
      exact same_up hp1 _ _ (k6 b o nb eb)
    · exact dfall_kp (dall_app (dfall_kp hd (kpf_same (same_up hp1))) (.cons t5 .nil)) (kpf_lst eD2)
    · rcases List.mem_append.mp m with m | m
      · exact hp d m
      · rw [List.mem_singleton.mp m, Int.zero_add]
        exact rt_var (by omega)
  · obtain ⟨hh6, k6, vs, ds, eD, hd, el, hp⟩ := z6
    have ln : ds.length = ss.length := by
      rw [el, ← l4]
      omega
    have lv := dall_len hd
    have k16 : Keep a H H6 := k1.trans k6
    have atD : ∀ (j : Nat) (i : Int), j < ds.length → ixN vs.length i = some j → ∃ v d, atI vs i = some v ∧ Df' K H6 v d ∧ RT d := fun j i hj hi => by
      obtain ⟨v, e1, e2⟩ := dall_at hd (List.getElem?_eq_getElem hj)
      exact ⟨v, ds[j], by unfold atI; rw [hi]; exact e1, e2, hp _ (List.getElem_mem hj)⟩
    have ixL : ixN vs.length (-1) = some (ss.length - 1) := by
      unfold ixN
      rw [lv, ln, if_neg (by omega), if_pos (by omega)]
      congr 1
      omega
    have ix0 : ixN vs.length 0 = some 0 := by
      unfold ixN
      rw [lv, ln, if_pos (by omega), if_pos (by omega)]
      rfl
    have yD : ∀ (i : Int) (j : Nat) (σ : L2.St) (t : TE), σ[5]? = some (some (.ref D)) → YI σ t i → j < ds.length → ixN vs.length i = some j → YE a c K H6 σ (tOp (rIxL K) (tVar 5) t) RT := fun i j σ t h5 ht hj hi H7 Q7 hh7 k7 q7 => by
      obtain ⟨v, d, e1, e2, e3⟩ := atD j i hj hi
      refine ⟨_, h5, ht H7 _ ⟨D, vs, i, v, rfl, rfl, SqL.of (k7 _ _ nDa eD), e1, ?_⟩⟩
      exact q7 v d H7 e3 hh7 .refl (df_dv hh7.live (Dd.same (kpf_keep hh6.live k7) e2))
    have yS : ∀ (H6 : Hp), Keep a H1 H6 → ∀ (i : Int) (j : Nat) (σ : L2.St) (t : TE), σ[4]? = some (some (.ref p4)) → YI σ t i → j < ss.length → ixN xs4.length i = some j → YE a c K H6 σ (tOp (rIxT K) (tVar 4) t) (fun s => sortD s = true) := fun H6 k6 i j σ t h5 ht hj hi H7 Q7 hh7 k7 q7 => by
      obtain ⟨v, e1, e2⟩ := dall_at (g4.ky (k6.trans k7)) (List.getElem?_eq_getElem hj)
      exact ⟨_, h5, ht H7 _ ⟨p4, xs4, i, v, rfl, rfl, sq4 H7 (k6.trans k7), by unfold atI; rw [hi]; exact e1, q7 v ss[j] H7 (hsort _ (List.getElem_mem hj)) hh7 .refl e2⟩⟩
    have ixS : ixN xs4.length (-1) = some (ss.length - 1) := by
      unfold ixN
      rw [l4, if_neg (by omega), if_pos (by omega)]
      congr 1
      omega
    have ixS0 : ixN xs4.length 0 = some 0 := by
      unfold ixN
      rw [l4, if_pos (by omega), if_pos (by omega)]
      rfl
    have iW : ∀ d, (∃ s, sortD s = true ∧ RW s d) → RT d := fun d z => by
      obtain ⟨s, _, h1, h2⟩ := z
      exact rt_worth (worth_of h1) h2
    refine ye_some (a := a) (c := c) (K := K) (H0 := H6) (σ := [some (.ref a), some u, some (.str x), some w2, some (.ref p4), some (.ref D), none, none]) (n := 4) (R := RT) rfl (ya_cons (yD (-1) _ _ _ rfl (yi_neg yi_c) (by omega) ixL) (ya_cons (yD (-1) _ _ _ rfl (yi_neg yi_c) (by omega) ixL) (ya_cons (yD 0 _ _ _ rfl yi_c (by omega) ix0) (ya_cons (YE.imp (ye_z (F := fun s => sortD s = true) rfl (yS H6 k6 (-1) _ _ _ rfl (yi_neg yi_c) (by omega) ixS)) iW) ya_nil)))) (by decide) (by decide) H6 _ hh6 .refl fun v7 d7 H7 r7 hh7 k7 hd7 => ?_
    have eD7 := k7 _ _ nDa eD
    refine ⟨_, rfl, _, rfl, D, _, _, _, rfl, rfl, eD7, ixL, ?_⟩
    have hd7' := dv_toF hd7 r7.2.2
    have hdB : DfAll K (upd H7 D (.lst (vs.set (ss.length - 1) v7))) (vs.set (ss.length - 1) v7) (ds.set (ss.length - 1) d7) := dfall_kp (dall_set (dfall_kp hd (kpf_keep hh6.live k7)) hd7' _) (kpf_lst eD7)
    have hpB : ∀ d ∈ ds.set (ss.length - 1) d7, RT d := fun d m => by
      rcases List.mem_or_eq_of_mem_set m with m | rfl
      · exact hp d m
      · exact r7
    have lnB : (ds.set (ss.length - 1) d7).length = ss.length := by rw [List.length_set, ln]
    generalize hvs : vs.set (ss.length - 1) v7 = vsB at *
    generalize hds : ds.set (ss.length - 1) d7 = dsB at *
    have hh8 : HandC (upd H7 D (.lst vsB)) a c := hh7.set nDa nDc
    have k8 : Keep a H (upd H7 D (.lst vsB)) := fun b o nb eb => by
      rw [upd_ne (ne_of_none (k1 b o nb eb) hD)]
      exact (k16.trans k7) b o nb eb
    have k18 : Keep a H1 (upd H7 D (.lst vsB)) := fun b o nb eb => by
      rw [upd_ne (ne_of_none eb hD)]
      exact (k6.trans k7) b o nb eb
    have eD8 : (upd H7 D (.lst vsB)) D = some (.lst vsB) := upd_same
    generalize hH8 : upd H7 D (.lst vsB) = H8 at *
    refine ⟨_, rfl, _, rfl, D, _, rfl, SqL.of eD8, fun p1 o1 hp1 ho1 => ⟨by rw [size6]; exact (by decide : 3 ≤ 16777216), fun p2 o2 hp2 ho2 => ⟨by rw [size6]; exact (by decide : 1 ≤ 16777216), fun B hB => ?_⟩⟩⟩
    have u1 := df_tup (K := K) hp1 ho1 hdB
    have u2 := df_tup (K := K) hp2 ho2 (.cons (.str "is") (.cons (.str x) (.cons u1 .nil)))
    have hh9 := ((hh8.same (same_up (o := .frz o1 (.tup vsB)) hp1)).same (same_up (o := .frz o2 (.tup [.str "is", .str x, .ref p1])) hp2))
    have sm9 := (same_up (o := .frz o1 (.tup vsB)) hp1).trans (same_up (o := .frz o2 (.tup [.str "is", .str x, .ref p1])) hp2)
    have nBa := hh9.live.ne hB
    have nBc := hh9.cne hB
    have hnm := name_bd hs hr1
    have hno : ∀ d ∈ dsB, noL d = true := fun d m => (hpB d m).2.2
    have hbT : Bd 1130 2 0 (.tuple dsB) := (bd_tup (n := 220) (k := 1) (b := 0) (m := 5) (fun d m => (hpB d m).2.1) (by omega)).mono (by decide) (by decide) (Nat.le_refl _)
    have cIs : CondR (.tuple rs) (.tuple [.str "is", .str x, .tuple dsB]) := ⟨.ask "is" _ _ (by decide) (asked_of hs hr1 rfl (hrel _ hr1) lnB s1 s5 fun t m => ⟨(hpB t m).1.1, .inl (hpB t m).1.2⟩), (bd_tup3 ((bd_str (n := 2) (b := 0) (by decide +kernel) (by decide +kernel)).mono (Nat.le_refl _) (by decide) (Nat.le_refl _)) (hnm.mono (Nat.le_refl _) (by decide) (Nat.le_refl _)) hbT).mono (by decide) (by decide) (Nat.le_refl _), noL3 rfl rfl (noL_tup hno)⟩
    let σ0 : L2.St := [some (.ref a), some u, some (.str x), some w2, some (.ref p4), some (.ref D), none, some (.ref B)]
    let BI : Nat → Hp → Prop := fun n H' => HandC H' a c ∧ Keep a H1 H' ∧ Keep a H H' ∧ ∃ (bs : List V) (cs : List PyData), H' B = some (.lst bs) ∧ DfAll K H' bs cs ∧ 1 ≤ cs.length ∧ cs.length ≤ n ∧ szL cs ≤ 800 + 535 * n ∧ ∀ c ∈ cs, CondR (.tuple rs) c
    have app : ∀ (n : Nat) (te : TE) (D' : Ends) (H4 : Hp), n ≤ 3 → BI n H4 → YE a c K H4 σ0 te (fun c => CondR (.tuple rs) c ∧ szD c ≤ 530) → (∀ H', BI (n + 1) H' → D'.nx σ0 H') → tDrop (tBM K "list" rAppend (tVar 7) (tCons te tNil)) D' σ0 H4 := fun n te D' H4 hn ⟨hh4, k14, k04, bs, cs, eB, hb, c1, cn, sz, hc⟩ hy hq => by
      refine ⟨_, rfl, .inl ⟨rfl, _, SqL.of eB⟩, hy H4 _ hh4 .refl fun v d H5 r hh5 k5 hd5 => ?_⟩
      have eB5 := k5 _ _ nBa eB
      refine ⟨B, _, _, rfl, rfl, eB5, by rw [dall_len hb, size6]; omega, hq _ ⟨hh5.set nBa nBc, ?_, ?_, bs ++ [v], cs ++ [d], upd_same, dfall_kp (dall_app (dfall_kp hb (kpf_keep hh4.live k5)) (.cons (dv_toF hd5 r.1.no) .nil)) (kpf_lst eB5), by rw [List.length_append]; omega, by rw [List.length_append, List.length_singleton]; omega, ?_, fun c m => ?_⟩⟩
      · intro b o nb eb
        rw [upd_ne (ne_of_none (sm9 _ _ (k18 b o nb eb)) hB)]
        exact (k14.trans k5) b o nb eb
      · intro b o nb eb
        rw [upd_ne (ne_of_none (sm9 _ _ (k8 b o nb eb)) hB)]
        exact (k04.trans k5) b o nb eb
      · rw [szL_app, szL_cons, szL_nil]
        have := r.2
        omega
      · rcases List.mem_append.mp m with m | m
        · exact hc c m
        · rw [List.mem_singleton.mp m]
          exact r.1
    have up : ∀ n H', BI n H' → BI (n + 1) H' := fun n H' ⟨h1, h2, h3, bs, cs, eB, hb, c1, cn, sz, hc⟩ => ⟨h1, h2, h3, bs, cs, eB, hb, c1, by omega, by omega, hc⟩
    have b1 : BI 1 (upd (upd (upd H8 p1 (.frz o1 (.tup vsB))) p2 (.frz o2 (.tup [.str "is", .str x, .ref p1]))) B (.lst [.ref p2])) := ⟨hh9.same (same_up hB), k18.trans (keep_same (sm9.trans (same_up hB))), k8.trans (keep_same (sm9.trans (same_up hB))), [.ref p2], [.tuple [.str "is", .str x, .tuple dsB]], upd_same, dfall_kp (.cons u2 .nil) (kpf_same (same_up hB)), Nat.le_refl _, Nat.le_refl _, by
      have := cIs.bd.sz
      rw [szL_cons, szL_nil]
      omega, fun c m => by rw [List.mem_singleton.mp m]; exact cIs⟩
    have yV : ∀ (H4 : Hp), YE a c K H4 σ0 (tTupF (tCons (tC (.str "?")) (tCons (tC (.int 0)) tNil))) RT := fun H4 => ye_tup (yh_cons (R := fun d => d = .str "?") (ye_str rfl) (yh_cons (R := fun d => d = .int 0) (ye_int yi_c rfl) yh_nil)) (fun ds z => by
        obtain ⟨_, _, rfl, _, _, _, rfl, _, rfl⟩ := z
        exact (by decide : 2 ≤ 4000)) fun ds z => by
        obtain ⟨_, _, rfl, rfl, _, _, rfl, rfl, rfl⟩ := z
        exact rt_var (j := 0) (by decide)
    have lt4000 : ∀ {n : Nat}, n ≤ 5 → n ≤ 4000 := fun h => by omega
    have szs : ∀ {n k : Nat} {d : PyData}, Bd n k 0 d → n ≤ 530 → szD d ≤ 530 := fun h l => Nat.le_trans h.sz l
    have mv : ∀ n H' H'', BI n H' → HandC H'' a c → Keep a H' H'' → BI n H'' := fun n H' H'' ⟨h1, h2, h3, bs, cs, eB, hb, c1, cn, sz, hc⟩ hh'' k'' => ⟨hh'', h2.trans k'', h3.trans k'', bs, cs, k'' _ _ nBa eB, dfall_kp hb (kpf_keep h1.live k''), c1, cn, sz, hc⟩
    refine ⟨fun σ' H' => σ' = σ0 ∧ BI 2 H', ?_, fun σ' H' hM => ?_⟩
    · refine ⟨_, rfl, a, c, 3, rfl, b1.1, by decide, by decide, fun d H' d0 d1 hh' k' => ⟨rfl, _, rfl, tst (fun _ => ?_) fun _ => ?_⟩⟩
      · refine app 1 _ _ H' (by decide) (mv _ _ _ b1 hh' k') ?_ fun H'' h => ⟨rfl, h⟩
        refine ye_tup (yh_cons (R := fun d => ∃ w : Str, d = .str w ∧ w ∈ (["less", "same", "unlike"] : List Str) ∧ Bd 65 1 0 d) (ye_some (n := 3) rfl (ya_cons (ye_str ⟨_, rfl, by decide +kernel, (bd_str (n := 6) (by decide +kernel) (by decide +kernel)).mono (by decide) (by decide) (Nat.le_refl _)⟩) (ya_cons (ye_str ⟨_, rfl, by decide +kernel, (bd_str (n := 6) (by decide +kernel) (by decide +kernel)).mono (by decide) (by decide) (Nat.le_refl _)⟩) (ya_cons (ye_str ⟨_, rfl, by decide +kernel, (bd_str (n := 6) (by decide +kernel) (by decide +kernel)).mono (by decide) (by decide) (Nat.le_refl _)⟩) ya_nil))) (by decide) (by decide))
          (yh_cons (R := RT) (yV H') (yh_cons (R := RT) (YE.imp (ye_z (F := fun s => sortD s = true) rfl (yS H' ((mv _ _ _ b1 hh' k').2.1) 0 _ _ _ rfl yi_c (by omega) ixS0)) iW) yh_nil))) (fun ds z => ?_) fun ds z => ?_
        · obtain ⟨_, _, rfl, _, _, _, rfl, _, _, _, rfl, _, rfl⟩ := z
          exact (by decide : 3 ≤ 4000)
        · obtain ⟨_, _, rfl, ⟨wd, rfl, hw, bw⟩, y, _, rfl, ry, z, _, rfl, rz, rfl⟩ := z
          have hb := bd_tup3 bw ry.2.1 rz.2.1
          exact ⟨⟨.cmp wd y z hw ry.1 rz.1, hb.mono (by decide) (by decide) (Nat.le_refl _), noL3 rfl ry.2.2 rz.2.2⟩, szs (hb.mono (n' := 530) (by decide) (Nat.le_refl _) (Nat.le_refl _)) (Nat.le_refl _)⟩
      · exact ⟨rfl, up _ _ (mv _ _ _ b1 hh' k')⟩
    obtain ⟨rfl, b2⟩ := hM
    refine ⟨fun σ' H' => σ' = σ0 ∧ BI 3 H', ?_, fun σ' H' hM => ?_⟩
    · refine ⟨_, rfl, a, c, 4, rfl, b2.1, by decide, by decide, fun d H' d0 d1 hh' k' => ⟨rfl, _, rfl, tst (fun _ => ?_) fun _ => ?_⟩⟩
      · refine app 2 _ _ H' (by decide) (mv _ _ _ b2 hh' k') ?_ fun H'' h => ⟨rfl, h⟩
        refine ye_tup (yh_cons (R := fun d => d = .str "not") (ye_str rfl) (yh_cons (R := fun d => ∃ w : Str, d = .str w ∧ w ∈ (["near", "far", "odd"] : List Str) ∧ Bd 45 2 0 d) (ye_some (n := 2) rfl (ya_cons (ye_str ⟨_, rfl, by decide +kernel, (bd_str (n := 4) (by decide +kernel) (by decide +kernel)).mono (by decide) (by decide) (Nat.le_refl _)⟩) (ya_cons (ye_str ⟨_, rfl, by decide +kernel, (bd_str (n := 4) (by decide +kernel) (by decide +kernel)).mono (by decide) (by decide) (Nat.le_refl _)⟩) ya_nil)) (by decide) (by decide))
          (yh_cons (R := fun d => ∃ t, d = .tuple [t] ∧ RT t) (ye_tup (yh_one (yV H')) (fun _ z => z.len) fun ds z => ?_) yh_nil))) (fun ds z => ?_) fun ds z => ?_
        · obtain ⟨t, rfl, ht⟩ := z
          exact ⟨t, rfl, ht⟩
        · obtain ⟨_, _, rfl, _, _, _, rfl, _, _, _, rfl, _, rfl⟩ := z
          exact (by decide : 3 ≤ 4000)
        · obtain ⟨_, _, rfl, rfl, _, _, rfl, ⟨wd, rfl, hw, bw⟩, _, _, rfl, ⟨t, rfl, rt⟩, rfl⟩ := z
          have hb := bd_tup3 ((bd_str (x := "not") (n := 3) (b := 0) (by decide +kernel) (by decide +kernel)).mono (k' := 2) (Nat.le_refl _) (by decide) (Nat.le_refl _)) bw ((bd_one rt.2.1).mono (Nat.le_refl _) (by decide) (Nat.le_refl _))
          have hnn : nameD (.str wd) = true ∧ wd ≠ "rule" := (by decide +kernel : ∀ wd ∈ (["near", "far", "odd"] : List Str), nameD (.str wd) = true ∧ wd ≠ "rule") wd hw
          exact ⟨⟨.ask "not" _ _ (by decide +kernel) ⟨wd, [t], rfl, rfl, hnn.1, hnn.2, bw.okD (by decide), Nat.le_refl _, (by decide : 1 ≤ 5), fun t' m => by rw [List.mem_singleton.mp m]; exact ⟨rt.1.1, .inl rt.1.2⟩, .inl (relOf_none hs (near_not wd hw))⟩, hb.mono (by decide) (by decide) (Nat.le_refl _), noL3 rfl rfl (noL_tup fun t' m => by rw [List.mem_singleton.mp m]; exact rt.2.2)⟩, szs (hb.mono (n' := 530) (by decide) (Nat.le_refl _) (Nat.le_refl _)) (Nat.le_refl _)⟩
      · exact ⟨rfl, up _ _ (mv _ _ _ b2 hh' k')⟩
    obtain ⟨rfl, b3⟩ := hM
    refine ⟨fun σ' H' => σ' = σ0 ∧ BI 4 H', ?_, fun σ' H' hM => ?_⟩
    · refine ⟨_, rfl, a, c, 4, rfl, b3.1, by decide, by decide, fun d H' d0 d1 hh' k' => ⟨rfl, _, rfl, tst (fun _ => ?_) fun _ => ?_⟩⟩
      · refine app 3 _ _ H' (by decide) (mv _ _ _ b3 hh' k') ?_ fun H'' h => ⟨rfl, h⟩
        refine ye_tup (yh_cons (R := fun d => d = .str "many") (ye_str rfl) (yh_cons (R := fun d => d = .int 19) (ye_int yi_c rfl) (yh_cons (R := fun d => d = .str x) (ye_var (v := .str x) rfl (.str x) rfl) (yh_cons (R := fun d => d = .tuple (List.replicate ss.length blankT)) (fun H7 Q7 hh7 k7 q7 => ?_) yh_nil)))) (fun ds z => ?_) fun ds z => ?_
        · refine ⟨by rw [size6]; exact (by decide : 1 ≤ 16777216), fun p5 o5 hp5 ho5 => ⟨by rw [size6]; exact (by decide : 1 ≤ 16777216), fun p6 o6 hp6 ho6 => ?_⟩⟩
          have v5 := df_tup (K := K) hp5 ho5 (.cons (.str "any") .nil)
          have v6 := df_tup (K := K) hp6 ho6 (.cons v5 .nil)
          have sm := (same_up (o := .frz o5 (.tup [.str "any"])) hp5).trans (same_up (o := .frz o6 (.tup [.ref p5])) hp6)
          have kk := ((mv _ _ _ b3 hh' k').2.1).trans (k7.trans (keep_same sm))
          refine ⟨_, rfl, p4, _, rfl, .inr (sq4 _ kk), p6, _, [.ref p5], rfl, rfl, .inl (.inr ⟨o6, upd_same⟩), by simp, by omega, by omega, (by decide : 1 ≤ 1000), fun e1 => ?_, fun e2 p7 o7 hp7 ho7 => ?_⟩
          · have e3 : ss.length = 1 := by omega
            refine q7 _ _ _ rfl (hh7.same sm) (keep_same sm) ?_
            rw [e3]
            exact df_dv (hh7.same sm).live v6
          · have v5' := Dd.same (kpf_same (same_up hp6) (H' := upd _ p6 (.frz o6 (.tup [.ref p5])))) v5
            have hrep : ∀ n : Nat, DfAll K (upd (upd H7 p5 (.frz o5 (.tup [.str "any"]))) p6 (.frz o6 (.tup [.ref p5]))) (List.replicate n [V.ref p5]).flatten (List.replicate n blankT) := fun n => by
              induction n with
              | zero => exact .nil
              | succ n ih => exact .cons v5' ih
            have v7 := df_tup (K := K) hp7 ho7 (hrep ((xs4.length : Int)).toNat)
            have e3 : ((xs4.length : Int)).toNat = ss.length := by omega
            refine q7 _ _ _ rfl ((hh7.same sm).same (same_up hp7)) (keep_same (sm.trans (same_up hp7))) ?_
            rw [← e3]
            exact df_dv ((hh7.same sm).same (same_up hp7)).live v7
        · obtain ⟨_, _, rfl, _, _, _, rfl, _, _, _, rfl, _, _, _, rfl, _, rfl⟩ := z
          exact (by decide : 4 ≤ 4000)
        · obtain ⟨_, _, rfl, rfl, _, _, rfl, rfl, _, _, rfl, rfl, _, _, rfl, rfl, rfl⟩ := z
          have hbl : Bd 45 1 0 blankT := (bd_tup (n := 35) (k := 0) (b := 0) (m := 1) (ds := [.str "any"]) (fun d m => by rw [List.mem_singleton.mp m]; exact bd_str (n := 3) (by decide +kernel) (by decide +kernel)) (Nat.le_refl _))
          have hb5 : Bd 255 2 0 (.tuple (List.replicate ss.length blankT)) := (bd_tup (n := 45) (k := 1) (b := 0) (m := 5) (fun d m => by rw [List.eq_of_mem_replicate m]; exact hbl) (by rw [List.length_replicate]; exact s5)).mono (by decide) (by decide) (Nat.le_refl _)
          have h19 : Bd 70 0 0 (.int 19) := bd_int (by decide) (by decide)
          have hb := bd_tup4 ((bd_str (x := "many") (n := 4) (b := 0) (by decide +kernel) (by decide +kernel)).mono (k' := 2) (Nat.le_refl _) (by decide) (Nat.le_refl _)) (h19.mono (k' := 2) (Nat.le_refl _) (by decide) (Nat.le_refl _)) (hnm.mono (k' := 2) (Nat.le_refl _) (by decide) (Nat.le_refl _)) hb5
          exact ⟨⟨.cnt _ _ _ (h19.okD (by decide)) (by decide) (asked_of hs hr1 rfl (hrel _ hr1) (by rw [List.length_replicate]) s1 s5 fun t m => by rw [List.eq_of_mem_replicate m]; exact ⟨hbl.okD (by decide), .inr rfl⟩), hb.mono (by decide) (by decide) (Nat.le_refl _), noL4 rfl rfl rfl (noL_tup fun t m => by rw [List.eq_of_mem_replicate m]; rfl)⟩, szs (hb.mono (n' := 530) (by decide) (Nat.le_refl _) (Nat.le_refl _)) (Nat.le_refl _)⟩
      · exact ⟨rfl, up _ _ (mv _ _ _ b3 hh' k')⟩
    obtain ⟨rfl, b4⟩ := hM
    obtain ⟨hhE, k1E, k0E, bs, cs, eB, hb, c1, c4, sz, hc⟩ := b4
    refine ye_tup (K := K) (a := a) (c := c) (R := RuleR (.tuple rs)) (yh_cons (R := fun d => ∃ w t, d = .tuple [.str w, .tuple [t]] ∧ w ∈ (["near", "far", "odd"] : List Str) ∧ RT t) (ye_tup (yh_cons (R := fun d => ∃ w : Str, d = .str w ∧ w ∈ (["near", "far", "odd"] : List Str)) (ye_some (n := 3) rfl (ya_cons (ye_str ⟨_, rfl, by decide +kernel⟩) (ya_cons (ye_str ⟨_, rfl, by decide +kernel⟩) (ya_cons (ye_str ⟨_, rfl, by decide +kernel⟩) ya_nil))) (by decide) (by decide))
      (yh_cons (R := fun d => ∃ t, d = .tuple [t] ∧ RT t) (ye_tup (yh_one (yV _)) (fun _ z => z.len) fun ds z => ?_) yh_nil)) (fun ds z => ?_) fun ds z => ?_) (yh_cons (R := fun d => d = .tuple cs) (fun H7 Q7 hh7 k7 q7 => ?_) yh_nil)) (fun ds z => ?_) (fun ds z => ?_) _ _ hhE .refl fun v d HE r hhE2 kE hdE => q v d HE r hhE2 (k0E.trans kE) hdE
    · obtain ⟨t, rfl, ht⟩ := z
      exact ⟨t, rfl, ht⟩
    · obtain ⟨_, _, rfl, _, _, _, rfl, _, rfl⟩ := z
      exact (by decide : 2 ≤ 4000)
    · obtain ⟨_, _, rfl, ⟨w', rfl, hw⟩, _, _, rfl, ⟨t, rfl, rt⟩, rfl⟩ := z
      exact ⟨w', t, rfl, hw, rt⟩
    · have hb7 := dfall_kp hb (kpf_keep hhE.live k7)
      exact ⟨_, rfl, B, bs, rfl, SqL.of (k7 _ _ nBa eB), fun p o hp ho => q7 _ _ _ rfl (hh7.same (same_up hp)) (keep_same (same_up hp)) (df_dv (hh7.same (same_up hp)).live (df_tup hp ho hb7))⟩
    · obtain ⟨_, _, rfl, _, _, _, rfl, _, rfl⟩ := z
      exact (by decide : 2 ≤ 4000)
    · obtain ⟨_, _, rfl, ⟨w', t, rfl, hw, rt⟩, _, _, rfl, rfl, rfl⟩ := z
      obtain ⟨hn1, hn2, hn3⟩ : nameD (.str w') = true ∧ w' ≠ "rule" ∧ Bd 45 3 0 (.str w') := by
        have h1 := (by decide +kernel : ∀ wd ∈ (["near", "far", "odd"] : List Str), nameD (.str wd) = true ∧ wd ≠ "rule" ∧ wd.cps.toList.all sgnOk = true ∧ wd.length ≤ 4) w' hw
        exact ⟨h1.1, h1.2.1, (bd_str h1.2.2.1 h1.2.2.2).mono (Nat.le_refl _) (by decide) (Nat.le_refl _)⟩
      have hbh := bd_tup2 (hn3.mono (k' := 3) (Nat.le_refl _) (by decide) (Nat.le_refl _)) ((bd_one rt.2.1).mono (k' := 3) (Nat.le_refl _) (by decide) (Nat.le_refl _))
      have hbc : Bd 2945 4 0 (.tuple cs) := bd_tupL (fun d m => ⟨(hc d m).bd.ok, (hc d m).bd.dp, (hc d m).bd.ib⟩) (by omega)
      have hbr := bd_tup2 hbh hbc
      have hbr' : Bd 3300 5 0 (.tuple [.tuple [.str w', .tuple [t]], .tuple cs]) := ⟨hbr.ok, ?_, hbr.dp, hbr.ib⟩
      · exact ⟨⟨w', [t], cs, rfl, hn1, hn2, hbr'.okD (by decide), relOf_none hs (near_not w' hw), Nat.le_refl _, (by decide : 1 ≤ 5), fun t' m => by rw [List.mem_singleton.mp m]; exact rt.1, c1, by omega, fun c' m => (hc c' m).p⟩, hbr', noL2 (noL2 rfl (noL_tup fun t' m => by rw [List.mem_singleton.mp m]; exact rt.2.2)) (noL_tup fun c' m => (hc c' m).no)⟩
      · exact Nat.le_trans hbr.sz (by decide)
end
end Sm
namespace Sm
open PySem PySem.Spec PyProof.Rows L2 Tn Vd RZ Gd
theorem ye_init {K : PySem.W.Frag} {a c : Addr} {H0 : Hp} {σ : L2.St} {i : Nat} {v : V} {ds : List PyData} {t : TE} (h : σ[i]? = some (some v)) (hd : Dv a K H0 v (.tuple ds)) (ht : YI σ t (-1)) (h0 : 0 < ds.length) : YE a c K H0 σ (tSl (rSlF K) (tVar i) tNoPart (tPart t)) (TupR fun x => x = ds.take (ds.length - 1)) :=
  ye_sl h hd yo_no' (yo_some' ht) (fun xs hl w => by
    rw [sIx_neg1] at w
    omega) fun H' xs hx => by
    have e2 : cutV xs none (some (-1)) = xs.take (ds.length - 1) := by
      unfold cutV
      rw [sIx_neg1, HT.sIx_none, List.drop_zero, Nat.sub_zero, dall_len hx]
    rw [e2]
    exact dall_take _ hx
theorem dall_perm {K : PySem.W.Frag} {H : Hp} {ys xs : List V} (p : ys.Perm xs) : ∀ {ds : List PyData}, DdAll K H xs ds → ∃ es : List PyData, es.Perm ds ∧ DdAll K H ys es := by
  induction p with
  | nil => exact fun {ds} h => ⟨ds, .refl _, h⟩
  | cons x p ih =>
    intro ds h
    cases h with
    | cons h1 h2 =>
      obtain ⟨es, p1, p2⟩ := ih h2
      exact ⟨_ :: es, p1.cons _, .cons h1 p2⟩
  | swap x y l =>
    intro ds h
    cases h with
    | cons h1 h2 =>
      cases h2 with
      | cons h2 h3 => exact ⟨_, List.Perm.swap _ _ _, .cons h2 (.cons h1 h3)⟩
  | trans p q ih1 ih2 =>
    intro ds h
    obtain ⟨es, p1, p2⟩ := ih2 h
    obtain ⟨fs, p3, p4⟩ := ih1 p2
    exact ⟨fs, p3.trans p1, p4⟩
/-- a small pair of numbers -/
def PairR (d : PyData) : Prop := ∃ i j : Int, d = .tuple [.int i, .int j] ∧ 0 ≤ i ∧ i < 10000000000 ∧ 0 ≤ j ∧ j < 10000000000
theorem pair_tup {K : PySem.W.Frag} {H : Hp} {x : V} {d : PyData} (h : Dd K H x d) (r : PairR d) : ∃ ns, TupI K H x ns ∧ ns.length = 2 ∧ TS.Bd 10000000000 ns := by
  obtain ⟨i, j, rfl, i0, i1, j0, j1⟩ := r
  obtain ⟨p, xs, rfl, t0, g0⟩ := ofTup h
  obtain ⟨v1, r1, rfl, b1, g0⟩ := dall_uncons g0
  obtain ⟨v2, r2, rfl, b2, g0⟩ := dall_uncons g0
  cases dall_unnil g0
  cases b1
  cases b2
  refine ⟨[i, j], ⟨p, rfl, t0.sq⟩, rfl, fun m hm => ?_⟩
  simp only [List.mem_cons, List.not_mem_nil, or_false] at hm
  rcases hm with rfl | rfl
  · exact ⟨i0, i1⟩
  · exact ⟨j0, j1⟩
theorem pair_bd {d : PyData} (r : PairR d) : Bd 155 1 0 d := by
  obtain ⟨i, j, rfl, i0, i1, j0, j1⟩ := r
  have big : (10000000000 : Nat) ≤ 10 ^ 30 := by decide
  exact (bd_tup2 (bd_int (b := 0) (by generalize (10 : Nat) ^ 30 = B at big ⊢; omega) (by decide)) (bd_int (b := 0) (by generalize (10 : Nat) ^ 30 = B at big ⊢; omega) (by decide))).mono (by decide) (Nat.le_refl _) (Nat.le_refl _)
theorem pair_no {d : PyData} (r : PairR d) : noL d = true := by
  obtain ⟨i, j, rfl, _⟩ := r
  exact noL2 rfl rfl
theorem row_no {ss ds : List PyData} (h : ofSorts (.tuple ss) (.tuple ds) = true) : ds.length = ss.length ∧ ∀ d ∈ ds, noL d = true := by
  unfold ofSorts at h
  obtain ⟨h1, h2⟩ := Bool.and_eq_true_iff.mp h
  obtain ⟨z, e1, e2, e3⟩ := tupOf_of h1
  cases e1
  have hl : ds.length = ss.length := by
    have e4 : ((partsD (.tuple ss)).length : Int) = ss.length := rfl
    omega
  refine ⟨hl, fun d m => ?_⟩
  obtain ⟨j, hj⟩ := List.getElem?_of_mem m
  have hlt := (List.getElem?_eq_some_iff.mp hj).1
  have hs : ss[j]? = some ss[j] := List.getElem?_eq_getElem (by omega)
  have hz : (ss.zip ds)[j]? = some (ss[j], d) := by
    rw [List.getElem?_zip_eq_some]
    exact ⟨hs, hj⟩
  exact noL_worth (worth_of (List.all_eq_true.mp h2 _ (List.mem_of_getElem? hz)))
theorem bd_takeT {n k : Nat} {ds : List PyData} (j : Nat) (h : Bd n k 0 (.tuple ds)) : Bd n k 0 (.tuple (ds.take j)) := by
  obtain ⟨h1, h2, h3⟩ := h.parts
  have h4 := szL_take (n := j) ds
  have e : k = k - 1 + 1 := by omega
  rw [e]
  exact bd_tupL (fun d m => h3 d (List.mem_of_mem_take m)) (by omega)
section
variable {P : Program} {w : World} {K : PySem.W.Frag} {mg : Str → Option Value} {base : Heap}
abbrev sDeedD : Stmt := top 69
abbrev sEditD : Stmt := top 84
/-! ### _law_deed -/
structure DeedR (e d : PyData) : Prop where
  tup : ∃ ds, d = .tuple ds ∧ 2 ≤ ds.length
  word : isS (at_ d 0) = true
  bd : Bd 3500 6 0 d
  no : noL d = true
  rule : eqS (at_ d 0) "rule" = true → 3 ≤ lenD d ∧ RuleR e (at_ d 2)
theorem scDeedD : FnScope ["hand", "schema", "title", "name", "kind", "sorts", "row"] ["hand", "schema"] (defScope sDeedD) := ⟨rfl, rfl, rfl, by decide +kernel, rfl, by decide +kernel, by decide +kernel⟩
theorem ok_deedD {f : Addr} {fd : FuncData} (F : FnP K "_law_deed" sDeedD f fd) (M : Nm mg) (DD : DDraw P w K mg base) (DS : DSome P w K mg base) (DST : DSomeT P w K mg base) (DR : Df P w K mg base "_law_rule" 4 ["hand", "schema"] (spZ K SchR RuleR)) (DRow : Df P w K mg base "_law_row" 4 ["hand", "sorts"] (spZ K SortsR RowR)) : FnOk P w K mg base CX0 5 f fd ["hand", "schema"] (spZ K SchR DeedR) := by
  refine F.ok scDeedD spZ_len (fun cdv A outer s H vs Q E hr h => ?_)
  obtain ⟨a, c, u, e, rfl, hh, he, hs, q⟩ := h
  refine ⟨_, PSs.nox (pss_cons (ps_if (pt_cmpR op_eq (pe_df DD hr (by decide) (pa_cons (pv 0) (pa_cons pe_int pa_nil))) pe_int (nomark _)) (pss_cons (ps_set (i := 2) scDeedD.nd rfl (Or.inl rfl) (pe_df DS hr (by decide) (pa_cons (pv 0) (pa_cons (pe_lst (pa_cons pe_str (pa_cons pe_str (pa_cons pe_str (pa_cons pe_str pa_nil))))) pa_nil))))
      (pss_one (ps_ret (pe_df DS hr (by decide) (pa_cons (pv 0) (pa_cons (pe_lst (pa_cons (pe_tupF (pa_cons pe_str (pa_cons (pv 2) (pa_cons (pe_df DR hr (by decide) (pa_cons (pv 0) (pa_cons (pv 1) pa_nil))) pa_nil)))) (pa_cons (pe_tupF (pa_cons pe_str (pa_cons (pv 2) pa_nil))) pa_nil))) pa_nil)))))) pss_nil)
      (pss_cons (ps_asg (pe_df DST hr (by decide) (pa_cons (pv 0) (pa_cons (pv 1) pa_nil))) (pg_tup rfl (pgs_cons (pg_name (i := 3) scDeedD.nd rfl (Or.inl rfl)) (pgs_cons (pg_name (i := 4) scDeedD.nd rfl (Or.inl rfl)) (pgs_cons (pg_name (i := 5) scDeedD.nd rfl (Or.inl rfl)) pgs_nil)))))
      (pss_cons (ps_set (i := 6) scDeedD.nd rfl (Or.inl rfl) (pe_df DRow hr (by decide) (pa_cons (pv 0) (pa_cons (pv 5) pa_nil))))
      (pss_cons (ps_if (pt_cmpR (op_eqS (hu_of1 hr)) (pv 4) pe_str (nomark _)) (pss_one (ps_ret (pe_tupF (pa_cons (pe_df DS hr (by decide) (pa_cons (pv 0) (pa_cons (pe_lst (pa_cons pe_str (pa_cons pe_str (pa_cons pe_str pa_nil)))) pa_nil))) (pa_cons (pv 3) (pa_cons (pv 6) pa_nil)))))) pss_nil)
      (pss_cons (ps_if (pt_cmpR (op_eqS (hu_of1 hr)) (pv 4) pe_str (nomark _)) (pss_one (ps_ret (pe_tupF (pa_cons pe_str (pa_cons (pv 3) (pa_cons (pe_slice sl_tupF (pv 6) po_none (po_some (pe_un un_neg pe_int))) (pa_cons (pe_df DS hr (by decide) (pa_cons (pv 0) (pa_cons (pe_lst (pa_cons pe_int (pa_cons pe_int (pa_cons (pe_un un_neg pe_int) (pa_cons pe_int (pa_cons (pe_un un_neg pe_int) (pa_cons (pe_op op_sub (pe_op op_pow pe_int pe_int) pe_int) (pa_cons (pe_op op_sub pe_int (pe_op op_pow pe_int pe_int)) pa_nil)))))))) pa_nil))) pa_nil))))))) pss_nil)
      (pss_one (ps_ret (pe_ifExp (pt_cmpR op_gt (pe_df DD hr (by decide) (pa_cons (pv 0) (pa_cons pe_int pa_nil))) pe_int (nomark _)) (pe_tupF (pa_cons pe_str (pa_cons (pv 3) (pa_cons (pv 6) pa_nil)))) (pe_tupF (pa_cons pe_str (pa_cons (pv 3) (pa_cons (pe_slice sl_tupF (pv 6) po_none (po_some (pv 4))) pa_nil)))))))))))), ?_⟩
  refine ⟨_, rfl, a, c, 6, rfl, hh, by decide, by decide, fun d H1 d0 d1 hh1 k1 => ⟨rfl, _, rfl, tst (fun _ => ?_) fun _ => ?_⟩⟩
  · refine ye_some (a := a) (c := c) (K := K) (H0 := H1) (n := 4) (R := fun d => ∃ t, d = .str t ∧ Bd 35 5 0 d) rfl (ya_cons (ye_str ⟨_, rfl, (bd_str (n := 3) (by decide +kernel) (by decide +kernel)).mono (by decide) (by decide) (Nat.le_refl _)⟩) (ya_cons (ye_str ⟨_, rfl, (bd_str (n := 3) (by decide +kernel) (by decide +kernel)).mono (by decide) (by decide) (Nat.le_refl _)⟩) (ya_cons (ye_str ⟨_, rfl, (bd_str (n := 3) (by decide +kernel) (by decide +kernel)).mono (by decide) (by decide) (Nat.le_refl _)⟩) (ya_cons (ye_str ⟨_, rfl, (bd_str (n := 3) (by decide +kernel) (by decide +kernel)).mono (by decide) (by decide) (Nat.le_refl _)⟩) ya_nil)))) (by decide) (by decide) H1 _ hh1 .refl fun v2 d2 H2 r2 hh2 k2 hd2 => ?_
    obtain ⟨t, rfl, bt⟩ := r2
    cases hd2
    refine ye_some (a := a) (c := c) (K := K) (H0 := H2) (σ := [some (.ref a), some u, some (.str t), none, none, none, none]) (n := 2) (R := DeedR e) rfl (ya_cons (ye_tup (yh_cons (R := fun d => d = .str "rule") (ye_str rfl) (yh_cons (R := fun d => d = .str t) (ye_var (v := .str t) rfl (.str t) rfl) (yh_cons (R := RuleR e) (ye_zv rfl rfl (he.ky (k1.trans k2)) hs) yh_nil))) (fun ds z => ?_) fun ds z => ?_) (ya_cons (ye_tup (yh_cons (R := fun d => d = .str "unrule") (ye_str rfl) (yh_cons (R := fun d => d = .str t) (ye_var (v := .str t) rfl (.str t) rfl) yh_nil)) (fun ds z => ?_) fun ds z => ?_) ya_nil)) (by decide) (by decide) H2 _ hh2 .refl fun v3 d3 H3 r3 hh3 k3 hd3 => q v3 d3 H3 r3 hh3 (k1.trans (k2.trans k3)) hd3
    · obtain ⟨_, _, rfl, _, _, _, rfl, _, _, _, rfl, _, rfl⟩ := z
      exact (by decide : 3 ≤ 4000)
    · obtain ⟨_, _, rfl, rfl, _, _, rfl, rfl, r, _, rfl, hr', rfl⟩ := z
      refine ⟨⟨_, rfl, (by decide : 2 ≤ 3)⟩, rfl, ?_, noL3 rfl rfl hr'.no, fun _ => ⟨(by decide : 3 ≤ 3), hr'⟩⟩
      exact (bd_tup3 ((bd_str (x := "rule") (n := 4) (b := 0) (by decide +kernel) (by decide +kernel)).mono (k' := 5) (Nat.le_refl _) (by decide) (Nat.le_refl _)) bt hr'.bd).mono (by decide) (by decide) (Nat.le_refl _)
    · obtain ⟨_, _, rfl, _, _, _, rfl, _, rfl⟩ := z
      exact (by decide : 2 ≤ 4000)
    · obtain ⟨_, _, rfl, rfl, _, _, rfl, rfl, rfl⟩ := z
      refine ⟨⟨_, rfl, (by decide : 2 ≤ 2)⟩, rfl, ?_, noL2 rfl rfl, fun z => ?_⟩
      · exact (bd_tup2 ((bd_str (x := "unrule") (n := 6) (b := 0) (by decide +kernel) (by decide +kernel)).mono (k' := 5) (Nat.le_refl _) (by decide) (Nat.le_refl _)) bt).mono (by decide) (by decide) (Nat.le_refl _)
      · exact absurd (show eqS (.str "unrule") "rule" = true from z) (by decide)
  · obtain ⟨rs, rfl, l1, l8, hrel⟩ := schD_of hs.sch
    refine ye_someT (a := a) (c := c) (K := K) (H0 := H1) (R := fun r => r ∈ rs) rfl rfl (he.ky k1) (by omega) (by omega) (fun _ m => m) H1 _ hh1 .refl fun v1 r H2 hr1 hh2 k2 hd1 => ?_
    obtain ⟨x, k, ss, er, hn, hss, hk⟩ := relD_of (hrel r hr1)
    subst er
    obtain ⟨p1, xs1, rfl, t1, g1⟩ := ofTup' hd1
    obtain ⟨w1, r1, rfl, b1, g1⟩ := dall_uncons g1
    obtain ⟨w2, r2, rfl, b2, g1⟩ := dall_uncons g1
    obtain ⟨w3, r3, rfl, b3, g1⟩ := dall_uncons g1
    cases dall_unnil g1
    cases b1
    refine ⟨p1, _, rfl, (tupN_vis t1).sq, rfl, _, _, rfl, _, _, rfl, _, _, rfl, rfl, ?_⟩
    obtain ⟨s1, s5⟩ : 1 ≤ ss.length ∧ ss.length ≤ 5 := by
      obtain ⟨z, e1, e2, e3⟩ := tupOf_of (Bool.and_eq_true_iff.mp hss).1
      cases e1
      omega
    have hsort : ∀ z ∈ ss, sortD z = true := fun z m => List.all_eq_true.mp (Bool.and_eq_true_iff.mp hss).2 z m
    have hnm : Bd 85 0 0 (.str x) := name_bd hs hr1
    have hx6 : x ≠ "rule" := (six_name x (hs.six _ hr1)).2.1
    refine ye_zv (a := a) (c := c) (K := K) (H0 := H2) (σ := [some (.ref a), some u, none, some (.str x), some w2, some w3, none]) (i := 0) (j := 5) (F := SortsR) (R2 := RowR) rfl rfl b3 ⟨ss, rfl, s1, s5, hsort⟩ H2 _ hh2 .refl fun v6 row H3 r6 hh3 k3 hd6 => ?_
    obtain ⟨es, rfl⟩ : ∃ es, row = .tuple es := by
      have h1 := r6.1
      unfold ofSorts at h1
      obtain ⟨z, e1, _⟩ := tupOf_of (Bool.and_eq_true_iff.mp h1).1
      exact ⟨z, e1⟩
    obtain ⟨le, hne⟩ := row_no r6.1
    have b2' := Dv.ky (a := a) b2 k3
    have k03 : Keep a H H3 := k1.trans (k2.trans k3)
    have fin : ∀ {wd : Str} {row : PyData}, wd ∈ (["bring", "drop", "put", "take"] : List Str) → Bd 1100 1 0 row → noL row = true → DeedR (.tuple rs) (.tuple [.str wd, .str x, row]) := fun {wd row} hw hb hn => by
      have h1 := (by decide +kernel : ∀ wd ∈ (["bring", "drop", "put", "take"] : List Str), wd ≠ "rule" ∧ wd.cps.toList.all sgnOk = true ∧ wd.length ≤ 5) wd hw
      refine ⟨⟨_, rfl, (by decide : 2 ≤ 3)⟩, rfl, ?_, noL3 rfl rfl hn, fun z => ?_⟩
      · exact (bd_tup3 ((bd_str (b := 0) h1.2.1 h1.2.2).mono (k' := 5) (Nat.le_refl _) (by decide) (Nat.le_refl _)) (hnm.mono (k' := 5) (Nat.le_refl _) (by decide) (Nat.le_refl _)) (hb.mono (k' := 5) (Nat.le_refl _) (by decide) (Nat.le_refl _))).mono (by decide) (by decide) (Nat.le_refl _)
      · have e2 : (wd == ("rule" : Str)) = true := z
        exact absurd (eq_of_beq e2) h1.1
    refine ⟨_, rfl, k, _, b2'.dd, rfl, _, rfl, tst (fun e1 => ?_) fun e1 => ?_⟩
    · refine ye_tup (a := a) (c := c) (K := K) (H0 := H3) (σ := [some (.ref a), some u, none, some (.str x), some w2, some w3, some v6]) (R := DeedR (.tuple rs)) (yh_cons (R := fun d => ∃ t : Str, d = .str t ∧ t ∈ (["bring", "drop", "put", "take"] : List Str)) (ye_some (n := 3) rfl (ya_cons (ye_str ⟨_, rfl, by decide +kernel⟩) (ya_cons (ye_str ⟨_, rfl, by decide +kernel⟩) (ya_cons (ye_str ⟨_, rfl, by decide +kernel⟩) ya_nil))) (by decide) (by decide)) (yh_cons (R := fun d => d = .str x) (ye_var (v := .str x) rfl (.str x) rfl) (yh_cons (R := fun d => d = .tuple es) (ye_var (v := v6) rfl hd6 rfl) yh_nil))) (fun ds z => ?_) (fun ds z => ?_) H3 _ hh3 .refl fun v d H4 r hh4 k4 hd => q v d H4 r hh4 (k03.trans k4) hd
      · obtain ⟨_, _, rfl, _, _, _, rfl, _, _, _, rfl, _, rfl⟩ := z
        exact (by decide : 3 ≤ 4000)
      · obtain ⟨_, _, rfl, ⟨wd, rfl, hw⟩, _, _, rfl, rfl, _, _, rfl, rfl, rfl⟩ := z
        exact fin hw r6.2 (noL_tup hne)
    refine ⟨_, rfl, k, _, b2'.dd, rfl, _, rfl, tst (fun e2 => ?_) fun e2 => ?_⟩
    · refine ye_tup (a := a) (c := c) (K := K) (H0 := H3) (σ := [some (.ref a), some u, none, some (.str x), some w2, some w3, some v6]) (R := DeedR (.tuple rs)) (yh_cons (R := fun d => d = .str "add") (ye_str rfl) (yh_cons (R := fun d => d = .str x) (ye_var (v := .str x) rfl (.str x) rfl) (yh_cons (R := TupR fun y => y = es.take (es.length - 1)) (ye_init rfl hd6 (yi_neg yi_c) (by omega)) (yh_cons (R := RN) (ye_some (n := 7) rfl (ya_cons (ye_int yi_c (rn_int (by decide) (by decide))) (ya_cons (ye_int yi_c (rn_int (by decide) (by decide))) (ya_cons (ye_int (yi_neg yi_c) (rn_int (by decide) (by decide))) (ya_cons (ye_int yi_c (rn_int (by decide) (by decide))) (ya_cons (ye_int (yi_neg yi_c) (rn_int (by decide) (by decide))) (ya_cons (ye_int (yi_sub (yi_pow yi_c yi_c) yi_c) (by rw [p1020]; exact rn_int (by decide) (by decide))) (ya_cons (ye_int (yi_sub yi_c (yi_pow yi_c yi_c)) (by rw [p1020]; exact rn_int (by decide) (by decide))) ya_nil))))))) (by decide) (by decide)) yh_nil)))) (fun ds z => ?_) (fun ds z => ?_) H3 _ hh3 .refl fun v d H4 r hh4 k4 hd => q v d H4 r hh4 (k03.trans k4) hd
      · obtain ⟨_, _, rfl, _, _, _, rfl, _, _, _, rfl, _, _, _, rfl, _, rfl⟩ := z
        exact (by decide : 4 ≤ 4000)
      · obtain ⟨_, _, rfl, rfl, _, _, rfl, rfl, _, _, rfl, ⟨_, rfl, rfl⟩, am, _, rfl, ram, rfl⟩ := z
        refine ⟨⟨_, rfl, (by decide : 2 ≤ 4)⟩, rfl, ?_, noL4 rfl rfl (noL_tup fun d m => hne d (List.mem_of_mem_take m)) (noL_worth (by unfold worthD; rw [ram.1]; rfl)), fun z => absurd (show eqS (.str "add") "rule" = true from z) (by decide)⟩
        exact (bd_tup4 ((bd_str (x := "add") (n := 3) (b := 0) (by decide +kernel) (by decide +kernel)).mono (k' := 5) (Nat.le_refl _) (by decide) (Nat.le_refl _)) (hnm.mono (k' := 5) (Nat.le_refl _) (by decide) (Nat.le_refl _)) ((bd_takeT _ r6.2).mono (k' := 5) (Nat.le_refl _) (by decide) (Nat.le_refl _)) (ram.2.mono (k' := 5) (Nat.le_refl _) (by decide) (Nat.le_refl _))).mono (by decide) (by decide) (Nat.le_refl _)
    refine ⟨_, rfl, a, c, 3, rfl, hh3, by decide, by decide, fun d H4 d0 d1 hh4 k4 => ⟨_, _, rfl, rfl, _, rfl, tst (fun _ => ?_) fun _ => ?_⟩⟩
    · refine ye_tup (a := a) (c := c) (K := K) (H0 := H4) (σ := [some (.ref a), some u, none, some (.str x), some w2, some w3, some v6]) (R := DeedR (.tuple rs)) (yh_cons (R := fun d => d = .str "put") (ye_str rfl) (yh_cons (R := fun d => d = .str x) (ye_var (v := .str x) rfl (.str x) rfl) (yh_cons (R := fun d => d = .tuple es) (ye_var (v := v6) rfl (hd6.ky k4) rfl) yh_nil))) (fun ds z => ?_) (fun ds z => ?_) H4 _ hh4 .refl fun v d H5 r hh5 k5 hd => q v d H5 r hh5 (k03.trans (k4.trans k5)) hd
      · obtain ⟨_, _, rfl, _, _, _, rfl, _, _, _, rfl, _, rfl⟩ := z
        exact (by decide : 3 ≤ 4000)
      · obtain ⟨_, _, rfl, rfl, _, _, rfl, rfl, _, _, rfl, rfl, rfl⟩ := z
        exact fin (by decide +kernel) r6.2 (noL_tup hne)
    · obtain ⟨n, rfl, hn5⟩ : ∃ n : Nat, k = .int (n : Int) ∧ n < ss.length := by
        unfold kindD at hk
        rw [e1, e2] at hk
        by_cases hnum : numD k = true
        · rw [if_pos hnum] at hk
          obtain ⟨h1, h2⟩ := Bool.and_eq_true_iff.mp hnum
          obtain ⟨i, rfl⟩ := intD_of h1
          have h3 : 0 ≤ i := of_decide_eq_true h2
          have h4 : i < (ss.length : Int) := of_decide_eq_true hk
          exact ⟨i.toNat, by rw [Int.toNat_of_nonneg h3], by omega⟩
        · rw [if_neg hnum] at hk
          cases hk
      cases b2
      refine ye_tup (a := a) (c := c) (K := K) (H0 := H4) (σ := [some (.ref a), some u, none, some (.str x), some (.int (n : Int)), some w3, some v6]) (R := DeedR (.tuple rs)) (yh_cons (R := fun d => d = .str "take") (ye_str rfl) (yh_cons (R := fun d => d = .str x) (ye_var (v := .str x) rfl (.str x) rfl) (yh_cons (R := TupR fun y => y = es.take n) (ye_take rfl (hd6.ky k4) (yi_var rfl) (by omega)) yh_nil))) (fun ds z => ?_) (fun ds z => ?_) H4 _ hh4 .refl fun v d H5 r hh5 k5 hd => q v d H5 r hh5 (k03.trans (k4.trans k5)) hd
      · obtain ⟨_, _, rfl, _, _, _, rfl, _, _, _, rfl, _, rfl⟩ := z
        exact (by decide : 3 ≤ 4000)
      · obtain ⟨_, _, rfl, rfl, _, _, rfl, rfl, _, _, rfl, ⟨_, rfl, rfl⟩, rfl⟩ := z
        exact fin (by decide +kernel) (bd_takeT _ r6.2) (noL_tup fun d m => hne d (List.mem_of_mem_take m))
theorem scEditD : FnScope ["hand", "deed", "life", "number", "seen", "one"] ["hand", "deed"] (defScope sEditD) := ⟨rfl, rfl, rfl, by decide +kernel, rfl, by decide +kernel, by decide +kernel⟩
def EditR (e d : PyData) : Prop := ∃ a b c s, d = .tuple [a, b, c, s, e] ∧ Bd 1100 3 0 (.tuple [a, b, c, s])
theorem ok_editD {f : Addr} {fd : FuncData} (F : FnP K "_law_edit" sEditD f fd) (M : Nm mg) (DD : DDraw P w K mg base) (DS : DSome P w K mg base) : FnOk P w K mg base CX0 3 f fd ["hand", "deed"] (spZ K (fun _ => True) EditR) := by
  refine F.ok scEditD spZ_len (fun cdv A outer s H vs Q E hr h => ?_)
  obtain ⟨a, c, u, e, rfl, hh, he, hs, q⟩ := h
  refine ⟨_, PSs.nox (pss_cons (ps_asg (pe_tup (pa_cons (pe_df DS hr (by decide) (pa_cons (pv 0) (pa_cons (pe_lst (pa_cons pe_int (pa_cons pe_int (pa_cons pe_int (pa_cons pe_int (pa_cons pe_int pa_nil)))))) pa_nil))) (pa_cons (pe_df DS hr (by decide) (pa_cons (pv 0) (pa_cons (pe_lst (pa_cons pe_int (pa_cons pe_int (pa_cons pe_int (pa_cons pe_int (pa_cons (pe_op op_pow pe_int pe_int) pa_nil)))))) pa_nil))) pa_nil))) (pg_tup rfl (pgs_cons (pg_name (i := 2) scEditD.nd rfl (Or.inr rfl)) (pgs_cons (pg_name (i := 3) scEditD.nd rfl (Or.inl rfl)) pgs_nil))))
      (pss_cons (ps_setLc (i := 4) (own := [("one", 5)]) (g := gName 5) rfl scEditD.nd rfl rfl (sw_true rfl rfl rfl (by decide +kernel)) (pi_tup (pe_tup (pa_cons pe_int (pa_cons pe_int (pa_cons pe_int (pa_cons pe_int pa_nil)))))) (blkOk_by (N := ["hand", "deed", "life", "number", "seen", "one"]) (sc := defScope sEditD) (by decide +kernel)) (fun _ _ _ _ _ => pg_name (i := 5) scEditD.nd rfl (Or.inl rfl)) (fun _ _ _ _ _ => pts_one (PW.pt (pw_and (pt_cmpR op_ne (pv 5) (pv 2) (nomark _)) (pw_and1 (pt_cmpR op_eq (pe_df DD hr (by decide) (pa_cons (pv 0) (pa_cons pe_int pa_nil))) pe_int (nomark _)))))) (fun _ _ _ _ _ => (pe_tupF (pa_cons (pv 5) (pa_cons (pe_op op_add pe_int (pe_df DD hr (by decide) (pa_cons (pv 0) (pa_cons pe_int pa_nil)))) pa_nil)))))
      (pss_cons (ps_set (i := 4) scEditD.nd rfl (Or.inl rfl) (pe_callB (cr_sortT (d := 2) (B := 10000000000) (by decide)) (by rfl) M.sorted (by decide +kernel) (pa_cons (pe_op op_cat (pv 4) (pe_op op_rep (pe_lst (pa_cons (pe_tupF (pa_cons (pv 2) (pa_cons (pe_op op_sub (pv 3) pe_int) pa_nil))) pa_nil)) (pe_callTy call_int1 (by rfl) M.int (by decide +kernel) (pa_cons (pe_cmpR op_gt (pv 3) pe_int (nomark _)) pa_nil)))) pa_nil)))
      (pss_one (ps_ret (pe_tupF (pa_cons (pv 2) (pa_cons (pv 3) (pa_cons (pe_df DS hr (by decide) (pa_cons (pv 0) (pa_cons (pe_lst (pa_cons pe_int (pa_cons pe_int (pa_cons pe_int (pa_cons (pe_op op_pow pe_int pe_int) pa_nil))))) pa_nil))) (pa_cons (pe_tof (by rfl) M.tuple (pv 4)) (pa_cons (pv 1) pa_nil))))))))))), ?_⟩
  have L : ∀ {i : Int}, 1 ≤ i → i ≤ 1000000000 → ∃ j : Int, PyData.int i = .int j ∧ 1 ≤ j ∧ j ≤ 1000000000 := fun {i} h1 h2 => ⟨i, rfl, h1, h2⟩
  refine ye_some (a := a) (c := c) (K := K) (H0 := H) (n := 5) (R := fun d => ∃ j : Int, d = .int j ∧ 1 ≤ j ∧ j ≤ 1000000000) rfl (ya_cons (ye_int yi_c (L (by decide) (by decide))) (ya_cons (ye_int yi_c (L (by decide) (by decide))) (ya_cons (ye_int yi_c (L (by decide) (by decide))) (ya_cons (ye_int yi_c (L (by decide) (by decide))) (ya_cons (ye_int yi_c (L (by decide) (by decide))) ya_nil))))) (by decide) (by decide) H _ hh .refl fun v1 d1 H1 r1 hh1 k1 hd1 => ?_
  refine ye_some (a := a) (c := c) (K := K) (H0 := H1) (σ := [some (.ref a), some u, none, none, none, none]) (n := 5) (R := fun d => ∃ j : Int, d = .int j ∧ 1 ≤ j ∧ j ≤ 1000000000) rfl (ya_cons (ye_int yi_c (L (by decide) (by decide))) (ya_cons (ye_int yi_c (L (by decide) (by decide))) (ya_cons (ye_int yi_c (L (by decide) (by decide))) (ya_cons (ye_int yi_c (L (by decide) (by decide))) (ya_cons (ye_int (yi_pow yi_c yi_c) (by rw [show (10 : Int) ^ (9 : Int).toNat = 1000000000 by decide +kernel]; exact L (by decide) (by decide))) ya_nil))))) (by decide) (by decide) H1 _ hh1 .refl fun v2 d2 H2 r2 hh2 k2 hd2 => ?_
  obtain ⟨l, rfl, l1, l2⟩ := r1
  obtain ⟨n, rfl, n1, n2⟩ := r2
  cases hd1
  cases hd2
  refine ⟨by rw [size6]; exact (by decide : 2 ≤ 16777216), fun p hp => ⟨p, _, rfl, .inl (.inl upd_same), rfl, _, _, rfl, _, _, rfl, rfl, ?_⟩⟩
  have sp := same_up (o := .tup [.int l, .int n]) hp
  refine ⟨by rw [size6]; exact (by decide : 4 ≤ 16777216), fun T hT => ⟨T, rfl, ⟨_, .inl (.inl upd_same)⟩, fun D hD => ?_⟩⟩
  have sT := same_up (o := .tup [.int 1, .int 2, .int 3, .int 999]) hT
  have hh3 := (hh2.same sp).same sT
  have k3 : Keep a H _ := k1.trans (k2.trans (keep_same (sp.trans sT)))
  have eT : (upd (upd H2 p (.tup [.int l, .int n])) T (.tup [.int 1, .int 2, .int 3, .int 999])) T = some (.tup [.int 1, .int 2, .int 3, .int 999]) := upd_same
  generalize hH3 : upd (upd H2 p (.tup [.int l, .int n])) T (.tup [.int 1, .int 2, .int 3, .int 999]) = H3 at *
  have nDa := hh3.live.ne hD
  have nDc := hh3.cne hD
  have nTD : T ≠ D := ne_of_none eT hD
  have nTa : T ≠ a := by
    intro z
    obtain ⟨ys, w⟩ := hh3.live
    rw [← z, eT] at w
    cases w
  refine lc_tup (xs := [.int 1, .int 2, .int 3, .int 999]) (fun i H' => HandC H' a c ∧ Keep a H3 H' ∧ ∃ (vs : List V) (ds : List PyData), H' D = some (.lst vs) ∧ DfAll K H' vs ds ∧ ds.length ≤ i ∧ ∀ d ∈ ds, PairR d) ⟨hh3.same (same_up hD), keep_same (same_up hD), [], [], upd_same, .nil, Nat.le_refl _, fun _ z => absurd z (by simp)⟩ (fun i H' _ z => .inl (.inl (z.2.1 _ _ nTa eT))) (fun i x H' hx z => ?_) (fun H' z => ?_)
  · obtain ⟨hh4, k4, vs, ds, eD, hd, el, hr⟩ := z
    obtain ⟨m, rfl, m0, m1⟩ : ∃ m : Int, x = .int m ∧ 0 ≤ m ∧ m < 10000000000 := by
      have hm := List.mem_of_getElem? hx
      simp only [List.mem_cons, List.not_mem_nil, or_false] at hm
      rcases hm with rfl | rfl | rfl | rfl
      · exact ⟨1, rfl, by decide, by decide⟩
      · exact ⟨2, rfl, by decide, by decide⟩
      · exact ⟨3, rfl, by decide, by decide⟩
      · exact ⟨999, rfl, by decide, by decide⟩
    have hi4 : i < 4 := (List.getElem?_eq_some_iff.mp hx).1
    refine ⟨rfl, _, rfl, _, rfl, rfl, _, rfl, tst (fun _ => ⟨_, rfl, a, c, 2, rfl, hh4, by decide, by decide, fun d H7 d0 d1 hh7 k7 => ⟨rfl, _, rfl, tst (fun e1 => ?_) fun e1 => ?_⟩⟩) fun _ => ?_⟩
    · have eD7 := k7 _ _ nDa eD
      refine ⟨_, rfl, _, rfl, a, c, 5, rfl, hh7, by decide, by decide, fun d8 H8 d80 d81 hh8 k8 => ⟨_, _, rfl, rfl, by rw [size6]; exact (by decide : 2 ≤ 16777216), fun p5 o5 hp5 ho5 => ?_⟩⟩
      have eD8 := k8 _ _ nDa eD7
      have t5 := df_tup (K := K) hp5 ho5 (.cons (.int m) (.cons (.int (1 + d8)) .nil))
      have eD9 := same_up (o := .frz o5 (.tup [.int m, .int (1 + d8)])) hp5 _ _ eD8
      refine ⟨vs, eD9, by rw [dall_len hd, size6]; omega, (hh8.same (same_up hp5)).set nDa nDc, ?_, vs ++ [.ref p5], ds ++ [.tuple [.int m, .int (1 + d8)]], upd_same, ?_, by rw [List.length_append, List.length_singleton]; omega, fun d m' => ?_⟩
      · intro b o nb eb
        rw [upd_ne (ne_of_none eb hD)]
        exact same_up hp5 _ _ ((k4.trans (k7.trans k8)) b o nb eb)
      · exact dfall_kp (dall_app (dfall_kp hd ((kpf_keep hh4.live (k7.trans k8)).trans (kpf_same (same_up hp5)))) (.cons t5 .nil)) (kpf_lst eD9)
      · rcases List.mem_append.mp m' with m' | m'
        · exact hr d m'
        · rw [List.mem_singleton.mp m']
          exact ⟨m, 1 + d8, rfl, m0, m1, by omega, by omega⟩
    · exact ⟨hh7, k4.trans k7, vs, ds, k7 _ _ nDa eD, dfall_kp hd (kpf_keep hh4.live k7), by omega, hr⟩
    · exact ⟨hh4, k4, vs, ds, eD, hd, by omega, hr⟩
  · obtain ⟨hh4, k4, vs, ds, eD, hd, el, hr⟩ := z
    have k04 : Keep a H H' := k3.trans k4
    refine ⟨_, rfl, _, rfl, _, rfl, _, _, rfl, rfl, by rw [size6]; exact (by decide : 2 ≤ 16777216), fun p1 o1 hp1 ho1 => ⟨by rw [size6]; exact (by decide : 1 ≤ 16777216), fun q1 hq1 => ⟨_, rfl, _, _, rfl, rfl, .inr ⟨_, rfl, ?_⟩⟩⟩⟩
    generalize hbq : decide ((1 : Int) < n) = bq
    have t1 := df_tup (K := K) hp1 ho1 (.cons (.int l) (.cons (.int (n - 1)) .nil))
    have s1 := (same_up (o := .frz o1 (.tup [.int l, .int (n - 1)])) hp1).trans (same_up (o := .lst [.ref p1]) hq1)
    refine ⟨q1, _, [.ref p1], rfl, rfl, upd_same, by cases bq <;> decide, by cases bq <;> decide, by
      have h1 : (if bq = true then (1 : Int) else 0).toNat ≤ 1 := by cases bq <;> decide
      rw [size6]
      show 1 * _ ≤ 16777216
      omega, fun q2 hq2 => ?_⟩
    have s2 := same_up (o := .lst (List.replicate (if bq = true then (1 : Int) else 0).toNat [V.ref p1]).flatten) hq2
    have hmore : ∃ es : List PyData, es.length ≤ 1 ∧ (List.replicate (if bq = true then (1 : Int) else 0).toNat [V.ref p1]).flatten.length ≤ 1 ∧ (∀ d ∈ es, PairR d) ∧ ∀ Hx : Hp, Df' K Hx (.ref p1) (.tuple [.int l, .int (n - 1)]) → DfAll K Hx (List.replicate (if bq = true then (1 : Int) else 0).toNat [V.ref p1]).flatten es := by
      cases bq with
      | true =>
        refine ⟨[.tuple [.int l, .int (n - 1)]], Nat.le_refl _, Nat.le_refl _, fun d m => ?_, fun Hx h => .cons h .nil⟩
        rw [List.mem_singleton.mp m]
        exact ⟨l, n - 1, rfl, by omega, by omega, by omega, by omega⟩
      | false => exact ⟨[], Nat.zero_le _, Nat.zero_le _, fun _ z => absurd z (by simp), fun Hx h => .nil⟩
    have hn1 : bq = true → 1 < n := fun e => by rw [e] at hbq; exact of_decide_eq_true hbq
    obtain ⟨es, le1, lm1, hes, hfe⟩ := hmore
    generalize (List.replicate (if bq = true then (1 : Int) else 0).toNat [V.ref p1]).flatten = more at *
    have lvs := dall_len hd
    refine ⟨D, q2, vs, _, rfl, rfl, s2 _ _ (s1 _ _ eD), upd_same, by rw [lvs, size6]; have h4 : ds.length ≤ 4 := el; omega, fun q3 hq3 => ?_⟩
    have h4 : ds.length ≤ 4 := el
    have s3 := (s1.trans s2).trans (same_up (o := .lst (vs ++ more)) hq3)
    have hall : DfAll K _ (vs ++ more) (ds ++ es) := dall_app (dfall_kp hd (kpf_same s3)) (dfall_kp (hfe _ (Dd.same (kpf_same (same_up hq1)) t1)) (kpf_same (s2.trans (same_up (o := .lst (vs ++ more)) hq3))))
    have hpr : ∀ d ∈ ds ++ es, PairR d := fun d m => by
      rcases List.mem_append.mp m with m | m
      · exact hr d m
      · exact hes d m
    refine ⟨q3, _, rfl, SqL.of upd_same, by rw [List.length_append]; omega, fun x m => ?_, fun ys q4 perm _ hq4 => ?_⟩
    · obtain ⟨d, m1, m2⟩ := dall_mem hall m
      exact pair_tup (Dd.same visF_same m2) (hpr d m1)
    obtain ⟨zs, pz, hz⟩ := dall_perm perm hall
    have s4 := s3.trans (same_up (o := .lst ys) hq4)
    have hz4 := dfall_kp hz (kpf_same (same_up (o := .lst ys) hq4))
    have hh5 := hh4.same s4
    have e4 : ∀ Hy : Hp, (upd Hy q4 (.lst ys)) q4 = some (.lst ys) := fun Hy => upd_same
    have n4a := (hh4.same s3).live.ne hq4
    have k5 : Keep a H _ := k04.trans (keep_same s4)
    refine ye_tup (a := a) (c := c) (K := K) (σ := [some (.ref a), some u, some (.int l), some (.int n), some (.ref q4), none]) (R := EditR e) (yh_cons (R := fun d => d = .int l) (ye_var (v := .int l) rfl (.int l) rfl) (yh_cons (R := fun d => d = .int n) (ye_var (v := .int n) rfl (.int n) rfl) (yh_cons (R := fun d => ∃ j, d = .int j ∧ Bd 70 1 0 d) (ye_some (n := 4) rfl (ya_cons (ye_int yi_c ⟨_, rfl, (bd_int (b := 0) (by decide) (by decide)).mono (by decide) (by decide) (Nat.le_refl _)⟩) (ya_cons (ye_int yi_c ⟨_, rfl, (bd_int (b := 0) (by decide) (by decide)).mono (by decide) (by decide) (Nat.le_refl _)⟩) (ya_cons (ye_int yi_c ⟨_, rfl, (bd_int (b := 0) (by decide) (by decide)).mono (by decide) (by decide) (Nat.le_refl _)⟩) (ya_cons (ye_int (yi_pow yi_c yi_c) ⟨_, rfl, by rw [big_eq]; exact (bd_int (b := 0) (by rw [Int.natAbs_natCast]; exact Nat.le_refl _) (by decide)).mono (by decide) (by decide) (Nat.le_refl _)⟩) ya_nil)))) (by decide) (by decide))
      (yh_cons (R := fun d => d = .tuple zs) (fun H7 Q7 hh7 k7 q7 => ?_) (yh_cons (R := fun d => d = e) (ye_var (v := u) rfl (he.ky k5) rfl) yh_nil))))) (fun ds z => ?_) (fun ds z => ?_) _ _ hh5 .refl fun v d H9 r hh9 k9 hd9 => q v d H9 r hh9 (k5.trans k9) hd9
    · have hz7 := dfall_kp hz4 (kpf_keep hh5.live k7)
      exact ⟨_, rfl, q4, ys, rfl, SqL.of (k7 _ _ n4a (e4 _)), fun p o hp ho => q7 _ _ _ rfl (hh7.same (same_up hp)) (keep_same (same_up hp)) (df_dv (hh7.same (same_up hp)).live (df_tup hp ho hz7))⟩
    · obtain ⟨_, _, rfl, _, _, _, rfl, _, _, _, rfl, _, _, _, rfl, _, _, _, rfl, _, rfl⟩ := z
      exact (by decide : 5 ≤ 4000)
    · obtain ⟨_, _, rfl, rfl, _, _, rfl, rfl, _, _, rfl, ⟨j, rfl, bj⟩, _, _, rfl, rfl, _, _, rfl, rfl, rfl⟩ := z
      have big : (10000000000 : Nat) ≤ 10 ^ 30 := by decide
      have bl : ∀ {i : Int}, 1 ≤ i → i ≤ 1000000000 → Bd 70 1 0 (.int i) := fun {i} h1 h2 => (bd_int (b := 0) (by generalize (10 : Nat) ^ 30 = B at big ⊢; omega) (by decide)).mono (by decide) (by decide) (Nat.le_refl _)
      have bz : Bd 805 2 0 (.tuple zs) := (bd_tup (n := 155) (k := 1) (b := 0) (m := 5) (fun d m => pair_bd (hpr d (pz.mem_iff.mp m))) (by rw [pz.length_eq, List.length_append]; omega)).mono (by decide) (by decide) (Nat.le_refl _)
      exact ⟨_, _, _, _, rfl, (bd_tup4 ((bl l1 l2).mono (k' := 2) (Nat.le_refl _) (by decide) (Nat.le_refl _)) ((bl n1 n2).mono (k' := 2) (Nat.le_refl _) (by decide) (Nat.le_refl _)) (bj.mono (k' := 2) (Nat.le_refl _) (by decide) (Nat.le_refl _)) bz).mono (by decide) (by decide) (Nat.le_refl _)⟩
end
end Sm
/-! Exceptions of the program's own classes as values: made, asked by isinstance, their fields read. -/
namespace Xv
open PySem PySem.Spec PyProof.Rows L2
/-! ### a class, by one look at the written part -/
def oexB (K : PySem.W.Frag) (C : Addr) : Bool := match K.lookup C with
  | some ⟨.type t, _, .cls cd, sl⟩ => (match cd.mro, sl.toList with
    | .ref C' :: bm, [_, _, _, _, some (.builtin n), _] => decide (t = "type") && (decide (C' = C) && (decide (n = "ValueError.__new__") && (!cd.hasDel && (cd.hasDict && PySem.HandSPX.refsVE bm))))
    | _, _ => false)
  | _ => false
def xclB (K : PySem.W.Frag) (C : Addr) : Bool := oexB K C && (He.eqO (PySem.W.findIn K (.ref C) "__setattr__") (some (some (.builtin "object.__setattr__"))) && (decide (PySem.W.subIn K (.ref C) (.type "BaseException") = some true) && (decide (PySem.W.typeIn K (.ref C) = some (.type "type")) &&
  (PySem.W.keepIn K (.ref C) && ((PySem.W.clsIn K C).isSome && (He.eqO (PySem.W.findIn K (.ref C) "__getattribute__") (some (some (.builtin "BaseException.__getattribute__"))) && (He.eqO (PySem.W.findIn K (.ref C) "__getattr__") (some none) &&
  (He.eqO (PySem.W.findIn K (.ref C) "__class__") (some (some (.builtin "object.__class__"))) && (decide (PySem.W.mroIn K C (.type "object") = some true) && (PySem.W.hasDictIn K C &&
  (He.eqO (PySem.W.specialIn K (.builtin "object.__class__") "__get__") (some (some (.builtin "getset_descriptor.__get__"))) && decide (PySem.W.takesIn K (.builtin "object.__class__") = some true))))))))))))
structure XCl (K : PySem.W.Frag) (C : Addr) : Prop where
  oex : OexC K C
  cl : (PySem.W.clsIn K C).isSome = true
  ga : PySem.W.findIn K (.ref C) "__getattribute__" = some (some (.builtin "BaseException.__getattribute__"))
  gt : PySem.W.findIn K (.ref C) "__getattr__" = some none
  ca : PySem.W.findIn K (.ref C) "__class__" = some (some (.builtin "object.__class__"))
  mo : PySem.W.mroIn K C (.type "object") = some true
  hd : PySem.W.hasDictIn K C = true
  gn : PySem.W.specialIn K (.builtin "object.__class__") "__get__" = some (some (.builtin "getset_descriptor.__get__"))
  tk : PySem.W.takesIn K (.builtin "object.__class__") = some true
theorem xcl_ok {K : PySem.W.Frag} {C : Addr} (h : xclB K C = true) : XCl K C := by
  obtain ⟨h1, h⟩ := He.ba h
  obtain ⟨h2, h⟩ := He.ba h
  obtain ⟨h3, h⟩ := He.ba h
  obtain ⟨h4, h⟩ := He.ba h
  obtain ⟨h5, h⟩ := He.ba h
  obtain ⟨h6, h⟩ := He.ba h
  obtain ⟨h7, h⟩ := He.ba h
  obtain ⟨h8, h⟩ := He.ba h
  obtain ⟨h9, h⟩ := He.ba h
  obtain ⟨h10, h⟩ := He.ba h
  obtain ⟨h11, h⟩ := He.ba h
  obtain ⟨h12, h13⟩ := He.ba h
  refine ⟨⟨?_, He.eqO_ok h2, of_decide_eq_true h3, of_decide_eq_true h4, h5⟩, h6, He.eqO_ok h7, He.eqO_ok h8, He.eqO_ok h9, of_decide_eq_true h10, h11, He.eqO_ok h12, of_decide_eq_true h13⟩
  unfold oexB at h1
  split at h1
  case h_2 => cases h1
  case h_1 t dd cd sl ho =>
    split at h1
    case h_2 => cases h1
    case h_1 C' bm k0 k1 k2 k3 n k5 hm hs =>
      obtain ⟨a1, h1⟩ := He.ba h1
      obtain ⟨a2, h1⟩ := He.ba h1
      obtain ⟨a3, h1⟩ := He.ba h1
      obtain ⟨a4, h1⟩ := He.ba h1
      obtain ⟨a5, a6⟩ := He.ba h1
      have e1 := of_decide_eq_true a1
      have e2 := of_decide_eq_true a2
      have e3 := of_decide_eq_true a3
      subst e1 e2 e3
      obtain ⟨nm, bs, mro, ns, qn, hd, sn, sub, ab, col, del⟩ := cd
      dsimp only at hm a4 a5
      have e4 : del = false := by cases del <;> first | rfl | cases a4
      subst hm e4 a5
      have e5 : sl = #[k0, k1, k2, k3, some (.builtin "ValueError.__new__"), k5] := by
        obtain ⟨l⟩ := sl
        dsimp only at hs
        rw [hs]
      subst e5
      exact ⟨nm, qn, ns, bs, bm, sn, sub, ab, col, dd, k0, k1, k2, k3, k5, ho, a6⟩
/-- an exception stands at a: its class C, its fields (none: it has no dict) -/
def XAt (H : Hp) (a C : Addr) : Option (List (Str × V)) → Prop
  | none => H a = some (exo a C none)
  | some fs => ∃ dx, H a = some (exo a C (some dx)) ∧ H dx = some (exd dx fs)
theorem XAt.same {H H' : Hp} {a C : Addr} {fs : Option (List (Str × V))} (h : XAt H a C fs) (k : ∀ b o, H b = some o → H' b = some o) : XAt H' a C fs := by
  cases fs with
  | none => exact k _ _ h
  | some fs =>
    obtain ⟨dx, h1, h2⟩ := h
    exact ⟨dx, k _ _ h1, k _ _ h2⟩
theorem XAt.get {P : Program} {w : World} {H : Hp} {h : Heap} {a C : Addr} {fs : Option (List (Str × V))} (x : XAt H a C fs) (ok : HOk P w H h) : ∃ ox od, PySem.W.InstAt h a ox C od := by
  cases fs with
  | none =>
    obtain ⟨t1, e⟩ := exo_at ok x
    exact ⟨_, none, e, rfl, rfl, trivial⟩
  | some fs =>
    obtain ⟨dx, h1, h2⟩ := x
    obtain ⟨t1, e⟩ := exo_at ok h1
    obtain ⟨mA, hn, _⟩ := exd_at ok h2
    obtain ⟨od, ho, _⟩ := lookIn_ns hn
    exact ⟨_, some od, e, rfl, rfl, ho⟩
section
variable {X : Cx}
/-! ### isinstance -/
def rIsX (K : PySem.W.Frag) : List V → Hp → VK → Prop := fun xs H Q => ∃ (a C : Addr) (fs : Option (List (Str × V))) (c : V) (u : Value) (b : Bool), xs = [.ref a, c] ∧ ClsV c u ∧ XAt H a C fs ∧ XCl K C ∧ PySem.W.kitOne K (.ref C) u = some b ∧ Q (.bl b) H
theorem call_isX : CallR X (.builtin "isinstance") (rIsX X.K) := by
  intro pins s σ H xs us Q I r h
  obtain ⟨a, C, fs, c, u, b, rfl, k, xa, T, e, q⟩ := h
  obtain ⟨u1, u2, rfl, r1, r2⟩ := vals2 r
  have e2 := k.eq r2
  subst e2
  cases (show u1 = Value.ref a from r1)
  obtain ⟨ox, od, J⟩ := xa.get I.hok
  exact PySem.W.kia_one (PySem.W.kitx_exc (x := a) (od := od) T.cl T.ga T.gt T.oex.exC T.ca T.gn T.tk T.mo) I.kIn J e (fun z => nomatch z) fun tk => ⟨.bl b, H, I.tok tk, rfl, q⟩
/-! ### a field -/
def tXf (K : PySem.W.Frag) (f : Str) (te : TE) : TE := fun σ H Q => te σ H fun x H1 => ∃ (a C : Addr) (fs : List (Str × V)) (v : V), x = .ref a ∧ XAt H1 a C (some fs) ∧ XCl K C ∧ PySem.W.findIn K (.ref C) f = some none ∧ fs.lookup f = some v ∧ Q v H1
theorem pe_xf {e : Expr} {te : TE} {f : Str} {pos : Pos} (he : PE X e te) (hb : attributeBase e f X.env (eval e X.env) = eval e X.env := by rfl) : PE X (.Attribute e f pos) (tXf X.K f te) := by
  refine ⟨fun pins s σ H Q I h => ?_⟩
  refine attr_of hb (thn (he.run pins s σ H _ I h) fun u s1 hh => ?_)
  obtain ⟨x, H1, I1, rx, a, C, fs, v, ex, xa, T, hno, el, q⟩ := hh
  subst ex
  obtain rfl : u = Value.ref a := rx
  obtain ⟨dx, h1, h2⟩ := xa
  obtain ⟨t1, eo⟩ := exo_at I1.hok h1
  obtain ⟨mA, hn, hr⟩ := exd_at I1.hok h2
  obtain ⟨od, ho, hl⟩ := lookIn_ns hn
  obtain ⟨u, hu, ru⟩ := RelO.some_of (v := v) (o := mA f) (by rw [← el]; exact hr f)
  have J : PySem.W.InstAt s1.heap a { cls := .ref C, dict := some dx, data := .fields #[.ref t1, .none, .none, .none, .bool false, .none] } C (some od) := ⟨eo, rfl, rfl, ho⟩
  exact HandSPX.exc_get I1.kIn J T.ga T.gt T.oex.exC (PySem.W.findObj_own T.hd hno rfl (by rw [hl, hu])) (handed_of ru) ⟨v, H1, I1.tok _, ru, q⟩
/-! ### made -/
def tXm (C : Addr) (sp : Sp) (ta : TA) : TE := fun σ H Q => ta σ H fun vs H1 => ∀ a, H1 a = none → sp (.ref a :: vs) (upd H1 a (exo a C none)) (fun v H2 => v = .non ∧ Q (.ref a) H2) E0
theorem xmade {pins : List (Addr × Obj)} {σ : L2.St} {H1 : Hp} {s1 : Shared} {Q : VK} {C fI : Addr} {k : Nat} {fd : FuncData} {ps : List Str} {sp : Sp} {vs : List V} {us : List Value} (T : OexC X.K C) (iC : PySem.W.findIn X.K (.ref C) "__init__" = some (some (.ref fI)))
    (tI : PySem.W.typeIn X.K (.ref fI) = some (.type "function")) (F1 : FnOk X.prog X.w X.K X.mg X.base CX0 k fI fd ps sp) (hr : Room (k + 1) X.A) (hb : Binds X.K fd ps []) (I1 : Inv X pins σ H1 s1) (r1 : Vals vs us) (hz : us.length ≤ sizeLine)
    (q1 : ∀ a, H1 a = none → sp (.ref a :: vs) (upd H1 a (exo a C none)) (fun v H2 => v = .non ∧ Q (.ref a) H2) E0) : wpAny (model X.prog X.w) X.A (call (.ref C) us) (EP X pins σ Q) X.xe s1 := by
  obtain ⟨nm, qn, N, bs, bm, sn, sub, ab, col, dd, k0, k1, k2, k3, k5, hC, hbm⟩ := T.cls
  obtain ⟨hp, g, dr, tk, os⟩ := s1
  have hsz : hp.objs.size ≤ hp.objs.size + 1 := Nat.le_succ _
  have hn : H1 (hp.objs.size + 1) = none := I1.hok.fresh hsz
  have hq := q1 _ hn
  have kk : ∀ b o, hp.get? b = some o → ((hp.push (PySem.W.kdv_tup us)).push (PySem.HandSPX.excO C hp.objs.size)).get? b = some o := fun b o z =>
    Heap.get?_push_of_some _ (Heap.get?_push_of_some _ z)
  have hg2 : ((hp.push (PySem.W.kdv_tup us)).push (PySem.HandSPX.excO C hp.objs.size)).get? (hp.objs.size + 1) = some (PySem.HandSPX.excO C hp.objs.size) := by heap_get
  have I2 := I1.laid (t' := tk) (a := hp.objs.size + 1) (o := exo (hp.objs.size + 1) C none) (h' := (hp.push (PySem.W.kdv_tup us)).push (PySem.HandSPX.excO C hp.objs.size)) kk hsz (exo_ok hg2)
  have r2 : Vals (V.ref (hp.objs.size + 1) :: vs) (Value.ref (hp.objs.size + 1) :: us) := .cons rfl r1
  have hl : ((Value.ref (hp.objs.size + 1) :: us) ++ []).length = ps.length := by
    rw [List.append_nil, ← r2.length]
    exact F1.len _ _ _ _ hq
  have hb2 := hb _ (Value.ref (hp.objs.size + 1) :: us) I2.kIn hl
  rw [List.append_nil] at hb2
  refine wpAny_call (PySem.HandSPX.call_own F.excBase_ValueError (fun Y => PySem.HandSPX.refsVE_contains Y bm hbm) (I1.kIn _ _ hC) (PySem.W.looks_findIn I1.kIn iC) (fun self => PySem.W.bind_fn I1.kIn self tI) hz ?_)
  refine codeAny_mono (F1.run _ X.stack _ _ ⟨_, []⟩ _ _ _ _ (hr.make C us []) (I2.env0.make C us []) hb2 r2 hq) fun r s' hq' => ?_
  cases r with
  | error er => exact hq'.elim
  | ok fl =>
    cases fl with
    | ret u =>
      obtain ⟨v, H2, os2, bare2, un2, hok2, rv, ev, q2⟩ := hq'
      subst ev
      exact ⟨rv, .ref (hp.objs.size + 1), H2, I2.call' (ch := []) os2 un2 hok2 bare2 (fun b z => absurd z (by simp)), rfl, q2⟩
    | next => exact False.elim hq'
    | brk => exact False.elim hq'
    | cont => exact False.elim hq'
theorem pe_xm {x : Str} {C fI : Addr} {k j : Nat} {fd : FuncData} {ps : List Str} {sp : Sp} {e : Expr} {es : List Expr} {ta : TA} {p pos : Pos} (T : OexC X.K C) (iC : PySem.W.findIn X.K (.ref C) "__init__" = some (some (.ref fI))) (tI : PySem.W.typeIn X.K (.ref fI) = some (.type "function"))
    (F1 : FnOk X.prog X.w X.K X.mg X.base CX0 k fI fd ps sp) (hr : Room j X.A) (hj : k + 1 ≤ j) (hb : Binds X.K fd ps []) (hm : X.mg x = some (.ref C)) (ha : PA X (e :: es) ta) (hg : Gl X x := by rfl)
    (hdb : (x == ("__debug__" : Str)) = false := by decide) (he : starEach (e :: es) X.env = (false, eval e X.env) :: starEach es X.env := by rfl) (hpl : (backTo pos (starEach es X.env)).any (·.1) = false := by rfl)
    (hz : ps.length ≤ 1000 := by decide) : PE X (.Call (.Name x p) (e :: es) [] pos) (tXm C sp ta) := by
  refine ⟨fun pins s σ H Q I h => ?_⟩
  refine wpAny_Call_Name_kw (ld_glob I hg hm ?_ hdb)
  refine PySem.W.callWith_K (h₀ := X.base) I.ok.mod.kin T.kC (thn (ha.run pos pins s σ H _ I h) fun us s1 ⟨vs, H1, I1, r1, q1⟩ => ⟨I1.kIn, ?_⟩) he hpl
  have hn : H1 (s1.heap.objs.size) = none := I1.hok.fresh (Nat.le_refl _)
  have hl := F1.len _ _ _ _ (q1 _ hn)
  refine xmade T iC tI F1 (hr.mono hj) hb I1 r1 ?_ q1
  show us.length ≤ sizeLine
  rw [← r1.length, sizeLine_eq]
  have e1 : vs.length + 1 = ps.length := hl
  omega
theorem pe_xm0 {x : Str} {C fI : Addr} {k j : Nat} {fd : FuncData} {ps : List Str} {sp : Sp} {p pos : Pos} (T : OexC X.K C) (iC : PySem.W.findIn X.K (.ref C) "__init__" = some (some (.ref fI))) (tI : PySem.W.typeIn X.K (.ref fI) = some (.type "function"))
    (F1 : FnOk X.prog X.w X.K X.mg X.base CX0 k fI fd ps sp) (hr : Room j X.A) (hj : k + 1 ≤ j) (hb : Binds X.K fd ps []) (hm : X.mg x = some (.ref C)) (hg : Gl X x := by rfl) (hdb : (x == ("__debug__" : Str)) = false := by decide) :
    PE X (.Call (.Name x p) [] [] pos) (tXm C sp tNil) := by
  refine ⟨fun pins s σ H Q I h => ?_⟩
  refine wpAny_Call_Name_kw (ld_glob I hg hm ?_ hdb)
  exact PySem.W.callWith_K0 I.kIn T.kC (xmade (us := []) T iC tI F1 (hr.mono hj) hb I .nil (Nat.zero_le _) h)
end
end Xv
/-! raise C(), C an own class whose __init__ (its own or an elder's) stores nothing. -/
namespace Nz
open PySem PySem.Spec PyProof.Rows L2
variable {X : Cx}
theorem mk_endN {pins : List (Addr × Obj)} {σ : L2.St} {H1 H2 : Hp} {hp hp2 h2 : Heap} {g1 g2 : Array GenState} {d1 d2 : Drawn} {t1 t2 : Nat} {os1 os2 : OsState} {a C : Addr} (I1 : Inv X pins σ H1 ⟨hp, g1, d1, t1, os1⟩)
    (ha : hp.objs.size ≤ a) (k : ∀ b o, hp.get? b = some o → hp2.get? b = some o) (un : Un (frs X.stack) [] (upd H1 a (exo a C none)) H2 hp2 h2) (hok : HOk X.prog X.w H2 h2) (ho : os2 = os1) (hb : AllBare g2)
    (ea : H2 a = some (exo a C none)) :
    ∃ (t0 : Addr) (G : Heap), Inv X pins σ (del H2 a) ⟨G, g2, d2, t2, os2⟩ ∧ (∀ b o, G.get? b = some o → h2.get? b = some o) ∧ G.get? a = none ∧
      h2.get? a = some ({ cls := .ref C, dict := none, data := .fields #[.ref t0, .none, .none, .none, .bool false, .none] } : Obj) := by
  obtain ⟨t0, hoe⟩ := exo_at hok ea
  have hn : H1 a = none := I1.hok.fresh ha
  obtain ⟨G, g1', g2'⟩ := restrict h2 fun b => decide (b ≠ a)
  have gk : ∀ b, b ≠ a → G.get? b = h2.get? b := fun b hb => g1' b (decide_eq_true hb)
  have ge : G.get? a = none := g2' a (by simp)
  have nha : ∀ {b : Addr} {o : Obj}, hp.get? b = some o → b ≠ a := fun {b o} z => Nat.ne_of_lt (Nat.lt_of_lt_of_le (Heap.lt_size z) ha)
  have up : ∀ {b : Addr}, b ≠ a → H1 b = none → upd H1 a (exo a C none) b = none := fun {b} hb n => by rw [upd_ne hb]; exact n
  have U : Un (frs X.stack) [] H1 (del H2 a) hp G := {
    keep := fun b o z n hf hx => by
      rw [gk b (nha z)]
      exact un.keep b o (k b o z) (up (nha z) n) hf hx
    slot := fun b o z n hf hx => by
      rw [gk b (nha z)]
      exact un.slot b o (k b o z) (up (nha z) n) hf hx
    free := fun b o z n hx => by
      rw [del_ne (nha z)]
      exact un.free b o (k b o z) (up (nha z) n) hx
    there := fun b o z hx => by
      rw [gk b (nha z)]
      exact un.there b o (k b o z) hx
    tups := fun b xs z => by
      rw [del_ne (ne_of_none z hn)]
      exact un.tups b xs (by rw [upd_ne (ne_of_none z hn)]; exact z)
    frzs := fun b o v z => by
      rw [del_ne (ne_of_none z hn)]
      exact un.frzs b o v (by rw [upd_ne (ne_of_none z hn)]; exact z)
    tbls := fun b ps z => by
      rw [del_ne (ne_of_none z hn)]
      exact un.tbls b ps (by rw [upd_ne (ne_of_none z hn)]; exact z) }
  have hok3 : HOk X.prog X.w (del H2 a) G := fun b o z => by
    have hba : b ≠ a := fun e => by
      rw [e, del_same] at z
      cases z
    rw [del_ne hba] at z
    have noa : ∀ {c : Addr}, H2 c = some (.own b) → c ≠ a := fun {c} hc => at_ne ea hc exo_own
    exact (hok b o z).stay (fun c v hc y => by
        have hca : c ≠ a := by
          rcases hc with hc | hc
          · rw [hc]
            exact hba
          · exact noa hc
        rw [gk c hca]
        exact y)
      (fun c hc => by rw [del_ne (noa hc)]; exact hc) (fun c xs hc => by rw [del_ne (at_ne ea hc exo_tup)]; exact hc)
  have J : Inv X pins σ (del H2 a) ⟨G, g2, d2, t2, os2⟩ := I1.call' (ch := []) ho U hok3 hb (fun b z => absurd z (by simp))
  refine ⟨t0, G, J, fun b o z => ?_, ge, hoe⟩
  by_cases hba : b = a
  · rw [hba, ge] at z
    cases z
  · exact (gk b hba).symm.trans z
theorem del_upd {H : Hp} {a : Addr} {o : HO} (h : H a = none) : del (upd H a o) a = H := funext fun b => by
  by_cases e : b = a
  · rw [e, del_same, h]
  · rw [del_ne e, upd_ne e]
def tRz (C : Addr) (sp : Sp) : L2.St → Hp → XK → Prop := fun _ H Q => ∀ a, H a = none → sp [.ref a] (upd H a (exo a C none)) (fun v H2 => v = .non ∧ H2 a = some (exo a C none) ∧ Q (.ref C) none (del H2 a)) E0
theorem pmk_oex0 {x : Str} {C fI : Addr} {k : Nat} {fd : FuncData} {ps : List Str} {sp : Sp} {p pos : Pos} (T : OexC X.K C) (iC : PySem.W.findIn X.K (.ref C) "__init__" = some (some (.ref fI))) (tI : PySem.W.typeIn X.K (.ref fI) = some (.type "function"))
    (F1 : FnOk X.prog X.w X.K X.mg X.base CX0 k fI fd ps sp) (hr : Room (k + 1) X.A) (hb : Binds X.K fd ps []) (hm : X.mg x = some (.ref C)) (hg : Gl X x := by rfl) (hdb : (x == ("__debug__" : Str)) = false := by decide) :
    PMk X (.Call (.Name x p) [] [] pos) (tRz C sp) := by
  intro pins s σ H Q I h
  obtain ⟨nm, q, N, bs, bm, sn, sub, ab, col, dd, k0, k1, k2, k3, k5, hC, hbm⟩ := T.cls
  refine wpAny_Call_Name_kw (ld_glob I hg hm ?_ hdb)
  refine PySem.W.callWith_K0 I.kIn T.kC ?_
  obtain ⟨hp, g, dr, tk, os⟩ := s
  have hsz : hp.objs.size ≤ hp.objs.size + 1 := Nat.le_succ _
  have hn : H (hp.objs.size + 1) = none := I.hok.fresh hsz
  have hq := h (hp.objs.size + 1) hn
  have kk : ∀ b o, hp.get? b = some o → ((hp.push (PySem.W.kdv_tup [])).push (PySem.HandSPX.excO C hp.objs.size)).get? b = some o := fun b o e => Heap.get?_push_of_some _ (Heap.get?_push_of_some _ e)
  have hget : ((hp.push (PySem.W.kdv_tup [])).push (PySem.HandSPX.excO C hp.objs.size)).get? (hp.objs.size + 1) = some (PySem.HandSPX.excO C hp.objs.size) := by heap_get
  have I2 : Inv X pins σ (upd H (hp.objs.size + 1) (exo (hp.objs.size + 1) C none)) ⟨(hp.push (PySem.W.kdv_tup [])).push (PySem.HandSPX.excO C hp.objs.size), g, dr, tk, os⟩ :=
    I.laid (t' := tk) (a := hp.objs.size + 1) (o := exo (hp.objs.size + 1) C none) (h' := (hp.push (PySem.W.kdv_tup [])).push (PySem.HandSPX.excO C hp.objs.size)) kk hsz (exo_ok hget)
  have r2 : Vals [V.ref (hp.objs.size + 1)] [Value.ref (hp.objs.size + 1)] := .cons rfl .nil
  have hl : ([Value.ref (hp.objs.size + 1)] ++ ([] : List Value)).length = ps.length := by
    have e := r2.length
    rw [F1.len _ _ _ _ hq] at e
    exact e.symm
  refine wpAny_call (PySem.HandSPX.call_own F.excBase_ValueError (fun Y => PySem.HandSPX.refsVE_contains Y bm hbm) (I.kIn _ _ hC) (PySem.W.looks_findIn I.kIn iC) (fun self => PySem.W.bind_fn I.kIn self tI) (Nat.zero_le _)
    (codeAny_mono (F1.run _ X.stack _ _ ⟨[Value.ref (hp.objs.size + 1)], []⟩ [Value.ref (hp.objs.size + 1)] _ _ (fun _ _ _ => False) (hr.make C [] []) (I2.env0.make C [] []) (hb _ [Value.ref (hp.objs.size + 1)] I2.kIn hl) r2 hq) fun r s' hq' => ?_))
  cases r with
  | error er => exact pass0 pins σ _ _ er s' I2 hq'
  | ok fl =>
    cases fl with
    | ret u =>
      obtain ⟨v, H2, os2, bare2, un2, hok2, rv, ev, ea, q2⟩ := hq'
      subst ev
      obtain ⟨h2, g2, d2, t2, os'⟩ := s'
      refine ⟨rv, ?_⟩
      obtain ⟨t0, G, J, kG, ge, hoe⟩ := mk_endN (d2 := d2) (t2 := t2) I hsz kk un2 hok2 os2 bare2 ea
      exact ⟨_, _, _, ⟨G, g2, d2, t2, os'⟩, _, .ref C, none, rfl, J, kG, ge, hoe, ⟨rfl, rfl⟩, rfl, rfl, del_same, rfl, bare2, raises_own T.exC T.tyC, q2⟩
    | next => exact False.elim hq'
    | brk => exact False.elim hq'
    | cont => exact False.elim hq'
end Nz
namespace Sm
open PySem PySem.Spec PyProof.Rows L2 Tn Vd RZ Gd
section
variable {P : Program} {w : World} {K : PySem.W.Frag} {mg : Str → Option Value} {base : Heap}
/-- a def of the text that may raise, wherever it stands -/
def DfX (P : Program) (w : World) (K : PySem.W.Frag) (mg : Str → Option Value) (base : Heap) (x : Str) (k : Nat) (ps : List Str) (sp : Sp) : Prop :=
  ∃ (f : Addr) (fd : FuncData), mg x = some (.ref f) ∧ PySem.W.keepIn K (.ref f) = true ∧ Binds K fd ps [] ∧ FnOk P w K mg base (L2.CX P w) k f fd ps sp
theorem pe_dfX {X : Cx} {x : Str} {k j : Nat} {ps : List Str} {sp : Sp} {W : WX} {e : Expr} {es : List Expr} {ta : TA} {p pos : Pos} (D : DfX X.prog X.w X.K X.mg X.base x k ps sp) (tk : Takes X W) (hr : Room j X.A) (hj : k ≤ j) (ha : PA X (e :: es) ta) (hg : Gl X x := by rfl)
    (hdb : (x == ("__debug__" : Str)) = false := by decide) (he : starEach (e :: es) X.env = (false, eval e X.env) :: starEach es X.env := by rfl) (hpl : (backTo pos (starEach es X.env)).any (·.1) = false := by rfl) :
    PE X (.Call (.Name x p) (e :: es) [] pos) (tCallS sp (WE W) ta) := by
  obtain ⟨f, fd, hm, hk, hb, F⟩ := D
  exact pe_callS F (hr.mono hj) hg hm hk hb (fun σ => passAt tk σ) ha hdb he hpl
/-- an error class without an __init__ of its own -/
structure CM (K : PySem.W.Frag) (mg : Str → Option Value) (x : Str) (C fI : Addr) : Prop where
  oex : OexC K C
  init : PySem.W.findIn K (.ref C) "__init__" = some (some (.ref fI))
  tI : PySem.W.typeIn K (.ref fI) = some (.type "function")
  glo : mg x = some (.ref C)
def sp0 : Sp := fun vs H Q _ => ∃ a : Addr, vs = [.ref a] ∧ Q .non H
def DI0 (P : Program) (w : World) (K : PySem.W.Frag) (mg : Str → Option Value) (base : Heap) (fI : Addr) : Prop := ∃ fd, FnOk P w K mg base CX0 1 fI fd ["self"] sp0 ∧ Binds K fd ["self"] []
theorem pmk_no {X : Cx} {x : Str} {C fI : Addr} {p pos : Pos} (c : CM X.K X.mg x C fI) (D : DI0 X.prog X.w X.K X.mg X.base fI) (hr : Room 2 X.A) (hg : Gl X x := by rfl) (hdb : (x == ("__debug__" : Str)) = false := by decide) : PMk X (.Call (.Name x p) [] [] pos) (Nz.tRz C sp0) := by
  obtain ⟨fd, F, hb⟩ := D
  exact Nz.pmk_oex0 c.oex c.init c.tI F hr hb c.glo hg hdb
theorem rz_ok {σ : L2.St} {C : Addr} {H : Hp} {Q : XK} (q : Q (.ref C) none H) : Nz.tRz C sp0 σ H Q := fun a ha => ⟨a, rfl, rfl, upd_same, by rw [Nz.del_upd ha]; exact q⟩
abbrev sIsRow : Stmt := top 33
abbrev sRowWord : Stmt := top 83
theorem scIsRow : FnScope ["schema", "name", "thing", "relation"] ["schema", "name", "thing"] (defScope sIsRow) := ⟨rfl, rfl, rfl, by decide +kernel, rfl, by decide +kernel, by decide +kernel⟩
/-- is_row of a name of the schema -/
def spIsRow (K : PySem.W.Frag) : Sp := fun vs H Q _ => ∃ (u v x : V) (e n d : PyData) (y k : PyData) (ss : List PyData), vs = [u, v, x] ∧ Dd K H u e ∧ Dd K H v n ∧ Dd K H x d ∧ schD e = true ∧ okD d = true ∧ relOf e n = .tuple [y, k, .tuple ss] ∧ ss.length ≤ 1000 ∧ ∀ H', Same H H' → Q (.bl (ofSorts (.tuple ss) d)) H'
theorem ok_isRow {f : Addr} {fd : FuncData} (F : FnP K "is_row" sIsRow f fd) (DL : Df P w K mg base "relation_of" 1 ["schema", "name"] (spRelOf K)) (DO : Df P w K mg base "is_of_sorts" 4 ["sorts", "thing"] (spA2 K SortsF ofSorts)) : FnOk P w K mg base CX0 5 f fd ["schema", "name", "thing"] (spIsRow K) := by
  refine F.ok scIsRow (fun vs H Q E h => ?_) (fun cdv A outer s H vs Q E hr h => ?_)
  · obtain ⟨u, v, x, e, n, d, y, k, ss, rfl, _⟩ := h
    rfl
  obtain ⟨u, v, x, e, n, d, y, k, ss, rfl, hu, hv, hx, hs, ok, er, l, q⟩ := h
  refine ⟨_, PSs.nox (pss_cons (ps_set (i := 3) scIsRow.nd rfl (Or.inl rfl) (pe_df DL hr (by decide) (pa_cons (pv 0) (pa_cons (pv 1) pa_nil))))
      (pss_cons (ps_if (pt_cmpR op_isN (pv 3) pe_non (nomark _)) (pss_one (ps_never)) pss_nil)
      (pss_one (ps_ret (pe_df DO hr (by decide) (pa_cons (pe_ix ix_tup (pv 3) pe_int (fun _ _ => rfl)) (pa_cons (pv 2) pa_nil))))))), ?_⟩
  refine ⟨_, rfl, _, rfl, u, v, e, n, rfl, hu, hv, hs, fun w3 H1 s1 h3 => ?_⟩
  rw [er] at h3
  obtain ⟨p, xs, rfl, t0, g0⟩ := ofTup h3
  obtain ⟨v1, r1, rfl, b1, g0⟩ := dall_uncons g0
  obtain ⟨v2, r2, rfl, b2, g0⟩ := dall_uncons g0
  obtain ⟨v3, r3, rfl, b3, g0⟩ := dall_uncons g0
  cases dall_unnil g0
  refine ⟨_, rfl, rfl, _, rfl, iteF ⟨_, rfl, p, _, _, _, rfl, rfl, t0.sq, atI_nat (j := 2) rfl, _, rfl, v3, x, .tuple ss, d, rfl, b3, hx.same s1, ok, ⟨ss, rfl, l⟩, fun H2 s2 => q H2 (s1.trans s2)⟩⟩
/-- is_row of what is no name of the schema -/
def spIsRowX (K : PySem.W.Frag) (C : Addr) : Sp := fun vs H Q E => ∃ (u v x : V) (e n : PyData), vs = [u, v, x] ∧ Dd K H u e ∧ Dd K H v n ∧ schD e = true ∧ relOf e n = .none ∧ ∀ H', Same H H' → E (.ref C) none H'
theorem ok_isRowX {f C fI : Addr} {fd : FuncData} (F : FnP K "is_row" sIsRow f fd) (c : CM K mg "NoName" C fI) (DI : DI0 P w K mg base fI) (DL : Df P w K mg base "relation_of" 1 ["schema", "name"] (spRelOf K)) (DO' : Df P w K mg base "is_of_sorts" 4 ["sorts", "thing"] (spA2 K SortsF ofSorts)) : FnOk P w K mg base (L2.CX P w) 5 f fd ["schema", "name", "thing"] (spIsRowX K C) := by
  have DO := DO'
  refine F.ok (CX := L2.CX P w) scIsRow (fun vs H Q E h => ?_) (fun cdv A outer s H vs Q E hr h => ?_)
  · obtain ⟨u, v, x, e, n, rfl, _⟩ := h
    rfl
  obtain ⟨u, v, x, e, n, rfl, hu, hv, hs, er, no⟩ := h
  have hr2 := hr.mono (j := 2) (by decide)
  refine ⟨_, (pss_cons (ps_set (i := 3) scIsRow.nd rfl (Or.inl rfl) (pe_df DL hr (by decide) (pa_cons (pv 0) (pa_cons (pv 1) pa_nil))))
      (pss_cons (ps_if (pt_cmpR op_isN (pv 3) pe_non (nomark _)) (pss_one (ps_raise rfl (takes_of rfl rfl rfl rfl) (pmk_no c DI hr2))) pss_nil)
      (pss_one (ps_ret (pe_df DO hr (by decide) (pa_cons (pe_ix ix_tup (pv 3) pe_int (fun _ _ => rfl)) (pa_cons (pv 2) pa_nil))))))), ?_⟩
  refine ⟨_, rfl, _, rfl, u, v, e, n, rfl, hu, hv, hs, fun w3 H1 s1 h3 => ?_⟩
  rw [er] at h3
  cases h3
  exact ⟨_, rfl, rfl, _, rfl, iteT (rz_ok (no H1 s1))⟩
/-! ### _law_row_word -/
theorem scRowWord : FnScope ["schema", "name", "thing", "told", "error", "flags"] ["schema", "name", "thing"] (defScope sRowWord) := ⟨rfl, rfl, rfl, by decide +kernel, rfl, by decide +kernel, by decide +kernel⟩
/-- what the classes say of an error of the class at C (NoName) -/
structure Cf (K : PySem.W.Frag) (mg : Str → Option Value) (C : Addr) : Prop where
  exc : ExcC K C
  view : ∃ V, mg "ViewError" = some (.ref V) ∧ PySem.W.exmOne K (.ref C) (.ref V) = some true
  no : ∀ x ∈ (["NoDeed", "NoEdit", "NoLife", "NoMark", "NoSchema", "NotYet", "OtherSchema"] : List Str), ∃ D, mg x = some (.ref D) ∧ PySem.W.kitOne K (.ref C) (.ref D) = some false
  name : mg "NoName" = some (.ref C)
  own : PySem.W.kitOne K (.ref C) (.ref C) = some true
  val : PySem.W.kitOne K (.ref C) (.type "ValueError") = some true
theorem guard {X : Cx} {sts : List Stmt} {t : TS} {p : Prop} (h : p → PSs X sts t) : PSs X sts (fun D σ H => p ∧ t D σ H) := ⟨fun pins s σ H D I z => (h z.1).run pins s σ H D I z.2⟩
def tSuite (K : PySem.W.Frag) (C a D0 D1 D2 D3 D4 D5 D6 : Addr) : TS := (tSeq (tAsg (tLst (tCons (tCB (rIsE K C a) (tCons (tVar 4) (tCons (tC (.ref D0)) tNil))) (tCons (tCB (rIsE K C a) (tCons (tVar 4) (tCons (tC (.ref D1)) tNil))) (tCons (tCB (rIsE K C a) (tCons (tVar 4) (tCons (tC (.ref D2)) tNil))) tNil)))) (gName 5)) (tSeq (tAsg (tOp rCat (tVar 5) (tLst (tCons (tCB (rIsE K C a) (tCons (tVar 4) (tCons (tC (.ref D3)) tNil))) (tCons (tCB (rIsE K C a) (tCons (tVar 4) (tCons (tC (.ref D4)) tNil))) (tCons (tCB (rIsE K C a) (tCons (tVar 4) (tCons (tC (.ref D5)) tNil))) tNil))))) (gName 5)) (tSeq (tAsg (tIf (tAnd (tB (tCB (rIsE K C a) (tCons (tVar 4) (tCons (tC (.ref C)) tNil)))) (tTest (tOp (rIn K true) (tC (.bl true)) (tVar 5)))) (tC (.str "name")) (tC (.str "other"))) (gName 3)) (tAsg (tIf (tOr (tB (tCB (rIsE K C a) (tCons (tVar 4) (tCons (tC (.ref D6)) tNil)))) (tNot (tB (tCB (rIsE K C a) (tCons (tVar 4) (tCons (tC (.ty "ValueError")) tNil)))))) (tC (.str "other")) (tVar 3)) (gName 3)))))
theorem suite_run {K : PySem.W.Frag} {C a D0 D1 D2 D3 D4 D5 D6 : Addr} {D : Ends} {x0 x1 x2 x3 x5 : Option V} {H : Hp} (e0 : PySem.W.kitOne K (.ref C) (.ref D0) = some false) (e1 : PySem.W.kitOne K (.ref C) (.ref D1) = some false) (e2 : PySem.W.kitOne K (.ref C) (.ref D2) = some false) (e3 : PySem.W.kitOne K (.ref C) (.ref D3) = some false)
    (e4 : PySem.W.kitOne K (.ref C) (.ref D4) = some false) (e5 : PySem.W.kitOne K (.ref C) (.ref D5) = some false) (e6 : PySem.W.kitOne K (.ref C) (.ref D6) = some false) (eo : PySem.W.kitOne K (.ref C) (.ref C) = some true) (ev : PySem.W.kitOne K (.ref C) (.type "ValueError") = some true)
    (h : ∀ (H' : Hp) (y : Option V), Same H H' → D.nx [x0, x1, x2, some (.str "name"), some (.ref a), y] H') : tSuite K C a D0 D1 D2 D3 D4 D5 D6 D [x0, x1, x2, x3, some (.ref a), x5] H := by
  have rr : ∀ {D : Addr} (u : Value), RelV (.ref D) u → u = .ref D := fun {D} u r => r
  have rt : ∀ {n : String} (u : Value), RelV (.ty n) u → u = .type n := fun {n} u r => r
  refine ⟨_, rfl, .ref D0, _, _, rfl, rr, e0, _, rfl, .ref D1, _, _, rfl, rr, e1, _, rfl, .ref D2, _, _, rfl, rr, e2, by show 3 ≤ sizeLine; rw [sizeLine_eq]; decide, fun p hp => ?_⟩
  refine ⟨_, rfl, _, rfl, .ref D3, _, _, rfl, rr, e3, _, rfl, .ref D4, _, _, rfl, rr, e4, _, rfl, .ref D5, _, _, rfl, rr, e5, by show 3 ≤ sizeLine; rw [sizeLine_eq]; decide, fun l hl => ?_⟩
  have s1 : Same H (upd H p (.lst [.bl false, .bl false, .bl false])) := same_up hp
  have a1 : (upd H p (.lst [.bl false, .bl false, .bl false])) p = some (.lst [.bl false, .bl false, .bl false]) := upd_same
  refine ⟨p, l, _, _, rfl, rfl, (same_up hl) _ _ a1, upd_same, by show 6 ≤ sizeLine; rw [sizeLine_eq]; decide, fun z hz => ?_⟩
  have sA := (s1.trans (same_up (o := .lst [.bl false, .bl false, .bl false]) hl)).trans (same_up (o := .lst [.bl false, .bl false, .bl false, .bl false, .bl false, .bl false]) hz)
  refine ⟨_, rfl, .ref C, _, _, rfl, rr, eo, _, rfl, iteT ⟨_, rfl, z, _, rfl, .inl (SqL.of upd_same), rfl, rfl, _, rfl, ?_⟩⟩
  refine iteT ⟨_, rfl, .ref D6, _, _, rfl, rr, e6, _, rfl, iteF ⟨_, rfl, .ty "ValueError", _, _, rfl, rt, ev, _, rfl, iteF ⟨_, rfl, h _ _ sA⟩⟩⟩
def spRowWord (K : PySem.W.Frag) : Sp := fun vs H Q _ => ∃ (u v x : V) (e n : PyData), vs = [u, v, x] ∧ Dd K H u e ∧ Dd K H v n ∧ schD e = true ∧ relOf e n = .none ∧ ∀ H', Same H H' → Q (.str "name") H'
theorem ok_rowWord {f C : Addr} {fd : FuncData} (F : FnP K "_law_row_word" sRowWord f fd) (M : Nm mg) (hve : mg "ValueError" = none) (cf : Cf K mg C) (DX : DfX P w K mg base "is_row" 5 ["schema", "name", "thing"] (spIsRowX K C)) : FnOk P w K mg base CX0 6 f fd ["schema", "name", "thing"] (spRowWord K) := by
  refine F.ok scRowWord (fun vs H Q E h => ?_) (fun cdv A outer s H vs Q E hr h => ?_)
  · obtain ⟨u, v, x, e, n, rfl, _⟩ := h
    rfl
  obtain ⟨u, v, x, e, n, rfl, hu, hv, hs, er, qq⟩ := h
  obtain ⟨CV, gV, eV⟩ := cf.view
  obtain ⟨D0, g0, e0⟩ := cf.no "NoDeed" (by decide +kernel)
  obtain ⟨D1, g1, e1⟩ := cf.no "NoEdit" (by decide +kernel)
  obtain ⟨D2, g2, e2⟩ := cf.no "NoLife" (by decide +kernel)
  obtain ⟨D3, g3, e3⟩ := cf.no "NoMark" (by decide +kernel)
  obtain ⟨D4, g4, e4⟩ := cf.no "NoSchema" (by decide +kernel)
  obtain ⟨D5, g5, e5⟩ := cf.no "NotYet" (by decide +kernel)
  obtain ⟨D6, g6, e6⟩ := cf.no "OtherSchema" (by decide +kernel)
  have gN := cf.name
  refine ⟨_, (pss_cons (ps_set (i := 3) scRowWord.nd rfl (Or.inl rfl) pe_non)
      (pss_cons (ps_try_as (c := .ref CV) (i := 4) (tb := fun W => tAsg (tCallS (spIsRowX K C) (WE W) (tCons (tVar 0) (tCons (tVar 1) (tCons (tVar 2) tNil)))) (gName 3)) (ts := fun a cls d D σ H => (cls = .ref C ∧ d = none) ∧ tSuite K C a D0 D1 D2 D3 D4 D5 D6 D σ H) (Wout := fun _ _ _ _ => False)
        rfl rfl scRowWord.nd rfl rfl ⟨by rfl, by decide, .inl gV⟩ takes0 (fun W pn xe tk _ => pss_one (ps_set (i := 3) scRowWord.nd rfl (Or.inl rfl) (pe_dfX DX tk hr (by decide) (pa_cons (pv 0) (pa_cons (pv 1) (pa_cons (pv 2) pa_nil)))))) (fun a oe cls d pn hz hv => ?_))
      (pss_one (ps_ret (pv 3))))), ?_⟩
  · refine guard fun hcd => ?_
    obtain ⟨rfl, rfl⟩ := hcd
    exact (pss_cons (ps_set (i := 5) scRowWord.nd rfl (Or.inl rfl) (pe_lst (pa_cons (pe_callB (r := rIsE K C a) (call_isE cf.exc hz hv) (by rfl) M.isinstance (by decide +kernel) (pa_cons (pv 4) (pa_cons (pe_glob (v := .ref D0) (by rfl) g0 rfl) pa_nil))) (pa_cons (pe_callB (r := rIsE K C a) (call_isE cf.exc hz hv) (by rfl) M.isinstance (by decide +kernel) (pa_cons (pv 4) (pa_cons (pe_glob (v := .ref D1) (by rfl) g1 rfl) pa_nil))) (pa_cons (pe_callB (r := rIsE K C a) (call_isE cf.exc hz hv) (by rfl) M.isinstance (by decide +kernel) (pa_cons (pv 4) (pa_cons (pe_glob (v := .ref D2) (by rfl) g2 rfl) pa_nil))) pa_nil)))))
      (pss_cons (ps_set (i := 5) scRowWord.nd rfl (Or.inl rfl) (pe_op op_cat (pv 5) (pe_lst (pa_cons (pe_callB (r := rIsE K C a) (call_isE cf.exc hz hv) (by rfl) M.isinstance (by decide +kernel) (pa_cons (pv 4) (pa_cons (pe_glob (v := .ref D3) (by rfl) g3 rfl) pa_nil))) (pa_cons (pe_callB (r := rIsE K C a) (call_isE cf.exc hz hv) (by rfl) M.isinstance (by decide +kernel) (pa_cons (pv 4) (pa_cons (pe_glob (v := .ref D4) (by rfl) g4 rfl) pa_nil))) (pa_cons (pe_callB (r := rIsE K C a) (call_isE cf.exc hz hv) (by rfl) M.isinstance (by decide +kernel) (pa_cons (pv 4) (pa_cons (pe_glob (v := .ref D5) (by rfl) g5 rfl) pa_nil))) pa_nil))))))
      (pss_cons (ps_set (i := 3) scRowWord.nd rfl (Or.inl rfl) (pe_ifExp (PW.pt (pw_and (pt_val (pe_callB (r := rIsE K C a) (call_isE cf.exc hz hv) (by rfl) M.isinstance (by decide +kernel) (pa_cons (pv 4) (pa_cons (pe_glob (v := .ref C) (by rfl) gN rfl) pa_nil)))) (pw_and1 (pt_cmpR (r := rIn K true) op_notIn_seq pe_bl (pv 5) (by rfl))))) pe_str pe_str))
      (pss_one (ps_set (i := 3) scRowWord.nd rfl (Or.inl rfl) (pe_ifExp (PW.pt (pw_or (pt_val (pe_callB (r := rIsE K C a) (call_isE cf.exc hz hv) (by rfl) M.isinstance (by decide +kernel) (pa_cons (pv 4) (pa_cons (pe_glob (v := .ref D6) (by rfl) g6 rfl) pa_nil)))) (pw_or1 (pt_not (pt_val (pe_callB (r := rIsE K C a) (call_isE cf.exc hz hv) (by rfl) M.isinstance (by decide +kernel) (pa_cons (pv 4) (pa_cons (ty_cls (n := "ValueError") hve (by rfl) (by decide +kernel)) pa_nil)))))))) pe_str (pv 3)))))))
  · refine ⟨_, rfl, _, rfl, _, rfl, u, v, x, e, n, rfl, hu, hv, hs, er, fun H1 s1 => ?_⟩
    exact ⟨true, eV, fun _ a _ => ⟨⟨rfl, rfl⟩, suite_run e0 e1 e2 e3 e4 e5 e6 cf.own cf.val fun H'' y sm => ⟨_, rfl, qq H'' (s1.trans sm)⟩⟩, fun z => nomatch z⟩
end
end Sm
namespace Sm
open PySem PySem.Spec PyProof.Rows L2 Tn Vd RZ Gd
theorem ye_bent {K : PySem.W.Frag} {a c : Addr} {H0 : Hp} {σ : L2.St} {i k n b : Nat} {t : TE} (hσ : σ[i]? = some (some (.ref a))) (h : YE a c K H0 σ t (Bd n k b)) (hn : n ≤ 100000 := by decide) (hb : b ≤ 100 := by decide) : YE a c K H0 σ (tCall (spBent K k) [] E0 (tCons (tVar i) (tCons t tNil))) (Bd (3 * n + 2000) (k + 31) (b + 1)) := fun H Q hh kk q =>
  ⟨_, hσ, h H _ hh kk fun u e H1 fe hh1 k1 he => ⟨a, c, u, e, n, b, rfl, hh1, he, fe, hn, hb, fun v d H2 r hh2 k2 hd => q v d H2 r hh2 (k1.trans k2) hd⟩⟩
theorem ts_forT {K : PySem.W.Frag} {ta : TA} {g : TG} {tb : TS} {D : Ends} {σ : L2.St} {H : Hp} (h : ta σ H fun vs H1 => vs.length ≤ sizeLine ∧ ∀ T, H1 T = none → ∃ a, V.ref T = .ref a ∧ (∃ xs, SqT K (upd H1 T (.tup vs)) a xs) ∧ ∃ W : Nat → Nat → L2.St → Hp → Prop, (∃ m, W 0 m σ (upd H1 T (.tup vs))) ∧ ∀ i m σ H, W i m σ H →
      ((Itt K a).stop i H ∧ D.nx σ H) ∨ ((Itt K a).go i H ∧ ∃ N : L2.St → Hp → Prop, (∀ σ' H', N σ' H' → ∃ m', m' < m ∧ W (i + 1) m' σ' H') ∧ ∀ x H', (Itt K a).yld i H x H' → g x σ H' fun σ2 H2 => tb { D with nx := N, ct := N, bk := D.nx } σ2 H2)) : tFor (iTup K (tTup ta)) g tb D σ H := h
theorem okR_row {d : PyData} {n k b : Nat} (h : Bd n k b d) (hn : n ≤ 1000000 := by decide) (hk : k ≤ 100 := by decide) : okR d := h.okR hn hk
def notNm (e d : PyData) : Bool := !isS d || !inV (.str (strOf d)) (namesD e)
theorem notNm_none {es : List PyData} {d : PyData} (h : notNm (.tuple es) d = true) : relOf (.tuple es) d = .none := by
  unfold relOf
  have : (partsD (.tuple es)).find? (fun r => eqS d (strOf (at_ r 0))) = none := by
    rw [List.find?_eq_none]
    intro r m z
    have e1 := eqS_of z
    rw [e1] at h
    have h2 : inV (.str (strOf (at_ r 0))) (namesD (.tuple es)) = false := by
      have h3 : (!true || !inV (.str (strOf (at_ r 0))) (namesD (.tuple es))) = true := h
      simpa using h3
    have h4 : inV (.str (strOf (at_ r 0))) (namesD (.tuple es)) = true := List.any_eq_true.mpr ⟨V.str (strOf (at_ r 0)), List.mem_map.mpr ⟨r, m, rfl⟩, by show (strOf (at_ r 0) == strOf (at_ r 0)) = true; simp⟩
    rw [h2] at h4
    cases h4
  rw [this]
  rfl
section
variable {P : Program} {w : World} {K : PySem.W.Frag} {mg : Str → Option Value} {base : Heap}
abbrev sJudged : Stmt := top 85
def spJudged (K : PySem.W.Frag) : Sp := fun vs H Q _ => ∃ (a c : Addr) (u : V) (e : PyData), vs = [.ref a, u] ∧ HandC H a c ∧ Dv a K H u e ∧ SchR e ∧ ∀ H', HandC H' a c → Keep a H H' → Q (.bl true) H'
theorem scJudged : FnScope ["hand", "schema", "rules", "turn", "name", "kind", "sorts", "row", "deed", "edit", "thing", "other", "due", "one", "inner"] ["hand", "schema"] (defScope sJudged) := ⟨rfl, rfl, rfl, by decide +kernel, rfl, by decide +kernel, by decide +kernel⟩
theorem ok_judged {f : Addr} {fd : FuncData} (F : FnP K "_law_are_judged" sJudged f fd) (M : Nm mg) (DD : DDraw P w K mg base) (DS : DSome P w K mg base) (DST : DSomeT P w K mg base) (DR : Df P w K mg base "_law_rule" 4 ["hand", "schema"] (spZ K SchR RuleR)) (DRow : Df P w K mg base "_law_row" 4 ["hand", "sorts"] (spZ K SortsR RowR))
    (DDe : Df P w K mg base "_law_deed" 5 ["hand", "schema"] (spZ K SchR DeedR)) (DEd : Df P w K mg base "_law_edit" 3 ["hand", "deed"] (spZ K (fun _ => True) EditR)) (DO : DY P w K mg base "_law_odd" 4 Odd)
    (DB1 : Df P w K mg base "_law_bent" 7 ["hand", "thing"] (spBent K 1)) (DB6 : Df P w K mg base "_law_bent" 17 ["hand", "thing"] (spBent K 6)) (DB7 : Df P w K mg base "_law_bent" 19 ["hand", "thing"] (spBent K 7)) (DB32 : Df P w K mg base "_law_bent" 69 ["hand", "thing"] (spBent K 32)) (DB37 : Df P w K mg base "_law_bent" 79 ["hand", "thing"] (spBent K 37))
    (DIR : Df P w K mg base "is_row" 5 ["schema", "name", "thing"] (spIsRow K)) (DLW : Df P w K mg base "_law_are_worths" 3 ["sorts", "thing"] (spA2 K SortsG ofSorts)) (DRW : Df P w K mg base "_law_row_word" 6 ["schema", "name", "thing"] (spRowWord K))
    (DID : Df P w K mg base "is_deed" 11 ["schema", "thing"] (spA2 K DeedF deedD)) (DIE : Df P w K mg base "is_edit" 12 ["schema", "thing"] (spA2 K EditF editD))
    (GD : Dg P w K mg base "_law_is_due_deed" 4 ["schema", "rules", "thing"] (spDue K dueD)) (GE : Dg P w K mg base "_law_is_due_edit" 5 ["schema", "rules", "thing"] (spDue K dueE)) (GB : Dg P w K mg base "_law_is_rule_bent" 2 ["rules", "thing"] (spRules K bentD)) : FnG P w K mg base 80 f fd ["hand", "schema"] (spJudged K) := by
  refine fnG F scJudged (fun vs H Q E h => ?_) (fun cdv A outer s H vs Q hgd hr h => ?_)
  · obtain ⟨a, c, u, e, rfl, _⟩ := h
    rfl
  obtain ⟨a, c, u, e, rfl, hh, he, hs, q⟩ := h
  have hg : (A.deeper (envOfC "_law_are_judged" (defScope sJudged) s.heap.objs.size f cdv)).guards = some [] := hgd
  refine ⟨_, PSs.nox (pss_cons (ps_setLc (i := 2) (own := [("turn", 3)]) (g := gName 3) (tt := tYes) rfl scJudged.nd rfl rfl (sw_true rfl rfl rfl (by decide +kernel)) (pi_range1 (by rfl) M.range (pa_cons pe_int pa_nil)) (blkOk_by (N := ["hand", "schema", "rules", "turn", "name", "kind", "sorts", "row", "deed", "edit", "thing", "other", "due", "one", "inner"]) (sc := defScope sJudged) (by decide +kernel)) (fun _ _ _ _ _ => pg_name (i := 3) scJudged.nd rfl (Or.inl rfl)) (fun _ _ _ _ _ => pts_nil) (fun _ _ _ _ _ => (pe_df DR hr (by decide) (pa_cons (pv 0) (pa_cons (pv 1) pa_nil)))))
      (pss_cons (ps_asg (pe_df DST hr (by decide) (pa_cons (pv 0) (pa_cons (pv 1) pa_nil))) (pg_tup rfl (pgs_cons (pg_name (i := 4) scJudged.nd rfl (Or.inl rfl)) (pgs_cons (pg_name (i := 5) scJudged.nd rfl (Or.inl rfl)) (pgs_cons (pg_name (i := 6) scJudged.nd rfl (Or.inl rfl)) pgs_nil)))))
      (pss_cons (ps_par (i := 7) (j := 8) (by rfl) scJudged.nd rfl rfl (by decide) rfl rfl (pa_cons (pe_df DRow hr (by decide) (pa_cons (pv 0) (pa_cons (pv 6) pa_nil))) (pa_cons (pe_df DS hr (by decide) (pa_cons (pv 0) (pa_cons (pe_lst (pa_cons (pe_df DDe hr (by decide) (pa_cons (pv 0) (pa_cons (pv 1) pa_nil))) (pa_cons (pe_tupF (pa_cons pe_str (pa_cons pe_str (pa_cons (pe_ix ix_list (pv 2) pe_int (fun _ _ => rfl)) pa_nil)))) pa_nil))) pa_nil))) pa_nil)) (by rfl))
      (pss_cons (ps_set (i := 9) scJudged.nd rfl (Or.inl rfl) (pe_df DEd hr (by decide) (pa_cons (pv 0) (pa_cons (pv 8) pa_nil))))
      (C8.pss_cut (ps_set (i := 2) scJudged.nd rfl (Or.inl rfl) (pe_op op_cat (pv 2) (pe_ifExp (pt_cmpR (op_eqS (hu_of1 hr)) (pe_ix ix_tup (pv 8) pe_int (fun _ _ => rfl)) pe_str (nomark _)) (pe_lst (pa_cons (pe_ix ix_tup (pv 8) pe_int (fun _ _ => rfl)) pa_nil)) (pe_lst pa_nil))))
      (C8.pss_cut (ps_for PassesOwn.never rfl (pi_tup (pe_tup (pa_cons (pv 7) (pa_cons (pe_df DB1 hr (by decide) (pa_cons (pv 0) (pa_cons (pv 7) pa_nil))) (pa_cons (pe_df DB32 hr (by decide) (pa_cons (pv 0) (pa_cons (pe_df DB1 hr (by decide) (pa_cons (pv 0) (pa_cons (pv 7) pa_nil))) pa_nil))) pa_nil))))) (pg_name (i := 10) scJudged.nd rfl (Or.inl rfl)) (pss_one (ps_if (pt_cmpR op_ne (pe_callB (id := "repr") (r := rReprB) call_reprB (by rfl) M.repr (by decide +kernel) (pa_cons (pe_df DIR hr (by decide) (pa_cons (pv 1) (pa_cons (pv 4) (pa_cons (pv 10) pa_nil)))) pa_nil)) (pe_callB (id := "repr") (r := rReprB) call_reprB (by rfl) M.repr (by decide +kernel) (pa_cons (pe_df DLW hr (by decide) (pa_cons (pv 6) (pa_cons (pv 10) pa_nil))) pa_nil)) (nomark _)) (pss_one (ps_ret pe_bl)) pss_nil)))
      (pss_cons (ps_set (i := 11) scJudged.nd rfl (Or.inl rfl) (pe_df DS hr (by decide) (pa_cons (pv 0) (pa_cons (pe_lst (pa_cons (pe_op (r := rAddS) op_add_str (pv 4) pe_str) (pa_cons pe_str (pa_cons pe_str (pa_cons pe_non (pa_cons pe_int (pa_cons (pe_tupF (pa_cons (pv 4) pa_nil)) (pa_cons (pe_lstN (pa_cons (pv 4) pa_nil)) (pa_cons pe_bl (pa_cons (pe_df DO hr (by decide) (pa_cons (pv 0) pa_nil)) (pa_cons (pv 4) pa_nil))))))))))) pa_nil))))
      (C8.pss_cut (ps_set (i := 12) scJudged.nd rfl (Or.inl rfl) (pe_ifExp (PW.pt (pw_or (pt_not (pt_val (pe_callB (id := "isinstance") (r := rIsi K) call_isi (by rfl) M.isinstance (by decide +kernel) (pa_cons (pv 11) (pa_cons (ty_cls (n := "str") M.str (by rfl) (by decide +kernel)) pa_nil))))) (pw_or1 (pt_cmpR op_notIn_seq (pv 11) (pe_lc (own := [("one", 13)]) (g := gName 13) (tt := tYes) (by rfl) scJudged.nd (pi_tup (pv 1)) (blkOk_by (N := ["hand", "schema", "rules", "turn", "name", "kind", "sorts", "row", "deed", "edit", "thing", "other", "due", "one", "inner"]) (sc := defScope sJudged) (by decide +kernel)) (fun _ _ _ _ _ => pg_name (i := 13) scJudged.nd rfl (Or.inl rfl)) (fun _ _ _ _ _ => pts_nil) (fun _ _ _ _ _ => (pe_ix (r := rIxT K) ix_tup (pv 13) pe_int (fun _ _ => rfl)))) (by rfl))))) pe_str pe_non))
      (C8.pss_cut (ps_if (PW.pt (pw_and (pt_cmpR op_notN (pv 12) pe_non (nomark _)) (pw_and1 (pt_cmpR op_ne (pe_df DRW hr (by decide) (pa_cons (pv 1) (pa_cons (pv 11) (pa_cons (pv 7) pa_nil)))) (pv 12) (nomark _))))) (pss_one (ps_ret pe_bl)) pss_nil)
      (C8.pss_cut (ps_for PassesOwn.never rfl (pi_tup (pe_tup (pa_cons (pv 8) (pa_cons (pe_df DB6 hr (by decide) (pa_cons (pv 0) (pa_cons (pv 8) pa_nil))) (pa_cons (pe_df DB6 hr (by decide) (pa_cons (pv 0) (pa_cons (pv 8) pa_nil))) (pa_cons (pe_df DB37 hr (by decide) (pa_cons (pv 0) (pa_cons (pe_df DB6 hr (by decide) (pa_cons (pv 0) (pa_cons (pv 8) pa_nil))) pa_nil))) pa_nil)))))) (pg_name (i := 10) scJudged.nd rfl (Or.inl rfl)) (pss_cons (ps_set (i := 12) scJudged.nd rfl (Or.inl rfl) (pe_dg GD hg hr (by decide) (pa_cons (pv 1) (pa_cons (pv 2) (pa_cons (pv 10) pa_nil)))))
      (pss_one (ps_if (PW.pt (pw_and (pt_not (pt_val (pe_dg GB hg hr (by decide) (pa_cons (pv 2) (pa_cons (pv 10) pa_nil))))) (pw_and1 (pt_cmpR op_ne (pe_callB (id := "repr") (r := rReprB) call_reprB (by rfl) M.repr (by decide +kernel) (pa_cons (pe_df DID hr (by decide) (pa_cons (pv 1) (pa_cons (pv 10) pa_nil))) pa_nil)) (pe_callB (id := "repr") (r := rReprB) call_reprB (by rfl) M.repr (by decide +kernel) (pa_cons (pv 12) pa_nil)) (nomark _))))) (pss_one (ps_ret pe_bl)) pss_nil))))
      (pss_cons (ps_for PassesOwn.never rfl (pi_tup (pe_tup (pa_cons (pv 9) (pa_cons (pe_df DB7 hr (by decide) (pa_cons (pv 0) (pa_cons (pv 9) pa_nil))) (pa_cons (pe_df DB7 hr (by decide) (pa_cons (pv 0) (pa_cons (pv 9) pa_nil))) (pa_cons (pe_op op_catF (pe_slice sl_tupF (pv 9) po_none (po_some pe_int)) (pe_tupF (pa_cons (pe_df DB6 hr (by decide) (pa_cons (pv 0) (pa_cons (pv 8) pa_nil))) pa_nil))) pa_nil)))))) (pg_name (i := 10) scJudged.nd rfl (Or.inl rfl)) (pss_cons (ps_set (i := 14) scJudged.nd rfl (Or.inl rfl) (pe_ifExp (PW.pt (pw_and (pt_val (pe_callB (id := "isinstance") (r := rIsi K) call_isi (by rfl) M.isinstance (by decide +kernel) (pa_cons (pv 10) (pa_cons (ty_cls (n := "tuple") M.tuple (by rfl) (by decide +kernel)) pa_nil)))) (pw_and1 (pt_cmpR op_eq (pe_callB call_len_seq (by rfl) M.len PySem.boot_len (pa_cons (pv 10) pa_nil)) pe_int (nomark _))))) (pe_ix ix_tup (pv 10) pe_int (fun _ _ => rfl)) pe_non))
      (pss_cons (ps_set (i := 12) scJudged.nd rfl (Or.inl rfl) (pe_dg GE hg hr (by decide) (pa_cons (pv 1) (pa_cons (pv 2) (pa_cons (pv 10) pa_nil)))))
      (pss_one (ps_if (PW.pt (pw_and (pt_not (pt_val (pe_dg GB hg hr (by decide) (pa_cons (pv 2) (pa_cons (pv 14) pa_nil))))) (pw_and1 (pt_cmpR op_ne (pe_callB (id := "repr") (r := rReprB) call_reprB (by rfl) M.repr (by decide +kernel) (pa_cons (pe_df DIE hr (by decide) (pa_cons (pv 1) (pa_cons (pv 10) pa_nil))) pa_nil)) (pe_callB (id := "repr") (r := rReprB) call_reprB (by rfl) M.repr (by decide +kernel) (pa_cons (pv 12) pa_nil)) (nomark _))))) (pss_one (ps_ret pe_bl)) pss_nil)))))
      (pss_one (ps_ret pe_bl))))))))))))), ?_⟩
  refine ⟨_, rfl, by decide, by decide, fun D hD => ?_⟩
  have nDa := hh.live.ne hD
  have nDc := hh.cne hD
  refine lc_range (n := (2 : Int).toNat) (fun i H' => HandC H' a c ∧ Keep a H H' ∧ ∃ (ws : List V) (rs : List PyData), H' D = some (.lst ws) ∧ DfAll K H' ws rs ∧ rs.length = i ∧ ∀ r ∈ rs, RuleR e r) ⟨hh.same (same_up hD), keep_same (same_up hD), [], [], upd_same, .nil, rfl, fun _ z => absurd z (by simp)⟩ (fun i H' hi z => ?_) (fun H1 z => ?_)
  · obtain ⟨hh4, k4, ws, rs, eD, hd, el, hr'⟩ := z
    refine ⟨rfl, ?_⟩
    refine ye_zv (a := a) (c := c) (K := K) (H0 := H') (σ := [some (.ref a), some u, none, some (.int (0 + (i : Int))), none, none, none, none, none, none, none, none, none, none, none]) (i := 0) (j := 1) (F := SchR) (R2 := RuleR) rfl rfl (he.ky k4) hs H' _ hh4 .refl fun v d H5 r hh5 k5 hd5 => ?_
    have eD5 := k5 _ _ nDa eD
    refine ⟨ws, eD5, by rw [dall_len hd, size6]; have : i < 2 := hi; omega, hh5.set nDa nDc, ?_, ws ++ [v], rs ++ [d], upd_same, dfall_kp (dall_app (dfall_kp hd (kpf_keep hh4.live k5)) (.cons (dv_toF hd5 r.no) .nil)) (kpf_lst eD5), by rw [List.length_append, el]; rfl, fun x m => ?_⟩
    · intro b o nb eb
      rw [upd_ne (ne_of_none eb hD)]
      exact (k4.trans k5) b o nb eb
    · rcases List.mem_append.mp m with m | m
      · exact hr' x m
      · rw [List.mem_singleton.mp m]
        exact r
  obtain ⟨hh1, k1, ws, rs, eD, hdr, el, hru⟩ := z
  obtain ⟨es, rfl, l1, l8, hrel⟩ := schD_of hs.sch
  refine ye_someT (a := a) (c := c) (K := K) (H0 := H1) (σ := [some (.ref a), some u, some (.ref D), none, none, none, none, none, none, none, none, none, none, none, none]) (R := fun r => r ∈ es) rfl rfl (he.ky k1) (by omega) (by omega) (fun _ m => m) H1 _ hh1 .refl fun v1 r H2 hr1 hh2 k2 hd1 => ?_
  obtain ⟨x, k, ss, er, hn, hss, hk⟩ := relD_of (hrel r hr1)
  subst er
  obtain ⟨p1, xs1, rfl, t1, g1⟩ := ofTup' hd1
  obtain ⟨w1, r1, rfl, b1, g1⟩ := dall_uncons g1
  obtain ⟨w2, r2, rfl, b2, g1⟩ := dall_uncons g1
  obtain ⟨w3, r3, rfl, b3, g1⟩ := dall_uncons g1
  cases dall_unnil g1
  cases b1
  refine ⟨p1, _, rfl, (tupN_vis t1).sq, rfl, _, _, rfl, _, _, rfl, _, _, rfl, rfl, ?_⟩
  obtain ⟨s1, s5⟩ : 1 ≤ ss.length ∧ ss.length ≤ 5 := by
    obtain ⟨z, e1, e2, e3⟩ := tupOf_of (Bool.and_eq_true_iff.mp hss).1
    cases e1
    omega
  have hsort : ∀ z ∈ ss, sortD z = true := fun z m => List.all_eq_true.mp (Bool.and_eq_true_iff.mp hss).2 z m
  have hnm : Bd 85 0 0 (.str x) := name_bd hs hr1
  have hro : relOf (.tuple es) (.str x) = .tuple [.str x, k, .tuple ss] := relOf_self hs hr1
  refine ye_zv (a := a) (c := c) (K := K) (H0 := H2) (σ := [some (.ref a), some u, some (.ref D), none, some (.str x), some w2, some w3, none, none, none, none, none, none, none, none]) (i := 0) (j := 6) (F := SortsR) (R2 := RowR) rfl rfl b3 ⟨ss, rfl, s1, s5, hsort⟩ H2 _ hh2 .refl fun vr row H3 r7 hh3 k3 hd7 => ?_
  have k13 : Keep a H1 H3 := k2.trans k3
  have eD3 := k13 _ _ nDa eD
  have y0 : ∀ (H4 : Hp), Keep a H3 H4 → YE a c K H4 [some (.ref a), some u, some (.ref D), none, some (.str x), some w2, some w3, none, none, none, none, none, none, none, none] (tOp (rIxL K) (tVar 2) (tC (.int 0))) (RuleR (.tuple es)) := fun H4 k4 H5 Q5 hh5 k5 q5 => by
    have h0 : rs[0]? = some rs[0] := List.getElem?_eq_getElem (by rw [el]; decide)
    obtain ⟨v, e1, e2⟩ := dall_at hdr h0
    have k15 := k13.trans (k4.trans k5)
    exact ⟨_, rfl, D, ws, 0, v, rfl, rfl, SqL.of (k15 _ _ nDa eD), atI_nat (j := 0) e1, q5 v _ H5 (hru _ (List.getElem_mem _)) hh5 .refl (df_dv hh5.live (Dd.same (kpf_keep hh1.live k15) e2))⟩
  refine ye_some (a := a) (c := c) (K := K) (H0 := H3) (σ := [some (.ref a), some u, some (.ref D), none, some (.str x), some w2, some w3, none, none, none, none, none, none, none, none]) (n := 2) (R := DeedR (.tuple es)) rfl (ya_cons (ye_zv rfl rfl (he.ky (k1.trans k13)) hs) (ya_cons (ye_tup (yh_cons (R := fun d => d = .str "rule") (ye_str rfl) (yh_cons (R := fun d => d = .str "one") (ye_str rfl) (yh_cons (R := RuleR (.tuple es)) (y0 H3 .refl) yh_nil))) (fun ds z => ?_) fun ds z => ?_) ya_nil)) (by decide) (by decide) H3 _ hh3 .refl fun vd dd H4 rd hh4 k4 hd8 => ?_
  · obtain ⟨_, _, rfl, _, _, _, rfl, _, _, _, rfl, _, rfl⟩ := z
    exact (by decide : 3 ≤ 4000)
  · obtain ⟨_, _, rfl, rfl, _, _, rfl, rfl, r, _, rfl, hr', rfl⟩ := z
    refine ⟨⟨_, rfl, (by decide : 2 ≤ 3)⟩, rfl, ?_, noL3 rfl rfl hr'.no, fun _ => ⟨(by decide : 3 ≤ 3), hr'⟩⟩
    exact (bd_tup3 ((bd_str (x := "rule") (n := 4) (b := 0) (by decide +kernel) (by decide +kernel)).mono (k' := 5) (Nat.le_refl _) (by decide) (Nat.le_refl _)) ((bd_str (x := "one") (n := 3) (b := 0) (by decide +kernel) (by decide +kernel)).mono (k' := 5) (Nat.le_refl _) (by decide) (Nat.le_refl _)) hr'.bd).mono (by decide) (by decide) (Nat.le_refl _)
  refine ⟨_, _, rfl, ?_⟩
  refine ye_zv (a := a) (c := c) (K := K) (H0 := H4) (σ := [some (.ref a), some u, some (.ref D), none, some (.str x), some w2, some w3, some vr, some vd, none, none, none, none, none, none]) (i := 0) (j := 8) (F := fun _ => True) (R2 := EditR) rfl rfl hd8 trivial H4 _ hh4 .refl fun ve ed H5 re hh5 k5 hd9 => ?_
  have k35 : Keep a H3 H5 := k4.trans k5
  have k15 : Keep a H1 H5 := k13.trans k35
  have k05 : Keep a H H5 := k1.trans k15
  let σf : V → Option V → Option V → Option V → Option V → Option V → Option V → L2.St := fun p x3 x10 x11 x12 x13 x14 => [some (.ref a), some u, some p, x3, some (.str x), some w2, some w3, some vr, some vd, some ve, x10, x11, x12, x13, x14]
  refine ⟨fun σ' Hm => ∃ p : Addr, σ' = σf (.ref p) none none none none none none ∧ HandC Hm a c ∧ Keep a H5 Hm ∧ p ≠ a ∧ ∃ ws rs, Hm p = some (.lst ws) ∧ DvAll a K Hm ws rs ∧ rs.length ≤ 3 ∧ ∀ r ∈ rs, RuleR (.tuple es) r, ?_, fun σ' Hm hM => ?_⟩
  · have hdr5 : DfAll K H5 ws rs := dfall_kp hdr (kpf_keep hh1.live k15)
    have eD5 := k15 _ _ nDa eD
    have hd8' := hd8.ky k5
    obtain ⟨ds, rfl, l2⟩ := rd.tup
    have hcat : ∀ (H6 : Hp) (q1 : Addr) (ws' : List V) (rs' : List PyData), HandC H6 a c → Same H5 H6 → H6 q1 = some (.lst ws') → DfAll K H6 ws' rs' → rs'.length ≤ 1 → (∀ r ∈ rs', RuleR (.tuple es) r) → rCat (.ref D) (.ref q1) H6 fun v H7 => ∃ p : Addr, v = .ref p ∧ HandC H7 a c ∧ Keep a H5 H7 ∧ p ≠ a ∧ ∃ ws rs, H7 p = some (.lst ws) ∧ DvAll a K H7 ws rs ∧ rs.length ≤ 3 ∧ ∀ r ∈ rs, RuleR (.tuple es) r := fun H6 q1 ws' rs' hh6 s6 eq hq lq hrq => by
      have el2 : rs.length = 2 := el
      refine ⟨D, q1, ws, ws', rfl, rfl, s6 _ _ eD5, eq, by rw [dall_len hdr5, dall_len hq, size6]; omega, fun p hp => ⟨p, rfl, hh6.same (same_up hp), keep_same (s6.trans (same_up hp)), hh6.live.ne hp, _, rs ++ rs', upd_same, dfall_dv (hh6.same (same_up hp)).live (dfall_kp (dall_app (dfall_kp hdr5 (kpf_same s6)) hq) (kpf_same (same_up hp))), by rw [List.length_append]; omega, fun r m => ?_⟩⟩
      rcases List.mem_append.mp m with m | m
      · exact hru r m
      · exact hrq r m
    have cat3 : ∀ {H6 : Hp} {q1 : Addr} {Q6 : VK}, (rCat (.ref D) (.ref q1) H6 fun v H7 => ∃ p : Addr, v = .ref p ∧ HandC H7 a c ∧ Keep a H5 H7 ∧ p ≠ a ∧ ∃ ws rs, H7 p = some (.lst ws) ∧ DvAll a K H7 ws rs ∧ rs.length ≤ 3 ∧ ∀ r ∈ rs, RuleR (.tuple es) r) → (∀ (p : Addr) (H7 : Hp), HandC H7 a c → Keep a H5 H7 → p ≠ a → (∃ ws rs, H7 p = some (.lst ws) ∧ DvAll a K H7 ws rs ∧ rs.length ≤ 3 ∧ ∀ r ∈ rs, RuleR (.tuple es) r) → Q6 (.ref p) H7) → rCat (.ref D) (.ref q1) H6 Q6 := fun {H6 q1 Q6} h hq => by
      obtain ⟨a1, b1, xs, ys, e1, e2, h1, h2, hl, hx⟩ := h
      refine ⟨a1, b1, xs, ys, e1, e2, h1, h2, hl, fun p hp => ?_⟩
      obtain ⟨p', e3, h3, h4, h5, h6⟩ := hx p hp
      cases e3
      exact hq p _ h3 h4 h5 h6
    refine ⟨_, rfl, (yt_t (yb_eqS (yv_at (m := 0) (yv_var rfl hd8'.dd) yn_c (by omega)) ys_c)) H5 _ (Same.refl H5) fun H6 s6 => tst (fun e1 => ?_) fun e1 => ?_⟩
    · obtain ⟨l3, hr8⟩ := rd.rule e1
      have l3' : 3 ≤ ds.length := l3
      refine (yv_at (m := 2) (yv_var rfl (hd8'.dd.same s6)) yn_c (by omega)) H6 _ (Same.refl H6) fun v8 H7 s7 hv8 => ⟨by rw [size6]; exact (by decide : 1 ≤ 16777216), fun q1 hq1 => ?_⟩
      have s67 := (s6.trans s7).trans (same_up (o := .lst [v8]) hq1)
      exact cat3 (hcat _ q1 [v8] [at_ (.tuple ds) 2] (hh5.same s67) s67 upd_same (dfall_kp (.cons (toF hv8 hr8.no) .nil) (kpf_same (same_up hq1))) (Nat.le_refl _) fun r m => by rw [List.mem_singleton.mp m]; exact hr8) fun p H8 h1 h2 h3 h4 => ⟨p, rfl, h1, h2, h3, h4⟩
    · refine ⟨by rw [size6]; exact (by decide : 0 ≤ 16777216), fun q1 hq1 => ?_⟩
      have s67 := s6.trans (same_up (o := .lst []) hq1)
      exact cat3 (hcat _ q1 [] [] (hh5.same s67) s67 upd_same .nil (Nat.zero_le _) fun r m => by cases m) fun p H8 h1 h2 h3 h4 => ⟨p, rfl, h1, h2, h3, h4⟩
  obtain ⟨p, rfl, hhm, k5m, npa, wsr, rsr, ep, hwr, lr3, hrr⟩ := hM
  -- all data at Hm
  have k0m : Keep a H Hm := k05.trans k5m
  have kem := he.ky k0m
  have k3m : Keep a H3 Hm := k35.trans k5m
  have hdrow : Dv a K Hm vr row := hd7.ky k3m
  have hddeed : Dv a K Hm vd dd := hd8.ky (k5.trans k5m)
  have hdedit : Dv a K Hm ve ed := hd9.ky k5m
  have hdss : Dv a K Hm w3 (.tuple ss) := Dv.ky (a := a) b3 (k3.trans k3m)
  have oke : okD (.tuple es) = true := hs.bd.okD (by decide)
  have hrok : rules_ok rsr := ⟨by omega, fun r m => ⟨(hrr r m).bd.okR (by decide) (by decide), by
    obtain ⟨x', ts, cs, e, _⟩ := (hrr r m).p
    rw [e]
    rfl⟩⟩
  have lists : ∀ H', Keep a Hm H' → SqL K H' p wsr ∧ DdAll K H' wsr rsr := fun H' kk => ⟨SqL.of (kk _ _ npa ep), DdAll.same vis_same (hwr.ky kk)⟩
  let Mid : L2.St → Hp → Prop := fun σ' H' => ∃ x3 x10 x11 x12 x13 x14, σ' = σf (.ref p) x3 x10 x11 x12 x13 x14 ∧ HandC H' a c ∧ Keep a Hm H'
  have hrs2 : ∀ {d : PyData} {r : PyData}, r ∈ rsr → RuleP (.tuple es) r := fun m => (hrr _ m).p
  have hra : ∀ r ∈ rsr, aOk r = true := fun r m => (hrr r m).bd.ok
  have hrp : ∀ r ∈ rsr, RuleP (.tuple es) r := fun r m => (hrr r m).p
  have brow : Bd 1100 1 0 row := r7.2
  have bdeed : Bd 3500 6 0 dd := rd.bd
  obtain ⟨e1, e2, e3, e4, eed, be⟩ := re
  have bedit : Bd 4700 7 0 ed := by
    rw [eed]
    obtain ⟨h1, h2, h3⟩ := be.parts
    obtain ⟨g1, g2, g3⟩ : aOk dd = true ∧ dd.depth ≤ 6 ∧ iLe (10 ^ 30 + 0) dd = true := ⟨bdeed.ok, bdeed.dp, bdeed.ib⟩
    refine bd_tupL (fun d m => ?_) ?_
    · have hm : d ∈ ([e1, e2, e3, e4] ++ [dd]) := m
      rcases List.mem_append.mp hm with m | m
      · exact ⟨(h3 d m).1, Nat.le_trans (h3 d m).2.1 (by decide), (h3 d m).2.2⟩
      · rw [List.mem_singleton.mp m]
        exact ⟨g1, g2, g3⟩
    · have h5 : szL ([e1, e2, e3, e4] ++ [dd]) = szL [e1, e2, e3, e4] + szL [dd] := szL_app
      show szL ([e1, e2, e3, e4] ++ [dd]) + 5 ≤ 4700
      have h6 := bdeed.sz
      have h7 : szL [dd] = szD dd + 5 + 0 := rfl
      omega
  refine ⟨Mid, ?_, fun σ' H6 hM => ?_⟩
  · have y1 : YH a c K Hm (σf (.ref p) none none none none none none) _ (All 3 okR) := ya_cons (ye_var (i := 7) rfl hdrow (brow.okR (by decide) (by decide))) (ya_cons (YE.imp (ye_bent (k := 1) (i := 0) rfl (ye_var (i := 7) rfl hdrow brow)) fun d h => okR_row h) (ya_cons (YE.imp (ye_bent (k := 32) (i := 0) rfl (ye_bent (k := 1) (i := 0) rfl (ye_var (i := 7) rfl hdrow brow))) fun d h => okR_row h) ya_nil))
    refine ts_forT (y1 Hm _ hhm .refl fun vs ds H7 zs hh7 k7 hds => ⟨by rw [dall_len hds, zs.1, size6]; decide, fun T hT => ⟨T, rfl, ⟨_, .inl (.inl upd_same)⟩, ?_⟩⟩)
    have sT := same_up (o := .tup vs) hT
    have eT : (upd H7 T (.tup vs)) T = some (.tup vs) := upd_same
    have hh8 := hh7.same sT
    have k8 := k7.trans (keep_same sT)
    have hds8 := hds.ky (keep_same sT)
    generalize upd H7 T (.tup vs) = H8 at *
    refine for_tup (xs := vs) (fun i σ' H' => (∃ x10, σ' = σf (.ref p) none x10 none none none none) ∧ Same H8 H') ⟨⟨none, rfl⟩, Same.refl H8⟩ (fun i σ' H' _ z => .inl (.inl (z.2 _ _ eT))) (fun i v σ' H' hx z => ?_) (fun σ' H' z => ?_)
    · obtain ⟨⟨x10, rfl⟩, s8⟩ := z
      obtain ⟨d, hd1, hdd⟩ := dall_at' hds8 hx
      have okd := zs.2 d (List.mem_of_getElem? hd1)
      have km' := k8.trans (keep_same s8)
      have hdv := (Dv.ky (a := a) hdd (keep_same s8)).dd
      refine ⟨_, rfl, _, rfl, _, rfl, u, .str x, v, .tuple es, .str x, d, .str x, k, ss, rfl, (kem.ky km').dd, .str x, hdv, hs.sch, okd.1, hro, by omega, fun H9 s9 => ⟨_, rfl, _, rfl, _, rfl, w3, v, .tuple ss, d, rfl, (hdss.ky (km'.trans (keep_same s9))).dd, hdv.same s9, okd.1, ⟨ss, rfl, by omega, hsort⟩, fun H10 s10 => ⟨_, rfl, rfl, _, rfl, tst (fun e => ?_) fun _ => ?_⟩⟩⟩
      · simp at e
      · exact ⟨⟨_, rfl⟩, s8.trans (s9.trans s10)⟩
    · obtain ⟨⟨x10, rfl⟩, s8⟩ := z
      exact ⟨_, _, _, _, _, _, rfl, hh8.same s8, k8.trans (keep_same s8)⟩
  obtain ⟨x3, x10, x11, x12, x13, x14, rfl, hh6, k6⟩ := hM
  -- other, due
  have hodd : ∀ {d : PyData}, Odd d → okR d := fun h => h.okR (by decide) (by decide)
  have okx : okR (.str x) := hnm.okR (by decide) (by decide)
  have okw : ∀ {y : Str}, y.cps.toList.all sgnOk = true → y.length ≤ 4 → okR (.str y) := fun h1 h2 => (bd_str (b := 0) h1 h2).okR (by decide) (by decide)
  have hx6 := six_name x (hs.six _ hr1)
  have ox : Bd 85 0 0 (.str x) := bd_str hx6.2.2.1 hx6.2.2.2
  refine ye_some (a := a) (c := c) (K := K) (H0 := H6) (σ := σf (.ref p) x3 x10 x11 x12 x13 x14) (n := 10) (R := okR) rfl
    (ya_cons (ye_s (ysx_add (ysx_var (i := 4) rfl) ysx_c (by have := hx6.2.2.2; rw [show ("q" : Str).length = 1 by decide]; omega)) ((bd_str (b := 0) (n := 9) (app_sgn hx6.2.2.1 (by decide +kernel)) (by have := hx6.2.2.2; rw [app_len, show ("q" : Str).length = 1 by decide]; omega)).okR (by decide) (by decide)))
    (ya_cons (ye_str (okw (by decide +kernel) (by decide +kernel))) (ya_cons (ye_str (okw (by decide +kernel) (by decide +kernel))) (ya_cons (ye_non (bd_non (b := 0) |>.okR (by decide) (by decide))) (ya_cons (ye_int yi_c ((bd_int (b := 0) (by decide) (by decide)).okR (by decide) (by decide)))
    (ya_cons (ye_tup (yh_one (ye_var (i := 4) (v := .str x) rfl (.str x) ox)) (fun _ z => z.len) fun ds z => ?_) (ya_cons (ye_lst (yh_one (ye_var (i := 4) (v := .str x) rfl (.str x) ox)) (fun _ z => z.len) fun ds z => ?_)
    (ya_cons (ye_bl (bd_bool (b := 0) |>.okR (by decide) (by decide))) (ya_cons (YE.imp (ye_call (i := 0) rfl) fun d h => hodd h) (ya_cons (ye_var (i := 4) (v := .str x) rfl (.str x) okx) ya_nil)))))))))) (by decide) (by decide) H6 _ hh6 .refl fun vo od H7 ro hh7 k7 hdo => ?_
  · obtain ⟨d', rfl, h'⟩ := z
    exact (bd_one h').okR (by decide) (by decide)
  · obtain ⟨d', rfl, h'⟩ := z
    exact (bd_oneL h').okR (by decide) (by decide)
  have k67 := k6.trans k7
  have hes7 := kem.ky k67
  have yt : YT _ (σf (.ref p) x3 x10 (some vo) x12 x13 x14) H7 (notNm (.tuple es) od) := yt_or (yt_not (yt_b (yb_isi (yv_var (m := 11) rfl hdo.dd) (kS od)))) fun e => by
    obtain ⟨z, rfl⟩ := isS_of (ofnot e)
    exact yt_t (yb_notInQ (ys_v (yv_var (m := 11) rfl hdo.dd)) (yq_lcT (ds := es) (f := fun r => V.str (strOf (at_ r 0))) (m := 13) (yv_var (m := 1) rfl hes7.dd) (by omega) (fun _ => rfl) fun v d H' Q' m s' hd q' => by
      obtain ⟨x', k', ss', e', _⟩ := relD_of (hrel d m)
      subst e'
      exact (ys_v (yv_ix (m := 0) (yv_var (m := 13) rfl hd) yn_c rfl)) H' Q' (Same.refl H') q') (List.all_eq_true.mpr fun y hy => by
      obtain ⟨r, _, rfl⟩ := List.mem_map.mp hy
      rfl))
  refine ⟨fun σ' H' => σ' = σf (.ref p) x3 x10 (some vo) (some (if notNm (.tuple es) od = true then .str "name" else .non)) x13 x14 ∧ Same H7 H', ?_, fun σ' H8 hM => ?_⟩
  · refine yt H7 _ (Same.refl H7) fun H8 s8 => tst (fun eB => ?_) fun eB => ?_
    · exact ⟨by rw [if_pos eB]; rfl, s8⟩
    · exact ⟨by rw [if_neg (by rw [eB]; exact Bool.false_ne_true)]; rfl, s8⟩
  obtain ⟨rfl, s8⟩ := hM
  have k68 := k67.trans (keep_same s8)
  have hh8 := hh7.same s8
  refine ⟨Mid, ?_, fun σ' H9 hM => ?_⟩
  · cases eB : notNm (.tuple es) od with
    | false =>
      rw [if_neg Bool.false_ne_true]
      exact ⟨_, rfl, rfl, _, rfl, iteF (iteF ⟨_, _, _, _, _, _, rfl, hh8, k68⟩)⟩
    | true =>
      rw [if_pos rfl]
      refine ⟨_, rfl, rfl, _, rfl, iteT ⟨_, rfl, _, rfl, _, rfl, u, vo, vr, .tuple es, od, rfl, (kem.ky k68).dd, (hdo.ky (keep_same s8)).dd, hs.sch, notNm_none eB, fun H10 s10 => ⟨_, rfl, rfl, _, rfl, ?_⟩⟩⟩
      exact iteF ⟨_, _, _, _, _, _, rfl, hh8.same s10, k68.trans (keep_same s10)⟩
  obtain ⟨y3, y10, y11, y12, y13, y14, rfl, hh9, k9⟩ := hM
  refine ⟨Mid, ?_, fun σ' H10 hM => ?_⟩
  · have y2 : YH a c K H9 (σf (.ref p) y3 y10 y11 y12 y13 y14) _ (All 4 okR) := ya_cons (ye_var (i := 8) rfl (hddeed.ky k9) (bdeed.okR (by decide) (by decide))) (ya_cons (YE.imp (ye_bent (k := 6) (i := 0) rfl (ye_var (i := 8) rfl (hddeed.ky k9) bdeed)) fun d h => okR_row h) (ya_cons (YE.imp (ye_bent (k := 6) (i := 0) rfl (ye_var (i := 8) rfl (hddeed.ky k9) bdeed)) fun d h => okR_row h) (ya_cons (YE.imp (ye_bent (k := 37) (i := 0) rfl (ye_bent (k := 6) (i := 0) rfl (ye_var (i := 8) rfl (hddeed.ky k9) bdeed))) fun d h => okR_row h) ya_nil)))
    refine ts_forT (y2 H9 _ hh9 .refl fun vs ds G0 zs hg0 kg0 hds => ⟨by rw [dall_len hds, zs.1, size6]; decide, fun T hT => ⟨T, rfl, ⟨_, .inl (.inl upd_same)⟩, ?_⟩⟩)
    have sT := same_up (o := .tup vs) hT
    have eT : (upd G0 T (.tup vs)) T = some (.tup vs) := upd_same
    have hg1 := hg0.same sT
    have kg1 := k9.trans (kg0.trans (keep_same sT))
    have hds1 := hds.ky (keep_same sT)
    generalize upd G0 T (.tup vs) = G1 at *
    refine for_tup (xs := vs) (fun i σ' H' => (∃ x10 x12, σ' = σf (.ref p) y3 x10 y11 x12 y13 y14) ∧ Same G1 H') ⟨⟨_, _, rfl⟩, Same.refl G1⟩ (fun i σ' H' _ z => .inl (.inl (z.2 _ _ eT))) (fun i v σ' H' hx z => ?_) (fun σ' H' z => ?_)
    · obtain ⟨⟨x10', x12', rfl⟩, sg⟩ := z
      obtain ⟨d, hd1, hdd⟩ := dall_at' hds1 hx
      have okd := zs.2 d (List.mem_of_getElem? hd1)
      have km' := kg1.trans (keep_same sg)
      have hdv := (Dv.ky (a := a) hdd (keep_same sg)).dd
      refine ⟨_, rfl, _, rfl, _, rfl, u, .tuple es, p, wsr, rsr, v, d, rfl, (kem.ky km').dd, hs.sch, oke, (lists _ km').1, (lists _ km').2, hrok, hdv, okd, fun J1 j1 => ?_⟩
      have kj1 := km'.trans (keep_same j1)
      refine ⟨_, rfl, _, rfl, p, wsr, rsr, v, d, rfl, (lists _ kj1).1, (lists _ kj1).2, hrok, hdv.same j1, okd, fun J2 j2 => ⟨_, rfl, tst (fun eb => ?_) fun eb => ?_⟩⟩
      · have eb' : bentD rsr d = false := by simpa using eb
        have kj2 := kj1.trans (keep_same j2)
        refine ⟨_, rfl, _, rfl, u, v, .tuple es, d, rfl, (kem.ky kj2).dd, hdv.same (j1.trans j2), okd.1, deedF_of hs.sch hrp hra (okD_a okd.1) eb', fun J3 j3 => ⟨_, rfl, _, rfl, _, rfl, rfl, _, rfl, tst (fun e => ?_) fun _ => ?_⟩⟩
        · rw [due_eq hs.sch hrok (okD_a okd.1) eb'] at e
          simp at e
        · exact ⟨⟨_, _, rfl⟩, sg.trans (j1.trans (j2.trans j3))⟩
      · exact iteF ⟨⟨_, _, rfl⟩, sg.trans (j1.trans j2)⟩
    · obtain ⟨⟨x10', x12', rfl⟩, sg⟩ := z
      exact ⟨_, _, _, _, _, _, rfl, hg1.same sg, kg1.trans (keep_same sg)⟩
  obtain ⟨z3, z10, z11, z12, z13, z14, rfl, hh10, k10⟩ := hM
  have hded : Dv a K H10 ve (.tuple [e1, e2, e3, e4, dd]) := by
    rw [← eed]
    exact hdedit.ky k10
  have bedit' : Bd 4700 7 0 (.tuple [e1, e2, e3, e4, dd]) := by
    rw [← eed]
    exact bedit
  have bcat : ∀ {d' : PyData}, Bd (3 * 3500 + 2000) (6 + 31) (0 + 1) d' → okR (.tuple ([e1, e2, e3, e4] ++ [d'])) := fun {d'} hb => by
    obtain ⟨h1, h2, h3⟩ := be.parts
    have hB : Bd 14000 38 1 (.tuple ([e1, e2, e3, e4] ++ [d'])) := by
      refine bd_tupL (fun d m => ?_) ?_
      · rcases List.mem_append.mp m with m | m
        · exact ⟨(h3 d m).1, Nat.le_trans (h3 d m).2.1 (by decide), iLe_mono (by omega) d (h3 d m).2.2⟩
        · rw [List.mem_singleton.mp m]
          exact ⟨hb.ok, hb.dp, hb.ib⟩
      · have h5 : szL ([e1, e2, e3, e4] ++ [d']) = szL [e1, e2, e3, e4] + szL [d'] := szL_app
        have h6 := hb.sz
        have h7 : szL [d'] = szD d' + 5 + 0 := rfl
        omega
    exact hB.okR (by decide) (by decide)
  have y3' : YH a c K H10 (σf (.ref p) z3 z10 z11 z12 z13 z14) _ (All 4 okR) := ya_cons (ye_var (i := 9) rfl hded (bedit'.okR (by decide) (by decide))) (ya_cons (YE.imp (ye_bent (k := 7) (i := 0) rfl (ye_var (i := 9) rfl hded bedit')) fun d h => okR_row h) (ya_cons (YE.imp (ye_bent (k := 7) (i := 0) rfl (ye_var (i := 9) rfl hded bedit')) fun d h => okR_row h) (ya_cons (YE.imp (ye_catF (R1 := fun x => x = [e1, e2, e3, e4]) (R2 := fun x => ∃ d', x = [d'] ∧ Bd (3 * 3500 + 2000) (6 + 31) (0 + 1) d') (YE.imp (ye_take (i := 9) (n := 4) rfl hded yi_c (show 4 ≤ 5 by decide)) fun d h => h) (ye_tup (R := TupR fun x => ∃ d', x = [d'] ∧ Bd (3 * 3500 + 2000) (6 + 31) (0 + 1) d') (yh_one (ye_bent (k := 6) (i := 0) rfl (ye_var (i := 8) rfl (hddeed.ky k10) bdeed))) (fun _ z => z.len) fun ds z => ?_) fun x y hx hy => ?_) fun d h => ?_) ya_nil)))
  · refine ts_forT (y3' H10 _ hh10 .refl fun vs ds G0 zs hg0 kg0 hds => ⟨by rw [dall_len hds, zs.1, size6]; decide, fun T hT => ⟨T, rfl, ⟨_, .inl (.inl upd_same)⟩, ?_⟩⟩)
    have sT := same_up (o := .tup vs) hT
    have eT : (upd G0 T (.tup vs)) T = some (.tup vs) := upd_same
    have hg1 := hg0.same sT
    have kg1 := k10.trans (kg0.trans (keep_same sT))
    have hds1 := hds.ky (keep_same sT)
    generalize upd G0 T (.tup vs) = G1 at *
    refine for_tup (xs := vs) (fun i σ' H' => (∃ x10 x12 x14, σ' = σf (.ref p) z3 x10 z11 x12 z13 x14) ∧ Same G1 H') ⟨⟨_, _, _, rfl⟩, Same.refl G1⟩ (fun i σ' H' _ z => .inl (.inl (z.2 _ _ eT))) (fun i v σ' H' hx z => ?_) (fun σ' H' z => ?_)
    · obtain ⟨⟨x10', x12', x14', rfl⟩, sg⟩ := z
      obtain ⟨d, hd1, hdd⟩ := dall_at' hds1 hx
      have okd := zs.2 d (List.mem_of_getElem? hd1)
      have km' := kg1.trans (keep_same sg)
      have hdv := (Dv.ky (a := a) hdd (keep_same sg)).dd
      have yin : YV K _ (σf (.ref p) z3 (some v) z11 x12' z13 x14') H' (innerD d) := yv_if (yt_and (yt_b (yb_isi (yv_var (m := 10) rfl hdv) (kT d))) fun e => by
          obtain ⟨ds', rfl⟩ := isT_of e
          exact yt_t (yb_eqI (yn_lenT (yv_var (m := 10) rfl hdv)) yn_c)) (fun e => by
          obtain ⟨e5, e6⟩ := Bool.and_eq_true_iff.mp e
          obtain ⟨ds', rfl⟩ := isT_of e5
          have e7 : (ds'.length : Int) = 5 := of_decide_eq_true e6
          exact yv_at (m := 4) (yv_var (m := 10) rfl hdv) yn_c (by omega)) fun _ => yv_c fun _ => .non
      have oki : okR (innerD d) := by
        unfold innerD
        by_cases e : (isT d && decide ((lenD d : Int) = 5)) = true
        · rw [if_pos e]
          obtain ⟨e5, e6⟩ := Bool.and_eq_true_iff.mp e
          obtain ⟨ds', rfl⟩ := isT_of e5
          have e7 : (ds'.length : Int) = 5 := of_decide_eq_true e6
          exact okR_at okd (by omega)
        · rw [if_neg e]
          exact (bd_non (b := 0)).okR (by decide) (by decide)
      refine yin H' _ (Same.refl H') fun vi J0 j0 hvi => ?_
      have kj0 := km'.trans (keep_same j0)
      refine ⟨_, rfl, _, rfl, _, rfl, u, .tuple es, p, wsr, rsr, v, d, rfl, (kem.ky kj0).dd, hs.sch, oke, (lists _ kj0).1, (lists _ kj0).2, hrok, hdv.same j0, okd, fun J1 j1 => ?_⟩
      have kj1 := kj0.trans (keep_same j1)
      refine ⟨_, rfl, _, rfl, p, wsr, rsr, vi, innerD d, rfl, (lists _ kj1).1, (lists _ kj1).2, hrok, hvi.same j1, oki, fun J2 j2 => ⟨_, rfl, tst (fun eb => ?_) fun eb => ?_⟩⟩
      · have eb' : bentD rsr (innerD d) = false := by simpa using eb
        have kj2 := kj1.trans (keep_same j2)
        refine ⟨_, rfl, _, rfl, u, v, .tuple es, d, rfl, (kem.ky kj2).dd, hdv.same (j0.trans (j1.trans j2)), okd.1, editF_of hs.sch hrp hra (okD_a okd.1) eb', fun J3 j3 => ⟨_, rfl, _, rfl, _, rfl, rfl, _, rfl, tst (fun e => ?_) fun _ => ?_⟩⟩
        · rw [dueE_eq hs.sch hrok (okD_a okd.1) eb'] at e
          simp at e
        · exact ⟨⟨_, _, _, rfl⟩, sg.trans (j0.trans (j1.trans (j2.trans j3)))⟩
      · exact iteF ⟨⟨_, _, _, rfl⟩, sg.trans (j0.trans (j1.trans j2))⟩
    · obtain ⟨⟨x10', x12', x14', rfl⟩, sg⟩ := z
      exact q H' (hg1.same sg) (k0m.trans (kg1.trans (keep_same sg)))
  · obtain ⟨d', rfl, h'⟩ := z
    exact ⟨_, rfl, d', rfl, h'⟩
  · obtain ⟨d', rfl, h'⟩ := hy
    rw [hx]
    exact (by decide : 4 + 1 ≤ 1000000)
  · obtain ⟨z', rfl, x', y', rfl, ⟨d', rfl, h'⟩, rfl⟩ := h
    exact bcat h'
end
end Sm
namespace Sm
open PySem PySem.Spec PyProof.Rows L2 Tn Vd RZ Gd
theorem ts_nxg {te : TE} {m m' : Nat} {v : V} {u : TS} {D : Ends} {r : VK} {b c : L2.St → Hp → Prop} {σ : L2.St} {H : Hp} (h : te (σ.set m' (some v)) H fun x H1 => u D ((σ.set m' (some v)).set m (some x)) H1) : gName m' v σ H (Ends.nx { nx := tSeq (tAsg te (gName m)) u D, rt := r, bk := b, ct := c }) := h
section
variable {P : Program} {w : World} {K : PySem.W.Frag} {mg : Str → Option Value} {base : Heap}
abbrev sLaw : Stmt := top 87
def spLaw (K : PySem.W.Frag) : Sp := fun vs H Q _ => ∃ (a : Addr) (ns : List Int), vs = [.ref a] ∧ SqL K H a (ns.map V.int) ∧ ns.length ≤ 63 ∧ ∀ H', Q (.bl true) H'
theorem scLaw : FnScope ["script", "hand", "turn", "schema", "bent", "thing"] ["script"] (defScope sLaw) := ⟨rfl, rfl, rfl, by decide +kernel, rfl, by decide +kernel, by decide +kernel⟩
theorem ok_law {f : Addr} {fd : FuncData} (F : FnP K "law" sLaw f fd) (M : Nm mg) (DH : Df P w K mg base "_law_hand" 1 ["script"] (spHand K)) (DSc : Df P w K mg base "_law_schema" 3 ["hand", "most"] (spSchema K))
    (DB3 : Df P w K mg base "_law_bent" 11 ["hand", "thing"] (spBent K 3)) (DB34 : Df P w K mg base "_law_bent" 73 ["hand", "thing"] (spBent K 34)) (DIS : DA P w K mg base "is_schema" 5 schD) (DLS : DA P w K mg base "_law_is_due_schema" 3 schD)
    (GJ : Dg P w K mg base "_law_are_judged" 80 ["hand", "schema"] (spJudged K)) : FnG P w K mg base 81 f fd ["script"] (spLaw K) := by
  refine fnG F scLaw (fun vs H Q E h => ?_) (fun cdv A outer s H vs Q hgd hr h => ?_)
  · obtain ⟨a, ns, rfl, _⟩ := h
    rfl
  obtain ⟨sa, ns, rfl, hS, hl, q⟩ := h
  have hg : (A.deeper (envOfC "law" (defScope sLaw) s.heap.objs.size f cdv)).guards = some [] := hgd
  refine ⟨_, PSs.nox (pss_cons (ps_set (i := 1) scLaw.nd rfl (Or.inl rfl) (pe_df DH hr (by decide) (pa_cons (pv 0) pa_nil)))
      (pss_cons (ps_for PassesOwn.never rfl (pi_range1 (by rfl) M.range (pa_cons pe_int pa_nil)) (pg_name (i := 2) scLaw.nd rfl (Or.inl rfl)) (pss_cons (ps_set (i := 3) scLaw.nd rfl (Or.inl rfl) (pe_df DSc hr (by decide) (pa_cons (pv 1) (pa_cons pe_int pa_nil))))
      (pss_cons (ps_set (i := 4) scLaw.nd rfl (Or.inl rfl) (pe_lst (pa_cons (pe_df DB3 hr (by decide) (pa_cons (pv 1) (pa_cons (pv 3) pa_nil))) (pa_cons (pe_df DB3 hr (by decide) (pa_cons (pv 1) (pa_cons (pv 3) pa_nil))) (pa_cons (pe_df DB34 hr (by decide) (pa_cons (pv 1) (pa_cons (pe_df DB3 hr (by decide) (pa_cons (pv 1) (pa_cons (pv 3) pa_nil))) pa_nil))) pa_nil)))))
      (C8.pss_cut (ps_for PassesOwn.never rfl (pi_list (pe_op op_cat (pe_lst (pa_cons (pv 3) pa_nil)) (pv 4))) (pg_name (i := 5) scLaw.nd rfl (Or.inl rfl)) (pss_one (ps_if (pt_cmpR op_ne (pe_callB (id := "repr") (r := rReprB) call_reprB (by rfl) M.repr (by decide +kernel) (pa_cons (pe_df DIS hr (by decide) (pa_cons (pv 5) pa_nil)) pa_nil)) (pe_callB (id := "repr") (r := rReprB) call_reprB (by rfl) M.repr (by decide +kernel) (pa_cons (pe_df DLS hr (by decide) (pa_cons (pv 5) pa_nil)) pa_nil)) (nomark _)) (pss_one (ps_ret pe_bl)) pss_nil)))
      (pss_one (ps_if (PW.pt (pw_or (pt_not (pt_val (pe_dg GJ hg hr (by decide) (pa_cons (pv 1) (pa_cons (pv 3) pa_nil))))) (pw_or1 (pt_not (pt_val (pe_dg GJ hg hr (by decide) (pa_cons (pv 1) (pa_cons (pv 3) pa_nil)))))))) (pss_one (ps_ret pe_bl)) pss_nil))))))
      (pss_one (ps_ret pe_bl)))), ?_⟩
  refine ⟨_, rfl, sa, ns, rfl, hS, hl, fun H1 a sm na hP => ?_⟩
  obtain ⟨c, hh⟩ := hP
  refine ⟨_, rfl, by decide, by decide, ?_⟩
  refine for_range (lo := 0) (n := (3 : Int).toNat) (fun i σ H' => HandC H' a c ∧ ∃ x2 x3 x4 x5, σ = [some (.ref sa), some (.ref a), x2, x3, x4, x5]) ⟨hh, none, none, none, none, rfl⟩ (fun i σ H' hi z => ?_) (fun σ H' z => ?_)
  · obtain ⟨hh2, x2, x3, x4, x5, rfl⟩ := z
    refine ⟨_, rfl, a, c, 6, rfl, hh2, by decide, by decide, fun u e H3 hs hh3 k3 he => ?_⟩
    refine ts_nxg ?_
    refine ld_lst (a := a) (c := c) (K := K) (H0 := H3) (σ := [some (.ref sa), some (.ref a), some (.int (0 + (i : Int))), some u, x4, x5]) (n := 3) (R := okR) (ya_cons (YE.imp (ye_bent (k := 3) (i := 1) rfl (ye_var (i := 3) rfl he hs.bd)) fun d h => okR_row h) (ya_cons (YE.imp (ye_bent (k := 3) (i := 1) rfl (ye_var (i := 3) rfl he hs.bd)) fun d h => okR_row h) (ya_cons (YE.imp (ye_bent (k := 34) (i := 1) rfl (ye_bent (k := 3) (i := 1) rfl (ye_var (i := 3) rfl he hs.bd))) fun d h => okR_row h) ya_nil))) hh3 .refl (by decide) fun L H4 hh4 k4 hL => ?_
    obtain ⟨⟨ws, ds, eL, hds, lw, hok⟩, nLa⟩ := hL
    have he4 := he.ky k4
    refine ⟨fun σ' H' => HandC H' a c ∧ Keep a H4 H' ∧ ∃ y5, σ' = [some (.ref sa), some (.ref a), some (.int (0 + (i : Int))), some u, some (.ref L), y5], ?_, fun σ' H5 hM => ?_⟩
    · refine ⟨_, rfl, by rw [size6]; exact (by decide : 1 ≤ 16777216), fun q1 hq1 => ⟨_, rfl, q1, L, _, _, rfl, rfl, upd_same, same_up hq1 _ _ eL, ?_, fun q2 hq2 => ⟨q2, rfl, ⟨_, SqL.of upd_same⟩, ?_⟩⟩⟩
      · rw [lw, size6]
        exact (by decide : 1 + 3 ≤ 16777216)
      have s2 := (same_up (o := .lst [u]) hq1).trans (same_up (o := .lst ([u] ++ ws)) hq2)
      have eq2 : ∀ Hy : Hp, (upd Hy q2 (.lst ([u] ++ ws))) q2 = some (.lst ([u] ++ ws)) := fun Hy => upd_same
      have hh5 := hh4.same s2
      have hall := (DvAll.ky (a := a) (dall_app (.cons he4 .nil) hds) (keep_same s2))
      have hok' : ∀ d ∈ [e] ++ ds, okR d := fun d m => by
        rcases List.mem_append.mp m with m | m
        · rw [List.mem_singleton.mp m]
          exact hs.bd.okR (by decide) (by decide)
        · exact hok d m
      refine for_list (xs := [u] ++ ws) (fun j σ' H' => (∃ y5, σ' = [some (.ref sa), some (.ref a), some (.int (0 + (i : Int))), some u, some (.ref L), y5]) ∧ Same (upd (upd H4 q1 (.lst [u])) q2 (.lst ([u] ++ ws))) H') ⟨⟨_, rfl⟩, Same.refl _⟩ (fun j σ' H' _ z => SqL.of (z.2 _ _ (eq2 _))) (fun j v σ' H' hx z => ?_) (fun σ' H' z => ?_)
      · obtain ⟨⟨y5, rfl⟩, sg⟩ := z
        obtain ⟨d, hd1, hdd⟩ := dall_at' hall hx
        have okd := hok' d (List.mem_of_getElem? hd1)
        have hdv := (Dv.ky (a := a) hdd (keep_same sg)).dd
        refine ⟨_, rfl, v, d, rfl, hdv, okd.1, fun J1 j1 => ⟨_, rfl, _, rfl, v, d, rfl, hdv.same j1, okd.1, fun J2 j2 => ⟨_, rfl, rfl, _, rfl, tst (fun e => ?_) fun _ => ?_⟩⟩⟩
        · simp at e
        · exact ⟨⟨_, rfl⟩, sg.trans (j1.trans j2)⟩
      · obtain ⟨⟨y5, rfl⟩, sg⟩ := z
        exact ⟨hh5.same sg, keep_same (s2.trans sg), _, rfl⟩
    obtain ⟨hh5, k5, y5, rfl⟩ := hM
    refine ⟨_, rfl, _, rfl, a, c, u, e, rfl, hh5, he4.ky k5, hs, fun H6 hh6 k6 => ⟨_, rfl, ?_⟩⟩
    refine iteF ⟨_, rfl, _, rfl, a, c, u, e, rfl, hh6, (he4.ky k5).ky k6, hs, fun H7 hh7 k7 => ⟨_, rfl, ?_⟩⟩
    refine iteF ⟨hh7, _, _, _, _, rfl⟩
  · exact q H'
end
end Sm
namespace Sm
open PySem PySem.Spec PyProof.Rows L2 Tn Vd RZ Gd Xv
/-! ### the head: facts by names -/
abbrev sInit0 : Stmt := inClass (top 1) 0
abbrev sPlaceBlank : Stmt := top 45
theorem ok_init0 {P : Program} {w : World} {K : PySem.W.Frag} {mg : Str → Option Value} {base : Heap} {f : Addr} {fd : FuncData} (F : FunD K "__init__" "ViewError.__init__" (defArgs sInit0) (defBody sInit0) (defScope sInit0) [] [] f fd) : FnOk P w K mg base CX0 1 f fd ["self"] sp0 := by
  refine F.ok (N := ["self"]) ⟨rfl, rfl, rfl, by decide +kernel, rfl, by decide +kernel, by decide +kernel⟩ (fun vs H Q E h => ?_) (fun cdv A outer s H vs Q E hr h => ?_)
  · obtain ⟨a, rfl, _⟩ := h
    rfl
  · obtain ⟨a, rfl, q⟩ := h
    exact ⟨_, pss_one ps_pass, q⟩
def f0 (K : PySem.W.Frag) : Addr := He.ma K (He.ga K "ViewError") "__init__"
def no7 : List Str := ["NoDeed", "NoEdit", "NoLife", "NoMark", "NoSchema", "NotYet", "OtherSchema"]
def chk (K : PySem.W.Frag) : Bool :=
  (no7.all fun x => He.eqO (PySem.W.nsIn K mainGlobals x) (some (some (.ref (He.ga K x)))) && decide (PySem.W.kitOne K (.ref (He.ga K "NoName")) (.ref (He.ga K x)) = some false)) &&
  (xclB K (He.ga K "NoName") &&
  (decide (PySem.W.exmOne K (.ref (He.ga K "NoName")) (.ref (He.ga K "ViewError")) = some true) &&
  (decide (PySem.W.kitOne K (.ref (He.ga K "NoName")) (.ref (He.ga K "NoName")) = some true) &&
  (decide (PySem.W.kitOne K (.ref (He.ga K "NoName")) (.type "ValueError") = some true) &&
  (He.eqO (PySem.W.findIn K (.ref (He.ga K "NoName")) "__init__") (some (some (.ref (f0 K)))) && (decide (PySem.W.typeIn K (.ref (f0 K)) = some (.type "function")) &&
  (He.tupB K "COMPARISONS" [.str "less", .str "same", .str "unlike"] && (He.tupB K "COUNTS" [.str "many", .str "sum", .str "least", .str "greatest"] && He.tupB K "BLANK" [.str "any"]))))))))
structure Ck (K : PySem.W.Frag) (mg : Str → Option Value) : Prop where
  cf : Cf K mg (He.ga K "NoName")
  cm : CM K mg "NoName" (He.ga K "NoName") (f0 K)
  nk : NmK K mg
theorem chk_ok {K : PySem.W.Frag} {mg : Str → Option Value} {h : Heap} (X : K.In h) (G : h.Ns mainGlobals mg) (gv : mg "ViewError" = some (.ref (He.ga K "ViewError"))) (gm : mg "NoName" = some (.ref (He.ga K "NoName"))) (g1 : mg "COMPARISONS" = some (.ref (He.ga K "COMPARISONS"))) (g2 : mg "COUNTS" = some (.ref (He.ga K "COUNTS"))) (g3 : mg "BLANK" = some (.ref (He.ga K "BLANK"))) (c : chk K = true) : Ck K mg := by
  obtain ⟨c1, c⟩ := He.ba c
  obtain ⟨c2, c⟩ := He.ba c
  obtain ⟨c3, c⟩ := He.ba c
  obtain ⟨c4, c⟩ := He.ba c
  obtain ⟨c5, c⟩ := He.ba c
  obtain ⟨c6, c⟩ := He.ba c
  obtain ⟨c7, c⟩ := He.ba c
  obtain ⟨c8, c⟩ := He.ba c
  obtain ⟨c9, c10⟩ := He.ba c
  have x := xcl_ok c2
  have l1 := List.all_eq_true.mp c1
  exact {
    cf := {
      exc := ⟨x.ga, x.gt, x.oex.exC, x.hd, x.ca, x.gn, x.tk, x.mo⟩
      view := ⟨_, gv, of_decide_eq_true c3⟩
      no := fun y hy => ⟨_, PySem.W.mg_of X G (He.eqO_ok (He.ba (l1 y hy)).1), of_decide_eq_true (He.ba (l1 y hy)).2⟩
      name := gm
      own := of_decide_eq_true c4
      val := of_decide_eq_true c5 }
    cm := ⟨x.oex, He.eqO_ok c6, of_decide_eq_true c7, gm⟩
    nk := ⟨⟨_, g1, fun H => He.tupB_ok c8 H⟩, ⟨_, g2, fun H => He.tupB_ok c9 H⟩, ⟨_, g3, fun H => He.tupB_ok c10 H⟩⟩ }
def dHand : He.DefD := ⟨("_law_hand", none), "_law_hand", "_law_hand", defArgs sHand, defBody sHand, defScope sHand, [], []⟩
def dDraw : He.DefD := ⟨("_law_draw", none), "_law_draw", "_law_draw", defArgs sDraw, defBody sDraw, defScope sDraw, [], []⟩
def dSome : He.DefD := ⟨("_law_some", none), "_law_some", "_law_some", defArgs sSome, defBody sSome, defScope sSome, [], []⟩
def dMixed : He.DefD := ⟨("_law_mixed", none), "_law_mixed", "_law_mixed", defArgs sMixed, defBody sMixed, defScope sMixed, [], []⟩
def dSchemaD : He.DefD := ⟨("_law_schema", none), "_law_schema", "_law_schema", defArgs sSchemaD, defBody sSchemaD, defScope sSchemaD, [], []⟩
def dWorthD : He.DefD := ⟨("_law_worth", none), "_law_worth", "_law_worth", defArgs sWorthD, defBody sWorthD, defScope sWorthD, [], []⟩
def dRowD : He.DefD := ⟨("_law_row", none), "_law_row", "_law_row", defArgs sRowD, defBody sRowD, defScope sRowD, [], []⟩
def dRuleD : He.DefD := ⟨("_law_rule", none), "_law_rule", "_law_rule", defArgs sRuleD, defBody sRuleD, defScope sRuleD, [], []⟩
def dDeedD : He.DefD := ⟨("_law_deed", none), "_law_deed", "_law_deed", defArgs sDeedD, defBody sDeedD, defScope sDeedD, [], []⟩
def dDeep : He.DefD := ⟨("_law_deep", none), "_law_deep", "_law_deep", defArgs sDeep, defBody sDeep, defScope sDeep, [], []⟩
def dLInt : He.DefD := ⟨("_law_is_int", none), "_law_is_int", "_law_is_int", defArgs sLInt, defBody sLInt, defScope sLInt, [], []⟩
def dLName : He.DefD := ⟨("_law_is_name", none), "_law_is_name", "_law_is_name", defArgs sLName, defBody sLName, defScope sLName, [], []⟩
def dLWorth : He.DefD := ⟨("_law_is_worth", none), "_law_is_worth", "_law_is_worth", defArgs sLWorth, defBody sLWorth, defScope sLWorth, [], []⟩
def dLRelation : He.DefD := ⟨("_law_is_relation", none), "_law_is_relation", "_law_is_relation", defArgs sLRelation, defBody sLRelation, defScope sLRelation, [], []⟩
def dLSchema : He.DefD := ⟨("_law_is_due_schema", none), "_law_is_due_schema", "_law_is_due_schema", defArgs sLSchema, defBody sLSchema, defScope sLSchema, [], []⟩
def dLWorths : He.DefD := ⟨("_law_are_worths", none), "_law_are_worths", "_law_are_worths", defArgs sLWorths, defBody sLWorths, defScope sLWorths, [], []⟩
def dLDeed : He.DefD := ⟨("_law_is_due_deed", none), "_law_is_due_deed", "_law_is_due_deed", defArgs sLDeed, defBody sLDeed, defScope sLDeed, [], []⟩
def dLMark : He.DefD := ⟨("_law_is_due_mark", none), "_law_is_due_mark", "_law_is_due_mark", defArgs sLMark, defBody sLMark, defScope sLMark, [], []⟩
def dLEdit : He.DefD := ⟨("_law_is_due_edit", none), "_law_is_due_edit", "_law_is_due_edit", defArgs sLEdit, defBody sLEdit, defScope sLEdit, [], []⟩
def dOdd : He.DefD := ⟨("_law_odd", none), "_law_odd", "_law_odd", defArgs sOdd, defBody sOdd, defScope sOdd, [], []⟩
def dBent : He.DefD := ⟨("_law_bent", none), "_law_bent", "_law_bent", defArgs sBent, defBody sBent, defScope sBent, [], []⟩
def dNear : He.DefD := ⟨("_law_near", none), "_law_near", "_law_near", defArgs sNear, defBody sNear, defScope sNear, [], []⟩
def dRowWord : He.DefD := ⟨("_law_row_word", none), "_law_row_word", "_law_row_word", defArgs sRowWord, defBody sRowWord, defScope sRowWord, [], []⟩
def dEditD : He.DefD := ⟨("_law_edit", none), "_law_edit", "_law_edit", defArgs sEditD, defBody sEditD, defScope sEditD, [], []⟩
def dJudged : He.DefD := ⟨("_law_are_judged", none), "_law_are_judged", "_law_are_judged", defArgs sJudged, defBody sJudged, defScope sJudged, [], []⟩
def dRuleBent : He.DefD := ⟨("_law_is_rule_bent", none), "_law_is_rule_bent", "_law_is_rule_bent", defArgs sRuleBent, defBody sRuleBent, defScope sRuleBent, [], []⟩
def dLaw : He.DefD := ⟨("law", none), "law", "law", defArgs sLaw, defBody sLaw, defScope sLaw, [], []⟩
def dInteger : He.DefD := ⟨("is_integer", none), "is_integer", "is_integer", defArgs sInteger, defBody sInteger, defScope sInteger, [], []⟩
def dNumber : He.DefD := ⟨("is_number", none), "is_number", "is_number", defArgs sNumber, defBody sNumber, defScope sNumber, [], []⟩
def dSmall : He.DefD := ⟨("is_small_integer", none), "is_small_integer", "is_small_integer", defArgs sSmall, defBody sSmall, defScope sSmall, [], []⟩
def dWord : He.DefD := ⟨("is_word", none), "is_word", "is_word", defArgs sWord, defBody sWord, defScope sWord, [], []⟩
def dWorth : He.DefD := ⟨("is_worth", none), "is_worth", "is_worth", defArgs sWorth, defBody sWorth, defScope sWorth, [], []⟩
def dName : He.DefD := ⟨("is_name", none), "is_name", "is_name", defArgs sName, defBody sName, defScope sName, [], []⟩
def dTupleOf : He.DefD := ⟨("is_tuple_of", none), "is_tuple_of", "is_tuple_of", defArgs sTupleOf, defBody sTupleOf, defScope sTupleOf, [], []⟩
def dRising : He.DefD := ⟨("is_rising", none), "is_rising", "is_rising", defArgs sRising, defBody sRising, defScope sRising, [], []⟩
def dSchema : He.DefD := ⟨("is_schema", none), "is_schema", "is_schema", defArgs sSchema, defBody sSchema, defScope sSchema, [], []⟩
def dRelation : He.DefD := ⟨("is_relation", none), "is_relation", "is_relation", defArgs sRelation, defBody sRelation, defScope sRelation, [], []⟩
def dSorts : He.DefD := ⟨("are_sorts", none), "are_sorts", "are_sorts", defArgs sSorts, defBody sSorts, defScope sSorts, [], []⟩
def dKind : He.DefD := ⟨("is_kind", none), "is_kind", "is_kind", defArgs sKind, defBody sKind, defScope sKind, [], []⟩
def dRelOf : He.DefD := ⟨("relation_of", none), "relation_of", "relation_of", defArgs sRelOf, defBody sRelOf, defScope sRelOf, [], []⟩
def dOfSorts : He.DefD := ⟨("is_of_sorts", none), "is_of_sorts", "is_of_sorts", defArgs sOfSorts, defBody sOfSorts, defScope sOfSorts, [], []⟩
def dOfSort : He.DefD := ⟨("is_of_sort", none), "is_of_sort", "is_of_sort", defArgs sOfSort, defBody sOfSort, defScope sOfSort, [], []⟩
def dIsRow : He.DefD := ⟨("is_row", none), "is_row", "is_row", defArgs sIsRow, defBody sIsRow, defScope sIsRow, [], []⟩
def dRuleOf : He.DefD := ⟨("is_rule_of", none), "is_rule_of", "is_rule_of", defArgs sRuleOf, defBody sRuleOf, defScope sRuleOf, [], []⟩
def dHead : He.DefD := ⟨("is_head", none), "is_head", "is_head", defArgs sHead, defBody sHead, defScope sHead, [], []⟩
def dAskedName : He.DefD := ⟨("is_asked_name", none), "is_asked_name", "is_asked_name", defArgs sAskedName, defBody sAskedName, defScope sAskedName, [], []⟩
def dVarNum : He.DefD := ⟨("is_variable_number", none), "is_variable_number", "is_variable_number", defArgs sVarNum, defBody sVarNum, defScope sVarNum, [], []⟩
def dVar : He.DefD := ⟨("is_variable", none), "is_variable", "is_variable", defArgs sVar, defBody sVar, defScope sVar, [], []⟩
def dBlank : He.DefD := ⟨("is_blank", none), "is_blank", "is_blank", defArgs sBlank, defBody sBlank, defScope sBlank, [], []⟩
def dTerm : He.DefD := ⟨("is_term", none), "is_term", "is_term", defArgs sTerm, defBody sTerm, defScope sTerm, [], []⟩
def dCond : He.DefD := ⟨("is_condition", none), "is_condition", "is_condition", defArgs sCond, defBody sCond, defScope sCond, [], []⟩
def dCount : He.DefD := ⟨("is_count_condition", none), "is_count_condition", "is_count_condition", defArgs sCount, defBody sCount, defScope sCount, [], []⟩
def dPlaceBlank : He.DefD := ⟨("is_place_of_blank", none), "is_place_of_blank", "is_place_of_blank", defArgs sPlaceBlank, defBody sPlaceBlank, defScope sPlaceBlank, [], []⟩
def dAreAsked : He.DefD := ⟨("are_asked", none), "are_asked", "are_asked", defArgs sAreAsked, defBody sAreAsked, defScope sAreAsked, [], []⟩
def dDeed : He.DefD := ⟨("is_deed", none), "is_deed", "is_deed", defArgs sDeed, defBody sDeed, defScope sDeed, [], []⟩
def dRuleDeed : He.DefD := ⟨("is_rule_deed", none), "is_rule_deed", "is_rule_deed", defArgs sRuleDeed, defBody sRuleDeed, defScope sRuleDeed, [], []⟩
def dFactDeed : He.DefD := ⟨("is_fact_deed", none), "is_fact_deed", "is_fact_deed", defArgs sFactDeed, defBody sFactDeed, defScope sFactDeed, [], []⟩
def dWordsOf : He.DefD := ⟨("words_of", none), "words_of", "words_of", defArgs sWordsOf, defBody sWordsOf, defScope sWordsOf, [], []⟩
def dAmount : He.DefD := ⟨("is_amount", none), "is_amount", "is_amount", defArgs sAmount, defBody sAmount, defScope sAmount, [], []⟩
def dLife : He.DefD := ⟨("is_life", none), "is_life", "is_life", defArgs sLife, defBody sLife, defScope sLife, [], []⟩
def dFromOne : He.DefD := ⟨("is_from_one", none), "is_from_one", "is_from_one", defArgs sFromOne, defBody sFromOne, defScope sFromOne, [], []⟩
def dMark : He.DefD := ⟨("is_mark", none), "is_mark", "is_mark", defArgs sMark, defBody sMark, defScope sMark, [], []⟩
def dMarkPair : He.DefD := ⟨("is_mark_pair", none), "is_mark_pair", "is_mark_pair", defArgs sMarkPair, defBody sMarkPair, defScope sMarkPair, [], []⟩
def dEdit : He.DefD := ⟨("is_edit", none), "is_edit", "is_edit", defArgs sEdit, defBody sEdit, defScope sEdit, [], []⟩
def dNumberIn : He.DefD := ⟨("number_in", none), "number_in", "number_in", defArgs sNumberIn, defBody sNumberIn, defScope sNumberIn, [], []⟩
def dI0 : He.DefD := ⟨("ViewError", some "__init__"), "__init__", "ViewError.__init__", defArgs sInit0, defBody sInit0, defScope sInit0, [], []⟩
def fn : List He.DefD := [dHand, dDraw, dSome, dMixed, dSchemaD, dWorthD, dRowD, dRuleD, dDeedD, dDeep, dLInt, dLName, dLWorth, dLRelation, dLSchema, dLWorths, dLDeed, dLMark, dLEdit, dOdd, dBent, dNear, dRowWord, dEditD, dJudged, dRuleBent, dLaw, dInteger, dNumber, dSmall, dWord, dWorth, dName, dTupleOf, dRising, dSchema, dRelation, dSorts, dKind, dRelOf, dOfSorts, dOfSort, dIsRow, dRuleOf, dHead, dAskedName, dVarNum, dVar, dBlank, dTerm, dCond, dCount, dPlaceBlank, dAreAsked, dDeed, dRuleDeed, dFactDeed, dWordsOf, dAmount, dLife, dFromOne, dMark, dMarkPair, dEdit, dNumberIn, dI0]
def fa : List He.Fa := [.glo "_law_hand", .glo "_law_draw", .glo "_law_some", .glo "_law_mixed", .glo "_law_schema", .glo "_law_worth", .glo "_law_row", .glo "_law_rule", .glo "_law_deed", .glo "_law_deep", .glo "_law_is_int", .glo "_law_is_name", .glo "_law_is_worth", .glo "_law_is_relation", .glo "_law_is_due_schema", .glo "_law_are_worths", .glo "_law_is_due_deed", .glo "_law_is_due_mark", .glo "_law_is_due_edit", .glo "_law_odd", .glo "_law_bent", .glo "_law_near", .glo "_law_row_word", .glo "_law_edit", .glo "_law_are_judged", .glo "_law_is_rule_bent", .glo "law", .glo "is_integer", .glo "is_number", .glo "is_small_integer", .glo "is_word", .glo "is_worth", .glo "is_name", .glo "is_tuple_of", .glo "is_rising", .glo "is_schema", .glo "is_relation", .glo "are_sorts", .glo "is_kind", .glo "relation_of", .glo "is_of_sorts", .glo "is_of_sort", .glo "is_row", .glo "is_rule_of", .glo "is_head", .glo "is_asked_name", .glo "is_variable_number", .glo "is_variable", .glo "is_blank", .glo "is_term", .glo "is_condition", .glo "is_count_condition", .glo "is_place_of_blank", .glo "are_asked", .glo "is_deed", .glo "is_rule_deed", .glo "is_fact_deed", .glo "words_of", .glo "is_amount", .glo "is_life", .glo "is_from_one", .glo "is_mark", .glo "is_mark_pair", .glo "is_edit", .glo "number_in", .glo "ViewError", .glo "NoName", .glo "COMPARISONS", .glo "COUNTS", .glo "BLANK", .free "abs", .free "int", .free "len", .free "isinstance", .free "all", .free "zip", .free "sorted", .free "range", .free "repr", .free "tuple", .free "list", .free "str", .free "bool", .free "dict", .free "ValueError", .int "LONGEST_WORD" 20, .int "LONGEST_NAME" 8, .int "TOO_GREAT" 100000000000000000000, .int "VARIABLES" 20, .int "LAST_LIFE" 999]
def obs (g : Addr → Option Obj) : Bool × He.AlD := (chk (He.frG g (He.asD g 5)), He.obsD fa fn (He.frG g (He.asD g 5)))
def hk : PySem.W.Hook where
  α := Bool × He.AlD
  obs := fun s => obs s.heap.get?
  val := fun _ => (true, He.valD fn)
  says := fun _ h => ∃ K : PySem.W.Frag, K.In h ∧ chk K = true ∧ He.SaysD fa fn K
  of := fun _ _ e => ⟨_, He.frG_in, congrArg (fun z : Bool × He.AlD => z.1) e, congrArg (fun z : Bool × He.AlD => z.2) e⟩
  keeps := fun _ _ _ ⟨K, hK, c⟩ k => ⟨K, PySem.W.Frag.In.keeps hK k, c⟩
def ob (s : PySem.W.SharedT) : Bool × He.AlD := obs (HandSHeadRun.getT s)
theorem ob_eq (s : PySem.W.SharedT) : ob s = hk.obs s.abs := by
  show obs (HandSHeadRun.getT s) = obs s.abs.heap.get?
  rw [show HandSHeadRun.getT s = s.abs.heap.get? from funext (HandSHeadRun.getT_eq s)]
theorem facts {P : Program} {w : World} {K : PySem.W.Frag} {h : Heap} {mg : Str → Option Value} {f : Addr} (X : K.In h) (G : h.Ns mainGlobals mg) (hfa : mg ("law" : Str) = some (.ref f)) (ck : chk K = true) (c : He.SaysD fa fn K) :
    ∃ fd : FuncData, (∀ (s : Shared) (v : Value), BindsTo s fd ⟨[v], []⟩ [("script", v)]) ∧ ∀ base : Heap, K.In base → base.Ns mainGlobals mg → FnG P w K mg base 81 f fd ["script"] (spLaw K) := by
  obtain ⟨fdHand, FHand⟩ := c.def_ 0 (d := dHand) rfl
  obtain ⟨fdDraw, FDraw⟩ := c.def_ 1 (d := dDraw) rfl
  obtain ⟨fdSome, FSome⟩ := c.def_ 2 (d := dSome) rfl
  obtain ⟨fdMixed, FMixed⟩ := c.def_ 3 (d := dMixed) rfl
  obtain ⟨fdSchemaD, FSchemaD⟩ := c.def_ 4 (d := dSchemaD) rfl
  obtain ⟨fdWorthD, FWorthD⟩ := c.def_ 5 (d := dWorthD) rfl
  obtain ⟨fdRowD, FRowD⟩ := c.def_ 6 (d := dRowD) rfl
  obtain ⟨fdRuleD, FRuleD⟩ := c.def_ 7 (d := dRuleD) rfl
  obtain ⟨fdDeedD, FDeedD⟩ := c.def_ 8 (d := dDeedD) rfl
  obtain ⟨fdDeep, FDeep⟩ := c.def_ 9 (d := dDeep) rfl
  obtain ⟨fdLInt, FLInt⟩ := c.def_ 10 (d := dLInt) rfl
  obtain ⟨fdLName, FLName⟩ := c.def_ 11 (d := dLName) rfl
  obtain ⟨fdLWorth, FLWorth⟩ := c.def_ 12 (d := dLWorth) rfl
  obtain ⟨fdLRelation, FLRelation⟩ := c.def_ 13 (d := dLRelation) rfl
  obtain ⟨fdLSchema, FLSchema⟩ := c.def_ 14 (d := dLSchema) rfl
  obtain ⟨fdLWorths, FLWorths⟩ := c.def_ 15 (d := dLWorths) rfl
  obtain ⟨fdLDeed, FLDeed⟩ := c.def_ 16 (d := dLDeed) rfl
  obtain ⟨fdLMark, FLMark⟩ := c.def_ 17 (d := dLMark) rfl
  obtain ⟨fdLEdit, FLEdit⟩ := c.def_ 18 (d := dLEdit) rfl
  obtain ⟨fdOdd, FOdd⟩ := c.def_ 19 (d := dOdd) rfl
  obtain ⟨fdBent, FBent⟩ := c.def_ 20 (d := dBent) rfl
  obtain ⟨fdNear, FNear⟩ := c.def_ 21 (d := dNear) rfl
  obtain ⟨fdRowWord, FRowWord⟩ := c.def_ 22 (d := dRowWord) rfl
  obtain ⟨fdEditD, FEditD⟩ := c.def_ 23 (d := dEditD) rfl
  obtain ⟨fdJudged, FJudged⟩ := c.def_ 24 (d := dJudged) rfl
  obtain ⟨fdRuleBent, FRuleBent⟩ := c.def_ 25 (d := dRuleBent) rfl
  obtain ⟨fdLaw, FLaw⟩ := c.def_ 26 (d := dLaw) rfl
  obtain ⟨fdInteger, FInteger⟩ := c.def_ 27 (d := dInteger) rfl
  obtain ⟨fdNumber, FNumber⟩ := c.def_ 28 (d := dNumber) rfl
  obtain ⟨fdSmall, FSmall⟩ := c.def_ 29 (d := dSmall) rfl
  obtain ⟨fdWord, FWord⟩ := c.def_ 30 (d := dWord) rfl
  obtain ⟨fdWorth, FWorth⟩ := c.def_ 31 (d := dWorth) rfl
  obtain ⟨fdName, FName⟩ := c.def_ 32 (d := dName) rfl
  obtain ⟨fdTupleOf, FTupleOf⟩ := c.def_ 33 (d := dTupleOf) rfl
  obtain ⟨fdRising, FRising⟩ := c.def_ 34 (d := dRising) rfl
  obtain ⟨fdSchema, FSchema⟩ := c.def_ 35 (d := dSchema) rfl
  obtain ⟨fdRelation, FRelation⟩ := c.def_ 36 (d := dRelation) rfl
  obtain ⟨fdSorts, FSorts⟩ := c.def_ 37 (d := dSorts) rfl
  obtain ⟨fdKind, FKind⟩ := c.def_ 38 (d := dKind) rfl
  obtain ⟨fdRelOf, FRelOf⟩ := c.def_ 39 (d := dRelOf) rfl
  obtain ⟨fdOfSorts, FOfSorts⟩ := c.def_ 40 (d := dOfSorts) rfl
  obtain ⟨fdOfSort, FOfSort⟩ := c.def_ 41 (d := dOfSort) rfl
  obtain ⟨fdIsRow, FIsRow⟩ := c.def_ 42 (d := dIsRow) rfl
  obtain ⟨fdRuleOf, FRuleOf⟩ := c.def_ 43 (d := dRuleOf) rfl
  obtain ⟨fdHead, FHead⟩ := c.def_ 44 (d := dHead) rfl
  obtain ⟨fdAskedName, FAskedName⟩ := c.def_ 45 (d := dAskedName) rfl
  obtain ⟨fdVarNum, FVarNum⟩ := c.def_ 46 (d := dVarNum) rfl
  obtain ⟨fdVar, FVar⟩ := c.def_ 47 (d := dVar) rfl
  obtain ⟨fdBlank, FBlank⟩ := c.def_ 48 (d := dBlank) rfl
  obtain ⟨fdTerm, FTerm⟩ := c.def_ 49 (d := dTerm) rfl
  obtain ⟨fdCond, FCond⟩ := c.def_ 50 (d := dCond) rfl
  obtain ⟨fdCount, FCount⟩ := c.def_ 51 (d := dCount) rfl
  obtain ⟨fdPlaceBlank, FPlaceBlank⟩ := c.def_ 52 (d := dPlaceBlank) rfl
  obtain ⟨fdAreAsked, FAreAsked⟩ := c.def_ 53 (d := dAreAsked) rfl
  obtain ⟨fdDeed, FDeed⟩ := c.def_ 54 (d := dDeed) rfl
  obtain ⟨fdRuleDeed, FRuleDeed⟩ := c.def_ 55 (d := dRuleDeed) rfl
  obtain ⟨fdFactDeed, FFactDeed⟩ := c.def_ 56 (d := dFactDeed) rfl
  obtain ⟨fdWordsOf, FWordsOf⟩ := c.def_ 57 (d := dWordsOf) rfl
  obtain ⟨fdAmount, FAmount⟩ := c.def_ 58 (d := dAmount) rfl
  obtain ⟨fdLife, FLife⟩ := c.def_ 59 (d := dLife) rfl
  obtain ⟨fdFromOne, FFromOne⟩ := c.def_ 60 (d := dFromOne) rfl
  obtain ⟨fdMark, FMark⟩ := c.def_ 61 (d := dMark) rfl
  obtain ⟨fdMarkPair, FMarkPair⟩ := c.def_ 62 (d := dMarkPair) rfl
  obtain ⟨fdEdit, FEdit⟩ := c.def_ 63 (d := dEdit) rfl
  obtain ⟨fdNumberIn, FNumberIn⟩ := c.def_ 64 (d := dNumberIn) rfl
  obtain ⟨fdI0, FI0⟩ := c.def_ 65 (d := dI0) rfl
  have e := hfa.symm.trans (He.glo_ok X G (c.fact 26 (f := .glo "law") rfl))
  cases e
  have b := FunD.bindsA (ps := ["script"]) FLaw (fun _ _ _ _ _ _ us hl => match us, hl with | [_], _ => rfl)
  have M : Nm mg := {
    abs := (He.free_ok X G (c.fact 70 (f := .free "abs") rfl))
    int := (He.free_ok X G (c.fact 71 (f := .free "int") rfl))
    len := (He.free_ok X G (c.fact 72 (f := .free "len") rfl))
    isinstance := (He.free_ok X G (c.fact 73 (f := .free "isinstance") rfl))
    all := (He.free_ok X G (c.fact 74 (f := .free "all") rfl))
    zip := (He.free_ok X G (c.fact 75 (f := .free "zip") rfl))
    sorted := (He.free_ok X G (c.fact 76 (f := .free "sorted") rfl))
    range := (He.free_ok X G (c.fact 77 (f := .free "range") rfl))
    repr := (He.free_ok X G (c.fact 78 (f := .free "repr") rfl))
    tuple := (He.free_ok X G (c.fact 79 (f := .free "tuple") rfl))
    list := (He.free_ok X G (c.fact 80 (f := .free "list") rfl))
    str := (He.free_ok X G (c.fact 81 (f := .free "str") rfl))
    bool := (He.free_ok X G (c.fact 82 (f := .free "bool") rfl))
    dict := (He.free_ok X G (c.fact 83 (f := .free "dict") rfl))
    LONGEST_WORD := (He.int_ok X G (c.fact 85 (f := .int "LONGEST_WORD" 20) rfl))
    LONGEST_NAME := (He.int_ok X G (c.fact 86 (f := .int "LONGEST_NAME" 8) rfl))
    TOO_GREAT := (He.int_ok X G (c.fact 87 (f := .int "TOO_GREAT" 100000000000000000000) rfl))
    VARIABLES := (He.int_ok X G (c.fact 88 (f := .int "VARIABLES" 20) rfl))
    LAST_LIFE := (He.int_ok X G (c.fact 89 (f := .int "LAST_LIFE" 999) rfl)) }
  have Z := chk_ok X G (He.glo_ok X G (c.fact 65 (f := .glo "ViewError") rfl)) (He.glo_ok X G (c.fact 66 (f := .glo "NoName") rfl)) (He.glo_ok X G (c.fact 67 (f := .glo "COMPARISONS") rfl)) (He.glo_ok X G (c.fact 68 (f := .glo "COUNTS") rfl)) (He.glo_ok X G (c.fact 69 (f := .glo "BLANK") rfl)) ck
  refine ⟨fdLaw, fun s v => b s [v] rfl, fun base _ _ => ?_⟩
  have eHand : Df P w K mg base "_law_hand" 1 ["script"] (spHand K) := ⟨_, _, (He.glo_ok X G (c.fact 0 (f := .glo "_law_hand") rfl)), FHand.kp, FHand.bindsN (fun _ _ _ _ _ _ us hl => match us, hl with | [_], _ => rfl), ok_hand FHand (He.free_ok X G (c.fact 70 (f := .free "abs") rfl)) M.int M.len⟩
  have eDraw : Df P w K mg base "_law_draw" 1 ["hand", "many"] spDraw := ⟨_, _, (He.glo_ok X G (c.fact 1 (f := .glo "_law_draw") rfl)), FDraw.kp, FDraw.bindsN (fun _ _ _ _ _ _ us hl => match us, hl with | [_, _], _ => rfl), ok_draw FDraw M.int M.len⟩
  have eSome : Df P w K mg base "_law_some" 2 ["hand", "things"] (spSome K) := ⟨_, _, (He.glo_ok X G (c.fact 2 (f := .glo "_law_some") rfl)), FSome.kp, FSome.bindsN (fun _ _ _ _ _ _ us hl => match us, hl with | [_, _], _ => rfl), ok_some FSome eDraw M.len⟩
  have eSomeT : Df P w K mg base "_law_some" 2 ["hand", "things"] (spSomeT K) := ⟨_, _, (He.glo_ok X G (c.fact 2 (f := .glo "_law_some") rfl)), FSome.kp, FSome.bindsN (fun _ _ _ _ _ _ us hl => match us, hl with | [_, _], _ => rfl), ok_someT FSome eDraw M.len⟩
  have eMixed : Df P w K mg base "_law_mixed" 2 ["hand", "things"] (spMixed K) := ⟨_, _, (He.glo_ok X G (c.fact 3 (f := .glo "_law_mixed") rfl)), FMixed.kp, FMixed.bindsN (fun _ _ _ _ _ _ us hl => match us, hl with | [_, _], _ => rfl), ok_mixed FMixed M eDraw⟩
  have eSch : Df P w K mg base "_law_schema" 3 ["hand", "most"] (spSchema K) := ⟨_, _, (He.glo_ok X G (c.fact 4 (f := .glo "_law_schema") rfl)), FSchemaD.kp, FSchemaD.bindsN (fun _ _ _ _ _ _ us hl => match us, hl with | [_, _], _ => rfl), ok_schemaD FSchemaD M eDraw eSome eMixed⟩
  have eWor : Df P w K mg base "_law_worth" 3 ["hand", "sort"] (spZ K (fun s => sortD s = true) RW) := ⟨_, _, (He.glo_ok X G (c.fact 5 (f := .glo "_law_worth") rfl)), FWorthD.kp, FWorthD.bindsN (fun _ _ _ _ _ _ us hl => match us, hl with | [_, _], _ => rfl), ok_worthD FWorthD eSome⟩
  have eRow : Df P w K mg base "_law_row" 4 ["hand", "sorts"] (spZ K SortsR RowR) := ⟨_, _, (He.glo_ok X G (c.fact 6 (f := .glo "_law_row") rfl)), FRowD.kp, FRowD.bindsN (fun _ _ _ _ _ _ us hl => match us, hl with | [_, _], _ => rfl), ok_rowD FRowD M eWor⟩
  have eRule : Df P w K mg base "_law_rule" 4 ["hand", "schema"] (spZ K SchR RuleR) := ⟨_, _, (He.glo_ok X G (c.fact 7 (f := .glo "_law_rule") rfl)), FRuleD.kp, FRuleD.bindsN (fun _ _ _ _ _ _ us hl => match us, hl with | [_, _], _ => rfl), ok_ruleD FRuleD M eDraw eSome eSomeT eWor⟩
  have eDeed : Df P w K mg base "_law_deed" 5 ["hand", "schema"] (spZ K SchR DeedR) := ⟨_, _, (He.glo_ok X G (c.fact 8 (f := .glo "_law_deed") rfl)), FDeedD.kp, FDeedD.bindsN (fun _ _ _ _ _ _ us hl => match us, hl with | [_, _], _ => rfl), ok_deedD FDeedD M eDraw eSome eSomeT eRule eRow⟩
  have eEdit : Df P w K mg base "_law_edit" 3 ["hand", "deed"] (spZ K (fun _ => True) EditR) := ⟨_, _, (He.glo_ok X G (c.fact 23 (f := .glo "_law_edit") rfl)), FEditD.kp, FEditD.bindsN (fun _ _ _ _ _ _ us hl => match us, hl with | [_, _], _ => rfl), ok_editD FEditD M eDraw eSome⟩
  have eDeep : Df P w K mg base "_law_deep" 3 ["hand", "thing"] (spZ K (Bd 70 0 0) fun _ => Bd 330 26 0) := ⟨_, _, (He.glo_ok X G (c.fact 9 (f := .glo "_law_deep") rfl)), FDeep.kp, FDeep.bindsN (fun _ _ _ _ _ _ us hl => match us, hl with | [_, _], _ => rfl), ok_deep FDeep M eDraw eSome⟩
  have eOdd : Df P w K mg base "_law_odd" 4 ["hand"] (spY K Odd) := ⟨_, _, (He.glo_ok X G (c.fact 19 (f := .glo "_law_odd") rfl)), FOdd.kp, FOdd.bindsN (fun _ _ _ _ _ _ us hl => match us, hl with | [_], _ => rfl), ok_odd FOdd M eSome eDeep⟩
  have bent := bent_near (base := base) FBent FNear M eDraw eSome eOdd (He.glo_ok X G (c.fact 20 (f := .glo "_law_bent") rfl)) (He.glo_ok X G (c.fact 21 (f := .glo "_law_near") rfl))
  have eLInt : Df P w K mg base "_law_is_int" 1 ["thing"] (spA K intD) := ⟨_, _, (He.glo_ok X G (c.fact 10 (f := .glo "_law_is_int") rfl)), FLInt.kp, FLInt.bindsN (fun _ _ _ _ _ _ us hl => match us, hl with | [_], _ => rfl), ok_lint FLInt M⟩
  have eLName : Df P w K mg base "_law_is_name" 1 ["thing"] (spA K nameD) := ⟨_, _, (He.glo_ok X G (c.fact 11 (f := .glo "_law_is_name") rfl)), FLName.kp, FLName.bindsN (fun _ _ _ _ _ _ us hl => match us, hl with | [_], _ => rfl), ok_lname FLName M⟩
  have eLWorth : Df P w K mg base "_law_is_worth" 2 ["sort", "thing"] (spA2 K (fun _ _ => True) lawWorthD) := ⟨_, _, (He.glo_ok X G (c.fact 12 (f := .glo "_law_is_worth") rfl)), FLWorth.kp, FLWorth.bindsN (fun _ _ _ _ _ _ us hl => match us, hl with | [_, _], _ => rfl), ok_lworth FLWorth M eLInt⟩
  have eLRel : Df P w K mg base "_law_is_relation" 2 ["thing"] (spA K lawRelD) := ⟨_, _, (He.glo_ok X G (c.fact 13 (f := .glo "_law_is_relation") rfl)), FLRelation.kp, FLRelation.bindsN (fun _ _ _ _ _ _ us hl => match us, hl with | [_], _ => rfl), ok_lrelation FLRelation M eLInt eLName⟩
  have eLSch : Df P w K mg base "_law_is_due_schema" 3 ["thing"] (spA K schD) := ⟨_, _, (He.glo_ok X G (c.fact 14 (f := .glo "_law_is_due_schema") rfl)), FLSchema.kp, FLSchema.bindsN (fun _ _ _ _ _ _ us hl => match us, hl with | [_], _ => rfl), ok_lschema FLSchema M eLRel⟩
  have eLWs : Df P w K mg base "_law_are_worths" 3 ["sorts", "thing"] (spA2 K SortsG ofSorts) := ⟨_, _, (He.glo_ok X G (c.fact 15 (f := .glo "_law_are_worths") rfl)), FLWorths.kp, FLWorths.bindsN (fun _ _ _ _ _ _ us hl => match us, hl with | [_, _], _ => rfl), ok_lworths FLWorths M eLWorth⟩
  have eLMark : Df P w K mg base "_law_is_due_mark" 2 ["thing"] (spA K markD) := ⟨_, _, (He.glo_ok X G (c.fact 17 (f := .glo "_law_is_due_mark") rfl)), FLMark.kp, FLMark.bindsN (fun _ _ _ _ _ _ us hl => match us, hl with | [_], _ => rfl), ok_lmark FLMark M eLInt⟩
  have gDeed : Dg P w K mg base "_law_is_due_deed" 4 ["schema", "rules", "thing"] (spDue K dueD) := ⟨_, _, (He.glo_ok X G (c.fact 16 (f := .glo "_law_is_due_deed") rfl)), FLDeed.kp, FLDeed.bindsN (fun _ _ _ _ _ _ us hl => match us, hl with | [_, _, _], _ => rfl), ok_ldeed FLDeed M eLName eLInt eLWorth eLWs⟩
  have gEdit : Dg P w K mg base "_law_is_due_edit" 5 ["schema", "rules", "thing"] (spDue K dueE) := ⟨_, _, (He.glo_ok X G (c.fact 18 (f := .glo "_law_is_due_edit") rfl)), FLEdit.kp, FLEdit.bindsN (fun _ _ _ _ _ _ us hl => match us, hl with | [_, _, _], _ => rfl), ok_ledit FLEdit M eLInt eLMark gDeed⟩
  have gBent : Dg P w K mg base "_law_is_rule_bent" 2 ["rules", "thing"] (spRules K bentD) := ⟨_, _, (He.glo_ok X G (c.fact 25 (f := .glo "_law_is_rule_bent") rfl)), FRuleBent.kp, FRuleBent.bindsN (fun _ _ _ _ _ _ us hl => match us, hl with | [_, _], _ => rfl), ok_ruleBent FRuleBent M⟩
  have eInt : Df P w K mg base "is_integer" 1 ["thing"] (spA K intD) := ⟨_, _, (He.glo_ok X G (c.fact 27 (f := .glo "is_integer") rfl)), FInteger.kp, FInteger.bindsN (fun _ _ _ _ _ _ us hl => match us, hl with | [_], _ => rfl), ok_integer FInteger M⟩
  have eNum : Df P w K mg base "is_number" 2 ["thing"] (spA K numD) := ⟨_, _, (He.glo_ok X G (c.fact 28 (f := .glo "is_number") rfl)), FNumber.kp, FNumber.bindsN (fun _ _ _ _ _ _ us hl => match us, hl with | [_], _ => rfl), ok_number FNumber eInt⟩
  have eSmall : Df P w K mg base "is_small_integer" 2 ["thing"] (spA K smallD) := ⟨_, _, (He.glo_ok X G (c.fact 29 (f := .glo "is_small_integer") rfl)), FSmall.kp, FSmall.bindsN (fun _ _ _ _ _ _ us hl => match us, hl with | [_], _ => rfl), ok_small FSmall M eInt⟩
  have eWord : Df P w K mg base "is_word" 1 ["thing"] (spA K wordD) := ⟨_, _, (He.glo_ok X G (c.fact 30 (f := .glo "is_word") rfl)), FWord.kp, FWord.bindsN (fun _ _ _ _ _ _ us hl => match us, hl with | [_], _ => rfl), ok_word FWord M⟩
  have eWorth : Df P w K mg base "is_worth" 3 ["thing"] (spA K worthD) := ⟨_, _, (He.glo_ok X G (c.fact 31 (f := .glo "is_worth") rfl)), FWorth.kp, FWorth.bindsN (fun _ _ _ _ _ _ us hl => match us, hl with | [_], _ => rfl), ok_worth FWorth eSmall eWord⟩
  have eName : Df P w K mg base "is_name" 1 ["thing"] (spA K nameD) := ⟨_, _, (He.glo_ok X G (c.fact 32 (f := .glo "is_name") rfl)), FName.kp, FName.bindsN (fun _ _ _ _ _ _ us hl => match us, hl with | [_], _ => rfl), ok_name FName M⟩
  have eTup : Df P w K mg base "is_tuple_of" 1 ["thing", "least", "most"] (spTupOf K) := ⟨_, _, (He.glo_ok X G (c.fact 33 (f := .glo "is_tuple_of") rfl)), FTupleOf.kp, FTupleOf.bindsN (fun _ _ _ _ _ _ us hl => match us, hl with | [_, _, _], _ => rfl), ok_tupleOf FTupleOf M⟩
  have eRis : Df P w K mg base "is_rising" 1 ["keys"] (spRising K) := ⟨_, _, (He.glo_ok X G (c.fact 34 (f := .glo "is_rising") rfl)), FRising.kp, FRising.bindsN (fun _ _ _ _ _ _ us hl => match us, hl with | [_], _ => rfl), ok_rising FRising M⟩
  have eSorts : Df P w K mg base "are_sorts" 2 ["thing"] (spA K sortsD) := ⟨_, _, (He.glo_ok X G (c.fact 37 (f := .glo "are_sorts") rfl)), FSorts.kp, FSorts.bindsN (fun _ _ _ _ _ _ us hl => match us, hl with | [_], _ => rfl), ok_sorts FSorts M eTup⟩
  have eKind : Df P w K mg base "is_kind" 3 ["thing", "sorts"] (spA2 K KindF kindD) := ⟨_, _, (He.glo_ok X G (c.fact 38 (f := .glo "is_kind") rfl)), FKind.kp, FKind.bindsN (fun _ _ _ _ _ _ us hl => match us, hl with | [_, _], _ => rfl), ok_kind FKind M eNum⟩
  have eRel : Df P w K mg base "is_relation" 4 ["thing"] (spA K relD) := ⟨_, _, (He.glo_ok X G (c.fact 36 (f := .glo "is_relation") rfl)), FRelation.kp, FRelation.bindsN (fun _ _ _ _ _ _ us hl => match us, hl with | [_], _ => rfl), ok_relation FRelation eTup eName eSorts eKind⟩
  have eSchema : Df P w K mg base "is_schema" 5 ["thing"] (spA K schD) := ⟨_, _, (He.glo_ok X G (c.fact 35 (f := .glo "is_schema") rfl)), FSchema.kp, FSchema.bindsN (fun _ _ _ _ _ _ us hl => match us, hl with | [_], _ => rfl), ok_schema FSchema M eTup eRel eRis⟩
  have eRelOf : Df P w K mg base "relation_of" 1 ["schema", "name"] (spRelOf K) := ⟨_, _, (He.glo_ok X G (c.fact 39 (f := .glo "relation_of") rfl)), FRelOf.kp, FRelOf.bindsN (fun _ _ _ _ _ _ us hl => match us, hl with | [_, _], _ => rfl), ok_relOf FRelOf⟩
  have eOfSort : Df P w K mg base "is_of_sort" 3 ["sort", "thing"] (spA2 K (fun _ _ => True) sortWD) := ⟨_, _, (He.glo_ok X G (c.fact 41 (f := .glo "is_of_sort") rfl)), FOfSort.kp, FOfSort.bindsN (fun _ _ _ _ _ _ us hl => match us, hl with | [_, _], _ => rfl), ok_ofSort FOfSort eSmall eWord⟩
  have eOfSorts : Df P w K mg base "is_of_sorts" 4 ["sorts", "thing"] (spA2 K SortsF ofSorts) := ⟨_, _, (He.glo_ok X G (c.fact 40 (f := .glo "is_of_sorts") rfl)), FOfSorts.kp, FOfSorts.bindsN (fun _ _ _ _ _ _ us hl => match us, hl with | [_, _], _ => rfl), ok_ofSorts FOfSorts M eTup eOfSort⟩
  have eIsRow : Df P w K mg base "is_row" 5 ["schema", "name", "thing"] (spIsRow K) := ⟨_, _, (He.glo_ok X G (c.fact 42 (f := .glo "is_row") rfl)), FIsRow.kp, FIsRow.bindsN (fun _ _ _ _ _ _ us hl => match us, hl with | [_, _, _], _ => rfl), ok_isRow FIsRow eRelOf eOfSorts⟩
  have i0 : DI0 P w K mg base (f0 K) := ⟨_, ok_init0 FI0, FI0.bindsN (fun _ _ _ _ _ _ us hl => match us, hl with | [_], _ => rfl)⟩
  have eIsRowX : DfX P w K mg base "is_row" 5 ["schema", "name", "thing"] (spIsRowX K (He.ga K "NoName")) := ⟨_, _, (He.glo_ok X G (c.fact 42 (f := .glo "is_row") rfl)), FIsRow.kp, FIsRow.bindsN (fun _ _ _ _ _ _ us hl => match us, hl with | [_, _, _], _ => rfl), ok_isRowX FIsRow Z.cm i0 eRelOf eOfSorts⟩
  have eAsked : Df P w K mg base "is_asked_name" 2 ["thing"] (spA K askedD) := ⟨_, _, (He.glo_ok X G (c.fact 45 (f := .glo "is_asked_name") rfl)), FAskedName.kp, FAskedName.bindsN (fun _ _ _ _ _ _ us hl => match us, hl with | [_], _ => rfl), ok_askedName FAskedName eName⟩
  have eVarNum : Df P w K mg base "is_variable_number" 3 ["thing"] (spA K varNumD) := ⟨_, _, (He.glo_ok X G (c.fact 46 (f := .glo "is_variable_number") rfl)), FVarNum.kp, FVarNum.bindsN (fun _ _ _ _ _ _ us hl => match us, hl with | [_], _ => rfl), ok_varNum FVarNum M eNum⟩
  have eVar : Df P w K mg base "is_variable" 4 ["thing"] (spA K varD) := ⟨_, _, (He.glo_ok X G (c.fact 47 (f := .glo "is_variable") rfl)), FVar.kp, FVar.bindsN (fun _ _ _ _ _ _ us hl => match us, hl with | [_], _ => rfl), ok_var FVar eTup eVarNum⟩
  have eBlank : Df P w K mg base "is_blank" 1 ["thing"] (spBlank K) := ⟨_, _, (He.glo_ok X G (c.fact 48 (f := .glo "is_blank") rfl)), FBlank.kp, FBlank.bindsN (fun _ _ _ _ _ _ us hl => match us, hl with | [_], _ => rfl), ok_blank FBlank M Z.nk⟩
  have eTerm : Df P w K mg base "is_term" 5 ["thing"] (spA K termD) := ⟨_, _, (He.glo_ok X G (c.fact 49 (f := .glo "is_term") rfl)), FTerm.kp, FTerm.bindsN (fun _ _ _ _ _ _ us hl => match us, hl with | [_], _ => rfl), ok_term FTerm eWorth eVar⟩
  have eAreAsked : Df P w K mg base "are_asked" 6 ["schema", "name", "thing"] (spAsked K) := ⟨_, _, (He.glo_ok X G (c.fact 53 (f := .glo "are_asked") rfl)), FAreAsked.kp, FAreAsked.bindsN (fun _ _ _ _ _ _ us hl => match us, hl with | [_, _, _], _ => rfl), ok_areAsked FAreAsked M eTup eAsked eRelOf eTerm eBlank⟩
  have ePlace : Df P w K mg base "is_place_of_blank" 1 ["terms", "thing"] (fun _ _ _ _ => False) := ⟨_, _, (He.glo_ok X G (c.fact 52 (f := .glo "is_place_of_blank") rfl)), FPlaceBlank.kp, FPlaceBlank.bindsN (fun _ _ _ _ _ _ us hl => match us, hl with | [_, _], _ => rfl), ⟨fun _ _ _ _ z => z.elim, fun _ _ _ _ _ _ _ _ _ _ _ _ _ z => z.elim⟩⟩
  have eCount : Df P w K mg base "is_count_condition" 7 ["schema", "thing"] (spCond K CntP) := ⟨_, _, (He.glo_ok X G (c.fact 51 (f := .glo "is_count_condition") rfl)), FCount.kp, FCount.bindsN (fun _ _ _ _ _ _ us hl => match us, hl with | [_, _], _ => rfl), ok_count FCount M eVarNum eAreAsked (by decide : 1 ≤ 6) ePlace⟩
  have eCond : Df P w K mg base "is_condition" 8 ["schema", "thing"] (spCond K CondP) := ⟨_, _, (He.glo_ok X G (c.fact 50 (f := .glo "is_condition") rfl)), FCond.kp, FCond.bindsN (fun _ _ _ _ _ _ us hl => match us, hl with | [_, _], _ => rfl), ok_cond FCond M Z.nk eTup eTerm eAreAsked eCount⟩
  have eHead : Df P w K mg base "is_head" 6 ["schema", "thing"] (spCond K HeadP) := ⟨_, _, (He.glo_ok X G (c.fact 44 (f := .glo "is_head") rfl)), FHead.kp, FHead.bindsN (fun _ _ _ _ _ _ us hl => match us, hl with | [_, _], _ => rfl), ok_head FHead M eTup eAsked eRelOf eTerm⟩
  have eRuleOf : Df P w K mg base "is_rule_of" 9 ["schema", "thing"] (spA2 K RuleF fun _ d => tupOfD 2 2 d) := ⟨_, _, (He.glo_ok X G (c.fact 43 (f := .glo "is_rule_of") rfl)), FRuleOf.kp, FRuleOf.bindsN (fun _ _ _ _ _ _ us hl => match us, hl with | [_, _], _ => rfl), ok_ruleOf FRuleOf M eTup eHead eCond⟩
  have eAmount : Df P w K mg base "is_amount" 3 ["thing"] (spA K amountD) := ⟨_, _, (He.glo_ok X G (c.fact 58 (f := .glo "is_amount") rfl)), FAmount.kp, FAmount.bindsN (fun _ _ _ _ _ _ us hl => match us, hl with | [_], _ => rfl), ok_amount FAmount eSmall⟩
  have eLife : Df P w K mg base "is_life" 2 ["thing"] (spA K lifeD) := ⟨_, _, (He.glo_ok X G (c.fact 59 (f := .glo "is_life") rfl)), FLife.kp, FLife.bindsN (fun _ _ _ _ _ _ us hl => match us, hl with | [_], _ => rfl), ok_life FLife M eInt⟩
  have eFrom : Df P w K mg base "is_from_one" 3 ["thing"] (spA K fromOneD) := ⟨_, _, (He.glo_ok X G (c.fact 60 (f := .glo "is_from_one") rfl)), FFromOne.kp, FFromOne.bindsN (fun _ _ _ _ _ _ us hl => match us, hl with | [_], _ => rfl), ok_fromOne FFromOne eNum⟩
  have ePair : Df P w K mg base "is_mark_pair" 4 ["thing"] (spA K markPairD) := ⟨_, _, (He.glo_ok X G (c.fact 62 (f := .glo "is_mark_pair") rfl)), FMarkPair.kp, FMarkPair.bindsN (fun _ _ _ _ _ _ us hl => match us, hl with | [_], _ => rfl), ok_markPair FMarkPair eTup eLife eFrom⟩
  have eMark : Df P w K mg base "is_mark" 5 ["thing"] (spA K markD) := ⟨_, _, (He.glo_ok X G (c.fact 61 (f := .glo "is_mark") rfl)), FMark.kp, FMark.bindsN (fun _ _ _ _ _ _ us hl => match us, hl with | [_], _ => rfl), ok_mark FMark M ePair eRis⟩
  have eNumIn : Df P w K mg base "number_in" 1 ["mark", "life"] (spNumIn K) := ⟨_, _, (He.glo_ok X G (c.fact 64 (f := .glo "number_in") rfl)), FNumberIn.kp, FNumberIn.bindsN (fun _ _ _ _ _ _ us hl => match us, hl with | [_, _], _ => rfl), ok_numberIn FNumberIn⟩
  have eWords : Df P w K mg base "words_of" 1 ["kind"] (spWords K) := ⟨_, _, (He.glo_ok X G (c.fact 57 (f := .glo "words_of") rfl)), FWordsOf.kp, FWordsOf.bindsN (fun _ _ _ _ _ _ us hl => match us, hl with | [_], _ => rfl), ok_wordsOf FWordsOf⟩
  have eFactD : Df P w K mg base "is_fact_deed" 5 ["relation", "thing"] (spA2 K FactF factDeedD) := ⟨_, _, (He.glo_ok X G (c.fact 56 (f := .glo "is_fact_deed") rfl)), FFactDeed.kp, FFactDeed.bindsN (fun _ _ _ _ _ _ us hl => match us, hl with | [_, _], _ => rfl), ok_factDeed FFactDeed M eWords eOfSorts eAmount⟩
  have eRuleD : Df P w K mg base "is_rule_deed" 10 ["schema", "thing"] (spA2 K RuleDeedF fun _ d => ruleDeedD d) := ⟨_, _, (He.glo_ok X G (c.fact 55 (f := .glo "is_rule_deed") rfl)), FRuleDeed.kp, FRuleDeed.bindsN (fun _ _ _ _ _ _ us hl => match us, hl with | [_, _], _ => rfl), ok_ruleDeed FRuleDeed M eName eRuleOf⟩
  have eIsDeed : Df P w K mg base "is_deed" 11 ["schema", "thing"] (spA2 K DeedF deedD) := ⟨_, _, (He.glo_ok X G (c.fact 54 (f := .glo "is_deed") rfl)), FDeed.kp, FDeed.bindsN (fun _ _ _ _ _ _ us hl => match us, hl with | [_, _], _ => rfl), ok_deed FDeed eTup eRuleD eRelOf eFactD⟩
  have eIsEdit : Df P w K mg base "is_edit" 12 ["schema", "thing"] (spA2 K EditF editD) := ⟨_, _, (He.glo_ok X G (c.fact 63 (f := .glo "is_edit") rfl)), FEdit.kp, FEdit.bindsN (fun _ _ _ _ _ _ us hl => match us, hl with | [_, _], _ => rfl), ok_edit FEdit eTup eLife eFrom eMark eNumIn eIsDeed⟩
  have eRowWord : Df P w K mg base "_law_row_word" 6 ["schema", "name", "thing"] (spRowWord K) := ⟨_, _, (He.glo_ok X G (c.fact 22 (f := .glo "_law_row_word") rfl)), FRowWord.kp, FRowWord.bindsN (fun _ _ _ _ _ _ us hl => match us, hl with | [_, _, _], _ => rfl), ok_rowWord FRowWord M (He.free_ok X G (c.fact 84 (f := .free "ValueError") rfl)) Z.cf eIsRowX⟩
  have gJ : Dg P w K mg base "_law_are_judged" 80 ["hand", "schema"] (spJudged K) := ⟨_, _, (He.glo_ok X G (c.fact 24 (f := .glo "_law_are_judged") rfl)), FJudged.kp, FJudged.bindsN (fun _ _ _ _ _ _ us hl => match us, hl with | [_, _], _ => rfl), ok_judged FJudged M eDraw eSome eSomeT eRule eRow eDeed eEdit eOdd (bent 1).1 (bent 6).1 (bent 7).1 (bent 32).1 (bent 37).1 eIsRow eLWs eRowWord eIsDeed eIsEdit gDeed gEdit gBent⟩
  exact ok_law FLaw M eHand eSch (bent 3).1 (bent 34).1 eSchema eLSch gJ
end Sm
namespace Sm
open PySem PySem.Spec PyProof.Rows L2
abbrev R : PySem.W.OpenRow := PySem.W.OpenLaw.row PySem.Challenge.rw_shownviews_k01_schemas_rows_deeds_edits
def loose0 : List Str := ["ViewError", "NoDeed", "NoEdit", "NoLife", "NoMark", "NoName", "NoSchema", "NotYet", "OtherSchema", "COMPARISONS", "COUNTS", "BLANK", "TOO_GREAT", "LONGEST_WORD", "LONGEST_NAME", "is_integer", "is_number", "is_small_integer", "is_word", "is_worth"]
def loose1 : List Str := ["is_name", "is_tuple_of", "is_rising", "is_schema", "is_relation", "are_sorts", "is_kind", "relation_of", "is_of_sorts", "is_of_sort", "is_row", "VARIABLES", "is_rule_of", "is_head", "is_asked_name", "is_variable_number", "is_variable", "is_blank", "is_term", "is_condition"]
def loose2 : List Str := ["is_count_condition", "is_place_of_blank", "are_asked", "LAST_LIFE", "is_deed", "is_rule_deed", "is_fact_deed", "words_of", "is_amount", "is_life", "is_from_one", "is_mark", "is_mark_pair", "is_edit", "number_in", "_law_hand", "_law_draw", "_law_some", "_law_mixed", "_law_schema"]
def loose3 : List Str := ["_law_worth", "_law_row", "_law_rule", "_law_deed", "_law_deep", "_law_is_int", "_law_is_name", "_law_is_worth", "_law_is_relation", "_law_is_due_schema", "_law_are_worths", "_law_is_due_deed", "_law_is_due_mark", "_law_is_due_edit", "_law_odd", "_law_bent", "_law_near", "_law_row_word", "_law_edit", "_law_are_judged"]
def loose4 : List Str := ["_law_is_rule_bent"]
abbrev loose : List Str := loose0 ++ loose1 ++ loose2 ++ loose3 ++ loose4
theorem run (w : World) : HandSHeadRun.RunEq R (PySem.W.view R.prog [87]) hk ob 20000 loose w := by
  intro os
  kernel_rfl
end Sm
open PySem PySem.W PySem.Calls PyProof.Rows
theorem PySem.Challenge.cw_shownviews_k01_schemas_rows_deeds_edits_holds : PySem.Challenge.rw_shownviews_k01_schemas_rows_deeds_edits.Holds := by
  w_on; o_law
  refine HandSHeadRun.head_any (r := Sm.R) (q := view Sm.R.prog [87]) (H := Sm.hk) (ob := Sm.ob) (M := 20000) (loose := Sm.loose) (d := HandSHeadRun.topDef Sm.R.prog 87) (kwd := []) Sm.ob_eq
    (by kernel_rfl) (fun s => by kernel_rfl) Sm.run (by kernel_rfl) (by kernel_rfl) (by kernel_rfl) (by rfl) (by first | assumption | decide +kernel) (by decide +kernel) ⟨rfl, rfl, rfl, rfl, rfl, by decide +kernel⟩ ?hw ?hc
  case hw => w_witness2
  case hc =>
    refine Gd.walkG (l := PySem.Challenge.rw_shownviews_k01_schemas_rows_deeds_edits) (n := 63) (k := 81) (x := "script") rfl (by decide) (by kernel_rfl) ⟨rfl, by decide, by decide⟩ ?F
    intro w mg fa h Y G hmg0
    obtain ⟨K, KX, ck, c⟩ := Y
    have hmg : mg ("law" : PySem.Str) = some (.ref fa) := by
      have e : (HandSHeadRun.topDef Sm.R.prog 87).name = ("law" : PySem.Str) := by kernel_rfl
      rw [← e]
      exact hmg0
    obtain ⟨fd, hb, hF⟩ := Sm.facts (P := (PySem.Challenge.rw_shownviews_k01_schemas_rows_deeds_edits).prog) (w := w) KX G hmg ck c
    exact ⟨K, fd, Sm.spLaw K, KX, hb, fun H a ns hl _ hS => ⟨a, ns, rfl, hS, hl, fun _ => rfl⟩, hF⟩
