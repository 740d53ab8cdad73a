import PyProof.Rows.All
import Wide.All
import OpenK.AllK
import Wide.FinOn
import KE.KDictZip
import KE.KDictItemsList
import HandS.ForMost
import HandS.WordsExc
import HandS.More
import KE.KStateDown
import KE.KExcIs
import HandS.Defaults
import HandS.IsInst
import HandS.ExcInit
import HandS.HeadHook1
import HandS.HeadHook2
import HandS.Codes
import HandS.Head0
import HandS.Head1
import HandS.Head2
import HandS.HeadEnd
import KE.KDictPairs
import HandS.Base
import HandS.Call
import HandS.List
import HandS.Dict
import HandS.Conv
import HandS.TupAny
import HandS.Text
import HandS.SortOrd
import HandS.SortRule
import HandS.DictTup
import HandS.SortInts
import HandS.Lambda
import HandS.Small
import HandS.Zip
import PyProof.IsRules
import HandS.Strs
import HandS.SetFor
import HandS.Words
import HandS.WordsList
import HandS.ExcIs
import HandS.HeadWalk
import HandS.HeadHook4
import PySem.Challenge.RW_shownviews_k02_whole_marks
set_option Elab.async false
set_option linter.all false
set_option maxRecDepth 100000
set_option maxHeartbeats 0
/-! list(zip(xs, ys)) over two lists of one length. -/
namespace Zl
open PySem PySem.Spec PySem.Calls PyProof.Rows
theorem no_len : typeLookup (.type "zip") "__len__" = pure none := am_miss_of_fast (by decide +kernel)
theorem no_hint : typeLookup (.type "zip") "__length_hint__" = pure none := am_miss_of_fast (by decide +kernel)
/-- the zip at z behind i turns; what it gave out lies from N on -/
structure Zs (N z TI TO i1 i2 l1 l2 : Addr) (xs ys : Array Value) (h : Heap) (i : Nat) : Prop where
  pr : IsPair h TI (.ref i1) (.ref i2)
  a1 : h.IsListIter i1 l1 i
  a2 : h.IsListIter i2 l2 i
  b1 : h.IsList l1 xs
  b2 : h.IsList l2 ys
  out : (IsZip h z TI TO .none ∧ ∃ a b, IsPair h TO a b) ∨ ∃ T f oT, IsZipHeld h z TI TO T f ∧ h.get? T = some oT ∧ N ≤ T
/-- the addresses that a turn may change -/
structure Low (N S z TI TO i1 i2 l1 l2 : Addr) : Prop where
  ap : ZipApart z TI TO i1 i2 l1 l2
  pS : S < N
  pz : z < N
  pTO : TO < N
  p1 : i1 < N
  p2 : i2 < N
  Sz : S ≠ z
  STI : S ≠ TI
  STO : S ≠ TO
  S1 : S ≠ i1
  S2 : S ≠ i2
  Sl1 : S ≠ l1
  Sl2 : S ≠ l2
structure Got (N : Addr) (xs ys : Array Value) (h : Heap) (as : List Addr) : Prop where
  up : as.Pairwise (· < ·)
  ge : ∀ a ∈ as, N ≤ a
  at_ : ∀ (j : Nat) (a : Addr), as[j]? = some a → ∃ x y, xs[j]? = some x ∧ ys[j]? = some y ∧ IsPair h a x y
section
variable {prog : Program} {w : World} {A : Around} {s : Shared} {R : Result → Shared → Prop} {N S z TI TO i1 i2 l1 l2 : Addr} {xs ys : Array Value}
theorem next (L : Low N S z TI TO i1 i2 l1 l2) {i : Nat} {E : Value → Shared → Prop} {Q : Option Value → Shared → Prop} (Z : Zs N z TI TO i1 i2 l1 l2 xs ys s.heap i) {x y : Value} (hx : xs[i]? = some x) (hy : ys[i]? = some y) (hN : N ≤ s.heap.objs.size)
    (hQ : ∀ h', Zs N z TI TO i1 i2 l1 l2 xs ys h' (i + 1) → IsPair h' s.heap.objs.size x y → h'.objs.size = s.heap.objs.size + 1 → (∀ c o, c ≠ z → c ≠ TO → c ≠ i1 → c ≠ i2 → s.heap.get? c = some o → h'.get? c = some o) →
      Q (some (.ref s.heap.objs.size)) { s with heap := h' }) : wpAny (model prog w) A (pyNext (.ref z)) Q E s := by
  obtain ⟨pr, a1, a2, b1, b2, out⟩ := Z
  have D := L.ap
  rcases out with ⟨hz, p, q, hTO⟩ | ⟨T, f, oT, hz, hT, hge⟩
  · refine wpAny_pyNext_zip_item D hz pr hTO a1 a2 b1 b2 hx hy fun h' c1 c2 c3 c4 c5 c6 k => ?_
    refine hQ h' ⟨k _ _ D.TIz D.TITO D.TIi1 D.TIi2 pr, c3, c4, ?_, ?_, .inr ⟨_, false, _, c1, c5, hN⟩⟩ c5 c6 k
    · exact b1.at fun o e => k _ o D.l1z D.l1TO D.l1i1 D.l1i2 e
    · exact b2.at fun o e => k _ o D.l2z D.l2TO D.l2i1 D.l2i2 e
  · refine wpAny_pyNext_zip_item_held D hz hT pr a1 a2 b1 b2 hx hy fun h' c1 c3 c4 c5 c6 k => ?_
    have n0 : T ≠ z := fun e => absurd (e ▸ hge) (Nat.not_le.mpr L.pz)
    have n1 : T ≠ i1 := fun e => absurd (e ▸ hge) (Nat.not_le.mpr L.p1)
    have n2 : T ≠ i2 := fun e => absurd (e ▸ hge) (Nat.not_le.mpr L.p2)
    refine hQ h' ⟨k _ _ D.TIz D.TIi1 D.TIi2 pr, c3, c4, ?_, ?_, .inr ⟨T, true, oT, c1, k _ _ n0 n1 n2 hT, hge⟩⟩ c5 c6 fun c o e1 _ e3 e4 => k c o e1 e3 e4
    · exact b1.at fun o e => k _ o D.l1z D.l1i1 D.l1i2 e
    · exact b2.at fun o e => k _ o D.l2z D.l2i1 D.l2i2 e
theorem stop (L : Low N S z TI TO i1 i2 l1 l2) {i : Nat} {E : Value → Shared → Prop} {Q : Option Value → Shared → Prop} (hh : A.handled = none) (Z : Zs N z TI TO i1 i2 l1 l2 xs ys s.heap i) (hx : xs[i]? = none)
    (hQ : ∀ h', (∀ c o, c ≠ z → c ≠ TO → c ≠ i1 → c ≠ i2 → s.heap.get? c = some o → h'.get? c = some o) → Q none { s with heap := h' }) : wpAny (model prog w) A (pyNext (.ref z)) Q E s := by
  obtain ⟨pr, a1, a2, b1, b2, out⟩ := Z
  rcases out with ⟨hz, p, q, hTO⟩ | ⟨T, f, oT, hz, hT, hge⟩
  · exact wpAny_pyNext_zip_end hh L.ap hz pr hTO a1 a2 b1 b2 (.inl hx) hQ
  · exact wpAny_pyNext_zip_end_held hh L.ap hz hT pr a1 a2 b1 b2 (.inl hx) fun h' k => hQ h' fun c o e1 _ e3 e4 => k c o e1 e3 e4
theorem Zs.upd (L : Low N S z TI TO i1 i2 l1 l2) {h : Heap} {i : Nat} {f : Obj → Obj} (Z : Zs N z TI TO i1 i2 l1 l2 xs ys h i) : Zs N z TI TO i1 i2 l1 l2 xs ys (h.update S f) i := by
  have k : ∀ b o, S ≠ b → h.get? b = some o → (h.update S f).get? b = some o := fun b o n e => (Heap.get?_update_other _ _ n).trans e
  obtain ⟨pr, a1, a2, b1, b2, out⟩ := Z
  refine ⟨k _ _ L.STI pr, a1.at fun o => k _ o L.S1, a2.at fun o => k _ o L.S2, b1.at fun o => k _ o L.Sl1, b2.at fun o => k _ o L.Sl2, ?_⟩
  rcases out with ⟨hz, p, q, hTO⟩ | ⟨T, g, oT, hz, hT, hge⟩
  · exact .inl ⟨k _ _ L.Sz hz, p, q, k _ _ L.STO hTO⟩
  · exact .inr ⟨T, g, oT, k _ _ L.Sz hz, k _ _ (Nat.ne_of_lt (Nat.lt_of_lt_of_le L.pS hge)) hT, hge⟩
theorem loop (L : Low N S z TI TO i1 i2 l1 l2) (hh : A.handled = none) (he : xs.size = ys.size) (hn : xs.size ≤ sizeLine) (res : Value) {h1 : Heap}
    (hR : ∀ h' tk acc c as, (∀ b o, b ≠ S → b ≠ z → b ≠ TO → b ≠ i1 → b ≠ i2 → h1.get? b = some o → h'.get? b = some o) → h'.get? S = some { cls := .type "list", dict := none, data := .seq acc c, slots := #[] } → as.length = xs.size → Got N xs ys h' as →
      acc.toList = as.map Value.ref → R (.ok (.ret res)) { s with heap := h', toks := tk }) :
    ∀ (k i : Nat) (h : Heap) (tk c : Nat) (acc : Array Value) (as : List Addr), xs.size - i = k → i ≤ xs.size → Zs N z TI TO i1 i2 l1 l2 xs ys h i → (∀ b o, b ≠ S → b ≠ z → b ≠ TO → b ≠ i1 → b ≠ i2 → h1.get? b = some o → h.get? b = some o) →
      h.get? S = some { cls := .type "list", dict := none, data := .seq acc c, slots := #[] } → acc.toList = as.map Value.ref → as.length = i → Got N xs ys h as → N ≤ h.objs.size →
      codeAny (model prog w) A (.builtin "list.extend.loop" ⟨[.ref S, .ref z, res], []⟩) R { s with heap := h, toks := tk } := by
  have nz : ∀ {a : Addr}, N ≤ a → a ≠ S ∧ a ≠ z ∧ a ≠ TO ∧ a ≠ i1 ∧ a ≠ i2 := fun {a} g =>
    ⟨Nat.ne_of_gt (Nat.lt_of_lt_of_le L.pS g), Nat.ne_of_gt (Nat.lt_of_lt_of_le L.pz g), Nat.ne_of_gt (Nat.lt_of_lt_of_le L.pTO g), Nat.ne_of_gt (Nat.lt_of_lt_of_le L.p1 g), Nat.ne_of_gt (Nat.lt_of_lt_of_le L.p2 g)⟩
  intro k
  induction k with
  | zero =>
    intro i h tk c acc as hk hi Z keep hS hacc hal G hNs
    refine codeAny_builtin PySem.F.entry_extend_loop ?_
    rw [Around.under_plainId PySem.F.plain_extend_loop _]
    refine wpAny_bind (stop (s := { s with heap := h, toks := tk }) (A := A.in1) L hh Z (Array.getElem?_eq_none (by omega)) fun h' kp => ?_)
    refine wpAny_pure (hR h' tk acc c as (fun b o e1 e2 e3 e4 e5 e => kp b o e2 e3 e4 e5 (keep b o e1 e2 e3 e4 e5 e)) (kp S _ L.Sz L.STO L.S1 L.S2 hS) (by omega) ⟨G.up, G.ge, fun j a hj => ?_⟩ hacc)
    obtain ⟨x, y, g1, g2, g3⟩ := G.at_ j a hj
    obtain ⟨_, n2, n3, n4, n5⟩ := nz (G.ge a (List.mem_of_getElem? hj))
    exact ⟨x, y, g1, g2, kp a _ n2 n3 n4 n5 g3⟩
  | succ k ih =>
    intro i h tk c acc as hk hi Z keep hS hacc hal G hNs
    have lt : i < xs.size := by omega
    have lt2 : i < ys.size := by omega
    have asz : acc.size = i := by
      have e := congrArg List.length hacc
      rw [List.length_map, hal] at e
      simpa using e
    refine codeAny_builtin PySem.F.entry_extend_loop ?_
    rw [Around.under_plainId PySem.F.plain_extend_loop _]
    refine wpAny_bind (next (s := { s with heap := h, toks := tk }) L Z (Array.getElem?_eq_getElem lt) (Array.getElem?_eq_getElem lt2) hNs fun h' Z' c5 c6 kp => ?_)
    dsimp only at c5 c6 kp ⊢
    have hS' := kp S _ L.Sz L.STO L.S1 L.S2 hS
    have Sl : S < h.objs.size := Heap.lt_size hS
    have up : ∀ b o, b ≠ S → h'.get? b = some o → (h'.update S (Obj.mapSeq (·.push (Value.ref h.objs.size)))).get? b = some o := fun b o n e => (Heap.get?_update_other _ _ (Ne.symm n)).trans e
    refine wpAny_bind ?_
    refine wpAny_updateSeq hS' rfl (wpAny_pure ⟨plainId_quiet PySem.F.plain_extend_loop _, ?_⟩) (by rw [asz]; omega) (by show (acc.push (Value.ref h.objs.size)).size ≤ sizeLine + 1; rw [Array.size_push, asz]; omega)
    have gnew := up h.objs.size _ (Nat.ne_of_gt Sl) c5
    refine ih (i + 1) _ tk _ (acc.push (Value.ref h.objs.size)) (as ++ [h.objs.size]) (by omega) lt (Z'.upd L) ?_ (Heap.get?_update_self _ hS' rfl) ?_ ?_ ⟨?_, ?_, ?_⟩ ?_
    · intro b o e1 e2 e3 e4 e5 e
      exact up b o e1 (kp b o e2 e3 e4 e5 (keep b o e1 e2 e3 e4 e5 e))
    · rw [Array.toList_push, hacc, List.map_append]
      rfl
    · rw [List.length_append, hal]
      rfl
    · refine List.pairwise_append.mpr ⟨G.up, List.pairwise_singleton _ _, fun a ha b hb => ?_⟩
      rw [List.mem_singleton.mp hb]
      obtain ⟨j, hj⟩ := List.mem_iff_getElem?.mp ha
      obtain ⟨x, y, _, _, g3⟩ := G.at_ j a hj
      exact Heap.lt_size g3
    · intro a ha
      rcases List.mem_append.mp ha with ha | ha
      · exact G.ge a ha
      · rw [List.mem_singleton.mp ha]
        exact hNs
    · intro j b hj
      by_cases hlt : j < as.length
      · rw [List.getElem?_append_left hlt] at hj
        obtain ⟨x, y, g1, g2, g3⟩ := G.at_ j b hj
        obtain ⟨n1, n2, n3, n4, n5⟩ := nz (G.ge b (List.mem_of_getElem? hj))
        exact ⟨x, y, g1, g2, up b _ n1 (kp b _ n2 n3 n4 n5 g3)⟩
      · have e : j = as.length := by
          have := (List.getElem?_eq_some_iff.mp hj).1
          rw [List.length_append, List.length_singleton] at this
          omega
        subst e
        have hb : h.objs.size = b := by simpa using hj
        subst hb
        subst hal
        exact ⟨_, _, Array.getElem?_eq_getElem lt, Array.getElem?_eq_getElem lt2, gnew⟩
    · exact Nat.le_trans hNs (Nat.le_of_lt (Heap.lt_size gnew))
end
section
variable {prog : Program} {w : World} {A : Around} {E : Value → Shared → Prop} {s : Shared} {z TI TO i1 i2 l1 l2 : Addr} {xs ys : Array Value}
/-- list(z), z a zip that has not begun -/
theorem call {Q : Value → Shared → Prop} (hh : A.handled = none) (D : ZipApart z TI TO i1 i2 l1 l2) (hz : IsZip s.heap z TI TO .none) (hTO : ∃ a b, IsPair s.heap TO a b) (hTI : IsPair s.heap TI (.ref i1) (.ref i2)) (a1 : s.heap.IsListIter i1 l1 0) (a2 : s.heap.IsListIter i2 l2 0)
    (b1 : s.heap.IsList l1 xs) (b2 : s.heap.IsList l2 ys) (he : xs.size = ys.size) (hn : xs.size ≤ sizeLine)
    (hQ : ∀ h' tk acc c as, (∀ b o, b ≠ z → b ≠ TO → b ≠ i1 → b ≠ i2 → s.heap.get? b = some o → h'.get? b = some o) → h'.get? s.heap.objs.size = some { cls := .type "list", dict := none, data := .seq acc c, slots := #[] } → as.length = xs.size → Got (s.heap.objs.size + 1) xs ys h' as →
      acc.toList = as.map Value.ref → Q (.ref s.heap.objs.size) { s with heap := h', toks := tk }) : wpAny (model prog w) A (call (.type "list") [.ref z]) Q E s := by
  obtain ⟨p, q, hTO⟩ := hTO
  have lz := Heap.lt_size hz
  have lTO := Heap.lt_size hTO
  have lTI := Heap.lt_size hTI
  have li1 : i1 < s.heap.objs.size := let ⟨_, e, _⟩ := a1; Heap.lt_size e
  have li2 : i2 < s.heap.objs.size := let ⟨_, e, _⟩ := a2; Heap.lt_size e
  have ll1 : l1 < s.heap.objs.size := let ⟨_, e, _⟩ := b1; Heap.lt_size e
  have ll2 : l2 < s.heap.objs.size := let ⟨_, e, _⟩ := b2; Heap.lt_size e
  refine callType_codes (Q₁ := fun obj t => obj = .ref s.heap.objs.size ∧ t = { s with heap := s.heap.push { cls := .type "list", data := .seq #[] } }) PySem.F.called_list (PySem.F.typeCall_list_1 _) PySem.F.entry_list_init
    (code_list_new _ ⟨rfl, rfl⟩) fun obj t ht => ?_
  obtain ⟨rfl, rfl⟩ := ht
  generalize hL : s.heap.objs.size = S at *
  have hS : (s.heap.push { cls := .type "list", data := .seq #[] }).get? S = some { cls := .type "list", data := .seq #[] } := by
    rw [← hL]
    exact Heap.get?_push_size _ rfl
  have low : Low (S + 1) S z TI TO i1 i2 l1 l2 := ⟨D, Nat.lt_succ_self _, Nat.lt_succ_of_lt lz, Nat.lt_succ_of_lt lTO, Nat.lt_succ_of_lt li1, Nat.lt_succ_of_lt li2, Nat.ne_of_gt lz, Nat.ne_of_gt lTI, Nat.ne_of_gt lTO, Nat.ne_of_gt li1, Nat.ne_of_gt li2, Nat.ne_of_gt ll1, Nat.ne_of_gt ll2⟩
  have k0 : ∀ b o, s.heap.get? b = some o → (s.heap.push { cls := .type "list", data := .seq #[] }).get? b = some o := fun b o e => Heap.get?_push_of_some _ e
  have Z0 : Zs (S + 1) z TI TO i1 i2 l1 l2 xs ys (s.heap.push { cls := .type "list", data := .seq #[] }) 0 :=
    ⟨k0 _ _ hTI, a1.at fun o => k0 _ o, a2.at fun o => k0 _ o, b1.at fun o => k0 _ o, b2.at fun o => k0 _ o, .inl ⟨k0 _ _ hz, p, q, k0 _ _ hTO⟩⟩
  refine ⟨⟨_, hS, rfl⟩, PySem.F.args_list_init_2 _ _, ?_⟩
  show wpAny _ A.in1.in1 (do let old ← Builtin.List.listItems (.ref S); Builtin.List.listUpdate (.ref S) (fun _ => #[]); letGo old.toList.reverse; Builtin.List.listExtendWith (.ref S) (.ref z) .none) _ _ _
  refine wpAny_bind ?_
  unfold Builtin.List.listItems
  refine wpAny_bind (wpAny_seqItems hS rfl (wpAny_pure ?_))
  show wpAny _ A.in1.in1 (updateSeq S (fun _ => #[]) >>= fun _ => letGo (#[] : Array Value).toList.reverse >>= fun _ => Builtin.List.listExtendWith (.ref S) (.ref z) .none) _ _ _
  refine wpAny_bind (wpAny_updateSeq hS rfl ?_)
  have hS2 := Heap.get?_update_self (Obj.mapSeq (fun _ => (#[] : Array Value))) hS rfl
  have Z1 := Z0.upd low (f := Obj.mapSeq (fun _ => (#[] : Array Value)))
  refine wpAny_bind (wpAny_letGo ?_)
  unfold Builtin.List.listExtendWith
  have zty : ∀ {h : Heap}, (∃ f, h.get? z = some { cls := .type "zip", dict := none, data := f, slots := #[] }) → ∀ t : Shared, t.heap = h → t.TypeIs (.ref z) "zip" := fun {h} ⟨f, e⟩ t q => ⟨_, by rw [q]; exact e, rfl⟩
  have zat : ∀ {h : Heap}, Zs (S + 1) z TI TO i1 i2 l1 l2 xs ys h 0 → ∃ f, h.get? z = some { cls := .type "zip", dict := none, data := f, slots := #[] } := fun {h} Z => by
    rcases Z.out with ⟨e, _⟩ | ⟨_, _, _, e, _⟩
    · exact ⟨_, e⟩
    · exact ⟨_, e⟩
  have zun : ∀ {h : Heap}, Zs (S + 1) z TI TO i1 i2 l1 l2 xs ys h 0 → ∃ f0, IsZip h z TI TO f0 ∨ True := fun _ => ⟨.none, .inr trivial⟩
  refine wpAny_bind (wpAny_typeOf (T := "zip") (zty (zat Z1) _ rfl) ?_)
  have e1 : Builtin.List.listSameRef (.ref S) (.ref z) = false := by
    have := low.Sz
    simp [Builtin.List.listSameRef, this]
  have e2 : (Value.type "zip" == Value.type "list") = false := by decide
  have e3 : (Value.type "zip" == Value.type "tuple") = false := by decide
  simp only [e1, e2, e3, Bool.or_false, Bool.false_eq_true, if_false]
  have hz1 : IsZip ((s.heap.push { cls := .type "list", data := .seq #[] }).update S (Obj.mapSeq (fun _ => (#[] : Array Value)))) z TI TO .none :=
    (Heap.get?_update_other _ _ low.Sz).trans (k0 _ _ hz)
  refine wpAny_bind (wpAny_pyIter_zip hz1 ?_)
  refine wpAny_bind (wpAny_holding ?_)
  unfold Builtin.List.listLengthHint
  refine wpAny_bind (wpAny_specialOf (zty (zat Z1) _ rfl) no_len ?_)
  show wpAny _ A.in1.in1 (specialOf (Value.ref z) (Str.ofString "__length_hint__") >>= _) _ _ _
  refine wpAny_bind (wpAny_specialOf (zty (zat Z1) _ rfl) no_hint ?_)
  refine wpAny_pure ?_
  refine wpAny_bind (wpAny_rule ?_)
  refine wpAny_bind ?_
  show wpAny _ A.in1.in1 (updateSeq S (·.push .none) >>= fun _ => updateSeq S (·.pop)) _ _ _
  refine wpAny_bind (wpAny_updateSeq hS2 rfl ?_)
  have hS3 := Heap.get?_update_self (Obj.mapSeq (·.push Value.none)) hS2 rfl
  refine wpAny_updateSeq (hz := by seq_fits) hS3 rfl ?_
  have hS4 := Heap.get?_update_self (Obj.mapSeq (·.pop)) hS3 rfl
  have Z3 := (Z1.upd low (f := Obj.mapSeq (·.push Value.none))).upd low (f := Obj.mapSeq (·.pop))
  refine wpAny_pure ⟨plainId_quiet PySem.F.plain_extend_loop _, ?_⟩
  refine loop (A := A.in1) (s := s) (h1 := s.heap) low hh he hn .none (fun h' tk acc c as kp hS' hl G hacc => ⟨rfl, hQ h' tk acc c as (fun b o e2 e3 e4 e5 e => ?_) hS' hl G hacc⟩) xs.size 0 _ _ _ #[] [] (Nat.sub_zero _) (Nat.zero_le _) Z3 ?_ hS4 rfl rfl ⟨List.Pairwise.nil, (fun _ z => nomatch z), fun j a hj => by simp at hj⟩ (Heap.lt_size hS4)
  rotate_left
  · exact kp b o (Nat.ne_of_lt (hL ▸ Heap.lt_size e)) e2 e3 e4 e5 e
  · intro b o n _ _ _ _ e
    exact (Heap.get?_update_other _ _ (Ne.symm n)).trans ((Heap.get?_update_other _ _ (Ne.symm n)).trans ((Heap.get?_update_other _ _ (Ne.symm n)).trans (k0 b o e)))
end
end Zl
namespace Zl
open PySem PySem.Spec PyProof.Rows L2
section
variable {X : Cx} {pins : List (Addr × Obj)} {σ : L2.St} {H H' : Hp} {s : Shared}
/-- several new objects are tracked at once -/
theorem many {h' : Heap} {t' : Nat} (I : Inv X pins σ H s) (k : ∀ b o, s.heap.get? b = some o → h'.get? b = some o) (sm : Same H H') (nw : ∀ b, H b = none → s.heap.get? b ≠ none → H' b = none)
    (ok : ∀ b o, H b = none → H' b = some o → ObjOk X.prog X.w H' h' b o) : Inv X pins σ H' { s with heap := h', toks := t' } := by
  refine I.un ⟨fun b o e _ _ _ => k b o e, fun b o e _ _ _ => ⟨o.slots, k b o e⟩, fun b o e n _ => nw b n (by rw [e]; simp), fun b o e _ => ⟨o, k b o e⟩, fun b xs e => sm b _ e, fun b o u e => sm b _ e, fun b ps e => ⟨#[], by rw [sm b _ e]; simp⟩⟩ fun b o e => ?_
  cases hb : H b with
  | none => exact ok b o hb e
  | some u =>
    have e2 := sm b u hb
    rw [e] at e2
    cases e2
    exact (I.hok b o hb).stay (fun c v _ z => k c v z) (fun c z => sm c _ z) fun c xs z => sm c _ z
end
/-- the j-th of as stands at the pair of the j-th of xs and ys -/
def pairUp : List Addr → List V → List V → Hp → Hp
  | a :: as, x :: xs, y :: ys, H => fun b => if b = a then some (.tup [x, y]) else pairUp as xs ys H b
  | _, _, _, H => H
theorem pairUp_out {H : Hp} {b : Addr} : ∀ {as : List Addr} {xs ys : List V}, b ∉ as → pairUp as xs ys H b = H b
  | [], _, _, _ => by simp [pairUp]
  | _ :: _, [], _, _ => by simp [pairUp]
  | _ :: _, _ :: _, [], _ => by simp [pairUp]
  | a :: as, x :: xs, y :: ys, n => by
    have n1 : b ≠ a := fun e => n (e ▸ List.mem_cons_self)
    unfold pairUp
    rw [if_neg n1]
    exact pairUp_out fun m => n (List.mem_cons_of_mem _ m)
theorem pairUp_at {H : Hp} : ∀ {as : List Addr} {xs ys : List V} {j : Nat} {a : Addr} {x y : V}, as.Pairwise (· < ·) → as[j]? = some a → xs[j]? = some x → ys[j]? = some y → pairUp as xs ys H a = some (.tup [x, y])
  | a0 :: as, x0 :: xs, y0 :: ys, 0, a, x, y, _, h1, h2, h3 => by
    simp at h1 h2 h3
    subst h1 h2 h3
    unfold pairUp
    rw [if_pos rfl]
  | a0 :: as, x0 :: xs, y0 :: ys, j + 1, a, x, y, p, h1, h2, h3 => by
    simp at h1 h2 h3
    obtain ⟨p1, p2⟩ := List.pairwise_cons.mp p
    have n1 : a ≠ a0 := Nat.ne_of_gt (p1 a (List.mem_of_getElem? h1))
    unfold pairUp
    rw [if_neg n1]
    exact pairUp_at p2 h1 h2 h3
  | [], _, _, _, _, _, _, _, h1, _, _ => by simp at h1
  | _ :: _, [], _, _, _, _, _, _, _, h2, _ => by simp at h2
  | _ :: _, _ :: _, [], _, _, _, _, _, _, _, h3 => by simp at h3
theorem zap (n a b : Nat) (la : a < n) (lb : b < n) : ZipApart (n + 4) (n + 2) (n + 3) n (n + 1) a b := by
  constructor <;> (refine (fun e => ?_ : (_ : Nat) ≠ _); omega)
theorem lt4 {b n : Nat} (h : b < n) : b ≠ n + 4 ∧ b ≠ n + 3 ∧ b ≠ n ∧ b ≠ n + 1 := ⟨by omega, by omega, by omega, by omega⟩
theorem ge6 {c n m : Nat} (h : n + 5 + 1 ≤ c) (e : m = n + 5) : n ≤ c ∧ c ≠ m := ⟨by omega, by omega⟩
theorem refVals : ∀ as : List Addr, Vals (as.map V.ref) (as.map Value.ref)
  | [] => .nil
  | _ :: r => .cons rfl (refVals r)
/-- list(zip(a, b)): a new list of new pairs -/
def tLz (K : PySem.W.Frag) (ta : TA) : TE := fun σ H Q => ta σ H fun vs H1 => ∃ (a b : Addr) (xs ys : List V), vs = [.ref a, .ref b] ∧ SqL K H1 a xs ∧ SqL K H1 b ys ∧ xs.length = ys.length ∧
  ∀ (p : Addr) (as : List Addr) (H2 : Hp), Same H1 H2 → H1 p = none → H2 p = some (.lst (as.map V.ref)) → as.length = xs.length → (∀ (j : Nat) (c : Addr) (x y : V), as[j]? = some c → xs[j]? = some x → ys[j]? = some y → H2 c = some (.tup [x, y])) → Q (.ref p) H2
theorem pe_lz {X : Cx} {e1 e2 : Expr} {ta : TA} {p p2 pos pos2 : Pos} (hcalm : X.calm = true) (hg : Gl X "list") (hm : X.mg "list" = none) (hg2 : Gl X "zip") (hm2 : X.mg "zip" = none) (ha : PA X [e1, e2] ta)
    (he : starEach [e1, e2] X.env = (false, eval e1 X.env) :: starEach [e2] X.env := by rfl) (hpl : (backTo pos2 (starEach [e2] X.env)).any (·.1) = false := by rfl)
    (he2 : starEach [.Call (.Name "zip" p2) [e1, e2] [] pos2] X.env = (false, eval (.Call (.Name "zip" p2) [e1, e2] [] pos2) X.env) :: starEach [] X.env := by rfl) :
    PE X (.Call (.Name "list" p) [.Call (.Name "zip" p2) [e1, e2] [] pos2] [] pos) (tLz X.K ta) := by
  refine ⟨fun pins s σ H Q I h => wpAny_Call_Name_kw (ld_blt I hg hm (by decide +kernel : bootBuiltins "list" = some (.type "list")) ?_ (by decide) (by decide))⟩
  refine PyProof.Rows.callWith_type1 ?_ he2 (by rfl)
  rw [he2]
  refine Calls.spliced_cons (wpAny_Call_Name_kw (ld_blt I hg2 hm2 (by decide +kernel : bootBuiltins "zip" = some (.type "zip")) ?_ (by decide) (by decide)))
  refine PyProof.Rows.callWith_type1 (thn (ha.run pos2 pins s σ H _ I h) fun us s1 ⟨vs, H1, I1, rv, a, b, xs, ys, ev, q1, q2, hl, q⟩ => ?_) he hpl
  subst ev
  obtain ⟨u1, u2, eu, r1, r2⟩ := vals2 rv
  subst eu
  cases (show u1 = Value.ref a from r1)
  cases (show u2 = Value.ref b from r2)
  obtain ⟨its, v1, g1, hz1⟩ := I1.list q1
  obtain ⟨its2, v2, g2, hz2⟩ := I1.list q2
  have n1 := v1.length
  have n2 := v2.length
  have la : a < s1.heap.objs.size := let ⟨_, _, e, _⟩ := g1; Heap.lt_size e
  have lb : b < s1.heap.objs.size := let ⟨_, _, e, _⟩ := g2; Heap.lt_size e
  refine call_zip_2 g1.isList g2.isList fun h' z0 z1 z2 z3 z4 z5 z6 => Calls.spliced_nil ?_
  have D := zap s1.heap.objs.size a b la lb
  have k5 : ∀ {b : Addr} {o : Obj}, s1.heap.get? b = some o → b ≠ s1.heap.objs.size + 4 ∧ b ≠ s1.heap.objs.size + 3 ∧ b ≠ s1.heap.objs.size ∧ b ≠ s1.heap.objs.size + 1 := fun {b o} e => lt4 (Heap.lt_size e)
  have b1 : h'.IsList a its.toArray := g1.isList.at fun o => z6 _ o
  have b2 : h'.IsList b its2.toArray := g2.isList.at fun o => z6 _ o
  refine call (s := { s1 with heap := h' }) (I1.ok.hd hcalm) D z0 ⟨_, _, z2⟩ z1 z3 z4 b1 b2 (by simp; omega) (by simp; omega) fun h2 tk acc c as kp hS hl2 G hacc => ?_
  have kk : ∀ b o, s1.heap.get? b = some o → h2.get? b = some o := fun b o e => by
    obtain ⟨e1, e2, e3, e4⟩ := k5 e
    exact kp b o e1 e2 e3 e4 (z6 b o e)
  have big : ∀ c, s1.heap.objs.size ≤ c → H1 c = none := fun c hc => I1.hok.fresh hc
  have hp0 : H1 h'.objs.size = none := big _ (by rw [z5]; exact Nat.le_add_right _ _)
  have hge : ∀ c ∈ as, s1.heap.objs.size ≤ c ∧ c ≠ h'.objs.size := fun c hc => by
    have := G.ge c hc
    rw [z5] at this
    exact ge6 this z5
  have hpa : h'.objs.size ∉ as := fun m => (hge _ m).2 rfl
  have len : as.length = xs.length := by
    have : its.toArray.size = its.length := by simp
    omega
  have up : ∀ (j : Nat) (c : Addr) (x y : V), as[j]? = some c → xs[j]? = some x → ys[j]? = some y → (upd (pairUp as xs ys H1) h'.objs.size (.lst (as.map V.ref))) c = some (.tup [x, y]) := fun j c x y e1 e2 e3 => by
    rw [upd_ne (hge c (List.mem_of_getElem? e1)).2]
    exact pairUp_at G.up e1 e2 e3
  have sm : Same H1 (upd (pairUp as xs ys H1) h'.objs.size (.lst (as.map V.ref))) := fun b o e => by
    rw [upd_ne (ne_of_none e hp0), pairUp_out fun m => ?_]
    · exact e
    · have := big b (hge b m).1
      rw [e] at this
      cases this
  refine ⟨.ref h'.objs.size, _, many (s := s1) (t' := tk) (h' := h2) (H' := upd (pairUp as xs ys H1) h'.objs.size (.lst (as.map V.ref))) I1 kk sm (fun b n e => ?_) (fun b o n e => ?_), rfl, q _ as _ sm hp0 upd_same len up⟩
  · have lt : b < s1.heap.objs.size := by
      cases z : s1.heap.get? b with
      | none => exact absurd z e
      | some o => exact Heap.lt_size z
    have n1 : b ≠ h'.objs.size := by rw [z5]; exact Nat.ne_of_lt (Nat.lt_of_lt_of_le lt (Nat.le_add_right _ _))
    rw [upd_ne n1, pairUp_out fun m => absurd (hge b m).1 (Nat.not_le.mpr lt)]
    exact n
  · by_cases hb : b = h'.objs.size
    · subst hb
      rw [upd_same] at e
      cases e
      refine ⟨by rw [List.length_map]; omega, as.map Value.ref, c, refVals as, ?_⟩
      rw [hS, ← hacc]
    · rw [upd_ne hb] at e
      by_cases hm : b ∈ as
      · obtain ⟨j, hj⟩ := List.mem_iff_getElem?.mp hm
        have jl : j < as.length := (List.getElem?_eq_some_iff.mp hj).1
        have ex : xs[j]? = some xs[j] := List.getElem?_eq_getElem (by omega)
        have ey : ys[j]? = some ys[j] := List.getElem?_eq_getElem (by omega)
        rw [pairUp_at G.up hj ex ey] at e
        cases e
        obtain ⟨x, y, p1, p2, p3⟩ := G.at_ j b hj
        obtain ⟨ux, eux, rux⟩ := v1.get ex
        obtain ⟨uy, euy, ruy⟩ := v2.get ey
        have ex2 : x = ux := by
          have : its.toArray[j]? = its[j]? := by simp
          rw [this, eux] at p1
          exact (Option.some.inj p1).symm
        have ey2 : y = uy := by
          have : its2.toArray[j]? = its2[j]? := by simp
          rw [this, euy] at p2
          exact (Option.some.inj p2).symm
        subst ex2 ey2
        exact ⟨by rw [sizeLine_eq]; exact (by decide : 2 ≤ 16777216), [x, y], .cons rux (.cons ruy .nil), _, p3, rfl, _, rfl⟩
      · rw [pairUp_out hm, n] at e
        cases e
end Zl
/-! Exceptions of the program's own classes as values: made, asked by isinstance, their fields read. -/
namespace Xv
open PySem PySem.Spec PyProof.Rows L2
/-! ### a class, by one look at the written part -/
def oexB (K : PySem.W.Frag) (C : Addr) : Bool := match K.lookup C with
  | some ⟨.type t, _, .cls cd, sl⟩ => (match cd.mro, sl.toList with
    | .ref C' :: bm, [_, _, _, _, some (.builtin n), _] => decide (t = "type") && (decide (C' = C) && (decide (n = "ValueError.__new__") && (!cd.hasDel && (cd.hasDict && PySem.HandSPX.refsVE bm))))
    | _, _ => false)
  | _ => false
def xclB (K : PySem.W.Frag) (C : Addr) : Bool := oexB K C && (He.eqO (PySem.W.findIn K (.ref C) "__setattr__") (some (some (.builtin "object.__setattr__"))) && (decide (PySem.W.subIn K (.ref C) (.type "BaseException") = some true) && (decide (PySem.W.typeIn K (.ref C) = some (.type "type")) &&
  (PySem.W.keepIn K (.ref C) && ((PySem.W.clsIn K C).isSome && (He.eqO (PySem.W.findIn K (.ref C) "__getattribute__") (some (some (.builtin "BaseException.__getattribute__"))) && (He.eqO (PySem.W.findIn K (.ref C) "__getattr__") (some none) &&
  (He.eqO (PySem.W.findIn K (.ref C) "__class__") (some (some (.builtin "object.__class__"))) && (decide (PySem.W.mroIn K C (.type "object") = some true) && (PySem.W.hasDictIn K C &&
  (He.eqO (PySem.W.specialIn K (.builtin "object.__class__") "__get__") (some (some (.builtin "getset_descriptor.__get__"))) && decide (PySem.W.takesIn K (.builtin "object.__class__") = some true))))))))))))
structure XCl (K : PySem.W.Frag) (C : Addr) : Prop where
  oex : OexC K C
  cl : (PySem.W.clsIn K C).isSome = true
  ga : PySem.W.findIn K (.ref C) "__getattribute__" = some (some (.builtin "BaseException.__getattribute__"))
  gt : PySem.W.findIn K (.ref C) "__getattr__" = some none
  ca : PySem.W.findIn K (.ref C) "__class__" = some (some (.builtin "object.__class__"))
  mo : PySem.W.mroIn K C (.type "object") = some true
  hd : PySem.W.hasDictIn K C = true
  gn : PySem.W.specialIn K (.builtin "object.__class__") "__get__" = some (some (.builtin "getset_descriptor.__get__"))
  tk : PySem.W.takesIn K (.builtin "object.__class__") = some true
theorem xcl_ok {K : PySem.W.Frag} {C : Addr} (h : xclB K C = true) : XCl K C := by
  obtain ⟨h1, h⟩ := He.ba h
  obtain ⟨h2, h⟩ := He.ba h
  obtain ⟨h3, h⟩ := He.ba h
  obtain ⟨h4, h⟩ := He.ba h
  obtain ⟨h5, h⟩ := He.ba h
  obtain ⟨h6, h⟩ := He.ba h
  obtain ⟨h7, h⟩ := He.ba h
  obtain ⟨h8, h⟩ := He.ba h
  obtain ⟨h9, h⟩ := He.ba h
  obtain ⟨h10, h⟩ := He.ba h
  obtain ⟨h11, h⟩ := He.ba h
  obtain ⟨h12, h13⟩ := He.ba h
  refine ⟨⟨?_, He.eqO_ok h2, of_decide_eq_true h3, of_decide_eq_true h4, h5⟩, h6, He.eqO_ok h7, He.eqO_ok h8, He.eqO_ok h9, of_decide_eq_true h10, h11, He.eqO_ok h12, of_decide_eq_true h13⟩
  unfold oexB at h1
  split at h1
  case h_2 => cases h1
  case h_1 t dd cd sl ho =>
    split at h1
    case h_2 => cases h1
    case h_1 C' bm k0 k1 k2 k3 n k5 hm hs =>
      obtain ⟨a1, h1⟩ := He.ba h1
      obtain ⟨a2, h1⟩ := He.ba h1
      obtain ⟨a3, h1⟩ := He.ba h1
      obtain ⟨a4, h1⟩ := He.ba h1
      obtain ⟨a5, a6⟩ := He.ba h1
      have e1 := of_decide_eq_true a1
      have e2 := of_decide_eq_true a2
      have e3 := of_decide_eq_true a3
      subst e1 e2 e3
      obtain ⟨nm, bs, mro, ns, qn, hd, sn, sub, ab, col, del⟩ := cd
      dsimp only at hm a4 a5
      have e4 : del = false := by cases del <;> first | rfl | cases a4
      subst hm e4 a5
      have e5 : sl = #[k0, k1, k2, k3, some (.builtin "ValueError.__new__"), k5] := by
        obtain ⟨l⟩ := sl
        dsimp only at hs
        rw [hs]
      subst e5
      exact ⟨nm, qn, ns, bs, bm, sn, sub, ab, col, dd, k0, k1, k2, k3, k5, ho, a6⟩
/-- an exception stands at a: its class C, its fields (none: it has no dict) -/
def XAt (H : Hp) (a C : Addr) : Option (List (Str × V)) → Prop
  | none => H a = some (exo a C none)
  | some fs => ∃ dx, H a = some (exo a C (some dx)) ∧ H dx = some (exd dx fs)
theorem XAt.same {H H' : Hp} {a C : Addr} {fs : Option (List (Str × V))} (h : XAt H a C fs) (k : ∀ b o, H b = some o → H' b = some o) : XAt H' a C fs := by
  cases fs with
  | none => exact k _ _ h
  | some fs =>
    obtain ⟨dx, h1, h2⟩ := h
    exact ⟨dx, k _ _ h1, k _ _ h2⟩
theorem XAt.get {P : Program} {w : World} {H : Hp} {h : Heap} {a C : Addr} {fs : Option (List (Str × V))} (x : XAt H a C fs) (ok : HOk P w H h) : ∃ ox od, PySem.W.InstAt h a ox C od := by
  cases fs with
  | none =>
    obtain ⟨t1, e⟩ := exo_at ok x
    exact ⟨_, none, e, rfl, rfl, trivial⟩
  | some fs =>
    obtain ⟨dx, h1, h2⟩ := x
    obtain ⟨t1, e⟩ := exo_at ok h1
    obtain ⟨mA, hn, _⟩ := exd_at ok h2
    obtain ⟨od, ho, _⟩ := lookIn_ns hn
    exact ⟨_, some od, e, rfl, rfl, ho⟩
section
variable {X : Cx}
/-! ### isinstance -/
def rIsX (K : PySem.W.Frag) : List V → Hp → VK → Prop := fun xs H Q => ∃ (a C : Addr) (fs : Option (List (Str × V))) (c : V) (u : Value) (b : Bool), xs = [.ref a, c] ∧ ClsV c u ∧ XAt H a C fs ∧ XCl K C ∧ PySem.W.kitOne K (.ref C) u = some b ∧ Q (.bl b) H
theorem call_isX : CallR X (.builtin "isinstance") (rIsX X.K) := by
  intro pins s σ H xs us Q I r h
  obtain ⟨a, C, fs, c, u, b, rfl, k, xa, T, e, q⟩ := h
  obtain ⟨u1, u2, rfl, r1, r2⟩ := vals2 r
  have e2 := k.eq r2
  subst e2
  cases (show u1 = Value.ref a from r1)
  obtain ⟨ox, od, J⟩ := xa.get I.hok
  exact PySem.W.kia_one (PySem.W.kitx_exc (x := a) (od := od) T.cl T.ga T.gt T.oex.exC T.ca T.gn T.tk T.mo) I.kIn J e (fun z => nomatch z) fun tk => ⟨.bl b, H, I.tok tk, rfl, q⟩
/-! ### a field -/
def tXf (K : PySem.W.Frag) (f : Str) (te : TE) : TE := fun σ H Q => te σ H fun x H1 => ∃ (a C : Addr) (fs : List (Str × V)) (v : V), x = .ref a ∧ XAt H1 a C (some fs) ∧ XCl K C ∧ PySem.W.findIn K (.ref C) f = some none ∧ fs.lookup f = some v ∧ Q v H1
theorem pe_xf {e : Expr} {te : TE} {f : Str} {pos : Pos} (he : PE X e te) (hb : attributeBase e f X.env (eval e X.env) = eval e X.env := by rfl) : PE X (.Attribute e f pos) (tXf X.K f te) := by
  refine ⟨fun pins s σ H Q I h => ?_⟩
  refine attr_of hb (thn (he.run pins s σ H _ I h) fun u s1 hh => ?_)
  obtain ⟨x, H1, I1, rx, a, C, fs, v, ex, xa, T, hno, el, q⟩ := hh
  subst ex
  obtain rfl : u = Value.ref a := rx
  obtain ⟨dx, h1, h2⟩ := xa
  obtain ⟨t1, eo⟩ := exo_at I1.hok h1
  obtain ⟨mA, hn, hr⟩ := exd_at I1.hok h2
  obtain ⟨od, ho, hl⟩ := lookIn_ns hn
  obtain ⟨u, hu, ru⟩ := RelO.some_of (v := v) (o := mA f) (by rw [← el]; exact hr f)
  have J : PySem.W.InstAt s1.heap a { cls := .ref C, dict := some dx, data := .fields #[.ref t1, .none, .none, .none, .bool false, .none] } C (some od) := ⟨eo, rfl, rfl, ho⟩
  exact HandSPX.exc_get I1.kIn J T.ga T.gt T.oex.exC (PySem.W.findObj_own T.hd hno rfl (by rw [hl, hu])) (handed_of ru) ⟨v, H1, I1.tok _, ru, q⟩
/-! ### made -/
def tXm (C : Addr) (sp : Sp) (ta : TA) : TE := fun σ H Q => ta σ H fun vs H1 => ∀ a, H1 a = none → sp (.ref a :: vs) (upd H1 a (exo a C none)) (fun v H2 => v = .non ∧ Q (.ref a) H2) E0
theorem xmade {pins : List (Addr × Obj)} {σ : L2.St} {H1 : Hp} {s1 : Shared} {Q : VK} {C fI : Addr} {k : Nat} {fd : FuncData} {ps : List Str} {sp : Sp} {vs : List V} {us : List Value} (T : OexC X.K C) (iC : PySem.W.findIn X.K (.ref C) "__init__" = some (some (.ref fI)))
    (tI : PySem.W.typeIn X.K (.ref fI) = some (.type "function")) (F1 : FnOk X.prog X.w X.K X.mg X.base CX0 k fI fd ps sp) (hr : Room (k + 1) X.A) (hb : Binds X.K fd ps []) (I1 : Inv X pins σ H1 s1) (r1 : Vals vs us) (hz : us.length ≤ sizeLine)
    (q1 : ∀ a, H1 a = none → sp (.ref a :: vs) (upd H1 a (exo a C none)) (fun v H2 => v = .non ∧ Q (.ref a) H2) E0) : wpAny (model X.prog X.w) X.A (call (.ref C) us) (EP X pins σ Q) X.xe s1 := by
  obtain ⟨nm, qn, N, bs, bm, sn, sub, ab, col, dd, k0, k1, k2, k3, k5, hC, hbm⟩ := T.cls
  obtain ⟨hp, g, dr, tk, os⟩ := s1
  have hsz : hp.objs.size ≤ hp.objs.size + 1 := Nat.le_succ _
  have hn : H1 (hp.objs.size + 1) = none := I1.hok.fresh hsz
  have hq := q1 _ hn
  have kk : ∀ b o, hp.get? b = some o → ((hp.push (PySem.W.kdv_tup us)).push (PySem.HandSPX.excO C hp.objs.size)).get? b = some o := fun b o z =>
    Heap.get?_push_of_some _ (Heap.get?_push_of_some _ z)
  have hg2 : ((hp.push (PySem.W.kdv_tup us)).push (PySem.HandSPX.excO C hp.objs.size)).get? (hp.objs.size + 1) = some (PySem.HandSPX.excO C hp.objs.size) := by heap_get
  have I2 := I1.laid (t' := tk) (a := hp.objs.size + 1) (o := exo (hp.objs.size + 1) C none) (h' := (hp.push (PySem.W.kdv_tup us)).push (PySem.HandSPX.excO C hp.objs.size)) kk hsz (exo_ok hg2)
  have r2 : Vals (V.ref (hp.objs.size + 1) :: vs) (Value.ref (hp.objs.size + 1) :: us) := .cons rfl r1
  have hl : ((Value.ref (hp.objs.size + 1) :: us) ++ []).length = ps.length := by
    rw [List.append_nil, ← r2.length]
    exact F1.len _ _ _ _ hq
  have hb2 := hb _ (Value.ref (hp.objs.size + 1) :: us) I2.kIn hl
  rw [List.append_nil] at hb2
  refine wpAny_call (PySem.HandSPX.call_own F.excBase_ValueError (fun Y => PySem.HandSPX.refsVE_contains Y bm hbm) (I1.kIn _ _ hC) (PySem.W.looks_findIn I1.kIn iC) (fun self => PySem.W.bind_fn I1.kIn self tI) hz ?_)
  refine codeAny_mono (F1.run _ X.stack _ _ ⟨_, []⟩ _ _ _ _ (hr.make C us []) (I2.env0.make C us []) hb2 r2 hq) fun r s' hq' => ?_
  cases r with
  | error er => exact hq'.elim
  | ok fl =>
    cases fl with
    | ret u =>
      obtain ⟨v, H2, os2, bare2, un2, hok2, rv, ev, q2⟩ := hq'
      subst ev
      exact ⟨rv, .ref (hp.objs.size + 1), H2, I2.call' (ch := []) os2 un2 hok2 bare2 (fun b z => absurd z (by simp)), rfl, q2⟩
    | next => exact False.elim hq'
    | brk => exact False.elim hq'
    | cont => exact False.elim hq'
theorem pe_xm {x : Str} {C fI : Addr} {k j : Nat} {fd : FuncData} {ps : List Str} {sp : Sp} {e : Expr} {es : List Expr} {ta : TA} {p pos : Pos} (T : OexC X.K C) (iC : PySem.W.findIn X.K (.ref C) "__init__" = some (some (.ref fI))) (tI : PySem.W.typeIn X.K (.ref fI) = some (.type "function"))
    (F1 : FnOk X.prog X.w X.K X.mg X.base CX0 k fI fd ps sp) (hr : Room j X.A) (hj : k + 1 ≤ j) (hb : Binds X.K fd ps []) (hm : X.mg x = some (.ref C)) (ha : PA X (e :: es) ta) (hg : Gl X x := by rfl)
    (hdb : (x == ("__debug__" : Str)) = false := by decide) (he : starEach (e :: es) X.env = (false, eval e X.env) :: starEach es X.env := by rfl) (hpl : (backTo pos (starEach es X.env)).any (·.1) = false := by rfl)
    (hz : ps.length ≤ 1000 := by decide) : PE X (.Call (.Name x p) (e :: es) [] pos) (tXm C sp ta) := by
  refine ⟨fun pins s σ H Q I h => ?_⟩
  refine wpAny_Call_Name_kw (ld_glob I hg hm ?_ hdb)
  refine PySem.W.callWith_K (h₀ := X.base) I.ok.mod.kin T.kC (thn (ha.run pos pins s σ H _ I h) fun us s1 ⟨vs, H1, I1, r1, q1⟩ => ⟨I1.kIn, ?_⟩) he hpl
  have hn : H1 (s1.heap.objs.size) = none := I1.hok.fresh (Nat.le_refl _)
  have hl := F1.len _ _ _ _ (q1 _ hn)
  refine xmade T iC tI F1 (hr.mono hj) hb I1 r1 ?_ q1
  show us.length ≤ sizeLine
  rw [← r1.length, sizeLine_eq]
  have e1 : vs.length + 1 = ps.length := hl
  omega
theorem pe_xm0 {x : Str} {C fI : Addr} {k j : Nat} {fd : FuncData} {ps : List Str} {sp : Sp} {p pos : Pos} (T : OexC X.K C) (iC : PySem.W.findIn X.K (.ref C) "__init__" = some (some (.ref fI))) (tI : PySem.W.typeIn X.K (.ref fI) = some (.type "function"))
    (F1 : FnOk X.prog X.w X.K X.mg X.base CX0 k fI fd ps sp) (hr : Room j X.A) (hj : k + 1 ≤ j) (hb : Binds X.K fd ps []) (hm : X.mg x = some (.ref C)) (hg : Gl X x := by rfl) (hdb : (x == ("__debug__" : Str)) = false := by decide) :
    PE X (.Call (.Name x p) [] [] pos) (tXm C sp tNil) := by
  refine ⟨fun pins s σ H Q I h => ?_⟩
  refine wpAny_Call_Name_kw (ld_glob I hg hm ?_ hdb)
  exact PySem.W.callWith_K0 I.kIn T.kC (xmade (us := []) T iC tI F1 (hr.mono hj) hb I .nil (Nat.zero_le _) h)
end
end Xv
namespace Sw
open PySem PySem.Spec PyProof.Rows L2
def top (i : Nat) : Stmt := PySem.Challenge.pw_shownviews_k02_whole_marks.main.body.getD i (.Pass ⟨0, 0, 0, 0⟩)
abbrev sHand : Stmt := top 26
abbrev sDraw : Stmt := top 27
abbrev sSome : Stmt := top 28
abbrev FnP (K : PySem.W.Frag) (x : Str) (st : Stmt) (f : Addr) (fd : FuncData) : Prop := FunD K x x (defArgs st) (defBody st) (defScope st) [] [] f fd
theorem tst {c : Bool} {A B : Prop} (h1 : c = true → A) (h2 : c = false → B) : if c = true then A else B := by
  cases c with
  | true => exact iteT (h1 rfl)
  | false => exact iteF (h2 rfl)
theorem mod64 (x : Int) {m : Int} (h : 0 < m) (h2 : m < 2 ^ 62) : -(2 ^ 64) < x % m ∧ x % m < 2 ^ 64 := by
  have h1 := Int.emod_nonneg x (show m ≠ 0 by omega)
  have h3 := Int.emod_lt_of_pos x h
  exact ⟨by omega, by omega⟩
/-- all but the object at a is as it was -/
def Keep (a : Addr) (H H' : Hp) : Prop := ∀ b o, b ≠ a → H b = some o → H' b = some o
theorem Keep.refl {a : Addr} {H : Hp} : Keep a H H := fun _ _ _ h => h
theorem Keep.trans {a : Addr} {H H1 H2 : Hp} (x : Keep a H H1) (y : Keep a H1 H2) : Keep a H H2 := fun b o n h => y b o n (x b o n h)
theorem Keep.upd {a : Addr} {H H1 : Hp} {o : HO} (x : Keep a H H1) : Keep a H (upd H1 a o) := fun b u n h => by
  rw [upd_ne n]
  exact x b u n h
theorem Keep.new {a p : Addr} {H H1 : Hp} {o : HO} (x : Keep a H H1) (hp : H p = none) : Keep a H (L2.upd H1 p o) := fun b u n h => by
  rw [upd_ne (ne_of_none h hp)]
  exact x b u n h
/-- the hand of the draws: what stands at a -/
structure Hand (H : Hp) (a c : Addr) (cs : List Int) (i b sd n : Int) : Prop where
  at_ : H a = some (.lst [.ref c, .int i, .int b, .int sd, .int n])
  cells : H c = some (.lst (cs.map V.int))
  len : cs.length ≤ 63
  pos : ∀ x ∈ cs, 0 ≤ x
  i0 : 0 ≤ i
  b0 : 0 ≤ b
  s0 : 0 ≤ sd
  n0 : 0 ≤ n
def HandC (H : Hp) (a c : Addr) : Prop := ∃ cs i b sd n, Hand H a c cs i b sd n
def HandP (H : Hp) (a : Addr) : Prop := ∃ c, HandC H a c
theorem Hand.ne {H : Hp} {a c : Addr} {cs : List Int} {i b sd n : Int} (h : Hand H a c cs i b sd n) : c ≠ a := ne_of h.cells h.at_ (by
  intro z
  injection z with z
  cases cs with
  | nil => cases z
  | cons x r => cases z)
theorem HandP.keep {a p : Addr} {H H' : Hp} (h : HandP H a) (k : ∀ b o, H b = some o → H' b = some o) : HandP H' a := by
  obtain ⟨c, cs, i, b, sd, n, x⟩ := h
  exact ⟨c, cs, i, b, sd, n, k _ _ x.at_, k _ _ x.cells, x.len, x.pos, x.i0, x.b0, x.s0, x.n0⟩
section
variable {P : Program} {w : World} {K : PySem.W.Frag} {mg : Str → Option Value} {base : Heap}
/-! ### the hand -/
def spHand (K : PySem.W.Frag) : Sp := fun vs H Q _ => ∃ (a : Addr) (ns : List Int), vs = [.ref a] ∧ SqL K H a (ns.map V.int) ∧ ns.length ≤ 63 ∧ ∀ H' p, Same H H' → H p = none → HandP H' p → Q (.ref p) H'
theorem scHand : FnScope ["script", "cells", "cell"] ["script"] (defScope sHand) := ⟨rfl, rfl, rfl, by decide +kernel, rfl, by decide +kernel, by decide +kernel⟩
theorem cut63 {α : Type} (f : α → V) (ns : List α) (h : ns.length ≤ 63) : cutV (ns.map f) none (some 63) = ns.map f := by
  unfold cutV
  rw [HT.sIx_none]
  have e : HT.sIx (ns.map f).length (ns.map f).length (some 63) = min 63 (ns.map f).length := HT.sIx_nat _ _ 63
  rw [e, List.length_map, show min 63 ns.length = ns.length by omega]
  show ((ns.map f).drop 0).take (ns.length - 0) = _
  rw [List.drop_zero, Nat.sub_zero]
  exact List.take_of_length_le (by rw [List.length_map]; exact Nat.le_refl _)
def absI (n : Int) : Int := if n < 0 then -n else n
theorem ok_hand {f : Addr} {fd : FuncData} (F : FnP K "_law_hand" sHand f fd) (m1 : mg "abs" = none) (m2 : mg "int" = none) (m3 : mg "len" = none) : FnOk P w K mg base CX0 1 f fd ["script"] (spHand K) := by
  refine F.ok scHand (fun vs H Q E h => ?_) (fun cdv A outer s H vs Q E hr h => ?_)
  · obtain ⟨a, ns, rfl, _⟩ := h
    rfl
  · obtain ⟨a, ns, rfl, hS, hl, q⟩ := h
    refine ⟨_, (pss_cons (ps_setLc (i := 1) (own := [("cell", 2)]) (g := gName 2) (tt := tYes) rfl scHand.nd rfl rfl (sw_true rfl rfl rfl (by decide +kernel)) (pi_list (pe_slice sl_list (pv 0) po_none (po_some pe_int))) (blkOk_by (N := ["script", "cells", "cell"]) (sc := defScope sHand) (by decide +kernel)) (fun _ _ _ _ _ => pg_name (i := 2) scHand.nd rfl (Or.inl rfl)) (fun _ _ _ _ _ => pts_nil) (fun _ _ _ _ _ => (pe_callB call_abs (by rfl) m1 (by decide +kernel) (pa_cons (pe_callTy call_int1 (by rfl) m2 (by decide +kernel) (pa_cons (pv 2) pa_nil)) pa_nil))))
      (pss_one (ps_ret (pe_lst (pa_cons (pv 1) (pa_cons pe_int (pa_cons pe_int (pa_cons (pe_op op_add pe_int (pe_op op_mul pe_int (pe_callB call_len_seq (by rfl) m3 PySem.boot_len (pa_cons (pv 1) pa_nil)))) (pa_cons pe_int pa_nil))))))))), ?_⟩
    refine ⟨_, rfl, _, rfl, a, _, rfl, hS, fun p np => ?_⟩
    rw [show cutV (ns.map V.int) none (some 63) = ns.map V.int from cut63 V.int ns hl]
    refine ⟨p, rfl, ⟨_, SqL.of upd_same⟩, fun D nD => ?_⟩
    have nDp : D ≠ p := fun e => by
      rw [e, upd_same] at nD
      cases nD
    have nD0 : H D = none := by rw [upd_ne nDp] at nD; exact nD
    refine lc_list (xs := ns.map V.int) (fun i H' => H' = upd (upd H p (.lst (ns.map V.int))) D (.lst (((ns.map absI).take i).map V.int))) rfl (fun i H' _ e => ?_) (fun i x H' hx e => ?_) (fun H' e => ?_)
    · rw [e]
      exact SqL.of (by rw [upd_ne nDp.symm, upd_same])
    · subst e
      obtain ⟨n, hn, rfl⟩ : ∃ n, ns[i]? = some n ∧ x = V.int n := by
        rw [List.getElem?_map] at hx
        obtain ⟨n, h1, h2⟩ := Option.map_eq_some_iff.mp hx
        exact ⟨n, h1, h2.symm⟩
      have hlt : i < ns.length := (List.getElem?_eq_some_iff.mp hn).1
      refine ⟨rfl, _, rfl, .inl ⟨_, rfl, ?_⟩⟩
      refine ⟨_, rfl, _, upd_same, small1000 (by rw [List.length_map, List.length_take]; omega), ?_⟩
      rw [upd_upd]
      congr 2
      rw [List.take_add_one, List.getElem?_map, hn, List.map_append]
      rfl
    · subst e
      refine ⟨_, rfl, _, rfl, D, _, rfl, .inl (SqL.of upd_same), _, _, rfl, rfl, .inl ⟨by decide, by decide⟩, _, _, rfl, rfl, (by rw [sizeLine_eq]; exact (by decide : 5 ≤ 16777216)), fun hp nh => ?_⟩
      have eT : ((ns.map absI).take (ns.map V.int).length) = ns.map absI := List.take_of_length_le (by rw [List.length_map, List.length_map]; exact Nat.le_refl _)
      rw [eT] at nh ⊢
      have ph : hp ≠ D := fun e => by
        rw [e, upd_same] at nh
        cases nh
      have php : hp ≠ p := fun e => by
        rw [e, upd_ne nDp.symm, upd_same] at nh
        cases nh
      have nh0 : H hp = none := by rw [upd_ne ph, upd_ne php] at nh; exact nh
      refine q _ hp (fun b o e => ?_) nh0 ⟨D, ns.map absI, 0, 0, _, 0, upd_same, by rw [upd_ne ph.symm]; exact upd_same, by rw [List.length_map]; exact hl, fun x hx => ?_, by decide, by decide, ?_, by decide⟩
      · rw [upd_ne (ne_of_none e nh0), upd_ne (ne_of_none e nD0), upd_ne (ne_of_none e np)]
        exact e
      · obtain ⟨n, _, rfl⟩ := List.mem_map.mp hx
        unfold absI
        split <;> omega
      · omega
def spDraw : Sp := fun vs H Q _ => ∃ (a c : Addr) (m : Int), vs = [.ref a, .int m] ∧ HandC H a c ∧ 0 < m ∧ m < 1073741824 ∧ ∀ (d : Int) (H' : Hp), 0 ≤ d → d < m → HandC H' a c → Keep a H H' → Q (.int d) H'
theorem scDraw : FnScope ["hand", "many", "cell", "digit", "number"] ["hand", "many"] (defScope sDraw) := ⟨rfl, rfl, rfl, by decide +kernel, rfl, by decide +kernel, by decide +kernel⟩
theorem ok_draw {f : Addr} {fd : FuncData} (F : FnP K "_law_draw" sDraw f fd) (m2 : mg "int" = none) (m3 : mg "len" = none) : FnOk P w K mg base CX0 1 f fd ["hand", "many"] spDraw := by
  refine F.ok scDraw (fun vs H Q E h => ?_) (fun cdv A outer s H vs Q E hr h => ?_)
  · obtain ⟨a, c, m, rfl, _⟩ := h
    rfl
  · obtain ⟨a, c, m, rfl, hh, hm, hm2, q⟩ := h
    refine ⟨_, (C8.pss_cut (ps_if (PW.pt (pw_and (pt_cmpR op_eq (pe_ix ix_list (pv 0) pe_int (fun _ _ => rfl)) pe_int (nomark _)) (pw_and1 (pt_cmpR op_lt (pe_ix ix_list (pv 0) pe_int (fun _ _ => rfl)) (pe_callB call_len_seq (by rfl) m3 PySem.boot_len (pa_cons (pe_ix ix_list (pv 0) pe_int (fun _ _ => rfl)) pa_nil)) (nomark _))))) (pss_cons (ps_set (i := 2) scDraw.nd rfl (Or.inl rfl) (pe_ix ix_list (pe_ix ix_list (pv 0) pe_int (fun _ _ => rfl)) (pe_ix ix_list (pv 0) pe_int (fun _ _ => rfl)) (fun _ _ => rfl)))
      (pss_cons (ps_asg (pe_op op_add (pe_ix ix_list (pv 0) pe_int (fun _ _ => rfl)) pe_int) (pg_sub (pv 0) pe_int set_list))
      (pss_cons (ps_asg (pe_op op_mod (pe_callTy call_int1 (by rfl) m2 (by decide +kernel) (pa_cons (pe_op op_add (pe_op op_add (pe_op op_mul (pe_ix ix_list (pv 0) pe_int (fun _ _ => rfl)) pe_int) (pv 2)) pe_int) pa_nil)) pe_int) (pg_sub (pv 0) pe_int set_list))
      (pss_one (ps_if (pt_cmpR op_ge (pv 2) (pe_op op_pow pe_int pe_int) (nomark _)) (pss_one (ps_asg (pv 2) (pg_sub (pv 0) pe_int set_list))) pss_nil))))) pss_nil)
      (pss_cons (ps_if (pt_cmpR op_gt (pe_ix ix_list (pv 0) pe_int (fun _ _ => rfl)) pe_int (nomark _)) (pss_cons (ps_set (i := 3) scDraw.nd rfl (Or.inl rfl) (pe_op op_mod (pe_callTy call_int1 (by rfl) m2 (by decide +kernel) (pa_cons (pe_ix ix_list (pv 0) pe_int (fun _ _ => rfl)) pa_nil)) (pv 1)))
      (pss_cons (ps_asg (pe_op op_fdiv (pe_ix ix_list (pv 0) pe_int (fun _ _ => rfl)) (pv 1)) (pg_sub (pv 0) pe_int set_list))
      (pss_one (ps_ret (pv 3))))) pss_nil)
      (pss_cons (ps_asg (pe_op op_add (pe_ix ix_list (pv 0) pe_int (fun _ _ => rfl)) pe_int) (pg_sub (pv 0) pe_int set_list))
      (pss_cons (ps_set (i := 4) scDraw.nd rfl (Or.inl rfl) (pe_op op_mod (pe_callTy call_int1 (by rfl) m2 (by decide +kernel) (pa_cons (pe_op op_mul (pe_callTy call_int1 (by rfl) m2 (by decide +kernel) (pa_cons (pe_op op_add (pe_ix ix_list (pv 0) pe_int (fun _ _ => rfl)) (pe_op op_mul pe_int (pe_ix ix_list (pv 0) pe_int (fun _ _ => rfl)))) pa_nil)) pe_int) pa_nil)) pe_int))
      (pss_cons (ps_set (i := 4) scDraw.nd rfl (Or.inl rfl) (pe_op op_mod (pe_callTy call_int1 (by rfl) m2 (by decide +kernel) (pa_cons (pe_op op_mul (pv 4) (pe_op op_add (pe_op op_fdiv (pv 4) pe_int) pe_int)) pa_nil)) pe_int))
      (pss_cons (ps_set (i := 4) scDraw.nd rfl (Or.inl rfl) (pe_op op_mod (pe_callTy call_int1 (by rfl) m2 (by decide +kernel) (pa_cons (pe_op op_mul (pv 4) (pe_op op_add (pe_op op_fdiv (pv 4) pe_int) pe_int)) pa_nil)) pe_int))
      (pss_one (ps_ret (pe_op op_mod (pe_callTy call_int1 (by rfl) m2 (by decide +kernel) (pa_cons (pe_op op_fdiv (pv 4) pe_int) pa_nil)) (pv 1)))))))))), ?_⟩
    refine ⟨fun σ' H' => ∃ x, σ' = [some (.ref a), some (.int m), x, none, none] ∧ HandC H' a c ∧ Keep a H H', ?_, fun σ' H' hM => ?_⟩
    · obtain ⟨cs, i, b, sd, n, h⟩ := hh
      have hat := h.at_
      refine ⟨_, rfl, a, _, _, _, rfl, rfl, SqL.of hat, atI_nat (j := 2) rfl, rfl, _, rfl, tst (fun e1 => ?_) fun _ => ⟨none, rfl, ⟨cs, i, b, sd, n, h⟩, Keep.refl⟩⟩
      refine ⟨_, rfl, a, _, _, _, rfl, rfl, SqL.of hat, atI_nat (j := 1) rfl, _, rfl, a, _, _, _, rfl, rfl, SqL.of hat, atI_nat (j := 0) rfl, c, _, rfl, .inl (SqL.of h.cells), _, _, rfl, rfl, _, rfl, tst (fun e2 => ?_) fun _ => ⟨none, rfl, ⟨cs, i, b, sd, n, h⟩, Keep.refl⟩⟩
      have hi : i < (cs.length : Int) := by
        have z := of_decide_eq_true e2
        rw [List.length_map] at z
        exact z
      have hi0 := h.i0
      obtain ⟨j, rfl⟩ : ∃ j : Nat, i = (j : Int) := ⟨i.toNat, by omega⟩
      have hj : j < cs.length := by omega
      obtain ⟨x, hx⟩ : ∃ x, cs[j]? = some x := ⟨cs[j], List.getElem?_eq_getElem hj⟩
      have x0 : 0 ≤ x := h.pos x (List.mem_of_getElem? hx)
      have hxm : (cs.map V.int)[j]? = some (V.int x) := by rw [List.getElem?_map, hx]; rfl
      have cne := h.ne
      -- cell = hand[0][hand[1]]
      refine ⟨_, rfl, a, _, _, _, rfl, rfl, SqL.of hat, atI_nat (j := 0) rfl, _, rfl, a, _, _, _, rfl, rfl, SqL.of hat, atI_nat (j := 1) rfl, c, _, _, _, rfl, rfl, SqL.of h.cells, atI_nat hxm, ?_⟩
      -- hand[1] = hand[1] + 1
      refine ⟨_, rfl, a, _, _, _, rfl, rfl, SqL.of hat, atI_nat (j := 1) rfl, _, _, rfl, rfl, _, rfl, a, _, _, 1, rfl, rfl, hat, rfl, ?_⟩
      -- hand[3] = int(hand[3] * 69621 + cell + 83) % 2147483629
      refine ⟨_, rfl, a, _, _, _, rfl, rfl, SqL.of upd_same, atI_nat (j := 3) rfl, _, _, rfl, rfl, .inr ⟨by decide, by decide⟩, _, rfl, _, _, rfl, rfl, _, _, rfl, rfl, .inl ⟨_, rfl, _, _, rfl, rfl, (by show (0 : Int) < 2147483629; decide), _, rfl, a, _, _, 3, rfl, rfl, upd_same, rfl, ?_⟩⟩
      -- if cell >= 10 ** 18
      refine ⟨_, rfl, _, _, rfl, rfl, ⟨by decide, by decide, by decide⟩, _, _, rfl, rfl, _, rfl, tst (fun e3 => ?_) fun _ => ?_⟩
      · refine ⟨_, rfl, _, rfl, a, _, _, 2, rfl, rfl, upd_same, rfl, some (V.int x), rfl, ⟨cs, ((j : Int) + 1), x, _, n, upd_same, ?_, h.len, h.pos, by omega, x0, Int.emod_nonneg _ (by decide), h.n0⟩, ((Keep.refl.upd).upd).upd⟩
        rw [upd_ne cne, upd_ne cne, upd_ne cne]
        exact h.cells
      · refine ⟨some (V.int x), rfl, ⟨cs, ((j : Int) + 1), b, _, n, upd_same, ?_, h.len, h.pos, by omega, h.b0, Int.emod_nonneg _ (by decide), h.n0⟩, (Keep.refl.upd).upd⟩
        rw [upd_ne cne, upd_ne cne]
        exact h.cells
    · obtain ⟨x, rfl, ⟨cs, i, b, sd, n, h⟩, kp⟩ := hM
      have hat := h.at_
      have cne := h.ne
      refine ⟨_, rfl, a, _, _, _, rfl, rfl, SqL.of hat, atI_nat (j := 2) rfl, _, _, rfl, rfl, _, rfl, tst (fun e1 => ?_) fun _ => ?_⟩
      · -- digit = int(hand[2]) % many; hand[2] = hand[2] // many; return digit
        refine ⟨_, rfl, a, _, _, _, rfl, rfl, SqL.of hat, atI_nat (j := 2) rfl, .inl ⟨_, rfl, _, rfl, _, _, rfl, rfl, hm, ?_⟩⟩
        refine ⟨_, rfl, a, _, _, _, rfl, rfl, SqL.of hat, atI_nat (j := 2) rfl, _, rfl, _, _, rfl, rfl, ⟨hm, hm2⟩, _, rfl, a, _, _, 2, rfl, rfl, hat, rfl, ?_⟩
        refine ⟨_, rfl, ?_⟩
        refine q _ _ (Int.emod_nonneg _ (by omega)) (Int.emod_lt_of_pos _ hm) ⟨cs, i, b / m, sd, n, upd_same, by rw [upd_ne cne]; exact h.cells, h.len, h.pos, h.i0, Int.ediv_nonneg h.b0 (by omega), h.s0, h.n0⟩ kp.upd
      · -- hand[4] = hand[4] + 1
        refine ⟨_, rfl, a, _, _, _, rfl, rfl, SqL.of hat, atI_nat (j := 4) rfl, _, _, rfl, rfl, _, rfl, a, _, _, 4, rfl, rfl, hat, rfl, ?_⟩
        -- number = int(int(hand[3] + 7919 * hand[4]) * 48271) % 2147483647
        refine ⟨_, rfl, a, _, _, _, rfl, rfl, SqL.of upd_same, atI_nat (j := 3) rfl, _, rfl, a, _, _, _, rfl, rfl, SqL.of upd_same, atI_nat (j := 4) rfl, _, _, rfl, rfl, .inl ⟨by decide, by decide⟩, _, _, rfl, rfl, .inl ⟨_, rfl, _, _, rfl, rfl, .inr ⟨by decide, by decide⟩, .inl ⟨_, rfl, _, _, rfl, rfl, (by show (0 : Int) < 2147483647; decide), ?_⟩⟩⟩
        -- number = int(number * (number // 1009 + 69621)) % 2147483647
        refine ⟨_, rfl, _, rfl, _, _, rfl, rfl, ⟨by decide, by decide⟩, _, _, rfl, rfl, _, _, rfl, rfl, .inl (mod64 _ (by decide) (by decide)), .inl ⟨_, rfl, _, _, rfl, rfl, (by show (0 : Int) < 2147483647; decide), ?_⟩⟩
        -- number = int(number * (number // 2003 + 40692)) % 2147483399
        refine ⟨_, rfl, _, rfl, _, _, rfl, rfl, ⟨by decide, by decide⟩, _, _, rfl, rfl, _, _, rfl, rfl, .inl (mod64 _ (by decide) (by decide)), .inl ⟨_, rfl, _, _, rfl, rfl, (by show (0 : Int) < 2147483399; decide), ?_⟩⟩
        -- return int(number // 16) % many
        refine ⟨_, rfl, _, _, rfl, rfl, ⟨by decide, by decide⟩, .inl ⟨_, rfl, _, rfl, _, _, rfl, rfl, hm, ?_⟩⟩
        refine q _ _ (Int.emod_nonneg _ (by omega)) (Int.emod_lt_of_pos _ hm) ⟨cs, i, b, sd, n + 1, upd_same, by rw [upd_ne cne]; exact h.cells, h.len, h.pos, h.i0, h.b0, h.s0, by have := h.n0; omega⟩ kp.upd

/-- a def of the text that keeps its promise, wherever it stands -/
def Df (P : Program) (w : World) (K : PySem.W.Frag) (mg : Str → Option Value) (base : Heap) (x : Str) (k : Nat) (ps : List Str) (sp : Sp) : Prop :=
  ∃ (f : Addr) (fd : FuncData), mg x = some (.ref f) ∧ PySem.W.keepIn K (.ref f) = true ∧ Binds K fd ps [] ∧ FnOk P w K mg base CX0 k f fd ps sp
theorem pe_df {X : Cx} {x : Str} {k j : Nat} {ps : List Str} {sp : Sp} {e : Expr} {es : List Expr} {ta : TA} {p pos : Pos} (D : Df X.prog X.w X.K X.mg X.base x k ps sp) (hr : Room j X.A) (hj : k ≤ j) (ha : PA X (e :: es) ta) (hg : Gl X x := by rfl)
    (hdb : (x == ("__debug__" : Str)) = false := by decide) (he : starEach (e :: es) X.env = (false, eval e X.env) :: starEach es X.env := by rfl) (hpl : (backTo pos (starEach es X.env)).any (·.1) = false := by rfl) :
    PE X (.Call (.Name x p) (e :: es) [] pos) (tCall sp [] E0 ta) := by
  obtain ⟨f, fd, hm, hk, hb, F⟩ := D
  exact pe_call F (hr.mono hj) hg hm hk hb .nil pass0 ha hdb he hpl
def spSome (K : PySem.W.Frag) : Sp := fun vs H Q _ => ∃ (a c l : Addr) (xs : List V), vs = [.ref a, .ref l] ∧ HandC H a c ∧ l ≠ a ∧ SqL K H l xs ∧ 0 < xs.length ∧ xs.length ≤ 1000 ∧ ∀ (x : V) (H' : Hp), x ∈ xs → HandC H' a c → Keep a H H' → Q x H'
theorem scSome : FnScope ["hand", "things"] ["hand", "things"] (defScope sSome) := ⟨rfl, rfl, rfl, by decide +kernel, rfl, by decide +kernel, by decide +kernel⟩
theorem SqL.keep {a l : Addr} {H H' : Hp} {xs : List V} (k : Keep a H H') (n : l ≠ a) (h : SqL K H l xs) : SqL K H' l xs := by
  rcases h with (h | ⟨o, h⟩) | h
  · exact .inl (.inl (k _ _ n h))
  · exact .inl (.inr ⟨o, k _ _ n h⟩)
  · exact .inr h
theorem ok_some {f : Addr} {fd : FuncData} (F : FnP K "_law_some" sSome f fd) (D : Df P w K mg base "_law_draw" 1 ["hand", "many"] spDraw) (m3 : mg "len" = none) : FnOk P w K mg base CX0 2 f fd ["hand", "things"] (spSome K) := by
  refine F.ok scSome (fun vs H Q E h => ?_) (fun cdv A outer s H vs Q E hr h => ?_)
  · obtain ⟨a, c, l, xs, rfl, _⟩ := h
    rfl
  · obtain ⟨a, c, l, xs, rfl, hh, hla, hS, h0, h1, q⟩ := h
    refine ⟨_, PSs.nox (pss_one (ps_ret (pe_ix ix_list (pv 1) (pe_df D hr (by decide) (pa_cons (pv 0) (pa_cons (pe_callB call_len_seq (by rfl) m3 PySem.boot_len (pa_cons (pv 1) pa_nil)) pa_nil))) (fun _ _ => rfl)))), ?_⟩
    refine ⟨_, rfl, _, rfl, _, rfl, l, _, rfl, .inl hS, a, c, _, rfl, hh, by omega, by omega, fun d H' d0 d1 hh' kp => ?_⟩
    obtain ⟨j, rfl⟩ : ∃ j : Nat, d = (j : Int) := ⟨d.toNat, by omega⟩
    have hj : j < xs.length := by omega
    exact ⟨l, _, _, xs[j], rfl, rfl, SqL.keep kp hla hS, atI_nat (List.getElem?_eq_getElem hj), q _ _ (List.getElem_mem hj) hh' kp⟩


end
end Sw
/-! Tuples of which it is known that they have no dict of their own; dict(t), sorted(d.items()). -/
namespace Tn
open PySem PySem.Spec PyProof.Rows L2
def TupN (H : Hp) (p : Addr) (xs : List V) : Prop := ∃ o : Obj, H p = some (.frz o (.tup xs)) ∧ o.dict = none
theorem TupN.sq {K : PySem.W.Frag} {H : Hp} {p : Addr} {xs : List V} (h : TupN H p xs) : SqT K H p xs := .inl (.inr (h.imp fun _ z => z.1))
theorem TupN.same {H H' : Hp} {p : Addr} {xs : List V} (h : TupN H p xs) (s : ∀ b o, H b = some o → H' b = some o) : TupN H' p xs := h.imp fun _ z => ⟨s _ _ z.1, z.2⟩
def newT (xs : List V) (H : Hp) (Q : VK) : Prop := ∀ (p : Addr) (o : Obj), H p = none → o.dict = none → Q (.ref p) (upd H p (.frz o (.tup xs)))
section
variable {X : Cx} {pins : List (Addr × Obj)} {σ : L2.St} {H : Hp} {s : Shared}
theorem laidT {t' : Nat} {us : List Value} {xs : List V} (I : Inv X pins σ H s) (r : Vals xs us) (z : xs.length ≤ sizeLine) :
    Inv X pins σ (upd H s.heap.objs.size (.frz { cls := .type "tuple", data := .seq us.toArray } (.tup xs))) { s with heap := s.heap.push { cls := .type "tuple", data := .seq us.toArray }, toks := t' } :=
  I.laid (fun _ _ e => Heap.get?_push_of_some _ e) (Nat.le_refl _) ⟨Heap.get?_push_size _ rfl, z, us, r, ⟨_, Heap.get?_push_size _ rfl, rfl, _, rfl⟩⟩
end
section
variable {X : Cx}
def tTupF (t : TA) : TE := fun σ H Q => t σ H fun xs H1 => xs.length ≤ sizeLine ∧ newT xs H1 Q
theorem pe_tupF {es : List Expr} {t : TA} {x1 : Nat} {pos : Pos} (h : PA X es t) : PE X (.Tuple es x1 pos) (tTupF t) := by
  refine ⟨fun pins s σ H Q I hq => ?_⟩
  refine wpAny_Tuple_spliced (thn (h.run pos pins s σ H _ I hq) fun us s1 ⟨xs, H1, I1, r, z, q⟩ => ⟨by rw [← r.length]; exact z, ?_⟩)
  exact ⟨.ref s1.heap.objs.size, _, laidT I1 r z, rfl, q _ _ (I1.hok.fresh (Nat.le_refl _)) rfl⟩
def rSlF (K : PySem.W.Frag) : V → Option Int → Option Int → Hp → VK → Prop := fun x lo hi H Q => ∃ a xs, x = .ref a ∧ SqT K H a xs ∧
  (HT.sIx xs.length 0 lo = 0 ∧ HT.sIx xs.length xs.length hi = xs.length → Q (.ref a) H) ∧ (¬ (HT.sIx xs.length 0 lo = 0 ∧ HT.sIx xs.length xs.length hi = xs.length) → newT (cutV xs lo hi) H Q)
theorem sl_tupF : SlR X (rSlF X.K) := by
  intro pins s σ H x v vl vu lo hi sl Q I rx hs pl pu h
  obtain ⟨a, xs, rfl, hx, q1, q2⟩ := h
  by_cases hw : HT.sIx xs.length 0 lo = 0 ∧ HT.sIx xs.length xs.length hi = xs.length
  · exact sl_tupA pins s σ H _ v vl vu lo hi sl Q I rx hs pl pu ⟨a, xs, rfl, hx, q1, fun n => absurd hw n⟩
  · cases rx
    obtain ⟨its, r, ht, hz⟩ := I.tuple hx
    have hlen : its.toArray.size = xs.length := by rw [List.size_toArray]; exact r.length.symm
    refine ⟨"tuple", _, PyProof.Rows.slot_tuple_getitem.lookup, ht.typeIs, ?_⟩
    refine HT.getItem_tuple_cut ht hs pl pu (by rw [hlen]; exact hw) ?_ (by rw [hlen]; exact hz)
    rw [hlen]
    exact ⟨.ref s.heap.objs.size, _, laidT (t' := s.toks) I ((r.drop (HT.sIx xs.length 0 lo)).take (HT.sIx xs.length xs.length hi - HT.sIx xs.length 0 lo)) (Nat.le_trans (cutV_length xs lo hi) hz), rfl, q2 hw _ _ (I.hok.fresh (Nat.le_refl _)) rfl⟩
def rCatF (K : PySem.W.Frag) : R2 := fun x y H Q => ∃ a b xs ys, x = .ref a ∧ y = .ref b ∧ SqT K H a xs ∧ SqT K H b ys ∧ xs.length + ys.length ≤ sizeLine ∧
  (xs = [] → Q (.ref b) H) ∧ (xs ≠ [] → ys = [] → Q (.ref a) H) ∧ (xs ≠ [] → ys ≠ [] → newT (xs ++ ys) H Q)
theorem op_catF : OpR X (binaryOp .Add) (rCatF X.K) := by
  intro pins s σ H x y v u Q I rx ry h
  obtain ⟨a, b, xs, ys, rfl, rfl, ha, hb, hz, q0, q1, q2⟩ := h
  by_cases hx : xs = []
  · exact op_catA pins s σ H _ _ v u Q I rx ry ⟨a, b, xs, ys, rfl, rfl, ha, hb, hz, q0, q1, fun n => absurd hx n⟩
  · cases rx
    cases ry
    obtain ⟨its, r1, p1, _⟩ := I.tuple ha
    obtain ⟨its2, r2, p2, _⟩ := I.tuple hb
    refine HT.cat_tup p1 p2 (fun z => hx (r1.nil_iff.mp z)) (fun z => ⟨.ref a, H, I, rfl, q1 hx (r2.nil_iff.mp z)⟩) (fun z => ?_) (by rw [← r1.length, ← r2.length]; exact hz)
    exact ⟨.ref s.heap.objs.size, _, laidT (t' := s.toks) I (r1.append r2) (by rw [List.length_append]; exact hz), rfl, q2 hx (fun w => z (r2.nil_iff.mpr w)) _ _ (I.hok.fresh (Nat.le_refl _)) rfl⟩
/-- tuple(x) of a list -/
def tTof (K : PySem.W.Frag) (ta : TE) : TE := fun σ H Q => ta σ H fun x H1 => ∃ p xs, x = .ref p ∧ SqL K H1 p xs ∧ newT xs H1 Q
theorem pe_tof {a : Expr} {ta : TE} {p pos : Pos} (hg : Gl X "tuple") (hm : X.mg "tuple" = none) (ha : PE X a ta) (na : starEach [a] X.env = (false, eval a X.env) :: starEach [] X.env := by rfl) :
    PE X (.Call (.Name "tuple" p) [a] [] pos) (tTof X.K ta) := by
  refine ⟨fun pins s σ H Q I h => ?_⟩
  refine Call_ (ld_blt I hg hm boot_tuple (PyProof.Rows.callWith_type1 (one_arg ha I h (fun v s2 x H2 I2 r q => ?_) na) na))
  obtain ⟨p, xs, rfl, hs, q⟩ := q
  obtain rfl : v = .ref p := r
  obtain ⟨its, rv, pl, hz⟩ := I2.list hs
  refine call_tuple_list pl.isList (fun h' hk => ?_) (by rw [List.size_toArray, ← rv.length]; exact hz)
  have I3 : Inv X pins σ H2 { s2 with heap := h' } := I2.kept (t' := s2.toks) hk
  exact ⟨.ref h'.objs.size, _, laidT (t' := s2.toks) I3 rv hz, rfl, q _ _ (I3.hok.fresh (Nat.le_refl _)) rfl⟩
/-! ### dict(t) -/
def rDictT : List V → Hp → VK → Prop := fun xs H Q => ∃ (a : Addr) (ps : List Addr) (kvs : List (Key × V)), xs = [.ref a] ∧ TupN H a (ps.map V.ref) ∧ Paired (fun p kv => TupN H p [kV kv.1, kv.2]) ps kvs ∧
    ∀ p, H p = none → Q (.ref p) (upd H p (.dK (mergeK [] kvs)))
theorem pairs_at {pins : List (Addr × Obj)} {σ : L2.St} {H : Hp} {s : Shared} (I : Inv X pins σ H s) : ∀ {ps : List Addr} {kvs : List (Key × V)}, Paired (fun p kv => TupN H p [kV kv.1, kv.2]) ps kvs →
    ∃ (prs : List (Key × Value)) (us : List Value), KV kvs prs ∧ prs.length = ps.length ∧ us.length = ps.length ∧ ∀ (j : Nat) (u v : Value), (us.zip (prs.map (·.2)))[j]? = some (u, v) → ∃ (b : Addr) (q : Key × Value), ps[j]? = some b ∧ prs[j]? = some q ∧ v = q.2 ∧ s.heap.IsTuple b #[u, v] ∧ keyIs q.1 u = true
  | _, _, .nil => ⟨[], [], .nil, rfl, rfl, fun j u v e => by simp at e⟩
  | _, _, .cons (a := p) (b := kv) h t => by
    obtain ⟨prs, us, r, hl, hu, hp⟩ := pairs_at I t
    obtain ⟨its, rv, ht, _⟩ := I.tuple (h.sq (K := X.K))
    obtain ⟨u, y, ei, ru, ry⟩ := vals2 rv
    subst ei
    refine ⟨(kv.1, y) :: prs, u :: us, .cons ⟨rfl, ry⟩ r, by rw [List.length_cons, List.length_cons, hl], by rw [List.length_cons, List.length_cons, hu], fun j u' v' e => ?_⟩
    cases j with
    | zero =>
      have e' : (u, y) = (u', v') := Option.some.inj e
      cases e'
      exact ⟨p, (kv.1, y), rfl, rfl, rfl, ht, kV_is (P := X.prog) (w := X.w) ru⟩
    | succ j =>
      obtain ⟨b, q, e1, e2, e3, e4, e5⟩ := hp j u' v' (by simpa using e)
      exact ⟨b, q, by simpa using e1, by simpa using e2, e3, e4, e5⟩
theorem call_dictT (hcalm : X.calm = true) : CallR X (.type "dict") rDictT := by
  intro pins s σ H xs us Q I r q
  obtain ⟨a, ps, kvs, rfl, ⟨ot, hq, hdn⟩, hp, q⟩ := q
  obtain ⟨u, rfl, rx⟩ := vals1 r
  cases rx
  obtain ⟨ho, hz, its, rv, o2, e2, hc, n, hd⟩ := (show ObjOk X.prog X.w H s.heap a (.frz ot (.tup (ps.map V.ref))) from I.hok a _ hq)
  rw [ho] at e2
  cases e2
  have ei := refs_at rv
  subst ei
  rw [List.length_map] at hz
  obtain ⟨prs, vs, rel, hl, hu, hpr⟩ := pairs_at I hp
  have hzl : (vs.zip (prs.map (·.2))).length = ps.length := by rw [List.length_zip, List.length_map, hu, hl, Nat.min_self]
  refine PySem.call_dict_pairs (knd := mixKind X.prog X.w) (kvs := prs) (PySem.PairArg.tuple a (ps.map Value.ref).toArray (fun j => ps.getD j 0) (vs.zip (prs.map (·.2)))) (I.ok.hd hcalm) ⟨⟨ot, n, ho, hc, hdn, hd⟩, by simp [hzl], fun j k v e => ?_⟩ ⟨by rw [hzl, hl], fun i key v e => ?_⟩ (by rw [hzl]; exact hz) fun h' tk hd' k => ?_
  · obtain ⟨b, q', e1, e3, e4, e5, e6⟩ := hpr j k v e
    have eb : ps.getD j 0 = b := by rw [List.getD_eq_getElem?_getD, e1]; rfl
    refine ⟨?_, ?_⟩
    · dsimp only
      rw [eb]
      simp [e1]
    · dsimp only
      rw [eb]
      exact .inl e5
  · obtain ⟨b, q', e1, e3, e4, e5, e6⟩ := hpr i key v e
    exact ⟨q'.1, by rw [e3, e4], e6⟩
  · have hm : (s.heap.objs.size == sysModules) = false := beq_eq_false_iff_ne.mpr (Nat.ne_of_gt I.big)
    have hlen : (mergeK [] kvs).length ≤ sizeLine := by
      refine Nat.le_trans (length_mergeK kvs []) ?_
      rw [List.length_nil, Nat.zero_add, rel.length, hl]
      exact hz
    exact ⟨.ref s.heap.objs.size, upd H s.heap.objs.size (.dK (mergeK [] kvs)), I.laid (t' := tk) (fun b o e => k b o (fun z => nomatch z) e) (Nat.le_refl _) (show ObjOk X.prog X.w _ _ _ (.dK (mergeK [] kvs)) from ⟨hlen, hm, merged [] prs, KV.merge rel .nil, hd'⟩), rfl, q _ (I.hok.fresh (Nat.le_refl _))⟩
/-! ### sorted(d), sorted(d.items()) -/
theorem nd_map {α β : Type} {f : α → β} {l : List α} (h : (l.map f).Nodup) : l.Nodup := by
  have h1 : l.Pairwise fun a b => f a ≠ f b := List.pairwise_map.mp h
  exact h1.imp fun n e => n (by rw [e])
theorem pat {α β : Type} {F : α → β → Prop} : ∀ {l : List α} {m : List β} {j : Nat} {a : α}, Paired F l m → l[j]? = some a → ∃ b, m[j]? = some b ∧ F a b
  | _, _, _, _, .nil, h => by simp at h
  | _, _, 0, _, .cons r _, h => by
    simp at h
    subst h
    exact ⟨_, rfl, r⟩
  | _, _, j + 1, _, .cons _ t, h => by
    obtain ⟨b, h1, h2⟩ := pat (j := j) t (by simpa using h)
    exact ⟨b, by simpa using h1, h2⟩
theorem pget {α β : Type} {F : α → β → Prop} : ∀ {l : List α} {m : List β}, m.length = l.length → (∀ (j : Nat) (a : α) (b : β), l[j]? = some a → m[j]? = some b → F a b) → Paired F l m
  | [], [], _, _ => .nil
  | [], _ :: _, h, _ => by simp at h
  | _ :: _, [], h, _ => by simp at h
  | a :: l, b :: m, h, k => .cons (k 0 a b rfl rfl) (pget (by simpa using h) fun j x y hx hy => k (j + 1) x y (by simpa using hx) (by simpa using hy))
def rSoD : List V → Hp → VK → Prop := fun xs H Q => ∃ (a : Addr) (kvs : List (Key × V)) (ns : List Int), xs = [.ref a] ∧ H a = some (.dK kvs) ∧ kvs.map (·.1) = ns.map Sum.inl ∧
  ∀ (ys : List Int) (p : Addr), ys.Perm ns → ys.Pairwise (· ≤ ·) → ns.Nodup → H p = none → Q (.ref p) (upd H p (.lst (ys.map V.int)))
theorem call_sortedDI (hcalm : X.calm = true) : CallR X (.builtin "sorted") rSoD := by
  intro pins s σ H xs us Q I r q
  obtain ⟨a, kvs, ns, rfl, hd, hks, q⟩ := q
  obtain ⟨u, rfl, rx⟩ := vals1 r
  cases rx
  obtain ⟨z, lo, vs, rel, dd⟩ := dk_of I.hok hd
  obtain ⟨ep, hat⟩ := dd.dictAt
  have hkeys : vs.map (·.1) = ns.map Sum.inl := rel.keys.symm.trans hks
  have nd : ns.Nodup := by
    have h1 := hat.nodup
    rw [hkeys] at h1
    exact nd_map h1
  have hl : vs.length = ns.length := by
    have e := congrArg List.length hkeys
    rw [List.length_map, List.length_map] at e
    exact e
  have h16 : vs.length ≤ sizeLine := by rw [← rel.length]; exact z
  refine Calls.call_function_entry PyProof.Rows.kind_sorted PyProof.Rows.plain_sorted PyProof.Rows.entry_sorted (PyProof.Rows.args_sorted1 _) ?_
  unfold Builtin.«sorted»
  refine wpAny_bind (m := checkCount "sorted" 1 1 _) (wpAny_pure ?_)
  refine wpAny_bind (PySem.W.kdu_collect (A := X.A.in1) (PySem.W.kdl_dict (knd := mixKind X.prog X.w) (kvs := vs) (ep := ep) lo) (I.ok.hd hcalm) hat h16 fun h' tk acc hk hacc => ?_)
  have hal : acc.toList.length = vs.length := by rw [Array.length_toList, hacc.1]
  have hV : Vals (vs.map fun p => kV p.1) acc.toList := keys_at hal fun j v e => by
    obtain ⟨k, x, e1, e2⟩ := hacc.2 j v (by rw [← Array.getElem?_toList]; exact e)
    exact ⟨k, x, e1, e2⟩
  have hI : IntsAre acc.toList ns := by
    refine intsAre_of ?_
    have e : (vs.map fun p => kV p.1) = ns.map V.int := by
      rw [show (vs.map fun p => kV p.1) = (vs.map (·.1)).map kV by rw [List.map_map]; rfl, hkeys, List.map_map]
      rfl
    rw [← e]
    exact hV
  have I1 : Inv X pins σ H { s with heap := h', toks := tk } := I.kept hk
  have hz : acc.toList.length ≤ sizeLine := by rw [hal]; exact h16
  refine wpAny_bind (wpAny_newList ?_ hz)
  have hoL : (h'.push (seqObj "list" acc.toList.toArray 0)).get? h'.objs.size = some (seqObj "list" acc.toList.toArray 0) := Heap.get?_push_size _ rfl
  show wpAny _ _ _ _ _ { s with heap := h'.push (seqObj "list" acc.toList.toArray 0), toks := tk }
  refine wpAny_bind (wpAny_holding (wpAny_call_entry PyProof.Rows.slot_list_sort ⟨_, hoL, rfl⟩ PyProof.Rows.entry_list_sort
    (SrtO.list_sort_ord SrtO.swo_int (s := { s with heap := h'.push (seqObj "list" acc.toList.toArray 0), toks := tk }) hoL hz (fun h2 => SrtO.ints_sortable hI h2) fun out h1 h2 => ⟨_, rfl, ?_⟩) (PyProof.Rows.args_list_sort _)))
  obtain ⟨k1, k2, k3⟩ := SrtO.ints_out hI h1 h2
  obtain ⟨e', he'⟩ := PyProof.Rows.sortedHeap_at (vs := acc.toList) (out := out.toArray) hoL
  have hlen : ((out.map SrtO.iv).map V.int).length ≤ sizeLine := by
    rw [List.length_map, k2.length_eq, ← hl]
    exact h16
  refine wpAny_pure ⟨_, rfl, .ref h'.objs.size, upd H h'.objs.size (.lst ((out.map SrtO.iv).map V.int)), I1.laid (t' := tk) (fun b u e => ?_) (Nat.le_refl _)
    (show ObjOk X.prog X.w _ _ _ (.lst ((out.map SrtO.iv).map V.int)) from ⟨hlen, out, e', vals_of_ints k1, he'⟩), rfl, q _ _ k2 k3 nd (I1.hok.fresh (Nat.le_refl _))⟩
  have hb : b < h'.objs.size := Heap.lt_size e
  rw [PyProof.Rows.sortedHeap_old (Nat.ne_of_lt hb) (by rw [size_push']; exact Nat.lt_succ_of_lt hb)]
  exact Heap.get?_push_of_some _ e
def rItemsK : V → List V → Hp → VK → Prop := fun x xs H Q => ∃ (a : Addr) (kvs : List (Key × V)), x = .ref a ∧ xs = [] ∧ H a = some (.dK kvs) ∧ ∀ p, H p = none → Q (.ref p) (upd H p (DX.itemsO p a))
theorem mt_itemsK : MtR X "dict.items" rItemsK := by
  intro pins s σ H x xs v us Q I rx rxs h
  obtain ⟨a, kvs, rfl, rfl, ha, q⟩ := h
  cases rx
  cases rxs
  obtain ⟨z, hd, vs, rel, dd⟩ := dk_of I.hok ha
  obtain ⟨es, ep, hr, _⟩ := dd.raw
  refine DT.callItems (es := es) (ep := ep) hd hr ?_
  have hf : H s.heap.objs.size = none := I.hok.fresh (Nat.le_refl _)
  exact ⟨.ref s.heap.objs.size, upd H s.heap.objs.size (DX.itemsO s.heap.objs.size a), I.laid (t' := s.toks) (fun b u e => Heap.get?_push_of_some _ e) (Nat.le_refl _) (DX.itemsO_ok (Heap.get?_push_size _ rfl)), rfl, q _ hf⟩
theorem refs_of : ∀ {out : List Value}, (∀ v ∈ out, ∃ b, v = Value.ref b) → ∃ ts : List Addr, out = ts.map Value.ref
  | [], _ => ⟨[], rfl⟩
  | v :: r, h => by
    obtain ⟨b, rfl⟩ := h v List.mem_cons_self
    obtain ⟨ts, rfl⟩ := refs_of (out := r) fun u hu => h u (List.mem_cons_of_mem _ hu)
    exact ⟨b :: ts, rfl⟩
def adr : Value → Addr
  | .ref b => b
  | _ => 0
theorem perm_refs {ts as : List Addr} (h : (ts.map Value.ref).Perm (as.map Value.ref)) : ts.Perm as := by
  have e := h.map adr
  rw [List.map_map, List.map_map] at e
  have e1 : ∀ l : List Addr, l.map (adr ∘ Value.ref) = l := fun l => by
    induction l with
    | nil => rfl
    | cons a l ih => rw [List.map_cons, ih]; rfl
  rw [e1, e1] at e
  exact e
/-- the pair of ints at b -/
def kk (h : Heap) (b : Addr) : Int × Int := match h.get? b with
  | some ⟨_, _, .seq its _, _⟩ => (match its.toList with
    | [.int x _, .int y _] => (x, y)
    | _ => (0, 0))
  | _ => (0, 0)
def kv (h : Heap) : Value → Int × Int
  | .ref b => kk h b
  | _ => (0, 0)
def rSoI : List V → Hp → VK → Prop := fun xs H Q => ∃ (r a : Addr) (ms : List (Int × Int)), xs = [.ref r] ∧ H r = some (DX.itemsO r a) ∧ H a = some (.dK (ms.map fun p => (Sum.inl p.1, V.int p.2))) ∧
  ∀ (ts : List Addr) (ps : List (Int × Int)) (H2 : Hp) (p : Addr), Same H H2 → H p = none → H2 p = some (.lst (ts.map V.ref)) → ps.Perm ms → ps.Pairwise (fun p q => p.1 ≤ q.1) → (ms.map (·.1)).Nodup → Paired (fun t q => TupN H2 t [.int q.1, .int q.2]) ts ps → Q (.ref p) H2
theorem call_sortedIt (hcalm : X.calm = true) : CallR X (.builtin "sorted") rSoI := by
  intro pins s σ H xs us Q I r q
  obtain ⟨r0, a, ms, rfl, hv, hd, q⟩ := q
  obtain ⟨u, rfl, rx⟩ := vals1 r
  cases rx
  obtain ⟨z, lo, vs, rel, dd⟩ := dk_of I.hok hd
  obtain ⟨ep0, hat⟩ := dd.dictAt
  have hkeys : vs.map (·.1) = (ms.map (·.1)).map Sum.inl := by
    rw [← rel.keys, List.map_map, List.map_map]
    rfl
  have nd : (ms.map (·.1)).Nodup := by
    have h1 := hat.nodup
    rw [hkeys] at h1
    exact nd_map h1
  obtain ⟨es, ep, hr, hes, hek⟩ := dd.raw
  have hlen : vs.length = ms.length := by rw [← rel.length, List.length_map]
  rw [List.length_map] at z
  have hvw : s.heap.IsItemsView r0 a := (I.hok _ _ hv).1
  refine Calls.call_function_entry PyProof.Rows.kind_sorted PyProof.Rows.plain_sorted PyProof.Rows.entry_sorted (PyProof.Rows.args_sorted1 _) ?_
  unfold Builtin.«sorted»
  refine wpAny_bind (m := checkCount "sorted" 1 1 _) (wpAny_pure ?_)
  refine wpAny_bind (PySem.W.dil_collect (A := X.A.in1) (es := es) (ep := ep) (I.ok.hd hcalm) hvw hr (by rw [hes, hlen]; exact z) fun h' tk as hk hl hG => ?_)
  have pr : ∀ (j : Nat) (b : Addr), as[j]? = some b → ∃ (l n : Int) (t1 t2 : Tok), ms[j]? = some (l, n) ∧ h'.get? b = some { cls := .type "tuple", data := .seq #[.int l t1, .int n t2] } := by
    intro j b hj
    obtain ⟨hje, hb⟩ := hG.pairs j b hj
    have hjm : j < ms.length := by rw [← hlen, ← hes]; exact hje
    obtain ⟨q', hq', f1, f2⟩ := pat (j := j) rel (by rw [List.getElem?_map, List.getElem?_eq_getElem hjm]; rfl)
    obtain ⟨g1, g2⟩ := hek j hje _ _ hq'
    rw [← f1] at g1
    rcases keyIs_shape (show keyIs (Sum.inl ms[j].1) es[j].key = true from g1) with ⟨i, t, e1, e2⟩ | ⟨x, t, e1, e2⟩
    · obtain ⟨t2, e3⟩ := (show ∃ t, q'.2 = Value.int _ t from f2)
      injection e1 with e1
      refine ⟨ms[j].1, ms[j].2, t, t2, List.getElem?_eq_getElem hjm, ?_⟩
      rw [hb, e2, g2, e3, e1]
    · cases e1
  have kkp : ∀ (j : Nat) (b : Addr), as[j]? = some b → ms[j]? = some (kk h' b) := fun j b hj => by
    obtain ⟨l, n, t1, t2, e1, e2⟩ := pr j b hj
    unfold kk
    rw [e1, e2]
  have I1 : Inv X pins σ H { s with heap := h', toks := tk } := I.kept hk
  have lz : (as.map Value.ref).length ≤ sizeLine := by rw [List.length_map, hl, hes, hlen]; exact z
  refine wpAny_bind (wpAny_newList ?_ lz)
  have hoL : (h'.push (seqObj "list" (as.map Value.ref).toArray 0)).get? h'.objs.size = some (seqObj "list" (as.map Value.ref).toArray 0) := Heap.get?_push_size _ rfl
  show wpAny _ _ _ _ _ { s with heap := h'.push (seqObj "list" (as.map Value.ref).toArray 0), toks := tk }
  have isp : ∀ v ∈ as.map Value.ref, Srt.IsPair (h'.push (seqObj "list" (as.map Value.ref).toArray 0)) v (kv h' v).1 (kv h' v).2 := fun v hv => by
    obtain ⟨b, hb, rfl⟩ := List.mem_map.mp hv
    obtain ⟨j, hj⟩ := List.mem_iff_getElem?.mp hb
    obtain ⟨l, n, t1, t2, e1, e2⟩ := pr j b hj
    have e3 : kk h' b = (l, n) := Option.some.inj ((kkp j b hj).symm.trans e1)
    refine ⟨b, _, t1, t2, 0, rfl, Heap.get?_push_of_some _ e2, rfl, ?_⟩
    show Data.seq #[.int l t1, .int n t2] 0 = Data.seq #[.int (kk h' b).1 t1, .int (kk h' b).2 t2] 0
    rw [e3]
  refine wpAny_bind (wpAny_holding (wpAny_call_entry PyProof.Rows.slot_list_sort ⟨_, hoL, rfl⟩ PyProof.Rows.entry_list_sort
    (SrtO.list_sort_ord (SrtO.swo_lex (kv h')) (s := { s with heap := h'.push (seqObj "list" (as.map Value.ref).toArray 0), toks := tk }) hoL lz (fun h2 => SrtO.pairs_sortableO (s := { s with heap := h'.push (seqObj "list" (as.map Value.ref).toArray 0), toks := tk }) (by omega) isp fun o e => ?_) fun out h1 h2 => ⟨_, rfl, ?_⟩) (PyProof.Rows.args_list_sort _)))
  · have e' : some o = some (seqObj "list" (as.map Value.ref).toArray 0) := e.symm.trans hoL
    cases e'
    intro c
    exact absurd (Value.type.inj c) (by decide)
  obtain ⟨n', he'⟩ := PyProof.Rows.sortedHeap_at (vs := as.map Value.ref) (out := out.toArray) hoL
  have old : ∀ b o, h'.get? b = some o → (sortedHeap (h'.push (seqObj "list" (as.map Value.ref).toArray 0)) h'.objs.size (as.map Value.ref) out.toArray).get? b = some o := fun b o e => by
    have hb : b < h'.objs.size := Heap.lt_size e
    rw [PyProof.Rows.sortedHeap_old (Nat.ne_of_lt hb) (by rw [size_push']; exact Nat.lt_succ_of_lt hb)]
    exact Heap.get?_push_of_some _ e
  -- the addresses in the new order
  obtain ⟨ts, rfl⟩ : ∃ ts : List Addr, out = ts.map Value.ref := by
    refine refs_of fun v hv => ?_
    obtain ⟨b, _, e⟩ := List.mem_map.mp (h2.perm.mem_iff.mp hv)
    exact ⟨b, e.symm⟩
  have tperm : ts.Perm as := perm_refs h2.perm
  have asms : as.map (kk h') = ms := by
    refine List.ext_getElem? fun j => ?_
    rw [List.getElem?_map]
    cases e : as[j]? with
    | some b => exact (kkp j b e).symm
    | none =>
      have hj : as.length ≤ j := List.getElem?_eq_none_iff.mp e
      rw [hl, hes, hlen] at hj
      exact (List.getElem?_eq_none hj).symm
  have fresh : ∀ b ∈ as, H b = none := fun b hb => by
    refine I.hok.fresh (Nat.le_of_lt (hG.above b hb))
  have nB : h'.objs.size ∉ as := fun hm => by
    obtain ⟨j, hj⟩ := List.mem_iff_getElem?.mp hm
    obtain ⟨_, _, _, _, _, e2⟩ := pr j _ hj
    exact absurd (Heap.lt_size e2) (Nat.lt_irrefl _)
  have hB : H h'.objs.size = none := I1.hok.fresh (Nat.le_refl _)
  let HT : Hp := fun b => if b ∈ as then some (.frz ((h'.get? b).getD default) (.tup [.int (kk h' b).1, .int (kk h' b).2])) else H b
  have HTin : ∀ b, b ∈ as → HT b = some (.frz ((h'.get? b).getD default) (.tup [.int (kk h' b).1, .int (kk h' b).2])) := fun b hb => if_pos hb
  have HTout : ∀ b, b ∉ as → HT b = H b := fun b hb => if_neg hb
  have sm : Same H (upd HT h'.objs.size (.lst (ts.map V.ref))) := fun b o e => by
    rw [upd_ne (ne_of_none e hB), HTout b fun m => ?_]
    · exact e
    · rw [fresh b m] at e
      cases e
  have tn : ∀ b ∈ as, TupN (upd HT h'.objs.size (.lst (ts.map V.ref))) b [.int (kk h' b).1, .int (kk h' b).2] := fun b hb => by
    refine ⟨(h'.get? b).getD default, ?_, ?_⟩
    · rw [upd_ne (show b ≠ h'.objs.size from fun e => nB (e ▸ hb))]
      exact HTin b hb
    · obtain ⟨j, hj⟩ := List.mem_iff_getElem?.mp hb
      obtain ⟨_, _, _, _, _, e2⟩ := pr j b hj
      rw [e2]
      rfl
  refine wpAny_pure ⟨_, rfl, .ref h'.objs.size, upd HT h'.objs.size (.lst (ts.map V.ref)), Zl.many (s := s) (t' := tk) (H' := upd HT h'.objs.size (.lst (ts.map V.ref))) I (fun b o e => old b o (hk b o e)) sm (fun b n e => ?_) (fun b o n e => ?_), rfl,
    q ts (ts.map (kk h')) _ _ sm hB upd_same (by rw [← asms]; exact tperm.map _) ?_ nd ?_⟩
  · have lt : b < s.heap.objs.size := by
      cases z : s.heap.get? b with
      | none => exact absurd z e
      | some o => exact Heap.lt_size z
    have lt2 : b < h'.objs.size := by
      cases z : s.heap.get? b with
      | none => exact absurd z e
      | some o => exact Heap.lt_size (hk _ _ z)
    rw [upd_ne (Nat.ne_of_lt lt2), HTout b fun m => absurd (hG.above b m) (Nat.not_lt.mpr (Nat.le_of_lt lt))]
    exact n
  · by_cases hb : b = h'.objs.size
    · subst hb
      rw [upd_same] at e
      cases e
      refine ⟨?_, ts.map Value.ref, n', Zl.refVals ts, he'⟩
      rw [List.length_map, tperm.length_eq, hl, hes, hlen]
      exact z
    · rw [upd_ne hb] at e
      by_cases hm : b ∈ as
      · rw [HTin b hm] at e
        cases e
        obtain ⟨j, hj⟩ := List.mem_iff_getElem?.mp hm
        obtain ⟨l, m, t1, t2, e1, e2⟩ := pr j b hj
        have e3 : kk h' b = (l, m) := Option.some.inj ((kkp j b hj).symm.trans e1)
        rw [e2, e3]
        exact ⟨old _ _ e2, by show 2 ≤ sizeLine; rw [sizeLine_eq]; decide, [.int l t1, .int m t2], .cons ⟨t1, rfl⟩ (.cons ⟨t2, rfl⟩ .nil), _, old _ _ e2, rfl, _, rfl⟩
      · rw [HTout b hm, n] at e
        cases e
  · have h3 := List.pairwise_map.mp h1
    refine List.pairwise_map.mpr (h3.imp fun {x y} e => ?_)
    have e2 : SrtO.lexB (kk h' y) (kk h' x) = false := e
    refine Int.not_lt.mp fun lt => ?_
    rw [SrtO.lexB_iff.mpr (.inl lt)] at e2
    cases e2
  · refine pget (by rw [List.length_map]) fun j t q' ht hq' => ?_
    rw [List.getElem?_map, ht] at hq'
    cases hq'
    exact tn t (tperm.mem_iff.mp (List.mem_of_getElem? ht))
end
end Tn
/-! Data in the heap but for the object at a (the hand of the draws); what keeps it. -/
namespace Vd
open PySem PySem.Spec PyProof.Rows L2 Tn
def kD : Key → PyData
  | .inl i => .int i
  | .inr x => .str x
mutual
inductive Dd (K : PySem.W.Frag) (H : Hp) : V → PyData → Prop
  | non : Dd K H .non .none
  | bl (b : Bool) : Dd K H (.bl b) (.bool b)
  | int (i : Int) : Dd K H (.int i) (.int i)
  | str (x : Str) : Dd K H (.str x) (.str x)
  | lst {a : Addr} {xs : List V} {ds : List PyData} : SqL K H a xs → DdAll K H xs ds → Dd K H (.ref a) (.list ds)
  | tup {a : Addr} {xs : List V} {ds : List PyData} : TupN H a xs → DdAll K H xs ds → Dd K H (.ref a) (.tuple ds)
  | dct {a : Addr} {kvs : List (Key × V)} {ds : List (PyData × PyData)} : H a = some (.dK kvs) → DdKv K H kvs ds → Dd K H (.ref a) (.dict ds)
inductive DdAll (K : PySem.W.Frag) (H : Hp) : List V → List PyData → Prop
  | nil : DdAll K H [] []
  | cons {v : V} {vs : List V} {d : PyData} {ds : List PyData} : Dd K H v d → DdAll K H vs ds → DdAll K H (v :: vs) (d :: ds)
inductive DdKv (K : PySem.W.Frag) (H : Hp) : List (Key × V) → List (PyData × PyData) → Prop
  | nil : DdKv K H [] []
  | cons {k : Key} {v : V} {r : List (Key × V)} {d : PyData} {ds : List (PyData × PyData)} : Dd K H v d → DdKv K H r ds → DdKv K H ((k, v) :: r) ((kD k, d) :: ds)
end
mutual
theorem Dd.same {K : PySem.W.Frag} {H H' : Hp} (e : Same H H') : ∀ {v : V} {d : PyData}, Dd K H v d → Dd K H' v d
  | _, _, .non => .non
  | _, _, .bl b => .bl b
  | _, _, .int i => .int i
  | _, _, .str x => .str x
  | _, _, .lst h r => .lst (Same.seq e h) (DdAll.same e r)
  | _, _, .tup h r => .tup (TupN.same h e) (DdAll.same e r)
  | _, _, .dct h r => .dct (e _ _ h) (DdKv.same e r)
theorem DdAll.same {K : PySem.W.Frag} {H H' : Hp} (e : Same H H') : ∀ {vs : List V} {ds : List PyData}, DdAll K H vs ds → DdAll K H' vs ds
  | _, _, .nil => .nil
  | _, _, .cons h r => .cons (Dd.same e h) (DdAll.same e r)
theorem DdKv.same {K : PySem.W.Frag} {H H' : Hp} (e : Same H H') : ∀ {vs : List (Key × V)} {ds : List (PyData × PyData)}, DdKv K H vs ds → DdKv K H' vs ds
  | _, _, .nil => .nil
  | _, _, .cons h r => .cons (Dd.same e h) (DdKv.same e r)
end
def vis (a : Addr) (H : Hp) : Hp := fun b => if b = a then none else match H b with
  | some (.tbl _) => none
  | o => o
theorem vis_sub {a b : Addr} {H : Hp} {o : HO} (h : vis a H b = some o) : H b = some o ∧ b ≠ a ∧ ∀ ps, o ≠ .tbl ps := by
  unfold vis at h
  by_cases e : b = a
  · rw [if_pos e] at h
    cases h
  · rw [if_neg e] at h
    cases q : H b with
    | none =>
      rw [q] at h
      cases h
    | some u =>
      rw [q] at h
      cases u <;> first | (cases h; exact ⟨rfl, e, fun ps z => nomatch z⟩) | cases h
theorem vis_at {a b : Addr} {H : Hp} {o : HO} (h : H b = some o) (n : b ≠ a) (t : ∀ ps, o ≠ .tbl ps) : vis a H b = some o := by
  unfold vis
  rw [if_neg n, h]
  cases o <;> first | rfl | exact absurd rfl (t _)
theorem vis_same {a : Addr} {H : Hp} : Same (vis a H) H := fun _ _ h => (vis_sub h).1
/-- all that the data at H can lean on stands at H' too -/
def Kp (a : Addr) (H H' : Hp) : Prop := Same (vis a H) (vis a H')
theorem Kp.refl {a : Addr} {H : Hp} : Kp a H H := fun _ _ h => h
theorem Kp.trans {a : Addr} {H H1 H2 : Hp} (x : Kp a H H1) (y : Kp a H1 H2) : Kp a H H2 := fun b o h => y b o (x b o h)
theorem Kp.ext {a : Addr} {H H' : Hp} (k : ∀ b o, b ≠ a → (∀ ps, o ≠ .tbl ps) → H b = some o → H' b = some o) : Kp a H H' := fun b o h => by
  obtain ⟨h1, h2, h3⟩ := vis_sub h
  exact vis_at (k b o h2 h3 h1) h2 h3
theorem kp_same {a : Addr} {H H' : Hp} (s : Same H H') : Kp a H H' := Kp.ext fun b o _ _ h => s b o h
theorem kp_keep {a : Addr} {H H' : Hp} (s : Sw.Keep a H H') : Kp a H H' := Kp.ext fun b o n _ h => s b o n h
theorem kp_extN {a : Addr} {H H' : Hp} (s : LamX.ExtN H H') : Kp a H H' := Kp.ext fun b o _ t h => s b o h t
theorem same_up {H : Hp} {a : Addr} {o : HO} (n : H a = none) : Same H (upd H a o) := fun b u e => by
  rw [upd_ne (ne_of_none e n)]
  exact e
theorem kp_up {a p : Addr} {H : Hp} {o : HO} (n : H p = none) : Kp a H (upd H p o) := kp_same (same_up n)
/-- the place p is written again (it was new when H0 stood) -/
theorem kp_in {a p : Addr} {H H1 : Hp} {o : HO} (k : Kp a H H1) (n : H p = none) : Kp a H (upd H1 p o) := fun b u h => by
  obtain ⟨h1, h2, h3⟩ := vis_sub (k b u h)
  have e := (vis_sub h).1
  exact vis_at (by rw [upd_ne (ne_of_none e n)]; exact h1) h2 h3
variable {K : PySem.W.Frag} {a : Addr} {H H' : Hp}
abbrev Dv (a : Addr) (K : PySem.W.Frag) (H : Hp) (v : V) (d : PyData) : Prop := Dd K (vis a H) v d
abbrev DvAll (a : Addr) (K : PySem.W.Frag) (H : Hp) (vs : List V) (ds : List PyData) : Prop := DdAll K (vis a H) vs ds
theorem Dv.kp {v : V} {d : PyData} (h : Dv a K H v d) (k : Kp a H H') : Dv a K H' v d := Dd.same k h
theorem DvAll.kp {v : List V} {d : List PyData} (h : DvAll a K H v d) (k : Kp a H H') : DvAll a K H' v d := DdAll.same k h
theorem Dv.dd {v : V} {d : PyData} (h : Dv a K H v d) : Dd K H v d := Dd.same vis_same h
theorem tupN_vis {p : Addr} {xs : List V} (h : TupN (vis a H) p xs) : TupN H p xs := TupN.same h vis_same
theorem sqL_vis {p : Addr} {xs : List V} (h : SqL K (vis a H) p xs) : SqL K H p xs := Same.seq vis_same h
theorem Dv.tup {p : Addr} {xs : List V} {ds : List PyData} (h : TupN H p xs) (n : p ≠ a) (x : DvAll a K H xs ds) : Dv a K H (.ref p) (.tuple ds) := by
  obtain ⟨o, h1, h2⟩ := h
  exact Dd.tup ⟨o, vis_at h1 n (fun _ z => nomatch z), h2⟩ x
theorem Dv.lst {p : Addr} {xs : List V} {ds : List PyData} (h : H p = some (.lst xs)) (n : p ≠ a) (x : DvAll a K H xs ds) : Dv a K H (.ref p) (.list ds) := Dd.lst (SqL.of (vis_at h n fun _ z => nomatch z)) x
theorem Dv.ofTup {v : V} {ds : List PyData} (h : Dv a K H v (.tuple ds)) : ∃ p xs, v = .ref p ∧ TupN (vis a H) p xs ∧ DvAll a K H xs ds := by
  cases h with
  | tup h1 h2 => exact ⟨_, _, rfl, h1, h2⟩
theorem dall_len : ∀ {vs : List V} {ds : List PyData}, DdAll K H vs ds → vs.length = ds.length
  | _, _, .nil => rfl
  | _, _, .cons _ t => by rw [List.length_cons, List.length_cons, dall_len t]
theorem dall_at : ∀ {vs : List V} {ds : List PyData} {i : Nat} {d : PyData}, DdAll K H vs ds → ds[i]? = some d → ∃ v, vs[i]? = some v ∧ Dd K H v d
  | _, _, _, _, .nil, h => by simp at h
  | _, _, 0, _, .cons r _, h => by
    simp at h
    subst h
    exact ⟨_, rfl, r⟩
  | _, _, j + 1, _, .cons _ t, h => by
    obtain ⟨b, h1, h2⟩ := dall_at (i := j) t (by simpa using h)
    exact ⟨b, by simpa using h1, h2⟩
theorem dall_at' : ∀ {vs : List V} {ds : List PyData} {i : Nat} {v : V}, DdAll K H vs ds → vs[i]? = some v → ∃ d, ds[i]? = some d ∧ Dd K H v d
  | _, _, _, _, .nil, h => by simp at h
  | _, _, 0, _, .cons r _, h => by
    simp at h
    subst h
    exact ⟨_, rfl, r⟩
  | _, _, j + 1, _, .cons _ t, h => by
    obtain ⟨b, h1, h2⟩ := dall_at' (i := j) t (by simpa using h)
    exact ⟨b, by simpa using h1, h2⟩
theorem dall_app : ∀ {vs us : List V} {ds es : List PyData}, DdAll K H vs ds → DdAll K H us es → DdAll K H (vs ++ us) (ds ++ es)
  | _, _, _, _, .nil, h => h
  | _, _, _, _, .cons r t, h => .cons r (dall_app t h)
theorem dall_take : ∀ {vs : List V} {ds : List PyData} (n : Nat), DdAll K H vs ds → DdAll K H (vs.take n) (ds.take n)
  | _, _, 0, _ => by
    rw [List.take_zero, List.take_zero]
    exact .nil
  | _, _, n + 1, .nil => .nil
  | _, _, n + 1, .cons r t => .cons r (dall_take n t)
theorem dall_drop : ∀ {vs : List V} {ds : List PyData} (n : Nat), DdAll K H vs ds → DdAll K H (vs.drop n) (ds.drop n)
  | _, _, 0, h => h
  | _, _, n + 1, .nil => .nil
  | _, _, n + 1, .cons r t => dall_drop n t
theorem dall_mem : ∀ {vs : List V} {ds : List PyData} {v : V}, DdAll K H vs ds → v ∈ vs → ∃ d, d ∈ ds ∧ Dd K H v d
  | _, _, _, .nil, h => by cases h
  | _, _, _, .cons r t, h => by
    rcases List.mem_cons.mp h with h | h
    · subst h
      exact ⟨_, List.mem_cons_self, r⟩
    · obtain ⟨d, h1, h2⟩ := dall_mem t h
      exact ⟨d, List.mem_cons_of_mem _ h1, h2⟩
/-! ### isinstance of data -/
def tyD : PyData → String
  | .none => "NoneType"
  | .bool _ => "bool"
  | .int _ => "int"
  | .str _ => "str"
  | .list _ => "list"
  | .tuple _ => "tuple"
  | .dict _ => "dict"
theorem tyx {v : V} {d : PyData} (h : Dd K H v d) : TyX K H v (.type (tyD d)) := by
  cases h with
  | non => exact .base .non
  | bl b => exact .base (.bl b)
  | int i => exact .base (.int i)
  | str x => exact .base (.str x)
  | lst h _ =>
    rcases h with (h | ⟨o, h⟩) | ⟨o, _, _, h, c, _⟩
    · exact .base (.lst h)
    · exact .base (.frz h)
    · exact .kList h c
  | tup h _ =>
    obtain ⟨o, h1, _⟩ := h
    exact .fTuple h1
  | dct h _ => exact .base (.dK h)
theorem isi {v : V} {d : PyData} {n : String} {b : Bool} {Q : VK} (h : Dd K H v d) (e : kitB (tyD d) n = some b) (q : Q (.bl b) H) : rIsi K [v, .ty n] H Q := ⟨v, .ty n, _, _, b, rfl, .ty n, tyx h, kit_ty e, q⟩
def isI : PyData → Bool
  | .int _ => true
  | .bool _ => true
  | _ => false
def isB : PyData → Bool
  | .bool _ => true
  | _ => false
def isT : PyData → Bool
  | .tuple _ => true
  | _ => false
def isL : PyData → Bool
  | .list _ => true
  | _ => false
def isD : PyData → Bool
  | .dict _ => true
  | _ => false
def isS : PyData → Bool
  | .str _ => true
  | _ => false
theorem kI (d : PyData) : kitB (tyD d) "int" = some (isI d) := by cases d <;> (dsimp only [tyD, isI]; decide +kernel)
theorem kB (d : PyData) : kitB (tyD d) "bool" = some (isB d) := by cases d <;> (dsimp only [tyD, isB]; decide +kernel)
theorem kT (d : PyData) : kitB (tyD d) "tuple" = some (isT d) := by cases d <;> (dsimp only [tyD, isT]; decide +kernel)
theorem kL (d : PyData) : kitB (tyD d) "list" = some (isL d) := by cases d <;> (dsimp only [tyD, isL]; decide +kernel)
theorem kDi (d : PyData) : kitB (tyD d) "dict" = some (isD d) := by cases d <;> (dsimp only [tyD, isD]; decide +kernel)
theorem kS (d : PyData) : kitB (tyD d) "str" = some (isS d) := by cases d <;> (dsimp only [tyD, isS]; decide +kernel)
end Vd
namespace Sw
open PySem PySem.Spec PyProof.Rows L2 Tn Vd
theorem ty_cls {X : Cx} {n : String} {x : Str} {pos : Pos} (hm : X.mg x = none) (hg : Gl X x) (hb : bootBuiltins x = some (.type n)) (h : x ≠ "__name__" := by decide) (hd : (x == ("__debug__" : Str)) = false := by decide) : PE X (.Name x pos) (tC (.ty n)) := pe_bltn hg hm hb rfl h hd
def intD (d : PyData) : Bool := isI d && !isB d
def num0D (d : PyData) : Bool := intD d && (match d with
  | .int i => decide (0 ≤ i)
  | _ => false)
def fromD (d : PyData) : Bool := match d with
  | .int i => decide (0 < i)
  | _ => false
def lifeD (d : PyData) : Bool := match d with
  | .int i => decide (1 ≤ i) && decide (i ≤ 999)
  | _ => false
def tupOfD (lo hi : Int) (d : PyData) : Bool := match d with
  | .tuple ds => decide (lo ≤ (ds.length : Int)) && decide ((ds.length : Int) ≤ hi)
  | _ => false
def pairD (d : PyData) : Bool := match d with
  | .tuple [x, y] => lifeD x && fromD y
  | _ => false
theorem intD_of {d : PyData} (h : intD d = true) : ∃ i, d = .int i := by
  cases d with
  | int i => exact ⟨i, rfl⟩
  | _ => cases h
theorem dd_int {K : PySem.W.Frag} {H : Hp} {v : V} {i : Int} (h : Dd K H v (.int i)) : v = .int i := by
  cases h
  rfl
section
variable {P : Program} {w : World} {K : PySem.W.Frag} {mg : Str → Option Value} {base : Heap}
def spA (K : PySem.W.Frag) (g : PyData → Bool) : Sp := fun vs H Q _ => ∃ (v : V) (d : PyData), vs = [v] ∧ Dd K H v d ∧ Q (.bl (g d)) H
/-- what the module's names stand for -/
structure Nm (mg : Str → Option Value) : Prop where
  isinstance : mg "isinstance" = none
  int : mg "int" = none
  bool : mg "bool" = none
  tuple : mg "tuple" = none
  list : mg "list" = none
  dict : mg "dict" = none
  str : mg "str" = none
  len : mg "len" = none
  all : mg "all" = none
  zip : mg "zip" = none
  sorted : mg "sorted" = none
  max : mg "max" = none
  set : mg "set" = none
  range : mg "range" = none
  ValueError : mg "ValueError" = none
  last : ∃ t, mg "LAST_LIFE" = some (.int 999 t)
abbrev sInteger : Stmt := top 11
abbrev sNumber : Stmt := top 12
abbrev sTupleOf : Stmt := top 13
abbrev sRising : Stmt := top 14
abbrev sLife : Stmt := top 17
abbrev sFromOne : Stmt := top 18
abbrev sMark : Stmt := top 19
abbrev sMarkPair : Stmt := top 20
theorem sc1 {i : Nat} (h : FnScope ["thing"] ["thing"] (defScope (top i))) : FnScope ["thing"] ["thing"] (defScope (top i)) := h
theorem scInteger : FnScope ["thing"] ["thing"] (defScope sInteger) := ⟨rfl, rfl, rfl, by decide +kernel, rfl, by decide +kernel, by decide +kernel⟩
theorem ok_integer {f : Addr} {fd : FuncData} (F : FnP K "is_integer" sInteger f fd) (M : Nm mg) : FnOk P w K mg base CX0 1 f fd ["thing"] (spA K intD) := by
  refine F.ok scInteger (fun vs H Q E h => ?_) (fun cdv A outer s H vs Q E hr h => ?_)
  · obtain ⟨v, d, rfl, _⟩ := h
    rfl
  · obtain ⟨v, d, rfl, hd, q⟩ := h
    refine ⟨_, PSs.nox (pss_one (ps_ret (pe_and (pe_callB (id := "isinstance") (r := rIsi K) call_isi (by rfl) M.isinstance (by decide +kernel) (pa_cons (pv 0) (pa_cons (ty_cls (n := "int") M.int (by rfl) (by decide +kernel)) pa_nil))) (pe_one (pe_not (pe_callB (id := "isinstance") (r := rIsi K) call_isi (by rfl) M.isinstance (by decide +kernel) (pa_cons (pv 0) (pa_cons (ty_cls (n := "bool") M.bool (by rfl) (by decide +kernel)) pa_nil)))))))), ?_⟩
    refine ⟨_, rfl, _, _, _, _, _, rfl, .ty _, tyx hd, kit_ty (kI d), _, rfl, tst (fun e => ⟨_, rfl, _, _, _, _, _, rfl, .ty _, tyx hd, kit_ty (kB d), _, rfl, ?_⟩) fun e => ?_⟩
    · show Q (.bl (!isB d)) H
      have z := q
      unfold intD at z
      rw [e, Bool.true_and] at z
      exact z
    · show Q (.bl false) H
      have z := q
      unfold intD at z
      rw [e, Bool.false_and] at z
      exact z
theorem scNumber : FnScope ["thing"] ["thing"] (defScope sNumber) := ⟨rfl, rfl, rfl, by decide +kernel, rfl, by decide +kernel, by decide +kernel⟩
theorem ok_number {f : Addr} {fd : FuncData} (F : FnP K "is_number" sNumber f fd) (D1 : Df P w K mg base "is_integer" 1 ["thing"] (spA K intD)) : FnOk P w K mg base CX0 2 f fd ["thing"] (spA K num0D) := by
  refine F.ok scNumber (fun vs H Q E h => ?_) (fun cdv A outer s H vs Q E hr h => ?_)
  · obtain ⟨v, d, rfl, _⟩ := h
    rfl
  · obtain ⟨v, d, rfl, hd, q⟩ := h
    refine ⟨_, PSs.nox (pss_one (ps_ret (pe_and (pe_df D1 hr (by decide) (pa_cons (pv 0) pa_nil)) (pe_one (pe_cmpR op_ge (pv 0) pe_int (nomark _)))))), ?_⟩
    refine ⟨_, rfl, v, d, rfl, hd, _, rfl, tst (fun e => ?_) fun e => ?_⟩
    · obtain ⟨i, rfl⟩ := intD_of e
      cases dd_int hd
      exact ⟨_, rfl, _, _, rfl, rfl, q⟩
    · unfold num0D at q
      rw [e, Bool.false_and] at q
      exact q
theorem scFromOne : FnScope ["thing"] ["thing"] (defScope sFromOne) := ⟨rfl, rfl, rfl, by decide +kernel, rfl, by decide +kernel, by decide +kernel⟩
theorem ok_fromOne {f : Addr} {fd : FuncData} (F : FnP K "is_from_one" sFromOne f fd) (D2 : Df P w K mg base "is_number" 2 ["thing"] (spA K num0D)) : FnOk P w K mg base CX0 3 f fd ["thing"] (spA K fromD) := by
  refine F.ok scFromOne (fun vs H Q E h => ?_) (fun cdv A outer s H vs Q E hr h => ?_)
  · obtain ⟨v, d, rfl, _⟩ := h
    rfl
  · obtain ⟨v, d, rfl, hd, q⟩ := h
    refine ⟨_, PSs.nox (pss_one (ps_ret (pe_and (pe_df D2 hr (by decide) (pa_cons (pv 0) pa_nil)) (pe_one (pe_cmpR op_gt (pv 0) pe_int (nomark _)))))), ?_⟩
    refine ⟨_, rfl, v, d, rfl, hd, _, rfl, tst (fun e => ?_) fun e => ?_⟩
    · have e1 : intD d = true := by
        unfold num0D at e
        exact (Bool.and_eq_true_iff.mp e).1
      obtain ⟨i, rfl⟩ := intD_of e1
      cases dd_int hd
      exact ⟨_, rfl, _, _, rfl, rfl, q⟩
    · have z : fromD d = false := by
        cases d with
        | int i =>
          have z1 : decide (0 ≤ i) = false := e
          have z2 := of_decide_eq_false z1
          show decide (0 < i) = false
          exact decide_eq_false (by omega)
        | _ => rfl
      rw [z] at q
      exact q
theorem scLife : FnScope ["thing"] ["thing"] (defScope sLife) := ⟨rfl, rfl, rfl, by decide +kernel, rfl, by decide +kernel, by decide +kernel⟩
theorem ok_life {f : Addr} {fd : FuncData} (F : FnP K "is_life" sLife f fd) (M : Nm mg) (D1 : Df P w K mg base "is_integer" 1 ["thing"] (spA K intD)) : FnOk P w K mg base CX0 2 f fd ["thing"] (spA K lifeD) := by
  obtain ⟨tl, hl⟩ := M.last
  refine F.ok scLife (fun vs H Q E h => ?_) (fun cdv A outer s H vs Q E hr h => ?_)
  · obtain ⟨v, d, rfl, _⟩ := h
    rfl
  · obtain ⟨v, d, rfl, hd, q⟩ := h
    refine ⟨_, PSs.nox (pss_one (ps_ret (pe_and (pe_df D1 hr (by decide) (pa_cons (pv 0) pa_nil)) (pe_one (pe_chain op_le op_le pe_int (pv 0) (pe_glob (v := .int 999) (by rfl) hl ⟨tl, rfl⟩)))))), ?_⟩
    refine ⟨_, rfl, v, d, rfl, hd, _, rfl, tst (fun e => ?_) fun e => ?_⟩
    · obtain ⟨i, rfl⟩ := intD_of e
      cases dd_int hd
      refine ⟨_, rfl, _, _, rfl, rfl, _, rfl, tst (fun e2 => ⟨_, _, rfl, rfl, ?_⟩) fun e2 => ?_⟩
      · have z : (decide (1 ≤ i) && decide (i ≤ 999)) = decide (i ≤ 999) := by rw [show decide (1 ≤ i) = true from e2, Bool.true_and]
        have q2 : Q (.bl (decide (1 ≤ i) && decide (i ≤ 999))) H := q
        rw [z] at q2
        exact q2
      · have z : (decide (1 ≤ i) && decide (i ≤ 999)) = false := by rw [show decide (1 ≤ i) = false from e2, Bool.false_and]
        have q2 : Q (.bl (decide (1 ≤ i) && decide (i ≤ 999))) H := q
        rw [z] at q2
        exact q2
    · have z : lifeD d = false := by
        cases d with
        | int i => cases e
        | _ => rfl
      rw [z] at q
      exact q
def spTupOf (K : PySem.W.Frag) : Sp := fun vs H Q _ => ∃ (v : V) (d : PyData) (lo hi : Int), vs = [v, .int lo, .int hi] ∧ Dd K H v d ∧ Q (.bl (tupOfD lo hi d)) H
theorem scTupleOf : FnScope ["thing", "least", "most"] ["thing", "least", "most"] (defScope sTupleOf) := ⟨rfl, rfl, rfl, by decide +kernel, rfl, by decide +kernel, by decide +kernel⟩
theorem ok_tupleOf {f : Addr} {fd : FuncData} (F : FnP K "is_tuple_of" sTupleOf f fd) (M : Nm mg) : FnOk P w K mg base CX0 1 f fd ["thing", "least", "most"] (spTupOf K) := by
  refine F.ok scTupleOf (fun vs H Q E h => ?_) (fun cdv A outer s H vs Q E hr h => ?_)
  · obtain ⟨v, d, lo, hi, rfl, _⟩ := h
    rfl
  · obtain ⟨v, d, lo, hi, rfl, hd, q⟩ := h
    refine ⟨_, PSs.nox (pss_one (ps_ret (pe_and (pe_callB (id := "isinstance") (r := rIsi K) call_isi (by rfl) M.isinstance (by decide +kernel) (pa_cons (pv 0) (pa_cons (ty_cls (n := "tuple") M.tuple (by rfl) (by decide +kernel)) pa_nil))) (pe_one (pe_chain op_le op_le (pv 1) (pe_callB call_len_seq (by rfl) M.len PySem.boot_len (pa_cons (pv 0) pa_nil)) (pv 2)))))), ?_⟩
    refine ⟨_, rfl, _, _, _, _, _, rfl, .ty _, tyx hd, kit_ty (kT d), _, rfl, tst (fun e => ?_) fun e => ?_⟩
    · cases hd with
      | tup h0 h2 =>
        rename_i p xs ds
        have h1 := h0.sq (K := K)
        refine ⟨_, rfl, _, rfl, p, xs, rfl, .inr h1, _, _, rfl, rfl, _, rfl, tst (fun e2 => ⟨_, rfl, _, _, rfl, rfl, ?_⟩) fun e2 => ?_⟩
        · have q2 : Q (.bl (decide (lo ≤ (ds.length : Int)) && decide ((ds.length : Int) ≤ hi))) H := q
          rw [← dall_len h2, show decide (lo ≤ (xs.length : Int)) = true from e2, Bool.true_and] at q2
          exact q2
        · have q2 : Q (.bl (decide (lo ≤ (ds.length : Int)) && decide ((ds.length : Int) ≤ hi))) H := q
          rw [← dall_len h2, show decide (lo ≤ (xs.length : Int)) = false from e2, Bool.false_and] at q2
          exact q2
      | _ => cases e
    · have z : tupOfD lo hi d = false := by
        cases d with
        | tuple ds => cases e
        | _ => rfl
      rw [z] at q
      exact q
theorem scMarkPair : FnScope ["thing"] ["thing"] (defScope sMarkPair) := ⟨rfl, rfl, rfl, by decide +kernel, rfl, by decide +kernel, by decide +kernel⟩
theorem tup2 {d : PyData} (h : tupOfD 2 2 d = true) : ∃ x y, d = .tuple [x, y] := by
  cases d with
  | tuple ds =>
    obtain ⟨h1, h2⟩ := Bool.and_eq_true_iff.mp (show (decide ((2 : Int) ≤ (ds.length : Int)) && decide ((ds.length : Int) ≤ 2)) = true from h)
    have h3 := of_decide_eq_true h1
    have h4 := of_decide_eq_true h2
    match ds, h3, h4 with
    | [x, y], _, _ => exact ⟨x, y, rfl⟩
    | [], h3, _ => simp at h3
    | [_], h3, _ => simp at h3
    | _ :: _ :: _ :: _, _, h4 =>
      simp only [List.length_cons] at h4
      omega
  | _ => cases h
theorem ok_markPair {f : Addr} {fd : FuncData} (F : FnP K "is_mark_pair" sMarkPair f fd) (DT : Df P w K mg base "is_tuple_of" 1 ["thing", "least", "most"] (spTupOf K)) (DL : Df P w K mg base "is_life" 2 ["thing"] (spA K lifeD))
    (DN : Df P w K mg base "is_from_one" 3 ["thing"] (spA K fromD)) : FnOk P w K mg base CX0 4 f fd ["thing"] (spA K pairD) := by
  refine F.ok scMarkPair (fun vs H Q E h => ?_) (fun cdv A outer s H vs Q E hr h => ?_)
  · obtain ⟨v, d, rfl, _⟩ := h
    rfl
  · obtain ⟨v, d, rfl, hd, q⟩ := h
    refine ⟨_, PSs.nox (pss_one (ps_ret (pe_and (pe_df DT hr (by decide) (pa_cons (pv 0) (pa_cons pe_int (pa_cons pe_int pa_nil)))) (pe_and (pe_df DL hr (by decide) (pa_cons (pe_ix ix_tup (pv 0) pe_int (fun _ _ => rfl)) pa_nil)) (pe_one (pe_df DN hr (by decide) (pa_cons (pe_ix ix_tup (pv 0) pe_int (fun _ _ => rfl)) pa_nil))))))), ?_⟩
    refine ⟨_, rfl, v, d, 2, 2, rfl, hd, _, rfl, tst (fun e => ?_) fun e => ?_⟩
    · obtain ⟨x, y, rfl⟩ := tup2 e
      cases hd with
      | tup h0 h2 =>
        rename_i p xs
        have h1 := h0.sq (K := K)
        cases h2 with
        | @cons u us _ _ g1 g2 =>
        cases g2 with
        | @cons u2 us2 _ _ g3 g4 =>
        cases g4
        refine ⟨_, rfl, p, _, _, u, rfl, rfl, h1, atI_nat (j := 0) rfl, u, x, rfl, g1, _, rfl, tst (fun e2 => ?_) fun e2 => ?_⟩
        · refine ⟨_, rfl, p, _, _, u2, rfl, rfl, h1, atI_nat (j := 1) rfl, u2, y, rfl, g3, ?_⟩
          have q2 : Q (.bl (lifeD x && fromD y)) H := q
          rw [e2, Bool.true_and] at q2
          exact q2
        · have q2 : Q (.bl (lifeD x && fromD y)) H := q
          rw [e2, Bool.false_and] at q2
          exact q2
    · have z : pairD d = false := by
        cases d with
        | tuple ds =>
          unfold pairD
          split
          · rename_i x y e0
            cases e0
            cases e
          · rfl
        | _ => rfl
      rw [z] at q
      exact q
/-! ### is_rising, is_mark -/
def risingI (ns : List Int) : Bool := (ns.zip (ns.drop 1)).all fun p => decide (p.1 < p.2)
def fstI : PyData → Int
  | .tuple (.int i :: _) => i
  | _ => 0
def markD : PyData → Bool
  | .tuple ds => ds.all pairD && risingI (ds.map fstI)
  | _ => false
theorem cut1 (xs : List V) : cutV xs (some 1) none = xs.drop 1 := by
  unfold cutV
  have e : HT.sIx xs.length 0 (some 1) = min 1 xs.length := HT.sIx_nat _ _ 1
  rw [e, HT.sIx_none]
  cases xs with
  | nil => rfl
  | cons x r =>
    have e2 : min 1 (x :: r).length = 1 := by rw [List.length_cons]; omega
    rw [e2]
    show ((x :: r).drop 1).take ((x :: r).length - 1) = _
    exact List.take_of_length_le (by rw [List.length_drop]; omega)
theorem lc_zip {K : PySem.W.Frag} {a b : Addr} {xs ys : List V} {g : TG} {tt : TT} {te : TE} {vs : List Nat} {σ : L2.St} {H1 : Hp} {D : Addr} {Qd : Hp → Prop} (n : Nat) (hn : n = min xs.length ys.length) (Pv : Nat → Hp → Prop) (h0 : Pv 0 (upd H1 D (.lst []))) (hl : ∀ i H, Pv i H → SqL K H a xs ∧ SqL K H b ys)
    (hs : ∀ i x y T H, xs[i]? = some x → ys[i]? = some y → Pv i H → H T = none → g (.ref T) (wipe σ vs) (upd H T (.tup [x, y])) fun σ2 H2 => wipe σ2 vs = wipe σ vs ∧ tt σ2 H2 fun b H3 =>
      if b = true then te σ2 H3 fun y H4 => ∃ acc, H4 D = some (.lst acc) ∧ acc.length < sizeLine ∧ Pv (i + 1) (upd H4 D (.lst (acc ++ [y]))) else Pv (i + 1) H3) (hd : ∀ H, Pv n H → Qd H) :
    ∃ W : Nat → Nat → Hp → Prop, (∃ m, W 0 m (upd H1 D (.lst []))) ∧ ∀ i m H, W i m H →
      ((Itz K a b).stop i H ∧ Qd H) ∨ ((Itz K a b).go i H ∧ ∃ Nx : Hp → Prop, (∀ H', Nx H' → ∃ m', m' < m ∧ W (i + 1) m' H') ∧ ∀ x H', (Itz K a b).yld i H x H' → g x (wipe σ vs) H' fun σ2 H2 => wipe σ2 vs = wipe σ vs ∧ tt σ2 H2 fun b H3 =>
        if b = true then te σ2 H3 fun y H4 => ∃ acc, H4 D = some (.lst acc) ∧ acc.length < sizeLine ∧ Nx (upd H4 D (.lst (acc ++ [y]))) else Nx H3) := by
  refine ⟨fun i m H => m = n - i ∧ i ≤ n ∧ Pv i H, ⟨n, by simp, Nat.zero_le _, h0⟩, ?_⟩
  rintro i m H ⟨rfl, hi, p⟩
  obtain ⟨qx, qy⟩ := hl i H p
  by_cases hlt : i < n
  · have hx : xs[i]? = some xs[i] := List.getElem?_eq_getElem (by omega)
    have hy : ys[i]? = some ys[i] := List.getElem?_eq_getElem (by omega)
    refine .inr ⟨⟨xs, ys, _, _, qx, qy, hx, hy⟩, Pv (i + 1), fun H' p' => ⟨n - (i + 1), by omega, rfl, hlt, p'⟩, fun v H' z => ?_⟩
    obtain ⟨T, x, y, rfl, hT, rfl, z1, z2⟩ := z
    exact hs i x y T H (z1 _ qx) (z2 _ qy) p hT
  · have e : i = n := by omega
    subst e
    exact .inl ⟨⟨xs, ys, qx, qy, by omega⟩, hd H p⟩
theorem szl {n : Nat} {α : Type} {xs : List α} (h : xs.length ≤ sizeLine) (l : n < xs.length) : n < sizeLine := Nat.lt_of_lt_of_le l h
theorem scRising : FnScope ["keys", "low", "high"] ["keys"] (defScope sRising) := ⟨rfl, rfl, rfl, by decide +kernel, rfl, by decide +kernel, by decide +kernel⟩
def spRising (K : PySem.W.Frag) : Sp := fun vs H Q _ => ∃ (p : Addr) (ns : List Int), vs = [.ref p] ∧ H p = some (.lst (ns.map V.int)) ∧ ns.length ≤ sizeLine ∧ ∀ H', Same H H' → Q (.bl (risingI ns)) H'
theorem ok_rising {f : Addr} {fd : FuncData} (F : FnP K "is_rising" sRising f fd) (M : Nm mg) : FnOk P w K mg base CX0 1 f fd ["keys"] (spRising K) := by
  refine F.ok scRising (fun vs H Q E h => ?_) (fun cdv A outer s H vs Q E hr h => ?_)
  · obtain ⟨v, d, rfl, _⟩ := h
    rfl
  · obtain ⟨p, ns, rfl, hp, hz, q⟩ := h
    refine ⟨_, PSs.nox (pss_one (ps_ret (pe_callB (cr_all rfl) (by rfl) M.all (by decide +kernel) (pa_cons (pe_lc (own := [("low", 1), ("high", 2)]) (g := gTup K 2 (gCons (gName 1) (gCons (gName 2) gNil))) (tt := tYes) (by rfl) scRising.nd (pi_zip (by rfl) M.zip (pa_cons (pv 0) (pa_cons (pe_slice sl_list (pv 0) (po_some pe_int) po_none) pa_nil))) (blkOk_by (N := ["keys", "low", "high"]) (sc := defScope sRising) (by decide +kernel)) (fun _ _ _ _ _ => (pg_tup rfl (pgs_cons (pg_name (i := 1) scRising.nd rfl (Or.inl rfl)) (pgs_cons (pg_name (i := 2) scRising.nd rfl (Or.inl rfl)) pgs_nil)))) (fun _ _ _ _ _ => pts_nil) (fun _ _ _ _ _ => (pe_cmpR op_lt (pv 1) (pv 2) (nomark _)))) pa_nil)))), ?_⟩
    refine ⟨_, rfl, _, rfl, _, rfl, p, _, rfl, SqL.of hp, fun b hb => ?_⟩
    rw [cut1]
    have hp1 : (upd H b (.lst ((ns.map V.int).drop 1))) p = some (.lst (ns.map V.int)) := by rw [upd_ne (ne_of_none hp hb)]; exact hp
    have hb1 : (upd H b (.lst ((ns.map V.int).drop 1))) b = some (.lst ((ns.map V.int).drop 1)) := upd_same
    have s1 : Same H (upd H b (.lst ((ns.map V.int).drop 1))) := same_up hb
    generalize upd H b (.lst ((ns.map V.int).drop 1)) = H1 at hp1 hb1 s1 ⊢
    refine ⟨p, b, _, _, rfl, SqL.of hp1, SqL.of hb1, fun D hD => ?_⟩
    refine lc_zip (ns.zip (ns.drop 1)).length (by rw [List.length_zip, List.length_map, List.length_drop, List.length_drop, List.length_map]) (fun i H' => Same H1 H' ∧ H' D = some (.lst (((ns.zip (ns.drop 1)).take i).map fun p => V.bl (decide (p.1 < p.2))))) ⟨same_up hD, upd_same⟩ (fun i H' e => ⟨SqL.of (e.1 _ _ hp1), SqL.of (e.1 _ _ hb1)⟩) (fun i x y T H' hx hy e hT => ?_) (fun H2 e => ?_)
    · obtain ⟨n1, e1, rfl⟩ : ∃ n, ns[i]? = some n ∧ x = V.int n := by
        rw [List.getElem?_map] at hx
        obtain ⟨n, h1, h2⟩ := Option.map_eq_some_iff.mp hx
        exact ⟨n, h1, h2.symm⟩
      obtain ⟨n2, e2, rfl⟩ : ∃ n, (ns.drop 1)[i]? = some n ∧ y = V.int n := by
        rw [← List.map_drop, List.getElem?_map] at hy
        obtain ⟨n, h1, h2⟩ := Option.map_eq_some_iff.mp hy
        exact ⟨n, h1, h2.symm⟩
      refine ⟨T, _, rfl, .inl (.inl upd_same), rfl, _, _, rfl, _, _, rfl, rfl, rfl, _, rfl, _, rfl, _, _, rfl, rfl, ?_⟩
      have eD : (upd H' T (.tup [V.int n1, V.int n2])) D = some (.lst (((ns.zip (ns.drop 1)).take i).map fun p => V.bl (decide (p.1 < p.2)))) := by
        rw [upd_ne (ne_of_none e.2 hT)]
        exact e.2
      have ez : (ns.zip (ns.drop 1))[i]? = some (n1, n2) := by
        rw [List.getElem?_zip_eq_some]
        exact ⟨e1, e2⟩
      refine ⟨_, eD, ?_, ?_, ?_⟩
      · have l1 : i < ns.length := (List.getElem?_eq_some_iff.mp e1).1
        rw [List.length_map, List.length_take]
        exact Nat.lt_of_le_of_lt (Nat.min_le_left _ _) (Nat.lt_of_lt_of_le l1 hz)
      · intro c o z
        rw [upd_ne (ne_of_none z hD), upd_ne (ne_of_none (e.1 _ _ z) hT)]
        exact e.1 c o z
      · rw [upd_same, List.take_add_one, ez, List.map_append]
        rfl
    · refine ⟨D, (ns.zip (ns.drop 1)).map (fun p => decide (p.1 < p.2)), rfl, SqL.of ?_, ?_⟩
      · rw [e.2, List.take_of_length_le (Nat.le_refl _), List.map_map]
        rfl
      · have z := q H2 (s1.trans e.1)
        unfold risingI at z
        rw [List.all_map]
        exact z
theorem allB {α : Type} (l : List α) (g : α → Bool) : ((l.map g).all id) = l.all g := by
  rw [List.all_map]
  rfl
def topLen : PyData → Nat
  | .tuple ds => ds.length
  | .list ds => ds.length
  | _ => 0
theorem SqT.same {K : PySem.W.Frag} {H H' : Hp} {a : Addr} {xs : List V} (e : Same H H') (h : SqT K H a xs) : SqT K H' a xs := by
  rcases h with (h | ⟨o, h⟩) | h
  · exact .inl (.inl (e _ _ h))
  · exact .inl (.inr ⟨o, e _ _ h⟩)
  · exact .inr h
theorem dd_pair {K : PySem.W.Frag} {H : Hp} {v : V} {l n : Int} (h : Dd K H v (.tuple [.int l, .int n])) : ∃ p, v = .ref p ∧ SqT K H p [.int l, .int n] := by
  cases h with
  | @tup a xs _ h0 h2 =>
    have h1 := h0.sq (K := K)
    cases h2 with
    | cons g1 g2 =>
    cases g2 with
    | cons g3 g4 =>
    cases g4
    rw [dd_int g1, dd_int g3] at h1
    exact ⟨a, rfl, h1⟩
theorem scMark : FnScope ["thing", "pair"] ["thing"] (defScope sMark) := ⟨rfl, rfl, rfl, by decide +kernel, rfl, by decide +kernel, by decide +kernel⟩
def spMark (K : PySem.W.Frag) : Sp := fun vs H Q _ => ∃ (v : V) (d : PyData), vs = [v] ∧ Dd K H v d ∧ topLen d ≤ 4000 ∧ ∀ H', Same H H' → Q (.bl (markD d)) H'
theorem sqT_len {X : Cx} {pins : List (Addr × Obj)} {σ : L2.St} {H : Hp} {s : Shared} {p : Addr} {xs : List V} (I : Inv X pins σ H s) (h : SqT X.K H p xs) : xs.length ≤ sizeLine := (I.tuple h).elim fun _ z => z.2.2
theorem pair_shape {d : PyData} (h : pairD d = true) : ∃ l n : Int, d = .tuple [.int l, .int n] ∧ 1 ≤ l ∧ l ≤ 999 ∧ 0 < n := by
  unfold pairD at h
  split at h
  · rename_i x y
    obtain ⟨h1, h2⟩ := Bool.and_eq_true_iff.mp h
    cases x with
    | int l =>
      cases y with
      | int n =>
        obtain ⟨h3, h4⟩ := Bool.and_eq_true_iff.mp (show (decide (1 ≤ l) && decide (l ≤ 999)) = true from h1)
        exact ⟨l, n, rfl, of_decide_eq_true h3, of_decide_eq_true h4, of_decide_eq_true h2⟩
      | _ => cases h2
    | _ => cases h1
  · cases h
theorem ok_mark {f : Addr} {fd : FuncData} (F : FnP K "is_mark" sMark f fd) (M : Nm mg) (DP : Df P w K mg base "is_mark_pair" 4 ["thing"] (spA K pairD)) (DR : Df P w K mg base "is_rising" 1 ["keys"] (spRising K)) : FnOk P w K mg base CX0 5 f fd ["thing"] (spMark K) := by
  refine F.ok scMark (fun vs H Q E h => ?_) (fun cdv A outer s H vs Q E hr h => ?_)
  · obtain ⟨v, d, rfl, _⟩ := h
    rfl
  · obtain ⟨v, d, rfl, hd, hz, q⟩ := h
    refine ⟨_, PSs.nox (pss_cons (ps_if (PW.pt (pw_or (pt_not (pt_val (pe_callB (id := "isinstance") (r := rIsi K) call_isi (by rfl) M.isinstance (by decide +kernel) (pa_cons (pv 0) (pa_cons (ty_cls (n := "tuple") M.tuple (by rfl) (by decide +kernel)) pa_nil))))) (pw_or1 (pt_not (pt_val (pe_callB (cr_all rfl) (by rfl) M.all (by decide +kernel) (pa_cons (pe_lc (own := [("pair", 1)]) (g := gName 1) (tt := tYes) (by rfl) scMark.nd (pi_tup (pv 0)) (blkOk_by (N := ["thing", "pair"]) (sc := defScope sMark) (by decide +kernel)) (fun _ _ _ _ _ => pg_name (i := 1) scMark.nd rfl (Or.inl rfl)) (fun _ _ _ _ _ => pts_nil) (fun _ _ _ _ _ => (pe_df DP hr (by decide) (pa_cons (pv 1) pa_nil)))) pa_nil))))))) (pss_one (ps_ret pe_bl)) pss_nil)
      (pss_one (ps_ret (pe_df DR hr (by decide) (pa_cons (pe_lc (own := [("pair", 1)]) (g := gName 1) (tt := tYes) (by rfl) scMark.nd (pi_tup (pv 0)) (blkOk_by (N := ["thing", "pair"]) (sc := defScope sMark) (by decide +kernel)) (fun _ _ _ _ _ => pg_name (i := 1) scMark.nd rfl (Or.inl rfl)) (fun _ _ _ _ _ => pts_nil) (fun _ _ _ _ _ => (pe_ix (r := rIxT K) ix_tup (pv 1) pe_int (fun _ _ => rfl)))) pa_nil))))), ?_⟩
    refine ⟨_, rfl, _, _, _, _, _, rfl, .ty _, tyx hd, kit_ty (kT d), _, rfl, tst (fun e => ?_) fun e => ?_⟩
    · have z : markD d = false := by
        cases d with
        | tuple ds => cases e
        | _ => rfl
      have q2 := q H (Same.refl H)
      rw [z] at q2
      exact iteT q2
    · have e2 : isT d = true := by
        cases h : isT d with
        | true => rfl
        | false => rw [h] at e; cases e
      cases hd with
      | tup h0 h2 =>
        rename_i p xs ds
        have h1 := h0.sq (K := K)
        have hx0 : xs.length = ds.length := dall_len h2
        have hz2 : ds.length ≤ 4000 := hz
        refine ⟨_, rfl, p, rfl, ⟨_, h1⟩, fun D hD => ?_⟩
        refine lc_tup (xs := xs) (fun i H' => Same H H' ∧ H' D = some (.lst ((ds.take i).map fun d => V.bl (pairD d)))) ⟨same_up hD, upd_same⟩ (fun i H' _ e => SqT.same e.1 h1) (fun i x H' hx e => ?_) (fun H1 e => ?_)
        · obtain ⟨d, he, hd⟩ := dall_at' h2 hx
          refine ⟨rfl, _, rfl, x, d, rfl, Dd.same e.1 hd, _, e.2, ?_, ?_, ?_⟩
          · rw [List.length_map, List.length_take, sizeLine_eq]
            omega
          · intro c o z
            rw [upd_ne (ne_of_none z hD)]
            exact e.1 c o z
          · rw [upd_same, List.take_add_one, he, List.map_append]
            rfl
        have eD : H1 D = some (.lst ((ds.map pairD).map V.bl)) := by
          rw [e.2, hx0, List.take_of_length_le (Nat.le_refl _), List.map_map]
          rfl
        refine ⟨D, ds.map pairD, rfl, SqL.of eD, _, rfl, ?_⟩
        rw [allB]
        have s1 := e.1
        refine tst (fun e3 => ?_) fun e3 => ?_
        · have z : markD (.tuple ds) = false := by
            show (ds.all pairD && _) = false
            rw [show ds.all pairD = false by simpa using e3, Bool.false_and]
          have q2 := q H1 s1
          rw [z] at q2
          exact q2
        · have e4 : ds.all pairD = true := by simpa using e3
          refine ⟨_, rfl, p, rfl, ⟨_, SqT.same s1 h1⟩, fun D2 hD2 => ?_⟩
          refine lc_tup (xs := xs) (fun i H' => Same H1 H' ∧ H' D2 = some (.lst ((ds.take i).map fun d => V.int (fstI d)))) ⟨same_up hD2, upd_same⟩ (fun i H' _ e => SqT.same (s1.trans e.1) h1) (fun i x H' hx e => ?_) (fun H2 e => ?_)
          · obtain ⟨d, he, hd⟩ := dall_at' h2 hx
            obtain ⟨l, n, rfl, _⟩ := pair_shape (List.all_eq_true.mp e4 d (List.mem_of_getElem? he))
            obtain ⟨pp, rfl, hpp⟩ := dd_pair (Dd.same (s1.trans e.1) hd)
            refine ⟨rfl, _, rfl, pp, _, _, _, rfl, rfl, hpp, atI_nat (j := 0) rfl, _, e.2, ?_, ?_, ?_⟩
            · rw [List.length_map, List.length_take, sizeLine_eq]
              omega
            · intro c o z
              rw [upd_ne (ne_of_none z hD2)]
              exact e.1 c o z
            · rw [upd_same, List.take_add_one, he, List.map_append]
              rfl
          refine ⟨D2, ds.map fstI, rfl, ?_, ?_, fun H3 s3 => ?_⟩
          · rw [e.2, hx0, List.take_of_length_le (Nat.le_refl _), List.map_map]
            rfl
          · rw [List.length_map, sizeLine_eq]
            omega
          · have q2 := q H3 ((s1.trans e.1).trans s3)
            have z : markD (.tuple ds) = risingI (ds.map fstI) := by
              show (ds.all pairD && _) = _
              rw [e4, Bool.true_and]
            rw [z] at q2
            exact q2
      | _ => cases e2
/-! ### the law's own look -/
def dueL : Int → List PyData → Bool
  | _, [] => true
  | last, d :: r => match d with
    | .tuple [.int l, .int n] => decide (last < l) && (decide (l < 1000) && (!decide (n < 1) && dueL l r))
    | _ => false
abbrev sDueMark : Stmt := top 33
theorem scDueMark : FnScope ["thing", "last", "pair", "one"] ["thing"] (defScope sDueMark) := ⟨rfl, rfl, rfl, by decide +kernel, rfl, by decide +kernel, by decide +kernel⟩
def dueD : PyData → Bool
  | .tuple ds => dueL 0 ds
  | _ => false
theorem drop_cons {α : Type} {l : List α} {i : Nat} {x : α} (h : l[i]? = some x) : l.drop i = x :: l.drop (i + 1) := by
  obtain ⟨h1, h2⟩ := List.getElem?_eq_some_iff.mp h
  rw [← h2]
  exact List.drop_eq_getElem_cons h1
theorem due_bad {last : Int} {es r : List PyData} (h : es.length ≠ 2) : dueL last (.tuple es :: r) = false := by
  unfold dueL
  split
  · rename_i e
    cases e
    exact absurd rfl h
  · rfl
theorem due_int {last : Int} {c t : PyData} {r : List PyData} (h : (intD c && intD t) = false) : dueL last (.tuple [c, t] :: r) = false := by
  unfold dueL
  split
  · rename_i e
    cases e
    cases h
  · rfl
def spDue (K : PySem.W.Frag) : Sp := fun vs H Q _ => ∃ (v : V) (d : PyData), vs = [v] ∧ Dd K H v d ∧ topLen d ≤ 4000 ∧ ∀ H', Same H H' → Q (.bl (dueD d)) H'
theorem ok_due {f : Addr} {fd : FuncData} (F : FnP K "_law_is_due_mark" sDueMark f fd) (M : Nm mg) : FnOk P w K mg base CX0 1 f fd ["thing"] (spDue K) := by
  refine F.ok scDueMark (fun vs H Q E h => ?_) (fun cdv A outer s H vs Q E hr h => ?_)
  · obtain ⟨v, d, rfl, _⟩ := h
    rfl
  · obtain ⟨v, d, rfl, hd, hz, q⟩ := h
    refine ⟨_, PSs.nox (pss_cons (ps_if (pt_not (pt_val (pe_callB (id := "isinstance") (r := rIsi K) call_isi (by rfl) M.isinstance (by decide +kernel) (pa_cons (pv 0) (pa_cons (ty_cls (n := "tuple") M.tuple (by rfl) (by decide +kernel)) pa_nil))))) (pss_one (ps_ret pe_bl)) pss_nil)
      (pss_cons (ps_set (i := 1) scDueMark.nd rfl (Or.inl rfl) pe_int)
      (pss_cons (ps_for PassesOwn.never rfl (pi_tup (pv 0)) (pg_name (i := 2) scDueMark.nd rfl (Or.inl rfl)) (pss_cons (ps_if (PW.pt (pw_or (pt_not (pt_val (pe_callB (id := "isinstance") (r := rIsi K) call_isi (by rfl) M.isinstance (by decide +kernel) (pa_cons (pv 2) (pa_cons (ty_cls (n := "tuple") M.tuple (by rfl) (by decide +kernel)) pa_nil))))) (pw_or1 (pt_cmpR op_ne (pe_callB call_len_seq (by rfl) M.len PySem.boot_len (pa_cons (pv 2) pa_nil)) pe_int (nomark _))))) (pss_one (ps_ret pe_bl)) pss_nil)
      (pss_cons (ps_if (pt_not (pt_val (pe_callB (cr_all rfl) (by rfl) M.all (by decide +kernel) (pa_cons (pe_lc (own := [("one", 3)]) (g := gName 3) (tt := tYes) (by rfl) scDueMark.nd (pi_tup (pv 2)) (blkOk_by (N := ["thing", "last", "pair", "one"]) (sc := defScope sDueMark) (by decide +kernel)) (fun _ _ _ _ _ => pg_name (i := 3) scDueMark.nd rfl (Or.inl rfl)) (fun _ _ _ _ _ => pts_nil) (fun _ _ _ _ _ => (pe_and (pe_callB (id := "isinstance") (r := rIsi K) call_isi (by rfl) M.isinstance (by decide +kernel) (pa_cons (pv 3) (pa_cons (ty_cls (n := "int") M.int (by rfl) (by decide +kernel)) pa_nil))) (pe_one (pe_not (pe_callB (id := "isinstance") (r := rIsi K) call_isi (by rfl) M.isinstance (by decide +kernel) (pa_cons (pv 3) (pa_cons (ty_cls (n := "bool") M.bool (by rfl) (by decide +kernel)) pa_nil)))))))) pa_nil)))) (pss_one (ps_ret pe_bl)) pss_nil)
      (pss_cons (ps_if (PW.pt (pw_or (pt_not (pt_chain op_lt op_lt (pv 1) (pe_ix ix_tup (pv 2) pe_int (fun _ _ => rfl)) pe_int)) (pw_or1 (pt_cmpR op_lt (pe_ix ix_tup (pv 2) pe_int (fun _ _ => rfl)) pe_int (nomark _))))) (pss_one (ps_ret pe_bl)) pss_nil)
      (pss_one (ps_set (i := 1) scDueMark.nd rfl (Or.inl rfl) (pe_ix ix_tup (pv 2) pe_int (fun _ _ => rfl))))))))
      (pss_one (ps_ret pe_bl))))), ?_⟩
    refine ⟨_, rfl, _, _, _, _, _, rfl, .ty _, tyx hd, kit_ty (kT d), _, rfl, tst (fun e => ?_) fun e => ?_⟩
    · have z : dueD d = false := by
        cases d with
        | tuple ds => cases e
        | _ => rfl
      have q2 := q H (Same.refl H)
      rw [z] at q2
      exact q2
    have e2 : isT d = true := by
      cases h : isT d with
      | true => rfl
      | false => rw [h] at e; cases e
    clear e
    cases hd with
    | tup h0 h2 =>
      rename_i p xs ds
      have h1 := h0.sq (K := K)
      have hx0 : xs.length = ds.length := dall_len h2
      have hz2 : ds.length ≤ 4000 := hz
      refine ⟨_, rfl, p, rfl, ⟨_, h1⟩, ?_⟩
      refine for_tup (xs := xs) (fun i σ H' => Same H H' ∧ ∃ last x2 x3, σ = [some (.ref p), some (.int last), x2, x3] ∧ dueL 0 ds = dueL last (ds.drop i)) ⟨Same.refl H, 0, none, none, rfl, by rw [List.drop_zero]⟩ (fun i σ H' _ z => SqT.same z.1 h1) (fun i x σ H' hx z => ?_) (fun σ H' z => ?_)
      · obtain ⟨s1, last, x2, x3, rfl, ed⟩ := z
        obtain ⟨d, he, hd0⟩ := dall_at' h2 hx
        have hd := Dd.same s1 hd0
        rw [drop_cons he] at ed
        have bad {H2 : Hp} (s2 : Same H' H2) (z : dueL last (d :: ds.drop (i + 1)) = false) : Q (.bl false) H2 := by
          have q2 := q H2 (s1.trans s2)
          rw [show dueD (.tuple ds) = false from ed.trans z] at q2
          exact q2
        refine ⟨_, rfl, _, _, _, _, _, rfl, .ty _, tyx hd, kit_ty (kT d), _, rfl, tst (fun e => iteT (bad (Same.refl H') ?_)) fun e => ?_⟩
        · cases d with
          | tuple es => cases e
          | _ => rfl
        cases hd with
        | tup g0 g2 =>
          rename_i pp ys es
          have g1 := g0.sq (K := K)
          refine ⟨_, rfl, pp, ys, rfl, .inr g1, rfl, _, rfl, tst (fun e3 => bad (Same.refl H') ?_) fun e3 => ?_⟩
          · have ne : es.length ≠ 2 := fun z => by
              rw [dall_len g2, z] at e3
              cases e3
            exact due_bad ne
          have l2 : es.length = 2 := by
            have z1 : decide (V.int (ys.length : Int) = V.int 2) = true := by simpa using e3
            have z2 := of_decide_eq_true z1
            injection z2 with z2
            rw [← dall_len g2]
            omega
          obtain ⟨c, t, rfl⟩ : ∃ c t, es = [c, t] := by
            match es, l2 with
            | [c, t], _ => exact ⟨c, t, rfl⟩
          refine ⟨_, rfl, pp, rfl, ⟨_, g1⟩, fun D hD => ?_⟩
          refine lc_tup (xs := ys) (fun i H2 => Same H' H2 ∧ H2 D = some (.lst ((([c, t] : List PyData).take i).map fun d => V.bl (intD d)))) ⟨same_up hD, upd_same⟩ (fun i H2 _ e => SqT.same e.1 g1) (fun i x H2 hx e => ?_) (fun H1 e => ?_)
          · obtain ⟨d, he, hd⟩ := dall_at' g2 hx
            have hd2 := Dd.same e.1 hd
            have fin : ∃ acc, H2 D = some (.lst acc) ∧ acc.length < sizeLine ∧ (Same H' (upd H2 D (.lst (acc ++ [.bl (intD d)]))) ∧ (upd H2 D (.lst (acc ++ [.bl (intD d)]))) D = some (.lst ((([c, t] : List PyData).take (i + 1)).map fun d => V.bl (intD d)))) := by
              refine ⟨_, e.2, ?_, ?_, ?_⟩
              · rw [List.length_map, List.length_take, sizeLine_eq]
                exact Nat.lt_of_le_of_lt (Nat.min_le_right _ _) (by show 2 < 16777216; decide)
              · intro c o z
                rw [upd_ne (ne_of_none z hD)]
                exact e.1 c o z
              · rw [upd_same, List.take_add_one, he, List.map_append]
                rfl
            unfold intD at fin
            refine ⟨rfl, _, rfl, _, _, _, _, _, rfl, .ty _, tyx hd2, kit_ty (kI d), _, rfl, tst (fun e4 => ?_) fun e4 => ?_⟩
            · refine ⟨_, rfl, _, _, _, _, _, rfl, .ty _, tyx hd2, kit_ty (kB d), _, rfl, ?_⟩
              rw [e4] at fin
              exact fin
            · rw [e4] at fin
              exact fin
          have l3 : ys.length = 2 := (dall_len g2).trans rfl
          have eD : H1 D = some (.lst (([intD c, intD t]).map V.bl)) := by
            rw [e.2, l3]
            rfl
          have s2 := e.1
          refine ⟨D, _, rfl, SqL.of eD, _, rfl, tst (fun e4 => bad s2 ?_) fun e4 => ?_⟩
          · refine due_int (c := c) (t := t) ?_
            have e5 : (!(intD c && (intD t && true))) = true := e4
            rw [Bool.and_true] at e5
            cases h : (intD c && intD t) with
            | false => rfl
            | true => rw [h] at e5; cases e5
          have e5 : intD c = true ∧ intD t = true := by simpa using e4
          obtain ⟨l, rfl⟩ := intD_of e5.1
          obtain ⟨n, rfl⟩ := intD_of e5.2
          obtain ⟨_, hpe, g3⟩ := dd_pair (Dd.same s2 (.tup g0 g2))
          cases hpe
          refine ⟨_, rfl, _, rfl, pp, _, _, _, rfl, rfl, g3, atI_nat (j := 0) rfl, _, _, rfl, rfl, _, rfl, tst (fun e6 => ⟨_, _, rfl, rfl, _, rfl, tst (fun e7 => ?_) fun e7 => ?_⟩) fun e6 => ⟨_, rfl, iteT (bad s2 ?_)⟩⟩
          · refine iteT (bad s2 ?_)
            show (decide (last < l) && (decide (l < 1000) && (!decide (n < 1) && dueL l (ds.drop (i + 1))))) = false
            rw [show decide (l < 1000) = false by simpa using e7, Bool.false_and, Bool.and_false]
          · refine ⟨_, rfl, pp, _, _, _, rfl, rfl, g3, atI_nat (j := 1) rfl, _, _, rfl, rfl, _, rfl, tst (fun e8 => bad s2 ?_) fun e8 => ?_⟩
            · show (decide (last < l) && (decide (l < 1000) && (!decide (n < 1) && dueL l (ds.drop (i + 1))))) = false
              rw [show decide (n < 1) = true from e8]
              simp
            · refine ⟨_, rfl, pp, _, _, _, rfl, rfl, g3, atI_nat (j := 0) rfl, s1.trans s2, l, _, _, rfl, ed.trans ?_⟩
              show (decide (last < l) && (decide (l < 1000) && (!decide (n < 1) && dueL l (ds.drop (i + 1))))) = _
              rw [show decide (last < l) = true from e6, show decide (l < 1000) = true by simpa using e7, show decide (n < 1) = false from e8]
              rfl
          · show (decide (last < l) && (decide (l < 1000) && (!decide (n < 1) && dueL l (ds.drop (i + 1))))) = false
            rw [show decide (last < l) = false from e6, Bool.false_and]
        | _ => cases e
      · obtain ⟨s1, last, x2, x3, rfl, ed⟩ := z
        have q2 := q H' s1
        rw [hx0, List.drop_length] at ed
        rw [show dueD (.tuple ds) = true from ed] at q2
        exact q2
    | _ => cases e2

end
end Sw
/-! Marks as lists of pairs of ints. -/
namespace Sw
open PySem PySem.Spec PyProof.Rows L2 Tn Vd
theorem rising_cons (a b : Int) (r : List Int) : risingI (a :: b :: r) = (decide (a < b) && risingI (b :: r)) := by
  unfold risingI
  rfl
theorem due_char : ∀ (ds : List PyData) (last : Int), 0 ≤ last → dueL last ds = (ds.all pairD && risingI (last :: ds.map fstI))
  | [], last, _ => rfl
  | d :: r, last, h => by
    cases hp : pairD d with
    | false =>
      rw [List.all_cons, hp, Bool.false_and, Bool.false_and]
      unfold dueL
      split
      · rename_i l n
        have z : (lifeD (.int l) && fromD (.int n)) = false := hp
        have z2 : ((decide (1 ≤ l) && decide (l ≤ 999)) && decide (0 < n)) = false := z
        by_cases h1 : last < l
        · by_cases h2 : l < 1000
          · by_cases h3 : n < 1
            · simp [h3]
            · have e1 : decide (1 ≤ l) = true := decide_eq_true (by omega)
              have e2 : decide (l ≤ 999) = true := decide_eq_true (by omega)
              have e3 : decide (0 < n) = true := decide_eq_true (by omega)
              rw [e1, e2, e3] at z2
              cases z2
          · rw [decide_eq_false h2, Bool.false_and, Bool.and_false]
        · rw [decide_eq_false h1, Bool.false_and]
      · rfl
    | true =>
      obtain ⟨l, n, rfl, h1, h2, h3⟩ := pair_shape hp
      rw [List.all_cons, hp, Bool.true_and, List.map_cons]
      show (decide (last < l) && (decide (l < 1000) && (!decide (n < 1) && dueL l r))) = (r.all pairD && risingI (last :: l :: r.map fstI))
      rw [rising_cons, decide_eq_true (show l < 1000 by omega), decide_eq_false (show ¬ n < 1 by omega), due_char r l (by omega)]
      cases decide (last < l) <;> cases r.all pairD <;> simp
theorem mark_due (d : PyData) : markD d = dueD d := by
  cases d with
  | tuple ds =>
    show (ds.all pairD && risingI (ds.map fstI)) = dueL 0 ds
    rw [due_char ds 0 (by decide)]
    cases ds with
    | nil => rfl
    | cons d r =>
      cases hp : pairD d with
      | false => rw [List.all_cons, hp, Bool.false_and, Bool.false_and, Bool.false_and]
      | true =>
        obtain ⟨l, n, rfl, h1, h2, h3⟩ := pair_shape hp
        rw [List.map_cons]
        show (_ && risingI (l :: r.map fstI)) = (_ && risingI (0 :: l :: r.map fstI))
        rw [rising_cons, decide_eq_true (show (0 : Int) < l by omega), Bool.true_and]
  | _ => rfl
abbrev Mk : Type := List (Int × Int)
def mkD (p : Int × Int) : PyData := .tuple [.int p.1, .int p.2]
def tupD (ps : Mk) : PyData := .tuple (ps.map mkD)
structure IsMk (ps : Mk) : Prop where
  rise : ps.Pairwise fun p q => p.1 < q.1
  rng : ∀ p ∈ ps, 1 ≤ p.1 ∧ p.1 ≤ 999 ∧ 1 ≤ p.2
theorem due_iff : ∀ (ds : List PyData) (last : Int), dueL last ds = true ↔ ∃ ps : Mk, ds = ps.map mkD ∧ ps.Pairwise (fun p q => p.1 < q.1) ∧ ∀ p ∈ ps, last < p.1 ∧ p.1 ≤ 999 ∧ 1 ≤ p.2
  | [], last => ⟨fun _ => ⟨[], rfl, .nil, fun _ h => nomatch h⟩, fun _ => rfl⟩
  | d :: r, last => by
    constructor
    · intro h
      unfold dueL at h
      split at h
      · rename_i l n
        simp only [Bool.and_eq_true, decide_eq_true_eq, Bool.not_eq_true', decide_eq_false_iff_not] at h
        obtain ⟨h1, h2, h3, h4⟩ := h
        obtain ⟨ps, e, hp, hr⟩ := (due_iff r l).mp h4
        refine ⟨(l, n) :: ps, by rw [e]; rfl, .cons (fun q hq => (hr q hq).1) hp, fun p hp => ?_⟩
        rcases List.mem_cons.mp hp with rfl | hp
        · exact ⟨h1, by show l ≤ 999; omega, by show 1 ≤ n; omega⟩
        · obtain ⟨k1, k2, k3⟩ := hr p hp
          exact ⟨by omega, k2, k3⟩
      · cases h
    · rintro ⟨ps, e, hp, hr⟩
      cases ps with
      | nil => cases e
      | cons p ps =>
        rw [List.map_cons] at e
        injection e with e1 e2
        obtain ⟨p1, p2⟩ := List.pairwise_cons.mp hp
        obtain ⟨k1, k2, k3⟩ := hr p List.mem_cons_self
        have z := (due_iff r p.1).mpr ⟨ps, e2, p2, fun q hq => ⟨p1 q hq, (hr q (List.mem_cons_of_mem _ hq)).2⟩⟩
        rw [e1]
        show (decide (last < p.1) && (decide (p.1 < 1000) && (!decide (p.2 < 1) && dueL p.1 r))) = true
        rw [decide_eq_true k1, decide_eq_true (show p.1 < 1000 by omega), decide_eq_false (show ¬ p.2 < 1 by omega), z]
        rfl
theorem due_of {ps : Mk} (h : IsMk ps) : dueD (tupD ps) = true := (due_iff _ 0).mpr ⟨ps, rfl, h.rise, fun p hp => ⟨by have := (h.rng p hp).1; omega, (h.rng p hp).2⟩⟩
theorem of_due {d : PyData} (h : dueD d = true) : ∃ ps, IsMk ps ∧ d = tupD ps := by
  cases d with
  | tuple ds =>
    obtain ⟨ps, e, hp, hr⟩ := (due_iff ds 0).mp h
    exact ⟨ps, ⟨hp, fun p hm => ⟨by have := (hr p hm).1; omega, (hr p hm).2⟩⟩, by rw [e]; rfl⟩
  | _ => cases h
theorem len_rise : ∀ (ps : Mk) (last : Int), 0 ≤ last → last ≤ 999 → ps.Pairwise (fun p q => p.1 < q.1) → (∀ p ∈ ps, last < p.1 ∧ p.1 ≤ 999) → (ps.length : Int) ≤ 999 - last
  | [], last, _, h, _, _ => by show (0 : Int) ≤ 999 - last; omega
  | p :: r, last, h0, h, hp, hr => by
    obtain ⟨p1, p2⟩ := List.pairwise_cons.mp hp
    obtain ⟨k1, k2⟩ := hr p List.mem_cons_self
    have z := len_rise r p.1 (by omega) k2 p2 fun q hq => ⟨p1 q hq, (hr q (List.mem_cons_of_mem _ hq)).2⟩
    rw [List.length_cons]
    omega
theorem IsMk.len {ps : Mk} (h : IsMk ps) : ps.length ≤ 999 := by
  have := len_rise ps 0 (by decide) (by decide) h.rise fun p hp => ⟨by have := (h.rng p hp).1; omega, (h.rng p hp).2.1⟩
  omega
/-! ### the number of a life -/
def G (ps : Mk) (l : Int) : Int := match ps.find? fun p => decide (p.1 = l) with
  | some p => p.2
  | none => 0
theorem G_nil (l : Int) : G [] l = 0 := rfl
theorem G_cons (p : Int × Int) (r : Mk) (l : Int) : G (p :: r) l = if p.1 = l then p.2 else G r l := by
  unfold G
  rw [List.find?_cons]
  by_cases h : p.1 = l
  · rw [if_pos h, decide_eq_true h]
  · rw [if_neg h, decide_eq_false h]
theorem G_out : ∀ {ps : Mk} {l : Int}, (∀ p ∈ ps, p.1 ≠ l) → G ps l = 0
  | [], _, _ => rfl
  | p :: r, l, h => by
    rw [G_cons, if_neg (h p List.mem_cons_self)]
    exact G_out fun q hq => h q (List.mem_cons_of_mem _ hq)
theorem G_mem : ∀ {ps : Mk} {p : Int × Int}, (ps.map (·.1)).Nodup → p ∈ ps → G ps p.1 = p.2
  | [], _, _, h => nomatch h
  | q :: r, p, nd, h => by
    rw [List.map_cons] at nd
    obtain ⟨n1, n2⟩ := List.nodup_cons.mp nd
    rcases List.mem_cons.mp h with rfl | h
    · rw [G_cons, if_pos rfl]
    · rw [G_cons, if_neg fun e => n1 (by rw [e]; exact List.mem_map.mpr ⟨p, h, rfl⟩)]
      exact G_mem n2 h
theorem G_of {ps : Mk} {l : Int} (h : G ps l ≠ 0) : (l, G ps l) ∈ ps := by
  induction ps with
  | nil => exact absurd rfl h
  | cons p r ih =>
    rw [G_cons] at h ⊢
    by_cases e : p.1 = l
    · rw [if_pos e, ← e]
      exact List.mem_cons_self
    · rw [if_neg e] at h ⊢
      exact List.mem_cons_of_mem _ (ih h)
theorem IsMk.nodup {ps : Mk} (h : IsMk ps) : (ps.map (·.1)).Nodup := List.pairwise_map.mpr (h.rise.imp fun z e => by omega)
theorem IsMk.G_nn {ps : Mk} (h : IsMk ps) (l : Int) : 0 ≤ G ps l := by
  by_cases e : G ps l = 0
  · rw [e]
    exact Int.le_refl _
  · have := (h.rng _ (G_of e)).2.2
    omega
theorem IsMk.G_mem {ps : Mk} (h : IsMk ps) {p : Int × Int} (m : p ∈ ps) : G ps p.1 = p.2 := Sw.G_mem h.nodup m
theorem IsMk.mem_iff {ps : Mk} (h : IsMk ps) (p : Int × Int) : p ∈ ps ↔ G ps p.1 = p.2 ∧ p.2 ≠ 0 := by
  constructor
  · intro m
    exact ⟨h.G_mem m, by have := (h.rng p m).2.2; omega⟩
  · rintro ⟨e, n⟩
    have := G_of (ps := ps) (l := p.1) (by rw [e]; exact n)
    rw [e] at this
    exact this
theorem rise_eq : ∀ {ps qs : Mk}, ps.Pairwise (fun p q => p.1 < q.1) → qs.Pairwise (fun p q => p.1 < q.1) → (∀ p, p ∈ ps ↔ p ∈ qs) → ps = qs
  | [], [], _, _, _ => rfl
  | [], q :: r, _, _, h => nomatch (h q).mpr List.mem_cons_self
  | p :: r, [], _, _, h => nomatch (h p).mp List.mem_cons_self
  | p :: r, q :: t, hp, hq, h => by
    obtain ⟨p1, p2⟩ := List.pairwise_cons.mp hp
    obtain ⟨q1, q2⟩ := List.pairwise_cons.mp hq
    have e : p = q := by
      rcases List.mem_cons.mp ((h p).mp List.mem_cons_self) with e | m1
      · exact e
      · rcases List.mem_cons.mp ((h q).mpr List.mem_cons_self) with e | m2
        · exact e.symm
        · have := q1 p m1
          have := p1 q m2
          omega
    subst e
    refine congrArg (p :: ·) (rise_eq p2 q2 fun x => ⟨fun m => ?_, fun m => ?_⟩)
    · rcases List.mem_cons.mp ((h x).mp (List.mem_cons_of_mem _ m)) with e | m'
      · rw [e] at m
        exact absurd (p1 p m) (Int.lt_irrefl _)
      · exact m'
    · rcases List.mem_cons.mp ((h x).mpr (List.mem_cons_of_mem _ m)) with e | m'
      · rw [e] at m
        exact absurd (q1 p m) (Int.lt_irrefl _)
      · exact m'
theorem mk_eq {ps qs : Mk} (hp : IsMk ps) (hq : IsMk qs) (h : ∀ l, G ps l = G qs l) : ps = qs := rise_eq hp.rise hq.rise fun p => by rw [hp.mem_iff, hq.mem_iff, h]
/-! ### what lacks; both -/
def lackL (ps qs : Mk) : List (Int × Int × Int) := (qs.filter fun q => decide (G ps q.1 < q.2)).map fun q => (q.1, G ps q.1 + 1, q.2)
def triD (t : Int × Int × Int) : PyData := .tuple [.int t.1, .int t.2.1, .int t.2.2]
def trisD (ts : List (Int × Int × Int)) : PyData := .tuple (ts.map triD)
def withL (ts : List (Int × Int × Int)) : Mk := ts.map fun t => (t.1, t.2.2)
theorem with_lack (ps qs : Mk) : withL (lackL ps qs) = qs.filter fun q => decide (G ps q.1 < q.2) := by
  unfold withL lackL
  rw [List.map_map]
  exact (List.map_congr_left fun q _ => rfl).trans (List.map_id _)
theorem lack_nil {ps qs : Mk} (hp : IsMk ps) (hq : IsMk qs) : lackL ps qs = [] ↔ ∀ l, G qs l ≤ G ps l := by
  unfold lackL
  rw [List.map_eq_nil_iff, List.filter_eq_nil_iff]
  constructor
  · intro h l
    by_cases e : G qs l = 0
    · rw [e]
      exact hp.G_nn l
    · have := h _ (G_of e)
      simp only [decide_eq_true_eq] at this
      omega
  · intro h q m
    have e := hq.G_mem m
    have := h q.1
    simp only [decide_eq_true_eq]
    omega
/-- rs is what both hold -/
structure Jn (ps qs rs : Mk) : Prop where
  ok : IsMk rs
  at_ : ∀ l, G rs l = max (G ps l) (G qs l)
theorem Jn.uniq {ps qs rs rs' : Mk} (h : Jn ps qs rs) (h' : Jn ps qs rs') : rs = rs' := mk_eq h.ok h'.ok fun l => by rw [h.at_, h'.at_]
theorem Jn.symm {ps qs rs : Mk} (h : Jn ps qs rs) : Jn qs ps rs := ⟨h.ok, fun l => by rw [h.at_, Int.max_comm]⟩
theorem mk_filter {ps : Mk} (h : IsMk ps) (f : Int × Int → Bool) : IsMk (ps.filter f) := ⟨h.rise.filter f, fun p m => h.rng p ((List.mem_filter.mp m).1)⟩
theorem G_filter {ps : Mk} (h : IsMk ps) (f : Int × Int → Bool) (l : Int) : G (ps.filter f) l = if f (l, G ps l) = true then G ps l else 0 := by
  by_cases e : G ps l = 0
  · rw [G_out fun p m z => ?_, e]
    · split <;> rfl
    · have m2 := (List.mem_filter.mp m).1
      have := h.G_mem m2
      rw [z, e] at this
      have := (h.rng p m2).2.2
      omega
  · have m := G_of e
    by_cases hf : f (l, G ps l) = true
    · rw [if_pos hf]
      exact (mk_filter h f).G_mem (List.mem_filter.mpr ⟨m, hf⟩)
    · rw [if_neg hf]
      refine G_out fun p mp z => hf ?_
      obtain ⟨m2, f2⟩ := List.mem_filter.mp mp
      have := h.G_mem m2
      rw [← z, this]
      exact f2
/-- a mark with what it lacks of the other one -/
theorem jn_with {ps qs rs : Mk} (hp : IsMk ps) (hq : IsMk qs) (h : Jn ps (withL (lackL ps qs)) rs) : Jn ps qs rs := by
  refine ⟨h.ok, fun l => ?_⟩
  rw [h.at_, with_lack, G_filter hq]
  have := hp.G_nn l
  by_cases e : G ps l < G qs l
  · rw [if_pos (decide_eq_true e)]
  · rw [if_neg (by simpa using e)]
    omega
theorem holds_both {ps qs rs : Mk} (hp : IsMk ps) (hq : IsMk qs) (h : Jn ps qs rs) : lackL rs qs = [] := (lack_nil h.ok hq).mpr fun l => by
  rw [h.at_]
  omega
theorem holds_most {ts ps qs rs : Mk} (ht : IsMk ts) (hp : IsMk ps) (hq : IsMk qs) (h : Jn ps qs rs) : decide (lackL ts rs = []) = (decide (lackL ts ps = []) && decide (lackL ts qs = [])) := by
  have e : lackL ts rs = [] ↔ lackL ts ps = [] ∧ lackL ts qs = [] := by
    rw [lack_nil ht h.ok, lack_nil ht hp, lack_nil ht hq]
    constructor
    · intro k
      exact ⟨fun l => by have := k l; rw [h.at_] at this; omega, fun l => by have := k l; rw [h.at_] at this; omega⟩
    · rintro ⟨k1, k2⟩ l
      rw [h.at_]
      have := k1 l
      have := k2 l
      omega
  rw [← Bool.decide_and]
  exact decide_eq_decide.mpr e
/-! ### the dict of numbers -/
def fK (p : Int × Int) : Key × V := (Sum.inl p.1, V.int p.2)
def putM (ms : Mk) (l n : Int) : Mk := if (ms.any fun p => decide (p.1 = l)) = true then ms.map (fun p => if p.1 = l then (p.1, n) else p) else ms ++ [(l, n)]
theorem inl_dec (a b : Int) : decide ((Sum.inl a : Key) = Sum.inl b) = decide (a = b) := decide_eq_decide.mpr ⟨fun e => Sum.inl.inj e, fun e => by rw [e]⟩
theorem put_map (ms : Mk) (l n : Int) : putK (ms.map fK) (Sum.inl l) (.int n) = (putM ms l n).map fK := by
  unfold putK putM
  have e : ((ms.map fK).any fun kv => decide (kv.1 = Sum.inl l)) = ms.any fun p => decide (p.1 = l) := by
    rw [List.any_map]
    exact congrArg (List.any ms) (funext fun p => inl_dec p.1 l)
  rw [e]
  split
  · rw [List.map_map, List.map_map]
    refine List.map_congr_left fun p _ => ?_
    show (if (Sum.inl p.1 : Key) = Sum.inl l then ((Sum.inl p.1 : Key), V.int n) else fK p) = fK (if p.1 = l then (p.1, n) else p)
    by_cases h : p.1 = l
    · rw [if_pos h, if_pos (by rw [h])]
      rfl
    · rw [if_neg h, if_neg fun z => h (Sum.inl.inj z)]
  · rw [List.map_append]
    rfl
theorem val_map (ms : Mk) (l : Int) : valV (ms.map fK) (Sum.inl l) = (ms.find? fun p => decide (p.1 = l)).map fun p => V.int p.2 := by
  unfold valV
  rw [List.find?_map, Option.map_map]
  rw [show ((fun kv : Key × V => decide (kv.1 = Sum.inl l)) ∘ fK) = fun p => decide (p.1 = l) from funext fun p => inl_dec p.1 l]
  rfl
theorem val_get (ms : Mk) (l : Int) : (valV (ms.map fK) (Sum.inl l)).getD (.int 0) = .int (G ms l) := by
  rw [val_map]
  unfold G
  cases ms.find? fun p => decide (p.1 = l) <;> rfl
theorem G_put (ms : Mk) (l n j : Int) : G (putM ms l n) j = if j = l then n else G ms j := by
  have h1 := val_get (putM ms l n) j
  rw [← put_map, valV_put] at h1
  by_cases e : j = l
  · rw [if_pos (by rw [e])] at h1
    rw [if_pos e]
    injection h1 with h1
    exact h1.symm
  · rw [if_neg fun z => e (Sum.inl.inj z)] at h1
    rw [if_neg e]
    have h2 := val_get ms j
    rw [h1] at h2
    injection h2
theorem merge_app : ∀ (more acc : Mk), ((acc ++ more).map (·.1)).Nodup → mergeK (acc.map fK) (more.map fK) = (acc ++ more).map fK
  | [], acc, _ => by rw [List.append_nil]; rfl
  | p :: r, acc, nd => by
    have e : acc ++ p :: r = (acc ++ [p]) ++ r := by simp
    show mergeK (putK (acc.map fK) (Sum.inl p.1) (.int p.2)) (r.map fK) = _
    have no : valV (acc.map fK) (Sum.inl p.1) = none := by
      rw [val_map]
      cases h : acc.find? fun q => decide (q.1 = p.1) with
      | none => rfl
      | some q =>
        have h1 := List.find?_some h
        have h2 := List.mem_of_find?_eq_some h
        rw [List.map_append, List.map_cons] at nd
        have h3 := (List.nodup_append.mp nd).2.2
        exact absurd (of_decide_eq_true h1) (h3 q.1 (List.mem_map.mpr ⟨q, h2, rfl⟩) p.1 List.mem_cons_self)
    rw [putK_new _ no]
    have e2 : acc.map fK ++ [((Sum.inl p.1 : Key), V.int p.2)] = (acc ++ [p]).map fK := by
      rw [List.map_append]
      rfl
    rw [e2, merge_app r (acc ++ [p]) (by rw [← e]; exact nd), e]
theorem merge_mk {ps : Mk} (h : IsMk ps) : mergeK [] (ps.map fK) = ps.map fK := merge_app ps [] (by rw [List.nil_append]; exact h.nodup)
/-- the sorted items of the dict are the joined mark -/
theorem jn_sorted {ps qs ms rs : Mk} (hp : IsMk ps) (hq : IsMk qs) (hG : ∀ l, G ms l = max (G ps l) (G qs l)) (hm : ∀ m ∈ ms, 1 ≤ m.1 ∧ m.1 ≤ 999 ∧ 1 ≤ m.2) (nd : (ms.map (·.1)).Nodup) (pr : rs.Perm ms) (st : rs.Pairwise fun p q => p.1 ≤ q.1) : Jn ps qs rs := by
  have nd2 : (rs.map (·.1)).Nodup := (pr.map (·.1)).nodup_iff.mpr nd
  have ne : rs.Pairwise fun p q => p.1 ≠ q.1 := List.pairwise_map.mp nd2
  have rise : rs.Pairwise fun p q => p.1 < q.1 := (st.and ne).imp fun {x y} z => by
    have := z.1
    have := z.2
    omega
  have mk : IsMk rs := ⟨rise, fun p m => hm p (pr.mem_iff.mp m)⟩
  refine ⟨mk, fun l => ?_⟩
  rw [← hG l]
  by_cases e : G rs l = 0
  · by_cases e2 : G ms l = 0
    · rw [e, e2]
    · have m := pr.mem_iff.mpr (G_of e2)
      have := mk.G_mem m
      rw [e] at this
      exact absurd this.symm e2
  · exact (G_mem nd (pr.mem_iff.mp (G_of e))).symm
end Sw
/-! raise C(), C an own class whose __init__ (its own or an elder's) stores nothing. -/
namespace Nz
open PySem PySem.Spec PyProof.Rows L2
variable {X : Cx}
theorem mk_endN {pins : List (Addr × Obj)} {σ : L2.St} {H1 H2 : Hp} {hp hp2 h2 : Heap} {g1 g2 : Array GenState} {d1 d2 : Drawn} {t1 t2 : Nat} {os1 os2 : OsState} {a C : Addr} (I1 : Inv X pins σ H1 ⟨hp, g1, d1, t1, os1⟩)
    (ha : hp.objs.size ≤ a) (k : ∀ b o, hp.get? b = some o → hp2.get? b = some o) (un : Un (frs X.stack) [] (upd H1 a (exo a C none)) H2 hp2 h2) (hok : HOk X.prog X.w H2 h2) (ho : os2 = os1) (hb : AllBare g2)
    (ea : H2 a = some (exo a C none)) :
    ∃ (t0 : Addr) (G : Heap), Inv X pins σ (del H2 a) ⟨G, g2, d2, t2, os2⟩ ∧ (∀ b o, G.get? b = some o → h2.get? b = some o) ∧ G.get? a = none ∧
      h2.get? a = some ({ cls := .ref C, dict := none, data := .fields #[.ref t0, .none, .none, .none, .bool false, .none] } : Obj) := by
  obtain ⟨t0, hoe⟩ := exo_at hok ea
  have hn : H1 a = none := I1.hok.fresh ha
  obtain ⟨G, g1', g2'⟩ := restrict h2 fun b => decide (b ≠ a)
  have gk : ∀ b, b ≠ a → G.get? b = h2.get? b := fun b hb => g1' b (decide_eq_true hb)
  have ge : G.get? a = none := g2' a (by simp)
  have nha : ∀ {b : Addr} {o : Obj}, hp.get? b = some o → b ≠ a := fun {b o} z => Nat.ne_of_lt (Nat.lt_of_lt_of_le (Heap.lt_size z) ha)
  have up : ∀ {b : Addr}, b ≠ a → H1 b = none → upd H1 a (exo a C none) b = none := fun {b} hb n => by rw [upd_ne hb]; exact n
  have U : Un (frs X.stack) [] H1 (del H2 a) hp G := {
    keep := fun b o z n hf hx => by
      rw [gk b (nha z)]
      exact un.keep b o (k b o z) (up (nha z) n) hf hx
    slot := fun b o z n hf hx => by
      rw [gk b (nha z)]
      exact un.slot b o (k b o z) (up (nha z) n) hf hx
    free := fun b o z n hx => by
      rw [del_ne (nha z)]
      exact un.free b o (k b o z) (up (nha z) n) hx
    there := fun b o z hx => by
      rw [gk b (nha z)]
      exact un.there b o (k b o z) hx
    tups := fun b xs z => by
      rw [del_ne (ne_of_none z hn)]
      exact un.tups b xs (by rw [upd_ne (ne_of_none z hn)]; exact z)
    frzs := fun b o v z => by
      rw [del_ne (ne_of_none z hn)]
      exact un.frzs b o v (by rw [upd_ne (ne_of_none z hn)]; exact z)
    tbls := fun b ps z => by
      rw [del_ne (ne_of_none z hn)]
      exact un.tbls b ps (by rw [upd_ne (ne_of_none z hn)]; exact z) }
  have hok3 : HOk X.prog X.w (del H2 a) G := fun b o z => by
    have hba : b ≠ a := fun e => by
      rw [e, del_same] at z
      cases z
    rw [del_ne hba] at z
    have noa : ∀ {c : Addr}, H2 c = some (.own b) → c ≠ a := fun {c} hc => at_ne ea hc exo_own
    exact (hok b o z).stay (fun c v hc y => by
        have hca : c ≠ a := by
          rcases hc with hc | hc
          · rw [hc]
            exact hba
          · exact noa hc
        rw [gk c hca]
        exact y)
      (fun c hc => by rw [del_ne (noa hc)]; exact hc) (fun c xs hc => by rw [del_ne (at_ne ea hc exo_tup)]; exact hc)
  have J : Inv X pins σ (del H2 a) ⟨G, g2, d2, t2, os2⟩ := I1.call' (ch := []) ho U hok3 hb (fun b z => absurd z (by simp))
  refine ⟨t0, G, J, fun b o z => ?_, ge, hoe⟩
  by_cases hba : b = a
  · rw [hba, ge] at z
    cases z
  · exact (gk b hba).symm.trans z
theorem del_upd {H : Hp} {a : Addr} {o : HO} (h : H a = none) : del (upd H a o) a = H := funext fun b => by
  by_cases e : b = a
  · rw [e, del_same, h]
  · rw [del_ne e, upd_ne e]
def tRz (C : Addr) (sp : Sp) : L2.St → Hp → XK → Prop := fun _ H Q => ∀ a, H a = none → sp [.ref a] (upd H a (exo a C none)) (fun v H2 => v = .non ∧ H2 a = some (exo a C none) ∧ Q (.ref C) none (del H2 a)) E0
theorem pmk_oex0 {x : Str} {C fI : Addr} {k : Nat} {fd : FuncData} {ps : List Str} {sp : Sp} {p pos : Pos} (T : OexC X.K C) (iC : PySem.W.findIn X.K (.ref C) "__init__" = some (some (.ref fI))) (tI : PySem.W.typeIn X.K (.ref fI) = some (.type "function"))
    (F1 : FnOk X.prog X.w X.K X.mg X.base CX0 k fI fd ps sp) (hr : Room (k + 1) X.A) (hb : Binds X.K fd ps []) (hm : X.mg x = some (.ref C)) (hg : Gl X x := by rfl) (hdb : (x == ("__debug__" : Str)) = false := by decide) :
    PMk X (.Call (.Name x p) [] [] pos) (tRz C sp) := by
  intro pins s σ H Q I h
  obtain ⟨nm, q, N, bs, bm, sn, sub, ab, col, dd, k0, k1, k2, k3, k5, hC, hbm⟩ := T.cls
  refine wpAny_Call_Name_kw (ld_glob I hg hm ?_ hdb)
  refine PySem.W.callWith_K0 I.kIn T.kC ?_
  obtain ⟨hp, g, dr, tk, os⟩ := s
  have hsz : hp.objs.size ≤ hp.objs.size + 1 := Nat.le_succ _
  have hn : H (hp.objs.size + 1) = none := I.hok.fresh hsz
  have hq := h (hp.objs.size + 1) hn
  have kk : ∀ b o, hp.get? b = some o → ((hp.push (PySem.W.kdv_tup [])).push (PySem.HandSPX.excO C hp.objs.size)).get? b = some o := fun b o e => Heap.get?_push_of_some _ (Heap.get?_push_of_some _ e)
  have hget : ((hp.push (PySem.W.kdv_tup [])).push (PySem.HandSPX.excO C hp.objs.size)).get? (hp.objs.size + 1) = some (PySem.HandSPX.excO C hp.objs.size) := by heap_get
  have I2 : Inv X pins σ (upd H (hp.objs.size + 1) (exo (hp.objs.size + 1) C none)) ⟨(hp.push (PySem.W.kdv_tup [])).push (PySem.HandSPX.excO C hp.objs.size), g, dr, tk, os⟩ :=
    I.laid (t' := tk) (a := hp.objs.size + 1) (o := exo (hp.objs.size + 1) C none) (h' := (hp.push (PySem.W.kdv_tup [])).push (PySem.HandSPX.excO C hp.objs.size)) kk hsz (exo_ok hget)
  have r2 : Vals [V.ref (hp.objs.size + 1)] [Value.ref (hp.objs.size + 1)] := .cons rfl .nil
  have hl : ([Value.ref (hp.objs.size + 1)] ++ ([] : List Value)).length = ps.length := by
    have e := r2.length
    rw [F1.len _ _ _ _ hq] at e
    exact e.symm
  refine wpAny_call (PySem.HandSPX.call_own F.excBase_ValueError (fun Y => PySem.HandSPX.refsVE_contains Y bm hbm) (I.kIn _ _ hC) (PySem.W.looks_findIn I.kIn iC) (fun self => PySem.W.bind_fn I.kIn self tI) (Nat.zero_le _)
    (codeAny_mono (F1.run _ X.stack _ _ ⟨[Value.ref (hp.objs.size + 1)], []⟩ [Value.ref (hp.objs.size + 1)] _ _ (fun _ _ _ => False) (hr.make C [] []) (I2.env0.make C [] []) (hb _ [Value.ref (hp.objs.size + 1)] I2.kIn hl) r2 hq) fun r s' hq' => ?_))
  cases r with
  | error er => exact pass0 pins σ _ _ er s' I2 hq'
  | ok fl =>
    cases fl with
    | ret u =>
      obtain ⟨v, H2, os2, bare2, un2, hok2, rv, ev, ea, q2⟩ := hq'
      subst ev
      obtain ⟨h2, g2, d2, t2, os'⟩ := s'
      refine ⟨rv, ?_⟩
      obtain ⟨t0, G, J, kG, ge, hoe⟩ := mk_endN (d2 := d2) (t2 := t2) I hsz kk un2 hok2 os2 bare2 ea
      exact ⟨_, _, _, ⟨G, g2, d2, t2, os'⟩, _, .ref C, none, rfl, J, kG, ge, hoe, ⟨rfl, rfl⟩, rfl, rfl, del_same, rfl, bare2, raises_own T.exC T.tyC, q2⟩
    | next => exact False.elim hq'
    | brk => exact False.elim hq'
    | cont => exact False.elim hq'
end Nz
namespace Sw
open PySem PySem.Spec PyProof.Rows L2 Tn Vd Xv
section
variable {P : Program} {w : World} {K : PySem.W.Frag} {mg : Str → Option Value} {base : Heap}
def Live (a : Addr) (H : Hp) : Prop := ∃ xs, H a = some (.lst xs)
theorem Live.same {a : Addr} {H H' : Hp} (h : Live a H) (s : Same H H') : Live a H' := h.imp fun _ z => s _ _ z
theorem Live.neT {a p : Addr} {H : Hp} {xs : List V} (h : Live a H) (n : TupN H p xs) : p ≠ a := fun e => by
  obtain ⟨o, h⟩ := h
  obtain ⟨u, n, _⟩ := n
  rw [e, h] at n
  cases n
theorem Live.ne {a p : Addr} {H : Hp} (h : Live a H) (n : H p = none) : p ≠ a := fun e => by
  obtain ⟨o, h⟩ := h
  rw [e, h] at n
  cases n
/-- a def of the text that may raise, wherever it stands -/
def DfX (P : Program) (w : World) (K : PySem.W.Frag) (mg : Str → Option Value) (base : Heap) (x : Str) (k : Nat) (ps : List Str) (sp : Sp) : Prop :=
  ∃ (f : Addr) (fd : FuncData), mg x = some (.ref f) ∧ PySem.W.keepIn K (.ref f) = true ∧ Binds K fd ps [] ∧ FnOk P w K mg base (L2.CX P w) k f fd ps sp
theorem pe_dfX {X : Cx} {x : Str} {k j : Nat} {ps : List Str} {sp : Sp} {W : WX} {e : Expr} {es : List Expr} {ta : TA} {p pos : Pos} (D : DfX X.prog X.w X.K X.mg X.base x k ps sp) (tk : Takes X W) (hr : Room j X.A) (hj : k ≤ j) (ha : PA X (e :: es) ta) (hg : Gl X x := by rfl)
    (hdb : (x == ("__debug__" : Str)) = false := by decide) (he : starEach (e :: es) X.env = (false, eval e X.env) :: starEach es X.env := by rfl) (hpl : (backTo pos (starEach es X.env)).any (·.1) = false := by rfl) :
    PE X (.Call (.Name x p) (e :: es) [] pos) (tCallS sp (WE W) ta) := by
  obtain ⟨f, fd, hm, hk, hb, F⟩ := D
  exact pe_callS F (hr.mono hj) hg hm hk hb (fun σ => passAt tk σ) ha hdb he hpl
/-- of two marks; NoMark of what is none -/
def spTwo (K : PySem.W.Frag) (CM : Addr) (R : Addr → Mk → Mk → V → Hp → Prop) : Sp := fun vs H Q E => ∃ (a : Addr) (v1 v2 : V) (d1 d2 : PyData), vs = [v1, v2] ∧ Live a H ∧ Dv a K H v1 d1 ∧ Dv a K H v2 d2 ∧ topLen d1 ≤ 4000 ∧ topLen d2 ≤ 4000 ∧
  ((dueD d1 && dueD d2) = false → ∀ H', Same H H' → E (.ref CM) none H') ∧ ∀ ps qs, IsMk ps → IsMk qs → d1 = tupD ps → d2 = tupD qs → ∀ v H', Same H H' → R a ps qs v H' → Q v H'
theorem spTwo_len {CM : Addr} {R : Addr → Mk → Mk → V → Hp → Prop} {x y : Str} : ∀ vs H Q E, spTwo K CM R vs H Q E → vs.length = [x, y].length := fun vs H Q E h => by
  obtain ⟨a, v1, v2, d1, d2, rfl, _⟩ := h
  rfl
abbrev rCheck : Addr → Mk → Mk → V → Hp → Prop := fun _ _ _ v _ => v = .non
abbrev rLack (K : PySem.W.Frag) : Addr → Mk → Mk → V → Hp → Prop := fun a ps qs v H' => Dv a K H' v (trisD (lackL ps qs))
abbrev rHolds : Addr → Mk → Mk → V → Hp → Prop := fun _ ps qs v _ => v = .bl (decide (lackL ps qs = []))
abbrev rBoth (K : PySem.W.Frag) : Addr → Mk → Mk → V → Hp → Prop := fun a ps qs v H' => ∃ rs, Jn ps qs rs ∧ Dv a K H' v (tupD rs)
abbrev sCheck : Stmt := top 21
abbrev sHolds : Stmt := top 22
abbrev sBoth : Stmt := top 23
abbrev sLacking : Stmt := top 24
/-- the class NoMark -/
structure CM (K : PySem.W.Frag) (mg : Str → Option Value) (C fI : Addr) : Prop where
  oex : OexC K C
  init : PySem.W.findIn K (.ref C) "__init__" = some (some (.ref fI))
  tI : PySem.W.typeIn K (.ref fI) = some (.type "function")
  glo : mg "NoMark" = some (.ref C)
def sp0 : Sp := fun vs H Q _ => ∃ a : Addr, vs = [.ref a] ∧ Q .non H
def DI0 (P : Program) (w : World) (K : PySem.W.Frag) (mg : Str → Option Value) (base : Heap) (fI : Addr) : Prop := ∃ fd, FnOk P w K mg base CX0 1 fI fd ["self"] sp0 ∧ Binds K fd ["self"] []
theorem pmk_no {X : Cx} {C fI : Addr} {p pos : Pos} (c : CM X.K X.mg C fI) (D : DI0 X.prog X.w X.K X.mg X.base fI) (hr : Room 2 X.A) (hg : Gl X "NoMark" := by rfl) : PMk X (.Call (.Name "NoMark" p) [] [] pos) (Nz.tRz C sp0) := by
  obtain ⟨fd, F, hb⟩ := D
  exact Nz.pmk_oex0 c.oex c.init c.tI F hr hb c.glo hg
theorem rz_ok {σ : L2.St} {C : Addr} {H : Hp} {Q : XK} (q : Q (.ref C) none H) : Nz.tRz C sp0 σ H Q := fun a ha => ⟨a, rfl, rfl, upd_same, by rw [Nz.del_upd ha]; exact q⟩
theorem scCheck : FnScope ["mark", "other"] ["mark", "other"] (defScope sCheck) := ⟨rfl, rfl, rfl, by decide +kernel, rfl, by decide +kernel, by decide +kernel⟩
theorem ok_check {f C fI : Addr} {fd : FuncData} (F : FnP K "check_marks" sCheck f fd) (c : CM K mg C fI) (DI : DI0 P w K mg base fI) (DM : Df P w K mg base "is_mark" 5 ["thing"] (spMark K)) : FnOk P w K mg base (L2.CX P w) 6 f fd ["mark", "other"] (spTwo K C rCheck) := by
  refine F.ok (CX := L2.CX P w) scCheck spTwo_len (fun cdv A outer s H vs Q E hr h => ?_)
  obtain ⟨a, v1, v2, d1, d2, rfl, hl, h1, h2, z1, z2, no, yes⟩ := h
  have hr2 := hr.mono (j := 2) (by decide)
  refine ⟨_, (pss_one (ps_if (PW.pt (pw_or (pt_not (pt_val (pe_df DM hr (by decide) (pa_cons (pv 0) pa_nil)))) (pw_or1 (pt_not (pt_val (pe_df DM hr (by decide) (pa_cons (pv 1) pa_nil))))))) (pss_one (ps_raise rfl (takes_of rfl rfl rfl rfl) (pmk_no c DI hr2))) pss_nil)), ?_⟩
  refine ⟨_, rfl, v1, d1, rfl, h1.dd, z1, fun H1 s1 => ?_⟩
  rw [mark_due]
  refine ⟨_, rfl, tst (fun e => iteT ?_) fun e => ?_⟩
  · refine rz_ok (no ?_ H1 s1)
    rw [show dueD d1 = false by simpa using e, Bool.false_and]
  refine ⟨_, rfl, v2, d2, rfl, h2.dd.same s1, z2, fun H2 s2 => ?_⟩
  rw [mark_due]
  have s12 := s1.trans s2
  refine ⟨_, rfl, tst (fun e2 => ?_) fun e2 => ?_⟩
  · refine rz_ok (no ?_ H2 s12)
    rw [show dueD d2 = false by simpa using e2, Bool.and_false]
  · obtain ⟨ps, m1, r1⟩ := of_due (show dueD d1 = true by simpa using e)
    obtain ⟨qs, m2, r2⟩ := of_due (show dueD d2 = true by simpa using e2)
    exact yes ps qs m1 m2 r1 r2 .non H2 s12 rfl
/-! ### a mark in the heap -/
theorem tris_new {a p : Addr} {H : Hp} {xs : List V} {ds : List PyData} {o : Obj} (hl : Live a H) (n : H p = none) (ho : o.dict = none) (x : DvAll a K H xs ds) : Dv a K (upd H p (.frz o (.tup xs))) (.ref p) (.tuple ds) :=
  Dv.tup ⟨o, upd_same, ho⟩ (hl.ne n) (x.kp (kp_up n))
theorem dall_map {α : Type} {H : Hp} {f : α → PyData} : ∀ {vs : List V} {l : List α}, DdAll K H vs (l.map f) → Paired (fun v x => Dd K H v (f x)) vs l
  | [], [], _ => .nil
  | [], _ :: _, h => by cases h
  | _ :: _, [], h => by cases h
  | _ :: _, _ :: _, h => by
    rw [List.map_cons] at h
    cases h with
    | cons h1 h2 => exact .cons h1 (dall_map h2)
theorem map_dall {α : Type} {H : Hp} {f : α → PyData} : ∀ {vs : List V} {l : List α}, Paired (fun v x => Dd K H v (f x)) vs l → DdAll K H vs (l.map f)
  | _, _, .nil => .nil
  | _, _, .cons r t => .cons r (map_dall t)
theorem dd_mk {H : Hp} {v : V} {q : Int × Int} (h : Dd K H v (mkD q)) : ∃ p, v = .ref p ∧ TupN H p [.int q.1, .int q.2] := by
  cases h with
  | tup h0 h2 =>
    cases h2 with
    | cons g1 g2 =>
    cases g2 with
    | cons g3 g4 =>
    cases g4
    rw [dd_int g1, dd_int g3] at h0
    exact ⟨_, rfl, h0⟩
theorem mk_dd {H : Hp} {p : Addr} {q : Int × Int} (h : TupN H p [.int q.1, .int q.2]) : Dd K H (.ref p) (mkD q) := .tup h (.cons (.int _) (.cons (.int _) .nil))
theorem mk_refs {H : Hp} : ∀ {vs : List V} {l : Mk}, DdAll K H vs (l.map mkD) → ∃ ps : List Addr, vs = ps.map V.ref ∧ Paired (fun p q => TupN H p [.int q.1, .int q.2]) ps l
  | [], [], _ => ⟨[], rfl, .nil⟩
  | [], _ :: _, h => by cases h
  | _ :: _, [], h => by cases h
  | _ :: _, _ :: _, h => by
    rw [List.map_cons] at h
    cases h with
    | cons h1 h2 =>
    obtain ⟨p, rfl, hp⟩ := dd_mk h1
    obtain ⟨ps, rfl, hs⟩ := mk_refs h2
    exact ⟨p :: ps, rfl, .cons hp hs⟩
/-- a mark: its tuple, its pairs -/
structure MkAt (H : Hp) (v : V) (l : Mk) : Prop where
  ex : ∃ (p : Addr) (as : List Addr), v = .ref p ∧ TupN H p (as.map V.ref) ∧ Paired (fun b q => TupN H b [.int q.1, .int q.2]) as l
theorem mk_at {H : Hp} {v : V} {l : Mk} (h : Dd K H v (tupD l)) : MkAt H v l := by
  cases h with
  | tup h0 h2 =>
    obtain ⟨as, rfl, hs⟩ := mk_refs h2
    exact ⟨_, as, rfl, h0, hs⟩
theorem tup_len {l : Mk} (h : IsMk l) : topLen (tupD l) ≤ 4000 := by
  have := h.len
  show (l.map mkD).length ≤ 4000
  rw [List.length_map]
  omega
/-! ### lacking -/
theorem pair_fK {H : Hp} : ∀ {as : List Addr} {l : Mk}, Paired (fun b q => TupN H b [.int q.1, .int q.2]) as l → Paired (fun b (kv : Key × V) => TupN H b [kV kv.1, kv.2]) as (l.map fK)
  | _, _, .nil => .nil
  | _, _, .cons r t => .cons r (pair_fK t)
theorem mk_item {H : Hp} {as : List Addr} {l : Mk} {i : Nat} {x : V} (h : Paired (fun b q => TupN H b [.int q.1, .int q.2]) as l) (hx : (as.map V.ref)[i]? = some x) : ∃ t q, x = V.ref t ∧ l[i]? = some q ∧ TupN H t [.int q.1, .int q.2] := by
  rw [List.getElem?_map] at hx
  obtain ⟨t, h1, h2⟩ := Option.map_eq_some_iff.mp hx
  obtain ⟨q, h3, h4⟩ := pat h h1
  exact ⟨t, q, h2.symm, h3, h4⟩
theorem lack_snoc {ps qs : Mk} {i : Nat} {q : Int × Int} (h : qs[i]? = some q) : lackL ps (qs.take (i + 1)) = lackL ps (qs.take i) ++ (if decide (G ps q.1 < q.2) = true then [(q.1, G ps q.1 + 1, q.2)] else []) := by
  unfold lackL
  rw [List.take_add_one, h, List.filter_append, List.map_append]
  congr 1
  by_cases c : decide (G ps q.1 < q.2) = true
  · rw [if_pos c]
    have c2 := of_decide_eq_true c
    show List.map _ (List.filter _ [q]) = _
    simp [c2]
  · rw [if_neg c]
    have c2 : ¬ G ps q.1 < q.2 := fun z => c (decide_eq_true z)
    show List.map _ (List.filter _ [q]) = _
    simp [c2]
theorem pair_snoc {α β : Type} {F : α → β → Prop} : ∀ {l : List α} {m : List β} {a : α} {b : β}, Paired F l m → F a b → Paired F (l ++ [a]) (m ++ [b])
  | _, _, _, _, .nil, h => .cons h .nil
  | _, _, _, _, .cons r t, h => .cons r (pair_snoc t h)
theorem at_ne' {H : Hp} {b D : Addr} {o : Obj} {u : HO} {xs : List V} (h : H b = some (.frz o u)) (e : H D = some (.lst xs)) : b ≠ D := fun z => by
  rw [z, e] at h
  cases h
theorem tri_all {a : Addr} {H : Hp} : ∀ {bs : List Addr} {ts : List (Int × Int × Int)}, Paired (fun b (t : Int × Int × Int) => TupN H b [.int t.1, .int t.2.1, .int t.2.2] ∧ b ≠ a) bs ts → DvAll a K H (bs.map V.ref) (ts.map triD)
  | _, _, .nil => .nil
  | _, _, .cons r t => .cons (Dv.tup r.1 r.2 (.cons (.int _) (.cons (.int _) (.cons (.int _) .nil)))) (tri_all t)
theorem scLacking : FnScope ["mark", "other", "numbers", "life", "last"] ["mark", "other"] (defScope sLacking) := ⟨rfl, rfl, rfl, by decide +kernel, rfl, by decide +kernel, by decide +kernel⟩
theorem ok_lacking {f C : Addr} {fd : FuncData} (F : FnP K "lacking" sLacking f fd) (M : Nm mg) (DC : DfX P w K mg base "check_marks" 6 ["mark", "other"] (spTwo K C rCheck)) : FnOk P w K mg base (L2.CX P w) 7 f fd ["mark", "other"] (spTwo K C (rLack K)) := by
  refine F.ok (CX := L2.CX P w) scLacking spTwo_len (fun cdv A outer s H vs Q E hr h => ?_)
  obtain ⟨a, v1, v2, d1, d2, rfl, hl, h1, h2, z1, z2, no, yes⟩ := h
  have hu : (A.deeper (envOfC "lacking" (defScope sLacking) s.heap.objs.size f cdv)).units + 1 < cLine := by
    have := hr.units
    omega
  refine ⟨_, (pss_cons (ps_expr (pe_dfX DC (takes_of rfl rfl rfl rfl) hr (by decide) (pa_cons (pv 0) (pa_cons (pv 1) pa_nil))))
      (pss_cons (ps_set (i := 2) scLacking.nd rfl (Or.inr rfl) (pe_callTy (call_dictT rfl) (by rfl) M.dict (by decide +kernel) (pa_cons (pv 0) pa_nil)))
      (pss_one (ps_ret (pe_tof (by rfl) M.tuple (pe_lc (own := [("life", 3), ("last", 4)]) (g := gTup K 2 (gCons (gName 3) (gCons (gName 4) gNil))) (by rfl) scLacking.nd (pi_tup (pv 1)) (blkOk_by (N := ["mark", "other", "numbers", "life", "last"]) (sc := defScope sLacking) (by decide +kernel)) (fun _ _ _ _ _ => (pg_tup rfl (pgs_cons (pg_name (i := 3) scLacking.nd rfl (Or.inl rfl)) (pgs_cons (pg_name (i := 4) scLacking.nd rfl (Or.inl rfl)) pgs_nil)))) (fun _ _ _ _ _ => pts_one (pt_cmpR op_gt (pv 4) (pe_dget2 hu (pv 2) (pv 3) pe_int ⟨by rfl, by rfl, by rfl, by rfl⟩) (nomark _))) (fun _ _ _ _ _ => (pe_tupF (pa_cons (pv 3) (pa_cons (pe_op op_add (pe_dget2 hu (pv 2) (pv 3) pe_int ⟨by rfl, by rfl, by rfl, by rfl⟩) pe_int) (pa_cons (pv 4) pa_nil))))))))))), ?_⟩
  refine ⟨_, rfl, _, rfl, a, v1, v2, d1, d2, rfl, hl, h1, h2, z1, z2, no, fun ps qs m1 m2 e1 e2 v H1 s1 ev => ?_⟩
  subst e1
  subst e2
  obtain ⟨p1, as1, rfl, t1, w1⟩ := (mk_at (h1.dd.same s1)).ex
  obtain ⟨p2, as2, rfl, t2, w2⟩ := (mk_at (h2.dd.same s1)).ex
  have hl1 := hl.same s1
  refine ⟨_, rfl, p1, as1, ps.map fK, rfl, t1, pair_fK w1, fun d hd => ?_⟩
  rw [merge_mk m1]
  have s2 : Same H1 (upd H1 d (.dK (ps.map fK))) := same_up hd
  have ed : (upd H1 d (.dK (ps.map fK))) d = some (.dK (ps.map fK)) := upd_same
  generalize upd H1 d (.dK (ps.map fK)) = H2 at s2 ed ⊢
  have t2' := t2.same s2
  have hl2 := hl1.same s2
  refine ⟨_, rfl, p2, rfl, ⟨_, t2'.sq⟩, fun D hD => ?_⟩
  refine lc_tup (xs := as2.map V.ref) (fun i H' => Same H2 H' ∧ ∃ bs : List Addr, H' D = some (.lst (bs.map V.ref)) ∧ Paired (fun b (t : Int × Int × Int) => TupN H' b [.int t.1, .int t.2.1, .int t.2.2] ∧ b ≠ a) bs (lackL ps (qs.take i)))
    ⟨same_up hD, [], upd_same, .nil⟩ (fun i H' _ e => (t2'.same e.1).sq) (fun i x H' hx e => ?_) (fun H3 e => ?_)
  · obtain ⟨se, bs, eD, pb⟩ := e
    obtain ⟨t, q, rfl, hq, ht⟩ := mk_item w2 hx
    have ht2 := (ht.same s2).same se
    have ed2 := se _ _ ed
    have lb : bs.length ≤ 999 := by
      rw [Paired.length pb]
      refine Nat.le_trans ?_ m2.len
      unfold lackL
      rw [List.length_map]
      refine Nat.le_trans (List.length_filter_le _ _) ?_
      rw [List.length_take]
      exact Nat.min_le_right _ _
    refine ⟨t, _, rfl, ht2.sq, rfl, _, _, rfl, _, _, rfl, rfl, rfl, _, rfl, _, rfl, d, rfl, .inl ⟨_, .inl ed2⟩, _, rfl, _, .inl ⟨_, .inl q.1, .inl ed2, rfl, rfl⟩, _, _, rfl, val_get ps q.1, _, rfl, tst (fun c => ?_) fun c => ?_⟩
    · refine ⟨_, rfl, _, rfl, d, rfl, .inl ⟨_, .inl ed2⟩, _, rfl, _, .inl ⟨_, .inl q.1, .inl ed2, rfl, rfl⟩, _, _, val_get ps q.1, rfl, _, rfl, by show 3 ≤ sizeLine; rw [sizeLine_eq]; decide, fun b o hb ho => ?_⟩
      have nD : D ≠ b := ne_of_none eD hb
      refine ⟨bs.map V.ref, by rw [upd_ne nD]; exact eD, by rw [List.length_map, sizeLine_eq]; omega, ?_, bs ++ [b], by rw [upd_same, List.map_append]; rfl, ?_⟩
      · intro c o z
        rw [upd_ne (ne_of_none z hD), upd_ne (ne_of_none (se c o z) hb)]
        exact se c o z
      · rw [lack_snoc hq, if_pos c]
        refine pair_snoc (Paired.mapP pb fun b' t' z => ⟨?_, z.2⟩) ⟨⟨o, ?_, ho⟩, (hl2.same se).ne hb⟩
        · obtain ⟨o', z1, z2⟩ := z.1
          exact ⟨o', by rw [upd_ne (at_ne' z1 eD), upd_ne (ne_of_none z1 hb)]; exact z1, z2⟩
        · rw [upd_ne nD.symm, upd_same]
    · refine ⟨se, bs, eD, ?_⟩
      rw [lack_snoc hq, if_neg (by rw [c]; decide), List.append_nil]
      exact pb
  · obtain ⟨se, bs, eD, pb⟩ := e
    refine ⟨D, _, rfl, SqL.of eD, fun b o hb ho => ?_⟩
    have sH := (s1.trans s2).trans se
    rw [List.length_map, Paired.length w2, List.take_of_length_le (Nat.le_refl _)] at pb
    exact yes ps qs m1 m2 rfl rfl (.ref b) _ (sH.trans (same_up hb)) (tris_new (hl2.same se) hb ho (tri_all pb))
/-! ### holds -/
mutual
theorem dd_dp {H : Hp} : ∀ {v : V} {d : PyData}, Dd K H v d → d.canLay0 = true → Dp K H v d
  | _, _, .non, _ => .non
  | _, _, .bl b, _ => .bl b
  | _, _, .int i, _ => .int i
  | _, _, .str x, _ => .str x
  | _, _, .lst h r, c => .lst h (dall_dp r c)
  | _, _, .tup h r, c => .tup h.sq (dall_dp r c)
  | _, _, .dct h r, c => by cases c
theorem dall_dp {H : Hp} : ∀ {vs : List V} {ds : List PyData}, DdAll K H vs ds → PyData.canLayAll0 ds = true → DpAll K H vs ds
  | _, _, .nil, _ => .nil
  | _, _, .cons h r, c => by
    obtain ⟨c1, c2⟩ := Bool.and_eq_true_iff.mp (show (PyData.canLay0 _ && PyData.canLayAll0 _) = true from c)
    exact .cons (dd_dp h c1) (dall_dp r c2)
end
theorem lay_tris : ∀ ts : List (Int × Int × Int), PyData.canLayAll0 (ts.map triD) = true
  | [] => rfl
  | t :: r => by
    show (PyData.canLay0 (triD t) && PyData.canLayAll0 (r.map triD)) = true
    rw [lay_tris r]
    rfl
theorem dep_tris : ∀ ts : List (Int × Int × Int), PyData.depthAll (ts.map triD) ≤ 1
  | [] => by decide
  | t :: r => by
    show max (PyData.depth (triD t)) (PyData.depthAll (r.map triD)) ≤ 1
    have h1 : PyData.depth (triD t) = 1 := rfl
    have h2 := dep_tris r
    omega
theorem shp_tris (ts : List (Int × Int × Int)) : SeqAt.shaped (trisD ts) = true := by
  have h1 : PyData.canLay0 (trisD ts) = true := lay_tris ts
  have h2 : PyData.depth (trisD ts) = PyData.depthAll (ts.map triD) + 1 := rfl
  have h3 := dep_tris ts
  unfold SeqAt.shaped
  rw [h1, h2, decide_eq_true (show PyData.depthAll (ts.map triD) + 1 ≤ 64 by omega)]
  rfl
theorem eqv_tris (ts : List (Int × Int × Int)) : PyData.eqv (trisD ts) (.tuple []) = decide (ts = []) := by
  cases ts <;> rfl
theorem scHolds : FnScope ["mark", "other"] ["mark", "other"] (defScope sHolds) := ⟨rfl, rfl, rfl, by decide +kernel, rfl, by decide +kernel, by decide +kernel⟩
theorem ok_holds {f C : Addr} {fd : FuncData} (F : FnP K "holds" sHolds f fd) (DL : DfX P w K mg base "lacking" 7 ["mark", "other"] (spTwo K C (rLack K))) : FnOk P w K mg base (L2.CX P w) 8 f fd ["mark", "other"] (spTwo K C rHolds) := by
  refine F.ok (CX := L2.CX P w) scHolds spTwo_len (fun cdv A outer s H vs Q E hr h => ?_)
  obtain ⟨a, v1, v2, d1, d2, rfl, hl, h1, h2, z1, z2, no, yes⟩ := h
  refine ⟨_, (pss_one (ps_ret (pe_cmpR (op_eqD hr.units) (pe_dfX DL (takes_of rfl rfl rfl rfl) hr (by decide) (pa_cons (pv 0) (pa_cons (pv 1) pa_nil))) (pe_tupF pa_nil) (nomark _)))), ?_⟩
  refine ⟨_, rfl, _, rfl, a, v1, v2, d1, d2, rfl, hl, h1, h2, z1, z2, no, fun ps qs m1 m2 e1 e2 v H1 s1 hv => ⟨Nat.zero_le _, fun p o hp ho => ⟨trisD (lackL ps qs), .tuple [], dd_dp (hv.dd.same (same_up hp)) (lay_tris _), .tup (TupN.sq ⟨o, upd_same, ho⟩) .nil, shp_tris _, by decide, ?_⟩⟩⟩
  rw [eqv_tris]
  exact yes ps qs m1 m2 e1 e2 _ _ (s1.trans (same_up hp)) rfl
/-! ### both -/
theorem max_if (i j : Int) : (if j > i then j else i) = max i j := by
  split <;> omega
theorem mk_all {a : Addr} {H : Hp} : ∀ {bs : List Addr} {ts : Mk}, Paired (fun b (t : Int × Int) => TupN H b [.int t.1, .int t.2] ∧ b ≠ a) bs ts → DvAll a K H (bs.map V.ref) (ts.map mkD)
  | _, _, .nil => .nil
  | _, _, .cons r t => .cons (Dv.tup r.1 r.2 (.cons (.int _) (.cons (.int _) .nil))) (mk_all t)
theorem G_app (ps : Mk) (q : Int × Int) (l : Int) : (∀ p ∈ ps, p.1 ≠ q.1) → G (ps ++ [q]) l = if l = q.1 then q.2 else G ps l := by
  induction ps with
  | nil =>
    intro _
    rw [List.nil_append, G_cons]
    by_cases e : q.1 = l
    · rw [if_pos e, if_pos e.symm]
    · rw [if_neg e, if_neg fun z => e z.symm]
  | cons p r ih =>
    intro n
    rw [List.cons_append, G_cons, G_cons, ih fun x hx => n x (List.mem_cons_of_mem _ hx)]
    by_cases e : p.1 = l
    · rw [if_pos e, if_pos e, if_neg fun z => n p List.mem_cons_self (e.trans z)]
    · rw [if_neg e, if_neg e]
theorem take_ne {qs : Mk} (h : IsMk qs) {i : Nat} {q : Int × Int} (e : qs[i]? = some q) : ∀ p ∈ qs.take i, p.1 ≠ q.1 := fun p hp z => by
  have h1 : (qs.take i ++ q :: qs.drop (i + 1)).Pairwise fun p q => p.1 < q.1 := by
    rw [← drop_cons e, List.take_append_drop]
    exact h.rise
  have := (List.pairwise_append.mp h1).2.2 p hp q List.mem_cons_self
  omega
theorem G_take {qs : Mk} (h : IsMk qs) {i : Nat} {q : Int × Int} (e : qs[i]? = some q) (l : Int) : G (qs.take (i + 1)) l = if l = q.1 then q.2 else G (qs.take i) l := by
  rw [List.take_add_one, e]
  exact G_app _ _ _ (take_ne h e)
theorem G_take0 {qs : Mk} (h : IsMk qs) {i : Nat} {q : Int × Int} (e : qs[i]? = some q) : G (qs.take i) q.1 = 0 := G_out (take_ne h e)
/-- the dict of numbers behind i pairs -/
structure Dn (ps qs : Mk) (i : Nat) (ms : Mk) : Prop where
  at_ : ∀ l, G ms l = max (G ps l) (G (qs.take i) l)
  rng : ∀ m ∈ ms, 1 ≤ m.1 ∧ m.1 ≤ 999 ∧ 1 ≤ m.2
  len : ms.length ≤ 999 + i
theorem dn0 {ps qs : Mk} (h : IsMk ps) : Dn ps qs 0 ps := ⟨fun l => by
  have := h.G_nn l
  rw [List.take_zero, G_nil]
  omega, h.rng, h.len⟩
theorem len_put (ms : Mk) (l n : Int) : (putM ms l n).length ≤ ms.length + 1 := by
  unfold putM
  split
  · rw [List.length_map]
    omega
  · rw [List.length_append]
    exact Nat.le_refl _
theorem dn_put {ps qs ms : Mk} {i : Nat} {q : Int × Int} (hp : IsMk ps) (hq : IsMk qs) (d : Dn ps qs i ms) (e : qs[i]? = some q) : Dn ps qs (i + 1) (putM ms q.1 (max q.2 (G ms q.1))) := by
  have hr := hq.rng q (List.mem_of_getElem? e)
  refine ⟨fun l => ?_, fun m hm => ?_, ?_⟩
  · rw [G_put, G_take hq e]
    by_cases z : l = q.1
    · subst z
      rw [if_pos rfl, if_pos rfl, d.at_, G_take0 hq e]
      have := hp.G_nn q.1
      omega
    · rw [if_neg z, if_neg z, d.at_]
  · unfold putM at hm
    split at hm
    · obtain ⟨p, hp2, rfl⟩ := List.mem_map.mp hm
      have := d.rng p hp2
      split
      · exact ⟨this.1, this.2.1, by show 1 ≤ max q.2 _; omega⟩
      · exact this
    · rcases List.mem_append.mp hm with hm | hm
      · exact d.rng m hm
      · rw [List.mem_singleton.mp hm]
        exact ⟨hr.1, hr.2.1, by show 1 ≤ max q.2 _; omega⟩
  · have := len_put ms q.1 (max q.2 (G ms q.1))
    have := d.len
    omega
theorem scBoth : FnScope ["mark", "other", "numbers", "life", "number"] ["mark", "other"] (defScope sBoth) := ⟨rfl, rfl, rfl, by decide +kernel, rfl, by decide +kernel, by decide +kernel⟩
theorem ok_both {f C : Addr} {fd : FuncData} (F : FnP K "both" sBoth f fd) (M : Nm mg) (DC : DfX P w K mg base "check_marks" 6 ["mark", "other"] (spTwo K C rCheck)) : FnOk P w K mg base (L2.CX P w) 7 f fd ["mark", "other"] (spTwo K C (rBoth K)) := by
  refine F.ok (CX := L2.CX P w) scBoth spTwo_len (fun cdv A outer s H vs Q E hr h => ?_)
  obtain ⟨a, v1, v2, d1, d2, rfl, hl, h1, h2, z1, z2, no, yes⟩ := h
  have hu : (A.deeper (envOfC "both" (defScope sBoth) s.heap.objs.size f cdv)).units + 1 < cLine := by
    have := hr.units
    omega
  refine ⟨_, (pss_cons (ps_expr (pe_dfX DC (takes_of rfl rfl rfl rfl) hr (by decide) (pa_cons (pv 0) (pa_cons (pv 1) pa_nil))))
      (pss_cons (ps_set (i := 2) scBoth.nd rfl (Or.inl rfl) (pe_callTy (call_dictT rfl) (by rfl) M.dict (by decide +kernel) (pa_cons (pv 0) pa_nil)))
      (pss_cons (ps_for (passes_of rfl) rfl (pi_tup (pv 1)) (pg_tup rfl (pgs_cons (pg_name (i := 3) scBoth.nd rfl (Or.inl rfl)) (pgs_cons (pg_name (i := 4) scBoth.nd rfl (Or.inl rfl)) pgs_nil))) (pss_one (ps_asg (pe_callB (call_max2 rfl) (by rfl) M.max (by decide +kernel) (pa_cons (pv 4) (pa_cons (pe_dget2 hu (pv 2) (pv 3) pe_int ⟨by rfl, by rfl, by rfl, by rfl⟩) pa_nil))) (pg_sub (pv 2) (pv 3) (set_dict hu)))))
      (pss_one (ps_ret (pe_tof (by rfl) M.tuple (pe_callB (call_sortedIt rfl) (by rfl) M.sorted (by decide +kernel) (pa_cons (pe_bm0 PySem.F.plainAttrs_dict PySem.F.slot_dict_items PySem.F.type_dict_items mt_itemsK (pv 2)) pa_nil)))))))), ?_⟩
  refine ⟨_, rfl, _, rfl, a, v1, v2, d1, d2, rfl, hl, h1, h2, z1, z2, no, fun ps qs m1 m2 e1 e2 v H1 s1 ev => ?_⟩
  subst e1
  subst e2
  obtain ⟨p1, as1, rfl, t1, w1⟩ := (mk_at (h1.dd.same s1)).ex
  obtain ⟨p2, as2, rfl, t2, w2⟩ := (mk_at (h2.dd.same s1)).ex
  have hl1 := hl.same s1
  refine ⟨_, rfl, p1, as1, ps.map fK, rfl, t1, pair_fK w1, fun d hd => ?_⟩
  rw [merge_mk m1]
  have s2 : Same H1 (upd H1 d (.dK (ps.map fK))) := same_up hd
  have ed : (upd H1 d (.dK (ps.map fK))) d = some (.dK (ps.map fK)) := upd_same
  generalize upd H1 d (.dK (ps.map fK)) = H2 at s2 ed ⊢
  refine ⟨_, rfl, p2, rfl, ⟨_, (t2.same s2).sq⟩, ?_⟩
  refine for_tup (xs := as2.map V.ref) (fun i σ H' => Same H1 H' ∧ ∃ ms x3 x4, σ = [some (.ref p1), some (.ref p2), some (.ref d), x3, x4] ∧ H' d = some (.dK (ms.map fK)) ∧ Dn ps qs i ms) ⟨s2, ps, none, none, rfl, ed, dn0 m1⟩ (fun i σ H' _ z => (t2.same z.1).sq) (fun i x σ H' hx z => ?_) (fun σ H' z => ?_)
  · obtain ⟨se, ms, x3, x4, rfl, ed, dn⟩ := z
    obtain ⟨t, q, rfl, hq, ht⟩ := mk_item w2 hx
    have il : i < qs.length := (List.getElem?_eq_some_iff.mp hq).1
    have ql := m2.len
    have dl := dn.len
    have ht2 := ht.same se
    refine ⟨t, _, rfl, ht2.sq, rfl, _, _, rfl, _, _, rfl, rfl, ?_⟩
    refine ⟨_, rfl, _, rfl, d, rfl, .inl ⟨_, .inl ed⟩, _, rfl, _, .inl ⟨_, .inl q.1, .inl ed, rfl, rfl⟩, q.2, G ms q.1, by rw [val_get], ?_⟩
    rw [max_if]
    refine ⟨_, rfl, _, rfl, d, _, rfl, .inl ⟨_, .inl q.1, ed, rfl, by rw [List.length_map, sizeLine_eq]; omega, rfl⟩, ?_⟩
    rw [put_map]
    refine ⟨fun b o zb => ?_, putM ms q.1 (max q.2 (G ms q.1)), _, _, rfl, upd_same, dn_put m1 m2 dn hq⟩
    rw [upd_ne (ne_of_none zb hd)]
    exact se b o zb
  · obtain ⟨se, ms, x3, x4, rfl, ed, dn⟩ := z
    rw [List.length_map, Paired.length w2] at dn
    refine ⟨_, rfl, .inr (.inr (.inl ⟨rfl, .inl ⟨_, ed⟩⟩)), d, _, rfl, rfl, ed, fun r hrn => ?_⟩
    have edr : (upd H' r (DX.itemsO r d)) d = some (.dK (ms.map fK)) := by
      rw [upd_ne (ne_of_none ed hrn)]
      exact ed
    refine ⟨r, d, ms, rfl, upd_same, edr, fun ts rs H3 p s3 hp3 e3 pr st nd pt => ⟨p, _, rfl, SqL.of e3, fun b o hb ho => ?_⟩⟩
    have dn2 := dn.at_
    rw [List.take_of_length_le (Nat.le_refl _)] at dn2
    have J := jn_sorted m1 m2 dn2 dn.rng nd pr st
    have sH : Same H H3 := (s1.trans se).trans ((same_up hrn).trans s3)
    refine yes ps qs m1 m2 rfl rfl (.ref b) _ (sH.trans (same_up hb)) ⟨rs, J, tris_new (hl.same sH) hb ho (mk_all (Paired.mapP pt fun b' t' z => ⟨z, (hl.same sH).neT z⟩))⟩

end
end Sw
namespace Sw
open PySem PySem.Spec PyProof.Rows L2 Tn Vd Xv
section
variable {P : Program} {w : World} {K : PySem.W.Frag} {mg : Str → Option Value} {base : Heap}
/-- of two marks -/
def spM2 (K : PySem.W.Frag) (R : Addr → Mk → Mk → V → Hp → Prop) : Sp := fun vs H Q _ => ∃ (a : Addr) (v1 v2 : V) (ps qs : Mk), vs = [v1, v2] ∧ Live a H ∧ IsMk ps ∧ IsMk qs ∧ Dv a K H v1 (tupD ps) ∧ Dv a K H v2 (tupD qs) ∧
  ∀ v H', Same H H' → R a ps qs v H' → Q v H'
theorem spM2_len {R : Addr → Mk → Mk → V → Hp → Prop} {x y : Str} : ∀ vs H Q E, spM2 K R vs H Q E → vs.length = [x, y].length := fun vs H Q E h => by
  obtain ⟨a, v1, v2, ps, qs, rfl, _⟩ := h
  rfl
abbrev sLacks : Stmt := top 34
abbrev sJoined : Stmt := top 35
abbrev sWith : Stmt := top 36
theorem scLacks : FnScope ["mark", "other", "known", "found", "life", "number"] ["mark", "other"] (defScope sLacks) := ⟨rfl, rfl, rfl, by decide +kernel, rfl, by decide +kernel, by decide +kernel⟩
theorem ok_lacks {f : Addr} {fd : FuncData} (F : FnP K "_law_lacks" sLacks f fd) (M : Nm mg) : FnOk P w K mg base CX0 1 f fd ["mark", "other"] (spM2 K (rLack K)) := by
  refine F.ok scLacks spM2_len (fun cdv A outer s H vs Q E hr h => ?_)
  obtain ⟨a, v1, v2, ps, qs, rfl, hl, m1, m2, h1, h2, yes⟩ := h
  have hu : (A.deeper (envOfC "_law_lacks" (defScope sLacks) s.heap.objs.size f cdv)).units + 1 < cLine := by
    have := hr.units
    omega
  refine ⟨_, PSs.nox (pss_cons (ps_par (i := 2) (j := 3) (by rfl) scLacks.nd rfl rfl (by decide) rfl rfl (pa_cons (pe_callTy (call_dictT rfl) (by rfl) M.dict (by decide +kernel) (pa_cons (pv 0) pa_nil)) (pa_cons (pe_lst pa_nil) pa_nil)) (by rfl))
      (pss_cons (ps_for PassesOwn.never rfl (pi_tup (pv 1)) (pg_tup rfl (pgs_cons (pg_name (i := 4) scLacks.nd rfl (Or.inl rfl)) (pgs_cons (pg_name (i := 5) scLacks.nd rfl (Or.inl rfl)) pgs_nil))) (pss_one (ps_if (pt_cmpR op_lt (pe_dget2 hu (pv 2) (pv 4) pe_int ⟨by rfl, by rfl, by rfl, by rfl⟩) (pv 5) (nomark _)) (pss_one (ps_expr (pe_bm PySem.F.plainAttrs_list PySem.F.slot_list_append PySem.F.type_list_append mt_append (pv 3) (pa_cons (pe_tupF (pa_cons (pv 4) (pa_cons (pe_op op_add (pe_dget2 hu (pv 2) (pv 4) pe_int ⟨by rfl, by rfl, by rfl, by rfl⟩) pe_int) (pa_cons (pv 5) pa_nil)))) pa_nil)))) pss_nil)))
      (pss_one (ps_ret (pe_tof (by rfl) M.tuple (pv 3)))))), ?_⟩
  obtain ⟨p1, as1, rfl, t1, w1⟩ := (mk_at h1.dd).ex
  obtain ⟨p2, as2, rfl, t2, w2⟩ := (mk_at h2.dd).ex
  refine ⟨_, rfl, p1, as1, ps.map fK, rfl, t1, pair_fK w1, fun d hd => ?_⟩
  rw [merge_mk m1]
  have s2 : Same H (upd H d (.dK (ps.map fK))) := same_up hd
  have ed : (upd H d (.dK (ps.map fK))) d = some (.dK (ps.map fK)) := upd_same
  generalize upd H d (.dK (ps.map fK)) = H2 at s2 ed ⊢
  have t2' := t2.same s2
  have hl2 := hl.same s2
  refine ⟨Nat.zero_le _, fun D hD => ⟨_, _, rfl, ?_⟩⟩
  refine ⟨_, rfl, p2, rfl, ⟨_, (t2'.same (same_up hD)).sq⟩, ?_⟩
  refine for_tup (xs := as2.map V.ref) (fun i σ H' => Same H2 H' ∧ ∃ (bs : List Addr) (x4 x5 : Option V), σ = [some (.ref p1), some (.ref p2), some (.ref d), some (.ref D), x4, x5] ∧ H' D = some (.lst (bs.map V.ref)) ∧ Paired (fun b (t : Int × Int × Int) => TupN H' b [.int t.1, .int t.2.1, .int t.2.2] ∧ b ≠ a) bs (lackL ps (qs.take i)))
    ⟨same_up hD, [], none, none, rfl, upd_same, .nil⟩ (fun i σ H' _ e => (t2'.same e.1).sq) (fun i x σ H' hx e => ?_) (fun σ H3 e => ?_)
  · obtain ⟨se, bs, x4, x5, rfl, eD, pb⟩ := e
    obtain ⟨t, q, rfl, hq, ht⟩ := mk_item w2 hx
    have ht2 := (ht.same s2).same se
    have ed2 := se _ _ ed
    have lb : bs.length ≤ 999 := by
      rw [Paired.length pb]
      refine Nat.le_trans ?_ m2.len
      unfold lackL
      rw [List.length_map]
      refine Nat.le_trans (List.length_filter_le _ _) ?_
      rw [List.length_take]
      exact Nat.min_le_right _ _
    refine ⟨t, _, rfl, ht2.sq, rfl, _, _, rfl, _, _, rfl, rfl, ?_⟩
    refine ⟨_, rfl, d, rfl, .inl ⟨_, .inl ed2⟩, _, rfl, _, .inl ⟨_, .inl q.1, .inl ed2, rfl, rfl⟩, _, rfl, _, _, val_get ps q.1, rfl, _, rfl, tst (fun c => ?_) fun c => ?_⟩
    · refine ⟨_, rfl, .inl ⟨rfl, _, SqL.of eD⟩, _, rfl, _, rfl, d, rfl, .inl ⟨_, .inl ed2⟩, _, rfl, _, .inl ⟨_, .inl q.1, .inl ed2, rfl, rfl⟩, _, _, val_get ps q.1, rfl, _, rfl, by show 3 ≤ sizeLine; rw [sizeLine_eq]; decide, fun b o hb ho => ?_⟩
      have nD : D ≠ b := ne_of_none eD hb
      refine ⟨D, bs.map V.ref, _, rfl, rfl, by rw [upd_ne nD]; exact eD, by rw [List.length_map, sizeLine_eq]; omega, ?_⟩
      refine ⟨?_, bs ++ [b], _, _, rfl, by rw [upd_same, List.map_append]; rfl, ?_⟩
      · intro c o z
        rw [upd_ne (ne_of_none z hD), upd_ne (ne_of_none (se c o z) hb)]
        exact se c o z
      · rw [lack_snoc hq, if_pos c]
        refine pair_snoc (Paired.mapP pb fun b' t' z => ⟨?_, z.2⟩) ⟨⟨o, ?_, ho⟩, (hl2.same se).ne hb⟩
        · obtain ⟨o', z1, z2⟩ := z.1
          exact ⟨o', by rw [upd_ne (at_ne' z1 eD), upd_ne (ne_of_none z1 hb)]; exact z1, z2⟩
        · rw [upd_ne nD.symm, upd_same]
    · refine ⟨se, bs, _, _, rfl, eD, ?_⟩
      rw [lack_snoc hq, if_neg (by rw [c]; decide), List.append_nil]
      exact pb
  · obtain ⟨se, bs, x4, x5, rfl, eD, pb⟩ := e
    refine ⟨_, rfl, D, _, rfl, SqL.of eD, fun b o hb ho => ?_⟩
    have sH := s2.trans se
    rw [List.length_map, Paired.length w2, List.take_of_length_le (Nat.le_refl _)] at pb
    exact yes (.ref b) _ (sH.trans (same_up hb)) (tris_new (hl2.same se) hb ho (tri_all pb))
theorem val_some {ms : Mk} {l : Int} (h : l ∈ ms.map (·.1)) : valV (ms.map fK) (Sum.inl l) = some (.int (G ms l)) := by
  have e := val_get ms l
  rw [val_map] at e ⊢
  cases z : ms.find? fun p => decide (p.1 = l) with
  | some p =>
    rw [z] at e
    exact congrArg some e
  | none =>
    obtain ⟨p, hp, rfl⟩ := List.mem_map.mp h
    have := List.find?_eq_none.mp z p hp
    simp at this
theorem keys_perm {ms : Mk} (nd : (ms.map (·.1)).Nodup) {ys : List Int} (h : ys.Perm (ms.map (·.1))) : (ys.map fun l => (l, G ms l)).Perm ms := by
  refine (h.map fun l => (l, G ms l)).trans ?_
  rw [List.map_map]
  refine List.Perm.of_eq ((List.map_congr_left fun p hp => ?_).trans (List.map_id _))
  show (p.1, G ms p.1) = p
  rw [G_mem nd hp]
theorem scJoined : FnScope ["mark", "other", "found", "life", "number"] ["mark", "other"] (defScope sJoined) := ⟨rfl, rfl, rfl, by decide +kernel, rfl, by decide +kernel, by decide +kernel⟩
theorem ok_joined {f : Addr} {fd : FuncData} (F : FnP K "_law_joined" sJoined f fd) (M : Nm mg) : FnOk P w K mg base CX0 1 f fd ["mark", "other"] (spM2 K (rBoth K)) := by
  refine F.ok scJoined spM2_len (fun cdv A outer s H vs Q E hr h => ?_)
  obtain ⟨a, v1, v2, ps, qs, rfl, hl, m1, m2, h1, h2, yes⟩ := h
  have hu : (A.deeper (envOfC "_law_joined" (defScope sJoined) s.heap.objs.size f cdv)).units + 1 < cLine := by
    have := hr.units
    omega
  refine ⟨_, PSs.nox (pss_cons (ps_set (i := 2) scJoined.nd rfl (Or.inr rfl) (pe_callTy (call_dictT rfl) (by rfl) M.dict (by decide +kernel) (pa_cons (pv 0) pa_nil)))
      (pss_cons (ps_for PassesOwn.never rfl (pi_tup (pv 1)) (pg_tup rfl (pgs_cons (pg_name (i := 3) scJoined.nd rfl (Or.inl rfl)) (pgs_cons (pg_name (i := 4) scJoined.nd rfl (Or.inl rfl)) pgs_nil))) (pss_one (ps_asg (pe_callB (call_max2 rfl) (by rfl) M.max (by decide +kernel) (pa_cons (pv 4) (pa_cons (pe_dget2 hu (pv 2) (pv 3) pe_int ⟨by rfl, by rfl, by rfl, by rfl⟩) pa_nil))) (pg_sub (pv 2) (pv 3) (set_dict hu)))))
      (pss_one (ps_ret (pe_tof (by rfl) M.tuple (pe_lc (own := [("life", 3)]) (g := gName 3) (tt := tYes) (by rfl) scJoined.nd (pi_list (pe_callB (Tn.call_sortedDI rfl) (by rfl) M.sorted (by decide +kernel) (pa_cons (pv 2) pa_nil))) (blkOk_by (N := ["mark", "other", "found", "life", "number"]) (sc := defScope sJoined) (by decide +kernel)) (fun _ _ _ _ _ => pg_name (i := 3) scJoined.nd rfl (Or.inl rfl)) (fun _ _ _ _ _ => pts_nil) (fun _ _ _ _ _ => (pe_tupF (pa_cons (pv 3) (pa_cons (pe_dget hu (pv 2) (pv 3) (fun _ _ => rfl)) pa_nil)))))))))), ?_⟩
  obtain ⟨p1, as1, rfl, t1, w1⟩ := (mk_at h1.dd).ex
  obtain ⟨p2, as2, rfl, t2, w2⟩ := (mk_at h2.dd).ex
  refine ⟨_, rfl, p1, as1, ps.map fK, rfl, t1, pair_fK w1, fun d hd => ?_⟩
  rw [merge_mk m1]
  have s2 : Same H (upd H d (.dK (ps.map fK))) := same_up hd
  have ed : (upd H d (.dK (ps.map fK))) d = some (.dK (ps.map fK)) := upd_same
  generalize upd H d (.dK (ps.map fK)) = H2 at s2 ed ⊢
  refine ⟨_, rfl, p2, rfl, ⟨_, (t2.same s2).sq⟩, ?_⟩
  refine for_tup (xs := as2.map V.ref) (fun i σ H' => Same H H' ∧ ∃ ms x3 x4, σ = [some (.ref p1), some (.ref p2), some (.ref d), x3, x4] ∧ H' d = some (.dK (ms.map fK)) ∧ Dn ps qs i ms) ⟨s2, ps, none, none, rfl, ed, dn0 m1⟩ (fun i σ H' _ z => (t2.same z.1).sq) (fun i x σ H' hx z => ?_) (fun σ H' z => ?_)
  · obtain ⟨se, ms, x3, x4, rfl, ed, dn⟩ := z
    obtain ⟨t, q, rfl, hq, ht⟩ := mk_item w2 hx
    have il : i < qs.length := (List.getElem?_eq_some_iff.mp hq).1
    have ql := m2.len
    have dl := dn.len
    have ht2 := ht.same se
    refine ⟨t, _, rfl, ht2.sq, rfl, _, _, rfl, _, _, rfl, rfl, ?_⟩
    refine ⟨_, rfl, _, rfl, d, rfl, .inl ⟨_, .inl ed⟩, _, rfl, _, .inl ⟨_, .inl q.1, .inl ed, rfl, rfl⟩, q.2, G ms q.1, by rw [val_get], ?_⟩
    rw [max_if]
    refine ⟨_, rfl, _, rfl, d, _, rfl, .inl ⟨_, .inl q.1, ed, rfl, by rw [List.length_map, sizeLine_eq]; omega, rfl⟩, ?_⟩
    rw [put_map]
    refine ⟨fun b o zb => ?_, putM ms q.1 (max q.2 (G ms q.1)), _, _, rfl, upd_same, dn_put m1 m2 dn hq⟩
    rw [upd_ne (ne_of_none zb hd)]
    exact se b o zb
  · obtain ⟨se, ms, x3, x4, rfl, ed, dn⟩ := z
    rw [List.length_map, Paired.length w2] at dn
    have dn2 := dn.at_
    rw [List.take_of_length_le (Nat.le_refl _)] at dn2
    have ml : ms.length ≤ 4000 := by
      have := dn.len
      have := m2.len
      omega
    have hl2 := hl.same se
    refine ⟨_, rfl, d, _, ms.map (·.1), rfl, ed, by rw [List.map_map, List.map_map]; rfl, fun ys p pm st nd hp => ?_⟩
    have yl : ys.length ≤ 4000 := by rw [pm.length_eq, List.length_map]; exact ml
    refine ⟨p, rfl, ⟨_, SqL.of upd_same⟩, fun D hD => ?_⟩
    have s3 : Same H' (upd H' p (.lst (ys.map V.int))) := same_up hp
    have ep : (upd H' p (.lst (ys.map V.int))) p = some (.lst (ys.map V.int)) := upd_same
    have ed3 := s3 _ _ ed
    generalize upd H' p (.lst (ys.map V.int)) = H3 at s3 ep ed3 hD ⊢
    have hl3 := hl2.same s3
    refine lc_list (xs := ys.map V.int) (fun i H' => Same H3 H' ∧ ∃ bs : List Addr, H' D = some (.lst (bs.map V.ref)) ∧ Paired (fun b (t : Int × Int) => TupN H' b [.int t.1, .int t.2] ∧ b ≠ a) bs ((ys.take i).map fun l => (l, G ms l)))
      ⟨same_up hD, [], upd_same, .nil⟩ (fun i H' _ e => SqL.of (e.1 _ _ ep)) (fun i x H4 hx e => ?_) (fun H4 e => ?_)
    · obtain ⟨s4, bs, eD, pb⟩ := e
      obtain ⟨l, hlq, rfl⟩ : ∃ n, ys[i]? = some n ∧ x = V.int n := by
        rw [List.getElem?_map] at hx
        obtain ⟨n, h1, h2⟩ := Option.map_eq_some_iff.mp hx
        exact ⟨n, h1, h2.symm⟩
      have lm : l ∈ ms.map (·.1) := pm.mem_iff.mp (List.mem_of_getElem? hlq)
      have ed4 := s4 _ _ ed3
      have lb : bs.length ≤ 4000 := by
        rw [Paired.length pb, List.length_map, List.length_take]
        omega
      refine ⟨rfl, _, rfl, _, rfl, _, rfl, d, .int (G ms l), rfl, .inl ⟨_, .inl l, .inl ed4, rfl, (val_some lm).symm⟩, by show 2 ≤ sizeLine; rw [sizeLine_eq]; decide, fun b o hb ho => ?_⟩
      have nD : D ≠ b := ne_of_none eD hb
      refine ⟨bs.map V.ref, by rw [upd_ne nD]; exact eD, by rw [List.length_map, sizeLine_eq]; omega, ?_, bs ++ [b], by rw [upd_same, List.map_append]; rfl, ?_⟩
      · intro c o z
        rw [upd_ne (ne_of_none z hD), upd_ne (ne_of_none (s4 c o z) hb)]
        exact s4 c o z
      · rw [List.take_add_one, hlq, List.map_append]
        refine pair_snoc (Paired.mapP pb fun b' t' z => ⟨?_, z.2⟩) ⟨⟨o, ?_, ho⟩, (hl3.same s4).ne hb⟩
        · obtain ⟨o', z1, z2⟩ := z.1
          exact ⟨o', by rw [upd_ne (at_ne' z1 eD), upd_ne (ne_of_none z1 hb)]; exact z1, z2⟩
        · rw [upd_ne nD.symm, upd_same]
    · obtain ⟨s4, bs, eD, pb⟩ := e
      refine ⟨D, _, rfl, SqL.of eD, fun b o hb ho => ?_⟩
      rw [List.length_map, List.take_of_length_le (Nat.le_refl _)] at pb
      have J : Jn ps qs (ys.map fun l => (l, G ms l)) := jn_sorted m1 m2 dn2 dn.rng nd (keys_perm nd pm) (List.pairwise_map.mpr (st.imp fun z => z))
      have sH : Same H H4 := se.trans (s3.trans s4)
      exact yes (.ref b) _ (sH.trans (same_up hb)) ⟨_, J, tris_new (hl.same sH) hb ho (mk_all pb)⟩
def spWith (K : PySem.W.Frag) : Sp := fun vs H Q _ => ∃ (a : Addr) (v1 v2 : V) (ps : Mk) (ts : List (Int × Int × Int)), vs = [v1, v2] ∧ Live a H ∧ IsMk ps ∧ IsMk (withL ts) ∧ Dv a K H v1 (tupD ps) ∧ Dv a K H v2 (trisD ts) ∧
  ∀ rs v H', Same H H' → Jn ps (withL ts) rs → Dv a K H' v (tupD rs) → Q v H'
theorem scWith : FnScope ["mark", "triples", "life", "first", "last"] ["mark", "triples"] (defScope sWith) := ⟨rfl, rfl, rfl, by decide +kernel, rfl, by decide +kernel, by decide +kernel⟩
theorem dd_tri {H : Hp} {v : V} {t : Int × Int × Int} (h : Dd K H v (triD t)) : ∃ p, v = .ref p ∧ TupN H p [.int t.1, .int t.2.1, .int t.2.2] := by
  cases h with
  | tup h0 h2 =>
    cases h2 with
    | cons g1 g2 =>
    cases g2 with
    | cons g3 g4 =>
    cases g4 with
    | cons g5 g6 =>
    cases g6
    rw [dd_int g1, dd_int g3, dd_int g5] at h0
    exact ⟨_, rfl, h0⟩
theorem ok_with {f : Addr} {fd : FuncData} (F : FnP K "_law_with" sWith f fd) (M : Nm mg) (DJ : Df P w K mg base "_law_joined" 1 ["mark", "other"] (spM2 K (rBoth K))) : FnOk P w K mg base CX0 2 f fd ["mark", "triples"] (spWith K) := by
  refine F.ok scWith (fun vs H Q E h => ?_) (fun cdv A outer s H vs Q E hr h => ?_)
  · obtain ⟨a, v1, v2, ps, qs, rfl, _⟩ := h
    rfl
  obtain ⟨a, v1, v2, ps, ts, rfl, hl, m1, m2, h1, h2, yes⟩ := h
  refine ⟨_, PSs.nox (pss_one (ps_ret (pe_df DJ hr (by decide) (pa_cons (pv 0) (pa_cons (pe_tof (by rfl) M.tuple (pe_lc (own := [("life", 2), ("first", 3), ("last", 4)]) (g := gTup K 3 (gCons (gName 2) (gCons (gName 3) (gCons (gName 4) gNil)))) (tt := tYes) (by rfl) scWith.nd (pi_tup (pv 1)) (blkOk_by (N := ["mark", "triples", "life", "first", "last"]) (sc := defScope sWith) (by decide +kernel)) (fun _ _ _ _ _ => (pg_tup rfl (pgs_cons (pg_name (i := 2) scWith.nd rfl (Or.inl rfl)) (pgs_cons (pg_name (i := 3) scWith.nd rfl (Or.inl rfl)) (pgs_cons (pg_name (i := 4) scWith.nd rfl (Or.inl rfl)) pgs_nil))))) (fun _ _ _ _ _ => pts_nil) (fun _ _ _ _ _ => (pe_tupF (pa_cons (pv 2) (pa_cons (pv 4) pa_nil)))))) pa_nil))))), ?_⟩
  obtain ⟨p2, xs2, rfl, t2, g2⟩ := h2.ofTup
  have t2 := tupN_vis t2
  have tl : xs2.length = ts.length := (dall_len g2).trans (List.length_map ..)
  have tz : ts.length ≤ 999 := by
    have := m2.len
    unfold withL at this
    rw [List.length_map] at this
    exact this
  refine ⟨_, rfl, _, rfl, p2, rfl, ⟨_, t2.sq⟩, fun D hD => ?_⟩
  refine lc_tup (xs := xs2) (fun i H' => Same H H' ∧ ∃ bs : List Addr, H' D = some (.lst (bs.map V.ref)) ∧ Paired (fun b (t : Int × Int) => TupN H' b [.int t.1, .int t.2] ∧ b ≠ a) bs (withL (ts.take i)))
      ⟨same_up hD, [], upd_same, .nil⟩ (fun i H' _ e => (t2.same e.1).sq) (fun i x H4 hx e => ?_) (fun H4 e => ?_)
  · obtain ⟨s4, bs, eD, pb⟩ := e
    obtain ⟨d, hd1, hd2⟩ := dall_at' g2 hx
    rw [List.getElem?_map] at hd1
    obtain ⟨t, ht1, rfl⟩ := Option.map_eq_some_iff.mp hd1
    obtain ⟨pp, rfl, tn⟩ := dd_tri ((Dd.same vis_same hd2).same s4)
    have lb : bs.length ≤ 999 := by
      rw [Paired.length pb]
      unfold withL
      rw [List.length_map, List.length_take]
      omega
    refine ⟨pp, _, rfl, tn.sq, rfl, _, _, rfl, _, _, rfl, _, _, rfl, rfl, rfl, _, rfl, _, rfl, by show 2 ≤ sizeLine; rw [sizeLine_eq]; decide, fun b o hb ho => ?_⟩
    have nD : D ≠ b := ne_of_none eD hb
    refine ⟨bs.map V.ref, by rw [upd_ne nD]; exact eD, by rw [List.length_map, sizeLine_eq]; omega, ?_, bs ++ [b], by rw [upd_same, List.map_append]; rfl, ?_⟩
    · intro c o z
      rw [upd_ne (ne_of_none z hD), upd_ne (ne_of_none (s4 c o z) hb)]
      exact s4 c o z
    · rw [List.take_add_one, ht1]
      unfold withL at pb ⊢
      rw [List.map_append]
      refine pair_snoc (Paired.mapP pb fun b' t' z => ⟨?_, z.2⟩) ⟨⟨o, ?_, ho⟩, (hl.same s4).ne hb⟩
      · obtain ⟨o', z1, z2⟩ := z.1
        exact ⟨o', by rw [upd_ne (at_ne' z1 eD), upd_ne (ne_of_none z1 hb)]; exact z1, z2⟩
      · rw [upd_ne nD.symm, upd_same]
  · obtain ⟨s4, bs, eD, pb⟩ := e
    refine ⟨D, _, rfl, SqL.of eD, fun b o hb ho => ?_⟩
    rw [tl, List.take_of_length_le (Nat.le_refl _)] at pb
    have s5 := s4.trans (same_up (o := .frz o (.tup (bs.map V.ref))) hb)
    refine ⟨a, v1, .ref b, ps, withL ts, rfl, hl.same s5, m1, m2, h1.kp (kp_same s5), tris_new (hl.same s4) hb ho (mk_all pb), fun v H6 s6 z => ?_⟩
    obtain ⟨rs, J, z2⟩ := z
    exact yes rs v H6 (s5.trans s6) J z2

end
end Sw
namespace Sw
open PySem PySem.Spec PyProof.Rows L2 Tn Vd Xv RZ
section
variable {P : Program} {w : World} {K : PySem.W.Frag} {mg : Str → Option Value} {base : Heap}
/-! ### _law_is -/
def isOk : Nat → PyData → Bool
  | _, .bool _ => true
  | _, .int _ => true
  | n + 1, .tuple ds => decide (ds.length ≤ 4000) && ds.all (isOk n)
  | _, _ => false
theorem kTL {K : PySem.W.Frag} (d : PyData) : PySem.W.kitAny K (.type (tyD d)) [.type "tuple", .type "list"] = some (isT d || isL d) := by
  refine kitAny_cons (kit_ty (kT d)) (fun e => ?_) (fun e => by rw [e]; rfl)
  rw [e, Bool.false_or]
  refine kitAny_cons (kit_ty (kL d)) (fun e2 => ?_) (fun e2 => e2)
  rw [e2]
  rfl
theorem lc_zipT {K : PySem.W.Frag} {a b : Addr} {xs ys : List V} {g : TG} {tt : TT} {te : TE} {vs : List Nat} {σ : L2.St} {H1 : Hp} {D : Addr} {Qd : Hp → Prop} (n : Nat) (hn : n = min xs.length ys.length) (Pv : Nat → Hp → Prop) (h0 : Pv 0 (upd H1 D (.lst []))) (hl : ∀ i H, Pv i H → SqT K H a xs ∧ SqT K H b ys)
    (hs : ∀ i x y T H, xs[i]? = some x → ys[i]? = some y → Pv i H → H T = none → g (.ref T) (wipe σ vs) (upd H T (.tup [x, y])) fun σ2 H2 => wipe σ2 vs = wipe σ vs ∧ tt σ2 H2 fun b H3 =>
      if b = true then te σ2 H3 fun y H4 => ∃ acc, H4 D = some (.lst acc) ∧ acc.length < sizeLine ∧ Pv (i + 1) (upd H4 D (.lst (acc ++ [y]))) else Pv (i + 1) H3) (hd : ∀ H, Pv n H → Qd H) :
    ∃ W : Nat → Nat → Hp → Prop, (∃ m, W 0 m (upd H1 D (.lst []))) ∧ ∀ i m H, W i m H →
      ((ItzT K a b).stop i H ∧ Qd H) ∨ ((ItzT K a b).go i H ∧ ∃ Nx : Hp → Prop, (∀ H', Nx H' → ∃ m', m' < m ∧ W (i + 1) m' H') ∧ ∀ x H', (ItzT K a b).yld i H x H' → g x (wipe σ vs) H' fun σ2 H2 => wipe σ2 vs = wipe σ vs ∧ tt σ2 H2 fun b H3 =>
        if b = true then te σ2 H3 fun y H4 => ∃ acc, H4 D = some (.lst acc) ∧ acc.length < sizeLine ∧ Nx (upd H4 D (.lst (acc ++ [y]))) else Nx H3) := by
  refine ⟨fun i m H => m = n - i ∧ i ≤ n ∧ Pv i H, ⟨n, by simp, Nat.zero_le _, h0⟩, ?_⟩
  rintro i m H ⟨rfl, hi, p⟩
  obtain ⟨qx, qy⟩ := hl i H p
  by_cases hlt : i < n
  · have hx : xs[i]? = some xs[i] := List.getElem?_eq_getElem (by omega)
    have hy : ys[i]? = some ys[i] := List.getElem?_eq_getElem (by omega)
    refine .inr ⟨⟨xs, ys, _, _, qx, qy, hx, hy⟩, Pv (i + 1), fun H' p' => ⟨n - (i + 1), by omega, rfl, hlt, p'⟩, fun v H' z => ?_⟩
    obtain ⟨T, x, y, rfl, hT, rfl, z1, z2⟩ := z
    exact hs i x y T H (z1 _ qx) (z2 _ qy) p hT
  · have e : i = n := by omega
    subst e
    exact .inl ⟨⟨xs, ys, qx, qy, by omega⟩, hd H p⟩
theorem ne_self (x : V) : (!decide (x = x)) = false := by rw [decide_eq_true rfl]; rfl
def spIs (K : PySem.W.Frag) : Nat → Sp
  | 0 => fun _ _ _ _ => False
  | n + 1 => fun vs H Q _ => ∃ (v1 v2 : V) (d : PyData), vs = [v1, v2] ∧ Dd K H v1 d ∧ Dd K H v2 d ∧ isOk n d = true ∧ ∀ H', Same H H' → Q (.bl true) H'
abbrev sIs : Stmt := top 29
theorem scIs : FnScope ["told", "due", "one", "other"] ["told", "due"] (defScope sIs) := ⟨rfl, rfl, rfl, by decide +kernel, rfl, by decide +kernel, by decide +kernel⟩
theorem same_scal {H : Hp} {v1 v2 : V} {d : PyData} {n : Nat} (h1 : Dd K H v1 d) (h2 : Dd K H v2 d) (o : isOk n d = true) (t : isT d = false) : v1 = v2 ∧ scal v1 v2 = true := by
  cases h1 with
  | bl b => cases h2; exact ⟨rfl, rfl⟩
  | int i => cases h2; exact ⟨rfl, rfl⟩
  | non => cases n <;> cases o
  | str x => cases n <;> cases o
  | lst _ _ => cases n <;> cases o
  | tup _ _ => cases t
  | dct _ _ => cases n <;> cases o
theorem ok_is {f : Addr} {fd : FuncData} (F : FnP K "_law_is" sIs f fd) (M : Nm mg) (hm : mg "_law_is" = some (.ref f)) (hk : PySem.W.keepIn K (.ref f) = true) (hb : Binds K fd ["told", "due"] []) : ∀ n, FnOk P w K mg base CX0 n f fd ["told", "due"] (spIs K n)
  | 0 => ⟨fun vs H Q E h => h.elim, fun A outer s H args us vs Q E hr e0 hb' r h => h.elim⟩
  | n + 1 => by
    have DS : Df P w K mg base "_law_is" n ["told", "due"] (spIs K n) := ⟨f, fd, hm, hk, hb, ok_is F M hm hk hb n⟩
    refine F.ok scIs (fun vs H Q E h => ?_) (fun cdv A outer s H vs Q E hr h => ?_)
    · obtain ⟨v1, v2, d, rfl, _⟩ := h
      rfl
    obtain ⟨v1, v2, d, rfl, h1, h2, ok, q⟩ := h
    refine ⟨_, PSs.nox (pss_cons (ps_if (pt_val (pe_callB (id := "isinstance") (r := rIsi K) call_isi (by rfl) M.isinstance (by decide +kernel) (pa_cons (pv 1) (pa_cons (ty_cls (n := "dict") M.dict (by rfl) (by decide +kernel)) pa_nil)))) (pss_cons ps_never (pss_one ps_never)) pss_nil)
      (pss_cons (ps_if (pt_val (pe_callB (id := "isinstance") (r := rIsiT K) call_isiT (by rfl) M.isinstance (by decide +kernel) (pa_cons (pv 1) (pa_cons (pe_tup (pa_cons (ty_cls (n := "tuple") M.tuple (by rfl) (by decide +kernel)) (pa_cons (ty_cls (n := "list") M.list (by rfl) (by decide +kernel)) pa_nil))) pa_nil)))) (pss_cons (ps_if (PW.pt (pw_or (pt_cmpR op_ne (pe_callB (id := "isinstance") (r := rIsi K) call_isi (by rfl) M.isinstance (by decide +kernel) (pa_cons (pv 0) (pa_cons (ty_cls (n := "tuple") M.tuple (by rfl) (by decide +kernel)) pa_nil))) (pe_callB (id := "isinstance") (r := rIsi K) call_isi (by rfl) M.isinstance (by decide +kernel) (pa_cons (pv 1) (pa_cons (ty_cls (n := "tuple") M.tuple (by rfl) (by decide +kernel)) pa_nil))) (nomark _)) (pw_or1 (pt_cmpR op_ne (pe_callB (id := "isinstance") (r := rIsi K) call_isi (by rfl) M.isinstance (by decide +kernel) (pa_cons (pv 0) (pa_cons (ty_cls (n := "list") M.list (by rfl) (by decide +kernel)) pa_nil))) (pe_callB (id := "isinstance") (r := rIsi K) call_isi (by rfl) M.isinstance (by decide +kernel) (pa_cons (pv 1) (pa_cons (ty_cls (n := "list") M.list (by rfl) (by decide +kernel)) pa_nil))) (nomark _))))) (pss_one (ps_ret pe_bl)) pss_nil)
      (pss_one (ps_ret (pe_and (pe_cmpR op_eq (pe_callB call_len_seq (by rfl) M.len PySem.boot_len (pa_cons (pv 0) pa_nil)) (pe_callB call_len_seq (by rfl) M.len PySem.boot_len (pa_cons (pv 1) pa_nil)) (nomark _)) (pe_one (pe_callB (cr_all rfl) (by rfl) M.all (by decide +kernel) (pa_cons (pe_lc (own := [("one", 2), ("other", 3)]) (g := gTup K 2 (gCons (gName 2) (gCons (gName 3) gNil))) (tt := tYes) (by rfl) scIs.nd (pi_zipA (by rfl) M.zip (pa_cons (pv 0) (pa_cons (pv 1) pa_nil))) (blkOk_by (N := ["told", "due", "one", "other"]) (sc := defScope sIs) (by decide +kernel)) (fun _ _ _ _ _ => (pg_tup rfl (pgs_cons (pg_name (i := 2) scIs.nd rfl (Or.inl rfl)) (pgs_cons (pg_name (i := 3) scIs.nd rfl (Or.inl rfl)) pgs_nil)))) (fun _ _ _ _ _ => pts_nil) (fun _ _ _ _ _ => (pe_df DS hr (Nat.le_refl _) (pa_cons (pv 2) (pa_cons (pv 3) pa_nil))))) pa_nil))))))) pss_nil)
      (pss_cons (ps_if (PW.pt (pw_or (pt_cmpR op_ne (pe_callB (id := "isinstance") (r := rIsi K) call_isi (by rfl) M.isinstance (by decide +kernel) (pa_cons (pv 0) (pa_cons (ty_cls (n := "bool") M.bool (by rfl) (by decide +kernel)) pa_nil))) (pe_callB (id := "isinstance") (r := rIsi K) call_isi (by rfl) M.isinstance (by decide +kernel) (pa_cons (pv 1) (pa_cons (ty_cls (n := "bool") M.bool (by rfl) (by decide +kernel)) pa_nil))) (nomark _)) (pw_or1 (pt_cmpR op_ne (pe_callB (id := "isinstance") (r := rIsi K) call_isi (by rfl) M.isinstance (by decide +kernel) (pa_cons (pv 0) (pa_cons (ty_cls (n := "int") M.int (by rfl) (by decide +kernel)) pa_nil))) (pe_callB (id := "isinstance") (r := rIsi K) call_isi (by rfl) M.isinstance (by decide +kernel) (pa_cons (pv 1) (pa_cons (ty_cls (n := "int") M.int (by rfl) (by decide +kernel)) pa_nil))) (nomark _))))) (pss_one (ps_ret pe_bl)) pss_nil)
      (pss_one (ps_ret (pe_and (pe_cmpR op_eq (pe_callB (id := "isinstance") (r := rIsi K) call_isi (by rfl) M.isinstance (by decide +kernel) (pa_cons (pv 0) (pa_cons (ty_cls (n := "str") M.str (by rfl) (by decide +kernel)) pa_nil))) (pe_callB (id := "isinstance") (r := rIsi K) call_isi (by rfl) M.isinstance (by decide +kernel) (pa_cons (pv 1) (pa_cons (ty_cls (n := "str") M.str (by rfl) (by decide +kernel)) pa_nil))) (nomark _)) (pe_one (pe_cmpR op_eq (pv 0) (pv 1) (nomark _))))))))), ?_⟩
    have nd : isD d = false := by
      cases d with
      | dict _ => cases n <;> cases ok
      | _ => rfl
    have nl : isL d = false := by
      cases d with
      | list _ => cases n <;> cases ok
      | _ => rfl
    refine ⟨_, rfl, _, _, _, _, _, rfl, .ty _, tyx h2, kit_ty (kDi d), _, rfl, ?_⟩
    rw [nd]
    refine iteF ?_
    refine ⟨_, rfl, by show 2 ≤ sizeLine; rw [sizeLine_eq]; decide, fun tp htp => ⟨v2, tp, [.ty "tuple", .ty "list"], _, _, _, rfl, upd_same, .cons (.ty _) (.cons (.ty _) .nil), tyx (h2.same (same_up htp)), kTL d, _, rfl, ?_⟩⟩
    have s0 : Same H (upd H tp (.tup [.ty "tuple", .ty "list"])) := same_up htp
    generalize upd H tp (.tup [.ty "tuple", .ty "list"]) = H0 at s0 ⊢
    have g1 := h1.same s0
    have g2 := h2.same s0
    rw [nl, Bool.or_false]
    cases ht : isT d with
    | true =>
      refine iteT ⟨_, rfl, _, _, _, _, _, rfl, .ty _, tyx g1, kit_ty (kT d), _, rfl, _, _, _, _, _, rfl, .ty _, tyx g2, kit_ty (kT d), rfl, _, rfl, ?_⟩
      rw [ne_self]
      refine iteF ⟨_, rfl, _, _, _, _, _, rfl, .ty _, tyx g1, kit_ty (kL d), _, rfl, _, _, _, _, _, rfl, .ty _, tyx g2, kit_ty (kL d), rfl, _, rfl, ?_⟩
      rw [ne_self]
      refine iteF ?_
      cases g1 with
      | tup n1 e1 =>
        cases g2 with
        | tup n2 e2 =>
          rename_i p1 xs1 ds p2 xs2
          have l1 := dall_len e1
          have l2 := dall_len e2
          have ok2 : ds.length ≤ 4000 ∧ ∃ m, n = m + 1 ∧ ds.all (isOk m) = true := by
            cases n with
            | zero => cases ok
            | succ m =>
              obtain ⟨k1, k2⟩ := Bool.and_eq_true_iff.mp (show (decide (ds.length ≤ 4000) && ds.all (isOk m)) = true from ok)
              exact ⟨of_decide_eq_true k1, m, rfl, k2⟩
          obtain ⟨dl, m, rfl, okm⟩ := ok2
          refine ⟨_, rfl, p1, xs1, rfl, .inr n1.sq, _, rfl, p2, xs2, rfl, .inr n2.sq, rfl, _, rfl, ?_⟩
          rw [l1, l2, decide_eq_true rfl]
          refine iteT ⟨_, rfl, _, rfl, p1, p2, xs1, xs2, rfl, .inr ⟨n1.sq, n2.sq, fun D hD => ?_⟩⟩
          refine lc_zipT ds.length (by omega) (fun i H' => Same H0 H' ∧ H' D = some (.lst ((List.replicate i true).map V.bl))) ⟨same_up hD, upd_same⟩ (fun i H' e => ⟨(n1.same e.1).sq, (n2.same e.1).sq⟩) (fun i x y T H' hx hy e hT => ?_) (fun H1 e => ?_)
          · obtain ⟨d1, k1, k2⟩ := dall_at' e1 hx
            obtain ⟨d2, k3, k4⟩ := dall_at' e2 hy
            rw [k1] at k3
            cases k3
            have sT : Same H0 (upd H' T (.tup [x, y])) := e.1.trans (same_up hT)
            have il : i < ds.length := (List.getElem?_eq_some_iff.mp k1).1
            refine ⟨T, _, rfl, .inl (.inl upd_same), rfl, _, _, rfl, _, _, rfl, rfl, rfl, _, rfl, _, rfl, x, y, d1, rfl, k2.same sT, k4.same sT, List.all_eq_true.mp okm d1 (List.mem_of_getElem? k1), fun H2 s2 => ?_⟩
            refine ⟨_, s2 _ _ (by rw [upd_ne (ne_of_none e.2 hT)]; exact e.2), ?_, ?_, ?_⟩
            · rw [List.length_map, List.length_replicate, sizeLine_eq]
              omega
            · intro c o z
              rw [upd_ne (ne_of_none z hD)]
              exact s2 c o (sT c o z)
            · rw [upd_same, List.replicate_succ', List.map_append]
              rfl
          · refine ⟨D, _, rfl, SqL.of e.2, ?_⟩
            rw [show ((List.replicate ds.length true).all id) = true from List.all_eq_true.mpr fun x hx => (List.mem_replicate.mp hx).2]
            exact q H1 (s0.trans e.1)
        | _ => cases ht
      | _ => cases ht
    | false =>
      refine iteF ⟨_, rfl, _, _, _, _, _, rfl, .ty _, tyx g1, kit_ty (kB d), _, rfl, _, _, _, _, _, rfl, .ty _, tyx g2, kit_ty (kB d), rfl, _, rfl, ?_⟩
      rw [ne_self]
      refine iteF ⟨_, rfl, _, _, _, _, _, rfl, .ty _, tyx g1, kit_ty (kI d), _, rfl, _, _, _, _, _, rfl, .ty _, tyx g2, kit_ty (kI d), rfl, _, rfl, ?_⟩
      rw [ne_self]
      refine iteF ⟨_, rfl, _, _, _, _, _, rfl, .ty _, tyx g1, kit_ty (kS d), _, rfl, _, _, _, _, _, rfl, .ty _, tyx g2, kit_ty (kS d), rfl, _, rfl, ?_⟩
      rw [decide_eq_true rfl]
      obtain ⟨ev, sc⟩ := same_scal g1 g2 ok ht
      refine iteT ⟨_, rfl, _, rfl, sc, ?_⟩
      rw [decide_eq_true ev]
      exact q H0 s0
end
end Sw
namespace Sw
open PySem PySem.Spec PyProof.Rows L2 Tn Vd Xv RZ
section
variable {P : Program} {w : World} {K : PySem.W.Frag} {mg : Str → Option Value} {base : Heap}
def rIsTrue : R2 := fun x y H Q => x = .bl true ∧ y = .bl true ∧ Q (.bl true) H
theorem op_isTrue {X : Cx} : OpR X (compareOp .Is) rIsTrue := by
  intro pins s σ H x y v u Q I rx ry h
  obtain ⟨rfl, rfl, q⟩ := h
  cases rx
  cases ry
  exact wpAny_is_self rfl ⟨.bl true, H, I, rfl, q⟩
theorem ok_tupD {rs : Mk} (h : IsMk rs) : isOk 2 (tupD rs) = true := by
  have := h.len
  show (decide ((rs.map mkD).length ≤ 4000) && (rs.map mkD).all (isOk 1)) = true
  rw [List.length_map, decide_eq_true (show rs.length ≤ 4000 by omega), Bool.true_and, List.all_map]
  exact List.all_eq_true.mpr fun p _ => rfl
theorem ok_trisD {ps qs : Mk} (h : IsMk qs) : isOk 2 (trisD (lackL ps qs)) = true := by
  have h1 := h.len
  have h2 : (lackL ps qs).length ≤ qs.length := by
    unfold lackL
    rw [List.length_map]
    exact List.length_filter_le _ _
  show (decide (((lackL ps qs).map triD).length ≤ 4000) && ((lackL ps qs).map triD).all (isOk 1)) = true
  rw [List.length_map, decide_eq_true (show (lackL ps qs).length ≤ 4000 by omega), Bool.true_and, List.all_map]
  exact List.all_eq_true.mpr fun p _ => rfl
theorem mk_with {ps qs : Mk} (h : IsMk qs) : IsMk (withL (lackL ps qs)) := by
  rw [with_lack]
  exact mk_filter h _
theorem tup_inj {l l' : Mk} (e : tupD l = tupD l') : l = l' := by
  unfold tupD at e
  injection e with e
  exact List.map_inj_right (fun x y z => by
    unfold mkD at z
    injection z with z
    injection z with z1 z2
    injection z1 with z1
    injection z2 with z2 _
    injection z2 with z2
    exact Prod.ext z1 z2) |>.mp e
theorem no_mk {ps qs : Mk} (m1 : IsMk ps) (m2 : IsMk qs) (n : (dueD (tupD ps) && dueD (tupD qs)) = false) : False := by
  rw [due_of m1, due_of m2] at n
  cases n
abbrev rTrue : Addr → Mk → Mk → V → Hp → Prop := fun _ _ _ v _ => v = .bl true
abbrev sRight : Stmt := top 38
theorem scRight : FnScope ["one", "other", "due"] ["one", "other"] (defScope sRight) := ⟨rfl, rfl, rfl, by decide +kernel, rfl, by decide +kernel, by decide +kernel⟩
/-- the defs that the law leans on -/
structure Ds (P : Program) (w : World) (K : PySem.W.Frag) (mg : Str → Option Value) (base : Heap) (C : Addr) : Prop where
  lacking : DfX P w K mg base "lacking" 7 ["mark", "other"] (spTwo K C (rLack K))
  holds : DfX P w K mg base "holds" 8 ["mark", "other"] (spTwo K C rHolds)
  both : DfX P w K mg base "both" 7 ["mark", "other"] (spTwo K C (rBoth K))
  lacks : Df P w K mg base "_law_lacks" 1 ["mark", "other"] (spM2 K (rLack K))
  joined : Df P w K mg base "_law_joined" 1 ["mark", "other"] (spM2 K (rBoth K))
  with_ : Df P w K mg base "_law_with" 2 ["mark", "triples"] (spWith K)
  is : Df P w K mg base "_law_is" 3 ["told", "due"] (spIs K 3)
theorem ok_right {f C : Addr} {fd : FuncData} (F : FnP K "_law_are_two_right" sRight f fd) (D : Ds P w K mg base C) : FnOk P w K mg base CX0 9 f fd ["one", "other"] (spM2 K rTrue) := by
  refine F.ok scRight spM2_len (fun cdv A outer s H vs Q E hr h => ?_)
  obtain ⟨a, v1, v2, ps, qs, rfl, hl, m1, m2, h1, h2, yes⟩ := h
  refine ⟨_, PSs.nox (pss_cons (ps_set (i := 2) scRight.nd rfl (Or.inl rfl) (pe_df D.lacks hr (by decide) (pa_cons (pv 0) (pa_cons (pv 1) pa_nil))))
      (pss_cons (ps_if (PW.pt (pw_or (pt_not (pt_val (pe_df D.is hr (by decide) (pa_cons (pe_dfX D.lacking L2.takes0 hr (by decide) (pa_cons (pv 0) (pa_cons (pv 1) pa_nil))) (pa_cons (pv 2) pa_nil))))) (pw_or1 (pt_not (pt_val (pe_df D.is hr (by decide) (pa_cons (pe_dfX D.holds L2.takes0 hr (by decide) (pa_cons (pv 0) (pa_cons (pv 1) pa_nil))) (pa_cons (pe_cmpR (op_eqD hr.units) (pv 2) (pe_tupF pa_nil) (nomark _)) pa_nil)))))))) (pss_one (ps_ret pe_bl)) pss_nil)
      (pss_cons (ps_if (PW.pt (pw_or (pt_not (pt_val (pe_df D.is hr (by decide) (pa_cons (pe_dfX D.both L2.takes0 hr (by decide) (pa_cons (pv 0) (pa_cons (pv 1) pa_nil))) (pa_cons (pe_df D.joined hr (by decide) (pa_cons (pv 0) (pa_cons (pv 1) pa_nil))) pa_nil))))) (pw_or1 (pt_not (pt_val (pe_df D.is hr (by decide) (pa_cons (pe_dfX D.both L2.takes0 hr (by decide) (pa_cons (pv 1) (pa_cons (pv 0) pa_nil))) (pa_cons (pe_dfX D.both L2.takes0 hr (by decide) (pa_cons (pv 0) (pa_cons (pv 1) pa_nil))) pa_nil)))))))) (pss_one (ps_ret pe_bl)) pss_nil)
      (pss_one (ps_ret (pe_and (pe_df D.is hr (by decide) (pa_cons (pe_df D.with_ hr (by decide) (pa_cons (pv 0) (pa_cons (pe_dfX D.lacking L2.takes0 hr (by decide) (pa_cons (pv 0) (pa_cons (pv 1) pa_nil))) pa_nil))) (pa_cons (pe_dfX D.both L2.takes0 hr (by decide) (pa_cons (pv 0) (pa_cons (pv 1) pa_nil))) pa_nil))) (pe_one (pe_cmpR op_isTrue (pe_dfX D.holds L2.takes0 hr (by decide) (pa_cons (pe_dfX D.both L2.takes0 hr (by decide) (pa_cons (pv 0) (pa_cons (pv 1) pa_nil))) (pa_cons (pv 1) pa_nil))) pe_bl (nomark _))))))))), ?_⟩
  have z1 := tup_len m1
  have z2 := tup_len m2
  refine ⟨_, rfl, _, rfl, a, v1, v2, ps, qs, rfl, hl, m1, m2, h1, h2, fun due H1 s1 hdue => ?_⟩
  refine ⟨_, rfl, _, rfl, a, v1, v2, _, _, rfl, hl.same s1, h1.kp (kp_same s1), h2.kp (kp_same s1), z1, z2, fun n => (no_mk m1 m2 n).elim, fun ps' qs' _ _ e1 e2 v3 H2 s2 r2 => ?_⟩
  cases tup_inj e1
  cases tup_inj e2
  refine ⟨_, rfl, v3, due, _, rfl, r2.dd, (hdue.kp (kp_same s2)).dd, ok_trisD m2, fun H3 s3 => ⟨_, rfl, iteF ?_⟩⟩
  have t3 := s1.trans (s2.trans s3)
  have hdue3 := hdue.kp (kp_same (s2.trans s3))
  refine ⟨_, rfl, _, rfl, a, v1, v2, _, _, rfl, hl.same t3, h1.kp (kp_same t3), h2.kp (kp_same t3), z1, z2, fun n => (no_mk m1 m2 n).elim, fun ps' qs' _ _ e1 e2 v4 H4 s4 r4 => ?_⟩
  cases tup_inj e1
  cases tup_inj e2
  have t4 := t3.trans s4
  refine ⟨_, rfl, Nat.zero_le _, fun p o hp ho => ⟨trisD (lackL ps qs), .tuple [], dd_dp ((hdue3.kp (kp_same s4)).dd.same (same_up hp)) (lay_tris _), .tup (TupN.sq ⟨o, upd_same, ho⟩) .nil, shp_tris _, by decide, ?_⟩⟩
  rw [eqv_tris]
  cases r4
  refine ⟨_, _, _, rfl, .bl _, .bl _, rfl, fun H5 s5 => ⟨_, rfl, iteF ?_⟩⟩
  have t5 := t4.trans ((same_up (o := .frz o (.tup [])) hp).trans s5)
  -- both(one, other), _law_joined(one, other)
  refine ⟨_, rfl, _, rfl, a, v1, v2, _, _, rfl, hl.same t5, h1.kp (kp_same t5), h2.kp (kp_same t5), z1, z2, fun n => (no_mk m1 m2 n).elim, fun ps' qs' _ _ e1 e2 v6 H6 s6 r6 => ?_⟩
  cases tup_inj e1
  cases tup_inj e2
  obtain ⟨rs, J, g6⟩ := r6
  have t6 := t5.trans s6
  refine ⟨_, rfl, _, rfl, a, v1, v2, ps, qs, rfl, hl.same t6, m1, m2, h1.kp (kp_same t6), h2.kp (kp_same t6), fun v7 H7 s7 r7 => ?_⟩
  obtain ⟨rs', J', g7⟩ := r7
  cases J.uniq J'
  refine ⟨v6, v7, _, rfl, (g6.kp (kp_same s7)).dd, g7.dd, ok_tupD J.ok, fun H8 s8 => ⟨_, rfl, iteF ?_⟩⟩
  have t8 := t6.trans (s7.trans s8)
  -- both(other, one), both(one, other)
  refine ⟨_, rfl, _, rfl, a, v2, v1, _, _, rfl, hl.same t8, h2.kp (kp_same t8), h1.kp (kp_same t8), z2, z1, fun n => (no_mk m2 m1 n).elim, fun ps' qs' _ _ e1 e2 v9 H9 s9 r9 => ?_⟩
  cases tup_inj e1
  cases tup_inj e2
  obtain ⟨rs9, J9, g9⟩ := r9
  cases J.uniq J9.symm
  have t9 := t8.trans s9
  refine ⟨_, rfl, _, rfl, a, v1, v2, _, _, rfl, hl.same t9, h1.kp (kp_same t9), h2.kp (kp_same t9), z1, z2, fun n => (no_mk m1 m2 n).elim, fun ps' qs' _ _ e1 e2 v10 H10 s10 r10 => ?_⟩
  cases tup_inj e1
  cases tup_inj e2
  obtain ⟨rs10, J10, g10⟩ := r10
  cases J.uniq J10
  refine ⟨v9, v10, _, rfl, (g9.kp (kp_same s10)).dd, g10.dd, ok_tupD J.ok, fun H11 s11 => ⟨_, rfl, ?_⟩⟩
  refine iteF ?_
  have t11 := t9.trans (s10.trans s11)
  -- the last row
  refine ⟨_, rfl, _, rfl, _, rfl, a, v1, v2, _, _, rfl, hl.same t11, h1.kp (kp_same t11), h2.kp (kp_same t11), z1, z2, fun n => (no_mk m1 m2 n).elim, fun ps' qs' _ _ e1 e2 v12 H12 s12 r12 => ?_⟩
  cases tup_inj e1
  cases tup_inj e2
  have t12 := t11.trans s12
  refine ⟨a, v1, v12, ps, lackL ps qs, rfl, hl.same t12, m1, mk_with m2, h1.kp (kp_same t12), r12, fun rs13 v13 H13 s13 J13 g13 => ?_⟩
  cases J.uniq (jn_with m1 m2 J13)
  have t13 := t12.trans s13
  refine ⟨_, rfl, _, rfl, a, v1, v2, _, _, rfl, hl.same t13, h1.kp (kp_same t13), h2.kp (kp_same t13), z1, z2, fun n => (no_mk m1 m2 n).elim, fun ps' qs' _ _ e1 e2 v14 H14 s14 r14 => ?_⟩
  cases tup_inj e1
  cases tup_inj e2
  obtain ⟨rs14, J14, g14⟩ := r14
  cases J.uniq J14
  refine ⟨v13, v14, _, rfl, (g13.kp (kp_same s14)).dd, g14.dd, ok_tupD J.ok, fun H15 s15 => ⟨_, rfl, iteT ?_⟩⟩
  have t15 := t13.trans (s14.trans s15)
  refine ⟨_, rfl, _, rfl, a, v1, v2, _, _, rfl, hl.same t15, h1.kp (kp_same t15), h2.kp (kp_same t15), z1, z2, fun n => (no_mk m1 m2 n).elim, fun ps' qs' _ _ e1 e2 v16 H16 s16 r16 => ?_⟩
  cases tup_inj e1
  cases tup_inj e2
  obtain ⟨rs16, J16, g16⟩ := r16
  cases J.uniq J16
  have t16 := t15.trans s16
  refine ⟨_, rfl, a, v16, v2, _, _, rfl, hl.same t16, g16, h2.kp (kp_same t16), tup_len J.ok, z2, fun n => (no_mk J.ok m2 n).elim, fun ps' qs' _ _ e1 e2 v17 H17 s17 r17 => ?_⟩
  cases tup_inj e1
  cases tup_inj e2
  have r18 : v17 = .bl (decide (lackL rs qs = [])) := r17
  rw [holds_both m1 m2 J, decide_eq_true rfl] at r18
  exact ⟨r18, rfl, yes _ _ (t16.trans s17) rfl⟩
end
end Sw
/-! set(xs), xs a list of ints. -/
namespace Sl
open PySem PySem.Spec PyProof.Rows L2
/-- the set that has just been laid -/
abbrev eSet (w : World) : Obj := { cls := .type "set", dict := none, data := .set #[] 0 (.fresh 0 0 (!w.params.followText "set-order")) }
section
variable {P : Program} {w : World} {A : Around} {E : Value → Shared → Prop} {s : Shared}
/-- set.__init__ of the new set over the list at l -/
theorem init_list {l : Addr} {its : Array Value} (ns : List Int) (hh : A.handled = none) (hl : s.heap.IsList l its) (hi : IntsAre its.toList ns) (hb : ns.length + 1 < scanBound) {R : PySem.Result → Shared → Prop}
    (h : ∀ (h' : Heap) (tk c : Nat), SetR w h' s.heap.objs.size (fun j => decide (j ∈ ns)) c → c ≤ ns.length → (∀ b o, s.heap.get? b = some o → h'.get? b = some o) → R (.ok (.ret .none)) { s with heap := h', toks := tk }) :
    codeAny (model P w) A (.call (.builtin "set.__init__") ⟨[.ref s.heap.objs.size, .ref l], []⟩) R { s with heap := s.heap.push (eSet w) } := by
  have at0 : (s.heap.push (eSet w)).get? s.heap.objs.size = some (eSet w) := Heap.get?_push_size _ rfl
  have ty0 : Shared.TypeIs { s with heap := s.heap.push (eSet w) } (.ref s.heap.objs.size) "set" := ⟨_, at0, rfl⟩
  have n0 : its.size = ns.length := (Array.length_toList (xs := its)).symm.trans (IntsAre.length hi)
  refine codeAny_call_builtin F.called_set.init.plain F.entry_set_init (check_set_init_1 ty0 ?_)
  obtain ⟨⟨c1, c2, c3, c4⟩, g1, g2, nl, g3⟩ := hl
  dsimp only at g2 g3
  subst g2 g3
  have lS : l < s.heap.objs.size := Heap.lt_size g1
  have gl : (s.heap.push (eSet w)).get? l = some { cls := .type "list", dict := c2, data := .seq its nl, slots := c4 } := Heap.get?_push_of_some _ g1
  have hL : (s.heap.push (eSet w)).IsList l its := ⟨_, gl, rfl, nl, rfl⟩
  have k1 := F.sub_list_set
  have k2 := F.sub_list_frozenset
  have k3 : (Value.type "list" == Value.type "dict") = false := by decide
  unfold Builtin.«set.__init__» noKeywords Builtin.Frozenset.updateFrom
  generalize hP : pyIter = Pi
  wp_walk
  subst hP
  refine wpAny_pyIter_list hL (wpAny_bind (wpAny_runValue ?_))
  have e2 : (s.heap.push (eSet w)).objs.size = s.heap.objs.size + 1 := Heap.size_push ..
  have l2 : l ≠ (s.heap.push (eSet w)).objs.size := by rw [e2]; exact Nat.ne_of_lt (Nat.lt_succ_of_lt lS)
  have q2 : s.heap.objs.size ∉ [(s.heap.push (eSet w)).objs.size, l] := fun m => by
    rw [e2] at m
    rcases List.mem_cons.mp m with m | m
    · exact absurd m (Nat.ne_of_lt (Nat.lt_succ_self _))
    · exact absurd (List.mem_singleton.mp m) (Nat.ne_of_gt lS)
  have at2 := Heap.get?_push_of_some { cls := .type "list_iterator", data := .fields #[.ref l, .int 0 0] } at0
  refine set_update_ints ((Walks.list (by simp [hh]) _ l l2 its).toS) s.heap.objs.size q2 ns n0 hb (fun i v hv => ?_) (its.size - 0) 0 _ (by omega) (Nat.zero_le _) ⟨⟨_, Heap.get?_push_size _ rfl, rfl, rfl⟩, hL.push _⟩ ⟨0, Nat.le_refl 0, setR_new_at at2⟩ fun s' c' mv hc hR => ?_
  · have lt : i < ns.length := n0 ▸ (Array.getElem?_eq_some_iff.mp hv).1
    obtain ⟨t, et⟩ := PyProof.Rows.IntsAre.int_at hi i v (by rw [Array.getElem?_toList]; exact hv)
    exact ⟨ns[i], t, List.getElem?_eq_getElem lt, by rw [et, List.getD_eq_getElem?_getD, List.getElem?_eq_getElem lt] <;> rfl⟩
  · obtain ⟨h', z1, z2, tk', z3⟩ := s'
    cases (mv.gens : z1 = s.gens)
    cases (mv.drawn : z2 = s.drawn)
    cases (mv.os : z3 = s.os)
    show wpAny _ _ _ _ _ _
    refine wpAny_pure (wpAny_pure (h h' tk' c' hR (n0 ▸ hc) fun b o e => ?_))
    have b0 := Heap.lt_size e
    refine mv.heap b o (fun m => ?_) (Heap.get?_push_of_some _ (Heap.get?_push_of_some _ e))
    rw [e2] at m
    rcases List.mem_cons.mp m with m | m
    · exact absurd m (Nat.ne_of_lt b0)
    · exact absurd (List.mem_singleton.mp m) (Nat.ne_of_lt (Nat.lt_succ_of_lt b0))
theorem call_setL {l : Addr} {its : Array Value} (ns : List Int) {Q : Value → Shared → Prop} (hh : A.handled = none) (hl : s.heap.IsList l its) (hi : IntsAre its.toList ns) (hb : ns.length + 1 < scanBound)
    (h : ∀ (h' : Heap) (tk c : Nat), SetR w h' s.heap.objs.size (fun j => decide (j ∈ ns)) c → c ≤ ns.length → (∀ b o, s.heap.get? b = some o → h'.get? b = some o) → Q (.ref s.heap.objs.size) { s with heap := h', toks := tk }) :
    wpAny (model P w) A (call (.type "set") [.ref l]) Q E s := by
  have m1 := F.called_set.mro
  obtain ⟨mc, mt, m1⟩ := m1
  have m2 := F.called_set.made
  have m3 := F.called_set.sub
  have m4 := F.called_set.notType
  have m5 := F.called_set.canCreate
  have m6 := F.typeCall_set_1 (.ref l)
  have m7 := F.called_set.init.lookup
  have m8 := F.called_set.init.bind (.ref s.heap.objs.size)
  refine wpAny_call (codeAny_of_tree (wpAny_pure (Q := _) (show _ ∧ _ from ⟨Code.quiet_builtin _ (by decide +kernel), codeAny_builtin F.entry_type_call ?_⟩)))
  rw [Around.under_plain (weight_type_call_type "set" [.ref l] []) rfl]
  repeat (any_goals (first | assumption | wp_step))
  refine codeAny_mono (code_set_led1 (.ref l) (E := E) (Q₁ := fun obj t => obj = .ref s.heap.objs.size ∧ t = { s with heap := s.heap.push (eSet w) }) ⟨rfl, rfl⟩) fun r t hr => ?_
  match r, hr with
  | .error e, hr => exact hr
  | .ok (.ret obj), hr =>
    obtain ⟨rfl, rfl⟩ := hr
    have at0 : (s.heap.push (eSet w)).get? s.heap.objs.size = some (eSet w) := Heap.get?_push_size _ rfl
    have ty0 : Shared.TypeIs { s with heap := s.heap.push (eSet w) } (.ref s.heap.objs.size) "set" := ⟨_, at0, rfl⟩
    repeat (any_goals (first | assumption | wp_step))
    refine codeAny_mono (init_list (A := A.in1) ns hh hl hi hb (R := wants (fun r t => r = .none ∧ Q (.ref s.heap.objs.size) t) E) fun h' tk c a1 a2 a3 => ⟨rfl, h h' tk c a1 a2 a3⟩) fun r2 t2 hr2 => ?_
    match r2, hr2 with
    | .error e, hr2 => exact hr2
    | .ok (.ret v), hr2 =>
      obtain ⟨rfl, q⟩ := hr2
      repeat (any_goals (first | assumption | wp_step))
      all_goals exact q
    | .ok .next, hr2 => exact hr2.elim
    | .ok .brk, hr2 => exact hr2.elim
    | .ok .cont, hr2 => exact hr2.elim
  | .ok .next, hr => exact hr.elim
  | .ok .brk, hr => exact hr.elim
  | .ok .cont, hr => exact hr.elim
/-- set(xs) -/
def rSetL (K : PySem.W.Frag) (w : World) : List V → Hp → VK → Prop := fun vs H Q => ∃ (a : Addr) (ns : List Int), vs = [.ref a] ∧ SqL K H a (ns.map V.int) ∧ ns.length ≤ 1000 ∧
  ∀ p c, c ≤ ns.length → H p = none → Q (.ref p) (upd H p (SetO w p (fun j => decide (j ∈ ns)) c))
theorem cr_setL {X : Cx} (hc : X.calm = true) : CallR X (.type "set") (rSetL X.K X.w) := by
  intro pins s σ H vs us Q I r h
  obtain ⟨a, ns, rfl, hs, hz, q⟩ := h
  obtain ⟨its, rv, hl, _⟩ := I.list hs
  obtain ⟨u, rfl, ru⟩ := vals1 r
  cases (show u = Value.ref a from ru)
  refine call_setL ns (I.ok.hd hc) hl.isList (by rw [show its.toArray.toList = its from rfl]; exact intsAre_of rv) (by unfold scanBound; omega) fun h' tk c R hcn k => ?_
  exact ⟨.ref s.heap.objs.size, _, I.laid (t' := tk) k (Nat.le_refl _) (setO_new R), rfl, q _ c hcn (I.hok.fresh (Nat.le_refl _))⟩
end
end Sl
namespace Sw
open PySem PySem.Spec PyProof.Rows L2 Tn Vd Xv RZ
section
variable {P : Program} {w : World} {K : PySem.W.Frag} {mg : Str → Option Value} {base : Heap}
theorem HandC.live {H : Hp} {a c : Addr} (h : HandC H a c) : Live a H := by
  obtain ⟨cs, i, b, sd, n, z⟩ := h
  exact ⟨_, z.at_⟩
theorem keep_same {a : Addr} {H H' : Hp} (s : Same H H') : Keep a H H' := fun b o _ h => s b o h
theorem HandC.same {H H' : Hp} {a c : Addr} (h : HandC H a c) (k : Same H H') : HandC H' a c := by
  obtain ⟨cs, i, b, sd, n, x⟩ := h
  exact ⟨cs, i, b, sd, n, k _ _ x.at_, k _ _ x.cells, x.len, x.pos, x.i0, x.b0, x.s0, x.n0⟩
theorem HandC.set {H : Hp} {a c D : Addr} {o : HO} (h : HandC H a c) (n1 : D ≠ a) (n2 : D ≠ c) : HandC (upd H D o) a c := by
  obtain ⟨cs, i, b, sd, n, x⟩ := h
  exact ⟨cs, i, b, sd, n, by rw [upd_ne n1.symm]; exact x.at_, by rw [upd_ne n2.symm]; exact x.cells, x.len, x.pos, x.i0, x.b0, x.s0, x.n0⟩
theorem HandC.cne {H : Hp} {a c D : Addr} (h : HandC H a c) (n : H D = none) : D ≠ c := fun e => by
  obtain ⟨cs, i, b, sd, k, x⟩ := h
  have := x.cells
  rw [← e, n] at this
  cases this
/-! ### _law_deep -/
abbrev sDeep : Stmt := top 30
theorem scDeep : FnScope ["hand", "thing", "turn"] ["hand", "thing"] (defScope sDeep) := ⟨rfl, rfl, rfl, by decide +kernel, rfl, by decide +kernel, by decide +kernel⟩
def spDeep (K : PySem.W.Frag) : Sp := fun vs H Q _ => ∃ (a c : Addr) (v : V) (d : PyData), vs = [.ref a, v] ∧ HandC H a c ∧ Dv a K H v d ∧ ∀ v' d' H', HandC H' a c → Keep a H H' → Dv a K H' v' d' → topLen d' ≤ 1 → Q v' H'
abbrev DDraw (P : Program) (w : World) (K : PySem.W.Frag) (mg : Str → Option Value) (base : Heap) : Prop := Df P w K mg base "_law_draw" 1 ["hand", "many"] spDraw
abbrev DSome (P : Program) (w : World) (K : PySem.W.Frag) (mg : Str → Option Value) (base : Heap) : Prop := Df P w K mg base "_law_some" 2 ["hand", "things"] (spSome K)
theorem ok_deep {f : Addr} {fd : FuncData} (F : FnP K "_law_deep" sDeep f fd) (M : Nm mg) (DD : DDraw P w K mg base) (DS : DSome P w K mg base) : FnOk P w K mg base CX0 3 f fd ["hand", "thing"] (spDeep K) := by
  refine F.ok scDeep (fun vs H Q E h => ?_) (fun cdv A outer s H vs Q E hr h => ?_)
  · obtain ⟨a, c, v, d, rfl, _⟩ := h
    rfl
  obtain ⟨a, c, v, d, rfl, hh, hd, q⟩ := h
  refine ⟨_, PSs.nox (pss_cons (ps_for PassesOwn.never rfl (pi_range1 (by rfl) M.range (pa_cons (pe_op op_add pe_int (pe_df DD hr (by decide) (pa_cons (pv 0) (pa_cons pe_int pa_nil)))) pa_nil)) (pg_name (i := 2) scDeep.nd rfl (Or.inl rfl)) (pss_one (ps_set (i := 1) scDeep.nd rfl (Or.inl rfl) (pe_df DS hr (by decide) (pa_cons (pv 0) (pa_cons (pe_lst (pa_cons (pe_tupF (pa_cons (pv 1) pa_nil)) (pa_cons (pe_lst (pa_cons (pv 1) pa_nil)) pa_nil))) pa_nil))))))
      (pss_one (ps_ret (pv 1)))), ?_⟩
  refine ⟨_, rfl, a, c, _, rfl, hh, by decide, by decide, fun n H1 n0 n1 hh1 k1 => ?_⟩
  refine ⟨_, _, rfl, rfl, _, rfl, by omega, by omega, ?_⟩
  refine for_range (lo := 0) (n := (16 + n).toNat) (fun i σ H' => HandC H' a c ∧ Keep a H H' ∧ ∃ v d x2, σ = [some (.ref a), some v, x2] ∧ Dv a K H' v d ∧ (0 < i → topLen d ≤ 1)) ⟨hh1, k1, v, d, none, rfl, hd.kp (kp_keep k1), fun z => absurd z (Nat.lt_irrefl _)⟩ (fun i σ H' hi z => ?_) (fun σ H' z => ?_)
  · obtain ⟨hh2, k2, v, d, x2, rfl, hd, _⟩ := z
    refine ⟨_, rfl, _, rfl, by show 1 ≤ sizeLine; rw [sizeLine_eq]; decide, fun t o ht ho => ⟨_, rfl, by show 1 ≤ sizeLine; rw [sizeLine_eq]; decide, fun l hl => ⟨by show 2 ≤ sizeLine; rw [sizeLine_eq]; decide, fun L hL => ?_⟩⟩⟩
    have s1 : Same H' (upd H' t (.frz o (.tup [v]))) := same_up ht
    have a1 : (upd H' t (.frz o (.tup [v]))) t = some (.frz o (.tup [v])) := upd_same
    generalize upd H' t (.frz o (.tup [v])) = H2 at s1 a1 hl hL ⊢
    have s2 : Same H2 (upd H2 l (.lst [v])) := same_up hl
    have a2 : (upd H2 l (.lst [v])) l = some (.lst [v]) := upd_same
    generalize upd H2 l (.lst [v]) = H3 at s2 a2 hL ⊢
    have s3 : Same H3 (upd H3 L (.lst [.ref t, .ref l])) := same_up hL
    have a3 : (upd H3 L (.lst [.ref t, .ref l])) L = some (.lst [.ref t, .ref l]) := upd_same
    generalize upd H3 L (.lst [.ref t, .ref l]) = H4 at s3 a3 ⊢
    have sA := s1.trans (s2.trans s3)
    have nt := hh2.live.ne ht
    have nl := (hh2.live.same s1).ne hl
    have nL := (hh2.live.same (s1.trans s2)).ne hL
    refine ⟨a, c, L, _, rfl, hh2.same sA, nL, SqL.of a3, by show 0 < 2; decide, by show 2 ≤ 1000; decide, fun x H5 hx hh5 k5 => ?_⟩
    have k05 : Keep a H' H5 := fun b o' nb e => k5 b o' nb (sA b o' e)
    have hd5 := hd.kp (kp_keep k05)
    rcases List.mem_cons.mp hx with rfl | hx
    · exact ⟨hh5, k2.trans k05, _, .tuple [d], _, rfl, Dv.tup ⟨o, k5 _ _ nt (s3 _ _ (s2 _ _ a1)), ho⟩ nt (.cons hd5 .nil), fun _ => Nat.le_refl 1⟩
    · rw [List.mem_singleton.mp hx]
      exact ⟨hh5, k2.trans k05, _, .list [d], _, rfl, Dv.lst (k5 _ _ nl (s3 _ _ a2)) nl (.cons hd5 .nil), fun _ => Nat.le_refl 1⟩
  · obtain ⟨hh2, k2, v, d, x2, rfl, hd, z⟩ := z
    exact ⟨_, rfl, q v d H' hh2 k2 hd (z (by omega))⟩
/-! ### _law_drawn_mark -/
abbrev sDrawn : Stmt := top 31
theorem scDrawn : FnScope ["hand", "lives", "turn", "life"] ["hand"] (defScope sDrawn) := ⟨rfl, rfl, rfl, by decide +kernel, rfl, by decide +kernel, by decide +kernel⟩
def spDrawn (K : PySem.W.Frag) : Sp := fun vs H Q _ => ∃ a c : Addr, vs = [.ref a] ∧ HandC H a c ∧ ∀ v ps H', IsMk ps → HandC H' a c → Keep a H H' → Dv a K H' v (tupD ps) → Q v H'
theorem Keep.ne {a p b : Addr} {H H' : Hp} {o : HO} (k : Keep a H H') (n : H' p = none) (nb : b ≠ a) (h : H b = some o) : b ≠ p := fun e => by
  have := k b o nb h
  rw [e, n] at this
  cases this
theorem ok_drawn {f : Addr} {fd : FuncData} (F : FnP K "_law_drawn_mark" sDrawn f fd) (M : Nm mg) (DD : DDraw P w K mg base) (DS : DSome P w K mg base) : FnOk P w K mg base CX0 3 f fd ["hand"] (spDrawn K) := by
  refine F.ok scDrawn (fun vs H Q E h => ?_) (fun cdv A outer s H vs Q E hr h => ?_)
  · obtain ⟨a, c, rfl, _⟩ := h
    rfl
  obtain ⟨a, c, rfl, hh, q⟩ := h
  refine ⟨_, PSs.nox (pss_cons (ps_set (i := 1) scDrawn.nd rfl (Or.inl rfl) (pe_callB (r := rSortedSet w) (cr_sortedSet rfl) (by rfl) M.sorted (by decide +kernel) (pa_cons (pe_callTy (r := Sl.rSetL K w) (Sl.cr_setL rfl) (by rfl) M.set (by decide +kernel) (pa_cons (pe_lc (own := [("turn", 2)]) (g := gName 2) (tt := tYes) (by rfl) scDrawn.nd (pi_range1 (by rfl) M.range (pa_cons (pe_df DD hr (by decide) (pa_cons (pv 0) (pa_cons pe_int pa_nil))) pa_nil)) (blkOk_by (N := ["hand", "lives", "turn", "life"]) (sc := defScope sDrawn) (by decide +kernel)) (fun _ _ _ _ _ => pg_name (i := 2) scDrawn.nd rfl (Or.inl rfl)) (fun _ _ _ _ _ => pts_nil) (fun _ _ _ _ _ => (pe_df DS hr (by decide) (pa_cons (pv 0) (pa_cons (pe_lst (pa_cons pe_int (pa_cons pe_int (pa_cons pe_int (pa_cons pe_int (pa_cons pe_int (pa_cons pe_int (pa_cons pe_int (pa_cons pe_int (pa_cons pe_int pa_nil)))))))))) pa_nil))))) pa_nil)) pa_nil)))
      (pss_one (ps_ret (pe_tof (by rfl) M.tuple (pe_lc (own := [("life", 3)]) (g := gName 3) (tt := tYes) (by rfl) scDrawn.nd (pi_list (pv 1)) (blkOk_by (N := ["hand", "lives", "turn", "life"]) (sc := defScope sDrawn) (by decide +kernel)) (fun _ _ _ _ _ => pg_name (i := 3) scDrawn.nd rfl (Or.inl rfl)) (fun _ _ _ _ _ => pts_nil) (fun _ _ _ _ _ => (pe_tupF (pa_cons (pv 3) (pa_cons (pe_df DS hr (by decide) (pa_cons (pv 0) (pa_cons (pe_lst (pa_cons pe_int (pa_cons pe_int (pa_cons pe_int (pa_cons pe_int (pa_cons pe_int (pa_cons pe_int (pa_cons pe_int (pa_cons (pe_op op_pow pe_int pe_int) (pa_cons (pe_op op_pow pe_int pe_int) pa_nil)))))))))) pa_nil))) pa_nil))))))))), ?_⟩
  refine ⟨_, rfl, a, c, _, rfl, hh, by decide, by decide, fun n H1 n0 n1 hh1 k1 => ⟨n, rfl, by omega, by omega, fun D hD => ?_⟩⟩
  have nDa := hh1.live.ne hD
  have nDc := hh1.cne hD
  refine lc_range (n := n.toNat) (fun i H' => HandC H' a c ∧ Keep a H H' ∧ ∃ ns : List Int, H' D = some (.lst (ns.map V.int)) ∧ ns.length = i ∧ ∀ x ∈ ns, 1 ≤ x ∧ x ≤ 999) ⟨hh1.same (same_up hD), k1.trans (keep_same (same_up hD)), [], upd_same, rfl, fun _ z => nomatch z⟩ (fun i H' hi z => ?_) (fun H' z => ?_)
  · obtain ⟨hh2, k2, ns, eD, el, en⟩ := z
    refine ⟨rfl, _, rfl, by show 9 ≤ sizeLine; rw [sizeLine_eq]; decide, fun L hL => ?_⟩
    have sL := same_up (H := H') (o := .lst (([1, 2, 2, 3, 3, 7, 40, 998, 999] : List Int).map V.int)) hL
    refine ⟨a, c, L, ([1, 2, 2, 3, 3, 7, 40, 998, 999] : List Int).map V.int, rfl, hh2.same sL, hh2.live.ne hL, SqL.of upd_same, by decide, by decide, fun x H5 hx hh5 k5 => ?_⟩
    obtain ⟨m, hm, rfl⟩ := List.mem_map.mp hx
    have hm2 := (by decide : ∀ m ∈ ([1, 2, 2, 3, 3, 7, 40, 998, 999] : List Int), 1 ≤ m ∧ m ≤ 999) m hm
    have k25 : Keep a H' H5 := (keep_same sL).trans k5
    have eD5 := k25 _ _ nDa eD
    refine ⟨_, eD5, by rw [List.length_map, el, sizeLine_eq]; omega, hh5.set nDa nDc, fun b o nb e => by rw [upd_ne (k1.ne hD nb e)]; exact (k2.trans k25) b o nb e, ns ++ [m], by rw [upd_same, List.map_append]; rfl, by rw [List.length_append, el]; rfl, fun x hx => ?_⟩
    rcases List.mem_append.mp hx with hx | hx
    · exact en x hx
    · rw [List.mem_singleton.mp hx]
      exact hm2
  · obtain ⟨hh2, k2, ns, eD, el, en⟩ := z
    have nl : ns.length ≤ 7 := by omega
    refine ⟨D, ns, rfl, SqL.of eD, by omega, fun p z hc hp => ⟨p, _, z, rfl, upd_same, by omega, fun ys p2 st mem len hp2 => ?_⟩⟩
    have ym : ∀ y ∈ ys, 1 ≤ y ∧ y ≤ 999 := fun y hy => en y (by simpa using (mem y).mp hy)
    have yl : ys.length ≤ 7 := by omega
    have s3 : Same H' (upd (upd H' p (SetO w p (fun j => decide (j ∈ ns)) z)) p2 (.lst (ys.map V.int))) := (same_up hp).trans (same_up hp2)
    have e3 : (upd (upd H' p (SetO w p (fun j => decide (j ∈ ns)) z)) p2 (.lst (ys.map V.int))) p2 = some (.lst (ys.map V.int)) := upd_same
    have np2 : p2 ≠ a := (hh2.live.same (same_up hp)).ne hp2
    generalize upd (upd H' p (SetO w p (fun j => decide (j ∈ ns)) z)) p2 (.lst (ys.map V.int)) = H3 at s3 e3 ⊢
    have hh3 := hh2.same s3
    have k3 := k2.trans (keep_same s3)
    refine ⟨_, rfl, p2, rfl, ⟨_, SqL.of e3⟩, fun D2 hD2 => ?_⟩
    have nDa := hh3.live.ne hD2
    have nDc := hh3.cne hD2
    refine lc_list (xs := ys.map V.int) (fun i H' => HandC H' a c ∧ Keep a H3 H' ∧ ∃ (bs : List Addr) (ps : Mk), H' D2 = some (.lst (bs.map V.ref)) ∧ Paired (fun b (t : Int × Int) => TupN H' b [.int t.1, .int t.2] ∧ b ≠ a) bs ps ∧ ps.map (·.1) = ys.take i ∧ ∀ t ∈ ps, 1 ≤ t.2)
      ⟨hh3.same (same_up hD2), keep_same (same_up hD2), [], [], upd_same, .nil, rfl, fun _ z => nomatch z⟩ (fun i H' _ e => SqL.of (e.2.1 _ _ np2 e3)) (fun i x H4 hx e => ?_) (fun H4 e => ?_)
    · obtain ⟨hh4, k4, bs, ps, eD, pb, pf, pn⟩ := e
      obtain ⟨l, hlq, rfl⟩ : ∃ n, ys[i]? = some n ∧ x = V.int n := by
        rw [List.getElem?_map] at hx
        obtain ⟨n, h1, h2⟩ := Option.map_eq_some_iff.mp hx
        exact ⟨n, h1, h2.symm⟩
      refine ⟨rfl, _, rfl, _, rfl, _, _, rfl, rfl, ⟨by decide, by decide, by decide⟩, _, _, rfl, rfl, ⟨by decide, by decide, by decide⟩, by show 9 ≤ sizeLine; rw [sizeLine_eq]; decide, fun L hL => ?_⟩
      have sL := same_up (H := H4) (o := .lst (([1, 1, 2, 2, 3, 4, 9, 10 ^ 6, 10 ^ 39] : List Int).map V.int)) hL
      refine ⟨a, c, L, ([1, 1, 2, 2, 3, 4, 9, 10 ^ 6, 10 ^ 39] : List Int).map V.int, rfl, hh4.same sL, hh4.live.ne hL, SqL.of upd_same, by decide, by decide, fun x H5 hx hh5 k5 => ⟨by show 2 ≤ sizeLine; rw [sizeLine_eq]; decide, fun b o hb ho => ?_⟩⟩
      obtain ⟨m, hm, rfl⟩ := List.mem_map.mp hx
      have hm2 := (by decide +kernel : ∀ m ∈ ([1, 1, 2, 2, 3, 4, 9, 10 ^ 6, 10 ^ 39] : List Int), 1 ≤ m) m hm
      have k45 : Keep a H4 H5 := (keep_same sL).trans k5
      have eD5 := k45 _ _ nDa eD
      have nDb : D2 ≠ b := ne_of_none eD5 hb
      have il : i < ys.length := (List.getElem?_eq_some_iff.mp hlq).1
      have pl : ps.length ≤ 7 := by
        have := congrArg List.length pf
        rw [List.length_map, List.length_take] at this
        omega
      refine ⟨bs.map V.ref, by rw [upd_ne nDb]; exact eD5, by rw [List.length_map, Paired.length pb, sizeLine_eq]; omega, (hh5.same (same_up hb)).set nDa nDc, fun b' o' nb e => ?_, bs ++ [b], ps ++ [(l, m)], by rw [upd_same, List.map_append]; rfl, ?_, ?_, fun t ht => ?_⟩
      · have h4 := k4 b' o' nb e
        have h5 := k45 b' o' nb h4
        rw [upd_ne (ne_of_none e hD2), upd_ne (ne_of_none h5 hb)]
        exact h5
      · refine pair_snoc (Paired.mapP pb fun b' t' z => ⟨?_, z.2⟩) ⟨⟨o, ?_, ho⟩, hh5.live.ne hb⟩
        · obtain ⟨o', z1, z2⟩ := z.1
          have z3 := k45 _ _ z.2 z1
          exact ⟨o', by rw [upd_ne (at_ne' z1 eD), upd_ne (ne_of_none z3 hb)]; exact z3, z2⟩
        · rw [upd_ne nDb.symm, upd_same]
      · rw [List.map_append, pf, List.take_add_one, hlq]
        rfl
      · rcases List.mem_append.mp ht with ht | ht
        · exact pn t ht
        · rw [List.mem_singleton.mp ht]
          exact hm2
    · obtain ⟨hh4, k4, bs, ps, eD, pb, pf, pn⟩ := e
      refine ⟨D2, _, rfl, SqL.of eD, fun b o hb ho => ?_⟩
      rw [List.length_map, List.take_of_length_le (Nat.le_refl _)] at pf
      have mk : IsMk ps := by
        refine ⟨List.pairwise_map.mp (by rw [pf]; exact st), fun t ht => ?_⟩
        have := ym t.1 (by rw [← pf]; exact List.mem_map.mpr ⟨t, ht, rfl⟩)
        exact ⟨this.1, this.2, pn t ht⟩
      exact q (.ref b) ps _ mk (hh4.same (same_up hb)) ((k3.trans k4).trans (keep_same (same_up hb))) (tris_new hh4.live hb ho (mk_all pb))

end
end Sw
namespace Sw
open PySem PySem.Spec PyProof.Rows L2 Tn Vd Xv RZ
section
variable {P : Program} {w : World} {K : PySem.W.Frag} {mg : Str → Option Value} {base : Heap}
/-! ### readings that give some data -/
def YE (a c : Addr) (K : PySem.W.Frag) (H0 : Hp) (σ : L2.St) (t : TE) : Prop := ∀ (H : Hp) (Q : VK), HandC H a c → Keep a H0 H → (∀ v d H', topLen d ≤ 4000 → HandC H' a c → Keep a H H' → Dv a K H' v d → Q v H') → t σ H Q
def YA (a c : Addr) (K : PySem.W.Frag) (H0 : Hp) (σ : L2.St) (t : TA) (n : Nat) : Prop := ∀ (H : Hp) (Q : List V → Hp → Prop), HandC H a c → Keep a H0 H → (∀ vs ds H', vs.length = n → (∀ d ∈ ds, topLen d ≤ 4000) → HandC H' a c → Keep a H H' → DvAll a K H' vs ds → Q vs H') → t σ H Q
def YT (a c : Addr) (K : PySem.W.Frag) (H0 : Hp) (σ : L2.St) (t : TE) (m : Nat) : Prop := ∀ (H : Hp) (Q : VK), HandC H a c → Keep a H0 H → (∀ v ds H', ds.length ≤ m → HandC H' a c → Keep a H H' → Dv a K H' v (.tuple ds) → Q v H') → t σ H Q
variable {a c : Addr} {H0 : Hp} {σ : L2.St}
theorem _root_.Vd.Dv.ky {H H' : Hp} {v : V} {d : PyData} (h : Dv a K H v d) (k : Keep a H H') : Dv a K H' v d := h.kp (kp_keep k)
theorem _root_.Vd.DvAll.ky {H H' : Hp} {v : List V} {d : List PyData} (h : DvAll a K H v d) (k : Keep a H H') : DvAll a K H' v d := DdAll.same (kp_keep k) h
theorem ye_int {i : Int} : YE a c K H0 σ (tC (.int i)) := fun H Q hh k q => q _ _ H (Nat.zero_le _) hh .refl (.int i)
theorem ye_bl {i : Bool} : YE a c K H0 σ (tC (.bl i)) := fun H Q hh k q => q _ _ H (Nat.zero_le _) hh .refl (.bl i)
theorem ye_str {i : Str} : YE a c K H0 σ (tC (.str i)) := fun H Q hh k q => q _ _ H (Nat.zero_le _) hh .refl (.str i)
theorem ye_non : YE a c K H0 σ (tC .non) := fun H Q hh k q => q _ _ H (Nat.zero_le _) hh .refl .non
theorem ye_neg {i : Int} : YE a c K H0 σ (tUn (rU fun i => .int (-i)) (tC (.int i))) := fun H Q hh k q => ⟨i, rfl, q _ _ H (Nat.zero_le _) hh .refl (.int (-i))⟩
theorem ye_pow : YE a c K H0 σ (tOp (rI CPow fun i j => .int (i ^ j.toNat)) (tC (.int 10)) (tC (.int 30))) := fun H Q hh k q => ⟨_, _, rfl, rfl, ⟨by decide, by decide, by decide⟩, q _ _ H (Nat.zero_le _) hh .refl (.int _)⟩
theorem ye_var {i : Nat} {v : V} {d : PyData} (h : σ[i]? = some (some v)) (hd : Dv a K H0 v d) (z : topLen d ≤ 4000) : YE a c K H0 σ (tVar i) := fun H Q hh k q => ⟨v, h, q v d H z hh .refl (hd.ky k)⟩
theorem ya_nil : YA a c K H0 σ tNil 0 := fun H Q hh k q => q [] [] H rfl (fun _ z => nomatch z) hh .refl .nil
theorem ya_cons {t : TE} {ta : TA} {n : Nat} (h : YE a c K H0 σ t) (ha : YA a c K H0 σ ta n) : YA a c K H0 σ (tCons t ta) (n + 1) := fun H Q hh k q =>
  h H _ hh k fun v d H1 z hh1 k1 hd => ha H1 _ hh1 (k.trans k1) fun vs ds H2 len zs hh2 k2 hds => q (v :: vs) (d :: ds) H2 (by rw [List.length_cons, len]) (fun x hx => by
    rcases List.mem_cons.mp hx with rfl | hx
    · exact z
    · exact zs x hx) hh2 (k1.trans k2) (.cons (hd.ky k2) hds)
theorem ye_tup {ta : TA} {n : Nat} (ha : YA a c K H0 σ ta n) (hn : n ≤ 4000 := by decide) : YE a c K H0 σ (tTupF ta) := fun H Q hh k q =>
  ha H _ hh k fun vs ds H1 len zs hh1 k1 hds => ⟨by rw [len, sizeLine_eq]; omega, fun p o hp ho => q _ (.tuple ds) _ (by show ds.length ≤ 4000; rw [← dall_len hds, len]; exact hn) (hh1.same (same_up hp)) (k1.trans (keep_same (same_up hp))) (tris_new hh1.live hp ho hds)⟩
theorem ye_lst {ta : TA} {n : Nat} (ha : YA a c K H0 σ ta n) (hn : n ≤ 4000 := by decide) : YE a c K H0 σ (tLst ta) := fun H Q hh k q =>
  ha H _ hh k fun vs ds H1 len zs hh1 k1 hds => ⟨by rw [len, sizeLine_eq]; omega, fun p hp => q _ (.list ds) _ (by show ds.length ≤ 4000; rw [← dall_len hds, len]; exact hn) (hh1.same (same_up hp)) (k1.trans (keep_same (same_up hp))) (Dv.lst upd_same (hh1.live.ne hp) (hds.kp (kp_up hp)))⟩
theorem yt_e {t : TE} {m : Nat} (h : YT a c K H0 σ t m) (hm : m ≤ 4000 := by decide) : YE a c K H0 σ t := fun H Q hh k q => h H Q hh k fun v ds H1 l hh1 k1 hd => q v _ H1 (by show ds.length ≤ 4000; omega) hh1 k1 hd
theorem yt_tup {ta : TA} {n : Nat} (ha : YA a c K H0 σ ta n) (hn : n ≤ 4000 := by decide) : YT a c K H0 σ (tTupF ta) n := fun H Q hh k q =>
  ha H _ hh k fun vs ds H1 len zs hh1 k1 hds => ⟨by rw [len, sizeLine_eq]; omega, fun p o hp ho => q _ ds _ (by rw [← dall_len hds, len]; exact Nat.le_refl _) (hh1.same (same_up hp)) (k1.trans (keep_same (same_up hp))) (tris_new hh1.live hp ho hds)⟩
theorem yt_var {i : Nat} {v : V} {ds : List PyData} {m : Nat} (h : σ[i]? = some (some v)) (hd : Dv a K H0 v (.tuple ds)) (z : ds.length ≤ m) : YT a c K H0 σ (tVar i) m := fun H Q hh k q => ⟨v, h, q v ds H z hh .refl (hd.ky k)⟩
theorem yt_cat {t u : TE} {m n : Nat} (h : YT a c K H0 σ t m) (h' : YT a c K H0 σ u n) (hm : m + n ≤ 8000 := by decide) : YT a c K H0 σ (tOp (rCatF K) t u) (m + n) := fun H Q hh k q =>
  h H _ hh k fun v1 d1 H1 l1 hh1 k1 e1 => h' H1 _ hh1 (k.trans k1) fun v2 d2 H2 l2 hh2 k2 e2 => by
    have e1' := e1.ky k2
    obtain ⟨p1, xs1, rfl, t1, g1⟩ := e1'.ofTup
    obtain ⟨p2, xs2, rfl, t2, g2⟩ := e2.ofTup
    have z1 := dall_len g1
    have z2 := dall_len g2
    refine ⟨p1, p2, xs1, xs2, rfl, rfl, (tupN_vis t1).sq, (tupN_vis t2).sq, by rw [z1, z2, sizeLine_eq]; omega, fun e => ?_, fun _ e => ?_, fun _ _ p o hp ho => ?_⟩
    · exact q _ d2 H2 (by omega) hh2 (k1.trans k2) e2
    · exact q _ d1 H2 (by omega) hh2 (k1.trans k2) e1'
    · exact q _ (d1 ++ d2) _ (by rw [List.length_append]; omega) (hh2.same (same_up hp)) ((k1.trans k2).trans (keep_same (same_up hp))) (tris_new hh2.live hp ho (dall_app g1 g2))
theorem dall_cut {H : Hp} {vs : List V} {ds : List PyData} (h : DdAll K H vs ds) (lo hi : Option Int) : ∃ es, DdAll K H (cutV vs lo hi) es ∧ es.length ≤ ds.length := by
  refine ⟨_, dall_take _ (dall_drop _ h), ?_⟩
  rw [List.length_take, List.length_drop]
  omega
theorem yt_sl {t : TE} {tl th : TO} {lo hi : Option Int} {m : Nat} (h : YT a c K H0 σ t m) (hl : ∀ H (Q : Option Int → Hp → Prop), Q lo H → tl σ H Q) (hu : ∀ H (Q : Option Int → Hp → Prop), Q hi H → th σ H Q) : YT a c K H0 σ (tSl (rSlF K) t tl th) m := fun H Q hh k q =>
  h H _ hh k fun v1 d1 H1 l1 hh1 k1 e1 => hl H1 _ (hu H1 _ (by
    obtain ⟨p1, xs1, rfl, t1, g1⟩ := e1.ofTup
    refine ⟨p1, xs1, rfl, (tupN_vis t1).sq, fun _ => q _ d1 H1 l1 hh1 k1 e1, fun _ p o hp ho => ?_⟩
    obtain ⟨es, g, gl⟩ := dall_cut g1 lo hi
    exact q _ es _ (by omega) (hh1.same (same_up hp)) (k1.trans (keep_same (same_up hp))) (tris_new hh1.live hp ho g)))
/-- a list of such things -/
structure LD (a : Addr) (K : PySem.W.Frag) (H : Hp) (L : Addr) (n : Nat) : Prop where
  ex : ∃ vs ds, H L = some (.lst vs) ∧ DvAll a K H vs ds ∧ vs.length = n ∧ ∀ d ∈ ds, topLen d ≤ 4000
  ne : L ≠ a
theorem LD.ky {H H' : Hp} {L : Addr} {n : Nat} (h : LD a K H L n) (k : Keep a H H') : LD a K H' L n := by
  obtain ⟨⟨vs, ds, h1, h2, h3, h4⟩, ne⟩ := h
  exact ⟨⟨vs, ds, k _ _ ne h1, h2.ky k, h3, h4⟩, ne⟩
theorem ld_lst {ta : TA} {n : Nat} {H : Hp} {Q : VK} (ha : YA a c K H0 σ ta n) (hh : HandC H a c) (k : Keep a H0 H) (hn : n ≤ 4000) (q : ∀ L H', HandC H' a c → Keep a H H' → LD a K H' L n → Q (.ref L) H') : tLst ta σ H Q :=
  ha H _ hh k fun vs ds H1 len zs hh1 k1 hds => ⟨by rw [len, sizeLine_eq]; omega, fun p hp => q p _ (hh1.same (same_up hp)) (k1.trans (keep_same (same_up hp))) ⟨⟨vs, ds, upd_same, hds.kp (kp_up hp), len, zs⟩, hh1.live.ne hp⟩⟩
theorem ld_cat {i n m : Nat} {L : Addr} {ta : TA} {H : Hp} {Q : VK} (hσ : σ[i]? = some (some (.ref L))) (hL : LD a K H L n) (ha : YA a c K H0 σ ta m) (hh : HandC H a c) (k : Keep a H0 H) (hn : n + m ≤ 4000) (q : ∀ L' H', HandC H' a c → Keep a H H' → LD a K H' L' (n + m) → Q (.ref L') H') :
    tOp rCat (tVar i) (tLst ta) σ H Q := ⟨_, hσ, ld_lst (n := m) ha hh k (by omega) fun L2 H1 hh1 k1 l2 => by
  obtain ⟨⟨vs, ds, h1, h2, h3, h4⟩, ne⟩ := hL.ky k1
  obtain ⟨⟨us, es, g1, g2, g3, g4⟩, ne2⟩ := l2
  refine ⟨L, L2, _, _, rfl, rfl, h1, g1, by rw [h3, g3, sizeLine_eq]; omega, fun p hp => q p _ (hh1.same (same_up hp)) (k1.trans (keep_same (same_up hp))) ⟨⟨_, ds ++ es, upd_same, (DvAll.kp (dall_app h2 g2) (kp_up hp)), by rw [List.length_append, h3, g3], fun d hd => ?_⟩, hh1.live.ne hp⟩⟩
  rcases List.mem_append.mp hd with hd | hd
  · exact h4 d hd
  · exact g4 d hd⟩
/-- one of them -/
theorem ld_some {H : Hp} {L : Addr} {n : Nat} {Q : VK} {E : XK} (hL : LD a K H L n) (hh : HandC H a c) (h0 : 0 < n) (h1 : n ≤ 1000) (q : ∀ v d H', topLen d ≤ 4000 → HandC H' a c → Keep a H H' → Dv a K H' v d → Q v H') : spSome K [.ref a, .ref L] H Q E := by
  obtain ⟨⟨vs, ds, e1, e2, e3, e4⟩, ne⟩ := hL
  refine ⟨a, c, L, vs, rfl, hh, ne, SqL.of e1, by omega, by omega, fun x H' hx hh' k => ?_⟩
  obtain ⟨d, hd1, hd2⟩ := dall_mem e2 hx
  exact q x d H' (e4 d hd1) hh' k (Dv.ky hd2 k)
theorem ye_deep {t : TE} {i : Nat} (hσ : σ[i]? = some (some (.ref a))) (h : YE a c K H0 σ t) : YE a c K H0 σ (tCall (spDeep K) [] E0 (tCons (tVar i) (tCons t tNil))) := fun H Q hh k q =>
  ⟨_, hσ, h H _ hh k fun v d H1 z hh1 k1 hd => ⟨a, c, v, d, rfl, hh1, hd, fun v' d' H2 hh2 k2 hd2 z2 => q v' d' H2 (by omega) hh2 (k1.trans k2) hd2⟩⟩
theorem ye_one2 : YE a c K H0 σ (tDisp [(tC (.int 1), tC (.int 2))]) := fun H Q hh k q p hp => ⟨upd_same, [(Sum.inl 1, V.int 2)], rfl, by decide, by
  have e : upd (upd H p (.dK [])) p (.dK (mergeK [] [(Sum.inl 1, V.int 2)])) = upd H p (.dK [(Sum.inl 1, V.int 2)]) := by
    rw [upd_upd]
    rfl
  rw [e]
  exact q _ (.dict [(.int 1, .int 2)]) _ (Nat.zero_le _) (hh.same (same_up hp)) (keep_same (same_up hp)) (Dd.dct (vis_at upd_same (hh.live.ne hp) fun _ z => nomatch z) (.cons (.int 2) .nil))⟩
theorem kv_mk {H : Hp} : ∀ l : Mk, DdKv K H (l.map fK) (l.map fun p => (PyData.int p.1, PyData.int p.2))
  | [] => .nil
  | p :: r => .cons (k := Sum.inl p.1) (.int p.2) (kv_mk r)
theorem ye_dict {i : Nat} {v : V} {l : Mk} (h : σ[i]? = some (some v)) (hd : Dv a K H0 v (tupD l)) (m : IsMk l) : YE a c K H0 σ (tCB rDictT (tCons (tVar i) tNil)) := fun H Q hh k q => by
  obtain ⟨p1, as1, rfl, t1, w1⟩ := (mk_at (hd.ky k).dd).ex
  refine ⟨_, h, p1, as1, l.map fK, rfl, t1, pair_fK w1, fun p hp => ?_⟩
  rw [merge_mk m]
  exact q _ (.dict (l.map fun p => (PyData.int p.1, PyData.int p.2))) _ (Nat.zero_le _) (hh.same (same_up hp)) (keep_same (same_up hp)) (Dd.dct (vis_at upd_same (hh.live.ne hp) fun _ z => nomatch z) (kv_mk l))
def rLof (K : PySem.W.Frag) : List V → Hp → VK → Prop := fun xs H Q => ∃ p ys, xs = [.ref p] ∧ (SqL K H p ys ∨ SqT K H p ys) ∧ ∀ l, H l = none → Q (.ref l) (upd H l (.lst ys))
theorem call_lof {X : Cx} : CallR X (.type "list") (rLof X.K) := call_list_of
theorem ye_list {i : Nat} {v : V} {ds : List PyData} (h : σ[i]? = some (some v)) (hd : Dv a K H0 v (.tuple ds)) (z : ds.length ≤ 4000) : YE a c K H0 σ (tCB (rLof K) (tCons (tVar i) tNil)) := fun H Q hh k q => by
  obtain ⟨p1, xs1, rfl, t1, g1⟩ := (hd.ky k).ofTup
  exact ⟨_, h, p1, xs1, rfl, .inr (tupN_vis t1).sq, fun p hp => q _ (.list ds) _ z (hh.same (same_up hp)) (keep_same (same_up hp)) (Dv.lst upd_same (hh.live.ne hp) (DvAll.kp g1 (kp_up hp)))⟩
/-! ### _law_odd -/
abbrev sOdd : Stmt := top 32
theorem scOdd : FnScope ["hand", "mark", "at", "pairs", "pair", "found"] ["hand", "mark"] (defScope sOdd) := ⟨rfl, rfl, rfl, by decide +kernel, rfl, by decide +kernel, by decide +kernel⟩
def spOdd (K : PySem.W.Frag) : Sp := fun vs H Q _ => ∃ (a c : Addr) (v : V) (l : Mk), vs = [.ref a, v] ∧ HandC H a c ∧ IsMk l ∧ Dv a K H v (tupD l) ∧ ∀ v' d' H', topLen d' ≤ 4000 → HandC H' a c → Keep a H H' → Dv a K H' v' d' → Q v' H'
theorem ok_odd {f : Addr} {fd : FuncData} (F : FnP K "_law_odd" sOdd f fd) (M : Nm mg) (DD : DDraw P w K mg base) (DS : DSome P w K mg base) (DP : Df P w K mg base "_law_deep" 3 ["hand", "thing"] (spDeep K)) : FnOk P w K mg base CX0 4 f fd ["hand", "mark"] (spOdd K) := by
  refine F.ok scOdd (fun vs H Q E h => ?_) (fun cdv A outer s H vs Q E hr h => ?_)
  · obtain ⟨a, c, v, l, rfl, _⟩ := h
    rfl
  obtain ⟨a, c, v, l, rfl, hh, ml, hd, q⟩ := h
  refine ⟨_, PSs.nox (pss_cons (ps_set (i := 2) scOdd.nd rfl (Or.inl rfl) (pe_df DD hr (by decide) (pa_cons (pv 0) (pa_cons (pe_op op_add (pe_callB call_len_seq (by rfl) M.len PySem.boot_len (pa_cons (pv 1) pa_nil)) pe_int) pa_nil))))
      (pss_cons (ps_set (i := 3) scOdd.nd rfl (Or.inl rfl) (pe_lst (pa_cons (pe_tupF (pa_cons pe_int (pa_cons pe_int pa_nil))) (pa_cons (pe_tupF (pa_cons pe_int (pa_cons pe_int pa_nil))) (pa_cons (pe_tupF (pa_cons pe_int (pa_cons pe_int pa_nil))) (pa_cons (pe_tupF (pa_cons pe_int (pa_cons (pe_un un_neg pe_int) pa_nil))) (pa_cons (pe_tupF (pa_cons pe_bl (pa_cons pe_int pa_nil))) (pa_cons (pe_tupF (pa_cons pe_int (pa_cons pe_bl pa_nil))) (pa_cons (pe_tupF (pa_cons pe_str (pa_cons pe_int pa_nil))) (pa_cons (pe_tupF (pa_cons pe_int (pa_cons pe_str pa_nil))) (pa_cons (pe_tupF (pa_cons pe_int pa_nil)) (pa_cons (pe_tupF (pa_cons pe_int (pa_cons pe_int (pa_cons pe_int pa_nil)))) pa_nil))))))))))))
      (pss_cons (ps_set (i := 3) scOdd.nd rfl (Or.inl rfl) (pe_op op_cat (pv 3) (pe_lst (pa_cons (pe_lst (pa_cons pe_int (pa_cons pe_int pa_nil))) (pa_cons pe_non (pa_cons pe_int (pa_cons (pe_tupF pa_nil) (pa_cons (pe_df DP hr (by decide) (pa_cons (pv 0) (pa_cons (pe_tupF (pa_cons pe_int (pa_cons pe_int pa_nil))) pa_nil))) (pa_cons (pe_tupF (pa_cons (pe_un un_neg pe_int) (pa_cons pe_int pa_nil))) (pa_cons (pe_tupF (pa_cons pe_int (pa_cons pe_non pa_nil))) (pa_cons (pe_tupF (pa_cons (pe_op op_pow pe_int pe_int) (pa_cons pe_int pa_nil))) pa_nil)))))))))))
      (pss_cons (ps_set (i := 4) scOdd.nd rfl (Or.inl rfl) (pe_df DS hr (by decide) (pa_cons (pv 0) (pa_cons (pv 3) pa_nil))))
      (pss_cons (ps_set (i := 5) scOdd.nd rfl (Or.inl rfl) (pe_lst (pa_cons (pe_op (r := rCatF K) op_catF (pe_op (r := rCatF K) op_catF (pe_slice (r := rSlF K) sl_tupF (pv 1) po_none (po_some (pv 2))) (pe_tupF (pa_cons (pv 4) pa_nil))) (pe_slice (r := rSlF K) sl_tupF (pv 1) (po_some (pv 2)) po_none)) (pa_cons (pe_callTy (r := rLof K) call_lof (by rfl) M.list (by decide +kernel) (pa_cons (pv 1) pa_nil)) (pa_cons pe_non (pa_cons pe_int (pa_cons pe_str (pa_cons (pe_disp (pps_cons pe_int pe_int pps_nil) (by rfl) (by rfl) (by exact List.cons_ne_nil _ _) (by decide)) (pa_cons (pe_callTy (call_dictT rfl) (by rfl) M.dict (by decide +kernel) (pa_cons (pv 1) pa_nil)) (pa_cons (pe_tupF (pa_cons (pv 1) pa_nil)) (pa_cons (pe_tupF (pa_cons pe_int (pa_cons pe_int pa_nil))) pa_nil)))))))))))
      (pss_cons (ps_set (i := 5) scOdd.nd rfl (Or.inl rfl) (pe_op op_cat (pv 5) (pe_lst (pa_cons (pe_op (r := rCatF K) op_catF (pe_op (r := rCatF K) op_catF (pe_slice (r := rSlF K) sl_tupF (pv 1) po_none (po_some (pv 2))) (pe_tupF (pa_cons (pv 4) pa_nil))) (pe_slice (r := rSlF K) sl_tupF (pv 1) (po_some (pv 2)) po_none)) (pa_cons (pe_df DP hr (by decide) (pa_cons (pv 0) (pa_cons (pv 1) pa_nil))) (pa_cons (pe_op (r := rCatF K) op_catF (pe_op (r := rCatF K) op_catF (pv 1) (pe_slice (r := rSlF K) sl_tupF (pv 1) po_none (po_some pe_int))) (pe_slice (r := rSlF K) sl_tupF (pv 1) po_none (po_some pe_int))) pa_nil))))))
      (pss_one (ps_ret (pe_df DS hr (by decide) (pa_cons (pv 0) (pa_cons (pe_op op_cat (pv 5) (pe_lst (pa_cons (pe_tupF (pa_cons (pe_tupF (pa_cons pe_int (pa_cons pe_int pa_nil))) (pa_cons (pe_tupF (pa_cons pe_int (pa_cons pe_int pa_nil))) pa_nil))) (pa_cons (pe_tupF (pa_cons (pe_tupF (pa_cons pe_int (pa_cons pe_int pa_nil))) (pa_cons (pe_tupF (pa_cons pe_int (pa_cons pe_int pa_nil))) pa_nil))) (pa_cons (pe_tupF (pa_cons (pe_tupF (pa_cons pe_int (pa_cons pe_int pa_nil))) (pa_cons (pe_tupF (pa_cons pe_int (pa_cons pe_int pa_nil))) pa_nil))) pa_nil))))) pa_nil))))))))))), ?_⟩
  obtain ⟨p1, as1, rfl, t1, w1⟩ := (mk_at hd.dd).ex
  have ll := ml.len
  have dl : (l.map mkD).length ≤ 999 := by rw [List.length_map]; exact ll
  have al : (as1.map V.ref).length = l.length := by rw [List.length_map, Paired.length w1]
  refine ⟨_, rfl, _, rfl, p1, _, rfl, .inr t1.sq, _, _, rfl, rfl, a, c, _, rfl, hh, by omega, by omega, fun n H1 n0 n1 hh1 k1 => ?_⟩
  have hd1 := hd.ky k1
  dsimp only [tSeq, tAsg, gName]
  refine ld_lst (a := a) (c := c) (K := K) (H0 := H1) (n := 10) (ya_cons (ye_tup (ya_cons ye_int (ya_cons ye_int ya_nil))) (ya_cons (ye_tup (ya_cons ye_int (ya_cons ye_int ya_nil))) (ya_cons (ye_tup (ya_cons ye_int (ya_cons ye_int ya_nil))) (ya_cons (ye_tup (ya_cons ye_int (ya_cons ye_neg ya_nil))) (ya_cons (ye_tup (ya_cons ye_bl (ya_cons ye_int ya_nil))) (ya_cons (ye_tup (ya_cons ye_int (ya_cons ye_bl ya_nil))) (ya_cons (ye_tup (ya_cons ye_str (ya_cons ye_int ya_nil))) (ya_cons (ye_tup (ya_cons ye_int (ya_cons ye_str ya_nil))) (ya_cons (ye_tup (ya_cons ye_int ya_nil)) (ya_cons (ye_tup (ya_cons ye_int (ya_cons ye_int (ya_cons ye_int ya_nil)))) ya_nil)))))))))) hh1 .refl (by decide) fun L1 H2 hh2 k2 l1 => ?_
  refine ld_cat (a := a) (c := c) (K := K) (H0 := H2) (n := 10) (m := 8) rfl l1 (ya_cons (ye_lst (ya_cons ye_int (ya_cons ye_int ya_nil))) (ya_cons ye_non (ya_cons ye_int (ya_cons (ye_tup ya_nil) (ya_cons (ye_deep rfl (ye_tup (ya_cons ye_int (ya_cons ye_int ya_nil)))) (ya_cons (ye_tup (ya_cons ye_neg (ya_cons ye_int ya_nil))) (ya_cons (ye_tup (ya_cons ye_int (ya_cons ye_non ya_nil))) (ya_cons (ye_tup (ya_cons ye_pow (ya_cons ye_int ya_nil))) ya_nil)))))))) hh2 .refl (by decide) fun L2 H3 hh3 k3 l2 => ?_
  refine ⟨_, rfl, _, rfl, ?_⟩
  show spSome K [.ref a, .ref L2] H3 _ E0
  refine ld_some l2 hh3 (by decide) (by decide) fun pr dpr H4 zp hh4 k4 hpr => ?_
  have kH4 : Keep a H H4 := k1.trans (k2.trans (k3.trans k4))
  refine ld_lst (a := a) (c := c) (K := K) (H0 := H4) (n := 9) (ya_cons (yt_e (yt_cat (yt_cat (yt_sl (yt_var (m := 999) rfl (hd.ky kH4) dl) (fun _ _ z => z) (fun _ _ z => ⟨_, rfl, _, rfl, z⟩)) (yt_tup (ya_cons (ye_var rfl hpr zp) ya_nil))) (yt_sl (yt_var (m := 999) rfl (hd.ky kH4) dl) (fun _ _ z => ⟨_, rfl, _, rfl, z⟩) (fun _ _ z => z)))) (ya_cons (ye_list rfl (hd.ky kH4) (by omega)) (ya_cons ye_non (ya_cons ye_int (ya_cons ye_str (ya_cons ye_one2 (ya_cons (ye_dict rfl (hd.ky kH4) ml) (ya_cons (ye_tup (ya_cons (ye_var rfl (hd.ky kH4) (tup_len ml)) ya_nil)) (ya_cons (ye_tup (ya_cons ye_int (ya_cons ye_int ya_nil))) ya_nil))))))))) hh4 .refl (by decide) fun L3 H5 hh5 k5 l3 => ?_
  refine ld_cat (a := a) (c := c) (K := K) (H0 := H5) (n := 9) (m := 3) rfl l3 (ya_cons (yt_e (yt_cat (yt_cat (yt_sl (yt_var (m := 999) rfl (hd.ky (kH4.trans k5)) dl) (fun _ _ z => z) (fun _ _ z => ⟨_, rfl, _, rfl, z⟩)) (yt_tup (ya_cons (ye_var rfl (hpr.ky k5) zp) ya_nil))) (yt_sl (yt_var (m := 999) rfl (hd.ky (kH4.trans k5)) dl) (fun _ _ z => ⟨_, rfl, _, rfl, z⟩) (fun _ _ z => z)))) (ya_cons (ye_deep rfl (ye_var rfl (hd.ky (kH4.trans k5)) (tup_len ml))) (ya_cons (yt_e (yt_cat (yt_cat (yt_var (m := 999) rfl (hd.ky (kH4.trans k5)) dl) (yt_sl (yt_var (m := 999) rfl (hd.ky (kH4.trans k5)) dl) (fun _ _ z => z) (fun _ _ z => ⟨_, rfl, z⟩))) (yt_sl (yt_var (m := 999) rfl (hd.ky (kH4.trans k5)) dl) (fun _ _ z => z) (fun _ _ z => ⟨_, rfl, z⟩)))) ya_nil))) hh5 .refl (by decide) fun L4 H6 hh6 k6 l4 => ?_
  refine ⟨_, rfl, ?_⟩
  refine ld_cat (a := a) (c := c) (K := K) (H0 := H6) (n := 12) (m := 3) rfl l4 (ya_cons (ye_tup (ya_cons (ye_tup (ya_cons ye_int (ya_cons ye_int ya_nil))) (ya_cons (ye_tup (ya_cons ye_int (ya_cons ye_int ya_nil))) ya_nil))) (ya_cons (ye_tup (ya_cons (ye_tup (ya_cons ye_int (ya_cons ye_int ya_nil))) (ya_cons (ye_tup (ya_cons ye_int (ya_cons ye_int ya_nil))) ya_nil))) (ya_cons (ye_tup (ya_cons (ye_tup (ya_cons ye_int (ya_cons ye_int ya_nil))) (ya_cons (ye_tup (ya_cons ye_int (ya_cons ye_int ya_nil))) ya_nil))) ya_nil))) hh6 .refl (by decide) fun L5 H7 hh7 k7 l5 => ?_
  show spSome K [.ref a, .ref L5] H7 _ E0
  exact ld_some l5 hh7 (by decide) (by decide) fun v' d' H8 z hh8 k8 hv => q v' d' H8 z hh8 (kH4.trans (k5.trans (k6.trans (k7.trans k8)))) hv

end
end Sw
namespace Sw
open PySem PySem.Spec PyProof.Rows L2 Tn Vd Xv RZ LamX
abbrev sWord : Stmt := top 37
theorem scWord : FnScope ["call", "word", "error", "flags"] ["call"] (defScope sWord) := ⟨rfl, rfl, rfl, by decide +kernel, rfl, by decide +kernel, by decide +kernel⟩
/-- what the classes say of an error of the class at C (NoMark) -/
structure Cf (K : PySem.W.Frag) (mg : Str → Option Value) (C : Addr) : Prop where
  exc : ExcC K C
  view : ∃ V, mg "ViewError" = some (.ref V) ∧ PySem.W.exmOne K (.ref C) (.ref V) = some true
  no : ∀ x ∈ (["NoDeed", "NoEdit", "NoLife", "NoName", "NoSchema", "NotYet", "OtherSchema"] : List Str), ∃ D, mg x = some (.ref D) ∧ PySem.W.kitOne K (.ref C) (.ref D) = some false
  mark : mg "NoMark" = some (.ref C)
  own : PySem.W.kitOne K (.ref C) (.ref C) = some true
  val : PySem.W.kitOne K (.ref C) (.type "ValueError") = some true
/-- of what a lambda does: "let", or "mark" where it raises the class at C -/
def TTw (C : Addr) : (XK → Hp → VK → Prop) → Hp → VK → Prop := fun tl H Q => tl (fun cls d H' => cls = .ref C ∧ d = none ∧ ∀ H'', Same H' H'' → Q (.str "mark") H'') H fun _ H' => ∃ v, (some (some (V.str "let")) : Option (Option V)) = some (some v) ∧ Q v H'
theorem takes_len {X : Cx} {W : WX} (t : Takes X W) : Takes X (fun cls d σ H => σ.length = X.N.length → W cls d σ H) := fun u s' ⟨a, B, sI, pins, σ, H, cls, d, e, I, nb, up, sky, na, os, ag, w⟩ => t u s' ⟨a, B, sI, pins, σ, H, cls, d, e, I, nb, up, sky, na, os, ag, w I.len⟩
theorem guard {X : Cx} {sts : List Stmt} {t : TS} {p : Prop} (h : p → PSs X sts t) : PSs X sts (fun D σ H => p ∧ t D σ H) := ⟨fun pins s σ H D I z => (h z.1).run pins s σ H D I z.2⟩
def tSuite (K : PySem.W.Frag) (C a D0 D1 D2 D3 D4 D5 D6 : Addr) : TS := (tSeq (tAsg (tLst (tCons (tCB (rIsE K C a) (tCons (tVar 2) (tCons (tC (.ref D0)) tNil))) (tCons (tCB (rIsE K C a) (tCons (tVar 2) (tCons (tC (.ref D1)) tNil))) (tCons (tCB (rIsE K C a) (tCons (tVar 2) (tCons (tC (.ref D2)) tNil))) tNil)))) (gName 3)) (tSeq (tAsg (tOp rCat (tVar 3) (tLst (tCons (tCB (rIsE K C a) (tCons (tVar 2) (tCons (tC (.ref D3)) tNil))) (tCons (tCB (rIsE K C a) (tCons (tVar 2) (tCons (tC (.ref D4)) tNil))) (tCons (tCB (rIsE K C a) (tCons (tVar 2) (tCons (tC (.ref D5)) tNil))) tNil))))) (gName 3)) (tSeq (tAsg (tIf (tAnd (tB (tCB (rIsE K C a) (tCons (tVar 2) (tCons (tC (.ref C)) tNil)))) (tTest (tOp (rIn K true) (tC (.bl true)) (tVar 3)))) (tC (.str "mark")) (tC (.str "other"))) (gName 1)) (tAsg (tIf (tOr (tB (tCB (rIsE K C a) (tCons (tVar 2) (tCons (tC (.ref D6)) tNil)))) (tNot (tB (tCB (rIsE K C a) (tCons (tVar 2) (tCons (tC (.ty "ValueError")) tNil)))))) (tC (.str "other")) (tVar 1)) (gName 1)))))
theorem suite_run {K : PySem.W.Frag} {C a D0 D1 D2 D3 D4 D5 D6 : Addr} {D : Ends} {x0 x1 x3 : Option V} {H : Hp} (e0 : PySem.W.kitOne K (.ref C) (.ref D0) = some false) (e1 : PySem.W.kitOne K (.ref C) (.ref D1) = some false) (e2 : PySem.W.kitOne K (.ref C) (.ref D2) = some false) (e3 : PySem.W.kitOne K (.ref C) (.ref D3) = some false)
    (e4 : PySem.W.kitOne K (.ref C) (.ref D4) = some false) (e5 : PySem.W.kitOne K (.ref C) (.ref D5) = some false) (e6 : PySem.W.kitOne K (.ref C) (.ref D6) = some false) (eo : PySem.W.kitOne K (.ref C) (.ref C) = some true) (ev : PySem.W.kitOne K (.ref C) (.type "ValueError") = some true)
    (h : ∀ (H' : Hp) (y : Option V), Same H H' → D.nx [x0, some (.str "mark"), some (.ref a), y] H') : tSuite K C a D0 D1 D2 D3 D4 D5 D6 D [x0, x1, some (.ref a), x3] H := by
  have rr : ∀ {D : Addr} (u : Value), RelV (.ref D) u → u = .ref D := fun {D} u r => r
  have rt : ∀ {n : String} (u : Value), RelV (.ty n) u → u = .type n := fun {n} u r => r
  refine ⟨_, rfl, .ref D0, _, _, rfl, rr, e0, _, rfl, .ref D1, _, _, rfl, rr, e1, _, rfl, .ref D2, _, _, rfl, rr, e2, by show 3 ≤ sizeLine; rw [sizeLine_eq]; decide, fun p hp => ?_⟩
  refine ⟨_, rfl, _, rfl, .ref D3, _, _, rfl, rr, e3, _, rfl, .ref D4, _, _, rfl, rr, e4, _, rfl, .ref D5, _, _, rfl, rr, e5, by show 3 ≤ sizeLine; rw [sizeLine_eq]; decide, fun l hl => ?_⟩
  have s1 : Same H (upd H p (.lst [.bl false, .bl false, .bl false])) := same_up hp
  have a1 : (upd H p (.lst [.bl false, .bl false, .bl false])) p = some (.lst [.bl false, .bl false, .bl false]) := upd_same
  refine ⟨p, l, _, _, rfl, rfl, (same_up hl) _ _ a1, upd_same, by show 6 ≤ sizeLine; rw [sizeLine_eq]; decide, fun z hz => ?_⟩
  have sA := (s1.trans (same_up (o := .lst [.bl false, .bl false, .bl false]) hl)).trans (same_up (o := .lst [.bl false, .bl false, .bl false, .bl false, .bl false, .bl false]) hz)
  refine ⟨_, rfl, .ref C, _, _, rfl, rr, eo, _, rfl, iteT ⟨_, rfl, z, _, rfl, .inl (SqL.of upd_same), rfl, rfl, _, rfl, ?_⟩⟩
  refine iteT ⟨_, rfl, .ref D6, _, _, rfl, rr, e6, _, rfl, iteF ⟨_, rfl, .ty "ValueError", _, _, rfl, rt, ev, _, rfl, iteF ⟨_, rfl, h _ _ sA⟩⟩⟩
theorem word_gives {X : Cx} {g C : Addr} {cdg : Value} {q : Str} (M : Nm X.mg) (cf : Cf X.K X.mg C) : GivesTo X ["call", "word", "error", "flags"] "_law_word" (defScope sWord) g cdg (defBody sWord) "call" q (TTw C) := by
  intro f c' s H Q tl act hc h
  obtain ⟨CV, gV, eV⟩ := cf.view
  obtain ⟨D0, g0, e0⟩ := cf.no "NoDeed" (by decide +kernel)
  obtain ⟨D1, g1, e1⟩ := cf.no "NoEdit" (by decide +kernel)
  obtain ⟨D2, g2, e2⟩ := cf.no "NoLife" (by decide +kernel)
  obtain ⟨D3, g3, e3⟩ := cf.no "NoName" (by decide +kernel)
  obtain ⟨D4, g4, e4⟩ := cf.no "NoSchema" (by decide +kernel)
  obtain ⟨D5, g5, e5⟩ := cf.no "NotYet" (by decide +kernel)
  obtain ⟨D6, g6, e6⟩ := cf.no "OtherSchema" (by decide +kernel)
  have gM := cf.mark
  refine ⟨_, (pss_cons (ps_set (i := 1) scWord.nd rfl (Or.inl rfl) pe_str)
      (pss_cons (ps_try_as (X := (cxOf C8.CX0 X.prog X.w X.K X.mg X.base ["call", "word", "error", "flags"] "_law_word" (defScope sWord) g cdg X.A X.stack s H C8.E0).nox) (c := .ref CV) (i := 2)
        (tb := fun W D σ H => ∃ Ech : XK, (∀ (cls : Value) (d : Option Addr) (σ' : L2.St) (H' : Hp), σ'.length = 4 → Ech cls d H' → W cls d σ' H') ∧ σ[0]? = some (some (.ref f)) ∧ H c' = some (CodeO c' q) ∧ tl Ech H fun _ H' => D.nx σ H')
        (ts := fun a cls d D σ H => (cls = .ref C ∧ d = none) ∧ tSuite X.K C a D0 D1 D2 D3 D4 D5 D6 D σ H)
        rfl rfl scWord.nd rfl rfl ⟨by rfl, by decide, .inl gV⟩ LamX.takes0 (fun W pn xe tk _ => ?_) (fun a oe cls d pn hz hv => ?_))
      (pss_one (ps_ret (pv 1))))), ?_⟩
  · refine ⟨fun pins s' σ H' D I h' => ?_⟩
    obtain ⟨Ech, hW, h1, h2, h3⟩ := h'
    exact (pss_one (ps_expr (act _ pn xe Ech _ _ (takes_len tk) fun cls d σ' H' e l => hW cls d σ' H' l e))).run pins s' σ H' D I ⟨h1, h2, h3⟩
  · refine guard fun hcd => ?_
    obtain ⟨rfl, rfl⟩ := hcd
    exact (pss_cons (ps_set (i := 3) scWord.nd rfl (Or.inl rfl) (pe_lst (pa_cons (pe_callB (r := rIsE X.K C a) (call_isE cf.exc hz hv) (by rfl) M.isinstance (by decide +kernel) (pa_cons (pv 2) (pa_cons (pe_glob (v := .ref D0) (by rfl) g0 rfl) pa_nil))) (pa_cons (pe_callB (r := rIsE X.K C a) (call_isE cf.exc hz hv) (by rfl) M.isinstance (by decide +kernel) (pa_cons (pv 2) (pa_cons (pe_glob (v := .ref D1) (by rfl) g1 rfl) pa_nil))) (pa_cons (pe_callB (r := rIsE X.K C a) (call_isE cf.exc hz hv) (by rfl) M.isinstance (by decide +kernel) (pa_cons (pv 2) (pa_cons (pe_glob (v := .ref D2) (by rfl) g2 rfl) pa_nil))) pa_nil)))))
      (pss_cons (ps_set (i := 3) scWord.nd rfl (Or.inl rfl) (pe_op op_cat (pv 3) (pe_lst (pa_cons (pe_callB (r := rIsE X.K C a) (call_isE cf.exc hz hv) (by rfl) M.isinstance (by decide +kernel) (pa_cons (pv 2) (pa_cons (pe_glob (v := .ref D3) (by rfl) g3 rfl) pa_nil))) (pa_cons (pe_callB (r := rIsE X.K C a) (call_isE cf.exc hz hv) (by rfl) M.isinstance (by decide +kernel) (pa_cons (pv 2) (pa_cons (pe_glob (v := .ref D4) (by rfl) g4 rfl) pa_nil))) (pa_cons (pe_callB (r := rIsE X.K C a) (call_isE cf.exc hz hv) (by rfl) M.isinstance (by decide +kernel) (pa_cons (pv 2) (pa_cons (pe_glob (v := .ref D5) (by rfl) g5 rfl) pa_nil))) pa_nil))))))
      (pss_cons (ps_set (i := 1) scWord.nd rfl (Or.inl rfl) (pe_ifExp (PW.pt (pw_and (pt_val (pe_callB (r := rIsE X.K C a) (call_isE cf.exc hz hv) (by rfl) M.isinstance (by decide +kernel) (pa_cons (pv 2) (pa_cons (pe_glob (v := .ref C) (by rfl) gM rfl) pa_nil)))) (pw_and1 (pt_cmpR (r := rIn X.K true) op_notIn_seq pe_bl (pv 3) (by rfl))))) pe_str pe_str))
      (pss_one (ps_set (i := 1) scWord.nd rfl (Or.inl rfl) (pe_ifExp (PW.pt (pw_or (pt_val (pe_callB (r := rIsE X.K C a) (call_isE cf.exc hz hv) (by rfl) M.isinstance (by decide +kernel) (pa_cons (pv 2) (pa_cons (pe_glob (v := .ref D6) (by rfl) g6 rfl) pa_nil)))) (pw_or1 (pt_not (pt_val (pe_callB (r := rIsE X.K C a) (call_isE cf.exc hz hv) (by rfl) M.isinstance (by decide +kernel) (pa_cons (pv 2) (pa_cons (ty_cls (n := "ValueError") M.ValueError (by rfl) (by decide +kernel)) pa_nil)))))))) pe_str (pv 1)))))))
  · refine ⟨_, fun cls d σ' H' hl z => ?_, rfl, hc, h⟩
    obtain ⟨rfl, rfl, qq⟩ := z
    refine ⟨true, eV, fun _ a _ => ⟨⟨rfl, rfl⟩, ?_⟩, fun z => nomatch z⟩
    obtain ⟨x0, x1, x2, x3, rfl⟩ : ∃ x0 x1 x2 x3, σ' = [x0, x1, x2, x3] := by
      match σ', hl with
      | [x0, x1, x2, x3], _ => exact ⟨x0, x1, x2, x3, rfl⟩
    exact suite_run e0 e1 e2 e3 e4 e5 e6 cf.own cf.val fun H'' y sm => ⟨_, rfl, qq H'' sm⟩
end Sw
namespace Sw
open PySem PySem.Spec PyProof.Rows L2 Tn Vd Xv RZ LamX
abbrev sLaw : Stmt := top 39
theorem scLaw : FnScope ["script", "hand", "turn", "one", "other", "third", "most", "odd", "thing", "due", "words", "mark"] ["script"] (defScope sLaw) := ⟨rfl, rfl, rfl, by decide +kernel, rfl, by decide +kernel, by decide +kernel⟩
theorem TabS.keep {a c : Addr} {H H' : Hp} {p : Addr} {q : Str} (t : TabS H p q) (h : HandC H a c) (k : Keep a H H') : TabS H' p q := by
  obtain ⟨ps, h1, h2, h3⟩ := t
  obtain ⟨xs, hx⟩ := h.live
  refine ⟨ps, k _ _ (fun e => ?_) h1, h2, fun pos cv hc => ?_⟩
  · rw [e, hx] at h1
    cases h1
  · obtain ⟨c', e1, e2⟩ := h3 pos cv hc
    refine ⟨c', e1, k _ _ (fun e => ?_) e2⟩
    rw [e, hx] at e2
    cases e2
/-- what the law keeps: the hand, the tables -/
structure LS (T : List (Addr × Str)) (a c : Addr) (H : Hp) : Prop where
  hand : HandC H a c
  tabs : Tabs T H
theorem LS.same {T : List (Addr × Str)} {a c : Addr} {H H' : Hp} (h : LS T a c H) (s : Same H H') : LS T a c H' := ⟨h.hand.same s, h.tabs.ext s⟩
theorem LS.keep {T : List (Addr × Str)} {a c : Addr} {H H' : Hp} (h : LS T a c H) (hh : HandC H' a c) (k : Keep a H H') : LS T a c H' := ⟨hh, fun p hp => TabS.keep (h.tabs p hp) h.hand k⟩
theorem HandC.extN {H H' : Hp} {a c : Addr} (h : HandC H a c) (k : ExtN H H') : HandC H' a c := by
  obtain ⟨cs, i, b, sd, n, x⟩ := h
  exact ⟨cs, i, b, sd, n, k _ _ x.at_ (fun _ z => nomatch z), k _ _ x.cells (fun _ z => nomatch z), x.len, x.pos, x.i0, x.b0, x.s0, x.n0⟩
theorem mk_build {K : PySem.W.Frag} {H : Hp} {v : V} {l : Mk} (h : MkAt H v l) : Dd K H v (tupD l) := by
  obtain ⟨p, as, rfl, t, w⟩ := h.ex
  refine .tup t ?_
  have : ∀ {as : List Addr} {l : Mk}, Paired (fun b q => TupN H b [.int q.1, .int q.2]) as l → DdAll K H (as.map V.ref) (l.map mkD) := by
    intro as l w
    induction w with
    | nil => exact .nil
    | cons r _ ih => exact .cons (mk_dd r) ih
  exact this w
theorem mk_set {K : PySem.W.Frag} {a D : Addr} {H : Hp} {v : V} {l : Mk} {xs : List V} {o : HO} (h : Dv a K H v (tupD l)) (hD : H D = some (.lst xs)) : Dv a K (upd H D o) v (tupD l) := by
  obtain ⟨p, as, rfl, t, w⟩ := (mk_at h).ex
  have key : ∀ {b : Addr} {ys : List V}, TupN (vis a H) b ys → TupN (vis a (upd H D o)) b ys := fun {b ys} z => by
    obtain ⟨u, e, n⟩ := z
    obtain ⟨e1, e2, e3⟩ := vis_sub e
    refine ⟨u, vis_at ?_ e2 e3, n⟩
    rw [upd_ne (at_ne' e1 hD)]
    exact e1
  exact mk_build ⟨p, as, rfl, key t, Paired.mapP w fun b q z => key z⟩
theorem mk_cut {l : Mk} (h : IsMk l) (i j : Nat) : IsMk ((l.drop i).take j) := by
  have sub : ((l.drop i).take j).Sublist l := (List.take_sublist _ _).trans (List.drop_sublist _ _)
  exact ⟨h.rise.sublist sub, fun p hp => h.rng p (sub.subset hp)⟩
theorem pair3 {α β : Type} {F : α → β → Prop} {l : List α} {m : List β} (h : Paired F l m) (e : m.length = 3) : ∃ x1 x2 x3 y1 y2 y3, l = [x1, x2, x3] ∧ m = [y1, y2, y3] ∧ F x1 y1 ∧ F x2 y2 ∧ F x3 y3 := by
  cases h with
  | nil => cases e
  | cons r1 h => cases h with
    | nil => cases e
    | cons r2 h => cases h with
      | nil => cases e
      | cons r3 h => cases h with
        | nil => exact ⟨_, _, _, _, _, _, rfl, rfl, r1, r2, r3⟩
        | cons _ _ => simp at e
section
variable {K : PySem.W.Frag} {a c : Addr} {H0 : Hp} {σ : L2.St}
/-! ### readings that give a mark -/
def YM (a c : Addr) (K : PySem.W.Frag) (H0 : Hp) (σ : L2.St) (t : TE) : Prop := ∀ (H : Hp) (Q : VK), HandC H a c → Keep a H0 H → (∀ v l H', IsMk l → HandC H' a c → Keep a H H' → Dv a K H' v (tupD l) → Q v H') → t σ H Q
def YMA (a c : Addr) (K : PySem.W.Frag) (H0 : Hp) (σ : L2.St) (t : TA) (n : Nat) : Prop := ∀ (H : Hp) (Q : List V → Hp → Prop), HandC H a c → Keep a H0 H → (∀ vs ls H', vs.length = n → HandC H' a c → Keep a H H' → Paired (fun v l => IsMk l ∧ Dv a K H' v (tupD l)) vs ls → Q vs H') → t σ H Q
theorem ym_var {i : Nat} {v : V} {l : Mk} (h : σ[i]? = some (some v)) (m : IsMk l) (hd : Dv a K H0 v (tupD l)) : YM a c K H0 σ (tVar i) := fun H Q hh k q => ⟨v, h, q v l H m hh .refl (hd.ky k)⟩
theorem yma_nil : YMA a c K H0 σ tNil 0 := fun H Q hh k q => q [] [] H rfl hh .refl .nil
theorem yma_cons {t : TE} {ta : TA} {n : Nat} (h : YM a c K H0 σ t) (ha : YMA a c K H0 σ ta n) : YMA a c K H0 σ (tCons t ta) (n + 1) := fun H Q hh k q =>
  h H _ hh k fun v l H1 m hh1 k1 hd => ha H1 _ hh1 (k.trans k1) fun vs ls H2 len hh2 k2 hp => q (v :: vs) (l :: ls) H2 (by rw [List.length_cons, len]) hh2 (k1.trans k2) (.cons ⟨m, hd.ky k2⟩ hp)
theorem ym_cut {i : Nat} {v : V} {l : Mk} (h : σ[i]? = some (some v)) (m : IsMk l) (hd : Dv a K H0 v (tupD l)) : YM a c K H0 σ (tSl (rSlF K) (tVar i) tNoPart (tPart (tUn (rU fun i => V.int (-i)) (tC (V.int 1))))) := fun H Q hh k q => by
  obtain ⟨p1, xs1, rfl, t1, g1⟩ := (hd.ky k).ofTup
  refine ⟨_, h, 1, rfl, -1, rfl, p1, xs1, rfl, (tupN_vis t1).sq, fun _ => q _ l H m hh .refl (hd.ky k), fun _ p o hp ho => ?_⟩
  have g : DdAll K (vis a H) (cutV xs1 none (some (-1))) (((l.drop (HT.sIx xs1.length 0 none)).take (HT.sIx xs1.length xs1.length (some (-1)) - HT.sIx xs1.length 0 none)).map mkD) := by
    rw [List.map_take, List.map_drop]
    exact dall_take _ (dall_drop _ g1)
  exact q _ _ _ (mk_cut m _ _) (hh.same (same_up hp)) (keep_same (same_up hp)) (tris_new hh.live hp ho g)
theorem ym_joined {i j : Nat} {v1 v2 : V} {l1 l2 : Mk} (h1 : σ[i]? = some (some v1)) (h2 : σ[j]? = some (some v2)) (m1 : IsMk l1) (m2 : IsMk l2) (e1 : Dv a K H0 v1 (tupD l1)) (e2 : Dv a K H0 v2 (tupD l2)) :
    YM a c K H0 σ (tCall (spM2 K (rBoth K)) [] E0 (tCons (tVar i) (tCons (tVar j) tNil))) := fun H Q hh k q =>
  ⟨v1, h1, v2, h2, a, v1, v2, l1, l2, rfl, hh.live, m1, m2, e1.ky k, e2.ky k, fun v H' s r => r.elim fun rs z => q v rs H' z.1.ok (hh.same s) (keep_same s) z.2⟩
theorem ym_some {i n : Nat} {ta : TA} (h : σ[i]? = some (some (.ref a))) (ha : YMA a c K H0 σ ta n) (n0 : 0 < n) (n1 : n ≤ 1000) : YM a c K H0 σ (tCall (spSome K) [] E0 (tCons (tVar i) (tCons (tLst ta) tNil))) := fun H Q hh k q =>
  ⟨_, h, ha H _ hh k fun vs ls H1 len hh1 k1 pv => ⟨by rw [len, sizeLine_eq]; omega, fun L hL => ⟨a, c, L, vs, rfl, hh1.same (same_up hL), hh1.live.ne hL, SqL.of upd_same, by omega, by omega, fun x H' hx hh' k' => by
    have : ∀ {vs : List V} {ls : List Mk}, Paired (fun v l => IsMk l ∧ Dv a K H1 v (tupD l)) vs ls → x ∈ vs → ∃ l, IsMk l ∧ Dv a K H1 x (tupD l) := by
      intro vs ls pv hx
      induction pv with
      | nil => cases hx
      | cons r _ ih =>
        rcases List.mem_cons.mp hx with e | hx
        · rw [e]
          exact ⟨_, r⟩
        · exact ih hx
    obtain ⟨l, m, d⟩ := this pv hx
    have kk := (keep_same (a := a) (same_up hL)).trans k'
    exact q x l H' m hh' (k1.trans kk) (d.ky kk)⟩⟩⟩
end
def wordOf (b : Bool) : Str := if b = true then "let" else "mark"
/-- what a lambda over two marks comes to -/
theorem lam_ok {K : PySem.W.Frag} {C a : Addr} {R : Addr → Mk → Mk → V → Hp → Prop} {i j : Nat} {σ : L2.St} {H : Hp} {Q : VK} {v1 v2 : V} {d1 d2 : PyData} (h1 : σ[i]? = some (some v1)) (h2 : σ[j]? = some (some v2)) (hl : Live a H) (e1 : Dv a K H v1 d1) (e2 : Dv a K H v2 d2) (z1 : topLen d1 ≤ 4000) (z2 : topLen d2 ≤ 4000)
    (q : ∀ H', Same H H' → Q (.str (wordOf (dueD d1 && dueD d2))) H') : TTw C (fun E H' Q' => tCallS (spTwo K C R) (WE fun cls d _ H => E cls d H) (tCons (tVar i) (tCons (tVar j) tNil)) σ H' Q') H Q := by
  refine ⟨v1, h1, v2, h2, a, v1, v2, d1, d2, rfl, hl, e1, e2, z1, z2, fun n H' s => ⟨rfl, rfl, fun H'' s2 => ?_⟩, fun ps qs m1 m2 x1 x2 v H' s r => ⟨_, rfl, ?_⟩⟩
  · have := q H'' (s.trans s2)
    rw [n] at this
    exact this
  · have := q H' s
    rw [x1, x2, due_of m1, due_of m2] at this
    exact this
theorem Live.extN {a : Addr} {H H' : Hp} (h : Live a H) (k : ExtN H H') : Live a H' := h.imp fun _ z => k _ _ z (fun _ n => nomatch n)
/-- behind the list of words is made: all that stood stays (the tables aside), and the list is n words w -/
structure WS (T : List (Addr × Str)) (H10 : Hp) (L : Addr) (w : Str) (n : Nat) (H : Hp) : Prop where
  ext : ExtN H10 H
  tabs : Tabs T H
  at_ : H L = some (.lst (List.replicate n (V.str w)))
theorem tabs_up {T : List (Addr × Str)} {H : Hp} {L : Addr} {xs : List V} {o : HO} (t : Tabs T H) (e : H L = some (.lst xs)) : Tabs T (upd H L o) := fun p hp => by
  obtain ⟨ps, h1, h2, h3⟩ := t p hp
  refine ⟨ps, ?_, h2, fun pos cv hc => ?_⟩
  · rw [upd_ne (fun z => by rw [z, e] at h1; cases h1)]
    exact h1
  · obtain ⟨c', e1, e2⟩ := h3 pos cv hc
    refine ⟨c', e1, ?_⟩
    rw [upd_ne (fun z => by rw [z, e] at e2; cases e2)]
    exact e2
theorem lam_word {K : PySem.W.Frag} {C a : Addr} {R : Addr → Mk → Mk → V → Hp → Prop} {T : List (Addr × Str)} {i j : Nat} {σ : L2.St} {H10 H : Hp} {Q : VK} {v1 v2 : V} {d1 d2 : PyData} (h1 : σ[i]? = some (some v1)) (h2 : σ[j]? = some (some v2)) (hl : Live a H10) (e1 : Dv a K H10 v1 d1) (e2 : Dv a K H10 v2 d2) (z1 : topLen d1 ≤ 4000) (z2 : topLen d2 ≤ 4000)
    (x : ExtN H10 H) (t : Tabs T H) (q : ∀ H', ExtN H H' → Tabs T H' → Q (.str (wordOf (dueD d1 && dueD d2))) H') : tLam T (TTw C) (fun E => tCallS (spTwo K C R) (WE fun cls d _ H => E cls d H) (tCons (tVar i) (tCons (tVar j) tNil))) σ H Q :=
  ⟨t, fun H1 k t1 => lam_ok h1 h2 (hl.extN (x.trans k)) (e1.kp (kp_extN (x.trans k))) (e2.kp (kp_extN (x.trans k))) z1 z2 fun H' s => q H' (k.trans (ExtN.of s)) (t1.ext s)⟩
theorem app_word {K : PySem.W.Frag} {C a : Addr} {R : Addr → Mk → Mk → V → Hp → Prop} {T : List (Addr × Str)} {i j n : Nat} {σ : L2.St} {D : Ends} {H10 H : Hp} {L : Addr} {w : Str} {v1 v2 : V} {d1 d2 : PyData} (W : WS T H10 L w n H) (n0 : H10 L = none) (hσ : σ[10]? = some (some (.ref L))) (h1 : σ[i]? = some (some v1)) (h2 : σ[j]? = some (some v2)) (hl : Live a H10) (e1 : Dv a K H10 v1 d1) (e2 : Dv a K H10 v2 d2) (z1 : topLen d1 ≤ 4000) (z2 : topLen d2 ≤ 4000)
    (hw : wordOf (dueD d1 && dueD d2) = w) (hn : n < 1000) (q : ∀ H', WS T H10 L w (n + 1) H' → D.nx σ H') : tDrop (tBM K "list" rAppend (tVar 10) (tCons (tLam T (TTw C) (fun E => tCallS (spTwo K C R) (WE fun cls d _ H => E cls d H) (tCons (tVar i) (tCons (tVar j) tNil)))) tNil)) D σ H :=
  ⟨_, hσ, .inl ⟨rfl, _, SqL.of W.at_⟩, lam_word h1 h2 hl e1 e2 z1 z2 W.ext W.tabs fun H' k t => ⟨L, _, _, rfl, rfl, k _ _ W.at_ (fun _ z => nomatch z), by rw [List.length_replicate, sizeLine_eq]; omega, q _ ⟨fun b o hb nt => by
    rw [upd_ne (fun z => by rw [z, n0] at hb; cases hb)]
    exact k b o (W.ext b o hb nt) nt, tabs_up t (k _ _ W.at_ (fun _ z => nomatch z)), by
    rw [upd_same, hw, List.replicate_succ']⟩⟩⟩
theorem holds_rd {K : PySem.W.Frag} {C a : Addr} {Wx : WX} {i j : Nat} {σ : L2.St} {v v' : V} {ps qs : Mk} {H0 : Hp} (h1 : σ[i]? = some (some v)) (h2 : σ[j]? = some (some v')) (hl : Live a H0) (m : IsMk ps) (m' : IsMk qs) (e : Dv a K H0 v (tupD ps)) (e' : Dv a K H0 v' (tupD qs)) :
    ∀ (H : Hp) (Q : VK), Same H0 H → (∀ H', Same H0 H' → Q (.bl (decide (lackL ps qs = []))) H') → tCallS (spTwo K C rHolds) (WE Wx) (tCons (tVar i) (tCons (tVar j) tNil)) σ H Q := fun H Q s q =>
  ⟨v, h1, v', h2, a, v, v', _, _, rfl, hl.same s, e.kp (kp_same s), e'.kp (kp_same s), tup_len m, tup_len m', fun n => (no_mk m m' n).elim, fun ps' qs' _ _ q1 q2 x H' s' r => by
    cases tup_inj q1
    cases tup_inj q2
    have r' : x = .bl (decide (lackL ps qs = [])) := r
    rw [r']
    exact q H' (s.trans s')⟩
theorem ne_and {tx ty tz : TE} {σ : L2.St} {H : Hp} {Q : VK} {A B1 B2 : Bool} (S : Hp → Prop) (e : A = (B1 && B2)) (hS : S H) (hx : ∀ (H : Hp) (Q : VK), S H → (∀ H', S H' → Q (.bl A) H') → tx σ H Q) (hy : ∀ (H : Hp) (Q : VK), S H → (∀ H', S H' → Q (.bl B1) H') → ty σ H Q) (hz : ∀ (H : Hp) (Q : VK), S H → (∀ H', S H' → Q (.bl B2) H') → tz σ H Q)
    (q : ∀ H', S H' → Q (.bl false) H') : tOp rNe tx (tAndV ty tz) σ H Q :=
  hx H _ hS fun H1 h1 => hy H1 _ h1 fun H2 h2 => ⟨B1, rfl, by
    cases B1 with
    | false =>
      rw [Bool.false_and] at e
      rw [e]
      exact iteF ⟨rfl, q H2 h2⟩
    | true =>
      rw [Bool.true_and] at e
      rw [e]
      refine iteT (hz H2 _ h2 fun H3 h3 => ⟨rfl, ?_⟩)
      rw [ne_self]
      exact q H3 h3⟩
theorem six_words {K : PySem.W.Frag} {H : Hp} {L : Addr} {w : Str} (h : H L = some (.lst (List.replicate 6 (V.str w)))) : Dp K H (.ref L) (.list [.str w, .str w, .str w, .str w, .str w, .str w]) :=
  .lst (SqL.of h) (.cons (.str _) (.cons (.str _) (.cons (.str _) (.cons (.str _) (.cons (.str _) (.cons (.str _) .nil))))))
theorem six_shp (b : Bool) : SeqAt.shaped (.list [.str (wordOf b), .str (wordOf b), .str (wordOf b), .str (wordOf b), .str (wordOf b), .str (wordOf b)]) = true := by cases b <;> decide +kernel
theorem six_eqv (b : Bool) : PyData.eqv (.list [.str (wordOf b), .str (wordOf b), .str (wordOf b), .str (wordOf b), .str (wordOf b), .str (wordOf b)]) (.list [.str (wordOf b), .str (wordOf b), .str (wordOf b), .str (wordOf b), .str (wordOf b), .str (wordOf b)]) = true := by cases b <;> decide +kernel
theorem if_word {b : Bool} {σ : L2.St} {H : Hp} {Q : VK} (q : Q (.str (wordOf b)) H) : if b = true then tC (.str "let") σ H Q else tC (.str "mark") σ H Q := by
  cases b
  · exact iteF q
  · exact iteT q
section
variable {P : Program} {w : World} {K : PySem.W.Frag} {mg : Str → Option Value} {base : Heap}
structure Dl (P : Program) (w : World) (K : PySem.W.Frag) (mg : Str → Option Value) (base : Heap) (C : Addr) : Prop where
  d : Ds P w K mg base C
  hand : Df P w K mg base "_law_hand" 1 ["script"] (spHand K)
  some : DSome P w K mg base
  drawn : Df P w K mg base "_law_drawn_mark" 3 ["hand"] (spDrawn K)
  odd : Df P w K mg base "_law_odd" 4 ["hand", "mark"] (spOdd K)
  due : Df P w K mg base "_law_is_due_mark" 1 ["thing"] (spDue K)
  mark : Df P w K mg base "is_mark" 5 ["thing"] (spMark K)
  right : Df P w K mg base "_law_are_two_right" 9 ["one", "other"] (spM2 K rTrue)
/-- _law_word's function object -/
structure Wf (K : PySem.W.Frag) (mg : Str → Option Value) (g : Addr) (cdg : Value) : Prop where
  ex : ∃ oc od dV kV doc pm an ct osl, K.lookup g = some ⟨oc, od, .func (PySem.W.fnOf "_law_word" "_law_word" (defArgs sWord) (defBody sWord) (defScope sWord) dV kV doc pm an cdg ct), osl⟩ ∧ L2.Binds K (PySem.W.fnOf "_law_word" "_law_word" (defArgs sWord) (defBody sWord) (defScope sWord) dV kV doc pm an cdg ct) ["call"] []
  code : PySem.W.codeIn K cdg "_law_word" = true
  keep : PySem.W.keepIn K (.ref g) = true
  glo : mg "_law_word" = some (.ref g)
def spLaw (K : PySem.W.Frag) (Pt : Addr) : Sp := fun vs H Q _ => ∃ (a : Addr) (ns : List Int), vs = [.ref a] ∧ SqL K H a (ns.map V.int) ∧ ns.length ≤ 63 ∧ H Pt = some (.tbl #[]) ∧ ∀ H', Q (.bl true) H'
theorem ok_law {f C g cc Pt : Addr} {cdg : Value} {fd : FuncData} (F : FnP K "law" sLaw f fd) (hcode : ∀ oc od dV kV doc pm an cdv ct osl, K.lookup f = some ⟨oc, od, .func (PySem.W.fnOf "law" "law" (defArgs sLaw) (defBody sLaw) (defScope sLaw) dV kV doc pm an cdv ct), osl⟩ → cdv = .ref cc) (TB : TabB base mg cc Pt)
    (M : Nm mg) (cf : Cf K mg C) (Dx : Dl P w K mg base C) (wf : Wf K mg g cdg) : FnOk P w K mg base CX0 11 f fd ["script"] (spLaw K Pt) := by
  obtain ⟨oc, od, dV, kV, doc, pm, an, cdv, ct, osl, rfl, lk, hcd, _, _⟩ := F.ex
  cases hcode _ _ _ _ _ _ _ _ _ _ lk
  refine fn_of (k := 10) lk hcd scLaw (fun vs H Q E h => ?_) (fun A outer s H vs Q E hr h => ?_)
  · obtain ⟨a, ns, rfl, _⟩ := h
    rfl
  obtain ⟨sa, ns, rfl, hS, hl, hP, q⟩ := h
  obtain ⟨oc2, od2, dV2, kV2, doc2, pm2, an2, ct2, osl2, lk2, hb2⟩ := wf.ex
  have D := Dx.d
  have qL : (cxOf CX0 P w K mg base ["script", "hand", "turn", "one", "other", "third", "most", "odd", "thing", "due", "words", "mark"] "law" (defScope sLaw) f (.ref cc) A outer s H E).env.qual = (cxOf CX0 P w K mg base ["script", "hand", "turn", "one", "other", "third", "most", "odd", "thing", "due", "words", "mark"] "law" (defScope sLaw) f (.ref cc) A outer s H E).env.qual := rfl
  refine ⟨_, PSs.nox (pss_cons (ps_set (i := 1) scLaw.nd rfl (Or.inr rfl) (pe_df Dx.hand hr (by decide) (pa_cons (pv 0) pa_nil)))
      (pss_cons (ps_for PassesOwn.never rfl (pi_range1 rfl M.range (pa_cons pe_int pa_nil)) (pg_name (i := 2) scLaw.nd rfl (Or.inl rfl)) (pss_cons (ps_asg (pe_lc (own := [("mark", 11)]) (g := gName 11) (tt := tYes) (by rfl) scLaw.nd (pi_range1 (by rfl) M.range (pa_cons pe_int pa_nil)) (blkOk_by (N := ["script", "hand", "turn", "one", "other", "third", "most", "odd", "thing", "due", "words", "mark"]) (sc := defScope sLaw) (by decide +kernel)) (fun _ _ _ _ _ => pg_name (i := 11) scLaw.nd rfl (Or.inl rfl)) (fun _ _ _ _ _ => pts_nil) (fun _ _ _ _ _ => (pe_df Dx.drawn hr (by decide) (pa_cons (pv 1) pa_nil)))) (L2.pg_lst rfl (pgs_cons (pg_name (i := 3) scLaw.nd rfl (Or.inr rfl)) (pgs_cons (pg_name (i := 4) scLaw.nd rfl (Or.inl rfl)) (pgs_cons (pg_name (i := 5) scLaw.nd rfl (Or.inl rfl)) pgs_nil)))))
      (pss_cons (ps_set (i := 4) scLaw.nd rfl (Or.inl rfl) (pe_df Dx.some hr (by decide) (pa_cons (pv 1) (pa_cons (pe_lst (pa_cons (pv 4) (pa_cons (pv 4) (pa_cons (pv 3) (pa_cons (pe_slice (r := rSlF K) sl_tupF (pv 3) po_none (po_some (pe_un un_neg pe_int))) (pa_cons (pe_df D.joined hr (by decide) (pa_cons (pv 3) (pa_cons (pv 4) pa_nil))) pa_nil)))))) pa_nil))))
      (pss_cons (ps_if (PW.pt (pw_or (pt_not (pt_val (pe_df Dx.right hr (by decide) (pa_cons (pv 3) (pa_cons (pv 4) pa_nil))))) (pw_or1 (pt_not (pt_val (pe_df Dx.right hr (by decide) (pa_cons (pv 4) (pa_cons (pv 3) pa_nil)))))))) (pss_one (ps_ret pe_bl)) pss_nil)
      (pss_cons (ps_set (i := 6) scLaw.nd rfl (Or.inl rfl) (pe_dfX D.both L2.takes0 hr (by decide) (pa_cons (pv 3) (pa_cons (pv 4) pa_nil))))
      (pss_cons (ps_if (pt_cmpR op_ne (pe_dfX D.holds L2.takes0 hr (by decide) (pa_cons (pv 5) (pa_cons (pv 6) pa_nil))) (pe_and (pe_dfX D.holds L2.takes0 hr (by decide) (pa_cons (pv 5) (pa_cons (pv 3) pa_nil))) (pe_one (pe_dfX D.holds L2.takes0 hr (by decide) (pa_cons (pv 5) (pa_cons (pv 4) pa_nil))))) (nomark _)) (pss_one (ps_ret pe_bl)) pss_nil)
      (pss_cons (ps_set (i := 7) scLaw.nd rfl (Or.inr rfl) (pe_df Dx.odd hr (by decide) (pa_cons (pv 1) (pa_cons (pv 3) pa_nil))))
      (pss_cons (ps_for PassesOwn.never rfl (pi_tup (pe_tupF (pa_cons (pv 3) (pa_cons (pv 4) (pa_cons (pv 7) (pa_cons (pe_df Dx.odd hr (by decide) (pa_cons (pv 1) (pa_cons (pv 4) pa_nil))) pa_nil)))))) (pg_name (i := 8) scLaw.nd rfl (Or.inl rfl)) (pss_one (ps_if (pt_not (pt_val (pe_df D.is hr (by decide) (pa_cons (pe_df Dx.mark hr (by decide) (pa_cons (pv 8) pa_nil)) (pa_cons (pe_df Dx.due hr (by decide) (pa_cons (pv 8) pa_nil)) pa_nil))))) (pss_one (ps_ret pe_bl)) pss_nil)))
      (pss_cons (ps_set (i := 9) scLaw.nd rfl (Or.inl rfl) (pe_ifExp (pt_val (pe_df Dx.due hr (by decide) (pa_cons (pv 7) pa_nil))) pe_str pe_str))
      (pss_cons (ps_set (i := 10) scLaw.nd rfl (Or.inl rfl) (pe_lst (pa_cons (pe_lamcall (T := [(Pt, (cxOf CX0 P w K mg base ["script", "hand", "turn", "one", "other", "third", "most", "odd", "thing", "due", "words", "mark"] "law" (defScope sLaw) f (.ref cc) A outer s H E).env.qual ++ "<lambda>")]) (TT := TTw C) (t := fun E => tCallS (spTwo K C rHolds) (WE fun cls d _ H => E cls d H) (tCons (tVar 7) (tCons (tVar 3) tNil))) (Ng := ["call", "word", "error", "flags"]) (k := 8) (by rfl) wf.glo wf.keep lk2 wf.code hb2 scWord rfl (Or.inl rfl) (word_gives M cf) TB rfl (List.mem_cons_self) (fun p hp _ => by rw [List.mem_singleton.mp hp]) hr (lamS_by (sc := defScope sLaw) (by decide +kernel)) rfl (fun _ _ _ _ _ => rfl) (fun A outer s H E f c hr => pe_dfX D.holds (takes_of rfl rfl rfl rfl) hr (by decide) (pa_cons (pv 7) (pa_cons (pv 3) pa_nil)))) pa_nil)))
      (pss_cons (ps_expr (pe_bm PySem.F.plainAttrs_list PySem.F.slot_list_append PySem.F.type_list_append mt_append (pv 10) (pa_cons (pe_lamcall (T := [(Pt, (cxOf CX0 P w K mg base ["script", "hand", "turn", "one", "other", "third", "most", "odd", "thing", "due", "words", "mark"] "law" (defScope sLaw) f (.ref cc) A outer s H E).env.qual ++ "<lambda>")]) (TT := TTw C) (t := fun E => tCallS (spTwo K C (rBoth K)) (WE fun cls d _ H => E cls d H) (tCons (tVar 7) (tCons (tVar 3) tNil))) (Ng := ["call", "word", "error", "flags"]) (k := 8) (by rfl) wf.glo wf.keep lk2 wf.code hb2 scWord rfl (Or.inl rfl) (word_gives M cf) TB rfl (List.mem_cons_self) (fun p hp _ => by rw [List.mem_singleton.mp hp]) hr (lamS_by (sc := defScope sLaw) (by decide +kernel)) rfl (fun _ _ _ _ _ => rfl) (fun A outer s H E f c hr => pe_dfX D.both (takes_of rfl rfl rfl rfl) hr (by decide) (pa_cons (pv 7) (pa_cons (pv 3) pa_nil)))) pa_nil)))
      (pss_cons (ps_expr (pe_bm PySem.F.plainAttrs_list PySem.F.slot_list_append PySem.F.type_list_append mt_append (pv 10) (pa_cons (pe_lamcall (T := [(Pt, (cxOf CX0 P w K mg base ["script", "hand", "turn", "one", "other", "third", "most", "odd", "thing", "due", "words", "mark"] "law" (defScope sLaw) f (.ref cc) A outer s H E).env.qual ++ "<lambda>")]) (TT := TTw C) (t := fun E => tCallS (spTwo K C (rLack K)) (WE fun cls d _ H => E cls d H) (tCons (tVar 7) (tCons (tVar 3) tNil))) (Ng := ["call", "word", "error", "flags"]) (k := 8) (by rfl) wf.glo wf.keep lk2 wf.code hb2 scWord rfl (Or.inl rfl) (word_gives M cf) TB rfl (List.mem_cons_self) (fun p hp _ => by rw [List.mem_singleton.mp hp]) hr (lamS_by (sc := defScope sLaw) (by decide +kernel)) rfl (fun _ _ _ _ _ => rfl) (fun A outer s H E f c hr => pe_dfX D.lacking (takes_of rfl rfl rfl rfl) hr (by decide) (pa_cons (pv 7) (pa_cons (pv 3) pa_nil)))) pa_nil)))
      (pss_cons (ps_expr (pe_bm PySem.F.plainAttrs_list PySem.F.slot_list_append PySem.F.type_list_append mt_append (pv 10) (pa_cons (pe_lamcall (T := [(Pt, (cxOf CX0 P w K mg base ["script", "hand", "turn", "one", "other", "third", "most", "odd", "thing", "due", "words", "mark"] "law" (defScope sLaw) f (.ref cc) A outer s H E).env.qual ++ "<lambda>")]) (TT := TTw C) (t := fun E => tCallS (spTwo K C rHolds) (WE fun cls d _ H => E cls d H) (tCons (tVar 3) (tCons (tVar 7) tNil))) (Ng := ["call", "word", "error", "flags"]) (k := 8) (by rfl) wf.glo wf.keep lk2 wf.code hb2 scWord rfl (Or.inl rfl) (word_gives M cf) TB rfl (List.mem_cons_self) (fun p hp _ => by rw [List.mem_singleton.mp hp]) hr (lamS_by (sc := defScope sLaw) (by decide +kernel)) rfl (fun _ _ _ _ _ => rfl) (fun A outer s H E f c hr => pe_dfX D.holds (takes_of rfl rfl rfl rfl) hr (by decide) (pa_cons (pv 3) (pa_cons (pv 7) pa_nil)))) pa_nil)))
      (pss_cons (ps_expr (pe_bm PySem.F.plainAttrs_list PySem.F.slot_list_append PySem.F.type_list_append mt_append (pv 10) (pa_cons (pe_lamcall (T := [(Pt, (cxOf CX0 P w K mg base ["script", "hand", "turn", "one", "other", "third", "most", "odd", "thing", "due", "words", "mark"] "law" (defScope sLaw) f (.ref cc) A outer s H E).env.qual ++ "<lambda>")]) (TT := TTw C) (t := fun E => tCallS (spTwo K C (rBoth K)) (WE fun cls d _ H => E cls d H) (tCons (tVar 3) (tCons (tVar 7) tNil))) (Ng := ["call", "word", "error", "flags"]) (k := 8) (by rfl) wf.glo wf.keep lk2 wf.code hb2 scWord rfl (Or.inl rfl) (word_gives M cf) TB rfl (List.mem_cons_self) (fun p hp _ => by rw [List.mem_singleton.mp hp]) hr (lamS_by (sc := defScope sLaw) (by decide +kernel)) rfl (fun _ _ _ _ _ => rfl) (fun A outer s H E f c hr => pe_dfX D.both (takes_of rfl rfl rfl rfl) hr (by decide) (pa_cons (pv 3) (pa_cons (pv 7) pa_nil)))) pa_nil)))
      (pss_cons (ps_expr (pe_bm PySem.F.plainAttrs_list PySem.F.slot_list_append PySem.F.type_list_append mt_append (pv 10) (pa_cons (pe_lamcall (T := [(Pt, (cxOf CX0 P w K mg base ["script", "hand", "turn", "one", "other", "third", "most", "odd", "thing", "due", "words", "mark"] "law" (defScope sLaw) f (.ref cc) A outer s H E).env.qual ++ "<lambda>")]) (TT := TTw C) (t := fun E => tCallS (spTwo K C (rLack K)) (WE fun cls d _ H => E cls d H) (tCons (tVar 3) (tCons (tVar 7) tNil))) (Ng := ["call", "word", "error", "flags"]) (k := 8) (by rfl) wf.glo wf.keep lk2 wf.code hb2 scWord rfl (Or.inl rfl) (word_gives M cf) TB rfl (List.mem_cons_self) (fun p hp _ => by rw [List.mem_singleton.mp hp]) hr (lamS_by (sc := defScope sLaw) (by decide +kernel)) rfl (fun _ _ _ _ _ => rfl) (fun A outer s H E f c hr => pe_dfX D.lacking (takes_of rfl rfl rfl rfl) hr (by decide) (pa_cons (pv 3) (pa_cons (pv 7) pa_nil)))) pa_nil)))
      (pss_one (ps_if (pt_cmpR (op_neD hr.units) (pv 10) (pe_op op_rep (pe_lst (pa_cons (pv 9) pa_nil)) pe_int) (nomark _)) (pss_one (ps_ret pe_bl)) pss_nil)))))))))))))))))
      (pss_one (ps_ret pe_bl)))), ?_⟩
  clear qL
  generalize hqq : (cxOf CX0 P w K mg base ["script", "hand", "turn", "one", "other", "third", "most", "odd", "thing", "due", "words", "mark"] "law" (defScope sLaw) f (.ref cc) A outer s H E).env.qual ++ ("<lambda>" : Str) = qq
  refine ⟨_, rfl, sa, ns, rfl, hS, hl, fun H1 a s1 n1 hp => ?_⟩
  obtain ⟨c, hh⟩ := hp
  have T1 : Tabs [(Pt, qq)] H1 := fun p hp => by
    rw [List.mem_singleton.mp hp]
    exact (TabS.nil hP).ext s1
  have ls1 : LS [(Pt, qq)] a c H1 := ⟨hh, T1⟩
  refine ⟨6, rfl, by decide, by decide, ?_⟩
  refine for_range (lo := 0) (n := 6) (fun i σ H' => LS [(Pt, qq)] a c H' ∧ ∃ x2 x3 x4 x5 x6 x7 x8 x9 x10 x11, σ = [some (.ref sa), some (.ref a), x2, x3, x4, x5, x6, x7, x8, x9, x10, x11]) ⟨ls1, _, _, _, _, _, _, _, _, _, _, rfl⟩ (fun i σ H2 hi z => ?_) (fun σ H' z => ?_)
  · obtain ⟨ls2, x2, x3, x4, x5, x6, x7, x8, x9, x10, x11, rfl⟩ := z
    refine ⟨3, rfl, by decide, by decide, fun D1 hD1 => ?_⟩
    have hh2 := ls2.hand
    have nDa := hh2.live.ne hD1
    have nDc := hh2.cne hD1
    refine lc_range (n := 3) (fun i H' => HandC H' a c ∧ Keep a H2 H' ∧ ∃ (vs : List V) (pss : List Mk), H' D1 = some (.lst vs) ∧ pss.length = i ∧ Paired (fun v ps => IsMk ps ∧ Dv a K H' v (tupD ps)) vs pss) ⟨hh2.same (same_up hD1), keep_same (same_up hD1), [], [], upd_same, rfl, .nil⟩ (fun i H' hi z => ?_) (fun H3 z => ?_)
    · obtain ⟨hh3, k3, vs, pss, eD, el, pv⟩ := z
      refine ⟨rfl, _, rfl, a, c, rfl, hh3, fun v ps H4 mk hh4 k4 hv => ?_⟩
      have eD4 := k4 _ _ nDa eD
      have vl : vs.length ≤ 3 := by rw [Paired.length pv]; omega
      refine ⟨vs, eD4, by rw [sizeLine_eq]; omega, hh4.set nDa nDc, fun b o nb e => by rw [upd_ne (ne_of_none e hD1)]; exact k4 b o nb (k3 b o nb e), vs ++ [v], pss ++ [ps], upd_same, by rw [List.length_append, el]; rfl, ?_⟩
      exact pair_snoc (Paired.mapP pv fun v' ps' z => ⟨z.1, mk_set (z.2.ky k4) eD4⟩) ⟨mk, mk_set hv eD4⟩
    · obtain ⟨hh3, k3, vs, pss, eD, el, pv⟩ := z
      obtain ⟨v1, v2, v3, ps1, ps2, ps3, rfl, rfl, ⟨m1, d1⟩, ⟨m2, d2⟩, ⟨m3, d3⟩⟩ := pair3 pv el
      have ls3 := ls2.keep hh3 k3
      refine ⟨D1, [v1, v2, v3], rfl, SqL.of eD, rfl, _, _, rfl, _, _, rfl, _, _, rfl, rfl, ?_⟩
      -- other = _law_some(hand, [other, other, one, one[:-1], _law_joined(one, other)])
      refine ym_some (a := a) (c := c) (K := K) (H0 := H3) (n := 5) rfl (yma_cons (ym_var rfl m2 d2) (yma_cons (ym_var rfl m2 d2) (yma_cons (ym_var rfl m1 d1) (yma_cons (ym_cut rfl m1 d1) (yma_cons (ym_joined rfl rfl m1 m2 d1 d2) yma_nil))))) (by decide) (by decide) H3 _ hh3 .refl fun v4 ps4 H4 m4 hh4 k4 d4 => ?_
      have e1 := d1.ky k4
      have e3 := d3.ky k4
      have ls4 := ls3.keep hh4 k4
      -- the two rights
      refine ⟨_, rfl, _, rfl, a, v1, v4, ps1, ps4, rfl, hh4.live, m1, m4, e1, d4, fun b5 H5 s5 r5 => ?_⟩
      cases r5
      refine ⟨_, rfl, iteF ?_⟩
      refine ⟨_, rfl, _, rfl, a, v4, v1, ps4, ps1, rfl, hh4.live.same s5, m4, m1, d4.kp (kp_same s5), e1.kp (kp_same s5), fun b6 H6 s6 r6 => ?_⟩
      cases r6
      refine ⟨_, rfl, iteF ?_⟩
      -- most
      refine ⟨_, rfl, _, rfl, a, v1, v4, _, _, rfl, hh4.live.same (s5.trans s6), e1.kp (kp_same (s5.trans s6)), d4.kp (kp_same (s5.trans s6)), tup_len m1, tup_len m4, fun n => (no_mk m1 m4 n).elim, fun ps' qs' _ _ q1 q2 v7 H7 s7 r7 => ?_⟩
      cases tup_inj q1
      cases tup_inj q2
      obtain ⟨rs, J, g7⟩ := r7
      have t7 : Same H4 H7 := (s5.trans s6).trans s7
      have l7 := hh4.live.same t7
      refine ne_and (tx := tCallS (spTwo K C rHolds) (WE fun _ _ _ _ => False) (tCons (tVar 5) (tCons (tVar 6) tNil))) (ty := tCallS (spTwo K C rHolds) (WE fun _ _ _ _ => False) (tCons (tVar 5) (tCons (tVar 3) tNil))) (tz := tCallS (spTwo K C rHolds) (WE fun _ _ _ _ => False) (tCons (tVar 5) (tCons (tVar 4) tNil))) (σ := [some (.ref sa), some (.ref a), some (.int (0 + i)), some v1, some v4, some v3, some v7, x7, x8, x9, x10, x11]) (Same H7) (holds_most m3 m1 m4 J) (fun _ _ z => z) (holds_rd rfl rfl l7 m3 J.ok (e3.kp (kp_same t7)) g7) (holds_rd rfl rfl l7 m3 m1 (e3.kp (kp_same t7)) (e1.kp (kp_same t7))) (holds_rd rfl rfl l7 m3 m4 (e3.kp (kp_same t7)) (d4.kp (kp_same t7))) fun H8 s8 => ⟨_, rfl, iteF ?_⟩
      have t8 := t7.trans s8
      -- odd
      refine ⟨_, rfl, _, rfl, a, c, v1, ps1, rfl, hh4.same t8, m1, e1.kp (kp_same t8), fun vo od H9 zo hh9 k9 go => ?_⟩
      have ls9 : LS [(Pt, qq)] a c H9 := (ls4.same t8).keep hh9 k9
      -- of all four
      refine ⟨_, rfl, _, rfl, _, rfl, _, rfl, _, rfl, a, c, v4, ps4, rfl, hh9, m4, (d4.kp (kp_same t8)).ky k9, fun vp pd H10 zp hh10 k10 gp => ⟨by show 4 ≤ sizeLine; rw [sizeLine_eq]; decide, fun p o hp ho => ?_⟩⟩
      have ls10 := ls9.keep hh10 k10
      have f1 := ((e1.kp (kp_same t8)).ky k9).ky k10
      have f4 := ((d4.kp (kp_same t8)).ky k9).ky k10
      have fo := go.ky k10
      have s11 : Same H10 (upd H10 p (.frz o (.tup [v1, v4, vo, vp]))) := same_up hp
      have at11 : (upd H10 p (.frz o (.tup [v1, v4, vo, vp]))) p = some (.frz o (.tup [v1, v4, vo, vp])) := upd_same
      generalize upd H10 p (.frz o (.tup [v1, v4, vo, vp])) = H11 at s11 at11 ⊢
      have four : ∀ x ∈ [v1, v4, vo, vp], ∃ d, Dv a K H11 x d ∧ topLen d ≤ 4000 := fun x hx => by
        rcases List.mem_cons.mp hx with e | hx
        · exact ⟨_, e ▸ f1.kp (kp_same s11), tup_len m1⟩
        rcases List.mem_cons.mp hx with e | hx
        · exact ⟨_, e ▸ f4.kp (kp_same s11), tup_len m4⟩
        rcases List.mem_cons.mp hx with e | hx
        · exact ⟨_, e ▸ fo.kp (kp_same s11), zo⟩
        rcases List.mem_cons.mp hx with e | hx
        · exact ⟨_, e ▸ gp.kp (kp_same s11), zp⟩
        · cases hx
      refine ⟨p, rfl, ⟨_, TupN.sq ⟨o, at11, ho⟩⟩, ?_⟩
      refine for_tup (xs := [v1, v4, vo, vp]) (fun _ σ H' => Same H11 H' ∧ ∃ x8, σ = [some (.ref sa), some (.ref a), some (.int (0 + i)), some v1, some v4, some v3, some v7, some vo, x8, x9, x10, x11]) ⟨fun _ _ z => z, _, rfl⟩ (fun _ _ H' _ z => TupN.sq ⟨o, z.1 _ _ at11, ho⟩) (fun j x σ H' hx z => ?_) (fun σ H12 z => ?_)
      · obtain ⟨s12, x8, rfl⟩ := z
        obtain ⟨d, gd, zd⟩ := four x (List.mem_of_getElem? hx)
        have g12 := gd.kp (kp_same s12)
        refine ⟨x, rfl, x, d, rfl, g12.dd, zd, fun Ha sA => ⟨x, rfl, x, d, rfl, (g12.kp (kp_same sA)).dd, zd, fun Hb sB => ⟨.bl (markD d), .bl (dueD d), .bool (dueD d), rfl, by rw [mark_due]; exact .bl _, .bl _, rfl, fun Hc sC => ⟨_, rfl, iteF ⟨((s12.trans sA).trans sB).trans sC, _, rfl⟩⟩⟩⟩⟩
      · obtain ⟨s12, x8, rfl⟩ := z
        have t12 := s11.trans s12
        have ls12 := ls10.same t12
        refine ⟨vo, rfl, vo, od, rfl, (fo.kp (kp_same t12)).dd, zo, fun H13 s13 => ⟨_, rfl, if_word ?_⟩⟩
        have t13 := t12.trans s13
        have ls13 := ls12.same s13
        -- the six words
        refine lam_word rfl rfl ls13.hand.live (fo.kp (kp_same t13)) (f1.kp (kp_same t13)) zo (tup_len m1) (ExtN.refl _) ls13.tabs fun H14 x14 tb14 => ⟨by show 1 ≤ sizeLine; rw [sizeLine_eq]; decide, fun L hL => ?_⟩
        have hh14 := ls13.hand.extN x14
        have g1 := (f1.kp (kp_same t13)).kp (kp_extN x14)
        have g2 := (fo.kp (kp_same t13)).kp (kp_extN x14)
        have hw1 : wordOf (dueD od && dueD (tupD ps1)) = wordOf (dueD od) := by rw [due_of m1, Bool.and_true]
        have hw2 : wordOf (dueD (tupD ps1) && dueD od) = wordOf (dueD od) := by rw [due_of m1, Bool.true_and]
        have W1 : WS [(Pt, qq)] H14 L (wordOf (dueD od)) 1 (upd H14 L (.lst [.str (wordOf (dueD od && dueD (tupD ps1)))])) := ⟨ExtN.of (same_up hL), tb14.ext (same_up hL), by rw [upd_same, hw1]; rfl⟩
        refine app_word W1 hL rfl rfl rfl hh14.live g2 g1 zo (tup_len m1) hw1 (by decide) fun H15 W2 => ?_
        refine app_word W2 hL rfl rfl rfl hh14.live g2 g1 zo (tup_len m1) hw1 (by decide) fun H16 W3 => ?_
        refine app_word W3 hL rfl rfl rfl hh14.live g1 g2 (tup_len m1) zo hw2 (by decide) fun H17 W4 => ?_
        refine app_word W4 hL rfl rfl rfl hh14.live g1 g2 (tup_len m1) zo hw2 (by decide) fun H18 W5 => ?_
        refine app_word W5 hL rfl rfl rfl hh14.live g1 g2 (tup_len m1) zo hw2 (by decide) fun H19 W6 => ?_
        refine ⟨_, rfl, _, rfl, by show 1 ≤ sizeLine; rw [sizeLine_eq]; decide, fun p1 hp1 => ⟨p1, 6, _, rfl, rfl, upd_same, by decide, by decide, by show 6 ≤ sizeLine; rw [sizeLine_eq]; decide, fun l hl => ?_⟩⟩
        have s20 := (same_up (o := .lst [.str (wordOf (dueD od))]) hp1).trans (same_up (o := .lst [.str (wordOf (dueD od)), .str (wordOf (dueD od)), .str (wordOf (dueD od)), .str (wordOf (dueD od)), .str (wordOf (dueD od)), .str (wordOf (dueD od))]) hl)
        refine ⟨_, _, six_words (s20 _ _ W6.at_), six_words upd_same, six_shp _, six_shp _, _, rfl, ?_⟩
        rw [six_eqv]
        exact iteF ⟨⟨(hh14.extN W6.ext).same s20, W6.tabs.ext s20⟩, _, _, _, _, _, _, _, _, _, _, rfl⟩
  · obtain ⟨_, x2, x3, x4, x5, x6, x7, x8, x9, x10, x11, rfl⟩ := z
    exact q H'
end
end Sw
namespace Sw
open PySem PySem.Spec PyProof.Rows L2 Tn Vd Xv RZ LamX
/-! ### the head: facts by names -/
abbrev sInit0 : Stmt := inClass (top 1) 0
theorem ok_init0 {P : Program} {w : World} {K : PySem.W.Frag} {mg : Str → Option Value} {base : Heap} {f : Addr} {fd : FuncData} (F : FunD K "__init__" "ViewError.__init__" (defArgs sInit0) (defBody sInit0) (defScope sInit0) [] [] f fd) : FnOk P w K mg base CX0 1 f fd ["self"] sp0 := by
  refine F.ok (N := ["self"]) ⟨rfl, rfl, rfl, by decide +kernel, rfl, by decide +kernel, by decide +kernel⟩ (fun vs H Q E h => ?_) (fun cdv A outer s H vs Q E hr h => ?_)
  · obtain ⟨a, rfl, _⟩ := h
    rfl
  · obtain ⟨a, rfl, q⟩ := h
    exact ⟨_, pss_one ps_pass, q⟩
def f0 (K : PySem.W.Frag) : Addr := He.ma K (He.ga K "ViewError") "__init__"
def no7 : List Str := ["NoDeed", "NoEdit", "NoLife", "NoName", "NoSchema", "NotYet", "OtherSchema"]
def chk (K : PySem.W.Frag) : Bool :=
  (no7.all fun x => He.eqO (PySem.W.nsIn K mainGlobals x) (some (some (.ref (He.ga K x)))) && decide (PySem.W.kitOne K (.ref (He.ga K "NoMark")) (.ref (He.ga K x)) = some false)) &&
  (xclB K (He.ga K "NoMark") &&
  (decide (PySem.W.exmOne K (.ref (He.ga K "NoMark")) (.ref (He.ga K "ViewError")) = some true) &&
  (decide (PySem.W.kitOne K (.ref (He.ga K "NoMark")) (.ref (He.ga K "NoMark")) = some true) &&
  (decide (PySem.W.kitOne K (.ref (He.ga K "NoMark")) (.type "ValueError") = some true) &&
  (He.eqO (PySem.W.findIn K (.ref (He.ga K "NoMark")) "__init__") (some (some (.ref (f0 K)))) && decide (PySem.W.typeIn K (.ref (f0 K)) = some (.type "function")))))))
structure Ck (K : PySem.W.Frag) (mg : Str → Option Value) : Prop where
  cf : Cf K mg (He.ga K "NoMark")
  cm : CM K mg (He.ga K "NoMark") (f0 K)
theorem chk_ok {K : PySem.W.Frag} {mg : Str → Option Value} {h : Heap} (X : K.In h) (G : h.Ns mainGlobals mg) (gv : mg "ViewError" = some (.ref (He.ga K "ViewError"))) (gm : mg "NoMark" = some (.ref (He.ga K "NoMark"))) (c : chk K = true) : Ck K mg := by
  obtain ⟨c1, c⟩ := He.ba c
  obtain ⟨c2, c⟩ := He.ba c
  obtain ⟨c3, c⟩ := He.ba c
  obtain ⟨c4, c⟩ := He.ba c
  obtain ⟨c5, c⟩ := He.ba c
  obtain ⟨c6, c7⟩ := He.ba c
  have x := xcl_ok c2
  have l1 := List.all_eq_true.mp c1
  exact {
    cf := {
      exc := ⟨x.ga, x.gt, x.oex.exC, x.hd, x.ca, x.gn, x.tk, x.mo⟩
      view := ⟨_, gv, of_decide_eq_true c3⟩
      no := fun y hy => ⟨_, PySem.W.mg_of X G (He.eqO_ok (He.ba (l1 y hy)).1), of_decide_eq_true (He.ba (l1 y hy)).2⟩
      mark := gm
      own := of_decide_eq_true c4
      val := of_decide_eq_true c5 }
    cm := ⟨x.oex, He.eqO_ok c6, of_decide_eq_true c7, gm⟩ }
def dHand : He.DefD := ⟨("_law_hand", none), "_law_hand", "_law_hand", defArgs sHand, defBody sHand, defScope sHand, [], []⟩
def dDraw : He.DefD := ⟨("_law_draw", none), "_law_draw", "_law_draw", defArgs sDraw, defBody sDraw, defScope sDraw, [], []⟩
def dSome : He.DefD := ⟨("_law_some", none), "_law_some", "_law_some", defArgs sSome, defBody sSome, defScope sSome, [], []⟩
def dIs : He.DefD := ⟨("_law_is", none), "_law_is", "_law_is", defArgs sIs, defBody sIs, defScope sIs, [], []⟩
def dDeep : He.DefD := ⟨("_law_deep", none), "_law_deep", "_law_deep", defArgs sDeep, defBody sDeep, defScope sDeep, [], []⟩
def dDrawn : He.DefD := ⟨("_law_drawn_mark", none), "_law_drawn_mark", "_law_drawn_mark", defArgs sDrawn, defBody sDrawn, defScope sDrawn, [], []⟩
def dOdd : He.DefD := ⟨("_law_odd", none), "_law_odd", "_law_odd", defArgs sOdd, defBody sOdd, defScope sOdd, [], []⟩
def dDueMark : He.DefD := ⟨("_law_is_due_mark", none), "_law_is_due_mark", "_law_is_due_mark", defArgs sDueMark, defBody sDueMark, defScope sDueMark, [], []⟩
def dLacks : He.DefD := ⟨("_law_lacks", none), "_law_lacks", "_law_lacks", defArgs sLacks, defBody sLacks, defScope sLacks, [], []⟩
def dJoined : He.DefD := ⟨("_law_joined", none), "_law_joined", "_law_joined", defArgs sJoined, defBody sJoined, defScope sJoined, [], []⟩
def dWith : He.DefD := ⟨("_law_with", none), "_law_with", "_law_with", defArgs sWith, defBody sWith, defScope sWith, [], []⟩
def dWord : He.DefD := ⟨("_law_word", none), "_law_word", "_law_word", defArgs sWord, defBody sWord, defScope sWord, [], []⟩
def dRight : He.DefD := ⟨("_law_are_two_right", none), "_law_are_two_right", "_law_are_two_right", defArgs sRight, defBody sRight, defScope sRight, [], []⟩
def dLaw : He.DefD := ⟨("law", none), "law", "law", defArgs sLaw, defBody sLaw, defScope sLaw, [], []⟩
def dInteger : He.DefD := ⟨("is_integer", none), "is_integer", "is_integer", defArgs sInteger, defBody sInteger, defScope sInteger, [], []⟩
def dNumber : He.DefD := ⟨("is_number", none), "is_number", "is_number", defArgs sNumber, defBody sNumber, defScope sNumber, [], []⟩
def dTupleOf : He.DefD := ⟨("is_tuple_of", none), "is_tuple_of", "is_tuple_of", defArgs sTupleOf, defBody sTupleOf, defScope sTupleOf, [], []⟩
def dRising : He.DefD := ⟨("is_rising", none), "is_rising", "is_rising", defArgs sRising, defBody sRising, defScope sRising, [], []⟩
def dLife : He.DefD := ⟨("is_life", none), "is_life", "is_life", defArgs sLife, defBody sLife, defScope sLife, [], []⟩
def dFromOne : He.DefD := ⟨("is_from_one", none), "is_from_one", "is_from_one", defArgs sFromOne, defBody sFromOne, defScope sFromOne, [], []⟩
def dMark : He.DefD := ⟨("is_mark", none), "is_mark", "is_mark", defArgs sMark, defBody sMark, defScope sMark, [], []⟩
def dMarkPair : He.DefD := ⟨("is_mark_pair", none), "is_mark_pair", "is_mark_pair", defArgs sMarkPair, defBody sMarkPair, defScope sMarkPair, [], []⟩
def dCheck : He.DefD := ⟨("check_marks", none), "check_marks", "check_marks", defArgs sCheck, defBody sCheck, defScope sCheck, [], []⟩
def dHolds : He.DefD := ⟨("holds", none), "holds", "holds", defArgs sHolds, defBody sHolds, defScope sHolds, [], []⟩
def dBoth : He.DefD := ⟨("both", none), "both", "both", defArgs sBoth, defBody sBoth, defScope sBoth, [], []⟩
def dLacking : He.DefD := ⟨("lacking", none), "lacking", "lacking", defArgs sLacking, defBody sLacking, defScope sLacking, [], []⟩
def dI0 : He.DefD := ⟨("ViewError", some "__init__"), "__init__", "ViewError.__init__", defArgs sInit0, defBody sInit0, defScope sInit0, [], []⟩
def fn : List He.DefD := [dHand, dDraw, dSome, dIs, dDeep, dDrawn, dOdd, dDueMark, dLacks, dJoined, dWith, dWord, dRight, dLaw, dInteger, dNumber, dTupleOf, dRising, dLife, dFromOne, dMark, dMarkPair, dCheck, dHolds, dBoth, dLacking, dI0]
def fa : List He.Fa := [.glo "_law_hand", .glo "_law_draw", .glo "_law_some", .glo "_law_is", .glo "_law_deep", .glo "_law_drawn_mark", .glo "_law_odd", .glo "_law_is_due_mark", .glo "_law_lacks", .glo "_law_joined", .glo "_law_with", .glo "_law_word", .glo "_law_are_two_right", .glo "law", .glo "is_integer", .glo "is_number", .glo "is_tuple_of", .glo "is_rising", .glo "is_life", .glo "is_from_one", .glo "is_mark", .glo "is_mark_pair", .glo "check_marks", .glo "holds", .glo "both", .glo "lacking", .glo "ViewError", .glo "NoMark", .free "abs", .free "isinstance", .free "int", .free "bool", .free "tuple", .free "list", .free "dict", .free "str", .free "len", .free "all", .free "zip", .free "sorted", .free "max", .free "set", .free "range", .free "ValueError", .int "LAST_LIFE" 999]
def tf : List He.Defn := [("law", none)]
def hk : PySem.W.Hook := He.hookX 5 fa fn [] tf chk
def ob (s : PySem.W.SharedT) : He.AlX := He.obsX 5 fa fn [] tf chk (HandSHeadRun.getT s)
theorem ob_eq (s : PySem.W.SharedT) : ob s = hk.obs s.abs := He.obsX_eq (HandSHeadRun.getT_eq s)
theorem facts {w : World} {K : PySem.W.Frag} {h : Heap} {mg : Str → Option Value} {f : Addr} (X : K.In h) (G : h.Ns mainGlobals mg) (hfa : mg ("law" : Str) = some (.ref f)) (c : He.SaysX fa fn [] tf chk w h K) :
    LamX.LawAtS PySem.Challenge.rw_shownviews_k02_whole_marks w K CX0 11 63 "script" mg f h := by
  have cd : He.SaysD fa fn K := c.t.d
  obtain ⟨fdHand, FHand⟩ := cd.def_ 0 (d := dHand) rfl
  obtain ⟨fdDraw, FDraw⟩ := cd.def_ 1 (d := dDraw) rfl
  obtain ⟨fdSome, FSome⟩ := cd.def_ 2 (d := dSome) rfl
  obtain ⟨fdIs, FIs⟩ := cd.def_ 3 (d := dIs) rfl
  obtain ⟨fdDeep, FDeep⟩ := cd.def_ 4 (d := dDeep) rfl
  obtain ⟨fdDrawn, FDrawn⟩ := cd.def_ 5 (d := dDrawn) rfl
  obtain ⟨fdOdd, FOdd⟩ := cd.def_ 6 (d := dOdd) rfl
  obtain ⟨fdDueMark, FDueMark⟩ := cd.def_ 7 (d := dDueMark) rfl
  obtain ⟨fdLacks, FLacks⟩ := cd.def_ 8 (d := dLacks) rfl
  obtain ⟨fdJoined, FJoined⟩ := cd.def_ 9 (d := dJoined) rfl
  obtain ⟨fdWith, FWith⟩ := cd.def_ 10 (d := dWith) rfl
  obtain ⟨fdWord, FWord⟩ := cd.def_ 11 (d := dWord) rfl
  obtain ⟨fdRight, FRight⟩ := cd.def_ 12 (d := dRight) rfl
  obtain ⟨fdLaw, FLaw⟩ := cd.def_ 13 (d := dLaw) rfl
  obtain ⟨fdInteger, FInteger⟩ := cd.def_ 14 (d := dInteger) rfl
  obtain ⟨fdNumber, FNumber⟩ := cd.def_ 15 (d := dNumber) rfl
  obtain ⟨fdTupleOf, FTupleOf⟩ := cd.def_ 16 (d := dTupleOf) rfl
  obtain ⟨fdRising, FRising⟩ := cd.def_ 17 (d := dRising) rfl
  obtain ⟨fdLife, FLife⟩ := cd.def_ 18 (d := dLife) rfl
  obtain ⟨fdFromOne, FFromOne⟩ := cd.def_ 19 (d := dFromOne) rfl
  obtain ⟨fdMark, FMark⟩ := cd.def_ 20 (d := dMark) rfl
  obtain ⟨fdMarkPair, FMarkPair⟩ := cd.def_ 21 (d := dMarkPair) rfl
  obtain ⟨fdCheck, FCheck⟩ := cd.def_ 22 (d := dCheck) rfl
  obtain ⟨fdHolds, FHolds⟩ := cd.def_ 23 (d := dHolds) rfl
  obtain ⟨fdBoth, FBoth⟩ := cd.def_ 24 (d := dBoth) rfl
  obtain ⟨fdLacking, FLacking⟩ := cd.def_ 25 (d := dLacking) rfl
  obtain ⟨fdI0, FI0⟩ := cd.def_ 26 (d := dI0) rfl
  have e := hfa.symm.trans (He.glo_ok X G (cd.fact 13 (f := .glo "law") rfl))
  cases e
  have b := FunD.bindsA (ps := ["script"]) FLaw (fun _ _ _ _ _ _ us hl => match us, hl with | [_], _ => rfl)
  have M : Nm mg := {
    isinstance := (He.free_ok X G (cd.fact 29 (f := .free "isinstance") rfl))
    int := (He.free_ok X G (cd.fact 30 (f := .free "int") rfl))
    bool := (He.free_ok X G (cd.fact 31 (f := .free "bool") rfl))
    tuple := (He.free_ok X G (cd.fact 32 (f := .free "tuple") rfl))
    list := (He.free_ok X G (cd.fact 33 (f := .free "list") rfl))
    dict := (He.free_ok X G (cd.fact 34 (f := .free "dict") rfl))
    str := (He.free_ok X G (cd.fact 35 (f := .free "str") rfl))
    len := (He.free_ok X G (cd.fact 36 (f := .free "len") rfl))
    all := (He.free_ok X G (cd.fact 37 (f := .free "all") rfl))
    zip := (He.free_ok X G (cd.fact 38 (f := .free "zip") rfl))
    sorted := (He.free_ok X G (cd.fact 39 (f := .free "sorted") rfl))
    max := (He.free_ok X G (cd.fact 40 (f := .free "max") rfl))
    set := (He.free_ok X G (cd.fact 41 (f := .free "set") rfl))
    range := (He.free_ok X G (cd.fact 42 (f := .free "range") rfl))
    ValueError := (He.free_ok X G (cd.fact 43 (f := .free "ValueError") rfl))
    last := He.int_ok X G (cd.fact 44 (f := .int "LAST_LIFE" 999) rfl) }
  have Z := chk_ok X G (He.glo_ok X G (cd.fact 26 (f := .glo "ViewError") rfl)) (He.glo_ok X G (cd.fact 27 (f := .glo "NoMark") rfl)) c.more
  obtain ⟨ocW, odW, dVW, kVW, docW, pmW, anW, cdg, ctW, oslW, eW, lkW, hcdW, _, _⟩ := FWord.ex
  obtain ⟨ocL, odL, dVL, kVL, docL, pmL, anL, cdL, ctL, oslL, eL, lkL, hcdL, _, _⟩ := FLaw.ex
  obtain ⟨cc, ecc⟩ := He.codeIn_ref hcdL
  have ec : He.codeOf K ("law", none) = cc := He.codeOf_eq lkL (by rw [eL, ecc])
  have hcode : ∀ oc od dV kV doc pm an cdv ct osl, K.lookup (He.fAd K ("law", none)) = some ⟨oc, od, .func (PySem.W.fnOf "law" "law" (defArgs sLaw) (defBody sLaw) (defScope sLaw) dV kV doc pm an cdv ct), osl⟩ → cdv = .ref (He.cT K ("law", none)).1 := fun oc od dV kV doc pm an cdv ct osl lk => by
    rw [eL] at lkL
    have e2 := lk.symm.trans lkL
    have e3 : cdv = cdL := congrArg (fun z : Option Obj => match z with | some ⟨_, _, .func fd, _⟩ => fd.code | _ => .none) e2
    rw [e3, ecc, ← ec]
    rfl
  refine ⟨fdLaw, [He.cT K ("law", none)], spLaw K (He.cT K ("law", none)).2, fun p hp => ?_, fun p hp => ?_, fun p hp => ?_, fun s u => b s [u] rfl, fun H a ns hl _ hP hS => ⟨a, ns, rfl, hS, hl, hP _ List.mem_cons_self, fun _ => rfl⟩, fun base _ _ hT => ?_⟩
  · rw [List.mem_singleton.mp hp]
    exact c.empty _ List.mem_cons_self
  · rw [List.mem_singleton.mp hp]
    exact c.out _ List.mem_cons_self
  · rw [List.mem_singleton.mp hp]
    exact PySem.W.codeHd_of_K X (c.hd _ List.mem_cons_self)
  generalize (PySem.Challenge.rw_shownviews_k02_whole_marks).prog = P
  have eDraw : Df P w K mg base "_law_draw" 1 ["hand", "many"] spDraw := ⟨_, _, (He.glo_ok X G (cd.fact 1 (f := .glo "_law_draw") rfl)), FDraw.kp, FDraw.bindsN (fun _ _ _ _ _ _ us hl => match us, hl with | [_, _], _ => rfl), ok_draw FDraw M.int M.len⟩
  have eSome : Df P w K mg base "_law_some" 2 ["hand", "things"] (spSome K) := ⟨_, _, (He.glo_ok X G (cd.fact 2 (f := .glo "_law_some") rfl)), FSome.kp, FSome.bindsN (fun _ _ _ _ _ _ us hl => match us, hl with | [_, _], _ => rfl), ok_some FSome eDraw M.len⟩
  have eInt : Df P w K mg base "is_integer" 1 ["thing"] (spA K intD) := ⟨_, _, (He.glo_ok X G (cd.fact 14 (f := .glo "is_integer") rfl)), FInteger.kp, FInteger.bindsN (fun _ _ _ _ _ _ us hl => match us, hl with | [_], _ => rfl), ok_integer FInteger M⟩
  have eNum : Df P w K mg base "is_number" 2 ["thing"] (spA K num0D) := ⟨_, _, (He.glo_ok X G (cd.fact 15 (f := .glo "is_number") rfl)), FNumber.kp, FNumber.bindsN (fun _ _ _ _ _ _ us hl => match us, hl with | [_], _ => rfl), ok_number FNumber eInt⟩
  have eFrom : Df P w K mg base "is_from_one" 3 ["thing"] (spA K fromD) := ⟨_, _, (He.glo_ok X G (cd.fact 19 (f := .glo "is_from_one") rfl)), FFromOne.kp, FFromOne.bindsN (fun _ _ _ _ _ _ us hl => match us, hl with | [_], _ => rfl), ok_fromOne FFromOne eNum⟩
  have eLife : Df P w K mg base "is_life" 2 ["thing"] (spA K lifeD) := ⟨_, _, (He.glo_ok X G (cd.fact 18 (f := .glo "is_life") rfl)), FLife.kp, FLife.bindsN (fun _ _ _ _ _ _ us hl => match us, hl with | [_], _ => rfl), ok_life FLife M eInt⟩
  have eTup : Df P w K mg base "is_tuple_of" 1 ["thing", "least", "most"] (spTupOf K) := ⟨_, _, (He.glo_ok X G (cd.fact 16 (f := .glo "is_tuple_of") rfl)), FTupleOf.kp, FTupleOf.bindsN (fun _ _ _ _ _ _ us hl => match us, hl with | [_, _, _], _ => rfl), ok_tupleOf FTupleOf M⟩
  have ePair : Df P w K mg base "is_mark_pair" 4 ["thing"] (spA K pairD) := ⟨_, _, (He.glo_ok X G (cd.fact 21 (f := .glo "is_mark_pair") rfl)), FMarkPair.kp, FMarkPair.bindsN (fun _ _ _ _ _ _ us hl => match us, hl with | [_], _ => rfl), ok_markPair FMarkPair eTup eLife eFrom⟩
  have eRis : Df P w K mg base "is_rising" 1 ["keys"] (spRising K) := ⟨_, _, (He.glo_ok X G (cd.fact 17 (f := .glo "is_rising") rfl)), FRising.kp, FRising.bindsN (fun _ _ _ _ _ _ us hl => match us, hl with | [_], _ => rfl), ok_rising FRising M⟩
  have eMark : Df P w K mg base "is_mark" 5 ["thing"] (spMark K) := ⟨_, _, (He.glo_ok X G (cd.fact 20 (f := .glo "is_mark") rfl)), FMark.kp, FMark.bindsN (fun _ _ _ _ _ _ us hl => match us, hl with | [_], _ => rfl), ok_mark FMark M ePair eRis⟩
  have i0 : DI0 P w K mg base (f0 K) := ⟨_, ok_init0 FI0, FI0.bindsN (fun _ _ _ _ _ _ us hl => match us, hl with | [_], _ => rfl)⟩
  have eCheck : DfX P w K mg base "check_marks" 6 ["mark", "other"] (spTwo K (He.ga K "NoMark") rCheck) := ⟨_, _, (He.glo_ok X G (cd.fact 22 (f := .glo "check_marks") rfl)), FCheck.kp, FCheck.bindsN (fun _ _ _ _ _ _ us hl => match us, hl with | [_, _], _ => rfl), ok_check FCheck Z.cm i0 eMark⟩
  have eLacking : DfX P w K mg base "lacking" 7 ["mark", "other"] (spTwo K (He.ga K "NoMark") (rLack K)) := ⟨_, _, (He.glo_ok X G (cd.fact 25 (f := .glo "lacking") rfl)), FLacking.kp, FLacking.bindsN (fun _ _ _ _ _ _ us hl => match us, hl with | [_, _], _ => rfl), ok_lacking FLacking M eCheck⟩
  have eHolds : DfX P w K mg base "holds" 8 ["mark", "other"] (spTwo K (He.ga K "NoMark") rHolds) := ⟨_, _, (He.glo_ok X G (cd.fact 23 (f := .glo "holds") rfl)), FHolds.kp, FHolds.bindsN (fun _ _ _ _ _ _ us hl => match us, hl with | [_, _], _ => rfl), ok_holds FHolds eLacking⟩
  have eBoth : DfX P w K mg base "both" 7 ["mark", "other"] (spTwo K (He.ga K "NoMark") (rBoth K)) := ⟨_, _, (He.glo_ok X G (cd.fact 24 (f := .glo "both") rfl)), FBoth.kp, FBoth.bindsN (fun _ _ _ _ _ _ us hl => match us, hl with | [_, _], _ => rfl), ok_both FBoth M eCheck⟩
  have eLacks : Df P w K mg base "_law_lacks" 1 ["mark", "other"] (spM2 K (rLack K)) := ⟨_, _, (He.glo_ok X G (cd.fact 8 (f := .glo "_law_lacks") rfl)), FLacks.kp, FLacks.bindsN (fun _ _ _ _ _ _ us hl => match us, hl with | [_, _], _ => rfl), ok_lacks FLacks M⟩
  have eJoined : Df P w K mg base "_law_joined" 1 ["mark", "other"] (spM2 K (rBoth K)) := ⟨_, _, (He.glo_ok X G (cd.fact 9 (f := .glo "_law_joined") rfl)), FJoined.kp, FJoined.bindsN (fun _ _ _ _ _ _ us hl => match us, hl with | [_, _], _ => rfl), ok_joined FJoined M⟩
  have eWith : Df P w K mg base "_law_with" 2 ["mark", "triples"] (spWith K) := ⟨_, _, (He.glo_ok X G (cd.fact 10 (f := .glo "_law_with") rfl)), FWith.kp, FWith.bindsN (fun _ _ _ _ _ _ us hl => match us, hl with | [_, _], _ => rfl), ok_with FWith M eJoined⟩
  have eIs : Df P w K mg base "_law_is" 3 ["told", "due"] (spIs K 3) := ⟨_, _, (He.glo_ok X G (cd.fact 3 (f := .glo "_law_is") rfl)), FIs.kp, FIs.bindsN (fun _ _ _ _ _ _ us hl => match us, hl with | [_, _], _ => rfl), ok_is FIs M (He.glo_ok X G (cd.fact 3 (f := .glo "_law_is") rfl)) FIs.kp (FIs.bindsN (fun _ _ _ _ _ _ us hl => match us, hl with | [_, _], _ => rfl)) 3⟩
  have Dt : Ds P w K mg base (He.ga K "NoMark") := ⟨eLacking, eHolds, eBoth, eLacks, eJoined, eWith, eIs⟩
  have eDeep : Df P w K mg base "_law_deep" 3 ["hand", "thing"] (spDeep K) := ⟨_, _, (He.glo_ok X G (cd.fact 4 (f := .glo "_law_deep") rfl)), FDeep.kp, FDeep.bindsN (fun _ _ _ _ _ _ us hl => match us, hl with | [_, _], _ => rfl), ok_deep FDeep M eDraw eSome⟩
  have Dx : Dl P w K mg base (He.ga K "NoMark") := {
    d := Dt
    hand := ⟨_, _, (He.glo_ok X G (cd.fact 0 (f := .glo "_law_hand") rfl)), FHand.kp, FHand.bindsN (fun _ _ _ _ _ _ us hl => match us, hl with | [_], _ => rfl), ok_hand FHand (He.free_ok X G (cd.fact 28 (f := .free "abs") rfl)) M.int M.len⟩
    some := eSome
    drawn := ⟨_, _, (He.glo_ok X G (cd.fact 5 (f := .glo "_law_drawn_mark") rfl)), FDrawn.kp, FDrawn.bindsN (fun _ _ _ _ _ _ us hl => match us, hl with | [_], _ => rfl), ok_drawn FDrawn M eDraw eSome⟩
    odd := ⟨_, _, (He.glo_ok X G (cd.fact 6 (f := .glo "_law_odd") rfl)), FOdd.kp, FOdd.bindsN (fun _ _ _ _ _ _ us hl => match us, hl with | [_, _], _ => rfl), ok_odd FOdd M eDraw eSome eDeep⟩
    due := ⟨_, _, (He.glo_ok X G (cd.fact 7 (f := .glo "_law_is_due_mark") rfl)), FDueMark.kp, FDueMark.bindsN (fun _ _ _ _ _ _ us hl => match us, hl with | [_], _ => rfl), ok_due FDueMark M⟩
    mark := eMark
    right := ⟨_, _, (He.glo_ok X G (cd.fact 12 (f := .glo "_law_are_two_right") rfl)), FRight.kp, FRight.bindsN (fun _ _ _ _ _ _ us hl => match us, hl with | [_, _], _ => rfl), ok_right FRight Dt⟩ }
  have bW : L2.Binds K fdWord ["call"] [] := FWord.bindsN (fun _ _ _ _ _ _ us hl => match us, hl with | [_], _ => rfl)
  have wf : Wf K mg (He.fAd K ("_law_word", none)) cdg := ⟨⟨ocW, odW, dVW, kVW, docW, pmW, anW, ctW, oslW, eW ▸ lkW, eW ▸ bW⟩, hcdW, FWord.kp, (He.glo_ok X G (cd.fact 11 (f := .glo "_law_word") rfl))⟩
  exact ok_law FLaw hcode (hT _ List.mem_cons_self) M Z.cf Dx wf
end Sw
namespace Sw
open PySem PySem.Spec PyProof.Rows L2
abbrev R : PySem.W.OpenRow := PySem.W.OpenLaw.row PySem.Challenge.rw_shownviews_k02_whole_marks
def loose1 : List Str := ["ViewError", "NoDeed", "NoEdit", "NoLife", "NoMark", "NoName", "NoSchema", "NotYet", "OtherSchema", "is_integer", "is_number", "is_tuple_of", "is_rising", "LAST_LIFE", "is_life", "is_from_one", "is_mark"]
def loose2 : List Str := ["is_mark_pair", "check_marks", "holds", "both", "lacking", "_law_hand", "_law_draw", "_law_some", "_law_is", "_law_deep", "_law_drawn_mark", "_law_odd", "_law_is_due_mark", "_law_lacks", "_law_joined", "_law_with", "_law_word", "_law_are_two_right"]
abbrev loose : List Str := loose1 ++ loose2
theorem run (w : World) : HandSHeadRun.RunEq R (PySem.W.view R.prog [39]) hk ob 12000 loose w := by
  intro os
  kernel_rfl
end Sw
open PySem PySem.W PySem.Calls PyProof.Rows
theorem PySem.Challenge.cw_shownviews_k02_whole_marks_holds : PySem.Challenge.rw_shownviews_k02_whole_marks.Holds := by
  w_on; o_law
  refine HandSHeadRun.head_any (r := Sw.R) (q := view Sw.R.prog [39]) (H := Sw.hk) (ob := Sw.ob) (M := 12000) (loose := Sw.loose) (d := HandSHeadRun.topDef Sw.R.prog 39) (kwd := []) Sw.ob_eq
    (by kernel_rfl) (fun s => by kernel_rfl) Sw.run (by kernel_rfl) (by kernel_rfl) (by kernel_rfl) (by rfl) (by first | assumption | decide +kernel) (by decide +kernel) ⟨rfl, rfl, rfl, rfl, rfl, by decide +kernel⟩ ?hw ?hc
  case hw => w_witness2
  case hc =>
    refine LamX.walk_ofTsE (l := PySem.Challenge.rw_shownviews_k02_whole_marks) (n := 63) (k := 11) (x := "script") (CX := fun _ => L2.CX0) rfl (by decide) (by kernel_rfl) ⟨rfl, by decide, by decide⟩ ?F (fun _ _ _ _ _ h => h)
    intro w mg fa h Y G hmg0
    obtain ⟨K, KX, c⟩ := Y
    have hmg : mg ("law" : PySem.Str) = some (.ref fa) := by
      have e : (HandSHeadRun.topDef Sw.R.prog 39).name = ("law" : PySem.Str) := by kernel_rfl
      rw [← e]
      exact hmg0
    exact ⟨K, KX, Sw.facts KX G hmg c⟩
