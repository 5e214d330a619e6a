import Derived.Test.YtcoamiaifbjofaaX20a
import Derived.Test.YtcoamiaifbjofaaVxAid
import Derived.Test.YtcoamiaifbjofaaVxLaw
import Derived.Test.YtcoamiaifbjofaaX20
import Derived.Test.YtcoamiaifbjofaaX20ttt
import Derived.Test.YtcoamiaifbjofaaX20ns
import Derived.Test.YtcoamiaifbjofaaVxBits
namespace Go.Proofs.Ytcoamiaifbjofaa.Vx
open Go Go.RowKit
set_option linter.unusedVariables false
set_option maxRecDepth 100000
theorem take_getD {α : Type} {l : List α} {n : Nat} {d : α} (h : n < l.length) : l.take (n + 1) = l.take n ++ [l.getD n d] := by
  rw [List.take_succ_eq_append_getElem h, List.getD_eq_getElem?_getD, List.getElem?_eq_getElem h]; rfl
theorem eq2 {a b c d : Int} (h : (a == c && (b == d && true)) = true) : a = c ∧ b = d := by simpa using h
theorem eq2s {a b : Int} : (a == a && (b == b && true)) = true := by simp
theorem den_ext {a b : Ty} {x y : Ty.den (.pair a b)} (h : (Prod.fst x : a.den) = Prod.fst y) (k : (Prod.snd x : b.den) = Prod.snd y) : x = y := Prod.ext h k

theorem t60L (a b : List (Ty.den TCmd)) (hl : a.length = b.length) (hb : a.length ≤ 9223372036854775807) : ∃ k d, iterS fn_L60_4 FU [.l TCmd b, .l TCmd a, .n a.length, .n 0] = some (k, d) ∧ ((k = 0 ∧ d = [] ∧ a = b) ∨ (k = 1 ∧ d = [.b false] ∧ a ≠ b)) := by
  refine iterS_ok (st := fn_L60_4) (fun env => ∃ i : Int, env = [.l TCmd b, .l TCmd a, .n a.length, .n i] ∧ 0 ≤ i ∧ i ≤ a.length ∧ a.take i.toNat = b.take i.toNat) (fun env => (a.length - gn env 3).toNat) (fun k d => (k = 0 ∧ d = [] ∧ a = b) ∨ (k = 1 ∧ d = [.b false] ∧ a ≠ b)) ?_ FU _ ⟨0, rfl, by omega, by omega, rfl⟩ (by show ((a.length : Int) - 0).toNat < FU; unfold FU; omega)
  rintro env ⟨i, rfl, h0, h1, h2⟩
  by_cases hlt : i < (a.length : Int)
  · have w1 : IntKind.wrap .i64 (i + 1) = i + 1 := w64 (by omega) (by omega)
    have hn : (i + 1).toNat = i.toNat + 1 := by omega
    cases hE : (Prod.fst (List.getD b (Int.toNat i) (Ty.dflt (Ty.pair (Ty.int IntKind.u8) (Ty.int IntKind.i64)))) == Prod.fst (List.getD a (Int.toNat i) (Ty.dflt (Ty.pair (Ty.int IntKind.u8) (Ty.int IntKind.i64)))) && (Prod.snd (List.getD b (Int.toNat i) (Ty.dflt (Ty.pair (Ty.int IntKind.u8) (Ty.int IntKind.i64)))) == Prod.snd (List.getD a (Int.toNat i) (Ty.dflt (Ty.pair (Ty.int IntKind.u8) (Ty.int IntKind.i64)))) && true)) with
    | true =>
      have he : List.getD b (Int.toNat i) (Ty.dflt (Ty.pair (Ty.int IntKind.u8) (Ty.int IntKind.i64))) = List.getD a (Int.toNat i) (Ty.dflt (Ty.pair (Ty.int IntKind.u8) (Ty.int IntKind.i64))) := den_ext (eq2 hE).1 (eq2 hE).2
      refine .inl ⟨_, (selT (dt hlt)).trans ((selT (inR_true h0 (by omega))).trans ((selT (inR_true h0 (by omega))).trans (selF (nt hE)))), ⟨IntKind.wrap .i64 (i + 1), rfl, by omega, by omega, ?_⟩, ?_⟩
      · rw [w1, hn, take_getD (d := (Ty.dflt (Ty.pair (Ty.int IntKind.u8) (Ty.int IntKind.i64)))) (by omega), take_getD (d := (Ty.dflt (Ty.pair (Ty.int IntKind.u8) (Ty.int IntKind.i64)))) (by omega), h2]
        first | rw [he] | rw [← he]
      · show ((a.length : Int) - IntKind.wrap .i64 (i + 1)).toNat < ((a.length : Int) - i).toNat
        rw [w1]; omega
    | false =>
      refine .inr ⟨1, [.b false], (selT (dt hlt)).trans ((selT (inR_true h0 (by omega))).trans ((selT (inR_true h0 (by omega))).trans (selT (nf hE)))), .inr ⟨rfl, rfl, ?_⟩⟩
      rintro rfl
      exact absurd (eq2s.symm.trans hE) (by simp)
  · refine .inr ⟨0, [], selF (df hlt), .inl ⟨rfl, rfl, ?_⟩⟩
    have e : i.toNat = a.length := by omega
    rw [e, List.take_length, hl, List.take_length] at h2
    exact h2

theorem t61L (a b : List (Ty.den TCmd)) (hl : a.length = b.length) (hb : a.length ≤ 9223372036854775807) : ∃ k d, iterS fn_L61_4 FU [.l TCmd a, .l TCmd b, .n 0] = some (k, d) ∧ ((k = 0 ∧ d = [] ∧ a = b) ∨ (k = 1 ∧ d = [.b false] ∧ a ≠ b)) := by
  refine iterS_ok (st := fn_L61_4) (fun env => ∃ i : Int, env = [.l TCmd a, .l TCmd b, .n i] ∧ 0 ≤ i ∧ i ≤ a.length ∧ a.take i.toNat = b.take i.toNat) (fun env => (a.length - gn env 2).toNat) (fun k d => (k = 0 ∧ d = [] ∧ a = b) ∨ (k = 1 ∧ d = [.b false] ∧ a ≠ b)) ?_ FU _ ⟨0, rfl, by omega, by omega, rfl⟩ (by show ((a.length : Int) - 0).toNat < FU; unfold FU; omega)
  rintro env ⟨i, rfl, h0, h1, h2⟩
  by_cases hlt : i < (a.length : Int)
  · have w1 : IntKind.wrap .i64 (i + 1) = i + 1 := w64 (by omega) (by omega)
    have hn : (i + 1).toNat = i.toNat + 1 := by omega
    cases hE : (Prod.fst (List.getD a (Int.toNat i) (Ty.dflt (Ty.pair (Ty.int IntKind.u8) (Ty.int IntKind.i64)))) == Prod.fst (List.getD b (Int.toNat i) (Ty.dflt (Ty.pair (Ty.int IntKind.u8) (Ty.int IntKind.i64)))) && (Prod.snd (List.getD a (Int.toNat i) (Ty.dflt (Ty.pair (Ty.int IntKind.u8) (Ty.int IntKind.i64)))) == Prod.snd (List.getD b (Int.toNat i) (Ty.dflt (Ty.pair (Ty.int IntKind.u8) (Ty.int IntKind.i64)))) && true)) with
    | true =>
      have he : List.getD a (Int.toNat i) (Ty.dflt (Ty.pair (Ty.int IntKind.u8) (Ty.int IntKind.i64))) = List.getD b (Int.toNat i) (Ty.dflt (Ty.pair (Ty.int IntKind.u8) (Ty.int IntKind.i64))) := den_ext (eq2 hE).1 (eq2 hE).2
      refine .inl ⟨_, (selT (dt hlt)).trans ((selT (inR_true h0 (by omega))).trans ((selT (inR_true h0 (by omega))).trans (selF (nt hE)))), ⟨IntKind.wrap .i64 (i + 1), rfl, by omega, by omega, ?_⟩, ?_⟩
      · rw [w1, hn, take_getD (d := (Ty.dflt (Ty.pair (Ty.int IntKind.u8) (Ty.int IntKind.i64)))) (by omega), take_getD (d := (Ty.dflt (Ty.pair (Ty.int IntKind.u8) (Ty.int IntKind.i64)))) (by omega), h2]
        first | rw [he] | rw [← he]
      · show ((a.length : Int) - IntKind.wrap .i64 (i + 1)).toNat < ((a.length : Int) - i).toNat
        rw [w1]; omega
    | false =>
      refine .inr ⟨1, [.b false], (selT (dt hlt)).trans ((selT (inR_true h0 (by omega))).trans ((selT (inR_true h0 (by omega))).trans (selT (nf hE)))), .inr ⟨rfl, rfl, ?_⟩⟩
      rintro rfl
      exact absurd (eq2s.symm.trans hE) (by simp)
  · refine .inr ⟨0, [], selF (df hlt), .inl ⟨rfl, rfl, ?_⟩⟩
    have e : i.toNat = a.length := by omega
    rw [e, List.take_length, hl, List.take_length] at h2
    exact h2

theorem t60 (a b : List (Ty.den TCmd)) (hb : a.length ≤ 9223372036854775807) : ∃ r : Bool, op_60 [.l TCmd a, .l TCmd b] = some (0, [.b r]) ∧ (r = true ↔ a = b) := by
  by_cases hl : a.length = b.length
  · have h1 : ((a.length : Int) != (b.length : Int)) = false := by simp [hl]
    obtain ⟨k, d, e, h⟩ := t60L a b hl hb
    rcases h with ⟨rfl, rfl, h⟩ | ⟨rfl, rfl, h⟩
    · exact ⟨true, (selF h1).trans (selT (congrArg (isK 0 []) e)), by simp [h]⟩
    · refine ⟨false, (selF h1).trans ((selF (congrArg (isK 0 []) e)).trans ((selT (congrArg (isK 1 [HK.b]) e)).trans ?_)), by simp [h]⟩
      exact congrArg (fun r => some (0, [Dat.b (gb (dOf r) 0)])) e
  · have h1 : ((a.length : Int) != (b.length : Int)) = true := by simpa using fun h => hl (by omega)
    exact ⟨false, selT h1, by simp; rintro rfl; exact hl rfl⟩

theorem t61 (a b : List (Ty.den TCmd)) (hb : a.length ≤ 9223372036854775807) : ∃ r : Bool, op_61 [.l TCmd a, .l TCmd b] = some (0, [.b r]) ∧ (r = true ↔ a = b) := by
  by_cases hl : a.length = b.length
  · have h1 : ((a.length : Int) != (b.length : Int)) = false := by simp [hl]
    obtain ⟨k, d, e, h⟩ := t61L a b hl hb
    rcases h with ⟨rfl, rfl, h⟩ | ⟨rfl, rfl, h⟩
    · exact ⟨true, (selF h1).trans (selT (congrArg (isK 0 []) e)), by simp [h]⟩
    · refine ⟨false, (selF h1).trans ((selF (congrArg (isK 0 []) e)).trans ((selT (congrArg (isK 1 [HK.b]) e)).trans ?_)), by simp [h]⟩
      exact congrArg (fun r => some (0, [Dat.b (gb (dOf r) 0)])) e
  · have h1 : ((a.length : Int) != (b.length : Int)) = true := by simpa using fun h => hl (by omega)
    exact ⟨false, selT h1, by simp; rintro rfl; exact hl rfl⟩

theorem t29 (n0 n1 n2 n4 n5 n6 : Int) (a b : List (Ty.den TCmd)) (hb : a.length ≤ 9223372036854775807) : ∃ r : Bool, op_29 [.n n0, .n n1, .n n2, .l TCmd a, .n n4, .n n5, .n n6, .l TCmd b] = some (0, [.b r]) ∧ (r = true ↔ n0 = n4 ∧ n1 = n5 ∧ n2 = n6 ∧ a = b) := by
  by_cases h0 : n0 = n4
  · by_cases h1 : n1 = n5
    · by_cases h2 : n2 = n6
      · obtain ⟨r, e, h⟩ := t60 a b hb
        refine ⟨r, (selT (bt h0)).trans ((selT (bt h1)).trans ((selT (bt h2)).trans ((selT (congrArg (isK 0 [HK.b]) e)).trans ?_))), by simp [h0, h1, h2, h]⟩
        exact congrArg (fun r => some (0, [Dat.b (gb (dOf r) 0)])) e
      · exact ⟨false, (selT (bt h0)).trans ((selT (bt h1)).trans (selF (bf h2))), by simp [h2]⟩
    · exact ⟨false, (selT (bt h0)).trans (selF (bf h1)), by simp [h1]⟩
  · exact ⟨false, selF (bf h0), by simp [h0]⟩

theorem t30 (n0 n1 n2 n4 n5 n6 : Int) (a b : List (Ty.den TCmd)) (hb : a.length ≤ 9223372036854775807) : ∃ r : Bool, op_30 [.n n0, .n n1, .n n2, .l TCmd a, .n n4, .n n5, .n n6, .l TCmd b] = some (0, [.b r]) ∧ (r = true ↔ n0 = n4 ∧ n1 = n5 ∧ n2 = n6 ∧ a = b) := by
  by_cases h0 : n0 = n4
  · by_cases h1 : n1 = n5
    · by_cases h2 : n2 = n6
      · obtain ⟨r, e, h⟩ := t61 a b hb
        refine ⟨r, (selT (bt h0)).trans ((selT (bt h1)).trans ((selT (bt h2)).trans ((selT (congrArg (isK 0 [HK.b]) e)).trans ?_))), by simp [h0, h1, h2, h]⟩
        exact congrArg (fun r => some (0, [Dat.b (gb (dOf r) 0)])) e
      · exact ⟨false, (selT (bt h0)).trans ((selT (bt h1)).trans (selF (bf h2))), by simp [h2]⟩
    · exact ⟨false, (selT (bt h0)).trans (selF (bf h1)), by simp [h1]⟩
  · exact ⟨false, selF (bf h0), by simp [h0]⟩

abbrev LC := List (Ty.den TCmd)
noncomputable def eqc (a b : LC) : Bool := @decide (a = b) (Classical.propDecidable _)
theorem eqc_iff (a b : LC) : eqc a b = true ↔ a = b := by unfold eqc; simp
theorem eqc_self (a : LC) : eqc a a = true := (eqc_iff a a).2 rfl
theorem u60 (a b : LC) (hb : a.length ≤ 9223372036854775807) : op_60 [.l TCmd a, .l TCmd b] = some (0, [.b (eqc a b)]) := by
  obtain ⟨r, e, h⟩ := t60 a b hb
  have : r = eqc a b := by rw [Bool.eq_iff_iff, h, eqc_iff]
  rw [← this]; exact e
theorem u61 (a b : LC) (hb : a.length ≤ 9223372036854775807) : op_61 [.l TCmd a, .l TCmd b] = some (0, [.b (eqc a b)]) := by
  obtain ⟨r, e, h⟩ := t61 a b hb
  have : r = eqc a b := by rw [Bool.eq_iff_iff, h, eqc_iff]
  rw [← this]; exact e
theorem isKb (k : Nat) (x : Bool) : isK 0 [HK.b] (some (0, [.b x])) = true := rfl
theorem isKm (x y z : Int) (l : LC) : isK 0 [HK.n, HK.n, HK.n, HK.l TCmd] (some (0, [.n x, .n y, .n z, .l TCmd l])) = true := rfl
noncomputable def mg (a b : LC) : LC := bif eqc a b then a else []
theorem mg_len (a b : LC) : (mg a b).length ≤ a.length := by unfold mg; cases eqc a b <;> simp
theorem u31 (n0 n1 n2 n4 n5 n6 : Int) (a b : LC) (ha : a.length ≤ 100) : op_31 [.n n0, .n n1, .n n2, .l TCmd a, .n n4, .n n5, .n n6, .l TCmd b] = some (0, [.n (ior .u64 n0 n4), .n (iand .u32 n1 n5), .n (iand .u32 n2 n6), .l TCmd (mg a b)]) := by
  show (fn_31 [.n n0, .n n1, .n n2, .l TCmd a, .n n4, .n n5, .n n6, .l TCmd b]).sel = _
  have e1 := u60 a b (by omega)
  have e2 := op_62_is a (by omega)
  refine (selT (congrArg (isK 0 [HK.b]) e1)).trans ?_
  unfold mg
  cases h : eqc a b with
  | true =>
    rw [h] at e1
    refine (selT (congrArg (fun r => gb (dOf r) 0) e1)).trans ((selT (congrArg (isK 0 [HK.l TCmd]) e2)).trans ?_)
    exact congrArg (fun r => some (0, [Dat.n (ior .u64 n0 n4), .n (iand .u32 n1 n5), .n (iand .u32 n2 n6), .l TCmd (gl TCmd (dOf r) 0)])) e2
  | false =>
    rw [h] at e1
    exact selF (congrArg (fun r => gb (dOf r) 0) e1)
theorem u32_ (n0 n1 n2 n4 n5 n6 : Int) (a b : LC) (ha : a.length ≤ 100) : op_32 [.n n0, .n n1, .n n2, .l TCmd a, .n n4, .n n5, .n n6, .l TCmd b] = some (0, [.n (ior .u64 n0 n4), .n (iand .u32 n1 n5), .n (iand .u32 n2 n6), .l TCmd (mg a b)]) := by
  show (fn_32 [.n n0, .n n1, .n n2, .l TCmd a, .n n4, .n n5, .n n6, .l TCmd b]).sel = _
  have e1 := u61 a b (by omega)
  refine (selT (congrArg (isK 0 [HK.b]) e1)).trans ?_
  unfold mg
  cases h : eqc a b with
  | true =>
    rw [h] at e1
    exact (selT (congrArg (fun r => gb (dOf r) 0) e1)).trans (selT (dt (by omega)))
  | false =>
    rw [h] at e1
    exact selF (congrArg (fun r => gb (dOf r) 0) e1)
theorem u30 (n0 n1 n2 : Int) (a : LC) (ha : a.length ≤ 100) : op_30 [.n n0, .n n1, .n n2, .l TCmd a, .n n0, .n n1, .n n2, .l TCmd a] = some (0, [.b true]) := by
  obtain ⟨r, e, h⟩ := t30 n0 n1 n2 n0 n1 n2 a a (by omega)
  have : r = true := h.2 ⟨rfl, rfl, rfl, rfl⟩
  rw [this] at e; exact e
end Go.Proofs.Ytcoamiaifbjofaa.Vx
namespace Go.Proofs.Ytcoamiaifbjofaa.Vx
open Go Go.RowKit
set_option linter.unusedVariables false
set_option maxRecDepth 100000
theorem e12 (a : Int) : ∃ p : Int, op_12 [.n a, .n 3] = some (0, [.n p]) := by
  rw [op_12_eq]
  refine ⟨Int.tmod (IntKind.wrap .i64 (Int.tmod a 3 + 3)) 3, fn_12_t_im a 3 _ ?_⟩
  unfold fn_12_t
  exact sel_f (decide_eq_false (by omega)) rfl
theorem e16n (a b c d e : Int) : op_16n [.n a, .n b, .n c, .n d, .n e] = some (0, []) := by
  rw [op_16n_eq]
  refine fn_16n_t_im a b c d e _ ?_
  unfold fn_16n_t
  have k : op_L16n_2 [.k 0, .n 0, .n a, .n b, .n c, .n d, .n e] = some (0, []) := by
    rw [op_L16n_2_eq, show FU = 18446744073709551615 + 1 from rfl]
    unfold iterS
    rw [fn_L16n_2_t_im 0 a b c d e (.stop 0 []) (by unfold fn_L16n_2_t; exact sel_f (decide_eq_false (by omega)) rfl)]
  exact sel_t (by erw [k]; rfl) rfl
theorem l16o (l : LC) (a b c d e : Int) (hl : l.length ≤ 1000) : ∃ l' : LC, op_L16o_2 [.k 0, .n 0, .l TCmd l, .n a, .n b, .n c, .n d, .n e] = some (0, [.l TCmd l']) := by
  have g := op_L16o_2_good (p := fun y => ∃ l' : LC, y = (0, [.l TCmd l'])) (fun env => ∃ (i : Int) (l : LC), env = [.k 0, .n i, .l TCmd l, .n a, .n b, .n c, .n d, .n e] ∧ 0 ≤ i ∧ i ≤ (l.length : Int) ∧ l.length ≤ 1000)
    (fun env => (((gl TCmd env 2).length : Int) - gn env 1).toNat) (by
      rintro env ⟨i, l, rfl, h0, h1, h2⟩
      refine (fn_L16o_2_t_im i l a b c d e).good ?_
      unfold fn_L16o_2_t
      refine good_node (fun t1 => ?_) (fun t1 => ?_)
      · have t2 : i < (l.length : Int) := of_decide_eq_true t1
        refine good_t (inR_true h0 t2) (good_leaf ?_)
        have w := w64s (x := i + 1) (by omega) (by omega)
        have key : ∀ l' : LC, l'.length = l.length → (∃ (i' : Int) (l2 : LC), [Dat.k 0, .n (IntKind.wrap .i64 (i + 1)), .l TCmd l', .n a, .n b, .n c, .n d, .n e] = [Dat.k 0, .n i', .l TCmd l2, .n a, .n b, .n c, .n d, .n e] ∧ 0 ≤ i' ∧ i' ≤ (l2.length : Int) ∧ l2.length ≤ 1000) ∧ ((l'.length : Int) - IntKind.wrap .i64 (i + 1)).toNat < ((l.length : Int) - i).toNat := by
          intro l' hl'
          rw [w]
          exact ⟨⟨i + 1, l', rfl, by omega, by omega, by omega⟩, by omega⟩
        exact key _ (List.length_set ..)
      · exact good_leaf ⟨l, rfl⟩) _ ⟨0, l, rfl, by omega, by omega, hl⟩ (by show ((l.length : Int) - 0).toNat < FU; unfold FU; omega)
  obtain ⟨y, h, l', rfl⟩ := g
  exact ⟨l', h⟩
theorem e16o (l : LC) (a b c d e : Int) (hl : l.length ≤ 1000) : ∃ l' : LC, op_16o [.n a, .n b, .n c, .n d, .n e, .l TCmd l] = some (0, [.l TCmd l']) := by
  obtain ⟨l', k⟩ := l16o l a b c d e hl
  refine ⟨l', ?_⟩
  rw [op_16o_eq]
  refine fn_16o_t_im a b c d e l _ ?_
  unfold fn_16o_t
  exact sel_t (by erw [k]; rfl) (by erw [k]; rfl)
noncomputable def sm (n0 n1 n2 : Int) (a : LC) (n4 n5 n6 : Int) (b : LC) : Bool := @decide (n0 = n4 ∧ n1 = n5 ∧ n2 = n6 ∧ a = b) (Classical.propDecidable _)
theorem sm_iff {n0 n1 n2 : Int} {a : LC} {n4 n5 n6 : Int} {b : LC} : sm n0 n1 n2 a n4 n5 n6 b = true ↔ n0 = n4 ∧ n1 = n5 ∧ n2 = n6 ∧ a = b := by unfold sm; simp
theorem sm_self (n0 n1 n2 : Int) (a : LC) : sm n0 n1 n2 a n0 n1 n2 a = true := sm_iff.2 ⟨rfl, rfl, rfl, rfl⟩
theorem sm_symm (n0 n1 n2 : Int) (a : LC) (n4 n5 n6 : Int) (b : LC) : sm n0 n1 n2 a n4 n5 n6 b = sm n4 n5 n6 b n0 n1 n2 a := by
  rw [Bool.eq_iff_iff, sm_iff, sm_iff]
  constructor <;> rintro ⟨rfl, rfl, rfl, rfl⟩ <;> exact ⟨rfl, rfl, rfl, rfl⟩
theorem e29 (n0 n1 n2 : Int) (a : LC) (n4 n5 n6 : Int) (b : LC) (h : a.length ≤ 1000) : op_29 [.n n0, .n n1, .n n2, .l TCmd a, .n n4, .n n5, .n n6, .l TCmd b] = some (0, [.b (sm n0 n1 n2 a n4 n5 n6 b)]) := by
  obtain ⟨r, e, k⟩ := t29 n0 n1 n2 n4 n5 n6 a b (by omega)
  have : r = sm n0 n1 n2 a n4 n5 n6 b := by rw [Bool.eq_iff_iff, k, sm_iff]
  rw [← this]; exact e
theorem e30 (n0 n1 n2 : Int) (a : LC) (n4 n5 n6 : Int) (b : LC) (h : a.length ≤ 1000) : op_30 [.n n0, .n n1, .n n2, .l TCmd a, .n n4, .n n5, .n n6, .l TCmd b] = some (0, [.b (sm n0 n1 n2 a n4 n5 n6 b)]) := by
  obtain ⟨r, e, k⟩ := t30 n0 n1 n2 n4 n5 n6 a b (by omega)
  have : r = sm n0 n1 n2 a n4 n5 n6 b := by rw [Bool.eq_iff_iff, k, sm_iff]
  rw [← this]; exact e
theorem l7 (l : List (Ty.den TCall)) (hl : l.length ≤ 60) : Good (fun y => (y = (0, []) ∧ ∀ i : Int, 0 ≤ i → i < (l.length : Int) → (cl_7 l i).length ≤ 20) ∨ y = (1, [.b false])) (op_L7_4 [.k 0, .l TCall l, .n 0]) := by
  refine op_L7_4_good (fun env => ∃ (i : Int), env = [.k 0, .l TCall l, .n i] ∧ 0 ≤ i ∧ i ≤ (l.length : Int) ∧ ∀ j : Int, 0 ≤ j → j < i → (cl_7 l j).length ≤ 20) (fun env => ((l.length : Int) - gn env 2).toNat) ?_ _ ⟨0, rfl, by omega, by omega, fun j a b => by omega⟩ (by show ((l.length : Int) - 0).toNat < FU; unfold FU; omega)
  rintro env ⟨i, rfl, h0, h1, h2⟩
  refine (fn_L7_4_t_im l i).good ?_
  unfold fn_L7_4_t
  refine good_node (fun t1 => ?_) (fun t1 => ?_)
  · have t2 : i < (l.length : Int) := of_decide_eq_true t1
    refine good_t (inR_true h0 t2) (good_node (fun t3 => good_leaf (.inr rfl)) (fun t3 => good_leaf ?_))
    have w := w64s (x := i + 1) (by omega) (by omega)
    have t4 : ¬ (((cl_7 l i).length : Int) > 20) := of_decide_eq_false t3
    refine ⟨⟨i + 1, congrArg (fun x => _ :: _ :: Dat.n x :: []) w, by omega, by omega, fun j a b => ?_⟩, ?_⟩
    · by_cases q : j = i
      · subst q; omega
      · exact h2 j a (by omega)
    · rw [w]; show ((l.length : Int) - (i + 1)).toNat < ((l.length : Int) - i).toNat; omega
  · have t2 : ¬ (i < (l.length : Int)) := of_decide_eq_false t1
    exact good_leaf (.inl ⟨rfl, fun j a b => h2 j a (by omega)⟩)
theorem e7 (l : List (Ty.den TCall)) : ∃ r : Bool, op_7 [.l TCall l] = some (0, [.b r]) ∧ (r = true → l.length ≤ 60 ∧ ∀ i : Int, 0 ≤ i → i < (l.length : Int) → (cl_7 l i).length ≤ 20) := by
  rw [op_7_eq]
  by_cases h : (l.length : Int) > 60
  · refine ⟨false, fn_7_t_im l _ ?_, by simp⟩
    unfold fn_7_t
    exact sel_t (decide_eq_true h) rfl
  · obtain ⟨y, k, q⟩ := l7 l (by omega)
    rcases q with ⟨rfl, q⟩ | rfl
    · refine ⟨true, fn_7_t_im l _ ?_, fun _ => ⟨by omega, q⟩⟩
      unfold fn_7_t
      exact sel_f (decide_eq_false h) (sel_t (by erw [k]; rfl) rfl)
    · refine ⟨false, fn_7_t_im l _ ?_, by simp⟩
      unfold fn_7_t
      exact sel_f (decide_eq_false h) (sel_f (by erw [k]; rfl) (sel_t (by erw [k]; rfl) (by erw [k]; rfl)))
end Go.Proofs.Ytcoamiaifbjofaa.Vx
namespace Go.Proofs.Ytcoamiaifbjofaa.Vx
open Go Go.RowKit
set_option linter.unusedVariables false
set_option linter.unusedSimpArgs false
set_option maxRecDepth 100000
set_option maxHeartbeats 0
attribute [local irreducible] op_29 op_30 op_31 op_32 op_62
abbrev LR := List (Ty.den TCall)
theorem e62 (l : LC) (h : l.length ≤ 1000) : op_62 [.l TCmd l] = some (0, [.l TCmd l]) := op_62_is l (by omega)
theorem e31 (a b c : Int) (l : LC) (d e f : Int) (m : LC) (h : l.length ≤ 20) : op_31 [.n a, .n b, .n c, .l TCmd l, .n d, .n e, .n f, .l TCmd m] = some (0, [.n (ior .u64 a d), .n (iand .u32 b e), .n (iand .u32 c f), .l TCmd (mg l m)]) := u31 a b c d e f l m (by omega)
theorem e32 (a b c : Int) (l : LC) (d e f : Int) (m : LC) (h : l.length ≤ 20) : op_32 [.n a, .n b, .n c, .l TCmd l, .n d, .n e, .n f, .l TCmd m] = some (0, [.n (ior .u64 a d), .n (iand .u32 b e), .n (iand .u32 c f), .l TCmd (mg l m)]) := u32_ a b c d e f l m (by omega)
theorem nil20 : ([] : LC).length ≤ 20 := Nat.zero_le _
theorem up {n : Nat} (h : n ≤ 20) : n ≤ 1000 := by omega
theorem mgl {a b : LC} (h : a.length ≤ 20) : (mg a b).length ≤ 1000 := Nat.le_trans (mg_len a b) (up h)
abbrev e000 (l0 : LR) (n1 : Int) (n2 : Int) (n3 : Int) (b4 : Bool) (n5 : Int) (n6 : Int) (n7 : Int) (l8 : LC) (n9 : Int) (n10 : Int) (n11 : Int) (l12 : LC) (n13 : Int) (n14 : Int) (n15 : Int) (l16 : LC) (n17 : Int) (n18 : Int) : List Dat := [.k 0, .l TCall l0, .n n1, .n n2, .n n3, .b b4, .n n2, .n n3, .b false, .n n5, .n n6, .n n7, .l TCmd l8, .b false, .n n9, .n n10, .n n11, .l TCmd l12, .b false, .n n17, .n n18, .n n13, .n n14, .n n15, .l TCmd l16, .b b4]
abbrev e001 (l0 : LR) (n1 : Int) (n2 : Int) (n3 : Int) (b4 : Bool) (n5 : Int) (n6 : Int) (n7 : Int) (l8 : LC) (n9 : Int) (n10 : Int) (n11 : Int) (l12 : LC) (n13 : Int) (n14 : Int) (n15 : Int) (l16 : LC) (n17 : Int) (n18 : Int) : List Dat := [.k 1, .l TCall l0, .n n1, .n n2, .n n3, .b b4, .n n2, .n n3, .b false, .n n5, .n n6, .n n7, .l TCmd l8, .b false, .n n9, .n n10, .n n11, .l TCmd l12, .b true, .n n17, .n n18, .n n13, .n n14, .n n15, .l TCmd l16, .b b4, .n n17, .n n18, .n n13, .n n14, .n n15, .l TCmd l16]
abbrev e010 (l0 : LR) (n1 : Int) (n2 : Int) (n3 : Int) (b4 : Bool) (n5 : Int) (n6 : Int) (n7 : Int) (l8 : LC) (n9 : Int) (n10 : Int) (n11 : Int) (l12 : LC) (n13 : Int) (n14 : Int) (n15 : Int) (l16 : LC) (n17 : Int) (n18 : Int) (n19 : Int) : List Dat := [.k 2, .l TCall l0, .n n1, .n n2, .n n3, .b b4, .n n2, .n n3, .b false, .n n5, .n n6, .n n7, .l TCmd l8, .b true, .n n9, .n n10, .n n11, .l TCmd l12, .b false, .n n17, .n n18, .n n13, .n n14, .n n15, .l TCmd l16, .b b4, .n n19, .n n3, .n n9, .n n10, .n n11, .l TCmd l12]
abbrev e011 (l0 : LR) (n1 : Int) (n2 : Int) (n3 : Int) (b4 : Bool) (n5 : Int) (n6 : Int) (n7 : Int) (l8 : LC) (n9 : Int) (n10 : Int) (n11 : Int) (l12 : LC) (n13 : Int) (n14 : Int) (n15 : Int) (l16 : LC) (n17 : Int) (n18 : Int) (n19 : Int) : List Dat := [.k 3, .l TCall l0, .n n1, .n n2, .n n3, .b b4, .n n2, .n n3, .b false, .n n5, .n n6, .n n7, .l TCmd l8, .b true, .n n9, .n n10, .n n11, .l TCmd l12, .b true, .n n17, .n n18, .n n13, .n n14, .n n15, .l TCmd l16, .b b4, .n n19, .n n3, .n n9, .n n10, .n n11, .l TCmd l12, .n n17, .n n18, .n n13, .n n14, .n n15, .l TCmd l16]
abbrev e100 (l0 : LR) (n1 : Int) (n2 : Int) (n3 : Int) (b4 : Bool) (n5 : Int) (n6 : Int) (n7 : Int) (l8 : LC) (n9 : Int) (n10 : Int) (n11 : Int) (l12 : LC) (n13 : Int) (n14 : Int) (n15 : Int) (l16 : LC) (n17 : Int) (n18 : Int) (n19 : Int) (n20 : Int) : List Dat := [.k 4, .l TCall l0, .n n1, .n n2, .n n3, .b b4, .n n2, .n n3, .b true, .n n5, .n n6, .n n7, .l TCmd l8, .b false, .n n9, .n n10, .n n11, .l TCmd l12, .b false, .n n17, .n n18, .n n13, .n n14, .n n15, .l TCmd l16, .b b4, .n n19, .n n20, .n n5, .n n6, .n n7, .l TCmd l8]
abbrev e101 (l0 : LR) (n1 : Int) (n2 : Int) (n3 : Int) (b4 : Bool) (n5 : Int) (n6 : Int) (n7 : Int) (l8 : LC) (n9 : Int) (n10 : Int) (n11 : Int) (l12 : LC) (n13 : Int) (n14 : Int) (n15 : Int) (l16 : LC) (n17 : Int) (n18 : Int) (n19 : Int) (n20 : Int) : List Dat := [.k 5, .l TCall l0, .n n1, .n n2, .n n3, .b b4, .n n2, .n n3, .b true, .n n5, .n n6, .n n7, .l TCmd l8, .b false, .n n9, .n n10, .n n11, .l TCmd l12, .b true, .n n17, .n n18, .n n13, .n n14, .n n15, .l TCmd l16, .b b4, .n n19, .n n20, .n n5, .n n6, .n n7, .l TCmd l8, .n n17, .n n18, .n n13, .n n14, .n n15, .l TCmd l16]
abbrev e110 (l0 : LR) (n1 : Int) (n2 : Int) (n3 : Int) (b4 : Bool) (n5 : Int) (n6 : Int) (n7 : Int) (l8 : LC) (n9 : Int) (n10 : Int) (n11 : Int) (l12 : LC) (n13 : Int) (n14 : Int) (n15 : Int) (l16 : LC) (n17 : Int) (n18 : Int) (n19 : Int) (n20 : Int) (n21 : Int) : List Dat := [.k 6, .l TCall l0, .n n1, .n n2, .n n3, .b b4, .n n2, .n n3, .b true, .n n5, .n n6, .n n7, .l TCmd l8, .b true, .n n9, .n n10, .n n11, .l TCmd l12, .b false, .n n17, .n n18, .n n13, .n n14, .n n15, .l TCmd l16, .b b4, .n n19, .n n20, .n n5, .n n6, .n n7, .l TCmd l8, .n n21, .n n3, .n n9, .n n10, .n n11, .l TCmd l12]
abbrev e111 (l0 : LR) (n1 : Int) (n2 : Int) (n3 : Int) (b4 : Bool) (n5 : Int) (n6 : Int) (n7 : Int) (l8 : LC) (n9 : Int) (n10 : Int) (n11 : Int) (l12 : LC) (n13 : Int) (n14 : Int) (n15 : Int) (l16 : LC) (n17 : Int) (n18 : Int) (n19 : Int) (n20 : Int) (n21 : Int) : List Dat := [.k 7, .l TCall l0, .n n1, .n n2, .n n3, .b b4, .n n2, .n n3, .b true, .n n5, .n n6, .n n7, .l TCmd l8, .b true, .n n9, .n n10, .n n11, .l TCmd l12, .b true, .n n17, .n n18, .n n13, .n n14, .n n15, .l TCmd l16, .b b4, .n n19, .n n20, .n n5, .n n6, .n n7, .l TCmd l8, .n n21, .n n3, .n n9, .n n10, .n n11, .l TCmd l12, .n n17, .n n18, .n n13, .n n14, .n n15, .l TCmd l16]
def InvP (l0 : LR) (n1 : Int) (env : List Dat) : Prop :=
  (∃ n2 n3 b4 n5 n6 n7 l8 n9 n10 n11 l12 n13 n14 n15 l16 n17 n18, env = e000 l0 n1 n2 n3 b4 n5 n6 n7 l8 n9 n10 n11 l12 n13 n14 n15 l16 n17 n18 ∧ l8.length ≤ 20 ∧ l12.length ≤ 20 ∧ l16.length ≤ 20) ∨
  (∃ n2 n3 b4 n5 n6 n7 l8 n9 n10 n11 l12 n13 n14 n15 l16 n17 n18, env = e001 l0 n1 n2 n3 b4 n5 n6 n7 l8 n9 n10 n11 l12 n13 n14 n15 l16 n17 n18 ∧ l8.length ≤ 20 ∧ l12.length ≤ 20 ∧ l16.length ≤ 20) ∨
  (∃ n2 n3 b4 n5 n6 n7 l8 n9 n10 n11 l12 n13 n14 n15 l16 n17 n18 n19, env = e010 l0 n1 n2 n3 b4 n5 n6 n7 l8 n9 n10 n11 l12 n13 n14 n15 l16 n17 n18 n19 ∧ l8.length ≤ 20 ∧ l12.length ≤ 20 ∧ l16.length ≤ 20) ∨
  (∃ n2 n3 b4 n5 n6 n7 l8 n9 n10 n11 l12 n13 n14 n15 l16 n17 n18 n19, env = e011 l0 n1 n2 n3 b4 n5 n6 n7 l8 n9 n10 n11 l12 n13 n14 n15 l16 n17 n18 n19 ∧ l8.length ≤ 20 ∧ l12.length ≤ 20 ∧ l16.length ≤ 20) ∨
  (∃ n2 n3 b4 n5 n6 n7 l8 n9 n10 n11 l12 n13 n14 n15 l16 n17 n18 n19 n20, env = e100 l0 n1 n2 n3 b4 n5 n6 n7 l8 n9 n10 n11 l12 n13 n14 n15 l16 n17 n18 n19 n20 ∧ l8.length ≤ 20 ∧ l12.length ≤ 20 ∧ l16.length ≤ 20) ∨
  (∃ n2 n3 b4 n5 n6 n7 l8 n9 n10 n11 l12 n13 n14 n15 l16 n17 n18 n19 n20, env = e101 l0 n1 n2 n3 b4 n5 n6 n7 l8 n9 n10 n11 l12 n13 n14 n15 l16 n17 n18 n19 n20 ∧ l8.length ≤ 20 ∧ l12.length ≤ 20 ∧ l16.length ≤ 20) ∨
  (∃ n2 n3 b4 n5 n6 n7 l8 n9 n10 n11 l12 n13 n14 n15 l16 n17 n18 n19 n20 n21, env = e110 l0 n1 n2 n3 b4 n5 n6 n7 l8 n9 n10 n11 l12 n13 n14 n15 l16 n17 n18 n19 n20 n21 ∧ l8.length ≤ 20 ∧ l12.length ≤ 20 ∧ l16.length ≤ 20) ∨
  (∃ n2 n3 b4 n5 n6 n7 l8 n9 n10 n11 l12 n13 n14 n15 l16 n17 n18 n19 n20 n21, env = e111 l0 n1 n2 n3 b4 n5 n6 n7 l8 n9 n10 n11 l12 n13 n14 n15 l16 n17 n18 n19 n20 n21 ∧ l8.length ≤ 20 ∧ l12.length ≤ 20 ∧ l16.length ≤ 20)
def StepP (l0 : LR) (n1 : Int) : Step → Prop
  | .go e => InvP l0 (n1 + 1) e
  | .stop k d => False
theorem i000 {l0 : LR} {n1 i' : Int} {n2 : Int} {n3 : Int} {b4 : Bool} {n5 : Int} {n6 : Int} {n7 : Int} {l8 : LC} {n9 : Int} {n10 : Int} {n11 : Int} {l12 : LC} {n13 : Int} {n14 : Int} {n15 : Int} {l16 : LC} {n17 : Int} {n18 : Int} (hw : i' = n1 + 1) (h0 : l8.length ≤ 20) (h1 : l12.length ≤ 20) (h2 : l16.length ≤ 20) : InvP l0 (n1 + 1) (e000 l0 i' n2 n3 b4 n5 n6 n7 l8 n9 n10 n11 l12 n13 n14 n15 l16 n17 n18) := by subst hw; exact .inl ⟨_, _, _, _, _, _, _, _, _, _, _, _, _, _, _, _, _, rfl, h0, h1, h2⟩
theorem i001 {l0 : LR} {n1 i' : Int} {n2 : Int} {n3 : Int} {b4 : Bool} {n5 : Int} {n6 : Int} {n7 : Int} {l8 : LC} {n9 : Int} {n10 : Int} {n11 : Int} {l12 : LC} {n13 : Int} {n14 : Int} {n15 : Int} {l16 : LC} {n17 : Int} {n18 : Int} (hw : i' = n1 + 1) (h0 : l8.length ≤ 20) (h1 : l12.length ≤ 20) (h2 : l16.length ≤ 20) : InvP l0 (n1 + 1) (e001 l0 i' n2 n3 b4 n5 n6 n7 l8 n9 n10 n11 l12 n13 n14 n15 l16 n17 n18) := by subst hw; exact .inr (.inl ⟨_, _, _, _, _, _, _, _, _, _, _, _, _, _, _, _, _, rfl, h0, h1, h2⟩)
theorem i010 {l0 : LR} {n1 i' : Int} {n2 : Int} {n3 : Int} {b4 : Bool} {n5 : Int} {n6 : Int} {n7 : Int} {l8 : LC} {n9 : Int} {n10 : Int} {n11 : Int} {l12 : LC} {n13 : Int} {n14 : Int} {n15 : Int} {l16 : LC} {n17 : Int} {n18 : Int} {n19 : Int} (hw : i' = n1 + 1) (h0 : l8.length ≤ 20) (h1 : l12.length ≤ 20) (h2 : l16.length ≤ 20) : InvP l0 (n1 + 1) (e010 l0 i' n2 n3 b4 n5 n6 n7 l8 n9 n10 n11 l12 n13 n14 n15 l16 n17 n18 n19) := by subst hw; exact .inr (.inr (.inl ⟨_, _, _, _, _, _, _, _, _, _, _, _, _, _, _, _, _, _, rfl, h0, h1, h2⟩))
theorem i011 {l0 : LR} {n1 i' : Int} {n2 : Int} {n3 : Int} {b4 : Bool} {n5 : Int} {n6 : Int} {n7 : Int} {l8 : LC} {n9 : Int} {n10 : Int} {n11 : Int} {l12 : LC} {n13 : Int} {n14 : Int} {n15 : Int} {l16 : LC} {n17 : Int} {n18 : Int} {n19 : Int} (hw : i' = n1 + 1) (h0 : l8.length ≤ 20) (h1 : l12.length ≤ 20) (h2 : l16.length ≤ 20) : InvP l0 (n1 + 1) (e011 l0 i' n2 n3 b4 n5 n6 n7 l8 n9 n10 n11 l12 n13 n14 n15 l16 n17 n18 n19) := by subst hw; exact .inr (.inr (.inr (.inl ⟨_, _, _, _, _, _, _, _, _, _, _, _, _, _, _, _, _, _, rfl, h0, h1, h2⟩)))
theorem i100 {l0 : LR} {n1 i' : Int} {n2 : Int} {n3 : Int} {b4 : Bool} {n5 : Int} {n6 : Int} {n7 : Int} {l8 : LC} {n9 : Int} {n10 : Int} {n11 : Int} {l12 : LC} {n13 : Int} {n14 : Int} {n15 : Int} {l16 : LC} {n17 : Int} {n18 : Int} {n19 : Int} {n20 : Int} (hw : i' = n1 + 1) (h0 : l8.length ≤ 20) (h1 : l12.length ≤ 20) (h2 : l16.length ≤ 20) : InvP l0 (n1 + 1) (e100 l0 i' n2 n3 b4 n5 n6 n7 l8 n9 n10 n11 l12 n13 n14 n15 l16 n17 n18 n19 n20) := by subst hw; exact .inr (.inr (.inr (.inr (.inl ⟨_, _, _, _, _, _, _, _, _, _, _, _, _, _, _, _, _, _, _, rfl, h0, h1, h2⟩))))
theorem i101 {l0 : LR} {n1 i' : Int} {n2 : Int} {n3 : Int} {b4 : Bool} {n5 : Int} {n6 : Int} {n7 : Int} {l8 : LC} {n9 : Int} {n10 : Int} {n11 : Int} {l12 : LC} {n13 : Int} {n14 : Int} {n15 : Int} {l16 : LC} {n17 : Int} {n18 : Int} {n19 : Int} {n20 : Int} (hw : i' = n1 + 1) (h0 : l8.length ≤ 20) (h1 : l12.length ≤ 20) (h2 : l16.length ≤ 20) : InvP l0 (n1 + 1) (e101 l0 i' n2 n3 b4 n5 n6 n7 l8 n9 n10 n11 l12 n13 n14 n15 l16 n17 n18 n19 n20) := by subst hw; exact .inr (.inr (.inr (.inr (.inr (.inl ⟨_, _, _, _, _, _, _, _, _, _, _, _, _, _, _, _, _, _, _, rfl, h0, h1, h2⟩)))))
theorem i110 {l0 : LR} {n1 i' : Int} {n2 : Int} {n3 : Int} {b4 : Bool} {n5 : Int} {n6 : Int} {n7 : Int} {l8 : LC} {n9 : Int} {n10 : Int} {n11 : Int} {l12 : LC} {n13 : Int} {n14 : Int} {n15 : Int} {l16 : LC} {n17 : Int} {n18 : Int} {n19 : Int} {n20 : Int} {n21 : Int} (hw : i' = n1 + 1) (h0 : l8.length ≤ 20) (h1 : l12.length ≤ 20) (h2 : l16.length ≤ 20) : InvP l0 (n1 + 1) (e110 l0 i' n2 n3 b4 n5 n6 n7 l8 n9 n10 n11 l12 n13 n14 n15 l16 n17 n18 n19 n20 n21) := by subst hw; exact .inr (.inr (.inr (.inr (.inr (.inr (.inl ⟨_, _, _, _, _, _, _, _, _, _, _, _, _, _, _, _, _, _, _, _, rfl, h0, h1, h2⟩))))))
theorem i111 {l0 : LR} {n1 i' : Int} {n2 : Int} {n3 : Int} {b4 : Bool} {n5 : Int} {n6 : Int} {n7 : Int} {l8 : LC} {n9 : Int} {n10 : Int} {n11 : Int} {l12 : LC} {n13 : Int} {n14 : Int} {n15 : Int} {l16 : LC} {n17 : Int} {n18 : Int} {n19 : Int} {n20 : Int} {n21 : Int} (hw : i' = n1 + 1) (h0 : l8.length ≤ 20) (h1 : l12.length ≤ 20) (h2 : l16.length ≤ 20) : InvP l0 (n1 + 1) (e111 l0 i' n2 n3 b4 n5 n6 n7 l8 n9 n10 n11 l12 n13 n14 n15 l16 n17 n18 n19 n20 n21) := by subst hw; exact .inr (.inr (.inr (.inr (.inr (.inr (.inr (⟨_, _, _, _, _, _, _, _, _, _, _, _, _, _, _, _, _, _, _, _, rfl, h0, h1, h2⟩)))))))
theorem step000 {l0 : LR} {n1 : Int} (p0 : 0 ≤ n1) (p1 : n1 < (l0.length : Int)) (hl : l0.length ≤ 60) (c7 : (cl_7 l0 n1).length ≤ 20) (n2 : Int) (n3 : Int) (b4 : Bool) (n5 : Int) (n6 : Int) (n7 : Int) (l8 : LC) (n9 : Int) (n10 : Int) (n11 : Int) (l12 : LC) (n13 : Int) (n14 : Int) (n15 : Int) (l16 : LC) (n17 : Int) (n18 : Int) (k8 : l8.length ≤ 20) (k12 : l12.length ≤ 20) (k16 : l16.length ≤ 20) : Good (StepP l0 n1) (st_L3_10 (e000 l0 n1 n2 n3 b4 n5 n6 n7 l8 n9 n10 n11 l12 n13 n14 n15 l16 n17 n18)).sel := by
  have w : IntKind.wrap .i64 (n1 + 1) = n1 + 1 := w64 (by omega) (by omega)
  refine Imp.good (fn_L3_10_t000_im l0 n1 n2 n3 b4 n5 n6 n7 l8 n9 n10 n11 l12 n13 n14 n15 l16 n17 n18 p0 p1) ?_
  unfold fn_L3_10_t000
  refine good_t (decide_eq_true (show List.length (cl_7 l0 n1) * 16 ≤ 140737488355328 by omega)) ?_
  obtain ⟨pa0, a0⟩ := e12 (cl_1 l0 n1)
  erw [a0]
  refine good_t rfl ?_
  refine good_node (fun q1 => ?_) (fun q1 => ?_)
  ·
   refine good_node (fun q2 => ?_) (fun q2 => ?_)
   ·
    replace q2 := of_decide_eq_true q2
    erw [e16n (0 : Int) (0 : Int) (0 : Int) (0 : Int) (0 : Int)]
    refine good_t rfl ?_
    obtain ⟨pa4, a4⟩ := e16o (cl_7 l0 n1) (cl_2 l0 n1) (cl_3 l0 n1) (cl_4 l0 n1) (cl_5 l0 n1) (cl_6 l0 n1) (up c7)
    erw [a4]
    refine good_t rfl ?_
    exact good_leaf (i000 w k8 k12 k16)
   ·
    replace q2 := of_decide_eq_false q2
    erw [e62 (cl_7 l0 n1) (up c7)]
    refine good_t rfl ?_
    erw [e62 (cl_7 l0 n1) (up c7)]
    refine good_t rfl ?_
    erw [e30 (cl_4 l0 n1) (cl_5 l0 n1) (cl_6 l0 n1) (cl_7 l0 n1) (cl_4 l0 n1) (cl_5 l0 n1) (cl_6 l0 n1) (cl_7 l0 n1) (up c7)]
    refine good_t rfl ?_
    refine good_f (show (!(sm (cl_4 l0 n1) (cl_5 l0 n1) (cl_6 l0 n1) (cl_7 l0 n1) (cl_4 l0 n1) (cl_5 l0 n1) (cl_6 l0 n1) (cl_7 l0 n1))) = false by rw [(show (sm (cl_4 l0 n1) (cl_5 l0 n1) (cl_6 l0 n1) (cl_7 l0 n1) (cl_4 l0 n1) (cl_5 l0 n1) (cl_6 l0 n1) (cl_7 l0 n1)) = true from sm_self (cl_4 l0 n1) (cl_5 l0 n1) (cl_6 l0 n1) (cl_7 l0 n1))]; rfl) ?_
    obtain ⟨pa8, a8⟩ := e16o (cl_7 l0 n1) n2 (cl_3 l0 n1) (cl_4 l0 n1) (cl_5 l0 n1) (cl_6 l0 n1) (up c7)
    erw [a8]
    refine good_t rfl ?_
    obtain ⟨pa9, a9⟩ := e16o (cl_7 l0 n1) (cl_2 l0 n1) (cl_3 l0 n1) (cl_4 l0 n1) (cl_5 l0 n1) (cl_6 l0 n1) (up c7)
    erw [a9]
    refine good_t rfl ?_
    erw [e16n (0 : Int) (0 : Int) (0 : Int) (0 : Int) (0 : Int)]
    refine good_t rfl ?_
    exact good_leaf (i100 w c7 nil20 k16)
  ·
   refine good_node (fun q11 => ?_) (fun q11 => ?_)
   ·
    replace q11 := qnT q11
    obtain ⟨pa12, a12⟩ := e16o (cl_7 l0 n1) (cl_2 l0 n1) (cl_3 l0 n1) (cl_4 l0 n1) (cl_5 l0 n1) (cl_6 l0 n1) (up c7)
    erw [a12]
    refine good_t rfl ?_
    erw [e16n (0 : Int) (0 : Int) (0 : Int) (0 : Int) (0 : Int)]
    refine good_t rfl ?_
    exact good_leaf (i000 w k8 k12 k16)
   ·
    replace q11 := qnF q11
    refine good_node (fun q14 => ?_) (fun q14 => ?_)
    ·
     replace q14 := of_decide_eq_true q14
     obtain ⟨pa15, a15⟩ := e16o (cl_7 l0 n1) (cl_2 l0 n1) (cl_3 l0 n1) (cl_4 l0 n1) (cl_5 l0 n1) (cl_6 l0 n1) (up c7)
     erw [a15]
     refine good_t rfl ?_
     erw [e16n (0 : Int) (0 : Int) (0 : Int) (0 : Int) (0 : Int)]
     refine good_t rfl ?_
     exact good_leaf (i000 w k8 k12 k16)
    ·
     replace q14 := of_decide_eq_false q14
     erw [e62 (cl_7 l0 n1) (up c7)]
     refine good_t rfl ?_
     refine good_node (fun q18 => ?_) (fun q18 => ?_)
     ·
      replace q18 := of_decide_eq_true q18
      obtain ⟨pa19, a19⟩ := e16o (cl_7 l0 n1) (cl_2 l0 n1) (cl_3 l0 n1) (cl_4 l0 n1) (cl_5 l0 n1) (cl_6 l0 n1) (up c7)
      erw [a19]
      refine good_t rfl ?_
      erw [e16n (0 : Int) (0 : Int) (0 : Int) (0 : Int) (0 : Int)]
      refine good_t rfl ?_
      exact good_leaf (i001 w k8 k12 c7)
     ·
      replace q18 := of_decide_eq_false q18
      obtain ⟨pa21, a21⟩ := e16o (cl_7 l0 n1) (cl_2 l0 n1) (cl_3 l0 n1) (cl_4 l0 n1) (cl_5 l0 n1) (cl_6 l0 n1) (up c7)
      erw [a21]
      refine good_t rfl ?_
      erw [e16n (0 : Int) (0 : Int) (0 : Int) (0 : Int) (0 : Int)]
      refine good_t rfl ?_
      rw [show (cl_3 l0 n1) = n3 by omega]
      exact good_leaf (i010 w k8 c7 k16)
theorem step001 {l0 : LR} {n1 : Int} (p0 : 0 ≤ n1) (p1 : n1 < (l0.length : Int)) (hl : l0.length ≤ 60) (c7 : (cl_7 l0 n1).length ≤ 20) (n2 : Int) (n3 : Int) (b4 : Bool) (n5 : Int) (n6 : Int) (n7 : Int) (l8 : LC) (n9 : Int) (n10 : Int) (n11 : Int) (l12 : LC) (n13 : Int) (n14 : Int) (n15 : Int) (l16 : LC) (n17 : Int) (n18 : Int) (k8 : l8.length ≤ 20) (k12 : l12.length ≤ 20) (k16 : l16.length ≤ 20) : Good (StepP l0 n1) (st_L3_10 (e001 l0 n1 n2 n3 b4 n5 n6 n7 l8 n9 n10 n11 l12 n13 n14 n15 l16 n17 n18)).sel := by
  have w : IntKind.wrap .i64 (n1 + 1) = n1 + 1 := w64 (by omega) (by omega)
  refine Imp.good (fn_L3_10_t001_im l0 n1 n2 n3 b4 n5 n6 n7 l8 n9 n10 n11 l12 n13 n14 n15 l16 n17 n18 p0 p1) ?_
  unfold fn_L3_10_t001
  refine good_t (decide_eq_true (show List.length (cl_7 l0 n1) * 16 ≤ 140737488355328 by omega)) ?_
  obtain ⟨pa0, a0⟩ := e12 (cl_1 l0 n1)
  erw [a0]
  refine good_t rfl ?_
  refine good_node (fun q1 => ?_) (fun q1 => ?_)
  ·
   refine good_node (fun q2 => ?_) (fun q2 => ?_)
   ·
    replace q2 := of_decide_eq_true q2
    erw [e16n (0 : Int) (0 : Int) (0 : Int) (0 : Int) (0 : Int)]
    refine good_t rfl ?_
    obtain ⟨pa4, a4⟩ := e16o (cl_7 l0 n1) (cl_2 l0 n1) (cl_3 l0 n1) (cl_4 l0 n1) (cl_5 l0 n1) (cl_6 l0 n1) (up c7)
    erw [a4]
    refine good_t rfl ?_
    exact good_leaf (i001 w k8 k12 k16)
   ·
    replace q2 := of_decide_eq_false q2
    erw [e62 (cl_7 l0 n1) (up c7)]
    refine good_t rfl ?_
    refine good_node (fun q6 => ?_) (fun q6 => ?_)
    ·
     replace q6 := of_decide_eq_true q6
     refine good_node (fun q7 => ?_) (fun q7 => ?_)
     ·
      replace q7 := qeT q7
      erw [e62 (cl_7 l0 n1) (up c7)]
      refine good_t rfl ?_
      erw [e30 (cl_4 l0 n1) (cl_5 l0 n1) (cl_6 l0 n1) (cl_7 l0 n1) (cl_4 l0 n1) (cl_5 l0 n1) (cl_6 l0 n1) (cl_7 l0 n1) (up c7)]
      refine good_t rfl ?_
      refine good_f (show (!(sm (cl_4 l0 n1) (cl_5 l0 n1) (cl_6 l0 n1) (cl_7 l0 n1) (cl_4 l0 n1) (cl_5 l0 n1) (cl_6 l0 n1) (cl_7 l0 n1))) = false by rw [(show (sm (cl_4 l0 n1) (cl_5 l0 n1) (cl_6 l0 n1) (cl_7 l0 n1) (cl_4 l0 n1) (cl_5 l0 n1) (cl_6 l0 n1) (cl_7 l0 n1)) = true from sm_self (cl_4 l0 n1) (cl_5 l0 n1) (cl_6 l0 n1) (cl_7 l0 n1))]; rfl) ?_
      obtain ⟨pa10, a10⟩ := e16o (cl_7 l0 n1) n2 (cl_3 l0 n1) (cl_4 l0 n1) (cl_5 l0 n1) (cl_6 l0 n1) (up c7)
      erw [a10]
      refine good_t rfl ?_
      obtain ⟨pa11, a11⟩ := e16o (cl_7 l0 n1) (cl_2 l0 n1) (cl_3 l0 n1) (cl_4 l0 n1) (cl_5 l0 n1) (cl_6 l0 n1) (up c7)
      erw [a11]
      refine good_t rfl ?_
      erw [e31 (cl_4 l0 n1) (cl_5 l0 n1) (cl_6 l0 n1) (cl_7 l0 n1) n13 n14 n15 l16 c7]
      refine good_t rfl ?_
      erw [e32 (cl_4 l0 n1) (cl_5 l0 n1) (cl_6 l0 n1) (cl_7 l0 n1) n13 n14 n15 l16 c7]
      refine good_t rfl ?_
      erw [e30 (ior .u64 (cl_4 l0 n1) n13) (iand .u32 (cl_5 l0 n1) n14) (iand .u32 (cl_6 l0 n1) n15) (mg (cl_7 l0 n1) l16) (ior .u64 (cl_4 l0 n1) n13) (iand .u32 (cl_5 l0 n1) n14) (iand .u32 (cl_6 l0 n1) n15) (mg (cl_7 l0 n1) l16) (mgl c7)]
      refine good_t rfl ?_
      refine good_f (show (!(sm (ior .u64 (cl_4 l0 n1) n13) (iand .u32 (cl_5 l0 n1) n14) (iand .u32 (cl_6 l0 n1) n15) (mg (cl_7 l0 n1) l16) (ior .u64 (cl_4 l0 n1) n13) (iand .u32 (cl_5 l0 n1) n14) (iand .u32 (cl_6 l0 n1) n15) (mg (cl_7 l0 n1) l16))) = false by rw [(show (sm (ior .u64 (cl_4 l0 n1) n13) (iand .u32 (cl_5 l0 n1) n14) (iand .u32 (cl_6 l0 n1) n15) (mg (cl_7 l0 n1) l16) (ior .u64 (cl_4 l0 n1) n13) (iand .u32 (cl_5 l0 n1) n14) (iand .u32 (cl_6 l0 n1) n15) (mg (cl_7 l0 n1) l16)) = true from sm_self (ior .u64 (cl_4 l0 n1) n13) (iand .u32 (cl_5 l0 n1) n14) (iand .u32 (cl_6 l0 n1) n15) (mg (cl_7 l0 n1) l16))]; rfl) ?_
      obtain ⟨pa15, a15⟩ := e16o (mg (cl_7 l0 n1) l16) (0 : Int) (0 : Int) (ior .u64 (cl_4 l0 n1) n13) (iand .u32 (cl_5 l0 n1) n14) (iand .u32 (cl_6 l0 n1) n15) (mgl c7)
      erw [a15]
      refine good_t rfl ?_
      rw [show (n18 == cl_3 l0 n1) = true from beq_iff_eq.2 (by omega)]
      rw [show (decide (n18 > (cl_3 l0 n1 : Int))) = false from decide_eq_false (by omega)]
      rw [show n18 = (cl_3 l0 n1) by omega]
      exact good_leaf (i110 w c7 k16 k16)
     ·
      replace q7 := qeF q7
      erw [e62 (cl_7 l0 n1) (up c7)]
      refine good_t rfl ?_
      erw [e30 (cl_4 l0 n1) (cl_5 l0 n1) (cl_6 l0 n1) (cl_7 l0 n1) (cl_4 l0 n1) (cl_5 l0 n1) (cl_6 l0 n1) (cl_7 l0 n1) (up c7)]
      refine good_t rfl ?_
      refine good_f (show (!(sm (cl_4 l0 n1) (cl_5 l0 n1) (cl_6 l0 n1) (cl_7 l0 n1) (cl_4 l0 n1) (cl_5 l0 n1) (cl_6 l0 n1) (cl_7 l0 n1))) = false by rw [(show (sm (cl_4 l0 n1) (cl_5 l0 n1) (cl_6 l0 n1) (cl_7 l0 n1) (cl_4 l0 n1) (cl_5 l0 n1) (cl_6 l0 n1) (cl_7 l0 n1)) = true from sm_self (cl_4 l0 n1) (cl_5 l0 n1) (cl_6 l0 n1) (cl_7 l0 n1))]; rfl) ?_
      obtain ⟨pa18, a18⟩ := e16o (cl_7 l0 n1) n2 (cl_3 l0 n1) (cl_4 l0 n1) (cl_5 l0 n1) (cl_6 l0 n1) (up c7)
      erw [a18]
      refine good_t rfl ?_
      obtain ⟨pa19, a19⟩ := e16o (cl_7 l0 n1) (cl_2 l0 n1) (cl_3 l0 n1) (cl_4 l0 n1) (cl_5 l0 n1) (cl_6 l0 n1) (up c7)
      erw [a19]
      refine good_t rfl ?_
      erw [e16n (0 : Int) (0 : Int) (0 : Int) (0 : Int) (0 : Int)]
      refine good_t rfl ?_
      rw [show (n18 == cl_3 l0 n1) = false from beq_eq_false_iff_ne.2 (by omega)]
      rw [show (decide (n18 > (cl_3 l0 n1 : Int))) = false from decide_eq_false (by omega)]
      exact good_leaf (i100 w c7 nil20 k16)
    ·
     replace q6 := of_decide_eq_false q6
     erw [e62 (cl_7 l0 n1) (up c7)]
     refine good_t rfl ?_
     erw [e30 (cl_4 l0 n1) (cl_5 l0 n1) (cl_6 l0 n1) (cl_7 l0 n1) (cl_4 l0 n1) (cl_5 l0 n1) (cl_6 l0 n1) (cl_7 l0 n1) (up c7)]
     refine good_t rfl ?_
     refine good_f (show (!(sm (cl_4 l0 n1) (cl_5 l0 n1) (cl_6 l0 n1) (cl_7 l0 n1) (cl_4 l0 n1) (cl_5 l0 n1) (cl_6 l0 n1) (cl_7 l0 n1))) = false by rw [(show (sm (cl_4 l0 n1) (cl_5 l0 n1) (cl_6 l0 n1) (cl_7 l0 n1) (cl_4 l0 n1) (cl_5 l0 n1) (cl_6 l0 n1) (cl_7 l0 n1)) = true from sm_self (cl_4 l0 n1) (cl_5 l0 n1) (cl_6 l0 n1) (cl_7 l0 n1))]; rfl) ?_
     obtain ⟨pa23, a23⟩ := e16o (cl_7 l0 n1) n2 (cl_3 l0 n1) (cl_4 l0 n1) (cl_5 l0 n1) (cl_6 l0 n1) (up c7)
     erw [a23]
     refine good_t rfl ?_
     obtain ⟨pa24, a24⟩ := e16o (cl_7 l0 n1) (cl_2 l0 n1) (cl_3 l0 n1) (cl_4 l0 n1) (cl_5 l0 n1) (cl_6 l0 n1) (up c7)
     erw [a24]
     refine good_t rfl ?_
     erw [e16n (0 : Int) (0 : Int) (0 : Int) (0 : Int) (0 : Int)]
     refine good_t rfl ?_
     rw [show (n18 == cl_3 l0 n1) = false from beq_eq_false_iff_ne.2 (by omega)]
     rw [show (decide (n18 > (cl_3 l0 n1 : Int))) = true from decide_eq_true (by omega)]
     exact good_leaf (i101 w c7 nil20 k16)
  ·
   refine good_node (fun q26 => ?_) (fun q26 => ?_)
   ·
    replace q26 := qnT q26
    obtain ⟨pa27, a27⟩ := e16o (cl_7 l0 n1) (cl_2 l0 n1) (cl_3 l0 n1) (cl_4 l0 n1) (cl_5 l0 n1) (cl_6 l0 n1) (up c7)
    erw [a27]
    refine good_t rfl ?_
    erw [e16n (0 : Int) (0 : Int) (0 : Int) (0 : Int) (0 : Int)]
    refine good_t rfl ?_
    exact good_leaf (i001 w k8 k12 k16)
   ·
    replace q26 := qnF q26
    refine good_node (fun q29 => ?_) (fun q29 => ?_)
    ·
     replace q29 := of_decide_eq_true q29
     obtain ⟨pa30, a30⟩ := e16o (cl_7 l0 n1) (cl_2 l0 n1) (cl_3 l0 n1) (cl_4 l0 n1) (cl_5 l0 n1) (cl_6 l0 n1) (up c7)
     erw [a30]
     refine good_t rfl ?_
     erw [e16n (0 : Int) (0 : Int) (0 : Int) (0 : Int) (0 : Int)]
     refine good_t rfl ?_
     exact good_leaf (i001 w k8 k12 k16)
    ·
     replace q29 := of_decide_eq_false q29
     erw [e62 (cl_7 l0 n1) (up c7)]
     refine good_t rfl ?_
     refine good_node (fun q33 => ?_) (fun q33 => ?_)
     ·
      replace q33 := of_decide_eq_true q33
      refine good_node (fun q34 => ?_) (fun q34 => ?_)
      ·
       replace q34 := of_decide_eq_true q34
       obtain ⟨pa35, a35⟩ := e16o (cl_7 l0 n1) (cl_2 l0 n1) (cl_3 l0 n1) (cl_4 l0 n1) (cl_5 l0 n1) (cl_6 l0 n1) (up c7)
       erw [a35]
       refine good_t rfl ?_
       erw [e16n (0 : Int) (0 : Int) (0 : Int) (0 : Int) (0 : Int)]
       refine good_t rfl ?_
       exact good_leaf (i001 w k8 k12 c7)
      ·
       replace q34 := of_decide_eq_false q34
       refine good_node (fun q37 => ?_) (fun q37 => ?_)
       ·
        replace q37 := qeT q37
        erw [e29 n13 n14 n15 l16 (cl_4 l0 n1) (cl_5 l0 n1) (cl_6 l0 n1) (cl_7 l0 n1) (up k16)]
        refine good_t rfl ?_
        refine good_node (fun q39 => ?_) (fun q39 => ?_)
        ·
         replace q39 : (sm n13 n14 n15 l16 (cl_4 l0 n1) (cl_5 l0 n1) (cl_6 l0 n1) (cl_7 l0 n1)) = true := q39
         erw [e30 (cl_4 l0 n1) (cl_5 l0 n1) (cl_6 l0 n1) (cl_7 l0 n1) n13 n14 n15 l16 (up c7)]
         refine good_t rfl ?_
         refine good_t (show (sm (cl_4 l0 n1) (cl_5 l0 n1) (cl_6 l0 n1) (cl_7 l0 n1) n13 n14 n15 l16) = true from (sm_symm (cl_4 l0 n1) (cl_5 l0 n1) (cl_6 l0 n1) (cl_7 l0 n1) n13 n14 n15 l16).trans q39) ?_
         obtain ⟨pa41, a41⟩ := e16o (cl_7 l0 n1) (cl_2 l0 n1) (cl_3 l0 n1) (cl_4 l0 n1) (cl_5 l0 n1) (cl_6 l0 n1) (up c7)
         erw [a41]
         refine good_t rfl ?_
         erw [e16n (0 : Int) (0 : Int) (0 : Int) (0 : Int) (0 : Int)]
         refine good_t rfl ?_
         exact good_leaf (i001 w k8 k12 k16)
        ·
         replace q39 : (sm n13 n14 n15 l16 (cl_4 l0 n1) (cl_5 l0 n1) (cl_6 l0 n1) (cl_7 l0 n1)) = false := q39
         erw [e30 (cl_4 l0 n1) (cl_5 l0 n1) (cl_6 l0 n1) (cl_7 l0 n1) n13 n14 n15 l16 (up c7)]
         refine good_t rfl ?_
         refine good_f (show (sm (cl_4 l0 n1) (cl_5 l0 n1) (cl_6 l0 n1) (cl_7 l0 n1) n13 n14 n15 l16) = false from (sm_symm (cl_4 l0 n1) (cl_5 l0 n1) (cl_6 l0 n1) (cl_7 l0 n1) n13 n14 n15 l16).trans q39) ?_
         obtain ⟨pa44, a44⟩ := e16o (cl_7 l0 n1) (cl_2 l0 n1) (cl_3 l0 n1) (cl_4 l0 n1) (cl_5 l0 n1) (cl_6 l0 n1) (up c7)
         erw [a44]
         refine good_t rfl ?_
         erw [e16n (0 : Int) (0 : Int) (0 : Int) (0 : Int) (0 : Int)]
         refine good_t rfl ?_
         exact good_leaf (i001 w k8 k12 k16)
       ·
        replace q37 := qeF q37
        obtain ⟨pa46, a46⟩ := e16o (cl_7 l0 n1) (cl_2 l0 n1) (cl_3 l0 n1) (cl_4 l0 n1) (cl_5 l0 n1) (cl_6 l0 n1) (up c7)
        erw [a46]
        refine good_t rfl ?_
        erw [e16n (0 : Int) (0 : Int) (0 : Int) (0 : Int) (0 : Int)]
        refine good_t rfl ?_
        exact good_leaf (i001 w k8 k12 k16)
     ·
      replace q33 := of_decide_eq_false q33
      obtain ⟨pa48, a48⟩ := e16o (cl_7 l0 n1) (cl_2 l0 n1) (cl_3 l0 n1) (cl_4 l0 n1) (cl_5 l0 n1) (cl_6 l0 n1) (up c7)
      erw [a48]
      refine good_t rfl ?_
      erw [e16n (0 : Int) (0 : Int) (0 : Int) (0 : Int) (0 : Int)]
      refine good_t rfl ?_
      rw [show (cl_3 l0 n1) = n3 by omega]
      exact good_leaf (i011 w k8 c7 k16)
theorem step010 {l0 : LR} {n1 : Int} (p0 : 0 ≤ n1) (p1 : n1 < (l0.length : Int)) (hl : l0.length ≤ 60) (c7 : (cl_7 l0 n1).length ≤ 20) (n2 : Int) (n3 : Int) (b4 : Bool) (n5 : Int) (n6 : Int) (n7 : Int) (l8 : LC) (n9 : Int) (n10 : Int) (n11 : Int) (l12 : LC) (n13 : Int) (n14 : Int) (n15 : Int) (l16 : LC) (n17 : Int) (n18 : Int) (n19 : Int) (k8 : l8.length ≤ 20) (k12 : l12.length ≤ 20) (k16 : l16.length ≤ 20) : Good (StepP l0 n1) (st_L3_10 (e010 l0 n1 n2 n3 b4 n5 n6 n7 l8 n9 n10 n11 l12 n13 n14 n15 l16 n17 n18 n19)).sel := by
  have w : IntKind.wrap .i64 (n1 + 1) = n1 + 1 := w64 (by omega) (by omega)
  refine Imp.good (fn_L3_10_t010_im l0 n1 n2 n3 b4 n5 n6 n7 l8 n9 n10 n11 l12 n13 n14 n15 l16 n17 n18 n19 p0 p1) ?_
  unfold fn_L3_10_t010
  refine good_t (decide_eq_true (show List.length (cl_7 l0 n1) * 16 ≤ 140737488355328 by omega)) ?_
  obtain ⟨pa0, a0⟩ := e12 (cl_1 l0 n1)
  erw [a0]
  refine good_t rfl ?_
  refine good_node (fun q1 => ?_) (fun q1 => ?_)
  ·
   refine good_node (fun q2 => ?_) (fun q2 => ?_)
   ·
    replace q2 := of_decide_eq_true q2
    erw [e16n (0 : Int) (0 : Int) (0 : Int) (0 : Int) (0 : Int)]
    refine good_t rfl ?_
    obtain ⟨pa4, a4⟩ := e16o (cl_7 l0 n1) (cl_2 l0 n1) (cl_3 l0 n1) (cl_4 l0 n1) (cl_5 l0 n1) (cl_6 l0 n1) (up c7)
    erw [a4]
    refine good_t rfl ?_
    exact good_leaf (i010 w k8 k12 k16)
   ·
    replace q2 := of_decide_eq_false q2
    erw [e62 (cl_7 l0 n1) (up c7)]
    refine good_t rfl ?_
    erw [e62 (cl_7 l0 n1) (up c7)]
    refine good_t rfl ?_
    erw [e30 (cl_4 l0 n1) (cl_5 l0 n1) (cl_6 l0 n1) (cl_7 l0 n1) (cl_4 l0 n1) (cl_5 l0 n1) (cl_6 l0 n1) (cl_7 l0 n1) (up c7)]
    refine good_t rfl ?_
    refine good_f (show (!(sm (cl_4 l0 n1) (cl_5 l0 n1) (cl_6 l0 n1) (cl_7 l0 n1) (cl_4 l0 n1) (cl_5 l0 n1) (cl_6 l0 n1) (cl_7 l0 n1))) = false by rw [(show (sm (cl_4 l0 n1) (cl_5 l0 n1) (cl_6 l0 n1) (cl_7 l0 n1) (cl_4 l0 n1) (cl_5 l0 n1) (cl_6 l0 n1) (cl_7 l0 n1)) = true from sm_self (cl_4 l0 n1) (cl_5 l0 n1) (cl_6 l0 n1) (cl_7 l0 n1))]; rfl) ?_
    obtain ⟨pa8, a8⟩ := e16o (cl_7 l0 n1) n2 (cl_3 l0 n1) (cl_4 l0 n1) (cl_5 l0 n1) (cl_6 l0 n1) (up c7)
    erw [a8]
    refine good_t rfl ?_
    obtain ⟨pa9, a9⟩ := e16o (cl_7 l0 n1) (cl_2 l0 n1) (cl_3 l0 n1) (cl_4 l0 n1) (cl_5 l0 n1) (cl_6 l0 n1) (up c7)
    erw [a9]
    refine good_t rfl ?_
    erw [e16n (0 : Int) (0 : Int) (0 : Int) (0 : Int) (0 : Int)]
    refine good_t rfl ?_
    exact good_leaf (i100 w c7 nil20 k16)
  ·
   refine good_node (fun q11 => ?_) (fun q11 => ?_)
   ·
    replace q11 := qnT q11
    obtain ⟨pa12, a12⟩ := e16o (cl_7 l0 n1) (cl_2 l0 n1) (cl_3 l0 n1) (cl_4 l0 n1) (cl_5 l0 n1) (cl_6 l0 n1) (up c7)
    erw [a12]
    refine good_t rfl ?_
    erw [e16n (0 : Int) (0 : Int) (0 : Int) (0 : Int) (0 : Int)]
    refine good_t rfl ?_
    exact good_leaf (i010 w k8 k12 k16)
   ·
    replace q11 := qnF q11
    refine good_node (fun q14 => ?_) (fun q14 => ?_)
    ·
     replace q14 := of_decide_eq_true q14
     obtain ⟨pa15, a15⟩ := e16o (cl_7 l0 n1) (cl_2 l0 n1) (cl_3 l0 n1) (cl_4 l0 n1) (cl_5 l0 n1) (cl_6 l0 n1) (up c7)
     erw [a15]
     refine good_t rfl ?_
     erw [e16n (0 : Int) (0 : Int) (0 : Int) (0 : Int) (0 : Int)]
     refine good_t rfl ?_
     exact good_leaf (i010 w k8 k12 k16)
    ·
     replace q14 := of_decide_eq_false q14
     erw [e62 (cl_7 l0 n1) (up c7)]
     refine good_t rfl ?_
     refine good_node (fun q18 => ?_) (fun q18 => ?_)
     ·
      replace q18 := of_decide_eq_true q18
      obtain ⟨pa19, a19⟩ := e16o (cl_7 l0 n1) (cl_2 l0 n1) (cl_3 l0 n1) (cl_4 l0 n1) (cl_5 l0 n1) (cl_6 l0 n1) (up c7)
      erw [a19]
      refine good_t rfl ?_
      erw [e16n (0 : Int) (0 : Int) (0 : Int) (0 : Int) (0 : Int)]
      refine good_t rfl ?_
      exact good_leaf (i011 w k8 k12 c7)
     ·
      replace q18 := of_decide_eq_false q18
      erw [e29 n9 n10 n11 l12 (cl_4 l0 n1) (cl_5 l0 n1) (cl_6 l0 n1) (cl_7 l0 n1) (up k12)]
      refine good_t rfl ?_
      refine good_node (fun q22 => ?_) (fun q22 => ?_)
      ·
       replace q22 : (sm n9 n10 n11 l12 (cl_4 l0 n1) (cl_5 l0 n1) (cl_6 l0 n1) (cl_7 l0 n1)) = true := q22
       erw [e30 (cl_4 l0 n1) (cl_5 l0 n1) (cl_6 l0 n1) (cl_7 l0 n1) n9 n10 n11 l12 (up c7)]
       refine good_t rfl ?_
       refine good_t (show (sm (cl_4 l0 n1) (cl_5 l0 n1) (cl_6 l0 n1) (cl_7 l0 n1) n9 n10 n11 l12) = true from (sm_symm (cl_4 l0 n1) (cl_5 l0 n1) (cl_6 l0 n1) (cl_7 l0 n1) n9 n10 n11 l12).trans q22) ?_
       obtain ⟨pa24, a24⟩ := e16o (cl_7 l0 n1) (cl_2 l0 n1) (cl_3 l0 n1) (cl_4 l0 n1) (cl_5 l0 n1) (cl_6 l0 n1) (up c7)
       erw [a24]
       refine good_t rfl ?_
       erw [e16n (0 : Int) (0 : Int) (0 : Int) (0 : Int) (0 : Int)]
       refine good_t rfl ?_
       exact good_leaf (i010 w k8 k12 k16)
      ·
       replace q22 : (sm n9 n10 n11 l12 (cl_4 l0 n1) (cl_5 l0 n1) (cl_6 l0 n1) (cl_7 l0 n1)) = false := q22
       erw [e30 (cl_4 l0 n1) (cl_5 l0 n1) (cl_6 l0 n1) (cl_7 l0 n1) n9 n10 n11 l12 (up c7)]
       refine good_t rfl ?_
       refine good_f (show (sm (cl_4 l0 n1) (cl_5 l0 n1) (cl_6 l0 n1) (cl_7 l0 n1) n9 n10 n11 l12) = false from (sm_symm (cl_4 l0 n1) (cl_5 l0 n1) (cl_6 l0 n1) (cl_7 l0 n1) n9 n10 n11 l12).trans q22) ?_
       obtain ⟨pa27, a27⟩ := e16o (cl_7 l0 n1) (cl_2 l0 n1) (cl_3 l0 n1) (cl_4 l0 n1) (cl_5 l0 n1) (cl_6 l0 n1) (up c7)
       erw [a27]
       refine good_t rfl ?_
       erw [e16n (0 : Int) (0 : Int) (0 : Int) (0 : Int) (0 : Int)]
       refine good_t rfl ?_
       exact good_leaf (i010 w k8 k12 k16)
theorem step011 {l0 : LR} {n1 : Int} (p0 : 0 ≤ n1) (p1 : n1 < (l0.length : Int)) (hl : l0.length ≤ 60) (c7 : (cl_7 l0 n1).length ≤ 20) (n2 : Int) (n3 : Int) (b4 : Bool) (n5 : Int) (n6 : Int) (n7 : Int) (l8 : LC) (n9 : Int) (n10 : Int) (n11 : Int) (l12 : LC) (n13 : Int) (n14 : Int) (n15 : Int) (l16 : LC) (n17 : Int) (n18 : Int) (n19 : Int) (k8 : l8.length ≤ 20) (k12 : l12.length ≤ 20) (k16 : l16.length ≤ 20) : Good (StepP l0 n1) (st_L3_10 (e011 l0 n1 n2 n3 b4 n5 n6 n7 l8 n9 n10 n11 l12 n13 n14 n15 l16 n17 n18 n19)).sel := by
  have w : IntKind.wrap .i64 (n1 + 1) = n1 + 1 := w64 (by omega) (by omega)
  refine Imp.good (fn_L3_10_t011_im l0 n1 n2 n3 b4 n5 n6 n7 l8 n9 n10 n11 l12 n13 n14 n15 l16 n17 n18 n19 p0 p1) ?_
  unfold fn_L3_10_t011
  refine good_t (decide_eq_true (show List.length (cl_7 l0 n1) * 16 ≤ 140737488355328 by omega)) ?_
  obtain ⟨pa0, a0⟩ := e12 (cl_1 l0 n1)
  erw [a0]
  refine good_t rfl ?_
  refine good_node (fun q1 => ?_) (fun q1 => ?_)
  ·
   refine good_node (fun q2 => ?_) (fun q2 => ?_)
   ·
    replace q2 := of_decide_eq_true q2
    erw [e16n (0 : Int) (0 : Int) (0 : Int) (0 : Int) (0 : Int)]
    refine good_t rfl ?_
    obtain ⟨pa4, a4⟩ := e16o (cl_7 l0 n1) (cl_2 l0 n1) (cl_3 l0 n1) (cl_4 l0 n1) (cl_5 l0 n1) (cl_6 l0 n1) (up c7)
    erw [a4]
    refine good_t rfl ?_
    exact good_leaf (i011 w k8 k12 k16)
   ·
    replace q2 := of_decide_eq_false q2
    erw [e62 (cl_7 l0 n1) (up c7)]
    refine good_t rfl ?_
    refine good_node (fun q6 => ?_) (fun q6 => ?_)
    ·
     replace q6 := of_decide_eq_true q6
     refine good_node (fun q7 => ?_) (fun q7 => ?_)
     ·
      replace q7 := qeT q7
      erw [e62 (cl_7 l0 n1) (up c7)]
      refine good_t rfl ?_
      erw [e30 (cl_4 l0 n1) (cl_5 l0 n1) (cl_6 l0 n1) (cl_7 l0 n1) (cl_4 l0 n1) (cl_5 l0 n1) (cl_6 l0 n1) (cl_7 l0 n1) (up c7)]
      refine good_t rfl ?_
      refine good_f (show (!(sm (cl_4 l0 n1) (cl_5 l0 n1) (cl_6 l0 n1) (cl_7 l0 n1) (cl_4 l0 n1) (cl_5 l0 n1) (cl_6 l0 n1) (cl_7 l0 n1))) = false by rw [(show (sm (cl_4 l0 n1) (cl_5 l0 n1) (cl_6 l0 n1) (cl_7 l0 n1) (cl_4 l0 n1) (cl_5 l0 n1) (cl_6 l0 n1) (cl_7 l0 n1)) = true from sm_self (cl_4 l0 n1) (cl_5 l0 n1) (cl_6 l0 n1) (cl_7 l0 n1))]; rfl) ?_
      obtain ⟨pa10, a10⟩ := e16o (cl_7 l0 n1) n2 (cl_3 l0 n1) (cl_4 l0 n1) (cl_5 l0 n1) (cl_6 l0 n1) (up c7)
      erw [a10]
      refine good_t rfl ?_
      obtain ⟨pa11, a11⟩ := e16o (cl_7 l0 n1) (cl_2 l0 n1) (cl_3 l0 n1) (cl_4 l0 n1) (cl_5 l0 n1) (cl_6 l0 n1) (up c7)
      erw [a11]
      refine good_t rfl ?_
      erw [e31 (cl_4 l0 n1) (cl_5 l0 n1) (cl_6 l0 n1) (cl_7 l0 n1) n13 n14 n15 l16 c7]
      refine good_t rfl ?_
      erw [e32 (cl_4 l0 n1) (cl_5 l0 n1) (cl_6 l0 n1) (cl_7 l0 n1) n13 n14 n15 l16 c7]
      refine good_t rfl ?_
      erw [e30 (ior .u64 (cl_4 l0 n1) n13) (iand .u32 (cl_5 l0 n1) n14) (iand .u32 (cl_6 l0 n1) n15) (mg (cl_7 l0 n1) l16) (ior .u64 (cl_4 l0 n1) n13) (iand .u32 (cl_5 l0 n1) n14) (iand .u32 (cl_6 l0 n1) n15) (mg (cl_7 l0 n1) l16) (mgl c7)]
      refine good_t rfl ?_
      refine good_f (show (!(sm (ior .u64 (cl_4 l0 n1) n13) (iand .u32 (cl_5 l0 n1) n14) (iand .u32 (cl_6 l0 n1) n15) (mg (cl_7 l0 n1) l16) (ior .u64 (cl_4 l0 n1) n13) (iand .u32 (cl_5 l0 n1) n14) (iand .u32 (cl_6 l0 n1) n15) (mg (cl_7 l0 n1) l16))) = false by rw [(show (sm (ior .u64 (cl_4 l0 n1) n13) (iand .u32 (cl_5 l0 n1) n14) (iand .u32 (cl_6 l0 n1) n15) (mg (cl_7 l0 n1) l16) (ior .u64 (cl_4 l0 n1) n13) (iand .u32 (cl_5 l0 n1) n14) (iand .u32 (cl_6 l0 n1) n15) (mg (cl_7 l0 n1) l16)) = true from sm_self (ior .u64 (cl_4 l0 n1) n13) (iand .u32 (cl_5 l0 n1) n14) (iand .u32 (cl_6 l0 n1) n15) (mg (cl_7 l0 n1) l16))]; rfl) ?_
      obtain ⟨pa15, a15⟩ := e16o (mg (cl_7 l0 n1) l16) (0 : Int) (0 : Int) (ior .u64 (cl_4 l0 n1) n13) (iand .u32 (cl_5 l0 n1) n14) (iand .u32 (cl_6 l0 n1) n15) (mgl c7)
      erw [a15]
      refine good_t rfl ?_
      rw [show (n18 == cl_3 l0 n1) = true from beq_iff_eq.2 (by omega)]
      rw [show (decide (n18 > (cl_3 l0 n1 : Int))) = false from decide_eq_false (by omega)]
      rw [show n18 = (cl_3 l0 n1) by omega]
      exact good_leaf (i110 w c7 k16 k16)
     ·
      replace q7 := qeF q7
      erw [e62 (cl_7 l0 n1) (up c7)]
      refine good_t rfl ?_
      erw [e30 (cl_4 l0 n1) (cl_5 l0 n1) (cl_6 l0 n1) (cl_7 l0 n1) (cl_4 l0 n1) (cl_5 l0 n1) (cl_6 l0 n1) (cl_7 l0 n1) (up c7)]
      refine good_t rfl ?_
      refine good_f (show (!(sm (cl_4 l0 n1) (cl_5 l0 n1) (cl_6 l0 n1) (cl_7 l0 n1) (cl_4 l0 n1) (cl_5 l0 n1) (cl_6 l0 n1) (cl_7 l0 n1))) = false by rw [(show (sm (cl_4 l0 n1) (cl_5 l0 n1) (cl_6 l0 n1) (cl_7 l0 n1) (cl_4 l0 n1) (cl_5 l0 n1) (cl_6 l0 n1) (cl_7 l0 n1)) = true from sm_self (cl_4 l0 n1) (cl_5 l0 n1) (cl_6 l0 n1) (cl_7 l0 n1))]; rfl) ?_
      obtain ⟨pa18, a18⟩ := e16o (cl_7 l0 n1) n2 (cl_3 l0 n1) (cl_4 l0 n1) (cl_5 l0 n1) (cl_6 l0 n1) (up c7)
      erw [a18]
      refine good_t rfl ?_
      obtain ⟨pa19, a19⟩ := e16o (cl_7 l0 n1) (cl_2 l0 n1) (cl_3 l0 n1) (cl_4 l0 n1) (cl_5 l0 n1) (cl_6 l0 n1) (up c7)
      erw [a19]
      refine good_t rfl ?_
      erw [e16n (0 : Int) (0 : Int) (0 : Int) (0 : Int) (0 : Int)]
      refine good_t rfl ?_
      rw [show (n18 == cl_3 l0 n1) = false from beq_eq_false_iff_ne.2 (by omega)]
      rw [show (decide (n18 > (cl_3 l0 n1 : Int))) = false from decide_eq_false (by omega)]
      exact good_leaf (i100 w c7 nil20 k16)
    ·
     replace q6 := of_decide_eq_false q6
     erw [e62 (cl_7 l0 n1) (up c7)]
     refine good_t rfl ?_
     erw [e30 (cl_4 l0 n1) (cl_5 l0 n1) (cl_6 l0 n1) (cl_7 l0 n1) (cl_4 l0 n1) (cl_5 l0 n1) (cl_6 l0 n1) (cl_7 l0 n1) (up c7)]
     refine good_t rfl ?_
     refine good_f (show (!(sm (cl_4 l0 n1) (cl_5 l0 n1) (cl_6 l0 n1) (cl_7 l0 n1) (cl_4 l0 n1) (cl_5 l0 n1) (cl_6 l0 n1) (cl_7 l0 n1))) = false by rw [(show (sm (cl_4 l0 n1) (cl_5 l0 n1) (cl_6 l0 n1) (cl_7 l0 n1) (cl_4 l0 n1) (cl_5 l0 n1) (cl_6 l0 n1) (cl_7 l0 n1)) = true from sm_self (cl_4 l0 n1) (cl_5 l0 n1) (cl_6 l0 n1) (cl_7 l0 n1))]; rfl) ?_
     obtain ⟨pa23, a23⟩ := e16o (cl_7 l0 n1) n2 (cl_3 l0 n1) (cl_4 l0 n1) (cl_5 l0 n1) (cl_6 l0 n1) (up c7)
     erw [a23]
     refine good_t rfl ?_
     obtain ⟨pa24, a24⟩ := e16o (cl_7 l0 n1) (cl_2 l0 n1) (cl_3 l0 n1) (cl_4 l0 n1) (cl_5 l0 n1) (cl_6 l0 n1) (up c7)
     erw [a24]
     refine good_t rfl ?_
     erw [e16n (0 : Int) (0 : Int) (0 : Int) (0 : Int) (0 : Int)]
     refine good_t rfl ?_
     rw [show (n18 == cl_3 l0 n1) = false from beq_eq_false_iff_ne.2 (by omega)]
     rw [show (decide (n18 > (cl_3 l0 n1 : Int))) = true from decide_eq_true (by omega)]
     exact good_leaf (i101 w c7 nil20 k16)
  ·
   refine good_node (fun q26 => ?_) (fun q26 => ?_)
   ·
    replace q26 := qnT q26
    obtain ⟨pa27, a27⟩ := e16o (cl_7 l0 n1) (cl_2 l0 n1) (cl_3 l0 n1) (cl_4 l0 n1) (cl_5 l0 n1) (cl_6 l0 n1) (up c7)
    erw [a27]
    refine good_t rfl ?_
    erw [e16n (0 : Int) (0 : Int) (0 : Int) (0 : Int) (0 : Int)]
    refine good_t rfl ?_
    exact good_leaf (i011 w k8 k12 k16)
   ·
    replace q26 := qnF q26
    refine good_node (fun q29 => ?_) (fun q29 => ?_)
    ·
     replace q29 := of_decide_eq_true q29
     obtain ⟨pa30, a30⟩ := e16o (cl_7 l0 n1) (cl_2 l0 n1) (cl_3 l0 n1) (cl_4 l0 n1) (cl_5 l0 n1) (cl_6 l0 n1) (up c7)
     erw [a30]
     refine good_t rfl ?_
     erw [e16n (0 : Int) (0 : Int) (0 : Int) (0 : Int) (0 : Int)]
     refine good_t rfl ?_
     exact good_leaf (i011 w k8 k12 k16)
    ·
     replace q29 := of_decide_eq_false q29
     erw [e62 (cl_7 l0 n1) (up c7)]
     refine good_t rfl ?_
     refine good_node (fun q33 => ?_) (fun q33 => ?_)
     ·
      replace q33 := of_decide_eq_true q33
      refine good_node (fun q34 => ?_) (fun q34 => ?_)
      ·
       replace q34 := of_decide_eq_true q34
       obtain ⟨pa35, a35⟩ := e16o (cl_7 l0 n1) (cl_2 l0 n1) (cl_3 l0 n1) (cl_4 l0 n1) (cl_5 l0 n1) (cl_6 l0 n1) (up c7)
       erw [a35]
       refine good_t rfl ?_
       erw [e16n (0 : Int) (0 : Int) (0 : Int) (0 : Int) (0 : Int)]
       refine good_t rfl ?_
       exact good_leaf (i011 w k8 k12 c7)
      ·
       replace q34 := of_decide_eq_false q34
       refine good_node (fun q37 => ?_) (fun q37 => ?_)
       ·
        replace q37 := qeT q37
        erw [e29 n13 n14 n15 l16 (cl_4 l0 n1) (cl_5 l0 n1) (cl_6 l0 n1) (cl_7 l0 n1) (up k16)]
        refine good_t rfl ?_
        refine good_node (fun q39 => ?_) (fun q39 => ?_)
        ·
         replace q39 : (sm n13 n14 n15 l16 (cl_4 l0 n1) (cl_5 l0 n1) (cl_6 l0 n1) (cl_7 l0 n1)) = true := q39
         erw [e30 (cl_4 l0 n1) (cl_5 l0 n1) (cl_6 l0 n1) (cl_7 l0 n1) n13 n14 n15 l16 (up c7)]
         refine good_t rfl ?_
         refine good_t (show (sm (cl_4 l0 n1) (cl_5 l0 n1) (cl_6 l0 n1) (cl_7 l0 n1) n13 n14 n15 l16) = true from (sm_symm (cl_4 l0 n1) (cl_5 l0 n1) (cl_6 l0 n1) (cl_7 l0 n1) n13 n14 n15 l16).trans q39) ?_
         obtain ⟨pa41, a41⟩ := e16o (cl_7 l0 n1) (cl_2 l0 n1) (cl_3 l0 n1) (cl_4 l0 n1) (cl_5 l0 n1) (cl_6 l0 n1) (up c7)
         erw [a41]
         refine good_t rfl ?_
         erw [e16n (0 : Int) (0 : Int) (0 : Int) (0 : Int) (0 : Int)]
         refine good_t rfl ?_
         exact good_leaf (i011 w k8 k12 k16)
        ·
         replace q39 : (sm n13 n14 n15 l16 (cl_4 l0 n1) (cl_5 l0 n1) (cl_6 l0 n1) (cl_7 l0 n1)) = false := q39
         erw [e30 (cl_4 l0 n1) (cl_5 l0 n1) (cl_6 l0 n1) (cl_7 l0 n1) n13 n14 n15 l16 (up c7)]
         refine good_t rfl ?_
         refine good_f (show (sm (cl_4 l0 n1) (cl_5 l0 n1) (cl_6 l0 n1) (cl_7 l0 n1) n13 n14 n15 l16) = false from (sm_symm (cl_4 l0 n1) (cl_5 l0 n1) (cl_6 l0 n1) (cl_7 l0 n1) n13 n14 n15 l16).trans q39) ?_
         obtain ⟨pa44, a44⟩ := e16o (cl_7 l0 n1) (cl_2 l0 n1) (cl_3 l0 n1) (cl_4 l0 n1) (cl_5 l0 n1) (cl_6 l0 n1) (up c7)
         erw [a44]
         refine good_t rfl ?_
         erw [e16n (0 : Int) (0 : Int) (0 : Int) (0 : Int) (0 : Int)]
         refine good_t rfl ?_
         exact good_leaf (i011 w k8 k12 k16)
       ·
        replace q37 := qeF q37
        obtain ⟨pa46, a46⟩ := e16o (cl_7 l0 n1) (cl_2 l0 n1) (cl_3 l0 n1) (cl_4 l0 n1) (cl_5 l0 n1) (cl_6 l0 n1) (up c7)
        erw [a46]
        refine good_t rfl ?_
        erw [e16n (0 : Int) (0 : Int) (0 : Int) (0 : Int) (0 : Int)]
        refine good_t rfl ?_
        exact good_leaf (i011 w k8 k12 k16)
     ·
      replace q33 := of_decide_eq_false q33
      erw [e29 n9 n10 n11 l12 (cl_4 l0 n1) (cl_5 l0 n1) (cl_6 l0 n1) (cl_7 l0 n1) (up k12)]
      refine good_t rfl ?_
      refine good_node (fun q49 => ?_) (fun q49 => ?_)
      ·
       replace q49 : (sm n9 n10 n11 l12 (cl_4 l0 n1) (cl_5 l0 n1) (cl_6 l0 n1) (cl_7 l0 n1)) = true := q49
       erw [e30 (cl_4 l0 n1) (cl_5 l0 n1) (cl_6 l0 n1) (cl_7 l0 n1) n9 n10 n11 l12 (up c7)]
       refine good_t rfl ?_
       refine good_t (show (sm (cl_4 l0 n1) (cl_5 l0 n1) (cl_6 l0 n1) (cl_7 l0 n1) n9 n10 n11 l12) = true from (sm_symm (cl_4 l0 n1) (cl_5 l0 n1) (cl_6 l0 n1) (cl_7 l0 n1) n9 n10 n11 l12).trans q49) ?_
       obtain ⟨pa51, a51⟩ := e16o (cl_7 l0 n1) (cl_2 l0 n1) (cl_3 l0 n1) (cl_4 l0 n1) (cl_5 l0 n1) (cl_6 l0 n1) (up c7)
       erw [a51]
       refine good_t rfl ?_
       erw [e16n (0 : Int) (0 : Int) (0 : Int) (0 : Int) (0 : Int)]
       refine good_t rfl ?_
       exact good_leaf (i011 w k8 k12 k16)
      ·
       replace q49 : (sm n9 n10 n11 l12 (cl_4 l0 n1) (cl_5 l0 n1) (cl_6 l0 n1) (cl_7 l0 n1)) = false := q49
       erw [e30 (cl_4 l0 n1) (cl_5 l0 n1) (cl_6 l0 n1) (cl_7 l0 n1) n9 n10 n11 l12 (up c7)]
       refine good_t rfl ?_
       refine good_f (show (sm (cl_4 l0 n1) (cl_5 l0 n1) (cl_6 l0 n1) (cl_7 l0 n1) n9 n10 n11 l12) = false from (sm_symm (cl_4 l0 n1) (cl_5 l0 n1) (cl_6 l0 n1) (cl_7 l0 n1) n9 n10 n11 l12).trans q49) ?_
       obtain ⟨pa54, a54⟩ := e16o (cl_7 l0 n1) (cl_2 l0 n1) (cl_3 l0 n1) (cl_4 l0 n1) (cl_5 l0 n1) (cl_6 l0 n1) (up c7)
       erw [a54]
       refine good_t rfl ?_
       erw [e16n (0 : Int) (0 : Int) (0 : Int) (0 : Int) (0 : Int)]
       refine good_t rfl ?_
       exact good_leaf (i011 w k8 k12 k16)
theorem step100 {l0 : LR} {n1 : Int} (p0 : 0 ≤ n1) (p1 : n1 < (l0.length : Int)) (hl : l0.length ≤ 60) (c7 : (cl_7 l0 n1).length ≤ 20) (n2 : Int) (n3 : Int) (b4 : Bool) (n5 : Int) (n6 : Int) (n7 : Int) (l8 : LC) (n9 : Int) (n10 : Int) (n11 : Int) (l12 : LC) (n13 : Int) (n14 : Int) (n15 : Int) (l16 : LC) (n17 : Int) (n18 : Int) (n19 : Int) (n20 : Int) (k8 : l8.length ≤ 20) (k12 : l12.length ≤ 20) (k16 : l16.length ≤ 20) : Good (StepP l0 n1) (st_L3_10 (e100 l0 n1 n2 n3 b4 n5 n6 n7 l8 n9 n10 n11 l12 n13 n14 n15 l16 n17 n18 n19 n20)).sel := by
  have w : IntKind.wrap .i64 (n1 + 1) = n1 + 1 := w64 (by omega) (by omega)
  refine Imp.good (fn_L3_10_t100_im l0 n1 n2 n3 b4 n5 n6 n7 l8 n9 n10 n11 l12 n13 n14 n15 l16 n17 n18 n19 n20 p0 p1) ?_
  unfold fn_L3_10_t100
  refine good_t (decide_eq_true (show List.length (cl_7 l0 n1) * 16 ≤ 140737488355328 by omega)) ?_
  obtain ⟨pa0, a0⟩ := e12 (cl_1 l0 n1)
  erw [a0]
  refine good_t rfl ?_
  refine good_node (fun q1 => ?_) (fun q1 => ?_)
  ·
   refine good_node (fun q2 => ?_) (fun q2 => ?_)
   ·
    replace q2 := of_decide_eq_true q2
    erw [e16n (0 : Int) (0 : Int) (0 : Int) (0 : Int) (0 : Int)]
    refine good_t rfl ?_
    obtain ⟨pa4, a4⟩ := e16o (cl_7 l0 n1) (cl_2 l0 n1) (cl_3 l0 n1) (cl_4 l0 n1) (cl_5 l0 n1) (cl_6 l0 n1) (up c7)
    erw [a4]
    refine good_t rfl ?_
    exact good_leaf (i100 w k8 k12 k16)
   ·
    replace q2 := of_decide_eq_false q2
    erw [e62 (cl_7 l0 n1) (up c7)]
    refine good_t rfl ?_
    erw [e62 (cl_7 l0 n1) (up c7)]
    refine good_t rfl ?_
    erw [e30 (cl_4 l0 n1) (cl_5 l0 n1) (cl_6 l0 n1) (cl_7 l0 n1) (cl_4 l0 n1) (cl_5 l0 n1) (cl_6 l0 n1) (cl_7 l0 n1) (up c7)]
    refine good_t rfl ?_
    refine good_f (show (!(sm (cl_4 l0 n1) (cl_5 l0 n1) (cl_6 l0 n1) (cl_7 l0 n1) (cl_4 l0 n1) (cl_5 l0 n1) (cl_6 l0 n1) (cl_7 l0 n1))) = false by rw [(show (sm (cl_4 l0 n1) (cl_5 l0 n1) (cl_6 l0 n1) (cl_7 l0 n1) (cl_4 l0 n1) (cl_5 l0 n1) (cl_6 l0 n1) (cl_7 l0 n1)) = true from sm_self (cl_4 l0 n1) (cl_5 l0 n1) (cl_6 l0 n1) (cl_7 l0 n1))]; rfl) ?_
    obtain ⟨pa8, a8⟩ := e16o (cl_7 l0 n1) n2 (cl_3 l0 n1) (cl_4 l0 n1) (cl_5 l0 n1) (cl_6 l0 n1) (up c7)
    erw [a8]
    refine good_t rfl ?_
    obtain ⟨pa9, a9⟩ := e16o (cl_7 l0 n1) (cl_2 l0 n1) (cl_3 l0 n1) (cl_4 l0 n1) (cl_5 l0 n1) (cl_6 l0 n1) (up c7)
    erw [a9]
    refine good_t rfl ?_
    erw [e16n (0 : Int) (0 : Int) (0 : Int) (0 : Int) (0 : Int)]
    refine good_t rfl ?_
    exact good_leaf (i100 w c7 nil20 k16)
  ·
   refine good_node (fun q11 => ?_) (fun q11 => ?_)
   ·
    replace q11 := qnT q11
    obtain ⟨pa12, a12⟩ := e16o (cl_7 l0 n1) (cl_2 l0 n1) (cl_3 l0 n1) (cl_4 l0 n1) (cl_5 l0 n1) (cl_6 l0 n1) (up c7)
    erw [a12]
    refine good_t rfl ?_
    erw [e16n (0 : Int) (0 : Int) (0 : Int) (0 : Int) (0 : Int)]
    refine good_t rfl ?_
    exact good_leaf (i100 w k8 k12 k16)
   ·
    replace q11 := qnF q11
    refine good_node (fun q14 => ?_) (fun q14 => ?_)
    ·
     replace q14 := of_decide_eq_true q14
     obtain ⟨pa15, a15⟩ := e16o (cl_7 l0 n1) (cl_2 l0 n1) (cl_3 l0 n1) (cl_4 l0 n1) (cl_5 l0 n1) (cl_6 l0 n1) (up c7)
     erw [a15]
     refine good_t rfl ?_
     erw [e16n (0 : Int) (0 : Int) (0 : Int) (0 : Int) (0 : Int)]
     refine good_t rfl ?_
     exact good_leaf (i100 w k8 k12 k16)
    ·
     replace q14 := of_decide_eq_false q14
     erw [e62 (cl_7 l0 n1) (up c7)]
     refine good_t rfl ?_
     refine good_node (fun q18 => ?_) (fun q18 => ?_)
     ·
      replace q18 := of_decide_eq_true q18
      obtain ⟨pa19, a19⟩ := e16o (cl_7 l0 n1) (cl_2 l0 n1) (cl_3 l0 n1) (cl_4 l0 n1) (cl_5 l0 n1) (cl_6 l0 n1) (up c7)
      erw [a19]
      refine good_t rfl ?_
      erw [e16n (0 : Int) (0 : Int) (0 : Int) (0 : Int) (0 : Int)]
      refine good_t rfl ?_
      exact good_leaf (i101 w k8 k12 c7)
     ·
      replace q18 := of_decide_eq_false q18
      obtain ⟨pa21, a21⟩ := e16o (cl_7 l0 n1) (cl_2 l0 n1) (cl_3 l0 n1) (cl_4 l0 n1) (cl_5 l0 n1) (cl_6 l0 n1) (up c7)
      erw [a21]
      refine good_t rfl ?_
      refine good_node (fun q22 => ?_) (fun q22 => ?_)
      ·
       erw [e16n (0 : Int) (0 : Int) (0 : Int) (0 : Int) (0 : Int)]
       refine good_t rfl ?_
       rw [show (cl_3 l0 n1) = n3 by omega]
       exact good_leaf (i110 w k8 c7 k16)
      ·
       erw [e31 n5 n6 n7 l8 (cl_4 l0 n1) (cl_5 l0 n1) (cl_6 l0 n1) (cl_7 l0 n1) k8]
       refine good_t rfl ?_
       erw [e32 n5 n6 n7 l8 (cl_4 l0 n1) (cl_5 l0 n1) (cl_6 l0 n1) (cl_7 l0 n1) k8]
       refine good_t rfl ?_
       erw [e30 (ior .u64 n5 (cl_4 l0 n1)) (iand .u32 n6 (cl_5 l0 n1)) (iand .u32 n7 (cl_6 l0 n1)) (mg l8 (cl_7 l0 n1)) (ior .u64 n5 (cl_4 l0 n1)) (iand .u32 n6 (cl_5 l0 n1)) (iand .u32 n7 (cl_6 l0 n1)) (mg l8 (cl_7 l0 n1)) (mgl k8)]
       refine good_t rfl ?_
       refine good_f (show (!(sm (ior .u64 n5 (cl_4 l0 n1)) (iand .u32 n6 (cl_5 l0 n1)) (iand .u32 n7 (cl_6 l0 n1)) (mg l8 (cl_7 l0 n1)) (ior .u64 n5 (cl_4 l0 n1)) (iand .u32 n6 (cl_5 l0 n1)) (iand .u32 n7 (cl_6 l0 n1)) (mg l8 (cl_7 l0 n1)))) = false by rw [(show (sm (ior .u64 n5 (cl_4 l0 n1)) (iand .u32 n6 (cl_5 l0 n1)) (iand .u32 n7 (cl_6 l0 n1)) (mg l8 (cl_7 l0 n1)) (ior .u64 n5 (cl_4 l0 n1)) (iand .u32 n6 (cl_5 l0 n1)) (iand .u32 n7 (cl_6 l0 n1)) (mg l8 (cl_7 l0 n1))) = true from sm_self (ior .u64 n5 (cl_4 l0 n1)) (iand .u32 n6 (cl_5 l0 n1)) (iand .u32 n7 (cl_6 l0 n1)) (mg l8 (cl_7 l0 n1)))]; rfl) ?_
       obtain ⟨pa27, a27⟩ := e16o (mg l8 (cl_7 l0 n1)) (0 : Int) (0 : Int) (ior .u64 n5 (cl_4 l0 n1)) (iand .u32 n6 (cl_5 l0 n1)) (iand .u32 n7 (cl_6 l0 n1)) (mgl k8)
       erw [a27]
       refine good_t rfl ?_
       rw [show (cl_3 l0 n1) = n3 by omega]
       exact good_leaf (i110 w k8 c7 k16)
theorem step101 {l0 : LR} {n1 : Int} (p0 : 0 ≤ n1) (p1 : n1 < (l0.length : Int)) (hl : l0.length ≤ 60) (c7 : (cl_7 l0 n1).length ≤ 20) (n2 : Int) (n3 : Int) (b4 : Bool) (n5 : Int) (n6 : Int) (n7 : Int) (l8 : LC) (n9 : Int) (n10 : Int) (n11 : Int) (l12 : LC) (n13 : Int) (n14 : Int) (n15 : Int) (l16 : LC) (n17 : Int) (n18 : Int) (n19 : Int) (n20 : Int) (k8 : l8.length ≤ 20) (k12 : l12.length ≤ 20) (k16 : l16.length ≤ 20) : Good (StepP l0 n1) (st_L3_10 (e101 l0 n1 n2 n3 b4 n5 n6 n7 l8 n9 n10 n11 l12 n13 n14 n15 l16 n17 n18 n19 n20)).sel := by
  have w : IntKind.wrap .i64 (n1 + 1) = n1 + 1 := w64 (by omega) (by omega)
  refine Imp.good (fn_L3_10_t101_im l0 n1 n2 n3 b4 n5 n6 n7 l8 n9 n10 n11 l12 n13 n14 n15 l16 n17 n18 n19 n20 p0 p1) ?_
  unfold fn_L3_10_t101
  refine good_t (decide_eq_true (show List.length (cl_7 l0 n1) * 16 ≤ 140737488355328 by omega)) ?_
  obtain ⟨pa0, a0⟩ := e12 (cl_1 l0 n1)
  erw [a0]
  refine good_t rfl ?_
  refine good_node (fun q1 => ?_) (fun q1 => ?_)
  ·
   refine good_node (fun q2 => ?_) (fun q2 => ?_)
   ·
    replace q2 := of_decide_eq_true q2
    erw [e16n (0 : Int) (0 : Int) (0 : Int) (0 : Int) (0 : Int)]
    refine good_t rfl ?_
    obtain ⟨pa4, a4⟩ := e16o (cl_7 l0 n1) (cl_2 l0 n1) (cl_3 l0 n1) (cl_4 l0 n1) (cl_5 l0 n1) (cl_6 l0 n1) (up c7)
    erw [a4]
    refine good_t rfl ?_
    exact good_leaf (i101 w k8 k12 k16)
   ·
    replace q2 := of_decide_eq_false q2
    erw [e62 (cl_7 l0 n1) (up c7)]
    refine good_t rfl ?_
    refine good_node (fun q6 => ?_) (fun q6 => ?_)
    ·
     replace q6 := of_decide_eq_true q6
     refine good_node (fun q7 => ?_) (fun q7 => ?_)
     ·
      replace q7 := qeT q7
      erw [e62 (cl_7 l0 n1) (up c7)]
      refine good_t rfl ?_
      erw [e30 (cl_4 l0 n1) (cl_5 l0 n1) (cl_6 l0 n1) (cl_7 l0 n1) (cl_4 l0 n1) (cl_5 l0 n1) (cl_6 l0 n1) (cl_7 l0 n1) (up c7)]
      refine good_t rfl ?_
      refine good_f (show (!(sm (cl_4 l0 n1) (cl_5 l0 n1) (cl_6 l0 n1) (cl_7 l0 n1) (cl_4 l0 n1) (cl_5 l0 n1) (cl_6 l0 n1) (cl_7 l0 n1))) = false by rw [(show (sm (cl_4 l0 n1) (cl_5 l0 n1) (cl_6 l0 n1) (cl_7 l0 n1) (cl_4 l0 n1) (cl_5 l0 n1) (cl_6 l0 n1) (cl_7 l0 n1)) = true from sm_self (cl_4 l0 n1) (cl_5 l0 n1) (cl_6 l0 n1) (cl_7 l0 n1))]; rfl) ?_
      obtain ⟨pa10, a10⟩ := e16o (cl_7 l0 n1) n2 (cl_3 l0 n1) (cl_4 l0 n1) (cl_5 l0 n1) (cl_6 l0 n1) (up c7)
      erw [a10]
      refine good_t rfl ?_
      obtain ⟨pa11, a11⟩ := e16o (cl_7 l0 n1) (cl_2 l0 n1) (cl_3 l0 n1) (cl_4 l0 n1) (cl_5 l0 n1) (cl_6 l0 n1) (up c7)
      erw [a11]
      refine good_t rfl ?_
      erw [e31 (cl_4 l0 n1) (cl_5 l0 n1) (cl_6 l0 n1) (cl_7 l0 n1) n13 n14 n15 l16 c7]
      refine good_t rfl ?_
      erw [e32 (cl_4 l0 n1) (cl_5 l0 n1) (cl_6 l0 n1) (cl_7 l0 n1) n13 n14 n15 l16 c7]
      refine good_t rfl ?_
      erw [e30 (ior .u64 (cl_4 l0 n1) n13) (iand .u32 (cl_5 l0 n1) n14) (iand .u32 (cl_6 l0 n1) n15) (mg (cl_7 l0 n1) l16) (ior .u64 (cl_4 l0 n1) n13) (iand .u32 (cl_5 l0 n1) n14) (iand .u32 (cl_6 l0 n1) n15) (mg (cl_7 l0 n1) l16) (mgl c7)]
      refine good_t rfl ?_
      refine good_f (show (!(sm (ior .u64 (cl_4 l0 n1) n13) (iand .u32 (cl_5 l0 n1) n14) (iand .u32 (cl_6 l0 n1) n15) (mg (cl_7 l0 n1) l16) (ior .u64 (cl_4 l0 n1) n13) (iand .u32 (cl_5 l0 n1) n14) (iand .u32 (cl_6 l0 n1) n15) (mg (cl_7 l0 n1) l16))) = false by rw [(show (sm (ior .u64 (cl_4 l0 n1) n13) (iand .u32 (cl_5 l0 n1) n14) (iand .u32 (cl_6 l0 n1) n15) (mg (cl_7 l0 n1) l16) (ior .u64 (cl_4 l0 n1) n13) (iand .u32 (cl_5 l0 n1) n14) (iand .u32 (cl_6 l0 n1) n15) (mg (cl_7 l0 n1) l16)) = true from sm_self (ior .u64 (cl_4 l0 n1) n13) (iand .u32 (cl_5 l0 n1) n14) (iand .u32 (cl_6 l0 n1) n15) (mg (cl_7 l0 n1) l16))]; rfl) ?_
      obtain ⟨pa15, a15⟩ := e16o (mg (cl_7 l0 n1) l16) (0 : Int) (0 : Int) (ior .u64 (cl_4 l0 n1) n13) (iand .u32 (cl_5 l0 n1) n14) (iand .u32 (cl_6 l0 n1) n15) (mgl c7)
      erw [a15]
      refine good_t rfl ?_
      rw [show (n18 == cl_3 l0 n1) = true from beq_iff_eq.2 (by omega)]
      rw [show (decide (n18 > (cl_3 l0 n1 : Int))) = false from decide_eq_false (by omega)]
      rw [show n18 = (cl_3 l0 n1) by omega]
      exact good_leaf (i110 w c7 k16 k16)
     ·
      replace q7 := qeF q7
      erw [e62 (cl_7 l0 n1) (up c7)]
      refine good_t rfl ?_
      erw [e30 (cl_4 l0 n1) (cl_5 l0 n1) (cl_6 l0 n1) (cl_7 l0 n1) (cl_4 l0 n1) (cl_5 l0 n1) (cl_6 l0 n1) (cl_7 l0 n1) (up c7)]
      refine good_t rfl ?_
      refine good_f (show (!(sm (cl_4 l0 n1) (cl_5 l0 n1) (cl_6 l0 n1) (cl_7 l0 n1) (cl_4 l0 n1) (cl_5 l0 n1) (cl_6 l0 n1) (cl_7 l0 n1))) = false by rw [(show (sm (cl_4 l0 n1) (cl_5 l0 n1) (cl_6 l0 n1) (cl_7 l0 n1) (cl_4 l0 n1) (cl_5 l0 n1) (cl_6 l0 n1) (cl_7 l0 n1)) = true from sm_self (cl_4 l0 n1) (cl_5 l0 n1) (cl_6 l0 n1) (cl_7 l0 n1))]; rfl) ?_
      obtain ⟨pa18, a18⟩ := e16o (cl_7 l0 n1) n2 (cl_3 l0 n1) (cl_4 l0 n1) (cl_5 l0 n1) (cl_6 l0 n1) (up c7)
      erw [a18]
      refine good_t rfl ?_
      obtain ⟨pa19, a19⟩ := e16o (cl_7 l0 n1) (cl_2 l0 n1) (cl_3 l0 n1) (cl_4 l0 n1) (cl_5 l0 n1) (cl_6 l0 n1) (up c7)
      erw [a19]
      refine good_t rfl ?_
      erw [e16n (0 : Int) (0 : Int) (0 : Int) (0 : Int) (0 : Int)]
      refine good_t rfl ?_
      rw [show (n18 == cl_3 l0 n1) = false from beq_eq_false_iff_ne.2 (by omega)]
      rw [show (decide (n18 > (cl_3 l0 n1 : Int))) = false from decide_eq_false (by omega)]
      exact good_leaf (i100 w c7 nil20 k16)
    ·
     replace q6 := of_decide_eq_false q6
     erw [e62 (cl_7 l0 n1) (up c7)]
     refine good_t rfl ?_
     erw [e30 (cl_4 l0 n1) (cl_5 l0 n1) (cl_6 l0 n1) (cl_7 l0 n1) (cl_4 l0 n1) (cl_5 l0 n1) (cl_6 l0 n1) (cl_7 l0 n1) (up c7)]
     refine good_t rfl ?_
     refine good_f (show (!(sm (cl_4 l0 n1) (cl_5 l0 n1) (cl_6 l0 n1) (cl_7 l0 n1) (cl_4 l0 n1) (cl_5 l0 n1) (cl_6 l0 n1) (cl_7 l0 n1))) = false by rw [(show (sm (cl_4 l0 n1) (cl_5 l0 n1) (cl_6 l0 n1) (cl_7 l0 n1) (cl_4 l0 n1) (cl_5 l0 n1) (cl_6 l0 n1) (cl_7 l0 n1)) = true from sm_self (cl_4 l0 n1) (cl_5 l0 n1) (cl_6 l0 n1) (cl_7 l0 n1))]; rfl) ?_
     obtain ⟨pa23, a23⟩ := e16o (cl_7 l0 n1) n2 (cl_3 l0 n1) (cl_4 l0 n1) (cl_5 l0 n1) (cl_6 l0 n1) (up c7)
     erw [a23]
     refine good_t rfl ?_
     obtain ⟨pa24, a24⟩ := e16o (cl_7 l0 n1) (cl_2 l0 n1) (cl_3 l0 n1) (cl_4 l0 n1) (cl_5 l0 n1) (cl_6 l0 n1) (up c7)
     erw [a24]
     refine good_t rfl ?_
     erw [e16n (0 : Int) (0 : Int) (0 : Int) (0 : Int) (0 : Int)]
     refine good_t rfl ?_
     rw [show (n18 == cl_3 l0 n1) = false from beq_eq_false_iff_ne.2 (by omega)]
     rw [show (decide (n18 > (cl_3 l0 n1 : Int))) = true from decide_eq_true (by omega)]
     exact good_leaf (i101 w c7 nil20 k16)
  ·
   refine good_node (fun q26 => ?_) (fun q26 => ?_)
   ·
    replace q26 := qnT q26
    obtain ⟨pa27, a27⟩ := e16o (cl_7 l0 n1) (cl_2 l0 n1) (cl_3 l0 n1) (cl_4 l0 n1) (cl_5 l0 n1) (cl_6 l0 n1) (up c7)
    erw [a27]
    refine good_t rfl ?_
    erw [e16n (0 : Int) (0 : Int) (0 : Int) (0 : Int) (0 : Int)]
    refine good_t rfl ?_
    exact good_leaf (i101 w k8 k12 k16)
   ·
    replace q26 := qnF q26
    refine good_node (fun q29 => ?_) (fun q29 => ?_)
    ·
     replace q29 := of_decide_eq_true q29
     obtain ⟨pa30, a30⟩ := e16o (cl_7 l0 n1) (cl_2 l0 n1) (cl_3 l0 n1) (cl_4 l0 n1) (cl_5 l0 n1) (cl_6 l0 n1) (up c7)
     erw [a30]
     refine good_t rfl ?_
     erw [e16n (0 : Int) (0 : Int) (0 : Int) (0 : Int) (0 : Int)]
     refine good_t rfl ?_
     exact good_leaf (i101 w k8 k12 k16)
    ·
     replace q29 := of_decide_eq_false q29
     erw [e62 (cl_7 l0 n1) (up c7)]
     refine good_t rfl ?_
     refine good_node (fun q33 => ?_) (fun q33 => ?_)
     ·
      replace q33 := of_decide_eq_true q33
      refine good_node (fun q34 => ?_) (fun q34 => ?_)
      ·
       replace q34 := of_decide_eq_true q34
       obtain ⟨pa35, a35⟩ := e16o (cl_7 l0 n1) (cl_2 l0 n1) (cl_3 l0 n1) (cl_4 l0 n1) (cl_5 l0 n1) (cl_6 l0 n1) (up c7)
       erw [a35]
       refine good_t rfl ?_
       erw [e16n (0 : Int) (0 : Int) (0 : Int) (0 : Int) (0 : Int)]
       refine good_t rfl ?_
       exact good_leaf (i101 w k8 k12 c7)
      ·
       replace q34 := of_decide_eq_false q34
       refine good_node (fun q37 => ?_) (fun q37 => ?_)
       ·
        replace q37 := qeT q37
        erw [e29 n13 n14 n15 l16 (cl_4 l0 n1) (cl_5 l0 n1) (cl_6 l0 n1) (cl_7 l0 n1) (up k16)]
        refine good_t rfl ?_
        refine good_node (fun q39 => ?_) (fun q39 => ?_)
        ·
         replace q39 : (sm n13 n14 n15 l16 (cl_4 l0 n1) (cl_5 l0 n1) (cl_6 l0 n1) (cl_7 l0 n1)) = true := q39
         erw [e30 (cl_4 l0 n1) (cl_5 l0 n1) (cl_6 l0 n1) (cl_7 l0 n1) n13 n14 n15 l16 (up c7)]
         refine good_t rfl ?_
         refine good_t (show (sm (cl_4 l0 n1) (cl_5 l0 n1) (cl_6 l0 n1) (cl_7 l0 n1) n13 n14 n15 l16) = true from (sm_symm (cl_4 l0 n1) (cl_5 l0 n1) (cl_6 l0 n1) (cl_7 l0 n1) n13 n14 n15 l16).trans q39) ?_
         obtain ⟨pa41, a41⟩ := e16o (cl_7 l0 n1) (cl_2 l0 n1) (cl_3 l0 n1) (cl_4 l0 n1) (cl_5 l0 n1) (cl_6 l0 n1) (up c7)
         erw [a41]
         refine good_t rfl ?_
         erw [e16n (0 : Int) (0 : Int) (0 : Int) (0 : Int) (0 : Int)]
         refine good_t rfl ?_
         exact good_leaf (i101 w k8 k12 k16)
        ·
         replace q39 : (sm n13 n14 n15 l16 (cl_4 l0 n1) (cl_5 l0 n1) (cl_6 l0 n1) (cl_7 l0 n1)) = false := q39
         erw [e30 (cl_4 l0 n1) (cl_5 l0 n1) (cl_6 l0 n1) (cl_7 l0 n1) n13 n14 n15 l16 (up c7)]
         refine good_t rfl ?_
         refine good_f (show (sm (cl_4 l0 n1) (cl_5 l0 n1) (cl_6 l0 n1) (cl_7 l0 n1) n13 n14 n15 l16) = false from (sm_symm (cl_4 l0 n1) (cl_5 l0 n1) (cl_6 l0 n1) (cl_7 l0 n1) n13 n14 n15 l16).trans q39) ?_
         obtain ⟨pa44, a44⟩ := e16o (cl_7 l0 n1) (cl_2 l0 n1) (cl_3 l0 n1) (cl_4 l0 n1) (cl_5 l0 n1) (cl_6 l0 n1) (up c7)
         erw [a44]
         refine good_t rfl ?_
         erw [e16n (0 : Int) (0 : Int) (0 : Int) (0 : Int) (0 : Int)]
         refine good_t rfl ?_
         exact good_leaf (i101 w k8 k12 k16)
       ·
        replace q37 := qeF q37
        obtain ⟨pa46, a46⟩ := e16o (cl_7 l0 n1) (cl_2 l0 n1) (cl_3 l0 n1) (cl_4 l0 n1) (cl_5 l0 n1) (cl_6 l0 n1) (up c7)
        erw [a46]
        refine good_t rfl ?_
        erw [e16n (0 : Int) (0 : Int) (0 : Int) (0 : Int) (0 : Int)]
        refine good_t rfl ?_
        exact good_leaf (i101 w k8 k12 k16)
     ·
      replace q33 := of_decide_eq_false q33
      obtain ⟨pa48, a48⟩ := e16o (cl_7 l0 n1) (cl_2 l0 n1) (cl_3 l0 n1) (cl_4 l0 n1) (cl_5 l0 n1) (cl_6 l0 n1) (up c7)
      erw [a48]
      refine good_t rfl ?_
      refine good_node (fun q49 => ?_) (fun q49 => ?_)
      ·
       erw [e16n (0 : Int) (0 : Int) (0 : Int) (0 : Int) (0 : Int)]
       refine good_t rfl ?_
       rw [show (cl_3 l0 n1) = n3 by omega]
       exact good_leaf (i111 w k8 c7 k16)
      ·
       erw [e31 n5 n6 n7 l8 (cl_4 l0 n1) (cl_5 l0 n1) (cl_6 l0 n1) (cl_7 l0 n1) k8]
       refine good_t rfl ?_
       erw [e32 n5 n6 n7 l8 (cl_4 l0 n1) (cl_5 l0 n1) (cl_6 l0 n1) (cl_7 l0 n1) k8]
       refine good_t rfl ?_
       erw [e30 (ior .u64 n5 (cl_4 l0 n1)) (iand .u32 n6 (cl_5 l0 n1)) (iand .u32 n7 (cl_6 l0 n1)) (mg l8 (cl_7 l0 n1)) (ior .u64 n5 (cl_4 l0 n1)) (iand .u32 n6 (cl_5 l0 n1)) (iand .u32 n7 (cl_6 l0 n1)) (mg l8 (cl_7 l0 n1)) (mgl k8)]
       refine good_t rfl ?_
       refine good_f (show (!(sm (ior .u64 n5 (cl_4 l0 n1)) (iand .u32 n6 (cl_5 l0 n1)) (iand .u32 n7 (cl_6 l0 n1)) (mg l8 (cl_7 l0 n1)) (ior .u64 n5 (cl_4 l0 n1)) (iand .u32 n6 (cl_5 l0 n1)) (iand .u32 n7 (cl_6 l0 n1)) (mg l8 (cl_7 l0 n1)))) = false by rw [(show (sm (ior .u64 n5 (cl_4 l0 n1)) (iand .u32 n6 (cl_5 l0 n1)) (iand .u32 n7 (cl_6 l0 n1)) (mg l8 (cl_7 l0 n1)) (ior .u64 n5 (cl_4 l0 n1)) (iand .u32 n6 (cl_5 l0 n1)) (iand .u32 n7 (cl_6 l0 n1)) (mg l8 (cl_7 l0 n1))) = true from sm_self (ior .u64 n5 (cl_4 l0 n1)) (iand .u32 n6 (cl_5 l0 n1)) (iand .u32 n7 (cl_6 l0 n1)) (mg l8 (cl_7 l0 n1)))]; rfl) ?_
       obtain ⟨pa54, a54⟩ := e16o (mg l8 (cl_7 l0 n1)) (0 : Int) (0 : Int) (ior .u64 n5 (cl_4 l0 n1)) (iand .u32 n6 (cl_5 l0 n1)) (iand .u32 n7 (cl_6 l0 n1)) (mgl k8)
       erw [a54]
       refine good_t rfl ?_
       rw [show (cl_3 l0 n1) = n3 by omega]
       exact good_leaf (i111 w k8 c7 k16)
theorem step110 {l0 : LR} {n1 : Int} (p0 : 0 ≤ n1) (p1 : n1 < (l0.length : Int)) (hl : l0.length ≤ 60) (c7 : (cl_7 l0 n1).length ≤ 20) (n2 : Int) (n3 : Int) (b4 : Bool) (n5 : Int) (n6 : Int) (n7 : Int) (l8 : LC) (n9 : Int) (n10 : Int) (n11 : Int) (l12 : LC) (n13 : Int) (n14 : Int) (n15 : Int) (l16 : LC) (n17 : Int) (n18 : Int) (n19 : Int) (n20 : Int) (n21 : Int) (k8 : l8.length ≤ 20) (k12 : l12.length ≤ 20) (k16 : l16.length ≤ 20) : Good (StepP l0 n1) (st_L3_10 (e110 l0 n1 n2 n3 b4 n5 n6 n7 l8 n9 n10 n11 l12 n13 n14 n15 l16 n17 n18 n19 n20 n21)).sel := by
  have w : IntKind.wrap .i64 (n1 + 1) = n1 + 1 := w64 (by omega) (by omega)
  refine Imp.good (fn_L3_10_t110_im l0 n1 n2 n3 b4 n5 n6 n7 l8 n9 n10 n11 l12 n13 n14 n15 l16 n17 n18 n19 n20 n21 p0 p1) ?_
  unfold fn_L3_10_t110
  refine good_t (decide_eq_true (show List.length (cl_7 l0 n1) * 16 ≤ 140737488355328 by omega)) ?_
  obtain ⟨pa0, a0⟩ := e12 (cl_1 l0 n1)
  erw [a0]
  refine good_t rfl ?_
  refine good_node (fun q1 => ?_) (fun q1 => ?_)
  ·
   refine good_node (fun q2 => ?_) (fun q2 => ?_)
   ·
    replace q2 := of_decide_eq_true q2
    erw [e16n (0 : Int) (0 : Int) (0 : Int) (0 : Int) (0 : Int)]
    refine good_t rfl ?_
    obtain ⟨pa4, a4⟩ := e16o (cl_7 l0 n1) (cl_2 l0 n1) (cl_3 l0 n1) (cl_4 l0 n1) (cl_5 l0 n1) (cl_6 l0 n1) (up c7)
    erw [a4]
    refine good_t rfl ?_
    refine good_node (fun q5 => ?_) (fun q5 => ?_)
    ·
     exact good_leaf (i110 w k8 k12 k16)
    ·
     erw [e31 n5 n6 n7 l8 n9 n10 n11 l12 k8]
     refine good_t rfl ?_
     erw [e32 n5 n6 n7 l8 n9 n10 n11 l12 k8]
     refine good_t rfl ?_
     erw [e30 (ior .u64 n5 n9) (iand .u32 n6 n10) (iand .u32 n7 n11) (mg l8 l12) (ior .u64 n5 n9) (iand .u32 n6 n10) (iand .u32 n7 n11) (mg l8 l12) (mgl k8)]
     refine good_t rfl ?_
     refine good_f (show (!(sm (ior .u64 n5 n9) (iand .u32 n6 n10) (iand .u32 n7 n11) (mg l8 l12) (ior .u64 n5 n9) (iand .u32 n6 n10) (iand .u32 n7 n11) (mg l8 l12))) = false by rw [(show (sm (ior .u64 n5 n9) (iand .u32 n6 n10) (iand .u32 n7 n11) (mg l8 l12) (ior .u64 n5 n9) (iand .u32 n6 n10) (iand .u32 n7 n11) (mg l8 l12)) = true from sm_self (ior .u64 n5 n9) (iand .u32 n6 n10) (iand .u32 n7 n11) (mg l8 l12))]; rfl) ?_
     obtain ⟨pa9, a9⟩ := e16o (mg l8 l12) (0 : Int) (0 : Int) (ior .u64 n5 n9) (iand .u32 n6 n10) (iand .u32 n7 n11) (mgl k8)
     erw [a9]
     refine good_t rfl ?_
     exact good_leaf (i110 w k8 k12 k16)
   ·
    replace q2 := of_decide_eq_false q2
    erw [e62 (cl_7 l0 n1) (up c7)]
    refine good_t rfl ?_
    erw [e62 (cl_7 l0 n1) (up c7)]
    refine good_t rfl ?_
    erw [e30 (cl_4 l0 n1) (cl_5 l0 n1) (cl_6 l0 n1) (cl_7 l0 n1) (cl_4 l0 n1) (cl_5 l0 n1) (cl_6 l0 n1) (cl_7 l0 n1) (up c7)]
    refine good_t rfl ?_
    refine good_f (show (!(sm (cl_4 l0 n1) (cl_5 l0 n1) (cl_6 l0 n1) (cl_7 l0 n1) (cl_4 l0 n1) (cl_5 l0 n1) (cl_6 l0 n1) (cl_7 l0 n1))) = false by rw [(show (sm (cl_4 l0 n1) (cl_5 l0 n1) (cl_6 l0 n1) (cl_7 l0 n1) (cl_4 l0 n1) (cl_5 l0 n1) (cl_6 l0 n1) (cl_7 l0 n1)) = true from sm_self (cl_4 l0 n1) (cl_5 l0 n1) (cl_6 l0 n1) (cl_7 l0 n1))]; rfl) ?_
    obtain ⟨pa13, a13⟩ := e16o (cl_7 l0 n1) n2 (cl_3 l0 n1) (cl_4 l0 n1) (cl_5 l0 n1) (cl_6 l0 n1) (up c7)
    erw [a13]
    refine good_t rfl ?_
    obtain ⟨pa14, a14⟩ := e16o (cl_7 l0 n1) (cl_2 l0 n1) (cl_3 l0 n1) (cl_4 l0 n1) (cl_5 l0 n1) (cl_6 l0 n1) (up c7)
    erw [a14]
    refine good_t rfl ?_
    erw [e16n (0 : Int) (0 : Int) (0 : Int) (0 : Int) (0 : Int)]
    refine good_t rfl ?_
    exact good_leaf (i100 w c7 nil20 k16)
  ·
   refine good_node (fun q16 => ?_) (fun q16 => ?_)
   ·
    replace q16 := qnT q16
    obtain ⟨pa17, a17⟩ := e16o (cl_7 l0 n1) (cl_2 l0 n1) (cl_3 l0 n1) (cl_4 l0 n1) (cl_5 l0 n1) (cl_6 l0 n1) (up c7)
    erw [a17]
    refine good_t rfl ?_
    refine good_node (fun q18 => ?_) (fun q18 => ?_)
    ·
     erw [e16n (0 : Int) (0 : Int) (0 : Int) (0 : Int) (0 : Int)]
     refine good_t rfl ?_
     exact good_leaf (i110 w k8 k12 k16)
    ·
     erw [e31 n5 n6 n7 l8 n9 n10 n11 l12 k8]
     refine good_t rfl ?_
     erw [e32 n5 n6 n7 l8 n9 n10 n11 l12 k8]
     refine good_t rfl ?_
     erw [e30 (ior .u64 n5 n9) (iand .u32 n6 n10) (iand .u32 n7 n11) (mg l8 l12) (ior .u64 n5 n9) (iand .u32 n6 n10) (iand .u32 n7 n11) (mg l8 l12) (mgl k8)]
     refine good_t rfl ?_
     refine good_f (show (!(sm (ior .u64 n5 n9) (iand .u32 n6 n10) (iand .u32 n7 n11) (mg l8 l12) (ior .u64 n5 n9) (iand .u32 n6 n10) (iand .u32 n7 n11) (mg l8 l12))) = false by rw [(show (sm (ior .u64 n5 n9) (iand .u32 n6 n10) (iand .u32 n7 n11) (mg l8 l12) (ior .u64 n5 n9) (iand .u32 n6 n10) (iand .u32 n7 n11) (mg l8 l12)) = true from sm_self (ior .u64 n5 n9) (iand .u32 n6 n10) (iand .u32 n7 n11) (mg l8 l12))]; rfl) ?_
     obtain ⟨pa23, a23⟩ := e16o (mg l8 l12) (0 : Int) (0 : Int) (ior .u64 n5 n9) (iand .u32 n6 n10) (iand .u32 n7 n11) (mgl k8)
     erw [a23]
     refine good_t rfl ?_
     exact good_leaf (i110 w k8 k12 k16)
   ·
    replace q16 := qnF q16
    refine good_node (fun q24 => ?_) (fun q24 => ?_)
    ·
     replace q24 := of_decide_eq_true q24
     obtain ⟨pa25, a25⟩ := e16o (cl_7 l0 n1) (cl_2 l0 n1) (cl_3 l0 n1) (cl_4 l0 n1) (cl_5 l0 n1) (cl_6 l0 n1) (up c7)
     erw [a25]
     refine good_t rfl ?_
     refine good_node (fun q26 => ?_) (fun q26 => ?_)
     ·
      erw [e16n (0 : Int) (0 : Int) (0 : Int) (0 : Int) (0 : Int)]
      refine good_t rfl ?_
      exact good_leaf (i110 w k8 k12 k16)
     ·
      erw [e31 n5 n6 n7 l8 n9 n10 n11 l12 k8]
      refine good_t rfl ?_
      erw [e32 n5 n6 n7 l8 n9 n10 n11 l12 k8]
      refine good_t rfl ?_
      erw [e30 (ior .u64 n5 n9) (iand .u32 n6 n10) (iand .u32 n7 n11) (mg l8 l12) (ior .u64 n5 n9) (iand .u32 n6 n10) (iand .u32 n7 n11) (mg l8 l12) (mgl k8)]
      refine good_t rfl ?_
      refine good_f (show (!(sm (ior .u64 n5 n9) (iand .u32 n6 n10) (iand .u32 n7 n11) (mg l8 l12) (ior .u64 n5 n9) (iand .u32 n6 n10) (iand .u32 n7 n11) (mg l8 l12))) = false by rw [(show (sm (ior .u64 n5 n9) (iand .u32 n6 n10) (iand .u32 n7 n11) (mg l8 l12) (ior .u64 n5 n9) (iand .u32 n6 n10) (iand .u32 n7 n11) (mg l8 l12)) = true from sm_self (ior .u64 n5 n9) (iand .u32 n6 n10) (iand .u32 n7 n11) (mg l8 l12))]; rfl) ?_
      obtain ⟨pa31, a31⟩ := e16o (mg l8 l12) (0 : Int) (0 : Int) (ior .u64 n5 n9) (iand .u32 n6 n10) (iand .u32 n7 n11) (mgl k8)
      erw [a31]
      refine good_t rfl ?_
      exact good_leaf (i110 w k8 k12 k16)
    ·
     replace q24 := of_decide_eq_false q24
     erw [e62 (cl_7 l0 n1) (up c7)]
     refine good_t rfl ?_
     refine good_node (fun q33 => ?_) (fun q33 => ?_)
     ·
      replace q33 := of_decide_eq_true q33
      obtain ⟨pa34, a34⟩ := e16o (cl_7 l0 n1) (cl_2 l0 n1) (cl_3 l0 n1) (cl_4 l0 n1) (cl_5 l0 n1) (cl_6 l0 n1) (up c7)
      erw [a34]
      refine good_t rfl ?_
      refine good_node (fun q35 => ?_) (fun q35 => ?_)
      ·
       erw [e16n (0 : Int) (0 : Int) (0 : Int) (0 : Int) (0 : Int)]
       refine good_t rfl ?_
       exact good_leaf (i111 w k8 k12 c7)
      ·
       erw [e31 n5 n6 n7 l8 n9 n10 n11 l12 k8]
       refine good_t rfl ?_
       erw [e32 n5 n6 n7 l8 n9 n10 n11 l12 k8]
       refine good_t rfl ?_
       erw [e30 (ior .u64 n5 n9) (iand .u32 n6 n10) (iand .u32 n7 n11) (mg l8 l12) (ior .u64 n5 n9) (iand .u32 n6 n10) (iand .u32 n7 n11) (mg l8 l12) (mgl k8)]
       refine good_t rfl ?_
       refine good_f (show (!(sm (ior .u64 n5 n9) (iand .u32 n6 n10) (iand .u32 n7 n11) (mg l8 l12) (ior .u64 n5 n9) (iand .u32 n6 n10) (iand .u32 n7 n11) (mg l8 l12))) = false by rw [(show (sm (ior .u64 n5 n9) (iand .u32 n6 n10) (iand .u32 n7 n11) (mg l8 l12) (ior .u64 n5 n9) (iand .u32 n6 n10) (iand .u32 n7 n11) (mg l8 l12)) = true from sm_self (ior .u64 n5 n9) (iand .u32 n6 n10) (iand .u32 n7 n11) (mg l8 l12))]; rfl) ?_
       obtain ⟨pa40, a40⟩ := e16o (mg l8 l12) (0 : Int) (0 : Int) (ior .u64 n5 n9) (iand .u32 n6 n10) (iand .u32 n7 n11) (mgl k8)
       erw [a40]
       refine good_t rfl ?_
       exact good_leaf (i111 w k8 k12 c7)
     ·
      replace q33 := of_decide_eq_false q33
      erw [e29 n9 n10 n11 l12 (cl_4 l0 n1) (cl_5 l0 n1) (cl_6 l0 n1) (cl_7 l0 n1) (up k12)]
      refine good_t rfl ?_
      refine good_node (fun q42 => ?_) (fun q42 => ?_)
      ·
       replace q42 : (sm n9 n10 n11 l12 (cl_4 l0 n1) (cl_5 l0 n1) (cl_6 l0 n1) (cl_7 l0 n1)) = true := q42
       erw [e30 (cl_4 l0 n1) (cl_5 l0 n1) (cl_6 l0 n1) (cl_7 l0 n1) n9 n10 n11 l12 (up c7)]
       refine good_t rfl ?_
       refine good_t (show (sm (cl_4 l0 n1) (cl_5 l0 n1) (cl_6 l0 n1) (cl_7 l0 n1) n9 n10 n11 l12) = true from (sm_symm (cl_4 l0 n1) (cl_5 l0 n1) (cl_6 l0 n1) (cl_7 l0 n1) n9 n10 n11 l12).trans q42) ?_
       obtain ⟨pa44, a44⟩ := e16o (cl_7 l0 n1) (cl_2 l0 n1) (cl_3 l0 n1) (cl_4 l0 n1) (cl_5 l0 n1) (cl_6 l0 n1) (up c7)
       erw [a44]
       refine good_t rfl ?_
       refine good_node (fun q45 => ?_) (fun q45 => ?_)
       ·
        erw [e16n (0 : Int) (0 : Int) (0 : Int) (0 : Int) (0 : Int)]
        refine good_t rfl ?_
        exact good_leaf (i110 w k8 k12 k16)
       ·
        erw [e31 n5 n6 n7 l8 n9 n10 n11 l12 k8]
        refine good_t rfl ?_
        erw [e32 n5 n6 n7 l8 n9 n10 n11 l12 k8]
        refine good_t rfl ?_
        erw [e30 (ior .u64 n5 n9) (iand .u32 n6 n10) (iand .u32 n7 n11) (mg l8 l12) (ior .u64 n5 n9) (iand .u32 n6 n10) (iand .u32 n7 n11) (mg l8 l12) (mgl k8)]
        refine good_t rfl ?_
        refine good_f (show (!(sm (ior .u64 n5 n9) (iand .u32 n6 n10) (iand .u32 n7 n11) (mg l8 l12) (ior .u64 n5 n9) (iand .u32 n6 n10) (iand .u32 n7 n11) (mg l8 l12))) = false by rw [(show (sm (ior .u64 n5 n9) (iand .u32 n6 n10) (iand .u32 n7 n11) (mg l8 l12) (ior .u64 n5 n9) (iand .u32 n6 n10) (iand .u32 n7 n11) (mg l8 l12)) = true from sm_self (ior .u64 n5 n9) (iand .u32 n6 n10) (iand .u32 n7 n11) (mg l8 l12))]; rfl) ?_
        obtain ⟨pa50, a50⟩ := e16o (mg l8 l12) (0 : Int) (0 : Int) (ior .u64 n5 n9) (iand .u32 n6 n10) (iand .u32 n7 n11) (mgl k8)
        erw [a50]
        refine good_t rfl ?_
        exact good_leaf (i110 w k8 k12 k16)
      ·
       replace q42 : (sm n9 n10 n11 l12 (cl_4 l0 n1) (cl_5 l0 n1) (cl_6 l0 n1) (cl_7 l0 n1)) = false := q42
       erw [e30 (cl_4 l0 n1) (cl_5 l0 n1) (cl_6 l0 n1) (cl_7 l0 n1) n9 n10 n11 l12 (up c7)]
       refine good_t rfl ?_
       refine good_f (show (sm (cl_4 l0 n1) (cl_5 l0 n1) (cl_6 l0 n1) (cl_7 l0 n1) n9 n10 n11 l12) = false from (sm_symm (cl_4 l0 n1) (cl_5 l0 n1) (cl_6 l0 n1) (cl_7 l0 n1) n9 n10 n11 l12).trans q42) ?_
       obtain ⟨pa52, a52⟩ := e16o (cl_7 l0 n1) (cl_2 l0 n1) (cl_3 l0 n1) (cl_4 l0 n1) (cl_5 l0 n1) (cl_6 l0 n1) (up c7)
       erw [a52]
       refine good_t rfl ?_
       erw [e16n (0 : Int) (0 : Int) (0 : Int) (0 : Int) (0 : Int)]
       refine good_t rfl ?_
       exact good_leaf (i110 w k8 k12 k16)
theorem step111 {l0 : LR} {n1 : Int} (p0 : 0 ≤ n1) (p1 : n1 < (l0.length : Int)) (hl : l0.length ≤ 60) (c7 : (cl_7 l0 n1).length ≤ 20) (n2 : Int) (n3 : Int) (b4 : Bool) (n5 : Int) (n6 : Int) (n7 : Int) (l8 : LC) (n9 : Int) (n10 : Int) (n11 : Int) (l12 : LC) (n13 : Int) (n14 : Int) (n15 : Int) (l16 : LC) (n17 : Int) (n18 : Int) (n19 : Int) (n20 : Int) (n21 : Int) (k8 : l8.length ≤ 20) (k12 : l12.length ≤ 20) (k16 : l16.length ≤ 20) : Good (StepP l0 n1) (st_L3_10 (e111 l0 n1 n2 n3 b4 n5 n6 n7 l8 n9 n10 n11 l12 n13 n14 n15 l16 n17 n18 n19 n20 n21)).sel := by
  have w : IntKind.wrap .i64 (n1 + 1) = n1 + 1 := w64 (by omega) (by omega)
  refine Imp.good (fn_L3_10_t111_im l0 n1 n2 n3 b4 n5 n6 n7 l8 n9 n10 n11 l12 n13 n14 n15 l16 n17 n18 n19 n20 n21 p0 p1) ?_
  unfold fn_L3_10_t111
  refine good_t (decide_eq_true (show List.length (cl_7 l0 n1) * 16 ≤ 140737488355328 by omega)) ?_
  obtain ⟨pa0, a0⟩ := e12 (cl_1 l0 n1)
  erw [a0]
  refine good_t rfl ?_
  refine good_node (fun q1 => ?_) (fun q1 => ?_)
  ·
   refine good_node (fun q2 => ?_) (fun q2 => ?_)
   ·
    replace q2 := of_decide_eq_true q2
    erw [e16n (0 : Int) (0 : Int) (0 : Int) (0 : Int) (0 : Int)]
    refine good_t rfl ?_
    obtain ⟨pa4, a4⟩ := e16o (cl_7 l0 n1) (cl_2 l0 n1) (cl_3 l0 n1) (cl_4 l0 n1) (cl_5 l0 n1) (cl_6 l0 n1) (up c7)
    erw [a4]
    refine good_t rfl ?_
    refine good_node (fun q5 => ?_) (fun q5 => ?_)
    ·
     exact good_leaf (i111 w k8 k12 k16)
    ·
     erw [e31 n5 n6 n7 l8 n9 n10 n11 l12 k8]
     refine good_t rfl ?_
     erw [e32 n5 n6 n7 l8 n9 n10 n11 l12 k8]
     refine good_t rfl ?_
     erw [e30 (ior .u64 n5 n9) (iand .u32 n6 n10) (iand .u32 n7 n11) (mg l8 l12) (ior .u64 n5 n9) (iand .u32 n6 n10) (iand .u32 n7 n11) (mg l8 l12) (mgl k8)]
     refine good_t rfl ?_
     refine good_f (show (!(sm (ior .u64 n5 n9) (iand .u32 n6 n10) (iand .u32 n7 n11) (mg l8 l12) (ior .u64 n5 n9) (iand .u32 n6 n10) (iand .u32 n7 n11) (mg l8 l12))) = false by rw [(show (sm (ior .u64 n5 n9) (iand .u32 n6 n10) (iand .u32 n7 n11) (mg l8 l12) (ior .u64 n5 n9) (iand .u32 n6 n10) (iand .u32 n7 n11) (mg l8 l12)) = true from sm_self (ior .u64 n5 n9) (iand .u32 n6 n10) (iand .u32 n7 n11) (mg l8 l12))]; rfl) ?_
     obtain ⟨pa9, a9⟩ := e16o (mg l8 l12) (0 : Int) (0 : Int) (ior .u64 n5 n9) (iand .u32 n6 n10) (iand .u32 n7 n11) (mgl k8)
     erw [a9]
     refine good_t rfl ?_
     exact good_leaf (i111 w k8 k12 k16)
   ·
    replace q2 := of_decide_eq_false q2
    erw [e62 (cl_7 l0 n1) (up c7)]
    refine good_t rfl ?_
    refine good_node (fun q11 => ?_) (fun q11 => ?_)
    ·
     replace q11 := of_decide_eq_true q11
     refine good_node (fun q12 => ?_) (fun q12 => ?_)
     ·
      replace q12 := qeT q12
      erw [e62 (cl_7 l0 n1) (up c7)]
      refine good_t rfl ?_
      erw [e30 (cl_4 l0 n1) (cl_5 l0 n1) (cl_6 l0 n1) (cl_7 l0 n1) (cl_4 l0 n1) (cl_5 l0 n1) (cl_6 l0 n1) (cl_7 l0 n1) (up c7)]
      refine good_t rfl ?_
      refine good_f (show (!(sm (cl_4 l0 n1) (cl_5 l0 n1) (cl_6 l0 n1) (cl_7 l0 n1) (cl_4 l0 n1) (cl_5 l0 n1) (cl_6 l0 n1) (cl_7 l0 n1))) = false by rw [(show (sm (cl_4 l0 n1) (cl_5 l0 n1) (cl_6 l0 n1) (cl_7 l0 n1) (cl_4 l0 n1) (cl_5 l0 n1) (cl_6 l0 n1) (cl_7 l0 n1)) = true from sm_self (cl_4 l0 n1) (cl_5 l0 n1) (cl_6 l0 n1) (cl_7 l0 n1))]; rfl) ?_
      obtain ⟨pa15, a15⟩ := e16o (cl_7 l0 n1) n2 (cl_3 l0 n1) (cl_4 l0 n1) (cl_5 l0 n1) (cl_6 l0 n1) (up c7)
      erw [a15]
      refine good_t rfl ?_
      obtain ⟨pa16, a16⟩ := e16o (cl_7 l0 n1) (cl_2 l0 n1) (cl_3 l0 n1) (cl_4 l0 n1) (cl_5 l0 n1) (cl_6 l0 n1) (up c7)
      erw [a16]
      refine good_t rfl ?_
      erw [e31 (cl_4 l0 n1) (cl_5 l0 n1) (cl_6 l0 n1) (cl_7 l0 n1) n13 n14 n15 l16 c7]
      refine good_t rfl ?_
      erw [e32 (cl_4 l0 n1) (cl_5 l0 n1) (cl_6 l0 n1) (cl_7 l0 n1) n13 n14 n15 l16 c7]
      refine good_t rfl ?_
      erw [e30 (ior .u64 (cl_4 l0 n1) n13) (iand .u32 (cl_5 l0 n1) n14) (iand .u32 (cl_6 l0 n1) n15) (mg (cl_7 l0 n1) l16) (ior .u64 (cl_4 l0 n1) n13) (iand .u32 (cl_5 l0 n1) n14) (iand .u32 (cl_6 l0 n1) n15) (mg (cl_7 l0 n1) l16) (mgl c7)]
      refine good_t rfl ?_
      refine good_f (show (!(sm (ior .u64 (cl_4 l0 n1) n13) (iand .u32 (cl_5 l0 n1) n14) (iand .u32 (cl_6 l0 n1) n15) (mg (cl_7 l0 n1) l16) (ior .u64 (cl_4 l0 n1) n13) (iand .u32 (cl_5 l0 n1) n14) (iand .u32 (cl_6 l0 n1) n15) (mg (cl_7 l0 n1) l16))) = false by rw [(show (sm (ior .u64 (cl_4 l0 n1) n13) (iand .u32 (cl_5 l0 n1) n14) (iand .u32 (cl_6 l0 n1) n15) (mg (cl_7 l0 n1) l16) (ior .u64 (cl_4 l0 n1) n13) (iand .u32 (cl_5 l0 n1) n14) (iand .u32 (cl_6 l0 n1) n15) (mg (cl_7 l0 n1) l16)) = true from sm_self (ior .u64 (cl_4 l0 n1) n13) (iand .u32 (cl_5 l0 n1) n14) (iand .u32 (cl_6 l0 n1) n15) (mg (cl_7 l0 n1) l16))]; rfl) ?_
      obtain ⟨pa20, a20⟩ := e16o (mg (cl_7 l0 n1) l16) (0 : Int) (0 : Int) (ior .u64 (cl_4 l0 n1) n13) (iand .u32 (cl_5 l0 n1) n14) (iand .u32 (cl_6 l0 n1) n15) (mgl c7)
      erw [a20]
      refine good_t rfl ?_
      rw [show (n18 == cl_3 l0 n1) = true from beq_iff_eq.2 (by omega)]
      rw [show (decide (n18 > (cl_3 l0 n1 : Int))) = false from decide_eq_false (by omega)]
      rw [show n18 = (cl_3 l0 n1) by omega]
      exact good_leaf (i110 w c7 k16 k16)
     ·
      replace q12 := qeF q12
      erw [e62 (cl_7 l0 n1) (up c7)]
      refine good_t rfl ?_
      erw [e30 (cl_4 l0 n1) (cl_5 l0 n1) (cl_6 l0 n1) (cl_7 l0 n1) (cl_4 l0 n1) (cl_5 l0 n1) (cl_6 l0 n1) (cl_7 l0 n1) (up c7)]
      refine good_t rfl ?_
      refine good_f (show (!(sm (cl_4 l0 n1) (cl_5 l0 n1) (cl_6 l0 n1) (cl_7 l0 n1) (cl_4 l0 n1) (cl_5 l0 n1) (cl_6 l0 n1) (cl_7 l0 n1))) = false by rw [(show (sm (cl_4 l0 n1) (cl_5 l0 n1) (cl_6 l0 n1) (cl_7 l0 n1) (cl_4 l0 n1) (cl_5 l0 n1) (cl_6 l0 n1) (cl_7 l0 n1)) = true from sm_self (cl_4 l0 n1) (cl_5 l0 n1) (cl_6 l0 n1) (cl_7 l0 n1))]; rfl) ?_
      obtain ⟨pa23, a23⟩ := e16o (cl_7 l0 n1) n2 (cl_3 l0 n1) (cl_4 l0 n1) (cl_5 l0 n1) (cl_6 l0 n1) (up c7)
      erw [a23]
      refine good_t rfl ?_
      obtain ⟨pa24, a24⟩ := e16o (cl_7 l0 n1) (cl_2 l0 n1) (cl_3 l0 n1) (cl_4 l0 n1) (cl_5 l0 n1) (cl_6 l0 n1) (up c7)
      erw [a24]
      refine good_t rfl ?_
      erw [e16n (0 : Int) (0 : Int) (0 : Int) (0 : Int) (0 : Int)]
      refine good_t rfl ?_
      rw [show (n18 == cl_3 l0 n1) = false from beq_eq_false_iff_ne.2 (by omega)]
      rw [show (decide (n18 > (cl_3 l0 n1 : Int))) = false from decide_eq_false (by omega)]
      exact good_leaf (i100 w c7 nil20 k16)
    ·
     replace q11 := of_decide_eq_false q11
     erw [e62 (cl_7 l0 n1) (up c7)]
     refine good_t rfl ?_
     erw [e30 (cl_4 l0 n1) (cl_5 l0 n1) (cl_6 l0 n1) (cl_7 l0 n1) (cl_4 l0 n1) (cl_5 l0 n1) (cl_6 l0 n1) (cl_7 l0 n1) (up c7)]
     refine good_t rfl ?_
     refine good_f (show (!(sm (cl_4 l0 n1) (cl_5 l0 n1) (cl_6 l0 n1) (cl_7 l0 n1) (cl_4 l0 n1) (cl_5 l0 n1) (cl_6 l0 n1) (cl_7 l0 n1))) = false by rw [(show (sm (cl_4 l0 n1) (cl_5 l0 n1) (cl_6 l0 n1) (cl_7 l0 n1) (cl_4 l0 n1) (cl_5 l0 n1) (cl_6 l0 n1) (cl_7 l0 n1)) = true from sm_self (cl_4 l0 n1) (cl_5 l0 n1) (cl_6 l0 n1) (cl_7 l0 n1))]; rfl) ?_
     obtain ⟨pa28, a28⟩ := e16o (cl_7 l0 n1) n2 (cl_3 l0 n1) (cl_4 l0 n1) (cl_5 l0 n1) (cl_6 l0 n1) (up c7)
     erw [a28]
     refine good_t rfl ?_
     obtain ⟨pa29, a29⟩ := e16o (cl_7 l0 n1) (cl_2 l0 n1) (cl_3 l0 n1) (cl_4 l0 n1) (cl_5 l0 n1) (cl_6 l0 n1) (up c7)
     erw [a29]
     refine good_t rfl ?_
     erw [e16n (0 : Int) (0 : Int) (0 : Int) (0 : Int) (0 : Int)]
     refine good_t rfl ?_
     rw [show (n18 == cl_3 l0 n1) = false from beq_eq_false_iff_ne.2 (by omega)]
     rw [show (decide (n18 > (cl_3 l0 n1 : Int))) = true from decide_eq_true (by omega)]
     exact good_leaf (i101 w c7 nil20 k16)
  ·
   refine good_node (fun q31 => ?_) (fun q31 => ?_)
   ·
    replace q31 := qnT q31
    obtain ⟨pa32, a32⟩ := e16o (cl_7 l0 n1) (cl_2 l0 n1) (cl_3 l0 n1) (cl_4 l0 n1) (cl_5 l0 n1) (cl_6 l0 n1) (up c7)
    erw [a32]
    refine good_t rfl ?_
    refine good_node (fun q33 => ?_) (fun q33 => ?_)
    ·
     erw [e16n (0 : Int) (0 : Int) (0 : Int) (0 : Int) (0 : Int)]
     refine good_t rfl ?_
     exact good_leaf (i111 w k8 k12 k16)
    ·
     erw [e31 n5 n6 n7 l8 n9 n10 n11 l12 k8]
     refine good_t rfl ?_
     erw [e32 n5 n6 n7 l8 n9 n10 n11 l12 k8]
     refine good_t rfl ?_
     erw [e30 (ior .u64 n5 n9) (iand .u32 n6 n10) (iand .u32 n7 n11) (mg l8 l12) (ior .u64 n5 n9) (iand .u32 n6 n10) (iand .u32 n7 n11) (mg l8 l12) (mgl k8)]
     refine good_t rfl ?_
     refine good_f (show (!(sm (ior .u64 n5 n9) (iand .u32 n6 n10) (iand .u32 n7 n11) (mg l8 l12) (ior .u64 n5 n9) (iand .u32 n6 n10) (iand .u32 n7 n11) (mg l8 l12))) = false by rw [(show (sm (ior .u64 n5 n9) (iand .u32 n6 n10) (iand .u32 n7 n11) (mg l8 l12) (ior .u64 n5 n9) (iand .u32 n6 n10) (iand .u32 n7 n11) (mg l8 l12)) = true from sm_self (ior .u64 n5 n9) (iand .u32 n6 n10) (iand .u32 n7 n11) (mg l8 l12))]; rfl) ?_
     obtain ⟨pa38, a38⟩ := e16o (mg l8 l12) (0 : Int) (0 : Int) (ior .u64 n5 n9) (iand .u32 n6 n10) (iand .u32 n7 n11) (mgl k8)
     erw [a38]
     refine good_t rfl ?_
     exact good_leaf (i111 w k8 k12 k16)
   ·
    replace q31 := qnF q31
    refine good_node (fun q39 => ?_) (fun q39 => ?_)
    ·
     replace q39 := of_decide_eq_true q39
     obtain ⟨pa40, a40⟩ := e16o (cl_7 l0 n1) (cl_2 l0 n1) (cl_3 l0 n1) (cl_4 l0 n1) (cl_5 l0 n1) (cl_6 l0 n1) (up c7)
     erw [a40]
     refine good_t rfl ?_
     refine good_node (fun q41 => ?_) (fun q41 => ?_)
     ·
      erw [e16n (0 : Int) (0 : Int) (0 : Int) (0 : Int) (0 : Int)]
      refine good_t rfl ?_
      exact good_leaf (i111 w k8 k12 k16)
     ·
      erw [e31 n5 n6 n7 l8 n9 n10 n11 l12 k8]
      refine good_t rfl ?_
      erw [e32 n5 n6 n7 l8 n9 n10 n11 l12 k8]
      refine good_t rfl ?_
      erw [e30 (ior .u64 n5 n9) (iand .u32 n6 n10) (iand .u32 n7 n11) (mg l8 l12) (ior .u64 n5 n9) (iand .u32 n6 n10) (iand .u32 n7 n11) (mg l8 l12) (mgl k8)]
      refine good_t rfl ?_
      refine good_f (show (!(sm (ior .u64 n5 n9) (iand .u32 n6 n10) (iand .u32 n7 n11) (mg l8 l12) (ior .u64 n5 n9) (iand .u32 n6 n10) (iand .u32 n7 n11) (mg l8 l12))) = false by rw [(show (sm (ior .u64 n5 n9) (iand .u32 n6 n10) (iand .u32 n7 n11) (mg l8 l12) (ior .u64 n5 n9) (iand .u32 n6 n10) (iand .u32 n7 n11) (mg l8 l12)) = true from sm_self (ior .u64 n5 n9) (iand .u32 n6 n10) (iand .u32 n7 n11) (mg l8 l12))]; rfl) ?_
      obtain ⟨pa46, a46⟩ := e16o (mg l8 l12) (0 : Int) (0 : Int) (ior .u64 n5 n9) (iand .u32 n6 n10) (iand .u32 n7 n11) (mgl k8)
      erw [a46]
      refine good_t rfl ?_
      exact good_leaf (i111 w k8 k12 k16)
    ·
     replace q39 := of_decide_eq_false q39
     erw [e62 (cl_7 l0 n1) (up c7)]
     refine good_t rfl ?_
     refine good_node (fun q48 => ?_) (fun q48 => ?_)
     ·
      replace q48 := of_decide_eq_true q48
      refine good_node (fun q49 => ?_) (fun q49 => ?_)
      ·
       replace q49 := of_decide_eq_true q49
       obtain ⟨pa50, a50⟩ := e16o (cl_7 l0 n1) (cl_2 l0 n1) (cl_3 l0 n1) (cl_4 l0 n1) (cl_5 l0 n1) (cl_6 l0 n1) (up c7)
       erw [a50]
       refine good_t rfl ?_
       refine good_node (fun q51 => ?_) (fun q51 => ?_)
       ·
        erw [e16n (0 : Int) (0 : Int) (0 : Int) (0 : Int) (0 : Int)]
        refine good_t rfl ?_
        exact good_leaf (i111 w k8 k12 c7)
       ·
        erw [e31 n5 n6 n7 l8 n9 n10 n11 l12 k8]
        refine good_t rfl ?_
        erw [e32 n5 n6 n7 l8 n9 n10 n11 l12 k8]
        refine good_t rfl ?_
        erw [e30 (ior .u64 n5 n9) (iand .u32 n6 n10) (iand .u32 n7 n11) (mg l8 l12) (ior .u64 n5 n9) (iand .u32 n6 n10) (iand .u32 n7 n11) (mg l8 l12) (mgl k8)]
        refine good_t rfl ?_
        refine good_f (show (!(sm (ior .u64 n5 n9) (iand .u32 n6 n10) (iand .u32 n7 n11) (mg l8 l12) (ior .u64 n5 n9) (iand .u32 n6 n10) (iand .u32 n7 n11) (mg l8 l12))) = false by rw [(show (sm (ior .u64 n5 n9) (iand .u32 n6 n10) (iand .u32 n7 n11) (mg l8 l12) (ior .u64 n5 n9) (iand .u32 n6 n10) (iand .u32 n7 n11) (mg l8 l12)) = true from sm_self (ior .u64 n5 n9) (iand .u32 n6 n10) (iand .u32 n7 n11) (mg l8 l12))]; rfl) ?_
        obtain ⟨pa56, a56⟩ := e16o (mg l8 l12) (0 : Int) (0 : Int) (ior .u64 n5 n9) (iand .u32 n6 n10) (iand .u32 n7 n11) (mgl k8)
        erw [a56]
        refine good_t rfl ?_
        exact good_leaf (i111 w k8 k12 c7)
      ·
       replace q49 := of_decide_eq_false q49
       refine good_node (fun q57 => ?_) (fun q57 => ?_)
       ·
        replace q57 := qeT q57
        erw [e29 n13 n14 n15 l16 (cl_4 l0 n1) (cl_5 l0 n1) (cl_6 l0 n1) (cl_7 l0 n1) (up k16)]
        refine good_t rfl ?_
        refine good_node (fun q59 => ?_) (fun q59 => ?_)
        ·
         replace q59 : (sm n13 n14 n15 l16 (cl_4 l0 n1) (cl_5 l0 n1) (cl_6 l0 n1) (cl_7 l0 n1)) = true := q59
         erw [e30 (cl_4 l0 n1) (cl_5 l0 n1) (cl_6 l0 n1) (cl_7 l0 n1) n13 n14 n15 l16 (up c7)]
         refine good_t rfl ?_
         refine good_t (show (sm (cl_4 l0 n1) (cl_5 l0 n1) (cl_6 l0 n1) (cl_7 l0 n1) n13 n14 n15 l16) = true from (sm_symm (cl_4 l0 n1) (cl_5 l0 n1) (cl_6 l0 n1) (cl_7 l0 n1) n13 n14 n15 l16).trans q59) ?_
         obtain ⟨pa61, a61⟩ := e16o (cl_7 l0 n1) (cl_2 l0 n1) (cl_3 l0 n1) (cl_4 l0 n1) (cl_5 l0 n1) (cl_6 l0 n1) (up c7)
         erw [a61]
         refine good_t rfl ?_
         refine good_node (fun q62 => ?_) (fun q62 => ?_)
         ·
          erw [e16n (0 : Int) (0 : Int) (0 : Int) (0 : Int) (0 : Int)]
          refine good_t rfl ?_
          exact good_leaf (i111 w k8 k12 k16)
         ·
          erw [e31 n5 n6 n7 l8 n9 n10 n11 l12 k8]
          refine good_t rfl ?_
          erw [e32 n5 n6 n7 l8 n9 n10 n11 l12 k8]
          refine good_t rfl ?_
          erw [e30 (ior .u64 n5 n9) (iand .u32 n6 n10) (iand .u32 n7 n11) (mg l8 l12) (ior .u64 n5 n9) (iand .u32 n6 n10) (iand .u32 n7 n11) (mg l8 l12) (mgl k8)]
          refine good_t rfl ?_
          refine good_f (show (!(sm (ior .u64 n5 n9) (iand .u32 n6 n10) (iand .u32 n7 n11) (mg l8 l12) (ior .u64 n5 n9) (iand .u32 n6 n10) (iand .u32 n7 n11) (mg l8 l12))) = false by rw [(show (sm (ior .u64 n5 n9) (iand .u32 n6 n10) (iand .u32 n7 n11) (mg l8 l12) (ior .u64 n5 n9) (iand .u32 n6 n10) (iand .u32 n7 n11) (mg l8 l12)) = true from sm_self (ior .u64 n5 n9) (iand .u32 n6 n10) (iand .u32 n7 n11) (mg l8 l12))]; rfl) ?_
          obtain ⟨pa67, a67⟩ := e16o (mg l8 l12) (0 : Int) (0 : Int) (ior .u64 n5 n9) (iand .u32 n6 n10) (iand .u32 n7 n11) (mgl k8)
          erw [a67]
          refine good_t rfl ?_
          exact good_leaf (i111 w k8 k12 k16)
        ·
         replace q59 : (sm n13 n14 n15 l16 (cl_4 l0 n1) (cl_5 l0 n1) (cl_6 l0 n1) (cl_7 l0 n1)) = false := q59
         erw [e30 (cl_4 l0 n1) (cl_5 l0 n1) (cl_6 l0 n1) (cl_7 l0 n1) n13 n14 n15 l16 (up c7)]
         refine good_t rfl ?_
         refine good_f (show (sm (cl_4 l0 n1) (cl_5 l0 n1) (cl_6 l0 n1) (cl_7 l0 n1) n13 n14 n15 l16) = false from (sm_symm (cl_4 l0 n1) (cl_5 l0 n1) (cl_6 l0 n1) (cl_7 l0 n1) n13 n14 n15 l16).trans q59) ?_
         obtain ⟨pa69, a69⟩ := e16o (cl_7 l0 n1) (cl_2 l0 n1) (cl_3 l0 n1) (cl_4 l0 n1) (cl_5 l0 n1) (cl_6 l0 n1) (up c7)
         erw [a69]
         refine good_t rfl ?_
         refine good_node (fun q70 => ?_) (fun q70 => ?_)
         ·
          erw [e16n (0 : Int) (0 : Int) (0 : Int) (0 : Int) (0 : Int)]
          refine good_t rfl ?_
          exact good_leaf (i111 w k8 k12 k16)
         ·
          erw [e31 n5 n6 n7 l8 n9 n10 n11 l12 k8]
          refine good_t rfl ?_
          erw [e32 n5 n6 n7 l8 n9 n10 n11 l12 k8]
          refine good_t rfl ?_
          erw [e30 (ior .u64 n5 n9) (iand .u32 n6 n10) (iand .u32 n7 n11) (mg l8 l12) (ior .u64 n5 n9) (iand .u32 n6 n10) (iand .u32 n7 n11) (mg l8 l12) (mgl k8)]
          refine good_t rfl ?_
          refine good_f (show (!(sm (ior .u64 n5 n9) (iand .u32 n6 n10) (iand .u32 n7 n11) (mg l8 l12) (ior .u64 n5 n9) (iand .u32 n6 n10) (iand .u32 n7 n11) (mg l8 l12))) = false by rw [(show (sm (ior .u64 n5 n9) (iand .u32 n6 n10) (iand .u32 n7 n11) (mg l8 l12) (ior .u64 n5 n9) (iand .u32 n6 n10) (iand .u32 n7 n11) (mg l8 l12)) = true from sm_self (ior .u64 n5 n9) (iand .u32 n6 n10) (iand .u32 n7 n11) (mg l8 l12))]; rfl) ?_
          obtain ⟨pa75, a75⟩ := e16o (mg l8 l12) (0 : Int) (0 : Int) (ior .u64 n5 n9) (iand .u32 n6 n10) (iand .u32 n7 n11) (mgl k8)
          erw [a75]
          refine good_t rfl ?_
          exact good_leaf (i111 w k8 k12 k16)
       ·
        replace q57 := qeF q57
        obtain ⟨pa76, a76⟩ := e16o (cl_7 l0 n1) (cl_2 l0 n1) (cl_3 l0 n1) (cl_4 l0 n1) (cl_5 l0 n1) (cl_6 l0 n1) (up c7)
        erw [a76]
        refine good_t rfl ?_
        refine good_node (fun q77 => ?_) (fun q77 => ?_)
        ·
         erw [e16n (0 : Int) (0 : Int) (0 : Int) (0 : Int) (0 : Int)]
         refine good_t rfl ?_
         exact good_leaf (i111 w k8 k12 k16)
        ·
         erw [e31 n5 n6 n7 l8 n9 n10 n11 l12 k8]
         refine good_t rfl ?_
         erw [e32 n5 n6 n7 l8 n9 n10 n11 l12 k8]
         refine good_t rfl ?_
         erw [e30 (ior .u64 n5 n9) (iand .u32 n6 n10) (iand .u32 n7 n11) (mg l8 l12) (ior .u64 n5 n9) (iand .u32 n6 n10) (iand .u32 n7 n11) (mg l8 l12) (mgl k8)]
         refine good_t rfl ?_
         refine good_f (show (!(sm (ior .u64 n5 n9) (iand .u32 n6 n10) (iand .u32 n7 n11) (mg l8 l12) (ior .u64 n5 n9) (iand .u32 n6 n10) (iand .u32 n7 n11) (mg l8 l12))) = false by rw [(show (sm (ior .u64 n5 n9) (iand .u32 n6 n10) (iand .u32 n7 n11) (mg l8 l12) (ior .u64 n5 n9) (iand .u32 n6 n10) (iand .u32 n7 n11) (mg l8 l12)) = true from sm_self (ior .u64 n5 n9) (iand .u32 n6 n10) (iand .u32 n7 n11) (mg l8 l12))]; rfl) ?_
         obtain ⟨pa82, a82⟩ := e16o (mg l8 l12) (0 : Int) (0 : Int) (ior .u64 n5 n9) (iand .u32 n6 n10) (iand .u32 n7 n11) (mgl k8)
         erw [a82]
         refine good_t rfl ?_
         exact good_leaf (i111 w k8 k12 k16)
     ·
      replace q48 := of_decide_eq_false q48
      erw [e29 n9 n10 n11 l12 (cl_4 l0 n1) (cl_5 l0 n1) (cl_6 l0 n1) (cl_7 l0 n1) (up k12)]
      refine good_t rfl ?_
      refine good_node (fun q84 => ?_) (fun q84 => ?_)
      ·
       replace q84 : (sm n9 n10 n11 l12 (cl_4 l0 n1) (cl_5 l0 n1) (cl_6 l0 n1) (cl_7 l0 n1)) = true := q84
       erw [e30 (cl_4 l0 n1) (cl_5 l0 n1) (cl_6 l0 n1) (cl_7 l0 n1) n9 n10 n11 l12 (up c7)]
       refine good_t rfl ?_
       refine good_t (show (sm (cl_4 l0 n1) (cl_5 l0 n1) (cl_6 l0 n1) (cl_7 l0 n1) n9 n10 n11 l12) = true from (sm_symm (cl_4 l0 n1) (cl_5 l0 n1) (cl_6 l0 n1) (cl_7 l0 n1) n9 n10 n11 l12).trans q84) ?_
       obtain ⟨pa86, a86⟩ := e16o (cl_7 l0 n1) (cl_2 l0 n1) (cl_3 l0 n1) (cl_4 l0 n1) (cl_5 l0 n1) (cl_6 l0 n1) (up c7)
       erw [a86]
       refine good_t rfl ?_
       refine good_node (fun q87 => ?_) (fun q87 => ?_)
       ·
        erw [e16n (0 : Int) (0 : Int) (0 : Int) (0 : Int) (0 : Int)]
        refine good_t rfl ?_
        exact good_leaf (i111 w k8 k12 k16)
       ·
        erw [e31 n5 n6 n7 l8 n9 n10 n11 l12 k8]
        refine good_t rfl ?_
        erw [e32 n5 n6 n7 l8 n9 n10 n11 l12 k8]
        refine good_t rfl ?_
        erw [e30 (ior .u64 n5 n9) (iand .u32 n6 n10) (iand .u32 n7 n11) (mg l8 l12) (ior .u64 n5 n9) (iand .u32 n6 n10) (iand .u32 n7 n11) (mg l8 l12) (mgl k8)]
        refine good_t rfl ?_
        refine good_f (show (!(sm (ior .u64 n5 n9) (iand .u32 n6 n10) (iand .u32 n7 n11) (mg l8 l12) (ior .u64 n5 n9) (iand .u32 n6 n10) (iand .u32 n7 n11) (mg l8 l12))) = false by rw [(show (sm (ior .u64 n5 n9) (iand .u32 n6 n10) (iand .u32 n7 n11) (mg l8 l12) (ior .u64 n5 n9) (iand .u32 n6 n10) (iand .u32 n7 n11) (mg l8 l12)) = true from sm_self (ior .u64 n5 n9) (iand .u32 n6 n10) (iand .u32 n7 n11) (mg l8 l12))]; rfl) ?_
        obtain ⟨pa92, a92⟩ := e16o (mg l8 l12) (0 : Int) (0 : Int) (ior .u64 n5 n9) (iand .u32 n6 n10) (iand .u32 n7 n11) (mgl k8)
        erw [a92]
        refine good_t rfl ?_
        exact good_leaf (i111 w k8 k12 k16)
      ·
       replace q84 : (sm n9 n10 n11 l12 (cl_4 l0 n1) (cl_5 l0 n1) (cl_6 l0 n1) (cl_7 l0 n1)) = false := q84
       erw [e30 (cl_4 l0 n1) (cl_5 l0 n1) (cl_6 l0 n1) (cl_7 l0 n1) n9 n10 n11 l12 (up c7)]
       refine good_t rfl ?_
       refine good_f (show (sm (cl_4 l0 n1) (cl_5 l0 n1) (cl_6 l0 n1) (cl_7 l0 n1) n9 n10 n11 l12) = false from (sm_symm (cl_4 l0 n1) (cl_5 l0 n1) (cl_6 l0 n1) (cl_7 l0 n1) n9 n10 n11 l12).trans q84) ?_
       obtain ⟨pa94, a94⟩ := e16o (cl_7 l0 n1) (cl_2 l0 n1) (cl_3 l0 n1) (cl_4 l0 n1) (cl_5 l0 n1) (cl_6 l0 n1) (up c7)
       erw [a94]
       refine good_t rfl ?_
       erw [e16n (0 : Int) (0 : Int) (0 : Int) (0 : Int) (0 : Int)]
       refine good_t rfl ?_
       exact good_leaf (i111 w k8 k12 k16)
theorem atP {l0 : LR} {n1 : Int} {env : List Dat} (h : InvP l0 n1 env) : gn env 2 = n1 := by
  rcases h with ⟨n2, n3, b4, n5, n6, n7, l8, n9, n10, n11, l12, n13, n14, n15, l16, n17, n18, rfl, k8, k12, k16⟩ | ⟨n2, n3, b4, n5, n6, n7, l8, n9, n10, n11, l12, n13, n14, n15, l16, n17, n18, rfl, k8, k12, k16⟩ | ⟨n2, n3, b4, n5, n6, n7, l8, n9, n10, n11, l12, n13, n14, n15, l16, n17, n18, n19, rfl, k8, k12, k16⟩ | ⟨n2, n3, b4, n5, n6, n7, l8, n9, n10, n11, l12, n13, n14, n15, l16, n17, n18, n19, rfl, k8, k12, k16⟩ | ⟨n2, n3, b4, n5, n6, n7, l8, n9, n10, n11, l12, n13, n14, n15, l16, n17, n18, n19, n20, rfl, k8, k12, k16⟩ | ⟨n2, n3, b4, n5, n6, n7, l8, n9, n10, n11, l12, n13, n14, n15, l16, n17, n18, n19, n20, rfl, k8, k12, k16⟩ | ⟨n2, n3, b4, n5, n6, n7, l8, n9, n10, n11, l12, n13, n14, n15, l16, n17, n18, n19, n20, n21, rfl, k8, k12, k16⟩ | ⟨n2, n3, b4, n5, n6, n7, l8, n9, n10, n11, l12, n13, n14, n15, l16, n17, n18, n19, n20, n21, rfl, k8, k12, k16⟩ <;> rfl
def InvL (l0 : LR) (env : List Dat) : Prop := ∃ i : Int, 0 ≤ i ∧ i ≤ l0.length ∧ InvP l0 i env
theorem keyP {l0 : LR} (hl : l0.length ≤ 60) (hc : ∀ i : Int, 0 ≤ i → i < (l0.length : Int) → (cl_7 l0 i).length ≤ 20) (env : List Dat) (h : InvL l0 env) : Good (fun y => match y with | .go e => InvL l0 e ∧ ((l0.length : Int) - gn e 2).toNat < ((l0.length : Int) - gn env 2).toNat | .stop k d => (k, d) = (0, [])) (st_L3_10 env).sel := by
  obtain ⟨i, h0, h1, hI⟩ := h
  rw [atP hI]
  by_cases hlt : i < l0.length
  · have fin : Good (StepP l0 i) (st_L3_10 env).sel := by
      rcases hI with ⟨n2, n3, b4, n5, n6, n7, l8, n9, n10, n11, l12, n13, n14, n15, l16, n17, n18, rfl, k8, k12, k16⟩ | ⟨n2, n3, b4, n5, n6, n7, l8, n9, n10, n11, l12, n13, n14, n15, l16, n17, n18, rfl, k8, k12, k16⟩ | ⟨n2, n3, b4, n5, n6, n7, l8, n9, n10, n11, l12, n13, n14, n15, l16, n17, n18, n19, rfl, k8, k12, k16⟩ | ⟨n2, n3, b4, n5, n6, n7, l8, n9, n10, n11, l12, n13, n14, n15, l16, n17, n18, n19, rfl, k8, k12, k16⟩ | ⟨n2, n3, b4, n5, n6, n7, l8, n9, n10, n11, l12, n13, n14, n15, l16, n17, n18, n19, n20, rfl, k8, k12, k16⟩ | ⟨n2, n3, b4, n5, n6, n7, l8, n9, n10, n11, l12, n13, n14, n15, l16, n17, n18, n19, n20, rfl, k8, k12, k16⟩ | ⟨n2, n3, b4, n5, n6, n7, l8, n9, n10, n11, l12, n13, n14, n15, l16, n17, n18, n19, n20, n21, rfl, k8, k12, k16⟩ | ⟨n2, n3, b4, n5, n6, n7, l8, n9, n10, n11, l12, n13, n14, n15, l16, n17, n18, n19, n20, n21, rfl, k8, k12, k16⟩
      · exact step000 h0 hlt hl (hc i h0 hlt) n2 n3 b4 n5 n6 n7 l8 n9 n10 n11 l12 n13 n14 n15 l16 n17 n18 k8 k12 k16
      · exact step001 h0 hlt hl (hc i h0 hlt) n2 n3 b4 n5 n6 n7 l8 n9 n10 n11 l12 n13 n14 n15 l16 n17 n18 k8 k12 k16
      · exact step010 h0 hlt hl (hc i h0 hlt) n2 n3 b4 n5 n6 n7 l8 n9 n10 n11 l12 n13 n14 n15 l16 n17 n18 n19 k8 k12 k16
      · exact step011 h0 hlt hl (hc i h0 hlt) n2 n3 b4 n5 n6 n7 l8 n9 n10 n11 l12 n13 n14 n15 l16 n17 n18 n19 k8 k12 k16
      · exact step100 h0 hlt hl (hc i h0 hlt) n2 n3 b4 n5 n6 n7 l8 n9 n10 n11 l12 n13 n14 n15 l16 n17 n18 n19 n20 k8 k12 k16
      · exact step101 h0 hlt hl (hc i h0 hlt) n2 n3 b4 n5 n6 n7 l8 n9 n10 n11 l12 n13 n14 n15 l16 n17 n18 n19 n20 k8 k12 k16
      · exact step110 h0 hlt hl (hc i h0 hlt) n2 n3 b4 n5 n6 n7 l8 n9 n10 n11 l12 n13 n14 n15 l16 n17 n18 n19 n20 n21 k8 k12 k16
      · exact step111 h0 hlt hl (hc i h0 hlt) n2 n3 b4 n5 n6 n7 l8 n9 n10 n11 l12 n13 n14 n15 l16 n17 n18 n19 n20 n21 k8 k12 k16
    obtain ⟨y, e, hy⟩ := fin
    refine ⟨y, e, ?_⟩
    cases y with
    | stop k d => exact hy.elim
    | go e' =>
      have hy : InvP l0 (i + 1) e' := hy
      refine ⟨⟨i + 1, by omega, by omega, hy⟩, ?_⟩
      show ((l0.length : Int) - gn e' 2).toNat < _
      rw [atP hy]; omega
  · have hd : i = (l0.length : Int) := by omega
    rcases hI with ⟨n2, n3, b4, n5, n6, n7, l8, n9, n10, n11, l12, n13, n14, n15, l16, n17, n18, rfl, k8, k12, k16⟩ | ⟨n2, n3, b4, n5, n6, n7, l8, n9, n10, n11, l12, n13, n14, n15, l16, n17, n18, rfl, k8, k12, k16⟩ | ⟨n2, n3, b4, n5, n6, n7, l8, n9, n10, n11, l12, n13, n14, n15, l16, n17, n18, n19, rfl, k8, k12, k16⟩ | ⟨n2, n3, b4, n5, n6, n7, l8, n9, n10, n11, l12, n13, n14, n15, l16, n17, n18, n19, rfl, k8, k12, k16⟩ | ⟨n2, n3, b4, n5, n6, n7, l8, n9, n10, n11, l12, n13, n14, n15, l16, n17, n18, n19, n20, rfl, k8, k12, k16⟩ | ⟨n2, n3, b4, n5, n6, n7, l8, n9, n10, n11, l12, n13, n14, n15, l16, n17, n18, n19, n20, rfl, k8, k12, k16⟩ | ⟨n2, n3, b4, n5, n6, n7, l8, n9, n10, n11, l12, n13, n14, n15, l16, n17, n18, n19, n20, n21, rfl, k8, k12, k16⟩ | ⟨n2, n3, b4, n5, n6, n7, l8, n9, n10, n11, l12, n13, n14, n15, l16, n17, n18, n19, n20, n21, rfl, k8, k12, k16⟩
    · exact Imp.good (fn_L3_10_x000_im l0 i n2 n3 b4 n5 n6 n7 l8 n9 n10 n11 l12 n13 n14 n15 l16 n17 n18 hd) (good_leaf rfl)
    · exact Imp.good (fn_L3_10_x001_im l0 i n2 n3 b4 n5 n6 n7 l8 n9 n10 n11 l12 n13 n14 n15 l16 n17 n18 hd) (good_leaf rfl)
    · exact Imp.good (fn_L3_10_x010_im l0 i n2 n3 b4 n5 n6 n7 l8 n9 n10 n11 l12 n13 n14 n15 l16 n17 n18 n19 hd) (good_leaf rfl)
    · exact Imp.good (fn_L3_10_x011_im l0 i n2 n3 b4 n5 n6 n7 l8 n9 n10 n11 l12 n13 n14 n15 l16 n17 n18 n19 hd) (good_leaf rfl)
    · exact Imp.good (fn_L3_10_x100_im l0 i n2 n3 b4 n5 n6 n7 l8 n9 n10 n11 l12 n13 n14 n15 l16 n17 n18 n19 n20 hd) (good_leaf rfl)
    · exact Imp.good (fn_L3_10_x101_im l0 i n2 n3 b4 n5 n6 n7 l8 n9 n10 n11 l12 n13 n14 n15 l16 n17 n18 n19 n20 hd) (good_leaf rfl)
    · exact Imp.good (fn_L3_10_x110_im l0 i n2 n3 b4 n5 n6 n7 l8 n9 n10 n11 l12 n13 n14 n15 l16 n17 n18 n19 n20 n21 hd) (good_leaf rfl)
    · exact Imp.good (fn_L3_10_x111_im l0 i n2 n3 b4 n5 n6 n7 l8 n9 n10 n11 l12 n13 n14 n15 l16 n17 n18 n19 n20 n21 hd) (good_leaf rfl)
theorem runP {l0 : LR} (n0 : Int) (hl : l0.length ≤ 60) (hc : ∀ i : Int, 0 ≤ i → i < (l0.length : Int) → (cl_7 l0 i).length ≤ 20) : op_L3_10 (e000 l0 0 n0 0 false 0 0 0 [] 0 0 0 [] 0 0 0 [] 0 0) = some (0, []) := by
  obtain ⟨y, e, hy⟩ := op_L3_10_good (p := fun y => y = (0, [])) (InvL l0) (fun env => ((l0.length : Int) - gn env 2).toNat) (keyP hl hc) (e000 l0 0 n0 0 false 0 0 0 [] 0 0 0 [] 0 0 0 [] 0 0) ⟨0, by omega, by omega, .inl ⟨_, _, _, _, _, _, _, _, _, _, _, _, _, _, _, _, _, rfl, Nat.zero_le _, Nat.zero_le _, Nat.zero_le _⟩⟩ (by show ((l0.length : Int) - 0).toNat < FU; unfold FU; omega)
  rw [e, hy]
theorem t3 (n0 : Int) (l0 : LR) : (ev_W3 [.n n0, .l TCall l0]).sel = some true := by
  obtain ⟨y, e, hy⟩ : Good (fun y => y = true) (ev_W3 [.n n0, .l TCall l0]).sel := by
    refine (fn_W3_t_im n0 l0).good ?_
    unfold fn_W3_t
    obtain ⟨r, e7, k7⟩ := e7 l0
    refine good_t (by erw [e7]; rfl) ?_
    cases r with
    | false => exact good_t (by erw [e7]; rfl) (good_leaf rfl)
    | true =>
      obtain ⟨hl, hc⟩ := k7 rfl
      have e3 := runP n0 hl hc
      refine good_f (by erw [e7]; rfl) (good_node (fun _ => good_leaf rfl) fun q0 => good_node (fun _ => good_leaf rfl) fun q1 => ?_)
      replace q0 := of_decide_eq_false q0
      replace q1 := of_decide_eq_false q1
      refine good_node (fun q2 => ?_) (fun _ => good_t (by erw [e3]; rfl) (good_leaf rfl))
      refine good_node (fun q3 => ?_) (fun _ => good_t (by erw [e3]; rfl) (good_leaf rfl))
      exfalso
      replace q2 := qnT q2
      replace q3 := qnT q3
      omega
  rw [e, hy]
end Go.Proofs.Ytcoamiaifbjofaa.Vx
namespace Go.Proofs.Ytcoamiaifbjofaa.Vx
open Go Go.RowKit
set_option maxRecDepth 100000
set_option linter.unusedVariables false
theorem t5 (n0 n1 n2 n3 n4 n5 : Int) (l6 : List (Ty.den TCmd)) : (ev_W5 [.n n0, .n n1, .n n2, .n n3, .n n4, .n n5, .l TCmd l6]).sel = some true := by
  refine fn_W5_t_im _ _ _ _ _ _ _ _ ?_
  unfold fn_W5_t
  by_cases h0 : n0 = 0
  · exact sel_t (bt h0) rfl
  refine sel_f (bf h0) ?_
  by_cases h1 : n0 < 0
  · exact sel_t (dt h1) (sel_t (by rw [bf (show n0 ≠ 1 by omega)]; rfl) rfl)
  refine sel_f (df h1) ?_
  by_cases h2 : n0 > 1
  · exact sel_t (dt h2) (sel_t (by rw [bf (show n0 ≠ 1 by omega)]; rfl) rfl)
  exact sel_f (df h2) (sel_t (by rw [bt (show n0 = 1 by omega)]; rfl) rfl)
end Go.Proofs.Ytcoamiaifbjofaa.Vx
namespace Go.Proofs.Ytcoamiaifbjofaa.Vx
open Go Go.RowKit
set_option linter.unusedVariables false
set_option maxRecDepth 100000
set_option maxHeartbeats 0
theorem g20_0 : (st_L4_8 [.k 0, .l TWay ways, .n 0, .l TRd [], .l TIn z60, .l .bool f60, .n 0, .n 0, .b false, .n 1, .n 0, .b false]).sel = some (.go [.k 1, .l TWay ways, .n (1 : Int), .l TRd [((0 : Int), (1 : Int), (1 : Int), (0 : Int), (0 : Int), (c12))], .l TIn z60, .l Ty.bool f60, .n (0 : Int), .n (1 : Int), .b false, .n (1 : Int), .n (0 : Int), .b false, .n (0 : Int), .n (1 : Int), .n (1 : Int), .n (0 : Int), .n (0 : Int), .l TCmd (c12)]) := fn_L4_8_t0_im _ (by kernel_rfl)
theorem g20_1 : (st_L4_8 [.k 1, .l TWay ways, .n (1 : Int), .l TRd [((0 : Int), (1 : Int), (1 : Int), (0 : Int), (0 : Int), (c12))], .l TIn z60, .l Ty.bool f60, .n (0 : Int), .n (1 : Int), .b false, .n (1 : Int), .n (0 : Int), .b false, .n (0 : Int), .n (1 : Int), .n (1 : Int), .n (0 : Int), .n (0 : Int), .l TCmd (c12)]).sel = some (.go [.k 2, .l TWay ways, .n (2 : Int), .l TRd [((0 : Int), (1 : Int), (1 : Int), (0 : Int), (0 : Int), c12), ((1 : Int), (1 : Int), (2 : Int), (3 : Int), (0 : Int), (c12))], .l TIn z60, .l Ty.bool f60, .n (0 : Int), .n (1 : Int), .b false, .n (1 : Int), .n (1 : Int), .b false, .n (0 : Int), .n (1 : Int), .n (1 : Int), .n (0 : Int), .n (0 : Int), .n (1 : Int), .n (1 : Int), .n (2 : Int), .n (3 : Int), .n (0 : Int), .l TCmd c12, .l TCmd (c12)]) := fn_L4_8_t1_im _ (by kernel_rfl)
theorem g20_2 : (st_L4_8 [.k 2, .l TWay ways, .n (2 : Int), .l TRd [((0 : Int), (1 : Int), (1 : Int), (0 : Int), (0 : Int), c12), ((1 : Int), (1 : Int), (2 : Int), (3 : Int), (0 : Int), (c12))], .l TIn z60, .l Ty.bool f60, .n (0 : Int), .n (1 : Int), .b false, .n (1 : Int), .n (1 : Int), .b false, .n (0 : Int), .n (1 : Int), .n (1 : Int), .n (0 : Int), .n (0 : Int), .n (1 : Int), .n (1 : Int), .n (2 : Int), .n (3 : Int), .n (0 : Int), .l TCmd c12, .l TCmd (c12)]).sel = some (.go [.k 3, .l TWay ways, .n (3 : Int), .l TRd [((0 : Int), (1 : Int), (1 : Int), (0 : Int), (0 : Int), c12), ((1 : Int), (1 : Int), (2 : Int), (3 : Int), (0 : Int), c12)], .l TIn (List.set z60 1 ((3 : Int), (0 : Int), (0 : Int), c12)), .l Ty.bool (List.set f60 1 true), .n (0 : Int), .n (1 : Int), .b false, .n (1 : Int), .n (1 : Int), .b false, .n (0 : Int), .n (1 : Int), .n (1 : Int), .n (0 : Int), .n (0 : Int), .n (1 : Int), .n (1 : Int), .n (2 : Int), .n (3 : Int), .n (0 : Int), .n (1 : Int), .n (1 : Int), .n (2 : Int), .n (3 : Int), .n (0 : Int), .l TCmd c12, .l TCmd (c12), .l TCmd c12]) := fn_L4_8_t2_im _ (by kernel_rfl)
theorem g20_3 : (st_L4_8 [.k 3, .l TWay ways, .n (3 : Int), .l TRd [((0 : Int), (1 : Int), (1 : Int), (0 : Int), (0 : Int), c12), ((1 : Int), (1 : Int), (2 : Int), (3 : Int), (0 : Int), c12)], .l TIn (List.set z60 1 ((3 : Int), (0 : Int), (0 : Int), c12)), .l Ty.bool (List.set f60 1 true), .n (0 : Int), .n (1 : Int), .b false, .n (1 : Int), .n (1 : Int), .b false, .n (0 : Int), .n (1 : Int), .n (1 : Int), .n (0 : Int), .n (0 : Int), .n (1 : Int), .n (1 : Int), .n (2 : Int), .n (3 : Int), .n (0 : Int), .n (1 : Int), .n (1 : Int), .n (2 : Int), .n (3 : Int), .n (0 : Int), .l TCmd c12, .l TCmd (c12), .l TCmd c12]).sel = some (.go (.k 4 :: .l TWay ways :: .n (4 : Int) :: .l TRd [((0 : Int), (1 : Int), (1 : Int), (0 : Int), (0 : Int), c12), ((1 : Int), (1 : Int), (2 : Int), (3 : Int), (0 : Int), c12)] :: .l TIn (List.set (List.set z60 1 ((3 : Int), (0 : Int), (0 : Int), c12)) 31 ((3 : Int), (0 : Int), (0 : Int), c12)) :: .l Ty.bool (List.set (List.set f60 1 true) 31 true) :: .n (0 : Int) :: .n (1 : Int) :: .b false :: .n (1 : Int) :: .n (1 : Int) :: .b false :: .n (0 : Int) :: .n (1 : Int) :: .n (1 : Int) :: .n (0 : Int) :: .n (0 : Int) :: .n (1 : Int) :: .n (1 : Int) :: .n (2 : Int) :: .n (3 : Int) :: .n (0 : Int) :: .n (1 : Int) :: .n (1 : Int) :: .n (2 : Int) :: .n (3 : Int) :: .n (0 : Int) :: .n (0 : Int) :: .n (1 : Int) :: .n (1 : Int) :: .n (0 : Int) :: .n (0 : Int) :: .l TCmd c12 :: .l TCmd c12 :: .l TCmd c12 :: .l TCmd (c12) :: [])) := fn_L4_8_t3_im _ (by kernel_rfl)
theorem g20_4 : (st_L4_8 (.k 4 :: .l TWay ways :: .n (4 : Int) :: .l TRd [((0 : Int), (1 : Int), (1 : Int), (0 : Int), (0 : Int), c12), ((1 : Int), (1 : Int), (2 : Int), (3 : Int), (0 : Int), c12)] :: .l TIn (List.set (List.set z60 1 ((3 : Int), (0 : Int), (0 : Int), c12)) 31 ((3 : Int), (0 : Int), (0 : Int), c12)) :: .l Ty.bool (List.set (List.set f60 1 true) 31 true) :: .n (0 : Int) :: .n (1 : Int) :: .b false :: .n (1 : Int) :: .n (1 : Int) :: .b false :: .n (0 : Int) :: .n (1 : Int) :: .n (1 : Int) :: .n (0 : Int) :: .n (0 : Int) :: .n (1 : Int) :: .n (1 : Int) :: .n (2 : Int) :: .n (3 : Int) :: .n (0 : Int) :: .n (1 : Int) :: .n (1 : Int) :: .n (2 : Int) :: .n (3 : Int) :: .n (0 : Int) :: .n (0 : Int) :: .n (1 : Int) :: .n (1 : Int) :: .n (0 : Int) :: .n (0 : Int) :: .l TCmd c12 :: .l TCmd c12 :: .l TCmd c12 :: .l TCmd (c12) :: [])).sel = some (.go (.k 4 :: .l TWay ways :: .n (5 : Int) :: .l TRd [((0 : Int), (1 : Int), (1 : Int), (0 : Int), (0 : Int), c12), ((1 : Int), (1 : Int), (2 : Int), (3 : Int), (0 : Int), c12)] :: .l TIn (List.set (List.set (List.set z60 1 ((3 : Int), (0 : Int), (0 : Int), c12)) 31 ((3 : Int), (0 : Int), (0 : Int), c12)) 1 ((3 : Int), (0 : Int), (0 : Int), c12)) :: .l Ty.bool (List.set (List.set (List.set f60 1 true) 31 true) 1 true) :: .n (0 : Int) :: .n (1 : Int) :: .b false :: .n (1 : Int) :: .n (1 : Int) :: .b false :: .n (0 : Int) :: .n (1 : Int) :: .n (1 : Int) :: .n (0 : Int) :: .n (0 : Int) :: .n (1 : Int) :: .n (1 : Int) :: .n (2 : Int) :: .n (3 : Int) :: .n (0 : Int) :: .n (1 : Int) :: .n (1 : Int) :: .n (2 : Int) :: .n (3 : Int) :: .n (0 : Int) :: .n (0 : Int) :: .n (1 : Int) :: .n (1 : Int) :: .n (0 : Int) :: .n (0 : Int) :: .l TCmd c12 :: .l TCmd c12 :: .l TCmd c12 :: .l TCmd c12 :: [])) := fn_L4_8_t4_im _ (by kernel_rfl)
theorem g20_5 : (st_L4_8 (.k 4 :: .l TWay ways :: .n (5 : Int) :: .l TRd [((0 : Int), (1 : Int), (1 : Int), (0 : Int), (0 : Int), c12), ((1 : Int), (1 : Int), (2 : Int), (3 : Int), (0 : Int), c12)] :: .l TIn (List.set (List.set (List.set z60 1 ((3 : Int), (0 : Int), (0 : Int), c12)) 31 ((3 : Int), (0 : Int), (0 : Int), c12)) 1 ((3 : Int), (0 : Int), (0 : Int), c12)) :: .l Ty.bool (List.set (List.set (List.set f60 1 true) 31 true) 1 true) :: .n (0 : Int) :: .n (1 : Int) :: .b false :: .n (1 : Int) :: .n (1 : Int) :: .b false :: .n (0 : Int) :: .n (1 : Int) :: .n (1 : Int) :: .n (0 : Int) :: .n (0 : Int) :: .n (1 : Int) :: .n (1 : Int) :: .n (2 : Int) :: .n (3 : Int) :: .n (0 : Int) :: .n (1 : Int) :: .n (1 : Int) :: .n (2 : Int) :: .n (3 : Int) :: .n (0 : Int) :: .n (0 : Int) :: .n (1 : Int) :: .n (1 : Int) :: .n (0 : Int) :: .n (0 : Int) :: .l TCmd c12 :: .l TCmd c12 :: .l TCmd c12 :: .l TCmd c12 :: [])).sel = some (.go [.k 3, .l TWay ways, .n (6 : Int), .l TRd [((0 : Int), (1 : Int), (1 : Int), (0 : Int), (0 : Int), c12), ((1 : Int), (1 : Int), (2 : Int), (3 : Int), (0 : Int), c12), ((1 : Int), (2 : Int), (0 : Int), (0 : Int), (0 : Int), ([]))], .l TIn (List.set (List.set (List.set z60 1 ((3 : Int), (0 : Int), (0 : Int), c12)) 31 ((3 : Int), (0 : Int), (0 : Int), c12)) 1 ((3 : Int), (0 : Int), (0 : Int), c12)), .l Ty.bool (List.set (List.set (List.set f60 1 true) 31 true) 1 true), .n (0 : Int), .n (1 : Int), .b false, .n (1 : Int), .n (2 : Int), .b false, .n (0 : Int), .n (1 : Int), .n (1 : Int), .n (0 : Int), .n (0 : Int), .n (1 : Int), .n (1 : Int), .n (2 : Int), .n (3 : Int), .n (0 : Int), .n (1 : Int), .n (2 : Int), .n (0 : Int), .n (0 : Int), .n (0 : Int), .l TCmd c12, .l TCmd c12, .l TCmd ([])]) := fn_L4_8_t5_im _ (by kernel_rfl)
theorem g20_6 : (st_L4_8 [.k 3, .l TWay ways, .n (6 : Int), .l TRd [((0 : Int), (1 : Int), (1 : Int), (0 : Int), (0 : Int), c12), ((1 : Int), (1 : Int), (2 : Int), (3 : Int), (0 : Int), c12), ((1 : Int), (2 : Int), (0 : Int), (0 : Int), (0 : Int), ([]))], .l TIn (List.set (List.set (List.set z60 1 ((3 : Int), (0 : Int), (0 : Int), c12)) 31 ((3 : Int), (0 : Int), (0 : Int), c12)) 1 ((3 : Int), (0 : Int), (0 : Int), c12)), .l Ty.bool (List.set (List.set (List.set f60 1 true) 31 true) 1 true), .n (0 : Int), .n (1 : Int), .b false, .n (1 : Int), .n (2 : Int), .b false, .n (0 : Int), .n (1 : Int), .n (1 : Int), .n (0 : Int), .n (0 : Int), .n (1 : Int), .n (1 : Int), .n (2 : Int), .n (3 : Int), .n (0 : Int), .n (1 : Int), .n (2 : Int), .n (0 : Int), .n (0 : Int), .n (0 : Int), .l TCmd c12, .l TCmd c12, .l TCmd ([])]).sel = some (.go (.k 5 :: .l TWay ways :: .n (7 : Int) :: .l TRd [((0 : Int), (1 : Int), (1 : Int), (0 : Int), (0 : Int), c12), ((1 : Int), (1 : Int), (2 : Int), (3 : Int), (0 : Int), c12), ((1 : Int), (2 : Int), (0 : Int), (0 : Int), (0 : Int), [])] :: .l TIn (List.set (List.set (List.set (List.set z60 1 ((3 : Int), (0 : Int), (0 : Int), c12)) 31 ((3 : Int), (0 : Int), (0 : Int), c12)) 1 ((3 : Int), (0 : Int), (0 : Int), c12)) 1 ((3 : Int), (0 : Int), (0 : Int), c12)) :: .l Ty.bool (List.set (List.set (List.set (List.set f60 1 true) 31 true) 1 true) 1 true) :: .n (0 : Int) :: .n (1 : Int) :: .b false :: .n (1 : Int) :: .n (2 : Int) :: .b false :: .n (0 : Int) :: .n (1 : Int) :: .n (1 : Int) :: .n (0 : Int) :: .n (0 : Int) :: .n (1 : Int) :: .n (1 : Int) :: .n (2 : Int) :: .n (3 : Int) :: .n (0 : Int) :: .n (1 : Int) :: .n (2 : Int) :: .n (0 : Int) :: .n (0 : Int) :: .n (0 : Int) :: .n (1 : Int) :: .n (2 : Int) :: .n (0 : Int) :: .n (0 : Int) :: .n (0 : Int) :: .l TCmd c12 :: .l TCmd c12 :: .l TCmd ([]) :: .l TCmd [] :: [])) := fn_L4_8_t6_im _ (by kernel_rfl)
theorem g20_7 : (st_L4_8 (.k 5 :: .l TWay ways :: .n (7 : Int) :: .l TRd [((0 : Int), (1 : Int), (1 : Int), (0 : Int), (0 : Int), c12), ((1 : Int), (1 : Int), (2 : Int), (3 : Int), (0 : Int), c12), ((1 : Int), (2 : Int), (0 : Int), (0 : Int), (0 : Int), [])] :: .l TIn (List.set (List.set (List.set (List.set z60 1 ((3 : Int), (0 : Int), (0 : Int), c12)) 31 ((3 : Int), (0 : Int), (0 : Int), c12)) 1 ((3 : Int), (0 : Int), (0 : Int), c12)) 1 ((3 : Int), (0 : Int), (0 : Int), c12)) :: .l Ty.bool (List.set (List.set (List.set (List.set f60 1 true) 31 true) 1 true) 1 true) :: .n (0 : Int) :: .n (1 : Int) :: .b false :: .n (1 : Int) :: .n (2 : Int) :: .b false :: .n (0 : Int) :: .n (1 : Int) :: .n (1 : Int) :: .n (0 : Int) :: .n (0 : Int) :: .n (1 : Int) :: .n (1 : Int) :: .n (2 : Int) :: .n (3 : Int) :: .n (0 : Int) :: .n (1 : Int) :: .n (2 : Int) :: .n (0 : Int) :: .n (0 : Int) :: .n (0 : Int) :: .n (1 : Int) :: .n (2 : Int) :: .n (0 : Int) :: .n (0 : Int) :: .n (0 : Int) :: .l TCmd c12 :: .l TCmd c12 :: .l TCmd ([]) :: .l TCmd [] :: [])).sel = some (.go [.k 3, .l TWay ways, .n (8 : Int), .l TRd [((0 : Int), (1 : Int), (1 : Int), (0 : Int), (0 : Int), c12), ((1 : Int), (1 : Int), (2 : Int), (3 : Int), (0 : Int), c12), ((1 : Int), (2 : Int), (0 : Int), (0 : Int), (0 : Int), []), ((0 : Int), (2 : Int), (2 : Int), (3 : Int), (0 : Int), (c12))], .l TIn (List.set (List.set (List.set (List.set (List.set z60 1 ((3 : Int), (0 : Int), (0 : Int), c12)) 31 ((3 : Int), (0 : Int), (0 : Int), c12)) 1 ((3 : Int), (0 : Int), (0 : Int), c12)) 1 ((3 : Int), (0 : Int), (0 : Int), c12)) 2 ((2 : Int), (0 : Int), (0 : Int), [])), .l Ty.bool (List.set (List.set (List.set (List.set (List.set f60 1 true) 31 true) 1 true) 1 true) 2 true), .n (0 : Int), .n (2 : Int), .b false, .n (1 : Int), .n (2 : Int), .b false, .n (0 : Int), .n (2 : Int), .n (2 : Int), .n (3 : Int), .n (0 : Int), .n (1 : Int), .n (2 : Int), .n (0 : Int), .n (0 : Int), .n (0 : Int), .n (1 : Int), .n (2 : Int), .n (0 : Int), .n (0 : Int), .n (0 : Int), .l TCmd (c12), .l TCmd [], .l TCmd []]) := fn_L4_8_t7_im _ (by kernel_rfl)
theorem g20_8 : (st_L4_8 [.k 3, .l TWay ways, .n (8 : Int), .l TRd [((0 : Int), (1 : Int), (1 : Int), (0 : Int), (0 : Int), c12), ((1 : Int), (1 : Int), (2 : Int), (3 : Int), (0 : Int), c12), ((1 : Int), (2 : Int), (0 : Int), (0 : Int), (0 : Int), []), ((0 : Int), (2 : Int), (2 : Int), (3 : Int), (0 : Int), (c12))], .l TIn (List.set (List.set (List.set (List.set (List.set z60 1 ((3 : Int), (0 : Int), (0 : Int), c12)) 31 ((3 : Int), (0 : Int), (0 : Int), c12)) 1 ((3 : Int), (0 : Int), (0 : Int), c12)) 1 ((3 : Int), (0 : Int), (0 : Int), c12)) 2 ((2 : Int), (0 : Int), (0 : Int), [])), .l Ty.bool (List.set (List.set (List.set (List.set (List.set f60 1 true) 31 true) 1 true) 1 true) 2 true), .n (0 : Int), .n (2 : Int), .b false, .n (1 : Int), .n (2 : Int), .b false, .n (0 : Int), .n (2 : Int), .n (2 : Int), .n (3 : Int), .n (0 : Int), .n (1 : Int), .n (2 : Int), .n (0 : Int), .n (0 : Int), .n (0 : Int), .n (1 : Int), .n (2 : Int), .n (0 : Int), .n (0 : Int), .n (0 : Int), .l TCmd (c12), .l TCmd [], .l TCmd []]).sel = some (.go (.k 4 :: .l TWay ways :: .n (9 : Int) :: .l TRd [((0 : Int), (1 : Int), (1 : Int), (0 : Int), (0 : Int), c12), ((1 : Int), (1 : Int), (2 : Int), (3 : Int), (0 : Int), c12), ((1 : Int), (2 : Int), (0 : Int), (0 : Int), (0 : Int), []), ((0 : Int), (2 : Int), (2 : Int), (3 : Int), (0 : Int), c12)] :: .l TIn (List.set (List.set (List.set (List.set (List.set (List.set z60 1 ((3 : Int), (0 : Int), (0 : Int), c12)) 31 ((3 : Int), (0 : Int), (0 : Int), c12)) 1 ((3 : Int), (0 : Int), (0 : Int), c12)) 1 ((3 : Int), (0 : Int), (0 : Int), c12)) 2 ((2 : Int), (0 : Int), (0 : Int), [])) 32 ((2 : Int), (0 : Int), (0 : Int), [])) :: .l Ty.bool (List.set (List.set (List.set (List.set (List.set (List.set f60 1 true) 31 true) 1 true) 1 true) 2 true) 32 true) :: .n (0 : Int) :: .n (2 : Int) :: .b false :: .n (1 : Int) :: .n (2 : Int) :: .b false :: .n (0 : Int) :: .n (2 : Int) :: .n (2 : Int) :: .n (3 : Int) :: .n (0 : Int) :: .n (1 : Int) :: .n (2 : Int) :: .n (0 : Int) :: .n (0 : Int) :: .n (0 : Int) :: .n (1 : Int) :: .n (2 : Int) :: .n (0 : Int) :: .n (0 : Int) :: .n (0 : Int) :: .n (0 : Int) :: .n (2 : Int) :: .n (2 : Int) :: .n (3 : Int) :: .n (0 : Int) :: .l TCmd c12 :: .l TCmd [] :: .l TCmd [] :: .l TCmd (c12) :: [])) := fn_L4_8_t8_im _ (by kernel_rfl)
theorem g20_9 : (st_L4_8 (.k 4 :: .l TWay ways :: .n (9 : Int) :: .l TRd [((0 : Int), (1 : Int), (1 : Int), (0 : Int), (0 : Int), c12), ((1 : Int), (1 : Int), (2 : Int), (3 : Int), (0 : Int), c12), ((1 : Int), (2 : Int), (0 : Int), (0 : Int), (0 : Int), []), ((0 : Int), (2 : Int), (2 : Int), (3 : Int), (0 : Int), c12)] :: .l TIn (List.set (List.set (List.set (List.set (List.set (List.set z60 1 ((3 : Int), (0 : Int), (0 : Int), c12)) 31 ((3 : Int), (0 : Int), (0 : Int), c12)) 1 ((3 : Int), (0 : Int), (0 : Int), c12)) 1 ((3 : Int), (0 : Int), (0 : Int), c12)) 2 ((2 : Int), (0 : Int), (0 : Int), [])) 32 ((2 : Int), (0 : Int), (0 : Int), [])) :: .l Ty.bool (List.set (List.set (List.set (List.set (List.set (List.set f60 1 true) 31 true) 1 true) 1 true) 2 true) 32 true) :: .n (0 : Int) :: .n (2 : Int) :: .b false :: .n (1 : Int) :: .n (2 : Int) :: .b false :: .n (0 : Int) :: .n (2 : Int) :: .n (2 : Int) :: .n (3 : Int) :: .n (0 : Int) :: .n (1 : Int) :: .n (2 : Int) :: .n (0 : Int) :: .n (0 : Int) :: .n (0 : Int) :: .n (1 : Int) :: .n (2 : Int) :: .n (0 : Int) :: .n (0 : Int) :: .n (0 : Int) :: .n (0 : Int) :: .n (2 : Int) :: .n (2 : Int) :: .n (3 : Int) :: .n (0 : Int) :: .l TCmd c12 :: .l TCmd [] :: .l TCmd [] :: .l TCmd (c12) :: [])).sel = some (.go (.k 4 :: .l TWay ways :: .n (10 : Int) :: .l TRd [((0 : Int), (1 : Int), (1 : Int), (0 : Int), (0 : Int), c12), ((1 : Int), (1 : Int), (2 : Int), (3 : Int), (0 : Int), c12), ((1 : Int), (2 : Int), (0 : Int), (0 : Int), (0 : Int), []), ((0 : Int), (2 : Int), (2 : Int), (3 : Int), (0 : Int), c12)] :: .l TIn (List.set (List.set (List.set (List.set (List.set (List.set (List.set z60 1 ((3 : Int), (0 : Int), (0 : Int), c12)) 31 ((3 : Int), (0 : Int), (0 : Int), c12)) 1 ((3 : Int), (0 : Int), (0 : Int), c12)) 1 ((3 : Int), (0 : Int), (0 : Int), c12)) 2 ((2 : Int), (0 : Int), (0 : Int), [])) 32 ((2 : Int), (0 : Int), (0 : Int), [])) 2 ((2 : Int), (0 : Int), (0 : Int), [])) :: .l Ty.bool (List.set (List.set (List.set (List.set (List.set (List.set (List.set f60 1 true) 31 true) 1 true) 1 true) 2 true) 32 true) 2 true) :: .n (0 : Int) :: .n (2 : Int) :: .b false :: .n (1 : Int) :: .n (2 : Int) :: .b false :: .n (0 : Int) :: .n (2 : Int) :: .n (2 : Int) :: .n (3 : Int) :: .n (0 : Int) :: .n (1 : Int) :: .n (2 : Int) :: .n (0 : Int) :: .n (0 : Int) :: .n (0 : Int) :: .n (1 : Int) :: .n (2 : Int) :: .n (0 : Int) :: .n (0 : Int) :: .n (0 : Int) :: .n (0 : Int) :: .n (2 : Int) :: .n (2 : Int) :: .n (3 : Int) :: .n (0 : Int) :: .l TCmd c12 :: .l TCmd [] :: .l TCmd [] :: .l TCmd c12 :: [])) := fn_L4_8_t9_im _ (by kernel_rfl)
theorem g20_10 : (st_L4_8 (.k 4 :: .l TWay ways :: .n (10 : Int) :: .l TRd [((0 : Int), (1 : Int), (1 : Int), (0 : Int), (0 : Int), c12), ((1 : Int), (1 : Int), (2 : Int), (3 : Int), (0 : Int), c12), ((1 : Int), (2 : Int), (0 : Int), (0 : Int), (0 : Int), []), ((0 : Int), (2 : Int), (2 : Int), (3 : Int), (0 : Int), c12)] :: .l TIn (List.set (List.set (List.set (List.set (List.set (List.set (List.set z60 1 ((3 : Int), (0 : Int), (0 : Int), c12)) 31 ((3 : Int), (0 : Int), (0 : Int), c12)) 1 ((3 : Int), (0 : Int), (0 : Int), c12)) 1 ((3 : Int), (0 : Int), (0 : Int), c12)) 2 ((2 : Int), (0 : Int), (0 : Int), [])) 32 ((2 : Int), (0 : Int), (0 : Int), [])) 2 ((2 : Int), (0 : Int), (0 : Int), [])) :: .l Ty.bool (List.set (List.set (List.set (List.set (List.set (List.set (List.set f60 1 true) 31 true) 1 true) 1 true) 2 true) 32 true) 2 true) :: .n (0 : Int) :: .n (2 : Int) :: .b false :: .n (1 : Int) :: .n (2 : Int) :: .b false :: .n (0 : Int) :: .n (2 : Int) :: .n (2 : Int) :: .n (3 : Int) :: .n (0 : Int) :: .n (1 : Int) :: .n (2 : Int) :: .n (0 : Int) :: .n (0 : Int) :: .n (0 : Int) :: .n (1 : Int) :: .n (2 : Int) :: .n (0 : Int) :: .n (0 : Int) :: .n (0 : Int) :: .n (0 : Int) :: .n (2 : Int) :: .n (2 : Int) :: .n (3 : Int) :: .n (0 : Int) :: .l TCmd c12 :: .l TCmd [] :: .l TCmd [] :: .l TCmd c12 :: [])).sel = some (.stop 0 []) := fn_L4_8_t10_im _ (by kernel_rfl)
theorem lp20 : op_L4_8 [.k 0, .l TWay ways, .n 0, .l TRd [], .l TIn z60, .l .bool f60, .n 0, .n 0, .b false, .n 1, .n 0, .b false] = some (0, []) := by
  rw [op_L4_8_eq]
  obtain ⟨f, hf⟩ : ∃ f, FU = f + 11 := ⟨FU - 11, by unfold FU; omega⟩
  rw [hf]
  exact ((iter_go (n := f + 10) g20_0).trans ((iter_go (n := f + 9) g20_1).trans ((iter_go (n := f + 8) g20_2).trans ((iter_go (n := f + 7) g20_3).trans ((iter_go (n := f + 6) g20_4).trans ((iter_go (n := f + 5) g20_5).trans ((iter_go (n := f + 4) g20_6).trans ((iter_go (n := f + 3) g20_7).trans ((iter_go (n := f + 2) g20_8).trans ((iter_go (n := f + 1) g20_9).trans (iter_stop (n := f) g20_10)))))))))))
theorem o4 : op_4 [.l TWay ways] = some (0, [.b true]) := by
  rw [op_4_eq]
  refine fn_4_t_im _ ?_
  unfold fn_4_t
  dsimp only
  erw [lp20]
  exact sel_t rfl rfl
end Go.Proofs.Ytcoamiaifbjofaa.Vx
