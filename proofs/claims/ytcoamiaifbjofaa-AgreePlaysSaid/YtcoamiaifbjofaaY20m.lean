import Derived.Test.YtcoamiaifbjofaaX20a
import Derived.Test.YtcoamiaifbjofaaVxAid
import Derived.Test.YtcoamiaifbjofaaVxLaw
namespace Go.Proofs.Ytcoamiaifbjofaa.Vx
open Go Go.RowKit
set_option linter.unusedVariables false
set_option maxRecDepth 100000
theorem take_getD {α : Type} {l : List α} {n : Nat} {d : α} (h : n < l.length) : l.take (n + 1) = l.take n ++ [l.getD n d] := by
  rw [List.take_succ_eq_append_getElem h, List.getD_eq_getElem?_getD, List.getElem?_eq_getElem h]; rfl
theorem eq2 {a b c d : Int} (h : (a == c && (b == d && true)) = true) : a = c ∧ b = d := by simpa using h
theorem eq2s {a b : Int} : (a == a && (b == b && true)) = true := by simp
theorem den_ext {a b : Ty} {x y : Ty.den (.pair a b)} (h : (Prod.fst x : a.den) = Prod.fst y) (k : (Prod.snd x : b.den) = Prod.snd y) : x = y := Prod.ext h k

theorem t60L (a b : List (Ty.den TCmd)) (hl : a.length = b.length) (hb : a.length ≤ 9223372036854775807) : ∃ k d, iterS fn_L60_4 FU [.l TCmd b, .l TCmd a, .n a.length, .n 0] = some (k, d) ∧ ((k = 0 ∧ d = [] ∧ a = b) ∨ (k = 1 ∧ d = [.b false] ∧ a ≠ b)) := by
  refine iterS_ok (st := fn_L60_4) (fun env => ∃ i : Int, env = [.l TCmd b, .l TCmd a, .n a.length, .n i] ∧ 0 ≤ i ∧ i ≤ a.length ∧ a.take i.toNat = b.take i.toNat) (fun env => (a.length - gn env 3).toNat) (fun k d => (k = 0 ∧ d = [] ∧ a = b) ∨ (k = 1 ∧ d = [.b false] ∧ a ≠ b)) ?_ FU _ ⟨0, rfl, by omega, by omega, rfl⟩ (by show ((a.length : Int) - 0).toNat < FU; unfold FU; omega)
  rintro env ⟨i, rfl, h0, h1, h2⟩
  by_cases hlt : i < (a.length : Int)
  · have w1 : IntKind.wrap .i64 (i + 1) = i + 1 := w64 (by omega) (by omega)
    have hn : (i + 1).toNat = i.toNat + 1 := by omega
    cases hE : (Prod.fst (List.getD b (Int.toNat i) (Ty.dflt (Ty.pair (Ty.int IntKind.u8) (Ty.int IntKind.i64)))) == Prod.fst (List.getD a (Int.toNat i) (Ty.dflt (Ty.pair (Ty.int IntKind.u8) (Ty.int IntKind.i64)))) && (Prod.snd (List.getD b (Int.toNat i) (Ty.dflt (Ty.pair (Ty.int IntKind.u8) (Ty.int IntKind.i64)))) == Prod.snd (List.getD a (Int.toNat i) (Ty.dflt (Ty.pair (Ty.int IntKind.u8) (Ty.int IntKind.i64)))) && true)) with
    | true =>
      have he : List.getD b (Int.toNat i) (Ty.dflt (Ty.pair (Ty.int IntKind.u8) (Ty.int IntKind.i64))) = List.getD a (Int.toNat i) (Ty.dflt (Ty.pair (Ty.int IntKind.u8) (Ty.int IntKind.i64))) := den_ext (eq2 hE).1 (eq2 hE).2
      refine .inl ⟨_, (selT (dt hlt)).trans ((selT (inR_true h0 (by omega))).trans ((selT (inR_true h0 (by omega))).trans (selF (nt hE)))), ⟨IntKind.wrap .i64 (i + 1), rfl, by omega, by omega, ?_⟩, ?_⟩
      · rw [w1, hn, take_getD (d := (Ty.dflt (Ty.pair (Ty.int IntKind.u8) (Ty.int IntKind.i64)))) (by omega), take_getD (d := (Ty.dflt (Ty.pair (Ty.int IntKind.u8) (Ty.int IntKind.i64)))) (by omega), h2]
        first | rw [he] | rw [← he]
      · show ((a.length : Int) - IntKind.wrap .i64 (i + 1)).toNat < ((a.length : Int) - i).toNat
        rw [w1]; omega
    | false =>
      refine .inr ⟨1, [.b false], (selT (dt hlt)).trans ((selT (inR_true h0 (by omega))).trans ((selT (inR_true h0 (by omega))).trans (selT (nf hE)))), .inr ⟨rfl, rfl, ?_⟩⟩
      rintro rfl
      exact absurd (eq2s.symm.trans hE) (by simp)
  · refine .inr ⟨0, [], selF (df hlt), .inl ⟨rfl, rfl, ?_⟩⟩
    have e : i.toNat = a.length := by omega
    rw [e, List.take_length, hl, List.take_length] at h2
    exact h2

theorem t61L (a b : List (Ty.den TCmd)) (hl : a.length = b.length) (hb : a.length ≤ 9223372036854775807) : ∃ k d, iterS fn_L61_4 FU [.l TCmd a, .l TCmd b, .n 0] = some (k, d) ∧ ((k = 0 ∧ d = [] ∧ a = b) ∨ (k = 1 ∧ d = [.b false] ∧ a ≠ b)) := by
  refine iterS_ok (st := fn_L61_4) (fun env => ∃ i : Int, env = [.l TCmd a, .l TCmd b, .n i] ∧ 0 ≤ i ∧ i ≤ a.length ∧ a.take i.toNat = b.take i.toNat) (fun env => (a.length - gn env 2).toNat) (fun k d => (k = 0 ∧ d = [] ∧ a = b) ∨ (k = 1 ∧ d = [.b false] ∧ a ≠ b)) ?_ FU _ ⟨0, rfl, by omega, by omega, rfl⟩ (by show ((a.length : Int) - 0).toNat < FU; unfold FU; omega)
  rintro env ⟨i, rfl, h0, h1, h2⟩
  by_cases hlt : i < (a.length : Int)
  · have w1 : IntKind.wrap .i64 (i + 1) = i + 1 := w64 (by omega) (by omega)
    have hn : (i + 1).toNat = i.toNat + 1 := by omega
    cases hE : (Prod.fst (List.getD a (Int.toNat i) (Ty.dflt (Ty.pair (Ty.int IntKind.u8) (Ty.int IntKind.i64)))) == Prod.fst (List.getD b (Int.toNat i) (Ty.dflt (Ty.pair (Ty.int IntKind.u8) (Ty.int IntKind.i64)))) && (Prod.snd (List.getD a (Int.toNat i) (Ty.dflt (Ty.pair (Ty.int IntKind.u8) (Ty.int IntKind.i64)))) == Prod.snd (List.getD b (Int.toNat i) (Ty.dflt (Ty.pair (Ty.int IntKind.u8) (Ty.int IntKind.i64)))) && true)) with
    | true =>
      have he : List.getD a (Int.toNat i) (Ty.dflt (Ty.pair (Ty.int IntKind.u8) (Ty.int IntKind.i64))) = List.getD b (Int.toNat i) (Ty.dflt (Ty.pair (Ty.int IntKind.u8) (Ty.int IntKind.i64))) := den_ext (eq2 hE).1 (eq2 hE).2
      refine .inl ⟨_, (selT (dt hlt)).trans ((selT (inR_true h0 (by omega))).trans ((selT (inR_true h0 (by omega))).trans (selF (nt hE)))), ⟨IntKind.wrap .i64 (i + 1), rfl, by omega, by omega, ?_⟩, ?_⟩
      · rw [w1, hn, take_getD (d := (Ty.dflt (Ty.pair (Ty.int IntKind.u8) (Ty.int IntKind.i64)))) (by omega), take_getD (d := (Ty.dflt (Ty.pair (Ty.int IntKind.u8) (Ty.int IntKind.i64)))) (by omega), h2]
        first | rw [he] | rw [← he]
      · show ((a.length : Int) - IntKind.wrap .i64 (i + 1)).toNat < ((a.length : Int) - i).toNat
        rw [w1]; omega
    | false =>
      refine .inr ⟨1, [.b false], (selT (dt hlt)).trans ((selT (inR_true h0 (by omega))).trans ((selT (inR_true h0 (by omega))).trans (selT (nf hE)))), .inr ⟨rfl, rfl, ?_⟩⟩
      rintro rfl
      exact absurd (eq2s.symm.trans hE) (by simp)
  · refine .inr ⟨0, [], selF (df hlt), .inl ⟨rfl, rfl, ?_⟩⟩
    have e : i.toNat = a.length := by omega
    rw [e, List.take_length, hl, List.take_length] at h2
    exact h2

theorem t60 (a b : List (Ty.den TCmd)) (hb : a.length ≤ 9223372036854775807) : ∃ r : Bool, op_60 [.l TCmd a, .l TCmd b] = some (0, [.b r]) ∧ (r = true ↔ a = b) := by
  by_cases hl : a.length = b.length
  · have h1 : ((a.length : Int) != (b.length : Int)) = false := by simp [hl]
    obtain ⟨k, d, e, h⟩ := t60L a b hl hb
    rcases h with ⟨rfl, rfl, h⟩ | ⟨rfl, rfl, h⟩
    · exact ⟨true, (selF h1).trans (selT (congrArg (isK 0 []) e)), by simp [h]⟩
    · refine ⟨false, (selF h1).trans ((selF (congrArg (isK 0 []) e)).trans ((selT (congrArg (isK 1 [HK.b]) e)).trans ?_)), by simp [h]⟩
      exact congrArg (fun r => some (0, [Dat.b (gb (dOf r) 0)])) e
  · have h1 : ((a.length : Int) != (b.length : Int)) = true := by simpa using fun h => hl (by omega)
    exact ⟨false, selT h1, by simp; rintro rfl; exact hl rfl⟩

theorem t61 (a b : List (Ty.den TCmd)) (hb : a.length ≤ 9223372036854775807) : ∃ r : Bool, op_61 [.l TCmd a, .l TCmd b] = some (0, [.b r]) ∧ (r = true ↔ a = b) := by
  by_cases hl : a.length = b.length
  · have h1 : ((a.length : Int) != (b.length : Int)) = false := by simp [hl]
    obtain ⟨k, d, e, h⟩ := t61L a b hl hb
    rcases h with ⟨rfl, rfl, h⟩ | ⟨rfl, rfl, h⟩
    · exact ⟨true, (selF h1).trans (selT (congrArg (isK 0 []) e)), by simp [h]⟩
    · refine ⟨false, (selF h1).trans ((selF (congrArg (isK 0 []) e)).trans ((selT (congrArg (isK 1 [HK.b]) e)).trans ?_)), by simp [h]⟩
      exact congrArg (fun r => some (0, [Dat.b (gb (dOf r) 0)])) e
  · have h1 : ((a.length : Int) != (b.length : Int)) = true := by simpa using fun h => hl (by omega)
    exact ⟨false, selT h1, by simp; rintro rfl; exact hl rfl⟩

theorem t29 (n0 n1 n2 n4 n5 n6 : Int) (a b : List (Ty.den TCmd)) (hb : a.length ≤ 9223372036854775807) : ∃ r : Bool, op_29 [.n n0, .n n1, .n n2, .l TCmd a, .n n4, .n n5, .n n6, .l TCmd b] = some (0, [.b r]) ∧ (r = true ↔ n0 = n4 ∧ n1 = n5 ∧ n2 = n6 ∧ a = b) := by
  by_cases h0 : n0 = n4
  · by_cases h1 : n1 = n5
    · by_cases h2 : n2 = n6
      · obtain ⟨r, e, h⟩ := t60 a b hb
        refine ⟨r, (selT (bt h0)).trans ((selT (bt h1)).trans ((selT (bt h2)).trans ((selT (congrArg (isK 0 [HK.b]) e)).trans ?_))), by simp [h0, h1, h2, h]⟩
        exact congrArg (fun r => some (0, [Dat.b (gb (dOf r) 0)])) e
      · exact ⟨false, (selT (bt h0)).trans ((selT (bt h1)).trans (selF (bf h2))), by simp [h2]⟩
    · exact ⟨false, (selT (bt h0)).trans (selF (bf h1)), by simp [h1]⟩
  · exact ⟨false, selF (bf h0), by simp [h0]⟩

theorem t30 (n0 n1 n2 n4 n5 n6 : Int) (a b : List (Ty.den TCmd)) (hb : a.length ≤ 9223372036854775807) : ∃ r : Bool, op_30 [.n n0, .n n1, .n n2, .l TCmd a, .n n4, .n n5, .n n6, .l TCmd b] = some (0, [.b r]) ∧ (r = true ↔ n0 = n4 ∧ n1 = n5 ∧ n2 = n6 ∧ a = b) := by
  by_cases h0 : n0 = n4
  · by_cases h1 : n1 = n5
    · by_cases h2 : n2 = n6
      · obtain ⟨r, e, h⟩ := t61 a b hb
        refine ⟨r, (selT (bt h0)).trans ((selT (bt h1)).trans ((selT (bt h2)).trans ((selT (congrArg (isK 0 [HK.b]) e)).trans ?_))), by simp [h0, h1, h2, h]⟩
        exact congrArg (fun r => some (0, [Dat.b (gb (dOf r) 0)])) e
      · exact ⟨false, (selT (bt h0)).trans ((selT (bt h1)).trans (selF (bf h2))), by simp [h2]⟩
    · exact ⟨false, (selT (bt h0)).trans (selF (bf h1)), by simp [h1]⟩
  · exact ⟨false, selF (bf h0), by simp [h0]⟩

abbrev LC := List (Ty.den TCmd)
noncomputable def eqc (a b : LC) : Bool := @decide (a = b) (Classical.propDecidable _)
theorem eqc_iff (a b : LC) : eqc a b = true ↔ a = b := by unfold eqc; simp
theorem eqc_self (a : LC) : eqc a a = true := (eqc_iff a a).2 rfl
theorem u60 (a b : LC) (hb : a.length ≤ 9223372036854775807) : op_60 [.l TCmd a, .l TCmd b] = some (0, [.b (eqc a b)]) := by
  obtain ⟨r, e, h⟩ := t60 a b hb
  have : r = eqc a b := by rw [Bool.eq_iff_iff, h, eqc_iff]
  rw [← this]; exact e
theorem u61 (a b : LC) (hb : a.length ≤ 9223372036854775807) : op_61 [.l TCmd a, .l TCmd b] = some (0, [.b (eqc a b)]) := by
  obtain ⟨r, e, h⟩ := t61 a b hb
  have : r = eqc a b := by rw [Bool.eq_iff_iff, h, eqc_iff]
  rw [← this]; exact e
theorem isKb (k : Nat) (x : Bool) : isK 0 [HK.b] (some (0, [.b x])) = true := rfl
theorem isKm (x y z : Int) (l : LC) : isK 0 [HK.n, HK.n, HK.n, HK.l TCmd] (some (0, [.n x, .n y, .n z, .l TCmd l])) = true := rfl
noncomputable def mg (a b : LC) : LC := bif eqc a b then a else []
theorem mg_len (a b : LC) : (mg a b).length ≤ a.length := by unfold mg; cases eqc a b <;> simp
theorem u31 (n0 n1 n2 n4 n5 n6 : Int) (a b : LC) (ha : a.length ≤ 100) : op_31 [.n n0, .n n1, .n n2, .l TCmd a, .n n4, .n n5, .n n6, .l TCmd b] = some (0, [.n (ior .u64 n0 n4), .n (iand .u32 n1 n5), .n (iand .u32 n2 n6), .l TCmd (mg a b)]) := by
  show (fn_31 [.n n0, .n n1, .n n2, .l TCmd a, .n n4, .n n5, .n n6, .l TCmd b]).sel = _
  have e1 := u60 a b (by omega)
  have e2 := op_62_is a (by omega)
  refine (selT (congrArg (isK 0 [HK.b]) e1)).trans ?_
  unfold mg
  cases h : eqc a b with
  | true =>
    rw [h] at e1
    refine (selT (congrArg (fun r => gb (dOf r) 0) e1)).trans ((selT (congrArg (isK 0 [HK.l TCmd]) e2)).trans ?_)
    exact congrArg (fun r => some (0, [Dat.n (ior .u64 n0 n4), .n (iand .u32 n1 n5), .n (iand .u32 n2 n6), .l TCmd (gl TCmd (dOf r) 0)])) e2
  | false =>
    rw [h] at e1
    exact selF (congrArg (fun r => gb (dOf r) 0) e1)
theorem u32_ (n0 n1 n2 n4 n5 n6 : Int) (a b : LC) (ha : a.length ≤ 100) : op_32 [.n n0, .n n1, .n n2, .l TCmd a, .n n4, .n n5, .n n6, .l TCmd b] = some (0, [.n (ior .u64 n0 n4), .n (iand .u32 n1 n5), .n (iand .u32 n2 n6), .l TCmd (mg a b)]) := by
  show (fn_32 [.n n0, .n n1, .n n2, .l TCmd a, .n n4, .n n5, .n n6, .l TCmd b]).sel = _
  have e1 := u61 a b (by omega)
  refine (selT (congrArg (isK 0 [HK.b]) e1)).trans ?_
  unfold mg
  cases h : eqc a b with
  | true =>
    rw [h] at e1
    exact (selT (congrArg (fun r => gb (dOf r) 0) e1)).trans (selT (dt (by omega)))
  | false =>
    rw [h] at e1
    exact selF (congrArg (fun r => gb (dOf r) 0) e1)
theorem u30 (n0 n1 n2 : Int) (a : LC) (ha : a.length ≤ 100) : op_30 [.n n0, .n n1, .n n2, .l TCmd a, .n n0, .n n1, .n n2, .l TCmd a] = some (0, [.b true]) := by
  obtain ⟨r, e, h⟩ := t30 n0 n1 n2 n0 n1 n2 a a (by omega)
  have : r = true := h.2 ⟨rfl, rfl, rfl, rfl⟩
  rw [this] at e; exact e
end Go.Proofs.Ytcoamiaifbjofaa.Vx
