import Derived.Test.YtfnkldkplkhobaaX09fk
import Derived.Test.YtfnkldkplkhobaaVxAid
import Derived.IntWalk
namespace Go.Proofs.Ytfnkldkplkhobaa.Vx.Sa
open Go Go.RowKit
set_option linter.unusedVariables false
set_option maxRecDepth 100000
theorem take_getD {α : Type} {l : List α} {n : Nat} {d : α} (h : n < l.length) : l.take (n + 1) = l.take n ++ [l.getD n d] := by
  rw [List.take_succ_eq_append_getElem h, List.getD_eq_getElem?_getD, List.getElem?_eq_getElem h]; rfl
theorem eq2 {a b c d : Int} (h : (a == c && (b == d && true)) = true) : a = c ∧ b = d := by simpa using h
theorem eq2s {a b : Int} : (a == a && (b == b && true)) = true := by simp
theorem den_ext {a b : Ty} {x y : Ty.den (.pair a b)} (h : (Prod.fst x : a.den) = Prod.fst y) (k : (Prod.snd x : b.den) = Prod.snd y) : x = y := Prod.ext h k

theorem t60L (a b : List (Ty.den TCmd)) (hl : a.length = b.length) (hb : a.length ≤ 9223372036854775807) : ∃ k d, iterS fn_L60_4 FU [.l TCmd b, .l TCmd a, .n a.length, .n 0] = some (k, d) ∧ ((k = 0 ∧ d = [] ∧ a = b) ∨ (k = 1 ∧ d = [.b false] ∧ a ≠ b)) := by
  refine iterS_ok (st := fn_L60_4) (fun env => ∃ i : Int, env = [.l TCmd b, .l TCmd a, .n a.length, .n i] ∧ 0 ≤ i ∧ i ≤ a.length ∧ a.take i.toNat = b.take i.toNat) (fun env => (a.length - gn env 3).toNat) (fun k d => (k = 0 ∧ d = [] ∧ a = b) ∨ (k = 1 ∧ d = [.b false] ∧ a ≠ b)) ?_ FU _ ⟨0, rfl, by omega, by omega, rfl⟩ (by show ((a.length : Int) - 0).toNat < FU; unfold FU; omega)
  rintro env ⟨i, rfl, h0, h1, h2⟩
  by_cases hlt : i < (a.length : Int)
  · have w1 : IntKind.wrap .i64 (i + 1) = i + 1 := w64 (by omega) (by omega)
    have hn : (i + 1).toNat = i.toNat + 1 := by omega
    cases hE : (Prod.fst (List.getD b (Int.toNat i) (Ty.dflt (Ty.pair (Ty.int IntKind.u8) (Ty.int IntKind.i64)))) == Prod.fst (List.getD a (Int.toNat i) (Ty.dflt (Ty.pair (Ty.int IntKind.u8) (Ty.int IntKind.i64)))) && (Prod.snd (List.getD b (Int.toNat i) (Ty.dflt (Ty.pair (Ty.int IntKind.u8) (Ty.int IntKind.i64)))) == Prod.snd (List.getD a (Int.toNat i) (Ty.dflt (Ty.pair (Ty.int IntKind.u8) (Ty.int IntKind.i64)))) && true)) with
    | true =>
      have he : List.getD b (Int.toNat i) (Ty.dflt (Ty.pair (Ty.int IntKind.u8) (Ty.int IntKind.i64))) = List.getD a (Int.toNat i) (Ty.dflt (Ty.pair (Ty.int IntKind.u8) (Ty.int IntKind.i64))) := den_ext (eq2 hE).1 (eq2 hE).2
      refine .inl ⟨_, (selT (dt hlt)).trans ((selT (inR_true h0 (by omega))).trans ((selT (inR_true h0 (by omega))).trans (selF (nt hE)))), ⟨IntKind.wrap .i64 (i + 1), rfl, by omega, by omega, ?_⟩, ?_⟩
      · rw [w1, hn, take_getD (d := (Ty.dflt (Ty.pair (Ty.int IntKind.u8) (Ty.int IntKind.i64)))) (by omega), take_getD (d := (Ty.dflt (Ty.pair (Ty.int IntKind.u8) (Ty.int IntKind.i64)))) (by omega), h2]
        first | rw [he] | rw [← he]
      · show ((a.length : Int) - IntKind.wrap .i64 (i + 1)).toNat < ((a.length : Int) - i).toNat
        rw [w1]; omega
    | false =>
      refine .inr ⟨1, [.b false], (selT (dt hlt)).trans ((selT (inR_true h0 (by omega))).trans ((selT (inR_true h0 (by omega))).trans (selT (nf hE)))), .inr ⟨rfl, rfl, ?_⟩⟩
      rintro rfl
      exact absurd (eq2s.symm.trans hE) (by simp)
  · refine .inr ⟨0, [], selF (df hlt), .inl ⟨rfl, rfl, ?_⟩⟩
    have e : i.toNat = a.length := by omega
    rw [e, List.take_length, hl, List.take_length] at h2
    exact h2

theorem t61L (a b : List (Ty.den TCmd)) (hl : a.length = b.length) (hb : a.length ≤ 9223372036854775807) : ∃ k d, iterS fn_L61_4 FU [.l TCmd a, .l TCmd b, .n 0] = some (k, d) ∧ ((k = 0 ∧ d = [] ∧ a = b) ∨ (k = 1 ∧ d = [.b false] ∧ a ≠ b)) := by
  refine iterS_ok (st := fn_L61_4) (fun env => ∃ i : Int, env = [.l TCmd a, .l TCmd b, .n i] ∧ 0 ≤ i ∧ i ≤ a.length ∧ a.take i.toNat = b.take i.toNat) (fun env => (a.length - gn env 2).toNat) (fun k d => (k = 0 ∧ d = [] ∧ a = b) ∨ (k = 1 ∧ d = [.b false] ∧ a ≠ b)) ?_ FU _ ⟨0, rfl, by omega, by omega, rfl⟩ (by show ((a.length : Int) - 0).toNat < FU; unfold FU; omega)
  rintro env ⟨i, rfl, h0, h1, h2⟩
  by_cases hlt : i < (a.length : Int)
  · have w1 : IntKind.wrap .i64 (i + 1) = i + 1 := w64 (by omega) (by omega)
    have hn : (i + 1).toNat = i.toNat + 1 := by omega
    cases hE : (Prod.fst (List.getD a (Int.toNat i) (Ty.dflt (Ty.pair (Ty.int IntKind.u8) (Ty.int IntKind.i64)))) == Prod.fst (List.getD b (Int.toNat i) (Ty.dflt (Ty.pair (Ty.int IntKind.u8) (Ty.int IntKind.i64)))) && (Prod.snd (List.getD a (Int.toNat i) (Ty.dflt (Ty.pair (Ty.int IntKind.u8) (Ty.int IntKind.i64)))) == Prod.snd (List.getD b (Int.toNat i) (Ty.dflt (Ty.pair (Ty.int IntKind.u8) (Ty.int IntKind.i64)))) && true)) with
    | true =>
      have he : List.getD a (Int.toNat i) (Ty.dflt (Ty.pair (Ty.int IntKind.u8) (Ty.int IntKind.i64))) = List.getD b (Int.toNat i) (Ty.dflt (Ty.pair (Ty.int IntKind.u8) (Ty.int IntKind.i64))) := den_ext (eq2 hE).1 (eq2 hE).2
      refine .inl ⟨_, (selT (dt hlt)).trans ((selT (inR_true h0 (by omega))).trans ((selT (inR_true h0 (by omega))).trans (selF (nt hE)))), ⟨IntKind.wrap .i64 (i + 1), rfl, by omega, by omega, ?_⟩, ?_⟩
      · rw [w1, hn, take_getD (d := (Ty.dflt (Ty.pair (Ty.int IntKind.u8) (Ty.int IntKind.i64)))) (by omega), take_getD (d := (Ty.dflt (Ty.pair (Ty.int IntKind.u8) (Ty.int IntKind.i64)))) (by omega), h2]
        first | rw [he] | rw [← he]
      · show ((a.length : Int) - IntKind.wrap .i64 (i + 1)).toNat < ((a.length : Int) - i).toNat
        rw [w1]; omega
    | false =>
      refine .inr ⟨1, [.b false], (selT (dt hlt)).trans ((selT (inR_true h0 (by omega))).trans ((selT (inR_true h0 (by omega))).trans (selT (nf hE)))), .inr ⟨rfl, rfl, ?_⟩⟩
      rintro rfl
      exact absurd (eq2s.symm.trans hE) (by simp)
  · refine .inr ⟨0, [], selF (df hlt), .inl ⟨rfl, rfl, ?_⟩⟩
    have e : i.toNat = a.length := by omega
    rw [e, List.take_length, hl, List.take_length] at h2
    exact h2

theorem t60 (a b : List (Ty.den TCmd)) (hb : a.length ≤ 9223372036854775807) : ∃ r : Bool, op_60 [.l TCmd a, .l TCmd b] = some (0, [.b r]) ∧ (r = true ↔ a = b) := by
  by_cases hl : a.length = b.length
  · have h1 : ((a.length : Int) != (b.length : Int)) = false := by simp [hl]
    obtain ⟨k, d, e, h⟩ := t60L a b hl hb
    rcases h with ⟨rfl, rfl, h⟩ | ⟨rfl, rfl, h⟩
    · exact ⟨true, (selF h1).trans (selT (congrArg (isK 0 []) e)), by simp [h]⟩
    · refine ⟨false, (selF h1).trans ((selF (congrArg (isK 0 []) e)).trans ((selT (congrArg (isK 1 [HK.b]) e)).trans ?_)), by simp [h]⟩
      exact congrArg (fun r => some (0, [Dat.b (gb (dOf r) 0)])) e
  · have h1 : ((a.length : Int) != (b.length : Int)) = true := by simpa using fun h => hl (by omega)
    exact ⟨false, selT h1, by simp; rintro rfl; exact hl rfl⟩

theorem t61 (a b : List (Ty.den TCmd)) (hb : a.length ≤ 9223372036854775807) : ∃ r : Bool, op_61 [.l TCmd a, .l TCmd b] = some (0, [.b r]) ∧ (r = true ↔ a = b) := by
  by_cases hl : a.length = b.length
  · have h1 : ((a.length : Int) != (b.length : Int)) = false := by simp [hl]
    obtain ⟨k, d, e, h⟩ := t61L a b hl hb
    rcases h with ⟨rfl, rfl, h⟩ | ⟨rfl, rfl, h⟩
    · exact ⟨true, (selF h1).trans (selT (congrArg (isK 0 []) e)), by simp [h]⟩
    · refine ⟨false, (selF h1).trans ((selF (congrArg (isK 0 []) e)).trans ((selT (congrArg (isK 1 [HK.b]) e)).trans ?_)), by simp [h]⟩
      exact congrArg (fun r => some (0, [Dat.b (gb (dOf r) 0)])) e
  · have h1 : ((a.length : Int) != (b.length : Int)) = true := by simpa using fun h => hl (by omega)
    exact ⟨false, selT h1, by simp; rintro rfl; exact hl rfl⟩

theorem t29 (n0 n1 n2 n4 n5 n6 : Int) (a b : List (Ty.den TCmd)) (hb : a.length ≤ 9223372036854775807) : ∃ r : Bool, op_29 [.n n0, .n n1, .n n2, .l TCmd a, .n n4, .n n5, .n n6, .l TCmd b] = some (0, [.b r]) ∧ (r = true ↔ n0 = n4 ∧ n1 = n5 ∧ n2 = n6 ∧ a = b) := by
  by_cases h0 : n0 = n4
  · by_cases h1 : n1 = n5
    · by_cases h2 : n2 = n6
      · obtain ⟨r, e, h⟩ := t60 a b hb
        refine ⟨r, (selT (bt h0)).trans ((selT (bt h1)).trans ((selT (bt h2)).trans ((selT (congrArg (isK 0 [HK.b]) e)).trans ?_))), by simp [h0, h1, h2, h]⟩
        exact congrArg (fun r => some (0, [Dat.b (gb (dOf r) 0)])) e
      · exact ⟨false, (selT (bt h0)).trans ((selT (bt h1)).trans (selF (bf h2))), by simp [h2]⟩
    · exact ⟨false, (selT (bt h0)).trans (selF (bf h1)), by simp [h1]⟩
  · exact ⟨false, selF (bf h0), by simp [h0]⟩

theorem t30 (n0 n1 n2 n4 n5 n6 : Int) (a b : List (Ty.den TCmd)) (hb : a.length ≤ 9223372036854775807) : ∃ r : Bool, op_30 [.n n0, .n n1, .n n2, .l TCmd a, .n n4, .n n5, .n n6, .l TCmd b] = some (0, [.b r]) ∧ (r = true ↔ n0 = n4 ∧ n1 = n5 ∧ n2 = n6 ∧ a = b) := by
  by_cases h0 : n0 = n4
  · by_cases h1 : n1 = n5
    · by_cases h2 : n2 = n6
      · obtain ⟨r, e, h⟩ := t61 a b hb
        refine ⟨r, (selT (bt h0)).trans ((selT (bt h1)).trans ((selT (bt h2)).trans ((selT (congrArg (isK 0 [HK.b]) e)).trans ?_))), by simp [h0, h1, h2, h]⟩
        exact congrArg (fun r => some (0, [Dat.b (gb (dOf r) 0)])) e
      · exact ⟨false, (selT (bt h0)).trans ((selT (bt h1)).trans (selF (bf h2))), by simp [h2]⟩
    · exact ⟨false, (selT (bt h0)).trans (selF (bf h1)), by simp [h1]⟩
  · exact ⟨false, selF (bf h0), by simp [h0]⟩

theorem t7 (n0 n1 n2 n4 n5 n6 : Int) (a b : List (Ty.den TCmd)) (ha : a.length ≤ 9223372036854775807) (hb : b.length ≤ 9223372036854775807) : (fn_W7 [.n n0, .n n1, .n n2, .l TCmd a, .n n4, .n n5, .n n6, .l TCmd b]).sel = some true := by
  by_cases a1 : (a.length : Int) > 100
  · exact selT (dt a1)
  refine (selF (df a1)).trans ?_
  by_cases a2 : (b.length : Int) > 100
  · exact selT (dt a2)
  refine (selF (df a2)).trans ?_
  obtain ⟨r1, e1, h1⟩ := t29 n0 n1 n2 n4 n5 n6 a b ha
  obtain ⟨r2, e2, h2⟩ := t30 n0 n1 n2 n4 n5 n6 a b ha
  obtain ⟨r3, e3, h3⟩ := t29 n4 n5 n6 n0 n1 n2 b a hb
  obtain ⟨r4, e4, h4⟩ := t29 n0 n1 n2 n0 n1 n2 a a ha
  have q12 : r1 = r2 := by rw [Bool.eq_iff_iff, h1, h2]
  have q13 : r3 = r1 := by rw [Bool.eq_iff_iff, h1, h3]; constructor <;> rintro ⟨rfl, rfl, rfl, rfl⟩ <;> simp
  have q4 : r4 = true := h4.2 ⟨rfl, rfl, rfl, rfl⟩
  subst q12 q13 q4
  have g1 := congrArg (fun r => gb (dOf r) 0) e1
  have g2 := congrArg (fun r => gb (dOf r) 0) e2
  have g3 := congrArg (fun r => gb (dOf r) 0) e3
  have g4 := congrArg (fun r => gb (dOf r) 0) e4
  have bb : ∀ {x y z : Bool}, x = z → y = z → (x == y) = true := by intro x y z h k; subst h; subst k; simp
  exact (selT (congrArg (isK 0 [HK.b]) e1)).trans ((selT (congrArg (isK 0 [HK.b]) e2)).trans ((selT (bb g1 g2)).trans ((selT (congrArg (isK 0 [HK.b]) e3)).trans ((selT (bb g3 g1)).trans ((selT (congrArg (isK 0 [HK.b]) e4)).trans (selT g4))))))
theorem ofInt32 (w : BitVec 32) : BitVec.ofInt 32 (w.toNat : Int) = w := by
  apply BitVec.eq_of_toNat_eq
  simp
theorem and_andnot (x y : Int) : iand .u32 (iandnot .u32 x y) (iandnot .u32 y x) = 0 := by
  unfold iand iandnot
  have e : ∀ (u v : BitVec 32), BitVec.ofInt 32 (IntKind.wrap .u32 ((u &&& ~~~v).toNat : Int)) = u &&& ~~~v := by
    intro u v
    have h := (u &&& ~~~v).isLt
    rw [IntWalk.u32_in _ ⟨by omega, by omega⟩]
    exact ofInt32 _
  show IntKind.wrap .u32 ((BitVec.ofInt 32 (IntKind.wrap .u32 ((BitVec.ofInt 32 x &&& ~~~(BitVec.ofInt 32 y)).toNat : Int)) &&& BitVec.ofInt 32 (IntKind.wrap .u32 ((BitVec.ofInt 32 y &&& ~~~(BitVec.ofInt 32 x)).toNat : Int))).toNat : Int) = 0
  rw [e, e]
  have z : ∀ (u v : BitVec 32), (u &&& ~~~v) &&& (v &&& ~~~u) = 0#32 := by
    intro u v
    ext i hi
    simp
    intro h1 h2 h3
    simp_all
  rw [z]
  rfl
theorem t6 (n0 n1 : Int) : (fn_W6 [.n n0, .n n1]).sel = some true :=
  (selT (bt rfl)).trans ((selT (bt rfl)).trans (selT (bt (and_andnot n0 n1))))
end Go.Proofs.Ytfnkldkplkhobaa.Vx.Sa
