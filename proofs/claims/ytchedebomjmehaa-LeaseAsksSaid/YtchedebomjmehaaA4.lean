import Derived.Test.YtchedebomjmehaaA3
namespace Go.Proofs.Ytchedebomjmehaa.Sx
open Go Go.RowKit
set_option linter.unusedVariables false
set_option maxRecDepth 100000
theorem right_same (e h u : Int) : right42_0 e h u = right43_0 e h u := by
  unfold right42_0 right43_0
  simp only [Bool.cond_eq_ite, decide_eq_true_eq]
  repeat' split
  all_goals first | rfl | (exfalso; omega)
theorem right_bd (e h u : Int) (hr : right43_0 e h u = true) : h ≥ -1 := by
  unfold right43_0 at hr
  simp only [Bool.cond_eq_ite, decide_eq_true_eq] at hr
  grind (splits := 40)
set_option maxHeartbeats 1000000 in
theorem ask_same0 (e h u p n : Int) : ask39_0 e h u p n = ask41_0 e h u p n := by
  have hb := right_bd e h u
  unfold ask39_0 ask41_0
  rw [right_same]
  simp only [Bool.cond_eq_ite, decide_eq_true_eq, beq_iff_eq, bne_iff_ne]
  grind (splits := 40)
set_option maxHeartbeats 2000000 in
theorem same_ask39_1 (e h u p n : Int) : ask39_1 e h u p n = ask41_1 e h u p n := by
  have hb := right_bd e h u
  unfold ask39_1 ask41_1
  rw [right_same]
  simp only [Bool.cond_eq_ite, decide_eq_true_eq, beq_iff_eq, bne_iff_ne]
  grind (splits := 40)
set_option maxHeartbeats 2000000 in
theorem same_ask39_2 (e h u p n : Int) : ask39_2 e h u p n = ask41_2 e h u p n := by
  have hb := right_bd e h u
  unfold ask39_2 ask41_2
  rw [right_same]
  simp only [Bool.cond_eq_ite, decide_eq_true_eq, beq_iff_eq, bne_iff_ne]
  grind (splits := 40)
set_option maxHeartbeats 2000000 in
theorem same_ask39_3 (e h u p n : Int) : ask39_3 e h u p n = ask41_3 e h u p n := by
  have hb := right_bd e h u
  unfold ask39_3 ask41_3
  rw [right_same]
  simp only [Bool.cond_eq_ite, decide_eq_true_eq, beq_iff_eq, bne_iff_ne]
  grind (splits := 40)
set_option maxHeartbeats 2000000 in
theorem same_ask39_4 (e h u p n : Int) : ask39_4 e h u p n = ask41_4 e h u p n := by
  have hb := right_bd e h u
  unfold ask39_4 ask41_4
  rw [right_same]
  simp only [Bool.cond_eq_ite, decide_eq_true_eq, beq_iff_eq, bne_iff_ne]
  grind (splits := 40)
set_option maxHeartbeats 2000000 in
theorem same_ask39_5 (e h u p n : Int) : ask39_5 e h u p n = ask41_5 e h u p n := by
  have hb := right_bd e h u
  unfold ask39_5 ask41_5
  rw [right_same]
  simp only [Bool.cond_eq_ite, decide_eq_true_eq, beq_iff_eq, bne_iff_ne]
  grind (splits := 40)
set_option maxHeartbeats 2000000 in
theorem same_renew45_2 (e h u p k n : Int) : renew45_2 e h u p k n = renew46_2 e h u p k n := by
  have hb := right_bd e h u
  unfold renew45_2 renew46_2
  rw [right_same]
  simp only [Bool.cond_eq_ite, decide_eq_true_eq, beq_iff_eq, bne_iff_ne]
  grind (splits := 40)
set_option maxHeartbeats 2000000 in
theorem same_renew45_3 (e h u p k n : Int) : renew45_3 e h u p k n = renew46_3 e h u p k n := by
  have hb := right_bd e h u
  unfold renew45_3 renew46_3
  rw [right_same]
  simp only [Bool.cond_eq_ite, decide_eq_true_eq, beq_iff_eq, bne_iff_ne]
  grind (splits := 40)
set_option maxHeartbeats 2000000 in
theorem same_renew45_4 (e h u p k n : Int) : renew45_4 e h u p k n = renew46_4 e h u p k n := by
  have hb := right_bd e h u
  unfold renew45_4 renew46_4
  rw [right_same]
  simp only [Bool.cond_eq_ite, decide_eq_true_eq, beq_iff_eq, bne_iff_ne]
  grind (splits := 40)
set_option maxHeartbeats 2000000 in
theorem same_renew45_5 (e h u p k n : Int) : renew45_5 e h u p k n = renew46_5 e h u p k n := by
  have hb := right_bd e h u
  unfold renew45_5 renew46_5
  rw [right_same]
  simp only [Bool.cond_eq_ite, decide_eq_true_eq, beq_iff_eq, bne_iff_ne]
  grind (splits := 40)
set_option maxHeartbeats 2000000 in
theorem same_give47_1 (e h u p n : Int) : give47_1 e h u p n = give48_1 e h u p n := by
  have hb := right_bd e h u
  unfold give47_1 give48_1
  rw [right_same]
  simp only [Bool.cond_eq_ite, decide_eq_true_eq, beq_iff_eq, bne_iff_ne]
  grind (splits := 40)
set_option maxHeartbeats 2000000 in
theorem same_give47_3 (e h u p n : Int) : give47_3 e h u p n = give48_3 e h u p n := by
  have hb := right_bd e h u
  unfold give47_3 give48_3
  rw [right_same]
  simp only [Bool.cond_eq_ite, decide_eq_true_eq, beq_iff_eq, bne_iff_ne]
  grind (splits := 40)

theorem law10 (e h u p n : Int) (w : World) : Calls Try.prog 10 #[.agg #[.int .i64 e, .int .i64 h, .int .i64 u], .int .i64 p, .int .i64 n] w fun x w' => x = .returned (.bool true) ∧ Below w.heap.size w w' :=
  evPure_plain (v := .bool true) cs2_ok 1000 [some true, some true, some true, some true, some true]
    [(ask39_0 e h u p n == ask41_0 e h u p n && (ask39_1 e h u p n == ask41_1 e h u p n && (ask39_2 e h u p n == ask41_2 e h u p n && true))) = true, (ask39_3 e h u p n == ask41_3 e h u p n) = true, (ask39_4 e h u p n == ask41_4 e h u p n) = true, (ask39_5 e h u p n == ask41_5 e h u p n) = true, (right42_0 e h u == right43_0 e h u) = true]
    (by kernel_rfl) (Alls.cons (by simp [ask_same0, same_ask39_1, same_ask39_2]) (Alls.cons (by simp [same_ask39_3]) (Alls.cons (by simp [same_ask39_4]) (Alls.cons (by simp [same_ask39_5]) (Alls.cons (by simp [right_same]) Alls.nil))))) rfl rfl w
theorem law11 (e h u p k n : Int) (w : World) : Calls Try.prog 11 #[.agg #[.int .i64 e, .int .i64 h, .int .i64 u], .int .i64 p, .int .i64 k, .int .i64 n] w fun x w' => x = .returned (.bool true) ∧ Below w.heap.size w w' :=
  evPure_plain (v := .bool true) cs2_ok 1000 [some true, some true, some true, some true]
    [(e == e && (h == h && (renew45_2 e h u p k n == renew46_2 e h u p k n && true))) = true, (renew45_3 e h u p k n == renew46_3 e h u p k n) = true, (renew45_4 e h u p k n == renew46_4 e h u p k n) = true, (renew45_5 e h u p k n == renew46_5 e h u p k n) = true]
    (by kernel_rfl) (Alls.cons (by simp [same_renew45_2]) (Alls.cons (by simp [same_renew45_3]) (Alls.cons (by simp [same_renew45_4]) (Alls.cons (by simp [same_renew45_5]) Alls.nil)))) rfl rfl w
theorem law12 (e h u p n : Int) (w : World) : Calls Try.prog 12 #[.agg #[.int .i64 e, .int .i64 h, .int .i64 u], .int .i64 p, .int .i64 n] w fun x w' => x = .returned (.bool true) ∧ Below w.heap.size w w' :=
  evPure_plain (v := .bool true) cs2_ok 1000 [some true, some true]
    [(e == e && (give47_1 e h u p n == give48_1 e h u p n && (u == u && true))) = true, (give47_3 e h u p n == give48_3 e h u p n) = true]
    (by kernel_rfl) (Alls.cons (by simp [same_give47_1]) (Alls.cons (by simp [same_give47_3]) Alls.nil)) rfl rfl w
end Go.Proofs.Ytchedebomjmehaa.Sx
