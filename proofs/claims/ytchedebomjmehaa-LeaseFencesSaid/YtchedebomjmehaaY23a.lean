import Derived.Test.YtchedebomjmehaaX23
import Derived.Test.YtchedebomjmehaaVxAid
import Derived.Test.YtchedebomjmehaaVxBits
namespace Go.Proofs.Ytchedebomjmehaa.Vx
open Go Go.RowKit
set_option linter.unusedVariables false
set_option linter.unusedSimpArgs false
set_option maxRecDepth 100000
set_option maxHeartbeats 0
abbrev LI := List (Ty.den TI)
def inM (m x : Int) : Prop := 0 ≤ x ∧ x ≤ m
instance (m x : Int) : Decidable (inM m x) := by unfold inM; infer_instance
theorem l66a {m a : Int} (l : List Int) (n i : Int) (h0 : 0 ≤ i) (h1 : i < n) (h2 : n ≤ l.length) (h3 : n ≤ 10) (e : l.getD i.toNat (0 : Int) = a) :
    (fn_L66_2 [.n m, .l TI (ofI l), .n n, .n i]).sel = if inM m a then some (.go [.n m, .l TI (ofI l), .n n, .n (i + 1)]) else some (.stop 1 [.b false]) := by
  have w : IntKind.wrap .i64 (i + 1) = i + 1 := w64 (by omega) (by omega)
  simp only [fn_L66_2, den_len, den_getD, den_getD2, e]
  refine (selT (dt h1)).trans ((selT (inR_true h0 (by omega))).trans ?_)
  by_cases q : a < 0
  · rw [if_neg (by unfold inM; omega)]; exact selT (dt q)
  refine (selF (df q)).trans ?_
  by_cases r : a > m
  · rw [if_neg (by unfold inM; omega)]; exact selT (dt r)
  refine (selF (df r)).trans ?_
  rw [if_pos (by unfold inM; omega), w]; rfl
theorem u66a (m a : Int) : op_66 [.n m, .l TI (ofI [a])] = some (0, [.b (decide (inM m a))]) := by
  have e : op_L66_2 [.n m, .l TI (ofI [a]), .n 1, .n 0] = if inM m a then some (0, []) else some (1, [.b false]) := by
    show iterS fn_L66_2 (18446744073709551614 + 1 + 1) _ = _
    have g := l66a (m := m) (a := a) [a] 1 0 (by omega) (by omega) (by simp) (by omega) rfl
    by_cases h : inM m a
    · rw [if_pos h] at g ⊢
      rw [iter_go g]
      exact iter_stop (selF (df (by omega)))
    · rw [if_neg h] at g ⊢
      exact iter_stop g
  show (fn_66 [.n m, .l TI (ofI [a])]).sel = _
  by_cases h : inM m a
  · rw [if_pos h] at e
    rw [decide_eq_true h]
    exact (selT (congrArg (isK 0 []) e)).trans rfl
  · rw [if_neg h] at e
    rw [decide_eq_false h]
    exact (selF (congrArg (isK 0 []) e)).trans ((selT (congrArg (isK 1 [HK.b]) e)).trans (congrArg (fun r => some (0, [Dat.b (gb (dOf r) 0)])) e))
theorem u66b (m a b : Int) : op_66 [.n m, .l TI (ofI [a, b])] = some (0, [.b (decide (inM m a ∧ inM m b))]) := by
  have e : op_L66_2 [.n m, .l TI (ofI [a, b]), .n 2, .n 0] = if inM m a ∧ inM m b then some (0, []) else some (1, [.b false]) := by
    show iterS fn_L66_2 (18446744073709551613 + 1 + 1 + 1) _ = _
    have g := l66a (m := m) (a := a) [a, b] 2 0 (by omega) (by omega) (by simp) (by omega) rfl
    have g2 := l66a (m := m) (a := b) [a, b] 2 (0 + 1) (by omega) (by omega) (by simp) (by omega) rfl
    by_cases h : inM m a
    · rw [if_pos h] at g
      rw [iter_go g]
      by_cases k : inM m b
      · rw [if_pos k] at g2
        rw [if_pos ⟨h, k⟩, iter_go g2]
        exact iter_stop (selF (df (by omega)))
      · rw [if_neg k] at g2
        rw [if_neg (fun q => k q.2)]
        exact iter_stop g2
    · rw [if_neg h] at g
      rw [if_neg (fun q => h q.1)]
      exact iter_stop g
  show (fn_66 [.n m, .l TI (ofI [a, b])]).sel = _
  by_cases h : inM m a ∧ inM m b
  · rw [if_pos h] at e
    rw [decide_eq_true h]
    exact (selT (congrArg (isK 0 []) e)).trans rfl
  · rw [if_neg h] at e
    rw [decide_eq_false h]
    exact (selF (congrArg (isK 0 []) e)).trans ((selT (congrArg (isK 1 [HK.b]) e)).trans (congrArg (fun r => some (0, [Dat.b (gb (dOf r) 0)])) e))
abbrev MC : Int := 1099511627776
abbrev MU : Int := 1099511627784
/-- A book that is right. -/
def Rt (e h u : Int) : Prop := inM MC e ∧ inM MU u ∧ -1 ≤ h ∧ h ≤ 1 ∧ (e > 0 ∨ h = -1)
instance (e h u : Int) : Decidable (Rt e h u) := by unfold Rt; infer_instance
theorem u42 (e h u : Int) : op_42 [.n e, .n h, .n u] = some (0, [.b (decide (Rt e h u))]) := by
  have e1 := u66a MC e
  have e2 := u66a MU u
  show (fn_42 [.n e, .n h, .n u]).sel = _
  refine (selT (congrArg (isK 0 _) e1)).trans ?_
  have b1 := congrArg (fun r => gb (dOf r) 0) e1
  have b2 := congrArg (fun r => gb (dOf r) 0) e2
  by_cases q1 : inM MC e
  rotate_left
  · rw [decide_eq_false (p := Rt e h u) (fun r => q1 r.1)]
    exact selF (b1.trans (df q1))
  refine (selT (b1.trans (dt q1))).trans ((selT (congrArg (isK 0 _) e2)).trans ?_)
  by_cases q2 : inM MU u
  rotate_left
  · rw [decide_eq_false (p := Rt e h u) (fun r => q2 r.2.1)]
    exact selF (b2.trans (df q2))
  refine (selT (b2.trans (dt q2))).trans ?_
  by_cases q3 : h ≥ -1
  rotate_left
  · rw [decide_eq_false (p := Rt e h u) (fun r => q3 r.2.2.1)]
    exact selF (df q3)
  refine (selT (dt q3)).trans ?_
  by_cases q4 : h ≤ 1
  rotate_left
  · rw [decide_eq_false (p := Rt e h u) (fun r => q4 r.2.2.2.1)]
    exact selF (df q4)
  refine (selT (dt q4)).trans ?_
  by_cases q5 : e > 0
  · rw [decide_eq_true (p := Rt e h u) ⟨q1, q2, q3, q4, .inl q5⟩]
    exact selT (dt q5)
  refine (selF (df q5)).trans ?_
  show some (0, [Dat.b (h == -1)]) = _
  by_cases q6 : h = -1
  · rw [decide_eq_true (p := Rt e h u) ⟨q1, q2, q3, q4, .inr q6⟩, q6]; rfl
  · rw [decide_eq_false (p := Rt e h u) (fun r => r.2.2.2.2.elim q5 q6), beq_false_of_ne q6]
theorem u64_ (e h u p : Int) (l : LI) (t : Bool) (hl : op_66 [.n MC, .l TI l] = some (0, [.b t])) : op_64 [.n e, .n h, .n u, .n p, .l TI l] = some (0, [.b (decide (Rt e h u ∧ inM 1 p) && t)]) := by
  have e1 := u42 e h u
  have e2 := u66a 1 p
  have b1 := congrArg (fun r => gb (dOf r) 0) e1
  have b2 := congrArg (fun r => gb (dOf r) 0) e2
  show (fn_64 [.n e, .n h, .n u, .n p, .l TI l]).sel = _
  refine (selT (congrArg (isK 0 _) e1)).trans ?_
  by_cases q1 : Rt e h u
  rotate_left
  · rw [decide_eq_false (fun r => q1 r.1)]
    exact selF (b1.trans (df q1))
  refine (selT (b1.trans (dt q1))).trans ((selT (congrArg (isK 0 _) e2)).trans ?_)
  by_cases q2 : inM 1 p
  rotate_left
  · rw [decide_eq_false (fun r => q2 r.2)]
    exact selF (b2.trans (df q2))
  refine (selT (b2.trans (dt q2))).trans ((selT (congrArg (isK 0 _) hl)).trans ?_)
  rw [decide_eq_true ⟨q1, q2⟩]
  exact congrArg (fun r => some (0, [Dat.b (gb (dOf r) 0)])) hl
end Go.Proofs.Ytchedebomjmehaa.Vx
