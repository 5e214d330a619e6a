import Derived.Test.YtkclmlcfdijbmaaY24b
import Derived.Test.YtkclmlcfdijbmaaX24c
namespace Go.Proofs.Ytkclmlcfdijbmaa.Vx
open Go Go.RowKit
set_option linter.unusedVariables false
set_option linter.unusedSimpArgs false
set_option maxRecDepth 100000
set_option maxHeartbeats 0
variable {s1 s2 of at_ a b c d si pa ms mc : Int} {ar : LB} {x st : Bool} {l1 l2 l3 l4 : Int} {la : LB}
theorem v101 (pair ep cyc pr pt e p : Int) : op_101 (.n pair :: .n ep :: .n cyc :: .n pr :: .n pt :: .n l1 :: .n l2 :: .n l3 :: .l TB la :: .n l4 :: MD pa ms st e p mc s1 s2 x a b c ar d at_ of) =
    if fErr e p pair ep ≠ 0 then some (0, .n (fErr e p pair ep) :: MD pa ms st e p mc s1 s2 x a b c ar d at_ of)
    else if badX cyc pr l1 then some (0, .n 2 :: MD pa ms st e p mc s1 s2 x a b c ar d at_ of)
    else if st = true then some (0, .n 220 :: MD pa ms st (if ep > e then ep else e) (if ep > e then pair else p) (if ep > e then -1 else mc) s1 s2 x a b c ar d at_ of)
    else if cyc ≤ (if ep > e then -1 else mc) then some (0, .n 4 :: MD pa ms st (if ep > e then ep else e) (if ep > e then pair else p) (if ep > e then -1 else mc) s1 s2 x a b c ar d at_ of)
    else some (0, .n 0 :: MD pa 0 st (if ep > e then ep else e) (if ep > e then pair else p) cyc pr pt true l1 l2 l3 la l4 cyc ep) := by
  show (fn_101 [.n pair, .n ep, .n cyc, .n pr, .n pt, .n l1, .n l2, .n l3, .l TB la, .n l4, .n pa, .n ms, .b st, .n e, .n p, .n mc, .n s1, .n s2, .b x, .n a, .n b, .n c, .l TB ar, .n d, .n at_, .n of]).sel = _
  have e1 := v97 (s1 := s1) (s2 := s2) (of := of) (at_ := at_) (a := a) (b := b) (c := c) (d := d) (ms := ms) (mc := mc) (pa := pa) (ar := ar) (x := x) (st := st) pair ep e p
  by_cases h : fErr e p pair ep = 0
  · rw [if_neg (fun q => q h)]
    have hR : (fErr e p pair ep = 0 ∧ ep > e) = (ep > e) := by rw [h]; simp
    simp only [hR] at e1
    rw [h] at e1
    refine (selT (congrArg (isK 0 _) e1)).trans ((selF (congrArg (fun r => gn (dOf r) 0 != 0) e1)).trans ?_)
    by_cases q1 : cyc < 0
    · rw [if_pos (.inl q1)]; exact selT (dt q1)
    refine (selF (df q1)).trans ?_
    by_cases q2 : cyc > 1099511627776
    · rw [if_pos (.inr (.inl q2))]; exact selT (dt q2)
    refine (selF (df q2)).trans ?_
    by_cases q3 : iandnot .u64 pr l1 = 0
    · rw [if_neg (by unfold badX; omega)]
      refine (selF (bz q3)).trans ?_
      cases st with
      | true =>
        rw [if_pos rfl]
        refine (selT (congrArg (fun r => gb (dOf r) 3) e1)).trans ?_
        exact congrArg (fun r => some (0, [Dat.n 220, Dat.n (gn (dOf r) 1), Dat.n (gn (dOf r) 2), Dat.b (gb (dOf r) 3), Dat.n (gn (dOf r) 4), Dat.n (gn (dOf r) 5), Dat.n (gn (dOf r) 6), Dat.n (gn (dOf r) 7), Dat.n (gn (dOf r) 8), Dat.b (gb (dOf r) 9), Dat.n (gn (dOf r) 10), Dat.n (gn (dOf r) 11), Dat.n (gn (dOf r) 12), Dat.l TB (gl TB (dOf r) 13), Dat.n (gn (dOf r) 14), Dat.n (gn (dOf r) 15), Dat.n (gn (dOf r) 16)])) e1
      | false =>
        rw [if_neg (by simp)]
        refine (selF (congrArg (fun r => gb (dOf r) 3) e1)).trans ?_
        have hc : decide (cyc ≤ gn (dOf (op_97 [.n pair, .n ep, .n pa, .n ms, .b false, .n e, .n p, .n mc, .n s1, .n s2, .b x, .n a, .n b, .n c, .l TB ar, .n d, .n at_, .n of])) 6) = decide (cyc ≤ (if ep > e then -1 else mc)) := congrArg (fun r => decide (cyc ≤ gn (dOf r) 6)) e1
        by_cases q4 : cyc ≤ (if ep > e then -1 else mc)
        · rw [if_pos q4]
          refine (selT (hc.trans (dt q4))).trans ?_
          exact congrArg (fun r => some (0, [Dat.n 4, Dat.n (gn (dOf r) 1), Dat.n (gn (dOf r) 2), Dat.b (gb (dOf r) 3), Dat.n (gn (dOf r) 4), Dat.n (gn (dOf r) 5), Dat.n (gn (dOf r) 6), Dat.n (gn (dOf r) 7), Dat.n (gn (dOf r) 8), Dat.b (gb (dOf r) 9), Dat.n (gn (dOf r) 10), Dat.n (gn (dOf r) 11), Dat.n (gn (dOf r) 12), Dat.l TB (gl TB (dOf r) 13), Dat.n (gn (dOf r) 14), Dat.n (gn (dOf r) 15), Dat.n (gn (dOf r) 16)])) e1
        · rw [if_neg q4]
          refine (selF (hc.trans (df q4))).trans ?_
          exact congrArg (fun r => some (0, [Dat.n 0, Dat.n (gn (dOf r) 1), Dat.n 0, Dat.b (gb (dOf r) 3), Dat.n (gn (dOf r) 4), Dat.n (gn (dOf r) 5), Dat.n cyc, Dat.n pr, Dat.n pt, Dat.b true, Dat.n l1, Dat.n l2, Dat.n l3, Dat.l TB la, Dat.n l4, Dat.n cyc, Dat.n ep])) e1
    · rw [if_pos (.inr (.inr q3))]; exact selT (bnz q3)
  · rw [if_pos h]
    have n1 : ¬ (fErr e p pair ep = 0 ∧ ep > e) := fun q => h q.1
    rw [if_neg n1, if_neg n1, if_neg n1] at e1
    refine (selT (congrArg (isK 0 _) e1)).trans ((selT ((congrArg (fun r => gn (dOf r) 0 != 0) e1).trans (bnz h))).trans ?_)
    exact congrArg (fun r => some (0, [Dat.n (gn (dOf r) 0), Dat.n (gn (dOf r) 1), Dat.n (gn (dOf r) 2), Dat.b (gb (dOf r) 3), Dat.n (gn (dOf r) 4), Dat.n (gn (dOf r) 5), Dat.n (gn (dOf r) 6), Dat.n (gn (dOf r) 7), Dat.n (gn (dOf r) 8), Dat.b (gb (dOf r) 9), Dat.n (gn (dOf r) 10), Dat.n (gn (dOf r) 11), Dat.n (gn (dOf r) 12), Dat.l TB (gl TB (dOf r) 13), Dat.n (gn (dOf r) 14), Dat.n (gn (dOf r) 15), Dat.n (gn (dOf r) 16)])) e1
/-! ### The whole -/

theorem bz' (n : Int) : (n != n) = false := by simp
def Sil (n si pa ms : Int) : Prop := 0 ≤ si ∧ si ≤ n ∧ n ≤ 300 ∧ 1 ≤ pa ∧ pa ≤ 1000 ∧ ((si ≤ pa ∧ ms = si) ∨ (pa < si ∧ pa < ms ∧ ms ≤ pa + 1))
def HA (n : Int) (l : List Dat) : Prop := ∃ e p s1 s2 of at_ a b c ar d x si pa st ms, l = RA e p s1 s2 of at_ a b c ar d x si pa st ++ MD pa ms st e p (-1) s1 s2 x a b c ar d at_ of ∧ Sil n si pa ms
def HB (n : Int) (l : List Dat) : Prop := ∃ e p cy s1 s2 of at_ a b c ar d x si pa st ms, l = RB e p cy s1 s2 of at_ a b c ar d x si pa st ++ MD pa ms st e p cy s1 s2 x a b c ar d at_ of ∧ Sil n si pa ms
theorem eqL_self (ar : LB) : eqL TB ar ar = true := by
  induction ar with
  | nil => rfl
  | cons y l ih =>
    show (eqD TB y y && eqL TB l l) = true
    rw [ih]
    rw [Bool.and_true]
    exact beq_self_eq_true (α := Int) y
theorem v31a {n : Int} {l : List Dat} (h : HA n l) : op_31a l = some (0, [.b true]) := by
  obtain ⟨e, p, s1, s2, of, at_, a, b, c, ar, d, x, si, pa, st, ms, rfl, _⟩ := h
  show (fn_31a (.n e :: .n p :: .n s1 :: .n s2 :: .n of :: .n at_ :: .n a :: .n b :: .n c :: .l TB ar :: .n d :: .b x :: .n si :: .n pa :: .b st :: .n pa :: .n ms :: .b st :: .n e :: .n p :: .n (-1) :: .n s1 :: .n s2 :: .b x :: .n a :: .n b :: .n c :: .l TB ar :: .n d :: .n at_ :: .n of :: [])).sel = _
  refine (selF (by cases x <;> rfl)).trans ((selF ?_).trans ((selF (bz' _)).trans ((selF (bz' _)).trans ((selT ?_).trans ((selT (by cases st <;> rfl)).trans ((selT (beq_iff_eq.2 rfl)).trans ((selT (beq_iff_eq.2 rfl)).trans ?_)))))))
  · show (!((a == a) && ((b == b) && ((c == c) && (eqL TB ar ar && ((d == d) && true)))))) = false
    rw [eqL_self]; simp
  · show ((s1 == s1) && ((s2 == s2) && true)) = true
    simp
  · rfl
theorem v31b {n : Int} {l : List Dat} (h : HB n l) : op_31b l = some (0, [.b true]) := by
  obtain ⟨e, p, cy, s1, s2, of, at_, a, b, c, ar, d, x, si, pa, st, ms, rfl, _⟩ := h
  show (fn_31b (.n e :: .n p :: .n cy :: .n s1 :: .n s2 :: .n of :: .n at_ :: .n a :: .n b :: .n c :: .l TB ar :: .n d :: .b x :: .n si :: .n pa :: .b st :: .n pa :: .n ms :: .b st :: .n e :: .n p :: .n cy :: .n s1 :: .n s2 :: .b x :: .n a :: .n b :: .n c :: .l TB ar :: .n d :: .n at_ :: .n of :: [])).sel = _
  refine (selF (by cases x <;> rfl)).trans ((selF ?_).trans ((selF (bz' _)).trans ((selF (bz' _)).trans ((selT ?_).trans ((selT (by cases st <;> rfl)).trans ((selT (beq_iff_eq.2 rfl)).trans ((selT (beq_iff_eq.2 rfl)).trans ?_)))))))
  · show (!((a == a) && ((b == b) && ((c == c) && (eqL TB ar ar && ((d == d) && true)))))) = false
    rw [eqL_self]; simp
  · show ((s1 == s1) && ((s2 == s2) && true)) = true
    simp
  · show some (0, [Dat.b (cy == cy)]) = _
    simp
end Go.Proofs.Ytkclmlcfdijbmaa.Vx
