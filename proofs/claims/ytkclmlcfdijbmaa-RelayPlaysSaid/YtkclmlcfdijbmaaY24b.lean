import Derived.Test.YtkclmlcfdijbmaaY24
namespace Go.Proofs.Ytkclmlcfdijbmaa.Vx
open Go Go.RowKit
set_option linter.unusedVariables false
set_option linter.unusedSimpArgs false
set_option maxRecDepth 100000
set_option maxHeartbeats 0
variable {s1 s2 of at_ a b c d si pa ms mc : Int} {ar : LB} {x st : Bool}
theorem bz {n : Int} (h : n = 0) : (n != 0) = false := by subst h; rfl
theorem bnz {n : Int} (h : n ≠ 0) : (n != 0) = true := by simpa using h
theorem v34a (pair ep e p : Int) : op_34a (.n pair :: .n ep :: RA e p s1 s2 of at_ a b c ar d x si pa st) =
    if fErr e p pair ep = 0 then some (0, .n 0 :: RA (if fErr e p pair ep = 0 ∧ ep > e then ep else e) (if fErr e p pair ep = 0 ∧ ep > e then pair else p) 0 s2 of at_ a b c ar d x si pa true)
    else some (0, .n (fErr e p pair ep) :: RA e p s1 s2 of at_ a b c ar d x si pa st) := by
  show (fn_34a [.n pair, .n ep, .n e, .n p, .n s1, .n s2, .n of, .n at_, .n a, .n b, .n c, .l TB ar, .n d, .b x, .n si, .n pa, .b st]).sel = _
  have e1 := v33a (s1 := s1) (s2 := s2) (of := of) (at_ := at_) (a := a) (b := b) (c := c) (d := d) (si := si) (pa := pa) (ar := ar) (x := x) (st := st) pair ep e p
  by_cases h : fErr e p pair ep = 0
  · rw [if_pos h]
    refine (selT (congrArg (isK 0 _) e1)).trans ((selF ((congrArg (fun r => gn (dOf r) 0 != 0) e1).trans (bz h))).trans ?_)
    exact congrArg (fun r => some (0, [Dat.n 0, Dat.n (gn (dOf r) 1), Dat.n (gn (dOf r) 2), Dat.n 0, Dat.n (gn (dOf r) 4), Dat.n (gn (dOf r) 5), Dat.n (gn (dOf r) 6), Dat.n (gn (dOf r) 7), Dat.n (gn (dOf r) 8), Dat.n (gn (dOf r) 9), Dat.l TB (gl TB (dOf r) 10), Dat.n (gn (dOf r) 11), Dat.b (gb (dOf r) 12), Dat.n (gn (dOf r) 13), Dat.n (gn (dOf r) 14), Dat.b true])) e1
  · rw [if_neg h]
    have n1 : ¬ (fErr e p pair ep = 0 ∧ ep > e) := fun q => h q.1
    rw [if_neg n1, if_neg n1] at e1
    refine (selT (congrArg (isK 0 _) e1)).trans ((selT ((congrArg (fun r => gn (dOf r) 0 != 0) e1).trans (bnz h))).trans ?_)
    exact congrArg (fun r => some (0, [Dat.n (gn (dOf r) 0), Dat.n (gn (dOf r) 1), Dat.n (gn (dOf r) 2), Dat.n (gn (dOf r) 3), Dat.n (gn (dOf r) 4), Dat.n (gn (dOf r) 5), Dat.n (gn (dOf r) 6), Dat.n (gn (dOf r) 7), Dat.n (gn (dOf r) 8), Dat.n (gn (dOf r) 9), Dat.l TB (gl TB (dOf r) 10), Dat.n (gn (dOf r) 11), Dat.b (gb (dOf r) 12), Dat.n (gn (dOf r) 13), Dat.n (gn (dOf r) 14), Dat.b (gb (dOf r) 15)])) e1
theorem v34b (pair ep e p cy : Int) : op_34b (.n pair :: .n ep :: RB e p cy s1 s2 of at_ a b c ar d x si pa st) =
    if fErr e p pair ep = 0 ∧ ep > e then some (0, .n 0 :: RA ep pair 0 s2 of at_ a b c ar d x si pa true)
    else if fErr e p pair ep = 0 then some (1, .n 0 :: RB e p cy 0 s2 of at_ a b c ar d x si pa true)
    else some (1, .n (fErr e p pair ep) :: RB e p cy s1 s2 of at_ a b c ar d x si pa st) := by
  show (fn_34b [.n pair, .n ep, .n e, .n p, .n cy, .n s1, .n s2, .n of, .n at_, .n a, .n b, .n c, .l TB ar, .n d, .b x, .n si, .n pa, .b st]).sel = _
  have e1 := v33b (s1 := s1) (s2 := s2) (of := of) (at_ := at_) (a := a) (b := b) (c := c) (d := d) (si := si) (pa := pa) (ar := ar) (x := x) (st := st) pair ep e p cy
  by_cases hR : fErr e p pair ep = 0 ∧ ep > e
  · rw [if_pos hR] at e1 ⊢
    refine (selT (congrArg (isK 0 _) e1)).trans ((selF (congrArg (fun r => gn (dOf r) 0 != 0) e1)).trans ?_)
    exact congrArg (fun r => some (0, [Dat.n 0, Dat.n (gn (dOf r) 1), Dat.n (gn (dOf r) 2), Dat.n 0, Dat.n (gn (dOf r) 4), Dat.n (gn (dOf r) 5), Dat.n (gn (dOf r) 6), Dat.n (gn (dOf r) 7), Dat.n (gn (dOf r) 8), Dat.n (gn (dOf r) 9), Dat.l TB (gl TB (dOf r) 10), Dat.n (gn (dOf r) 11), Dat.b (gb (dOf r) 12), Dat.n (gn (dOf r) 13), Dat.n (gn (dOf r) 14), Dat.b true])) e1
  · rw [if_neg hR] at e1 ⊢
    refine (selF (congrArg (isK 0 _) e1)).trans ((selT (congrArg (isK 1 _) e1)).trans ?_)
    by_cases h : fErr e p pair ep = 0
    · rw [if_pos h]
      refine (selF ((congrArg (fun r => gn (dOf r) 0 != 0) e1).trans (bz h))).trans ?_
      exact congrArg (fun r => some (1, [Dat.n 0, Dat.n (gn (dOf r) 1), Dat.n (gn (dOf r) 2), Dat.n (gn (dOf r) 3), Dat.n 0, Dat.n (gn (dOf r) 5), Dat.n (gn (dOf r) 6), Dat.n (gn (dOf r) 7), Dat.n (gn (dOf r) 8), Dat.n (gn (dOf r) 9), Dat.n (gn (dOf r) 10), Dat.l TB (gl TB (dOf r) 11), Dat.n (gn (dOf r) 12), Dat.b (gb (dOf r) 13), Dat.n (gn (dOf r) 14), Dat.n (gn (dOf r) 15), Dat.b true])) e1
    · rw [if_neg h]
      refine (selT ((congrArg (fun r => gn (dOf r) 0 != 0) e1).trans (bnz h))).trans ?_
      exact congrArg (fun r => some (1, [Dat.n (gn (dOf r) 0), Dat.n (gn (dOf r) 1), Dat.n (gn (dOf r) 2), Dat.n (gn (dOf r) 3), Dat.n (gn (dOf r) 4), Dat.n (gn (dOf r) 5), Dat.n (gn (dOf r) 6), Dat.n (gn (dOf r) 7), Dat.n (gn (dOf r) 8), Dat.n (gn (dOf r) 9), Dat.n (gn (dOf r) 10), Dat.l TB (gl TB (dOf r) 11), Dat.n (gn (dOf r) 12), Dat.b (gb (dOf r) 13), Dat.n (gn (dOf r) 14), Dat.n (gn (dOf r) 15), Dat.b (gb (dOf r) 16)])) e1
theorem v98 (pair ep e p : Int) : op_98 (.n pair :: .n ep :: MD pa ms st e p mc s1 s2 x a b c ar d at_ of) =
    if fErr e p pair ep = 0 then some (0, .n 0 :: MD pa ms true (if fErr e p pair ep = 0 ∧ ep > e then ep else e) (if fErr e p pair ep = 0 ∧ ep > e then pair else p) (if fErr e p pair ep = 0 ∧ ep > e then -1 else mc) 0 s2 x a b c ar d at_ of)
    else some (0, .n (fErr e p pair ep) :: MD pa ms st e p mc s1 s2 x a b c ar d at_ of) := by
  show (fn_98 [.n pair, .n ep, .n pa, .n ms, .b st, .n e, .n p, .n mc, .n s1, .n s2, .b x, .n a, .n b, .n c, .l TB ar, .n d, .n at_, .n of]).sel = _
  have e1 := v97 (s1 := s1) (s2 := s2) (of := of) (at_ := at_) (a := a) (b := b) (c := c) (d := d) (ms := ms) (mc := mc) (pa := pa) (ar := ar) (x := x) (st := st) pair ep e p
  by_cases h : fErr e p pair ep = 0
  · rw [if_pos h]
    refine (selT (congrArg (isK 0 _) e1)).trans ((selT ((congrArg (fun r => gn (dOf r) 0 == 0) e1).trans (bt h))).trans ?_)
    refine (congrArg (fun r => some (0, [Dat.n (gn (dOf r) 0), Dat.n (gn (dOf r) 1), Dat.n (gn (dOf r) 2), Dat.b true, Dat.n (gn (dOf r) 4), Dat.n (gn (dOf r) 5), Dat.n (gn (dOf r) 6), Dat.n 0, Dat.n (gn (dOf r) 8), Dat.b (gb (dOf r) 9), Dat.n (gn (dOf r) 10), Dat.n (gn (dOf r) 11), Dat.n (gn (dOf r) 12), Dat.l TB (gl TB (dOf r) 13), Dat.n (gn (dOf r) 14), Dat.n (gn (dOf r) 15), Dat.n (gn (dOf r) 16)])) e1).trans ?_
    exact congrArg (fun z => some (0, Dat.n z :: MD pa ms true (if fErr e p pair ep = 0 ∧ ep > e then ep else e) (if fErr e p pair ep = 0 ∧ ep > e then pair else p) (if fErr e p pair ep = 0 ∧ ep > e then -1 else mc) 0 s2 x a b c ar d at_ of)) h
  · rw [if_neg h]
    have n1 : ¬ (fErr e p pair ep = 0 ∧ ep > e) := fun q => h q.1
    rw [if_neg n1, if_neg n1, if_neg n1] at e1
    refine (selT (congrArg (isK 0 _) e1)).trans ((selF ((congrArg (fun r => gn (dOf r) 0 == 0) e1).trans (bf h))).trans ?_)
    exact congrArg (fun r => some (0, [Dat.n (gn (dOf r) 0), Dat.n (gn (dOf r) 1), Dat.n (gn (dOf r) 2), Dat.b (gb (dOf r) 3), Dat.n (gn (dOf r) 4), Dat.n (gn (dOf r) 5), Dat.n (gn (dOf r) 6), Dat.n (gn (dOf r) 7), Dat.n (gn (dOf r) 8), Dat.b (gb (dOf r) 9), Dat.n (gn (dOf r) 10), Dat.n (gn (dOf r) 11), Dat.n (gn (dOf r) 12), Dat.l TB (gl TB (dOf r) 13), Dat.n (gn (dOf r) 14), Dat.n (gn (dOf r) 15), Dat.n (gn (dOf r) 16)])) e1
/-! ### Admit -/
variable {l1 l2 l3 l4 : Int} {la : LB}
def badX (cyc pr l1 : Int) : Prop := cyc < 0 ∨ cyc > 1099511627776 ∨ iandnot .u64 pr l1 ≠ 0
instance (cyc pr l1 : Int) : Decidable (badX cyc pr l1) := by unfold badX; infer_instance
theorem v37a (pair fk cyc ep pr pt e p : Int) : op_37a (.n pair :: .n fk :: .n cyc :: .n ep :: .n pr :: .n pt :: .n l1 :: .n l2 :: .n l3 :: .l TB la :: .n l4 :: RA e p s1 s2 of at_ a b c ar d x si pa st) =
    if fErr e p pair ep ≠ 0 then some (0, .n (fErr e p pair ep) :: RA e p s1 s2 of at_ a b c ar d x si pa st)
    else if badX cyc pr l1 then some (0, .n 2 :: RA e p s1 s2 of at_ a b c ar d x si pa st)
    else if st = true then some (0, .n 220 :: RA (if ep > e then ep else e) (if ep > e then pair else p) s1 s2 of at_ a b c ar d x si pa st)
    else some (1, .n 0 :: RB (if ep > e then ep else e) (if ep > e then pair else p) cyc pr pt ep cyc l1 l2 l3 la l4 true 0 pa st) := by
  have F : op_37a (.n pair :: .n fk :: .n cyc :: .n ep :: .n pr :: .n pt :: .n l1 :: .n l2 :: .n l3 :: .l TB la :: .n l4 :: RA e p s1 s2 of at_ a b c ar d x si pa st) = (fn_37a [.n pair, .n fk, .n cyc, .n ep, .n pr, .n pt, .n l1, .n l2, .n l3, .l TB la, .n l4, .n e, .n p, .n s1, .n s2, .n of, .n at_, .n a, .n b, .n c, .l TB ar, .n d, .b x, .n si, .n pa, .b st]).sel := rfl
  rcases fErr_cases e p pair ep with ⟨h, h1⟩ | ⟨h, h1, h2⟩ | ⟨h, h1, h2⟩ | ⟨h, h1, h2⟩
  · rw [h, if_pos (by omega), F]
    by_cases q1 : pair < 0
    · exact selT (dt q1)
    refine (selF (df q1)).trans ?_
    by_cases q2 : pair > 1
    · exact selT (dt q2)
    refine (selF (df q2)).trans ?_
    by_cases q3 : ep < 1
    · exact selT (dt q3)
    exact (selF (df q3)).trans (selT (dt (by omega)))
  · rw [h, if_pos (by omega), F]
    refine (selF (df (by omega))).trans ((selF (df (by omega))).trans ((selF (df (by omega))).trans ((selF (df (by omega))).trans ?_)))
    rcases h2 with h2 | ⟨h2, h3⟩
    · exact selT (dt h2)
    · exact (selF (df (by omega))).trans ((selT (bt h2)).trans (selT (by simpa using h3)))
  · rw [h, if_neg (by omega), F]
    refine (selF (df (by omega))).trans ((selF (df (by omega))).trans ((selF (df (by omega))).trans ((selF (df (by omega))).trans ((selF (df (by omega))).trans ((selF (bf (by omega))).trans ?_)))))
    by_cases q1 : cyc < 0
    · rw [if_pos (.inl q1)]; exact selT (dt q1)
    refine (selF (df q1)).trans ?_
    by_cases q2 : cyc > 1099511627776
    · rw [if_pos (.inr (.inl q2))]; exact selT (dt q2)
    refine (selF (df q2)).trans ?_
    by_cases q3 : iandnot .u64 pr l1 = 0
    · rw [if_neg (by unfold badX; omega)]
      refine (selF (bz q3)).trans ((selT (dt h2)).trans ?_)
      rw [if_pos h2, if_pos h2]
      cases st with
      | true => rw [if_pos rfl]; rfl
      | false => rw [if_neg (by simp)]; rfl
    · rw [if_pos (.inr (.inr q3))]; exact selT (bnz q3)
  · obtain ⟨rfl, rfl⟩ := h2
    rw [h, if_neg (by omega), F]
    refine (selF (df (by omega))).trans ((selF (df (by omega))).trans ((selF (df (by omega))).trans ((selF (df (by omega))).trans ((selF (df (by omega))).trans ((selT (bt rfl)).trans ((selF (by simp)).trans ?_))))))
    by_cases q1 : cyc < 0
    · rw [if_pos (.inl q1)]; exact selT (dt q1)
    refine (selF (df q1)).trans ?_
    by_cases q2 : cyc > 1099511627776
    · rw [if_pos (.inr (.inl q2))]; exact selT (dt q2)
    refine (selF (df q2)).trans ?_
    by_cases q3 : iandnot .u64 pr l1 = 0
    · rw [if_neg (by unfold badX; omega)]
      refine (selF (bz q3)).trans ((selF (df (by omega))).trans ?_)
      rw [if_neg (show ¬ ep > ep by omega), if_neg (show ¬ ep > ep by omega)]
      cases st with
      | true => rw [if_pos rfl]; rfl
      | false => rw [if_neg (by simp)]; rfl
    · rw [if_pos (.inr (.inr q3))]; exact selT (bnz q3)
theorem v37b (pair fk cyc ep pr pt e p cy : Int) : op_37b (.n pair :: .n fk :: .n cyc :: .n ep :: .n pr :: .n pt :: .n l1 :: .n l2 :: .n l3 :: .l TB la :: .n l4 :: RB e p cy s1 s2 of at_ a b c ar d x si pa st) =
    if fErr e p pair ep ≠ 0 then some (1, .n (fErr e p pair ep) :: RB e p cy s1 s2 of at_ a b c ar d x si pa st)
    else if badX cyc pr l1 then some (1, .n 2 :: RB e p cy s1 s2 of at_ a b c ar d x si pa st)
    else if st = true then (if ep > e then some (0, .n 220 :: RA ep pair s1 s2 of at_ a b c ar d x si pa st) else some (1, .n 220 :: RB e p cy s1 s2 of at_ a b c ar d x si pa st))
    else if ¬ ep > e ∧ cyc ≤ cy then some (1, .n 4 :: RB e p cy s1 s2 of at_ a b c ar d x si pa st)
    else some (1, .n 0 :: RB (if ep > e then ep else e) (if ep > e then pair else p) cyc pr pt ep cyc l1 l2 l3 la l4 true 0 pa st) := by
  have F : op_37b (.n pair :: .n fk :: .n cyc :: .n ep :: .n pr :: .n pt :: .n l1 :: .n l2 :: .n l3 :: .l TB la :: .n l4 :: RB e p cy s1 s2 of at_ a b c ar d x si pa st) = (fn_37b [.n pair, .n fk, .n cyc, .n ep, .n pr, .n pt, .n l1, .n l2, .n l3, .l TB la, .n l4, .n e, .n p, .n cy, .n s1, .n s2, .n of, .n at_, .n a, .n b, .n c, .l TB ar, .n d, .b x, .n si, .n pa, .b st]).sel := rfl
  rcases fErr_cases e p pair ep with ⟨h, h1⟩ | ⟨h, h1, h2⟩ | ⟨h, h1, h2⟩ | ⟨h, h1, h2⟩
  · rw [h, if_pos (by omega), F]
    by_cases q1 : pair < 0
    · exact selT (dt q1)
    refine (selF (df q1)).trans ?_
    by_cases q2 : pair > 1
    · exact selT (dt q2)
    refine (selF (df q2)).trans ?_
    by_cases q3 : ep < 1
    · exact selT (dt q3)
    exact (selF (df q3)).trans (selT (dt (by omega)))
  · rw [h, if_pos (by omega), F]
    refine (selF (df (by omega))).trans ((selF (df (by omega))).trans ((selF (df (by omega))).trans ((selF (df (by omega))).trans ?_)))
    rcases h2 with h2 | ⟨h2, h3⟩
    · exact selT (dt h2)
    · exact (selF (df (by omega))).trans ((selT (bt h2)).trans (selT (by simpa using h3)))
  · rw [h, if_neg (by omega), F]
    refine (selF (df (by omega))).trans ((selF (df (by omega))).trans ((selF (df (by omega))).trans ((selF (df (by omega))).trans ((selF (df (by omega))).trans ((selF (bf (by omega))).trans ?_)))))
    by_cases q1 : cyc < 0
    · rw [if_pos (.inl q1)]; exact selT (dt q1)
    refine (selF (df q1)).trans ?_
    by_cases q2 : cyc > 1099511627776
    · rw [if_pos (.inr (.inl q2))]; exact selT (dt q2)
    refine (selF (df q2)).trans ?_
    by_cases q3 : iandnot .u64 pr l1 = 0
    · rw [if_neg (by unfold badX; omega)]
      refine (selF (bz q3)).trans ((selT (dt h2)).trans ?_)
      cases st with
      | true => rw [if_pos rfl, if_pos h2]; rfl
      | false => rw [if_neg (by simp), if_neg (by omega), if_pos h2, if_pos h2]; rfl
    · rw [if_pos (.inr (.inr q3))]; exact selT (bnz q3)
  · obtain ⟨rfl, rfl⟩ := h2
    rw [h, if_neg (by omega), F]
    refine (selF (df (by omega))).trans ((selF (df (by omega))).trans ((selF (df (by omega))).trans ((selF (df (by omega))).trans ((selF (df (by omega))).trans ((selT (bt rfl)).trans ((selF (by simp)).trans ?_))))))
    by_cases q1 : cyc < 0
    · rw [if_pos (.inl q1)]; exact selT (dt q1)
    refine (selF (df q1)).trans ?_
    by_cases q2 : cyc > 1099511627776
    · rw [if_pos (.inr (.inl q2))]; exact selT (dt q2)
    refine (selF (df q2)).trans ?_
    by_cases q3 : iandnot .u64 pr l1 = 0
    · rw [if_neg (by unfold badX; omega)]
      refine (selF (bz q3)).trans ((selF (df (by omega))).trans ?_)
      cases st with
      | true => rw [if_pos rfl, if_neg (by omega)]; rfl
      | false =>
        rw [if_neg (by simp)]
        refine (selF rfl).trans ?_
        by_cases q4 : cyc ≤ cy
        · rw [if_pos ⟨by omega, q4⟩]; exact selT (dt q4)
        · rw [if_neg (fun q => q4 q.2), if_neg (by omega), if_neg (by omega)]; exact selF (df q4)
    · rw [if_pos (.inr (.inr q3))]; exact selT (bnz q3)
end Go.Proofs.Ytkclmlcfdijbmaa.Vx
