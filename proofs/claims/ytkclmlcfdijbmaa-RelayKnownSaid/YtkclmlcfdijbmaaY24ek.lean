import Derived.Test.YtkclmlcfdijbmaaX24ack
import Derived.Test.YtkclmlcfdijbmaaVxLoop
namespace Go.Proofs.Ytkclmlcfdijbmaa.Vx.Pl
open Go Go.RowKit
set_option linter.unusedVariables false
set_option linter.unusedSimpArgs false
set_option maxRecDepth 100000
set_option maxHeartbeats 0
def fErr (e p pair ep : Int) : Int := if pair < 0 then 2 else if pair > 1 then 2 else if ep < 1 then 2 else if ep > 1099511627776 then 2 else if ep < e then 230 else if ep = e ∧ pair ≠ p then 230 else 0
def Right24 (pair ep : Int) : Prop := 0 ≤ pair ∧ pair ≤ 1 ∧ 1 ≤ ep ∧ ep ≤ 1099511627776
theorem fErr_cases (e p pair ep : Int) : (fErr e p pair ep = 2 ∧ (pair < 0 ∨ pair > 1 ∨ ep < 1 ∨ ep > 1099511627776)) ∨ (fErr e p pair ep = 230 ∧ (0 ≤ pair ∧ pair ≤ 1 ∧ 1 ≤ ep ∧ ep ≤ 1099511627776) ∧ (ep < e ∨ (ep = e ∧ pair ≠ p))) ∨
    (fErr e p pair ep = 0 ∧ (0 ≤ pair ∧ pair ≤ 1 ∧ 1 ≤ ep ∧ ep ≤ 1099511627776) ∧ ep > e) ∨ (fErr e p pair ep = 0 ∧ (0 ≤ pair ∧ pair ≤ 1 ∧ 1 ≤ ep ∧ ep ≤ 1099511627776) ∧ ep = e ∧ pair = p) := by
  unfold fErr
  repeat' split
  all_goals omega
abbrev TB : Ty := .int .u8
abbrev LB := List (Ty.den TB)
variable {s1 s2 of at_ a b c d si pa ms mc : Int} {ar : LB} {x st : Bool}
theorem v33a (pair ep e p : Int) : op_33a [.n pair, .n ep, .n e, .n p, .n s1, .n s2, .n of, .n at_, .n a, .n b, .n c, .l TB ar, .n d, .b x, .n si, .n pa, .b st] =
      some (0, [.n (fErr e p pair ep), .n (if fErr e p pair ep = 0 ∧ ep > e then ep else e), .n (if fErr e p pair ep = 0 ∧ ep > e then pair else p), .n s1, .n s2, .n of, .n at_, .n a, .n b, .n c, .l TB ar, .n d, .b x, .n si, .n pa, .b st]) := by
  rcases fErr_cases e p pair ep with ⟨h, h1⟩ | ⟨h, h1, h2⟩ | ⟨h, h1, h2⟩ | ⟨h, h1, h2⟩
  · rw [h, if_neg (by omega), if_neg (by omega)]
    show (fn_33a _).sel = _
    simp only [fn_33a, Tree.sel, Bool.cond_eq_ite, decide_eq_true_eq, beq_iff_eq, bne_iff_ne, ne_eq]
    repeat' split
    all_goals first | rfl | (exfalso; omega)
  · rw [h, if_neg (by omega), if_neg (by omega)]
    show (fn_33a _).sel = _
    simp only [fn_33a, Tree.sel, Bool.cond_eq_ite, decide_eq_true_eq, beq_iff_eq, bne_iff_ne, ne_eq]
    repeat' split
    all_goals first | rfl | (exfalso; omega)
  · rw [h, if_pos ⟨rfl, h2⟩, if_pos ⟨rfl, h2⟩]
    show (fn_33a _).sel = _
    simp only [fn_33a, Tree.sel, Bool.cond_eq_ite, decide_eq_true_eq, beq_iff_eq, bne_iff_ne, ne_eq]
    repeat' split
    all_goals first | rfl | (exfalso; omega)
  · rw [h, if_neg (by omega), if_neg (by omega)]
    show (fn_33a _).sel = _
    simp only [fn_33a, Tree.sel, Bool.cond_eq_ite, decide_eq_true_eq, beq_iff_eq, bne_iff_ne, ne_eq]
    repeat' split
    all_goals first | rfl | (exfalso; omega)
theorem v33b (pair ep e p cy : Int) : op_33b [.n pair, .n ep, .n e, .n p, .n cy, .n s1, .n s2, .n of, .n at_, .n a, .n b, .n c, .l TB ar, .n d, .b x, .n si, .n pa, .b st] =
      if fErr e p pair ep = 0 ∧ ep > e then some (0, [.n 0, .n ep, .n pair, .n s1, .n s2, .n of, .n at_, .n a, .n b, .n c, .l TB ar, .n d, .b x, .n si, .n pa, .b st])
      else some (1, [.n (fErr e p pair ep), .n e, .n p, .n cy, .n s1, .n s2, .n of, .n at_, .n a, .n b, .n c, .l TB ar, .n d, .b x, .n si, .n pa, .b st]) := by
  rcases fErr_cases e p pair ep with ⟨h, h1⟩ | ⟨h, h1, h2⟩ | ⟨h, h1, h2⟩ | ⟨h, h1, h2⟩
  · rw [h, if_neg (by omega)]
    show (fn_33b _).sel = _
    simp only [fn_33b, Tree.sel, Bool.cond_eq_ite, decide_eq_true_eq, beq_iff_eq, bne_iff_ne, ne_eq]
    repeat' split
    all_goals first | rfl | (exfalso; omega)
  · rw [h, if_neg (by omega)]
    show (fn_33b _).sel = _
    simp only [fn_33b, Tree.sel, Bool.cond_eq_ite, decide_eq_true_eq, beq_iff_eq, bne_iff_ne, ne_eq]
    repeat' split
    all_goals first | rfl | (exfalso; omega)
  · rw [h, if_pos ⟨rfl, h2⟩]
    show (fn_33b _).sel = _
    simp only [fn_33b, Tree.sel, Bool.cond_eq_ite, decide_eq_true_eq, beq_iff_eq, bne_iff_ne, ne_eq]
    repeat' split
    all_goals first | rfl | (exfalso; omega)
  · rw [h, if_neg (by omega)]
    show (fn_33b _).sel = _
    simp only [fn_33b, Tree.sel, Bool.cond_eq_ite, decide_eq_true_eq, beq_iff_eq, bne_iff_ne, ne_eq]
    repeat' split
    all_goals first | rfl | (exfalso; omega)
theorem v97 (pair ep e p : Int) : op_97 [.n pair, .n ep, .n pa, .n ms, .b st, .n e, .n p, .n mc, .n s1, .n s2, .b x, .n a, .n b, .n c, .l TB ar, .n d, .n at_, .n of] =
      some (0, [.n (fErr e p pair ep), .n pa, .n ms, .b st, .n (if fErr e p pair ep = 0 ∧ ep > e then ep else e), .n (if fErr e p pair ep = 0 ∧ ep > e then pair else p), .n (if fErr e p pair ep = 0 ∧ ep > e then -1 else mc), .n s1, .n s2, .b x, .n a, .n b, .n c, .l TB ar, .n d, .n at_, .n of]) := by
  rcases fErr_cases e p pair ep with ⟨h, h1⟩ | ⟨h, h1, h2⟩ | ⟨h, h1, h2⟩ | ⟨h, h1, h2⟩
  · rw [h, if_neg (by omega), if_neg (by omega), if_neg (by omega)]
    show (fn_97 _).sel = _
    simp only [fn_97, Tree.sel, Bool.cond_eq_ite, decide_eq_true_eq, beq_iff_eq, bne_iff_ne, ne_eq]
    repeat' split
    all_goals first | rfl | (exfalso; omega)
  · rw [h, if_neg (by omega), if_neg (by omega), if_neg (by omega)]
    show (fn_97 _).sel = _
    simp only [fn_97, Tree.sel, Bool.cond_eq_ite, decide_eq_true_eq, beq_iff_eq, bne_iff_ne, ne_eq]
    repeat' split
    all_goals first | rfl | (exfalso; omega)
  · rw [h, if_pos ⟨rfl, h2⟩, if_pos ⟨rfl, h2⟩, if_pos ⟨rfl, h2⟩]
    show (fn_97 _).sel = _
    simp only [fn_97, Tree.sel, Bool.cond_eq_ite, decide_eq_true_eq, beq_iff_eq, bne_iff_ne, ne_eq]
    repeat' split
    all_goals first | rfl | (exfalso; omega)
  · rw [h, if_neg (by omega), if_neg (by omega), if_neg (by omega)]
    show (fn_97 _).sel = _
    simp only [fn_97, Tree.sel, Bool.cond_eq_ite, decide_eq_true_eq, beq_iff_eq, bne_iff_ne, ne_eq]
    repeat' split
    all_goals first | rfl | (exfalso; omega)
/-! ### What a call does to both -/
def RA (e p s1 s2 of at_ a b c : Int) (ar : LB) (d : Int) (x : Bool) (si pa : Int) (st : Bool) : List Dat := [.n e, .n p, .n s1, .n s2, .n of, .n at_, .n a, .n b, .n c, .l TB ar, .n d, .b x, .n si, .n pa, .b st]
def RB (e p cy s1 s2 of at_ a b c : Int) (ar : LB) (d : Int) (x : Bool) (si pa : Int) (st : Bool) : List Dat := [.n e, .n p, .n cy, .n s1, .n s2, .n of, .n at_, .n a, .n b, .n c, .l TB ar, .n d, .b x, .n si, .n pa, .b st]
def MD (pa ms : Int) (st : Bool) (e p mc s1 s2 : Int) (x : Bool) (a b c : Int) (ar : LB) (d at_ of : Int) : List Dat := [.n pa, .n ms, .b st, .n e, .n p, .n mc, .n s1, .n s2, .b x, .n a, .n b, .n c, .l TB ar, .n d, .n at_, .n of]
end Go.Proofs.Ytkclmlcfdijbmaa.Vx.Pl
namespace Go.Proofs.Ytkclmlcfdijbmaa.Vx.Pl
open Go Go.RowKit
set_option linter.unusedVariables false
set_option linter.unusedSimpArgs false
set_option maxRecDepth 100000
set_option maxHeartbeats 0
variable {s1 s2 of at_ a b c d si pa ms mc : Int} {ar : LB} {x st : Bool}
theorem bz {n : Int} (h : n = 0) : (n != 0) = false := by subst h; rfl
theorem bnz {n : Int} (h : n ≠ 0) : (n != 0) = true := by simpa using h
theorem v34a (pair ep e p : Int) : op_34a (.n pair :: .n ep :: RA e p s1 s2 of at_ a b c ar d x si pa st) =
    if fErr e p pair ep = 0 then some (0, .n 0 :: RA (if fErr e p pair ep = 0 ∧ ep > e then ep else e) (if fErr e p pair ep = 0 ∧ ep > e then pair else p) 0 s2 of at_ a b c ar d x si pa true)
    else some (0, .n (fErr e p pair ep) :: RA e p s1 s2 of at_ a b c ar d x si pa st) := by
  show (fn_34a [.n pair, .n ep, .n e, .n p, .n s1, .n s2, .n of, .n at_, .n a, .n b, .n c, .l TB ar, .n d, .b x, .n si, .n pa, .b st]).sel = _
  have e1 := v33a (s1 := s1) (s2 := s2) (of := of) (at_ := at_) (a := a) (b := b) (c := c) (d := d) (si := si) (pa := pa) (ar := ar) (x := x) (st := st) pair ep e p
  by_cases h : fErr e p pair ep = 0
  · rw [if_pos h]
    refine (selT (congrArg (isK 0 _) e1)).trans ((selF ((congrArg (fun r => gn (dOf r) 0 != 0) e1).trans (bz h))).trans ?_)
    exact congrArg (fun r => some (0, [Dat.n 0, Dat.n (gn (dOf r) 1), Dat.n (gn (dOf r) 2), Dat.n 0, Dat.n (gn (dOf r) 4), Dat.n (gn (dOf r) 5), Dat.n (gn (dOf r) 6), Dat.n (gn (dOf r) 7), Dat.n (gn (dOf r) 8), Dat.n (gn (dOf r) 9), Dat.l TB (gl TB (dOf r) 10), Dat.n (gn (dOf r) 11), Dat.b (gb (dOf r) 12), Dat.n (gn (dOf r) 13), Dat.n (gn (dOf r) 14), Dat.b true])) e1
  · rw [if_neg h]
    have n1 : ¬ (fErr e p pair ep = 0 ∧ ep > e) := fun q => h q.1
    rw [if_neg n1, if_neg n1] at e1
    refine (selT (congrArg (isK 0 _) e1)).trans ((selT ((congrArg (fun r => gn (dOf r) 0 != 0) e1).trans (bnz h))).trans ?_)
    exact congrArg (fun r => some (0, [Dat.n (gn (dOf r) 0), Dat.n (gn (dOf r) 1), Dat.n (gn (dOf r) 2), Dat.n (gn (dOf r) 3), Dat.n (gn (dOf r) 4), Dat.n (gn (dOf r) 5), Dat.n (gn (dOf r) 6), Dat.n (gn (dOf r) 7), Dat.n (gn (dOf r) 8), Dat.n (gn (dOf r) 9), Dat.l TB (gl TB (dOf r) 10), Dat.n (gn (dOf r) 11), Dat.b (gb (dOf r) 12), Dat.n (gn (dOf r) 13), Dat.n (gn (dOf r) 14), Dat.b (gb (dOf r) 15)])) e1
theorem v34b (pair ep e p cy : Int) : op_34b (.n pair :: .n ep :: RB e p cy s1 s2 of at_ a b c ar d x si pa st) =
    if fErr e p pair ep = 0 ∧ ep > e then some (0, .n 0 :: RA ep pair 0 s2 of at_ a b c ar d x si pa true)
    else if fErr e p pair ep = 0 then some (1, .n 0 :: RB e p cy 0 s2 of at_ a b c ar d x si pa true)
    else some (1, .n (fErr e p pair ep) :: RB e p cy s1 s2 of at_ a b c ar d x si pa st) := by
  show (fn_34b [.n pair, .n ep, .n e, .n p, .n cy, .n s1, .n s2, .n of, .n at_, .n a, .n b, .n c, .l TB ar, .n d, .b x, .n si, .n pa, .b st]).sel = _
  have e1 := v33b (s1 := s1) (s2 := s2) (of := of) (at_ := at_) (a := a) (b := b) (c := c) (d := d) (si := si) (pa := pa) (ar := ar) (x := x) (st := st) pair ep e p cy
  by_cases hR : fErr e p pair ep = 0 ∧ ep > e
  · rw [if_pos hR] at e1 ⊢
    refine (selT (congrArg (isK 0 _) e1)).trans ((selF (congrArg (fun r => gn (dOf r) 0 != 0) e1)).trans ?_)
    exact congrArg (fun r => some (0, [Dat.n 0, Dat.n (gn (dOf r) 1), Dat.n (gn (dOf r) 2), Dat.n 0, Dat.n (gn (dOf r) 4), Dat.n (gn (dOf r) 5), Dat.n (gn (dOf r) 6), Dat.n (gn (dOf r) 7), Dat.n (gn (dOf r) 8), Dat.n (gn (dOf r) 9), Dat.l TB (gl TB (dOf r) 10), Dat.n (gn (dOf r) 11), Dat.b (gb (dOf r) 12), Dat.n (gn (dOf r) 13), Dat.n (gn (dOf r) 14), Dat.b true])) e1
  · rw [if_neg hR] at e1 ⊢
    refine (selF (congrArg (isK 0 _) e1)).trans ((selT (congrArg (isK 1 _) e1)).trans ?_)
    by_cases h : fErr e p pair ep = 0
    · rw [if_pos h]
      refine (selF ((congrArg (fun r => gn (dOf r) 0 != 0) e1).trans (bz h))).trans ?_
      exact congrArg (fun r => some (1, [Dat.n 0, Dat.n (gn (dOf r) 1), Dat.n (gn (dOf r) 2), Dat.n (gn (dOf r) 3), Dat.n 0, Dat.n (gn (dOf r) 5), Dat.n (gn (dOf r) 6), Dat.n (gn (dOf r) 7), Dat.n (gn (dOf r) 8), Dat.n (gn (dOf r) 9), Dat.n (gn (dOf r) 10), Dat.l TB (gl TB (dOf r) 11), Dat.n (gn (dOf r) 12), Dat.b (gb (dOf r) 13), Dat.n (gn (dOf r) 14), Dat.n (gn (dOf r) 15), Dat.b true])) e1
    · rw [if_neg h]
      refine (selT ((congrArg (fun r => gn (dOf r) 0 != 0) e1).trans (bnz h))).trans ?_
      exact congrArg (fun r => some (1, [Dat.n (gn (dOf r) 0), Dat.n (gn (dOf r) 1), Dat.n (gn (dOf r) 2), Dat.n (gn (dOf r) 3), Dat.n (gn (dOf r) 4), Dat.n (gn (dOf r) 5), Dat.n (gn (dOf r) 6), Dat.n (gn (dOf r) 7), Dat.n (gn (dOf r) 8), Dat.n (gn (dOf r) 9), Dat.n (gn (dOf r) 10), Dat.l TB (gl TB (dOf r) 11), Dat.n (gn (dOf r) 12), Dat.b (gb (dOf r) 13), Dat.n (gn (dOf r) 14), Dat.n (gn (dOf r) 15), Dat.b (gb (dOf r) 16)])) e1
theorem v98 (pair ep e p : Int) : op_98 (.n pair :: .n ep :: MD pa ms st e p mc s1 s2 x a b c ar d at_ of) =
    if fErr e p pair ep = 0 then some (0, .n 0 :: MD pa ms true (if fErr e p pair ep = 0 ∧ ep > e then ep else e) (if fErr e p pair ep = 0 ∧ ep > e then pair else p) (if fErr e p pair ep = 0 ∧ ep > e then -1 else mc) 0 s2 x a b c ar d at_ of)
    else some (0, .n (fErr e p pair ep) :: MD pa ms st e p mc s1 s2 x a b c ar d at_ of) := by
  show (fn_98 [.n pair, .n ep, .n pa, .n ms, .b st, .n e, .n p, .n mc, .n s1, .n s2, .b x, .n a, .n b, .n c, .l TB ar, .n d, .n at_, .n of]).sel = _
  have e1 := v97 (s1 := s1) (s2 := s2) (of := of) (at_ := at_) (a := a) (b := b) (c := c) (d := d) (ms := ms) (mc := mc) (pa := pa) (ar := ar) (x := x) (st := st) pair ep e p
  by_cases h : fErr e p pair ep = 0
  · rw [if_pos h]
    refine (selT (congrArg (isK 0 _) e1)).trans ((selT ((congrArg (fun r => gn (dOf r) 0 == 0) e1).trans (bt h))).trans ?_)
    refine (congrArg (fun r => some (0, [Dat.n (gn (dOf r) 0), Dat.n (gn (dOf r) 1), Dat.n (gn (dOf r) 2), Dat.b true, Dat.n (gn (dOf r) 4), Dat.n (gn (dOf r) 5), Dat.n (gn (dOf r) 6), Dat.n 0, Dat.n (gn (dOf r) 8), Dat.b (gb (dOf r) 9), Dat.n (gn (dOf r) 10), Dat.n (gn (dOf r) 11), Dat.n (gn (dOf r) 12), Dat.l TB (gl TB (dOf r) 13), Dat.n (gn (dOf r) 14), Dat.n (gn (dOf r) 15), Dat.n (gn (dOf r) 16)])) e1).trans ?_
    exact congrArg (fun z => some (0, Dat.n z :: MD pa ms true (if fErr e p pair ep = 0 ∧ ep > e then ep else e) (if fErr e p pair ep = 0 ∧ ep > e then pair else p) (if fErr e p pair ep = 0 ∧ ep > e then -1 else mc) 0 s2 x a b c ar d at_ of)) h
  · rw [if_neg h]
    have n1 : ¬ (fErr e p pair ep = 0 ∧ ep > e) := fun q => h q.1
    rw [if_neg n1, if_neg n1, if_neg n1] at e1
    refine (selT (congrArg (isK 0 _) e1)).trans ((selF ((congrArg (fun r => gn (dOf r) 0 == 0) e1).trans (bf h))).trans ?_)
    exact congrArg (fun r => some (0, [Dat.n (gn (dOf r) 0), Dat.n (gn (dOf r) 1), Dat.n (gn (dOf r) 2), Dat.b (gb (dOf r) 3), Dat.n (gn (dOf r) 4), Dat.n (gn (dOf r) 5), Dat.n (gn (dOf r) 6), Dat.n (gn (dOf r) 7), Dat.n (gn (dOf r) 8), Dat.b (gb (dOf r) 9), Dat.n (gn (dOf r) 10), Dat.n (gn (dOf r) 11), Dat.n (gn (dOf r) 12), Dat.l TB (gl TB (dOf r) 13), Dat.n (gn (dOf r) 14), Dat.n (gn (dOf r) 15), Dat.n (gn (dOf r) 16)])) e1
/-! ### Admit -/
variable {l1 l2 l3 l4 : Int} {la : LB}
def badX (cyc pr l1 : Int) : Prop := cyc < 0 ∨ cyc > 1099511627776 ∨ iandnot .u64 pr l1 ≠ 0
instance (cyc pr l1 : Int) : Decidable (badX cyc pr l1) := by unfold badX; infer_instance
theorem v37a (pair fk cyc ep pr pt e p : Int) : op_37a (.n pair :: .n fk :: .n cyc :: .n ep :: .n pr :: .n pt :: .n l1 :: .n l2 :: .n l3 :: .l TB la :: .n l4 :: RA e p s1 s2 of at_ a b c ar d x si pa st) =
    if fErr e p pair ep ≠ 0 then some (0, .n (fErr e p pair ep) :: RA e p s1 s2 of at_ a b c ar d x si pa st)
    else if badX cyc pr l1 then some (0, .n 2 :: RA e p s1 s2 of at_ a b c ar d x si pa st)
    else if st = true then some (0, .n 220 :: RA (if ep > e then ep else e) (if ep > e then pair else p) s1 s2 of at_ a b c ar d x si pa st)
    else some (1, .n 0 :: RB (if ep > e then ep else e) (if ep > e then pair else p) cyc pr pt ep cyc l1 l2 l3 la l4 true 0 pa st) := by
  have F : op_37a (.n pair :: .n fk :: .n cyc :: .n ep :: .n pr :: .n pt :: .n l1 :: .n l2 :: .n l3 :: .l TB la :: .n l4 :: RA e p s1 s2 of at_ a b c ar d x si pa st) = (fn_37a [.n pair, .n fk, .n cyc, .n ep, .n pr, .n pt, .n l1, .n l2, .n l3, .l TB la, .n l4, .n e, .n p, .n s1, .n s2, .n of, .n at_, .n a, .n b, .n c, .l TB ar, .n d, .b x, .n si, .n pa, .b st]).sel := rfl
  rcases fErr_cases e p pair ep with ⟨h, h1⟩ | ⟨h, h1, h2⟩ | ⟨h, h1, h2⟩ | ⟨h, h1, h2⟩
  · rw [h, if_pos (by omega), F]
    by_cases q1 : pair < 0
    · exact selT (dt q1)
    refine (selF (df q1)).trans ?_
    by_cases q2 : pair > 1
    · exact selT (dt q2)
    refine (selF (df q2)).trans ?_
    by_cases q3 : ep < 1
    · exact selT (dt q3)
    exact (selF (df q3)).trans (selT (dt (by omega)))
  · rw [h, if_pos (by omega), F]
    refine (selF (df (by omega))).trans ((selF (df (by omega))).trans ((selF (df (by omega))).trans ((selF (df (by omega))).trans ?_)))
    rcases h2 with h2 | ⟨h2, h3⟩
    · exact selT (dt h2)
    · exact (selF (df (by omega))).trans ((selT (bt h2)).trans (selT (by simpa using h3)))
  · rw [h, if_neg (by omega), F]
    refine (selF (df (by omega))).trans ((selF (df (by omega))).trans ((selF (df (by omega))).trans ((selF (df (by omega))).trans ((selF (df (by omega))).trans ((selF (bf (by omega))).trans ?_)))))
    by_cases q1 : cyc < 0
    · rw [if_pos (.inl q1)]; exact selT (dt q1)
    refine (selF (df q1)).trans ?_
    by_cases q2 : cyc > 1099511627776
    · rw [if_pos (.inr (.inl q2))]; exact selT (dt q2)
    refine (selF (df q2)).trans ?_
    by_cases q3 : iandnot .u64 pr l1 = 0
    · rw [if_neg (by unfold badX; omega)]
      refine (selF (bz q3)).trans ((selT (dt h2)).trans ?_)
      rw [if_pos h2, if_pos h2]
      cases st with
      | true => rw [if_pos rfl]; rfl
      | false => rw [if_neg (by simp)]; rfl
    · rw [if_pos (.inr (.inr q3))]; exact selT (bnz q3)
  · obtain ⟨rfl, rfl⟩ := h2
    rw [h, if_neg (by omega), F]
    refine (selF (df (by omega))).trans ((selF (df (by omega))).trans ((selF (df (by omega))).trans ((selF (df (by omega))).trans ((selF (df (by omega))).trans ((selT (bt rfl)).trans ((selF (by simp)).trans ?_))))))
    by_cases q1 : cyc < 0
    · rw [if_pos (.inl q1)]; exact selT (dt q1)
    refine (selF (df q1)).trans ?_
    by_cases q2 : cyc > 1099511627776
    · rw [if_pos (.inr (.inl q2))]; exact selT (dt q2)
    refine (selF (df q2)).trans ?_
    by_cases q3 : iandnot .u64 pr l1 = 0
    · rw [if_neg (by unfold badX; omega)]
      refine (selF (bz q3)).trans ((selF (df (by omega))).trans ?_)
      rw [if_neg (show ¬ ep > ep by omega), if_neg (show ¬ ep > ep by omega)]
      cases st with
      | true => rw [if_pos rfl]; rfl
      | false => rw [if_neg (by simp)]; rfl
    · rw [if_pos (.inr (.inr q3))]; exact selT (bnz q3)
theorem v37b (pair fk cyc ep pr pt e p cy : Int) : op_37b (.n pair :: .n fk :: .n cyc :: .n ep :: .n pr :: .n pt :: .n l1 :: .n l2 :: .n l3 :: .l TB la :: .n l4 :: RB e p cy s1 s2 of at_ a b c ar d x si pa st) =
    if fErr e p pair ep ≠ 0 then some (1, .n (fErr e p pair ep) :: RB e p cy s1 s2 of at_ a b c ar d x si pa st)
    else if badX cyc pr l1 then some (1, .n 2 :: RB e p cy s1 s2 of at_ a b c ar d x si pa st)
    else if st = true then (if ep > e then some (0, .n 220 :: RA ep pair s1 s2 of at_ a b c ar d x si pa st) else some (1, .n 220 :: RB e p cy s1 s2 of at_ a b c ar d x si pa st))
    else if ¬ ep > e ∧ cyc ≤ cy then some (1, .n 4 :: RB e p cy s1 s2 of at_ a b c ar d x si pa st)
    else some (1, .n 0 :: RB (if ep > e then ep else e) (if ep > e then pair else p) cyc pr pt ep cyc l1 l2 l3 la l4 true 0 pa st) := by
  have F : op_37b (.n pair :: .n fk :: .n cyc :: .n ep :: .n pr :: .n pt :: .n l1 :: .n l2 :: .n l3 :: .l TB la :: .n l4 :: RB e p cy s1 s2 of at_ a b c ar d x si pa st) = (fn_37b [.n pair, .n fk, .n cyc, .n ep, .n pr, .n pt, .n l1, .n l2, .n l3, .l TB la, .n l4, .n e, .n p, .n cy, .n s1, .n s2, .n of, .n at_, .n a, .n b, .n c, .l TB ar, .n d, .b x, .n si, .n pa, .b st]).sel := rfl
  rcases fErr_cases e p pair ep with ⟨h, h1⟩ | ⟨h, h1, h2⟩ | ⟨h, h1, h2⟩ | ⟨h, h1, h2⟩
  · rw [h, if_pos (by omega), F]
    by_cases q1 : pair < 0
    · exact selT (dt q1)
    refine (selF (df q1)).trans ?_
    by_cases q2 : pair > 1
    · exact selT (dt q2)
    refine (selF (df q2)).trans ?_
    by_cases q3 : ep < 1
    · exact selT (dt q3)
    exact (selF (df q3)).trans (selT (dt (by omega)))
  · rw [h, if_pos (by omega), F]
    refine (selF (df (by omega))).trans ((selF (df (by omega))).trans ((selF (df (by omega))).trans ((selF (df (by omega))).trans ?_)))
    rcases h2 with h2 | ⟨h2, h3⟩
    · exact selT (dt h2)
    · exact (selF (df (by omega))).trans ((selT (bt h2)).trans (selT (by simpa using h3)))
  · rw [h, if_neg (by omega), F]
    refine (selF (df (by omega))).trans ((selF (df (by omega))).trans ((selF (df (by omega))).trans ((selF (df (by omega))).trans ((selF (df (by omega))).trans ((selF (bf (by omega))).trans ?_)))))
    by_cases q1 : cyc < 0
    · rw [if_pos (.inl q1)]; exact selT (dt q1)
    refine (selF (df q1)).trans ?_
    by_cases q2 : cyc > 1099511627776
    · rw [if_pos (.inr (.inl q2))]; exact selT (dt q2)
    refine (selF (df q2)).trans ?_
    by_cases q3 : iandnot .u64 pr l1 = 0
    · rw [if_neg (by unfold badX; omega)]
      refine (selF (bz q3)).trans ((selT (dt h2)).trans ?_)
      cases st with
      | true => rw [if_pos rfl, if_pos h2]; rfl
      | false => rw [if_neg (by simp), if_neg (by omega), if_pos h2, if_pos h2]; rfl
    · rw [if_pos (.inr (.inr q3))]; exact selT (bnz q3)
  · obtain ⟨rfl, rfl⟩ := h2
    rw [h, if_neg (by omega), F]
    refine (selF (df (by omega))).trans ((selF (df (by omega))).trans ((selF (df (by omega))).trans ((selF (df (by omega))).trans ((selF (df (by omega))).trans ((selT (bt rfl)).trans ((selF (by simp)).trans ?_))))))
    by_cases q1 : cyc < 0
    · rw [if_pos (.inl q1)]; exact selT (dt q1)
    refine (selF (df q1)).trans ?_
    by_cases q2 : cyc > 1099511627776
    · rw [if_pos (.inr (.inl q2))]; exact selT (dt q2)
    refine (selF (df q2)).trans ?_
    by_cases q3 : iandnot .u64 pr l1 = 0
    · rw [if_neg (by unfold badX; omega)]
      refine (selF (bz q3)).trans ((selF (df (by omega))).trans ?_)
      cases st with
      | true => rw [if_pos rfl, if_neg (by omega)]; rfl
      | false =>
        rw [if_neg (by simp)]
        refine (selF rfl).trans ?_
        by_cases q4 : cyc ≤ cy
        · rw [if_pos ⟨by omega, q4⟩]; exact selT (dt q4)
        · rw [if_neg (fun q => q4 q.2), if_neg (by omega), if_neg (by omega)]; exact selF (df q4)
    · rw [if_pos (.inr (.inr q3))]; exact selT (bnz q3)
end Go.Proofs.Ytkclmlcfdijbmaa.Vx.Pl
namespace Go.Proofs.Ytkclmlcfdijbmaa.Vx.Pl
open Go Go.RowKit
set_option linter.unusedVariables false
set_option linter.unusedSimpArgs false
set_option maxRecDepth 100000
set_option maxHeartbeats 0
variable {s1 s2 of at_ a b c d si pa ms mc : Int} {ar : LB} {x st : Bool} {l1 l2 l3 l4 : Int} {la : LB}
theorem v101 (pair ep cyc pr pt e p : Int) : op_101 (.n pair :: .n ep :: .n cyc :: .n pr :: .n pt :: .n l1 :: .n l2 :: .n l3 :: .l TB la :: .n l4 :: MD pa ms st e p mc s1 s2 x a b c ar d at_ of) =
    if fErr e p pair ep ≠ 0 then some (0, .n (fErr e p pair ep) :: MD pa ms st e p mc s1 s2 x a b c ar d at_ of)
    else if badX cyc pr l1 then some (0, .n 2 :: MD pa ms st e p mc s1 s2 x a b c ar d at_ of)
    else if st = true then some (0, .n 220 :: MD pa ms st (if ep > e then ep else e) (if ep > e then pair else p) (if ep > e then -1 else mc) s1 s2 x a b c ar d at_ of)
    else if cyc ≤ (if ep > e then -1 else mc) then some (0, .n 4 :: MD pa ms st (if ep > e then ep else e) (if ep > e then pair else p) (if ep > e then -1 else mc) s1 s2 x a b c ar d at_ of)
    else some (0, .n 0 :: MD pa 0 st (if ep > e then ep else e) (if ep > e then pair else p) cyc pr pt true l1 l2 l3 la l4 cyc ep) := by
  show (fn_101 [.n pair, .n ep, .n cyc, .n pr, .n pt, .n l1, .n l2, .n l3, .l TB la, .n l4, .n pa, .n ms, .b st, .n e, .n p, .n mc, .n s1, .n s2, .b x, .n a, .n b, .n c, .l TB ar, .n d, .n at_, .n of]).sel = _
  have e1 := v97 (s1 := s1) (s2 := s2) (of := of) (at_ := at_) (a := a) (b := b) (c := c) (d := d) (ms := ms) (mc := mc) (pa := pa) (ar := ar) (x := x) (st := st) pair ep e p
  by_cases h : fErr e p pair ep = 0
  · rw [if_neg (fun q => q h)]
    have hR : (fErr e p pair ep = 0 ∧ ep > e) = (ep > e) := by rw [h]; simp
    simp only [hR] at e1
    rw [h] at e1
    refine (selT (congrArg (isK 0 _) e1)).trans ((selF (congrArg (fun r => gn (dOf r) 0 != 0) e1)).trans ?_)
    by_cases q1 : cyc < 0
    · rw [if_pos (.inl q1)]; exact selT (dt q1)
    refine (selF (df q1)).trans ?_
    by_cases q2 : cyc > 1099511627776
    · rw [if_pos (.inr (.inl q2))]; exact selT (dt q2)
    refine (selF (df q2)).trans ?_
    by_cases q3 : iandnot .u64 pr l1 = 0
    · rw [if_neg (by unfold badX; omega)]
      refine (selF (bz q3)).trans ?_
      cases st with
      | true =>
        rw [if_pos rfl]
        refine (selT (congrArg (fun r => gb (dOf r) 3) e1)).trans ?_
        exact congrArg (fun r => some (0, [Dat.n 220, Dat.n (gn (dOf r) 1), Dat.n (gn (dOf r) 2), Dat.b (gb (dOf r) 3), Dat.n (gn (dOf r) 4), Dat.n (gn (dOf r) 5), Dat.n (gn (dOf r) 6), Dat.n (gn (dOf r) 7), Dat.n (gn (dOf r) 8), Dat.b (gb (dOf r) 9), Dat.n (gn (dOf r) 10), Dat.n (gn (dOf r) 11), Dat.n (gn (dOf r) 12), Dat.l TB (gl TB (dOf r) 13), Dat.n (gn (dOf r) 14), Dat.n (gn (dOf r) 15), Dat.n (gn (dOf r) 16)])) e1
      | false =>
        rw [if_neg (by simp)]
        refine (selF (congrArg (fun r => gb (dOf r) 3) e1)).trans ?_
        have hc : decide (cyc ≤ gn (dOf (op_97 [.n pair, .n ep, .n pa, .n ms, .b false, .n e, .n p, .n mc, .n s1, .n s2, .b x, .n a, .n b, .n c, .l TB ar, .n d, .n at_, .n of])) 6) = decide (cyc ≤ (if ep > e then -1 else mc)) := congrArg (fun r => decide (cyc ≤ gn (dOf r) 6)) e1
        by_cases q4 : cyc ≤ (if ep > e then -1 else mc)
        · rw [if_pos q4]
          refine (selT (hc.trans (dt q4))).trans ?_
          exact congrArg (fun r => some (0, [Dat.n 4, Dat.n (gn (dOf r) 1), Dat.n (gn (dOf r) 2), Dat.b (gb (dOf r) 3), Dat.n (gn (dOf r) 4), Dat.n (gn (dOf r) 5), Dat.n (gn (dOf r) 6), Dat.n (gn (dOf r) 7), Dat.n (gn (dOf r) 8), Dat.b (gb (dOf r) 9), Dat.n (gn (dOf r) 10), Dat.n (gn (dOf r) 11), Dat.n (gn (dOf r) 12), Dat.l TB (gl TB (dOf r) 13), Dat.n (gn (dOf r) 14), Dat.n (gn (dOf r) 15), Dat.n (gn (dOf r) 16)])) e1
        · rw [if_neg q4]
          refine (selF (hc.trans (df q4))).trans ?_
          exact congrArg (fun r => some (0, [Dat.n 0, Dat.n (gn (dOf r) 1), Dat.n 0, Dat.b (gb (dOf r) 3), Dat.n (gn (dOf r) 4), Dat.n (gn (dOf r) 5), Dat.n cyc, Dat.n pr, Dat.n pt, Dat.b true, Dat.n l1, Dat.n l2, Dat.n l3, Dat.l TB la, Dat.n l4, Dat.n cyc, Dat.n ep])) e1
    · rw [if_pos (.inr (.inr q3))]; exact selT (bnz q3)
  · rw [if_pos h]
    have n1 : ¬ (fErr e p pair ep = 0 ∧ ep > e) := fun q => h q.1
    rw [if_neg n1, if_neg n1, if_neg n1] at e1
    refine (selT (congrArg (isK 0 _) e1)).trans ((selT ((congrArg (fun r => gn (dOf r) 0 != 0) e1).trans (bnz h))).trans ?_)
    exact congrArg (fun r => some (0, [Dat.n (gn (dOf r) 0), Dat.n (gn (dOf r) 1), Dat.n (gn (dOf r) 2), Dat.b (gb (dOf r) 3), Dat.n (gn (dOf r) 4), Dat.n (gn (dOf r) 5), Dat.n (gn (dOf r) 6), Dat.n (gn (dOf r) 7), Dat.n (gn (dOf r) 8), Dat.b (gb (dOf r) 9), Dat.n (gn (dOf r) 10), Dat.n (gn (dOf r) 11), Dat.n (gn (dOf r) 12), Dat.l TB (gl TB (dOf r) 13), Dat.n (gn (dOf r) 14), Dat.n (gn (dOf r) 15), Dat.n (gn (dOf r) 16)])) e1
/-! ### The whole -/

theorem bz' (n : Int) : (n != n) = false := by simp
def Sil (n si pa ms : Int) : Prop := 0 ≤ si ∧ si ≤ n ∧ n ≤ 300 ∧ 1 ≤ pa ∧ pa ≤ 1000 ∧ ((si ≤ pa ∧ ms = si) ∨ (pa < si ∧ pa < ms ∧ ms ≤ pa + 1))
def HA (n : Int) (l : List Dat) : Prop := ∃ e p s1 s2 of at_ a b c ar d x si pa st ms, l = RA e p s1 s2 of at_ a b c ar d x si pa st ++ MD pa ms st e p (-1) s1 s2 x a b c ar d at_ of ∧ Sil n si pa ms
def HB (n : Int) (l : List Dat) : Prop := ∃ e p cy s1 s2 of at_ a b c ar d x si pa st ms, l = RB e p cy s1 s2 of at_ a b c ar d x si pa st ++ MD pa ms st e p cy s1 s2 x a b c ar d at_ of ∧ Sil n si pa ms
theorem eqL_self (ar : LB) : eqL TB ar ar = true := by
  induction ar with
  | nil => rfl
  | cons y l ih =>
    show (eqD TB y y && eqL TB l l) = true
    rw [ih]
    rw [Bool.and_true]
    exact beq_self_eq_true (α := Int) y
theorem v31a {n : Int} {l : List Dat} (h : HA n l) : op_31a l = some (0, [.b true]) := by
  obtain ⟨e, p, s1, s2, of, at_, a, b, c, ar, d, x, si, pa, st, ms, rfl, _⟩ := h
  show (fn_31a (.n e :: .n p :: .n s1 :: .n s2 :: .n of :: .n at_ :: .n a :: .n b :: .n c :: .l TB ar :: .n d :: .b x :: .n si :: .n pa :: .b st :: .n pa :: .n ms :: .b st :: .n e :: .n p :: .n (-1) :: .n s1 :: .n s2 :: .b x :: .n a :: .n b :: .n c :: .l TB ar :: .n d :: .n at_ :: .n of :: [])).sel = _
  refine (selF (by cases x <;> rfl)).trans ((selF ?_).trans ((selF (bz' _)).trans ((selF (bz' _)).trans ((selT ?_).trans ((selT (by cases st <;> rfl)).trans ((selT (beq_iff_eq.2 rfl)).trans ((selT (beq_iff_eq.2 rfl)).trans ?_)))))))
  · show (!((a == a) && ((b == b) && ((c == c) && (eqL TB ar ar && ((d == d) && true)))))) = false
    rw [eqL_self]; simp
  · show ((s1 == s1) && ((s2 == s2) && true)) = true
    simp
  · rfl
theorem v31b {n : Int} {l : List Dat} (h : HB n l) : op_31b l = some (0, [.b true]) := by
  obtain ⟨e, p, cy, s1, s2, of, at_, a, b, c, ar, d, x, si, pa, st, ms, rfl, _⟩ := h
  show (fn_31b (.n e :: .n p :: .n cy :: .n s1 :: .n s2 :: .n of :: .n at_ :: .n a :: .n b :: .n c :: .l TB ar :: .n d :: .b x :: .n si :: .n pa :: .b st :: .n pa :: .n ms :: .b st :: .n e :: .n p :: .n cy :: .n s1 :: .n s2 :: .b x :: .n a :: .n b :: .n c :: .l TB ar :: .n d :: .n at_ :: .n of :: [])).sel = _
  refine (selF (by cases x <;> rfl)).trans ((selF ?_).trans ((selF (bz' _)).trans ((selF (bz' _)).trans ((selT ?_).trans ((selT (by cases st <;> rfl)).trans ((selT (beq_iff_eq.2 rfl)).trans ((selT (beq_iff_eq.2 rfl)).trans ?_)))))))
  · show (!((a == a) && ((b == b) && ((c == c) && (eqL TB ar ar && ((d == d) && true)))))) = false
    rw [eqL_self]; simp
  · show ((s1 == s1) && ((s2 == s2) && true)) = true
    simp
  · show some (0, [Dat.b (cy == cy)]) = _
    simp
end Go.Proofs.Ytkclmlcfdijbmaa.Vx.Pl
namespace Go.Proofs.Ytkclmlcfdijbmaa.Vx.Pl
open Go Go.RowKit
set_option linter.unusedVariables false
set_option linter.unusedSimpArgs false
set_option maxRecDepth 100000
set_option maxHeartbeats 0
variable {l1 l2 l3 l4 : Int} {la : LB}
def Done (n : Int) (r : Option (Nat × List Dat)) : Prop := ∃ k d', r = some (k, .b true :: d') ∧ ((k = 0 ∧ HA n d') ∨ (k = 1 ∧ HB n d'))
theorem Done.a {n : Int} {r : Option (Nat × List Dat)} {q : Bool} {d' : List Dat} (h : r = some (0, .b q :: d')) (hq : q = true) (hd : HA n d') : Done n r := ⟨0, d', by rw [h, hq], .inl ⟨rfl, hd⟩⟩
theorem Done.b {n : Int} {r : Option (Nat × List Dat)} {q : Bool} {d' : List Dat} (h : r = some (1, .b q :: d')) (hq : q = true) (hd : HB n d') : Done n r := ⟨1, d', by rw [h, hq], .inr ⟨rfl, hd⟩⟩
theorem Sil.more {n si pa ms : Int} (h : Sil n si pa ms) (hn : n < 300) : Sil (n + 1) si pa ms := by unfold Sil at *; omega
theorem Sil.zero {n si pa ms : Int} (h : Sil n si pa ms) (hn : n < 300) : Sil (n + 1) 0 pa 0 := by unfold Sil at *; omega
theorem does_a {n : Int} (hn : n < 300) (k pair fk cyc ep pr pt : Int) {l : List Dat} (h : HA n l) : Done (n + 1) (op_32a (.n k :: .n pair :: .n fk :: .n cyc :: .n ep :: .n pr :: .n pt :: .n l1 :: .n l2 :: .n l3 :: .l TB la :: .n l4 :: l)) := by
  obtain ⟨e, p, s1, s2, of, at_, a, b, c, ar, d, x, si, pa, st, ms, rfl, hs⟩ := h
  have F : op_32a (.n k :: .n pair :: .n fk :: .n cyc :: .n ep :: .n pr :: .n pt :: .n l1 :: .n l2 :: .n l3 :: .l TB la :: .n l4 :: (RA e p s1 s2 of at_ a b c ar d x si pa st ++ MD pa ms st e p (-1) s1 s2 x a b c ar d at_ of)) = (fn_32a (.n k :: .n pair :: .n fk :: .n cyc :: .n ep :: .n pr :: .n pt :: .n l1 :: .n l2 :: .n l3 :: .l TB la :: .n l4 :: .n e :: .n p :: .n s1 :: .n s2 :: .n of :: .n at_ :: .n a :: .n b :: .n c :: .l TB ar :: .n d :: .b x :: .n si :: .n pa :: .b st :: .n pa :: .n ms :: .b st :: .n e :: .n p :: .n (-1) :: .n s1 :: .n s2 :: .b x :: .n a :: .n b :: .n c :: .l TB ar :: .n d :: .n at_ :: .n of :: [])).sel := rfl
  rw [F]
  by_cases k3 : Int.tmod k 8 = 3
  · have e1 : op_33a [.n pair, .n ep, .n e, .n p, .n s1, .n s2, .n of, .n at_, .n a, .n b, .n c, .l TB ar, .n d, .b x, .n si, .n pa, .b st] = _ := v33a pair ep e p
    have e2 : op_97 [.n pair, .n ep, .n pa, .n ms, .b st, .n e, .n p, .n (-1), .n s1, .n s2, .b x, .n a, .n b, .n c, .l TB ar, .n d, .n at_, .n of] = _ := v97 pair ep e p
    refine .a (d' := RA (if fErr e p pair ep = 0 ∧ ep > e then ep else e) (if fErr e p pair ep = 0 ∧ ep > e then pair else p) s1 s2 of at_ a b c ar d x si pa st ++ MD pa ms st (if fErr e p pair ep = 0 ∧ ep > e then ep else e) (if fErr e p pair ep = 0 ∧ ep > e then pair else p) (if fErr e p pair ep = 0 ∧ ep > e then -1 else -1) s1 s2 x a b c ar d at_ of) (q := fErr e p pair ep == fErr e p pair ep) ((selT (bt k3)).trans ?_) (by simp) ?_
    · rw [e1, e2]; rfl
    · exact ⟨_, _, s1, s2, of, at_, a, b, c, ar, d, x, si, pa, st, ms, by simp only [ite_self]; rfl, hs.more hn⟩
  refine Eq.rec (motive := fun z _ => Done (n + 1) z) ?_ (selF (bf k3)).symm
  by_cases k4 : Int.tmod k 8 = 4
  · have e1 : op_34a [.n pair, .n ep, .n e, .n p, .n s1, .n s2, .n of, .n at_, .n a, .n b, .n c, .l TB ar, .n d, .b x, .n si, .n pa, .b st] = _ := v34a pair ep e p
    have e2 : op_98 [.n pair, .n ep, .n pa, .n ms, .b st, .n e, .n p, .n (-1), .n s1, .n s2, .b x, .n a, .n b, .n c, .l TB ar, .n d, .n at_, .n of] = _ := v98 pair ep e p
    by_cases h0 : fErr e p pair ep = 0
    · rw [if_pos h0] at e1 e2
      refine .a (d' := RA (if fErr e p pair ep = 0 ∧ ep > e then ep else e) (if fErr e p pair ep = 0 ∧ ep > e then pair else p) 0 s2 of at_ a b c ar d x si pa true ++ MD pa ms true (if fErr e p pair ep = 0 ∧ ep > e then ep else e) (if fErr e p pair ep = 0 ∧ ep > e then pair else p) (if fErr e p pair ep = 0 ∧ ep > e then -1 else -1) 0 s2 x a b c ar d at_ of) (q := ((0 : Int) == 0)) ((selT (bt k4)).trans ?_) rfl ?_
      · rw [e1, e2]; rfl
      · exact ⟨_, _, 0, s2, of, at_, a, b, c, ar, d, x, si, pa, true, ms, by simp only [ite_self]; rfl, hs.more hn⟩
    · rw [if_neg h0] at e1 e2
      refine .a (d' := RA e p s1 s2 of at_ a b c ar d x si pa st ++ MD pa ms st e p (-1) s1 s2 x a b c ar d at_ of) (q := (fErr e p pair ep == fErr e p pair ep)) ((selT (bt k4)).trans ?_) (by simp) ⟨_, _, s1, s2, of, at_, a, b, c, ar, d, x, si, pa, st, ms, rfl, hs.more hn⟩
      rw [e1, e2]; rfl
  refine Eq.rec (motive := fun z _ => Done (n + 1) z) ?_ (selF (bf k4)).symm
  by_cases k5 : Int.tmod k 8 = 5
  ·
    have w1 : IntKind.wrap .i64 (si + 1) = si + 1 := w64 (by unfold Sil at hs; omega) (by unfold Sil at hs; omega)
    have w2 : IntKind.wrap .i64 (ms + 1) = ms + 1 := w64 (by unfold Sil at hs; omega) (by unfold Sil at hs; omega)
    have w3 : IntKind.wrap .i64 (pa + 1) = pa + 1 := w64 (by unfold Sil at hs; omega) (by unfold Sil at hs; omega)
    by_cases q : si + 1 > pa
    · have e1 : op_35a [.n e, .n p, .n s1, .n s2, .n of, .n at_, .n a, .n b, .n c, .l TB ar, .n d, .b x, .n si, .n pa, .b st] = some (0, [.n e, .n p, .n 0, .n s2, .n of, .n at_, .n a, .n b, .n c, .l TB ar, .n d, .b x, .n (si + 1), .n pa, .b true]) := by
        refine (selT (dt (by rw [w1]; exact q))).trans ?_
        rw [w1]; rfl
      have e2 : op_99 [.n pa, .n ms, .b st, .n e, .n p, .n (-1), .n s1, .n s2, .b x, .n a, .n b, .n c, .l TB ar, .n d, .n at_, .n of] = some (0, [.n pa, .n (pa + 1), .b true, .n e, .n p, .n (-1), .n 0, .n s2, .b x, .n a, .n b, .n c, .l TB ar, .n d, .n at_, .n of]) := by
        refine (selT (dt (by rw [w2]; unfold Sil at hs; omega))).trans ?_
        rw [w3]; rfl
      refine .a (d' := RA e p 0 s2 of at_ a b c ar d x (si + 1) pa true ++ MD pa (pa + 1) true e p (-1) 0 s2 x a b c ar d at_ of) (q := true) ((selT (bt k5)).trans ?_) rfl ⟨_, _, 0, s2, of, at_, a, b, c, ar, d, x, si + 1, pa, true, pa + 1, rfl, by unfold Sil at *; omega⟩
      rw [e1, e2]; rfl
    · have e1 : op_35a [.n e, .n p, .n s1, .n s2, .n of, .n at_, .n a, .n b, .n c, .l TB ar, .n d, .b x, .n si, .n pa, .b st] = some (0, [.n e, .n p, .n s1, .n s2, .n of, .n at_, .n a, .n b, .n c, .l TB ar, .n d, .b x, .n (si + 1), .n pa, .b st]) := by
        refine (selF (df (by rw [w1]; exact q))).trans ?_
        rw [w1]; rfl
      have e2 : op_99 [.n pa, .n ms, .b st, .n e, .n p, .n (-1), .n s1, .n s2, .b x, .n a, .n b, .n c, .l TB ar, .n d, .n at_, .n of] = some (0, [.n pa, .n (ms + 1), .b st, .n e, .n p, .n (-1), .n s1, .n s2, .b x, .n a, .n b, .n c, .l TB ar, .n d, .n at_, .n of]) := by
        refine (selF (df (by rw [w2]; unfold Sil at hs; omega))).trans ?_
        rw [w2]; rfl
      refine .a (d' := RA e p s1 s2 of at_ a b c ar d x (si + 1) pa st ++ MD pa (ms + 1) st e p (-1) s1 s2 x a b c ar d at_ of) (q := true) ((selT (bt k5)).trans ?_) rfl ⟨_, _, s1, s2, of, at_, a, b, c, ar, d, x, si + 1, pa, st, ms + 1, rfl, by unfold Sil at *; omega⟩
      rw [e1, e2]; rfl
  refine Eq.rec (motive := fun z _ => Done (n + 1) z) ?_ (selF (bf k5)).symm
  by_cases k6 : Int.tmod k 8 = 6
  ·
    have w1 : IntKind.wrap .i64 (si + 1) = si + 1 := w64 (by unfold Sil at hs; omega) (by unfold Sil at hs; omega)
    have w2 : IntKind.wrap .i64 (ms + 1) = ms + 1 := w64 (by unfold Sil at hs; omega) (by unfold Sil at hs; omega)
    have w3 : IntKind.wrap .i64 (pa + 1) = pa + 1 := w64 (by unfold Sil at hs; omega) (by unfold Sil at hs; omega)
    by_cases q : si + 1 > pa
    · have e1 : op_35a [.n e, .n p, .n s1, .n s2, .n of, .n at_, .n a, .n b, .n c, .l TB ar, .n d, .b x, .n si, .n pa, .b st] = some (0, [.n e, .n p, .n 0, .n s2, .n of, .n at_, .n a, .n b, .n c, .l TB ar, .n d, .b x, .n (si + 1), .n pa, .b true]) := by
        refine (selT (dt (by rw [w1]; exact q))).trans ?_
        rw [w1]; rfl
      have e2 : op_99 [.n pa, .n ms, .b st, .n e, .n p, .n (-1), .n s1, .n s2, .b x, .n a, .n b, .n c, .l TB ar, .n d, .n at_, .n of] = some (0, [.n pa, .n (pa + 1), .b true, .n e, .n p, .n (-1), .n 0, .n s2, .b x, .n a, .n b, .n c, .l TB ar, .n d, .n at_, .n of]) := by
        refine (selT (dt (by rw [w2]; unfold Sil at hs; omega))).trans ?_
        rw [w3]; rfl
      refine .a (d' := RA e p 0 s2 of at_ a b c ar d x (si + 1) pa true ++ MD pa (pa + 1) true e p (-1) 0 s2 x a b c ar d at_ of) (q := true) ((selT (bt k6)).trans ?_) rfl ⟨_, _, 0, s2, of, at_, a, b, c, ar, d, x, si + 1, pa, true, pa + 1, rfl, by unfold Sil at *; omega⟩
      rw [e1, e2]; rfl
    · have e1 : op_35a [.n e, .n p, .n s1, .n s2, .n of, .n at_, .n a, .n b, .n c, .l TB ar, .n d, .b x, .n si, .n pa, .b st] = some (0, [.n e, .n p, .n s1, .n s2, .n of, .n at_, .n a, .n b, .n c, .l TB ar, .n d, .b x, .n (si + 1), .n pa, .b st]) := by
        refine (selF (df (by rw [w1]; exact q))).trans ?_
        rw [w1]; rfl
      have e2 : op_99 [.n pa, .n ms, .b st, .n e, .n p, .n (-1), .n s1, .n s2, .b x, .n a, .n b, .n c, .l TB ar, .n d, .n at_, .n of] = some (0, [.n pa, .n (ms + 1), .b st, .n e, .n p, .n (-1), .n s1, .n s2, .b x, .n a, .n b, .n c, .l TB ar, .n d, .n at_, .n of]) := by
        refine (selF (df (by rw [w2]; unfold Sil at hs; omega))).trans ?_
        rw [w2]; rfl
      refine .a (d' := RA e p s1 s2 of at_ a b c ar d x (si + 1) pa st ++ MD pa (ms + 1) st e p (-1) s1 s2 x a b c ar d at_ of) (q := true) ((selT (bt k6)).trans ?_) rfl ⟨_, _, s1, s2, of, at_, a, b, c, ar, d, x, si + 1, pa, st, ms + 1, rfl, by unfold Sil at *; omega⟩
      rw [e1, e2]; rfl
  refine Eq.rec (motive := fun z _ => Done (n + 1) z) ?_ (selF (bf k6)).symm
  by_cases k7 : Int.tmod k 8 = 7
  · cases st with
    | false =>
      have e1 : op_36a [.n e, .n p, .n s1, .n s2, .n of, .n at_, .n a, .n b, .n c, .l TB ar, .n d, .b x, .n si, .n pa, .b false] = some (0, [.n 4, .n e, .n p, .n s1, .n s2, .n of, .n at_, .n a, .n b, .n c, .l TB ar, .n d, .b x, .n si, .n pa, .b false]) := rfl
      have e2 : op_100 [.n pa, .n ms, .b false, .n e, .n p, .n (-1), .n s1, .n s2, .b x, .n a, .n b, .n c, .l TB ar, .n d, .n at_, .n of] = some (0, [.n 4, .n pa, .n ms, .b false, .n e, .n p, .n (-1), .n s1, .n s2, .b x, .n a, .n b, .n c, .l TB ar, .n d, .n at_, .n of]) := rfl
      refine .a (d' := RA e p s1 s2 of at_ a b c ar d x si pa false ++ MD pa ms false e p (-1) s1 s2 x a b c ar d at_ of) (q := ((4 : Int) == 4)) ((selT (bt k7)).trans ?_) rfl ⟨_, _, s1, s2, of, at_, a, b, c, ar, d, x, si, pa, false, ms, rfl, hs.more hn⟩
      rw [e1, e2]; rfl
    | true =>
      have e1 : op_36a [.n e, .n p, .n s1, .n s2, .n of, .n at_, .n a, .n b, .n c, .l TB ar, .n d, .b x, .n si, .n pa, .b true] = some (0, [.n 0, .n e, .n p, .n s1, .n s2, .n of, .n at_, .n a, .n b, .n c, .l TB ar, .n d, .b x, .n 0, .n pa, .b false]) := rfl
      have e2 : op_100 [.n pa, .n ms, .b true, .n e, .n p, .n (-1), .n s1, .n s2, .b x, .n a, .n b, .n c, .l TB ar, .n d, .n at_, .n of] = some (0, [.n 0, .n pa, .n 0, .b false, .n e, .n p, .n (-1), .n s1, .n s2, .b x, .n a, .n b, .n c, .l TB ar, .n d, .n at_, .n of]) := rfl
      refine .a (d' := RA e p s1 s2 of at_ a b c ar d x 0 pa false ++ MD pa 0 false e p (-1) s1 s2 x a b c ar d at_ of) (q := ((0 : Int) == 0)) ((selT (bt k7)).trans ?_) rfl ⟨_, _, s1, s2, of, at_, a, b, c, ar, d, x, 0, pa, false, 0, rfl, hs.zero hn⟩
      rw [e1, e2]; rfl
  refine Eq.rec (motive := fun z _ => Done (n + 1) z) ?_ (selF (bf k7)).symm
  have e1 : op_37a [.n pair, .n fk, .n cyc, .n ep, .n pr, .n pt, .n l1, .n l2, .n l3, .l TB la, .n l4, .n e, .n p, .n s1, .n s2, .n of, .n at_, .n a, .n b, .n c, .l TB ar, .n d, .b x, .n si, .n pa, .b st] = _ := v37a pair fk cyc ep pr pt e p
  have e2 : op_101 [.n pair, .n ep, .n cyc, .n pr, .n pt, .n l1, .n l2, .n l3, .l TB la, .n l4, .n pa, .n ms, .b st, .n e, .n p, .n (-1), .n s1, .n s2, .b x, .n a, .n b, .n c, .l TB ar, .n d, .n at_, .n of] = _ := v101 pair ep cyc pr pt e p
  by_cases h0 : fErr e p pair ep = 0
  · rw [if_neg (fun q => q h0)] at e1 e2
    by_cases hb : badX cyc pr l1
    · rw [if_pos hb] at e1 e2
      refine .a (d' := RA e p s1 s2 of at_ a b c ar d x si pa st ++ MD pa ms st e p (-1) s1 s2 x a b c ar d at_ of) (q := ((2 : Int) == 2)) ?_ rfl ⟨_, _, s1, s2, of, at_, a, b, c, ar, d, x, si, pa, st, ms, rfl, hs.more hn⟩
      rw [e1, e2]; rfl
    rw [if_neg hb] at e1 e2
    have hc0 : 0 ≤ cyc := by unfold badX at hb; omega
    cases st with
    | true =>
      rw [if_pos rfl] at e1 e2
      refine .a (d' := RA (if ep > e then ep else e) (if ep > e then pair else p) s1 s2 of at_ a b c ar d x si pa true ++ MD pa ms true (if ep > e then ep else e) (if ep > e then pair else p) (if ep > e then -1 else -1) s1 s2 x a b c ar d at_ of) (q := ((220 : Int) == 220)) ?_ rfl ⟨_, _, s1, s2, of, at_, a, b, c, ar, d, x, si, pa, true, ms, by simp only [ite_self]; rfl, hs.more hn⟩
      rw [e1, e2]; rfl
    | false =>
      rw [if_neg (by simp)] at e1 e2
      rw [if_neg (by simp only [ite_self]; omega)] at e2
      refine .b (d' := RB (if ep > e then ep else e) (if ep > e then pair else p) cyc pr pt ep cyc l1 l2 l3 la l4 true 0 pa false ++ MD pa 0 false (if ep > e then ep else e) (if ep > e then pair else p) cyc pr pt true l1 l2 l3 la l4 cyc ep) (q := ((0 : Int) == 0)) ?_ rfl ⟨_, _, cyc, pr, pt, ep, cyc, l1, l2, l3, la, l4, true, 0, pa, false, 0, rfl, hs.zero hn⟩
      rw [e1, e2]; rfl
  · rw [if_pos h0] at e1 e2
    refine .a (d' := RA e p s1 s2 of at_ a b c ar d x si pa st ++ MD pa ms st e p (-1) s1 s2 x a b c ar d at_ of) (q := (fErr e p pair ep == fErr e p pair ep)) ?_ (by simp) ⟨_, _, s1, s2, of, at_, a, b, c, ar, d, x, si, pa, st, ms, rfl, hs.more hn⟩
    rw [e1, e2]; rfl
theorem does_b {n : Int} (hn : n < 300) (k pair fk cyc ep pr pt : Int) {l : List Dat} (h : HB n l) : Done (n + 1) (op_32b (.n k :: .n pair :: .n fk :: .n cyc :: .n ep :: .n pr :: .n pt :: .n l1 :: .n l2 :: .n l3 :: .l TB la :: .n l4 :: l)) := by
  obtain ⟨e, p, cy, s1, s2, of, at_, a, b, c, ar, d, x, si, pa, st, ms, rfl, hs⟩ := h
  have F : op_32b (.n k :: .n pair :: .n fk :: .n cyc :: .n ep :: .n pr :: .n pt :: .n l1 :: .n l2 :: .n l3 :: .l TB la :: .n l4 :: (RB e p cy s1 s2 of at_ a b c ar d x si pa st ++ MD pa ms st e p cy s1 s2 x a b c ar d at_ of)) = (fn_32b (.n k :: .n pair :: .n fk :: .n cyc :: .n ep :: .n pr :: .n pt :: .n l1 :: .n l2 :: .n l3 :: .l TB la :: .n l4 :: .n e :: .n p :: .n cy :: .n s1 :: .n s2 :: .n of :: .n at_ :: .n a :: .n b :: .n c :: .l TB ar :: .n d :: .b x :: .n si :: .n pa :: .b st :: .n pa :: .n ms :: .b st :: .n e :: .n p :: .n cy :: .n s1 :: .n s2 :: .b x :: .n a :: .n b :: .n c :: .l TB ar :: .n d :: .n at_ :: .n of :: [])).sel := rfl
  rw [F]
  by_cases k3 : Int.tmod k 8 = 3
  · have e1 : op_33b [.n pair, .n ep, .n e, .n p, .n cy, .n s1, .n s2, .n of, .n at_, .n a, .n b, .n c, .l TB ar, .n d, .b x, .n si, .n pa, .b st] = _ := v33b pair ep e p cy
    have e2 : op_97 [.n pair, .n ep, .n pa, .n ms, .b st, .n e, .n p, .n cy, .n s1, .n s2, .b x, .n a, .n b, .n c, .l TB ar, .n d, .n at_, .n of] = _ := v97 pair ep e p
    by_cases hR : fErr e p pair ep = 0 ∧ ep > e
    · rw [if_pos hR] at e1
      rw [if_pos hR, if_pos hR, if_pos hR] at e2
      refine .a (d' := RA ep pair s1 s2 of at_ a b c ar d x si pa st ++ MD pa ms st ep pair (-1) s1 s2 x a b c ar d at_ of) (q := (0 == fErr e p pair ep)) ((selT (bt k3)).trans ?_) (by rw [hR.1]; rfl) ⟨_, _, s1, s2, of, at_, a, b, c, ar, d, x, si, pa, st, ms, rfl, hs.more hn⟩
      rw [e1, e2]; rfl
    · rw [if_neg hR] at e1
      rw [if_neg hR, if_neg hR, if_neg hR] at e2
      refine .b (d' := RB e p cy s1 s2 of at_ a b c ar d x si pa st ++ MD pa ms st e p cy s1 s2 x a b c ar d at_ of) (q := (fErr e p pair ep == fErr e p pair ep)) ((selT (bt k3)).trans ?_) (by simp) ⟨_, _, cy, s1, s2, of, at_, a, b, c, ar, d, x, si, pa, st, ms, rfl, hs.more hn⟩
      rw [e1, e2]; rfl
  refine Eq.rec (motive := fun z _ => Done (n + 1) z) ?_ (selF (bf k3)).symm
  by_cases k4 : Int.tmod k 8 = 4
  · have e1 : op_34b [.n pair, .n ep, .n e, .n p, .n cy, .n s1, .n s2, .n of, .n at_, .n a, .n b, .n c, .l TB ar, .n d, .b x, .n si, .n pa, .b st] = _ := v34b pair ep e p cy
    have e2 : op_98 [.n pair, .n ep, .n pa, .n ms, .b st, .n e, .n p, .n cy, .n s1, .n s2, .b x, .n a, .n b, .n c, .l TB ar, .n d, .n at_, .n of] = _ := v98 pair ep e p
    by_cases hR : fErr e p pair ep = 0 ∧ ep > e
    · rw [if_pos hR] at e1
      rw [if_pos hR.1, if_pos hR, if_pos hR, if_pos hR] at e2
      refine .a (d' := RA ep pair 0 s2 of at_ a b c ar d x si pa true ++ MD pa ms true ep pair (-1) 0 s2 x a b c ar d at_ of) (q := ((0 : Int) == 0)) ((selT (bt k4)).trans ?_) rfl ⟨_, _, 0, s2, of, at_, a, b, c, ar, d, x, si, pa, true, ms, rfl, hs.more hn⟩
      rw [e1, e2]; rfl
    · rw [if_neg hR] at e1
      by_cases h0 : fErr e p pair ep = 0
      · rw [if_pos h0] at e1
        rw [if_pos h0, if_neg hR, if_neg hR, if_neg hR] at e2
        refine .b (d' := RB e p cy 0 s2 of at_ a b c ar d x si pa true ++ MD pa ms true e p cy 0 s2 x a b c ar d at_ of) (q := ((0 : Int) == 0)) ((selT (bt k4)).trans ?_) rfl ⟨_, _, cy, 0, s2, of, at_, a, b, c, ar, d, x, si, pa, true, ms, rfl, hs.more hn⟩
        rw [e1, e2]; rfl
      · rw [if_neg h0] at e1 e2
        refine .b (d' := RB e p cy s1 s2 of at_ a b c ar d x si pa st ++ MD pa ms st e p cy s1 s2 x a b c ar d at_ of) (q := (fErr e p pair ep == fErr e p pair ep)) ((selT (bt k4)).trans ?_) (by simp) ⟨_, _, cy, s1, s2, of, at_, a, b, c, ar, d, x, si, pa, st, ms, rfl, hs.more hn⟩
        rw [e1, e2]; rfl
  refine Eq.rec (motive := fun z _ => Done (n + 1) z) ?_ (selF (bf k4)).symm
  by_cases k5 : Int.tmod k 8 = 5
  ·
    have w1 : IntKind.wrap .i64 (si + 1) = si + 1 := w64 (by unfold Sil at hs; omega) (by unfold Sil at hs; omega)
    have w2 : IntKind.wrap .i64 (ms + 1) = ms + 1 := w64 (by unfold Sil at hs; omega) (by unfold Sil at hs; omega)
    have w3 : IntKind.wrap .i64 (pa + 1) = pa + 1 := w64 (by unfold Sil at hs; omega) (by unfold Sil at hs; omega)
    by_cases q : si + 1 > pa
    · have e1 : op_35b [.n e, .n p, .n cy, .n s1, .n s2, .n of, .n at_, .n a, .n b, .n c, .l TB ar, .n d, .b x, .n si, .n pa, .b st] = some (1, [.n e, .n p, .n cy, .n 0, .n s2, .n of, .n at_, .n a, .n b, .n c, .l TB ar, .n d, .b x, .n (si + 1), .n pa, .b true]) := by
        refine (selT (dt (by rw [w1]; exact q))).trans ?_
        rw [w1]; rfl
      have e2 : op_99 [.n pa, .n ms, .b st, .n e, .n p, .n cy, .n s1, .n s2, .b x, .n a, .n b, .n c, .l TB ar, .n d, .n at_, .n of] = some (0, [.n pa, .n (pa + 1), .b true, .n e, .n p, .n cy, .n 0, .n s2, .b x, .n a, .n b, .n c, .l TB ar, .n d, .n at_, .n of]) := by
        refine (selT (dt (by rw [w2]; unfold Sil at hs; omega))).trans ?_
        rw [w3]; rfl
      refine .b (d' := RB e p cy 0 s2 of at_ a b c ar d x (si + 1) pa true ++ MD pa (pa + 1) true e p cy 0 s2 x a b c ar d at_ of) (q := true) ((selT (bt k5)).trans ?_) rfl ⟨_, _, cy, 0, s2, of, at_, a, b, c, ar, d, x, si + 1, pa, true, pa + 1, rfl, by unfold Sil at *; omega⟩
      rw [e1, e2]; rfl
    · have e1 : op_35b [.n e, .n p, .n cy, .n s1, .n s2, .n of, .n at_, .n a, .n b, .n c, .l TB ar, .n d, .b x, .n si, .n pa, .b st] = some (1, [.n e, .n p, .n cy, .n s1, .n s2, .n of, .n at_, .n a, .n b, .n c, .l TB ar, .n d, .b x, .n (si + 1), .n pa, .b st]) := by
        refine (selF (df (by rw [w1]; exact q))).trans ?_
        rw [w1]; rfl
      have e2 : op_99 [.n pa, .n ms, .b st, .n e, .n p, .n cy, .n s1, .n s2, .b x, .n a, .n b, .n c, .l TB ar, .n d, .n at_, .n of] = some (0, [.n pa, .n (ms + 1), .b st, .n e, .n p, .n cy, .n s1, .n s2, .b x, .n a, .n b, .n c, .l TB ar, .n d, .n at_, .n of]) := by
        refine (selF (df (by rw [w2]; unfold Sil at hs; omega))).trans ?_
        rw [w2]; rfl
      refine .b (d' := RB e p cy s1 s2 of at_ a b c ar d x (si + 1) pa st ++ MD pa (ms + 1) st e p cy s1 s2 x a b c ar d at_ of) (q := true) ((selT (bt k5)).trans ?_) rfl ⟨_, _, cy, s1, s2, of, at_, a, b, c, ar, d, x, si + 1, pa, st, ms + 1, rfl, by unfold Sil at *; omega⟩
      rw [e1, e2]; rfl
  refine Eq.rec (motive := fun z _ => Done (n + 1) z) ?_ (selF (bf k5)).symm
  by_cases k6 : Int.tmod k 8 = 6
  ·
    have w1 : IntKind.wrap .i64 (si + 1) = si + 1 := w64 (by unfold Sil at hs; omega) (by unfold Sil at hs; omega)
    have w2 : IntKind.wrap .i64 (ms + 1) = ms + 1 := w64 (by unfold Sil at hs; omega) (by unfold Sil at hs; omega)
    have w3 : IntKind.wrap .i64 (pa + 1) = pa + 1 := w64 (by unfold Sil at hs; omega) (by unfold Sil at hs; omega)
    by_cases q : si + 1 > pa
    · have e1 : op_35b [.n e, .n p, .n cy, .n s1, .n s2, .n of, .n at_, .n a, .n b, .n c, .l TB ar, .n d, .b x, .n si, .n pa, .b st] = some (1, [.n e, .n p, .n cy, .n 0, .n s2, .n of, .n at_, .n a, .n b, .n c, .l TB ar, .n d, .b x, .n (si + 1), .n pa, .b true]) := by
        refine (selT (dt (by rw [w1]; exact q))).trans ?_
        rw [w1]; rfl
      have e2 : op_99 [.n pa, .n ms, .b st, .n e, .n p, .n cy, .n s1, .n s2, .b x, .n a, .n b, .n c, .l TB ar, .n d, .n at_, .n of] = some (0, [.n pa, .n (pa + 1), .b true, .n e, .n p, .n cy, .n 0, .n s2, .b x, .n a, .n b, .n c, .l TB ar, .n d, .n at_, .n of]) := by
        refine (selT (dt (by rw [w2]; unfold Sil at hs; omega))).trans ?_
        rw [w3]; rfl
      refine .b (d' := RB e p cy 0 s2 of at_ a b c ar d x (si + 1) pa true ++ MD pa (pa + 1) true e p cy 0 s2 x a b c ar d at_ of) (q := true) ((selT (bt k6)).trans ?_) rfl ⟨_, _, cy, 0, s2, of, at_, a, b, c, ar, d, x, si + 1, pa, true, pa + 1, rfl, by unfold Sil at *; omega⟩
      rw [e1, e2]; rfl
    · have e1 : op_35b [.n e, .n p, .n cy, .n s1, .n s2, .n of, .n at_, .n a, .n b, .n c, .l TB ar, .n d, .b x, .n si, .n pa, .b st] = some (1, [.n e, .n p, .n cy, .n s1, .n s2, .n of, .n at_, .n a, .n b, .n c, .l TB ar, .n d, .b x, .n (si + 1), .n pa, .b st]) := by
        refine (selF (df (by rw [w1]; exact q))).trans ?_
        rw [w1]; rfl
      have e2 : op_99 [.n pa, .n ms, .b st, .n e, .n p, .n cy, .n s1, .n s2, .b x, .n a, .n b, .n c, .l TB ar, .n d, .n at_, .n of] = some (0, [.n pa, .n (ms + 1), .b st, .n e, .n p, .n cy, .n s1, .n s2, .b x, .n a, .n b, .n c, .l TB ar, .n d, .n at_, .n of]) := by
        refine (selF (df (by rw [w2]; unfold Sil at hs; omega))).trans ?_
        rw [w2]; rfl
      refine .b (d' := RB e p cy s1 s2 of at_ a b c ar d x (si + 1) pa st ++ MD pa (ms + 1) st e p cy s1 s2 x a b c ar d at_ of) (q := true) ((selT (bt k6)).trans ?_) rfl ⟨_, _, cy, s1, s2, of, at_, a, b, c, ar, d, x, si + 1, pa, st, ms + 1, rfl, by unfold Sil at *; omega⟩
      rw [e1, e2]; rfl
  refine Eq.rec (motive := fun z _ => Done (n + 1) z) ?_ (selF (bf k6)).symm
  by_cases k7 : Int.tmod k 8 = 7
  · cases st with
    | false =>
      have e1 : op_36b [.n e, .n p, .n cy, .n s1, .n s2, .n of, .n at_, .n a, .n b, .n c, .l TB ar, .n d, .b x, .n si, .n pa, .b false] = some (1, [.n 4, .n e, .n p, .n cy, .n s1, .n s2, .n of, .n at_, .n a, .n b, .n c, .l TB ar, .n d, .b x, .n si, .n pa, .b false]) := rfl
      have e2 : op_100 [.n pa, .n ms, .b false, .n e, .n p, .n cy, .n s1, .n s2, .b x, .n a, .n b, .n c, .l TB ar, .n d, .n at_, .n of] = some (0, [.n 4, .n pa, .n ms, .b false, .n e, .n p, .n cy, .n s1, .n s2, .b x, .n a, .n b, .n c, .l TB ar, .n d, .n at_, .n of]) := rfl
      refine .b (d' := RB e p cy s1 s2 of at_ a b c ar d x si pa false ++ MD pa ms false e p cy s1 s2 x a b c ar d at_ of) (q := ((4 : Int) == 4)) ((selT (bt k7)).trans ?_) rfl ⟨_, _, cy, s1, s2, of, at_, a, b, c, ar, d, x, si, pa, false, ms, rfl, hs.more hn⟩
      rw [e1, e2]; rfl
    | true =>
      have e1 : op_36b [.n e, .n p, .n cy, .n s1, .n s2, .n of, .n at_, .n a, .n b, .n c, .l TB ar, .n d, .b x, .n si, .n pa, .b true] = some (1, [.n 0, .n e, .n p, .n cy, .n s1, .n s2, .n of, .n at_, .n a, .n b, .n c, .l TB ar, .n d, .b x, .n 0, .n pa, .b false]) := rfl
      have e2 : op_100 [.n pa, .n ms, .b true, .n e, .n p, .n cy, .n s1, .n s2, .b x, .n a, .n b, .n c, .l TB ar, .n d, .n at_, .n of] = some (0, [.n 0, .n pa, .n 0, .b false, .n e, .n p, .n cy, .n s1, .n s2, .b x, .n a, .n b, .n c, .l TB ar, .n d, .n at_, .n of]) := rfl
      refine .b (d' := RB e p cy s1 s2 of at_ a b c ar d x 0 pa false ++ MD pa 0 false e p cy s1 s2 x a b c ar d at_ of) (q := ((0 : Int) == 0)) ((selT (bt k7)).trans ?_) rfl ⟨_, _, cy, s1, s2, of, at_, a, b, c, ar, d, x, 0, pa, false, 0, rfl, hs.zero hn⟩
      rw [e1, e2]; rfl
  refine Eq.rec (motive := fun z _ => Done (n + 1) z) ?_ (selF (bf k7)).symm
  have e1 : op_37b [.n pair, .n fk, .n cyc, .n ep, .n pr, .n pt, .n l1, .n l2, .n l3, .l TB la, .n l4, .n e, .n p, .n cy, .n s1, .n s2, .n of, .n at_, .n a, .n b, .n c, .l TB ar, .n d, .b x, .n si, .n pa, .b st] = _ := v37b pair fk cyc ep pr pt e p cy
  have e2 : op_101 [.n pair, .n ep, .n cyc, .n pr, .n pt, .n l1, .n l2, .n l3, .l TB la, .n l4, .n pa, .n ms, .b st, .n e, .n p, .n cy, .n s1, .n s2, .b x, .n a, .n b, .n c, .l TB ar, .n d, .n at_, .n of] = _ := v101 pair ep cyc pr pt e p
  by_cases h0 : fErr e p pair ep = 0
  · rw [if_neg (fun q => q h0)] at e1 e2
    by_cases hb : badX cyc pr l1
    · rw [if_pos hb] at e1 e2
      refine .b (d' := RB e p cy s1 s2 of at_ a b c ar d x si pa st ++ MD pa ms st e p cy s1 s2 x a b c ar d at_ of) (q := ((2 : Int) == 2)) ?_ rfl ⟨_, _, cy, s1, s2, of, at_, a, b, c, ar, d, x, si, pa, st, ms, rfl, hs.more hn⟩
      rw [e1, e2]; rfl
    rw [if_neg hb] at e1 e2
    have hc0 : 0 ≤ cyc := by unfold badX at hb; omega
    cases st with
    | true =>
      rw [if_pos rfl] at e1 e2
      by_cases hg : ep > e
      · rw [if_pos hg] at e1
        rw [if_pos hg, if_pos hg, if_pos hg] at e2
        refine .a (d' := RA ep pair s1 s2 of at_ a b c ar d x si pa true ++ MD pa ms true ep pair (-1) s1 s2 x a b c ar d at_ of) (q := ((220 : Int) == 220)) ?_ rfl ⟨_, _, s1, s2, of, at_, a, b, c, ar, d, x, si, pa, true, ms, rfl, hs.more hn⟩
        rw [e1, e2]; rfl
      · rw [if_neg hg] at e1
        rw [if_neg hg, if_neg hg, if_neg hg] at e2
        refine .b (d' := RB e p cy s1 s2 of at_ a b c ar d x si pa true ++ MD pa ms true e p cy s1 s2 x a b c ar d at_ of) (q := ((220 : Int) == 220)) ?_ rfl ⟨_, _, cy, s1, s2, of, at_, a, b, c, ar, d, x, si, pa, true, ms, rfl, hs.more hn⟩
        rw [e1, e2]; rfl
    | false =>
      rw [if_neg (by simp)] at e1 e2
      by_cases hg : ep > e
      · rw [if_neg (fun q => q.1 hg), if_pos hg, if_pos hg] at e1
        rw [if_neg (by rw [if_pos hg]; omega), if_pos hg, if_pos hg] at e2
        refine .b (d' := RB ep pair cyc pr pt ep cyc l1 l2 l3 la l4 true 0 pa false ++ MD pa 0 false ep pair cyc pr pt true l1 l2 l3 la l4 cyc ep) (q := ((0 : Int) == 0)) ?_ rfl ⟨_, _, cyc, pr, pt, ep, cyc, l1, l2, l3, la, l4, true, 0, pa, false, 0, rfl, hs.zero hn⟩
        rw [e1, e2]; rfl
      · by_cases hl : cyc ≤ cy
        · rw [if_pos ⟨hg, hl⟩] at e1
          rw [if_pos (by rw [if_neg hg]; exact hl), if_neg hg, if_neg hg, if_neg hg] at e2
          refine .b (d' := RB e p cy s1 s2 of at_ a b c ar d x si pa false ++ MD pa ms false e p cy s1 s2 x a b c ar d at_ of) (q := ((4 : Int) == 4)) ?_ rfl ⟨_, _, cy, s1, s2, of, at_, a, b, c, ar, d, x, si, pa, false, ms, rfl, hs.more hn⟩
          rw [e1, e2]; rfl
        · rw [if_neg (fun q => hl q.2), if_neg hg, if_neg hg] at e1
          rw [if_neg (by rw [if_neg hg]; exact hl), if_neg hg, if_neg hg] at e2
          refine .b (d' := RB e p cyc pr pt ep cyc l1 l2 l3 la l4 true 0 pa false ++ MD pa 0 false e p cyc pr pt true l1 l2 l3 la l4 cyc ep) (q := ((0 : Int) == 0)) ?_ rfl ⟨_, _, cyc, pr, pt, ep, cyc, l1, l2, l3, la, l4, true, 0, pa, false, 0, rfl, hs.zero hn⟩
          rw [e1, e2]; rfl
  · rw [if_pos h0] at e1 e2
    refine .b (d' := RB e p cy s1 s2 of at_ a b c ar d x si pa st ++ MD pa ms st e p cy s1 s2 x a b c ar d at_ of) (q := (fErr e p pair ep == fErr e p pair ep)) ?_ (by simp) ⟨_, _, cy, s1, s2, of, at_, a, b, c, ar, d, x, si, pa, st, ms, rfl, hs.more hn⟩
    rw [e1, e2]; rfl
end Go.Proofs.Ytkclmlcfdijbmaa.Vx.Pl
namespace Go.Proofs.Ytkclmlcfdijbmaa.Vx.Pl
open Go Go.RowKit
set_option linter.unusedVariables false
set_option linter.unusedSimpArgs false
set_option maxRecDepth 100000
set_option maxHeartbeats 0
abbrev LC24 := List (Ty.den TCall24)
def I5 (l : LC24) (env : List Dat) : Prop := ∃ (i : Int) (d : List Dat), 0 ≤ i ∧ i ≤ l.length ∧ ((env = .k 0 :: .l TCall24 l :: .n i :: d ∧ HA i d) ∨ (env = .k 1 :: .l TCall24 l :: .n i :: d ∧ HB i d))
def P5 (k : Nat) (d : List Dat) : Prop := (k = 0 ∧ d = []) ∨ (k = 1 ∧ d = [.b true])
theorem go5a (l : LC24) (hl : l.length ≤ 300) (i : Int) (h0 : 0 ≤ i) (h1 : i < l.length) {d : List Dat} (h : HA i d) :
    ∃ e, (fn_L5_10_0 (.l TCall24 l :: .n i :: d)).sel = some (.go e) ∧ ∃ d', ((e = .k 0 :: .l TCall24 l :: .n (i + 1) :: d' ∧ HA (i + 1) d') ∨ (e = .k 1 :: .l TCall24 l :: .n (i + 1) :: d' ∧ HB (i + 1) d')) := by
  have w1 : IntKind.wrap .i64 (i + 1) = i + 1 := w64 (by omega) (by omega)
  have D : ∀ c : Ty.den TCall24, Done (i + 1) (op_32a (.n c.1 :: .n c.2.1 :: .n c.2.2.1 :: .n c.2.2.2.1 :: .n c.2.2.2.2.1 :: .n c.2.2.2.2.2.1 :: .n c.2.2.2.2.2.2.1 :: .n c.2.2.2.2.2.2.2.1 :: .n c.2.2.2.2.2.2.2.2.1 :: .n c.2.2.2.2.2.2.2.2.2.1 :: .l TB c.2.2.2.2.2.2.2.2.2.2.1 :: .n c.2.2.2.2.2.2.2.2.2.2.2 :: d)) := fun c => does_a (by omega) c.1 c.2.1 c.2.2.1 c.2.2.2.1 c.2.2.2.2.1 c.2.2.2.2.2.1 c.2.2.2.2.2.2.1 h
  obtain ⟨k, d', e, hd⟩ := D (l.getD i.toNat (Ty.dflt TCall24))
  obtain ⟨e0, p, s1, s2, of, at_, a, b, c, ar, dd, x, si, pa, st, ms, rfl, hs⟩ := h
  simp only [RA, RB, MD, List.cons_append, List.nil_append] at e
  rcases hd with ⟨rfl, hd⟩ | ⟨rfl, hd⟩
  · have r := v31a hd
    have hd0 := hd
    obtain ⟨f0, q, t1, t2, og, au, a1, b1, c1, ar1, dd1, x1, sj, pb, su, mt, rfl, ht⟩ := hd0
    refine ⟨_, (selT (dt h1)).trans ((selT (inR_true h0 h1)).trans ?_), _, .inl ⟨rfl, hd⟩⟩
    erw [e]; rw [w1]
    exact (selT rfl).trans ((selF rfl).trans ((selT (congrArg (isK 0 [HK.b]) r)).trans ((selF (congrArg (fun r => !gb (dOf r) 0) r)).trans rfl)))
  · have r := v31b hd
    have hd0 := hd
    obtain ⟨f0, q, cz, t1, t2, og, au, a1, b1, c1, ar1, dd1, x1, sj, pb, su, mt, rfl, ht⟩ := hd0
    refine ⟨_, (selT (dt h1)).trans ((selT (inR_true h0 h1)).trans ?_), _, .inr ⟨rfl, hd⟩⟩
    erw [e]; rw [w1]
    refine (selF rfl).trans ?_
    exact (selT rfl).trans ((selF rfl).trans ((selT (congrArg (isK 0 [HK.b]) r)).trans ((selF (congrArg (fun r => !gb (dOf r) 0) r)).trans rfl)))
theorem go5b (l : LC24) (hl : l.length ≤ 300) (i : Int) (h0 : 0 ≤ i) (h1 : i < l.length) {d : List Dat} (h : HB i d) :
    ∃ e, (fn_L5_10_1 (.l TCall24 l :: .n i :: d)).sel = some (.go e) ∧ ∃ d', ((e = .k 0 :: .l TCall24 l :: .n (i + 1) :: d' ∧ HA (i + 1) d') ∨ (e = .k 1 :: .l TCall24 l :: .n (i + 1) :: d' ∧ HB (i + 1) d')) := by
  have w1 : IntKind.wrap .i64 (i + 1) = i + 1 := w64 (by omega) (by omega)
  have D : ∀ c : Ty.den TCall24, Done (i + 1) (op_32b (.n c.1 :: .n c.2.1 :: .n c.2.2.1 :: .n c.2.2.2.1 :: .n c.2.2.2.2.1 :: .n c.2.2.2.2.2.1 :: .n c.2.2.2.2.2.2.1 :: .n c.2.2.2.2.2.2.2.1 :: .n c.2.2.2.2.2.2.2.2.1 :: .n c.2.2.2.2.2.2.2.2.2.1 :: .l TB c.2.2.2.2.2.2.2.2.2.2.1 :: .n c.2.2.2.2.2.2.2.2.2.2.2 :: d)) := fun c => does_b (by omega) c.1 c.2.1 c.2.2.1 c.2.2.2.1 c.2.2.2.2.1 c.2.2.2.2.2.1 c.2.2.2.2.2.2.1 h
  obtain ⟨k, d', e, hd⟩ := D (l.getD i.toNat (Ty.dflt TCall24))
  obtain ⟨e0, p, cy, s1, s2, of, at_, a, b, c, ar, dd, x, si, pa, st, ms, rfl, hs⟩ := h
  simp only [RA, RB, MD, List.cons_append, List.nil_append] at e
  rcases hd with ⟨rfl, hd⟩ | ⟨rfl, hd⟩
  · have r := v31a hd
    have hd0 := hd
    obtain ⟨f0, q, t1, t2, og, au, a1, b1, c1, ar1, dd1, x1, sj, pb, su, mt, rfl, ht⟩ := hd0
    refine ⟨_, (selT (dt h1)).trans ((selT (inR_true h0 h1)).trans ?_), _, .inl ⟨rfl, hd⟩⟩
    erw [e]; rw [w1]
    exact (selT rfl).trans ((selF rfl).trans ((selT (congrArg (isK 0 [HK.b]) r)).trans ((selF (congrArg (fun r => !gb (dOf r) 0) r)).trans rfl)))
  · have r := v31b hd
    have hd0 := hd
    obtain ⟨f0, q, cz, t1, t2, og, au, a1, b1, c1, ar1, dd1, x1, sj, pb, su, mt, rfl, ht⟩ := hd0
    refine ⟨_, (selT (dt h1)).trans ((selT (inR_true h0 h1)).trans ?_), _, .inr ⟨rfl, hd⟩⟩
    erw [e]; rw [w1]
    refine (selF rfl).trans ?_
    exact (selT rfl).trans ((selF rfl).trans ((selT (congrArg (isK 0 [HK.b]) r)).trans ((selF (congrArg (fun r => !gb (dOf r) 0) r)).trans rfl)))
theorem l5 (l : LC24) (hl : l.length ≤ 300) {d : List Dat} (h : HA 0 d) : ∃ k d', op_L5_10 (.k 0 :: .l TCall24 l :: .n 0 :: d) = some (k, d') ∧ P5 k d' := by
  refine iterS_ok (st := fn_L5_10) (I5 l) (fun env => l.length - (gn env 2).toNat) P5 ?_ FU _ ⟨0, d, by omega, by omega, .inl ⟨rfl, h⟩⟩ (by show l.length - _ < FU; unfold FU; omega)
  rintro env ⟨i, d, h0, h1, ⟨rfl, hd⟩ | ⟨rfl, hd⟩⟩
  · by_cases hi : i < l.length
    · left
      obtain ⟨e, he, d', ⟨rfl, hd'⟩ | ⟨rfl, hd'⟩⟩ := go5a l hl i h0 hi hd
      · exact ⟨_, he, ⟨i + 1, d', by omega, by omega, .inl ⟨rfl, hd'⟩⟩, by show l.length - (i + 1).toNat < l.length - i.toNat; omega⟩
      · exact ⟨_, he, ⟨i + 1, d', by omega, by omega, .inr ⟨rfl, hd'⟩⟩, by show l.length - (i + 1).toNat < l.length - i.toNat; omega⟩
    · right
      obtain ⟨e0, p, s1, s2, of, at_, a, b, c, ar, dd, x, si, pa, st, ms, rfl, hs⟩ := hd
      exact ⟨0, [], selF (df hi), .inl ⟨rfl, rfl⟩⟩
  · by_cases hi : i < l.length
    · left
      obtain ⟨e, he, d', ⟨rfl, hd'⟩ | ⟨rfl, hd'⟩⟩ := go5b l hl i h0 hi hd
      · exact ⟨_, he, ⟨i + 1, d', by omega, by omega, .inl ⟨rfl, hd'⟩⟩, by show l.length - (i + 1).toNat < l.length - i.toNat; omega⟩
      · exact ⟨_, he, ⟨i + 1, d', by omega, by omega, .inr ⟨rfl, hd'⟩⟩, by show l.length - (i + 1).toNat < l.length - i.toNat; omega⟩
    · right
      obtain ⟨e0, p, cy, s1, s2, of, at_, a, b, c, ar, dd, x, si, pa, st, ms, rfl, hs⟩ := hd
      exact ⟨0, [], selF (df hi), .inl ⟨rfl, rfl⟩⟩
theorem t5 (n0 : Int) (l : LC24) : (fn_W5 [.n n0, .l TCall24 l]).sel = some true := by
  by_cases q1 : (l.length : Int) > 300
  · exact selT (dt q1)
  refine (selF (df q1)).trans ?_
  by_cases q2 : n0 < 1
  · exact selT (dt q2)
  refine (selF (df q2)).trans ?_
  by_cases q3 : n0 > 1000
  · exact selT (dt q3)
  refine (selF (df q3)).trans ?_
  have z : HA 0 (RA 0 (-1) 0 0 0 0 0 0 0 (List.replicate 64 (0 : Int)) 0 false 0 n0 true ++ MD n0 0 true 0 (-1) (-1) 0 0 false 0 0 0 (List.replicate 64 (0 : Int)) 0 0 0) := ⟨_, _, _, _, _, _, _, _, _, _, _, _, _, _, _, _, rfl, by unfold Sil; omega⟩
  obtain ⟨k, d', e, h⟩ := l5 l (by omega) z
  rcases h with ⟨rfl, rfl⟩ | ⟨rfl, rfl⟩
  · exact (selT (congrArg (isK 0 []) e)).trans rfl
  · refine (selF (congrArg (isK 0 []) e)).trans ((selT (congrArg (isK 1 [HK.b]) e)).trans ?_)
    exact congrArg (fun r => some (gb (dOf r) 0)) e
end Go.Proofs.Ytkclmlcfdijbmaa.Vx.Pl
