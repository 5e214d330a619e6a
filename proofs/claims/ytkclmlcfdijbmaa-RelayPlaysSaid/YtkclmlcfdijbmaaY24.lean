import Derived.Test.YtkclmlcfdijbmaaX24a
import Derived.Test.YtkclmlcfdijbmaaVxLoop
namespace Go.Proofs.Ytkclmlcfdijbmaa.Vx
open Go Go.RowKit
set_option linter.unusedVariables false
set_option linter.unusedSimpArgs false
set_option maxRecDepth 100000
set_option maxHeartbeats 0
def fErr (e p pair ep : Int) : Int := if pair < 0 then 2 else if pair > 1 then 2 else if ep < 1 then 2 else if ep > 1099511627776 then 2 else if ep < e then 230 else if ep = e ∧ pair ≠ p then 230 else 0
def Right24 (pair ep : Int) : Prop := 0 ≤ pair ∧ pair ≤ 1 ∧ 1 ≤ ep ∧ ep ≤ 1099511627776
theorem fErr_cases (e p pair ep : Int) : (fErr e p pair ep = 2 ∧ (pair < 0 ∨ pair > 1 ∨ ep < 1 ∨ ep > 1099511627776)) ∨ (fErr e p pair ep = 230 ∧ (0 ≤ pair ∧ pair ≤ 1 ∧ 1 ≤ ep ∧ ep ≤ 1099511627776) ∧ (ep < e ∨ (ep = e ∧ pair ≠ p))) ∨
    (fErr e p pair ep = 0 ∧ (0 ≤ pair ∧ pair ≤ 1 ∧ 1 ≤ ep ∧ ep ≤ 1099511627776) ∧ ep > e) ∨ (fErr e p pair ep = 0 ∧ (0 ≤ pair ∧ pair ≤ 1 ∧ 1 ≤ ep ∧ ep ≤ 1099511627776) ∧ ep = e ∧ pair = p) := by
  unfold fErr
  repeat' split
  all_goals omega
abbrev TB : Ty := .int .u8
abbrev LB := List (Ty.den TB)
variable {s1 s2 of at_ a b c d si pa ms mc : Int} {ar : LB} {x st : Bool}
theorem v33a (pair ep e p : Int) : op_33a [.n pair, .n ep, .n e, .n p, .n s1, .n s2, .n of, .n at_, .n a, .n b, .n c, .l TB ar, .n d, .b x, .n si, .n pa, .b st] =
      some (0, [.n (fErr e p pair ep), .n (if fErr e p pair ep = 0 ∧ ep > e then ep else e), .n (if fErr e p pair ep = 0 ∧ ep > e then pair else p), .n s1, .n s2, .n of, .n at_, .n a, .n b, .n c, .l TB ar, .n d, .b x, .n si, .n pa, .b st]) := by
  rcases fErr_cases e p pair ep with ⟨h, h1⟩ | ⟨h, h1, h2⟩ | ⟨h, h1, h2⟩ | ⟨h, h1, h2⟩
  · rw [h, if_neg (by omega), if_neg (by omega)]
    show (fn_33a _).sel = _
    simp only [fn_33a, Tree.sel, Bool.cond_eq_ite, decide_eq_true_eq, beq_iff_eq, bne_iff_ne, ne_eq]
    repeat' split
    all_goals first | rfl | (exfalso; omega)
  · rw [h, if_neg (by omega), if_neg (by omega)]
    show (fn_33a _).sel = _
    simp only [fn_33a, Tree.sel, Bool.cond_eq_ite, decide_eq_true_eq, beq_iff_eq, bne_iff_ne, ne_eq]
    repeat' split
    all_goals first | rfl | (exfalso; omega)
  · rw [h, if_pos ⟨rfl, h2⟩, if_pos ⟨rfl, h2⟩]
    show (fn_33a _).sel = _
    simp only [fn_33a, Tree.sel, Bool.cond_eq_ite, decide_eq_true_eq, beq_iff_eq, bne_iff_ne, ne_eq]
    repeat' split
    all_goals first | rfl | (exfalso; omega)
  · rw [h, if_neg (by omega), if_neg (by omega)]
    show (fn_33a _).sel = _
    simp only [fn_33a, Tree.sel, Bool.cond_eq_ite, decide_eq_true_eq, beq_iff_eq, bne_iff_ne, ne_eq]
    repeat' split
    all_goals first | rfl | (exfalso; omega)
theorem v33b (pair ep e p cy : Int) : op_33b [.n pair, .n ep, .n e, .n p, .n cy, .n s1, .n s2, .n of, .n at_, .n a, .n b, .n c, .l TB ar, .n d, .b x, .n si, .n pa, .b st] =
      if fErr e p pair ep = 0 ∧ ep > e then some (0, [.n 0, .n ep, .n pair, .n s1, .n s2, .n of, .n at_, .n a, .n b, .n c, .l TB ar, .n d, .b x, .n si, .n pa, .b st])
      else some (1, [.n (fErr e p pair ep), .n e, .n p, .n cy, .n s1, .n s2, .n of, .n at_, .n a, .n b, .n c, .l TB ar, .n d, .b x, .n si, .n pa, .b st]) := by
  rcases fErr_cases e p pair ep with ⟨h, h1⟩ | ⟨h, h1, h2⟩ | ⟨h, h1, h2⟩ | ⟨h, h1, h2⟩
  · rw [h, if_neg (by omega)]
    show (fn_33b _).sel = _
    simp only [fn_33b, Tree.sel, Bool.cond_eq_ite, decide_eq_true_eq, beq_iff_eq, bne_iff_ne, ne_eq]
    repeat' split
    all_goals first | rfl | (exfalso; omega)
  · rw [h, if_neg (by omega)]
    show (fn_33b _).sel = _
    simp only [fn_33b, Tree.sel, Bool.cond_eq_ite, decide_eq_true_eq, beq_iff_eq, bne_iff_ne, ne_eq]
    repeat' split
    all_goals first | rfl | (exfalso; omega)
  · rw [h, if_pos ⟨rfl, h2⟩]
    show (fn_33b _).sel = _
    simp only [fn_33b, Tree.sel, Bool.cond_eq_ite, decide_eq_true_eq, beq_iff_eq, bne_iff_ne, ne_eq]
    repeat' split
    all_goals first | rfl | (exfalso; omega)
  · rw [h, if_neg (by omega)]
    show (fn_33b _).sel = _
    simp only [fn_33b, Tree.sel, Bool.cond_eq_ite, decide_eq_true_eq, beq_iff_eq, bne_iff_ne, ne_eq]
    repeat' split
    all_goals first | rfl | (exfalso; omega)
theorem v97 (pair ep e p : Int) : op_97 [.n pair, .n ep, .n pa, .n ms, .b st, .n e, .n p, .n mc, .n s1, .n s2, .b x, .n a, .n b, .n c, .l TB ar, .n d, .n at_, .n of] =
      some (0, [.n (fErr e p pair ep), .n pa, .n ms, .b st, .n (if fErr e p pair ep = 0 ∧ ep > e then ep else e), .n (if fErr e p pair ep = 0 ∧ ep > e then pair else p), .n (if fErr e p pair ep = 0 ∧ ep > e then -1 else mc), .n s1, .n s2, .b x, .n a, .n b, .n c, .l TB ar, .n d, .n at_, .n of]) := by
  rcases fErr_cases e p pair ep with ⟨h, h1⟩ | ⟨h, h1, h2⟩ | ⟨h, h1, h2⟩ | ⟨h, h1, h2⟩
  · rw [h, if_neg (by omega), if_neg (by omega), if_neg (by omega)]
    show (fn_97 _).sel = _
    simp only [fn_97, Tree.sel, Bool.cond_eq_ite, decide_eq_true_eq, beq_iff_eq, bne_iff_ne, ne_eq]
    repeat' split
    all_goals first | rfl | (exfalso; omega)
  · rw [h, if_neg (by omega), if_neg (by omega), if_neg (by omega)]
    show (fn_97 _).sel = _
    simp only [fn_97, Tree.sel, Bool.cond_eq_ite, decide_eq_true_eq, beq_iff_eq, bne_iff_ne, ne_eq]
    repeat' split
    all_goals first | rfl | (exfalso; omega)
  · rw [h, if_pos ⟨rfl, h2⟩, if_pos ⟨rfl, h2⟩, if_pos ⟨rfl, h2⟩]
    show (fn_97 _).sel = _
    simp only [fn_97, Tree.sel, Bool.cond_eq_ite, decide_eq_true_eq, beq_iff_eq, bne_iff_ne, ne_eq]
    repeat' split
    all_goals first | rfl | (exfalso; omega)
  · rw [h, if_neg (by omega), if_neg (by omega), if_neg (by omega)]
    show (fn_97 _).sel = _
    simp only [fn_97, Tree.sel, Bool.cond_eq_ite, decide_eq_true_eq, beq_iff_eq, bne_iff_ne, ne_eq]
    repeat' split
    all_goals first | rfl | (exfalso; omega)
/-! ### What a call does to both -/
def RA (e p s1 s2 of at_ a b c : Int) (ar : LB) (d : Int) (x : Bool) (si pa : Int) (st : Bool) : List Dat := [.n e, .n p, .n s1, .n s2, .n of, .n at_, .n a, .n b, .n c, .l TB ar, .n d, .b x, .n si, .n pa, .b st]
def RB (e p cy s1 s2 of at_ a b c : Int) (ar : LB) (d : Int) (x : Bool) (si pa : Int) (st : Bool) : List Dat := [.n e, .n p, .n cy, .n s1, .n s2, .n of, .n at_, .n a, .n b, .n c, .l TB ar, .n d, .b x, .n si, .n pa, .b st]
def MD (pa ms : Int) (st : Bool) (e p mc s1 s2 : Int) (x : Bool) (a b c : Int) (ar : LB) (d at_ of : Int) : List Dat := [.n pa, .n ms, .b st, .n e, .n p, .n mc, .n s1, .n s2, .b x, .n a, .n b, .n c, .l TB ar, .n d, .n at_, .n of]
end Go.Proofs.Ytkclmlcfdijbmaa.Vx
