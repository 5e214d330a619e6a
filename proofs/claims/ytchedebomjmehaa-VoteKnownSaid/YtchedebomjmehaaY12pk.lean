import Derived.Test.YtchedebomjmehaaX12pk
import Derived.Test.YtchedebomjmehaaVxLoop
namespace Go.Proofs.Ytchedebomjmehaa.Vx.Pl
open Go Go.RowKit
set_option linter.unusedVariables false
set_option linter.unusedSimpArgs false
set_option maxRecDepth 100000
set_option maxHeartbeats 0
/-- The shapes behind a call, by the shape ahead of it. -/
def Beh0 (st : Bool) (n : Int) (y : Nat × List Dat) : Prop := (∃ st n, y = (0, .b true :: sd0 st n)) ∨ (∃ n c e a b, y = (1, .b true :: sd1 n c e a b)) ∨ (∃ n c e a b, y = (2, .b true :: sd2 n c e a b))
def Beh1 (n c e a b : Int) (y : Nat × List Dat) : Prop := (∃ st n, y = (0, .b true :: sd0 st n)) ∨ y = (1, .b true :: sd1 n c e a b) ∨ (∃ n c e a b, y = (2, .b true :: sd3 n c e a b))
def Beh2 (n c e a b : Int) (y : Nat × List Dat) : Prop := (∃ st n, y = (0, .b true :: sd0 st n)) ∨ y = (1, .b true :: sd2 n c e a b) ∨ (∃ n c e a b, y = (2, .b true :: sd3 n c e a b))
def Beh3 (n c e a b : Int) (y : Nat × List Dat) : Prop := (∃ st n, y = (0, .b true :: sd0 st n)) ∨ y = (1, .b true :: sd3 n c e a b) ∨ (∃ x y' z u, y = (2, .b true :: .b false :: .n n :: .l .bool (B2 true false) :: .l TFr (F2 (fro x y' z u) fr0) :: .b true :: .n c :: .n e :: .n a :: .n b :: .n n :: .b false :: [.n c, .n e, .n a, .n b, .n x, .n y', .n z, .n u])) ∨
    (∃ x y' z u, y = (3, .b true :: .b false :: .n n :: .l .bool (B2 false true) :: .l TFr (F2 fr0 (fro x y' z u)) :: .b true :: .n c :: .n e :: .n a :: .n b :: .n n :: .b false :: [.n c, .n e, .n a, .n b, .n x, .n y', .n z, .n u]))
def Beh4 (n c e a b x z' z u : Int) (y : Nat × List Dat) : Prop := (∃ st n, y = (0, .b true :: sd0 st n)) ∨ y = (1, .b true :: sd4 n c e a b x z' z u) ∨ (∃ n c e a b, y = (2, .b true :: sd3 n c e a b))
def Beh5 (n c e a b x z' z u : Int) (y : Nat × List Dat) : Prop := (∃ st n, y = (0, .b true :: sd0 st n)) ∨ y = (1, .b true :: sd5 n c e a b x z' z u) ∨ (∃ n c e a b, y = (2, .b true :: sd3 n c e a b))
theorem does0t (k h p q r s : Int) (n : Int) : Good (Beh0 true n) (op_16a ([.n k, .n h, .n p, .n q, .n r, .n s] ++ sd0 true n)) := by
  by_cases h0 : h = 0
  · subst h0
    refine op_16a_good (fn_16a_a_im k p q r s true n) ?_
    unfold fn_16a_a
    repeat' (refine good_node (fun _ => ?_) (fun _ => ?_))
    all_goals first
      | (exfalso; contradiction)
      | exact good_leaf (.inl ⟨_, _, rfl⟩)
      | exact good_leaf (.inr (.inl rfl))
      | exact good_leaf (.inr (.inl ⟨_, _, _, _, _, rfl⟩))
      | exact good_leaf (.inr (.inr ⟨_, _, _, _, _, rfl⟩))
      | exact good_leaf (.inr (.inr (.inl ⟨_, _, _, _, rfl⟩)))
      | exact good_leaf (.inr (.inr (.inr ⟨_, _, _, _, rfl⟩)))
      | (exfalso; rename_i hA hB; exact Bool.noConfusion (hA.symm.trans hB))
      | (exfalso; simp_all; done)
  by_cases h1 : h = 1
  · subst h1
    refine op_16a_good (fn_16a_b_im k p q r s true n) ?_
    unfold fn_16a_b
    repeat' (refine good_node (fun _ => ?_) (fun _ => ?_))
    all_goals first
      | (exfalso; contradiction)
      | exact good_leaf (.inl ⟨_, _, rfl⟩)
      | exact good_leaf (.inr (.inl rfl))
      | exact good_leaf (.inr (.inl ⟨_, _, _, _, _, rfl⟩))
      | exact good_leaf (.inr (.inr ⟨_, _, _, _, _, rfl⟩))
      | exact good_leaf (.inr (.inr (.inl ⟨_, _, _, _, rfl⟩)))
      | exact good_leaf (.inr (.inr (.inr ⟨_, _, _, _, rfl⟩)))
      | (exfalso; rename_i hA hB; exact Bool.noConfusion (hA.symm.trans hB))
      | (exfalso; simp_all; done)
  refine op_16a_good (fn_16a_c_im k h p q r s true n h0 h1) ?_
  unfold fn_16a_c
  repeat' (refine good_node (fun _ => ?_) (fun _ => ?_))
  all_goals first
    | (exfalso; contradiction)
    | exact good_leaf (.inl ⟨_, _, rfl⟩)
    | exact good_leaf (.inr (.inl rfl))
    | exact good_leaf (.inr (.inl ⟨_, _, _, _, _, rfl⟩))
    | exact good_leaf (.inr (.inr ⟨_, _, _, _, _, rfl⟩))
    | exact good_leaf (.inr (.inr (.inl ⟨_, _, _, _, rfl⟩)))
    | exact good_leaf (.inr (.inr (.inr ⟨_, _, _, _, rfl⟩)))
    | (exfalso; rename_i hA hB; exact Bool.noConfusion (hA.symm.trans hB))
    | (exfalso; simp_all; done)
theorem does0f (k h p q r s : Int) (n : Int) : Good (Beh0 false n) (op_16a ([.n k, .n h, .n p, .n q, .n r, .n s] ++ sd0 false n)) := by
  by_cases h0 : h = 0
  · subst h0
    refine op_16a_good (fn_16a_a_im k p q r s false n) ?_
    unfold fn_16a_a
    repeat' (refine good_node (fun _ => ?_) (fun _ => ?_))
    all_goals first
      | (exfalso; contradiction)
      | exact good_leaf (.inl ⟨_, _, rfl⟩)
      | exact good_leaf (.inr (.inl rfl))
      | exact good_leaf (.inr (.inl ⟨_, _, _, _, _, rfl⟩))
      | exact good_leaf (.inr (.inr ⟨_, _, _, _, _, rfl⟩))
      | exact good_leaf (.inr (.inr (.inl ⟨_, _, _, _, rfl⟩)))
      | exact good_leaf (.inr (.inr (.inr ⟨_, _, _, _, rfl⟩)))
      | (exfalso; rename_i hA hB; exact Bool.noConfusion (hA.symm.trans hB))
      | (exfalso; simp_all; done)
  by_cases h1 : h = 1
  · subst h1
    refine op_16a_good (fn_16a_b_im k p q r s false n) ?_
    unfold fn_16a_b
    repeat' (refine good_node (fun _ => ?_) (fun _ => ?_))
    all_goals first
      | (exfalso; contradiction)
      | exact good_leaf (.inl ⟨_, _, rfl⟩)
      | exact good_leaf (.inr (.inl rfl))
      | exact good_leaf (.inr (.inl ⟨_, _, _, _, _, rfl⟩))
      | exact good_leaf (.inr (.inr ⟨_, _, _, _, _, rfl⟩))
      | exact good_leaf (.inr (.inr (.inl ⟨_, _, _, _, rfl⟩)))
      | exact good_leaf (.inr (.inr (.inr ⟨_, _, _, _, rfl⟩)))
      | (exfalso; rename_i hA hB; exact Bool.noConfusion (hA.symm.trans hB))
      | (exfalso; simp_all; done)
  refine op_16a_good (fn_16a_c_im k h p q r s false n h0 h1) ?_
  unfold fn_16a_c
  repeat' (refine good_node (fun _ => ?_) (fun _ => ?_))
  all_goals first
    | (exfalso; contradiction)
    | exact good_leaf (.inl ⟨_, _, rfl⟩)
    | exact good_leaf (.inr (.inl rfl))
    | exact good_leaf (.inr (.inl ⟨_, _, _, _, _, rfl⟩))
    | exact good_leaf (.inr (.inr ⟨_, _, _, _, _, rfl⟩))
    | exact good_leaf (.inr (.inr (.inl ⟨_, _, _, _, rfl⟩)))
    | exact good_leaf (.inr (.inr (.inr ⟨_, _, _, _, rfl⟩)))
    | (exfalso; rename_i hA hB; exact Bool.noConfusion (hA.symm.trans hB))
    | (exfalso; simp_all; done)
theorem does1 (k h p q r s : Int) (n c e a b : Int) : Good (Beh1 n c e a b) (op_16b ([.n k, .n h, .n p, .n q, .n r, .n s] ++ sd1 n c e a b)) := by
  by_cases h0 : h = 0
  · subst h0
    refine op_16b_good (fn_16b_a_im k p q r s n c e a b) ?_
    unfold fn_16b_a
    repeat' (refine good_node (fun _ => ?_) (fun _ => ?_))
    all_goals first
      | (exfalso; contradiction)
      | exact good_leaf (.inl ⟨_, _, rfl⟩)
      | exact good_leaf (.inr (.inl rfl))
      | exact good_leaf (.inr (.inl ⟨_, _, _, _, _, rfl⟩))
      | exact good_leaf (.inr (.inr ⟨_, _, _, _, _, rfl⟩))
      | exact good_leaf (.inr (.inr (.inl ⟨_, _, _, _, rfl⟩)))
      | exact good_leaf (.inr (.inr (.inr ⟨_, _, _, _, rfl⟩)))
      | (exfalso; rename_i hA hB; exact Bool.noConfusion (hA.symm.trans hB))
      | (exfalso; simp_all; done)
  by_cases h1 : h = 1
  · subst h1
    refine op_16b_good (fn_16b_b_im k p q r s n c e a b) ?_
    unfold fn_16b_b
    repeat' (refine good_node (fun _ => ?_) (fun _ => ?_))
    all_goals first
      | (exfalso; contradiction)
      | exact good_leaf (.inl ⟨_, _, rfl⟩)
      | exact good_leaf (.inr (.inl rfl))
      | exact good_leaf (.inr (.inl ⟨_, _, _, _, _, rfl⟩))
      | exact good_leaf (.inr (.inr ⟨_, _, _, _, _, rfl⟩))
      | exact good_leaf (.inr (.inr (.inl ⟨_, _, _, _, rfl⟩)))
      | exact good_leaf (.inr (.inr (.inr ⟨_, _, _, _, rfl⟩)))
      | (exfalso; rename_i hA hB; exact Bool.noConfusion (hA.symm.trans hB))
      | (exfalso; simp_all; done)
  refine op_16b_good (fn_16b_c_im k h p q r s n c e a b h0 h1) ?_
  unfold fn_16b_c
  repeat' (refine good_node (fun _ => ?_) (fun _ => ?_))
  all_goals first
    | (exfalso; contradiction)
    | exact good_leaf (.inl ⟨_, _, rfl⟩)
    | exact good_leaf (.inr (.inl rfl))
    | exact good_leaf (.inr (.inl ⟨_, _, _, _, _, rfl⟩))
    | exact good_leaf (.inr (.inr ⟨_, _, _, _, _, rfl⟩))
    | exact good_leaf (.inr (.inr (.inl ⟨_, _, _, _, rfl⟩)))
    | exact good_leaf (.inr (.inr (.inr ⟨_, _, _, _, rfl⟩)))
    | (exfalso; rename_i hA hB; exact Bool.noConfusion (hA.symm.trans hB))
    | (exfalso; simp_all; done)
theorem does2 (k h p q r s : Int) (n c e a b : Int) : Good (Beh2 n c e a b) (op_16c ([.n k, .n h, .n p, .n q, .n r, .n s] ++ sd2 n c e a b)) := by
  by_cases h0 : h = 0
  · subst h0
    refine op_16c_good (fn_16c_a_im k p q r s n c e a b) ?_
    unfold fn_16c_a
    repeat' (refine good_node (fun _ => ?_) (fun _ => ?_))
    all_goals first
      | (exfalso; contradiction)
      | exact good_leaf (.inl ⟨_, _, rfl⟩)
      | exact good_leaf (.inr (.inl rfl))
      | exact good_leaf (.inr (.inl ⟨_, _, _, _, _, rfl⟩))
      | exact good_leaf (.inr (.inr ⟨_, _, _, _, _, rfl⟩))
      | exact good_leaf (.inr (.inr (.inl ⟨_, _, _, _, rfl⟩)))
      | exact good_leaf (.inr (.inr (.inr ⟨_, _, _, _, rfl⟩)))
      | (exfalso; rename_i hA hB; exact Bool.noConfusion (hA.symm.trans hB))
      | (exfalso; simp_all; done)
  by_cases h1 : h = 1
  · subst h1
    refine op_16c_good (fn_16c_b_im k p q r s n c e a b) ?_
    unfold fn_16c_b
    repeat' (refine good_node (fun _ => ?_) (fun _ => ?_))
    all_goals first
      | (exfalso; contradiction)
      | exact good_leaf (.inl ⟨_, _, rfl⟩)
      | exact good_leaf (.inr (.inl rfl))
      | exact good_leaf (.inr (.inl ⟨_, _, _, _, _, rfl⟩))
      | exact good_leaf (.inr (.inr ⟨_, _, _, _, _, rfl⟩))
      | exact good_leaf (.inr (.inr (.inl ⟨_, _, _, _, rfl⟩)))
      | exact good_leaf (.inr (.inr (.inr ⟨_, _, _, _, rfl⟩)))
      | (exfalso; rename_i hA hB; exact Bool.noConfusion (hA.symm.trans hB))
      | (exfalso; simp_all; done)
  refine op_16c_good (fn_16c_c_im k h p q r s n c e a b h0 h1) ?_
  unfold fn_16c_c
  repeat' (refine good_node (fun _ => ?_) (fun _ => ?_))
  all_goals first
    | (exfalso; contradiction)
    | exact good_leaf (.inl ⟨_, _, rfl⟩)
    | exact good_leaf (.inr (.inl rfl))
    | exact good_leaf (.inr (.inl ⟨_, _, _, _, _, rfl⟩))
    | exact good_leaf (.inr (.inr ⟨_, _, _, _, _, rfl⟩))
    | exact good_leaf (.inr (.inr (.inl ⟨_, _, _, _, rfl⟩)))
    | exact good_leaf (.inr (.inr (.inr ⟨_, _, _, _, rfl⟩)))
    | (exfalso; rename_i hA hB; exact Bool.noConfusion (hA.symm.trans hB))
    | (exfalso; simp_all; done)
theorem does3 (k h p q r s : Int) (n c e a b : Int) : Good (Beh3 n c e a b) (op_16d ([.n k, .n h, .n p, .n q, .n r, .n s] ++ sd3 n c e a b)) := by
  by_cases h0 : h = 0
  · subst h0
    refine op_16d_good (fn_16d_a_im k p q r s n c e a b) ?_
    unfold fn_16d_a
    repeat' (refine good_node (fun _ => ?_) (fun _ => ?_))
    all_goals first
      | (exfalso; contradiction)
      | exact good_leaf (.inl ⟨_, _, rfl⟩)
      | exact good_leaf (.inr (.inl rfl))
      | exact good_leaf (.inr (.inl ⟨_, _, _, _, _, rfl⟩))
      | exact good_leaf (.inr (.inr ⟨_, _, _, _, _, rfl⟩))
      | exact good_leaf (.inr (.inr (.inl ⟨_, _, _, _, rfl⟩)))
      | exact good_leaf (.inr (.inr (.inr ⟨_, _, _, _, rfl⟩)))
      | (exfalso; rename_i hA hB; exact Bool.noConfusion (hA.symm.trans hB))
      | (exfalso; simp_all; done)
  by_cases h1 : h = 1
  · subst h1
    refine op_16d_good (fn_16d_b_im k p q r s n c e a b) ?_
    unfold fn_16d_b
    repeat' (refine good_node (fun _ => ?_) (fun _ => ?_))
    all_goals first
      | (exfalso; contradiction)
      | exact good_leaf (.inl ⟨_, _, rfl⟩)
      | exact good_leaf (.inr (.inl rfl))
      | exact good_leaf (.inr (.inl ⟨_, _, _, _, _, rfl⟩))
      | exact good_leaf (.inr (.inr ⟨_, _, _, _, _, rfl⟩))
      | exact good_leaf (.inr (.inr (.inl ⟨_, _, _, _, rfl⟩)))
      | exact good_leaf (.inr (.inr (.inr ⟨_, _, _, _, rfl⟩)))
      | (exfalso; rename_i hA hB; exact Bool.noConfusion (hA.symm.trans hB))
      | (exfalso; simp_all; done)
  refine op_16d_good (fn_16d_c_im k h p q r s n c e a b h0 h1) ?_
  unfold fn_16d_c
  repeat' (refine good_node (fun _ => ?_) (fun _ => ?_))
  all_goals first
    | (exfalso; contradiction)
    | exact good_leaf (.inl ⟨_, _, rfl⟩)
    | exact good_leaf (.inr (.inl rfl))
    | exact good_leaf (.inr (.inl ⟨_, _, _, _, _, rfl⟩))
    | exact good_leaf (.inr (.inr ⟨_, _, _, _, _, rfl⟩))
    | exact good_leaf (.inr (.inr (.inl ⟨_, _, _, _, rfl⟩)))
    | exact good_leaf (.inr (.inr (.inr ⟨_, _, _, _, rfl⟩)))
    | (exfalso; rename_i hA hB; exact Bool.noConfusion (hA.symm.trans hB))
    | (exfalso; simp_all; done)
theorem does4 (k h p q r s : Int) (n c e a b x y z u : Int) : Good (Beh4 n c e a b x y z u) (op_16e ([.n k, .n h, .n p, .n q, .n r, .n s] ++ sd4 n c e a b x y z u)) := by
  by_cases h0 : h = 0
  · subst h0
    refine op_16e_good (fn_16e_a_im k p q r s n c e a b x y z u) ?_
    unfold fn_16e_a
    repeat' (refine good_node (fun _ => ?_) (fun _ => ?_))
    all_goals first
      | (exfalso; contradiction)
      | exact good_leaf (.inl ⟨_, _, rfl⟩)
      | exact good_leaf (.inr (.inl rfl))
      | exact good_leaf (.inr (.inl ⟨_, _, _, _, _, rfl⟩))
      | exact good_leaf (.inr (.inr ⟨_, _, _, _, _, rfl⟩))
      | exact good_leaf (.inr (.inr (.inl ⟨_, _, _, _, rfl⟩)))
      | exact good_leaf (.inr (.inr (.inr ⟨_, _, _, _, rfl⟩)))
      | (exfalso; rename_i hA hB; exact Bool.noConfusion (hA.symm.trans hB))
      | (exfalso; simp_all; done)
  by_cases h1 : h = 1
  · subst h1
    refine op_16e_good (fn_16e_b_im k p q r s n c e a b x y z u) ?_
    unfold fn_16e_b
    repeat' (refine good_node (fun _ => ?_) (fun _ => ?_))
    all_goals first
      | (exfalso; contradiction)
      | exact good_leaf (.inl ⟨_, _, rfl⟩)
      | exact good_leaf (.inr (.inl rfl))
      | exact good_leaf (.inr (.inl ⟨_, _, _, _, _, rfl⟩))
      | exact good_leaf (.inr (.inr ⟨_, _, _, _, _, rfl⟩))
      | exact good_leaf (.inr (.inr (.inl ⟨_, _, _, _, rfl⟩)))
      | exact good_leaf (.inr (.inr (.inr ⟨_, _, _, _, rfl⟩)))
      | (exfalso; rename_i hA hB; exact Bool.noConfusion (hA.symm.trans hB))
      | (exfalso; simp_all; done)
  refine op_16e_good (fn_16e_c_im k h p q r s n c e a b x y z u h0 h1) ?_
  unfold fn_16e_c
  repeat' (refine good_node (fun _ => ?_) (fun _ => ?_))
  all_goals first
    | (exfalso; contradiction)
    | exact good_leaf (.inl ⟨_, _, rfl⟩)
    | exact good_leaf (.inr (.inl rfl))
    | exact good_leaf (.inr (.inl ⟨_, _, _, _, _, rfl⟩))
    | exact good_leaf (.inr (.inr ⟨_, _, _, _, _, rfl⟩))
    | exact good_leaf (.inr (.inr (.inl ⟨_, _, _, _, rfl⟩)))
    | exact good_leaf (.inr (.inr (.inr ⟨_, _, _, _, rfl⟩)))
    | (exfalso; rename_i hA hB; exact Bool.noConfusion (hA.symm.trans hB))
    | (exfalso; simp_all; done)
theorem does5 (k h p q r s : Int) (n c e a b x y z u : Int) : Good (Beh5 n c e a b x y z u) (op_16f ([.n k, .n h, .n p, .n q, .n r, .n s] ++ sd5 n c e a b x y z u)) := by
  by_cases h0 : h = 0
  · subst h0
    refine op_16f_good (fn_16f_a_im k p q r s n c e a b x y z u) ?_
    unfold fn_16f_a
    repeat' (refine good_node (fun _ => ?_) (fun _ => ?_))
    all_goals first
      | (exfalso; contradiction)
      | exact good_leaf (.inl ⟨_, _, rfl⟩)
      | exact good_leaf (.inr (.inl rfl))
      | exact good_leaf (.inr (.inl ⟨_, _, _, _, _, rfl⟩))
      | exact good_leaf (.inr (.inr ⟨_, _, _, _, _, rfl⟩))
      | exact good_leaf (.inr (.inr (.inl ⟨_, _, _, _, rfl⟩)))
      | exact good_leaf (.inr (.inr (.inr ⟨_, _, _, _, rfl⟩)))
      | (exfalso; rename_i hA hB; exact Bool.noConfusion (hA.symm.trans hB))
      | (exfalso; simp_all; done)
  by_cases h1 : h = 1
  · subst h1
    refine op_16f_good (fn_16f_b_im k p q r s n c e a b x y z u) ?_
    unfold fn_16f_b
    repeat' (refine good_node (fun _ => ?_) (fun _ => ?_))
    all_goals first
      | (exfalso; contradiction)
      | exact good_leaf (.inl ⟨_, _, rfl⟩)
      | exact good_leaf (.inr (.inl rfl))
      | exact good_leaf (.inr (.inl ⟨_, _, _, _, _, rfl⟩))
      | exact good_leaf (.inr (.inr ⟨_, _, _, _, _, rfl⟩))
      | exact good_leaf (.inr (.inr (.inl ⟨_, _, _, _, rfl⟩)))
      | exact good_leaf (.inr (.inr (.inr ⟨_, _, _, _, rfl⟩)))
      | (exfalso; rename_i hA hB; exact Bool.noConfusion (hA.symm.trans hB))
      | (exfalso; simp_all; done)
  refine op_16f_good (fn_16f_c_im k h p q r s n c e a b x y z u h0 h1) ?_
  unfold fn_16f_c
  repeat' (refine good_node (fun _ => ?_) (fun _ => ?_))
  all_goals first
    | (exfalso; contradiction)
    | exact good_leaf (.inl ⟨_, _, rfl⟩)
    | exact good_leaf (.inr (.inl rfl))
    | exact good_leaf (.inr (.inl ⟨_, _, _, _, _, rfl⟩))
    | exact good_leaf (.inr (.inr ⟨_, _, _, _, _, rfl⟩))
    | exact good_leaf (.inr (.inr (.inl ⟨_, _, _, _, rfl⟩)))
    | exact good_leaf (.inr (.inr (.inr ⟨_, _, _, _, rfl⟩)))
    | (exfalso; rename_i hA hB; exact Bool.noConfusion (hA.symm.trans hB))
    | (exfalso; simp_all; done)
theorem does0 (k h p q r s : Int) (st : Bool) (n : Int) : Good (Beh0 st n) (op_16a ([.n k, .n h, .n p, .n q, .n r, .n s] ++ sd0 st n)) := by
  cases st
  · exact does0f k h p q r s n
  · exact does0t k h p q r s n
abbrev LC := List (Ty.den TCl)
def InvP (l : LC) (i : Int) (env : List Dat) : Prop :=
  (∃ st n, env = [.k 0, .l TCl l, .n i] ++ sd0 st n) ∨ (∃ n c e a b, env = [.k 1, .l TCl l, .n i] ++ sd1 n c e a b) ∨ (∃ n c e a b, env = [.k 2, .l TCl l, .n i] ++ sd2 n c e a b) ∨ (∃ n c e a b, env = [.k 3, .l TCl l, .n i] ++ sd3 n c e a b) ∨
  (∃ n c e a b x y z u, env = [.k 4, .l TCl l, .n i] ++ sd4 n c e a b x y z u) ∨ (∃ n c e a b x y z u, env = [.k 5, .l TCl l, .n i] ++ sd5 n c e a b x y z u)
theorem good_t {α : Type} {p : α → Prop} {c : Bool} {t e : Tree α} (h : c = true) (g : Good p t.sel) : Good p (Tree.node c t e).sel := by subst h; exact g
theorem good_f {α : Type} {p : α → Prop} {c : Bool} {t e : Tree α} (h : c = false) (g : Good p e.sel) : Good p (Tree.node c t e).sel := by subst h; exact g
def StepP (l : LC) (i : Int) : Step → Prop
  | .go e => InvP l (i + 1) e
  | .stop k d => False
theorem step0 (l : LC) (i : Int) (h0 : 0 ≤ i) (h1 : i < l.length) (h2 : l.length ≤ 200) (st : Bool) (n : Int) : Good (StepP l i) (st_L3_5 ([.k 0, .l TCl l, .n i] ++ sd0 st n)).sel := by
  have w : IntKind.wrap .i64 (i + 1) = i + 1 := w64 (by omega) (by omega)
  refine Imp.good (fn_L3_5_t0_im l i st n) ?_
  obtain ⟨y0, e, hB⟩ := (does0 (Prod.fst (l.getD i.toNat (Ty.dflt TCl))) (Prod.fst (Prod.snd (l.getD i.toNat (Ty.dflt TCl)))) (Prod.fst (Prod.snd (Prod.snd (l.getD i.toNat (Ty.dflt TCl))))) (Prod.fst (Prod.snd (Prod.snd (Prod.snd (l.getD i.toNat (Ty.dflt TCl)))))) (Prod.fst (Prod.snd (Prod.snd (Prod.snd (Prod.snd (l.getD i.toNat (Ty.dflt TCl))))))) (Prod.snd (Prod.snd (Prod.snd (Prod.snd (Prod.snd (l.getD i.toNat (Ty.dflt TCl))))))) st n)
  unfold fn_L3_5_t0
  refine good_node (fun _ => ?_) (fun q => absurd h1 (of_decide_eq_false q))
  refine good_node (fun _ => ?_) (fun q => absurd (inR_true h0 h1) (by rw [q]; simp))
  erw [e, w]
  rcases hB with ⟨st', n', rfl⟩ | ⟨n', c', e', a', b', rfl⟩ | ⟨n', c', e', a', b', rfl⟩
  all_goals
    repeat (first | refine good_t rfl ?_ | refine good_f rfl ?_ | refine good_f (by simp [gn, gb, dOf, sd0, sd1, sd2, sd3, sd4, sd5]) ?_ | refine good_t (by simp [gn, gb, dOf, sd0, sd1, sd2, sd3, sd4, sd5]) ?_)
    first
      | exact good_leaf (.inl ⟨_, _, rfl⟩)
      | exact good_leaf (.inr (.inl ⟨_, _, _, _, _, rfl⟩))
      | exact good_leaf (.inr (.inr (.inl ⟨_, _, _, _, _, rfl⟩)))
      | exact good_leaf (.inr (.inr (.inr (.inl ⟨_, _, _, _, _, rfl⟩))))
      | exact good_leaf (.inr (.inr (.inr (.inr (.inl ⟨_, _, _, _, _, _, _, _, _, rfl⟩)))))
      | exact good_leaf (.inr (.inr (.inr (.inr (.inr ⟨_, _, _, _, _, _, _, _, _, rfl⟩)))))
theorem step1 (l : LC) (i : Int) (h0 : 0 ≤ i) (h1 : i < l.length) (h2 : l.length ≤ 200) (n c e a b : Int) : Good (StepP l i) (st_L3_5 ([.k 1, .l TCl l, .n i] ++ sd1 n c e a b)).sel := by
  have w : IntKind.wrap .i64 (i + 1) = i + 1 := w64 (by omega) (by omega)
  refine Imp.good (fn_L3_5_t1_im l i n c e a b) ?_
  obtain ⟨y0, e, hB⟩ := (does1 (Prod.fst (l.getD i.toNat (Ty.dflt TCl))) (Prod.fst (Prod.snd (l.getD i.toNat (Ty.dflt TCl)))) (Prod.fst (Prod.snd (Prod.snd (l.getD i.toNat (Ty.dflt TCl))))) (Prod.fst (Prod.snd (Prod.snd (Prod.snd (l.getD i.toNat (Ty.dflt TCl)))))) (Prod.fst (Prod.snd (Prod.snd (Prod.snd (Prod.snd (l.getD i.toNat (Ty.dflt TCl))))))) (Prod.snd (Prod.snd (Prod.snd (Prod.snd (Prod.snd (l.getD i.toNat (Ty.dflt TCl))))))) n c e a b)
  unfold fn_L3_5_t1
  refine good_node (fun _ => ?_) (fun q => absurd h1 (of_decide_eq_false q))
  refine good_node (fun _ => ?_) (fun q => absurd (inR_true h0 h1) (by rw [q]; simp))
  erw [e, w]
  rcases hB with ⟨st', n', rfl⟩ | rfl | ⟨n', c', e', a', b', rfl⟩
  all_goals
    repeat (first | refine good_t rfl ?_ | refine good_f rfl ?_ | refine good_f (by simp [gn, gb, dOf, sd0, sd1, sd2, sd3, sd4, sd5]) ?_ | refine good_t (by simp [gn, gb, dOf, sd0, sd1, sd2, sd3, sd4, sd5]) ?_)
    first
      | exact good_leaf (.inl ⟨_, _, rfl⟩)
      | exact good_leaf (.inr (.inl ⟨_, _, _, _, _, rfl⟩))
      | exact good_leaf (.inr (.inr (.inl ⟨_, _, _, _, _, rfl⟩)))
      | exact good_leaf (.inr (.inr (.inr (.inl ⟨_, _, _, _, _, rfl⟩))))
      | exact good_leaf (.inr (.inr (.inr (.inr (.inl ⟨_, _, _, _, _, _, _, _, _, rfl⟩)))))
      | exact good_leaf (.inr (.inr (.inr (.inr (.inr ⟨_, _, _, _, _, _, _, _, _, rfl⟩)))))
theorem step2 (l : LC) (i : Int) (h0 : 0 ≤ i) (h1 : i < l.length) (h2 : l.length ≤ 200) (n c e a b : Int) : Good (StepP l i) (st_L3_5 ([.k 2, .l TCl l, .n i] ++ sd2 n c e a b)).sel := by
  have w : IntKind.wrap .i64 (i + 1) = i + 1 := w64 (by omega) (by omega)
  refine Imp.good (fn_L3_5_t2_im l i n c e a b) ?_
  obtain ⟨y0, e, hB⟩ := (does2 (Prod.fst (l.getD i.toNat (Ty.dflt TCl))) (Prod.fst (Prod.snd (l.getD i.toNat (Ty.dflt TCl)))) (Prod.fst (Prod.snd (Prod.snd (l.getD i.toNat (Ty.dflt TCl))))) (Prod.fst (Prod.snd (Prod.snd (Prod.snd (l.getD i.toNat (Ty.dflt TCl)))))) (Prod.fst (Prod.snd (Prod.snd (Prod.snd (Prod.snd (l.getD i.toNat (Ty.dflt TCl))))))) (Prod.snd (Prod.snd (Prod.snd (Prod.snd (Prod.snd (l.getD i.toNat (Ty.dflt TCl))))))) n c e a b)
  unfold fn_L3_5_t2
  refine good_node (fun _ => ?_) (fun q => absurd h1 (of_decide_eq_false q))
  refine good_node (fun _ => ?_) (fun q => absurd (inR_true h0 h1) (by rw [q]; simp))
  erw [e, w]
  rcases hB with ⟨st', n', rfl⟩ | rfl | ⟨n', c', e', a', b', rfl⟩
  all_goals
    repeat (first | refine good_t rfl ?_ | refine good_f rfl ?_ | refine good_f (by simp [gn, gb, dOf, sd0, sd1, sd2, sd3, sd4, sd5]) ?_ | refine good_t (by simp [gn, gb, dOf, sd0, sd1, sd2, sd3, sd4, sd5]) ?_)
    first
      | exact good_leaf (.inl ⟨_, _, rfl⟩)
      | exact good_leaf (.inr (.inl ⟨_, _, _, _, _, rfl⟩))
      | exact good_leaf (.inr (.inr (.inl ⟨_, _, _, _, _, rfl⟩)))
      | exact good_leaf (.inr (.inr (.inr (.inl ⟨_, _, _, _, _, rfl⟩))))
      | exact good_leaf (.inr (.inr (.inr (.inr (.inl ⟨_, _, _, _, _, _, _, _, _, rfl⟩)))))
      | exact good_leaf (.inr (.inr (.inr (.inr (.inr ⟨_, _, _, _, _, _, _, _, _, rfl⟩)))))
theorem step3 (l : LC) (i : Int) (h0 : 0 ≤ i) (h1 : i < l.length) (h2 : l.length ≤ 200) (n c e a b : Int) : Good (StepP l i) (st_L3_5 ([.k 3, .l TCl l, .n i] ++ sd3 n c e a b)).sel := by
  have w : IntKind.wrap .i64 (i + 1) = i + 1 := w64 (by omega) (by omega)
  refine Imp.good (fn_L3_5_t3_im l i n c e a b) ?_
  obtain ⟨y0, e, hB⟩ := (does3 (Prod.fst (l.getD i.toNat (Ty.dflt TCl))) (Prod.fst (Prod.snd (l.getD i.toNat (Ty.dflt TCl)))) (Prod.fst (Prod.snd (Prod.snd (l.getD i.toNat (Ty.dflt TCl))))) (Prod.fst (Prod.snd (Prod.snd (Prod.snd (l.getD i.toNat (Ty.dflt TCl)))))) (Prod.fst (Prod.snd (Prod.snd (Prod.snd (Prod.snd (l.getD i.toNat (Ty.dflt TCl))))))) (Prod.snd (Prod.snd (Prod.snd (Prod.snd (Prod.snd (l.getD i.toNat (Ty.dflt TCl))))))) n c e a b)
  unfold fn_L3_5_t3
  refine good_node (fun _ => ?_) (fun q => absurd h1 (of_decide_eq_false q))
  refine good_node (fun _ => ?_) (fun q => absurd (inR_true h0 h1) (by rw [q]; simp))
  erw [e, w]
  rcases hB with ⟨st', n', rfl⟩ | rfl | ⟨x', y', z', u', rfl⟩ | ⟨x', y', z', u', rfl⟩
  all_goals
    repeat (first | refine good_t rfl ?_ | refine good_f rfl ?_ | refine good_f (by simp [gn, gb, dOf, sd0, sd1, sd2, sd3, sd4, sd5]) ?_ | refine good_t (by simp [gn, gb, dOf, sd0, sd1, sd2, sd3, sd4, sd5]) ?_)
    first
      | exact good_leaf (.inl ⟨_, _, rfl⟩)
      | exact good_leaf (.inr (.inl ⟨_, _, _, _, _, rfl⟩))
      | exact good_leaf (.inr (.inr (.inl ⟨_, _, _, _, _, rfl⟩)))
      | exact good_leaf (.inr (.inr (.inr (.inl ⟨_, _, _, _, _, rfl⟩))))
      | exact good_leaf (.inr (.inr (.inr (.inr (.inl ⟨_, _, _, _, _, _, _, _, _, rfl⟩)))))
      | exact good_leaf (.inr (.inr (.inr (.inr (.inr ⟨_, _, _, _, _, _, _, _, _, rfl⟩)))))
theorem step4 (l : LC) (i : Int) (h0 : 0 ≤ i) (h1 : i < l.length) (h2 : l.length ≤ 200) (n c e a b x y z u : Int) : Good (StepP l i) (st_L3_5 ([.k 4, .l TCl l, .n i] ++ sd4 n c e a b x y z u)).sel := by
  have w : IntKind.wrap .i64 (i + 1) = i + 1 := w64 (by omega) (by omega)
  refine Imp.good (fn_L3_5_t4_im l i n c e a b x y z u) ?_
  obtain ⟨y0, e, hB⟩ := (does4 (Prod.fst (l.getD i.toNat (Ty.dflt TCl))) (Prod.fst (Prod.snd (l.getD i.toNat (Ty.dflt TCl)))) (Prod.fst (Prod.snd (Prod.snd (l.getD i.toNat (Ty.dflt TCl))))) (Prod.fst (Prod.snd (Prod.snd (Prod.snd (l.getD i.toNat (Ty.dflt TCl)))))) (Prod.fst (Prod.snd (Prod.snd (Prod.snd (Prod.snd (l.getD i.toNat (Ty.dflt TCl))))))) (Prod.snd (Prod.snd (Prod.snd (Prod.snd (Prod.snd (l.getD i.toNat (Ty.dflt TCl))))))) n c e a b x y z u)
  unfold fn_L3_5_t4
  refine good_node (fun _ => ?_) (fun q => absurd h1 (of_decide_eq_false q))
  refine good_node (fun _ => ?_) (fun q => absurd (inR_true h0 h1) (by rw [q]; simp))
  erw [e, w]
  rcases hB with ⟨st', n', rfl⟩ | rfl | ⟨n', c', e', a', b', rfl⟩
  all_goals
    repeat (first | refine good_t rfl ?_ | refine good_f rfl ?_ | refine good_f (by simp [gn, gb, dOf, sd0, sd1, sd2, sd3, sd4, sd5]) ?_ | refine good_t (by simp [gn, gb, dOf, sd0, sd1, sd2, sd3, sd4, sd5]) ?_)
    first
      | exact good_leaf (.inl ⟨_, _, rfl⟩)
      | exact good_leaf (.inr (.inl ⟨_, _, _, _, _, rfl⟩))
      | exact good_leaf (.inr (.inr (.inl ⟨_, _, _, _, _, rfl⟩)))
      | exact good_leaf (.inr (.inr (.inr (.inl ⟨_, _, _, _, _, rfl⟩))))
      | exact good_leaf (.inr (.inr (.inr (.inr (.inl ⟨_, _, _, _, _, _, _, _, _, rfl⟩)))))
      | exact good_leaf (.inr (.inr (.inr (.inr (.inr ⟨_, _, _, _, _, _, _, _, _, rfl⟩)))))
theorem step5 (l : LC) (i : Int) (h0 : 0 ≤ i) (h1 : i < l.length) (h2 : l.length ≤ 200) (n c e a b x y z u : Int) : Good (StepP l i) (st_L3_5 ([.k 5, .l TCl l, .n i] ++ sd5 n c e a b x y z u)).sel := by
  have w : IntKind.wrap .i64 (i + 1) = i + 1 := w64 (by omega) (by omega)
  refine Imp.good (fn_L3_5_t5_im l i n c e a b x y z u) ?_
  obtain ⟨y0, e, hB⟩ := (does5 (Prod.fst (l.getD i.toNat (Ty.dflt TCl))) (Prod.fst (Prod.snd (l.getD i.toNat (Ty.dflt TCl)))) (Prod.fst (Prod.snd (Prod.snd (l.getD i.toNat (Ty.dflt TCl))))) (Prod.fst (Prod.snd (Prod.snd (Prod.snd (l.getD i.toNat (Ty.dflt TCl)))))) (Prod.fst (Prod.snd (Prod.snd (Prod.snd (Prod.snd (l.getD i.toNat (Ty.dflt TCl))))))) (Prod.snd (Prod.snd (Prod.snd (Prod.snd (Prod.snd (l.getD i.toNat (Ty.dflt TCl))))))) n c e a b x y z u)
  unfold fn_L3_5_t5
  refine good_node (fun _ => ?_) (fun q => absurd h1 (of_decide_eq_false q))
  refine good_node (fun _ => ?_) (fun q => absurd (inR_true h0 h1) (by rw [q]; simp))
  erw [e, w]
  rcases hB with ⟨st', n', rfl⟩ | rfl | ⟨n', c', e', a', b', rfl⟩
  all_goals
    repeat (first | refine good_t rfl ?_ | refine good_f rfl ?_ | refine good_f (by simp [gn, gb, dOf, sd0, sd1, sd2, sd3, sd4, sd5]) ?_ | refine good_t (by simp [gn, gb, dOf, sd0, sd1, sd2, sd3, sd4, sd5]) ?_)
    first
      | exact good_leaf (.inl ⟨_, _, rfl⟩)
      | exact good_leaf (.inr (.inl ⟨_, _, _, _, _, rfl⟩))
      | exact good_leaf (.inr (.inr (.inl ⟨_, _, _, _, _, rfl⟩)))
      | exact good_leaf (.inr (.inr (.inr (.inl ⟨_, _, _, _, _, rfl⟩))))
      | exact good_leaf (.inr (.inr (.inr (.inr (.inl ⟨_, _, _, _, _, _, _, _, _, rfl⟩)))))
      | exact good_leaf (.inr (.inr (.inr (.inr (.inr ⟨_, _, _, _, _, _, _, _, _, rfl⟩)))))
theorem run3 (l : LC) (h2 : l.length ≤ 200) : op_L3_5 ([.k 0, .l TCl l, .n 0] ++ sd0 false 0) = some (0, []) := by
  have key : ∀ env, (∃ i : Int, 0 ≤ i ∧ i ≤ l.length ∧ InvP l i env) → Good (fun y => match y with | .go e => (∃ i : Int, 0 ≤ i ∧ i ≤ l.length ∧ InvP l i e) ∧ (l.length - gn e 2).toNat < (l.length - gn env 2).toNat | .stop k d => (k, d) = (0, [])) (st_L3_5 env).sel := by
   rintro env ⟨i, h0, h1, hI⟩
   have at_ : gn env 2 = i := by
     rcases hI with ⟨_, _, rfl⟩ | ⟨_, _, _, _, _, rfl⟩ | ⟨_, _, _, _, _, rfl⟩ | ⟨_, _, _, _, _, rfl⟩ | ⟨_, _, _, _, _, _, _, _, _, rfl⟩ | ⟨_, _, _, _, _, _, _, _, _, rfl⟩ <;> rfl
   rw [at_]
   by_cases hi : i < l.length
   · have fin : Good (StepP l i) (st_L3_5 env).sel := by
       rcases hI with ⟨_, _, rfl⟩ | ⟨_, _, _, _, _, rfl⟩ | ⟨_, _, _, _, _, rfl⟩ | ⟨_, _, _, _, _, rfl⟩ | ⟨_, _, _, _, _, _, _, _, _, rfl⟩ | ⟨_, _, _, _, _, _, _, _, _, rfl⟩
       · exact step0 l i h0 hi h2 _ _
       · exact step1 l i h0 hi h2 _ _ _ _ _
       · exact step2 l i h0 hi h2 _ _ _ _ _
       · exact step3 l i h0 hi h2 _ _ _ _ _
       · exact step4 l i h0 hi h2 _ _ _ _ _ _ _ _ _
       · exact step5 l i h0 hi h2 _ _ _ _ _ _ _ _ _
     obtain ⟨y, e, hy⟩ := fin
     refine ⟨y, e, ?_⟩
     cases y with
     | stop k d => exact hy.elim
     | go e' =>
       have hy : InvP l (i + 1) e' := hy
       refine ⟨⟨i + 1, by omega, by omega, hy⟩, ?_⟩
       have : gn e' 2 = i + 1 := by
         rcases hy with ⟨_, _, rfl⟩ | ⟨_, _, _, _, _, rfl⟩ | ⟨_, _, _, _, _, rfl⟩ | ⟨_, _, _, _, _, rfl⟩ | ⟨_, _, _, _, _, _, _, _, _, rfl⟩ | ⟨_, _, _, _, _, _, _, _, _, rfl⟩ <;> rfl
       show ((l.length : Int) - gn e' 2).toNat < _
       rw [this]; omega
   · have hd : decide (i < (l.length : Int)) = false := decide_eq_false hi
     rcases hI with ⟨st, n, rfl⟩ | ⟨n, c, e, a, b, rfl⟩ | ⟨n, c, e, a, b, rfl⟩ | ⟨n, c, e, a, b, rfl⟩ | ⟨n, c, e, a, b, x, y, z, u, rfl⟩ | ⟨n, c, e, a, b, x, y, z, u, rfl⟩
     · refine Imp.good (fn_L3_5_t0_im l i st n) ?_
       exact good_f hd (good_leaf rfl)
     · refine Imp.good (fn_L3_5_t1_im l i n c e a b) ?_
       exact good_f hd (good_leaf rfl)
     · refine Imp.good (fn_L3_5_t2_im l i n c e a b) ?_
       exact good_f hd (good_leaf rfl)
     · refine Imp.good (fn_L3_5_t3_im l i n c e a b) ?_
       exact good_f hd (good_leaf rfl)
     · refine Imp.good (fn_L3_5_t4_im l i n c e a b x y z u) ?_
       exact good_f hd (good_leaf rfl)
     · refine Imp.good (fn_L3_5_t5_im l i n c e a b x y z u) ?_
       exact good_f hd (good_leaf rfl)
  obtain ⟨y, e, hy⟩ := op_L3_5_good (p := fun y => y = (0, [])) (fun env => ∃ i : Int, 0 ≤ i ∧ i ≤ l.length ∧ InvP l i env) (fun env => (l.length - gn env 2).toNat) key ([.k 0, .l TCl l, .n 0] ++ sd0 false 0) ⟨0, by omega, by omega, .inl ⟨_, _, rfl⟩⟩ (by show ((l.length : Int) - 0).toNat < FU; unfold FU; omega)
  rw [e, hy]
theorem t3 (l : LC) : (ev_W3 [.l TCl l]).sel = some true := by
  obtain ⟨y, e, hy⟩ : Good (fun y => y = true) (ev_W3 [.l TCl l]).sel := by
    refine (fn_W3_t_im l).good ?_
    unfold fn_W3_t
    refine good_node (fun _ => good_leaf rfl) (fun q => ?_)
    have h2 : l.length ≤ 200 := by have := of_decide_eq_false q; omega
    have e := run3 l h2
    erw [e]
    exact good_t rfl (good_leaf rfl)
  rw [e, hy]
end Go.Proofs.Ytchedebomjmehaa.Vx.Pl
