import Derived.Test.YtcoamiaifbjofaaX20
import Derived.Test.YtcoamiaifbjofaaY20m
namespace Go.Proofs.Ytcoamiaifbjofaa.Vx
open Go Go.RowKit
set_option linter.unusedVariables false
set_option maxRecDepth 100000
theorem e12 (a : Int) : ∃ p : Int, op_12 [.n a, .n 3] = some (0, [.n p]) := by
  rw [op_12_eq]
  refine ⟨Int.tmod (IntKind.wrap .i64 (Int.tmod a 3 + 3)) 3, fn_12_t_im a 3 _ ?_⟩
  unfold fn_12_t
  exact sel_f (decide_eq_false (by omega)) rfl
theorem e16n (a b c d e : Int) : op_16n [.n a, .n b, .n c, .n d, .n e] = some (0, []) := by
  rw [op_16n_eq]
  refine fn_16n_t_im a b c d e _ ?_
  unfold fn_16n_t
  have k : op_L16n_2 [.k 0, .n 0, .n a, .n b, .n c, .n d, .n e] = some (0, []) := by
    rw [op_L16n_2_eq, show FU = 18446744073709551615 + 1 from rfl]
    unfold iterS
    rw [fn_L16n_2_t_im 0 a b c d e (.stop 0 []) (by unfold fn_L16n_2_t; exact sel_f (decide_eq_false (by omega)) rfl)]
  exact sel_t (by erw [k]; rfl) rfl
theorem l16o (l : LC) (a b c d e : Int) (hl : l.length ≤ 1000) : ∃ l' : LC, op_L16o_2 [.k 0, .n 0, .l TCmd l, .n a, .n b, .n c, .n d, .n e] = some (0, [.l TCmd l']) := by
  have g := op_L16o_2_good (p := fun y => ∃ l' : LC, y = (0, [.l TCmd l'])) (fun env => ∃ (i : Int) (l : LC), env = [.k 0, .n i, .l TCmd l, .n a, .n b, .n c, .n d, .n e] ∧ 0 ≤ i ∧ i ≤ (l.length : Int) ∧ l.length ≤ 1000)
    (fun env => (((gl TCmd env 2).length : Int) - gn env 1).toNat) (by
      rintro env ⟨i, l, rfl, h0, h1, h2⟩
      refine (fn_L16o_2_t_im i l a b c d e).good ?_
      unfold fn_L16o_2_t
      refine good_node (fun t1 => ?_) (fun t1 => ?_)
      · have t2 : i < (l.length : Int) := of_decide_eq_true t1
        refine good_t (inR_true h0 t2) (good_leaf ?_)
        have w := w64s (x := i + 1) (by omega) (by omega)
        have key : ∀ l' : LC, l'.length = l.length → (∃ (i' : Int) (l2 : LC), [Dat.k 0, .n (IntKind.wrap .i64 (i + 1)), .l TCmd l', .n a, .n b, .n c, .n d, .n e] = [Dat.k 0, .n i', .l TCmd l2, .n a, .n b, .n c, .n d, .n e] ∧ 0 ≤ i' ∧ i' ≤ (l2.length : Int) ∧ l2.length ≤ 1000) ∧ ((l'.length : Int) - IntKind.wrap .i64 (i + 1)).toNat < ((l.length : Int) - i).toNat := by
          intro l' hl'
          rw [w]
          exact ⟨⟨i + 1, l', rfl, by omega, by omega, by omega⟩, by omega⟩
        exact key _ (List.length_set ..)
      · exact good_leaf ⟨l, rfl⟩) _ ⟨0, l, rfl, by omega, by omega, hl⟩ (by show ((l.length : Int) - 0).toNat < FU; unfold FU; omega)
  obtain ⟨y, h, l', rfl⟩ := g
  exact ⟨l', h⟩
theorem e16o (l : LC) (a b c d e : Int) (hl : l.length ≤ 1000) : ∃ l' : LC, op_16o [.n a, .n b, .n c, .n d, .n e, .l TCmd l] = some (0, [.l TCmd l']) := by
  obtain ⟨l', k⟩ := l16o l a b c d e hl
  refine ⟨l', ?_⟩
  rw [op_16o_eq]
  refine fn_16o_t_im a b c d e l _ ?_
  unfold fn_16o_t
  exact sel_t (by erw [k]; rfl) (by erw [k]; rfl)
noncomputable def sm (n0 n1 n2 : Int) (a : LC) (n4 n5 n6 : Int) (b : LC) : Bool := @decide (n0 = n4 ∧ n1 = n5 ∧ n2 = n6 ∧ a = b) (Classical.propDecidable _)
theorem sm_iff {n0 n1 n2 : Int} {a : LC} {n4 n5 n6 : Int} {b : LC} : sm n0 n1 n2 a n4 n5 n6 b = true ↔ n0 = n4 ∧ n1 = n5 ∧ n2 = n6 ∧ a = b := by unfold sm; simp
theorem sm_self (n0 n1 n2 : Int) (a : LC) : sm n0 n1 n2 a n0 n1 n2 a = true := sm_iff.2 ⟨rfl, rfl, rfl, rfl⟩
theorem sm_symm (n0 n1 n2 : Int) (a : LC) (n4 n5 n6 : Int) (b : LC) : sm n0 n1 n2 a n4 n5 n6 b = sm n4 n5 n6 b n0 n1 n2 a := by
  rw [Bool.eq_iff_iff, sm_iff, sm_iff]
  constructor <;> rintro ⟨rfl, rfl, rfl, rfl⟩ <;> exact ⟨rfl, rfl, rfl, rfl⟩
theorem e29 (n0 n1 n2 : Int) (a : LC) (n4 n5 n6 : Int) (b : LC) (h : a.length ≤ 1000) : op_29 [.n n0, .n n1, .n n2, .l TCmd a, .n n4, .n n5, .n n6, .l TCmd b] = some (0, [.b (sm n0 n1 n2 a n4 n5 n6 b)]) := by
  obtain ⟨r, e, k⟩ := t29 n0 n1 n2 n4 n5 n6 a b (by omega)
  have : r = sm n0 n1 n2 a n4 n5 n6 b := by rw [Bool.eq_iff_iff, k, sm_iff]
  rw [← this]; exact e
theorem e30 (n0 n1 n2 : Int) (a : LC) (n4 n5 n6 : Int) (b : LC) (h : a.length ≤ 1000) : op_30 [.n n0, .n n1, .n n2, .l TCmd a, .n n4, .n n5, .n n6, .l TCmd b] = some (0, [.b (sm n0 n1 n2 a n4 n5 n6 b)]) := by
  obtain ⟨r, e, k⟩ := t30 n0 n1 n2 n4 n5 n6 a b (by omega)
  have : r = sm n0 n1 n2 a n4 n5 n6 b := by rw [Bool.eq_iff_iff, k, sm_iff]
  rw [← this]; exact e
theorem l7 (l : List (Ty.den TCall)) (hl : l.length ≤ 60) : Good (fun y => (y = (0, []) ∧ ∀ i : Int, 0 ≤ i → i < (l.length : Int) → (cl_7 l i).length ≤ 20) ∨ y = (1, [.b false])) (op_L7_4 [.k 0, .l TCall l, .n 0]) := by
  refine op_L7_4_good (fun env => ∃ (i : Int), env = [.k 0, .l TCall l, .n i] ∧ 0 ≤ i ∧ i ≤ (l.length : Int) ∧ ∀ j : Int, 0 ≤ j → j < i → (cl_7 l j).length ≤ 20) (fun env => ((l.length : Int) - gn env 2).toNat) ?_ _ ⟨0, rfl, by omega, by omega, fun j a b => by omega⟩ (by show ((l.length : Int) - 0).toNat < FU; unfold FU; omega)
  rintro env ⟨i, rfl, h0, h1, h2⟩
  refine (fn_L7_4_t_im l i).good ?_
  unfold fn_L7_4_t
  refine good_node (fun t1 => ?_) (fun t1 => ?_)
  · have t2 : i < (l.length : Int) := of_decide_eq_true t1
    refine good_t (inR_true h0 t2) (good_node (fun t3 => good_leaf (.inr rfl)) (fun t3 => good_leaf ?_))
    have w := w64s (x := i + 1) (by omega) (by omega)
    have t4 : ¬ (((cl_7 l i).length : Int) > 20) := of_decide_eq_false t3
    refine ⟨⟨i + 1, congrArg (fun x => _ :: _ :: Dat.n x :: []) w, by omega, by omega, fun j a b => ?_⟩, ?_⟩
    · by_cases q : j = i
      · subst q; omega
      · exact h2 j a (by omega)
    · rw [w]; show ((l.length : Int) - (i + 1)).toNat < ((l.length : Int) - i).toNat; omega
  · have t2 : ¬ (i < (l.length : Int)) := of_decide_eq_false t1
    exact good_leaf (.inl ⟨rfl, fun j a b => h2 j a (by omega)⟩)
theorem e7 (l : List (Ty.den TCall)) : ∃ r : Bool, op_7 [.l TCall l] = some (0, [.b r]) ∧ (r = true → l.length ≤ 60 ∧ ∀ i : Int, 0 ≤ i → i < (l.length : Int) → (cl_7 l i).length ≤ 20) := by
  rw [op_7_eq]
  by_cases h : (l.length : Int) > 60
  · refine ⟨false, fn_7_t_im l _ ?_, by simp⟩
    unfold fn_7_t
    exact sel_t (decide_eq_true h) rfl
  · obtain ⟨y, k, q⟩ := l7 l (by omega)
    rcases q with ⟨rfl, q⟩ | rfl
    · refine ⟨true, fn_7_t_im l _ ?_, fun _ => ⟨by omega, q⟩⟩
      unfold fn_7_t
      exact sel_f (decide_eq_false h) (sel_t (by erw [k]; rfl) rfl)
    · refine ⟨false, fn_7_t_im l _ ?_, by simp⟩
      unfold fn_7_t
      exact sel_f (decide_eq_false h) (sel_f (by erw [k]; rfl) (sel_t (by erw [k]; rfl) (by erw [k]; rfl)))
end Go.Proofs.Ytcoamiaifbjofaa.Vx
