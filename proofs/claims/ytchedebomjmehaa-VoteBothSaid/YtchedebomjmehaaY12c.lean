import Derived.Test.YtchedebomjmehaaY12b
namespace Go.Proofs.Ytchedebomjmehaa.Vx
open Go Go.RowKit
set_option linter.unusedVariables false
set_option linter.unusedSimpArgs false
set_option maxRecDepth 100000
set_option maxHeartbeats 0
theorem good_t {α : Type} {p : α → Prop} {c : Bool} {t e : Tree α} (h : c = true) (g : Good p t.sel) : Good p (Tree.node c t e).sel := by subst h; exact g
theorem good_f {α : Type} {p : α → Prop} {c : Bool} {t e : Tree α} (h : c = false) (g : Good p e.sel) : Good p (Tree.node c t e).sel := by subst h; exact g
abbrev kd (x : Ty.den TCl) : Int := Int.tmod (IntKind.wrap .i64 (Int.tmod (Prod.fst x) (6 : Int) + (6 : Int))) (6 : Int)
theorem pick6 (k : Int) : 0 ≤ Int.tmod (IntKind.wrap .i64 (Int.tmod k 6 + 6)) 6 ∧ Int.tmod (IntKind.wrap .i64 (Int.tmod k 6 + 6)) 6 < 6 := by
  have h := tmod_in (i := k) (n := 6) (by omega)
  rw [w64 (by omega) (by omega), Int.tmod_eq_emod_of_nonneg (by omega)]
  omega
abbrev envB (j : Nat) (l : LC) (f n i : Int) (st : Bool) : List Dat := [.k j, .l TCl l, .n f, .n n, .b st, .n i, .b st, .n n]
def InvB (l : LC) (i : Int) (env : List Dat) : Prop := ∃ f n : Int, 0 ≤ f ∧ f ≤ i ∧ (
  (∃ st, env = envB 0 l f n i st) ∨
  (∃ c e a b, env = envB 1 l f n i false ++ [.n c, .n e, .n a, .n b] ∧ Was l f i 0 c e a b) ∨
  (∃ c e a b, env = envB 2 l f n i false ++ [.n c, .n e, .n a, .n b] ∧ Was l f i 1 c e a b) ∨
  (∃ e a b, env = envB 3 l f n i false ++ [.n n, .n e, .n a, .n b] ∧ Was l f i 0 n e a b ∧ Was l f i 1 n e a b) ∨
  (∃ x y z u e a b, env = envB 4 l f n i false ++ [.n x, .n y, .n z, .n u, .n n, .n e, .n a, .n b] ∧ Was l f i 0 x y z u ∧ Was l f i 0 n e a b ∧ Was l f i 1 n e a b) ∨
  (∃ x y z u e a b, env = envB 5 l f n i false ++ [.n x, .n y, .n z, .n u, .n n, .n e, .n a, .n b] ∧ Was l f i 1 x y z u ∧ Was l f i 0 n e a b ∧ Was l f i 1 n e a b))
def StepB (l : LC) (i : Int) : Step → Prop
  | .go e => InvB l (i + 1) e
  | .stop k d => False
section
variable {l : LC} {i f n : Int}
theorem inv0 (h0 : 0 ≤ f) (h1 : f ≤ i + 1) (st : Bool) : InvB l (i + 1) (envB 0 l f n (i + 1) st) := ⟨f, n, h0, h1, .inl ⟨st, rfl⟩⟩
theorem inv1 (h0 : 0 ≤ f) (h1 : f ≤ i + 1) {c e a b : Int} (h : Was l f (i + 1) 0 c e a b) : InvB l (i + 1) (envB 1 l f n (i + 1) false ++ [.n c, .n e, .n a, .n b]) := ⟨f, n, h0, h1, .inr (.inl ⟨_, _, _, _, rfl, h⟩)⟩
theorem inv2 (h0 : 0 ≤ f) (h1 : f ≤ i + 1) {c e a b : Int} (h : Was l f (i + 1) 1 c e a b) : InvB l (i + 1) (envB 2 l f n (i + 1) false ++ [.n c, .n e, .n a, .n b]) := ⟨f, n, h0, h1, .inr (.inr (.inl ⟨_, _, _, _, rfl, h⟩))⟩
theorem inv3 (h0 : 0 ≤ f) (h1 : f ≤ i + 1) {e a b : Int} (h : Was l f (i + 1) 0 n e a b) (k : Was l f (i + 1) 1 n e a b) : InvB l (i + 1) (envB 3 l f n (i + 1) false ++ [.n n, .n e, .n a, .n b]) := ⟨f, n, h0, h1, .inr (.inr (.inr (.inl ⟨_, _, _, rfl, h, k⟩)))⟩
theorem inv4 (h0 : 0 ≤ f) (h1 : f ≤ i + 1) {x y z u e a b : Int} (g : Was l f (i + 1) 0 x y z u) (h : Was l f (i + 1) 0 n e a b) (k : Was l f (i + 1) 1 n e a b) : InvB l (i + 1) (envB 4 l f n (i + 1) false ++ [.n x, .n y, .n z, .n u, .n n, .n e, .n a, .n b]) := ⟨f, n, h0, h1, .inr (.inr (.inr (.inr (.inl ⟨_, _, _, _, _, _, _, rfl, g, h, k⟩))))⟩
theorem inv5 (h0 : 0 ≤ f) (h1 : f ≤ i + 1) {x y z u e a b : Int} (g : Was l f (i + 1) 1 x y z u) (h : Was l f (i + 1) 0 n e a b) (k : Was l f (i + 1) 1 n e a b) : InvB l (i + 1) (envB 5 l f n (i + 1) false ++ [.n x, .n y, .n z, .n u, .n n, .n e, .n a, .n b]) := ⟨f, n, h0, h1, .inr (.inr (.inr (.inr (.inr ⟨_, _, _, _, _, _, _, rfl, g, h, k⟩))))⟩
/-- What this call puts. -/
theorem now {ch : Int} (h1 : f ≤ i) (h3 : ¬ kd (El l i) = 3) (h4 : ¬ kd (El l i) = 4) (h5 : ¬ kd (El l i) = 5) (hc : Prod.fst (Prod.snd (El l i)) = ch) :
    Was l f (i + 1) ch (Prod.fst (Prod.snd (Prod.snd (El l i)))) (Prod.fst (Prod.snd (Prod.snd (Prod.snd (El l i))))) (Prod.fst (Prod.snd (Prod.snd (Prod.snd (Prod.snd (El l i)))))) (Prod.snd (Prod.snd (Prod.snd (Prod.snd (Prod.snd (El l i)))))) := by
  have := pick6 (Prod.fst (El l i))
  exact ⟨i, h1, by omega, by unfold kd at h3 h4 h5; omega, hc, rfl, rfl, rfl, rfl⟩
end
theorem k_t {r : Option (Nat × List Dat)} (h : r = some (0, [.b true])) : isK 0 [HK.b] r = true := by rw [h]; rfl
theorem k_b {r : Option (Nat × List Dat)} (h : r = some (0, [.b true])) : (!gb (dOf r) 0) = false := by rw [h]; rfl
theorem fr_eq {a b c d x y z u : Int} (h : (!(a == x && (b == y && (c == z && (d == u && true) && true)))) = false) : a = x ∧ b = y ∧ c = z ∧ d = u := by simpa using h
theorem le_no {x y : Int} (h : decide (x ≤ y) = false) (k : x = y) : False := by
  have := of_decide_eq_false h; omega
theorem Was.as {l : LC} {f i ch a b c d x y z u : Int} (h : Was l f i ch a b c d) (k : a = x ∧ b = y ∧ c = z ∧ d = u) : Was l f i ch x y z u := by
  obtain ⟨rfl, rfl, rfl, rfl⟩ := k; exact h
theorem odt {x y : Int} (h : decide (x = y) = true) : x = y := of_decide_eq_true h
theorem eq3 {x k : Int} (h : (x == k) = false) : ¬ x = k := by simpa using h
theorem stepB0 {l : LC} {i f n : Int} (h0 : 0 ≤ f) (h1 : f ≤ i) (hi : i < l.length) (hl : l.length ≤ 200) (st : Bool) : Good (StepB l i) (st_L4_8 (envB 0 l f n i st)).sel := by
  have w : IntKind.wrap .i64 (i + 1) = i + 1 := w64 (by omega) (by omega)
  refine Imp.good (fn_L4_8_t0_im l f n i st h0 h1 hi hl) ?_
  unfold fn_L4_8_t0
  dsimp only
  rw [w]
  refine good_node (fun q0 => ?_) (fun q0 => ?_)
  ·
    refine good_node (fun q1 => ?_) (fun q1 => ?_)
    ·
      exact good_leaf (inv0 h0 (by omega) _)
    ·
      exact good_leaf (inv0 h0 (by omega) _)
  ·
    refine good_node (fun q2 => ?_) (fun q2 => ?_)
    ·
      exact good_leaf (inv0 (f := i) (by omega) (by omega) _)
    ·
      refine good_node (fun q3 => ?_) (fun q3 => ?_)
      ·
        exact good_leaf (inv0 (f := i) (by omega) (by omega) _)
      ·
        refine good_node (fun q4 => ?_) (fun q4 => ?_)
        ·
          refine good_node (fun q5 => ?_) (fun q5 => ?_)
          ·
            exact good_leaf (inv0 h0 (by omega) _)
          ·
            exact good_leaf (inv0 h0 (by omega) _)
        ·
          refine good_node (fun q6 => ?_) (fun q6 => ?_)
          ·
            refine good_node (fun q7 => ?_) (fun q7 => ?_)
            ·
              exact good_leaf (inv0 h0 (by omega) _)
            ·
              exact good_leaf (inv0 h0 (by omega) _)
          ·
            refine good_node (fun q8 => ?_) (fun q8 => ?_)
            ·
              refine good_node (fun q9 => ?_) (fun q9 => ?_)
              ·
                exact good_leaf (inv0 h0 (by omega) _)
              ·
                refine good_node (fun q10 => ?_) (fun q10 => ?_)
                ·
                  refine good_node (fun q11 => ?_) (fun q11 => ?_)
                  ·
                    exact good_leaf (inv0 h0 (by omega) _)
                  ·
                    subst q9; exact good_leaf (inv1 h0 (by omega) (now h1 (eq3 q0) (eq3 q2) (eq3 q3) (odt q10)))
                ·
                  refine good_node (fun q12 => ?_) (fun q12 => ?_)
                  ·
                    refine good_node (fun q13 => ?_) (fun q13 => ?_)
                    ·
                      exact good_leaf (inv0 h0 (by omega) _)
                    ·
                      subst q9; exact good_leaf (inv2 h0 (by omega) (now h1 (eq3 q0) (eq3 q2) (eq3 q3) (odt q12)))
                  ·
                    exfalso; simp only [w64d, decide_eq_true_eq, decide_eq_false_iff_not, ge_iff_le] at q4 q6 q8 q10 q12; omega
            ·
              refine good_node (fun q14 => ?_) (fun q14 => ?_)
              ·
                refine good_node (fun q15 => ?_) (fun q15 => ?_)
                ·
                  exact good_leaf (inv0 h0 (by omega) _)
                ·
                  refine good_node (fun q16 => ?_) (fun q16 => ?_)
                  ·
                    refine good_node (fun q17 => ?_) (fun q17 => ?_)
                    ·
                      exact good_leaf (inv0 h0 (by omega) _)
                    ·
                      subst q15; exact good_leaf (inv1 h0 (by omega) (now h1 (eq3 q0) (eq3 q2) (eq3 q3) (odt q16)))
                  ·
                    refine good_node (fun q18 => ?_) (fun q18 => ?_)
                    ·
                      refine good_node (fun q19 => ?_) (fun q19 => ?_)
                      ·
                        exact good_leaf (inv0 h0 (by omega) _)
                      ·
                        subst q15; exact good_leaf (inv2 h0 (by omega) (now h1 (eq3 q0) (eq3 q2) (eq3 q3) (odt q18)))
                    ·
                      exfalso; simp only [w64d, decide_eq_true_eq, decide_eq_false_iff_not, ge_iff_le] at q4 q6 q8 q14 q16 q18; omega
              ·
                exfalso; simp only [w64d, decide_eq_true_eq, decide_eq_false_iff_not, ge_iff_le] at q4 q6 q8 q14; omega
theorem stepB1 {l : LC} {i f n : Int} (h0 : 0 ≤ f) (h1 : f ≤ i) (hi : i < l.length) (hl : l.length ≤ 200) (c e a b : Int) (h : Was l f i 0 c e a b) : Good (StepB l i) (st_L4_8 (envB 1 l f n i false ++ [.n c, .n e, .n a, .n b])).sel := by
  have w : IntKind.wrap .i64 (i + 1) = i + 1 := w64 (by omega) (by omega)
  refine Imp.good (fn_L4_8_t1_im l f n i c e a b h0 h1 hi hl) ?_
  unfold fn_L4_8_t1
  dsimp only
  rw [w]
  refine good_node (fun q0 => ?_) (fun q0 => ?_)
  ·
    exact good_leaf (inv0 h0 (by omega) _)
  ·
    refine good_node (fun q1 => ?_) (fun q1 => ?_)
    ·
      exact good_leaf (inv0 (f := i) (by omega) (by omega) _)
    ·
      refine good_node (fun q2 => ?_) (fun q2 => ?_)
      ·
        exact good_leaf (inv0 (f := i) (by omega) (by omega) _)
      ·
        refine good_node (fun q3 => ?_) (fun q3 => ?_)
        ·
          exact good_leaf (inv1 h0 (by omega) h.more)
        ·
          refine good_node (fun q4 => ?_) (fun q4 => ?_)
          ·
            exact good_leaf (inv1 h0 (by omega) h.more)
          ·
            refine good_node (fun q5 => ?_) (fun q5 => ?_)
            ·
              refine good_node (fun q6 => ?_) (fun q6 => ?_)
              ·
                exact good_leaf (inv0 h0 (by omega) _)
              ·
                refine good_node (fun q7 => ?_) (fun q7 => ?_)
                ·
                  refine good_node (fun q8 => ?_) (fun q8 => ?_)
                  ·
                    exact good_leaf (inv0 h0 (by omega) _)
                  ·
                    refine good_node (fun q9 => ?_) (fun q9 => ?_)
                    ·
                      exact good_leaf (inv0 h0 (by omega) _)
                    ·
                      refine good_t (k_t (was26 hl h0 hi (h.more.as (fr_eq q9)))) ?_
                      refine good_f (k_b (was26 hl h0 hi (h.more.as (fr_eq q9)))) ?_
                      refine good_t (k_t (was26 hl h0 hi (now h1 (eq3 q0) (eq3 q1) (eq3 q2) (odt q7)))) ?_
                      refine good_f (k_b (was26 hl h0 hi (now h1 (eq3 q0) (eq3 q1) (eq3 q2) (odt q7)))) ?_
                      refine good_node (fun q10 => ?_) (fun q10 => ?_)
                      ·
                        exfalso; simp only [w64d, decide_eq_true_eq, decide_eq_false_iff_not, ge_iff_le] at q3 q4 q5 q6 q7 q8 q10; omega
                      ·
                        exact good_leaf (inv3 h0 (by omega) (h.more.as (fr_eq q9)) (now h1 (eq3 q0) (eq3 q1) (eq3 q2) (odt q7)))
                ·
                  exfalso; simp only [w64d, decide_eq_true_eq, decide_eq_false_iff_not, ge_iff_le] at q3 q4 q5 q6 q7; omega
            ·
              refine good_node (fun q11 => ?_) (fun q11 => ?_)
              ·
                refine good_node (fun q12 => ?_) (fun q12 => ?_)
                ·
                  exact good_leaf (inv0 h0 (by omega) _)
                ·
                  refine good_node (fun q13 => ?_) (fun q13 => ?_)
                  ·
                    refine good_node (fun q14 => ?_) (fun q14 => ?_)
                    ·
                      exact good_leaf (inv0 h0 (by omega) _)
                    ·
                      exfalso; simp only [w64d, decide_eq_true_eq, decide_eq_false_iff_not, ge_iff_le] at q3 q4 q5 q11 q12 q13 q14; omega
                  ·
                    exfalso; simp only [w64d, decide_eq_true_eq, decide_eq_false_iff_not, ge_iff_le] at q3 q4 q5 q11 q12 q13; omega
              ·
                exfalso; simp only [w64d, decide_eq_true_eq, decide_eq_false_iff_not, ge_iff_le] at q3 q4 q5 q11; omega
theorem stepB2 {l : LC} {i f n : Int} (h0 : 0 ≤ f) (h1 : f ≤ i) (hi : i < l.length) (hl : l.length ≤ 200) (c e a b : Int) (h : Was l f i 1 c e a b) : Good (StepB l i) (st_L4_8 (envB 2 l f n i false ++ [.n c, .n e, .n a, .n b])).sel := by
  have w : IntKind.wrap .i64 (i + 1) = i + 1 := w64 (by omega) (by omega)
  refine Imp.good (fn_L4_8_t2_im l f n i c e a b h0 h1 hi hl) ?_
  unfold fn_L4_8_t2
  dsimp only
  rw [w]
  refine good_node (fun q0 => ?_) (fun q0 => ?_)
  ·
    exact good_leaf (inv0 h0 (by omega) _)
  ·
    refine good_node (fun q1 => ?_) (fun q1 => ?_)
    ·
      exact good_leaf (inv0 (f := i) (by omega) (by omega) _)
    ·
      refine good_node (fun q2 => ?_) (fun q2 => ?_)
      ·
        exact good_leaf (inv0 (f := i) (by omega) (by omega) _)
      ·
        refine good_node (fun q3 => ?_) (fun q3 => ?_)
        ·
          exact good_leaf (inv2 h0 (by omega) h.more)
        ·
          refine good_node (fun q4 => ?_) (fun q4 => ?_)
          ·
            exact good_leaf (inv2 h0 (by omega) h.more)
          ·
            refine good_node (fun q5 => ?_) (fun q5 => ?_)
            ·
              refine good_node (fun q6 => ?_) (fun q6 => ?_)
              ·
                refine good_node (fun q7 => ?_) (fun q7 => ?_)
                ·
                  exact good_leaf (inv0 h0 (by omega) _)
                ·
                  exfalso; simp only [w64d, decide_eq_true_eq, decide_eq_false_iff_not, ge_iff_le] at q3 q4 q5 q6 q7; omega
              ·
                refine good_node (fun q8 => ?_) (fun q8 => ?_)
                ·
                  exact good_leaf (inv0 h0 (by omega) _)
                ·
                  exfalso; simp only [w64d, decide_eq_true_eq, decide_eq_false_iff_not, ge_iff_le] at q3 q4 q5 q6 q8; omega
            ·
              refine good_node (fun q9 => ?_) (fun q9 => ?_)
              ·
                refine good_node (fun q10 => ?_) (fun q10 => ?_)
                ·
                  refine good_node (fun q11 => ?_) (fun q11 => ?_)
                  ·
                    exact good_leaf (inv0 h0 (by omega) _)
                  ·
                    refine good_node (fun q12 => ?_) (fun q12 => ?_)
                    ·
                      exact good_leaf (inv0 h0 (by omega) _)
                    ·
                      refine good_t (k_t (was26 hl h0 hi (now h1 (eq3 q0) (eq3 q1) (eq3 q2) (odt q10)))) ?_
                      refine good_f (k_b (was26 hl h0 hi (now h1 (eq3 q0) (eq3 q1) (eq3 q2) (odt q10)))) ?_
                      refine good_t (k_t (was26 hl h0 hi (h.more.as (fr_eq q12)))) ?_
                      refine good_f (k_b (was26 hl h0 hi (h.more.as (fr_eq q12)))) ?_
                      refine good_node (fun q13 => ?_) (fun q13 => ?_)
                      ·
                        exfalso; simp only [w64d, decide_eq_true_eq, decide_eq_false_iff_not, ge_iff_le] at q3 q4 q5 q9 q10 q11 q13; omega
                      ·
                        exact good_leaf (inv3 h0 (by omega) (now h1 (eq3 q0) (eq3 q1) (eq3 q2) (odt q10)) (h.more.as (fr_eq q12)))
                ·
                  refine good_node (fun q14 => ?_) (fun q14 => ?_)
                  ·
                    exact good_leaf (inv0 h0 (by omega) _)
                  ·
                    exfalso; simp only [w64d, decide_eq_true_eq, decide_eq_false_iff_not, ge_iff_le] at q3 q4 q5 q9 q10 q14; omega
              ·
                exfalso; simp only [w64d, decide_eq_true_eq, decide_eq_false_iff_not, ge_iff_le] at q3 q4 q5 q9; omega
theorem stepB3 {l : LC} {i f n : Int} (h0 : 0 ≤ f) (h1 : f ≤ i) (hi : i < l.length) (hl : l.length ≤ 200) (e a b : Int) (h : Was l f i 0 n e a b) (k : Was l f i 1 n e a b) : Good (StepB l i) (st_L4_8 (envB 3 l f n i false ++ [.n n, .n e, .n a, .n b])).sel := by
  have w : IntKind.wrap .i64 (i + 1) = i + 1 := w64 (by omega) (by omega)
  refine Imp.good (fn_L4_8_t3_im l f n i e a b h0 h1 hi hl) ?_
  unfold fn_L4_8_t3
  dsimp only
  rw [w]
  refine good_node (fun q0 => ?_) (fun q0 => ?_)
  ·
    refine good_t (k_t (was26 hl h0 hi h.more)) ?_
    refine good_f (k_b (was26 hl h0 hi h.more)) ?_
    refine good_t (k_t (was26 hl h0 hi k.more)) ?_
    refine good_f (k_b (was26 hl h0 hi k.more)) ?_
    exact good_leaf (inv3 h0 (by omega) h.more k.more)
  ·
    refine good_node (fun q1 => ?_) (fun q1 => ?_)
    ·
      exact good_leaf (inv0 (f := i) (by omega) (by omega) _)
    ·
      refine good_node (fun q2 => ?_) (fun q2 => ?_)
      ·
        exact good_leaf (inv0 (f := i) (by omega) (by omega) _)
      ·
        refine good_node (fun q3 => ?_) (fun q3 => ?_)
        ·
          refine good_t (k_t (was26 hl h0 hi h.more)) ?_
          refine good_f (k_b (was26 hl h0 hi h.more)) ?_
          refine good_t (k_t (was26 hl h0 hi k.more)) ?_
          refine good_f (k_b (was26 hl h0 hi k.more)) ?_
          exact good_leaf (inv3 h0 (by omega) h.more k.more)
        ·
          refine good_node (fun q4 => ?_) (fun q4 => ?_)
          ·
            refine good_t (k_t (was26 hl h0 hi h.more)) ?_
            refine good_f (k_b (was26 hl h0 hi h.more)) ?_
            refine good_t (k_t (was26 hl h0 hi k.more)) ?_
            refine good_f (k_b (was26 hl h0 hi k.more)) ?_
            exact good_leaf (inv3 h0 (by omega) h.more k.more)
          ·
            refine good_node (fun q5 => ?_) (fun q5 => ?_)
            ·
              refine good_node (fun q6 => ?_) (fun q6 => ?_)
              ·
                refine good_node (fun q7 => ?_) (fun q7 => ?_)
                ·
                  exact good_leaf (inv0 h0 (by omega) _)
                ·
                  refine good_t (k_t (was26 hl h0 hi h.more)) ?_
                  refine good_f (k_b (was26 hl h0 hi h.more)) ?_
                  refine good_t (k_t (was26 hl h0 hi k.more)) ?_
                  refine good_f (k_b (was26 hl h0 hi k.more)) ?_
                  exact good_leaf (inv4 h0 (by omega) (now h1 (eq3 q0) (eq3 q1) (eq3 q2) (odt q6)) h.more k.more)
              ·
                refine good_node (fun q8 => ?_) (fun q8 => ?_)
                ·
                  refine good_node (fun q9 => ?_) (fun q9 => ?_)
                  ·
                    exact good_leaf (inv0 h0 (by omega) _)
                  ·
                    refine good_t (k_t (was26 hl h0 hi h.more)) ?_
                    refine good_f (k_b (was26 hl h0 hi h.more)) ?_
                    refine good_t (k_t (was26 hl h0 hi k.more)) ?_
                    refine good_f (k_b (was26 hl h0 hi k.more)) ?_
                    exact good_leaf (inv5 h0 (by omega) (now h1 (eq3 q0) (eq3 q1) (eq3 q2) (odt q8)) h.more k.more)
                ·
                  exfalso; simp only [w64d, decide_eq_true_eq, decide_eq_false_iff_not, ge_iff_le] at q3 q4 q5 q6 q8; omega
            ·
              refine good_node (fun q10 => ?_) (fun q10 => ?_)
              ·
                refine good_node (fun q11 => ?_) (fun q11 => ?_)
                ·
                  refine good_node (fun q12 => ?_) (fun q12 => ?_)
                  ·
                    exact good_leaf (inv0 h0 (by omega) _)
                  ·
                    refine good_t (k_t (was26 hl h0 hi h.more)) ?_
                    refine good_f (k_b (was26 hl h0 hi h.more)) ?_
                    refine good_t (k_t (was26 hl h0 hi k.more)) ?_
                    refine good_f (k_b (was26 hl h0 hi k.more)) ?_
                    exact good_leaf (inv4 h0 (by omega) (now h1 (eq3 q0) (eq3 q1) (eq3 q2) (odt q11)) h.more k.more)
                ·
                  refine good_node (fun q13 => ?_) (fun q13 => ?_)
                  ·
                    refine good_node (fun q14 => ?_) (fun q14 => ?_)
                    ·
                      exact good_leaf (inv0 h0 (by omega) _)
                    ·
                      refine good_t (k_t (was26 hl h0 hi h.more)) ?_
                      refine good_f (k_b (was26 hl h0 hi h.more)) ?_
                      refine good_t (k_t (was26 hl h0 hi k.more)) ?_
                      refine good_f (k_b (was26 hl h0 hi k.more)) ?_
                      exact good_leaf (inv5 h0 (by omega) (now h1 (eq3 q0) (eq3 q1) (eq3 q2) (odt q13)) h.more k.more)
                  ·
                    exfalso; simp only [w64d, decide_eq_true_eq, decide_eq_false_iff_not, ge_iff_le] at q3 q4 q5 q10 q11 q13; omega
              ·
                exfalso; simp only [w64d, decide_eq_true_eq, decide_eq_false_iff_not, ge_iff_le] at q3 q4 q5 q10; omega
theorem stepB4 {l : LC} {i f n : Int} (h0 : 0 ≤ f) (h1 : f ≤ i) (hi : i < l.length) (hl : l.length ≤ 200) (x y z u e a b : Int) (g : Was l f i 0 x y z u) (h : Was l f i 0 n e a b) (k : Was l f i 1 n e a b) : Good (StepB l i) (st_L4_8 (envB 4 l f n i false ++ [.n x, .n y, .n z, .n u, .n n, .n e, .n a, .n b])).sel := by
  have w : IntKind.wrap .i64 (i + 1) = i + 1 := w64 (by omega) (by omega)
  refine Imp.good (fn_L4_8_t4_im l f n i x y z u e a b h0 h1 hi hl) ?_
  unfold fn_L4_8_t4
  dsimp only
  rw [w]
  refine good_node (fun q0 => ?_) (fun q0 => ?_)
  ·
    exact good_leaf (inv0 h0 (by omega) _)
  ·
    refine good_node (fun q1 => ?_) (fun q1 => ?_)
    ·
      exact good_leaf (inv0 (f := i) (by omega) (by omega) _)
    ·
      refine good_node (fun q2 => ?_) (fun q2 => ?_)
      ·
        exact good_leaf (inv0 (f := i) (by omega) (by omega) _)
      ·
        refine good_node (fun q3 => ?_) (fun q3 => ?_)
        ·
          refine good_t (k_t (was26 hl h0 hi h.more)) ?_
          refine good_f (k_b (was26 hl h0 hi h.more)) ?_
          refine good_t (k_t (was26 hl h0 hi k.more)) ?_
          refine good_f (k_b (was26 hl h0 hi k.more)) ?_
          exact good_leaf (inv4 h0 (by omega) g.more h.more k.more)
        ·
          refine good_node (fun q4 => ?_) (fun q4 => ?_)
          ·
            refine good_t (k_t (was26 hl h0 hi h.more)) ?_
            refine good_f (k_b (was26 hl h0 hi h.more)) ?_
            refine good_t (k_t (was26 hl h0 hi k.more)) ?_
            refine good_f (k_b (was26 hl h0 hi k.more)) ?_
            exact good_leaf (inv4 h0 (by omega) g.more h.more k.more)
          ·
            refine good_node (fun q5 => ?_) (fun q5 => ?_)
            ·
              refine good_node (fun q6 => ?_) (fun q6 => ?_)
              ·
                exact good_leaf (inv0 h0 (by omega) _)
              ·
                refine good_node (fun q7 => ?_) (fun q7 => ?_)
                ·
                  refine good_node (fun q8 => ?_) (fun q8 => ?_)
                  ·
                    exact good_leaf (inv0 h0 (by omega) _)
                  ·
                    refine good_node (fun q9 => ?_) (fun q9 => ?_)
                    ·
                      exact good_leaf (inv0 h0 (by omega) _)
                    ·
                      refine good_t (k_t (was26 hl h0 hi (g.more.as (fr_eq q9)))) ?_
                      refine good_f (k_b (was26 hl h0 hi (g.more.as (fr_eq q9)))) ?_
                      refine good_t (k_t (was26 hl h0 hi (now h1 (eq3 q0) (eq3 q1) (eq3 q2) (odt q7)))) ?_
                      refine good_f (k_b (was26 hl h0 hi (now h1 (eq3 q0) (eq3 q1) (eq3 q2) (odt q7)))) ?_
                      refine good_node (fun q10 => ?_) (fun q10 => ?_)
                      ·
                        refine good_node (fun q11 => ?_) (fun q11 => ?_)
                        ·
                          exfalso; simp only [w64d, decide_eq_true_eq, decide_eq_false_iff_not, ge_iff_le] at q3 q4 q5 q6 q7 q8 q11; omega
                        ·
                          exact good_leaf (inv3 h0 (by omega) (g.more.as (fr_eq q9)) (now h1 (eq3 q0) (eq3 q1) (eq3 q2) (odt q7)))
                      ·
                        exact (le_no q8 (fr_eq q10).1).elim
                ·
                  exfalso; simp only [w64d, decide_eq_true_eq, decide_eq_false_iff_not, ge_iff_le] at q3 q4 q5 q6 q7; omega
            ·
              refine good_node (fun q12 => ?_) (fun q12 => ?_)
              ·
                refine good_node (fun q13 => ?_) (fun q13 => ?_)
                ·
                  exact good_leaf (inv0 h0 (by omega) _)
                ·
                  refine good_node (fun q14 => ?_) (fun q14 => ?_)
                  ·
                    refine good_node (fun q15 => ?_) (fun q15 => ?_)
                    ·
                      exact good_leaf (inv0 h0 (by omega) _)
                    ·
                      refine good_t (k_t (was26 hl h0 hi h.more)) ?_
                      refine good_f (k_b (was26 hl h0 hi h.more)) ?_
                      refine good_t (k_t (was26 hl h0 hi k.more)) ?_
                      refine good_f (k_b (was26 hl h0 hi k.more)) ?_
                      exfalso; simp only [w64d, decide_eq_true_eq, decide_eq_false_iff_not, ge_iff_le] at q3 q4 q5 q12 q13 q14 q15; omega
                  ·
                    exfalso; simp only [w64d, decide_eq_true_eq, decide_eq_false_iff_not, ge_iff_le] at q3 q4 q5 q12 q13 q14; omega
              ·
                exfalso; simp only [w64d, decide_eq_true_eq, decide_eq_false_iff_not, ge_iff_le] at q3 q4 q5 q12; omega
theorem stepB5 {l : LC} {i f n : Int} (h0 : 0 ≤ f) (h1 : f ≤ i) (hi : i < l.length) (hl : l.length ≤ 200) (x y z u e a b : Int) (g : Was l f i 1 x y z u) (h : Was l f i 0 n e a b) (k : Was l f i 1 n e a b) : Good (StepB l i) (st_L4_8 (envB 5 l f n i false ++ [.n x, .n y, .n z, .n u, .n n, .n e, .n a, .n b])).sel := by
  have w : IntKind.wrap .i64 (i + 1) = i + 1 := w64 (by omega) (by omega)
  refine Imp.good (fn_L4_8_t5_im l f n i x y z u e a b h0 h1 hi hl) ?_
  unfold fn_L4_8_t5
  dsimp only
  rw [w]
  refine good_node (fun q0 => ?_) (fun q0 => ?_)
  ·
    exact good_leaf (inv0 h0 (by omega) _)
  ·
    refine good_node (fun q1 => ?_) (fun q1 => ?_)
    ·
      exact good_leaf (inv0 (f := i) (by omega) (by omega) _)
    ·
      refine good_node (fun q2 => ?_) (fun q2 => ?_)
      ·
        exact good_leaf (inv0 (f := i) (by omega) (by omega) _)
      ·
        refine good_node (fun q3 => ?_) (fun q3 => ?_)
        ·
          refine good_t (k_t (was26 hl h0 hi h.more)) ?_
          refine good_f (k_b (was26 hl h0 hi h.more)) ?_
          refine good_t (k_t (was26 hl h0 hi k.more)) ?_
          refine good_f (k_b (was26 hl h0 hi k.more)) ?_
          exact good_leaf (inv5 h0 (by omega) g.more h.more k.more)
        ·
          refine good_node (fun q4 => ?_) (fun q4 => ?_)
          ·
            refine good_t (k_t (was26 hl h0 hi h.more)) ?_
            refine good_f (k_b (was26 hl h0 hi h.more)) ?_
            refine good_t (k_t (was26 hl h0 hi k.more)) ?_
            refine good_f (k_b (was26 hl h0 hi k.more)) ?_
            exact good_leaf (inv5 h0 (by omega) g.more h.more k.more)
          ·
            refine good_node (fun q5 => ?_) (fun q5 => ?_)
            ·
              refine good_node (fun q6 => ?_) (fun q6 => ?_)
              ·
                refine good_node (fun q7 => ?_) (fun q7 => ?_)
                ·
                  exact good_leaf (inv0 h0 (by omega) _)
                ·
                  refine good_t (k_t (was26 hl h0 hi h.more)) ?_
                  refine good_f (k_b (was26 hl h0 hi h.more)) ?_
                  refine good_t (k_t (was26 hl h0 hi k.more)) ?_
                  refine good_f (k_b (was26 hl h0 hi k.more)) ?_
                  exfalso; simp only [w64d, decide_eq_true_eq, decide_eq_false_iff_not, ge_iff_le] at q3 q4 q5 q6 q7; omega
              ·
                refine good_node (fun q8 => ?_) (fun q8 => ?_)
                ·
                  exact good_leaf (inv0 h0 (by omega) _)
                ·
                  exfalso; simp only [w64d, decide_eq_true_eq, decide_eq_false_iff_not, ge_iff_le] at q3 q4 q5 q6 q8; omega
            ·
              refine good_node (fun q9 => ?_) (fun q9 => ?_)
              ·
                refine good_node (fun q10 => ?_) (fun q10 => ?_)
                ·
                  refine good_node (fun q11 => ?_) (fun q11 => ?_)
                  ·
                    exact good_leaf (inv0 h0 (by omega) _)
                  ·
                    refine good_node (fun q12 => ?_) (fun q12 => ?_)
                    ·
                      exact good_leaf (inv0 h0 (by omega) _)
                    ·
                      refine good_t (k_t (was26 hl h0 hi (now h1 (eq3 q0) (eq3 q1) (eq3 q2) (odt q10)))) ?_
                      refine good_f (k_b (was26 hl h0 hi (now h1 (eq3 q0) (eq3 q1) (eq3 q2) (odt q10)))) ?_
                      refine good_t (k_t (was26 hl h0 hi (g.more.as (fr_eq q12)))) ?_
                      refine good_f (k_b (was26 hl h0 hi (g.more.as (fr_eq q12)))) ?_
                      refine good_node (fun q13 => ?_) (fun q13 => ?_)
                      ·
                        refine good_node (fun q14 => ?_) (fun q14 => ?_)
                        ·
                          exfalso; simp only [w64d, decide_eq_true_eq, decide_eq_false_iff_not, ge_iff_le] at q3 q4 q5 q9 q10 q11 q14; omega
                        ·
                          exact good_leaf (inv3 h0 (by omega) (now h1 (eq3 q0) (eq3 q1) (eq3 q2) (odt q10)) (g.more.as (fr_eq q12)))
                      ·
                        exact (le_no q11 (fr_eq q13).1).elim
                ·
                  refine good_node (fun q15 => ?_) (fun q15 => ?_)
                  ·
                    exact good_leaf (inv0 h0 (by omega) _)
                  ·
                    exfalso; simp only [w64d, decide_eq_true_eq, decide_eq_false_iff_not, ge_iff_le] at q3 q4 q5 q9 q10 q15; omega
              ·
                exfalso; simp only [w64d, decide_eq_true_eq, decide_eq_false_iff_not, ge_iff_le] at q3 q4 q5 q9; omega
end Go.Proofs.Ytchedebomjmehaa.Vx
