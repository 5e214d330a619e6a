import Derived.Test.YtchedebomjmehaaX12b
import Derived.Test.YtchedebomjmehaaVxLoop
namespace Go.Proofs.Ytchedebomjmehaa.Vx
open Go Go.RowKit
set_option linter.unusedVariables false
set_option linter.unusedSimpArgs false
set_option maxRecDepth 100000
set_option maxHeartbeats 400000
abbrev LC := List (Ty.den TCl)
abbrev El (l : LC) (i : Int) : Ty.den TCl := List.getD l (Int.toNat i) (Ty.dflt TCl)
/-- A call that puts a frame. -/
def Hit (x : Ty.den TCl) (ch c e a b : Int) : Prop :=
  Int.tmod (IntKind.wrap .i64 (Int.tmod (Prod.fst x) (6 : Int) + (6 : Int))) (6 : Int) < 3 ∧ Prod.fst (Prod.snd x) = ch ∧
  (Prod.fst (Prod.snd (Prod.snd x)) = c ∧ Prod.fst (Prod.snd (Prod.snd (Prod.snd x))) = e ∧ Prod.fst (Prod.snd (Prod.snd (Prod.snd (Prod.snd x)))) = a ∧ Prod.snd (Prod.snd (Prod.snd (Prod.snd (Prod.snd x)))) = b)
theorem goodEq {r : Option (Nat × List Dat)} {y : Nat × List Dat} (h : Good (fun z => z = y) r) : r = some y := by
  obtain ⟨z, e, rfl⟩ := h; exact e
theorem good_t' {α : Type} {p : α → Prop} {c : Bool} {t e : Tree α} (h : c = true) (g : Good p t.sel) : Good p (Tree.node c t e).sel := by subst h; exact g
theorem good_f' {α : Type} {p : α → Prop} {c : Bool} {t e : Tree α} (h : c = false) (g : Good p e.sel) : Good p (Tree.node c t e).sel := by subst h; exact g
theorem bfI {x y : Int} (h : (x == y) = false) (k : x = y) : False := by subst k; simp at h
theorem frI {a b c d x y z u : Int} (h : (a == x && (b == y && (c == z && (d == u && true) && true))) = false) (k : a = x ∧ b = y ∧ c = z ∧ d = u) : False := by
  obtain ⟨rfl, rfl, rfl, rfl⟩ := k; simp at h
theorem find26 (s : LC) (ch c e a b : Int) (hs : s.length ≤ 200) (k0 : Int) (h0 : 0 ≤ k0) (hh : ∃ j : Int, k0 ≤ j ∧ j < s.length ∧ Hit (El s j) ch c e a b) :
    op_L26_2 [.k 0, .l TCl s, .n ch, .n k0, .n c, .n e, .n a, .n b] = some (1, [.b true]) := by
  apply goodEq
  refine op_L26_2_good (fun env => ∃ k : Int, env = [.k 0, .l TCl s, .n ch, .n k, .n c, .n e, .n a, .n b] ∧ 0 ≤ k ∧ ∃ j : Int, k ≤ j ∧ j < s.length ∧ Hit (El s j) ch c e a b)
    (fun env => (200 - gn env 3).toNat) ?_ _ ⟨k0, rfl, h0, hh⟩ (by show (200 - k0).toNat < FU; unfold FU; omega)
  rintro env ⟨k, rfl, hk, j, hj1, hj2, hj3⟩
  have w : IntKind.wrap .i64 (k + 1) = k + 1 := w64 (by omega) (by omega)
  refine (fn_L26_2_t_im s ch k c e a b).good ?_
  unfold fn_L26_2_t
  refine good_node (fun _ => ?_) (fun q => absurd (of_decide_eq_false q) (by omega))
  refine good_node (fun _ => ?_) (fun q => by rw [inR_true hk (by omega)] at q; cases q)
  have next : ¬ Hit (El s k) ch c e a b → Good (fun y => match y with | .go e' => (∃ k : Int, e' = [.k 0, .l TCl s, .n ch, .n k, .n c, .n e, .n a, .n b] ∧ 0 ≤ k ∧ ∃ j : Int, k ≤ j ∧ j < s.length ∧ Hit (El s j) ch c e a b) ∧ (200 - gn e' 3).toNat < (200 - gn [.k 0, .l TCl s, .n ch, .n k, .n c, .n e, .n a, .n b] 3).toNat | .stop q d => (q, d) = (1, [Dat.b true])) (some (Step.go [.k 0, .l TCl s, .n ch, .n (IntKind.wrap .i64 (k + 1)), .n c, .n e, .n a, .n b])) := by
    intro hn
    rw [w]
    refine ⟨_, rfl, ⟨k + 1, rfl, by omega, j, ?_, hj2, hj3⟩, ?_⟩
    · by_cases q : k < j
      · omega
      · have : j = k := by omega
        subst this; exact absurd hj3 hn
    · show (200 - (k + 1)).toNat < (200 - k).toNat
      omega
  refine good_node (fun q1 => ?_) (fun q1 => next fun hx => absurd hx.1 (of_decide_eq_false q1))
  refine good_node (fun q2 => ?_) (fun q2 => next fun hx => bfI q2 hx.2.1)
  refine good_node (fun q3 => ?_) (fun q3 => next fun hx => frI q3 hx.2.2)
  exact good_leaf rfl
theorem put26 (s : LC) (ch c e a b : Int) (hs : s.length ≤ 200) (hh : ∃ j : Int, 0 ≤ j ∧ j < s.length ∧ Hit (El s j) ch c e a b) : op_26 [.l TCl s, .n ch, .n c, .n e, .n a, .n b] = some (0, [.b true]) := by
  apply goodEq
  refine op_26_good (fn_26_t_im s ch c e a b) ?_
  unfold fn_26_t
  have e := find26 s ch c e a b hs 0 (by omega) hh
  refine good_f' ?_ (good_t' ?_ (good_leaf ?_))
  · erw [e]; rfl
  · erw [e]; rfl
  · erw [e]; rfl
/-- Put by a channel, from a call on, ahead of another one. -/
def Was (l : LC) (f i : Int) (ch c e a b : Int) : Prop := ∃ j : Int, f ≤ j ∧ j < i ∧ Hit (El l j) ch c e a b
theorem Was.more {l : LC} {f i ch c e a b : Int} (h : Was l f i ch c e a b) : Was l f (i + 1) ch c e a b := by
  obtain ⟨j, h1, h2, h3⟩ := h; exact ⟨j, h1, by omega, h3⟩
theorem was26 {l : LC} {f i ch c e a b : Int} (hl : l.length ≤ 200) (h0 : 0 ≤ f) (hi : i < l.length) (h : Was l f (i + 1) ch c e a b) :
    op_26 [.l TCl (List.drop (Int.toNat f) (List.take (Int.toNat (i + 1)) l)), .n ch, .n c, .n e, .n a, .n b] = some (0, [.b true]) := by
  obtain ⟨j, h1, h2, h3⟩ := h
  refine put26 _ _ _ _ _ _ (by rw [List.length_drop, List.length_take]; omega) ⟨j - f, by omega, ?_, ?_⟩
  · rw [List.length_drop, List.length_take]; omega
  · have : El (List.drop (Int.toNat f) (List.take (Int.toNat (i + 1)) l)) (j - f) = El l j := by
      unfold El
      rw [List.getD_eq_getElem?_getD, List.getD_eq_getElem?_getD, List.getElem?_drop, List.getElem?_take, if_pos (by omega)]
      congr 2
      omega
    rw [this]; exact h3
end Go.Proofs.Ytchedebomjmehaa.Vx
