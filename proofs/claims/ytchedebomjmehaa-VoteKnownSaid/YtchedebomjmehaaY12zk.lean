import Derived.Test.YtchedebomjmehaaX12bk
import Derived.KernelRfl
import Derived.Test.YtchedebomjmehaaVxLoop
namespace Go.Proofs.Ytchedebomjmehaa.Vx.Bo
open Go Go.RowKit
set_option linter.unusedVariables false
set_option linter.unusedSimpArgs false
set_option maxRecDepth 100000
set_option maxHeartbeats 0
noncomputable def fn_L4_8_x0 : List Dat → Tree Step
  | [.l (Ty.pair (Ty.int IntKind.i64) (Ty.pair (Ty.int IntKind.i64) (Ty.pair (Ty.int IntKind.i64) (Ty.pair (Ty.int IntKind.i64) (Ty.pair (Ty.int IntKind.u64) (Ty.int IntKind.u32)))))) l0, .n n1, .n n2, .n n3, .b b4] =>
    (.leaf (Step.stop 0 [.n n2, .b b4, .n n2]))
  | _ => .bad 0
theorem fn_L4_8_x0_im (l0 : List (Ty.den (Ty.pair (Ty.int IntKind.i64) (Ty.pair (Ty.int IntKind.i64) (Ty.pair (Ty.int IntKind.i64) (Ty.pair (Ty.int IntKind.i64) (Ty.pair (Ty.int IntKind.u64) (Ty.int IntKind.u32)))))))) (n1 : Int) (n2 : Int) (n3 : Int) (b4 : Bool) (g0 : n3 = (l0.length : Int)) : Imp (fn_L4_8_x0 [.l (Ty.pair (Ty.int IntKind.i64) (Ty.pair (Ty.int IntKind.i64) (Ty.pair (Ty.int IntKind.i64) (Ty.pair (Ty.int IntKind.i64) (Ty.pair (Ty.int IntKind.u64) (Ty.int IntKind.u32)))))) l0, .n n1, .n n2, .n n3, .b b4]) (st_L4_8 [.k 0, .l TCl l0, .n n1, .n n2, .b b4, .n n3, .b b4, .n n2]) :=
(.path [1] (by kernel_rfl)
(.pf (c := (decide (n3 < (↑(List.length l0) : Int)))) (by kernel_rfl) (by kernel_rfl) (by (simp [*]; done))
(.path [1] (by kernel_rfl)
(.leaf (by kernel_rfl)))))

noncomputable def fn_L4_8_x1 : List Dat → Tree Step
  | [.l (Ty.pair (Ty.int IntKind.i64) (Ty.pair (Ty.int IntKind.i64) (Ty.pair (Ty.int IntKind.i64) (Ty.pair (Ty.int IntKind.i64) (Ty.pair (Ty.int IntKind.u64) (Ty.int IntKind.u32)))))) l0, .n n1, .n n2, .n n3, .n n4, .n n5, .n n6, .n n7] =>
    (.leaf (Step.stop 1 [.n n2, .b false, .n n2]))
  | _ => .bad 0
theorem fn_L4_8_x1_im (l0 : List (Ty.den (Ty.pair (Ty.int IntKind.i64) (Ty.pair (Ty.int IntKind.i64) (Ty.pair (Ty.int IntKind.i64) (Ty.pair (Ty.int IntKind.i64) (Ty.pair (Ty.int IntKind.u64) (Ty.int IntKind.u32)))))))) (n1 : Int) (n2 : Int) (n3 : Int) (n4 : Int) (n5 : Int) (n6 : Int) (n7 : Int) (g0 : n3 = (l0.length : Int)) : Imp (fn_L4_8_x1 [.l (Ty.pair (Ty.int IntKind.i64) (Ty.pair (Ty.int IntKind.i64) (Ty.pair (Ty.int IntKind.i64) (Ty.pair (Ty.int IntKind.i64) (Ty.pair (Ty.int IntKind.u64) (Ty.int IntKind.u32)))))) l0, .n n1, .n n2, .n n3, .n n4, .n n5, .n n6, .n n7]) (st_L4_8 [.k 1, .l TCl l0, .n n1, .n n2, .b false, .n n3, .b false, .n n2, .n n4, .n n5, .n n6, .n n7]) :=
(.path [1] (by kernel_rfl)
(.pf (c := (decide (n3 < (↑(List.length l0) : Int)))) (by kernel_rfl) (by kernel_rfl) (by (simp [*]; done))
(.path [1] (by kernel_rfl)
(.leaf (by kernel_rfl)))))

noncomputable def fn_L4_8_x2 : List Dat → Tree Step
  | [.l (Ty.pair (Ty.int IntKind.i64) (Ty.pair (Ty.int IntKind.i64) (Ty.pair (Ty.int IntKind.i64) (Ty.pair (Ty.int IntKind.i64) (Ty.pair (Ty.int IntKind.u64) (Ty.int IntKind.u32)))))) l0, .n n1, .n n2, .n n3, .n n4, .n n5, .n n6, .n n7] =>
    (.leaf (Step.stop 1 [.n n2, .b false, .n n2]))
  | _ => .bad 0
theorem fn_L4_8_x2_im (l0 : List (Ty.den (Ty.pair (Ty.int IntKind.i64) (Ty.pair (Ty.int IntKind.i64) (Ty.pair (Ty.int IntKind.i64) (Ty.pair (Ty.int IntKind.i64) (Ty.pair (Ty.int IntKind.u64) (Ty.int IntKind.u32)))))))) (n1 : Int) (n2 : Int) (n3 : Int) (n4 : Int) (n5 : Int) (n6 : Int) (n7 : Int) (g0 : n3 = (l0.length : Int)) : Imp (fn_L4_8_x2 [.l (Ty.pair (Ty.int IntKind.i64) (Ty.pair (Ty.int IntKind.i64) (Ty.pair (Ty.int IntKind.i64) (Ty.pair (Ty.int IntKind.i64) (Ty.pair (Ty.int IntKind.u64) (Ty.int IntKind.u32)))))) l0, .n n1, .n n2, .n n3, .n n4, .n n5, .n n6, .n n7]) (st_L4_8 [.k 2, .l TCl l0, .n n1, .n n2, .b false, .n n3, .b false, .n n2, .n n4, .n n5, .n n6, .n n7]) :=
(.path [1] (by kernel_rfl)
(.pf (c := (decide (n3 < (↑(List.length l0) : Int)))) (by kernel_rfl) (by kernel_rfl) (by (simp [*]; done))
(.path [1] (by kernel_rfl)
(.leaf (by kernel_rfl)))))

noncomputable def fn_L4_8_x3 : List Dat → Tree Step
  | [.l (Ty.pair (Ty.int IntKind.i64) (Ty.pair (Ty.int IntKind.i64) (Ty.pair (Ty.int IntKind.i64) (Ty.pair (Ty.int IntKind.i64) (Ty.pair (Ty.int IntKind.u64) (Ty.int IntKind.u32)))))) l0, .n n1, .n n2, .n n3, .n n4, .n n5, .n n6] =>
    (.leaf (Step.stop 1 [.n n2, .b false, .n n2]))
  | _ => .bad 0
theorem fn_L4_8_x3_im (l0 : List (Ty.den (Ty.pair (Ty.int IntKind.i64) (Ty.pair (Ty.int IntKind.i64) (Ty.pair (Ty.int IntKind.i64) (Ty.pair (Ty.int IntKind.i64) (Ty.pair (Ty.int IntKind.u64) (Ty.int IntKind.u32)))))))) (n1 : Int) (n2 : Int) (n3 : Int) (n4 : Int) (n5 : Int) (n6 : Int) (g0 : n3 = (l0.length : Int)) : Imp (fn_L4_8_x3 [.l (Ty.pair (Ty.int IntKind.i64) (Ty.pair (Ty.int IntKind.i64) (Ty.pair (Ty.int IntKind.i64) (Ty.pair (Ty.int IntKind.i64) (Ty.pair (Ty.int IntKind.u64) (Ty.int IntKind.u32)))))) l0, .n n1, .n n2, .n n3, .n n4, .n n5, .n n6]) (st_L4_8 [.k 3, .l TCl l0, .n n1, .n n2, .b false, .n n3, .b false, .n n2, .n n2, .n n4, .n n5, .n n6]) :=
(.path [1] (by kernel_rfl)
(.pf (c := (decide (n3 < (↑(List.length l0) : Int)))) (by kernel_rfl) (by kernel_rfl) (by (simp [*]; done))
(.path [1] (by kernel_rfl)
(.leaf (by kernel_rfl)))))

noncomputable def fn_L4_8_x4 : List Dat → Tree Step
  | [.l (Ty.pair (Ty.int IntKind.i64) (Ty.pair (Ty.int IntKind.i64) (Ty.pair (Ty.int IntKind.i64) (Ty.pair (Ty.int IntKind.i64) (Ty.pair (Ty.int IntKind.u64) (Ty.int IntKind.u32)))))) l0, .n n1, .n n2, .n n3, .n n4, .n n5, .n n6, .n n7, .n n8, .n n9, .n n10] =>
    (.leaf (Step.stop 2 [.n n2, .b false, .n n2]))
  | _ => .bad 0
theorem fn_L4_8_x4_im (l0 : List (Ty.den (Ty.pair (Ty.int IntKind.i64) (Ty.pair (Ty.int IntKind.i64) (Ty.pair (Ty.int IntKind.i64) (Ty.pair (Ty.int IntKind.i64) (Ty.pair (Ty.int IntKind.u64) (Ty.int IntKind.u32)))))))) (n1 : Int) (n2 : Int) (n3 : Int) (n4 : Int) (n5 : Int) (n6 : Int) (n7 : Int) (n8 : Int) (n9 : Int) (n10 : Int) (g0 : n3 = (l0.length : Int)) : Imp (fn_L4_8_x4 [.l (Ty.pair (Ty.int IntKind.i64) (Ty.pair (Ty.int IntKind.i64) (Ty.pair (Ty.int IntKind.i64) (Ty.pair (Ty.int IntKind.i64) (Ty.pair (Ty.int IntKind.u64) (Ty.int IntKind.u32)))))) l0, .n n1, .n n2, .n n3, .n n4, .n n5, .n n6, .n n7, .n n8, .n n9, .n n10]) (st_L4_8 [.k 4, .l TCl l0, .n n1, .n n2, .b false, .n n3, .b false, .n n2, .n n4, .n n5, .n n6, .n n7, .n n2, .n n8, .n n9, .n n10]) :=
(.path [1] (by kernel_rfl)
(.pf (c := (decide (n3 < (↑(List.length l0) : Int)))) (by kernel_rfl) (by kernel_rfl) (by (simp [*]; done))
(.path [1] (by kernel_rfl)
(.leaf (by kernel_rfl)))))

noncomputable def fn_L4_8_x5 : List Dat → Tree Step
  | [.l (Ty.pair (Ty.int IntKind.i64) (Ty.pair (Ty.int IntKind.i64) (Ty.pair (Ty.int IntKind.i64) (Ty.pair (Ty.int IntKind.i64) (Ty.pair (Ty.int IntKind.u64) (Ty.int IntKind.u32)))))) l0, .n n1, .n n2, .n n3, .n n4, .n n5, .n n6, .n n7, .n n8, .n n9, .n n10] =>
    (.leaf (Step.stop 2 [.n n2, .b false, .n n2]))
  | _ => .bad 0
theorem fn_L4_8_x5_im (l0 : List (Ty.den (Ty.pair (Ty.int IntKind.i64) (Ty.pair (Ty.int IntKind.i64) (Ty.pair (Ty.int IntKind.i64) (Ty.pair (Ty.int IntKind.i64) (Ty.pair (Ty.int IntKind.u64) (Ty.int IntKind.u32)))))))) (n1 : Int) (n2 : Int) (n3 : Int) (n4 : Int) (n5 : Int) (n6 : Int) (n7 : Int) (n8 : Int) (n9 : Int) (n10 : Int) (g0 : n3 = (l0.length : Int)) : Imp (fn_L4_8_x5 [.l (Ty.pair (Ty.int IntKind.i64) (Ty.pair (Ty.int IntKind.i64) (Ty.pair (Ty.int IntKind.i64) (Ty.pair (Ty.int IntKind.i64) (Ty.pair (Ty.int IntKind.u64) (Ty.int IntKind.u32)))))) l0, .n n1, .n n2, .n n3, .n n4, .n n5, .n n6, .n n7, .n n8, .n n9, .n n10]) (st_L4_8 [.k 5, .l TCl l0, .n n1, .n n2, .b false, .n n3, .b false, .n n2, .n n4, .n n5, .n n6, .n n7, .n n2, .n n8, .n n9, .n n10]) :=
(.path [1] (by kernel_rfl)
(.pf (c := (decide (n3 < (↑(List.length l0) : Int)))) (by kernel_rfl) (by kernel_rfl) (by (simp [*]; done))
(.path [1] (by kernel_rfl)
(.leaf (by kernel_rfl)))))

end Go.Proofs.Ytchedebomjmehaa.Vx.Bo
namespace Go.Proofs.Ytchedebomjmehaa.Vx.Bo
open Go Go.RowKit
set_option linter.unusedVariables false
set_option linter.unusedSimpArgs false
set_option maxRecDepth 100000
set_option maxHeartbeats 400000
abbrev LC := List (Ty.den TCl)
abbrev El (l : LC) (i : Int) : Ty.den TCl := List.getD l (Int.toNat i) (Ty.dflt TCl)
/-- A call that puts a frame. -/
def Hit (x : Ty.den TCl) (ch c e a b : Int) : Prop :=
  Int.tmod (IntKind.wrap .i64 (Int.tmod (Prod.fst x) (6 : Int) + (6 : Int))) (6 : Int) < 3 ∧ Prod.fst (Prod.snd x) = ch ∧
  (Prod.fst (Prod.snd (Prod.snd x)) = c ∧ Prod.fst (Prod.snd (Prod.snd (Prod.snd x))) = e ∧ Prod.fst (Prod.snd (Prod.snd (Prod.snd (Prod.snd x)))) = a ∧ Prod.snd (Prod.snd (Prod.snd (Prod.snd (Prod.snd x)))) = b)
theorem goodEq {r : Option (Nat × List Dat)} {y : Nat × List Dat} (h : Good (fun z => z = y) r) : r = some y := by
  obtain ⟨z, e, rfl⟩ := h; exact e
theorem good_t' {α : Type} {p : α → Prop} {c : Bool} {t e : Tree α} (h : c = true) (g : Good p t.sel) : Good p (Tree.node c t e).sel := by subst h; exact g
theorem good_f' {α : Type} {p : α → Prop} {c : Bool} {t e : Tree α} (h : c = false) (g : Good p e.sel) : Good p (Tree.node c t e).sel := by subst h; exact g
theorem bfI {x y : Int} (h : (x == y) = false) (k : x = y) : False := by subst k; simp at h
theorem frI {a b c d x y z u : Int} (h : (a == x && (b == y && (c == z && (d == u && true) && true))) = false) (k : a = x ∧ b = y ∧ c = z ∧ d = u) : False := by
  obtain ⟨rfl, rfl, rfl, rfl⟩ := k; simp at h
theorem find26 (s : LC) (ch c e a b : Int) (hs : s.length ≤ 200) (k0 : Int) (h0 : 0 ≤ k0) (hh : ∃ j : Int, k0 ≤ j ∧ j < s.length ∧ Hit (El s j) ch c e a b) :
    op_L26_2 [.k 0, .l TCl s, .n ch, .n k0, .n c, .n e, .n a, .n b] = some (1, [.b true]) := by
  apply goodEq
  refine op_L26_2_good (fun env => ∃ k : Int, env = [.k 0, .l TCl s, .n ch, .n k, .n c, .n e, .n a, .n b] ∧ 0 ≤ k ∧ ∃ j : Int, k ≤ j ∧ j < s.length ∧ Hit (El s j) ch c e a b)
    (fun env => (200 - gn env 3).toNat) ?_ _ ⟨k0, rfl, h0, hh⟩ (by show (200 - k0).toNat < FU; unfold FU; omega)
  rintro env ⟨k, rfl, hk, j, hj1, hj2, hj3⟩
  have w : IntKind.wrap .i64 (k + 1) = k + 1 := w64 (by omega) (by omega)
  refine (fn_L26_2_t_im s ch k c e a b).good ?_
  unfold fn_L26_2_t
  refine good_node (fun _ => ?_) (fun q => absurd (of_decide_eq_false q) (by omega))
  refine good_node (fun _ => ?_) (fun q => by rw [inR_true hk (by omega)] at q; cases q)
  have next : ¬ Hit (El s k) ch c e a b → Good (fun y => match y with | .go e' => (∃ k : Int, e' = [.k 0, .l TCl s, .n ch, .n k, .n c, .n e, .n a, .n b] ∧ 0 ≤ k ∧ ∃ j : Int, k ≤ j ∧ j < s.length ∧ Hit (El s j) ch c e a b) ∧ (200 - gn e' 3).toNat < (200 - gn [.k 0, .l TCl s, .n ch, .n k, .n c, .n e, .n a, .n b] 3).toNat | .stop q d => (q, d) = (1, [Dat.b true])) (some (Step.go [.k 0, .l TCl s, .n ch, .n (IntKind.wrap .i64 (k + 1)), .n c, .n e, .n a, .n b])) := by
    intro hn
    rw [w]
    refine ⟨_, rfl, ⟨k + 1, rfl, by omega, j, ?_, hj2, hj3⟩, ?_⟩
    · by_cases q : k < j
      · omega
      · have : j = k := by omega
        subst this; exact absurd hj3 hn
    · show (200 - (k + 1)).toNat < (200 - k).toNat
      omega
  refine good_node (fun q1 => ?_) (fun q1 => next fun hx => absurd hx.1 (of_decide_eq_false q1))
  refine good_node (fun q2 => ?_) (fun q2 => next fun hx => bfI q2 hx.2.1)
  refine good_node (fun q3 => ?_) (fun q3 => next fun hx => frI q3 hx.2.2)
  exact good_leaf rfl
theorem put26 (s : LC) (ch c e a b : Int) (hs : s.length ≤ 200) (hh : ∃ j : Int, 0 ≤ j ∧ j < s.length ∧ Hit (El s j) ch c e a b) : op_26 [.l TCl s, .n ch, .n c, .n e, .n a, .n b] = some (0, [.b true]) := by
  apply goodEq
  refine op_26_good (fn_26_t_im s ch c e a b) ?_
  unfold fn_26_t
  have e := find26 s ch c e a b hs 0 (by omega) hh
  refine good_f' ?_ (good_t' ?_ (good_leaf ?_))
  · erw [e]; rfl
  · erw [e]; rfl
  · erw [e]; rfl
/-- Put by a channel, from a call on, ahead of another one. -/
def Was (l : LC) (f i : Int) (ch c e a b : Int) : Prop := ∃ j : Int, f ≤ j ∧ j < i ∧ Hit (El l j) ch c e a b
theorem Was.more {l : LC} {f i ch c e a b : Int} (h : Was l f i ch c e a b) : Was l f (i + 1) ch c e a b := by
  obtain ⟨j, h1, h2, h3⟩ := h; exact ⟨j, h1, by omega, h3⟩
theorem was26 {l : LC} {f i ch c e a b : Int} (hl : l.length ≤ 200) (h0 : 0 ≤ f) (hi : i < l.length) (h : Was l f (i + 1) ch c e a b) :
    op_26 [.l TCl (List.drop (Int.toNat f) (List.take (Int.toNat (i + 1)) l)), .n ch, .n c, .n e, .n a, .n b] = some (0, [.b true]) := by
  obtain ⟨j, h1, h2, h3⟩ := h
  refine put26 _ _ _ _ _ _ (by rw [List.length_drop, List.length_take]; omega) ⟨j - f, by omega, ?_, ?_⟩
  · rw [List.length_drop, List.length_take]; omega
  · have : El (List.drop (Int.toNat f) (List.take (Int.toNat (i + 1)) l)) (j - f) = El l j := by
      unfold El
      rw [List.getD_eq_getElem?_getD, List.getD_eq_getElem?_getD, List.getElem?_drop, List.getElem?_take, if_pos (by omega)]
      congr 2
      omega
    rw [this]; exact h3
end Go.Proofs.Ytchedebomjmehaa.Vx.Bo
namespace Go.Proofs.Ytchedebomjmehaa.Vx.Bo
open Go Go.RowKit
set_option linter.unusedVariables false
set_option linter.unusedSimpArgs false
set_option maxRecDepth 100000
set_option maxHeartbeats 0
theorem good_t {α : Type} {p : α → Prop} {c : Bool} {t e : Tree α} (h : c = true) (g : Good p t.sel) : Good p (Tree.node c t e).sel := by subst h; exact g
theorem good_f {α : Type} {p : α → Prop} {c : Bool} {t e : Tree α} (h : c = false) (g : Good p e.sel) : Good p (Tree.node c t e).sel := by subst h; exact g
abbrev kd (x : Ty.den TCl) : Int := Int.tmod (IntKind.wrap .i64 (Int.tmod (Prod.fst x) (6 : Int) + (6 : Int))) (6 : Int)
theorem pick6 (k : Int) : 0 ≤ Int.tmod (IntKind.wrap .i64 (Int.tmod k 6 + 6)) 6 ∧ Int.tmod (IntKind.wrap .i64 (Int.tmod k 6 + 6)) 6 < 6 := by
  have h := tmod_in (i := k) (n := 6) (by omega)
  rw [w64 (by omega) (by omega), Int.tmod_eq_emod_of_nonneg (by omega)]
  omega
abbrev envB (j : Nat) (l : LC) (f n i : Int) (st : Bool) : List Dat := [.k j, .l TCl l, .n f, .n n, .b st, .n i, .b st, .n n]
def InvB (l : LC) (i : Int) (env : List Dat) : Prop := ∃ f n : Int, 0 ≤ f ∧ f ≤ i ∧ (
  (∃ st, env = envB 0 l f n i st) ∨
  (∃ c e a b, env = envB 1 l f n i false ++ [.n c, .n e, .n a, .n b] ∧ Was l f i 0 c e a b) ∨
  (∃ c e a b, env = envB 2 l f n i false ++ [.n c, .n e, .n a, .n b] ∧ Was l f i 1 c e a b) ∨
  (∃ e a b, env = envB 3 l f n i false ++ [.n n, .n e, .n a, .n b] ∧ Was l f i 0 n e a b ∧ Was l f i 1 n e a b) ∨
  (∃ x y z u e a b, env = envB 4 l f n i false ++ [.n x, .n y, .n z, .n u, .n n, .n e, .n a, .n b] ∧ Was l f i 0 x y z u ∧ Was l f i 0 n e a b ∧ Was l f i 1 n e a b) ∨
  (∃ x y z u e a b, env = envB 5 l f n i false ++ [.n x, .n y, .n z, .n u, .n n, .n e, .n a, .n b] ∧ Was l f i 1 x y z u ∧ Was l f i 0 n e a b ∧ Was l f i 1 n e a b))
def StepB (l : LC) (i : Int) : Step → Prop
  | .go e => InvB l (i + 1) e
  | .stop k d => False
section
variable {l : LC} {i f n : Int}
theorem inv0 (h0 : 0 ≤ f) (h1 : f ≤ i + 1) (st : Bool) : InvB l (i + 1) (envB 0 l f n (i + 1) st) := ⟨f, n, h0, h1, .inl ⟨st, rfl⟩⟩
theorem inv1 (h0 : 0 ≤ f) (h1 : f ≤ i + 1) {c e a b : Int} (h : Was l f (i + 1) 0 c e a b) : InvB l (i + 1) (envB 1 l f n (i + 1) false ++ [.n c, .n e, .n a, .n b]) := ⟨f, n, h0, h1, .inr (.inl ⟨_, _, _, _, rfl, h⟩)⟩
theorem inv2 (h0 : 0 ≤ f) (h1 : f ≤ i + 1) {c e a b : Int} (h : Was l f (i + 1) 1 c e a b) : InvB l (i + 1) (envB 2 l f n (i + 1) false ++ [.n c, .n e, .n a, .n b]) := ⟨f, n, h0, h1, .inr (.inr (.inl ⟨_, _, _, _, rfl, h⟩))⟩
theorem inv3 (h0 : 0 ≤ f) (h1 : f ≤ i + 1) {e a b : Int} (h : Was l f (i + 1) 0 n e a b) (k : Was l f (i + 1) 1 n e a b) : InvB l (i + 1) (envB 3 l f n (i + 1) false ++ [.n n, .n e, .n a, .n b]) := ⟨f, n, h0, h1, .inr (.inr (.inr (.inl ⟨_, _, _, rfl, h, k⟩)))⟩
theorem inv4 (h0 : 0 ≤ f) (h1 : f ≤ i + 1) {x y z u e a b : Int} (g : Was l f (i + 1) 0 x y z u) (h : Was l f (i + 1) 0 n e a b) (k : Was l f (i + 1) 1 n e a b) : InvB l (i + 1) (envB 4 l f n (i + 1) false ++ [.n x, .n y, .n z, .n u, .n n, .n e, .n a, .n b]) := ⟨f, n, h0, h1, .inr (.inr (.inr (.inr (.inl ⟨_, _, _, _, _, _, _, rfl, g, h, k⟩))))⟩
theorem inv5 (h0 : 0 ≤ f) (h1 : f ≤ i + 1) {x y z u e a b : Int} (g : Was l f (i + 1) 1 x y z u) (h : Was l f (i + 1) 0 n e a b) (k : Was l f (i + 1) 1 n e a b) : InvB l (i + 1) (envB 5 l f n (i + 1) false ++ [.n x, .n y, .n z, .n u, .n n, .n e, .n a, .n b]) := ⟨f, n, h0, h1, .inr (.inr (.inr (.inr (.inr ⟨_, _, _, _, _, _, _, rfl, g, h, k⟩))))⟩
/-- What this call puts. -/
theorem now {ch : Int} (h1 : f ≤ i) (h3 : ¬ kd (El l i) = 3) (h4 : ¬ kd (El l i) = 4) (h5 : ¬ kd (El l i) = 5) (hc : Prod.fst (Prod.snd (El l i)) = ch) :
    Was l f (i + 1) ch (Prod.fst (Prod.snd (Prod.snd (El l i)))) (Prod.fst (Prod.snd (Prod.snd (Prod.snd (El l i))))) (Prod.fst (Prod.snd (Prod.snd (Prod.snd (Prod.snd (El l i)))))) (Prod.snd (Prod.snd (Prod.snd (Prod.snd (Prod.snd (El l i)))))) := by
  have := pick6 (Prod.fst (El l i))
  exact ⟨i, h1, by omega, by unfold kd at h3 h4 h5; omega, hc, rfl, rfl, rfl, rfl⟩
end
theorem k_t {r : Option (Nat × List Dat)} (h : r = some (0, [.b true])) : isK 0 [HK.b] r = true := by rw [h]; rfl
theorem k_b {r : Option (Nat × List Dat)} (h : r = some (0, [.b true])) : (!gb (dOf r) 0) = false := by rw [h]; rfl
theorem fr_eq {a b c d x y z u : Int} (h : (!(a == x && (b == y && (c == z && (d == u && true) && true)))) = false) : a = x ∧ b = y ∧ c = z ∧ d = u := by simpa using h
theorem le_no {x y : Int} (h : decide (x ≤ y) = false) (k : x = y) : False := by
  have := of_decide_eq_false h; omega
theorem Was.as {l : LC} {f i ch a b c d x y z u : Int} (h : Was l f i ch a b c d) (k : a = x ∧ b = y ∧ c = z ∧ d = u) : Was l f i ch x y z u := by
  obtain ⟨rfl, rfl, rfl, rfl⟩ := k; exact h
theorem odt {x y : Int} (h : decide (x = y) = true) : x = y := of_decide_eq_true h
theorem eq3 {x k : Int} (h : (x == k) = false) : ¬ x = k := by simpa using h
theorem stepB0 {l : LC} {i f n : Int} (h0 : 0 ≤ f) (h1 : f ≤ i) (hi : i < l.length) (hl : l.length ≤ 200) (st : Bool) : Good (StepB l i) (st_L4_8 (envB 0 l f n i st)).sel := by
  have w : IntKind.wrap .i64 (i + 1) = i + 1 := w64 (by omega) (by omega)
  refine Imp.good (fn_L4_8_t0_im l f n i st h0 h1 hi hl) ?_
  unfold fn_L4_8_t0
  dsimp only
  rw [w]
  refine good_node (fun q0 => ?_) (fun q0 => ?_)
  ·
    refine good_node (fun q1 => ?_) (fun q1 => ?_)
    ·
      exact good_leaf (inv0 h0 (by omega) _)
    ·
      exact good_leaf (inv0 h0 (by omega) _)
  ·
    refine good_node (fun q2 => ?_) (fun q2 => ?_)
    ·
      exact good_leaf (inv0 (f := i) (by omega) (by omega) _)
    ·
      refine good_node (fun q3 => ?_) (fun q3 => ?_)
      ·
        exact good_leaf (inv0 (f := i) (by omega) (by omega) _)
      ·
        refine good_node (fun q4 => ?_) (fun q4 => ?_)
        ·
          refine good_node (fun q5 => ?_) (fun q5 => ?_)
          ·
            exact good_leaf (inv0 h0 (by omega) _)
          ·
            exact good_leaf (inv0 h0 (by omega) _)
        ·
          refine good_node (fun q6 => ?_) (fun q6 => ?_)
          ·
            refine good_node (fun q7 => ?_) (fun q7 => ?_)
            ·
              exact good_leaf (inv0 h0 (by omega) _)
            ·
              exact good_leaf (inv0 h0 (by omega) _)
          ·
            refine good_node (fun q8 => ?_) (fun q8 => ?_)
            ·
              refine good_node (fun q9 => ?_) (fun q9 => ?_)
              ·
                exact good_leaf (inv0 h0 (by omega) _)
              ·
                refine good_node (fun q10 => ?_) (fun q10 => ?_)
                ·
                  refine good_node (fun q11 => ?_) (fun q11 => ?_)
                  ·
                    exact good_leaf (inv0 h0 (by omega) _)
                  ·
                    subst q9; exact good_leaf (inv1 h0 (by omega) (now h1 (eq3 q0) (eq3 q2) (eq3 q3) (odt q10)))
                ·
                  refine good_node (fun q12 => ?_) (fun q12 => ?_)
                  ·
                    refine good_node (fun q13 => ?_) (fun q13 => ?_)
                    ·
                      exact good_leaf (inv0 h0 (by omega) _)
                    ·
                      subst q9; exact good_leaf (inv2 h0 (by omega) (now h1 (eq3 q0) (eq3 q2) (eq3 q3) (odt q12)))
                  ·
                    exfalso; simp only [w64d, decide_eq_true_eq, decide_eq_false_iff_not, ge_iff_le] at q4 q6 q8 q10 q12; omega
            ·
              refine good_node (fun q14 => ?_) (fun q14 => ?_)
              ·
                refine good_node (fun q15 => ?_) (fun q15 => ?_)
                ·
                  exact good_leaf (inv0 h0 (by omega) _)
                ·
                  refine good_node (fun q16 => ?_) (fun q16 => ?_)
                  ·
                    refine good_node (fun q17 => ?_) (fun q17 => ?_)
                    ·
                      exact good_leaf (inv0 h0 (by omega) _)
                    ·
                      subst q15; exact good_leaf (inv1 h0 (by omega) (now h1 (eq3 q0) (eq3 q2) (eq3 q3) (odt q16)))
                  ·
                    refine good_node (fun q18 => ?_) (fun q18 => ?_)
                    ·
                      refine good_node (fun q19 => ?_) (fun q19 => ?_)
                      ·
                        exact good_leaf (inv0 h0 (by omega) _)
                      ·
                        subst q15; exact good_leaf (inv2 h0 (by omega) (now h1 (eq3 q0) (eq3 q2) (eq3 q3) (odt q18)))
                    ·
                      exfalso; simp only [w64d, decide_eq_true_eq, decide_eq_false_iff_not, ge_iff_le] at q4 q6 q8 q14 q16 q18; omega
              ·
                exfalso; simp only [w64d, decide_eq_true_eq, decide_eq_false_iff_not, ge_iff_le] at q4 q6 q8 q14; omega
theorem stepB1 {l : LC} {i f n : Int} (h0 : 0 ≤ f) (h1 : f ≤ i) (hi : i < l.length) (hl : l.length ≤ 200) (c e a b : Int) (h : Was l f i 0 c e a b) : Good (StepB l i) (st_L4_8 (envB 1 l f n i false ++ [.n c, .n e, .n a, .n b])).sel := by
  have w : IntKind.wrap .i64 (i + 1) = i + 1 := w64 (by omega) (by omega)
  refine Imp.good (fn_L4_8_t1_im l f n i c e a b h0 h1 hi hl) ?_
  unfold fn_L4_8_t1
  dsimp only
  rw [w]
  refine good_node (fun q0 => ?_) (fun q0 => ?_)
  ·
    exact good_leaf (inv0 h0 (by omega) _)
  ·
    refine good_node (fun q1 => ?_) (fun q1 => ?_)
    ·
      exact good_leaf (inv0 (f := i) (by omega) (by omega) _)
    ·
      refine good_node (fun q2 => ?_) (fun q2 => ?_)
      ·
        exact good_leaf (inv0 (f := i) (by omega) (by omega) _)
      ·
        refine good_node (fun q3 => ?_) (fun q3 => ?_)
        ·
          exact good_leaf (inv1 h0 (by omega) h.more)
        ·
          refine good_node (fun q4 => ?_) (fun q4 => ?_)
          ·
            exact good_leaf (inv1 h0 (by omega) h.more)
          ·
            refine good_node (fun q5 => ?_) (fun q5 => ?_)
            ·
              refine good_node (fun q6 => ?_) (fun q6 => ?_)
              ·
                exact good_leaf (inv0 h0 (by omega) _)
              ·
                refine good_node (fun q7 => ?_) (fun q7 => ?_)
                ·
                  refine good_node (fun q8 => ?_) (fun q8 => ?_)
                  ·
                    exact good_leaf (inv0 h0 (by omega) _)
                  ·
                    refine good_node (fun q9 => ?_) (fun q9 => ?_)
                    ·
                      exact good_leaf (inv0 h0 (by omega) _)
                    ·
                      refine good_t (k_t (was26 hl h0 hi (h.more.as (fr_eq q9)))) ?_
                      refine good_f (k_b (was26 hl h0 hi (h.more.as (fr_eq q9)))) ?_
                      refine good_t (k_t (was26 hl h0 hi (now h1 (eq3 q0) (eq3 q1) (eq3 q2) (odt q7)))) ?_
                      refine good_f (k_b (was26 hl h0 hi (now h1 (eq3 q0) (eq3 q1) (eq3 q2) (odt q7)))) ?_
                      refine good_node (fun q10 => ?_) (fun q10 => ?_)
                      ·
                        exfalso; simp only [w64d, decide_eq_true_eq, decide_eq_false_iff_not, ge_iff_le] at q3 q4 q5 q6 q7 q8 q10; omega
                      ·
                        exact good_leaf (inv3 h0 (by omega) (h.more.as (fr_eq q9)) (now h1 (eq3 q0) (eq3 q1) (eq3 q2) (odt q7)))
                ·
                  exfalso; simp only [w64d, decide_eq_true_eq, decide_eq_false_iff_not, ge_iff_le] at q3 q4 q5 q6 q7; omega
            ·
              refine good_node (fun q11 => ?_) (fun q11 => ?_)
              ·
                refine good_node (fun q12 => ?_) (fun q12 => ?_)
                ·
                  exact good_leaf (inv0 h0 (by omega) _)
                ·
                  refine good_node (fun q13 => ?_) (fun q13 => ?_)
                  ·
                    refine good_node (fun q14 => ?_) (fun q14 => ?_)
                    ·
                      exact good_leaf (inv0 h0 (by omega) _)
                    ·
                      exfalso; simp only [w64d, decide_eq_true_eq, decide_eq_false_iff_not, ge_iff_le] at q3 q4 q5 q11 q12 q13 q14; omega
                  ·
                    exfalso; simp only [w64d, decide_eq_true_eq, decide_eq_false_iff_not, ge_iff_le] at q3 q4 q5 q11 q12 q13; omega
              ·
                exfalso; simp only [w64d, decide_eq_true_eq, decide_eq_false_iff_not, ge_iff_le] at q3 q4 q5 q11; omega
theorem stepB2 {l : LC} {i f n : Int} (h0 : 0 ≤ f) (h1 : f ≤ i) (hi : i < l.length) (hl : l.length ≤ 200) (c e a b : Int) (h : Was l f i 1 c e a b) : Good (StepB l i) (st_L4_8 (envB 2 l f n i false ++ [.n c, .n e, .n a, .n b])).sel := by
  have w : IntKind.wrap .i64 (i + 1) = i + 1 := w64 (by omega) (by omega)
  refine Imp.good (fn_L4_8_t2_im l f n i c e a b h0 h1 hi hl) ?_
  unfold fn_L4_8_t2
  dsimp only
  rw [w]
  refine good_node (fun q0 => ?_) (fun q0 => ?_)
  ·
    exact good_leaf (inv0 h0 (by omega) _)
  ·
    refine good_node (fun q1 => ?_) (fun q1 => ?_)
    ·
      exact good_leaf (inv0 (f := i) (by omega) (by omega) _)
    ·
      refine good_node (fun q2 => ?_) (fun q2 => ?_)
      ·
        exact good_leaf (inv0 (f := i) (by omega) (by omega) _)
      ·
        refine good_node (fun q3 => ?_) (fun q3 => ?_)
        ·
          exact good_leaf (inv2 h0 (by omega) h.more)
        ·
          refine good_node (fun q4 => ?_) (fun q4 => ?_)
          ·
            exact good_leaf (inv2 h0 (by omega) h.more)
          ·
            refine good_node (fun q5 => ?_) (fun q5 => ?_)
            ·
              refine good_node (fun q6 => ?_) (fun q6 => ?_)
              ·
                refine good_node (fun q7 => ?_) (fun q7 => ?_)
                ·
                  exact good_leaf (inv0 h0 (by omega) _)
                ·
                  exfalso; simp only [w64d, decide_eq_true_eq, decide_eq_false_iff_not, ge_iff_le] at q3 q4 q5 q6 q7; omega
              ·
                refine good_node (fun q8 => ?_) (fun q8 => ?_)
                ·
                  exact good_leaf (inv0 h0 (by omega) _)
                ·
                  exfalso; simp only [w64d, decide_eq_true_eq, decide_eq_false_iff_not, ge_iff_le] at q3 q4 q5 q6 q8; omega
            ·
              refine good_node (fun q9 => ?_) (fun q9 => ?_)
              ·
                refine good_node (fun q10 => ?_) (fun q10 => ?_)
                ·
                  refine good_node (fun q11 => ?_) (fun q11 => ?_)
                  ·
                    exact good_leaf (inv0 h0 (by omega) _)
                  ·
                    refine good_node (fun q12 => ?_) (fun q12 => ?_)
                    ·
                      exact good_leaf (inv0 h0 (by omega) _)
                    ·
                      refine good_t (k_t (was26 hl h0 hi (now h1 (eq3 q0) (eq3 q1) (eq3 q2) (odt q10)))) ?_
                      refine good_f (k_b (was26 hl h0 hi (now h1 (eq3 q0) (eq3 q1) (eq3 q2) (odt q10)))) ?_
                      refine good_t (k_t (was26 hl h0 hi (h.more.as (fr_eq q12)))) ?_
                      refine good_f (k_b (was26 hl h0 hi (h.more.as (fr_eq q12)))) ?_
                      refine good_node (fun q13 => ?_) (fun q13 => ?_)
                      ·
                        exfalso; simp only [w64d, decide_eq_true_eq, decide_eq_false_iff_not, ge_iff_le] at q3 q4 q5 q9 q10 q11 q13; omega
                      ·
                        exact good_leaf (inv3 h0 (by omega) (now h1 (eq3 q0) (eq3 q1) (eq3 q2) (odt q10)) (h.more.as (fr_eq q12)))
                ·
                  refine good_node (fun q14 => ?_) (fun q14 => ?_)
                  ·
                    exact good_leaf (inv0 h0 (by omega) _)
                  ·
                    exfalso; simp only [w64d, decide_eq_true_eq, decide_eq_false_iff_not, ge_iff_le] at q3 q4 q5 q9 q10 q14; omega
              ·
                exfalso; simp only [w64d, decide_eq_true_eq, decide_eq_false_iff_not, ge_iff_le] at q3 q4 q5 q9; omega
theorem stepB3 {l : LC} {i f n : Int} (h0 : 0 ≤ f) (h1 : f ≤ i) (hi : i < l.length) (hl : l.length ≤ 200) (e a b : Int) (h : Was l f i 0 n e a b) (k : Was l f i 1 n e a b) : Good (StepB l i) (st_L4_8 (envB 3 l f n i false ++ [.n n, .n e, .n a, .n b])).sel := by
  have w : IntKind.wrap .i64 (i + 1) = i + 1 := w64 (by omega) (by omega)
  refine Imp.good (fn_L4_8_t3_im l f n i e a b h0 h1 hi hl) ?_
  unfold fn_L4_8_t3
  dsimp only
  rw [w]
  refine good_node (fun q0 => ?_) (fun q0 => ?_)
  ·
    refine good_t (k_t (was26 hl h0 hi h.more)) ?_
    refine good_f (k_b (was26 hl h0 hi h.more)) ?_
    refine good_t (k_t (was26 hl h0 hi k.more)) ?_
    refine good_f (k_b (was26 hl h0 hi k.more)) ?_
    exact good_leaf (inv3 h0 (by omega) h.more k.more)
  ·
    refine good_node (fun q1 => ?_) (fun q1 => ?_)
    ·
      exact good_leaf (inv0 (f := i) (by omega) (by omega) _)
    ·
      refine good_node (fun q2 => ?_) (fun q2 => ?_)
      ·
        exact good_leaf (inv0 (f := i) (by omega) (by omega) _)
      ·
        refine good_node (fun q3 => ?_) (fun q3 => ?_)
        ·
          refine good_t (k_t (was26 hl h0 hi h.more)) ?_
          refine good_f (k_b (was26 hl h0 hi h.more)) ?_
          refine good_t (k_t (was26 hl h0 hi k.more)) ?_
          refine good_f (k_b (was26 hl h0 hi k.more)) ?_
          exact good_leaf (inv3 h0 (by omega) h.more k.more)
        ·
          refine good_node (fun q4 => ?_) (fun q4 => ?_)
          ·
            refine good_t (k_t (was26 hl h0 hi h.more)) ?_
            refine good_f (k_b (was26 hl h0 hi h.more)) ?_
            refine good_t (k_t (was26 hl h0 hi k.more)) ?_
            refine good_f (k_b (was26 hl h0 hi k.more)) ?_
            exact good_leaf (inv3 h0 (by omega) h.more k.more)
          ·
            refine good_node (fun q5 => ?_) (fun q5 => ?_)
            ·
              refine good_node (fun q6 => ?_) (fun q6 => ?_)
              ·
                refine good_node (fun q7 => ?_) (fun q7 => ?_)
                ·
                  exact good_leaf (inv0 h0 (by omega) _)
                ·
                  refine good_t (k_t (was26 hl h0 hi h.more)) ?_
                  refine good_f (k_b (was26 hl h0 hi h.more)) ?_
                  refine good_t (k_t (was26 hl h0 hi k.more)) ?_
                  refine good_f (k_b (was26 hl h0 hi k.more)) ?_
                  exact good_leaf (inv4 h0 (by omega) (now h1 (eq3 q0) (eq3 q1) (eq3 q2) (odt q6)) h.more k.more)
              ·
                refine good_node (fun q8 => ?_) (fun q8 => ?_)
                ·
                  refine good_node (fun q9 => ?_) (fun q9 => ?_)
                  ·
                    exact good_leaf (inv0 h0 (by omega) _)
                  ·
                    refine good_t (k_t (was26 hl h0 hi h.more)) ?_
                    refine good_f (k_b (was26 hl h0 hi h.more)) ?_
                    refine good_t (k_t (was26 hl h0 hi k.more)) ?_
                    refine good_f (k_b (was26 hl h0 hi k.more)) ?_
                    exact good_leaf (inv5 h0 (by omega) (now h1 (eq3 q0) (eq3 q1) (eq3 q2) (odt q8)) h.more k.more)
                ·
                  exfalso; simp only [w64d, decide_eq_true_eq, decide_eq_false_iff_not, ge_iff_le] at q3 q4 q5 q6 q8; omega
            ·
              refine good_node (fun q10 => ?_) (fun q10 => ?_)
              ·
                refine good_node (fun q11 => ?_) (fun q11 => ?_)
                ·
                  refine good_node (fun q12 => ?_) (fun q12 => ?_)
                  ·
                    exact good_leaf (inv0 h0 (by omega) _)
                  ·
                    refine good_t (k_t (was26 hl h0 hi h.more)) ?_
                    refine good_f (k_b (was26 hl h0 hi h.more)) ?_
                    refine good_t (k_t (was26 hl h0 hi k.more)) ?_
                    refine good_f (k_b (was26 hl h0 hi k.more)) ?_
                    exact good_leaf (inv4 h0 (by omega) (now h1 (eq3 q0) (eq3 q1) (eq3 q2) (odt q11)) h.more k.more)
                ·
                  refine good_node (fun q13 => ?_) (fun q13 => ?_)
                  ·
                    refine good_node (fun q14 => ?_) (fun q14 => ?_)
                    ·
                      exact good_leaf (inv0 h0 (by omega) _)
                    ·
                      refine good_t (k_t (was26 hl h0 hi h.more)) ?_
                      refine good_f (k_b (was26 hl h0 hi h.more)) ?_
                      refine good_t (k_t (was26 hl h0 hi k.more)) ?_
                      refine good_f (k_b (was26 hl h0 hi k.more)) ?_
                      exact good_leaf (inv5 h0 (by omega) (now h1 (eq3 q0) (eq3 q1) (eq3 q2) (odt q13)) h.more k.more)
                  ·
                    exfalso; simp only [w64d, decide_eq_true_eq, decide_eq_false_iff_not, ge_iff_le] at q3 q4 q5 q10 q11 q13; omega
              ·
                exfalso; simp only [w64d, decide_eq_true_eq, decide_eq_false_iff_not, ge_iff_le] at q3 q4 q5 q10; omega
theorem stepB4 {l : LC} {i f n : Int} (h0 : 0 ≤ f) (h1 : f ≤ i) (hi : i < l.length) (hl : l.length ≤ 200) (x y z u e a b : Int) (g : Was l f i 0 x y z u) (h : Was l f i 0 n e a b) (k : Was l f i 1 n e a b) : Good (StepB l i) (st_L4_8 (envB 4 l f n i false ++ [.n x, .n y, .n z, .n u, .n n, .n e, .n a, .n b])).sel := by
  have w : IntKind.wrap .i64 (i + 1) = i + 1 := w64 (by omega) (by omega)
  refine Imp.good (fn_L4_8_t4_im l f n i x y z u e a b h0 h1 hi hl) ?_
  unfold fn_L4_8_t4
  dsimp only
  rw [w]
  refine good_node (fun q0 => ?_) (fun q0 => ?_)
  ·
    exact good_leaf (inv0 h0 (by omega) _)
  ·
    refine good_node (fun q1 => ?_) (fun q1 => ?_)
    ·
      exact good_leaf (inv0 (f := i) (by omega) (by omega) _)
    ·
      refine good_node (fun q2 => ?_) (fun q2 => ?_)
      ·
        exact good_leaf (inv0 (f := i) (by omega) (by omega) _)
      ·
        refine good_node (fun q3 => ?_) (fun q3 => ?_)
        ·
          refine good_t (k_t (was26 hl h0 hi h.more)) ?_
          refine good_f (k_b (was26 hl h0 hi h.more)) ?_
          refine good_t (k_t (was26 hl h0 hi k.more)) ?_
          refine good_f (k_b (was26 hl h0 hi k.more)) ?_
          exact good_leaf (inv4 h0 (by omega) g.more h.more k.more)
        ·
          refine good_node (fun q4 => ?_) (fun q4 => ?_)
          ·
            refine good_t (k_t (was26 hl h0 hi h.more)) ?_
            refine good_f (k_b (was26 hl h0 hi h.more)) ?_
            refine good_t (k_t (was26 hl h0 hi k.more)) ?_
            refine good_f (k_b (was26 hl h0 hi k.more)) ?_
            exact good_leaf (inv4 h0 (by omega) g.more h.more k.more)
          ·
            refine good_node (fun q5 => ?_) (fun q5 => ?_)
            ·
              refine good_node (fun q6 => ?_) (fun q6 => ?_)
              ·
                exact good_leaf (inv0 h0 (by omega) _)
              ·
                refine good_node (fun q7 => ?_) (fun q7 => ?_)
                ·
                  refine good_node (fun q8 => ?_) (fun q8 => ?_)
                  ·
                    exact good_leaf (inv0 h0 (by omega) _)
                  ·
                    refine good_node (fun q9 => ?_) (fun q9 => ?_)
                    ·
                      exact good_leaf (inv0 h0 (by omega) _)
                    ·
                      refine good_t (k_t (was26 hl h0 hi (g.more.as (fr_eq q9)))) ?_
                      refine good_f (k_b (was26 hl h0 hi (g.more.as (fr_eq q9)))) ?_
                      refine good_t (k_t (was26 hl h0 hi (now h1 (eq3 q0) (eq3 q1) (eq3 q2) (odt q7)))) ?_
                      refine good_f (k_b (was26 hl h0 hi (now h1 (eq3 q0) (eq3 q1) (eq3 q2) (odt q7)))) ?_
                      refine good_node (fun q10 => ?_) (fun q10 => ?_)
                      ·
                        refine good_node (fun q11 => ?_) (fun q11 => ?_)
                        ·
                          exfalso; simp only [w64d, decide_eq_true_eq, decide_eq_false_iff_not, ge_iff_le] at q3 q4 q5 q6 q7 q8 q11; omega
                        ·
                          exact good_leaf (inv3 h0 (by omega) (g.more.as (fr_eq q9)) (now h1 (eq3 q0) (eq3 q1) (eq3 q2) (odt q7)))
                      ·
                        exact (le_no q8 (fr_eq q10).1).elim
                ·
                  exfalso; simp only [w64d, decide_eq_true_eq, decide_eq_false_iff_not, ge_iff_le] at q3 q4 q5 q6 q7; omega
            ·
              refine good_node (fun q12 => ?_) (fun q12 => ?_)
              ·
                refine good_node (fun q13 => ?_) (fun q13 => ?_)
                ·
                  exact good_leaf (inv0 h0 (by omega) _)
                ·
                  refine good_node (fun q14 => ?_) (fun q14 => ?_)
                  ·
                    refine good_node (fun q15 => ?_) (fun q15 => ?_)
                    ·
                      exact good_leaf (inv0 h0 (by omega) _)
                    ·
                      refine good_t (k_t (was26 hl h0 hi h.more)) ?_
                      refine good_f (k_b (was26 hl h0 hi h.more)) ?_
                      refine good_t (k_t (was26 hl h0 hi k.more)) ?_
                      refine good_f (k_b (was26 hl h0 hi k.more)) ?_
                      exfalso; simp only [w64d, decide_eq_true_eq, decide_eq_false_iff_not, ge_iff_le] at q3 q4 q5 q12 q13 q14 q15; omega
                  ·
                    exfalso; simp only [w64d, decide_eq_true_eq, decide_eq_false_iff_not, ge_iff_le] at q3 q4 q5 q12 q13 q14; omega
              ·
                exfalso; simp only [w64d, decide_eq_true_eq, decide_eq_false_iff_not, ge_iff_le] at q3 q4 q5 q12; omega
theorem stepB5 {l : LC} {i f n : Int} (h0 : 0 ≤ f) (h1 : f ≤ i) (hi : i < l.length) (hl : l.length ≤ 200) (x y z u e a b : Int) (g : Was l f i 1 x y z u) (h : Was l f i 0 n e a b) (k : Was l f i 1 n e a b) : Good (StepB l i) (st_L4_8 (envB 5 l f n i false ++ [.n x, .n y, .n z, .n u, .n n, .n e, .n a, .n b])).sel := by
  have w : IntKind.wrap .i64 (i + 1) = i + 1 := w64 (by omega) (by omega)
  refine Imp.good (fn_L4_8_t5_im l f n i x y z u e a b h0 h1 hi hl) ?_
  unfold fn_L4_8_t5
  dsimp only
  rw [w]
  refine good_node (fun q0 => ?_) (fun q0 => ?_)
  ·
    exact good_leaf (inv0 h0 (by omega) _)
  ·
    refine good_node (fun q1 => ?_) (fun q1 => ?_)
    ·
      exact good_leaf (inv0 (f := i) (by omega) (by omega) _)
    ·
      refine good_node (fun q2 => ?_) (fun q2 => ?_)
      ·
        exact good_leaf (inv0 (f := i) (by omega) (by omega) _)
      ·
        refine good_node (fun q3 => ?_) (fun q3 => ?_)
        ·
          refine good_t (k_t (was26 hl h0 hi h.more)) ?_
          refine good_f (k_b (was26 hl h0 hi h.more)) ?_
          refine good_t (k_t (was26 hl h0 hi k.more)) ?_
          refine good_f (k_b (was26 hl h0 hi k.more)) ?_
          exact good_leaf (inv5 h0 (by omega) g.more h.more k.more)
        ·
          refine good_node (fun q4 => ?_) (fun q4 => ?_)
          ·
            refine good_t (k_t (was26 hl h0 hi h.more)) ?_
            refine good_f (k_b (was26 hl h0 hi h.more)) ?_
            refine good_t (k_t (was26 hl h0 hi k.more)) ?_
            refine good_f (k_b (was26 hl h0 hi k.more)) ?_
            exact good_leaf (inv5 h0 (by omega) g.more h.more k.more)
          ·
            refine good_node (fun q5 => ?_) (fun q5 => ?_)
            ·
              refine good_node (fun q6 => ?_) (fun q6 => ?_)
              ·
                refine good_node (fun q7 => ?_) (fun q7 => ?_)
                ·
                  exact good_leaf (inv0 h0 (by omega) _)
                ·
                  refine good_t (k_t (was26 hl h0 hi h.more)) ?_
                  refine good_f (k_b (was26 hl h0 hi h.more)) ?_
                  refine good_t (k_t (was26 hl h0 hi k.more)) ?_
                  refine good_f (k_b (was26 hl h0 hi k.more)) ?_
                  exfalso; simp only [w64d, decide_eq_true_eq, decide_eq_false_iff_not, ge_iff_le] at q3 q4 q5 q6 q7; omega
              ·
                refine good_node (fun q8 => ?_) (fun q8 => ?_)
                ·
                  exact good_leaf (inv0 h0 (by omega) _)
                ·
                  exfalso; simp only [w64d, decide_eq_true_eq, decide_eq_false_iff_not, ge_iff_le] at q3 q4 q5 q6 q8; omega
            ·
              refine good_node (fun q9 => ?_) (fun q9 => ?_)
              ·
                refine good_node (fun q10 => ?_) (fun q10 => ?_)
                ·
                  refine good_node (fun q11 => ?_) (fun q11 => ?_)
                  ·
                    exact good_leaf (inv0 h0 (by omega) _)
                  ·
                    refine good_node (fun q12 => ?_) (fun q12 => ?_)
                    ·
                      exact good_leaf (inv0 h0 (by omega) _)
                    ·
                      refine good_t (k_t (was26 hl h0 hi (now h1 (eq3 q0) (eq3 q1) (eq3 q2) (odt q10)))) ?_
                      refine good_f (k_b (was26 hl h0 hi (now h1 (eq3 q0) (eq3 q1) (eq3 q2) (odt q10)))) ?_
                      refine good_t (k_t (was26 hl h0 hi (g.more.as (fr_eq q12)))) ?_
                      refine good_f (k_b (was26 hl h0 hi (g.more.as (fr_eq q12)))) ?_
                      refine good_node (fun q13 => ?_) (fun q13 => ?_)
                      ·
                        refine good_node (fun q14 => ?_) (fun q14 => ?_)
                        ·
                          exfalso; simp only [w64d, decide_eq_true_eq, decide_eq_false_iff_not, ge_iff_le] at q3 q4 q5 q9 q10 q11 q14; omega
                        ·
                          exact good_leaf (inv3 h0 (by omega) (now h1 (eq3 q0) (eq3 q1) (eq3 q2) (odt q10)) (g.more.as (fr_eq q12)))
                      ·
                        exact (le_no q11 (fr_eq q13).1).elim
                ·
                  refine good_node (fun q15 => ?_) (fun q15 => ?_)
                  ·
                    exact good_leaf (inv0 h0 (by omega) _)
                  ·
                    exfalso; simp only [w64d, decide_eq_true_eq, decide_eq_false_iff_not, ge_iff_le] at q3 q4 q5 q9 q10 q15; omega
              ·
                exfalso; simp only [w64d, decide_eq_true_eq, decide_eq_false_iff_not, ge_iff_le] at q3 q4 q5 q9; omega
end Go.Proofs.Ytchedebomjmehaa.Vx.Bo
namespace Go.Proofs.Ytchedebomjmehaa.Vx.Bo
open Go Go.RowKit
set_option linter.unusedVariables false
set_option linter.unusedSimpArgs false
set_option maxRecDepth 100000
set_option maxHeartbeats 0
def Last4 (y : Nat × List Dat) : Prop := ∃ st n, y = (0, [.n n, .b st, .n n]) ∨ y = (1, [.n n, .b st, .n n]) ∨ y = (2, [.n n, .b st, .n n])
def Inv4 (l : LC) (env : List Dat) : Prop := ∃ i : Int, 0 ≤ i ∧ i ≤ l.length ∧ InvB l i env
theorem at4 {l : LC} {i : Int} {env : List Dat} (h : InvB l i env) : gn env 5 = i := by
  obtain ⟨f, n, h0, h1, hI⟩ := h
  rcases hI with ⟨st, rfl⟩ | ⟨c, e, a, b, rfl, h⟩ | ⟨c, e, a, b, rfl, h⟩ | ⟨e, a, b, rfl, h, k⟩ | ⟨x, y, z, u, e, a, b, rfl, g, h, k⟩ | ⟨x, y, z, u, e, a, b, rfl, g, h, k⟩ <;> rfl
theorem key4 (l : LC) (hl : l.length ≤ 200) (env : List Dat) (hi : Inv4 l env) : Good (fun y => match y with | .go e => Inv4 l e ∧ (l.length - gn e 5).toNat < (l.length - gn env 5).toNat | .stop k d => Last4 (k, d)) (st_L4_8 env).sel := by
  obtain ⟨i, a0, a1, hI⟩ := hi
  rw [at4 hI]
  by_cases hlt : i < l.length
  · have fin : Good (StepB l i) (st_L4_8 env).sel := by
      obtain ⟨f, n, h0, h1, hI⟩ := hI
      rcases hI with ⟨st, rfl⟩ | ⟨c, e, a, b, rfl, h⟩ | ⟨c, e, a, b, rfl, h⟩ | ⟨e, a, b, rfl, h, k⟩ | ⟨x, y, z, u, e, a, b, rfl, g, h, k⟩ | ⟨x, y, z, u, e, a, b, rfl, g, h, k⟩
      · exact stepB0 h0 h1 hlt hl st
      · exact stepB1 h0 h1 hlt hl c e a b h
      · exact stepB2 h0 h1 hlt hl c e a b h
      · exact stepB3 h0 h1 hlt hl e a b h k
      · exact stepB4 h0 h1 hlt hl x y z u e a b g h k
      · exact stepB5 h0 h1 hlt hl x y z u e a b g h k
    obtain ⟨y, e, hy⟩ := fin
    refine ⟨y, e, ?_⟩
    cases y with
    | stop k d => exact hy.elim
    | go e' =>
      have hy : InvB l (i + 1) e' := hy
      refine ⟨⟨i + 1, by omega, by omega, hy⟩, ?_⟩
      show ((l.length : Int) - gn e' 5).toNat < _
      rw [at4 hy]; omega
  · have hd : i = (l.length : Int) := by omega
    obtain ⟨f, n, h0, h1, hI⟩ := hI
    rcases hI with ⟨st, rfl⟩ | ⟨c, e, a, b, rfl, h⟩ | ⟨c, e, a, b, rfl, h⟩ | ⟨e, a, b, rfl, h, k⟩ | ⟨x, y, z, u, e, a, b, rfl, g, h, k⟩ | ⟨x, y, z, u, e, a, b, rfl, g, h, k⟩
    · exact Imp.good (fn_L4_8_x0_im l f n i st hd) (good_leaf ⟨_, _, .inl rfl⟩)
    · exact Imp.good (fn_L4_8_x1_im l f n i c e a b hd) (good_leaf ⟨_, _, .inr (.inl rfl)⟩)
    · exact Imp.good (fn_L4_8_x2_im l f n i c e a b hd) (good_leaf ⟨_, _, .inr (.inl rfl)⟩)
    · exact Imp.good (fn_L4_8_x3_im l f n i e a b hd) (good_leaf ⟨_, _, .inr (.inl rfl)⟩)
    · exact Imp.good (fn_L4_8_x4_im l f n i x y z u e a b hd) (good_leaf ⟨_, _, .inr (.inr rfl)⟩)
    · exact Imp.good (fn_L4_8_x5_im l f n i x y z u e a b hd) (good_leaf ⟨_, _, .inr (.inr rfl)⟩)
theorem run4 (l : LC) (hl : l.length ≤ 200) : ∃ y, op_L4_8 [.k 0, .l TCl l, .n 0, .n 0, .b false, .n 0, .b false, .n 0] = some y ∧ Last4 y :=
  op_L4_8_good (p := Last4) (Inv4 l) (fun env => (l.length - gn env 5).toNat) (key4 l hl) _ ⟨0, by omega, by omega, 0, 0, by omega, by omega, .inl ⟨false, rfl⟩⟩ (by show ((l.length : Int) - 0).toNat < FU; unfold FU; omega)
theorem t4 (l : LC) : (ev_W4 [.l TCl l]).sel = some true := by
  obtain ⟨y, e, hy⟩ : Good (fun y => y = true) (ev_W4 [.l TCl l]).sel := by
    refine (fn_W4_t_im l).good ?_
    unfold fn_W4_t
    refine good_node (fun _ => good_leaf rfl) (fun q => ?_)
    have h2 : l.length ≤ 200 := by have := of_decide_eq_false q; omega
    obtain ⟨y, e, st, n, hy⟩ := run4 l h2
    erw [e]
    rcases hy with rfl | rfl | rfl
    · exact good_t rfl (good_t (beq_self_eq_true n) (good_leaf rfl))
    · exact good_f rfl (good_t rfl (good_t (beq_self_eq_true n) (good_leaf rfl)))
    · exact good_f rfl (good_f rfl (good_t rfl (good_t (beq_self_eq_true n) (good_leaf rfl))))
  rw [e, hy]
end Go.Proofs.Ytchedebomjmehaa.Vx.Bo
