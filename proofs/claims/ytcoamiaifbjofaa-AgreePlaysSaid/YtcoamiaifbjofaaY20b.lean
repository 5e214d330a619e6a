import Derived.Test.YtcoamiaifbjofaaX20t011
import Derived.Test.YtcoamiaifbjofaaX20t101
import Derived.Test.YtcoamiaifbjofaaX20t111
import Derived.Test.YtcoamiaifbjofaaY20a
namespace Go.Proofs.Ytcoamiaifbjofaa.Vx
open Go Go.RowKit
set_option linter.unusedVariables false
set_option linter.unusedSimpArgs false
set_option maxRecDepth 100000
set_option maxHeartbeats 0
attribute [local irreducible] op_29 op_30 op_31 op_32 op_62
abbrev LR := List (Ty.den TCall)
theorem e62 (l : LC) (h : l.length ≤ 1000) : op_62 [.l TCmd l] = some (0, [.l TCmd l]) := op_62_is l (by omega)
theorem e31 (a b c : Int) (l : LC) (d e f : Int) (m : LC) (h : l.length ≤ 20) : op_31 [.n a, .n b, .n c, .l TCmd l, .n d, .n e, .n f, .l TCmd m] = some (0, [.n (ior .u64 a d), .n (iand .u32 b e), .n (iand .u32 c f), .l TCmd (mg l m)]) := u31 a b c d e f l m (by omega)
theorem e32 (a b c : Int) (l : LC) (d e f : Int) (m : LC) (h : l.length ≤ 20) : op_32 [.n a, .n b, .n c, .l TCmd l, .n d, .n e, .n f, .l TCmd m] = some (0, [.n (ior .u64 a d), .n (iand .u32 b e), .n (iand .u32 c f), .l TCmd (mg l m)]) := u32_ a b c d e f l m (by omega)
theorem nil20 : ([] : LC).length ≤ 20 := Nat.zero_le _
theorem up {n : Nat} (h : n ≤ 20) : n ≤ 1000 := by omega
theorem mgl {a b : LC} (h : a.length ≤ 20) : (mg a b).length ≤ 1000 := Nat.le_trans (mg_len a b) (up h)
abbrev e000 (l0 : LR) (n1 : Int) (n2 : Int) (n3 : Int) (b4 : Bool) (n5 : Int) (n6 : Int) (n7 : Int) (l8 : LC) (n9 : Int) (n10 : Int) (n11 : Int) (l12 : LC) (n13 : Int) (n14 : Int) (n15 : Int) (l16 : LC) (n17 : Int) (n18 : Int) : List Dat := [.k 0, .l TCall l0, .n n1, .n n2, .n n3, .b b4, .n n2, .n n3, .b false, .n n5, .n n6, .n n7, .l TCmd l8, .b false, .n n9, .n n10, .n n11, .l TCmd l12, .b false, .n n17, .n n18, .n n13, .n n14, .n n15, .l TCmd l16, .b b4]
abbrev e001 (l0 : LR) (n1 : Int) (n2 : Int) (n3 : Int) (b4 : Bool) (n5 : Int) (n6 : Int) (n7 : Int) (l8 : LC) (n9 : Int) (n10 : Int) (n11 : Int) (l12 : LC) (n13 : Int) (n14 : Int) (n15 : Int) (l16 : LC) (n17 : Int) (n18 : Int) : List Dat := [.k 1, .l TCall l0, .n n1, .n n2, .n n3, .b b4, .n n2, .n n3, .b false, .n n5, .n n6, .n n7, .l TCmd l8, .b false, .n n9, .n n10, .n n11, .l TCmd l12, .b true, .n n17, .n n18, .n n13, .n n14, .n n15, .l TCmd l16, .b b4, .n n17, .n n18, .n n13, .n n14, .n n15, .l TCmd l16]
abbrev e010 (l0 : LR) (n1 : Int) (n2 : Int) (n3 : Int) (b4 : Bool) (n5 : Int) (n6 : Int) (n7 : Int) (l8 : LC) (n9 : Int) (n10 : Int) (n11 : Int) (l12 : LC) (n13 : Int) (n14 : Int) (n15 : Int) (l16 : LC) (n17 : Int) (n18 : Int) (n19 : Int) : List Dat := [.k 2, .l TCall l0, .n n1, .n n2, .n n3, .b b4, .n n2, .n n3, .b false, .n n5, .n n6, .n n7, .l TCmd l8, .b true, .n n9, .n n10, .n n11, .l TCmd l12, .b false, .n n17, .n n18, .n n13, .n n14, .n n15, .l TCmd l16, .b b4, .n n19, .n n3, .n n9, .n n10, .n n11, .l TCmd l12]
abbrev e011 (l0 : LR) (n1 : Int) (n2 : Int) (n3 : Int) (b4 : Bool) (n5 : Int) (n6 : Int) (n7 : Int) (l8 : LC) (n9 : Int) (n10 : Int) (n11 : Int) (l12 : LC) (n13 : Int) (n14 : Int) (n15 : Int) (l16 : LC) (n17 : Int) (n18 : Int) (n19 : Int) : List Dat := [.k 3, .l TCall l0, .n n1, .n n2, .n n3, .b b4, .n n2, .n n3, .b false, .n n5, .n n6, .n n7, .l TCmd l8, .b true, .n n9, .n n10, .n n11, .l TCmd l12, .b true, .n n17, .n n18, .n n13, .n n14, .n n15, .l TCmd l16, .b b4, .n n19, .n n3, .n n9, .n n10, .n n11, .l TCmd l12, .n n17, .n n18, .n n13, .n n14, .n n15, .l TCmd l16]
abbrev e100 (l0 : LR) (n1 : Int) (n2 : Int) (n3 : Int) (b4 : Bool) (n5 : Int) (n6 : Int) (n7 : Int) (l8 : LC) (n9 : Int) (n10 : Int) (n11 : Int) (l12 : LC) (n13 : Int) (n14 : Int) (n15 : Int) (l16 : LC) (n17 : Int) (n18 : Int) (n19 : Int) (n20 : Int) : List Dat := [.k 4, .l TCall l0, .n n1, .n n2, .n n3, .b b4, .n n2, .n n3, .b true, .n n5, .n n6, .n n7, .l TCmd l8, .b false, .n n9, .n n10, .n n11, .l TCmd l12, .b false, .n n17, .n n18, .n n13, .n n14, .n n15, .l TCmd l16, .b b4, .n n19, .n n20, .n n5, .n n6, .n n7, .l TCmd l8]
abbrev e101 (l0 : LR) (n1 : Int) (n2 : Int) (n3 : Int) (b4 : Bool) (n5 : Int) (n6 : Int) (n7 : Int) (l8 : LC) (n9 : Int) (n10 : Int) (n11 : Int) (l12 : LC) (n13 : Int) (n14 : Int) (n15 : Int) (l16 : LC) (n17 : Int) (n18 : Int) (n19 : Int) (n20 : Int) : List Dat := [.k 5, .l TCall l0, .n n1, .n n2, .n n3, .b b4, .n n2, .n n3, .b true, .n n5, .n n6, .n n7, .l TCmd l8, .b false, .n n9, .n n10, .n n11, .l TCmd l12, .b true, .n n17, .n n18, .n n13, .n n14, .n n15, .l TCmd l16, .b b4, .n n19, .n n20, .n n5, .n n6, .n n7, .l TCmd l8, .n n17, .n n18, .n n13, .n n14, .n n15, .l TCmd l16]
abbrev e110 (l0 : LR) (n1 : Int) (n2 : Int) (n3 : Int) (b4 : Bool) (n5 : Int) (n6 : Int) (n7 : Int) (l8 : LC) (n9 : Int) (n10 : Int) (n11 : Int) (l12 : LC) (n13 : Int) (n14 : Int) (n15 : Int) (l16 : LC) (n17 : Int) (n18 : Int) (n19 : Int) (n20 : Int) (n21 : Int) : List Dat := [.k 6, .l TCall l0, .n n1, .n n2, .n n3, .b b4, .n n2, .n n3, .b true, .n n5, .n n6, .n n7, .l TCmd l8, .b true, .n n9, .n n10, .n n11, .l TCmd l12, .b false, .n n17, .n n18, .n n13, .n n14, .n n15, .l TCmd l16, .b b4, .n n19, .n n20, .n n5, .n n6, .n n7, .l TCmd l8, .n n21, .n n3, .n n9, .n n10, .n n11, .l TCmd l12]
abbrev e111 (l0 : LR) (n1 : Int) (n2 : Int) (n3 : Int) (b4 : Bool) (n5 : Int) (n6 : Int) (n7 : Int) (l8 : LC) (n9 : Int) (n10 : Int) (n11 : Int) (l12 : LC) (n13 : Int) (n14 : Int) (n15 : Int) (l16 : LC) (n17 : Int) (n18 : Int) (n19 : Int) (n20 : Int) (n21 : Int) : List Dat := [.k 7, .l TCall l0, .n n1, .n n2, .n n3, .b b4, .n n2, .n n3, .b true, .n n5, .n n6, .n n7, .l TCmd l8, .b true, .n n9, .n n10, .n n11, .l TCmd l12, .b true, .n n17, .n n18, .n n13, .n n14, .n n15, .l TCmd l16, .b b4, .n n19, .n n20, .n n5, .n n6, .n n7, .l TCmd l8, .n n21, .n n3, .n n9, .n n10, .n n11, .l TCmd l12, .n n17, .n n18, .n n13, .n n14, .n n15, .l TCmd l16]
def InvP (l0 : LR) (n1 : Int) (env : List Dat) : Prop :=
  (∃ n2 n3 b4 n5 n6 n7 l8 n9 n10 n11 l12 n13 n14 n15 l16 n17 n18, env = e000 l0 n1 n2 n3 b4 n5 n6 n7 l8 n9 n10 n11 l12 n13 n14 n15 l16 n17 n18 ∧ l8.length ≤ 20 ∧ l12.length ≤ 20 ∧ l16.length ≤ 20) ∨
  (∃ n2 n3 b4 n5 n6 n7 l8 n9 n10 n11 l12 n13 n14 n15 l16 n17 n18, env = e001 l0 n1 n2 n3 b4 n5 n6 n7 l8 n9 n10 n11 l12 n13 n14 n15 l16 n17 n18 ∧ l8.length ≤ 20 ∧ l12.length ≤ 20 ∧ l16.length ≤ 20) ∨
  (∃ n2 n3 b4 n5 n6 n7 l8 n9 n10 n11 l12 n13 n14 n15 l16 n17 n18 n19, env = e010 l0 n1 n2 n3 b4 n5 n6 n7 l8 n9 n10 n11 l12 n13 n14 n15 l16 n17 n18 n19 ∧ l8.length ≤ 20 ∧ l12.length ≤ 20 ∧ l16.length ≤ 20) ∨
  (∃ n2 n3 b4 n5 n6 n7 l8 n9 n10 n11 l12 n13 n14 n15 l16 n17 n18 n19, env = e011 l0 n1 n2 n3 b4 n5 n6 n7 l8 n9 n10 n11 l12 n13 n14 n15 l16 n17 n18 n19 ∧ l8.length ≤ 20 ∧ l12.length ≤ 20 ∧ l16.length ≤ 20) ∨
  (∃ n2 n3 b4 n5 n6 n7 l8 n9 n10 n11 l12 n13 n14 n15 l16 n17 n18 n19 n20, env = e100 l0 n1 n2 n3 b4 n5 n6 n7 l8 n9 n10 n11 l12 n13 n14 n15 l16 n17 n18 n19 n20 ∧ l8.length ≤ 20 ∧ l12.length ≤ 20 ∧ l16.length ≤ 20) ∨
  (∃ n2 n3 b4 n5 n6 n7 l8 n9 n10 n11 l12 n13 n14 n15 l16 n17 n18 n19 n20, env = e101 l0 n1 n2 n3 b4 n5 n6 n7 l8 n9 n10 n11 l12 n13 n14 n15 l16 n17 n18 n19 n20 ∧ l8.length ≤ 20 ∧ l12.length ≤ 20 ∧ l16.length ≤ 20) ∨
  (∃ n2 n3 b4 n5 n6 n7 l8 n9 n10 n11 l12 n13 n14 n15 l16 n17 n18 n19 n20 n21, env = e110 l0 n1 n2 n3 b4 n5 n6 n7 l8 n9 n10 n11 l12 n13 n14 n15 l16 n17 n18 n19 n20 n21 ∧ l8.length ≤ 20 ∧ l12.length ≤ 20 ∧ l16.length ≤ 20) ∨
  (∃ n2 n3 b4 n5 n6 n7 l8 n9 n10 n11 l12 n13 n14 n15 l16 n17 n18 n19 n20 n21, env = e111 l0 n1 n2 n3 b4 n5 n6 n7 l8 n9 n10 n11 l12 n13 n14 n15 l16 n17 n18 n19 n20 n21 ∧ l8.length ≤ 20 ∧ l12.length ≤ 20 ∧ l16.length ≤ 20)
def StepP (l0 : LR) (n1 : Int) : Step → Prop
  | .go e => InvP l0 (n1 + 1) e
  | .stop k d => False
theorem i000 {l0 : LR} {n1 i' : Int} {n2 : Int} {n3 : Int} {b4 : Bool} {n5 : Int} {n6 : Int} {n7 : Int} {l8 : LC} {n9 : Int} {n10 : Int} {n11 : Int} {l12 : LC} {n13 : Int} {n14 : Int} {n15 : Int} {l16 : LC} {n17 : Int} {n18 : Int} (hw : i' = n1 + 1) (h0 : l8.length ≤ 20) (h1 : l12.length ≤ 20) (h2 : l16.length ≤ 20) : InvP l0 (n1 + 1) (e000 l0 i' n2 n3 b4 n5 n6 n7 l8 n9 n10 n11 l12 n13 n14 n15 l16 n17 n18) := by subst hw; exact .inl ⟨_, _, _, _, _, _, _, _, _, _, _, _, _, _, _, _, _, rfl, h0, h1, h2⟩
theorem i001 {l0 : LR} {n1 i' : Int} {n2 : Int} {n3 : Int} {b4 : Bool} {n5 : Int} {n6 : Int} {n7 : Int} {l8 : LC} {n9 : Int} {n10 : Int} {n11 : Int} {l12 : LC} {n13 : Int} {n14 : Int} {n15 : Int} {l16 : LC} {n17 : Int} {n18 : Int} (hw : i' = n1 + 1) (h0 : l8.length ≤ 20) (h1 : l12.length ≤ 20) (h2 : l16.length ≤ 20) : InvP l0 (n1 + 1) (e001 l0 i' n2 n3 b4 n5 n6 n7 l8 n9 n10 n11 l12 n13 n14 n15 l16 n17 n18) := by subst hw; exact .inr (.inl ⟨_, _, _, _, _, _, _, _, _, _, _, _, _, _, _, _, _, rfl, h0, h1, h2⟩)
theorem i010 {l0 : LR} {n1 i' : Int} {n2 : Int} {n3 : Int} {b4 : Bool} {n5 : Int} {n6 : Int} {n7 : Int} {l8 : LC} {n9 : Int} {n10 : Int} {n11 : Int} {l12 : LC} {n13 : Int} {n14 : Int} {n15 : Int} {l16 : LC} {n17 : Int} {n18 : Int} {n19 : Int} (hw : i' = n1 + 1) (h0 : l8.length ≤ 20) (h1 : l12.length ≤ 20) (h2 : l16.length ≤ 20) : InvP l0 (n1 + 1) (e010 l0 i' n2 n3 b4 n5 n6 n7 l8 n9 n10 n11 l12 n13 n14 n15 l16 n17 n18 n19) := by subst hw; exact .inr (.inr (.inl ⟨_, _, _, _, _, _, _, _, _, _, _, _, _, _, _, _, _, _, rfl, h0, h1, h2⟩))
theorem i011 {l0 : LR} {n1 i' : Int} {n2 : Int} {n3 : Int} {b4 : Bool} {n5 : Int} {n6 : Int} {n7 : Int} {l8 : LC} {n9 : Int} {n10 : Int} {n11 : Int} {l12 : LC} {n13 : Int} {n14 : Int} {n15 : Int} {l16 : LC} {n17 : Int} {n18 : Int} {n19 : Int} (hw : i' = n1 + 1) (h0 : l8.length ≤ 20) (h1 : l12.length ≤ 20) (h2 : l16.length ≤ 20) : InvP l0 (n1 + 1) (e011 l0 i' n2 n3 b4 n5 n6 n7 l8 n9 n10 n11 l12 n13 n14 n15 l16 n17 n18 n19) := by subst hw; exact .inr (.inr (.inr (.inl ⟨_, _, _, _, _, _, _, _, _, _, _, _, _, _, _, _, _, _, rfl, h0, h1, h2⟩)))
theorem i100 {l0 : LR} {n1 i' : Int} {n2 : Int} {n3 : Int} {b4 : Bool} {n5 : Int} {n6 : Int} {n7 : Int} {l8 : LC} {n9 : Int} {n10 : Int} {n11 : Int} {l12 : LC} {n13 : Int} {n14 : Int} {n15 : Int} {l16 : LC} {n17 : Int} {n18 : Int} {n19 : Int} {n20 : Int} (hw : i' = n1 + 1) (h0 : l8.length ≤ 20) (h1 : l12.length ≤ 20) (h2 : l16.length ≤ 20) : InvP l0 (n1 + 1) (e100 l0 i' n2 n3 b4 n5 n6 n7 l8 n9 n10 n11 l12 n13 n14 n15 l16 n17 n18 n19 n20) := by subst hw; exact .inr (.inr (.inr (.inr (.inl ⟨_, _, _, _, _, _, _, _, _, _, _, _, _, _, _, _, _, _, _, rfl, h0, h1, h2⟩))))
theorem i101 {l0 : LR} {n1 i' : Int} {n2 : Int} {n3 : Int} {b4 : Bool} {n5 : Int} {n6 : Int} {n7 : Int} {l8 : LC} {n9 : Int} {n10 : Int} {n11 : Int} {l12 : LC} {n13 : Int} {n14 : Int} {n15 : Int} {l16 : LC} {n17 : Int} {n18 : Int} {n19 : Int} {n20 : Int} (hw : i' = n1 + 1) (h0 : l8.length ≤ 20) (h1 : l12.length ≤ 20) (h2 : l16.length ≤ 20) : InvP l0 (n1 + 1) (e101 l0 i' n2 n3 b4 n5 n6 n7 l8 n9 n10 n11 l12 n13 n14 n15 l16 n17 n18 n19 n20) := by subst hw; exact .inr (.inr (.inr (.inr (.inr (.inl ⟨_, _, _, _, _, _, _, _, _, _, _, _, _, _, _, _, _, _, _, rfl, h0, h1, h2⟩)))))
theorem i110 {l0 : LR} {n1 i' : Int} {n2 : Int} {n3 : Int} {b4 : Bool} {n5 : Int} {n6 : Int} {n7 : Int} {l8 : LC} {n9 : Int} {n10 : Int} {n11 : Int} {l12 : LC} {n13 : Int} {n14 : Int} {n15 : Int} {l16 : LC} {n17 : Int} {n18 : Int} {n19 : Int} {n20 : Int} {n21 : Int} (hw : i' = n1 + 1) (h0 : l8.length ≤ 20) (h1 : l12.length ≤ 20) (h2 : l16.length ≤ 20) : InvP l0 (n1 + 1) (e110 l0 i' n2 n3 b4 n5 n6 n7 l8 n9 n10 n11 l12 n13 n14 n15 l16 n17 n18 n19 n20 n21) := by subst hw; exact .inr (.inr (.inr (.inr (.inr (.inr (.inl ⟨_, _, _, _, _, _, _, _, _, _, _, _, _, _, _, _, _, _, _, _, rfl, h0, h1, h2⟩))))))
theorem i111 {l0 : LR} {n1 i' : Int} {n2 : Int} {n3 : Int} {b4 : Bool} {n5 : Int} {n6 : Int} {n7 : Int} {l8 : LC} {n9 : Int} {n10 : Int} {n11 : Int} {l12 : LC} {n13 : Int} {n14 : Int} {n15 : Int} {l16 : LC} {n17 : Int} {n18 : Int} {n19 : Int} {n20 : Int} {n21 : Int} (hw : i' = n1 + 1) (h0 : l8.length ≤ 20) (h1 : l12.length ≤ 20) (h2 : l16.length ≤ 20) : InvP l0 (n1 + 1) (e111 l0 i' n2 n3 b4 n5 n6 n7 l8 n9 n10 n11 l12 n13 n14 n15 l16 n17 n18 n19 n20 n21) := by subst hw; exact .inr (.inr (.inr (.inr (.inr (.inr (.inr (⟨_, _, _, _, _, _, _, _, _, _, _, _, _, _, _, _, _, _, _, _, rfl, h0, h1, h2⟩)))))))
theorem step000 {l0 : LR} {n1 : Int} (p0 : 0 ≤ n1) (p1 : n1 < (l0.length : Int)) (hl : l0.length ≤ 60) (c7 : (cl_7 l0 n1).length ≤ 20) (n2 : Int) (n3 : Int) (b4 : Bool) (n5 : Int) (n6 : Int) (n7 : Int) (l8 : LC) (n9 : Int) (n10 : Int) (n11 : Int) (l12 : LC) (n13 : Int) (n14 : Int) (n15 : Int) (l16 : LC) (n17 : Int) (n18 : Int) (k8 : l8.length ≤ 20) (k12 : l12.length ≤ 20) (k16 : l16.length ≤ 20) : Good (StepP l0 n1) (st_L3_10 (e000 l0 n1 n2 n3 b4 n5 n6 n7 l8 n9 n10 n11 l12 n13 n14 n15 l16 n17 n18)).sel := by
  have w : IntKind.wrap .i64 (n1 + 1) = n1 + 1 := w64 (by omega) (by omega)
  refine Imp.good (fn_L3_10_t000_im l0 n1 n2 n3 b4 n5 n6 n7 l8 n9 n10 n11 l12 n13 n14 n15 l16 n17 n18 p0 p1) ?_
  unfold fn_L3_10_t000
  refine good_t (decide_eq_true (show List.length (cl_7 l0 n1) * 16 ≤ 140737488355328 by omega)) ?_
  obtain ⟨pa0, a0⟩ := e12 (cl_1 l0 n1)
  erw [a0]
  refine good_t rfl ?_
  refine good_node (fun q1 => ?_) (fun q1 => ?_)
  ·
   refine good_node (fun q2 => ?_) (fun q2 => ?_)
   ·
    replace q2 := of_decide_eq_true q2
    erw [e16n (0 : Int) (0 : Int) (0 : Int) (0 : Int) (0 : Int)]
    refine good_t rfl ?_
    obtain ⟨pa4, a4⟩ := e16o (cl_7 l0 n1) (cl_2 l0 n1) (cl_3 l0 n1) (cl_4 l0 n1) (cl_5 l0 n1) (cl_6 l0 n1) (up c7)
    erw [a4]
    refine good_t rfl ?_
    exact good_leaf (i000 w k8 k12 k16)
   ·
    replace q2 := of_decide_eq_false q2
    erw [e62 (cl_7 l0 n1) (up c7)]
    refine good_t rfl ?_
    erw [e62 (cl_7 l0 n1) (up c7)]
    refine good_t rfl ?_
    erw [e30 (cl_4 l0 n1) (cl_5 l0 n1) (cl_6 l0 n1) (cl_7 l0 n1) (cl_4 l0 n1) (cl_5 l0 n1) (cl_6 l0 n1) (cl_7 l0 n1) (up c7)]
    refine good_t rfl ?_
    refine good_f (show (!(sm (cl_4 l0 n1) (cl_5 l0 n1) (cl_6 l0 n1) (cl_7 l0 n1) (cl_4 l0 n1) (cl_5 l0 n1) (cl_6 l0 n1) (cl_7 l0 n1))) = false by rw [(show (sm (cl_4 l0 n1) (cl_5 l0 n1) (cl_6 l0 n1) (cl_7 l0 n1) (cl_4 l0 n1) (cl_5 l0 n1) (cl_6 l0 n1) (cl_7 l0 n1)) = true from sm_self (cl_4 l0 n1) (cl_5 l0 n1) (cl_6 l0 n1) (cl_7 l0 n1))]; rfl) ?_
    obtain ⟨pa8, a8⟩ := e16o (cl_7 l0 n1) n2 (cl_3 l0 n1) (cl_4 l0 n1) (cl_5 l0 n1) (cl_6 l0 n1) (up c7)
    erw [a8]
    refine good_t rfl ?_
    obtain ⟨pa9, a9⟩ := e16o (cl_7 l0 n1) (cl_2 l0 n1) (cl_3 l0 n1) (cl_4 l0 n1) (cl_5 l0 n1) (cl_6 l0 n1) (up c7)
    erw [a9]
    refine good_t rfl ?_
    erw [e16n (0 : Int) (0 : Int) (0 : Int) (0 : Int) (0 : Int)]
    refine good_t rfl ?_
    exact good_leaf (i100 w c7 nil20 k16)
  ·
   refine good_node (fun q11 => ?_) (fun q11 => ?_)
   ·
    replace q11 := qnT q11
    obtain ⟨pa12, a12⟩ := e16o (cl_7 l0 n1) (cl_2 l0 n1) (cl_3 l0 n1) (cl_4 l0 n1) (cl_5 l0 n1) (cl_6 l0 n1) (up c7)
    erw [a12]
    refine good_t rfl ?_
    erw [e16n (0 : Int) (0 : Int) (0 : Int) (0 : Int) (0 : Int)]
    refine good_t rfl ?_
    exact good_leaf (i000 w k8 k12 k16)
   ·
    replace q11 := qnF q11
    refine good_node (fun q14 => ?_) (fun q14 => ?_)
    ·
     replace q14 := of_decide_eq_true q14
     obtain ⟨pa15, a15⟩ := e16o (cl_7 l0 n1) (cl_2 l0 n1) (cl_3 l0 n1) (cl_4 l0 n1) (cl_5 l0 n1) (cl_6 l0 n1) (up c7)
     erw [a15]
     refine good_t rfl ?_
     erw [e16n (0 : Int) (0 : Int) (0 : Int) (0 : Int) (0 : Int)]
     refine good_t rfl ?_
     exact good_leaf (i000 w k8 k12 k16)
    ·
     replace q14 := of_decide_eq_false q14
     erw [e62 (cl_7 l0 n1) (up c7)]
     refine good_t rfl ?_
     refine good_node (fun q18 => ?_) (fun q18 => ?_)
     ·
      replace q18 := of_decide_eq_true q18
      obtain ⟨pa19, a19⟩ := e16o (cl_7 l0 n1) (cl_2 l0 n1) (cl_3 l0 n1) (cl_4 l0 n1) (cl_5 l0 n1) (cl_6 l0 n1) (up c7)
      erw [a19]
      refine good_t rfl ?_
      erw [e16n (0 : Int) (0 : Int) (0 : Int) (0 : Int) (0 : Int)]
      refine good_t rfl ?_
      exact good_leaf (i001 w k8 k12 c7)
     ·
      replace q18 := of_decide_eq_false q18
      obtain ⟨pa21, a21⟩ := e16o (cl_7 l0 n1) (cl_2 l0 n1) (cl_3 l0 n1) (cl_4 l0 n1) (cl_5 l0 n1) (cl_6 l0 n1) (up c7)
      erw [a21]
      refine good_t rfl ?_
      erw [e16n (0 : Int) (0 : Int) (0 : Int) (0 : Int) (0 : Int)]
      refine good_t rfl ?_
      rw [show (cl_3 l0 n1) = n3 by omega]
      exact good_leaf (i010 w k8 c7 k16)
theorem step001 {l0 : LR} {n1 : Int} (p0 : 0 ≤ n1) (p1 : n1 < (l0.length : Int)) (hl : l0.length ≤ 60) (c7 : (cl_7 l0 n1).length ≤ 20) (n2 : Int) (n3 : Int) (b4 : Bool) (n5 : Int) (n6 : Int) (n7 : Int) (l8 : LC) (n9 : Int) (n10 : Int) (n11 : Int) (l12 : LC) (n13 : Int) (n14 : Int) (n15 : Int) (l16 : LC) (n17 : Int) (n18 : Int) (k8 : l8.length ≤ 20) (k12 : l12.length ≤ 20) (k16 : l16.length ≤ 20) : Good (StepP l0 n1) (st_L3_10 (e001 l0 n1 n2 n3 b4 n5 n6 n7 l8 n9 n10 n11 l12 n13 n14 n15 l16 n17 n18)).sel := by
  have w : IntKind.wrap .i64 (n1 + 1) = n1 + 1 := w64 (by omega) (by omega)
  refine Imp.good (fn_L3_10_t001_im l0 n1 n2 n3 b4 n5 n6 n7 l8 n9 n10 n11 l12 n13 n14 n15 l16 n17 n18 p0 p1) ?_
  unfold fn_L3_10_t001
  refine good_t (decide_eq_true (show List.length (cl_7 l0 n1) * 16 ≤ 140737488355328 by omega)) ?_
  obtain ⟨pa0, a0⟩ := e12 (cl_1 l0 n1)
  erw [a0]
  refine good_t rfl ?_
  refine good_node (fun q1 => ?_) (fun q1 => ?_)
  ·
   refine good_node (fun q2 => ?_) (fun q2 => ?_)
   ·
    replace q2 := of_decide_eq_true q2
    erw [e16n (0 : Int) (0 : Int) (0 : Int) (0 : Int) (0 : Int)]
    refine good_t rfl ?_
    obtain ⟨pa4, a4⟩ := e16o (cl_7 l0 n1) (cl_2 l0 n1) (cl_3 l0 n1) (cl_4 l0 n1) (cl_5 l0 n1) (cl_6 l0 n1) (up c7)
    erw [a4]
    refine good_t rfl ?_
    exact good_leaf (i001 w k8 k12 k16)
   ·
    replace q2 := of_decide_eq_false q2
    erw [e62 (cl_7 l0 n1) (up c7)]
    refine good_t rfl ?_
    refine good_node (fun q6 => ?_) (fun q6 => ?_)
    ·
     replace q6 := of_decide_eq_true q6
     refine good_node (fun q7 => ?_) (fun q7 => ?_)
     ·
      replace q7 := qeT q7
      erw [e62 (cl_7 l0 n1) (up c7)]
      refine good_t rfl ?_
      erw [e30 (cl_4 l0 n1) (cl_5 l0 n1) (cl_6 l0 n1) (cl_7 l0 n1) (cl_4 l0 n1) (cl_5 l0 n1) (cl_6 l0 n1) (cl_7 l0 n1) (up c7)]
      refine good_t rfl ?_
      refine good_f (show (!(sm (cl_4 l0 n1) (cl_5 l0 n1) (cl_6 l0 n1) (cl_7 l0 n1) (cl_4 l0 n1) (cl_5 l0 n1) (cl_6 l0 n1) (cl_7 l0 n1))) = false by rw [(show (sm (cl_4 l0 n1) (cl_5 l0 n1) (cl_6 l0 n1) (cl_7 l0 n1) (cl_4 l0 n1) (cl_5 l0 n1) (cl_6 l0 n1) (cl_7 l0 n1)) = true from sm_self (cl_4 l0 n1) (cl_5 l0 n1) (cl_6 l0 n1) (cl_7 l0 n1))]; rfl) ?_
      obtain ⟨pa10, a10⟩ := e16o (cl_7 l0 n1) n2 (cl_3 l0 n1) (cl_4 l0 n1) (cl_5 l0 n1) (cl_6 l0 n1) (up c7)
      erw [a10]
      refine good_t rfl ?_
      obtain ⟨pa11, a11⟩ := e16o (cl_7 l0 n1) (cl_2 l0 n1) (cl_3 l0 n1) (cl_4 l0 n1) (cl_5 l0 n1) (cl_6 l0 n1) (up c7)
      erw [a11]
      refine good_t rfl ?_
      erw [e31 (cl_4 l0 n1) (cl_5 l0 n1) (cl_6 l0 n1) (cl_7 l0 n1) n13 n14 n15 l16 c7]
      refine good_t rfl ?_
      erw [e32 (cl_4 l0 n1) (cl_5 l0 n1) (cl_6 l0 n1) (cl_7 l0 n1) n13 n14 n15 l16 c7]
      refine good_t rfl ?_
      erw [e30 (ior .u64 (cl_4 l0 n1) n13) (iand .u32 (cl_5 l0 n1) n14) (iand .u32 (cl_6 l0 n1) n15) (mg (cl_7 l0 n1) l16) (ior .u64 (cl_4 l0 n1) n13) (iand .u32 (cl_5 l0 n1) n14) (iand .u32 (cl_6 l0 n1) n15) (mg (cl_7 l0 n1) l16) (mgl c7)]
      refine good_t rfl ?_
      refine good_f (show (!(sm (ior .u64 (cl_4 l0 n1) n13) (iand .u32 (cl_5 l0 n1) n14) (iand .u32 (cl_6 l0 n1) n15) (mg (cl_7 l0 n1) l16) (ior .u64 (cl_4 l0 n1) n13) (iand .u32 (cl_5 l0 n1) n14) (iand .u32 (cl_6 l0 n1) n15) (mg (cl_7 l0 n1) l16))) = false by rw [(show (sm (ior .u64 (cl_4 l0 n1) n13) (iand .u32 (cl_5 l0 n1) n14) (iand .u32 (cl_6 l0 n1) n15) (mg (cl_7 l0 n1) l16) (ior .u64 (cl_4 l0 n1) n13) (iand .u32 (cl_5 l0 n1) n14) (iand .u32 (cl_6 l0 n1) n15) (mg (cl_7 l0 n1) l16)) = true from sm_self (ior .u64 (cl_4 l0 n1) n13) (iand .u32 (cl_5 l0 n1) n14) (iand .u32 (cl_6 l0 n1) n15) (mg (cl_7 l0 n1) l16))]; rfl) ?_
      obtain ⟨pa15, a15⟩ := e16o (mg (cl_7 l0 n1) l16) (0 : Int) (0 : Int) (ior .u64 (cl_4 l0 n1) n13) (iand .u32 (cl_5 l0 n1) n14) (iand .u32 (cl_6 l0 n1) n15) (mgl c7)
      erw [a15]
      refine good_t rfl ?_
      rw [show (n18 == cl_3 l0 n1) = true from beq_iff_eq.2 (by omega)]
      rw [show (decide (n18 > (cl_3 l0 n1 : Int))) = false from decide_eq_false (by omega)]
      rw [show n18 = (cl_3 l0 n1) by omega]
      exact good_leaf (i110 w c7 k16 k16)
     ·
      replace q7 := qeF q7
      erw [e62 (cl_7 l0 n1) (up c7)]
      refine good_t rfl ?_
      erw [e30 (cl_4 l0 n1) (cl_5 l0 n1) (cl_6 l0 n1) (cl_7 l0 n1) (cl_4 l0 n1) (cl_5 l0 n1) (cl_6 l0 n1) (cl_7 l0 n1) (up c7)]
      refine good_t rfl ?_
      refine good_f (show (!(sm (cl_4 l0 n1) (cl_5 l0 n1) (cl_6 l0 n1) (cl_7 l0 n1) (cl_4 l0 n1) (cl_5 l0 n1) (cl_6 l0 n1) (cl_7 l0 n1))) = false by rw [(show (sm (cl_4 l0 n1) (cl_5 l0 n1) (cl_6 l0 n1) (cl_7 l0 n1) (cl_4 l0 n1) (cl_5 l0 n1) (cl_6 l0 n1) (cl_7 l0 n1)) = true from sm_self (cl_4 l0 n1) (cl_5 l0 n1) (cl_6 l0 n1) (cl_7 l0 n1))]; rfl) ?_
      obtain ⟨pa18, a18⟩ := e16o (cl_7 l0 n1) n2 (cl_3 l0 n1) (cl_4 l0 n1) (cl_5 l0 n1) (cl_6 l0 n1) (up c7)
      erw [a18]
      refine good_t rfl ?_
      obtain ⟨pa19, a19⟩ := e16o (cl_7 l0 n1) (cl_2 l0 n1) (cl_3 l0 n1) (cl_4 l0 n1) (cl_5 l0 n1) (cl_6 l0 n1) (up c7)
      erw [a19]
      refine good_t rfl ?_
      erw [e16n (0 : Int) (0 : Int) (0 : Int) (0 : Int) (0 : Int)]
      refine good_t rfl ?_
      rw [show (n18 == cl_3 l0 n1) = false from beq_eq_false_iff_ne.2 (by omega)]
      rw [show (decide (n18 > (cl_3 l0 n1 : Int))) = false from decide_eq_false (by omega)]
      exact good_leaf (i100 w c7 nil20 k16)
    ·
     replace q6 := of_decide_eq_false q6
     erw [e62 (cl_7 l0 n1) (up c7)]
     refine good_t rfl ?_
     erw [e30 (cl_4 l0 n1) (cl_5 l0 n1) (cl_6 l0 n1) (cl_7 l0 n1) (cl_4 l0 n1) (cl_5 l0 n1) (cl_6 l0 n1) (cl_7 l0 n1) (up c7)]
     refine good_t rfl ?_
     refine good_f (show (!(sm (cl_4 l0 n1) (cl_5 l0 n1) (cl_6 l0 n1) (cl_7 l0 n1) (cl_4 l0 n1) (cl_5 l0 n1) (cl_6 l0 n1) (cl_7 l0 n1))) = false by rw [(show (sm (cl_4 l0 n1) (cl_5 l0 n1) (cl_6 l0 n1) (cl_7 l0 n1) (cl_4 l0 n1) (cl_5 l0 n1) (cl_6 l0 n1) (cl_7 l0 n1)) = true from sm_self (cl_4 l0 n1) (cl_5 l0 n1) (cl_6 l0 n1) (cl_7 l0 n1))]; rfl) ?_
     obtain ⟨pa23, a23⟩ := e16o (cl_7 l0 n1) n2 (cl_3 l0 n1) (cl_4 l0 n1) (cl_5 l0 n1) (cl_6 l0 n1) (up c7)
     erw [a23]
     refine good_t rfl ?_
     obtain ⟨pa24, a24⟩ := e16o (cl_7 l0 n1) (cl_2 l0 n1) (cl_3 l0 n1) (cl_4 l0 n1) (cl_5 l0 n1) (cl_6 l0 n1) (up c7)
     erw [a24]
     refine good_t rfl ?_
     erw [e16n (0 : Int) (0 : Int) (0 : Int) (0 : Int) (0 : Int)]
     refine good_t rfl ?_
     rw [show (n18 == cl_3 l0 n1) = false from beq_eq_false_iff_ne.2 (by omega)]
     rw [show (decide (n18 > (cl_3 l0 n1 : Int))) = true from decide_eq_true (by omega)]
     exact good_leaf (i101 w c7 nil20 k16)
  ·
   refine good_node (fun q26 => ?_) (fun q26 => ?_)
   ·
    replace q26 := qnT q26
    obtain ⟨pa27, a27⟩ := e16o (cl_7 l0 n1) (cl_2 l0 n1) (cl_3 l0 n1) (cl_4 l0 n1) (cl_5 l0 n1) (cl_6 l0 n1) (up c7)
    erw [a27]
    refine good_t rfl ?_
    erw [e16n (0 : Int) (0 : Int) (0 : Int) (0 : Int) (0 : Int)]
    refine good_t rfl ?_
    exact good_leaf (i001 w k8 k12 k16)
   ·
    replace q26 := qnF q26
    refine good_node (fun q29 => ?_) (fun q29 => ?_)
    ·
     replace q29 := of_decide_eq_true q29
     obtain ⟨pa30, a30⟩ := e16o (cl_7 l0 n1) (cl_2 l0 n1) (cl_3 l0 n1) (cl_4 l0 n1) (cl_5 l0 n1) (cl_6 l0 n1) (up c7)
     erw [a30]
     refine good_t rfl ?_
     erw [e16n (0 : Int) (0 : Int) (0 : Int) (0 : Int) (0 : Int)]
     refine good_t rfl ?_
     exact good_leaf (i001 w k8 k12 k16)
    ·
     replace q29 := of_decide_eq_false q29
     erw [e62 (cl_7 l0 n1) (up c7)]
     refine good_t rfl ?_
     refine good_node (fun q33 => ?_) (fun q33 => ?_)
     ·
      replace q33 := of_decide_eq_true q33
      refine good_node (fun q34 => ?_) (fun q34 => ?_)
      ·
       replace q34 := of_decide_eq_true q34
       obtain ⟨pa35, a35⟩ := e16o (cl_7 l0 n1) (cl_2 l0 n1) (cl_3 l0 n1) (cl_4 l0 n1) (cl_5 l0 n1) (cl_6 l0 n1) (up c7)
       erw [a35]
       refine good_t rfl ?_
       erw [e16n (0 : Int) (0 : Int) (0 : Int) (0 : Int) (0 : Int)]
       refine good_t rfl ?_
       exact good_leaf (i001 w k8 k12 c7)
      ·
       replace q34 := of_decide_eq_false q34
       refine good_node (fun q37 => ?_) (fun q37 => ?_)
       ·
        replace q37 := qeT q37
        erw [e29 n13 n14 n15 l16 (cl_4 l0 n1) (cl_5 l0 n1) (cl_6 l0 n1) (cl_7 l0 n1) (up k16)]
        refine good_t rfl ?_
        refine good_node (fun q39 => ?_) (fun q39 => ?_)
        ·
         replace q39 : (sm n13 n14 n15 l16 (cl_4 l0 n1) (cl_5 l0 n1) (cl_6 l0 n1) (cl_7 l0 n1)) = true := q39
         erw [e30 (cl_4 l0 n1) (cl_5 l0 n1) (cl_6 l0 n1) (cl_7 l0 n1) n13 n14 n15 l16 (up c7)]
         refine good_t rfl ?_
         refine good_t (show (sm (cl_4 l0 n1) (cl_5 l0 n1) (cl_6 l0 n1) (cl_7 l0 n1) n13 n14 n15 l16) = true from (sm_symm (cl_4 l0 n1) (cl_5 l0 n1) (cl_6 l0 n1) (cl_7 l0 n1) n13 n14 n15 l16).trans q39) ?_
         obtain ⟨pa41, a41⟩ := e16o (cl_7 l0 n1) (cl_2 l0 n1) (cl_3 l0 n1) (cl_4 l0 n1) (cl_5 l0 n1) (cl_6 l0 n1) (up c7)
         erw [a41]
         refine good_t rfl ?_
         erw [e16n (0 : Int) (0 : Int) (0 : Int) (0 : Int) (0 : Int)]
         refine good_t rfl ?_
         exact good_leaf (i001 w k8 k12 k16)
        ·
         replace q39 : (sm n13 n14 n15 l16 (cl_4 l0 n1) (cl_5 l0 n1) (cl_6 l0 n1) (cl_7 l0 n1)) = false := q39
         erw [e30 (cl_4 l0 n1) (cl_5 l0 n1) (cl_6 l0 n1) (cl_7 l0 n1) n13 n14 n15 l16 (up c7)]
         refine good_t rfl ?_
         refine good_f (show (sm (cl_4 l0 n1) (cl_5 l0 n1) (cl_6 l0 n1) (cl_7 l0 n1) n13 n14 n15 l16) = false from (sm_symm (cl_4 l0 n1) (cl_5 l0 n1) (cl_6 l0 n1) (cl_7 l0 n1) n13 n14 n15 l16).trans q39) ?_
         obtain ⟨pa44, a44⟩ := e16o (cl_7 l0 n1) (cl_2 l0 n1) (cl_3 l0 n1) (cl_4 l0 n1) (cl_5 l0 n1) (cl_6 l0 n1) (up c7)
         erw [a44]
         refine good_t rfl ?_
         erw [e16n (0 : Int) (0 : Int) (0 : Int) (0 : Int) (0 : Int)]
         refine good_t rfl ?_
         exact good_leaf (i001 w k8 k12 k16)
       ·
        replace q37 := qeF q37
        obtain ⟨pa46, a46⟩ := e16o (cl_7 l0 n1) (cl_2 l0 n1) (cl_3 l0 n1) (cl_4 l0 n1) (cl_5 l0 n1) (cl_6 l0 n1) (up c7)
        erw [a46]
        refine good_t rfl ?_
        erw [e16n (0 : Int) (0 : Int) (0 : Int) (0 : Int) (0 : Int)]
        refine good_t rfl ?_
        exact good_leaf (i001 w k8 k12 k16)
     ·
      replace q33 := of_decide_eq_false q33
      obtain ⟨pa48, a48⟩ := e16o (cl_7 l0 n1) (cl_2 l0 n1) (cl_3 l0 n1) (cl_4 l0 n1) (cl_5 l0 n1) (cl_6 l0 n1) (up c7)
      erw [a48]
      refine good_t rfl ?_
      erw [e16n (0 : Int) (0 : Int) (0 : Int) (0 : Int) (0 : Int)]
      refine good_t rfl ?_
      rw [show (cl_3 l0 n1) = n3 by omega]
      exact good_leaf (i011 w k8 c7 k16)
theorem step010 {l0 : LR} {n1 : Int} (p0 : 0 ≤ n1) (p1 : n1 < (l0.length : Int)) (hl : l0.length ≤ 60) (c7 : (cl_7 l0 n1).length ≤ 20) (n2 : Int) (n3 : Int) (b4 : Bool) (n5 : Int) (n6 : Int) (n7 : Int) (l8 : LC) (n9 : Int) (n10 : Int) (n11 : Int) (l12 : LC) (n13 : Int) (n14 : Int) (n15 : Int) (l16 : LC) (n17 : Int) (n18 : Int) (n19 : Int) (k8 : l8.length ≤ 20) (k12 : l12.length ≤ 20) (k16 : l16.length ≤ 20) : Good (StepP l0 n1) (st_L3_10 (e010 l0 n1 n2 n3 b4 n5 n6 n7 l8 n9 n10 n11 l12 n13 n14 n15 l16 n17 n18 n19)).sel := by
  have w : IntKind.wrap .i64 (n1 + 1) = n1 + 1 := w64 (by omega) (by omega)
  refine Imp.good (fn_L3_10_t010_im l0 n1 n2 n3 b4 n5 n6 n7 l8 n9 n10 n11 l12 n13 n14 n15 l16 n17 n18 n19 p0 p1) ?_
  unfold fn_L3_10_t010
  refine good_t (decide_eq_true (show List.length (cl_7 l0 n1) * 16 ≤ 140737488355328 by omega)) ?_
  obtain ⟨pa0, a0⟩ := e12 (cl_1 l0 n1)
  erw [a0]
  refine good_t rfl ?_
  refine good_node (fun q1 => ?_) (fun q1 => ?_)
  ·
   refine good_node (fun q2 => ?_) (fun q2 => ?_)
   ·
    replace q2 := of_decide_eq_true q2
    erw [e16n (0 : Int) (0 : Int) (0 : Int) (0 : Int) (0 : Int)]
    refine good_t rfl ?_
    obtain ⟨pa4, a4⟩ := e16o (cl_7 l0 n1) (cl_2 l0 n1) (cl_3 l0 n1) (cl_4 l0 n1) (cl_5 l0 n1) (cl_6 l0 n1) (up c7)
    erw [a4]
    refine good_t rfl ?_
    exact good_leaf (i010 w k8 k12 k16)
   ·
    replace q2 := of_decide_eq_false q2
    erw [e62 (cl_7 l0 n1) (up c7)]
    refine good_t rfl ?_
    erw [e62 (cl_7 l0 n1) (up c7)]
    refine good_t rfl ?_
    erw [e30 (cl_4 l0 n1) (cl_5 l0 n1) (cl_6 l0 n1) (cl_7 l0 n1) (cl_4 l0 n1) (cl_5 l0 n1) (cl_6 l0 n1) (cl_7 l0 n1) (up c7)]
    refine good_t rfl ?_
    refine good_f (show (!(sm (cl_4 l0 n1) (cl_5 l0 n1) (cl_6 l0 n1) (cl_7 l0 n1) (cl_4 l0 n1) (cl_5 l0 n1) (cl_6 l0 n1) (cl_7 l0 n1))) = false by rw [(show (sm (cl_4 l0 n1) (cl_5 l0 n1) (cl_6 l0 n1) (cl_7 l0 n1) (cl_4 l0 n1) (cl_5 l0 n1) (cl_6 l0 n1) (cl_7 l0 n1)) = true from sm_self (cl_4 l0 n1) (cl_5 l0 n1) (cl_6 l0 n1) (cl_7 l0 n1))]; rfl) ?_
    obtain ⟨pa8, a8⟩ := e16o (cl_7 l0 n1) n2 (cl_3 l0 n1) (cl_4 l0 n1) (cl_5 l0 n1) (cl_6 l0 n1) (up c7)
    erw [a8]
    refine good_t rfl ?_
    obtain ⟨pa9, a9⟩ := e16o (cl_7 l0 n1) (cl_2 l0 n1) (cl_3 l0 n1) (cl_4 l0 n1) (cl_5 l0 n1) (cl_6 l0 n1) (up c7)
    erw [a9]
    refine good_t rfl ?_
    erw [e16n (0 : Int) (0 : Int) (0 : Int) (0 : Int) (0 : Int)]
    refine good_t rfl ?_
    exact good_leaf (i100 w c7 nil20 k16)
  ·
   refine good_node (fun q11 => ?_) (fun q11 => ?_)
   ·
    replace q11 := qnT q11
    obtain ⟨pa12, a12⟩ := e16o (cl_7 l0 n1) (cl_2 l0 n1) (cl_3 l0 n1) (cl_4 l0 n1) (cl_5 l0 n1) (cl_6 l0 n1) (up c7)
    erw [a12]
    refine good_t rfl ?_
    erw [e16n (0 : Int) (0 : Int) (0 : Int) (0 : Int) (0 : Int)]
    refine good_t rfl ?_
    exact good_leaf (i010 w k8 k12 k16)
   ·
    replace q11 := qnF q11
    refine good_node (fun q14 => ?_) (fun q14 => ?_)
    ·
     replace q14 := of_decide_eq_true q14
     obtain ⟨pa15, a15⟩ := e16o (cl_7 l0 n1) (cl_2 l0 n1) (cl_3 l0 n1) (cl_4 l0 n1) (cl_5 l0 n1) (cl_6 l0 n1) (up c7)
     erw [a15]
     refine good_t rfl ?_
     erw [e16n (0 : Int) (0 : Int) (0 : Int) (0 : Int) (0 : Int)]
     refine good_t rfl ?_
     exact good_leaf (i010 w k8 k12 k16)
    ·
     replace q14 := of_decide_eq_false q14
     erw [e62 (cl_7 l0 n1) (up c7)]
     refine good_t rfl ?_
     refine good_node (fun q18 => ?_) (fun q18 => ?_)
     ·
      replace q18 := of_decide_eq_true q18
      obtain ⟨pa19, a19⟩ := e16o (cl_7 l0 n1) (cl_2 l0 n1) (cl_3 l0 n1) (cl_4 l0 n1) (cl_5 l0 n1) (cl_6 l0 n1) (up c7)
      erw [a19]
      refine good_t rfl ?_
      erw [e16n (0 : Int) (0 : Int) (0 : Int) (0 : Int) (0 : Int)]
      refine good_t rfl ?_
      exact good_leaf (i011 w k8 k12 c7)
     ·
      replace q18 := of_decide_eq_false q18
      erw [e29 n9 n10 n11 l12 (cl_4 l0 n1) (cl_5 l0 n1) (cl_6 l0 n1) (cl_7 l0 n1) (up k12)]
      refine good_t rfl ?_
      refine good_node (fun q22 => ?_) (fun q22 => ?_)
      ·
       replace q22 : (sm n9 n10 n11 l12 (cl_4 l0 n1) (cl_5 l0 n1) (cl_6 l0 n1) (cl_7 l0 n1)) = true := q22
       erw [e30 (cl_4 l0 n1) (cl_5 l0 n1) (cl_6 l0 n1) (cl_7 l0 n1) n9 n10 n11 l12 (up c7)]
       refine good_t rfl ?_
       refine good_t (show (sm (cl_4 l0 n1) (cl_5 l0 n1) (cl_6 l0 n1) (cl_7 l0 n1) n9 n10 n11 l12) = true from (sm_symm (cl_4 l0 n1) (cl_5 l0 n1) (cl_6 l0 n1) (cl_7 l0 n1) n9 n10 n11 l12).trans q22) ?_
       obtain ⟨pa24, a24⟩ := e16o (cl_7 l0 n1) (cl_2 l0 n1) (cl_3 l0 n1) (cl_4 l0 n1) (cl_5 l0 n1) (cl_6 l0 n1) (up c7)
       erw [a24]
       refine good_t rfl ?_
       erw [e16n (0 : Int) (0 : Int) (0 : Int) (0 : Int) (0 : Int)]
       refine good_t rfl ?_
       exact good_leaf (i010 w k8 k12 k16)
      ·
       replace q22 : (sm n9 n10 n11 l12 (cl_4 l0 n1) (cl_5 l0 n1) (cl_6 l0 n1) (cl_7 l0 n1)) = false := q22
       erw [e30 (cl_4 l0 n1) (cl_5 l0 n1) (cl_6 l0 n1) (cl_7 l0 n1) n9 n10 n11 l12 (up c7)]
       refine good_t rfl ?_
       refine good_f (show (sm (cl_4 l0 n1) (cl_5 l0 n1) (cl_6 l0 n1) (cl_7 l0 n1) n9 n10 n11 l12) = false from (sm_symm (cl_4 l0 n1) (cl_5 l0 n1) (cl_6 l0 n1) (cl_7 l0 n1) n9 n10 n11 l12).trans q22) ?_
       obtain ⟨pa27, a27⟩ := e16o (cl_7 l0 n1) (cl_2 l0 n1) (cl_3 l0 n1) (cl_4 l0 n1) (cl_5 l0 n1) (cl_6 l0 n1) (up c7)
       erw [a27]
       refine good_t rfl ?_
       erw [e16n (0 : Int) (0 : Int) (0 : Int) (0 : Int) (0 : Int)]
       refine good_t rfl ?_
       exact good_leaf (i010 w k8 k12 k16)
theorem step011 {l0 : LR} {n1 : Int} (p0 : 0 ≤ n1) (p1 : n1 < (l0.length : Int)) (hl : l0.length ≤ 60) (c7 : (cl_7 l0 n1).length ≤ 20) (n2 : Int) (n3 : Int) (b4 : Bool) (n5 : Int) (n6 : Int) (n7 : Int) (l8 : LC) (n9 : Int) (n10 : Int) (n11 : Int) (l12 : LC) (n13 : Int) (n14 : Int) (n15 : Int) (l16 : LC) (n17 : Int) (n18 : Int) (n19 : Int) (k8 : l8.length ≤ 20) (k12 : l12.length ≤ 20) (k16 : l16.length ≤ 20) : Good (StepP l0 n1) (st_L3_10 (e011 l0 n1 n2 n3 b4 n5 n6 n7 l8 n9 n10 n11 l12 n13 n14 n15 l16 n17 n18 n19)).sel := by
  have w : IntKind.wrap .i64 (n1 + 1) = n1 + 1 := w64 (by omega) (by omega)
  refine Imp.good (fn_L3_10_t011_im l0 n1 n2 n3 b4 n5 n6 n7 l8 n9 n10 n11 l12 n13 n14 n15 l16 n17 n18 n19 p0 p1) ?_
  unfold fn_L3_10_t011
  refine good_t (decide_eq_true (show List.length (cl_7 l0 n1) * 16 ≤ 140737488355328 by omega)) ?_
  obtain ⟨pa0, a0⟩ := e12 (cl_1 l0 n1)
  erw [a0]
  refine good_t rfl ?_
  refine good_node (fun q1 => ?_) (fun q1 => ?_)
  ·
   refine good_node (fun q2 => ?_) (fun q2 => ?_)
   ·
    replace q2 := of_decide_eq_true q2
    erw [e16n (0 : Int) (0 : Int) (0 : Int) (0 : Int) (0 : Int)]
    refine good_t rfl ?_
    obtain ⟨pa4, a4⟩ := e16o (cl_7 l0 n1) (cl_2 l0 n1) (cl_3 l0 n1) (cl_4 l0 n1) (cl_5 l0 n1) (cl_6 l0 n1) (up c7)
    erw [a4]
    refine good_t rfl ?_
    exact good_leaf (i011 w k8 k12 k16)
   ·
    replace q2 := of_decide_eq_false q2
    erw [e62 (cl_7 l0 n1) (up c7)]
    refine good_t rfl ?_
    refine good_node (fun q6 => ?_) (fun q6 => ?_)
    ·
     replace q6 := of_decide_eq_true q6
     refine good_node (fun q7 => ?_) (fun q7 => ?_)
     ·
      replace q7 := qeT q7
      erw [e62 (cl_7 l0 n1) (up c7)]
      refine good_t rfl ?_
      erw [e30 (cl_4 l0 n1) (cl_5 l0 n1) (cl_6 l0 n1) (cl_7 l0 n1) (cl_4 l0 n1) (cl_5 l0 n1) (cl_6 l0 n1) (cl_7 l0 n1) (up c7)]
      refine good_t rfl ?_
      refine good_f (show (!(sm (cl_4 l0 n1) (cl_5 l0 n1) (cl_6 l0 n1) (cl_7 l0 n1) (cl_4 l0 n1) (cl_5 l0 n1) (cl_6 l0 n1) (cl_7 l0 n1))) = false by rw [(show (sm (cl_4 l0 n1) (cl_5 l0 n1) (cl_6 l0 n1) (cl_7 l0 n1) (cl_4 l0 n1) (cl_5 l0 n1) (cl_6 l0 n1) (cl_7 l0 n1)) = true from sm_self (cl_4 l0 n1) (cl_5 l0 n1) (cl_6 l0 n1) (cl_7 l0 n1))]; rfl) ?_
      obtain ⟨pa10, a10⟩ := e16o (cl_7 l0 n1) n2 (cl_3 l0 n1) (cl_4 l0 n1) (cl_5 l0 n1) (cl_6 l0 n1) (up c7)
      erw [a10]
      refine good_t rfl ?_
      obtain ⟨pa11, a11⟩ := e16o (cl_7 l0 n1) (cl_2 l0 n1) (cl_3 l0 n1) (cl_4 l0 n1) (cl_5 l0 n1) (cl_6 l0 n1) (up c7)
      erw [a11]
      refine good_t rfl ?_
      erw [e31 (cl_4 l0 n1) (cl_5 l0 n1) (cl_6 l0 n1) (cl_7 l0 n1) n13 n14 n15 l16 c7]
      refine good_t rfl ?_
      erw [e32 (cl_4 l0 n1) (cl_5 l0 n1) (cl_6 l0 n1) (cl_7 l0 n1) n13 n14 n15 l16 c7]
      refine good_t rfl ?_
      erw [e30 (ior .u64 (cl_4 l0 n1) n13) (iand .u32 (cl_5 l0 n1) n14) (iand .u32 (cl_6 l0 n1) n15) (mg (cl_7 l0 n1) l16) (ior .u64 (cl_4 l0 n1) n13) (iand .u32 (cl_5 l0 n1) n14) (iand .u32 (cl_6 l0 n1) n15) (mg (cl_7 l0 n1) l16) (mgl c7)]
      refine good_t rfl ?_
      refine good_f (show (!(sm (ior .u64 (cl_4 l0 n1) n13) (iand .u32 (cl_5 l0 n1) n14) (iand .u32 (cl_6 l0 n1) n15) (mg (cl_7 l0 n1) l16) (ior .u64 (cl_4 l0 n1) n13) (iand .u32 (cl_5 l0 n1) n14) (iand .u32 (cl_6 l0 n1) n15) (mg (cl_7 l0 n1) l16))) = false by rw [(show (sm (ior .u64 (cl_4 l0 n1) n13) (iand .u32 (cl_5 l0 n1) n14) (iand .u32 (cl_6 l0 n1) n15) (mg (cl_7 l0 n1) l16) (ior .u64 (cl_4 l0 n1) n13) (iand .u32 (cl_5 l0 n1) n14) (iand .u32 (cl_6 l0 n1) n15) (mg (cl_7 l0 n1) l16)) = true from sm_self (ior .u64 (cl_4 l0 n1) n13) (iand .u32 (cl_5 l0 n1) n14) (iand .u32 (cl_6 l0 n1) n15) (mg (cl_7 l0 n1) l16))]; rfl) ?_
      obtain ⟨pa15, a15⟩ := e16o (mg (cl_7 l0 n1) l16) (0 : Int) (0 : Int) (ior .u64 (cl_4 l0 n1) n13) (iand .u32 (cl_5 l0 n1) n14) (iand .u32 (cl_6 l0 n1) n15) (mgl c7)
      erw [a15]
      refine good_t rfl ?_
      rw [show (n18 == cl_3 l0 n1) = true from beq_iff_eq.2 (by omega)]
      rw [show (decide (n18 > (cl_3 l0 n1 : Int))) = false from decide_eq_false (by omega)]
      rw [show n18 = (cl_3 l0 n1) by omega]
      exact good_leaf (i110 w c7 k16 k16)
     ·
      replace q7 := qeF q7
      erw [e62 (cl_7 l0 n1) (up c7)]
      refine good_t rfl ?_
      erw [e30 (cl_4 l0 n1) (cl_5 l0 n1) (cl_6 l0 n1) (cl_7 l0 n1) (cl_4 l0 n1) (cl_5 l0 n1) (cl_6 l0 n1) (cl_7 l0 n1) (up c7)]
      refine good_t rfl ?_
      refine good_f (show (!(sm (cl_4 l0 n1) (cl_5 l0 n1) (cl_6 l0 n1) (cl_7 l0 n1) (cl_4 l0 n1) (cl_5 l0 n1) (cl_6 l0 n1) (cl_7 l0 n1))) = false by rw [(show (sm (cl_4 l0 n1) (cl_5 l0 n1) (cl_6 l0 n1) (cl_7 l0 n1) (cl_4 l0 n1) (cl_5 l0 n1) (cl_6 l0 n1) (cl_7 l0 n1)) = true from sm_self (cl_4 l0 n1) (cl_5 l0 n1) (cl_6 l0 n1) (cl_7 l0 n1))]; rfl) ?_
      obtain ⟨pa18, a18⟩ := e16o (cl_7 l0 n1) n2 (cl_3 l0 n1) (cl_4 l0 n1) (cl_5 l0 n1) (cl_6 l0 n1) (up c7)
      erw [a18]
      refine good_t rfl ?_
      obtain ⟨pa19, a19⟩ := e16o (cl_7 l0 n1) (cl_2 l0 n1) (cl_3 l0 n1) (cl_4 l0 n1) (cl_5 l0 n1) (cl_6 l0 n1) (up c7)
      erw [a19]
      refine good_t rfl ?_
      erw [e16n (0 : Int) (0 : Int) (0 : Int) (0 : Int) (0 : Int)]
      refine good_t rfl ?_
      rw [show (n18 == cl_3 l0 n1) = false from beq_eq_false_iff_ne.2 (by omega)]
      rw [show (decide (n18 > (cl_3 l0 n1 : Int))) = false from decide_eq_false (by omega)]
      exact good_leaf (i100 w c7 nil20 k16)
    ·
     replace q6 := of_decide_eq_false q6
     erw [e62 (cl_7 l0 n1) (up c7)]
     refine good_t rfl ?_
     erw [e30 (cl_4 l0 n1) (cl_5 l0 n1) (cl_6 l0 n1) (cl_7 l0 n1) (cl_4 l0 n1) (cl_5 l0 n1) (cl_6 l0 n1) (cl_7 l0 n1) (up c7)]
     refine good_t rfl ?_
     refine good_f (show (!(sm (cl_4 l0 n1) (cl_5 l0 n1) (cl_6 l0 n1) (cl_7 l0 n1) (cl_4 l0 n1) (cl_5 l0 n1) (cl_6 l0 n1) (cl_7 l0 n1))) = false by rw [(show (sm (cl_4 l0 n1) (cl_5 l0 n1) (cl_6 l0 n1) (cl_7 l0 n1) (cl_4 l0 n1) (cl_5 l0 n1) (cl_6 l0 n1) (cl_7 l0 n1)) = true from sm_self (cl_4 l0 n1) (cl_5 l0 n1) (cl_6 l0 n1) (cl_7 l0 n1))]; rfl) ?_
     obtain ⟨pa23, a23⟩ := e16o (cl_7 l0 n1) n2 (cl_3 l0 n1) (cl_4 l0 n1) (cl_5 l0 n1) (cl_6 l0 n1) (up c7)
     erw [a23]
     refine good_t rfl ?_
     obtain ⟨pa24, a24⟩ := e16o (cl_7 l0 n1) (cl_2 l0 n1) (cl_3 l0 n1) (cl_4 l0 n1) (cl_5 l0 n1) (cl_6 l0 n1) (up c7)
     erw [a24]
     refine good_t rfl ?_
     erw [e16n (0 : Int) (0 : Int) (0 : Int) (0 : Int) (0 : Int)]
     refine good_t rfl ?_
     rw [show (n18 == cl_3 l0 n1) = false from beq_eq_false_iff_ne.2 (by omega)]
     rw [show (decide (n18 > (cl_3 l0 n1 : Int))) = true from decide_eq_true (by omega)]
     exact good_leaf (i101 w c7 nil20 k16)
  ·
   refine good_node (fun q26 => ?_) (fun q26 => ?_)
   ·
    replace q26 := qnT q26
    obtain ⟨pa27, a27⟩ := e16o (cl_7 l0 n1) (cl_2 l0 n1) (cl_3 l0 n1) (cl_4 l0 n1) (cl_5 l0 n1) (cl_6 l0 n1) (up c7)
    erw [a27]
    refine good_t rfl ?_
    erw [e16n (0 : Int) (0 : Int) (0 : Int) (0 : Int) (0 : Int)]
    refine good_t rfl ?_
    exact good_leaf (i011 w k8 k12 k16)
   ·
    replace q26 := qnF q26
    refine good_node (fun q29 => ?_) (fun q29 => ?_)
    ·
     replace q29 := of_decide_eq_true q29
     obtain ⟨pa30, a30⟩ := e16o (cl_7 l0 n1) (cl_2 l0 n1) (cl_3 l0 n1) (cl_4 l0 n1) (cl_5 l0 n1) (cl_6 l0 n1) (up c7)
     erw [a30]
     refine good_t rfl ?_
     erw [e16n (0 : Int) (0 : Int) (0 : Int) (0 : Int) (0 : Int)]
     refine good_t rfl ?_
     exact good_leaf (i011 w k8 k12 k16)
    ·
     replace q29 := of_decide_eq_false q29
     erw [e62 (cl_7 l0 n1) (up c7)]
     refine good_t rfl ?_
     refine good_node (fun q33 => ?_) (fun q33 => ?_)
     ·
      replace q33 := of_decide_eq_true q33
      refine good_node (fun q34 => ?_) (fun q34 => ?_)
      ·
       replace q34 := of_decide_eq_true q34
       obtain ⟨pa35, a35⟩ := e16o (cl_7 l0 n1) (cl_2 l0 n1) (cl_3 l0 n1) (cl_4 l0 n1) (cl_5 l0 n1) (cl_6 l0 n1) (up c7)
       erw [a35]
       refine good_t rfl ?_
       erw [e16n (0 : Int) (0 : Int) (0 : Int) (0 : Int) (0 : Int)]
       refine good_t rfl ?_
       exact good_leaf (i011 w k8 k12 c7)
      ·
       replace q34 := of_decide_eq_false q34
       refine good_node (fun q37 => ?_) (fun q37 => ?_)
       ·
        replace q37 := qeT q37
        erw [e29 n13 n14 n15 l16 (cl_4 l0 n1) (cl_5 l0 n1) (cl_6 l0 n1) (cl_7 l0 n1) (up k16)]
        refine good_t rfl ?_
        refine good_node (fun q39 => ?_) (fun q39 => ?_)
        ·
         replace q39 : (sm n13 n14 n15 l16 (cl_4 l0 n1) (cl_5 l0 n1) (cl_6 l0 n1) (cl_7 l0 n1)) = true := q39
         erw [e30 (cl_4 l0 n1) (cl_5 l0 n1) (cl_6 l0 n1) (cl_7 l0 n1) n13 n14 n15 l16 (up c7)]
         refine good_t rfl ?_
         refine good_t (show (sm (cl_4 l0 n1) (cl_5 l0 n1) (cl_6 l0 n1) (cl_7 l0 n1) n13 n14 n15 l16) = true from (sm_symm (cl_4 l0 n1) (cl_5 l0 n1) (cl_6 l0 n1) (cl_7 l0 n1) n13 n14 n15 l16).trans q39) ?_
         obtain ⟨pa41, a41⟩ := e16o (cl_7 l0 n1) (cl_2 l0 n1) (cl_3 l0 n1) (cl_4 l0 n1) (cl_5 l0 n1) (cl_6 l0 n1) (up c7)
         erw [a41]
         refine good_t rfl ?_
         erw [e16n (0 : Int) (0 : Int) (0 : Int) (0 : Int) (0 : Int)]
         refine good_t rfl ?_
         exact good_leaf (i011 w k8 k12 k16)
        ·
         replace q39 : (sm n13 n14 n15 l16 (cl_4 l0 n1) (cl_5 l0 n1) (cl_6 l0 n1) (cl_7 l0 n1)) = false := q39
         erw [e30 (cl_4 l0 n1) (cl_5 l0 n1) (cl_6 l0 n1) (cl_7 l0 n1) n13 n14 n15 l16 (up c7)]
         refine good_t rfl ?_
         refine good_f (show (sm (cl_4 l0 n1) (cl_5 l0 n1) (cl_6 l0 n1) (cl_7 l0 n1) n13 n14 n15 l16) = false from (sm_symm (cl_4 l0 n1) (cl_5 l0 n1) (cl_6 l0 n1) (cl_7 l0 n1) n13 n14 n15 l16).trans q39) ?_
         obtain ⟨pa44, a44⟩ := e16o (cl_7 l0 n1) (cl_2 l0 n1) (cl_3 l0 n1) (cl_4 l0 n1) (cl_5 l0 n1) (cl_6 l0 n1) (up c7)
         erw [a44]
         refine good_t rfl ?_
         erw [e16n (0 : Int) (0 : Int) (0 : Int) (0 : Int) (0 : Int)]
         refine good_t rfl ?_
         exact good_leaf (i011 w k8 k12 k16)
       ·
        replace q37 := qeF q37
        obtain ⟨pa46, a46⟩ := e16o (cl_7 l0 n1) (cl_2 l0 n1) (cl_3 l0 n1) (cl_4 l0 n1) (cl_5 l0 n1) (cl_6 l0 n1) (up c7)
        erw [a46]
        refine good_t rfl ?_
        erw [e16n (0 : Int) (0 : Int) (0 : Int) (0 : Int) (0 : Int)]
        refine good_t rfl ?_
        exact good_leaf (i011 w k8 k12 k16)
     ·
      replace q33 := of_decide_eq_false q33
      erw [e29 n9 n10 n11 l12 (cl_4 l0 n1) (cl_5 l0 n1) (cl_6 l0 n1) (cl_7 l0 n1) (up k12)]
      refine good_t rfl ?_
      refine good_node (fun q49 => ?_) (fun q49 => ?_)
      ·
       replace q49 : (sm n9 n10 n11 l12 (cl_4 l0 n1) (cl_5 l0 n1) (cl_6 l0 n1) (cl_7 l0 n1)) = true := q49
       erw [e30 (cl_4 l0 n1) (cl_5 l0 n1) (cl_6 l0 n1) (cl_7 l0 n1) n9 n10 n11 l12 (up c7)]
       refine good_t rfl ?_
       refine good_t (show (sm (cl_4 l0 n1) (cl_5 l0 n1) (cl_6 l0 n1) (cl_7 l0 n1) n9 n10 n11 l12) = true from (sm_symm (cl_4 l0 n1) (cl_5 l0 n1) (cl_6 l0 n1) (cl_7 l0 n1) n9 n10 n11 l12).trans q49) ?_
       obtain ⟨pa51, a51⟩ := e16o (cl_7 l0 n1) (cl_2 l0 n1) (cl_3 l0 n1) (cl_4 l0 n1) (cl_5 l0 n1) (cl_6 l0 n1) (up c7)
       erw [a51]
       refine good_t rfl ?_
       erw [e16n (0 : Int) (0 : Int) (0 : Int) (0 : Int) (0 : Int)]
       refine good_t rfl ?_
       exact good_leaf (i011 w k8 k12 k16)
      ·
       replace q49 : (sm n9 n10 n11 l12 (cl_4 l0 n1) (cl_5 l0 n1) (cl_6 l0 n1) (cl_7 l0 n1)) = false := q49
       erw [e30 (cl_4 l0 n1) (cl_5 l0 n1) (cl_6 l0 n1) (cl_7 l0 n1) n9 n10 n11 l12 (up c7)]
       refine good_t rfl ?_
       refine good_f (show (sm (cl_4 l0 n1) (cl_5 l0 n1) (cl_6 l0 n1) (cl_7 l0 n1) n9 n10 n11 l12) = false from (sm_symm (cl_4 l0 n1) (cl_5 l0 n1) (cl_6 l0 n1) (cl_7 l0 n1) n9 n10 n11 l12).trans q49) ?_
       obtain ⟨pa54, a54⟩ := e16o (cl_7 l0 n1) (cl_2 l0 n1) (cl_3 l0 n1) (cl_4 l0 n1) (cl_5 l0 n1) (cl_6 l0 n1) (up c7)
       erw [a54]
       refine good_t rfl ?_
       erw [e16n (0 : Int) (0 : Int) (0 : Int) (0 : Int) (0 : Int)]
       refine good_t rfl ?_
       exact good_leaf (i011 w k8 k12 k16)
theorem step100 {l0 : LR} {n1 : Int} (p0 : 0 ≤ n1) (p1 : n1 < (l0.length : Int)) (hl : l0.length ≤ 60) (c7 : (cl_7 l0 n1).length ≤ 20) (n2 : Int) (n3 : Int) (b4 : Bool) (n5 : Int) (n6 : Int) (n7 : Int) (l8 : LC) (n9 : Int) (n10 : Int) (n11 : Int) (l12 : LC) (n13 : Int) (n14 : Int) (n15 : Int) (l16 : LC) (n17 : Int) (n18 : Int) (n19 : Int) (n20 : Int) (k8 : l8.length ≤ 20) (k12 : l12.length ≤ 20) (k16 : l16.length ≤ 20) : Good (StepP l0 n1) (st_L3_10 (e100 l0 n1 n2 n3 b4 n5 n6 n7 l8 n9 n10 n11 l12 n13 n14 n15 l16 n17 n18 n19 n20)).sel := by
  have w : IntKind.wrap .i64 (n1 + 1) = n1 + 1 := w64 (by omega) (by omega)
  refine Imp.good (fn_L3_10_t100_im l0 n1 n2 n3 b4 n5 n6 n7 l8 n9 n10 n11 l12 n13 n14 n15 l16 n17 n18 n19 n20 p0 p1) ?_
  unfold fn_L3_10_t100
  refine good_t (decide_eq_true (show List.length (cl_7 l0 n1) * 16 ≤ 140737488355328 by omega)) ?_
  obtain ⟨pa0, a0⟩ := e12 (cl_1 l0 n1)
  erw [a0]
  refine good_t rfl ?_
  refine good_node (fun q1 => ?_) (fun q1 => ?_)
  ·
   refine good_node (fun q2 => ?_) (fun q2 => ?_)
   ·
    replace q2 := of_decide_eq_true q2
    erw [e16n (0 : Int) (0 : Int) (0 : Int) (0 : Int) (0 : Int)]
    refine good_t rfl ?_
    obtain ⟨pa4, a4⟩ := e16o (cl_7 l0 n1) (cl_2 l0 n1) (cl_3 l0 n1) (cl_4 l0 n1) (cl_5 l0 n1) (cl_6 l0 n1) (up c7)
    erw [a4]
    refine good_t rfl ?_
    exact good_leaf (i100 w k8 k12 k16)
   ·
    replace q2 := of_decide_eq_false q2
    erw [e62 (cl_7 l0 n1) (up c7)]
    refine good_t rfl ?_
    erw [e62 (cl_7 l0 n1) (up c7)]
    refine good_t rfl ?_
    erw [e30 (cl_4 l0 n1) (cl_5 l0 n1) (cl_6 l0 n1) (cl_7 l0 n1) (cl_4 l0 n1) (cl_5 l0 n1) (cl_6 l0 n1) (cl_7 l0 n1) (up c7)]
    refine good_t rfl ?_
    refine good_f (show (!(sm (cl_4 l0 n1) (cl_5 l0 n1) (cl_6 l0 n1) (cl_7 l0 n1) (cl_4 l0 n1) (cl_5 l0 n1) (cl_6 l0 n1) (cl_7 l0 n1))) = false by rw [(show (sm (cl_4 l0 n1) (cl_5 l0 n1) (cl_6 l0 n1) (cl_7 l0 n1) (cl_4 l0 n1) (cl_5 l0 n1) (cl_6 l0 n1) (cl_7 l0 n1)) = true from sm_self (cl_4 l0 n1) (cl_5 l0 n1) (cl_6 l0 n1) (cl_7 l0 n1))]; rfl) ?_
    obtain ⟨pa8, a8⟩ := e16o (cl_7 l0 n1) n2 (cl_3 l0 n1) (cl_4 l0 n1) (cl_5 l0 n1) (cl_6 l0 n1) (up c7)
    erw [a8]
    refine good_t rfl ?_
    obtain ⟨pa9, a9⟩ := e16o (cl_7 l0 n1) (cl_2 l0 n1) (cl_3 l0 n1) (cl_4 l0 n1) (cl_5 l0 n1) (cl_6 l0 n1) (up c7)
    erw [a9]
    refine good_t rfl ?_
    erw [e16n (0 : Int) (0 : Int) (0 : Int) (0 : Int) (0 : Int)]
    refine good_t rfl ?_
    exact good_leaf (i100 w c7 nil20 k16)
  ·
   refine good_node (fun q11 => ?_) (fun q11 => ?_)
   ·
    replace q11 := qnT q11
    obtain ⟨pa12, a12⟩ := e16o (cl_7 l0 n1) (cl_2 l0 n1) (cl_3 l0 n1) (cl_4 l0 n1) (cl_5 l0 n1) (cl_6 l0 n1) (up c7)
    erw [a12]
    refine good_t rfl ?_
    erw [e16n (0 : Int) (0 : Int) (0 : Int) (0 : Int) (0 : Int)]
    refine good_t rfl ?_
    exact good_leaf (i100 w k8 k12 k16)
   ·
    replace q11 := qnF q11
    refine good_node (fun q14 => ?_) (fun q14 => ?_)
    ·
     replace q14 := of_decide_eq_true q14
     obtain ⟨pa15, a15⟩ := e16o (cl_7 l0 n1) (cl_2 l0 n1) (cl_3 l0 n1) (cl_4 l0 n1) (cl_5 l0 n1) (cl_6 l0 n1) (up c7)
     erw [a15]
     refine good_t rfl ?_
     erw [e16n (0 : Int) (0 : Int) (0 : Int) (0 : Int) (0 : Int)]
     refine good_t rfl ?_
     exact good_leaf (i100 w k8 k12 k16)
    ·
     replace q14 := of_decide_eq_false q14
     erw [e62 (cl_7 l0 n1) (up c7)]
     refine good_t rfl ?_
     refine good_node (fun q18 => ?_) (fun q18 => ?_)
     ·
      replace q18 := of_decide_eq_true q18
      obtain ⟨pa19, a19⟩ := e16o (cl_7 l0 n1) (cl_2 l0 n1) (cl_3 l0 n1) (cl_4 l0 n1) (cl_5 l0 n1) (cl_6 l0 n1) (up c7)
      erw [a19]
      refine good_t rfl ?_
      erw [e16n (0 : Int) (0 : Int) (0 : Int) (0 : Int) (0 : Int)]
      refine good_t rfl ?_
      exact good_leaf (i101 w k8 k12 c7)
     ·
      replace q18 := of_decide_eq_false q18
      obtain ⟨pa21, a21⟩ := e16o (cl_7 l0 n1) (cl_2 l0 n1) (cl_3 l0 n1) (cl_4 l0 n1) (cl_5 l0 n1) (cl_6 l0 n1) (up c7)
      erw [a21]
      refine good_t rfl ?_
      refine good_node (fun q22 => ?_) (fun q22 => ?_)
      ·
       erw [e16n (0 : Int) (0 : Int) (0 : Int) (0 : Int) (0 : Int)]
       refine good_t rfl ?_
       rw [show (cl_3 l0 n1) = n3 by omega]
       exact good_leaf (i110 w k8 c7 k16)
      ·
       erw [e31 n5 n6 n7 l8 (cl_4 l0 n1) (cl_5 l0 n1) (cl_6 l0 n1) (cl_7 l0 n1) k8]
       refine good_t rfl ?_
       erw [e32 n5 n6 n7 l8 (cl_4 l0 n1) (cl_5 l0 n1) (cl_6 l0 n1) (cl_7 l0 n1) k8]
       refine good_t rfl ?_
       erw [e30 (ior .u64 n5 (cl_4 l0 n1)) (iand .u32 n6 (cl_5 l0 n1)) (iand .u32 n7 (cl_6 l0 n1)) (mg l8 (cl_7 l0 n1)) (ior .u64 n5 (cl_4 l0 n1)) (iand .u32 n6 (cl_5 l0 n1)) (iand .u32 n7 (cl_6 l0 n1)) (mg l8 (cl_7 l0 n1)) (mgl k8)]
       refine good_t rfl ?_
       refine good_f (show (!(sm (ior .u64 n5 (cl_4 l0 n1)) (iand .u32 n6 (cl_5 l0 n1)) (iand .u32 n7 (cl_6 l0 n1)) (mg l8 (cl_7 l0 n1)) (ior .u64 n5 (cl_4 l0 n1)) (iand .u32 n6 (cl_5 l0 n1)) (iand .u32 n7 (cl_6 l0 n1)) (mg l8 (cl_7 l0 n1)))) = false by rw [(show (sm (ior .u64 n5 (cl_4 l0 n1)) (iand .u32 n6 (cl_5 l0 n1)) (iand .u32 n7 (cl_6 l0 n1)) (mg l8 (cl_7 l0 n1)) (ior .u64 n5 (cl_4 l0 n1)) (iand .u32 n6 (cl_5 l0 n1)) (iand .u32 n7 (cl_6 l0 n1)) (mg l8 (cl_7 l0 n1))) = true from sm_self (ior .u64 n5 (cl_4 l0 n1)) (iand .u32 n6 (cl_5 l0 n1)) (iand .u32 n7 (cl_6 l0 n1)) (mg l8 (cl_7 l0 n1)))]; rfl) ?_
       obtain ⟨pa27, a27⟩ := e16o (mg l8 (cl_7 l0 n1)) (0 : Int) (0 : Int) (ior .u64 n5 (cl_4 l0 n1)) (iand .u32 n6 (cl_5 l0 n1)) (iand .u32 n7 (cl_6 l0 n1)) (mgl k8)
       erw [a27]
       refine good_t rfl ?_
       rw [show (cl_3 l0 n1) = n3 by omega]
       exact good_leaf (i110 w k8 c7 k16)
theorem step101 {l0 : LR} {n1 : Int} (p0 : 0 ≤ n1) (p1 : n1 < (l0.length : Int)) (hl : l0.length ≤ 60) (c7 : (cl_7 l0 n1).length ≤ 20) (n2 : Int) (n3 : Int) (b4 : Bool) (n5 : Int) (n6 : Int) (n7 : Int) (l8 : LC) (n9 : Int) (n10 : Int) (n11 : Int) (l12 : LC) (n13 : Int) (n14 : Int) (n15 : Int) (l16 : LC) (n17 : Int) (n18 : Int) (n19 : Int) (n20 : Int) (k8 : l8.length ≤ 20) (k12 : l12.length ≤ 20) (k16 : l16.length ≤ 20) : Good (StepP l0 n1) (st_L3_10 (e101 l0 n1 n2 n3 b4 n5 n6 n7 l8 n9 n10 n11 l12 n13 n14 n15 l16 n17 n18 n19 n20)).sel := by
  have w : IntKind.wrap .i64 (n1 + 1) = n1 + 1 := w64 (by omega) (by omega)
  refine Imp.good (fn_L3_10_t101_im l0 n1 n2 n3 b4 n5 n6 n7 l8 n9 n10 n11 l12 n13 n14 n15 l16 n17 n18 n19 n20 p0 p1) ?_
  unfold fn_L3_10_t101
  refine good_t (decide_eq_true (show List.length (cl_7 l0 n1) * 16 ≤ 140737488355328 by omega)) ?_
  obtain ⟨pa0, a0⟩ := e12 (cl_1 l0 n1)
  erw [a0]
  refine good_t rfl ?_
  refine good_node (fun q1 => ?_) (fun q1 => ?_)
  ·
   refine good_node (fun q2 => ?_) (fun q2 => ?_)
   ·
    replace q2 := of_decide_eq_true q2
    erw [e16n (0 : Int) (0 : Int) (0 : Int) (0 : Int) (0 : Int)]
    refine good_t rfl ?_
    obtain ⟨pa4, a4⟩ := e16o (cl_7 l0 n1) (cl_2 l0 n1) (cl_3 l0 n1) (cl_4 l0 n1) (cl_5 l0 n1) (cl_6 l0 n1) (up c7)
    erw [a4]
    refine good_t rfl ?_
    exact good_leaf (i101 w k8 k12 k16)
   ·
    replace q2 := of_decide_eq_false q2
    erw [e62 (cl_7 l0 n1) (up c7)]
    refine good_t rfl ?_
    refine good_node (fun q6 => ?_) (fun q6 => ?_)
    ·
     replace q6 := of_decide_eq_true q6
     refine good_node (fun q7 => ?_) (fun q7 => ?_)
     ·
      replace q7 := qeT q7
      erw [e62 (cl_7 l0 n1) (up c7)]
      refine good_t rfl ?_
      erw [e30 (cl_4 l0 n1) (cl_5 l0 n1) (cl_6 l0 n1) (cl_7 l0 n1) (cl_4 l0 n1) (cl_5 l0 n1) (cl_6 l0 n1) (cl_7 l0 n1) (up c7)]
      refine good_t rfl ?_
      refine good_f (show (!(sm (cl_4 l0 n1) (cl_5 l0 n1) (cl_6 l0 n1) (cl_7 l0 n1) (cl_4 l0 n1) (cl_5 l0 n1) (cl_6 l0 n1) (cl_7 l0 n1))) = false by rw [(show (sm (cl_4 l0 n1) (cl_5 l0 n1) (cl_6 l0 n1) (cl_7 l0 n1) (cl_4 l0 n1) (cl_5 l0 n1) (cl_6 l0 n1) (cl_7 l0 n1)) = true from sm_self (cl_4 l0 n1) (cl_5 l0 n1) (cl_6 l0 n1) (cl_7 l0 n1))]; rfl) ?_
      obtain ⟨pa10, a10⟩ := e16o (cl_7 l0 n1) n2 (cl_3 l0 n1) (cl_4 l0 n1) (cl_5 l0 n1) (cl_6 l0 n1) (up c7)
      erw [a10]
      refine good_t rfl ?_
      obtain ⟨pa11, a11⟩ := e16o (cl_7 l0 n1) (cl_2 l0 n1) (cl_3 l0 n1) (cl_4 l0 n1) (cl_5 l0 n1) (cl_6 l0 n1) (up c7)
      erw [a11]
      refine good_t rfl ?_
      erw [e31 (cl_4 l0 n1) (cl_5 l0 n1) (cl_6 l0 n1) (cl_7 l0 n1) n13 n14 n15 l16 c7]
      refine good_t rfl ?_
      erw [e32 (cl_4 l0 n1) (cl_5 l0 n1) (cl_6 l0 n1) (cl_7 l0 n1) n13 n14 n15 l16 c7]
      refine good_t rfl ?_
      erw [e30 (ior .u64 (cl_4 l0 n1) n13) (iand .u32 (cl_5 l0 n1) n14) (iand .u32 (cl_6 l0 n1) n15) (mg (cl_7 l0 n1) l16) (ior .u64 (cl_4 l0 n1) n13) (iand .u32 (cl_5 l0 n1) n14) (iand .u32 (cl_6 l0 n1) n15) (mg (cl_7 l0 n1) l16) (mgl c7)]
      refine good_t rfl ?_
      refine good_f (show (!(sm (ior .u64 (cl_4 l0 n1) n13) (iand .u32 (cl_5 l0 n1) n14) (iand .u32 (cl_6 l0 n1) n15) (mg (cl_7 l0 n1) l16) (ior .u64 (cl_4 l0 n1) n13) (iand .u32 (cl_5 l0 n1) n14) (iand .u32 (cl_6 l0 n1) n15) (mg (cl_7 l0 n1) l16))) = false by rw [(show (sm (ior .u64 (cl_4 l0 n1) n13) (iand .u32 (cl_5 l0 n1) n14) (iand .u32 (cl_6 l0 n1) n15) (mg (cl_7 l0 n1) l16) (ior .u64 (cl_4 l0 n1) n13) (iand .u32 (cl_5 l0 n1) n14) (iand .u32 (cl_6 l0 n1) n15) (mg (cl_7 l0 n1) l16)) = true from sm_self (ior .u64 (cl_4 l0 n1) n13) (iand .u32 (cl_5 l0 n1) n14) (iand .u32 (cl_6 l0 n1) n15) (mg (cl_7 l0 n1) l16))]; rfl) ?_
      obtain ⟨pa15, a15⟩ := e16o (mg (cl_7 l0 n1) l16) (0 : Int) (0 : Int) (ior .u64 (cl_4 l0 n1) n13) (iand .u32 (cl_5 l0 n1) n14) (iand .u32 (cl_6 l0 n1) n15) (mgl c7)
      erw [a15]
      refine good_t rfl ?_
      rw [show (n18 == cl_3 l0 n1) = true from beq_iff_eq.2 (by omega)]
      rw [show (decide (n18 > (cl_3 l0 n1 : Int))) = false from decide_eq_false (by omega)]
      rw [show n18 = (cl_3 l0 n1) by omega]
      exact good_leaf (i110 w c7 k16 k16)
     ·
      replace q7 := qeF q7
      erw [e62 (cl_7 l0 n1) (up c7)]
      refine good_t rfl ?_
      erw [e30 (cl_4 l0 n1) (cl_5 l0 n1) (cl_6 l0 n1) (cl_7 l0 n1) (cl_4 l0 n1) (cl_5 l0 n1) (cl_6 l0 n1) (cl_7 l0 n1) (up c7)]
      refine good_t rfl ?_
      refine good_f (show (!(sm (cl_4 l0 n1) (cl_5 l0 n1) (cl_6 l0 n1) (cl_7 l0 n1) (cl_4 l0 n1) (cl_5 l0 n1) (cl_6 l0 n1) (cl_7 l0 n1))) = false by rw [(show (sm (cl_4 l0 n1) (cl_5 l0 n1) (cl_6 l0 n1) (cl_7 l0 n1) (cl_4 l0 n1) (cl_5 l0 n1) (cl_6 l0 n1) (cl_7 l0 n1)) = true from sm_self (cl_4 l0 n1) (cl_5 l0 n1) (cl_6 l0 n1) (cl_7 l0 n1))]; rfl) ?_
      obtain ⟨pa18, a18⟩ := e16o (cl_7 l0 n1) n2 (cl_3 l0 n1) (cl_4 l0 n1) (cl_5 l0 n1) (cl_6 l0 n1) (up c7)
      erw [a18]
      refine good_t rfl ?_
      obtain ⟨pa19, a19⟩ := e16o (cl_7 l0 n1) (cl_2 l0 n1) (cl_3 l0 n1) (cl_4 l0 n1) (cl_5 l0 n1) (cl_6 l0 n1) (up c7)
      erw [a19]
      refine good_t rfl ?_
      erw [e16n (0 : Int) (0 : Int) (0 : Int) (0 : Int) (0 : Int)]
      refine good_t rfl ?_
      rw [show (n18 == cl_3 l0 n1) = false from beq_eq_false_iff_ne.2 (by omega)]
      rw [show (decide (n18 > (cl_3 l0 n1 : Int))) = false from decide_eq_false (by omega)]
      exact good_leaf (i100 w c7 nil20 k16)
    ·
     replace q6 := of_decide_eq_false q6
     erw [e62 (cl_7 l0 n1) (up c7)]
     refine good_t rfl ?_
     erw [e30 (cl_4 l0 n1) (cl_5 l0 n1) (cl_6 l0 n1) (cl_7 l0 n1) (cl_4 l0 n1) (cl_5 l0 n1) (cl_6 l0 n1) (cl_7 l0 n1) (up c7)]
     refine good_t rfl ?_
     refine good_f (show (!(sm (cl_4 l0 n1) (cl_5 l0 n1) (cl_6 l0 n1) (cl_7 l0 n1) (cl_4 l0 n1) (cl_5 l0 n1) (cl_6 l0 n1) (cl_7 l0 n1))) = false by rw [(show (sm (cl_4 l0 n1) (cl_5 l0 n1) (cl_6 l0 n1) (cl_7 l0 n1) (cl_4 l0 n1) (cl_5 l0 n1) (cl_6 l0 n1) (cl_7 l0 n1)) = true from sm_self (cl_4 l0 n1) (cl_5 l0 n1) (cl_6 l0 n1) (cl_7 l0 n1))]; rfl) ?_
     obtain ⟨pa23, a23⟩ := e16o (cl_7 l0 n1) n2 (cl_3 l0 n1) (cl_4 l0 n1) (cl_5 l0 n1) (cl_6 l0 n1) (up c7)
     erw [a23]
     refine good_t rfl ?_
     obtain ⟨pa24, a24⟩ := e16o (cl_7 l0 n1) (cl_2 l0 n1) (cl_3 l0 n1) (cl_4 l0 n1) (cl_5 l0 n1) (cl_6 l0 n1) (up c7)
     erw [a24]
     refine good_t rfl ?_
     erw [e16n (0 : Int) (0 : Int) (0 : Int) (0 : Int) (0 : Int)]
     refine good_t rfl ?_
     rw [show (n18 == cl_3 l0 n1) = false from beq_eq_false_iff_ne.2 (by omega)]
     rw [show (decide (n18 > (cl_3 l0 n1 : Int))) = true from decide_eq_true (by omega)]
     exact good_leaf (i101 w c7 nil20 k16)
  ·
   refine good_node (fun q26 => ?_) (fun q26 => ?_)
   ·
    replace q26 := qnT q26
    obtain ⟨pa27, a27⟩ := e16o (cl_7 l0 n1) (cl_2 l0 n1) (cl_3 l0 n1) (cl_4 l0 n1) (cl_5 l0 n1) (cl_6 l0 n1) (up c7)
    erw [a27]
    refine good_t rfl ?_
    erw [e16n (0 : Int) (0 : Int) (0 : Int) (0 : Int) (0 : Int)]
    refine good_t rfl ?_
    exact good_leaf (i101 w k8 k12 k16)
   ·
    replace q26 := qnF q26
    refine good_node (fun q29 => ?_) (fun q29 => ?_)
    ·
     replace q29 := of_decide_eq_true q29
     obtain ⟨pa30, a30⟩ := e16o (cl_7 l0 n1) (cl_2 l0 n1) (cl_3 l0 n1) (cl_4 l0 n1) (cl_5 l0 n1) (cl_6 l0 n1) (up c7)
     erw [a30]
     refine good_t rfl ?_
     erw [e16n (0 : Int) (0 : Int) (0 : Int) (0 : Int) (0 : Int)]
     refine good_t rfl ?_
     exact good_leaf (i101 w k8 k12 k16)
    ·
     replace q29 := of_decide_eq_false q29
     erw [e62 (cl_7 l0 n1) (up c7)]
     refine good_t rfl ?_
     refine good_node (fun q33 => ?_) (fun q33 => ?_)
     ·
      replace q33 := of_decide_eq_true q33
      refine good_node (fun q34 => ?_) (fun q34 => ?_)
      ·
       replace q34 := of_decide_eq_true q34
       obtain ⟨pa35, a35⟩ := e16o (cl_7 l0 n1) (cl_2 l0 n1) (cl_3 l0 n1) (cl_4 l0 n1) (cl_5 l0 n1) (cl_6 l0 n1) (up c7)
       erw [a35]
       refine good_t rfl ?_
       erw [e16n (0 : Int) (0 : Int) (0 : Int) (0 : Int) (0 : Int)]
       refine good_t rfl ?_
       exact good_leaf (i101 w k8 k12 c7)
      ·
       replace q34 := of_decide_eq_false q34
       refine good_node (fun q37 => ?_) (fun q37 => ?_)
       ·
        replace q37 := qeT q37
        erw [e29 n13 n14 n15 l16 (cl_4 l0 n1) (cl_5 l0 n1) (cl_6 l0 n1) (cl_7 l0 n1) (up k16)]
        refine good_t rfl ?_
        refine good_node (fun q39 => ?_) (fun q39 => ?_)
        ·
         replace q39 : (sm n13 n14 n15 l16 (cl_4 l0 n1) (cl_5 l0 n1) (cl_6 l0 n1) (cl_7 l0 n1)) = true := q39
         erw [e30 (cl_4 l0 n1) (cl_5 l0 n1) (cl_6 l0 n1) (cl_7 l0 n1) n13 n14 n15 l16 (up c7)]
         refine good_t rfl ?_
         refine good_t (show (sm (cl_4 l0 n1) (cl_5 l0 n1) (cl_6 l0 n1) (cl_7 l0 n1) n13 n14 n15 l16) = true from (sm_symm (cl_4 l0 n1) (cl_5 l0 n1) (cl_6 l0 n1) (cl_7 l0 n1) n13 n14 n15 l16).trans q39) ?_
         obtain ⟨pa41, a41⟩ := e16o (cl_7 l0 n1) (cl_2 l0 n1) (cl_3 l0 n1) (cl_4 l0 n1) (cl_5 l0 n1) (cl_6 l0 n1) (up c7)
         erw [a41]
         refine good_t rfl ?_
         erw [e16n (0 : Int) (0 : Int) (0 : Int) (0 : Int) (0 : Int)]
         refine good_t rfl ?_
         exact good_leaf (i101 w k8 k12 k16)
        ·
         replace q39 : (sm n13 n14 n15 l16 (cl_4 l0 n1) (cl_5 l0 n1) (cl_6 l0 n1) (cl_7 l0 n1)) = false := q39
         erw [e30 (cl_4 l0 n1) (cl_5 l0 n1) (cl_6 l0 n1) (cl_7 l0 n1) n13 n14 n15 l16 (up c7)]
         refine good_t rfl ?_
         refine good_f (show (sm (cl_4 l0 n1) (cl_5 l0 n1) (cl_6 l0 n1) (cl_7 l0 n1) n13 n14 n15 l16) = false from (sm_symm (cl_4 l0 n1) (cl_5 l0 n1) (cl_6 l0 n1) (cl_7 l0 n1) n13 n14 n15 l16).trans q39) ?_
         obtain ⟨pa44, a44⟩ := e16o (cl_7 l0 n1) (cl_2 l0 n1) (cl_3 l0 n1) (cl_4 l0 n1) (cl_5 l0 n1) (cl_6 l0 n1) (up c7)
         erw [a44]
         refine good_t rfl ?_
         erw [e16n (0 : Int) (0 : Int) (0 : Int) (0 : Int) (0 : Int)]
         refine good_t rfl ?_
         exact good_leaf (i101 w k8 k12 k16)
       ·
        replace q37 := qeF q37
        obtain ⟨pa46, a46⟩ := e16o (cl_7 l0 n1) (cl_2 l0 n1) (cl_3 l0 n1) (cl_4 l0 n1) (cl_5 l0 n1) (cl_6 l0 n1) (up c7)
        erw [a46]
        refine good_t rfl ?_
        erw [e16n (0 : Int) (0 : Int) (0 : Int) (0 : Int) (0 : Int)]
        refine good_t rfl ?_
        exact good_leaf (i101 w k8 k12 k16)
     ·
      replace q33 := of_decide_eq_false q33
      obtain ⟨pa48, a48⟩ := e16o (cl_7 l0 n1) (cl_2 l0 n1) (cl_3 l0 n1) (cl_4 l0 n1) (cl_5 l0 n1) (cl_6 l0 n1) (up c7)
      erw [a48]
      refine good_t rfl ?_
      refine good_node (fun q49 => ?_) (fun q49 => ?_)
      ·
       erw [e16n (0 : Int) (0 : Int) (0 : Int) (0 : Int) (0 : Int)]
       refine good_t rfl ?_
       rw [show (cl_3 l0 n1) = n3 by omega]
       exact good_leaf (i111 w k8 c7 k16)
      ·
       erw [e31 n5 n6 n7 l8 (cl_4 l0 n1) (cl_5 l0 n1) (cl_6 l0 n1) (cl_7 l0 n1) k8]
       refine good_t rfl ?_
       erw [e32 n5 n6 n7 l8 (cl_4 l0 n1) (cl_5 l0 n1) (cl_6 l0 n1) (cl_7 l0 n1) k8]
       refine good_t rfl ?_
       erw [e30 (ior .u64 n5 (cl_4 l0 n1)) (iand .u32 n6 (cl_5 l0 n1)) (iand .u32 n7 (cl_6 l0 n1)) (mg l8 (cl_7 l0 n1)) (ior .u64 n5 (cl_4 l0 n1)) (iand .u32 n6 (cl_5 l0 n1)) (iand .u32 n7 (cl_6 l0 n1)) (mg l8 (cl_7 l0 n1)) (mgl k8)]
       refine good_t rfl ?_
       refine good_f (show (!(sm (ior .u64 n5 (cl_4 l0 n1)) (iand .u32 n6 (cl_5 l0 n1)) (iand .u32 n7 (cl_6 l0 n1)) (mg l8 (cl_7 l0 n1)) (ior .u64 n5 (cl_4 l0 n1)) (iand .u32 n6 (cl_5 l0 n1)) (iand .u32 n7 (cl_6 l0 n1)) (mg l8 (cl_7 l0 n1)))) = false by rw [(show (sm (ior .u64 n5 (cl_4 l0 n1)) (iand .u32 n6 (cl_5 l0 n1)) (iand .u32 n7 (cl_6 l0 n1)) (mg l8 (cl_7 l0 n1)) (ior .u64 n5 (cl_4 l0 n1)) (iand .u32 n6 (cl_5 l0 n1)) (iand .u32 n7 (cl_6 l0 n1)) (mg l8 (cl_7 l0 n1))) = true from sm_self (ior .u64 n5 (cl_4 l0 n1)) (iand .u32 n6 (cl_5 l0 n1)) (iand .u32 n7 (cl_6 l0 n1)) (mg l8 (cl_7 l0 n1)))]; rfl) ?_
       obtain ⟨pa54, a54⟩ := e16o (mg l8 (cl_7 l0 n1)) (0 : Int) (0 : Int) (ior .u64 n5 (cl_4 l0 n1)) (iand .u32 n6 (cl_5 l0 n1)) (iand .u32 n7 (cl_6 l0 n1)) (mgl k8)
       erw [a54]
       refine good_t rfl ?_
       rw [show (cl_3 l0 n1) = n3 by omega]
       exact good_leaf (i111 w k8 c7 k16)
theorem step110 {l0 : LR} {n1 : Int} (p0 : 0 ≤ n1) (p1 : n1 < (l0.length : Int)) (hl : l0.length ≤ 60) (c7 : (cl_7 l0 n1).length ≤ 20) (n2 : Int) (n3 : Int) (b4 : Bool) (n5 : Int) (n6 : Int) (n7 : Int) (l8 : LC) (n9 : Int) (n10 : Int) (n11 : Int) (l12 : LC) (n13 : Int) (n14 : Int) (n15 : Int) (l16 : LC) (n17 : Int) (n18 : Int) (n19 : Int) (n20 : Int) (n21 : Int) (k8 : l8.length ≤ 20) (k12 : l12.length ≤ 20) (k16 : l16.length ≤ 20) : Good (StepP l0 n1) (st_L3_10 (e110 l0 n1 n2 n3 b4 n5 n6 n7 l8 n9 n10 n11 l12 n13 n14 n15 l16 n17 n18 n19 n20 n21)).sel := by
  have w : IntKind.wrap .i64 (n1 + 1) = n1 + 1 := w64 (by omega) (by omega)
  refine Imp.good (fn_L3_10_t110_im l0 n1 n2 n3 b4 n5 n6 n7 l8 n9 n10 n11 l12 n13 n14 n15 l16 n17 n18 n19 n20 n21 p0 p1) ?_
  unfold fn_L3_10_t110
  refine good_t (decide_eq_true (show List.length (cl_7 l0 n1) * 16 ≤ 140737488355328 by omega)) ?_
  obtain ⟨pa0, a0⟩ := e12 (cl_1 l0 n1)
  erw [a0]
  refine good_t rfl ?_
  refine good_node (fun q1 => ?_) (fun q1 => ?_)
  ·
   refine good_node (fun q2 => ?_) (fun q2 => ?_)
   ·
    replace q2 := of_decide_eq_true q2
    erw [e16n (0 : Int) (0 : Int) (0 : Int) (0 : Int) (0 : Int)]
    refine good_t rfl ?_
    obtain ⟨pa4, a4⟩ := e16o (cl_7 l0 n1) (cl_2 l0 n1) (cl_3 l0 n1) (cl_4 l0 n1) (cl_5 l0 n1) (cl_6 l0 n1) (up c7)
    erw [a4]
    refine good_t rfl ?_
    refine good_node (fun q5 => ?_) (fun q5 => ?_)
    ·
     exact good_leaf (i110 w k8 k12 k16)
    ·
     erw [e31 n5 n6 n7 l8 n9 n10 n11 l12 k8]
     refine good_t rfl ?_
     erw [e32 n5 n6 n7 l8 n9 n10 n11 l12 k8]
     refine good_t rfl ?_
     erw [e30 (ior .u64 n5 n9) (iand .u32 n6 n10) (iand .u32 n7 n11) (mg l8 l12) (ior .u64 n5 n9) (iand .u32 n6 n10) (iand .u32 n7 n11) (mg l8 l12) (mgl k8)]
     refine good_t rfl ?_
     refine good_f (show (!(sm (ior .u64 n5 n9) (iand .u32 n6 n10) (iand .u32 n7 n11) (mg l8 l12) (ior .u64 n5 n9) (iand .u32 n6 n10) (iand .u32 n7 n11) (mg l8 l12))) = false by rw [(show (sm (ior .u64 n5 n9) (iand .u32 n6 n10) (iand .u32 n7 n11) (mg l8 l12) (ior .u64 n5 n9) (iand .u32 n6 n10) (iand .u32 n7 n11) (mg l8 l12)) = true from sm_self (ior .u64 n5 n9) (iand .u32 n6 n10) (iand .u32 n7 n11) (mg l8 l12))]; rfl) ?_
     obtain ⟨pa9, a9⟩ := e16o (mg l8 l12) (0 : Int) (0 : Int) (ior .u64 n5 n9) (iand .u32 n6 n10) (iand .u32 n7 n11) (mgl k8)
     erw [a9]
     refine good_t rfl ?_
     exact good_leaf (i110 w k8 k12 k16)
   ·
    replace q2 := of_decide_eq_false q2
    erw [e62 (cl_7 l0 n1) (up c7)]
    refine good_t rfl ?_
    erw [e62 (cl_7 l0 n1) (up c7)]
    refine good_t rfl ?_
    erw [e30 (cl_4 l0 n1) (cl_5 l0 n1) (cl_6 l0 n1) (cl_7 l0 n1) (cl_4 l0 n1) (cl_5 l0 n1) (cl_6 l0 n1) (cl_7 l0 n1) (up c7)]
    refine good_t rfl ?_
    refine good_f (show (!(sm (cl_4 l0 n1) (cl_5 l0 n1) (cl_6 l0 n1) (cl_7 l0 n1) (cl_4 l0 n1) (cl_5 l0 n1) (cl_6 l0 n1) (cl_7 l0 n1))) = false by rw [(show (sm (cl_4 l0 n1) (cl_5 l0 n1) (cl_6 l0 n1) (cl_7 l0 n1) (cl_4 l0 n1) (cl_5 l0 n1) (cl_6 l0 n1) (cl_7 l0 n1)) = true from sm_self (cl_4 l0 n1) (cl_5 l0 n1) (cl_6 l0 n1) (cl_7 l0 n1))]; rfl) ?_
    obtain ⟨pa13, a13⟩ := e16o (cl_7 l0 n1) n2 (cl_3 l0 n1) (cl_4 l0 n1) (cl_5 l0 n1) (cl_6 l0 n1) (up c7)
    erw [a13]
    refine good_t rfl ?_
    obtain ⟨pa14, a14⟩ := e16o (cl_7 l0 n1) (cl_2 l0 n1) (cl_3 l0 n1) (cl_4 l0 n1) (cl_5 l0 n1) (cl_6 l0 n1) (up c7)
    erw [a14]
    refine good_t rfl ?_
    erw [e16n (0 : Int) (0 : Int) (0 : Int) (0 : Int) (0 : Int)]
    refine good_t rfl ?_
    exact good_leaf (i100 w c7 nil20 k16)
  ·
   refine good_node (fun q16 => ?_) (fun q16 => ?_)
   ·
    replace q16 := qnT q16
    obtain ⟨pa17, a17⟩ := e16o (cl_7 l0 n1) (cl_2 l0 n1) (cl_3 l0 n1) (cl_4 l0 n1) (cl_5 l0 n1) (cl_6 l0 n1) (up c7)
    erw [a17]
    refine good_t rfl ?_
    refine good_node (fun q18 => ?_) (fun q18 => ?_)
    ·
     erw [e16n (0 : Int) (0 : Int) (0 : Int) (0 : Int) (0 : Int)]
     refine good_t rfl ?_
     exact good_leaf (i110 w k8 k12 k16)
    ·
     erw [e31 n5 n6 n7 l8 n9 n10 n11 l12 k8]
     refine good_t rfl ?_
     erw [e32 n5 n6 n7 l8 n9 n10 n11 l12 k8]
     refine good_t rfl ?_
     erw [e30 (ior .u64 n5 n9) (iand .u32 n6 n10) (iand .u32 n7 n11) (mg l8 l12) (ior .u64 n5 n9) (iand .u32 n6 n10) (iand .u32 n7 n11) (mg l8 l12) (mgl k8)]
     refine good_t rfl ?_
     refine good_f (show (!(sm (ior .u64 n5 n9) (iand .u32 n6 n10) (iand .u32 n7 n11) (mg l8 l12) (ior .u64 n5 n9) (iand .u32 n6 n10) (iand .u32 n7 n11) (mg l8 l12))) = false by rw [(show (sm (ior .u64 n5 n9) (iand .u32 n6 n10) (iand .u32 n7 n11) (mg l8 l12) (ior .u64 n5 n9) (iand .u32 n6 n10) (iand .u32 n7 n11) (mg l8 l12)) = true from sm_self (ior .u64 n5 n9) (iand .u32 n6 n10) (iand .u32 n7 n11) (mg l8 l12))]; rfl) ?_
     obtain ⟨pa23, a23⟩ := e16o (mg l8 l12) (0 : Int) (0 : Int) (ior .u64 n5 n9) (iand .u32 n6 n10) (iand .u32 n7 n11) (mgl k8)
     erw [a23]
     refine good_t rfl ?_
     exact good_leaf (i110 w k8 k12 k16)
   ·
    replace q16 := qnF q16
    refine good_node (fun q24 => ?_) (fun q24 => ?_)
    ·
     replace q24 := of_decide_eq_true q24
     obtain ⟨pa25, a25⟩ := e16o (cl_7 l0 n1) (cl_2 l0 n1) (cl_3 l0 n1) (cl_4 l0 n1) (cl_5 l0 n1) (cl_6 l0 n1) (up c7)
     erw [a25]
     refine good_t rfl ?_
     refine good_node (fun q26 => ?_) (fun q26 => ?_)
     ·
      erw [e16n (0 : Int) (0 : Int) (0 : Int) (0 : Int) (0 : Int)]
      refine good_t rfl ?_
      exact good_leaf (i110 w k8 k12 k16)
     ·
      erw [e31 n5 n6 n7 l8 n9 n10 n11 l12 k8]
      refine good_t rfl ?_
      erw [e32 n5 n6 n7 l8 n9 n10 n11 l12 k8]
      refine good_t rfl ?_
      erw [e30 (ior .u64 n5 n9) (iand .u32 n6 n10) (iand .u32 n7 n11) (mg l8 l12) (ior .u64 n5 n9) (iand .u32 n6 n10) (iand .u32 n7 n11) (mg l8 l12) (mgl k8)]
      refine good_t rfl ?_
      refine good_f (show (!(sm (ior .u64 n5 n9) (iand .u32 n6 n10) (iand .u32 n7 n11) (mg l8 l12) (ior .u64 n5 n9) (iand .u32 n6 n10) (iand .u32 n7 n11) (mg l8 l12))) = false by rw [(show (sm (ior .u64 n5 n9) (iand .u32 n6 n10) (iand .u32 n7 n11) (mg l8 l12) (ior .u64 n5 n9) (iand .u32 n6 n10) (iand .u32 n7 n11) (mg l8 l12)) = true from sm_self (ior .u64 n5 n9) (iand .u32 n6 n10) (iand .u32 n7 n11) (mg l8 l12))]; rfl) ?_
      obtain ⟨pa31, a31⟩ := e16o (mg l8 l12) (0 : Int) (0 : Int) (ior .u64 n5 n9) (iand .u32 n6 n10) (iand .u32 n7 n11) (mgl k8)
      erw [a31]
      refine good_t rfl ?_
      exact good_leaf (i110 w k8 k12 k16)
    ·
     replace q24 := of_decide_eq_false q24
     erw [e62 (cl_7 l0 n1) (up c7)]
     refine good_t rfl ?_
     refine good_node (fun q33 => ?_) (fun q33 => ?_)
     ·
      replace q33 := of_decide_eq_true q33
      obtain ⟨pa34, a34⟩ := e16o (cl_7 l0 n1) (cl_2 l0 n1) (cl_3 l0 n1) (cl_4 l0 n1) (cl_5 l0 n1) (cl_6 l0 n1) (up c7)
      erw [a34]
      refine good_t rfl ?_
      refine good_node (fun q35 => ?_) (fun q35 => ?_)
      ·
       erw [e16n (0 : Int) (0 : Int) (0 : Int) (0 : Int) (0 : Int)]
       refine good_t rfl ?_
       exact good_leaf (i111 w k8 k12 c7)
      ·
       erw [e31 n5 n6 n7 l8 n9 n10 n11 l12 k8]
       refine good_t rfl ?_
       erw [e32 n5 n6 n7 l8 n9 n10 n11 l12 k8]
       refine good_t rfl ?_
       erw [e30 (ior .u64 n5 n9) (iand .u32 n6 n10) (iand .u32 n7 n11) (mg l8 l12) (ior .u64 n5 n9) (iand .u32 n6 n10) (iand .u32 n7 n11) (mg l8 l12) (mgl k8)]
       refine good_t rfl ?_
       refine good_f (show (!(sm (ior .u64 n5 n9) (iand .u32 n6 n10) (iand .u32 n7 n11) (mg l8 l12) (ior .u64 n5 n9) (iand .u32 n6 n10) (iand .u32 n7 n11) (mg l8 l12))) = false by rw [(show (sm (ior .u64 n5 n9) (iand .u32 n6 n10) (iand .u32 n7 n11) (mg l8 l12) (ior .u64 n5 n9) (iand .u32 n6 n10) (iand .u32 n7 n11) (mg l8 l12)) = true from sm_self (ior .u64 n5 n9) (iand .u32 n6 n10) (iand .u32 n7 n11) (mg l8 l12))]; rfl) ?_
       obtain ⟨pa40, a40⟩ := e16o (mg l8 l12) (0 : Int) (0 : Int) (ior .u64 n5 n9) (iand .u32 n6 n10) (iand .u32 n7 n11) (mgl k8)
       erw [a40]
       refine good_t rfl ?_
       exact good_leaf (i111 w k8 k12 c7)
     ·
      replace q33 := of_decide_eq_false q33
      erw [e29 n9 n10 n11 l12 (cl_4 l0 n1) (cl_5 l0 n1) (cl_6 l0 n1) (cl_7 l0 n1) (up k12)]
      refine good_t rfl ?_
      refine good_node (fun q42 => ?_) (fun q42 => ?_)
      ·
       replace q42 : (sm n9 n10 n11 l12 (cl_4 l0 n1) (cl_5 l0 n1) (cl_6 l0 n1) (cl_7 l0 n1)) = true := q42
       erw [e30 (cl_4 l0 n1) (cl_5 l0 n1) (cl_6 l0 n1) (cl_7 l0 n1) n9 n10 n11 l12 (up c7)]
       refine good_t rfl ?_
       refine good_t (show (sm (cl_4 l0 n1) (cl_5 l0 n1) (cl_6 l0 n1) (cl_7 l0 n1) n9 n10 n11 l12) = true from (sm_symm (cl_4 l0 n1) (cl_5 l0 n1) (cl_6 l0 n1) (cl_7 l0 n1) n9 n10 n11 l12).trans q42) ?_
       obtain ⟨pa44, a44⟩ := e16o (cl_7 l0 n1) (cl_2 l0 n1) (cl_3 l0 n1) (cl_4 l0 n1) (cl_5 l0 n1) (cl_6 l0 n1) (up c7)
       erw [a44]
       refine good_t rfl ?_
       refine good_node (fun q45 => ?_) (fun q45 => ?_)
       ·
        erw [e16n (0 : Int) (0 : Int) (0 : Int) (0 : Int) (0 : Int)]
        refine good_t rfl ?_
        exact good_leaf (i110 w k8 k12 k16)
       ·
        erw [e31 n5 n6 n7 l8 n9 n10 n11 l12 k8]
        refine good_t rfl ?_
        erw [e32 n5 n6 n7 l8 n9 n10 n11 l12 k8]
        refine good_t rfl ?_
        erw [e30 (ior .u64 n5 n9) (iand .u32 n6 n10) (iand .u32 n7 n11) (mg l8 l12) (ior .u64 n5 n9) (iand .u32 n6 n10) (iand .u32 n7 n11) (mg l8 l12) (mgl k8)]
        refine good_t rfl ?_
        refine good_f (show (!(sm (ior .u64 n5 n9) (iand .u32 n6 n10) (iand .u32 n7 n11) (mg l8 l12) (ior .u64 n5 n9) (iand .u32 n6 n10) (iand .u32 n7 n11) (mg l8 l12))) = false by rw [(show (sm (ior .u64 n5 n9) (iand .u32 n6 n10) (iand .u32 n7 n11) (mg l8 l12) (ior .u64 n5 n9) (iand .u32 n6 n10) (iand .u32 n7 n11) (mg l8 l12)) = true from sm_self (ior .u64 n5 n9) (iand .u32 n6 n10) (iand .u32 n7 n11) (mg l8 l12))]; rfl) ?_
        obtain ⟨pa50, a50⟩ := e16o (mg l8 l12) (0 : Int) (0 : Int) (ior .u64 n5 n9) (iand .u32 n6 n10) (iand .u32 n7 n11) (mgl k8)
        erw [a50]
        refine good_t rfl ?_
        exact good_leaf (i110 w k8 k12 k16)
      ·
       replace q42 : (sm n9 n10 n11 l12 (cl_4 l0 n1) (cl_5 l0 n1) (cl_6 l0 n1) (cl_7 l0 n1)) = false := q42
       erw [e30 (cl_4 l0 n1) (cl_5 l0 n1) (cl_6 l0 n1) (cl_7 l0 n1) n9 n10 n11 l12 (up c7)]
       refine good_t rfl ?_
       refine good_f (show (sm (cl_4 l0 n1) (cl_5 l0 n1) (cl_6 l0 n1) (cl_7 l0 n1) n9 n10 n11 l12) = false from (sm_symm (cl_4 l0 n1) (cl_5 l0 n1) (cl_6 l0 n1) (cl_7 l0 n1) n9 n10 n11 l12).trans q42) ?_
       obtain ⟨pa52, a52⟩ := e16o (cl_7 l0 n1) (cl_2 l0 n1) (cl_3 l0 n1) (cl_4 l0 n1) (cl_5 l0 n1) (cl_6 l0 n1) (up c7)
       erw [a52]
       refine good_t rfl ?_
       erw [e16n (0 : Int) (0 : Int) (0 : Int) (0 : Int) (0 : Int)]
       refine good_t rfl ?_
       exact good_leaf (i110 w k8 k12 k16)
theorem step111 {l0 : LR} {n1 : Int} (p0 : 0 ≤ n1) (p1 : n1 < (l0.length : Int)) (hl : l0.length ≤ 60) (c7 : (cl_7 l0 n1).length ≤ 20) (n2 : Int) (n3 : Int) (b4 : Bool) (n5 : Int) (n6 : Int) (n7 : Int) (l8 : LC) (n9 : Int) (n10 : Int) (n11 : Int) (l12 : LC) (n13 : Int) (n14 : Int) (n15 : Int) (l16 : LC) (n17 : Int) (n18 : Int) (n19 : Int) (n20 : Int) (n21 : Int) (k8 : l8.length ≤ 20) (k12 : l12.length ≤ 20) (k16 : l16.length ≤ 20) : Good (StepP l0 n1) (st_L3_10 (e111 l0 n1 n2 n3 b4 n5 n6 n7 l8 n9 n10 n11 l12 n13 n14 n15 l16 n17 n18 n19 n20 n21)).sel := by
  have w : IntKind.wrap .i64 (n1 + 1) = n1 + 1 := w64 (by omega) (by omega)
  refine Imp.good (fn_L3_10_t111_im l0 n1 n2 n3 b4 n5 n6 n7 l8 n9 n10 n11 l12 n13 n14 n15 l16 n17 n18 n19 n20 n21 p0 p1) ?_
  unfold fn_L3_10_t111
  refine good_t (decide_eq_true (show List.length (cl_7 l0 n1) * 16 ≤ 140737488355328 by omega)) ?_
  obtain ⟨pa0, a0⟩ := e12 (cl_1 l0 n1)
  erw [a0]
  refine good_t rfl ?_
  refine good_node (fun q1 => ?_) (fun q1 => ?_)
  ·
   refine good_node (fun q2 => ?_) (fun q2 => ?_)
   ·
    replace q2 := of_decide_eq_true q2
    erw [e16n (0 : Int) (0 : Int) (0 : Int) (0 : Int) (0 : Int)]
    refine good_t rfl ?_
    obtain ⟨pa4, a4⟩ := e16o (cl_7 l0 n1) (cl_2 l0 n1) (cl_3 l0 n1) (cl_4 l0 n1) (cl_5 l0 n1) (cl_6 l0 n1) (up c7)
    erw [a4]
    refine good_t rfl ?_
    refine good_node (fun q5 => ?_) (fun q5 => ?_)
    ·
     exact good_leaf (i111 w k8 k12 k16)
    ·
     erw [e31 n5 n6 n7 l8 n9 n10 n11 l12 k8]
     refine good_t rfl ?_
     erw [e32 n5 n6 n7 l8 n9 n10 n11 l12 k8]
     refine good_t rfl ?_
     erw [e30 (ior .u64 n5 n9) (iand .u32 n6 n10) (iand .u32 n7 n11) (mg l8 l12) (ior .u64 n5 n9) (iand .u32 n6 n10) (iand .u32 n7 n11) (mg l8 l12) (mgl k8)]
     refine good_t rfl ?_
     refine good_f (show (!(sm (ior .u64 n5 n9) (iand .u32 n6 n10) (iand .u32 n7 n11) (mg l8 l12) (ior .u64 n5 n9) (iand .u32 n6 n10) (iand .u32 n7 n11) (mg l8 l12))) = false by rw [(show (sm (ior .u64 n5 n9) (iand .u32 n6 n10) (iand .u32 n7 n11) (mg l8 l12) (ior .u64 n5 n9) (iand .u32 n6 n10) (iand .u32 n7 n11) (mg l8 l12)) = true from sm_self (ior .u64 n5 n9) (iand .u32 n6 n10) (iand .u32 n7 n11) (mg l8 l12))]; rfl) ?_
     obtain ⟨pa9, a9⟩ := e16o (mg l8 l12) (0 : Int) (0 : Int) (ior .u64 n5 n9) (iand .u32 n6 n10) (iand .u32 n7 n11) (mgl k8)
     erw [a9]
     refine good_t rfl ?_
     exact good_leaf (i111 w k8 k12 k16)
   ·
    replace q2 := of_decide_eq_false q2
    erw [e62 (cl_7 l0 n1) (up c7)]
    refine good_t rfl ?_
    refine good_node (fun q11 => ?_) (fun q11 => ?_)
    ·
     replace q11 := of_decide_eq_true q11
     refine good_node (fun q12 => ?_) (fun q12 => ?_)
     ·
      replace q12 := qeT q12
      erw [e62 (cl_7 l0 n1) (up c7)]
      refine good_t rfl ?_
      erw [e30 (cl_4 l0 n1) (cl_5 l0 n1) (cl_6 l0 n1) (cl_7 l0 n1) (cl_4 l0 n1) (cl_5 l0 n1) (cl_6 l0 n1) (cl_7 l0 n1) (up c7)]
      refine good_t rfl ?_
      refine good_f (show (!(sm (cl_4 l0 n1) (cl_5 l0 n1) (cl_6 l0 n1) (cl_7 l0 n1) (cl_4 l0 n1) (cl_5 l0 n1) (cl_6 l0 n1) (cl_7 l0 n1))) = false by rw [(show (sm (cl_4 l0 n1) (cl_5 l0 n1) (cl_6 l0 n1) (cl_7 l0 n1) (cl_4 l0 n1) (cl_5 l0 n1) (cl_6 l0 n1) (cl_7 l0 n1)) = true from sm_self (cl_4 l0 n1) (cl_5 l0 n1) (cl_6 l0 n1) (cl_7 l0 n1))]; rfl) ?_
      obtain ⟨pa15, a15⟩ := e16o (cl_7 l0 n1) n2 (cl_3 l0 n1) (cl_4 l0 n1) (cl_5 l0 n1) (cl_6 l0 n1) (up c7)
      erw [a15]
      refine good_t rfl ?_
      obtain ⟨pa16, a16⟩ := e16o (cl_7 l0 n1) (cl_2 l0 n1) (cl_3 l0 n1) (cl_4 l0 n1) (cl_5 l0 n1) (cl_6 l0 n1) (up c7)
      erw [a16]
      refine good_t rfl ?_
      erw [e31 (cl_4 l0 n1) (cl_5 l0 n1) (cl_6 l0 n1) (cl_7 l0 n1) n13 n14 n15 l16 c7]
      refine good_t rfl ?_
      erw [e32 (cl_4 l0 n1) (cl_5 l0 n1) (cl_6 l0 n1) (cl_7 l0 n1) n13 n14 n15 l16 c7]
      refine good_t rfl ?_
      erw [e30 (ior .u64 (cl_4 l0 n1) n13) (iand .u32 (cl_5 l0 n1) n14) (iand .u32 (cl_6 l0 n1) n15) (mg (cl_7 l0 n1) l16) (ior .u64 (cl_4 l0 n1) n13) (iand .u32 (cl_5 l0 n1) n14) (iand .u32 (cl_6 l0 n1) n15) (mg (cl_7 l0 n1) l16) (mgl c7)]
      refine good_t rfl ?_
      refine good_f (show (!(sm (ior .u64 (cl_4 l0 n1) n13) (iand .u32 (cl_5 l0 n1) n14) (iand .u32 (cl_6 l0 n1) n15) (mg (cl_7 l0 n1) l16) (ior .u64 (cl_4 l0 n1) n13) (iand .u32 (cl_5 l0 n1) n14) (iand .u32 (cl_6 l0 n1) n15) (mg (cl_7 l0 n1) l16))) = false by rw [(show (sm (ior .u64 (cl_4 l0 n1) n13) (iand .u32 (cl_5 l0 n1) n14) (iand .u32 (cl_6 l0 n1) n15) (mg (cl_7 l0 n1) l16) (ior .u64 (cl_4 l0 n1) n13) (iand .u32 (cl_5 l0 n1) n14) (iand .u32 (cl_6 l0 n1) n15) (mg (cl_7 l0 n1) l16)) = true from sm_self (ior .u64 (cl_4 l0 n1) n13) (iand .u32 (cl_5 l0 n1) n14) (iand .u32 (cl_6 l0 n1) n15) (mg (cl_7 l0 n1) l16))]; rfl) ?_
      obtain ⟨pa20, a20⟩ := e16o (mg (cl_7 l0 n1) l16) (0 : Int) (0 : Int) (ior .u64 (cl_4 l0 n1) n13) (iand .u32 (cl_5 l0 n1) n14) (iand .u32 (cl_6 l0 n1) n15) (mgl c7)
      erw [a20]
      refine good_t rfl ?_
      rw [show (n18 == cl_3 l0 n1) = true from beq_iff_eq.2 (by omega)]
      rw [show (decide (n18 > (cl_3 l0 n1 : Int))) = false from decide_eq_false (by omega)]
      rw [show n18 = (cl_3 l0 n1) by omega]
      exact good_leaf (i110 w c7 k16 k16)
     ·
      replace q12 := qeF q12
      erw [e62 (cl_7 l0 n1) (up c7)]
      refine good_t rfl ?_
      erw [e30 (cl_4 l0 n1) (cl_5 l0 n1) (cl_6 l0 n1) (cl_7 l0 n1) (cl_4 l0 n1) (cl_5 l0 n1) (cl_6 l0 n1) (cl_7 l0 n1) (up c7)]
      refine good_t rfl ?_
      refine good_f (show (!(sm (cl_4 l0 n1) (cl_5 l0 n1) (cl_6 l0 n1) (cl_7 l0 n1) (cl_4 l0 n1) (cl_5 l0 n1) (cl_6 l0 n1) (cl_7 l0 n1))) = false by rw [(show (sm (cl_4 l0 n1) (cl_5 l0 n1) (cl_6 l0 n1) (cl_7 l0 n1) (cl_4 l0 n1) (cl_5 l0 n1) (cl_6 l0 n1) (cl_7 l0 n1)) = true from sm_self (cl_4 l0 n1) (cl_5 l0 n1) (cl_6 l0 n1) (cl_7 l0 n1))]; rfl) ?_
      obtain ⟨pa23, a23⟩ := e16o (cl_7 l0 n1) n2 (cl_3 l0 n1) (cl_4 l0 n1) (cl_5 l0 n1) (cl_6 l0 n1) (up c7)
      erw [a23]
      refine good_t rfl ?_
      obtain ⟨pa24, a24⟩ := e16o (cl_7 l0 n1) (cl_2 l0 n1) (cl_3 l0 n1) (cl_4 l0 n1) (cl_5 l0 n1) (cl_6 l0 n1) (up c7)
      erw [a24]
      refine good_t rfl ?_
      erw [e16n (0 : Int) (0 : Int) (0 : Int) (0 : Int) (0 : Int)]
      refine good_t rfl ?_
      rw [show (n18 == cl_3 l0 n1) = false from beq_eq_false_iff_ne.2 (by omega)]
      rw [show (decide (n18 > (cl_3 l0 n1 : Int))) = false from decide_eq_false (by omega)]
      exact good_leaf (i100 w c7 nil20 k16)
    ·
     replace q11 := of_decide_eq_false q11
     erw [e62 (cl_7 l0 n1) (up c7)]
     refine good_t rfl ?_
     erw [e30 (cl_4 l0 n1) (cl_5 l0 n1) (cl_6 l0 n1) (cl_7 l0 n1) (cl_4 l0 n1) (cl_5 l0 n1) (cl_6 l0 n1) (cl_7 l0 n1) (up c7)]
     refine good_t rfl ?_
     refine good_f (show (!(sm (cl_4 l0 n1) (cl_5 l0 n1) (cl_6 l0 n1) (cl_7 l0 n1) (cl_4 l0 n1) (cl_5 l0 n1) (cl_6 l0 n1) (cl_7 l0 n1))) = false by rw [(show (sm (cl_4 l0 n1) (cl_5 l0 n1) (cl_6 l0 n1) (cl_7 l0 n1) (cl_4 l0 n1) (cl_5 l0 n1) (cl_6 l0 n1) (cl_7 l0 n1)) = true from sm_self (cl_4 l0 n1) (cl_5 l0 n1) (cl_6 l0 n1) (cl_7 l0 n1))]; rfl) ?_
     obtain ⟨pa28, a28⟩ := e16o (cl_7 l0 n1) n2 (cl_3 l0 n1) (cl_4 l0 n1) (cl_5 l0 n1) (cl_6 l0 n1) (up c7)
     erw [a28]
     refine good_t rfl ?_
     obtain ⟨pa29, a29⟩ := e16o (cl_7 l0 n1) (cl_2 l0 n1) (cl_3 l0 n1) (cl_4 l0 n1) (cl_5 l0 n1) (cl_6 l0 n1) (up c7)
     erw [a29]
     refine good_t rfl ?_
     erw [e16n (0 : Int) (0 : Int) (0 : Int) (0 : Int) (0 : Int)]
     refine good_t rfl ?_
     rw [show (n18 == cl_3 l0 n1) = false from beq_eq_false_iff_ne.2 (by omega)]
     rw [show (decide (n18 > (cl_3 l0 n1 : Int))) = true from decide_eq_true (by omega)]
     exact good_leaf (i101 w c7 nil20 k16)
  ·
   refine good_node (fun q31 => ?_) (fun q31 => ?_)
   ·
    replace q31 := qnT q31
    obtain ⟨pa32, a32⟩ := e16o (cl_7 l0 n1) (cl_2 l0 n1) (cl_3 l0 n1) (cl_4 l0 n1) (cl_5 l0 n1) (cl_6 l0 n1) (up c7)
    erw [a32]
    refine good_t rfl ?_
    refine good_node (fun q33 => ?_) (fun q33 => ?_)
    ·
     erw [e16n (0 : Int) (0 : Int) (0 : Int) (0 : Int) (0 : Int)]
     refine good_t rfl ?_
     exact good_leaf (i111 w k8 k12 k16)
    ·
     erw [e31 n5 n6 n7 l8 n9 n10 n11 l12 k8]
     refine good_t rfl ?_
     erw [e32 n5 n6 n7 l8 n9 n10 n11 l12 k8]
     refine good_t rfl ?_
     erw [e30 (ior .u64 n5 n9) (iand .u32 n6 n10) (iand .u32 n7 n11) (mg l8 l12) (ior .u64 n5 n9) (iand .u32 n6 n10) (iand .u32 n7 n11) (mg l8 l12) (mgl k8)]
     refine good_t rfl ?_
     refine good_f (show (!(sm (ior .u64 n5 n9) (iand .u32 n6 n10) (iand .u32 n7 n11) (mg l8 l12) (ior .u64 n5 n9) (iand .u32 n6 n10) (iand .u32 n7 n11) (mg l8 l12))) = false by rw [(show (sm (ior .u64 n5 n9) (iand .u32 n6 n10) (iand .u32 n7 n11) (mg l8 l12) (ior .u64 n5 n9) (iand .u32 n6 n10) (iand .u32 n7 n11) (mg l8 l12)) = true from sm_self (ior .u64 n5 n9) (iand .u32 n6 n10) (iand .u32 n7 n11) (mg l8 l12))]; rfl) ?_
     obtain ⟨pa38, a38⟩ := e16o (mg l8 l12) (0 : Int) (0 : Int) (ior .u64 n5 n9) (iand .u32 n6 n10) (iand .u32 n7 n11) (mgl k8)
     erw [a38]
     refine good_t rfl ?_
     exact good_leaf (i111 w k8 k12 k16)
   ·
    replace q31 := qnF q31
    refine good_node (fun q39 => ?_) (fun q39 => ?_)
    ·
     replace q39 := of_decide_eq_true q39
     obtain ⟨pa40, a40⟩ := e16o (cl_7 l0 n1) (cl_2 l0 n1) (cl_3 l0 n1) (cl_4 l0 n1) (cl_5 l0 n1) (cl_6 l0 n1) (up c7)
     erw [a40]
     refine good_t rfl ?_
     refine good_node (fun q41 => ?_) (fun q41 => ?_)
     ·
      erw [e16n (0 : Int) (0 : Int) (0 : Int) (0 : Int) (0 : Int)]
      refine good_t rfl ?_
      exact good_leaf (i111 w k8 k12 k16)
     ·
      erw [e31 n5 n6 n7 l8 n9 n10 n11 l12 k8]
      refine good_t rfl ?_
      erw [e32 n5 n6 n7 l8 n9 n10 n11 l12 k8]
      refine good_t rfl ?_
      erw [e30 (ior .u64 n5 n9) (iand .u32 n6 n10) (iand .u32 n7 n11) (mg l8 l12) (ior .u64 n5 n9) (iand .u32 n6 n10) (iand .u32 n7 n11) (mg l8 l12) (mgl k8)]
      refine good_t rfl ?_
      refine good_f (show (!(sm (ior .u64 n5 n9) (iand .u32 n6 n10) (iand .u32 n7 n11) (mg l8 l12) (ior .u64 n5 n9) (iand .u32 n6 n10) (iand .u32 n7 n11) (mg l8 l12))) = false by rw [(show (sm (ior .u64 n5 n9) (iand .u32 n6 n10) (iand .u32 n7 n11) (mg l8 l12) (ior .u64 n5 n9) (iand .u32 n6 n10) (iand .u32 n7 n11) (mg l8 l12)) = true from sm_self (ior .u64 n5 n9) (iand .u32 n6 n10) (iand .u32 n7 n11) (mg l8 l12))]; rfl) ?_
      obtain ⟨pa46, a46⟩ := e16o (mg l8 l12) (0 : Int) (0 : Int) (ior .u64 n5 n9) (iand .u32 n6 n10) (iand .u32 n7 n11) (mgl k8)
      erw [a46]
      refine good_t rfl ?_
      exact good_leaf (i111 w k8 k12 k16)
    ·
     replace q39 := of_decide_eq_false q39
     erw [e62 (cl_7 l0 n1) (up c7)]
     refine good_t rfl ?_
     refine good_node (fun q48 => ?_) (fun q48 => ?_)
     ·
      replace q48 := of_decide_eq_true q48
      refine good_node (fun q49 => ?_) (fun q49 => ?_)
      ·
       replace q49 := of_decide_eq_true q49
       obtain ⟨pa50, a50⟩ := e16o (cl_7 l0 n1) (cl_2 l0 n1) (cl_3 l0 n1) (cl_4 l0 n1) (cl_5 l0 n1) (cl_6 l0 n1) (up c7)
       erw [a50]
       refine good_t rfl ?_
       refine good_node (fun q51 => ?_) (fun q51 => ?_)
       ·
        erw [e16n (0 : Int) (0 : Int) (0 : Int) (0 : Int) (0 : Int)]
        refine good_t rfl ?_
        exact good_leaf (i111 w k8 k12 c7)
       ·
        erw [e31 n5 n6 n7 l8 n9 n10 n11 l12 k8]
        refine good_t rfl ?_
        erw [e32 n5 n6 n7 l8 n9 n10 n11 l12 k8]
        refine good_t rfl ?_
        erw [e30 (ior .u64 n5 n9) (iand .u32 n6 n10) (iand .u32 n7 n11) (mg l8 l12) (ior .u64 n5 n9) (iand .u32 n6 n10) (iand .u32 n7 n11) (mg l8 l12) (mgl k8)]
        refine good_t rfl ?_
        refine good_f (show (!(sm (ior .u64 n5 n9) (iand .u32 n6 n10) (iand .u32 n7 n11) (mg l8 l12) (ior .u64 n5 n9) (iand .u32 n6 n10) (iand .u32 n7 n11) (mg l8 l12))) = false by rw [(show (sm (ior .u64 n5 n9) (iand .u32 n6 n10) (iand .u32 n7 n11) (mg l8 l12) (ior .u64 n5 n9) (iand .u32 n6 n10) (iand .u32 n7 n11) (mg l8 l12)) = true from sm_self (ior .u64 n5 n9) (iand .u32 n6 n10) (iand .u32 n7 n11) (mg l8 l12))]; rfl) ?_
        obtain ⟨pa56, a56⟩ := e16o (mg l8 l12) (0 : Int) (0 : Int) (ior .u64 n5 n9) (iand .u32 n6 n10) (iand .u32 n7 n11) (mgl k8)
        erw [a56]
        refine good_t rfl ?_
        exact good_leaf (i111 w k8 k12 c7)
      ·
       replace q49 := of_decide_eq_false q49
       refine good_node (fun q57 => ?_) (fun q57 => ?_)
       ·
        replace q57 := qeT q57
        erw [e29 n13 n14 n15 l16 (cl_4 l0 n1) (cl_5 l0 n1) (cl_6 l0 n1) (cl_7 l0 n1) (up k16)]
        refine good_t rfl ?_
        refine good_node (fun q59 => ?_) (fun q59 => ?_)
        ·
         replace q59 : (sm n13 n14 n15 l16 (cl_4 l0 n1) (cl_5 l0 n1) (cl_6 l0 n1) (cl_7 l0 n1)) = true := q59
         erw [e30 (cl_4 l0 n1) (cl_5 l0 n1) (cl_6 l0 n1) (cl_7 l0 n1) n13 n14 n15 l16 (up c7)]
         refine good_t rfl ?_
         refine good_t (show (sm (cl_4 l0 n1) (cl_5 l0 n1) (cl_6 l0 n1) (cl_7 l0 n1) n13 n14 n15 l16) = true from (sm_symm (cl_4 l0 n1) (cl_5 l0 n1) (cl_6 l0 n1) (cl_7 l0 n1) n13 n14 n15 l16).trans q59) ?_
         obtain ⟨pa61, a61⟩ := e16o (cl_7 l0 n1) (cl_2 l0 n1) (cl_3 l0 n1) (cl_4 l0 n1) (cl_5 l0 n1) (cl_6 l0 n1) (up c7)
         erw [a61]
         refine good_t rfl ?_
         refine good_node (fun q62 => ?_) (fun q62 => ?_)
         ·
          erw [e16n (0 : Int) (0 : Int) (0 : Int) (0 : Int) (0 : Int)]
          refine good_t rfl ?_
          exact good_leaf (i111 w k8 k12 k16)
         ·
          erw [e31 n5 n6 n7 l8 n9 n10 n11 l12 k8]
          refine good_t rfl ?_
          erw [e32 n5 n6 n7 l8 n9 n10 n11 l12 k8]
          refine good_t rfl ?_
          erw [e30 (ior .u64 n5 n9) (iand .u32 n6 n10) (iand .u32 n7 n11) (mg l8 l12) (ior .u64 n5 n9) (iand .u32 n6 n10) (iand .u32 n7 n11) (mg l8 l12) (mgl k8)]
          refine good_t rfl ?_
          refine good_f (show (!(sm (ior .u64 n5 n9) (iand .u32 n6 n10) (iand .u32 n7 n11) (mg l8 l12) (ior .u64 n5 n9) (iand .u32 n6 n10) (iand .u32 n7 n11) (mg l8 l12))) = false by rw [(show (sm (ior .u64 n5 n9) (iand .u32 n6 n10) (iand .u32 n7 n11) (mg l8 l12) (ior .u64 n5 n9) (iand .u32 n6 n10) (iand .u32 n7 n11) (mg l8 l12)) = true from sm_self (ior .u64 n5 n9) (iand .u32 n6 n10) (iand .u32 n7 n11) (mg l8 l12))]; rfl) ?_
          obtain ⟨pa67, a67⟩ := e16o (mg l8 l12) (0 : Int) (0 : Int) (ior .u64 n5 n9) (iand .u32 n6 n10) (iand .u32 n7 n11) (mgl k8)
          erw [a67]
          refine good_t rfl ?_
          exact good_leaf (i111 w k8 k12 k16)
        ·
         replace q59 : (sm n13 n14 n15 l16 (cl_4 l0 n1) (cl_5 l0 n1) (cl_6 l0 n1) (cl_7 l0 n1)) = false := q59
         erw [e30 (cl_4 l0 n1) (cl_5 l0 n1) (cl_6 l0 n1) (cl_7 l0 n1) n13 n14 n15 l16 (up c7)]
         refine good_t rfl ?_
         refine good_f (show (sm (cl_4 l0 n1) (cl_5 l0 n1) (cl_6 l0 n1) (cl_7 l0 n1) n13 n14 n15 l16) = false from (sm_symm (cl_4 l0 n1) (cl_5 l0 n1) (cl_6 l0 n1) (cl_7 l0 n1) n13 n14 n15 l16).trans q59) ?_
         obtain ⟨pa69, a69⟩ := e16o (cl_7 l0 n1) (cl_2 l0 n1) (cl_3 l0 n1) (cl_4 l0 n1) (cl_5 l0 n1) (cl_6 l0 n1) (up c7)
         erw [a69]
         refine good_t rfl ?_
         refine good_node (fun q70 => ?_) (fun q70 => ?_)
         ·
          erw [e16n (0 : Int) (0 : Int) (0 : Int) (0 : Int) (0 : Int)]
          refine good_t rfl ?_
          exact good_leaf (i111 w k8 k12 k16)
         ·
          erw [e31 n5 n6 n7 l8 n9 n10 n11 l12 k8]
          refine good_t rfl ?_
          erw [e32 n5 n6 n7 l8 n9 n10 n11 l12 k8]
          refine good_t rfl ?_
          erw [e30 (ior .u64 n5 n9) (iand .u32 n6 n10) (iand .u32 n7 n11) (mg l8 l12) (ior .u64 n5 n9) (iand .u32 n6 n10) (iand .u32 n7 n11) (mg l8 l12) (mgl k8)]
          refine good_t rfl ?_
          refine good_f (show (!(sm (ior .u64 n5 n9) (iand .u32 n6 n10) (iand .u32 n7 n11) (mg l8 l12) (ior .u64 n5 n9) (iand .u32 n6 n10) (iand .u32 n7 n11) (mg l8 l12))) = false by rw [(show (sm (ior .u64 n5 n9) (iand .u32 n6 n10) (iand .u32 n7 n11) (mg l8 l12) (ior .u64 n5 n9) (iand .u32 n6 n10) (iand .u32 n7 n11) (mg l8 l12)) = true from sm_self (ior .u64 n5 n9) (iand .u32 n6 n10) (iand .u32 n7 n11) (mg l8 l12))]; rfl) ?_
          obtain ⟨pa75, a75⟩ := e16o (mg l8 l12) (0 : Int) (0 : Int) (ior .u64 n5 n9) (iand .u32 n6 n10) (iand .u32 n7 n11) (mgl k8)
          erw [a75]
          refine good_t rfl ?_
          exact good_leaf (i111 w k8 k12 k16)
       ·
        replace q57 := qeF q57
        obtain ⟨pa76, a76⟩ := e16o (cl_7 l0 n1) (cl_2 l0 n1) (cl_3 l0 n1) (cl_4 l0 n1) (cl_5 l0 n1) (cl_6 l0 n1) (up c7)
        erw [a76]
        refine good_t rfl ?_
        refine good_node (fun q77 => ?_) (fun q77 => ?_)
        ·
         erw [e16n (0 : Int) (0 : Int) (0 : Int) (0 : Int) (0 : Int)]
         refine good_t rfl ?_
         exact good_leaf (i111 w k8 k12 k16)
        ·
         erw [e31 n5 n6 n7 l8 n9 n10 n11 l12 k8]
         refine good_t rfl ?_
         erw [e32 n5 n6 n7 l8 n9 n10 n11 l12 k8]
         refine good_t rfl ?_
         erw [e30 (ior .u64 n5 n9) (iand .u32 n6 n10) (iand .u32 n7 n11) (mg l8 l12) (ior .u64 n5 n9) (iand .u32 n6 n10) (iand .u32 n7 n11) (mg l8 l12) (mgl k8)]
         refine good_t rfl ?_
         refine good_f (show (!(sm (ior .u64 n5 n9) (iand .u32 n6 n10) (iand .u32 n7 n11) (mg l8 l12) (ior .u64 n5 n9) (iand .u32 n6 n10) (iand .u32 n7 n11) (mg l8 l12))) = false by rw [(show (sm (ior .u64 n5 n9) (iand .u32 n6 n10) (iand .u32 n7 n11) (mg l8 l12) (ior .u64 n5 n9) (iand .u32 n6 n10) (iand .u32 n7 n11) (mg l8 l12)) = true from sm_self (ior .u64 n5 n9) (iand .u32 n6 n10) (iand .u32 n7 n11) (mg l8 l12))]; rfl) ?_
         obtain ⟨pa82, a82⟩ := e16o (mg l8 l12) (0 : Int) (0 : Int) (ior .u64 n5 n9) (iand .u32 n6 n10) (iand .u32 n7 n11) (mgl k8)
         erw [a82]
         refine good_t rfl ?_
         exact good_leaf (i111 w k8 k12 k16)
     ·
      replace q48 := of_decide_eq_false q48
      erw [e29 n9 n10 n11 l12 (cl_4 l0 n1) (cl_5 l0 n1) (cl_6 l0 n1) (cl_7 l0 n1) (up k12)]
      refine good_t rfl ?_
      refine good_node (fun q84 => ?_) (fun q84 => ?_)
      ·
       replace q84 : (sm n9 n10 n11 l12 (cl_4 l0 n1) (cl_5 l0 n1) (cl_6 l0 n1) (cl_7 l0 n1)) = true := q84
       erw [e30 (cl_4 l0 n1) (cl_5 l0 n1) (cl_6 l0 n1) (cl_7 l0 n1) n9 n10 n11 l12 (up c7)]
       refine good_t rfl ?_
       refine good_t (show (sm (cl_4 l0 n1) (cl_5 l0 n1) (cl_6 l0 n1) (cl_7 l0 n1) n9 n10 n11 l12) = true from (sm_symm (cl_4 l0 n1) (cl_5 l0 n1) (cl_6 l0 n1) (cl_7 l0 n1) n9 n10 n11 l12).trans q84) ?_
       obtain ⟨pa86, a86⟩ := e16o (cl_7 l0 n1) (cl_2 l0 n1) (cl_3 l0 n1) (cl_4 l0 n1) (cl_5 l0 n1) (cl_6 l0 n1) (up c7)
       erw [a86]
       refine good_t rfl ?_
       refine good_node (fun q87 => ?_) (fun q87 => ?_)
       ·
        erw [e16n (0 : Int) (0 : Int) (0 : Int) (0 : Int) (0 : Int)]
        refine good_t rfl ?_
        exact good_leaf (i111 w k8 k12 k16)
       ·
        erw [e31 n5 n6 n7 l8 n9 n10 n11 l12 k8]
        refine good_t rfl ?_
        erw [e32 n5 n6 n7 l8 n9 n10 n11 l12 k8]
        refine good_t rfl ?_
        erw [e30 (ior .u64 n5 n9) (iand .u32 n6 n10) (iand .u32 n7 n11) (mg l8 l12) (ior .u64 n5 n9) (iand .u32 n6 n10) (iand .u32 n7 n11) (mg l8 l12) (mgl k8)]
        refine good_t rfl ?_
        refine good_f (show (!(sm (ior .u64 n5 n9) (iand .u32 n6 n10) (iand .u32 n7 n11) (mg l8 l12) (ior .u64 n5 n9) (iand .u32 n6 n10) (iand .u32 n7 n11) (mg l8 l12))) = false by rw [(show (sm (ior .u64 n5 n9) (iand .u32 n6 n10) (iand .u32 n7 n11) (mg l8 l12) (ior .u64 n5 n9) (iand .u32 n6 n10) (iand .u32 n7 n11) (mg l8 l12)) = true from sm_self (ior .u64 n5 n9) (iand .u32 n6 n10) (iand .u32 n7 n11) (mg l8 l12))]; rfl) ?_
        obtain ⟨pa92, a92⟩ := e16o (mg l8 l12) (0 : Int) (0 : Int) (ior .u64 n5 n9) (iand .u32 n6 n10) (iand .u32 n7 n11) (mgl k8)
        erw [a92]
        refine good_t rfl ?_
        exact good_leaf (i111 w k8 k12 k16)
      ·
       replace q84 : (sm n9 n10 n11 l12 (cl_4 l0 n1) (cl_5 l0 n1) (cl_6 l0 n1) (cl_7 l0 n1)) = false := q84
       erw [e30 (cl_4 l0 n1) (cl_5 l0 n1) (cl_6 l0 n1) (cl_7 l0 n1) n9 n10 n11 l12 (up c7)]
       refine good_t rfl ?_
       refine good_f (show (sm (cl_4 l0 n1) (cl_5 l0 n1) (cl_6 l0 n1) (cl_7 l0 n1) n9 n10 n11 l12) = false from (sm_symm (cl_4 l0 n1) (cl_5 l0 n1) (cl_6 l0 n1) (cl_7 l0 n1) n9 n10 n11 l12).trans q84) ?_
       obtain ⟨pa94, a94⟩ := e16o (cl_7 l0 n1) (cl_2 l0 n1) (cl_3 l0 n1) (cl_4 l0 n1) (cl_5 l0 n1) (cl_6 l0 n1) (up c7)
       erw [a94]
       refine good_t rfl ?_
       erw [e16n (0 : Int) (0 : Int) (0 : Int) (0 : Int) (0 : Int)]
       refine good_t rfl ?_
       exact good_leaf (i111 w k8 k12 k16)
theorem atP {l0 : LR} {n1 : Int} {env : List Dat} (h : InvP l0 n1 env) : gn env 2 = n1 := by
  rcases h with ⟨n2, n3, b4, n5, n6, n7, l8, n9, n10, n11, l12, n13, n14, n15, l16, n17, n18, rfl, k8, k12, k16⟩ | ⟨n2, n3, b4, n5, n6, n7, l8, n9, n10, n11, l12, n13, n14, n15, l16, n17, n18, rfl, k8, k12, k16⟩ | ⟨n2, n3, b4, n5, n6, n7, l8, n9, n10, n11, l12, n13, n14, n15, l16, n17, n18, n19, rfl, k8, k12, k16⟩ | ⟨n2, n3, b4, n5, n6, n7, l8, n9, n10, n11, l12, n13, n14, n15, l16, n17, n18, n19, rfl, k8, k12, k16⟩ | ⟨n2, n3, b4, n5, n6, n7, l8, n9, n10, n11, l12, n13, n14, n15, l16, n17, n18, n19, n20, rfl, k8, k12, k16⟩ | ⟨n2, n3, b4, n5, n6, n7, l8, n9, n10, n11, l12, n13, n14, n15, l16, n17, n18, n19, n20, rfl, k8, k12, k16⟩ | ⟨n2, n3, b4, n5, n6, n7, l8, n9, n10, n11, l12, n13, n14, n15, l16, n17, n18, n19, n20, n21, rfl, k8, k12, k16⟩ | ⟨n2, n3, b4, n5, n6, n7, l8, n9, n10, n11, l12, n13, n14, n15, l16, n17, n18, n19, n20, n21, rfl, k8, k12, k16⟩ <;> rfl
def InvL (l0 : LR) (env : List Dat) : Prop := ∃ i : Int, 0 ≤ i ∧ i ≤ l0.length ∧ InvP l0 i env
theorem keyP {l0 : LR} (hl : l0.length ≤ 60) (hc : ∀ i : Int, 0 ≤ i → i < (l0.length : Int) → (cl_7 l0 i).length ≤ 20) (env : List Dat) (h : InvL l0 env) : Good (fun y => match y with | .go e => InvL l0 e ∧ ((l0.length : Int) - gn e 2).toNat < ((l0.length : Int) - gn env 2).toNat | .stop k d => (k, d) = (0, [])) (st_L3_10 env).sel := by
  obtain ⟨i, h0, h1, hI⟩ := h
  rw [atP hI]
  by_cases hlt : i < l0.length
  · have fin : Good (StepP l0 i) (st_L3_10 env).sel := by
      rcases hI with ⟨n2, n3, b4, n5, n6, n7, l8, n9, n10, n11, l12, n13, n14, n15, l16, n17, n18, rfl, k8, k12, k16⟩ | ⟨n2, n3, b4, n5, n6, n7, l8, n9, n10, n11, l12, n13, n14, n15, l16, n17, n18, rfl, k8, k12, k16⟩ | ⟨n2, n3, b4, n5, n6, n7, l8, n9, n10, n11, l12, n13, n14, n15, l16, n17, n18, n19, rfl, k8, k12, k16⟩ | ⟨n2, n3, b4, n5, n6, n7, l8, n9, n10, n11, l12, n13, n14, n15, l16, n17, n18, n19, rfl, k8, k12, k16⟩ | ⟨n2, n3, b4, n5, n6, n7, l8, n9, n10, n11, l12, n13, n14, n15, l16, n17, n18, n19, n20, rfl, k8, k12, k16⟩ | ⟨n2, n3, b4, n5, n6, n7, l8, n9, n10, n11, l12, n13, n14, n15, l16, n17, n18, n19, n20, rfl, k8, k12, k16⟩ | ⟨n2, n3, b4, n5, n6, n7, l8, n9, n10, n11, l12, n13, n14, n15, l16, n17, n18, n19, n20, n21, rfl, k8, k12, k16⟩ | ⟨n2, n3, b4, n5, n6, n7, l8, n9, n10, n11, l12, n13, n14, n15, l16, n17, n18, n19, n20, n21, rfl, k8, k12, k16⟩
      · exact step000 h0 hlt hl (hc i h0 hlt) n2 n3 b4 n5 n6 n7 l8 n9 n10 n11 l12 n13 n14 n15 l16 n17 n18 k8 k12 k16
      · exact step001 h0 hlt hl (hc i h0 hlt) n2 n3 b4 n5 n6 n7 l8 n9 n10 n11 l12 n13 n14 n15 l16 n17 n18 k8 k12 k16
      · exact step010 h0 hlt hl (hc i h0 hlt) n2 n3 b4 n5 n6 n7 l8 n9 n10 n11 l12 n13 n14 n15 l16 n17 n18 n19 k8 k12 k16
      · exact step011 h0 hlt hl (hc i h0 hlt) n2 n3 b4 n5 n6 n7 l8 n9 n10 n11 l12 n13 n14 n15 l16 n17 n18 n19 k8 k12 k16
      · exact step100 h0 hlt hl (hc i h0 hlt) n2 n3 b4 n5 n6 n7 l8 n9 n10 n11 l12 n13 n14 n15 l16 n17 n18 n19 n20 k8 k12 k16
      · exact step101 h0 hlt hl (hc i h0 hlt) n2 n3 b4 n5 n6 n7 l8 n9 n10 n11 l12 n13 n14 n15 l16 n17 n18 n19 n20 k8 k12 k16
      · exact step110 h0 hlt hl (hc i h0 hlt) n2 n3 b4 n5 n6 n7 l8 n9 n10 n11 l12 n13 n14 n15 l16 n17 n18 n19 n20 n21 k8 k12 k16
      · exact step111 h0 hlt hl (hc i h0 hlt) n2 n3 b4 n5 n6 n7 l8 n9 n10 n11 l12 n13 n14 n15 l16 n17 n18 n19 n20 n21 k8 k12 k16
    obtain ⟨y, e, hy⟩ := fin
    refine ⟨y, e, ?_⟩
    cases y with
    | stop k d => exact hy.elim
    | go e' =>
      have hy : InvP l0 (i + 1) e' := hy
      refine ⟨⟨i + 1, by omega, by omega, hy⟩, ?_⟩
      show ((l0.length : Int) - gn e' 2).toNat < _
      rw [atP hy]; omega
  · have hd : i = (l0.length : Int) := by omega
    rcases hI with ⟨n2, n3, b4, n5, n6, n7, l8, n9, n10, n11, l12, n13, n14, n15, l16, n17, n18, rfl, k8, k12, k16⟩ | ⟨n2, n3, b4, n5, n6, n7, l8, n9, n10, n11, l12, n13, n14, n15, l16, n17, n18, rfl, k8, k12, k16⟩ | ⟨n2, n3, b4, n5, n6, n7, l8, n9, n10, n11, l12, n13, n14, n15, l16, n17, n18, n19, rfl, k8, k12, k16⟩ | ⟨n2, n3, b4, n5, n6, n7, l8, n9, n10, n11, l12, n13, n14, n15, l16, n17, n18, n19, rfl, k8, k12, k16⟩ | ⟨n2, n3, b4, n5, n6, n7, l8, n9, n10, n11, l12, n13, n14, n15, l16, n17, n18, n19, n20, rfl, k8, k12, k16⟩ | ⟨n2, n3, b4, n5, n6, n7, l8, n9, n10, n11, l12, n13, n14, n15, l16, n17, n18, n19, n20, rfl, k8, k12, k16⟩ | ⟨n2, n3, b4, n5, n6, n7, l8, n9, n10, n11, l12, n13, n14, n15, l16, n17, n18, n19, n20, n21, rfl, k8, k12, k16⟩ | ⟨n2, n3, b4, n5, n6, n7, l8, n9, n10, n11, l12, n13, n14, n15, l16, n17, n18, n19, n20, n21, rfl, k8, k12, k16⟩
    · exact Imp.good (fn_L3_10_x000_im l0 i n2 n3 b4 n5 n6 n7 l8 n9 n10 n11 l12 n13 n14 n15 l16 n17 n18 hd) (good_leaf rfl)
    · exact Imp.good (fn_L3_10_x001_im l0 i n2 n3 b4 n5 n6 n7 l8 n9 n10 n11 l12 n13 n14 n15 l16 n17 n18 hd) (good_leaf rfl)
    · exact Imp.good (fn_L3_10_x010_im l0 i n2 n3 b4 n5 n6 n7 l8 n9 n10 n11 l12 n13 n14 n15 l16 n17 n18 n19 hd) (good_leaf rfl)
    · exact Imp.good (fn_L3_10_x011_im l0 i n2 n3 b4 n5 n6 n7 l8 n9 n10 n11 l12 n13 n14 n15 l16 n17 n18 n19 hd) (good_leaf rfl)
    · exact Imp.good (fn_L3_10_x100_im l0 i n2 n3 b4 n5 n6 n7 l8 n9 n10 n11 l12 n13 n14 n15 l16 n17 n18 n19 n20 hd) (good_leaf rfl)
    · exact Imp.good (fn_L3_10_x101_im l0 i n2 n3 b4 n5 n6 n7 l8 n9 n10 n11 l12 n13 n14 n15 l16 n17 n18 n19 n20 hd) (good_leaf rfl)
    · exact Imp.good (fn_L3_10_x110_im l0 i n2 n3 b4 n5 n6 n7 l8 n9 n10 n11 l12 n13 n14 n15 l16 n17 n18 n19 n20 n21 hd) (good_leaf rfl)
    · exact Imp.good (fn_L3_10_x111_im l0 i n2 n3 b4 n5 n6 n7 l8 n9 n10 n11 l12 n13 n14 n15 l16 n17 n18 n19 n20 n21 hd) (good_leaf rfl)
theorem runP {l0 : LR} (n0 : Int) (hl : l0.length ≤ 60) (hc : ∀ i : Int, 0 ≤ i → i < (l0.length : Int) → (cl_7 l0 i).length ≤ 20) : op_L3_10 (e000 l0 0 n0 0 false 0 0 0 [] 0 0 0 [] 0 0 0 [] 0 0) = some (0, []) := by
  obtain ⟨y, e, hy⟩ := op_L3_10_good (p := fun y => y = (0, [])) (InvL l0) (fun env => ((l0.length : Int) - gn env 2).toNat) (keyP hl hc) (e000 l0 0 n0 0 false 0 0 0 [] 0 0 0 [] 0 0 0 [] 0 0) ⟨0, by omega, by omega, .inl ⟨_, _, _, _, _, _, _, _, _, _, _, _, _, _, _, _, _, rfl, Nat.zero_le _, Nat.zero_le _, Nat.zero_le _⟩⟩ (by show ((l0.length : Int) - 0).toNat < FU; unfold FU; omega)
  rw [e, hy]
theorem t3 (n0 : Int) (l0 : LR) : (ev_W3 [.n n0, .l TCall l0]).sel = some true := by
  obtain ⟨y, e, hy⟩ : Good (fun y => y = true) (ev_W3 [.n n0, .l TCall l0]).sel := by
    refine (fn_W3_t_im n0 l0).good ?_
    unfold fn_W3_t
    obtain ⟨r, e7, k7⟩ := e7 l0
    refine good_t (by erw [e7]; rfl) ?_
    cases r with
    | false => exact good_t (by erw [e7]; rfl) (good_leaf rfl)
    | true =>
      obtain ⟨hl, hc⟩ := k7 rfl
      have e3 := runP n0 hl hc
      refine good_f (by erw [e7]; rfl) (good_node (fun _ => good_leaf rfl) fun q0 => good_node (fun _ => good_leaf rfl) fun q1 => ?_)
      replace q0 := of_decide_eq_false q0
      replace q1 := of_decide_eq_false q1
      refine good_node (fun q2 => ?_) (fun _ => good_t (by erw [e3]; rfl) (good_leaf rfl))
      refine good_node (fun q3 => ?_) (fun _ => good_t (by erw [e3]; rfl) (good_leaf rfl))
      exfalso
      replace q2 := qnT q2
      replace q3 := qnT q3
      omega
  rw [e, hy]
end Go.Proofs.Ytcoamiaifbjofaa.Vx
