import Derived.Test.YtkclmlcfdijbmaaX24gk
import Derived.Test.YtkclmlcfdijbmaaX24gAFk
import Derived.Test.YtkclmlcfdijbmaaX24gBFk
import Derived.Test.YtkclmlcfdijbmaaVxLoop
import Derived.Test.YtkclmlcfdijbmaaVxBits
import Derived.Test.YtkclmlcfdijbmaaVxLaw
namespace Go.Proofs.Ytkclmlcfdijbmaa.Vx.Fe
open Go Go.RowKit
set_option linter.unusedVariables false
set_option linter.unusedSimpArgs false
set_option maxRecDepth 100000
set_option maxHeartbeats 0
theorem eqL_self : ∀ l : List (Ty.den (.int .u8)), eqL (.int .u8) l l = true
  | [] => rfl
  | a :: l => by
    have h : eqD (.int .u8) a a = true := beq_self_eq_true (α := Int) a
    show (eqD (.int .u8) a a && eqL (.int .u8) l l) = true
    rw [eqL_self l, h]; rfl
theorem andnot0 (x : Int) : iandnot .u64 0 x = 0 := by
  show IntKind.wrap .u64 ((BitVec.ofInt 64 0 &&& ~~~(BitVec.ofInt 64 x)).toNat : Int) = 0
  rw [show (BitVec.ofInt 64 0 : BitVec 64) = 0#64 from rfl, BitVec.zero_and]; rfl
abbrev LR := List (Ty.den TCall24)
abbrev eZT (n0 : Int) (l1 : LR) (i : Int) (n5 : Int) (n6 : Int) (n7 : Int) (n8 : Int) (n9 : Int) (n10 : Int) (n11 : Int) (l12 : List (Ty.den (.int .u8))) (n13 : Int) (b14 : Bool) (n15 : Int) : List Dat := [.k 0, .n n0, .l TCall24 l1, .n 0, .n (-1), .n n15, .n (-1), .b false, .n i, .n 0, .n (-1), .n 0, .n n6, .n n7, .n n8, .n n9, .n n10, .n n11, .l (.int .u8) l12, .n n13, .b b14, .n n15, .n (1 + n0), .b true, .n n5, .n n6]
abbrev eZF (n0 : Int) (l1 : LR) (i : Int) (n5 : Int) (n6 : Int) (n7 : Int) (n8 : Int) (n9 : Int) (n10 : Int) (n11 : Int) (l12 : List (Ty.den (.int .u8))) (n13 : Int) (b14 : Bool) (n15 : Int) : List Dat := [.k 0, .n n0, .l TCall24 l1, .n 0, .n (-1), .n n15, .n (-1), .b true, .n i, .n 0, .n (-1), .n n5, .n n6, .n n7, .n n8, .n n9, .n n10, .n n11, .l (.int .u8) l12, .n n13, .b b14, .n n15, .n (1 + n0), .b false, .n n5, .n n6]
abbrev eAT (n0 : Int) (l1 : LR) (i : Int) (n2 : Int) (n3 : Int) (n5 : Int) (n6 : Int) (n7 : Int) (n8 : Int) (n9 : Int) (n10 : Int) (n11 : Int) (l12 : List (Ty.den (.int .u8))) (n13 : Int) (b14 : Bool) (n15 : Int) : List Dat := [.k 0, .n n0, .l TCall24 l1, .n n2, .n (-1), .n n15, .n n3, .b false, .n i, .n n2, .n n3, .n 0, .n n6, .n n7, .n n8, .n n9, .n n10, .n n11, .l (.int .u8) l12, .n n13, .b b14, .n n15, .n (1 + n0), .b true, .n n5, .n n6]
abbrev eAF (n0 : Int) (l1 : LR) (i : Int) (n2 : Int) (n3 : Int) (n5 : Int) (n6 : Int) (n7 : Int) (n8 : Int) (n9 : Int) (n10 : Int) (n11 : Int) (l12 : List (Ty.den (.int .u8))) (n13 : Int) (b14 : Bool) (n15 : Int) : List Dat := [.k 0, .n n0, .l TCall24 l1, .n n2, .n (-1), .n n15, .n n3, .b true, .n i, .n n2, .n n3, .n n5, .n n6, .n n7, .n n8, .n n9, .n n10, .n n11, .l (.int .u8) l12, .n n13, .b b14, .n n15, .n (1 + n0), .b false, .n n5, .n n6]
abbrev eBT (n0 : Int) (l1 : LR) (i : Int) (n2 : Int) (n3 : Int) (n5 : Int) (n6 : Int) (n7 : Int) (n8 : Int) (n9 : Int) (n10 : Int) (n11 : Int) (l12 : List (Ty.den (.int .u8))) (n13 : Int) (b14 : Bool) (n15 : Int) (n17 : Int) : List Dat := [.k 1, .n n0, .l TCall24 l1, .n n2, .n n17, .n n15, .n n3, .b false, .n i, .n n2, .n n3, .n n17, .n 0, .n n6, .n n7, .n n8, .n n9, .n n10, .n n11, .l (.int .u8) l12, .n n13, .b b14, .n n15, .n (1 + n0), .b true, .n n5, .n n6]
abbrev eBF (n0 : Int) (l1 : LR) (i : Int) (n2 : Int) (n3 : Int) (n5 : Int) (n6 : Int) (n7 : Int) (n8 : Int) (n9 : Int) (n10 : Int) (n11 : Int) (l12 : List (Ty.den (.int .u8))) (n13 : Int) (b14 : Bool) (n15 : Int) (n17 : Int) : List Dat := [.k 1, .n n0, .l TCall24 l1, .n n2, .n n17, .n n15, .n n3, .b true, .n i, .n n2, .n n3, .n n17, .n n5, .n n6, .n n7, .n n8, .n n9, .n n10, .n n11, .l (.int .u8) l12, .n n13, .b b14, .n n15, .n (1 + n0), .b false, .n n5, .n n6]
def InvR (n0 : Int) (l1 : LR) (i : Int) (env : List Dat) : Prop :=
  (∃ n5 n6 n7 n8 n9 n10 n11 l12 n13 b14 n15, env = eZT n0 l1 i n5 n6 n7 n8 n9 n10 n11 l12 n13 b14 n15 ∧ 0 ≤ n15 ∧ n15 ≤ i) ∨
  (∃ n5 n6 n7 n8 n9 n10 n11 l12 n13 b14 n15, env = eZF n0 l1 i n5 n6 n7 n8 n9 n10 n11 l12 n13 b14 n15 ∧ 0 ≤ n15 ∧ n15 ≤ i ∧ n15 ≤ 1 + n0 ∧ iandnot .u64 n5 n9 = 0) ∨
  (∃ n2 n3 n5 n6 n7 n8 n9 n10 n11 l12 n13 b14 n15, env = eAT n0 l1 i n2 n3 n5 n6 n7 n8 n9 n10 n11 l12 n13 b14 n15 ∧ 0 ≤ n15 ∧ n15 ≤ i ∧ 0 < n2) ∨
  (∃ n2 n3 n5 n6 n7 n8 n9 n10 n11 l12 n13 b14 n15, env = eAF n0 l1 i n2 n3 n5 n6 n7 n8 n9 n10 n11 l12 n13 b14 n15 ∧ 0 ≤ n15 ∧ n15 ≤ i ∧ 0 < n2 ∧ n15 ≤ 1 + n0 ∧ iandnot .u64 n5 n9 = 0) ∨
  (∃ n2 n3 n5 n6 n7 n8 n9 n10 n11 l12 n13 b14 n15 n17, env = eBT n0 l1 i n2 n3 n5 n6 n7 n8 n9 n10 n11 l12 n13 b14 n15 n17 ∧ 0 ≤ n15 ∧ n15 ≤ i ∧ 0 < n2) ∨
  (∃ n2 n3 n5 n6 n7 n8 n9 n10 n11 l12 n13 b14 n15 n17, env = eBF n0 l1 i n2 n3 n5 n6 n7 n8 n9 n10 n11 l12 n13 b14 n15 n17 ∧ 0 ≤ n15 ∧ n15 ≤ i ∧ 0 < n2 ∧ n15 ≤ 1 + n0 ∧ iandnot .u64 n5 n9 = 0)
def StepR (n0 : Int) (l : LR) (i : Int) : Step → Prop
  | .go e => InvR n0 l (i + 1) e
  | .stop k d => False
section
variable {n0 i n2 n3 n5 n6 n7 n8 n9 n10 n11 n13 n15 n17 : Int} {l1 : LR} {b14 : Bool} {l12 : List (Ty.den (.int .u8))}
theorem iZT {i' : Int} (hw : i' = i + 1) (h0 : 0 ≤ n15) (h1 : n15 ≤ (i + 1)) : InvR n0 l1 (i + 1) (eZT n0 l1 i' n5 n6 n7 n8 n9 n10 n11 l12 n13 b14 n15) := by subst hw; exact .inl ⟨_, _, _, _, _, _, _, _, _, _, _, rfl, h0, h1⟩
theorem iZF {i' : Int} (hw : i' = i + 1) (h0 : 0 ≤ n15) (h1 : n15 ≤ (i + 1)) (h2 : n15 ≤ 1 + n0) (h3 : iandnot .u64 n5 n9 = 0) : InvR n0 l1 (i + 1) (eZF n0 l1 i' n5 n6 n7 n8 n9 n10 n11 l12 n13 b14 n15) := by subst hw; exact .inr (.inl ⟨_, _, _, _, _, _, _, _, _, _, _, rfl, h0, h1, h2, h3⟩)
theorem iAT {i' : Int} (hw : i' = i + 1) (h0 : 0 ≤ n15) (h1 : n15 ≤ (i + 1)) (h2 : 0 < n2) : InvR n0 l1 (i + 1) (eAT n0 l1 i' n2 n3 n5 n6 n7 n8 n9 n10 n11 l12 n13 b14 n15) := by subst hw; exact .inr (.inr (.inl ⟨_, _, _, _, _, _, _, _, _, _, _, _, _, rfl, h0, h1, h2⟩))
theorem iAF {i' : Int} (hw : i' = i + 1) (h0 : 0 ≤ n15) (h1 : n15 ≤ (i + 1)) (h2 : 0 < n2) (h3 : n15 ≤ 1 + n0) (h4 : iandnot .u64 n5 n9 = 0) : InvR n0 l1 (i + 1) (eAF n0 l1 i' n2 n3 n5 n6 n7 n8 n9 n10 n11 l12 n13 b14 n15) := by subst hw; exact .inr (.inr (.inr (.inl ⟨_, _, _, _, _, _, _, _, _, _, _, _, _, rfl, h0, h1, h2, h3, h4⟩)))
theorem iBT {i' : Int} (hw : i' = i + 1) (h0 : 0 ≤ n15) (h1 : n15 ≤ (i + 1)) (h2 : 0 < n2) : InvR n0 l1 (i + 1) (eBT n0 l1 i' n2 n3 n5 n6 n7 n8 n9 n10 n11 l12 n13 b14 n15 n17) := by subst hw; exact .inr (.inr (.inr (.inr (.inl ⟨_, _, _, _, _, _, _, _, _, _, _, _, _, _, rfl, h0, h1, h2⟩))))
theorem iBF {i' : Int} (hw : i' = i + 1) (h0 : 0 ≤ n15) (h1 : n15 ≤ (i + 1)) (h2 : 0 < n2) (h3 : n15 ≤ 1 + n0) (h4 : iandnot .u64 n5 n9 = 0) : InvR n0 l1 (i + 1) (eBF n0 l1 i' n2 n3 n5 n6 n7 n8 n9 n10 n11 l12 n13 b14 n15 n17) := by subst hw; exact .inr (.inr (.inr (.inr (.inr (⟨_, _, _, _, _, _, _, _, _, _, _, _, _, _, rfl, h0, h1, h2, h3, h4⟩)))))
end
theorem stepZT {n0 : Int} {l1 : LR} {i : Int} (p0 : 0 ≤ n0) (p1 : n0 ≤ 255) (h0 : 0 ≤ i) (hi : i < (l1.length : Int)) (hl : l1.length ≤ 300) (n5 : Int) (n6 : Int) (n7 : Int) (n8 : Int) (n9 : Int) (n10 : Int) (n11 : Int) (l12 : List (Ty.den (.int .u8))) (n13 : Int) (b14 : Bool) (n15 : Int) (c0 : 0 ≤ n15) (c1 : n15 ≤ i) : Good (StepR n0 l1 i) (st_L6_11 (eZT n0 l1 i n5 n6 n7 n8 n9 n10 n11 l12 n13 b14 n15)).sel := by
  have w : IntKind.wrap .i64 (i + 1) = i + 1 := w64 (by omega) (by omega)
  have wt : IntKind.wrap .i64 (n15 + 1) = n15 + 1 := w64 (by omega) (by omega)
  refine Imp.good (fn_L6_11_ZT_im n0 l1 0 0 i n5 n6 n7 n8 n9 n10 n11 l12 n13 b14 n15 (1 + n0) (by first | assumption | rfl | omega | exact andnot0 _) (by first | assumption | rfl | omega | exact andnot0 _) (by first | assumption | rfl | omega | exact andnot0 _) (by first | assumption | rfl | omega | exact andnot0 _) (by first | assumption | rfl | omega | exact andnot0 _) (by first | assumption | rfl | omega | exact andnot0 _) (by first | assumption | rfl | omega | exact andnot0 _) (by first | assumption | rfl | omega | exact andnot0 _) (by first | assumption | rfl | omega | exact andnot0 _)) ?_
  unfold fn_L6_11_ZT
  refine good_node (fun q0 => ?_) (fun q0 => ?_)
  ·
   replace q0 := qeT q0
   refine good_node (fun q1 => ?_) (fun q1 => ?_)
   ·
    replace q1 := of_decide_eq_true q1
    exact good_leaf (iZT w (by omega) (by omega))
   ·
    replace q1 := of_decide_eq_false q1
    refine good_node (fun q2 => ?_) (fun q2 => ?_)
    ·
     replace q2 := of_decide_eq_true q2
     exact good_leaf (iZT w (by omega) (by omega))
    ·
     replace q2 := of_decide_eq_false q2
     refine good_node (fun q3 => ?_) (fun q3 => ?_)
     ·
      replace q3 := of_decide_eq_true q3
      exact good_leaf (iZT w (by omega) (by omega))
     ·
      replace q3 := of_decide_eq_false q3
      refine good_node (fun q4 => ?_) (fun q4 => ?_)
      ·
       replace q4 := of_decide_eq_true q4
       exact good_leaf (iZT w (by omega) (by omega))
      ·
       replace q4 := of_decide_eq_false q4
       exact good_leaf (iAT w (by omega) (by omega) (by omega))
  ·
   replace q0 := qeF q0
   refine good_node (fun q5 => ?_) (fun q5 => ?_)
   ·
    replace q5 := qeT q5
    refine good_node (fun q6 => ?_) (fun q6 => ?_)
    ·
     replace q6 := of_decide_eq_true q6
     exact good_leaf (iZT w (by omega) (by omega))
    ·
     replace q6 := of_decide_eq_false q6
     refine good_node (fun q7 => ?_) (fun q7 => ?_)
     ·
      replace q7 := of_decide_eq_true q7
      exact good_leaf (iZT w (by omega) (by omega))
     ·
      replace q7 := of_decide_eq_false q7
      refine good_node (fun q8 => ?_) (fun q8 => ?_)
      ·
       replace q8 := of_decide_eq_true q8
       exact good_leaf (iZT w (by omega) (by omega))
      ·
       replace q8 := of_decide_eq_false q8
       refine good_node (fun q9 => ?_) (fun q9 => ?_)
       ·
        replace q9 := of_decide_eq_true q9
        exact good_leaf (iZT w (by omega) (by omega))
       ·
        replace q9 := of_decide_eq_false q9
        exact good_leaf (iAT w (by omega) (by omega) (by omega))
   ·
    replace q5 := qeF q5
    refine good_node (fun q10 => ?_) (fun q10 => ?_)
    ·
     replace q10 := qeT q10
     refine good_node (fun q11 => ?_) (fun q11 => ?_)
     ·
      replace q11 := of_decide_eq_true q11
      exact good_leaf (iZT w (by omega) (by omega))
     ·
      replace q11 := of_decide_eq_false q11
      exact good_leaf (iZT w (by omega) (by omega))
    ·
     replace q10 := qeF q10
     refine good_node (fun q12 => ?_) (fun q12 => ?_)
     ·
      replace q12 := qeT q12
      refine good_node (fun q13 => ?_) (fun q13 => ?_)
      ·
       replace q13 := of_decide_eq_true q13
       exact good_leaf (iZT w (by omega) (by omega))
      ·
       replace q13 := of_decide_eq_false q13
       exact good_leaf (iZT w (by omega) (by omega))
     ·
      replace q12 := qeF q12
      refine good_node (fun q14 => ?_) (fun q14 => ?_)
      ·
       replace q14 := qeT q14
       exact good_leaf (iZF w (by omega) (by omega) (by omega) (by first | assumption | exact andnot0 _))
      ·
       replace q14 := qeF q14
       refine good_node (fun q15 => ?_) (fun q15 => ?_)
       ·
        replace q15 := of_decide_eq_true q15
        exact good_leaf (iZT w (by omega) (by omega))
       ·
        replace q15 := of_decide_eq_false q15
        refine good_node (fun q16 => ?_) (fun q16 => ?_)
        ·
         replace q16 := of_decide_eq_true q16
         exact good_leaf (iZT w (by omega) (by omega))
        ·
         replace q16 := of_decide_eq_false q16
         refine good_node (fun q17 => ?_) (fun q17 => ?_)
         ·
          replace q17 := of_decide_eq_true q17
          exact good_leaf (iZT w (by omega) (by omega))
         ·
          replace q17 := of_decide_eq_false q17
          refine good_node (fun q18 => ?_) (fun q18 => ?_)
          ·
           replace q18 := of_decide_eq_true q18
           exact good_leaf (iZT w (by omega) (by omega))
          ·
           replace q18 := of_decide_eq_false q18
           refine good_node (fun q19 => ?_) (fun q19 => ?_)
           ·
            replace q19 := of_decide_eq_true q19
            exact good_leaf (iZT w (by omega) (by omega))
           ·
            replace q19 := of_decide_eq_false q19
            refine good_node (fun q20 => ?_) (fun q20 => ?_)
            ·
             replace q20 := of_decide_eq_true q20
             exact good_leaf (iZT w (by omega) (by omega))
            ·
             replace q20 := of_decide_eq_false q20
             refine good_node (fun q21 => ?_) (fun q21 => ?_)
             ·
              replace q21 := qnT q21
              exact good_leaf (iZT w (by omega) (by omega))
             ·
              replace q21 := qnF q21
              exact good_leaf (iAT w (by omega) (by omega) (by omega))
theorem stepZF {n0 : Int} {l1 : LR} {i : Int} (p0 : 0 ≤ n0) (p1 : n0 ≤ 255) (h0 : 0 ≤ i) (hi : i < (l1.length : Int)) (hl : l1.length ≤ 300) (n5 : Int) (n6 : Int) (n7 : Int) (n8 : Int) (n9 : Int) (n10 : Int) (n11 : Int) (l12 : List (Ty.den (.int .u8))) (n13 : Int) (b14 : Bool) (n15 : Int) (c0 : 0 ≤ n15) (c1 : n15 ≤ i) (c2 : n15 ≤ 1 + n0) (c3 : iandnot .u64 n5 n9 = 0) : Good (StepR n0 l1 i) (st_L6_11 (eZF n0 l1 i n5 n6 n7 n8 n9 n10 n11 l12 n13 b14 n15)).sel := by
  have w : IntKind.wrap .i64 (i + 1) = i + 1 := w64 (by omega) (by omega)
  have wt : IntKind.wrap .i64 (n15 + 1) = n15 + 1 := w64 (by omega) (by omega)
  refine Imp.good (fn_L6_11_ZF_im n0 l1 0 0 i n5 n6 n7 n8 n9 n10 n11 l12 n13 b14 n15 (1 + n0) (by first | assumption | rfl | omega | exact andnot0 _) (by first | assumption | rfl | omega | exact andnot0 _) (by first | assumption | rfl | omega | exact andnot0 _) (by first | assumption | rfl | omega | exact andnot0 _) (by first | assumption | rfl | omega | exact andnot0 _) (by first | assumption | rfl | omega | exact andnot0 _) (by first | assumption | rfl | omega | exact andnot0 _) (by first | assumption | rfl | omega | exact andnot0 _) (by first | assumption | rfl | omega | exact andnot0 _) (by first | assumption | rfl | omega | exact andnot0 _)) ?_
  unfold fn_L6_11_ZF
  refine good_node (fun q0 => ?_) (fun q0 => ?_)
  ·
   replace q0 := qeT q0
   refine good_node (fun q1 => ?_) (fun q1 => ?_)
   ·
    replace q1 := of_decide_eq_true q1
    exact good_leaf (iZF w (by omega) (by omega) (by omega) (by first | assumption | exact andnot0 _))
   ·
    replace q1 := of_decide_eq_false q1
    refine good_node (fun q2 => ?_) (fun q2 => ?_)
    ·
     replace q2 := of_decide_eq_true q2
     exact good_leaf (iZF w (by omega) (by omega) (by omega) (by first | assumption | exact andnot0 _))
    ·
     replace q2 := of_decide_eq_false q2
     refine good_node (fun q3 => ?_) (fun q3 => ?_)
     ·
      replace q3 := of_decide_eq_true q3
      exact good_leaf (iZF w (by omega) (by omega) (by omega) (by first | assumption | exact andnot0 _))
     ·
      replace q3 := of_decide_eq_false q3
      refine good_node (fun q4 => ?_) (fun q4 => ?_)
      ·
       replace q4 := of_decide_eq_true q4
       exact good_leaf (iZF w (by omega) (by omega) (by omega) (by first | assumption | exact andnot0 _))
      ·
       replace q4 := of_decide_eq_false q4
       exact good_leaf (iAF w (by omega) (by omega) (by omega) (by omega) (by first | assumption | exact andnot0 _))
  ·
   replace q0 := qeF q0
   refine good_node (fun q5 => ?_) (fun q5 => ?_)
   ·
    replace q5 := qeT q5
    refine good_node (fun q6 => ?_) (fun q6 => ?_)
    ·
     replace q6 := of_decide_eq_true q6
     exact good_leaf (iZF w (by omega) (by omega) (by omega) (by first | assumption | exact andnot0 _))
    ·
     replace q6 := of_decide_eq_false q6
     refine good_node (fun q7 => ?_) (fun q7 => ?_)
     ·
      replace q7 := of_decide_eq_true q7
      exact good_leaf (iZF w (by omega) (by omega) (by omega) (by first | assumption | exact andnot0 _))
     ·
      replace q7 := of_decide_eq_false q7
      refine good_node (fun q8 => ?_) (fun q8 => ?_)
      ·
       replace q8 := of_decide_eq_true q8
       exact good_leaf (iZF w (by omega) (by omega) (by omega) (by first | assumption | exact andnot0 _))
      ·
       replace q8 := of_decide_eq_false q8
       refine good_node (fun q9 => ?_) (fun q9 => ?_)
       ·
        replace q9 := of_decide_eq_true q9
        exact good_leaf (iZF w (by omega) (by omega) (by omega) (by first | assumption | exact andnot0 _))
       ·
        replace q9 := of_decide_eq_false q9
        exact good_leaf (iAT w (by omega) (by omega) (by omega))
   ·
    replace q5 := qeF q5
    refine good_node (fun q10 => ?_) (fun q10 => ?_)
    ·
     replace q10 := qeT q10
     refine good_node (fun q11 => ?_) (fun q11 => ?_)
     ·
      replace q11 := of_decide_eq_true q11
      exact good_leaf (iZT w (by omega) (by omega))
     ·
      replace q11 := of_decide_eq_false q11
      exact good_leaf (iZF w (by omega) (by omega) (by omega) (by first | assumption | exact andnot0 _))
    ·
     replace q10 := qeF q10
     refine good_node (fun q12 => ?_) (fun q12 => ?_)
     ·
      replace q12 := qeT q12
      refine good_node (fun q13 => ?_) (fun q13 => ?_)
      ·
       replace q13 := of_decide_eq_true q13
       exact good_leaf (iZT w (by omega) (by omega))
      ·
       replace q13 := of_decide_eq_false q13
       exact good_leaf (iZF w (by omega) (by omega) (by omega) (by first | assumption | exact andnot0 _))
     ·
      replace q12 := qeF q12
      refine good_node (fun q14 => ?_) (fun q14 => ?_)
      ·
       replace q14 := qeT q14
       exact good_leaf (iZF w (by omega) (by omega) (by omega) (by first | assumption | exact andnot0 _))
      ·
       replace q14 := qeF q14
       refine good_node (fun q15 => ?_) (fun q15 => ?_)
       ·
        replace q15 := of_decide_eq_true q15
        exact good_leaf (iZF w (by omega) (by omega) (by omega) (by first | assumption | exact andnot0 _))
       ·
        replace q15 := of_decide_eq_false q15
        refine good_node (fun q16 => ?_) (fun q16 => ?_)
        ·
         replace q16 := of_decide_eq_true q16
         exact good_leaf (iZF w (by omega) (by omega) (by omega) (by first | assumption | exact andnot0 _))
        ·
         replace q16 := of_decide_eq_false q16
         refine good_node (fun q17 => ?_) (fun q17 => ?_)
         ·
          replace q17 := of_decide_eq_true q17
          exact good_leaf (iZF w (by omega) (by omega) (by omega) (by first | assumption | exact andnot0 _))
         ·
          replace q17 := of_decide_eq_false q17
          refine good_node (fun q18 => ?_) (fun q18 => ?_)
          ·
           replace q18 := of_decide_eq_true q18
           exact good_leaf (iZF w (by omega) (by omega) (by omega) (by first | assumption | exact andnot0 _))
          ·
           replace q18 := of_decide_eq_false q18
           refine good_node (fun q19 => ?_) (fun q19 => ?_)
           ·
            replace q19 := of_decide_eq_true q19
            exact good_leaf (iZF w (by omega) (by omega) (by omega) (by first | assumption | exact andnot0 _))
           ·
            replace q19 := of_decide_eq_false q19
            refine good_node (fun q20 => ?_) (fun q20 => ?_)
            ·
             replace q20 := of_decide_eq_true q20
             exact good_leaf (iZF w (by omega) (by omega) (by omega) (by first | assumption | exact andnot0 _))
            ·
             replace q20 := of_decide_eq_false q20
             refine good_node (fun q21 => ?_) (fun q21 => ?_)
             ·
              replace q21 := qnT q21
              exact good_leaf (iZF w (by omega) (by omega) (by omega) (by first | assumption | exact andnot0 _))
             ·
              replace q21 := qnF q21
              refine good_node (fun q22 => ?_) (fun q22 => ?_)
              ·
               exfalso; simp at q22; exact Bool.noConfusion ((eqL_self (cl_11 l1 i)).symm.trans q22)
              ·
               exact good_leaf (iBF w (by omega) (by omega) (by omega) (by omega) (by first | assumption | exact andnot0 _ | exact q21))
theorem stepAT {n0 : Int} {l1 : LR} {i : Int} (p0 : 0 ≤ n0) (p1 : n0 ≤ 255) (h0 : 0 ≤ i) (hi : i < (l1.length : Int)) (hl : l1.length ≤ 300) (n2 : Int) (n3 : Int) (n5 : Int) (n6 : Int) (n7 : Int) (n8 : Int) (n9 : Int) (n10 : Int) (n11 : Int) (l12 : List (Ty.den (.int .u8))) (n13 : Int) (b14 : Bool) (n15 : Int) (c0 : 0 ≤ n15) (c1 : n15 ≤ i) (c2 : 0 < n2) : Good (StepR n0 l1 i) (st_L6_11 (eAT n0 l1 i n2 n3 n5 n6 n7 n8 n9 n10 n11 l12 n13 b14 n15)).sel := by
  have w : IntKind.wrap .i64 (i + 1) = i + 1 := w64 (by omega) (by omega)
  have wt : IntKind.wrap .i64 (n15 + 1) = n15 + 1 := w64 (by omega) (by omega)
  refine Imp.good (fn_L6_11_AT_im n0 l1 n2 n3 i n5 n6 n7 n8 n9 n10 n11 l12 n13 b14 n15 (1 + n0) (by first | assumption | rfl | omega | exact andnot0 _) (by first | assumption | rfl | omega | exact andnot0 _) (by first | assumption | rfl | omega | exact andnot0 _) (by first | assumption | rfl | omega | exact andnot0 _) (by first | assumption | rfl | omega | exact andnot0 _) (by first | assumption | rfl | omega | exact andnot0 _) (by first | assumption | rfl | omega | exact andnot0 _) (by first | assumption | rfl | omega | exact andnot0 _) (by first | assumption | rfl | omega | exact andnot0 _) (by first | assumption | rfl | omega | exact andnot0 _)) ?_
  unfold fn_L6_11_AT
  refine good_node (fun q0 => ?_) (fun q0 => ?_)
  ·
   replace q0 := qeT q0
   refine good_node (fun q1 => ?_) (fun q1 => ?_)
   ·
    replace q1 := of_decide_eq_true q1
    exact good_leaf (iAT w (by omega) (by omega) (by omega))
   ·
    replace q1 := of_decide_eq_false q1
    refine good_node (fun q2 => ?_) (fun q2 => ?_)
    ·
     replace q2 := of_decide_eq_true q2
     exact good_leaf (iAT w (by omega) (by omega) (by omega))
    ·
     replace q2 := of_decide_eq_false q2
     refine good_node (fun q3 => ?_) (fun q3 => ?_)
     ·
      replace q3 := of_decide_eq_true q3
      exact good_leaf (iAT w (by omega) (by omega) (by omega))
     ·
      replace q3 := of_decide_eq_false q3
      refine good_node (fun q4 => ?_) (fun q4 => ?_)
      ·
       replace q4 := of_decide_eq_true q4
       exact good_leaf (iAT w (by omega) (by omega) (by omega))
      ·
       replace q4 := of_decide_eq_false q4
       refine good_node (fun q5 => ?_) (fun q5 => ?_)
       ·
        replace q5 := of_decide_eq_true q5
        exact good_leaf (iAT w (by omega) (by omega) (by omega))
       ·
        replace q5 := of_decide_eq_false q5
        refine good_node (fun q6 => ?_) (fun q6 => ?_)
        ·
         replace q6 := qeT q6
         refine good_node (fun q7 => ?_) (fun q7 => ?_)
         ·
          replace q7 := qnT q7
          exact good_leaf (iAT w (by omega) (by omega) (by omega))
         ·
          replace q7 := qnF q7
          exact good_leaf (iAT w (by omega) (by omega) (by omega))
        ·
         replace q6 := qeF q6
         exact good_leaf (iAT w (by omega) (by omega) (by omega))
  ·
   replace q0 := qeF q0
   refine good_node (fun q8 => ?_) (fun q8 => ?_)
   ·
    replace q8 := qeT q8
    refine good_node (fun q9 => ?_) (fun q9 => ?_)
    ·
     replace q9 := of_decide_eq_true q9
     exact good_leaf (iAT w (by omega) (by omega) (by omega))
    ·
     replace q9 := of_decide_eq_false q9
     refine good_node (fun q10 => ?_) (fun q10 => ?_)
     ·
      replace q10 := of_decide_eq_true q10
      exact good_leaf (iAT w (by omega) (by omega) (by omega))
     ·
      replace q10 := of_decide_eq_false q10
      refine good_node (fun q11 => ?_) (fun q11 => ?_)
      ·
       replace q11 := of_decide_eq_true q11
       exact good_leaf (iAT w (by omega) (by omega) (by omega))
      ·
       replace q11 := of_decide_eq_false q11
       refine good_node (fun q12 => ?_) (fun q12 => ?_)
       ·
        replace q12 := of_decide_eq_true q12
        exact good_leaf (iAT w (by omega) (by omega) (by omega))
       ·
        replace q12 := of_decide_eq_false q12
        refine good_node (fun q13 => ?_) (fun q13 => ?_)
        ·
         replace q13 := of_decide_eq_true q13
         exact good_leaf (iAT w (by omega) (by omega) (by omega))
        ·
         replace q13 := of_decide_eq_false q13
         refine good_node (fun q14 => ?_) (fun q14 => ?_)
         ·
          replace q14 := qeT q14
          refine good_node (fun q15 => ?_) (fun q15 => ?_)
          ·
           replace q15 := qnT q15
           exact good_leaf (iAT w (by omega) (by omega) (by omega))
          ·
           replace q15 := qnF q15
           exact good_leaf (iAT w (by omega) (by omega) (by omega))
         ·
          replace q14 := qeF q14
          exact good_leaf (iAT w (by omega) (by omega) (by omega))
   ·
    replace q8 := qeF q8
    refine good_node (fun q16 => ?_) (fun q16 => ?_)
    ·
     replace q16 := qeT q16
     refine good_node (fun q17 => ?_) (fun q17 => ?_)
     ·
      replace q17 := of_decide_eq_true q17
      exact good_leaf (iAT w (by omega) (by omega) (by omega))
     ·
      replace q17 := of_decide_eq_false q17
      exact good_leaf (iAT w (by omega) (by omega) (by omega))
    ·
     replace q16 := qeF q16
     refine good_node (fun q18 => ?_) (fun q18 => ?_)
     ·
      replace q18 := qeT q18
      refine good_node (fun q19 => ?_) (fun q19 => ?_)
      ·
       replace q19 := of_decide_eq_true q19
       exact good_leaf (iAT w (by omega) (by omega) (by omega))
      ·
       replace q19 := of_decide_eq_false q19
       exact good_leaf (iAT w (by omega) (by omega) (by omega))
     ·
      replace q18 := qeF q18
      refine good_node (fun q20 => ?_) (fun q20 => ?_)
      ·
       replace q20 := qeT q20
       exact good_leaf (iAF w (by omega) (by omega) (by omega) (by omega) (by first | assumption | exact andnot0 _))
      ·
       replace q20 := qeF q20
       refine good_node (fun q21 => ?_) (fun q21 => ?_)
       ·
        replace q21 := of_decide_eq_true q21
        exact good_leaf (iAT w (by omega) (by omega) (by omega))
       ·
        replace q21 := of_decide_eq_false q21
        refine good_node (fun q22 => ?_) (fun q22 => ?_)
        ·
         replace q22 := of_decide_eq_true q22
         exact good_leaf (iAT w (by omega) (by omega) (by omega))
        ·
         replace q22 := of_decide_eq_false q22
         refine good_node (fun q23 => ?_) (fun q23 => ?_)
         ·
          replace q23 := of_decide_eq_true q23
          exact good_leaf (iAT w (by omega) (by omega) (by omega))
         ·
          replace q23 := of_decide_eq_false q23
          refine good_node (fun q24 => ?_) (fun q24 => ?_)
          ·
           replace q24 := of_decide_eq_true q24
           exact good_leaf (iAT w (by omega) (by omega) (by omega))
          ·
           replace q24 := of_decide_eq_false q24
           refine good_node (fun q25 => ?_) (fun q25 => ?_)
           ·
            replace q25 := of_decide_eq_true q25
            exact good_leaf (iAT w (by omega) (by omega) (by omega))
           ·
            replace q25 := of_decide_eq_false q25
            refine good_node (fun q26 => ?_) (fun q26 => ?_)
            ·
             replace q26 := qeT q26
             refine good_node (fun q27 => ?_) (fun q27 => ?_)
             ·
              replace q27 := qnT q27
              exact good_leaf (iAT w (by omega) (by omega) (by omega))
             ·
              replace q27 := qnF q27
              refine good_node (fun q28 => ?_) (fun q28 => ?_)
              ·
               replace q28 := of_decide_eq_true q28
               exact good_leaf (iAT w (by omega) (by omega) (by omega))
              ·
               replace q28 := of_decide_eq_false q28
               refine good_node (fun q29 => ?_) (fun q29 => ?_)
               ·
                replace q29 := of_decide_eq_true q29
                exact good_leaf (iAT w (by omega) (by omega) (by omega))
               ·
                replace q29 := of_decide_eq_false q29
                refine good_node (fun q30 => ?_) (fun q30 => ?_)
                ·
                 replace q30 := qnT q30
                 exact good_leaf (iAT w (by omega) (by omega) (by omega))
                ·
                 replace q30 := qnF q30
                 exact good_leaf (iAT w (by omega) (by omega) (by omega))
            ·
             replace q26 := qeF q26
             refine good_node (fun q31 => ?_) (fun q31 => ?_)
             ·
              replace q31 := of_decide_eq_true q31
              exact good_leaf (iAT w (by omega) (by omega) (by omega))
             ·
              replace q31 := of_decide_eq_false q31
              refine good_node (fun q32 => ?_) (fun q32 => ?_)
              ·
               replace q32 := of_decide_eq_true q32
               exact good_leaf (iAT w (by omega) (by omega) (by omega))
              ·
               replace q32 := of_decide_eq_false q32
               refine good_node (fun q33 => ?_) (fun q33 => ?_)
               ·
                replace q33 := qnT q33
                exact good_leaf (iAT w (by omega) (by omega) (by omega))
               ·
                replace q33 := qnF q33
                exact good_leaf (iAT w (by omega) (by omega) (by omega))
theorem stepAF {n0 : Int} {l1 : LR} {i : Int} (p0 : 0 ≤ n0) (p1 : n0 ≤ 255) (h0 : 0 ≤ i) (hi : i < (l1.length : Int)) (hl : l1.length ≤ 300) (n2 : Int) (n3 : Int) (n5 : Int) (n6 : Int) (n7 : Int) (n8 : Int) (n9 : Int) (n10 : Int) (n11 : Int) (l12 : List (Ty.den (.int .u8))) (n13 : Int) (b14 : Bool) (n15 : Int) (c0 : 0 ≤ n15) (c1 : n15 ≤ i) (c2 : 0 < n2) (c3 : n15 ≤ 1 + n0) (c4 : iandnot .u64 n5 n9 = 0) : Good (StepR n0 l1 i) (st_L6_11 (eAF n0 l1 i n2 n3 n5 n6 n7 n8 n9 n10 n11 l12 n13 b14 n15)).sel := by
  have w : IntKind.wrap .i64 (i + 1) = i + 1 := w64 (by omega) (by omega)
  have wt : IntKind.wrap .i64 (n15 + 1) = n15 + 1 := w64 (by omega) (by omega)
  refine Imp.good (fn_L6_11_AF_im n0 l1 n2 n3 i n5 n6 n7 n8 n9 n10 n11 l12 n13 b14 n15 (1 + n0) (by first | assumption | rfl | omega | exact andnot0 _) (by first | assumption | rfl | omega | exact andnot0 _) (by first | assumption | rfl | omega | exact andnot0 _) (by first | assumption | rfl | omega | exact andnot0 _) (by first | assumption | rfl | omega | exact andnot0 _) (by first | assumption | rfl | omega | exact andnot0 _) (by first | assumption | rfl | omega | exact andnot0 _) (by first | assumption | rfl | omega | exact andnot0 _) (by first | assumption | rfl | omega | exact andnot0 _) (by first | assumption | rfl | omega | exact andnot0 _) (by first | assumption | rfl | omega | exact andnot0 _)) ?_
  unfold fn_L6_11_AF
  refine good_node (fun q0 => ?_) (fun q0 => ?_)
  ·
   replace q0 := qeT q0
   refine good_node (fun q1 => ?_) (fun q1 => ?_)
   ·
    replace q1 := of_decide_eq_true q1
    exact good_leaf (iAF w (by omega) (by omega) (by omega) (by omega) (by first | assumption | exact andnot0 _))
   ·
    replace q1 := of_decide_eq_false q1
    refine good_node (fun q2 => ?_) (fun q2 => ?_)
    ·
     replace q2 := of_decide_eq_true q2
     exact good_leaf (iAF w (by omega) (by omega) (by omega) (by omega) (by first | assumption | exact andnot0 _))
    ·
     replace q2 := of_decide_eq_false q2
     refine good_node (fun q3 => ?_) (fun q3 => ?_)
     ·
      replace q3 := of_decide_eq_true q3
      exact good_leaf (iAF w (by omega) (by omega) (by omega) (by omega) (by first | assumption | exact andnot0 _))
     ·
      replace q3 := of_decide_eq_false q3
      refine good_node (fun q4 => ?_) (fun q4 => ?_)
      ·
       replace q4 := of_decide_eq_true q4
       exact good_leaf (iAF w (by omega) (by omega) (by omega) (by omega) (by first | assumption | exact andnot0 _))
      ·
       replace q4 := of_decide_eq_false q4
       refine good_node (fun q5 => ?_) (fun q5 => ?_)
       ·
        replace q5 := of_decide_eq_true q5
        exact good_leaf (iAF w (by omega) (by omega) (by omega) (by omega) (by first | assumption | exact andnot0 _))
       ·
        replace q5 := of_decide_eq_false q5
        refine good_node (fun q6 => ?_) (fun q6 => ?_)
        ·
         replace q6 := qeT q6
         refine good_node (fun q7 => ?_) (fun q7 => ?_)
         ·
          replace q7 := qnT q7
          exact good_leaf (iAF w (by omega) (by omega) (by omega) (by omega) (by first | assumption | exact andnot0 _))
         ·
          replace q7 := qnF q7
          exact good_leaf (iAF w (by omega) (by omega) (by omega) (by omega) (by first | assumption | exact andnot0 _))
        ·
         replace q6 := qeF q6
         exact good_leaf (iAF w (by omega) (by omega) (by omega) (by omega) (by first | assumption | exact andnot0 _))
  ·
   replace q0 := qeF q0
   refine good_node (fun q8 => ?_) (fun q8 => ?_)
   ·
    replace q8 := qeT q8
    refine good_node (fun q9 => ?_) (fun q9 => ?_)
    ·
     replace q9 := of_decide_eq_true q9
     exact good_leaf (iAF w (by omega) (by omega) (by omega) (by omega) (by first | assumption | exact andnot0 _))
    ·
     replace q9 := of_decide_eq_false q9
     refine good_node (fun q10 => ?_) (fun q10 => ?_)
     ·
      replace q10 := of_decide_eq_true q10
      exact good_leaf (iAF w (by omega) (by omega) (by omega) (by omega) (by first | assumption | exact andnot0 _))
     ·
      replace q10 := of_decide_eq_false q10
      refine good_node (fun q11 => ?_) (fun q11 => ?_)
      ·
       replace q11 := of_decide_eq_true q11
       exact good_leaf (iAF w (by omega) (by omega) (by omega) (by omega) (by first | assumption | exact andnot0 _))
      ·
       replace q11 := of_decide_eq_false q11
       refine good_node (fun q12 => ?_) (fun q12 => ?_)
       ·
        replace q12 := of_decide_eq_true q12
        exact good_leaf (iAF w (by omega) (by omega) (by omega) (by omega) (by first | assumption | exact andnot0 _))
       ·
        replace q12 := of_decide_eq_false q12
        refine good_node (fun q13 => ?_) (fun q13 => ?_)
        ·
         replace q13 := of_decide_eq_true q13
         exact good_leaf (iAF w (by omega) (by omega) (by omega) (by omega) (by first | assumption | exact andnot0 _))
        ·
         replace q13 := of_decide_eq_false q13
         refine good_node (fun q14 => ?_) (fun q14 => ?_)
         ·
          replace q14 := qeT q14
          refine good_node (fun q15 => ?_) (fun q15 => ?_)
          ·
           replace q15 := qnT q15
           exact good_leaf (iAF w (by omega) (by omega) (by omega) (by omega) (by first | assumption | exact andnot0 _))
          ·
           replace q15 := qnF q15
           exact good_leaf (iAT w (by omega) (by omega) (by omega))
         ·
          replace q14 := qeF q14
          exact good_leaf (iAT w (by omega) (by omega) (by omega))
   ·
    replace q8 := qeF q8
    refine good_node (fun q16 => ?_) (fun q16 => ?_)
    ·
     replace q16 := qeT q16
     refine good_node (fun q17 => ?_) (fun q17 => ?_)
     ·
      replace q17 := of_decide_eq_true q17
      exact good_leaf (iAT w (by omega) (by omega) (by omega))
     ·
      replace q17 := of_decide_eq_false q17
      exact good_leaf (iAF w (by omega) (by omega) (by omega) (by omega) (by first | assumption | exact andnot0 _))
    ·
     replace q16 := qeF q16
     refine good_node (fun q18 => ?_) (fun q18 => ?_)
     ·
      replace q18 := qeT q18
      refine good_node (fun q19 => ?_) (fun q19 => ?_)
      ·
       replace q19 := of_decide_eq_true q19
       exact good_leaf (iAT w (by omega) (by omega) (by omega))
      ·
       replace q19 := of_decide_eq_false q19
       exact good_leaf (iAF w (by omega) (by omega) (by omega) (by omega) (by first | assumption | exact andnot0 _))
     ·
      replace q18 := qeF q18
      refine good_node (fun q20 => ?_) (fun q20 => ?_)
      ·
       replace q20 := qeT q20
       exact good_leaf (iAF w (by omega) (by omega) (by omega) (by omega) (by first | assumption | exact andnot0 _))
      ·
       replace q20 := qeF q20
       refine good_node (fun q21 => ?_) (fun q21 => ?_)
       ·
        replace q21 := of_decide_eq_true q21
        exact good_leaf (iAF w (by omega) (by omega) (by omega) (by omega) (by first | assumption | exact andnot0 _))
       ·
        replace q21 := of_decide_eq_false q21
        refine good_node (fun q22 => ?_) (fun q22 => ?_)
        ·
         replace q22 := of_decide_eq_true q22
         exact good_leaf (iAF w (by omega) (by omega) (by omega) (by omega) (by first | assumption | exact andnot0 _))
        ·
         replace q22 := of_decide_eq_false q22
         refine good_node (fun q23 => ?_) (fun q23 => ?_)
         ·
          replace q23 := of_decide_eq_true q23
          exact good_leaf (iAF w (by omega) (by omega) (by omega) (by omega) (by first | assumption | exact andnot0 _))
         ·
          replace q23 := of_decide_eq_false q23
          refine good_node (fun q24 => ?_) (fun q24 => ?_)
          ·
           replace q24 := of_decide_eq_true q24
           exact good_leaf (iAF w (by omega) (by omega) (by omega) (by omega) (by first | assumption | exact andnot0 _))
          ·
           replace q24 := of_decide_eq_false q24
           refine good_node (fun q25 => ?_) (fun q25 => ?_)
           ·
            replace q25 := of_decide_eq_true q25
            exact good_leaf (iAF w (by omega) (by omega) (by omega) (by omega) (by first | assumption | exact andnot0 _))
           ·
            replace q25 := of_decide_eq_false q25
            refine good_node (fun q26 => ?_) (fun q26 => ?_)
            ·
             replace q26 := qeT q26
             refine good_node (fun q27 => ?_) (fun q27 => ?_)
             ·
              replace q27 := qnT q27
              exact good_leaf (iAF w (by omega) (by omega) (by omega) (by omega) (by first | assumption | exact andnot0 _))
             ·
              replace q27 := qnF q27
              refine good_node (fun q28 => ?_) (fun q28 => ?_)
              ·
               replace q28 := of_decide_eq_true q28
               exact good_leaf (iAF w (by omega) (by omega) (by omega) (by omega) (by first | assumption | exact andnot0 _))
              ·
               replace q28 := of_decide_eq_false q28
               refine good_node (fun q29 => ?_) (fun q29 => ?_)
               ·
                replace q29 := of_decide_eq_true q29
                exact good_leaf (iAF w (by omega) (by omega) (by omega) (by omega) (by first | assumption | exact andnot0 _))
               ·
                replace q29 := of_decide_eq_false q29
                refine good_node (fun q30 => ?_) (fun q30 => ?_)
                ·
                 replace q30 := qnT q30
                 exact good_leaf (iAF w (by omega) (by omega) (by omega) (by omega) (by first | assumption | exact andnot0 _))
                ·
                 replace q30 := qnF q30
                 refine good_node (fun q31 => ?_) (fun q31 => ?_)
                 ·
                  replace q31 := qnT q31
                  exfalso; omega
                 ·
                  replace q31 := qnF q31
                  refine good_node (fun q32 => ?_) (fun q32 => ?_)
                  ·
                   exfalso; simp at q32; exact Bool.noConfusion ((eqL_self (cl_11 l1 i)).symm.trans q32)
                  ·
                   exact good_leaf (iBF w (by omega) (by omega) (by omega) (by omega) (by first | assumption | exact andnot0 _ | exact q30))
            ·
             replace q26 := qeF q26
             refine good_node (fun q33 => ?_) (fun q33 => ?_)
             ·
              replace q33 := of_decide_eq_true q33
              exact good_leaf (iAF w (by omega) (by omega) (by omega) (by omega) (by first | assumption | exact andnot0 _))
             ·
              replace q33 := of_decide_eq_false q33
              refine good_node (fun q34 => ?_) (fun q34 => ?_)
              ·
               replace q34 := of_decide_eq_true q34
               exact good_leaf (iAF w (by omega) (by omega) (by omega) (by omega) (by first | assumption | exact andnot0 _))
              ·
               replace q34 := of_decide_eq_false q34
               refine good_node (fun q35 => ?_) (fun q35 => ?_)
               ·
                replace q35 := qnT q35
                exact good_leaf (iAF w (by omega) (by omega) (by omega) (by omega) (by first | assumption | exact andnot0 _))
               ·
                replace q35 := qnF q35
                refine good_node (fun q36 => ?_) (fun q36 => ?_)
                ·
                 exfalso; simp at q36; exact Bool.noConfusion ((eqL_self (cl_11 l1 i)).symm.trans q36)
                ·
                 exact good_leaf (iBF w (by omega) (by omega) (by omega) (by omega) (by first | assumption | exact andnot0 _ | exact q35))
theorem stepBT {n0 : Int} {l1 : LR} {i : Int} (p0 : 0 ≤ n0) (p1 : n0 ≤ 255) (h0 : 0 ≤ i) (hi : i < (l1.length : Int)) (hl : l1.length ≤ 300) (n2 : Int) (n3 : Int) (n5 : Int) (n6 : Int) (n7 : Int) (n8 : Int) (n9 : Int) (n10 : Int) (n11 : Int) (l12 : List (Ty.den (.int .u8))) (n13 : Int) (b14 : Bool) (n15 : Int) (n17 : Int) (c0 : 0 ≤ n15) (c1 : n15 ≤ i) (c2 : 0 < n2) : Good (StepR n0 l1 i) (st_L6_11 (eBT n0 l1 i n2 n3 n5 n6 n7 n8 n9 n10 n11 l12 n13 b14 n15 n17)).sel := by
  have w : IntKind.wrap .i64 (i + 1) = i + 1 := w64 (by omega) (by omega)
  have wt : IntKind.wrap .i64 (n15 + 1) = n15 + 1 := w64 (by omega) (by omega)
  refine Imp.good (fn_L6_11_BT_im n0 l1 n2 n3 i n5 n6 n7 n8 n9 n10 n11 l12 n13 b14 n15 (1 + n0) n17 (by first | assumption | rfl | omega | exact andnot0 _) (by first | assumption | rfl | omega | exact andnot0 _) (by first | assumption | rfl | omega | exact andnot0 _) (by first | assumption | rfl | omega | exact andnot0 _) (by first | assumption | rfl | omega | exact andnot0 _) (by first | assumption | rfl | omega | exact andnot0 _) (by first | assumption | rfl | omega | exact andnot0 _) (by first | assumption | rfl | omega | exact andnot0 _) (by first | assumption | rfl | omega | exact andnot0 _) (by first | assumption | rfl | omega | exact andnot0 _)) ?_
  unfold fn_L6_11_BT
  refine good_node (fun q0 => ?_) (fun q0 => ?_)
  ·
   replace q0 := qeT q0
   refine good_node (fun q1 => ?_) (fun q1 => ?_)
   ·
    replace q1 := of_decide_eq_true q1
    exact good_leaf (iBT w (by omega) (by omega) (by omega))
   ·
    replace q1 := of_decide_eq_false q1
    refine good_node (fun q2 => ?_) (fun q2 => ?_)
    ·
     replace q2 := of_decide_eq_true q2
     exact good_leaf (iBT w (by omega) (by omega) (by omega))
    ·
     replace q2 := of_decide_eq_false q2
     refine good_node (fun q3 => ?_) (fun q3 => ?_)
     ·
      replace q3 := of_decide_eq_true q3
      exact good_leaf (iBT w (by omega) (by omega) (by omega))
     ·
      replace q3 := of_decide_eq_false q3
      refine good_node (fun q4 => ?_) (fun q4 => ?_)
      ·
       replace q4 := of_decide_eq_true q4
       exact good_leaf (iBT w (by omega) (by omega) (by omega))
      ·
       replace q4 := of_decide_eq_false q4
       refine good_node (fun q5 => ?_) (fun q5 => ?_)
       ·
        replace q5 := of_decide_eq_true q5
        exact good_leaf (iBT w (by omega) (by omega) (by omega))
       ·
        replace q5 := of_decide_eq_false q5
        refine good_node (fun q6 => ?_) (fun q6 => ?_)
        ·
         replace q6 := qeT q6
         refine good_node (fun q7 => ?_) (fun q7 => ?_)
         ·
          replace q7 := qnT q7
          exact good_leaf (iBT w (by omega) (by omega) (by omega))
         ·
          replace q7 := qnF q7
          exact good_leaf (iBT w (by omega) (by omega) (by omega))
        ·
         replace q6 := qeF q6
         exact good_leaf (iAT w (by omega) (by omega) (by omega))
  ·
   replace q0 := qeF q0
   refine good_node (fun q8 => ?_) (fun q8 => ?_)
   ·
    replace q8 := qeT q8
    refine good_node (fun q9 => ?_) (fun q9 => ?_)
    ·
     replace q9 := of_decide_eq_true q9
     exact good_leaf (iBT w (by omega) (by omega) (by omega))
    ·
     replace q9 := of_decide_eq_false q9
     refine good_node (fun q10 => ?_) (fun q10 => ?_)
     ·
      replace q10 := of_decide_eq_true q10
      exact good_leaf (iBT w (by omega) (by omega) (by omega))
     ·
      replace q10 := of_decide_eq_false q10
      refine good_node (fun q11 => ?_) (fun q11 => ?_)
      ·
       replace q11 := of_decide_eq_true q11
       exact good_leaf (iBT w (by omega) (by omega) (by omega))
      ·
       replace q11 := of_decide_eq_false q11
       refine good_node (fun q12 => ?_) (fun q12 => ?_)
       ·
        replace q12 := of_decide_eq_true q12
        exact good_leaf (iBT w (by omega) (by omega) (by omega))
       ·
        replace q12 := of_decide_eq_false q12
        refine good_node (fun q13 => ?_) (fun q13 => ?_)
        ·
         replace q13 := of_decide_eq_true q13
         exact good_leaf (iBT w (by omega) (by omega) (by omega))
        ·
         replace q13 := of_decide_eq_false q13
         refine good_node (fun q14 => ?_) (fun q14 => ?_)
         ·
          replace q14 := qeT q14
          refine good_node (fun q15 => ?_) (fun q15 => ?_)
          ·
           replace q15 := qnT q15
           exact good_leaf (iBT w (by omega) (by omega) (by omega))
          ·
           replace q15 := qnF q15
           exact good_leaf (iBT w (by omega) (by omega) (by omega))
         ·
          replace q14 := qeF q14
          exact good_leaf (iAT w (by omega) (by omega) (by omega))
   ·
    replace q8 := qeF q8
    refine good_node (fun q16 => ?_) (fun q16 => ?_)
    ·
     replace q16 := qeT q16
     refine good_node (fun q17 => ?_) (fun q17 => ?_)
     ·
      replace q17 := of_decide_eq_true q17
      exact good_leaf (iBT w (by omega) (by omega) (by omega))
     ·
      replace q17 := of_decide_eq_false q17
      exact good_leaf (iBT w (by omega) (by omega) (by omega))
    ·
     replace q16 := qeF q16
     refine good_node (fun q18 => ?_) (fun q18 => ?_)
     ·
      replace q18 := qeT q18
      refine good_node (fun q19 => ?_) (fun q19 => ?_)
      ·
       replace q19 := of_decide_eq_true q19
       exact good_leaf (iBT w (by omega) (by omega) (by omega))
      ·
       replace q19 := of_decide_eq_false q19
       exact good_leaf (iBT w (by omega) (by omega) (by omega))
     ·
      replace q18 := qeF q18
      refine good_node (fun q20 => ?_) (fun q20 => ?_)
      ·
       replace q20 := qeT q20
       exact good_leaf (iBF w (by omega) (by omega) (by omega) (by omega) (by first | assumption | exact andnot0 _))
      ·
       replace q20 := qeF q20
       refine good_node (fun q21 => ?_) (fun q21 => ?_)
       ·
        replace q21 := of_decide_eq_true q21
        exact good_leaf (iBT w (by omega) (by omega) (by omega))
       ·
        replace q21 := of_decide_eq_false q21
        refine good_node (fun q22 => ?_) (fun q22 => ?_)
        ·
         replace q22 := of_decide_eq_true q22
         exact good_leaf (iBT w (by omega) (by omega) (by omega))
        ·
         replace q22 := of_decide_eq_false q22
         refine good_node (fun q23 => ?_) (fun q23 => ?_)
         ·
          replace q23 := of_decide_eq_true q23
          exact good_leaf (iBT w (by omega) (by omega) (by omega))
         ·
          replace q23 := of_decide_eq_false q23
          refine good_node (fun q24 => ?_) (fun q24 => ?_)
          ·
           replace q24 := of_decide_eq_true q24
           exact good_leaf (iBT w (by omega) (by omega) (by omega))
          ·
           replace q24 := of_decide_eq_false q24
           refine good_node (fun q25 => ?_) (fun q25 => ?_)
           ·
            replace q25 := of_decide_eq_true q25
            exact good_leaf (iBT w (by omega) (by omega) (by omega))
           ·
            replace q25 := of_decide_eq_false q25
            refine good_node (fun q26 => ?_) (fun q26 => ?_)
            ·
             replace q26 := qeT q26
             refine good_node (fun q27 => ?_) (fun q27 => ?_)
             ·
              replace q27 := qnT q27
              exact good_leaf (iBT w (by omega) (by omega) (by omega))
             ·
              replace q27 := qnF q27
              refine good_node (fun q28 => ?_) (fun q28 => ?_)
              ·
               replace q28 := of_decide_eq_true q28
               exact good_leaf (iBT w (by omega) (by omega) (by omega))
              ·
               replace q28 := of_decide_eq_false q28
               refine good_node (fun q29 => ?_) (fun q29 => ?_)
               ·
                replace q29 := of_decide_eq_true q29
                exact good_leaf (iBT w (by omega) (by omega) (by omega))
               ·
                replace q29 := of_decide_eq_false q29
                refine good_node (fun q30 => ?_) (fun q30 => ?_)
                ·
                 replace q30 := qnT q30
                 exact good_leaf (iBT w (by omega) (by omega) (by omega))
                ·
                 replace q30 := qnF q30
                 exact good_leaf (iBT w (by omega) (by omega) (by omega))
            ·
             replace q26 := qeF q26
             refine good_node (fun q31 => ?_) (fun q31 => ?_)
             ·
              replace q31 := of_decide_eq_true q31
              exact good_leaf (iBT w (by omega) (by omega) (by omega))
             ·
              replace q31 := of_decide_eq_false q31
              refine good_node (fun q32 => ?_) (fun q32 => ?_)
              ·
               replace q32 := of_decide_eq_true q32
               exact good_leaf (iBT w (by omega) (by omega) (by omega))
              ·
               replace q32 := of_decide_eq_false q32
               refine good_node (fun q33 => ?_) (fun q33 => ?_)
               ·
                replace q33 := qnT q33
                exact good_leaf (iBT w (by omega) (by omega) (by omega))
               ·
                replace q33 := qnF q33
                exact good_leaf (iAT w (by omega) (by omega) (by omega))
theorem stepBF {n0 : Int} {l1 : LR} {i : Int} (p0 : 0 ≤ n0) (p1 : n0 ≤ 255) (h0 : 0 ≤ i) (hi : i < (l1.length : Int)) (hl : l1.length ≤ 300) (n2 : Int) (n3 : Int) (n5 : Int) (n6 : Int) (n7 : Int) (n8 : Int) (n9 : Int) (n10 : Int) (n11 : Int) (l12 : List (Ty.den (.int .u8))) (n13 : Int) (b14 : Bool) (n15 : Int) (n17 : Int) (c0 : 0 ≤ n15) (c1 : n15 ≤ i) (c2 : 0 < n2) (c3 : n15 ≤ 1 + n0) (c4 : iandnot .u64 n5 n9 = 0) : Good (StepR n0 l1 i) (st_L6_11 (eBF n0 l1 i n2 n3 n5 n6 n7 n8 n9 n10 n11 l12 n13 b14 n15 n17)).sel := by
  have w : IntKind.wrap .i64 (i + 1) = i + 1 := w64 (by omega) (by omega)
  have wt : IntKind.wrap .i64 (n15 + 1) = n15 + 1 := w64 (by omega) (by omega)
  refine Imp.good (fn_L6_11_BF_im n0 l1 n2 n3 i n5 n6 n7 n8 n9 n10 n11 l12 n13 b14 n15 (1 + n0) n17 (by first | assumption | rfl | omega | exact andnot0 _) (by first | assumption | rfl | omega | exact andnot0 _) (by first | assumption | rfl | omega | exact andnot0 _) (by first | assumption | rfl | omega | exact andnot0 _) (by first | assumption | rfl | omega | exact andnot0 _) (by first | assumption | rfl | omega | exact andnot0 _) (by first | assumption | rfl | omega | exact andnot0 _) (by first | assumption | rfl | omega | exact andnot0 _) (by first | assumption | rfl | omega | exact andnot0 _) (by first | assumption | rfl | omega | exact andnot0 _) (by first | assumption | rfl | omega | exact andnot0 _)) ?_
  unfold fn_L6_11_BF
  refine good_node (fun q0 => ?_) (fun q0 => ?_)
  ·
   replace q0 := qeT q0
   refine good_node (fun q1 => ?_) (fun q1 => ?_)
   ·
    replace q1 := of_decide_eq_true q1
    exact good_leaf (iBF w (by omega) (by omega) (by omega) (by omega) (by first | assumption | exact andnot0 _))
   ·
    replace q1 := of_decide_eq_false q1
    refine good_node (fun q2 => ?_) (fun q2 => ?_)
    ·
     replace q2 := of_decide_eq_true q2
     exact good_leaf (iBF w (by omega) (by omega) (by omega) (by omega) (by first | assumption | exact andnot0 _))
    ·
     replace q2 := of_decide_eq_false q2
     refine good_node (fun q3 => ?_) (fun q3 => ?_)
     ·
      replace q3 := of_decide_eq_true q3
      exact good_leaf (iBF w (by omega) (by omega) (by omega) (by omega) (by first | assumption | exact andnot0 _))
     ·
      replace q3 := of_decide_eq_false q3
      refine good_node (fun q4 => ?_) (fun q4 => ?_)
      ·
       replace q4 := of_decide_eq_true q4
       exact good_leaf (iBF w (by omega) (by omega) (by omega) (by omega) (by first | assumption | exact andnot0 _))
      ·
       replace q4 := of_decide_eq_false q4
       refine good_node (fun q5 => ?_) (fun q5 => ?_)
       ·
        replace q5 := of_decide_eq_true q5
        exact good_leaf (iBF w (by omega) (by omega) (by omega) (by omega) (by first | assumption | exact andnot0 _))
       ·
        replace q5 := of_decide_eq_false q5
        refine good_node (fun q6 => ?_) (fun q6 => ?_)
        ·
         replace q6 := qeT q6
         refine good_node (fun q7 => ?_) (fun q7 => ?_)
         ·
          replace q7 := qnT q7
          exact good_leaf (iBF w (by omega) (by omega) (by omega) (by omega) (by first | assumption | exact andnot0 _))
         ·
          replace q7 := qnF q7
          exact good_leaf (iBF w (by omega) (by omega) (by omega) (by omega) (by first | assumption | exact andnot0 _))
        ·
         replace q6 := qeF q6
         exact good_leaf (iAF w (by omega) (by omega) (by omega) (by omega) (by first | assumption | exact andnot0 _))
  ·
   replace q0 := qeF q0
   refine good_node (fun q8 => ?_) (fun q8 => ?_)
   ·
    replace q8 := qeT q8
    refine good_node (fun q9 => ?_) (fun q9 => ?_)
    ·
     replace q9 := of_decide_eq_true q9
     exact good_leaf (iBF w (by omega) (by omega) (by omega) (by omega) (by first | assumption | exact andnot0 _))
    ·
     replace q9 := of_decide_eq_false q9
     refine good_node (fun q10 => ?_) (fun q10 => ?_)
     ·
      replace q10 := of_decide_eq_true q10
      exact good_leaf (iBF w (by omega) (by omega) (by omega) (by omega) (by first | assumption | exact andnot0 _))
     ·
      replace q10 := of_decide_eq_false q10
      refine good_node (fun q11 => ?_) (fun q11 => ?_)
      ·
       replace q11 := of_decide_eq_true q11
       exact good_leaf (iBF w (by omega) (by omega) (by omega) (by omega) (by first | assumption | exact andnot0 _))
      ·
       replace q11 := of_decide_eq_false q11
       refine good_node (fun q12 => ?_) (fun q12 => ?_)
       ·
        replace q12 := of_decide_eq_true q12
        exact good_leaf (iBF w (by omega) (by omega) (by omega) (by omega) (by first | assumption | exact andnot0 _))
       ·
        replace q12 := of_decide_eq_false q12
        refine good_node (fun q13 => ?_) (fun q13 => ?_)
        ·
         replace q13 := of_decide_eq_true q13
         exact good_leaf (iBF w (by omega) (by omega) (by omega) (by omega) (by first | assumption | exact andnot0 _))
        ·
         replace q13 := of_decide_eq_false q13
         refine good_node (fun q14 => ?_) (fun q14 => ?_)
         ·
          replace q14 := qeT q14
          refine good_node (fun q15 => ?_) (fun q15 => ?_)
          ·
           replace q15 := qnT q15
           exact good_leaf (iBF w (by omega) (by omega) (by omega) (by omega) (by first | assumption | exact andnot0 _))
          ·
           replace q15 := qnF q15
           exact good_leaf (iBT w (by omega) (by omega) (by omega))
         ·
          replace q14 := qeF q14
          exact good_leaf (iAT w (by omega) (by omega) (by omega))
   ·
    replace q8 := qeF q8
    refine good_node (fun q16 => ?_) (fun q16 => ?_)
    ·
     replace q16 := qeT q16
     refine good_node (fun q17 => ?_) (fun q17 => ?_)
     ·
      replace q17 := of_decide_eq_true q17
      exact good_leaf (iBT w (by omega) (by omega) (by omega))
     ·
      replace q17 := of_decide_eq_false q17
      exact good_leaf (iBF w (by omega) (by omega) (by omega) (by omega) (by first | assumption | exact andnot0 _))
    ·
     replace q16 := qeF q16
     refine good_node (fun q18 => ?_) (fun q18 => ?_)
     ·
      replace q18 := qeT q18
      refine good_node (fun q19 => ?_) (fun q19 => ?_)
      ·
       replace q19 := of_decide_eq_true q19
       exact good_leaf (iBT w (by omega) (by omega) (by omega))
      ·
       replace q19 := of_decide_eq_false q19
       exact good_leaf (iBF w (by omega) (by omega) (by omega) (by omega) (by first | assumption | exact andnot0 _))
     ·
      replace q18 := qeF q18
      refine good_node (fun q20 => ?_) (fun q20 => ?_)
      ·
       replace q20 := qeT q20
       exact good_leaf (iBF w (by omega) (by omega) (by omega) (by omega) (by first | assumption | exact andnot0 _))
      ·
       replace q20 := qeF q20
       refine good_node (fun q21 => ?_) (fun q21 => ?_)
       ·
        replace q21 := of_decide_eq_true q21
        exact good_leaf (iBF w (by omega) (by omega) (by omega) (by omega) (by first | assumption | exact andnot0 _))
       ·
        replace q21 := of_decide_eq_false q21
        refine good_node (fun q22 => ?_) (fun q22 => ?_)
        ·
         replace q22 := of_decide_eq_true q22
         exact good_leaf (iBF w (by omega) (by omega) (by omega) (by omega) (by first | assumption | exact andnot0 _))
        ·
         replace q22 := of_decide_eq_false q22
         refine good_node (fun q23 => ?_) (fun q23 => ?_)
         ·
          replace q23 := of_decide_eq_true q23
          exact good_leaf (iBF w (by omega) (by omega) (by omega) (by omega) (by first | assumption | exact andnot0 _))
         ·
          replace q23 := of_decide_eq_false q23
          refine good_node (fun q24 => ?_) (fun q24 => ?_)
          ·
           replace q24 := of_decide_eq_true q24
           exact good_leaf (iBF w (by omega) (by omega) (by omega) (by omega) (by first | assumption | exact andnot0 _))
          ·
           replace q24 := of_decide_eq_false q24
           refine good_node (fun q25 => ?_) (fun q25 => ?_)
           ·
            replace q25 := of_decide_eq_true q25
            exact good_leaf (iBF w (by omega) (by omega) (by omega) (by omega) (by first | assumption | exact andnot0 _))
           ·
            replace q25 := of_decide_eq_false q25
            refine good_node (fun q26 => ?_) (fun q26 => ?_)
            ·
             replace q26 := qeT q26
             refine good_node (fun q27 => ?_) (fun q27 => ?_)
             ·
              replace q27 := qnT q27
              exact good_leaf (iBF w (by omega) (by omega) (by omega) (by omega) (by first | assumption | exact andnot0 _))
             ·
              replace q27 := qnF q27
              refine good_node (fun q28 => ?_) (fun q28 => ?_)
              ·
               replace q28 := of_decide_eq_true q28
               exact good_leaf (iBF w (by omega) (by omega) (by omega) (by omega) (by first | assumption | exact andnot0 _))
              ·
               replace q28 := of_decide_eq_false q28
               refine good_node (fun q29 => ?_) (fun q29 => ?_)
               ·
                replace q29 := of_decide_eq_true q29
                exact good_leaf (iBF w (by omega) (by omega) (by omega) (by omega) (by first | assumption | exact andnot0 _))
               ·
                replace q29 := of_decide_eq_false q29
                refine good_node (fun q30 => ?_) (fun q30 => ?_)
                ·
                 replace q30 := qnT q30
                 exact good_leaf (iBF w (by omega) (by omega) (by omega) (by omega) (by first | assumption | exact andnot0 _))
                ·
                 replace q30 := qnF q30
                 refine good_node (fun q31 => ?_) (fun q31 => ?_)
                 ·
                  replace q31 := of_decide_eq_true q31
                  exact good_leaf (iBF w (by omega) (by omega) (by omega) (by omega) (by first | assumption | exact andnot0 _ | exact q30))
                 ·
                  replace q31 := of_decide_eq_false q31
                  refine good_node (fun q32 => ?_) (fun q32 => ?_)
                  ·
                   replace q32 := qnT q32
                   exfalso; omega
                  ·
                   replace q32 := qnF q32
                   refine good_node (fun q33 => ?_) (fun q33 => ?_)
                   ·
                    exfalso; simp at q33; exact Bool.noConfusion ((eqL_self (cl_11 l1 i)).symm.trans q33)
                   ·
                    exact good_leaf (iBF w (by omega) (by omega) (by omega) (by omega) (by first | assumption | exact andnot0 _ | exact q30))
            ·
             replace q26 := qeF q26
             refine good_node (fun q34 => ?_) (fun q34 => ?_)
             ·
              replace q34 := of_decide_eq_true q34
              exact good_leaf (iBF w (by omega) (by omega) (by omega) (by omega) (by first | assumption | exact andnot0 _))
             ·
              replace q34 := of_decide_eq_false q34
              refine good_node (fun q35 => ?_) (fun q35 => ?_)
              ·
               replace q35 := of_decide_eq_true q35
               exact good_leaf (iBF w (by omega) (by omega) (by omega) (by omega) (by first | assumption | exact andnot0 _))
              ·
               replace q35 := of_decide_eq_false q35
               refine good_node (fun q36 => ?_) (fun q36 => ?_)
               ·
                replace q36 := qnT q36
                exact good_leaf (iBF w (by omega) (by omega) (by omega) (by omega) (by first | assumption | exact andnot0 _))
               ·
                replace q36 := qnF q36
                refine good_node (fun q37 => ?_) (fun q37 => ?_)
                ·
                 exfalso; simp at q37; exact Bool.noConfusion ((eqL_self (cl_11 l1 i)).symm.trans q37)
                ·
                 exact good_leaf (iBF w (by omega) (by omega) (by omega) (by omega) (by first | assumption | exact andnot0 _ | exact q36))
theorem atR {n0 : Int} {l1 : LR} {i : Int} {env : List Dat} (h : InvR n0 l1 i env) : gn env 8 = i := by
  rcases h with ⟨n5, n6, n7, n8, n9, n10, n11, l12, n13, b14, n15, rfl, c0, c1⟩ | ⟨n5, n6, n7, n8, n9, n10, n11, l12, n13, b14, n15, rfl, c0, c1, c2, c3⟩ | ⟨n2, n3, n5, n6, n7, n8, n9, n10, n11, l12, n13, b14, n15, rfl, c0, c1, c2⟩ | ⟨n2, n3, n5, n6, n7, n8, n9, n10, n11, l12, n13, b14, n15, rfl, c0, c1, c2, c3, c4⟩ | ⟨n2, n3, n5, n6, n7, n8, n9, n10, n11, l12, n13, b14, n15, n17, rfl, c0, c1, c2⟩ | ⟨n2, n3, n5, n6, n7, n8, n9, n10, n11, l12, n13, b14, n15, n17, rfl, c0, c1, c2, c3, c4⟩ <;> rfl
def Inv6 (n0 : Int) (l1 : LR) (env : List Dat) : Prop := ∃ i : Int, 0 ≤ i ∧ i ≤ l1.length ∧ InvR n0 l1 i env
theorem key6 {n0 : Int} {l1 : LR} (p0 : 0 ≤ n0) (p1 : n0 ≤ 255) (hl : l1.length ≤ 300) (env : List Dat) (h : Inv6 n0 l1 env) : Good (fun y => match y with | .go e => Inv6 n0 l1 e ∧ (l1.length - gn e 8).toNat < (l1.length - gn env 8).toNat | .stop k d => (k, d) = (0, [])) (st_L6_11 env).sel := by
  obtain ⟨i, h0, h1, hI⟩ := h
  rw [atR hI]
  by_cases hlt : i < l1.length
  · have fin : Good (StepR n0 l1 i) (st_L6_11 env).sel := by
      rcases hI with ⟨n5, n6, n7, n8, n9, n10, n11, l12, n13, b14, n15, rfl, c0, c1⟩ | ⟨n5, n6, n7, n8, n9, n10, n11, l12, n13, b14, n15, rfl, c0, c1, c2, c3⟩ | ⟨n2, n3, n5, n6, n7, n8, n9, n10, n11, l12, n13, b14, n15, rfl, c0, c1, c2⟩ | ⟨n2, n3, n5, n6, n7, n8, n9, n10, n11, l12, n13, b14, n15, rfl, c0, c1, c2, c3, c4⟩ | ⟨n2, n3, n5, n6, n7, n8, n9, n10, n11, l12, n13, b14, n15, n17, rfl, c0, c1, c2⟩ | ⟨n2, n3, n5, n6, n7, n8, n9, n10, n11, l12, n13, b14, n15, n17, rfl, c0, c1, c2, c3, c4⟩
      · exact stepZT p0 p1 h0 hlt hl n5 n6 n7 n8 n9 n10 n11 l12 n13 b14 n15 c0 c1
      · exact stepZF p0 p1 h0 hlt hl n5 n6 n7 n8 n9 n10 n11 l12 n13 b14 n15 c0 c1 c2 c3
      · exact stepAT p0 p1 h0 hlt hl n2 n3 n5 n6 n7 n8 n9 n10 n11 l12 n13 b14 n15 c0 c1 c2
      · exact stepAF p0 p1 h0 hlt hl n2 n3 n5 n6 n7 n8 n9 n10 n11 l12 n13 b14 n15 c0 c1 c2 c3 c4
      · exact stepBT p0 p1 h0 hlt hl n2 n3 n5 n6 n7 n8 n9 n10 n11 l12 n13 b14 n15 n17 c0 c1 c2
      · exact stepBF p0 p1 h0 hlt hl n2 n3 n5 n6 n7 n8 n9 n10 n11 l12 n13 b14 n15 n17 c0 c1 c2 c3 c4
    obtain ⟨y, e, hy⟩ := fin
    refine ⟨y, e, ?_⟩
    cases y with
    | stop k d => exact hy.elim
    | go e' =>
      have hy : InvR n0 l1 (i + 1) e' := hy
      refine ⟨⟨i + 1, by omega, by omega, hy⟩, ?_⟩
      show ((l1.length : Int) - gn e' 8).toNat < _
      rw [atR hy]; omega
  · have hd : i = (l1.length : Int) := by omega
    rcases hI with ⟨n5, n6, n7, n8, n9, n10, n11, l12, n13, b14, n15, rfl, c0, c1⟩ | ⟨n5, n6, n7, n8, n9, n10, n11, l12, n13, b14, n15, rfl, c0, c1, c2, c3⟩ | ⟨n2, n3, n5, n6, n7, n8, n9, n10, n11, l12, n13, b14, n15, rfl, c0, c1, c2⟩ | ⟨n2, n3, n5, n6, n7, n8, n9, n10, n11, l12, n13, b14, n15, rfl, c0, c1, c2, c3, c4⟩ | ⟨n2, n3, n5, n6, n7, n8, n9, n10, n11, l12, n13, b14, n15, n17, rfl, c0, c1, c2⟩ | ⟨n2, n3, n5, n6, n7, n8, n9, n10, n11, l12, n13, b14, n15, n17, rfl, c0, c1, c2, c3, c4⟩
    · exact Imp.good (fn_L6_11_xZT_im n0 l1 0 0 i n5 n6 n7 n8 n9 n10 n11 l12 n13 b14 n15 (1 + n0) hd) (good_leaf rfl)
    · exact Imp.good (fn_L6_11_xZF_im n0 l1 0 0 i n5 n6 n7 n8 n9 n10 n11 l12 n13 b14 n15 (1 + n0) hd) (good_leaf rfl)
    · exact Imp.good (fn_L6_11_xAT_im n0 l1 n2 n3 i n5 n6 n7 n8 n9 n10 n11 l12 n13 b14 n15 (1 + n0) hd) (good_leaf rfl)
    · exact Imp.good (fn_L6_11_xAF_im n0 l1 n2 n3 i n5 n6 n7 n8 n9 n10 n11 l12 n13 b14 n15 (1 + n0) hd) (good_leaf rfl)
    · exact Imp.good (fn_L6_11_xBT_im n0 l1 n2 n3 i n5 n6 n7 n8 n9 n10 n11 l12 n13 b14 n15 (1 + n0) n17 hd) (good_leaf rfl)
    · exact Imp.good (fn_L6_11_xBF_im n0 l1 n2 n3 i n5 n6 n7 n8 n9 n10 n11 l12 n13 b14 n15 (1 + n0) n17 hd) (good_leaf rfl)
theorem run6 {n0 : Int} {l1 : LR} (p0 : 0 ≤ n0) (p1 : n0 ≤ 255) (hl : l1.length ≤ 300) : op_L6_11 (eZT n0 l1 0 0 0 0 0 0 0 0 (List.replicate 64 (0 : Int)) 0 false 0) = some (0, []) := by
  obtain ⟨y, e, hy⟩ := op_L6_11_good (p := fun y => y = (0, [])) (Inv6 n0 l1) (fun env => (l1.length - gn env 8).toNat) (key6 p0 p1 hl) (eZT n0 l1 0 0 0 0 0 0 0 0 (List.replicate 64 (0 : Int)) 0 false 0) ⟨0, by omega, by omega, .inl ⟨_, _, _, _, _, _, _, _, _, _, _, rfl, by omega, by omega⟩⟩ (by show ((l1.length : Int) - 0).toNat < FU; unfold FU; omega)
  rw [e, hy]
theorem t6 (n0 : Int) (l1 : LR) (p0 : 0 ≤ n0) (p1 : n0 ≤ 255) : (ev_W6 [.n n0, .l TCall24 l1]).sel = some true := by
  obtain ⟨y, e, hy⟩ : Good (fun y => y = true) (ev_W6 [.n n0, .l TCall24 l1]).sel := by
    refine (fn_W6_t_im n0 l1).good ?_
    unfold fn_W6_t
    have w : IntKind.wrap .i64 ((1 : Int) + IntKind.wrap .i64 n0) = 1 + n0 := by simp only [w64d]; omega
    refine good_node (fun _ => good_leaf rfl) (fun q => ?_)
    have h2 : l1.length ≤ 300 := by have := of_decide_eq_false q; omega
    refine good_f (decide_eq_false (by rw [w]; omega)) (good_f (decide_eq_false (by rw [w]; omega)) ?_)
    have e := run6 p0 p1 h2
    refine good_t ?_ (good_leaf rfl)
    rw [w]
    erw [e]; rfl
  rw [e, hy]
theorem t6' {n0 : Int} {l1 : LR} (h : wfD (.int .u8) n0 = true) : (ev_W6 [.n n0, .l TCall24 l1]).sel = some true := by
  have h' : (decide (IntKind.min .u8 ≤ n0) && decide (n0 ≤ IntKind.max .u8)) = true := h
  simp only [Bool.and_eq_true, decide_eq_true_eq] at h'
  have a : IntKind.min .u8 = 0 := rfl
  have b : IntKind.max .u8 = 255 := rfl
  exact t6 n0 l1 (by omega) (by omega)
end Go.Proofs.Ytkclmlcfdijbmaa.Vx.Fe
