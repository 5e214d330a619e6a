import Derived.Test.YthbceghdobfijaaX25
import Derived.Test.YthbceghdobfijaaVxBits
import Derived.Test.YthbceghdobfijaaVxLoop
namespace Go.Proofs.Ythbceghdobfijaa.Vx
open Go Go.RowKit
set_option linter.unusedVariables false
set_option linter.unusedSimpArgs false
set_option maxRecDepth 100000
set_option maxHeartbeats 2000000
abbrev LT := List (Ty.den TTm)
abbrev L8 := List (Ty.den TB)
theorem w64x {x : Int} (h0 : -9223372036854775808 ≤ x) (h1 : x < 9223372036854775808) : IntKind.wrap .i64 x = x := w64 h0 (by omega)
theorem w1 (i : Nat) (h : i < 9223372036854775807) : IntKind.wrap .i64 ((i : Int) + 1) = ((i + 1 : Nat) : Int) := by rw [w64x (by omega) (by omega)]; rfl
/-! ### What differs -/
def byT (l : L8) (i : Nat) : Int := List.getD (l : List Int) i 0
def dfT (a b : L8) : Nat → LT
  | 0 => []
  | k + 1 => dfT a b k ++ (bif byT a k == byT b k then [] else ([((k : Int), byT b k)] : List (Ty.den TTm)))
theorem dfT_len (a b : L8) : ∀ k, (dfT a b k).length ≤ k
  | 0 => Nat.le_refl _
  | k + 1 => by
    have := dfT_len a b k
    unfold dfT
    rw [List.length_append]
    cases (byT a k == byT b k) with
    | true => show (dfT a b k).length + 0 ≤ k + 1; omega
    | false => show (dfT a b k).length + 1 ≤ k + 1; omega
theorem tk (l : LT) (i : Nat) (h : i < l.length) : List.take (i + 1) l = List.take i l ++ ([(tm_1 l (i : Int), tm_2 l (i : Int))] : List (Ty.den TTm)) := by
  rw [List.take_add_one, List.getElem?_eq_getElem h]
  have e : List.getD l (Int.toNat (i : Int)) (Ty.dflt TTm) = l[i] := by
    show List.getD l i (Ty.dflt TTm) = l[i]
    rw [List.getD_eq_getElem?_getD, List.getElem?_eq_getElem h]; rfl
  have e2 : ((tm_1 l (i : Int), tm_2 l (i : Int)) : Ty.den TTm) = l[i] := e
  exact congrArg (fun (x : Ty.den TTm) => List.take i l ++ [x]) e2.symm
theorem lp_L24_3 (n1 : Int) (n2 : Int) (n3 : Int) (n4 : Int) (n5 : Int) (n6 : Int) (n7 : Int) (n8 : Int) (l9 : List (Ty.den TB)) (n10 : Int) (n11 : Int) (n12 : Int) (n13 : Int) (n14 : Int) (l15 : List (Ty.den TTm)) (n16 : Int) (n17 : Int) (n18 : Int) (n19 : Int) (n20 : Int) (n21 : Int) (n22 : Int) (n23 : Int) (l24 : List (Ty.den TB)) (n25 : Int) (n26 : Int) (n27 : Int) (n28 : Int) (n29 : Int) (n30 : Int) (n31 : Int) (n32 : Int) (n33 : Int) (n34 : Int) (n35 : Int) (n36 : Int) (n37 : Int) (l38 : List (Ty.den TB)) (n39 : Int) (n40 : Int) (n41 : Int) (n42 : Int) (n43 : Int) (hl : l15.length ≤ 200) : op_L24_3 (.k 0 :: .n (0 : Int) :: .n n1 :: .n n2 :: .n n3 :: .n n4 :: .n n5 :: .n n6 :: .n n7 :: .n n8 :: .l TB l9 :: .n n10 :: .n n11 :: .n n12 :: .n n13 :: .n n14 :: .l TTm l15 :: .n n16 :: .n n17 :: .n n18 :: .n n19 :: .n n20 :: .n n21 :: .n n22 :: .n n23 :: .l TB l24 :: .n n25 :: .n n26 :: .n n27 :: .n n28 :: .n n29 :: .n n30 :: .n n31 :: .n n32 :: .n n33 :: .n n34 :: .n n35 :: .n n36 :: .n n37 :: .l TB l38 :: .n n39 :: .n n40 :: .n n41 :: .n n42 :: .n n43 :: .l TTm (List.take 0 l15) :: []) = some (0, [.n n16, .n n17, .n n18, .n n19, .n n20, .n n21, .n n22, .n n23, .l TB l24, .n n25, .n n26, .n n27, .n n28, .n n29, .n n30, .n n31, .n n32, .n n33, .n n34, .n n35, .n n36, .n n37, .l TB l38, .n n39, .n n40, .n n41, .n n42, .n n43, .l TTm (List.take l15.length l15)]) := by
  rw [op_L24_3_eq]
  refine iter_count (fun i => (.k 0 :: .n (i : Int) :: .n n1 :: .n n2 :: .n n3 :: .n n4 :: .n n5 :: .n n6 :: .n n7 :: .n n8 :: .l TB l9 :: .n n10 :: .n n11 :: .n n12 :: .n n13 :: .n n14 :: .l TTm l15 :: .n n16 :: .n n17 :: .n n18 :: .n n19 :: .n n20 :: .n n21 :: .n n22 :: .n n23 :: .l TB l24 :: .n n25 :: .n n26 :: .n n27 :: .n n28 :: .n n29 :: .n n30 :: .n n31 :: .n n32 :: .n n33 :: .n n34 :: .n n35 :: .n n36 :: .n n37 :: .l TB l38 :: .n n39 :: .n n40 :: .n n41 :: .n n42 :: .n n43 :: .l TTm (List.take i l15) :: [])) (l15.length) (0, [.n n16, .n n17, .n n18, .n n19, .n n20, .n n21, .n n22, .n n23, .l TB l24, .n n25, .n n26, .n n27, .n n28, .n n29, .n n30, .n n31, .n n32, .n n33, .n n34, .n n35, .n n36, .n n37, .l TB l38, .n n39, .n n40, .n n41, .n n42, .n n43, .l TTm (List.take l15.length l15)]) (fun i hi => ?_) ?_ FU (lt_FU (by omega))
  · refine fn_L24_3_t_im _ _ _ _ _ _ _ _ _ _ _ _ _ _ _ _ _ _ _ _ _ _ _ _ _ _ _ _ _ _ _ _ _ _ _ _ _ _ _ _ _ _ _ _ _ (by omega) _ ?_
    unfold fn_L24_3_t
    have hcap : decide ((List.length (List.take i l15) + 1) * 16 ≤ 140737488355328) = true := decide_eq_true (by rw [List.length_take]; omega)
    refine sel_t (decide_eq_true (show (i : Int) < (l15.length : Int) by omega)) (sel_t hcap ?_)
    rw [w1 i (by omega), tk l15 i hi]; rfl
  · refine fn_L24_3_t_im _ _ _ _ _ _ _ _ _ _ _ _ _ _ _ _ _ _ _ _ _ _ _ _ _ _ _ _ _ _ _ _ _ _ _ _ _ _ _ _ _ _ _ _ _ (by omega) _ ?_
    unfold fn_L24_3_t
    exact sel_f (decide_eq_false (show ¬ ((l15.length : Nat) : Int) < (l15.length : Int) by omega)) rfl
theorem lp_L25_4 (n1 : Int) (n2 : Int) (n3 : Int) (n4 : Int) (n5 : Int) (n6 : Int) (n7 : Int) (n8 : Int) (l9 : List (Ty.den TB)) (n10 : Int) (n11 : Int) (n12 : Int) (n13 : Int) (n14 : Int) (l15 : List (Ty.den TTm)) (n16 : Int) (n17 : Int) (n18 : Int) (n19 : Int) (n20 : Int) (n21 : Int) (n22 : Int) (n23 : Int) (l24 : List (Ty.den TB)) (n25 : Int) (n26 : Int) (n27 : Int) (n28 : Int) (n29 : Int) (l30 : List (Ty.den TTm)) (hl : l15.length ≤ 200) (h : l15 = l30) : op_L25_4 (.k 0 :: .n (0 : Int) :: .n n1 :: .n n2 :: .n n3 :: .n n4 :: .n n5 :: .n n6 :: .n n7 :: .n n8 :: .l TB l9 :: .n n10 :: .n n11 :: .n n12 :: .n n13 :: .n n14 :: .l TTm l15 :: .n n16 :: .n n17 :: .n n18 :: .n n19 :: .n n20 :: .n n21 :: .n n22 :: .n n23 :: .l TB l24 :: .n n25 :: .n n26 :: .n n27 :: .n n28 :: .n n29 :: .l TTm l30 :: []) = some (0, []) := by
  rw [op_L25_4_eq]
  refine iter_count (fun i => (.k 0 :: .n (i : Int) :: .n n1 :: .n n2 :: .n n3 :: .n n4 :: .n n5 :: .n n6 :: .n n7 :: .n n8 :: .l TB l9 :: .n n10 :: .n n11 :: .n n12 :: .n n13 :: .n n14 :: .l TTm l15 :: .n n16 :: .n n17 :: .n n18 :: .n n19 :: .n n20 :: .n n21 :: .n n22 :: .n n23 :: .l TB l24 :: .n n25 :: .n n26 :: .n n27 :: .n n28 :: .n n29 :: .l TTm l30 :: [])) (l15.length) (0, []) (fun i hi => ?_) ?_ FU (lt_FU (by omega))
  · refine fn_L25_4_t_im _ _ _ _ _ _ _ _ _ _ _ _ _ _ _ _ _ _ _ _ _ _ _ _ _ _ _ _ _ _ _ (by omega) (by rw [h]) _ ?_
    unfold fn_L25_4_t
    refine sel_t (decide_eq_true (show (i : Int) < (l15.length : Int) by omega)) (sel_f (by rw [← h]; simp) ?_)
    rw [w1 i (by omega)]; rfl
  · refine fn_L25_4_t_im _ _ _ _ _ _ _ _ _ _ _ _ _ _ _ _ _ _ _ _ _ _ _ _ _ _ _ _ _ _ _ (by omega) (by rw [h]) _ ?_
    unfold fn_L25_4_t
    exact sel_f (decide_eq_false (show ¬ ((l15.length : Nat) : Int) < (l15.length : Int) by omega)) rfl
theorem lp_L21_3 (l0 : List (Ty.den TB)) (n2 : Int) (n3 : Int) (n4 : Int) (l5 : List (Ty.den TB)) (n6 : Int) (n7 : Int) (n8 : Int) (n9 : Int) (n10 : Int) (n11 : Int) (n12 : Int) (n13 : Int) (n14 : Int) : op_L21_3 (.k 0 :: .l TB l0 :: .n (0 : Int) :: .n n2 :: .n n3 :: .n n4 :: .l TB l5 :: .n n6 :: .n n7 :: .n n8 :: .n n9 :: .n n10 :: .n n11 :: .n n12 :: .n n13 :: .n n14 :: .l TTm (dfT l5 l0 0) :: []) = some (0, [.n n7, .n n8, .n n9, .n n10, .n n11, .n n12, .n n13, .n n14, .l TTm (dfT l5 l0 64)]) := by
  rw [op_L21_3_eq]
  refine iter_count (fun i => (.k 0 :: .l TB l0 :: .n (i : Int) :: .n n2 :: .n n3 :: .n n4 :: .l TB l5 :: .n n6 :: .n n7 :: .n n8 :: .n n9 :: .n n10 :: .n n11 :: .n n12 :: .n n13 :: .n n14 :: .l TTm (dfT l5 l0 i) :: [])) (64) (0, [.n n7, .n n8, .n n9, .n n10, .n n11, .n n12, .n n13, .n n14, .l TTm (dfT l5 l0 64)]) (fun i hi => ?_) ?_ FU (lt_FU (by omega))
  · refine fn_L21_3_t_im _ _ _ _ _ _ _ _ _ _ _ _ _ _ _ _ (by omega) _ ?_
    unfold fn_L21_3_t
    have hcap : decide ((List.length (dfT l5 l0 i) + 1) * 16 ≤ 140737488355328) = true := decide_eq_true (by have := dfT_len l5 l0 i; omega)
    refine sel_t (decide_eq_true (show (i : Int) < 64 by omega)) ?_
    rw [w1 i (by omega)]
    cases hb : (byT l5 i == byT l0 i) with
    | true =>
      refine sel_f (show (byT l5 i != byT l0 i) = false by simp only [bne, hb]; rfl) ?_
      have e : dfT l5 l0 (i + 1) = dfT l5 l0 i := by show dfT l5 l0 i ++ (bif byT l5 i == byT l0 i then [] else _) = _; rw [hb]; simp
      rw [e]; rfl
    | false =>
      refine sel_t (show (byT l5 i != byT l0 i) = true by simp only [bne, hb]; rfl) (sel_t hcap ?_)
      have e : dfT l5 l0 (i + 1) = dfT l5 l0 i ++ ([((i : Int), byT l0 i)] : List (Ty.den TTm)) := by show dfT l5 l0 i ++ (bif byT l5 i == byT l0 i then [] else _) = _; rw [hb]; rfl
      rw [e]; rfl
  · refine fn_L21_3_t_im _ _ _ _ _ _ _ _ _ _ _ _ _ _ _ _ (by omega) _ ?_
    unfold fn_L21_3_t
    exact sel_f (by simp) rfl
theorem lp_L26_6 (n1 : Int) (n2 : Int) (n3 : Int) (n4 : Int) (n5 : Int) (n6 : Int) (n7 : Int) (n8 : Int) (l9 : List (Ty.den TB)) (n10 : Int) (n11 : Int) (n12 : Int) (n13 : Int) (n14 : Int) (n15 : Int) (n16 : Int) (n17 : Int) (l18 : List (Ty.den TB)) (n19 : Int) (n20 : Int) (n21 : Int) (n22 : Int) (l23 : List (Ty.den TB)) (n24 : Int) (n25 : Int) (n26 : Int) (n27 : Int) (n28 : Int) (n29 : Int) (n30 : Int) (n31 : Int) (n32 : Int) (l33 : List (Ty.den TB)) (n34 : Int) (n35 : Int) (n36 : Int) (n37 : Int) (n38 : Int) : op_L26_6 (.k 0 :: .n (0 : Int) :: .n n1 :: .n n2 :: .n n3 :: .n n4 :: .n n5 :: .n n6 :: .n n7 :: .n n8 :: .l TB l9 :: .n n10 :: .n n11 :: .n n12 :: .n n13 :: .n n14 :: .n n15 :: .n n16 :: .n n17 :: .l TB l18 :: .n n19 :: .n n20 :: .n n21 :: .n n22 :: .l TB l23 :: .n n24 :: .n n25 :: .n n26 :: .n n27 :: .n n28 :: .n n29 :: .n n30 :: .n n31 :: .n n32 :: .l TB l33 :: .n n34 :: .n n35 :: .n n36 :: .n n37 :: .n n38 :: .l TTm (dfT l18 l23 0) :: []) = some (0, [.n n1, .n n2, .n n3, .n n4, .n n5, .n n6, .n n7, .n n8, .l TB l9, .n n10, .n n11, .n n12, .n n13, .n n14, .n n25, .n n26, .n n27, .n n28, .n n29, .n n30, .n n31, .n n32, .l TB l33, .n n34, .n n35, .n n36, .n n37, .n n38, .l TTm (dfT l18 l23 64)]) := by
  rw [op_L26_6_eq]
  refine iter_count (fun i => (.k 0 :: .n (i : Int) :: .n n1 :: .n n2 :: .n n3 :: .n n4 :: .n n5 :: .n n6 :: .n n7 :: .n n8 :: .l TB l9 :: .n n10 :: .n n11 :: .n n12 :: .n n13 :: .n n14 :: .n n15 :: .n n16 :: .n n17 :: .l TB l18 :: .n n19 :: .n n20 :: .n n21 :: .n n22 :: .l TB l23 :: .n n24 :: .n n25 :: .n n26 :: .n n27 :: .n n28 :: .n n29 :: .n n30 :: .n n31 :: .n n32 :: .l TB l33 :: .n n34 :: .n n35 :: .n n36 :: .n n37 :: .n n38 :: .l TTm (dfT l18 l23 i) :: [])) (64) (0, [.n n1, .n n2, .n n3, .n n4, .n n5, .n n6, .n n7, .n n8, .l TB l9, .n n10, .n n11, .n n12, .n n13, .n n14, .n n25, .n n26, .n n27, .n n28, .n n29, .n n30, .n n31, .n n32, .l TB l33, .n n34, .n n35, .n n36, .n n37, .n n38, .l TTm (dfT l18 l23 64)]) (fun i hi => ?_) ?_ FU (lt_FU (by omega))
  · refine fn_L26_6_t_im _ _ _ _ _ _ _ _ _ _ _ _ _ _ _ _ _ _ _ _ _ _ _ _ _ _ _ _ _ _ _ _ _ _ _ _ _ _ _ _ (by omega) _ ?_
    unfold fn_L26_6_t
    have hcap : decide ((List.length (dfT l18 l23 i) + 1) * 16 ≤ 140737488355328) = true := decide_eq_true (by have := dfT_len l18 l23 i; omega)
    refine sel_t (decide_eq_true (show (i : Int) < 64 by omega)) ?_
    rw [w1 i (by omega)]
    cases hb : (byT l18 i == byT l23 i) with
    | true =>
      refine sel_f (show (byT l18 i != byT l23 i) = false by simp only [bne, hb]; rfl) ?_
      have e : dfT l18 l23 (i + 1) = dfT l18 l23 i := by show dfT l18 l23 i ++ (bif byT l18 i == byT l23 i then [] else _) = _; rw [hb]; simp
      rw [e]; rfl
    | false =>
      refine sel_t (show (byT l18 i != byT l23 i) = true by simp only [bne, hb]; rfl) (sel_t hcap ?_)
      have e : dfT l18 l23 (i + 1) = dfT l18 l23 i ++ ([((i : Int), byT l23 i)] : List (Ty.den TTm)) := by show dfT l18 l23 i ++ (bif byT l18 i == byT l23 i then [] else _) = _; rw [hb]; rfl
      rw [e]; rfl
  · refine fn_L26_6_t_im _ _ _ _ _ _ _ _ _ _ _ _ _ _ _ _ _ _ _ _ _ _ _ _ _ _ _ _ _ _ _ _ _ _ _ _ _ _ _ _ (by omega) _ ?_
    unfold fn_L26_6_t
    exact sel_f (by simp) rfl
end Go.Proofs.Ythbceghdobfijaa.Vx
namespace Go.Proofs.Ythbceghdobfijaa.Vx
open Go Go.RowKit
set_option linter.unusedVariables false
set_option linter.unusedSimpArgs false
set_option maxRecDepth 100000
set_option maxHeartbeats 4000000
/-! ### Rising -/
def r1 (l : LT) (i : Nat) : Int := tm_1 l (i : Int)
def h86 (l : LT) (i : Nat) : Bool := decide (r1 l i ≤ (if i = 0 then -1 else r1 l (i - 1))) || decide (r1 l i ≥ 64)
def h87 (l : LT) (i : Nat) : Bool := decide (r1 l i < 0) || (decide (r1 l i ≥ 64) || (decide (0 < i) && decide (r1 l i ≤ r1 l (i - 1))))
def riseB (l : LT) : Bool := (firstHit (h86 l) l.length).isNone
theorem rise_iff {l : LT} : riseB l = true ↔ ∀ i, i < l.length → h86 l i = false := by
  unfold riseB
  cases h : firstHit (h86 l) l.length with
  | none => simp only [Option.isNone_none, true_iff]; exact firstHit_none h
  | some k =>
    obtain ⟨h1, h2, _⟩ := firstHit_some h
    simp only [Option.isNone_some, Bool.false_eq_true, false_iff]
    intro hh; rw [hh k h1] at h2; cases h2
theorem rise_in {l : LT} (h : ∀ i, i < l.length → h86 l i = false) : ∀ i, i < l.length → 0 ≤ r1 l i ∧ r1 l i < 64
  | 0, hi => by have := h 0 hi; unfold h86 at this; simp at this; omega
  | i + 1, hi => by
    have := h (i + 1) hi
    have ih := rise_in h i (by omega)
    unfold h86 at this; simp at this; omega
theorem rise_both {l : LT} : (∀ i, i < l.length → h86 l i = false) ↔ ∀ i, i < l.length → h87 l i = false := by
  constructor
  · intro h i hi
    have h1 := rise_in h i hi
    have h2 := h i hi
    unfold h86 at h2; unfold h87
    by_cases h0 : i = 0
    · subst h0; simp; omega
    · simp [h0] at h2 ⊢; omega
  · intro h i hi
    have h2 := h i hi
    unfold h87 at h2; unfold h86
    by_cases h0 : i = 0
    · subst h0; simp at h2 ⊢; omega
    · simp [h0] at h2 ⊢
      have := h2.2.2 (by omega)
      omega
theorem rise_87 (l : LT) : (firstHit (h87 l) l.length).isNone = riseB l := by
  rw [Bool.eq_iff_iff, rise_iff, rise_both]
  cases h : firstHit (h87 l) l.length with
  | none => simp only [Option.isNone_none, true_iff]; exact firstHit_none h
  | some k =>
    obtain ⟨h1, h2, _⟩ := firstHit_some h
    simp only [Option.isNone_some, Bool.false_eq_true, false_iff]
    intro hh; rw [hh k h1] at h2; cases h2
theorem e86 (l : LT) (hl : l.length ≤ 200) : op_86 [.l TTm l] = some (0, [.b (riseB l)]) := by
  have h1 : op_L86_3 [.k 0, .n (-1 : Int), .l TTm l, .n (l.length : Int), .n (0 : Int)] = some (match firstHit (h86 l) l.length with | some k => (1, [.b false]) | none => (0, [])) := by
    rw [op_L86_3_eq]
    refine iter_find (fun i => [.k 0, .n (if i = 0 then -1 else r1 l (i - 1)), .l TTm l, .n (l.length : Int), .n (i : Int)]) l.length (h86 l) (fun _ => (1, [.b false])) (0, []) (fun i hi hh => ?_) (fun i hi hh => ?_) ?_ FU (lt_FU (by omega))
    · refine fn_L86_3_t_im _ _ _ _ (by omega) rfl _ ?_
      unfold fn_L86_3_t
      unfold h86 at hh
      rw [Bool.or_eq_false_iff] at hh
      refine sel_t (decide_eq_true (show (i : Int) < (l.length : Int) by omega)) (sel_f hh.1 (sel_f hh.2 ?_))
      rw [w1 i (by omega)]; rfl
    · refine fn_L86_3_t_im _ _ _ _ (by omega) rfl _ ?_
      unfold fn_L86_3_t
      unfold h86 at hh
      refine sel_t (decide_eq_true (show (i : Int) < (l.length : Int) by omega)) ?_
      cases hc : decide (r1 l i ≤ (if i = 0 then -1 else r1 l (i - 1))) with
      | true => exact sel_t hc rfl
      | false => rw [hc, Bool.false_or] at hh; exact sel_f hc (sel_t hh rfl)
    · refine fn_L86_3_t_im _ _ _ _ (by omega) rfl _ ?_
      unfold fn_L86_3_t
      exact sel_f (decide_eq_false (show ¬ ((l.length : Nat) : Int) < (l.length : Int) by omega)) rfl
  rw [op_86_eq]
  refine fn_86_t_im _ _ ?_
  unfold fn_86_t
  dsimp only
  erw [h1]
  unfold riseB
  cases firstHit (h86 l) l.length with
  | none => exact sel_t rfl rfl
  | some k => exact sel_f rfl (sel_t rfl rfl)
theorem e87 (l : LT) (hl : l.length ≤ 200) : op_87 [.l TTm l] = some (0, [.b (riseB l)]) := by
  have h1 : op_L87_2 [.k 0, .l TTm l, .n (0 : Int)] = some (match firstHit (h87 l) l.length with | some k => (1, [.b false]) | none => (0, [])) := by
    rw [op_L87_2_eq]
    have prev : ∀ i : Nat, 0 < i → i < 201 → tm_1 l (IntKind.wrap .i64 ((i : Int) - 1)) = r1 l (i - 1) := fun i h0 h2 => by
      rw [w64x (by omega) (by omega)]; unfold r1; congr 1; omega
    have inr : ∀ i : Nat, 0 < i → i < l.length → inR (IntKind.wrap .i64 ((i : Int) - 1)) (List.length l) = true := fun i h0 h2 => by
      rw [w64x (by omega) (by omega)]; unfold inR
      rw [decide_eq_true (show (0 : Int) ≤ (i : Int) - 1 by omega), decide_eq_true (show (i : Int) - 1 < ((List.length l : Nat) : Int) by omega)]; rfl
    refine iter_find (fun i => [.k 0, .l TTm l, .n (i : Int)]) l.length (h87 l) (fun _ => (1, [.b false])) (0, []) (fun i hi hh => ?_) (fun i hi hh => ?_) ?_ FU (lt_FU (by omega))
    · refine fn_L87_2_t_im _ _ (by omega) _ ?_
      unfold fn_L87_2_t
      unfold h87 at hh
      rw [Bool.or_eq_false_iff, Bool.or_eq_false_iff] at hh
      refine sel_t (decide_eq_true (show (i : Int) < (l.length : Int) by omega)) (sel_f hh.1 (sel_f hh.2.1 ?_))
      rw [w1 i (by omega)]
      by_cases h0 : 0 < i
      · rw [prev i h0 (by omega)]
        refine sel_t (decide_eq_true (by omega)) (sel_t (inr i h0 hi) (sel_f ?_ rfl))
        have := hh.2.2
        rw [decide_eq_true h0, Bool.true_and] at this; exact this
      · exact sel_f (decide_eq_false (by omega)) rfl
    · refine fn_L87_2_t_im _ _ (by omega) _ ?_
      unfold fn_L87_2_t
      unfold h87 at hh
      refine sel_t (decide_eq_true (show (i : Int) < (l.length : Int) by omega)) ?_
      cases hc : decide (r1 l i < 0) with
      | true => exact sel_t hc rfl
      | false =>
        refine sel_f hc ?_
        rw [hc, Bool.false_or] at hh
        cases hd : decide (r1 l i ≥ 64) with
        | true => exact sel_t hd rfl
        | false =>
          refine sel_f hd ?_
          rw [hd, Bool.false_or, Bool.and_eq_true] at hh
          have h0 : 0 < i := of_decide_eq_true hh.1
          rw [prev i h0 (by omega)]
          exact sel_t (decide_eq_true (by omega)) (sel_t (inr i h0 hi) (sel_t hh.2 rfl))
    · refine fn_L87_2_t_im _ _ (by omega) _ ?_
      unfold fn_L87_2_t
      exact sel_f (decide_eq_false (show ¬ ((l.length : Nat) : Int) < (l.length : Int) by omega)) rfl
  rw [op_87_eq]
  refine fn_87_t_im _ _ ?_
  unfold fn_87_t
  dsimp only
  erw [h1]
  rw [← rise_87]
  cases firstHit (h87 l) l.length with
  | none => exact sel_t rfl rfl
  | some k => exact sel_f rfl (sel_t rfl rfl)
/-! ### Patch -/
def paN (a : L8) (l : LT) : Nat → L8
  | 0 => a
  | i + 1 => List.set (paN a l i) (Int.toNat (tm_1 l (i : Int))) (tm_2 l (i : Int))
end Go.Proofs.Ythbceghdobfijaa.Vx
namespace Go.Proofs.Ythbceghdobfijaa.Vx
open Go Go.RowKit
set_option linter.unusedVariables false
set_option linter.unusedSimpArgs false
set_option maxRecDepth 100000
set_option maxHeartbeats 4000000
theorem inR64 {l : LT} (h : ∀ i, i < l.length → h86 l i = false) {i : Nat} (hi : i < l.length) : inR (tm_1 l (i : Int)) 64 = true := by
  have := rise_in h i hi
  unfold inR
  rw [decide_eq_true (show 0 ≤ tm_1 l (i : Int) from this.1), decide_eq_true (show tm_1 l (i : Int) < ((64 : Nat) : Int) from this.2)]; rfl
theorem lp_L22_8 (l0 : List (Ty.den TTm)) (n1 : Int) (n3 : Int) (n4 : Int) (n5 : Int) (n7 : Int) (n8 : Int) (n9 : Int) (n10 : Int) (l11 : List (Ty.den TB)) (n12 : Int) (a : L8) (hl : l0.length ≤ 200) (hn : n1 = (l0.length : Int)) (hr : ∀ i, i < l0.length → h86 l0 i = false) : op_L22_8 (.k 0 :: .l TTm l0 :: .n n1 :: .n (0 : Int) :: .n n3 :: .n n4 :: .n n5 :: .l TB (paN a l0 0) :: .n n7 :: .n n8 :: .n n9 :: .n n10 :: .l TB l11 :: .n n12 :: []) = some (0, [.n n3, .n n4, .n n5, .l TB (paN a l0 l0.length), .n n7, .n n8, .n n9, .n n10, .l TB l11, .n n12]) := by
  rw [op_L22_8_eq]
  refine iter_count (fun i => (.k 0 :: .l TTm l0 :: .n n1 :: .n (i : Int) :: .n n3 :: .n n4 :: .n n5 :: .l TB (paN a l0 i) :: .n n7 :: .n n8 :: .n n9 :: .n n10 :: .l TB l11 :: .n n12 :: [])) (l0.length) (0, [.n n3, .n n4, .n n5, .l TB (paN a l0 l0.length), .n n7, .n n8, .n n9, .n n10, .l TB l11, .n n12]) (fun i hi => ?_) ?_ FU (lt_FU (by omega))
  · refine fn_L22_8_t_im _ _ _ _ _ _ _ _ _ _ _ _ _ (by omega) hn _ ?_
    unfold fn_L22_8_t
    refine sel_t (decide_eq_true (show (i : Int) < n1 by omega)) (sel_t (inR64 hr hi) ?_)
    rw [w1 i (by omega)]; rfl
  · refine fn_L22_8_t_im _ _ _ _ _ _ _ _ _ _ _ _ _ (by omega) hn _ ?_
    unfold fn_L22_8_t
    exact sel_f (decide_eq_false (by omega)) rfl
theorem lp_L23_8 (n1 : Int) (n2 : Int) (n3 : Int) (n5 : Int) (n6 : Int) (n7 : Int) (n8 : Int) (n9 : Int) (n10 : Int) (n11 : Int) (n12 : Int) (n13 : Int) (l14 : List (Ty.den TB)) (n15 : Int) (n16 : Int) (n17 : Int) (n18 : Int) (n19 : Int) (l20 : List (Ty.den TTm)) (n21 : Int) (n22 : Int) (n23 : Int) (l24 : List (Ty.den TB)) (n25 : Int) (a : L8) (hl : l20.length ≤ 200) (hr : ∀ i, i < l20.length → h86 l20 i = false) : op_L23_8 (.k 0 :: .n (0 : Int) :: .n n1 :: .n n2 :: .n n3 :: .l TB (paN a l20 0) :: .n n5 :: .n n6 :: .n n7 :: .n n8 :: .n n9 :: .n n10 :: .n n11 :: .n n12 :: .n n13 :: .l TB l14 :: .n n15 :: .n n16 :: .n n17 :: .n n18 :: .n n19 :: .l TTm l20 :: .n n21 :: .n n22 :: .n n23 :: .l TB l24 :: .n n25 :: []) = some (0, [.n n1, .n n2, .n n3, .l TB (paN a l20 l20.length), .n n5, .n n21, .n n22, .n n23, .l TB l24, .n n25]) := by
  rw [op_L23_8_eq]
  refine iter_count (fun i => (.k 0 :: .n (i : Int) :: .n n1 :: .n n2 :: .n n3 :: .l TB (paN a l20 i) :: .n n5 :: .n n6 :: .n n7 :: .n n8 :: .n n9 :: .n n10 :: .n n11 :: .n n12 :: .n n13 :: .l TB l14 :: .n n15 :: .n n16 :: .n n17 :: .n n18 :: .n n19 :: .l TTm l20 :: .n n21 :: .n n22 :: .n n23 :: .l TB l24 :: .n n25 :: [])) (l20.length) (0, [.n n1, .n n2, .n n3, .l TB (paN a l20 l20.length), .n n5, .n n21, .n n22, .n n23, .l TB l24, .n n25]) (fun i hi => ?_) ?_ FU (lt_FU (by omega))
  · refine fn_L23_8_t_im _ _ _ _ _ _ _ _ _ _ _ _ _ _ _ _ _ _ _ _ _ _ _ _ _ _ (by omega) _ ?_
    unfold fn_L23_8_t
    refine sel_t (decide_eq_true (show (i : Int) < (l20.length : Int) by omega)) (sel_t (inR64 hr hi) ?_)
    rw [w1 i (by omega)]; rfl
  · refine fn_L23_8_t_im _ _ _ _ _ _ _ _ _ _ _ _ _ _ _ _ _ _ _ _ _ _ _ _ _ _ (by omega) _ ?_
    unfold fn_L23_8_t
    exact sel_f (decide_eq_false (show ¬ ((l20.length : Nat) : Int) < (l20.length : Int) by omega)) rfl
theorem e21 (n0 : Int) (n1 : Int) (n2 : Int) (l3 : L8) (n4 : Int) (n5 : Int) (n6 : Int) (n7 : Int) (l8 : L8) (n9 : Int) : op_21 [.n n0, .n n1, .n n2, .l TB l3, .n n4, .n n5, .n n6, .n n7, .l TB l8, .n n9] = some (0, [.n (ixor IntKind.u64 n0 n5), .n (ixor IntKind.u64 n1 n6), .n (ixor IntKind.u64 n2 n7), .n (ixor IntKind.u32 n4 n9), .l TTm (dfT l3 l8 64)]) := by
  rw [op_21_eq]
  refine fn_21_t_im _ _ _ _ _ _ _ _ _ _ _ ?_
  unfold fn_21_t
  dsimp only
  erw [lp_L21_3 l8 n0 n1 n2 l3 n4 (0 : Int) (0 : Int) (0 : Int) (0 : Int) (ixor IntKind.u64 n0 n5) (ixor IntKind.u64 n1 n6) (ixor IntKind.u64 n2 n7) (ixor IntKind.u32 n4 n9)]
  exact sel_t rfl rfl
theorem e24 (n0 : Int) (n1 : Int) (n2 : Int) (n3 : Int) (n4 : Int) (n5 : Int) (n6 : Int) (n7 : Int) (l8 : L8) (n9 : Int) (n10 : Int) (n11 : Int) (n12 : Int) (n13 : Int) (l14 : LT) (hl : l14.length ≤ 200) : op_24 [.n n0, .n n1, .n n2, .n n3, .n n4, .n n5, .n n6, .n n7, .l TB l8, .n n9, .n n10, .n n11, .n n12, .n n13, .l TTm l14] = some (0, [.n n0, .n n1, .n n2, .n n3, .n n4, .n n5, .n n6, .n n7, .l TB l8, .n n9, .n n10, .n n11, .n n12, .n n13, .l TTm l14]) := by
  rw [op_24_eq]
  refine fn_24_t_im _ _ _ _ _ _ _ _ _ _ _ _ _ _ _ _ ?_
  unfold fn_24_t
  dsimp only
  erw [lp_L24_3 n0 n1 n2 n3 n4 n5 n6 n7 l8 n9 n10 n11 n12 n13 l14 (0 : Int) (0 : Int) (0 : Int) (0 : Int) (0 : Int) (0 : Int) (0 : Int) (0 : Int) (List.replicate 64 (0 : Int)) (0 : Int) (0 : Int) (0 : Int) (0 : Int) (0 : Int) n0 n1 n2 n3 n4 n5 n6 n7 l8 n9 n10 n11 n12 n13 hl]
  refine sel_t rfl ?_
  show some (0, [_, _, _, _, _, _, _, _, _, _, _, _, _, _, Dat.l TTm (List.take l14.length l14)]) = _
  rw [List.take_length]; rfl
theorem e26 (n0 : Int) (n1 : Int) (n2 : Int) (n3 : Int) (n4 : Int) (n5 : Int) (n6 : Int) (n7 : Int) (l8 : L8) (n9 : Int) (n10 : Int) (n11 : Int) (n12 : Int) (n13 : Int) (n14 : Int) (n15 : Int) (n16 : Int) (l17 : L8) (n18 : Int) (n19 : Int) (n20 : Int) (n21 : Int) (l22 : L8) (n23 : Int) : op_26 [.n n0, .n n1, .n n2, .n n3, .n n4, .n n5, .n n6, .n n7, .l TB l8, .n n9, .n n10, .n n11, .n n12, .n n13, .n n14, .n n15, .n n16, .l TB l17, .n n18, .n n19, .n n20, .n n21, .l TB l22, .n n23] = some (0, [.n n0, .n n1, .n n2, .n n3, .n n4, .n n5, .n n6, .n n7, .l TB l8, .n n9, .n (ixor IntKind.u64 n14 n19), .n (ixor IntKind.u64 n15 n20), .n (ixor IntKind.u64 n16 n21), .n (ixor IntKind.u32 n18 n23), .l TTm (dfT l17 l22 64)]) := by
  rw [op_26_eq]
  refine fn_26_t_im _ _ _ _ _ _ _ _ _ _ _ _ _ _ _ _ _ _ _ _ _ _ _ _ _ ?_
  unfold fn_26_t
  dsimp only
  erw [lp_L26_6 n0 n1 n2 n3 n4 n5 n6 n7 l8 n9 (ixor IntKind.u64 n14 n19) (ixor IntKind.u64 n15 n20) (ixor IntKind.u64 n16 n21) (ixor IntKind.u32 n18 n23) n14 n15 n16 l17 n18 n19 n20 n21 l22 n23 (0 : Int) (0 : Int) (0 : Int) (0 : Int) (0 : Int) (0 : Int) (0 : Int) (0 : Int) (List.replicate 64 (0 : Int)) (0 : Int) (0 : Int) (0 : Int) (0 : Int) (0 : Int)]
  exact sel_t rfl rfl
theorem e22 (n0 : Int) (n1 : Int) (n2 : Int) (l3 : L8) (n4 : Int) (n5 : Int) (n6 : Int) (n7 : Int) (n8 : Int) (l9 : LT) (hl : l9.length ≤ 200) : op_22 [.n n0, .n n1, .n n2, .l TB l3, .n n4, .n n5, .n n6, .n n7, .n n8, .l TTm l9] = some (0, bif riseB l9 then [.n (ixor IntKind.u64 n0 n5), .n (ixor IntKind.u64 n1 n6), .n (ixor IntKind.u64 n2 n7), .l TB (paN l3 l9 l9.length), .n (ixor IntKind.u32 n4 n8), .n (0 : Int)] else [.n (0 : Int), .n (0 : Int), .n (0 : Int), .l TB (List.replicate 64 (0 : Int)), .n (0 : Int), .n (2 : Int)]) := by
  rw [op_22_eq]
  refine fn_22_t_im _ _ _ _ _ _ _ _ _ _ _ ?_
  unfold fn_22_t
  dsimp only
  rw [e86 _ hl]
  refine sel_t rfl ?_
  cases hr : riseB l9 with
  | false => exact sel_t rfl rfl
  | true =>
    refine sel_f rfl ?_
    erw [lp_L22_8 l9 (↑(List.length l9) : Int) (ixor IntKind.u64 n0 n5) (ixor IntKind.u64 n1 n6) (ixor IntKind.u64 n2 n7) (ixor IntKind.u32 n4 n8) (0 : Int) (0 : Int) (0 : Int) (List.replicate 64 (0 : Int)) (0 : Int) l3 hl rfl (rise_iff.1 hr)]
    exact sel_t rfl rfl
theorem e23 (n0 : Int) (n1 : Int) (n2 : Int) (l3 : L8) (n4 : Int) (n5 : Int) (n6 : Int) (n7 : Int) (n8 : Int) (n9 : Int) (n10 : Int) (n11 : Int) (n12 : Int) (l13 : L8) (n14 : Int) (n15 : Int) (n16 : Int) (n17 : Int) (n18 : Int) (l19 : LT) (hl : l19.length ≤ 200) : op_23 [.n n0, .n n1, .n n2, .l TB l3, .n n4, .n n5, .n n6, .n n7, .n n8, .n n9, .n n10, .n n11, .n n12, .l TB l13, .n n14, .n n15, .n n16, .n n17, .n n18, .l TTm l19] = some (0, bif riseB l19 then [.n (ixor IntKind.u64 n0 n15), .n (ixor IntKind.u64 n1 n16), .n (ixor IntKind.u64 n2 n17), .l TB (paN l3 l19 l19.length), .n (ixor IntKind.u32 n4 n18), .n (0 : Int)] else [.n (0 : Int), .n (0 : Int), .n (0 : Int), .l TB (List.replicate 64 (0 : Int)), .n (0 : Int), .n (2 : Int)]) := by
  rw [op_23_eq]
  refine fn_23_t_im _ _ _ _ _ _ _ _ _ _ _ _ _ _ _ _ _ _ _ _ _ ?_
  unfold fn_23_t
  dsimp only
  rw [e87 _ hl]
  refine sel_t rfl ?_
  cases hr : riseB l19 with
  | false => exact sel_t rfl rfl
  | true =>
    refine sel_f rfl ?_
    erw [lp_L23_8 (ixor IntKind.u64 n0 n15) (ixor IntKind.u64 n1 n16) (ixor IntKind.u64 n2 n17) (ixor IntKind.u32 n4 n18) n5 n6 n7 n8 n9 n10 n11 n12 l13 n14 n15 n16 n17 n18 l19 (0 : Int) (0 : Int) (0 : Int) (List.replicate 64 (0 : Int)) (0 : Int) l3 hl (rise_iff.1 hr)]
    exact sel_t rfl rfl
theorem eqL_self (l : L8) : eqL TB l l = true := by
  induction l with
  | nil => rfl
  | cons y l ih =>
    show (eqD TB y y && eqL TB l l) = true
    rw [ih]
    rw [Bool.and_true]
    exact beq_self_eq_true (α := Int) y
theorem st_self (a b c d : Int) (l : L8) : (a == a && (b == b && (c == c && (eqL TB l l && (d == d && true))))) = true := by rw [eqL_self]; simp
theorem e25 (n0 : Int) (n1 : Int) (n2 : Int) (n3 : Int) (n4 : Int) (n5 : Int) (n6 : Int) (n7 : Int) (l8 : L8) (n9 : Int) (n10 : Int) (n11 : Int) (n12 : Int) (n13 : Int) (l14 : LT) (hl : l14.length ≤ 200) : op_25 [.n n0, .n n1, .n n2, .n n3, .n n4, .n n5, .n n6, .n n7, .l TB l8, .n n9, .n n10, .n n11, .n n12, .n n13, .l TTm l14, .n n0, .n n1, .n n2, .n n3, .n n4, .n n5, .n n6, .n n7, .l TB l8, .n n9, .n n10, .n n11, .n n12, .n n13, .l TTm l14] = some (0, [.b true]) := by
  rw [op_25_eq]
  refine fn_25_t_im _ _ _ _ _ _ _ _ _ _ _ _ _ _ _ _ _ _ _ _ _ _ _ _ _ _ _ _ _ _ _ ?_
  unfold fn_25_t
  dsimp only
  refine sel_f (by simp) (sel_f (by simp) (sel_f (by simp) (sel_f (by simp) (sel_f (by simp) (sel_f (by rw [st_self]; rfl) (sel_f (by simp) (sel_f (by simp) (sel_f (by simp) (sel_f (by simp) (sel_f (by simp) ?_))))))))))
  erw [lp_L25_4 n0 n1 n2 n3 n4 n5 n6 n7 l8 n9 n10 n11 n12 n13 l14 n0 n1 n2 n3 n4 n5 n6 n7 l8 n9 n10 n11 n12 n13 l14 hl rfl]
  exact sel_t rfl rfl
end Go.Proofs.Ythbceghdobfijaa.Vx
namespace Go.Proofs.Ythbceghdobfijaa.Vx
open Go Go.RowKit
set_option linter.unusedVariables false
set_option linter.unusedSimpArgs false
set_option maxRecDepth 100000
set_option maxHeartbeats 4000000
/-! ### What differs rises, and makes the one of the other -/
abbrev PI := Int × Int
def dfI (a b : List Int) : Nat → List PI
  | 0 => []
  | k + 1 => dfI a b k ++ (bif a.getD k 0 == b.getD k 0 then [] else [((k : Int), b.getD k 0)])
def dfS (a b : List Int) (k : Nat) (l : List PI) : List PI := l ++ (bif a.getD k 0 == b.getD k 0 then [] else [((k : Int), b.getD k 0)])
theorem dfI_eq (a b : L8) : ∀ k, dfT a b k = dfI a b k
  | 0 => rfl
  | k + 1 => congrArg (dfS a b k) (dfI_eq a b k)
theorem dfI_len (a b : List Int) : ∀ k, (dfI a b k).length ≤ k
  | 0 => Nat.le_refl _
  | k + 1 => by have := dfI_len a b k; unfold dfI; rw [List.length_append]; cases (a.getD k 0 == b.getD k 0) <;> simp <;> omega
theorem dfI_in (a b : List Int) : ∀ k, ∀ x ∈ dfI a b k, 0 ≤ x.1 ∧ x.1 < (k : Int)
  | 0, x, h => by cases h
  | k + 1, x, h => by
    unfold dfI at h
    rcases List.mem_append.1 h with h | h
    · have := dfI_in a b k x h; omega
    · cases hc : (a.getD k 0 == b.getD k 0) with
      | true => rw [hc] at h; cases h
      | false => rw [hc] at h; cases List.mem_singleton.1 h; simp; omega
theorem dfI_sorted (a b : List Int) : ∀ k, (dfI a b k).Pairwise (fun x y => x.1 < y.1)
  | 0 => List.Pairwise.nil
  | k + 1 => by
    unfold dfI
    rw [List.pairwise_append]
    refine ⟨dfI_sorted a b k, ?_, fun x hx y hy => ?_⟩
    · cases (a.getD k 0 == b.getD k 0) <;> simp
    · have := dfI_in a b k x hx
      cases hc : (a.getD k 0 == b.getD k 0) with
      | true => rw [hc] at hy; cases hy
      | false => rw [hc] at hy; cases List.mem_singleton.1 hy; exact this.2
theorem tm_get (l : LT) {i : Nat} (h : i < l.length) : tm_1 l (i : Int) = Prod.fst (l[i] : PI) ∧ tm_2 l (i : Int) = Prod.snd (l[i] : PI) := by
  have e : List.getD l i (Ty.dflt TTm) = l[i] := by rw [List.getD_eq_getElem?_getD, List.getElem?_eq_getElem h]; rfl
  exact ⟨congrArg (fun (p : PI) => p.1) e, congrArg (fun (p : PI) => p.2) e⟩
theorem rise_df (a b : L8) : riseB (dfT a b 64) = true := by
  rw [rise_iff]
  intro i hi
  have hs : (dfI a b 64).Pairwise (fun x y => x.1 < y.1) := dfI_sorted a b 64
  rw [dfI_eq] at hi ⊢
  have hi' : i < (dfI a b 64).length := hi
  have e1 : r1 (dfI a b 64) i = ((dfI a b 64)[i]).1 := (tm_get (dfI a b 64) hi).1
  have hin := dfI_in a b 64 _ (List.getElem_mem hi')
  unfold h86
  rw [e1]
  by_cases h0 : i = 0
  · subst h0
    rw [if_pos rfl, decide_eq_false (by omega), decide_eq_false (by omega)]; rfl
  · have e2 : r1 (dfI a b 64) (i - 1) = ((dfI a b 64)[i - 1]'(by omega)).1 := (tm_get (dfI a b 64) (show i - 1 < List.length (dfI a b 64) by omega)).1
    have := List.pairwise_iff_getElem.1 hs (i - 1) i (by omega) hi' (by omega)
    rw [if_neg h0, e2, decide_eq_false (by omega), decide_eq_false (by omega)]; rfl
def pf (a : List Int) (l : List PI) : List Int := l.foldl (fun a x => a.set x.1.toNat x.2) a
theorem pf_take (a : List Int) (l : List PI) {i : Nat} (hi : i < l.length) : pf a (l.take (i + 1)) = (pf a (l.take i)).set (l[i]).1.toNat (l[i]).2 := by
  rw [List.take_add_one, List.getElem?_eq_getElem hi]
  unfold pf
  rw [List.foldl_append]; rfl
theorem paN_pf (a : L8) (l : LT) : ∀ i, i ≤ l.length → paN a l i = pf a (List.take i (l : List PI))
  | 0, _ => rfl
  | i + 1, h => by
    obtain ⟨e1, e2⟩ := tm_get l (i := i) h
    show List.set (paN a l i) (Int.toNat (tm_1 l (i : Int))) (tm_2 l (i : Int)) = _
    rw [paN_pf a l i (by omega), e1, e2]
    exact (pf_take a l h).symm
theorem pf_len (l : List PI) : ∀ (a : List Int), (pf a l).length = a.length := by
  induction l with
  | nil => intro a; rfl
  | cons x l ih => intro a; show (pf (a.set x.1.toNat x.2) l).length = _; rw [ih, List.length_set]
theorem pf_df (a b : List Int) (hab : a.length = b.length) : ∀ k, k ≤ a.length → ∀ j, (pf a (dfI a b k)).getD j 0 = if j < k then b.getD j 0 else a.getD j 0
  | 0, _, j => by simp [dfI, pf]
  | k + 1, hk, j => by
    have ih := pf_df a b hab k (by omega)
    unfold dfI
    cases hc : (a.getD k 0 == b.getD k 0) with
    | true =>
      rw [cond_true, List.append_nil, ih j]
      have : a.getD k 0 = b.getD k 0 := eq_of_beq hc
      by_cases h : j = k
      · subst h; rw [if_neg (by omega), if_pos (by omega)]; exact this
      · by_cases h2 : j < k
        · rw [if_pos h2, if_pos (by omega)]
        · rw [if_neg h2, if_neg (by omega)]
    | false =>
      rw [cond_false]
      have e : pf a (dfI a b k ++ [((k : Int), b.getD k 0)]) = (pf a (dfI a b k)).set k (b.getD k 0) := by
        unfold pf; rw [List.foldl_append]; rfl
      rw [e]
      have hl := pf_len (dfI a b k) a
      by_cases h : j = k
      · subst h
        rw [if_pos (by omega)]
        simp only [List.getD_eq_getElem?_getD, List.getElem?_set, if_true]
        rw [if_pos (by omega)]; rfl
      · have : ((pf a (dfI a b k)).set k (b.getD k 0)).getD j 0 = (pf a (dfI a b k)).getD j 0 := by
          simp only [List.getD_eq_getElem?_getD]
          rw [List.getElem?_set_ne (by omega)]
        rw [this, ih j]
        by_cases h2 : j < k
        · rw [if_pos h2, if_pos (by omega)]
        · rw [if_neg h2, if_neg (by omega)]
theorem patch_diff (a b : List Int) (ha : a.length = 64) (hb : b.length = 64) : paN (a : L8) (dfT a b 64) (dfT a b 64).length = b := by
  refine (paN_pf a (dfT a b 64) _ (Nat.le_refl _)).trans ?_
  have e0 : (dfT a b 64 : List PI) = dfI a b 64 := dfI_eq a b 64
  have e : List.take (List.length (dfT a b 64)) (dfT a b 64 : List PI) = dfI a b 64 := (List.take_length (l := (dfT a b 64 : List PI))).trans e0
  refine (congrArg (pf a) e).trans ?_
  apply List.ext_getElem
  · rw [pf_len]; omega
  · intro j h1 h2
    have := pf_df a b (by omega) 64 (by omega) j
    rw [if_pos (by omega)] at this
    simpa [List.getD_eq_getElem?_getD, List.getElem?_eq_getElem h1, List.getElem?_eq_getElem h2] using this
theorem u64_of {n : Int} (h0 : 0 ≤ n) (h1 : n ≤ 18446744073709551615) : ∃ X : BitVec 64, n = N X := ⟨BitVec.ofInt 64 n, (N_of (by omega) (by exact Int.lt_of_le_of_lt h1 (by decide))).symm⟩
theorem u32_of {n : Int} (h0 : 0 ≤ n) (h1 : n ≤ 4294967295) : ∃ X : BitVec 32, n = N X := ⟨BitVec.ofInt 32 n, (N_of (by omega) (by exact Int.lt_of_le_of_lt h1 (by decide))).symm⟩
theorem xx64 {a b : Int} (ha : 0 ≤ a ∧ a ≤ 18446744073709551615) (hb : 0 ≤ b ∧ b ≤ 18446744073709551615) : ixor IntKind.u64 a (ixor IntKind.u64 a b) = b := by
  obtain ⟨A, rfl⟩ := u64_of ha.1 ha.2
  obtain ⟨B, rfl⟩ := u64_of hb.1 hb.2
  rw [ixor_u64, ixor_u64, ← BitVec.xor_assoc, BitVec.xor_self, BitVec.zero_xor]
theorem xx32 {a b : Int} (ha : 0 ≤ a ∧ a ≤ 4294967295) (hb : 0 ≤ b ∧ b ≤ 4294967295) : ixor IntKind.u32 a (ixor IntKind.u32 a b) = b := by
  obtain ⟨A, rfl⟩ := u32_of ha.1 ha.2
  obtain ⟨B, rfl⟩ := u32_of hb.1 hb.2
  rw [ixor_u32, ixor_u32, ← BitVec.xor_assoc, BitVec.xor_self, BitVec.zero_xor]
abbrev U64 (n : Int) : Prop := 0 ≤ n ∧ n ≤ 18446744073709551615
abbrev U32 (n : Int) : Prop := 0 ≤ n ∧ n ≤ 4294967295
theorem t4 (n0 n1 n2 n4 n5 n6 n7 n9 n10 n11 n12 n13 : Int) (l3 l8 : L8) (l14 : LT) (h0 : U64 n0) (h1 : U64 n1) (h2 : U64 n2) (h4 : U32 n4) (h5 : U64 n5) (h6 : U64 n6) (h7 : U64 n7) (h9 : U32 n9) (h3 : l3.length = 64) (h8 : l8.length = 64) :
    Good (· = true) (fn_W4_t [.n n0, .n n1, .n n2, .l TB l3, .n n4, .n n5, .n n6, .n n7, .l TB l8, .n n9, .n n10, .n n11, .n n12, .n n13, .l TTm l14]).sel := by
  unfold fn_W4_t
  by_cases hl : (l14.length : Int) > 200
  · exact good_t (decide_eq_true hl) (good_leaf rfl)
  · refine good_f (decide_eq_false hl) ?_
    have hl14 : l14.length ≤ 200 := by omega
    have hld : (dfT l3 l8 64).length ≤ 200 := by have := dfT_len l3 l8 64; omega
    dsimp only
    erw [e21 n0 n1 n2 l3 n4 n5 n6 n7 l8 n9]; refine good_t rfl ?_
    erw [e22 n0 n1 n2 l3 n4 (ixor IntKind.u64 n0 n5) (ixor IntKind.u64 n1 n6) (ixor IntKind.u64 n2 n7) (ixor IntKind.u32 n4 n9) (dfT l3 l8 64) hld]
    rw [rise_df, cond_true, xx64 h0 h5, xx64 h1 h6, xx64 h2 h7, xx32 h4 h9, patch_diff l3 l8 h3 h8]
    refine good_t rfl ?_
    erw [e22 n0 n1 n2 l3 n4 n10 n11 n12 n13 l14 hl14]
    refine good_t (by cases riseB l14 <;> rfl) ?_
    erw [e24 0 0 0 0 0 0 0 0 (List.replicate 64 (0 : Int)) 0 n10 n11 n12 n13 l14 hl14]; refine good_t rfl ?_
    erw [e23 n0 n1 n2 l3 n4 0 0 0 0 0 0 0 0 (List.replicate 64 (0 : Int)) 0 n10 n11 n12 n13 l14 hl14]
    refine good_t (by cases riseB l14 <;> rfl) ?_
    erw [e24 0 0 0 0 0 0 0 0 (List.replicate 64 (0 : Int)) 0 (ixor IntKind.u64 n0 n5) (ixor IntKind.u64 n1 n6) (ixor IntKind.u64 n2 n7) (ixor IntKind.u32 n4 n9) (dfT l3 l8 64) hld]; refine good_t rfl ?_
    erw [e26 0 0 0 0 0 0 0 0 (List.replicate 64 (0 : Int)) 0 0 0 0 0 n0 n1 n2 l3 n4 n5 n6 n7 l8 n9]; refine good_t rfl ?_
    erw [e25 0 0 0 0 0 0 0 0 (List.replicate 64 (0 : Int)) 0 (ixor IntKind.u64 n0 n5) (ixor IntKind.u64 n1 n6) (ixor IntKind.u64 n2 n7) (ixor IntKind.u32 n4 n9) (dfT l3 l8 64) hld]
    refine good_t rfl (good_t rfl (good_t (st_self n5 n6 n7 n9 l8) (good_t rfl ?_)))
    cases riseB l14 with
    | true => exact good_t (st_self _ _ _ _ _) (good_t rfl (good_leaf rfl))
    | false => exact good_t (st_self _ _ _ _ _) (good_t rfl (good_leaf rfl))
theorem good_true {x : Option Bool} (h : Good (· = true) x) : x = some true := by obtain ⟨y, h1, h2⟩ := h; rw [h1, h2]
theorem wf64 {n : Int} (h : wfD (.int .u64) n = true) : U64 n := by
  have a' : (decide (IntKind.min .u64 ≤ n) && decide (n ≤ IntKind.max .u64)) = true := h
  rw [Bool.and_eq_true, decide_eq_true_eq, decide_eq_true_eq] at a'
  exact a'
theorem wf32 {n : Int} (h : wfD (.int .u32) n = true) : U32 n := by
  have a' : (decide (IntKind.min .u32 ≤ n) && decide (n ≤ IntKind.max .u32)) = true := h
  rw [Bool.and_eq_true, decide_eq_true_eq, decide_eq_true_eq] at a'
  exact a'
theorem wf_arr {l : L8} (h : wfD (.arr 64 TB) l = true) : l.length = 64 := by
  have h' : (decide (l.length = 64) && wfL (wfD TB) l) = true := h
  rw [Bool.and_eq_true, decide_eq_true_eq] at h'
  exact h'.1
abbrev TSt : Ty := .pair (.int .u64) (.pair (.int .u64) (.pair (.int .u64) (.pair (.arr 64 TB) (.int .u32))))
abbrev TDl : Ty := .pair (.int .u64) (.pair (.int .u64) (.pair (.int .u64) (.pair (.int .u32) (.sl TTm))))
theorem wf_st {x : Ty.den TSt} (h : wfD TSt x = true) : U64 x.1 ∧ U64 x.2.1 ∧ U64 x.2.2.1 ∧ List.length x.2.2.2.1 = 64 ∧ U32 x.2.2.2.2 := by
  have h' : (wfD (.int .u64) x.1 && (wfD (.int .u64) x.2.1 && (wfD (.int .u64) x.2.2.1 && (wfD (.arr 64 TB) x.2.2.2.1 && wfD (.int .u32) x.2.2.2.2)))) = true := h
  rw [Bool.and_eq_true, Bool.and_eq_true, Bool.and_eq_true, Bool.and_eq_true] at h'
  exact ⟨wf64 h'.1, wf64 h'.2.1, wf64 h'.2.2.1, wf_arr h'.2.2.2.1, wf32 h'.2.2.2.2⟩
theorem t4' {x y : Ty.den TSt} {d : Ty.den TDl} (h : wfD TSt x = true) (k : wfD TSt y = true) :
    (ev_W4 [.n x.1, .n x.2.1, .n x.2.2.1, .l TB x.2.2.2.1, .n x.2.2.2.2, .n y.1, .n y.2.1, .n y.2.2.1, .l TB y.2.2.2.1, .n y.2.2.2.2, .n d.1, .n d.2.1, .n d.2.2.1, .n d.2.2.2.1, .l TTm d.2.2.2.2]).sel = some true := by
  obtain ⟨a0, a1, a2, a3, a4⟩ := wf_st h
  obtain ⟨b0, b1, b2, b3, b4⟩ := wf_st k
  exact good_true ((fn_W4_t_im _ _ _ _ _ _ _ _ _ _ _ _ _ _ _).good (t4 _ _ _ _ _ _ _ _ _ _ _ _ _ _ _ a0 a1 a2 a4 b0 b1 b2 b4 a3 b3))
end Go.Proofs.Ythbceghdobfijaa.Vx
