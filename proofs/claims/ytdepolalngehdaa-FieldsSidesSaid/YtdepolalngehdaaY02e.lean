import Derived.Test.YtdepolalngehdaaY02d
namespace Go.Proofs.Ytdepolalngehdaa.Vx
open Go Go.RowKit
set_option linter.unusedVariables false
set_option linter.unusedSimpArgs false
set_option maxRecDepth 100000
set_option maxHeartbeats 1000000
/-! ### FieldsPuts -/
theorem lp13 (l0 : LI) (n : Int) (a : List Int) (K N : Int) (c : List Int) : ∀ (k : Nat) (i : Int) (x : List Int) (f : Nat), 0 ≤ i → i + k = x.length → x.length ≤ 1000000 → k < f → iterS st_L3_13 f [.k 0, .l TIt l0, .n n, .n i, .l TB a, .n K, .n N, .l TB c, .l TB x] = some (0, [.l TIt l0, .n n, .l TB a, .l TB c])
  | _, _, _, 0, _, _, _, h => by omega
  | 0, i, x, f + 1, h0, hi, hx, hf => by
    have e : (st_L3_13 [.k 0, .l TIt l0, .n n, .n i, .l TB a, .n K, .n N, .l TB c, .l TB x]).sel = some (.stop 0 [.l TIt l0, .n n, .l TB a, .l TB c]) := by
      refine fn_L3_13_t_im l0 n i a K N c x _ ?_
      unfold fn_L3_13_t
      exact sel_f (decide_eq_false (show ¬ i < (x.length : Int) by omega)) rfl
    unfold iterS
    rw [e]
  | k + 1, i, x, f + 1, h0, hi, hx, hf => by
    have w := w64s (x := i + 1) (by omega) (by omega)
    have hl : (x.set i.toNat (IntKind.wrap .u8 (x.getD i.toNat 0 + 1))).length = x.length := List.length_set
    have e : (st_L3_13 [.k 0, .l TIt l0, .n n, .n i, .l TB a, .n K, .n N, .l TB c, .l TB x]).sel = some (.go [.k 0, .l TIt l0, .n n, .n (i + 1), .l TB a, .n K, .n N, .l TB c, .l TB (x.set i.toNat (IntKind.wrap .u8 (x.getD i.toNat 0 + 1)))]) := by
      refine fn_L3_13_t_im l0 n i a K N c x _ ?_
      unfold fn_L3_13_t
      refine sel_t (decide_eq_true (show i < (x.length : Int) by omega)) (sel_t (inR_true h0 (show i < (x.length : Int) by omega)) ?_)
      exact congrArg (fun z => some (Step.go [.k 0, .l TIt l0, .n n, .n z, .l TB a, .n K, .n N, .l TB c, .l TB (x.set i.toNat (IntKind.wrap .u8 (x.getD i.toNat 0 + 1)))])) w
    unfold iterS
    rw [e]
    exact lp13 l0 n a K N c k (i + 1) _ f (by omega) (by rw [hl]; omega) (by rw [hl]; exact hx) (by omega)
theorem q13 (l0 : LI) (n : Int) (a : List Int) (K N : Int) (c x : List Int) (hx : x.length ≤ 1000000) : op_L3_13 [.k 0, .l TIt l0, .n n, .n 0, .l TB a, .n K, .n N, .l TB c, .l TB x] = some (0, [.l TIt l0, .n n, .l TB a, .l TB c]) := by
  rw [op_L3_13_eq]
  exact lp13 l0 n a K N c x.length 0 x FU (by omega) (by omega) hx (by unfold FU; omega)
theorem lp20 (l0 : LI) (n : Int) (a c : List Int) : ∀ (k : Nat) (i : Int) (x : List Int) (f : Nat), 0 ≤ i → i + k = x.length → x.length ≤ 1000000 → k < f → iterS st_L3_20 f [.k 0, .l TIt l0, .n n, .n i, .l TB a, .l TB x, .l TB c] = some (0, [.l TIt l0, .n n, .l TB a, .l TB c])
  | _, _, _, 0, _, _, _, h => by omega
  | 0, i, x, f + 1, h0, hi, hx, hf => by
    have e : (st_L3_20 [.k 0, .l TIt l0, .n n, .n i, .l TB a, .l TB x, .l TB c]).sel = some (.stop 0 [.l TIt l0, .n n, .l TB a, .l TB c]) := by
      refine fn_L3_20_t_im l0 n i a x c _ ?_
      unfold fn_L3_20_t
      exact sel_f (decide_eq_false (show ¬ i < (x.length : Int) by omega)) rfl
    unfold iterS
    rw [e]
  | k + 1, i, x, f + 1, h0, hi, hx, hf => by
    have w := w64s (x := i + 1) (by omega) (by omega)
    have hl : (x.set i.toNat (IntKind.wrap .u8 (x.getD i.toNat 0 + 1))).length = x.length := List.length_set
    have e : (st_L3_20 [.k 0, .l TIt l0, .n n, .n i, .l TB a, .l TB x, .l TB c]).sel = some (.go [.k 0, .l TIt l0, .n n, .n (i + 1), .l TB a, .l TB (x.set i.toNat (IntKind.wrap .u8 (x.getD i.toNat 0 + 1))), .l TB c]) := by
      refine fn_L3_20_t_im l0 n i a x c _ ?_
      unfold fn_L3_20_t
      refine sel_t (decide_eq_true (show i < (x.length : Int) by omega)) (sel_t (inR_true h0 (show i < (x.length : Int) by omega)) ?_)
      exact congrArg (fun z => some (Step.go [.k 0, .l TIt l0, .n n, .n z, .l TB a, .l TB (x.set i.toNat (IntKind.wrap .u8 (x.getD i.toNat 0 + 1))), .l TB c])) w
    unfold iterS
    rw [e]
    exact lp20 l0 n a c k (i + 1) _ f (by omega) (by rw [hl]; omega) (by rw [hl]; exact hx) (by omega)
theorem q20 (l0 : LI) (n : Int) (a c x : List Int) (hx : x.length ≤ 1000000) : op_L3_20 [.k 0, .l TIt l0, .n n, .n 0, .l TB a, .l TB x, .l TB c] = some (0, [.l TIt l0, .n n, .l TB a, .l TB c]) := by
  rw [op_L3_20_eq]
  exact lp20 l0 n a c x.length 0 x FU (by omega) (by omega) hx (by unfold FU; omega)
abbrev appI (a b : List Int) : List Int := a ++ b
theorem appI_len (a b : List Int) : List.length (appI a b) = a.length + b.length := List.length_append
def InvP (l0 : LI) (i : Int) (env : List Dat) : Prop := (i = 0 ∧ env = [.k 0, .l TIt l0, .n 0, .l TB ([] : List Int)]) ∨ (1 ≤ i ∧ env = [.k 1, .l TIt l0, .n i, .l TB (encTo l0 i.toNat), .l TB (encTo l0 i.toNat)])
def StepP (l0 : LI) (i : Int) : Step → Prop
  | .go e => InvP l0 (i + 1) e
  | .stop k d => False
theorem stepPn {l0 : LI} (hI : Its l0) {i : Int} (hi : i = 0) (h1 : i < (l0.length : Int)) : Good (StepP l0 i) (st_L3_6 [.k 0, .l TIt l0, .n i, .l TB ([] : List Int)]).sel := by
  obtain ⟨p0, _, p2, p3, p4, p5⟩ := hI.2 i (by omega) h1
  have hlen := hI.1
  have w := w64s (x := i + 1) (by omega) (by omega)
  have e0 := bytes_back p4
  have fin : ∀ x : List Int, x = encI l0 i → InvP l0 (i + 1) [.k 1, .l TIt l0, .n (i + 1), .l TB x, .l TB x] := fun x hx => .inr ⟨by omega, by subst hi; rw [encTo_one, hx]⟩
  have e3 : ∀ x : List Int, op_L3_13 [.k 0, .l TIt l0, .n i, .n 0, .l TB x, .n (it_1 l0 i), .n (it_2 l0 i), .l TB x, .l TB (bytesOf (strOf (it_3 l0 i)))] = some (0, [.l TIt l0, .n i, .l TB x, .l TB x]) := fun x => q13 l0 i x _ _ x _ (by erw [e0]; exact (show (it_3 l0 i).length ≤ 1000000 by omega))
  refine Imp.good (fn_L3_6_n_im l0 i (by omega) h1) ?_
  unfold fn_L3_6_n
  rcases kinds5 p0 with hk | hk | hk | hk | hk
  · have e1 := t35a (IntKind.wrap .u64 (IntKind.wrap .u8 (it_2 l0 i))) 1 (by omega) (by omega)
    rw [besw1 p2] at e1
    have e2 : op_30 [.n (it_2 l0 i), .n (List.getD [(1 : Int), (2 : Int), (4 : Int), (8 : Int)] (Int.toNat (Int.tmod (it_1 l0 i) (5 : Int))) (0 : Int))] = some (0, [.l TB (bes (it_2 l0 i) 1)]) := by rw [hk]; exact t30 (it_2 l0 i) 1 (by omega)
    have hX : ((bes (it_2 l0 i) 1)).length ≤ 900000 := by rw [be_len]; omega
    have e3 := e3 (bes (it_2 l0 i) 1)
    have e4 := t31 (l := (bes (it_2 l0 i) 1)) (by omega)
    have e5 := q20 l0 i (bes (it_2 l0 i) 1) (bes (it_2 l0 i) 1) (bes (it_2 l0 i) 1) (by omega)
    exact good_t (by rw [hk]; rfl) (good_f (by erw [e1]; rfl) (good_t (by erw [e1]; rfl) (good_t (by erw [e2]; rfl) (good_t (by erw [e2]; exact decide_eq_true (show (0 + (bes (it_2 l0 i) 1).length) * 1 ≤ 140737488355328 by rw [be_len]; omega)) (good_t (by erw [e1, e2]; erw [e3]; rfl) (good_t (by erw [e1, e2]; erw [e3]; erw [e4]; rfl) (good_f (by erw [e1, e2]; erw [e3]; erw [e4]; exact strNo _) (good_t (by erw [e1, e2]; erw [e3]; erw [e4]; erw [e5]; rfl) (good_leaf (by erw [e1, e2]; erw [e3]; erw [e4]; erw [e5]; erw [w]; exact fin _ (by rw [enc0 hk]; rfl)))))))))))
  · have e1 := t35a (IntKind.wrap .u64 (IntKind.wrap .u16 (it_2 l0 i))) 2 (by omega) (by omega)
    rw [besw2 p2] at e1
    have e2 : op_30 [.n (it_2 l0 i), .n (List.getD [(1 : Int), (2 : Int), (4 : Int), (8 : Int)] (Int.toNat (Int.tmod (it_1 l0 i) (5 : Int))) (0 : Int))] = some (0, [.l TB (bes (it_2 l0 i) 2)]) := by rw [hk]; exact t30 (it_2 l0 i) 2 (by omega)
    have hX : ((bes (it_2 l0 i) 2)).length ≤ 900000 := by rw [be_len]; omega
    have e3 := e3 (bes (it_2 l0 i) 2)
    have e4 := t31 (l := (bes (it_2 l0 i) 2)) (by omega)
    have e5 := q20 l0 i (bes (it_2 l0 i) 2) (bes (it_2 l0 i) 2) (bes (it_2 l0 i) 2) (by omega)
    exact good_f (by rw [hk]; rfl) (good_t (by rw [hk]; rfl) (good_f (by erw [e1]; rfl) (good_t (by erw [e1]; rfl) (good_t (by erw [e2]; rfl) (good_t (by erw [e2]; exact decide_eq_true (show (0 + (bes (it_2 l0 i) 2).length) * 1 ≤ 140737488355328 by rw [be_len]; omega)) (good_t (by erw [e1, e2]; erw [e3]; rfl) (good_t (by erw [e1, e2]; erw [e3]; erw [e4]; rfl) (good_f (by erw [e1, e2]; erw [e3]; erw [e4]; exact strNo _) (good_t (by erw [e1, e2]; erw [e3]; erw [e4]; erw [e5]; rfl) (good_leaf (by erw [e1, e2]; erw [e3]; erw [e4]; erw [e5]; erw [w]; exact fin _ (by rw [enc1 hk]; rfl))))))))))))
  · have e1 := t35a (IntKind.wrap .u64 (IntKind.wrap .u32 (it_2 l0 i))) 4 (by omega) (by omega)
    rw [besw4 p2] at e1
    have e2 : op_30 [.n (it_2 l0 i), .n (List.getD [(1 : Int), (2 : Int), (4 : Int), (8 : Int)] (Int.toNat (Int.tmod (it_1 l0 i) (5 : Int))) (0 : Int))] = some (0, [.l TB (bes (it_2 l0 i) 4)]) := by rw [hk]; exact t30 (it_2 l0 i) 4 (by omega)
    have hX : ((bes (it_2 l0 i) 4)).length ≤ 900000 := by rw [be_len]; omega
    have e3 := e3 (bes (it_2 l0 i) 4)
    have e4 := t31 (l := (bes (it_2 l0 i) 4)) (by omega)
    have e5 := q20 l0 i (bes (it_2 l0 i) 4) (bes (it_2 l0 i) 4) (bes (it_2 l0 i) 4) (by omega)
    exact good_f (by rw [hk]; rfl) (good_f (by rw [hk]; rfl) (good_t (by rw [hk]; rfl) (good_f (by erw [e1]; rfl) (good_t (by erw [e1]; rfl) (good_t (by erw [e2]; rfl) (good_t (by erw [e2]; exact decide_eq_true (show (0 + (bes (it_2 l0 i) 4).length) * 1 ≤ 140737488355328 by rw [be_len]; omega)) (good_t (by erw [e1, e2]; erw [e3]; rfl) (good_t (by erw [e1, e2]; erw [e3]; erw [e4]; rfl) (good_f (by erw [e1, e2]; erw [e3]; erw [e4]; exact strNo _) (good_t (by erw [e1, e2]; erw [e3]; erw [e4]; erw [e5]; rfl) (good_leaf (by erw [e1, e2]; erw [e3]; erw [e4]; erw [e5]; erw [w]; exact fin _ (by rw [enc2 hk]; rfl)))))))))))))
  · have e1 := t35a (it_2 l0 i) 8 (by omega) (by omega)
    skip
    have e2 : op_30 [.n (it_2 l0 i), .n (List.getD [(1 : Int), (2 : Int), (4 : Int), (8 : Int)] (Int.toNat (Int.tmod (it_1 l0 i) (5 : Int))) (0 : Int))] = some (0, [.l TB (bes (it_2 l0 i) 8)]) := by rw [hk]; exact t30 (it_2 l0 i) 8 (by omega)
    have hX : ((bes (it_2 l0 i) 8)).length ≤ 900000 := by rw [be_len]; omega
    have e3 := e3 (bes (it_2 l0 i) 8)
    have e4 := t31 (l := (bes (it_2 l0 i) 8)) (by omega)
    have e5 := q20 l0 i (bes (it_2 l0 i) 8) (bes (it_2 l0 i) 8) (bes (it_2 l0 i) 8) (by omega)
    exact good_f (by rw [hk]; rfl) (good_f (by rw [hk]; rfl) (good_f (by rw [hk]; rfl) (good_t (by rw [hk]; rfl) (good_f (by erw [e1]; rfl) (good_t (by erw [e1]; rfl) (good_t (by erw [e2]; rfl) (good_t (by erw [e2]; exact decide_eq_true (show (0 + (bes (it_2 l0 i) 8).length) * 1 ≤ 140737488355328 by rw [be_len]; omega)) (good_t (by erw [e1, e2]; erw [e3]; rfl) (good_t (by erw [e1, e2]; erw [e3]; erw [e4]; rfl) (good_f (by erw [e1, e2]; erw [e3]; erw [e4]; exact strNo _) (good_t (by erw [e1, e2]; erw [e3]; erw [e4]; erw [e5]; rfl) (good_leaf (by erw [e1, e2]; erw [e3]; erw [e4]; erw [e5]; erw [w]; exact fin _ (by rw [enc3 hk]; rfl))))))))))))))
  · have hB : (bytesOf (strOf (it_3 l0 i))).length ≤ 1000000 := by erw [e0]; exact (show (it_3 l0 i).length ≤ 1000000 by omega)
    have hX : List.length (α := Int) (it_3 l0 i) ≤ 900000 := (show (it_3 l0 i).length ≤ 900000 by omega)
    have e3 := (q13 l0 i (it_3 l0 i) (it_1 l0 i) (it_2 l0 i) (bytesOf (strOf (it_3 l0 i))) (bytesOf (strOf (it_3 l0 i))) hB).trans (congrArg (fun z : List Int => (some (0, [Dat.l TIt l0, .n i, .l TB (it_3 l0 i), .l TB z]) : Option (Nat × List Dat))) e0)
    have e4 := t31 (l := (it_3 l0 i)) (Nat.le_trans hX (by omega))
    have e5 := q20 l0 i (it_3 l0 i) (it_3 l0 i) (it_3 l0 i) (Nat.le_trans hX (by omega))
    exact good_f (by rw [hk]; rfl) (good_f (by rw [hk]; rfl) (good_f (by rw [hk]; rfl) (good_f (by rw [hk]; rfl) (good_t (by erw [e0]; exact decide_eq_true (show (it_3 l0 i).length * 1 ≤ 140737488355328 by omega)) (good_t (by rw [hk]; rfl) (good_t (decide_eq_true (show (0 + (it_3 l0 i).length) * 1 ≤ 140737488355328 by omega)) (good_t (by erw [e3]; rfl) (good_t (by erw [e3]; erw [e4]; rfl) (good_f (by erw [e3]; erw [e4]; exact strNo _) (good_t (by erw [e3]; erw [e4]; erw [e5]; rfl) (good_leaf (by erw [e3]; erw [e4]; erw [e5]; erw [w]; exact fin _ (by rw [enc4 hk]; rfl)))))))))))))
theorem stepPo {l0 : LI} (hI : Its l0) {i : Int} (h0 : 1 ≤ i) (h1 : i < (l0.length : Int)) {l : List Int} (hl : l = encTo l0 i.toNat) : Good (StepP l0 i) (st_L3_6 [.k 1, .l TIt l0, .n i, .l TB l, .l TB l]).sel := by
  obtain ⟨p0, _, p2, p3, p4, p5⟩ := hI.2 i (by omega) h1
  have hlen := hI.1
  have w := w64s (x := i + 1) (by omega) (by omega)
  have hll : l.length ≤ 300000 := by
    have := encTo_len hI i.toNat (by omega)
    rw [hl]; omega
  have e0 := bytes_back p4
  have fin : ∀ x : List Int, x = l ++ encI l0 i → InvP l0 (i + 1) [.k 1, .l TIt l0, .n (i + 1), .l TB x, .l TB x] := fun x hx => .inr ⟨by omega, by rw [encTo_step l0 (by omega), hx, hl]⟩
  have e3 : ∀ x : List Int, op_L3_13 [.k 0, .l TIt l0, .n i, .n 0, .l TB x, .n (it_1 l0 i), .n (it_2 l0 i), .l TB x, .l TB (bytesOf (strOf (it_3 l0 i)))] = some (0, [.l TIt l0, .n i, .l TB x, .l TB x]) := fun x => q13 l0 i x _ _ x _ (by erw [e0]; exact (show (it_3 l0 i).length ≤ 1000000 by omega))
  refine Imp.good (fn_L3_6_o_im l0 i l (by omega) h1) ?_
  unfold fn_L3_6_o
  rcases kinds5 p0 with hk | hk | hk | hk | hk
  · have e1 := t35b (IntKind.wrap .u64 (IntKind.wrap .u8 (it_2 l0 i))) 1 (by omega) l (by omega)
    rw [besw1 p2] at e1
    have e2 : op_30 [.n (it_2 l0 i), .n (List.getD [(1 : Int), (2 : Int), (4 : Int), (8 : Int)] (Int.toNat (Int.tmod (it_1 l0 i) (5 : Int))) (0 : Int))] = some (0, [.l TB (bes (it_2 l0 i) 1)]) := by rw [hk]; exact t30 (it_2 l0 i) 1 (by omega)
    have hX : ((l ++ bes (it_2 l0 i) 1)).length ≤ 900000 := by rw [List.length_append]; rw [be_len]; omega
    have e3 := e3 (l ++ bes (it_2 l0 i) 1)
    have e4 := t31 (l := (l ++ bes (it_2 l0 i) 1)) (by omega)
    have e5 := q20 l0 i (l ++ bes (it_2 l0 i) 1) (l ++ bes (it_2 l0 i) 1) (l ++ bes (it_2 l0 i) 1) (by omega)
    exact good_t (by rw [hk]; rfl) (good_t (by erw [e1]; rfl) (good_t (by erw [e2]; rfl) (good_t (by erw [e2]; exact decide_eq_true (show (l.length + (bes (it_2 l0 i) 1).length) * 1 ≤ 140737488355328 by rw [be_len]; omega)) (good_t (by erw [e1, e2]; erw [e3]; rfl) (good_t (by erw [e1, e2]; erw [e3]; erw [e4]; rfl) (good_f (by erw [e1, e2]; erw [e3]; erw [e4]; exact strNo _) (good_t (by erw [e1, e2]; erw [e3]; erw [e4]; erw [e5]; rfl) (good_leaf (by erw [e1, e2]; erw [e3]; erw [e4]; erw [e5]; erw [w]; exact fin _ (by rw [enc0 hk]; rfl))))))))))
  · have e1 := t35b (IntKind.wrap .u64 (IntKind.wrap .u16 (it_2 l0 i))) 2 (by omega) l (by omega)
    rw [besw2 p2] at e1
    have e2 : op_30 [.n (it_2 l0 i), .n (List.getD [(1 : Int), (2 : Int), (4 : Int), (8 : Int)] (Int.toNat (Int.tmod (it_1 l0 i) (5 : Int))) (0 : Int))] = some (0, [.l TB (bes (it_2 l0 i) 2)]) := by rw [hk]; exact t30 (it_2 l0 i) 2 (by omega)
    have hX : ((l ++ bes (it_2 l0 i) 2)).length ≤ 900000 := by rw [List.length_append]; rw [be_len]; omega
    have e3 := e3 (l ++ bes (it_2 l0 i) 2)
    have e4 := t31 (l := (l ++ bes (it_2 l0 i) 2)) (by omega)
    have e5 := q20 l0 i (l ++ bes (it_2 l0 i) 2) (l ++ bes (it_2 l0 i) 2) (l ++ bes (it_2 l0 i) 2) (by omega)
    exact good_f (by rw [hk]; rfl) (good_t (by rw [hk]; rfl) (good_t (by erw [e1]; rfl) (good_t (by erw [e2]; rfl) (good_t (by erw [e2]; exact decide_eq_true (show (l.length + (bes (it_2 l0 i) 2).length) * 1 ≤ 140737488355328 by rw [be_len]; omega)) (good_t (by erw [e1, e2]; erw [e3]; rfl) (good_t (by erw [e1, e2]; erw [e3]; erw [e4]; rfl) (good_f (by erw [e1, e2]; erw [e3]; erw [e4]; exact strNo _) (good_t (by erw [e1, e2]; erw [e3]; erw [e4]; erw [e5]; rfl) (good_leaf (by erw [e1, e2]; erw [e3]; erw [e4]; erw [e5]; erw [w]; exact fin _ (by rw [enc1 hk]; rfl)))))))))))
  · have e1 := t35b (IntKind.wrap .u64 (IntKind.wrap .u32 (it_2 l0 i))) 4 (by omega) l (by omega)
    rw [besw4 p2] at e1
    have e2 : op_30 [.n (it_2 l0 i), .n (List.getD [(1 : Int), (2 : Int), (4 : Int), (8 : Int)] (Int.toNat (Int.tmod (it_1 l0 i) (5 : Int))) (0 : Int))] = some (0, [.l TB (bes (it_2 l0 i) 4)]) := by rw [hk]; exact t30 (it_2 l0 i) 4 (by omega)
    have hX : ((l ++ bes (it_2 l0 i) 4)).length ≤ 900000 := by rw [List.length_append]; rw [be_len]; omega
    have e3 := e3 (l ++ bes (it_2 l0 i) 4)
    have e4 := t31 (l := (l ++ bes (it_2 l0 i) 4)) (by omega)
    have e5 := q20 l0 i (l ++ bes (it_2 l0 i) 4) (l ++ bes (it_2 l0 i) 4) (l ++ bes (it_2 l0 i) 4) (by omega)
    exact good_f (by rw [hk]; rfl) (good_f (by rw [hk]; rfl) (good_t (by rw [hk]; rfl) (good_t (by erw [e1]; rfl) (good_t (by erw [e2]; rfl) (good_t (by erw [e2]; exact decide_eq_true (show (l.length + (bes (it_2 l0 i) 4).length) * 1 ≤ 140737488355328 by rw [be_len]; omega)) (good_t (by erw [e1, e2]; erw [e3]; rfl) (good_t (by erw [e1, e2]; erw [e3]; erw [e4]; rfl) (good_f (by erw [e1, e2]; erw [e3]; erw [e4]; exact strNo _) (good_t (by erw [e1, e2]; erw [e3]; erw [e4]; erw [e5]; rfl) (good_leaf (by erw [e1, e2]; erw [e3]; erw [e4]; erw [e5]; erw [w]; exact fin _ (by rw [enc2 hk]; rfl))))))))))))
  · have e1 := t35b (it_2 l0 i) 8 (by omega) l (by omega)
    skip
    have e2 : op_30 [.n (it_2 l0 i), .n (List.getD [(1 : Int), (2 : Int), (4 : Int), (8 : Int)] (Int.toNat (Int.tmod (it_1 l0 i) (5 : Int))) (0 : Int))] = some (0, [.l TB (bes (it_2 l0 i) 8)]) := by rw [hk]; exact t30 (it_2 l0 i) 8 (by omega)
    have hX : ((l ++ bes (it_2 l0 i) 8)).length ≤ 900000 := by rw [List.length_append]; rw [be_len]; omega
    have e3 := e3 (l ++ bes (it_2 l0 i) 8)
    have e4 := t31 (l := (l ++ bes (it_2 l0 i) 8)) (by omega)
    have e5 := q20 l0 i (l ++ bes (it_2 l0 i) 8) (l ++ bes (it_2 l0 i) 8) (l ++ bes (it_2 l0 i) 8) (by omega)
    exact good_f (by rw [hk]; rfl) (good_f (by rw [hk]; rfl) (good_f (by rw [hk]; rfl) (good_t (by rw [hk]; rfl) (good_t (by erw [e1]; rfl) (good_t (by erw [e2]; rfl) (good_t (by erw [e2]; exact decide_eq_true (show (l.length + (bes (it_2 l0 i) 8).length) * 1 ≤ 140737488355328 by rw [be_len]; omega)) (good_t (by erw [e1, e2]; erw [e3]; rfl) (good_t (by erw [e1, e2]; erw [e3]; erw [e4]; rfl) (good_f (by erw [e1, e2]; erw [e3]; erw [e4]; exact strNo _) (good_t (by erw [e1, e2]; erw [e3]; erw [e4]; erw [e5]; rfl) (good_leaf (by erw [e1, e2]; erw [e3]; erw [e4]; erw [e5]; erw [w]; exact fin _ (by rw [enc3 hk]; rfl)))))))))))))
  · have hB : (bytesOf (strOf (it_3 l0 i))).length ≤ 1000000 := by erw [e0]; exact (show (it_3 l0 i).length ≤ 1000000 by omega)
    have hX : List.length (α := Int) (appI l (it_3 l0 i)) ≤ 900000 := Nat.le_trans (Nat.le_of_eq (appI_len l (it_3 l0 i))) (show l.length + (it_3 l0 i).length ≤ 900000 by omega)
    have e3 := (q13 l0 i (appI l (it_3 l0 i)) (it_1 l0 i) (it_2 l0 i) (appI l (bytesOf (strOf (it_3 l0 i)))) (bytesOf (strOf (it_3 l0 i))) hB).trans (congrArg (fun z : List Int => (some (0, [Dat.l TIt l0, .n i, .l TB (appI l (it_3 l0 i)), .l TB (appI l z)]) : Option (Nat × List Dat))) e0)
    have e4 := t31 (l := (appI l (it_3 l0 i))) (Nat.le_trans hX (by omega))
    have e5 := q20 l0 i (appI l (it_3 l0 i)) (appI l (it_3 l0 i)) (appI l (it_3 l0 i)) (Nat.le_trans hX (by omega))
    exact good_f (by rw [hk]; rfl) (good_f (by rw [hk]; rfl) (good_f (by rw [hk]; rfl) (good_f (by rw [hk]; rfl) (good_t (by erw [e0]; exact decide_eq_true (show (l.length + (it_3 l0 i).length) * 1 ≤ 140737488355328 by omega)) (good_t (by rw [hk]; rfl) (good_t (decide_eq_true (show (l.length + (it_3 l0 i).length) * 1 ≤ 140737488355328 by omega)) (good_t (by erw [e3]; rfl) (good_t (by erw [e3]; erw [e4]; rfl) (good_f (by erw [e3]; erw [e4]; exact strNo _) (good_t (by erw [e3]; erw [e4]; erw [e5]; rfl) (good_leaf (by erw [e3]; erw [e4]; erw [e5]; erw [w]; exact fin _ (by rw [enc4 hk]; rfl)))))))))))))
theorem atP {l0 : LI} {i : Int} {env : List Dat} (h : InvP l0 i env) : gn env 2 = i := by
  rcases h with ⟨rfl, rfl⟩ | ⟨_, rfl⟩ <;> rfl
def EndP (l0 : LI) (y : Nat × List Dat) : Prop := (y = (0, [.l TB ([] : List Int)])) ∨ ∃ x : List Int, x.length ≤ 400000 ∧ y = (1, [.l TB x, .l TB x])
theorem runP {l0 : LI} (hI : Its l0) : Good (EndP l0) (op_L3_6 [.k 0, .l TIt l0, .n 0, .l TB ([] : List Int)]) := by
  have hlen := hI.1
  refine op_L3_6_good (fun env => ∃ i : Int, 0 ≤ i ∧ i ≤ l0.length ∧ InvP l0 i env) (fun env => (l0.length - gn env 2).toNat) ?_ _ ⟨0, by omega, by omega, .inl ⟨rfl, rfl⟩⟩ (by show ((l0.length : Int) - 0).toNat < FU; unfold FU; omega)
  rintro env ⟨i, h0, h1, hI'⟩
  rw [atP hI']
  by_cases hlt : i < l0.length
  · have fin : Good (StepP l0 i) (st_L3_6 env).sel := by
      rcases hI' with ⟨rfl, rfl⟩ | ⟨a, rfl⟩
      · exact stepPn hI rfl hlt
      · exact stepPo hI a hlt rfl
    obtain ⟨y, e, hy⟩ := fin
    refine ⟨y, e, ?_⟩
    cases y with
    | stop k d => exact hy.elim
    | go e' =>
      have hy : InvP l0 (i + 1) e' := hy
      refine ⟨⟨i + 1, by omega, by omega, hy⟩, ?_⟩
      show ((l0.length : Int) - gn e' 2).toNat < _
      rw [atP hy]; omega
  · have hd : i = (l0.length : Int) := by omega
    rcases hI' with ⟨rfl, rfl⟩ | ⟨a, rfl⟩
    · exact Imp.good (fn_L3_6_xn_im l0 0 hd) (good_leaf (.inl rfl))
    · refine Imp.good (fn_L3_6_xo_im l0 i _ hd) (good_leaf (.inr ⟨encTo l0 i.toNat, ?_, rfl⟩))
      have := encTo_len hI i.toNat (by omega)
      omega
theorem t3 (l0 : LI) (hw0 : wfD (.sl TIt) l0 = true) : (ev_W3 [.l TIt l0]).sel = some true := by
  obtain ⟨y, e, hy⟩ : Good (fun y => y = true) (ev_W3 [.l TIt l0]).sel := by
    refine (fn_W3_t_im l0).good ?_
    unfold fn_W3_t
    rcases t8 l0 hw0 with e1 | ⟨e1, hI⟩
    · exact good_t (by erw [e1]; rfl) (good_t (by erw [e1]; rfl) (good_leaf rfl))
    refine good_t (by erw [e1]; rfl) (good_f (by erw [e1]; rfl) ?_)
    obtain ⟨y, e2, hy⟩ := runP hI
    rcases hy with rfl | ⟨x, hx, rfl⟩
    · exact good_t (by erw [e2]; rfl) (good_t (by erw [e2]; rfl) (good_leaf rfl))
    · have e3 := t31 (l := x) (by omega)
      exact good_f (by erw [e2]; rfl) (good_t (by erw [e2]; rfl) (good_t (by erw [e2]; erw [e3]; rfl) (good_t (by erw [e2]; erw [e3]; exact strSelf _) (good_leaf rfl))))
  rw [e, hy]
end Go.Proofs.Ytdepolalngehdaa.Vx
