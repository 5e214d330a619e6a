import Derived.Test.YtdepolalngehdaaY02a
namespace Go.Proofs.Ytdepolalngehdaa.Vx
open Go Go.RowKit
set_option linter.unusedVariables false
set_option linter.unusedSimpArgs false
set_option maxRecDepth 100000
set_option maxHeartbeats 1000000
/-! ### Bytes of numbers -/
def byt (n : Int) (k : Nat) : Int := IntKind.wrap .u8 (ishr .u64 n (8 * (k : Int)))
def bes (n : Int) : Nat → List Int
  | 0 => []
  | k + 1 => byt n k :: bes n k
theorem be_len (n : Int) : ∀ k, (bes n k).length = k
  | 0 => rfl
  | k + 1 => by rw [bes, List.length_cons, be_len n k]
theorem be_wb (n : Int) : ∀ k, Wb (bes n k)
  | 0 => fun b hb => by simp [bes] at hb
  | k + 1 => fun b hb => by
    rw [bes, List.mem_cons] at hb
    rcases hb with rfl | hb
    · unfold byt; rw [wu8]; omega
    · exact be_wb n k b hb
theorem lp30 (n : Int) : ∀ (k : Nat) (l : List Int) (f : Nat), k ≤ 8 → l.length + k ≤ 1000000 → k < f → iterS st_L30_3 f [.k 0, .n n, .n ((k : Int) - 1), .l TB l] = some (0, [.l TB (l ++ bes n k)])
  | _, _, 0, _, _, h => by omega
  | 0, l, f + 1, h, hl, hf => by
    have e : (st_L30_3 [.k 0, .n n, .n (((0 : Nat) : Int) - 1), .l TB l]).sel = some (.stop 0 [.l TB l]) := by
      refine fn_L30_3_t_im n _ l _ ?_
      unfold fn_L30_3_t
      exact sel_f (decide_eq_false (by omega)) rfl
    unfold iterS
    rw [e]
    show some (0, [Dat.l TB l]) = some (0, [Dat.l TB (l ++ bes n 0)])
    rw [bes, List.append_nil]
  | k + 1, l, f + 1, h, hl, hf => by
    have w8 : IntKind.wrap .i64 (8 * (((k + 1 : Nat) : Int) - 1)) = 8 * (k : Int) := by rw [w64d]; omega
    have w1 : IntKind.wrap .i64 ((((k + 1 : Nat) : Int) - 1) - 1) = (k : Int) - 1 := by rw [w64d]; omega
    have e : (st_L30_3 [.k 0, .n n, .n (((k + 1 : Nat) : Int) - 1), .l TB l]).sel = some (.go [.k 0, .n n, .n ((k : Int) - 1), .l TB (l ++ [byt n k])]) := by
      refine fn_L30_3_t_im n _ l _ ?_
      unfold fn_L30_3_t
      refine sel_t (decide_eq_true (by omega)) (sel_t (by rw [w8]; simp; omega) (sel_t (decide_eq_true (show (l.length + 1) * 1 ≤ 140737488355328 by omega)) ?_))
      show some (Step.go [.k 0, .n n, .n (IntKind.wrap .i64 ((((k + 1 : Nat) : Int) - 1) - 1)), .l TB (l ++ [IntKind.wrap .u8 (ishr .u64 n (IntKind.wrap .i64 (8 * (((k + 1 : Nat) : Int) - 1))))])]) = _
      rw [w8, w1]; rfl
    unfold iterS
    rw [e]
    have ih := lp30 n k (l ++ [byt n k]) f (by omega) (by rw [List.length_append]; simp; omega) (by omega)
    rw [List.append_assoc] at ih
    exact ih
theorem t30 (n : Int) (w : Nat) (h : w ≤ 8) : op_30 [.n n, .n (w : Int)] = some (0, [.l TB (bes n w)]) := by
  have w1 : IntKind.wrap .i64 ((w : Int) - 1) = (w : Int) - 1 := by rw [w64d]; omega
  have e : op_L30_3 [.k 0, .n n, .n (IntKind.wrap .i64 ((w : Int) - 1)), .l TB ([] : List Int)] = some (0, [.l TB (bes n w)]) := by
    rw [w1, op_L30_3_eq]
    exact lp30 n w [] FU h (by simp; omega) (by unfold FU; omega)
  rw [op_30_eq]
  refine fn_30_t_im n w _ ?_
  unfold fn_30_t
  exact sel_t (by erw [e]; rfl) (by erw [e]; rfl)
theorem lp35b (n : Int) (w : Nat) (hw : w ≤ 8) : ∀ (k : Nat) (l : List Int) (f : Nat), k ≤ w → l.length + k ≤ 1000000 → k < f → iterS st_L35b_1 f [.k 0, .n n, .n (w : Int), .n (w : Int), .n ((w : Int) - k), .l TB l] = some (0, [.l TB (l ++ bes n k)])
  | _, _, 0, _, _, h => by omega
  | 0, l, f + 1, h, hl, hf => by
    have e : (st_L35b_1 [.k 0, .n n, .n (w : Int), .n (w : Int), .n ((w : Int) - ((0 : Nat) : Int)), .l TB l]).sel = some (.stop 0 [.l TB l]) := by
      refine fn_L35b_1_o_im n _ _ _ l _ ?_
      unfold fn_L35b_1_o
      exact sel_f (decide_eq_false (by omega)) rfl
    unfold iterS
    rw [e]
    show some (0, [Dat.l TB l]) = some (0, [Dat.l TB (l ++ bes n 0)])
    rw [bes, List.append_nil]
  | k + 1, l, f + 1, h, hl, hf => by
    have w8 : IntKind.wrap .i64 (8 * IntKind.wrap .i64 (IntKind.wrap .i64 ((w : Int) - 1) - ((w : Int) - ((k + 1 : Nat) : Int)))) = 8 * (k : Int) := by simp only [w64d]; omega
    have w1 : IntKind.wrap .i64 ((w : Int) - ((k + 1 : Nat) : Int) + 1) = (w : Int) - (k : Int) := by rw [w64d]; omega
    have e : (st_L35b_1 [.k 0, .n n, .n (w : Int), .n (w : Int), .n ((w : Int) - ((k + 1 : Nat) : Int)), .l TB l]).sel = some (.go [.k 0, .n n, .n (w : Int), .n (w : Int), .n ((w : Int) - (k : Int)), .l TB (l ++ [byt n k])]) := by
      refine fn_L35b_1_o_im n _ _ _ l _ ?_
      unfold fn_L35b_1_o
      refine sel_t (decide_eq_true (by omega)) (sel_t (by rw [w8]; simp; omega) (sel_t (decide_eq_true (show (l.length + 1) * 1 ≤ 140737488355328 by omega)) ?_))
      show some (Step.go [.k 0, .n n, .n (w : Int), .n (w : Int), .n (IntKind.wrap .i64 ((w : Int) - ((k + 1 : Nat) : Int) + 1)), .l TB (l ++ [IntKind.wrap .u8 (ishr .u64 n (IntKind.wrap .i64 (8 * IntKind.wrap .i64 (IntKind.wrap .i64 ((w : Int) - 1) - ((w : Int) - ((k + 1 : Nat) : Int))))))])]) = _
      rw [w8, w1]; rfl
    unfold iterS
    rw [e]
    have ih := lp35b n w hw k (l ++ [byt n k]) f (by omega) (by rw [List.length_append]; simp; omega) (by omega)
    rw [List.append_assoc] at ih
    exact ih
theorem lp35a (n : Int) (w : Nat) (hw : w ≤ 8) : ∀ (k : Nat) (l : List Int) (f : Nat), k ≤ w → l.length + k ≤ 1000000 → k < f → iterS st_L35a_1 f [.k 1, .n n, .n (w : Int), .n (w : Int), .n ((w : Int) - k), .l TB l] = some (1, [.l TB (l ++ bes n k)])
  | _, _, 0, _, _, h => by omega
  | 0, l, f + 1, h, hl, hf => by
    have e : (st_L35a_1 [.k 1, .n n, .n (w : Int), .n (w : Int), .n ((w : Int) - ((0 : Nat) : Int)), .l TB l]).sel = some (.stop 1 [.l TB l]) := by
      refine fn_L35a_1_o_im n _ _ _ l _ ?_
      unfold fn_L35a_1_o
      exact sel_f (decide_eq_false (by omega)) rfl
    unfold iterS
    rw [e]
    show some (1, [Dat.l TB l]) = some (1, [Dat.l TB (l ++ bes n 0)])
    rw [bes, List.append_nil]
  | k + 1, l, f + 1, h, hl, hf => by
    have w8 : IntKind.wrap .i64 (8 * IntKind.wrap .i64 (IntKind.wrap .i64 ((w : Int) - 1) - ((w : Int) - ((k + 1 : Nat) : Int)))) = 8 * (k : Int) := by simp only [w64d]; omega
    have w1 : IntKind.wrap .i64 ((w : Int) - ((k + 1 : Nat) : Int) + 1) = (w : Int) - (k : Int) := by rw [w64d]; omega
    have e : (st_L35a_1 [.k 1, .n n, .n (w : Int), .n (w : Int), .n ((w : Int) - ((k + 1 : Nat) : Int)), .l TB l]).sel = some (.go [.k 1, .n n, .n (w : Int), .n (w : Int), .n ((w : Int) - (k : Int)), .l TB (l ++ [byt n k])]) := by
      refine fn_L35a_1_o_im n _ _ _ l _ ?_
      unfold fn_L35a_1_o
      refine sel_t (decide_eq_true (by omega)) (sel_t (by rw [w8]; simp; omega) (sel_t (decide_eq_true (show (l.length + 1) * 1 ≤ 140737488355328 by omega)) ?_))
      show some (Step.go [.k 1, .n n, .n (w : Int), .n (w : Int), .n (IntKind.wrap .i64 ((w : Int) - ((k + 1 : Nat) : Int) + 1)), .l TB (l ++ [IntKind.wrap .u8 (ishr .u64 n (IntKind.wrap .i64 (8 * IntKind.wrap .i64 (IntKind.wrap .i64 ((w : Int) - 1) - ((w : Int) - ((k + 1 : Nat) : Int))))))])]) = _
      rw [w8, w1]; rfl
    unfold iterS
    rw [e]
    have ih := lp35a n w hw k (l ++ [byt n k]) f (by omega) (by rw [List.length_append]; simp; omega) (by omega)
    rw [List.append_assoc] at ih
    exact ih
theorem t35b (n : Int) (w : Nat) (h : w ≤ 8) (l : List Int) (hl : l.length ≤ 999000) : op_35b [.n n, .n (w : Int), .l TB l] = some (0, [.l TB (l ++ bes n w)]) := by
  have e : op_L35b_1 [.k 0, .n n, .n (w : Int), .n (w : Int), .n 0, .l TB l] = some (0, [.l TB (l ++ bes n w)]) := by
    rw [op_L35b_1_eq]
    have := lp35b n w h w l FU (Nat.le_refl _) (by omega) (by unfold FU; omega)
    rw [show (w : Int) - (w : Int) = 0 by omega] at this
    exact this
  rw [op_35b_eq]
  refine fn_35b_t_im n w l _ ?_
  unfold fn_35b_t
  exact sel_t (by erw [e]; rfl) (by erw [e]; rfl)
theorem t35a (n : Int) (w : Nat) (h : w ≤ 8) (h1 : 1 ≤ w) : op_35a [.n n, .n (w : Int)] = some (1, [.l TB (bes n w)]) := by
  obtain ⟨k, rfl⟩ : ∃ k, w = k + 1 := ⟨w - 1, by omega⟩
  have e : op_L35a_1 [.k 0, .n n, .n ((k + 1 : Nat) : Int), .n ((k + 1 : Nat) : Int), .n 0] = some (1, [.l TB (bes n (k + 1))]) := by
    have w8 : IntKind.wrap .i64 (8 * IntKind.wrap .i64 (IntKind.wrap .i64 (((k + 1 : Nat) : Int) - 1) - 0)) = 8 * (k : Int) := by simp only [w64d]; omega
    have w1 : IntKind.wrap .i64 ((0 : Int) + 1) = ((k + 1 : Nat) : Int) - (k : Int) := by rw [w64d]; omega
    have e : (st_L35a_1 [.k 0, .n n, .n ((k + 1 : Nat) : Int), .n ((k + 1 : Nat) : Int), .n 0]).sel = some (.go [.k 1, .n n, .n ((k + 1 : Nat) : Int), .n ((k + 1 : Nat) : Int), .n (((k + 1 : Nat) : Int) - (k : Int)), .l TB [byt n k]]) := by
      refine fn_L35a_1_n_im n _ _ _ _ ?_
      unfold fn_L35a_1_n
      refine sel_t (decide_eq_true (by omega)) (sel_t (by rw [w8]; simp; omega) ?_)
      show some (Step.go [.k 1, .n n, .n ((k + 1 : Nat) : Int), .n ((k + 1 : Nat) : Int), .n (IntKind.wrap .i64 ((0 : Int) + 1)), .l TB [IntKind.wrap .u8 (ishr .u64 n (IntKind.wrap .i64 (8 * IntKind.wrap .i64 (IntKind.wrap .i64 (((k + 1 : Nat) : Int) - 1) - 0))))]]) = _
      rw [w8, w1]; rfl
    rw [op_L35a_1_eq, show FU = 18446744073709551615 + 1 from rfl]
    unfold iterS
    rw [e]
    exact lp35a n (k + 1) h k [byt n k] 18446744073709551615 (by omega) (by simp; omega) (by omega)
  rw [op_35a_eq]
  refine fn_35a_t_im n _ _ ?_
  unfold fn_35a_t
  exact sel_f (by erw [e]; rfl) (sel_t (by erw [e]; rfl) (by erw [e]; rfl))
theorem lp16 (s : ByteArray) (r : List Int) (b : Bool) : ∀ (k : Nat) (i : Int) (x : List Int) (f : Nat), 0 ≤ i → i + k = x.length → x.length ≤ 1000000 → k < f → iterS st_L16_13 f [.k 0, .s s, .n i, .l TB r, .b b, .l TB x] = some (0, [.s s, .l TB r, .b b])
  | _, _, _, 0, _, _, _, h => by omega
  | 0, i, x, f + 1, h0, hi, hx, hf => by
    have e : (st_L16_13 [.k 0, .s s, .n i, .l TB r, .b b, .l TB x]).sel = some (.stop 0 [.s s, .l TB r, .b b]) := by
      refine fn_L16_13_t_im s i r b x _ ?_
      unfold fn_L16_13_t
      exact sel_f (decide_eq_false (show ¬ i < (x.length : Int) by omega)) rfl
    unfold iterS
    rw [e]
  | k + 1, i, x, f + 1, h0, hi, hx, hf => by
    have w := w64s (x := i + 1) (by omega) (by omega)
    have hl : (x.set i.toNat (IntKind.wrap .u8 (x.getD i.toNat 0 + 1))).length = x.length := List.length_set
    have e : (st_L16_13 [.k 0, .s s, .n i, .l TB r, .b b, .l TB x]).sel = some (.go [.k 0, .s s, .n (i + 1), .l TB r, .b b, .l TB (x.set i.toNat (IntKind.wrap .u8 (x.getD i.toNat 0 + 1)))]) := by
      refine fn_L16_13_t_im s i r b x _ ?_
      unfold fn_L16_13_t
      refine sel_t (decide_eq_true (show i < (x.length : Int) by omega)) (sel_t (inR_true h0 (show i < (x.length : Int) by omega)) ?_)
      exact congrArg (fun z => some (Step.go [.k 0, .s s, .n z, .l TB r, .b b, .l TB (x.set i.toNat (IntKind.wrap .u8 (x.getD i.toNat 0 + 1)))])) w
    unfold iterS
    rw [e]
    exact lp16 s r b k (i + 1) _ f (by omega) (by rw [hl]; omega) (by rw [hl]; exact hx) (by omega)
theorem q16 (s : ByteArray) (r : List Int) (b : Bool) (x : List Int) (hx : x.length ≤ 1000000) : op_L16_13 [.k 0, .s s, .n 0, .l TB r, .b b, .l TB x] = some (0, [.s s, .l TB r, .b b]) := by
  rw [op_L16_13_eq]
  exact lp16 s r b x.length 0 x FU (by omega) (by omega) hx (by unfold FU; omega)
theorem wr64 {x : Int} (h0 : 0 ≤ x) (h1 : x < 18446744073709551616) : IntKind.wrap .u64 x = x := by rw [wu64]; omega
abbrev s0 : ByteArray := { data := { toList := [] } }
theorem t16_0ok {K N : Int} {B l : List Int} (hk : Int.tmod K 5 = 0) (hw : Wb l) (h1 : 1 ≤ l.length) : op_16 [.n K, .n N, .l TB B, .l TB l, .b false] = some (0, [.n (nm (l.take 1)), .s s0, .l TB (l.drop 1), .b false]) := by
  have e1 := t34_1ok hw h1
  have hb := nm_bd (hw.take 1)
  have hx : (l.take 1).length = 1 := by rw [List.length_take]; omega
  rw [hx] at hb
  have wr : IntKind.wrap .u64 (nm (l.take 1)) = nm (l.take 1) := by
    have : (256 : Int) ^ 1 ≤ 18446744073709551616 := by decide
    exact wr64 hb.1 (by omega)
  rw [op_16_eq]
  refine fn_16_t_im K N B l false _ ?_
  unfold fn_16_t
  exact sel_t (by rw [hk]; rfl) (sel_t (by erw [e1]; rfl) (by erw [e1]; exact congrArg (fun z => some (0, [Dat.n z, .s s0, .l TB (l.drop 1), .b false])) wr))
theorem t16_0no {K N : Int} {B l : List Int} {b : Bool} (hk : Int.tmod K 5 = 0) (h : b = true ∨ l.length < 1) : op_16 [.n K, .n N, .l TB B, .l TB l, .b b] = some (0, [.n 0, .s s0, .l TB ([] : List Int), .b true]) := by
  have e1 := t34_1no h
  rw [op_16_eq]
  refine fn_16_t_im K N B l b _ ?_
  unfold fn_16_t
  exact sel_t (by rw [hk]; rfl) (sel_t (by erw [e1]; rfl) (by erw [e1]; rfl))
theorem t16_1ok {K N : Int} {B l : List Int} (hk : Int.tmod K 5 = 1) (hw : Wb l) (h1 : 2 ≤ l.length) : op_16 [.n K, .n N, .l TB B, .l TB l, .b false] = some (0, [.n (nm (l.take 2)), .s s0, .l TB (l.drop 2), .b false]) := by
  have e1 := t34_2ok hw h1
  have hb := nm_bd (hw.take 2)
  have hx : (l.take 2).length = 2 := by rw [List.length_take]; omega
  rw [hx] at hb
  have wr : IntKind.wrap .u64 (nm (l.take 2)) = nm (l.take 2) := by
    have : (256 : Int) ^ 2 ≤ 18446744073709551616 := by decide
    exact wr64 hb.1 (by omega)
  rw [op_16_eq]
  refine fn_16_t_im K N B l false _ ?_
  unfold fn_16_t
  exact sel_f (by rw [hk]; rfl) (sel_t (by rw [hk]; rfl) (sel_f (by erw [e1]; rfl) (sel_t (by erw [e1]; rfl) (by erw [e1]; exact congrArg (fun z => some (0, [Dat.n z, .s s0, .l TB (l.drop 2), .b false])) wr))))
theorem t16_1no {K N : Int} {B l : List Int} {b : Bool} (hk : Int.tmod K 5 = 1) (h : b = true ∨ l.length < 2) : op_16 [.n K, .n N, .l TB B, .l TB l, .b b] = some (0, [.n 0, .s s0, .l TB ([] : List Int), .b true]) := by
  have e1 := t34_2no h
  rw [op_16_eq]
  refine fn_16_t_im K N B l b _ ?_
  unfold fn_16_t
  exact sel_f (by rw [hk]; rfl) (sel_t (by rw [hk]; rfl) (sel_f (by erw [e1]; rfl) (sel_t (by erw [e1]; rfl) (by erw [e1]; rfl))))
theorem t16_2ok {K N : Int} {B l : List Int} (hk : Int.tmod K 5 = 2) (hw : Wb l) (h1 : 4 ≤ l.length) : op_16 [.n K, .n N, .l TB B, .l TB l, .b false] = some (0, [.n (nm (l.take 4)), .s s0, .l TB (l.drop 4), .b false]) := by
  have e1 := t34_4ok hw h1
  have hb := nm_bd (hw.take 4)
  have hx : (l.take 4).length = 4 := by rw [List.length_take]; omega
  rw [hx] at hb
  have wr : IntKind.wrap .u64 (nm (l.take 4)) = nm (l.take 4) := by
    have : (256 : Int) ^ 4 ≤ 18446744073709551616 := by decide
    exact wr64 hb.1 (by omega)
  rw [op_16_eq]
  refine fn_16_t_im K N B l false _ ?_
  unfold fn_16_t
  exact sel_f (by rw [hk]; rfl) (sel_f (by rw [hk]; rfl) (sel_t (by rw [hk]; rfl) (sel_f (by erw [e1]; rfl) (sel_f (by erw [e1]; rfl) (sel_t (by erw [e1]; rfl) (by erw [e1]; exact congrArg (fun z => some (0, [Dat.n z, .s s0, .l TB (l.drop 4), .b false])) wr))))))
theorem t16_2no {K N : Int} {B l : List Int} {b : Bool} (hk : Int.tmod K 5 = 2) (h : b = true ∨ l.length < 4) : op_16 [.n K, .n N, .l TB B, .l TB l, .b b] = some (0, [.n 0, .s s0, .l TB ([] : List Int), .b true]) := by
  have e1 := t34_4no h
  rw [op_16_eq]
  refine fn_16_t_im K N B l b _ ?_
  unfold fn_16_t
  exact sel_f (by rw [hk]; rfl) (sel_f (by rw [hk]; rfl) (sel_t (by rw [hk]; rfl) (sel_f (by erw [e1]; rfl) (sel_f (by erw [e1]; rfl) (sel_t (by erw [e1]; rfl) (by erw [e1]; rfl))))))
theorem t16_3ok {K N : Int} {B l : List Int} (hk : Int.tmod K 5 = 3) (hw : Wb l) (h1 : 8 ≤ l.length) : op_16 [.n K, .n N, .l TB B, .l TB l, .b false] = some (0, [.n (nm (l.take 8)), .s s0, .l TB (l.drop 8), .b false]) := by
  have e1 := t34_8ok hw h1
  have hb := nm_bd (hw.take 8)
  have hx : (l.take 8).length = 8 := by rw [List.length_take]; omega
  rw [hx] at hb
  have wr : IntKind.wrap .u64 (nm (l.take 8)) = nm (l.take 8) := by
    have : (256 : Int) ^ 8 ≤ 18446744073709551616 := by decide
    exact wr64 hb.1 (by omega)
  rw [op_16_eq]
  refine fn_16_t_im K N B l false _ ?_
  unfold fn_16_t
  exact sel_f (by rw [hk]; rfl) (sel_f (by rw [hk]; rfl) (sel_f (by rw [hk]; rfl) (sel_t (by rw [hk]; rfl) (sel_f (by erw [e1]; rfl) (sel_f (by erw [e1]; rfl) (sel_f (by erw [e1]; rfl) (sel_t (by erw [e1]; rfl) (by erw [e1]; rfl))))))))
theorem t16_3no {K N : Int} {B l : List Int} {b : Bool} (hk : Int.tmod K 5 = 3) (h : b = true ∨ l.length < 8) : op_16 [.n K, .n N, .l TB B, .l TB l, .b b] = some (0, [.n 0, .s s0, .l TB ([] : List Int), .b true]) := by
  have e1 := t34_8no h
  rw [op_16_eq]
  refine fn_16_t_im K N B l b _ ?_
  unfold fn_16_t
  exact sel_f (by rw [hk]; rfl) (sel_f (by rw [hk]; rfl) (sel_f (by rw [hk]; rfl) (sel_t (by rw [hk]; rfl) (sel_f (by erw [e1]; rfl) (sel_f (by erw [e1]; rfl) (sel_f (by erw [e1]; rfl) (sel_t (by erw [e1]; rfl) (by erw [e1]; rfl))))))))
theorem t16_4ok {K N : Int} {B l : List Int} (hk : Int.tmod K 5 = 4) (hl : l.length ≤ 1000000) (h0 : 0 ≤ IntKind.wrap .i64 N) (h1 : IntKind.wrap .i64 N ≤ (l.length : Int)) : op_16 [.n K, .n N, .l TB B, .l TB l, .b false] = some (0, [.n 0, .s (strOf (l.take (IntKind.wrap .i64 N).toNat)), .l TB (l.drop (IntKind.wrap .i64 N).toNat), .b false]) := by
  have e1 := t33ok h0 h1
  have hx : (l.take (IntKind.wrap .i64 N).toNat).length ≤ l.length := by rw [List.length_take]; omega
  have e2 := t31 (l := l.take (IntKind.wrap .i64 N).toNat) (by omega)
  have e3 := q16 (strOf (l.take (IntKind.wrap .i64 N).toNat)) (l.drop (IntKind.wrap .i64 N).toNat) false (l.take (IntKind.wrap .i64 N).toNat) (by omega)
  rw [op_16_eq]
  refine fn_16_t_im K N B l false _ ?_
  unfold fn_16_t
  exact sel_f (by rw [hk]; rfl) (sel_f (by rw [hk]; rfl) (sel_f (by rw [hk]; rfl) (sel_f (by rw [hk]; rfl) (sel_t (by erw [e1]; rfl) (sel_t (by erw [e1]; erw [e2]; rfl) (sel_t (by erw [e1]; erw [e2]; erw [e3]; rfl) (by erw [e1]; erw [e2]; erw [e3]; rfl)))))))
theorem t16_4no {K N : Int} {B l : List Int} {b : Bool} (hk : Int.tmod K 5 = 4) (h : b = true ∨ IntKind.wrap .i64 N < 0 ∨ (l.length : Int) < IntKind.wrap .i64 N) : op_16 [.n K, .n N, .l TB B, .l TB l, .b b] = some (0, [.n 0, .s (strOf ([] : List Int)), .l TB ([] : List Int), .b true]) := by
  have e1 := t33no h
  have e3 := q16 (strOf ([] : List Int)) [] true [] (by simp)
  rw [op_16_eq]
  refine fn_16_t_im K N B l b _ ?_
  unfold fn_16_t
  exact sel_f (by rw [hk]; rfl) (sel_f (by rw [hk]; rfl) (sel_f (by rw [hk]; rfl) (sel_f (by rw [hk]; rfl) (sel_f (by erw [e1]; rfl) (sel_t (by erw [e1]; rfl) (sel_t (by erw [e1]; erw [e3]; rfl) (by erw [e1]; erw [e3]; rfl)))))))
end Go.Proofs.Ytdepolalngehdaa.Vx
