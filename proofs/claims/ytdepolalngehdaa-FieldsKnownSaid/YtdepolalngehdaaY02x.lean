import Derived.Test.YtdepolalngehdaaX02
import Derived.Test.YtdepolalngehdaaVxBits
import Derived.Test.YtdepolalngehdaaVxLoop
namespace Go.Proofs.Ytdepolalngehdaa.Vx
open Go Go.RowKit
set_option linter.unusedVariables false
set_option linter.unusedSimpArgs false
set_option maxRecDepth 100000
set_option maxHeartbeats 1000000
/-! ### Numbers as bytes -/
def nm (l : List Int) : Int := l.foldl (fun a b => a * 256 + b) 0
def Wb (l : List Int) : Prop := ∀ b ∈ l, 0 ≤ b ∧ b < 256
theorem nm_snoc (l : List Int) (b : Int) : nm (l ++ [b]) = nm l * 256 + b := by simp [nm]
theorem fold_bd : ∀ (l : List Int) (a m : Int), Wb l → 0 ≤ a → a < m → 0 ≤ l.foldl (fun a b => a * 256 + b) a ∧ l.foldl (fun a b => a * 256 + b) a < m * 256 ^ l.length
  | [], a, m, _, h0, h1 => by simp; exact ⟨h0, h1⟩
  | b :: l, a, m, hw, h0, h1 => by
    have hb := hw b (by simp)
    have := fold_bd l (a * 256 + b) (m * 256) (fun x hx => hw x (by simp [hx])) (by omega) (by omega)
    simp only [List.foldl_cons, List.length_cons, Int.pow_succ]
    rw [Int.mul_comm (256 ^ l.length) 256, ← Int.mul_assoc]
    exact this
theorem nm_bd {l : List Int} (h : Wb l) : 0 ≤ nm l ∧ nm l < 256 ^ l.length := by
  have := fold_bd l 0 1 h (by omega) (by omega)
  rw [Int.one_mul] at this
  exact this
theorem Wb.take {l : List Int} (h : Wb l) (n : Nat) : Wb (l.take n) := fun b hb => h b (List.mem_of_mem_take hb)
theorem Wb.drop {l : List Int} (h : Wb l) (n : Nat) : Wb (l.drop n) := fun b hb => h b (List.mem_of_mem_drop hb)
theorem pow_le {n : Nat} (h : n ≤ 7) : (256 : Int) ^ n ≤ 72057594037927936 := by
  have : n = 0 ∨ n = 1 ∨ n = 2 ∨ n = 3 ∨ n = 4 ∨ n = 5 ∨ n = 6 ∨ n = 7 := by omega
  rcases this with rfl | rfl | rfl | rfl | rfl | rfl | rfl | rfl <;> decide
theorem wu64 (x : Int) : IntKind.wrap .u64 x = x % 18446744073709551616 := by unfold IntKind.wrap; simp [IntKind.bits, IntKind.signed]
theorem wu8 (x : Int) : IntKind.wrap .u8 x = x % 256 := by unfold IntKind.wrap; simp [IntKind.bits, IntKind.signed]
theorem wu16 (x : Int) : IntKind.wrap .u16 x = x % 65536 := by unfold IntKind.wrap; simp [IntKind.bits, IntKind.signed]
theorem wu32 (x : Int) : IntKind.wrap .u32 x = x % 4294967296 := by unfold IntKind.wrap; simp [IntKind.bits, IntKind.signed]
theorem st8 {a b : Int} (h0 : 0 ≤ a) (h1 : a < 72057594037927936) (b0 : 0 ≤ b) (b1 : b < 256) : ior .u64 (ishl .u64 a 8) (IntKind.wrap .u64 b) = a * 256 + b := by
  have e1 : ishl .u64 a 8 = a * 256 := by
    have : ishl .u64 a 8 = IntKind.wrap .u64 (a * 2 ^ 8) := rfl
    rw [this, wu64]
    have : (2 : Int) ^ 8 = 256 := by decide
    rw [this]; omega
  have e2 : IntKind.wrap .u64 b = b := by rw [wu64]; omega
  rw [e1, e2]
  obtain ⟨x, rfl⟩ : ∃ x : Nat, a = x := ⟨a.toNat, by omega⟩
  obtain ⟨y, rfl⟩ : ∃ y : Nat, b = y := ⟨b.toNat, by omega⟩
  have e3 : ior .u64 ((x : Int) * 256) (y : Int) = IntKind.wrap .u64 ((BitVec.ofInt 64 ((x : Int) * 256) ||| BitVec.ofInt 64 (y : Int)).toNat : Int) := rfl
  rw [e3]
  have e4 : (x : Int) * 256 = ((x * 256 : Nat) : Int) := by omega
  rw [e4, BitVec.ofInt_natCast, BitVec.ofInt_natCast, BitVec.toNat_or, BitVec.toNat_ofNat, BitVec.toNat_ofNat, Nat.mod_eq_of_lt (by omega), Nat.mod_eq_of_lt (by omega)]
  have e5 : x * 256 ||| y = x * 256 + y := by
    have := Nat.shiftLeft_add_eq_or_of_lt (i := 8) (b := y) (by omega) x
    rw [Nat.shiftLeft_eq] at this
    exact this.symm
  rw [e5, wu64]; omega
theorem take_getD {l : List Int} {n : Nat} (h : n < l.length) : l.take (n + 1) = l.take n ++ [l.getD n 0] := by
  rw [List.take_add_one, List.getElem?_eq_getElem h]
  simp [List.getD_eq_getElem?_getD, List.getElem?_eq_getElem h]
theorem nm_step {l : List Int} (hw : Wb l) (hl : l.length ≤ 8) {n : Nat} (h : n < l.length) : ior .u64 (ishl .u64 (nm (l.take n)) 8) (IntKind.wrap .u64 (l.getD n 0)) = nm (l.take (n + 1)) := by
  have hb := nm_bd (hw.take n)
  have hle : (l.take n).length ≤ 7 := by rw [List.length_take]; omega
  have := pow_le hle
  have hx := hw (l.getD n 0) (by rw [List.getD_eq_getElem?_getD, List.getElem?_eq_getElem h]; simp)
  rw [take_getD h, nm_snoc]
  exact st8 hb.1 (by omega) hx.1 hx.2
theorem step2 {l : List Int} (hw : Wb l) (hl : l.length ≤ 8) {n : Int} (h0 : 0 ≤ n) (h1 : n < (l.length : Int)) : ior .u64 (ishl .u64 (nm (l.take n.toNat)) 8) (IntKind.wrap .u64 (l.getD n.toNat 0)) = nm (l.take (n + 1).toNat) := by
  have e : (n + 1).toNat = n.toNat + 1 := by omega
  rw [e]; exact nm_step hw hl (by omega)
theorem lp17 {l : List Int} (hl : l.length ≤ 8) (hw : Wb l) : op_L17_3 [.k 0, .l TB l, .n 0, .n 0] = some (0, [.n (nm l)]) := by
  rw [op_L17_3_eq]
  refine iterS_count (fun i => [.k 0, .l TB l, .n (nm (l.take i.toNat)), .n i]) (l.length : Int) (0, [.n (nm l)]) (fun n h0 h1 => ?_) ?_ FU 0 (by omega) (by omega) (by show ((l.length : Int) - 0).toNat < FU; unfold FU; omega)
  · have w := w64s (x := n + 1) (by omega) (by omega)
    refine fn_L17_3_t_im l (nm (l.take n.toNat)) n _ ?_
    unfold fn_L17_3_t
    refine sel_t (decide_eq_true (show n < (l.length : Int) from h1)) (sel_t (inR_true h0 h1) ?_)
    show some (Step.go [.k 0, .l TB l, .n (ior .u64 (ishl .u64 (nm (l.take n.toNat)) 8) (IntKind.wrap .u64 (l.getD n.toNat 0))), .n (IntKind.wrap .i64 (n + 1))]) = _
    rw [step2 hw hl h0 h1, w]
  · refine fn_L17_3_t_im l _ _ _ ?_
    unfold fn_L17_3_t
    refine sel_f (decide_eq_false (show ¬ ((l.length : Int) < (l.length : Int)) by omega)) ?_
    show some (Step.stop 0 [.n (nm (l.take (l.length : Int).toNat))]) = some (Step.stop 0 [.n (nm l)])
    rw [show (l.length : Int).toNat = l.length by omega, List.take_length]
theorem t17 {l : List Int} (hl : l.length ≤ 8) (hw : Wb l) : op_17 [.l TB l] = some (0, [.n (nm l)]) := by
  rw [op_17_eq]
  refine fn_17_t_im l _ ?_
  unfold fn_17_t
  have e := lp17 hl hw
  exact sel_t (by erw [e]; rfl) (by erw [e]; rfl)
theorem lp34 {l : List Int} (hl : l.length ≤ 8) (hw : Wb l) (n : Int) (r : List Int) (b : Bool) : op_L34_3 [.k 0, .n n, .n 0, .l TB l, .n (l.length : Int), .n 0, .l TB r, .b b] = some (0, [.n n, .n (nm l), .l TB r, .b b]) := by
  rw [op_L34_3_eq]
  refine iterS_count (fun i => [.k 0, .n n, .n (nm (l.take i.toNat)), .l TB l, .n (l.length : Int), .n i, .l TB r, .b b]) (l.length : Int) (0, [.n n, .n (nm l), .l TB r, .b b]) (fun i h0 h1 => ?_) ?_ FU 0 (by omega) (by omega) (by show ((l.length : Int) - 0).toNat < FU; unfold FU; omega)
  · have w := w64s (x := i + 1) (by omega) (by omega)
    refine fn_L34_3_i_im n (nm (l.take i.toNat)) l (l.length : Int) i r b _ ?_
    unfold fn_L34_3_i
    refine sel_t (decide_eq_true (show i < (l.length : Int) from h1)) (sel_t (inR_true h0 h1) ?_)
    show some (Step.go [.k 0, .n n, .n (ior .u64 (ishl .u64 (nm (l.take i.toNat)) 8) (IntKind.wrap .u64 (l.getD i.toNat 0))), .l TB l, .n (l.length : Int), .n (IntKind.wrap .i64 (i + 1)), .l TB r, .b b]) = _
    rw [step2 hw hl h0 h1, w]
  · refine fn_L34_3_i_im n _ l (l.length : Int) _ r b _ ?_
    unfold fn_L34_3_i
    refine sel_f (decide_eq_false (show ¬ ((l.length : Int) < (l.length : Int)) by omega)) ?_
    show some (Step.stop 0 [Dat.n n, Dat.n (nm (l.take (l.length : Int).toNat)), Dat.l TB r, Dat.b b]) = some (Step.stop 0 [Dat.n n, Dat.n (nm l), Dat.l TB r, Dat.b b])
    rw [show (l.length : Int).toNat = l.length by omega, List.take_length]
theorem lp34n (n : Int) (r : List Int) (b : Bool) : op_L34_3 [.k 1, .n n, .n 0, .n 0, .n 0, .l TB r, .b b] = some (0, [.n n, .n 0, .l TB r, .b b]) := by
  rw [op_L34_3_eq, show FU = 18446744073709551615 + 1 from rfl]
  unfold iterS
  rw [fn_L34_3_n_im n 0 0 0 r b rfl rfl _ rfl]
/-! ### The boxes -/
theorem t31g (l : List (Ty.den TB)) (h : okc_31 l = true) : op_31 [.l TB l] = some (0, [.l TB l]) := by
  show (match castL TB TB l with | some l => bif okc_31 l then some (0, [Dat.l TB l]) else none | none => none) = _
  rw [castL_self]
  show (bif okc_31 l then some (0, [Dat.l TB l]) else none) = _
  rw [h]; rfl
theorem t31 {l : List Int} (h : l.length ≤ 140737488355328) : op_31 [.l TB l] = some (0, [.l TB l]) :=
  t31g l (by unfold okc_31; exact decide_eq_true (show (0 + l.length) * 1 ≤ 140737488355328 by omega))
theorem t13 {l : List Int} (h : l.length ≤ 140737488355328) : op_13 [.l TB l] = some (0, [.l TB l, .b false]) := by
  rw [op_13_eq]
  refine fn_13_t_im l _ ?_
  unfold fn_13_t
  have e := t31 h
  exact sel_t (by erw [e]; rfl) (by erw [e]; rfl)
theorem t33ok {n : Int} {l : List Int} (h0 : 0 ≤ n) (h1 : n ≤ (l.length : Int)) : op_33 [.n n, .l TB l, .b false] = some (0, [.l TB (l.take n.toNat), .l TB (l.drop n.toNat), .b false]) := by
  rw [op_33_eq]
  refine fn_33_t_im n l false _ ?_
  unfold fn_33_t
  exact sel_f rfl (sel_f (decide_eq_false (by omega)) (sel_f (decide_eq_false (show ¬ (n > (l.length : Int)) by omega)) (sel_t (by simp; omega) rfl)))
theorem t33no {n : Int} {l : List Int} {b : Bool} (h : b = true ∨ n < 0 ∨ (l.length : Int) < n) : op_33 [.n n, .l TB l, .b b] = some (1, [.l TB ([] : List Int), .b true]) := by
  rw [op_33_eq]
  refine fn_33_t_im n l b _ ?_
  unfold fn_33_t
  cases b with
  | true => exact sel_t rfl rfl
  | false =>
    refine sel_f rfl ?_
    by_cases h1 : n < 0
    · exact sel_t (decide_eq_true h1) rfl
    · refine sel_f (decide_eq_false h1) (sel_t (decide_eq_true (show n > (l.length : Int) from ?_)) rfl)
      rcases h with h | h | h
      · cases h
      · omega
      · exact h
theorem t15ok {n : Int} {l : List Int} (h0 : 0 ≤ n) (h1 : n ≤ (l.length : Int)) : op_15 [.n n, .l TB l, .b false] = some (0, [.l TB (l.take n.toNat), .b true, .l TB (l.drop n.toNat), .b false]) := by
  rw [op_15_eq]
  refine fn_15_t_im n l false _ ?_
  unfold fn_15_t
  exact sel_f rfl (sel_f (decide_eq_false (by omega)) (sel_f (decide_eq_false (show ¬ (n > (l.length : Int)) by omega)) (sel_t (by simp; omega) rfl)))
theorem t15no {n : Int} {l : List Int} {b : Bool} (h : b = true ∨ n < 0 ∨ (l.length : Int) < n) : op_15 [.n n, .l TB l, .b b] = some (1, [.b false, .l TB ([] : List Int), .b true]) := by
  rw [op_15_eq]
  refine fn_15_t_im n l b _ ?_
  unfold fn_15_t
  cases b with
  | true => exact sel_t rfl rfl
  | false =>
    refine sel_f rfl ?_
    by_cases h1 : n < 0
    · exact sel_t (decide_eq_true h1) rfl
    · refine sel_f (decide_eq_false h1) (sel_t (decide_eq_true (show n > (l.length : Int) from ?_)) rfl)
      rcases h with h | h | h
      · cases h
      · omega
      · exact h
theorem t34_1ok {l : List Int} (hw : Wb l) (h1 : 1 ≤ l.length) : op_34 [.n 1, .l TB l, .b false] = some (0, [.n (nm (l.take 1)), .l TB (l.drop 1), .b false]) := by
  have e1 : op_33 [.n (1 : Int), .l TB l, .b false] = some (0, [.l TB (l.take 1), .l TB (l.drop 1), .b false]) := t33ok (n := 1) (by omega) (by omega)
  have hx : (l.take 1).length = 1 := by rw [List.length_take]; omega
  have e2 := lp34 (l := l.take 1) (by omega) (hw.take 1) 1 (l.drop 1) false
  have hb := nm_bd (hw.take 1)
  rw [hx] at hb
  have wr : IntKind.wrap .u8 (nm (l.take 1)) = nm (l.take 1) := by
    have : (256 : Int) ^ 1 = 256 := by decide
    rw [wu8]; omega
  rw [op_34_eq]
  refine fn_34_t_im 1 l false _ ?_
  unfold fn_34_t
  refine sel_t (by erw [e1]; rfl) (sel_t (by erw [e1]; erw [e2]; rfl) ?_)
  have e3 : op_L34_3 [.k 0, .n (1 : Int), .n 0, .l TB (gl TB (dOf (op_33 [.n (1 : Int), .l TB l, .b false])) 0), .n (List.length (gl TB (dOf (op_33 [.n (1 : Int), .l TB l, .b false])) 0) : Int), .n 0, .l TB (gl TB (dOf (op_33 [.n (1 : Int), .l TB l, .b false])) 1), .b (gb (dOf (op_33 [.n (1 : Int), .l TB l, .b false])) 2)] = some (0, [.n 1, .n (nm (l.take 1)), .l TB (l.drop 1), .b false]) := by
    rw [e1]; exact e2
  clear e2
  have e2 := e3
  exact sel_t (by erw [e2]; rfl) (by erw [e2]; exact congrArg (fun z => some (0, [Dat.n z, .l TB (l.drop 1), .b false])) wr)
theorem t34_1no {l : List Int} {b : Bool} (h : b = true ∨ l.length < 1) : op_34 [.n 1, .l TB l, .b b] = some (0, [.n 0, .l TB ([] : List Int), .b true]) := by
  have e1 : op_33 [.n (1 : Int), .l TB l, .b b] = some (1, [.l TB ([] : List Int), .b true]) := t33no (by rcases h with h | h; exact .inl h; exact .inr (.inr (by omega)))
  have e2 : op_L34_3 [.k 1, .n (1 : Int), .n 0, .n 0, .n 0, .l TB (gl TB (dOf (op_33 [.n (1 : Int), .l TB l, .b b])) 0), .b (gb (dOf (op_33 [.n (1 : Int), .l TB l, .b b])) 1)] = some (0, [.n 1, .n 0, .l TB ([] : List Int), .b true]) := by
    rw [e1]; exact lp34n 1 [] true
  rw [op_34_eq]
  refine fn_34_t_im 1 l b _ ?_
  unfold fn_34_t
  refine sel_f (by erw [e1]; rfl) (sel_t (by erw [e1]; rfl) (sel_t (by erw [e2]; rfl) ?_))
  exact sel_t (by erw [e2]; rfl) (by erw [e2]; rfl)
theorem t34_2ok {l : List Int} (hw : Wb l) (h1 : 2 ≤ l.length) : op_34 [.n 2, .l TB l, .b false] = some (1, [.n (nm (l.take 2)), .l TB (l.drop 2), .b false]) := by
  have e1 : op_33 [.n (2 : Int), .l TB l, .b false] = some (0, [.l TB (l.take 2), .l TB (l.drop 2), .b false]) := t33ok (n := 2) (by omega) (by omega)
  have hx : (l.take 2).length = 2 := by rw [List.length_take]; omega
  have e2 := lp34 (l := l.take 2) (by omega) (hw.take 2) 2 (l.drop 2) false
  have hb := nm_bd (hw.take 2)
  rw [hx] at hb
  have wr : IntKind.wrap .u16 (nm (l.take 2)) = nm (l.take 2) := by
    have : (256 : Int) ^ 2 = 65536 := by decide
    rw [wu16]; omega
  rw [op_34_eq]
  refine fn_34_t_im 2 l false _ ?_
  unfold fn_34_t
  refine sel_t (by erw [e1]; rfl) (sel_t (by erw [e1]; erw [e2]; rfl) ?_)
  have e3 : op_L34_3 [.k 0, .n (2 : Int), .n 0, .l TB (gl TB (dOf (op_33 [.n (2 : Int), .l TB l, .b false])) 0), .n (List.length (gl TB (dOf (op_33 [.n (2 : Int), .l TB l, .b false])) 0) : Int), .n 0, .l TB (gl TB (dOf (op_33 [.n (2 : Int), .l TB l, .b false])) 1), .b (gb (dOf (op_33 [.n (2 : Int), .l TB l, .b false])) 2)] = some (0, [.n 2, .n (nm (l.take 2)), .l TB (l.drop 2), .b false]) := by
    rw [e1]; exact e2
  clear e2
  have e2 := e3
  exact sel_f (by erw [e2]; rfl) (sel_t (by erw [e2]; rfl) (by erw [e2]; exact congrArg (fun z => some (1, [Dat.n z, .l TB (l.drop 2), .b false])) wr))
theorem t34_2no {l : List Int} {b : Bool} (h : b = true ∨ l.length < 2) : op_34 [.n 2, .l TB l, .b b] = some (1, [.n 0, .l TB ([] : List Int), .b true]) := by
  have e1 : op_33 [.n (2 : Int), .l TB l, .b b] = some (1, [.l TB ([] : List Int), .b true]) := t33no (by rcases h with h | h; exact .inl h; exact .inr (.inr (by omega)))
  have e2 : op_L34_3 [.k 1, .n (2 : Int), .n 0, .n 0, .n 0, .l TB (gl TB (dOf (op_33 [.n (2 : Int), .l TB l, .b b])) 0), .b (gb (dOf (op_33 [.n (2 : Int), .l TB l, .b b])) 1)] = some (0, [.n 2, .n 0, .l TB ([] : List Int), .b true]) := by
    rw [e1]; exact lp34n 2 [] true
  rw [op_34_eq]
  refine fn_34_t_im 2 l b _ ?_
  unfold fn_34_t
  refine sel_f (by erw [e1]; rfl) (sel_t (by erw [e1]; rfl) (sel_t (by erw [e2]; rfl) ?_))
  exact sel_f (by erw [e2]; rfl) (sel_t (by erw [e2]; rfl) (by erw [e2]; rfl))
theorem t34_4ok {l : List Int} (hw : Wb l) (h1 : 4 ≤ l.length) : op_34 [.n 4, .l TB l, .b false] = some (2, [.n (nm (l.take 4)), .l TB (l.drop 4), .b false]) := by
  have e1 : op_33 [.n (4 : Int), .l TB l, .b false] = some (0, [.l TB (l.take 4), .l TB (l.drop 4), .b false]) := t33ok (n := 4) (by omega) (by omega)
  have hx : (l.take 4).length = 4 := by rw [List.length_take]; omega
  have e2 := lp34 (l := l.take 4) (by omega) (hw.take 4) 4 (l.drop 4) false
  have hb := nm_bd (hw.take 4)
  rw [hx] at hb
  have wr : IntKind.wrap .u32 (nm (l.take 4)) = nm (l.take 4) := by
    have : (256 : Int) ^ 4 = 4294967296 := by decide
    rw [wu32]; omega
  rw [op_34_eq]
  refine fn_34_t_im 4 l false _ ?_
  unfold fn_34_t
  refine sel_t (by erw [e1]; rfl) (sel_t (by erw [e1]; erw [e2]; rfl) ?_)
  have e3 : op_L34_3 [.k 0, .n (4 : Int), .n 0, .l TB (gl TB (dOf (op_33 [.n (4 : Int), .l TB l, .b false])) 0), .n (List.length (gl TB (dOf (op_33 [.n (4 : Int), .l TB l, .b false])) 0) : Int), .n 0, .l TB (gl TB (dOf (op_33 [.n (4 : Int), .l TB l, .b false])) 1), .b (gb (dOf (op_33 [.n (4 : Int), .l TB l, .b false])) 2)] = some (0, [.n 4, .n (nm (l.take 4)), .l TB (l.drop 4), .b false]) := by
    rw [e1]; exact e2
  clear e2
  have e2 := e3
  exact sel_f (by erw [e2]; rfl) (sel_f (by erw [e2]; rfl) (sel_t (by erw [e2]; rfl) (by erw [e2]; exact congrArg (fun z => some (2, [Dat.n z, .l TB (l.drop 4), .b false])) wr)))
theorem t34_4no {l : List Int} {b : Bool} (h : b = true ∨ l.length < 4) : op_34 [.n 4, .l TB l, .b b] = some (2, [.n 0, .l TB ([] : List Int), .b true]) := by
  have e1 : op_33 [.n (4 : Int), .l TB l, .b b] = some (1, [.l TB ([] : List Int), .b true]) := t33no (by rcases h with h | h; exact .inl h; exact .inr (.inr (by omega)))
  have e2 : op_L34_3 [.k 1, .n (4 : Int), .n 0, .n 0, .n 0, .l TB (gl TB (dOf (op_33 [.n (4 : Int), .l TB l, .b b])) 0), .b (gb (dOf (op_33 [.n (4 : Int), .l TB l, .b b])) 1)] = some (0, [.n 4, .n 0, .l TB ([] : List Int), .b true]) := by
    rw [e1]; exact lp34n 4 [] true
  rw [op_34_eq]
  refine fn_34_t_im 4 l b _ ?_
  unfold fn_34_t
  refine sel_f (by erw [e1]; rfl) (sel_t (by erw [e1]; rfl) (sel_t (by erw [e2]; rfl) ?_))
  exact sel_f (by erw [e2]; rfl) (sel_f (by erw [e2]; rfl) (sel_t (by erw [e2]; rfl) (by erw [e2]; rfl)))
theorem t34_8ok {l : List Int} (hw : Wb l) (h1 : 8 ≤ l.length) : op_34 [.n 8, .l TB l, .b false] = some (3, [.n (nm (l.take 8)), .l TB (l.drop 8), .b false]) := by
  have e1 : op_33 [.n (8 : Int), .l TB l, .b false] = some (0, [.l TB (l.take 8), .l TB (l.drop 8), .b false]) := t33ok (n := 8) (by omega) (by omega)
  have hx : (l.take 8).length = 8 := by rw [List.length_take]; omega
  have e2 := lp34 (l := l.take 8) (by omega) (hw.take 8) 8 (l.drop 8) false
  have hb := nm_bd (hw.take 8)
  rw [hx] at hb
  have wr : IntKind.wrap .u64 (nm (l.take 8)) = nm (l.take 8) := by
    have : (256 : Int) ^ 8 = 18446744073709551616 := by decide
    rw [wu64]; omega
  rw [op_34_eq]
  refine fn_34_t_im 8 l false _ ?_
  unfold fn_34_t
  refine sel_t (by erw [e1]; rfl) (sel_t (by erw [e1]; erw [e2]; rfl) ?_)
  have e3 : op_L34_3 [.k 0, .n (8 : Int), .n 0, .l TB (gl TB (dOf (op_33 [.n (8 : Int), .l TB l, .b false])) 0), .n (List.length (gl TB (dOf (op_33 [.n (8 : Int), .l TB l, .b false])) 0) : Int), .n 0, .l TB (gl TB (dOf (op_33 [.n (8 : Int), .l TB l, .b false])) 1), .b (gb (dOf (op_33 [.n (8 : Int), .l TB l, .b false])) 2)] = some (0, [.n 8, .n (nm (l.take 8)), .l TB (l.drop 8), .b false]) := by
    rw [e1]; exact e2
  clear e2
  have e2 := e3
  exact sel_f (by erw [e2]; rfl) (sel_f (by erw [e2]; rfl) (sel_f (by erw [e2]; rfl) ((by erw [e2]; rfl))))
theorem t34_8no {l : List Int} {b : Bool} (h : b = true ∨ l.length < 8) : op_34 [.n 8, .l TB l, .b b] = some (3, [.n 0, .l TB ([] : List Int), .b true]) := by
  have e1 : op_33 [.n (8 : Int), .l TB l, .b b] = some (1, [.l TB ([] : List Int), .b true]) := t33no (by rcases h with h | h; exact .inl h; exact .inr (.inr (by omega)))
  have e2 : op_L34_3 [.k 1, .n (8 : Int), .n 0, .n 0, .n 0, .l TB (gl TB (dOf (op_33 [.n (8 : Int), .l TB l, .b b])) 0), .b (gb (dOf (op_33 [.n (8 : Int), .l TB l, .b b])) 1)] = some (0, [.n 8, .n 0, .l TB ([] : List Int), .b true]) := by
    rw [e1]; exact lp34n 8 [] true
  rw [op_34_eq]
  refine fn_34_t_im 8 l b _ ?_
  unfold fn_34_t
  refine sel_f (by erw [e1]; rfl) (sel_t (by erw [e1]; rfl) (sel_t (by erw [e2]; rfl) ?_))
  exact sel_f (by erw [e2]; rfl) (sel_f (by erw [e2]; rfl) (sel_f (by erw [e2]; rfl) ((by erw [e2]; rfl))))
end Go.Proofs.Ytdepolalngehdaa.Vx
namespace Go.Proofs.Ytdepolalngehdaa.Vx
open Go Go.RowKit
set_option linter.unusedVariables false
set_option linter.unusedSimpArgs false
set_option maxRecDepth 100000
set_option maxHeartbeats 1000000
/-! ### Bytes of numbers -/
def byt (n : Int) (k : Nat) : Int := IntKind.wrap .u8 (ishr .u64 n (8 * (k : Int)))
def bes (n : Int) : Nat → List Int
  | 0 => []
  | k + 1 => byt n k :: bes n k
theorem be_len (n : Int) : ∀ k, (bes n k).length = k
  | 0 => rfl
  | k + 1 => by rw [bes, List.length_cons, be_len n k]
theorem be_wb (n : Int) : ∀ k, Wb (bes n k)
  | 0 => fun b hb => by simp [bes] at hb
  | k + 1 => fun b hb => by
    rw [bes, List.mem_cons] at hb
    rcases hb with rfl | hb
    · unfold byt; rw [wu8]; omega
    · exact be_wb n k b hb
theorem lp30 (n : Int) : ∀ (k : Nat) (l : List Int) (f : Nat), k ≤ 8 → l.length + k ≤ 1000000 → k < f → iterS st_L30_3 f [.k 0, .n n, .n ((k : Int) - 1), .l TB l] = some (0, [.l TB (l ++ bes n k)])
  | _, _, 0, _, _, h => by omega
  | 0, l, f + 1, h, hl, hf => by
    have e : (st_L30_3 [.k 0, .n n, .n (((0 : Nat) : Int) - 1), .l TB l]).sel = some (.stop 0 [.l TB l]) := by
      refine fn_L30_3_t_im n _ l _ ?_
      unfold fn_L30_3_t
      exact sel_f (decide_eq_false (by omega)) rfl
    unfold iterS
    rw [e]
    show some (0, [Dat.l TB l]) = some (0, [Dat.l TB (l ++ bes n 0)])
    rw [bes, List.append_nil]
  | k + 1, l, f + 1, h, hl, hf => by
    have w8 : IntKind.wrap .i64 (8 * (((k + 1 : Nat) : Int) - 1)) = 8 * (k : Int) := by rw [w64d]; omega
    have w1 : IntKind.wrap .i64 ((((k + 1 : Nat) : Int) - 1) - 1) = (k : Int) - 1 := by rw [w64d]; omega
    have e : (st_L30_3 [.k 0, .n n, .n (((k + 1 : Nat) : Int) - 1), .l TB l]).sel = some (.go [.k 0, .n n, .n ((k : Int) - 1), .l TB (l ++ [byt n k])]) := by
      refine fn_L30_3_t_im n _ l _ ?_
      unfold fn_L30_3_t
      refine sel_t (decide_eq_true (by omega)) (sel_t (by rw [w8]; simp; omega) (sel_t (decide_eq_true (show (l.length + 1) * 1 ≤ 140737488355328 by omega)) ?_))
      show some (Step.go [.k 0, .n n, .n (IntKind.wrap .i64 ((((k + 1 : Nat) : Int) - 1) - 1)), .l TB (l ++ [IntKind.wrap .u8 (ishr .u64 n (IntKind.wrap .i64 (8 * (((k + 1 : Nat) : Int) - 1))))])]) = _
      rw [w8, w1]; rfl
    unfold iterS
    rw [e]
    have ih := lp30 n k (l ++ [byt n k]) f (by omega) (by rw [List.length_append]; simp; omega) (by omega)
    rw [List.append_assoc] at ih
    exact ih
theorem t30 (n : Int) (w : Nat) (h : w ≤ 8) : op_30 [.n n, .n (w : Int)] = some (0, [.l TB (bes n w)]) := by
  have w1 : IntKind.wrap .i64 ((w : Int) - 1) = (w : Int) - 1 := by rw [w64d]; omega
  have e : op_L30_3 [.k 0, .n n, .n (IntKind.wrap .i64 ((w : Int) - 1)), .l TB ([] : List Int)] = some (0, [.l TB (bes n w)]) := by
    rw [w1, op_L30_3_eq]
    exact lp30 n w [] FU h (by simp; omega) (by unfold FU; omega)
  rw [op_30_eq]
  refine fn_30_t_im n w _ ?_
  unfold fn_30_t
  exact sel_t (by erw [e]; rfl) (by erw [e]; rfl)
theorem lp35b (n : Int) (w : Nat) (hw : w ≤ 8) : ∀ (k : Nat) (l : List Int) (f : Nat), k ≤ w → l.length + k ≤ 1000000 → k < f → iterS st_L35b_1 f [.k 0, .n n, .n (w : Int), .n (w : Int), .n ((w : Int) - k), .l TB l] = some (0, [.l TB (l ++ bes n k)])
  | _, _, 0, _, _, h => by omega
  | 0, l, f + 1, h, hl, hf => by
    have e : (st_L35b_1 [.k 0, .n n, .n (w : Int), .n (w : Int), .n ((w : Int) - ((0 : Nat) : Int)), .l TB l]).sel = some (.stop 0 [.l TB l]) := by
      refine fn_L35b_1_o_im n _ _ _ l _ ?_
      unfold fn_L35b_1_o
      exact sel_f (decide_eq_false (by omega)) rfl
    unfold iterS
    rw [e]
    show some (0, [Dat.l TB l]) = some (0, [Dat.l TB (l ++ bes n 0)])
    rw [bes, List.append_nil]
  | k + 1, l, f + 1, h, hl, hf => by
    have w8 : IntKind.wrap .i64 (8 * IntKind.wrap .i64 (IntKind.wrap .i64 ((w : Int) - 1) - ((w : Int) - ((k + 1 : Nat) : Int)))) = 8 * (k : Int) := by simp only [w64d]; omega
    have w1 : IntKind.wrap .i64 ((w : Int) - ((k + 1 : Nat) : Int) + 1) = (w : Int) - (k : Int) := by rw [w64d]; omega
    have e : (st_L35b_1 [.k 0, .n n, .n (w : Int), .n (w : Int), .n ((w : Int) - ((k + 1 : Nat) : Int)), .l TB l]).sel = some (.go [.k 0, .n n, .n (w : Int), .n (w : Int), .n ((w : Int) - (k : Int)), .l TB (l ++ [byt n k])]) := by
      refine fn_L35b_1_o_im n _ _ _ l _ ?_
      unfold fn_L35b_1_o
      refine sel_t (decide_eq_true (by omega)) (sel_t (by rw [w8]; simp; omega) (sel_t (decide_eq_true (show (l.length + 1) * 1 ≤ 140737488355328 by omega)) ?_))
      show some (Step.go [.k 0, .n n, .n (w : Int), .n (w : Int), .n (IntKind.wrap .i64 ((w : Int) - ((k + 1 : Nat) : Int) + 1)), .l TB (l ++ [IntKind.wrap .u8 (ishr .u64 n (IntKind.wrap .i64 (8 * IntKind.wrap .i64 (IntKind.wrap .i64 ((w : Int) - 1) - ((w : Int) - ((k + 1 : Nat) : Int))))))])]) = _
      rw [w8, w1]; rfl
    unfold iterS
    rw [e]
    have ih := lp35b n w hw k (l ++ [byt n k]) f (by omega) (by rw [List.length_append]; simp; omega) (by omega)
    rw [List.append_assoc] at ih
    exact ih
theorem lp35a (n : Int) (w : Nat) (hw : w ≤ 8) : ∀ (k : Nat) (l : List Int) (f : Nat), k ≤ w → l.length + k ≤ 1000000 → k < f → iterS st_L35a_1 f [.k 1, .n n, .n (w : Int), .n (w : Int), .n ((w : Int) - k), .l TB l] = some (1, [.l TB (l ++ bes n k)])
  | _, _, 0, _, _, h => by omega
  | 0, l, f + 1, h, hl, hf => by
    have e : (st_L35a_1 [.k 1, .n n, .n (w : Int), .n (w : Int), .n ((w : Int) - ((0 : Nat) : Int)), .l TB l]).sel = some (.stop 1 [.l TB l]) := by
      refine fn_L35a_1_o_im n _ _ _ l _ ?_
      unfold fn_L35a_1_o
      exact sel_f (decide_eq_false (by omega)) rfl
    unfold iterS
    rw [e]
    show some (1, [Dat.l TB l]) = some (1, [Dat.l TB (l ++ bes n 0)])
    rw [bes, List.append_nil]
  | k + 1, l, f + 1, h, hl, hf => by
    have w8 : IntKind.wrap .i64 (8 * IntKind.wrap .i64 (IntKind.wrap .i64 ((w : Int) - 1) - ((w : Int) - ((k + 1 : Nat) : Int)))) = 8 * (k : Int) := by simp only [w64d]; omega
    have w1 : IntKind.wrap .i64 ((w : Int) - ((k + 1 : Nat) : Int) + 1) = (w : Int) - (k : Int) := by rw [w64d]; omega
    have e : (st_L35a_1 [.k 1, .n n, .n (w : Int), .n (w : Int), .n ((w : Int) - ((k + 1 : Nat) : Int)), .l TB l]).sel = some (.go [.k 1, .n n, .n (w : Int), .n (w : Int), .n ((w : Int) - (k : Int)), .l TB (l ++ [byt n k])]) := by
      refine fn_L35a_1_o_im n _ _ _ l _ ?_
      unfold fn_L35a_1_o
      refine sel_t (decide_eq_true (by omega)) (sel_t (by rw [w8]; simp; omega) (sel_t (decide_eq_true (show (l.length + 1) * 1 ≤ 140737488355328 by omega)) ?_))
      show some (Step.go [.k 1, .n n, .n (w : Int), .n (w : Int), .n (IntKind.wrap .i64 ((w : Int) - ((k + 1 : Nat) : Int) + 1)), .l TB (l ++ [IntKind.wrap .u8 (ishr .u64 n (IntKind.wrap .i64 (8 * IntKind.wrap .i64 (IntKind.wrap .i64 ((w : Int) - 1) - ((w : Int) - ((k + 1 : Nat) : Int))))))])]) = _
      rw [w8, w1]; rfl
    unfold iterS
    rw [e]
    have ih := lp35a n w hw k (l ++ [byt n k]) f (by omega) (by rw [List.length_append]; simp; omega) (by omega)
    rw [List.append_assoc] at ih
    exact ih
theorem t35b (n : Int) (w : Nat) (h : w ≤ 8) (l : List Int) (hl : l.length ≤ 999000) : op_35b [.n n, .n (w : Int), .l TB l] = some (0, [.l TB (l ++ bes n w)]) := by
  have e : op_L35b_1 [.k 0, .n n, .n (w : Int), .n (w : Int), .n 0, .l TB l] = some (0, [.l TB (l ++ bes n w)]) := by
    rw [op_L35b_1_eq]
    have := lp35b n w h w l FU (Nat.le_refl _) (by omega) (by unfold FU; omega)
    rw [show (w : Int) - (w : Int) = 0 by omega] at this
    exact this
  rw [op_35b_eq]
  refine fn_35b_t_im n w l _ ?_
  unfold fn_35b_t
  exact sel_t (by erw [e]; rfl) (by erw [e]; rfl)
theorem t35a (n : Int) (w : Nat) (h : w ≤ 8) (h1 : 1 ≤ w) : op_35a [.n n, .n (w : Int)] = some (1, [.l TB (bes n w)]) := by
  obtain ⟨k, rfl⟩ : ∃ k, w = k + 1 := ⟨w - 1, by omega⟩
  have e : op_L35a_1 [.k 0, .n n, .n ((k + 1 : Nat) : Int), .n ((k + 1 : Nat) : Int), .n 0] = some (1, [.l TB (bes n (k + 1))]) := by
    have w8 : IntKind.wrap .i64 (8 * IntKind.wrap .i64 (IntKind.wrap .i64 (((k + 1 : Nat) : Int) - 1) - 0)) = 8 * (k : Int) := by simp only [w64d]; omega
    have w1 : IntKind.wrap .i64 ((0 : Int) + 1) = ((k + 1 : Nat) : Int) - (k : Int) := by rw [w64d]; omega
    have e : (st_L35a_1 [.k 0, .n n, .n ((k + 1 : Nat) : Int), .n ((k + 1 : Nat) : Int), .n 0]).sel = some (.go [.k 1, .n n, .n ((k + 1 : Nat) : Int), .n ((k + 1 : Nat) : Int), .n (((k + 1 : Nat) : Int) - (k : Int)), .l TB [byt n k]]) := by
      refine fn_L35a_1_n_im n _ _ _ _ ?_
      unfold fn_L35a_1_n
      refine sel_t (decide_eq_true (by omega)) (sel_t (by rw [w8]; simp; omega) ?_)
      show some (Step.go [.k 1, .n n, .n ((k + 1 : Nat) : Int), .n ((k + 1 : Nat) : Int), .n (IntKind.wrap .i64 ((0 : Int) + 1)), .l TB [IntKind.wrap .u8 (ishr .u64 n (IntKind.wrap .i64 (8 * IntKind.wrap .i64 (IntKind.wrap .i64 (((k + 1 : Nat) : Int) - 1) - 0))))]]) = _
      rw [w8, w1]; rfl
    rw [op_L35a_1_eq, show FU = 18446744073709551615 + 1 from rfl]
    unfold iterS
    rw [e]
    exact lp35a n (k + 1) h k [byt n k] 18446744073709551615 (by omega) (by simp; omega) (by omega)
  rw [op_35a_eq]
  refine fn_35a_t_im n _ _ ?_
  unfold fn_35a_t
  exact sel_f (by erw [e]; rfl) (sel_t (by erw [e]; rfl) (by erw [e]; rfl))
theorem lp16 (s : ByteArray) (r : List Int) (b : Bool) : ∀ (k : Nat) (i : Int) (x : List Int) (f : Nat), 0 ≤ i → i + k = x.length → x.length ≤ 1000000 → k < f → iterS st_L16_13 f [.k 0, .s s, .n i, .l TB r, .b b, .l TB x] = some (0, [.s s, .l TB r, .b b])
  | _, _, _, 0, _, _, _, h => by omega
  | 0, i, x, f + 1, h0, hi, hx, hf => by
    have e : (st_L16_13 [.k 0, .s s, .n i, .l TB r, .b b, .l TB x]).sel = some (.stop 0 [.s s, .l TB r, .b b]) := by
      refine fn_L16_13_t_im s i r b x _ ?_
      unfold fn_L16_13_t
      exact sel_f (decide_eq_false (show ¬ i < (x.length : Int) by omega)) rfl
    unfold iterS
    rw [e]
  | k + 1, i, x, f + 1, h0, hi, hx, hf => by
    have w := w64s (x := i + 1) (by omega) (by omega)
    have hl : (x.set i.toNat (IntKind.wrap .u8 (x.getD i.toNat 0 + 1))).length = x.length := List.length_set
    have e : (st_L16_13 [.k 0, .s s, .n i, .l TB r, .b b, .l TB x]).sel = some (.go [.k 0, .s s, .n (i + 1), .l TB r, .b b, .l TB (x.set i.toNat (IntKind.wrap .u8 (x.getD i.toNat 0 + 1)))]) := by
      refine fn_L16_13_t_im s i r b x _ ?_
      unfold fn_L16_13_t
      refine sel_t (decide_eq_true (show i < (x.length : Int) by omega)) (sel_t (inR_true h0 (show i < (x.length : Int) by omega)) ?_)
      exact congrArg (fun z => some (Step.go [.k 0, .s s, .n z, .l TB r, .b b, .l TB (x.set i.toNat (IntKind.wrap .u8 (x.getD i.toNat 0 + 1)))])) w
    unfold iterS
    rw [e]
    exact lp16 s r b k (i + 1) _ f (by omega) (by rw [hl]; omega) (by rw [hl]; exact hx) (by omega)
theorem q16 (s : ByteArray) (r : List Int) (b : Bool) (x : List Int) (hx : x.length ≤ 1000000) : op_L16_13 [.k 0, .s s, .n 0, .l TB r, .b b, .l TB x] = some (0, [.s s, .l TB r, .b b]) := by
  rw [op_L16_13_eq]
  exact lp16 s r b x.length 0 x FU (by omega) (by omega) hx (by unfold FU; omega)
theorem wr64 {x : Int} (h0 : 0 ≤ x) (h1 : x < 18446744073709551616) : IntKind.wrap .u64 x = x := by rw [wu64]; omega
abbrev s0 : ByteArray := { data := { toList := [] } }
theorem t16_0ok {K N : Int} {B l : List Int} (hk : Int.tmod K 5 = 0) (hw : Wb l) (h1 : 1 ≤ l.length) : op_16 [.n K, .n N, .l TB B, .l TB l, .b false] = some (0, [.n (nm (l.take 1)), .s s0, .l TB (l.drop 1), .b false]) := by
  have e1 := t34_1ok hw h1
  have hb := nm_bd (hw.take 1)
  have hx : (l.take 1).length = 1 := by rw [List.length_take]; omega
  rw [hx] at hb
  have wr : IntKind.wrap .u64 (nm (l.take 1)) = nm (l.take 1) := by
    have : (256 : Int) ^ 1 ≤ 18446744073709551616 := by decide
    exact wr64 hb.1 (by omega)
  rw [op_16_eq]
  refine fn_16_t_im K N B l false _ ?_
  unfold fn_16_t
  exact sel_t (by rw [hk]; rfl) (sel_t (by erw [e1]; rfl) (by erw [e1]; exact congrArg (fun z => some (0, [Dat.n z, .s s0, .l TB (l.drop 1), .b false])) wr))
theorem t16_0no {K N : Int} {B l : List Int} {b : Bool} (hk : Int.tmod K 5 = 0) (h : b = true ∨ l.length < 1) : op_16 [.n K, .n N, .l TB B, .l TB l, .b b] = some (0, [.n 0, .s s0, .l TB ([] : List Int), .b true]) := by
  have e1 := t34_1no h
  rw [op_16_eq]
  refine fn_16_t_im K N B l b _ ?_
  unfold fn_16_t
  exact sel_t (by rw [hk]; rfl) (sel_t (by erw [e1]; rfl) (by erw [e1]; rfl))
theorem t16_1ok {K N : Int} {B l : List Int} (hk : Int.tmod K 5 = 1) (hw : Wb l) (h1 : 2 ≤ l.length) : op_16 [.n K, .n N, .l TB B, .l TB l, .b false] = some (0, [.n (nm (l.take 2)), .s s0, .l TB (l.drop 2), .b false]) := by
  have e1 := t34_2ok hw h1
  have hb := nm_bd (hw.take 2)
  have hx : (l.take 2).length = 2 := by rw [List.length_take]; omega
  rw [hx] at hb
  have wr : IntKind.wrap .u64 (nm (l.take 2)) = nm (l.take 2) := by
    have : (256 : Int) ^ 2 ≤ 18446744073709551616 := by decide
    exact wr64 hb.1 (by omega)
  rw [op_16_eq]
  refine fn_16_t_im K N B l false _ ?_
  unfold fn_16_t
  exact sel_f (by rw [hk]; rfl) (sel_t (by rw [hk]; rfl) (sel_f (by erw [e1]; rfl) (sel_t (by erw [e1]; rfl) (by erw [e1]; exact congrArg (fun z => some (0, [Dat.n z, .s s0, .l TB (l.drop 2), .b false])) wr))))
theorem t16_1no {K N : Int} {B l : List Int} {b : Bool} (hk : Int.tmod K 5 = 1) (h : b = true ∨ l.length < 2) : op_16 [.n K, .n N, .l TB B, .l TB l, .b b] = some (0, [.n 0, .s s0, .l TB ([] : List Int), .b true]) := by
  have e1 := t34_2no h
  rw [op_16_eq]
  refine fn_16_t_im K N B l b _ ?_
  unfold fn_16_t
  exact sel_f (by rw [hk]; rfl) (sel_t (by rw [hk]; rfl) (sel_f (by erw [e1]; rfl) (sel_t (by erw [e1]; rfl) (by erw [e1]; rfl))))
theorem t16_2ok {K N : Int} {B l : List Int} (hk : Int.tmod K 5 = 2) (hw : Wb l) (h1 : 4 ≤ l.length) : op_16 [.n K, .n N, .l TB B, .l TB l, .b false] = some (0, [.n (nm (l.take 4)), .s s0, .l TB (l.drop 4), .b false]) := by
  have e1 := t34_4ok hw h1
  have hb := nm_bd (hw.take 4)
  have hx : (l.take 4).length = 4 := by rw [List.length_take]; omega
  rw [hx] at hb
  have wr : IntKind.wrap .u64 (nm (l.take 4)) = nm (l.take 4) := by
    have : (256 : Int) ^ 4 ≤ 18446744073709551616 := by decide
    exact wr64 hb.1 (by omega)
  rw [op_16_eq]
  refine fn_16_t_im K N B l false _ ?_
  unfold fn_16_t
  exact sel_f (by rw [hk]; rfl) (sel_f (by rw [hk]; rfl) (sel_t (by rw [hk]; rfl) (sel_f (by erw [e1]; rfl) (sel_f (by erw [e1]; rfl) (sel_t (by erw [e1]; rfl) (by erw [e1]; exact congrArg (fun z => some (0, [Dat.n z, .s s0, .l TB (l.drop 4), .b false])) wr))))))
theorem t16_2no {K N : Int} {B l : List Int} {b : Bool} (hk : Int.tmod K 5 = 2) (h : b = true ∨ l.length < 4) : op_16 [.n K, .n N, .l TB B, .l TB l, .b b] = some (0, [.n 0, .s s0, .l TB ([] : List Int), .b true]) := by
  have e1 := t34_4no h
  rw [op_16_eq]
  refine fn_16_t_im K N B l b _ ?_
  unfold fn_16_t
  exact sel_f (by rw [hk]; rfl) (sel_f (by rw [hk]; rfl) (sel_t (by rw [hk]; rfl) (sel_f (by erw [e1]; rfl) (sel_f (by erw [e1]; rfl) (sel_t (by erw [e1]; rfl) (by erw [e1]; rfl))))))
theorem t16_3ok {K N : Int} {B l : List Int} (hk : Int.tmod K 5 = 3) (hw : Wb l) (h1 : 8 ≤ l.length) : op_16 [.n K, .n N, .l TB B, .l TB l, .b false] = some (0, [.n (nm (l.take 8)), .s s0, .l TB (l.drop 8), .b false]) := by
  have e1 := t34_8ok hw h1
  have hb := nm_bd (hw.take 8)
  have hx : (l.take 8).length = 8 := by rw [List.length_take]; omega
  rw [hx] at hb
  have wr : IntKind.wrap .u64 (nm (l.take 8)) = nm (l.take 8) := by
    have : (256 : Int) ^ 8 ≤ 18446744073709551616 := by decide
    exact wr64 hb.1 (by omega)
  rw [op_16_eq]
  refine fn_16_t_im K N B l false _ ?_
  unfold fn_16_t
  exact sel_f (by rw [hk]; rfl) (sel_f (by rw [hk]; rfl) (sel_f (by rw [hk]; rfl) (sel_t (by rw [hk]; rfl) (sel_f (by erw [e1]; rfl) (sel_f (by erw [e1]; rfl) (sel_f (by erw [e1]; rfl) (sel_t (by erw [e1]; rfl) (by erw [e1]; rfl))))))))
theorem t16_3no {K N : Int} {B l : List Int} {b : Bool} (hk : Int.tmod K 5 = 3) (h : b = true ∨ l.length < 8) : op_16 [.n K, .n N, .l TB B, .l TB l, .b b] = some (0, [.n 0, .s s0, .l TB ([] : List Int), .b true]) := by
  have e1 := t34_8no h
  rw [op_16_eq]
  refine fn_16_t_im K N B l b _ ?_
  unfold fn_16_t
  exact sel_f (by rw [hk]; rfl) (sel_f (by rw [hk]; rfl) (sel_f (by rw [hk]; rfl) (sel_t (by rw [hk]; rfl) (sel_f (by erw [e1]; rfl) (sel_f (by erw [e1]; rfl) (sel_f (by erw [e1]; rfl) (sel_t (by erw [e1]; rfl) (by erw [e1]; rfl))))))))
theorem t16_4ok {K N : Int} {B l : List Int} (hk : Int.tmod K 5 = 4) (hl : l.length ≤ 1000000) (h0 : 0 ≤ IntKind.wrap .i64 N) (h1 : IntKind.wrap .i64 N ≤ (l.length : Int)) : op_16 [.n K, .n N, .l TB B, .l TB l, .b false] = some (0, [.n 0, .s (strOf (l.take (IntKind.wrap .i64 N).toNat)), .l TB (l.drop (IntKind.wrap .i64 N).toNat), .b false]) := by
  have e1 := t33ok h0 h1
  have hx : (l.take (IntKind.wrap .i64 N).toNat).length ≤ l.length := by rw [List.length_take]; omega
  have e2 := t31 (l := l.take (IntKind.wrap .i64 N).toNat) (by omega)
  have e3 := q16 (strOf (l.take (IntKind.wrap .i64 N).toNat)) (l.drop (IntKind.wrap .i64 N).toNat) false (l.take (IntKind.wrap .i64 N).toNat) (by omega)
  rw [op_16_eq]
  refine fn_16_t_im K N B l false _ ?_
  unfold fn_16_t
  exact sel_f (by rw [hk]; rfl) (sel_f (by rw [hk]; rfl) (sel_f (by rw [hk]; rfl) (sel_f (by rw [hk]; rfl) (sel_t (by erw [e1]; rfl) (sel_t (by erw [e1]; erw [e2]; rfl) (sel_t (by erw [e1]; erw [e2]; erw [e3]; rfl) (by erw [e1]; erw [e2]; erw [e3]; rfl)))))))
theorem t16_4no {K N : Int} {B l : List Int} {b : Bool} (hk : Int.tmod K 5 = 4) (h : b = true ∨ IntKind.wrap .i64 N < 0 ∨ (l.length : Int) < IntKind.wrap .i64 N) : op_16 [.n K, .n N, .l TB B, .l TB l, .b b] = some (0, [.n 0, .s (strOf ([] : List Int)), .l TB ([] : List Int), .b true]) := by
  have e1 := t33no h
  have e3 := q16 (strOf ([] : List Int)) [] true [] (by simp)
  rw [op_16_eq]
  refine fn_16_t_im K N B l b _ ?_
  unfold fn_16_t
  exact sel_f (by rw [hk]; rfl) (sel_f (by rw [hk]; rfl) (sel_f (by rw [hk]; rfl) (sel_f (by rw [hk]; rfl) (sel_f (by erw [e1]; rfl) (sel_t (by erw [e1]; rfl) (sel_t (by erw [e1]; erw [e3]; rfl) (by erw [e1]; erw [e3]; rfl)))))))
end Go.Proofs.Ytdepolalngehdaa.Vx
namespace Go.Proofs.Ytdepolalngehdaa.Vx
open Go Go.RowKit
set_option linter.unusedVariables false
set_option linter.unusedSimpArgs false
set_option maxRecDepth 100000
set_option maxHeartbeats 1000000
abbrev LI := List (Ty.den TIt)
def InvA (l0 : List Int) (l1 : LI) (i : Int) (env : List Dat) : Prop := ∃ (l : List Int) (b : Bool), Wb l ∧ l.length ≤ 3000 ∧ env = [.k 0, .l TB l0, .l TIt l1, .n i, .l TB l0, .l TB l, .b b, .l TB l, .b b]
def StepA (l0 : List Int) (l1 : LI) (i : Int) : Step → Prop
  | .go e => InvA l0 l1 (i + 1) e
  | .stop k d => False
theorem kinds5 {K : Int} (h0 : 0 ≤ K) : Int.tmod K 5 = 0 ∨ Int.tmod K 5 = 1 ∨ Int.tmod K 5 = 2 ∨ Int.tmod K 5 = 3 ∨ Int.tmod K 5 = 4 := by
  rw [Int.tmod_eq_emod_of_nonneg h0]; omega
theorem bne_no {x y : Int} (h : x = y) : (x != y) = false := by subst h; simp
theorem strSelf (s : ByteArray) : strEq s s = true := by unfold strEq; exact decide_eq_true rfl
theorem strNo (s : ByteArray) : (!strEq s s) = false := by rw [strSelf]; rfl
theorem stepA {l0 : List Int} {l1 : LI} {i : Int} (h0 : 0 ≤ i) (h1 : i < (l1.length : Int)) (hlen : l1.length ≤ 100) (hK : 0 ≤ it_1 l1 i) {l : List Int} {b : Bool} (hw : Wb l) (hl : l.length ≤ 3000) :
    Good (StepA l0 l1 i) (st_L4_7 [.k 0, .l TB l0, .l TIt l1, .n i, .l TB l0, .l TB l, .b b, .l TB l, .b b]).sel := by
  have w : IntKind.wrap .i64 (i + 1) = i + 1 := w64 (by omega) (by omega)
  refine Imp.good (fn_L4_7_t_im l0 l1 i l b h0 h1) ?_
  unfold fn_L4_7_t
  rcases kinds5 hK with hk | hk | hk | hk | hk
  · by_cases ok : b = false ∧ 1 ≤ l.length
    · obtain ⟨rfl, hlw⟩ := ok
      have e1 : op_15 [.n (List.getD [(1 : Int), (2 : Int), (4 : Int), (8 : Int)] (Int.toNat (Int.tmod (it_1 l1 i) (5 : Int))) (0 : Int)), .l TB l, .b false] = some (0, [.l TB (l.take 1), .b true, .l TB (l.drop 1), .b false]) := by
        rw [hk]; exact t15ok (n := 1) (by omega) (by omega)
      have e2 := t16_0ok (N := it_2 l1 i) (B := it_3 l1 i) hk hw hlw
      have hx : (l.take 1).length = 1 := by rw [List.length_take]; omega
      have e3 := t17 (l := l.take 1) (by omega) (hw.take 1)
      have hd : (l.drop 1).length ≤ 3000 := by rw [List.length_drop]; omega
      exact good_t (by rw [hk]; rfl) (good_t (by rw [hk]; rfl) (good_t (by erw [e1]; rfl) (good_t (by erw [e2]; rfl) (good_t (by erw [e1]; rfl) (good_t (by erw [e1]; erw [e3]; rfl) (good_f (by erw [e2, e1]; erw [e3]; exact bne_no rfl) (good_f (by erw [e2]; rfl) (good_f (by erw [e2, e1]; rfl) (good_f (by erw [e2, e1]; exact bne_no rfl) (good_leaf (by erw [e2, e1, w]; exact ⟨_, _, hw.drop 1, hd, rfl⟩)))))))))))
    · have no : b = true ∨ l.length < 1 := by
        cases b with
        | true => exact .inl rfl
        | false => exact .inr (by have : ¬ 1 ≤ l.length := fun q => ok ⟨rfl, q⟩
                                  omega)
      have e1 : op_15 [.n (List.getD [(1 : Int), (2 : Int), (4 : Int), (8 : Int)] (Int.toNat (Int.tmod (it_1 l1 i) (5 : Int))) (0 : Int)), .l TB l, .b b] = some (1, [.b false, .l TB ([] : List Int), .b true]) := by
        rw [hk]; exact t15no (n := 1) (by rcases no with q | q; exact .inl q; exact .inr (.inr (by omega)))
      have e2 := t16_0no (N := it_2 l1 i) (B := it_3 l1 i) hk no
      exact good_t (by rw [hk]; rfl) (good_t (by rw [hk]; rfl) (good_f (by erw [e1]; rfl) (good_t (by erw [e1]; rfl) (good_t (by erw [e2]; rfl) (good_f (by erw [e1]; rfl) (good_f (by erw [e2]; rfl) (good_f (by erw [e2]; rfl) (good_f (by erw [e2, e1]; rfl) (good_f (by erw [e2, e1]; rfl) (good_leaf (by erw [e2, e1, w]; exact ⟨_, _, (fun b hb => by cases hb), (Nat.zero_le _), rfl⟩)))))))))))
  · by_cases ok : b = false ∧ 2 ≤ l.length
    · obtain ⟨rfl, hlw⟩ := ok
      have e1 : op_15 [.n (List.getD [(1 : Int), (2 : Int), (4 : Int), (8 : Int)] (Int.toNat (Int.tmod (it_1 l1 i) (5 : Int))) (0 : Int)), .l TB l, .b false] = some (0, [.l TB (l.take 2), .b true, .l TB (l.drop 2), .b false]) := by
        rw [hk]; exact t15ok (n := 2) (by omega) (by omega)
      have e2 := t16_1ok (N := it_2 l1 i) (B := it_3 l1 i) hk hw hlw
      have hx : (l.take 2).length = 2 := by rw [List.length_take]; omega
      have e3 := t17 (l := l.take 2) (by omega) (hw.take 2)
      have hd : (l.drop 2).length ≤ 3000 := by rw [List.length_drop]; omega
      exact good_t (by rw [hk]; rfl) (good_t (by rw [hk]; rfl) (good_t (by erw [e1]; rfl) (good_t (by erw [e2]; rfl) (good_t (by erw [e1]; rfl) (good_t (by erw [e1]; erw [e3]; rfl) (good_f (by erw [e2, e1]; erw [e3]; exact bne_no rfl) (good_f (by erw [e2]; rfl) (good_f (by erw [e2, e1]; rfl) (good_f (by erw [e2, e1]; exact bne_no rfl) (good_leaf (by erw [e2, e1, w]; exact ⟨_, _, hw.drop 2, hd, rfl⟩)))))))))))
    · have no : b = true ∨ l.length < 2 := by
        cases b with
        | true => exact .inl rfl
        | false => exact .inr (by have : ¬ 2 ≤ l.length := fun q => ok ⟨rfl, q⟩
                                  omega)
      have e1 : op_15 [.n (List.getD [(1 : Int), (2 : Int), (4 : Int), (8 : Int)] (Int.toNat (Int.tmod (it_1 l1 i) (5 : Int))) (0 : Int)), .l TB l, .b b] = some (1, [.b false, .l TB ([] : List Int), .b true]) := by
        rw [hk]; exact t15no (n := 2) (by rcases no with q | q; exact .inl q; exact .inr (.inr (by omega)))
      have e2 := t16_1no (N := it_2 l1 i) (B := it_3 l1 i) hk no
      exact good_t (by rw [hk]; rfl) (good_t (by rw [hk]; rfl) (good_f (by erw [e1]; rfl) (good_t (by erw [e1]; rfl) (good_t (by erw [e2]; rfl) (good_f (by erw [e1]; rfl) (good_f (by erw [e2]; rfl) (good_f (by erw [e2]; rfl) (good_f (by erw [e2, e1]; rfl) (good_f (by erw [e2, e1]; rfl) (good_leaf (by erw [e2, e1, w]; exact ⟨_, _, (fun b hb => by cases hb), (Nat.zero_le _), rfl⟩)))))))))))
  · by_cases ok : b = false ∧ 4 ≤ l.length
    · obtain ⟨rfl, hlw⟩ := ok
      have e1 : op_15 [.n (List.getD [(1 : Int), (2 : Int), (4 : Int), (8 : Int)] (Int.toNat (Int.tmod (it_1 l1 i) (5 : Int))) (0 : Int)), .l TB l, .b false] = some (0, [.l TB (l.take 4), .b true, .l TB (l.drop 4), .b false]) := by
        rw [hk]; exact t15ok (n := 4) (by omega) (by omega)
      have e2 := t16_2ok (N := it_2 l1 i) (B := it_3 l1 i) hk hw hlw
      have hx : (l.take 4).length = 4 := by rw [List.length_take]; omega
      have e3 := t17 (l := l.take 4) (by omega) (hw.take 4)
      have hd : (l.drop 4).length ≤ 3000 := by rw [List.length_drop]; omega
      exact good_t (by rw [hk]; rfl) (good_t (by rw [hk]; rfl) (good_t (by erw [e1]; rfl) (good_t (by erw [e2]; rfl) (good_t (by erw [e1]; rfl) (good_t (by erw [e1]; erw [e3]; rfl) (good_f (by erw [e2, e1]; erw [e3]; exact bne_no rfl) (good_f (by erw [e2]; rfl) (good_f (by erw [e2, e1]; rfl) (good_f (by erw [e2, e1]; exact bne_no rfl) (good_leaf (by erw [e2, e1, w]; exact ⟨_, _, hw.drop 4, hd, rfl⟩)))))))))))
    · have no : b = true ∨ l.length < 4 := by
        cases b with
        | true => exact .inl rfl
        | false => exact .inr (by have : ¬ 4 ≤ l.length := fun q => ok ⟨rfl, q⟩
                                  omega)
      have e1 : op_15 [.n (List.getD [(1 : Int), (2 : Int), (4 : Int), (8 : Int)] (Int.toNat (Int.tmod (it_1 l1 i) (5 : Int))) (0 : Int)), .l TB l, .b b] = some (1, [.b false, .l TB ([] : List Int), .b true]) := by
        rw [hk]; exact t15no (n := 4) (by rcases no with q | q; exact .inl q; exact .inr (.inr (by omega)))
      have e2 := t16_2no (N := it_2 l1 i) (B := it_3 l1 i) hk no
      exact good_t (by rw [hk]; rfl) (good_t (by rw [hk]; rfl) (good_f (by erw [e1]; rfl) (good_t (by erw [e1]; rfl) (good_t (by erw [e2]; rfl) (good_f (by erw [e1]; rfl) (good_f (by erw [e2]; rfl) (good_f (by erw [e2]; rfl) (good_f (by erw [e2, e1]; rfl) (good_f (by erw [e2, e1]; rfl) (good_leaf (by erw [e2, e1, w]; exact ⟨_, _, (fun b hb => by cases hb), (Nat.zero_le _), rfl⟩)))))))))))
  · by_cases ok : b = false ∧ 8 ≤ l.length
    · obtain ⟨rfl, hlw⟩ := ok
      have e1 : op_15 [.n (List.getD [(1 : Int), (2 : Int), (4 : Int), (8 : Int)] (Int.toNat (Int.tmod (it_1 l1 i) (5 : Int))) (0 : Int)), .l TB l, .b false] = some (0, [.l TB (l.take 8), .b true, .l TB (l.drop 8), .b false]) := by
        rw [hk]; exact t15ok (n := 8) (by omega) (by omega)
      have e2 := t16_3ok (N := it_2 l1 i) (B := it_3 l1 i) hk hw hlw
      have hx : (l.take 8).length = 8 := by rw [List.length_take]; omega
      have e3 := t17 (l := l.take 8) (by omega) (hw.take 8)
      have hd : (l.drop 8).length ≤ 3000 := by rw [List.length_drop]; omega
      exact good_t (by rw [hk]; rfl) (good_t (by rw [hk]; rfl) (good_t (by erw [e1]; rfl) (good_t (by erw [e2]; rfl) (good_t (by erw [e1]; rfl) (good_t (by erw [e1]; erw [e3]; rfl) (good_f (by erw [e2, e1]; erw [e3]; exact bne_no rfl) (good_f (by erw [e2]; rfl) (good_f (by erw [e2, e1]; rfl) (good_f (by erw [e2, e1]; exact bne_no rfl) (good_leaf (by erw [e2, e1, w]; exact ⟨_, _, hw.drop 8, hd, rfl⟩)))))))))))
    · have no : b = true ∨ l.length < 8 := by
        cases b with
        | true => exact .inl rfl
        | false => exact .inr (by have : ¬ 8 ≤ l.length := fun q => ok ⟨rfl, q⟩
                                  omega)
      have e1 : op_15 [.n (List.getD [(1 : Int), (2 : Int), (4 : Int), (8 : Int)] (Int.toNat (Int.tmod (it_1 l1 i) (5 : Int))) (0 : Int)), .l TB l, .b b] = some (1, [.b false, .l TB ([] : List Int), .b true]) := by
        rw [hk]; exact t15no (n := 8) (by rcases no with q | q; exact .inl q; exact .inr (.inr (by omega)))
      have e2 := t16_3no (N := it_2 l1 i) (B := it_3 l1 i) hk no
      exact good_t (by rw [hk]; rfl) (good_t (by rw [hk]; rfl) (good_f (by erw [e1]; rfl) (good_t (by erw [e1]; rfl) (good_t (by erw [e2]; rfl) (good_f (by erw [e1]; rfl) (good_f (by erw [e2]; rfl) (good_f (by erw [e2]; rfl) (good_f (by erw [e2, e1]; rfl) (good_f (by erw [e2, e1]; rfl) (good_leaf (by erw [e2, e1, w]; exact ⟨_, _, (fun b hb => by cases hb), (Nat.zero_le _), rfl⟩)))))))))))
  · by_cases ok : b = false ∧ 0 ≤ IntKind.wrap .i64 (it_2 l1 i) ∧ IntKind.wrap .i64 (it_2 l1 i) ≤ (l.length : Int)
    · obtain ⟨rfl, hn0, hn1⟩ := ok
      have e1 := t15ok hn0 hn1
      have e2 := t16_4ok (B := it_3 l1 i) hk (by omega) hn0 hn1
      have hd : (l.drop (IntKind.wrap .i64 (it_2 l1 i)).toNat).length ≤ 3000 := by rw [List.length_drop]; omega
      exact good_f (by rw [hk]; rfl) (good_t (by erw [e1]; rfl) (good_t (by erw [e2]; rfl) (good_t (by erw [e1]; rfl) (good_t (by rw [hk]; rfl) (good_f (by erw [e2]; rfl) (good_f (by erw [e2, e1]; exact strNo _) (good_f (by erw [e2, e1]; rfl) (good_f (by erw [e2, e1]; exact bne_no rfl) (good_leaf (by erw [e2, e1, w]; exact ⟨_, _, hw.drop _, hd, rfl⟩))))))))))
    · have no : b = true ∨ IntKind.wrap .i64 (it_2 l1 i) < 0 ∨ (l.length : Int) < IntKind.wrap .i64 (it_2 l1 i) := by
        cases b with
        | true => exact .inl rfl
        | false =>
          right
          by_cases q : IntKind.wrap .i64 (it_2 l1 i) < 0
          · exact .inl q
          · right
            have : ¬ IntKind.wrap .i64 (it_2 l1 i) ≤ (l.length : Int) := fun h => ok ⟨rfl, by omega, h⟩
            omega
      have e1 := t15no no
      have e2 := t16_4no (B := it_3 l1 i) hk no
      exact good_f (by rw [hk]; rfl) (good_f (by erw [e1]; rfl) (good_t (by erw [e1]; rfl) (good_t (by erw [e2]; rfl) (good_f (by erw [e1]; rfl) (good_f (by erw [e2]; rfl) (good_f (by erw [e2]; rfl) (good_f (by erw [e2, e1]; rfl) (good_f (by erw [e2, e1]; rfl) (good_leaf (by erw [e2, e1, w]; exact ⟨_, _, (fun b hb => by cases hb), (Nat.zero_le _), rfl⟩))))))))))
theorem atA {l0 : List Int} {l1 : LI} {i : Int} {env : List Dat} (h : InvA l0 l1 i env) : gn env 3 = i := by
  obtain ⟨l, b, _, _, rfl⟩ := h; rfl
def Inv4 (l0 : List Int) (l1 : LI) (env : List Dat) : Prop := ∃ i : Int, 0 ≤ i ∧ i ≤ l1.length ∧ InvA l0 l1 i env
theorem key4 {l0 : List Int} {l1 : LI} (hlen : l1.length ≤ 100) (hK : ∀ i : Int, 0 ≤ i → i < (l1.length : Int) → 0 ≤ it_1 l1 i) (env : List Dat) (h : Inv4 l0 l1 env) : Good (fun y => match y with | .go e => Inv4 l0 l1 e ∧ (l1.length - gn e 3).toNat < (l1.length - gn env 3).toNat | .stop k d => (k, d) = (0, [Dat.l TB l0, .l TB l0])) (st_L4_7 env).sel := by
  obtain ⟨i, h0, h1, hI⟩ := h
  rw [atA hI]
  by_cases hlt : i < l1.length
  · have fin : Good (StepA l0 l1 i) (st_L4_7 env).sel := by
      obtain ⟨l, b, a1, a2, rfl⟩ := hI
      exact stepA h0 hlt hlen (hK i h0 hlt) a1 a2
    obtain ⟨y, e, hy⟩ := fin
    refine ⟨y, e, ?_⟩
    cases y with
    | stop k d => exact hy.elim
    | go e' =>
      have hy : InvA l0 l1 (i + 1) e' := hy
      refine ⟨⟨i + 1, by omega, by omega, hy⟩, ?_⟩
      show ((l1.length : Int) - gn e' 3).toNat < _
      rw [atA hy]; omega
  · have hd : i = (l1.length : Int) := by omega
    obtain ⟨l, b, a1, a2, rfl⟩ := hI
    exact Imp.good (fn_L4_7_x_im l0 l1 i l b hd) (good_leaf rfl)
theorem bytes_back : ∀ {l : List Int}, Wb l → bytesOf (strOf l) = l := by
  intro l h
  unfold bytesOf strOf
  simp only [List.map_map]
  refine List.ext_getElem (by simp) fun i h1 h2 => ?_
  simp only [List.getElem_map, Function.comp]
  have := h l[i] (List.getElem_mem h2)
  rw [UInt8.toNat_ofNat']
  omega
theorem t4 (l0 : List Int) (l1 : LI) (hw : Wb l0) (hK : ∀ i : Int, 0 ≤ i → i < (l1.length : Int) → 0 ≤ it_1 l1 i) : (ev_W4 [.l TB l0, .l TIt l1]).sel = some true := by
  obtain ⟨y, e, hy⟩ : Good (fun y => y = true) (ev_W4 [.l TB l0, .l TIt l1]).sel := by
    refine (fn_W4_t_im l0 l1).good ?_
    unfold fn_W4_t
    refine good_node (fun _ => good_leaf rfl) (fun q => ?_)
    have hl0 : l0.length ≤ 3000 := by have : ¬ ((l0.length : Int) > 3000) := of_decide_eq_false q; omega
    refine good_node (fun _ => good_leaf rfl) (fun q => ?_)
    have hl1 : l1.length ≤ 100 := by have := of_decide_eq_false q; omega
    have e1 : op_13 [.l TB (bytesOf (strOf l0))] = some (0, [.l TB l0, .b false]) := by
      erw [bytes_back hw]; exact t13 (by omega)
    obtain ⟨y, e2, hy⟩ := op_L4_7_good (p := fun y => y = (0, [Dat.l TB l0, .l TB l0])) (Inv4 l0 l1) (fun env => (l1.length - gn env 3).toNat) (key4 hl1 hK) [.k 0, .l TB l0, .l TIt l1, .n 0, .l TB l0, .l TB l0, .b false, .l TB l0, .b false] ⟨0, by omega, by omega, l0, false, hw, hl0, rfl⟩ (by show ((l1.length : Int) - 0).toNat < FU; unfold FU; omega)
    rw [hy] at e2
    have e3 : op_L4_7 [.k 0, .l TB l0, .l TIt l1, .n 0, .l TB (bytesOf (strOf l0)), .l TB (gl TB (dOf (op_13 [.l TB (bytesOf (strOf l0))])) 0), .b (gb (dOf (op_13 [.l TB (bytesOf (strOf l0))])) 1), .l TB l0, .b false] = some (0, [Dat.l TB l0, .l TB l0]) := by
      rw [e1]; erw [bytes_back hw]; exact e2
    exact good_t (by erw [e1]; rfl) (good_t (by erw [e3]; rfl) (good_t (by erw [e3]; exact strSelf _) (good_leaf rfl)))
  rw [e, hy]
/-- What is known of the items. -/
theorem wf_items {l1 : LI} (h : wfD (.sl TIt) l1 = true) (i : Int) (h0 : 0 ≤ i) (h1 : i < (l1.length : Int)) : 0 ≤ it_1 l1 i ∧ it_1 l1 i < 256 ∧ 0 ≤ it_2 l1 i ∧ it_2 l1 i < 18446744073709551616 ∧ Wb (it_3 l1 i) := by
  have hx : (decide (l1.length ≤ maxLen) && wfL (wfD TIt) l1) = true := h
  rw [Bool.and_eq_true, wfL_iff] at hx
  have hi : i.toNat < l1.length := by omega
  have hm : l1.getD i.toNat (Ty.dflt TIt) ∈ l1 := by
    rw [List.getD_eq_getElem?_getD, List.getElem?_eq_getElem hi]; exact List.getElem_mem hi
  have hw := hx.2 _ hm
  obtain ⟨a, b⟩ := wf_get hw
  obtain ⟨b, c⟩ := wf_get b
  have a' : (decide (IntKind.min .u8 ≤ it_1 l1 i) && decide (it_1 l1 i ≤ IntKind.max .u8)) = true := a
  have b' : (decide (IntKind.min .u64 ≤ it_2 l1 i) && decide (it_2 l1 i ≤ IntKind.max .u64)) = true := b
  have c' : (decide ((it_3 l1 i).length ≤ maxLen) && wfL (wfD TB) (it_3 l1 i)) = true := c
  rw [Bool.and_eq_true, decide_eq_true_eq, decide_eq_true_eq] at a' b'
  rw [Bool.and_eq_true, wfL_iff] at c'
  have m1 : IntKind.min .u8 = 0 := rfl
  have m2 : IntKind.max .u8 = 255 := rfl
  have m3 : IntKind.min .u64 = 0 := rfl
  have m4 : IntKind.max .u64 = 18446744073709551615 := rfl
  refine ⟨by omega, by omega, by omega, by omega, fun x hx => ?_⟩
  have : (decide (IntKind.min .u8 ≤ x) && decide (x ≤ IntKind.max .u8)) = true := c'.2 x hx
  rw [Bool.and_eq_true, decide_eq_true_eq, decide_eq_true_eq] at this
  omega
theorem wf_bytes {l : List (Ty.den TB)} (h : wfD (.sl TB) l = true) : Wb l := fun x hx => by
  have h' : (decide (l.length ≤ maxLen) && wfL (wfD TB) l) = true := h
  rw [Bool.and_eq_true, wfL_iff] at h'
  have : (decide (IntKind.min .u8 ≤ x) && decide (x ≤ IntKind.max .u8)) = true := h'.2 x hx
  rw [Bool.and_eq_true, decide_eq_true_eq, decide_eq_true_eq] at this
  have m1 : IntKind.min .u8 = 0 := rfl
  have m2 : IntKind.max .u8 = 255 := rfl
  omega
theorem t4' {l0 : List Int} {l1 : LI} (h0 : wfD (.sl TB) l0 = true) (h1 : wfD (.sl TIt) l1 = true) : (ev_W4 [.l TB l0, .l TIt l1]).sel = some true :=
  t4 l0 l1 (wf_bytes h0) fun i a b => (wf_items h1 i a b).1
end Go.Proofs.Ytdepolalngehdaa.Vx
namespace Go.Proofs.Ytdepolalngehdaa.Vx
open Go Go.RowKit
set_option linter.unusedVariables false
set_option linter.unusedSimpArgs false
set_option maxRecDepth 100000
set_option maxHeartbeats 1000000
theorem byt0 {n : Int} (h : 0 ≤ n) : byt n 0 = n / 1 % 256 := by
  show IntKind.wrap .u8 (n.fdiv 1) = _
  rw [wu8, Int.fdiv_eq_ediv_of_nonneg _ (by decide)]
theorem byt1 {n : Int} (h : 0 ≤ n) : byt n 1 = n / 256 % 256 := by
  show IntKind.wrap .u8 (n.fdiv 256) = _
  rw [wu8, Int.fdiv_eq_ediv_of_nonneg _ (by decide)]
theorem byt2 {n : Int} (h : 0 ≤ n) : byt n 2 = n / 65536 % 256 := by
  show IntKind.wrap .u8 (n.fdiv 65536) = _
  rw [wu8, Int.fdiv_eq_ediv_of_nonneg _ (by decide)]
theorem byt3 {n : Int} (h : 0 ≤ n) : byt n 3 = n / 16777216 % 256 := by
  show IntKind.wrap .u8 (n.fdiv 16777216) = _
  rw [wu8, Int.fdiv_eq_ediv_of_nonneg _ (by decide)]
theorem byt4 {n : Int} (h : 0 ≤ n) : byt n 4 = n / 4294967296 % 256 := by
  show IntKind.wrap .u8 (n.fdiv 4294967296) = _
  rw [wu8, Int.fdiv_eq_ediv_of_nonneg _ (by decide)]
theorem byt5 {n : Int} (h : 0 ≤ n) : byt n 5 = n / 1099511627776 % 256 := by
  show IntKind.wrap .u8 (n.fdiv 1099511627776) = _
  rw [wu8, Int.fdiv_eq_ediv_of_nonneg _ (by decide)]
theorem byt6 {n : Int} (h : 0 ≤ n) : byt n 6 = n / 281474976710656 % 256 := by
  show IntKind.wrap .u8 (n.fdiv 281474976710656) = _
  rw [wu8, Int.fdiv_eq_ediv_of_nonneg _ (by decide)]
theorem byt7 {n : Int} (h : 0 ≤ n) : byt n 7 = n / 72057594037927936 % 256 := by
  show IntKind.wrap .u8 (n.fdiv 72057594037927936) = _
  rw [wu8, Int.fdiv_eq_ediv_of_nonneg _ (by decide)]
theorem nmb1 {n : Int} (h : 0 ≤ n) : nm (bes n 1) = n % 256 := by
  show nm [byt n 0] = _
  rw [byt0 h]
  simp only [nm, List.foldl]
  omega
theorem nmb2 {n : Int} (h : 0 ≤ n) : nm (bes n 2) = n % 65536 := by
  show nm [byt n 1, byt n 0] = _
  rw [byt0 h, byt1 h]
  simp only [nm, List.foldl]
  omega
theorem nmb4 {n : Int} (h : 0 ≤ n) : nm (bes n 4) = n % 4294967296 := by
  show nm [byt n 3, byt n 2, byt n 1, byt n 0] = _
  rw [byt0 h, byt1 h, byt2 h, byt3 h]
  simp only [nm, List.foldl]
  omega
theorem nmb8 {n : Int} (h : 0 ≤ n) : nm (bes n 8) = n % 18446744073709551616 := by
  show nm [byt n 7, byt n 6, byt n 5, byt n 4, byt n 3, byt n 2, byt n 1, byt n 0] = _
  rw [byt0 h, byt1 h, byt2 h, byt3 h, byt4 h, byt5 h, byt6 h, byt7 h]
  simp only [nm, List.foldl]
  omega
theorem besw1 {n : Int} (h : 0 ≤ n) : bes (IntKind.wrap .u64 (IntKind.wrap .u8 n)) 1 = bes n 1 := by
  have e : IntKind.wrap .u64 (IntKind.wrap .u8 n) = n % 256 := by rw [wu8, wu64]; omega
  have h' : 0 ≤ n % 256 := by omega
  rw [e]
  show [byt (n % 256) 0] = [byt n 0]
  rw [byt0 h', byt0 h]
  congr 1 <;> (try omega) <;> (try (congr 1 <;> (try omega) <;> (try (congr 1 <;> (try omega) <;> (try (congr 1 <;> omega))))))
theorem besw2 {n : Int} (h : 0 ≤ n) : bes (IntKind.wrap .u64 (IntKind.wrap .u16 n)) 2 = bes n 2 := by
  have e : IntKind.wrap .u64 (IntKind.wrap .u16 n) = n % 65536 := by rw [wu16, wu64]; omega
  have h' : 0 ≤ n % 65536 := by omega
  rw [e]
  show [byt (n % 65536) 1, byt (n % 65536) 0] = [byt n 1, byt n 0]
  rw [byt0 h', byt1 h', byt0 h, byt1 h]
  congr 1 <;> (try omega) <;> (try (congr 1 <;> (try omega) <;> (try (congr 1 <;> (try omega) <;> (try (congr 1 <;> omega))))))
theorem besw4 {n : Int} (h : 0 ≤ n) : bes (IntKind.wrap .u64 (IntKind.wrap .u32 n)) 4 = bes n 4 := by
  have e : IntKind.wrap .u64 (IntKind.wrap .u32 n) = n % 4294967296 := by rw [wu32, wu64]; omega
  have h' : 0 ≤ n % 4294967296 := by omega
  rw [e]
  show [byt (n % 4294967296) 3, byt (n % 4294967296) 2, byt (n % 4294967296) 1, byt (n % 4294967296) 0] = [byt n 3, byt n 2, byt n 1, byt n 0]
  rw [byt0 h', byt1 h', byt2 h', byt3 h', byt0 h, byt1 h, byt2 h, byt3 h]
  congr 1 <;> (try omega) <;> (try (congr 1 <;> (try omega) <;> (try (congr 1 <;> (try omega) <;> (try (congr 1 <;> omega))))))
/-- What an item has as bytes. -/
def encI (l0 : LI) (i : Int) : List Int := if Int.tmod (it_1 l0 i) 5 = 4 then it_3 l0 i else bes (it_2 l0 i) (if Int.tmod (it_1 l0 i) 5 = 0 then 1 else if Int.tmod (it_1 l0 i) 5 = 1 then 2 else if Int.tmod (it_1 l0 i) 5 = 2 then 4 else 8)
theorem enc0 {l0 : LI} {i : Int} (h : Int.tmod (it_1 l0 i) 5 = 0) : encI l0 i = bes (it_2 l0 i) 1 := by unfold encI; rw [h]; rfl
theorem enc1 {l0 : LI} {i : Int} (h : Int.tmod (it_1 l0 i) 5 = 1) : encI l0 i = bes (it_2 l0 i) 2 := by unfold encI; rw [h]; rfl
theorem enc2 {l0 : LI} {i : Int} (h : Int.tmod (it_1 l0 i) 5 = 2) : encI l0 i = bes (it_2 l0 i) 4 := by unfold encI; rw [h]; rfl
theorem enc3 {l0 : LI} {i : Int} (h : Int.tmod (it_1 l0 i) 5 = 3) : encI l0 i = bes (it_2 l0 i) 8 := by unfold encI; rw [h]; rfl
theorem enc4 {l0 : LI} {i : Int} (h : Int.tmod (it_1 l0 i) 5 = 4) : encI l0 i = it_3 l0 i := by unfold encI; rw [h]; rfl
def encTo (l0 : LI) : Nat → List Int
  | 0 => []
  | n + 1 => encTo l0 n ++ encI l0 (n : Int)
def encFr (l0 : LI) : Nat → Nat → List Int
  | _, 0 => []
  | i, c + 1 => encI l0 (i : Int) ++ encFr l0 (i + 1) c
theorem encFr_snoc (l0 : LI) : ∀ (c i : Nat), encFr l0 i (c + 1) = encFr l0 i c ++ encI l0 ((i + c : Nat) : Int)
  | 0, i => by simp [encFr]
  | c + 1, i => by
    have := encFr_snoc l0 c (i + 1)
    show encI l0 (i : Int) ++ encFr l0 (i + 1) (c + 1) = (encI l0 (i : Int) ++ encFr l0 (i + 1) c) ++ encI l0 ((i + (c + 1) : Nat) : Int)
    rw [this, List.append_assoc, show i + 1 + c = i + (c + 1) by omega]
theorem encTo_fr (l0 : LI) : ∀ n, encTo l0 n = encFr l0 0 n
  | 0 => rfl
  | n + 1 => by rw [encFr_snoc, ← encTo_fr l0 n, Nat.zero_add]; rfl
/-- What is known of all items. -/
def Its (l0 : LI) : Prop := l0.length ≤ 100 ∧ ∀ i : Int, 0 ≤ i → i < (l0.length : Int) → 0 ≤ it_1 l0 i ∧ it_1 l0 i < 256 ∧ 0 ≤ it_2 l0 i ∧ it_2 l0 i < 18446744073709551616 ∧ Wb (it_3 l0 i) ∧ (it_3 l0 i).length ≤ 3000
theorem enc_len {l0 : LI} (h : Its l0) {i : Int} (h0 : 0 ≤ i) (h1 : i < (l0.length : Int)) : (encI l0 i).length ≤ 3000 := by
  have hx := h.2 i h0 h1
  rcases kinds5 hx.1 with hk | hk | hk | hk | hk
  · rw [enc0 hk, be_len]; omega
  · rw [enc1 hk, be_len]; omega
  · rw [enc2 hk, be_len]; omega
  · rw [enc3 hk, be_len]; omega
  · rw [enc4 hk]; exact hx.2.2.2.2.2
theorem enc_wb {l0 : LI} (h : Its l0) {i : Int} (h0 : 0 ≤ i) (h1 : i < (l0.length : Int)) : Wb (encI l0 i) := by
  have hx := h.2 i h0 h1
  rcases kinds5 hx.1 with hk | hk | hk | hk | hk
  · rw [enc0 hk]; exact be_wb _ _
  · rw [enc1 hk]; exact be_wb _ _
  · rw [enc2 hk]; exact be_wb _ _
  · rw [enc3 hk]; exact be_wb _ _
  · rw [enc4 hk]; exact hx.2.2.2.2.1
theorem encTo_len {l0 : LI} (h : Its l0) : ∀ n : Nat, n ≤ l0.length → (encTo l0 n).length ≤ 3000 * n
  | 0, _ => by simp [encTo]
  | n + 1, hn => by
    have a := encTo_len h n (by omega)
    have b := enc_len h (i := (n : Int)) (by omega) (by omega)
    rw [encTo, List.length_append]; omega
theorem Wb.app {a b : List Int} (h : Wb a) (k : Wb b) : Wb (a ++ b) := fun x hx => by
  rcases List.mem_append.1 hx with q | q
  · exact h x q
  · exact k x q
theorem encFr_wb {l0 : LI} (h : Its l0) : ∀ c i : Nat, i + c ≤ l0.length → Wb (encFr l0 i c)
  | 0, i, _ => fun x hx => by cases hx
  | c + 1, i, hc => by
    rw [encFr]
    exact (enc_wb h (by omega) (by omega)).app (encFr_wb h c (i + 1) (by omega))
theorem encFr_len {l0 : LI} (h : Its l0) : ∀ c i : Nat, i + c ≤ l0.length → (encFr l0 i c).length ≤ 3000 * c
  | 0, i, _ => by simp [encFr]
  | c + 1, i, hc => by
    have a := enc_len h (i := (i : Int)) (by omega) (by omega)
    have b := encFr_len h c (i + 1) (by omega)
    rw [encFr, List.length_append]; omega
/-! ### Are there too many? -/
theorem lp8 (l0 : LI) (hl : l0.length ≤ 100) : Good (fun y => y = (1, [Dat.b true]) ∨ (y = (0, []) ∧ ∀ i : Int, 0 ≤ i → i < (l0.length : Int) → (it_3 l0 i).length ≤ 3000)) (op_L8_5 [.k 0, .l TIt l0, .n 0, .n 0]) := by
  refine op_L8_5_good (fun env => ∃ (s i : Int), env = [.k 0, .l TIt l0, .n s, .n i] ∧ 0 ≤ s ∧ s ≤ 3000 ∧ 0 ≤ i ∧ i ≤ (l0.length : Int) ∧ ∀ j : Int, 0 ≤ j → j < i → (it_3 l0 j).length ≤ 3000) (fun env => (l0.length - gn env 3).toNat) ?_ _ ⟨0, 0, rfl, by omega, by omega, by omega, by omega, fun j a b => by omega⟩ (by show ((l0.length : Int) - 0).toNat < FU; unfold FU; omega)
  rintro env ⟨s, i, rfl, a0, a1, a2, a3, a4⟩
  have w := w64s (x := i + 1) (by omega) (by omega)
  have w3 := w64s (x := 3000 - s) (by omega) (by omega)
  refine Imp.good (fn_L8_5_t_im l0 s i) ?_
  unfold fn_L8_5_t
  refine good_node (fun q => ?_) (fun q => ?_)
  · have hi : i < (l0.length : Int) := of_decide_eq_true q
    refine good_t (inR_true a2 hi) ?_
    refine good_node (fun q => good_leaf (.inl rfl)) (fun q => ?_)
    rw [w3] at q
    have hb : ((it_3 l0 i).length : Int) ≤ 3000 - s := by have : ¬ (((it_3 l0 i).length : Int) > 3000 - s) := of_decide_eq_false q; omega
    have ws : IntKind.wrap .i64 (s + ((it_3 l0 i).length : Int)) = s + ((it_3 l0 i).length : Int) := w64s (by omega) (by omega)
    refine good_leaf ⟨⟨s + ((it_3 l0 i).length : Int), i + 1, by erw [ws, w], by omega, by omega, by omega, by omega, fun j b0 b1 => ?_⟩, ?_⟩
    · by_cases e : j = i
      · subst e; omega
      · exact a4 j b0 (by omega)
    · show ((l0.length : Int) - IntKind.wrap .i64 (i + 1)).toNat < ((l0.length : Int) - i).toNat
      rw [w]; omega
  · have hi : ¬ i < (l0.length : Int) := of_decide_eq_false q
    exact good_leaf (.inr ⟨rfl, fun j b0 b1 => a4 j b0 (by omega)⟩)
theorem t8 (l0 : LI) (hw : wfD (.sl TIt) l0 = true) : op_8 [.l TIt l0] = some (0, [.b true]) ∨ (op_8 [.l TIt l0] = some (0, [.b false]) ∧ Its l0) := by
  have key : Good (fun y => y = (0, [Dat.b true]) ∨ (y = (0, [Dat.b false]) ∧ Its l0)) (op_8 [.l TIt l0]) := by
    refine op_8_good (fn_8_t_im l0) ?_
    unfold fn_8_t
    refine good_node (fun _ => good_leaf (.inl rfl)) (fun q => ?_)
    have hl : l0.length ≤ 100 := by have := of_decide_eq_false q; omega
    obtain ⟨y, e, hy⟩ := lp8 l0 hl
    rcases hy with rfl | ⟨rfl, hy⟩
    · exact good_f (by erw [e]; rfl) (good_t (by erw [e]; rfl) (good_leaf (.inl (by erw [e]; rfl))))
    · exact good_t (by erw [e]; rfl) (good_leaf (.inr ⟨rfl, hl, fun i a b => ⟨(wf_items hw i a b).1, (wf_items hw i a b).2.1, (wf_items hw i a b).2.2.1, (wf_items hw i a b).2.2.2.1, (wf_items hw i a b).2.2.2.2, hy i a b⟩⟩))
  obtain ⟨y, e, hy⟩ := key
  rw [e]
  rcases hy with rfl | ⟨rfl, h⟩
  · exact .inl rfl
  · exact .inr ⟨rfl, h⟩
theorem pr1 {a b c d : List Int} (h : a = c) (k : b = d) : (some (0, [Dat.n (nm a), .s s0, .l TB b, .b false]) : Option (Nat × List Dat)) = some (0, [Dat.n (nm c), .s s0, .l TB d, .b false]) := by subst h; subst k; rfl
theorem pr2 {a b c d : List Int} (h : a = c) (k : b = d) : (some (0, [Dat.n 0, .s (strOf a), .l TB b, .b false]) : Option (Nat × List Dat)) = some (0, [Dat.n 0, .s (strOf c), .l TB d, .b false]) := by subst h; subst k; rfl
theorem pr3 {a b c d : List Int} (h : a = c) (k : b = d) : (some (0, [Dat.l TB a, .l TB b, .b false]) : Option (Nat × List Dat)) = some (0, [Dat.l TB c, .l TB d, .b false]) := by subst h; subst k; rfl
/-! ### FieldsBack -/
def InvW (l0 : LI) (l1 : List Int) (i : Int) (env : List Dat) : Prop := (i = 0 ∧ env = [.k 0, .l TIt l0, .l TB l1, .n 0]) ∨ (1 ≤ i ∧ env = [.k 1, .l TIt l0, .l TB l1, .n i, .l TB (encTo l0 i.toNat)])
def StepW (l0 : LI) (l1 : List Int) (i : Int) : Step → Prop
  | .go e => InvW l0 l1 (i + 1) e
  | .stop k d => False
theorem encTo_step (l0 : LI) {i : Int} (h : 0 ≤ i) : encTo l0 (i + 1).toNat = encTo l0 i.toNat ++ encI l0 i := by
  rw [show (i + 1).toNat = i.toNat + 1 by omega, encTo, show ((i.toNat : Nat) : Int) = i by omega]
theorem encTo_one (l0 : LI) : encTo l0 ((0 : Int) + 1).toNat = encI l0 0 := by
  rw [encTo_step l0 (by omega)]; rfl
theorem stepWn {l0 : LI} {l1 : List Int} (hI : Its l0) {i : Int} (hi : i = 0) (h1 : i < (l0.length : Int)) : Good (StepW l0 l1 i) (st_L5_5 [.k 0, .l TIt l0, .l TB l1, .n i]).sel := by
  obtain ⟨p0, _, p2, p3, p4, p5⟩ := hI.2 i (by omega) h1
  have w := w64s (x := i + 1) (by omega) (by omega)
  refine Imp.good (fn_L5_5_n_im l0 l1 i (by omega) h1) ?_
  unfold fn_L5_5_n
  have fin : ∀ x : List Int, x = encI l0 i → InvW l0 l1 (i + 1) [.k 1, .l TIt l0, .l TB l1, .n (i + 1), .l TB x] := fun x hx => .inr ⟨by omega, by subst hi; rw [encTo_one, hx]⟩
  rcases kinds5 p0 with hk | hk | hk | hk | hk
  · have e1 := t35a (IntKind.wrap .u64 (IntKind.wrap .u8 (it_2 l0 i))) 1 (by omega) (by omega)
    rw [besw1 p2] at e1
    exact good_t (by rw [hk]; rfl) (good_f (by erw [e1]; rfl) (good_t (by erw [e1]; rfl) (good_leaf (by erw [e1, w]; exact fin _ (enc0 hk).symm))))
  · have e1 := t35a (IntKind.wrap .u64 (IntKind.wrap .u16 (it_2 l0 i))) 2 (by omega) (by omega)
    rw [besw2 p2] at e1
    exact good_f (by rw [hk]; rfl) (good_t (by rw [hk]; rfl) (good_f (by erw [e1]; rfl) (good_t (by erw [e1]; rfl) (good_leaf (by erw [e1, w]; exact fin _ (enc1 hk).symm)))))
  · have e1 := t35a (IntKind.wrap .u64 (IntKind.wrap .u32 (it_2 l0 i))) 4 (by omega) (by omega)
    rw [besw4 p2] at e1
    exact good_f (by rw [hk]; rfl) (good_f (by rw [hk]; rfl) (good_t (by rw [hk]; rfl) (good_f (by erw [e1]; rfl) (good_t (by erw [e1]; rfl) (good_leaf (by erw [e1, w]; exact fin _ (enc2 hk).symm))))))
  · have e1 := t35a (it_2 l0 i) 8 (by omega) (by omega)
    skip
    exact good_f (by rw [hk]; rfl) (good_f (by rw [hk]; rfl) (good_f (by rw [hk]; rfl) (good_t (by rw [hk]; rfl) (good_f (by erw [e1]; rfl) (good_t (by erw [e1]; rfl) (good_leaf (by erw [e1, w]; exact fin _ (enc3 hk).symm)))))))
  · exact good_f (by rw [hk]; rfl) (good_f (by rw [hk]; rfl) (good_f (by rw [hk]; rfl) (good_f (by rw [hk]; rfl) (good_t (decide_eq_true (show (it_3 l0 i).length * 1 ≤ 140737488355328 by omega)) (good_leaf (by erw [w]; exact fin _ (enc4 hk).symm))))))
theorem stepWo {l0 : LI} {l1 : List Int} (hI : Its l0) {i : Int} (h0 : 1 ≤ i) (h1 : i < (l0.length : Int)) {l : List Int} (hl : l = encTo l0 i.toNat) : Good (StepW l0 l1 i) (st_L5_5 [.k 1, .l TIt l0, .l TB l1, .n i, .l TB l]).sel := by
  obtain ⟨p0, _, p2, p3, p4, p5⟩ := hI.2 i (by omega) h1
  have hlen := hI.1
  have w := w64s (x := i + 1) (by omega) (by omega)
  have hll : l.length ≤ 300000 := by
    have := encTo_len hI i.toNat (by omega)
    rw [hl]; omega
  refine Imp.good (fn_L5_5_o_im l0 l1 i l (by omega) h1) ?_
  unfold fn_L5_5_o
  have fin : ∀ x : List Int, x = l ++ encI l0 i → InvW l0 l1 (i + 1) [.k 1, .l TIt l0, .l TB l1, .n (i + 1), .l TB x] := fun x hx => .inr ⟨by omega, by rw [encTo_step l0 (by omega), hx, hl]⟩
  rcases kinds5 p0 with hk | hk | hk | hk | hk
  · have e1 := t35b (IntKind.wrap .u64 (IntKind.wrap .u8 (it_2 l0 i))) 1 (by omega) l (by omega)
    rw [besw1 p2] at e1
    exact good_t (by rw [hk]; rfl) (good_t (by erw [e1]; rfl) (good_leaf (by erw [e1, w]; exact fin _ (by rw [enc0 hk]; rfl))))
  · have e1 := t35b (IntKind.wrap .u64 (IntKind.wrap .u16 (it_2 l0 i))) 2 (by omega) l (by omega)
    rw [besw2 p2] at e1
    exact good_f (by rw [hk]; rfl) (good_t (by rw [hk]; rfl) (good_t (by erw [e1]; rfl) (good_leaf (by erw [e1, w]; exact fin _ (by rw [enc1 hk]; rfl)))))
  · have e1 := t35b (IntKind.wrap .u64 (IntKind.wrap .u32 (it_2 l0 i))) 4 (by omega) l (by omega)
    rw [besw4 p2] at e1
    exact good_f (by rw [hk]; rfl) (good_f (by rw [hk]; rfl) (good_t (by rw [hk]; rfl) (good_t (by erw [e1]; rfl) (good_leaf (by erw [e1, w]; exact fin _ (by rw [enc2 hk]; rfl))))))
  · have e1 := t35b (it_2 l0 i) 8 (by omega) l (by omega)
    skip
    exact good_f (by rw [hk]; rfl) (good_f (by rw [hk]; rfl) (good_f (by rw [hk]; rfl) (good_t (by rw [hk]; rfl) (good_t (by erw [e1]; rfl) (good_leaf (by erw [e1, w]; exact fin _ (by rw [enc3 hk]; rfl)))))))
  · exact good_f (by rw [hk]; rfl) (good_f (by rw [hk]; rfl) (good_f (by rw [hk]; rfl) (good_f (by rw [hk]; rfl) (good_t (decide_eq_true (show (l.length + (it_3 l0 i).length) * 1 ≤ 140737488355328 by omega)) (good_leaf (by erw [w]; exact fin _ (by rw [enc4 hk]; rfl)))))))
theorem atW {l0 : LI} {l1 : List Int} {i : Int} {env : List Dat} (h : InvW l0 l1 i env) : gn env 3 = i := by
  rcases h with ⟨rfl, rfl⟩ | ⟨_, rfl⟩ <;> rfl
def EndW (l0 : LI) (l1 : List Int) (y : Nat × List Dat) : Prop := (l0.length = 0 ∧ y = (0, [.l TIt l0, .l TB l1])) ∨ (1 ≤ l0.length ∧ y = (1, [.l TIt l0, .l TB l1, .l TB (encTo l0 l0.length)]))
theorem runW {l0 : LI} {l1 : List Int} (hI : Its l0) : Good (EndW l0 l1) (op_L5_5 [.k 0, .l TIt l0, .l TB l1, .n 0]) := by
  have hlen := hI.1
  refine op_L5_5_good (fun env => ∃ i : Int, 0 ≤ i ∧ i ≤ l0.length ∧ InvW l0 l1 i env) (fun env => (l0.length - gn env 3).toNat) ?_ _ ⟨0, by omega, by omega, .inl ⟨rfl, rfl⟩⟩ (by show ((l0.length : Int) - 0).toNat < FU; unfold FU; omega)
  rintro env ⟨i, h0, h1, hI'⟩
  rw [atW hI']
  by_cases hlt : i < l0.length
  · have fin : Good (StepW l0 l1 i) (st_L5_5 env).sel := by
      rcases hI' with ⟨rfl, rfl⟩ | ⟨a, rfl⟩
      · exact stepWn hI rfl hlt
      · exact stepWo hI a hlt rfl
    obtain ⟨y, e, hy⟩ := fin
    refine ⟨y, e, ?_⟩
    cases y with
    | stop k d => exact hy.elim
    | go e' =>
      have hy : InvW l0 l1 (i + 1) e' := hy
      refine ⟨⟨i + 1, by omega, by omega, hy⟩, ?_⟩
      show ((l0.length : Int) - gn e' 3).toNat < _
      rw [atW hy]; omega
  · have hd : i = (l0.length : Int) := by omega
    rcases hI' with ⟨rfl, rfl⟩ | ⟨a, rfl⟩
    · exact Imp.good (fn_L5_5_xn_im l0 l1 0 hd) (good_leaf (.inl ⟨by omega, rfl⟩))
    · refine Imp.good (fn_L5_5_xo_im l0 l1 i _ hd) (good_leaf (.inr ⟨by omega, ?_⟩))
      rw [show i.toNat = l0.length by omega]
def InvB (l0 : LI) (l1 : List Int) (i : Int) (env : List Dat) : Prop := env = [.k 0, .l TIt l0, .l TB l1, .n i, .l TB (encFr l0 i.toNat (l0.length - i.toNat) ++ l1), .b false]
def StepB (l0 : LI) (l1 : List Int) (i : Int) : Step → Prop
  | .go e => InvB l0 l1 (i + 1) e
  | .stop k d => False
theorem stepB {l0 : LI} {l1 : List Int} (hI : Its l0) (hw1 : Wb l1) (hl1 : l1.length ≤ 3000) {i : Int} (h0 : 0 ≤ i) (h1 : i < (l0.length : Int)) {l : List Int} (hl : l = encFr l0 i.toNat (l0.length - i.toNat) ++ l1) : Good (StepB l0 l1 i) (st_L5_11 [.k 0, .l TIt l0, .l TB l1, .n i, .l TB l, .b false]).sel := by
  obtain ⟨p0, _, p2, p3, p4, p5⟩ := hI.2 i h0 h1
  have hlen := hI.1
  have w := w64s (x := i + 1) (by omega) (by omega)
  obtain ⟨c, hc⟩ : ∃ c, l0.length - i.toNat = c + 1 := ⟨l0.length - i.toNat - 1, by omega⟩
  obtain ⟨rest, hrest⟩ : ∃ rest, rest = encFr l0 (i.toNat + 1) c ++ l1 := ⟨_, rfl⟩
  have hsplit : l = encI l0 i ++ rest := by
    rw [hl, hc, encFr, show ((i.toNat : Nat) : Int) = i by omega, List.append_assoc, hrest]
  have hwl : Wb l := by rw [hl]; exact (encFr_wb hI _ _ (by omega)).app hw1
  have hll : l.length ≤ 400000 := by
    have := encFr_len hI (l0.length - i.toNat) i.toNat (by omega)
    rw [hl, List.length_append]; omega
  have fin : ∀ x : List Int, x = rest → InvB l0 l1 (i + 1) [.k 0, .l TIt l0, .l TB l1, .n (i + 1), .l TB x, .b false] := fun x hx => by
    unfold InvB
    rw [hx, hrest, show (i + 1).toNat = i.toNat + 1 by omega, show l0.length - (i.toNat + 1) = c by omega]
  refine Imp.good (fn_L5_11_t_im l0 l1 i l h0 h1) ?_
  unfold fn_L5_11_t
  rcases kinds5 p0 with hk | hk | hk | hk | hk
  · have hs := hsplit
    rw [enc0 hk] at hs
    have hbl := be_len (it_2 l0 i) 1
    have e1 := t16_0ok (N := it_2 l0 i) (B := it_3 l0 i) hk hwl (by rw [hs, List.length_append, hbl]; omega)
    have ht : l.take 1 = bes (it_2 l0 i) 1 := by rw [hs]; exact List.take_left' hbl
    have hd : l.drop 1 = rest := by rw [hs]; exact List.drop_left' hbl
    replace e1 := e1.trans (pr1 ht hd)
    have e2 : op_30 [.n (it_2 l0 i), .n (List.getD [(1 : Int), (2 : Int), (4 : Int), (8 : Int)] (Int.toNat (Int.tmod (it_1 l0 i) (5 : Int))) (0 : Int))] = some (0, [.l TB (bes (it_2 l0 i) 1)]) := by rw [hk]; exact t30 (it_2 l0 i) 1 (by omega)
    have e3 := t17 (l := bes (it_2 l0 i) 1) (by omega) (be_wb _ _)
    exact good_f (by rw [hk]; rfl) (good_t (by erw [e1]; rfl) (good_t (by rw [hk]; rfl) (good_t (by erw [e2]; rfl) (good_t (by erw [e2]; erw [e3]; rfl) (good_f (by erw [e1, e2]; erw [e3]; exact bne_no rfl) (good_leaf (by erw [e1, w]; exact fin _ rfl)))))))
  · have hs := hsplit
    rw [enc1 hk] at hs
    have hbl := be_len (it_2 l0 i) 2
    have e1 := t16_1ok (N := it_2 l0 i) (B := it_3 l0 i) hk hwl (by rw [hs, List.length_append, hbl]; omega)
    have ht : l.take 2 = bes (it_2 l0 i) 2 := by rw [hs]; exact List.take_left' hbl
    have hd : l.drop 2 = rest := by rw [hs]; exact List.drop_left' hbl
    replace e1 := e1.trans (pr1 ht hd)
    have e2 : op_30 [.n (it_2 l0 i), .n (List.getD [(1 : Int), (2 : Int), (4 : Int), (8 : Int)] (Int.toNat (Int.tmod (it_1 l0 i) (5 : Int))) (0 : Int))] = some (0, [.l TB (bes (it_2 l0 i) 2)]) := by rw [hk]; exact t30 (it_2 l0 i) 2 (by omega)
    have e3 := t17 (l := bes (it_2 l0 i) 2) (by omega) (be_wb _ _)
    exact good_f (by rw [hk]; rfl) (good_t (by erw [e1]; rfl) (good_t (by rw [hk]; rfl) (good_t (by erw [e2]; rfl) (good_t (by erw [e2]; erw [e3]; rfl) (good_f (by erw [e1, e2]; erw [e3]; exact bne_no rfl) (good_leaf (by erw [e1, w]; exact fin _ rfl)))))))
  · have hs := hsplit
    rw [enc2 hk] at hs
    have hbl := be_len (it_2 l0 i) 4
    have e1 := t16_2ok (N := it_2 l0 i) (B := it_3 l0 i) hk hwl (by rw [hs, List.length_append, hbl]; omega)
    have ht : l.take 4 = bes (it_2 l0 i) 4 := by rw [hs]; exact List.take_left' hbl
    have hd : l.drop 4 = rest := by rw [hs]; exact List.drop_left' hbl
    replace e1 := e1.trans (pr1 ht hd)
    have e2 : op_30 [.n (it_2 l0 i), .n (List.getD [(1 : Int), (2 : Int), (4 : Int), (8 : Int)] (Int.toNat (Int.tmod (it_1 l0 i) (5 : Int))) (0 : Int))] = some (0, [.l TB (bes (it_2 l0 i) 4)]) := by rw [hk]; exact t30 (it_2 l0 i) 4 (by omega)
    have e3 := t17 (l := bes (it_2 l0 i) 4) (by omega) (be_wb _ _)
    exact good_f (by rw [hk]; rfl) (good_t (by erw [e1]; rfl) (good_t (by rw [hk]; rfl) (good_t (by erw [e2]; rfl) (good_t (by erw [e2]; erw [e3]; rfl) (good_f (by erw [e1, e2]; erw [e3]; exact bne_no rfl) (good_leaf (by erw [e1, w]; exact fin _ rfl)))))))
  · have hs := hsplit
    rw [enc3 hk] at hs
    have hbl := be_len (it_2 l0 i) 8
    have e1 := t16_3ok (N := it_2 l0 i) (B := it_3 l0 i) hk hwl (by rw [hs, List.length_append, hbl]; omega)
    have ht : l.take 8 = bes (it_2 l0 i) 8 := by rw [hs]; exact List.take_left' hbl
    have hd : l.drop 8 = rest := by rw [hs]; exact List.drop_left' hbl
    replace e1 := e1.trans (pr1 ht hd)
    have e2 : op_30 [.n (it_2 l0 i), .n (List.getD [(1 : Int), (2 : Int), (4 : Int), (8 : Int)] (Int.toNat (Int.tmod (it_1 l0 i) (5 : Int))) (0 : Int))] = some (0, [.l TB (bes (it_2 l0 i) 8)]) := by rw [hk]; exact t30 (it_2 l0 i) 8 (by omega)
    have e3 := t17 (l := bes (it_2 l0 i) 8) (by omega) (be_wb _ _)
    exact good_f (by rw [hk]; rfl) (good_t (by erw [e1]; rfl) (good_t (by rw [hk]; rfl) (good_t (by erw [e2]; rfl) (good_t (by erw [e2]; erw [e3]; rfl) (good_f (by erw [e1, e2]; erw [e3]; exact bne_no rfl) (good_leaf (by erw [e1, w]; exact fin _ rfl)))))))
  · have hs := hsplit
    rw [enc4 hk] at hs
    have wl : IntKind.wrap .i64 (IntKind.wrap .u64 ((it_3 l0 i).length : Int)) = ((it_3 l0 i).length : Int) := by rw [wu64, w64d]; omega
    have hq : l.length = (it_3 l0 i).length + rest.length := by
      have hq := congrArg List.length hsplit
      rw [List.length_append, enc4 hk] at hq
      exact hq
    have e1 := t16_4ok (N := IntKind.wrap .u64 ((it_3 l0 i).length : Int)) (B := it_3 l0 i) (l := l) hk (by omega) (by rw [wl]; omega) (by rw [wl]; omega)
    have hn : (IntKind.wrap .i64 (IntKind.wrap .u64 ((it_3 l0 i).length : Int))).toNat = (it_3 l0 i).length := by rw [wl]; omega
    have ht : l.take (it_3 l0 i).length = it_3 l0 i := by rw [hs]; exact List.take_left' rfl
    have hd : l.drop (it_3 l0 i).length = rest := by rw [hs]; exact List.drop_left' rfl
    replace e1 := e1.trans (pr2 ((congrArg (fun z => l.take z) hn).trans ht) ((congrArg (fun z => l.drop z) hn).trans hd))
    exact good_t (by rw [hk]; rfl) (good_t (by erw [e1]; rfl) (good_f (by erw [e1]; exact strNo _) (good_leaf (by erw [e1, w]; exact fin _ rfl))))
theorem runB {l0 : LI} {l1 : List Int} (hI : Its l0) (hw1 : Wb l1) (hl1 : l1.length ≤ 3000) : op_L5_11 [.k 0, .l TIt l0, .l TB l1, .n 0, .l TB (encTo l0 l0.length ++ l1), .b false] = some (0, [.l TB l1, .l TB l1, .b false]) := by
  have hlen := hI.1
  have key : Good (fun y => y = (0, [Dat.l TB l1, .l TB l1, .b false])) (op_L5_11 [.k 0, .l TIt l0, .l TB l1, .n 0, .l TB (encTo l0 l0.length ++ l1), .b false]) := by
    refine op_L5_11_good (fun env => ∃ i : Int, 0 ≤ i ∧ i ≤ l0.length ∧ InvB l0 l1 i env) (fun env => (l0.length - gn env 3).toNat) ?_ _ ⟨0, by omega, by omega, by unfold InvB; rw [encTo_fr]; rfl⟩ (by show ((l0.length : Int) - 0).toNat < FU; unfold FU; omega)
    rintro env ⟨i, h0, h1, hE⟩
    have at_ : gn env 3 = i := by rw [hE]; rfl
    rw [at_]
    by_cases hlt : i < l0.length
    · have fin : Good (StepB l0 l1 i) (st_L5_11 env).sel := by
        rw [hE]; exact stepB hI hw1 hl1 h0 hlt rfl
      obtain ⟨y, e, hy⟩ := fin
      refine ⟨y, e, ?_⟩
      cases y with
      | stop k d => exact hy.elim
      | go e' =>
        have hy : InvB l0 l1 (i + 1) e' := hy
        refine ⟨⟨i + 1, by omega, by omega, hy⟩, ?_⟩
        have : gn e' 3 = i + 1 := by rw [hy]; rfl
        show ((l0.length : Int) - gn e' 3).toNat < _
        rw [this]; omega
    · have hd : i = (l0.length : Int) := by omega
      rw [hE, show l0.length - i.toNat = 0 by omega]
      exact Imp.good (fn_L5_11_x_im l0 l1 i _ hd) (good_leaf rfl)
  obtain ⟨y, e, hy⟩ := key
  rw [e, hy]
theorem t5 (l0 : LI) (l1 : List Int) (hw0 : wfD (.sl TIt) l0 = true) (hw1 : Wb l1) : (ev_W5 [.l TIt l0, .l TB l1]).sel = some true := by
  obtain ⟨y, e, hy⟩ : Good (fun y => y = true) (ev_W5 [.l TIt l0, .l TB l1]).sel := by
    refine (fn_W5_t_im l0 l1).good ?_
    unfold fn_W5_t
    rcases t8 l0 hw0 with e1 | ⟨e1, hI⟩
    · exact good_t (by erw [e1]; rfl) (good_t (by erw [e1]; rfl) (good_leaf rfl))
    refine good_t (by erw [e1]; rfl) (good_f (by erw [e1]; rfl) (good_node (fun _ => good_leaf rfl) (fun q => ?_)))
    have hl1 : l1.length ≤ 3000 := by have : ¬ ((l1.length : Int) > 3000) := of_decide_eq_false q; omega
    have e5 := runB hI hw1 hl1
    have e6 := t33ok (n := (l1.length : Int)) (l := l1) (by omega) (by omega)
    have hz1 : ((l1.length : Int)).toNat = l1.length := by omega
    replace e6 := e6.trans (pr3 ((congrArg (fun z => l1.take z) hz1).trans List.take_length) ((congrArg (fun z => l1.drop z) hz1).trans List.drop_length))
    have e7 := t31 (l := l1) (by omega)
    obtain ⟨y, e2, hy⟩ := runW (l1 := l1) hI
    have hlen := hI.1
    rcases hy with ⟨hz, rfl⟩ | ⟨hz, rfl⟩
    · have e3 := t31 (l := l1) (by omega)
      have e4 := t13 (l := l1) (by omega)
      rw [show encTo l0 l0.length ++ l1 = l1 by rw [hz]; rfl] at e5
      exact good_t (by erw [e2]; rfl) (good_t (by erw [e2]; exact decide_eq_true (show l1.length * 1 ≤ 140737488355328 by omega)) (good_t (by erw [e2]; erw [e3]; rfl) (good_t (by erw [e2]; erw [e3]; erw [e4]; rfl) (good_t (by erw [e2]; erw [e3]; erw [e4]; erw [e5]; rfl) (good_t (by erw [e2]; erw [e3]; erw [e4]; erw [e5]; exact beq_self_eq_true (l1.length : Int)) (good_t (by erw [e2]; erw [e3]; erw [e4]; erw [e5]; erw [e6]; rfl) (good_t (by erw [e2]; erw [e3]; erw [e4]; erw [e5]; erw [e6]; erw [e7]; rfl) (good_t (by erw [e2]; erw [e3]; erw [e4]; erw [e5]; erw [e6]; erw [e7]; exact strSelf _) (good_t (by erw [e2]; erw [e3]; erw [e4]; erw [e5]; erw [e6]; rfl) (good_leaf rfl))))))))))
    · have hlE := encTo_len hI l0.length (Nat.le_refl _)
      have hlA : (encTo l0 l0.length ++ l1).length ≤ 400000 := by rw [List.length_append]; omega
      have e3 := t31 (l := encTo l0 l0.length ++ l1) (by omega)
      have e4 := t13 (l := encTo l0 l0.length ++ l1) (by omega)
      exact good_f (by erw [e2]; rfl) (good_t (by erw [e2]; rfl) (good_t (by erw [e2]; exact decide_eq_true (show ((encTo l0 l0.length).length + l1.length) * 1 ≤ 140737488355328 by omega)) (good_t (by erw [e2]; erw [e3]; rfl) (good_t (by erw [e2]; erw [e3]; erw [e4]; rfl) (good_t (by erw [e2]; erw [e3]; erw [e4]; erw [e5]; rfl) (good_t (by erw [e2]; erw [e3]; erw [e4]; erw [e5]; exact beq_self_eq_true (l1.length : Int)) (good_t (by erw [e2]; erw [e3]; erw [e4]; erw [e5]; erw [e6]; rfl) (good_t (by erw [e2]; erw [e3]; erw [e4]; erw [e5]; erw [e6]; erw [e7]; rfl) (good_t (by erw [e2]; erw [e3]; erw [e4]; erw [e5]; erw [e6]; erw [e7]; exact strSelf _) (good_t (by erw [e2]; erw [e3]; erw [e4]; erw [e5]; erw [e6]; rfl) (good_leaf rfl)))))))))))
  rw [e, hy]
theorem t5' {l0 : LI} {l1 : List (Ty.den TB)} (h0 : wfD (.sl TIt) l0 = true) (h1 : wfD (.sl TB) l1 = true) : (ev_W5 [.l TIt l0, .l TB l1]).sel = some true := t5 l0 l1 h0 (wf_bytes h1)
end Go.Proofs.Ytdepolalngehdaa.Vx
namespace Go.Proofs.Ytdepolalngehdaa.Vx
open Go Go.RowKit
set_option linter.unusedVariables false
set_option linter.unusedSimpArgs false
set_option maxRecDepth 100000
set_option maxHeartbeats 1000000
/-! ### FieldsPuts -/
theorem lp13 (l0 : LI) (n : Int) (a : List Int) (K N : Int) (c : List Int) : ∀ (k : Nat) (i : Int) (x : List Int) (f : Nat), 0 ≤ i → i + k = x.length → x.length ≤ 1000000 → k < f → iterS st_L3_13 f [.k 0, .l TIt l0, .n n, .n i, .l TB a, .n K, .n N, .l TB c, .l TB x] = some (0, [.l TIt l0, .n n, .l TB a, .l TB c])
  | _, _, _, 0, _, _, _, h => by omega
  | 0, i, x, f + 1, h0, hi, hx, hf => by
    have e : (st_L3_13 [.k 0, .l TIt l0, .n n, .n i, .l TB a, .n K, .n N, .l TB c, .l TB x]).sel = some (.stop 0 [.l TIt l0, .n n, .l TB a, .l TB c]) := by
      refine fn_L3_13_t_im l0 n i a K N c x _ ?_
      unfold fn_L3_13_t
      exact sel_f (decide_eq_false (show ¬ i < (x.length : Int) by omega)) rfl
    unfold iterS
    rw [e]
  | k + 1, i, x, f + 1, h0, hi, hx, hf => by
    have w := w64s (x := i + 1) (by omega) (by omega)
    have hl : (x.set i.toNat (IntKind.wrap .u8 (x.getD i.toNat 0 + 1))).length = x.length := List.length_set
    have e : (st_L3_13 [.k 0, .l TIt l0, .n n, .n i, .l TB a, .n K, .n N, .l TB c, .l TB x]).sel = some (.go [.k 0, .l TIt l0, .n n, .n (i + 1), .l TB a, .n K, .n N, .l TB c, .l TB (x.set i.toNat (IntKind.wrap .u8 (x.getD i.toNat 0 + 1)))]) := by
      refine fn_L3_13_t_im l0 n i a K N c x _ ?_
      unfold fn_L3_13_t
      refine sel_t (decide_eq_true (show i < (x.length : Int) by omega)) (sel_t (inR_true h0 (show i < (x.length : Int) by omega)) ?_)
      exact congrArg (fun z => some (Step.go [.k 0, .l TIt l0, .n n, .n z, .l TB a, .n K, .n N, .l TB c, .l TB (x.set i.toNat (IntKind.wrap .u8 (x.getD i.toNat 0 + 1)))])) w
    unfold iterS
    rw [e]
    exact lp13 l0 n a K N c k (i + 1) _ f (by omega) (by rw [hl]; omega) (by rw [hl]; exact hx) (by omega)
theorem q13 (l0 : LI) (n : Int) (a : List Int) (K N : Int) (c x : List Int) (hx : x.length ≤ 1000000) : op_L3_13 [.k 0, .l TIt l0, .n n, .n 0, .l TB a, .n K, .n N, .l TB c, .l TB x] = some (0, [.l TIt l0, .n n, .l TB a, .l TB c]) := by
  rw [op_L3_13_eq]
  exact lp13 l0 n a K N c x.length 0 x FU (by omega) (by omega) hx (by unfold FU; omega)
theorem lp20 (l0 : LI) (n : Int) (a c : List Int) : ∀ (k : Nat) (i : Int) (x : List Int) (f : Nat), 0 ≤ i → i + k = x.length → x.length ≤ 1000000 → k < f → iterS st_L3_20 f [.k 0, .l TIt l0, .n n, .n i, .l TB a, .l TB x, .l TB c] = some (0, [.l TIt l0, .n n, .l TB a, .l TB c])
  | _, _, _, 0, _, _, _, h => by omega
  | 0, i, x, f + 1, h0, hi, hx, hf => by
    have e : (st_L3_20 [.k 0, .l TIt l0, .n n, .n i, .l TB a, .l TB x, .l TB c]).sel = some (.stop 0 [.l TIt l0, .n n, .l TB a, .l TB c]) := by
      refine fn_L3_20_t_im l0 n i a x c _ ?_
      unfold fn_L3_20_t
      exact sel_f (decide_eq_false (show ¬ i < (x.length : Int) by omega)) rfl
    unfold iterS
    rw [e]
  | k + 1, i, x, f + 1, h0, hi, hx, hf => by
    have w := w64s (x := i + 1) (by omega) (by omega)
    have hl : (x.set i.toNat (IntKind.wrap .u8 (x.getD i.toNat 0 + 1))).length = x.length := List.length_set
    have e : (st_L3_20 [.k 0, .l TIt l0, .n n, .n i, .l TB a, .l TB x, .l TB c]).sel = some (.go [.k 0, .l TIt l0, .n n, .n (i + 1), .l TB a, .l TB (x.set i.toNat (IntKind.wrap .u8 (x.getD i.toNat 0 + 1))), .l TB c]) := by
      refine fn_L3_20_t_im l0 n i a x c _ ?_
      unfold fn_L3_20_t
      refine sel_t (decide_eq_true (show i < (x.length : Int) by omega)) (sel_t (inR_true h0 (show i < (x.length : Int) by omega)) ?_)
      exact congrArg (fun z => some (Step.go [.k 0, .l TIt l0, .n n, .n z, .l TB a, .l TB (x.set i.toNat (IntKind.wrap .u8 (x.getD i.toNat 0 + 1))), .l TB c])) w
    unfold iterS
    rw [e]
    exact lp20 l0 n a c k (i + 1) _ f (by omega) (by rw [hl]; omega) (by rw [hl]; exact hx) (by omega)
theorem q20 (l0 : LI) (n : Int) (a c x : List Int) (hx : x.length ≤ 1000000) : op_L3_20 [.k 0, .l TIt l0, .n n, .n 0, .l TB a, .l TB x, .l TB c] = some (0, [.l TIt l0, .n n, .l TB a, .l TB c]) := by
  rw [op_L3_20_eq]
  exact lp20 l0 n a c x.length 0 x FU (by omega) (by omega) hx (by unfold FU; omega)
abbrev appI (a b : List Int) : List Int := a ++ b
theorem appI_len (a b : List Int) : List.length (appI a b) = a.length + b.length := List.length_append
def InvP (l0 : LI) (i : Int) (env : List Dat) : Prop := (i = 0 ∧ env = [.k 0, .l TIt l0, .n 0, .l TB ([] : List Int)]) ∨ (1 ≤ i ∧ env = [.k 1, .l TIt l0, .n i, .l TB (encTo l0 i.toNat), .l TB (encTo l0 i.toNat)])
def StepP (l0 : LI) (i : Int) : Step → Prop
  | .go e => InvP l0 (i + 1) e
  | .stop k d => False
theorem stepPn {l0 : LI} (hI : Its l0) {i : Int} (hi : i = 0) (h1 : i < (l0.length : Int)) : Good (StepP l0 i) (st_L3_6 [.k 0, .l TIt l0, .n i, .l TB ([] : List Int)]).sel := by
  obtain ⟨p0, _, p2, p3, p4, p5⟩ := hI.2 i (by omega) h1
  have hlen := hI.1
  have w := w64s (x := i + 1) (by omega) (by omega)
  have e0 := bytes_back p4
  have fin : ∀ x : List Int, x = encI l0 i → InvP l0 (i + 1) [.k 1, .l TIt l0, .n (i + 1), .l TB x, .l TB x] := fun x hx => .inr ⟨by omega, by subst hi; rw [encTo_one, hx]⟩
  have e3 : ∀ x : List Int, op_L3_13 [.k 0, .l TIt l0, .n i, .n 0, .l TB x, .n (it_1 l0 i), .n (it_2 l0 i), .l TB x, .l TB (bytesOf (strOf (it_3 l0 i)))] = some (0, [.l TIt l0, .n i, .l TB x, .l TB x]) := fun x => q13 l0 i x _ _ x _ (by erw [e0]; exact (show (it_3 l0 i).length ≤ 1000000 by omega))
  refine Imp.good (fn_L3_6_n_im l0 i (by omega) h1) ?_
  unfold fn_L3_6_n
  rcases kinds5 p0 with hk | hk | hk | hk | hk
  · have e1 := t35a (IntKind.wrap .u64 (IntKind.wrap .u8 (it_2 l0 i))) 1 (by omega) (by omega)
    rw [besw1 p2] at e1
    have e2 : op_30 [.n (it_2 l0 i), .n (List.getD [(1 : Int), (2 : Int), (4 : Int), (8 : Int)] (Int.toNat (Int.tmod (it_1 l0 i) (5 : Int))) (0 : Int))] = some (0, [.l TB (bes (it_2 l0 i) 1)]) := by rw [hk]; exact t30 (it_2 l0 i) 1 (by omega)
    have hX : ((bes (it_2 l0 i) 1)).length ≤ 900000 := by rw [be_len]; omega
    have e3 := e3 (bes (it_2 l0 i) 1)
    have e4 := t31 (l := (bes (it_2 l0 i) 1)) (by omega)
    have e5 := q20 l0 i (bes (it_2 l0 i) 1) (bes (it_2 l0 i) 1) (bes (it_2 l0 i) 1) (by omega)
    exact good_t (by rw [hk]; rfl) (good_f (by erw [e1]; rfl) (good_t (by erw [e1]; rfl) (good_t (by erw [e2]; rfl) (good_t (by erw [e2]; exact decide_eq_true (show (0 + (bes (it_2 l0 i) 1).length) * 1 ≤ 140737488355328 by rw [be_len]; omega)) (good_t (by erw [e1, e2]; erw [e3]; rfl) (good_t (by erw [e1, e2]; erw [e3]; erw [e4]; rfl) (good_f (by erw [e1, e2]; erw [e3]; erw [e4]; exact strNo _) (good_t (by erw [e1, e2]; erw [e3]; erw [e4]; erw [e5]; rfl) (good_leaf (by erw [e1, e2]; erw [e3]; erw [e4]; erw [e5]; erw [w]; exact fin _ (by rw [enc0 hk]; rfl)))))))))))
  · have e1 := t35a (IntKind.wrap .u64 (IntKind.wrap .u16 (it_2 l0 i))) 2 (by omega) (by omega)
    rw [besw2 p2] at e1
    have e2 : op_30 [.n (it_2 l0 i), .n (List.getD [(1 : Int), (2 : Int), (4 : Int), (8 : Int)] (Int.toNat (Int.tmod (it_1 l0 i) (5 : Int))) (0 : Int))] = some (0, [.l TB (bes (it_2 l0 i) 2)]) := by rw [hk]; exact t30 (it_2 l0 i) 2 (by omega)
    have hX : ((bes (it_2 l0 i) 2)).length ≤ 900000 := by rw [be_len]; omega
    have e3 := e3 (bes (it_2 l0 i) 2)
    have e4 := t31 (l := (bes (it_2 l0 i) 2)) (by omega)
    have e5 := q20 l0 i (bes (it_2 l0 i) 2) (bes (it_2 l0 i) 2) (bes (it_2 l0 i) 2) (by omega)
    exact good_f (by rw [hk]; rfl) (good_t (by rw [hk]; rfl) (good_f (by erw [e1]; rfl) (good_t (by erw [e1]; rfl) (good_t (by erw [e2]; rfl) (good_t (by erw [e2]; exact decide_eq_true (show (0 + (bes (it_2 l0 i) 2).length) * 1 ≤ 140737488355328 by rw [be_len]; omega)) (good_t (by erw [e1, e2]; erw [e3]; rfl) (good_t (by erw [e1, e2]; erw [e3]; erw [e4]; rfl) (good_f (by erw [e1, e2]; erw [e3]; erw [e4]; exact strNo _) (good_t (by erw [e1, e2]; erw [e3]; erw [e4]; erw [e5]; rfl) (good_leaf (by erw [e1, e2]; erw [e3]; erw [e4]; erw [e5]; erw [w]; exact fin _ (by rw [enc1 hk]; rfl))))))))))))
  · have e1 := t35a (IntKind.wrap .u64 (IntKind.wrap .u32 (it_2 l0 i))) 4 (by omega) (by omega)
    rw [besw4 p2] at e1
    have e2 : op_30 [.n (it_2 l0 i), .n (List.getD [(1 : Int), (2 : Int), (4 : Int), (8 : Int)] (Int.toNat (Int.tmod (it_1 l0 i) (5 : Int))) (0 : Int))] = some (0, [.l TB (bes (it_2 l0 i) 4)]) := by rw [hk]; exact t30 (it_2 l0 i) 4 (by omega)
    have hX : ((bes (it_2 l0 i) 4)).length ≤ 900000 := by rw [be_len]; omega
    have e3 := e3 (bes (it_2 l0 i) 4)
    have e4 := t31 (l := (bes (it_2 l0 i) 4)) (by omega)
    have e5 := q20 l0 i (bes (it_2 l0 i) 4) (bes (it_2 l0 i) 4) (bes (it_2 l0 i) 4) (by omega)
    exact good_f (by rw [hk]; rfl) (good_f (by rw [hk]; rfl) (good_t (by rw [hk]; rfl) (good_f (by erw [e1]; rfl) (good_t (by erw [e1]; rfl) (good_t (by erw [e2]; rfl) (good_t (by erw [e2]; exact decide_eq_true (show (0 + (bes (it_2 l0 i) 4).length) * 1 ≤ 140737488355328 by rw [be_len]; omega)) (good_t (by erw [e1, e2]; erw [e3]; rfl) (good_t (by erw [e1, e2]; erw [e3]; erw [e4]; rfl) (good_f (by erw [e1, e2]; erw [e3]; erw [e4]; exact strNo _) (good_t (by erw [e1, e2]; erw [e3]; erw [e4]; erw [e5]; rfl) (good_leaf (by erw [e1, e2]; erw [e3]; erw [e4]; erw [e5]; erw [w]; exact fin _ (by rw [enc2 hk]; rfl)))))))))))))
  · have e1 := t35a (it_2 l0 i) 8 (by omega) (by omega)
    skip
    have e2 : op_30 [.n (it_2 l0 i), .n (List.getD [(1 : Int), (2 : Int), (4 : Int), (8 : Int)] (Int.toNat (Int.tmod (it_1 l0 i) (5 : Int))) (0 : Int))] = some (0, [.l TB (bes (it_2 l0 i) 8)]) := by rw [hk]; exact t30 (it_2 l0 i) 8 (by omega)
    have hX : ((bes (it_2 l0 i) 8)).length ≤ 900000 := by rw [be_len]; omega
    have e3 := e3 (bes (it_2 l0 i) 8)
    have e4 := t31 (l := (bes (it_2 l0 i) 8)) (by omega)
    have e5 := q20 l0 i (bes (it_2 l0 i) 8) (bes (it_2 l0 i) 8) (bes (it_2 l0 i) 8) (by omega)
    exact good_f (by rw [hk]; rfl) (good_f (by rw [hk]; rfl) (good_f (by rw [hk]; rfl) (good_t (by rw [hk]; rfl) (good_f (by erw [e1]; rfl) (good_t (by erw [e1]; rfl) (good_t (by erw [e2]; rfl) (good_t (by erw [e2]; exact decide_eq_true (show (0 + (bes (it_2 l0 i) 8).length) * 1 ≤ 140737488355328 by rw [be_len]; omega)) (good_t (by erw [e1, e2]; erw [e3]; rfl) (good_t (by erw [e1, e2]; erw [e3]; erw [e4]; rfl) (good_f (by erw [e1, e2]; erw [e3]; erw [e4]; exact strNo _) (good_t (by erw [e1, e2]; erw [e3]; erw [e4]; erw [e5]; rfl) (good_leaf (by erw [e1, e2]; erw [e3]; erw [e4]; erw [e5]; erw [w]; exact fin _ (by rw [enc3 hk]; rfl))))))))))))))
  · have hB : (bytesOf (strOf (it_3 l0 i))).length ≤ 1000000 := by erw [e0]; exact (show (it_3 l0 i).length ≤ 1000000 by omega)
    have hX : List.length (α := Int) (it_3 l0 i) ≤ 900000 := (show (it_3 l0 i).length ≤ 900000 by omega)
    have e3 := (q13 l0 i (it_3 l0 i) (it_1 l0 i) (it_2 l0 i) (bytesOf (strOf (it_3 l0 i))) (bytesOf (strOf (it_3 l0 i))) hB).trans (congrArg (fun z : List Int => (some (0, [Dat.l TIt l0, .n i, .l TB (it_3 l0 i), .l TB z]) : Option (Nat × List Dat))) e0)
    have e4 := t31 (l := (it_3 l0 i)) (Nat.le_trans hX (by omega))
    have e5 := q20 l0 i (it_3 l0 i) (it_3 l0 i) (it_3 l0 i) (Nat.le_trans hX (by omega))
    exact good_f (by rw [hk]; rfl) (good_f (by rw [hk]; rfl) (good_f (by rw [hk]; rfl) (good_f (by rw [hk]; rfl) (good_t (by erw [e0]; exact decide_eq_true (show (it_3 l0 i).length * 1 ≤ 140737488355328 by omega)) (good_t (by rw [hk]; rfl) (good_t (decide_eq_true (show (0 + (it_3 l0 i).length) * 1 ≤ 140737488355328 by omega)) (good_t (by erw [e3]; rfl) (good_t (by erw [e3]; erw [e4]; rfl) (good_f (by erw [e3]; erw [e4]; exact strNo _) (good_t (by erw [e3]; erw [e4]; erw [e5]; rfl) (good_leaf (by erw [e3]; erw [e4]; erw [e5]; erw [w]; exact fin _ (by rw [enc4 hk]; rfl)))))))))))))
theorem stepPo {l0 : LI} (hI : Its l0) {i : Int} (h0 : 1 ≤ i) (h1 : i < (l0.length : Int)) {l : List Int} (hl : l = encTo l0 i.toNat) : Good (StepP l0 i) (st_L3_6 [.k 1, .l TIt l0, .n i, .l TB l, .l TB l]).sel := by
  obtain ⟨p0, _, p2, p3, p4, p5⟩ := hI.2 i (by omega) h1
  have hlen := hI.1
  have w := w64s (x := i + 1) (by omega) (by omega)
  have hll : l.length ≤ 300000 := by
    have := encTo_len hI i.toNat (by omega)
    rw [hl]; omega
  have e0 := bytes_back p4
  have fin : ∀ x : List Int, x = l ++ encI l0 i → InvP l0 (i + 1) [.k 1, .l TIt l0, .n (i + 1), .l TB x, .l TB x] := fun x hx => .inr ⟨by omega, by rw [encTo_step l0 (by omega), hx, hl]⟩
  have e3 : ∀ x : List Int, op_L3_13 [.k 0, .l TIt l0, .n i, .n 0, .l TB x, .n (it_1 l0 i), .n (it_2 l0 i), .l TB x, .l TB (bytesOf (strOf (it_3 l0 i)))] = some (0, [.l TIt l0, .n i, .l TB x, .l TB x]) := fun x => q13 l0 i x _ _ x _ (by erw [e0]; exact (show (it_3 l0 i).length ≤ 1000000 by omega))
  refine Imp.good (fn_L3_6_o_im l0 i l (by omega) h1) ?_
  unfold fn_L3_6_o
  rcases kinds5 p0 with hk | hk | hk | hk | hk
  · have e1 := t35b (IntKind.wrap .u64 (IntKind.wrap .u8 (it_2 l0 i))) 1 (by omega) l (by omega)
    rw [besw1 p2] at e1
    have e2 : op_30 [.n (it_2 l0 i), .n (List.getD [(1 : Int), (2 : Int), (4 : Int), (8 : Int)] (Int.toNat (Int.tmod (it_1 l0 i) (5 : Int))) (0 : Int))] = some (0, [.l TB (bes (it_2 l0 i) 1)]) := by rw [hk]; exact t30 (it_2 l0 i) 1 (by omega)
    have hX : ((l ++ bes (it_2 l0 i) 1)).length ≤ 900000 := by rw [List.length_append]; rw [be_len]; omega
    have e3 := e3 (l ++ bes (it_2 l0 i) 1)
    have e4 := t31 (l := (l ++ bes (it_2 l0 i) 1)) (by omega)
    have e5 := q20 l0 i (l ++ bes (it_2 l0 i) 1) (l ++ bes (it_2 l0 i) 1) (l ++ bes (it_2 l0 i) 1) (by omega)
    exact good_t (by rw [hk]; rfl) (good_t (by erw [e1]; rfl) (good_t (by erw [e2]; rfl) (good_t (by erw [e2]; exact decide_eq_true (show (l.length + (bes (it_2 l0 i) 1).length) * 1 ≤ 140737488355328 by rw [be_len]; omega)) (good_t (by erw [e1, e2]; erw [e3]; rfl) (good_t (by erw [e1, e2]; erw [e3]; erw [e4]; rfl) (good_f (by erw [e1, e2]; erw [e3]; erw [e4]; exact strNo _) (good_t (by erw [e1, e2]; erw [e3]; erw [e4]; erw [e5]; rfl) (good_leaf (by erw [e1, e2]; erw [e3]; erw [e4]; erw [e5]; erw [w]; exact fin _ (by rw [enc0 hk]; rfl))))))))))
  · have e1 := t35b (IntKind.wrap .u64 (IntKind.wrap .u16 (it_2 l0 i))) 2 (by omega) l (by omega)
    rw [besw2 p2] at e1
    have e2 : op_30 [.n (it_2 l0 i), .n (List.getD [(1 : Int), (2 : Int), (4 : Int), (8 : Int)] (Int.toNat (Int.tmod (it_1 l0 i) (5 : Int))) (0 : Int))] = some (0, [.l TB (bes (it_2 l0 i) 2)]) := by rw [hk]; exact t30 (it_2 l0 i) 2 (by omega)
    have hX : ((l ++ bes (it_2 l0 i) 2)).length ≤ 900000 := by rw [List.length_append]; rw [be_len]; omega
    have e3 := e3 (l ++ bes (it_2 l0 i) 2)
    have e4 := t31 (l := (l ++ bes (it_2 l0 i) 2)) (by omega)
    have e5 := q20 l0 i (l ++ bes (it_2 l0 i) 2) (l ++ bes (it_2 l0 i) 2) (l ++ bes (it_2 l0 i) 2) (by omega)
    exact good_f (by rw [hk]; rfl) (good_t (by rw [hk]; rfl) (good_t (by erw [e1]; rfl) (good_t (by erw [e2]; rfl) (good_t (by erw [e2]; exact decide_eq_true (show (l.length + (bes (it_2 l0 i) 2).length) * 1 ≤ 140737488355328 by rw [be_len]; omega)) (good_t (by erw [e1, e2]; erw [e3]; rfl) (good_t (by erw [e1, e2]; erw [e3]; erw [e4]; rfl) (good_f (by erw [e1, e2]; erw [e3]; erw [e4]; exact strNo _) (good_t (by erw [e1, e2]; erw [e3]; erw [e4]; erw [e5]; rfl) (good_leaf (by erw [e1, e2]; erw [e3]; erw [e4]; erw [e5]; erw [w]; exact fin _ (by rw [enc1 hk]; rfl)))))))))))
  · have e1 := t35b (IntKind.wrap .u64 (IntKind.wrap .u32 (it_2 l0 i))) 4 (by omega) l (by omega)
    rw [besw4 p2] at e1
    have e2 : op_30 [.n (it_2 l0 i), .n (List.getD [(1 : Int), (2 : Int), (4 : Int), (8 : Int)] (Int.toNat (Int.tmod (it_1 l0 i) (5 : Int))) (0 : Int))] = some (0, [.l TB (bes (it_2 l0 i) 4)]) := by rw [hk]; exact t30 (it_2 l0 i) 4 (by omega)
    have hX : ((l ++ bes (it_2 l0 i) 4)).length ≤ 900000 := by rw [List.length_append]; rw [be_len]; omega
    have e3 := e3 (l ++ bes (it_2 l0 i) 4)
    have e4 := t31 (l := (l ++ bes (it_2 l0 i) 4)) (by omega)
    have e5 := q20 l0 i (l ++ bes (it_2 l0 i) 4) (l ++ bes (it_2 l0 i) 4) (l ++ bes (it_2 l0 i) 4) (by omega)
    exact good_f (by rw [hk]; rfl) (good_f (by rw [hk]; rfl) (good_t (by rw [hk]; rfl) (good_t (by erw [e1]; rfl) (good_t (by erw [e2]; rfl) (good_t (by erw [e2]; exact decide_eq_true (show (l.length + (bes (it_2 l0 i) 4).length) * 1 ≤ 140737488355328 by rw [be_len]; omega)) (good_t (by erw [e1, e2]; erw [e3]; rfl) (good_t (by erw [e1, e2]; erw [e3]; erw [e4]; rfl) (good_f (by erw [e1, e2]; erw [e3]; erw [e4]; exact strNo _) (good_t (by erw [e1, e2]; erw [e3]; erw [e4]; erw [e5]; rfl) (good_leaf (by erw [e1, e2]; erw [e3]; erw [e4]; erw [e5]; erw [w]; exact fin _ (by rw [enc2 hk]; rfl))))))))))))
  · have e1 := t35b (it_2 l0 i) 8 (by omega) l (by omega)
    skip
    have e2 : op_30 [.n (it_2 l0 i), .n (List.getD [(1 : Int), (2 : Int), (4 : Int), (8 : Int)] (Int.toNat (Int.tmod (it_1 l0 i) (5 : Int))) (0 : Int))] = some (0, [.l TB (bes (it_2 l0 i) 8)]) := by rw [hk]; exact t30 (it_2 l0 i) 8 (by omega)
    have hX : ((l ++ bes (it_2 l0 i) 8)).length ≤ 900000 := by rw [List.length_append]; rw [be_len]; omega
    have e3 := e3 (l ++ bes (it_2 l0 i) 8)
    have e4 := t31 (l := (l ++ bes (it_2 l0 i) 8)) (by omega)
    have e5 := q20 l0 i (l ++ bes (it_2 l0 i) 8) (l ++ bes (it_2 l0 i) 8) (l ++ bes (it_2 l0 i) 8) (by omega)
    exact good_f (by rw [hk]; rfl) (good_f (by rw [hk]; rfl) (good_f (by rw [hk]; rfl) (good_t (by rw [hk]; rfl) (good_t (by erw [e1]; rfl) (good_t (by erw [e2]; rfl) (good_t (by erw [e2]; exact decide_eq_true (show (l.length + (bes (it_2 l0 i) 8).length) * 1 ≤ 140737488355328 by rw [be_len]; omega)) (good_t (by erw [e1, e2]; erw [e3]; rfl) (good_t (by erw [e1, e2]; erw [e3]; erw [e4]; rfl) (good_f (by erw [e1, e2]; erw [e3]; erw [e4]; exact strNo _) (good_t (by erw [e1, e2]; erw [e3]; erw [e4]; erw [e5]; rfl) (good_leaf (by erw [e1, e2]; erw [e3]; erw [e4]; erw [e5]; erw [w]; exact fin _ (by rw [enc3 hk]; rfl)))))))))))))
  · have hB : (bytesOf (strOf (it_3 l0 i))).length ≤ 1000000 := by erw [e0]; exact (show (it_3 l0 i).length ≤ 1000000 by omega)
    have hX : List.length (α := Int) (appI l (it_3 l0 i)) ≤ 900000 := Nat.le_trans (Nat.le_of_eq (appI_len l (it_3 l0 i))) (show l.length + (it_3 l0 i).length ≤ 900000 by omega)
    have e3 := (q13 l0 i (appI l (it_3 l0 i)) (it_1 l0 i) (it_2 l0 i) (appI l (bytesOf (strOf (it_3 l0 i)))) (bytesOf (strOf (it_3 l0 i))) hB).trans (congrArg (fun z : List Int => (some (0, [Dat.l TIt l0, .n i, .l TB (appI l (it_3 l0 i)), .l TB (appI l z)]) : Option (Nat × List Dat))) e0)
    have e4 := t31 (l := (appI l (it_3 l0 i))) (Nat.le_trans hX (by omega))
    have e5 := q20 l0 i (appI l (it_3 l0 i)) (appI l (it_3 l0 i)) (appI l (it_3 l0 i)) (Nat.le_trans hX (by omega))
    exact good_f (by rw [hk]; rfl) (good_f (by rw [hk]; rfl) (good_f (by rw [hk]; rfl) (good_f (by rw [hk]; rfl) (good_t (by erw [e0]; exact decide_eq_true (show (l.length + (it_3 l0 i).length) * 1 ≤ 140737488355328 by omega)) (good_t (by rw [hk]; rfl) (good_t (decide_eq_true (show (l.length + (it_3 l0 i).length) * 1 ≤ 140737488355328 by omega)) (good_t (by erw [e3]; rfl) (good_t (by erw [e3]; erw [e4]; rfl) (good_f (by erw [e3]; erw [e4]; exact strNo _) (good_t (by erw [e3]; erw [e4]; erw [e5]; rfl) (good_leaf (by erw [e3]; erw [e4]; erw [e5]; erw [w]; exact fin _ (by rw [enc4 hk]; rfl)))))))))))))
theorem atP {l0 : LI} {i : Int} {env : List Dat} (h : InvP l0 i env) : gn env 2 = i := by
  rcases h with ⟨rfl, rfl⟩ | ⟨_, rfl⟩ <;> rfl
def EndP (l0 : LI) (y : Nat × List Dat) : Prop := (y = (0, [.l TB ([] : List Int)])) ∨ ∃ x : List Int, x.length ≤ 400000 ∧ y = (1, [.l TB x, .l TB x])
theorem runP {l0 : LI} (hI : Its l0) : Good (EndP l0) (op_L3_6 [.k 0, .l TIt l0, .n 0, .l TB ([] : List Int)]) := by
  have hlen := hI.1
  refine op_L3_6_good (fun env => ∃ i : Int, 0 ≤ i ∧ i ≤ l0.length ∧ InvP l0 i env) (fun env => (l0.length - gn env 2).toNat) ?_ _ ⟨0, by omega, by omega, .inl ⟨rfl, rfl⟩⟩ (by show ((l0.length : Int) - 0).toNat < FU; unfold FU; omega)
  rintro env ⟨i, h0, h1, hI'⟩
  rw [atP hI']
  by_cases hlt : i < l0.length
  · have fin : Good (StepP l0 i) (st_L3_6 env).sel := by
      rcases hI' with ⟨rfl, rfl⟩ | ⟨a, rfl⟩
      · exact stepPn hI rfl hlt
      · exact stepPo hI a hlt rfl
    obtain ⟨y, e, hy⟩ := fin
    refine ⟨y, e, ?_⟩
    cases y with
    | stop k d => exact hy.elim
    | go e' =>
      have hy : InvP l0 (i + 1) e' := hy
      refine ⟨⟨i + 1, by omega, by omega, hy⟩, ?_⟩
      show ((l0.length : Int) - gn e' 2).toNat < _
      rw [atP hy]; omega
  · have hd : i = (l0.length : Int) := by omega
    rcases hI' with ⟨rfl, rfl⟩ | ⟨a, rfl⟩
    · exact Imp.good (fn_L3_6_xn_im l0 0 hd) (good_leaf (.inl rfl))
    · refine Imp.good (fn_L3_6_xo_im l0 i _ hd) (good_leaf (.inr ⟨encTo l0 i.toNat, ?_, rfl⟩))
      have := encTo_len hI i.toNat (by omega)
      omega
theorem t3 (l0 : LI) (hw0 : wfD (.sl TIt) l0 = true) : (ev_W3 [.l TIt l0]).sel = some true := by
  obtain ⟨y, e, hy⟩ : Good (fun y => y = true) (ev_W3 [.l TIt l0]).sel := by
    refine (fn_W3_t_im l0).good ?_
    unfold fn_W3_t
    rcases t8 l0 hw0 with e1 | ⟨e1, hI⟩
    · exact good_t (by erw [e1]; rfl) (good_t (by erw [e1]; rfl) (good_leaf rfl))
    refine good_t (by erw [e1]; rfl) (good_f (by erw [e1]; rfl) ?_)
    obtain ⟨y, e2, hy⟩ := runP hI
    rcases hy with rfl | ⟨x, hx, rfl⟩
    · exact good_t (by erw [e2]; rfl) (good_t (by erw [e2]; rfl) (good_leaf rfl))
    · have e3 := t31 (l := x) (by omega)
      exact good_f (by erw [e2]; rfl) (good_t (by erw [e2]; rfl) (good_t (by erw [e2]; erw [e3]; rfl) (good_t (by erw [e2]; erw [e3]; exact strSelf _) (good_leaf rfl))))
  rw [e, hy]
end Go.Proofs.Ytdepolalngehdaa.Vx
namespace Go.Proofs.Ytdepolalngehdaa.Vx
open Go Go.RowKit
set_option linter.unusedVariables false
set_option linter.unusedSimpArgs false
set_option maxRecDepth 100000
set_option maxHeartbeats 1000000
/-! ### FieldsSides -/
theorem fold_nm : ∀ (l : List Int) (a : Int), l.foldl (fun a b => a * 256 + b) a = a * 256 ^ l.length + nm l
  | [], a => by simp [nm]
  | b :: l, a => by
    have h1 := fold_nm l (a * 256 + b)
    have h2 : nm (b :: l) = (0 * 256 + b) * 256 ^ l.length + nm l := fold_nm l (0 * 256 + b)
    rw [h2]
    simp only [List.foldl_cons, List.length_cons, h1, Int.pow_succ]
    rw [Int.add_mul, Int.zero_mul, Int.zero_add, Int.mul_assoc, Int.mul_comm 256 (256 ^ l.length), Int.add_assoc]
theorem nm_cons (b : Int) (l : List Int) : nm (b :: l) = b * 256 ^ l.length + nm l := by
  have := fold_nm l (0 * 256 + b)
  rw [Int.zero_mul, Int.zero_add] at this
  have e : nm (b :: l) = l.foldl (fun a b => a * 256 + b) (0 * 256 + b) := rfl
  rw [e, Int.zero_mul, Int.zero_add]; exact this
def u8o (n : Int) : UInt8 := UInt8.ofNat n.toNat
theorem u8_lt {x y : Int} (hx : 0 ≤ x ∧ x < 256) (hy : 0 ≤ y ∧ y < 256) : decide (u8o x < u8o y) = decide (x < y) := by
  have : u8o x < u8o y ↔ x < y := by
    rw [UInt8.lt_iff_toNat_lt]
    unfold u8o
    rw [UInt8.toNat_ofNat', UInt8.toNat_ofNat']
    omega
  exact decide_eq_decide.2 this
theorem u8_eq {x y : Int} (hx : 0 ≤ x ∧ x < 256) (hy : 0 ≤ y ∧ y < 256) : (u8o x == u8o y) = decide (x = y) := by
  by_cases h : x = y
  · subst h; simp
  · have : ¬ u8o x = u8o y := fun e => by
      have := congrArg UInt8.toNat e
      unfold u8o at this
      rw [UInt8.toNat_ofNat', UInt8.toNat_ofNat'] at this
      omega
    simp [h, this]
theorem lt_nm : ∀ (a b : List Int), a.length = b.length → Wb a → Wb b → Op.bytesLess (a.map u8o) (b.map u8o) = decide (nm a < nm b)
  | [], [], _, _, _ => rfl
  | [], y :: b, h, _, _ => by simp at h
  | x :: a, [], h, _, _ => by simp at h
  | x :: a, y :: b, h, ha, hb => by
    have hl : a.length = b.length := by simpa using h
    have wa : Wb a := fun z hz => ha z (by simp [hz])
    have wb : Wb b := fun z hz => hb z (by simp [hz])
    have ih := lt_nm a b hl wa wb
    have bx := ha x (by simp)
    have by_ := hb y (by simp)
    have na := nm_bd wa
    have nb := nm_bd wb
    simp only [List.map_cons, Op.bytesLess]
    rw [ih, u8_lt bx by_, u8_eq bx by_, nm_cons, nm_cons]
    rw [hl] at na ⊢
    generalize (256 : Int) ^ b.length = P at na nb
    by_cases h1 : x < y
    · have : (x + 1) * P ≤ y * P := Int.mul_le_mul_of_nonneg_right (by omega) (by omega)
      rw [Int.add_mul, Int.one_mul] at this
      have k : x * P + nm a < y * P + nm b := by omega
      rw [decide_eq_true h1, decide_eq_true k]; rfl
    · by_cases h2 : x = y
      · subst h2
        rw [decide_eq_false h1, decide_eq_true rfl, Bool.false_or, Bool.true_and]
        exact decide_eq_decide.2 (by omega)
      · have : (y + 1) * P ≤ x * P := Int.mul_le_mul_of_nonneg_right (by omega) (by omega)
        rw [Int.add_mul, Int.one_mul] at this
        have k : ¬ (x * P + nm a < y * P + nm b) := by omega
        rw [decide_eq_false h1, decide_eq_false h2, decide_eq_false k]; rfl
theorem str_lt {a b : List Int} (h : a.length = b.length) (ha : Wb a) (hb : Wb b) : strLt (strOf a) (strOf b) = decide (nm a < nm b) := lt_nm a b h ha hb
theorem str_size (a : List Int) : ByteArray.size (strOf a) = a.length := by
  show (a.map _).toArray.size = a.length
  simp
theorem str_app (a b : List Int) : strEq (strOf (a ++ b)) (strOf a ++ strOf b) = true := by
  unfold strEq
  refine decide_eq_true ?_
  have e : (strOf a ++ strOf b).data = (strOf a).data ++ (strOf b).data := ByteArray.data_append
  rw [e]
  show ((a ++ b).map _).toArray.toList = ((a.map _).toArray ++ (b.map _).toArray).toList
  simp
theorem bq {a b : Bool} (h : a = b) : (a == b) = true := by subst h; simp
theorem t6k0 {n0 n1 n2 : Int} (h0 : 0 ≤ n0) (h1 : 0 ≤ n1) (hk : Int.tmod n2 4 = 0) : (ev_W6 [.n n0, .n n1, .n n2]).sel = some true := by
  obtain ⟨y, e, hy⟩ : Good (fun y => y = true) (ev_W6 [.n n0, .n n1, .n n2]).sel := by
    refine (fn_W6_k0_im n0 n1 n2 hk).good ?_
    unfold fn_W6_k0
    have l0 := be_len n0 1
    have l1 := be_len n1 1
    have e1 := t35a (IntKind.wrap .u64 (IntKind.wrap .u8 n0)) 1 (by omega) (by omega)
    rw [besw1 h0] at e1
    have e2 := t35a (IntKind.wrap .u64 (IntKind.wrap .u8 n1)) 1 (by omega) (by omega)
    rw [besw1 h1] at e2
    have e3 := t35b (IntKind.wrap .u64 (IntKind.wrap .u8 n1)) 1 (by omega) (bes n0 1) (by omega)
    rw [besw1 h1] at e3
    have e4 := t31 (l := (bes n0 1)) (by omega)
    have e5 := t31 (l := (bes n1 1)) (by omega)
    have b0 := bytes_back (be_wb n0 1)
    have b1 := bytes_back (be_wb n1 1)
    have e6 := t17 (l := (bes n0 1)) (by omega) (be_wb _ _)
    have e7 := t17 (l := (bes n1 1)) (by omega) (be_wb _ _)
    have e8 := t31 (l := (bes n0 1) ++ (bes n1 1)) (by rw [List.length_append]; omega)
    exact good_f (by erw [e1]; rfl) (good_t (by erw [e1]; rfl) (good_f (by erw [e2]; rfl) (good_t (by erw [e2]; rfl) (good_t (by erw [e1]; erw [e3]; rfl) (good_t (by erw [e1]; erw [e4]; rfl) (good_t (by erw [e2]; erw [e5]; rfl) (good_t (by erw [e1]; erw [e4]; erw [b0]; erw [e6]; rfl) (good_t (by erw [e2]; erw [e5]; erw [b1]; erw [e7]; rfl) (good_t (by erw [e1]; erw [e3]; erw [e8]; rfl) (good_t (by erw [e1, e2]; erw [e4]; erw [e5]; exact decide_eq_true (show ((ByteArray.size (strOf (bes n0 1)) + ByteArray.size (strOf (bes n1 1)) : Nat) : Int) ≤ 9223372036854775807 by rw [str_size, str_size, be_len, be_len]; omega)) (good_t (by erw [e1, e2]; erw [e3]; erw [e4]; erw [e5]; erw [e8]; exact str_app _ _) (good_t (by erw [e1, e2]; erw [e4]; erw [e5]; erw [b0, b1]; erw [e6]; erw [e7]; exact bq (str_lt (by rw [be_len, be_len]) (be_wb _ _) (be_wb _ _)).symm) (good_t (by rw [hk]; rfl) (good_t (by erw [e1]; erw [e4]; rw [hk]; exact beq_iff_eq.2 (show ((ByteArray.size (strOf (bes n0 1)) : Nat) : Int) = 1 by rw [str_size, be_len]; rfl)) (good_leaf rfl)))))))))))))))
  rw [e, hy]
theorem t6k1 {n0 n1 n2 : Int} (h0 : 0 ≤ n0) (h1 : 0 ≤ n1) (hk : Int.tmod n2 4 = 1) : (ev_W6 [.n n0, .n n1, .n n2]).sel = some true := by
  obtain ⟨y, e, hy⟩ : Good (fun y => y = true) (ev_W6 [.n n0, .n n1, .n n2]).sel := by
    refine (fn_W6_k1_im n0 n1 n2 hk).good ?_
    unfold fn_W6_k1
    have l0 := be_len n0 2
    have l1 := be_len n1 2
    have e1 := t35a (IntKind.wrap .u64 (IntKind.wrap .u16 n0)) 2 (by omega) (by omega)
    rw [besw2 h0] at e1
    have e2 := t35a (IntKind.wrap .u64 (IntKind.wrap .u16 n1)) 2 (by omega) (by omega)
    rw [besw2 h1] at e2
    have e3 := t35b (IntKind.wrap .u64 (IntKind.wrap .u16 n1)) 2 (by omega) (bes n0 2) (by omega)
    rw [besw2 h1] at e3
    have e4 := t31 (l := (bes n0 2)) (by omega)
    have e5 := t31 (l := (bes n1 2)) (by omega)
    have b0 := bytes_back (be_wb n0 2)
    have b1 := bytes_back (be_wb n1 2)
    have e6 := t17 (l := (bes n0 2)) (by omega) (be_wb _ _)
    have e7 := t17 (l := (bes n1 2)) (by omega) (be_wb _ _)
    have e8 := t31 (l := (bes n0 2) ++ (bes n1 2)) (by rw [List.length_append]; omega)
    exact good_f (by erw [e1]; rfl) (good_t (by erw [e1]; rfl) (good_f (by erw [e2]; rfl) (good_t (by erw [e2]; rfl) (good_t (by erw [e1]; erw [e3]; rfl) (good_t (by erw [e1]; erw [e4]; rfl) (good_t (by erw [e2]; erw [e5]; rfl) (good_t (by erw [e1]; erw [e4]; erw [b0]; erw [e6]; rfl) (good_t (by erw [e2]; erw [e5]; erw [b1]; erw [e7]; rfl) (good_t (by erw [e1]; erw [e3]; erw [e8]; rfl) (good_t (by erw [e1, e2]; erw [e4]; erw [e5]; exact decide_eq_true (show ((ByteArray.size (strOf (bes n0 2)) + ByteArray.size (strOf (bes n1 2)) : Nat) : Int) ≤ 9223372036854775807 by rw [str_size, str_size, be_len, be_len]; omega)) (good_t (by erw [e1, e2]; erw [e3]; erw [e4]; erw [e5]; erw [e8]; exact str_app _ _) (good_t (by erw [e1, e2]; erw [e4]; erw [e5]; erw [b0, b1]; erw [e6]; erw [e7]; exact bq (str_lt (by rw [be_len, be_len]) (be_wb _ _) (be_wb _ _)).symm) (good_t (by rw [hk]; rfl) (good_t (by erw [e1]; erw [e4]; rw [hk]; exact beq_iff_eq.2 (show ((ByteArray.size (strOf (bes n0 2)) : Nat) : Int) = 2 by rw [str_size, be_len]; rfl)) (good_leaf rfl)))))))))))))))
  rw [e, hy]
theorem t6k2 {n0 n1 n2 : Int} (h0 : 0 ≤ n0) (h1 : 0 ≤ n1) (hk : Int.tmod n2 4 = 2) : (ev_W6 [.n n0, .n n1, .n n2]).sel = some true := by
  obtain ⟨y, e, hy⟩ : Good (fun y => y = true) (ev_W6 [.n n0, .n n1, .n n2]).sel := by
    refine (fn_W6_k2_im n0 n1 n2 hk).good ?_
    unfold fn_W6_k2
    have l0 := be_len n0 4
    have l1 := be_len n1 4
    have e1 := t35a (IntKind.wrap .u64 (IntKind.wrap .u32 n0)) 4 (by omega) (by omega)
    rw [besw4 h0] at e1
    have e2 := t35a (IntKind.wrap .u64 (IntKind.wrap .u32 n1)) 4 (by omega) (by omega)
    rw [besw4 h1] at e2
    have e3 := t35b (IntKind.wrap .u64 (IntKind.wrap .u32 n1)) 4 (by omega) (bes n0 4) (by omega)
    rw [besw4 h1] at e3
    have e4 := t31 (l := (bes n0 4)) (by omega)
    have e5 := t31 (l := (bes n1 4)) (by omega)
    have b0 := bytes_back (be_wb n0 4)
    have b1 := bytes_back (be_wb n1 4)
    have e6 := t17 (l := (bes n0 4)) (by omega) (be_wb _ _)
    have e7 := t17 (l := (bes n1 4)) (by omega) (be_wb _ _)
    have e8 := t31 (l := (bes n0 4) ++ (bes n1 4)) (by rw [List.length_append]; omega)
    exact good_f (by erw [e1]; rfl) (good_t (by erw [e1]; rfl) (good_f (by erw [e2]; rfl) (good_t (by erw [e2]; rfl) (good_t (by erw [e1]; erw [e3]; rfl) (good_t (by erw [e1]; erw [e4]; rfl) (good_t (by erw [e2]; erw [e5]; rfl) (good_t (by erw [e1]; erw [e4]; erw [b0]; erw [e6]; rfl) (good_t (by erw [e2]; erw [e5]; erw [b1]; erw [e7]; rfl) (good_t (by erw [e1]; erw [e3]; erw [e8]; rfl) (good_t (by erw [e1, e2]; erw [e4]; erw [e5]; exact decide_eq_true (show ((ByteArray.size (strOf (bes n0 4)) + ByteArray.size (strOf (bes n1 4)) : Nat) : Int) ≤ 9223372036854775807 by rw [str_size, str_size, be_len, be_len]; omega)) (good_t (by erw [e1, e2]; erw [e3]; erw [e4]; erw [e5]; erw [e8]; exact str_app _ _) (good_t (by erw [e1, e2]; erw [e4]; erw [e5]; erw [b0, b1]; erw [e6]; erw [e7]; exact bq (str_lt (by rw [be_len, be_len]) (be_wb _ _) (be_wb _ _)).symm) (good_t (by rw [hk]; rfl) (good_t (by erw [e1]; erw [e4]; rw [hk]; exact beq_iff_eq.2 (show ((ByteArray.size (strOf (bes n0 4)) : Nat) : Int) = 4 by rw [str_size, be_len]; rfl)) (good_leaf rfl)))))))))))))))
  rw [e, hy]
theorem t6k3 {n0 n1 n2 : Int} (h0 : 0 ≤ n0) (h1 : 0 ≤ n1) (hk : Int.tmod n2 4 = 3) : (ev_W6 [.n n0, .n n1, .n n2]).sel = some true := by
  obtain ⟨y, e, hy⟩ : Good (fun y => y = true) (ev_W6 [.n n0, .n n1, .n n2]).sel := by
    refine (fn_W6_k3_im n0 n1 n2 hk).good ?_
    unfold fn_W6_k3
    have l0 := be_len n0 8
    have l1 := be_len n1 8
    have e1 := t35a n0 8 (by omega) (by omega)
    skip -- h0 e1
    have e2 := t35a n1 8 (by omega) (by omega)
    skip -- h1 e2
    have e3 := t35b n1 8 (by omega) (bes n0 8) (by omega)
    skip -- h1 e3
    have e4 := t31 (l := (bes n0 8)) (by omega)
    have e5 := t31 (l := (bes n1 8)) (by omega)
    have b0 := bytes_back (be_wb n0 8)
    have b1 := bytes_back (be_wb n1 8)
    have e6 := t17 (l := (bes n0 8)) (by omega) (be_wb _ _)
    have e7 := t17 (l := (bes n1 8)) (by omega) (be_wb _ _)
    have e8 := t31 (l := (bes n0 8) ++ (bes n1 8)) (by rw [List.length_append]; omega)
    exact good_f (by erw [e1]; rfl) (good_t (by erw [e1]; rfl) (good_f (by erw [e2]; rfl) (good_t (by erw [e2]; rfl) (good_t (by erw [e1]; erw [e3]; rfl) (good_t (by erw [e1]; erw [e4]; rfl) (good_t (by erw [e2]; erw [e5]; rfl) (good_t (by erw [e1]; erw [e4]; erw [b0]; erw [e6]; rfl) (good_t (by erw [e2]; erw [e5]; erw [b1]; erw [e7]; rfl) (good_t (by erw [e1]; erw [e3]; erw [e8]; rfl) (good_t (by erw [e1, e2]; erw [e4]; erw [e5]; exact decide_eq_true (show ((ByteArray.size (strOf (bes n0 8)) + ByteArray.size (strOf (bes n1 8)) : Nat) : Int) ≤ 9223372036854775807 by rw [str_size, str_size, be_len, be_len]; omega)) (good_t (by erw [e1, e2]; erw [e3]; erw [e4]; erw [e5]; erw [e8]; exact str_app _ _) (good_t (by erw [e1, e2]; erw [e4]; erw [e5]; erw [b0, b1]; erw [e6]; erw [e7]; exact bq (str_lt (by rw [be_len, be_len]) (be_wb _ _) (be_wb _ _)).symm) (good_t (by rw [hk]; rfl) (good_t (by erw [e1]; erw [e4]; rw [hk]; exact beq_iff_eq.2 (show ((ByteArray.size (strOf (bes n0 8)) : Nat) : Int) = 8 by rw [str_size, be_len]; rfl)) (good_leaf rfl)))))))))))))))
  rw [e, hy]
theorem t6' {n0 n1 n2 : Int} (h0 : wfD (.int .u64) n0 = true) (h1 : wfD (.int .u64) n1 = true) (h2 : wfD (.int .u8) n2 = true) : (ev_W6 [.n n0, .n n1, .n n2]).sel = some true := by
  have a' : (decide (IntKind.min .u64 ≤ n0) && decide (n0 ≤ IntKind.max .u64)) = true := h0
  have b' : (decide (IntKind.min .u64 ≤ n1) && decide (n1 ≤ IntKind.max .u64)) = true := h1
  have c' : (decide (IntKind.min .u8 ≤ n2) && decide (n2 ≤ IntKind.max .u8)) = true := h2
  rw [Bool.and_eq_true, decide_eq_true_eq, decide_eq_true_eq] at a' b' c'
  have m1 : IntKind.min .u8 = 0 := rfl
  have m3 : IntKind.min .u64 = 0 := rfl
  have hk : Int.tmod n2 4 = 0 ∨ Int.tmod n2 4 = 1 ∨ Int.tmod n2 4 = 2 ∨ Int.tmod n2 4 = 3 := by
    rw [Int.tmod_eq_emod_of_nonneg (by omega)]; omega
  rcases hk with hk | hk | hk | hk
  · exact t6k0 (by omega) (by omega) hk
  · exact t6k1 (by omega) (by omega) hk
  · exact t6k2 (by omega) (by omega) hk
  · exact t6k3 (by omega) (by omega) hk
end Go.Proofs.Ytdepolalngehdaa.Vx
