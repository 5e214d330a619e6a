import Derived.Test.YtdepolalngehdaaX02
import Derived.Test.YtdepolalngehdaaVxBits
import Derived.Test.YtdepolalngehdaaVxLoop
namespace Go.Proofs.Ytdepolalngehdaa.Vx
open Go Go.RowKit
set_option linter.unusedVariables false
set_option linter.unusedSimpArgs false
set_option maxRecDepth 100000
set_option maxHeartbeats 1000000
/-! ### Numbers as bytes -/
def nm (l : List Int) : Int := l.foldl (fun a b => a * 256 + b) 0
def Wb (l : List Int) : Prop := ∀ b ∈ l, 0 ≤ b ∧ b < 256
theorem nm_snoc (l : List Int) (b : Int) : nm (l ++ [b]) = nm l * 256 + b := by simp [nm]
theorem fold_bd : ∀ (l : List Int) (a m : Int), Wb l → 0 ≤ a → a < m → 0 ≤ l.foldl (fun a b => a * 256 + b) a ∧ l.foldl (fun a b => a * 256 + b) a < m * 256 ^ l.length
  | [], a, m, _, h0, h1 => by simp; exact ⟨h0, h1⟩
  | b :: l, a, m, hw, h0, h1 => by
    have hb := hw b (by simp)
    have := fold_bd l (a * 256 + b) (m * 256) (fun x hx => hw x (by simp [hx])) (by omega) (by omega)
    simp only [List.foldl_cons, List.length_cons, Int.pow_succ]
    rw [Int.mul_comm (256 ^ l.length) 256, ← Int.mul_assoc]
    exact this
theorem nm_bd {l : List Int} (h : Wb l) : 0 ≤ nm l ∧ nm l < 256 ^ l.length := by
  have := fold_bd l 0 1 h (by omega) (by omega)
  rw [Int.one_mul] at this
  exact this
theorem Wb.take {l : List Int} (h : Wb l) (n : Nat) : Wb (l.take n) := fun b hb => h b (List.mem_of_mem_take hb)
theorem Wb.drop {l : List Int} (h : Wb l) (n : Nat) : Wb (l.drop n) := fun b hb => h b (List.mem_of_mem_drop hb)
theorem pow_le {n : Nat} (h : n ≤ 7) : (256 : Int) ^ n ≤ 72057594037927936 := by
  have : n = 0 ∨ n = 1 ∨ n = 2 ∨ n = 3 ∨ n = 4 ∨ n = 5 ∨ n = 6 ∨ n = 7 := by omega
  rcases this with rfl | rfl | rfl | rfl | rfl | rfl | rfl | rfl <;> decide
theorem wu64 (x : Int) : IntKind.wrap .u64 x = x % 18446744073709551616 := by unfold IntKind.wrap; simp [IntKind.bits, IntKind.signed]
theorem wu8 (x : Int) : IntKind.wrap .u8 x = x % 256 := by unfold IntKind.wrap; simp [IntKind.bits, IntKind.signed]
theorem wu16 (x : Int) : IntKind.wrap .u16 x = x % 65536 := by unfold IntKind.wrap; simp [IntKind.bits, IntKind.signed]
theorem wu32 (x : Int) : IntKind.wrap .u32 x = x % 4294967296 := by unfold IntKind.wrap; simp [IntKind.bits, IntKind.signed]
theorem st8 {a b : Int} (h0 : 0 ≤ a) (h1 : a < 72057594037927936) (b0 : 0 ≤ b) (b1 : b < 256) : ior .u64 (ishl .u64 a 8) (IntKind.wrap .u64 b) = a * 256 + b := by
  have e1 : ishl .u64 a 8 = a * 256 := by
    have : ishl .u64 a 8 = IntKind.wrap .u64 (a * 2 ^ 8) := rfl
    rw [this, wu64]
    have : (2 : Int) ^ 8 = 256 := by decide
    rw [this]; omega
  have e2 : IntKind.wrap .u64 b = b := by rw [wu64]; omega
  rw [e1, e2]
  obtain ⟨x, rfl⟩ : ∃ x : Nat, a = x := ⟨a.toNat, by omega⟩
  obtain ⟨y, rfl⟩ : ∃ y : Nat, b = y := ⟨b.toNat, by omega⟩
  have e3 : ior .u64 ((x : Int) * 256) (y : Int) = IntKind.wrap .u64 ((BitVec.ofInt 64 ((x : Int) * 256) ||| BitVec.ofInt 64 (y : Int)).toNat : Int) := rfl
  rw [e3]
  have e4 : (x : Int) * 256 = ((x * 256 : Nat) : Int) := by omega
  rw [e4, BitVec.ofInt_natCast, BitVec.ofInt_natCast, BitVec.toNat_or, BitVec.toNat_ofNat, BitVec.toNat_ofNat, Nat.mod_eq_of_lt (by omega), Nat.mod_eq_of_lt (by omega)]
  have e5 : x * 256 ||| y = x * 256 + y := by
    have := Nat.shiftLeft_add_eq_or_of_lt (i := 8) (b := y) (by omega) x
    rw [Nat.shiftLeft_eq] at this
    exact this.symm
  rw [e5, wu64]; omega
theorem take_getD {l : List Int} {n : Nat} (h : n < l.length) : l.take (n + 1) = l.take n ++ [l.getD n 0] := by
  rw [List.take_add_one, List.getElem?_eq_getElem h]
  simp [List.getD_eq_getElem?_getD, List.getElem?_eq_getElem h]
theorem nm_step {l : List Int} (hw : Wb l) (hl : l.length ≤ 8) {n : Nat} (h : n < l.length) : ior .u64 (ishl .u64 (nm (l.take n)) 8) (IntKind.wrap .u64 (l.getD n 0)) = nm (l.take (n + 1)) := by
  have hb := nm_bd (hw.take n)
  have hle : (l.take n).length ≤ 7 := by rw [List.length_take]; omega
  have := pow_le hle
  have hx := hw (l.getD n 0) (by rw [List.getD_eq_getElem?_getD, List.getElem?_eq_getElem h]; simp)
  rw [take_getD h, nm_snoc]
  exact st8 hb.1 (by omega) hx.1 hx.2
theorem step2 {l : List Int} (hw : Wb l) (hl : l.length ≤ 8) {n : Int} (h0 : 0 ≤ n) (h1 : n < (l.length : Int)) : ior .u64 (ishl .u64 (nm (l.take n.toNat)) 8) (IntKind.wrap .u64 (l.getD n.toNat 0)) = nm (l.take (n + 1).toNat) := by
  have e : (n + 1).toNat = n.toNat + 1 := by omega
  rw [e]; exact nm_step hw hl (by omega)
theorem lp17 {l : List Int} (hl : l.length ≤ 8) (hw : Wb l) : op_L17_3 [.k 0, .l TB l, .n 0, .n 0] = some (0, [.n (nm l)]) := by
  rw [op_L17_3_eq]
  refine iterS_count (fun i => [.k 0, .l TB l, .n (nm (l.take i.toNat)), .n i]) (l.length : Int) (0, [.n (nm l)]) (fun n h0 h1 => ?_) ?_ FU 0 (by omega) (by omega) (by show ((l.length : Int) - 0).toNat < FU; unfold FU; omega)
  · have w := w64s (x := n + 1) (by omega) (by omega)
    refine fn_L17_3_t_im l (nm (l.take n.toNat)) n _ ?_
    unfold fn_L17_3_t
    refine sel_t (decide_eq_true (show n < (l.length : Int) from h1)) (sel_t (inR_true h0 h1) ?_)
    show some (Step.go [.k 0, .l TB l, .n (ior .u64 (ishl .u64 (nm (l.take n.toNat)) 8) (IntKind.wrap .u64 (l.getD n.toNat 0))), .n (IntKind.wrap .i64 (n + 1))]) = _
    rw [step2 hw hl h0 h1, w]
  · refine fn_L17_3_t_im l _ _ _ ?_
    unfold fn_L17_3_t
    refine sel_f (decide_eq_false (show ¬ ((l.length : Int) < (l.length : Int)) by omega)) ?_
    show some (Step.stop 0 [.n (nm (l.take (l.length : Int).toNat))]) = some (Step.stop 0 [.n (nm l)])
    rw [show (l.length : Int).toNat = l.length by omega, List.take_length]
theorem t17 {l : List Int} (hl : l.length ≤ 8) (hw : Wb l) : op_17 [.l TB l] = some (0, [.n (nm l)]) := by
  rw [op_17_eq]
  refine fn_17_t_im l _ ?_
  unfold fn_17_t
  have e := lp17 hl hw
  exact sel_t (by erw [e]; rfl) (by erw [e]; rfl)
theorem lp34 {l : List Int} (hl : l.length ≤ 8) (hw : Wb l) (n : Int) (r : List Int) (b : Bool) : op_L34_3 [.k 0, .n n, .n 0, .l TB l, .n (l.length : Int), .n 0, .l TB r, .b b] = some (0, [.n n, .n (nm l), .l TB r, .b b]) := by
  rw [op_L34_3_eq]
  refine iterS_count (fun i => [.k 0, .n n, .n (nm (l.take i.toNat)), .l TB l, .n (l.length : Int), .n i, .l TB r, .b b]) (l.length : Int) (0, [.n n, .n (nm l), .l TB r, .b b]) (fun i h0 h1 => ?_) ?_ FU 0 (by omega) (by omega) (by show ((l.length : Int) - 0).toNat < FU; unfold FU; omega)
  · have w := w64s (x := i + 1) (by omega) (by omega)
    refine fn_L34_3_i_im n (nm (l.take i.toNat)) l (l.length : Int) i r b _ ?_
    unfold fn_L34_3_i
    refine sel_t (decide_eq_true (show i < (l.length : Int) from h1)) (sel_t (inR_true h0 h1) ?_)
    show some (Step.go [.k 0, .n n, .n (ior .u64 (ishl .u64 (nm (l.take i.toNat)) 8) (IntKind.wrap .u64 (l.getD i.toNat 0))), .l TB l, .n (l.length : Int), .n (IntKind.wrap .i64 (i + 1)), .l TB r, .b b]) = _
    rw [step2 hw hl h0 h1, w]
  · refine fn_L34_3_i_im n _ l (l.length : Int) _ r b _ ?_
    unfold fn_L34_3_i
    refine sel_f (decide_eq_false (show ¬ ((l.length : Int) < (l.length : Int)) by omega)) ?_
    show some (Step.stop 0 [Dat.n n, Dat.n (nm (l.take (l.length : Int).toNat)), Dat.l TB r, Dat.b b]) = some (Step.stop 0 [Dat.n n, Dat.n (nm l), Dat.l TB r, Dat.b b])
    rw [show (l.length : Int).toNat = l.length by omega, List.take_length]
theorem lp34n (n : Int) (r : List Int) (b : Bool) : op_L34_3 [.k 1, .n n, .n 0, .n 0, .n 0, .l TB r, .b b] = some (0, [.n n, .n 0, .l TB r, .b b]) := by
  rw [op_L34_3_eq, show FU = 18446744073709551615 + 1 from rfl]
  unfold iterS
  rw [fn_L34_3_n_im n 0 0 0 r b rfl rfl _ rfl]
/-! ### The boxes -/
theorem t31g (l : List (Ty.den TB)) (h : okc_31 l = true) : op_31 [.l TB l] = some (0, [.l TB l]) := by
  show (match castL TB TB l with | some l => bif okc_31 l then some (0, [Dat.l TB l]) else none | none => none) = _
  rw [castL_self]
  show (bif okc_31 l then some (0, [Dat.l TB l]) else none) = _
  rw [h]; rfl
theorem t31 {l : List Int} (h : l.length ≤ 140737488355328) : op_31 [.l TB l] = some (0, [.l TB l]) :=
  t31g l (by unfold okc_31; exact decide_eq_true (show (0 + l.length) * 1 ≤ 140737488355328 by omega))
theorem t13 {l : List Int} (h : l.length ≤ 140737488355328) : op_13 [.l TB l] = some (0, [.l TB l, .b false]) := by
  rw [op_13_eq]
  refine fn_13_t_im l _ ?_
  unfold fn_13_t
  have e := t31 h
  exact sel_t (by erw [e]; rfl) (by erw [e]; rfl)
theorem t33ok {n : Int} {l : List Int} (h0 : 0 ≤ n) (h1 : n ≤ (l.length : Int)) : op_33 [.n n, .l TB l, .b false] = some (0, [.l TB (l.take n.toNat), .l TB (l.drop n.toNat), .b false]) := by
  rw [op_33_eq]
  refine fn_33_t_im n l false _ ?_
  unfold fn_33_t
  exact sel_f rfl (sel_f (decide_eq_false (by omega)) (sel_f (decide_eq_false (show ¬ (n > (l.length : Int)) by omega)) (sel_t (by simp; omega) rfl)))
theorem t33no {n : Int} {l : List Int} {b : Bool} (h : b = true ∨ n < 0 ∨ (l.length : Int) < n) : op_33 [.n n, .l TB l, .b b] = some (1, [.l TB ([] : List Int), .b true]) := by
  rw [op_33_eq]
  refine fn_33_t_im n l b _ ?_
  unfold fn_33_t
  cases b with
  | true => exact sel_t rfl rfl
  | false =>
    refine sel_f rfl ?_
    by_cases h1 : n < 0
    · exact sel_t (decide_eq_true h1) rfl
    · refine sel_f (decide_eq_false h1) (sel_t (decide_eq_true (show n > (l.length : Int) from ?_)) rfl)
      rcases h with h | h | h
      · cases h
      · omega
      · exact h
theorem t15ok {n : Int} {l : List Int} (h0 : 0 ≤ n) (h1 : n ≤ (l.length : Int)) : op_15 [.n n, .l TB l, .b false] = some (0, [.l TB (l.take n.toNat), .b true, .l TB (l.drop n.toNat), .b false]) := by
  rw [op_15_eq]
  refine fn_15_t_im n l false _ ?_
  unfold fn_15_t
  exact sel_f rfl (sel_f (decide_eq_false (by omega)) (sel_f (decide_eq_false (show ¬ (n > (l.length : Int)) by omega)) (sel_t (by simp; omega) rfl)))
theorem t15no {n : Int} {l : List Int} {b : Bool} (h : b = true ∨ n < 0 ∨ (l.length : Int) < n) : op_15 [.n n, .l TB l, .b b] = some (1, [.b false, .l TB ([] : List Int), .b true]) := by
  rw [op_15_eq]
  refine fn_15_t_im n l b _ ?_
  unfold fn_15_t
  cases b with
  | true => exact sel_t rfl rfl
  | false =>
    refine sel_f rfl ?_
    by_cases h1 : n < 0
    · exact sel_t (decide_eq_true h1) rfl
    · refine sel_f (decide_eq_false h1) (sel_t (decide_eq_true (show n > (l.length : Int) from ?_)) rfl)
      rcases h with h | h | h
      · cases h
      · omega
      · exact h
theorem t34_1ok {l : List Int} (hw : Wb l) (h1 : 1 ≤ l.length) : op_34 [.n 1, .l TB l, .b false] = some (0, [.n (nm (l.take 1)), .l TB (l.drop 1), .b false]) := by
  have e1 : op_33 [.n (1 : Int), .l TB l, .b false] = some (0, [.l TB (l.take 1), .l TB (l.drop 1), .b false]) := t33ok (n := 1) (by omega) (by omega)
  have hx : (l.take 1).length = 1 := by rw [List.length_take]; omega
  have e2 := lp34 (l := l.take 1) (by omega) (hw.take 1) 1 (l.drop 1) false
  have hb := nm_bd (hw.take 1)
  rw [hx] at hb
  have wr : IntKind.wrap .u8 (nm (l.take 1)) = nm (l.take 1) := by
    have : (256 : Int) ^ 1 = 256 := by decide
    rw [wu8]; omega
  rw [op_34_eq]
  refine fn_34_t_im 1 l false _ ?_
  unfold fn_34_t
  refine sel_t (by erw [e1]; rfl) (sel_t (by erw [e1]; erw [e2]; rfl) ?_)
  have e3 : op_L34_3 [.k 0, .n (1 : Int), .n 0, .l TB (gl TB (dOf (op_33 [.n (1 : Int), .l TB l, .b false])) 0), .n (List.length (gl TB (dOf (op_33 [.n (1 : Int), .l TB l, .b false])) 0) : Int), .n 0, .l TB (gl TB (dOf (op_33 [.n (1 : Int), .l TB l, .b false])) 1), .b (gb (dOf (op_33 [.n (1 : Int), .l TB l, .b false])) 2)] = some (0, [.n 1, .n (nm (l.take 1)), .l TB (l.drop 1), .b false]) := by
    rw [e1]; exact e2
  clear e2
  have e2 := e3
  exact sel_t (by erw [e2]; rfl) (by erw [e2]; exact congrArg (fun z => some (0, [Dat.n z, .l TB (l.drop 1), .b false])) wr)
theorem t34_1no {l : List Int} {b : Bool} (h : b = true ∨ l.length < 1) : op_34 [.n 1, .l TB l, .b b] = some (0, [.n 0, .l TB ([] : List Int), .b true]) := by
  have e1 : op_33 [.n (1 : Int), .l TB l, .b b] = some (1, [.l TB ([] : List Int), .b true]) := t33no (by rcases h with h | h; exact .inl h; exact .inr (.inr (by omega)))
  have e2 : op_L34_3 [.k 1, .n (1 : Int), .n 0, .n 0, .n 0, .l TB (gl TB (dOf (op_33 [.n (1 : Int), .l TB l, .b b])) 0), .b (gb (dOf (op_33 [.n (1 : Int), .l TB l, .b b])) 1)] = some (0, [.n 1, .n 0, .l TB ([] : List Int), .b true]) := by
    rw [e1]; exact lp34n 1 [] true
  rw [op_34_eq]
  refine fn_34_t_im 1 l b _ ?_
  unfold fn_34_t
  refine sel_f (by erw [e1]; rfl) (sel_t (by erw [e1]; rfl) (sel_t (by erw [e2]; rfl) ?_))
  exact sel_t (by erw [e2]; rfl) (by erw [e2]; rfl)
theorem t34_2ok {l : List Int} (hw : Wb l) (h1 : 2 ≤ l.length) : op_34 [.n 2, .l TB l, .b false] = some (1, [.n (nm (l.take 2)), .l TB (l.drop 2), .b false]) := by
  have e1 : op_33 [.n (2 : Int), .l TB l, .b false] = some (0, [.l TB (l.take 2), .l TB (l.drop 2), .b false]) := t33ok (n := 2) (by omega) (by omega)
  have hx : (l.take 2).length = 2 := by rw [List.length_take]; omega
  have e2 := lp34 (l := l.take 2) (by omega) (hw.take 2) 2 (l.drop 2) false
  have hb := nm_bd (hw.take 2)
  rw [hx] at hb
  have wr : IntKind.wrap .u16 (nm (l.take 2)) = nm (l.take 2) := by
    have : (256 : Int) ^ 2 = 65536 := by decide
    rw [wu16]; omega
  rw [op_34_eq]
  refine fn_34_t_im 2 l false _ ?_
  unfold fn_34_t
  refine sel_t (by erw [e1]; rfl) (sel_t (by erw [e1]; erw [e2]; rfl) ?_)
  have e3 : op_L34_3 [.k 0, .n (2 : Int), .n 0, .l TB (gl TB (dOf (op_33 [.n (2 : Int), .l TB l, .b false])) 0), .n (List.length (gl TB (dOf (op_33 [.n (2 : Int), .l TB l, .b false])) 0) : Int), .n 0, .l TB (gl TB (dOf (op_33 [.n (2 : Int), .l TB l, .b false])) 1), .b (gb (dOf (op_33 [.n (2 : Int), .l TB l, .b false])) 2)] = some (0, [.n 2, .n (nm (l.take 2)), .l TB (l.drop 2), .b false]) := by
    rw [e1]; exact e2
  clear e2
  have e2 := e3
  exact sel_f (by erw [e2]; rfl) (sel_t (by erw [e2]; rfl) (by erw [e2]; exact congrArg (fun z => some (1, [Dat.n z, .l TB (l.drop 2), .b false])) wr))
theorem t34_2no {l : List Int} {b : Bool} (h : b = true ∨ l.length < 2) : op_34 [.n 2, .l TB l, .b b] = some (1, [.n 0, .l TB ([] : List Int), .b true]) := by
  have e1 : op_33 [.n (2 : Int), .l TB l, .b b] = some (1, [.l TB ([] : List Int), .b true]) := t33no (by rcases h with h | h; exact .inl h; exact .inr (.inr (by omega)))
  have e2 : op_L34_3 [.k 1, .n (2 : Int), .n 0, .n 0, .n 0, .l TB (gl TB (dOf (op_33 [.n (2 : Int), .l TB l, .b b])) 0), .b (gb (dOf (op_33 [.n (2 : Int), .l TB l, .b b])) 1)] = some (0, [.n 2, .n 0, .l TB ([] : List Int), .b true]) := by
    rw [e1]; exact lp34n 2 [] true
  rw [op_34_eq]
  refine fn_34_t_im 2 l b _ ?_
  unfold fn_34_t
  refine sel_f (by erw [e1]; rfl) (sel_t (by erw [e1]; rfl) (sel_t (by erw [e2]; rfl) ?_))
  exact sel_f (by erw [e2]; rfl) (sel_t (by erw [e2]; rfl) (by erw [e2]; rfl))
theorem t34_4ok {l : List Int} (hw : Wb l) (h1 : 4 ≤ l.length) : op_34 [.n 4, .l TB l, .b false] = some (2, [.n (nm (l.take 4)), .l TB (l.drop 4), .b false]) := by
  have e1 : op_33 [.n (4 : Int), .l TB l, .b false] = some (0, [.l TB (l.take 4), .l TB (l.drop 4), .b false]) := t33ok (n := 4) (by omega) (by omega)
  have hx : (l.take 4).length = 4 := by rw [List.length_take]; omega
  have e2 := lp34 (l := l.take 4) (by omega) (hw.take 4) 4 (l.drop 4) false
  have hb := nm_bd (hw.take 4)
  rw [hx] at hb
  have wr : IntKind.wrap .u32 (nm (l.take 4)) = nm (l.take 4) := by
    have : (256 : Int) ^ 4 = 4294967296 := by decide
    rw [wu32]; omega
  rw [op_34_eq]
  refine fn_34_t_im 4 l false _ ?_
  unfold fn_34_t
  refine sel_t (by erw [e1]; rfl) (sel_t (by erw [e1]; erw [e2]; rfl) ?_)
  have e3 : op_L34_3 [.k 0, .n (4 : Int), .n 0, .l TB (gl TB (dOf (op_33 [.n (4 : Int), .l TB l, .b false])) 0), .n (List.length (gl TB (dOf (op_33 [.n (4 : Int), .l TB l, .b false])) 0) : Int), .n 0, .l TB (gl TB (dOf (op_33 [.n (4 : Int), .l TB l, .b false])) 1), .b (gb (dOf (op_33 [.n (4 : Int), .l TB l, .b false])) 2)] = some (0, [.n 4, .n (nm (l.take 4)), .l TB (l.drop 4), .b false]) := by
    rw [e1]; exact e2
  clear e2
  have e2 := e3
  exact sel_f (by erw [e2]; rfl) (sel_f (by erw [e2]; rfl) (sel_t (by erw [e2]; rfl) (by erw [e2]; exact congrArg (fun z => some (2, [Dat.n z, .l TB (l.drop 4), .b false])) wr)))
theorem t34_4no {l : List Int} {b : Bool} (h : b = true ∨ l.length < 4) : op_34 [.n 4, .l TB l, .b b] = some (2, [.n 0, .l TB ([] : List Int), .b true]) := by
  have e1 : op_33 [.n (4 : Int), .l TB l, .b b] = some (1, [.l TB ([] : List Int), .b true]) := t33no (by rcases h with h | h; exact .inl h; exact .inr (.inr (by omega)))
  have e2 : op_L34_3 [.k 1, .n (4 : Int), .n 0, .n 0, .n 0, .l TB (gl TB (dOf (op_33 [.n (4 : Int), .l TB l, .b b])) 0), .b (gb (dOf (op_33 [.n (4 : Int), .l TB l, .b b])) 1)] = some (0, [.n 4, .n 0, .l TB ([] : List Int), .b true]) := by
    rw [e1]; exact lp34n 4 [] true
  rw [op_34_eq]
  refine fn_34_t_im 4 l b _ ?_
  unfold fn_34_t
  refine sel_f (by erw [e1]; rfl) (sel_t (by erw [e1]; rfl) (sel_t (by erw [e2]; rfl) ?_))
  exact sel_f (by erw [e2]; rfl) (sel_f (by erw [e2]; rfl) (sel_t (by erw [e2]; rfl) (by erw [e2]; rfl)))
theorem t34_8ok {l : List Int} (hw : Wb l) (h1 : 8 ≤ l.length) : op_34 [.n 8, .l TB l, .b false] = some (3, [.n (nm (l.take 8)), .l TB (l.drop 8), .b false]) := by
  have e1 : op_33 [.n (8 : Int), .l TB l, .b false] = some (0, [.l TB (l.take 8), .l TB (l.drop 8), .b false]) := t33ok (n := 8) (by omega) (by omega)
  have hx : (l.take 8).length = 8 := by rw [List.length_take]; omega
  have e2 := lp34 (l := l.take 8) (by omega) (hw.take 8) 8 (l.drop 8) false
  have hb := nm_bd (hw.take 8)
  rw [hx] at hb
  have wr : IntKind.wrap .u64 (nm (l.take 8)) = nm (l.take 8) := by
    have : (256 : Int) ^ 8 = 18446744073709551616 := by decide
    rw [wu64]; omega
  rw [op_34_eq]
  refine fn_34_t_im 8 l false _ ?_
  unfold fn_34_t
  refine sel_t (by erw [e1]; rfl) (sel_t (by erw [e1]; erw [e2]; rfl) ?_)
  have e3 : op_L34_3 [.k 0, .n (8 : Int), .n 0, .l TB (gl TB (dOf (op_33 [.n (8 : Int), .l TB l, .b false])) 0), .n (List.length (gl TB (dOf (op_33 [.n (8 : Int), .l TB l, .b false])) 0) : Int), .n 0, .l TB (gl TB (dOf (op_33 [.n (8 : Int), .l TB l, .b false])) 1), .b (gb (dOf (op_33 [.n (8 : Int), .l TB l, .b false])) 2)] = some (0, [.n 8, .n (nm (l.take 8)), .l TB (l.drop 8), .b false]) := by
    rw [e1]; exact e2
  clear e2
  have e2 := e3
  exact sel_f (by erw [e2]; rfl) (sel_f (by erw [e2]; rfl) (sel_f (by erw [e2]; rfl) ((by erw [e2]; rfl))))
theorem t34_8no {l : List Int} {b : Bool} (h : b = true ∨ l.length < 8) : op_34 [.n 8, .l TB l, .b b] = some (3, [.n 0, .l TB ([] : List Int), .b true]) := by
  have e1 : op_33 [.n (8 : Int), .l TB l, .b b] = some (1, [.l TB ([] : List Int), .b true]) := t33no (by rcases h with h | h; exact .inl h; exact .inr (.inr (by omega)))
  have e2 : op_L34_3 [.k 1, .n (8 : Int), .n 0, .n 0, .n 0, .l TB (gl TB (dOf (op_33 [.n (8 : Int), .l TB l, .b b])) 0), .b (gb (dOf (op_33 [.n (8 : Int), .l TB l, .b b])) 1)] = some (0, [.n 8, .n 0, .l TB ([] : List Int), .b true]) := by
    rw [e1]; exact lp34n 8 [] true
  rw [op_34_eq]
  refine fn_34_t_im 8 l b _ ?_
  unfold fn_34_t
  refine sel_f (by erw [e1]; rfl) (sel_t (by erw [e1]; rfl) (sel_t (by erw [e2]; rfl) ?_))
  exact sel_f (by erw [e2]; rfl) (sel_f (by erw [e2]; rfl) (sel_f (by erw [e2]; rfl) ((by erw [e2]; rfl))))
end Go.Proofs.Ytdepolalngehdaa.Vx
