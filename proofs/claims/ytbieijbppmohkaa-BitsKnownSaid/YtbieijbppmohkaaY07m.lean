import Derived.Test.YtbieijbppmohkaaX07m
import Derived.Test.YtbieijbppmohkaaVxBits
import Derived.Test.YtbieijbppmohkaaVxLoop
namespace Go.Proofs.Ytbieijbppmohkaa.Vx
open Go Go.RowKit
set_option linter.unusedVariables false
set_option linter.unusedSimpArgs false
set_option maxRecDepth 100000
set_option maxHeartbeats 1000000
abbrev B64 := BitVec 64
def p2 (k : Nat) : B64 := 1#64 <<< k
def inN (n : Int) : Bool := decide (0 ≤ n) && decide (n < 64)
def hasB (X : B64) (n : Int) : Bool := inN n && X.getLsbD n.toNat
def withB (X : B64) (n : Int) : B64 := bif inN n then X ||| p2 n.toNat else X
def wioB (X : B64) (n : Int) : B64 := bif inN n then X &&& ~~~(p2 n.toNat) else X
theorem p2_bit (k i : Nat) : (p2 k).getLsbD i = (decide (i < 64) && decide (i = k)) := by
  unfold p2
  rw [BitVec.getLsbD_shiftLeft]
  by_cases h : i = k
  · subst h; simp
  · by_cases h2 : i < k
    · simp [h, h2]
    · have : i - k ≠ 0 := by omega
      simp [h, h2, this]
theorem p2_nat {k : Nat} (h : k < 64) : (p2 k).toNat = 2 ^ k := by
  unfold p2
  rw [BitVec.toNat_shiftLeft, Nat.shiftLeft_eq]
  have : 2 ^ k < 2 ^ 64 := Nat.pow_lt_pow_right (by omega) h
  rw [show (1#64).toNat = 1 from rfl, Nat.one_mul, Nat.mod_eq_of_lt this]
theorem getN (X : B64) (k : Nat) : X.getLsbD k = decide (X.toNat / 2 ^ k % 2 = 1) := by
  rw [← BitVec.testBit_toNat, Nat.testBit_eq_decide_div_mod_eq]
theorem iand1 (X : B64) (k : Nat) (hk : k < 64) : (iand IntKind.u64 (ishr IntKind.u64 (N X) (k : Int)) (1 : Int) == (1 : Int)) = X.getLsbD k := by
  rw [ishr_u64, show (1 : Int) = N (1#64) from rfl, iand_u64, N_beq, Bool.eq_iff_iff, beq_iff_eq]
  constructor
  · intro h
    have := congrArg (fun y => y.getLsbD 0) h
    simp at this
    simpa [BitVec.getLsbD_eq_getElem] using this
  · intro h
    apply BitVec.eq_of_getLsbD_eq
    intro i hi
    rw [BitVec.getLsbD_and, BitVec.getLsbD_ushiftRight]
    by_cases h0 : i = 0
    · subst h0; simp [h]
    · simp [h0]
theorem hasI_eq (X : B64) (k : Nat) (hk : k < 64) : Bt.hasI (N X) k = X.getLsbD k := by
  rw [← iand1 X k hk]
  unfold Bt.hasI
  have e : ishr IntKind.u64 (N X) (k : Int) = N X / 2 ^ (k : Int).toNat := by
    show (N X).fdiv (2 ^ min (k : Int).toNat 64) = _
    rw [Nat.min_eq_left (by simp; omega), Int.fdiv_eq_ediv_of_nonneg _ (by exact Int.pow_nonneg (by omega))]
  rw [e]; rfl
theorem with_add {X : B64} {k : Nat} (hk : k < 64) (h : X.getLsbD k = false) : X + p2 k = X ||| p2 k := by
  apply BitVec.add_eq_or_of_and_eq_zero
  apply BitVec.eq_of_getLsbD_eq
  intro i hi
  rw [BitVec.getLsbD_and, p2_bit]
  by_cases e : i = k
  · subst e; simp [h]
  · simp [e]
theorem wio_sub {X : B64} {k : Nat} (hk : k < 64) (h : X.getLsbD k = true) : X - p2 k = X &&& ~~~(p2 k) := by
  have e1 : (X &&& ~~~(p2 k)) + p2 k = (X &&& ~~~(p2 k)) ||| p2 k := with_add hk (by rw [BitVec.getLsbD_and, BitVec.getLsbD_not, p2_bit]; simp [hk])
  have e2 : (X &&& ~~~(p2 k)) ||| p2 k = X := by
    apply BitVec.eq_of_getLsbD_eq
    intro i hi
    rw [BitVec.getLsbD_or, BitVec.getLsbD_and, BitVec.getLsbD_not, p2_bit]
    by_cases e : i = k
    · subst e; simp [h, hi]
    · simp [e, hi]
  have e3 : X = (X &&& ~~~(p2 k)) + p2 k := by rw [e1, e2]
  rw [BitVec.sub_eq_iff_eq_add]; exact e3
theorem N_add (X Y : B64) : IntKind.wrap .u64 (N X + N Y) = N (X + Y) := by
  rw [wrapN_u64]
  refine congrArg N ?_
  apply BitVec.eq_of_toNat_eq
  rw [BitVec.toNat_ofInt, BitVec.toNat_add]
  unfold N
  omega
theorem N_sub (X Y : B64) : IntKind.wrap .u64 (N X - N Y) = N (X - Y) := by
  rw [wrapN_u64]
  refine congrArg N ?_
  apply BitVec.eq_of_toNat_eq
  rw [BitVec.toNat_ofInt, BitVec.toNat_sub]
  have := X.isLt
  have := Y.isLt
  unfold N
  omega
theorem w64x {x : Int} (h0 : -9223372036854775808 ≤ x) (h1 : x < 9223372036854775808) : IntKind.wrap .i64 x = x := by unfold IntKind.wrap; simp [IntKind.bits, IntKind.signed]; omega
theorem wu64' {x : Int} (h0 : 0 ≤ x) (h1 : x < 18446744073709551616) : IntKind.wrap .u64 x = x := by unfold IntKind.wrap; simp [IntKind.bits, IntKind.signed]; omega
attribute [local irreducible] op_19 op_24 op_28
/-! ### power, Has, With, Without -/
theorem pw (k : Nat) (hk : k < 64) : op_31 [.n (k : Int)] = some (0, [.n (N (p2 k))]) := by
  have hl : op_L31_3 [.k 0, .n (k : Int), .n (1 : Int), .n (0 : Int)] = some (0, [.n (N (p2 k))]) := by
    rw [op_L31_3_eq]
    refine iter_count (fun i => [.k 0, .n (k : Int), .n (N (p2 i)), .n (i : Int)]) k (0, [.n (N (p2 k))]) (fun i hi => ?_) ?_ FU (lt_FU (by omega))
    · refine fn_L31_3_t_im _ _ _ _ ?_
      unfold fn_L31_3_t
      refine sel_t (by simpa using hi) ?_
      have e1 : IntKind.wrap .u64 (N (p2 i) * (2 : Int)) = N (p2 (i + 1)) := by
        unfold N
        rw [p2_nat (by omega), p2_nat (by omega), Nat.pow_succ]
        have : 2 ^ (i + 1) ≤ 2 ^ 63 := Nat.pow_le_pow_right (by omega) (by omega)
        rw [Nat.pow_succ] at this
        rw [wu64' (by omega) (by omega)]; omega
      rw [e1, w64x (by omega) (by omega)]
      rfl
    · refine fn_L31_3_t_im _ _ _ _ ?_
      unfold fn_L31_3_t
      exact sel_f (by simp) rfl
  rw [op_31_eq]
  refine fn_31_t_im _ _ ?_
  unfold fn_31_t
  dsimp only
  rw [hl]; rfl
theorem e10 (X : B64) (n : Int) : op_10 [.n (N X), .n n] = some (0, [.b (hasB X n)]) := by
  rw [op_10_eq]
  refine fn_10_t_im _ _ _ ?_
  unfold fn_10_t hasB inN
  by_cases h0 : 0 ≤ n
  · by_cases h1 : n < 64
    · obtain ⟨k, rfl⟩ : ∃ k : Nat, n = k := ⟨n.toNat, by omega⟩
      refine sel_t (by simp) (sel_t (by simpa using h1) ?_)
      rw [iand1 X k (by omega)]
      simp [Tree.sel, show (k : Int) < 64 from h1]
    · refine sel_t (by simpa using h0) (sel_f (by simpa using h1) ?_)
      simp [Tree.sel, h1]
  · refine sel_f (by simpa using h0) ?_
    simp [Tree.sel, h0]
theorem e11 (X : B64) (n : Int) : op_11 [.n (N X), .n n] = some (0, [.b (hasB X n)]) := by
  rw [op_11_eq]
  refine fn_11_t_im _ _ _ ?_
  unfold fn_11_t hasB inN
  by_cases h0 : 0 ≤ n
  · by_cases h1 : n < 64
    · obtain ⟨k, rfl⟩ : ∃ k : Nat, n = k := ⟨n.toNat, by omega⟩
      refine sel_t (by simp) (sel_t (by simp; omega) ?_)
      rw [pw k (by omega)]
      have hp : N (p2 k) = ((2 ^ k : Nat) : Int) := by unfold N; rw [p2_nat (by omega)]
      have hpos : 0 < 2 ^ k := Nat.pow_pos (by omega)
      refine sel_t rfl (sel_t ?_ ?_)
      · show (!decide (N (p2 k) = 0)) = true
        have hne : ((2 ^ k : Nat) : Int) ≠ 0 := by have := Nat.pos_iff_ne_zero.1 hpos; exact_mod_cast this
        rw [hp, decide_eq_false hne]; rfl
      · show some (0, [Dat.b (Int.tmod (IntKind.wrap .u64 (Int.tdiv (N X) (N (p2 k)))) (2 : Int) == (1 : Int))]) = _
        rw [hp]
        have e1 : Int.tdiv (N X) ((2 ^ k : Nat) : Int) = ((X.toNat / 2 ^ k : Nat) : Int) := by unfold N; rfl
        have hlt : X.toNat / 2 ^ k < 2 ^ 64 := Nat.lt_of_le_of_lt (Nat.div_le_self _ _) X.isLt
        rw [e1, wu64' (Int.natCast_nonneg _) (Int.ofNat_lt.2 (Nat.lt_of_lt_of_le hlt (by decide)))]
        have e2 : Int.tmod ((X.toNat / 2 ^ k : Nat) : Int) 2 = ((X.toNat / 2 ^ k % 2 : Nat) : Int) := rfl
        rw [e2, getN]
        simp only [Option.some.injEq, Prod.mk.injEq, List.cons.injEq, and_true, true_and, Dat.b.injEq]
        rw [show decide (0 ≤ (k : Int)) = true by simp, show decide ((k : Int) < 64) = true by simpa using h1, Bool.true_and, Bool.true_and, Bool.eq_iff_iff, beq_iff_eq, decide_eq_true_eq]
        simp only [Int.toNat_natCast]
        omega
    · refine sel_t (by simpa using h0) (sel_f (by simp; omega) ?_)
      simp [Tree.sel, h1]
  · refine sel_f (by simpa using h0) ?_
    simp [Tree.sel, h0]
theorem ishl1 (k : Nat) : ishl IntKind.u64 (1 : Int) (k : Int) = N (p2 k) := by
  rw [show (1 : Int) = N (1#64) from rfl, ishl_u64]; rfl
theorem e12 (X : B64) (n : Int) : op_12 [.n (N X), .n n] = some (0, [.n (N (withB X n))]) := by
  rw [op_12_eq]
  refine fn_12_t_im _ _ _ ?_
  unfold fn_12_t withB inN
  by_cases h0 : 0 ≤ n
  · by_cases h1 : n < 64
    · obtain ⟨k, rfl⟩ : ∃ k : Nat, n = k := ⟨n.toNat, by omega⟩
      refine sel_t (by simp) (sel_f (by simpa using h1) ?_)
      rw [ishl1, ior_u64]
      simp [Tree.sel, show (k : Int) < 64 from h1]
    · refine sel_t (by simpa using h0) (sel_t (by simpa using h1) ?_)
      simp [Tree.sel, h1]
  · refine sel_f (by simpa using h0) ?_
    simp [Tree.sel, h0]
theorem e14 (X : B64) (n : Int) : op_14 [.n (N X), .n n] = some (0, [.n (N (wioB X n))]) := by
  rw [op_14_eq]
  refine fn_14_t_im _ _ _ ?_
  unfold fn_14_t wioB inN
  by_cases h0 : 0 ≤ n
  · by_cases h1 : n < 64
    · obtain ⟨k, rfl⟩ : ∃ k : Nat, n = k := ⟨n.toNat, by omega⟩
      refine sel_t (by simp) (sel_f (by simpa using h1) ?_)
      rw [ishl1, iandnot_u64]
      simp [Tree.sel, show (k : Int) < 64 from h1]
    · refine sel_t (by simpa using h0) (sel_t (by simpa using h1) ?_)
      simp [Tree.sel, h1]
  · refine sel_f (by simpa using h0) ?_
    simp [Tree.sel, h0]
theorem e13 (X : B64) (n : Int) : op_13 [.n (N X), .n n] = some (0, [.n (N (withB X n))]) := by
  rw [op_13_eq]
  refine fn_13_t_im _ _ _ ?_
  unfold fn_13_t
  by_cases h0 : 0 ≤ n
  · by_cases h1 : n < 64
    · have hi : inN n = true := by simp [inN, h0, h1]
      refine sel_f (by simpa using h0) (sel_f (by simp; omega) ?_)
      rw [e11]
      refine sel_t rfl ?_
      cases hb : hasB X n with
      | true =>
        refine sel_t rfl ?_
        have hg : X.getLsbD n.toNat = true := by unfold hasB at hb; rw [hi] at hb; simpa using hb
        have : X ||| p2 n.toNat = X := by
          apply BitVec.eq_of_getLsbD_eq
          intro i hlt
          rw [BitVec.getLsbD_or, p2_bit]
          by_cases e : i = n.toNat
          · subst e; simp [hg]
          · simp [e]
        simp only [Tree.sel, withB, hi, cond_true, this]
      | false =>
        refine sel_f rfl ?_
        have hg : X.getLsbD n.toNat = false := by unfold hasB at hb; rw [hi] at hb; simpa using hb
        obtain ⟨k, rfl⟩ : ∃ k : Nat, n = k := ⟨n.toNat, by omega⟩
        rw [pw k (by omega)]
        refine sel_t rfl ?_
        show some (0, [Dat.n (IntKind.wrap .u64 (N X + N (p2 k)))]) = _
        rw [Int.toNat_natCast] at hg
        rw [N_add, with_add (by omega) hg]
        simp only [withB, hi, cond_true, Int.toNat_natCast]
    · refine sel_f (by simpa using h0) (sel_t (by simp; omega) ?_)
      simp [Tree.sel, withB, inN, h1]
  · refine sel_t (by simp; omega) ?_
    simp [Tree.sel, withB, inN, h0]
theorem e15 (X : B64) (n : Int) : op_15 [.n (N X), .n n] = some (0, [.n (N (wioB X n))]) := by
  rw [op_15_eq]
  refine fn_15_t_im _ _ _ ?_
  unfold fn_15_t
  dsimp only
  rw [e11]
  refine sel_t rfl ?_
  cases hb : hasB X n with
  | false =>
    refine sel_t rfl ?_
    have : wioB X n = X := by
      unfold wioB
      cases hi : inN n with
      | false => rfl
      | true =>
        have hg : X.getLsbD n.toNat = false := by unfold hasB at hb; rw [hi] at hb; simpa using hb
        apply BitVec.eq_of_getLsbD_eq
        intro i hlt
        rw [cond_true, BitVec.getLsbD_and, BitVec.getLsbD_not, p2_bit]
        by_cases e : i = n.toNat
        · subst e; simp [hg]
        · simp [e, hlt]
    simp only [Tree.sel, this]
  | true =>
    refine sel_f rfl ?_
    have hi : inN n = true := by unfold hasB at hb; rw [Bool.and_eq_true] at hb; exact hb.1
    have hg : X.getLsbD n.toNat = true := by unfold hasB at hb; rw [hi] at hb; simpa using hb
    have h01 : 0 ≤ n ∧ n < 64 := by simpa [inN] using hi
    obtain ⟨k, rfl⟩ : ∃ k : Nat, n = k := ⟨n.toNat, by omega⟩
    rw [pw k (by omega)]
    refine sel_t rfl ?_
    show some (0, [Dat.n (IntKind.wrap .u64 (N X - N (p2 k)))]) = _
    rw [Int.toNat_natCast] at hg
    rw [N_sub, wio_sub (by omega) hg]
    simp only [wioB, hi, cond_true, Int.toNat_natCast]
/-! ### BitsOne -/
theorem t3 (X : B64) (n : Int) : Good (· = true) (fn_W3_t [.n (N X), .n n]).sel := by
  unfold fn_W3_t
  dsimp only
  rw [e10]; refine good_t rfl ?_
  rw [e11]; refine good_t rfl (good_t (by simp [gb, dOf]) ?_)
  rw [e12]; refine good_t rfl ?_
  rw [e13]; refine good_t rfl (good_t (by simp [gn, dOf]) ?_)
  rw [e14]; refine good_t rfl ?_
  rw [e15]; refine good_t rfl (good_t (by simp [gn, dOf]) (good_leaf rfl))
end Go.Proofs.Ytbieijbppmohkaa.Vx
namespace Go.Proofs.Ytbieijbppmohkaa.Vx
/-! ### How many bits are set -/
theorem tb_low {b a i : Nat} (hb : b < 256) (hi : i < 8) : (b + 256 * a).testBit i = b.testBit i := by
  have := Nat.testBit_two_pow_mul_add a (b := b) (i := 8) (by omega) i
  rw [show b + 256 * a = 2 ^ 8 * a + b by omega, this, if_pos hi]
theorem tb_high {b a i : Nat} (hb : b < 256) (hi : 8 ≤ i) : (b + 256 * a).testBit i = a.testBit (i - 8) := by
  have := Nat.testBit_two_pow_mul_add a (b := b) (i := 8) (by omega) i
  rw [show b + 256 * a = 2 ^ 8 * a + b by omega, this, if_neg (by omega)]
theorem and_split {b a m c : Nat} (hb : b < 256) (hm : m < 256) : (b + 256 * a) &&& (m + 256 * c) = (b &&& m) + 256 * (a &&& c) := by
  have hbm : b &&& m < 256 := Nat.and_lt_two_pow (n := 8) b hm
  apply Nat.eq_of_testBit_eq
  intro i
  rw [Nat.testBit_and]
  rcases Nat.lt_or_ge i 8 with h | h
  · rw [tb_low hb h, tb_low hm h, tb_low hbm h, Nat.testBit_and]
  · rw [tb_high hb h, tb_high hm h, tb_high hbm h, Nat.testBit_and]
theorem shr_split {b a m c s : Nat} (hb : b < 256) (hs : s ≤ 8) (hm : m < 2 ^ (8 - s)) : ((b + 256 * a) >>> s) &&& (m + 256 * c) = ((b >>> s) &&& m) + 256 * ((a >>> s) &&& c) := by
  have hm8 : m < 256 := Nat.lt_of_lt_of_le hm (by show _ ≤ 2 ^ 8; exact Nat.pow_le_pow_right (by omega) (by omega))
  have hbm : (b >>> s) &&& m < 256 := Nat.and_lt_two_pow (n := 8) _ hm8
  apply Nat.eq_of_testBit_eq
  intro i
  rw [Nat.testBit_and, Nat.testBit_shiftRight]
  rcases Nat.lt_or_ge i 8 with h | h
  · rw [tb_low hm8 h, tb_low hbm h, Nat.testBit_and, Nat.testBit_shiftRight]
    rcases Nat.lt_or_ge (s + i) 8 with q | q
    · rw [tb_low hb q]
    · have : m.testBit i = false := Nat.testBit_lt_two_pow (Nat.lt_of_lt_of_le hm (Nat.pow_le_pow_right (by omega) (by omega)))
      rw [this]; simp
  · rw [tb_high hb (by omega), tb_high hm8 h, tb_high hbm h, Nat.testBit_and, Nat.testBit_shiftRight, show s + i - 8 = s + (i - 8) by omega]
def bval : List Nat → Nat
  | [] => 0
  | b :: l => b + 256 * bval l
def By (k : Nat) (l : List Nat) : Prop := ∀ b ∈ l, b ≤ k
def pcF1 (b : Nat) : Nat := ((b >>> 1) &&& 0x55) + (b &&& 0x55)
def pcF2 (b : Nat) : Nat := ((b >>> 2) &&& 0x33) + (b &&& 0x33)
def pcF3 (b : Nat) : Nat := (b / 16 + b) % 16
def pc8 (b : Nat) : Nat := ((List.range 8).filter fun i => b.testBit i).length
theorem pc_bytes : ∀ b, b < 256 → pcF1 b < 256 ∧ pcF2 (pcF1 b) ≤ 68 ∧ pcF2 (pcF1 b) % 16 ≤ 4 ∧ pcF3 (pcF2 (pcF1 b)) = pc8 b ∧ pc8 b ≤ 8 := by decide +kernel
theorem bv_shr {m s : Nat} (hs : s ≤ 8) (hm : m < 2 ^ (8 - s)) : ∀ {l : List Nat}, By 255 l → (bval l >>> s) &&& bval (List.replicate l.length m) = bval (l.map fun b => (b >>> s) &&& m)
  | [], _ => by simp [bval]
  | b :: l, h => by
    have hb : b < 256 := by have := h b (by simp); omega
    show ((b + 256 * bval l) >>> s) &&& (m + 256 * bval (List.replicate l.length m)) = _
    rw [shr_split hb hs hm, bv_shr hs hm (fun x hx => h x (by simp [hx]))]
    rfl
theorem bv_and {m : Nat} (hm : m < 256) : ∀ {l : List Nat}, By 255 l → bval l &&& bval (List.replicate l.length m) = bval (l.map fun b => b &&& m)
  | [], _ => by simp [bval]
  | b :: l, h => by
    have hb : b < 256 := by have := h b (by simp); omega
    show (b + 256 * bval l) &&& (m + 256 * bval (List.replicate l.length m)) = _
    rw [and_split hb hm, bv_and hm (fun x hx => h x (by simp [hx]))]
    rfl
theorem bv_add (f g : Nat → Nat) : ∀ l : List Nat, bval (l.map f) + bval (l.map g) = bval (l.map fun b => f b + g b)
  | [] => rfl
  | b :: l => by have := bv_add f g l; simp only [List.map_cons, bval] at *; omega
theorem bv_s3 : ∀ {l : List Nat}, (∀ b ∈ l, b ≤ 68 ∧ b % 16 ≤ 4) → (bval l >>> 4 + bval l) &&& bval (List.replicate l.length 15) = bval (l.map pcF3)
  | [], _ => by simp [bval]
  | b :: l, h => by
    obtain ⟨h1, h2⟩ := h b (by simp)
    have hl : bval l % 16 ≤ 4 := by
      cases l with
      | nil => simp [bval]
      | cons c l => have := (h c (by simp)).2; simp only [bval]; omega
    show ((b + 256 * bval l) >>> 4 + (b + 256 * bval l)) &&& (15 + 256 * bval (List.replicate l.length 15)) = _
    have e : (b + 256 * bval l) >>> 4 + (b + 256 * bval l) = (b / 16 + b + 16 * (bval l % 16)) + 256 * (bval l >>> 4 + bval l) := by
      simp only [Nat.shiftRight_eq_div_pow]; omega
    rw [e, and_split (by omega) (by omega), bv_s3 (fun x hx => h x (by simp [hx]))]
    have : (b / 16 + b + 16 * (bval l % 16)) &&& 15 = pcF3 b := by
      rw [show (15 : Nat) = 2 ^ 4 - 1 from rfl, Nat.and_two_pow_sub_one_eq_mod]
      simp only [pcF3]; omega
    rw [this]; rfl
def cntB (n x : Nat) : Nat := ((List.range n).filter fun i => x.testBit i).length
theorem cnt_split {n b a : Nat} (hb : b < 256) : cntB (8 + n) (b + 256 * a) = pc8 b + cntB n a := by
  unfold cntB pc8
  rw [List.range_add, List.filter_append, List.length_append]
  congr 1
  · congr 1
    apply List.filter_congr
    intro i hi
    rw [tb_low hb (by simpa using hi)]
  · rw [List.filter_map, List.length_map]
    congr 1
    apply List.filter_congr
    intro i _
    show (b + 256 * a).testBit (8 + i) = _
    rw [tb_high hb (by omega), show 8 + i - 8 = i by omega]
def bytesN : Nat → Nat → List Nat
  | 0, _ => []
  | n + 1, x => x % 256 :: bytesN n (x / 256)
theorem bytesN_len : ∀ n x, (bytesN n x).length = n
  | 0, _ => rfl
  | n + 1, x => by simp [bytesN, bytesN_len n]
theorem bytesN_by : ∀ n x, By 255 (bytesN n x)
  | 0, _ => by intro b hb; cases hb
  | n + 1, x => by
    intro b hb
    rcases List.mem_cons.1 hb with rfl | hb
    · omega
    · exact bytesN_by n _ b hb
theorem bytesN_val : ∀ n x, x < 256 ^ n → bval (bytesN n x) = x
  | 0, x, h => by simp [bytesN, bval]; simp at h; omega
  | n + 1, x, h => by
    have : x / 256 < 256 ^ n := by rw [Nat.pow_succ] at h; exact Nat.div_lt_of_lt_mul (by omega)
    simp only [bytesN, bval, bytesN_val n _ this]; omega
theorem cnt_bytes : ∀ n x, cntB (8 * n) (bval (bytesN n x)) = ((bytesN n x).map pc8).sum
  | 0, x => rfl
  | n + 1, x => by
    rw [show 8 * (n + 1) = 8 + 8 * n by omega]
    simp only [bytesN, bval, List.map_cons, List.sum_cons]
    rw [cnt_split (by omega), cnt_bytes n]
theorem bv_shr8 {b : Nat} {l : List Nat} (h : b < 256) : bval (b :: l) >>> 8 = bval l := by
  rw [Nat.shiftRight_eq_div_pow]; simp only [bval]; omega
theorem bv_lt : ∀ {l : List Nat}, By 255 l → bval l < 256 ^ l.length
  | [], _ => by simp [bval]
  | b :: l, h => by
    have := bv_lt (l := l) fun x hx => h x (by simp [hx])
    have hb := h b (by simp)
    simp only [bval, List.length_cons, Nat.pow_succ]; omega
theorem q4 (p0 p1 p2 p3 p4 p5 p6 p7 : Nat) : bval [p0, p1, p2, p3, p4, p5, p6, p7] + bval [p1, p2, p3, p4, p5, p6, p7] = bval [p0 + p1, p1 + p2, p2 + p3, p3 + p4, p4 + p5, p5 + p6, p6 + p7, p7] := by simp only [bval]; omega
theorem q5 (p0 p1 p2 p3 p4 p5 p6 p7 : Nat) : bval [p0, p1, p2, p3, p4, p5, p6, p7] + bval [p2, p3, p4, p5, p6, p7] = bval [p0 + p2, p1 + p3, p2 + p4, p3 + p5, p4 + p6, p5 + p7, p6, p7] := by simp only [bval]; omega
theorem q6 (p0 p1 p2 p3 p4 p5 p6 p7 : Nat) : bval [p0, p1, p2, p3, p4, p5, p6, p7] + bval [p4, p5, p6, p7] = bval [p0 + p4, p1 + p5, p2 + p6, p3 + p7, p4, p5, p6, p7] := by simp only [bval]; omega
theorem bv_mod {b : Nat} {l : List Nat} (h : b < 128) : bval (b :: l) % 128 = b := by simp only [bval]; omega
theorem by8 {a b c d e f g h k : Nat} (ha : a ≤ k) (hb : b ≤ k) (hc : c ≤ k) (hd : d ≤ k) (he : e ≤ k) (hf : f ≤ k) (hg : g ≤ k) (hh : h ≤ k) : By k [a, b, c, d, e, f, g, h] := by
  intro x hx
  simp only [List.mem_cons, List.not_mem_nil, or_false] at hx
  rcases hx with rfl | rfl | rfl | rfl | rfl | rfl | rfl | rfl <;> assumption
theorem pc_tail (p0 p1 p2 p3 p4 p5 p6 p7 : Nat) (c0 : p0 ≤ 8) (c1 : p1 ≤ 8) (c2 : p2 ≤ 8) (c3 : p3 ≤ 8) (c4 : p4 ≤ 8) (c5 : p5 ≤ 8) (c6 : p6 ≤ 8) (c7 : p7 ≤ 8)
    (x3 x4 x5 x6 : Nat) (e3 : x3 = bval [p0, p1, p2, p3, p4, p5, p6, p7]) (h4 : x4 = x3 + x3 >>> 8) (h5 : x5 = x4 + x4 >>> 16) (h6 : x6 = x5 + x5 >>> 32) :
    x4 < 2 ^ 64 ∧ x5 < 2 ^ 64 ∧ x6 < 2 ^ 64 ∧ x6 % 128 = p0 + (p1 + (p2 + (p3 + (p4 + (p5 + (p6 + (p7 + 0))))))) := by
  rw [e3, bv_shr8 (by omega), q4] at h4
  rw [h4, show (16 : Nat) = 8 + 8 from rfl, Nat.shiftRight_add, bv_shr8 (by omega), bv_shr8 (by omega), q5] at h5
  rw [h5, show (32 : Nat) = 8 + 8 + 8 + 8 from rfl, Nat.shiftRight_add, Nat.shiftRight_add, Nat.shiftRight_add, bv_shr8 (by omega), bv_shr8 (by omega), bv_shr8 (by omega), bv_shr8 (by omega), q6] at h6
  clear e3
  refine ⟨?_, ?_, ?_, ?_⟩
  · rw [h4]; clear h4 h5 h6
    exact Nat.lt_of_lt_of_le (bv_lt (by8 (by omega) (by omega) (by omega) (by omega) (by omega) (by omega) (by omega) (by omega))) (by show 256 ^ 8 ≤ 2 ^ 64; decide)
  · rw [h5]; clear h4 h5 h6
    exact Nat.lt_of_lt_of_le (bv_lt (by8 (by omega) (by omega) (by omega) (by omega) (by omega) (by omega) (by omega) (by omega))) (by show 256 ^ 8 ≤ 2 ^ 64; decide)
  · rw [h6]; clear h4 h5 h6
    exact Nat.lt_of_lt_of_le (bv_lt (by8 (by omega) (by omega) (by omega) (by omega) (by omega) (by omega) (by omega) (by omega))) (by show 256 ^ 8 ≤ 2 ^ 64; decide)
  · rw [h6, bv_mod (by clear h4 h5 h6; omega)]; clear h4 h5 h6; omega
set_option maxHeartbeats 4000000 in
theorem popcount_ok (x : Nat) (hx : x < 2 ^ 64) :
    let x1 := ((x >>> 1) &&& 0x5555555555555555) + (x &&& 0x5555555555555555)
    let x2 := ((x1 >>> 2) &&& 0x3333333333333333) + (x1 &&& 0x3333333333333333)
    let x3 := (x2 >>> 4 + x2) &&& 0x0f0f0f0f0f0f0f0f
    let x4 := x3 + x3 >>> 8
    let x5 := x4 + x4 >>> 16
    let x6 := x5 + x5 >>> 32
    x1 < 2 ^ 64 ∧ x2 < 2 ^ 64 ∧ x2 >>> 4 + x2 < 2 ^ 64 ∧ x4 < 2 ^ 64 ∧ x5 < 2 ^ 64 ∧ x6 < 2 ^ 64 ∧ x6 % 128 = cntB 64 x := by
  intro x1 x2 x3 x4 x5 x6
  have e0 : bval (bytesN 8 x) = x := bytesN_val 8 x (by simpa using hx)
  have hb := bytesN_by 8 x
  have hlen := bytesN_len 8 x
  have hcnt := cnt_bytes 8 x
  rw [e0] at hcnt
  generalize hl : bytesN 8 x = l at *
  have e1 : x1 = bval (l.map pcF1) := by
    show ((x >>> 1) &&& 0x5555555555555555) + (x &&& 0x5555555555555555) = _
    have m55 : (0x5555555555555555 : Nat) = bval (List.replicate l.length 0x55) := by rw [hlen]; rfl
    rw [m55, ← e0, bv_shr (by omega) (by decide) hb, bv_and (by omega) hb, bv_add]; rfl
  have hb1 : By 255 (l.map pcF1) := by
    intro b hb'
    obtain ⟨c, hc, rfl⟩ := List.mem_map.1 hb'
    have := (pc_bytes c (by have := hb c hc; omega)).1; omega
  have e2 : x2 = bval ((l.map pcF1).map pcF2) := by
    show ((x1 >>> 2) &&& 0x3333333333333333) + (x1 &&& 0x3333333333333333) = _
    have m33 : (0x3333333333333333 : Nat) = bval (List.replicate (l.map pcF1).length 0x33) := by rw [List.length_map, hlen]; rfl
    rw [m33, e1, bv_shr (by omega) (by decide) hb1, bv_and (by omega) hb1, bv_add]; rfl
  have hb2 : ∀ b ∈ (l.map pcF1).map pcF2, b ≤ 68 ∧ b % 16 ≤ 4 := by
    intro b hb'
    obtain ⟨c, hc, rfl⟩ := List.mem_map.1 hb'
    obtain ⟨d, hd, rfl⟩ := List.mem_map.1 hc
    have := pc_bytes d (by have := hb d hd; omega)
    omega
  have e3 : x3 = bval (l.map pc8) := by
    show (x2 >>> 4 + x2) &&& 0x0f0f0f0f0f0f0f0f = _
    have m0f : (0x0f0f0f0f0f0f0f0f : Nat) = bval (List.replicate ((l.map pcF1).map pcF2).length 15) := by rw [List.length_map, List.length_map, hlen]; rfl
    rw [m0f, e2, bv_s3 hb2, List.map_map, List.map_map]
    congr 1
    apply List.map_congr_left
    intro b hb'
    exact (pc_bytes b (by have := hb b hb'; omega)).2.2.2.1
  have h8 : ∀ b ∈ l, pc8 b ≤ 8 := fun b hb' => (pc_bytes b (by have := hb b hb'; omega)).2.2.2.2
  have hx1 : x1 < 2 ^ 64 := by
    rw [e1]
    have := bv_lt hb1
    rw [List.length_map, hlen] at this; exact this
  have hx2 : x2 < 2 ^ 63 := by
    rw [e2]
    have : ∀ {l : List Nat}, (∀ b ∈ l, b ≤ 68 ∧ b % 16 ≤ 4) → bval l ≤ 68 * bval (List.replicate l.length 1) := by
      intro l
      induction l with
      | nil => intro _; simp [bval]
      | cons b l ih => intro h; have := ih fun x hx => h x (by simp [hx]); have := h b (by simp); simp only [bval, List.length_cons, List.replicate_succ]; omega
    have := this hb2
    rw [List.length_map, List.length_map, hlen] at this
    exact Nat.lt_of_le_of_lt this (by decide)
  have hfin : x4 < 2 ^ 64 ∧ x5 < 2 ^ 64 ∧ x6 < 2 ^ 64 ∧ x6 % 128 = (l.map pc8).sum := by
    obtain ⟨a0, a1, a2, a3, a4, a5, a6, a7, rfl⟩ : ∃ a0 a1 a2 a3 a4 a5 a6 a7, l = [a0, a1, a2, a3, a4, a5, a6, a7] := by
      match l, hlen with
      | [a0, a1, a2, a3, a4, a5, a6, a7], _ => exact ⟨_, _, _, _, _, _, _, _, rfl⟩
    have e3' : x3 = bval [pc8 a0, pc8 a1, pc8 a2, pc8 a3, pc8 a4, pc8 a5, pc8 a6, pc8 a7] := e3
    have hs : (List.map pc8 [a0, a1, a2, a3, a4, a5, a6, a7]).sum = pc8 a0 + (pc8 a1 + (pc8 a2 + (pc8 a3 + (pc8 a4 + (pc8 a5 + (pc8 a6 + (pc8 a7 + 0))))))) := by simp only [List.map_cons, List.map_nil, List.sum_cons, List.sum_nil]
    rw [hs]
    clear_value x3
    exact pc_tail (pc8 a0) (pc8 a1) (pc8 a2) (pc8 a3) (pc8 a4) (pc8 a5) (pc8 a6) (pc8 a7) (h8 a0 (by simp)) (h8 a1 (by simp)) (h8 a2 (by simp)) (h8 a3 (by simp)) (h8 a4 (by simp)) (h8 a5 (by simp)) (h8 a6 (by simp)) (h8 a7 (by simp)) x3 x4 x5 x6 e3' rfl rfl rfl
  refine ⟨hx1, by omega, ?_, hfin.1, hfin.2.1, hfin.2.2.1, by rw [hfin.2.2.2]; exact hcnt.symm⟩
  have h16 : x2 >>> 4 ≤ 2 ^ 59 := by rw [Nat.shiftRight_eq_div_pow]; omega
  omega
end Go.Proofs.Ytbieijbppmohkaa.Vx
namespace Go.Proofs.Ytbieijbppmohkaa.Vx
open Go Go.RowKit
set_option linter.unusedVariables false
set_option linter.unusedSimpArgs false
set_option maxRecDepth 100000
set_option maxHeartbeats 1000000
attribute [local irreducible] op_19 op_24 op_28
/-! ### The numbers of a set -/
theorem bitsTo_eq (X : B64) : ∀ k, k ≤ 64 → Bt.bitsTo (N X) k = (List.range k).filter fun i => X.getLsbD i
  | 0, _ => rfl
  | k + 1, h => by
    have ih := bitsTo_eq X k (by omega)
    rw [List.range_succ, List.filter_append]
    cases hb : X.getLsbD k with
    | true => rw [Bt.bitsTo_hit (by rw [hasI_eq X k (by omega)]; exact hb), ih]; simp [hb]
    | false => rw [Bt.bitsTo_miss (by rw [hasI_eq X k (by omega)]; exact hb), ih]; simp [hb]
def LB (X : B64) (k : Nat) : List Int := ((List.range k).filter fun i => X.getLsbD i).map fun (i : Nat) => (i : Int)
theorem LB_len (X : B64) (k : Nat) : (LB X k).length ≤ k := by
  unfold LB
  rw [List.length_map]
  exact Nat.le_trans (List.length_filter_le _ _) (by simp)
theorem LB_cnt (X : B64) : (LB X 64).length = cntB 64 X.toNat := by
  unfold LB cntB
  rw [List.length_map]
  congr 1
theorem LB_mem (X : B64) (n : Int) : n ∈ LB X 64 ↔ hasB X n = true := by
  unfold LB hasB inN
  simp only [List.mem_map, List.mem_filter, List.mem_range, Bool.and_eq_true, decide_eq_true_eq]
  constructor
  · rintro ⟨i, ⟨h1, h2⟩, rfl⟩
    exact ⟨⟨by omega, by omega⟩, by simpa using h2⟩
  · rintro ⟨⟨h1, h2⟩, h3⟩
    exact ⟨n.toNat, ⟨by omega, h3⟩, by omega⟩
theorem LB_sorted (X : B64) (k : Nat) : (LB X k).Pairwise (· < ·) := by
  unfold LB
  rw [List.pairwise_map]
  refine List.Pairwise.imp ?_ ((List.pairwise_lt_range (n := k)).filter _)
  intro a b h; exact_mod_cast h
theorem e19 (X : B64) : op_19 [.n (N X)] = some (0, [.l TI (LB X 64)]) := by
  rw [op_19_eq]
  show some (0, [Dat.l TI (bitsI (N X))]) = _
  unfold bitsI
  rw [bitsTo_eq X 64 (by omega)]; rfl
theorem e24 (X : B64) : op_24 [.n (N X)] = some (0, [.n ((LB X 64).headD 64)]) := by
  rw [op_24_eq]
  show some (0, [Dat.n (((Bt.bitsTo (N X) 64).headD 64 : Nat) : Int)]) = _
  rw [bitsTo_eq X 64 (by omega)]
  unfold LB
  cases (List.filter (fun i => X.getLsbD i) (List.range 64)) <;> rfl
theorem e20 (X : B64) : op_20 [.n (N X)] = some (0, [.l TI (LB X 64)]) := by
  have hl : op_L20_3 [.k 0, .n (N X), .n (0 : Int), .l TI []] = some (0, [.l TI (LB X 64)]) := by
    rw [op_L20_3_eq]
    refine iter_count (fun i => [.k 0, .n (N X), .n (i : Int), .l TI (LB X i)]) 64 (0, [.l TI (LB X 64)]) (fun i hi => ?_) ?_ FU (lt_FU (by omega))
    · refine fn_L20_3_t_im _ _ _ _ ?_
      unfold fn_L20_3_t
      refine sel_t (decide_eq_true (show (i : Int) < 64 by omega)) ?_
      dsimp only
      rw [e11]
      refine sel_t rfl ?_
      have hh : hasB X (i : Int) = X.getLsbD i := by unfold hasB inN; simp [show (i : Int) < 64 by omega]
      have hlen := LB_len X i
      have hL : LB X (i + 1) = LB X i ++ (bif X.getLsbD i then [(i : Int)] else []) := by
        unfold LB
        rw [List.range_succ, List.filter_append, List.map_append]
        cases h : X.getLsbD i <;> simp [h]
      cases hb : X.getLsbD i with
      | true =>
        refine sel_t (by rw [hh, hb]; rfl) (sel_t (decide_eq_true (show ((LB X i).length + 1) * 8 ≤ 140737488355328 by omega)) ?_)
        rw [w64x (by omega) (by omega), hL, hb]
        rfl
      | false =>
        refine sel_f (by rw [hh, hb]; rfl) ?_
        rw [w64x (by omega) (by omega), hL, hb]
        simp [Tree.sel]
    · refine fn_L20_3_t_im _ _ _ _ ?_
      unfold fn_L20_3_t
      exact sel_f (by simp) rfl
  rw [op_20_eq]
  refine fn_20_t_im _ _ ?_
  unfold fn_20_t
  dsimp only
  rw [hl]
  refine sel_t rfl ?_
  rfl
theorem e23 (X : B64) : op_23 [.n (N X)] = some (0, [.n ((LB X 64).length : Int)]) := by
  rw [op_23_eq]
  refine fn_23_t_im _ _ ?_
  unfold fn_23_t
  dsimp only
  rw [e20]
  exact sel_t rfl rfl
theorem e25 (X : B64) : op_25 [.n (N X)] = some (0, [.n ((LB X 64).headD 64)]) := by
  rw [op_25_eq]
  refine fn_25_t_im _ _ ?_
  unfold fn_25_t
  dsimp only
  rw [e20]
  refine sel_t rfl ?_
  have hg : gl (Ty.int IntKind.i64) (dOf (some (0, [Dat.l TI (LB X 64)]))) 0 = LB X 64 := gl_self TI (LB X 64)
  rw [hg]
  cases LB X 64 with
  | nil => exact sel_t rfl rfl
  | cons a l => exact sel_f (by simp) rfl
theorem e21 (l : List Int) (hl : l.length ≤ 9223372036854775807) : op_21 [.l TI l, .l TI l] = some (0, [.b true]) := by
  have h1 : op_L21_4 [.k 0, .l TI l, .l TI l, .n (0 : Int)] = some (0, []) := by
    rw [op_L21_4_eq]
    refine iter_count (fun i => [.k 0, .l TI l, .l TI l, .n (i : Int)]) l.length (0, []) (fun i hi => ?_) ?_ FU (lt_FU hl)
    · refine fn_L21_4_t_im _ _ _ (by omega) rfl _ ?_
      unfold fn_L21_4_t
      refine sel_t (decide_eq_true (show (i : Int) < (l.length : Int) by omega)) (sel_f (by simp) ?_)
      rw [w64x (by omega) (by omega)]; rfl
    · refine fn_L21_4_t_im _ _ _ (by omega) rfl _ ?_
      unfold fn_L21_4_t
      exact sel_f (decide_eq_false (show ¬ ((l.length : Nat) : Int) < (l.length : Int) by omega)) rfl
  rw [op_21_eq]
  refine fn_21_t_im _ _ _ ?_
  unfold fn_21_t
  refine sel_f (by simp) ?_
  dsimp only
  rw [h1]
  exact sel_t rfl rfl
/-! ### Of -/
def ofL (l : List Int) : B64 := l.foldl withB 0#64
theorem e17 (l : List Int) (hl : l.length ≤ 9223372036854775807) : op_17 [.l TI l] = some (0, [.n (N (ofL l))]) := by
  have h1 : op_L17_3 [.k 0, .n (0 : Int), .l TI l, .n (l.length : Int), .n (0 : Int)] = some (0, [.n (N (ofL l))]) := by
    rw [op_L17_3_eq]
    refine iter_count (fun i => [.k 0, .n (N (ofL (l.take i))), .l TI l, .n (l.length : Int), .n (i : Int)]) l.length (0, [.n (N (ofL l))]) (fun i hi => ?_) ?_ FU (lt_FU hl)
    · refine fn_L17_3_t_im _ _ _ _ (by omega) rfl _ ?_
      unfold fn_L17_3_t
      refine sel_t (decide_eq_true (show (i : Int) < (l.length : Int) by omega)) ?_
      dsimp only
      rw [show (Int.toNat (i : Int)) = i from rfl, e12]
      refine sel_t rfl ?_
      have e : ofL (l.take (i + 1)) = withB (ofL (l.take i)) (l.getD i 0) := by
        unfold ofL
        rw [List.take_add_one, List.getElem?_eq_getElem hi, List.foldl_append]
        simp [List.getD_eq_getElem?_getD, List.getElem?_eq_getElem hi]
      rw [w64x (by omega) (by omega), e]; rfl
    · refine fn_L17_3_t_im _ _ _ _ (by omega) rfl _ ?_
      unfold fn_L17_3_t
      refine sel_f (decide_eq_false (show ¬ ((l.length : Nat) : Int) < (l.length : Int) by omega)) ?_
      rw [List.take_length]; rfl
  rw [op_17_eq]
  refine fn_17_t_im _ _ ?_
  unfold fn_17_t
  dsimp only
  erw [h1]
  exact sel_t rfl rfl
theorem e18 (l : List Int) (hl : l.length ≤ 9223372036854775807) : op_18 [.l TI l] = some (0, [.n (N (ofL l))]) := by
  have h1 : op_L18_3 [.k 0, .l TI l, .n (0 : Int), .n (0 : Int)] = some (0, [.n (N (ofL l))]) := by
    rw [op_L18_3_eq]
    refine iter_count (fun i => [.k 0, .l TI l, .n (N (ofL (l.take i))), .n (i : Int)]) l.length (0, [.n (N (ofL l))]) (fun i hi => ?_) ?_ FU (lt_FU hl)
    · refine fn_L18_3_t_im _ _ _ (by omega) _ ?_
      unfold fn_L18_3_t
      refine sel_t (decide_eq_true (show (i : Int) < (l.length : Int) by omega)) ?_
      dsimp only
      rw [show (Int.toNat (i : Int)) = i from rfl, e13]
      refine sel_t rfl ?_
      have e : ofL (l.take (i + 1)) = withB (ofL (l.take i)) (l.getD i 0) := by
        unfold ofL
        rw [List.take_add_one, List.getElem?_eq_getElem hi, List.foldl_append]
        simp [List.getD_eq_getElem?_getD, List.getElem?_eq_getElem hi]
      rw [w64x (by omega) (by omega), e]; rfl
    · refine fn_L18_3_t_im _ _ _ (by omega) _ ?_
      unfold fn_L18_3_t
      refine sel_f (decide_eq_false (show ¬ ((l.length : Nat) : Int) < (l.length : Int) by omega)) ?_
      rw [List.take_length]; rfl
  rw [op_18_eq]
  refine fn_18_t_im _ _ ?_
  unfold fn_18_t
  dsimp only
  erw [h1]
  exact sel_t rfl rfl
theorem t4 (l : List Int) : Good (· = true) (fn_W4_t [.l TI l]).sel := by
  unfold fn_W4_t
  by_cases h : (l.length : Int) > 500
  · exact good_t (decide_eq_true h) (good_leaf rfl)
  · refine good_f (decide_eq_false h) ?_
    have hl : l.length ≤ 9223372036854775807 := by omega
    dsimp only
    erw [e17 l hl]; refine good_t rfl ?_
    erw [e18 l hl]; refine good_t rfl (good_t (by simp [gn, dOf]) (good_leaf rfl))
end Go.Proofs.Ytbieijbppmohkaa.Vx
namespace Go.Proofs.Ytbieijbppmohkaa.Vx
open Go Go.RowKit
set_option linter.unusedVariables false
set_option linter.unusedSimpArgs false
set_option maxRecDepth 100000
set_option maxHeartbeats 2000000
attribute [local irreducible] op_19 op_24 op_28
/-! ### Count -/
def pm1 : B64 := 0x5555555555555555#64
def pm2 : B64 := 0x3333333333333333#64
def pm4 : B64 := 0x0f0f0f0f0f0f0f0f#64
def pcX (X : B64) : B64 :=
  let x1 := ((X >>> 1) &&& pm1) + (X &&& pm1)
  let x2 := ((x1 >>> 2) &&& pm2) + (x1 &&& pm2)
  let x3 := (x2 >>> 4 + x2) &&& pm4
  let x4 := x3 + x3 >>> 8
  let x5 := x4 + x4 >>> 16
  x5 + x5 >>> 32
theorem pcX_ok (X : B64) : (pcX X).toNat % 128 = cntB 64 X.toNat := by
  obtain ⟨h1, h2, h3, h4, h5, h6, h7⟩ := popcount_ok X.toNat X.isLt
  have add : ∀ {a b : B64} {x y : Nat}, a.toNat = x → b.toNat = y → x + y < 2 ^ 64 → (a + b).toNat = x + y := by
    intro a b x y ha hb hl
    rw [BitVec.toNat_add, ha, hb]; exact Nat.mod_eq_of_lt hl
  have and : ∀ {a m : B64} {x k : Nat}, a.toNat = x → m.toNat = k → (a &&& m).toNat = x &&& k := by
    intro a m x k ha hm
    rw [BitVec.toNat_and, ha, hm]
  have shr : ∀ {a : B64} {x k : Nat}, a.toNat = x → (a >>> k).toNat = x >>> k := by
    intro a x k ha
    rw [BitVec.toNat_ushiftRight, ha]
  have e1 := add (and (shr (k := 1) (rfl : X.toNat = X.toNat)) (rfl : pm1.toNat = 0x5555555555555555)) (and (rfl : X.toNat = X.toNat) (rfl : pm1.toNat = 0x5555555555555555)) h1
  have e2 := add (and (shr (k := 2) e1) (rfl : pm2.toNat = 0x3333333333333333)) (and e1 (rfl : pm2.toNat = 0x3333333333333333)) h2
  have e3 := and (add (shr (k := 4) e2) e2 h3) (rfl : pm4.toNat = 0x0f0f0f0f0f0f0f0f)
  have e4 := add e3 (shr (k := 8) e3) h4
  have e5 := add e4 (shr (k := 16) e4) h5
  have e6 := add e5 (shr (k := 32) e5) h6
  have : (pcX X).toNat = _ := e6
  rw [this]
  exact h7
theorem sh1 (X : B64) : ishr IntKind.u64 (N X) (1 : Int) = N (X >>> 1) := ishr_u64 X 1
theorem sh2 (X : B64) : ishr IntKind.u64 (N X) (2 : Int) = N (X >>> 2) := ishr_u64 X 2
theorem sh4 (X : B64) : ishr IntKind.u64 (N X) (4 : Int) = N (X >>> 4) := ishr_u64 X 4
theorem sh8 (X : B64) : ishr IntKind.u64 (N X) (8 : Int) = N (X >>> 8) := ishr_u64 X 8
theorem sh16 (X : B64) : ishr IntKind.u64 (N X) (16 : Int) = N (X >>> 16) := ishr_u64 X 16
theorem sh32 (X : B64) : ishr IntKind.u64 (N X) (32 : Int) = N (X >>> 32) := ishr_u64 X 32
theorem c1 : (6148914691236517205 : Int) = N pm1 := rfl
theorem c2 : (3689348814741910323 : Int) = N pm2 := rfl
theorem c4 : (1085102592571150095 : Int) = N pm4 := rfl
theorem iand127 (Z : B64) : iand IntKind.i64 (IntKind.wrap .i64 (N Z)) (127 : Int) = ((Z.toNat % 128 : Nat) : Int) := by
  have e1 : BitVec.ofInt 64 (IntKind.wrap .i64 (N Z)) = Z := by
    apply BitVec.eq_of_toNat_eq
    rw [BitVec.toNat_ofInt]
    have := Z.isLt
    have hw : IntKind.wrap .i64 (N Z) = if N Z % 18446744073709551616 ≥ 9223372036854775808 then N Z % 18446744073709551616 - 18446744073709551616 else N Z % 18446744073709551616 := by
      unfold IntKind.wrap; simp [IntKind.bits, IntKind.signed]
    rw [hw]
    unfold N
    split <;> omega
  show IntKind.wrap .i64 ((BitVec.ofInt 64 (IntKind.wrap .i64 (N Z)) &&& BitVec.ofInt 64 127).toNat : Int) = _
  rw [e1, BitVec.toNat_and, show (BitVec.ofInt 64 127).toNat = 2 ^ 7 - 1 from rfl, Nat.and_two_pow_sub_one_eq_mod]
  have : Z.toNat % 2 ^ 7 < 128 := Nat.mod_lt _ (by decide)
  rw [w64x (by omega) (by omega)]
theorem e22 (X : B64) : op_22 [.n (N X)] = some (0, [.n ((LB X 64).length : Int)]) := by
  rw [op_22_eq]
  refine fn_22_t_im _ _ ?_
  unfold fn_22_t
  dsimp only
  rw [c1, c2, c4]
  simp only [sh1, sh2, sh4, sh8, sh16, sh32, iand_u64, N_add]
  show some (0, [Dat.n (iand IntKind.i64 (IntKind.wrap .i64 (N (pcX X))) (127 : Int))]) = _
  rw [iand127, pcX_ok, LB_cnt]
/-! ### First -/
theorem e26 (n : Int) : op_26 [.n n] = some (0, [.n (if n ≤ 0 then 0 else if n ≥ 64 then 18446744073709551615 else 2 ^ n.toNat - 1)]) := by
  rw [op_26_eq]
  refine fn_26_t_im _ _ ?_
  unfold fn_26_t
  by_cases h0 : n ≤ 0
  · refine sel_t (decide_eq_true h0) ?_
    rw [if_pos h0]; rfl
  · rw [if_neg h0]
    refine sel_f (decide_eq_false h0) ?_
    by_cases h1 : n ≥ 64
    · refine sel_t (decide_eq_true h1) ?_
      rw [if_pos h1]; rfl
    · rw [if_neg h1]
      refine sel_f (decide_eq_false h1) ?_
      obtain ⟨k, rfl⟩ : ∃ k : Nat, n = k := ⟨n.toNat, by omega⟩
      rw [ishl1]
      have hp : N (p2 k) = ((2 ^ k : Nat) : Int) := by unfold N; rw [p2_nat (by omega)]
      have hlt : 2 ^ k < 2 ^ 64 := Nat.pow_lt_pow_right (by omega) (by omega)
      have hpos : 0 < 2 ^ k := Nat.pow_pos (by omega)
      rw [hp, wu64' (by omega) (by omega)]
      simp [Tree.sel]
/-- The k least ones. -/
def firB (k : Nat) : B64 := BitVec.ofNat 64 (2 ^ k - 1)
theorem firB_nat {k : Nat} (h : k ≤ 64) : (firB k).toNat = 2 ^ k - 1 := by
  unfold firB
  rw [BitVec.toNat_ofNat]
  have : 2 ^ k ≤ 2 ^ 64 := Nat.pow_le_pow_right (by omega) h
  exact Nat.mod_eq_of_lt (by omega)
theorem firB_bit {k : Nat} (h : k ≤ 64) (i : Nat) : (firB k).getLsbD i = decide (i < k) := by
  rw [← BitVec.testBit_toNat, firB_nat h, Nat.testBit_two_pow_sub_one]
theorem firB_step {k : Nat} (h : k < 64) : withB (firB k) (k : Int) = firB (k + 1) := by
  unfold withB
  have : inN (k : Int) = true := by simp [inN]; omega
  rw [this, cond_true, Int.toNat_natCast]
  apply BitVec.eq_of_getLsbD_eq
  intro i hi
  rw [BitVec.getLsbD_or, p2_bit, firB_bit (by omega), firB_bit (by omega)]
  by_cases e : i = k
  · subst e; simp [hi]
  · have : decide (i < k) = decide (i < k + 1) := by rw [Bool.eq_iff_iff]; simp; omega
    simp [e, this]
theorem e27 (n : Int) : op_27 [.n n] = some (0, [.n (N (firB (min n.toNat 64)))]) := by
  have h1 : op_L27_3 [.k 0, .n n, .n (0 : Int), .n (0 : Int)] = some (0, [.n (N (firB (min n.toNat 64)))]) := by
    rw [op_L27_3_eq]
    refine iter_count (fun i => [.k 0, .n n, .n (N (firB i)), .n (i : Int)]) (min n.toNat 64) (0, [.n (N (firB (min n.toNat 64)))]) (fun i hi => ?_) ?_ FU (lt_FU (by omega))
    · refine fn_L27_3_t_im _ _ _ _ ?_
      unfold fn_L27_3_t
      refine sel_t (decide_eq_true (show (i : Int) < n by omega)) (sel_t (decide_eq_true (show (i : Int) < 64 by omega)) ?_)
      dsimp only
      rw [e13]
      refine sel_t rfl ?_
      rw [w64x (by omega) (by omega), firB_step (by omega)]; rfl
    · refine fn_L27_3_t_im _ _ _ _ ?_
      unfold fn_L27_3_t
      by_cases h : ((min n.toNat 64 : Nat) : Int) < n
      · exact sel_t (decide_eq_true h) (sel_f (decide_eq_false (by omega)) rfl)
      · exact sel_f (decide_eq_false h) rfl
  rw [op_27_eq]
  refine fn_27_t_im _ _ ?_
  unfold fn_27_t
  dsimp only
  rw [h1]
  exact sel_t rfl rfl
theorem t6 (n : Int) : Good (· = true) (fn_W6_t [.n n]).sel := by
  unfold fn_W6_t
  dsimp only
  rw [e26]; refine good_t rfl ?_
  rw [e27]; refine good_t rfl (good_t ?_ (good_leaf rfl))
  simp only [gn, dOf, List.getElem?_cons_zero, beq_iff_eq]
  have : N (firB (min n.toNat 64)) = ((2 ^ (min n.toNat 64) - 1 : Nat) : Int) := by unfold N; rw [firB_nat (by omega)]
  rw [this]
  split
  · rw [show min n.toNat 64 = 0 by omega]; rfl
  · split
    · rw [show min n.toNat 64 = 64 by omega]; rfl
    · rw [show min n.toNat 64 = n.toNat by omega]
      have hpos : 0 < 2 ^ n.toNat := Nat.pow_pos (by omega)
      rw [Int.ofNat_sub (by omega)]; simp
/-! ### BitsList -/
theorem l5 (x : Int) (l3 : List Int) : ∀ (d i : Nat) (l2 : List Int) (f : Nat), i + d = l2.length → d < f → l2.length ≤ 9223372036854775807 → iterS st_L5_5 f [.k 0, .n x, .n (i : Int), .l TI l2, .l TI l3] = some (0, [.n x, .l TI l3])
  | d, i, l2, 0, _, h, _ => by omega
  | 0, i, l2, f + 1, h, _, _ => by
    refine iter_stop (fn_L5_5_t_im _ _ _ _ (by omega) _ ?_)
    unfold fn_L5_5_t
    exact sel_f (decide_eq_false (show ¬ (i : Int) < (l2.length : Int) by omega)) rfl
  | d + 1, i, l2, f + 1, h, hf, hm => by
    have : (st_L5_5 [.k 0, .n x, .n (i : Int), .l TI l2, .l TI l3]).sel = some (.go [.k 0, .n x, .n ((i + 1 : Nat) : Int), .l TI (l2.set i (-1)), .l TI l3]) := by
      refine fn_L5_5_t_im _ _ _ _ (by omega) _ ?_
      unfold fn_L5_5_t
      refine sel_t (decide_eq_true (show (i : Int) < (l2.length : Int) by omega)) ?_
      rw [w64x (by omega) (by omega)]; rfl
    rw [iter_go this]
    exact l5 x l3 d (i + 1) (l2.set i (-1)) f (by rw [List.length_set]; omega) (by omega) (by rw [List.length_set]; omega)
theorem t5 (X : B64) : Good (· = true) (fn_W5_t [.n (N X)]).sel := by
  have hL := LB_len X 64
  have hlp : op_L5_5 [.k 0, .n (N X), .n (0 : Int), .l TI (LB X 64), .l TI (LB X 64)] = some (0, [.n (N X), .l TI (LB X 64)]) := by
    rw [op_L5_5_eq]
    exact l5 (N X) (LB X 64) (LB X 64).length 0 (LB X 64) FU (by omega) (by unfold FU; omega) (by omega)
  have hg : ∀ (a : List Dat), gl (Ty.int IntKind.i64) (Dat.l TI (LB X 64) :: a) 0 = LB X 64 := fun a => gl0 TI (LB X 64) a
  have hg1 : ∀ (a : Dat) (b : List Dat), gl (Ty.int IntKind.i64) (a :: Dat.l TI (LB X 64) :: b) 1 = LB X 64 := fun a b => gl1 a TI (LB X 64) b
  unfold fn_W5_t
  dsimp only
  rw [e19]; refine good_t rfl ?_
  rw [e20]; refine good_t rfl ?_
  simp only [dOf, hg]
  erw [e21 (LB X 64) (by omega)]; refine good_t rfl (good_f rfl ?_)
  erw [hlp]; refine good_t rfl ?_
  simp only [dOf, hg, hg1, gn0]
  rw [e19]; refine good_t rfl ?_
  simp only [dOf, hg]
  erw [e21 (LB X 64) (by omega)]; refine good_t rfl (good_t rfl ?_)
  rw [e22]; refine good_t rfl ?_
  rw [e23]; refine good_t rfl (good_t (by simp [gn, dOf]) ?_)
  rw [e24]; refine good_t rfl ?_
  rw [e25]; refine good_t rfl (good_t (by simp [gn, dOf]) (good_leaf rfl))
end Go.Proofs.Ytbieijbppmohkaa.Vx
namespace Go.Proofs.Ytbieijbppmohkaa.Vx
open Go Go.RowKit
set_option linter.unusedVariables false
set_option linter.unusedSimpArgs false
set_option maxRecDepth 100000
set_option maxHeartbeats 2000000
attribute [local irreducible] op_19 op_24 op_28
/-! ### Any -/
def gB (l : List Int) (n : Nat) : B64 := BitVec.ofInt 64 (l.getD n 0)
def WfU (l : List Int) : Prop := ∀ v ∈ l, 0 ≤ v ∧ v < 18446744073709551616
theorem gB_N {l : List Int} (h : WfU l) (n : Nat) : N (gB l n) = l.getD n 0 := by
  have : 0 ≤ l.getD n 0 ∧ l.getD n 0 < 18446744073709551616 := by
    rw [List.getD_eq_getElem?_getD]
    cases hn : l[n]? with
    | none => simp
    | some v => exact h v (List.mem_of_getElem? hn)
  exact N_of this.1 (by have := this.2; simpa using this)
theorem take_filter : ∀ {l : List Nat} (m : Nat), l.Pairwise (· < ·) → l.takeWhile (fun n => decide (n < m)) = l.filter (fun n => decide (n < m))
  | [], m, _ => rfl
  | a :: l, m, h => by
    rw [List.pairwise_cons] at h
    by_cases ha : a < m
    · simp [ha, take_filter m h.2]
    · simp only [List.takeWhile_cons, ha, decide_false, List.filter_cons, Bool.false_eq_true, if_false]
      symm
      rw [List.filter_eq_nil_iff]
      intro b hb
      have := h.1 b hb
      simp; omega
def anyB (l : List Int) (X : B64) : B64 := (((List.range 64).filter fun i => X.getLsbD i).filter fun n => decide (n < l.length)).foldl (fun a n => a ||| gB l n) 0#64
theorem orAll_eq {l : List Int} (h : WfU l) : ∀ (ns : List Nat) (A : B64), ns.foldl (fun a n => bits BinOp.or IntKind.u64 a (l.getD n 0)) (N A) = N (ns.foldl (fun a n => a ||| gB l n) A)
  | [], A => rfl
  | n :: ns, A => by
    simp only [List.foldl_cons]
    rw [← orAll_eq h ns, ← gB_N h n, ← ior_u64]; rfl
theorem e28 {l : List Int} (h : WfU l) (X : B64) : op_28 [.l TU l, .n (N X)] = some (0, [.n (N (anyB l X))]) := by
  rw [op_28_eq]
  have e1 : opp_28 [.l TU l, .n (N X)] = some (0, [.n (Bt.anyI l (N X))]) := by
    show (match castL TU TU l with | some l => some (0, [Dat.n (Bt.anyI l (N X))]) | none => none) = _
    have : castL TU TU (l : List (Ty.den TU)) = some l := castL_self _
    rw [this]
  rw [e1]
  have : Bt.anyI l (N X) = N (anyB l X) := by
    unfold Bt.anyI Bt.orAll anyB
    rw [bitsTo_eq X 64 (by omega), take_filter l.length ((List.pairwise_lt_range (n := 64)).filter _)]
    exact orAll_eq h _ 0#64
  rw [this]
theorem fold_bit (g : Nat → B64) (j : Nat) : ∀ (ns : List Nat) (A : B64), (ns.foldl (fun a n => a ||| g n) A).getLsbD j = (A.getLsbD j || ns.any fun n => (g n).getLsbD j)
  | [], A => by simp
  | n :: ns, A => by
    rw [List.foldl_cons, fold_bit g j ns, BitVec.getLsbD_or, List.any_cons, Bool.or_assoc]
def hitB (l : List Int) (X : B64) (j i : Nat) : Bool := X.getLsbD i && (gB l i).getLsbD j
theorem any_bit (l : List Int) (X : B64) (j : Nat) : (anyB l X).getLsbD j = (List.range (min l.length 64)).any (hitB l X j) := by
  unfold anyB
  rw [fold_bit, Bool.eq_iff_iff]
  simp only [BitVec.getLsbD_zero, Bool.false_or, List.any_eq_true, List.mem_filter, List.mem_range, decide_eq_true_eq, hitB, Bool.and_eq_true]
  constructor
  · rintro ⟨n, ⟨⟨h1, h2⟩, h3⟩, h4⟩; exact ⟨n, by omega, h2, h4⟩
  · rintro ⟨n, h1, h2, h3⟩; exact ⟨n, ⟨⟨by omega, h2⟩, by omega⟩, h3⟩
theorem with_twice (X : B64) (k : Nat) : withB (withB X k) k = withB X k := by
  unfold withB
  cases inN (k : Int) with
  | false => rfl
  | true => simp only [cond_true, BitVec.or_assoc, BitVec.or_self]
theorem any_succ (f : Nat → Bool) (i : Nat) : (List.range (i + 1)).any f = ((List.range i).any f || f i) := by rw [List.range_succ, List.any_append]; simp
theorem hasB_nat (X : B64) {i : Nat} (hi : i < 64) : hasB X (i : Int) = X.getLsbD i := by
  unfold hasB inN; simp [show (i : Int) < 64 by omega]
theorem in29 {l : List Int} (hw : WfU l) (hl : l.length ≤ 9223372036854775807) (X A : B64) (j : Nat) (hj : j < 64) :
    op_L29_6 [.k 0, .l TU l, .n (N X), .n (N A), .n (j : Int), .n (0 : Int)] = some (0, [.l TU l, .n (N X), .n (N (bif (List.range (min l.length 64)).any (hitB l X j) then withB A j else A)), .n (j : Int)]) := by
  rw [op_L29_6_eq]
  refine iter_count (fun i => [.k 0, .l TU l, .n (N X), .n (N (bif (List.range i).any (hitB l X j) then withB A j else A)), .n (j : Int), .n (i : Int)]) (min l.length 64) (0, _) (fun i hi => ?_) ?_ FU (lt_FU (by omega))
  · refine fn_L29_6_t_im _ _ _ _ _ (by omega) _ ?_
    unfold fn_L29_6_t
    refine sel_t (decide_eq_true (show (i : Int) < (l.length : Int) by omega)) (sel_t (decide_eq_true (show (i : Int) < 64 by omega)) ?_)
    dsimp only
    rw [e11, hasB_nat X (by omega)]
    refine sel_t rfl ?_
    rw [w64x (by omega) (by omega), any_succ]
    cases hb : X.getLsbD i with
    | false =>
      refine sel_f rfl ?_
      have : hitB l X j i = false := by unfold hitB; rw [hb]; rfl
      rw [this, Bool.or_false]; rfl
    | true =>
      refine sel_t rfl ?_
      have eg : List.getD l (Int.toNat (i : Int)) (0 : Int) = N (gB l i) := by rw [gB_N hw]; rfl
      erw [eg]
      rw [e11, hasB_nat _ hj]
      refine sel_t rfl ?_
      cases hc : (gB l i).getLsbD j with
      | false =>
        refine sel_f rfl ?_
        have : hitB l X j i = false := by unfold hitB; rw [hb, hc]; rfl
        rw [this, Bool.or_false]; rfl
      | true =>
        refine sel_t rfl ?_
        rw [e13]
        refine sel_t rfl ?_
        have : hitB l X j i = true := by unfold hitB; rw [hb, hc]; rfl
        rw [this, Bool.or_true, cond_true]
        have e2 : withB (bif (List.range i).any (hitB l X j) then withB A j else A) (j : Int) = withB A j := by
          cases (List.range i).any (hitB l X j) with
          | true => exact with_twice A j
          | false => rfl
        rw [e2]; rfl
  · refine fn_L29_6_t_im _ _ _ _ _ (by omega) _ ?_
    unfold fn_L29_6_t
    by_cases h : ((min l.length 64 : Nat) : Int) < (l.length : Int)
    · exact sel_t (decide_eq_true h) (sel_f (decide_eq_false (by omega)) rfl)
    · exact sel_f (decide_eq_false h) rfl
theorem mask_step (T : B64) {k : Nat} (h : k < 64) : (bif T.getLsbD k then withB (T &&& firB k) (k : Int) else T &&& firB k) = T &&& firB (k + 1) := by
  have hin : inN (k : Int) = true := by simp [inN]; omega
  apply BitVec.eq_of_getLsbD_eq
  intro i hi
  rw [BitVec.getLsbD_and, firB_bit (by omega)]
  cases hb : T.getLsbD k with
  | true =>
    rw [cond_true]
    unfold withB
    rw [hin, cond_true, Int.toNat_natCast, BitVec.getLsbD_or, BitVec.getLsbD_and, p2_bit, firB_bit (by omega)]
    by_cases e : i = k
    · subst e; simp [hb, hi]
    · have : decide (i < k) = decide (i < k + 1) := by rw [Bool.eq_iff_iff]; simp; omega
      simp [e, this]
  | false =>
    rw [cond_false, BitVec.getLsbD_and, firB_bit (by omega)]
    by_cases e : i = k
    · subst e; simp [hb]
    · have : decide (i < k) = decide (i < k + 1) := by rw [Bool.eq_iff_iff]; simp; omega
      rw [this]
theorem e29 {l : List Int} (hw : WfU l) (hl : l.length ≤ 9223372036854775807) (X : B64) : op_29 [.l TU l, .n (N X)] = some (0, [.n (N (anyB l X))]) := by
  have e0 : anyB l X &&& firB 0 = 0#64 := by
    apply BitVec.eq_of_getLsbD_eq; intro i hi; rw [BitVec.getLsbD_and, firB_bit (by omega)]; simp
  have e64 : anyB l X &&& firB 64 = anyB l X := by
    apply BitVec.eq_of_getLsbD_eq; intro i hi; rw [BitVec.getLsbD_and, firB_bit (by omega)]; simp [hi]
  have h1 : op_L29_3 [.k 0, .l TU l, .n (N X), .n (0 : Int), .n (0 : Int)] = some (0, [.n (N (anyB l X))]) := by
    rw [op_L29_3_eq]
    have := iter_count (st := st_L29_3) (fun i => [.k 0, .l TU l, .n (N X), .n (N (anyB l X &&& firB i)), .n (i : Int)]) 64 (0, [.n (N (anyB l X &&& firB 64))]) (fun i hi => ?_) ?_ FU (lt_FU (by omega))
    · rw [e64] at this
      simp only [e0] at this
      exact this
    · refine fn_L29_3_t_im _ _ _ _ _ ?_
      unfold fn_L29_3_t
      refine sel_t (decide_eq_true (show (i : Int) < 64 by omega)) ?_
      dsimp only
      erw [in29 hw hl X (anyB l X &&& firB i) i hi]
      refine sel_t rfl ?_
      rw [← any_bit, mask_step _ hi]
      have hg : ∀ (a : List Dat), gl (Ty.int IntKind.u64) (Dat.l TU l :: a) 0 = l := fun a => gl0 TU l a
      simp only [dOf, hg, gn1, gn2, gn3]
      rw [w64x (by omega) (by omega)]; rfl
    · refine fn_L29_3_t_im _ _ _ _ _ ?_
      unfold fn_L29_3_t
      exact sel_f (by simp) rfl
  rw [op_29_eq]
  refine fn_29_t_im _ _ _ ?_
  unfold fn_29_t
  dsimp only
  erw [h1]
  exact sel_t rfl rfl
theorem t7 {l : List Int} (hw : WfU l) (X : B64) : Good (· = true) (fn_W7_t [.l TU l, .n (N X)]).sel := by
  unfold fn_W7_t
  by_cases h : (l.length : Int) > 100
  · exact good_t (decide_eq_true h) (good_leaf rfl)
  · refine good_f (decide_eq_false h) ?_
    dsimp only
    erw [e28 hw X]; refine good_t rfl ?_
    erw [e29 hw (by omega) X]; refine good_t rfl (good_t (by simp [gn, dOf]) (good_leaf rfl))
/-! ### BitsBack -/
theorem of_bit (j : Nat) (hj : j < 64) : ∀ (l : List Int) (A : B64), (l.foldl withB A).getLsbD j = (A.getLsbD j || l.any fun n => inN n && decide (n = (j : Int)))
  | [], A => by simp
  | n :: l, A => by
    rw [List.foldl_cons, of_bit j hj l, List.any_cons, ← Bool.or_assoc]
    congr 1
    unfold withB
    cases h : inN n with
    | false => simp
    | true =>
      have h2 : 0 ≤ n ∧ n < 64 := by simpa [inN] using h
      rw [cond_true, BitVec.getLsbD_or, p2_bit]
      have : decide (j = n.toNat) = decide (n = (j : Int)) := by rw [Bool.eq_iff_iff]; simp; omega
      simp [hj, this]
theorem of_list (X : B64) : ofL (LB X 64) = X := by
  apply BitVec.eq_of_getLsbD_eq
  intro j hj
  unfold ofL
  rw [of_bit j hj, Bool.eq_iff_iff]
  simp only [BitVec.getLsbD_zero, Bool.false_or, List.any_eq_true, Bool.and_eq_true, decide_eq_true_eq]
  constructor
  · rintro ⟨n, h1, h2, rfl⟩
    rw [LB_mem, hasB_nat X hj] at h1; exact h1
  · intro h
    exact ⟨(j : Int), by rw [LB_mem, hasB_nat X hj]; exact h, by simp [inN]; omega, rfl⟩
theorem has_with (X : B64) (n : Int) : hasB (withB X n) n = inN n := by
  unfold hasB withB
  cases h : inN n with
  | false => rfl
  | true =>
    have h2 : 0 ≤ n ∧ n < 64 := by simpa [inN] using h
    rw [cond_true, BitVec.getLsbD_or, p2_bit]; simp; omega
theorem has_wio (X : B64) (n : Int) : hasB (wioB X n) n = false := by
  unfold hasB wioB
  cases h : inN n with
  | false => rfl
  | true => rw [cond_true, BitVec.getLsbD_and, BitVec.getLsbD_not, p2_bit]; simp
theorem wio_with (X : B64) (n : Int) : wioB (withB X n) n = wioB X n := by
  unfold withB wioB
  cases h : inN n with
  | false => rfl
  | true =>
    simp only [cond_true]
    apply BitVec.eq_of_getLsbD_eq
    intro i hi
    simp only [BitVec.getLsbD_and, BitVec.getLsbD_or, BitVec.getLsbD_not]
    cases X.getLsbD i <;> cases (p2 n.toNat).getLsbD i <;> simp
theorem with_wio (X : B64) (n : Int) : withB (wioB X n) n = withB X n := by
  unfold withB wioB
  cases h : inN n with
  | false => rfl
  | true =>
    simp only [cond_true]
    apply BitVec.eq_of_getLsbD_eq
    intro i hi
    simp only [BitVec.getLsbD_and, BitVec.getLsbD_or, BitVec.getLsbD_not]
    cases X.getLsbD i <;> cases (p2 n.toNat).getLsbD i <;> simp [hi]
theorem or_with (X : B64) (n : Int) : withB X n ||| wioB X n = withB X n := by
  unfold withB wioB
  cases h : inN n with
  | false => simp
  | true =>
    simp only [cond_true]
    apply BitVec.eq_of_getLsbD_eq
    intro i hi
    simp only [BitVec.getLsbD_and, BitVec.getLsbD_or, BitVec.getLsbD_not]
    cases X.getLsbD i <;> cases (p2 n.toNat).getLsbD i <;> simp [hi]
theorem l8 (x n : Int) {L : List Int} (hs : L.Pairwise (· < ·)) (hl : L.length ≤ 64) : op_L8_4 [.k 0, .n x, .n n, .b false, .n (0 : Int), .l TI L] = some (0, [.n x, .n n, .b (decide (n ∈ L)), .l TI L]) := by
  rw [op_L8_4_eq]
  have := iter_count (st := st_L8_4) (fun i => [.k 0, .n x, .n n, .b (decide (n ∈ L.take i)), .n (i : Int), .l TI L]) L.length (0, [.n x, .n n, .b (decide (n ∈ L)), .l TI L]) (fun i hi => ?_) ?_ FU (lt_FU (by omega))
  · simpa using this
  · refine fn_L8_4_t_im _ _ _ _ _ (by omega) _ ?_
    unfold fn_L8_4_t
    refine sel_t (decide_eq_true (show (i : Int) < (L.length : Int) by omega)) ?_
    have hnew : decide (n ∈ L.take (i + 1)) = (decide (n ∈ L.take i) || (L.getD i 0 == n)) := by
      rw [List.take_add_one, List.getElem?_eq_getElem hi, Bool.eq_iff_iff]
      simp only [List.getD_eq_getElem?_getD, List.getElem?_eq_getElem hi, Option.getD_some, Option.toList_some, decide_eq_true_eq, List.mem_append, List.mem_singleton, Bool.or_eq_true, beq_iff_eq]
      exact ⟨fun h => h.imp id Eq.symm, fun h => h.imp id Eq.symm⟩
    have hlt : 0 < i → ¬ L.getD i 0 ≤ L.getD (i - 1) 0 := fun h0 => by
      have := List.pairwise_iff_getElem.1 hs (i - 1) i (by omega) hi (by omega)
      simp only [List.getD_eq_getElem?_getD, List.getElem?_eq_getElem hi, List.getElem?_eq_getElem (show i - 1 < L.length by omega), Option.getD_some]
      omega
    have hw : IntKind.wrap .i64 ((i : Int) + 1) = ((i + 1 : Nat) : Int) := by rw [w64x (by omega) (by omega)]; rfl
    have hin : 0 < i → inR (IntKind.wrap .i64 ((i : Int) - 1)) L.length = true := fun h0 => by rw [w64x (by omega) (by omega)]; simp [inR]; omega
    have hle : 0 < i → decide (List.getD L (Int.toNat (i : Int)) (0 : Int) ≤ List.getD L (Int.toNat (IntKind.wrap .i64 ((i : Int) - 1))) (0 : Int)) = false := fun h0 => by
      rw [w64x (by omega) (by omega), show ((i : Int) - 1).toNat = i - 1 by omega, Int.toNat_natCast]
      exact decide_eq_false (hlt h0)
    rw [hnew, hw]
    cases hb : decide (n ∈ L.take i) with
    | true =>
      refine sel_t rfl ?_
      by_cases h0 : 0 < i
      · exact sel_t (decide_eq_true (by omega)) (sel_t (hin h0) (sel_f (hle h0) rfl))
      · exact sel_f (decide_eq_false (by omega)) rfl
    | false =>
      refine sel_f rfl ?_
      by_cases h0 : 0 < i
      · exact sel_t (decide_eq_true (by omega)) (sel_t (hin h0) (sel_f (hle h0) rfl))
      · exact sel_f (decide_eq_false (by omega)) rfl
  · refine fn_L8_4_t_im _ _ _ _ _ (by omega) _ ?_
    unfold fn_L8_4_t
    refine sel_f (decide_eq_false (show ¬ ((L.length : Nat) : Int) < (L.length : Int) by omega)) ?_
    rw [List.take_length]; rfl
end Go.Proofs.Ytbieijbppmohkaa.Vx
namespace Go.Proofs.Ytbieijbppmohkaa.Vx
open Go Go.RowKit
set_option linter.unusedVariables false
set_option linter.unusedSimpArgs false
set_option maxRecDepth 100000
set_option maxHeartbeats 4000000
attribute [local irreducible] op_19 op_24 op_28
theorem t8 (X : B64) (n : Int) : Good (· = true) (fn_W8_t [.n (N X), .n n]).sel := by
  have hL := LB_len X 64
  have hg : ∀ (a : List Dat), gl (Ty.int IntKind.i64) (Dat.l TI (LB X 64) :: a) 0 = LB X 64 := fun a => gl0 TI (LB X 64) a
  have hg3 : ∀ (a b c : Dat) (d : List Dat), gl (Ty.int IntKind.i64) (a :: b :: c :: Dat.l TI (LB X 64) :: d) 3 = LB X 64 := fun a b c d => gl3 a b c TI (LB X 64) d
  have hmem : decide (n ∈ LB X 64) = hasB X n := by rw [Bool.eq_iff_iff, decide_eq_true_eq]; exact LB_mem X n
  have h8 := l8 (N X) n (LB_sorted X 64) (by omega)
  rw [hmem] at h8
  unfold fn_W8_t
  dsimp only
  rw [e19]; refine good_t rfl ?_
  simp only [dOf, hg]
  erw [h8]; refine good_t rfl ?_
  simp only [dOf, gn0, gn1, gb2, hg3]
  erw [e17 (LB X 64) (by omega)]; refine good_t rfl ?_
  rw [of_list]
  refine good_f (by simp [gn, dOf]) ?_
  rw [e22]; refine good_t rfl ?_
  simp only [dOf, gn0]
  refine good_f (bne_self_eq_false _) ?_
  have tail : ∀ (c : Bool), Good (· = true) (Tree.node (!hasB X n == gb [Dat.b (hasB X n)] 0) (Tree.leaf false) (Tree.leaf true)).sel → True := fun _ _ => trivial
  have hn : decide (n ≥ 0) = true ∨ decide (n ≥ 0) = false := by cases decide (n ≥ 0) <;> simp
  by_cases hpos : ((LB X 64).length : Int) > 0
  · refine good_t (decide_eq_true hpos) ?_
    rw [e24]; refine good_t rfl ?_
    simp only [dOf, gn0]
    refine good_f ?_ ?_
    · cases hc : LB X 64 with
      | nil => rw [hc] at hpos; simp at hpos
      | cons a l => simp
    rw [e10]; refine good_t rfl ?_
    simp only [dOf, gb0]
    refine good_f (by simp) ?_
    rw [e12]; refine good_t rfl ?_
    rw [e14]; refine good_t rfl ?_
    simp only [dOf, gn0]
    by_cases h0 : n ≥ 0
    · refine good_t (decide_eq_true h0) ?_
      rw [e10, has_with]; refine good_t rfl (good_t (by simp [gb, inN, h0]; congr) ?_)
      rw [e10, has_wio]; refine good_t rfl (good_t rfl ?_)
      rw [e14, wio_with]; refine good_t rfl (good_t (by simp [gn]) ?_)
      rw [e12, with_wio]; refine good_t rfl (good_t (by simp [gn]) ?_)
      rw [ior_u64, or_with]
      exact good_t (by simp) (good_leaf rfl)
    · refine good_f (decide_eq_false h0) ?_
      rw [e10, has_with]; refine good_t rfl (good_t (by simp [gb, inN]; omega) ?_)
      rw [e10, has_wio]; refine good_t rfl (good_t rfl ?_)
      rw [e14, wio_with]; refine good_t rfl (good_t (by simp [gn]) ?_)
      rw [e12, with_wio]; refine good_t rfl (good_t (by simp [gn]) ?_)
      rw [ior_u64, or_with]
      exact good_t (by simp) (good_leaf rfl)
  · refine good_f (decide_eq_false hpos) ?_
    have hnil : LB X 64 = [] := List.length_eq_zero_iff.1 (by omega)
    rw [e24]; refine good_t rfl ?_
    simp only [dOf, gn0]
    refine good_f (by rw [hnil]; rfl) ?_
    rw [e10]; refine good_t rfl ?_
    simp only [dOf, gb0]
    refine good_f (by simp) ?_
    rw [e12]; refine good_t rfl ?_
    rw [e14]; refine good_t rfl ?_
    simp only [dOf, gn0]
    by_cases h0 : n ≥ 0
    · refine good_t (decide_eq_true h0) ?_
      rw [e10, has_with]; refine good_t rfl (good_t (by simp [gb, inN, h0]; congr) ?_)
      rw [e10, has_wio]; refine good_t rfl (good_t rfl ?_)
      rw [e14, wio_with]; refine good_t rfl (good_t (by simp [gn]) ?_)
      rw [e12, with_wio]; refine good_t rfl (good_t (by simp [gn]) ?_)
      rw [ior_u64, or_with]
      exact good_t (by simp) (good_leaf rfl)
    · refine good_f (decide_eq_false h0) ?_
      rw [e10, has_with]; refine good_t rfl (good_t (by simp [gb, inN]; omega) ?_)
      rw [e10, has_wio]; refine good_t rfl (good_t rfl ?_)
      rw [e14, wio_with]; refine good_t rfl (good_t (by simp [gn]) ?_)
      rw [e12, with_wio]; refine good_t rfl (good_t (by simp [gn]) ?_)
      rw [ior_u64, or_with]
      exact good_t (by simp) (good_leaf rfl)
/-! ### The laws, of data that are well-formed -/
theorem good_true {x : Option Bool} (h : Good (· = true) x) : x = some true := by obtain ⟨y, h1, h2⟩ := h; rw [h1, h2]
theorem u_of {n : Int} (h : wfD (.int .u64) n = true) : ∃ X : B64, n = N X := by
  have a' : (decide (IntKind.min .u64 ≤ n) && decide (n ≤ IntKind.max .u64)) = true := h
  rw [Bool.and_eq_true, decide_eq_true_eq, decide_eq_true_eq] at a'
  have m1 : IntKind.min .u64 = 0 := rfl
  have m2 : IntKind.max .u64 = 18446744073709551615 := rfl
  exact ⟨BitVec.ofInt 64 n, (N_of (by omega) (by have := a'.2; rw [m2] at this; exact Int.lt_of_le_of_lt this (by decide))).symm⟩
theorem us_of {l : List (Ty.den TU)} (h : wfD (.sl TU) l = true) : WfU l := by
  intro v hv
  have h' : (decide (l.length ≤ maxLen) && wfL (wfD TU) l) = true := h
  rw [Bool.and_eq_true, wfL_iff] at h'
  obtain ⟨X, rfl⟩ := u_of (h'.2 v hv)
  have := X.isLt
  unfold N; omega
theorem t3' {n0 n1 : Int} (h : wfD (.int .u64) n0 = true) : (ev_W3 [.n n0, .n n1]).sel = some true := by
  obtain ⟨X, rfl⟩ := u_of h
  exact good_true ((fn_W3_t_im _ _).good (t3 X n1))
theorem t4' (l : List Int) : (ev_W4 [.l TI l]).sel = some true := good_true ((fn_W4_t_im _).good (t4 l))
theorem t5' {n0 : Int} (h : wfD (.int .u64) n0 = true) : (ev_W5 [.n n0]).sel = some true := by
  obtain ⟨X, rfl⟩ := u_of h
  exact good_true ((fn_W5_t_im _).good (t5 X))
theorem t6' (n : Int) : (ev_W6 [.n n]).sel = some true := good_true ((fn_W6_t_im _).good (t6 n))
theorem t7' {l : List (Ty.den TU)} {n0 : Int} (hl : wfD (.sl TU) l = true) (h : wfD (.int .u64) n0 = true) : (ev_W7 [.l TU l, .n n0]).sel = some true := by
  obtain ⟨X, rfl⟩ := u_of h
  exact good_true ((fn_W7_t_im _ _).good (t7 (us_of hl) X))
theorem t8' {n0 n1 : Int} (h : wfD (.int .u64) n0 = true) : (ev_W8 [.n n0, .n n1]).sel = some true := by
  obtain ⟨X, rfl⟩ := u_of h
  exact good_true ((fn_W8_t_im _ _).good (t8 X n1))
end Go.Proofs.Ytbieijbppmohkaa.Vx
