import Derived.Test.YtjngnkedennjdaaX08
import Derived.Test.YtjngnkedennjdaaVxBits
import Derived.Test.YtjngnkedennjdaaVxLoop
namespace Go.Proofs.Ytjngnkedennjdaa.Vx
open Go Go.RowKit
set_option linter.unusedVariables false
set_option linter.unusedSimpArgs false
set_option maxRecDepth 100000
set_option maxHeartbeats 1000000
abbrev B64 := BitVec 64
def p2 (k : Nat) : B64 := 1#64 <<< k
def inN (n : Int) : Bool := decide (0 ≤ n) && decide (n < 64)
def hasB (X : B64) (n : Int) : Bool := inN n && X.getLsbD n.toNat
def withB (X : B64) (n : Int) : B64 := bif inN n then X ||| p2 n.toNat else X
def wioB (X : B64) (n : Int) : B64 := bif inN n then X &&& ~~~(p2 n.toNat) else X
theorem p2_bit (k i : Nat) : (p2 k).getLsbD i = (decide (i < 64) && decide (i = k)) := by
  unfold p2
  rw [BitVec.getLsbD_shiftLeft]
  by_cases h : i = k
  · subst h; simp
  · by_cases h2 : i < k
    · simp [h, h2]
    · have : i - k ≠ 0 := by omega
      simp [h, h2, this]
theorem p2_nat {k : Nat} (h : k < 64) : (p2 k).toNat = 2 ^ k := by
  unfold p2
  rw [BitVec.toNat_shiftLeft, Nat.shiftLeft_eq]
  have : 2 ^ k < 2 ^ 64 := Nat.pow_lt_pow_right (by omega) h
  rw [show (1#64).toNat = 1 from rfl, Nat.one_mul, Nat.mod_eq_of_lt this]
theorem getN (X : B64) (k : Nat) : X.getLsbD k = decide (X.toNat / 2 ^ k % 2 = 1) := by
  rw [← BitVec.testBit_toNat, Nat.testBit_eq_decide_div_mod_eq]
theorem iand1 (X : B64) (k : Nat) (hk : k < 64) : (iand IntKind.u64 (ishr IntKind.u64 (N X) (k : Int)) (1 : Int) == (1 : Int)) = X.getLsbD k := by
  rw [ishr_u64, show (1 : Int) = N (1#64) from rfl, iand_u64, N_beq, Bool.eq_iff_iff, beq_iff_eq]
  constructor
  · intro h
    have := congrArg (fun y => y.getLsbD 0) h
    simp at this
    simpa [BitVec.getLsbD_eq_getElem] using this
  · intro h
    apply BitVec.eq_of_getLsbD_eq
    intro i hi
    rw [BitVec.getLsbD_and, BitVec.getLsbD_ushiftRight]
    by_cases h0 : i = 0
    · subst h0; simp [h]
    · simp [h0]
theorem with_add {X : B64} {k : Nat} (hk : k < 64) (h : X.getLsbD k = false) : X + p2 k = X ||| p2 k := by
  apply BitVec.add_eq_or_of_and_eq_zero
  apply BitVec.eq_of_getLsbD_eq
  intro i hi
  rw [BitVec.getLsbD_and, p2_bit]
  by_cases e : i = k
  · subst e; simp [h]
  · simp [e]
theorem wio_sub {X : B64} {k : Nat} (hk : k < 64) (h : X.getLsbD k = true) : X - p2 k = X &&& ~~~(p2 k) := by
  have e1 : (X &&& ~~~(p2 k)) + p2 k = (X &&& ~~~(p2 k)) ||| p2 k := with_add hk (by rw [BitVec.getLsbD_and, BitVec.getLsbD_not, p2_bit]; simp [hk])
  have e2 : (X &&& ~~~(p2 k)) ||| p2 k = X := by
    apply BitVec.eq_of_getLsbD_eq
    intro i hi
    rw [BitVec.getLsbD_or, BitVec.getLsbD_and, BitVec.getLsbD_not, p2_bit]
    by_cases e : i = k
    · subst e; simp [h, hi]
    · simp [e, hi]
  have e3 : X = (X &&& ~~~(p2 k)) + p2 k := by rw [e1, e2]
  rw [BitVec.sub_eq_iff_eq_add]; exact e3
theorem N_add (X Y : B64) : IntKind.wrap .u64 (N X + N Y) = N (X + Y) := by
  rw [wrapN_u64]
  refine congrArg N ?_
  apply BitVec.eq_of_toNat_eq
  rw [BitVec.toNat_ofInt, BitVec.toNat_add]
  unfold N
  omega
theorem N_sub (X Y : B64) : IntKind.wrap .u64 (N X - N Y) = N (X - Y) := by
  rw [wrapN_u64]
  refine congrArg N ?_
  apply BitVec.eq_of_toNat_eq
  rw [BitVec.toNat_ofInt, BitVec.toNat_sub]
  have := X.isLt
  have := Y.isLt
  unfold N
  omega
theorem w64x {x : Int} (h0 : -9223372036854775808 ≤ x) (h1 : x < 9223372036854775808) : IntKind.wrap .i64 x = x := by unfold IntKind.wrap; simp [IntKind.bits, IntKind.signed]; omega
theorem wu64' {x : Int} (h0 : 0 ≤ x) (h1 : x < 18446744073709551616) : IntKind.wrap .u64 x = x := by unfold IntKind.wrap; simp [IntKind.bits, IntKind.signed]; omega
/-! ### power, Has, With, Without -/
theorem pw (k : Nat) (hk : k < 64) : op_31 [.n (k : Int)] = some (0, [.n (N (p2 k))]) := by
  have hl : op_L31_3 [.k 0, .n (k : Int), .n (1 : Int), .n (0 : Int)] = some (0, [.n (N (p2 k))]) := by
    rw [op_L31_3_eq]
    refine iter_count (fun i => [.k 0, .n (k : Int), .n (N (p2 i)), .n (i : Int)]) k (0, [.n (N (p2 k))]) (fun i hi => ?_) ?_ FU (lt_FU (by omega))
    · refine fn_L31_3_t_im _ _ _ _ ?_
      unfold fn_L31_3_t
      refine sel_t (by simpa using hi) ?_
      have e1 : IntKind.wrap .u64 (N (p2 i) * (2 : Int)) = N (p2 (i + 1)) := by
        unfold N
        rw [p2_nat (by omega), p2_nat (by omega), Nat.pow_succ]
        have : 2 ^ (i + 1) ≤ 2 ^ 63 := Nat.pow_le_pow_right (by omega) (by omega)
        rw [Nat.pow_succ] at this
        rw [wu64' (by omega) (by omega)]; omega
      rw [e1, w64x (by omega) (by omega)]
      rfl
    · refine fn_L31_3_t_im _ _ _ _ ?_
      unfold fn_L31_3_t
      exact sel_f (by simp) rfl
  rw [op_31_eq]
  refine fn_31_t_im _ _ ?_
  unfold fn_31_t
  dsimp only
  rw [hl]; rfl
theorem e10 (X : B64) (n : Int) : op_10 [.n (N X), .n n] = some (0, [.b (hasB X n)]) := by
  rw [op_10_eq]
  refine fn_10_t_im _ _ _ ?_
  unfold fn_10_t hasB inN
  by_cases h0 : 0 ≤ n
  · by_cases h1 : n < 64
    · obtain ⟨k, rfl⟩ : ∃ k : Nat, n = k := ⟨n.toNat, by omega⟩
      refine sel_t (by simp) (sel_t (by simpa using h1) ?_)
      rw [iand1 X k (by omega)]
      simp [Tree.sel, show (k : Int) < 64 from h1]
    · refine sel_t (by simpa using h0) (sel_f (by simpa using h1) ?_)
      simp [Tree.sel, h1]
  · refine sel_f (by simpa using h0) ?_
    simp [Tree.sel, h0]
theorem e11 (X : B64) (n : Int) : op_11 [.n (N X), .n n] = some (0, [.b (hasB X n)]) := by
  rw [op_11_eq]
  refine fn_11_t_im _ _ _ ?_
  unfold fn_11_t hasB inN
  by_cases h0 : 0 ≤ n
  · by_cases h1 : n < 64
    · obtain ⟨k, rfl⟩ : ∃ k : Nat, n = k := ⟨n.toNat, by omega⟩
      refine sel_t (by simp) (sel_t (by simp; omega) ?_)
      rw [pw k (by omega)]
      have hp : N (p2 k) = ((2 ^ k : Nat) : Int) := by unfold N; rw [p2_nat (by omega)]
      have hpos : 0 < 2 ^ k := Nat.pow_pos (by omega)
      refine sel_t rfl (sel_t ?_ ?_)
      · show (!decide (N (p2 k) = 0)) = true
        have hne : ((2 ^ k : Nat) : Int) ≠ 0 := by have := Nat.pos_iff_ne_zero.1 hpos; exact_mod_cast this
        rw [hp, decide_eq_false hne]; rfl
      · show some (0, [Dat.b (Int.tmod (IntKind.wrap .u64 (Int.tdiv (N X) (N (p2 k)))) (2 : Int) == (1 : Int))]) = _
        rw [hp]
        have e1 : Int.tdiv (N X) ((2 ^ k : Nat) : Int) = ((X.toNat / 2 ^ k : Nat) : Int) := by unfold N; rfl
        have hlt : X.toNat / 2 ^ k < 2 ^ 64 := Nat.lt_of_le_of_lt (Nat.div_le_self _ _) X.isLt
        rw [e1, wu64' (Int.natCast_nonneg _) (Int.ofNat_lt.2 (Nat.lt_of_lt_of_le hlt (by decide)))]
        have e2 : Int.tmod ((X.toNat / 2 ^ k : Nat) : Int) 2 = ((X.toNat / 2 ^ k % 2 : Nat) : Int) := rfl
        rw [e2, getN]
        simp only [Option.some.injEq, Prod.mk.injEq, List.cons.injEq, and_true, true_and, Dat.b.injEq]
        rw [show decide (0 ≤ (k : Int)) = true by simp, show decide ((k : Int) < 64) = true by simpa using h1, Bool.true_and, Bool.true_and, Bool.eq_iff_iff, beq_iff_eq, decide_eq_true_eq]
        simp only [Int.toNat_natCast]
        omega
    · refine sel_t (by simpa using h0) (sel_f (by simp; omega) ?_)
      simp [Tree.sel, h1]
  · refine sel_f (by simpa using h0) ?_
    simp [Tree.sel, h0]
theorem ishl1 (k : Nat) : ishl IntKind.u64 (1 : Int) (k : Int) = N (p2 k) := by
  rw [show (1 : Int) = N (1#64) from rfl, ishl_u64]; rfl

abbrev LM := List (Ty.den TMr)
theorem w1m (i : Nat) (h : i < 9223372036854775807) : IntKind.wrap .i64 ((i : Int) + 1) = ((i + 1 : Nat) : Int) := by rw [w64x (by omega) (by omega)]; rfl
theorem tkG {α : Type} (l : List α) (d : α) {i : Nat} (h : i < l.length) : l.take (i + 1) = l.take i ++ [l.getD i d] := by
  rw [List.take_succ_eq_append_getElem h]; simp [h]
/-- What the first m routes put together. -/
def accB (k : IntKind) (f : Ty.den TMr → Int) (X : B64) (l : LM) : Nat → Int
  | 0 => 0
  | i + 1 => bif hasB X (i : Int) then ior k (accB k f X l i) (f (l.getD i (Ty.dflt TMr))) else accB k f X l i
theorem acc64 (k : IntKind) (f : Ty.den TMr → Int) (X : B64) (l : LM) (d : Nat) : accB k f X l (64 + d) = accB k f X l 64 := by
  induction d with
  | zero => rfl
  | succ d ih =>
    have : hasB X ((64 + d : Nat) : Int) = false := by unfold hasB inN; rw [decide_eq_false (show ¬ ((64 + d : Nat) : Int) < 64 by omega), Bool.and_false, Bool.false_and]
    show (bif hasB X ((64 + d : Nat) : Int) then _ else accB k f X l (64 + d)) = _
    rw [this]; exact ih
theorem acc_min (k : IntKind) (f : Ty.den TMr → Int) (X : B64) (l : LM) (m : Nat) : accB k f X l (min m 64) = accB k f X l m := by
  by_cases h : m ≤ 64
  · rw [Nat.min_eq_left h]
  · obtain ⟨d, rfl⟩ : ∃ d, m = 64 + d := ⟨m - 64, by omega⟩
    rw [Nat.min_eq_right (by omega), acc64]
def mrN (e : Ty.den TMr) : Int := Prod.fst (Prod.snd (Prod.snd (Prod.snd e)))
def mrV (e : Ty.den TMr) : Int := Prod.fst (Prod.snd (Prod.snd (Prod.snd (Prod.snd e))))
def mrC (e : Ty.den TMr) : Int := Prod.snd (Prod.snd (Prod.snd (Prod.snd (Prod.snd e))))
theorem o25a (X : B64) (l : LM) (hl : l.length ≤ 100) : op_25a [.l TMr l, .n (N X)] = some (0, [.n (accB .u32 mrN X l l.length)]) := by
  have e : op_L25a_3 [.k 0, .n (N X), .n (0 : Int), .l TMr l, .n (l.length : Int), .n (0 : Int)] = some (0, [.n (accB .u32 mrN X l l.length)]) := by
    rw [op_L25a_3_eq]
    refine iter_count (st := st_L25a_3) (fun i => [.k 0, .n (N X), .n (accB .u32 mrN X l i), .l TMr l, .n (l.length : Int), .n (i : Int)]) l.length (0, [.n (accB .u32 mrN X l l.length)]) (fun i hi => ?_) ?_ FU (by unfold FU; omega)
    · refine fn_L25a_3_t_im _ _ _ _ _ (by omega) rfl _ ?_
      unfold fn_L25a_3_t
      refine sel_t (decide_eq_true (show (i : Int) < (l.length : Int) by omega)) ?_
      have a := e10 X (i : Int)
      dsimp only
      erw [a]
      refine sel_t rfl ?_
      rw [w1m i (by omega)]
      show _ = some (Step.go [.k 0, .n (N X), .n (bif hasB X (i : Int) then ior .u32 (accB .u32 mrN X l i) (mrN (l.getD i (Ty.dflt TMr))) else accB .u32 mrN X l i), .l TMr l, .n (l.length : Int), .n ((i + 1 : Nat) : Int)])
      cases hasB X (i : Int) with
      | true => exact sel_t rfl rfl
      | false => exact sel_f rfl rfl
    · refine fn_L25a_3_t_im _ _ _ _ _ (by omega) rfl _ ?_
      unfold fn_L25a_3_t
      exact sel_f (decide_eq_false (show ¬ (l.length : Int) < (l.length : Int) by omega)) rfl
  rw [op_25a_eq]
  refine fn_25a_t_im _ _ _ ?_
  unfold fn_25a_t
  dsimp only
  erw [e]
  exact sel_t rfl rfl
theorem o25b (X : B64) (l : LM) (hl : l.length ≤ 100) : op_25b [.l TMr l, .n (N X)] = some (0, [.n (accB .u32 mrV X l l.length)]) := by
  have e : op_L25b_3 [.k 0, .n (N X), .n (0 : Int), .l TMr l, .n (l.length : Int), .n (0 : Int)] = some (0, [.n (accB .u32 mrV X l l.length)]) := by
    rw [op_L25b_3_eq]
    refine iter_count (st := st_L25b_3) (fun i => [.k 0, .n (N X), .n (accB .u32 mrV X l i), .l TMr l, .n (l.length : Int), .n (i : Int)]) l.length (0, [.n (accB .u32 mrV X l l.length)]) (fun i hi => ?_) ?_ FU (by unfold FU; omega)
    · refine fn_L25b_3_t_im _ _ _ _ _ (by omega) rfl _ ?_
      unfold fn_L25b_3_t
      refine sel_t (decide_eq_true (show (i : Int) < (l.length : Int) by omega)) ?_
      have a := e10 X (i : Int)
      dsimp only
      erw [a]
      refine sel_t rfl ?_
      rw [w1m i (by omega)]
      show _ = some (Step.go [.k 0, .n (N X), .n (bif hasB X (i : Int) then ior .u32 (accB .u32 mrV X l i) (mrV (l.getD i (Ty.dflt TMr))) else accB .u32 mrV X l i), .l TMr l, .n (l.length : Int), .n ((i + 1 : Nat) : Int)])
      cases hasB X (i : Int) with
      | true => exact sel_t rfl rfl
      | false => exact sel_f rfl rfl
    · refine fn_L25b_3_t_im _ _ _ _ _ (by omega) rfl _ ?_
      unfold fn_L25b_3_t
      exact sel_f (decide_eq_false (show ¬ (l.length : Int) < (l.length : Int) by omega)) rfl
  rw [op_25b_eq]
  refine fn_25b_t_im _ _ _ ?_
  unfold fn_25b_t
  dsimp only
  erw [e]
  exact sel_t rfl rfl
theorem o29 (X : B64) (l : LM) (hl : l.length ≤ 100) : op_29 [.l TMr l, .n (N X)] = some (0, [.n (accB .u64 mrC X l l.length)]) := by
  have e : op_L29_3 [.k 0, .n (N X), .n (0 : Int), .l TMr l, .n (l.length : Int), .n (0 : Int)] = some (0, [.n (accB .u64 mrC X l l.length)]) := by
    rw [op_L29_3_eq]
    refine iter_count (st := st_L29_3) (fun i => [.k 0, .n (N X), .n (accB .u64 mrC X l i), .l TMr l, .n (l.length : Int), .n (i : Int)]) l.length (0, [.n (accB .u64 mrC X l l.length)]) (fun i hi => ?_) ?_ FU (by unfold FU; omega)
    · refine fn_L29_3_t_im _ _ _ _ _ (by omega) rfl _ ?_
      unfold fn_L29_3_t
      refine sel_t (decide_eq_true (show (i : Int) < (l.length : Int) by omega)) ?_
      have a := e10 X (i : Int)
      dsimp only
      erw [a]
      refine sel_t rfl ?_
      rw [w1m i (by omega)]
      show _ = some (Step.go [.k 0, .n (N X), .n (bif hasB X (i : Int) then ior .u64 (accB .u64 mrC X l i) (mrC (l.getD i (Ty.dflt TMr))) else accB .u64 mrC X l i), .l TMr l, .n (l.length : Int), .n ((i + 1 : Nat) : Int)])
      cases hasB X (i : Int) with
      | true => exact sel_t rfl rfl
      | false => exact sel_f rfl rfl
    · refine fn_L29_3_t_im _ _ _ _ _ (by omega) rfl _ ?_
      unfold fn_L29_3_t
      exact sel_f (decide_eq_false (show ¬ (l.length : Int) < (l.length : Int) by omega)) rfl
  rw [op_29_eq]
  refine fn_29_t_im _ _ _ ?_
  unfold fn_29_t
  dsimp only
  erw [e]
  exact sel_t rfl rfl
theorem oneed (X : B64) (l : LM) (hl : l.length ≤ 100) : op_need [.l TMr l, .n (0 : Int), .n (0 : Int), .n (0 : Int), .n (N X)] = some (0, [.n (accB .u32 mrN X l (l.length)), .n (accB .u32 mrV X l (l.length))]) := by
  have e : op_Lneed_3 [.k 0, .n (N X), .n (0 : Int), .n (0 : Int), .n (0 : Int), .l TMr l, .n (0 : Int), .n (0 : Int), .n (0 : Int)] = some (0, [.n (accB .u32 mrN X l (min l.length 64)), .n (accB .u32 mrV X l (min l.length 64))]) := by
    rw [op_Lneed_3_eq]
    refine iter_count (st := st_Lneed_3) (fun i => [.k 0, .n (N X), .n (accB .u32 mrN X l (i)), .n (accB .u32 mrV X l (i)), .n (i : Int), .l TMr l, .n (0 : Int), .n (0 : Int), .n (0 : Int)]) (min l.length 64) (0, [.n (accB .u32 mrN X l (min l.length 64)), .n (accB .u32 mrV X l (min l.length 64))]) (fun i hi => ?_) ?_ FU (by unfold FU; omega)
    · refine fn_Lneed_3_t_im _ _ _ _ _ (by omega) _ ?_
      unfold fn_Lneed_3_t
      refine sel_t (decide_eq_true (show (i : Int) < (l.length : Int) by omega)) (sel_t (decide_eq_true (show (i : Int) < 64 by omega)) ?_)
      have a := e11 X (i : Int)
      dsimp only
      erw [a]
      refine sel_t rfl ?_
      rw [w1m i (by omega)]
      show _ = some (Step.go [.k 0, .n (N X), .n (bif hasB X (i : Int) then ior .u32 (accB .u32 mrN X l i) (mrN (l.getD i (Ty.dflt TMr))) else accB .u32 mrN X l i), .n (bif hasB X (i : Int) then ior .u32 (accB .u32 mrV X l i) (mrV (l.getD i (Ty.dflt TMr))) else accB .u32 mrV X l i), .n ((i + 1 : Nat) : Int), .l TMr l, .n (0 : Int), .n (0 : Int), .n (0 : Int)])
      cases hasB X (i : Int) with
      | true => exact sel_t rfl rfl
      | false => exact sel_f rfl rfl
    · refine fn_Lneed_3_t_im _ _ _ _ _ (by omega) _ ?_
      unfold fn_Lneed_3_t
      by_cases h : l.length < 64
      · refine sel_f (decide_eq_false (show ¬ ((min l.length 64 : Nat) : Int) < (l.length : Int) by omega)) rfl
      · by_cases h2 : l.length = 64
        · refine sel_f (decide_eq_false (show ¬ ((min l.length 64 : Nat) : Int) < (l.length : Int) by omega)) rfl
        · exact sel_t (decide_eq_true (show ((min l.length 64 : Nat) : Int) < (l.length : Int) by omega)) (sel_f (decide_eq_false (show ¬ ((min l.length 64 : Nat) : Int) < 64 by omega)) rfl)
  rw [acc_min .u32 mrN, acc_min .u32 mrV] at e
  rw [op_need_eq]
  refine fn_need_t_im _ _ _ _ _ _ ?_
  unfold fn_need_t
  dsimp only
  erw [e]
  exact sel_t rfl rfl
theorem oclash (X : B64) (l : LM) (hl : l.length ≤ 100) : op_clash [.l TMr l, .n (0 : Int), .n (0 : Int), .n (0 : Int), .n (N X)] = some (0, [.n (accB .u64 mrC X l (l.length))]) := by
  have e : op_Lclash_3 [.k 0, .n (N X), .n (0 : Int), .n (0 : Int), .l TMr l, .n (0 : Int), .n (0 : Int), .n (0 : Int)] = some (0, [.n (accB .u64 mrC X l (min l.length 64))]) := by
    rw [op_Lclash_3_eq]
    refine iter_count (st := st_Lclash_3) (fun i => [.k 0, .n (N X), .n (accB .u64 mrC X l (i)), .n (i : Int), .l TMr l, .n (0 : Int), .n (0 : Int), .n (0 : Int)]) (min l.length 64) (0, [.n (accB .u64 mrC X l (min l.length 64))]) (fun i hi => ?_) ?_ FU (by unfold FU; omega)
    · refine fn_Lclash_3_t_im _ _ _ _ (by omega) _ ?_
      unfold fn_Lclash_3_t
      refine sel_t (decide_eq_true (show (i : Int) < (l.length : Int) by omega)) (sel_t (decide_eq_true (show (i : Int) < 64 by omega)) ?_)
      have a := e11 X (i : Int)
      dsimp only
      erw [a]
      refine sel_t rfl ?_
      rw [w1m i (by omega)]
      show _ = some (Step.go [.k 0, .n (N X), .n (bif hasB X (i : Int) then ior .u64 (accB .u64 mrC X l i) (mrC (l.getD i (Ty.dflt TMr))) else accB .u64 mrC X l i), .n ((i + 1 : Nat) : Int), .l TMr l, .n (0 : Int), .n (0 : Int), .n (0 : Int)])
      cases hasB X (i : Int) with
      | true => exact sel_t rfl rfl
      | false => exact sel_f rfl rfl
    · refine fn_Lclash_3_t_im _ _ _ _ (by omega) _ ?_
      unfold fn_Lclash_3_t
      by_cases h : l.length < 64
      · refine sel_f (decide_eq_false (show ¬ ((min l.length 64 : Nat) : Int) < (l.length : Int) by omega)) rfl
      · by_cases h2 : l.length = 64
        · refine sel_f (decide_eq_false (show ¬ ((min l.length 64 : Nat) : Int) < (l.length : Int) by omega)) rfl
        · exact sel_t (decide_eq_true (show ((min l.length 64 : Nat) : Int) < (l.length : Int) by omega)) (sel_f (decide_eq_false (show ¬ ((min l.length 64 : Nat) : Int) < 64 by omega)) rfl)
  rw [acc_min .u64 mrC] at e
  rw [op_clash_eq]
  refine fn_clash_t_im _ _ _ _ _ _ ?_
  unfold fn_clash_t
  dsimp only
  erw [e]
  exact sel_t rfl rfl
theorem lp4 (n : Int) (l : LM) (hl : l.length ≤ 100) : op_L4_5 [.k 0, .l TMr l, .n n, .n (0 : Int), .n (0 : Int), .n (0 : Int), .n (0 : Int), .l TMr []] = some (0, [.l TMr l, .n n, .n (0 : Int), .n (0 : Int), .n (0 : Int), .l TMr l]) := by
  rw [op_L4_5_eq]
  refine iter_count (st := st_L4_5) (fun i => [.k 0, .l TMr l, .n n, .n (i : Int), .n (0 : Int), .n (0 : Int), .n (0 : Int), .l TMr (l.take i)]) l.length (0, [.l TMr l, .n n, .n (0 : Int), .n (0 : Int), .n (0 : Int), .l TMr l]) (fun i hi => ?_) ?_ FU (by unfold FU; omega)
  · have ln : (l.take i).length ≤ 100 := by rw [List.length_take]; omega
    refine fn_L4_5_t_im _ _ _ _ (by omega) _ ?_
    unfold fn_L4_5_t
    refine sel_t (decide_eq_true (show (i : Int) < (l.length : Int) by omega)) (sel_t (decide_eq_true (show ((l.take i).length + 1) * 40 ≤ 140737488355328 by omega)) ?_)
    rw [w1m i (by omega), tkG l (Ty.dflt TMr) hi]; rfl
  · refine fn_L4_5_t_im _ _ _ _ (by omega) _ ?_
    unfold fn_L4_5_t
    refine sel_f (decide_eq_false (show ¬ (l.length : Int) < (l.length : Int) by omega)) ?_
    rw [List.take_length]; rfl
theorem W4_true (X : B64) (l : LM) : (ev_W4 [.l TMr l, .n (N X)]).sel = some true := by
  refine fn_W4_t_im _ _ _ ?_
  unfold fn_W4_t
  by_cases h : (l.length : Int) > 100
  · exact sel_t (decide_eq_true h) rfl
  refine sel_f (decide_eq_false h) ?_
  have hl : l.length ≤ 100 := by omega
  dsimp only
  erw [lp4 (N X) l hl]; refine sel_t rfl ?_
  erw [o25a X l hl]; refine sel_t rfl ?_
  erw [o25b X l hl]; refine sel_t rfl ?_
  erw [oneed X l hl]; refine sel_t rfl ?_
  refine sel_t (show (accB .u32 mrN X l l.length == accB .u32 mrN X l l.length) = true by simp) (sel_t (show (accB .u32 mrV X l l.length == accB .u32 mrV X l l.length) = true by simp) ?_)
  erw [o29 X l hl]; refine sel_t rfl ?_
  erw [oclash X l hl]; refine sel_t rfl ?_
  exact sel_t (show (accB .u64 mrC X l l.length == accB .u64 mrC X l l.length) = true by simp) rfl
theorem t4 (l : LM) {n : Int} (h : wfD (.int .u64) n = true) : (ev_W4 [.l TMr l, .n n]).sel = some true := by
  obtain ⟨h0, h1⟩ := wfi h
  have h1 : n ≤ 18446744073709551615 := h1
  have h0 : 0 ≤ n := h0
  have e : n = N (BitVec.ofInt 64 n) := (N_of h0 (by omega)).symm
  rw [e]
  exact W4_true _ l
end Go.Proofs.Ytjngnkedennjdaa.Vx
