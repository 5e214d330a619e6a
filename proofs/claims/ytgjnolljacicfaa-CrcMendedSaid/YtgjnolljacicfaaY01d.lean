import Derived.Test.YtgjnolljacicfaaY01c
namespace Go.Proofs.Ytgjnolljacicfaa.Vx
open Go Go.RowKit
set_option linter.unusedVariables false
set_option linter.unusedSimpArgs false
set_option maxRecDepth 100000
theorem xor_cancel (a b : BitVec 8) : a ^^^ (a ^^^ b) = b := by rw [← BitVec.xor_assoc, BitVec.xor_self, BitVec.zero_xor]
theorem xor_cancel32 (a b : BitVec 32) : a ^^^ (a ^^^ b) = b := by rw [← BitVec.xor_assoc, BitVec.xor_self, BitVec.zero_xor]
theorem chg_zero {d : BitVec 8} {k : Nat} : chg d k = 0#32 ↔ d = 0#8 := by
  constructor
  · intro h
    unfold chg at h
    have h := dnN_inj (h.trans (dnN_zero (8 * (k + 1))).symm)
    apply BitVec.eq_of_toNat_eq
    have := congrArg BitVec.toNat h
    rw [BitVec.toNat_setWidth] at this
    have h2 := d.isLt
    simp at this
    simp
    omega
  · rintro rfl; unfold chg; exact dnN_zero _
theorem chg_xor (a b : BitVec 8) (k : Nat) : chg (a ^^^ b) k = chg a k ^^^ chg b k := by
  unfold chg; rw [BitVec.setWidth_xor, dnN_xor]
theorem isK3b (x y : Int) (z : Bool) : isK 0 [HK.n, HK.n, HK.b] (some (0, [.n x, .n y, .b z])) = true := rfl
theorem t7 (b : List Int) (n : Int) (by_ : BitVec 8) (hb : b.length ≤ 9223372036854775807) (hr : ∀ x ∈ b, 0 ≤ x ∧ x < 256) (hn : 0 ≤ n ∧ n < 65536) : (fn_W7 [.l TB (ofI b), .n n, .n (N by_)]).sel = some true := by
  simp only [fn_W7, den_setlen, den_setlen2, den_setlen3, den_setlen4, den_len2, den_setget, den_len, den_getD2, den_set]
  by_cases h : ((b.length : Int) == 0) = true
  · exact selT h
  have h : ((b.length : Int) == 0) = false := by simpa using h
  refine (selF h).trans ?_
  have h0 : 0 < b.length := by
    rcases Nat.eq_zero_or_pos b.length with q | q
    · rw [q] at h; cases h
    · exact q
  by_cases h1 : (b.length : Int) > 2000
  · exact selT (dt h1)
  refine (selF (df h1)).trans ?_
  by_cases h2 : by_ = 0#8
  · exact selT (by subst h2; rfl)
  have h2' : (N by_ == 0) = false := by rw [show (0 : Int) = N 0#8 from rfl, N_beq]; simpa using h2
  refine (selF h2').trans ?_
  rw [bytes_str' hr]
  simp only [den_setlen, den_setlen2, den_setlen3, den_setlen4, den_len2, den_setget, den_len, den_getD2, den_set]
  have e0 : IntKind.wrap .i64 n = n := w64 (by omega) (by omega)
  obtain ⟨v, rfl⟩ : ∃ v : Nat, n = v := ⟨n.toNat, by omega⟩
  have hm : Int.tmod (v : Int) (b.length : Int) = ((v % b.length : Nat) : Int) := rfl
  have hlt : v % b.length < b.length := Nat.mod_lt _ (by omega)
  obtain ⟨a, ha⟩ := byte_at hr hlt
  simp only [e0, hm, den_setlen, den_setlen2, den_setlen3, den_setlen4, den_len2, den_setget, List.length_set, den_len, den_getD2, Int.toNat_natCast, ha, ixor_u8, den_set]
  generalize hat : v % b.length = at_ at *
  have hl : (b.set at_ (N (a ^^^ by_))).length = b.length := List.length_set
  have hSm := Sm_set hlt a (a ^^^ by_) ha
  rw [xor_cancel] at hSm
  have hrr := bytes_set hr at_ (a ^^^ by_)
  generalize hrow : b.set at_ (N (a ^^^ by_)) = row at *
  have e1 : IntKind.wrap .i64 ((b.length : Int) - 1) = ((b.length - 1 : Nat) : Int) := by rw [w64 (by omega) (by omega)]; omega
  have e2 : IntKind.wrap .i64 (((b.length - 1 : Nat) : Int) - (at_ : Int)) = ((b.length - 1 - at_ : Nat) : Int) := by rw [w64 (by omega) (by omega)]; omega
  rw [e1, e2]
  refine (selT (nf (df (by omega)))).trans ((selT (inR_true (by omega) (by omega))).trans ?_)
  have a1 := t12 b hb
  have a2 := t12 row (by omega)
  rw [show op_12 [.l (.int .u8) (ofI b)] = _ from a1, show op_12 [.l (.int .u8) (ofI row)] = _ from a2]
  refine (selT rfl).trans ((selT rfl).trans ?_)
  simp only [dOf_some, gn0, ixor_u32]
  rw [hSm, xor_cancel32]
  -- what is found
  generalize hK : b.length - 1 - at_ = K at *
  have hx : chg by_ K ≠ 0#32 := fun e => h2 (chg_zero.1 e)
  have a3 := t16 (chg by_ K) (b.length : Int) (by omega) hx
  have hitK : hitU (chg by_ K) K = true := by
    unfold hitU chg
    rw [upN_dnN]
    refine dt ?_
    unfold N
    rw [BitVec.toNat_setWidth]
    have := by_.isLt
    omega
  rw [show ((b.length : Int)).toNat = b.length from rfl] at a3
  cases hq : firstHit (hitU (chg by_ K)) b.length with
  | none =>
    have := firstHit_none hq K (by omega)
    rw [hitK] at this; cases this
  | some j =>
    obtain ⟨q1, q2, q3⟩ := firstHit_some hq
    have hjK : j ≤ K := by
      rcases Nat.lt_or_ge K j with u | u
      · have := q3 K u; rw [hitK] at this; cases this
      · exact u
    rw [hq] at a3
    unfold foundU at a3
    simp only at a3
    have hy : N (upN (8 * (j + 1)) (chg by_ K)) < 256 := of_decide_eq_true q2
    have hy0 : (upN (8 * (j + 1)) (chg by_ K)).setWidth 8 ≠ 0#8 := by
      intro e
      have e1 := setWidth_lt hy
      rw [e] at e1
      have := congrArg (dnN (8 * (j + 1))) e1
      rw [dnN_upN] at this
      rw [← this] at hx
      exact hx (dnN_zero _)
    have hch : chg ((upN (8 * (j + 1)) (chg by_ K)).setWidth 8) j = chg by_ K := by
      show dnN (8 * (j + 1)) (((upN (8 * (j + 1)) (chg by_ K)).setWidth 8).setWidth 32) = _
      rw [setWidth_lt hy, dnN_upN]
    generalize (upN (8 * (j + 1)) (chg by_ K)).setWidth 8 = bits at *
    rw [a3]
    have e3 : IntKind.wrap .i64 (((b.length - 1 : Nat) : Int) - (j : Int)) = ((b.length - 1 - j : Nat) : Int) := by rw [w64 (by omega) (by omega)]; omega
    refine (selT rfl).trans ((selF rfl).trans ?_)
    simp only [dOf_some, gn0, gn1, e3]
    have hlt2 : b.length - 1 - j < row.length := by omega
    obtain ⟨a', ha'⟩ := byte_at hrr hlt2
    have hS2 := Sm_set hlt2 a' (a' ^^^ bits) ha'
    rw [xor_cancel, hl, show b.length - 1 - (b.length - 1 - j) = j by omega, hch, hSm] at hS2
    have hz : Sm b ^^^ chg by_ K ^^^ chg by_ K = Sm b := by rw [BitVec.xor_assoc, BitVec.xor_self, BitVec.xor_zero]
    rw [hz] at hS2
    refine (selF (by rw [show (0 : Int) = N 0#8 from rfl, N_beq]; simpa using hy0)).trans ((selF (df (by omega))).trans ((selF (df (by omega))).trans ((selT (inR_true (by omega) (by omega))).trans ?_)))
    have a4 := t12 (row.set (b.length - 1 - j) (ixor .u8 (row.getD (b.length - 1 - j) 0) (N bits))) (by rw [List.length_set]; omega)
    have e5 : row.set (b.length - 1 - j) (ixor .u8 (row.getD (b.length - 1 - j) 0) (N bits)) = row.set (b.length - 1 - j) (N (a' ^^^ bits)) := by rw [ha', ixor_u8]
    have a5 : Sm (row.set (b.length - 1 - j) (ixor .u8 (row.getD (b.length - 1 - j) 0) (N bits))) = Sm b := by rw [e5]; exact hS2
    rw [a5] at a4
    clear a5 e5 hS2 ha' hlt2 hrr hSm a2 hl
    subst hrow
    exact (selT (congrArg (isK 0 [HK.n]) a4)).trans (selT (beq_self (congrArg (fun r => gn (dOf r) 0) a4)))
theorem isK2t (x : Int) (y : Bool) : isK 0 [HK.n, HK.b] (some (0, [.n x, .b y])) = true := rfl
theorem t8 (s : BitVec 32) (a b c d : BitVec 8) (m n : Int) (hm : 0 ≤ m ∧ m < 65536) (hn : 0 ≤ n ∧ n < 65536) : (fn_W8 [.n (N s), .n (N a), .n (N b), .n (N c), .n (N d), .n m, .n n]).sel = some true := by
  simp only [fn_W8]
  have r : ∀ m : Int, 0 ≤ m ∧ m < 65536 → ∃ k : Nat, k ≤ 65536 ∧ IntKind.wrap .i64 (Int.tmod m 1500) = (k : Int) := by
    intro m hm
    have : 0 ≤ Int.tmod m 1500 ∧ Int.tmod m 1500 < 1500 := by rw [Int.tmod_eq_emod_of_nonneg hm.1]; omega
    exact ⟨(Int.tmod m 1500).toNat, by omega, by rw [w64 (by omega) (by omega)]; omega⟩
  obtain ⟨k, hk, ek⟩ := r m hm
  obtain ⟨l, hl, el⟩ := r n hn
  rw [ek, el]
  simp only [t14 _ _ _ k hk, t14 _ _ _ l hl, dOf_some, gn0, gb1, isK2t, selB, cond_true, Tree.sel, N_beq]
  have f1 : s ^^^ chg (a ^^^ b) k ^^^ chg (c ^^^ d) l = s ^^^ chg (c ^^^ d) l ^^^ chg (a ^^^ b) k := by ac_rfl
  have f2 : s ^^^ chg (a ^^^ b) k ^^^ chg (b ^^^ c) k = s ^^^ chg (a ^^^ c) k := by
    rw [BitVec.xor_assoc, ← chg_xor]
    have : a ^^^ b ^^^ (b ^^^ c) = a ^^^ c := by
      have e : a ^^^ b ^^^ (b ^^^ c) = a ^^^ c ^^^ (b ^^^ b) := by ac_rfl
      rw [e, BitVec.xor_self, BitVec.xor_zero]
    rw [this]
  have f3 : s ^^^ chg (a ^^^ b) k ^^^ chg (b ^^^ a) k = s := by
    rw [BitVec.xor_assoc, ← chg_xor]
    have : a ^^^ b ^^^ (b ^^^ a) = 0#8 := by
      have e : a ^^^ b ^^^ (b ^^^ a) = (a ^^^ a) ^^^ (b ^^^ b) := by ac_rfl
      rw [e, BitVec.xor_self, BitVec.xor_self, BitVec.xor_zero]
    rw [this, chg_zero.2 rfl, BitVec.xor_zero]
  have f4 : (s ^^^ chg (a ^^^ b) k == s) = (a == b) := by
    rw [Bool.eq_iff_iff, beq_iff_eq, beq_iff_eq]
    constructor
    · intro h
      have := congrArg (fun v => s ^^^ v) h
      simp only [xor_cancel32, BitVec.xor_self] at this
      have := chg_zero.1 this
      have h2 := congrArg (fun v => a ^^^ v) this
      simp only [xor_cancel, BitVec.xor_zero] at h2
      exact h2.symm
    · rintro rfl
      rw [BitVec.xor_self, chg_zero.2 rfl, BitVec.xor_zero]
  rw [f1, f2, f3, f4]
  simp
/-! ### Near changes -/
def burst (f : Nat) (x : BitVec 32) (i : Nat) : BitVec 8 := (((x.setWidth 64) <<< f) >>> (8 * i)).setWidth 8
def spread (f : Nat) (x : BitVec 32) : BitVec 32 := dnN 40 ((burst f x 0).setWidth 32) ^^^ dnN 32 ((burst f x 1).setWidth 32) ^^^ dnN 24 ((burst f x 2).setWidth 32) ^^^ dnN 16 ((burst f x 3).setWidth 32) ^^^ dnN 8 ((burst f x 4).setWidth 32)
theorem burst_xor (f : Nat) (a b : BitVec 32) (i : Nat) : burst f (a ^^^ b) i = burst f a i ^^^ burst f b i := by
  unfold burst
  rw [BitVec.setWidth_xor, BitVec.shiftLeft_xor_distrib, BitVec.ushiftRight_xor_distrib, BitVec.setWidth_xor]
theorem spread_all : ∀ f : Fin 8, ∀ i : Fin 32, spread f.val (1#32 <<< i.val) = dnN (40 - f.val) (1#32 <<< i.val) := by decide +kernel
theorem spread_is (f : Nat) (hf : f < 8) (x : BitVec 32) : spread f x = dnN (40 - f) x := by
  refine lin_ext (f := spread f) (g := dnN (40 - f)) (fun a b => ?_) (dnN_xor _) (fun i hi => spread_all ⟨f, hf⟩ ⟨i, hi⟩) x
  unfold spread
  simp only [burst_xor, BitVec.setWidth_xor, dnN_xor]
  ac_rfl
/-- One of the five bytes. -/
def turnI (row : List Int) (p : Int) (v : Int) : List Int := List.set row p.toNat (ixor .u8 (List.getD row p.toNat 0) v)
theorem turnI_ok {row : List Int} (hr : ∀ x ∈ row, 0 ≤ x ∧ x < 256) {p : Nat} (hp : p < row.length) (d : BitVec 8) :
    go 0xFFFFFFFF#32 (turnI row (p : Int) (N d)) = go 0xFFFFFFFF#32 row ^^^ dnN (8 * (row.length - p)) (d.setWidth 32) ∧ (turnI row (p : Int) (N d)).length = row.length ∧ (∀ x ∈ turnI row (p : Int) (N d), 0 ≤ x ∧ x < 256) := by
  obtain ⟨a, ha⟩ := byte_at hr hp
  have e : turnI row (p : Int) (N d) = row.set p (N (a ^^^ d)) := by unfold turnI; rw [show ((p : Int)).toNat = p from rfl, ha, ixor_u8]
  rw [e]
  refine ⟨?_, List.length_set, bytes_set hr _ _⟩
  rw [go_set _ hp (N (a ^^^ d)) 0, ha, ofInt_N8, ofInt_N8, ← BitVec.setWidth_xor, xor_cancel]
end Go.Proofs.Ytgjnolljacicfaa.Vx
