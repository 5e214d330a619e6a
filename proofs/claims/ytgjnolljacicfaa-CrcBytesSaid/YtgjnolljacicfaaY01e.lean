import Derived.Test.YtgjnolljacicfaaY01d
namespace Go.Proofs.Ytgjnolljacicfaa.Vx
open Go Go.RowKit
set_option linter.unusedVariables false
set_option linter.unusedSimpArgs false
set_option maxRecDepth 100000
def P9 (n : Nat) (i : Int) : Int := IntKind.wrap .i64 ((n : Int) + i)
def V9 (bits n4 s : Int) : Int := IntKind.wrap .u8 (ishr .u64 (ishl .u64 (IntKind.wrap .u64 bits) (Int.tmod n4 8)) s)
theorem P9_is (n i : Nat) (hn : n ≤ 1500) (hi : i < 5) : P9 n (i : Int) = ((n + i : Nat) : Int) := by
  unfold P9
  rw [w64 (by omega) (by omega)]; omega
theorem V9_is (x : BitVec 32) (n4 : Int) (f i : Nat) (hf : Int.tmod n4 8 = f) : V9 (N x) n4 ((8 * i : Nat) : Int) = N (burst f x i) := by
  unfold V9 burst
  have e1 : IntKind.wrap .u64 (N x) = N (x.setWidth 64) := by
    rw [wrapN_u64]
    congr 1
    apply BitVec.eq_of_toNat_eq
    rw [BitVec.toNat_ofInt, BitVec.toNat_setWidth]
    unfold N
    try omega
  rw [e1, hf, ishl_u64, ishr_u64, wrapN_u8]
  generalize (BitVec.setWidth 64 x <<< f) >>> (8 * i) = y
  have : BitVec.ofInt 8 (N y) = y.setWidth 8 := by
    apply BitVec.eq_of_toNat_eq
    rw [BitVec.toNat_ofInt, BitVec.toNat_setWidth]
    unfold N
    omega
  rw [this]
def row9 (X : List Int) (n : Nat) (b n4 : Int) : Nat → List Int
  | 0 => X
  | i + 1 => turnI (row9 X n b n4 i) (P9 n (i : Int)) (V9 b n4 ((8 * i : Nat) : Int))
theorem row9_ok (X : List Int) (n : Nat) (x : BitVec 32) (n4 : Int) (f : Nat) (hn : n ≤ 1500) (hf : Int.tmod n4 8 = f) (hX : n + 5 ≤ X.length) (hr : ∀ y ∈ X, 0 ≤ y ∧ y < 256) : ∀ i, i ≤ 5 →
    (row9 X n (N x) n4 i).length = X.length ∧ (∀ y ∈ row9 X n (N x) n4 i, 0 ≤ y ∧ y < 256) ∧ (∀ k, i = k + 1 → go 0xFFFFFFFF#32 (row9 X n (N x) n4 i) = go 0xFFFFFFFF#32 (row9 X n (N x) n4 k) ^^^ dnN (8 * (X.length - (n + k))) ((burst f x k).setWidth 32)) := by
  intro i
  induction i with
  | zero => intro _; exact ⟨rfl, hr, fun k h => by omega⟩
  | succ i ih =>
    intro hi
    obtain ⟨h1, h2, h3⟩ := ih (by omega)
    rw [show row9 X n (N x) n4 (i + 1) = turnI (row9 X n (N x) n4 i) (P9 n (i : Int)) (V9 (N x) n4 ((8 * i : Nat) : Int)) from rfl]
    rw [P9_is n i hn (by omega), V9_is x n4 f i hf]
    obtain ⟨k1, k2, k3⟩ := turnI_ok h2 (p := n + i) (by omega) (burst f x i)
    refine ⟨by omega, k3, fun k hk => ?_⟩
    have : i = k := by omega
    subst this
    rw [k1, h1]
theorem t9 (l0 l1 l2 : List Int) (x : BitVec 32) (n4 : Int) (h4 : 0 ≤ n4 ∧ n4 < 256) (r0 : ∀ y ∈ l0, 0 ≤ y ∧ y < 256) (r1 : ∀ y ∈ l1, 0 ≤ y ∧ y < 256) (r2 : ∀ y ∈ l2, 0 ≤ y ∧ y < 256) :
    (fn_W9 [.l TB (ofI l0), .l TB (ofI l1), .l TB (ofI l2), .n (N x), .n n4]).sel = some true := by
  by_cases h0 : (l0.length : Int) > 1500
  · exact selT (dt h0)
  refine (selF (df h0)).trans ?_
  by_cases h2 : (l2.length : Int) > 1500
  · exact selT (dt h2)
  refine (selF (df h2)).trans ?_
  by_cases h1 : (l1.length : Int) < 5
  · exact selT (dt h1)
  refine (selF (df h1)).trans ?_
  have hm : 0 ≤ Int.tmod n4 8 ∧ Int.tmod n4 8 < 8 := by rw [Int.tmod_eq_emod_of_nonneg h4.1]; omega
  obtain ⟨f, hf⟩ : ∃ f : Nat, Int.tmod n4 8 = f := ⟨(Int.tmod n4 8).toNat, by omega⟩
  have ht : (l1.take 5).length = 5 := by rw [List.length_take]; omega
  have hX : (l0 ++ l1.take 5 ++ l2).length = l0.length + 5 + l2.length := by rw [List.length_append, List.length_append, ht]
  have hX2 : (l0 ++ l1.take 5).length = l0.length + 5 := by rw [List.length_append, ht]
  have hXr : ∀ y ∈ l0 ++ l1.take 5 ++ l2, 0 ≤ y ∧ y < 256 := by
    intro y hy
    rw [List.mem_append, List.mem_append] at hy
    rcases hy with (hy | hy) | hy
    · exact r0 y hy
    · exact r1 y (List.mem_of_mem_take hy)
    · exact r2 y hy
  refine (selT (nf (df (by omega)))).trans ?_
  refine (selT (dt (show l0.length * 1 ≤ 140737488355328 by omega))).trans ?_
  refine (selT (show (true && decide (5 ≤ (l1.length : Int))) = true by rw [dt (show 5 ≤ (l1.length : Int) by omega)]; rfl)).trans ?_
  refine (selT (dt (show (l0.length + (l1.take 5).length) * 1 ≤ 140737488355328 by omega))).trans ?_
  refine (selT (dt (show ((l0 ++ l1.take 5).length + l2.length) * 1 ≤ 140737488355328 by omega))).trans ?_
  refine (selT (dt (show (l0 ++ l1.take 5 ++ l2).length * 1 ≤ 140737488355328 by omega))).trans ?_
  have ok := row9_ok (l0 ++ l1.take 5 ++ l2) l0.length x n4 f (by omega) hf (by omega) hXr
  have inr : ∀ i : Nat, i < 5 → inR (P9 l0.length (i : Int)) (row9 (l0 ++ l1.take 5 ++ l2) l0.length (N x) n4 i).length = true := by
    intro i hi
    rw [P9_is _ i (by omega) hi, (ok i (by omega)).1, hX]
    exact inR_true (by omega) (by omega)
  refine (selT (inr 0 (by omega))).trans ((selT (inr 1 (by omega))).trans ((selT (inr 2 (by omega))).trans ((selT (inr 3 (by omega))).trans ((selT (inr 4 (by omega))).trans ?_))))
  have a1 := t12 (l0 ++ l1.take 5 ++ l2) (by omega)
  have a2 := t12 (row9 (l0 ++ l1.take 5 ++ l2) l0.length (N x) n4 5) (by rw [(ok 5 (by omega)).1]; omega)
  refine (selT (congrArg (isK 0 [HK.n]) a1)).trans ((selT (congrArg (isK 0 [HK.n]) a2)).trans (selT ?_))
  refine (congr (congrArg (fun (r q : Option (Nat × List Dat)) => ((gn (dOf r) 0 == gn (dOf q) 0) == (N x == 0))) a1) a2).trans ?_
  simp only [dOf_some, gn0, N_beq]
  have g5 := (ok 5 (by omega)).2.2 4 rfl
  have g4 := (ok 4 (by omega)).2.2 3 rfl
  have g3 := (ok 3 (by omega)).2.2 2 rfl
  have g2 := (ok 2 (by omega)).2.2 1 rfl
  have g1 := (ok 1 (by omega)).2.2 0 rfl
  have hd : ∀ (k : Nat) (v : BitVec 32), k < 5 → dnN (8 * ((l0 ++ l1.take 5 ++ l2).length - (l0.length + k))) v = dnN (8 * l2.length) (dnN (40 - 8 * k) v) := by
    intro k v hk
    rw [hX, ← dnN_add]
    congr 1
    omega
  rw [g4, g3, g2, g1, hd 0 _ (by omega), hd 1 _ (by omega), hd 2 _ (by omega), hd 3 _ (by omega), hd 4 _ (by omega)] at g5
  have hs : go 0xFFFFFFFF#32 (row9 (l0 ++ l1.take 5 ++ l2) l0.length (N x) n4 5) = go 0xFFFFFFFF#32 (l0 ++ l1.take 5 ++ l2) ^^^ dnN (8 * l2.length) (dnN (40 - f) x) := by
    rw [g5, ← spread_is f (by omega) x]
    unfold spread
    simp only [dnN_xor, BitVec.xor_assoc]
    rfl
  unfold Sm
  rw [hs]
  have hz : (N x == 0) = (x == 0#32) := by rw [show (0 : Int) = N 0#32 from rfl, N_beq]
  rw [hz]
  generalize go 0xFFFFFFFF#32 (l0 ++ l1.take 5 ++ l2) = g
  cases hq : x == 0#32 with
  | true =>
    rw [beq_iff_eq] at hq
    subst hq
    rw [dnN_zero, dnN_zero, BitVec.xor_zero]
    simp
  | false =>
    have : (4294967295#32 ^^^ g == 4294967295#32 ^^^ (g ^^^ dnN (8 * l2.length) (dnN (40 - f) x))) = false := by
      rw [beq_eq_false_iff_ne]
      intro h
      have h1 := congrArg (fun v => 4294967295#32 ^^^ v) h
      simp only [xor_cancel32] at h1
      have h2 := congrArg (fun v => g ^^^ v) h1
      simp only [xor_cancel32, BitVec.xor_self] at h2
      have h3 := dnN_inj (h2.symm.trans (dnN_zero (8 * l2.length)).symm)
      have h4 := dnN_inj (h3.trans (dnN_zero (40 - f)).symm)
      subst h4
      simp at hq
    rw [this]
    rfl
end Go.Proofs.Ytgjnolljacicfaa.Vx
