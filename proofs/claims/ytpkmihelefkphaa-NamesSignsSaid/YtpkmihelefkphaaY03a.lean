import Derived.Test.YtpkmihelefkphaaVxIm
import Derived.Lib.TrimUEq
namespace Go.Proofs.Ytpkmihelefkphaa.Vx
open Go Go.RowKit
set_option linter.unusedVariables false
set_option linter.unusedSimpArgs false
/-! ### Texts as rows of bytes -/
abbrev Bs := List UInt8
def By (s : ByteArray) : Bs := s.data.toList
theorem By_len (s : ByteArray) : (By s).length = s.size := by unfold By; rw [Array.length_toList]; rfl
theorem By_ext {a b : ByteArray} (h : By a = By b) : a = b := by
  cases a; cases b; unfold By at h; simp only at h; exact congrArg ByteArray.mk (Array.ext' h)
theorem By_extract (s : ByteArray) (i j : Nat) : By (s.extract i j) = ((By s).take j).drop i := by
  unfold By
  rw [ByteArray.data_extract, Array.toList_extract, List.extract_eq_take_drop]
  apply List.ext_getElem?
  intro k
  rw [List.getElem?_take, List.getElem?_drop, List.getElem?_drop, List.getElem?_take]
  by_cases h : k < j - i
  · rw [if_pos h, if_pos (by omega)]
  · rw [if_neg h, if_neg (by omega)]
theorem By_append (a b : ByteArray) : By (a ++ b) = By a ++ By b := by
  unfold By; rw [ByteArray.data_append, Array.toList_append]
theorem strEq_By (a b : ByteArray) : strEq a b = decide (By a = By b) := rfl
theorem decC_L (s : ByteArray) (p : Nat) : decC s (p : Int) = ((Lib.decodeL ((By s).drop p)).1 : Int) := by
  unfold By; rw [Lib.decodeL_drop]; rfl
theorem decW_L (s : ByteArray) (p : Nat) : decW s (p : Int) = ((Lib.decodeL ((By s).drop p)).2 : Int) := by
  unfold By; rw [Lib.decodeL_drop]; rfl
theorem strAt_L (s : ByteArray) (p : Nat) : strAt s (p : Int) = (((By s).getD p 0).toNat : Int) := rfl

theorem dl_lo (b : UInt8) (r : Bs) (h : b.toNat < 128) : Lib.decodeL (b :: r) = (b.toNat, 1) := by
  rw [Lib.decodeL_N]; unfold Lib.decodeN
  rw [if_pos (by simpa using h)]; simp
theorem dn_hi (n b0 b1 b2 b3 : Nat) (h : 128 ≤ b0) (hn : 1 ≤ n) : 128 ≤ (Lib.decodeN n b0 b1 b2 b3).1 ∧ 1 ≤ (Lib.decodeN n b0 b1 b2 b3).2 ∧ (Lib.decodeN n b0 b1 b2 b3).2 ≤ n ∧
    (1 < (Lib.decodeN n b0 b1 b2 b3).2 → b1 / 64 = 2) ∧ (2 < (Lib.decodeN n b0 b1 b2 b3).2 → b2 / 64 = 2) ∧ (3 < (Lib.decodeN n b0 b1 b2 b3).2 → b3 / 64 = 2) ∧ (Lib.decodeN n b0 b1 b2 b3).2 ≤ 4 := by
  unfold Lib.decodeN
  repeat' split
  all_goals simp only
  all_goals omega
theorem getD_le {l : Bs} {k : Nat} : (l.getD k 0).toNat < 256 := UInt8.toNat_lt _
theorem dl_hi (b : UInt8) (r : Bs) (h : 128 ≤ b.toNat) : 128 ≤ (Lib.decodeL (b :: r)).1 ∧ 1 ≤ (Lib.decodeL (b :: r)).2 ∧ (Lib.decodeL (b :: r)).2 ≤ (b :: r).length ∧
    ∀ x ∈ (b :: r).take (Lib.decodeL (b :: r)).2, 128 ≤ x.toNat := by
  obtain ⟨h1, h2, h3, h4, h5, h6, h7⟩ := dn_hi (b :: r).length ((b :: r).getD 0 0).toNat ((b :: r).getD 1 0).toNat ((b :: r).getD 2 0).toNat ((b :: r).getD 3 0).toNat (by simpa using h) (by simp)
  rw [← Lib.decodeL_N] at h1 h2 h3 h4 h5 h6 h7
  refine ⟨h1, h2, h3, fun x hx => ?_⟩
  obtain ⟨k, hk, e⟩ := List.getElem_of_mem hx
  rw [List.length_take] at hk
  rw [List.getElem_take] at e
  have e' : (b :: r).getD k 0 = x := by rw [List.getD_eq_getElem?_getD, List.getElem?_eq_getElem (by omega)]; exact e
  rw [← e']
  match k, hk with
  | 0, _ => simpa using h
  | 1, hk => have := h4 (by omega); omega
  | 2, hk => have := h5 (by omega); omega
  | 3, hk => have := h6 (by omega); omega
  | k + 4, hk => omega
theorem dn_pre (n n' b0 b1 b2 b3 c1 c2 c3 : Nat) (hn : 1 ≤ n) (hnn : n ≤ n') (e1 : 1 < n → c1 = b1) (e2 : 2 < n → c2 = b2) (e3 : 3 < n → c3 = b3)
    (f1 : n = 1 → n' = 1 ∨ c1 / 64 ≠ 2) (f2 : n = 2 → n' = 2 ∨ c2 / 64 ≠ 2) (f3 : n = 3 → n' = 3 ∨ c3 / 64 ≠ 2) : Lib.decodeN n' b0 c1 c2 c3 = Lib.decodeN n b0 b1 b2 b3 := by
  rcases Nat.lt_or_ge n 2 with h | h
  · have e : n = 1 := by omega
    subst e
    have := f1 rfl
    have q1 : (1 < n' ∧ c1 / 64 = 2) = False := eq_false (by omega)
    have q2 : (1 < 1 ∧ b1 / 64 = 2) = False := eq_false (by omega)
    unfold Lib.decodeN
    simp only [q1, q2, false_and, and_false, if_false]
  · obtain rfl := e1 (by omega)
    have p1 : (1 < n' ∧ c1 / 64 = 2) = (1 < n ∧ c1 / 64 = 2) := propext ⟨fun q => ⟨by omega, q.2⟩, fun q => ⟨by omega, q.2⟩⟩
    rcases Nat.lt_or_ge n 3 with h | h
    · have e : n = 2 := by omega
      subst e
      have := f2 rfl
      have q1 : (2 < n' ∧ c2 / 64 = 2) = False := eq_false (by omega)
      have q2 : (2 < 2 ∧ b2 / 64 = 2) = False := eq_false (by omega)
      unfold Lib.decodeN
      simp only [p1, q1, q2, false_and, and_false, if_false]
    · obtain rfl := e2 (by omega)
      have p2 : (2 < n' ∧ c2 / 64 = 2) = (2 < n ∧ c2 / 64 = 2) := propext ⟨fun q => ⟨by omega, q.2⟩, fun q => ⟨by omega, q.2⟩⟩
      rcases Nat.lt_or_ge n 4 with h | h
      · have e : n = 3 := by omega
        subst e
        have := f3 rfl
        have q1 : (3 < n' ∧ c3 / 64 = 2) = False := eq_false (by omega)
        have q2 : (3 < 3 ∧ b3 / 64 = 2) = False := eq_false (by omega)
        unfold Lib.decodeN
        simp only [p1, p2, q1, q2, false_and, and_false, if_false]
      · obtain rfl := e3 (by omega)
        have p3 : (3 < n' ∧ c3 / 64 = 2) = (3 < n ∧ c3 / 64 = 2) := propext ⟨fun q => ⟨by omega, q.2⟩, fun q => ⟨by omega, q.2⟩⟩
        unfold Lib.decodeN
        simp only [p1, p2, p3]
/-- What stands behind a low byte has no say. -/
theorem dl_pre (a c : Bs) (ha : a ≠ []) (hc : c = [] ∨ (c.getD 0 0).toNat < 128) : Lib.decodeL (a ++ c) = Lib.decodeL a := by
  rw [Lib.decodeL_N, Lib.decodeL_N]
  have hl : 1 ≤ a.length := by cases a with
    | nil => exact absurd rfl ha
    | cons => simp
  have g : ∀ k, k < a.length → (a ++ c).getD k 0 = a.getD k 0 := fun k hk => by simp [List.getD_eq_getElem?_getD, List.getElem?_append_left hk]
  have gc : ∀ k, a.length = k → (a ++ c).length = k ∨ ((a ++ c).getD k 0).toNat / 64 ≠ 2 := fun k hk => by
    rcases hc with rfl | hc
    · left; simp [hk]
    · right
      have : (a ++ c).getD k 0 = c.getD 0 0 := by simp [List.getD_eq_getElem?_getD, List.getElem?_append_right (show a.length ≤ k by omega), hk]
      rw [this]; omega
  rw [g 0 (by omega)]
  exact dn_pre _ _ _ _ _ _ _ _ _ hl (by simp) (fun h => by rw [g 1 h]) (fun h => by rw [g 2 h]) (fun h => by rw [g 3 h]) (gc 1) (gc 2) (gc 3)
/-- One character, and a low one. -/
theorem dl_x {x : Nat} (hx : x < 128) (l : Bs) (hl : l ≠ []) : 1 ≤ (Lib.decodeL l).2 ∧ (Lib.decodeL l).2 ≤ l.length ∧ ((Lib.decodeL l).1 = x → (Lib.decodeL l).2 = 1 ∧ (l.getD 0 0).toNat = x) ∧
    ((Lib.decodeL l).1 ≠ x → ∀ b ∈ l.take (Lib.decodeL l).2, b.toNat ≠ x) := by
  cases l with
  | nil => exact absurd rfl hl
  | cons b r =>
    rcases Nat.lt_or_ge b.toNat 128 with h | h
    · rw [dl_lo b r h]
      refine ⟨Nat.le_refl _, by simp, fun e => ⟨rfl, by simpa using e⟩, fun e y hy => ?_⟩
      simp at hy; subst hy; exact e
    · obtain ⟨h1, h2, h3, h4⟩ := dl_hi b r h
      exact ⟨h2, h3, fun e => by omega, fun _ y hy => by have := h4 y hy; omega⟩
end Go.Proofs.Ytpkmihelefkphaa.Vx
