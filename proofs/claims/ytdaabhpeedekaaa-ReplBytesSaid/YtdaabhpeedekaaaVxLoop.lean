import Derived.Test.YtdaabhpeedekaaaVxBits
namespace Go.Proofs.Ytdaabhpeedekaaa.Vx
open Go Go.RowKit
set_option linter.unusedVariables false
def firstHit (hit : Nat → Bool) : Nat → Option Nat
  | 0 => none
  | m + 1 => match firstHit hit m with
    | some i => some i
    | none => match hit m with
      | true => some m
      | false => none
theorem firstHit_none {hit : Nat → Bool} : ∀ {m : Nat}, firstHit hit m = none → ∀ i, i < m → hit i = false
  | 0, _, i, hi => by omega
  | m + 1, h, i, hi => by
    unfold firstHit at h
    split at h
    · cases h
    · rename_i h0
      split at h
      · cases h
      · rename_i h1
        rcases Nat.lt_or_ge i m with q | q
        · exact firstHit_none h0 i q
        · have : i = m := by omega
          subst this; exact h1
theorem firstHit_some {hit : Nat → Bool} : ∀ {m k : Nat}, firstHit hit m = some k → k < m ∧ hit k = true ∧ ∀ i, i < k → hit i = false
  | 0, k, h => by cases h
  | m + 1, k, h => by
    unfold firstHit at h
    split at h
    · rename_i i h0
      cases h
      obtain ⟨h1, h2, h3⟩ := firstHit_some h0
      exact ⟨by omega, h2, h3⟩
    · rename_i h0
      split at h
      · rename_i h1
        cases h
        exact ⟨by omega, h1, firstHit_none h0⟩
      · cases h
theorem firstHit_congr {hit hit' : Nat → Bool} : ∀ {m : Nat}, (∀ i, i < m → hit i = hit' i) → firstHit hit m = firstHit hit' m
  | 0, _ => rfl
  | m + 1, h => by
    unfold firstHit
    rw [firstHit_congr fun i hi => h i (by omega), h m (by omega)]
/-- A loop that looks for something. -/
theorem iter_find {st : List Dat → Tree Step} (s : Nat → List Dat) (m : Nat) (hit : Nat → Bool) (y : Nat → Nat × List Dat) (y0 : Nat × List Dat)
    (go : ∀ i, i < m → hit i = false → (st (s i)).sel = some (.go (s (i + 1)))) (found : ∀ i, i < m → hit i = true → (st (s i)).sel = some (.stop (y i).1 (y i).2)) (stop : (st (s m)).sel = some (.stop y0.1 y0.2)) :
    ∀ fuel, m < fuel → iterS st fuel (s 0) = some (match firstHit hit m with | some k => y k | none => y0) := by
  have key : ∀ d i fuel, d + i ≤ m → d < fuel → (∀ j, i ≤ j → j < i + d → hit j = false) → iterS st fuel (s i) = iterS st (fuel - d) (s (i + d)) := by
    intro d
    induction d with
    | zero => intro i fuel _ _ _; rfl
    | succ d ih =>
      intro i fuel hi hf hh
      obtain ⟨f, rfl⟩ : ∃ f, fuel = f + 1 := ⟨fuel - 1, by omega⟩
      rw [iter_go (go i (by omega) (hh i (Nat.le_refl _) (by omega))), ih (i + 1) f (by omega) (by omega) (fun j h1 h2 => hh j (by omega) (by omega))]
      rw [show f + 1 - (d + 1) = f - d by omega, show i + 1 + d = i + (d + 1) by omega]
  intro fuel hf
  cases hq : firstHit hit m with
  | some k =>
    obtain ⟨h1, h2, h3⟩ := firstHit_some hq
    have := key k 0 fuel (by omega) (by omega) (fun j _ hj => h3 j (by omega))
    rw [this, Nat.zero_add]
    obtain ⟨f, hf'⟩ : ∃ f, fuel - k = f + 1 := ⟨fuel - k - 1, by omega⟩
    rw [hf']
    exact iter_stop (found k h1 h2)
  | none =>
    have := key m 0 fuel (by omega) (by omega) (fun j _ hj => firstHit_none hq j (by omega))
    rw [this, Nat.zero_add]
    obtain ⟨f, hf'⟩ : ∃ f, fuel - m = f + 1 := ⟨fuel - m - 1, by omega⟩
    rw [hf']
    exact iter_stop stop
/-- From a tree's tests to its answer. -/
theorem selB {α : Type} {c : Bool} {t e : Tree α} : (Tree.node c t e).sel = bif c then t.sel else e.sel := rfl
end Go.Proofs.Ytdaabhpeedekaaa.Vx
