import Derived.Test.YtfkcodaiiheniaaVxAid
import Derived.Test.YtfkcodaiiheniaaVxLend
import Derived.IntWalk
namespace Go.Proofs.Ytfkcodaiiheniaa.Vx
open Go Go.RowKit
set_option linter.unusedVariables false
section
variable {k : IntKind}
end
theorem iter_go {st : List Dat → Tree Step} {n : Nat} {env env' : List Dat} (h : (st env).sel = some (.go env')) : iterS st (n + 1) env = iterS st n env' := by
 simp only [iterS, h]
theorem iter_stop {st : List Dat → Tree Step} {n k : Nat} {env d : List Dat} (h : (st env).sel = some (.stop k d)) : iterS st (n + 1) env = some (k, d) := by
 simp only [iterS, h]
theorem iter_count {st : List Dat → Tree Step} (s : Nat → List Dat) (m : Nat) (y : Nat × List Dat) (go : ∀ i, i < m → (st (s i)).sel = some (.go (s (i + 1)))) (stop : (st (s m)).sel = some (.stop y.1 y.2)) :
  ∀ fuel, m < fuel → iterS st fuel (s 0) = some y := by
 have key : ∀ d i, d + i = m → ∀ fuel, d < fuel → iterS st fuel (s i) = some y := by
  intro d
  induction d with
  | zero =>
   intro i hi fuel hf
   have : i = m := by omega
   subst this
   obtain ⟨f, rfl⟩ : ∃ f, fuel = f + 1 := ⟨fuel - 1, by omega⟩
   exact iter_stop stop
  | succ d ih =>
   intro i hi fuel hf
   obtain ⟨f, rfl⟩ : ∃ f, fuel = f + 1 := ⟨fuel - 1, by omega⟩
   rw [iter_go (go i (by omega))]
   exact ih (i + 1) (by omega) f (by omega)
 exact key m 0 rfl
theorem lt_FU {m : Nat} (h : m ≤ 9223372036854775807) : m < FU := by unfold FU; omega
def N {w : Nat} (x : BitVec w) : Int := (x.toNat : Int)
end Go.Proofs.Ytfkcodaiiheniaa.Vx
