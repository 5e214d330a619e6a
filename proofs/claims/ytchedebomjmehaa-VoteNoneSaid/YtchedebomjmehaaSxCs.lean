import Derived.Test.YtchedebomjmehaaSxRun
namespace Go.Proofs.Ytchedebomjmehaa.Sx
open Go.RowKit
set_option linter.unusedVariables false
section
variable {P : Program}
theorem Alls.cons {p : Prop} {l : List Prop} (h : p) (k : Alls l) : Alls (p :: l) := ⟨h, k⟩
theorem Alls.nil : Alls [] := trivial
def csNone : FuncId → Option CSpec := fun _ => none
def csAdd (f : FuncId) (spec : CSpec) (cs : FuncId → Option CSpec) : FuncId → Option CSpec := fun g => match Nat.beq g f with
  | true => some spec
  | false => cs g
def SpecOk (P : Program) (f : FuncId) (spec : CSpec) : Prop := ∀ (args : Array Value) (s : World) (v : Value) (ps : List Prop),
  spec args s = some (v, ps) → Alls ps → ∀ (r : RR) (n0 : Nat) (wr : Nat → Bool) (w0 w : World) (args' : Array Value), Rel r n0 wr w0 s w → AR r args args' →
    Calls P f args' w (fun e w1 => e = .returned v ∧ Below w.heap.size w w1)
theorem csNone_ok : CsOk P csNone := fun f spec h => by cases h
theorem csAdd_ok {f : FuncId} {spec : CSpec} {cs : FuncId → Option CSpec} (k : SpecOk P f spec) (h : CsOk P cs) : CsOk P (csAdd f spec cs) := by
  intro g sp hg
  unfold csAdd at hg
  split at hg
  · rename_i he
    cases hg
    rw [Nat.eq_of_beq_eq_true he]
    exact k
  · exact h g sp hg
/-- A contract of plain arguments, by a function on these. -/
def plainSpec (F : List Value → Option Value) : CSpec := fun args _ => match F args.toList with
  | some v => some (v, [])
  | none => none
theorem AR.same {r : RR} {a a' : Array Value} (h : AR r a a') (hp : pfA a = true) : a' = a := by
  apply Array.ext h.size.symm
  intro i hi hi'
  exact (h.at_ i a[i] a'[i] (Array.getElem?_eq_some_iff.2 ⟨hi', rfl⟩) (Array.getElem?_eq_some_iff.2 ⟨hi, rfl⟩)).same (pfA_at hp i _ (Array.getElem?_eq_some_iff.2 ⟨hi', rfl⟩))
theorem plainSpec_ok {f : FuncId} {F : List Value → Option Value} (h : ∀ (l : List Value) (v : Value), F l = some v → pfL l = true ∧ ∀ w, Calls P f l.toArray w (fun e w1 => e = .returned v ∧ Below w.heap.size w w1)) : SpecOk P f (plainSpec F) := by
  intro args s v ps hs hp r n0 wr w0 w args' hr ha
  unfold plainSpec at hs
  cases hF : F args.toList with
  | none => simp [hF] at hs
  | some v1 =>
    simp only [hF, Option.some.injEq, Prod.mk.injEq] at hs
    obtain ⟨rfl, rfl⟩ := hs
    obtain ⟨h1, h2⟩ := h _ _ hF
    have h3 := h2 w
    have : pfA args = true := by cases args with | mk l => exact h1
    rw [ha.same this]
    simpa using h3
end
end Go.Proofs.Ytchedebomjmehaa.Sx
