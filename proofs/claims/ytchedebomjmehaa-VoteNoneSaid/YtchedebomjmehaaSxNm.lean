import Derived.Test.YtchedebomjmehaaSxQuiet
namespace Go.Proofs.Ytchedebomjmehaa.Sx
open Go.RowKit
set_option linter.unusedVariables false

section
variable {P : Program}
/-- A tree that gives what it gives whatever the world. -/
def Nm {α : Type} (P : Program) (m : Sem α) : Prop := ∀ (w : World) (b : α) (w1 : World), m.run P w = .ok b w1 → pv P m = some b
theorem nm_pure {α : Type} (a : α) : Nm P (Pure.pure a : Sem α) := fun w b w1 h => by cases h; rfl
theorem nm_halt {α : Type} (h : Halt) : Nm P (Sem.halt h : Sem α) := fun w b w1 h => by simp [Sem.run] at h
theorem nm_stuck {α : Type} {h : String} : Nm P (Go.stuck h : Sem α) := nm_halt _
theorem nm_unsupported {α : Type} {h : Unsupported} : Nm P (Go.unsupported h : Sem α) := nm_halt _
theorem Nm.bind {α β : Type} {m : Sem α} {f : α → Sem β} (h : Nm P m) (k : ∀ a, Nm P (f a)) : Nm P (m >>= f) := by
  intro w b w1 he
  rw [Sem.run_bind] at he
  cases hm : m.run P w with
  | halt h0 w2 => simp [hm] at he
  | ok a w2 =>
    simp only [hm, Result.andThen_ok] at he
    rw [pv_bind, h w a w2 hm]
    exact k a w2 b w1 he
theorem nm_program : Nm P program := fun w b w1 he => by simp only [Go.program, Sem.run] at he; cases he; rfl
theorem nm_panic {α : Type} {x y : Int} {sg : Bool} {c : BoundsCode} (w : World) (b : α) (w1 : World) : (Go.runtimePanic (α := α) (.bounds x y sg c)).run P w ≠ .ok b w1 := by
  intro h
  simp only [Go.runtimePanic, Sem.run_bind, Go.program, Sem.run, Result.andThen_ok, goPanic] at h
  cases h
theorem nm_boundsPanic {α : Type} {k : IntKind} {x y : Int} {c : BoundsCode} : Nm P (boundsPanic (α := α) k x y c) := by
  intro w b w1 he
  exfalso
  unfold Go.boundsPanic at he
  split at he
  · rw [Sem.run_bind] at he
    generalize hm : Sem.run P ((fun x => x == 1) <$> choose (Question.extern "runtime.boundsError.signed" 2)) w = res at he
    cases res with
    | ok a w2 => simp only [Result.andThen_ok] at he; exact nm_panic _ _ _ he
    | halt h0 w2 => simp at he
  · rw [Sem.run_bind] at he
    simp only [Sem.run_pure, Result.andThen_ok] at he
    exact nm_panic _ _ _ he
theorem nm_typeInfo {t : TypeId} : Nm P (typeInfo t) := by
  unfold Go.typeInfo
  refine nm_program.bind fun p => ?_
  split
  · exact nm_pure _
  · exact nm_stuck
theorem nm_underlying {t : TypeId} : Nm P (underlying t) := by
  unfold Go.underlying
  refine nm_program.bind fun p => ?_
  split
  · exact nm_pure _
  · exact nm_stuck
theorem nm_sizeOf {t : TypeId} : Nm P (sizeOf t) := nm_typeInfo.bind fun _ => nm_pure _
theorem nm_isAgg {t : TypeId} : Nm P (isAgg t) := by
  unfold Go.isAgg
  refine nm_underlying.bind fun d => ?_
  split <;> exact nm_pure _
theorem nm_zeroValue {t : TypeId} : Nm P (zeroValue t) := by
  unfold Go.zeroValue
  refine nm_typeInfo.bind fun i => ?_
  split
  · exact nm_pure _
  · exact nm_unsupported
theorem nm_nilPanic {α : Type} : Nm P (Go.runtimePanic (α := α) .nilDeref) := by
  unfold Go.runtimePanic
  exact nm_program.bind fun p => nm_halt _
theorem nm_asIntOf {v : Value} : Nm P (asIntOf v) := by
  unfold Go.asIntOf; split
  · exact nm_pure _
  · exact nm_unsupported
  · exact nm_stuck
theorem nm_asBool {v : Value} : Nm P (asBool v) := by unfold Go.asBool; split <;> first | exact nm_pure _ | exact nm_stuck
theorem nm_asAgg {v : Value} : Nm P (asAgg v) := by unfold Go.asAgg; split <;> first | exact nm_pure _ | exact nm_stuck
theorem nm_asAddr {v : Value} : Nm P (asAddr v) := by unfold Go.asAddr; split <;> first | exact nm_pure _ | exact nm_stuck | exact nm_nilPanic
theorem nm_sureAddr {v : Value} : Nm P (Instr.sureAddr v) := by unfold Instr.sureAddr; split <;> first | exact nm_pure _ | exact nm_stuck
theorem nm_part {t : TypeId} {c : Array Value} {off : Nat} : Nm P (part t c off) := by
  unfold Go.part
  refine nm_isAgg.bind fun b => ?_
  split
  · exact nm_sizeOf.bind fun n => nm_pure _
  · split <;> first | exact nm_pure _ | exact nm_stuck
theorem nm_field {t : TypeId} {v : Value} {f : Nat} : Nm P (Instr.field t v f) := by
  unfold Instr.field
  refine nm_underlying.bind fun d => ?_
  split
  · split
    · exact nm_asAgg.bind fun c => nm_part
    · exact nm_stuck
  · exact nm_stuck
theorem nm_fieldAt {t : TypeId} {v : Value} {f : Nat} (hok : fieldOk P t f = true) : Nm P (Instr.fieldAt t v f) := by
  intro w b w1 he
  unfold Instr.fieldAt at he ⊢
  simp only [Go.underlying, Sem.run_bind, Go.program, Sem.run, Result.andThen_ok] at he
  rw [pv_bind, show pv P (Go.underlying t) = P.underlying t from by
    show pv P (Sem.bind (Sem.program Sem.pure) _) = _
    simp only [Sem.bind, pv]
    cases P.underlying t <;> rfl]
  cases hu : P.underlying t with
  | none => simp [hu, Go.stuck] at he
  | some d =>
    simp only [hu, Sem.run_pure, Result.andThen_ok, Option.bind_some] at he ⊢
    simp only [fieldOk, hu] at hok
    cases d with
    | struct fields =>
      simp only at hok he ⊢
      cases hx : fields[f]? with
      | none => simp [hx, Go.stuck] at he
      | some x =>
        simp only [hx] at hok he ⊢
        have hp : ∀ a, Nm P (fieldPlace a x) := by
          intro a w b w1 he
          unfold fieldPlace at he ⊢
          have hs : ∀ i, P.info? x.type = some i → i.size ≠ 0 := fun i hi h0 => by simp only [hi] at hok; rw [h0] at hok; simp at hok
          simp only [Go.sizeOf, Go.typeInfo, Sem.run_bind, Go.program, Sem.run, Result.andThen_ok] at he
          cases hi : P.info? x.type with
          | none => simp [hi, Go.stuck] at he
          | some i =>
            simp only [hi, Sem.run_pure, Result.andThen_ok, if_neg (hs i hi)] at he
            rw [pv_bind]
            have : pv P (Go.sizeOf x.type) = some i.size := by
              simp only [Go.sizeOf, Go.typeInfo, pv_bind, Go.program, pv, Option.bind_some, hi]
              rfl
            rw [this]
            simp only [Option.bind_some, if_neg (hs i hi)]
            cases he; rfl
        exact (nm_sureAddr.bind fun a => (hp a).bind fun _ => nm_pure _) w b w1 he
    | _ => simp [Go.stuck] at he
theorem nm_indexAt {t : TypeId} {v x : Value} : Nm P (Instr.indexAt t v x) := by
  unfold Instr.indexAt
  refine nm_asIntOf.bind fun k => ?_
  obtain ⟨k, i⟩ := k
  simp only
  have tail : ∀ (b : Option Addr) (len : Nat) (el : TypeId), Nm P (do
      let tiny := len ≤ 1 && (match ← Go.underlying t with | .array .. => true | _ => false)
      match b with
      | some a =>
        if 0 ≤ i ∧ i < (len : Int) then pure (Value.pointer (some (a.add (i.toNat * (← Go.sizeOf el)))))
        else if tiny then Go.unsupported (.noEntry "op/indexAddr.an index out of range at an array of length 0 or 1 (ledger 616)")
        else Go.boundsPanic k i len .index
      | none => Go.boundsPanic k i 0 .index : Sem Value) := by
    intro b len el
    refine nm_underlying.bind fun d => ?_
    simp only
    split
    · split
      · exact nm_sizeOf.bind fun n => nm_pure _
      · repeat' (first | exact nm_unsupported | exact nm_boundsPanic | split)
    · exact nm_boundsPanic
  refine nm_underlying.bind fun d => ?_
  split
  · exact nm_sureAddr.bind fun a => (nm_pure _).bind fun p => tail _ _ _
  · exact (nm_pure _).bind fun p => tail _ _ _
  · exact nm_stuck
theorem nm_extract {v : Value} {i : Nat} : Nm P (Instr.extract v i) := by
  unfold Instr.extract
  split
  · split
    · exact nm_pure _
    · exact nm_stuck
  · exact nm_stuck
theorem nm_makeInterface {t : TypeId} {v : Value} : Nm P (Instr.makeInterface t v) := by
  unfold Instr.makeInterface
  refine nm_underlying.bind fun d => ?_
  split
  · exact nm_stuck
  · exact nm_pure _
theorem nm_mapM {α β : Type} {f : α → Sem β} (h : ∀ a, Nm P (f a)) (l : Array α) : Nm P (l.mapM f) := by
  rw [Array.mapM_eq_mapM_toList, map_eq_pure_bind]
  have hl : ∀ l : List α, Nm P (l.mapM f) := by
    intro l
    induction l with
    | nil => simp only [List.mapM_nil]; exact nm_pure _
    | cons a l ih => simp only [List.mapM_cons]; exact (h a).bind fun b => ih.bind fun c => nm_pure _
  exact (hl _).bind fun _ => nm_pure _
theorem nm_build {t : TypeId} {ps : Array (Nat × Value)} : Nm P (Instr.build t ps) := by
  unfold Instr.build
  refine nm_zeroValue.bind fun z => nm_underlying.bind fun d => ?_
  split
  · refine (nm_mapM (fun f => nm_sizeOf.bind fun _ => nm_pure _) _).bind fun pl => ?_
    split
    · exact nm_pure _
    · exact nm_stuck
  · refine nm_sizeOf.bind fun n => ?_
    split
    · exact nm_pure _
    · exact nm_stuck
  · exact nm_stuck
theorem nm_sliceBound {v : Value} {y : Nat} {c : BoundsCode} : Nm P (Instr.sliceBound v y c) := by
  unfold Instr.sliceBound
  refine nm_asIntOf.bind fun k => ?_
  obtain ⟨k, i⟩ := k
  simp only
  by_cases h : 0 ≤ i ∧ i ≤ (y : Int)
  · rw [if_pos h]; exact nm_pure _
  · rw [if_neg h]; exact nm_boundsPanic
theorem nm_sliceBounds {b : Bool} {len cap : Nat} {lo hi mx : Option Value} : Nm P (Instr.sliceBounds b len cap lo hi mx) := by
  unfold Instr.sliceBounds
  have last : ∀ (h m : Nat), Nm P (do
      let l ← match lo with
        | some v => Instr.sliceBound v h (if mx.isSome then .slice3C else .sliceB)
        | none => pure 0
      pure (l, h, m)) := by
    intro h m
    cases lo with
    | none => simp only; exact (nm_pure _).bind fun l => nm_pure _
    | some v => simp only; exact nm_sliceBound.bind fun l => nm_pure _
  have mid : ∀ (m : Nat), Nm P (do
      let h ← match hi, mx with
        | some v, some _ => Instr.sliceBound v m .slice3B
        | some v, none => Instr.sliceBound v m (if b then .sliceAcap else .sliceAlen)
        | none, none => pure len
        | none, some _ => Go.stuck "Slice: max without high"
      let l ← match lo with
        | some v => Instr.sliceBound v h (if mx.isSome then .slice3C else .sliceB)
        | none => pure 0
      pure (l, h, m)) := by
    intro m
    cases hi with
    | none => cases mx with
      | none => simp only; exact (nm_pure _).bind fun h => last h m
      | some u => simp only; exact nm_stuck.bind fun h => last h m
    | some v => cases mx with
      | none => simp only; exact nm_sliceBound.bind fun h => last h m
      | some u => simp only; exact nm_sliceBound.bind fun h => last h m
  cases mx with
  | none => simp only at mid ⊢; exact (nm_pure _).bind fun m => mid m
  | some u => simp only at mid ⊢; exact nm_sliceBound.bind fun m => mid m
theorem nm_slice {t : TypeId} {v : Value} {lo hi mx : Option Value} : Nm P (Instr.slice t v lo hi mx) := by
  unfold Instr.slice
  refine nm_underlying.bind fun d => ?_
  split
  · split
    · exact nm_stuck.bind fun _ => nm_sliceBounds.bind fun x => nm_pure _
    · exact nm_sliceBounds.bind fun x => nm_pure _
  · exact nm_sliceBounds.bind fun x => nm_sizeOf.bind fun n => nm_pure _
  · refine nm_asAddr.bind fun a => nm_underlying.bind fun d => ?_
    split
    · exact nm_sliceBounds.bind fun x => nm_sizeOf.bind fun n => nm_pure _
    · exact nm_stuck
  · exact nm_stuck
theorem nm_sliceAt {t : TypeId} {v : Value} {lo hi mx : Option Value} : Nm P (Instr.sliceAt t v lo hi mx) := by
  unfold Instr.sliceAt
  refine nm_underlying.bind fun d => ?_
  split
  · exact nm_sureAddr.bind fun a => nm_sliceBounds.bind fun x => nm_sizeOf.bind fun n => nm_pure _
  · exact nm_slice

theorem nm_len {ts : Array TypeId} {t : TypeId} {a : Array Value} (h : ∀ b, a[0]? ≠ some (.map (some b))) (h2 : ∀ b, a[0]? ≠ some (.chan (some b))) : Nm P (Builtin.len_ ts t a) := by
  unfold Builtin.len_
  cases ht : ts[0]? with
  | none => exact nm_stuck
  | some t0 =>
    cases hx : a[0]? with
    | none => exact nm_stuck
    | some v =>
      simp only
      refine nm_underlying.bind fun d => ?_
      cases v with
      | map b => cases b with
        | some b => exact absurd hx (h b)
        | none => cases d <;> first | exact nm_pure _ | exact nm_stuck | (refine nm_underlying.bind fun d => ?_; split <;> first | exact nm_pure _ | exact nm_stuck)
      | chan b => cases b with
        | some b => exact absurd hx (h2 b)
        | none => cases d <;> first | exact nm_pure _ | exact nm_stuck | (refine nm_underlying.bind fun d => ?_; split <;> first | exact nm_pure _ | exact nm_stuck)
      | _ => cases d <;> first | exact nm_pure _ | exact nm_stuck | (refine nm_underlying.bind fun d => ?_; split <;> first | exact nm_pure _ | exact nm_stuck)
end
end Go.Proofs.Ytchedebomjmehaa.Sx
