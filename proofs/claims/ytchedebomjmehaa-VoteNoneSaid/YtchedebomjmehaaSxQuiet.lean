import Derived.Test.YtchedebomjmehaaSxEval
import Derived.Deep.Quiet
namespace Go.Proofs.Ytchedebomjmehaa.Sx
open Go.RowKit
set_option linter.unusedVariables false

section
variable {P : Program}
/-- A tree that leaves the world alone where it comes to an end. -/
structure Qt {α : Type} (P : Program) (m : Sem α) : Prop where
  e : ∀ (wr : Nat → Bool) (s : World) (a : α) (s1 : World), ev P wr m s = some (a, s1) → s1 = s
  r : ∀ (w : World) (b : α) (w1 : World), m.run P w = .ok b w1 → w1 = w
theorem qt_pure {α : Type} (a : α) : Qt P (Pure.pure a : Sem α) := ⟨fun wr s x s1 h => by cases h; rfl, fun w b w1 h => by cases h; rfl⟩
theorem qt_halt {α : Type} (h : Halt) : Qt P (Sem.halt h : Sem α) := ⟨fun wr s x s1 h => by simp [ev] at h, fun w b w1 h => by simp [Sem.run] at h⟩
theorem qt_stuck {α : Type} {h : String} : Qt P (Go.stuck h : Sem α) := qt_halt _
theorem qt_unsupported {α : Type} {h : Unsupported} : Qt P (Go.unsupported h : Sem α) := qt_halt _
theorem Qt.bind {α β : Type} {m : Sem α} {f : α → Sem β} (h : Qt P m) (k : ∀ a, Qt P (f a)) : Qt P (m >>= f) := by
  refine ⟨fun wr s x s1 he => ?_, fun w b w1 he => ?_⟩
  · rw [ev_bind] at he
    cases hm : ev P wr m s with
    | none => simp [hm] at he
    | some y =>
      obtain ⟨a, s2⟩ := y
      simp only [hm, Option.bind_some] at he
      have := h.e wr s a s2 hm; subst this
      exact (k a).e wr _ x s1 he
  · rw [Sem.run_bind] at he
    cases hm : m.run P w with
    | halt h0 w2 => simp [hm] at he
    | ok a w2 =>
      simp only [hm, Result.andThen_ok] at he
      have := h.r w a w2 hm; subst this
      exact (k a).r _ b w1 he
theorem qt_load {a : Addr} : Qt P (load a) := by
  refine ⟨fun wr s x s1 he => ?_, fun w b w1 he => ?_⟩
  · simp only [Go.load, ev] at he; split at he
    · cases he; rfl
    · cases he
  · simp only [Go.load, Sem.run] at he; split at he
    · cases he; rfl
    · split at he <;> cases he; rfl
theorem qt_program : Qt P program := ⟨fun wr s x s1 he => by simp only [Go.program, ev] at he; cases he; rfl, fun w b w1 he => by simp only [Go.program, Sem.run] at he; cases he; rfl⟩
theorem qt_typeInfo {t : TypeId} : Qt P (typeInfo t) := by
  unfold Go.typeInfo
  refine qt_program.bind fun p => ?_
  split
  · exact qt_pure _
  · exact qt_stuck
theorem qt_underlying {t : TypeId} : Qt P (underlying t) := by
  unfold Go.underlying
  refine qt_program.bind fun p => ?_
  split
  · exact qt_pure _
  · exact qt_stuck
theorem qt_sizeOf {t : TypeId} : Qt P (sizeOf t) := qt_typeInfo.bind fun _ => qt_pure _
theorem qt_isAgg {t : TypeId} : Qt P (isAgg t) := by
  unfold Go.isAgg
  refine qt_underlying.bind fun d => ?_
  split <;> exact qt_pure _
theorem qt_zeroValue {t : TypeId} : Qt P (zeroValue t) := by
  unfold Go.zeroValue
  refine qt_typeInfo.bind fun i => ?_
  split
  · exact qt_pure _
  · exact qt_unsupported
theorem qt_loadCellsFrom {a : Addr} : ∀ (n i : Nat) (acc : Array Value), Qt P (loadCellsFrom a i n acc)
  | 0, i, acc => by unfold Go.loadCellsFrom; exact qt_pure _
  | n + 1, i, acc => by unfold Go.loadCellsFrom; exact qt_load.bind fun v => qt_loadCellsFrom n (i + 1) _
theorem qt_loadVar {t : TypeId} {a : Addr} : Qt P (loadVar t a) := by
  unfold Go.loadVar
  refine qt_isAgg.bind fun b => ?_
  split
  · exact qt_sizeOf.bind fun n => (qt_loadCellsFrom n 0 #[]).bind fun c => qt_pure _
  · exact qt_load
theorem qt_runtimePanic {α : Type} {x y : Int} {sg : Bool} {c : BoundsCode} : Qt P (runtimePanic (α := α) (.bounds x y sg c)) := by
  unfold Go.runtimePanic
  exact qt_program.bind fun p => qt_halt _
theorem qt_boundsPanic {α : Type} {k : IntKind} {x y : Int} {c : BoundsCode} : Qt P (boundsPanic (α := α) k x y c) := by
  refine ⟨fun wr s a s1 he => ?_, fun w b w1 he => ?_⟩
  · rw [ev_boundsPanic] at he; cases he
  exfalso
  have pan : ∀ (sg : Bool) (w : World) (b : α) (w1 : World), (Go.runtimePanic (α := α) (.bounds (IntKind.i64.wrap x) y sg c)).run P w ≠ .ok b w1 := by
    intro sg w b w1 h
    simp only [Go.runtimePanic, Sem.run_bind, Go.program, Sem.run, Result.andThen_ok, goPanic] at h
    cases h
  unfold Go.boundsPanic at he
  split at he
  · rw [Sem.run_bind] at he
    generalize hm : Sem.run P ((fun x => x == 1) <$> choose (Question.extern "runtime.boundsError.signed" 2)) w = res at he
    cases res with
    | ok a w2 => simp only [Result.andThen_ok] at he; exact pan _ _ _ _ he
    | halt h0 w2 => simp at he
  · rw [Sem.run_bind] at he
    simp only [Sem.run_pure, Result.andThen_ok] at he
    exact pan _ _ _ _ he
theorem qt_nilPanic {α : Type} : Qt P (Go.runtimePanic (α := α) .nilDeref) := by
  unfold Go.runtimePanic
  exact qt_program.bind fun p => qt_halt _
theorem qt_asIntOf {v : Value} : Qt P (asIntOf v) := by
  unfold Go.asIntOf; split
  · exact qt_pure _
  · exact qt_unsupported
  · exact qt_stuck
theorem qt_asBool {v : Value} : Qt P (asBool v) := by unfold Go.asBool; split <;> first | exact qt_pure _ | exact qt_stuck
theorem qt_asAgg {v : Value} : Qt P (asAgg v) := by unfold Go.asAgg; split <;> first | exact qt_pure _ | exact qt_stuck
theorem qt_asAddr {v : Value} : Qt P (asAddr v) := by unfold Go.asAddr; split <;> first | exact qt_pure _ | exact qt_stuck | exact qt_nilPanic
theorem qt_sureAddr {v : Value} : Qt P (Instr.sureAddr v) := by unfold Instr.sureAddr; split <;> first | exact qt_pure _ | exact qt_stuck
theorem qt_part {t : TypeId} {c : Array Value} {off : Nat} : Qt P (part t c off) := by
  unfold Go.part
  refine qt_isAgg.bind fun b => ?_
  split
  · exact qt_sizeOf.bind fun n => qt_pure _
  · split <;> first | exact qt_pure _ | exact qt_stuck
theorem qt_field {t : TypeId} {v : Value} {f : Nat} : Qt P (Instr.field t v f) := by
  unfold Instr.field
  refine qt_underlying.bind fun d => ?_
  split
  · split
    · exact qt_asAgg.bind fun c => qt_part
    · exact qt_stuck
  · exact qt_stuck
theorem qt_shape {b : Nat} : Qt P (shape b) := ⟨fun wr s x s1 he => by simp [Go.shape, ev] at he, fun w b w1 he => by simp only [Go.shape, Sem.run] at he; cases he; rfl⟩
theorem qt_fieldAt {t : TypeId} {v : Value} {f : Nat} (hok : fieldOk P t f = true) : Qt P (Instr.fieldAt t v f) := by
  unfold Instr.fieldAt
  have key : ∀ d, P.underlying t = some d → Qt P (do
      let .struct fields := d | stuck "fieldAddr: struct type expected"
      let some f := fields[f]? | stuck "fieldAddr: no such field"
      let a ← Instr.sureAddr v
      pure (Value.pointer (some (← fieldPlace a f))) : Sem Value) := by
    intro d hu
    simp only [fieldOk, hu] at hok
    split
    · rename_i fields
      simp only at hok
      split
      · rename_i x hx
        simp only [hx] at hok
        refine qt_sureAddr.bind fun a => ?_
        have hp : Qt P (fieldPlace a x) := by
          unfold fieldPlace
          have hs : ∀ i, P.info? x.type = some i → i.size ≠ 0 := fun i hi h0 => by simp only [hi] at hok; rw [h0] at hok; simp at hok
          refine ⟨fun wr s y s1 he => ?_, fun w b w1 he => ?_⟩
          · simp only [Go.sizeOf, Go.typeInfo, ev_bind, Go.program, ev, Option.bind_some] at he
            cases hi : P.info? x.type with
            | none => simp [hi, Go.stuck, ev] at he
            | some i =>
              simp only [hi] at he
              rw [show ev P wr (pure i : Sem TypeInfo) s = some (i, s) from rfl] at he
              simp only [Option.bind_some] at he
              rw [show ev P wr (pure i.size : Sem Nat) s = some (i.size, s) from rfl] at he
              simp only [Option.bind_some, if_neg (hs i hi)] at he
              cases he; rfl
          · simp only [Go.sizeOf, Go.typeInfo, Sem.run_bind, Go.program, Sem.run, Result.andThen_ok] at he
            cases hi : P.info? x.type with
            | none => simp [hi, Go.stuck] at he
            | some i =>
              simp only [hi, Sem.run_pure, Result.andThen_ok, if_neg (hs i hi)] at he
              cases he; rfl
        exact hp.bind fun _ => qt_pure _
      · exact qt_stuck
    · exact qt_stuck
  refine ⟨fun wr s y s1 he => ?_, fun w b w1 he => ?_⟩
  · rw [ev_bind] at he
    simp only [Go.underlying, ev_bind, Go.program, ev, Option.bind_some] at he
    cases hu : P.underlying t with
    | none => simp [hu, Go.stuck, ev] at he
    | some d =>
      simp only [hu] at he
      rw [show ev P wr (pure d : Sem TypeDesc) s = some (d, s) from rfl] at he
      exact (key d hu).e wr s y s1 he
  · rw [Sem.run_bind] at he
    simp only [Go.underlying, Sem.run_bind, Go.program, Sem.run, Result.andThen_ok] at he
    cases hu : P.underlying t with
    | none => simp [hu, Go.stuck] at he
    | some d =>
      simp only [hu, Sem.run_pure, Result.andThen_ok] at he
      exact (key d hu).r w b w1 he
theorem qt_indexAt {t : TypeId} {v x : Value} : Qt P (Instr.indexAt t v x) := by
  unfold Instr.indexAt
  refine qt_asIntOf.bind fun k => ?_
  obtain ⟨k, i⟩ := k
  simp only
  have tail : ∀ (b : Option Addr) (len : Nat) (el : TypeId), Qt P (do
      let tiny := len ≤ 1 && (match ← Go.underlying t with | .array .. => true | _ => false)
      match b with
      | some a =>
        if 0 ≤ i ∧ i < (len : Int) then pure (Value.pointer (some (a.add (i.toNat * (← Go.sizeOf el)))))
        else if tiny then Go.unsupported (.noEntry "op/indexAddr.an index out of range at an array of length 0 or 1 (ledger 616)")
        else Go.boundsPanic k i len .index
      | none => Go.boundsPanic k i 0 .index : Sem Value) := by
    intro b len el
    refine qt_underlying.bind fun d => ?_
    simp only
    split
    · split
      · exact qt_sizeOf.bind fun n => qt_pure _
      · repeat' (first | exact qt_unsupported | exact qt_boundsPanic | split)
    · exact qt_boundsPanic
  refine qt_underlying.bind fun d => ?_
  split
  · exact qt_sureAddr.bind fun a => (qt_pure _).bind fun p => tail _ _ _
  · exact (qt_pure _).bind fun p => tail _ _ _
  · exact qt_stuck
theorem qt_extract {v : Value} {i : Nat} : Qt P (Instr.extract v i) := by
  unfold Instr.extract
  split
  · split
    · exact qt_pure _
    · exact qt_stuck
  · exact qt_stuck
theorem qt_makeInterface {t : TypeId} {v : Value} : Qt P (Instr.makeInterface t v) := by
  unfold Instr.makeInterface
  refine qt_underlying.bind fun d => ?_
  split
  · exact qt_stuck
  · exact qt_pure _
theorem qt_mapM {α β : Type} {f : α → Sem β} (h : ∀ a, Qt P (f a)) (l : Array α) : Qt P (l.mapM f) := by
  rw [Array.mapM_eq_mapM_toList, map_eq_pure_bind]
  have hl : ∀ l : List α, Qt P (l.mapM f) := by
    intro l
    induction l with
    | nil => simp only [List.mapM_nil]; exact qt_pure _
    | cons a l ih => simp only [List.mapM_cons]; exact (h a).bind fun b => ih.bind fun c => qt_pure _
  exact (hl _).bind fun _ => qt_pure _
theorem qt_build {t : TypeId} {ps : Array (Nat × Value)} : Qt P (Instr.build t ps) := by
  unfold Instr.build
  refine qt_zeroValue.bind fun z => qt_underlying.bind fun d => ?_
  split
  · refine (qt_mapM (fun f => qt_sizeOf.bind fun _ => qt_pure _) _).bind fun pl => ?_
    split
    · exact qt_pure _
    · exact qt_stuck
  · refine qt_sizeOf.bind fun n => ?_
    split
    · exact qt_pure _
    · exact qt_stuck
  · exact qt_stuck
theorem qt_sliceBound {v : Value} {y : Nat} {c : BoundsCode} : Qt P (Instr.sliceBound v y c) := by
  unfold Instr.sliceBound
  refine qt_asIntOf.bind fun k => ?_
  obtain ⟨k, i⟩ := k
  simp only
  by_cases h : 0 ≤ i ∧ i ≤ (y : Int)
  · rw [if_pos h]; exact qt_pure _
  · rw [if_neg h]; exact qt_boundsPanic
theorem qt_sliceBounds {b : Bool} {len cap : Nat} {lo hi mx : Option Value} : Qt P (Instr.sliceBounds b len cap lo hi mx) := by
  unfold Instr.sliceBounds
  have last : ∀ (h m : Nat), Qt P (do
      let l ← match lo with
        | some v => Instr.sliceBound v h (if mx.isSome then .slice3C else .sliceB)
        | none => pure 0
      pure (l, h, m)) := by
    intro h m
    cases lo with
    | none => simp only; exact (qt_pure _).bind fun l => qt_pure _
    | some v => simp only; exact qt_sliceBound.bind fun l => qt_pure _
  have mid : ∀ (m : Nat), Qt P (do
      let h ← match hi, mx with
        | some v, some _ => Instr.sliceBound v m .slice3B
        | some v, none => Instr.sliceBound v m (if b then .sliceAcap else .sliceAlen)
        | none, none => pure len
        | none, some _ => Go.stuck "Slice: max without high"
      let l ← match lo with
        | some v => Instr.sliceBound v h (if mx.isSome then .slice3C else .sliceB)
        | none => pure 0
      pure (l, h, m)) := by
    intro m
    cases hi with
    | none => cases mx with
      | none => simp only; exact (qt_pure _).bind fun h => last h m
      | some u => simp only; exact qt_stuck.bind fun h => last h m
    | some v => cases mx with
      | none => simp only; exact qt_sliceBound.bind fun h => last h m
      | some u => simp only; exact qt_sliceBound.bind fun h => last h m
  cases mx with
  | none => simp only at mid ⊢; exact (qt_pure _).bind fun m => mid m
  | some u => simp only at mid ⊢; exact qt_sliceBound.bind fun m => mid m
theorem qt_slice {t : TypeId} {v : Value} {lo hi mx : Option Value} : Qt P (Instr.slice t v lo hi mx) := by
  unfold Instr.slice
  refine qt_underlying.bind fun d => ?_
  split
  · split
    · exact qt_stuck.bind fun _ => qt_sliceBounds.bind fun x => qt_pure _
    · exact qt_sliceBounds.bind fun x => qt_pure _
  · exact qt_sliceBounds.bind fun x => qt_sizeOf.bind fun n => qt_pure _
  · refine qt_asAddr.bind fun a => qt_underlying.bind fun d => ?_
    split
    · exact qt_sliceBounds.bind fun x => qt_sizeOf.bind fun n => qt_pure _
    · exact qt_stuck
  · exact qt_stuck
theorem qt_sliceAt {t : TypeId} {v : Value} {lo hi mx : Option Value} : Qt P (Instr.sliceAt t v lo hi mx) := by
  unfold Instr.sliceAt
  refine qt_underlying.bind fun d => ?_
  split
  · exact qt_sureAddr.bind fun a => qt_sliceBounds.bind fun x => qt_sizeOf.bind fun n => qt_pure _
  · exact qt_slice
theorem qt_getObj {b : Nat} : Qt P (getObj b) := by
  refine ⟨fun wr s x s1 he => by simp [Go.getObj, ev] at he, fun w b w1 he => ?_⟩
  simp only [Go.getObj, Sem.run] at he
  split at he <;> cases he
  rfl
theorem qt_len {ts : Array TypeId} {t : TypeId} {a : Array Value} : Qt P (Builtin.len_ ts t a) := by
  unfold Builtin.len_
  split
  · refine qt_underlying.bind fun d => ?_
    repeat' (first | exact qt_pure _ | exact qt_stuck | (refine qt_underlying.bind fun d => ?_) | (refine qt_getObj.bind fun o => ?_) | split)
  · exact qt_stuck

/-- Operations that leave the world alone. -/
def quietOp (P : Program) : Op → Bool
  | .move _ | .assign _ | .pick _ _ _ | .load _ _ | .slice _ _ _ _ _ | .field _ _ _ | .indexAddr _ _ _ | .extract _ _ | .makeInterface _ _ | .makeFunc _ _ _ => true
  | .build t _ => zeroPf P t
  | .fieldAddr t _ f => fieldOk P t f
  | .call ⟨.builtin .len, _, _⟩ => true
  | _ => false
theorem quiet_nat {o : Op} (h : quietOp P o = true) : natOp P o = true := by
  unfold quietOp at h
  unfold natOp
  split at h <;> first | rfl | exact h | cases h
theorem qt_op {ρ : Operand → Value} {o : Oper} (h : quietOp P o.op = true) : Qt P (execOp ρ o) := by
  obtain ⟨dst, op, ty, pos, aft, gd⟩ := o
  have h : quietOp P op = true := h
  cases op with
  | move x => exact qt_pure _
  | assign x => exact qt_pure _
  | pick c a b => exact qt_asBool.bind fun _ => qt_pure _
  | build e ps => exact qt_build.bind fun _ => qt_pure _
  | load e a => exact (qt_sureAddr.bind fun _ => qt_loadVar).bind fun _ => qt_pure _
  | makeInterface e x => exact qt_makeInterface.bind fun _ => qt_pure _
  | makeFunc fn first cap => exact (qt_pure _).bind fun _ => qt_pure _
  | slice e x lo hi mx => exact qt_sliceAt.bind fun _ => qt_pure _
  | fieldAddr e x f => exact (qt_fieldAt (by simpa [quietOp] using h)).bind fun _ => qt_pure _
  | field e x f => exact qt_field.bind fun _ => qt_pure _
  | indexAddr e x i => exact qt_indexAt.bind fun _ => qt_pure _
  | extract x i => exact qt_extract.bind fun _ => qt_pure _
  | call c =>
    obtain ⟨callee, args, tys⟩ := c
    cases callee with
    | builtin b =>
      cases b with
      | len =>
        show Qt P (do pure (Next.value (← Builtin.len_ tys ty (args.map ρ))))
        exact qt_len.bind fun _ => qt_pure _
      | _ => simp [quietOp] at h
    | value f => simp [quietOp] at h
    | invoke a b => simp [quietOp] at h
  | _ => simp [quietOp] at h

theorem VR.fn {r : RR} (hf : ∀ (i j n j' n' : Nat), r i j n → r i j' n' → j = j' ∧ n = n') {v a : Value} (h : VR r v a) : ∀ {b : Value}, VR r v b → a = b := by
  have ad : ∀ {x y z : Addr}, AdR r x y → AdR r x z → y = z := by
    intro x y z h1 h2
    cases h1 with | mk b j n o k1 =>
    generalize hx : (⟨b, o, none⟩ : Addr) = x at h2
    cases h2 with | mk b' j' n' o' k2 =>
    cases hx
    obtain ⟨rfl, rfl⟩ := hf _ _ _ _ _ k1 k2
    rfl
  have arr : ∀ {c a b : Array Value}, c.size = a.size → c.size = b.size → (∀ (i : Nat) (v v' : Value), c[i]? = some v → a[i]? = some v' → ∀ {u : Value}, VR r v u → v' = u) →
      (∀ (i : Nat) (v v' : Value), c[i]? = some v → b[i]? = some v' → VR r v v') → a = b := by
    intro c a b h1 h2 ih k
    apply Array.ext (by omega)
    intro i hi hi'
    have hc : i < c.size := by omega
    exact ih i c[i] a[i] (Array.getElem?_eq_some_iff.2 ⟨hc, rfl⟩) (Array.getElem?_eq_some_iff.2 ⟨hi, rfl⟩)
      (k i c[i] b[i] (Array.getElem?_eq_some_iff.2 ⟨hc, rfl⟩) (Array.getElem?_eq_some_iff.2 ⟨hi', rfl⟩))
  induction h with
  | ptr x y k => intro b hb; cases hb with | ptr _ z k2 => rw [ad k k2]
  | slice x y l c k => intro b hb; cases hb with | slice _ z _ _ k2 => rw [ad k k2]
  | map x y k => intro b hb; cases hb with | map _ z k2 => rw [(hf _ _ _ _ _ k k2).1]
  | func fn fs fs' cs cs' h1 h2 h3 h4 i2 i4 => intro b hb; cases hb with | func _ _ gs _ ds k1 k2 k3 k4 => rw [arr h1 k1 i2 k2, arr h3 k3 i4 k4]
  | iface t v v' k ih => intro b hb; cases hb with | iface _ _ u k2 => rw [ih k2]
  | agg cs cs' h1 h2 ih => intro b hb; cases hb with | agg _ ds k1 k2 => rw [arr h1 k1 ih k2]
  | tuple cs cs' h1 h2 ih => intro b hb; cases hb with | tuple _ ds k1 k2 => rw [arr h1 k1 ih k2]
  | _ => intro b hb; cases hb; rfl

/-- One operation that leaves the world alone; a call stands for itself. -/
def evOpQ (P : Program) (o : Oper) (t : Array Value) (s : World) : Option NX :=
  match o.op.operands.all okOperand with
  | false => none
  | true => match callOf P (evT t) o.op with
    | some (f, args) => some (.enter f args)
    | none => match nilOf P (evT t) o.op with
      | some v => some (.value v)
      | none => match quietOp P o.op with
        | true => match ev P (wrNew s.heap.size) (execOp (evT t) o) s with
          | some (.value v, _) => some (.value v)
          | _ => none
        | false => match pureOp o.op && o.op.operands.all fun x => pf (evT t x) with
          | true => match pvOp P (evT t) o with
            | some v => match pf v with
              | true => some (.value v)
              | false => none
            | none => none
          | false => none
theorem evOpQ_sound {r : RR} {t t' : Array Value} {o : Oper} {n0 : Nat} {wr : Nat → Bool} {w0 s w : World} {x : NX} (he : evOpQ P o t s = some x) (hr : Rel r n0 wr w0 s w) (ht : AR r t t') :
    ∃ (y : Next), (execOp (evT t') o).run P w = .ok y w ∧ NR r x y := by
  unfold evOpQ at he
  split at he
  · cases he
  · rename_i hall
    have hok : ∀ x, x ∈ o.op.operands → okOperand x = true := fun x hx => by
      rw [Array.all_eq_true'] at hall; exact hall x hx
    split at he
    · rename_i f args hc
      cases he
      obtain ⟨args', hc', ha⟩ := callOf_args hc fun y hy => evT_rel ht (hok y hy)
      exact ⟨_, callOf_run hc' w, .enter _ _ _ ha⟩
    · split at he
      · rename_i v hv
        cases he
        obtain ⟨v', h1, h2⟩ := nilOf_sound (r := r) (ρ' := evT t') hv fun y hy => evT_rel ht (hok y hy)
        exact ⟨.value v', h2 w, .value _ _ h1⟩
      · split at he
        · rename_i hq
          cases hm : ev P (wrNew s.heap.size) (execOp (evT t) o) s with
          | none => simp [hm] at he
          | some p =>
            obtain ⟨y, s2⟩ := p
            -- the small world's own run is the same whatever may be written
            have hrd := hr.anew
            cases y with
            | value v =>
              simp only [hm, Option.some.injEq] at he; subst he
              have hs2 := (qt_op (ρ := evT t) hq).e (wrNew s.heap.size) s _ s2 hm
              subst hs2
              obtain ⟨r1, y', w1, l1, rel1, run1, hx⟩ := sim_nat ht hok (quiet_nat hq) _ _ _ _ _ _ _ hrd hm
              have hw1 := (qt_op (ρ := evT t') hq).r w _ w1 run1
              subst hw1
              cases hx with
              | value _ v' hv => exact ⟨_, run1, .value _ _ (hv.mono (Rel.top hr rel1 l1))⟩
            | _ => simp [hm] at he
        · split at he
          · rename_i hp
            simp only [Bool.and_eq_true] at hp
            obtain ⟨hp1, hp2⟩ := hp
            have heq : execOp (evT t) o = execOp (evT t') o := execOp_congr (fun y hy => by
              rw [Array.all_eq_true'] at hp2
              exact ((evT_rel ht (hok y hy)).same (hp2 y hy)).symm) hp1
            cases hm : pvOp P (evT t) o with
            | none => simp [hm] at he
            | some v =>
              simp only [hm] at he
              split at he
              · rename_i hpf
                cases he
                exact ⟨_, by rw [← heq]; exact pvOp_run hm w, .value _ _ (VR.refl r hpf)⟩
              · cases he
          · cases he
end
end Go.Proofs.Ytchedebomjmehaa.Sx
