import Derived.Test.YtchedebomjmehaaSxSim
namespace Go.Proofs.Ytchedebomjmehaa.Sx
open Go.RowKit
set_option linter.unusedVariables false

section
variable {P : Program} {r : RR}

/-- The same on both sides, without memory. -/
abbrev EqR {α : Type} : RR → α → α → Prop := fun _ a b => a = b
abbrev AnyR {α β : Type} : RR → α → β → Prop := fun _ _ _ => True

theorem sim_halt {α β : Type} {A : RR → α → β → Prop} {h : Halt} {m' : Sem β} : Sim P A r (Sem.halt h) m' := sim_none fun _ _ => by simp [ev]
theorem sim_stuck {α β : Type} {A : RR → α → β → Prop} {h : String} {m' : Sem β} : Sim P A r (stuck h) m' := sim_halt
theorem sim_unsupported {α β : Type} {A : RR → α → β → Prop} {h : Unsupported} {m' : Sem β} : Sim P A r (unsupported h) m' := sim_halt
theorem ev_halt_bind {α β : Type} (h : Halt) (f : α → Sem β) (wr : Nat → Bool) (s : World) : ev P wr ((Sem.halt h : Sem α) >>= f) s = none := by rw [ev_bind]; simp [ev]

/-- A tree without memory: what it gives. -/
theorem sim_of_pv {α : Type} {m : Sem α} {A : RR → α → α → Prop} (hp : ∀ wr s, ev P wr m s = (pv P m).map fun a => (a, s)) (h : ∀ a, pv P m = some a → A r a a) : Sim P A r m m := by
  intro n0 wr w0 s w a s1 hr he
  rw [hp] at he
  cases hm : pv P m with
  | none => simp [hm] at he
  | some x =>
    simp only [hm, Option.map_some, Option.some.injEq, Prod.mk.injEq] at he
    obtain ⟨rfl, rfl⟩ := he
    exact ⟨r, x, w, RR.le_refl _, hr, pv_run hm w, h x hm⟩

theorem sim_typeInfo {t : TypeId} : Sim P (fun _ a b => a = b ∧ P.info? t = some a) r (typeInfo t) (typeInfo t) := by
  refine sim_of_pv (fun wr s => ?_) (fun a h => ?_)
  · show ev P wr (typeInfo t) s = _
    simp only [typeInfo, ev_bind, program, ev, Option.bind_some]
    show _ = (pv P (Sem.bind (Sem.program Sem.pure) _)).map _
    simp only [Sem.bind, pv]
    cases P.info? t <;> rfl
  · change pv P (Sem.bind (Sem.program Sem.pure) _) = _ at h
    simp only [Sem.bind, pv] at h
    cases hi : P.info? t with
    | none => simp only [hi] at h; cases h
    | some i => simp only [hi] at h; cases h; exact ⟨rfl, rfl⟩
theorem sim_underlying {t : TypeId} : Sim P (fun _ a b => a = b ∧ P.underlying t = some a) r (underlying t) (underlying t) := by
  refine sim_of_pv (fun wr s => ?_) (fun a h => ?_)
  · simp only [underlying, ev_bind, program, ev, Option.bind_some]
    show _ = (pv P (Sem.bind (Sem.program Sem.pure) _)).map _
    simp only [Sem.bind, pv]
    cases P.underlying t <;> rfl
  · change pv P (Sem.bind (Sem.program Sem.pure) _) = _ at h
    simp only [Sem.bind, pv] at h
    cases hi : P.underlying t with
    | none => simp only [hi] at h; cases h
    | some i => simp only [hi] at h; cases h; exact ⟨rfl, rfl⟩
theorem sim_sizeOf {t : TypeId} : Sim P EqR r (sizeOf t) (sizeOf t) := by
  unfold sizeOf
  exact sim_bind sim_typeInfo fun r1 _ a b h => sim_pure (by rw [h.1])
theorem sim_isAgg {t : TypeId} : Sim P EqR r (isAgg t) (isAgg t) := by
  unfold isAgg
  refine sim_bind sim_underlying fun r1 _ a b h => ?_
  obtain ⟨rfl, _⟩ := h
  split <;> exact sim_pure rfl

/-- The zero value of a type bears no address. -/
def zeroPf (P : Program) (t : TypeId) : Bool := match P.info? t with
  | some i => match i.zero with | some v => pf v | none => false
  | none => false
theorem sim_zeroValue {t : TypeId} (h : zeroPf P t = true) : Sim P (fun r a b => a = b ∧ VR r a b) r (zeroValue t) (zeroValue t) := by
  unfold zeroValue
  refine sim_bind sim_typeInfo fun r1 _ a b hh => ?_
  obtain ⟨rfl, hi⟩ := hh
  simp only [zeroPf, hi] at h
  cases hz : a.zero with
  | none => exact sim_unsupported
  | some v => simp only [hz] at h; exact sim_pure ⟨rfl, VR.refl _ h⟩

theorem sim_loadCellsFrom {a a' : Addr} (h : AdR r a a') : ∀ (n i : Nat) (acc acc' : Array Value) (r1 : RR), r.le r1 → AR r1 acc acc' → Sim P AR r1 (loadCellsFrom a i n acc) (loadCellsFrom a' i n acc')
  | 0, i, acc, acc', r1, hl, k => by unfold loadCellsFrom; exact sim_pure k
  | n + 1, i, acc, acc', r1, hl, k => by
    unfold loadCellsFrom
    refine sim_bind (sim_load ((h.mono hl).add i)) fun r2 l2 v v' hv => ?_
    exact sim_loadCellsFrom h n (i + 1) _ _ r2 (RR.le_trans hl l2) ((k.mono l2).push hv)
theorem sim_loadVar {t : TypeId} {a a' : Addr} (h : AdR r a a') : Sim P VR r (loadVar t a) (loadVar t a') := by
  unfold loadVar
  refine sim_bind sim_isAgg fun r1 l1 x y e => ?_
  subst e
  cases x with
  | false => exact sim_load (h.mono l1)
  | true =>
    simp only [if_true]
    refine sim_bind sim_sizeOf fun r2 l2 n n' e => ?_
    subst e
    refine sim_bind (sim_loadCellsFrom ((h.mono l1).mono l2) n 0 #[] #[] r2 (RR.le_refl _) (AR.nil _)) fun r3 l3 c c' hc => ?_
    exact sim_pure (.agg _ _ hc.size hc.at_)
theorem sim_storeCells {a a' : Addr} (h : AdR r a a') : ∀ (l l' : List Value) (i : Nat) (r1 : RR), r.le r1 → AR r1 l.toArray l'.toArray → Sim P AnyR r1 (storeCells a l i) (storeCells a' l' i)
  | [], l', i, r1, hl, k => by
    have : l' = [] := by have := k.size; simp at this; exact List.eq_nil_of_length_eq_zero (by omega)
    subst this; unfold storeCells; exact sim_pure trivial
  | v :: l, l', i, r1, hl, k => by
    cases l' with
    | nil => have := k.size; simp at this
    | cons v' l' =>
      unfold storeCells
      refine sim_bind (sim_store ((h.mono hl).add i) (k.at_ 0 v v' (by simp) (by simp))) fun r2 l2 _ _ _ => ?_
      refine sim_storeCells h l l' (i + 1) r2 (RR.le_trans hl l2) ⟨by have := k.size; simp at this; simpa using this, fun j u u' p q => (k.at_ (j + 1) u u' (by simpa using p) (by simpa using q)).mono l2⟩
theorem sim_storeVar {t : TypeId} {a a' : Addr} {v v' : Value} (h : AdR r a a') (hv : VR r v v') : Sim P AnyR r (storeVar t a v) (storeVar t a' v') := by
  unfold storeVar
  refine sim_bind sim_sizeOf fun r1 l1 n n' e => ?_
  subst e
  have hc := (hv.mono l1).cells
  have hsz := hc.size
  by_cases e : v.cells.size ≠ n
  · rw [if_pos e]; exact sim_none fun wr s => by rw [ev_bind]; simp [stuck, ev]
  · rw [if_neg e, if_neg (by rw [← hsz]; exact e)]
    exact sim_storeCells (h.mono l1) _ _ 0 r1 (RR.le_refl _) (by have k := hc; rw [← Array.toArray_toList (xs := v.cells), ← Array.toArray_toList (xs := v'.cells)] at k; exact k)
theorem sim_newRow {t : TypeId} {c c' : Array Value} (h : AR r c c') : Sim P AdR r (newRow t c) (newRow t c') := by
  unfold newRow
  exact sim_bind (sim_new h rfl) fun r1 l1 b j hj => sim_pure (.mk b j 0 0 hj)
theorem sim_newVar {t : TypeId} {v v' : Value} (h : VR r v v') : Sim P AdR r (newVar t v) (newVar t v') := sim_newRow h.cells
theorem sim_sureAddr {v v' : Value} (h : VR r v v') : Sim P AdR r (Instr.sureAddr v) (Instr.sureAddr v') := by
  cases h with
  | ptr a a' h => exact sim_pure h
  | _ => exact sim_stuck
theorem sim_asAddr {v v' : Value} (h : VR r v v') : Sim P AdR r (asAddr v) (asAddr v') := by
  cases h with
  | ptr a a' h => exact sim_pure h
  | nilPtr =>
    refine sim_none fun wr s => ?_
    simp only [asAddr, runtimePanic, ev_bind, program, ev, Option.bind_some, goPanic]
  | _ => exact sim_stuck
theorem sim_asIntOf {v v' : Value} (h : VR r v v') : Sim P EqR r (asIntOf v) (asIntOf v') := by
  cases h with
  | int k n => exact sim_pure rfl
  | ptr a a' h => exact sim_unsupported
  | _ => exact sim_stuck
theorem sim_asInt {v v' : Value} (h : VR r v v') : Sim P EqR r (asInt v) (asInt v') := by
  unfold asInt
  exact sim_bind (sim_asIntOf h) fun r1 _ a b e => sim_pure (by rw [e])
theorem sim_asBool {v v' : Value} (h : VR r v v') : Sim P EqR r (asBool v) (asBool v') := by
  cases h with
  | bool b => exact sim_pure rfl
  | _ => exact sim_stuck
theorem sim_asAgg {v v' : Value} (h : VR r v v') : Sim P AR r (asAgg v) (asAgg v') := by
  cases h with
  | agg c c' h1 h2 => exact sim_pure ⟨h1, h2⟩
  | _ => exact sim_stuck

/-! ### The operations -/
theorem sim_alloc {t : TypeId} (h : zeroPf P t = true) : Sim P VR r (Instr.alloc t true (.tuple #[])) (Instr.alloc t true (.tuple #[])) := by
  unfold Instr.alloc
  refine sim_bind (sim_zeroValue h) fun r1 _ v v' hv => ?_
  refine sim_bind (sim_newVar hv.2) fun r2 _ a a' ha => sim_pure (.ptr _ _ ha)
theorem sim_box {t : TypeId} {v v' : Value} (h : VR r v v') : Sim P VR r (Instr.box t v) (Instr.box t v') := by
  unfold Instr.box
  exact sim_bind (sim_newVar h) fun r2 _ a a' ha => sim_pure (.ptr _ _ ha)
theorem sim_loadAt {t : TypeId} {v v' : Value} (h : VR r v v') : Sim P VR r (Instr.loadAt t v) (Instr.loadAt t v') := by
  unfold Instr.loadAt
  exact sim_bind (sim_sureAddr h) fun r2 _ a a' ha => sim_loadVar ha
theorem sim_storeAt {t : TypeId} {v v' u u' : Value} (h : VR r v v') (hu : VR r u u') : Sim P AnyR r (Instr.storeAt t v u) (Instr.storeAt t v' u') := by
  unfold Instr.storeAt
  exact sim_bind (sim_sureAddr h) fun r2 l a a' ha => sim_storeVar ha (hu.mono l)
theorem sim_part {t : TypeId} {c c' : Array Value} (h : AR r c c') (off : Nat) : Sim P VR r (part t c off) (part t c' off) := by
  unfold part
  refine sim_bind sim_isAgg fun r1 l1 x y e => ?_
  subst e
  cases x with
  | true =>
    simp only [if_true]
    refine sim_bind sim_sizeOf fun r2 l2 n n' e => ?_
    subst e
    have k := ((h.mono l1).mono l2).extract off (off + n)
    exact sim_pure (.agg _ _ k.size k.at_)
  | false =>
    simp only [Bool.false_eq_true, if_false]
    cases hc : c[off]? with
    | none => exact sim_stuck
    | some v => obtain ⟨v', e, hv⟩ := h.get hc; simp only [e]; exact sim_pure (hv.mono l1)
theorem sim_field {t : TypeId} {v v' : Value} (h : VR r v v') (f : Nat) : Sim P VR r (Instr.field t v f) (Instr.field t v' f) := by
  unfold Instr.field
  refine sim_bind sim_underlying fun r1 l1 d d' e => ?_
  obtain ⟨rfl, _⟩ := e
  split
  · split
    · exact sim_bind (sim_asAgg (h.mono l1)) fun r2 l2 c c' hc => sim_part hc _
    · exact sim_stuck
  · exact sim_stuck
/-- The field of a struct type has cells of its own. -/
def fieldOk (P : Program) (t : TypeId) (f : Nat) : Bool := match P.underlying t with
  | some (.struct fields) => match fields[f]? with
    | some x => match P.info? x.type with | some i => !(Nat.beq i.size 0) | none => false
    | none => false
  | _ => false
theorem sim_fieldAt {t : TypeId} {v v' : Value} (h : VR r v v') (f : Nat) (hok : fieldOk P t f = true) : Sim P VR r (Instr.fieldAt t v f) (Instr.fieldAt t v' f) := by
  unfold Instr.fieldAt
  refine sim_bind sim_underlying fun r1 l1 d d' e => ?_
  obtain ⟨rfl, hu⟩ := e
  simp only [fieldOk, hu] at hok
  split
  · rename_i fields
    simp only at hok
    split
    · rename_i x hx
      simp only [hx] at hok
      refine sim_bind (sim_sureAddr (h.mono l1)) fun r2 l2 a a' ha => ?_
      unfold fieldPlace
      refine sim_bind (A := AdR) ?_ fun r3 l3 a a' ha => sim_pure (.ptr _ _ ha)
      unfold sizeOf
      refine sim_bind (A := fun r a b => a = b ∧ a ≠ 0) ?_ fun r3 l3 n n' e => ?_
      · refine sim_bind sim_typeInfo fun r3 l3 i i' e => ?_
        obtain ⟨rfl, hi⟩ := e
        simp only [hi] at hok
        refine sim_pure ⟨rfl, fun h0 => ?_⟩
        rw [h0] at hok; simp at hok
      · obtain ⟨rfl, hn⟩ := e
        rw [if_neg hn, if_neg hn]; exact sim_pure ((ha.mono l3).add _)
    · exact sim_stuck
  · exact sim_stuck
theorem ev_runtimePanic_bounds {α : Type} (x y : Int) (sg : Bool) (c : BoundsCode) (wr : Nat → Bool) (s : World) : ev P wr (runtimePanic (α := α) (.bounds x y sg c)) s = none := by
  simp only [runtimePanic, ev_bind, program, ev, Option.bind_some, goPanic]
theorem ev_boundsPanic {α : Type} (k : IntKind) (x y : Int) (c : BoundsCode) (wr : Nat → Bool) (s : World) : ev P wr (boundsPanic (α := α) k x y c) s = none := by
  unfold boundsPanic
  split
  · rw [ev_bind]
    show Option.bind (ev P wr (Sem.bind (Sem.choose _ _) _) s) _ = none
    simp [Sem.bind, ev]
  · rw [ev_bind]
    show Option.bind (ev P wr (Sem.pure _) s) _ = none
    simp only [ev, Option.bind_some]
    exact ev_runtimePanic_bounds _ _ _ _ _ _
theorem sim_bounds {α β : Type} {A : RR → α → β → Prop} {k : IntKind} {x y : Int} {c : BoundsCode} {m' : Sem β} : Sim P A r (boundsPanic k x y c) m' := sim_none fun wr s => ev_boundsPanic k x y c wr s
/-- An address, or none. -/
inductive AoR (r : RR) : Option Addr → Option Addr → Prop
  | none : AoR r none none
  | some (a a' : Addr) (h : AdR r a a') : AoR r (some a) (some a')
theorem AoR.mono {r r' : RR} (h : r.le r') {a a' : Option Addr} (x : AoR r a a') : AoR r' a a' := by
  cases x with
  | none => exact .none
  | some a a' k => exact .some a a' (k.mono h)
theorem sim_indexAt {t : TypeId} {v v' x x' : Value} (h : VR r v v') (hx : VR r x x') : Sim P VR r (Instr.indexAt t v x) (Instr.indexAt t v' x') := by
  unfold Instr.indexAt
  refine sim_bind (sim_asIntOf hx) fun r1 l1 k k' e => ?_
  subst e
  obtain ⟨k, i⟩ := k
  simp only
  refine sim_bind sim_underlying fun r2 l2 d d' e => ?_
  obtain ⟨rfl, _⟩ := e
  have h2 := (h.mono l1).mono l2
  cases d with
  | array n el =>
    simp only
    refine sim_bind (sim_sureAddr h2) fun r3 l3 a a' ha => ?_
    · refine sim_bind (sim_pure (A := fun r p q => AoR r p.1 q.1 ∧ p.2 = q.2) ⟨.some _ _ ha, rfl⟩) fun r4 l4 p q e => ?_
      obtain ⟨b, len, el⟩ := p
      obtain ⟨b', len', el'⟩ := q
      obtain ⟨h1, h2⟩ := e
      simp only [Prod.mk.injEq] at h1 h2
      obtain ⟨rfl, rfl⟩ := h2
      refine sim_bind sim_underlying fun r5 l5 d d' e => ?_
      obtain ⟨rfl, _⟩ := e
      simp only
      cases h1.mono l5 with
      | none => exact sim_bounds
      | some a a' ha =>
        simp only
        by_cases hi : 0 ≤ i ∧ i < (len : Int)
        · rw [if_pos hi, if_pos hi]
          refine sim_bind sim_sizeOf fun r6 l6 n n' e => ?_
          subst e
          exact sim_pure (.ptr _ _ ((ha.mono l6).add _))
        · rw [if_neg hi, if_neg hi]
          repeat' (first | exact sim_unsupported | exact sim_bounds | split)
  | slice el =>
    cases h2 with
    | nilSlice l c =>
      refine sim_bind (sim_pure (A := fun r p q => AoR r p.1 q.1 ∧ p.2 = q.2) ⟨.none, rfl⟩) fun r4 l4 p q e => ?_
      obtain ⟨b, len, el⟩ := p
      obtain ⟨b', len', el'⟩ := q
      obtain ⟨h1, h2⟩ := e
      simp only [Prod.mk.injEq] at h1 h2
      obtain ⟨rfl, rfl⟩ := h2
      refine sim_bind sim_underlying fun r5 l5 d d' e => ?_
      obtain ⟨rfl, _⟩ := e
      simp only
      cases h1.mono l5 with
      | none => exact sim_bounds
      | some a a' ha =>
        simp only
        by_cases hi : 0 ≤ i ∧ i < (len : Int)
        · rw [if_pos hi, if_pos hi]
          refine sim_bind sim_sizeOf fun r6 l6 n n' e => ?_
          subst e
          exact sim_pure (.ptr _ _ ((ha.mono l6).add _))
        · rw [if_neg hi, if_neg hi]
          repeat' (first | exact sim_unsupported | exact sim_bounds | split)
    | slice a a' l c ha =>
      refine sim_bind (sim_pure (A := fun r p q => AoR r p.1 q.1 ∧ p.2 = q.2) ⟨.some _ _ ha, rfl⟩) fun r4 l4 p q e => ?_
      obtain ⟨b, len, el⟩ := p
      obtain ⟨b', len', el'⟩ := q
      obtain ⟨h1, h2⟩ := e
      simp only [Prod.mk.injEq] at h1 h2
      obtain ⟨rfl, rfl⟩ := h2
      refine sim_bind sim_underlying fun r5 l5 d d' e => ?_
      obtain ⟨rfl, _⟩ := e
      simp only
      cases h1.mono l5 with
      | none => exact sim_bounds
      | some a a' ha =>
        simp only
        by_cases hi : 0 ≤ i ∧ i < (len : Int)
        · rw [if_pos hi, if_pos hi]
          refine sim_bind sim_sizeOf fun r6 l6 n n' e => ?_
          subst e
          exact sim_pure (.ptr _ _ ((ha.mono l6).add _))
        · rw [if_neg hi, if_neg hi]
          repeat' (first | exact sim_unsupported | exact sim_bounds | split)
    | _ => exact sim_stuck
  | _ => exact sim_stuck
theorem sim_extract {v v' : Value} (h : VR r v v') (i : Nat) : Sim P VR r (Instr.extract v i) (Instr.extract v' i) := by
  cases h with
  | tuple c c' h1 h2 =>
    simp only [Instr.extract]
    have k : AR r c c' := ⟨h1, h2⟩
    cases hc : c[i]? with
    | none => exact sim_stuck
    | some v => obtain ⟨v', e, hv⟩ := k.get hc; simp only [e]; exact sim_pure hv
  | _ => exact sim_stuck
end
end Go.Proofs.Ytchedebomjmehaa.Sx
