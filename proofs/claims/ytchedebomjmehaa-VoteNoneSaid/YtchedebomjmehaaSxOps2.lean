import Derived.Test.YtchedebomjmehaaSxOps
namespace Go.Proofs.Ytchedebomjmehaa.Sx
open Go.RowKit
set_option linter.unusedVariables false

section
variable {P : Program} {r : RR}

theorem pv_bind {α β : Type} (P : Program) (m : Sem α) (f : α → Sem β) : pv P (m >>= f) = (pv P m).bind fun a => pv P (f a) := by
  show pv P (m.bind f) = _
  induction m with
  | pure a => simp [Sem.bind, pv]
  | program k ih => simp [Sem.bind, pv, ih]
  | mark x k ih => simp [Sem.bind, pv, ih]
  | _ => simp [Sem.bind, pv]
/-- A tree that touches no memory, whatever becomes of it. -/
def Still {α : Type} (P : Program) (m : Sem α) : Prop := ∀ wr s, ev P wr m s = (pv P m).map fun a => (a, s)
theorem Still.pure {α : Type} (a : α) : Still P (Pure.pure a : Sem α) := fun _ _ => rfl
theorem Still.halt {α : Type} (h : Halt) : Still P (Sem.halt h : Sem α) := fun _ _ => by simp [ev, pv]
theorem Still.bind {α β : Type} {m : Sem α} {f : α → Sem β} (h : Still P m) (k : ∀ a, Still P (f a)) : Still P (m >>= f) := by
  intro wr s
  rw [ev_bind, pv_bind, h]
  cases pv P m with
  | none => rfl
  | some a => simp [k a wr s]
theorem still_typeInfo (t : TypeId) : Still P (typeInfo t) := by
  unfold typeInfo
  refine Still.bind (m := program) (fun wr s => rfl) fun p => ?_
  split
  · exact .pure _
  · exact .halt _
theorem still_sizeOf (t : TypeId) : Still P (sizeOf t) := (still_typeInfo t).bind fun _ => .pure _
theorem still_mapM {α β : Type} (f : α → Sem β) (h : ∀ a, Still P (f a)) (l : Array α) : Still P (l.mapM f) := by
  rw [Array.mapM_eq_mapM_toList]
  have hl : ∀ l : List α, Still P (l.mapM f) := by
    intro l
    induction l with
    | nil => simp only [List.mapM_nil]; exact .pure _
    | cons a l ih => simp only [List.mapM_cons]; exact (h a).bind fun b => ih.bind fun c => .pure _
  rw [map_eq_pure_bind]
  exact (hl _).bind fun _ => .pure _
theorem sim_still {α : Type} {m : Sem α} (h : Still P m) : Sim P EqR r m m := sim_of_pv h fun a _ => rfl

/-- Parts of a struct, of a slice. -/
def PR (r : RR) : List (Nat × Value) → List (Nat × Value) → Prop
  | [], [] => True
  | x :: l, y :: l' => x.1 = y.1 ∧ VR r x.2 y.2 ∧ PR r l l'
  | _, _ => False
theorem PR.mono {r r' : RR} (h : r.le r') : ∀ {l l' : List (Nat × Value)}, PR r l l' → PR r' l l'
  | [], [], _ => trivial
  | _ :: _, _ :: _, ⟨a, b, c⟩ => ⟨a, b.mono h, PR.mono h c⟩
  | [], _ :: _, k => k.elim
  | _ :: _, [], k => k.elim
theorem foldl_AR : ∀ (l l' : List Value) (off k : Nat) (c c' : Array Value), AR r l.toArray l'.toArray → AR r c c' →
    AR r ((l.zipIdx k).foldl (fun cs (x : Value × Nat) => cs.setIfInBounds (off + x.2) x.1) c) ((l'.zipIdx k).foldl (fun cs (x : Value × Nat) => cs.setIfInBounds (off + x.2) x.1) c')
  | [], l', off, k, c, c', h, hc => by
    have : l' = [] := by have := h.size; simp at this; exact List.eq_nil_of_length_eq_zero (by omega)
    subst this; exact hc
  | v :: l, l', off, k, c, c', h, hc => by
    cases l' with
    | nil => have := h.size; simp at this
    | cons v' l' =>
      simp only [List.zipIdx_cons, List.foldl_cons]
      exact foldl_AR l l' off (k + 1) _ _ ⟨by have := h.size; simp at this; simpa using this, fun j u u' p q => h.at_ (j + 1) u u' (by simpa using p) (by simpa using q)⟩
        (hc.set _ (h.at_ 0 v v' (by simp) (by simp)))
theorem fill_AR (place : Nat → Option (Nat × Nat)) : ∀ (l l' : List (Nat × Value)) (c c' d : Array Value), PR r l l' → AR r c c' → Instr.fill place c l = some d →
    ∃ d', Instr.fill place c' l' = some d' ∧ AR r d d'
  | [], [], c, c', d, _, hc, h => by simp only [Instr.fill] at h ⊢; cases h; exact ⟨_, rfl, hc⟩
  | (i, v) :: l, (i', v') :: l', c, c', d, ⟨e, hv, hl⟩, hc, h => by
    simp only at e; subst e
    simp only [Instr.fill] at h ⊢
    cases hp : place i with
    | none => simp [hp] at h
    | some p =>
      obtain ⟨off, size⟩ := p
      simp only [hp] at h ⊢
      have hs := hv.cells.size
      simp only at hv hs
      have hcs := hc.size
      rw [← hs, ← hcs]
      split at h
      · cases h
      · rename_i hcond
        rw [if_neg hcond]
        refine fill_AR place l l' _ _ d hl ?_ h
        have := foldl_AR (r := r) v.cells.toList v'.cells.toList off 0 c c' (by have k := hv.cells; rw [← Array.toArray_toList (xs := v.cells), ← Array.toArray_toList (xs := v'.cells)] at k; exact k) hc
        rw [← Array.foldl_toList, ← Array.foldl_toList, Array.toList_zipIdx, Array.toList_zipIdx]
        exact this
  | [], _ :: _, c, c', d, h, _, _ => h.elim
  | _ :: _, [], c, c', d, h, _, _ => h.elim
theorem PR.map {ps : Array (Nat × Operand)} {ρ ρ' : Operand → Value} (h : ∀ x, x ∈ ps → VR r (ρ x.2) (ρ' x.2)) :
    PR r (ps.map fun (i, x) => (i, ρ x)).toList (ps.map fun (i, x) => (i, ρ' x)).toList := by
  simp only [Array.toList_map]
  have : ∀ l : List (Nat × Operand), (∀ x, x ∈ l → VR r (ρ x.2) (ρ' x.2)) → PR r (l.map fun (i, x) => (i, ρ x)) (l.map fun (i, x) => (i, ρ' x)) := by
    intro l
    induction l with
    | nil => intro _; trivial
    | cons x l ih => intro hx; exact ⟨rfl, hx x (by simp), ih fun y hy => hx y (by simp [hy])⟩
  exact this _ fun x hx => h x (by simpa using hx)
theorem sim_build {t : TypeId} {ps ps' : Array (Nat × Value)} (hz : zeroPf P t = true) (h : PR r ps.toList ps'.toList) : Sim P VR r (Instr.build t ps) (Instr.build t ps') := by
  unfold Instr.build
  refine sim_bind (sim_zeroValue hz) fun r1 l1 z z' e => ?_
  obtain ⟨rfl, hzz⟩ := e
  refine sim_bind sim_underlying fun r2 l2 d d' e => ?_
  obtain ⟨rfl, _⟩ := e
  have hps := (h.mono l1).mono l2
  have hzc := (hzz.mono l2).cells
  cases d with
  | struct fields =>
    simp only
    refine sim_bind (sim_still (still_mapM _ (fun f => (still_sizeOf _).bind fun _ => .pure _) _)) fun r3 l3 pl pl' e => ?_
    subst e
    cases hf : Instr.fill (pl[·]?) z.cells ps.toList with
    | none => simp only []; exact sim_stuck
    | some c =>
      obtain ⟨c', e', hc⟩ := fill_AR (pl[·]?) _ _ _ _ c (hps.mono l3) (hzc.mono l3) hf
      simp only [e']; exact sim_pure (.agg _ _ hc.size hc.at_)
  | array n el =>
    simp only
    refine sim_bind sim_sizeOf fun r3 l3 sz sz' e => ?_
    subst e
    cases hf : Instr.fill (fun i => some (i * sz, sz)) z.cells ps.toList with
    | none => simp only []; exact sim_stuck
    | some c =>
      obtain ⟨c', e', hc⟩ := fill_AR (fun i => some (i * sz, sz)) _ _ _ _ c (hps.mono l3) (hzc.mono l3) hf
      simp only [e']; exact sim_pure (.agg _ _ hc.size hc.at_)
  | _ => exact sim_stuck
/-- The element type of a slice type has a zero value without an address. -/
def elemPf (P : Program) (t : TypeId) : Bool := match P.underlying t with | some (.slice e) => zeroPf P e | _ => false
theorem AR_zeros {z : Array Value} (h : AR r z z) (n : Nat) : AR r ((Array.range n).map (z[· % z.size]!)) ((Array.range n).map (z[· % z.size]!)) := by
  refine AR.map _ _ _ fun x _ => ?_
  simp only [getElem!_def]
  cases e : z[x % z.size]? with
  | none => exact .bool _
  | some v => exact h.at_ _ _ _ e e

theorem sim_buildSlice {t : TypeId} {n : Nat} {ps ps' : Array (Nat × Value)} (hz : elemPf P t = true) (h : PR r ps.toList ps'.toList) : Sim P VR r (Instr.buildSlice t n ps) (Instr.buildSlice t n ps') := by
  unfold Instr.buildSlice
  refine sim_bind sim_underlying fun r1 l1 d d' e => ?_
  obtain ⟨rfl, hu⟩ := e
  simp only [elemPf, hu] at hz
  cases d with
  | slice el =>
    simp only at hz ⊢
    refine sim_bind sim_sizeOf fun r2 l2 sz sz' e => ?_
    subst e
    by_cases hbig : n * sz > 2 ^ 24
    · rw [if_pos hbig]; exact sim_none fun wr s => by rw [ev_bind]; simp [unsupported, ev]
    · rw [if_neg hbig, if_neg hbig]
      have tail : ∀ (r3 : RR) (z : Array Value), r2.le r3 → AR r3 z z → Sim P VR r3
          (match Instr.fill (fun i => some (i * sz, sz)) ((Array.range (n * sz)).map (z[· % z.size]!)) ps.toList with
            | some cells => do pure (.slice (some (← newRow el cells)) n n)
            | _ => stuck "buildSlice: a part of the wrong size")
          (match Instr.fill (fun i => some (i * sz, sz)) ((Array.range (n * sz)).map (z[· % z.size]!)) ps'.toList with
            | some cells => do pure (.slice (some (← newRow el cells)) n n)
            | _ => stuck "buildSlice: a part of the wrong size") := by
        intro r3 z l3 hzz
        cases hf : Instr.fill (fun i => some (i * sz, sz)) ((Array.range (n * sz)).map (z[· % z.size]!)) ps.toList with
        | none => exact sim_stuck
        | some c =>
          obtain ⟨c', e', hc⟩ := fill_AR (fun i => some (i * sz, sz)) _ _ _ _ c (((h.mono l1).mono l2).mono l3) (AR_zeros hzz (n * sz)) hf
          rw [e']
          exact sim_bind (sim_newRow hc) fun r4 l4 a a' ha => sim_pure (.slice _ _ _ _ ha)
      by_cases h0 : n * sz = 0
      · rw [if_pos h0, if_pos h0]
        refine sim_bind (sim_pure (A := fun r a b => a = b ∧ AR r a a) ⟨rfl, AR.nil _⟩) fun r3 l3 z z' e => ?_
        obtain ⟨rfl, hzz⟩ := e
        exact tail r3 z l3 hzz
      · rw [if_neg h0, if_neg h0]
        refine sim_bind (sim_zeroValue hz) fun r3 l3 v v' e => ?_
        obtain ⟨rfl, hv⟩ := e
        refine sim_bind (sim_pure (A := fun r a b => a = b ∧ AR r a a) ⟨rfl, hv.cells⟩) fun r4 l4 z z' e => ?_
        obtain ⟨rfl, hzz⟩ := e
        exact tail r4 z (RR.le_trans l3 l4) hzz
  | _ => exact sim_stuck
theorem sim_sliceBound {v v' : Value} (h : VR r v v') (y : Nat) (c : BoundsCode) : Sim P EqR r (Instr.sliceBound v y c) (Instr.sliceBound v' y c) := by
  unfold Instr.sliceBound
  refine sim_bind (sim_asIntOf h) fun r1 l1 k k' e => ?_
  subst e
  obtain ⟨k, i⟩ := k
  simp only
  split
  · exact sim_pure rfl
  · exact sim_bounds
/-- A bound, or none. -/
inductive BR (r : RR) : Option Value → Option Value → Prop
  | none : BR r none none
  | some (v v' : Value) (h : VR r v v') : BR r (some v) (some v')
theorem BR.mono {r r' : RR} (h : r.le r') {a a' : Option Value} (x : BR r a a') : BR r' a a' := by
  cases x with
  | none => exact .none
  | some v v' k => exact .some v v' (k.mono h)
theorem sim_optBound {v v' : Option Value} (h : BR r v v') (y d : Nat) (c : BoundsCode) :
    Sim P EqR r (match v with | some v => Instr.sliceBound v y c | none => pure d) (match v' with | some v => Instr.sliceBound v y c | none => pure d) := by
  cases h with
  | none => exact sim_pure rfl
  | some v v' h => exact sim_sliceBound h y c
theorem sim_sliceBounds {b : Bool} {len cap : Nat} {lo lo' hi hi' mx mx' : Option Value} (h1 : BR r lo lo') (h2 : BR r hi hi') (h3 : BR r mx mx') :
    Sim P EqR r (Instr.sliceBounds b len cap lo hi mx) (Instr.sliceBounds b len cap lo' hi' mx') := by
  unfold Instr.sliceBounds
  cases h3 with
  | none =>
    simp only
    refine sim_bind (sim_pure (A := EqR) rfl) fun r1 l1 m m' e => ?_
    subst e
    cases h2.mono l1 with
    | none =>
      simp only
      refine sim_bind (sim_pure (A := EqR) rfl) fun r2 l2 x x' e => ?_
      subst e
      cases (h1.mono l1).mono l2 with
      | none => simp only; exact sim_bind (sim_pure (A := EqR) rfl) fun r3 l3 y y' e => sim_pure (by rw [e])
      | some v v' h => simp only; exact sim_bind (sim_sliceBound h _ _) fun r3 l3 y y' e => sim_pure (by rw [e])
    | some u u' hu =>
      simp only
      refine sim_bind (sim_sliceBound hu _ _) fun r2 l2 x x' e => ?_
      subst e
      cases (h1.mono l1).mono l2 with
      | none => simp only; exact sim_bind (sim_pure (A := EqR) rfl) fun r3 l3 y y' e => sim_pure (by rw [e])
      | some v v' h => simp only; exact sim_bind (sim_sliceBound h _ _) fun r3 l3 y y' e => sim_pure (by rw [e])
  | some w w' hw =>
    simp only
    refine sim_bind (sim_sliceBound hw _ _) fun r1 l1 m m' e => ?_
    subst e
    cases h2.mono l1 with
    | none => simp only; exact sim_none fun wr s => by rw [ev_bind]; simp [stuck, ev]
    | some u u' hu =>
      simp only
      refine sim_bind (sim_sliceBound hu _ _) fun r2 l2 x x' e => ?_
      subst e
      cases (h1.mono l1).mono l2 with
      | none => simp only; exact sim_bind (sim_pure (A := EqR) rfl) fun r3 l3 y y' e => sim_pure (by rw [e])
      | some v v' h => simp only; exact sim_bind (sim_sliceBound h _ _) fun r3 l3 y y' e => sim_pure (by rw [e])
theorem AoR.moved {a a' : Option Addr} (h : AoR r a a') (k : Nat) : AoR r (a.map (·.add k)) (a'.map (·.add k)) := by
  cases h with
  | none => exact .none
  | some a a' h => exact .some _ _ (h.add k)
theorem VR.sl {a a' : Option Addr} (h : AoR r a a') (l c : Nat) : VR r (.slice a l c) (.slice a' l c) := by
  cases h with
  | none => exact .nilSlice l c
  | some a a' h => exact .slice a a' l c h
theorem sim_slice {t : TypeId} {v v' : Value} {lo lo' hi hi' mx mx' : Option Value} (h : VR r v v') (h1 : BR r lo lo') (h2 : BR r hi hi') (h3 : BR r mx mx') :
    Sim P VR r (Instr.slice t v lo hi mx) (Instr.slice t v' lo' hi' mx') := by
  unfold Instr.slice
  refine sim_bind sim_underlying fun r1 l1 d d' e => ?_
  obtain ⟨rfl, _⟩ := e
  have k1 := h1.mono l1
  have k2 := h2.mono l1
  have k3 := h3.mono l1
  have slc : ∀ (el : TypeId) (a a' : Option Addr) (len cap : Nat), AoR r1 a a' → Sim P VR r1
      (do let (l, h, m) ← Instr.sliceBounds true len cap lo hi mx
          let size ← sizeOf el
          pure (.slice (if m = l then a else a.map (·.add (l * size))) (h - l) (m - l)))
      (do let (l, h, m) ← Instr.sliceBounds true len cap lo' hi' mx'
          let size ← sizeOf el
          pure (.slice (if m = l then a' else a'.map (·.add (l * size))) (h - l) (m - l))) := by
    intro el a a' len cap ha
    refine sim_bind (sim_sliceBounds k1 k2 k3) fun r2 l2 x x' e => ?_
    subst e
    refine sim_bind sim_sizeOf fun r3 l3 sz sz' e => ?_
    subst e
    refine sim_pure (VR.sl ?_ _ _)
    have ha' := (ha.mono l2).mono l3
    split
    · exact ha'
    · exact ha'.moved _
  cases d with
  | string =>
    cases h.mono l1 with
    | string s =>
      simp only
      cases k3 with
      | none =>
        simp only [Option.isSome_none, Bool.false_eq_true, if_false]
        refine sim_bind (sim_sliceBounds k1 k2 .none) fun r2 l2 x x' e => ?_
        subst e
        exact sim_pure (.string _)
      | some w w' hw => simp only [Option.isSome_some, if_true]; exact sim_none fun wr s => by rw [ev_bind]; simp [stuck, ev]
    | _ => exact sim_stuck
  | slice el =>
    cases h.mono l1 with
    | nilSlice l c => exact slc el _ _ l c .none
    | slice a a' l c ha => exact slc el _ _ l c (.some _ _ ha)
    | _ => exact sim_stuck
  | pointer arr =>
    simp only
    refine sim_bind (sim_asAddr (h.mono l1)) fun r2 l2 a a' ha => ?_
    refine sim_bind sim_underlying fun r3 l3 d d' e => ?_
    obtain ⟨rfl, _⟩ := e
    cases d with
    | array n el =>
      simp only
      refine sim_bind (sim_sliceBounds ((k1.mono l2).mono l3) ((k2.mono l2).mono l3) ((k3.mono l2).mono l3)) fun r4 l4 x x' e => ?_
      subst e
      refine sim_bind sim_sizeOf fun r5 l5 sz sz' e => ?_
      subst e
      have ha' := ((ha.mono l3).mono l4).mono l5
      refine sim_pure (.slice _ _ _ _ ?_)
      split
      · exact ha'
      · exact ha'.add _
    | _ => exact sim_stuck
  | _ => exact sim_stuck
theorem sim_sliceAt {t : TypeId} {v v' : Value} {lo lo' hi hi' mx mx' : Option Value} (h : VR r v v') (h1 : BR r lo lo') (h2 : BR r hi hi') (h3 : BR r mx mx') :
    Sim P VR r (Instr.sliceAt t v lo hi mx) (Instr.sliceAt t v' lo' hi' mx') := by
  unfold Instr.sliceAt
  refine sim_bind sim_underlying fun r1 l1 d d' e => ?_
  obtain ⟨rfl, _⟩ := e
  split
  · refine sim_bind (sim_sureAddr (h.mono l1)) fun r2 l2 a a' ha => ?_
    refine sim_bind (sim_sliceBounds ((h1.mono l1).mono l2) ((h2.mono l1).mono l2) ((h3.mono l1).mono l2)) fun r4 l4 x x' e => ?_
    subst e
    refine sim_bind sim_sizeOf fun r5 l5 sz sz' e => ?_
    subst e
    have ha' := (ha.mono l4).mono l5
    refine sim_pure (.slice _ _ _ _ ?_)
    split
    · exact ha'
    · exact ha'.add _
  · exact sim_slice (h.mono l1) (h1.mono l1) (h2.mono l1) (h3.mono l1)
theorem sim_len {ts : Array TypeId} {t : TypeId} {a a' : Array Value} (h : AR r a a') : Sim P VR r (Builtin.len_ ts t a) (Builtin.len_ ts t a') := by
  unfold Builtin.len_
  cases ht : ts[0]? with
  | none => exact sim_stuck
  | some t0 =>
    cases hx : a[0]? with
    | none => exact sim_stuck
    | some v =>
      obtain ⟨v', e, hv⟩ := h.get hx
      simp only [e]
      refine sim_bind sim_underlying fun r1 l1 d d' e => ?_
      obtain ⟨rfl, _⟩ := e
      cases d with
      | string => cases hv.mono l1 with
        | string s => exact sim_pure (.int _ _)
        | _ => exact sim_stuck
      | array n el => exact sim_pure (.int _ _)
      | pointer arr =>
        simp only
        refine sim_bind sim_underlying fun r2 l2 d d' e => ?_
        obtain ⟨rfl, _⟩ := e
        split
        · exact sim_pure (.int _ _)
        · exact sim_stuck
      | slice el => cases hv.mono l1 with
        | nilSlice l c => exact sim_pure (.int _ _)
        | slice a a' l c ha => exact sim_pure (.int _ _)
        | _ => exact sim_stuck
      | map k el => cases hv.mono l1 with
        | nilMap => exact sim_pure (.int _ _)
        | map b j hb =>
          refine sim_none fun wr s => ?_
          show ev P wr (getObj b >>= _) s = none
          rw [ev_bind]; simp [getObj, ev]
        | _ => exact sim_stuck
      | chan dr el => cases hv.mono l1 <;> exact sim_stuck
      | _ => exact sim_stuck
theorem sim_makeInterface {t : TypeId} {v v' : Value} (h : VR r v v') : Sim P VR r (Instr.makeInterface t v) (Instr.makeInterface t v') := by
  unfold Instr.makeInterface
  refine sim_bind sim_underlying fun r1 l1 d d' e => ?_
  obtain ⟨rfl, _⟩ := e
  split
  · exact sim_stuck
  · exact sim_pure (.iface _ _ _ (h.mono l1))
theorem sim_makeSlice {t : TypeId} {v v' u u' : Value} (hz : elemPf P t = true) (h : VR r v v') (hu : VR r u u') : Sim P VR r (Instr.makeSlice t v u) (Instr.makeSlice t v' u') := by
  unfold Instr.makeSlice
  refine sim_bind sim_underlying fun r1 l1 d d' e => ?_
  obtain ⟨rfl, hd⟩ := e
  simp only [elemPf, hd] at hz
  cases d with
  | slice el =>
    simp only at hz ⊢
    refine sim_bind (sim_asInt (h.mono l1)) fun r2 l2 n n' e => ?_
    subst e
    refine sim_bind (sim_asInt ((hu.mono l1).mono l2)) fun r3 l3 c c' e => ?_
    subst e
    refine sim_bind sim_typeInfo fun r4 l4 i i' e => ?_
    obtain ⟨rfl, _⟩ := e
    have pan : ∀ (m : String) (wr : Nat → Bool) (s : World), ev P wr (runtimePanic (α := Unit) (.error m)) s = none := fun m wr s => by
      simp only [runtimePanic, ev_bind, program, ev, Option.bind_some, goPanic]
    split
    · refine sim_none fun wr s => ?_
      split
      · rw [ev_bind, pan]; rfl
      · split
        · rw [ev_bind, pan]; rfl
        · show ev P wr (Sem.bind (Sem.choose _ _) _) s = none
          simp [Sem.bind, ev]
    · refine sim_bind (A := AnyR) ?_ fun r5 l5 _ _ _ => ?_
      · unfold askRoom
        split
        · intro n0 wr w0 s w x s1 hr he
          simp only [mark, ev] at he; cases he
          exact ⟨_, (), w, RR.le_refl _, hr, rfl, trivial⟩
        · exact sim_pure trivial
      refine sim_bind sim_sizeOf fun r6 l6 sz sz' e => ?_
      subst e
      have tail : ∀ (r7 : RR) (z : Array Value), AR r7 z z → Sim P VR r7
          (do let a ← newRow el ((Array.range ((IntKind.i64.wrap c).toNat * sz)).map (z[· % z.size]!)); pure (Value.slice (some a) (IntKind.i64.wrap n).toNat (IntKind.i64.wrap c).toNat))
          (do let a ← newRow el ((Array.range ((IntKind.i64.wrap c).toNat * sz)).map (z[· % z.size]!)); pure (Value.slice (some a) (IntKind.i64.wrap n).toNat (IntKind.i64.wrap c).toNat)) := by
        intro r7 z hzz
        exact sim_bind (sim_newRow (AR_zeros hzz _)) fun r8 l8 a a' ha => sim_pure (.slice _ _ _ _ ha)
      split
      · refine sim_bind (sim_pure (A := fun r a b => a = b ∧ AR r a a) ⟨rfl, AR.nil _⟩) fun r7 l7 z z' e => ?_
        obtain ⟨rfl, hzz⟩ := e
        exact tail _ _ hzz
      · refine sim_bind (sim_zeroValue hz) fun r7 l7 v v' e => ?_
        obtain ⟨rfl, hv⟩ := e
        refine sim_bind (sim_pure (A := fun r a b => a = b ∧ AR r a a) ⟨rfl, hv.cells⟩) fun r8 l8 z z' e => ?_
        obtain ⟨rfl, hzz⟩ := e
        exact tail _ _ hzz
  | _ => exact sim_stuck

/-- A variable of results, read. -/
theorem sim_mapM {α : Type} (f f' : α → Sem Value) (l : List α) : ∀ (r1 : RR), (∀ x ∈ l, ∀ r2, r1.le r2 → Sim P VR r2 (f x) (f' x)) →
    Sim P (fun r a b => AR r a.toArray b.toArray) r1 (l.mapM f) (l.mapM f') := by
  induction l with
  | nil => intro r1 _; simp only [List.mapM_nil]; exact sim_pure (AR.nil _)
  | cons x l ih =>
    intro r1 h
    simp only [List.mapM_cons]
    refine sim_bind (h x (by simp) r1 (RR.le_refl _)) fun r2 l2 v v' hv => ?_
    refine sim_bind (ih r2 fun y hy r3 l3 => h y (by simp [hy]) r3 (RR.le_trans l2 l3)) fun r3 l3 vs vs' hvs => ?_
    refine sim_pure ?_
    have := (AR.one (hv.mono l3)).append hvs
    simpa using this
theorem sim_results {fn : Func} {t t' : Array Value} (h : AR r t t') : Sim P VR r (results fn t) (results fn t') := by
  unfold results
  rw [Array.mapM_eq_mapM_toList, Array.mapM_eq_mapM_toList, map_eq_pure_bind, map_eq_pure_bind]
  refine sim_bind (A := AR) (sim_bind (sim_mapM _ _ _ r ?_) fun r1 l1 a b hab => sim_pure hab) fun r1 l1 a b hab => ?_
  · intro x _ r2 l2
    cases x with
    | tmp k => exact sim_pure ((h.mono l2).getD k)
    | cell k t0 => exact sim_bind (sim_asAddr ((h.mono l2).getD k)) fun r3 l3 a a' ha => sim_loadVar ha
  · refine sim_pure ?_
    have hs := hab.size
    by_cases h1 : a.size = 1
    · rw [dif_pos h1, dif_pos (hs ▸ h1)]
      exact hab.at_ 0 _ _ (Array.getElem?_eq_some_iff.2 ⟨by omega, rfl⟩) (Array.getElem?_eq_some_iff.2 ⟨by omega, rfl⟩)
    · rw [dif_neg h1, dif_neg (hs ▸ h1)]
      exact .tuple _ _ hab.size hab.at_
end
end Go.Proofs.Ytchedebomjmehaa.Sx
