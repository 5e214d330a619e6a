import Derived.Test.YtchedebomjmehaaSxBase
namespace Go.Proofs.Ytchedebomjmehaa.Sx
open Go.RowKit
set_option linter.unusedVariables false

/-- Objects that are the same, from cell n on. -/
inductive OR (r : RR) (p : Prop) (n : Nat) : Obj → Obj → Prop
  | cells (c : Array Value) (T : TypeId) (f : Nat × Nat) (c' : Array Value) (T' : TypeId) (f' : Nat × Nat)
      (h : ∀ (k : Nat) (v : Value), c[k]? = some v → ∃ v', c'[k + n]? = some v' ∧ VR r v v') (hf : p → f' = (0, 0)) : OR r p n (.cells c T f) (.cells c' T' f')
  | iter (s : ByteArray) (q : Nat) (hn : n = 0) : OR r p n (.stringIter s q) (.stringIter s q)
  | map (es es' : Array MapEntry) (c : Nat) (hn : n = 0) (h1 : es.size = es'.size)
      (h2 : ∀ (i : Nat) (e e' : MapEntry), es[i]? = some e → es'[i]? = some e' → e.key = e'.key ∧ e.born = e'.born ∧ VR r e.val e'.val) : OR r p n (.map es c) (.map es' c)

theorem OR.mono {r r' : RR} (h : r.le r') {p : Prop} {n : Nat} {o o' : Obj} (x : OR r p n o o') : OR r' p n o o' := by
  cases x with
  | cells c T f c' T' f' k hf => exact .cells c T f c' T' f' (fun i v hi => let ⟨v', a, b⟩ := k i v hi; ⟨v', a, b.mono h⟩) hf
  | iter s p hn => exact .iter s p hn
  | map es es' c hn h1 h2 => exact .map es es' c hn h1 (fun i e e' a b => let ⟨x, y, z⟩ := h2 i e e' a b; ⟨x, y, z.mono h⟩)

structure Rel (r : RR) (n0 : Nat) (wr : Nat → Bool) (w0 s w : World) : Prop where
  os : w.os = w0.os
  tape : w.tape = w0.tape
  output : w.output = w0.output
  size : w0.heap.size ≤ w.heap.size
  fn : ∀ (i j n j' n' : Nat), r i j n → r i j' n' → j = j' ∧ n = n'
  inj : ∀ (i i' j n n' : Nat), wr i = true → r i j n → r i' j n' → i = i'
  obj : ∀ (i j n : Nat), r i j n → ∃ o o', s.heap[i]? = some o ∧ w.heap[j]? = some o' ∧ OR r (wr i = true) n o o'
  fresh : ∀ (i j n : Nat), r i j n → i < n0 ∨ w0.heap.size ≤ j
  keep : ∀ (j : Nat), j < w0.heap.size → (∀ i n, wr i = true → ¬ r i j n) → w.heap[j]? = w0.heap[j]?
  tot : ∀ (i : Nat), i < s.heap.size → ∃ j n, r i j n

theorem Rel.lt {r : RR} {n0 : Nat} {wr : Nat → Bool} {w0 s w : World} (h : Rel r n0 wr w0 s w) {i j n : Nat} (k : r i j n) : i < s.heap.size ∧ j < w.heap.size := by
  obtain ⟨o, o', a, b, _⟩ := h.obj i j n k
  exact ⟨(Array.getElem?_eq_some_iff.1 a).1, (Array.getElem?_eq_some_iff.1 b).1⟩

theorem Rel.cell {r : RR} {n0 : Nat} {wr : Nat → Bool} {w0 s w : World} (h : Rel r n0 wr w0 s w) {a a' : Addr} (ha : AdR r a a') {v : Value} (hv : s.cell? a = some v) :
    ∃ v', w.cell? a' = some v' ∧ VR r v v' ∧ (wr a.block = true → w.frozen? a' = false) := by
  cases ha with | mk b j n o k =>
  obtain ⟨x, x', e, e', hx⟩ := h.obj b j n k
  simp only [World.cell?, World.frozen?, e, e'] at hv ⊢
  cases hx with
  | cells c T f c' T' f' hc hf =>
    simp only [Option.isSome_none, Bool.false_eq_true, if_false] at hv ⊢
    obtain ⟨v', p, q⟩ := hc o v hv
    exact ⟨v', p, q, fun hr => by rw [hf hr]; simp⟩
  | iter => simp at hv
  | map => simp at hv

theorem Rel.set {r : RR} {n0 : Nat} {wr : Nat → Bool} {w0 s w : World} (h : Rel r n0 wr w0 s w) {a a' : Addr} (ha : AdR r a a') {v v' : Value} (hv : VR r v v') (hr : wr a.block = true) :
    Rel r n0 wr w0 (s.setCell a v) (w.setCell a' v') := by
  cases ha with | mk b j n o k =>
  refine ⟨h.os, h.tape, h.output, by simpa [World.setCell] using h.size, h.fn, h.inj, ?_, h.fresh, ?_, ?_⟩
  · intro i j1 n1 hi
    obtain ⟨x, x', e, e', hx⟩ := h.obj i j1 n1 hi
    simp only [World.setCell, Array.getElem?_modify]
    by_cases hb : b = i
    · subst hb
      obtain ⟨rfl, rfl⟩ := h.fn _ _ _ _ _ k hi
      rw [if_pos rfl, if_pos rfl, e, e']
      refine ⟨_, _, rfl, rfl, ?_⟩
      cases hx with
      | cells c T fz c' T' fz' hc hf =>
        refine .cells _ _ _ _ _ _ ?_ hf
        intro q u hq
        simp only [Option.isSome_none, Bool.false_eq_true, if_false] at hq ⊢
        rw [Array.getElem?_setIfInBounds] at hq
        by_cases ho : o = q
        · subst ho
          rw [if_pos rfl] at hq
          split at hq
          · rename_i hlt
            cases hq
            obtain ⟨v1, p1, p2⟩ := hc o c[o] (Array.getElem?_eq_some_iff.2 ⟨hlt, rfl⟩)
            obtain ⟨hlt', _⟩ := Array.getElem?_eq_some_iff.1 p1
            exact ⟨v', by rw [Array.getElem?_setIfInBounds, if_pos rfl, if_pos hlt'], hv⟩
          · cases hq
        · rw [if_neg ho] at hq
          obtain ⟨v1, p1, p2⟩ := hc q u hq
          exact ⟨v1, by rw [Array.getElem?_setIfInBounds, if_neg (by omega)]; exact p1, p2⟩
      | iter s p hn => exact .iter s p hn
      | map es es' c hn h1 h2 => exact .map es es' c hn h1 h2
    · have hj : j ≠ j1 := by
        intro ej; subst ej
        exact hb (h.inj b i j n n1 hr k hi)
      rw [if_neg hb, if_neg hj]
      exact ⟨x, x', e, e', hx⟩
  · intro j1 hj1 hk
    simp only [World.setCell, Array.getElem?_modify]
    have : j ≠ j1 := fun e => hk b n hr (e ▸ k)
    rw [if_neg this]
    exact h.keep j1 hj1 hk
  · intro i hi
    exact h.tot i (by simpa [World.setCell] using hi)

/-- One block more on both sides. -/
def RR.new (r : RR) (b j : Nat) : RR := fun x y n => r x y n ∨ (x = b ∧ y = j ∧ n = 0)
theorem RR.le_new (r : RR) (b j : Nat) : r.le (r.new b j) := fun _ _ _ h => .inl h
theorem RR.at_new (r : RR) (b j : Nat) : r.new b j b j 0 := .inr ⟨rfl, rfl, rfl⟩

theorem Rel.new {r : RR} {n0 : Nat} {wr : Nat → Bool} {w0 s w : World} (h : Rel r n0 wr w0 s w) {o o' : Obj} (ho : OR (r.new s.heap.size w.heap.size) (wr s.heap.size = true) 0 o o') :
    Rel (r.new s.heap.size w.heap.size) n0 wr w0 { s with heap := s.heap.push o } { w with heap := w.heap.push o' } := by
  refine ⟨h.os, h.tape, h.output, by simp; have := h.size; omega, ?_, ?_, ?_, ?_, ?_, ?_⟩
  · rintro i j n j' n' (a | ⟨rfl, rfl, rfl⟩) (b | ⟨hb1, rfl, rfl⟩)
    · exact h.fn _ _ _ _ _ a b
    · have := (h.lt a).1; omega
    · have := (h.lt b).1; omega
    · exact ⟨rfl, rfl⟩
  · rintro i i' j n n' hr (a | ⟨rfl, rfl, rfl⟩) (b | ⟨rfl, hb1, rfl⟩)
    · exact h.inj _ _ _ _ _ hr a b
    · have := (h.lt a).2; omega
    · have := (h.lt b).2; omega
    · rfl
  · rintro i j n (a | ⟨rfl, rfl, rfl⟩)
    · obtain ⟨x, x', e, e', hx⟩ := h.obj i j n a
      obtain ⟨l1, l2⟩ := h.lt a
      refine ⟨x, x', ?_, ?_, hx.mono (RR.le_new _ _ _)⟩
      · simp only [Array.getElem?_push]; rw [if_neg (by omega)]; exact e
      · simp only [Array.getElem?_push]; rw [if_neg (by omega)]; exact e'
    · exact ⟨o, o', by simp, by simp, ho⟩
  · rintro i j n (a | ⟨rfl, rfl, rfl⟩)
    · exact h.fresh _ _ _ a
    · exact .inr h.size
  · intro j hj hk
    simp only [Array.getElem?_push]
    have := h.size
    rw [if_neg (by omega)]
    exact h.keep j hj fun i n hi x => hk i n hi (.inl x)
  · intro i hi
    simp only [Array.size_push] at hi
    by_cases e : i = s.heap.size
    · subst e; exact ⟨_, _, RR.at_new _ _ _⟩
    · obtain ⟨j, n, k⟩ := h.tot i (by omega); exact ⟨j, n, .inl k⟩

theorem Rel.drew {r : RR} {n0 : Nat} {wr : Nat → Bool} {w0 s w : World} (h : Rel r n0 wr w0 s w) : Rel r n0 wr w0 s { w with drawn := w.drawn + 1 } :=
  ⟨h.os, h.tape, h.output, h.size, h.fn, h.inj, h.obj, h.fresh, h.keep, h.tot⟩

theorem Rel.later {r : RR} {n0 : Nat} {wr : Nat → Bool} {w0 s w w1 : World} (h : Rel r n0 wr w0 s w) (hb : Below w.heap.size w w1) : Rel r n0 wr w0 s w1 := by
  refine ⟨hb.os.trans h.os, hb.tape.trans h.tape, hb.output.trans h.output, Nat.le_trans h.size hb.size, h.fn, h.inj, ?_, h.fresh, ?_, h.tot⟩
  · intro i j n a
    obtain ⟨x, x', e, e', hx⟩ := h.obj i j n a
    exact ⟨x, x', e, by rw [hb.block j (h.lt a).2]; exact e', hx⟩
  · intro j hj hk
    rw [hb.block j (Nat.lt_of_lt_of_le hj h.size)]; exact h.keep j hj hk

/-- The relation is all that it can be: a greater one over the same small world is the same. -/
theorem Rel.top {r r1 : RR} {n0 n0' : Nat} {wr wr' : Nat → Bool} {w0 w0' s w w' : World} (h : Rel r n0 wr w0 s w) (h1 : Rel r1 n0' wr' w0' s w') (l : r.le r1) : r1.le r := by
  intro i j n k
  obtain ⟨j', n', k'⟩ := h.tot i (h1.lt k).1
  obtain ⟨rfl, rfl⟩ := h1.fn _ _ _ _ _ k (l _ _ _ k')
  exact k'
/-- Blocks of some list, and all that are new. -/
def wrOf (W : List Nat) (wr : Nat → Bool) (n : Nat) : Nat → Bool := fun i => W.contains i && wr i || Nat.ble n i
/-- Blocks that are new. -/
def wrNew (n : Nat) : Nat → Bool := fun i => Nat.ble n i
theorem wrOf_old {W : List Nat} {wr : Nat → Bool} {n i : Nat} (h : i < n) (hw : wrOf W wr n i = true) : wr i = true := by
  have : Nat.ble n i = false := by
    cases e : Nat.ble n i with
    | false => rfl
    | true => have := Nat.le_of_ble_eq_true e; omega
  simp [wrOf, this] at hw; exact hw.2
theorem wrNew_le {n i : Nat} (h : wrNew n i = true) : n ≤ i := Nat.le_of_ble_eq_true h
/-- The same, seen from a later world on, in which fewer of the blocks so far may be written. -/
theorem Rel.anewW {r : RR} {n0 : Nat} {wr : Nat → Bool} {w0 s w : World} (h : Rel r n0 wr w0 s w) {wr' : Nat → Bool} (hw : ∀ i, i < s.heap.size → wr' i = true → wr i = true) : Rel r s.heap.size wr' w s w := by
  refine ⟨rfl, rfl, rfl, Nat.le_refl _, h.fn, ?_, ?_, ?_, fun _ _ _ => rfl, h.tot⟩
  · intro i i' j n n' hi a b; exact h.inj i i' j n n' (hw i (h.lt a).1 hi) a b
  · intro i j n a
    obtain ⟨o, o', x, y, z⟩ := h.obj i j n a
    refine ⟨o, o', x, y, ?_⟩
    have hi := (h.lt a).1
    cases z with
    | cells c T f c' T' f' hc hf => exact .cells c T f c' T' f' hc (fun hh => hf (hw i hi hh))
    | iter s p hn => exact .iter s p hn
    | map es es' c hn h1 h2 => exact .map es es' c hn h1 h2
  · intro i j n a; exact .inl (h.lt a).1
theorem Rel.anew {r : RR} {n0 : Nat} {wr : Nat → Bool} {w0 s w : World} (h : Rel r n0 wr w0 s w) : Rel r s.heap.size (wrNew s.heap.size) w s w :=
  h.anewW fun i hi hw => by have := wrNew_le hw; omega
/-- Back to what was before. -/
theorem Rel.back {r r1 : RR} {n0 : Nat} {wr wr' : Nat → Bool} {w0 s w s1 w1 : World} (h : Rel r n0 wr w0 s w) (h1 : Rel r1 s.heap.size wr' w s1 w1) (l : r.le r1)
    (hw : ∀ i, i < s.heap.size → wr' i = true → wr i = true) (hn : ∀ i, s.heap.size ≤ i → wr' i = true) : Rel r1 n0 wr w0 s1 w1 := by
  have old : ∀ {i j n : Nat}, i < s.heap.size → r1 i j n → r i j n := by
    intro i j n hi k
    obtain ⟨j', n', k'⟩ := h.tot i hi
    obtain ⟨rfl, rfl⟩ := h1.fn _ _ _ _ _ k (l _ _ _ k')
    exact k'
  have new : ∀ {i j n : Nat}, s.heap.size ≤ i → r1 i j n → w.heap.size ≤ j := by
    intro i j n hi k
    rcases h1.fresh i j n k with x | x
    · omega
    · exact x
  refine ⟨h1.os.trans h.os, h1.tape.trans h.tape, h1.output.trans h.output, Nat.le_trans h.size h1.size, h1.fn, ?_, ?_, ?_, ?_, h1.tot⟩
  · intro i i' j n n' hi a b
    by_cases e : i < s.heap.size
    · by_cases e' : i' < s.heap.size
      · exact h.inj i i' j n n' hi (old e a) (old e' b)
      · have := new (by omega) b; have := (h.lt (old e a)).2; omega
    · exact h1.inj i i' j n n' (hn i (by omega)) a b
  · intro i j n a
    obtain ⟨o, o', x, y, z⟩ := h1.obj i j n a
    refine ⟨o, o', x, y, ?_⟩
    cases z with
    | cells c T f c' T' f' hc hf =>
      refine .cells c T f c' T' f' hc fun hh => ?_
      by_cases e : wr' i = true
      · exact hf e
      · have ei : i < s.heap.size := by
          rcases Nat.lt_or_ge i s.heap.size with x | x
          · exact x
          · exact absurd (hn i x) e
        obtain ⟨p, p', q, q', z'⟩ := h.obj i j n (old ei a)
        have same : w1.heap[j]? = w.heap[j]? := h1.keep j (h.lt (old ei a)).2 fun i2 n2 hi2 k2 => by
          have := h1.inj i2 i j n2 n hi2 k2 a
          subst this; exact e hi2
        rw [same, q'] at y
        cases y
        cases z' with
        | cells c2 T2 f2 c2' T2' f2' hc2 hf2 => exact hf2 hh
    | iter s p hn => exact .iter s p hn
    | map es es' c hn h1 h2 => exact .map es es' c hn h1 h2
  · intro i j n a
    by_cases e : i < s.heap.size
    · exact h.fresh i j n (old e a)
    · have := new (by omega) a; have := h.size; exact .inr (by omega)
  · intro j hj hk
    rw [h1.keep j (Nat.lt_of_lt_of_le hj h.size) fun i n hi k => ?_]
    · exact h.keep j hj fun i n hi k => hk i n hi (l _ _ _ k)
    · by_cases e : i < s.heap.size
      · exact hk i n (hw i e hi) k
      · have := new (by omega) k; have := h.size; omega

theorem Rel.below {r : RR} {n0 : Nat} {wr : Nat → Bool} {w0 s w : World} (h : Rel r n0 wr w0 s w) (hn : ∀ i, wr i = true → n0 ≤ i) : Below w0.heap.size w0 w :=
  ⟨h.os, h.tape, h.output, h.size, fun k hk => h.keep k hk fun i n hi x => by have := hn i hi; rcases h.fresh i k n x with y | y <;> omega⟩

/-! ### The small world's run -/
def ev {α : Type} (P : Program) (wr : Nat → Bool) : Sem α → World → Option (α × World)
  | .pure a, s => some (a, s)
  | .load _ a k, s => match s.cell? a with
    | some v => ev P wr (k v) s
    | none => none
  | .store _ _ (.agg _) _, _ | .store _ _ (.tuple _) _, _ => none
  | .store _ a v k, s => match wr a.block with
    | true => match s.cell? a with
      | some _ => ev P wr k (s.setCell a v)
      | none => none
    | false => none
  | .new (.cells c T (0, 0)) k, s => ev P wr (k s.heap.size) { s with heap := s.heap.push (.cells c T (0, 0)) }
  | .program k, s => ev P wr (k P) s
  | .mark _ k, s => ev P wr k s
  | _, _ => none

theorem ev_bind {α β : Type} (P : Program) (wr : Nat → Bool) (m : Sem α) (f : α → Sem β) (s : World) :
    ev P wr (m >>= f) s = (ev P wr m s).bind fun x => ev P wr (f x.1) x.2 := by
  show ev P wr (m.bind f) s = _
  induction m generalizing s with
  | pure a => simp [Sem.bind, ev]
  | load md a k ih => simp only [Sem.bind, ev]; split <;> simp_all
  | store md a v k ih => cases v <;> simp only [Sem.bind, ev, Option.bind_none] <;> (try (split <;> (try (split)) <;> simp_all))
  | new o k ih =>
    cases o with
    | cells c T f =>
      obtain ⟨f1, f2⟩ := f
      cases f1 <;> cases f2 <;> simp [Sem.bind, ev, ih]
    | _ => simp [Sem.bind, ev]
  | program k ih => simp [Sem.bind, ev, ih]
  | mark x k ih => simp [Sem.bind, ev, ih]
  | _ => simp [Sem.bind, ev]

/-- What the small world's run does the true one does. -/
def Sim {α β : Type} (P : Program) (A : RR → α → β → Prop) (r : RR) (m : Sem α) (m' : Sem β) : Prop :=
  ∀ (n0 : Nat) (wr : Nat → Bool) (w0 s w : World) (a : α) (s1 : World), Rel r n0 wr w0 s w → ev P wr m s = some (a, s1) →
    ∃ (r1 : RR) (b : β) (w1 : World), r.le r1 ∧ Rel r1 n0 wr w0 s1 w1 ∧ m'.run P w = .ok b w1 ∧ A r1 a b

section
variable {P : Program} {α β γ δ : Type} {r : RR}
theorem sim_pure {A : RR → α → β → Prop} {a : α} {b : β} (h : A r a b) : Sim P A r (pure a) (pure b) := by
  intro n0 wr w0 s w x s1 hr he
  cases he
  exact ⟨r, b, w, RR.le_refl _, hr, rfl, h⟩
theorem sim_bind {A : RR → α → β → Prop} {B : RR → γ → δ → Prop} {m : Sem α} {m' : Sem β} {f : α → Sem γ} {f' : β → Sem δ}
    (h : Sim P A r m m') (k : ∀ (r1 : RR), r.le r1 → ∀ a b, A r1 a b → Sim P B r1 (f a) (f' b)) : Sim P B r (m >>= f) (m' >>= f') := by
  intro n0 wr w0 s w x s1 hr he
  rw [ev_bind] at he
  cases hm : ev P wr m s with
  | none => simp [hm] at he
  | some y =>
    obtain ⟨a, s2⟩ := y
    simp only [hm, Option.bind_some] at he
    obtain ⟨r1, b, w1, l1, rel1, run1, hA⟩ := h n0 wr w0 s w a s2 hr hm
    obtain ⟨r2, d, w2, l2, rel2, run2, hB⟩ := k r1 l1 a b hA n0 wr w0 s2 w1 x s1 rel1 he
    exact ⟨r2, d, w2, RR.le_trans l1 l2, rel2, by rw [Sem.run_bind, run1]; exact run2, hB⟩
theorem sim_none {A : RR → α → β → Prop} {m : Sem α} {m' : Sem β} (h : ∀ wr s, ev P wr m s = none) : Sim P A r m m' := by
  intro n0 wr w0 s w x s1 hr he
  rw [h] at he; cases he
theorem sim_mono {A B : RR → α → β → Prop} {m : Sem α} {m' : Sem β} (h : Sim P A r m m') (k : ∀ r1 a b, r.le r1 → A r1 a b → B r1 a b) : Sim P B r m m' := by
  intro n0 wr w0 s w x s1 hr he
  obtain ⟨r1, b, w1, l1, rel1, run1, hA⟩ := h n0 wr w0 s w x s1 hr he
  exact ⟨r1, b, w1, l1, rel1, run1, k r1 x b l1 hA⟩
theorem sim_load {md : Mode} {a a' : Addr} (h : AdR r a a') : Sim P VR r (Sem.load md a Sem.pure) (Sem.load md a' Sem.pure) := by
  intro n0 wr w0 s w x s1 hr he
  simp only [ev] at he
  split at he
  · rename_i v hv
    cases he
    obtain ⟨v', e', hv', _⟩ := hr.cell h hv
    exact ⟨r, v', w, RR.le_refl _, hr, by simp [Sem.run, e'], hv'⟩
  · cases he
theorem sim_store {md : Mode} {a a' : Addr} {v v' : Value} (h : AdR r a a') (hv : VR r v v') : Sim P (fun _ _ _ => True) r (Sem.store md a v (Sem.pure ())) (Sem.store md a' v' (Sem.pure ())) := by
  intro n0 wr w0 s w x s1 hr he
  have key : ∀ {u u' : Value}, VR r u u' → (match wr a.block with
      | true => match s.cell? a with
        | some _ => (some ((), s.setCell a u) : Option (Unit × World))
        | none => none
      | false => none) = some (x, s1) → Rel r n0 wr w0 s1 (w.setCell a' u') ∧ (∃ c, w.cell? a' = some c) ∧ w.frozen? a' = false := by
    intro u u' hu he
    split at he
    · rename_i hro
      split at he
      · rename_i c hc
        cases he
        obtain ⟨c', e', _, hf⟩ := hr.cell h hc
        exact ⟨hr.set h hu hro, ⟨c', e'⟩, hf hro⟩
      · cases he
    · cases he
  cases hv with
  | agg => simp [ev] at he
  | tuple => simp [ev] at he
  | _ =>
    simp only [ev] at he
    obtain ⟨h1, ⟨c, h2⟩, h3⟩ := key (by constructor <;> assumption) he
    exact ⟨r, (), _, RR.le_refl _, h1, by simp [Sem.run, h2, h3], trivial⟩
theorem sim_new {c c' : Array Value} {T T' : TypeId} {f f' : Nat × Nat} (h : AR r c c') (hf : f' = (0, 0)) :
    Sim P (fun r1 b j => r1 b j 0) r (Sem.new (.cells c T f) Sem.pure) (Sem.new (.cells c' T' f') Sem.pure) := by
  intro n0 wr w0 s w x s1 hr he
  obtain ⟨f1, f2⟩ := f
  cases f1 with
  | succ => simp [ev] at he
  | zero =>
    cases f2 with
    | succ => simp [ev] at he
    | zero =>
      simp only [ev] at he
      cases he
      refine ⟨_, w.heap.size, _, RR.le_new r _ _, hr.new (o' := .cells c' T' f') (.cells c T (0, 0) c' T' f' ?_ fun _ => hf), rfl, RR.at_new _ _ _⟩
      intro k v hv
      obtain ⟨v', a, b⟩ := h.get hv
      exact ⟨v', a, b.mono (RR.le_new _ _ _)⟩
theorem sim_program {A : RR → α → β → Prop} {k : Program → Sem α} {k' : Program → Sem β} (h : Sim P A r (k P) (k' P)) : Sim P A r (Sem.program k) (Sem.program k') := by
  intro n0 wr w0 s w x s1 hr he
  obtain ⟨r1, b, w1, l1, rel1, run1, hA⟩ := h n0 wr w0 s w x s1 hr (by simpa [ev] using he)
  exact ⟨r1, b, w1, l1, rel1, by simpa [Sem.run] using run1, hA⟩
end

/-! ### Runs that touch no memory -/
def pv {α : Type} (P : Program) : Sem α → Option α
  | .pure a => some a
  | .program k => pv P (k P)
  | .mark _ k => pv P k
  | _ => none
theorem pv_run {α : Type} {P : Program} {m : Sem α} {a : α} (h : pv P m = some a) (w : World) : m.run P w = .ok a w := by
  induction m with
  | pure x => simp [pv] at h; simp [h]
  | program k ih => simp only [pv] at h; simp only [Sem.run]; exact ih _ h
  | mark x k ih => simp only [pv] at h; simp only [Sem.run]; exact ih h
  | _ => simp [pv] at h
end Go.Proofs.Ytchedebomjmehaa.Sx
