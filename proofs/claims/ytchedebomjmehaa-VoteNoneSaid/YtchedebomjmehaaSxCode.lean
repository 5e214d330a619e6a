import Derived.Test.YtchedebomjmehaaSxNm
import Derived.OrdersHeld
namespace Go.Proofs.Ytchedebomjmehaa.Sx
open Go.RowKit
set_option linter.unusedVariables false

/-! ### Code -/
/-- What is decided ahead of each test: 'none': the test is read as it stands. -/
abbrev DS := List (Option Bool)
/-- All of some conditions. -/
def Alls : List Prop → Prop
  | [] => True
  | p :: l => p ∧ Alls l
theorem Alls.append {l l' : List Prop} (h : Alls (l ++ l')) : Alls l ∧ Alls l' := by
  induction l with
  | nil => exact ⟨trivial, h⟩
  | cons p l ih => exact ⟨⟨h.1, (ih h.2).1⟩, (ih h.2).2⟩
def test (b : Bool) : DS → Bool × DS × List Prop
  | some d :: ds => (d, ds, [b = d])
  | none :: ds => (b, ds, [])
  | [] => (b, [], [])
theorem test_ok {b : Bool} {ds : DS} (h : Alls (test b ds).2.2) : (test b ds).1 = b := by
  cases ds with
  | nil => rfl
  | cons d ds => cases d with
    | none => rfl
    | some d => exact h.1.symm
def put (t : Array Value) (d : Option Tmp) (v : Value) : Array Value := match d with
  | some d => t.setIfInBounds d v
  | none => t
/-- Behind some operations, a call, a piece of code: slots, the small world, what is left to decide, what was taken for true. -/
structure Out where
  t : Array Value
  s : World
  ds : DS
  ps : List Prop
abbrev CallF := FuncId → Array Value → DS → World → Option (Value × World × DS × List Prop)
def Out.add (ps : List Prop) : Option Out → Option Out
  | some o => some { o with ps := ps ++ o.ps }
  | none => none
def guardAt (ops : Array Oper) (t : Array Value) (j : Nat) : Option (Nat × Bool) :=
  match (ops[j]?).bind (·.dst) with
  | some d => match t[d]? with
    | some (.bool b) => some (d, b)
    | _ => none
  | none => none
def evOps (P : Program) (wr : Nat → Bool) (cl : CallF) (ops : Array Oper) : List Nat → List Nat → DS → Array Value → World → Option Out
  | [], _, ds, t, s => some ⟨t, s, ds, []⟩
  | i :: rest, seen, ds, t, s =>
    match ops[i]? with
    | none => none
    | some o =>
      let run := fun (seen : List Nat) (ds : DS) (t : Array Value) => match evOp P wr o t s with
        | some (.value v, s1) => evOps P wr cl ops rest seen ds (put t o.dst v) s1
        | some (.skip, s1) => evOps P wr cl ops rest seen ds (put t o.dst undef) s1
        | some (.enter f args, s1) => match cl f args ds s1 with
          | some (v, s2, ds2, ps) => Out.add ps (evOps P wr cl ops rest seen ds2 (put t o.dst v) s2)
          | none => none
        | none => none
      match o.guard with
      | none => run seen ds t
      | some (j, want) => match guardAt ops t j with
        | none => evOps P wr cl ops rest seen ds (put t o.dst undef) s
        | some (d, b) => match seen.contains j with
          | true => match b == want with
            | true => run seen ds t
            | false => evOps P wr cl ops rest seen ds (put t o.dst undef) s
          | false => match test b ds with
            | (b1, ds1, ps) => match b1 == want with
              | true => Out.add ps (run (j :: seen) ds1 (t.setIfInBounds d (.bool b1)))
              | false => Out.add ps (evOps P wr cl ops rest (j :: seen) ds1 (put (t.setIfInBounds d (.bool b1)) o.dst undef) s)

inductive Ex where
  | normal
  | exit (id : Nat)
  | ret
def Ex.out : Ex → Exit
  | .normal => .normal
  | .exit id => .exit id
  | .ret => .ret

/-- A contract of a call that leaves all that was there as it was: what it gives, and what must hold for that. -/
abbrev CSpec := Array Value → World → Option (Value × List Prop)
abbrev RecF := (Nat → Bool) → Code → DS → Array Value → World → Option (Ex × Out)
/-- A function's body, run. -/
def inlineF (P : Program) (rec : RecF) (wr : Nat → Bool) : CallF := fun f args ds s =>
  match P.funcs[f]? with
  | none => none
  | some fn => match fn.body with
    | none => none
    | some c => match rec wr c ds (args ++ Array.replicate (fn.ntmps - args.size) undef) s with
      | some (.normal, o) | some (.ret, o) => match ev P wr (results fn o.t) o.s with
        | some (v, _) => some (v, o.s, o.ds, o.ps)
        | none => none
      | _ => none
/-- A call of plain outcome that writes nothing that was there: the small world stays. -/
abbrev PureF := FuncId → Array Value → DS → World → Option (Value × DS × List Prop)
def pureIn (P : Program) (cs : FuncId → Option CSpec) (rec : RecF) : PureF := fun f args ds s =>
  match cs f with
  | some spec => match spec args s with
    | some (v, ps) => match pf v with
      | true => some (v, ds, ps)
      | false => none
    | none => none
  | none => match inlineF P rec (wrNew s.heap.size) f args ds s with
    | some (v, _, ds1, ps) => match pf v with
      | true => some (v, ds1, ps)
      | false => none
    | none => none
/-- Any call: first as one of plain outcome, if its arguments are plain. -/
def callIn (P : Program) (cs : FuncId → Option CSpec) (rec : RecF) (wr : Nat → Bool) : CallF := fun f args ds s =>
  match cs f with
  | some _ => match pureIn P cs rec f args ds s with
    | some (v, ds1, ps) => some (v, s, ds1, ps)
    | none => none
  | none => match pfA args with
    | false => inlineF P rec wr f args ds s
    | true => match pureIn P cs rec f args ds s with
      | some (v, ds1, ps) => some (v, s, ds1, ps)
      | none => inlineF P rec wr f args ds s
/-- The lexical order of a region that draws its order. -/
def evOpsQ (P : Program) (pc : PureF) (ops : Array Oper) (s : World) : List Oper → List Nat → DS → Array Value → Option Out
  | [], _, ds, t => some ⟨t, s, ds, []⟩
  | o :: rest, seen, ds, t =>
    let run := fun (seen : List Nat) (ds : DS) (t : Array Value) => match evOpQ P o t s with
      | some (.value v) => evOpsQ P pc ops s rest seen ds (put t o.dst v)
      | some .skip => none
      | some (.enter f args) => match pc f args ds s with
        | some (v, ds2, ps) => Out.add ps (evOpsQ P pc ops s rest seen ds2 (put t o.dst v))
        | none => none
      | none => none
    match o.guard with
    | none => run seen ds t
    | some (j, want) => match guardAt ops t j with
      | none => evOpsQ P pc ops s rest seen ds (put t o.dst undef)
      | some (d, b) => match seen.contains j with
        | true => match b == want with
          | true => run seen ds t
          | false => evOpsQ P pc ops s rest seen ds (put t o.dst undef)
        | false => match test b ds with
          | (b1, ds1, ps) => match b1 == want with
            | true => Out.add ps (run (j :: seen) ds1 (t.setIfInBounds d (.bool b1)))
            | false => Out.add ps (evOpsQ P pc ops s rest (j :: seen) ds1 (put (t.setIfInBounds d (.bool b1)) o.dst undef))
/-! A region that draws its order, and writes: what only reckons, or reads what nobody in the region writes, is taken first. -/
def valueOp (P : Program) : Op → Bool
  | .move _ | .assign _ | .pick _ _ _ | .slice _ _ _ _ _ | .field _ _ _ | .indexAddr _ _ _ | .extract _ _ | .makeInterface _ _ | .makeFunc _ _ _ => true
  | .build t _ => zeroPf P t
  | .fieldAddr t _ f => fieldOk P t f
  | _ => false
def lenOk (t : Array Value) : Op → Bool
  | .call ⟨.builtin .len, args, _⟩ => match args[0]? with
    | some x => match evT t x with
      | .slice _ _ _ | .string _ => true
      | _ => false
    | none => false
  | _ => false
/-- Which block a load reads. -/
def loadOf (t : Array Value) : Op → Option Nat
  | .load _ a => match evT t a with
    | .pointer (some x) => some x.block
    | _ => none
  | _ => none
def evOpH (P : Program) (st : Nat → Bool) (o : Oper) (t : Array Value) (s : World) : Option Value :=
  match o.op.operands.all okOperand with
  | false => none
  | true => match nilOf P (evT t) o.op with
    | some v => some v
    | none =>
      match (match loadOf t o.op with | some b => st b | none => valueOp P o.op || lenOk t o.op) with
      | true => match ev P (wrNew s.heap.size) (execOp (evT t) o) s with
        | some (.value v, _) => some v
        | _ => none
      | false => match pureOp o.op && o.op.operands.all fun x => pf (evT t x) with
        | true => match pvOp P (evT t) o with
          | some v => match pf v with
            | true => some v
            | false => none
          | none => none
        | false => none
structure Cand where
  seen : List Nat
  ds : DS
  t : Array Value
  ps : List Prop
  v : Value
def candAt (P : Program) (st : Nat → Bool) (ops : Array Oper) (listed : Array Bool) (seen : List Nat) (ds : DS) (t : Array Value) (s : World) (i : Nat) : Option Cand :=
  match ops[i]? with
  | none => none
  | some o => match Region.free .any ops listed i with
    | false => none
    | true => match o.guard with
      | none => match evOpH P st o t s with
        | some v => some ⟨seen, ds, t, [], v⟩
        | none => none
      | some (j, want) => match guardAt ops t j with
        | none => some ⟨seen, ds, t, [], undef⟩
        | some (d, b) => match seen.contains j with
          | true => match b == want with
            | true => match evOpH P st o t s with
              | some v => some ⟨seen, ds, t, [], v⟩
              | none => none
            | false => some ⟨seen, ds, t, [], undef⟩
          | false => match test b ds with
            | (b1, ds1, ps) => match b1 == want with
              | true => match evOpH P st o (t.setIfInBounds d (.bool b1)) s with
                | some v => some ⟨j :: seen, ds1, t.setIfInBounds d (.bool b1), ps, v⟩
                | none => none
              | false => some ⟨j :: seen, ds1, t.setIfInBounds d (.bool b1), ps, undef⟩
def pick1 {α : Type} (f : Nat → Option α) : List Nat → Option (Nat × α)
  | [] => none
  | i :: l => match f i with
    | some a => some (i, a)
    | none => pick1 f l
def dstOf (ops : Array Oper) (i : Nat) : Option Tmp := (ops[i]?).bind (·.dst)
def seenOf (ops : Array Oper) (seen : List Nat) (i : Nat) : List Nat := match (ops[i]?).bind (·.guard) with
  | some (j, _) => j :: seen
  | none => seen
def evH (P : Program) (cl : CallF) (wr : Nat → Bool) (st : Nat → Bool) (ops : Array Oper) : Nat → Array Bool → List Nat → DS → Array Value → World → Option Out
  | 0, listed, _, ds, t, s => match Region.ready .any ops listed with
    | [] => some ⟨t, s, ds, []⟩
    | _ => none
  | fuel + 1, listed, seen, ds, t, s => match Region.ready .any ops listed with
    | [] => some ⟨t, s, ds, []⟩
    | i0 :: rs => match pick1 (candAt P st ops listed seen ds t s) (i0 :: rs) with
      | some (i, c) => Out.add c.ps (evH P cl wr st ops fuel (listed.setIfInBounds i true) c.seen c.ds (put c.t (dstOf ops i) c.v) s)
      | none => match rs with
        | [] => match evOps P wr cl ops [i0] seen ds t s with
          | some o => Out.add o.ps (evH P cl wr st ops fuel (listed.setIfInBounds i0 true) (seenOf ops seen i0) o.ds o.t o.s)
          | none => none
        | _ => none
def writesNone (ops : Array Oper) : Bool := ops.all fun o => match o.op with
  | .store _ _ _ | .alloc _ | .box _ _ | .buildSlice _ _ _ | .makeSlice _ _ _ => false
  | _ => true
def ptrOf : Value → Option Nat
  | .pointer (some x) => some x.block
  | .slice (some x) _ _ => some x.block
  | .map (some b) => some b
  | _ => none
/-- The blocks that a region may write: where it stores, and what it hands to those that it calls. -/
def targets (ops : Array Oper) (t : Array Value) : List Nat := ops.toList.flatMap fun o => match o.op with
  | .store _ a _ => (ptrOf (evT t a)).toList
  | .call ⟨_, args, _⟩ => args.toList.filterMap fun a => ptrOf (evT t a)
  | _ => []
def stay (W : List Nat) (wr : Nat → Bool) (n : Nat) : Nat → Bool := fun i => Nat.blt i n && !(W.contains i && wr i)

def evCode (P : Program) (cs : FuncId → Option CSpec) : Nat → RecF
  | 0, _, _, _, _, _ => none
  | n + 1, wr, code, ds, t, s =>
    match code with
    | .skip => some (.normal, ⟨t, s, ds, []⟩)
    | .ret => some (.ret, ⟨t, s, ds, []⟩)
    | .exit id => some (.exit id, ⟨t, s, ds, []⟩)
    | .region _ ops false => match evOps P wr (callIn P cs (evCode P cs n) wr) ops (List.range ops.size) [] ds t s with
      | some o => some (.normal, o)
      | none => none
    | .region _ ops true => match P.follows .mixedOrders && Region.lexB .any ops with
      | true => match (match writesNone ops with | true => evOpsQ P (pureIn P cs (evCode P cs n)) ops s ops.toList [] ds t | false => none) with
        | some o => some (.normal, o)
        | none => match Region.noSelect ops with
          | true => match evOps P wr (callIn P cs (evCode P cs n) wr) ops (List.range ops.size) [] ds t s with
            | some d => match evH P (callIn P cs (evCode P cs n) (wrOf (targets ops d.t) wr s.heap.size)) (wrOf (targets ops d.t) wr s.heap.size) (stay (targets ops d.t) wr s.heap.size)
                ops ops.size (Array.replicate ops.size false) [] ds t s with
              | some o => some (.normal, o)
              | none => none
            | none => none
          | false => none
      | false => none
    | .seq a b => match evCode P cs n wr a ds t s with
      | some (.normal, o) => match evCode P cs n wr b o.ds o.t o.s with
        | some (e, o2) => some (e, { o2 with ps := o.ps ++ o2.ps })
        | none => none
      | x => x
    | .cond c x y => match evT t c with
      | .bool b => match test b ds with
        | (b1, ds1, ps) => match evCode P cs n wr (match b1 with | true => x | false => y) ds1 t s with
          | some (e, o) => some (e, { o with ps := ps ++ o.ps })
          | none => none
      | _ => none
    | .block id c => match evCode P cs n wr c ds t s with
      | some (.exit id', o) => match Nat.beq id' id with
        | true => some (.normal, o)
        | false => some (.exit id', o)
      | x => x
    | .loop c => match evCode P cs n wr c ds t s with
      | some (.normal, o) => match evCode P cs n wr (.loop c) o.ds o.t o.s with
        | some (e, o2) => some (e, { o2 with ps := o.ps ++ o2.ps })
        | none => none
      | x => x
    | _ => none

section
variable {P : Program} {wr : Nat → Bool}
/-- What a call's outcome says of the true world. -/
def CallPost (wr : Nat → Bool) (n0 : Nat) (w0 : World) (r : RR) (v : Value) (s1 : World) : Ending → World → Prop := fun e w1 =>
  ∃ (r1 : RR) (v' : Value), r.le r1 ∧ Rel r1 n0 wr w0 s1 w1 ∧ e = .returned v' ∧ VR r1 v v'
def ClOk (P : Program) (wr : Nat → Bool) (cl : CallF) : Prop := ∀ (f : FuncId) (args : Array Value) (ds : DS) (s : World) (v : Value) (s1 : World) (ds1 : DS) (ps : List Prop),
  cl f args ds s = some (v, s1, ds1, ps) → Alls ps → ∀ (r : RR) (n0 : Nat) (w0 w : World) (args' : Array Value), Rel r n0 wr w0 s w → AR r args args' →
    Calls P f args' w (CallPost wr n0 w0 r v s1)
def PcOk (P : Program) (pc : PureF) : Prop := ∀ (f : FuncId) (args : Array Value) (ds : DS) (s : World) (v : Value) (ds1 : DS) (ps : List Prop),
  pc f args ds s = some (v, ds1, ps) → Alls ps → pf v = true ∧ ∀ (r : RR) (n0 : Nat) (wr : Nat → Bool) (w0 w : World) (args' : Array Value), Rel r n0 wr w0 s w → AR r args args' →
    Calls P f args' w (fun e w1 => e = .returned v ∧ Below w.heap.size w w1)
def CsOk (P : Program) (cs : FuncId → Option CSpec) : Prop := ∀ (f : FuncId) (spec : CSpec), cs f = some spec → ∀ (args : Array Value) (s : World) (v : Value) (ps : List Prop),
  spec args s = some (v, ps) → Alls ps → ∀ (r : RR) (n0 : Nat) (wr : Nat → Bool) (w0 w : World) (args' : Array Value), Rel r n0 wr w0 s w → AR r args args' →
    Calls P f args' w (fun e w1 => e = .returned v ∧ Below w.heap.size w w1)

theorem put_rel {r : RR} {t t' : Array Value} (h : AR r t t') (d : Option Tmp) {v v' : Value} (hv : VR r v v') : AR r (put t d v) ((Act.mk t' []).put d v').tmps := by
  cases d with
  | none => exact h
  | some d => exact h.set d hv
theorem put_defers (t' : Array Value) (d : Option Tmp) (v' : Value) : ((Act.mk t' []).put d v') = ⟨((Act.mk t' []).put d v').tmps, []⟩ := by cases d <;> rfl
theorem add_some {ps : List Prop} {x : Option Out} {o : Out} (h : Out.add ps x = some o) : ∃ o', x = some o' ∧ o.t = o'.t ∧ o.s = o'.s ∧ o.ds = o'.ds ∧ o.ps = ps ++ o'.ps := by
  cases x with
  | none => cases h
  | some y => cases h; exact ⟨y, rfl, rfl, rfl, rfl, rfl⟩
theorem VR_bool {r : RR} {b : Bool} {v' : Value} (h : VR r (.bool b) v') : v' = .bool b := by cases h; rfl

theorem guardAt_none {r : RR} {ops : Array Oper} {t t' : Array Value} {j : Nat} (h : AR r t t') (hg : guardAt ops t j = none) : yielded ops t' j = none := by
  unfold guardAt at hg
  unfold yielded
  cases hd : (ops[j]?).bind (·.dst) with
  | none => simp
  | some d =>
    simp only [hd] at hg
    simp only [Option.bind_some]
    cases ht : t[d]? with
    | none => simp [h.none ht]
    | some v =>
      obtain ⟨v', e, hv⟩ := h.get ht
      simp only [ht] at hg
      rw [e]
      cases hv with
      | bool b => simp at hg
      | _ => rfl
theorem guardAt_some {r : RR} {ops : Array Oper} {t t' : Array Value} {j d : Nat} {b : Bool} (h : AR r t t') (hg : guardAt ops t j = some (d, b)) : yielded ops t' j = some b ∧ t[d]? = some (.bool b) := by
  unfold guardAt at hg
  unfold yielded
  cases hd : (ops[j]?).bind (·.dst) with
  | none => simp [hd] at hg
  | some d0 =>
    simp only [hd] at hg
    simp only [Option.bind_some]
    cases ht : t[d0]? with
    | none => simp [ht] at hg
    | some v =>
      obtain ⟨v', e, hv⟩ := h.get ht
      simp only [ht] at hg
      rw [e]
      cases hv with
      | bool b0 => simp only [Option.some.injEq, Prod.mk.injEq] at hg; obtain ⟨rfl, rfl⟩ := hg; exact ⟨rfl, ht⟩
      | _ => simp at hg
theorem set_same {r : RR} {t t' : Array Value} {d : Nat} {b : Bool} (h : AR r t t') (ht : t[d]? = some (.bool b)) : AR r (t.setIfInBounds d (.bool b)) t' := by
  have : t.setIfInBounds d (.bool b) = t := by
    apply Array.ext (by simp)
    intro i h1 h2
    rw [Array.getElem_setIfInBounds (by simpa using h1)]
    split
    · rename_i e; subst e; rw [Array.getElem?_eq_some_iff] at ht; obtain ⟨_, e⟩ := ht; exact e.symm
    · rfl
  rw [this]; exact h

theorem evOps_sound {cl : CallF} (hcl : ClOk P wr cl) {ops : Array Oper} : ∀ (l seen : List Nat) (ds : DS) (t : Array Value) (s : World) (o : Out), evOps P wr cl ops l seen ds t s = some o → Alls o.ps →
    ∀ (r : RR) (n0 : Nat) (w0 w : World) (t' : Array Value) (Q : Exit → Act → World → Prop), Rel r n0 wr w0 s w → AR r t t' →
      (∀ (r1 : RR) (t1' : Array Value) (w1 : World), r.le r1 → Rel r1 n0 wr w0 o.s w1 → AR r1 o.t t1' → Q .normal ⟨t1', []⟩ w1) → wpOps P ops Q l ⟨t', []⟩ w
  | [], seen, ds, t, s, o, h, hp, r, n0, w0, w, t', Q, hr, ht, hQ => by
    simp only [evOps, Option.some.injEq] at h; subst h
    exact hQ r t' w (RR.le_refl _) hr ht
  | i :: rest, seen, ds, t, s, o, h, hp, r, n0, w0, w, t', Q, hr, ht, hQ => by
    have ih := evOps_sound hcl (ops := ops) rest
    unfold evOps at h
    unfold wpOps
    cases hi : ops[i]? with
    | none => simp [hi] at h
    | some op =>
      simp only [hi] at h ⊢
      -- one operation that is run
      have run : ∀ (seen : List Nat) (ds : DS) (t : Array Value) (o : Out), AR r t t' → (match evOp P wr op t s with
          | some (.value v, s1) => evOps P wr cl ops rest seen ds (put t op.dst v) s1
          | some (.skip, s1) => evOps P wr cl ops rest seen ds (put t op.dst undef) s1
          | some (.enter f args, s1) => match cl f args ds s1 with
            | some (v, s2, ds2, ps) => Out.add ps (evOps P wr cl ops rest seen ds2 (put t op.dst v) s2)
            | none => none
          | none => none) = some o → Alls o.ps →
          (∀ (r1 : RR) (t1' : Array Value) (w1 : World), r.le r1 → Rel r1 n0 wr w0 o.s w1 → AR r1 o.t t1' → Q .normal ⟨t1', []⟩ w1) →
          op.wp P ⟨t', []⟩ w (wpOps P ops Q rest) Q := by
        intro seen ds t o ht h hp hQ
        cases he : evOp P wr op t s with
        | none => simp [he] at h
        | some p =>
          obtain ⟨x, s1⟩ := p
          obtain ⟨r1, y, w1, l1, rel1, run1, hx⟩ := evOp_sound he hr ht
          have run1' : (execOp (Act.mk t' []).eval op).run P w = .ok y w1 := run1
          unfold Oper.wp
          rw [run1']
          cases hx with
          | value v v' hv =>
            simp only [he] at h
            rw [Oper.upon_value, put_defers]
            exact ih seen ds _ s1 o h hp r1 n0 w0 w1 _ Q rel1 (put_rel (ht.mono l1) _ hv) fun r2 t1' w2 l2 => hQ r2 t1' w2 (RR.le_trans l1 l2)
          | skip =>
            simp only [he] at h
            rw [Oper.upon_skip, put_defers]
            exact ih seen ds _ s1 o h hp r1 n0 w0 w1 _ Q rel1 (put_rel (ht.mono l1) _ (VR.undef _)) fun r2 t1' w2 l2 => hQ r2 t1' w2 (RR.le_trans l1 l2)
          | enter f a a' ha =>
            simp only [he] at h
            cases hc : cl f a ds s1 with
            | none => simp [hc] at h
            | some q =>
              obtain ⟨v, s2, ds2, ps⟩ := q
              simp only [hc] at h
              obtain ⟨o', ho', e1, e2, e3, e4⟩ := add_some h
              rw [e4] at hp
              obtain ⟨hp1, hp2⟩ := hp.append
              rw [Oper.upon_enter]
              refine (hcl f a ds s1 v s2 ds2 ps hc hp1 r1 n0 w0 w1 a' rel1 ha).mono ?_
              rintro e w2 ⟨r2, v', l2, rel2, rfl, hv⟩
              simp only
              rw [put_defers]
              refine ih seen ds2 _ s2 o' ho' hp2 r2 n0 w0 w2 _ Q rel2 (put_rel ((ht.mono l1).mono l2) _ hv) fun r3 t1' w3 l3 rel3 ht3 => hQ r3 t1' w3 (RR.le_trans l1 (RR.le_trans l2 l3)) ?_ ?_
              · rw [e2]; exact rel3
              · rw [e1]; exact ht3
      -- one that is passed over
      have pass : ∀ (seen : List Nat) (ds : DS) (t : Array Value) (o : Out), AR r t t' → evOps P wr cl ops rest seen ds (put t op.dst undef) s = some o → Alls o.ps →
          (∀ (r1 : RR) (t1' : Array Value) (w1 : World), r.le r1 → Rel r1 n0 wr w0 o.s w1 → AR r1 o.t t1' → Q .normal ⟨t1', []⟩ w1) →
          wpOps P ops Q rest ((Act.mk t' []).put op.dst undef) w := by
        intro seen ds t o ht h hp hQ
        rw [put_defers]
        exact ih seen ds _ s o h hp r n0 w0 w _ Q hr (put_rel ht _ (VR.undef _)) hQ
      cases hg : op.guard with
      | none =>
        simp only [hg] at h
        rw [if_pos (by simp [Region.wanted, hg])]
        exact .inl (run seen ds t o ht h hp hQ)
      | some jw =>
        obtain ⟨j, want⟩ := jw
        simp only [hg] at h
        cases hga : guardAt ops t j with
        | none =>
          simp only [hga] at h
          rw [if_neg (by simp [Region.wanted, hg, guardAt_none ht hga])]
          exact pass seen ds t o ht h hp hQ
        | some db =>
          obtain ⟨d, b⟩ := db
          obtain ⟨hy, htd⟩ := guardAt_some ht hga
          simp only [hga] at h
          have hw : Region.wanted op (yielded ops t') = (b == want) := by
            simp only [Region.wanted, hg, hy]; cases b <;> cases want <;> rfl
          cases hs : seen.contains j with
          | true =>
            simp only [hs] at h
            cases hbw : b == want with
            | true => simp only [hbw] at h; rw [if_pos (by rw [hw, hbw])]; exact .inl (run seen ds t o ht h hp hQ)
            | false => simp only [hbw] at h; rw [if_neg (by rw [hw, hbw]; simp)]; exact pass seen ds t o ht h hp hQ
          | false =>
            simp only [hs] at h
            cases htest : test b ds with
            | mk b1 q =>
              obtain ⟨ds1, ps⟩ := q
              simp only [htest] at h
              cases hbw : b1 == want with
              | true =>
                simp only [hbw] at h
                obtain ⟨o', ho', e1, e2, e3, e4⟩ := add_some h
                rw [e4] at hp
                obtain ⟨hp1, hp2⟩ := hp.append
                have hb : b1 = b := by have := test_ok (b := b) (ds := ds) (by rw [htest]; exact hp1); rw [htest] at this; exact this
                subst hb
                rw [if_pos (by rw [hw, hbw])]
                exact .inl (run (j :: seen) ds1 _ o' (set_same ht htd) ho' hp2 (by rw [← e1, ← e2]; exact hQ))
              | false =>
                simp only [hbw] at h
                obtain ⟨o', ho', e1, e2, e3, e4⟩ := add_some h
                rw [e4] at hp
                obtain ⟨hp1, hp2⟩ := hp.append
                have hb : b1 = b := by have := test_ok (b := b) (ds := ds) (by rw [htest]; exact hp1); rw [htest] at this; exact this
                subst hb
                rw [if_neg (by rw [hw, hbw]; simp)]
                exact pass (j :: seen) ds1 _ o' (set_same ht htd) ho' hp2 (by rw [← e1, ← e2]; exact hQ)

theorem evOpsQ_sound {pc : PureF} (hpc : PcOk P pc) {ops : Array Oper} {s : World} : ∀ (l : List Oper) (seen : List Nat) (ds : DS) (t : Array Value) (o : Out), evOpsQ P pc ops s l seen ds t = some o → Alls o.ps →
    ∀ (r : RR) (n0 : Nat) (w0 w : World) (t' : Array Value) (Q : Act → Prop), Rel r n0 wr w0 s w → AR r t t' →
      (∀ (t1' : Array Value), AR r o.t t1' → Q ⟨t1', []⟩) → wpQuiet P ops (fun w' => Rel r n0 wr w0 s w') Q l ⟨t', []⟩
  | [], seen, ds, t, o, h, hp, r, n0, w0, w, t', Q, hr, ht, hQ => by
    simp only [evOpsQ, Option.some.injEq] at h; subst h
    exact hQ t' ht
  | op :: rest, seen, ds, t, o, h, hp, r, n0, w0, w, t', Q, hr, ht, hQ => by
    have ih := evOpsQ_sound hpc (ops := ops) (s := s) rest
    unfold evOpsQ at h
    unfold wpQuiet
    have run : ∀ (seen : List Nat) (ds : DS) (t : Array Value) (o : Out), AR r t t' → (match evOpQ P op t s with
        | some (.value v) => evOpsQ P pc ops s rest seen ds (put t op.dst v)
        | some .skip => none
        | some (.enter f args) => match pc f args ds s with
          | some (v, ds2, ps) => Out.add ps (evOpsQ P pc ops s rest seen ds2 (put t op.dst v))
          | none => none
        | none => none) = some o → Alls o.ps → (∀ (t1' : Array Value), AR r o.t t1' → Q ⟨t1', []⟩) →
        op.quiet P ⟨t', []⟩ (fun w' => Rel r n0 wr w0 s w') (wpQuiet P ops (fun w' => Rel r n0 wr w0 s w') Q rest) := by
      intro seen ds t o ht h hp hQ
      cases he : evOpQ P op t s with
      | none => simp [he] at h
      | some x =>
        cases x with
        | skip => simp [he] at h
        | value v =>
          simp only [he] at h
          obtain ⟨y, run1, hx⟩ := evOpQ_sound he hr ht
          cases hx with
          | value _ v' hv =>
            refine ⟨v', ?_, ?_⟩
            · intro w2 hr2
              obtain ⟨y2, run2, hx2⟩ := evOpQ_sound he hr2 ht
              cases hx2 with
              | value _ v2 hv2 =>
                unfold Oper.quietAt
                have run2' : (execOp (Act.mk t' []).eval op).run P w2 = .ok (.value v2) w2 := run2
                rw [run2']
                exact ⟨rfl, (VR.fn hr.fn hv hv2).symm⟩
            · rw [put_defers]
              exact ih seen ds _ o h hp r n0 w0 w _ Q hr (put_rel ht _ hv) hQ
        | enter f args =>
          simp only [he] at h
          cases hc : pc f args ds s with
          | none => simp [hc] at h
          | some q =>
            obtain ⟨v, ds2, ps⟩ := q
            simp only [hc] at h
            obtain ⟨o', ho', e1, e2, e3, e4⟩ := add_some h
            rw [e4] at hp
            obtain ⟨hp1, hp2⟩ := hp.append
            obtain ⟨hpf, hcall⟩ := hpc f args ds s v ds2 ps hc hp1
            refine ⟨v, ?_, ?_⟩
            · intro w2 hr2
              obtain ⟨y2, run2, hx2⟩ := evOpQ_sound he hr2 ht
              cases hx2 with
              | enter _ _ a' ha =>
                unfold Oper.quietAt
                have run2' : (execOp (Act.mk t' []).eval op).run P w2 = .ok (.enter f a') w2 := run2
                rw [run2']
                refine ⟨rfl, (hcall r n0 wr w0 w2 a' hr2 ha).mono ?_⟩
                rintro e w3 ⟨rfl, hb⟩
                exact ⟨rfl, hr2.later hb⟩
            · rw [put_defers]
              exact ih seen ds2 _ o' ho' hp2 r n0 w0 w _ Q hr (put_rel ht _ (VR.refl r hpf)) (by rw [← e1]; exact hQ)
    have pass : ∀ (seen : List Nat) (ds : DS) (t : Array Value) (o : Out), AR r t t' → evOpsQ P pc ops s rest seen ds (put t op.dst undef) = some o → Alls o.ps →
        (∀ (t1' : Array Value), AR r o.t t1' → Q ⟨t1', []⟩) → wpQuiet P ops (fun w' => Rel r n0 wr w0 s w') Q rest ((Act.mk t' []).put op.dst undef) := by
      intro seen ds t o ht h hp hQ
      rw [put_defers]
      exact ih seen ds _ o h hp r n0 w0 w _ Q hr (put_rel ht _ (VR.undef _)) hQ
    cases hg : op.guard with
    | none =>
      simp only [hg] at h
      rw [if_pos (by simp [Region.wanted, hg])]
      exact run seen ds t o ht h hp hQ
    | some jw =>
      obtain ⟨j, want⟩ := jw
      simp only [hg] at h
      cases hga : guardAt ops t j with
      | none =>
        simp only [hga] at h
        rw [if_neg (by simp [Region.wanted, hg, guardAt_none ht hga])]
        exact pass seen ds t o ht h hp hQ
      | some db =>
        obtain ⟨d, b⟩ := db
        obtain ⟨hy, htd⟩ := guardAt_some ht hga
        simp only [hga] at h
        have hw : Region.wanted op (yielded ops t') = (b == want) := by
          simp only [Region.wanted, hg, hy]; cases b <;> cases want <;> rfl
        cases hs : seen.contains j with
        | true =>
          simp only [hs] at h
          cases hbw : b == want with
          | true => simp only [hbw] at h; rw [if_pos (by rw [hw, hbw])]; exact run seen ds t o ht h hp hQ
          | false => simp only [hbw] at h; rw [if_neg (by rw [hw, hbw]; simp)]; exact pass seen ds t o ht h hp hQ
        | false =>
          simp only [hs] at h
          cases htest : test b ds with
          | mk b1 q =>
            obtain ⟨ds1, ps⟩ := q
            simp only [htest] at h
            cases hbw : b1 == want with
            | true =>
              simp only [hbw] at h
              obtain ⟨o', ho', e1, e2, e3, e4⟩ := add_some h
              rw [e4] at hp
              obtain ⟨hp1, hp2⟩ := hp.append
              have hb : b1 = b := by have := test_ok (b := b) (ds := ds) (by rw [htest]; exact hp1); rw [htest] at this; exact this
              subst hb
              rw [if_pos (by rw [hw, hbw])]
              exact run (j :: seen) ds1 _ o' (set_same ht htd) ho' hp2 (by rw [← e1]; exact hQ)
            | false =>
              simp only [hbw] at h
              obtain ⟨o', ho', e1, e2, e3, e4⟩ := add_some h
              rw [e4] at hp
              obtain ⟨hp1, hp2⟩ := hp.append
              have hb : b1 = b := by have := test_ok (b := b) (ds := ds) (by rw [htest]; exact hp1); rw [htest] at this; exact this
              subst hb
              rw [if_neg (by rw [hw, hbw]; simp)]
              exact pass (j :: seen) ds1 _ o' (set_same ht htd) ho' hp2 (by rw [← e1]; exact hQ)
theorem evOpsQ_world {pc : PureF} {ops : Array Oper} {s : World} : ∀ (l : List Oper) (seen : List Nat) (ds : DS) (t : Array Value) (o : Out), evOpsQ P pc ops s l seen ds t = some o → o.s = s
  | [], seen, ds, t, o, h => by simp only [evOpsQ, Option.some.injEq] at h; subst h; rfl
  | op :: rest, seen, ds, t, o, h => by
    have ih := evOpsQ_world (pc := pc) (ops := ops) (s := s) rest
    unfold evOpsQ at h
    have run : ∀ (seen : List Nat) (ds : DS) (t : Array Value) (o : Out), (match evOpQ P op t s with
        | some (.value v) => evOpsQ P pc ops s rest seen ds (put t op.dst v)
        | some .skip => none
        | some (.enter f args) => match pc f args ds s with
          | some (v, ds2, ps) => Out.add ps (evOpsQ P pc ops s rest seen ds2 (put t op.dst v))
          | none => none
        | none => none) = some o → o.s = s := by
      intro seen ds t o h
      cases he : evOpQ P op t s with
      | none => simp [he] at h
      | some x =>
        cases x with
        | skip => simp [he] at h
        | value v => simp only [he] at h; exact ih _ _ _ _ h
        | enter f args =>
          simp only [he] at h
          cases hc : pc f args ds s with
          | none => simp [hc] at h
          | some q =>
            simp only [hc] at h
            obtain ⟨o', ho', e1, e2, e3, e4⟩ := add_some h
            rw [e2]; exact ih _ _ _ _ ho'
    cases hg : op.guard with
    | none => simp only [hg] at h; exact run _ _ _ _ h
    | some jw =>
      obtain ⟨j, want⟩ := jw
      simp only [hg] at h
      cases hga : guardAt ops t j with
      | none => simp only [hga] at h; exact ih _ _ _ _ h
      | some db =>
        obtain ⟨d, b⟩ := db
        simp only [hga] at h
        cases hs : seen.contains j with
        | true =>
          simp only [hs] at h
          cases hbw : b == want with
          | true => simp only [hbw] at h; exact run _ _ _ _ h
          | false => simp only [hbw] at h; exact ih _ _ _ _ h
        | false =>
          simp only [hs] at h
          cases hbw : (test b ds).1 == want with
          | true =>
            simp only [hbw] at h
            obtain ⟨o', ho', e1, e2, e3, e4⟩ := add_some h
            rw [e2]; exact run _ _ _ _ ho'
          | false =>
            simp only [hbw] at h
            obtain ⟨o', ho', e1, e2, e3, e4⟩ := add_some h
            rw [e2]; exact ih _ _ _ _ ho'
end
end Go.Proofs.Ytchedebomjmehaa.Sx
