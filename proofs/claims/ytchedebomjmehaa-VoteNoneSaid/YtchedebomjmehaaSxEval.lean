import Derived.Test.YtchedebomjmehaaSxOps2
import Derived.WalkSpells
namespace Go.Proofs.Ytchedebomjmehaa.Sx
open Go.RowKit
set_option linter.unusedVariables false

section
variable {P : Program} {r : RR}
/-- The same, where memory is only read: the worlds stay. -/
def SimQ {α β : Type} (P : Program) (A : RR → α → β → Prop) (r : RR) (m : Sem α) (m' : Sem β) : Prop :=
  ∀ (n0 : Nat) (wr : Nat → Bool) (w0 s w : World) (a : α) (s1 : World), Rel r n0 wr w0 s w → ev P wr m s = some (a, s1) →
    s1 = s ∧ ∃ b : β, m'.run P w = .ok b w ∧ A r a b
theorem simq_pure {α β : Type} {A : RR → α → β → Prop} {a : α} {b : β} (h : A r a b) : SimQ P A r (pure a) (pure b) := by
  intro n0 wr w0 s w x s1 hr he
  cases he
  exact ⟨rfl, b, rfl, h⟩
theorem simq_bind {α β γ δ : Type} {A : RR → α → β → Prop} {B : RR → γ → δ → Prop} {m : Sem α} {m' : Sem β} {f : α → Sem γ} {f' : β → Sem δ}
    (h : SimQ P A r m m') (k : ∀ a b, A r a b → SimQ P B r (f a) (f' b)) : SimQ P B r (m >>= f) (m' >>= f') := by
  intro n0 wr w0 s w x s1 hr he
  rw [ev_bind] at he
  cases hm : ev P wr m s with
  | none => simp [hm] at he
  | some y =>
    obtain ⟨a, s2⟩ := y
    simp only [hm, Option.bind_some] at he
    obtain ⟨rfl, b, run1, hA⟩ := h n0 wr w0 s w a s2 hr hm
    obtain ⟨rfl, d, run2, hB⟩ := k a b hA n0 wr w0 _ w x s1 hr he
    exact ⟨rfl, d, by rw [Sem.run_bind, run1]; exact run2, hB⟩
theorem simq_none {α β : Type} {A : RR → α → β → Prop} {m : Sem α} {m' : Sem β} (h : ∀ wr s, ev P wr m s = none) : SimQ P A r m m' := by
  intro n0 wr w0 s w x s1 hr he
  rw [h] at he; cases he
theorem simq_still {α : Type} {m : Sem α} (h : Still P m) : SimQ P EqR r m m := by
  intro n0 wr w0 s w x s1 hr he
  rw [h] at he
  cases hm : pv P m with
  | none => simp [hm] at he
  | some y =>
    simp only [hm, Option.map_some, Option.some.injEq, Prod.mk.injEq] at he
    obtain ⟨rfl, rfl⟩ := he
    exact ⟨rfl, y, pv_run hm w, rfl⟩
theorem simq_load {md : Mode} {a a' : Addr} (h : AdR r a a') : SimQ P VR r (Sem.load md a Sem.pure) (Sem.load md a' Sem.pure) := by
  intro n0 wr w0 s w x s1 hr he
  simp only [ev] at he
  split at he
  · rename_i v hv
    cases he
    obtain ⟨v', e', hv', _⟩ := hr.cell h hv
    exact ⟨rfl, v', by simp [Sem.run, e'], hv'⟩
  · cases he
theorem still_underlying (t : TypeId) : Still P (underlying t) := by
  unfold underlying
  refine Still.bind (m := program) (fun wr s => rfl) fun p => ?_
  split
  · exact .pure _
  · exact .halt _
theorem still_isAgg (t : TypeId) : Still P (isAgg t) := by
  unfold isAgg
  refine (still_underlying t).bind fun d => ?_
  split <;> exact .pure _
theorem simq_loadCellsFrom {a a' : Addr} (h : AdR r a a') : ∀ (n i : Nat) (acc acc' : Array Value), AR r acc acc' → SimQ P AR r (loadCellsFrom a i n acc) (loadCellsFrom a' i n acc')
  | 0, i, acc, acc', k => by unfold loadCellsFrom; exact simq_pure k
  | n + 1, i, acc, acc', k => by
    unfold loadCellsFrom
    refine simq_bind (simq_load (h.add i)) fun v v' hv => ?_
    exact simq_loadCellsFrom h n (i + 1) _ _ (k.push hv)
theorem simq_loadVar {t : TypeId} {a a' : Addr} (h : AdR r a a') : SimQ P VR r (loadVar t a) (loadVar t a') := by
  unfold loadVar
  refine simq_bind (simq_still (still_isAgg t)) fun x y e => ?_
  subst e
  cases x with
  | false => exact simq_load h
  | true =>
    simp only [if_true]
    refine simq_bind (simq_still (still_sizeOf t)) fun n n' e => ?_
    subst e
    refine simq_bind (simq_loadCellsFrom h n 0 #[] #[] (AR.nil _)) fun c c' hc => ?_
    exact simq_pure (.agg _ _ hc.size hc.at_)
theorem simq_asAddr {v v' : Value} (h : VR r v v') : SimQ P AdR r (asAddr v) (asAddr v') := by
  cases h with
  | ptr a a' h => exact simq_pure h
  | nilPtr =>
    refine simq_none fun wr s => ?_
    simp only [asAddr, runtimePanic, ev_bind, program, ev, Option.bind_some, goPanic]
  | _ => exact simq_none fun _ _ => by simp [asAddr, stuck, ev]
theorem simq_mapM {α : Type} (f f' : α → Sem Value) (l : List α) : (∀ x ∈ l, SimQ P VR r (f x) (f' x)) →
    SimQ P (fun r a b => AR r a.toArray b.toArray) r (l.mapM f) (l.mapM f') := by
  induction l with
  | nil => intro _; simp only [List.mapM_nil]; exact simq_pure (AR.nil _)
  | cons x l ih =>
    intro h
    simp only [List.mapM_cons]
    refine simq_bind (h x (by simp)) fun v v' hv => ?_
    refine simq_bind (ih fun y hy => h y (by simp [hy])) fun vs vs' hvs => ?_
    refine simq_pure ?_
    have := (AR.one hv).append hvs
    simpa using this
theorem simq_results {fn : Func} {t t' : Array Value} (h : AR r t t') : SimQ P VR r (results fn t) (results fn t') := by
  unfold results
  rw [Array.mapM_eq_mapM_toList, Array.mapM_eq_mapM_toList, map_eq_pure_bind, map_eq_pure_bind]
  refine simq_bind (A := AR) (simq_bind (simq_mapM _ _ _ ?_) fun a b hab => simq_pure hab) fun a b hab => ?_
  · intro x _
    cases x with
    | tmp k => exact simq_pure (h.getD k)
    | cell k t0 => exact simq_bind (simq_asAddr (h.getD k)) fun a a' ha => simq_loadVar ha
  · refine simq_pure ?_
    have hs := hab.size
    by_cases h1 : a.size = 1
    · rw [dif_pos h1, dif_pos (hs ▸ h1)]
      exact hab.at_ 0 _ _ (Array.getElem?_eq_some_iff.2 ⟨by omega, rfl⟩) (Array.getElem?_eq_some_iff.2 ⟨by omega, rfl⟩)
    · rw [dif_neg h1, dif_neg (hs ▸ h1)]
      exact .tuple _ _ hab.size hab.at_
end

/-! ### One operation -/
inductive NX where
  | value (v : Value)
  | skip
  | enter (f : FuncId) (args : Array Value)
inductive NR (r : RR) : NX → Next → Prop
  | value (v v' : Value) (h : VR r v v') : NR r (.value v) (.value v')
  | skip : NR r .skip .skip
  | enter (f : FuncId) (a a' : Array Value) (h : AR r a a') : NR r (.enter f a) (.enter f a')

def okOperand : Operand → Bool
  | .tmp _ => true
  | .const v => pf v
  | .func _ => true
  | .global _ => false
def evT (t : Array Value) : Operand → Value := (Act.mk t []).eval
theorem evT_rel {r : RR} {t t' : Array Value} (h : AR r t t') {x : Operand} (hx : okOperand x = true) : VR r (evT t x) (evT t' x) := by
  cases x with
  | tmp k => exact h.getD k
  | const v => exact VR.refl r hx
  | func f => exact VR.refl r (v := .func (.func f) #[] #[]) (by simp [pf, pfA, pfL])
  | global g => simp [okOperand] at hx

def natOp (P : Program) : Op → Bool
  | .move _ | .assign _ | .pick _ _ _ | .box _ _ | .load _ _ | .store _ _ _ | .slice _ _ _ _ _ | .field _ _ _ | .indexAddr _ _ _ | .extract _ _ | .makeInterface _ _ | .makeFunc _ _ _ => true
  | .alloc t | .build t _ => zeroPf P t
  | .buildSlice t _ _ | .makeSlice t _ _ => elemPf P t
  | .fieldAddr t _ f => fieldOk P t f
  | .call ⟨.builtin .len, _, _⟩ => true
  | _ => false
/-- Operations that only reckon, where no operand bears an address. -/
def pureOp : Op → Bool
  | .binOp _ _ _ _ _ | .unOp _ _ _ | .convert _ _ _ | .index _ _ _ | .typeAssert _ _ _ _ => true
  | .call ⟨.builtin .max, _, _⟩ | .call ⟨.builtin .min, _, _⟩ => true
  | _ => false
/-- '==' on numbers, truths, texts, and structs of these. -/
def eqPart (P : Program) (eq : TypeId → Value → Value → Option Bool) (xs ys : Array Value) : List Field → Option Bool
  | [] => some true
  | f :: fs => match f.name == "_" with
    | true => eqPart P eq xs ys fs
    | false => match pv P (part f.type xs f.offset), pv P (part f.type ys f.offset) with
      | some a, some b => match eq f.type a b, eqPart P eq xs ys fs with
        | some r, some q => some (r && q)
        | _, _ => none
      | _, _ => none
def eqV (P : Program) : Nat → TypeId → Value → Value → Option Bool
  | 0, _, _, _ => none
  | d + 1, t, .int k a, .int k' b => match P.underlying t with
    | some (.int _) => if k = k' then some (a == b) else none
    | _ => none
  | d + 1, t, .bool a, .bool b => match P.underlying t with
    | some .bool => some (a == b)
    | _ => none
  | d + 1, t, .string a, .string b => match P.underlying t with
    | some .string => some (a == b)
    | _ => none
  | d + 1, t, .agg xs, .agg ys => match P.underlying t, P.stoodInHeld t with
    | some (.struct fs), false => eqPart P (eqV P d) xs ys fs.toList
    | _, _ => none
  | _, _, _, _ => none
/-- '==', '!=' on two structs. -/
def eqOf (P : Program) (ρ : Operand → Value) : Op → Option Value
  | .binOp op t x y _ => match op, ρ x, ρ y with
    | .eql, .agg xs, .agg ys => match P.eqGuardType P.depth t with
      | false => match eqV P Op.maxDepth t (.agg xs) (.agg ys) with
        | some b => some (.bool b)
        | none => none
      | true => none
    | .neq, .agg xs, .agg ys => match P.eqGuardType P.depth t with
      | false => match eqV P Op.maxDepth t (.agg xs) (.agg ys) with
        | some b => some (.bool (!b))
        | none => none
      | true => none
    | _, _, _ => none
  | _ => none
/-- What an operation gives that only reckons. -/
def pvOp (P : Program) (ρ : Operand → Value) (o : Oper) : Option Value := match eqOf P ρ o.op with
  | some v => some v
  | none => match pv P (execOp ρ o) with
    | some (.value v) => some v
    | _ => none
theorem eqPart_run {P : Program} {eq : TypeId → Value → Value → Option Bool} {d : Nat} (h : ∀ (t : TypeId) (x y : Value) (r : Bool), eq t x y = some r → ∀ w, (Op.equalIn d t x y).run P w = .ok r w)
    {xs ys : Array Value} : ∀ (fs : List Field) (r : Bool), eqPart P eq xs ys fs = some r → ∀ w, (Op.eqFields d xs ys fs).run P w = .ok r w
  | [], r, hr, w => by simp only [eqPart, Option.some.injEq] at hr; subst hr; rfl
  | f :: fs, r, hr, w => by
    unfold eqPart at hr
    unfold Op.eqFields
    cases hn : f.name == "_" with
    | true =>
      simp only [hn] at hr
      have : f.name = "_" := by simpa using hn
      rw [if_neg (by simp [this])]
      exact eqPart_run h fs r hr w
    | false =>
      simp only [hn] at hr
      have : f.name ≠ "_" := by simpa using hn
      rw [if_pos this]
      split at hr
      · rename_i a b ha hb
        split at hr
        · rename_i r1 q hr1 hq
          simp only [Option.some.injEq] at hr; subst hr
          simp only [Sem.run_bind, pv_run ha, pv_run hb, Result.andThen_ok, h _ _ _ _ hr1]
          cases r1 with
          | false => simp
          | true => simp only [Bool.not_true, Bool.false_eq_true, if_false, Bool.true_and]; exact eqPart_run h fs q hq w
        · cases hr
      · cases hr
theorem eqV_run {P : Program} : ∀ (d : Nat) (t : TypeId) (x y : Value) (r : Bool), eqV P d t x y = some r → ∀ w, (Op.equalIn d t x y).run P w = .ok r w
  | 0, t, x, y, r, h, w => by simp [eqV] at h
  | d + 1, t, x, y, r, h, w => by
    cases x with
    | int k a => cases y with
      | int k' b =>
        simp only [eqV] at h
        split at h
        · rename_i hu
          split at h
          · rename_i hk; subst hk; cases h; exact run_equalIn_int w d t _ _ _ _ hu
          · cases h
        · cases h
      | _ => simp [eqV] at h
    | bool a => cases y with
      | bool b =>
        simp only [eqV] at h
        split at h
        · rename_i hu; cases h; exact run_equalIn_bool' w d t _ _ hu
        · cases h
      | _ => simp [eqV] at h
    | string a => cases y with
      | string b =>
        simp only [eqV] at h
        split at h
        · rename_i hu; cases h; rw [run_equalIn_string w d t _ _ hu, beq_toListBytes]
        · cases h
      | _ => simp [eqV] at h
    | agg xs => cases y with
      | agg ys =>
        simp only [eqV] at h
        split at h
        · rename_i fs hu hs
          have hf : P.fieldsOf t = fs := by simp [Program.fieldsOf, hu]
          rw [run_equalIn_struct w d t _ _ (by rw [hf]; exact hu) hs, hf]
          exact eqPart_run (fun t x y r hr w => eqV_run d t x y r hr w) fs.toList r h w
        · cases h
      | _ => simp [eqV] at h
    | _ => simp [eqV] at h
theorem eqOf_run {P : Program} {ρ : Operand → Value} {o : Oper} {v : Value} (h : eqOf P ρ o.op = some v) (w : World) : (execOp ρ o).run P w = .ok (.value v) w := by
  obtain ⟨dst, op, ty, pos, aft, gd⟩ := o
  simp only at h
  unfold eqOf at h
  split at h
  · rename_i op t x y yt
    split at h
    · rename_i xs ys hx hy
      split at h
      · rename_i hg
        split at h
        · rename_i b hb
          cases h
          simp only [execOp, hx, hy, Sem.run_bind, run_eqGuard_agg w _ t _ _ _ _ hg, Result.andThen_ok, run_eql_struct]
          rw [show (10000 : Nat) = Op.maxDepth from rfl, eqV_run _ _ _ _ _ hb w]
          rfl
        · cases h
      · cases h
    · rename_i xs ys hx hy
      split at h
      · rename_i hg
        split at h
        · rename_i b hb
          cases h
          simp only [execOp, hx, hy, Sem.run_bind, run_eqGuard_agg w _ t _ _ _ _ hg, Result.andThen_ok, run_neq_struct]
          rw [show (10000 : Nat) = Op.maxDepth from rfl, eqV_run _ _ _ _ _ hb w]
          rfl
        · cases h
      · cases h
    · cases h
  · cases h
theorem pvOp_run {P : Program} {ρ : Operand → Value} {o : Oper} {v : Value} (h : pvOp P ρ o = some v) (w : World) : (execOp ρ o).run P w = .ok (.value v) w := by
  unfold pvOp at h
  split at h
  · rename_i v1 hv; cases h; exact eqOf_run hv w
  · split at h
    · rename_i v1 hv; cases h; exact pv_run hv w
    · cases h
/-- A call of a function with a body. -/
def callOf (P : Program) (ρ : Operand → Value) : Op → Option (FuncId × Array Value)
  | .call ⟨.value f, args, _⟩ => match ρ f with
    | .func (.func fid) first cap => match P.funcs[fid]? with
      | some fn => match fn.body, fn.name == "runtime.NumGoroutine" with
        | some _, false => some (fid, first ++ args.map ρ ++ cap)
        | _, _ => none
      | none => none
    | _ => none
  | _ => none
/-- nil checks, and '== nil', '!= nil' of what is not nil. -/
def nilOf (P : Program) (ρ : Operand → Value) : Op → Option Value
  | .nilCheck x => match ρ x with
    | .pointer (some a) => some (.pointer (some a))
    | _ => none
  | .binOp .eql t x y _ => match ρ x, ρ y, P.underlying t with
    | .pointer (some _), .pointer none, some (.pointer _) => some (.bool false)
    | .slice (some _) _ _, .slice none _ _, some (.slice _) => some (.bool false)
    | .map (some _), .map none, some (.map _ _) => some (.bool false)
    | _, _, _ => none
  | .binOp .neq t x y _ => match ρ x, ρ y, P.underlying t with
    | .pointer (some _), .pointer none, some (.pointer _) => some (.bool true)
    | .slice (some _) _ _, .slice none _ _, some (.slice _) => some (.bool true)
    | .map (some _), .map none, some (.map _ _) => some (.bool true)
    | _, _, _ => none
  | _ => none
theorem pointee_self {P : Program} {t e : TypeId} (h : P.underlying t = some (.pointer e)) : P.underlying t = some (.pointer (P.pointee t)) := by
  simp [Program.pointee, h]
theorem nilOf_sound {P : Program} {r : RR} {ρ ρ' : Operand → Value} {o : Oper} {v : Value} (h : nilOf P ρ o.op = some v) (hr : ∀ y, y ∈ o.op.operands → VR r (ρ y) (ρ' y)) :
    ∃ v', VR r v v' ∧ ∀ w, (execOp ρ' o).run P w = .ok (.value v') w := by
  obtain ⟨dst, op, ty, pos, aft, gd⟩ := o
  simp only at h hr
  unfold nilOf at h
  split at h
  · rename_i x
    split at h
    · rename_i a ha
      cases h
      have k := hr x (by simp [Op.operands])
      rw [ha] at k
      cases hk : ρ' x with
      | pointer b =>
        rw [hk] at k
        cases k with
        | ptr _ a' hx => exact ⟨.pointer (some a'), .ptr _ _ hx, fun w2 => by simp [execOp, hk]⟩
      | _ => rw [hk] at k; cases k
    · cases h
  · rename_i t x y yt
    have kx := hr x (by simp [Op.operands])
    have ky := hr y (by simp [Op.operands])
    split at h
    · rename_i a e hx hy hu
      cases h
      rw [hx] at kx; rw [hy] at ky
      generalize hx' : ρ' x = x' at kx
      generalize hy' : ρ' y = y' at ky
      cases kx; cases ky
      refine ⟨.bool false, .bool _, fun w2 => ?_⟩
      simp [execOp, hx', hy', eqGuard, run_eql_pointer_nil w2 t _ (pointee_self hu)]
    · rename_i a l c l' c' e hx hy hu
      cases h
      rw [hx] at kx; rw [hy] at ky
      generalize hx' : ρ' x = x' at kx
      generalize hy' : ρ' y = y' at ky
      cases kx; cases ky
      refine ⟨.bool false, .bool _, fun w2 => ?_⟩
      simp [execOp, hx', hy', eqGuard, Lib.run_eql_slice_nil w2 t e _ _ _ _ _ hu]
    · rename_i a k e hx hy hu
      cases h
      rw [hx] at kx; rw [hy] at ky
      generalize hx' : ρ' x = x' at kx
      generalize hy' : ρ' y = y' at ky
      cases kx; cases ky
      refine ⟨.bool false, .bool _, fun w2 => ?_⟩
      simp [execOp, hx', hy', eqGuard, run_eql_map_nil w2 t k e _ hu]
    · cases h
  · rename_i t x y yt
    have kx := hr x (by simp [Op.operands])
    have ky := hr y (by simp [Op.operands])
    split at h
    · rename_i a e hx hy hu
      cases h
      rw [hx] at kx; rw [hy] at ky
      generalize hx' : ρ' x = x' at kx
      generalize hy' : ρ' y = y' at ky
      cases kx; cases ky
      refine ⟨.bool true, .bool _, fun w2 => ?_⟩
      simp [execOp, hx', hy', eqGuard, run_neq_pointer_nil w2 t _ (pointee_self hu)]
    · rename_i a l c l' c' e hx hy hu
      cases h
      rw [hx] at kx; rw [hy] at ky
      generalize hx' : ρ' x = x' at kx
      generalize hy' : ρ' y = y' at ky
      cases kx; cases ky
      refine ⟨.bool true, .bool _, fun w2 => ?_⟩
      simp [execOp, hx', hy', eqGuard, run_neq_slice_nil_any w2 t e _ _ _ _ _ hu]
    · rename_i a k e hx hy hu
      cases h
      rw [hx] at kx; rw [hy] at ky
      generalize hx' : ρ' x = x' at kx
      generalize hy' : ρ' y = y' at ky
      cases kx; cases ky
      refine ⟨.bool true, .bool _, fun w2 => ?_⟩
      simp [execOp, hx', hy', eqGuard, run_neq_map_nil w2 t k e _ hu]
    · cases h
  · cases h
def evOp (P : Program) (wr : Nat → Bool) (o : Oper) (t : Array Value) (s : World) : Option (NX × World) :=
  match o.op.operands.all okOperand with
  | false => none
  | true => match callOf P (evT t) o.op with
    | some (f, args) => some (.enter f args, s)
    | none => match nilOf P (evT t) o.op with
      | some v => some (.value v, s)
      | none => match natOp P o.op with
        | true => match ev P wr (execOp (evT t) o) s with
          | some (.value v, s1) => some (.value v, s1)
          | some (.skip, s1) => some (.skip, s1)
          | _ => none
        | false => match pureOp o.op && o.op.operands.all fun x => pf (evT t x) with
          | true => match pvOp P (evT t) o with
            | some v => match pf v with
              | true => some (.value v, s)
              | false => none
            | none => none
          | false => none

section
variable {P : Program} {r : RR} {t t' : Array Value}
theorem map_congr_mem {α β : Type} (l : Array α) (f g : α → β) (h : ∀ x, x ∈ l → f x = g x) : l.map f = l.map g := by
  apply Array.ext (by simp)
  intro i h1 h2
  simp only [Array.getElem_map]
  exact h _ (Array.getElem_mem _)
theorem execOp_congr {ρ ρ' : Operand → Value} {o : Oper} (h : ∀ x, x ∈ o.op.operands → ρ x = ρ' x) (hn : pureOp o.op = true) : execOp ρ o = execOp ρ' o := by
  obtain ⟨dst, op, ty, pos, aft, gd⟩ := o
  have h : ∀ x, x ∈ op.operands → ρ x = ρ' x := h
  cases op with
  | binOp b xt x y yt => have a := h x (by simp [Op.operands]); have b := h y (by simp [Op.operands]); simp only [execOp, a, b]
  | unOp b xt x => have a := h x (by simp [Op.operands]); simp only [execOp, a]
  | convert b xt x => have a := h x (by simp [Op.operands]); simp only [execOp, a]
  | index b x y => have a := h x (by simp [Op.operands]); have b := h y (by simp [Op.operands]); simp only [execOp, a, b]
  | typeAssert x a b c => have a := h x (by simp [Op.operands]); simp only [execOp, a]
  | call c =>
    obtain ⟨callee, args, tys⟩ := c
    have e : args.map ρ = args.map ρ' := map_congr_mem args ρ ρ' fun x hx => h x (by simp [Op.operands, Call.operands, hx])
    cases callee with
    | builtin b => simp only [execOp, resolve, e]
    | value f => simp [pureOp] at hn
    | invoke a b => simp [pureOp] at hn
  | _ => simp [pureOp] at hn

theorem callOf_run {ρ : Operand → Value} {o : Oper} {f : FuncId} {args : Array Value} (h : callOf P ρ o.op = some (f, args)) (w : World) : (execOp ρ o).run P w = .ok (.enter f args) w := by
  obtain ⟨dst, op, ty, pos, aft, gd⟩ := o
  simp only at h
  unfold callOf at h
  split at h
  · rename_i x xs ts
    split at h
    · rename_i fid first cap hx
      split at h
      · rename_i fn hfn
        split at h
        · rename_i c hb hnm
          simp only [Option.some.injEq, Prod.mk.injEq] at h
          obtain ⟨rfl, rfl⟩ := h
          have hp : (program).run P w = .ok P w := rfl
          simp only [execOp, resolve, hx, Deferred.ofValue, invoke, callFunc, Sem.run_bind, Sem.run_pure, Result.andThen_ok, hp, hfn]
          simp [hnm, hb]
        · cases h
      · cases h
    · cases h
  · cases h
theorem callOf_args {ρ ρ' : Operand → Value} {op : Op} {f : FuncId} {args : Array Value} (h : callOf P ρ op = some (f, args)) (hρ : ∀ x, x ∈ op.operands → VR r (ρ x) (ρ' x)) :
    ∃ args', callOf P ρ' op = some (f, args') ∧ AR r args args' := by
  unfold callOf at h
  split at h
  · rename_i x xs ts
    split at h
    · rename_i fid first cap hx
      split at h
      · rename_i fn hfn
        split at h
        · rename_i c hb hnm
          simp only [Option.some.injEq, Prod.mk.injEq] at h
          obtain ⟨rfl, rfl⟩ := h
          have k := hρ x (by simp [Op.operands, Call.operands])
          rw [hx] at k
          cases hk : ρ' x with
          | func fn' first' cap' =>
            rw [hk] at k
            cases k with
            | func _ _ _ _ _ h1 h2 h3 h4 =>
              refine ⟨first' ++ xs.map ρ' ++ cap', ?_, ((⟨h1, h2⟩ : AR r first first').append (AR.map xs ρ ρ' fun y hy => hρ y (by simp [Op.operands, Call.operands, hy]))).append ⟨h3, h4⟩⟩
              simp only [callOf, hk, hfn, hb, hnm]
          | _ => rw [hk] at k; cases k
        · cases h
      · cases h
    · cases h
  · cases h

theorem PR_of {t t' : Array Value} (h : AR r t t') (ps : Array (Nat × Operand)) (hok : ∀ x, x ∈ ps → okOperand x.2 = true) :
    PR r (ps.map fun (i, x) => (i, evT t x)).toList (ps.map fun (i, x) => (i, evT t' x)).toList := PR.map fun x hx => evT_rel h (hok x hx)
theorem BR_of {t t' : Array Value} (h : AR r t t') (x : Option Operand) (hok : ∀ y, x = some y → okOperand y = true) : BR r (x.map (evT t)) (x.map (evT t')) := by
  cases x with
  | none => exact .none
  | some y => exact .some _ _ (evT_rel h (hok y rfl))

/-- 'Next' of a natural operation. -/
inductive XR (r : RR) : Next → Next → Prop
  | value (v v' : Value) (h : VR r v v') : XR r (.value v) (.value v')
  | skip : XR r .skip .skip
theorem sim_nat {t t' : Array Value} (h : AR r t t') {o : Oper} (hok : ∀ x, x ∈ o.op.operands → okOperand x = true) (hn : natOp P o.op = true) :
    Sim P XR r (execOp (evT t) o) (execOp (evT t') o) := by
  obtain ⟨dst, op, ty, pos, aft, gd⟩ := o
  have hok : ∀ x, x ∈ op.operands → okOperand x = true := hok
  have hn : natOp P op = true := hn
  have V : ∀ {m m' : Sem Value}, Sim P VR r m m' → Sim P XR r (do pure (.value (← m))) (do pure (.value (← m'))) := fun k => sim_bind k fun r1 l1 a b hab => sim_pure (.value _ _ hab)
  have U : ∀ {m m' : Sem Unit}, Sim P AnyR r m m' → Sim P XR r (do m; pure .skip) (do m'; pure .skip) := fun k => sim_bind k fun r1 l1 a b hab => sim_pure .skip
  cases op with
  | move x => exact sim_pure (.value _ _ (evT_rel h (hok x (by simp [Op.operands]))))
  | assign x => exact sim_pure (.value _ _ (evT_rel h (hok x (by simp [Op.operands]))))
  | pick c a b =>
    refine sim_bind (sim_asBool (evT_rel h (hok c (by simp [Op.operands])))) fun r1 l1 x x' e => ?_
    subst e
    refine sim_pure (.value _ _ ?_)
    split
    · exact (evT_rel h (hok a (by simp [Op.operands]))).mono l1
    · exact (evT_rel h (hok b (by simp [Op.operands]))).mono l1
  | alloc e => exact V (sim_alloc hn)
  | box e x => exact V (sim_box (evT_rel h (hok x (by simp [Op.operands]))))
  | build e ps => exact V (sim_build hn (PR_of h ps fun x hx => hok x.2 (by
      simp only [Op.operands, List.mem_toArray, List.mem_map]; exact ⟨x, by simpa using hx, rfl⟩)))
  | buildSlice e n ps => exact V (sim_buildSlice hn (PR_of h ps fun x hx => hok x.2 (by
      simp only [Op.operands, List.mem_toArray, List.mem_map]; exact ⟨x, by simpa using hx, rfl⟩)))
  | load e a => exact V (sim_loadAt (evT_rel h (hok a (by simp [Op.operands]))))
  | store e a x => exact U (sim_storeAt (evT_rel h (hok a (by simp [Op.operands]))) (evT_rel h (hok x (by simp [Op.operands]))))
  | makeInterface e x => exact V (sim_makeInterface (evT_rel h (hok x (by simp [Op.operands]))))
  | makeFunc fn first cap =>
    refine V (sim_pure ?_)
    have a1 := AR.map first (evT t) (evT t') fun y hy => evT_rel h (hok y (by simp [Op.operands, hy]))
    have a2 := AR.map cap (evT t) (evT t') fun y hy => evT_rel h (hok y (by simp [Op.operands, hy]))
    exact .func _ _ _ _ _ a1.size a1.at_ a2.size a2.at_
  | makeSlice e l c => exact V (sim_makeSlice hn (evT_rel h (hok l (by simp [Op.operands]))) (evT_rel h (hok c (by simp [Op.operands]))))
  | slice e x lo hi mx =>
    exact V (sim_sliceAt (evT_rel h (hok x (by simp [Op.operands]))) (BR_of h lo fun y hy => hok y (by simp [Op.operands, hy]))
      (BR_of h hi fun y hy => hok y (by simp [Op.operands, hy])) (BR_of h mx fun y hy => hok y (by simp [Op.operands, hy])))
  | fieldAddr e x f => exact V (sim_fieldAt (evT_rel h (hok x (by simp [Op.operands]))) f hn)
  | field e x f => exact V (sim_field (evT_rel h (hok x (by simp [Op.operands]))) f)
  | indexAddr e x i => exact V (sim_indexAt (evT_rel h (hok x (by simp [Op.operands]))) (evT_rel h (hok i (by simp [Op.operands]))))
  | extract x i => exact V (sim_extract (evT_rel h (hok x (by simp [Op.operands]))) i)
  | call c =>
    obtain ⟨callee, args, tys⟩ := c
    cases callee with
    | builtin b =>
      cases b with
      | len =>
        have a1 := AR.map args (evT t) (evT t') fun y hy => evT_rel h (hok y (by simp [Op.operands, Call.operands, hy]))
        refine sim_bind (A := fun r d d' => d.target = .builtin .len tys ty (args.map fun | .const _ => true | _ => false) ∧ d'.target = .builtin .len tys ty (args.map fun | .const _ => true | _ => false) ∧ AR r d.args d'.args) (sim_pure ⟨rfl, rfl, a1⟩) fun r1 l1 d d' e => ?_
        obtain ⟨e1, e2, e3⟩ := e
        rw [e1, e2]
        exact sim_bind (sim_len e3) fun r2 l2 a b hab => sim_pure (.value _ _ hab)
      | _ => simp [natOp] at hn
    | value f => simp [natOp] at hn
    | invoke a b => simp [natOp] at hn
  | _ => simp [natOp] at hn

theorem evOp_sound {o : Oper} {n0 : Nat} {wr : Nat → Bool} {w0 s w s1 : World} {x : NX} (he : evOp P wr o t s = some (x, s1)) (hr : Rel r n0 wr w0 s w) (ht : AR r t t') :
    ∃ (r1 : RR) (y : Next) (w1 : World), r.le r1 ∧ Rel r1 n0 wr w0 s1 w1 ∧ (execOp (evT t') o).run P w = .ok y w1 ∧ NR r1 x y := by
  unfold evOp at he
  split at he
  · cases he
  · rename_i hall
    have hok : ∀ x, x ∈ o.op.operands → okOperand x = true := fun x hx => by
      rw [Array.all_eq_true'] at hall; exact hall x hx
    split at he
    · rename_i f args hc
      cases he
      obtain ⟨args', hc', ha⟩ := callOf_args hc fun y hy => evT_rel ht (hok y hy)
      exact ⟨r, _, w, RR.le_refl _, hr, callOf_run hc' w, .enter _ _ _ ha⟩
    · split at he
      · rename_i v hv
        cases he
        obtain ⟨v', h1, h2⟩ := nilOf_sound (r := r) (ρ' := evT t') hv fun y hy => evT_rel ht (hok y hy)
        exact ⟨r, .value v', w, RR.le_refl _, hr, h2 w, .value _ _ h1⟩
      · split at he
        · rename_i hn
          cases hm : ev P wr (execOp (evT t) o) s with
          | none => simp [hm] at he
          | some p =>
            obtain ⟨y, s2⟩ := p
            obtain ⟨r1, y', w1, l1, rel1, run1, hx⟩ := sim_nat ht hok hn n0 wr w0 s w y s2 hr hm
            cases hx with
            | value v v' hv => simp only [hm, Option.some.injEq, Prod.mk.injEq] at he; obtain ⟨rfl, rfl⟩ := he; exact ⟨r1, _, w1, l1, rel1, run1, .value _ _ hv⟩
            | skip => simp only [hm, Option.some.injEq, Prod.mk.injEq] at he; obtain ⟨rfl, rfl⟩ := he; exact ⟨r1, _, w1, l1, rel1, run1, .skip⟩
        · split at he
          · rename_i hp
            simp only [Bool.and_eq_true] at hp
            obtain ⟨hp1, hp2⟩ := hp
            have heq : execOp (evT t) o = execOp (evT t') o := execOp_congr (fun y hy => by
              rw [Array.all_eq_true'] at hp2
              exact ((evT_rel ht (hok y hy)).same (hp2 y hy)).symm) hp1
            cases hm : pvOp P (evT t) o with
            | none => simp [hm] at he
            | some v =>
              simp only [hm] at he
              split at he
              · rename_i hpf
                cases he
                exact ⟨r, _, w, RR.le_refl _, hr, by rw [← heq]; exact pvOp_run hm w, .value _ _ (VR.refl r hpf)⟩
              · cases he
          · cases he
end
end Go.Proofs.Ytchedebomjmehaa.Sx
