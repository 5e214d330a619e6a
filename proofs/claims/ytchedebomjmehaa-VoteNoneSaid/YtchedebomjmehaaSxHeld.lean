import Derived.Test.YtchedebomjmehaaSxCode
namespace Go.Proofs.Ytchedebomjmehaa.Sx
open Go.RowKit
set_option linter.unusedVariables false

section
variable {P : Program}
/-- A tree that reads block j alone. -/
def Rd {α : Type} (P : Program) (j : Nat) (m : Sem α) : Prop := ∀ (w w2 : World) (b : α) (w1 : World), (∀ x y, w.heap[j]? ≠ some (.view x y)) → w2.heap[j]? = w.heap[j]? →
  m.run P w = .ok b w1 → w1 = w ∧ m.run P w2 = .ok b w2
theorem rd_of_nm {α : Type} {j : Nat} {m : Sem α} (h : Nm P m) : Rd P j m := by
  intro w w2 b w1 _ _ he
  have hp := h w b w1 he
  have := pv_run hp w
  rw [this] at he
  cases he
  exact ⟨rfl, pv_run hp w2⟩
theorem rd_bind {α β : Type} {j : Nat} {m : Sem α} {f : α → Sem β} (h : Rd P j m) (k : ∀ a, Rd P j (f a)) : Rd P j (m >>= f) := by
  intro w w2 b w1 hc hj he
  rw [Sem.run_bind] at he ⊢
  cases hm : m.run P w with
  | halt h0 w3 => simp [hm] at he
  | ok a w3 =>
    simp only [hm, Result.andThen_ok] at he
    obtain ⟨rfl, h2⟩ := h w w2 a w3 hc hj hm
    obtain ⟨rfl, h3⟩ := k a _ w2 b w1 hc hj he
    exact ⟨rfl, by rw [h2]; exact h3⟩
theorem rd_load {j : Nat} {a : Addr} (ha : a.block = j) : Rd P j (load a) := by
  intro w w2 b w1 hc hj he
  subst ha
  have hcell : w2.cell? a = w.cell? a := by simp only [World.cell?, hj]
  simp only [Go.load, Sem.run] at he ⊢
  rw [hcell]
  cases hv : w.cell? a with
  | some v => simp only [hv] at he ⊢; cases he; exact ⟨rfl, rfl⟩
  | none =>
    simp only [hv] at he
    have : w.farLoad P a (Mode.plain == Mode.atomic) = .error (w.noCell a "load: no such cell") := by
      simp only [World.farLoad]
    rw [this] at he
    cases he
theorem add_block (a : Addr) (n : Nat) : (a.add n).block = a.block := by unfold Addr.add; split <;> rfl
theorem rd_loadCellsFrom {a : Addr} : ∀ (n i : Nat) (acc : Array Value), Rd P a.block (loadCellsFrom a i n acc)
  | 0, i, acc => by unfold loadCellsFrom; exact rd_of_nm (nm_pure _)
  | n + 1, i, acc => by unfold loadCellsFrom; exact rd_bind (rd_load (add_block a i)) fun v => rd_loadCellsFrom n (i + 1) _
theorem rd_loadVar {t : TypeId} {a : Addr} : Rd P a.block (loadVar t a) := by
  unfold loadVar
  refine rd_bind (rd_of_nm nm_isAgg) fun b => ?_
  split
  · exact rd_bind (rd_of_nm nm_sizeOf) fun n => rd_bind (rd_loadCellsFrom n 0 #[]) fun c => rd_of_nm (nm_pure _)
  · exact rd_load rfl

theorem nm_value {ρ : Operand → Value} {o : Oper} (h : valueOp P o.op = true) : Nm P (execOp ρ o) := by
  obtain ⟨dst, op, ty, pos, aft, gd⟩ := o
  have h : valueOp P op = true := h
  cases op with
  | move x => exact nm_pure _
  | assign x => exact nm_pure _
  | pick c a b => exact nm_asBool.bind fun _ => nm_pure _
  | build e ps => exact nm_build.bind fun _ => nm_pure _
  | makeInterface e x => exact nm_makeInterface.bind fun _ => nm_pure _
  | makeFunc fn first cap => exact (nm_pure _).bind fun _ => nm_pure _
  | slice e x lo hi mx => exact nm_sliceAt.bind fun _ => nm_pure _
  | fieldAddr e x f => exact (nm_fieldAt (by simpa [valueOp] using h)).bind fun _ => nm_pure _
  | field e x f => exact nm_field.bind fun _ => nm_pure _
  | indexAddr e x i => exact nm_indexAt.bind fun _ => nm_pure _
  | extract x i => exact nm_extract.bind fun _ => nm_pure _
  | call c =>
    obtain ⟨callee, args, tys⟩ := c
    simp [valueOp] at h
  | _ => simp [valueOp] at h
theorem value_quiet {o : Op} (h : valueOp P o = true) : quietOp P o = true := by
  unfold valueOp at h
  unfold quietOp
  split at h <;> first | rfl | exact h | cases h
theorem len_quiet {t : Array Value} {o : Op} (h : lenOk t o = true) : quietOp P o = true := by
  unfold lenOk at h
  split at h
  · rfl
  · cases h
theorem load_quiet {t : Array Value} {o : Op} {b : Nat} (h : loadOf t o = some b) : quietOp P o = true := by
  unfold loadOf at h
  split at h
  · rfl
  · cases h

theorem loadOf_some {t : Array Value} {op : Op} {b : Nat} (h : loadOf t op = some b) : ∃ T a x, op = .load T a ∧ evT t a = .pointer (some x) ∧ x.block = b := by
  unfold loadOf at h
  split at h
  · rename_i T a
    split at h
    · rename_i x hx; cases h; exact ⟨_, _, x, rfl, hx, rfl⟩
    · cases h
  · cases h
theorem lenOk_some {t : Array Value} {op : Op} (h : lenOk t op = true) : ∃ args tys x, op = .call ⟨.builtin .len, args, tys⟩ ∧ args[0]? = some x ∧ ((∃ a l c, evT t x = .slice a l c) ∨ ∃ s, evT t x = .string s) := by
  unfold lenOk at h
  split at h
  · rename_i args tys
    split at h
    · rename_i x hx
      split at h
      · rename_i a l c e; exact ⟨_, _, x, rfl, hx, .inl ⟨a, l, c, e⟩⟩
      · rename_i y e; exact ⟨_, _, x, rfl, hx, .inr ⟨y, e⟩⟩
      · cases h
    · cases h
  · cases h
/-- The true blocks that stay as they were. -/
def StayW (r0 : RR) (st : Nat → Bool) (wS w : World) : Prop := ∀ (i j n : Nat), r0 i j n → st i = true → w.heap[j]? = wS.heap[j]?

theorem evOpH_sound {st wr : Nat → Bool} {o : Oper} {t t' : Array Value} {s w wS s0 : World} {v : Value} {r r0 : RR} {n0 n00 : Nat} {wr0 : Nat → Bool} {w00 : World}
    (he : evOpH P st o t s = some v) (h0 : Rel r0 n00 wr0 w00 s0 wS) (hst : ∀ i, st i = true → i < s0.heap.size) (hr : Rel r n0 wr wS s w) (l0 : r0.le r) (ht : AR r t t') (hS : StayW r0 st wS w) :
    ∃ v', VR r v v' ∧ ∀ w2, StayW r0 st wS w2 → (execOp (evT t') o).run P w2 = .ok (.value v') w2 := by
  unfold evOpH at he
  split at he
  · cases he
  · rename_i hall
    have hok : ∀ x, x ∈ o.op.operands → okOperand x = true := fun x hx => by
      rw [Array.all_eq_true'] at hall; exact hall x hx
    split at he
    · rename_i v0 hv
      cases he
      obtain ⟨v', h1, h2⟩ := nilOf_sound (r := r) (ρ' := evT t') hv fun y hy => evT_rel ht (hok y hy)
      exact ⟨v', h1, fun w2 _ => h2 w2⟩
    · split at he
      · rename_i hcond
        cases hm : ev P (wrNew s.heap.size) (execOp (evT t) o) s with
        | none => simp [hm] at he
        | some p =>
          obtain ⟨y, s2⟩ := p
          cases y with
          | value v1 =>
            simp only [hm, Option.some.injEq] at he; subst he
            have hq : quietOp P o.op = true := by
              cases hl : loadOf t o.op with
              | some b => exact load_quiet hl
              | none =>
                simp only [hl, Bool.or_eq_true] at hcond
                rcases hcond with hc | hc
                · exact value_quiet hc
                · exact len_quiet hc
            have hs2 := (qt_op (ρ := evT t) hq).e (wrNew s.heap.size) s _ s2 hm
            subst hs2
            obtain ⟨r1, y', w1, l1, rel1, run1, hx⟩ := sim_nat ht hok (quiet_nat hq) _ _ _ _ _ _ _ hr.anew hm
            have hw1 := (qt_op (ρ := evT t') hq).r w _ w1 run1
            subst hw1
            cases hx with
            | value _ v' hv =>
              refine ⟨v', hv.mono (Rel.top hr rel1 l1), fun w2 hS2 => ?_⟩
              cases hl : loadOf t o.op with
              | some b =>
                simp only [hl] at hcond
                -- a load of a block that stays
                obtain ⟨T, a, x, hop, hx, rfl⟩ := loadOf_some hl
                obtain ⟨dst, op, ty, pos, aft, gd⟩ := o
                simp only at hop
                subst hop
                have k := evT_rel ht (hok a (by simp [Op.operands]))
                rw [hx] at k
                cases hk : evT t' a with
                | pointer y =>
                  rw [hk] at k
                  cases k with
                  | ptr _ a' ha =>
                    cases ha with
                    | mk i j n off hij =>
                      have hi : i < s0.heap.size := hst i hcond
                      obtain ⟨j0, n1, k0⟩ := h0.tot i hi
                      obtain ⟨rfl, rfl⟩ := hr.fn _ _ _ _ _ hij (l0 _ _ _ k0)
                      have e1 := hS i j n k0 hcond
                      have e2 := hS2 i j n k0 hcond
                      obtain ⟨ob, ob', p1, p2, p3⟩ := hr.obj i j n hij
                      have run1' : (do pure (Next.value (← Instr.loadAt T (evT t' a))) : Sem Next).run P _ = .ok (.value v') _ := run1
                      show (do pure (Next.value (← Instr.loadAt T (evT t' a))) : Sem Next).run P w2 = .ok (.value v') w2
                      rw [hk] at run1' ⊢
                      have hrd : Rd P j (do pure (Next.value (← Instr.loadAt T (.pointer (some ⟨j, off + n, none⟩)))) : Sem Next) := by
                        refine rd_bind ?_ fun _ => rd_of_nm (nm_pure _)
                        exact (rd_loadVar (a := ⟨j, off + n, none⟩))
                      refine (hrd _ w2 _ _ (fun x y hv => ?_) (by rw [e1, e2]) run1').2
                      rw [p2] at hv
                      cases p3 <;> simp at hv
                | _ => rw [hk] at k; cases k
              | none =>
                simp only [hl, Bool.or_eq_true] at hcond
                have hnm : Nm P (execOp (evT t') o) := by
                  rcases hcond with hc | hc
                  · exact nm_value hc
                  · obtain ⟨args, tys, x, hop, hx, hcase⟩ := lenOk_some hc
                    obtain ⟨dst, op, ty, pos, aft, gd⟩ := o
                    simp only at hop
                    subst hop
                    have k := evT_rel ht (hok x (by simp [Op.operands, Call.operands, Array.mem_of_getElem? hx]))
                    have h0 : (args.map (evT t'))[0]? = some (evT t' x) := by simp [Array.getElem?_map, hx]
                    show Nm P (do pure (Next.value (← Builtin.len_ tys ty (args.map (evT t')))))
                    refine (nm_len (fun b hb => ?_) (fun b hb => ?_)).bind fun _ => nm_pure _
                    · rw [h0] at hb; simp only [Option.some.injEq] at hb; rw [hb] at k
                      rcases hcase with ⟨a, l, c, e⟩ | ⟨y, e⟩ <;> (rw [e] at k; cases k)
                    · rw [h0] at hb; simp only [Option.some.injEq] at hb; rw [hb] at k
                      rcases hcase with ⟨a, l, c, e⟩ | ⟨y, e⟩ <;> (rw [e] at k; cases k)
                exact pv_run (hnm _ _ _ run1) w2
          | _ => simp [hm] at he
      · split at he
        · rename_i hp
          simp only [Bool.and_eq_true] at hp
          obtain ⟨hp1, hp2⟩ := hp
          have heq : execOp (evT t) o = execOp (evT t') o := execOp_congr (fun y hy => by
            rw [Array.all_eq_true'] at hp2
            exact ((evT_rel ht (hok y hy)).same (hp2 y hy)).symm) hp1
          cases hm : pvOp P (evT t) o with
          | none => simp [hm] at he
          | some v =>
            simp only [hm] at he
            split at he
            · rename_i hpf
              cases he
              exact ⟨_, VR.refl r hpf, fun w2 _ => by rw [← heq]; exact pvOp_run hm w2⟩
            · cases he
        · cases he

theorem upon_then {o : Oper} {a : Act} {next K : Act → World → Prop} {Q : Exit → Act → World → Prop} (x : Result Next) (h : Oper.upon P o a next (Exit.then K Q) x) : Oper.upon P o a next Q x := by
  cases x with
  | ok n w =>
    cases n <;> simp only [Oper.upon] at h ⊢ <;> first | exact h | (exact Calls.mono h fun e w'' he => by cases e <;> exact he)
  | halt y w => cases y <;> simp only [Oper.upon] at h ⊢ <;> exact h
theorem wpOp_then {ops : Array Oper} {i : Nat} {a : Act} {w : World} {K : Act → World → Prop} {Q : Exit → Act → World → Prop} (h : wpOps P ops (Exit.then K Q) [i] a w) : wpOp P ops Q i K a w := by
  rw [wpOps_cons] at h
  unfold wpOp at h ⊢
  split
  · rename_i ho; simp only [ho] at h; exact h
  · rename_i o ho
    simp only [ho] at h
    split
    · rename_i hw
      simp only [hw, if_true] at h
      rcases h with h | ⟨h1, h2⟩
      · exact .inl (upon_then _ h)
      · exact .inr ⟨h1, h2⟩
    · rename_i hw; simp only [hw] at h; exact h

theorem pick1_some {α : Type} {f : Nat → Option α} {l : List Nat} {i : Nat} {a : α} (h : pick1 f l = some (i, a)) : i ∈ l ∧ f i = some a := by
  induction l with
  | nil => cases h
  | cons x l ih =>
    unfold pick1 at h
    cases hx : f x with
    | some b => simp only [hx, Option.some.injEq, Prod.mk.injEq] at h; obtain ⟨rfl, rfl⟩ := h; exact ⟨by simp, hx⟩
    | none => simp only [hx] at h; obtain ⟨h1, h2⟩ := ih h; exact ⟨by simp [h1], h2⟩

theorem evH_sound {cl : CallF} {wr st : Nat → Bool} {ops : Array Oper} (hcl : ClOk P wr cl) (hsel : Region.noSelect ops = true) {s0 wS w00 : World} {r0 : RR} {n00 : Nat} {wr0 : Nat → Bool}
    (h0 : Rel r0 n00 wr0 w00 s0 wS) (hst : ∀ i, st i = true → i < s0.heap.size) (hstw : ∀ i, st i = true → wr i = false) {Q : Act → World → Prop} :
    ∀ (fuel : Nat) (listed : Array Bool) (seen : List Nat) (ds : DS) (t : Array Value) (s : World) (o : Out), evH P cl wr st ops fuel listed seen ds t s = some o → Alls o.ps →
    ∀ (r : RR) (w : World) (t' : Array Value), Rel r s0.heap.size wr wS s w → r0.le r → AR r t t' →
      (∀ (r1 : RR) (t1' : Array Value) (w1 : World), r.le r1 → Rel r1 s0.heap.size wr wS o.s w1 → AR r1 o.t t1' → Q ⟨t1', []⟩ w1) →
      wpAnyH P .any ops (fun e a w => e = .normal ∧ Q a w) (StayW r0 st wS) fuel listed ⟨t', []⟩ w := by
  have stays : ∀ {r : RR} {s w : World}, Rel r s0.heap.size wr wS s w → r0.le r → StayW r0 st wS w := by
    intro r s w hr l i j n k hi
    refine hr.keep j (h0.lt k).2 fun i2 n2 hw2 k2 => ?_
    have := hr.inj i2 i j n2 n hw2 k2 (l _ _ _ k)
    subst this
    rw [hstw _ hi] at hw2; cases hw2
  intro fuel
  induction fuel with
  | zero =>
    intro listed seen ds t s o h hp r w t' hr l ht hQ
    unfold evH at h
    cases hrd : Region.ready .any ops listed with
    | cons x xs => simp [hrd] at h
    | nil =>
      simp only [hrd, Option.some.injEq] at h; subst h
      exact ⟨hrd, rfl, hQ r t' w (RR.le_refl _) hr ht⟩
  | succ fuel ih =>
    intro listed seen ds t s o h hp r w t' hr l ht hQ
    unfold evH at h
    cases hrd : Region.ready .any ops listed with
    | nil =>
      simp only [hrd, Option.some.injEq] at h; subst h
      exact wpAnyH_done hrd ⟨rfl, hQ r t' w (RR.le_refl _) hr ht⟩ _
    | cons i0 rs =>
      simp only [hrd] at h
      cases hpick : pick1 (candAt P st ops listed seen ds t s) (i0 :: rs) with
      | some ic =>
        obtain ⟨i, c⟩ := ic
        simp only [hpick] at h
        obtain ⟨hi, hc⟩ := pick1_some hpick
        obtain ⟨o', ho', e1, e2, e3, e4⟩ := add_some h
        rw [e4] at hp
        obtain ⟨hp1, hp2⟩ := hp.append
        have hS := stays hr l
        -- what the candidate says
        have hcand : ∃ op, ops[i]? = some op ∧ Region.free .any ops listed i = true ∧ AR r c.t t' ∧ ∃ v', VR r c.v v' ∧ YieldsIf P ops (StayW r0 st wS) op v' ⟨t', []⟩ := by
          unfold candAt at hc
          cases hop : ops[i]? with
          | none => simp [hop] at hc
          | some op =>
            simp only [hop] at hc
            cases hfree : Region.free .any ops listed i with
            | false => simp [hfree] at hc
            | true =>
              simp only [hfree] at hc
              refine ⟨op, rfl, rfl, ?_⟩
              have yes : ∀ (t : Array Value) (v : Value), AR r t t' → evOpH P st op t s = some v → Region.wanted op (yielded ops t') = true →
                  ∃ v', VR r v v' ∧ YieldsIf P ops (StayW r0 st wS) op v' ⟨t', []⟩ := by
                intro t v ht he hw
                obtain ⟨v', hv, hrun⟩ := evOpH_sound he h0 hst hr l ht hS
                exact ⟨v', hv, .inl ⟨hw, hrun⟩⟩
              have no : Region.wanted op (yielded ops t') = false → ∃ v', VR r undef v' ∧ YieldsIf P ops (StayW r0 st wS) op v' ⟨t', []⟩ :=
                fun hw => ⟨undef, VR.undef r, .inr ⟨hw, rfl⟩⟩
              cases hg : op.guard with
              | none =>
                simp only [hg] at hc
                cases he : evOpH P st op t s with
                | none => simp [he] at hc
                | some v =>
                  simp only [he, Option.some.injEq] at hc; subst hc
                  exact ⟨ht, yes t v ht he (by simp [Region.wanted, hg])⟩
              | some jw =>
                obtain ⟨j, want⟩ := jw
                simp only [hg] at hc
                cases hga : guardAt ops t j with
                | none =>
                  simp only [hga, Option.some.injEq] at hc; subst hc
                  exact ⟨ht, no (by simp [Region.wanted, hg, guardAt_none ht hga])⟩
                | some db =>
                  obtain ⟨d, b⟩ := db
                  obtain ⟨hy, htd⟩ := guardAt_some ht hga
                  simp only [hga] at hc
                  have hw : Region.wanted op (yielded ops t') = (b == want) := by
                    simp only [Region.wanted, hg, hy]; cases b <;> cases want <;> rfl
                  cases hs : seen.contains j with
                  | true =>
                    simp only [hs] at hc
                    cases hbw : b == want with
                    | true =>
                      simp only [hbw] at hc
                      cases he : evOpH P st op t s with
                      | none => simp [he] at hc
                      | some v =>
                        simp only [he, Option.some.injEq] at hc; subst hc
                        exact ⟨ht, yes t v ht he (by rw [hw, hbw])⟩
                    | false =>
                      simp only [hbw, Option.some.injEq] at hc; subst hc
                      exact ⟨ht, no (by rw [hw, hbw])⟩
                  | false =>
                    simp only [hs] at hc
                    cases htest : test b ds with
                    | mk b1 q =>
                      obtain ⟨ds1, ps⟩ := q
                      simp only [htest] at hc
                      cases hbw : b1 == want with
                      | true =>
                        simp only [hbw] at hc
                        cases he : evOpH P st op (t.setIfInBounds d (.bool b1)) s with
                        | none => simp [he] at hc
                        | some v =>
                          simp only [he, Option.some.injEq] at hc; subst hc
                          have hb : b1 = b := by have := test_ok (b := b) (ds := ds) (by rw [htest]; exact hp1); rw [htest] at this; exact this
                          subst hb
                          exact ⟨set_same ht htd, yes _ v (set_same ht htd) he (by rw [hw, hbw])⟩
                      | false =>
                        simp only [hbw, Option.some.injEq] at hc; subst hc
                        have hb : b1 = b := by have := test_ok (b := b) (ds := ds) (by rw [htest]; exact hp1); rw [htest] at this; exact this
                        subst hb
                        exact ⟨set_same ht htd, no (by rw [hw, hbw])⟩
        obtain ⟨op, hop, hfree, htc, v', hv, hy⟩ := hcand
        refine wpAnyH_take hop hsel hfree (by rw [hrd]; simpa using hi) (fun c a w hh => by cases hh.1) hy hS ?_
        have hd : dstOf ops i = op.dst := by simp [dstOf, hop]
        rw [put_defers]
        exact ih _ _ _ _ s o' ho' hp2 r w _ hr l (by rw [hd]; exact put_rel htc _ hv) (by rw [← e1, ← e2]; exact hQ)
      | none =>
        simp only [hpick] at h
        cases rs with
        | cons x xs => simp at h
        | nil =>
          simp only at h
          cases ho1 : evOps P wr cl ops [i0] seen ds t s with
          | none => simp [ho1] at h
          | some o1 =>
            simp only [ho1] at h
            obtain ⟨o', ho', e1, e2, e3, e4⟩ := add_some h
            rw [e4] at hp
            obtain ⟨hp1, hp2⟩ := hp.append
            refine wpAnyH_all hrd (by simp) fun i hi => ?_
            have : i = i0 := by simpa using hi
            subst this
            refine wpOp_then ?_
            refine evOps_sound hcl [i] seen ds t s o1 ho1 hp1 r s0.heap.size wS w t' _ hr ht fun r1 t1' w1 l1 rel1 ht1 => ?_
            refine ⟨stays rel1 (RR.le_trans l l1), ?_⟩
            exact ih _ _ _ _ _ o' ho' hp2 r1 w1 t1' rel1 (RR.le_trans l l1) ht1 (by rw [← e1, ← e2]; exact fun r2 t2' w2 l2 => hQ r2 t2' w2 (RR.le_trans l1 l2))

theorem stay_lt {W : List Nat} {wr : Nat → Bool} {n i : Nat} (h : stay W wr n i = true) : i < n := by
  simp only [stay, Bool.and_eq_true] at h
  have := h.1
  simp only [Nat.blt_eq] at this; exact this
theorem stay_wr {W : List Nat} {wr : Nat → Bool} {n i : Nat} (h : stay W wr n i = true) : wrOf W wr n i = false := by
  have hlt := stay_lt h
  simp only [stay, Bool.and_eq_true, Bool.not_eq_true'] at h
  have : Nat.ble n i = false := by
    cases e : Nat.ble n i with
    | false => rfl
    | true => have := Nat.le_of_ble_eq_true e; omega
  simp only [wrOf, h.2, this, Bool.or_false]
/-- A REGION THAT DRAWS ITS ORDER, AND WRITES. -/
theorem region_held {cl : CallF} {wr : Nat → Bool} {W : List Nat} {ops : Array Oper} {id : Nat} {s : World} (hcl : ClOk P (wrOf W wr s.heap.size) cl) (hm : P.follows .mixedOrders = true) (hsel : Region.noSelect ops = true)
    {ds : DS} {t : Array Value} {o : Out} (h : evH P cl (wrOf W wr s.heap.size) (stay W wr s.heap.size) ops ops.size (Array.replicate ops.size false) [] ds t s = some o) (hp : Alls o.ps)
    {r : RR} {n0 : Nat} {w0 w : World} {t' : Array Value} {Q : Exit → Act → World → Prop} (hr : Rel r n0 wr w0 s w) (ht : AR r t t')
    (hQ : ∀ (r1 : RR) (t1' : Array Value) (w1 : World), r.le r1 → Rel r1 n0 wr w0 o.s w1 → AR r1 o.t t1' → Q .normal ⟨t1', []⟩ w1) : (Code.region id ops true).wp P Q ⟨t', []⟩ w := by
  refine wp_mono (Q := fun e a w => e = .normal ∧ Q .normal a w) (wp_region_held (S := StayW r (stay W wr s.heap.size) { w with drawn := w.drawn + 1 }) hm ?_) (fun e a w hh => by obtain ⟨rfl, q⟩ := hh; exact q)
  have hd := hr.drew
  have hn : ∀ i, i < s.heap.size → wrOf W wr s.heap.size i = true → wr i = true := fun i hi hw => wrOf_old hi hw
  have ha := hd.anewW (wr' := wrOf W wr s.heap.size) hn
  refine evH_sound (Q := fun a w => Q .normal a w) hcl hsel hd (fun i hi => stay_lt hi) (fun i hi => stay_wr hi) _ _ _ _ _ s o h hp r _ t' ha (RR.le_refl _) ht fun r1 t1' w1 l1 rel1 ht1 => ?_
  refine hQ r1 t1' w1 l1 (Rel.back hd rel1 l1 hn fun i hi => ?_) ht1
  simp only [wrOf, Bool.or_eq_true]
  exact .inr (Nat.ble_eq_true_of_le hi)
end
end Go.Proofs.Ytchedebomjmehaa.Sx
