import Derived.Test.YtchedebomjmehaaSxHeld
namespace Go.Proofs.Ytchedebomjmehaa.Sx
open Go.RowKit
set_option linter.unusedVariables false

section
variable {P : Program} {wr : Nat → Bool}
def CodeOk (P : Program) (rec : RecF) : Prop := ∀ (wr : Nat → Bool) (c : Code) (ds : DS) (t : Array Value) (s : World) (e : Ex) (o : Out), rec wr c ds t s = some (e, o) → Alls o.ps →
  ∀ (r : RR) (n0 : Nat) (w0 w : World) (t' : Array Value) (Q : Exit → Act → World → Prop), Rel r n0 wr w0 s w → AR r t t' →
    (∀ (r1 : RR) (t1' : Array Value) (w1 : World), r.le r1 → Rel r1 n0 wr w0 o.s w1 → AR r1 o.t t1' → Q e.out ⟨t1', []⟩ w1) → c.wp P Q ⟨t', []⟩ w

theorem inlineF_ok {rec : RecF} (hrec : CodeOk P rec) (wr : Nat → Bool) : ClOk P wr (inlineF P rec wr) := by
  intro f args ds s v s1 ds1 ps h hp r n0 w0 w args' hr ha
  unfold inlineF at h
  cases hf : P.funcs[f]? with
  | none => simp [hf] at h
  | some fn =>
    simp only [hf] at h
    cases hb : fn.body with
    | none => simp [hb] at h
    | some c =>
      simp only [hb] at h
      have key : ∀ (e : Ex) (o : Out), (e = .normal ∨ e = .ret) → rec wr c ds (args ++ Array.replicate (fn.ntmps - args.size) undef) s = some (e, o) →
          (match ev P wr (results fn o.t) o.s with | some (v, _) => some (v, o.s, o.ds, o.ps) | none => none) = some (v, s1, ds1, ps) → Calls P f args' w (CallPost wr n0 w0 r v s1) := by
        intro e o hee hre h
        cases hres : ev P wr (results fn o.t) o.s with
        | none => simp [hres] at h
        | some q =>
          obtain ⟨v1, s2⟩ := q
          simp only [hres, Option.some.injEq, Prod.mk.injEq] at h
          obtain ⟨rfl, rfl, rfl, rfl⟩ := h
          refine calls_of_wp hf hb ?_
          have ht : AR r (args ++ Array.replicate (fn.ntmps - args.size) undef) (args' ++ Array.replicate (fn.ntmps - args'.size) undef) := by
            rw [← ha.size]; exact ha.append (AR.replicate r _ (VR.undef r))
          refine hrec wr c ds _ s e o hre hp r n0 w0 w _ _ hr ht fun r1 t1' w1 l1 rel1 ht1 => ?_
          obtain ⟨_, v', hrun, hv⟩ := simq_results ht1 n0 wr w0 o.s w1 v1 s2 rel1 hres
          rcases hee with rfl | rfl
          · exact ⟨rfl, v', hrun, r1, v', l1, rel1, rfl, hv⟩
          · exact ⟨rfl, v', hrun, r1, v', l1, rel1, rfl, hv⟩
      cases hre : rec wr c ds (args ++ Array.replicate (fn.ntmps - args.size) undef) s with
      | none => simp [hre] at h
      | some eo =>
        obtain ⟨e, o⟩ := eo
        simp only [hre] at h
        cases e with
        | normal => exact key .normal o (.inl rfl) hre h
        | ret => exact key .ret o (.inr rfl) hre h
        | exit id => simp at h

theorem pureIn_ok {cs : FuncId → Option CSpec} (hcs : CsOk P cs) {rec : RecF} (hrec : CodeOk P rec) : PcOk P (pureIn P cs rec) := by
  intro f args ds s v ds1 ps h hp
  unfold pureIn at h
  cases hc : cs f with
  | some spec =>
    simp only [hc] at h
    cases hs : spec args s with
    | none => simp [hs] at h
    | some q =>
      obtain ⟨v1, ps1⟩ := q
      simp only [hs] at h
      split at h
      · rename_i hpf
        simp only [Option.some.injEq, Prod.mk.injEq] at h
        obtain ⟨rfl, rfl, rfl⟩ := h
        exact ⟨hpf, fun r n0 wr w0 w args' hr ha => hcs f spec hc args s v1 ps1 hs hp r n0 wr w0 w args' hr ha⟩
      · cases h
  | none =>
    simp only [hc] at h
    cases hi : inlineF P rec (wrNew s.heap.size) f args ds s with
    | none => simp [hi] at h
    | some q =>
      obtain ⟨v1, s2, ds2, ps2⟩ := q
      simp only [hi] at h
      split at h
      · rename_i hpf
        simp only [Option.some.injEq, Prod.mk.injEq] at h
        obtain ⟨rfl, rfl, rfl⟩ := h
        refine ⟨hpf, fun r n0 wr w0 w args' hr ha => ?_⟩
        refine (inlineF_ok hrec (wrNew s.heap.size) f args ds s v1 s2 ds2 ps2 hi hp r s.heap.size w w args' hr.anew ha).mono ?_
        rintro e w1 ⟨r1, v', l1, rel1, rfl, hv⟩
        exact ⟨by rw [hv.same hpf], rel1.below (fun i hi => wrNew_le hi)⟩
      · cases h

theorem callIn_ok {cs : FuncId → Option CSpec} (hcs : CsOk P cs) {rec : RecF} (hrec : CodeOk P rec) (wr : Nat → Bool) : ClOk P wr (callIn P cs rec wr) := by
  have pure : ∀ (f : FuncId) (args : Array Value) (ds : DS) (s : World) (v : Value) (ds1 : DS) (ps : List Prop), pureIn P cs rec f args ds s = some (v, ds1, ps) → Alls ps →
      ∀ (r : RR) (n0 : Nat) (w0 w : World) (args' : Array Value), Rel r n0 wr w0 s w → AR r args args' → Calls P f args' w (CallPost wr n0 w0 r v s) := by
    intro f args ds s v ds1 ps h hp r n0 w0 w args' hr ha
    obtain ⟨hpf, hcall⟩ := pureIn_ok hcs hrec f args ds s v ds1 ps h hp
    refine (hcall r n0 wr w0 w args' hr ha).mono ?_
    rintro e w1 ⟨rfl, hb⟩
    exact ⟨r, v, RR.le_refl _, hr.later hb, rfl, VR.refl r hpf⟩
  intro f args ds s v s1 ds1 ps h hp r n0 w0 w args' hr ha
  unfold callIn at h
  cases hc : cs f with
  | some spec =>
    simp only [hc] at h
    cases hq : pureIn P cs rec f args ds s with
    | none => simp [hq] at h
    | some q =>
      obtain ⟨v1, ds2, ps2⟩ := q
      simp only [hq, Option.some.injEq, Prod.mk.injEq] at h
      obtain ⟨rfl, rfl, rfl, rfl⟩ := h
      exact pure f args ds s v1 ds2 ps2 hq hp r n0 w0 w args' hr ha
  | none =>
    simp only [hc] at h
    split at h
    · exact inlineF_ok hrec wr f args ds s v s1 ds1 ps h hp r n0 w0 w args' hr ha
    · cases hq : pureIn P cs rec f args ds s with
      | none => simp only [hq] at h; exact inlineF_ok hrec wr f args ds s v s1 ds1 ps h hp r n0 w0 w args' hr ha
      | some q =>
        obtain ⟨v1, ds2, ps2⟩ := q
        simp only [hq, Option.some.injEq, Prod.mk.injEq] at h
        obtain ⟨rfl, rfl, rfl, rfl⟩ := h
        exact pure f args ds s v1 ds2 ps2 hq hp r n0 w0 w args' hr ha

/-- A loop, round by round. -/
def LoopOk (P : Program) (cs : FuncId → Option CSpec) (n : Nat) : Prop := ∀ (wr : Nat → Bool) (c : Code) (ds : DS) (t : Array Value) (s : World) (e : Ex) (o : Out), evCode P cs n wr (.loop c) ds t s = some (e, o) → Alls o.ps →
  ∀ (r : RR) (n0 : Nat) (w0 w : World) (t' : Array Value) (Q : Exit → Act → World → Prop), Rel r n0 wr w0 s w → AR r t t' →
    (∀ (r1 : RR) (t1' : Array Value) (w1 : World), r.le r1 → Rel r1 n0 wr w0 o.s w1 → AR r1 o.t t1' → Q e.out ⟨t1', []⟩ w1) → Code.rounds P c Q n ⟨t', []⟩ w

theorem evCode_both {cs : FuncId → Option CSpec} (hcs : CsOk P cs) : ∀ n, CodeOk P (evCode P cs n) ∧ LoopOk P cs n
  | 0 => ⟨by intro wr c ds t s e o h; simp [evCode] at h, by intro wr c ds t s e o h; simp [evCode] at h⟩
  | n + 1 => by
    obtain ⟨ih, ihl⟩ := evCode_both hcs n
    have loop : LoopOk P cs (n + 1) := by
      intro wr c ds t s e o h hp r n0 w0 w t' Q hr ht hQ
      rw [rounds_succ]
      simp only [evCode] at h
      split at h
      · rename_i o1 ho
        split at h
        · rename_i e2 o2 ho2
          simp only [Option.some.injEq, Prod.mk.injEq] at h; obtain ⟨rfl, rfl⟩ := h
          simp only at hp
          obtain ⟨hp1, hp2⟩ := hp.append
          refine ih wr c ds t s .normal o1 ho hp1 r n0 w0 w t' _ hr ht fun r1 t1' w1 l1 rel1 ht1 => ?_
          exact ihl wr c _ _ _ _ o2 ho2 hp2 r1 n0 w0 w1 t1' Q rel1 ht1 fun r2 t2' w2 l2 => hQ r2 t2' w2 (RR.le_trans l1 l2)
        · cases h
      · rename_i hne
        refine ih wr c ds t s e o h hp r n0 w0 w t' _ hr ht fun r1 t1' w1 l1 rel1 ht1 => ?_
        have q := hQ r1 t1' w1 l1 rel1 ht1
        cases e with
        | normal => exact absurd h (hne o)
        | exit id => exact q
        | ret => exact q
    refine ⟨?_, loop⟩
    intro wr c ds t s e o h hp r n0 w0 w t' Q hr ht hQ
    cases c with
    | skip => simp only [evCode, Option.some.injEq, Prod.mk.injEq] at h; obtain ⟨rfl, rfl⟩ := h; exact wp_skip (hQ r t' w (RR.le_refl _) hr ht)
    | ret => simp only [evCode, Option.some.injEq, Prod.mk.injEq] at h; obtain ⟨rfl, rfl⟩ := h; exact wp_ret (hQ r t' w (RR.le_refl _) hr ht)
    | exit id => simp only [evCode, Option.some.injEq, Prod.mk.injEq] at h; obtain ⟨rfl, rfl⟩ := h; exact wp_exit (hQ r t' w (RR.le_refl _) hr ht)
    | region id ops draw =>
      cases draw with
      | true =>
        simp only [evCode] at h
        split at h
        · rename_i hB
          simp only [Bool.and_eq_true] at hB
          split at h
          · rename_i o1 ho
            simp only [Option.some.injEq, Prod.mk.injEq] at h; obtain ⟨rfl, rfl⟩ := h
            split at ho
            · refine wp_region_quiet (C := fun w' => Rel r n0 wr w0 s w') hB.1 hB.2 hr.drew ?_
              have hs := evOpsQ_world _ _ _ _ _ ho
              refine evOpsQ_sound (pureIn_ok hcs ih) _ _ _ _ _ ho hp r n0 w0 w t' _ hr ht fun t1' ht1 w1 hr1 => ?_
              exact hQ r t1' w1 (RR.le_refl _) (by rw [hs]; exact hr1) ht1
            · cases ho
          · split at h
            · rename_i hsel
              split at h
              · split at h
                · rename_i o1 ho
                  simp only [Option.some.injEq, Prod.mk.injEq] at h; obtain ⟨rfl, rfl⟩ := h
                  exact region_held (callIn_ok hcs ih _) hB.1 hsel ho hp hr ht hQ
                · cases h
              · cases h
            · cases h
        · cases h
      | false =>
        simp only [evCode] at h
        split at h
        · rename_i o1 ho
          simp only [Option.some.injEq, Prod.mk.injEq] at h; obtain ⟨rfl, rfl⟩ := h
          exact wp_region (evOps_sound (callIn_ok hcs ih wr) _ _ _ _ _ _ ho hp r n0 w0 w t' Q hr ht hQ)
        · cases h
    | seq a b =>
      simp only [evCode] at h
      refine wp_seq ?_
      split at h
      · rename_i o1 ho
        split at h
        · rename_i e2 o2 ho2
          simp only [Option.some.injEq, Prod.mk.injEq] at h; obtain ⟨rfl, rfl⟩ := h
          simp only at hp
          obtain ⟨hp1, hp2⟩ := hp.append
          refine ih wr a ds t s .normal o1 ho hp1 r n0 w0 w t' _ hr ht fun r1 t1' w1 l1 rel1 ht1 => ?_
          exact ih wr b _ _ _ _ o2 ho2 hp2 r1 n0 w0 w1 t1' Q rel1 ht1 fun r2 t2' w2 l2 => hQ r2 t2' w2 (RR.le_trans l1 l2)
        · cases h
      · rename_i hne
        refine ih wr a ds t s e o h hp r n0 w0 w t' _ hr ht fun r1 t1' w1 l1 rel1 ht1 => ?_
        have q := hQ r1 t1' w1 l1 rel1 ht1
        cases e with
        | normal => exact absurd h (hne o)
        | exit id => exact q
        | ret => exact q
    | cond c x y =>
      simp only [evCode] at h
      have hcv : ∀ b, evT t c = .bool b → (Act.mk t' []).eval c = .bool b := by
        intro b hb
        cases c with
        | tmp k => have k1 := ht.getD k; have hb' : t.getD k undef = .bool b := hb; rw [hb'] at k1; exact VR_bool k1
        | const v => exact hb
        | func f => exact hb
        | global g => exact hb
      split at h
      · rename_i b hb
        cases htest : test b ds with
        | mk b1 q =>
          obtain ⟨ds1, ps⟩ := q
          simp only [htest] at h
          split at h
          · rename_i e2 o2 ho
            simp only [Option.some.injEq, Prod.mk.injEq] at h; obtain ⟨rfl, rfl⟩ := h
            simp only at hp
            obtain ⟨hp1, hp2⟩ := hp.append
            have hbb : b1 = b := by have := test_ok (b := b) (ds := ds) (by rw [htest]; exact hp1); rw [htest] at this; exact this
            subst hbb
            refine wp_cond (hcv _ hb) ?_
            cases b1 with
            | true => exact ih wr x _ _ _ _ o2 ho hp2 r n0 w0 w t' Q hr ht hQ
            | false => exact ih wr y _ _ _ _ o2 ho hp2 r n0 w0 w t' Q hr ht hQ
          · cases h
      · cases h
    | block id c =>
      simp only [evCode] at h
      refine wp_block ?_
      split at h
      · rename_i id' o1 ho
        split at h
        · rename_i hid
          have hid' : id' = id := Nat.eq_of_beq_eq_true hid
          simp only [Option.some.injEq, Prod.mk.injEq] at h; obtain ⟨rfl, rfl⟩ := h
          refine ih wr c ds t s _ o1 ho hp r n0 w0 w t' _ hr ht fun r1 t1' w1 l1 rel1 ht1 => ?_
          simp only [Ex.out, Exit.inBlock, hid', if_true]
          exact hQ r1 t1' w1 l1 rel1 ht1
        · rename_i hid
          have hid' : id' ≠ id := fun e => by subst e; rw [Nat.beq_refl] at hid; cases hid
          simp only [Option.some.injEq, Prod.mk.injEq] at h; obtain ⟨rfl, rfl⟩ := h
          refine ih wr c ds t s _ o1 ho hp r n0 w0 w t' _ hr ht fun r1 t1' w1 l1 rel1 ht1 => ?_
          simp only [Ex.out, Exit.inBlock, if_neg hid']
          exact hQ r1 t1' w1 l1 rel1 ht1
      · rename_i hne
        refine ih wr c ds t s e o h hp r n0 w0 w t' _ hr ht fun r1 t1' w1 l1 rel1 ht1 => ?_
        have q := hQ r1 t1' w1 l1 rel1 ht1
        cases e with
        | normal => exact q
        | exit id' => exact absurd h (hne id' o)
        | ret => exact q
    | loop c => exact wp_loop_rounds (n + 1) (loop wr c ds t s e o h hp r n0 w0 w t' Q hr ht hQ)
    | rangeFunc a b d e => simp [evCode] at h
    | scope b => simp [evCode] at h
    | label l => simp [evCode] at h
    | goto l => simp [evCode] at h
    | refuse y => simp [evCode] at h
theorem evCode_ok {cs : FuncId → Option CSpec} (hcs : CsOk P cs) (n : Nat) : CodeOk P (evCode P cs n) := (evCode_both hcs n).1

/-- A function, run in the small world: one of plain outcome; any. -/
def evPure (P : Program) (cs : FuncId → Option CSpec) (n : Nat) : CallF := fun f args ds s => inlineF P (evCode P cs n) (wrNew s.heap.size) f args ds s
theorem CsOk.none : CsOk P (fun _ => Option.none) := fun f spec h => by cases h

/-- No block in common: nothing is read, nothing written. -/
def noRR : RR := fun _ _ _ => False
def small (h : Array Obj) : World := { heap := h, tape := fun _ _ => 0, drawn := 0, os := default, output := #[] }
theorem Rel.start (w : World) (wr : Nat → Bool) : Rel noRR 0 wr w (small #[]) w :=
  ⟨rfl, rfl, rfl, Nat.le_refl _, fun _ _ _ _ _ h => h.elim, fun _ _ _ _ _ _ h => h.elim, fun _ _ _ h => h.elim, fun _ _ _ h => h.elim, fun _ _ _ => rfl, fun i hi => by simp [small] at hi⟩

/-- What a run gives of a call of plain outcome: the value, and what must hold. -/
def gist (x : Option (Value × World × DS × List Prop)) : Option (Value × List Prop) := match x with
  | some (v, _, _, ps) => some (v, ps)
  | none => none
/-- A CONTRACT FOR A FUNCTION OF PLAIN ARGUMENTS: a plain result, and nothing that was there has turned. -/
theorem evPure_plain {cs : FuncId → Option CSpec} (hcs : CsOk P cs) (n : Nat) {f : FuncId} {args : Array Value} (ds : DS) {v : Value}
    (ps : List Prop) (h : gist (evPure P cs n f args ds (small #[])) = some (v, ps)) (hp : Alls ps) (ha : pfA args = true) (hv : pf v = true) (w : World) :
    Calls P f args w fun e w' => e = .returned v ∧ Below w.heap.size w w' := by
  cases he : evPure P cs n f args ds (small #[]) with
  | none => simp [he, gist] at h
  | some q =>
    obtain ⟨v1, s1, ds1, ps1⟩ := q
    simp only [he, gist, Option.some.injEq, Prod.mk.injEq] at h
    obtain ⟨rfl, rfl⟩ := h
    refine (inlineF_ok (evCode_ok hcs n) _ f args ds _ v1 s1 ds1 ps1 he hp noRR 0 w w args (Rel.start w _) (AR.refl _ ha)).mono ?_
    rintro e w1 ⟨r1, v', l1, rel1, rfl, hv'⟩
    exact ⟨by rw [hv'.same hv], rel1.below (fun i hi => wrNew_le hi)⟩
end
end Go.Proofs.Ytchedebomjmehaa.Sx
