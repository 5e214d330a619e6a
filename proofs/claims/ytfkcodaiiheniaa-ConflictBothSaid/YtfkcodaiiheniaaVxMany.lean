import Derived.Test.YtfkcodaiiheniaaVxPure
import Derived.Test.YtfkcodaiiheniaaVxCvA
noncomputable section
namespace Go.Proofs.Ytfkcodaiiheniaa.Vx
open Go Go.RowKit
set_option linter.unusedVariables false
structure MBox where
 K : Nat
 log : List Nat
 ins : List (List PV × List PB)
 nils : List (Nat × Ty)
 outs : List (Exit × List PV × List PB)
 fn : List Dat → Tree (Nat × List Dat)
 cv : List (Nat × List Nat × Nat × CK) := []
def insT (ins : List (List PV × List PB)) : List Dat → List SV
 | .k j :: d => match ins[j]? with
  | some o => instL o.1 d
  | none => []
 | _ => []
def insB (ins : List (List PV × List PB)) : List Dat → List Blk
 | .k j :: d => match ins[j]? with
  | some o => instBs o.2 d
  | none => []
 | _ => []
def tryIns (K : Nat) (t : List SV) (s : SW) : List (List PV × List PB) → Nat → Option (List Dat)
 | [], _ => none
 | o :: os, k => match reFit K o.1 o.2 t s with
  | some env => some (.k k :: env)
  | none => tryIns K t s os (k + 1)
def manyRun (B : MBox) (t : List SV) (s : SW) : Tree Res := match tryIns B.K (nilT B.nils t (cvT B.cv t s)).1 (nilT B.nils t (cvT B.cv t s)).2 B.ins 0 with
 | some env => (B.fn env).bind fun x => match B.outs[x.1]? with
  | some o => .leaf (o.1, instL o.2.1 x.2, ⟨instBs o.2.2 x.2, addLog B.log (cvT B.cv t s).log⟩)
  | none => .bad 331
 | none => .bad 330
def okEnv (ins : List (List PV × List PB)) : List Dat → Bool
 | .k j :: _ => Nat.blt j ins.length
 | _ => false
def stepM (md : Bool) (P : Program) (cl : CallF) (ls : LoopF) (n : Nat) (c : Code) (B : MBox) (env : List Dat) : Tree Step :=
 .guard (okEnv B.ins env) 335 (fVs md (insT B.ins env) fun t => fSW md ⟨insB B.ins env, []⟩ fun s => (evCodeF md P cl ls n c t s).bind fun x => .guard (logOk B.K B.log (cvT B.cv x.2.1 x.2.2).log) 333 (match x.1 with
  | .normal => match tryIns B.K (nilT B.nils x.2.1 (cvT B.cv x.2.1 x.2.2)).1 (nilT B.nils x.2.1 (cvT B.cv x.2.1 x.2.2)).2 B.ins 0 with
   | some env => .leaf (.go env)
   | none => .bad 334
  | e => (tryExits B.K e x.2.1 (cvT B.cv x.2.1 x.2.2) B.outs 0).bind fun y => .leaf (.stop y.1 y.2)))
section
variable {P : Program}
theorem tryIns_ok {K : Nat} {t : List SV} {s : SW} : ∀ {ins : List (List PV × List PB)} {k0 : Nat} {env : List Dat}, tryIns K t s ins k0 = some env → ∃ j d o, env = .k j :: d ∧ k0 ≤ j ∧ ins[j - k0]? = some o ∧ reFit K o.1 o.2 t s = some d
 | [], k0, env, h => by simp [tryIns] at h
 | o :: os, k0, env, h => by
  unfold tryIns at h
  split at h
  ·rename_i e he
   cases h
   exact ⟨k0, e, o, rfl, Nat.le_refl _, by simp, he⟩
  ·obtain ⟨j, d, o', h1, h2, h3, h4⟩ := tryIns_ok h
   refine ⟨j, d, o', h1, by omega, ?_, h4⟩
   rw [show j - k0 = (j - (k0 + 1)) + 1 by omega, List.getElem?_cons_succ]; exact h3
theorem tryIns_rel {r : RM} {σ : Snap} {s : SW} {w : World} {K : Nat} {ins : List (List PV × List PB)} {t : List SV} {env : List Dat} (h : tryIns K t s ins 0 = some env) (hK : K ≤ s.len) (hr : Rel r σ s w) {t' : Array Value} (ht : LRel r σ t t') :
  ∃ r2, (∀ lg, Rel r2 σ ⟨insB ins env, lg⟩ w) ∧ LRel r2 σ (insT ins env) t' ∧ FrameK K s.log r r2 σ σ w w ∧ okEnv ins env = true := by
 obtain ⟨j, d, o, rfl, _, h3, h4⟩ := tryIns_ok h
 rw [Nat.sub_zero] at h3
 obtain ⟨r2, a1, a2, a3, a4⟩ := reFit_ok h4 hK hr ht
 refine ⟨r2, ?_, ?_, a3, ?_⟩
 ·intro lg; unfold insB; simp only [h3]; exact a1 lg
 ·unfold insT; simp only [h3]; exact a2
 ·exact Nat.ble_eq_true_of_le (List.getElem?_eq_some_iff.1 h3).1
theorem insB_len {ins : List (List PV × List PB)} {K : Nat} (hK : (ins.all fun o => Nat.ble K o.2.length) = true) {env : List Dat} (h : okEnv ins env = true) : K ≤ (insB ins env).length := by
 unfold okEnv at h
 split at h
 ·rename_i j d
  have hj : j < ins.length := Nat.le_of_ble_eq_true h
  unfold insB
  simp only [List.getElem?_eq_getElem hj, instBs, List.length_map]
  exact Nat.le_of_ble_eq_true (List.all_eq_true.1 hK _ (List.getElem_mem hj))
 ·cases h
theorem goesM_rounds {cl : CallF} (hcl : ClOk P cl) (hm : P.follows .mixedOrders = true) {md : Bool} {ls : LoopF} {n : Nat} {c : Code} {B : MBox} (hls : LsOk P B.K ls c) (hK : (B.ins.all fun o => Nat.ble B.K o.2.length) = true) {m : Nat} {env : List Dat} {x : Nat × List Dat} (hg : GoesN (stepM md P cl ls n c B) m env x)
  {o : Exit × List PV × List PB} (ho : B.outs[x.1]? = some o) : ∀ (r : RM) (σ : Snap) (w : World) (t' : Array Value) (Q : Exit → Act → World → Prop), (∀ lg, Rel r σ ⟨insB B.ins env, lg⟩ w) → LRel r σ (insT B.ins env) t' →
   (∀ t1' w' r' σ', (∀ lg, Rel r' σ' ⟨instBs o.2.2 x.2, lg⟩ w') → FrameK B.K B.log r r' σ σ' w w' → LRel r' σ' (instL o.2.1 x.2) t1' → B.K ≤ o.2.2.length → Q o.1 ⟨t1', []⟩ w') → Code.rounds P c Q m ⟨t', []⟩ w := by
 have one : ∀ (env : List Dat) (y : Step), (stepM md P cl ls n c B env).sel = some y → ∀ (r : RM) (σ : Snap) (w : World) (t' : Array Value) (Q : Exit → Act → World → Prop), (∀ lg, Rel r σ ⟨insB B.ins env, lg⟩ w) → LRel r σ (insT B.ins env) t' →
   (match y with
    | .go env' => ∀ t1' w' r' σ', (∀ lg, Rel r' σ' ⟨insB B.ins env', lg⟩ w') → FrameK B.K B.log r r' σ σ' w w' → LRel r' σ' (insT B.ins env') t1' → Q .normal ⟨t1', []⟩ w'
    | .stop k d => ∀ o, B.outs[k]? = some o → ∀ t1' w' r' σ', (∀ lg, Rel r' σ' ⟨instBs o.2.2 d, lg⟩ w') → FrameK B.K B.log r r' σ σ' w w' → LRel r' σ' (instL o.2.1 d) t1' → B.K ≤ o.2.2.length → o.1 ≠ .normal → Q o.1 ⟨t1', []⟩ w') → c.wp P Q ⟨t', []⟩ w := by
  intro env y h r σ w t' Q hr ht hQ
  unfold stepM at h
  obtain ⟨h0, h⟩ := Tree.guard_some h
  rw [fVs_eq, fSW_eq, evCodeF_eq] at h
  obtain ⟨⟨e, t1, s1⟩, h1, h2⟩ := Tree.bind_some h
  obtain ⟨h3, h4⟩ := Tree.guard_some h2
  have lg := logOk_iff h3
  refine evCode_ok hcl hm n c _ _ _ hls h1 (insB_len hK h0) r σ w t' Q (hr []) ht fun t1' w' hth => ?_
  obtain ⟨r1, σ1, a1, a2, a3, a4, a5⟩ := hth
  obtain ⟨rc, σc, c1, c2, c3, c4, c5, c6⟩ := cvT_ok (K := B.K) B.cv t1 a1 a5
  have a2' := (a2.more fun b hb hk => lg b (c6 b hb) hk).trans (c4.more fun b hb hk => lg b hb hk) fun _ h _ => h
  have a3' := a3.mono c1 c2
  have ex : ∀ e' : Exit, e' = e → e' ≠ .normal → ((tryExits B.K e' t1 (cvT B.cv t1 s1) B.outs 0).bind fun y => Tree.leaf (Step.stop y.1 y.2)).sel = some y → Q e' ⟨t1', []⟩ w' := by
   intro e' he hne h4
   obtain ⟨⟨k, d⟩, h5, h6⟩ := Tree.bind_some h4
   cases h6
   obtain ⟨o, q1, q2, q3, q4⟩ := tryExits_ok h5
   rw [Nat.sub_zero] at q2
   obtain ⟨r2, b1, b2, b3, b4⟩ := reFit_ok q4 c5 c3 a3'
   have := hQ o q2 t1' w' r2 σc b1 (a2'.trans (b3.more fun b hb hk => lg b hb hk) fun _ h _ => h) b2 b4 (by rw [q3]; exact hne)
   rw [q3] at this; exact this
  cases e with
  | normal =>
   simp only at h4
   obtain ⟨r2, b1, b2, b3, b4, b5, b6⟩ := nilT_ok (K := B.K) B.nils c3 a3' c5
   split at h4
   ·rename_i env' he
    cases h4
    obtain ⟨r3, d1, d2, d3, d4⟩ := tryIns_rel he b4 b1 b2
    rw [b5] at d3
    exact hQ t1' w' r3 σc d1 ((a2'.trans (b3 B.log) fun _ h _ => h).trans (d3.more fun b hb hk => lg b hb hk) fun _ h _ => h) d2
   ·simp [Tree.sel] at h4
  | exit i => exact ex _ rfl (by simp) h4
  | ret => exact ex _ rfl (by simp) h4
  | goto l => exact ex _ rfl (by simp) h4
  | panic l => exact ex _ rfl (by simp) h4
  | outgrown => exact ex _ rfl (by simp) h4
 induction hg with
 | stop env k d h =>
  intro r σ w t' Q hr ht hQ
  rw [rounds_succ]
  refine one env _ h r σ w t' _ hr ht ?_
  intro o' ho' t1' w' r' σ' k1 k2 k3 k4 k5
  simp only at ho
  rw [ho] at ho'; cases ho'
  have := hQ t1' w' r' σ' k1 k2 k3 k4
  generalize o.1 = e at this k5 ⊢
  cases e <;> first | exact this | exact absurd rfl k5
 | go m env env' x h k ih =>
  intro r σ w t' Q hr ht hQ
  rw [rounds_succ]
  refine one env _ h r σ w t' _ hr ht ?_
  intro t1' w' r' σ' k1 k2 k3
  exact ih ho r' σ' w' t1' Q k1 k3 fun t2' w2 r2 σ2 q1 q2 q3 q4 => hQ t2' w2 r2 σ2 q1 (k2.trans q2 fun _ h _ => h) q3 q4
theorem manyRun_ok {cl : CallF} (hcl : ClOk P cl) (hm : P.follows .mixedOrders = true) {md : Bool} {ls : LoopF} {n : Nat} {c : Code} {B : MBox} (hls : LsOk P B.K ls c) (hK : (B.ins.all fun o => Nat.ble B.K o.2.length) = true)
  (hB : ∀ env x, (B.fn env).sel = some x → Goes1 (stepM md P cl ls n c B) env x) {t : List SV} {s : SW} {x : Res} (h : (manyRun B t s).sel = some x) : CodeOk P B.K (.loop c) t s x := by
 intro hKs r σ w t' Q hr ht hQ
 unfold manyRun at h
 obtain ⟨rc, σc, c1, c2, c3, c4, c5, c6⟩ := cvT_ok (K := B.K) B.cv t hr hKs
 obtain ⟨r2, b1, b2, b3, b4, b5, b6⟩ := nilT_ok (K := B.K) B.nils c3 (ht.mono c1 c2) c5
 split at h
 ·rename_i env he
  obtain ⟨⟨k, e⟩, h1, h2⟩ := Tree.bind_some h
  split at h2
  ·rename_i o ho
   cases h2
   obtain ⟨r3, d1, d2, d3, d4⟩ := tryIns_rel he b4 b1 b2
   obtain ⟨m, hg⟩ := hB env _ h1
   have fr := (b3 (cvT B.cv t s).log).trans d3 fun _ h _ => by rw [b5]; exact h
   rw [b5] at fr
   have fr := c4.trans fr fun _ h _ => h
   refine wp_loop_rounds m (goesM_rounds hcl hm hls hK hg ho r3 σc w t' Q d1 d2 fun t1' w' r' σ' k1 k2 k3 k4 => hQ t1' w' ⟨r', σ', k1 _, ?_, k3, fun x hx _ => (addLog_mem _ _ _).2 (.inr (c6 x hx)), ?_⟩)
   ·exact (fr.more fun b hb _ => (addLog_mem _ _ _).2 (.inr hb)).trans (k2.more fun b hb _ => (addLog_mem _ _ _).2 (.inl hb)) fun _ h _ => h
   ·show B.K ≤ (instBs o.2.2 e).length
    rw [instBs, List.length_map]; exact k4
  ·simp [Tree.sel] at h2
 ·simp [Tree.sel] at h
def lookM : List (Nat × MBox) → Nat → Option MBox
 | [], _ => none
 | (i, B) :: l, k => match Nat.beq i k with
  | true => some B
  | false => lookM l k
def lsM (tab : List (Nat × MBox)) (K : Nat) : LoopF := fun c t s => match loopId c with
 | some i => match lookM tab i with
  | some B => match Nat.beq B.K K with
   | true => some (manyRun B t s)
   | false => none
  | none => none
 | none => none
theorem LsOk.many {c0 : Code} {K : Nat} {tab : List (Nat × MBox)} (h : ∀ i B, lookM tab i = some B → B.K = K → ∀ c ∈ loopsOf c0, loopId c = some i → ∀ t s x, (manyRun B t s).sel = some x → CodeOk P B.K (.loop c) t s x) : LsOk P K (lsM tab K) c0 := by
 intro c hc t s T x hT hx
 unfold lsM at hT
 split at hT
 ·rename_i i hi
  split at hT
  ·rename_i B hB
   split at hT
   ·rename_i hk
    have := Nat.eq_of_beq_eq_true hk
    cases hT
    subst this
    exact h i B hB rfl c hc hi t s x hx
   ·cases hT
  ·cases hT
 ·cases hT
def loopsAt (c0 : Code) (i : Nat) : List Code := (loopsOf c0).filter fun c => match loopId c with
 | some k => Nat.beq k i
 | none => false
theorem loopsAt_mem {c0 c : Code} {i : Nat} (h : c ∈ loopsOf c0) (hi : loopId c = some i) : c ∈ loopsAt c0 i := by
 unfold loopsAt
 rw [List.mem_filter]
 exact ⟨h, by rw [hi]; simp⟩
def stepMC (md : Bool) (P : Program) (cs : FuncId → Option CSpec) (f i : Nat) (ls : LoopF) (B : MBox) (env : List Dat) : Tree Step := stepM md P (clMd md P cs) ls 4000 (cAt P f i) B env
def mkM (K : Nat) (log : List Nat) (ins : List (List PV × List PB)) (nils : List (Nat × Ty)) (outs : List (Exit × List PV × List PB)) (op : List Dat → Option (Nat × List Dat)) (cv : List (Nat × List Nat × Nat × CK) := []) : MBox :=
 ⟨K, log, ins, nils, outs, fun env => outT (outs.map fun o => holesS o.2.1 o.2.2) 0 (op env), cv⟩
theorem mkM_ok {cs : FuncId → Option CSpec} (hcs : CsOk P cs) (hm : P.follows .mixedOrders = true) (md : Bool) {f i : Nat} {k : Nat} {log : List Nat} {ins : List (List PV × List PB)} {nils : List (Nat × Ty)} {outs : List (Exit × List PV × List PB)} {cv : List (Nat × List Nat × Nat × CK)} {st : List Dat → Tree Step} {m : Nat}
  {ls : LoopF} (hls : LsOk P k ls (cAt P f i)) (hK : (ins.all fun o => Nat.ble k o.2.length) = true)
  (h : ∀ env y, (st env).sel = some y → (stepMC md P cs f i ls (mkM k log ins nils outs (fun _ => none) cv) env).sel = some y) : ∀ t' s x, (manyRun (mkM k log ins nils outs (iterS st m) cv) t' s).sel = some x → CodeOk P k (.loop (cAt P f i)) t' s x :=
 fun t' s x hx => manyRun_ok (B := mkM k log ins nils outs (iterS st m) cv) (clMd_ok hcs hm md) hm hls hK (n := 4000) (md := md) (fun env x he => iterS_goes h m env x (outT_some he)) hx
end
end Go.Proofs.Ytfkcodaiiheniaa.Vx
