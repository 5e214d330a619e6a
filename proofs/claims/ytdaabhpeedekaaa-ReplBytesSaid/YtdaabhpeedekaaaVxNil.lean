import Derived.Test.YtdaabhpeedekaaaVxClone
noncomputable section
namespace Go.Proofs.Ytdaabhpeedekaaa.Vx
open Go Go.RowKit
set_option linter.unusedVariables false

/-! ### Answers in which nil is to be a row -/
def nilV (hs : List (Nat × Ty)) (v : SV) (s : SW) : SV × SW := match v with
  | .nilsl => match hs with
    | (_, ty) :: _ => (.own s.len 0, s.push (.arr ty 0 []))
    | [] => (.nilsl, s)
  | .tup es => (.tup (nilT hs es s).1, (nilT hs es s).2)
  | .agg es => match es.all fun e => !e.isArr with
    | true => (.agg (nilT hs es s).1, (nilT hs es s).2)
    | false => (.agg es, s)
  | v => (v, s)
def boxEvN (nils : List (Nat × Ty)) (md : Bool) (P : Program) (cl : CallF) (ls : LoopF) (n : Nat) (f : FuncId) (B : FBox) (env : List Dat) : Tree (Nat × List Dat) :=
  (evBodyF md P cl ls n f (instL B.args env) ⟨instBs B.blks env, []⟩).bind fun x => finish B.blks.length B.log B.outs (nilV nils x.1 x.2).1 (nilV nils x.1 x.2).2
def boxCN (nils : List (Nat × Ty)) (md : Bool) (P : Program) (cs : FuncId → Option CSpec) (f : Nat) (ls : LoopF) (B : FBox) (env : List Dat) : Tree (Nat × List Dat) := boxEvN nils md P (clMd md P cs) ls 4000 f B env
section
variable {P : Program} {r : RM} {σ : Snap} {w : World}
theorem nilT_arr : ∀ (hs : List (Nat × Ty)) {t : List SV} {s : SW}, (∀ e ∈ t, e.isArr = false) → ∀ e ∈ (nilT hs t s).1, e.isArr = false
  | [], t, s, h => h
  | (k, ty) :: hs, t, s, h => by
    unfold nilT
    split
    · refine nilT_arr hs fun e he => ?_
      rcases List.mem_or_eq_of_mem_set he with q | q
      · exact h e q
      · subst q; rfl
    · exact nilT_arr hs h
theorem esW_one : ∀ {es : List SV}, (∀ e ∈ es, e.isArr = false) → esW es = es.length
  | [], _ => rfl
  | e :: es, h => by
    simp only [esW, List.length_cons, w_one (h e List.mem_cons_self), esW_one fun x hx => h x (List.mem_cons_of_mem _ hx)]
    omega
theorem offs_one : ∀ {es : List SV} {o : Nat}, (∀ e ∈ es, e.isArr = false) → ∀ k e, (k, e) ∈ offs es o ↔ o ≤ k ∧ es[k - o]? = some e
  | [], o, _, k, e => by simp [offs]
  | x :: es, o, h, k, e => by
    have hx := w_one (h x List.mem_cons_self)
    simp only [offs, List.mem_cons, Prod.mk.injEq, hx]
    rw [offs_one fun y hy => h y (List.mem_cons_of_mem _ hy)]
    constructor
    · rintro (⟨rfl, rfl⟩ | ⟨h1, h2⟩)
      · simp
      · refine ⟨by omega, ?_⟩
        rw [show k - o = (k - (o + 1)) + 1 by omega, List.getElem?_cons_succ]; exact h2
    · rintro ⟨h1, h2⟩
      rcases Nat.eq_or_lt_of_le h1 with q | q
      · subst q
        simp at h2
        exact .inl ⟨rfl, h2.symm⟩
      · refine .inr ⟨by omega, ?_⟩
        rw [show k - o = (k - (o + 1)) + 1 by omega, List.getElem?_cons_succ] at h2; exact h2
theorem agg_list {es : List SV} {c : Array Value} (ha : ∀ e ∈ es, e.isArr = false) : VRel r σ (.agg es) (.agg c) ↔ LRel r σ es c := by
  constructor
  · intro h
    cases h with
    | agg _ _ hw hs _ =>
      refine ⟨by rw [← esW_one ha, hw], fun i v v' h1 h2 => hs i v ((offs_one ha i v).2 ⟨Nat.zero_le _, by simpa using h1⟩) (ha v (List.mem_of_getElem? h1)) v' h2⟩
  · intro h
    refine .agg es c (by rw [esW_one ha]; exact h.1) (fun k e he hn v hv => ?_) (fun k t n l he => ?_)
    · have := (offs_one ha k e).1 he
      exact h.2 k e v (by simpa using this.2) hv
    · have := (offs_one ha k _).1 he
      have := ha _ (List.mem_of_getElem? this.2)
      simp [SV.isArr] at this
theorem nilV_ok {K : Nat} (hs : List (Nat × Ty)) {v : SV} {s : SW} {v' : Value} (hr : Rel r σ s w) (hv : VRel r σ v v') (hK : K ≤ s.len) :
    ∃ r2, Rel r2 σ (nilV hs v s).2 w ∧ VRel r2 σ (nilV hs v s).1 v' ∧ (∀ log, FrameK K log r r2 σ σ w w) ∧ K ≤ (nilV hs v s).2.len ∧ (nilV hs v s).2.log = s.log := by
  have same : ∃ r2, Rel r2 σ s w ∧ VRel r2 σ v v' ∧ (∀ log, FrameK K log r r2 σ σ w w) ∧ K ≤ s.len ∧ s.log = s.log := ⟨r, hr, hv, fun log => FrameK.refl .., hK, rfl⟩
  cases v with
  | nilsl =>
    cases hs with
    | nil => exact same
    | cons p hs =>
      obtain ⟨k, ty⟩ := p
      cases hv
      obtain ⟨h1, h2, h3⟩ := hr.newNil ty
      refine ⟨_, h1, .own s.len 0 (nowhere ty.width) (by simp [RM.setArr]), fun log => ?_, by show K ≤ (s.push _).len; rw [SW.len_push]; omega, rfl⟩
      exact Frame.toK (n := s.len) ⟨rfl, rfl, rfl, Nat.le_refl _, h3.fresh, fun _ _ _ => rfl, fun b hb _ => setArr_same (by omega), .refl⟩ h2 (Snap.le_refl _) hK
  | tup es =>
    cases hv with
    | tup _ c h1 h2 =>
      obtain ⟨r2, a1, a2, a3, a4, a5, _⟩ := nilT_ok (K := K) hs hr (t := es) (t' := c) ⟨h1, h2⟩ hK
      exact ⟨r2, a1, .tup _ c a2.1 a2.2, a3, a4, a5⟩
  | agg es =>
    cases hall : es.all fun e => !e.isArr with
    | false =>
      have : nilV hs (.agg es) s = (.agg es, s) := by unfold nilV; simp only [hall]
      rw [this]; exact same
    | true =>
      have : nilV hs (.agg es) s = (.agg (nilT hs es s).1, (nilT hs es s).2) := by unfold nilV; simp only [hall]
      rw [this]
      have ha : ∀ e ∈ es, e.isArr = false := fun e he => by
        have := List.all_eq_true.1 hall e he
        simpa using this
      have hc : ∃ c, v' = .agg c := by cases hv; exact ⟨_, rfl⟩
      obtain ⟨c, rfl⟩ := hc
      obtain ⟨r2, a1, a2, a3, a4, a5, _⟩ := nilT_ok (K := K) hs hr (t := es) (t' := c) ((agg_list ha).1 hv) hK
      exact ⟨r2, a1, (agg_list (nilT_arr hs ha)).2 a2, a3, a4, a5⟩
  | _ => exact same
theorem boxRunN_ok {cl : CallF} (hcl : ClOk P cl) (hm : P.follows .mixedOrders = true) {ls : LoopF} {n : Nat} {f : FuncId} {B : FBox} {nils : List (Nat × Ty)} {md : Bool} (hls : LsOk P B.blks.length ls (bodyOf P f))
    (hB : ∀ env x, (B.fn env).sel = some x → (boxEvN nils md P cl ls n f B env).sel = some x) : RunOk P f (boxRun B) := by
  intro args s v s1 h hlog r σ w args' hr ha
  unfold boxRun at h
  split at h
  · rename_i env henv
    obtain ⟨⟨k, e⟩, h1, h2⟩ := Tree.bind_some h
    split at h2
    · rename_i o ho
      cases h2
      obtain ⟨f1, f2, f3⟩ := fitS_ok henv hr ha []
      have hE := hB env _ h1
      unfold boxEvN at hE
      obtain ⟨⟨v1, s2⟩, h3, h4⟩ := Tree.bind_some hE
      rw [evBodyF_eq] at h3
      have hlen : (⟨instBs B.blks env, []⟩ : SW).len = B.blks.length := by simp [SW.len, instBs]
      refine (evBody_ok hcl hm hls h3 (by rw [hlen]; exact Nat.le_refl _) f1 f2).mono ?_
      rintro e' w' ⟨v', rfl, r', σ', a1, a2, a3, a4, a5⟩
      obtain ⟨g1, g2⟩ := Tree.guard_some h4
      obtain ⟨o', q1, q2, q3⟩ := tryOuts_ok g2
      rw [Nat.sub_zero, ho] at q2
      cases q2
      obtain ⟨r1, n1, n2, n3, n4, n5⟩ := nilV_ok (K := B.blks.length) nils a1 a3 a5
      obtain ⟨r2, b1, b2, b3, b4⟩ := reFit_ok q3 n4 n1 (LRel.one n2)
      have lg := logOk_iff g1
      refine ⟨v', rfl, r2, σ', b1 B.log, ?_, ?_, (fun x hx _ => by rw [hlog] at hx; cases hx), ?_⟩
      · rw [← f3]; exact ((a2.trans (n3 (nilV nils v1 s2).2.log) fun b hb _ => by rw [n5]; exact hb).trans b3 fun _ h _ => h).more fun b hb hk => lg b hb hk
      · exact b2.at_ 0 (instV o.1 e) v' rfl rfl
      · rw [← f3]; show _ ≤ (instBs o.2 e).length; rw [instBs, List.length_map]; exact b4
    · simp [Tree.sel] at h2
  · simp [Tree.sel] at h
theorem mkFN_ok {cs : FuncId → Option CSpec} (hcs : CsOk P cs) (hm : P.follows .mixedOrders = true) (md : Bool) {ls : LoopF} {f : FuncId} {args : List PV} {blks : List PB} {log : List Nat} {outs : List (PV × List PB)} {op : List Dat → Option (Nat × List Dat)} {nils : List (Nat × Ty)}
    (hls : LsOk P blks.length ls (bodyOf P f)) (h : ∀ env x, op env = some x → (boxCN nils md P cs f ls (mkF args blks log outs fun _ => none) env).sel = some x) : RunOk P f (boxRun (mkF args blks log outs op)) :=
  boxRunN_ok (nils := nils) (md := md) (clMd_ok hcs hm md) hm hls fun env x hx => h env x (outT_some hx)
end
end Go.Proofs.Ytdaabhpeedekaaa.Vx
