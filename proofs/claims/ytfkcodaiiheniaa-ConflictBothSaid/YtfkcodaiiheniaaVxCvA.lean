import Derived.Test.YtfkcodaiiheniaaVxBox
noncomputable section
namespace Go.Proofs.Ytfkcodaiiheniaa.Vx
open Go Go.RowKit
set_option linter.unusedVariables false
inductive CK where
 | imm (t : Ty)
 | own (t : Ty)
def cvE (k : CK) (e : SV) (s : SW) : Option (SV × SW) := match k, e with
 | .imm _, .imm _ _ => none
 | .imm t, e => match contAs t e s with
  | some l => some (.imm t l, freezeV e s)
  | none => none
 | .own t, .nilsl => some (.own s.len 0, s.push (.arr t 0 []))
 | .own _, _ => none
def cvB (b i : Nat) (k : CK) (s : SW) : SW := match s.blk b with
 | some (.cells es) => match es[i]? with
  | some e => match cvE k e s with
   | some (e', s1) => match s1.blk b with
    | some (.cells es1) => (s1.note b).setBlk b (.cells (es1.set i e'))
    | _ => s
   | none => s
  | none => s
 | _ => s
def followB : List Nat → SV → SW → Option Nat
 | [], .ptr b _, _ => some b
 | p :: ps, .ptr b _, s => match s.blk b with
  | some (.cells es) => match es[p]? with
   | some e => followB ps e s
   | none => none
  | _ => none
 | _, _, _ => none
def cvT : List (Nat × List Nat × Nat × CK) → List SV → SW → SW
 | [], _, s => s
 | (q, ps, i, k) :: r, t, s => match t[q]? with
  | some v => match followB ps v s with
   | some b => cvT r t (cvB b i k s)
   | none => cvT r t s
  | none => cvT r t s
theorem esW_set : ∀ {es : List SV} {i : Nat} {e e' : SV}, es[i]? = some e → e'.w = e.w → esW (es.set i e') = esW es
 | [], i, e, e', h, _ => by simp at h
 | x :: es, 0, e, e', h, hw => by simp at h; subst h; simp [esW, hw]
 | x :: es, i + 1, e, e', h, hw => by
  simp only [List.getElem?_cons_succ] at h
  simp only [List.set_cons_succ, esW, esW_set h hw]
theorem offs_set : ∀ {es : List SV} {i : Nat} {e e' : SV} {o : Nat}, es[i]? = some e → e'.w = e.w → ∀ k x, (k, x) ∈ offs (es.set i e') o → (k, x) ∈ offs es o ∨ (x = e' ∧ (k, e) ∈ offs es o)
 | [], i, e, e', o, h, _ => by simp at h
 | y :: es, 0, e, e', o, h, hw => by
  simp at h; subst h
  intro k x hx
  simp only [List.set_cons_zero, offs, List.mem_cons, Prod.mk.injEq, hw] at hx ⊢
  rcases hx with ⟨rfl, rfl⟩ | hx
  ·exact .inr ⟨rfl, by simp⟩
  ·exact .inl (.inr hx)
 | y :: es, i + 1, e, e', o, h, hw => by
  simp only [List.getElem?_cons_succ] at h
  intro k x hx
  simp only [List.set_cons_succ, offs, List.mem_cons, Prod.mk.injEq] at hx ⊢
  rcases hx with hx | hx
  ·exact .inl (.inl hx)
  ·rcases offs_set h hw k x hx with q | ⟨q1, q2⟩
   ·exact .inl (.inr q)
   ·exact .inr ⟨q1, .inr q2⟩
section
variable {P : Program} {r : RM} {σ : Snap} {w : World}
theorem ERel.set {es : List SV} {i : Nat} {e e' : SV} {get : Nat → Option Value} {o : Nat} (h : ERel r σ es get o) (hi : es[i]? = some e) (hw : e'.w = e.w) (ha : e.isArr = false) (ha' : e'.isArr = false) (hv : ∀ v, VRel r σ e v → VRel r σ e' v) : ERel r σ (es.set i e') get o := by
 refine ⟨fun k x hx hn => ?_, fun k t n l hx => ?_⟩
 ·rcases offs_set hi hw k x hx with q | ⟨rfl, q⟩
  ·exact h.one k x q hn
  ·obtain ⟨v, h1, h2⟩ := h.one k e q ha
   exact ⟨v, h1, hv v h2⟩
 ·rcases offs_set hi hw k _ hx with q | ⟨q, _⟩
  ·exact h.arr k t n l q
  ·rw [← q] at ha'; cases ha'
theorem freezeE {s : SW} (hr : Rel r σ s w) {e : SV} {t : Ty} {l : List t.den} (he : ∀ t l, e ≠ .imm t l) (h : contAs t e s = some l) :
  ∃ σ', σ.le σ' ∧ Rel r σ' (freezeV e s) w ∧ Kept r σ σ' w s (freezeV e s) ∧ ∀ v2, VRel r σ' e v2 → RD σ' (.sl t) (fun _ => some v2) 0 l := by
 by_cases hx : ∃ v', VRel r σ e v'
 ·obtain ⟨v', hv⟩ := hx
  obtain ⟨σ', h1, h2, h3, h4⟩ := freezeV_ok hr hv h
  exact ⟨σ', h1, h2, h3, fun v2 => h4 σ' v2 (Snap.le_refl _)⟩
 ·have go : ∀ b, freezeV e s = freezeB s b → (∀ σ' v2, VRel r σ' e v2 → VRel r σ e v2) → ∃ σ', σ.le σ' ∧ Rel r σ' (freezeV e s) w ∧ Kept r σ σ' w s (freezeV e s) ∧ ∀ v2, VRel r σ' e v2 → RD σ' (.sl t) (fun _ => some v2) 0 l := by
   intro b hf hb
   obtain ⟨σ', m1, m2, m3, m4, m5, m6, m7, m8⟩ := freezeB_ok hr b
   rw [hf]
   refine ⟨σ', m1, m2, ⟨fun b' => ?_, m5, m6, m8⟩, fun v2 hv => absurd ⟨v2, hb σ' v2 hv⟩ hx⟩
   by_cases q : b' = b
   ·subst q; exact m4
   ·exact .inl (m3 b' q)
  cases e with
  | nilsl => exact absurd ⟨_, .nilsl⟩ hx
  | imm t l => exact absurd rfl (he t l)
  | own b g => exact go b rfl fun σ' v2 hv => by cases hv with | own _ _ x hx => exact .own _ _ x hx
  | part b g lo n => exact go b rfl fun σ' v2 hv => by cases hv with | part _ _ _ _ x a cap h h1 h2 h3 h4 h5 => exact .part _ _ _ _ x a cap h h1 h2 h3 h4 h5
  | _ => simp [contAs, contOf] at h
theorem cont_w {t : Ty} {e : SV} {s : SW} {l : List t.den} (h : contAs t e s = some l) : e.w = 1 ∧ e.isArr = false := by
 cases e <;> first | exact ⟨rfl, rfl⟩ | (simp [contAs, contOf] at h)
theorem cvB_ok {K : Nat} {s : SW} (b i : Nat) (k : CK) (hr : Rel r σ s w) (hK : K ≤ s.len) :
  ∃ r2 σ2, r.le r2 ∧ σ.le σ2 ∧ Rel r2 σ2 (cvB b i k s) w ∧ FrameK K (cvB b i k s).log r r2 σ σ2 w w ∧ K ≤ (cvB b i k s).len ∧ ∀ x, x ∈ s.log → x ∈ (cvB b i k s).log := by
 have same : ∃ r2 σ2, r.le r2 ∧ σ.le σ2 ∧ Rel r2 σ2 s w ∧ FrameK K s.log r r2 σ σ2 w w ∧ K ≤ s.len ∧ ∀ x, x ∈ s.log → x ∈ s.log := ⟨r, σ, RM.le_refl _, Snap.le_refl _, hr, FrameK.refl .., hK, fun _ h => h⟩
 have put : ∀ {s1 : SW} {σ2 : Snap} {r2 : RM} {es : List SV} {e e' : SV}, Rel r2 σ2 s1 w → s1.blk b = some (.cells es) → es[i]? = some e → e'.w = e.w → e.isArr = false → e'.isArr = false → (∀ v, VRel r2 σ2 e v → VRel r2 σ2 e' v) → Rel r2 σ2 ((s1.note b).setBlk b (.cells (es.set i e'))) w := by
  intro s1 σ2 r2 es e e' h1 hb hi hw ha ha' hv
  have hlt : b < s1.len := (List.getElem?_eq_some_iff.1 hb).1
  have h1' : Rel r2 σ2 (s1.note b) w := h1.log (by unfold SW.note; split <;> rfl)
  refine h1'.weak (SW.set_len _ _ _) fun b' x' hx => ?_
  by_cases q : b' = b
  ·subst q
   rw [SW.set_blk _ _ _ (by rw [SW.note_len]; exact hlt)] at hx
   cases hx
   exact .inr (.inr (.inl ⟨es, _, .inl ⟨by rw [SW.note_blk]; exact hb, rfl⟩, esW_set hi hw, fun get o he => he.set hi hw ha ha' hv⟩))
  ·rw [SW.set_ne _ _ _ q] at hx
   exact .inr (.inl hx)
 unfold cvB
 cases hb : s.blk b with
 | none => exact same
 | some blk =>
  cases blk with
  | cells es =>
   simp only
   cases hi : es[i]? with
   | none => exact same
   | some e =>
    simp only
    cases hc : cvE k e s with
    | none => exact same
    | some x =>
     obtain ⟨e', s1⟩ := x
     simp only
     cases hb1 : s1.blk b with
     | none => exact same
     | some blk1 =>
      cases blk1 with
      | cells es1 =>
       simp only
       have lg : ∀ x, x ∈ s1.log → x ∈ ((s1.note b).setBlk b (.cells (es1.set i e'))).log := fun x hx => SW.note_sub _ _ x hx
       have ln : ((s1.note b).setBlk b (.cells (es1.set i e'))).len = s1.len := by rw [SW.set_len, SW.note_len]
       unfold cvE at hc
       split at hc
       ·cases hc
       ·rename_i t ne
        split at hc
        ·rename_i l hl
         cases hc
         obtain ⟨σ2, f1, f2, f3, f4⟩ := freezeE hr (fun t l q => by subst q; exact ne _ _ rfl) hl
         have := f3.cells hb1
         rw [hb] at this
         cases this
         obtain ⟨cw1, cw2⟩ := cont_w hl
         refine ⟨r, σ2, RM.le_refl _, f1, put f2 hb1 hi cw1.symm cw2 rfl (fun v hv => .imm t l v (f4 v hv)), ?_, by rw [ln, f3.len]; exact hK, fun x hx => lg x (f3.log x hx)⟩
         exact (Frame.still s.len (f3.stay.more lg)).toK (RM.le_refl _) f1 hK
        ·cases hc
       ·rename_i t
        cases hc
        obtain ⟨h1, h2, h3⟩ := hr.newNil t
        have hlt : b < s.len := (List.getElem?_eq_some_iff.1 hb).1
        rw [SW.blk_push_ne _ _ (by omega), hb] at hb1
        cases hb1
        refine ⟨_, σ, h2, Snap.le_refl _, put h1 (by rw [SW.blk_push_ne _ _ (by omega)]; exact hb) hi rfl rfl rfl (fun v hv => ?_), ?_, by rw [ln, SW.len_push]; omega, fun x hx => lg x hx⟩
        ·cases hv
         exact .own s.len 0 (nowhere t.width) (by simp [RM.setArr])
        ·exact (h3.more lg).toK h2 (Snap.le_refl _) hK
       ·cases hc
      | _ => exact same
  | _ => exact same
theorem cvT_ok {K : Nat} : ∀ (cv : List (Nat × List Nat × Nat × CK)) (t : List SV) {r : RM} {σ : Snap} {s : SW}, Rel r σ s w → K ≤ s.len →
  ∃ r2 σ2, r.le r2 ∧ σ.le σ2 ∧ Rel r2 σ2 (cvT cv t s) w ∧ FrameK K (cvT cv t s).log r r2 σ σ2 w w ∧ K ≤ (cvT cv t s).len ∧ ∀ x, x ∈ s.log → x ∈ (cvT cv t s).log
 | [], t, r, σ, s, hr, hK => ⟨r, σ, RM.le_refl _, Snap.le_refl _, hr, FrameK.refl .., hK, fun _ h => h⟩
 | (q, ps, i, k) :: cv, t, r, σ, s, hr, hK => by
  unfold cvT
  split
  ·split
   ·rename_i b hb
    obtain ⟨r1, σ1, a1, a2, a3, a4, a5, a6⟩ := cvB_ok b i k hr hK
    obtain ⟨r2, σ2, b1, b2, b3, b4, b5, b6⟩ := cvT_ok cv t a3 a5
    exact ⟨r2, σ2, RM.le_trans a1 b1, Snap.le_trans a2 b2, b3, a4.trans b4 fun x hx _ => b6 x hx, b5, fun x hx => b6 x (a6 x hx)⟩
   ·exact cvT_ok cv t hr hK
  ·exact cvT_ok cv t hr hK
end
end Go.Proofs.Ytfkcodaiiheniaa.Vx
