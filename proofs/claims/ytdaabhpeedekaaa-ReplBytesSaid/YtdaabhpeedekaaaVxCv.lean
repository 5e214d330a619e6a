import Derived.Test.YtdaabhpeedekaaaVxNil
noncomputable section
namespace Go.Proofs.Ytdaabhpeedekaaa.Vx
open Go Go.RowKit
set_option linter.unusedVariables false

/-! ### Conversions at a box's end -/
def ptrOf : SV → Option Nat
  | .ptr b _ => some b
  | .tup (.ptr b _ :: _) => some b
  | _ => none
def cvS : List (Option Nat × Nat × CK) → SV → SW → SW
  | [], _, s => s
  | (some b, i, k) :: r, v, s => cvS r v (cvB b i k s)
  | (none, i, k) :: r, v, s => match ptrOf v with
    | some b => cvS r v (cvB b i k s)
    | none => cvS r v s
def boxEvV (cv : List (Option Nat × Nat × CK)) (md : Bool) (P : Program) (cl : CallF) (ls : LoopF) (n : Nat) (f : FuncId) (B : FBox) (env : List Dat) : Tree (Nat × List Dat) :=
  (evBodyF md P cl ls n f (instL B.args env) ⟨instBs B.blks env, []⟩).bind fun x => finish B.blks.length B.log B.outs x.1 (cvS cv x.1 x.2)
def boxCV (cv : List (Option Nat × Nat × CK)) (md : Bool) (P : Program) (cs : FuncId → Option CSpec) (f : Nat) (ls : LoopF) (B : FBox) (env : List Dat) : Tree (Nat × List Dat) := boxEvV cv md P (clMd md P cs) ls 4000 f B env
section
variable {P : Program} {r : RM} {σ : Snap} {w : World}
theorem cvS_ok {K : Nat} : ∀ (cv : List (Option Nat × Nat × CK)) (v : SV) {r : RM} {σ : Snap} {s : SW}, Rel r σ s w → K ≤ s.len →
    ∃ r2 σ2, r.le r2 ∧ σ.le σ2 ∧ Rel r2 σ2 (cvS cv v s) w ∧ FrameK K (cvS cv v s).log r r2 σ σ2 w w ∧ K ≤ (cvS cv v s).len ∧ ∀ x, x ∈ s.log → x ∈ (cvS cv v s).log
  | [], v, r, σ, s, hr, hK => ⟨r, σ, RM.le_refl _, Snap.le_refl _, hr, FrameK.refl .., hK, fun _ h => h⟩
  | (some b, i, k) :: cv, v, r, σ, s, hr, hK => by
    obtain ⟨r1, σ1, a1, a2, a3, a4, a5, a6⟩ := cvB_ok b i k hr hK
    obtain ⟨r2, σ2, b1, b2, b3, b4, b5, b6⟩ := cvS_ok cv v a3 a5
    exact ⟨r2, σ2, RM.le_trans a1 b1, Snap.le_trans a2 b2, b3, a4.trans b4 fun x hx _ => b6 x hx, b5, fun x hx => b6 x (a6 x hx)⟩
  | (none, i, k) :: cv, v, r, σ, s, hr, hK => by
    unfold cvS
    cases ptrOf v with
    | none => exact cvS_ok cv v hr hK
    | some b =>
      obtain ⟨r1, σ1, a1, a2, a3, a4, a5, a6⟩ := cvB_ok b i k hr hK
      obtain ⟨r2, σ2, b1, b2, b3, b4, b5, b6⟩ := cvS_ok cv v a3 a5
      exact ⟨r2, σ2, RM.le_trans a1 b1, Snap.le_trans a2 b2, b3, a4.trans b4 fun x hx _ => b6 x hx, b5, fun x hx => b6 x (a6 x hx)⟩
theorem boxRunV_ok {cl : CallF} (hcl : ClOk P cl) (hm : P.follows .mixedOrders = true) {ls : LoopF} {n : Nat} {f : FuncId} {B : FBox} {cv : List (Option Nat × Nat × CK)} {md : Bool} (hls : LsOk P B.blks.length ls (bodyOf P f))
    (hB : ∀ env x, (B.fn env).sel = some x → (boxEvV cv md P cl ls n f B env).sel = some x) : RunOk P f (boxRun B) := by
  intro args s v s1 h hlog r σ w args' hr ha
  unfold boxRun at h
  split at h
  · rename_i env henv
    obtain ⟨⟨k, e⟩, h1, h2⟩ := Tree.bind_some h
    split at h2
    · rename_i o ho
      cases h2
      obtain ⟨f1, f2, f3⟩ := fitS_ok henv hr ha []
      have hE := hB env _ h1
      unfold boxEvV at hE
      obtain ⟨⟨v1, s2⟩, h3, h4⟩ := Tree.bind_some hE
      rw [evBodyF_eq] at h3
      have hlen : (⟨instBs B.blks env, []⟩ : SW).len = B.blks.length := by simp [SW.len, instBs]
      refine (evBody_ok hcl hm hls h3 (by rw [hlen]; exact Nat.le_refl _) f1 f2).mono ?_
      rintro e' w' ⟨v', rfl, r', σ', a1, a2, a3, a4, a5⟩
      obtain ⟨g1, g2⟩ := Tree.guard_some h4
      obtain ⟨o', q1, q2, q3⟩ := tryOuts_ok g2
      rw [Nat.sub_zero, ho] at q2
      cases q2
      obtain ⟨r1, σ1, n0, n1, n2, n3, n4, n5⟩ := cvS_ok (K := B.blks.length) cv v1 a1 a5
      obtain ⟨r2, b1, b2, b3, b4⟩ := reFit_ok q3 n4 n2 (LRel.one (a3.mono n0 n1))
      have lg := logOk_iff g1
      refine ⟨v', rfl, r2, σ1, b1 B.log, ?_, ?_, (fun x hx _ => by rw [hlog] at hx; cases hx), ?_⟩
      · rw [← f3]; exact ((a2.trans n3 fun b hb _ => n5 b hb).trans b3 fun _ h _ => h).more fun b hb hk => lg b hb hk
      · exact b2.at_ 0 (instV o.1 e) v' rfl rfl
      · rw [← f3]; show _ ≤ (instBs o.2 e).length; rw [instBs, List.length_map]; exact b4
    · simp [Tree.sel] at h2
  · simp [Tree.sel] at h
theorem mkFV_ok {cs : FuncId → Option CSpec} (hcs : CsOk P cs) (hm : P.follows .mixedOrders = true) (md : Bool) {ls : LoopF} {f : FuncId} {args : List PV} {blks : List PB} {log : List Nat} {outs : List (PV × List PB)} {op : List Dat → Option (Nat × List Dat)} {cv : List (Option Nat × Nat × CK)}
    (hls : LsOk P blks.length ls (bodyOf P f)) (h : ∀ env x, op env = some x → (boxCV cv md P cs f ls (mkF args blks log outs fun _ => none) env).sel = some x) : RunOk P f (boxRun (mkF args blks log outs op)) :=
  boxRunV_ok (cv := cv) (md := md) (clMd_ok hcs hm md) hm hls fun env x hx => h env x (outT_some hx)
end
end Go.Proofs.Ytdaabhpeedekaaa.Vx
