import Derived.Test.YtbieijbppmohkaaVxClone
import Derived.Test.YtbieijbppmohkaaVxIm
import Derived.Test.YtbieijbppmohkaaVxLk
import Derived.Test.YtbieijbppmohkaaVxLaw
import Derived.Test.YtbieijbppmohkaaW07
import Derived.KernelRfl
namespace Go.Proofs.Ytbieijbppmohkaa.Vx
open Go Go.RowKit
set_option linter.unusedVariables false

/-! ### Boxes whose contract was proved by a walk -/
theorem gl_self (t : Ty) (x : List t.den) : gl t [.l t x] 0 = x := by simp [gl, castL_self]
section
variable {P : Program}
theorem bl_keep {w w' : World} (h : Below w.heap.size w w') : ∀ j, j < w.heap.size → w'.heap[j]? = w.heap[j]? := fun j hj => h.block j hj
theorem bl_frame {r : RM} {σ : Snap} {w w' : World} (h : Below w.heap.size w w') (n : Nat) (log : List Nat) : Frame n log r r σ σ w w' :=
  ⟨h.os, h.tape, h.output, h.size, fun _ _ h => .inl h, fun j hj _ => h.block j hj, fun _ _ _ => ⟨rfl, fun _ => rfl, rfl⟩, .refl⟩
theorem numBox_ok {f : FuncId} {args : List PV} {k : IntKind} {op : List Dat → Option (Nat × List Dat)}
    (h : ∀ env j d, op env = some (j, d) → j = 0 ∧ ∃ y : Int, d = [.n y] ∧ ∀ (r : RM) (σ : Snap) (w : World) (args' : Array Value), Rel r σ ⟨[], []⟩ w → LRel r σ (instL args env) args' → Calls P f args' w fun e w' => e = .returned (.int k y) ∧ Below w.heap.size w w') :
    RunOk P f (boxRun (mkF args [] [] [(.int k 0, [])] op)) := by
  intro args0 s v s1 hrun hlog r σ w args' hr ha
  unfold boxRun at hrun
  split at hrun
  · rename_i env henv
    obtain ⟨⟨j, e0⟩, h1, h2⟩ := Tree.bind_some hrun
    have h1' := outT_some h1
    obtain ⟨f1, f2, f3⟩ := fitS_ok henv hr ha []
    obtain ⟨rfl, y, rfl, hc⟩ := h env j e0 h1'
    have hlen0 : s.len = 0 := f3.symm
    have h2' : SV.int k y = v ∧ (⟨[], []⟩ : SW) = s1 := by
      have : (match ((mkF args [] [] [(.int k 0, [])] op).outs)[0]? with | some o => Tree.leaf (instV o.1 [Dat.n y], (⟨instBs o.2 [Dat.n y], (mkF args [] [] [(.int k 0, [])] op).log⟩ : SW)) | none => .bad 321).sel = some (v, s1) := h2
      simp only [mkF, List.getElem?_cons_zero, Tree.sel, Option.some.injEq, Prod.mk.injEq] at this
      exact this
    obtain ⟨rfl, rfl⟩ := h2'
    have f1' : Rel r σ ⟨[], []⟩ w := f1
    refine (hc r σ w args' f1' f2).mono ?_
    rintro e w' ⟨rfl, hB⟩
    refine ⟨_, rfl, r, σ, f1'.later hB.size (bl_keep hB), ?_, .int _ _, fun x hx h => by omega, by show s.len ≤ 0; omega⟩
    rw [hlen0]
    exact (bl_frame hB 0 []).toK (RM.le_refl _) (Snap.le_refl _) (Nat.le_refl _)
  · simp [Tree.sel] at hrun
theorem Rel.newArrAt {r : RM} {σ : Snap} {s : SW} {w : World} (h : Rel r σ s w) {t : Ty} {l : List t.den} {c : Array Value} {T : TypeId} {f : Nat × Nat} {cap g : Nat} (hf : thawed c f) (hcap : l.length ≤ cap) (hc : cap * t.width ≤ c.size)
    (hr : ∀ i (hi : i < l.length), RD σ t (fun k => c[k]?) (i * t.width) l[i]) {w' : World} (hB : Below w.heap.size w w') (hg : w.heap.size ≤ g) (hw : w'.heap[g]? = some (.cells c T f)) :
    Rel (r.setArr s.len 0 ⟨some (g, 0), l.length, cap, t.width⟩) σ (s.push (.arr t 0 l)) w' ∧ r.le (r.setArr s.len 0 ⟨some (g, 0), l.length, cap, t.width⟩) ∧
    Frame s.len s.log r (r.setArr s.len 0 ⟨some (g, 0), l.length, cap, t.width⟩) σ σ w w' := by
  have hle : r.le (r.setArr s.len 0 ⟨some (g, 0), l.length, cap, t.width⟩) := setArr_le (h.arr_len 0) _
  have hgw : g < w'.heap.size := (Array.getElem?_eq_some_iff.1 hw).1
  have hat : ∀ b j, (r.setArr s.len 0 ⟨some (g, 0), l.length, cap, t.width⟩).at b j → r.at b j ∨ j = g := fun b j k => by
    rcases setArr_at k with q | ⟨_, o, q⟩
    · exact .inl q
    · cases q; exact .inr rfl
  refine ⟨h.change (b := s.len) (x := .arr t 0 l) ?_ (SW.blk_push _ _) (fun b' e => SW.blk_push_ne _ _ e) (by rw [SW.len_push]; omega), hle, ?_⟩
  · refine ⟨hle, Snap.le_refl _, fun _ _ _ k => k, fun b' g' p e k => ?_, fun _ _ _ k => k, hB.size, fun j hj _ => hB.block j hj, fun j hj => ?_, ?_, fun j hj => (hat _ _ hj).imp id (by rintro rfl; exact hg), fun j c' hj => .inl hj, ?_, ?_, ?_, ?_⟩
    · simpa [RM.setArr, e] using k
    · rcases hat _ _ hj with q | rfl
      · exact Nat.lt_of_lt_of_le (h.inb _ _ q) hB.size
      · exact hgw
    · rintro j ⟨x, o, hx, hj⟩
      simp only [RM.setArr, and_self, if_true] at hx
      cases hx; cases hj; exact .inr hg
    · intro es' j n e; cases e
    · intro t' g' l' p e hp
      cases e
      simp only [RM.setArr, and_self, if_true] at hp
      cases hp
      refine ⟨rfl, rfl, hcap, (fun e => by cases e), fun j o e => ?_⟩
      cases e
      exact ⟨c, T, f, hw, hf, by simpa using hc, fun i hi => by simpa using hr i hi⟩
    · intro t g l p e; cases e
    · intro t' g' l' g'' e hg
      cases e
      simp only [RM.setArr]
      rw [if_neg (by omega)]
      exact h.arr_len _
  · refine ⟨hB.os, hB.tape, hB.output, hB.size, fun b j k => ?_, fun j hj _ => hB.block j hj, fun b hb _ => setArr_same (by omega), .refl⟩
    rcases hat b j k with q | rfl
    · exact .inl q
    · exact .inr hg
theorem rowBox_ok {f : FuncId} {args : List PV} {k : IntKind} {e : TypeId} {op : List Dat → Option (Nat × List Dat)}
    (h : ∀ env j d, op env = some (j, d) → j = 0 ∧ ∃ l : List Int, d = [.l (.int k) l] ∧ ∀ (r : RM) (σ : Snap) (w : World) (args' : Array Value), Rel r σ ⟨[], []⟩ w → LRel r σ (instL args env) args' →
      Calls P f args' w fun e' w' => ∃ v, e' = .returned v ∧ w'.ownsRow w.heap.size e 1 v l.length (l.map (Value.int k)) ∧ Below w.heap.size w w') :
    RunOk P f (boxRun (mkF args [] [] [(.own 0, [.arr (.int k) 0])] op)) := by
  intro args0 s v s1 hrun hlog r σ w args' hr ha
  unfold boxRun at hrun
  split at hrun
  · rename_i env henv
    obtain ⟨⟨j, e0⟩, h1, h2⟩ := Tree.bind_some hrun
    have h1' := outT_some h1
    obtain ⟨f1, f2, f3⟩ := fitS_ok henv hr ha []
    obtain ⟨rfl, l, rfl, hc⟩ := h env j e0 h1'
    have hlen0 : s.len = 0 := f3.symm
    have h2' : instV (.own 0) [.l (.int k) l] = v ∧ (⟨instBs [.arr (.int k) 0] [.l (.int k) l], []⟩ : SW) = s1 := by
      have : (match ((mkF args [] [] [(.own 0, [.arr (.int k) 0])] op).outs)[0]? with | some o => Tree.leaf (instV o.1 [Dat.l (.int k) l], (⟨instBs o.2 [Dat.l (.int k) l], (mkF args [] [] [(.own 0, [.arr (.int k) 0])] op).log⟩ : SW)) | none => .bad 321).sel = some (v, s1) := h2
      simp only [mkF, List.getElem?_cons_zero, Tree.sel, Option.some.injEq, Prod.mk.injEq] at this
      exact this
    obtain ⟨rfl, rfl⟩ := h2'
    have hgl : gl (.int k) [.l (.int k) l] 0 = l := gl_self (.int k) l
    have hinst : (⟨instBs [.arr (.int k) 0] [.l (.int k) l], []⟩ : SW) = ⟨[.arr (.int k) 0 l], []⟩ := by show (⟨[Blk.arr (.int k) 0 (gl (.int k) [.l (.int k) l] 0)], []⟩ : SW) = _; rw [hgl]
    rw [hinst]
    have f1' : Rel r σ ⟨[], []⟩ w := f1
    refine (hc r σ w args' f1' f2).mono ?_
    rintro e' w' ⟨v, rfl, ⟨hlen, hv⟩, hB⟩
    refine ⟨v, rfl, ?_⟩
    rw [hlen0]
    show AfterK 0 r σ s w (.own 0 0) _ v w'
    have hpush : (⟨[.arr (.int k) 0 l], []⟩ : SW) = (⟨[], []⟩ : SW).push (.arr (.int k) 0 l) := rfl
    rcases hv with ⟨rfl, hn⟩ | ⟨g, cap, cur, rfl, hg, hgb, hcap, hmax, hsz, htk⟩
    · have : l = [] := List.length_eq_zero_iff.1 hn
      subst this
      obtain ⟨m1, m2, m3⟩ := (f1'.later hB.size (bl_keep hB)).newNil (.int k)
      refine ⟨_, σ, m1, ?_, .own 0 0 (nowhere (Ty.width (.int k))) (by simp [RM.setArr, SW.len]), fun x hx h => by omega, Nat.zero_le _⟩
      exact ((bl_frame hB 0 []).toK (RM.le_refl _) (Snap.le_refl _) (Nat.le_refl _)).trans (m3.toK m2 (Snap.le_refl _) (Nat.zero_le _)) fun _ h _ => h
    · have hrow : ∀ i (hi : i < l.length), RD σ (.int k) (fun q => cur[q]?) (i * (Ty.width (.int k))) (l[i] : Int) := by
        intro i hi
        show cur[i * 1]? = some (.int k l[i])
        have : (cur.toList.take (l.length * 1))[i]? = some (.int k l[i]) := by rw [htk]; simp [hi]
        rw [List.getElem?_take, if_pos (by omega)] at this
        simpa using this
      obtain ⟨m1, m2, m3⟩ := Rel.newArrAt f1' (t := .int k) (l := l) (T := e) (f := (0, 0)) (cap := cap) (g := g) (.inl rfl) hcap (by show cap * 1 ≤ _; omega) hrow hB hg hgb
      refine ⟨_, σ, m1, m3.toK m2 (Snap.le_refl _) (Nat.zero_le _), ?_, fun x hx h => by omega, Nat.zero_le _⟩
      exact .own 0 0 ⟨some (g, 0), l.length, cap, 1⟩ (by simp [RM.setArr, SW.len, Ty.width]; rfl)
  · simp [Tree.sel] at hrun
end
end Go.Proofs.Ytbieijbppmohkaa.Vx
namespace Go.Proofs.Ytbieijbppmohkaa.Vx
open Go Go.RowKit
set_option linter.unusedVariables false
abbrev TI : Ty := .int .i64
abbrev TU : Ty := .int .u64
def bitsI (x : Int) : List Int := (Bt.bitsTo x 64).map fun (k : Nat) => (k : Int)
def opp_19 : List Dat → Option (Nat × List Dat)
  | [.n x] => some (0, [.l TI (bitsI x)])
  | _ => none
def opp_24 : List Dat → Option (Nat × List Dat)
  | [.n x] => some (0, [.n ((Bt.bitsTo x 64).headD 64 : Nat)])
  | _ => none
def opp_28 : List Dat → Option (Nat × List Dat)
  | [.l t l, .n x] => match castL t TU l with
    | some l => some (0, [.n (Bt.anyI l x)])
    | none => none
  | _ => none
theorem arg1 {r : RM} {σ : Snap} {k : IntKind} {x : Int} {a : Array Value} (h : LRel r σ [.int k x] a) : a = #[.int k x] := by
  have hs := h.size
  obtain ⟨v, h1, h2⟩ := h.get (i := 0) (v := .int k x) rfl
  cases h2
  apply Array.ext_getElem?
  intro i
  cases i with
  | zero => rw [h1]; rfl
  | succ i => rw [Array.getElem?_eq_none (by simp at hs; omega)]; simp
theorem arg2 {r : RM} {σ : Snap} {k : IntKind} {x : Int} {p : SV} {a : Array Value} (h : LRel r σ [p, .int k x] a) : ∃ v, a = #[v, .int k x] ∧ VRel r σ p v := by
  have hs := h.size
  obtain ⟨v, h1, h2⟩ := h.get (i := 0) (v := p) rfl
  obtain ⟨v2, h3, h4⟩ := h.get (i := 1) (v := .int k x) rfl
  cases h4
  refine ⟨v, ?_, h2⟩
  apply Array.ext_getElem?
  intro i
  match i with
  | 0 => rw [h1]; rfl
  | 1 => rw [h3]; rfl
  | i + 2 => rw [Array.getElem?_eq_none (by simp at hs; omega)]; simp
theorem rowAt_imm {r : RM} {σ : Snap} {s : SW} {w : World} (hr : Rel r σ s w) {l : List Int} {v : Value} (h : VRel r σ (.imm TU l) v) : Bt.RowAt w v l := by
  cases h with
  | imm _ _ _ himm =>
    have himm' : ∃ (a : Option Addr) (len cap : Nat), some v = some (.slice a len cap) ∧ len = l.length ∧ len ≤ cap ∧ ∀ i (h : i < l.length), ∃ (p : Addr) (c : Array Value), a = some p ∧ p.spot = none ∧ σ p.block = some c ∧ c[p.off + i * 1]? = some (.int .u64 l[i]) := himm
    obtain ⟨a, len, cap, k1, k2, k3, k4⟩ := himm'
    simp only [Option.some.injEq] at k1
    subst k1 k2
    refine ⟨a, cap, rfl, fun i hi => ?_⟩
    obtain ⟨p, c, e1, e2, e3, e4⟩ := k4 i hi
    obtain ⟨T, f, e5⟩ := hr.snap _ _ e3
    obtain ⟨b, o, sp⟩ := p
    simp only at e2
    subst e2
    refine ⟨b, o, e1, (Array.getElem?_eq_some_iff.1 e5).1, ?_⟩
    have e6 : c[o + i * 1]? = some (.int .u64 l[i]) := e4
    rw [Nat.mul_one] at e6
    have e7 : l.getD i 0 = l[i] := by simp [List.getD_eq_getElem?_getD, hi]
    rw [e7]
    simp only [World.cell?]
    rw [e5]
    exact e6
theorem RunOk.ext {f : FuncId} {args : List PV} {outs : List (PV × List PB)} {op op' : List Dat → Option (Nat × List Dat)} (h : ∀ env, op' env = op env) (k : RunOk Try.prog f (boxRun (mkF args [] [] outs op))) : RunOk Try.prog f (boxRun (mkF args [] [] outs op')) := by
  have : op' = op := funext h
  rw [this]; exact k
theorem b19 : RunOk Try.prog 19 (boxRun (mkF [.int .u64 0] [] [] [(.own 0, [.arr (.int .i64) 0])] opp_19)) := by
  refine rowBox_ok (e := 3) fun env j d he => ?_
  match env, he with
  | [.n x], he =>
    cases he
    refine ⟨rfl, bitsI x, rfl, fun r σ w args' hr ha => ?_⟩
    have := arg1 (x := x) ha
    subst this
    refine (callsIn_wide.1 (Bt.List_in Fence.wide 4 trivial trivial trivial trivial trivial rfl (by omega) x w)).mono ?_
    rintro e W' ⟨v, rfl, h1, h2⟩
    refine ⟨v, rfl, ?_, h2⟩
    have e1 : (bitsI x).length = (Bt.bitsTo x 64).length := by simp [bitsI]
    have e2 : (bitsI x).map (Value.int .i64) = (Bt.bitsTo x 64).map Bt.enc := by simp [bitsI, List.map_map]; intro a _; rfl
    rw [e1, e2]; exact h1
theorem b24 : RunOk Try.prog 24 (boxRun (mkF [.int .u64 0] [] [] [(.int .i64 0, [])] opp_24)) := by
  refine numBox_ok fun env j d he => ?_
  match env, he with
  | [.n x], he =>
    cases he
    refine ⟨rfl, _, rfl, fun r σ w args' hr ha => ?_⟩
    have := arg1 (x := x) ha
    subst this
    exact callsIn_wide.1 (Bt.Lowest_in Fence.wide 4 trivial trivial trivial trivial trivial rfl (by omega) x w)
theorem b28 : RunOk Try.prog 28 (boxRun (mkF [.imm TU 0, .int .u64 1] [] [] [(.int .u64 0, [])] opp_28)) := by
  refine numBox_ok fun env j d he => ?_
  match env, he with
  | [.l t l0, .n x], he =>
    have he' : (match castL t TU l0 with | some l => some (0, [Dat.n (Bt.anyI l x)]) | none => none) = some (j, d) := he
    split at he'
    · rename_i l hl
      obtain ⟨e1, rfl⟩ := castL_some hl
      subst e1
      cases he'
      refine ⟨rfl, _, rfl, fun r σ w args' hr ha => ?_⟩
      have hgl : instL [.imm TU 0, .int .u64 1] [Dat.l TU l0, .n x] = [.imm TU l0, .int .u64 x] := by
        show [SV.imm TU (gl TU [Dat.l TU l0, .n x] 0), _] = _
        have : gl TU [Dat.l TU l0, .n x] 0 = l0 := by simp [gl, castL_self]
        rw [this]; rfl
      rw [hgl] at ha
      obtain ⟨v, rfl, hv⟩ := arg2 ha
      exact callsIn_wide.1 (Bt.Any_in Fence.wide 4 trivial trivial trivial trivial trivial rfl (by omega) v l0 x w (rowAt_imm hr hv))
    · cases he'
def BP19 : FBox := mkF [.int .u64 0] [] [] [(.own 0, [.arr (.int .i64) 0])] opp_19
def BP24 : FBox := mkF [.int .u64 0] [] [] [(.int .i64 0, [])] opp_24
def BP28 : FBox := mkF [.imm TU 0, .int .u64 1] [] [] [(.int .u64 0, [])] opp_28
theorem hmix : Try.prog.follows .mixedOrders = true := by kernel_rfl
noncomputable def cs_P : FuncId → Option CSpec := csLend 28 BP28 (csLend 24 BP24 (csLend 19 BP19 csNone))
theorem cs_P_ok : CsOk Try.prog cs_P := csLend_ok (csLend_ok (csLend_ok (csNone_ok _) b19) b24) b28
end Go.Proofs.Ytbieijbppmohkaa.Vx
