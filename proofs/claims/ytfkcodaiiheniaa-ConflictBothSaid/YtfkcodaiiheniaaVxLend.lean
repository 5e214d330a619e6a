import Derived.Test.YtfkcodaiiheniaaVxMany
noncomputable section
namespace Go.Proofs.Ytfkcodaiiheniaa.Vx
open Go Go.RowKit
set_option linter.unusedVariables false
instance (k : IntKind) : HAppend (List (Ty.den (.int k))) (List Int) (List (Ty.den (.int k))) := ⟨fun a b => List.append a b⟩
instance : HAppend (List (Ty.den .bool)) (List Bool) (List (Ty.den .bool)) := ⟨fun a b => List.append a b⟩
instance : HAppend (List (Ty.den .str)) (List ByteArray) (List (Ty.den .str)) := ⟨fun a b => List.append a b⟩
mutual
def lendV : PV → SV → SW → Option SV
 | .imm t _, v, s => match readAs t v s with
  | some l => some (.imm t l)
  | none => none
 | .agg ps, .agg es, s => match lendL ps es s with
  | some r => some (.agg r)
  | none => none
 | .bool _, .bool b, _ => some (.bool b)
 | .int _ _, .int k n, _ => some (.int k n)
 | .str _, .str x, _ => some (.str x)
 | .arrd _ _ _, .arrd t n l, _ => some (.arrd t n l)
 | .nilsl, .nilsl, _ => some .nilsl
 | .nilptr, .nilptr, _ => some .nilptr
 | .nilif, .nilif, _ => some .nilif
 | .fn f [] [], .fn f' [] [], _ => some (.fn f' [] [])
 | _, _, _ => none
def lendL : List PV → List SV → SW → Option (List SV)
 | [], [], _ => some []
 | p :: ps, v :: vs, s => match lendV p v s, lendL ps vs s with
  | some x, some r => some (x :: r)
  | _, _ => none
 | _, _, _ => none
end
def flatT : Ty → Bool
 | .bool => true
 | .int _ => true
 | .str => true
 | .sl _ => false
 | .arr _ t => flatT t
 | .pair a b => flatT a && flatT b
 | .unit => true
theorem RD_flat {σ σ' : Snap} : ∀ {t : Ty}, flatT t = true → ∀ {get : Nat → Option Value} {o : Nat} {d : t.den}, RD σ t get o d → RD σ' t get o d
 | .bool, _, _, _, _, h => h
 | .int _, _, _, _, _, h => h
 | .str, _, _, _, _, h => h
 | .sl _, e, _, _, _, _ => by cases e
 | .arr n t, e, _, _, _, h => by
  unfold RD at *
  exact ⟨h.1, fun i hi => RD_flat (t := t) e (h.2 i hi)⟩
 | .pair a b, e, _, _, _, h => by
  have e : (flatT a && flatT b) = true := e
  rw [Bool.and_eq_true] at e
  unfold RD at *
  exact ⟨RD_flat e.1 h.1, RD_flat e.2 h.2⟩
 | .unit, _, _, _, _, h => h
def isOwn (b g : Nat) : Option (Nat × Nat) → Bool
 | some (b', g') => Nat.beq b b' && Nat.beq g g'
 | none => false
mutual

def plainV (ow : Option (Nat × Nat)) : SV → Bool
 | .undef => true
 | .bool _ => true
 | .int _ _ => true
 | .str _ => true
 | .nilsl => true
 | .nilptr => true
 | .nilif => true
 | .own b g => isOwn b g ow
 | .arrd t _ _ => flatT t
 | .agg es => plainL ow es
 | .tup es => plainL ow es
 | _ => false
def plainL (ow : Option (Nat × Nat)) : List SV → Bool
 | [] => true
 | v :: l => plainV ow v && plainL ow l
end
mutual
def subV (n : Nat) : SV → SV
 | .own _ _ => .own n 0
 | .agg es => .agg (subL n es)
 | .tup es => .tup (subL n es)
 | v => v
def subL (n : Nat) : List SV → List SV
 | [] => []
 | v :: l => subV n v :: subL n l
end
mutual
def ownIn : SV → Option (Nat × Nat)
 | .own b g => some (b, g)
 | .agg es => ownInL es
 | .tup es => ownInL es
 | _ => none
def ownInL : List SV → Option (Nat × Nat)
 | [] => none
 | v :: l => match ownIn v with
  | some x => some x
  | none => ownInL l
end
def lendOut (v : SV) (s1 s : SW) : Tree (SV × SW) := match ownIn v with
 | none => .guard (plainV none v) 350 (.leaf (subV 0 v, s))
 | some (b, g) => match s1.blk b with
  | some (.arr t g' l) => .guard (Nat.beq g g' && (flatT t && plainV (some (b, g)) v)) 351 (.leaf (subV s.len v, s.push (.arr t 0 l)))
  | _ => .bad 352
def lendRun (B : FBox) : CSpec := fun args s => match lendL B.args args s with
 | some args0 => (boxRun B args0 ⟨[], []⟩).bind fun x => lendOut x.1 x.2 s
 | none => .bad 353
section
variable {P : Program}
theorem snap_le {r : RM} {σ : Snap} {s : SW} {w : World} (hr : Rel r σ s w) : σ.le (snapOf w) := by
 intro j c h
 obtain ⟨T, f, e⟩ := hr.snap j c h
 unfold snapOf
 rw [e]
mutual
theorem lendV_ok {r : RM} {σ : Snap} {s : SW} {w : World} (hr : Rel r σ s w) : ∀ {p : PV} {v : SV} {v' : Value} {u : SV}, VRel r σ v v' → lendV p v s = some u → VRel R0 (snapOf w) u v' ∧ u.w = v.w ∧ u.isArr = v.isArr
 | .imm t h, v, v', u, hv, hl => by
  have hl : (match readAs t v s with | some l => some (SV.imm t l) | none => none) = some u := hl
  split at hl
  ·rename_i l hc
   cases hl
   have hv1 : v.w = 1 ∧ v.isArr = false := by cases v <;> first | exact ⟨rfl, rfl⟩ | (simp [readAs, contAs, contOf] at hc)
   obtain ⟨a, cap, rfl, h1, h2⟩ := readAs_ok hr hv hc
   refine ⟨.imm t l _ ?_, hv1.1.symm, hv1.2.symm⟩
   rw [RD_sl]
   refine ⟨a, l.length, cap, rfl, rfl, h1, fun i hi => ?_⟩
   obtain ⟨j, o, c, T, f, e1, e2, e3⟩ := h2 i hi
   refine ⟨⟨j, o, none⟩, c, e1, rfl, ?_, e3.mono' (snap_le hr)⟩
   unfold snapOf
   simp only [e2]
  ·cases hl
 | .agg ps, v, v', u, hv, hl => by
  cases v with
  | agg es =>
   have hl : (match lendL ps es s with | some r => some (SV.agg r) | none => none) = some u := hl
   split at hl
   ·rename_i us hus
    cases hl
    cases hv with
    | agg _ c hw hs ha =>
     have hE : ERel r σ es (fun k => c[k]?) 0 := by
      refine ⟨fun k e he hn => ?_, fun k t n l he => by rw [Nat.zero_add]; exact ha k t n l he⟩
      have hk := offs_lt he
      rw [w_one hn, hw] at hk
      refine ⟨c[k], by rw [Nat.zero_add, Array.getElem?_eq_getElem (by omega)], hs k e he hn _ (Array.getElem?_eq_getElem (by omega))⟩
     obtain ⟨h1, h2⟩ := lendL_ok hr hE hus
     refine ⟨.agg us c (by rw [h2, hw]) (fun k e he hn v hv => ?_) (fun k t n l he => ?_), rfl, rfl⟩
     ·obtain ⟨v1, q1, q2⟩ := h1.one k e he hn
      rw [Nat.zero_add, hv] at q1
      cases q1; exact q2
     ·have := h1.arr k t n l he
      rwa [Nat.zero_add] at this
   ·cases hl
  | _ => cases hl
 | .bool _, v, v', u, hv, hl => by
  cases v with
  | bool b => cases hl; cases hv; exact ⟨.bool _, rfl, rfl⟩
  | _ => cases hl
 | .int _ _, v, v', u, hv, hl => by
  cases v with
  | int k n => cases hl; cases hv; exact ⟨.int _ _, rfl, rfl⟩
  | _ => cases hl
 | .str _, v, v', u, hv, hl => by
  cases v with
  | str x => cases hl; cases hv; exact ⟨.str _, rfl, rfl⟩
  | _ => cases hl
 | .arrd _ _ _, v, v', u, hv, hl => by
  cases v with
  | arrd t n l => cases hv
  | _ => cases hl
 | .nilsl, v, v', u, hv, hl => by
  cases v with
  | nilsl => cases hl; cases hv; exact ⟨.nilsl, rfl, rfl⟩
  | _ => cases hl
 | .nilptr, v, v', u, hv, hl => by
  cases v with
  | nilptr => cases hl; cases hv; exact ⟨.nilptr, rfl, rfl⟩
  | _ => cases hl
 | .nilif, v, v', u, hv, hl => by
  cases v with
  | nilif => cases hl; cases hv; exact ⟨.nilif, rfl, rfl⟩
  | _ => cases hl
 | .fn f [] [], v, v', u, hv, hl => by
  cases v with
  | fn f' fs cs =>
   cases fs with
   | nil => cases cs with
    | nil =>
     cases hl
     cases hv with
     | fn _ _ _ fs' cs' h1 h2 h3 h4 =>
      exact ⟨.fn _ _ _ fs' cs' h1 (fun i v v' a => by cases i <;> cases a) h3 (fun i v v' a => by cases i <;> cases a), rfl, rfl⟩
    | cons _ _ => cases hl
   | cons _ _ => cases hl
  | _ => cases hl
 | .fn f (_ :: _) _, v, v', u, hv, hl => by cases v <;> cases hl
 | .fn f [] (_ :: _), v, v', u, hv, hl => by cases v <;> cases hl
 | .dead, v, v', u, hv, hl => by cases v <;> cases hl
 | .own _, v, v', u, hv, hl => by cases v <;> cases hl
 | .ptr _ _, v, v', u, hv, hl => by cases v <;> cases hl
 | .mapv _, v, v', u, hv, hl => by cases v <;> cases hl
 | .itr _, v, v', u, hv, hl => by cases v <;> cases hl
 | .nilmap, v, v', u, hv, hl => by cases v <;> cases hl
 | .nilfn, v, v', u, hv, hl => by cases v <;> cases hl
 | .iface _ _, v, v', u, hv, hl => by cases v <;> cases hl
 | .tup _, v, v', u, hv, hl => by cases v <;> cases hl
theorem lendL_ok {r : RM} {σ : Snap} {s : SW} {w : World} (hr : Rel r σ s w) : ∀ {ps : List PV} {es us : List SV} {get : Nat → Option Value} {o : Nat}, ERel r σ es get o → lendL ps es s = some us → ERel R0 (snapOf w) us get o ∧ esW us = esW es
 | [], [], us, get, o, h, hl => by cases hl; exact ⟨.nil, rfl⟩
 | [], _ :: _, us, get, o, h, hl => by cases hl
 | _ :: _, [], us, get, o, h, hl => by cases hl
 | p :: ps, e :: es, us, get, o, h, hl => by
  have hl : (match lendV p e s, lendL ps es s with | some x, some r => some (x :: r) | _, _ => none) = some us := hl
  split at hl
  ·rename_i x rest hx hrest
   cases hl
   have h0 : ERel r σ ([e] ++ es) get o := h
   have hhd := h0.left
   have htl := h0.right
   have hw1 : esW [e] = e.w := by simp [esW]
   rw [hw1] at htl
   obtain ⟨k1, k2⟩ := lendL_ok hr htl hrest
   cases ha : e.isArr with
   | false =>
    obtain ⟨v, g1, g2⟩ := hhd.head ha
    obtain ⟨j1, j2, j3⟩ := lendV_ok hr g2 hx
    refine ⟨?_, by simp only [esW, j2, k2]⟩
    show ERel R0 (snapOf w) ([x] ++ rest) get o
    refine (ERel.single (by rw [j3]; exact ha) g1 j1).append ?_
    have : esW [x] = e.w := by simp [esW, j2]
    rw [this]; exact k1
   | true =>
    cases e with
    | arrd t n l =>
     have hx' : x = .arrd t n l := by
      cases p with
      | arrd _ _ _ => cases hx; rfl
      | imm _ _ => simp [lendV, readAs, contAs, contOf] at hx
      | fn f fs cs => cases fs <;> first | cases hx | (cases cs <;> cases hx)
      | _ => cases hx
     subst hx'
     refine ⟨?_, by simp only [esW, k2]⟩
     show ERel R0 (snapOf w) ([.arrd t n l] ++ rest) get o
     refine ERel.append ⟨fun k e he hn => ?_, fun k t' n' l' he => ?_⟩ ?_
     ·simp only [offs, List.mem_singleton, Prod.mk.injEq] at he
      obtain ⟨rfl, rfl⟩ := he
      simp [SV.isArr] at hn
     ·exact (hhd.arr k t' n' l' he).mono' (snap_le hr)
     ·rw [hw1]; exact k1
    | _ => simp [SV.isArr] at ha
  ·cases hl
end
theorem lendA_ok {r : RM} {σ : Snap} {s : SW} {w : World} (hr : Rel r σ s w) : ∀ {ps : List PV} {es us : List SV} {vs : List Value}, LRel r σ es vs.toArray → lendL ps es s = some us → LRel R0 (snapOf w) us vs.toArray
 | [], [], us, vs, h, hl => by cases hl; exact ⟨h.1, fun i v v' a => by cases i <;> cases a⟩
 | [], _ :: _, us, vs, h, hl => by cases hl
 | _ :: _, [], us, vs, h, hl => by cases hl
 | p :: ps, e :: es, us, vs, h, hl => by
  have hl : (match lendV p e s, lendL ps es s with | some x, some r => some (x :: r) | _, _ => none) = some us := hl
  split at hl
  ·rename_i x rest hx hrest
   cases hl
   cases vs with
   | nil => have := h.1; simp at this
   | cons v vs =>
    refine .cons (lendV_ok hr (h.2 0 e v rfl rfl) hx).1 (lendA_ok hr ⟨by have := h.1; simpa using this, fun i a b ha hb => h.2 (i + 1) a b (by simpa using ha) (by simpa using hb)⟩ hrest)
  ·cases hl
theorem offs_sub (n : Nat) (hw : ∀ v : SV, (subV n v).w = v.w) : ∀ (es : List SV) (o k : Nat) (u : SV), (k, u) ∈ offs (subL n es) o → ∃ e, (k, e) ∈ offs es o ∧ u = subV n e
 | [], o, k, u, h => by simp [subL, offs] at h
 | e :: es, o, k, u, h => by
  simp only [subL, offs, List.mem_cons, Prod.mk.injEq] at h ⊢
  rcases h with ⟨rfl, rfl⟩ | h
  ·exact ⟨e, .inl ⟨rfl, rfl⟩, rfl⟩
  ·rw [hw] at h
   obtain ⟨e', h1, h2⟩ := offs_sub n hw es _ k u h
   exact ⟨e', .inr h1, h2⟩
theorem subV_w (n : Nat) (v : SV) : (subV n v).w = v.w := by cases v <;> rfl
theorem subV_arr (n : Nat) (v : SV) : (subV n v).isArr = v.isArr := by cases v <;> rfl
theorem subL_w (n : Nat) : ∀ es : List SV, esW (subL n es) = esW es
 | [] => rfl
 | e :: es => by simp only [subL, esW, subV_w, subL_w n es]
theorem plainL_mem {ow : Option (Nat × Nat)} : ∀ {es : List SV}, plainL ow es = true → ∀ e ∈ es, plainV ow e = true
 | [], _, e, h => by simp at h
 | x :: es, hp, e, h => by
  have hp : (plainV ow x && plainL ow es) = true := hp
  rw [Bool.and_eq_true] at hp
  rcases List.mem_cons.1 h with rfl | h
  ·exact hp.1
  ·exact plainL_mem hp.2 e h
theorem subL_get (n : Nat) : ∀ (es : List SV) (i : Nat) (u : SV), (subL n es)[i]? = some u → ∃ e, es[i]? = some e ∧ u = subV n e
 | [], i, u, h => by simp [subL] at h
 | e :: es, 0, u, h => by simp [subL] at h; exact ⟨e, rfl, h.symm⟩
 | e :: es, i + 1, u, h => by simp [subL] at h; obtain ⟨e', h1, h2⟩ := subL_get n es i u h; exact ⟨e', by simpa using h1, h2⟩
theorem subL_len (n : Nat) : ∀ es : List SV, (subL n es).length = es.length
 | [] => rfl
 | e :: es => by simp [subL, subL_len n es]
theorem subV_ok {r r' : RM} {σ σ' : Snap} {ow : Option (Nat × Nat)} {n : Nat} (ho : ∀ b g x, isOwn b g ow = true → r'.arr b g = some x → r.arr n 0 = some x) {v : SV} {v' : Value} (h : VRel r' σ' v v') : plainV ow v = true → VRel r σ (subV n v) v' := by
 induction h with
 | undef => intro _; exact .undef
 | bool b => intro _; exact .bool b
 | int k n => intro _; exact .int k n
 | str s => intro _; exact .str s
 | nilsl => intro _; exact .nilsl
 | nilptr => intro _; exact .nilptr
 | nilif => intro _; exact .nilif
 | own b g x h => intro hp; exact .own n 0 x (ho b g x hp h)
 | agg es c hw h1 ha ih =>
  intro hp
  have hp : plainL ow es = true := hp
  refine .agg _ c (by rw [subL_w, hw]) (fun k e he hn v hv => ?_) (fun k t m l he => ?_)
  ·obtain ⟨e', q1, rfl⟩ := offs_sub n (subV_w n) _ _ _ _ he
   rw [subV_arr] at hn
   exact ih k e' q1 hn v hv (plainL_mem hp _ (offs_mem q1))
  ·obtain ⟨e', q1, q2⟩ := offs_sub n (subV_w n) _ _ _ _ he
   have q3 := plainL_mem hp _ (offs_mem q1)
   cases e' with
   | arrd t' m' l' =>
    cases q2
    have := ha k _ _ _ q1
    exact RD_flat (t := .arr _ _) q3 this
   | _ => cases q2
 | tup es c h1 h2 ih =>
  intro hp
  have hp : plainL ow es = true := hp
  refine .tup _ c (by rw [subL_len, h1]) fun i v v' a b => ?_
  obtain ⟨e', q1, rfl⟩ := subL_get n _ _ _ a
  exact ih i e' v' q1 b (plainL_mem hp _ (List.mem_of_getElem? q1))
 | _ => intro hp; cases hp
theorem take_row {r r' : RM} {σ σ' : Snap} {s s1 : SW} {w w' : World} (hr : Rel r σ s w) (hr' : Rel r' σ' s1 w') (fr : FrameK 0 s1.log R0 r' (snapOf w) σ' w w') {b g : Nat} {t : Ty} {l : List t.den} (hb : s1.blk b = some (.arr t g l)) (ht : flatT t = true) {x : ALoc} (hx : r'.arr b g = some x) :
  Rel (r.setArr s.len 0 x) σ (s.push (.arr t 0 l)) w' ∧ r.le (r.setArr s.len 0 x) ∧ Frame s.len s.log r (r.setArr s.len 0 x) σ σ w w' := by
 have hle : r.le (r.setArr s.len 0 x) := setArr_le (hr.arr_len 0) _
 have keep : ∀ j, j < w.heap.size → w'.heap[j]? = w.heap[j]? := fun j hj => fr.keep j hj fun b _ hat => R0_at b j hat
 have new : ∀ j o, x.a = some (j, o) → w.heap.size ≤ j ∧ j < w'.heap.size := by
  intro j o e
  have hat : r'.at b j := .inr (.inl ⟨g, x, o, hx, e⟩)
  refine ⟨?_, hr'.inb b j hat⟩
  rcases fr.fresh b j hat with ⟨_, q⟩ | ⟨_, b', _, q⟩ | q
  ·exact (R0_at _ _ q).elim
  ·exact (R0_at _ _ q).elim
  ·exact q
 have hat : ∀ b' j, (r.setArr s.len 0 x).at b' j → r.at b' j ∨ (w.heap.size ≤ j ∧ j < w'.heap.size) := fun b' j k => by
  rcases setArr_at k with q | ⟨_, o, q⟩
  ·exact .inl q
  ·exact .inr (new j o q)
 have hrow := hr'.arr b t g l x hb hx
 refine ⟨hr.change (b := s.len) (x := .arr t 0 l) ?_ (SW.blk_push _ _) (fun b' e => SW.blk_push_ne _ _ e) (by rw [SW.len_push]; omega), hle, ?_⟩
 ·refine ⟨hle, Snap.le_refl _, fun _ _ _ k => k, fun b' g p e k => ?_, fun _ _ _ k => k, fr.size, fun j hj _ => keep j hj, fun j hj => ?_, ?_, fun j hj => (hat _ _ hj).imp id (fun q => q.1), fun j c' hj => .inl hj, ?_, ?_, ?_, ?_⟩
  ·simpa [RM.setArr, e] using k
  ·rcases hat _ _ hj with q | q
   ·have := hr.inb _ _ q; have := fr.size; omega
   ·exact q.2
  ·rintro j ⟨y, o, hy, hj⟩
   simp only [RM.setArr, and_self, if_true] at hy
   cases hy
   exact .inr (new j o hj).1
  ·intro es' j n e; cases e
  ·intro t' g' l' p e hp
   cases e
   simp only [RM.setArr, and_self, if_true] at hp
   cases hp
   refine ⟨hrow.wd, hrow.len, hrow.cap, hrow.nil, fun j o e => ?_⟩
   obtain ⟨c, T, f, h1, h2, h3, h4⟩ := hrow.row j o e
   exact ⟨c, T, f, h1, h2, h3, fun i hi => RD_flat ht (h4 i hi)⟩
  ·intro t g l p e; cases e
  ·intro t' g' l' g'' e hg
   cases e
   simp only [RM.setArr]
   rw [if_neg (by omega)]
   exact hr.arr_len _
 ·refine ⟨fr.os, fr.tape, fr.output, fr.size, fun b' j k => (hat b' j k).imp id fun q => q.1, fun j hj _ => keep j hj, fun b' hb' _ => setArr_same (by omega), .refl⟩
mutual
theorem own_in {r : RM} {σ : Snap} : ∀ {v : SV} {v' : Value} {b g : Nat}, VRel r σ v v' → ownIn v = some (b, g) → ∃ x, r.arr b g = some x
 | .own b g, v', b', g', hv, h => by cases h; cases hv with | own _ _ x h => exact ⟨x, h⟩
 | .agg es, v', b, g, hv, h => by
  cases hv with
  | agg _ c hw hs ha => exact own_inL (Q := fun k e => e.isArr = true ∨ ∃ v, VRel r σ e v) (fun k e he => by
    cases hn : e.isArr with
    | true => exact .inl rfl
    | false =>
     have hk := offs_lt he
     rw [w_one hn, hw] at hk
     exact .inr ⟨_, hs k e he hn _ (Array.getElem?_eq_getElem (by omega))⟩) (fun _ _ q => q) h
 | .tup es, v', b, g, hv, h => by
  cases hv with
  | tup _ c h1 h2 => exact own_inT (es := es) (fun i e he => by
    have hi : i < c.size := by rw [← h1]; exact (List.getElem?_eq_some_iff.1 he).1
    exact ⟨_, h2 i e _ he (Array.getElem?_eq_getElem hi)⟩) h
 | .dead, _, _, _, _, h => by cases h
 | .undef, _, _, _, _, h => by cases h
 | .bool _, _, _, _, _, h => by cases h
 | .int _ _, _, _, _, _, h => by cases h
 | .str _, _, _, _, _, h => by cases h
 | .imm _ _, _, _, _, _, h => by cases h
 | .arrd _ _ _, _, _, _, _, h => by cases h
 | .nilsl, _, _, _, _, h => by cases h
 | .part _ _ _ _, _, _, _, _, h => by cases h
 | .ptr _ _, _, _, _, _, h => by cases h
 | .eptr _ _ _ _, _, _, _, _, h => by cases h
 | .aptr _ _ _ _ _ _, _, _, _, _, h => by cases h
 | .asl _ _ _, _, _, _, _, h => by cases h
 | .iptr _ _, _, _, _, _, h => by cases h
 | .nilptr, _, _, _, _, h => by cases h
 | .mapv _, _, _, _, _, h => by cases h
 | .itr _, _, _, _, _, h => by cases h
 | .nilmap, _, _, _, _, h => by cases h
 | .fn _ _ _, _, _, _, _, h => by cases h
 | .nilfn, _, _, _, _, h => by cases h
 | .iface _ _, _, _, _, _, h => by cases h
 | .nilif, _, _, _, _, h => by cases h
theorem own_inL {r : RM} {σ : Snap} {Q : Nat → SV → Prop} : ∀ {es : List SV} {o : Nat} {b g : Nat}, (∀ k e, (k, e) ∈ offs es o → Q k e) → (∀ k e, Q k e → e.isArr = true ∨ ∃ v, VRel r σ e v) → ownInL es = some (b, g) → ∃ x, r.arr b g = some x
 | [], o, b, g, _, _, h => by cases h
 | e :: es, o, b, g, hQ, hq, h => by
  have h : (match ownIn e with | some x => some x | none => ownInL es) = some (b, g) := h
  split at h
  ·rename_i x hx
   cases h
   rcases hq o e (hQ o e List.mem_cons_self) with q | ⟨v, q⟩
   ·cases e with
    | arrd t n l => cases hx
    | _ => cases q
   ·exact own_in q hx
  ·exact own_inL (fun k e he => hQ k e (List.mem_cons_of_mem _ he)) hq h
theorem own_inT {r : RM} {σ : Snap} : ∀ {es : List SV} {b g : Nat}, (∀ (i : Nat) (e : SV), es[i]? = some e → ∃ v, VRel r σ e v) → ownInL es = some (b, g) → ∃ x, r.arr b g = some x
 | [], b, g, _, h => by cases h
 | e :: es, b, g, hQ, h => by
  have h : (match ownIn e with | some x => some x | none => ownInL es) = some (b, g) := h
  split at h
  ·rename_i x hx
   cases h
   obtain ⟨v, q⟩ := hQ 0 e rfl
   exact own_in q hx
  ·exact own_inT (fun i e he => hQ (i + 1) e (by simpa using he)) h
end
theorem lendRun_ok {f : FuncId} {B : FBox} (hB : RunOk P f (boxRun B)) : SpecOk P f (lendRun B) := by
 intro args s v s1 h r σ w args' hr ha
 unfold lendRun at h
 split at h
 ·rename_i args0 h0
  obtain ⟨⟨v0, s0⟩, h1, h2⟩ := Tree.bind_some h
  have ha0 : LRel R0 (snapOf w) args0 args' := by
   have := lendA_ok hr (vs := args'.toList) (by simpa using ha) h0
   simpa using this
  refine (hB args0 ⟨[], []⟩ v0 s0 h1 rfl R0 (snapOf w) w args' (rel0 w) ha0).mono ?_
  rintro e w' ⟨v', rfl, r', σ', a3, a4', a5, a6, a7⟩
  refine ⟨v', rfl, ?_⟩
  have keep : ∀ j, j < w.heap.size → w'.heap[j]? = w.heap[j]? := fun j hj => a4'.keep j hj fun b _ hat => R0_at b j hat
  unfold lendOut at h2
  split at h2
  ·obtain ⟨h3, h4⟩ := Tree.guard_some h2
   cases h4
   exact ⟨r, σ, RM.le_refl _, Snap.le_refl _, hr.later a4'.size keep, ⟨a4'.os, a4'.tape, a4'.output, a4'.size, fun _ _ h => .inl h, fun j hj _ => keep j hj, fun _ _ _ => ⟨rfl, fun _ => rfl, rfl⟩, .refl⟩, subV_ok (fun b g x h => by cases h) a5 h3, fun _ h => h, Nat.le_refl _⟩
  ·rename_i b g hbg
   split at h2
   ·rename_i t g' l hbl
    obtain ⟨h3, h4⟩ := Tree.guard_some h2
    cases h4
    rw [Bool.and_eq_true, Bool.and_eq_true] at h3
    obtain ⟨q1, q2, q3⟩ := h3
    have := Nat.eq_of_beq_eq_true q1
    subst this
    have hx : ∃ x, r'.arr b g = some x := by
     have := own_in a5 hbg
     exact this
    obtain ⟨x, hx⟩ := hx
    obtain ⟨k1, k2, k3⟩ := take_row hr a3 a4' hbl q2 hx
    refine ⟨_, σ, k2, Snap.le_refl _, k1, k3, subV_ok (fun b' g' y hy hy' => ?_) a5 q3, fun _ h => h, by rw [SW.len_push]; omega⟩
    have hy : (Nat.beq b' b && Nat.beq g' g) = true := hy
    rw [Bool.and_eq_true] at hy
    have e1 := Nat.eq_of_beq_eq_true hy.1
    have e2 := Nat.eq_of_beq_eq_true hy.2
    subst e1 e2
    rw [hx] at hy'
    cases hy'
    simp [RM.setArr]
   ·simp [Tree.sel] at h2
 ·simp [Tree.sel] at h
def csLend (f : FuncId) (B : FBox) (cs : FuncId → Option CSpec) : FuncId → Option CSpec := fun g => match Nat.beq g f with
 | true => some (lendRun B)
 | false => cs g
theorem csLend_ok {f : FuncId} {B : FBox} {cs : FuncId → Option CSpec} (hcs : CsOk P cs) (hB : RunOk P f (boxRun B)) : CsOk P (csLend f B cs) := by
 intro g s h
 unfold csLend at h
 split at h
 ·rename_i e
  cases h
  have := Nat.eq_of_beq_eq_true e
  subst this
  exact lendRun_ok hB
 ·exact hcs g s h
end
end Go.Proofs.Ytfkcodaiiheniaa.Vx
