import Derived.Test.YtdaabhpeedekaaaVxLend
noncomputable section
namespace Go.Proofs.Ytdaabhpeedekaaa.Vx
open Go Go.RowKit
set_option linter.unusedVariables false

/-! ### A function that asks whether a row is nil, and gives a row of its own in either case -/
def W0 : SW := ⟨[], []⟩
def slotsR (x : Option Res) : List SV := match x with
  | some (_, t, _) => t
  | none => []
def worldR (x : Option Res) : SW := match x with
  | some (_, _, s) => s
  | none => W0
def cloneOp (t : Ty) (ok : List t.den → Bool) : List Dat → Option (Nat × List Dat)
  | [.l t' x] => match castL t' t x with
    | some l => bif ok l then some (0, [.l t l]) else none
    | none => none
  | _ => none
def cloneBox (t : Ty) (ok : List t.den → Bool) : FBox := mkF [.imm t 0] [] [] [(.own 0, [.arr t 0])] (cloneOp t ok)
/-- The parts of its body. -/
def clA (P : Program) (f : FuncId) : Code := match bodyOf P f with
  | .seq a _ => a
  | _ => .skip
def clO (P : Program) (f : FuncId) : Array Oper := match bodyOf P f with
  | .seq _ (.seq (.seq (.region _ o _) _) _) => o
  | _ => #[]
def clI (P : Program) (f : FuncId) : Nat := match bodyOf P f with
  | .seq _ (.seq (.seq (.region i _ _) _) _) => i
  | _ => 0
def clC (P : Program) (f : FuncId) : Code := match bodyOf P f with
  | .seq _ (.seq (.seq _ c) _) => c
  | _ => .skip
def clD (P : Program) (f : FuncId) : Code := match bodyOf P f with
  | .seq _ (.seq _ d) => d
  | _ => .skip
def clP (i : Nat) (T : TypeId) : Operand := .const (.slice none 0 0)
def isClone (P : Program) (f : FuncId) (T : TypeId) : Bool := match bodyOf P f with
  | .seq _ (.seq (.seq (.region _ o false) _) _) => match o.toList with
    | [⟨some 3, .move (.tmp 0), _, _, _, none⟩, ⟨some 4, .binOp .eql T' (.tmp 3) (.const (.slice none 0 0)) _, _, _, _, none⟩] => Nat.beq T T'
    | _ => false
  | _ => false
section
variable {P : Program}
theorem eqNil_run {T e : TypeId} (hT : P.underlying T = some (.slice e)) (a : Option Addr) (n c : Nat) (w : World) : (Op.equalIn Op.maxDepth T (.slice a n c) (.slice none 0 0)).run P w = .ok a.isNone w := by
  show (Op.equalIn (9999 + 1) T (.slice a n c) (.slice none 0 0)).run P w = _
  unfold Op.equalIn
  cases a with
  | none => simp [run_underlying hT]
  | some p => simp [run_underlying hT]
theorem isClone_ops {f : FuncId} {T : TypeId} (h : isClone P f T = true) : ∃ T2 a1 a2 a3 b1 b2 b3, clO P f = #[⟨some 3, .move (.tmp 0), a1, a2, a3, none⟩, ⟨some 4, .binOp .eql T (.tmp 3) (.const (.slice none 0 0)) T2, b1, b2, b3, none⟩] := by
  unfold isClone at h
  unfold clO
  split at h
  · rename_i i o c d hb
    rw [hb]
    split at h
    · rename_i a1 a2 a3 T' T2 b1 b2 b3 ho
      have := Nat.eq_of_beq_eq_true h
      subst this
      exact ⟨T2, a1, a2, a3, b1, b2, b3, by cases o; simp at ho; simp [ho]⟩
    · cases h
  · cases h
theorem wp_two {o0 o1 : Oper} {d0 d1 : Nat} {t' : Array Value} {w : World} {v0 v1 : Value} {Q : Exit → Act → World → Prop} (g0 : o0.guard = none) (g1 : o1.guard = none) (e0 : o0.dst = some d0) (e1 : o1.dst = some d1)
    (r0 : (execOp (Act.mk t' []).eval o0).run P w = .ok (.value v0) w) (r1 : (execOp (Act.mk (t'.setIfInBounds d0 v0) []).eval o1).run P w = .ok (.value v1) w)
    (h : Q .normal ⟨(t'.setIfInBounds d0 v0).setIfInBounds d1 v1, []⟩ w) : wpOps P #[o0, o1] Q [0, 1] ⟨t', []⟩ w := by
  show (if Region.wanted o0 (yielded #[o0, o1] t') = true then o0.wp P ⟨t', []⟩ w (wpOps P #[o0, o1] Q [1]) Q ∨ _ else _)
  rw [if_pos (by simp [Region.wanted, g0])]
  refine .inl ?_
  unfold Oper.wp
  rw [r0, Oper.upon_value]
  have p0 : (Act.mk t' []).put o0.dst v0 = ⟨t'.setIfInBounds d0 v0, []⟩ := by rw [e0]; rfl
  rw [p0]
  show (if Region.wanted o1 (yielded #[o0, o1] (t'.setIfInBounds d0 v0)) = true then o1.wp P ⟨t'.setIfInBounds d0 v0, []⟩ w (wpOps P #[o0, o1] Q []) Q ∨ _ else _)
  rw [if_pos (by simp [Region.wanted, g1])]
  refine .inl ?_
  unfold Oper.wp
  rw [r1, Oper.upon_value]
  have p1 : (Act.mk (t'.setIfInBounds d0 v0) []).put o1.dst v1 = ⟨(t'.setIfInBounds d0 v0).setIfInBounds d1 v1, []⟩ := by rw [e1]; rfl
  rw [p1]
  exact h
theorem clone_ok {cl : CallF} (hcl : ClOk P cl) (hm : P.follows .mixedOrders = true) {f : FuncId} {T e : TypeId} {n : Nat} (hform : isClone P f T = true) (hT : P.underlying T = some (.slice e)) {fn : Func} (hf : P.funcs[f]? = some fn)
    (hbody : fn.body = some (.seq (clA P f) (.seq (.seq (.region (clI P f) (clO P f) false) (clC P f)) (clD P f))))
    (t : Ty) (ok : List t.den → Bool) (K0 KN KS : List t.den → List SV) (SS : List t.den → SW) (VS : List t.den → SV)
    (F0 : ∀ l, (evCode P cl ls0 n (clA P f) (.imm t l :: List.replicate (fn.ntmps - 1) .undef) W0).sel = some (.normal, K0 l, W0))
    (G0 : ∀ l, (K0 l)[0]? = some (.imm t l)) (L0 : ∀ l, Nat.ble 5 (K0 l).length = true)
    (FN : ∀ l, (evCode P cl ls0 n (clC P f) (((K0 l).set 3 (.imm t l)).set 4 (.bool true)) W0).sel = some (.ret, KN l, W0)) (RN : ∀ l, resV P fn (KN l) W0 = some .nilsl)
    (FS : ∀ l, (evCode P cl ls0 n (clC P f) (((K0 l).set 3 (.imm t l)).set 4 (.bool false)) W0).sel = some (.normal, ((K0 l).set 3 (.imm t l)).set 4 (.bool false), W0))
    (FD : ∀ l, (evCode P cl ls0 n (clD P f) (((K0 l).set 3 (.imm t l)).set 4 (.bool false)) W0).sel = bif ok l then some (.ret, KS l, SS l) else none) (RS : ∀ l, resV P fn (KS l) (SS l) = some (VS l))
    (FF : ∀ l, (finish 0 [] [(.own 0, [.arr t 0])] (VS l) (SS l)).sel = some (0, [.l t l])) (hnt : Nat.ble 1 fn.ntmps = true) : RunOk P f (boxRun (cloneBox t ok)) := by
  intro args s v s1 h hlog r σ w args' hr ha
  unfold boxRun at h
  split at h
  · rename_i env henv
    obtain ⟨⟨k, e0⟩, h1, h2⟩ := Tree.bind_some h
    have h1' := outT_some h1
    obtain ⟨f1, f2, f3⟩ := fitS_ok henv hr ha []
    -- what the argument is
    have hop : ∃ l, env = [.l t l] ∧ ok l = true ∧ k = 0 ∧ e0 = [.l t l] := by
      unfold cloneOp at h1'
      split at h1'
      · rename_i t' x
        split at h1'
        · rename_i l hl
          obtain ⟨e1, rfl⟩ := castL_some hl
          subst e1
          cases hok : ok x with
          | false => rw [hok] at h1'; cases h1'
          | true => rw [hok] at h1'; cases h1'; exact ⟨x, rfl, hok, rfl, rfl⟩
        · cases h1'
      · cases h1'
    obtain ⟨l, rfl, hok, rfl, rfl⟩ := hop
    have hgl : gl t [.l t l] 0 = l := by simp [gl, castL_self]
    have hargs : instL (cloneBox t ok).args [.l t l] = [.imm t l] := by show [SV.imm t (gl t [.l t l] 0)] = _; rw [hgl]
    rw [hargs] at f2
    have hblks : (⟨instBs (cloneBox t ok).blks [.l t l], []⟩ : SW) = W0 := rfl
    rw [hblks] at f1
    have hlen0 : s.len = 0 := f3.symm
    have h2' : instV (.own 0) [.l t l] = v ∧ (⟨instBs [.arr t 0] [.l t l], []⟩ : SW) = s1 := by
      have : (match (cloneBox t ok).outs[0]? with | some o => Tree.leaf (instV o.1 [Dat.l t l], (⟨instBs o.2 [Dat.l t l], (cloneBox t ok).log⟩ : SW)) | none => .bad 321).sel = some (v, s1) := h2
      simp only [cloneBox, mkF, List.getElem?_cons_zero, Tree.sel, Option.some.injEq, Prod.mk.injEq] at this
      exact this
    obtain ⟨rfl, rfl⟩ := h2'
    have hinst : (⟨instBs [.arr t 0] [.l t l], []⟩ : SW) = ⟨[.arr t 0 l], []⟩ := by show (⟨[Blk.arr t 0 (gl t [.l t l] 0)], []⟩ : SW) = _; rw [hgl]
    rw [hinst]
    show Calls P f args' w fun e w' => ∃ v', e = .returned v' ∧ AfterK s.len r σ s w (.own 0 0) ⟨[.arr t 0 l], []⟩ v' w'
    rw [hlen0]
    have hsl : ∀ x, x ∈ s.log → x < 0 → x ∈ ([] : List Nat) := fun x hx _ => by omega
    refine calls_of_wp hf hbody ?_
    have hsz := f2.size
    simp only [List.length_cons, List.length_nil] at hsz
    have ht0 : LRel r σ (.imm t l :: List.replicate (fn.ntmps - 1) .undef) (args' ++ Array.replicate (fn.ntmps - args'.size) undef) := by
      rw [← hsz]
      exact f2.append (LRel.undefs r σ _)
    refine wp_seq (evCode_ok hcl hm (K := 0) n _ _ _ _ (LsOk.none _ _ _) (F0 l) (Nat.zero_le _) r σ w _ _ f1 ht0 fun t1' w1 hth => ?_)
    obtain ⟨r1, σ1, q1, q2, q3, q4, q5⟩ := hth
    refine wp_seq (wp_seq (wp_region ?_))
    obtain ⟨T2, a1, a2, a3, b1, b2, b3, hO⟩ := isClone_ops hform
    rw [hO]
    obtain ⟨v', g1, g2⟩ := q3.get (G0 l)
    have hv' := g2
    cases hv' with
    | imm _ _ _ himm =>
      rw [RD_sl] at himm
      obtain ⟨a, len, cap, k1, k2, k3, k4⟩ := himm
      simp only [Option.some.injEq] at k1
      subst k1
      have ht3 : LRel r1 σ1 (((K0 l).set 3 (.imm t l)).set 4 (.bool a.isNone)) ((((t1'.setIfInBounds 3 (.slice a len cap)).setIfInBounds 4 (.bool a.isNone)))) := (q3.set 3 g2).set 4 (.bool _)
      have hev : (Act.mk t1' []).eval (.tmp 0) = .slice a len cap := by
        show t1'.getD 0 undef = _
        rw [Array.getD_eq_getD_getElem?, g1]; rfl
      have hsz1 : 5 ≤ t1'.size := by
        have : (K0 l).length = t1'.size := q3.size
        have := Nat.le_of_ble_eq_true (L0 l)
        omega
      have run0 : (execOp (Act.mk t1' []).eval ⟨some 3, .move (.tmp 0), a1, a2, a3, none⟩).run P w1 = .ok (.value (.slice a len cap)) w1 := by
        show ((pure (.value ((Act.mk t1' []).eval (.tmp 0))) : Sem Next)).run P w1 = _
        rw [hev]; rfl
      have run1 : (execOp (Act.mk (t1'.setIfInBounds 3 (.slice a len cap)) []).eval ⟨some 4, .binOp .eql T (.tmp 3) (.const (.slice none 0 0)) T2, b1, b2, b3, none⟩).run P w1 = .ok (.value (.bool a.isNone)) w1 := by
        have hev3 : (Act.mk (t1'.setIfInBounds 3 (.slice a len cap)) []).eval (.tmp 3) = .slice a len cap := by
          show (t1'.setIfInBounds 3 (.slice a len cap)).getD 3 undef = _
          rw [Array.getD_eq_getD_getElem?, Array.getElem?_setIfInBounds]
          rw [if_pos rfl, if_pos (by omega)]; rfl
        show (do pure (.value (← (do eqGuard .eql T (.tmp 3) (.const (.slice none 0 0)) ((Act.mk (t1'.setIfInBounds 3 (.slice a len cap)) []).eval (.tmp 3)) (.slice none 0 0); binOp .eql T ((Act.mk (t1'.setIfInBounds 3 (.slice a len cap)) []).eval (.tmp 3)) (.slice none 0 0) : Sem Value))) : Sem Next).run P w1 = _
        rw [hev3]
        have g := run_guard_other (P := P) (w := w1) (op := .eql) (t := T) (xo := .tmp 3) (yo := .const (.slice none 0 0)) (x := .slice a len cap) (y := .slice none 0 0) (fun xs ys e => by cases e) (fun e => by cases e)
        have q := run_eql_other (P := P) (w := w1) (t := T) (x := .slice a len cap) (y := .slice none 0 0) rfl (eqNil_run hT a len cap w1)
        simp only [Sem.run_bind, g, q, Result.andThen_ok]
        rfl
      refine wp_two rfl rfl rfl rfl run0 run1 ?_
      show (clC P f).wp P _ ⟨(t1'.setIfInBounds 3 (.slice a len cap)).setIfInBounds 4 (.bool a.isNone), []⟩ w1
      cases a with
      | none =>
        have hl : l = [] := by
          cases l with
          | nil => rfl
          | cons x l => obtain ⟨p, c, e1, _⟩ := k4 0 (by simp); cases e1
        subst hl
        refine evCode_ok hcl hm (K := 0) n _ _ _ _ (LsOk.none _ _ _) (FN []) (Nat.zero_le _) r1 σ1 w1 _ _ q1 ht3 fun t2' w2 hth2 => ?_
        obtain ⟨r2, σ2, p1, p2, p3, p4, p5⟩ := hth2
        obtain ⟨v2, u1, u2⟩ := resV_ok p1 p3 (RN [])
        refine ⟨rfl, v2, u1, v2, rfl, ?_⟩
        cases u2
        obtain ⟨m1, m2, m3⟩ := p1.newNil t
        exact ⟨_, σ2, m1, (q2.trans p2 fun _ h _ => h).trans (m3.toK m2 (Snap.le_refl _) (Nat.zero_le _)) fun _ h _ => h, .own 0 0 (nowhere t.width) (by simp [RM.setArr, W0, SW.len]), hsl, Nat.zero_le _⟩
      | some p =>
        refine evCode_ok hcl hm (K := 0) n _ _ _ _ (LsOk.none _ _ _) (FS l) (Nat.zero_le _) r1 σ1 w1 _ _ q1 ht3 fun t2' w2 hth2 => ?_
        obtain ⟨r2, σ2, p1, p2, p3, p4, p5⟩ := hth2
        have hFD := FD l
        rw [hok] at hFD
        refine evCode_ok hcl hm (K := 0) n _ _ _ _ (LsOk.none _ _ _) hFD (Nat.zero_le _) r2 σ2 w2 _ _ p1 p3 fun t3' w3 hth3 => ?_
        obtain ⟨r3, σ3, o1, o2, o3, o4, o5⟩ := hth3
        obtain ⟨v2, u1, u2⟩ := resV_ok o1 o3 (RS l)
        refine ⟨rfl, v2, u1, v2, rfl, ?_⟩
        obtain ⟨z1, z2⟩ := Tree.guard_some (FF l)
        obtain ⟨o', y1, y2, y3⟩ := tryOuts_ok z2
        simp only [Nat.sub_self, List.getElem?_cons_zero, Option.some.injEq] at y2
        subst y2
        obtain ⟨r4, x1, x2, x3, x4⟩ := reFit_ok y3 (Nat.zero_le _) o1 (LRel.one u2)
        refine ⟨r4, σ3, ?_, ?_, ?_, hsl, Nat.zero_le _⟩
        · have := x1 []
          rwa [hinst] at this
        · have f4 : FrameK 0 (SS l).log r r4 σ σ3 w w3 := (((q2.trans p2 fun _ h _ => h).more fun _ h => by cases h).trans o2 fun _ h _ => h).trans x3 fun _ h _ => h
          exact f4.more fun b hb hk => by omega
        · exact x2.at_ 0 (instV (.own 0) [.l t l]) v2 rfl rfl
  · simp [Tree.sel] at h
end
end Go.Proofs.Ytdaabhpeedekaaa.Vx
