import Derived.Test.YtchedebomjmehaaX19
import Derived.Test.YtchedebomjmehaaVxAid
namespace Go.Proofs.Ytchedebomjmehaa.Vx
open Go Go.RowKit
set_option linter.unusedVariables false
set_option maxRecDepth 100000
/-- What holds of an executive. -/
def Ex (ph dl cy p tk : Int) (lt : Bool) : Prop := 1 ≤ ph ∧ ph ≤ 16 ∧ 1 ≤ dl ∧ dl ≤ 1000 ∧ 0 ≤ cy ∧ cy ≤ 1099511627776 ∧ 0 ≤ p ∧ p < ph ∧ 0 ≤ tk ∧ tk ≤ dl + 1 ∧ (lt = false → tk ≤ dl)
def exD (ph dl cy p tk : Int) (lt : Bool) : List Dat := [.n ph, .n dl, .n cy, .n p, .n tk, .b lt]
/-- Two answer alike, and stay right. -/
def Alike (a b : Option (Nat × List Dat)) : Prop := ∃ (e ph dl cy p tk : Int) (lt : Bool), a = some (0, .n e :: exD ph dl cy p tk lt) ∧ b = a ∧ Ex ph dl cy p tk lt
theorem t33 {ph dl cy p tk : Int} {lt : Bool} (h : Ex ph dl cy p tk lt) : Alike (op_33 (exD ph dl cy p tk lt)) (op_62 (exD ph dl cy p tk lt)) := by
  obtain ⟨h1, h2, h3, h4, h5, h6, h7, h8, h9, h10, h11⟩ := h
  have hw : IntKind.wrap .i64 (tk + 1) = tk + 1 := w64 (by omega) (by omega)
  cases lt with
  | true => exact ⟨190, ph, dl, cy, p, tk, true, rfl, rfl, by unfold Ex; simp; omega⟩
  | false =>
    have := h11 rfl
    by_cases hd : IntKind.wrap .i64 (tk + 1) > dl
    · exact ⟨190, ph, dl, cy, p, IntKind.wrap .i64 (tk + 1), true, selT (dt hd), rfl, by unfold Ex; rw [hw]; simp; omega⟩
    · exact ⟨0, ph, dl, cy, p, IntKind.wrap .i64 (tk + 1), false, selF (df hd), rfl, by unfold Ex; rw [hw] at hd ⊢; simp; omega⟩
theorem t34 {ph dl cy p tk : Int} {lt : Bool} (h : Ex ph dl cy p tk lt) : Alike (op_34 (exD ph dl cy p tk lt)) (op_61 (exD ph dl cy p tk lt)) := by
  obtain ⟨h1, h2, h3, h4, h5, h6, h7, h8, h9, h10, h11⟩ := h
  cases lt with
  | true => exact ⟨0, ph, dl, cy, 0, 0, false, rfl, rfl, by unfold Ex; simp; omega⟩
  | false => exact ⟨4, ph, dl, cy, p, tk, false, rfl, rfl, by unfold Ex; simp; have := h11 rfl; omega⟩
theorem t36 (q : Int) {ph dl cy p tk : Int} {lt : Bool} (h : Ex ph dl cy p tk lt) : Alike (op_36 (.n q :: exD ph dl cy p tk lt)) (op_59 (.n q :: exD ph dl cy p tk lt)) := by
  have H := h
  obtain ⟨h1, h2, h3, h4, h5, h6, h7, h8, h9, h10, h11⟩ := h
  have w1 : IntKind.wrap .i64 (ph - 1) = ph - 1 := w64 (by omega) (by omega)
  have w2 : IntKind.wrap .i64 (p + 1) = p + 1 := w64 (by omega) (by omega)
  have w3 : IntKind.wrap .i64 (cy + 1) = cy + 1 := w64 (by omega) (by omega)
  by_cases a1 : q < 0
  · exact ⟨2, ph, dl, cy, p, tk, lt, selT (dt a1), (selT (dt a1)).trans (selT (dt a1)).symm, H⟩
  by_cases a2 : q ≥ ph
  · have e1 : op_36 (.n q :: exD ph dl cy p tk lt) = some (0, .n 2 :: exD ph dl cy p tk lt) := (selF (df a1)).trans (selT (dt a2))
    have e2 : op_59 (.n q :: exD ph dl cy p tk lt) = some (0, .n 2 :: exD ph dl cy p tk lt) := (selF (df a1)).trans (selT (dt a2))
    exact ⟨2, ph, dl, cy, p, tk, lt, e1, e2.trans e1.symm, H⟩
  cases lt with
  | true =>
    have e1 : op_36 (.n q :: exD ph dl cy p tk true) = some (0, .n 190 :: exD ph dl cy p tk true) := (selF (df a1)).trans (selF (df a2))
    have e2 : op_59 (.n q :: exD ph dl cy p tk true) = some (0, .n 190 :: exD ph dl cy p tk true) := (selF (df a1)).trans (selF (df a2))
    exact ⟨190, ph, dl, cy, p, tk, true, e1, e2.trans e1.symm, H⟩
  | false =>
    have a0 := h11 rfl
    by_cases a3 : q = p
    · subst a3
      have b3 : (q != q) = false := by simp
      by_cases a4 : q < ph - 1
      · have e1 : op_36 (.n q :: exD ph dl cy q tk false) = some (0, .n 0 :: exD ph dl cy (IntKind.wrap .i64 (q + 1)) tk false) := (selF (df a1)).trans ((selF (df a2)).trans ((selF rfl).trans ((selF b3).trans (selT (dt (by rw [w1]; exact a4))))))
        have e2 : op_59 (.n q :: exD ph dl cy q tk false) = some (0, .n 0 :: exD ph dl cy (IntKind.wrap .i64 (q + 1)) tk false) := (selF (df a1)).trans ((selF (df a2)).trans ((selF rfl).trans ((selF b3).trans ((selF (bf (by rw [w1]; omega))).trans (selF (bf (by rw [w2]; omega)))))))
        exact ⟨0, ph, dl, cy, _, tk, false, e1, e2.trans e1.symm, by rw [w2]; unfold Ex; simp; omega⟩
      · by_cases a5 : cy = 1099511627776
        · have e1 : op_36 (.n q :: exD ph dl cy q tk false) = some (0, .n 3 :: exD ph dl cy q tk false) := (selF (df a1)).trans ((selF (df a2)).trans ((selF rfl).trans ((selF b3).trans ((selF (df (by rw [w1]; exact a4))).trans (selT (bt a5))))))
          have e2 : op_59 (.n q :: exD ph dl cy q tk false) = some (0, .n 3 :: exD ph dl cy q tk false) := (selF (df a1)).trans ((selF (df a2)).trans ((selF rfl).trans ((selF b3).trans ((selT (bt (by rw [w1]; omega))).trans (selT (bt a5))))))
          exact ⟨3, ph, dl, cy, q, tk, false, e1, e2.trans e1.symm, H⟩
        · have e1 : op_36 (.n q :: exD ph dl cy q tk false) = some (0, .n 0 :: exD ph dl (IntKind.wrap .i64 (cy + 1)) 0 0 false) := (selF (df a1)).trans ((selF (df a2)).trans ((selF rfl).trans ((selF b3).trans ((selF (df (by rw [w1]; exact a4))).trans (selF (bf a5))))))
          have e2 : op_59 (.n q :: exD ph dl cy q tk false) = some (0, .n 0 :: exD ph dl (IntKind.wrap .i64 (cy + 1)) 0 0 false) := (selF (df a1)).trans ((selF (df a2)).trans ((selF rfl).trans ((selF b3).trans ((selT (bt (by rw [w1]; omega))).trans ((selF (bf a5)).trans (selT (bt (by rw [w2]; omega))))))))
          exact ⟨0, ph, dl, _, 0, 0, false, e1, e2.trans e1.symm, by rw [w3]; unfold Ex; simp; omega⟩
    · have b3 : (q != p) = true := by simpa using a3
      have e1 : op_36 (.n q :: exD ph dl cy p tk false) = some (0, .n 4 :: exD ph dl cy p tk false) := (selF (df a1)).trans ((selF (df a2)).trans ((selF rfl).trans (selT b3)))
      have e2 : op_59 (.n q :: exD ph dl cy p tk false) = some (0, .n 4 :: exD ph dl cy p tk false) := (selF (df a1)).trans ((selF (df a2)).trans ((selF rfl).trans (selT b3)))
      exact ⟨4, ph, dl, cy, p, tk, false, e1, e2.trans e1.symm, H⟩
theorem t31 (ph dl cy p tk : Int) (lt : Bool) : op_31 (exD ph dl cy p tk lt ++ exD ph dl cy p tk lt) = some (0, [.b true]) := by
  cases lt with
  | true => exact (selT (bt rfl)).trans ((selT (bt rfl)).trans ((selT rfl).trans (selT rfl)))
  | false => exact (selT (bt rfl)).trans ((selT (bt rfl)).trans ((selF rfl).trans ((selF rfl).trans (selT (bt rfl)))))

/-- Some picks: both go alike. -/
def Ends (a b : Option (Nat × List Dat)) : Prop := (∃ (c ph dl cy p tk : Int) (lt : Bool), a = some (0, .n c :: exD ph dl cy p tk lt) ∧ b = a ∧ Ex ph dl cy p tk lt) ∨
  (∃ (c e ph dl cy p tk : Int) (lt : Bool), a = some (1, .n c :: .n e :: exD ph dl cy p tk lt) ∧ b = a ∧ Ex ph dl cy p tk lt)
theorem t56L (l : List (Ty.den (.int .i64))) (hl : l.length ≤ 9223372036854775807) : ∀ (n : Nat) (c i ph dl cy p tk : Int) (lt : Bool), Ex ph dl cy p tk lt → 0 ≤ i → i ≤ l.length → 0 ≤ c → c ≤ i → (l.length : Int) - i < n →
    Ends (iterS fn_L56_3 n (.n c :: .l (.int .i64) l :: .n l.length :: .n i :: exD ph dl cy p tk lt)) (iterS fn_L60_3 n (.l (.int .i64) l :: .n c :: .n i :: exD ph dl cy p tk lt))
  | 0, c, i, ph, dl, cy, p, tk, lt, h, h0, h1, h2, h3, hn => by omega
  | n + 1, c, i, ph, dl, cy, p, tk, lt, h, h0, h1, h2, h3, hn => by
    by_cases hlt : i < (l.length : Int)
    · obtain ⟨e, ph', dl', cy', p', tk', lt', e1, e2, h'⟩ := t36 (List.getD l i.toNat (0 : Int)) h
      rw [e1] at e2
      have w1 : IntKind.wrap .i64 (i + 1) = i + 1 := w64 (by omega) (by omega)
      have w2 : IntKind.wrap .i64 (c + 1) = c + 1 := w64 (by omega) (by omega)
      have e1' : op_36 [Dat.n (List.getD l (Int.toNat i) (0 : Int)), Dat.n ph, Dat.n dl, Dat.n cy, Dat.n p, Dat.n tk, Dat.b lt] = some (0, [.n e, .n ph', .n dl', .n cy', .n p', .n tk', .b lt']) := e1
      have e2' : op_59 [Dat.n (List.getD l (Int.toNat i) (0 : Int)), Dat.n ph, Dat.n dl, Dat.n cy, Dat.n p, Dat.n tk, Dat.b lt] = some (0, [.n e, .n ph', .n dl', .n cy', .n p', .n tk', .b lt']) := e2
      by_cases a0 : e = 0
      · have s1 : (fn_L56_3 (.n c :: .l (.int .i64) l :: .n l.length :: .n i :: exD ph dl cy p tk lt)).sel = some (.go (.n (c + 1) :: .l (.int .i64) l :: .n l.length :: .n (i + 1) :: exD ph' dl' cy' p' tk' lt')) := by
          refine (selT (dt hlt)).trans ((selT (inR_true h0 hlt)).trans ?_)
          rw [e1', w1, w2]
          exact (selT rfl).trans (selT (bt a0))
        have s2 : (fn_L60_3 (.l (.int .i64) l :: .n c :: .n i :: exD ph dl cy p tk lt)).sel = some (.go (.l (.int .i64) l :: .n (c + 1) :: .n (i + 1) :: exD ph' dl' cy' p' tk' lt')) := by
          refine (selT (dt hlt)).trans ((selT (inR_true h0 hlt)).trans ?_)
          rw [e2', w1, w2]
          exact (selT rfl).trans (selT (bt a0))
        simp only [iterS, s1, s2]
        exact t56L l hl n (c + 1) (i + 1) ph' dl' cy' p' tk' lt' h' (by omega) (by omega) (by omega) (by omega) (by omega)
      · by_cases a4 : e = 4
        · have s1 : (fn_L56_3 (.n c :: .l (.int .i64) l :: .n l.length :: .n i :: exD ph dl cy p tk lt)).sel = some (.go (.n c :: .l (.int .i64) l :: .n l.length :: .n (i + 1) :: exD ph' dl' cy' p' tk' lt')) := by
            refine (selT (dt hlt)).trans ((selT (inR_true h0 hlt)).trans ?_)
            rw [e1', w1]
            exact (selT rfl).trans ((selF (bf a0)).trans (selT (bt a4)))
          have s2 : (fn_L60_3 (.l (.int .i64) l :: .n c :: .n i :: exD ph dl cy p tk lt)).sel = some (.go (.l (.int .i64) l :: .n c :: .n (i + 1) :: exD ph' dl' cy' p' tk' lt')) := by
            refine (selT (dt hlt)).trans ((selT (inR_true h0 hlt)).trans ?_)
            rw [e2', w1]
            exact (selT rfl).trans ((selF (bf a0)).trans (selF (by subst a4; rfl)))
          simp only [iterS, s1, s2]
          exact t56L l hl n c (i + 1) ph' dl' cy' p' tk' lt' h' (by omega) (by omega) (by omega) (by omega) (by omega)
        · have s1 : (fn_L56_3 (.n c :: .l (.int .i64) l :: .n l.length :: .n i :: exD ph dl cy p tk lt)).sel = some (.stop 1 (.n c :: .n e :: exD ph' dl' cy' p' tk' lt')) := by
            refine (selT (dt hlt)).trans ((selT (inR_true h0 hlt)).trans ?_)
            rw [e1']
            exact (selT rfl).trans ((selF (bf a0)).trans (selF (bf a4)))
          have s2 : (fn_L60_3 (.l (.int .i64) l :: .n c :: .n i :: exD ph dl cy p tk lt)).sel = some (.stop 1 (.n c :: .n e :: exD ph' dl' cy' p' tk' lt')) := by
            refine (selT (dt hlt)).trans ((selT (inR_true h0 hlt)).trans ?_)
            rw [e2']
            exact (selT rfl).trans ((selF (bf a0)).trans (selT (by have := bf a4; simp only [bne]; exact nf this)))
          simp only [iterS, s1, s2]
          exact .inr ⟨c, e, ph', dl', cy', p', tk', lt', rfl, rfl, h'⟩
    · have s1 : (fn_L56_3 (.n c :: .l (.int .i64) l :: .n l.length :: .n i :: exD ph dl cy p tk lt)).sel = some (.stop 0 (.n c :: exD ph dl cy p tk lt)) := selF (df hlt)
      have s2 : (fn_L60_3 (.l (.int .i64) l :: .n c :: .n i :: exD ph dl cy p tk lt)).sel = some (.stop 0 (.n c :: exD ph dl cy p tk lt)) := selF (df hlt)
      simp only [iterS, s1, s2]
      exact .inl ⟨c, ph, dl, cy, p, tk, lt, rfl, rfl, h⟩
theorem t56 (l : List (Ty.den (.int .i64))) (hl : l.length ≤ 9223372036854775807) {ph dl cy p tk : Int} {lt : Bool} (h : Ex ph dl cy p tk lt) : ∃ (c e ph' dl' cy' p' tk' : Int) (lt' : Bool), op_56 (.l (.int .i64) l :: exD ph dl cy p tk lt) = some (0, .n c :: .n e :: exD ph' dl' cy' p' tk' lt') ∧
    op_60 (.l (.int .i64) l :: exD ph dl cy p tk lt) = some (0, .n c :: .n e :: exD ph' dl' cy' p' tk' lt') ∧ Ex ph' dl' cy' p' tk' lt' := by
  have k := t56L l hl FU 0 0 ph dl cy p tk lt h (by omega) (by omega) (by omega) (by omega) (by unfold FU; omega)
  rcases k with ⟨c, ph', dl', cy', p', tk', lt', e1, e2, h'⟩ | ⟨c, e, ph', dl', cy', p', tk', lt', e1, e2, h'⟩
  · rw [e1] at e2
    have e1' : op_L56_3 [Dat.n (0 : Int), Dat.l (.int .i64) l, Dat.n (l.length : Int), Dat.n (0 : Int), Dat.n ph, Dat.n dl, Dat.n cy, Dat.n p, Dat.n tk, Dat.b lt] = some (0, [.n c, .n ph', .n dl', .n cy', .n p', .n tk', .b lt']) := e1
    have e2' : op_L60_3 [Dat.l (.int .i64) l, Dat.n (0 : Int), Dat.n (0 : Int), Dat.n ph, Dat.n dl, Dat.n cy, Dat.n p, Dat.n tk, Dat.b lt] = some (0, [.n c, .n ph', .n dl', .n cy', .n p', .n tk', .b lt']) := e2
    refine ⟨c, 0, ph', dl', cy', p', tk', lt', ?_, ?_, h'⟩
    · show (fn_56 _).sel = _
      unfold fn_56 exD
      simp only [e1']
      rfl
    · show (fn_60 _).sel = _
      unfold fn_60 exD
      simp only [e2']
      rfl
  · rw [e1] at e2
    have e1' : op_L56_3 [Dat.n (0 : Int), Dat.l (.int .i64) l, Dat.n (l.length : Int), Dat.n (0 : Int), Dat.n ph, Dat.n dl, Dat.n cy, Dat.n p, Dat.n tk, Dat.b lt] = some (1, [.n c, .n e, .n ph', .n dl', .n cy', .n p', .n tk', .b lt']) := e1
    have e2' : op_L60_3 [Dat.l (.int .i64) l, Dat.n (0 : Int), Dat.n (0 : Int), Dat.n ph, Dat.n dl, Dat.n cy, Dat.n p, Dat.n tk, Dat.b lt] = some (1, [.n c, .n e, .n ph', .n dl', .n cy', .n p', .n tk', .b lt']) := e2
    refine ⟨c, e, ph', dl', cy', p', tk', lt', ?_, ?_, h'⟩
    · show (fn_56 _).sel = _
      unfold fn_56 exD
      simp only [e1']
      rfl
    · show (fn_60 _).sel = _
      unfold fn_60 exD
      simp only [e2']
      rfl

theorem t8L (l : List (Ty.den TCall19)) (hl : l.length ≤ 9223372036854775807) (hw : ∀ c ∈ l, (c.2.2 : List (Ty.den (.int .i64))).length ≤ 9223372036854775807) : ∀ (n : Nat) (i ph dl cy p tk : Int) (lt : Bool), Ex ph dl cy p tk lt → 0 ≤ i → i ≤ l.length → (l.length : Int) - i < n →
    iterS fn_L8_10 n (.l TCall19 l :: .n i :: (exD ph dl cy p tk lt ++ exD ph dl cy p tk lt)) = some (0, [])
  | 0, i, ph, dl, cy, p, tk, lt, h, h0, h1, hn => by omega
  | n + 1, i, ph, dl, cy, p, tk, lt, h, h0, h1, hn => by
    by_cases hlt : i < (l.length : Int)
    · have w1 : IntKind.wrap .i64 (i + 1) = i + 1 := w64 (by omega) (by omega)
      by_cases k2 : Int.tmod (Prod.fst (List.getD l (Int.toNat i) (Ty.dflt (Ty.pair (Ty.int IntKind.u8) (Ty.pair (Ty.int IntKind.i64) (Ty.sl (Ty.int IntKind.i64))))))) 6 = 2
      · obtain ⟨e, ph', dl', cy', p', tk', lt', e1, e2, h'⟩ := t36 (Prod.fst (Prod.snd (List.getD l (Int.toNat i) (Ty.dflt (Ty.pair (Ty.int IntKind.u8) (Ty.pair (Ty.int IntKind.i64) (Ty.sl (Ty.int IntKind.i64)))))))) h
        rw [e1] at e2
        have e1' : op_36 [Dat.n (Prod.fst (Prod.snd (List.getD l (Int.toNat i) (Ty.dflt (Ty.pair (Ty.int IntKind.u8) (Ty.pair (Ty.int IntKind.i64) (Ty.sl (Ty.int IntKind.i64)))))))), Dat.n ph, Dat.n dl, Dat.n cy, Dat.n p, Dat.n tk, Dat.b lt] = some (0, [.n e, .n ph', .n dl', .n cy', .n p', .n tk', .b lt']) := e1
        have e2' : op_59 [Dat.n (Prod.fst (Prod.snd (List.getD l (Int.toNat i) (Ty.dflt (Ty.pair (Ty.int IntKind.u8) (Ty.pair (Ty.int IntKind.i64) (Ty.sl (Ty.int IntKind.i64)))))))), Dat.n ph, Dat.n dl, Dat.n cy, Dat.n p, Dat.n tk, Dat.b lt] = some (0, [.n e, .n ph', .n dl', .n cy', .n p', .n tk', .b lt']) := e2
        have s1 : (fn_L8_10 (.l TCall19 l :: .n i :: (exD ph dl cy p tk lt ++ exD ph dl cy p tk lt))).sel = some (.go (.l TCall19 l :: .n (i + 1) :: (exD ph' dl' cy' p' tk' lt' ++ exD ph' dl' cy' p' tk' lt'))) := by
          refine (selT (dt hlt)).trans ((selT (inR_true h0 hlt)).trans ((selT (bt k2)).trans ?_))
          rw [e1', e2', w1]
          exact (selT rfl).trans ((selT rfl).trans ((selF (nt (bt rfl))).trans ((selT (congrArg (isK 0 [HK.b]) (t31 ph' dl' cy' p' tk' lt'))).trans ((selF (nt (congrArg (fun r => gb (dOf r) 0) (t31 ph' dl' cy' p' tk' lt')))).trans rfl))))
        simp only [iterS, s1]
        exact t8L l hl hw n (i + 1) ph' dl' cy' p' tk' lt' h' (by omega) (by omega) (by omega)
      by_cases k3 : Int.tmod (Prod.fst (List.getD l (Int.toNat i) (Ty.dflt (Ty.pair (Ty.int IntKind.u8) (Ty.pair (Ty.int IntKind.i64) (Ty.sl (Ty.int IntKind.i64))))))) 6 = 3
      · obtain ⟨e, ph', dl', cy', p', tk', lt', e1, e2, h'⟩ := t36 (Prod.fst (Prod.snd (List.getD l (Int.toNat i) (Ty.dflt (Ty.pair (Ty.int IntKind.u8) (Ty.pair (Ty.int IntKind.i64) (Ty.sl (Ty.int IntKind.i64)))))))) h
        rw [e1] at e2
        have e1' : op_36 [Dat.n (Prod.fst (Prod.snd (List.getD l (Int.toNat i) (Ty.dflt (Ty.pair (Ty.int IntKind.u8) (Ty.pair (Ty.int IntKind.i64) (Ty.sl (Ty.int IntKind.i64)))))))), Dat.n ph, Dat.n dl, Dat.n cy, Dat.n p, Dat.n tk, Dat.b lt] = some (0, [.n e, .n ph', .n dl', .n cy', .n p', .n tk', .b lt']) := e1
        have e2' : op_59 [Dat.n (Prod.fst (Prod.snd (List.getD l (Int.toNat i) (Ty.dflt (Ty.pair (Ty.int IntKind.u8) (Ty.pair (Ty.int IntKind.i64) (Ty.sl (Ty.int IntKind.i64)))))))), Dat.n ph, Dat.n dl, Dat.n cy, Dat.n p, Dat.n tk, Dat.b lt] = some (0, [.n e, .n ph', .n dl', .n cy', .n p', .n tk', .b lt']) := e2
        have s1 : (fn_L8_10 (.l TCall19 l :: .n i :: (exD ph dl cy p tk lt ++ exD ph dl cy p tk lt))).sel = some (.go (.l TCall19 l :: .n (i + 1) :: (exD ph' dl' cy' p' tk' lt' ++ exD ph' dl' cy' p' tk' lt'))) := by
          refine (selT (dt hlt)).trans ((selT (inR_true h0 hlt)).trans ((selF (bf k2)).trans ((selT (bt k3)).trans ?_)))
          rw [e1', e2', w1]
          exact (selT rfl).trans ((selT rfl).trans ((selF (nt (bt rfl))).trans ((selT (congrArg (isK 0 [HK.b]) (t31 ph' dl' cy' p' tk' lt'))).trans ((selF (nt (congrArg (fun r => gb (dOf r) 0) (t31 ph' dl' cy' p' tk' lt')))).trans rfl))))
        simp only [iterS, s1]
        exact t8L l hl hw n (i + 1) ph' dl' cy' p' tk' lt' h' (by omega) (by omega) (by omega)
      by_cases k4 : Int.tmod (Prod.fst (List.getD l (Int.toNat i) (Ty.dflt (Ty.pair (Ty.int IntKind.u8) (Ty.pair (Ty.int IntKind.i64) (Ty.sl (Ty.int IntKind.i64))))))) 6 = 4
      · have hp : (Prod.snd (Prod.snd (List.getD l (Int.toNat i) (Ty.dflt (Ty.pair (Ty.int IntKind.u8) (Ty.pair (Ty.int IntKind.i64) (Ty.sl (Ty.int IntKind.i64))))))) : List (Ty.den (.int .i64))).length ≤ 9223372036854775807 := hw _ (getD_mem (by omega))
        obtain ⟨c, e, ph', dl', cy', p', tk', lt', e1, e2, h'⟩ := t56 (Prod.snd (Prod.snd (List.getD l (Int.toNat i) (Ty.dflt (Ty.pair (Ty.int IntKind.u8) (Ty.pair (Ty.int IntKind.i64) (Ty.sl (Ty.int IntKind.i64)))))))) hp h
        have e1' : op_56 [Dat.l (Ty.int IntKind.i64) (Prod.snd (Prod.snd (List.getD l (Int.toNat i) (Ty.dflt (Ty.pair (Ty.int IntKind.u8) (Ty.pair (Ty.int IntKind.i64) (Ty.sl (Ty.int IntKind.i64)))))))), Dat.n ph, Dat.n dl, Dat.n cy, Dat.n p, Dat.n tk, Dat.b lt] = some (0, [.n c, .n e, .n ph', .n dl', .n cy', .n p', .n tk', .b lt']) := e1
        have e2' : op_60 [Dat.l (Ty.int IntKind.i64) (Prod.snd (Prod.snd (List.getD l (Int.toNat i) (Ty.dflt (Ty.pair (Ty.int IntKind.u8) (Ty.pair (Ty.int IntKind.i64) (Ty.sl (Ty.int IntKind.i64)))))))), Dat.n ph, Dat.n dl, Dat.n cy, Dat.n p, Dat.n tk, Dat.b lt] = some (0, [.n c, .n e, .n ph', .n dl', .n cy', .n p', .n tk', .b lt']) := e2
        have s1 : (fn_L8_10 (.l TCall19 l :: .n i :: (exD ph dl cy p tk lt ++ exD ph dl cy p tk lt))).sel = some (.go (.l TCall19 l :: .n (i + 1) :: (exD ph' dl' cy' p' tk' lt' ++ exD ph' dl' cy' p' tk' lt'))) := by
          refine (selT (dt hlt)).trans ((selT (inR_true h0 hlt)).trans ((selF (bf k2)).trans ((selF (bf k3)).trans ((selT (bt k4)).trans ?_))))
          rw [e1', e2', w1]
          exact (selT rfl).trans ((selT rfl).trans ((selT (bt rfl)).trans ((selF (nt (bt rfl))).trans ((selT (congrArg (isK 0 [HK.b]) (t31 ph' dl' cy' p' tk' lt'))).trans ((selF (nt (congrArg (fun r => gb (dOf r) 0) (t31 ph' dl' cy' p' tk' lt')))).trans rfl)))))
        simp only [iterS, s1]
        exact t8L l hl hw n (i + 1) ph' dl' cy' p' tk' lt' h' (by omega) (by omega) (by omega)
      by_cases k5 : Int.tmod (Prod.fst (List.getD l (Int.toNat i) (Ty.dflt (Ty.pair (Ty.int IntKind.u8) (Ty.pair (Ty.int IntKind.i64) (Ty.sl (Ty.int IntKind.i64))))))) 6 = 5
      · obtain ⟨e, ph', dl', cy', p', tk', lt', e1, e2, h'⟩ := t34 h
        rw [e1] at e2
        have e1' : op_34 [Dat.n ph, Dat.n dl, Dat.n cy, Dat.n p, Dat.n tk, Dat.b lt] = some (0, [.n e, .n ph', .n dl', .n cy', .n p', .n tk', .b lt']) := e1
        have e2' : op_61 [Dat.n ph, Dat.n dl, Dat.n cy, Dat.n p, Dat.n tk, Dat.b lt] = some (0, [.n e, .n ph', .n dl', .n cy', .n p', .n tk', .b lt']) := e2
        have s1 : (fn_L8_10 (.l TCall19 l :: .n i :: (exD ph dl cy p tk lt ++ exD ph dl cy p tk lt))).sel = some (.go (.l TCall19 l :: .n (i + 1) :: (exD ph' dl' cy' p' tk' lt' ++ exD ph' dl' cy' p' tk' lt'))) := by
          refine (selT (dt hlt)).trans ((selT (inR_true h0 hlt)).trans ((selF (bf k2)).trans ((selF (bf k3)).trans ((selF (bf k4)).trans ((selT (bt k5)).trans ?_)))))
          rw [e1', e2', w1]
          exact (selT rfl).trans ((selT rfl).trans ((selF (nt (bt rfl))).trans ((selT (congrArg (isK 0 [HK.b]) (t31 ph' dl' cy' p' tk' lt'))).trans ((selF (nt (congrArg (fun r => gb (dOf r) 0) (t31 ph' dl' cy' p' tk' lt')))).trans rfl))))
        simp only [iterS, s1]
        exact t8L l hl hw n (i + 1) ph' dl' cy' p' tk' lt' h' (by omega) (by omega) (by omega)
      obtain ⟨e, ph', dl', cy', p', tk', lt', e1, e2, h'⟩ := t33 h
      rw [e1] at e2
      have e1' : op_33 [Dat.n ph, Dat.n dl, Dat.n cy, Dat.n p, Dat.n tk, Dat.b lt] = some (0, [.n e, .n ph', .n dl', .n cy', .n p', .n tk', .b lt']) := e1
      have e2' : op_62 [Dat.n ph, Dat.n dl, Dat.n cy, Dat.n p, Dat.n tk, Dat.b lt] = some (0, [.n e, .n ph', .n dl', .n cy', .n p', .n tk', .b lt']) := e2
      have s1 : (fn_L8_10 (.l TCall19 l :: .n i :: (exD ph dl cy p tk lt ++ exD ph dl cy p tk lt))).sel = some (.go (.l TCall19 l :: .n (i + 1) :: (exD ph' dl' cy' p' tk' lt' ++ exD ph' dl' cy' p' tk' lt'))) := by
        refine (selT (dt hlt)).trans ((selT (inR_true h0 hlt)).trans ((selF (bf k2)).trans ((selF (bf k3)).trans ((selF (bf k4)).trans ((selF (bf k5)).trans ?_)))))
        rw [e1', e2', w1]
        exact (selT rfl).trans ((selT rfl).trans ((selF (nt (bt rfl))).trans ((selT (congrArg (isK 0 [HK.b]) (t31 ph' dl' cy' p' tk' lt'))).trans ((selF (nt (congrArg (fun r => gb (dOf r) 0) (t31 ph' dl' cy' p' tk' lt')))).trans rfl))))
      simp only [iterS, s1]
      exact t8L l hl hw n (i + 1) ph' dl' cy' p' tk' lt' h' (by omega) (by omega) (by omega)
    · have s1 : (fn_L8_10 (.l TCall19 l :: .n i :: (exD ph dl cy p tk lt ++ exD ph dl cy p tk lt))).sel = some (.stop 0 []) := selF (df hlt)
      simp only [iterS, s1]

theorem t27 (l : List (Ty.den TCall19)) (hl : l.length ≤ 9223372036854775807) : ∃ b, op_27 [.l TCall19 l] = some (0, [.b b]) := by
  have k := iterS_ok (st := fn_L27_5) (fun env => ∃ c i : Int, env = [.l TCall19 l, .n c, .n i] ∧ 0 ≤ i ∧ i ≤ l.length) (fun env => (l.length - gn env 2).toNat) (fun k d => (k = 0 ∧ d = []) ∨ (k = 1 ∧ ∃ b, d = [.b b])) (by
    rintro env ⟨c, i, rfl, h0, h1⟩
    by_cases hlt : i < (l.length : Int)
    · have w1 : IntKind.wrap .i64 (i + 1) = i + 1 := w64 (by omega) (by omega)
      by_cases hg : ((List.length (Prod.snd (Prod.snd (List.getD l (Int.toNat i) (Ty.dflt (Ty.pair (Ty.int IntKind.u8) (Ty.pair (Ty.int IntKind.i64) (Ty.sl (Ty.int IntKind.i64)))))))) : Int)) > IntKind.wrap IntKind.i64 ((3000 : Int) - c)
      · exact .inr ⟨1, [.b false], (selT (dt hlt)).trans ((selT (inR_true h0 hlt)).trans (selT (dt hg))), .inr ⟨rfl, _, rfl⟩⟩
      · refine .inl ⟨_, (selT (dt hlt)).trans ((selT (inR_true h0 hlt)).trans (selF (df hg))), ⟨_, IntKind.wrap .i64 (i + 1), rfl, by omega, by omega⟩, ?_⟩
        show ((l.length : Int) - IntKind.wrap .i64 (i + 1)).toNat < ((l.length : Int) - i).toNat
        rw [w1]; omega
    · exact .inr ⟨0, [], selF (df hlt), .inl ⟨rfl, rfl⟩⟩) FU [.l TCall19 l, .n 0, .n 0] ⟨0, 0, rfl, by omega, by omega⟩ (by show ((l.length : Int) - 0).toNat < FU; unfold FU; omega)
  obtain ⟨k, d, e, hk⟩ := k
  by_cases hg : ((List.length l : Nat) : Int) > 300
  · exact ⟨false, selT (dt hg)⟩
  · rcases hk with ⟨rfl, rfl⟩ | ⟨rfl, b, rfl⟩
    · exact ⟨true, (selF (df hg)).trans ((selT (congrArg (isK 0 []) e)).trans rfl)⟩
    · refine ⟨b, (selF (df hg)).trans ((selF (congrArg (isK 0 []) e)).trans ((selT (congrArg (isK 1 [HK.b]) e)).trans ?_))⟩
      exact congrArg (fun r => some (0, [Dat.b (gb (dOf r) 0)])) e
theorem t8 (ph dl cy : Int) (l : List (Ty.den TCall19)) (hl : l.length ≤ 9223372036854775807) (hw : ∀ c ∈ l, (c.2.2 : List (Ty.den (.int .i64))).length ≤ 9223372036854775807) : (fn_W8 [.n ph, .n dl, .n cy, .l TCall19 l]).sel = some true := by
  obtain ⟨b, e⟩ := t27 l hl
  refine (selT (congrArg (isK 0 [HK.b]) e)).trans ?_
  have eb : gb (dOf (op_27 [.l TCall19 l])) 0 = b := congrArg (fun r => gb (dOf r) 0) e
  cases b with
  | false => exact selT (nf eb)
  | true =>
    refine (selF (nt eb)).trans ?_
    by_cases a1 : ph < 1
    · exact selT (dt a1)
    refine (selF (df a1)).trans ?_
    by_cases a2 : ph > 16
    · exact selT (dt a2)
    refine (selF (df a2)).trans ?_
    by_cases a3 : dl < 1
    · exact selT (dt a3)
    refine (selF (df a3)).trans ?_
    by_cases a4 : dl > 1000
    · exact selT (dt a4)
    refine (selF (df a4)).trans ?_
    by_cases a5 : cy < 0
    · exact selT (dt a5)
    refine (selF (df a5)).trans ?_
    by_cases a6 : cy > 1099511627776
    · exact selT (dt a6)
    refine (selF (df a6)).trans ?_
    have t := t31 ph dl cy 0 0 false
    refine (selT (congrArg (isK 0 [HK.b]) t)).trans ((selF (nt (congrArg (fun r => gb (dOf r) 0) t))).trans ?_)
    have k := t8L l hl hw FU 0 ph dl cy 0 0 false (by unfold Ex; simp; omega) (by omega) (by omega) (by unfold FU; omega)
    exact (selT (congrArg (isK 0 []) k)).trans rfl
end Go.Proofs.Ytchedebomjmehaa.Vx
