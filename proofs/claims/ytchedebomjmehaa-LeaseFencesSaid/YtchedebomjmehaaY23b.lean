import Derived.Test.YtchedebomjmehaaY23a
namespace Go.Proofs.Ytchedebomjmehaa.Vx
open Go Go.RowKit
set_option linter.unusedVariables false
set_option linter.unusedSimpArgs false
set_option maxRecDepth 100000
set_option maxHeartbeats 0
theorem bz {a b : Int} (h : a = b) : (a != b) = false := by subst h; simp
theorem bnz {a b : Int} (h : ¬ a = b) : (a != b) = true := by simpa using h
def Hd (e u t : Int) : Bool := decide (e > 0) && decide (t ≤ u - 2)
theorem u50 (a e u t : Int) (h : 0 ≤ u) (h2 : u ≤ 2000) : op_50 [.n a, .n e, .n u, .n t] = some (0, [.b (Hd e u t)]) := by
  have w : IntKind.wrap .i64 (u - 2) = u - 2 := w64 (by omega) (by omega)
  show (fn_50 [.n a, .n e, .n u, .n t]).sel = _
  by_cases q : e > 0
  · refine (selT (dt q)).trans ?_
    rw [w]; unfold Hd; rw [decide_eq_true q]; rfl
  · refine (selF (df q)).trans ?_
    unfold Hd; rw [decide_eq_false q]; rfl
theorem u64t (e h u p : Int) (l : LI) (hl : op_66 [.n MC, .l TI l] = some (0, [.b true])) (hr : Rt e h u) (hp : inM 1 p) : op_64 [.n e, .n h, .n u, .n p, .l TI l] = some (0, [.b true]) := by
  rw [u64_ e h u p l true hl, decide_eq_true ⟨hr, hp⟩]; rfl
theorem in1 {x : Int} (h : 0 ≤ x) (k : x ≤ 2000) : op_66 [.n MC, .l TI (ofI [x])] = some (0, [.b true]) := by
  rw [u66a, decide_eq_true (by unfold inM MC; omega)]
theorem in2 {x y : Int} (h : 0 ≤ x) (k : x ≤ 2000) (h' : 0 ≤ y) (k' : y ≤ 2000) : op_66 [.n MC, .l TI (ofI [x, y])] = some (0, [.b true]) := by
  rw [u66b, decide_eq_true (by unfold inM MC; omega)]
theorem u39 (e h u p now : Int) (hr : Rt e h u) (hp : inM 1 p) (h0 : 0 ≤ now) (h1 : now ≤ 2000) (he : e ≤ 2000) :
    op_39 [.n e, .n h, .n u, .n p, .n now] = if h ≠ -1 ∧ h ≠ p ∧ now ≤ u then some (0, [.n e, .n h, .n u, .n 0, .n 0, .n 231]) else some (0, [.n (e + 1), .n p, .n (now + 8), .n (e + 1), .n (now + 8), .n 0]) := by
  have e1 := u64t e h u p (ofI [now]) (in1 h0 h1) hr hp
  have he0 : 0 ≤ e := hr.1.1
  have w1 : IntKind.wrap .i64 (e + 1) = e + 1 := w64 (by omega) (by omega)
  have w2 : IntKind.wrap .i64 (now + 8) = now + 8 := w64 (by omega) (by omega)
  show (fn_39 [.n e, .n h, .n u, .n p, .n now]).sel = _
  refine (selT (congrArg (isK 0 _) e1)).trans ((selF (congrArg (fun r => !gb (dOf r) 0) e1)).trans ?_)
  have c : (e == (1099511627776 : Int)) = false := beq_false_of_ne (by omega)
  by_cases q1 : h = -1
  · rw [if_neg (by omega)]
    refine (selF (bz q1)).trans ((selF c).trans ?_)
    rw [w1, w2]; rfl
  refine (selT (bnz q1)).trans ?_
  by_cases q2 : h = p
  · rw [if_neg (by omega)]
    refine (selF (bz q2)).trans ((selF c).trans ?_)
    rw [w1, w2]; rfl
  refine (selT (bnz q2)).trans ?_
  by_cases q3 : now ≤ u
  · rw [if_pos ⟨q1, q2, q3⟩]; exact selT (dt q3)
  · rw [if_neg (fun r => q3 r.2.2)]
    refine (selF (df q3)).trans ((selF c).trans ?_)
    rw [w1, w2]; rfl
theorem u45 (e h u p x now : Int) (hr : Rt e h u) (hp : inM 1 p) (h0 : 0 ≤ now) (h1 : now ≤ 2000) (x0 : 0 ≤ x) (x1 : x ≤ e) (he : e ≤ 2000) :
    op_45 [.n e, .n h, .n u, .n p, .n x, .n now] = if x < e then some (0, [.n e, .n h, .n u, .n 0, .n 0, .n 230]) else if h ≠ p ∨ now > u then some (0, [.n e, .n h, .n u, .n 0, .n 0, .n 231]) else some (0, [.n e, .n h, .n (imax u (now + 8)), .n e, .n (imax u (now + 8)), .n 0]) := by
  have e1 := u64t e h u p (ofI [x, now]) (in2 x0 (by omega) h0 h1) hr hp
  have w2 : IntKind.wrap .i64 (now + 8) = now + 8 := w64 (by omega) (by omega)
  show (fn_45 [.n e, .n h, .n u, .n p, .n x, .n now]).sel = _
  refine (selT (congrArg (isK 0 _) e1)).trans ((selF (congrArg (fun r => !gb (dOf r) 0) e1)).trans ?_)
  by_cases q1 : x < e
  · rw [if_pos q1]; exact selT (dt q1)
  rw [if_neg q1]
  refine (selF (df q1)).trans ((selF (bz (by omega))).trans ?_)
  by_cases q2 : h = p
  · refine (selF (bz q2)).trans ?_
    by_cases q3 : now > u
    · rw [if_pos (.inr q3)]; exact selT (dt q3)
    · rw [if_neg (by omega)]
      refine (selF (df q3)).trans ?_
      rw [w2]; rfl
  · rw [if_pos (.inl q2)]; exact selT (bnz q2)
theorem u47 (e h u p x : Int) (hr : Rt e h u) (hp : inM 1 p) (x0 : 0 ≤ x) (x1 : x ≤ e) (he : e ≤ 2000) :
    op_47 [.n e, .n h, .n u, .n p, .n x] = if x < e then some (0, [.n e, .n h, .n u, .n 230]) else if h ≠ p then some (0, [.n e, .n h, .n u, .n 231]) else some (0, [.n e, .n (-1), .n u, .n 0]) := by
  have e1 := u64t e h u p (ofI [x]) (in1 x0 (by omega)) hr hp
  show (fn_47 [.n e, .n h, .n u, .n p, .n x]).sel = _
  refine (selT (congrArg (isK 0 _) e1)).trans ((selF (congrArg (fun r => !gb (dOf r) 0) e1)).trans ?_)
  by_cases q1 : x < e
  · rw [if_pos q1]; exact selT (dt q1)
  rw [if_neg q1]
  refine (selF (df q1)).trans ((selF (bz (by omega))).trans ?_)
  by_cases q2 : h = p
  · rw [if_neg (by omega)]; exact selF (bz q2)
  · rw [if_pos q2]; exact selT (bnz q2)
theorem u51 (a e u ge gu : Int) (h0 : 0 ≤ gu) (h1 : gu ≤ 2000) (g0 : 0 ≤ ge) (g1 : ge ≤ 2000) (h : e ≤ ge) :
    op_51 [.n a, .n e, .n u, .n ge, .n gu] = if ge = e then some (0, [.n a, .n ge, .n (imax gu u), .n 0]) else some (0, [.n a, .n ge, .n gu, .n 0]) := by
  have e1 : op_66 [.n MU, .l TI (ofI [ge, gu])] = some (0, [.b true]) := by
    rw [u66b, decide_eq_true (by unfold inM MU; omega)]
  show (fn_51 [.n a, .n e, .n u, .n ge, .n gu]).sel = _
  refine (selT (congrArg (isK 0 _) e1)).trans ((selF (congrArg (fun r => !gb (dOf r) 0) e1)).trans ((selF (df (by omega))).trans ?_))
  by_cases q : ge = e
  · rw [if_pos q]; exact selT (beq_iff_eq.2 q)
  · rw [if_neg q]; exact selF (beq_false_of_ne q)
theorem fin {o0 o1 : Option (Nat × List Dat)} {b0 b1 c0 c1 c2 c3 : Bool} (e0 : o0 = some (0, [.b b0])) (e1 : o1 = some (0, [.b b1])) (h : (b0 && b1) = false) (h0 : c0 = true) (h1 : c1 = true) (h2 : c2 = true) (h3 : c3 = true) {S x1 x2 x3 x4 x5 x6 : Tree Step} {G : Step} :
    (Tree.node c0 (Tree.node c1 (Tree.node (isK 0 [HK.b] o0) (Tree.node (gb (dOf o0) 0) (Tree.node c2 (Tree.node c3 (Tree.node (isK 0 [HK.b] o1) (Tree.node (gb (dOf o1) 0) S (.leaf G)) x1) x2) x3) (.leaf G)) x4) x5) x6).sel = some G := by
  subst e0 e1 h0 h1 h2 h3
  cases b0 <;> cases b1 <;> first | rfl | cases h
theorem mid {a b : Bool} (ha : a = false) (hb : b = false) {o : Option (Nat × List Dat)} (e : o = some (0, [.b true])) {T s1 s2 s3 x : Tree Step} :
    (Tree.node a s1 (Tree.node b s2 (Tree.node (isK 0 [HK.b] o) (Tree.node (!gb (dOf o) 0) s3 T) x))).sel = T.sel := by
  subst ha hb e; rfl
end Go.Proofs.Ytchedebomjmehaa.Vx
