import Derived.Test.YtfkcodaiiheniaaVxIm
import Derived.Test.YtfkcodaiiheniaaVxLk
import Derived.Test.YtfkcodaiiheniaaVxLaw
import Derived.Test.YtfkcodaiiheniaaZ06m
import Derived.KernelRfl
namespace Go.Proofs.Ytfkcodaiiheniaa.Vx
open Go Go.RowKit
set_option linter.unusedVariables false
set_option linter.unusedSimpArgs false
set_option maxRecDepth 100000
set_option maxHeartbeats 0
@[match_pattern] abbrev TU : Ty := .int .u64
def kLc17_9 (f : OpT) : MBox := mkM 0 [] [(sh 54 [(1, .ptr 0 0), (6, .own 1), (7, .int .i64 0), (23, .int .i64 1), (24, .int .i64 2), (27, .int .i64 3), (28, .int .i64 4)], [laB 5, .arr TU 9])] [] [(.exit 2, sh 54 [(1, .ptr 0 0), (6, .own 1), (7, .int .i64 0), (23, .int .i64 1), (24, .int .i64 2)], [laB 3, .arr TU 7])] f
noncomputable def st_Lc17_9 (env : LDt) : Tree Step := Lk.stepMC false LK cs_Z 17 9 ls0 (kLc17_9 fun _ => none) env
noncomputable def op_Lc17_9 : OpT := Classical.choose (opq (iterS st_Lc17_9 FU))
theorem op_Lc17_9_eq (env : LDt) : op_Lc17_9 env = iterS st_Lc17_9 FU env := Classical.choose_spec (opq (iterS st_Lc17_9 FU)) env
noncomputable def Lc17_9 : MBox := kLc17_9 op_Lc17_9
theorem Lc17_9_eqs : Lc17_9 = kLc17_9 (iterS st_Lc17_9 FU) := congrArg kLc17_9 (funext op_Lc17_9_eq)
theorem Lc17_9_run : ∀ t s x, (manyRun Lc17_9 t s).sel = some x → CodeOk Try.prog 0 (.loop (cAt Try.prog 17 9)) t s x := by
 rw [Lc17_9_eqs]
 exact mkM_ok (st := st_Lc17_9) (m := FU) cs_Z_ok hmix false (LsOk.none _ _ _) (by kernel_rfl) (fun env y h => by rw [← stepMC_lk]; exact h)
noncomputable def fn_Lc17_9_t : LDt → Tree Step
 | [.n n0, .n n1, .n n2, .n n3, .n n4, .l TS l5, .l TPt l6, .l TPt l7, .l TRt l8, .l TU l9] =>
  (.node (decide (n4 < n3))
   (let r1 : OD := (op_cl [.l TS l5, .l TPt l6, .l TPt l7, .l TRt l8, .n n0, .n n4]);
   (.node (isK 0 [HK.b] r1)
    (.node (gb (dOf r1) 0)
    (.node (inR n0 (List.length l9))
     (.node (inR n4 (List.length (List.set l9 (Int.toNat n0) (ior IntKind.u64 (List.getD l9 (Int.toNat n0) (0 : Int)) (ishl IntKind.u64 (1 : Int) n4)))))
     (.leaf (Step.go [.k 0, .n n0, .n n1, .n n2, .n n3, .n (IntKind.wrap .i64 (n4 + (1 : Int))), .l TS l5, .l TPt l6, .l TPt l7, .l TRt l8, .l TU (List.set (List.set l9 (Int.toNat n0) (ior IntKind.u64 (List.getD l9 (Int.toNat n0) (0 : Int)) (ishl IntKind.u64 (1 : Int) n4))) (Int.toNat n4) (ior IntKind.u64 (List.getD (List.set l9 (Int.toNat n0) (ior IntKind.u64 (List.getD l9 (Int.toNat n0) (0 : Int)) (ishl IntKind.u64 (1 : Int) n4))) (Int.toNat n4) (0 : Int)) (ishl IntKind.u64 (1 : Int) n0)))]))
     (.bad 12))
     (.bad 12))
    (.leaf (Step.go [.k 0, .n n0, .n n1, .n n2, .n n3, .n (IntKind.wrap .i64 (n4 + (1 : Int))), .l TS l5, .l TPt l6, .l TPt l7, .l TRt l8, .l TU l9])))
    (.bad 351)))
   (.leaf (Step.stop 0 [.n n0, .n n1, .n n2, .l TS l5, .l TPt l6, .l TPt l7, .l TRt l8, .l TU l9])))
 | _ => .bad 0
theorem fn_Lc17_9_t_im (n0 : Int) (n1 : Int) (n2 : Int) (n3 : Int) (n4 : Int) (l5 : DS) (l6 : DP) (l7 : DP) (l8 : DR) (l9 : List (Ty.den TU)) (g0 : 0 ≤ n0) (g1 :  0 ≤ n4) (g2 :  n0 ≤ (l9.length : Int)) (g3 :  n3 = n0) : Imp (fn_Lc17_9_t [.n n0, .n n1, .n n2, .n n3, .n n4, .l TS l5, .l TPt l6, .l TPt l7, .l TRt l8, .l TU l9]) (st_Lc17_9 [.k 0, .n n0, .n n1, .n n2, .n n3, .n n4, .l TS l5, .l TPt l6, .l TPt l7, .l TRt l8, .l TU l9]) :=
(.pa [1]
(.nd (fun h0 =>
(.nd (fun h1 =>
(.pa [1]
(.nd (fun h2 =>
(.nd (fun h3 =>
(.pt (c := (!decide (n4 < (0 : Int)))) (by kernel_rfl) (by kernel_rfl) (by (simp [*]; done))
(.pt (by kernel_rfl) (by kernel_rfl) h3
(.pa [1]
(.nd (fun h4 =>
(.pt (c := (!decide (n0 < (0 : Int)))) (by kernel_rfl) (by kernel_rfl) (by (simp [*]; done))
(.pt (by kernel_rfl) (by kernel_rfl) h4
(.pa [1,1]
.lf)))) (fun h4 =>
.none)))))) (fun h3 =>
.none))) (fun h2 =>
(.pa [1]
.lf))))) (fun h1 =>
.none))) (fun h0 =>
(.pa [1]
.lf))))
def kLc17_6 (f : OpT) : MBox := mkM 0 [] [(sh 54 [(1, .ptr 0 0), (6, .own 1), (23, .int .i64 0), (24, .int .i64 1)], [laB 2, .arr TU 6])] [] [(.exit 0, sh 54 [(6, .own 0)], [.arr TU 0])] f
noncomputable def st_Lc17_6 (env : LDt) : Tree Step := Lk.stepMC false LK cs_Z 17 6 (lsM [(9, Lc17_9)] 0) (kLc17_6 fun _ => none) env
noncomputable def op_Lc17_6 : OpT := Classical.choose (opq (iterS st_Lc17_6 FU))
theorem op_Lc17_6_eq (env : LDt) : op_Lc17_6 env = iterS st_Lc17_6 FU env := Classical.choose_spec (opq (iterS st_Lc17_6 FU)) env
noncomputable def Lc17_6 : MBox := kLc17_6 op_Lc17_6
theorem Lc17_6_eqs : Lc17_6 = kLc17_6 (iterS st_Lc17_6 FU) := congrArg kLc17_6 (funext op_Lc17_6_eq)
theorem Lc17_6_in : LsOk Try.prog 0 (lsM [(9, Lc17_9)] 0) (cAt Try.prog 17 6) := LsOk.many fun j B hB hk c hc hi => by
 simp only [lookM] at hB
 split at hB
 ·rename_i e; have := Nat.eq_of_beq_eq_true e; subst this; cases hB
  have e1 : loopsAt (cAt Try.prog 17 6) 9 = [cAt Try.prog 17 9] := by kernel_rfl
  have e2 := loopsAt_mem hc hi
  rw [e1] at e2; cases List.mem_singleton.1 e2; exact Lc17_9_run
 cases hB
theorem Lc17_6_run : ∀ t s x, (manyRun Lc17_6 t s).sel = some x → CodeOk Try.prog 0 (.loop (cAt Try.prog 17 6)) t s x := by
 rw [Lc17_6_eqs]
 exact mkM_ok (st := st_Lc17_6) (m := FU) cs_Z_ok hmix false (Lc17_6_in) (by kernel_rfl) (fun env y h => by rw [← stepMC_lk]; exact h)
noncomputable def fn_Lc17_6_t : LDt → Tree Step
 | [.n n0, .n n1, .l TS l2, .l TPt l3, .l TPt l4, .l TRt l5, .l TU l6] =>
  (.node (decide (n1 < n0))
   (let r1 : OD := (op_Lc17_9 [.k 0, .n n1, .n n0, .n n1, .n n1, .n (0 : Int), .l TS l2, .l TPt l3, .l TPt l4, .l TRt l5, .l TU l6]);
   (.node (isK 0 [HK.n, HK.n, HK.n, HK.l Ty.str, HK.l TPt, HK.l TPt, HK.l TRt, HK.l TU] r1)
    (.leaf (Step.go [.k 0, .n (gn (dOf r1) 1), .n (IntKind.wrap .i64 (gn (dOf r1) 2 + (1 : Int))), .l TS (gl Ty.str (dOf r1) 3), .l TPt (gl TPt (dOf r1) 4), .l TPt (gl TPt (dOf r1) 5), .l TRt (gl TRt (dOf r1) 6), .l TU (gl TU (dOf r1) 7)]))
    (.bad 351)))
   (.leaf (Step.stop 0 [.l TU l6])))
 | _ => .bad 0
theorem fn_Lc17_6_t_im (n0 : Int) (n1 : Int) (l2 : DS) (l3 : DP) (l4 : DP) (l5 : DR) (l6 : List (Ty.den TU)) (g0 : 0 ≤ n1) (g1 :  n0 = (l5.length : Int)) (g2 :  n0 = (l6.length : Int)) : Imp (fn_Lc17_6_t [.n n0, .n n1, .l TS l2, .l TPt l3, .l TPt l4, .l TRt l5, .l TU l6]) (st_Lc17_6 [.k 0, .n n0, .n n1, .l TS l2, .l TPt l3, .l TPt l4, .l TRt l5, .l TU l6]) :=
(.pa [1]
(.nd (fun h0 =>
(.nd (fun h1 =>
(.pa [1]
.lf)) (fun h1 =>
.none))) (fun h0 =>
(.pa [1]
.lf))))
theorem ls_c17_ok : LsOk Try.prog (z0) (lsM [(6, Lc17_6)] (z0)) (bodyOf Try.prog 17) := LsOk.many fun j B hB hk c hc hi => by
 simp only [lookM] at hB
 split at hB
 ·rename_i e; have := Nat.eq_of_beq_eq_true e; subst this; cases hB
  rw [onlyC (f := 17) (i := 6) (loopAt_one (by kernel_rfl)) (loopsAt_mem hc hi)]; exact Lc17_6_run
 cases hB
def kc17 (f : OpT) : FBox := mkF [laV 0] [] [] [(.tup [.own 0, .int .i64 0], [.arr TU 1]), (.tup [.nilsl, .int .i64 0], [])] f
noncomputable def ev_c17 (env : LDt) : TD := Lk.boxC false LK cs_Z 17 (lsM [(6, Lc17_6)] (z0)) (kc17 fun _ => none) env
noncomputable def op_c17 : OpT := Classical.choose (opq (fun env => (ev_c17 env).sel))
theorem op_c17_eq (env : LDt) : op_c17 env = (ev_c17 env).sel := Classical.choose_spec (opq (fun env => (ev_c17 env).sel)) env
noncomputable def Bc17 : FBox := kc17 op_c17
theorem Bc17_ok : RunOk Try.prog 17 (boxRun Bc17) := mkF_ok (op := op_c17) cs_Z_ok hmix false (ls_c17_ok) (fun env x h => by rw [op_c17_eq] at h; rw [← boxC_lk]; exact h)
noncomputable def fn_c17_t : LDt → TD
 | [.l TS l0, .l TPt l1, .l TPt l2, .l TRt l3] =>
  (let r1 : OD := (op_18 [.l TS l0, .l TPt l1, .l TPt l2, .l TRt l3]);
   (.node (isK 0 [HK.n, HK.n] r1)
   (.node (gn (dOf r1) 0 != (0 : Int))
    (.leaf ((1, [.n (gn (dOf r1) 0)])))
    (.node (true && decide ((↑(List.length l3) : Int) ≤ (↑(List.length l3) : Int)) && decide ((↑(List.length l3) : Int) * (8 : Int) ≤ (281474976710656 : Int)))
    (let r2 : OD := (op_Lc17_6
 [.k 0, .n (↑(List.length l3) : Int), .n (0 : Int), .l TS l0, .l TPt l1, .l TPt l2, .l TRt l3,
  .l TU
   (repC (α := Ty.den TU) (Int.toNat (↑(List.length l3) : Int)) (0 : Int))]);
     (.node (isK 0 [HK.l TU] r2)
     (.leaf ((0, [.n (0 : Int), .l TU (gl TU (dOf r2) 0)])))
     (.bad 351)))
    (.bad 50)))
   (.bad 351)))
 | _ => .bad 0
theorem fn_c17_t_im (l0 : DS) (l1 : DP) (l2 : DP) (l3 : DR) : Imp (fn_c17_t [.l TS l0, .l TPt l1, .l TPt l2, .l TRt l3]) (ev_c17 [.l TS l0, .l TPt l1, .l TPt l2, .l TRt l3]) :=
(.nd (fun h0 =>
(.pa [1]
(.nd (fun h1 =>
(.pa [1]
.lf)) (fun h1 =>
(.nd (fun h2 =>
(.nd (fun h3 =>
(.pa [1]
.lf)) (fun h3 =>
.none))) (fun h2 =>
.none)))))) (fun h0 =>
.none))
noncomputable def cs_c17 : FuncId → Option CSpec := csLend 17 Bc17 cs_Z
theorem cs_c17_ok : CsOk Try.prog cs_c17 := csLend_ok cs_Z_ok Bc17_ok
def kc20 (f : OpT) : FBox := mkF [laV 0, .int .i64 4, .int .i64 5] [] [] [(.bool 0, [])] f
noncomputable def ev_c20 (env : LDt) : TD := Lk.boxC false LK cs_c17 20 ls0 (kc20 fun _ => none) env
noncomputable def op_c20 : OpT := Classical.choose (opq (fun env => (ev_c20 env).sel))
theorem op_c20_eq (env : LDt) : op_c20 env = (ev_c20 env).sel := Classical.choose_spec (opq (fun env => (ev_c20 env).sel)) env
noncomputable def Bc20 : FBox := kc20 op_c20
theorem Bc20_ok : RunOk Try.prog 20 (boxRun Bc20) := mkF_ok (op := op_c20) cs_c17_ok hmix false (LsOk.none _ _ _) (fun env x h => by rw [op_c20_eq] at h; rw [← boxC_lk]; exact h)
noncomputable def cs_c20 : FuncId → Option CSpec := csLend 20 Bc20 cs_c17
theorem cs_c20_ok : CsOk Try.prog cs_c20 := csLend_ok cs_c17_ok Bc20_ok
end Go.Proofs.Ytfkcodaiiheniaa.Vx
namespace Go.Proofs.Ytfkcodaiiheniaa.Vx
open Go Go.RowKit
set_option linter.unusedVariables false
set_option linter.unusedSimpArgs false
set_option maxRecDepth 100000
set_option maxHeartbeats 1000000
theorem inR_t {i : Int} {n : Nat} (h0 : 0 ≤ i) (h1 : i < (n : Int)) : inR i n = true := inR_iff.2 ⟨h0, h1⟩
theorem rtG_of {b c : LP} {e : Rt} (h : rtOk b c e) : rtG b e = true := by
 obtain ⟨_, ⟨h1, h2, h3, h4⟩, h5, h6⟩ := h
 unfold rtG
 rw [dt h1, dt h2, dt h3, dt h4]
 simp only [Bool.true_and, List.all_eq_true]
 intro d hd
 rcases List.mem_append.1 (show d ∈ eQ e ++ eF e from hd) with hd | hd
 ·exact inR_iff.2 (h5 d hd)
 ·exact inR_iff.2 (h6 d hd)
theorem oCl (a : LS) (b c : LP) (r : LR) (i j : Int) (hm : mayL a b c r = true) (hi : 0 ≤ i ∧ i < (r.length : Int)) (hj : 0 ≤ j ∧ j < (r.length : Int)) :
  op_cl [.l TS a, .l TPt b, .l TPt c, .l TRt r, .n i, .n j] = some (0, [.b (clF b r i j)]) := by
 rw [op_cl_eq]
 obtain ⟨_, _, hr⟩ := may_rt hm
 have h1 : okC b r i j = true := by
  unfold okC
  rw [inR_t hi.1 hi.2, inR_t hj.1 hj.2]
  have g1 : rtG b (rAt r i) = true := rtG_of (hr i.toNat (by omega))
  have g2 : rtG b (rAt r j) = true := rtG_of (hr j.toNat (by omega))
  rw [g1, g2]; rfl
 show (match castL TS TS a, castL TPt TPt b, castL TPt TPt c, castL TRt TRt r with | some a, some b, some c, some r => bif okC b r i j then some (0, [Dat.b (clF b r i j)]) else none | _, _, _, _ => none) = _
 simp only [castL_self, h1]
 rfl
end Go.Proofs.Ytfkcodaiiheniaa.Vx
namespace Go.Proofs.Ytfkcodaiiheniaa.Vx
open Go Go.RowKit
set_option linter.unusedVariables false
set_option linter.unusedSimpArgs false
set_option maxRecDepth 100000
set_option maxHeartbeats 1000000
abbrev B64 := BitVec 64
def pw2 (k : Nat) : B64 := 1#64 <<< k
theorem iandB (X : B64) (k : Nat) : (iand IntKind.u64 (ishr IntKind.u64 (N X) (k : Int)) (1 : Int) == (1 : Int)) = X.getLsbD k := by
 rw [ishr_u64, show (1 : Int) = N (1#64) from rfl, iand_u64, N_beq, Bool.eq_iff_iff, beq_iff_eq]
 constructor
 ·intro h
  have := congrArg (fun y => y.getLsbD 0) h
  simp at this
  simpa [BitVec.getLsbD_eq_getElem] using this
 ·intro h
  apply BitVec.eq_of_getLsbD_eq
  intro i hi
  rw [BitVec.getLsbD_and, BitVec.getLsbD_ushiftRight]
  by_cases h0 : i = 0
  ·subst h0; simp [h]
  ·simp [h0]
theorem ishlB (k : Nat) : ishl IntKind.u64 (1 : Int) (k : Int) = N (pw2 k) := by
 rw [show (1 : Int) = N (1#64) from rfl, ishl_u64]; rfl
abbrev LB64 := List B64
def NL (T : LB64) : List Int := T.map N
theorem NL_len (T : LB64) : (NL T).length = T.length := List.length_map ..
theorem NL_at (T : LB64) (x : Nat) : (NL T).getD x 0 = N (T.getD x 0#64) := by
 unfold NL
 rw [List.getD_eq_getElem?_getD, List.getD_eq_getElem?_getD, List.getElem?_map]
 cases T[x]? <;> rfl
theorem NL_set (T : LB64) (x : Nat) (v : B64) : (NL T).set x (N v) = NL (T.set x v) := by
 unfold NL; rw [List.map_set]
def orB (T : LB64) (x k : Nat) : LB64 := T.set x (T.getD x 0#64 ||| pw2 k)
theorem orB_len (T : LB64) (x k : Nat) : (orB T x k).length = T.length := List.length_set ..
def orII (T : LB64) (i k : Nat) : LB64 := orB (orB T i k) k i
def rowK (cl : Nat → Nat → Bool) (i : Nat) : Nat → LB64 → LB64
 | 0, T => T
 | k + 1, T => bif cl i k then orII (rowK cl i k T) i k else rowK cl i k T
def tabI (cl : Nat → Nat → Bool) (m : Nat) : Nat → LB64
 | 0 => List.replicate m 0#64
 | i + 1 => rowK cl i i (tabI cl m i)
theorem orII_len (T : LB64) (i k : Nat) : (orII T i k).length = T.length := by unfold orII; rw [orB_len, orB_len]
theorem rowK_len (cl : Nat → Nat → Bool) (i : Nat) (T : LB64) : ∀ k, (rowK cl i k T).length = T.length
 | 0 => rfl
 | k + 1 => by
  unfold rowK
  cases cl i k with
  | true => rw [cond_true, orII_len]; exact rowK_len cl i T k
  | false => exact rowK_len cl i T k
theorem tabI_len (cl : Nat → Nat → Bool) (m : Nat) : ∀ i, (tabI cl m i).length = m
 | 0 => List.length_replicate ..
 | i + 1 => by unfold tabI; rw [rowK_len]; exact tabI_len cl m i
def clN (b : LP) (r : LR) (i k : Nat) : Bool := clF b r (i : Int) (k : Int)
def tabB (b : LP) (r : LR) : LB64 := tabI (clN b r) r.length r.length
end Go.Proofs.Ytfkcodaiiheniaa.Vx
namespace Go.Proofs.Ytfkcodaiiheniaa.Vx
open Go Go.RowKit
set_option linter.unusedVariables false
set_option linter.unusedSimpArgs false
set_option maxRecDepth 100000
set_option maxHeartbeats 1000000
theorem NL_orB (T : LB64) (x k : Nat) : (NL T).set x (ior IntKind.u64 ((NL T).getD x 0) (ishl IntKind.u64 (1 : Int) (k : Int))) = NL (orB T x k) := by
 rw [NL_at, ishlB, ior_u64, NL_set]; rfl
theorem lp17_9 (a : LS) (b c : LP) (r : LR) (i : Nat) (T : LB64) (hm : mayL a b c r = true) (hi : i < r.length) (hT : T.length = r.length) :
  op_Lc17_9 [.k 0, .n (i : Int), .n (r.length : Int), .n (i : Int), .n (i : Int), .n (0 : Int), .l TS a, .l TPt b, .l TPt c, .l TRt r, .l TU (NL T)] = some (0, [.n (i : Int), .n (r.length : Int), .n (i : Int), .l TS a, .l TPt b, .l TPt c, .l TRt r, .l TU (NL (rowK (clN b r) i i T))]) := by
 have lr := (may_rt hm).2.1
 rw [op_Lc17_9_eq]
 have ln : ∀ k, (NL (rowK (clN b r) i k T)).length = r.length := fun k => by rw [NL_len, rowK_len, hT]
 refine iter_count (st := st_Lc17_9) (fun k => [.k 0, .n (i : Int), .n (r.length : Int), .n (i : Int), .n (i : Int), .n (k : Int), .l TS a, .l TPt b, .l TPt c, .l TRt r, .l TU (NL (rowK (clN b r) i k T))]) i (0, [.n (i : Int), .n (r.length : Int), .n (i : Int), .l TS a, .l TPt b, .l TPt c, .l TRt r, .l TU (NL (rowK (clN b r) i i T))]) (fun k hk => ?_) ?_ FU (by unfold FU; omega)
 ·have h0 := ln k
  refine fn_Lc17_9_t_im _ _ _ _ _ _ _ _ _ _ (by omega) (by omega) (show (i : Int) ≤ ((NL (rowK (clN b r) i k T)).length : Int) by omega) rfl _ ?_
  unfold fn_Lc17_9_t
  refine sel_t (dt (show (k : Int) < (i : Int) by omega)) ?_
  have e := oCl a b c r (i : Int) (k : Int) hm ⟨by omega, by omega⟩ ⟨by omega, by omega⟩
  dsimp only
  erw [e]
  refine sel_t rfl ?_
  show _ = some (Step.go [.k 0, .n (i : Int), .n (r.length : Int), .n (i : Int), .n (i : Int), .n ((k + 1 : Nat) : Int), .l TS a, .l TPt b, .l TPt c, .l TRt r, .l TU (NL (bif clN b r i k then orII (rowK (clN b r) i k T) i k else rowK (clN b r) i k T))])
  cases hc : clN b r i k with
  | true =>
   refine sel_t hc (sel_t (inR_t (by omega) (show (i : Int) < ((NL (rowK (clN b r) i k T)).length : Int) by omega)) (sel_t (inR_t (by omega) ?_) ?_))
   ·show (k : Int) < (((NL (rowK (clN b r) i k T)).set i (ior IntKind.u64 ((NL (rowK (clN b r) i k T)).getD i 0) (ishl IntKind.u64 (1 : Int) (k : Int)))).length : Int)
    rw [List.length_set]; omega
   ·rw [w1n k (by omega)]
    have g1 := NL_orB (rowK (clN b r) i k T) i k
    have g2 := NL_orB (orB (rowK (clN b r) i k T) i k) k i
    rw [← g1] at g2
    exact congrArg (fun z : List Int => some (Step.go [.k 0, .n (i : Int), .n (r.length : Int), .n (i : Int), .n (i : Int), .n ((k + 1 : Nat) : Int), .l TS a, .l TPt b, .l TPt c, .l TRt r, .l TU z])) g2
  | false =>
   refine sel_f hc ?_
   rw [w1n k (by omega)]; rfl
 ·have h0 := ln i
  refine fn_Lc17_9_t_im _ _ _ _ _ _ _ _ _ _ (by omega) (by omega) (show (i : Int) ≤ ((NL (rowK (clN b r) i i T)).length : Int) by omega) rfl _ ?_
  unfold fn_Lc17_9_t
  exact sel_f (df (show ¬ (i : Int) < (i : Int) by omega)) rfl
theorem lp17_6 (a : LS) (b c : LP) (r : LR) (hm : mayL a b c r = true) : op_Lc17_6 [.k 0, .n (r.length : Int), .n (0 : Int), .l TS a, .l TPt b, .l TPt c, .l TRt r, .l TU (NL (List.replicate r.length 0#64))] = some (0, [.l TU (NL (tabB b r))]) := by
 have lr := (may_rt hm).2.1
 rw [op_Lc17_6_eq]
 refine iter_count (st := st_Lc17_6) (fun i => [.k 0, .n (r.length : Int), .n (i : Int), .l TS a, .l TPt b, .l TPt c, .l TRt r, .l TU (NL (tabI (clN b r) r.length i))]) r.length (0, [.l TU (NL (tabB b r))]) (fun i hi => ?_) ?_ FU (by unfold FU; omega)
 ·have h0 : (NL (tabI (clN b r) r.length i)).length = r.length := by rw [NL_len, tabI_len]
  refine fn_Lc17_6_t_im _ _ _ _ _ _ _ (by omega) rfl (show (r.length : Int) = ((NL (tabI (clN b r) r.length i)).length : Int) by omega) _ ?_
  unfold fn_Lc17_6_t
  refine sel_t (dt (show (i : Int) < (r.length : Int) by omega)) ?_
  have e := lp17_9 a b c r i (tabI (clN b r) r.length i) hm hi (tabI_len ..)
  dsimp only
  erw [e]
  refine sel_t rfl ?_
  show some (Step.go [.k 0, .n (r.length : Int), .n (IntKind.wrap .i64 ((i : Int) + 1)), .l TS a, .l TPt b, .l TPt c, .l TRt r, .l TU (NL (tabI (clN b r) r.length (i + 1)))]) = _
  rw [w1n i (by omega)]
 ·have h0 : (NL (tabI (clN b r) r.length r.length)).length = r.length := by rw [NL_len, tabI_len]
  refine fn_Lc17_6_t_im _ _ _ _ _ _ _ (by omega) rfl (show (r.length : Int) = ((NL (tabI (clN b r) r.length r.length)).length : Int) by omega) _ ?_
  unfold fn_Lc17_6_t
  exact sel_f (df (show ¬ (r.length : Int) < (r.length : Int) by omega)) rfl
theorem o17c (a : LS) (b c : LP) (r : LR) (hs : okS a b c r) : op_c17 [.l TS a, .l TPt b, .l TPt c, .l TRt r] = some (if (ckA a b c r).1 = 0 then (0, [.n (0 : Int), .l TU (NL (tabB b r))]) else (1, [.n (ckA a b c r).1])) := by
 rw [op_c17_eq]
 refine fn_c17_t_im _ _ _ _ _ ?_
 unfold fn_c17_t
 dsimp only
 erw [o18 a b c r hs]
 refine sel_t rfl ?_
 by_cases hc : (ckA a b c r).1 = 0
 ·rw [if_pos hc]
  refine sel_f (nbf hc) ?_
  obtain ⟨hm, _⟩ := (ck_ok a b c r).1 hc
  have lr := (may_rt hm).2.1
  refine sel_t ?_ ?_
  ·rw [dt (show (r.length : Int) ≤ (r.length : Int) by omega), dt (show (r.length : Int) * 8 ≤ 281474976710656 by omega)]; rfl
  ·have e := lp17_6 a b c r hm
   have e0 : NL (List.replicate r.length 0#64) = repC (α := Ty.den TU) (Int.toNat (r.length : Int)) (0 : Int) := by
    have g0 : NL (List.replicate r.length 0#64) = List.replicate r.length (0 : Int) := by unfold NL; rw [List.map_replicate]; rfl
    exact g0.trans (repC_eq (α := Int) r.length 0).symm
   rw [e0] at e
   erw [e]
   exact sel_t rfl rfl
 ·rw [if_neg hc]
  exact sel_t (nb hc) rfl
end Go.Proofs.Ytfkcodaiiheniaa.Vx
