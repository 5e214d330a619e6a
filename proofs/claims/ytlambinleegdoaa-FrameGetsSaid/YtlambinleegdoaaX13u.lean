import Derived.Test.YtlambinleegdoaaVxNil
import Derived.Test.YtlambinleegdoaaProg
import Derived.KernelRfl
import Derived.Test.YtlambinleegdoaaVxIm
import Derived.Test.YtlambinleegdoaaVxLk
import Derived.Test.YtlambinleegdoaaVxLaw
namespace Go.Proofs.Ytlambinleegdoaa.Vx
open Go Go.RowKit
set_option linter.unusedVariables false
set_option linter.unusedSimpArgs false
set_option maxRecDepth 100000
set_option maxHeartbeats 0

abbrev TB : Ty := .int .u8
abbrev TN : Ty := .int .u32
theorem hmix : Try.prog.follows .mixedOrders = true := by kernel_rfl
theorem csNone_ok0 : CsOk Try.prog csNone := csNone_ok _

def fn_19 : List Dat → Tree (Nat × List Dat)
  | [.n n0] =>
    (.node (iand IntKind.u32 n0 (1 : Int) == (0 : Int))
     (.leaf ((0, [.n (ishr IntKind.u32 n0 (1 : Int))])))
     (.leaf ((0, [.n (ixor IntKind.u32 (ishr IntKind.u32 n0 (1 : Int)) (3988292384 : Int))]))))
  | _ => .bad 0
def op_19 : List Dat → Option (Nat × List Dat) := fun env => (fn_19 env).sel
def B19 : FBox := (mkF [.int .u32 0] [] [] [(.int .u32 0, [])] op_19)
def cs_19 : FuncId → Option CSpec := csLend 98 B19 csNone
theorem fn_19_eq (n0 : Int) : (boxC false Try.prog csNone 98 ls0 (mkF [.int .u32 0] [] [] [(.int .u32 0, [])] fun _ => none) [.n n0]).sel = (fn_19 [.n n0]).sel := by kernel_rfl
theorem fn_19_ok (env : List Dat) (y : Nat × List Dat) (h : (fn_19 env).sel = some y) : (boxC false Try.prog csNone 98 ls0 (mkF [.int .u32 0] [] [] [(.int .u32 0, [])] fun _ => none) env).sel = some y := by
  unfold fn_19 at h
  split at h
  · rw [fn_19_eq]; exact h
  · cases h
theorem B19_ok : RunOk Try.prog 98 (boxRun B19) := mkF_ok (op := op_19) csNone_ok0 hmix false (LsOk.none _ _ _) fn_19_ok
theorem cs_19_ok : CsOk Try.prog cs_19 := csLend_ok csNone_ok0 B19_ok

def fn_L12_3 : List Dat → Tree Step
  | [.n n0, .l (Ty.int IntKind.u8) l1, .n n2, .n n3] =>
    (.node (decide (n3 < n2))
     (.node (inR n3 (List.length l1))
      (let r1 : Option (Nat × List Dat) := (op_19 [.n (ixor IntKind.u32 n0 (IntKind.wrap .u32 (List.getD l1 (Int.toNat n3) (0 : Int))))]);
       (.node (isK 0 [HK.n] r1)
        (let r2 : Option (Nat × List Dat) := (op_19 [.n (gn (dOf r1) 0)]);
         (.node (isK 0 [HK.n] r2)
          (let r3 : Option (Nat × List Dat) := (op_19 [.n (gn (dOf r2) 0)]);
           (.node (isK 0 [HK.n] r3)
            (let r4 : Option (Nat × List Dat) := (op_19 [.n (gn (dOf r3) 0)]);
             (.node (isK 0 [HK.n] r4)
              (let r5 : Option (Nat × List Dat) := (op_19 [.n (gn (dOf r4) 0)]);
               (.node (isK 0 [HK.n] r5)
                (let r6 : Option (Nat × List Dat) := (op_19 [.n (gn (dOf r5) 0)]);
                 (.node (isK 0 [HK.n] r6)
                  (let r7 : Option (Nat × List Dat) := (op_19 [.n (gn (dOf r6) 0)]);
                   (.node (isK 0 [HK.n] r7)
                    (let r8 : Option (Nat × List Dat) := (op_19 [.n (gn (dOf r7) 0)]);
                     (.node (isK 0 [HK.n] r8)
                      (.leaf (Step.go [.n (gn (dOf r8) 0), .l (Ty.int IntKind.u8) l1, .n n2, .n (IntKind.wrap .i64 (n3 + (1 : Int)))]))
                      (.bad 351)))
                    (.bad 351)))
                  (.bad 351)))
                (.bad 351)))
              (.bad 351)))
            (.bad 351)))
          (.bad 351)))
        (.bad 351)))
      (.bad 10))
     (.leaf (Step.stop 0 [.n n0])))
  | _ => .bad 0
def op_L12_3 : List Dat → Option (Nat × List Dat) := iterS fn_L12_3 FU
def L12_3 : LBox := (mkL 0 [] (sh 20 [(3, .int .u32 0), (6, .imm TB 1), (7, .int .i64 2), (8, .int .i64 3)]) [] [] [(.exit 0, sh 20 [(3, .int .u32 0)], [])] op_L12_3)
theorem fn_L12_3_eq (n0 : Int) (l1 : List (Ty.den (Ty.int IntKind.u8))) (n2 : Int) (n3 : Int) : (stepC false Try.prog cs_19 86 3 ls0 (mkL 0 [] (sh 20 [(3, .int .u32 0), (6, .imm TB 1), (7, .int .i64 2), (8, .int .i64 3)]) [] [] [(.exit 0, sh 20 [(3, .int .u32 0)], [])] fun _ => none) [.n n0, .l (Ty.int IntKind.u8) l1, .n n2, .n n3]).sel = (fn_L12_3 [.n n0, .l (Ty.int IntKind.u8) l1, .n n2, .n n3]).sel := by kernel_rfl
theorem fn_L12_3_ok (env : List Dat) (y : Step) (h : (fn_L12_3 env).sel = some y) : (stepC false Try.prog cs_19 86 3 ls0 (mkL 0 [] (sh 20 [(3, .int .u32 0), (6, .imm TB 1), (7, .int .i64 2), (8, .int .i64 3)]) [] [] [(.exit 0, sh 20 [(3, .int .u32 0)], [])] fun _ => none) env).sel = some y := by
  unfold fn_L12_3 at h
  split at h
  · rw [fn_L12_3_eq]; exact h
  · cases h
theorem L12_3_ok (K : Nat) : LsOk Try.prog K (lsTab [(3, L12_3)] K) (bodyOf Try.prog 86) := mkL_ok (st := fn_L12_3) (m := FU) cs_19_ok hmix false (by kernel_rfl) (by kernel_rfl) fn_L12_3_ok
theorem L12_3_run : ∀ t s x, (loopRun L12_3 t s).sel = some x → CodeOk Try.prog 0 (.loop (cAt Try.prog 86 3)) t s x := mkLs_ok (st := fn_L12_3) (m := FU) cs_19_ok hmix false (LsOk.none _ _ _) (by kernel_rfl) fn_L12_3_ok

def fn_12 : List Dat → Tree (Nat × List Dat)
  | [.l (Ty.int IntKind.u8) l0] =>
    (let r1 : Option (Nat × List Dat) := (op_L12_3 [.n (4294967295 : Int), .l (Ty.int IntKind.u8) l0, .n (↑(List.length l0) : Int), .n (0 : Int)]);
     (.node (isK 0 [HK.n] r1)
      (.leaf ((0, [.n (ixor IntKind.u32 (4294967295 : Int) (gn (dOf r1) 0))])))
      (.bad 351)))
  | _ => .bad 0
def op_12 : List Dat → Option (Nat × List Dat) := fun env => (fn_12 env).sel
def B12 : FBox := (mkF [.imm TB 0] [] [] [(.int .u32 0, [])] op_12)
def cs_12 : FuncId → Option CSpec := csLend 86 B12 cs_19
theorem fn_12_eq (l0 : List (Ty.den (Ty.int IntKind.u8))) : (boxC false Try.prog cs_19 86 (lsTab [(3, L12_3)] (List.length ([] : List PB))) (mkF [.imm TB 0] [] [] [(.int .u32 0, [])] fun _ => none) [.l (Ty.int IntKind.u8) l0]).sel = (fn_12 [.l (Ty.int IntKind.u8) l0]).sel := by kernel_rfl
theorem fn_12_ok (env : List Dat) (y : Nat × List Dat) (h : (fn_12 env).sel = some y) : (boxC false Try.prog cs_19 86 (lsTab [(3, L12_3)] (List.length ([] : List PB))) (mkF [.imm TB 0] [] [] [(.int .u32 0, [])] fun _ => none) env).sel = some y := by
  unfold fn_12 at h
  split at h
  · rw [fn_12_eq]; exact h
  · cases h
theorem B12_ok : RunOk Try.prog 86 (boxRun B12) := mkF_ok (op := op_12) cs_19_ok hmix false (L12_3_ok _) fn_12_ok
theorem cs_12_ok : CsOk Try.prog cs_12 := csLend_ok cs_19_ok B12_ok

def fn_L20_8_0 : List Dat → Tree Step
  | [.n n0, .l (Ty.int IntKind.u8) l1, .n n2, .n n3, .n n4, .l (Ty.int IntKind.u32) l5] =>
    (.node (decide (n4 < (8 : Int)))
     (.node (!decide (n4 < (0 : Int)))
      (.node (iand IntKind.u8 (ishr IntKind.u8 n3 n4) (1 : Int) == (1 : Int))
       (.node (inR n4 (List.length l5))
        (.leaf (Step.go [.k 0, .n (ixor IntKind.u32 n0 (List.getD l5 (Int.toNat n4) (0 : Int))), .l (Ty.int IntKind.u8) l1, .n n2, .n n3, .n (IntKind.wrap .i64 (n4 + (1 : Int))), .l (Ty.int IntKind.u32) l5]))
        (.bad 12))
       (.leaf (Step.go [.k 0, .n n0, .l (Ty.int IntKind.u8) l1, .n n2, .n n3, .n (IntKind.wrap .i64 (n4 + (1 : Int))), .l (Ty.int IntKind.u32) l5])))
      (.bad 83))
     (.leaf (Step.stop 0 [.n n0, .l (Ty.int IntKind.u8) l1, .n n2, .l (Ty.int IntKind.u32) l5])))
  | _ => .bad 0
def fn_L20_8 : List Dat → Tree Step
  | .k 0 :: d => fn_L20_8_0 d
  | _ => .bad 0
def op_L20_8 : List Dat → Option (Nat × List Dat) := iterS fn_L20_8 FU
def L20_8 : MBox := (mkM 0 [] [(sh 41 [(0, .int .u32 0), (1, .imm TB 1), (5, .own 0), (6, .int .i64 2), (7, .int .u8 3), (8, .int .i64 4)], [.arr TN 5])] [] [(.exit 2, sh 41 [(0, .int .u32 0), (1, .imm TB 1), (5, .own 0), (6, .int .i64 2)], [.arr TN 3])] op_L20_8)
theorem fn_L20_8_0_eq (n0 : Int) (l1 : List (Ty.den (Ty.int IntKind.u8))) (n2 : Int) (n3 : Int) (n4 : Int) (l5 : List (Ty.den (Ty.int IntKind.u32))) : ((fun (d : List Dat) => stepMC false Try.prog cs_12 91 8 ls0 (mkM 0 [] [(sh 41 [(0, .int .u32 0), (1, .imm TB 1), (5, .own 0), (6, .int .i64 2), (7, .int .u8 3), (8, .int .i64 4)], [.arr TN 5])] [] [(.exit 2, sh 41 [(0, .int .u32 0), (1, .imm TB 1), (5, .own 0), (6, .int .i64 2)], [.arr TN 3])] fun _ => none) (.k 0 :: d)) [.n n0, .l (Ty.int IntKind.u8) l1, .n n2, .n n3, .n n4, .l (Ty.int IntKind.u32) l5]).sel = (fn_L20_8_0 [.n n0, .l (Ty.int IntKind.u8) l1, .n n2, .n n3, .n n4, .l (Ty.int IntKind.u32) l5]).sel := by kernel_rfl
theorem fn_L20_8_0_ok (env : List Dat) (y : Step) (h : (fn_L20_8_0 env).sel = some y) : ((fun (d : List Dat) => stepMC false Try.prog cs_12 91 8 ls0 (mkM 0 [] [(sh 41 [(0, .int .u32 0), (1, .imm TB 1), (5, .own 0), (6, .int .i64 2), (7, .int .u8 3), (8, .int .i64 4)], [.arr TN 5])] [] [(.exit 2, sh 41 [(0, .int .u32 0), (1, .imm TB 1), (5, .own 0), (6, .int .i64 2)], [.arr TN 3])] fun _ => none) (.k 0 :: d)) env).sel = some y := by
  unfold fn_L20_8_0 at h
  split at h
  · rw [fn_L20_8_0_eq]; exact h
  · cases h
theorem fn_L20_8_ok (env : List Dat) (y : Step) (h : (fn_L20_8 env).sel = some y) : (stepMC false Try.prog cs_12 91 8 ls0 (mkM 0 [] [(sh 41 [(0, .int .u32 0), (1, .imm TB 1), (5, .own 0), (6, .int .i64 2), (7, .int .u8 3), (8, .int .i64 4)], [.arr TN 5])] [] [(.exit 2, sh 41 [(0, .int .u32 0), (1, .imm TB 1), (5, .own 0), (6, .int .i64 2)], [.arr TN 3])] fun _ => none) env).sel = some y := by
  unfold fn_L20_8 at h
  split at h
  · exact fn_L20_8_0_ok _ _ h
  · cases h
theorem L20_8_run : ∀ t s x, (manyRun L20_8 t s).sel = some x → CodeOk Try.prog 0 (.loop (cAt Try.prog 91 8)) t s x := mkM_ok (st := fn_L20_8) (m := FU) cs_12_ok hmix false (LsOk.none _ _ _) (by kernel_rfl) fn_L20_8_ok

def fn_L20_3_0 : List Dat → Tree Step
  | [.n n0, .l (Ty.int IntKind.u8) l1, .n n2, .l (Ty.int IntKind.u32) l3] =>
    (.node (decide (n2 < (↑(List.length l1) : Int)))
     (.node (inR n2 (List.length l1))
      (let r1 : Option (Nat × List Dat) := (op_L20_8 [.k 0, .n (ishr IntKind.u32 n0 (8 : Int)), .l (Ty.int IntKind.u8) l1, .n n2, .n (ixor IntKind.u8 (IntKind.wrap .u8 n0) (List.getD l1 (Int.toNat n2) (0 : Int))), .n (0 : Int), .l (Ty.int IntKind.u32) l3]);
       (.node (isK 0 [HK.n, HK.l (Ty.int IntKind.u8), HK.n, HK.l (Ty.int IntKind.u32)] r1)
        (.leaf (Step.go [.k 0, .n (gn (dOf r1) 0), .l (Ty.int IntKind.u8) (gl (Ty.int IntKind.u8) (dOf r1) 1), .n (IntKind.wrap .i64 (gn (dOf r1) 2 + (1 : Int))), .l (Ty.int IntKind.u32) (gl (Ty.int IntKind.u32) (dOf r1) 3)]))
        (.bad 351)))
      (.bad 10))
     (.leaf (Step.stop 0 [.n n0])))
  | _ => .bad 0
def fn_L20_3 : List Dat → Tree Step
  | .k 0 :: d => fn_L20_3_0 d
  | _ => .bad 0
def op_L20_3 : List Dat → Option (Nat × List Dat) := iterS fn_L20_3 FU
def L20_3 : MBox := (mkM 0 [] [(sh 41 [(0, .int .u32 0), (1, .imm TB 1), (5, .own 0), (6, .int .i64 2)], [.arr TN 3])] [] [(.exit 0, sh 41 [(0, .int .u32 0)], [])] op_L20_3)
theorem fn_L20_3_0_eq (n0 : Int) (l1 : List (Ty.den (Ty.int IntKind.u8))) (n2 : Int) (l3 : List (Ty.den (Ty.int IntKind.u32))) : ((fun (d : List Dat) => stepMC false Try.prog cs_12 91 3 (lsM [(8, L20_8)] 0) (mkM 0 [] [(sh 41 [(0, .int .u32 0), (1, .imm TB 1), (5, .own 0), (6, .int .i64 2)], [.arr TN 3])] [] [(.exit 0, sh 41 [(0, .int .u32 0)], [])] fun _ => none) (.k 0 :: d)) [.n n0, .l (Ty.int IntKind.u8) l1, .n n2, .l (Ty.int IntKind.u32) l3]).sel = (fn_L20_3_0 [.n n0, .l (Ty.int IntKind.u8) l1, .n n2, .l (Ty.int IntKind.u32) l3]).sel := by kernel_rfl
theorem fn_L20_3_0_ok (env : List Dat) (y : Step) (h : (fn_L20_3_0 env).sel = some y) : ((fun (d : List Dat) => stepMC false Try.prog cs_12 91 3 (lsM [(8, L20_8)] 0) (mkM 0 [] [(sh 41 [(0, .int .u32 0), (1, .imm TB 1), (5, .own 0), (6, .int .i64 2)], [.arr TN 3])] [] [(.exit 0, sh 41 [(0, .int .u32 0)], [])] fun _ => none) (.k 0 :: d)) env).sel = some y := by
  unfold fn_L20_3_0 at h
  split at h
  · rw [fn_L20_3_0_eq]; exact h
  · cases h
theorem fn_L20_3_ok (env : List Dat) (y : Step) (h : (fn_L20_3 env).sel = some y) : (stepMC false Try.prog cs_12 91 3 (lsM [(8, L20_8)] 0) (mkM 0 [] [(sh 41 [(0, .int .u32 0), (1, .imm TB 1), (5, .own 0), (6, .int .i64 2)], [.arr TN 3])] [] [(.exit 0, sh 41 [(0, .int .u32 0)], [])] fun _ => none) env).sel = some y := by
  unfold fn_L20_3 at h
  split at h
  · exact fn_L20_3_0_ok _ _ h
  · cases h
theorem L20_3_in : LsOk Try.prog 0 (lsM [(8, L20_8)] 0) (cAt Try.prog 91 3) := LsOk.many fun j B hB hk c hc hi => by
  simp only [lookM] at hB
  split at hB
  · rename_i e; have := Nat.eq_of_beq_eq_true e; subst this; cases hB
    have e1 : loopsAt (cAt Try.prog 91 3) 8 = [cAt Try.prog 91 8] := by kernel_rfl
    have e2 := loopsAt_mem hc hi
    rw [e1] at e2; cases List.mem_singleton.1 e2; exact L20_8_run
  cases hB
theorem L20_3_run : ∀ t s x, (manyRun L20_3 t s).sel = some x → CodeOk Try.prog 0 (.loop (cAt Try.prog 91 3)) t s x := mkM_ok (st := fn_L20_3) (m := FU) cs_12_ok hmix false (L20_3_in) (by kernel_rfl) fn_L20_3_ok

theorem ls_20_ok : LsOk Try.prog (List.length ([] : List PB)) (lsM [(3, L20_3)] (List.length ([] : List PB))) (bodyOf Try.prog 91) := LsOk.many fun j B hB hk c hc hi => by
  simp only [lookM] at hB
  split at hB
  · rename_i e; have := Nat.eq_of_beq_eq_true e; subst this; cases hB
    have e1 : loopAt Try.prog 91 3 = [cAt Try.prog 91 3] := loopAt_one (by kernel_rfl)
    have e2 : c ∈ loopAt Try.prog 91 3 := loopsAt_mem hc hi
    rw [e1] at e2; cases List.mem_singleton.1 e2; exact L20_3_run
  cases hB

def fn_20 : List Dat → Tree (Nat × List Dat)
  | [.n n0, .l (Ty.int IntKind.u8) l1] =>
    (let r1 : Option (Nat × List Dat) := (op_L20_3 [.k 0, .n n0, .l (Ty.int IntKind.u8) l1, .n (0 : Int), .l (Ty.int IntKind.u32) [(1996959894 : Int), (3993919788 : Int), (124634137 : Int), (249268274 : Int), (498536548 : Int), (997073096 : Int), (1994146192 : Int), (3988292384 : Int)]]);
     (.node (isK 0 [HK.n] r1)
      (.leaf ((0, [.n (gn (dOf r1) 0)])))
      (.bad 351)))
  | _ => .bad 0
def op_20 : List Dat → Option (Nat × List Dat) := fun env => (fn_20 env).sel
def B20 : FBox := (mkF [.int .u32 0, .imm TB 1] [] [] [(.int .u32 0, [])] op_20)
def cs_20 : FuncId → Option CSpec := csLend 91 B20 cs_12
theorem fn_20_eq (n0 : Int) (l1 : List (Ty.den (Ty.int IntKind.u8))) : (boxC false Try.prog cs_12 91 (lsM [(3, L20_3)] (List.length ([] : List PB))) (mkF [.int .u32 0, .imm TB 1] [] [] [(.int .u32 0, [])] fun _ => none) [.n n0, .l (Ty.int IntKind.u8) l1]).sel = (fn_20 [.n n0, .l (Ty.int IntKind.u8) l1]).sel := by kernel_rfl
theorem fn_20_ok (env : List Dat) (y : Nat × List Dat) (h : (fn_20 env).sel = some y) : (boxC false Try.prog cs_12 91 (lsM [(3, L20_3)] (List.length ([] : List PB))) (mkF [.int .u32 0, .imm TB 1] [] [] [(.int .u32 0, [])] fun _ => none) env).sel = some y := by
  unfold fn_20 at h
  split at h
  · rw [fn_20_eq]; exact h
  · cases h
theorem B20_ok : RunOk Try.prog 91 (boxRun B20) := mkF_ok (op := op_20) cs_12_ok hmix false (ls_20_ok) fn_20_ok
theorem cs_20_ok : CsOk Try.prog cs_20 := csLend_ok cs_12_ok B20_ok

def fn_13 : List Dat → Tree (Nat × List Dat)
  | [.l (Ty.int IntKind.u8) l0] =>
    (let r1 : Option (Nat × List Dat) := (op_20 [.n (4294967295 : Int), .l (Ty.int IntKind.u8) l0]);
     (.node (isK 0 [HK.n] r1)
      (.leaf ((0, [.n (ixor IntKind.u32 (4294967295 : Int) (gn (dOf r1) 0))])))
      (.bad 351)))
  | _ => .bad 0
def op_13 : List Dat → Option (Nat × List Dat) := fun env => (fn_13 env).sel
def B13 : FBox := (mkF [.imm TB 0] [] [] [(.int .u32 0, [])] op_13)
def cs_13 : FuncId → Option CSpec := csLend 73 B13 cs_20
theorem fn_13_eq (l0 : List (Ty.den (Ty.int IntKind.u8))) : (boxC false Try.prog cs_20 73 ls0 (mkF [.imm TB 0] [] [] [(.int .u32 0, [])] fun _ => none) [.l (Ty.int IntKind.u8) l0]).sel = (fn_13 [.l (Ty.int IntKind.u8) l0]).sel := by kernel_rfl
theorem fn_13_ok (env : List Dat) (y : Nat × List Dat) (h : (fn_13 env).sel = some y) : (boxC false Try.prog cs_20 73 ls0 (mkF [.imm TB 0] [] [] [(.int .u32 0, [])] fun _ => none) env).sel = some y := by
  unfold fn_13 at h
  split at h
  · rw [fn_13_eq]; exact h
  · cases h
theorem B13_ok : RunOk Try.prog 73 (boxRun B13) := mkF_ok (op := op_13) cs_20_ok hmix false (LsOk.none _ _ _) fn_13_ok
theorem cs_13_ok : CsOk Try.prog cs_13 := csLend_ok cs_20_ok B13_ok

def okc_31 (l : List (Ty.den TB)) : Bool := decide ((0 + l.length) * 1 ≤ 140737488355328)
def op_31 : List Dat → Option (Nat × List Dat) := cloneOp TB okc_31
def B31 : FBox := mkF [.imm TB 0] [] [] [(.own 0, [.arr TB 0])] op_31
def cs_31 : FuncId → Option CSpec := csLend 94 B31 cs_13
theorem B31_ok : RunOk Try.prog 94 (boxRun B31) :=
  clone_ok (P := Try.prog) (cl := clMd true Try.prog csNone) (clMd_ok csNone_ok0 hmix true) hmix (T := 38) (e := 5) (n := 400) (fn := Try.f94) (by kernel_rfl) (by kernel_rfl) (by kernel_rfl) (by kernel_rfl) TB okc_31
    (fun l => [.imm TB l, .undef, .nilsl, .undef, .undef, .undef, .undef, .undef]) (fun l => [.imm TB l, .undef, .nilsl, .imm TB l, .bool true, .undef, .undef, .undef])
    (fun l => [.imm TB l, .undef, .own 0 1, .imm TB l, .bool false, .own 0 0, .imm TB l, .own 0 1]) (fun l => ⟨[.arr TB 1 l], [0]⟩) (fun l => .own 0 1)
    (fun l => by kernel_rfl) (fun l => rfl) (fun l => rfl) (fun l => by kernel_rfl) (fun l => by kernel_rfl) (fun l => by kernel_rfl) (fun l => by kernel_rfl) (fun l => by kernel_rfl) (fun l => by kernel_rfl) (by kernel_rfl)
theorem cs_31_ok : CsOk Try.prog cs_31 := csLend_ok cs_13_ok B31_ok
theorem op_31_is (l : List (Ty.den TB)) (h : l.length * 1 ≤ 140737488355328) : op_31 [.l TB l] = some (0, [.l TB l]) := by
  unfold op_31 cloneOp
  simp only [castL_self]
  have : okc_31 l = true := decide_eq_true (by omega)
  rw [this]; rfl

def op_9 : List Dat → Option (Nat × List Dat) := fun _ => some (0, [.b true])
def B9 : FBox := (mkF [] [] [] [(.bool 0, [])] op_9)
def cs_9 : FuncId → Option CSpec := csAdd 8 [B9] cs_31
theorem fn_9_ok (env : List Dat) (y : Nat × List Dat) (h : op_9 env = some y) : (boxC true Try.prog cs_31 8 ls0 (mkF [] [] [] [(.bool 0, [])] fun _ => none) env).sel = some y := by
  cases h
  kernel_rfl
theorem B9_ok : RunOk Try.prog 8 (boxRun B9) := mkF_ok (op := op_9) cs_31_ok hmix true (LsOk.none _ _ _) fn_9_ok
theorem cs_9_ok : CsOk Try.prog cs_9 := csAdd_ok cs_31_ok fun B hB => by
  cases List.mem_singleton.1 hB
  exact B9_ok
end Go.Proofs.Ytlambinleegdoaa.Vx
namespace Go.Proofs.Ytlambinleegdoaa.Vx
open Go Go.RowKit
set_option linter.unusedVariables false
set_option linter.unusedSimpArgs false
theorem opq_ex (f : List Dat → Option (Nat × List Dat)) : ∃ g : List Dat → Option (Nat × List Dat), ∀ e, g e = f e := ⟨f, fun _ => rfl⟩
noncomputable def op_q12 : List Dat → Option (Nat × List Dat) := Classical.choose (opq_ex op_12)
theorem op_q12_eq (e : List Dat) : op_q12 e = op_12 e := Classical.choose_spec (opq_ex op_12) e
noncomputable def Bq12 : FBox := mkF [.imm TB 0] [] [] [(.int .u32 0, [])] op_q12
theorem Bq12_ok : RunOk Try.prog 86 (boxRun Bq12) := by
  have h : op_q12 = op_12 := funext op_q12_eq
  unfold Bq12
  rw [h]
  exact B12_ok
noncomputable def cs_q12 : FuncId → Option CSpec := csLend 86 Bq12 cs_9
theorem cs_q12_ok : CsOk Try.prog cs_q12 := csLend_ok cs_9_ok Bq12_ok
noncomputable def op_q13 : List Dat → Option (Nat × List Dat) := Classical.choose (opq_ex op_13)
theorem op_q13_eq (e : List Dat) : op_q13 e = op_13 e := Classical.choose_spec (opq_ex op_13) e
noncomputable def Bq13 : FBox := mkF [.imm TB 0] [] [] [(.int .u32 0, [])] op_q13
theorem Bq13_ok : RunOk Try.prog 73 (boxRun Bq13) := by
  have h : op_q13 = op_13 := funext op_q13_eq
  unfold Bq13
  rw [h]
  exact B13_ok
noncomputable def cs_q13 : FuncId → Option CSpec := csLend 73 Bq13 cs_q12
theorem cs_q13_ok : CsOk Try.prog cs_q13 := csLend_ok cs_q12_ok Bq13_ok
end Go.Proofs.Ytlambinleegdoaa.Vx
namespace Go.Proofs.Ytlambinleegdoaa.Vx
open Go Go.RowKit
set_option linter.unusedVariables false
set_option linter.unusedSimpArgs false
set_option maxRecDepth 100000
set_option maxHeartbeats 0

theorem Imp.nd {α : Type} {T E x : Tree α} {c : Bool} (a : c = true → Imp T x.th) (b : c = false → Imp E x.el) (h : x.isNode = true := by kernel_rfl) (e : x.cd = c := by kernel_rfl) : Imp (.node c T E) x := .node h e a b
theorem Imp.lf {α : Type} {x : Tree α} {y : α} (h : x.sel = some y := by kernel_rfl) : Imp (.leaf y) x := .leaf h
theorem Imp.pa {α : Type} {T x : Tree α} (l : List Nat) (a : Imp T (x.walk l)) (h : x.okPath l = true := by kernel_rfl) : Imp T x := .path l h a
theorem Imp.sT {α : Type} {T x : Tree α} (c : Bool) (a : Imp T x.th) (h : x.isNode = true := by kernel_rfl) (e : x.cd = c := by kernel_rfl) (k : c = true := by simp [*]) : Imp T x := .pt h e k a
theorem Imp.sF {α : Type} {T x : Tree α} (c : Bool) (a : Imp T x.el) (h : x.isNode = true := by kernel_rfl) (e : x.cd = c := by kernel_rfl) (k : c = false := by simp [*]) : Imp T x := .pf h e k a
abbrev ExB (ev : List Dat → Tree (Nat × List Dat)) : Prop := ∃ f : List Dat → Option (Nat × List Dat), ∀ env, f env = (ev env).sel
theorem exB (ev : List Dat → Tree (Nat × List Dat)) : ExB ev := ⟨fun env => (ev env).sel, fun _ => rfl⟩
abbrev ExL (st : List Dat → Tree Step) : Prop := ∃ f : List Dat → Option (Nat × List Dat), ∀ env, f env = iterS st FU env
theorem exL (st : List Dat → Tree Step) : ExL st := ⟨iterS st FU, fun _ => rfl⟩
abbrev TI : Ty := .int .i64
abbrev TL : Ty := .int .u64
abbrev TC : Ty := .pair (.int .u8) (.int .i64)
def wrN : PB := .cells [.nilsl]
def wrO (b : Nat) : PB := .cells [.own b]
def inV (h : Nat) : PV := .agg [.int .u8 h, .int .i64 (h+1), .int .u64 (h+2), .int .u32 (h+3), .int .u32 (h+4), .imm TC (h+5)]
def inB (h : Nat) : PB := .cells [.int .u8 h, .int .i64 (h+1), .int .u64 (h+2), .int .u32 (h+3), .int .u32 (h+4), .imm TC (h+5)]
def ouV (h : Nat) : PV := .agg [.int .u8 h, .int .i64 (h+1), .int .i64 (h+2), .int .u64 (h+3), .int .u32 (h+4)]
def ouB (h : Nat) : PB := .cells [.int .u8 h, .int .i64 (h+1), .int .i64 (h+2), .int .u64 (h+3), .int .u32 (h+4)]
def stV (h : Nat) : PV := .agg [.int .u64 h, .int .u64 (h+1), .int .u64 (h+2), .arrd TB 64 (h+3), .int .u32 (h+4)]
def stB (h : Nat) : PB := .cells [.int .u64 h, .int .u64 (h+1), .int .u64 (h+2), .arrd TB 64 (h+3), .int .u32 (h+4)]
def loV (h : Nat) : PV := .agg [.int .i64 h, .int .i64 (h+1), .int .u64 (h+2), .int .u64 (h+3), .int .u64 (h+4), .arrd TB 64 (h+5), .int .u32 (h+6)]
def loB (h : Nat) : PB := .cells [.int .i64 h, .int .i64 (h+1), .int .u64 (h+2), .int .u64 (h+3), .int .u64 (h+4), .arrd TB 64 (h+5), .int .u32 (h+6)]
def liV (h : Nat) : PV := .agg [.int .u8 h, .int .u8 (h+1), .int .i64 (h+2), .int .i64 (h+3), .imm TB (h+4)]
def liB (h : Nat) : PB := .cells [.int .u8 h, .int .u8 (h+1), .int .i64 (h+2), .int .i64 (h+3), .imm TB (h+4)]
def lmV (h : Nat) : PV := .agg [.int .u8 h, .int .u8 (h+1), .int .i64 (h+2), .int .i64 (h+3), .str (h+4)]
noncomputable def st_L30_3 (env : List Dat) : Tree Step := Lk.stepMC false LK cs_q13 72 3 ls0 (mkM 0 [] [(sh 22 [(0, .int .u64 0), (5, .own 0), (6, .int .i64 1)], [.arr TB 2])] [(5, TB)] [(.exit 0, sh 22 [(5, .own 0)], [.arr TB 0])] fun _ => none) env
theorem op_L30_3_ex : ExL st_L30_3 := exL _
noncomputable def op_L30_3 := Classical.choose op_L30_3_ex
theorem op_L30_3_eq (env : List Dat) : op_L30_3 env = iterS st_L30_3 FU env := Classical.choose_spec op_L30_3_ex env
noncomputable def L30_3 : MBox := mkM 0 [] [(sh 22 [(0, .int .u64 0), (5, .own 0), (6, .int .i64 1)], [.arr TB 2])] [(5, TB)] [(.exit 0, sh 22 [(5, .own 0)], [.arr TB 0])] op_L30_3
theorem L30_3_eqs : L30_3 = mkM 0 [] [(sh 22 [(0, .int .u64 0), (5, .own 0), (6, .int .i64 1)], [.arr TB 2])] [(5, TB)] [(.exit 0, sh 22 [(5, .own 0)], [.arr TB 0])] (iterS st_L30_3 FU) := congrArg (fun f => mkM 0 [] [(sh 22 [(0, .int .u64 0), (5, .own 0), (6, .int .i64 1)], [.arr TB 2])] [(5, TB)] [(.exit 0, sh 22 [(5, .own 0)], [.arr TB 0])] f) (funext op_L30_3_eq)
theorem L30_3_run : ∀ t s x, (manyRun L30_3 t s).sel = some x → CodeOk Try.prog 0 (.loop (cAt Try.prog 72 3)) t s x := by
  rw [L30_3_eqs]
  exact mkM_ok (st := st_L30_3) (m := FU) cs_q13_ok hmix false (LsOk.none _ _ _) (by kernel_rfl) (fun env y h => by rw [← stepMC_lk]; exact h)

noncomputable def fn_L30_3_t : List Dat → Tree Step
 | [.n n0, .n n1, .l (Ty.int IntKind.u8) l2] =>
 (.node (decide (n1 ≥ (0 : Int)))
 (.node (!decide (IntKind.wrap .i64 ((8 : Int) * n1) < (0 : Int)))
 (.node (decide ((List.length l2 + 1) * 1 ≤ 140737488355328))
 (.leaf (Step.go [.k 0, .n n0, .n (IntKind.wrap .i64 (n1 - (1 : Int))), .l TB (l2 ++ [IntKind.wrap .u8 (ishr IntKind.u64 n0 (IntKind.wrap .i64 ((8 : Int) * n1)))])]))
 (.bad 62))
 (.bad 83))
 (.leaf (Step.stop 0 [.l TB l2])))
 | _ => .bad 0
theorem fn_L30_3_t_im (n0 : Int) (n1 : Int) (l2 : List (Ty.den TB)) : Imp (fn_L30_3_t [.n n0, .n n1, .l TB l2]) (st_L30_3 [.k 0, .n n0, .n n1, .l TB l2]) :=
(.pa [1]
(.nd (fun h0 =>
(.nd (fun h1 =>
(.nd (fun h2 =>
(.pa [1]
.lf)) (fun h2 =>
.none))) (fun h1 =>
.none))) (fun h0 =>
(.pa [1]
.lf))))

theorem ls_30_ok : LsOk Try.prog (List.length ([] : List PB)) (lsM [(3, L30_3)] (List.length ([] : List PB))) (bodyOf Try.prog 72) := LsOk.many fun j B hB hk c hc hi => by
  simp only [lookM] at hB
  split at hB
  · rename_i e; have := Nat.eq_of_beq_eq_true e; subst this; cases hB
    have e1 : loopAt Try.prog 72 3 = [cAt Try.prog 72 3] := loopAt_one (by kernel_rfl)
    have e2 : c ∈ loopAt Try.prog 72 3 := loopsAt_mem hc hi
    rw [e1] at e2; cases List.mem_singleton.1 e2; exact L30_3_run
  cases hB

noncomputable def ev_30 (env : List Dat) : Tree (Nat × List Dat) := Lk.boxC false LK cs_q13 72 (lsM [(3, L30_3)] (List.length ([] : List PB))) (mkF [.int .u64 0, .int .i64 1] [] [] [(.own 0, [.arr TB 0])] fun _ => none) env
theorem op_30_ex : ExB ev_30 := exB _
noncomputable def op_30 := Classical.choose op_30_ex
theorem op_30_eq (env : List Dat) : op_30 env = (ev_30 env).sel := Classical.choose_spec op_30_ex env
noncomputable def B30 : FBox := mkF [.int .u64 0, .int .i64 1] [] [] [(.own 0, [.arr TB 0])] op_30
theorem B30_ok : RunOk Try.prog 72 (boxRun B30) := mkF_ok (op := op_30) cs_q13_ok hmix false (ls_30_ok) (fun env x h => by rw [op_30_eq] at h; rw [← boxC_lk]; exact h)

noncomputable def fn_30_t : List Dat → Tree (Nat × List Dat)
 | [.n n0, .n n1] =>
 (let r1 := (op_L30_3 [.k 0, .n n0, .n (IntKind.wrap .i64 (n1 - (1 : Int))), .l TB []]);
 (.node (isK 0 [.l TB] r1)
 (.leaf ((0, [.l TB (gl TB (dOf r1) 0)])))
 (.bad 351)))
 | _ => .bad 0
theorem fn_30_t_im (n0 : Int) (n1 : Int) : Imp (fn_30_t [.n n0, .n n1]) (ev_30 [.n n0, .n n1]) :=
(.nd (fun h0 =>
(.pa [1]
.lf)) (fun h0 =>
.none))

noncomputable def cs_30 : FuncId → Option CSpec := csLend 72 B30 cs_q13
theorem cs_30_ok : CsOk Try.prog cs_30 := csLend_ok cs_q13_ok B30_ok

noncomputable def st_L35a_1 (env : List Dat) : Tree Step := Lk.stepMC false LK cs_30 100 1 ls0 (mkM 1 [0] [(sh 29 [(0, .ptr 0 0), (1, .int .u64 0), (2, .int .i64 1), (7, .int .i64 2), (8, .int .i64 3)], [wrN]), (sh 29 [(0, .ptr 0 0), (1, .int .u64 0), (2, .int .i64 1), (7, .int .i64 2), (8, .int .i64 3)], [wrO 1, .arr TB 4])] [] [(.exit 0, sh 29 [(0, .ptr 0 0)], [wrN]), (.exit 0, sh 29 [(0, .ptr 0 0)], [wrO 1, .arr TB 0])] fun _ => none) env
theorem op_L35a_1_ex : ExL st_L35a_1 := exL _
noncomputable def op_L35a_1 := Classical.choose op_L35a_1_ex
theorem op_L35a_1_eq (env : List Dat) : op_L35a_1 env = iterS st_L35a_1 FU env := Classical.choose_spec op_L35a_1_ex env
noncomputable def L35a_1 : MBox := mkM 1 [0] [(sh 29 [(0, .ptr 0 0), (1, .int .u64 0), (2, .int .i64 1), (7, .int .i64 2), (8, .int .i64 3)], [wrN]), (sh 29 [(0, .ptr 0 0), (1, .int .u64 0), (2, .int .i64 1), (7, .int .i64 2), (8, .int .i64 3)], [wrO 1, .arr TB 4])] [] [(.exit 0, sh 29 [(0, .ptr 0 0)], [wrN]), (.exit 0, sh 29 [(0, .ptr 0 0)], [wrO 1, .arr TB 0])] op_L35a_1
theorem L35a_1_eqs : L35a_1 = mkM 1 [0] [(sh 29 [(0, .ptr 0 0), (1, .int .u64 0), (2, .int .i64 1), (7, .int .i64 2), (8, .int .i64 3)], [wrN]), (sh 29 [(0, .ptr 0 0), (1, .int .u64 0), (2, .int .i64 1), (7, .int .i64 2), (8, .int .i64 3)], [wrO 1, .arr TB 4])] [] [(.exit 0, sh 29 [(0, .ptr 0 0)], [wrN]), (.exit 0, sh 29 [(0, .ptr 0 0)], [wrO 1, .arr TB 0])] (iterS st_L35a_1 FU) := congrArg (fun f => mkM 1 [0] [(sh 29 [(0, .ptr 0 0), (1, .int .u64 0), (2, .int .i64 1), (7, .int .i64 2), (8, .int .i64 3)], [wrN]), (sh 29 [(0, .ptr 0 0), (1, .int .u64 0), (2, .int .i64 1), (7, .int .i64 2), (8, .int .i64 3)], [wrO 1, .arr TB 4])] [] [(.exit 0, sh 29 [(0, .ptr 0 0)], [wrN]), (.exit 0, sh 29 [(0, .ptr 0 0)], [wrO 1, .arr TB 0])] f) (funext op_L35a_1_eq)
theorem L35a_1_run : ∀ t s x, (manyRun L35a_1 t s).sel = some x → CodeOk Try.prog 1 (.loop (cAt Try.prog 100 1)) t s x := by
  rw [L35a_1_eqs]
  exact mkM_ok (st := st_L35a_1) (m := FU) cs_30_ok hmix false (LsOk.none _ _ _) (by kernel_rfl) (fun env y h => by rw [← stepMC_lk]; exact h)

noncomputable def fn_L35a_1_n : List Dat → Tree Step
 | [.n n0, .n n1, .n n2, .n n3] =>
 (.node (decide (n3 < n2))
 (.node (!decide (IntKind.wrap .i64 ((8 : Int) * IntKind.wrap .i64 (IntKind.wrap .i64 (n1 - (1 : Int)) - n3)) < (0 : Int)))
 (.leaf (Step.go [.k 1, .n n0, .n n1, .n n2, .n (IntKind.wrap .i64 (n3 + (1 : Int))), .l TB [IntKind.wrap .u8 (ishr IntKind.u64 n0 (IntKind.wrap .i64 ((8 : Int) * IntKind.wrap .i64 (IntKind.wrap .i64 (n1 - (1 : Int)) - n3))))]]))
 (.bad 83))
 (.leaf (Step.stop 0 [])))
 | _ => .bad 0
theorem fn_L35a_1_n_im (n0 : Int) (n1 : Int) (n2 : Int) (n3 : Int) : Imp (fn_L35a_1_n [.n n0, .n n1, .n n2, .n n3]) (st_L35a_1 [.k 0, .n n0, .n n1, .n n2, .n n3]) :=
(.pa [1]
(.nd (fun h0 =>
(.nd (fun h1 =>
(.pa [1,1,1]
.lf)) (fun h1 =>
.none))) (fun h0 =>
(.pa [1]
.lf))))

noncomputable def fn_L35a_1_o : List Dat → Tree Step
 | [.n n0, .n n1, .n n2, .n n3, .l (Ty.int IntKind.u8) l4] =>
 (.node (decide (n3 < n2))
 (.node (!decide (IntKind.wrap .i64 ((8 : Int) * IntKind.wrap .i64 (IntKind.wrap .i64 (n1 - (1 : Int)) - n3)) < (0 : Int)))
 (.node (decide ((List.length l4 + 1) * 1 ≤ 140737488355328))
 (.leaf (Step.go [.k 1, .n n0, .n n1, .n n2, .n (IntKind.wrap .i64 (n3 + (1 : Int))), .l TB (l4 ++ [IntKind.wrap .u8 (ishr IntKind.u64 n0 (IntKind.wrap .i64 ((8 : Int) * IntKind.wrap .i64 (IntKind.wrap .i64 (n1 - (1 : Int)) - n3))))])]))
 (.bad 62))
 (.bad 83))
 (.leaf (Step.stop 1 [.l TB l4])))
 | _ => .bad 0
theorem fn_L35a_1_o_im (n0 : Int) (n1 : Int) (n2 : Int) (n3 : Int) (l4 : List (Ty.den TB)) : Imp (fn_L35a_1_o [.n n0, .n n1, .n n2, .n n3, .l TB l4]) (st_L35a_1 [.k 1, .n n0, .n n1, .n n2, .n n3, .l TB l4]) :=
(.pa [1]
(.nd (fun h0 =>
(.nd (fun h1 =>
(.nd (fun h2 =>
(.pa [1,1]
.lf)) (fun h2 =>
.none))) (fun h1 =>
.none))) (fun h0 =>
(.pa [1]
.lf))))

theorem ls_35a_ok : LsOk Try.prog (List.length ([wrN] : List PB)) (lsM [(1, L35a_1)] (List.length ([wrN] : List PB))) (bodyOf Try.prog 100) := LsOk.many fun j B hB hk c hc hi => by
  simp only [lookM] at hB
  split at hB
  · rename_i e; have := Nat.eq_of_beq_eq_true e; subst this; cases hB
    have e1 : loopAt Try.prog 100 1 = [cAt Try.prog 100 1] := loopAt_one (by kernel_rfl)
    have e2 : c ∈ loopAt Try.prog 100 1 := loopsAt_mem hc hi
    rw [e1] at e2; cases List.mem_singleton.1 e2; exact L35a_1_run
  cases hB

noncomputable def ev_35a (env : List Dat) : Tree (Nat × List Dat) := Lk.boxC false LK cs_30 100 (lsM [(1, L35a_1)] (List.length ([wrN] : List PB))) (mkF [.ptr 0 0, .int .u64 0, .int .i64 1] [wrN] [0] [(.tup [], [wrN]), (.tup [], [wrO 1, .arr TB 0])] fun _ => none) env
theorem op_35a_ex : ExB ev_35a := exB _
noncomputable def op_35a := Classical.choose op_35a_ex
theorem op_35a_eq (env : List Dat) : op_35a env = (ev_35a env).sel := Classical.choose_spec op_35a_ex env
noncomputable def B35a : FBox := mkF [.ptr 0 0, .int .u64 0, .int .i64 1] [wrN] [0] [(.tup [], [wrN]), (.tup [], [wrO 1, .arr TB 0])] op_35a
theorem B35a_ok : RunOk Try.prog 100 (boxRun B35a) := mkF_ok (op := op_35a) cs_30_ok hmix false (ls_35a_ok) (fun env x h => by rw [op_35a_eq] at h; rw [← boxC_lk]; exact h)

noncomputable def fn_35a_t : List Dat → Tree (Nat × List Dat)
 | [.n n0, .n n1] =>
 (let r1 := (op_L35a_1 [.k 0, .n n0, .n n1, .n n1, .n (0 : Int)]);
 (.node (isK 0 [] r1)
 (.leaf ((0, [])))
 (.node (isK 1 [.l TB] r1)
 (.leaf ((1, [.l TB (gl TB (dOf r1) 0)])))
 (.bad 351))))
 | _ => .bad 0
theorem fn_35a_t_im (n0 : Int) (n1 : Int) : Imp (fn_35a_t [.n n0, .n n1]) (ev_35a [.n n0, .n n1]) :=
(.nd (fun h0 =>
(.pa [1]
.lf)) (fun h0 =>
(.nd (fun h1 =>
(.pa [1]
.lf)) (fun h1 =>
.none))))

noncomputable def st_L35b_1 (env : List Dat) : Tree Step := Lk.stepMC false LK cs_30 100 1 ls0 (mkM 2 [0, 1] [(sh 29 [(0, .ptr 0 0), (1, .int .u64 0), (2, .int .i64 1), (7, .int .i64 2), (8, .int .i64 3)], [wrO 1, .arr TB 4])] [] [(.exit 0, sh 29 [(0, .ptr 0 0)], [wrO 1, .arr TB 0])] fun _ => none) env
theorem op_L35b_1_ex : ExL st_L35b_1 := exL _
noncomputable def op_L35b_1 := Classical.choose op_L35b_1_ex
theorem op_L35b_1_eq (env : List Dat) : op_L35b_1 env = iterS st_L35b_1 FU env := Classical.choose_spec op_L35b_1_ex env
noncomputable def L35b_1 : MBox := mkM 2 [0, 1] [(sh 29 [(0, .ptr 0 0), (1, .int .u64 0), (2, .int .i64 1), (7, .int .i64 2), (8, .int .i64 3)], [wrO 1, .arr TB 4])] [] [(.exit 0, sh 29 [(0, .ptr 0 0)], [wrO 1, .arr TB 0])] op_L35b_1
theorem L35b_1_eqs : L35b_1 = mkM 2 [0, 1] [(sh 29 [(0, .ptr 0 0), (1, .int .u64 0), (2, .int .i64 1), (7, .int .i64 2), (8, .int .i64 3)], [wrO 1, .arr TB 4])] [] [(.exit 0, sh 29 [(0, .ptr 0 0)], [wrO 1, .arr TB 0])] (iterS st_L35b_1 FU) := congrArg (fun f => mkM 2 [0, 1] [(sh 29 [(0, .ptr 0 0), (1, .int .u64 0), (2, .int .i64 1), (7, .int .i64 2), (8, .int .i64 3)], [wrO 1, .arr TB 4])] [] [(.exit 0, sh 29 [(0, .ptr 0 0)], [wrO 1, .arr TB 0])] f) (funext op_L35b_1_eq)
theorem L35b_1_run : ∀ t s x, (manyRun L35b_1 t s).sel = some x → CodeOk Try.prog 2 (.loop (cAt Try.prog 100 1)) t s x := by
  rw [L35b_1_eqs]
  exact mkM_ok (st := st_L35b_1) (m := FU) cs_30_ok hmix false (LsOk.none _ _ _) (by kernel_rfl) (fun env y h => by rw [← stepMC_lk]; exact h)

noncomputable def fn_L35b_1_o : List Dat → Tree Step
 | [.n n0, .n n1, .n n2, .n n3, .l (Ty.int IntKind.u8) l4] =>
 (.node (decide (n3 < n2))
 (.node (!decide (IntKind.wrap .i64 ((8 : Int) * IntKind.wrap .i64 (IntKind.wrap .i64 (n1 - (1 : Int)) - n3)) < (0 : Int)))
 (.node (decide ((List.length l4 + 1) * 1 ≤ 140737488355328))
 (.leaf (Step.go [.k 0, .n n0, .n n1, .n n2, .n (IntKind.wrap .i64 (n3 + (1 : Int))), .l TB (l4 ++ [IntKind.wrap .u8 (ishr IntKind.u64 n0 (IntKind.wrap .i64 ((8 : Int) * IntKind.wrap .i64 (IntKind.wrap .i64 (n1 - (1 : Int)) - n3))))])]))
 (.bad 62))
 (.bad 83))
 (.leaf (Step.stop 0 [.l TB l4])))
 | _ => .bad 0
theorem fn_L35b_1_o_im (n0 : Int) (n1 : Int) (n2 : Int) (n3 : Int) (l4 : List (Ty.den TB)) : Imp (fn_L35b_1_o [.n n0, .n n1, .n n2, .n n3, .l TB l4]) (st_L35b_1 [.k 0, .n n0, .n n1, .n n2, .n n3, .l TB l4]) :=
(.pa [1]
(.nd (fun h0 =>
(.nd (fun h1 =>
(.nd (fun h2 =>
(.pa [1,1]
.lf)) (fun h2 =>
.none))) (fun h1 =>
.none))) (fun h0 =>
(.pa [1]
.lf))))

theorem ls_35b_ok : LsOk Try.prog (List.length ([wrO 1, .arr TB 2] : List PB)) (lsM [(1, L35b_1)] (List.length ([wrO 1, .arr TB 2] : List PB))) (bodyOf Try.prog 100) := LsOk.many fun j B hB hk c hc hi => by
  simp only [lookM] at hB
  split at hB
  · rename_i e; have := Nat.eq_of_beq_eq_true e; subst this; cases hB
    have e1 : loopAt Try.prog 100 1 = [cAt Try.prog 100 1] := loopAt_one (by kernel_rfl)
    have e2 : c ∈ loopAt Try.prog 100 1 := loopsAt_mem hc hi
    rw [e1] at e2; cases List.mem_singleton.1 e2; exact L35b_1_run
  cases hB

noncomputable def ev_35b (env : List Dat) : Tree (Nat × List Dat) := Lk.boxC false LK cs_30 100 (lsM [(1, L35b_1)] (List.length ([wrO 1, .arr TB 2] : List PB))) (mkF [.ptr 0 0, .int .u64 0, .int .i64 1] [wrO 1, .arr TB 2] [0, 1] [(.tup [], [wrO 1, .arr TB 0])] fun _ => none) env
theorem op_35b_ex : ExB ev_35b := exB _
noncomputable def op_35b := Classical.choose op_35b_ex
theorem op_35b_eq (env : List Dat) : op_35b env = (ev_35b env).sel := Classical.choose_spec op_35b_ex env
noncomputable def B35b : FBox := mkF [.ptr 0 0, .int .u64 0, .int .i64 1] [wrO 1, .arr TB 2] [0, 1] [(.tup [], [wrO 1, .arr TB 0])] op_35b
theorem B35b_ok : RunOk Try.prog 100 (boxRun B35b) := mkF_ok (op := op_35b) cs_30_ok hmix false (ls_35b_ok) (fun env x h => by rw [op_35b_eq] at h; rw [← boxC_lk]; exact h)

noncomputable def fn_35b_t : List Dat → Tree (Nat × List Dat)
 | [.n n0, .n n1, .l (Ty.int IntKind.u8) l2] =>
 (let r1 := (op_L35b_1 [.k 0, .n n0, .n n1, .n n1, .n (0 : Int), .l TB l2]);
 (.node (isK 0 [.l TB] r1)
 (.leaf ((0, [.l TB (gl TB (dOf r1) 0)])))
 (.bad 351)))
 | _ => .bad 0
theorem fn_35b_t_im (n0 : Int) (n1 : Int) (l2 : List (Ty.den TB)) : Imp (fn_35b_t [.n n0, .n n1, .l TB l2]) (ev_35b [.n n0, .n n1, .l TB l2]) :=
(.nd (fun h0 =>
(.pa [1]
.lf)) (fun h0 =>
.none))

noncomputable def cs_35b : FuncId → Option CSpec := csAdd 100 [B35a, B35b] cs_30
theorem cs_35b_ok : CsOk Try.prog cs_35b := csAdd_ok cs_30_ok fun B hB => by
  simp only [List.mem_cons, List.not_mem_nil, or_false] at hB
  rcases hB with rfl | rfl
  · exact B35a_ok
  · exact B35b_ok

noncomputable def st_L80_2 (env : List Dat) : Tree Step := Lk.stepMC false LK cs_35b 80 2 ls0 (mkM 0 [] [(sh 21 [(0, .int .i64 0), (7, .imm TI 1), (8, .int .i64 2), (9, .int .i64 3)], [])] [] [(.exit 0, sh 21 [], []), (.ret, sh 21 [(4, .bool 0)], [])] fun _ => none) env
theorem op_L80_2_ex : ExL st_L80_2 := exL _
noncomputable def op_L80_2 := Classical.choose op_L80_2_ex
theorem op_L80_2_eq (env : List Dat) : op_L80_2 env = iterS st_L80_2 FU env := Classical.choose_spec op_L80_2_ex env
noncomputable def L80_2 : MBox := mkM 0 [] [(sh 21 [(0, .int .i64 0), (7, .imm TI 1), (8, .int .i64 2), (9, .int .i64 3)], [])] [] [(.exit 0, sh 21 [], []), (.ret, sh 21 [(4, .bool 0)], [])] op_L80_2
theorem L80_2_eqs : L80_2 = mkM 0 [] [(sh 21 [(0, .int .i64 0), (7, .imm TI 1), (8, .int .i64 2), (9, .int .i64 3)], [])] [] [(.exit 0, sh 21 [], []), (.ret, sh 21 [(4, .bool 0)], [])] (iterS st_L80_2 FU) := congrArg (fun f => mkM 0 [] [(sh 21 [(0, .int .i64 0), (7, .imm TI 1), (8, .int .i64 2), (9, .int .i64 3)], [])] [] [(.exit 0, sh 21 [], []), (.ret, sh 21 [(4, .bool 0)], [])] f) (funext op_L80_2_eq)
theorem L80_2_run : ∀ t s x, (manyRun L80_2 t s).sel = some x → CodeOk Try.prog 0 (.loop (cAt Try.prog 80 2)) t s x := by
  rw [L80_2_eqs]
  exact mkM_ok (st := st_L80_2) (m := FU) cs_35b_ok hmix false (LsOk.none _ _ _) (by kernel_rfl) (fun env y h => by rw [← stepMC_lk]; exact h)

noncomputable def fn_L80_2_t : List Dat → Tree Step
 | [.n n0, .l (Ty.int IntKind.i64) l1, .n n2, .n n3] =>
 (.node (decide (n3 < n2))
 (.node (decide ((List.getD l1 (Int.toNat n3) (0 : Int) : Int) < (0 : Int)))
 (.leaf (Step.stop 1 [.b false]))
 (.node (decide ((List.getD l1 (Int.toNat n3) (0 : Int) : Int) > n0))
 (.leaf (Step.stop 1 [.b false]))
 (.leaf (Step.go [.k 0, .n n0, .l TI l1, .n n2, .n (IntKind.wrap .i64 (n3 + (1 : Int)))]))))
 (.leaf (Step.stop 0 [])))
 | _ => .bad 0
theorem fn_L80_2_t_im (n0 : Int) (l1 : List (Ty.den TI)) (n2 : Int) (n3 : Int) (g0 : 0 ≤ n3) (g1 :  n2 = (l1.length : Int)) : Imp (fn_L80_2_t [.n n0, .l TI l1, .n n2, .n n3]) (st_L80_2 [.k 0, .n n0, .l TI l1, .n n2, .n n3]) :=
(.pa [1]
(.nd (fun h0 =>
(.pt (c := (inR n3 (List.length l1))) (by kernel_rfl) (by kernel_rfl) (by (simp only [w64d, decide_eq_true_eq, decide_eq_false_iff_not, beq_iff_eq, beq_eq_false_iff_ne, bne_iff_ne, ne_eq, inR, Bool.and_eq_true, Bool.and_eq_false_iff, Bool.not_eq_true', Bool.not_eq_false', Bool.not_eq_eq_eq_not, Bool.not_true, Bool.not_false] at *; omega))
(.nd (fun h1 =>
(.pa [1,1,1]
.lf)) (fun h1 =>
(.nd (fun h2 =>
(.pa [1]
.lf)) (fun h2 =>
(.pa [1]
.lf))))))) (fun h0 =>
(.pa [1]
.lf))))

theorem ls_80_ok : LsOk Try.prog (List.length ([] : List PB)) (lsM [(2, L80_2)] (List.length ([] : List PB))) (bodyOf Try.prog 80) := LsOk.many fun j B hB hk c hc hi => by
  simp only [lookM] at hB
  split at hB
  · rename_i e; have := Nat.eq_of_beq_eq_true e; subst this; cases hB
    have e1 : loopAt Try.prog 80 2 = [cAt Try.prog 80 2] := loopAt_one (by kernel_rfl)
    have e2 : c ∈ loopAt Try.prog 80 2 := loopsAt_mem hc hi
    rw [e1] at e2; cases List.mem_singleton.1 e2; exact L80_2_run
  cases hB

noncomputable def ev_80 (env : List Dat) : Tree (Nat × List Dat) := Lk.boxC false LK cs_35b 80 (lsM [(2, L80_2)] (List.length ([] : List PB))) (mkF [.int .i64 0, .imm TI 1] [] [] [(.bool 0, [])] fun _ => none) env
theorem op_80_ex : ExB ev_80 := exB _
noncomputable def op_80 := Classical.choose op_80_ex
theorem op_80_eq (env : List Dat) : op_80 env = (ev_80 env).sel := Classical.choose_spec op_80_ex env
noncomputable def B80 : FBox := mkF [.int .i64 0, .imm TI 1] [] [] [(.bool 0, [])] op_80
theorem B80_ok : RunOk Try.prog 80 (boxRun B80) := mkF_ok (op := op_80) cs_35b_ok hmix false (ls_80_ok) (fun env x h => by rw [op_80_eq] at h; rw [← boxC_lk]; exact h)

noncomputable def fn_80_t : List Dat → Tree (Nat × List Dat)
 | [.n n0, .l (Ty.int IntKind.i64) l1] =>
 (let r1 := (op_L80_2 [.k 0, .n n0, .l TI l1, .n (↑(List.length l1) : Int), .n (0 : Int)]);
 (.node (isK 0 [] r1)
 (.leaf ((0, [.b true])))
 (.node (isK 1 [.b] r1)
 (.leaf ((0, [.b (gb (dOf r1) 0)])))
 (.bad 351))))
 | _ => .bad 0
theorem fn_80_t_im (n0 : Int) (l1 : List (Ty.den TI)) : Imp (fn_80_t [.n n0, .l TI l1]) (ev_80 [.n n0, .l TI l1]) :=
(.nd (fun h0 =>
(.pa [1]
.lf)) (fun h0 =>
(.nd (fun h1 =>
(.pa [1]
.lf)) (fun h1 =>
.none))))

noncomputable def cs_80 : FuncId → Option CSpec := csLend 80 B80 cs_35b
theorem cs_80_ok : CsOk Try.prog cs_80 := csLend_ok cs_35b_ok B80_ok

noncomputable def st_L88_1 (env : List Dat) : Tree Step := Lk.stepMC false LK cs_80 88 1 ls0 (mkM 3 [0, 1, 2] [(sh 16 [(0, .ptr 0 0), (6, .own 1), (7, .int .i64 0), (8, .int .i64 1)], [wrO 2, .arr TL 2, .arr TB 3])] [] [(.exit 0, sh 16 [(0, .ptr 0 0)], [wrO 2, .gone, .arr TB 0])] fun _ => none) env
theorem op_L88_1_ex : ExL st_L88_1 := exL _
noncomputable def op_L88_1 := Classical.choose op_L88_1_ex
theorem op_L88_1_eq (env : List Dat) : op_L88_1 env = iterS st_L88_1 FU env := Classical.choose_spec op_L88_1_ex env
noncomputable def L88_1 : MBox := mkM 3 [0, 1, 2] [(sh 16 [(0, .ptr 0 0), (6, .own 1), (7, .int .i64 0), (8, .int .i64 1)], [wrO 2, .arr TL 2, .arr TB 3])] [] [(.exit 0, sh 16 [(0, .ptr 0 0)], [wrO 2, .gone, .arr TB 0])] op_L88_1
theorem L88_1_eqs : L88_1 = mkM 3 [0, 1, 2] [(sh 16 [(0, .ptr 0 0), (6, .own 1), (7, .int .i64 0), (8, .int .i64 1)], [wrO 2, .arr TL 2, .arr TB 3])] [] [(.exit 0, sh 16 [(0, .ptr 0 0)], [wrO 2, .gone, .arr TB 0])] (iterS st_L88_1 FU) := congrArg (fun f => mkM 3 [0, 1, 2] [(sh 16 [(0, .ptr 0 0), (6, .own 1), (7, .int .i64 0), (8, .int .i64 1)], [wrO 2, .arr TL 2, .arr TB 3])] [] [(.exit 0, sh 16 [(0, .ptr 0 0)], [wrO 2, .gone, .arr TB 0])] f) (funext op_L88_1_eq)
theorem L88_1_run : ∀ t s x, (manyRun L88_1 t s).sel = some x → CodeOk Try.prog 3 (.loop (cAt Try.prog 88 1)) t s x := by
  rw [L88_1_eqs]
  exact mkM_ok (st := st_L88_1) (m := FU) cs_80_ok hmix false (LsOk.none _ _ _) (by kernel_rfl) (fun env y h => by rw [← stepMC_lk]; exact h)

noncomputable def fn_L88_1_t : List Dat → Tree Step
 | [.n n0, .n n1, .l (Ty.int IntKind.u64) l2, .l (Ty.int IntKind.u8) l3] =>
 (.node (decide (n1 < n0))
 (let r1 := (op_35b [.n (List.getD l2 (Int.toNat n1) (0 : Int)), .n (8 : Int), .l TB l3]);
 (.node (isK 0 [.l TB] r1)
 (.leaf (Step.go [.k 0, .n n0, .n (IntKind.wrap .i64 (n1 + (1 : Int))), .l TL l2, .l TB (gl TB (dOf r1) 0)]))
 (.bad 351)))
 (.leaf (Step.stop 0 [.l TB l3])))
 | _ => .bad 0
theorem fn_L88_1_t_im (n0 : Int) (n1 : Int) (l2 : List (Ty.den TL)) (l3 : List (Ty.den TB)) (g0 : 0 ≤ n1) (g1 :  n0 = (l2.length : Int)) : Imp (fn_L88_1_t [.n n0, .n n1, .l TL l2, .l TB l3]) (st_L88_1 [.k 0, .n n0, .n n1, .l TL l2, .l TB l3]) :=
(.pa [1]
(.nd (fun h0 =>
(.pt (c := (inR n1 (List.length l2))) (by kernel_rfl) (by kernel_rfl) (by (simp only [w64d, decide_eq_true_eq, decide_eq_false_iff_not, beq_iff_eq, beq_eq_false_iff_ne, bne_iff_ne, ne_eq, inR, Bool.and_eq_true, Bool.and_eq_false_iff, Bool.not_eq_true', Bool.not_eq_false', Bool.not_eq_eq_eq_not, Bool.not_true, Bool.not_false] at *; omega))
(.pa [1,1,0,0,0,0,1,1]
(.nd (fun h1 =>
(.pa [1,0,1,1,1]
.lf)) (fun h1 =>
.none))))) (fun h0 =>
(.pa [1]
.lf))))

theorem ls_88_ok : LsOk Try.prog (List.length ([wrO 2, .arr TL 0, .arr TB 1] : List PB)) (lsM [(1, L88_1)] (List.length ([wrO 2, .arr TL 0, .arr TB 1] : List PB))) (bodyOf Try.prog 88) := LsOk.many fun j B hB hk c hc hi => by
  simp only [lookM] at hB
  split at hB
  · rename_i e; have := Nat.eq_of_beq_eq_true e; subst this; cases hB
    have e1 : loopAt Try.prog 88 1 = [cAt Try.prog 88 1] := loopAt_one (by kernel_rfl)
    have e2 : c ∈ loopAt Try.prog 88 1 := loopsAt_mem hc hi
    rw [e1] at e2; cases List.mem_singleton.1 e2; exact L88_1_run
  cases hB

noncomputable def ev_88 (env : List Dat) : Tree (Nat × List Dat) := Lk.boxC false LK cs_80 88 (lsM [(1, L88_1)] (List.length ([wrO 2, .arr TL 0, .arr TB 1] : List PB))) (mkF [.ptr 0 0, .own 1] [wrO 2, .arr TL 0, .arr TB 1] [0, 1, 2] [(.tup [], [wrO 2, .gone, .arr TB 0])] fun _ => none) env
theorem op_88_ex : ExB ev_88 := exB _
noncomputable def op_88 := Classical.choose op_88_ex
theorem op_88_eq (env : List Dat) : op_88 env = (ev_88 env).sel := Classical.choose_spec op_88_ex env
noncomputable def B88 : FBox := mkF [.ptr 0 0, .own 1] [wrO 2, .arr TL 0, .arr TB 1] [0, 1, 2] [(.tup [], [wrO 2, .gone, .arr TB 0])] op_88
theorem B88_ok : RunOk Try.prog 88 (boxRun B88) := mkF_ok (op := op_88) cs_80_ok hmix false (ls_88_ok) (fun env x h => by rw [op_88_eq] at h; rw [← boxC_lk]; exact h)

noncomputable def fn_88_t : List Dat → Tree (Nat × List Dat)
 | [.l (Ty.int IntKind.u64) l0, .l (Ty.int IntKind.u8) l1] =>
 (let r1 := (op_L88_1 [.k 0, .n (↑(List.length l0) : Int), .n (0 : Int), .l TL l0, .l TB l1]);
 (.node (isK 0 [.l TB] r1)
 (.leaf ((0, [.l TB (gl TB (dOf r1) 0)])))
 (.bad 351)))
 | _ => .bad 0
theorem fn_88_t_im (l0 : List (Ty.den TL)) (l1 : List (Ty.den TB)) : Imp (fn_88_t [.l TL l0, .l TB l1]) (ev_88 [.l TL l0, .l TB l1]) :=
(.nd (fun h0 =>
(.pa [1]
.lf)) (fun h0 =>
.none))

noncomputable def cs_88 : FuncId → Option CSpec := csAdd 88 [B88] cs_80
theorem cs_88_ok : CsOk Try.prog cs_88 := csAdd_ok cs_80_ok fun B hB => by
  cases List.mem_singleton.1 hB
  exact B88_ok

noncomputable def st_L46_2 (env : List Dat) : Tree Step := Lk.stepMC false LK cs_88 46 2 ls0 (mkM 0 [] [(sh 40 [(1, .ptr 0 0), (7, .imm TC 0), (8, .int .i64 1), (9, .int .i64 2)], [inB 3])] [] [(.exit 0, sh 40 [(1, .ptr 0 0)], [inB 0]), (.ret, sh 40 [(2, .bool 0)], [])] fun _ => none) env
theorem op_L46_2_ex : ExL st_L46_2 := exL _
noncomputable def op_L46_2 := Classical.choose op_L46_2_ex
theorem op_L46_2_eq (env : List Dat) : op_L46_2 env = iterS st_L46_2 FU env := Classical.choose_spec op_L46_2_ex env
noncomputable def L46_2 : MBox := mkM 0 [] [(sh 40 [(1, .ptr 0 0), (7, .imm TC 0), (8, .int .i64 1), (9, .int .i64 2)], [inB 3])] [] [(.exit 0, sh 40 [(1, .ptr 0 0)], [inB 0]), (.ret, sh 40 [(2, .bool 0)], [])] op_L46_2
theorem L46_2_eqs : L46_2 = mkM 0 [] [(sh 40 [(1, .ptr 0 0), (7, .imm TC 0), (8, .int .i64 1), (9, .int .i64 2)], [inB 3])] [] [(.exit 0, sh 40 [(1, .ptr 0 0)], [inB 0]), (.ret, sh 40 [(2, .bool 0)], [])] (iterS st_L46_2 FU) := congrArg (fun f => mkM 0 [] [(sh 40 [(1, .ptr 0 0), (7, .imm TC 0), (8, .int .i64 1), (9, .int .i64 2)], [inB 3])] [] [(.exit 0, sh 40 [(1, .ptr 0 0)], [inB 0]), (.ret, sh 40 [(2, .bool 0)], [])] f) (funext op_L46_2_eq)
theorem L46_2_run : ∀ t s x, (manyRun L46_2 t s).sel = some x → CodeOk Try.prog 0 (.loop (cAt Try.prog 46 2)) t s x := by
  rw [L46_2_eqs]
  exact mkM_ok (st := st_L46_2) (m := FU) cs_88_ok hmix false (LsOk.none _ _ _) (by kernel_rfl) (fun env y h => by rw [← stepMC_lk]; exact h)

noncomputable def fn_L46_2_t : List Dat → Tree Step
 | [.l (Ty.pair (Ty.int IntKind.u8) (Ty.int IntKind.i64)) l0, .n n1, .n n2, .n n3, .n n4, .n n5, .n n6, .n n7, .l (Ty.pair (Ty.int IntKind.u8) (Ty.int IntKind.i64)) l8] =>
 (.node (decide (n2 < n1))
 (.node (decide ((Prod.fst (List.getD l0 (Int.toNat n2) (Ty.dflt TC)) : Int) < (1 : Int)))
 (.leaf (Step.stop 1 [.b false]))
 (.node (decide ((Prod.fst (List.getD l0 (Int.toNat n2) (Ty.dflt TC)) : Int) > (3 : Int)))
 (.leaf (Step.stop 1 [.b false]))
 (let r1 := (op_80 [.n (63 : Int), .l TI [Prod.snd (List.getD l0 (Int.toNat n2) (Ty.dflt TC))]]);
 (.node (isK 0 [.b] r1)
 (.node (!gb (dOf r1) 0)
 (.leaf (Step.stop 1 [.b false]))
 (.leaf (Step.go [.k 0, .l TC l0, .n n1, .n (IntKind.wrap .i64 (n2 + (1 : Int))), .n n3, .n n4, .n n5, .n n6, .n n7, .l TC l0])))
 (.bad 351)))))
 (.leaf (Step.stop 0 [.n n3, .n n4, .n n5, .n n6, .n n7, .l TC l0])))
 | _ => .bad 0
theorem fn_L46_2_t_im (l0 : List (Ty.den TC)) (n1 : Int) (n2 : Int) (n3 : Int) (n4 : Int) (n5 : Int) (n6 : Int) (n7 : Int) (l8 : List (Ty.den TC)) (g0 : 0 ≤ n2) (g1 :  n1 = (l0.length : Int)) : Imp (fn_L46_2_t [.l TC l0, .n n1, .n n2, .n n3, .n n4, .n n5, .n n6, .n n7, .l TC l8]) (st_L46_2 [.k 0, .l TC l0, .n n1, .n n2, .n n3, .n n4, .n n5, .n n6, .n n7, .l TC l0]) :=
(.pa [1]
(.nd (fun h0 =>
(.pt (c := (inR n2 (List.length l0))) (by kernel_rfl) (by kernel_rfl) (by (simp only [w64d, decide_eq_true_eq, decide_eq_false_iff_not, beq_iff_eq, beq_eq_false_iff_ne, bne_iff_ne, ne_eq, inR, Bool.and_eq_true, Bool.and_eq_false_iff, Bool.not_eq_true', Bool.not_eq_false', Bool.not_eq_eq_eq_not, Bool.not_true, Bool.not_false] at *; omega))
(.nd (fun h1 =>
(.pa [1,1,1,1,1]
.lf)) (fun h1 =>
(.nd (fun h2 =>
(.pa [1,1,1]
.lf)) (fun h2 =>
(.nd (fun h3 =>
(.pa [1]
(.nd (fun h4 =>
(.pa [1]
.lf)) (fun h4 =>
(.pa [1]
.lf))))) (fun h3 =>
.none)))))))) (fun h0 =>
(.pa [1]
.lf))))

theorem ls_46_ok : LsOk Try.prog (List.length ([] : List PB)) (lsM [(2, L46_2)] (List.length ([] : List PB))) (bodyOf Try.prog 46) := LsOk.many fun j B hB hk c hc hi => by
  simp only [lookM] at hB
  split at hB
  · rename_i e; have := Nat.eq_of_beq_eq_true e; subst this; cases hB
    have e1 : loopAt Try.prog 46 2 = [cAt Try.prog 46 2] := loopAt_one (by kernel_rfl)
    have e2 : c ∈ loopAt Try.prog 46 2 := loopsAt_mem hc hi
    rw [e1] at e2; cases List.mem_singleton.1 e2; exact L46_2_run
  cases hB

noncomputable def ev_46 (env : List Dat) : Tree (Nat × List Dat) := Lk.boxC false LK cs_88 46 (lsM [(2, L46_2)] (List.length ([] : List PB))) (mkF [inV 0] [] [] [(.bool 0, [])] fun _ => none) env
theorem op_46_ex : ExB ev_46 := exB _
noncomputable def op_46 := Classical.choose op_46_ex
theorem op_46_eq (env : List Dat) : op_46 env = (ev_46 env).sel := Classical.choose_spec op_46_ex env
noncomputable def B46 : FBox := mkF [inV 0] [] [] [(.bool 0, [])] op_46
theorem B46_ok : RunOk Try.prog 46 (boxRun B46) := mkF_ok (op := op_46) cs_88_ok hmix false (ls_46_ok) (fun env x h => by rw [op_46_eq] at h; rw [← boxC_lk]; exact h)

noncomputable def fn_46_t : List Dat → Tree (Nat × List Dat)
 | [.n n0, .n n1, .n n2, .n n3, .n n4, .l (Ty.pair (Ty.int IntKind.u8) (Ty.int IntKind.i64)) l5] =>
 (let r1 := (op_L46_2 [.k 0, .l TC l5, .n (↑(List.length l5) : Int), .n (0 : Int), .n n0, .n n1, .n n2, .n n3, .n n4, .l TC l5]);
 (.node (isK 0 [.n, .n, .n, .n, .n, .l TC] r1)
 (let r2 := (op_80 [.n (1099511627776 : Int), .l TI [gn (dOf r1) 1]]);
 (.node (isK 0 [.b] r2)
 (.node (gb (dOf r2) 0)
 (.leaf ((0, [.b (decide ((↑(List.length (gl TC (dOf r1) 5)) : Int) ≤ (8 : Int)))])))
 (.leaf ((0, [.b false]))))
 (.bad 351)))
 (.node (isK 1 [.b] r1)
 (.leaf ((0, [.b (gb (dOf r1) 0)])))
 (.bad 351))))
 | _ => .bad 0
theorem fn_46_t_im (n0 : Int) (n1 : Int) (n2 : Int) (n3 : Int) (n4 : Int) (l5 : List (Ty.den TC)) : Imp (fn_46_t [.n n0, .n n1, .n n2, .n n3, .n n4, .l TC l5]) (ev_46 [.n n0, .n n1, .n n2, .n n3, .n n4, .l TC l5]) :=
(.nd (fun h0 =>
(.nd (fun h1 =>
(.pa [1]
(.nd (fun h2 =>
(.pa [1]
.lf)) (fun h2 =>
(.pa [0,1]
.lf))))) (fun h1 =>
.none))) (fun h0 =>
(.nd (fun h1 =>
(.pa [1]
.lf)) (fun h1 =>
.none))))

noncomputable def cs_46 : FuncId → Option CSpec := csLend 46 B46 cs_88
theorem cs_46_ok : CsOk Try.prog cs_46 := csLend_ok cs_88_ok B46_ok

noncomputable def st_L63_7 (env : List Dat) : Tree Step := Lk.stepMC false LK cs_46 63 7 ls0 (mkM 2 [0, 1] [(sh 54 [(0, .ptr 0 0), (38, .imm TC 0), (39, .int .i64 1), (40, .int .i64 2)], [wrO 1, .arr TB 3])] [] [(.exit 0, sh 54 [(0, .ptr 0 0)], [wrO 1, .arr TB 0])] fun _ => none) env
theorem op_L63_7_ex : ExL st_L63_7 := exL _
noncomputable def op_L63_7 := Classical.choose op_L63_7_ex
theorem op_L63_7_eq (env : List Dat) : op_L63_7 env = iterS st_L63_7 FU env := Classical.choose_spec op_L63_7_ex env
noncomputable def L63_7 : MBox := mkM 2 [0, 1] [(sh 54 [(0, .ptr 0 0), (38, .imm TC 0), (39, .int .i64 1), (40, .int .i64 2)], [wrO 1, .arr TB 3])] [] [(.exit 0, sh 54 [(0, .ptr 0 0)], [wrO 1, .arr TB 0])] op_L63_7
theorem L63_7_eqs : L63_7 = mkM 2 [0, 1] [(sh 54 [(0, .ptr 0 0), (38, .imm TC 0), (39, .int .i64 1), (40, .int .i64 2)], [wrO 1, .arr TB 3])] [] [(.exit 0, sh 54 [(0, .ptr 0 0)], [wrO 1, .arr TB 0])] (iterS st_L63_7 FU) := congrArg (fun f => mkM 2 [0, 1] [(sh 54 [(0, .ptr 0 0), (38, .imm TC 0), (39, .int .i64 1), (40, .int .i64 2)], [wrO 1, .arr TB 3])] [] [(.exit 0, sh 54 [(0, .ptr 0 0)], [wrO 1, .arr TB 0])] f) (funext op_L63_7_eq)
theorem L63_7_run : ∀ t s x, (manyRun L63_7 t s).sel = some x → CodeOk Try.prog 2 (.loop (cAt Try.prog 63 7)) t s x := by
  rw [L63_7_eqs]
  exact mkM_ok (st := st_L63_7) (m := FU) cs_46_ok hmix false (LsOk.none _ _ _) (by kernel_rfl) (fun env y h => by rw [← stepMC_lk]; exact h)

noncomputable def fn_L63_7_t : List Dat → Tree Step
 | [.l (Ty.pair (Ty.int IntKind.u8) (Ty.int IntKind.i64)) l0, .n n1, .n n2, .l (Ty.int IntKind.u8) l3] =>
 (.node (decide (n2 < n1))
 (let r1 := (op_35b [.n (IntKind.wrap .u64 (Prod.fst (List.getD l0 (Int.toNat n2) (Ty.dflt TC)))), .n (1 : Int), .l TB l3]);
 (.node (isK 0 [.l TB] r1)
 (let r2 := (op_35b [.n (IntKind.wrap .u64 (IntKind.wrap .u8 (Prod.snd (List.getD l0 (Int.toNat n2) (Ty.dflt TC))))), .n (1 : Int), .l TB (gl TB (dOf r1) 0)]);
 (.node (isK 0 [.l TB] r2)
 (.leaf (Step.go [.k 0, .l TC l0, .n n1, .n (IntKind.wrap .i64 (n2 + (1 : Int))), .l TB (gl TB (dOf r2) 0)]))
 (.bad 351)))
 (.bad 351)))
 (.leaf (Step.stop 0 [.l TB l3])))
 | _ => .bad 0
theorem fn_L63_7_t_im (l0 : List (Ty.den TC)) (n1 : Int) (n2 : Int) (l3 : List (Ty.den TB)) (g0 : 0 ≤ n2) (g1 :  n1 = (l0.length : Int)) : Imp (fn_L63_7_t [.l TC l0, .n n1, .n n2, .l TB l3]) (st_L63_7 [.k 0, .l TC l0, .n n1, .n n2, .l TB l3]) :=
(.pa [1]
(.nd (fun h0 =>
(.pt (c := (inR n2 (List.length l0))) (by kernel_rfl) (by kernel_rfl) (by (simp only [w64d, decide_eq_true_eq, decide_eq_false_iff_not, beq_iff_eq, beq_eq_false_iff_ne, bne_iff_ne, ne_eq, inR, Bool.and_eq_true, Bool.and_eq_false_iff, Bool.not_eq_true', Bool.not_eq_false', Bool.not_eq_eq_eq_not, Bool.not_true, Bool.not_false] at *; omega))
(.pa [1,1,0,1,1]
(.nd (fun h1 =>
(.pa [1,0,0,0,0,1,1,1,1,0,1,1]
(.nd (fun h2 =>
(.pa [1,0,0,0,0,1,1,1]
.lf)) (fun h2 =>
.none)))) (fun h1 =>
.none))))) (fun h0 =>
(.pa [1]
.lf))))

theorem ls_63_ok : LsOk Try.prog (List.length ([wrO 1, .arr TB 6] : List PB)) (lsM [(7, L63_7)] (List.length ([wrO 1, .arr TB 6] : List PB))) (bodyOf Try.prog 63) := LsOk.many fun j B hB hk c hc hi => by
  simp only [lookM] at hB
  split at hB
  · rename_i e; have := Nat.eq_of_beq_eq_true e; subst this; cases hB
    have e1 : loopAt Try.prog 63 7 = [cAt Try.prog 63 7] := loopAt_one (by kernel_rfl)
    have e2 : c ∈ loopAt Try.prog 63 7 := loopsAt_mem hc hi
    rw [e1] at e2; cases List.mem_singleton.1 e2; exact L63_7_run
  cases hB

noncomputable def ev_63 (env : List Dat) : Tree (Nat × List Dat) := Lk.boxC false LK cs_46 63 (lsM [(7, L63_7)] (List.length ([wrO 1, .arr TB 6] : List PB))) (mkF [.ptr 0 0, inV 0] [wrO 1, .arr TB 6] [0, 1] [(.tup [], [wrO 1, .arr TB 0])] fun _ => none) env
theorem op_63_ex : ExB ev_63 := exB _
noncomputable def op_63 := Classical.choose op_63_ex
theorem op_63_eq (env : List Dat) : op_63 env = (ev_63 env).sel := Classical.choose_spec op_63_ex env
noncomputable def B63 : FBox := mkF [.ptr 0 0, inV 0] [wrO 1, .arr TB 6] [0, 1] [(.tup [], [wrO 1, .arr TB 0])] op_63
theorem B63_ok : RunOk Try.prog 63 (boxRun B63) := mkF_ok (op := op_63) cs_46_ok hmix false (ls_63_ok) (fun env x h => by rw [op_63_eq] at h; rw [← boxC_lk]; exact h)

noncomputable def fn_63_t : List Dat → Tree (Nat × List Dat)
 | [.n n0, .n n1, .n n2, .n n3, .n n4, .l (Ty.pair (Ty.int IntKind.u8) (Ty.int IntKind.i64)) l5, .l (Ty.int IntKind.u8) l6] =>
 (let r1 := (op_35b [.n (IntKind.wrap .u64 n0), .n (1 : Int), .l TB l6]);
 (.node (isK 0 [.l TB] r1)
 (let r2 := (op_88 [.l TL [IntKind.wrap .u64 n1, n2], .l TB (gl TB (dOf r1) 0)]);
 (.node (isK 0 [.l TB] r2)
 (let r3 := (op_35b [.n (IntKind.wrap .u64 n3), .n (4 : Int), .l TB (gl TB (dOf r2) 0)]);
 (.node (isK 0 [.l TB] r3)
 (let r4 := (op_35b [.n (IntKind.wrap .u64 n4), .n (4 : Int), .l TB (gl TB (dOf r3) 0)]);
 (.node (isK 0 [.l TB] r4)
 (let r5 := (op_35b [.n (IntKind.wrap .u64 (IntKind.wrap .u8 (↑(List.length l5) : Int))), .n (1 : Int), .l TB (gl TB (dOf r4) 0)]);
 (.node (isK 0 [.l TB] r5)
 (let r6 := (op_L63_7 [.k 0, .l TC l5, .n (↑(List.length l5) : Int), .n (0 : Int), .l TB (gl TB (dOf r5) 0)]);
 (.node (isK 0 [.l TB] r6)
 (.leaf ((0, [.l TB (gl TB (dOf r6) 0)])))
 (.bad 351)))
 (.bad 351)))
 (.bad 351)))
 (.bad 351)))
 (.bad 351)))
 (.bad 351)))
 | _ => .bad 0
theorem fn_63_t_im (n0 : Int) (n1 : Int) (n2 : Int) (n3 : Int) (n4 : Int) (l5 : List (Ty.den TC)) (l6 : List (Ty.den TB)) : Imp (fn_63_t [.n n0, .n n1, .n n2, .n n3, .n n4, .l TC l5, .l TB l6]) (ev_63 [.n n0, .n n1, .n n2, .n n3, .n n4, .l TC l5, .l TB l6]) :=
(.pa [1,1,0,1,1]
(.nd (fun h0 =>
(.pa [1,0,0,0,0,1,1,1]
(.nd (fun h1 =>
(.pa [1,1,1,0,0,0,1,1]
(.nd (fun h2 =>
(.pa [1,0,0,1,1,1,1,0,0,0,1,1]
(.nd (fun h3 =>
(.pa [1,0,0,1,1,1,1,0,1,1]
(.nd (fun h4 =>
(.pa [1,0,0,0,0,1,1]
(.nd (fun h5 =>
(.pa [1]
.lf)) (fun h5 =>
.none)))) (fun h4 =>
.none)))) (fun h3 =>
.none)))) (fun h2 =>
.none)))) (fun h1 =>
.none)))) (fun h0 =>
.none)))

noncomputable def cs_63 : FuncId → Option CSpec := csAdd 63 [B63] cs_46
theorem cs_63_ok : CsOk Try.prog cs_63 := csAdd_ok cs_46_ok fun B hB => by
  cases List.mem_singleton.1 hB
  exact B63_ok

noncomputable def ev_60 (env : List Dat) : Tree (Nat × List Dat) := Lk.boxC false LK cs_63 60 ls0 (mkF [liV 0] [] [] [(.bool 0, [])] fun _ => none) env
theorem op_60_ex : ExB ev_60 := exB _
noncomputable def op_60 := Classical.choose op_60_ex
theorem op_60_eq (env : List Dat) : op_60 env = (ev_60 env).sel := Classical.choose_spec op_60_ex env
noncomputable def B60 : FBox := mkF [liV 0] [] [] [(.bool 0, [])] op_60
theorem B60_ok : RunOk Try.prog 60 (boxRun B60) := mkF_ok (op := op_60) cs_63_ok hmix false (LsOk.none _ _ _) (fun env x h => by rw [op_60_eq] at h; rw [← boxC_lk]; exact h)

noncomputable def fn_60_t : List Dat → Tree (Nat × List Dat)
 | [.n n0, .n n1, .n n2, .n n3, .l (Ty.int IntKind.u8) l4] =>
 (let r1 := (op_80 [.n (4611686018427387904 : Int), .l TI [n2, n3]]);
 (.node (isK 0 [.b] r1)
 (.node (gb (dOf r1) 0)
 (.leaf ((0, [.b (decide ((↑(List.length l4) : Int) ≤ (2048 : Int)))])))
 (.leaf ((0, [.b false]))))
 (.bad 351)))
 | _ => .bad 0
theorem fn_60_t_im (n0 : Int) (n1 : Int) (n2 : Int) (n3 : Int) (l4 : List (Ty.den TB)) : Imp (fn_60_t [.n n0, .n n1, .n n2, .n n3, .l TB l4]) (ev_60 [.n n0, .n n1, .n n2, .n n3, .l TB l4]) :=
(.nd (fun h0 =>
(.pa [1]
(.nd (fun h1 =>
(.pa [1]
.lf)) (fun h1 =>
(.pa [0,1]
.lf))))) (fun h0 =>
.none))

noncomputable def cs_60 : FuncId → Option CSpec := csLend 60 B60 cs_63
theorem cs_60_ok : CsOk Try.prog cs_60 := csLend_ok cs_63_ok B60_ok

noncomputable def ev_71 (env : List Dat) : Tree (Nat × List Dat) := Lk.boxC false LK cs_60 71 ls0 (mkF [.ptr 0 0, liV 0] [wrO 1, .arr TB 5] [0, 1] [(.tup [], [wrO 1, .arr TB 0])] fun _ => none) env
theorem op_71_ex : ExB ev_71 := exB _
noncomputable def op_71 := Classical.choose op_71_ex
theorem op_71_eq (env : List Dat) : op_71 env = (ev_71 env).sel := Classical.choose_spec op_71_ex env
noncomputable def B71 : FBox := mkF [.ptr 0 0, liV 0] [wrO 1, .arr TB 5] [0, 1] [(.tup [], [wrO 1, .arr TB 0])] op_71
theorem B71_ok : RunOk Try.prog 71 (boxRun B71) := mkF_ok (op := op_71) cs_60_ok hmix false (LsOk.none _ _ _) (fun env x h => by rw [op_71_eq] at h; rw [← boxC_lk]; exact h)

noncomputable def fn_71_t : List Dat → Tree (Nat × List Dat)
 | [.n n0, .n n1, .n n2, .n n3, .l (Ty.int IntKind.u8) l4, .l (Ty.int IntKind.u8) l5] =>
 (let r1 := (op_35b [.n (IntKind.wrap .u64 n0), .n (1 : Int), .l TB l5]);
 (.node (isK 0 [.l TB] r1)
 (let r2 := (op_35b [.n (IntKind.wrap .u64 n1), .n (1 : Int), .l TB (gl TB (dOf r1) 0)]);
 (.node (isK 0 [.l TB] r2)
 (let r3 := (op_88 [.l TL [IntKind.wrap .u64 n2, IntKind.wrap .u64 n3], .l TB (gl TB (dOf r2) 0)]);
 (.node (isK 0 [.l TB] r3)
 (let r4 := (op_35b [.n (IntKind.wrap .u64 (IntKind.wrap .u16 (↑(List.length l4) : Int))), .n (2 : Int), .l TB (gl TB (dOf r3) 0)]);
 (.node (isK 0 [.l TB] r4)
 (.node (decide ((List.length (gl TB (dOf r4) 0) + List.length l4) * 1 ≤ 140737488355328))
 (.leaf ((0, [.l TB (gl TB (dOf r4) 0 ++ l4)])))
 (.bad 62))
 (.bad 351)))
 (.bad 351)))
 (.bad 351)))
 (.bad 351)))
 | _ => .bad 0
theorem fn_71_t_im (n0 : Int) (n1 : Int) (n2 : Int) (n3 : Int) (l4 : List (Ty.den TB)) (l5 : List (Ty.den TB)) : Imp (fn_71_t [.n n0, .n n1, .n n2, .n n3, .l TB l4, .l TB l5]) (ev_71 [.n n0, .n n1, .n n2, .n n3, .l TB l4, .l TB l5]) :=
(.pa [1,1,0,1,1]
(.nd (fun h0 =>
(.pa [1,0,0,0,0,1,1,1,1,0,1,1]
(.nd (fun h1 =>
(.pa [1,0,0,0,0,1,1,1]
(.nd (fun h2 =>
(.pa [1,1,1,0,0,1,1]
(.nd (fun h3 =>
(.pa [1,0,0,0,1,1,1,1,0,0,0,0,0,1]
(.nd (fun h4 =>
(.pa [1,1,1]
.lf)) (fun h4 =>
.none)))) (fun h3 =>
.none)))) (fun h2 =>
.none)))) (fun h1 =>
.none)))) (fun h0 =>
.none)))

noncomputable def cs_71 : FuncId → Option CSpec := csAdd 71 [B71] cs_60
theorem cs_71_ok : CsOk Try.prog cs_71 := csAdd_ok cs_60_ok fun B hB => by
  cases List.mem_singleton.1 hB
  exact B71_ok

noncomputable def ev_9p (env : List Dat) : Tree (Nat × List Dat) := Lk.boxCN [(0, TB)] false LK cs_71 9 ls0 (mkF [inV 0] [] [] [(.own 0, [.arr TB 0])] fun _ => none) env
theorem op_9p_ex : ExB ev_9p := exB _
noncomputable def op_9p := Classical.choose op_9p_ex
theorem op_9p_eq (env : List Dat) : op_9p env = (ev_9p env).sel := Classical.choose_spec op_9p_ex env
noncomputable def B9p : FBox := mkF [inV 0] [] [] [(.own 0, [.arr TB 0])] op_9p
theorem B9p_ok : RunOk Try.prog 9 (boxRun B9p) := mkFN_ok (nils := [(0, TB)]) (op := op_9p) cs_71_ok hmix false (LsOk.none _ _ _) (fun env x h => by rw [op_9p_eq] at h; rw [← boxCN_lk]; exact h)

noncomputable def fn_9p_t : List Dat → Tree (Nat × List Dat)
 | [.n n0, .n n1, .n n2, .n n3, .n n4, .l (Ty.pair (Ty.int IntKind.u8) (Ty.int IntKind.i64)) l5] =>
 (let r1 := (op_46 [.n n0, .n n1, .n n2, .n n3, .n n4, .l TC l5]);
 (.node (isK 0 [.b] r1)
 (.node (gb (dOf r1) 0)
 (let r2 := (op_35a [.n (1 : Int), .n (1 : Int)]);
 (.node (isK 0 [] r2)
 (.bad 340)
 (.node (isK 1 [.l TB] r2)
 (let r3 := (op_63 [.n n0, .n n1, .n n2, .n n3, .n n4, .l TC l5, .l TB (gl TB (dOf r2) 0)]);
 (.node (isK 0 [.l TB] r3)
 (let r4 := (op_31 [.l TB (gl TB (dOf r3) 0)]);
 (.node (isK 0 [.l TB] r4)
 (let r5 := (op_q12 [.l TB (gl TB (dOf r4) 0)]);
 (.node (isK 0 [.n] r5)
 (let r6 := (op_35b [.n (IntKind.wrap .u64 (gn (dOf r5) 0)), .n (4 : Int), .l TB (gl TB (dOf r3) 0)]);
 (.node (isK 0 [.l TB] r6)
 (let r7 := (op_31 [.l TB (gl TB (dOf r6) 0)]);
 (.node (isK 0 [.l TB] r7)
 (.leaf ((0, [.l TB (gl TB (dOf r7) 0)])))
 (.bad 351)))
 (.bad 351)))
 (.bad 351)))
 (.bad 351)))
 (.bad 351)))
 (.bad 351))))
 (.leaf ((0, [.l TB []]))))
 (.bad 351)))
 | _ => .bad 0
theorem fn_9p_t_im (n0 : Int) (n1 : Int) (n2 : Int) (n3 : Int) (n4 : Int) (l5 : List (Ty.den TC)) : Imp (fn_9p_t [.n n0, .n n1, .n n2, .n n3, .n n4, .l TC l5]) (ev_9p [.n n0, .n n1, .n n2, .n n3, .n n4, .l TC l5]) :=
(.pa [1,1]
(.nd (fun h0 =>
(.pa [1]
(.nd (fun h1 =>
(.pa [1,1,1,0,1,1]
(.nd (fun h2 =>
(.pa [1,0,0,0,0,1,1,1,1]
.none)) (fun h2 =>
(.nd (fun h3 =>
(.pa [1,0,0,0,0,1,1,1,1]
(.nd (fun h4 =>
(.pa [1,1,1,0]
(.nd (fun h5 =>
(.pa [1,1]
(.nd (fun h6 =>
(.pa [1,1,1,0,0,0,1,1]
(.nd (fun h7 =>
(.pa [1,0,0,1,1,1,0]
(.nd (fun h8 =>
(.pa [1,1,1,1,1]
.lf)) (fun h8 =>
.none)))) (fun h7 =>
.none)))) (fun h6 =>
.none)))) (fun h5 =>
.none)))) (fun h4 =>
.none)))) (fun h3 =>
.none)))))) (fun h1 =>
(.pa [0,0,0,0,0,0,0,0,0,0,1,1]
.lf))))) (fun h0 =>
.none)))

noncomputable def cs_9p : FuncId → Option CSpec := csLend 9 B9p cs_71
theorem cs_9p_ok : CsOk Try.prog cs_9p := csLend_ok cs_71_ok B9p_ok

noncomputable def ev_10p (env : List Dat) : Tree (Nat × List Dat) := Lk.boxCN [(0, TB)] false LK cs_9p 10 ls0 (mkF [ouV 0] [] [] [(.own 0, [.arr TB 0])] fun _ => none) env
theorem op_10p_ex : ExB ev_10p := exB _
noncomputable def op_10p := Classical.choose op_10p_ex
theorem op_10p_eq (env : List Dat) : op_10p env = (ev_10p env).sel := Classical.choose_spec op_10p_ex env
noncomputable def B10p : FBox := mkF [ouV 0] [] [] [(.own 0, [.arr TB 0])] op_10p
theorem B10p_ok : RunOk Try.prog 10 (boxRun B10p) := mkFN_ok (nils := [(0, TB)]) (op := op_10p) cs_9p_ok hmix false (LsOk.none _ _ _) (fun env x h => by rw [op_10p_eq] at h; rw [← boxCN_lk]; exact h)

noncomputable def fn_10p_t : List Dat → Tree (Nat × List Dat)
 | [.n n0, .n n1, .n n2, .n n3, .n n4] =>
 (let r1 := (op_80 [.n (1099511627776 : Int), .l TI [n1, n2]]);
 (.node (isK 0 [.b] r1)
 (.node (gb (dOf r1) 0)
 (let r2 := (op_35a [.n (2 : Int), .n (1 : Int)]);
 (.node (isK 0 [] r2)
 (let r3 := (op_35a [.n (IntKind.wrap .u64 n0), .n (1 : Int)]);
 (.node (isK 0 [] r3)
 (.bad 340)
 (.node (isK 1 [.l TB] r3)
 (let r4 := (op_88 [.l TL [IntKind.wrap .u64 n1, IntKind.wrap .u64 n2, n3], .l TB (gl TB (dOf r3) 0)]);
 (.node (isK 0 [.l TB] r4)
 (let r5 := (op_35b [.n (IntKind.wrap .u64 n4), .n (4 : Int), .l TB (gl TB (dOf r4) 0)]);
 (.node (isK 0 [.l TB] r5)
 (let r6 := (op_31 [.l TB (gl TB (dOf r5) 0)]);
 (.node (isK 0 [.l TB] r6)
 (let r7 := (op_q12 [.l TB (gl TB (dOf r6) 0)]);
 (.node (isK 0 [.n] r7)
 (let r8 := (op_35b [.n (IntKind.wrap .u64 (gn (dOf r7) 0)), .n (4 : Int), .l TB (gl TB (dOf r5) 0)]);
 (.node (isK 0 [.l TB] r8)
 (let r9 := (op_31 [.l TB (gl TB (dOf r8) 0)]);
 (.node (isK 0 [.l TB] r9)
 (.leaf ((0, [.l TB (gl TB (dOf r9) 0)])))
 (.bad 351)))
 (.bad 351)))
 (.bad 351)))
 (.bad 351)))
 (.bad 351)))
 (.bad 351)))
 (.bad 351))))
 (.node (isK 1 [.l TB] r2)
 (let r3 := (op_35b [.n (IntKind.wrap .u64 n0), .n (1 : Int), .l TB (gl TB (dOf r2) 0)]);
 (.node (isK 0 [.l TB] r3)
 (let r4 := (op_88 [.l TL [IntKind.wrap .u64 n1, IntKind.wrap .u64 n2, n3], .l TB (gl TB (dOf r3) 0)]);
 (.node (isK 0 [.l TB] r4)
 (let r5 := (op_35b [.n (IntKind.wrap .u64 n4), .n (4 : Int), .l TB (gl TB (dOf r4) 0)]);
 (.node (isK 0 [.l TB] r5)
 (let r6 := (op_31 [.l TB (gl TB (dOf r5) 0)]);
 (.node (isK 0 [.l TB] r6)
 (let r7 := (op_q12 [.l TB (gl TB (dOf r6) 0)]);
 (.node (isK 0 [.n] r7)
 (let r8 := (op_35b [.n (IntKind.wrap .u64 (gn (dOf r7) 0)), .n (4 : Int), .l TB (gl TB (dOf r5) 0)]);
 (.node (isK 0 [.l TB] r8)
 (let r9 := (op_31 [.l TB (gl TB (dOf r8) 0)]);
 (.node (isK 0 [.l TB] r9)
 (.leaf ((0, [.l TB (gl TB (dOf r9) 0)])))
 (.bad 351)))
 (.bad 351)))
 (.bad 351)))
 (.bad 351)))
 (.bad 351)))
 (.bad 351)))
 (.bad 351)))
 (.bad 351))))
 (.leaf ((0, [.l TB []]))))
 (.bad 351)))
 | _ => .bad 0
theorem fn_10p_t_im (n0 : Int) (n1 : Int) (n2 : Int) (n3 : Int) (n4 : Int) : Imp (fn_10p_t [.n n0, .n n1, .n n2, .n n3, .n n4]) (ev_10p [.n n0, .n n1, .n n2, .n n3, .n n4]) :=
(.pa [1,0,0,0,1,1]
(.nd (fun h0 =>
(.pa [1,1]
(.nd (fun h1 =>
(.pa [1,1,1,0,1,1]
(.nd (fun h2 =>
(.pa [1,0,0,0,0,1,1,1,1,1,1,0,1,1]
(.nd (fun h3 =>
(.pa [1,0,0,0,0,1,1,1]
.none)) (fun h3 =>
(.nd (fun h4 =>
(.pa [1,0,0,0,0,1,1,1]
(.nd (fun h5 =>
(.pa [1,1,1,0,0,0,1,1]
(.nd (fun h6 =>
(.pa [1,0,0,1,1,1,1,1,0]
(.nd (fun h7 =>
(.pa [1,1]
(.nd (fun h8 =>
(.pa [1,1,1,0,0,0,1,1]
(.nd (fun h9 =>
(.pa [1,0,0,1,1,1,0]
(.nd (fun h10 =>
(.pa [1,1,1,1,1]
.lf)) (fun h10 =>
.none)))) (fun h9 =>
.none)))) (fun h8 =>
.none)))) (fun h7 =>
.none)))) (fun h6 =>
.none)))) (fun h5 =>
.none)))) (fun h4 =>
.none)))))) (fun h2 =>
(.nd (fun h3 =>
(.pa [1,0,0,0,0,1,1,1,1,1,1,0,1,1]
(.nd (fun h4 =>
(.pa [1,0,0,0,0,1,1,1]
(.nd (fun h5 =>
(.pa [1,1,1,0,0,0,1,1]
(.nd (fun h6 =>
(.pa [1,0,0,1,1,1,1,1,0]
(.nd (fun h7 =>
(.pa [1,1]
(.nd (fun h8 =>
(.pa [1,1,1,0,0,0,1,1]
(.nd (fun h9 =>
(.pa [1,0,0,1,1,1,0]
(.nd (fun h10 =>
(.pa [1,1,1,1,1]
.lf)) (fun h10 =>
.none)))) (fun h9 =>
.none)))) (fun h8 =>
.none)))) (fun h7 =>
.none)))) (fun h6 =>
.none)))) (fun h5 =>
.none)))) (fun h4 =>
.none)))) (fun h3 =>
.none)))))) (fun h1 =>
(.pa [0,0,0,0,0,0,0,1,1]
.lf))))) (fun h0 =>
.none)))

noncomputable def cs_10p : FuncId → Option CSpec := csLend 10 B10p cs_9p
theorem cs_10p_ok : CsOk Try.prog cs_10p := csLend_ok cs_9p_ok B10p_ok

noncomputable def ev_11p (env : List Dat) : Tree (Nat × List Dat) := Lk.boxCN [(0, TB)] false LK cs_10p 11 ls0 (mkF [stV 0] [] [] [(.own 0, [.arr TB 0])] fun _ => none) env
theorem op_11p_ex : ExB ev_11p := exB _
noncomputable def op_11p := Classical.choose op_11p_ex
theorem op_11p_eq (env : List Dat) : op_11p env = (ev_11p env).sel := Classical.choose_spec op_11p_ex env
noncomputable def B11p : FBox := mkF [stV 0] [] [] [(.own 0, [.arr TB 0])] op_11p
theorem B11p_ok : RunOk Try.prog 11 (boxRun B11p) := mkFN_ok (nils := [(0, TB)]) (op := op_11p) cs_10p_ok hmix false (LsOk.none _ _ _) (fun env x h => by rw [op_11p_eq] at h; rw [← boxCN_lk]; exact h)

noncomputable def fn_11p_t : List Dat → Tree (Nat × List Dat)
 | [.n n0, .n n1, .n n2, .l (Ty.int IntKind.u8) l3, .n n4] =>
 (let r1 := (op_35a [.n (3 : Int), .n (1 : Int)]);
 (.node (isK 0 [] r1)
 (.bad 340)
 (.node (isK 1 [.l TB] r1)
 (let r2 := (op_88 [.l TL [n0, n1, n2], .l TB (gl TB (dOf r1) 0)]);
 (.node (isK 0 [.l TB] r2)
 (.node (decide ((List.length (gl TB (dOf r2) 0) + List.length l3) * 1 ≤ 140737488355328))
 (let r3 := (op_35b [.n (IntKind.wrap .u64 n4), .n (4 : Int), .l TB (gl TB (dOf r2) 0 ++ l3)]);
 (.node (isK 0 [.l TB] r3)
 (let r4 := (op_31 [.l TB (gl TB (dOf r3) 0)]);
 (.node (isK 0 [.l TB] r4)
 (let r5 := (op_q12 [.l TB (gl TB (dOf r4) 0)]);
 (.node (isK 0 [.n] r5)
 (let r6 := (op_35b [.n (IntKind.wrap .u64 (gn (dOf r5) 0)), .n (4 : Int), .l TB (gl TB (dOf r3) 0)]);
 (.node (isK 0 [.l TB] r6)
 (let r7 := (op_31 [.l TB (gl TB (dOf r6) 0)]);
 (.node (isK 0 [.l TB] r7)
 (.leaf ((0, [.l TB (gl TB (dOf r7) 0)])))
 (.bad 351)))
 (.bad 351)))
 (.bad 351)))
 (.bad 351)))
 (.bad 351)))
 (.bad 62))
 (.bad 351)))
 (.bad 351))))
 | _ => .bad 0
theorem fn_11p_t_im (n0 : Int) (n1 : Int) (n2 : Int) (l3 : List (Ty.den TB)) (n4 : Int) (g0 : l3.length = 64) : Imp (fn_11p_t [.n n0, .n n1, .n n2, .l TB l3, .n n4]) (ev_11p [.n n0, .n n1, .n n2, .l TB l3, .n n4]) :=
(.pa [1,0,0,0,0,0,0,1,1,1,1,0,1,1]
(.nd (fun h0 =>
(.pa [1,0,0,0,0,1,1,1,1,1]
.none)) (fun h0 =>
(.nd (fun h1 =>
(.pa [1,0,0,0,0,1,1,1,1,1]
(.nd (fun h2 =>
(.pa [1,1,1,1,0,0,0,0,0,1]
(.nd (fun h3 =>
(.pa [1,1,1,1,0,0,0,1,1]
(.nd (fun h4 =>
(.pa [1,0,0,1,1,1,1,1,0]
(.nd (fun h5 =>
(.pa [1,1]
(.nd (fun h6 =>
(.pa [1,1,1,0,0,0,1,1]
(.nd (fun h7 =>
(.pa [1,0,0,1,1,1,0]
(.nd (fun h8 =>
(.pa [1,1,1,1,1]
.lf)) (fun h8 =>
.none)))) (fun h7 =>
.none)))) (fun h6 =>
.none)))) (fun h5 =>
.none)))) (fun h4 =>
.none)))) (fun h3 =>
.none)))) (fun h2 =>
.none)))) (fun h1 =>
.none)))))

noncomputable def cs_11p : FuncId → Option CSpec := csLend 11 B11p cs_10p
theorem cs_11p_ok : CsOk Try.prog cs_11p := csLend_ok cs_10p_ok B11p_ok

noncomputable def ev_12p (env : List Dat) : Tree (Nat × List Dat) := Lk.boxCN [(0, TB)] false LK cs_11p 12 ls0 (mkF [loV 0] [] [] [(.own 0, [.arr TB 0])] fun _ => none) env
theorem op_12p_ex : ExB ev_12p := exB _
noncomputable def op_12p := Classical.choose op_12p_ex
theorem op_12p_eq (env : List Dat) : op_12p env = (ev_12p env).sel := Classical.choose_spec op_12p_ex env
noncomputable def B12p : FBox := mkF [loV 0] [] [] [(.own 0, [.arr TB 0])] op_12p
theorem B12p_ok : RunOk Try.prog 12 (boxRun B12p) := mkFN_ok (nils := [(0, TB)]) (op := op_12p) cs_11p_ok hmix false (LsOk.none _ _ _) (fun env x h => by rw [op_12p_eq] at h; rw [← boxCN_lk]; exact h)

noncomputable def fn_12p_t : List Dat → Tree (Nat × List Dat)
 | [.n n0, .n n1, .n n2, .n n3, .n n4, .l (Ty.int IntKind.u8) l5, .n n6] =>
 (let r1 := (op_80 [.n (1099511627776 : Int), .l TI [n0, n1]]);
 (.node (isK 0 [.b] r1)
 (.node (gb (dOf r1) 0)
 (let r2 := (op_35a [.n (4 : Int), .n (1 : Int)]);
 (.node (isK 0 [] r2)
 (.bad 340)
 (.node (isK 1 [.l TB] r2)
 (let r3 := (op_88 [.l TL [IntKind.wrap .u64 n0, IntKind.wrap .u64 n1], .l TB (gl TB (dOf r2) 0)]);
 (.node (isK 0 [.l TB] r3)
 (let r4 := (op_88 [.l TL [n2, n3, n4], .l TB (gl TB (dOf r3) 0)]);
 (.node (isK 0 [.l TB] r4)
 (.node (decide ((List.length (gl TB (dOf r4) 0) + List.length l5) * 1 ≤ 140737488355328))
 (let r5 := (op_35b [.n (IntKind.wrap .u64 n6), .n (4 : Int), .l TB (gl TB (dOf r4) 0 ++ l5)]);
 (.node (isK 0 [.l TB] r5)
 (let r6 := (op_31 [.l TB (gl TB (dOf r5) 0)]);
 (.node (isK 0 [.l TB] r6)
 (let r7 := (op_q12 [.l TB (gl TB (dOf r6) 0)]);
 (.node (isK 0 [.n] r7)
 (let r8 := (op_35b [.n (IntKind.wrap .u64 (gn (dOf r7) 0)), .n (4 : Int), .l TB (gl TB (dOf r5) 0)]);
 (.node (isK 0 [.l TB] r8)
 (let r9 := (op_31 [.l TB (gl TB (dOf r8) 0)]);
 (.node (isK 0 [.l TB] r9)
 (.leaf ((0, [.l TB (gl TB (dOf r9) 0)])))
 (.bad 351)))
 (.bad 351)))
 (.bad 351)))
 (.bad 351)))
 (.bad 351)))
 (.bad 62))
 (.bad 351)))
 (.bad 351)))
 (.bad 351))))
 (.leaf ((0, [.l TB []]))))
 (.bad 351)))
 | _ => .bad 0
theorem fn_12p_t_im (n0 : Int) (n1 : Int) (n2 : Int) (n3 : Int) (n4 : Int) (l5 : List (Ty.den TB)) (n6 : Int) (g0 : l5.length = 64) : Imp (fn_12p_t [.n n0, .n n1, .n n2, .n n3, .n n4, .l TB l5, .n n6]) (ev_12p [.n n0, .n n1, .n n2, .n n3, .n n4, .l TB l5, .n n6]) :=
(.pa [1,0,0,0,0,0,0,0,1,1]
(.nd (fun h0 =>
(.pa [1,1]
(.nd (fun h1 =>
(.pa [1,1,1,0,1,1]
(.nd (fun h2 =>
(.pa [1,0,0,0,0,1,1,1,1,1]
.none)) (fun h2 =>
(.nd (fun h3 =>
(.pa [1,0,0,0,0,1,1,1,1,1]
(.nd (fun h4 =>
(.pa [1,1,1]
(.nd (fun h5 =>
(.pa [1,1,1,1,0,0,0,0,0,1]
(.nd (fun h6 =>
(.pa [1,1,1,1,0,0,0,1,1]
(.nd (fun h7 =>
(.pa [1,0,0,1,1,1,1,1,1,0]
(.nd (fun h8 =>
(.pa [1,1]
(.nd (fun h9 =>
(.pa [1,1,1,0,0,0,1,1]
(.nd (fun h10 =>
(.pa [1,0,0,1,1,1,0]
(.nd (fun h11 =>
(.pa [1,1,1,1,1]
.lf)) (fun h11 =>
.none)))) (fun h10 =>
.none)))) (fun h9 =>
.none)))) (fun h8 =>
.none)))) (fun h7 =>
.none)))) (fun h6 =>
.none)))) (fun h5 =>
.none)))) (fun h4 =>
.none)))) (fun h3 =>
.none)))))) (fun h1 =>
(.pa [0,0,0,1,1]
.lf))))) (fun h0 =>
.none)))

noncomputable def cs_12p : FuncId → Option CSpec := csLend 12 B12p cs_11p
theorem cs_12p_ok : CsOk Try.prog cs_12p := csLend_ok cs_11p_ok B12p_ok

noncomputable def ev_13p (env : List Dat) : Tree (Nat × List Dat) := Lk.boxCN [(0, TB)] false LK cs_12p 13 ls0 (mkF [liV 0] [] [] [(.own 0, [.arr TB 0])] fun _ => none) env
theorem op_13p_ex : ExB ev_13p := exB _
noncomputable def op_13p := Classical.choose op_13p_ex
theorem op_13p_eq (env : List Dat) : op_13p env = (ev_13p env).sel := Classical.choose_spec op_13p_ex env
noncomputable def B13p : FBox := mkF [liV 0] [] [] [(.own 0, [.arr TB 0])] op_13p
theorem B13p_ok : RunOk Try.prog 13 (boxRun B13p) := mkFN_ok (nils := [(0, TB)]) (op := op_13p) cs_12p_ok hmix false (LsOk.none _ _ _) (fun env x h => by rw [op_13p_eq] at h; rw [← boxCN_lk]; exact h)

noncomputable def fn_13p_t : List Dat → Tree (Nat × List Dat)
 | [.n n0, .n n1, .n n2, .n n3, .l (Ty.int IntKind.u8) l4] =>
 (let r1 := (op_60 [.n n0, .n n1, .n n2, .n n3, .l TB l4]);
 (.node (isK 0 [.b] r1)
 (.node (gb (dOf r1) 0)
 (let r2 := (op_35a [.n (5 : Int), .n (1 : Int)]);
 (.node (isK 0 [] r2)
 (.bad 340)
 (.node (isK 1 [.l TB] r2)
 (let r3 := (op_71 [.n n0, .n n1, .n n2, .n n3, .l TB l4, .l TB (gl TB (dOf r2) 0)]);
 (.node (isK 0 [.l TB] r3)
 (let r4 := (op_31 [.l TB (gl TB (dOf r3) 0)]);
 (.node (isK 0 [.l TB] r4)
 (let r5 := (op_q12 [.l TB (gl TB (dOf r4) 0)]);
 (.node (isK 0 [.n] r5)
 (let r6 := (op_35b [.n (IntKind.wrap .u64 (gn (dOf r5) 0)), .n (4 : Int), .l TB (gl TB (dOf r3) 0)]);
 (.node (isK 0 [.l TB] r6)
 (let r7 := (op_31 [.l TB (gl TB (dOf r6) 0)]);
 (.node (isK 0 [.l TB] r7)
 (.leaf ((0, [.l TB (gl TB (dOf r7) 0)])))
 (.bad 351)))
 (.bad 351)))
 (.bad 351)))
 (.bad 351)))
 (.bad 351)))
 (.bad 351))))
 (.leaf ((0, [.l TB []]))))
 (.bad 351)))
 | _ => .bad 0
theorem fn_13p_t_im (n0 : Int) (n1 : Int) (n2 : Int) (n3 : Int) (l4 : List (Ty.den TB)) : Imp (fn_13p_t [.n n0, .n n1, .n n2, .n n3, .l TB l4]) (ev_13p [.n n0, .n n1, .n n2, .n n3, .l TB l4]) :=
(.pa [1,0,0,0,0,0,0,0,0,0,0,1]
(.nd (fun h0 =>
(.pa [1]
(.nd (fun h1 =>
(.pa [1,1,1,0,1,1]
(.nd (fun h2 =>
(.pa [1,0,0,0,0,1,1,1,1]
.none)) (fun h2 =>
(.nd (fun h3 =>
(.pa [1,0,0,0,0,1,1,1,1]
(.nd (fun h4 =>
(.pa [1,1,1,0]
(.nd (fun h5 =>
(.pa [1,1]
(.nd (fun h6 =>
(.pa [1,1,1,0,0,0,1,1]
(.nd (fun h7 =>
(.pa [1,0,0,1,1,1,0]
(.nd (fun h8 =>
(.pa [1,1,1,1,1]
.lf)) (fun h8 =>
.none)))) (fun h7 =>
.none)))) (fun h6 =>
.none)))) (fun h5 =>
.none)))) (fun h4 =>
.none)))) (fun h3 =>
.none)))))) (fun h1 =>
(.pa [1,1]
.lf))))) (fun h0 =>
.none)))

noncomputable def cs_13p : FuncId → Option CSpec := csLend 13 B13p cs_12p
theorem cs_13p_ok : CsOk Try.prog cs_13p := csLend_ok cs_12p_ok B13p_ok

noncomputable def st_L43_5 (env : List Dat) : Tree Step := Lk.stepMC false LK cs_13p 43 5 ls0 (mkM 0 [] [(sh 35 [(1, .ptr 0 0), (3, .own 1), (4, .int .i64 0)], [stB 1, .arr TB 6])] [] [(.exit 0, sh 35 [(1, .ptr 0 0), (3, .own 1)], [stB 0, .arr TB 5])] fun _ => none) env
theorem op_L43_5_ex : ExL st_L43_5 := exL _
noncomputable def op_L43_5 := Classical.choose op_L43_5_ex
theorem op_L43_5_eq (env : List Dat) : op_L43_5 env = iterS st_L43_5 FU env := Classical.choose_spec op_L43_5_ex env
noncomputable def L43_5 : MBox := mkM 0 [] [(sh 35 [(1, .ptr 0 0), (3, .own 1), (4, .int .i64 0)], [stB 1, .arr TB 6])] [] [(.exit 0, sh 35 [(1, .ptr 0 0), (3, .own 1)], [stB 0, .arr TB 5])] op_L43_5
theorem L43_5_eqs : L43_5 = mkM 0 [] [(sh 35 [(1, .ptr 0 0), (3, .own 1), (4, .int .i64 0)], [stB 1, .arr TB 6])] [] [(.exit 0, sh 35 [(1, .ptr 0 0), (3, .own 1)], [stB 0, .arr TB 5])] (iterS st_L43_5 FU) := congrArg (fun f => mkM 0 [] [(sh 35 [(1, .ptr 0 0), (3, .own 1), (4, .int .i64 0)], [stB 1, .arr TB 6])] [] [(.exit 0, sh 35 [(1, .ptr 0 0), (3, .own 1)], [stB 0, .arr TB 5])] f) (funext op_L43_5_eq)
theorem L43_5_run : ∀ t s x, (manyRun L43_5 t s).sel = some x → CodeOk Try.prog 0 (.loop (cAt Try.prog 43 5)) t s x := by
  rw [L43_5_eqs]
  exact mkM_ok (st := st_L43_5) (m := FU) cs_13p_ok hmix false (LsOk.none _ _ _) (by kernel_rfl) (fun env y h => by rw [← stepMC_lk]; exact h)

noncomputable def fn_L43_5_t : List Dat → Tree Step
 | [.n n0, .n n1, .n n2, .n n3, .l (Ty.int IntKind.u8) l4, .n n5, .l (Ty.int IntKind.u8) l6] =>
 (.node (decide (n0 < (64 : Int)))
 (.node (decide ((List.length l6 + 1) * 1 ≤ 140737488355328))
 (.leaf (Step.go [.k 0, .n (IntKind.wrap .i64 (n0 + (1 : Int))), .n n1, .n n2, .n n3, .l TB l4, .n n5, .l TB (l6 ++ [List.getD l4 (Int.toNat n0) (0 : Int)])]))
 (.bad 62))
 (.leaf (Step.stop 0 [.n n1, .n n2, .n n3, .l TB l4, .n n5, .l TB l6])))
 | _ => .bad 0
theorem fn_L43_5_t_im (n0 : Int) (n1 : Int) (n2 : Int) (n3 : Int) (l4 : List (Ty.den TB)) (n5 : Int) (l6 : List (Ty.den TB)) (g0 : l4.length = 64) (g1 :  0 ≤ n0) : Imp (fn_L43_5_t [.n n0, .n n1, .n n2, .n n3, .l TB l4, .n n5, .l TB l6]) (st_L43_5 [.k 0, .n n0, .n n1, .n n2, .n n3, .l TB l4, .n n5, .l TB l6]) :=
(.pa [1]
(.nd (fun h0 =>
(.pt (c := (inR n0 64)) (by kernel_rfl) (by kernel_rfl) (by (simp only [w64d, decide_eq_true_eq, decide_eq_false_iff_not, beq_iff_eq, beq_eq_false_iff_ne, bne_iff_ne, ne_eq, inR, Bool.and_eq_true, Bool.and_eq_false_iff, Bool.not_eq_true', Bool.not_eq_false', Bool.not_eq_eq_eq_not, Bool.not_true, Bool.not_false] at *; omega))
(.nd (fun h1 =>
(.pa [1]
.lf)) (fun h1 =>
.none)))) (fun h0 =>
(.pa [1]
.lf))))

theorem ls_43_ok : LsOk Try.prog (List.length ([] : List PB)) (lsM [(5, L43_5)] (List.length ([] : List PB))) (bodyOf Try.prog 43) := LsOk.many fun j B hB hk c hc hi => by
  simp only [lookM] at hB
  split at hB
  · rename_i e; have := Nat.eq_of_beq_eq_true e; subst this; cases hB
    have e1 : loopAt Try.prog 43 5 = [cAt Try.prog 43 5] := loopAt_one (by kernel_rfl)
    have e2 : c ∈ loopAt Try.prog 43 5 := loopsAt_mem hc hi
    rw [e1] at e2; cases List.mem_singleton.1 e2; exact L43_5_run
  cases hB

noncomputable def ev_43 (env : List Dat) : Tree (Nat × List Dat) := Lk.boxC false LK cs_13p 43 (lsM [(5, L43_5)] (List.length ([] : List PB))) (mkF [stV 0] [] [] [(.own 0, [.arr TB 0])] fun _ => none) env
theorem op_43_ex : ExB ev_43 := exB _
noncomputable def op_43 := Classical.choose op_43_ex
theorem op_43_eq (env : List Dat) : op_43 env = (ev_43 env).sel := Classical.choose_spec op_43_ex env
noncomputable def B43 : FBox := mkF [stV 0] [] [] [(.own 0, [.arr TB 0])] op_43
theorem B43_ok : RunOk Try.prog 43 (boxRun B43) := mkF_ok (op := op_43) cs_13p_ok hmix false (ls_43_ok) (fun env x h => by rw [op_43_eq] at h; rw [← boxC_lk]; exact h)

noncomputable def fn_43_t : List Dat → Tree (Nat × List Dat)
 | [.n n0, .n n1, .n n2, .l (Ty.int IntKind.u8) l3, .n n4] =>
 (let r1 := (op_30 [.n n0, .n (8 : Int)]);
 (.node (isK 0 [.l TB] r1)
 (let r2 := (op_30 [.n n1, .n (8 : Int)]);
 (.node (isK 0 [.l TB] r2)
 (.node (decide ((List.length (gl TB (dOf r1) 0) + List.length (gl TB (dOf r2) 0)) * 1 ≤ 140737488355328))
 (let r3 := (op_30 [.n n2, .n (8 : Int)]);
 (.node (isK 0 [.l TB] r3)
 (.node (decide ((List.length (gl TB (dOf r1) 0 ++ gl TB (dOf r2) 0) + List.length (gl TB (dOf r3) 0)) * 1 ≤ 140737488355328))
 (let r4 := (op_L43_5 [.k 0, .n (0 : Int), .n n0, .n n1, .n n2, .l TB l3, .n n4, .l TB (gl TB (dOf r1) 0 ++ gl TB (dOf r2) 0 ++ gl TB (dOf r3) 0)]);
 (.node (isK 0 [.n, .n, .n, .l TB, .n, .l TB] r4)
 (let r5 := (op_30 [.n (IntKind.wrap .u64 (gn (dOf r4) 4)), .n (4 : Int)]);
 (.node (isK 0 [.l TB] r5)
 (.node (decide ((List.length (gl TB (dOf r4) 5) + List.length (gl TB (dOf r5) 0)) * 1 ≤ 140737488355328))
 (.leaf ((0, [.l TB (gl TB (dOf r4) 5 ++ gl TB (dOf r5) 0)])))
 (.bad 62))
 (.bad 351)))
 (.bad 351)))
 (.bad 62))
 (.bad 351)))
 (.bad 62))
 (.bad 351)))
 (.bad 351)))
 | _ => .bad 0
theorem fn_43_t_im (n0 : Int) (n1 : Int) (n2 : Int) (l3 : List (Ty.den TB)) (n4 : Int) (g0 : l3.length = 64) : Imp (fn_43_t [.n n0, .n n1, .n n2, .l TB l3, .n n4]) (ev_43 [.n n0, .n n1, .n n2, .l TB l3, .n n4]) :=
(.pa [1]
(.nd (fun h0 =>
(.pa [1,1,1]
(.nd (fun h1 =>
(.pa [1,1]
(.nd (fun h2 =>
(.pa [1]
(.nd (fun h3 =>
(.pa [1,1]
(.nd (fun h4 =>
(.nd (fun h5 =>
(.pa [1]
(.nd (fun h6 =>
(.pa [1,1]
(.nd (fun h7 =>
(.pa [1]
.lf)) (fun h7 =>
.none)))) (fun h6 =>
.none)))) (fun h5 =>
.none))) (fun h4 =>
.none)))) (fun h3 =>
.none)))) (fun h2 =>
.none)))) (fun h1 =>
.none)))) (fun h0 =>
.none)))

noncomputable def cs_43 : FuncId → Option CSpec := csLend 43 B43 cs_13p
theorem cs_43_ok : CsOk Try.prog cs_43 := csLend_ok cs_13p_ok B43_ok

noncomputable def st_L14p_10 (env : List Dat) : Tree Step := Lk.stepMC false LK cs_43 14 10 ls0 (mkM 0 [] [(sh 96 [(1, .ptr 0 0), (3, .own 1), (4, .int .i64 0)], [inB 1, .arr TB 7])] [] [(.exit 0, sh 96 [(3, .own 0)], [.arr TB 0]), (.ret, sh 96 [(2, .nilsl)], [])] fun _ => none) env
theorem op_L14p_10_ex : ExL st_L14p_10 := exL _
noncomputable def op_L14p_10 := Classical.choose op_L14p_10_ex
theorem op_L14p_10_eq (env : List Dat) : op_L14p_10 env = iterS st_L14p_10 FU env := Classical.choose_spec op_L14p_10_ex env
noncomputable def L14p_10 : MBox := mkM 0 [] [(sh 96 [(1, .ptr 0 0), (3, .own 1), (4, .int .i64 0)], [inB 1, .arr TB 7])] [] [(.exit 0, sh 96 [(3, .own 0)], [.arr TB 0]), (.ret, sh 96 [(2, .nilsl)], [])] op_L14p_10
theorem L14p_10_eqs : L14p_10 = mkM 0 [] [(sh 96 [(1, .ptr 0 0), (3, .own 1), (4, .int .i64 0)], [inB 1, .arr TB 7])] [] [(.exit 0, sh 96 [(3, .own 0)], [.arr TB 0]), (.ret, sh 96 [(2, .nilsl)], [])] (iterS st_L14p_10 FU) := congrArg (fun f => mkM 0 [] [(sh 96 [(1, .ptr 0 0), (3, .own 1), (4, .int .i64 0)], [inB 1, .arr TB 7])] [] [(.exit 0, sh 96 [(3, .own 0)], [.arr TB 0]), (.ret, sh 96 [(2, .nilsl)], [])] f) (funext op_L14p_10_eq)
theorem L14p_10_run : ∀ t s x, (manyRun L14p_10 t s).sel = some x → CodeOk Try.prog 0 (.loop (cAt Try.prog 14 10)) t s x := by
  rw [L14p_10_eqs]
  exact mkM_ok (st := st_L14p_10) (m := FU) cs_43_ok hmix false (LsOk.none _ _ _) (by kernel_rfl) (fun env y h => by rw [← stepMC_lk]; exact h)

noncomputable def fn_L14p_10_t : List Dat → Tree Step
 | [.n n0, .n n1, .n n2, .n n3, .n n4, .n n5, .l (Ty.pair (Ty.int IntKind.u8) (Ty.int IntKind.i64)) l6, .l (Ty.int IntKind.u8) l7] =>
 (.node (decide (n0 < (↑(List.length l6) : Int)))
 (.node (decide ((Prod.fst (List.getD l6 (Int.toNat n0) (Ty.dflt TC)) : Int) < (1 : Int)))
 (.leaf (Step.stop 1 []))
 (.node (decide ((Prod.fst (List.getD l6 (Int.toNat n0) (Ty.dflt TC)) : Int) > (3 : Int)))
 (.leaf (Step.stop 1 []))
 (.node (decide ((Prod.snd (List.getD l6 (Int.toNat n0) (Ty.dflt TC)) : Int) < (0 : Int)))
 (.leaf (Step.stop 1 []))
 (.node (decide ((Prod.snd (List.getD l6 (Int.toNat n0) (Ty.dflt TC)) : Int) > (63 : Int)))
 (.leaf (Step.stop 1 []))
 (.node (decide ((List.length l7 + 2) * 1 ≤ 140737488355328))
 (.leaf (Step.go [.k 0, .n (IntKind.wrap .i64 (n0 + (1 : Int))), .n n1, .n n2, .n n3, .n n4, .n n5, .l TC l6, .l TB (l7 ++ [Prod.fst (List.getD l6 (Int.toNat n0) (Ty.dflt TC)), IntKind.wrap .u8 (Prod.snd (List.getD l6 (Int.toNat n0) (Ty.dflt TC)))])]))
 (.bad 62))))))
 (.leaf (Step.stop 0 [.l TB l7])))
 | _ => .bad 0
theorem fn_L14p_10_t_im (n0 : Int) (n1 : Int) (n2 : Int) (n3 : Int) (n4 : Int) (n5 : Int) (l6 : List (Ty.den TC)) (l7 : List (Ty.den TB)) (g0 : 0 ≤ n0) : Imp (fn_L14p_10_t [.n n0, .n n1, .n n2, .n n3, .n n4, .n n5, .l TC l6, .l TB l7]) (st_L14p_10 [.k 0, .n n0, .n n1, .n n2, .n n3, .n n4, .n n5, .l TC l6, .l TB l7]) :=
(.pa [1]
(.nd (fun h0 =>
(.pt (c := (inR n0 (List.length l6))) (by kernel_rfl) (by kernel_rfl) (by (simp only [w64d, decide_eq_true_eq, decide_eq_false_iff_not, beq_iff_eq, beq_eq_false_iff_ne, bne_iff_ne, ne_eq, inR, Bool.and_eq_true, Bool.and_eq_false_iff, Bool.not_eq_true', Bool.not_eq_false', Bool.not_eq_eq_eq_not, Bool.not_true, Bool.not_false] at *; omega))
(.nd (fun h1 =>
(.pa [1,1,1,1,1,1,1]
.lf)) (fun h1 =>
(.nd (fun h2 =>
(.pa [1,1,1,1,1]
.lf)) (fun h2 =>
(.nd (fun h3 =>
(.pa [1,1,1]
.lf)) (fun h3 =>
(.nd (fun h4 =>
(.pa [1]
.lf)) (fun h4 =>
(.nd (fun h5 =>
(.pa [1]
.lf)) (fun h5 =>
.none)))))))))))) (fun h0 =>
(.pa [1]
.lf))))

theorem ls_14p_ok : LsOk Try.prog (List.length ([] : List PB)) (lsM [(10, L14p_10)] (List.length ([] : List PB))) (bodyOf Try.prog 14) := LsOk.many fun j B hB hk c hc hi => by
  simp only [lookM] at hB
  split at hB
  · rename_i e; have := Nat.eq_of_beq_eq_true e; subst this; cases hB
    have e1 : loopAt Try.prog 14 10 = [cAt Try.prog 14 10] := loopAt_one (by kernel_rfl)
    have e2 : c ∈ loopAt Try.prog 14 10 := loopsAt_mem hc hi
    rw [e1] at e2; cases List.mem_singleton.1 e2; exact L14p_10_run
  cases hB

noncomputable def ev_14p (env : List Dat) : Tree (Nat × List Dat) := Lk.boxCN [(0, TB)] false LK cs_43 14 (lsM [(10, L14p_10)] (List.length ([] : List PB))) (mkF [inV 0] [] [] [(.own 0, [.arr TB 0])] fun _ => none) env
theorem op_14p_ex : ExB ev_14p := exB _
noncomputable def op_14p := Classical.choose op_14p_ex
theorem op_14p_eq (env : List Dat) : op_14p env = (ev_14p env).sel := Classical.choose_spec op_14p_ex env
noncomputable def B14p : FBox := mkF [inV 0] [] [] [(.own 0, [.arr TB 0])] op_14p
theorem B14p_ok : RunOk Try.prog 14 (boxRun B14p) := mkFN_ok (nils := [(0, TB)]) (op := op_14p) cs_43_ok hmix false (ls_14p_ok) (fun env x h => by rw [op_14p_eq] at h; rw [← boxCN_lk]; exact h)

noncomputable def fn_14p_t : List Dat → Tree (Nat × List Dat)
 | [.n n0, .n n1, .n n2, .n n3, .n n4, .l (Ty.pair (Ty.int IntKind.u8) (Ty.int IntKind.i64)) l5] =>
 (.node (decide (n1 ≥ (0 : Int)))
 (.node (!decide (n1 ≤ (1099511627776 : Int)))
 (.leaf ((0, [.l TB []])))
 (.node (decide ((↑(List.length l5) : Int) > (8 : Int)))
 (.leaf ((0, [.l TB []])))
 (let r1 := (op_30 [.n (IntKind.wrap .u64 n1), .n (8 : Int)]);
 (.node (isK 0 [.l TB] r1)
 (.node (decide ((2 + List.length (gl TB (dOf r1) 0)) * 1 ≤ 140737488355328))
 (let r2 := (op_30 [.n n2, .n (8 : Int)]);
 (.node (isK 0 [.l TB] r2)
 (.node (decide ((List.length (([(1 : Int), n0] : List (Ty.den TB)) ++ gl TB (dOf r1) 0) + List.length (gl TB (dOf r2) 0)) * 1 ≤ 140737488355328))
 (let r3 := (op_30 [.n (IntKind.wrap .u64 n3), .n (4 : Int)]);
 (.node (isK 0 [.l TB] r3)
 (.node (decide ((List.length (([(1 : Int), n0] : List (Ty.den TB)) ++ gl TB (dOf r1) 0 ++ gl TB (dOf r2) 0) + List.length (gl TB (dOf r3) 0)) * 1 ≤ 140737488355328))
 (let r4 := (op_30 [.n (IntKind.wrap .u64 n4), .n (4 : Int)]);
 (.node (isK 0 [.l TB] r4)
 (.node (decide ((List.length (([(1 : Int), n0] : List (Ty.den TB)) ++ gl TB (dOf r1) 0 ++ gl TB (dOf r2) 0 ++ gl TB (dOf r3) 0) + List.length (gl TB (dOf r4) 0)) * 1 ≤ 140737488355328))
 (.node (decide ((List.length (([(1 : Int), n0] : List (Ty.den TB)) ++ gl TB (dOf r1) 0 ++ gl TB (dOf r2) 0 ++ gl TB (dOf r3) 0 ++ gl TB (dOf r4) 0) + 1) * 1 ≤ 140737488355328))
 (let r5 := (op_L14p_10 [.k 0, .n (0 : Int), .n n0, .n n1, .n n2, .n n3, .n n4, .l TC l5, .l TB (([(1 : Int), n0] : List (Ty.den TB)) ++ gl TB (dOf r1) 0 ++ gl TB (dOf r2) 0 ++ gl TB (dOf r3) 0 ++ gl TB (dOf r4) 0 ++ [IntKind.wrap .u8 (↑(List.length l5) : Int)])]);
 (.node (isK 0 [.l TB] r5)
 (let r6 := (op_q13 [.l TB (gl TB (dOf r5) 0)]);
 (.node (isK 0 [.n] r6)
 (let r7 := (op_30 [.n (IntKind.wrap .u64 (gn (dOf r6) 0)), .n (4 : Int)]);
 (.node (isK 0 [.l TB] r7)
 (.node (decide ((List.length (gl TB (dOf r5) 0) + List.length (gl TB (dOf r7) 0)) * 1 ≤ 140737488355328))
 (.leaf ((0, [.l TB (gl TB (dOf r5) 0 ++ gl TB (dOf r7) 0)])))
 (.bad 62))
 (.bad 351)))
 (.bad 351)))
 (.node (isK 1 [] r5)
 (.leaf ((0, [.l TB []])))
 (.bad 351))))
 (.bad 62))
 (.bad 62))
 (.bad 351)))
 (.bad 62))
 (.bad 351)))
 (.bad 62))
 (.bad 351)))
 (.bad 62))
 (.bad 351)))))
 (.leaf ((0, [.l TB []]))))
 | _ => .bad 0
theorem fn_14p_t_im (n0 : Int) (n1 : Int) (n2 : Int) (n3 : Int) (n4 : Int) (l5 : List (Ty.den TC)) : Imp (fn_14p_t [.n n0, .n n1, .n n2, .n n3, .n n4, .l TC l5]) (ev_14p [.n n0, .n n1, .n n2, .n n3, .n n4, .l TC l5]) :=
(.pa [1]
(.nd (fun h0 =>
(.pa [1]
(.nd (fun h1 =>
(.pa [1,1,1]
.lf)) (fun h1 =>
(.nd (fun h2 =>
(.pa [1]
.lf)) (fun h2 =>
(.pa [1]
(.nd (fun h3 =>
(.pa [1,1]
(.nd (fun h4 =>
(.pa [1]
(.nd (fun h5 =>
(.pa [1,1]
(.nd (fun h6 =>
(.pa [1]
(.nd (fun h7 =>
(.pa [1,1]
(.nd (fun h8 =>
(.pa [1]
(.nd (fun h9 =>
(.pa [1,1]
(.nd (fun h10 =>
(.nd (fun h11 =>
(.nd (fun h12 =>
(.pa [1]
(.nd (fun h13 =>
(.pa [1,1]
(.nd (fun h14 =>
(.pa [1,1]
(.nd (fun h15 =>
(.pa [1,1]
.lf)) (fun h15 =>
.none)))) (fun h14 =>
.none)))) (fun h13 =>
.none)))) (fun h12 =>
(.nd (fun h13 =>
(.pa [1]
.lf)) (fun h13 =>
.none))))) (fun h11 =>
.none))) (fun h10 =>
.none)))) (fun h9 =>
.none)))) (fun h8 =>
.none)))) (fun h7 =>
.none)))) (fun h6 =>
.none)))) (fun h5 =>
.none)))) (fun h4 =>
.none)))) (fun h3 =>
.none))))))))) (fun h0 =>
(.pa [0,1,1,1,1,1]
.lf))))

noncomputable def cs_14p : FuncId → Option CSpec := csLend 14 B14p cs_43
theorem cs_14p_ok : CsOk Try.prog cs_14p := csLend_ok cs_43_ok B14p_ok

noncomputable def ev_16p (env : List Dat) : Tree (Nat × List Dat) := Lk.boxCN [(0, TB)] false LK cs_14p 16 ls0 (mkF [ouV 0] [] [] [(.own 0, [.arr TB 0])] fun _ => none) env
theorem op_16p_ex : ExB ev_16p := exB _
noncomputable def op_16p := Classical.choose op_16p_ex
theorem op_16p_eq (env : List Dat) : op_16p env = (ev_16p env).sel := Classical.choose_spec op_16p_ex env
noncomputable def B16p : FBox := mkF [ouV 0] [] [] [(.own 0, [.arr TB 0])] op_16p
theorem B16p_ok : RunOk Try.prog 16 (boxRun B16p) := mkFN_ok (nils := [(0, TB)]) (op := op_16p) cs_14p_ok hmix false (LsOk.none _ _ _) (fun env x h => by rw [op_16p_eq] at h; rw [← boxCN_lk]; exact h)

noncomputable def fn_16p_t : List Dat → Tree (Nat × List Dat)
 | [.n n0, .n n1, .n n2, .n n3, .n n4] =>
 (.node (decide (n1 ≥ (0 : Int)))
 (.node (!decide (n1 ≤ (1099511627776 : Int)))
 (.leaf ((0, [.l TB []])))
 (.node (decide (n2 ≥ (0 : Int)))
 (.node (!decide (n2 ≤ (1099511627776 : Int)))
 (.leaf ((0, [.l TB []])))
 (let r1 := (op_30 [.n (IntKind.wrap .u64 n1), .n (8 : Int)]);
 (.node (isK 0 [.l TB] r1)
 (.node (decide ((2 + List.length (gl TB (dOf r1) 0)) * 1 ≤ 140737488355328))
 (let r2 := (op_30 [.n (IntKind.wrap .u64 n2), .n (8 : Int)]);
 (.node (isK 0 [.l TB] r2)
 (.node (decide ((List.length (([(2 : Int), n0] : List (Ty.den TB)) ++ gl TB (dOf r1) 0) + List.length (gl TB (dOf r2) 0)) * 1 ≤ 140737488355328))
 (let r3 := (op_30 [.n n3, .n (8 : Int)]);
 (.node (isK 0 [.l TB] r3)
 (.node (decide ((List.length (([(2 : Int), n0] : List (Ty.den TB)) ++ gl TB (dOf r1) 0 ++ gl TB (dOf r2) 0) + List.length (gl TB (dOf r3) 0)) * 1 ≤ 140737488355328))
 (let r4 := (op_30 [.n (IntKind.wrap .u64 n4), .n (4 : Int)]);
 (.node (isK 0 [.l TB] r4)
 (.node (decide ((List.length (([(2 : Int), n0] : List (Ty.den TB)) ++ gl TB (dOf r1) 0 ++ gl TB (dOf r2) 0 ++ gl TB (dOf r3) 0) + List.length (gl TB (dOf r4) 0)) * 1 ≤ 140737488355328))
 (let r5 := (op_q13 [.l TB (([(2 : Int), n0] : List (Ty.den TB)) ++ gl TB (dOf r1) 0 ++ gl TB (dOf r2) 0 ++ gl TB (dOf r3) 0 ++ gl TB (dOf r4) 0)]);
 (.node (isK 0 [.n] r5)
 (let r6 := (op_30 [.n (IntKind.wrap .u64 (gn (dOf r5) 0)), .n (4 : Int)]);
 (.node (isK 0 [.l TB] r6)
 (.node (decide ((List.length (([(2 : Int), n0] : List (Ty.den TB)) ++ gl TB (dOf r1) 0 ++ gl TB (dOf r2) 0 ++ gl TB (dOf r3) 0 ++ gl TB (dOf r4) 0) + List.length (gl TB (dOf r6) 0)) * 1 ≤ 140737488355328))
 (.leaf ((0, [.l TB (([(2 : Int), n0] : List (Ty.den TB)) ++ gl TB (dOf r1) 0 ++ gl TB (dOf r2) 0 ++ gl TB (dOf r3) 0 ++ gl TB (dOf r4) 0 ++ gl TB (dOf r6) 0)])))
 (.bad 62))
 (.bad 351)))
 (.bad 351)))
 (.bad 62))
 (.bad 351)))
 (.bad 62))
 (.bad 351)))
 (.bad 62))
 (.bad 351)))
 (.bad 62))
 (.bad 351))))
 (.leaf ((0, [.l TB []])))))
 (.leaf ((0, [.l TB []]))))
 | _ => .bad 0
theorem fn_16p_t_im (n0 : Int) (n1 : Int) (n2 : Int) (n3 : Int) (n4 : Int) : Imp (fn_16p_t [.n n0, .n n1, .n n2, .n n3, .n n4]) (ev_16p [.n n0, .n n1, .n n2, .n n3, .n n4]) :=
(.pa [1]
(.nd (fun h0 =>
(.pa [1]
(.nd (fun h1 =>
(.pa [1,1,1]
.lf)) (fun h1 =>
(.pa [1]
(.nd (fun h2 =>
(.pa [1]
(.nd (fun h3 =>
(.pa [1]
.lf)) (fun h3 =>
(.pa [1]
(.nd (fun h4 =>
(.pa [1,1]
(.nd (fun h5 =>
(.pa [1]
(.nd (fun h6 =>
(.pa [1,1]
(.nd (fun h7 =>
(.pa [1]
(.nd (fun h8 =>
(.pa [1,1]
(.nd (fun h9 =>
(.pa [1]
(.nd (fun h10 =>
(.pa [1,1]
(.nd (fun h11 =>
(.pa [1]
(.nd (fun h12 =>
(.pa [1,1]
(.nd (fun h13 =>
(.pa [1,1]
(.nd (fun h14 =>
(.pa [1,1]
.lf)) (fun h14 =>
.none)))) (fun h13 =>
.none)))) (fun h12 =>
.none)))) (fun h11 =>
.none)))) (fun h10 =>
.none)))) (fun h9 =>
.none)))) (fun h8 =>
.none)))) (fun h7 =>
.none)))) (fun h6 =>
.none)))) (fun h5 =>
.none)))) (fun h4 =>
.none))))))) (fun h2 =>
(.pa [0,1,1,1]
.lf)))))))) (fun h0 =>
(.pa [0,1,1,1,1,1]
.lf))))

noncomputable def cs_16p : FuncId → Option CSpec := csLend 16 B16p cs_14p
theorem cs_16p_ok : CsOk Try.prog cs_16p := csLend_ok cs_14p_ok B16p_ok

noncomputable def ev_18p (env : List Dat) : Tree (Nat × List Dat) := Lk.boxCN [(0, TB)] false LK cs_16p 18 ls0 (mkF [stV 0] [] [] [(.own 0, [.arr TB 0])] fun _ => none) env
theorem op_18p_ex : ExB ev_18p := exB _
noncomputable def op_18p := Classical.choose op_18p_ex
theorem op_18p_eq (env : List Dat) : op_18p env = (ev_18p env).sel := Classical.choose_spec op_18p_ex env
noncomputable def B18p : FBox := mkF [stV 0] [] [] [(.own 0, [.arr TB 0])] op_18p
theorem B18p_ok : RunOk Try.prog 18 (boxRun B18p) := mkFN_ok (nils := [(0, TB)]) (op := op_18p) cs_16p_ok hmix false (LsOk.none _ _ _) (fun env x h => by rw [op_18p_eq] at h; rw [← boxCN_lk]; exact h)

noncomputable def fn_18p_t : List Dat → Tree (Nat × List Dat)
 | [.n n0, .n n1, .n n2, .l (Ty.int IntKind.u8) l3, .n n4] =>
 (let r1 := (op_43 [.n n0, .n n1, .n n2, .l TB l3, .n n4]);
 (.node (isK 0 [.l TB] r1)
 (.node (decide ((1 + List.length (gl TB (dOf r1) 0)) * 1 ≤ 140737488355328))
 (let r2 := (op_q13 [.l TB (([(3 : Int)] : List (Ty.den TB)) ++ gl TB (dOf r1) 0)]);
 (.node (isK 0 [.n] r2)
 (let r3 := (op_30 [.n (IntKind.wrap .u64 (gn (dOf r2) 0)), .n (4 : Int)]);
 (.node (isK 0 [.l TB] r3)
 (.node (decide ((List.length (([(3 : Int)] : List (Ty.den TB)) ++ gl TB (dOf r1) 0) + List.length (gl TB (dOf r3) 0)) * 1 ≤ 140737488355328))
 (.leaf ((0, [.l TB (([(3 : Int)] : List (Ty.den TB)) ++ gl TB (dOf r1) 0 ++ gl TB (dOf r3) 0)])))
 (.bad 62))
 (.bad 351)))
 (.bad 351)))
 (.bad 62))
 (.bad 351)))
 | _ => .bad 0
theorem fn_18p_t_im (n0 : Int) (n1 : Int) (n2 : Int) (l3 : List (Ty.den TB)) (n4 : Int) (g0 : l3.length = 64) : Imp (fn_18p_t [.n n0, .n n1, .n n2, .l TB l3, .n n4]) (ev_18p [.n n0, .n n1, .n n2, .l TB l3, .n n4]) :=
(.nd (fun h0 =>
(.pa [1]
(.nd (fun h1 =>
(.pa [1]
(.nd (fun h2 =>
(.pa [1,1]
(.nd (fun h3 =>
(.pa [1,1]
(.nd (fun h4 =>
(.pa [1,1]
.lf)) (fun h4 =>
.none)))) (fun h3 =>
.none)))) (fun h2 =>
.none)))) (fun h1 =>
.none)))) (fun h0 =>
.none))

noncomputable def cs_18p : FuncId → Option CSpec := csLend 18 B18p cs_16p
theorem cs_18p_ok : CsOk Try.prog cs_18p := csLend_ok cs_16p_ok B18p_ok

noncomputable def ev_19p (env : List Dat) : Tree (Nat × List Dat) := Lk.boxCN [(0, TB)] false LK cs_18p 19 ls0 (mkF [loV 0] [] [] [(.own 0, [.arr TB 0])] fun _ => none) env
theorem op_19p_ex : ExB ev_19p := exB _
noncomputable def op_19p := Classical.choose op_19p_ex
theorem op_19p_eq (env : List Dat) : op_19p env = (ev_19p env).sel := Classical.choose_spec op_19p_ex env
noncomputable def B19p : FBox := mkF [loV 0] [] [] [(.own 0, [.arr TB 0])] op_19p
theorem B19p_ok : RunOk Try.prog 19 (boxRun B19p) := mkFN_ok (nils := [(0, TB)]) (op := op_19p) cs_18p_ok hmix false (LsOk.none _ _ _) (fun env x h => by rw [op_19p_eq] at h; rw [← boxCN_lk]; exact h)

noncomputable def fn_19p_t : List Dat → Tree (Nat × List Dat)
 | [.n n0, .n n1, .n n2, .n n3, .n n4, .l (Ty.int IntKind.u8) l5, .n n6] =>
 (.node (decide (n0 ≥ (0 : Int)))
 (.node (!decide (n0 ≤ (1099511627776 : Int)))
 (.leaf ((0, [.l TB []])))
 (.node (decide (n1 ≥ (0 : Int)))
 (.node (!decide (n1 ≤ (1099511627776 : Int)))
 (.leaf ((0, [.l TB []])))
 (let r1 := (op_30 [.n (IntKind.wrap .u64 n0), .n (8 : Int)]);
 (.node (isK 0 [.l TB] r1)
 (.node (decide ((1 + List.length (gl TB (dOf r1) 0)) * 1 ≤ 140737488355328))
 (let r2 := (op_30 [.n (IntKind.wrap .u64 n1), .n (8 : Int)]);
 (.node (isK 0 [.l TB] r2)
 (.node (decide ((List.length (([(4 : Int)] : List (Ty.den TB)) ++ gl TB (dOf r1) 0) + List.length (gl TB (dOf r2) 0)) * 1 ≤ 140737488355328))
 (let r3 := (op_43 [.n n2, .n n3, .n n4, .l TB l5, .n n6]);
 (.node (isK 0 [.l TB] r3)
 (.node (decide ((List.length (([(4 : Int)] : List (Ty.den TB)) ++ gl TB (dOf r1) 0 ++ gl TB (dOf r2) 0) + List.length (gl TB (dOf r3) 0)) * 1 ≤ 140737488355328))
 (let r4 := (op_q13 [.l TB (([(4 : Int)] : List (Ty.den TB)) ++ gl TB (dOf r1) 0 ++ gl TB (dOf r2) 0 ++ gl TB (dOf r3) 0)]);
 (.node (isK 0 [.n] r4)
 (let r5 := (op_30 [.n (IntKind.wrap .u64 (gn (dOf r4) 0)), .n (4 : Int)]);
 (.node (isK 0 [.l TB] r5)
 (.node (decide ((List.length (([(4 : Int)] : List (Ty.den TB)) ++ gl TB (dOf r1) 0 ++ gl TB (dOf r2) 0 ++ gl TB (dOf r3) 0) + List.length (gl TB (dOf r5) 0)) * 1 ≤ 140737488355328))
 (.leaf ((0, [.l TB (([(4 : Int)] : List (Ty.den TB)) ++ gl TB (dOf r1) 0 ++ gl TB (dOf r2) 0 ++ gl TB (dOf r3) 0 ++ gl TB (dOf r5) 0)])))
 (.bad 62))
 (.bad 351)))
 (.bad 351)))
 (.bad 62))
 (.bad 351)))
 (.bad 62))
 (.bad 351)))
 (.bad 62))
 (.bad 351))))
 (.leaf ((0, [.l TB []])))))
 (.leaf ((0, [.l TB []]))))
 | _ => .bad 0
theorem fn_19p_t_im (n0 : Int) (n1 : Int) (n2 : Int) (n3 : Int) (n4 : Int) (l5 : List (Ty.den TB)) (n6 : Int) (g0 : l5.length = 64) : Imp (fn_19p_t [.n n0, .n n1, .n n2, .n n3, .n n4, .l TB l5, .n n6]) (ev_19p [.n n0, .n n1, .n n2, .n n3, .n n4, .l TB l5, .n n6]) :=
(.pa [1]
(.nd (fun h0 =>
(.pa [1]
(.nd (fun h1 =>
(.pa [1,1,1]
.lf)) (fun h1 =>
(.pa [1]
(.nd (fun h2 =>
(.pa [1]
(.nd (fun h3 =>
(.pa [1]
.lf)) (fun h3 =>
(.pa [1]
(.nd (fun h4 =>
(.pa [1,1]
(.nd (fun h5 =>
(.pa [1]
(.nd (fun h6 =>
(.pa [1,1]
(.nd (fun h7 =>
(.nd (fun h8 =>
(.pa [1]
(.nd (fun h9 =>
(.pa [1]
(.nd (fun h10 =>
(.pa [1,1]
(.nd (fun h11 =>
(.pa [1,1]
(.nd (fun h12 =>
(.pa [1,1]
.lf)) (fun h12 =>
.none)))) (fun h11 =>
.none)))) (fun h10 =>
.none)))) (fun h9 =>
.none)))) (fun h8 =>
.none))) (fun h7 =>
.none)))) (fun h6 =>
.none)))) (fun h5 =>
.none)))) (fun h4 =>
.none))))))) (fun h2 =>
(.pa [0,1,1,1]
.lf)))))))) (fun h0 =>
(.pa [0,1,1,1,1,1]
.lf))))

noncomputable def cs_19p : FuncId → Option CSpec := csLend 19 B19p cs_18p
theorem cs_19p_ok : CsOk Try.prog cs_19p := csLend_ok cs_18p_ok B19p_ok

noncomputable def ev_21p (env : List Dat) : Tree (Nat × List Dat) := Lk.boxCN [(0, TB)] false LK cs_19p 21 ls0 (mkF [lmV 0] [] [] [(.own 0, [.arr TB 0])] fun _ => none) env
theorem op_21p_ex : ExB ev_21p := exB _
noncomputable def op_21p := Classical.choose op_21p_ex
theorem op_21p_eq (env : List Dat) : op_21p env = (ev_21p env).sel := Classical.choose_spec op_21p_ex env
noncomputable def B21p : FBox := mkF [lmV 0] [] [] [(.own 0, [.arr TB 0])] op_21p
theorem B21p_ok : RunOk Try.prog 21 (boxRun B21p) := mkFN_ok (nils := [(0, TB)]) (op := op_21p) cs_19p_ok hmix false (LsOk.none _ _ _) (fun env x h => by rw [op_21p_eq] at h; rw [← boxCN_lk]; exact h)

noncomputable def fn_21p_t : List Dat → Tree (Nat × List Dat)
 | [.n n0, .n n1, .n n2, .n n3, .s s4] =>
 (.node (decide (n2 < (0 : Int)))
 (.leaf ((0, [.l TB []])))
 (.node (decide (n2 > (4611686018427387904 : Int)))
 (.leaf ((0, [.l TB []])))
 (.node (decide (n3 < (0 : Int)))
 (.leaf ((0, [.l TB []])))
 (.node (decide (n3 > (4611686018427387904 : Int)))
 (.leaf ((0, [.l TB []])))
 (.node (decide ((↑(ByteArray.size s4) : Int) > (2048 : Int)))
 (.leaf ((0, [.l TB []])))
 (let r1 := (op_30 [.n (IntKind.wrap .u64 n2), .n (8 : Int)]);
 (.node (isK 0 [.l TB] r1)
 (.node (decide ((3 + List.length (gl TB (dOf r1) 0)) * 1 ≤ 140737488355328))
 (let r2 := (op_30 [.n (IntKind.wrap .u64 n3), .n (8 : Int)]);
 (.node (isK 0 [.l TB] r2)
 (.node (decide ((List.length (([(5 : Int), n0, n1] : List (Ty.den TB)) ++ gl TB (dOf r1) 0) + List.length (gl TB (dOf r2) 0)) * 1 ≤ 140737488355328))
 (let r3 := (op_30 [.n (IntKind.wrap .u64 (↑(ByteArray.size s4) : Int)), .n (2 : Int)]);
 (.node (isK 0 [.l TB] r3)
 (.node (decide ((List.length (([(5 : Int), n0, n1] : List (Ty.den TB)) ++ gl TB (dOf r1) 0 ++ gl TB (dOf r2) 0) + List.length (gl TB (dOf r3) 0)) * 1 ≤ 140737488355328))
 (.node (decide ((List.length (([(5 : Int), n0, n1] : List (Ty.den TB)) ++ gl TB (dOf r1) 0 ++ gl TB (dOf r2) 0 ++ gl TB (dOf r3) 0) + List.length (bytesOf s4)) * 1 ≤ 140737488355328))
 (let r4 := (op_q13 [.l TB (([(5 : Int), n0, n1] : List (Ty.den TB)) ++ gl TB (dOf r1) 0 ++ gl TB (dOf r2) 0 ++ gl TB (dOf r3) 0 ++ bytesOf s4)]);
 (.node (isK 0 [.n] r4)
 (let r5 := (op_30 [.n (IntKind.wrap .u64 (gn (dOf r4) 0)), .n (4 : Int)]);
 (.node (isK 0 [.l TB] r5)
 (.node (decide ((List.length (([(5 : Int), n0, n1] : List (Ty.den TB)) ++ gl TB (dOf r1) 0 ++ gl TB (dOf r2) 0 ++ gl TB (dOf r3) 0 ++ bytesOf s4) + List.length (gl TB (dOf r5) 0)) * 1 ≤ 140737488355328))
 (.leaf ((0, [.l TB (([(5 : Int), n0, n1] : List (Ty.den TB)) ++ gl TB (dOf r1) 0 ++ gl TB (dOf r2) 0 ++ gl TB (dOf r3) 0 ++ bytesOf s4 ++ gl TB (dOf r5) 0)])))
 (.bad 62))
 (.bad 351)))
 (.bad 351)))
 (.bad 62))
 (.bad 62))
 (.bad 351)))
 (.bad 62))
 (.bad 351)))
 (.bad 62))
 (.bad 351))))))))
 | _ => .bad 0
theorem fn_21p_t_im (n0 : Int) (n1 : Int) (n2 : Int) (n3 : Int) (s4 : ByteArray) : Imp (fn_21p_t [.n n0, .n n1, .n n2, .n n3, .s s4]) (ev_21p [.n n0, .n n1, .n n2, .n n3, .s s4]) :=
(.nd (fun h0 =>
(.pa [1,1,1,1,1,1,1,1,1]
.lf)) (fun h0 =>
(.nd (fun h1 =>
(.pa [1,1,1,1,1,1,1]
.lf)) (fun h1 =>
(.nd (fun h2 =>
(.pa [1,1,1,1,1]
.lf)) (fun h2 =>
(.nd (fun h3 =>
(.pa [1,1,1]
.lf)) (fun h3 =>
(.nd (fun h4 =>
(.pa [1]
.lf)) (fun h4 =>
(.pa [1]
(.nd (fun h5 =>
(.pa [1,1]
(.nd (fun h6 =>
(.pa [1]
(.nd (fun h7 =>
(.pa [1,1]
(.nd (fun h8 =>
(.pa [1]
(.nd (fun h9 =>
(.pa [1,1]
(.nd (fun h10 =>
(.nd (fun h11 =>
(.pa [1]
(.nd (fun h12 =>
(.pa [1,1]
(.nd (fun h13 =>
(.pa [1,1]
(.nd (fun h14 =>
(.pa [1,1]
.lf)) (fun h14 =>
.none)))) (fun h13 =>
.none)))) (fun h12 =>
.none)))) (fun h11 =>
.none))) (fun h10 =>
.none)))) (fun h9 =>
.none)))) (fun h8 =>
.none)))) (fun h7 =>
.none)))) (fun h6 =>
.none)))) (fun h5 =>
.none)))))))))))))

noncomputable def cs_21p : FuncId → Option CSpec := csLend 21 B21p cs_19p
theorem cs_21p_ok : CsOk Try.prog cs_21p := csLend_ok cs_19p_ok B21p_ok
end Go.Proofs.Ytlambinleegdoaa.Vx
namespace Go.Proofs.Ytlambinleegdoaa.Vx
open Go Go.RowKit
set_option linter.unusedVariables false
set_option linter.unusedSimpArgs false
set_option maxRecDepth 100000
set_option maxHeartbeats 0

def apC (l : List (Ty.den TC)) (x y : Int) : List (Ty.den TC) := List.append l [(x, y)]
def rdB (h : Nat) : PB := .cells [.imm TB h, .bool (h+1)]
def inO (h : Nat) (v : PV) : PV := .agg [.int .u8 h, .int .i64 (h+1), .int .u64 (h+2), .int .u32 (h+3), .int .u32 (h+4), v]
def inC (h : Nat) (v : PV) : PB := .cells [.int .u8 h, .int .i64 (h+1), .int .u64 (h+2), .int .u32 (h+3), .int .u32 (h+4), v]
def liO (h : Nat) (v : PV) : PV := .agg [.int .u8 h, .int .u8 (h+1), .int .i64 (h+2), .int .i64 (h+3), v]
def liC (h : Nat) (v : PV) : PB := .cells [.int .u8 h, .int .u8 (h+1), .int .i64 (h+2), .int .i64 (h+3), v]
noncomputable def st_L17r_3 (env : List Dat) : Tree Step := Lk.stepMC false LK cs_21p 81 3 ls0 (mkM 0 [] [(sh 20 [(0, .imm TB 0), (3, .int .u64 1), (4, .int .i64 2)], [])] [] [(.exit 0, sh 20 [(3, .int .u64 0)], [])] fun _ => none) env
theorem op_L17r_3_ex : ExL st_L17r_3 := exL _
noncomputable def op_L17r_3 := Classical.choose op_L17r_3_ex
theorem op_L17r_3_eq (env : List Dat) : op_L17r_3 env = iterS st_L17r_3 FU env := Classical.choose_spec op_L17r_3_ex env
noncomputable def L17r_3 : MBox := mkM 0 [] [(sh 20 [(0, .imm TB 0), (3, .int .u64 1), (4, .int .i64 2)], [])] [] [(.exit 0, sh 20 [(3, .int .u64 0)], [])] op_L17r_3
theorem L17r_3_eqs : L17r_3 = mkM 0 [] [(sh 20 [(0, .imm TB 0), (3, .int .u64 1), (4, .int .i64 2)], [])] [] [(.exit 0, sh 20 [(3, .int .u64 0)], [])] (iterS st_L17r_3 FU) := congrArg (fun f => mkM 0 [] [(sh 20 [(0, .imm TB 0), (3, .int .u64 1), (4, .int .i64 2)], [])] [] [(.exit 0, sh 20 [(3, .int .u64 0)], [])] f) (funext op_L17r_3_eq)
theorem L17r_3_run : ∀ t s x, (manyRun L17r_3 t s).sel = some x → CodeOk Try.prog 0 (.loop (cAt Try.prog 81 3)) t s x := by
  rw [L17r_3_eqs]
  exact mkM_ok (st := st_L17r_3) (m := FU) cs_21p_ok hmix false (LsOk.none _ _ _) (by kernel_rfl) (fun env y h => by rw [← stepMC_lk]; exact h)

noncomputable def fn_L17r_3_t : List Dat → Tree Step
 | [.l (Ty.int IntKind.u8) l0, .n n1, .n n2] =>
 (.node (decide (n2 < (↑(List.length l0) : Int)))
 (.node (inR n2 (List.length l0))
 (.leaf (Step.go [.k 0, .l TB l0, .n (ior IntKind.u64 (ishl IntKind.u64 n1 (8 : Int)) (IntKind.wrap .u64 (List.getD l0 (Int.toNat n2) (0 : Int)))), .n (IntKind.wrap .i64 (n2 + (1 : Int)))]))
 (.bad 10))
 (.leaf (Step.stop 0 [.n n1])))
 | _ => .bad 0
theorem fn_L17r_3_t_im (l0 : List (Ty.den TB)) (n1 : Int) (n2 : Int) : Imp (fn_L17r_3_t [.l TB l0, .n n1, .n n2]) (st_L17r_3 [.k 0, .l TB l0, .n n1, .n n2]) :=
(.pa [1]
(.nd (fun h0 =>
(.pa [1]
(.nd (fun h1 =>
(.pa [1]
.lf)) (fun h1 =>
.none)))) (fun h0 =>
(.pa [1]
.lf))))

theorem ls_17r_ok : LsOk Try.prog (List.length ([] : List PB)) (lsM [(3, L17r_3)] (List.length ([] : List PB))) (bodyOf Try.prog 81) := LsOk.many fun j B hB hk c hc hi => by
  simp only [lookM] at hB
  split at hB
  · rename_i e; have := Nat.eq_of_beq_eq_true e; subst this; cases hB
    have e1 : loopAt Try.prog 81 3 = [cAt Try.prog 81 3] := loopAt_one (by kernel_rfl)
    have e2 : c ∈ loopAt Try.prog 81 3 := loopsAt_mem hc hi
    rw [e1] at e2; cases List.mem_singleton.1 e2; exact L17r_3_run
  cases hB

noncomputable def ev_17r (env : List Dat) : Tree (Nat × List Dat) := Lk.boxC false LK cs_21p 81 (lsM [(3, L17r_3)] (List.length ([] : List PB))) (mkF [.imm TB 0] [] [] [(.int .u64 0, [])] fun _ => none) env
theorem op_17r_ex : ExB ev_17r := exB _
noncomputable def op_17r := Classical.choose op_17r_ex
theorem op_17r_eq (env : List Dat) : op_17r env = (ev_17r env).sel := Classical.choose_spec op_17r_ex env
noncomputable def B17r : FBox := mkF [.imm TB 0] [] [] [(.int .u64 0, [])] op_17r
theorem B17r_ok : RunOk Try.prog 81 (boxRun B17r) := mkF_ok (op := op_17r) cs_21p_ok hmix false (ls_17r_ok) (fun env x h => by rw [op_17r_eq] at h; rw [← boxC_lk]; exact h)

noncomputable def fn_17r_t : List Dat → Tree (Nat × List Dat)
 | [.l (Ty.int IntKind.u8) l0] =>
 (let r1 := (op_L17r_3 [.k 0, .l TB l0, .n (0 : Int), .n (0 : Int)]);
 (.node (isK 0 [.n] r1)
 (.leaf ((0, [.n (gn (dOf r1) 0)])))
 (.bad 351)))
 | _ => .bad 0
theorem fn_17r_t_im (l0 : List (Ty.den TB)) : Imp (fn_17r_t [.l TB l0]) (ev_17r [.l TB l0]) :=
(.nd (fun h0 =>
(.pa [1]
.lf)) (fun h0 =>
.none))

noncomputable def cs_17r : FuncId → Option CSpec := csLend 81 B17r cs_21p
theorem cs_17r_ok : CsOk Try.prog cs_17r := csLend_ok cs_21p_ok B17r_ok

noncomputable def ev_33r (env : List Dat) : Tree (Nat × List Dat) := Lk.boxCV [(some 0, 0, .imm TB)] false LK cs_17r 95 ls0 (mkF [.ptr 0 0, .int .i64 0] [rdB 1] [0] [(.imm TB 0, [rdB 1]), (.nilsl, [rdB 0])] fun _ => none) env
theorem op_33r_ex : ExB ev_33r := exB _
noncomputable def op_33r := Classical.choose op_33r_ex
theorem op_33r_eq (env : List Dat) : op_33r env = (ev_33r env).sel := Classical.choose_spec op_33r_ex env
noncomputable def B33r : FBox := mkF [.ptr 0 0, .int .i64 0] [rdB 1] [0] [(.imm TB 0, [rdB 1]), (.nilsl, [rdB 0])] op_33r
theorem B33r_ok : RunOk Try.prog 95 (boxRun B33r) := mkFV_ok (cv := [(some 0, 0, .imm TB)]) (op := op_33r) cs_17r_ok hmix false (LsOk.none _ _ _) (fun env x h => by rw [op_33r_eq] at h; rw [← boxCV_lk]; exact h)

noncomputable def fn_33r_t : List Dat → Tree (Nat × List Dat)
 | [.n n0, .l (Ty.int IntKind.u8) l1, .b b2] =>
 (.node (b2)
 (.leaf ((1, [.l TB [], .b true])))
 (.node (decide (n0 < (0 : Int)))
 (.leaf ((1, [.l TB [], .b true])))
 (.node (decide (n0 > (↑(List.length l1) : Int)))
 (.leaf ((1, [.l TB [], .b true])))
 (.node (true && decide ((0 : Int) ≤ n0))
 (.leaf ((0, [.l TB (List.take (Int.toNat n0) l1), .l TB (List.drop (Int.toNat n0) l1), .b b2])))
 (.bad 39)))))
 | _ => .bad 0
theorem fn_33r_t_im (n0 : Int) (l1 : List (Ty.den TB)) (b2 : Bool) : Imp (fn_33r_t [.n n0, .l TB l1, .b b2]) (ev_33r [.n n0, .l TB l1, .b b2]) :=
(.pa [0]
(.nd (fun h0 =>
(.pa [1,1,1,1,1]
.lf)) (fun h0 =>
(.nd (fun h1 =>
(.pa [1,1,1]
.lf)) (fun h1 =>
(.nd (fun h2 =>
(.pa [1]
.lf)) (fun h2 =>
(.sT ((decide (n0 = n0)))
(.pt (c := (decide ((0 : Int) ≤ n0) && decide (n0 ≤ (↑(List.length l1) : Int)))) (by kernel_rfl) (by kernel_rfl) (by (simp only [w64d, decide_eq_true_eq, decide_eq_false_iff_not, beq_iff_eq, beq_eq_false_iff_ne, bne_iff_ne, ne_eq, inR, Bool.and_eq_true, Bool.and_eq_false_iff, Bool.not_eq_true', Bool.not_eq_false', Bool.not_eq_eq_eq_not, Bool.not_true, Bool.not_false] at *; omega))
(.nd (fun h3 =>
(.sT ((true && decide ((↑(List.length l1) : Int) ≤ (↑(List.length l1) : Int))))
(.pt (c := (decide ((0 : Int) ≤ n0) && decide (n0 ≤ (↑(List.length l1) : Int)))) (by kernel_rfl) (by kernel_rfl) (by (simp only [w64d, decide_eq_true_eq, decide_eq_false_iff_not, beq_iff_eq, beq_eq_false_iff_ne, bne_iff_ne, ne_eq, inR, Bool.and_eq_true, Bool.and_eq_false_iff, Bool.not_eq_true', Bool.not_eq_false', Bool.not_eq_eq_eq_not, Bool.not_true, Bool.not_false] at *; omega))
(.pa [1]
.lf)))) (fun h3 =>
.none)))))))))))

noncomputable def cs_33r : FuncId → Option CSpec := csAdd 95 [B33r] cs_17r
theorem cs_33r_ok : CsOk Try.prog cs_33r := csAdd_ok cs_17r_ok fun B hB => by
  cases List.mem_singleton.1 hB
  exact B33r_ok

noncomputable def st_L34r_3 (env : List Dat) : Tree Step := Lk.stepMC false LK cs_33r 93 3 ls0 (mkM 1 [] [(sh 40 [(0, .ptr 0 0), (1, .int .i64 0), (5, .int .u64 1), (10, .imm TB 2), (11, .int .i64 3), (12, .int .i64 4)], [rdB 5]), (sh 40 [(0, .ptr 0 0), (1, .int .i64 0), (5, .int .u64 1), (10, .nilsl), (11, .int .i64 2), (12, .int .i64 3)], [rdB 4])] [] [(.exit 0, sh 40 [(0, .ptr 0 0), (1, .int .i64 0), (5, .int .u64 1)], [rdB 2])] fun _ => none) env
theorem op_L34r_3_ex : ExL st_L34r_3 := exL _
noncomputable def op_L34r_3 := Classical.choose op_L34r_3_ex
theorem op_L34r_3_eq (env : List Dat) : op_L34r_3 env = iterS st_L34r_3 FU env := Classical.choose_spec op_L34r_3_ex env
noncomputable def L34r_3 : MBox := mkM 1 [] [(sh 40 [(0, .ptr 0 0), (1, .int .i64 0), (5, .int .u64 1), (10, .imm TB 2), (11, .int .i64 3), (12, .int .i64 4)], [rdB 5]), (sh 40 [(0, .ptr 0 0), (1, .int .i64 0), (5, .int .u64 1), (10, .nilsl), (11, .int .i64 2), (12, .int .i64 3)], [rdB 4])] [] [(.exit 0, sh 40 [(0, .ptr 0 0), (1, .int .i64 0), (5, .int .u64 1)], [rdB 2])] op_L34r_3
theorem L34r_3_eqs : L34r_3 = mkM 1 [] [(sh 40 [(0, .ptr 0 0), (1, .int .i64 0), (5, .int .u64 1), (10, .imm TB 2), (11, .int .i64 3), (12, .int .i64 4)], [rdB 5]), (sh 40 [(0, .ptr 0 0), (1, .int .i64 0), (5, .int .u64 1), (10, .nilsl), (11, .int .i64 2), (12, .int .i64 3)], [rdB 4])] [] [(.exit 0, sh 40 [(0, .ptr 0 0), (1, .int .i64 0), (5, .int .u64 1)], [rdB 2])] (iterS st_L34r_3 FU) := congrArg (fun f => mkM 1 [] [(sh 40 [(0, .ptr 0 0), (1, .int .i64 0), (5, .int .u64 1), (10, .imm TB 2), (11, .int .i64 3), (12, .int .i64 4)], [rdB 5]), (sh 40 [(0, .ptr 0 0), (1, .int .i64 0), (5, .int .u64 1), (10, .nilsl), (11, .int .i64 2), (12, .int .i64 3)], [rdB 4])] [] [(.exit 0, sh 40 [(0, .ptr 0 0), (1, .int .i64 0), (5, .int .u64 1)], [rdB 2])] f) (funext op_L34r_3_eq)
theorem L34r_3_run : ∀ t s x, (manyRun L34r_3 t s).sel = some x → CodeOk Try.prog 1 (.loop (cAt Try.prog 93 3)) t s x := by
  rw [L34r_3_eqs]
  exact mkM_ok (st := st_L34r_3) (m := FU) cs_33r_ok hmix false (LsOk.none _ _ _) (by kernel_rfl) (fun env y h => by rw [← stepMC_lk]; exact h)

noncomputable def fn_L34r_3_i : List Dat → Tree Step
 | [.n n0, .n n1, .l (Ty.int IntKind.u8) l2, .n n3, .n n4, .l (Ty.int IntKind.u8) l5, .b b6] =>
 (.node (decide (n4 < n3))
 (.node (inR n4 (List.length l2))
 (.leaf (Step.go [.k 0, .n n0, .n (ior IntKind.u64 (ishl IntKind.u64 n1 (8 : Int)) (IntKind.wrap .u64 (List.getD l2 (Int.toNat n4) (0 : Int)))), .l TB l2, .n n3, .n (IntKind.wrap .i64 (n4 + (1 : Int))), .l TB l5, .b b6]))
 (.bad 10))
 (.leaf (Step.stop 0 [.n n0, .n n1, .l TB l5, .b b6])))
 | _ => .bad 0
theorem fn_L34r_3_i_im (n0 : Int) (n1 : Int) (l2 : List (Ty.den TB)) (n3 : Int) (n4 : Int) (l5 : List (Ty.den TB)) (b6 : Bool) : Imp (fn_L34r_3_i [.n n0, .n n1, .l TB l2, .n n3, .n n4, .l TB l5, .b b6]) (st_L34r_3 [.k 0, .n n0, .n n1, .l TB l2, .n n3, .n n4, .l TB l5, .b b6]) :=
(.pa [1]
(.nd (fun h0 =>
(.nd (fun h1 =>
(.pa [1,1]
.lf)) (fun h1 =>
.none))) (fun h0 =>
(.pa [1]
.lf))))

noncomputable def fn_L34r_3_n : List Dat → Tree Step
 | [.n n0, .n n1, .n n2, .n n3, .l (Ty.int IntKind.u8) l4, .b b5] =>
 (.leaf (Step.stop 0 [.n n0, .n n1, .l TB l4, .b b5]))
 | _ => .bad 0
theorem fn_L34r_3_n_im (n0 : Int) (n1 : Int) (n2 : Int) (n3 : Int) (l4 : List (Ty.den TB)) (b5 : Bool) (g0 : n2 = 0) (g1 :  n3 = 0) : Imp (fn_L34r_3_n [.n n0, .n n1, .n n2, .n n3, .l TB l4, .b b5]) (st_L34r_3 [.k 1, .n n0, .n n1, .n n2, .n n3, .l TB l4, .b b5]) :=
(.pa [1]
(.sF ((decide (n3 < n2)))
(.pa [1]
.lf)))

theorem ls_34r_ok : LsOk Try.prog (List.length ([rdB 1] : List PB)) (lsM [(3, L34r_3)] (List.length ([rdB 1] : List PB))) (bodyOf Try.prog 93) := LsOk.many fun j B hB hk c hc hi => by
  simp only [lookM] at hB
  split at hB
  · rename_i e; have := Nat.eq_of_beq_eq_true e; subst this; cases hB
    have e1 : loopAt Try.prog 93 3 = [cAt Try.prog 93 3] := loopAt_one (by kernel_rfl)
    have e2 : c ∈ loopAt Try.prog 93 3 := loopsAt_mem hc hi
    rw [e1] at e2; cases List.mem_singleton.1 e2; exact L34r_3_run
  cases hB

noncomputable def ev_34r (env : List Dat) : Tree (Nat × List Dat) := Lk.boxC false LK cs_33r 93 (lsM [(3, L34r_3)] (List.length ([rdB 1] : List PB))) (mkF [.ptr 0 0, .int .i64 0] [rdB 1] [0] [(.iface 5 (.int .u8 0), [rdB 1]), (.iface 93 (.int .u16 0), [rdB 1]), (.iface 23 (.int .u32 0), [rdB 1]), (.iface 22 (.int .u64 0), [rdB 1])] fun _ => none) env
theorem op_34r_ex : ExB ev_34r := exB _
noncomputable def op_34r := Classical.choose op_34r_ex
theorem op_34r_eq (env : List Dat) : op_34r env = (ev_34r env).sel := Classical.choose_spec op_34r_ex env
noncomputable def B34r : FBox := mkF [.ptr 0 0, .int .i64 0] [rdB 1] [0] [(.iface 5 (.int .u8 0), [rdB 1]), (.iface 93 (.int .u16 0), [rdB 1]), (.iface 23 (.int .u32 0), [rdB 1]), (.iface 22 (.int .u64 0), [rdB 1])] op_34r
theorem B34r_ok : RunOk Try.prog 93 (boxRun B34r) := mkF_ok (op := op_34r) cs_33r_ok hmix false (ls_34r_ok) (fun env x h => by rw [op_34r_eq] at h; rw [← boxC_lk]; exact h)

noncomputable def fn_34r_t : List Dat → Tree (Nat × List Dat)
 | [.n n0, .l (Ty.int IntKind.u8) l1, .b b2] =>
 (let r1 := (op_33r [.n n0, .l TB l1, .b b2]);
 (.node (isK 0 [.l TB, .l TB, .b] r1)
 (let r2 := (op_L34r_3 [.k 0, .n n0, .n (0 : Int), .l TB (gl TB (dOf r1) 0), .n (↑(List.length (gl TB (dOf r1) 0)) : Int), .n (0 : Int), .l TB (gl TB (dOf r1) 1), .b (gb (dOf r1) 2)]);
 (.node (isK 0 [.n, .n, .l TB, .b] r2)
 (.node (gn (dOf r2) 0 == (1 : Int))
 (.leaf ((0, [.n (IntKind.wrap .u8 (gn (dOf r2) 1)), .l TB (gl TB (dOf r2) 2), .b (gb (dOf r2) 3)])))
 (.node (gn (dOf r2) 0 == (2 : Int))
 (.leaf ((1, [.n (IntKind.wrap .u16 (gn (dOf r2) 1)), .l TB (gl TB (dOf r2) 2), .b (gb (dOf r2) 3)])))
 (.node (gn (dOf r2) 0 == (4 : Int))
 (.leaf ((2, [.n (IntKind.wrap .u32 (gn (dOf r2) 1)), .l TB (gl TB (dOf r2) 2), .b (gb (dOf r2) 3)])))
 (.leaf ((3, [.n (gn (dOf r2) 1), .l TB (gl TB (dOf r2) 2), .b (gb (dOf r2) 3)]))))))
 (.bad 351)))
 (.node (isK 1 [.l TB, .b] r1)
 (let r2 := (op_L34r_3 [.k 1, .n n0, .n (0 : Int), .n (0 : Int), .n (0 : Int), .l TB (gl TB (dOf r1) 0), .b (gb (dOf r1) 1)]);
 (.node (isK 0 [.n, .n, .l TB, .b] r2)
 (.node (gn (dOf r2) 0 == (1 : Int))
 (.leaf ((0, [.n (IntKind.wrap .u8 (gn (dOf r2) 1)), .l TB (gl TB (dOf r2) 2), .b (gb (dOf r2) 3)])))
 (.node (gn (dOf r2) 0 == (2 : Int))
 (.leaf ((1, [.n (IntKind.wrap .u16 (gn (dOf r2) 1)), .l TB (gl TB (dOf r2) 2), .b (gb (dOf r2) 3)])))
 (.node (gn (dOf r2) 0 == (4 : Int))
 (.leaf ((2, [.n (IntKind.wrap .u32 (gn (dOf r2) 1)), .l TB (gl TB (dOf r2) 2), .b (gb (dOf r2) 3)])))
 (.leaf ((3, [.n (gn (dOf r2) 1), .l TB (gl TB (dOf r2) 2), .b (gb (dOf r2) 3)]))))))
 (.bad 351)))
 (.bad 351))))
 | _ => .bad 0
theorem fn_34r_t_im (n0 : Int) (l1 : List (Ty.den TB)) (b2 : Bool) : Imp (fn_34r_t [.n n0, .l TB l1, .b b2]) (ev_34r [.n n0, .l TB l1, .b b2]) :=
(.pa [1]
(.nd (fun h0 =>
(.pa [1]
(.nd (fun h1 =>
(.nd (fun h2 =>
(.pa [1]
.lf)) (fun h2 =>
(.nd (fun h3 =>
(.pa [1]
.lf)) (fun h3 =>
(.nd (fun h4 =>
(.pa [1]
.lf)) (fun h4 =>
(.pa [1]
.lf)))))))) (fun h1 =>
.none)))) (fun h0 =>
(.nd (fun h1 =>
(.pa [1]
(.nd (fun h2 =>
(.nd (fun h3 =>
(.pa [1]
.lf)) (fun h3 =>
(.nd (fun h4 =>
(.pa [1]
.lf)) (fun h4 =>
(.nd (fun h5 =>
(.pa [1]
.lf)) (fun h5 =>
(.pa [1]
.lf)))))))) (fun h2 =>
.none)))) (fun h1 =>
.none)))))

noncomputable def cs_34r : FuncId → Option CSpec := csAdd 93 [B34r] cs_33r
theorem cs_34r_ok : CsOk Try.prog cs_34r := csAdd_ok cs_33r_ok fun B hB => by
  cases List.mem_singleton.1 hB
  exact B34r_ok

noncomputable def ev_13r (env : List Dat) : Tree (Nat × List Dat) := Lk.boxCV [(none, 0, .imm TB)] false LK cs_34r 92 ls0 (mkF [.imm TB 0] [] [] [(.ptr 0 0, [rdB 0])] fun _ => none) env
theorem op_13r_ex : ExB ev_13r := exB _
noncomputable def op_13r := Classical.choose op_13r_ex
theorem op_13r_eq (env : List Dat) : op_13r env = (ev_13r env).sel := Classical.choose_spec op_13r_ex env
noncomputable def B13r : FBox := mkF [.imm TB 0] [] [] [(.ptr 0 0, [rdB 0])] op_13r
theorem B13r_ok : RunOk Try.prog 92 (boxRun B13r) := mkFV_ok (cv := [(none, 0, .imm TB)]) (op := op_13r) cs_34r_ok hmix false (LsOk.none _ _ _) (fun env x h => by rw [op_13r_eq] at h; rw [← boxCV_lk]; exact h)

noncomputable def fn_13r_t : List Dat → Tree (Nat × List Dat)
 | [.l (Ty.int IntKind.u8) l0] =>
 (let r1 := (op_31 [.l TB l0]);
 (.node (isK 0 [.l TB] r1)
 (.leaf ((0, [.l TB (gl TB (dOf r1) 0), .b false])))
 (.bad 351)))
 | _ => .bad 0
theorem fn_13r_t_im (l0 : List (Ty.den TB)) : Imp (fn_13r_t [.l TB l0]) (ev_13r [.l TB l0]) :=
(.nd (fun h0 =>
(.pa [1,1]
.lf)) (fun h0 =>
.none))

noncomputable def cs_13r : FuncId → Option CSpec := csAdd 92 [B13r] cs_34r
theorem cs_13r_ok : CsOk Try.prog cs_13r := csAdd_ok cs_34r_ok fun B hB => by
  cases List.mem_singleton.1 hB
  exact B13r_ok

noncomputable def ev_77r (env : List Dat) : Tree (Nat × List Dat) := Lk.boxC false LK cs_13r 77 ls0 (mkF [.ptr 0 0] [rdB 0] [0] [(.int .u8 0, [rdB 1])] fun _ => none) env
theorem op_77r_ex : ExB ev_77r := exB _
noncomputable def op_77r := Classical.choose op_77r_ex
theorem op_77r_eq (env : List Dat) : op_77r env = (ev_77r env).sel := Classical.choose_spec op_77r_ex env
noncomputable def B77r : FBox := mkF [.ptr 0 0] [rdB 0] [0] [(.int .u8 0, [rdB 1])] op_77r
theorem B77r_ok : RunOk Try.prog 77 (boxRun B77r) := mkF_ok (op := op_77r) cs_13r_ok hmix false (LsOk.none _ _ _) (fun env x h => by rw [op_77r_eq] at h; rw [← boxC_lk]; exact h)

noncomputable def fn_77r_t : List Dat → Tree (Nat × List Dat)
 | [.l (Ty.int IntKind.u8) l0, .b b1] =>
 (let r1 := (op_34r [.n (1 : Int), .l TB l0, .b b1]);
 (.node (isK 0 [.n, .l TB, .b] r1)
 (.leaf ((0, [.n (gn (dOf r1) 0), .l TB (gl TB (dOf r1) 1), .b (gb (dOf r1) 2)])))
 (.node (isK 1 [.n, .l TB, .b] r1)
 (.bad 113)
 (.node (isK 2 [.n, .l TB, .b] r1)
 (.bad 113)
 (.node (isK 3 [.n, .l TB, .b] r1)
 (.bad 113)
 (.bad 351))))))
 | _ => .bad 0
theorem fn_77r_t_im (l0 : List (Ty.den TB)) (b1 : Bool) : Imp (fn_77r_t [.l TB l0, .b b1]) (ev_77r [.l TB l0, .b b1]) :=
(.pa [1]
(.nd (fun h0 =>
(.pa [1,1]
.lf)) (fun h0 =>
(.nd (fun h1 =>
(.pa [1]
.none)) (fun h1 =>
(.nd (fun h2 =>
(.pa [1]
.none)) (fun h2 =>
(.nd (fun h3 =>
(.pa [1]
.none)) (fun h3 =>
.none)))))))))

noncomputable def cs_77r : FuncId → Option CSpec := csAdd 77 [B77r] cs_13r
theorem cs_77r_ok : CsOk Try.prog cs_77r := csAdd_ok cs_13r_ok fun B hB => by
  cases List.mem_singleton.1 hB
  exact B77r_ok

noncomputable def ev_78r (env : List Dat) : Tree (Nat × List Dat) := Lk.boxC false LK cs_77r 78 ls0 (mkF [.ptr 0 0] [rdB 0] [0] [(.int .u64 0, [rdB 1])] fun _ => none) env
theorem op_78r_ex : ExB ev_78r := exB _
noncomputable def op_78r := Classical.choose op_78r_ex
theorem op_78r_eq (env : List Dat) : op_78r env = (ev_78r env).sel := Classical.choose_spec op_78r_ex env
noncomputable def B78r : FBox := mkF [.ptr 0 0] [rdB 0] [0] [(.int .u64 0, [rdB 1])] op_78r
theorem B78r_ok : RunOk Try.prog 78 (boxRun B78r) := mkF_ok (op := op_78r) cs_77r_ok hmix false (LsOk.none _ _ _) (fun env x h => by rw [op_78r_eq] at h; rw [← boxC_lk]; exact h)

noncomputable def fn_78r_t : List Dat → Tree (Nat × List Dat)
 | [.l (Ty.int IntKind.u8) l0, .b b1] =>
 (let r1 := (op_34r [.n (8 : Int), .l TB l0, .b b1]);
 (.node (isK 0 [.n, .l TB, .b] r1)
 (.bad 113)
 (.node (isK 1 [.n, .l TB, .b] r1)
 (.bad 113)
 (.node (isK 2 [.n, .l TB, .b] r1)
 (.bad 113)
 (.node (isK 3 [.n, .l TB, .b] r1)
 (.leaf ((0, [.n (gn (dOf r1) 0), .l TB (gl TB (dOf r1) 1), .b (gb (dOf r1) 2)])))
 (.bad 351))))))
 | _ => .bad 0
theorem fn_78r_t_im (l0 : List (Ty.den TB)) (b1 : Bool) : Imp (fn_78r_t [.l TB l0, .b b1]) (ev_78r [.l TB l0, .b b1]) :=
(.pa [1]
(.nd (fun h0 =>
(.pa [1]
.none)) (fun h0 =>
(.nd (fun h1 =>
(.pa [1]
.none)) (fun h1 =>
(.nd (fun h2 =>
(.pa [1]
.none)) (fun h2 =>
(.nd (fun h3 =>
(.pa [1,1]
.lf)) (fun h3 =>
.none)))))))))

noncomputable def cs_78r : FuncId → Option CSpec := csAdd 78 [B78r] cs_77r
theorem cs_78r_ok : CsOk Try.prog cs_78r := csAdd_ok cs_77r_ok fun B hB => by
  cases List.mem_singleton.1 hB
  exact B78r_ok

noncomputable def ev_79r (env : List Dat) : Tree (Nat × List Dat) := Lk.boxC false LK cs_78r 79 ls0 (mkF [.ptr 0 0] [rdB 0] [0] [(.int .u32 0, [rdB 1])] fun _ => none) env
theorem op_79r_ex : ExB ev_79r := exB _
noncomputable def op_79r := Classical.choose op_79r_ex
theorem op_79r_eq (env : List Dat) : op_79r env = (ev_79r env).sel := Classical.choose_spec op_79r_ex env
noncomputable def B79r : FBox := mkF [.ptr 0 0] [rdB 0] [0] [(.int .u32 0, [rdB 1])] op_79r
theorem B79r_ok : RunOk Try.prog 79 (boxRun B79r) := mkF_ok (op := op_79r) cs_78r_ok hmix false (LsOk.none _ _ _) (fun env x h => by rw [op_79r_eq] at h; rw [← boxC_lk]; exact h)

noncomputable def fn_79r_t : List Dat → Tree (Nat × List Dat)
 | [.l (Ty.int IntKind.u8) l0, .b b1] =>
 (let r1 := (op_34r [.n (4 : Int), .l TB l0, .b b1]);
 (.node (isK 0 [.n, .l TB, .b] r1)
 (.bad 113)
 (.node (isK 1 [.n, .l TB, .b] r1)
 (.bad 113)
 (.node (isK 2 [.n, .l TB, .b] r1)
 (.leaf ((0, [.n (gn (dOf r1) 0), .l TB (gl TB (dOf r1) 1), .b (gb (dOf r1) 2)])))
 (.node (isK 3 [.n, .l TB, .b] r1)
 (.bad 113)
 (.bad 351))))))
 | _ => .bad 0
theorem fn_79r_t_im (l0 : List (Ty.den TB)) (b1 : Bool) : Imp (fn_79r_t [.l TB l0, .b b1]) (ev_79r [.l TB l0, .b b1]) :=
(.pa [1]
(.nd (fun h0 =>
(.pa [1]
.none)) (fun h0 =>
(.nd (fun h1 =>
(.pa [1]
.none)) (fun h1 =>
(.nd (fun h2 =>
(.pa [1,1]
.lf)) (fun h2 =>
(.nd (fun h3 =>
(.pa [1]
.none)) (fun h3 =>
.none)))))))))

noncomputable def cs_79r : FuncId → Option CSpec := csAdd 79 [B79r] cs_78r
theorem cs_79r_ok : CsOk Try.prog cs_79r := csAdd_ok cs_78r_ok fun B hB => by
  cases List.mem_singleton.1 hB
  exact B79r_ok

noncomputable def ev_83r (env : List Dat) : Tree (Nat × List Dat) := Lk.boxC false LK cs_79r 83 ls0 (mkF [.ptr 0 0] [rdB 0] [0] [(.int .u16 0, [rdB 1])] fun _ => none) env
theorem op_83r_ex : ExB ev_83r := exB _
noncomputable def op_83r := Classical.choose op_83r_ex
theorem op_83r_eq (env : List Dat) : op_83r env = (ev_83r env).sel := Classical.choose_spec op_83r_ex env
noncomputable def B83r : FBox := mkF [.ptr 0 0] [rdB 0] [0] [(.int .u16 0, [rdB 1])] op_83r
theorem B83r_ok : RunOk Try.prog 83 (boxRun B83r) := mkF_ok (op := op_83r) cs_79r_ok hmix false (LsOk.none _ _ _) (fun env x h => by rw [op_83r_eq] at h; rw [← boxC_lk]; exact h)

noncomputable def fn_83r_t : List Dat → Tree (Nat × List Dat)
 | [.l (Ty.int IntKind.u8) l0, .b b1] =>
 (let r1 := (op_34r [.n (2 : Int), .l TB l0, .b b1]);
 (.node (isK 0 [.n, .l TB, .b] r1)
 (.bad 113)
 (.node (isK 1 [.n, .l TB, .b] r1)
 (.leaf ((0, [.n (gn (dOf r1) 0), .l TB (gl TB (dOf r1) 1), .b (gb (dOf r1) 2)])))
 (.node (isK 2 [.n, .l TB, .b] r1)
 (.bad 113)
 (.node (isK 3 [.n, .l TB, .b] r1)
 (.bad 113)
 (.bad 351))))))
 | _ => .bad 0
theorem fn_83r_t_im (l0 : List (Ty.den TB)) (b1 : Bool) : Imp (fn_83r_t [.l TB l0, .b b1]) (ev_83r [.l TB l0, .b b1]) :=
(.pa [1]
(.nd (fun h0 =>
(.pa [1]
.none)) (fun h0 =>
(.nd (fun h1 =>
(.pa [1,1]
.lf)) (fun h1 =>
(.nd (fun h2 =>
(.pa [1]
.none)) (fun h2 =>
(.nd (fun h3 =>
(.pa [1]
.none)) (fun h3 =>
.none)))))))))

noncomputable def cs_83r : FuncId → Option CSpec := csAdd 83 [B83r] cs_79r
theorem cs_83r_ok : CsOk Try.prog cs_83r := csAdd_ok cs_79r_ok fun B hB => by
  cases List.mem_singleton.1 hB
  exact B83r_ok

noncomputable def ev_82r (env : List Dat) : Tree (Nat × List Dat) := Lk.boxC false LK cs_83r 82 ls0 (mkF [.ptr 0 0, .int .i64 0] [rdB 1] [0] [(.own 1, [rdB 0, .arr TB 2])] fun _ => none) env
theorem op_82r_ex : ExB ev_82r := exB _
noncomputable def op_82r := Classical.choose op_82r_ex
theorem op_82r_eq (env : List Dat) : op_82r env = (ev_82r env).sel := Classical.choose_spec op_82r_ex env
noncomputable def B82r : FBox := mkF [.ptr 0 0, .int .i64 0] [rdB 1] [0] [(.own 1, [rdB 0, .arr TB 2])] op_82r
theorem B82r_ok : RunOk Try.prog 82 (boxRun B82r) := mkF_ok (op := op_82r) cs_83r_ok hmix false (LsOk.none _ _ _) (fun env x h => by rw [op_82r_eq] at h; rw [← boxC_lk]; exact h)

noncomputable def fn_82r_t : List Dat → Tree (Nat × List Dat)
 | [.n n0, .l (Ty.int IntKind.u8) l1, .b b2] =>
 (let r1 := (op_33r [.n n0, .l TB l1, .b b2]);
 (.node (isK 0 [.l TB, .l TB, .b] r1)
 (let r2 := (op_31 [.l TB (gl TB (dOf r1) 0)]);
 (.node (isK 0 [.l TB] r2)
 (.leaf ((0, [.l TB (gl TB (dOf r1) 1), .b (gb (dOf r1) 2), .l TB (gl TB (dOf r2) 0)])))
 (.bad 351)))
 (.node (isK 1 [.l TB, .b] r1)
 (.leaf ((0, [.l TB (gl TB (dOf r1) 0), .b (gb (dOf r1) 1), .l TB (gl TB (dOf (op_31 [.l TB []])) 0)])))
 (.bad 351))))
 | _ => .bad 0
theorem fn_82r_t_im (n0 : Int) (l1 : List (Ty.den TB)) (b2 : Bool) : Imp (fn_82r_t [.n n0, .l TB l1, .b b2]) (ev_82r [.n n0, .l TB l1, .b b2]) :=
(.pa [1]
(.nd (fun h0 =>
(.pa [1]
(.nd (fun h1 =>
(.pa [1,1]
.lf)) (fun h1 =>
.none)))) (fun h0 =>
(.nd (fun h1 =>
(.pa [1,1,1,1]
.lf)) (fun h1 =>
.none)))))

noncomputable def cs_82r : FuncId → Option CSpec := csAdd 82 [B82r] cs_83r
theorem cs_82r_ok : CsOk Try.prog cs_82r := csAdd_ok cs_83r_ok fun B hB => by
  cases List.mem_singleton.1 hB
  exact B82r_ok

noncomputable def ev_74r (env : List Dat) : Tree (Nat × List Dat) := Lk.boxC false LK cs_82r 74 ls0 (mkF [.imm TB 0, .int .u8 1] [] [] [(.tup [.ptr 0 0, .bool 0], [rdB 1]), (.tup [.nilptr, .bool 0], [])] fun _ => none) env
theorem op_74r_ex : ExB ev_74r := exB _
noncomputable def op_74r := Classical.choose op_74r_ex
theorem op_74r_eq (env : List Dat) : op_74r env = (ev_74r env).sel := Classical.choose_spec op_74r_ex env
noncomputable def B74r : FBox := mkF [.imm TB 0, .int .u8 1] [] [] [(.tup [.ptr 0 0, .bool 0], [rdB 1]), (.tup [.nilptr, .bool 0], [])] op_74r
theorem B74r_ok : RunOk Try.prog 74 (boxRun B74r) := mkF_ok (op := op_74r) cs_82r_ok hmix false (LsOk.none _ _ _) (fun env x h => by rw [op_74r_eq] at h; rw [← boxC_lk]; exact h)

noncomputable def fn_74r_t : List Dat → Tree (Nat × List Dat)
 | [.l (Ty.int IntKind.u8) l0, .n n1] =>
 (.node (decide (IntKind.wrap .i64 ((↑(List.length l0) : Int) - (4 : Int)) < (1 : Int)))
 (.leaf ((1, [.b false])))
 (.node ((List.getD l0 0 (0 : Int) : Int) != n1)
 (.leaf ((1, [.b false])))
 (let r1 := (op_13r [.l TB (List.drop (Int.toNat (IntKind.wrap .i64 ((↑(List.length l0) : Int) - (4 : Int)))) l0)]);
 (.node (isK 0 [.l TB, .b] r1)
 (let r2 := (op_79r [.l TB (gl TB (dOf r1) 0), .b (gb (dOf r1) 1)]);
 (.node (isK 0 [.n, .l TB, .b] r2)
 (.node (true && decide ((0 : Int) ≤ IntKind.wrap .i64 ((↑(List.length l0) : Int) - (4 : Int))))
 (let r3 := (op_q12 [.l TB (List.take (Int.toNat (IntKind.wrap .i64 ((↑(List.length l0) : Int) - (4 : Int)))) l0)]);
 (.node (isK 0 [.n] r3)
 (.node (gn (dOf r2) 0 != gn (dOf r3) 0)
 (.leaf ((1, [.b false])))
 (.node (true && decide ((1 : Int) ≤ IntKind.wrap .i64 ((↑(List.length l0) : Int) - (4 : Int))))
 (let r4 := (op_13r [.l TB (List.drop 1 (List.take (Int.toNat (IntKind.wrap .i64 ((↑(List.length l0) : Int) - (4 : Int)))) l0))]);
 (.node (isK 0 [.l TB, .b] r4)
 (.leaf ((0, [.b true, .l TB (gl TB (dOf r4) 0), .b (gb (dOf r4) 1)])))
 (.bad 351)))
 (.bad 43)))
 (.bad 351)))
 (.bad 43))
 (.bad 351)))
 (.bad 351)))))
 | _ => .bad 0
theorem fn_74r_t_im (l0 : List (Ty.den TB)) (n1 : Int) : Imp (fn_74r_t [.l TB l0, .n n1]) (ev_74r [.l TB l0, .n n1]) :=
(.nd (fun h0 =>
(.pa [1,1,1,1,1,1]
.lf)) (fun h0 =>
(.pt (c := (inR (0 : Int) (List.length l0))) (by kernel_rfl) (by kernel_rfl) (by (simp only [w64d, decide_eq_true_eq, decide_eq_false_iff_not, beq_iff_eq, beq_eq_false_iff_ne, bne_iff_ne, ne_eq, inR, Bool.and_eq_true, Bool.and_eq_false_iff, Bool.not_eq_true', Bool.not_eq_false', Bool.not_eq_eq_eq_not, Bool.not_true, Bool.not_false] at *; omega))
(.nd (fun h1 =>
(.pa [1,1,1,1]
.lf)) (fun h1 =>
(.sT ((true && decide ((↑(List.length l0) : Int) ≤ (↑(List.length l0) : Int))))
(.pt (c := (decide ((0 : Int) ≤ IntKind.wrap .i64 ((↑(List.length l0) : Int) - (4 : Int))) && decide (IntKind.wrap .i64 ((↑(List.length l0) : Int) - (4 : Int)) ≤ (↑(List.length l0) : Int)))) (by kernel_rfl) (by kernel_rfl) (by (simp only [w64d, decide_eq_true_eq, decide_eq_false_iff_not, beq_iff_eq, beq_eq_false_iff_ne, bne_iff_ne, ne_eq, inR, Bool.and_eq_true, Bool.and_eq_false_iff, Bool.not_eq_true', Bool.not_eq_false', Bool.not_eq_eq_eq_not, Bool.not_true, Bool.not_false] at *; omega))
(.pa [1]
(.nd (fun h2 =>
(.pa [1,1]
(.nd (fun h3 =>
(.pa [1]
(.pt (c := (decide ((0 : Int) ≤ IntKind.wrap .i64 ((↑(List.length l0) : Int) - (4 : Int))) && decide (IntKind.wrap .i64 ((↑(List.length l0) : Int) - (4 : Int)) ≤ (↑(List.length l0) : Int)))) (by kernel_rfl) (by kernel_rfl) (by (simp only [w64d, decide_eq_true_eq, decide_eq_false_iff_not, beq_iff_eq, beq_eq_false_iff_ne, bne_iff_ne, ne_eq, inR, Bool.and_eq_true, Bool.and_eq_false_iff, Bool.not_eq_true', Bool.not_eq_false', Bool.not_eq_eq_eq_not, Bool.not_true, Bool.not_false] at *; omega))
(.nd (fun h4 =>
(.nd (fun h5 =>
(.pa [1,1]
(.nd (fun h6 =>
(.pa [1]
.lf)) (fun h6 =>
(.pt (c := (decide ((0 : Int) ≤ IntKind.wrap .i64 ((↑(List.length l0) : Int) - (4 : Int))) && decide (IntKind.wrap .i64 ((↑(List.length l0) : Int) - (4 : Int)) ≤ (↑(List.length l0) : Int)))) (by kernel_rfl) (by kernel_rfl) (by (simp only [w64d, decide_eq_true_eq, decide_eq_false_iff_not, beq_iff_eq, beq_eq_false_iff_ne, bne_iff_ne, ne_eq, inR, Bool.and_eq_true, Bool.and_eq_false_iff, Bool.not_eq_true', Bool.not_eq_false', Bool.not_eq_eq_eq_not, Bool.not_true, Bool.not_false] at *; omega))
(.nd (fun h7 =>
(.pa [1]
(.nd (fun h8 =>
(.pa [1,1]
.lf)) (fun h8 =>
.none)))) (fun h7 =>
.none))))))) (fun h5 =>
.none))) (fun h4 =>
.none))))) (fun h3 =>
.none)))) (fun h2 =>
.none))))))))))

noncomputable def cs_74r : FuncId → Option CSpec := csAdd 74 [B74r] cs_82r
theorem cs_74r_ok : CsOk Try.prog cs_74r := csAdd_ok cs_82r_ok fun B hB => by
  cases List.mem_singleton.1 hB
  exact B74r_ok

noncomputable def st_L45r_4 (env : List Dat) : Tree Step := Lk.stepMC false LK cs_74r 45 4 ls0 (mkM (cv := [(3, [], 5, .own TC)]) 1 [0] [(sh 37 [(0, .ptr 0 0), (2, .ptr 1 0), (3, .ptr 2 0), (19, .int .u8 0), (20, .int .u8 1)], [rdB 2, inC 4 .nilsl, inC 9 (.own 3), .arr TC 14])] [] [(.exit 0, sh 37 [(0, .ptr 0 0), (2, .ptr 1 0), (3, .ptr 2 0)], [rdB 0, inC 2 .nilsl, inC 7 (.own 3), .arr TC 12])] fun _ => none) env
theorem op_L45r_4_ex : ExL st_L45r_4 := exL _
noncomputable def op_L45r_4 := Classical.choose op_L45r_4_ex
theorem op_L45r_4_eq (env : List Dat) : op_L45r_4 env = iterS st_L45r_4 FU env := Classical.choose_spec op_L45r_4_ex env
noncomputable def L45r_4 : MBox := mkM (cv := [(3, [], 5, .own TC)]) 1 [0] [(sh 37 [(0, .ptr 0 0), (2, .ptr 1 0), (3, .ptr 2 0), (19, .int .u8 0), (20, .int .u8 1)], [rdB 2, inC 4 .nilsl, inC 9 (.own 3), .arr TC 14])] [] [(.exit 0, sh 37 [(0, .ptr 0 0), (2, .ptr 1 0), (3, .ptr 2 0)], [rdB 0, inC 2 .nilsl, inC 7 (.own 3), .arr TC 12])] op_L45r_4
theorem L45r_4_eqs : L45r_4 = mkM (cv := [(3, [], 5, .own TC)]) 1 [0] [(sh 37 [(0, .ptr 0 0), (2, .ptr 1 0), (3, .ptr 2 0), (19, .int .u8 0), (20, .int .u8 1)], [rdB 2, inC 4 .nilsl, inC 9 (.own 3), .arr TC 14])] [] [(.exit 0, sh 37 [(0, .ptr 0 0), (2, .ptr 1 0), (3, .ptr 2 0)], [rdB 0, inC 2 .nilsl, inC 7 (.own 3), .arr TC 12])] (iterS st_L45r_4 FU) := congrArg (fun f => mkM (cv := [(3, [], 5, .own TC)]) 1 [0] [(sh 37 [(0, .ptr 0 0), (2, .ptr 1 0), (3, .ptr 2 0), (19, .int .u8 0), (20, .int .u8 1)], [rdB 2, inC 4 .nilsl, inC 9 (.own 3), .arr TC 14])] [] [(.exit 0, sh 37 [(0, .ptr 0 0), (2, .ptr 1 0), (3, .ptr 2 0)], [rdB 0, inC 2 .nilsl, inC 7 (.own 3), .arr TC 12])] f) (funext op_L45r_4_eq)
theorem L45r_4_run : ∀ t s x, (manyRun L45r_4 t s).sel = some x → CodeOk Try.prog 1 (.loop (cAt Try.prog 45 4)) t s x := by
  rw [L45r_4_eqs]
  exact mkM_ok (st := st_L45r_4) (m := FU) cs_74r_ok hmix false (LsOk.none _ _ _) (by kernel_rfl) (fun env y h => by rw [← stepMC_lk]; exact h)

noncomputable def fn_L45r_4_t : List Dat → Tree Step
 | [.n n0, .n n1, .l (Ty.int IntKind.u8) l2, .b b3, .n n4, .n n5, .n n6, .n n7, .n n8, .l (Ty.pair (Ty.int IntKind.u8) (Ty.int IntKind.i64)) l9] =>
 (.node (decide (n1 < n0))
 (let r1 := (op_77r [.l TB l2, .b b3]);
 (.node (isK 0 [.n, .l TB, .b] r1)
 (let r2 := (op_77r [.l TB (gl TB (dOf r1) 1), .b (gb (dOf r1) 2)]);
 (.node (isK 0 [.n, .l TB, .b] r2)
 (.node (decide ((List.length l9 + 1) * 16 ≤ 140737488355328))
 (.leaf (Step.go [.k 0, .n n0, .n (IntKind.wrap .u8 (n1 + (1 : Int))), .l TB (gl TB (dOf r2) 1), .b (gb (dOf r2) 2), .n (0 : Int), .n (0 : Int), .n (0 : Int), .n (0 : Int), .n (0 : Int), .n n4, .n n5, .n n6, .n n7, .n n8, .l TC (apC l9 (gn (dOf r1) 0) (IntKind.wrap .i64 (gn (dOf r2) 0)))]))
 (.bad 62))
 (.bad 351)))
 (.bad 351)))
 (.leaf (Step.stop 0 [.l TB l2, .b b3, .n (0 : Int), .n (0 : Int), .n (0 : Int), .n (0 : Int), .n (0 : Int), .n n4, .n n5, .n n6, .n n7, .n n8, .l TC l9])))
 | _ => .bad 0
theorem fn_L45r_4_t_im (n0 : Int) (n1 : Int) (l2 : List (Ty.den TB)) (b3 : Bool) (n4 : Int) (n5 : Int) (n6 : Int) (n7 : Int) (n8 : Int) (l9 : List (Ty.den TC)) : Imp (fn_L45r_4_t [.n n0, .n n1, .l TB l2, .b b3, .n n4, .n n5, .n n6, .n n7, .n n8, .l TC l9]) (st_L45r_4 [.k 0, .n n0, .n n1, .l TB l2, .b b3, .n 0, .n 0, .n 0, .n 0, .n 0, .n n4, .n n5, .n n6, .n n7, .n n8, .l TC l9]) :=
(.pa [1]
(.nd (fun h0 =>
(.pa [1]
(.nd (fun h1 =>
(.pa [1,1]
(.nd (fun h2 =>
(.pa [1]
(.nd (fun h3 =>
(.pa [1,1]
.lf)) (fun h3 =>
.none)))) (fun h2 =>
.none)))) (fun h1 =>
.none)))) (fun h0 =>
(.pa [1]
.lf))))

theorem ls_45r_ok : LsOk Try.prog (List.length ([rdB 0] : List PB)) (lsM [(4, L45r_4)] (List.length ([rdB 0] : List PB))) (bodyOf Try.prog 45) := LsOk.many fun j B hB hk c hc hi => by
  simp only [lookM] at hB
  split at hB
  · rename_i e; have := Nat.eq_of_beq_eq_true e; subst this; cases hB
    have e1 : loopAt Try.prog 45 4 = [cAt Try.prog 45 4] := loopAt_one (by kernel_rfl)
    have e2 : c ∈ loopAt Try.prog 45 4 := loopsAt_mem hc hi
    rw [e1] at e2; cases List.mem_singleton.1 e2; exact L45r_4_run
  cases hB

noncomputable def ev_45r (env : List Dat) : Tree (Nat × List Dat) := Lk.boxC false LK cs_74r 45 (lsM [(4, L45r_4)] (List.length ([rdB 0] : List PB))) (mkF [.ptr 0 0] [rdB 0] [0] [(inO 0 (.own 1), [rdB 5, .arr TC 7])] fun _ => none) env
theorem op_45r_ex : ExB ev_45r := exB _
noncomputable def op_45r := Classical.choose op_45r_ex
theorem op_45r_eq (env : List Dat) : op_45r env = (ev_45r env).sel := Classical.choose_spec op_45r_ex env
noncomputable def B45r : FBox := mkF [.ptr 0 0] [rdB 0] [0] [(inO 0 (.own 1), [rdB 5, .arr TC 7])] op_45r
theorem B45r_ok : RunOk Try.prog 45 (boxRun B45r) := mkF_ok (op := op_45r) cs_74r_ok hmix false (ls_45r_ok) (fun env x h => by rw [op_45r_eq] at h; rw [← boxC_lk]; exact h)

noncomputable def fn_45r_t : List Dat → Tree (Nat × List Dat)
 | [.l (Ty.int IntKind.u8) l0, .b b1] =>
 (let r1 := (op_77r [.l TB l0, .b b1]);
 (.node (isK 0 [.n, .l TB, .b] r1)
 (let r2 := (op_78r [.l TB (gl TB (dOf r1) 1), .b (gb (dOf r1) 2)]);
 (.node (isK 0 [.n, .l TB, .b] r2)
 (let r3 := (op_78r [.l TB (gl TB (dOf r2) 1), .b (gb (dOf r2) 2)]);
 (.node (isK 0 [.n, .l TB, .b] r3)
 (let r4 := (op_79r [.l TB (gl TB (dOf r3) 1), .b (gb (dOf r3) 2)]);
 (.node (isK 0 [.n, .l TB, .b] r4)
 (let r5 := (op_79r [.l TB (gl TB (dOf r4) 1), .b (gb (dOf r4) 2)]);
 (.node (isK 0 [.n, .l TB, .b] r5)
 (let r6 := (op_77r [.l TB (gl TB (dOf r5) 1), .b (gb (dOf r5) 2)]);
 (.node (isK 0 [.n, .l TB, .b] r6)
 (let r7 := (op_L45r_4 [.k 0, .n (gn (dOf r6) 0), .n (0 : Int), .l TB (gl TB (dOf r6) 1), .b (gb (dOf r6) 2), .n (0 : Int), .n (0 : Int), .n (0 : Int), .n (0 : Int), .n (0 : Int), .n (gn (dOf r1) 0), .n (IntKind.wrap .i64 (gn (dOf r2) 0)), .n (gn (dOf r3) 0), .n (gn (dOf r4) 0), .n (gn (dOf r5) 0), .l TC []]);
 (.node (isK 0 [.l TB, .b, .n, .n, .n, .n, .n, .n, .n, .n, .n, .n, .l TC] r7)
 (.leaf ((0, [.n (gn (dOf r7) 7), .n (gn (dOf r7) 8), .n (gn (dOf r7) 9), .n (gn (dOf r7) 10), .n (gn (dOf r7) 11), .l TB (gl TB (dOf r7) 0), .b (gb (dOf r7) 1), .l TC (gl TC (dOf r7) 12)])))
 (.bad 351)))
 (.bad 351)))
 (.bad 351)))
 (.bad 351)))
 (.bad 351)))
 (.bad 351)))
 (.bad 351)))
 | _ => .bad 0
theorem fn_45r_t_im (l0 : List (Ty.den TB)) (b1 : Bool) : Imp (fn_45r_t [.l TB l0, .b b1]) (ev_45r [.l TB l0, .b b1]) :=
(.pa [1]
(.nd (fun h0 =>
(.pa [1,1]
(.nd (fun h1 =>
(.pa [1,1]
(.nd (fun h2 =>
(.pa [1,1]
(.nd (fun h3 =>
(.pa [1,1]
(.nd (fun h4 =>
(.pa [1,1]
(.nd (fun h5 =>
(.pa [1]
(.nd (fun h6 =>
(.pa [1]
.lf)) (fun h6 =>
.none)))) (fun h5 =>
.none)))) (fun h4 =>
.none)))) (fun h3 =>
.none)))) (fun h2 =>
.none)))) (fun h1 =>
.none)))) (fun h0 =>
.none)))

noncomputable def cs_45r : FuncId → Option CSpec := csAdd 45 [B45r] cs_74r
theorem cs_45r_ok : CsOk Try.prog cs_45r := csAdd_ok cs_74r_ok fun B hB => by
  cases List.mem_singleton.1 hB
  exact B45r_ok

noncomputable def ev_49r (env : List Dat) : Tree (Nat × List Dat) := Lk.boxC false LK cs_45r 49 ls0 (mkF [.ptr 0 0] [rdB 0] [0] [(ouV 0, [rdB 5])] fun _ => none) env
theorem op_49r_ex : ExB ev_49r := exB _
noncomputable def op_49r := Classical.choose op_49r_ex
theorem op_49r_eq (env : List Dat) : op_49r env = (ev_49r env).sel := Classical.choose_spec op_49r_ex env
noncomputable def B49r : FBox := mkF [.ptr 0 0] [rdB 0] [0] [(ouV 0, [rdB 5])] op_49r
theorem B49r_ok : RunOk Try.prog 49 (boxRun B49r) := mkF_ok (op := op_49r) cs_45r_ok hmix false (LsOk.none _ _ _) (fun env x h => by rw [op_49r_eq] at h; rw [← boxC_lk]; exact h)

noncomputable def fn_49r_t : List Dat → Tree (Nat × List Dat)
 | [.l (Ty.int IntKind.u8) l0, .b b1] =>
 (let r1 := (op_77r [.l TB l0, .b b1]);
 (.node (isK 0 [.n, .l TB, .b] r1)
 (let r2 := (op_78r [.l TB (gl TB (dOf r1) 1), .b (gb (dOf r1) 2)]);
 (.node (isK 0 [.n, .l TB, .b] r2)
 (let r3 := (op_78r [.l TB (gl TB (dOf r2) 1), .b (gb (dOf r2) 2)]);
 (.node (isK 0 [.n, .l TB, .b] r3)
 (let r4 := (op_78r [.l TB (gl TB (dOf r3) 1), .b (gb (dOf r3) 2)]);
 (.node (isK 0 [.n, .l TB, .b] r4)
 (let r5 := (op_79r [.l TB (gl TB (dOf r4) 1), .b (gb (dOf r4) 2)]);
 (.node (isK 0 [.n, .l TB, .b] r5)
 (.leaf ((0, [.n (gn (dOf r1) 0), .n (IntKind.wrap .i64 (gn (dOf r2) 0)), .n (IntKind.wrap .i64 (gn (dOf r3) 0)), .n (gn (dOf r4) 0), .n (gn (dOf r5) 0), .l TB (gl TB (dOf r5) 1), .b (gb (dOf r5) 2)])))
 (.bad 351)))
 (.bad 351)))
 (.bad 351)))
 (.bad 351)))
 (.bad 351)))
 | _ => .bad 0
theorem fn_49r_t_im (l0 : List (Ty.den TB)) (b1 : Bool) : Imp (fn_49r_t [.l TB l0, .b b1]) (ev_49r [.l TB l0, .b b1]) :=
(.pa [1]
(.nd (fun h0 =>
(.pa [1,1]
(.nd (fun h1 =>
(.pa [1,1]
(.nd (fun h2 =>
(.pa [1,1]
(.nd (fun h3 =>
(.pa [1,1]
(.nd (fun h4 =>
(.pa [1,1]
.lf)) (fun h4 =>
.none)))) (fun h3 =>
.none)))) (fun h2 =>
.none)))) (fun h1 =>
.none)))) (fun h0 =>
.none)))

noncomputable def cs_49r : FuncId → Option CSpec := csAdd 49 [B49r] cs_45r
theorem cs_49r_ok : CsOk Try.prog cs_49r := csAdd_ok cs_45r_ok fun B hB => by
  cases List.mem_singleton.1 hB
  exact B49r_ok

noncomputable def ev_52r (env : List Dat) : Tree (Nat × List Dat) := Lk.boxC false LK cs_49r 52 ls0 (mkF [.ptr 0 0] [rdB 0] [0] [(stV 0, [rdB 5])] fun _ => none) env
theorem op_52r_ex : ExB ev_52r := exB _
noncomputable def op_52r := Classical.choose op_52r_ex
theorem op_52r_eq (env : List Dat) : op_52r env = (ev_52r env).sel := Classical.choose_spec op_52r_ex env
noncomputable def B52r : FBox := mkF [.ptr 0 0] [rdB 0] [0] [(stV 0, [rdB 5])] op_52r
theorem B52r_ok : RunOk Try.prog 52 (boxRun B52r) := mkF_ok (op := op_52r) cs_49r_ok hmix false (LsOk.none _ _ _) (fun env x h => by rw [op_52r_eq] at h; rw [← boxC_lk]; exact h)

noncomputable def fn_52r_t : List Dat → Tree (Nat × List Dat)
 | [.l (Ty.int IntKind.u8) l0, .b b1] =>
 (let r1 := (op_78r [.l TB l0, .b b1]);
 (.node (isK 0 [.n, .l TB, .b] r1)
 (let r2 := (op_78r [.l TB (gl TB (dOf r1) 1), .b (gb (dOf r1) 2)]);
 (.node (isK 0 [.n, .l TB, .b] r2)
 (let r3 := (op_78r [.l TB (gl TB (dOf r2) 1), .b (gb (dOf r2) 2)]);
 (.node (isK 0 [.n, .l TB, .b] r3)
 (let r4 := (op_82r [.n (64 : Int), .l TB (gl TB (dOf r3) 1), .b (gb (dOf r3) 2)]);
 (.node (isK 0 [.l TB, .b, .l TB] r4)
 (let r5 := (op_79r [.l TB (gl TB (dOf r4) 0), .b (gb (dOf r4) 1)]);
 (.node (isK 0 [.n, .l TB, .b] r5)
 (.leaf ((0, [.n (gn (dOf r1) 0), .n (gn (dOf r2) 0), .n (gn (dOf r3) 0), .l TB (List.take 64 (gl TB (dOf r4) 2) ++ List.drop (List.length (gl TB (dOf r4) 2)) (List.replicate 64 (0 : Int))), .n (gn (dOf r5) 0), .l TB (gl TB (dOf r5) 1), .b (gb (dOf r5) 2)])))
 (.bad 351)))
 (.bad 351)))
 (.bad 351)))
 (.bad 351)))
 (.bad 351)))
 | _ => .bad 0
theorem fn_52r_t_im (l0 : List (Ty.den TB)) (b1 : Bool) : Imp (fn_52r_t [.l TB l0, .b b1]) (ev_52r [.l TB l0, .b b1]) :=
(.pa [1]
(.nd (fun h0 =>
(.pa [1,1]
(.nd (fun h1 =>
(.pa [1,1]
(.nd (fun h2 =>
(.pa [1,1,1]
(.nd (fun h3 =>
(.pa [1,1,1]
(.nd (fun h4 =>
(.pa [1,1]
.lf)) (fun h4 =>
.none)))) (fun h3 =>
.none)))) (fun h2 =>
.none)))) (fun h1 =>
.none)))) (fun h0 =>
.none)))

noncomputable def cs_52r : FuncId → Option CSpec := csAdd 52 [B52r] cs_49r
theorem cs_52r_ok : CsOk Try.prog cs_52r := csAdd_ok cs_49r_ok fun B hB => by
  cases List.mem_singleton.1 hB
  exact B52r_ok

noncomputable def ev_56r (env : List Dat) : Tree (Nat × List Dat) := Lk.boxC false LK cs_52r 56 ls0 (mkF [.ptr 0 0] [rdB 0] [0] [(loV 0, [rdB 7])] fun _ => none) env
theorem op_56r_ex : ExB ev_56r := exB _
noncomputable def op_56r := Classical.choose op_56r_ex
theorem op_56r_eq (env : List Dat) : op_56r env = (ev_56r env).sel := Classical.choose_spec op_56r_ex env
noncomputable def B56r : FBox := mkF [.ptr 0 0] [rdB 0] [0] [(loV 0, [rdB 7])] op_56r
theorem B56r_ok : RunOk Try.prog 56 (boxRun B56r) := mkF_ok (op := op_56r) cs_52r_ok hmix false (LsOk.none _ _ _) (fun env x h => by rw [op_56r_eq] at h; rw [← boxC_lk]; exact h)

noncomputable def fn_56r_t : List Dat → Tree (Nat × List Dat)
 | [.l (Ty.int IntKind.u8) l0, .b b1] =>
 (let r1 := (op_78r [.l TB l0, .b b1]);
 (.node (isK 0 [.n, .l TB, .b] r1)
 (let r2 := (op_78r [.l TB (gl TB (dOf r1) 1), .b (gb (dOf r1) 2)]);
 (.node (isK 0 [.n, .l TB, .b] r2)
 (let r3 := (op_52r [.l TB (gl TB (dOf r2) 1), .b (gb (dOf r2) 2)]);
 (.node (isK 0 [.n, .n, .n, .l TB, .n, .l TB, .b] r3)
 (.leaf ((0, [.n (IntKind.wrap .i64 (gn (dOf r1) 0)), .n (IntKind.wrap .i64 (gn (dOf r2) 0)), .n (gn (dOf r3) 0), .n (gn (dOf r3) 1), .n (gn (dOf r3) 2), .l TB (gl TB (dOf r3) 3), .n (gn (dOf r3) 4), .l TB (gl TB (dOf r3) 5), .b (gb (dOf r3) 6)])))
 (.bad 351)))
 (.bad 351)))
 (.bad 351)))
 | _ => .bad 0
theorem fn_56r_t_im (l0 : List (Ty.den TB)) (b1 : Bool) : Imp (fn_56r_t [.l TB l0, .b b1]) (ev_56r [.l TB l0, .b b1]) :=
(.pa [1]
(.nd (fun h0 =>
(.pa [1,1]
(.nd (fun h1 =>
(.pa [1,1]
(.nd (fun h2 =>
(.pa [1,1]
.lf)) (fun h2 =>
.none)))) (fun h1 =>
.none)))) (fun h0 =>
.none)))

noncomputable def cs_56r : FuncId → Option CSpec := csAdd 56 [B56r] cs_52r
theorem cs_56r_ok : CsOk Try.prog cs_56r := csAdd_ok cs_52r_ok fun B hB => by
  cases List.mem_singleton.1 hB
  exact B56r_ok

noncomputable def ev_59r (env : List Dat) : Tree (Nat × List Dat) := Lk.boxC false LK cs_56r 59 ls0 (mkF [.ptr 0 0] [rdB 0] [0] [(liO 0 (.own 1), [rdB 4, .arr TB 6])] fun _ => none) env
theorem op_59r_ex : ExB ev_59r := exB _
noncomputable def op_59r := Classical.choose op_59r_ex
theorem op_59r_eq (env : List Dat) : op_59r env = (ev_59r env).sel := Classical.choose_spec op_59r_ex env
noncomputable def B59r : FBox := mkF [.ptr 0 0] [rdB 0] [0] [(liO 0 (.own 1), [rdB 4, .arr TB 6])] op_59r
theorem B59r_ok : RunOk Try.prog 59 (boxRun B59r) := mkF_ok (op := op_59r) cs_56r_ok hmix false (LsOk.none _ _ _) (fun env x h => by rw [op_59r_eq] at h; rw [← boxC_lk]; exact h)

noncomputable def fn_59r_t : List Dat → Tree (Nat × List Dat)
 | [.l (Ty.int IntKind.u8) l0, .b b1] =>
 (let r1 := (op_77r [.l TB l0, .b b1]);
 (.node (isK 0 [.n, .l TB, .b] r1)
 (let r2 := (op_77r [.l TB (gl TB (dOf r1) 1), .b (gb (dOf r1) 2)]);
 (.node (isK 0 [.n, .l TB, .b] r2)
 (let r3 := (op_78r [.l TB (gl TB (dOf r2) 1), .b (gb (dOf r2) 2)]);
 (.node (isK 0 [.n, .l TB, .b] r3)
 (let r4 := (op_78r [.l TB (gl TB (dOf r3) 1), .b (gb (dOf r3) 2)]);
 (.node (isK 0 [.n, .l TB, .b] r4)
 (let r5 := (op_83r [.l TB (gl TB (dOf r4) 1), .b (gb (dOf r4) 2)]);
 (.node (isK 0 [.n, .l TB, .b] r5)
 (let r6 := (op_82r [.n (IntKind.wrap .i64 (gn (dOf r5) 0)), .l TB (gl TB (dOf r5) 1), .b (gb (dOf r5) 2)]);
 (.node (isK 0 [.l TB, .b, .l TB] r6)
 (.leaf ((0, [.n (gn (dOf r1) 0), .n (gn (dOf r2) 0), .n (IntKind.wrap .i64 (gn (dOf r3) 0)), .n (IntKind.wrap .i64 (gn (dOf r4) 0)), .l TB (gl TB (dOf r6) 0), .b (gb (dOf r6) 1), .l TB (gl TB (dOf r6) 2)])))
 (.bad 351)))
 (.bad 351)))
 (.bad 351)))
 (.bad 351)))
 (.bad 351)))
 (.bad 351)))
 | _ => .bad 0
theorem fn_59r_t_im (l0 : List (Ty.den TB)) (b1 : Bool) : Imp (fn_59r_t [.l TB l0, .b b1]) (ev_59r [.l TB l0, .b b1]) :=
(.pa [1]
(.nd (fun h0 =>
(.pa [1,1]
(.nd (fun h1 =>
(.pa [1,1]
(.nd (fun h2 =>
(.pa [1,1]
(.nd (fun h3 =>
(.pa [1,1]
(.nd (fun h4 =>
(.pa [1,1]
(.nd (fun h5 =>
(.pa [1,1]
.lf)) (fun h5 =>
.none)))) (fun h4 =>
.none)))) (fun h3 =>
.none)))) (fun h2 =>
.none)))) (fun h1 =>
.none)))) (fun h0 =>
.none)))

noncomputable def cs_59r : FuncId → Option CSpec := csAdd 59 [B59r] cs_56r
theorem cs_59r_ok : CsOk Try.prog cs_59r := csAdd_ok cs_56r_ok fun B hB => by
  cases List.mem_singleton.1 hB
  exact B59r_ok

noncomputable def ev_23r (env : List Dat) : Tree (Nat × List Dat) := Lk.boxC false LK cs_59r 23 ls0 (mkF [.imm TB 0] [] [] [(.tup [inO 0 (.own 0), .int .i64 5], [.arr TC 6]), (.tup [inO 0 .nilsl, .int .i64 5], [])] fun _ => none) env
theorem op_23r_ex : ExB ev_23r := exB _
noncomputable def op_23r := Classical.choose op_23r_ex
theorem op_23r_eq (env : List Dat) : op_23r env = (ev_23r env).sel := Classical.choose_spec op_23r_ex env
noncomputable def B23r : FBox := mkF [.imm TB 0] [] [] [(.tup [inO 0 (.own 0), .int .i64 5], [.arr TC 6]), (.tup [inO 0 .nilsl, .int .i64 5], [])] op_23r
theorem B23r_ok : RunOk Try.prog 23 (boxRun B23r) := mkF_ok (op := op_23r) cs_59r_ok hmix false (LsOk.none _ _ _) (fun env x h => by rw [op_23r_eq] at h; rw [← boxC_lk]; exact h)

noncomputable def fn_23r_t : List Dat → Tree (Nat × List Dat)
 | [.l (Ty.int IntKind.u8) l0] =>
 (let r1 := (op_74r [.l TB l0, .n (1 : Int)]);
 (.node (isK 0 [.b, .l TB, .b] r1)
 (.node (!gb (dOf r1) 0)
 (.leaf ((1, [.n (0 : Int), .n (0 : Int), .n (0 : Int), .n (0 : Int), .n (0 : Int), .n (130 : Int)])))
 (let r2 := (op_45r [.l TB (gl TB (dOf r1) 1), .b (gb (dOf r1) 2)]);
 (.node (isK 0 [.n, .n, .n, .n, .n, .l TB, .b, .l TC] r2)
 (.node (gb (dOf r2) 6)
 (.leaf ((1, [.n (0 : Int), .n (0 : Int), .n (0 : Int), .n (0 : Int), .n (0 : Int), .n (130 : Int)])))
 (.node (decide ((↑(List.length (gl TB (dOf r2) 5)) : Int) > (0 : Int)))
 (.leaf ((1, [.n (0 : Int), .n (0 : Int), .n (0 : Int), .n (0 : Int), .n (0 : Int), .n (130 : Int)])))
 (let r3 := (op_46 [.n (gn (dOf r2) 0), .n (gn (dOf r2) 1), .n (gn (dOf r2) 2), .n (gn (dOf r2) 3), .n (gn (dOf r2) 4), .l TC (gl TC (dOf r2) 7)]);
 (.node (isK 0 [.b] r3)
 (.node (!gb (dOf r3) 0)
 (.leaf ((1, [.n (0 : Int), .n (0 : Int), .n (0 : Int), .n (0 : Int), .n (0 : Int), .n (130 : Int)])))
 (.leaf ((0, [.n (gn (dOf r2) 0), .n (gn (dOf r2) 1), .n (gn (dOf r2) 2), .n (gn (dOf r2) 3), .n (gn (dOf r2) 4), .n (0 : Int), .l TC (gl TC (dOf r2) 7)]))))
 (.bad 351)))))
 (.bad 351))))
 (.node (isK 1 [.b] r1)
 (.node (!gb (dOf r1) 0)
 (.leaf ((1, [.n (0 : Int), .n (0 : Int), .n (0 : Int), .n (0 : Int), .n (0 : Int), .n (130 : Int)])))
 (.bad 340))
 (.bad 351))))
 | _ => .bad 0
theorem fn_23r_t_im (l0 : List (Ty.den TB)) : Imp (fn_23r_t [.l TB l0]) (ev_23r [.l TB l0]) :=
(.pa [1,1]
(.nd (fun h0 =>
(.pa [1]
(.nd (fun h1 =>
(.pa [1,1]
.lf)) (fun h1 =>
(.pa [1]
(.nd (fun h2 =>
(.pa [1,1,0,1]
(.nd (fun h3 =>
(.pa [1,1,1,1,1,1]
.lf)) (fun h3 =>
(.pa [1,0,1]
(.nd (fun h4 =>
(.pa [1,1,1,1]
.lf)) (fun h4 =>
(.nd (fun h5 =>
(.pa [1]
(.nd (fun h6 =>
(.pa [1,1]
.lf)) (fun h6 =>
(.pa [1,1]
.lf))))) (fun h5 =>
.none))))))))) (fun h2 =>
.none))))))) (fun h0 =>
(.nd (fun h1 =>
(.pa [1]
(.nd (fun h2 =>
(.pa [1,1]
.lf)) (fun h2 =>
(.pa [1]
.none))))) (fun h1 =>
.none)))))

noncomputable def cs_23r : FuncId → Option CSpec := csLend 23 B23r cs_59r
theorem cs_23r_ok : CsOk Try.prog cs_23r := csLend_ok cs_59r_ok B23r_ok

noncomputable def ev_26r (env : List Dat) : Tree (Nat × List Dat) := Lk.boxC false LK cs_23r 26 ls0 (mkF [.imm TB 0] [] [] [(.tup [ouV 0, .int .i64 5], [])] fun _ => none) env
theorem op_26r_ex : ExB ev_26r := exB _
noncomputable def op_26r := Classical.choose op_26r_ex
theorem op_26r_eq (env : List Dat) : op_26r env = (ev_26r env).sel := Classical.choose_spec op_26r_ex env
noncomputable def B26r : FBox := mkF [.imm TB 0] [] [] [(.tup [ouV 0, .int .i64 5], [])] op_26r
theorem B26r_ok : RunOk Try.prog 26 (boxRun B26r) := mkF_ok (op := op_26r) cs_23r_ok hmix false (LsOk.none _ _ _) (fun env x h => by rw [op_26r_eq] at h; rw [← boxC_lk]; exact h)

noncomputable def fn_26r_t : List Dat → Tree (Nat × List Dat)
 | [.l (Ty.int IntKind.u8) l0] =>
 (let r1 := (op_74r [.l TB l0, .n (2 : Int)]);
 (.node (isK 0 [.b, .l TB, .b] r1)
 (.node (!gb (dOf r1) 0)
 (.leaf ((0, [.n (0 : Int), .n (0 : Int), .n (0 : Int), .n (0 : Int), .n (0 : Int), .n (130 : Int)])))
 (let r2 := (op_49r [.l TB (gl TB (dOf r1) 1), .b (gb (dOf r1) 2)]);
 (.node (isK 0 [.n, .n, .n, .n, .n, .l TB, .b] r2)
 (.node (gb (dOf r2) 6)
 (.leaf ((0, [.n (0 : Int), .n (0 : Int), .n (0 : Int), .n (0 : Int), .n (0 : Int), .n (130 : Int)])))
 (.node (decide ((↑(List.length (gl TB (dOf r2) 5)) : Int) > (0 : Int)))
 (.leaf ((0, [.n (0 : Int), .n (0 : Int), .n (0 : Int), .n (0 : Int), .n (0 : Int), .n (130 : Int)])))
 (let r3 := (op_80 [.n (1099511627776 : Int), .l TI [gn (dOf r2) 1, gn (dOf r2) 2]]);
 (.node (isK 0 [.b] r3)
 (.node (!gb (dOf r3) 0)
 (.leaf ((0, [.n (0 : Int), .n (0 : Int), .n (0 : Int), .n (0 : Int), .n (0 : Int), .n (130 : Int)])))
 (.leaf ((0, [.n (gn (dOf r2) 0), .n (gn (dOf r2) 1), .n (gn (dOf r2) 2), .n (gn (dOf r2) 3), .n (gn (dOf r2) 4), .n (0 : Int)]))))
 (.bad 351)))))
 (.bad 351))))
 (.node (isK 1 [.b] r1)
 (.node (!gb (dOf r1) 0)
 (.leaf ((0, [.n (0 : Int), .n (0 : Int), .n (0 : Int), .n (0 : Int), .n (0 : Int), .n (130 : Int)])))
 (.bad 340))
 (.bad 351))))
 | _ => .bad 0
theorem fn_26r_t_im (l0 : List (Ty.den TB)) : Imp (fn_26r_t [.l TB l0]) (ev_26r [.l TB l0]) :=
(.pa [1,1]
(.nd (fun h0 =>
(.pa [1]
(.nd (fun h1 =>
(.pa [1,1]
.lf)) (fun h1 =>
(.pa [1]
(.nd (fun h2 =>
(.pa [1,1,0,1]
(.nd (fun h3 =>
(.pa [1,1,1,1,1,1]
.lf)) (fun h3 =>
(.pa [1,0,1]
(.nd (fun h4 =>
(.pa [1,1,1,1]
.lf)) (fun h4 =>
(.pa [1]
(.nd (fun h5 =>
(.pa [1,1]
(.nd (fun h6 =>
(.pa [1,1]
.lf)) (fun h6 =>
(.pa [1,1]
.lf))))) (fun h5 =>
.none)))))))))) (fun h2 =>
.none))))))) (fun h0 =>
(.nd (fun h1 =>
(.pa [1]
(.nd (fun h2 =>
(.pa [1,1]
.lf)) (fun h2 =>
(.pa [1]
.none))))) (fun h1 =>
.none)))))

noncomputable def cs_26r : FuncId → Option CSpec := csLend 26 B26r cs_23r
theorem cs_26r_ok : CsOk Try.prog cs_26r := csLend_ok cs_23r_ok B26r_ok

noncomputable def ev_28r (env : List Dat) : Tree (Nat × List Dat) := Lk.boxC false LK cs_26r 28 ls0 (mkF [.imm TB 0] [] [] [(.tup [stV 0, .int .i64 5], [])] fun _ => none) env
theorem op_28r_ex : ExB ev_28r := exB _
noncomputable def op_28r := Classical.choose op_28r_ex
theorem op_28r_eq (env : List Dat) : op_28r env = (ev_28r env).sel := Classical.choose_spec op_28r_ex env
noncomputable def B28r : FBox := mkF [.imm TB 0] [] [] [(.tup [stV 0, .int .i64 5], [])] op_28r
theorem B28r_ok : RunOk Try.prog 28 (boxRun B28r) := mkF_ok (op := op_28r) cs_26r_ok hmix false (LsOk.none _ _ _) (fun env x h => by rw [op_28r_eq] at h; rw [← boxC_lk]; exact h)

noncomputable def fn_28r_t : List Dat → Tree (Nat × List Dat)
 | [.l (Ty.int IntKind.u8) l0] =>
 (let r1 := (op_74r [.l TB l0, .n (3 : Int)]);
 (.node (isK 0 [.b, .l TB, .b] r1)
 (.node (!gb (dOf r1) 0)
 (.leaf ((0, [.n (0 : Int), .n (0 : Int), .n (0 : Int), .l TB (List.replicate 64 (0 : Int)), .n (0 : Int), .n (130 : Int)])))
 (let r2 := (op_52r [.l TB (gl TB (dOf r1) 1), .b (gb (dOf r1) 2)]);
 (.node (isK 0 [.n, .n, .n, .l TB, .n, .l TB, .b] r2)
 (.node (gb (dOf r2) 6)
 (.leaf ((0, [.n (0 : Int), .n (0 : Int), .n (0 : Int), .l TB (List.replicate 64 (0 : Int)), .n (0 : Int), .n (130 : Int)])))
 (.node (decide ((↑(List.length (gl TB (dOf r2) 5)) : Int) > (0 : Int)))
 (.leaf ((0, [.n (0 : Int), .n (0 : Int), .n (0 : Int), .l TB (List.replicate 64 (0 : Int)), .n (0 : Int), .n (130 : Int)])))
 (.leaf ((0, [.n (gn (dOf r2) 0), .n (gn (dOf r2) 1), .n (gn (dOf r2) 2), .l TB (gl TB (dOf r2) 3), .n (gn (dOf r2) 4), .n (0 : Int)])))))
 (.bad 351))))
 (.node (isK 1 [.b] r1)
 (.node (!gb (dOf r1) 0)
 (.leaf ((0, [.n (0 : Int), .n (0 : Int), .n (0 : Int), .l TB (List.replicate 64 (0 : Int)), .n (0 : Int), .n (130 : Int)])))
 (.bad 340))
 (.bad 351))))
 | _ => .bad 0
theorem fn_28r_t_im (l0 : List (Ty.den TB)) : Imp (fn_28r_t [.l TB l0]) (ev_28r [.l TB l0]) :=
(.pa [1,1]
(.nd (fun h0 =>
(.pa [1]
(.nd (fun h1 =>
(.pa [1,1]
.lf)) (fun h1 =>
(.pa [1]
(.nd (fun h2 =>
(.pa [1,1,0,1]
(.nd (fun h3 =>
(.pa [1,1,1,1,1,1]
.lf)) (fun h3 =>
(.pa [1,0,1]
(.nd (fun h4 =>
(.pa [1,1,1,1]
.lf)) (fun h4 =>
(.pa [1,1,0,1,1]
.lf)))))))) (fun h2 =>
.none))))))) (fun h0 =>
(.nd (fun h1 =>
(.pa [1]
(.nd (fun h2 =>
(.pa [1,1]
.lf)) (fun h2 =>
(.pa [1]
.none))))) (fun h1 =>
.none)))))

noncomputable def cs_28r : FuncId → Option CSpec := csLend 28 B28r cs_26r
theorem cs_28r_ok : CsOk Try.prog cs_28r := csLend_ok cs_26r_ok B28r_ok

noncomputable def ev_30r (env : List Dat) : Tree (Nat × List Dat) := Lk.boxC false LK cs_28r 30 ls0 (mkF [.imm TB 0] [] [] [(.tup [loV 0, .int .i64 7], [])] fun _ => none) env
theorem op_30r_ex : ExB ev_30r := exB _
noncomputable def op_30r := Classical.choose op_30r_ex
theorem op_30r_eq (env : List Dat) : op_30r env = (ev_30r env).sel := Classical.choose_spec op_30r_ex env
noncomputable def B30r : FBox := mkF [.imm TB 0] [] [] [(.tup [loV 0, .int .i64 7], [])] op_30r
theorem B30r_ok : RunOk Try.prog 30 (boxRun B30r) := mkF_ok (op := op_30r) cs_28r_ok hmix false (LsOk.none _ _ _) (fun env x h => by rw [op_30r_eq] at h; rw [← boxC_lk]; exact h)

noncomputable def fn_30r_t : List Dat → Tree (Nat × List Dat)
 | [.l (Ty.int IntKind.u8) l0] =>
 (let r1 := (op_74r [.l TB l0, .n (4 : Int)]);
 (.node (isK 0 [.b, .l TB, .b] r1)
 (.node (!gb (dOf r1) 0)
 (.leaf ((0, [.n (0 : Int), .n (0 : Int), .n (0 : Int), .n (0 : Int), .n (0 : Int), .l TB (List.replicate 64 (0 : Int)), .n (0 : Int), .n (130 : Int)])))
 (let r2 := (op_56r [.l TB (gl TB (dOf r1) 1), .b (gb (dOf r1) 2)]);
 (.node (isK 0 [.n, .n, .n, .n, .n, .l TB, .n, .l TB, .b] r2)
 (.node (gb (dOf r2) 8)
 (.leaf ((0, [.n (0 : Int), .n (0 : Int), .n (0 : Int), .n (0 : Int), .n (0 : Int), .l TB (List.replicate 64 (0 : Int)), .n (0 : Int), .n (130 : Int)])))
 (.node (decide ((↑(List.length (gl TB (dOf r2) 7)) : Int) > (0 : Int)))
 (.leaf ((0, [.n (0 : Int), .n (0 : Int), .n (0 : Int), .n (0 : Int), .n (0 : Int), .l TB (List.replicate 64 (0 : Int)), .n (0 : Int), .n (130 : Int)])))
 (let r3 := (op_80 [.n (1099511627776 : Int), .l TI [gn (dOf r2) 0, gn (dOf r2) 1]]);
 (.node (isK 0 [.b] r3)
 (.node (!gb (dOf r3) 0)
 (.leaf ((0, [.n (0 : Int), .n (0 : Int), .n (0 : Int), .n (0 : Int), .n (0 : Int), .l TB (List.replicate 64 (0 : Int)), .n (0 : Int), .n (130 : Int)])))
 (.leaf ((0, [.n (gn (dOf r2) 0), .n (gn (dOf r2) 1), .n (gn (dOf r2) 2), .n (gn (dOf r2) 3), .n (gn (dOf r2) 4), .l TB (gl TB (dOf r2) 5), .n (gn (dOf r2) 6), .n (0 : Int)]))))
 (.bad 351)))))
 (.bad 351))))
 (.node (isK 1 [.b] r1)
 (.node (!gb (dOf r1) 0)
 (.leaf ((0, [.n (0 : Int), .n (0 : Int), .n (0 : Int), .n (0 : Int), .n (0 : Int), .l TB (List.replicate 64 (0 : Int)), .n (0 : Int), .n (130 : Int)])))
 (.bad 340))
 (.bad 351))))
 | _ => .bad 0
theorem fn_30r_t_im (l0 : List (Ty.den TB)) : Imp (fn_30r_t [.l TB l0]) (ev_30r [.l TB l0]) :=
(.pa [1,1]
(.nd (fun h0 =>
(.pa [1]
(.nd (fun h1 =>
(.pa [1,1]
.lf)) (fun h1 =>
(.pa [1]
(.nd (fun h2 =>
(.pa [1,1,0,1]
(.nd (fun h3 =>
(.pa [1,1,1,1,1,1]
.lf)) (fun h3 =>
(.pa [1,0,1]
(.nd (fun h4 =>
(.pa [1,1,1,1]
.lf)) (fun h4 =>
(.pa [1]
(.nd (fun h5 =>
(.pa [1,1]
(.nd (fun h6 =>
(.pa [1,1]
.lf)) (fun h6 =>
(.pa [1,1]
.lf))))) (fun h5 =>
.none)))))))))) (fun h2 =>
.none))))))) (fun h0 =>
(.nd (fun h1 =>
(.pa [1]
(.nd (fun h2 =>
(.pa [1,1]
.lf)) (fun h2 =>
(.pa [1]
.none))))) (fun h1 =>
.none)))))

noncomputable def cs_30r : FuncId → Option CSpec := csLend 30 B30r cs_28r
theorem cs_30r_ok : CsOk Try.prog cs_30r := csLend_ok cs_28r_ok B30r_ok

noncomputable def ev_32r (env : List Dat) : Tree (Nat × List Dat) := Lk.boxC false LK cs_30r 32 ls0 (mkF [.imm TB 0] [] [] [(.tup [liO 0 (.own 0), .int .i64 4], [.arr TB 5]), (.tup [liO 0 .nilsl, .int .i64 4], [])] fun _ => none) env
theorem op_32r_ex : ExB ev_32r := exB _
noncomputable def op_32r := Classical.choose op_32r_ex
theorem op_32r_eq (env : List Dat) : op_32r env = (ev_32r env).sel := Classical.choose_spec op_32r_ex env
noncomputable def B32r : FBox := mkF [.imm TB 0] [] [] [(.tup [liO 0 (.own 0), .int .i64 4], [.arr TB 5]), (.tup [liO 0 .nilsl, .int .i64 4], [])] op_32r
theorem B32r_ok : RunOk Try.prog 32 (boxRun B32r) := mkF_ok (op := op_32r) cs_30r_ok hmix false (LsOk.none _ _ _) (fun env x h => by rw [op_32r_eq] at h; rw [← boxC_lk]; exact h)

noncomputable def fn_32r_t : List Dat → Tree (Nat × List Dat)
 | [.l (Ty.int IntKind.u8) l0] =>
 (let r1 := (op_74r [.l TB l0, .n (5 : Int)]);
 (.node (isK 0 [.b, .l TB, .b] r1)
 (.node (!gb (dOf r1) 0)
 (.leaf ((1, [.n (0 : Int), .n (0 : Int), .n (0 : Int), .n (0 : Int), .n (130 : Int)])))
 (let r2 := (op_59r [.l TB (gl TB (dOf r1) 1), .b (gb (dOf r1) 2)]);
 (.node (isK 0 [.n, .n, .n, .n, .l TB, .b, .l TB] r2)
 (.node (gb (dOf r2) 5)
 (.leaf ((1, [.n (0 : Int), .n (0 : Int), .n (0 : Int), .n (0 : Int), .n (130 : Int)])))
 (.node (decide ((↑(List.length (gl TB (dOf r2) 4)) : Int) > (0 : Int)))
 (.leaf ((1, [.n (0 : Int), .n (0 : Int), .n (0 : Int), .n (0 : Int), .n (130 : Int)])))
 (let r3 := (op_60 [.n (gn (dOf r2) 0), .n (gn (dOf r2) 1), .n (gn (dOf r2) 2), .n (gn (dOf r2) 3), .l TB (gl TB (dOf r2) 6)]);
 (.node (isK 0 [.b] r3)
 (.node (!gb (dOf r3) 0)
 (.leaf ((1, [.n (0 : Int), .n (0 : Int), .n (0 : Int), .n (0 : Int), .n (130 : Int)])))
 (.leaf ((0, [.n (gn (dOf r2) 0), .n (gn (dOf r2) 1), .n (gn (dOf r2) 2), .n (gn (dOf r2) 3), .n (0 : Int), .l TB (gl TB (dOf r2) 6)]))))
 (.bad 351)))))
 (.bad 351))))
 (.node (isK 1 [.b] r1)
 (.node (!gb (dOf r1) 0)
 (.leaf ((1, [.n (0 : Int), .n (0 : Int), .n (0 : Int), .n (0 : Int), .n (130 : Int)])))
 (.bad 340))
 (.bad 351))))
 | _ => .bad 0
theorem fn_32r_t_im (l0 : List (Ty.den TB)) : Imp (fn_32r_t [.l TB l0]) (ev_32r [.l TB l0]) :=
(.pa [1,1]
(.nd (fun h0 =>
(.pa [1]
(.nd (fun h1 =>
(.pa [1,1]
.lf)) (fun h1 =>
(.pa [1]
(.nd (fun h2 =>
(.pa [1,1,0,1]
(.nd (fun h3 =>
(.pa [1,1,1,1,1,1]
.lf)) (fun h3 =>
(.pa [1,0,1]
(.nd (fun h4 =>
(.pa [1,1,1,1]
.lf)) (fun h4 =>
(.nd (fun h5 =>
(.pa [1]
(.nd (fun h6 =>
(.pa [1,1]
.lf)) (fun h6 =>
(.pa [1,1]
.lf))))) (fun h5 =>
.none))))))))) (fun h2 =>
.none))))))) (fun h0 =>
(.nd (fun h1 =>
(.pa [1]
(.nd (fun h2 =>
(.pa [1,1]
.lf)) (fun h2 =>
(.pa [1]
.none))))) (fun h1 =>
.none)))))

noncomputable def cs_32r : FuncId → Option CSpec := csLend 32 B32r cs_30r
theorem cs_32r_ok : CsOk Try.prog cs_32r := csLend_ok cs_30r_ok B32r_ok

noncomputable def ev_47r (env : List Dat) : Tree (Nat × List Dat) := Lk.boxC false LK cs_32r 47 ls0 (mkF [.imm TB 0, .int .i64 1, .int .i64 2] [] [] [(.int .u64 0, [])] fun _ => none) env
theorem op_47r_ex : ExB ev_47r := exB _
noncomputable def op_47r := Classical.choose op_47r_ex
theorem op_47r_eq (env : List Dat) : op_47r env = (ev_47r env).sel := Classical.choose_spec op_47r_ex env
noncomputable def B47r : FBox := mkF [.imm TB 0, .int .i64 1, .int .i64 2] [] [] [(.int .u64 0, [])] op_47r
theorem B47r_ok : RunOk Try.prog 47 (boxRun B47r) := mkF_ok (op := op_47r) cs_32r_ok hmix false (LsOk.none _ _ _) (fun env x h => by rw [op_47r_eq] at h; rw [← boxC_lk]; exact h)

noncomputable def fn_47r_t : List Dat → Tree (Nat × List Dat)
 | [.l (Ty.int IntKind.u8) l0, .n n1, .n n2] =>
 (.node (decide (IntKind.wrap .i64 (n1 + n2) > (↑(List.length l0) : Int)))
 (.leaf ((0, [.n (0 : Int)])))
 (.node (decide ((0 : Int) ≤ IntKind.wrap .i64 (n1 + n2)) && decide (IntKind.wrap .i64 (n1 + n2) ≤ (↑(List.length l0) : Int)))
 (.node (decide ((0 : Int) ≤ n1) && decide (n1 ≤ IntKind.wrap .i64 (n1 + n2)))
 (let r1 := (op_17r [.l TB (List.drop (Int.toNat n1) (List.take (Int.toNat (IntKind.wrap .i64 (n1 + n2))) l0))]);
 (.node (isK 0 [.n] r1)
 (.leaf ((0, [.n (gn (dOf r1) 0)])))
 (.bad 351)))
 (.bad 43))
 (.bad 42)))
 | _ => .bad 0
theorem fn_47r_t_im (l0 : List (Ty.den TB)) (n1 : Int) (n2 : Int) : Imp (fn_47r_t [.l TB l0, .n n1, .n n2]) (ev_47r [.l TB l0, .n n1, .n n2]) :=
(.nd (fun h0 =>
(.pa [1]
.lf)) (fun h0 =>
(.nd (fun h1 =>
(.nd (fun h2 =>
(.nd (fun h3 =>
(.pa [1,1]
.lf)) (fun h3 =>
.none))) (fun h2 =>
.none))) (fun h1 =>
.none))))

noncomputable def cs_47r : FuncId → Option CSpec := csLend 47 B47r cs_32r
theorem cs_47r_ok : CsOk Try.prog cs_47r := csLend_ok cs_32r_ok B47r_ok

noncomputable def st_L54r_3 (env : List Dat) : Tree Step := Lk.stepMC false LK cs_47r 54 3 ls0 (mkM 0 [] [(sh 39 [(0, .imm TB 0), (1, .int .i64 1), (4, .ptr 0 0), (5, .ptr 1 0), (6, .int .i64 2)], [stB 3, stB 8])] [] [(.exit 0, sh 39 [(4, .ptr 0 0), (5, .ptr 1 0)], [stB 0, stB 5])] fun _ => none) env
theorem op_L54r_3_ex : ExL st_L54r_3 := exL _
noncomputable def op_L54r_3 := Classical.choose op_L54r_3_ex
theorem op_L54r_3_eq (env : List Dat) : op_L54r_3 env = iterS st_L54r_3 FU env := Classical.choose_spec op_L54r_3_ex env
noncomputable def L54r_3 : MBox := mkM 0 [] [(sh 39 [(0, .imm TB 0), (1, .int .i64 1), (4, .ptr 0 0), (5, .ptr 1 0), (6, .int .i64 2)], [stB 3, stB 8])] [] [(.exit 0, sh 39 [(4, .ptr 0 0), (5, .ptr 1 0)], [stB 0, stB 5])] op_L54r_3
theorem L54r_3_eqs : L54r_3 = mkM 0 [] [(sh 39 [(0, .imm TB 0), (1, .int .i64 1), (4, .ptr 0 0), (5, .ptr 1 0), (6, .int .i64 2)], [stB 3, stB 8])] [] [(.exit 0, sh 39 [(4, .ptr 0 0), (5, .ptr 1 0)], [stB 0, stB 5])] (iterS st_L54r_3 FU) := congrArg (fun f => mkM 0 [] [(sh 39 [(0, .imm TB 0), (1, .int .i64 1), (4, .ptr 0 0), (5, .ptr 1 0), (6, .int .i64 2)], [stB 3, stB 8])] [] [(.exit 0, sh 39 [(4, .ptr 0 0), (5, .ptr 1 0)], [stB 0, stB 5])] f) (funext op_L54r_3_eq)
theorem L54r_3_run : ∀ t s x, (manyRun L54r_3 t s).sel = some x → CodeOk Try.prog 0 (.loop (cAt Try.prog 54 3)) t s x := by
  rw [L54r_3_eqs]
  exact mkM_ok (st := st_L54r_3) (m := FU) cs_47r_ok hmix false (LsOk.none _ _ _) (by kernel_rfl) (fun env y h => by rw [← stepMC_lk]; exact h)

noncomputable def fn_L54r_3_t : List Dat → Tree Step
 | [.l (Ty.int IntKind.u8) l0, .n n1, .n n2, .n n3, .n n4, .n n5, .l (Ty.int IntKind.u8) l6, .n n7, .n n8, .n n9, .n n10, .l (Ty.int IntKind.u8) l11, .n n12] =>
 (.node (decide (n2 < (64 : Int)))
 (let r1 := (op_47r [.l TB l0, .n (IntKind.wrap .i64 (IntKind.wrap .i64 (n1 + (24 : Int)) + n2)), .n (1 : Int)]);
 (.node (isK 0 [.n] r1)
 (.leaf (Step.go [.k 0, .l TB l0, .n n1, .n (IntKind.wrap .i64 (n2 + (1 : Int))), .n n3, .n n4, .n n5, .l TB l6, .n n7, .n n8, .n n9, .n n10, .l TB (List.set l11 (Int.toNat n2) (IntKind.wrap .u8 (gn (dOf r1) 0))), .n n12]))
 (.bad 351)))
 (.leaf (Step.stop 0 [.n n3, .n n4, .n n5, .l TB l6, .n n7, .n n8, .n n9, .n n10, .l TB l11, .n n12])))
 | _ => .bad 0
theorem fn_L54r_3_t_im (l0 : List (Ty.den TB)) (n1 : Int) (n2 : Int) (n3 : Int) (n4 : Int) (n5 : Int) (l6 : List (Ty.den TB)) (n7 : Int) (n8 : Int) (n9 : Int) (n10 : Int) (l11 : List (Ty.den TB)) (n12 : Int) (g0 : 0 ≤ n2) (g1 :  l6.length = 64) (g2 :  l11.length = 64) : Imp (fn_L54r_3_t [.l TB l0, .n n1, .n n2, .n n3, .n n4, .n n5, .l TB l6, .n n7, .n n8, .n n9, .n n10, .l TB l11, .n n12]) (st_L54r_3 [.k 0, .l TB l0, .n n1, .n n2, .n n3, .n n4, .n n5, .l TB l6, .n n7, .n n8, .n n9, .n n10, .l TB l11, .n n12]) :=
(.pa [1]
(.nd (fun h0 =>
(.nd (fun h1 =>
(.pa [1]
(.pt (c := (inR n2 64)) (by kernel_rfl) (by kernel_rfl) (by (simp only [w64d, decide_eq_true_eq, decide_eq_false_iff_not, beq_iff_eq, beq_eq_false_iff_ne, bne_iff_ne, ne_eq, inR, Bool.and_eq_true, Bool.and_eq_false_iff, Bool.not_eq_true', Bool.not_eq_false', Bool.not_eq_eq_eq_not, Bool.not_true, Bool.not_false] at *; omega))
(.pa [1]
.lf)))) (fun h1 =>
.none))) (fun h0 =>
(.pa [1]
.lf))))

theorem ls_54r_ok : LsOk Try.prog (List.length ([] : List PB)) (lsM [(3, L54r_3)] (List.length ([] : List PB))) (bodyOf Try.prog 54) := LsOk.many fun j B hB hk c hc hi => by
  simp only [lookM] at hB
  split at hB
  · rename_i e; have := Nat.eq_of_beq_eq_true e; subst this; cases hB
    have e1 : loopAt Try.prog 54 3 = [cAt Try.prog 54 3] := loopAt_one (by kernel_rfl)
    have e2 : c ∈ loopAt Try.prog 54 3 := loopsAt_mem hc hi
    rw [e1] at e2; cases List.mem_singleton.1 e2; exact L54r_3_run
  cases hB

noncomputable def ev_54r (env : List Dat) : Tree (Nat × List Dat) := Lk.boxC false LK cs_47r 54 (lsM [(3, L54r_3)] (List.length ([] : List PB))) (mkF [.imm TB 0, .int .i64 1] [] [] [(stV 0, [])] fun _ => none) env
theorem op_54r_ex : ExB ev_54r := exB _
noncomputable def op_54r := Classical.choose op_54r_ex
theorem op_54r_eq (env : List Dat) : op_54r env = (ev_54r env).sel := Classical.choose_spec op_54r_ex env
noncomputable def B54r : FBox := mkF [.imm TB 0, .int .i64 1] [] [] [(stV 0, [])] op_54r
theorem B54r_ok : RunOk Try.prog 54 (boxRun B54r) := mkF_ok (op := op_54r) cs_47r_ok hmix false (ls_54r_ok) (fun env x h => by rw [op_54r_eq] at h; rw [← boxC_lk]; exact h)

noncomputable def fn_54r_t : List Dat → Tree (Nat × List Dat)
 | [.l (Ty.int IntKind.u8) l0, .n n1] =>
 (let r1 := (op_47r [.l TB l0, .n n1, .n (8 : Int)]);
 (.node (isK 0 [.n] r1)
 (let r2 := (op_47r [.l TB l0, .n (IntKind.wrap .i64 (n1 + (8 : Int))), .n (8 : Int)]);
 (.node (isK 0 [.n] r2)
 (let r3 := (op_47r [.l TB l0, .n (IntKind.wrap .i64 (n1 + (16 : Int))), .n (8 : Int)]);
 (.node (isK 0 [.n] r3)
 (let r4 := (op_47r [.l TB l0, .n (IntKind.wrap .i64 (n1 + (88 : Int))), .n (4 : Int)]);
 (.node (isK 0 [.n] r4)
 (let r5 := (op_L54r_3 [.k 0, .l TB l0, .n n1, .n (0 : Int), .n (0 : Int), .n (0 : Int), .n (0 : Int), .l TB (List.replicate 64 (0 : Int)), .n (0 : Int), .n (gn (dOf r1) 0), .n (gn (dOf r2) 0), .n (gn (dOf r3) 0), .l TB (List.replicate 64 (0 : Int)), .n (IntKind.wrap .u32 (gn (dOf r4) 0))]);
 (.node (isK 0 [.n, .n, .n, .l TB, .n, .n, .n, .n, .l TB, .n] r5)
 (.leaf ((0, [.n (gn (dOf r5) 5), .n (gn (dOf r5) 6), .n (gn (dOf r5) 7), .l TB (gl TB (dOf r5) 8), .n (gn (dOf r5) 9)])))
 (.bad 351)))
 (.bad 351)))
 (.bad 351)))
 (.bad 351)))
 (.bad 351)))
 | _ => .bad 0
theorem fn_54r_t_im (l0 : List (Ty.den TB)) (n1 : Int) : Imp (fn_54r_t [.l TB l0, .n n1]) (ev_54r [.l TB l0, .n n1]) :=
(.nd (fun h0 =>
(.pa [1]
(.nd (fun h1 =>
(.pa [1]
(.nd (fun h2 =>
(.pa [1]
(.nd (fun h3 =>
(.pa [1]
(.nd (fun h4 =>
(.pa [1]
.lf)) (fun h4 =>
.none)))) (fun h3 =>
.none)))) (fun h2 =>
.none)))) (fun h1 =>
.none)))) (fun h0 =>
.none))

noncomputable def cs_54r : FuncId → Option CSpec := csLend 54 B54r cs_47r
theorem cs_54r_ok : CsOk Try.prog cs_54r := csLend_ok cs_47r_ok B54r_ok

noncomputable def st_L24r_8 (env : List Dat) : Tree Step := Lk.stepMC false LK cs_54r 24 8 ls0 (mkM (cv := [(4, [], 5, .own TC)]) 0 [] [(sh 76 [(0, .imm TB 0), (2, .ptr 0 0), (4, .ptr 1 0), (5, .int .i64 1), (6, .int .i64 2)], [inC 3 .nilsl, inC 8 (.own 2), .arr TC 13])] [] [(.exit 0, sh 76 [(0, .imm TB 0), (2, .ptr 0 0), (4, .ptr 1 0)], [inC 1 .nilsl, inC 6 (.own 2), .arr TC 11])] fun _ => none) env
theorem op_L24r_8_ex : ExL st_L24r_8 := exL _
noncomputable def op_L24r_8 := Classical.choose op_L24r_8_ex
theorem op_L24r_8_eq (env : List Dat) : op_L24r_8 env = iterS st_L24r_8 FU env := Classical.choose_spec op_L24r_8_ex env
noncomputable def L24r_8 : MBox := mkM (cv := [(4, [], 5, .own TC)]) 0 [] [(sh 76 [(0, .imm TB 0), (2, .ptr 0 0), (4, .ptr 1 0), (5, .int .i64 1), (6, .int .i64 2)], [inC 3 .nilsl, inC 8 (.own 2), .arr TC 13])] [] [(.exit 0, sh 76 [(0, .imm TB 0), (2, .ptr 0 0), (4, .ptr 1 0)], [inC 1 .nilsl, inC 6 (.own 2), .arr TC 11])] op_L24r_8
theorem L24r_8_eqs : L24r_8 = mkM (cv := [(4, [], 5, .own TC)]) 0 [] [(sh 76 [(0, .imm TB 0), (2, .ptr 0 0), (4, .ptr 1 0), (5, .int .i64 1), (6, .int .i64 2)], [inC 3 .nilsl, inC 8 (.own 2), .arr TC 13])] [] [(.exit 0, sh 76 [(0, .imm TB 0), (2, .ptr 0 0), (4, .ptr 1 0)], [inC 1 .nilsl, inC 6 (.own 2), .arr TC 11])] (iterS st_L24r_8 FU) := congrArg (fun f => mkM (cv := [(4, [], 5, .own TC)]) 0 [] [(sh 76 [(0, .imm TB 0), (2, .ptr 0 0), (4, .ptr 1 0), (5, .int .i64 1), (6, .int .i64 2)], [inC 3 .nilsl, inC 8 (.own 2), .arr TC 13])] [] [(.exit 0, sh 76 [(0, .imm TB 0), (2, .ptr 0 0), (4, .ptr 1 0)], [inC 1 .nilsl, inC 6 (.own 2), .arr TC 11])] f) (funext op_L24r_8_eq)
theorem L24r_8_run : ∀ t s x, (manyRun L24r_8 t s).sel = some x → CodeOk Try.prog 0 (.loop (cAt Try.prog 24 8)) t s x := by
  rw [L24r_8_eqs]
  exact mkM_ok (st := st_L24r_8) (m := FU) cs_54r_ok hmix false (LsOk.none _ _ _) (by kernel_rfl) (fun env y h => by rw [← stepMC_lk]; exact h)

noncomputable def fn_L24r_8_t : List Dat → Tree Step
 | [.l (Ty.int IntKind.u8) l0, .n n1, .n n2, .n n3, .n n4, .n n5, .n n6, .n n7, .l (Ty.pair (Ty.int IntKind.u8) (Ty.int IntKind.i64)) l8] =>
 (.node (decide (n2 < n1))
 (.node (inR (IntKind.wrap .i64 ((27 : Int) + IntKind.wrap .i64 ((2 : Int) * n2))) (List.length l0))
 (.node (inR (IntKind.wrap .i64 ((28 : Int) + IntKind.wrap .i64 ((2 : Int) * n2))) (List.length l0))
 (.node (decide ((List.length l8 + 1) * 16 ≤ 140737488355328))
 (.leaf (Step.go [.k 0, .l TB l0, .n n1, .n (IntKind.wrap .i64 (n2 + (1 : Int))), .n (0 : Int), .n (0 : Int), .n (0 : Int), .n (0 : Int), .n (0 : Int), .n n3, .n n4, .n n5, .n n6, .n n7, .l TC (apC l8 (List.getD l0 (Int.toNat (IntKind.wrap .i64 ((27 : Int) + IntKind.wrap .i64 ((2 : Int) * n2)))) (0 : Int)) (IntKind.wrap .i64 (List.getD l0 (Int.toNat (IntKind.wrap .i64 ((28 : Int) + IntKind.wrap .i64 ((2 : Int) * n2)))) (0 : Int))))]))
 (.bad 62))
 (.bad 10))
 (.bad 10))
 (.leaf (Step.stop 0 [.l TB l0, .n (0 : Int), .n (0 : Int), .n (0 : Int), .n (0 : Int), .n (0 : Int), .n n3, .n n4, .n n5, .n n6, .n n7, .l TC l8])))
 | _ => .bad 0
theorem fn_L24r_8_t_im (l0 : List (Ty.den TB)) (n1 : Int) (n2 : Int) (n3 : Int) (n4 : Int) (n5 : Int) (n6 : Int) (n7 : Int) (l8 : List (Ty.den TC)) (g0 : 0 ≤ n2) : Imp (fn_L24r_8_t [.l TB l0, .n n1, .n n2, .n n3, .n n4, .n n5, .n n6, .n n7, .l TC l8]) (st_L24r_8 [.k 0, .l TB l0, .n n1, .n n2, .n 0, .n 0, .n 0, .n 0, .n 0, .n n3, .n n4, .n n5, .n n6, .n n7, .l TC l8]) :=
(.pa [1]
(.nd (fun h0 =>
(.nd (fun h1 =>
(.nd (fun h2 =>
(.nd (fun h3 =>
(.pa [1,1]
.lf)) (fun h3 =>
.none))) (fun h2 =>
.none))) (fun h1 =>
.none))) (fun h0 =>
(.pa [1]
.lf))))

theorem ls_24r_ok : LsOk Try.prog (List.length ([] : List PB)) (lsM [(8, L24r_8)] (List.length ([] : List PB))) (bodyOf Try.prog 24) := LsOk.many fun j B hB hk c hc hi => by
  simp only [lookM] at hB
  split at hB
  · rename_i e; have := Nat.eq_of_beq_eq_true e; subst this; cases hB
    have e1 : loopAt Try.prog 24 8 = [cAt Try.prog 24 8] := loopAt_one (by kernel_rfl)
    have e2 : c ∈ loopAt Try.prog 24 8 := loopsAt_mem hc hi
    rw [e1] at e2; cases List.mem_singleton.1 e2; exact L24r_8_run
  cases hB

noncomputable def ev_24r (env : List Dat) : Tree (Nat × List Dat) := Lk.boxC false LK cs_54r 24 (lsM [(8, L24r_8)] (List.length ([] : List PB))) (mkF [.imm TB 0] [] [] [(.tup [inO 0 (.own 0), .bool 5], [.arr TC 6]), (.tup [inO 0 .nilsl, .bool 5], [])] fun _ => none) env
theorem op_24r_ex : ExB ev_24r := exB _
noncomputable def op_24r := Classical.choose op_24r_ex
theorem op_24r_eq (env : List Dat) : op_24r env = (ev_24r env).sel := Classical.choose_spec op_24r_ex env
noncomputable def B24r : FBox := mkF [.imm TB 0] [] [] [(.tup [inO 0 (.own 0), .bool 5], [.arr TC 6]), (.tup [inO 0 .nilsl, .bool 5], [])] op_24r
theorem B24r_ok : RunOk Try.prog 24 (boxRun B24r) := mkF_ok (op := op_24r) cs_54r_ok hmix false (ls_24r_ok) (fun env x h => by rw [op_24r_eq] at h; rw [← boxC_lk]; exact h)

noncomputable def fn_24r_t : List Dat → Tree (Nat × List Dat)
 | [.l (Ty.int IntKind.u8) l0] =>
 (.node (decide ((↑(List.length l0) : Int) < (31 : Int)))
 (.leaf ((1, [.n (0 : Int), .n (0 : Int), .n (0 : Int), .n (0 : Int), .n (0 : Int), .b false])))
 (let r1 := (op_47r [.l TB l0, .n (2 : Int), .n (8 : Int)]);
 (.node (isK 0 [.n] r1)
 (let r2 := (op_47r [.l TB l0, .n (10 : Int), .n (8 : Int)]);
 (.node (isK 0 [.n] r2)
 (let r3 := (op_47r [.l TB l0, .n (18 : Int), .n (4 : Int)]);
 (.node (isK 0 [.n] r3)
 (let r4 := (op_47r [.l TB l0, .n (22 : Int), .n (4 : Int)]);
 (.node (isK 0 [.n] r4)
 (.node (decide (IntKind.wrap .i64 (List.getD l0 26 (0 : Int)) > (8 : Int)))
 (.leaf ((1, [.n (0 : Int), .n (0 : Int), .n (0 : Int), .n (0 : Int), .n (0 : Int), .b false])))
 (.node ((↑(List.length l0) : Int) != IntKind.wrap .i64 ((31 : Int) + IntKind.wrap .i64 ((2 : Int) * IntKind.wrap .i64 (List.getD l0 26 (0 : Int)))))
 (.leaf ((1, [.n (0 : Int), .n (0 : Int), .n (0 : Int), .n (0 : Int), .n (0 : Int), .b false])))
 (let r5 := (op_L24r_8 [.k 0, .l TB l0, .n (IntKind.wrap .i64 (List.getD l0 26 (0 : Int))), .n (0 : Int), .n (0 : Int), .n (0 : Int), .n (0 : Int), .n (0 : Int), .n (0 : Int), .n (List.getD l0 1 (0 : Int)), .n (IntKind.wrap .i64 (gn (dOf r1) 0)), .n (gn (dOf r2) 0), .n (IntKind.wrap .u32 (gn (dOf r3) 0)), .n (IntKind.wrap .u32 (gn (dOf r4) 0)), .l TC []]);
 (.node (isK 0 [.l TB, .n, .n, .n, .n, .n, .n, .n, .n, .n, .n, .l TC] r5)
 (let r6 := (op_14p [.n (gn (dOf r5) 6), .n (gn (dOf r5) 7), .n (gn (dOf r5) 8), .n (gn (dOf r5) 9), .n (gn (dOf r5) 10), .l TC (gl TC (dOf r5) 11)]);
 (.node (isK 0 [.l TB] r6)
 (.node (!strEq (strOf (gl TB (dOf r6) 0)) (strOf (gl TB (dOf r5) 0)))
 (.leaf ((1, [.n (0 : Int), .n (0 : Int), .n (0 : Int), .n (0 : Int), .n (0 : Int), .b false])))
 (.leaf ((0, [.n (gn (dOf r5) 6), .n (gn (dOf r5) 7), .n (gn (dOf r5) 8), .n (gn (dOf r5) 9), .n (gn (dOf r5) 10), .b true, .l TC (gl TC (dOf r5) 11)]))))
 (.bad 351)))
 (.bad 351)))))
 (.bad 351)))
 (.bad 351)))
 (.bad 351)))
 (.bad 351))))
 | _ => .bad 0
theorem fn_24r_t_im (l0 : List (Ty.den TB)) : Imp (fn_24r_t [.l TB l0]) (ev_24r [.l TB l0]) :=
(.nd (fun h0 =>
(.pa [1]
.lf)) (fun h0 =>
(.pt (c := (inR (1 : Int) (List.length l0))) (by kernel_rfl) (by kernel_rfl) (by (simp only [w64d, decide_eq_true_eq, decide_eq_false_iff_not, beq_iff_eq, beq_eq_false_iff_ne, bne_iff_ne, ne_eq, inR, Bool.and_eq_true, Bool.and_eq_false_iff, Bool.not_eq_true', Bool.not_eq_false', Bool.not_eq_eq_eq_not, Bool.not_true, Bool.not_false] at *; omega))
(.nd (fun h1 =>
(.pa [1]
(.nd (fun h2 =>
(.pa [1]
(.nd (fun h3 =>
(.pa [1]
(.nd (fun h4 =>
(.pa [1,1]
(.pt (c := (inR (26 : Int) (List.length l0))) (by kernel_rfl) (by kernel_rfl) (by (simp only [w64d, decide_eq_true_eq, decide_eq_false_iff_not, beq_iff_eq, beq_eq_false_iff_ne, bne_iff_ne, ne_eq, inR, Bool.and_eq_true, Bool.and_eq_false_iff, Bool.not_eq_true', Bool.not_eq_false', Bool.not_eq_eq_eq_not, Bool.not_true, Bool.not_false] at *; omega))
(.nd (fun h5 =>
(.pa [1,1,1]
.lf)) (fun h5 =>
(.nd (fun h6 =>
(.pa [1]
.lf)) (fun h6 =>
(.nd (fun h7 =>
(.nd (fun h8 =>
(.pa [1,1]
(.nd (fun h9 =>
(.pa [1]
.lf)) (fun h9 =>
(.pa [1]
.lf))))) (fun h8 =>
.none))) (fun h7 =>
.none))))))))) (fun h4 =>
.none)))) (fun h3 =>
.none)))) (fun h2 =>
.none)))) (fun h1 =>
.none)))))

noncomputable def cs_24r : FuncId → Option CSpec := csLend 24 B24r cs_54r
theorem cs_24r_ok : CsOk Try.prog cs_24r := csLend_ok cs_54r_ok B24r_ok

noncomputable def ev_27r (env : List Dat) : Tree (Nat × List Dat) := Lk.boxC false LK cs_24r 27 ls0 (mkF [.imm TB 0] [] [] [(.tup [ouV 0, .bool 5], [])] fun _ => none) env
theorem op_27r_ex : ExB ev_27r := exB _
noncomputable def op_27r := Classical.choose op_27r_ex
theorem op_27r_eq (env : List Dat) : op_27r env = (ev_27r env).sel := Classical.choose_spec op_27r_ex env
noncomputable def B27r : FBox := mkF [.imm TB 0] [] [] [(.tup [ouV 0, .bool 5], [])] op_27r
theorem B27r_ok : RunOk Try.prog 27 (boxRun B27r) := mkF_ok (op := op_27r) cs_24r_ok hmix false (LsOk.none _ _ _) (fun env x h => by rw [op_27r_eq] at h; rw [← boxC_lk]; exact h)

noncomputable def fn_27r_t : List Dat → Tree (Nat × List Dat)
 | [.l (Ty.int IntKind.u8) l0] =>
 (.node ((↑(List.length l0) : Int) != (34 : Int))
 (.leaf ((0, [.n (0 : Int), .n (0 : Int), .n (0 : Int), .n (0 : Int), .n (0 : Int), .b false])))
 (.node (inR (1 : Int) (List.length l0))
 (let r1 := (op_47r [.l TB l0, .n (2 : Int), .n (8 : Int)]);
 (.node (isK 0 [.n] r1)
 (let r2 := (op_47r [.l TB l0, .n (10 : Int), .n (8 : Int)]);
 (.node (isK 0 [.n] r2)
 (let r3 := (op_47r [.l TB l0, .n (18 : Int), .n (8 : Int)]);
 (.node (isK 0 [.n] r3)
 (let r4 := (op_47r [.l TB l0, .n (26 : Int), .n (4 : Int)]);
 (.node (isK 0 [.n] r4)
 (let r5 := (op_16p [.n (List.getD l0 1 (0 : Int)), .n (IntKind.wrap .i64 (gn (dOf r1) 0)), .n (IntKind.wrap .i64 (gn (dOf r2) 0)), .n (gn (dOf r3) 0), .n (IntKind.wrap .u32 (gn (dOf r4) 0))]);
 (.node (isK 0 [.l TB] r5)
 (.node (!strEq (strOf (gl TB (dOf r5) 0)) (strOf l0))
 (.leaf ((0, [.n (0 : Int), .n (0 : Int), .n (0 : Int), .n (0 : Int), .n (0 : Int), .b false])))
 (.leaf ((0, [.n (List.getD l0 1 (0 : Int)), .n (IntKind.wrap .i64 (gn (dOf r1) 0)), .n (IntKind.wrap .i64 (gn (dOf r2) 0)), .n (gn (dOf r3) 0), .n (IntKind.wrap .u32 (gn (dOf r4) 0)), .b true]))))
 (.bad 351)))
 (.bad 351)))
 (.bad 351)))
 (.bad 351)))
 (.bad 351)))
 (.bad 10)))
 | _ => .bad 0
theorem fn_27r_t_im (l0 : List (Ty.den TB)) : Imp (fn_27r_t [.l TB l0]) (ev_27r [.l TB l0]) :=
(.nd (fun h0 =>
(.pa [1]
.lf)) (fun h0 =>
(.nd (fun h1 =>
(.nd (fun h2 =>
(.pa [1]
(.nd (fun h3 =>
(.pa [1]
(.nd (fun h4 =>
(.pa [1]
(.nd (fun h5 =>
(.pa [1,1]
(.nd (fun h6 =>
(.pa [1,1]
(.nd (fun h7 =>
(.pa [1]
.lf)) (fun h7 =>
(.pa [1]
.lf))))) (fun h6 =>
.none)))) (fun h5 =>
.none)))) (fun h4 =>
.none)))) (fun h3 =>
.none)))) (fun h2 =>
.none))) (fun h1 =>
.none))))

noncomputable def cs_27r : FuncId → Option CSpec := csLend 27 B27r cs_24r
theorem cs_27r_ok : CsOk Try.prog cs_27r := csLend_ok cs_24r_ok B27r_ok

noncomputable def ev_29r (env : List Dat) : Tree (Nat × List Dat) := Lk.boxC false LK cs_27r 29 ls0 (mkF [.imm TB 0] [] [] [(.tup [stV 0, .bool 5], [])] fun _ => none) env
theorem op_29r_ex : ExB ev_29r := exB _
noncomputable def op_29r := Classical.choose op_29r_ex
theorem op_29r_eq (env : List Dat) : op_29r env = (ev_29r env).sel := Classical.choose_spec op_29r_ex env
noncomputable def B29r : FBox := mkF [.imm TB 0] [] [] [(.tup [stV 0, .bool 5], [])] op_29r
theorem B29r_ok : RunOk Try.prog 29 (boxRun B29r) := mkF_ok (op := op_29r) cs_27r_ok hmix false (LsOk.none _ _ _) (fun env x h => by rw [op_29r_eq] at h; rw [← boxC_lk]; exact h)

noncomputable def fn_29r_t : List Dat → Tree (Nat × List Dat)
 | [.l (Ty.int IntKind.u8) l0] =>
 (let r1 := (op_54r [.l TB l0, .n (1 : Int)]);
 (.node (isK 0 [.n, .n, .n, .l TB, .n] r1)
 (let r2 := (op_18p [.n (gn (dOf r1) 0), .n (gn (dOf r1) 1), .n (gn (dOf r1) 2), .l TB (gl TB (dOf r1) 3), .n (gn (dOf r1) 4)]);
 (.node (isK 0 [.l TB] r2)
 (.node (!strEq (strOf (gl TB (dOf r2) 0)) (strOf l0))
 (.leaf ((0, [.n (0 : Int), .n (0 : Int), .n (0 : Int), .l TB (List.replicate 64 (0 : Int)), .n (0 : Int), .b false])))
 (.leaf ((0, [.n (gn (dOf r1) 0), .n (gn (dOf r1) 1), .n (gn (dOf r1) 2), .l TB (gl TB (dOf r1) 3), .n (gn (dOf r1) 4), .b true]))))
 (.bad 351)))
 (.bad 351)))
 | _ => .bad 0
theorem fn_29r_t_im (l0 : List (Ty.den TB)) : Imp (fn_29r_t [.l TB l0]) (ev_29r [.l TB l0]) :=
(.nd (fun h0 =>
(.pa [1]
(.nd (fun h1 =>
(.pa [1,1]
(.nd (fun h2 =>
(.pa [1]
.lf)) (fun h2 =>
(.pa [1]
.lf))))) (fun h1 =>
.none)))) (fun h0 =>
.none))

noncomputable def cs_29r : FuncId → Option CSpec := csLend 29 B29r cs_27r
theorem cs_29r_ok : CsOk Try.prog cs_29r := csLend_ok cs_27r_ok B29r_ok

noncomputable def ev_31r (env : List Dat) : Tree (Nat × List Dat) := Lk.boxC false LK cs_29r 31 ls0 (mkF [.imm TB 0] [] [] [(.tup [loV 0, .bool 7], [])] fun _ => none) env
theorem op_31r_ex : ExB ev_31r := exB _
noncomputable def op_31r := Classical.choose op_31r_ex
theorem op_31r_eq (env : List Dat) : op_31r env = (ev_31r env).sel := Classical.choose_spec op_31r_ex env
noncomputable def B31r : FBox := mkF [.imm TB 0] [] [] [(.tup [loV 0, .bool 7], [])] op_31r
theorem B31r_ok : RunOk Try.prog 31 (boxRun B31r) := mkF_ok (op := op_31r) cs_29r_ok hmix false (LsOk.none _ _ _) (fun env x h => by rw [op_31r_eq] at h; rw [← boxC_lk]; exact h)

noncomputable def fn_31r_t : List Dat → Tree (Nat × List Dat)
 | [.l (Ty.int IntKind.u8) l0] =>
 (let r1 := (op_47r [.l TB l0, .n (1 : Int), .n (8 : Int)]);
 (.node (isK 0 [.n] r1)
 (let r2 := (op_47r [.l TB l0, .n (9 : Int), .n (8 : Int)]);
 (.node (isK 0 [.n] r2)
 (let r3 := (op_54r [.l TB l0, .n (17 : Int)]);
 (.node (isK 0 [.n, .n, .n, .l TB, .n] r3)
 (let r4 := (op_19p [.n (IntKind.wrap .i64 (gn (dOf r1) 0)), .n (IntKind.wrap .i64 (gn (dOf r2) 0)), .n (gn (dOf r3) 0), .n (gn (dOf r3) 1), .n (gn (dOf r3) 2), .l TB (gl TB (dOf r3) 3), .n (gn (dOf r3) 4)]);
 (.node (isK 0 [.l TB] r4)
 (.node (!strEq (strOf (gl TB (dOf r4) 0)) (strOf l0))
 (.leaf ((0, [.n (0 : Int), .n (0 : Int), .n (0 : Int), .n (0 : Int), .n (0 : Int), .l TB (List.replicate 64 (0 : Int)), .n (0 : Int), .b false])))
 (.node ((↑(List.length l0) : Int) == (0 : Int))
 (.leaf ((0, [.n (0 : Int), .n (0 : Int), .n (0 : Int), .n (0 : Int), .n (0 : Int), .l TB (List.replicate 64 (0 : Int)), .n (0 : Int), .b false])))
 (.leaf ((0, [.n (IntKind.wrap .i64 (gn (dOf r1) 0)), .n (IntKind.wrap .i64 (gn (dOf r2) 0)), .n (gn (dOf r3) 0), .n (gn (dOf r3) 1), .n (gn (dOf r3) 2), .l TB (gl TB (dOf r3) 3), .n (gn (dOf r3) 4), .b true])))))
 (.bad 351)))
 (.bad 351)))
 (.bad 351)))
 (.bad 351)))
 | _ => .bad 0
theorem fn_31r_t_im (l0 : List (Ty.den TB)) : Imp (fn_31r_t [.l TB l0]) (ev_31r [.l TB l0]) :=
(.nd (fun h0 =>
(.pa [1]
(.nd (fun h1 =>
(.pa [1]
(.nd (fun h2 =>
(.pa [1]
(.nd (fun h3 =>
(.pa [1]
(.nd (fun h4 =>
(.pa [1,1,1,1]
.lf)) (fun h4 =>
(.pa [1]
(.nd (fun h5 =>
(.pa [1]
.lf)) (fun h5 =>
(.pa [1]
.lf)))))))) (fun h3 =>
.none)))) (fun h2 =>
.none)))) (fun h1 =>
.none)))) (fun h0 =>
.none))

noncomputable def cs_31r : FuncId → Option CSpec := csLend 31 B31r cs_29r
theorem cs_31r_ok : CsOk Try.prog cs_31r := csLend_ok cs_29r_ok B31r_ok

noncomputable def ev_33g (env : List Dat) : Tree (Nat × List Dat) := Lk.boxC false LK cs_31r 33 ls0 (mkF [.imm TB 0] [] [] [(.tup [lmV 0, .bool 5], [])] fun _ => none) env
theorem op_33g_ex : ExB ev_33g := exB _
noncomputable def op_33g := Classical.choose op_33g_ex
theorem op_33g_eq (env : List Dat) : op_33g env = (ev_33g env).sel := Classical.choose_spec op_33g_ex env
noncomputable def B33g : FBox := mkF [.imm TB 0] [] [] [(.tup [lmV 0, .bool 5], [])] op_33g
theorem B33g_ok : RunOk Try.prog 33 (boxRun B33g) := mkF_ok (op := op_33g) cs_31r_ok hmix false (LsOk.none _ _ _) (fun env x h => by rw [op_33g_eq] at h; rw [← boxC_lk]; exact h)

noncomputable def fn_33g_t : List Dat → Tree (Nat × List Dat)
 | [.l (Ty.int IntKind.u8) l0] =>
 (.node (decide ((↑(List.length l0) : Int) < (25 : Int)))
 (.leaf ((0, [.n (0 : Int), .n (0 : Int), .n (0 : Int), .n (0 : Int), .s { data := { toList := [] } }, .b false])))
 (let r1 := (op_47r [.l TB l0, .n (3 : Int), .n (8 : Int)]);
 (.node (isK 0 [.n] r1)
 (let r2 := (op_47r [.l TB l0, .n (11 : Int), .n (8 : Int)]);
 (.node (isK 0 [.n] r2)
 (.node (decide ((0 : Int) ≤ IntKind.wrap .i64 ((↑(List.length l0) : Int) - (4 : Int))) && decide (IntKind.wrap .i64 ((↑(List.length l0) : Int) - (4 : Int)) ≤ (↑(List.length l0) : Int)))
 (.node (true && decide ((21 : Int) ≤ IntKind.wrap .i64 ((↑(List.length l0) : Int) - (4 : Int))))
 (let r3 := (op_21p [.n (List.getD l0 1 (0 : Int)), .n (List.getD l0 2 (0 : Int)), .n (IntKind.wrap .i64 (gn (dOf r1) 0)), .n (IntKind.wrap .i64 (gn (dOf r2) 0)), .s (strOf (List.drop 21 (List.take (Int.toNat (IntKind.wrap .i64 ((↑(List.length l0) : Int) - (4 : Int)))) l0)))]);
 (.node (isK 0 [.l TB] r3)
 (.node (!strEq (strOf (gl TB (dOf r3) 0)) (strOf l0))
 (.leaf ((0, [.n (0 : Int), .n (0 : Int), .n (0 : Int), .n (0 : Int), .s { data := { toList := [] } }, .b false])))
 (.leaf ((0, [.n (List.getD l0 1 (0 : Int)), .n (List.getD l0 2 (0 : Int)), .n (IntKind.wrap .i64 (gn (dOf r1) 0)), .n (IntKind.wrap .i64 (gn (dOf r2) 0)), .s (strOf (List.drop 21 (List.take (Int.toNat (IntKind.wrap .i64 ((↑(List.length l0) : Int) - (4 : Int)))) l0))), .b true]))))
 (.bad 351)))
 (.bad 43))
 (.bad 42))
 (.bad 351)))
 (.bad 351))))
 | _ => .bad 0
theorem fn_33g_t_im (l0 : List (Ty.den TB)) : Imp (fn_33g_t [.l TB l0]) (ev_33g [.l TB l0]) :=
(.nd (fun h0 =>
(.pa [1]
.lf)) (fun h0 =>
(.pt (c := (inR (1 : Int) (List.length l0))) (by kernel_rfl) (by kernel_rfl) (by (simp only [w64d, decide_eq_true_eq, decide_eq_false_iff_not, beq_iff_eq, beq_eq_false_iff_ne, bne_iff_ne, ne_eq, inR, Bool.and_eq_true, Bool.and_eq_false_iff, Bool.not_eq_true', Bool.not_eq_false', Bool.not_eq_eq_eq_not, Bool.not_true, Bool.not_false] at *; omega))
(.pt (c := (inR (2 : Int) (List.length l0))) (by kernel_rfl) (by kernel_rfl) (by (simp only [w64d, decide_eq_true_eq, decide_eq_false_iff_not, beq_iff_eq, beq_eq_false_iff_ne, bne_iff_ne, ne_eq, inR, Bool.and_eq_true, Bool.and_eq_false_iff, Bool.not_eq_true', Bool.not_eq_false', Bool.not_eq_eq_eq_not, Bool.not_true, Bool.not_false] at *; omega))
(.nd (fun h1 =>
(.pa [1]
(.nd (fun h2 =>
(.pa [1]
(.nd (fun h3 =>
(.nd (fun h4 =>
(.pa [1]
(.nd (fun h5 =>
(.pa [1,1]
(.nd (fun h6 =>
(.pa [1]
.lf)) (fun h6 =>
(.pa [1]
.lf))))) (fun h5 =>
.none)))) (fun h4 =>
.none))) (fun h3 =>
.none)))) (fun h2 =>
.none)))) (fun h1 =>
.none))))))

noncomputable def cs_33g : FuncId → Option CSpec := csLend 33 B33g cs_31r
theorem cs_33g_ok : CsOk Try.prog cs_33g := csLend_ok cs_31r_ok B33g_ok

noncomputable def st_L25r_4 (env : List Dat) : Tree Step := Lk.stepMC false LK cs_33g 25 4 ls0 (mkM 0 [] [(sh 77 [(2, .ptr 0 0), (3, .ptr 1 0), (5, .int .i64 0)], [inB 1, inB 7])] [] [(.exit 0, sh 77 [], []), (.ret, sh 77 [(4, .bool 0)], [])] fun _ => none) env
theorem op_L25r_4_ex : ExL st_L25r_4 := exL _
noncomputable def op_L25r_4 := Classical.choose op_L25r_4_ex
theorem op_L25r_4_eq (env : List Dat) : op_L25r_4 env = iterS st_L25r_4 FU env := Classical.choose_spec op_L25r_4_ex env
noncomputable def L25r_4 : MBox := mkM 0 [] [(sh 77 [(2, .ptr 0 0), (3, .ptr 1 0), (5, .int .i64 0)], [inB 1, inB 7])] [] [(.exit 0, sh 77 [], []), (.ret, sh 77 [(4, .bool 0)], [])] op_L25r_4
theorem L25r_4_eqs : L25r_4 = mkM 0 [] [(sh 77 [(2, .ptr 0 0), (3, .ptr 1 0), (5, .int .i64 0)], [inB 1, inB 7])] [] [(.exit 0, sh 77 [], []), (.ret, sh 77 [(4, .bool 0)], [])] (iterS st_L25r_4 FU) := congrArg (fun f => mkM 0 [] [(sh 77 [(2, .ptr 0 0), (3, .ptr 1 0), (5, .int .i64 0)], [inB 1, inB 7])] [] [(.exit 0, sh 77 [], []), (.ret, sh 77 [(4, .bool 0)], [])] f) (funext op_L25r_4_eq)
theorem L25r_4_run : ∀ t s x, (manyRun L25r_4 t s).sel = some x → CodeOk Try.prog 0 (.loop (cAt Try.prog 25 4)) t s x := by
  rw [L25r_4_eqs]
  exact mkM_ok (st := st_L25r_4) (m := FU) cs_33g_ok hmix false (LsOk.none _ _ _) (by kernel_rfl) (fun env y h => by rw [← stepMC_lk]; exact h)

noncomputable def fn_L25r_4_t : List Dat → Tree Step
 | [.n n0, .n n1, .n n2, .n n3, .n n4, .n n5, .l (Ty.pair (Ty.int IntKind.u8) (Ty.int IntKind.i64)) l6, .n n7, .n n8, .n n9, .n n10, .n n11, .l (Ty.pair (Ty.int IntKind.u8) (Ty.int IntKind.i64)) l12] =>
 (.node (decide (n0 < (↑(List.length l6) : Int)))
 (.node (!(Prod.fst (List.getD l6 (Int.toNat n0) (Ty.dflt TC)) == Prod.fst (List.getD l12 (Int.toNat n0) (Ty.dflt TC)) && (Prod.snd (List.getD l6 (Int.toNat n0) (Ty.dflt TC)) == Prod.snd (List.getD l12 (Int.toNat n0) (Ty.dflt TC)) && true)))
 (.leaf (Step.stop 1 [.b false]))
 (.leaf (Step.go [.k 0, .n (IntKind.wrap .i64 (n0 + (1 : Int))), .n n1, .n n2, .n n3, .n n4, .n n5, .l TC l6, .n n7, .n n8, .n n9, .n n10, .n n11, .l TC l12])))
 (.leaf (Step.stop 0 [])))
 | _ => .bad 0
theorem fn_L25r_4_t_im (n0 : Int) (n1 : Int) (n2 : Int) (n3 : Int) (n4 : Int) (n5 : Int) (l6 : List (Ty.den TC)) (n7 : Int) (n8 : Int) (n9 : Int) (n10 : Int) (n11 : Int) (l12 : List (Ty.den TC)) (g0 : 0 ≤ n0) (g1 :  (l12.length : Int) = (l6.length : Int)) : Imp (fn_L25r_4_t [.n n0, .n n1, .n n2, .n n3, .n n4, .n n5, .l TC l6, .n n7, .n n8, .n n9, .n n10, .n n11, .l TC l12]) (st_L25r_4 [.k 0, .n n0, .n n1, .n n2, .n n3, .n n4, .n n5, .l TC l6, .n n7, .n n8, .n n9, .n n10, .n n11, .l TC l12]) :=
(.pa [1]
(.nd (fun h0 =>
(.pt (c := (inR n0 (List.length l6))) (by kernel_rfl) (by kernel_rfl) (by (simp only [w64d, decide_eq_true_eq, decide_eq_false_iff_not, beq_iff_eq, beq_eq_false_iff_ne, bne_iff_ne, ne_eq, inR, Bool.and_eq_true, Bool.and_eq_false_iff, Bool.not_eq_true', Bool.not_eq_false', Bool.not_eq_eq_eq_not, Bool.not_true, Bool.not_false] at *; omega))
(.pt (c := (inR n0 (List.length l12))) (by kernel_rfl) (by kernel_rfl) (by (simp only [w64d, decide_eq_true_eq, decide_eq_false_iff_not, beq_iff_eq, beq_eq_false_iff_ne, bne_iff_ne, ne_eq, inR, Bool.and_eq_true, Bool.and_eq_false_iff, Bool.not_eq_true', Bool.not_eq_false', Bool.not_eq_eq_eq_not, Bool.not_true, Bool.not_false] at *; omega))
(.pa [1]
(.nd (fun h1 =>
(.pa [1]
.lf)) (fun h1 =>
(.pa [1]
.lf))))))) (fun h0 =>
(.pa [1]
.lf))))

theorem ls_25r_ok : LsOk Try.prog (List.length ([] : List PB)) (lsM [(4, L25r_4)] (List.length ([] : List PB))) (bodyOf Try.prog 25) := LsOk.many fun j B hB hk c hc hi => by
  simp only [lookM] at hB
  split at hB
  · rename_i e; have := Nat.eq_of_beq_eq_true e; subst this; cases hB
    have e1 : loopAt Try.prog 25 4 = [cAt Try.prog 25 4] := loopAt_one (by kernel_rfl)
    have e2 : c ∈ loopAt Try.prog 25 4 := loopsAt_mem hc hi
    rw [e1] at e2; cases List.mem_singleton.1 e2; exact L25r_4_run
  cases hB

noncomputable def ev_25r (env : List Dat) : Tree (Nat × List Dat) := Lk.boxC false LK cs_33g 25 (lsM [(4, L25r_4)] (List.length ([] : List PB))) (mkF [inV 0, inV 6] [] [] [(.bool 0, [])] fun _ => none) env
theorem op_25r_ex : ExB ev_25r := exB _
noncomputable def op_25r := Classical.choose op_25r_ex
theorem op_25r_eq (env : List Dat) : op_25r env = (ev_25r env).sel := Classical.choose_spec op_25r_ex env
noncomputable def B25r : FBox := mkF [inV 0, inV 6] [] [] [(.bool 0, [])] op_25r
theorem B25r_ok : RunOk Try.prog 25 (boxRun B25r) := mkF_ok (op := op_25r) cs_33g_ok hmix false (ls_25r_ok) (fun env x h => by rw [op_25r_eq] at h; rw [← boxC_lk]; exact h)

noncomputable def fn_25r_t : List Dat → Tree (Nat × List Dat)
 | [.n n0, .n n1, .n n2, .n n3, .n n4, .l (Ty.pair (Ty.int IntKind.u8) (Ty.int IntKind.i64)) l5, .n n6, .n n7, .n n8, .n n9, .n n10, .l (Ty.pair (Ty.int IntKind.u8) (Ty.int IntKind.i64)) l11] =>
 (.node (n0 != n6)
 (.leaf ((0, [.b false])))
 (.node (n1 != n7)
 (.leaf ((0, [.b false])))
 (.node (n2 != n8)
 (.leaf ((0, [.b false])))
 (.node (n3 != n9)
 (.leaf ((0, [.b false])))
 (.node (n4 != n10)
 (.leaf ((0, [.b false])))
 (.node ((↑(List.length l5) : Int) != (↑(List.length l11) : Int))
 (.leaf ((0, [.b false])))
 (let r1 := (op_L25r_4 [.k 0, .n (0 : Int), .n n0, .n n1, .n n2, .n n3, .n n4, .l TC l5, .n n6, .n n7, .n n8, .n n9, .n n10, .l TC l11]);
 (.node (isK 0 [] r1)
 (.leaf ((0, [.b true])))
 (.node (isK 1 [.b] r1)
 (.leaf ((0, [.b (gb (dOf r1) 0)])))
 (.bad 351))))))))))
 | _ => .bad 0
theorem fn_25r_t_im (n0 : Int) (n1 : Int) (n2 : Int) (n3 : Int) (n4 : Int) (l5 : List (Ty.den TC)) (n6 : Int) (n7 : Int) (n8 : Int) (n9 : Int) (n10 : Int) (l11 : List (Ty.den TC)) : Imp (fn_25r_t [.n n0, .n n1, .n n2, .n n3, .n n4, .l TC l5, .n n6, .n n7, .n n8, .n n9, .n n10, .l TC l11]) (ev_25r [.n n0, .n n1, .n n2, .n n3, .n n4, .l TC l5, .n n6, .n n7, .n n8, .n n9, .n n10, .l TC l11]) :=
(.nd (fun h0 =>
(.pa [1,1,1,1,1,1,1,1,1,1,1]
.lf)) (fun h0 =>
(.nd (fun h1 =>
(.pa [1,1,1,1,1,1,1,1,1]
.lf)) (fun h1 =>
(.nd (fun h2 =>
(.pa [1,1,1,1,1,1,1]
.lf)) (fun h2 =>
(.nd (fun h3 =>
(.pa [1,1,1,1,1]
.lf)) (fun h3 =>
(.nd (fun h4 =>
(.pa [1,1,1]
.lf)) (fun h4 =>
(.nd (fun h5 =>
(.pa [1]
.lf)) (fun h5 =>
(.nd (fun h6 =>
(.pa [1]
.lf)) (fun h6 =>
(.nd (fun h7 =>
(.pa [1]
.lf)) (fun h7 =>
.none))))))))))))))))

noncomputable def cs_25r : FuncId → Option CSpec := csLend 25 B25r cs_33g
theorem cs_25r_ok : CsOk Try.prog cs_25r := csLend_ok cs_33g_ok B25r_ok

noncomputable def ev_35r (env : List Dat) : Tree (Nat × List Dat) := Lk.boxC false LK cs_25r 35 ls0 (mkF [.imm TB 0] [] [] [(.int .u8 0, [])] fun _ => none) env
theorem op_35r_ex : ExB ev_35r := exB _
noncomputable def op_35r := Classical.choose op_35r_ex
theorem op_35r_eq (env : List Dat) : op_35r env = (ev_35r env).sel := Classical.choose_spec op_35r_ex env
noncomputable def B35r : FBox := mkF [.imm TB 0] [] [] [(.int .u8 0, [])] op_35r
theorem B35r_ok : RunOk Try.prog 35 (boxRun B35r) := mkF_ok (op := op_35r) cs_25r_ok hmix false (LsOk.none _ _ _) (fun env x h => by rw [op_35r_eq] at h; rw [← boxC_lk]; exact h)

noncomputable def fn_35r_t : List Dat → Tree (Nat × List Dat)
 | [.l (Ty.int IntKind.u8) l0] =>
 (.node ((↑(List.length l0) : Int) == (0 : Int))
 (.leaf ((0, [.n (0 : Int)])))
 (.node ((List.getD l0 0 (0 : Int) : Int) == (1 : Int))
 (let r1 := (op_23r [.l TB l0]);
 (.node (isK 0 [.n, .n, .n, .n, .n, .n, .l TC] r1)
 (.node (gn (dOf r1) 5 != (0 : Int))
 (.leaf ((0, [.n (0 : Int)])))
 (.leaf ((0, [.n (List.getD l0 0 (0 : Int))]))))
 (.node (isK 1 [.n, .n, .n, .n, .n, .n] r1)
 (.node (gn (dOf r1) 5 != (0 : Int))
 (.leaf ((0, [.n (0 : Int)])))
 (.leaf ((0, [.n (List.getD l0 0 (0 : Int))]))))
 (.bad 351))))
 (.node ((List.getD l0 0 (0 : Int) : Int) == (2 : Int))
 (let r1 := (op_26r [.l TB l0]);
 (.node (isK 0 [.n, .n, .n, .n, .n, .n] r1)
 (.node (gn (dOf r1) 5 != (0 : Int))
 (.leaf ((0, [.n (0 : Int)])))
 (.leaf ((0, [.n (List.getD l0 0 (0 : Int))]))))
 (.bad 351)))
 (.node ((List.getD l0 0 (0 : Int) : Int) == (3 : Int))
 (let r1 := (op_28r [.l TB l0]);
 (.node (isK 0 [.n, .n, .n, .l TB, .n, .n] r1)
 (.node (gn (dOf r1) 5 != (0 : Int))
 (.leaf ((0, [.n (0 : Int)])))
 (.leaf ((0, [.n (List.getD l0 0 (0 : Int))]))))
 (.bad 351)))
 (.node ((List.getD l0 0 (0 : Int) : Int) == (4 : Int))
 (let r1 := (op_30r [.l TB l0]);
 (.node (isK 0 [.n, .n, .n, .n, .n, .l TB, .n, .n] r1)
 (.node (gn (dOf r1) 7 != (0 : Int))
 (.leaf ((0, [.n (0 : Int)])))
 (.leaf ((0, [.n (List.getD l0 0 (0 : Int))]))))
 (.bad 351)))
 (.node ((List.getD l0 0 (0 : Int) : Int) == (5 : Int))
 (let r1 := (op_32r [.l TB l0]);
 (.node (isK 0 [.n, .n, .n, .n, .n, .l TB] r1)
 (.node (gn (dOf r1) 4 != (0 : Int))
 (.leaf ((0, [.n (0 : Int)])))
 (.leaf ((0, [.n (List.getD l0 0 (0 : Int))]))))
 (.node (isK 1 [.n, .n, .n, .n, .n] r1)
 (.node (gn (dOf r1) 4 != (0 : Int))
 (.leaf ((0, [.n (0 : Int)])))
 (.leaf ((0, [.n (List.getD l0 0 (0 : Int))]))))
 (.bad 351))))
 (.leaf ((0, [.n (0 : Int)])))))))))
 | _ => .bad 0
theorem fn_35r_t_im (l0 : List (Ty.den TB)) : Imp (fn_35r_t [.l TB l0]) (ev_35r [.l TB l0]) :=
(.nd (fun h0 =>
(.pa [1]
.lf)) (fun h0 =>
(.pt (c := (inR (0 : Int) (List.length l0))) (by kernel_rfl) (by kernel_rfl) (by (simp only [w64d, decide_eq_true_eq, decide_eq_false_iff_not, beq_iff_eq, beq_eq_false_iff_ne, bne_iff_ne, ne_eq, inR, Bool.and_eq_true, Bool.and_eq_false_iff, Bool.not_eq_true', Bool.not_eq_false', Bool.not_eq_eq_eq_not, Bool.not_true, Bool.not_false] at *; omega))
(.nd (fun h1 =>
(.nd (fun h2 =>
(.pa [1]
(.nd (fun h3 =>
(.pa [1]
.lf)) (fun h3 =>
(.pt (c := (inR (0 : Int) (List.length l0))) (by kernel_rfl) (by kernel_rfl) (by (simp only [w64d, decide_eq_true_eq, decide_eq_false_iff_not, beq_iff_eq, beq_eq_false_iff_ne, bne_iff_ne, ne_eq, inR, Bool.and_eq_true, Bool.and_eq_false_iff, Bool.not_eq_true', Bool.not_eq_false', Bool.not_eq_eq_eq_not, Bool.not_true, Bool.not_false] at *; omega))
(.pa [1]
.lf)))))) (fun h2 =>
(.nd (fun h3 =>
(.pa [1]
(.nd (fun h4 =>
(.pa [1]
.lf)) (fun h4 =>
(.pt (c := (inR (0 : Int) (List.length l0))) (by kernel_rfl) (by kernel_rfl) (by (simp only [w64d, decide_eq_true_eq, decide_eq_false_iff_not, beq_iff_eq, beq_eq_false_iff_ne, bne_iff_ne, ne_eq, inR, Bool.and_eq_true, Bool.and_eq_false_iff, Bool.not_eq_true', Bool.not_eq_false', Bool.not_eq_eq_eq_not, Bool.not_true, Bool.not_false] at *; omega))
(.pa [1]
.lf)))))) (fun h3 =>
.none))))) (fun h1 =>
(.nd (fun h2 =>
(.nd (fun h3 =>
(.pa [1]
(.nd (fun h4 =>
(.pa [1]
.lf)) (fun h4 =>
(.pt (c := (inR (0 : Int) (List.length l0))) (by kernel_rfl) (by kernel_rfl) (by (simp only [w64d, decide_eq_true_eq, decide_eq_false_iff_not, beq_iff_eq, beq_eq_false_iff_ne, bne_iff_ne, ne_eq, inR, Bool.and_eq_true, Bool.and_eq_false_iff, Bool.not_eq_true', Bool.not_eq_false', Bool.not_eq_eq_eq_not, Bool.not_true, Bool.not_false] at *; omega))
(.pa [1]
.lf)))))) (fun h3 =>
.none))) (fun h2 =>
(.nd (fun h3 =>
(.nd (fun h4 =>
(.pa [1]
(.nd (fun h5 =>
(.pa [1]
.lf)) (fun h5 =>
(.pt (c := (inR (0 : Int) (List.length l0))) (by kernel_rfl) (by kernel_rfl) (by (simp only [w64d, decide_eq_true_eq, decide_eq_false_iff_not, beq_iff_eq, beq_eq_false_iff_ne, bne_iff_ne, ne_eq, inR, Bool.and_eq_true, Bool.and_eq_false_iff, Bool.not_eq_true', Bool.not_eq_false', Bool.not_eq_eq_eq_not, Bool.not_true, Bool.not_false] at *; omega))
(.pa [1]
.lf)))))) (fun h4 =>
.none))) (fun h3 =>
(.nd (fun h4 =>
(.nd (fun h5 =>
(.pa [1]
(.nd (fun h6 =>
(.pa [1]
.lf)) (fun h6 =>
(.pt (c := (inR (0 : Int) (List.length l0))) (by kernel_rfl) (by kernel_rfl) (by (simp only [w64d, decide_eq_true_eq, decide_eq_false_iff_not, beq_iff_eq, beq_eq_false_iff_ne, bne_iff_ne, ne_eq, inR, Bool.and_eq_true, Bool.and_eq_false_iff, Bool.not_eq_true', Bool.not_eq_false', Bool.not_eq_eq_eq_not, Bool.not_true, Bool.not_false] at *; omega))
(.pa [1]
.lf)))))) (fun h5 =>
.none))) (fun h4 =>
(.nd (fun h5 =>
(.nd (fun h6 =>
(.pa [1]
(.nd (fun h7 =>
(.pa [1]
.lf)) (fun h7 =>
(.pt (c := (inR (0 : Int) (List.length l0))) (by kernel_rfl) (by kernel_rfl) (by (simp only [w64d, decide_eq_true_eq, decide_eq_false_iff_not, beq_iff_eq, beq_eq_false_iff_ne, bne_iff_ne, ne_eq, inR, Bool.and_eq_true, Bool.and_eq_false_iff, Bool.not_eq_true', Bool.not_eq_false', Bool.not_eq_eq_eq_not, Bool.not_true, Bool.not_false] at *; omega))
(.pa [1]
.lf)))))) (fun h6 =>
(.nd (fun h7 =>
(.pa [1]
(.nd (fun h8 =>
(.pa [1]
.lf)) (fun h8 =>
(.pt (c := (inR (0 : Int) (List.length l0))) (by kernel_rfl) (by kernel_rfl) (by (simp only [w64d, decide_eq_true_eq, decide_eq_false_iff_not, beq_iff_eq, beq_eq_false_iff_ne, bne_iff_ne, ne_eq, inR, Bool.and_eq_true, Bool.and_eq_false_iff, Bool.not_eq_true', Bool.not_eq_false', Bool.not_eq_eq_eq_not, Bool.not_true, Bool.not_false] at *; omega))
(.pa [1]
.lf)))))) (fun h7 =>
.none))))) (fun h5 =>
(.pa [1,1]
.lf))))))))))))))

noncomputable def cs_35r : FuncId → Option CSpec := csLend 35 B35r cs_25r
theorem cs_35r_ok : CsOk Try.prog cs_35r := csLend_ok cs_25r_ok B35r_ok

noncomputable def ev_36r (env : List Dat) : Tree (Nat × List Dat) := Lk.boxC false LK cs_35r 36 ls0 (mkF [.imm TB 0] [] [] [(.int .u8 0, [])] fun _ => none) env
theorem op_36r_ex : ExB ev_36r := exB _
noncomputable def op_36r := Classical.choose op_36r_ex
theorem op_36r_eq (env : List Dat) : op_36r env = (ev_36r env).sel := Classical.choose_spec op_36r_ex env
noncomputable def B36r : FBox := mkF [.imm TB 0] [] [] [(.int .u8 0, [])] op_36r
theorem B36r_ok : RunOk Try.prog 36 (boxRun B36r) := mkF_ok (op := op_36r) cs_35r_ok hmix false (LsOk.none _ _ _) (fun env x h => by rw [op_36r_eq] at h; rw [← boxC_lk]; exact h)

noncomputable def fn_36r_t : List Dat → Tree (Nat × List Dat)
 | [.l (Ty.int IntKind.u8) l0] =>
 (let r1 := (op_24r [.l TB l0]);
 (.node (isK 0 [.n, .n, .n, .n, .n, .b, .l TC] r1)
 (let r2 := (op_27r [.l TB l0]);
 (.node (isK 0 [.n, .n, .n, .n, .n, .b] r2)
 (let r3 := (op_29r [.l TB l0]);
 (.node (isK 0 [.n, .n, .n, .l TB, .n, .b] r3)
 (let r4 := (op_31r [.l TB l0]);
 (.node (isK 0 [.n, .n, .n, .n, .n, .l TB, .n, .b] r4)
 (let r5 := (op_33g [.l TB l0]);
 (.node (isK 0 [.n, .n, .n, .n, .s, .b] r5)
 (.node (gb (dOf r1) 5)
 (.leaf ((0, [.n (1 : Int)])))
 (.node (gb (dOf r2) 5)
 (.leaf ((0, [.n (2 : Int)])))
 (.node (gb (dOf r3) 5)
 (.leaf ((0, [.n (3 : Int)])))
 (.node (gb (dOf r4) 7)
 (.leaf ((0, [.n (4 : Int)])))
 (.node (gb (dOf r5) 5)
 (.leaf ((0, [.n (5 : Int)])))
 (.leaf ((0, [.n (0 : Int)]))))))))
 (.bad 351)))
 (.bad 351)))
 (.bad 351)))
 (.bad 351)))
 (.node (isK 1 [.n, .n, .n, .n, .n, .b] r1)
 (let r2 := (op_27r [.l TB l0]);
 (.node (isK 0 [.n, .n, .n, .n, .n, .b] r2)
 (let r3 := (op_29r [.l TB l0]);
 (.node (isK 0 [.n, .n, .n, .l TB, .n, .b] r3)
 (let r4 := (op_31r [.l TB l0]);
 (.node (isK 0 [.n, .n, .n, .n, .n, .l TB, .n, .b] r4)
 (let r5 := (op_33g [.l TB l0]);
 (.node (isK 0 [.n, .n, .n, .n, .s, .b] r5)
 (.node (gb (dOf r1) 5)
 (.leaf ((0, [.n (1 : Int)])))
 (.node (gb (dOf r2) 5)
 (.leaf ((0, [.n (2 : Int)])))
 (.node (gb (dOf r3) 5)
 (.leaf ((0, [.n (3 : Int)])))
 (.node (gb (dOf r4) 7)
 (.leaf ((0, [.n (4 : Int)])))
 (.node (gb (dOf r5) 5)
 (.leaf ((0, [.n (5 : Int)])))
 (.leaf ((0, [.n (0 : Int)]))))))))
 (.bad 351)))
 (.bad 351)))
 (.bad 351)))
 (.bad 351)))
 (.bad 351))))
 | _ => .bad 0
theorem fn_36r_t_im (l0 : List (Ty.den TB)) : Imp (fn_36r_t [.l TB l0]) (ev_36r [.l TB l0]) :=
(.nd (fun h0 =>
(.pa [1]
(.nd (fun h1 =>
(.pa [1]
(.nd (fun h2 =>
(.pa [1]
(.nd (fun h3 =>
(.pa [1]
(.nd (fun h4 =>
(.pa [1,1,1]
(.nd (fun h5 =>
(.pa [1]
.lf)) (fun h5 =>
(.pa [1,1]
(.nd (fun h6 =>
(.pa [1]
.lf)) (fun h6 =>
(.pa [1,1]
(.nd (fun h7 =>
(.pa [1]
.lf)) (fun h7 =>
(.pa [1,1]
(.nd (fun h8 =>
(.pa [1]
.lf)) (fun h8 =>
(.pa [1,1]
(.nd (fun h9 =>
(.pa [1]
.lf)) (fun h9 =>
(.pa [0,1]
.lf))))))))))))))))) (fun h4 =>
.none)))) (fun h3 =>
.none)))) (fun h2 =>
.none)))) (fun h1 =>
.none)))) (fun h0 =>
(.nd (fun h1 =>
(.pa [1]
(.nd (fun h2 =>
(.pa [1]
(.nd (fun h3 =>
(.pa [1]
(.nd (fun h4 =>
(.pa [1]
(.nd (fun h5 =>
(.pa [1,1,1]
(.nd (fun h6 =>
(.pa [1]
.lf)) (fun h6 =>
(.pa [1,1]
(.nd (fun h7 =>
(.pa [1]
.lf)) (fun h7 =>
(.pa [1,1]
(.nd (fun h8 =>
(.pa [1]
.lf)) (fun h8 =>
(.pa [1,1]
(.nd (fun h9 =>
(.pa [1]
.lf)) (fun h9 =>
(.pa [1,1]
(.nd (fun h10 =>
(.pa [1]
.lf)) (fun h10 =>
(.pa [0,1]
.lf))))))))))))))))) (fun h5 =>
.none)))) (fun h4 =>
.none)))) (fun h3 =>
.none)))) (fun h2 =>
.none)))) (fun h1 =>
.none))))

noncomputable def cs_36r : FuncId → Option CSpec := csLend 36 B36r cs_35r
theorem cs_36r_ok : CsOk Try.prog cs_36r := csLend_ok cs_35r_ok B36r_ok
end Go.Proofs.Ytlambinleegdoaa.Vx
namespace Go.Proofs.Ytlambinleegdoaa.Vx
open Go Go.RowKit
set_option linter.unusedVariables false
set_option linter.unusedSimpArgs false
set_option maxRecDepth 100000
set_option maxHeartbeats 0

abbrev bs (l : List Int) : List Int := bytesOf (strOf l)
noncomputable def ev_34q (env : List Dat) : Tree (Nat × List Dat) := Lk.boxC false LK cs_36r 34 ls0 (mkF [.int .i64 0, .int .i64 1, .int .i64 2, .int .i64 3, .int .i64 4] [] [] [(.bool 0, [])] fun _ => none) env
theorem op_34q_ex : ExB ev_34q := exB _
noncomputable def op_34q := Classical.choose op_34q_ex
theorem op_34q_eq (env : List Dat) : op_34q env = (ev_34q env).sel := Classical.choose_spec op_34q_ex env
noncomputable def B34q : FBox := mkF [.int .i64 0, .int .i64 1, .int .i64 2, .int .i64 3, .int .i64 4] [] [] [(.bool 0, [])] op_34q
theorem B34q_ok : RunOk Try.prog 34 (boxRun B34q) := mkF_ok (op := op_34q) cs_36r_ok hmix false (LsOk.none _ _ _) (fun env x h => by rw [op_34q_eq] at h; rw [← boxC_lk]; exact h)

noncomputable def fn_34q_t : List Dat → Tree (Nat × List Dat)
 | [.n n0, .n n1, .n n2, .n n3, .n n4] =>
 (.node (n0 != (0 : Int))
 (.node (n0 != (130 : Int))
 (.leaf ((0, [.b false])))
 (.node (n1 != (0 : Int))
 (.node (n1 != (130 : Int))
 (.leaf ((0, [.b false])))
 (.node (n2 != (0 : Int))
 (.node (n2 != (130 : Int))
 (.leaf ((0, [.b false])))
 (.node (n3 != (0 : Int))
 (.node (n3 != (130 : Int))
 (.leaf ((0, [.b false])))
 (.node (n4 != (0 : Int))
 (.node (n4 != (130 : Int))
 (.leaf ((0, [.b false])))
 (.leaf ((0, [.b true]))))
 (.leaf ((0, [.b true])))))
 (.node (n4 != (0 : Int))
 (.node (n4 != (130 : Int))
 (.leaf ((0, [.b false])))
 (.leaf ((0, [.b true]))))
 (.leaf ((0, [.b true]))))))
 (.node (n3 != (0 : Int))
 (.node (n3 != (130 : Int))
 (.leaf ((0, [.b false])))
 (.node (n4 != (0 : Int))
 (.node (n4 != (130 : Int))
 (.leaf ((0, [.b false])))
 (.leaf ((0, [.b true]))))
 (.leaf ((0, [.b true])))))
 (.node (n4 != (0 : Int))
 (.node (n4 != (130 : Int))
 (.leaf ((0, [.b false])))
 (.leaf ((0, [.b true]))))
 (.leaf ((0, [.b true])))))))
 (.node (n2 != (0 : Int))
 (.node (n2 != (130 : Int))
 (.leaf ((0, [.b false])))
 (.node (n3 != (0 : Int))
 (.node (n3 != (130 : Int))
 (.leaf ((0, [.b false])))
 (.node (n4 != (0 : Int))
 (.node (n4 != (130 : Int))
 (.leaf ((0, [.b false])))
 (.leaf ((0, [.b true]))))
 (.leaf ((0, [.b true])))))
 (.node (n4 != (0 : Int))
 (.node (n4 != (130 : Int))
 (.leaf ((0, [.b false])))
 (.leaf ((0, [.b true]))))
 (.leaf ((0, [.b true]))))))
 (.node (n3 != (0 : Int))
 (.node (n3 != (130 : Int))
 (.leaf ((0, [.b false])))
 (.node (n4 != (0 : Int))
 (.node (n4 != (130 : Int))
 (.leaf ((0, [.b false])))
 (.leaf ((0, [.b true]))))
 (.leaf ((0, [.b true])))))
 (.node (n4 != (0 : Int))
 (.node (n4 != (130 : Int))
 (.leaf ((0, [.b false])))
 (.leaf ((0, [.b true]))))
 (.leaf ((0, [.b true]))))))))
 (.node (n1 != (0 : Int))
 (.node (n1 != (130 : Int))
 (.leaf ((0, [.b false])))
 (.node (n2 != (0 : Int))
 (.node (n2 != (130 : Int))
 (.leaf ((0, [.b false])))
 (.node (n3 != (0 : Int))
 (.node (n3 != (130 : Int))
 (.leaf ((0, [.b false])))
 (.node (n4 != (0 : Int))
 (.node (n4 != (130 : Int))
 (.leaf ((0, [.b false])))
 (.leaf ((0, [.b true]))))
 (.leaf ((0, [.b true])))))
 (.node (n4 != (0 : Int))
 (.node (n4 != (130 : Int))
 (.leaf ((0, [.b false])))
 (.leaf ((0, [.b true]))))
 (.leaf ((0, [.b true]))))))
 (.node (n3 != (0 : Int))
 (.node (n3 != (130 : Int))
 (.leaf ((0, [.b false])))
 (.node (n4 != (0 : Int))
 (.node (n4 != (130 : Int))
 (.leaf ((0, [.b false])))
 (.leaf ((0, [.b true]))))
 (.leaf ((0, [.b true])))))
 (.node (n4 != (0 : Int))
 (.node (n4 != (130 : Int))
 (.leaf ((0, [.b false])))
 (.leaf ((0, [.b true]))))
 (.leaf ((0, [.b true])))))))
 (.node (n2 != (0 : Int))
 (.node (n2 != (130 : Int))
 (.leaf ((0, [.b false])))
 (.node (n3 != (0 : Int))
 (.node (n3 != (130 : Int))
 (.leaf ((0, [.b false])))
 (.node (n4 != (0 : Int))
 (.node (n4 != (130 : Int))
 (.leaf ((0, [.b false])))
 (.leaf ((0, [.b true]))))
 (.leaf ((0, [.b true])))))
 (.node (n4 != (0 : Int))
 (.node (n4 != (130 : Int))
 (.leaf ((0, [.b false])))
 (.leaf ((0, [.b true]))))
 (.leaf ((0, [.b true]))))))
 (.node (n3 != (0 : Int))
 (.node (n3 != (130 : Int))
 (.leaf ((0, [.b false])))
 (.node (n4 != (0 : Int))
 (.node (n4 != (130 : Int))
 (.leaf ((0, [.b false])))
 (.leaf ((0, [.b true]))))
 (.leaf ((0, [.b true])))))
 (.node (n4 != (0 : Int))
 (.node (n4 != (130 : Int))
 (.leaf ((0, [.b false])))
 (.leaf ((0, [.b true]))))
 (.leaf ((0, [.b true]))))))))
 | _ => .bad 0
theorem fn_34q_t_im (n0 : Int) (n1 : Int) (n2 : Int) (n3 : Int) (n4 : Int) : Imp (fn_34q_t [.n n0, .n n1, .n n2, .n n3, .n n4]) (ev_34q [.n n0, .n n1, .n n2, .n n3, .n n4]) :=
(.pa [1,1]
(.nd (fun h0 =>
(.pa [1]
(.nd (fun h1 =>
(.pa [1]
.lf)) (fun h1 =>
(.pa [1,1]
(.nd (fun h2 =>
(.pa [1]
(.nd (fun h3 =>
(.pa [1]
.lf)) (fun h3 =>
(.pa [1,1]
(.nd (fun h4 =>
(.pa [1]
(.nd (fun h5 =>
(.pa [1]
.lf)) (fun h5 =>
(.pa [1,1]
(.nd (fun h6 =>
(.pa [1]
(.nd (fun h7 =>
(.pa [1]
.lf)) (fun h7 =>
(.pa [1,1]
(.nd (fun h8 =>
(.pa [1]
(.nd (fun h9 =>
(.pa [1]
.lf)) (fun h9 =>
(.pa [0,1]
.lf))))) (fun h8 =>
(.pa [0,0,0,1]
.lf)))))))) (fun h6 =>
(.pa [0,0,1,1]
(.nd (fun h7 =>
(.pa [1]
(.nd (fun h8 =>
(.pa [1]
.lf)) (fun h8 =>
(.pa [0,1]
.lf))))) (fun h7 =>
(.pa [0,0,0,1]
.lf))))))))))) (fun h4 =>
(.pa [0,0,1,1]
(.nd (fun h5 =>
(.pa [1]
(.nd (fun h6 =>
(.pa [1]
.lf)) (fun h6 =>
(.pa [1,1]
(.nd (fun h7 =>
(.pa [1]
(.nd (fun h8 =>
(.pa [1]
.lf)) (fun h8 =>
(.pa [0,1]
.lf))))) (fun h7 =>
(.pa [0,0,0,1]
.lf)))))))) (fun h5 =>
(.pa [0,0,1,1]
(.nd (fun h6 =>
(.pa [1]
(.nd (fun h7 =>
(.pa [1]
.lf)) (fun h7 =>
(.pa [0,1]
.lf))))) (fun h6 =>
(.pa [0,0,0,1]
.lf)))))))))))))) (fun h2 =>
(.pa [0,0,1,1]
(.nd (fun h3 =>
(.pa [1]
(.nd (fun h4 =>
(.pa [1]
.lf)) (fun h4 =>
(.pa [1,1]
(.nd (fun h5 =>
(.pa [1]
(.nd (fun h6 =>
(.pa [1]
.lf)) (fun h6 =>
(.pa [1,1]
(.nd (fun h7 =>
(.pa [1]
(.nd (fun h8 =>
(.pa [1]
.lf)) (fun h8 =>
(.pa [0,1]
.lf))))) (fun h7 =>
(.pa [0,0,0,1]
.lf)))))))) (fun h5 =>
(.pa [0,0,1,1]
(.nd (fun h6 =>
(.pa [1]
(.nd (fun h7 =>
(.pa [1]
.lf)) (fun h7 =>
(.pa [0,1]
.lf))))) (fun h6 =>
(.pa [0,0,0,1]
.lf))))))))))) (fun h3 =>
(.pa [0,0,1,1]
(.nd (fun h4 =>
(.pa [1]
(.nd (fun h5 =>
(.pa [1]
.lf)) (fun h5 =>
(.pa [1,1]
(.nd (fun h6 =>
(.pa [1]
(.nd (fun h7 =>
(.pa [1]
.lf)) (fun h7 =>
(.pa [0,1]
.lf))))) (fun h6 =>
(.pa [0,0,0,1]
.lf)))))))) (fun h4 =>
(.pa [0,0,1,1]
(.nd (fun h5 =>
(.pa [1]
(.nd (fun h6 =>
(.pa [1]
.lf)) (fun h6 =>
(.pa [0,1]
.lf))))) (fun h5 =>
(.pa [0,0,0,1]
.lf))))))))))))))))) (fun h0 =>
(.pa [0,0,1,1]
(.nd (fun h1 =>
(.pa [1]
(.nd (fun h2 =>
(.pa [1]
.lf)) (fun h2 =>
(.pa [1,1]
(.nd (fun h3 =>
(.pa [1]
(.nd (fun h4 =>
(.pa [1]
.lf)) (fun h4 =>
(.pa [1,1]
(.nd (fun h5 =>
(.pa [1]
(.nd (fun h6 =>
(.pa [1]
.lf)) (fun h6 =>
(.pa [1,1]
(.nd (fun h7 =>
(.pa [1]
(.nd (fun h8 =>
(.pa [1]
.lf)) (fun h8 =>
(.pa [0,1]
.lf))))) (fun h7 =>
(.pa [0,0,0,1]
.lf)))))))) (fun h5 =>
(.pa [0,0,1,1]
(.nd (fun h6 =>
(.pa [1]
(.nd (fun h7 =>
(.pa [1]
.lf)) (fun h7 =>
(.pa [0,1]
.lf))))) (fun h6 =>
(.pa [0,0,0,1]
.lf))))))))))) (fun h3 =>
(.pa [0,0,1,1]
(.nd (fun h4 =>
(.pa [1]
(.nd (fun h5 =>
(.pa [1]
.lf)) (fun h5 =>
(.pa [1,1]
(.nd (fun h6 =>
(.pa [1]
(.nd (fun h7 =>
(.pa [1]
.lf)) (fun h7 =>
(.pa [0,1]
.lf))))) (fun h6 =>
(.pa [0,0,0,1]
.lf)))))))) (fun h4 =>
(.pa [0,0,1,1]
(.nd (fun h5 =>
(.pa [1]
(.nd (fun h6 =>
(.pa [1]
.lf)) (fun h6 =>
(.pa [0,1]
.lf))))) (fun h5 =>
(.pa [0,0,0,1]
.lf)))))))))))))) (fun h1 =>
(.pa [0,0,1,1]
(.nd (fun h2 =>
(.pa [1]
(.nd (fun h3 =>
(.pa [1]
.lf)) (fun h3 =>
(.pa [1,1]
(.nd (fun h4 =>
(.pa [1]
(.nd (fun h5 =>
(.pa [1]
.lf)) (fun h5 =>
(.pa [1,1]
(.nd (fun h6 =>
(.pa [1]
(.nd (fun h7 =>
(.pa [1]
.lf)) (fun h7 =>
(.pa [0,1]
.lf))))) (fun h6 =>
(.pa [0,0,0,1]
.lf)))))))) (fun h4 =>
(.pa [0,0,1,1]
(.nd (fun h5 =>
(.pa [1]
(.nd (fun h6 =>
(.pa [1]
.lf)) (fun h6 =>
(.pa [0,1]
.lf))))) (fun h5 =>
(.pa [0,0,0,1]
.lf))))))))))) (fun h2 =>
(.pa [0,0,1,1]
(.nd (fun h3 =>
(.pa [1]
(.nd (fun h4 =>
(.pa [1]
.lf)) (fun h4 =>
(.pa [1,1]
(.nd (fun h5 =>
(.pa [1]
(.nd (fun h6 =>
(.pa [1]
.lf)) (fun h6 =>
(.pa [0,1]
.lf))))) (fun h5 =>
(.pa [0,0,0,1]
.lf)))))))) (fun h3 =>
(.pa [0,0,1,1]
(.nd (fun h4 =>
(.pa [1]
(.nd (fun h5 =>
(.pa [1]
.lf)) (fun h5 =>
(.pa [0,1]
.lf))))) (fun h4 =>
(.pa [0,0,0,1]
.lf))))))))))))))))

noncomputable def cs_34q : FuncId → Option CSpec := csLend 34 B34q cs_36r
theorem cs_34q_ok : CsOk Try.prog cs_34q := csLend_ok cs_36r_ok B34q_ok

noncomputable def ev_W4n (env : List Dat) : Tree Bool := Lk.lawB false LK cs_34q 4 ls0 (instL [.imm TB 0] env)

theorem W4n_law (env : List Dat) (h : (ev_W4n env).sel = some true) {w : World} {args : Array Value} (ha : LRel R0 (snapOf w) (instL [.imm TB 0] env) args) :
    Calls Try.prog 4 args w fun e w' => e = .returned (.bool true) ∧ Below w.heap.size w w' :=
  lawB_ok cs_34q_ok hmix false (ls := ls0) (LsOk.none _ _ _) (by rw [← lawB_lk]; exact h) ha

noncomputable def fn_W4n_n2 : List Dat → Tree Bool
 | [.l (Ty.int IntKind.u8) l0, .n n1, .n n2, .n n3, .n n4, .n n5, .n n6, .b b7, .n n8, .n n9, .n n10, .l (Ty.int IntKind.u8) l11, .n n12, .n n13, .b b14, .n n15, .n n16, .n n17, .n n18, .n n19, .l (Ty.int IntKind.u8) l20, .n n21, .n n22, .b b23, .n n24, .n n25, .n n26, .n n27, .s s28, .n n29] =>
 (.leaf (true))
 | _ => .bad 0
theorem fn_W4n_n2_im (l0 : List (Ty.den TB)) (n1 : Int) (n2 : Int) (n3 : Int) (n4 : Int) (n5 : Int) (n6 : Int) (b7 : Bool) (n8 : Int) (n9 : Int) (n10 : Int) (l11 : List (Ty.den TB)) (n12 : Int) (n13 : Int) (b14 : Bool) (n15 : Int) (n16 : Int) (n17 : Int) (n18 : Int) (n19 : Int) (l20 : List (Ty.den TB)) (n21 : Int) (n22 : Int) (b23 : Bool) (n24 : Int) (n25 : Int) (n26 : Int) (n27 : Int) (s28 : ByteArray) (n29 : Int) (g0 : isK 0 [.n, .n, .n, .n, .n, .n, .l TC] (op_23r [.l TB l0]) = false) (g1 :  isK 1 [.n, .n, .n, .n, .n, .n] (op_23r [.l TB l0]) = true) (g2 :  gn (dOf (op_23r [.l TB l0])) 0 = 0) (g3 :  gn (dOf (op_23r [.l TB l0])) 1 = 0) (g4 :  gn (dOf (op_23r [.l TB l0])) 2 = 0) (g5 :  gn (dOf (op_23r [.l TB l0])) 3 = 0) (g6 :  gn (dOf (op_23r [.l TB l0])) 4 = 0) (g7 :  gn (dOf (op_23r [.l TB l0])) 5 = 130) (g8 :  isK 0 [.n, .n, .n, .n, .n, .b, .l TC] (op_24r [.l TB l0]) = false) (g9 :  isK 1 [.n, .n, .n, .n, .n, .b] (op_24r [.l TB l0]) = true) (g10 :  gn (dOf (op_24r [.l TB l0])) 0 = 0) (g11 :  gn (dOf (op_24r [.l TB l0])) 1 = 0) (g12 :  gn (dOf (op_24r [.l TB l0])) 2 = 0) (g13 :  gn (dOf (op_24r [.l TB l0])) 3 = 0) (g14 :  gn (dOf (op_24r [.l TB l0])) 4 = 0) (g15 :  gb (dOf (op_24r [.l TB l0])) 5 = false) (g16 :  isK 0 [.b] (op_25r [.n 0, .n 0, .n 0, .n 0, .n 0, .l TC [], .n 0, .n 0, .n 0, .n 0, .n 0, .l TC []]) = true) (g17 :  gb (dOf (op_25r [.n 0, .n 0, .n 0, .n 0, .n 0, .l TC [], .n 0, .n 0, .n 0, .n 0, .n 0, .l TC []])) 0 = true) (g18 :  (n6 == 0) = b7) (g19 :  isK 0 [.n, .n, .n, .n, .n, .n] (op_26r [.l TB l0]) = true) (g20 :  gn (dOf (op_26r [.l TB l0])) 0 = n1) (g21 :  gn (dOf (op_26r [.l TB l0])) 1 = n2) (g22 :  gn (dOf (op_26r [.l TB l0])) 2 = n3) (g23 :  gn (dOf (op_26r [.l TB l0])) 3 = n4) (g24 :  gn (dOf (op_26r [.l TB l0])) 4 = n5) (g25 :  gn (dOf (op_26r [.l TB l0])) 5 = n6) (g26 :  isK 0 [.n, .n, .n, .n, .n, .b] (op_27r [.l TB l0]) = true) (g27 :  gn (dOf (op_27r [.l TB l0])) 0 = n1) (g28 :  gn (dOf (op_27r [.l TB l0])) 1 = n2) (g29 :  gn (dOf (op_27r [.l TB l0])) 2 = n3) (g30 :  gn (dOf (op_27r [.l TB l0])) 3 = n4) (g31 :  gn (dOf (op_27r [.l TB l0])) 4 = n5) (g32 :  gb (dOf (op_27r [.l TB l0])) 5 = b7) (g33 :  eqL TB l11 l11 = true) (g34 :  (n13 == 0) = b14) (g35 :  isK 0 [.n, .n, .n, .l TB, .n, .n] (op_28r [.l TB l0]) = true) (g36 :  gn (dOf (op_28r [.l TB l0])) 0 = n8) (g37 :  gn (dOf (op_28r [.l TB l0])) 1 = n9) (g38 :  gn (dOf (op_28r [.l TB l0])) 2 = n10) (g39 :  gl TB (dOf (op_28r [.l TB l0])) 3 = l11) (g40 :  gn (dOf (op_28r [.l TB l0])) 4 = n12) (g41 :  gn (dOf (op_28r [.l TB l0])) 5 = n13) (g42 :  isK 0 [.n, .n, .n, .l TB, .n, .b] (op_29r [.l TB l0]) = true) (g43 :  gn (dOf (op_29r [.l TB l0])) 0 = n8) (g44 :  gn (dOf (op_29r [.l TB l0])) 1 = n9) (g45 :  gn (dOf (op_29r [.l TB l0])) 2 = n10) (g46 :  gl TB (dOf (op_29r [.l TB l0])) 3 = l11) (g47 :  gn (dOf (op_29r [.l TB l0])) 4 = n12) (g48 :  gb (dOf (op_29r [.l TB l0])) 5 = b14) (g49 :  eqL TB l20 l20 = true) (g50 :  (n22 == 0) = b23) (g51 :  isK 0 [.n, .n, .n, .n, .n, .l TB, .n, .n] (op_30r [.l TB l0]) = true) (g52 :  gn (dOf (op_30r [.l TB l0])) 0 = n15) (g53 :  gn (dOf (op_30r [.l TB l0])) 1 = n16) (g54 :  gn (dOf (op_30r [.l TB l0])) 2 = n17) (g55 :  gn (dOf (op_30r [.l TB l0])) 3 = n18) (g56 :  gn (dOf (op_30r [.l TB l0])) 4 = n19) (g57 :  gl TB (dOf (op_30r [.l TB l0])) 5 = l20) (g58 :  gn (dOf (op_30r [.l TB l0])) 6 = n21) (g59 :  gn (dOf (op_30r [.l TB l0])) 7 = n22) (g60 :  isK 0 [.n, .n, .n, .n, .n, .l TB, .n, .b] (op_31r [.l TB l0]) = true) (g61 :  gn (dOf (op_31r [.l TB l0])) 0 = n15) (g62 :  gn (dOf (op_31r [.l TB l0])) 1 = n16) (g63 :  gn (dOf (op_31r [.l TB l0])) 2 = n17) (g64 :  gn (dOf (op_31r [.l TB l0])) 3 = n18) (g65 :  gn (dOf (op_31r [.l TB l0])) 4 = n19) (g66 :  gl TB (dOf (op_31r [.l TB l0])) 5 = l20) (g67 :  gn (dOf (op_31r [.l TB l0])) 6 = n21) (g68 :  gb (dOf (op_31r [.l TB l0])) 7 = b23) (g69 :  isK 0 [.n, .n, .n, .n, .n, .l TB] (op_32r [.l TB l0]) = false) (g70 :  isK 1 [.n, .n, .n, .n, .n] (op_32r [.l TB l0]) = true) (g71 :  gn (dOf (op_32r [.l TB l0])) 0 = n24) (g72 :  gn (dOf (op_32r [.l TB l0])) 1 = n25) (g73 :  gn (dOf (op_32r [.l TB l0])) 2 = n26) (g74 :  gn (dOf (op_32r [.l TB l0])) 3 = n27) (g75 :  gn (dOf (op_32r [.l TB l0])) 4 = 130) (g76 :  isK 0 [.n, .n, .n, .n, .s, .b] (op_33g [.l TB l0]) = true) (g77 :  gn (dOf (op_33g [.l TB l0])) 0 = n24) (g78 :  gn (dOf (op_33g [.l TB l0])) 1 = n25) (g79 :  gn (dOf (op_33g [.l TB l0])) 2 = n26) (g80 :  gn (dOf (op_33g [.l TB l0])) 3 = n27) (g81 :  gs (dOf (op_33g [.l TB l0])) 4 = s28) (g82 :  gb (dOf (op_33g [.l TB l0])) 5 = false) (g83 :  strEq (strOf ([] : List (Ty.den TB))) s28 = true) (g84 :  strEq (strOf ([] : List Int)) s28 = true) (g85 :  isK 0 [.b] (op_34q [.n 130, .n n6, .n n13, .n n22, .n 130]) = true) (g86 :  gb (dOf (op_34q [.n 130, .n n6, .n n13, .n n22, .n 130])) 0 = true) (g87 :  isK 0 [.n] (op_35r [.l TB l0]) = true) (g88 :  gn (dOf (op_35r [.l TB l0])) 0 = n29) (g89 :  isK 0 [.n] (op_36r [.l TB l0]) = true) (g90 :  gn (dOf (op_36r [.l TB l0])) 0 = n29) (g91 :  strEq (strOf l0) (strOf l0) = true) (g92 :  bs l0 = l0) (g93 :  (l0.length : Int) ≤ 3000) : Imp (fn_W4n_n2 [.l TB l0, .n n1, .n n2, .n n3, .n n4, .n n5, .n n6, .b b7, .n n8, .n n9, .n n10, .l TB l11, .n n12, .n n13, .b b14, .n n15, .n n16, .n n17, .n n18, .n n19, .l TB l20, .n n21, .n n22, .b b23, .n n24, .n n25, .n n26, .n n27, .s s28, .n n29]) (ev_W4n [.l TB l0]) :=
(.sF ((decide ((↑(List.length l0) : Int) > (3000 : Int))))
(.sF ((isK 0 [.n, .n, .n, .n, .n, .n, .l TC] (op_23r [.l TB (bs l0)])))
(.sT ((isK 1 [.n, .n, .n, .n, .n, .n] (op_23r [.l TB (bs l0)])))
(.pa [1]
(.sF ((isK 0 [.n, .n, .n, .n, .n, .b, .l TC] (op_24r [.l TB l0])))
(.sT ((isK 1 [.n, .n, .n, .n, .n, .b] (op_24r [.l TB l0])))
(.pa [1,1,1]
(.sT ((isK 0 [.b] (op_25r [.n (gn (dOf (op_23r [.l TB (bs l0)])) 0), .n (gn (dOf (op_23r [.l TB (bs l0)])) 1), .n (gn (dOf (op_23r [.l TB (bs l0)])) 2), .n (gn (dOf (op_23r [.l TB (bs l0)])) 3), .n (gn (dOf (op_23r [.l TB (bs l0)])) 4), .l TC [], .n (gn (dOf (op_24r [.l TB l0])) 0), .n (gn (dOf (op_24r [.l TB l0])) 1), .n (gn (dOf (op_24r [.l TB l0])) 2), .n (gn (dOf (op_24r [.l TB l0])) 3), .n (gn (dOf (op_24r [.l TB l0])) 4), .l TC []])))
(.pa [1]
(.sT ((gb (dOf (op_25r [.n (gn (dOf (op_23r [.l TB (bs l0)])) 0), .n (gn (dOf (op_23r [.l TB (bs l0)])) 1), .n (gn (dOf (op_23r [.l TB (bs l0)])) 2), .n (gn (dOf (op_23r [.l TB (bs l0)])) 3), .n (gn (dOf (op_23r [.l TB (bs l0)])) 4), .l TC [], .n (gn (dOf (op_24r [.l TB l0])) 0), .n (gn (dOf (op_24r [.l TB l0])) 1), .n (gn (dOf (op_24r [.l TB l0])) 2), .n (gn (dOf (op_24r [.l TB l0])) 3), .n (gn (dOf (op_24r [.l TB l0])) 4), .l TC []])) 0))
(.pa [1]
(.sT ((isK 0 [.n, .n, .n, .n, .n, .n] (op_26r [.l TB (bs l0)])))
(.pa [1]
(.sT ((isK 0 [.n, .n, .n, .n, .n, .b] (op_27r [.l TB l0])))
(.pa [1,1,1]
(.sT ((gn (dOf (op_26r [.l TB (bs l0)])) 0 == gn (dOf (op_27r [.l TB l0])) 0 && (gn (dOf (op_26r [.l TB (bs l0)])) 1 == gn (dOf (op_27r [.l TB l0])) 1 && (gn (dOf (op_26r [.l TB (bs l0)])) 2 == gn (dOf (op_27r [.l TB l0])) 2 && (gn (dOf (op_26r [.l TB (bs l0)])) 3 == gn (dOf (op_27r [.l TB l0])) 3 && (gn (dOf (op_26r [.l TB (bs l0)])) 4 == gn (dOf (op_27r [.l TB l0])) 4 && true) && true)))))
(.pa [1]
(.sT ((isK 0 [.n, .n, .n, .l TB, .n, .n] (op_28r [.l TB (bs l0)])))
(.pa [1]
(.sT ((isK 0 [.n, .n, .n, .l TB, .n, .b] (op_29r [.l TB l0])))
(.pa [1]
(.sT ((gn (dOf (op_28r [.l TB (bs l0)])) 0 == gn (dOf (op_29r [.l TB l0])) 0 && (gn (dOf (op_28r [.l TB (bs l0)])) 1 == gn (dOf (op_29r [.l TB l0])) 1 && (gn (dOf (op_28r [.l TB (bs l0)])) 2 == gn (dOf (op_29r [.l TB l0])) 2 && (eqL TB (gl TB (dOf (op_28r [.l TB (bs l0)])) 3) (gl TB (dOf (op_29r [.l TB l0])) 3) && (gn (dOf (op_28r [.l TB (bs l0)])) 4 == gn (dOf (op_29r [.l TB l0])) 4 && true))))))
(.sT ((isK 0 [.n, .n, .n, .n, .n, .l TB, .n, .n] (op_30r [.l TB (bs l0)])))
(.pa [1]
(.sT ((isK 0 [.n, .n, .n, .n, .n, .l TB, .n, .b] (op_31r [.l TB l0])))
(.pa [1,1,1]
(.sT ((gn (dOf (op_30r [.l TB (bs l0)])) 0 == gn (dOf (op_31r [.l TB l0])) 0 && (gn (dOf (op_30r [.l TB (bs l0)])) 1 == gn (dOf (op_31r [.l TB l0])) 1 && (gn (dOf (op_30r [.l TB (bs l0)])) 2 == gn (dOf (op_31r [.l TB l0])) 2 && (gn (dOf (op_30r [.l TB (bs l0)])) 3 == gn (dOf (op_31r [.l TB l0])) 3 && (gn (dOf (op_30r [.l TB (bs l0)])) 4 == gn (dOf (op_31r [.l TB l0])) 4 && (eqL TB (gl TB (dOf (op_30r [.l TB (bs l0)])) 5) (gl TB (dOf (op_31r [.l TB l0])) 5) && (gn (dOf (op_30r [.l TB (bs l0)])) 6 == gn (dOf (op_31r [.l TB l0])) 6 && true)))) && true))))
(.pa [1]
(.sF ((isK 0 [.n, .n, .n, .n, .n, .l TB] (op_32r [.l TB (bs l0)])))
(.sT ((isK 1 [.n, .n, .n, .n, .n] (op_32r [.l TB (bs l0)])))
(.pa [1]
(.sT ((isK 0 [.n, .n, .n, .n, .s, .b] (op_33g [.l TB l0])))
(.pa [1,1,1]
(.sT ((gn (dOf (op_32r [.l TB (bs l0)])) 0 == gn (dOf (op_33g [.l TB l0])) 0 && (gn (dOf (op_32r [.l TB (bs l0)])) 1 == gn (dOf (op_33g [.l TB l0])) 1 && (gn (dOf (op_32r [.l TB (bs l0)])) 2 == gn (dOf (op_33g [.l TB l0])) 2 && (gn (dOf (op_32r [.l TB (bs l0)])) 3 == gn (dOf (op_33g [.l TB l0])) 3 && (strEq (strOf []) (gs (dOf (op_33g [.l TB l0])) 4) && true))))))
(.pa [1,0]
(.sT (((gn (dOf (op_23r [.l TB (bs l0)])) 5 == (0 : Int)) == gb (dOf (op_24r [.l TB l0])) 5))
(.sT (((gn (dOf (op_26r [.l TB (bs l0)])) 5 == (0 : Int)) == gb (dOf (op_27r [.l TB l0])) 5))
(.sT (((gn (dOf (op_28r [.l TB (bs l0)])) 5 == (0 : Int)) == gb (dOf (op_29r [.l TB l0])) 5))
(.sT (((gn (dOf (op_30r [.l TB (bs l0)])) 7 == (0 : Int)) == gb (dOf (op_31r [.l TB l0])) 7))
(.sT (((gn (dOf (op_32r [.l TB (bs l0)])) 4 == (0 : Int)) == gb (dOf (op_33g [.l TB l0])) 5))
(.sT ((isK 0 [.b] (op_34q [.n (gn (dOf (op_23r [.l TB (bs l0)])) 5), .n (gn (dOf (op_26r [.l TB (bs l0)])) 5), .n (gn (dOf (op_28r [.l TB (bs l0)])) 5), .n (gn (dOf (op_30r [.l TB (bs l0)])) 7), .n (gn (dOf (op_32r [.l TB (bs l0)])) 4)])))
(.pa [1]
(.sT ((gb (dOf (op_34q [.n (gn (dOf (op_23r [.l TB (bs l0)])) 5), .n (gn (dOf (op_26r [.l TB (bs l0)])) 5), .n (gn (dOf (op_28r [.l TB (bs l0)])) 5), .n (gn (dOf (op_30r [.l TB (bs l0)])) 7), .n (gn (dOf (op_32r [.l TB (bs l0)])) 4)])) 0))
(.sT ((isK 0 [.n] (op_35r [.l TB (bs l0)])))
(.pa [1]
(.sT ((isK 0 [.n] (op_36r [.l TB l0])))
(.pa [1]
(.sT ((gn (dOf (op_35r [.l TB (bs l0)])) 0 == gn (dOf (op_36r [.l TB l0])) 0))
(.sT ((strEq (strOf (bs l0)) (strOf l0)))
(.pa [1,1,1]
.lf))))))))))))))))))))))))))))))))))))))))))))))))))

noncomputable def fn_W4n_i2 : List Dat → Tree Bool
 | (.l (Ty.int IntKind.u8) l0 :: .n n1 :: .n n2 :: .n n3 :: .n n4 :: .n n5 :: .l (Ty.pair (Ty.int IntKind.u8) (Ty.int IntKind.i64)) l6 :: .n n7 :: .n n8 :: .n n9 :: .n n10 :: .n n11 :: .n n12 :: .b b13 :: .n n14 :: .n n15 :: .n n16 :: .l (Ty.int IntKind.u8) l17 :: .n n18 :: .n n19 :: .b b20 :: .n n21 :: .n n22 :: .n n23 :: .n n24 :: .n n25 :: .l (Ty.int IntKind.u8) l26 :: .n n27 :: .n n28 :: .b b29 :: .n n30 :: .n n31 :: .n n32 :: .n n33 :: .s s34 :: .n n35 :: []) =>
 (.leaf (true))
 | _ => .bad 0
theorem fn_W4n_i2_im (l0 : List (Ty.den TB)) (n1 : Int) (n2 : Int) (n3 : Int) (n4 : Int) (n5 : Int) (l6 : List (Ty.den TC)) (n7 : Int) (n8 : Int) (n9 : Int) (n10 : Int) (n11 : Int) (n12 : Int) (b13 : Bool) (n14 : Int) (n15 : Int) (n16 : Int) (l17 : List (Ty.den TB)) (n18 : Int) (n19 : Int) (b20 : Bool) (n21 : Int) (n22 : Int) (n23 : Int) (n24 : Int) (n25 : Int) (l26 : List (Ty.den TB)) (n27 : Int) (n28 : Int) (b29 : Bool) (n30 : Int) (n31 : Int) (n32 : Int) (n33 : Int) (s34 : ByteArray) (n35 : Int) (g0 : isK 0 [.n, .n, .n, .n, .n, .n, .l TC] (op_23r [.l TB l0]) = true) (g1 :  gn (dOf (op_23r [.l TB l0])) 0 = n1) (g2 :  gn (dOf (op_23r [.l TB l0])) 1 = n2) (g3 :  gn (dOf (op_23r [.l TB l0])) 2 = n3) (g4 :  gn (dOf (op_23r [.l TB l0])) 3 = n4) (g5 :  gn (dOf (op_23r [.l TB l0])) 4 = n5) (g6 :  gn (dOf (op_23r [.l TB l0])) 5 = 0) (g7 :  gl TC (dOf (op_23r [.l TB l0])) 6 = l6) (g8 :  isK 0 [.n, .n, .n, .n, .n, .b, .l TC] (op_24r [.l TB l0]) = true) (g9 :  gn (dOf (op_24r [.l TB l0])) 0 = n1) (g10 :  gn (dOf (op_24r [.l TB l0])) 1 = n2) (g11 :  gn (dOf (op_24r [.l TB l0])) 2 = n3) (g12 :  gn (dOf (op_24r [.l TB l0])) 3 = n4) (g13 :  gn (dOf (op_24r [.l TB l0])) 4 = n5) (g14 :  gb (dOf (op_24r [.l TB l0])) 5 = true) (g15 :  gl TC (dOf (op_24r [.l TB l0])) 6 = l6) (g16 :  isK 0 [.b] (op_25r [.n n1, .n n2, .n n3, .n n4, .n n5, .l TC l6, .n n1, .n n2, .n n3, .n n4, .n n5, .l TC l6]) = true) (g17 :  gb (dOf (op_25r [.n n1, .n n2, .n n3, .n n4, .n n5, .l TC l6, .n n1, .n n2, .n n3, .n n4, .n n5, .l TC l6])) 0 = true) (g18 :  (n12 == 0) = b13) (g19 :  isK 0 [.n, .n, .n, .n, .n, .n] (op_26r [.l TB l0]) = true) (g20 :  gn (dOf (op_26r [.l TB l0])) 0 = n7) (g21 :  gn (dOf (op_26r [.l TB l0])) 1 = n8) (g22 :  gn (dOf (op_26r [.l TB l0])) 2 = n9) (g23 :  gn (dOf (op_26r [.l TB l0])) 3 = n10) (g24 :  gn (dOf (op_26r [.l TB l0])) 4 = n11) (g25 :  gn (dOf (op_26r [.l TB l0])) 5 = n12) (g26 :  isK 0 [.n, .n, .n, .n, .n, .b] (op_27r [.l TB l0]) = true) (g27 :  gn (dOf (op_27r [.l TB l0])) 0 = n7) (g28 :  gn (dOf (op_27r [.l TB l0])) 1 = n8) (g29 :  gn (dOf (op_27r [.l TB l0])) 2 = n9) (g30 :  gn (dOf (op_27r [.l TB l0])) 3 = n10) (g31 :  gn (dOf (op_27r [.l TB l0])) 4 = n11) (g32 :  gb (dOf (op_27r [.l TB l0])) 5 = b13) (g33 :  eqL TB l17 l17 = true) (g34 :  (n19 == 0) = b20) (g35 :  isK 0 [.n, .n, .n, .l TB, .n, .n] (op_28r [.l TB l0]) = true) (g36 :  gn (dOf (op_28r [.l TB l0])) 0 = n14) (g37 :  gn (dOf (op_28r [.l TB l0])) 1 = n15) (g38 :  gn (dOf (op_28r [.l TB l0])) 2 = n16) (g39 :  gl TB (dOf (op_28r [.l TB l0])) 3 = l17) (g40 :  gn (dOf (op_28r [.l TB l0])) 4 = n18) (g41 :  gn (dOf (op_28r [.l TB l0])) 5 = n19) (g42 :  isK 0 [.n, .n, .n, .l TB, .n, .b] (op_29r [.l TB l0]) = true) (g43 :  gn (dOf (op_29r [.l TB l0])) 0 = n14) (g44 :  gn (dOf (op_29r [.l TB l0])) 1 = n15) (g45 :  gn (dOf (op_29r [.l TB l0])) 2 = n16) (g46 :  gl TB (dOf (op_29r [.l TB l0])) 3 = l17) (g47 :  gn (dOf (op_29r [.l TB l0])) 4 = n18) (g48 :  gb (dOf (op_29r [.l TB l0])) 5 = b20) (g49 :  eqL TB l26 l26 = true) (g50 :  (n28 == 0) = b29) (g51 :  isK 0 [.n, .n, .n, .n, .n, .l TB, .n, .n] (op_30r [.l TB l0]) = true) (g52 :  gn (dOf (op_30r [.l TB l0])) 0 = n21) (g53 :  gn (dOf (op_30r [.l TB l0])) 1 = n22) (g54 :  gn (dOf (op_30r [.l TB l0])) 2 = n23) (g55 :  gn (dOf (op_30r [.l TB l0])) 3 = n24) (g56 :  gn (dOf (op_30r [.l TB l0])) 4 = n25) (g57 :  gl TB (dOf (op_30r [.l TB l0])) 5 = l26) (g58 :  gn (dOf (op_30r [.l TB l0])) 6 = n27) (g59 :  gn (dOf (op_30r [.l TB l0])) 7 = n28) (g60 :  isK 0 [.n, .n, .n, .n, .n, .l TB, .n, .b] (op_31r [.l TB l0]) = true) (g61 :  gn (dOf (op_31r [.l TB l0])) 0 = n21) (g62 :  gn (dOf (op_31r [.l TB l0])) 1 = n22) (g63 :  gn (dOf (op_31r [.l TB l0])) 2 = n23) (g64 :  gn (dOf (op_31r [.l TB l0])) 3 = n24) (g65 :  gn (dOf (op_31r [.l TB l0])) 4 = n25) (g66 :  gl TB (dOf (op_31r [.l TB l0])) 5 = l26) (g67 :  gn (dOf (op_31r [.l TB l0])) 6 = n27) (g68 :  gb (dOf (op_31r [.l TB l0])) 7 = b29) (g69 :  isK 0 [.n, .n, .n, .n, .n, .l TB] (op_32r [.l TB l0]) = false) (g70 :  isK 1 [.n, .n, .n, .n, .n] (op_32r [.l TB l0]) = true) (g71 :  gn (dOf (op_32r [.l TB l0])) 0 = n30) (g72 :  gn (dOf (op_32r [.l TB l0])) 1 = n31) (g73 :  gn (dOf (op_32r [.l TB l0])) 2 = n32) (g74 :  gn (dOf (op_32r [.l TB l0])) 3 = n33) (g75 :  gn (dOf (op_32r [.l TB l0])) 4 = 130) (g76 :  isK 0 [.n, .n, .n, .n, .s, .b] (op_33g [.l TB l0]) = true) (g77 :  gn (dOf (op_33g [.l TB l0])) 0 = n30) (g78 :  gn (dOf (op_33g [.l TB l0])) 1 = n31) (g79 :  gn (dOf (op_33g [.l TB l0])) 2 = n32) (g80 :  gn (dOf (op_33g [.l TB l0])) 3 = n33) (g81 :  gs (dOf (op_33g [.l TB l0])) 4 = s34) (g82 :  gb (dOf (op_33g [.l TB l0])) 5 = false) (g83 :  strEq (strOf ([] : List (Ty.den TB))) s34 = true) (g84 :  strEq (strOf ([] : List Int)) s34 = true) (g85 :  isK 0 [.b] (op_34q [.n 0, .n n12, .n n19, .n n28, .n 130]) = true) (g86 :  gb (dOf (op_34q [.n 0, .n n12, .n n19, .n n28, .n 130])) 0 = true) (g87 :  isK 0 [.n] (op_35r [.l TB l0]) = true) (g88 :  gn (dOf (op_35r [.l TB l0])) 0 = n35) (g89 :  isK 0 [.n] (op_36r [.l TB l0]) = true) (g90 :  gn (dOf (op_36r [.l TB l0])) 0 = n35) (g91 :  strEq (strOf l0) (strOf l0) = true) (g92 :  bs l0 = l0) (g93 :  (l0.length : Int) ≤ 3000) : Imp (fn_W4n_i2 (.l TB l0 :: .n n1 :: .n n2 :: .n n3 :: .n n4 :: .n n5 :: .l TC l6 :: .n n7 :: .n n8 :: .n n9 :: .n n10 :: .n n11 :: .n n12 :: .b b13 :: .n n14 :: .n n15 :: .n n16 :: .l TB l17 :: .n n18 :: .n n19 :: .b b20 :: .n n21 :: .n n22 :: .n n23 :: .n n24 :: .n n25 :: .l TB l26 :: .n n27 :: .n n28 :: .b b29 :: .n n30 :: .n n31 :: .n n32 :: .n n33 :: .s s34 :: .n n35 :: [])) (ev_W4n [.l TB l0]) :=
(.sF ((decide ((↑(List.length l0) : Int) > (3000 : Int))))
(.sT ((isK 0 [.n, .n, .n, .n, .n, .n, .l TC] (op_23r [.l TB (bs l0)])))
(.pa [1]
(.sT ((isK 0 [.n, .n, .n, .n, .n, .b, .l TC] (op_24r [.l TB l0])))
(.pa [1,1,1]
(.sT ((isK 0 [.b] (op_25r [.n (gn (dOf (op_23r [.l TB (bs l0)])) 0), .n (gn (dOf (op_23r [.l TB (bs l0)])) 1), .n (gn (dOf (op_23r [.l TB (bs l0)])) 2), .n (gn (dOf (op_23r [.l TB (bs l0)])) 3), .n (gn (dOf (op_23r [.l TB (bs l0)])) 4), .l TC (gl TC (dOf (op_23r [.l TB (bs l0)])) 6), .n (gn (dOf (op_24r [.l TB l0])) 0), .n (gn (dOf (op_24r [.l TB l0])) 1), .n (gn (dOf (op_24r [.l TB l0])) 2), .n (gn (dOf (op_24r [.l TB l0])) 3), .n (gn (dOf (op_24r [.l TB l0])) 4), .l TC (gl TC (dOf (op_24r [.l TB l0])) 6)])))
(.pa [1]
(.sT ((gb (dOf (op_25r [.n (gn (dOf (op_23r [.l TB (bs l0)])) 0), .n (gn (dOf (op_23r [.l TB (bs l0)])) 1), .n (gn (dOf (op_23r [.l TB (bs l0)])) 2), .n (gn (dOf (op_23r [.l TB (bs l0)])) 3), .n (gn (dOf (op_23r [.l TB (bs l0)])) 4), .l TC (gl TC (dOf (op_23r [.l TB (bs l0)])) 6), .n (gn (dOf (op_24r [.l TB l0])) 0), .n (gn (dOf (op_24r [.l TB l0])) 1), .n (gn (dOf (op_24r [.l TB l0])) 2), .n (gn (dOf (op_24r [.l TB l0])) 3), .n (gn (dOf (op_24r [.l TB l0])) 4), .l TC (gl TC (dOf (op_24r [.l TB l0])) 6)])) 0))
(.pa [1]
(.sT ((isK 0 [.n, .n, .n, .n, .n, .n] (op_26r [.l TB (bs l0)])))
(.pa [1]
(.sT ((isK 0 [.n, .n, .n, .n, .n, .b] (op_27r [.l TB l0])))
(.pa [1,1,1]
(.sT ((gn (dOf (op_26r [.l TB (bs l0)])) 0 == gn (dOf (op_27r [.l TB l0])) 0 && (gn (dOf (op_26r [.l TB (bs l0)])) 1 == gn (dOf (op_27r [.l TB l0])) 1 && (gn (dOf (op_26r [.l TB (bs l0)])) 2 == gn (dOf (op_27r [.l TB l0])) 2 && (gn (dOf (op_26r [.l TB (bs l0)])) 3 == gn (dOf (op_27r [.l TB l0])) 3 && (gn (dOf (op_26r [.l TB (bs l0)])) 4 == gn (dOf (op_27r [.l TB l0])) 4 && true) && true)))))
(.pa [1]
(.sT ((isK 0 [.n, .n, .n, .l TB, .n, .n] (op_28r [.l TB (bs l0)])))
(.pa [1]
(.sT ((isK 0 [.n, .n, .n, .l TB, .n, .b] (op_29r [.l TB l0])))
(.pa [1]
(.sT ((gn (dOf (op_28r [.l TB (bs l0)])) 0 == gn (dOf (op_29r [.l TB l0])) 0 && (gn (dOf (op_28r [.l TB (bs l0)])) 1 == gn (dOf (op_29r [.l TB l0])) 1 && (gn (dOf (op_28r [.l TB (bs l0)])) 2 == gn (dOf (op_29r [.l TB l0])) 2 && (eqL TB (gl TB (dOf (op_28r [.l TB (bs l0)])) 3) (gl TB (dOf (op_29r [.l TB l0])) 3) && (gn (dOf (op_28r [.l TB (bs l0)])) 4 == gn (dOf (op_29r [.l TB l0])) 4 && true))))))
(.sT ((isK 0 [.n, .n, .n, .n, .n, .l TB, .n, .n] (op_30r [.l TB (bs l0)])))
(.pa [1]
(.sT ((isK 0 [.n, .n, .n, .n, .n, .l TB, .n, .b] (op_31r [.l TB l0])))
(.pa [1,1,1]
(.sT ((gn (dOf (op_30r [.l TB (bs l0)])) 0 == gn (dOf (op_31r [.l TB l0])) 0 && (gn (dOf (op_30r [.l TB (bs l0)])) 1 == gn (dOf (op_31r [.l TB l0])) 1 && (gn (dOf (op_30r [.l TB (bs l0)])) 2 == gn (dOf (op_31r [.l TB l0])) 2 && (gn (dOf (op_30r [.l TB (bs l0)])) 3 == gn (dOf (op_31r [.l TB l0])) 3 && (gn (dOf (op_30r [.l TB (bs l0)])) 4 == gn (dOf (op_31r [.l TB l0])) 4 && (eqL TB (gl TB (dOf (op_30r [.l TB (bs l0)])) 5) (gl TB (dOf (op_31r [.l TB l0])) 5) && (gn (dOf (op_30r [.l TB (bs l0)])) 6 == gn (dOf (op_31r [.l TB l0])) 6 && true)))) && true))))
(.pa [1]
(.sF ((isK 0 [.n, .n, .n, .n, .n, .l TB] (op_32r [.l TB (bs l0)])))
(.sT ((isK 1 [.n, .n, .n, .n, .n] (op_32r [.l TB (bs l0)])))
(.pa [1]
(.sT ((isK 0 [.n, .n, .n, .n, .s, .b] (op_33g [.l TB l0])))
(.pa [1,1,1]
(.sT ((gn (dOf (op_32r [.l TB (bs l0)])) 0 == gn (dOf (op_33g [.l TB l0])) 0 && (gn (dOf (op_32r [.l TB (bs l0)])) 1 == gn (dOf (op_33g [.l TB l0])) 1 && (gn (dOf (op_32r [.l TB (bs l0)])) 2 == gn (dOf (op_33g [.l TB l0])) 2 && (gn (dOf (op_32r [.l TB (bs l0)])) 3 == gn (dOf (op_33g [.l TB l0])) 3 && (strEq (strOf []) (gs (dOf (op_33g [.l TB l0])) 4) && true))))))
(.pa [1,0]
(.sT (((gn (dOf (op_23r [.l TB (bs l0)])) 5 == (0 : Int)) == gb (dOf (op_24r [.l TB l0])) 5))
(.sT (((gn (dOf (op_26r [.l TB (bs l0)])) 5 == (0 : Int)) == gb (dOf (op_27r [.l TB l0])) 5))
(.sT (((gn (dOf (op_28r [.l TB (bs l0)])) 5 == (0 : Int)) == gb (dOf (op_29r [.l TB l0])) 5))
(.sT (((gn (dOf (op_30r [.l TB (bs l0)])) 7 == (0 : Int)) == gb (dOf (op_31r [.l TB l0])) 7))
(.sT (((gn (dOf (op_32r [.l TB (bs l0)])) 4 == (0 : Int)) == gb (dOf (op_33g [.l TB l0])) 5))
(.sT ((isK 0 [.b] (op_34q [.n (gn (dOf (op_23r [.l TB (bs l0)])) 5), .n (gn (dOf (op_26r [.l TB (bs l0)])) 5), .n (gn (dOf (op_28r [.l TB (bs l0)])) 5), .n (gn (dOf (op_30r [.l TB (bs l0)])) 7), .n (gn (dOf (op_32r [.l TB (bs l0)])) 4)])))
(.pa [1]
(.sT ((gb (dOf (op_34q [.n (gn (dOf (op_23r [.l TB (bs l0)])) 5), .n (gn (dOf (op_26r [.l TB (bs l0)])) 5), .n (gn (dOf (op_28r [.l TB (bs l0)])) 5), .n (gn (dOf (op_30r [.l TB (bs l0)])) 7), .n (gn (dOf (op_32r [.l TB (bs l0)])) 4)])) 0))
(.sT ((isK 0 [.n] (op_35r [.l TB (bs l0)])))
(.pa [1]
(.sT ((isK 0 [.n] (op_36r [.l TB l0])))
(.pa [1]
(.sT ((gn (dOf (op_35r [.l TB (bs l0)])) 0 == gn (dOf (op_36r [.l TB l0])) 0))
(.sT ((strEq (strOf (bs l0)) (strOf l0)))
(.pa [1,1,1]
.lf))))))))))))))))))))))))))))))))))))))))))))))))

noncomputable def fn_W4n_x : List Dat → Tree Bool
 | [.l (Ty.int IntKind.u8) l0] =>
 (.leaf (true))
 | _ => .bad 0
theorem fn_W4n_x_im (l0 : List (Ty.den TB)) (g0 : 3000 < (l0.length : Int)) : Imp (fn_W4n_x [.l TB l0]) (ev_W4n [.l TB l0]) :=
(.sT ((decide ((↑(List.length l0) : Int) > (3000 : Int))))
(.pa [1,1,1]
.lf))

noncomputable def st_L4_20 (env : List Dat) : Tree Step := Lk.stepMC false LK cs_34q 4 20 ls0 (mkM (cv := [(24, [], 4, .own TB)]) 0 [] [(sh 191 [(0, .imm TB 0), (3, .own 0), (5, .int .i64 1), (8, .bool 2), (10, .int .i64 3), (13, .bool 4), (15, .int .i64 5), (18, .bool 6), (20, .int .i64 7), (23, .bool 8), (24, .ptr 1 0), (25, .int .i64 9), (28, .bool 10), (29, .int .i64 11)], [.arr TB 12, liC 13 (.own 2), .arr TB 17])] [] [(.exit 0, sh 191 [(0, .imm TB 0), (3, .own 0), (5, .int .i64 1), (8, .bool 2), (10, .int .i64 3), (13, .bool 4), (15, .int .i64 5), (18, .bool 6), (20, .int .i64 7), (23, .bool 8), (25, .int .i64 9), (28, .bool 10)], [.arr TB 11])] fun _ => none) env
theorem op_L4_20_ex : ExL st_L4_20 := exL _
noncomputable def op_L4_20 := Classical.choose op_L4_20_ex
theorem op_L4_20_eq (env : List Dat) : op_L4_20 env = iterS st_L4_20 FU env := Classical.choose_spec op_L4_20_ex env
noncomputable def L4_20 : MBox := mkM (cv := [(24, [], 4, .own TB)]) 0 [] [(sh 191 [(0, .imm TB 0), (3, .own 0), (5, .int .i64 1), (8, .bool 2), (10, .int .i64 3), (13, .bool 4), (15, .int .i64 5), (18, .bool 6), (20, .int .i64 7), (23, .bool 8), (24, .ptr 1 0), (25, .int .i64 9), (28, .bool 10), (29, .int .i64 11)], [.arr TB 12, liC 13 (.own 2), .arr TB 17])] [] [(.exit 0, sh 191 [(0, .imm TB 0), (3, .own 0), (5, .int .i64 1), (8, .bool 2), (10, .int .i64 3), (13, .bool 4), (15, .int .i64 5), (18, .bool 6), (20, .int .i64 7), (23, .bool 8), (25, .int .i64 9), (28, .bool 10)], [.arr TB 11])] op_L4_20
theorem L4_20_eqs : L4_20 = mkM (cv := [(24, [], 4, .own TB)]) 0 [] [(sh 191 [(0, .imm TB 0), (3, .own 0), (5, .int .i64 1), (8, .bool 2), (10, .int .i64 3), (13, .bool 4), (15, .int .i64 5), (18, .bool 6), (20, .int .i64 7), (23, .bool 8), (24, .ptr 1 0), (25, .int .i64 9), (28, .bool 10), (29, .int .i64 11)], [.arr TB 12, liC 13 (.own 2), .arr TB 17])] [] [(.exit 0, sh 191 [(0, .imm TB 0), (3, .own 0), (5, .int .i64 1), (8, .bool 2), (10, .int .i64 3), (13, .bool 4), (15, .int .i64 5), (18, .bool 6), (20, .int .i64 7), (23, .bool 8), (25, .int .i64 9), (28, .bool 10)], [.arr TB 11])] (iterS st_L4_20 FU) := congrArg (fun f => mkM (cv := [(24, [], 4, .own TB)]) 0 [] [(sh 191 [(0, .imm TB 0), (3, .own 0), (5, .int .i64 1), (8, .bool 2), (10, .int .i64 3), (13, .bool 4), (15, .int .i64 5), (18, .bool 6), (20, .int .i64 7), (23, .bool 8), (24, .ptr 1 0), (25, .int .i64 9), (28, .bool 10), (29, .int .i64 11)], [.arr TB 12, liC 13 (.own 2), .arr TB 17])] [] [(.exit 0, sh 191 [(0, .imm TB 0), (3, .own 0), (5, .int .i64 1), (8, .bool 2), (10, .int .i64 3), (13, .bool 4), (15, .int .i64 5), (18, .bool 6), (20, .int .i64 7), (23, .bool 8), (25, .int .i64 9), (28, .bool 10)], [.arr TB 11])] f) (funext op_L4_20_eq)
theorem L4_20_run : ∀ t s x, (manyRun L4_20 t s).sel = some x → CodeOk Try.prog 0 (.loop (cAt Try.prog 4 20)) t s x := by
  rw [L4_20_eqs]
  exact mkM_ok (st := st_L4_20) (m := FU) cs_34q_ok hmix false (LsOk.none _ _ _) (by kernel_rfl) (fun env y h => by rw [← stepMC_lk]; exact h)

noncomputable def fn_L4_20_t : List Dat → Tree Step
 | [.l (Ty.int IntKind.u8) l0, .n n1, .b b2, .n n3, .b b4, .n n5, .b b6, .n n7, .b b8, .n n9, .b b10, .n n11, .l (Ty.int IntKind.u8) l12, .n n13, .n n14, .n n15, .n n16, .l (Ty.int IntKind.u8) l17] =>
 (.node (decide (n11 < (↑(List.length l17) : Int)))
 (.leaf (Step.go [.k 0, .l TB l0, .n n1, .b b2, .n n3, .b b4, .n n5, .b b6, .n n7, .b b8, .n n9, .b b10, .n (IntKind.wrap .i64 (n11 + (1 : Int))), .l TB l12, .n n13, .n n14, .n n15, .n n16, .l TB (List.set l17 (Int.toNat n11) (IntKind.wrap .u8 ((List.getD l17 (Int.toNat n11) (0 : Int) : Int) + (1 : Int))))]))
 (.leaf (Step.stop 0 [.l TB l0, .n n1, .b b2, .n n3, .b b4, .n n5, .b b6, .n n7, .b b8, .n n9, .b b10, .l TB l12])))
 | _ => .bad 0
theorem fn_L4_20_t_im (l0 : List (Ty.den TB)) (n1 : Int) (b2 : Bool) (n3 : Int) (b4 : Bool) (n5 : Int) (b6 : Bool) (n7 : Int) (b8 : Bool) (n9 : Int) (b10 : Bool) (n11 : Int) (l12 : List (Ty.den TB)) (n13 : Int) (n14 : Int) (n15 : Int) (n16 : Int) (l17 : List (Ty.den TB)) (g0 : 0 ≤ n11) : Imp (fn_L4_20_t [.l TB l0, .n n1, .b b2, .n n3, .b b4, .n n5, .b b6, .n n7, .b b8, .n n9, .b b10, .n n11, .l TB l12, .n n13, .n n14, .n n15, .n n16, .l TB l17]) (st_L4_20 [.k 0, .l TB l0, .n n1, .b b2, .n n3, .b b4, .n n5, .b b6, .n n7, .b b8, .n n9, .b b10, .n n11, .l TB l12, .n n13, .n n14, .n n15, .n n16, .l TB l17]) :=
(.pa [1]
(.nd (fun h0 =>
(.pt (c := (inR n11 (List.length l17))) (by kernel_rfl) (by kernel_rfl) (by (simp only [w64d, decide_eq_true_eq, decide_eq_false_iff_not, beq_iff_eq, beq_eq_false_iff_ne, bne_iff_ne, ne_eq, inR, Bool.and_eq_true, Bool.and_eq_false_iff, Bool.not_eq_true', Bool.not_eq_false', Bool.not_eq_eq_eq_not, Bool.not_true, Bool.not_false] at *; omega))
(.pt (c := (inR n11 (List.length l17))) (by kernel_rfl) (by kernel_rfl) (by (simp only [w64d, decide_eq_true_eq, decide_eq_false_iff_not, beq_iff_eq, beq_eq_false_iff_ne, bne_iff_ne, ne_eq, inR, Bool.and_eq_true, Bool.and_eq_false_iff, Bool.not_eq_true', Bool.not_eq_false', Bool.not_eq_eq_eq_not, Bool.not_true, Bool.not_false] at *; omega))
(.pa [1,1]
.lf)))) (fun h0 =>
(.pa [1]
.lf))))

theorem ls_4_ok : LsOk Try.prog (0) (lsM [(20, L4_20)] (0)) (bodyOf Try.prog 4) := LsOk.many fun j B hB hk c hc hi => by
  simp only [lookM] at hB
  split at hB
  · rename_i e; have := Nat.eq_of_beq_eq_true e; subst this; cases hB
    have e1 : loopAt Try.prog 4 20 = [cAt Try.prog 4 20] := loopAt_one (by kernel_rfl)
    have e2 : c ∈ loopAt Try.prog 4 20 := loopsAt_mem hc hi
    rw [e1] at e2; cases List.mem_singleton.1 e2; exact L4_20_run
  cases hB

noncomputable def ev_W4 (env : List Dat) : Tree Bool := Lk.lawB false LK cs_34q 4 (lsM [(20, L4_20)] (0)) (instL [.imm TB 0] env)

theorem W4_law (env : List Dat) (h : (ev_W4 env).sel = some true) {w : World} {args : Array Value} (ha : LRel R0 (snapOf w) (instL [.imm TB 0] env) args) :
    Calls Try.prog 4 args w fun e w' => e = .returned (.bool true) ∧ Below w.heap.size w w' :=
  lawB_ok cs_34q_ok hmix false (ls := (lsM [(20, L4_20)] (0))) (ls_4_ok) (by rw [← lawB_lk]; exact h) ha

noncomputable def fn_W4_l2 : List Dat → Tree Bool
 | (.l (Ty.int IntKind.u8) l0 :: .n n1 :: .n n2 :: .n n3 :: .n n4 :: .n n5 :: .n n6 :: .b b7 :: .n n8 :: .n n9 :: .n n10 :: .l (Ty.int IntKind.u8) l11 :: .n n12 :: .n n13 :: .b b14 :: .n n15 :: .n n16 :: .n n17 :: .n n18 :: .n n19 :: .l (Ty.int IntKind.u8) l20 :: .n n21 :: .n n22 :: .b b23 :: .n n24 :: .n n25 :: .n n26 :: .n n27 :: .l (Ty.int IntKind.u8) l28 :: .s s29 :: .n n30 :: []) =>
 (.leaf (true))
 | _ => .bad 0
theorem fn_W4_l2_im (l0 : List (Ty.den TB)) (n1 : Int) (n2 : Int) (n3 : Int) (n4 : Int) (n5 : Int) (n6 : Int) (b7 : Bool) (n8 : Int) (n9 : Int) (n10 : Int) (l11 : List (Ty.den TB)) (n12 : Int) (n13 : Int) (b14 : Bool) (n15 : Int) (n16 : Int) (n17 : Int) (n18 : Int) (n19 : Int) (l20 : List (Ty.den TB)) (n21 : Int) (n22 : Int) (b23 : Bool) (n24 : Int) (n25 : Int) (n26 : Int) (n27 : Int) (l28 : List (Ty.den TB)) (s29 : ByteArray) (n30 : Int) (g0 : isK 0 [.n, .n, .n, .n, .n, .n, .l TC] (op_23r [.l TB l0]) = false) (g1 :  isK 1 [.n, .n, .n, .n, .n, .n] (op_23r [.l TB l0]) = true) (g2 :  gn (dOf (op_23r [.l TB l0])) 0 = 0) (g3 :  gn (dOf (op_23r [.l TB l0])) 1 = 0) (g4 :  gn (dOf (op_23r [.l TB l0])) 2 = 0) (g5 :  gn (dOf (op_23r [.l TB l0])) 3 = 0) (g6 :  gn (dOf (op_23r [.l TB l0])) 4 = 0) (g7 :  gn (dOf (op_23r [.l TB l0])) 5 = 130) (g8 :  isK 0 [.n, .n, .n, .n, .n, .b, .l TC] (op_24r [.l TB l0]) = false) (g9 :  isK 1 [.n, .n, .n, .n, .n, .b] (op_24r [.l TB l0]) = true) (g10 :  gn (dOf (op_24r [.l TB l0])) 0 = 0) (g11 :  gn (dOf (op_24r [.l TB l0])) 1 = 0) (g12 :  gn (dOf (op_24r [.l TB l0])) 2 = 0) (g13 :  gn (dOf (op_24r [.l TB l0])) 3 = 0) (g14 :  gn (dOf (op_24r [.l TB l0])) 4 = 0) (g15 :  gb (dOf (op_24r [.l TB l0])) 5 = false) (g16 :  isK 0 [.b] (op_25r [.n 0, .n 0, .n 0, .n 0, .n 0, .l TC [], .n 0, .n 0, .n 0, .n 0, .n 0, .l TC []]) = true) (g17 :  gb (dOf (op_25r [.n 0, .n 0, .n 0, .n 0, .n 0, .l TC [], .n 0, .n 0, .n 0, .n 0, .n 0, .l TC []])) 0 = true) (g18 :  (n6 == 0) = b7) (g19 :  isK 0 [.n, .n, .n, .n, .n, .n] (op_26r [.l TB l0]) = true) (g20 :  gn (dOf (op_26r [.l TB l0])) 0 = n1) (g21 :  gn (dOf (op_26r [.l TB l0])) 1 = n2) (g22 :  gn (dOf (op_26r [.l TB l0])) 2 = n3) (g23 :  gn (dOf (op_26r [.l TB l0])) 3 = n4) (g24 :  gn (dOf (op_26r [.l TB l0])) 4 = n5) (g25 :  gn (dOf (op_26r [.l TB l0])) 5 = n6) (g26 :  isK 0 [.n, .n, .n, .n, .n, .b] (op_27r [.l TB l0]) = true) (g27 :  gn (dOf (op_27r [.l TB l0])) 0 = n1) (g28 :  gn (dOf (op_27r [.l TB l0])) 1 = n2) (g29 :  gn (dOf (op_27r [.l TB l0])) 2 = n3) (g30 :  gn (dOf (op_27r [.l TB l0])) 3 = n4) (g31 :  gn (dOf (op_27r [.l TB l0])) 4 = n5) (g32 :  gb (dOf (op_27r [.l TB l0])) 5 = b7) (g33 :  eqL TB l11 l11 = true) (g34 :  (n13 == 0) = b14) (g35 :  isK 0 [.n, .n, .n, .l TB, .n, .n] (op_28r [.l TB l0]) = true) (g36 :  gn (dOf (op_28r [.l TB l0])) 0 = n8) (g37 :  gn (dOf (op_28r [.l TB l0])) 1 = n9) (g38 :  gn (dOf (op_28r [.l TB l0])) 2 = n10) (g39 :  gl TB (dOf (op_28r [.l TB l0])) 3 = l11) (g40 :  gn (dOf (op_28r [.l TB l0])) 4 = n12) (g41 :  gn (dOf (op_28r [.l TB l0])) 5 = n13) (g42 :  isK 0 [.n, .n, .n, .l TB, .n, .b] (op_29r [.l TB l0]) = true) (g43 :  gn (dOf (op_29r [.l TB l0])) 0 = n8) (g44 :  gn (dOf (op_29r [.l TB l0])) 1 = n9) (g45 :  gn (dOf (op_29r [.l TB l0])) 2 = n10) (g46 :  gl TB (dOf (op_29r [.l TB l0])) 3 = l11) (g47 :  gn (dOf (op_29r [.l TB l0])) 4 = n12) (g48 :  gb (dOf (op_29r [.l TB l0])) 5 = b14) (g49 :  eqL TB l20 l20 = true) (g50 :  (n22 == 0) = b23) (g51 :  isK 0 [.n, .n, .n, .n, .n, .l TB, .n, .n] (op_30r [.l TB l0]) = true) (g52 :  gn (dOf (op_30r [.l TB l0])) 0 = n15) (g53 :  gn (dOf (op_30r [.l TB l0])) 1 = n16) (g54 :  gn (dOf (op_30r [.l TB l0])) 2 = n17) (g55 :  gn (dOf (op_30r [.l TB l0])) 3 = n18) (g56 :  gn (dOf (op_30r [.l TB l0])) 4 = n19) (g57 :  gl TB (dOf (op_30r [.l TB l0])) 5 = l20) (g58 :  gn (dOf (op_30r [.l TB l0])) 6 = n21) (g59 :  gn (dOf (op_30r [.l TB l0])) 7 = n22) (g60 :  isK 0 [.n, .n, .n, .n, .n, .l TB, .n, .b] (op_31r [.l TB l0]) = true) (g61 :  gn (dOf (op_31r [.l TB l0])) 0 = n15) (g62 :  gn (dOf (op_31r [.l TB l0])) 1 = n16) (g63 :  gn (dOf (op_31r [.l TB l0])) 2 = n17) (g64 :  gn (dOf (op_31r [.l TB l0])) 3 = n18) (g65 :  gn (dOf (op_31r [.l TB l0])) 4 = n19) (g66 :  gl TB (dOf (op_31r [.l TB l0])) 5 = l20) (g67 :  gn (dOf (op_31r [.l TB l0])) 6 = n21) (g68 :  gb (dOf (op_31r [.l TB l0])) 7 = b23) (g69 :  isK 0 [.n, .n, .n, .n, .n, .l TB] (op_32r [.l TB l0]) = true) (g70 :  gn (dOf (op_32r [.l TB l0])) 0 = n24) (g71 :  gn (dOf (op_32r [.l TB l0])) 1 = n25) (g72 :  gn (dOf (op_32r [.l TB l0])) 2 = n26) (g73 :  gn (dOf (op_32r [.l TB l0])) 3 = n27) (g74 :  gn (dOf (op_32r [.l TB l0])) 4 = 0) (g75 :  gl TB (dOf (op_32r [.l TB l0])) 5 = l28) (g76 :  isK 0 [.n, .n, .n, .n, .s, .b] (op_33g [.l TB l0]) = true) (g77 :  gn (dOf (op_33g [.l TB l0])) 0 = n24) (g78 :  gn (dOf (op_33g [.l TB l0])) 1 = n25) (g79 :  gn (dOf (op_33g [.l TB l0])) 2 = n26) (g80 :  gn (dOf (op_33g [.l TB l0])) 3 = n27) (g81 :  gs (dOf (op_33g [.l TB l0])) 4 = s29) (g82 :  gb (dOf (op_33g [.l TB l0])) 5 = true) (g83 :  strEq (strOf l28) s29 = true) (g84 :  isK 0 [.l TB, .n, .b, .n, .b, .n, .b, .n, .b, .n, .b, .l TB] (op_L4_20 [.k 0, .l TB l0, .n 130, .b true, .n n6, .b true, .n n13, .b true, .n n22, .b true, .n 0, .b true, .n 0, .l TB l0, .n n24, .n n25, .n n26, .n n27, .l TB l28]) = true) (g85 :  gl TB (dOf (op_L4_20 [.k 0, .l TB l0, .n 130, .b true, .n n6, .b true, .n n13, .b true, .n n22, .b true, .n 0, .b true, .n 0, .l TB l0, .n n24, .n n25, .n n26, .n n27, .l TB l28])) 0 = l0) (g86 :  gn (dOf (op_L4_20 [.k 0, .l TB l0, .n 130, .b true, .n n6, .b true, .n n13, .b true, .n n22, .b true, .n 0, .b true, .n 0, .l TB l0, .n n24, .n n25, .n n26, .n n27, .l TB l28])) 1 = 130) (g87 :  gb (dOf (op_L4_20 [.k 0, .l TB l0, .n 130, .b true, .n n6, .b true, .n n13, .b true, .n n22, .b true, .n 0, .b true, .n 0, .l TB l0, .n n24, .n n25, .n n26, .n n27, .l TB l28])) 2 = true) (g88 :  gn (dOf (op_L4_20 [.k 0, .l TB l0, .n 130, .b true, .n n6, .b true, .n n13, .b true, .n n22, .b true, .n 0, .b true, .n 0, .l TB l0, .n n24, .n n25, .n n26, .n n27, .l TB l28])) 3 = n6) (g89 :  gb (dOf (op_L4_20 [.k 0, .l TB l0, .n 130, .b true, .n n6, .b true, .n n13, .b true, .n n22, .b true, .n 0, .b true, .n 0, .l TB l0, .n n24, .n n25, .n n26, .n n27, .l TB l28])) 4 = true) (g90 :  gn (dOf (op_L4_20 [.k 0, .l TB l0, .n 130, .b true, .n n6, .b true, .n n13, .b true, .n n22, .b true, .n 0, .b true, .n 0, .l TB l0, .n n24, .n n25, .n n26, .n n27, .l TB l28])) 5 = n13) (g91 :  gb (dOf (op_L4_20 [.k 0, .l TB l0, .n 130, .b true, .n n6, .b true, .n n13, .b true, .n n22, .b true, .n 0, .b true, .n 0, .l TB l0, .n n24, .n n25, .n n26, .n n27, .l TB l28])) 6 = true) (g92 :  gn (dOf (op_L4_20 [.k 0, .l TB l0, .n 130, .b true, .n n6, .b true, .n n13, .b true, .n n22, .b true, .n 0, .b true, .n 0, .l TB l0, .n n24, .n n25, .n n26, .n n27, .l TB l28])) 7 = n22) (g93 :  gb (dOf (op_L4_20 [.k 0, .l TB l0, .n 130, .b true, .n n6, .b true, .n n13, .b true, .n n22, .b true, .n 0, .b true, .n 0, .l TB l0, .n n24, .n n25, .n n26, .n n27, .l TB l28])) 8 = true) (g94 :  gn (dOf (op_L4_20 [.k 0, .l TB l0, .n 130, .b true, .n n6, .b true, .n n13, .b true, .n n22, .b true, .n 0, .b true, .n 0, .l TB l0, .n n24, .n n25, .n n26, .n n27, .l TB l28])) 9 = 0) (g95 :  gb (dOf (op_L4_20 [.k 0, .l TB l0, .n 130, .b true, .n n6, .b true, .n n13, .b true, .n n22, .b true, .n 0, .b true, .n 0, .l TB l0, .n n24, .n n25, .n n26, .n n27, .l TB l28])) 10 = true) (g96 :  gl TB (dOf (op_L4_20 [.k 0, .l TB l0, .n 130, .b true, .n n6, .b true, .n n13, .b true, .n n22, .b true, .n 0, .b true, .n 0, .l TB l0, .n n24, .n n25, .n n26, .n n27, .l TB l28])) 11 = l0) (g97 :  isK 0 [.b] (op_34q [.n 130, .n n6, .n n13, .n n22, .n 0]) = true) (g98 :  gb (dOf (op_34q [.n 130, .n n6, .n n13, .n n22, .n 0])) 0 = true) (g99 :  isK 0 [.n] (op_35r [.l TB l0]) = true) (g100 :  gn (dOf (op_35r [.l TB l0])) 0 = n30) (g101 :  isK 0 [.n] (op_36r [.l TB l0]) = true) (g102 :  gn (dOf (op_36r [.l TB l0])) 0 = n30) (g103 :  strEq (strOf l0) (strOf l0) = true) (g104 :  bs l0 = l0) (g105 :  (l0.length : Int) ≤ 3000) : Imp (fn_W4_l2 (.l TB l0 :: .n n1 :: .n n2 :: .n n3 :: .n n4 :: .n n5 :: .n n6 :: .b b7 :: .n n8 :: .n n9 :: .n n10 :: .l TB l11 :: .n n12 :: .n n13 :: .b b14 :: .n n15 :: .n n16 :: .n n17 :: .n n18 :: .n n19 :: .l TB l20 :: .n n21 :: .n n22 :: .b b23 :: .n n24 :: .n n25 :: .n n26 :: .n n27 :: .l TB l28 :: .s s29 :: .n n30 :: [])) (ev_W4 [.l TB l0]) :=
(.sF ((decide ((↑(List.length l0) : Int) > (3000 : Int))))
(.sF ((isK 0 [.n, .n, .n, .n, .n, .n, .l TC] (op_23r [.l TB (bs l0)])))
(.sT ((isK 1 [.n, .n, .n, .n, .n, .n] (op_23r [.l TB (bs l0)])))
(.pa [1]
(.sF ((isK 0 [.n, .n, .n, .n, .n, .b, .l TC] (op_24r [.l TB l0])))
(.sT ((isK 1 [.n, .n, .n, .n, .n, .b] (op_24r [.l TB l0])))
(.pa [1,1,1]
(.sT ((isK 0 [.b] (op_25r [.n (gn (dOf (op_23r [.l TB (bs l0)])) 0), .n (gn (dOf (op_23r [.l TB (bs l0)])) 1), .n (gn (dOf (op_23r [.l TB (bs l0)])) 2), .n (gn (dOf (op_23r [.l TB (bs l0)])) 3), .n (gn (dOf (op_23r [.l TB (bs l0)])) 4), .l TC [], .n (gn (dOf (op_24r [.l TB l0])) 0), .n (gn (dOf (op_24r [.l TB l0])) 1), .n (gn (dOf (op_24r [.l TB l0])) 2), .n (gn (dOf (op_24r [.l TB l0])) 3), .n (gn (dOf (op_24r [.l TB l0])) 4), .l TC []])))
(.pa [1]
(.sT ((gb (dOf (op_25r [.n (gn (dOf (op_23r [.l TB (bs l0)])) 0), .n (gn (dOf (op_23r [.l TB (bs l0)])) 1), .n (gn (dOf (op_23r [.l TB (bs l0)])) 2), .n (gn (dOf (op_23r [.l TB (bs l0)])) 3), .n (gn (dOf (op_23r [.l TB (bs l0)])) 4), .l TC [], .n (gn (dOf (op_24r [.l TB l0])) 0), .n (gn (dOf (op_24r [.l TB l0])) 1), .n (gn (dOf (op_24r [.l TB l0])) 2), .n (gn (dOf (op_24r [.l TB l0])) 3), .n (gn (dOf (op_24r [.l TB l0])) 4), .l TC []])) 0))
(.pa [1]
(.sT ((isK 0 [.n, .n, .n, .n, .n, .n] (op_26r [.l TB (bs l0)])))
(.pa [1]
(.sT ((isK 0 [.n, .n, .n, .n, .n, .b] (op_27r [.l TB l0])))
(.pa [1,1,1]
(.sT ((gn (dOf (op_26r [.l TB (bs l0)])) 0 == gn (dOf (op_27r [.l TB l0])) 0 && (gn (dOf (op_26r [.l TB (bs l0)])) 1 == gn (dOf (op_27r [.l TB l0])) 1 && (gn (dOf (op_26r [.l TB (bs l0)])) 2 == gn (dOf (op_27r [.l TB l0])) 2 && (gn (dOf (op_26r [.l TB (bs l0)])) 3 == gn (dOf (op_27r [.l TB l0])) 3 && (gn (dOf (op_26r [.l TB (bs l0)])) 4 == gn (dOf (op_27r [.l TB l0])) 4 && true) && true)))))
(.pa [1]
(.sT ((isK 0 [.n, .n, .n, .l TB, .n, .n] (op_28r [.l TB (bs l0)])))
(.pa [1]
(.sT ((isK 0 [.n, .n, .n, .l TB, .n, .b] (op_29r [.l TB l0])))
(.pa [1]
(.sT ((gn (dOf (op_28r [.l TB (bs l0)])) 0 == gn (dOf (op_29r [.l TB l0])) 0 && (gn (dOf (op_28r [.l TB (bs l0)])) 1 == gn (dOf (op_29r [.l TB l0])) 1 && (gn (dOf (op_28r [.l TB (bs l0)])) 2 == gn (dOf (op_29r [.l TB l0])) 2 && (eqL TB (gl TB (dOf (op_28r [.l TB (bs l0)])) 3) (gl TB (dOf (op_29r [.l TB l0])) 3) && (gn (dOf (op_28r [.l TB (bs l0)])) 4 == gn (dOf (op_29r [.l TB l0])) 4 && true))))))
(.sT ((isK 0 [.n, .n, .n, .n, .n, .l TB, .n, .n] (op_30r [.l TB (bs l0)])))
(.pa [1]
(.sT ((isK 0 [.n, .n, .n, .n, .n, .l TB, .n, .b] (op_31r [.l TB l0])))
(.pa [1,1,1]
(.sT ((gn (dOf (op_30r [.l TB (bs l0)])) 0 == gn (dOf (op_31r [.l TB l0])) 0 && (gn (dOf (op_30r [.l TB (bs l0)])) 1 == gn (dOf (op_31r [.l TB l0])) 1 && (gn (dOf (op_30r [.l TB (bs l0)])) 2 == gn (dOf (op_31r [.l TB l0])) 2 && (gn (dOf (op_30r [.l TB (bs l0)])) 3 == gn (dOf (op_31r [.l TB l0])) 3 && (gn (dOf (op_30r [.l TB (bs l0)])) 4 == gn (dOf (op_31r [.l TB l0])) 4 && (eqL TB (gl TB (dOf (op_30r [.l TB (bs l0)])) 5) (gl TB (dOf (op_31r [.l TB l0])) 5) && (gn (dOf (op_30r [.l TB (bs l0)])) 6 == gn (dOf (op_31r [.l TB l0])) 6 && true)))) && true))))
(.pa [1]
(.sT ((isK 0 [.n, .n, .n, .n, .n, .l TB] (op_32r [.l TB (bs l0)])))
(.pa [1]
(.sT ((isK 0 [.n, .n, .n, .n, .s, .b] (op_33g [.l TB l0])))
(.pa [1,1,1]
(.sT ((gn (dOf (op_32r [.l TB (bs l0)])) 0 == gn (dOf (op_33g [.l TB l0])) 0 && (gn (dOf (op_32r [.l TB (bs l0)])) 1 == gn (dOf (op_33g [.l TB l0])) 1 && (gn (dOf (op_32r [.l TB (bs l0)])) 2 == gn (dOf (op_33g [.l TB l0])) 2 && (gn (dOf (op_32r [.l TB (bs l0)])) 3 == gn (dOf (op_33g [.l TB l0])) 3 && (strEq (strOf (gl TB (dOf (op_32r [.l TB (bs l0)])) 5)) (gs (dOf (op_33g [.l TB l0])) 4) && true))))))
(.pa [1]
(.sT ((isK 0 [.l TB, .n, .b, .n, .b, .n, .b, .n, .b, .n, .b, .l TB] (op_L4_20 [.k 0, .l TB l0, .n (gn (dOf (op_23r [.l TB (bs l0)])) 5), .b ((gn (dOf (op_23r [.l TB (bs l0)])) 5 == (0 : Int)) == gb (dOf (op_24r [.l TB l0])) 5), .n (gn (dOf (op_26r [.l TB (bs l0)])) 5), .b ((gn (dOf (op_26r [.l TB (bs l0)])) 5 == (0 : Int)) == gb (dOf (op_27r [.l TB l0])) 5), .n (gn (dOf (op_28r [.l TB (bs l0)])) 5), .b ((gn (dOf (op_28r [.l TB (bs l0)])) 5 == (0 : Int)) == gb (dOf (op_29r [.l TB l0])) 5), .n (gn (dOf (op_30r [.l TB (bs l0)])) 7), .b ((gn (dOf (op_30r [.l TB (bs l0)])) 7 == (0 : Int)) == gb (dOf (op_31r [.l TB l0])) 7), .n (gn (dOf (op_32r [.l TB (bs l0)])) 4), .b ((gn (dOf (op_32r [.l TB (bs l0)])) 4 == (0 : Int)) == gb (dOf (op_33g [.l TB l0])) 5), .n (0 : Int), .l TB (bs l0), .n (gn (dOf (op_32r [.l TB (bs l0)])) 0), .n (gn (dOf (op_32r [.l TB (bs l0)])) 1), .n (gn (dOf (op_32r [.l TB (bs l0)])) 2), .n (gn (dOf (op_32r [.l TB (bs l0)])) 3), .l TB (gl TB (dOf (op_32r [.l TB (bs l0)])) 5)])))
(.sT ((gb (dOf (op_L4_20 [.k 0, .l TB l0, .n (gn (dOf (op_23r [.l TB (bs l0)])) 5), .b ((gn (dOf (op_23r [.l TB (bs l0)])) 5 == (0 : Int)) == gb (dOf (op_24r [.l TB l0])) 5), .n (gn (dOf (op_26r [.l TB (bs l0)])) 5), .b ((gn (dOf (op_26r [.l TB (bs l0)])) 5 == (0 : Int)) == gb (dOf (op_27r [.l TB l0])) 5), .n (gn (dOf (op_28r [.l TB (bs l0)])) 5), .b ((gn (dOf (op_28r [.l TB (bs l0)])) 5 == (0 : Int)) == gb (dOf (op_29r [.l TB l0])) 5), .n (gn (dOf (op_30r [.l TB (bs l0)])) 7), .b ((gn (dOf (op_30r [.l TB (bs l0)])) 7 == (0 : Int)) == gb (dOf (op_31r [.l TB l0])) 7), .n (gn (dOf (op_32r [.l TB (bs l0)])) 4), .b ((gn (dOf (op_32r [.l TB (bs l0)])) 4 == (0 : Int)) == gb (dOf (op_33g [.l TB l0])) 5), .n (0 : Int), .l TB (bs l0), .n (gn (dOf (op_32r [.l TB (bs l0)])) 0), .n (gn (dOf (op_32r [.l TB (bs l0)])) 1), .n (gn (dOf (op_32r [.l TB (bs l0)])) 2), .n (gn (dOf (op_32r [.l TB (bs l0)])) 3), .l TB (gl TB (dOf (op_32r [.l TB (bs l0)])) 5)])) 2))
(.sT ((gb (dOf (op_L4_20 [.k 0, .l TB l0, .n (gn (dOf (op_23r [.l TB (bs l0)])) 5), .b ((gn (dOf (op_23r [.l TB (bs l0)])) 5 == (0 : Int)) == gb (dOf (op_24r [.l TB l0])) 5), .n (gn (dOf (op_26r [.l TB (bs l0)])) 5), .b ((gn (dOf (op_26r [.l TB (bs l0)])) 5 == (0 : Int)) == gb (dOf (op_27r [.l TB l0])) 5), .n (gn (dOf (op_28r [.l TB (bs l0)])) 5), .b ((gn (dOf (op_28r [.l TB (bs l0)])) 5 == (0 : Int)) == gb (dOf (op_29r [.l TB l0])) 5), .n (gn (dOf (op_30r [.l TB (bs l0)])) 7), .b ((gn (dOf (op_30r [.l TB (bs l0)])) 7 == (0 : Int)) == gb (dOf (op_31r [.l TB l0])) 7), .n (gn (dOf (op_32r [.l TB (bs l0)])) 4), .b ((gn (dOf (op_32r [.l TB (bs l0)])) 4 == (0 : Int)) == gb (dOf (op_33g [.l TB l0])) 5), .n (0 : Int), .l TB (bs l0), .n (gn (dOf (op_32r [.l TB (bs l0)])) 0), .n (gn (dOf (op_32r [.l TB (bs l0)])) 1), .n (gn (dOf (op_32r [.l TB (bs l0)])) 2), .n (gn (dOf (op_32r [.l TB (bs l0)])) 3), .l TB (gl TB (dOf (op_32r [.l TB (bs l0)])) 5)])) 4))
(.sT ((gb (dOf (op_L4_20 [.k 0, .l TB l0, .n (gn (dOf (op_23r [.l TB (bs l0)])) 5), .b ((gn (dOf (op_23r [.l TB (bs l0)])) 5 == (0 : Int)) == gb (dOf (op_24r [.l TB l0])) 5), .n (gn (dOf (op_26r [.l TB (bs l0)])) 5), .b ((gn (dOf (op_26r [.l TB (bs l0)])) 5 == (0 : Int)) == gb (dOf (op_27r [.l TB l0])) 5), .n (gn (dOf (op_28r [.l TB (bs l0)])) 5), .b ((gn (dOf (op_28r [.l TB (bs l0)])) 5 == (0 : Int)) == gb (dOf (op_29r [.l TB l0])) 5), .n (gn (dOf (op_30r [.l TB (bs l0)])) 7), .b ((gn (dOf (op_30r [.l TB (bs l0)])) 7 == (0 : Int)) == gb (dOf (op_31r [.l TB l0])) 7), .n (gn (dOf (op_32r [.l TB (bs l0)])) 4), .b ((gn (dOf (op_32r [.l TB (bs l0)])) 4 == (0 : Int)) == gb (dOf (op_33g [.l TB l0])) 5), .n (0 : Int), .l TB (bs l0), .n (gn (dOf (op_32r [.l TB (bs l0)])) 0), .n (gn (dOf (op_32r [.l TB (bs l0)])) 1), .n (gn (dOf (op_32r [.l TB (bs l0)])) 2), .n (gn (dOf (op_32r [.l TB (bs l0)])) 3), .l TB (gl TB (dOf (op_32r [.l TB (bs l0)])) 5)])) 6))
(.sT ((gb (dOf (op_L4_20 [.k 0, .l TB l0, .n (gn (dOf (op_23r [.l TB (bs l0)])) 5), .b ((gn (dOf (op_23r [.l TB (bs l0)])) 5 == (0 : Int)) == gb (dOf (op_24r [.l TB l0])) 5), .n (gn (dOf (op_26r [.l TB (bs l0)])) 5), .b ((gn (dOf (op_26r [.l TB (bs l0)])) 5 == (0 : Int)) == gb (dOf (op_27r [.l TB l0])) 5), .n (gn (dOf (op_28r [.l TB (bs l0)])) 5), .b ((gn (dOf (op_28r [.l TB (bs l0)])) 5 == (0 : Int)) == gb (dOf (op_29r [.l TB l0])) 5), .n (gn (dOf (op_30r [.l TB (bs l0)])) 7), .b ((gn (dOf (op_30r [.l TB (bs l0)])) 7 == (0 : Int)) == gb (dOf (op_31r [.l TB l0])) 7), .n (gn (dOf (op_32r [.l TB (bs l0)])) 4), .b ((gn (dOf (op_32r [.l TB (bs l0)])) 4 == (0 : Int)) == gb (dOf (op_33g [.l TB l0])) 5), .n (0 : Int), .l TB (bs l0), .n (gn (dOf (op_32r [.l TB (bs l0)])) 0), .n (gn (dOf (op_32r [.l TB (bs l0)])) 1), .n (gn (dOf (op_32r [.l TB (bs l0)])) 2), .n (gn (dOf (op_32r [.l TB (bs l0)])) 3), .l TB (gl TB (dOf (op_32r [.l TB (bs l0)])) 5)])) 8))
(.sT ((gb (dOf (op_L4_20 [.k 0, .l TB l0, .n (gn (dOf (op_23r [.l TB (bs l0)])) 5), .b ((gn (dOf (op_23r [.l TB (bs l0)])) 5 == (0 : Int)) == gb (dOf (op_24r [.l TB l0])) 5), .n (gn (dOf (op_26r [.l TB (bs l0)])) 5), .b ((gn (dOf (op_26r [.l TB (bs l0)])) 5 == (0 : Int)) == gb (dOf (op_27r [.l TB l0])) 5), .n (gn (dOf (op_28r [.l TB (bs l0)])) 5), .b ((gn (dOf (op_28r [.l TB (bs l0)])) 5 == (0 : Int)) == gb (dOf (op_29r [.l TB l0])) 5), .n (gn (dOf (op_30r [.l TB (bs l0)])) 7), .b ((gn (dOf (op_30r [.l TB (bs l0)])) 7 == (0 : Int)) == gb (dOf (op_31r [.l TB l0])) 7), .n (gn (dOf (op_32r [.l TB (bs l0)])) 4), .b ((gn (dOf (op_32r [.l TB (bs l0)])) 4 == (0 : Int)) == gb (dOf (op_33g [.l TB l0])) 5), .n (0 : Int), .l TB (bs l0), .n (gn (dOf (op_32r [.l TB (bs l0)])) 0), .n (gn (dOf (op_32r [.l TB (bs l0)])) 1), .n (gn (dOf (op_32r [.l TB (bs l0)])) 2), .n (gn (dOf (op_32r [.l TB (bs l0)])) 3), .l TB (gl TB (dOf (op_32r [.l TB (bs l0)])) 5)])) 10))
(.sT ((isK 0 [.b] (op_34q [.n (gn (dOf (op_L4_20 [.k 0, .l TB l0, .n (gn (dOf (op_23r [.l TB (bs l0)])) 5), .b ((gn (dOf (op_23r [.l TB (bs l0)])) 5 == (0 : Int)) == gb (dOf (op_24r [.l TB l0])) 5), .n (gn (dOf (op_26r [.l TB (bs l0)])) 5), .b ((gn (dOf (op_26r [.l TB (bs l0)])) 5 == (0 : Int)) == gb (dOf (op_27r [.l TB l0])) 5), .n (gn (dOf (op_28r [.l TB (bs l0)])) 5), .b ((gn (dOf (op_28r [.l TB (bs l0)])) 5 == (0 : Int)) == gb (dOf (op_29r [.l TB l0])) 5), .n (gn (dOf (op_30r [.l TB (bs l0)])) 7), .b ((gn (dOf (op_30r [.l TB (bs l0)])) 7 == (0 : Int)) == gb (dOf (op_31r [.l TB l0])) 7), .n (gn (dOf (op_32r [.l TB (bs l0)])) 4), .b ((gn (dOf (op_32r [.l TB (bs l0)])) 4 == (0 : Int)) == gb (dOf (op_33g [.l TB l0])) 5), .n (0 : Int), .l TB (bs l0), .n (gn (dOf (op_32r [.l TB (bs l0)])) 0), .n (gn (dOf (op_32r [.l TB (bs l0)])) 1), .n (gn (dOf (op_32r [.l TB (bs l0)])) 2), .n (gn (dOf (op_32r [.l TB (bs l0)])) 3), .l TB (gl TB (dOf (op_32r [.l TB (bs l0)])) 5)])) 1), .n (gn (dOf (op_L4_20 [.k 0, .l TB l0, .n (gn (dOf (op_23r [.l TB (bs l0)])) 5), .b ((gn (dOf (op_23r [.l TB (bs l0)])) 5 == (0 : Int)) == gb (dOf (op_24r [.l TB l0])) 5), .n (gn (dOf (op_26r [.l TB (bs l0)])) 5), .b ((gn (dOf (op_26r [.l TB (bs l0)])) 5 == (0 : Int)) == gb (dOf (op_27r [.l TB l0])) 5), .n (gn (dOf (op_28r [.l TB (bs l0)])) 5), .b ((gn (dOf (op_28r [.l TB (bs l0)])) 5 == (0 : Int)) == gb (dOf (op_29r [.l TB l0])) 5), .n (gn (dOf (op_30r [.l TB (bs l0)])) 7), .b ((gn (dOf (op_30r [.l TB (bs l0)])) 7 == (0 : Int)) == gb (dOf (op_31r [.l TB l0])) 7), .n (gn (dOf (op_32r [.l TB (bs l0)])) 4), .b ((gn (dOf (op_32r [.l TB (bs l0)])) 4 == (0 : Int)) == gb (dOf (op_33g [.l TB l0])) 5), .n (0 : Int), .l TB (bs l0), .n (gn (dOf (op_32r [.l TB (bs l0)])) 0), .n (gn (dOf (op_32r [.l TB (bs l0)])) 1), .n (gn (dOf (op_32r [.l TB (bs l0)])) 2), .n (gn (dOf (op_32r [.l TB (bs l0)])) 3), .l TB (gl TB (dOf (op_32r [.l TB (bs l0)])) 5)])) 3), .n (gn (dOf (op_L4_20 [.k 0, .l TB l0, .n (gn (dOf (op_23r [.l TB (bs l0)])) 5), .b ((gn (dOf (op_23r [.l TB (bs l0)])) 5 == (0 : Int)) == gb (dOf (op_24r [.l TB l0])) 5), .n (gn (dOf (op_26r [.l TB (bs l0)])) 5), .b ((gn (dOf (op_26r [.l TB (bs l0)])) 5 == (0 : Int)) == gb (dOf (op_27r [.l TB l0])) 5), .n (gn (dOf (op_28r [.l TB (bs l0)])) 5), .b ((gn (dOf (op_28r [.l TB (bs l0)])) 5 == (0 : Int)) == gb (dOf (op_29r [.l TB l0])) 5), .n (gn (dOf (op_30r [.l TB (bs l0)])) 7), .b ((gn (dOf (op_30r [.l TB (bs l0)])) 7 == (0 : Int)) == gb (dOf (op_31r [.l TB l0])) 7), .n (gn (dOf (op_32r [.l TB (bs l0)])) 4), .b ((gn (dOf (op_32r [.l TB (bs l0)])) 4 == (0 : Int)) == gb (dOf (op_33g [.l TB l0])) 5), .n (0 : Int), .l TB (bs l0), .n (gn (dOf (op_32r [.l TB (bs l0)])) 0), .n (gn (dOf (op_32r [.l TB (bs l0)])) 1), .n (gn (dOf (op_32r [.l TB (bs l0)])) 2), .n (gn (dOf (op_32r [.l TB (bs l0)])) 3), .l TB (gl TB (dOf (op_32r [.l TB (bs l0)])) 5)])) 5), .n (gn (dOf (op_L4_20 [.k 0, .l TB l0, .n (gn (dOf (op_23r [.l TB (bs l0)])) 5), .b ((gn (dOf (op_23r [.l TB (bs l0)])) 5 == (0 : Int)) == gb (dOf (op_24r [.l TB l0])) 5), .n (gn (dOf (op_26r [.l TB (bs l0)])) 5), .b ((gn (dOf (op_26r [.l TB (bs l0)])) 5 == (0 : Int)) == gb (dOf (op_27r [.l TB l0])) 5), .n (gn (dOf (op_28r [.l TB (bs l0)])) 5), .b ((gn (dOf (op_28r [.l TB (bs l0)])) 5 == (0 : Int)) == gb (dOf (op_29r [.l TB l0])) 5), .n (gn (dOf (op_30r [.l TB (bs l0)])) 7), .b ((gn (dOf (op_30r [.l TB (bs l0)])) 7 == (0 : Int)) == gb (dOf (op_31r [.l TB l0])) 7), .n (gn (dOf (op_32r [.l TB (bs l0)])) 4), .b ((gn (dOf (op_32r [.l TB (bs l0)])) 4 == (0 : Int)) == gb (dOf (op_33g [.l TB l0])) 5), .n (0 : Int), .l TB (bs l0), .n (gn (dOf (op_32r [.l TB (bs l0)])) 0), .n (gn (dOf (op_32r [.l TB (bs l0)])) 1), .n (gn (dOf (op_32r [.l TB (bs l0)])) 2), .n (gn (dOf (op_32r [.l TB (bs l0)])) 3), .l TB (gl TB (dOf (op_32r [.l TB (bs l0)])) 5)])) 7), .n (gn (dOf (op_L4_20 [.k 0, .l TB l0, .n (gn (dOf (op_23r [.l TB (bs l0)])) 5), .b ((gn (dOf (op_23r [.l TB (bs l0)])) 5 == (0 : Int)) == gb (dOf (op_24r [.l TB l0])) 5), .n (gn (dOf (op_26r [.l TB (bs l0)])) 5), .b ((gn (dOf (op_26r [.l TB (bs l0)])) 5 == (0 : Int)) == gb (dOf (op_27r [.l TB l0])) 5), .n (gn (dOf (op_28r [.l TB (bs l0)])) 5), .b ((gn (dOf (op_28r [.l TB (bs l0)])) 5 == (0 : Int)) == gb (dOf (op_29r [.l TB l0])) 5), .n (gn (dOf (op_30r [.l TB (bs l0)])) 7), .b ((gn (dOf (op_30r [.l TB (bs l0)])) 7 == (0 : Int)) == gb (dOf (op_31r [.l TB l0])) 7), .n (gn (dOf (op_32r [.l TB (bs l0)])) 4), .b ((gn (dOf (op_32r [.l TB (bs l0)])) 4 == (0 : Int)) == gb (dOf (op_33g [.l TB l0])) 5), .n (0 : Int), .l TB (bs l0), .n (gn (dOf (op_32r [.l TB (bs l0)])) 0), .n (gn (dOf (op_32r [.l TB (bs l0)])) 1), .n (gn (dOf (op_32r [.l TB (bs l0)])) 2), .n (gn (dOf (op_32r [.l TB (bs l0)])) 3), .l TB (gl TB (dOf (op_32r [.l TB (bs l0)])) 5)])) 9)])))
(.pa [1]
(.sT ((gb (dOf (op_34q [.n (gn (dOf (op_L4_20 [.k 0, .l TB l0, .n (gn (dOf (op_23r [.l TB (bs l0)])) 5), .b ((gn (dOf (op_23r [.l TB (bs l0)])) 5 == (0 : Int)) == gb (dOf (op_24r [.l TB l0])) 5), .n (gn (dOf (op_26r [.l TB (bs l0)])) 5), .b ((gn (dOf (op_26r [.l TB (bs l0)])) 5 == (0 : Int)) == gb (dOf (op_27r [.l TB l0])) 5), .n (gn (dOf (op_28r [.l TB (bs l0)])) 5), .b ((gn (dOf (op_28r [.l TB (bs l0)])) 5 == (0 : Int)) == gb (dOf (op_29r [.l TB l0])) 5), .n (gn (dOf (op_30r [.l TB (bs l0)])) 7), .b ((gn (dOf (op_30r [.l TB (bs l0)])) 7 == (0 : Int)) == gb (dOf (op_31r [.l TB l0])) 7), .n (gn (dOf (op_32r [.l TB (bs l0)])) 4), .b ((gn (dOf (op_32r [.l TB (bs l0)])) 4 == (0 : Int)) == gb (dOf (op_33g [.l TB l0])) 5), .n (0 : Int), .l TB (bs l0), .n (gn (dOf (op_32r [.l TB (bs l0)])) 0), .n (gn (dOf (op_32r [.l TB (bs l0)])) 1), .n (gn (dOf (op_32r [.l TB (bs l0)])) 2), .n (gn (dOf (op_32r [.l TB (bs l0)])) 3), .l TB (gl TB (dOf (op_32r [.l TB (bs l0)])) 5)])) 1), .n (gn (dOf (op_L4_20 [.k 0, .l TB l0, .n (gn (dOf (op_23r [.l TB (bs l0)])) 5), .b ((gn (dOf (op_23r [.l TB (bs l0)])) 5 == (0 : Int)) == gb (dOf (op_24r [.l TB l0])) 5), .n (gn (dOf (op_26r [.l TB (bs l0)])) 5), .b ((gn (dOf (op_26r [.l TB (bs l0)])) 5 == (0 : Int)) == gb (dOf (op_27r [.l TB l0])) 5), .n (gn (dOf (op_28r [.l TB (bs l0)])) 5), .b ((gn (dOf (op_28r [.l TB (bs l0)])) 5 == (0 : Int)) == gb (dOf (op_29r [.l TB l0])) 5), .n (gn (dOf (op_30r [.l TB (bs l0)])) 7), .b ((gn (dOf (op_30r [.l TB (bs l0)])) 7 == (0 : Int)) == gb (dOf (op_31r [.l TB l0])) 7), .n (gn (dOf (op_32r [.l TB (bs l0)])) 4), .b ((gn (dOf (op_32r [.l TB (bs l0)])) 4 == (0 : Int)) == gb (dOf (op_33g [.l TB l0])) 5), .n (0 : Int), .l TB (bs l0), .n (gn (dOf (op_32r [.l TB (bs l0)])) 0), .n (gn (dOf (op_32r [.l TB (bs l0)])) 1), .n (gn (dOf (op_32r [.l TB (bs l0)])) 2), .n (gn (dOf (op_32r [.l TB (bs l0)])) 3), .l TB (gl TB (dOf (op_32r [.l TB (bs l0)])) 5)])) 3), .n (gn (dOf (op_L4_20 [.k 0, .l TB l0, .n (gn (dOf (op_23r [.l TB (bs l0)])) 5), .b ((gn (dOf (op_23r [.l TB (bs l0)])) 5 == (0 : Int)) == gb (dOf (op_24r [.l TB l0])) 5), .n (gn (dOf (op_26r [.l TB (bs l0)])) 5), .b ((gn (dOf (op_26r [.l TB (bs l0)])) 5 == (0 : Int)) == gb (dOf (op_27r [.l TB l0])) 5), .n (gn (dOf (op_28r [.l TB (bs l0)])) 5), .b ((gn (dOf (op_28r [.l TB (bs l0)])) 5 == (0 : Int)) == gb (dOf (op_29r [.l TB l0])) 5), .n (gn (dOf (op_30r [.l TB (bs l0)])) 7), .b ((gn (dOf (op_30r [.l TB (bs l0)])) 7 == (0 : Int)) == gb (dOf (op_31r [.l TB l0])) 7), .n (gn (dOf (op_32r [.l TB (bs l0)])) 4), .b ((gn (dOf (op_32r [.l TB (bs l0)])) 4 == (0 : Int)) == gb (dOf (op_33g [.l TB l0])) 5), .n (0 : Int), .l TB (bs l0), .n (gn (dOf (op_32r [.l TB (bs l0)])) 0), .n (gn (dOf (op_32r [.l TB (bs l0)])) 1), .n (gn (dOf (op_32r [.l TB (bs l0)])) 2), .n (gn (dOf (op_32r [.l TB (bs l0)])) 3), .l TB (gl TB (dOf (op_32r [.l TB (bs l0)])) 5)])) 5), .n (gn (dOf (op_L4_20 [.k 0, .l TB l0, .n (gn (dOf (op_23r [.l TB (bs l0)])) 5), .b ((gn (dOf (op_23r [.l TB (bs l0)])) 5 == (0 : Int)) == gb (dOf (op_24r [.l TB l0])) 5), .n (gn (dOf (op_26r [.l TB (bs l0)])) 5), .b ((gn (dOf (op_26r [.l TB (bs l0)])) 5 == (0 : Int)) == gb (dOf (op_27r [.l TB l0])) 5), .n (gn (dOf (op_28r [.l TB (bs l0)])) 5), .b ((gn (dOf (op_28r [.l TB (bs l0)])) 5 == (0 : Int)) == gb (dOf (op_29r [.l TB l0])) 5), .n (gn (dOf (op_30r [.l TB (bs l0)])) 7), .b ((gn (dOf (op_30r [.l TB (bs l0)])) 7 == (0 : Int)) == gb (dOf (op_31r [.l TB l0])) 7), .n (gn (dOf (op_32r [.l TB (bs l0)])) 4), .b ((gn (dOf (op_32r [.l TB (bs l0)])) 4 == (0 : Int)) == gb (dOf (op_33g [.l TB l0])) 5), .n (0 : Int), .l TB (bs l0), .n (gn (dOf (op_32r [.l TB (bs l0)])) 0), .n (gn (dOf (op_32r [.l TB (bs l0)])) 1), .n (gn (dOf (op_32r [.l TB (bs l0)])) 2), .n (gn (dOf (op_32r [.l TB (bs l0)])) 3), .l TB (gl TB (dOf (op_32r [.l TB (bs l0)])) 5)])) 7), .n (gn (dOf (op_L4_20 [.k 0, .l TB l0, .n (gn (dOf (op_23r [.l TB (bs l0)])) 5), .b ((gn (dOf (op_23r [.l TB (bs l0)])) 5 == (0 : Int)) == gb (dOf (op_24r [.l TB l0])) 5), .n (gn (dOf (op_26r [.l TB (bs l0)])) 5), .b ((gn (dOf (op_26r [.l TB (bs l0)])) 5 == (0 : Int)) == gb (dOf (op_27r [.l TB l0])) 5), .n (gn (dOf (op_28r [.l TB (bs l0)])) 5), .b ((gn (dOf (op_28r [.l TB (bs l0)])) 5 == (0 : Int)) == gb (dOf (op_29r [.l TB l0])) 5), .n (gn (dOf (op_30r [.l TB (bs l0)])) 7), .b ((gn (dOf (op_30r [.l TB (bs l0)])) 7 == (0 : Int)) == gb (dOf (op_31r [.l TB l0])) 7), .n (gn (dOf (op_32r [.l TB (bs l0)])) 4), .b ((gn (dOf (op_32r [.l TB (bs l0)])) 4 == (0 : Int)) == gb (dOf (op_33g [.l TB l0])) 5), .n (0 : Int), .l TB (bs l0), .n (gn (dOf (op_32r [.l TB (bs l0)])) 0), .n (gn (dOf (op_32r [.l TB (bs l0)])) 1), .n (gn (dOf (op_32r [.l TB (bs l0)])) 2), .n (gn (dOf (op_32r [.l TB (bs l0)])) 3), .l TB (gl TB (dOf (op_32r [.l TB (bs l0)])) 5)])) 9)])) 0))
(.sT ((isK 0 [.n] (op_35r [.l TB (gl TB (dOf (op_L4_20 [.k 0, .l TB l0, .n (gn (dOf (op_23r [.l TB (bs l0)])) 5), .b ((gn (dOf (op_23r [.l TB (bs l0)])) 5 == (0 : Int)) == gb (dOf (op_24r [.l TB l0])) 5), .n (gn (dOf (op_26r [.l TB (bs l0)])) 5), .b ((gn (dOf (op_26r [.l TB (bs l0)])) 5 == (0 : Int)) == gb (dOf (op_27r [.l TB l0])) 5), .n (gn (dOf (op_28r [.l TB (bs l0)])) 5), .b ((gn (dOf (op_28r [.l TB (bs l0)])) 5 == (0 : Int)) == gb (dOf (op_29r [.l TB l0])) 5), .n (gn (dOf (op_30r [.l TB (bs l0)])) 7), .b ((gn (dOf (op_30r [.l TB (bs l0)])) 7 == (0 : Int)) == gb (dOf (op_31r [.l TB l0])) 7), .n (gn (dOf (op_32r [.l TB (bs l0)])) 4), .b ((gn (dOf (op_32r [.l TB (bs l0)])) 4 == (0 : Int)) == gb (dOf (op_33g [.l TB l0])) 5), .n (0 : Int), .l TB (bs l0), .n (gn (dOf (op_32r [.l TB (bs l0)])) 0), .n (gn (dOf (op_32r [.l TB (bs l0)])) 1), .n (gn (dOf (op_32r [.l TB (bs l0)])) 2), .n (gn (dOf (op_32r [.l TB (bs l0)])) 3), .l TB (gl TB (dOf (op_32r [.l TB (bs l0)])) 5)])) 11)])))
(.pa [1]
(.sT ((isK 0 [.n] (op_36r [.l TB (gl TB (dOf (op_L4_20 [.k 0, .l TB l0, .n (gn (dOf (op_23r [.l TB (bs l0)])) 5), .b ((gn (dOf (op_23r [.l TB (bs l0)])) 5 == (0 : Int)) == gb (dOf (op_24r [.l TB l0])) 5), .n (gn (dOf (op_26r [.l TB (bs l0)])) 5), .b ((gn (dOf (op_26r [.l TB (bs l0)])) 5 == (0 : Int)) == gb (dOf (op_27r [.l TB l0])) 5), .n (gn (dOf (op_28r [.l TB (bs l0)])) 5), .b ((gn (dOf (op_28r [.l TB (bs l0)])) 5 == (0 : Int)) == gb (dOf (op_29r [.l TB l0])) 5), .n (gn (dOf (op_30r [.l TB (bs l0)])) 7), .b ((gn (dOf (op_30r [.l TB (bs l0)])) 7 == (0 : Int)) == gb (dOf (op_31r [.l TB l0])) 7), .n (gn (dOf (op_32r [.l TB (bs l0)])) 4), .b ((gn (dOf (op_32r [.l TB (bs l0)])) 4 == (0 : Int)) == gb (dOf (op_33g [.l TB l0])) 5), .n (0 : Int), .l TB (bs l0), .n (gn (dOf (op_32r [.l TB (bs l0)])) 0), .n (gn (dOf (op_32r [.l TB (bs l0)])) 1), .n (gn (dOf (op_32r [.l TB (bs l0)])) 2), .n (gn (dOf (op_32r [.l TB (bs l0)])) 3), .l TB (gl TB (dOf (op_32r [.l TB (bs l0)])) 5)])) 0)])))
(.pa [1]
(.sT ((gn (dOf (op_35r [.l TB (gl TB (dOf (op_L4_20 [.k 0, .l TB l0, .n (gn (dOf (op_23r [.l TB (bs l0)])) 5), .b ((gn (dOf (op_23r [.l TB (bs l0)])) 5 == (0 : Int)) == gb (dOf (op_24r [.l TB l0])) 5), .n (gn (dOf (op_26r [.l TB (bs l0)])) 5), .b ((gn (dOf (op_26r [.l TB (bs l0)])) 5 == (0 : Int)) == gb (dOf (op_27r [.l TB l0])) 5), .n (gn (dOf (op_28r [.l TB (bs l0)])) 5), .b ((gn (dOf (op_28r [.l TB (bs l0)])) 5 == (0 : Int)) == gb (dOf (op_29r [.l TB l0])) 5), .n (gn (dOf (op_30r [.l TB (bs l0)])) 7), .b ((gn (dOf (op_30r [.l TB (bs l0)])) 7 == (0 : Int)) == gb (dOf (op_31r [.l TB l0])) 7), .n (gn (dOf (op_32r [.l TB (bs l0)])) 4), .b ((gn (dOf (op_32r [.l TB (bs l0)])) 4 == (0 : Int)) == gb (dOf (op_33g [.l TB l0])) 5), .n (0 : Int), .l TB (bs l0), .n (gn (dOf (op_32r [.l TB (bs l0)])) 0), .n (gn (dOf (op_32r [.l TB (bs l0)])) 1), .n (gn (dOf (op_32r [.l TB (bs l0)])) 2), .n (gn (dOf (op_32r [.l TB (bs l0)])) 3), .l TB (gl TB (dOf (op_32r [.l TB (bs l0)])) 5)])) 11)])) 0 == gn (dOf (op_36r [.l TB (gl TB (dOf (op_L4_20 [.k 0, .l TB l0, .n (gn (dOf (op_23r [.l TB (bs l0)])) 5), .b ((gn (dOf (op_23r [.l TB (bs l0)])) 5 == (0 : Int)) == gb (dOf (op_24r [.l TB l0])) 5), .n (gn (dOf (op_26r [.l TB (bs l0)])) 5), .b ((gn (dOf (op_26r [.l TB (bs l0)])) 5 == (0 : Int)) == gb (dOf (op_27r [.l TB l0])) 5), .n (gn (dOf (op_28r [.l TB (bs l0)])) 5), .b ((gn (dOf (op_28r [.l TB (bs l0)])) 5 == (0 : Int)) == gb (dOf (op_29r [.l TB l0])) 5), .n (gn (dOf (op_30r [.l TB (bs l0)])) 7), .b ((gn (dOf (op_30r [.l TB (bs l0)])) 7 == (0 : Int)) == gb (dOf (op_31r [.l TB l0])) 7), .n (gn (dOf (op_32r [.l TB (bs l0)])) 4), .b ((gn (dOf (op_32r [.l TB (bs l0)])) 4 == (0 : Int)) == gb (dOf (op_33g [.l TB l0])) 5), .n (0 : Int), .l TB (bs l0), .n (gn (dOf (op_32r [.l TB (bs l0)])) 0), .n (gn (dOf (op_32r [.l TB (bs l0)])) 1), .n (gn (dOf (op_32r [.l TB (bs l0)])) 2), .n (gn (dOf (op_32r [.l TB (bs l0)])) 3), .l TB (gl TB (dOf (op_32r [.l TB (bs l0)])) 5)])) 0)])) 0))
(.sT ((strEq (strOf (gl TB (dOf (op_L4_20 [.k 0, .l TB l0, .n (gn (dOf (op_23r [.l TB (bs l0)])) 5), .b ((gn (dOf (op_23r [.l TB (bs l0)])) 5 == (0 : Int)) == gb (dOf (op_24r [.l TB l0])) 5), .n (gn (dOf (op_26r [.l TB (bs l0)])) 5), .b ((gn (dOf (op_26r [.l TB (bs l0)])) 5 == (0 : Int)) == gb (dOf (op_27r [.l TB l0])) 5), .n (gn (dOf (op_28r [.l TB (bs l0)])) 5), .b ((gn (dOf (op_28r [.l TB (bs l0)])) 5 == (0 : Int)) == gb (dOf (op_29r [.l TB l0])) 5), .n (gn (dOf (op_30r [.l TB (bs l0)])) 7), .b ((gn (dOf (op_30r [.l TB (bs l0)])) 7 == (0 : Int)) == gb (dOf (op_31r [.l TB l0])) 7), .n (gn (dOf (op_32r [.l TB (bs l0)])) 4), .b ((gn (dOf (op_32r [.l TB (bs l0)])) 4 == (0 : Int)) == gb (dOf (op_33g [.l TB l0])) 5), .n (0 : Int), .l TB (bs l0), .n (gn (dOf (op_32r [.l TB (bs l0)])) 0), .n (gn (dOf (op_32r [.l TB (bs l0)])) 1), .n (gn (dOf (op_32r [.l TB (bs l0)])) 2), .n (gn (dOf (op_32r [.l TB (bs l0)])) 3), .l TB (gl TB (dOf (op_32r [.l TB (bs l0)])) 5)])) 11)) (strOf (gl TB (dOf (op_L4_20 [.k 0, .l TB l0, .n (gn (dOf (op_23r [.l TB (bs l0)])) 5), .b ((gn (dOf (op_23r [.l TB (bs l0)])) 5 == (0 : Int)) == gb (dOf (op_24r [.l TB l0])) 5), .n (gn (dOf (op_26r [.l TB (bs l0)])) 5), .b ((gn (dOf (op_26r [.l TB (bs l0)])) 5 == (0 : Int)) == gb (dOf (op_27r [.l TB l0])) 5), .n (gn (dOf (op_28r [.l TB (bs l0)])) 5), .b ((gn (dOf (op_28r [.l TB (bs l0)])) 5 == (0 : Int)) == gb (dOf (op_29r [.l TB l0])) 5), .n (gn (dOf (op_30r [.l TB (bs l0)])) 7), .b ((gn (dOf (op_30r [.l TB (bs l0)])) 7 == (0 : Int)) == gb (dOf (op_31r [.l TB l0])) 7), .n (gn (dOf (op_32r [.l TB (bs l0)])) 4), .b ((gn (dOf (op_32r [.l TB (bs l0)])) 4 == (0 : Int)) == gb (dOf (op_33g [.l TB l0])) 5), .n (0 : Int), .l TB (bs l0), .n (gn (dOf (op_32r [.l TB (bs l0)])) 0), .n (gn (dOf (op_32r [.l TB (bs l0)])) 1), .n (gn (dOf (op_32r [.l TB (bs l0)])) 2), .n (gn (dOf (op_32r [.l TB (bs l0)])) 3), .l TB (gl TB (dOf (op_32r [.l TB (bs l0)])) 5)])) 0))))
(.pa [1,1,1]
.lf))))))))))))))))))))))))))))))))))))))))))))))))))
end Go.Proofs.Ytlambinleegdoaa.Vx
