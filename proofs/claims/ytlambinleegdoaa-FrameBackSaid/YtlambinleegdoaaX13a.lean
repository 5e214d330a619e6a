import Derived.Test.YtlambinleegdoaaVxNil
import Derived.Test.YtlambinleegdoaaProg
import Derived.KernelRfl
namespace Go.Proofs.Ytlambinleegdoaa.Vx
open Go Go.RowKit
set_option linter.unusedVariables false
set_option maxRecDepth 100000
set_option maxHeartbeats 0

abbrev TB : Ty := .int .u8
abbrev TN : Ty := .int .u32
theorem hmix : Try.prog.follows .mixedOrders = true := by kernel_rfl
theorem csNone_ok0 : CsOk Try.prog csNone := csNone_ok _

def fn_19 : List Dat → Tree (Nat × List Dat)
  | [.n n0] =>
    (.node (iand IntKind.u32 n0 (1 : Int) == (0 : Int))
     (.leaf ((0, [.n (ishr IntKind.u32 n0 (1 : Int))])))
     (.leaf ((0, [.n (ixor IntKind.u32 (ishr IntKind.u32 n0 (1 : Int)) (3988292384 : Int))]))))
  | _ => .bad 0
def op_19 : List Dat → Option (Nat × List Dat) := fun env => (fn_19 env).sel
def B19 : FBox := (mkF [.int .u32 0] [] [] [(.int .u32 0, [])] op_19)
def cs_19 : FuncId → Option CSpec := csLend 98 B19 csNone
theorem fn_19_eq (n0 : Int) : (boxC false Try.prog csNone 98 ls0 (mkF [.int .u32 0] [] [] [(.int .u32 0, [])] fun _ => none) [.n n0]).sel = (fn_19 [.n n0]).sel := by kernel_rfl
theorem fn_19_ok (env : List Dat) (y : Nat × List Dat) (h : (fn_19 env).sel = some y) : (boxC false Try.prog csNone 98 ls0 (mkF [.int .u32 0] [] [] [(.int .u32 0, [])] fun _ => none) env).sel = some y := by
  unfold fn_19 at h
  split at h
  · rw [fn_19_eq]; exact h
  · cases h
theorem B19_ok : RunOk Try.prog 98 (boxRun B19) := mkF_ok (op := op_19) csNone_ok0 hmix false (LsOk.none _ _ _) fn_19_ok
theorem cs_19_ok : CsOk Try.prog cs_19 := csLend_ok csNone_ok0 B19_ok

def fn_L12_3 : List Dat → Tree Step
  | [.n n0, .l (Ty.int IntKind.u8) l1, .n n2, .n n3] =>
    (.node (decide (n3 < n2))
     (.node (inR n3 (List.length l1))
      (let r1 : Option (Nat × List Dat) := (op_19 [.n (ixor IntKind.u32 n0 (IntKind.wrap .u32 (List.getD l1 (Int.toNat n3) (0 : Int))))]);
       (.node (isK 0 [HK.n] r1)
        (let r2 : Option (Nat × List Dat) := (op_19 [.n (gn (dOf r1) 0)]);
         (.node (isK 0 [HK.n] r2)
          (let r3 : Option (Nat × List Dat) := (op_19 [.n (gn (dOf r2) 0)]);
           (.node (isK 0 [HK.n] r3)
            (let r4 : Option (Nat × List Dat) := (op_19 [.n (gn (dOf r3) 0)]);
             (.node (isK 0 [HK.n] r4)
              (let r5 : Option (Nat × List Dat) := (op_19 [.n (gn (dOf r4) 0)]);
               (.node (isK 0 [HK.n] r5)
                (let r6 : Option (Nat × List Dat) := (op_19 [.n (gn (dOf r5) 0)]);
                 (.node (isK 0 [HK.n] r6)
                  (let r7 : Option (Nat × List Dat) := (op_19 [.n (gn (dOf r6) 0)]);
                   (.node (isK 0 [HK.n] r7)
                    (let r8 : Option (Nat × List Dat) := (op_19 [.n (gn (dOf r7) 0)]);
                     (.node (isK 0 [HK.n] r8)
                      (.leaf (Step.go [.n (gn (dOf r8) 0), .l (Ty.int IntKind.u8) l1, .n n2, .n (IntKind.wrap .i64 (n3 + (1 : Int)))]))
                      (.bad 351)))
                    (.bad 351)))
                  (.bad 351)))
                (.bad 351)))
              (.bad 351)))
            (.bad 351)))
          (.bad 351)))
        (.bad 351)))
      (.bad 10))
     (.leaf (Step.stop 0 [.n n0])))
  | _ => .bad 0
def op_L12_3 : List Dat → Option (Nat × List Dat) := iterS fn_L12_3 FU
def L12_3 : LBox := (mkL 0 [] (sh 20 [(3, .int .u32 0), (6, .imm TB 1), (7, .int .i64 2), (8, .int .i64 3)]) [] [] [(.exit 0, sh 20 [(3, .int .u32 0)], [])] op_L12_3)
theorem fn_L12_3_eq (n0 : Int) (l1 : List (Ty.den (Ty.int IntKind.u8))) (n2 : Int) (n3 : Int) : (stepC false Try.prog cs_19 86 3 ls0 (mkL 0 [] (sh 20 [(3, .int .u32 0), (6, .imm TB 1), (7, .int .i64 2), (8, .int .i64 3)]) [] [] [(.exit 0, sh 20 [(3, .int .u32 0)], [])] fun _ => none) [.n n0, .l (Ty.int IntKind.u8) l1, .n n2, .n n3]).sel = (fn_L12_3 [.n n0, .l (Ty.int IntKind.u8) l1, .n n2, .n n3]).sel := by kernel_rfl
theorem fn_L12_3_ok (env : List Dat) (y : Step) (h : (fn_L12_3 env).sel = some y) : (stepC false Try.prog cs_19 86 3 ls0 (mkL 0 [] (sh 20 [(3, .int .u32 0), (6, .imm TB 1), (7, .int .i64 2), (8, .int .i64 3)]) [] [] [(.exit 0, sh 20 [(3, .int .u32 0)], [])] fun _ => none) env).sel = some y := by
  unfold fn_L12_3 at h
  split at h
  · rw [fn_L12_3_eq]; exact h
  · cases h
theorem L12_3_ok (K : Nat) : LsOk Try.prog K (lsTab [(3, L12_3)] K) (bodyOf Try.prog 86) := mkL_ok (st := fn_L12_3) (m := FU) cs_19_ok hmix false (by kernel_rfl) (by kernel_rfl) fn_L12_3_ok
theorem L12_3_run : ∀ t s x, (loopRun L12_3 t s).sel = some x → CodeOk Try.prog 0 (.loop (cAt Try.prog 86 3)) t s x := mkLs_ok (st := fn_L12_3) (m := FU) cs_19_ok hmix false (LsOk.none _ _ _) (by kernel_rfl) fn_L12_3_ok

def fn_12 : List Dat → Tree (Nat × List Dat)
  | [.l (Ty.int IntKind.u8) l0] =>
    (let r1 : Option (Nat × List Dat) := (op_L12_3 [.n (4294967295 : Int), .l (Ty.int IntKind.u8) l0, .n (↑(List.length l0) : Int), .n (0 : Int)]);
     (.node (isK 0 [HK.n] r1)
      (.leaf ((0, [.n (ixor IntKind.u32 (4294967295 : Int) (gn (dOf r1) 0))])))
      (.bad 351)))
  | _ => .bad 0
def op_12 : List Dat → Option (Nat × List Dat) := fun env => (fn_12 env).sel
def B12 : FBox := (mkF [.imm TB 0] [] [] [(.int .u32 0, [])] op_12)
def cs_12 : FuncId → Option CSpec := csLend 86 B12 cs_19
theorem fn_12_eq (l0 : List (Ty.den (Ty.int IntKind.u8))) : (boxC false Try.prog cs_19 86 (lsTab [(3, L12_3)] (List.length ([] : List PB))) (mkF [.imm TB 0] [] [] [(.int .u32 0, [])] fun _ => none) [.l (Ty.int IntKind.u8) l0]).sel = (fn_12 [.l (Ty.int IntKind.u8) l0]).sel := by kernel_rfl
theorem fn_12_ok (env : List Dat) (y : Nat × List Dat) (h : (fn_12 env).sel = some y) : (boxC false Try.prog cs_19 86 (lsTab [(3, L12_3)] (List.length ([] : List PB))) (mkF [.imm TB 0] [] [] [(.int .u32 0, [])] fun _ => none) env).sel = some y := by
  unfold fn_12 at h
  split at h
  · rw [fn_12_eq]; exact h
  · cases h
theorem B12_ok : RunOk Try.prog 86 (boxRun B12) := mkF_ok (op := op_12) cs_19_ok hmix false (L12_3_ok _) fn_12_ok
theorem cs_12_ok : CsOk Try.prog cs_12 := csLend_ok cs_19_ok B12_ok

def fn_L20_8_0 : List Dat → Tree Step
  | [.n n0, .l (Ty.int IntKind.u8) l1, .n n2, .n n3, .n n4, .l (Ty.int IntKind.u32) l5] =>
    (.node (decide (n4 < (8 : Int)))
     (.node (!decide (n4 < (0 : Int)))
      (.node (iand IntKind.u8 (ishr IntKind.u8 n3 n4) (1 : Int) == (1 : Int))
       (.node (inR n4 (List.length l5))
        (.leaf (Step.go [.k 0, .n (ixor IntKind.u32 n0 (List.getD l5 (Int.toNat n4) (0 : Int))), .l (Ty.int IntKind.u8) l1, .n n2, .n n3, .n (IntKind.wrap .i64 (n4 + (1 : Int))), .l (Ty.int IntKind.u32) l5]))
        (.bad 12))
       (.leaf (Step.go [.k 0, .n n0, .l (Ty.int IntKind.u8) l1, .n n2, .n n3, .n (IntKind.wrap .i64 (n4 + (1 : Int))), .l (Ty.int IntKind.u32) l5])))
      (.bad 83))
     (.leaf (Step.stop 0 [.n n0, .l (Ty.int IntKind.u8) l1, .n n2, .l (Ty.int IntKind.u32) l5])))
  | _ => .bad 0
def fn_L20_8 : List Dat → Tree Step
  | .k 0 :: d => fn_L20_8_0 d
  | _ => .bad 0
def op_L20_8 : List Dat → Option (Nat × List Dat) := iterS fn_L20_8 FU
def L20_8 : MBox := (mkM 0 [] [(sh 41 [(0, .int .u32 0), (1, .imm TB 1), (5, .own 0), (6, .int .i64 2), (7, .int .u8 3), (8, .int .i64 4)], [.arr TN 5])] [] [(.exit 2, sh 41 [(0, .int .u32 0), (1, .imm TB 1), (5, .own 0), (6, .int .i64 2)], [.arr TN 3])] op_L20_8)
theorem fn_L20_8_0_eq (n0 : Int) (l1 : List (Ty.den (Ty.int IntKind.u8))) (n2 : Int) (n3 : Int) (n4 : Int) (l5 : List (Ty.den (Ty.int IntKind.u32))) : ((fun (d : List Dat) => stepMC false Try.prog cs_12 91 8 ls0 (mkM 0 [] [(sh 41 [(0, .int .u32 0), (1, .imm TB 1), (5, .own 0), (6, .int .i64 2), (7, .int .u8 3), (8, .int .i64 4)], [.arr TN 5])] [] [(.exit 2, sh 41 [(0, .int .u32 0), (1, .imm TB 1), (5, .own 0), (6, .int .i64 2)], [.arr TN 3])] fun _ => none) (.k 0 :: d)) [.n n0, .l (Ty.int IntKind.u8) l1, .n n2, .n n3, .n n4, .l (Ty.int IntKind.u32) l5]).sel = (fn_L20_8_0 [.n n0, .l (Ty.int IntKind.u8) l1, .n n2, .n n3, .n n4, .l (Ty.int IntKind.u32) l5]).sel := by kernel_rfl
theorem fn_L20_8_0_ok (env : List Dat) (y : Step) (h : (fn_L20_8_0 env).sel = some y) : ((fun (d : List Dat) => stepMC false Try.prog cs_12 91 8 ls0 (mkM 0 [] [(sh 41 [(0, .int .u32 0), (1, .imm TB 1), (5, .own 0), (6, .int .i64 2), (7, .int .u8 3), (8, .int .i64 4)], [.arr TN 5])] [] [(.exit 2, sh 41 [(0, .int .u32 0), (1, .imm TB 1), (5, .own 0), (6, .int .i64 2)], [.arr TN 3])] fun _ => none) (.k 0 :: d)) env).sel = some y := by
  unfold fn_L20_8_0 at h
  split at h
  · rw [fn_L20_8_0_eq]; exact h
  · cases h
theorem fn_L20_8_ok (env : List Dat) (y : Step) (h : (fn_L20_8 env).sel = some y) : (stepMC false Try.prog cs_12 91 8 ls0 (mkM 0 [] [(sh 41 [(0, .int .u32 0), (1, .imm TB 1), (5, .own 0), (6, .int .i64 2), (7, .int .u8 3), (8, .int .i64 4)], [.arr TN 5])] [] [(.exit 2, sh 41 [(0, .int .u32 0), (1, .imm TB 1), (5, .own 0), (6, .int .i64 2)], [.arr TN 3])] fun _ => none) env).sel = some y := by
  unfold fn_L20_8 at h
  split at h
  · exact fn_L20_8_0_ok _ _ h
  · cases h
theorem L20_8_run : ∀ t s x, (manyRun L20_8 t s).sel = some x → CodeOk Try.prog 0 (.loop (cAt Try.prog 91 8)) t s x := mkM_ok (st := fn_L20_8) (m := FU) cs_12_ok hmix false (LsOk.none _ _ _) (by kernel_rfl) fn_L20_8_ok

def fn_L20_3_0 : List Dat → Tree Step
  | [.n n0, .l (Ty.int IntKind.u8) l1, .n n2, .l (Ty.int IntKind.u32) l3] =>
    (.node (decide (n2 < (↑(List.length l1) : Int)))
     (.node (inR n2 (List.length l1))
      (let r1 : Option (Nat × List Dat) := (op_L20_8 [.k 0, .n (ishr IntKind.u32 n0 (8 : Int)), .l (Ty.int IntKind.u8) l1, .n n2, .n (ixor IntKind.u8 (IntKind.wrap .u8 n0) (List.getD l1 (Int.toNat n2) (0 : Int))), .n (0 : Int), .l (Ty.int IntKind.u32) l3]);
       (.node (isK 0 [HK.n, HK.l (Ty.int IntKind.u8), HK.n, HK.l (Ty.int IntKind.u32)] r1)
        (.leaf (Step.go [.k 0, .n (gn (dOf r1) 0), .l (Ty.int IntKind.u8) (gl (Ty.int IntKind.u8) (dOf r1) 1), .n (IntKind.wrap .i64 (gn (dOf r1) 2 + (1 : Int))), .l (Ty.int IntKind.u32) (gl (Ty.int IntKind.u32) (dOf r1) 3)]))
        (.bad 351)))
      (.bad 10))
     (.leaf (Step.stop 0 [.n n0])))
  | _ => .bad 0
def fn_L20_3 : List Dat → Tree Step
  | .k 0 :: d => fn_L20_3_0 d
  | _ => .bad 0
def op_L20_3 : List Dat → Option (Nat × List Dat) := iterS fn_L20_3 FU
def L20_3 : MBox := (mkM 0 [] [(sh 41 [(0, .int .u32 0), (1, .imm TB 1), (5, .own 0), (6, .int .i64 2)], [.arr TN 3])] [] [(.exit 0, sh 41 [(0, .int .u32 0)], [])] op_L20_3)
theorem fn_L20_3_0_eq (n0 : Int) (l1 : List (Ty.den (Ty.int IntKind.u8))) (n2 : Int) (l3 : List (Ty.den (Ty.int IntKind.u32))) : ((fun (d : List Dat) => stepMC false Try.prog cs_12 91 3 (lsM [(8, L20_8)] 0) (mkM 0 [] [(sh 41 [(0, .int .u32 0), (1, .imm TB 1), (5, .own 0), (6, .int .i64 2)], [.arr TN 3])] [] [(.exit 0, sh 41 [(0, .int .u32 0)], [])] fun _ => none) (.k 0 :: d)) [.n n0, .l (Ty.int IntKind.u8) l1, .n n2, .l (Ty.int IntKind.u32) l3]).sel = (fn_L20_3_0 [.n n0, .l (Ty.int IntKind.u8) l1, .n n2, .l (Ty.int IntKind.u32) l3]).sel := by kernel_rfl
theorem fn_L20_3_0_ok (env : List Dat) (y : Step) (h : (fn_L20_3_0 env).sel = some y) : ((fun (d : List Dat) => stepMC false Try.prog cs_12 91 3 (lsM [(8, L20_8)] 0) (mkM 0 [] [(sh 41 [(0, .int .u32 0), (1, .imm TB 1), (5, .own 0), (6, .int .i64 2)], [.arr TN 3])] [] [(.exit 0, sh 41 [(0, .int .u32 0)], [])] fun _ => none) (.k 0 :: d)) env).sel = some y := by
  unfold fn_L20_3_0 at h
  split at h
  · rw [fn_L20_3_0_eq]; exact h
  · cases h
theorem fn_L20_3_ok (env : List Dat) (y : Step) (h : (fn_L20_3 env).sel = some y) : (stepMC false Try.prog cs_12 91 3 (lsM [(8, L20_8)] 0) (mkM 0 [] [(sh 41 [(0, .int .u32 0), (1, .imm TB 1), (5, .own 0), (6, .int .i64 2)], [.arr TN 3])] [] [(.exit 0, sh 41 [(0, .int .u32 0)], [])] fun _ => none) env).sel = some y := by
  unfold fn_L20_3 at h
  split at h
  · exact fn_L20_3_0_ok _ _ h
  · cases h
theorem L20_3_in : LsOk Try.prog 0 (lsM [(8, L20_8)] 0) (cAt Try.prog 91 3) := LsOk.many fun j B hB hk c hc hi => by
  simp only [lookM] at hB
  split at hB
  · rename_i e; have := Nat.eq_of_beq_eq_true e; subst this; cases hB
    have e1 : loopsAt (cAt Try.prog 91 3) 8 = [cAt Try.prog 91 8] := by kernel_rfl
    have e2 := loopsAt_mem hc hi
    rw [e1] at e2; cases List.mem_singleton.1 e2; exact L20_8_run
  cases hB
theorem L20_3_run : ∀ t s x, (manyRun L20_3 t s).sel = some x → CodeOk Try.prog 0 (.loop (cAt Try.prog 91 3)) t s x := mkM_ok (st := fn_L20_3) (m := FU) cs_12_ok hmix false (L20_3_in) (by kernel_rfl) fn_L20_3_ok

theorem ls_20_ok : LsOk Try.prog (List.length ([] : List PB)) (lsM [(3, L20_3)] (List.length ([] : List PB))) (bodyOf Try.prog 91) := LsOk.many fun j B hB hk c hc hi => by
  simp only [lookM] at hB
  split at hB
  · rename_i e; have := Nat.eq_of_beq_eq_true e; subst this; cases hB
    have e1 : loopAt Try.prog 91 3 = [cAt Try.prog 91 3] := loopAt_one (by kernel_rfl)
    have e2 : c ∈ loopAt Try.prog 91 3 := loopsAt_mem hc hi
    rw [e1] at e2; cases List.mem_singleton.1 e2; exact L20_3_run
  cases hB

def fn_20 : List Dat → Tree (Nat × List Dat)
  | [.n n0, .l (Ty.int IntKind.u8) l1] =>
    (let r1 : Option (Nat × List Dat) := (op_L20_3 [.k 0, .n n0, .l (Ty.int IntKind.u8) l1, .n (0 : Int), .l (Ty.int IntKind.u32) [(1996959894 : Int), (3993919788 : Int), (124634137 : Int), (249268274 : Int), (498536548 : Int), (997073096 : Int), (1994146192 : Int), (3988292384 : Int)]]);
     (.node (isK 0 [HK.n] r1)
      (.leaf ((0, [.n (gn (dOf r1) 0)])))
      (.bad 351)))
  | _ => .bad 0
def op_20 : List Dat → Option (Nat × List Dat) := fun env => (fn_20 env).sel
def B20 : FBox := (mkF [.int .u32 0, .imm TB 1] [] [] [(.int .u32 0, [])] op_20)
def cs_20 : FuncId → Option CSpec := csLend 91 B20 cs_12
theorem fn_20_eq (n0 : Int) (l1 : List (Ty.den (Ty.int IntKind.u8))) : (boxC false Try.prog cs_12 91 (lsM [(3, L20_3)] (List.length ([] : List PB))) (mkF [.int .u32 0, .imm TB 1] [] [] [(.int .u32 0, [])] fun _ => none) [.n n0, .l (Ty.int IntKind.u8) l1]).sel = (fn_20 [.n n0, .l (Ty.int IntKind.u8) l1]).sel := by kernel_rfl
theorem fn_20_ok (env : List Dat) (y : Nat × List Dat) (h : (fn_20 env).sel = some y) : (boxC false Try.prog cs_12 91 (lsM [(3, L20_3)] (List.length ([] : List PB))) (mkF [.int .u32 0, .imm TB 1] [] [] [(.int .u32 0, [])] fun _ => none) env).sel = some y := by
  unfold fn_20 at h
  split at h
  · rw [fn_20_eq]; exact h
  · cases h
theorem B20_ok : RunOk Try.prog 91 (boxRun B20) := mkF_ok (op := op_20) cs_12_ok hmix false (ls_20_ok) fn_20_ok
theorem cs_20_ok : CsOk Try.prog cs_20 := csLend_ok cs_12_ok B20_ok

def fn_13 : List Dat → Tree (Nat × List Dat)
  | [.l (Ty.int IntKind.u8) l0] =>
    (let r1 : Option (Nat × List Dat) := (op_20 [.n (4294967295 : Int), .l (Ty.int IntKind.u8) l0]);
     (.node (isK 0 [HK.n] r1)
      (.leaf ((0, [.n (ixor IntKind.u32 (4294967295 : Int) (gn (dOf r1) 0))])))
      (.bad 351)))
  | _ => .bad 0
def op_13 : List Dat → Option (Nat × List Dat) := fun env => (fn_13 env).sel
def B13 : FBox := (mkF [.imm TB 0] [] [] [(.int .u32 0, [])] op_13)
def cs_13 : FuncId → Option CSpec := csLend 73 B13 cs_20
theorem fn_13_eq (l0 : List (Ty.den (Ty.int IntKind.u8))) : (boxC false Try.prog cs_20 73 ls0 (mkF [.imm TB 0] [] [] [(.int .u32 0, [])] fun _ => none) [.l (Ty.int IntKind.u8) l0]).sel = (fn_13 [.l (Ty.int IntKind.u8) l0]).sel := by kernel_rfl
theorem fn_13_ok (env : List Dat) (y : Nat × List Dat) (h : (fn_13 env).sel = some y) : (boxC false Try.prog cs_20 73 ls0 (mkF [.imm TB 0] [] [] [(.int .u32 0, [])] fun _ => none) env).sel = some y := by
  unfold fn_13 at h
  split at h
  · rw [fn_13_eq]; exact h
  · cases h
theorem B13_ok : RunOk Try.prog 73 (boxRun B13) := mkF_ok (op := op_13) cs_20_ok hmix false (LsOk.none _ _ _) fn_13_ok
theorem cs_13_ok : CsOk Try.prog cs_13 := csLend_ok cs_20_ok B13_ok

def okc_31 (l : List (Ty.den TB)) : Bool := decide ((0 + l.length) * 1 ≤ 140737488355328)
def op_31 : List Dat → Option (Nat × List Dat) := cloneOp TB okc_31
def B31 : FBox := mkF [.imm TB 0] [] [] [(.own 0, [.arr TB 0])] op_31
def cs_31 : FuncId → Option CSpec := csLend 94 B31 cs_13
theorem B31_ok : RunOk Try.prog 94 (boxRun B31) :=
  clone_ok (P := Try.prog) (cl := clMd true Try.prog csNone) (clMd_ok csNone_ok0 hmix true) hmix (T := 38) (e := 5) (n := 400) (fn := Try.f94) (by kernel_rfl) (by kernel_rfl) (by kernel_rfl) (by kernel_rfl) TB okc_31
    (fun l => [.imm TB l, .undef, .nilsl, .undef, .undef, .undef, .undef, .undef]) (fun l => [.imm TB l, .undef, .nilsl, .imm TB l, .bool true, .undef, .undef, .undef])
    (fun l => [.imm TB l, .undef, .own 0 1, .imm TB l, .bool false, .own 0 0, .imm TB l, .own 0 1]) (fun l => ⟨[.arr TB 1 l], [0]⟩) (fun l => .own 0 1)
    (fun l => by kernel_rfl) (fun l => rfl) (fun l => rfl) (fun l => by kernel_rfl) (fun l => by kernel_rfl) (fun l => by kernel_rfl) (fun l => by kernel_rfl) (fun l => by kernel_rfl) (fun l => by kernel_rfl) (by kernel_rfl)
theorem cs_31_ok : CsOk Try.prog cs_31 := csLend_ok cs_13_ok B31_ok
theorem op_31_is (l : List (Ty.den TB)) (h : l.length * 1 ≤ 140737488355328) : op_31 [.l TB l] = some (0, [.l TB l]) := by
  unfold op_31 cloneOp
  simp only [castL_self]
  have : okc_31 l = true := decide_eq_true (by omega)
  rw [this]; rfl

def op_9 : List Dat → Option (Nat × List Dat) := fun _ => some (0, [.b true])
def B9 : FBox := (mkF [] [] [] [(.bool 0, [])] op_9)
def cs_9 : FuncId → Option CSpec := csAdd 8 [B9] cs_31
theorem fn_9_ok (env : List Dat) (y : Nat × List Dat) (h : op_9 env = some y) : (boxC true Try.prog cs_31 8 ls0 (mkF [] [] [] [(.bool 0, [])] fun _ => none) env).sel = some y := by
  cases h
  kernel_rfl
theorem B9_ok : RunOk Try.prog 8 (boxRun B9) := mkF_ok (op := op_9) cs_31_ok hmix true (LsOk.none _ _ _) fn_9_ok
theorem cs_9_ok : CsOk Try.prog cs_9 := csAdd_ok cs_31_ok fun B hB => by
  cases List.mem_singleton.1 hB
  exact B9_ok
end Go.Proofs.Ytlambinleegdoaa.Vx
