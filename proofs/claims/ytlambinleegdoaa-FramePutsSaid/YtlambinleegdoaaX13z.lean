import Derived.Test.YtlambinleegdoaaVxNil
import Derived.Test.YtlambinleegdoaaProg
import Derived.KernelRfl
import Derived.Test.YtlambinleegdoaaVxIm
import Derived.Test.YtlambinleegdoaaVxLk
import Derived.Test.YtlambinleegdoaaVxLaw
namespace Go.Proofs.Ytlambinleegdoaa.Vx
open Go Go.RowKit
set_option linter.unusedVariables false
set_option maxRecDepth 100000
set_option maxHeartbeats 0

abbrev TB : Ty := .int .u8
abbrev TN : Ty := .int .u32
theorem hmix : Try.prog.follows .mixedOrders = true := by kernel_rfl
theorem csNone_ok0 : CsOk Try.prog csNone := csNone_ok _

def fn_19 : List Dat → Tree (Nat × List Dat)
  | [.n n0] =>
    (.node (iand IntKind.u32 n0 (1 : Int) == (0 : Int))
     (.leaf ((0, [.n (ishr IntKind.u32 n0 (1 : Int))])))
     (.leaf ((0, [.n (ixor IntKind.u32 (ishr IntKind.u32 n0 (1 : Int)) (3988292384 : Int))]))))
  | _ => .bad 0
def op_19 : List Dat → Option (Nat × List Dat) := fun env => (fn_19 env).sel
def B19 : FBox := (mkF [.int .u32 0] [] [] [(.int .u32 0, [])] op_19)
def cs_19 : FuncId → Option CSpec := csLend 98 B19 csNone
theorem fn_19_eq (n0 : Int) : (boxC false Try.prog csNone 98 ls0 (mkF [.int .u32 0] [] [] [(.int .u32 0, [])] fun _ => none) [.n n0]).sel = (fn_19 [.n n0]).sel := by kernel_rfl
theorem fn_19_ok (env : List Dat) (y : Nat × List Dat) (h : (fn_19 env).sel = some y) : (boxC false Try.prog csNone 98 ls0 (mkF [.int .u32 0] [] [] [(.int .u32 0, [])] fun _ => none) env).sel = some y := by
  unfold fn_19 at h
  split at h
  · rw [fn_19_eq]; exact h
  · cases h
theorem B19_ok : RunOk Try.prog 98 (boxRun B19) := mkF_ok (op := op_19) csNone_ok0 hmix false (LsOk.none _ _ _) fn_19_ok
theorem cs_19_ok : CsOk Try.prog cs_19 := csLend_ok csNone_ok0 B19_ok

def fn_L12_3 : List Dat → Tree Step
  | [.n n0, .l (Ty.int IntKind.u8) l1, .n n2, .n n3] =>
    (.node (decide (n3 < n2))
     (.node (inR n3 (List.length l1))
      (let r1 : Option (Nat × List Dat) := (op_19 [.n (ixor IntKind.u32 n0 (IntKind.wrap .u32 (List.getD l1 (Int.toNat n3) (0 : Int))))]);
       (.node (isK 0 [HK.n] r1)
        (let r2 : Option (Nat × List Dat) := (op_19 [.n (gn (dOf r1) 0)]);
         (.node (isK 0 [HK.n] r2)
          (let r3 : Option (Nat × List Dat) := (op_19 [.n (gn (dOf r2) 0)]);
           (.node (isK 0 [HK.n] r3)
            (let r4 : Option (Nat × List Dat) := (op_19 [.n (gn (dOf r3) 0)]);
             (.node (isK 0 [HK.n] r4)
              (let r5 : Option (Nat × List Dat) := (op_19 [.n (gn (dOf r4) 0)]);
               (.node (isK 0 [HK.n] r5)
                (let r6 : Option (Nat × List Dat) := (op_19 [.n (gn (dOf r5) 0)]);
                 (.node (isK 0 [HK.n] r6)
                  (let r7 : Option (Nat × List Dat) := (op_19 [.n (gn (dOf r6) 0)]);
                   (.node (isK 0 [HK.n] r7)
                    (let r8 : Option (Nat × List Dat) := (op_19 [.n (gn (dOf r7) 0)]);
                     (.node (isK 0 [HK.n] r8)
                      (.leaf (Step.go [.n (gn (dOf r8) 0), .l (Ty.int IntKind.u8) l1, .n n2, .n (IntKind.wrap .i64 (n3 + (1 : Int)))]))
                      (.bad 351)))
                    (.bad 351)))
                  (.bad 351)))
                (.bad 351)))
              (.bad 351)))
            (.bad 351)))
          (.bad 351)))
        (.bad 351)))
      (.bad 10))
     (.leaf (Step.stop 0 [.n n0])))
  | _ => .bad 0
def op_L12_3 : List Dat → Option (Nat × List Dat) := iterS fn_L12_3 FU
def L12_3 : LBox := (mkL 0 [] (sh 20 [(3, .int .u32 0), (6, .imm TB 1), (7, .int .i64 2), (8, .int .i64 3)]) [] [] [(.exit 0, sh 20 [(3, .int .u32 0)], [])] op_L12_3)
theorem fn_L12_3_eq (n0 : Int) (l1 : List (Ty.den (Ty.int IntKind.u8))) (n2 : Int) (n3 : Int) : (stepC false Try.prog cs_19 86 3 ls0 (mkL 0 [] (sh 20 [(3, .int .u32 0), (6, .imm TB 1), (7, .int .i64 2), (8, .int .i64 3)]) [] [] [(.exit 0, sh 20 [(3, .int .u32 0)], [])] fun _ => none) [.n n0, .l (Ty.int IntKind.u8) l1, .n n2, .n n3]).sel = (fn_L12_3 [.n n0, .l (Ty.int IntKind.u8) l1, .n n2, .n n3]).sel := by kernel_rfl
theorem fn_L12_3_ok (env : List Dat) (y : Step) (h : (fn_L12_3 env).sel = some y) : (stepC false Try.prog cs_19 86 3 ls0 (mkL 0 [] (sh 20 [(3, .int .u32 0), (6, .imm TB 1), (7, .int .i64 2), (8, .int .i64 3)]) [] [] [(.exit 0, sh 20 [(3, .int .u32 0)], [])] fun _ => none) env).sel = some y := by
  unfold fn_L12_3 at h
  split at h
  · rw [fn_L12_3_eq]; exact h
  · cases h
theorem L12_3_ok (K : Nat) : LsOk Try.prog K (lsTab [(3, L12_3)] K) (bodyOf Try.prog 86) := mkL_ok (st := fn_L12_3) (m := FU) cs_19_ok hmix false (by kernel_rfl) (by kernel_rfl) fn_L12_3_ok
theorem L12_3_run : ∀ t s x, (loopRun L12_3 t s).sel = some x → CodeOk Try.prog 0 (.loop (cAt Try.prog 86 3)) t s x := mkLs_ok (st := fn_L12_3) (m := FU) cs_19_ok hmix false (LsOk.none _ _ _) (by kernel_rfl) fn_L12_3_ok

def fn_12 : List Dat → Tree (Nat × List Dat)
  | [.l (Ty.int IntKind.u8) l0] =>
    (let r1 : Option (Nat × List Dat) := (op_L12_3 [.n (4294967295 : Int), .l (Ty.int IntKind.u8) l0, .n (↑(List.length l0) : Int), .n (0 : Int)]);
     (.node (isK 0 [HK.n] r1)
      (.leaf ((0, [.n (ixor IntKind.u32 (4294967295 : Int) (gn (dOf r1) 0))])))
      (.bad 351)))
  | _ => .bad 0
def op_12 : List Dat → Option (Nat × List Dat) := fun env => (fn_12 env).sel
def B12 : FBox := (mkF [.imm TB 0] [] [] [(.int .u32 0, [])] op_12)
def cs_12 : FuncId → Option CSpec := csLend 86 B12 cs_19
theorem fn_12_eq (l0 : List (Ty.den (Ty.int IntKind.u8))) : (boxC false Try.prog cs_19 86 (lsTab [(3, L12_3)] (List.length ([] : List PB))) (mkF [.imm TB 0] [] [] [(.int .u32 0, [])] fun _ => none) [.l (Ty.int IntKind.u8) l0]).sel = (fn_12 [.l (Ty.int IntKind.u8) l0]).sel := by kernel_rfl
theorem fn_12_ok (env : List Dat) (y : Nat × List Dat) (h : (fn_12 env).sel = some y) : (boxC false Try.prog cs_19 86 (lsTab [(3, L12_3)] (List.length ([] : List PB))) (mkF [.imm TB 0] [] [] [(.int .u32 0, [])] fun _ => none) env).sel = some y := by
  unfold fn_12 at h
  split at h
  · rw [fn_12_eq]; exact h
  · cases h
theorem B12_ok : RunOk Try.prog 86 (boxRun B12) := mkF_ok (op := op_12) cs_19_ok hmix false (L12_3_ok _) fn_12_ok
theorem cs_12_ok : CsOk Try.prog cs_12 := csLend_ok cs_19_ok B12_ok

def fn_L20_8_0 : List Dat → Tree Step
  | [.n n0, .l (Ty.int IntKind.u8) l1, .n n2, .n n3, .n n4, .l (Ty.int IntKind.u32) l5] =>
    (.node (decide (n4 < (8 : Int)))
     (.node (!decide (n4 < (0 : Int)))
      (.node (iand IntKind.u8 (ishr IntKind.u8 n3 n4) (1 : Int) == (1 : Int))
       (.node (inR n4 (List.length l5))
        (.leaf (Step.go [.k 0, .n (ixor IntKind.u32 n0 (List.getD l5 (Int.toNat n4) (0 : Int))), .l (Ty.int IntKind.u8) l1, .n n2, .n n3, .n (IntKind.wrap .i64 (n4 + (1 : Int))), .l (Ty.int IntKind.u32) l5]))
        (.bad 12))
       (.leaf (Step.go [.k 0, .n n0, .l (Ty.int IntKind.u8) l1, .n n2, .n n3, .n (IntKind.wrap .i64 (n4 + (1 : Int))), .l (Ty.int IntKind.u32) l5])))
      (.bad 83))
     (.leaf (Step.stop 0 [.n n0, .l (Ty.int IntKind.u8) l1, .n n2, .l (Ty.int IntKind.u32) l5])))
  | _ => .bad 0
def fn_L20_8 : List Dat → Tree Step
  | .k 0 :: d => fn_L20_8_0 d
  | _ => .bad 0
def op_L20_8 : List Dat → Option (Nat × List Dat) := iterS fn_L20_8 FU
def L20_8 : MBox := (mkM 0 [] [(sh 41 [(0, .int .u32 0), (1, .imm TB 1), (5, .own 0), (6, .int .i64 2), (7, .int .u8 3), (8, .int .i64 4)], [.arr TN 5])] [] [(.exit 2, sh 41 [(0, .int .u32 0), (1, .imm TB 1), (5, .own 0), (6, .int .i64 2)], [.arr TN 3])] op_L20_8)
theorem fn_L20_8_0_eq (n0 : Int) (l1 : List (Ty.den (Ty.int IntKind.u8))) (n2 : Int) (n3 : Int) (n4 : Int) (l5 : List (Ty.den (Ty.int IntKind.u32))) : ((fun (d : List Dat) => stepMC false Try.prog cs_12 91 8 ls0 (mkM 0 [] [(sh 41 [(0, .int .u32 0), (1, .imm TB 1), (5, .own 0), (6, .int .i64 2), (7, .int .u8 3), (8, .int .i64 4)], [.arr TN 5])] [] [(.exit 2, sh 41 [(0, .int .u32 0), (1, .imm TB 1), (5, .own 0), (6, .int .i64 2)], [.arr TN 3])] fun _ => none) (.k 0 :: d)) [.n n0, .l (Ty.int IntKind.u8) l1, .n n2, .n n3, .n n4, .l (Ty.int IntKind.u32) l5]).sel = (fn_L20_8_0 [.n n0, .l (Ty.int IntKind.u8) l1, .n n2, .n n3, .n n4, .l (Ty.int IntKind.u32) l5]).sel := by kernel_rfl
theorem fn_L20_8_0_ok (env : List Dat) (y : Step) (h : (fn_L20_8_0 env).sel = some y) : ((fun (d : List Dat) => stepMC false Try.prog cs_12 91 8 ls0 (mkM 0 [] [(sh 41 [(0, .int .u32 0), (1, .imm TB 1), (5, .own 0), (6, .int .i64 2), (7, .int .u8 3), (8, .int .i64 4)], [.arr TN 5])] [] [(.exit 2, sh 41 [(0, .int .u32 0), (1, .imm TB 1), (5, .own 0), (6, .int .i64 2)], [.arr TN 3])] fun _ => none) (.k 0 :: d)) env).sel = some y := by
  unfold fn_L20_8_0 at h
  split at h
  · rw [fn_L20_8_0_eq]; exact h
  · cases h
theorem fn_L20_8_ok (env : List Dat) (y : Step) (h : (fn_L20_8 env).sel = some y) : (stepMC false Try.prog cs_12 91 8 ls0 (mkM 0 [] [(sh 41 [(0, .int .u32 0), (1, .imm TB 1), (5, .own 0), (6, .int .i64 2), (7, .int .u8 3), (8, .int .i64 4)], [.arr TN 5])] [] [(.exit 2, sh 41 [(0, .int .u32 0), (1, .imm TB 1), (5, .own 0), (6, .int .i64 2)], [.arr TN 3])] fun _ => none) env).sel = some y := by
  unfold fn_L20_8 at h
  split at h
  · exact fn_L20_8_0_ok _ _ h
  · cases h
theorem L20_8_run : ∀ t s x, (manyRun L20_8 t s).sel = some x → CodeOk Try.prog 0 (.loop (cAt Try.prog 91 8)) t s x := mkM_ok (st := fn_L20_8) (m := FU) cs_12_ok hmix false (LsOk.none _ _ _) (by kernel_rfl) fn_L20_8_ok

def fn_L20_3_0 : List Dat → Tree Step
  | [.n n0, .l (Ty.int IntKind.u8) l1, .n n2, .l (Ty.int IntKind.u32) l3] =>
    (.node (decide (n2 < (↑(List.length l1) : Int)))
     (.node (inR n2 (List.length l1))
      (let r1 : Option (Nat × List Dat) := (op_L20_8 [.k 0, .n (ishr IntKind.u32 n0 (8 : Int)), .l (Ty.int IntKind.u8) l1, .n n2, .n (ixor IntKind.u8 (IntKind.wrap .u8 n0) (List.getD l1 (Int.toNat n2) (0 : Int))), .n (0 : Int), .l (Ty.int IntKind.u32) l3]);
       (.node (isK 0 [HK.n, HK.l (Ty.int IntKind.u8), HK.n, HK.l (Ty.int IntKind.u32)] r1)
        (.leaf (Step.go [.k 0, .n (gn (dOf r1) 0), .l (Ty.int IntKind.u8) (gl (Ty.int IntKind.u8) (dOf r1) 1), .n (IntKind.wrap .i64 (gn (dOf r1) 2 + (1 : Int))), .l (Ty.int IntKind.u32) (gl (Ty.int IntKind.u32) (dOf r1) 3)]))
        (.bad 351)))
      (.bad 10))
     (.leaf (Step.stop 0 [.n n0])))
  | _ => .bad 0
def fn_L20_3 : List Dat → Tree Step
  | .k 0 :: d => fn_L20_3_0 d
  | _ => .bad 0
def op_L20_3 : List Dat → Option (Nat × List Dat) := iterS fn_L20_3 FU
def L20_3 : MBox := (mkM 0 [] [(sh 41 [(0, .int .u32 0), (1, .imm TB 1), (5, .own 0), (6, .int .i64 2)], [.arr TN 3])] [] [(.exit 0, sh 41 [(0, .int .u32 0)], [])] op_L20_3)
theorem fn_L20_3_0_eq (n0 : Int) (l1 : List (Ty.den (Ty.int IntKind.u8))) (n2 : Int) (l3 : List (Ty.den (Ty.int IntKind.u32))) : ((fun (d : List Dat) => stepMC false Try.prog cs_12 91 3 (lsM [(8, L20_8)] 0) (mkM 0 [] [(sh 41 [(0, .int .u32 0), (1, .imm TB 1), (5, .own 0), (6, .int .i64 2)], [.arr TN 3])] [] [(.exit 0, sh 41 [(0, .int .u32 0)], [])] fun _ => none) (.k 0 :: d)) [.n n0, .l (Ty.int IntKind.u8) l1, .n n2, .l (Ty.int IntKind.u32) l3]).sel = (fn_L20_3_0 [.n n0, .l (Ty.int IntKind.u8) l1, .n n2, .l (Ty.int IntKind.u32) l3]).sel := by kernel_rfl
theorem fn_L20_3_0_ok (env : List Dat) (y : Step) (h : (fn_L20_3_0 env).sel = some y) : ((fun (d : List Dat) => stepMC false Try.prog cs_12 91 3 (lsM [(8, L20_8)] 0) (mkM 0 [] [(sh 41 [(0, .int .u32 0), (1, .imm TB 1), (5, .own 0), (6, .int .i64 2)], [.arr TN 3])] [] [(.exit 0, sh 41 [(0, .int .u32 0)], [])] fun _ => none) (.k 0 :: d)) env).sel = some y := by
  unfold fn_L20_3_0 at h
  split at h
  · rw [fn_L20_3_0_eq]; exact h
  · cases h
theorem fn_L20_3_ok (env : List Dat) (y : Step) (h : (fn_L20_3 env).sel = some y) : (stepMC false Try.prog cs_12 91 3 (lsM [(8, L20_8)] 0) (mkM 0 [] [(sh 41 [(0, .int .u32 0), (1, .imm TB 1), (5, .own 0), (6, .int .i64 2)], [.arr TN 3])] [] [(.exit 0, sh 41 [(0, .int .u32 0)], [])] fun _ => none) env).sel = some y := by
  unfold fn_L20_3 at h
  split at h
  · exact fn_L20_3_0_ok _ _ h
  · cases h
theorem L20_3_in : LsOk Try.prog 0 (lsM [(8, L20_8)] 0) (cAt Try.prog 91 3) := LsOk.many fun j B hB hk c hc hi => by
  simp only [lookM] at hB
  split at hB
  · rename_i e; have := Nat.eq_of_beq_eq_true e; subst this; cases hB
    have e1 : loopsAt (cAt Try.prog 91 3) 8 = [cAt Try.prog 91 8] := by kernel_rfl
    have e2 := loopsAt_mem hc hi
    rw [e1] at e2; cases List.mem_singleton.1 e2; exact L20_8_run
  cases hB
theorem L20_3_run : ∀ t s x, (manyRun L20_3 t s).sel = some x → CodeOk Try.prog 0 (.loop (cAt Try.prog 91 3)) t s x := mkM_ok (st := fn_L20_3) (m := FU) cs_12_ok hmix false (L20_3_in) (by kernel_rfl) fn_L20_3_ok

theorem ls_20_ok : LsOk Try.prog (List.length ([] : List PB)) (lsM [(3, L20_3)] (List.length ([] : List PB))) (bodyOf Try.prog 91) := LsOk.many fun j B hB hk c hc hi => by
  simp only [lookM] at hB
  split at hB
  · rename_i e; have := Nat.eq_of_beq_eq_true e; subst this; cases hB
    have e1 : loopAt Try.prog 91 3 = [cAt Try.prog 91 3] := loopAt_one (by kernel_rfl)
    have e2 : c ∈ loopAt Try.prog 91 3 := loopsAt_mem hc hi
    rw [e1] at e2; cases List.mem_singleton.1 e2; exact L20_3_run
  cases hB

def fn_20 : List Dat → Tree (Nat × List Dat)
  | [.n n0, .l (Ty.int IntKind.u8) l1] =>
    (let r1 : Option (Nat × List Dat) := (op_L20_3 [.k 0, .n n0, .l (Ty.int IntKind.u8) l1, .n (0 : Int), .l (Ty.int IntKind.u32) [(1996959894 : Int), (3993919788 : Int), (124634137 : Int), (249268274 : Int), (498536548 : Int), (997073096 : Int), (1994146192 : Int), (3988292384 : Int)]]);
     (.node (isK 0 [HK.n] r1)
      (.leaf ((0, [.n (gn (dOf r1) 0)])))
      (.bad 351)))
  | _ => .bad 0
def op_20 : List Dat → Option (Nat × List Dat) := fun env => (fn_20 env).sel
def B20 : FBox := (mkF [.int .u32 0, .imm TB 1] [] [] [(.int .u32 0, [])] op_20)
def cs_20 : FuncId → Option CSpec := csLend 91 B20 cs_12
theorem fn_20_eq (n0 : Int) (l1 : List (Ty.den (Ty.int IntKind.u8))) : (boxC false Try.prog cs_12 91 (lsM [(3, L20_3)] (List.length ([] : List PB))) (mkF [.int .u32 0, .imm TB 1] [] [] [(.int .u32 0, [])] fun _ => none) [.n n0, .l (Ty.int IntKind.u8) l1]).sel = (fn_20 [.n n0, .l (Ty.int IntKind.u8) l1]).sel := by kernel_rfl
theorem fn_20_ok (env : List Dat) (y : Nat × List Dat) (h : (fn_20 env).sel = some y) : (boxC false Try.prog cs_12 91 (lsM [(3, L20_3)] (List.length ([] : List PB))) (mkF [.int .u32 0, .imm TB 1] [] [] [(.int .u32 0, [])] fun _ => none) env).sel = some y := by
  unfold fn_20 at h
  split at h
  · rw [fn_20_eq]; exact h
  · cases h
theorem B20_ok : RunOk Try.prog 91 (boxRun B20) := mkF_ok (op := op_20) cs_12_ok hmix false (ls_20_ok) fn_20_ok
theorem cs_20_ok : CsOk Try.prog cs_20 := csLend_ok cs_12_ok B20_ok

def fn_13 : List Dat → Tree (Nat × List Dat)
  | [.l (Ty.int IntKind.u8) l0] =>
    (let r1 : Option (Nat × List Dat) := (op_20 [.n (4294967295 : Int), .l (Ty.int IntKind.u8) l0]);
     (.node (isK 0 [HK.n] r1)
      (.leaf ((0, [.n (ixor IntKind.u32 (4294967295 : Int) (gn (dOf r1) 0))])))
      (.bad 351)))
  | _ => .bad 0
def op_13 : List Dat → Option (Nat × List Dat) := fun env => (fn_13 env).sel
def B13 : FBox := (mkF [.imm TB 0] [] [] [(.int .u32 0, [])] op_13)
def cs_13 : FuncId → Option CSpec := csLend 73 B13 cs_20
theorem fn_13_eq (l0 : List (Ty.den (Ty.int IntKind.u8))) : (boxC false Try.prog cs_20 73 ls0 (mkF [.imm TB 0] [] [] [(.int .u32 0, [])] fun _ => none) [.l (Ty.int IntKind.u8) l0]).sel = (fn_13 [.l (Ty.int IntKind.u8) l0]).sel := by kernel_rfl
theorem fn_13_ok (env : List Dat) (y : Nat × List Dat) (h : (fn_13 env).sel = some y) : (boxC false Try.prog cs_20 73 ls0 (mkF [.imm TB 0] [] [] [(.int .u32 0, [])] fun _ => none) env).sel = some y := by
  unfold fn_13 at h
  split at h
  · rw [fn_13_eq]; exact h
  · cases h
theorem B13_ok : RunOk Try.prog 73 (boxRun B13) := mkF_ok (op := op_13) cs_20_ok hmix false (LsOk.none _ _ _) fn_13_ok
theorem cs_13_ok : CsOk Try.prog cs_13 := csLend_ok cs_20_ok B13_ok

def okc_31 (l : List (Ty.den TB)) : Bool := decide ((0 + l.length) * 1 ≤ 140737488355328)
def op_31 : List Dat → Option (Nat × List Dat) := cloneOp TB okc_31
def B31 : FBox := mkF [.imm TB 0] [] [] [(.own 0, [.arr TB 0])] op_31
def cs_31 : FuncId → Option CSpec := csLend 94 B31 cs_13
theorem B31_ok : RunOk Try.prog 94 (boxRun B31) :=
  clone_ok (P := Try.prog) (cl := clMd true Try.prog csNone) (clMd_ok csNone_ok0 hmix true) hmix (T := 38) (e := 5) (n := 400) (fn := Try.f94) (by kernel_rfl) (by kernel_rfl) (by kernel_rfl) (by kernel_rfl) TB okc_31
    (fun l => [.imm TB l, .undef, .nilsl, .undef, .undef, .undef, .undef, .undef]) (fun l => [.imm TB l, .undef, .nilsl, .imm TB l, .bool true, .undef, .undef, .undef])
    (fun l => [.imm TB l, .undef, .own 0 1, .imm TB l, .bool false, .own 0 0, .imm TB l, .own 0 1]) (fun l => ⟨[.arr TB 1 l], [0]⟩) (fun l => .own 0 1)
    (fun l => by kernel_rfl) (fun l => rfl) (fun l => rfl) (fun l => by kernel_rfl) (fun l => by kernel_rfl) (fun l => by kernel_rfl) (fun l => by kernel_rfl) (fun l => by kernel_rfl) (fun l => by kernel_rfl) (by kernel_rfl)
theorem cs_31_ok : CsOk Try.prog cs_31 := csLend_ok cs_13_ok B31_ok
theorem op_31_is (l : List (Ty.den TB)) (h : l.length * 1 ≤ 140737488355328) : op_31 [.l TB l] = some (0, [.l TB l]) := by
  unfold op_31 cloneOp
  simp only [castL_self]
  have : okc_31 l = true := decide_eq_true (by omega)
  rw [this]; rfl

def op_9 : List Dat → Option (Nat × List Dat) := fun _ => some (0, [.b true])
def B9 : FBox := (mkF [] [] [] [(.bool 0, [])] op_9)
def cs_9 : FuncId → Option CSpec := csAdd 8 [B9] cs_31
theorem fn_9_ok (env : List Dat) (y : Nat × List Dat) (h : op_9 env = some y) : (boxC true Try.prog cs_31 8 ls0 (mkF [] [] [] [(.bool 0, [])] fun _ => none) env).sel = some y := by
  cases h
  kernel_rfl
theorem B9_ok : RunOk Try.prog 8 (boxRun B9) := mkF_ok (op := op_9) cs_31_ok hmix true (LsOk.none _ _ _) fn_9_ok
theorem cs_9_ok : CsOk Try.prog cs_9 := csAdd_ok cs_31_ok fun B hB => by
  cases List.mem_singleton.1 hB
  exact B9_ok
end Go.Proofs.Ytlambinleegdoaa.Vx
namespace Go.Proofs.Ytlambinleegdoaa.Vx
open Go Go.RowKit
set_option linter.unusedVariables false
theorem opq_ex (f : List Dat → Option (Nat × List Dat)) : ∃ g : List Dat → Option (Nat × List Dat), ∀ e, g e = f e := ⟨f, fun _ => rfl⟩
noncomputable def op_q12 : List Dat → Option (Nat × List Dat) := Classical.choose (opq_ex op_12)
theorem op_q12_eq (e : List Dat) : op_q12 e = op_12 e := Classical.choose_spec (opq_ex op_12) e
noncomputable def Bq12 : FBox := mkF [.imm TB 0] [] [] [(.int .u32 0, [])] op_q12
theorem Bq12_ok : RunOk Try.prog 86 (boxRun Bq12) := by
  have h : op_q12 = op_12 := funext op_q12_eq
  unfold Bq12
  rw [h]
  exact B12_ok
noncomputable def cs_q12 : FuncId → Option CSpec := csLend 86 Bq12 cs_9
theorem cs_q12_ok : CsOk Try.prog cs_q12 := csLend_ok cs_9_ok Bq12_ok
noncomputable def op_q13 : List Dat → Option (Nat × List Dat) := Classical.choose (opq_ex op_13)
theorem op_q13_eq (e : List Dat) : op_q13 e = op_13 e := Classical.choose_spec (opq_ex op_13) e
noncomputable def Bq13 : FBox := mkF [.imm TB 0] [] [] [(.int .u32 0, [])] op_q13
theorem Bq13_ok : RunOk Try.prog 73 (boxRun Bq13) := by
  have h : op_q13 = op_13 := funext op_q13_eq
  unfold Bq13
  rw [h]
  exact B13_ok
noncomputable def cs_q13 : FuncId → Option CSpec := csLend 73 Bq13 cs_q12
theorem cs_q13_ok : CsOk Try.prog cs_q13 := csLend_ok cs_q12_ok Bq13_ok
end Go.Proofs.Ytlambinleegdoaa.Vx
namespace Go.Proofs.Ytlambinleegdoaa.Vx
open Go Go.RowKit
set_option linter.unusedVariables false
set_option linter.unusedSimpArgs false
set_option maxRecDepth 100000
set_option maxHeartbeats 0

abbrev TI : Ty := .int .i64
abbrev TL : Ty := .int .u64
abbrev TC : Ty := .pair (.int .u8) (.int .i64)
def wrN : PB := .cells [.nilsl]
def wrO (b : Nat) : PB := .cells [.own b]
def inV (h : Nat) : PV := .agg [.int .u8 h, .int .i64 (h+1), .int .u64 (h+2), .int .u32 (h+3), .int .u32 (h+4), .imm TC (h+5)]
def inB (h : Nat) : PB := .cells [.int .u8 h, .int .i64 (h+1), .int .u64 (h+2), .int .u32 (h+3), .int .u32 (h+4), .imm TC (h+5)]
def ouV (h : Nat) : PV := .agg [.int .u8 h, .int .i64 (h+1), .int .i64 (h+2), .int .u64 (h+3), .int .u32 (h+4)]
def ouB (h : Nat) : PB := .cells [.int .u8 h, .int .i64 (h+1), .int .i64 (h+2), .int .u64 (h+3), .int .u32 (h+4)]
def stV (h : Nat) : PV := .agg [.int .u64 h, .int .u64 (h+1), .int .u64 (h+2), .arrd TB 64 (h+3), .int .u32 (h+4)]
def stB (h : Nat) : PB := .cells [.int .u64 h, .int .u64 (h+1), .int .u64 (h+2), .arrd TB 64 (h+3), .int .u32 (h+4)]
def loV (h : Nat) : PV := .agg [.int .i64 h, .int .i64 (h+1), .int .u64 (h+2), .int .u64 (h+3), .int .u64 (h+4), .arrd TB 64 (h+5), .int .u32 (h+6)]
def loB (h : Nat) : PB := .cells [.int .i64 h, .int .i64 (h+1), .int .u64 (h+2), .int .u64 (h+3), .int .u64 (h+4), .arrd TB 64 (h+5), .int .u32 (h+6)]
def liV (h : Nat) : PV := .agg [.int .u8 h, .int .u8 (h+1), .int .i64 (h+2), .int .i64 (h+3), .imm TB (h+4)]
def liB (h : Nat) : PB := .cells [.int .u8 h, .int .u8 (h+1), .int .i64 (h+2), .int .i64 (h+3), .imm TB (h+4)]
def lmV (h : Nat) : PV := .agg [.int .u8 h, .int .u8 (h+1), .int .i64 (h+2), .int .i64 (h+3), .str (h+4)]
noncomputable def st_L30_3 (env : List Dat) : Tree Step := Lk.stepMC false LK cs_q13 72 3 ls0 (mkM 0 [] [(sh 22 [(0, .int .u64 0), (5, .own 0), (6, .int .i64 1)], [.arr TB 2])] [(5, TB)] [(.exit 0, sh 22 [(5, .own 0)], [.arr TB 0])] fun _ => none) env
theorem op_L30_3_ex : ∃ f : List Dat → Option (Nat × List Dat), ∀ env, f env = iterS st_L30_3 FU env := ⟨iterS st_L30_3 FU, fun _ => rfl⟩
noncomputable def op_L30_3 : List Dat → Option (Nat × List Dat) := Classical.choose op_L30_3_ex
theorem op_L30_3_eq (env : List Dat) : op_L30_3 env = iterS st_L30_3 FU env := Classical.choose_spec op_L30_3_ex env
noncomputable def L30_3 : MBox := mkM 0 [] [(sh 22 [(0, .int .u64 0), (5, .own 0), (6, .int .i64 1)], [.arr TB 2])] [(5, TB)] [(.exit 0, sh 22 [(5, .own 0)], [.arr TB 0])] op_L30_3
theorem L30_3_eqs : L30_3 = mkM 0 [] [(sh 22 [(0, .int .u64 0), (5, .own 0), (6, .int .i64 1)], [.arr TB 2])] [(5, TB)] [(.exit 0, sh 22 [(5, .own 0)], [.arr TB 0])] (iterS st_L30_3 FU) := congrArg (fun f => mkM 0 [] [(sh 22 [(0, .int .u64 0), (5, .own 0), (6, .int .i64 1)], [.arr TB 2])] [(5, TB)] [(.exit 0, sh 22 [(5, .own 0)], [.arr TB 0])] f) (funext op_L30_3_eq)
theorem L30_3_run : ∀ t s x, (manyRun L30_3 t s).sel = some x → CodeOk Try.prog 0 (.loop (cAt Try.prog 72 3)) t s x := by
  rw [L30_3_eqs]
  exact mkM_ok (st := st_L30_3) (m := FU) cs_q13_ok hmix false (LsOk.none _ _ _) (by kernel_rfl) (fun env y h => by rw [← stepMC_lk]; exact h)
theorem op_L30_3_good {p : Nat × List Dat → Prop} (Inv : List Dat → Prop) (μ : List Dat → Nat) (h : ∀ env, Inv env → Good (fun y => match y with | .go e => Inv e ∧ μ e < μ env | .stop k d => p (k, d)) (st_L30_3 env).sel) (env : List Dat) (hi : Inv env) (hm : μ env < FU) : Good p (op_L30_3 env) := by
  rw [op_L30_3_eq]
  exact iterS_good Inv μ p h FU env hi hm

noncomputable def fn_L30_3_t : List Dat → Tree Step
  | [.n n0, .n n1, .l (Ty.int IntKind.u8) l2] =>
    (.node (decide (n1 ≥ (0 : Int)))
     (.node (!decide (IntKind.wrap .i64 ((8 : Int) * n1) < (0 : Int)))
      (.node (decide ((List.length l2 + 1) * 1 ≤ 140737488355328))
       (.leaf (Step.go [.k 0, .n n0, .n (IntKind.wrap .i64 (n1 - (1 : Int))), .l (Ty.int IntKind.u8) (l2 ++ [IntKind.wrap .u8 (ishr IntKind.u64 n0 (IntKind.wrap .i64 ((8 : Int) * n1)))])]))
       (.bad 62))
      (.bad 83))
     (.leaf (Step.stop 0 [.l (Ty.int IntKind.u8) l2])))
  | _ => .bad 0
theorem fn_L30_3_t_im (n0 : Int) (n1 : Int) (l2 : List (Ty.den (Ty.int IntKind.u8))) : Imp (fn_L30_3_t [.n n0, .n n1, .l (Ty.int IntKind.u8) l2]) (st_L30_3 [.k 0, .n n0, .n n1, .l TB l2]) :=
(.path [1] (by kernel_rfl)
(.node (by kernel_rfl) (by kernel_rfl) (fun h0 =>
(.node (by kernel_rfl) (by kernel_rfl) (fun h1 =>
(.node (by kernel_rfl) (by kernel_rfl) (fun h2 =>
(.path [1] (by kernel_rfl)
(.leaf (by kernel_rfl)))) (fun h2 =>
.none))) (fun h1 =>
.none))) (fun h0 =>
(.path [1] (by kernel_rfl)
(.leaf (by kernel_rfl))))))

theorem ls_30_ok : LsOk Try.prog (List.length ([] : List PB)) (lsM [(3, L30_3)] (List.length ([] : List PB))) (bodyOf Try.prog 72) := LsOk.many fun j B hB hk c hc hi => by
  simp only [lookM] at hB
  split at hB
  · rename_i e; have := Nat.eq_of_beq_eq_true e; subst this; cases hB
    have e1 : loopAt Try.prog 72 3 = [cAt Try.prog 72 3] := loopAt_one (by kernel_rfl)
    have e2 : c ∈ loopAt Try.prog 72 3 := loopsAt_mem hc hi
    rw [e1] at e2; cases List.mem_singleton.1 e2; exact L30_3_run
  cases hB

noncomputable def ev_30 (env : List Dat) : Tree (Nat × List Dat) := Lk.boxC false LK cs_q13 72 (lsM [(3, L30_3)] (List.length ([] : List PB))) (mkF [.int .u64 0, .int .i64 1] [] [] [(.own 0, [.arr TB 0])] fun _ => none) env
theorem op_30_ex : ∃ f : List Dat → Option (Nat × List Dat), ∀ env, f env = (ev_30 env).sel := ⟨fun env => (ev_30 env).sel, fun _ => rfl⟩
noncomputable def op_30 : List Dat → Option (Nat × List Dat) := Classical.choose op_30_ex
theorem op_30_eq (env : List Dat) : op_30 env = (ev_30 env).sel := Classical.choose_spec op_30_ex env
noncomputable def B30 : FBox := mkF [.int .u64 0, .int .i64 1] [] [] [(.own 0, [.arr TB 0])] op_30
theorem B30_ok : RunOk Try.prog 72 (boxRun B30) := mkF_ok (op := op_30) cs_q13_ok hmix false (ls_30_ok) (fun env x h => by rw [op_30_eq] at h; rw [← boxC_lk]; exact h)
theorem op_30_good {p : Nat × List Dat → Prop} {T : Tree (Nat × List Dat)} {env : List Dat} (h : Imp T (ev_30 env)) (g : Good p T.sel) : Good p (op_30 env) := by
  rw [op_30_eq]
  exact h.good g

noncomputable def fn_30_t : List Dat → Tree (Nat × List Dat)
  | [.n n0, .n n1] =>
    (let r1 : Option (Nat × List Dat) := (op_L30_3 [.k 0, .n n0, .n (IntKind.wrap .i64 (n1 - (1 : Int))), .l (Ty.int IntKind.u8) []]);
     (.node (isK 0 [HK.l (Ty.int IntKind.u8)] r1)
      (.leaf ((0, [.l (Ty.int IntKind.u8) (gl (Ty.int IntKind.u8) (dOf r1) 0)])))
      (.bad 351)))
  | _ => .bad 0
theorem fn_30_t_im (n0 : Int) (n1 : Int) : Imp (fn_30_t [.n n0, .n n1]) (ev_30 [.n n0, .n n1]) :=
(.node (by kernel_rfl) (by kernel_rfl) (fun h0 =>
(.path [1] (by kernel_rfl)
(.leaf (by kernel_rfl)))) (fun h0 =>
.none))

noncomputable def cs_30 : FuncId → Option CSpec := csLend 72 B30 cs_q13
theorem cs_30_ok : CsOk Try.prog cs_30 := csLend_ok cs_q13_ok B30_ok

noncomputable def st_L35a_1 (env : List Dat) : Tree Step := Lk.stepMC false LK cs_30 100 1 ls0 (mkM 1 [0] [(sh 29 [(0, .ptr 0 0), (1, .int .u64 0), (2, .int .i64 1), (7, .int .i64 2), (8, .int .i64 3)], [wrN]), (sh 29 [(0, .ptr 0 0), (1, .int .u64 0), (2, .int .i64 1), (7, .int .i64 2), (8, .int .i64 3)], [wrO 1, .arr TB 4])] [] [(.exit 0, sh 29 [(0, .ptr 0 0)], [wrN]), (.exit 0, sh 29 [(0, .ptr 0 0)], [wrO 1, .arr TB 0])] fun _ => none) env
theorem op_L35a_1_ex : ∃ f : List Dat → Option (Nat × List Dat), ∀ env, f env = iterS st_L35a_1 FU env := ⟨iterS st_L35a_1 FU, fun _ => rfl⟩
noncomputable def op_L35a_1 : List Dat → Option (Nat × List Dat) := Classical.choose op_L35a_1_ex
theorem op_L35a_1_eq (env : List Dat) : op_L35a_1 env = iterS st_L35a_1 FU env := Classical.choose_spec op_L35a_1_ex env
noncomputable def L35a_1 : MBox := mkM 1 [0] [(sh 29 [(0, .ptr 0 0), (1, .int .u64 0), (2, .int .i64 1), (7, .int .i64 2), (8, .int .i64 3)], [wrN]), (sh 29 [(0, .ptr 0 0), (1, .int .u64 0), (2, .int .i64 1), (7, .int .i64 2), (8, .int .i64 3)], [wrO 1, .arr TB 4])] [] [(.exit 0, sh 29 [(0, .ptr 0 0)], [wrN]), (.exit 0, sh 29 [(0, .ptr 0 0)], [wrO 1, .arr TB 0])] op_L35a_1
theorem L35a_1_eqs : L35a_1 = mkM 1 [0] [(sh 29 [(0, .ptr 0 0), (1, .int .u64 0), (2, .int .i64 1), (7, .int .i64 2), (8, .int .i64 3)], [wrN]), (sh 29 [(0, .ptr 0 0), (1, .int .u64 0), (2, .int .i64 1), (7, .int .i64 2), (8, .int .i64 3)], [wrO 1, .arr TB 4])] [] [(.exit 0, sh 29 [(0, .ptr 0 0)], [wrN]), (.exit 0, sh 29 [(0, .ptr 0 0)], [wrO 1, .arr TB 0])] (iterS st_L35a_1 FU) := congrArg (fun f => mkM 1 [0] [(sh 29 [(0, .ptr 0 0), (1, .int .u64 0), (2, .int .i64 1), (7, .int .i64 2), (8, .int .i64 3)], [wrN]), (sh 29 [(0, .ptr 0 0), (1, .int .u64 0), (2, .int .i64 1), (7, .int .i64 2), (8, .int .i64 3)], [wrO 1, .arr TB 4])] [] [(.exit 0, sh 29 [(0, .ptr 0 0)], [wrN]), (.exit 0, sh 29 [(0, .ptr 0 0)], [wrO 1, .arr TB 0])] f) (funext op_L35a_1_eq)
theorem L35a_1_run : ∀ t s x, (manyRun L35a_1 t s).sel = some x → CodeOk Try.prog 1 (.loop (cAt Try.prog 100 1)) t s x := by
  rw [L35a_1_eqs]
  exact mkM_ok (st := st_L35a_1) (m := FU) cs_30_ok hmix false (LsOk.none _ _ _) (by kernel_rfl) (fun env y h => by rw [← stepMC_lk]; exact h)
theorem op_L35a_1_good {p : Nat × List Dat → Prop} (Inv : List Dat → Prop) (μ : List Dat → Nat) (h : ∀ env, Inv env → Good (fun y => match y with | .go e => Inv e ∧ μ e < μ env | .stop k d => p (k, d)) (st_L35a_1 env).sel) (env : List Dat) (hi : Inv env) (hm : μ env < FU) : Good p (op_L35a_1 env) := by
  rw [op_L35a_1_eq]
  exact iterS_good Inv μ p h FU env hi hm

noncomputable def fn_L35a_1_n : List Dat → Tree Step
  | [.n n0, .n n1, .n n2, .n n3] =>
    (.node (decide (n3 < n2))
     (.node (!decide (IntKind.wrap .i64 ((8 : Int) * IntKind.wrap .i64 (IntKind.wrap .i64 (n1 - (1 : Int)) - n3)) < (0 : Int)))
      (.leaf (Step.go [.k 1, .n n0, .n n1, .n n2, .n (IntKind.wrap .i64 (n3 + (1 : Int))), .l (Ty.int IntKind.u8) [IntKind.wrap .u8 (ishr IntKind.u64 n0 (IntKind.wrap .i64 ((8 : Int) * IntKind.wrap .i64 (IntKind.wrap .i64 (n1 - (1 : Int)) - n3))))]]))
      (.bad 83))
     (.leaf (Step.stop 0 [])))
  | _ => .bad 0
theorem fn_L35a_1_n_im (n0 : Int) (n1 : Int) (n2 : Int) (n3 : Int) : Imp (fn_L35a_1_n [.n n0, .n n1, .n n2, .n n3]) (st_L35a_1 [.k 0, .n n0, .n n1, .n n2, .n n3]) :=
(.path [1] (by kernel_rfl)
(.node (by kernel_rfl) (by kernel_rfl) (fun h0 =>
(.node (by kernel_rfl) (by kernel_rfl) (fun h1 =>
(.path [1,1,1] (by kernel_rfl)
(.leaf (by kernel_rfl)))) (fun h1 =>
.none))) (fun h0 =>
(.path [1] (by kernel_rfl)
(.leaf (by kernel_rfl))))))

noncomputable def fn_L35a_1_o : List Dat → Tree Step
  | [.n n0, .n n1, .n n2, .n n3, .l (Ty.int IntKind.u8) l4] =>
    (.node (decide (n3 < n2))
     (.node (!decide (IntKind.wrap .i64 ((8 : Int) * IntKind.wrap .i64 (IntKind.wrap .i64 (n1 - (1 : Int)) - n3)) < (0 : Int)))
      (.node (decide ((List.length l4 + 1) * 1 ≤ 140737488355328))
       (.leaf (Step.go [.k 1, .n n0, .n n1, .n n2, .n (IntKind.wrap .i64 (n3 + (1 : Int))), .l (Ty.int IntKind.u8) (l4 ++ [IntKind.wrap .u8 (ishr IntKind.u64 n0 (IntKind.wrap .i64 ((8 : Int) * IntKind.wrap .i64 (IntKind.wrap .i64 (n1 - (1 : Int)) - n3))))])]))
       (.bad 62))
      (.bad 83))
     (.leaf (Step.stop 1 [.l (Ty.int IntKind.u8) l4])))
  | _ => .bad 0
theorem fn_L35a_1_o_im (n0 : Int) (n1 : Int) (n2 : Int) (n3 : Int) (l4 : List (Ty.den (Ty.int IntKind.u8))) : Imp (fn_L35a_1_o [.n n0, .n n1, .n n2, .n n3, .l (Ty.int IntKind.u8) l4]) (st_L35a_1 [.k 1, .n n0, .n n1, .n n2, .n n3, .l TB l4]) :=
(.path [1] (by kernel_rfl)
(.node (by kernel_rfl) (by kernel_rfl) (fun h0 =>
(.node (by kernel_rfl) (by kernel_rfl) (fun h1 =>
(.node (by kernel_rfl) (by kernel_rfl) (fun h2 =>
(.path [1,1] (by kernel_rfl)
(.leaf (by kernel_rfl)))) (fun h2 =>
.none))) (fun h1 =>
.none))) (fun h0 =>
(.path [1] (by kernel_rfl)
(.leaf (by kernel_rfl))))))

theorem ls_35a_ok : LsOk Try.prog (List.length ([wrN] : List PB)) (lsM [(1, L35a_1)] (List.length ([wrN] : List PB))) (bodyOf Try.prog 100) := LsOk.many fun j B hB hk c hc hi => by
  simp only [lookM] at hB
  split at hB
  · rename_i e; have := Nat.eq_of_beq_eq_true e; subst this; cases hB
    have e1 : loopAt Try.prog 100 1 = [cAt Try.prog 100 1] := loopAt_one (by kernel_rfl)
    have e2 : c ∈ loopAt Try.prog 100 1 := loopsAt_mem hc hi
    rw [e1] at e2; cases List.mem_singleton.1 e2; exact L35a_1_run
  cases hB

noncomputable def ev_35a (env : List Dat) : Tree (Nat × List Dat) := Lk.boxC false LK cs_30 100 (lsM [(1, L35a_1)] (List.length ([wrN] : List PB))) (mkF [.ptr 0 0, .int .u64 0, .int .i64 1] [wrN] [0] [(.tup [], [wrN]), (.tup [], [wrO 1, .arr TB 0])] fun _ => none) env
theorem op_35a_ex : ∃ f : List Dat → Option (Nat × List Dat), ∀ env, f env = (ev_35a env).sel := ⟨fun env => (ev_35a env).sel, fun _ => rfl⟩
noncomputable def op_35a : List Dat → Option (Nat × List Dat) := Classical.choose op_35a_ex
theorem op_35a_eq (env : List Dat) : op_35a env = (ev_35a env).sel := Classical.choose_spec op_35a_ex env
noncomputable def B35a : FBox := mkF [.ptr 0 0, .int .u64 0, .int .i64 1] [wrN] [0] [(.tup [], [wrN]), (.tup [], [wrO 1, .arr TB 0])] op_35a
theorem B35a_ok : RunOk Try.prog 100 (boxRun B35a) := mkF_ok (op := op_35a) cs_30_ok hmix false (ls_35a_ok) (fun env x h => by rw [op_35a_eq] at h; rw [← boxC_lk]; exact h)
theorem op_35a_good {p : Nat × List Dat → Prop} {T : Tree (Nat × List Dat)} {env : List Dat} (h : Imp T (ev_35a env)) (g : Good p T.sel) : Good p (op_35a env) := by
  rw [op_35a_eq]
  exact h.good g

noncomputable def fn_35a_t : List Dat → Tree (Nat × List Dat)
  | [.n n0, .n n1] =>
    (let r1 : Option (Nat × List Dat) := (op_L35a_1 [.k 0, .n n0, .n n1, .n n1, .n (0 : Int)]);
     (.node (isK 0 [] r1)
      (.leaf ((0, [])))
      (.node (isK 1 [HK.l (Ty.int IntKind.u8)] r1)
       (.leaf ((1, [.l (Ty.int IntKind.u8) (gl (Ty.int IntKind.u8) (dOf r1) 0)])))
       (.bad 351))))
  | _ => .bad 0
theorem fn_35a_t_im (n0 : Int) (n1 : Int) : Imp (fn_35a_t [.n n0, .n n1]) (ev_35a [.n n0, .n n1]) :=
(.node (by kernel_rfl) (by kernel_rfl) (fun h0 =>
(.path [1] (by kernel_rfl)
(.leaf (by kernel_rfl)))) (fun h0 =>
(.node (by kernel_rfl) (by kernel_rfl) (fun h1 =>
(.path [1] (by kernel_rfl)
(.leaf (by kernel_rfl)))) (fun h1 =>
.none))))

noncomputable def st_L35b_1 (env : List Dat) : Tree Step := Lk.stepMC false LK cs_30 100 1 ls0 (mkM 2 [0, 1] [(sh 29 [(0, .ptr 0 0), (1, .int .u64 0), (2, .int .i64 1), (7, .int .i64 2), (8, .int .i64 3)], [wrO 1, .arr TB 4])] [] [(.exit 0, sh 29 [(0, .ptr 0 0)], [wrO 1, .arr TB 0])] fun _ => none) env
theorem op_L35b_1_ex : ∃ f : List Dat → Option (Nat × List Dat), ∀ env, f env = iterS st_L35b_1 FU env := ⟨iterS st_L35b_1 FU, fun _ => rfl⟩
noncomputable def op_L35b_1 : List Dat → Option (Nat × List Dat) := Classical.choose op_L35b_1_ex
theorem op_L35b_1_eq (env : List Dat) : op_L35b_1 env = iterS st_L35b_1 FU env := Classical.choose_spec op_L35b_1_ex env
noncomputable def L35b_1 : MBox := mkM 2 [0, 1] [(sh 29 [(0, .ptr 0 0), (1, .int .u64 0), (2, .int .i64 1), (7, .int .i64 2), (8, .int .i64 3)], [wrO 1, .arr TB 4])] [] [(.exit 0, sh 29 [(0, .ptr 0 0)], [wrO 1, .arr TB 0])] op_L35b_1
theorem L35b_1_eqs : L35b_1 = mkM 2 [0, 1] [(sh 29 [(0, .ptr 0 0), (1, .int .u64 0), (2, .int .i64 1), (7, .int .i64 2), (8, .int .i64 3)], [wrO 1, .arr TB 4])] [] [(.exit 0, sh 29 [(0, .ptr 0 0)], [wrO 1, .arr TB 0])] (iterS st_L35b_1 FU) := congrArg (fun f => mkM 2 [0, 1] [(sh 29 [(0, .ptr 0 0), (1, .int .u64 0), (2, .int .i64 1), (7, .int .i64 2), (8, .int .i64 3)], [wrO 1, .arr TB 4])] [] [(.exit 0, sh 29 [(0, .ptr 0 0)], [wrO 1, .arr TB 0])] f) (funext op_L35b_1_eq)
theorem L35b_1_run : ∀ t s x, (manyRun L35b_1 t s).sel = some x → CodeOk Try.prog 2 (.loop (cAt Try.prog 100 1)) t s x := by
  rw [L35b_1_eqs]
  exact mkM_ok (st := st_L35b_1) (m := FU) cs_30_ok hmix false (LsOk.none _ _ _) (by kernel_rfl) (fun env y h => by rw [← stepMC_lk]; exact h)
theorem op_L35b_1_good {p : Nat × List Dat → Prop} (Inv : List Dat → Prop) (μ : List Dat → Nat) (h : ∀ env, Inv env → Good (fun y => match y with | .go e => Inv e ∧ μ e < μ env | .stop k d => p (k, d)) (st_L35b_1 env).sel) (env : List Dat) (hi : Inv env) (hm : μ env < FU) : Good p (op_L35b_1 env) := by
  rw [op_L35b_1_eq]
  exact iterS_good Inv μ p h FU env hi hm

noncomputable def fn_L35b_1_o : List Dat → Tree Step
  | [.n n0, .n n1, .n n2, .n n3, .l (Ty.int IntKind.u8) l4] =>
    (.node (decide (n3 < n2))
     (.node (!decide (IntKind.wrap .i64 ((8 : Int) * IntKind.wrap .i64 (IntKind.wrap .i64 (n1 - (1 : Int)) - n3)) < (0 : Int)))
      (.node (decide ((List.length l4 + 1) * 1 ≤ 140737488355328))
       (.leaf (Step.go [.k 0, .n n0, .n n1, .n n2, .n (IntKind.wrap .i64 (n3 + (1 : Int))), .l (Ty.int IntKind.u8) (l4 ++ [IntKind.wrap .u8 (ishr IntKind.u64 n0 (IntKind.wrap .i64 ((8 : Int) * IntKind.wrap .i64 (IntKind.wrap .i64 (n1 - (1 : Int)) - n3))))])]))
       (.bad 62))
      (.bad 83))
     (.leaf (Step.stop 0 [.l (Ty.int IntKind.u8) l4])))
  | _ => .bad 0
theorem fn_L35b_1_o_im (n0 : Int) (n1 : Int) (n2 : Int) (n3 : Int) (l4 : List (Ty.den (Ty.int IntKind.u8))) : Imp (fn_L35b_1_o [.n n0, .n n1, .n n2, .n n3, .l (Ty.int IntKind.u8) l4]) (st_L35b_1 [.k 0, .n n0, .n n1, .n n2, .n n3, .l TB l4]) :=
(.path [1] (by kernel_rfl)
(.node (by kernel_rfl) (by kernel_rfl) (fun h0 =>
(.node (by kernel_rfl) (by kernel_rfl) (fun h1 =>
(.node (by kernel_rfl) (by kernel_rfl) (fun h2 =>
(.path [1,1] (by kernel_rfl)
(.leaf (by kernel_rfl)))) (fun h2 =>
.none))) (fun h1 =>
.none))) (fun h0 =>
(.path [1] (by kernel_rfl)
(.leaf (by kernel_rfl))))))

theorem ls_35b_ok : LsOk Try.prog (List.length ([wrO 1, .arr TB 2] : List PB)) (lsM [(1, L35b_1)] (List.length ([wrO 1, .arr TB 2] : List PB))) (bodyOf Try.prog 100) := LsOk.many fun j B hB hk c hc hi => by
  simp only [lookM] at hB
  split at hB
  · rename_i e; have := Nat.eq_of_beq_eq_true e; subst this; cases hB
    have e1 : loopAt Try.prog 100 1 = [cAt Try.prog 100 1] := loopAt_one (by kernel_rfl)
    have e2 : c ∈ loopAt Try.prog 100 1 := loopsAt_mem hc hi
    rw [e1] at e2; cases List.mem_singleton.1 e2; exact L35b_1_run
  cases hB

noncomputable def ev_35b (env : List Dat) : Tree (Nat × List Dat) := Lk.boxC false LK cs_30 100 (lsM [(1, L35b_1)] (List.length ([wrO 1, .arr TB 2] : List PB))) (mkF [.ptr 0 0, .int .u64 0, .int .i64 1] [wrO 1, .arr TB 2] [0, 1] [(.tup [], [wrO 1, .arr TB 0])] fun _ => none) env
theorem op_35b_ex : ∃ f : List Dat → Option (Nat × List Dat), ∀ env, f env = (ev_35b env).sel := ⟨fun env => (ev_35b env).sel, fun _ => rfl⟩
noncomputable def op_35b : List Dat → Option (Nat × List Dat) := Classical.choose op_35b_ex
theorem op_35b_eq (env : List Dat) : op_35b env = (ev_35b env).sel := Classical.choose_spec op_35b_ex env
noncomputable def B35b : FBox := mkF [.ptr 0 0, .int .u64 0, .int .i64 1] [wrO 1, .arr TB 2] [0, 1] [(.tup [], [wrO 1, .arr TB 0])] op_35b
theorem B35b_ok : RunOk Try.prog 100 (boxRun B35b) := mkF_ok (op := op_35b) cs_30_ok hmix false (ls_35b_ok) (fun env x h => by rw [op_35b_eq] at h; rw [← boxC_lk]; exact h)
theorem op_35b_good {p : Nat × List Dat → Prop} {T : Tree (Nat × List Dat)} {env : List Dat} (h : Imp T (ev_35b env)) (g : Good p T.sel) : Good p (op_35b env) := by
  rw [op_35b_eq]
  exact h.good g

noncomputable def fn_35b_t : List Dat → Tree (Nat × List Dat)
  | [.n n0, .n n1, .l (Ty.int IntKind.u8) l2] =>
    (let r1 : Option (Nat × List Dat) := (op_L35b_1 [.k 0, .n n0, .n n1, .n n1, .n (0 : Int), .l (Ty.int IntKind.u8) l2]);
     (.node (isK 0 [HK.l (Ty.int IntKind.u8)] r1)
      (.leaf ((0, [.l (Ty.int IntKind.u8) (gl (Ty.int IntKind.u8) (dOf r1) 0)])))
      (.bad 351)))
  | _ => .bad 0
theorem fn_35b_t_im (n0 : Int) (n1 : Int) (l2 : List (Ty.den (Ty.int IntKind.u8))) : Imp (fn_35b_t [.n n0, .n n1, .l (Ty.int IntKind.u8) l2]) (ev_35b [.n n0, .n n1, .l TB l2]) :=
(.node (by kernel_rfl) (by kernel_rfl) (fun h0 =>
(.path [1] (by kernel_rfl)
(.leaf (by kernel_rfl)))) (fun h0 =>
.none))

noncomputable def cs_35b : FuncId → Option CSpec := csAdd 100 [B35a, B35b] cs_30
theorem cs_35b_ok : CsOk Try.prog cs_35b := csAdd_ok cs_30_ok fun B hB => by
  simp only [List.mem_cons, List.not_mem_nil, or_false] at hB
  rcases hB with rfl | rfl
  · exact B35a_ok
  · exact B35b_ok

noncomputable def st_L80_2 (env : List Dat) : Tree Step := Lk.stepMC false LK cs_35b 80 2 ls0 (mkM 0 [] [(sh 21 [(0, .int .i64 0), (7, .imm TI 1), (8, .int .i64 2), (9, .int .i64 3)], [])] [] [(.exit 0, sh 21 [], []), (.ret, sh 21 [(4, .bool 0)], [])] fun _ => none) env
theorem op_L80_2_ex : ∃ f : List Dat → Option (Nat × List Dat), ∀ env, f env = iterS st_L80_2 FU env := ⟨iterS st_L80_2 FU, fun _ => rfl⟩
noncomputable def op_L80_2 : List Dat → Option (Nat × List Dat) := Classical.choose op_L80_2_ex
theorem op_L80_2_eq (env : List Dat) : op_L80_2 env = iterS st_L80_2 FU env := Classical.choose_spec op_L80_2_ex env
noncomputable def L80_2 : MBox := mkM 0 [] [(sh 21 [(0, .int .i64 0), (7, .imm TI 1), (8, .int .i64 2), (9, .int .i64 3)], [])] [] [(.exit 0, sh 21 [], []), (.ret, sh 21 [(4, .bool 0)], [])] op_L80_2
theorem L80_2_eqs : L80_2 = mkM 0 [] [(sh 21 [(0, .int .i64 0), (7, .imm TI 1), (8, .int .i64 2), (9, .int .i64 3)], [])] [] [(.exit 0, sh 21 [], []), (.ret, sh 21 [(4, .bool 0)], [])] (iterS st_L80_2 FU) := congrArg (fun f => mkM 0 [] [(sh 21 [(0, .int .i64 0), (7, .imm TI 1), (8, .int .i64 2), (9, .int .i64 3)], [])] [] [(.exit 0, sh 21 [], []), (.ret, sh 21 [(4, .bool 0)], [])] f) (funext op_L80_2_eq)
theorem L80_2_run : ∀ t s x, (manyRun L80_2 t s).sel = some x → CodeOk Try.prog 0 (.loop (cAt Try.prog 80 2)) t s x := by
  rw [L80_2_eqs]
  exact mkM_ok (st := st_L80_2) (m := FU) cs_35b_ok hmix false (LsOk.none _ _ _) (by kernel_rfl) (fun env y h => by rw [← stepMC_lk]; exact h)
theorem op_L80_2_good {p : Nat × List Dat → Prop} (Inv : List Dat → Prop) (μ : List Dat → Nat) (h : ∀ env, Inv env → Good (fun y => match y with | .go e => Inv e ∧ μ e < μ env | .stop k d => p (k, d)) (st_L80_2 env).sel) (env : List Dat) (hi : Inv env) (hm : μ env < FU) : Good p (op_L80_2 env) := by
  rw [op_L80_2_eq]
  exact iterS_good Inv μ p h FU env hi hm

noncomputable def fn_L80_2_t : List Dat → Tree Step
  | [.n n0, .l (Ty.int IntKind.i64) l1, .n n2, .n n3] =>
    (.node (decide (n3 < n2))
     (.node (decide ((List.getD l1 (Int.toNat n3) (0 : Int) : Int) < (0 : Int)))
      (.leaf (Step.stop 1 [.b false]))
      (.node (decide ((List.getD l1 (Int.toNat n3) (0 : Int) : Int) > n0))
       (.leaf (Step.stop 1 [.b false]))
       (.leaf (Step.go [.k 0, .n n0, .l (Ty.int IntKind.i64) l1, .n n2, .n (IntKind.wrap .i64 (n3 + (1 : Int)))]))))
     (.leaf (Step.stop 0 [])))
  | _ => .bad 0
theorem fn_L80_2_t_im (n0 : Int) (l1 : List (Ty.den (Ty.int IntKind.i64))) (n2 : Int) (n3 : Int) (g0 : 0 ≤ n3) (g1 :  n2 = (l1.length : Int)) : Imp (fn_L80_2_t [.n n0, .l (Ty.int IntKind.i64) l1, .n n2, .n n3]) (st_L80_2 [.k 0, .n n0, .l TI l1, .n n2, .n n3]) :=
(.path [1] (by kernel_rfl)
(.node (by kernel_rfl) (by kernel_rfl) (fun h0 =>
(.pt (c := (inR n3 (List.length l1))) (by kernel_rfl) (by kernel_rfl) (by (simp only [w64d, decide_eq_true_eq, decide_eq_false_iff_not, beq_iff_eq, beq_eq_false_iff_ne, bne_iff_ne, ne_eq, inR, Bool.and_eq_true, Bool.and_eq_false_iff, Bool.not_eq_true', Bool.not_eq_false', Bool.not_eq_eq_eq_not, Bool.not_true, Bool.not_false] at *; omega))
(.node (by kernel_rfl) (by kernel_rfl) (fun h1 =>
(.path [1,1,1] (by kernel_rfl)
(.leaf (by kernel_rfl)))) (fun h1 =>
(.node (by kernel_rfl) (by kernel_rfl) (fun h2 =>
(.path [1] (by kernel_rfl)
(.leaf (by kernel_rfl)))) (fun h2 =>
(.path [1] (by kernel_rfl)
(.leaf (by kernel_rfl))))))))) (fun h0 =>
(.path [1] (by kernel_rfl)
(.leaf (by kernel_rfl))))))

theorem ls_80_ok : LsOk Try.prog (List.length ([] : List PB)) (lsM [(2, L80_2)] (List.length ([] : List PB))) (bodyOf Try.prog 80) := LsOk.many fun j B hB hk c hc hi => by
  simp only [lookM] at hB
  split at hB
  · rename_i e; have := Nat.eq_of_beq_eq_true e; subst this; cases hB
    have e1 : loopAt Try.prog 80 2 = [cAt Try.prog 80 2] := loopAt_one (by kernel_rfl)
    have e2 : c ∈ loopAt Try.prog 80 2 := loopsAt_mem hc hi
    rw [e1] at e2; cases List.mem_singleton.1 e2; exact L80_2_run
  cases hB

noncomputable def ev_80 (env : List Dat) : Tree (Nat × List Dat) := Lk.boxC false LK cs_35b 80 (lsM [(2, L80_2)] (List.length ([] : List PB))) (mkF [.int .i64 0, .imm TI 1] [] [] [(.bool 0, [])] fun _ => none) env
theorem op_80_ex : ∃ f : List Dat → Option (Nat × List Dat), ∀ env, f env = (ev_80 env).sel := ⟨fun env => (ev_80 env).sel, fun _ => rfl⟩
noncomputable def op_80 : List Dat → Option (Nat × List Dat) := Classical.choose op_80_ex
theorem op_80_eq (env : List Dat) : op_80 env = (ev_80 env).sel := Classical.choose_spec op_80_ex env
noncomputable def B80 : FBox := mkF [.int .i64 0, .imm TI 1] [] [] [(.bool 0, [])] op_80
theorem B80_ok : RunOk Try.prog 80 (boxRun B80) := mkF_ok (op := op_80) cs_35b_ok hmix false (ls_80_ok) (fun env x h => by rw [op_80_eq] at h; rw [← boxC_lk]; exact h)
theorem op_80_good {p : Nat × List Dat → Prop} {T : Tree (Nat × List Dat)} {env : List Dat} (h : Imp T (ev_80 env)) (g : Good p T.sel) : Good p (op_80 env) := by
  rw [op_80_eq]
  exact h.good g

noncomputable def fn_80_t : List Dat → Tree (Nat × List Dat)
  | [.n n0, .l (Ty.int IntKind.i64) l1] =>
    (let r1 : Option (Nat × List Dat) := (op_L80_2 [.k 0, .n n0, .l (Ty.int IntKind.i64) l1, .n (↑(List.length l1) : Int), .n (0 : Int)]);
     (.node (isK 0 [] r1)
      (.leaf ((0, [.b true])))
      (.node (isK 1 [HK.b] r1)
       (.leaf ((0, [.b (gb (dOf r1) 0)])))
       (.bad 351))))
  | _ => .bad 0
theorem fn_80_t_im (n0 : Int) (l1 : List (Ty.den (Ty.int IntKind.i64))) : Imp (fn_80_t [.n n0, .l (Ty.int IntKind.i64) l1]) (ev_80 [.n n0, .l TI l1]) :=
(.node (by kernel_rfl) (by kernel_rfl) (fun h0 =>
(.path [1] (by kernel_rfl)
(.leaf (by kernel_rfl)))) (fun h0 =>
(.node (by kernel_rfl) (by kernel_rfl) (fun h1 =>
(.path [1] (by kernel_rfl)
(.leaf (by kernel_rfl)))) (fun h1 =>
.none))))

noncomputable def cs_80 : FuncId → Option CSpec := csLend 80 B80 cs_35b
theorem cs_80_ok : CsOk Try.prog cs_80 := csLend_ok cs_35b_ok B80_ok

noncomputable def st_L88_1 (env : List Dat) : Tree Step := Lk.stepMC false LK cs_80 88 1 ls0 (mkM 3 [0, 1, 2] [(sh 16 [(0, .ptr 0 0), (6, .own 1), (7, .int .i64 0), (8, .int .i64 1)], [wrO 2, .arr TL 2, .arr TB 3])] [] [(.exit 0, sh 16 [(0, .ptr 0 0)], [wrO 2, .gone, .arr TB 0])] fun _ => none) env
theorem op_L88_1_ex : ∃ f : List Dat → Option (Nat × List Dat), ∀ env, f env = iterS st_L88_1 FU env := ⟨iterS st_L88_1 FU, fun _ => rfl⟩
noncomputable def op_L88_1 : List Dat → Option (Nat × List Dat) := Classical.choose op_L88_1_ex
theorem op_L88_1_eq (env : List Dat) : op_L88_1 env = iterS st_L88_1 FU env := Classical.choose_spec op_L88_1_ex env
noncomputable def L88_1 : MBox := mkM 3 [0, 1, 2] [(sh 16 [(0, .ptr 0 0), (6, .own 1), (7, .int .i64 0), (8, .int .i64 1)], [wrO 2, .arr TL 2, .arr TB 3])] [] [(.exit 0, sh 16 [(0, .ptr 0 0)], [wrO 2, .gone, .arr TB 0])] op_L88_1
theorem L88_1_eqs : L88_1 = mkM 3 [0, 1, 2] [(sh 16 [(0, .ptr 0 0), (6, .own 1), (7, .int .i64 0), (8, .int .i64 1)], [wrO 2, .arr TL 2, .arr TB 3])] [] [(.exit 0, sh 16 [(0, .ptr 0 0)], [wrO 2, .gone, .arr TB 0])] (iterS st_L88_1 FU) := congrArg (fun f => mkM 3 [0, 1, 2] [(sh 16 [(0, .ptr 0 0), (6, .own 1), (7, .int .i64 0), (8, .int .i64 1)], [wrO 2, .arr TL 2, .arr TB 3])] [] [(.exit 0, sh 16 [(0, .ptr 0 0)], [wrO 2, .gone, .arr TB 0])] f) (funext op_L88_1_eq)
theorem L88_1_run : ∀ t s x, (manyRun L88_1 t s).sel = some x → CodeOk Try.prog 3 (.loop (cAt Try.prog 88 1)) t s x := by
  rw [L88_1_eqs]
  exact mkM_ok (st := st_L88_1) (m := FU) cs_80_ok hmix false (LsOk.none _ _ _) (by kernel_rfl) (fun env y h => by rw [← stepMC_lk]; exact h)
theorem op_L88_1_good {p : Nat × List Dat → Prop} (Inv : List Dat → Prop) (μ : List Dat → Nat) (h : ∀ env, Inv env → Good (fun y => match y with | .go e => Inv e ∧ μ e < μ env | .stop k d => p (k, d)) (st_L88_1 env).sel) (env : List Dat) (hi : Inv env) (hm : μ env < FU) : Good p (op_L88_1 env) := by
  rw [op_L88_1_eq]
  exact iterS_good Inv μ p h FU env hi hm

noncomputable def fn_L88_1_t : List Dat → Tree Step
  | [.n n0, .n n1, .l (Ty.int IntKind.u64) l2, .l (Ty.int IntKind.u8) l3] =>
    (.node (decide (n1 < n0))
     (let r1 : Option (Nat × List Dat) := (op_35b [.n (List.getD l2 (Int.toNat n1) (0 : Int)), .n (8 : Int), .l (Ty.int IntKind.u8) l3]);
      (.node (isK 0 [HK.l (Ty.int IntKind.u8)] r1)
       (.leaf (Step.go [.k 0, .n n0, .n (IntKind.wrap .i64 (n1 + (1 : Int))), .l (Ty.int IntKind.u64) l2, .l (Ty.int IntKind.u8) (gl (Ty.int IntKind.u8) (dOf r1) 0)]))
       (.bad 351)))
     (.leaf (Step.stop 0 [.l (Ty.int IntKind.u8) l3])))
  | _ => .bad 0
theorem fn_L88_1_t_im (n0 : Int) (n1 : Int) (l2 : List (Ty.den (Ty.int IntKind.u64))) (l3 : List (Ty.den (Ty.int IntKind.u8))) (g0 : 0 ≤ n1) (g1 :  n0 = (l2.length : Int)) : Imp (fn_L88_1_t [.n n0, .n n1, .l (Ty.int IntKind.u64) l2, .l (Ty.int IntKind.u8) l3]) (st_L88_1 [.k 0, .n n0, .n n1, .l TL l2, .l TB l3]) :=
(.path [1] (by kernel_rfl)
(.node (by kernel_rfl) (by kernel_rfl) (fun h0 =>
(.pt (c := (inR n1 (List.length l2))) (by kernel_rfl) (by kernel_rfl) (by (simp only [w64d, decide_eq_true_eq, decide_eq_false_iff_not, beq_iff_eq, beq_eq_false_iff_ne, bne_iff_ne, ne_eq, inR, Bool.and_eq_true, Bool.and_eq_false_iff, Bool.not_eq_true', Bool.not_eq_false', Bool.not_eq_eq_eq_not, Bool.not_true, Bool.not_false] at *; omega))
(.path [1,1,0,0,0,0,1,1] (by kernel_rfl)
(.node (by kernel_rfl) (by kernel_rfl) (fun h1 =>
(.path [1,0,1,1,1] (by kernel_rfl)
(.leaf (by kernel_rfl)))) (fun h1 =>
.none))))) (fun h0 =>
(.path [1] (by kernel_rfl)
(.leaf (by kernel_rfl))))))

theorem ls_88_ok : LsOk Try.prog (List.length ([wrO 2, .arr TL 0, .arr TB 1] : List PB)) (lsM [(1, L88_1)] (List.length ([wrO 2, .arr TL 0, .arr TB 1] : List PB))) (bodyOf Try.prog 88) := LsOk.many fun j B hB hk c hc hi => by
  simp only [lookM] at hB
  split at hB
  · rename_i e; have := Nat.eq_of_beq_eq_true e; subst this; cases hB
    have e1 : loopAt Try.prog 88 1 = [cAt Try.prog 88 1] := loopAt_one (by kernel_rfl)
    have e2 : c ∈ loopAt Try.prog 88 1 := loopsAt_mem hc hi
    rw [e1] at e2; cases List.mem_singleton.1 e2; exact L88_1_run
  cases hB

noncomputable def ev_88 (env : List Dat) : Tree (Nat × List Dat) := Lk.boxC false LK cs_80 88 (lsM [(1, L88_1)] (List.length ([wrO 2, .arr TL 0, .arr TB 1] : List PB))) (mkF [.ptr 0 0, .own 1] [wrO 2, .arr TL 0, .arr TB 1] [0, 1, 2] [(.tup [], [wrO 2, .gone, .arr TB 0])] fun _ => none) env
theorem op_88_ex : ∃ f : List Dat → Option (Nat × List Dat), ∀ env, f env = (ev_88 env).sel := ⟨fun env => (ev_88 env).sel, fun _ => rfl⟩
noncomputable def op_88 : List Dat → Option (Nat × List Dat) := Classical.choose op_88_ex
theorem op_88_eq (env : List Dat) : op_88 env = (ev_88 env).sel := Classical.choose_spec op_88_ex env
noncomputable def B88 : FBox := mkF [.ptr 0 0, .own 1] [wrO 2, .arr TL 0, .arr TB 1] [0, 1, 2] [(.tup [], [wrO 2, .gone, .arr TB 0])] op_88
theorem B88_ok : RunOk Try.prog 88 (boxRun B88) := mkF_ok (op := op_88) cs_80_ok hmix false (ls_88_ok) (fun env x h => by rw [op_88_eq] at h; rw [← boxC_lk]; exact h)
theorem op_88_good {p : Nat × List Dat → Prop} {T : Tree (Nat × List Dat)} {env : List Dat} (h : Imp T (ev_88 env)) (g : Good p T.sel) : Good p (op_88 env) := by
  rw [op_88_eq]
  exact h.good g

noncomputable def fn_88_t : List Dat → Tree (Nat × List Dat)
  | [.l (Ty.int IntKind.u64) l0, .l (Ty.int IntKind.u8) l1] =>
    (let r1 : Option (Nat × List Dat) := (op_L88_1 [.k 0, .n (↑(List.length l0) : Int), .n (0 : Int), .l (Ty.int IntKind.u64) l0, .l (Ty.int IntKind.u8) l1]);
     (.node (isK 0 [HK.l (Ty.int IntKind.u8)] r1)
      (.leaf ((0, [.l (Ty.int IntKind.u8) (gl (Ty.int IntKind.u8) (dOf r1) 0)])))
      (.bad 351)))
  | _ => .bad 0
theorem fn_88_t_im (l0 : List (Ty.den (Ty.int IntKind.u64))) (l1 : List (Ty.den (Ty.int IntKind.u8))) : Imp (fn_88_t [.l (Ty.int IntKind.u64) l0, .l (Ty.int IntKind.u8) l1]) (ev_88 [.l TL l0, .l TB l1]) :=
(.node (by kernel_rfl) (by kernel_rfl) (fun h0 =>
(.path [1] (by kernel_rfl)
(.leaf (by kernel_rfl)))) (fun h0 =>
.none))

noncomputable def cs_88 : FuncId → Option CSpec := csAdd 88 [B88] cs_80
theorem cs_88_ok : CsOk Try.prog cs_88 := csAdd_ok cs_80_ok fun B hB => by
  cases List.mem_singleton.1 hB
  exact B88_ok

noncomputable def st_L46_2 (env : List Dat) : Tree Step := Lk.stepMC false LK cs_88 46 2 ls0 (mkM 0 [] [(sh 40 [(1, .ptr 0 0), (7, .imm TC 0), (8, .int .i64 1), (9, .int .i64 2)], [inB 3])] [] [(.exit 0, sh 40 [(1, .ptr 0 0)], [inB 0]), (.ret, sh 40 [(2, .bool 0)], [])] fun _ => none) env
theorem op_L46_2_ex : ∃ f : List Dat → Option (Nat × List Dat), ∀ env, f env = iterS st_L46_2 FU env := ⟨iterS st_L46_2 FU, fun _ => rfl⟩
noncomputable def op_L46_2 : List Dat → Option (Nat × List Dat) := Classical.choose op_L46_2_ex
theorem op_L46_2_eq (env : List Dat) : op_L46_2 env = iterS st_L46_2 FU env := Classical.choose_spec op_L46_2_ex env
noncomputable def L46_2 : MBox := mkM 0 [] [(sh 40 [(1, .ptr 0 0), (7, .imm TC 0), (8, .int .i64 1), (9, .int .i64 2)], [inB 3])] [] [(.exit 0, sh 40 [(1, .ptr 0 0)], [inB 0]), (.ret, sh 40 [(2, .bool 0)], [])] op_L46_2
theorem L46_2_eqs : L46_2 = mkM 0 [] [(sh 40 [(1, .ptr 0 0), (7, .imm TC 0), (8, .int .i64 1), (9, .int .i64 2)], [inB 3])] [] [(.exit 0, sh 40 [(1, .ptr 0 0)], [inB 0]), (.ret, sh 40 [(2, .bool 0)], [])] (iterS st_L46_2 FU) := congrArg (fun f => mkM 0 [] [(sh 40 [(1, .ptr 0 0), (7, .imm TC 0), (8, .int .i64 1), (9, .int .i64 2)], [inB 3])] [] [(.exit 0, sh 40 [(1, .ptr 0 0)], [inB 0]), (.ret, sh 40 [(2, .bool 0)], [])] f) (funext op_L46_2_eq)
theorem L46_2_run : ∀ t s x, (manyRun L46_2 t s).sel = some x → CodeOk Try.prog 0 (.loop (cAt Try.prog 46 2)) t s x := by
  rw [L46_2_eqs]
  exact mkM_ok (st := st_L46_2) (m := FU) cs_88_ok hmix false (LsOk.none _ _ _) (by kernel_rfl) (fun env y h => by rw [← stepMC_lk]; exact h)
theorem op_L46_2_good {p : Nat × List Dat → Prop} (Inv : List Dat → Prop) (μ : List Dat → Nat) (h : ∀ env, Inv env → Good (fun y => match y with | .go e => Inv e ∧ μ e < μ env | .stop k d => p (k, d)) (st_L46_2 env).sel) (env : List Dat) (hi : Inv env) (hm : μ env < FU) : Good p (op_L46_2 env) := by
  rw [op_L46_2_eq]
  exact iterS_good Inv μ p h FU env hi hm

noncomputable def fn_L46_2_t : List Dat → Tree Step
  | [.l (Ty.pair (Ty.int IntKind.u8) (Ty.int IntKind.i64)) l0, .n n1, .n n2, .n n3, .n n4, .n n5, .n n6, .n n7, .l (Ty.pair (Ty.int IntKind.u8) (Ty.int IntKind.i64)) l8] =>
    (.node (decide (n2 < n1))
     (.node (decide ((Prod.fst (List.getD l0 (Int.toNat n2) (Ty.dflt (Ty.pair (Ty.int IntKind.u8) (Ty.int IntKind.i64)))) : Int) < (1 : Int)))
      (.leaf (Step.stop 1 [.b false]))
      (.node (decide ((Prod.fst (List.getD l0 (Int.toNat n2) (Ty.dflt (Ty.pair (Ty.int IntKind.u8) (Ty.int IntKind.i64)))) : Int) > (3 : Int)))
       (.leaf (Step.stop 1 [.b false]))
       (let r1 : Option (Nat × List Dat) := (op_80 [.n (63 : Int), .l (Ty.int IntKind.i64) [Prod.snd (List.getD l0 (Int.toNat n2) (Ty.dflt (Ty.pair (Ty.int IntKind.u8) (Ty.int IntKind.i64))))]]);
        (.node (isK 0 [HK.b] r1)
         (.node (!gb (dOf r1) 0)
          (.leaf (Step.stop 1 [.b false]))
          (.leaf (Step.go [.k 0, .l (Ty.pair (Ty.int IntKind.u8) (Ty.int IntKind.i64)) l0, .n n1, .n (IntKind.wrap .i64 (n2 + (1 : Int))), .n n3, .n n4, .n n5, .n n6, .n n7, .l (Ty.pair (Ty.int IntKind.u8) (Ty.int IntKind.i64)) l0])))
         (.bad 351)))))
     (.leaf (Step.stop 0 [.n n3, .n n4, .n n5, .n n6, .n n7, .l (Ty.pair (Ty.int IntKind.u8) (Ty.int IntKind.i64)) l0])))
  | _ => .bad 0
theorem fn_L46_2_t_im (l0 : List (Ty.den (Ty.pair (Ty.int IntKind.u8) (Ty.int IntKind.i64)))) (n1 : Int) (n2 : Int) (n3 : Int) (n4 : Int) (n5 : Int) (n6 : Int) (n7 : Int) (l8 : List (Ty.den (Ty.pair (Ty.int IntKind.u8) (Ty.int IntKind.i64)))) (g0 : 0 ≤ n2) (g1 :  n1 = (l0.length : Int)) : Imp (fn_L46_2_t [.l (Ty.pair (Ty.int IntKind.u8) (Ty.int IntKind.i64)) l0, .n n1, .n n2, .n n3, .n n4, .n n5, .n n6, .n n7, .l (Ty.pair (Ty.int IntKind.u8) (Ty.int IntKind.i64)) l8]) (st_L46_2 [.k 0, .l TC l0, .n n1, .n n2, .n n3, .n n4, .n n5, .n n6, .n n7, .l TC l0]) :=
(.path [1] (by kernel_rfl)
(.node (by kernel_rfl) (by kernel_rfl) (fun h0 =>
(.pt (c := (inR n2 (List.length l0))) (by kernel_rfl) (by kernel_rfl) (by (simp only [w64d, decide_eq_true_eq, decide_eq_false_iff_not, beq_iff_eq, beq_eq_false_iff_ne, bne_iff_ne, ne_eq, inR, Bool.and_eq_true, Bool.and_eq_false_iff, Bool.not_eq_true', Bool.not_eq_false', Bool.not_eq_eq_eq_not, Bool.not_true, Bool.not_false] at *; omega))
(.node (by kernel_rfl) (by kernel_rfl) (fun h1 =>
(.path [1,1,1,1,1] (by kernel_rfl)
(.leaf (by kernel_rfl)))) (fun h1 =>
(.node (by kernel_rfl) (by kernel_rfl) (fun h2 =>
(.path [1,1,1] (by kernel_rfl)
(.leaf (by kernel_rfl)))) (fun h2 =>
(.node (by kernel_rfl) (by kernel_rfl) (fun h3 =>
(.path [1] (by kernel_rfl)
(.node (by kernel_rfl) (by kernel_rfl) (fun h4 =>
(.path [1] (by kernel_rfl)
(.leaf (by kernel_rfl)))) (fun h4 =>
(.path [1] (by kernel_rfl)
(.leaf (by kernel_rfl))))))) (fun h3 =>
.none)))))))) (fun h0 =>
(.path [1] (by kernel_rfl)
(.leaf (by kernel_rfl))))))

theorem ls_46_ok : LsOk Try.prog (List.length ([] : List PB)) (lsM [(2, L46_2)] (List.length ([] : List PB))) (bodyOf Try.prog 46) := LsOk.many fun j B hB hk c hc hi => by
  simp only [lookM] at hB
  split at hB
  · rename_i e; have := Nat.eq_of_beq_eq_true e; subst this; cases hB
    have e1 : loopAt Try.prog 46 2 = [cAt Try.prog 46 2] := loopAt_one (by kernel_rfl)
    have e2 : c ∈ loopAt Try.prog 46 2 := loopsAt_mem hc hi
    rw [e1] at e2; cases List.mem_singleton.1 e2; exact L46_2_run
  cases hB

noncomputable def ev_46 (env : List Dat) : Tree (Nat × List Dat) := Lk.boxC false LK cs_88 46 (lsM [(2, L46_2)] (List.length ([] : List PB))) (mkF [inV 0] [] [] [(.bool 0, [])] fun _ => none) env
theorem op_46_ex : ∃ f : List Dat → Option (Nat × List Dat), ∀ env, f env = (ev_46 env).sel := ⟨fun env => (ev_46 env).sel, fun _ => rfl⟩
noncomputable def op_46 : List Dat → Option (Nat × List Dat) := Classical.choose op_46_ex
theorem op_46_eq (env : List Dat) : op_46 env = (ev_46 env).sel := Classical.choose_spec op_46_ex env
noncomputable def B46 : FBox := mkF [inV 0] [] [] [(.bool 0, [])] op_46
theorem B46_ok : RunOk Try.prog 46 (boxRun B46) := mkF_ok (op := op_46) cs_88_ok hmix false (ls_46_ok) (fun env x h => by rw [op_46_eq] at h; rw [← boxC_lk]; exact h)
theorem op_46_good {p : Nat × List Dat → Prop} {T : Tree (Nat × List Dat)} {env : List Dat} (h : Imp T (ev_46 env)) (g : Good p T.sel) : Good p (op_46 env) := by
  rw [op_46_eq]
  exact h.good g

noncomputable def fn_46_t : List Dat → Tree (Nat × List Dat)
  | [.n n0, .n n1, .n n2, .n n3, .n n4, .l (Ty.pair (Ty.int IntKind.u8) (Ty.int IntKind.i64)) l5] =>
    (let r1 : Option (Nat × List Dat) := (op_L46_2 [.k 0, .l (Ty.pair (Ty.int IntKind.u8) (Ty.int IntKind.i64)) l5, .n (↑(List.length l5) : Int), .n (0 : Int), .n n0, .n n1, .n n2, .n n3, .n n4, .l (Ty.pair (Ty.int IntKind.u8) (Ty.int IntKind.i64)) l5]);
     (.node (isK 0 [HK.n, HK.n, HK.n, HK.n, HK.n, HK.l (Ty.pair (Ty.int IntKind.u8) (Ty.int IntKind.i64))] r1)
      (let r2 : Option (Nat × List Dat) := (op_80 [.n (1099511627776 : Int), .l (Ty.int IntKind.i64) [gn (dOf r1) 1]]);
       (.node (isK 0 [HK.b] r2)
        (.node (gb (dOf r2) 0)
         (.leaf ((0, [.b (decide ((↑(List.length (gl (Ty.pair (Ty.int IntKind.u8) (Ty.int IntKind.i64)) (dOf r1) 5)) : Int) ≤ (8 : Int)))])))
         (.leaf ((0, [.b false]))))
        (.bad 351)))
      (.node (isK 1 [HK.b] r1)
       (.leaf ((0, [.b (gb (dOf r1) 0)])))
       (.bad 351))))
  | _ => .bad 0
theorem fn_46_t_im (n0 : Int) (n1 : Int) (n2 : Int) (n3 : Int) (n4 : Int) (l5 : List (Ty.den (Ty.pair (Ty.int IntKind.u8) (Ty.int IntKind.i64)))) : Imp (fn_46_t [.n n0, .n n1, .n n2, .n n3, .n n4, .l (Ty.pair (Ty.int IntKind.u8) (Ty.int IntKind.i64)) l5]) (ev_46 [.n n0, .n n1, .n n2, .n n3, .n n4, .l TC l5]) :=
(.node (by kernel_rfl) (by kernel_rfl) (fun h0 =>
(.node (by kernel_rfl) (by kernel_rfl) (fun h1 =>
(.path [1] (by kernel_rfl)
(.node (by kernel_rfl) (by kernel_rfl) (fun h2 =>
(.path [1] (by kernel_rfl)
(.leaf (by kernel_rfl)))) (fun h2 =>
(.path [0,1] (by kernel_rfl)
(.leaf (by kernel_rfl))))))) (fun h1 =>
.none))) (fun h0 =>
(.node (by kernel_rfl) (by kernel_rfl) (fun h1 =>
(.path [1] (by kernel_rfl)
(.leaf (by kernel_rfl)))) (fun h1 =>
.none))))

noncomputable def cs_46 : FuncId → Option CSpec := csLend 46 B46 cs_88
theorem cs_46_ok : CsOk Try.prog cs_46 := csLend_ok cs_88_ok B46_ok

noncomputable def st_L63_7 (env : List Dat) : Tree Step := Lk.stepMC false LK cs_46 63 7 ls0 (mkM 2 [0, 1] [(sh 54 [(0, .ptr 0 0), (38, .imm TC 0), (39, .int .i64 1), (40, .int .i64 2)], [wrO 1, .arr TB 3])] [] [(.exit 0, sh 54 [(0, .ptr 0 0)], [wrO 1, .arr TB 0])] fun _ => none) env
theorem op_L63_7_ex : ∃ f : List Dat → Option (Nat × List Dat), ∀ env, f env = iterS st_L63_7 FU env := ⟨iterS st_L63_7 FU, fun _ => rfl⟩
noncomputable def op_L63_7 : List Dat → Option (Nat × List Dat) := Classical.choose op_L63_7_ex
theorem op_L63_7_eq (env : List Dat) : op_L63_7 env = iterS st_L63_7 FU env := Classical.choose_spec op_L63_7_ex env
noncomputable def L63_7 : MBox := mkM 2 [0, 1] [(sh 54 [(0, .ptr 0 0), (38, .imm TC 0), (39, .int .i64 1), (40, .int .i64 2)], [wrO 1, .arr TB 3])] [] [(.exit 0, sh 54 [(0, .ptr 0 0)], [wrO 1, .arr TB 0])] op_L63_7
theorem L63_7_eqs : L63_7 = mkM 2 [0, 1] [(sh 54 [(0, .ptr 0 0), (38, .imm TC 0), (39, .int .i64 1), (40, .int .i64 2)], [wrO 1, .arr TB 3])] [] [(.exit 0, sh 54 [(0, .ptr 0 0)], [wrO 1, .arr TB 0])] (iterS st_L63_7 FU) := congrArg (fun f => mkM 2 [0, 1] [(sh 54 [(0, .ptr 0 0), (38, .imm TC 0), (39, .int .i64 1), (40, .int .i64 2)], [wrO 1, .arr TB 3])] [] [(.exit 0, sh 54 [(0, .ptr 0 0)], [wrO 1, .arr TB 0])] f) (funext op_L63_7_eq)
theorem L63_7_run : ∀ t s x, (manyRun L63_7 t s).sel = some x → CodeOk Try.prog 2 (.loop (cAt Try.prog 63 7)) t s x := by
  rw [L63_7_eqs]
  exact mkM_ok (st := st_L63_7) (m := FU) cs_46_ok hmix false (LsOk.none _ _ _) (by kernel_rfl) (fun env y h => by rw [← stepMC_lk]; exact h)
theorem op_L63_7_good {p : Nat × List Dat → Prop} (Inv : List Dat → Prop) (μ : List Dat → Nat) (h : ∀ env, Inv env → Good (fun y => match y with | .go e => Inv e ∧ μ e < μ env | .stop k d => p (k, d)) (st_L63_7 env).sel) (env : List Dat) (hi : Inv env) (hm : μ env < FU) : Good p (op_L63_7 env) := by
  rw [op_L63_7_eq]
  exact iterS_good Inv μ p h FU env hi hm

noncomputable def fn_L63_7_t : List Dat → Tree Step
  | [.l (Ty.pair (Ty.int IntKind.u8) (Ty.int IntKind.i64)) l0, .n n1, .n n2, .l (Ty.int IntKind.u8) l3] =>
    (.node (decide (n2 < n1))
     (let r1 : Option (Nat × List Dat) := (op_35b [.n (IntKind.wrap .u64 (Prod.fst (List.getD l0 (Int.toNat n2) (Ty.dflt (Ty.pair (Ty.int IntKind.u8) (Ty.int IntKind.i64)))))), .n (1 : Int), .l (Ty.int IntKind.u8) l3]);
      (.node (isK 0 [HK.l (Ty.int IntKind.u8)] r1)
       (let r2 : Option (Nat × List Dat) := (op_35b [.n (IntKind.wrap .u64 (IntKind.wrap .u8 (Prod.snd (List.getD l0 (Int.toNat n2) (Ty.dflt (Ty.pair (Ty.int IntKind.u8) (Ty.int IntKind.i64))))))), .n (1 : Int), .l (Ty.int IntKind.u8) (gl (Ty.int IntKind.u8) (dOf r1) 0)]);
        (.node (isK 0 [HK.l (Ty.int IntKind.u8)] r2)
         (.leaf (Step.go [.k 0, .l (Ty.pair (Ty.int IntKind.u8) (Ty.int IntKind.i64)) l0, .n n1, .n (IntKind.wrap .i64 (n2 + (1 : Int))), .l (Ty.int IntKind.u8) (gl (Ty.int IntKind.u8) (dOf r2) 0)]))
         (.bad 351)))
       (.bad 351)))
     (.leaf (Step.stop 0 [.l (Ty.int IntKind.u8) l3])))
  | _ => .bad 0
theorem fn_L63_7_t_im (l0 : List (Ty.den (Ty.pair (Ty.int IntKind.u8) (Ty.int IntKind.i64)))) (n1 : Int) (n2 : Int) (l3 : List (Ty.den (Ty.int IntKind.u8))) (g0 : 0 ≤ n2) (g1 :  n1 = (l0.length : Int)) : Imp (fn_L63_7_t [.l (Ty.pair (Ty.int IntKind.u8) (Ty.int IntKind.i64)) l0, .n n1, .n n2, .l (Ty.int IntKind.u8) l3]) (st_L63_7 [.k 0, .l TC l0, .n n1, .n n2, .l TB l3]) :=
(.path [1] (by kernel_rfl)
(.node (by kernel_rfl) (by kernel_rfl) (fun h0 =>
(.pt (c := (inR n2 (List.length l0))) (by kernel_rfl) (by kernel_rfl) (by (simp only [w64d, decide_eq_true_eq, decide_eq_false_iff_not, beq_iff_eq, beq_eq_false_iff_ne, bne_iff_ne, ne_eq, inR, Bool.and_eq_true, Bool.and_eq_false_iff, Bool.not_eq_true', Bool.not_eq_false', Bool.not_eq_eq_eq_not, Bool.not_true, Bool.not_false] at *; omega))
(.path [1,1,0,1,1] (by kernel_rfl)
(.node (by kernel_rfl) (by kernel_rfl) (fun h1 =>
(.path [1,0,0,0,0,1,1,1,1,0,1,1] (by kernel_rfl)
(.node (by kernel_rfl) (by kernel_rfl) (fun h2 =>
(.path [1,0,0,0,0,1,1,1] (by kernel_rfl)
(.leaf (by kernel_rfl)))) (fun h2 =>
.none)))) (fun h1 =>
.none))))) (fun h0 =>
(.path [1] (by kernel_rfl)
(.leaf (by kernel_rfl))))))

theorem ls_63_ok : LsOk Try.prog (List.length ([wrO 1, .arr TB 6] : List PB)) (lsM [(7, L63_7)] (List.length ([wrO 1, .arr TB 6] : List PB))) (bodyOf Try.prog 63) := LsOk.many fun j B hB hk c hc hi => by
  simp only [lookM] at hB
  split at hB
  · rename_i e; have := Nat.eq_of_beq_eq_true e; subst this; cases hB
    have e1 : loopAt Try.prog 63 7 = [cAt Try.prog 63 7] := loopAt_one (by kernel_rfl)
    have e2 : c ∈ loopAt Try.prog 63 7 := loopsAt_mem hc hi
    rw [e1] at e2; cases List.mem_singleton.1 e2; exact L63_7_run
  cases hB

noncomputable def ev_63 (env : List Dat) : Tree (Nat × List Dat) := Lk.boxC false LK cs_46 63 (lsM [(7, L63_7)] (List.length ([wrO 1, .arr TB 6] : List PB))) (mkF [.ptr 0 0, inV 0] [wrO 1, .arr TB 6] [0, 1] [(.tup [], [wrO 1, .arr TB 0])] fun _ => none) env
theorem op_63_ex : ∃ f : List Dat → Option (Nat × List Dat), ∀ env, f env = (ev_63 env).sel := ⟨fun env => (ev_63 env).sel, fun _ => rfl⟩
noncomputable def op_63 : List Dat → Option (Nat × List Dat) := Classical.choose op_63_ex
theorem op_63_eq (env : List Dat) : op_63 env = (ev_63 env).sel := Classical.choose_spec op_63_ex env
noncomputable def B63 : FBox := mkF [.ptr 0 0, inV 0] [wrO 1, .arr TB 6] [0, 1] [(.tup [], [wrO 1, .arr TB 0])] op_63
theorem B63_ok : RunOk Try.prog 63 (boxRun B63) := mkF_ok (op := op_63) cs_46_ok hmix false (ls_63_ok) (fun env x h => by rw [op_63_eq] at h; rw [← boxC_lk]; exact h)
theorem op_63_good {p : Nat × List Dat → Prop} {T : Tree (Nat × List Dat)} {env : List Dat} (h : Imp T (ev_63 env)) (g : Good p T.sel) : Good p (op_63 env) := by
  rw [op_63_eq]
  exact h.good g

noncomputable def fn_63_t : List Dat → Tree (Nat × List Dat)
  | [.n n0, .n n1, .n n2, .n n3, .n n4, .l (Ty.pair (Ty.int IntKind.u8) (Ty.int IntKind.i64)) l5, .l (Ty.int IntKind.u8) l6] =>
    (let r1 : Option (Nat × List Dat) := (op_35b [.n (IntKind.wrap .u64 n0), .n (1 : Int), .l (Ty.int IntKind.u8) l6]);
     (.node (isK 0 [HK.l (Ty.int IntKind.u8)] r1)
      (let r2 : Option (Nat × List Dat) := (op_88 [.l (Ty.int IntKind.u64) [IntKind.wrap .u64 n1, n2], .l (Ty.int IntKind.u8) (gl (Ty.int IntKind.u8) (dOf r1) 0)]);
       (.node (isK 0 [HK.l (Ty.int IntKind.u8)] r2)
        (let r3 : Option (Nat × List Dat) := (op_35b [.n (IntKind.wrap .u64 n3), .n (4 : Int), .l (Ty.int IntKind.u8) (gl (Ty.int IntKind.u8) (dOf r2) 0)]);
         (.node (isK 0 [HK.l (Ty.int IntKind.u8)] r3)
          (let r4 : Option (Nat × List Dat) := (op_35b [.n (IntKind.wrap .u64 n4), .n (4 : Int), .l (Ty.int IntKind.u8) (gl (Ty.int IntKind.u8) (dOf r3) 0)]);
           (.node (isK 0 [HK.l (Ty.int IntKind.u8)] r4)
            (let r5 : Option (Nat × List Dat) := (op_35b [.n (IntKind.wrap .u64 (IntKind.wrap .u8 (↑(List.length l5) : Int))), .n (1 : Int), .l (Ty.int IntKind.u8) (gl (Ty.int IntKind.u8) (dOf r4) 0)]);
             (.node (isK 0 [HK.l (Ty.int IntKind.u8)] r5)
              (let r6 : Option (Nat × List Dat) := (op_L63_7 [.k 0, .l (Ty.pair (Ty.int IntKind.u8) (Ty.int IntKind.i64)) l5, .n (↑(List.length l5) : Int), .n (0 : Int), .l (Ty.int IntKind.u8) (gl (Ty.int IntKind.u8) (dOf r5) 0)]);
               (.node (isK 0 [HK.l (Ty.int IntKind.u8)] r6)
                (.leaf ((0, [.l (Ty.int IntKind.u8) (gl (Ty.int IntKind.u8) (dOf r6) 0)])))
                (.bad 351)))
              (.bad 351)))
            (.bad 351)))
          (.bad 351)))
        (.bad 351)))
      (.bad 351)))
  | _ => .bad 0
theorem fn_63_t_im (n0 : Int) (n1 : Int) (n2 : Int) (n3 : Int) (n4 : Int) (l5 : List (Ty.den (Ty.pair (Ty.int IntKind.u8) (Ty.int IntKind.i64)))) (l6 : List (Ty.den (Ty.int IntKind.u8))) : Imp (fn_63_t [.n n0, .n n1, .n n2, .n n3, .n n4, .l (Ty.pair (Ty.int IntKind.u8) (Ty.int IntKind.i64)) l5, .l (Ty.int IntKind.u8) l6]) (ev_63 [.n n0, .n n1, .n n2, .n n3, .n n4, .l TC l5, .l TB l6]) :=
(.path [1,1,0,1,1] (by kernel_rfl)
(.node (by kernel_rfl) (by kernel_rfl) (fun h0 =>
(.path [1,0,0,0,0,1,1,1] (by kernel_rfl)
(.node (by kernel_rfl) (by kernel_rfl) (fun h1 =>
(.path [1,1,1,0,0,0,1,1] (by kernel_rfl)
(.node (by kernel_rfl) (by kernel_rfl) (fun h2 =>
(.path [1,0,0,1,1,1,1,0,0,0,1,1] (by kernel_rfl)
(.node (by kernel_rfl) (by kernel_rfl) (fun h3 =>
(.path [1,0,0,1,1,1,1,0,1,1] (by kernel_rfl)
(.node (by kernel_rfl) (by kernel_rfl) (fun h4 =>
(.path [1,0,0,0,0,1,1] (by kernel_rfl)
(.node (by kernel_rfl) (by kernel_rfl) (fun h5 =>
(.path [1] (by kernel_rfl)
(.leaf (by kernel_rfl)))) (fun h5 =>
.none)))) (fun h4 =>
.none)))) (fun h3 =>
.none)))) (fun h2 =>
.none)))) (fun h1 =>
.none)))) (fun h0 =>
.none)))

noncomputable def cs_63 : FuncId → Option CSpec := csAdd 63 [B63] cs_46
theorem cs_63_ok : CsOk Try.prog cs_63 := csAdd_ok cs_46_ok fun B hB => by
  cases List.mem_singleton.1 hB
  exact B63_ok

noncomputable def ev_60 (env : List Dat) : Tree (Nat × List Dat) := Lk.boxC false LK cs_63 60 ls0 (mkF [liV 0] [] [] [(.bool 0, [])] fun _ => none) env
theorem op_60_ex : ∃ f : List Dat → Option (Nat × List Dat), ∀ env, f env = (ev_60 env).sel := ⟨fun env => (ev_60 env).sel, fun _ => rfl⟩
noncomputable def op_60 : List Dat → Option (Nat × List Dat) := Classical.choose op_60_ex
theorem op_60_eq (env : List Dat) : op_60 env = (ev_60 env).sel := Classical.choose_spec op_60_ex env
noncomputable def B60 : FBox := mkF [liV 0] [] [] [(.bool 0, [])] op_60
theorem B60_ok : RunOk Try.prog 60 (boxRun B60) := mkF_ok (op := op_60) cs_63_ok hmix false (LsOk.none _ _ _) (fun env x h => by rw [op_60_eq] at h; rw [← boxC_lk]; exact h)
theorem op_60_good {p : Nat × List Dat → Prop} {T : Tree (Nat × List Dat)} {env : List Dat} (h : Imp T (ev_60 env)) (g : Good p T.sel) : Good p (op_60 env) := by
  rw [op_60_eq]
  exact h.good g

noncomputable def fn_60_t : List Dat → Tree (Nat × List Dat)
  | [.n n0, .n n1, .n n2, .n n3, .l (Ty.int IntKind.u8) l4] =>
    (let r1 : Option (Nat × List Dat) := (op_80 [.n (4611686018427387904 : Int), .l (Ty.int IntKind.i64) [n2, n3]]);
     (.node (isK 0 [HK.b] r1)
      (.node (gb (dOf r1) 0)
       (.leaf ((0, [.b (decide ((↑(List.length l4) : Int) ≤ (2048 : Int)))])))
       (.leaf ((0, [.b false]))))
      (.bad 351)))
  | _ => .bad 0
theorem fn_60_t_im (n0 : Int) (n1 : Int) (n2 : Int) (n3 : Int) (l4 : List (Ty.den (Ty.int IntKind.u8))) : Imp (fn_60_t [.n n0, .n n1, .n n2, .n n3, .l (Ty.int IntKind.u8) l4]) (ev_60 [.n n0, .n n1, .n n2, .n n3, .l TB l4]) :=
(.node (by kernel_rfl) (by kernel_rfl) (fun h0 =>
(.path [1] (by kernel_rfl)
(.node (by kernel_rfl) (by kernel_rfl) (fun h1 =>
(.path [1] (by kernel_rfl)
(.leaf (by kernel_rfl)))) (fun h1 =>
(.path [0,1] (by kernel_rfl)
(.leaf (by kernel_rfl))))))) (fun h0 =>
.none))

noncomputable def cs_60 : FuncId → Option CSpec := csLend 60 B60 cs_63
theorem cs_60_ok : CsOk Try.prog cs_60 := csLend_ok cs_63_ok B60_ok

noncomputable def ev_71 (env : List Dat) : Tree (Nat × List Dat) := Lk.boxC false LK cs_60 71 ls0 (mkF [.ptr 0 0, liV 0] [wrO 1, .arr TB 5] [0, 1] [(.tup [], [wrO 1, .arr TB 0])] fun _ => none) env
theorem op_71_ex : ∃ f : List Dat → Option (Nat × List Dat), ∀ env, f env = (ev_71 env).sel := ⟨fun env => (ev_71 env).sel, fun _ => rfl⟩
noncomputable def op_71 : List Dat → Option (Nat × List Dat) := Classical.choose op_71_ex
theorem op_71_eq (env : List Dat) : op_71 env = (ev_71 env).sel := Classical.choose_spec op_71_ex env
noncomputable def B71 : FBox := mkF [.ptr 0 0, liV 0] [wrO 1, .arr TB 5] [0, 1] [(.tup [], [wrO 1, .arr TB 0])] op_71
theorem B71_ok : RunOk Try.prog 71 (boxRun B71) := mkF_ok (op := op_71) cs_60_ok hmix false (LsOk.none _ _ _) (fun env x h => by rw [op_71_eq] at h; rw [← boxC_lk]; exact h)
theorem op_71_good {p : Nat × List Dat → Prop} {T : Tree (Nat × List Dat)} {env : List Dat} (h : Imp T (ev_71 env)) (g : Good p T.sel) : Good p (op_71 env) := by
  rw [op_71_eq]
  exact h.good g

noncomputable def fn_71_t : List Dat → Tree (Nat × List Dat)
  | [.n n0, .n n1, .n n2, .n n3, .l (Ty.int IntKind.u8) l4, .l (Ty.int IntKind.u8) l5] =>
    (let r1 : Option (Nat × List Dat) := (op_35b [.n (IntKind.wrap .u64 n0), .n (1 : Int), .l (Ty.int IntKind.u8) l5]);
     (.node (isK 0 [HK.l (Ty.int IntKind.u8)] r1)
      (let r2 : Option (Nat × List Dat) := (op_35b [.n (IntKind.wrap .u64 n1), .n (1 : Int), .l (Ty.int IntKind.u8) (gl (Ty.int IntKind.u8) (dOf r1) 0)]);
       (.node (isK 0 [HK.l (Ty.int IntKind.u8)] r2)
        (let r3 : Option (Nat × List Dat) := (op_88 [.l (Ty.int IntKind.u64) [IntKind.wrap .u64 n2, IntKind.wrap .u64 n3], .l (Ty.int IntKind.u8) (gl (Ty.int IntKind.u8) (dOf r2) 0)]);
         (.node (isK 0 [HK.l (Ty.int IntKind.u8)] r3)
          (let r4 : Option (Nat × List Dat) := (op_35b [.n (IntKind.wrap .u64 (IntKind.wrap .u16 (↑(List.length l4) : Int))), .n (2 : Int), .l (Ty.int IntKind.u8) (gl (Ty.int IntKind.u8) (dOf r3) 0)]);
           (.node (isK 0 [HK.l (Ty.int IntKind.u8)] r4)
            (.node (decide ((List.length (gl (Ty.int IntKind.u8) (dOf r4) 0) + List.length l4) * 1 ≤ 140737488355328))
             (.leaf ((0, [.l (Ty.int IntKind.u8) (gl (Ty.int IntKind.u8) (dOf r4) 0 ++ l4)])))
             (.bad 62))
            (.bad 351)))
          (.bad 351)))
        (.bad 351)))
      (.bad 351)))
  | _ => .bad 0
theorem fn_71_t_im (n0 : Int) (n1 : Int) (n2 : Int) (n3 : Int) (l4 : List (Ty.den (Ty.int IntKind.u8))) (l5 : List (Ty.den (Ty.int IntKind.u8))) : Imp (fn_71_t [.n n0, .n n1, .n n2, .n n3, .l (Ty.int IntKind.u8) l4, .l (Ty.int IntKind.u8) l5]) (ev_71 [.n n0, .n n1, .n n2, .n n3, .l TB l4, .l TB l5]) :=
(.path [1,1,0,1,1] (by kernel_rfl)
(.node (by kernel_rfl) (by kernel_rfl) (fun h0 =>
(.path [1,0,0,0,0,1,1,1,1,0,1,1] (by kernel_rfl)
(.node (by kernel_rfl) (by kernel_rfl) (fun h1 =>
(.path [1,0,0,0,0,1,1,1] (by kernel_rfl)
(.node (by kernel_rfl) (by kernel_rfl) (fun h2 =>
(.path [1,1,1,0,0,1,1] (by kernel_rfl)
(.node (by kernel_rfl) (by kernel_rfl) (fun h3 =>
(.path [1,0,0,0,1,1,1,1,0,0,0,0,0,1] (by kernel_rfl)
(.node (by kernel_rfl) (by kernel_rfl) (fun h4 =>
(.path [1,1,1] (by kernel_rfl)
(.leaf (by kernel_rfl)))) (fun h4 =>
.none)))) (fun h3 =>
.none)))) (fun h2 =>
.none)))) (fun h1 =>
.none)))) (fun h0 =>
.none)))

noncomputable def cs_71 : FuncId → Option CSpec := csAdd 71 [B71] cs_60
theorem cs_71_ok : CsOk Try.prog cs_71 := csAdd_ok cs_60_ok fun B hB => by
  cases List.mem_singleton.1 hB
  exact B71_ok

noncomputable def ev_9p (env : List Dat) : Tree (Nat × List Dat) := Lk.boxCN [(0, TB)] false LK cs_71 9 ls0 (mkF [inV 0] [] [] [(.own 0, [.arr TB 0])] fun _ => none) env
theorem op_9p_ex : ∃ f : List Dat → Option (Nat × List Dat), ∀ env, f env = (ev_9p env).sel := ⟨fun env => (ev_9p env).sel, fun _ => rfl⟩
noncomputable def op_9p : List Dat → Option (Nat × List Dat) := Classical.choose op_9p_ex
theorem op_9p_eq (env : List Dat) : op_9p env = (ev_9p env).sel := Classical.choose_spec op_9p_ex env
noncomputable def B9p : FBox := mkF [inV 0] [] [] [(.own 0, [.arr TB 0])] op_9p
theorem B9p_ok : RunOk Try.prog 9 (boxRun B9p) := mkFN_ok (nils := [(0, TB)]) (op := op_9p) cs_71_ok hmix false (LsOk.none _ _ _) (fun env x h => by rw [op_9p_eq] at h; rw [← boxCN_lk]; exact h)
theorem op_9p_good {p : Nat × List Dat → Prop} {T : Tree (Nat × List Dat)} {env : List Dat} (h : Imp T (ev_9p env)) (g : Good p T.sel) : Good p (op_9p env) := by
  rw [op_9p_eq]
  exact h.good g

noncomputable def fn_9p_t : List Dat → Tree (Nat × List Dat)
  | [.n n0, .n n1, .n n2, .n n3, .n n4, .l (Ty.pair (Ty.int IntKind.u8) (Ty.int IntKind.i64)) l5] =>
    (let r1 : Option (Nat × List Dat) := (op_46 [.n n0, .n n1, .n n2, .n n3, .n n4, .l (Ty.pair (Ty.int IntKind.u8) (Ty.int IntKind.i64)) l5]);
     (.node (isK 0 [HK.b] r1)
      (.node (gb (dOf r1) 0)
       (let r2 : Option (Nat × List Dat) := (op_35a [.n (1 : Int), .n (1 : Int)]);
        (.node (isK 0 [] r2)
         (.bad 340)
         (.node (isK 1 [HK.l (Ty.int IntKind.u8)] r2)
          (let r3 : Option (Nat × List Dat) := (op_63 [.n n0, .n n1, .n n2, .n n3, .n n4, .l (Ty.pair (Ty.int IntKind.u8) (Ty.int IntKind.i64)) l5, .l (Ty.int IntKind.u8) (gl (Ty.int IntKind.u8) (dOf r2) 0)]);
           (.node (isK 0 [HK.l (Ty.int IntKind.u8)] r3)
            (let r4 : Option (Nat × List Dat) := (op_31 [.l (Ty.int IntKind.u8) (gl (Ty.int IntKind.u8) (dOf r3) 0)]);
             (.node (isK 0 [HK.l (Ty.int IntKind.u8)] r4)
              (let r5 : Option (Nat × List Dat) := (op_q12 [.l (Ty.int IntKind.u8) (gl (Ty.int IntKind.u8) (dOf r4) 0)]);
               (.node (isK 0 [HK.n] r5)
                (let r6 : Option (Nat × List Dat) := (op_35b [.n (IntKind.wrap .u64 (gn (dOf r5) 0)), .n (4 : Int), .l (Ty.int IntKind.u8) (gl (Ty.int IntKind.u8) (dOf r3) 0)]);
                 (.node (isK 0 [HK.l (Ty.int IntKind.u8)] r6)
                  (let r7 : Option (Nat × List Dat) := (op_31 [.l (Ty.int IntKind.u8) (gl (Ty.int IntKind.u8) (dOf r6) 0)]);
                   (.node (isK 0 [HK.l (Ty.int IntKind.u8)] r7)
                    (.leaf ((0, [.l (Ty.int IntKind.u8) (gl (Ty.int IntKind.u8) (dOf r7) 0)])))
                    (.bad 351)))
                  (.bad 351)))
                (.bad 351)))
              (.bad 351)))
            (.bad 351)))
          (.bad 351))))
       (.leaf ((0, [.l (Ty.int IntKind.u8) []]))))
      (.bad 351)))
  | _ => .bad 0
theorem fn_9p_t_im (n0 : Int) (n1 : Int) (n2 : Int) (n3 : Int) (n4 : Int) (l5 : List (Ty.den (Ty.pair (Ty.int IntKind.u8) (Ty.int IntKind.i64)))) : Imp (fn_9p_t [.n n0, .n n1, .n n2, .n n3, .n n4, .l (Ty.pair (Ty.int IntKind.u8) (Ty.int IntKind.i64)) l5]) (ev_9p [.n n0, .n n1, .n n2, .n n3, .n n4, .l TC l5]) :=
(.path [1,1] (by kernel_rfl)
(.node (by kernel_rfl) (by kernel_rfl) (fun h0 =>
(.path [1] (by kernel_rfl)
(.node (by kernel_rfl) (by kernel_rfl) (fun h1 =>
(.path [1,1,1,0,1,1] (by kernel_rfl)
(.node (by kernel_rfl) (by kernel_rfl) (fun h2 =>
(.path [1,0,0,0,0,1,1,1,1] (by kernel_rfl)
.none)) (fun h2 =>
(.node (by kernel_rfl) (by kernel_rfl) (fun h3 =>
(.path [1,0,0,0,0,1,1,1,1] (by kernel_rfl)
(.node (by kernel_rfl) (by kernel_rfl) (fun h4 =>
(.path [1,1,1,0] (by kernel_rfl)
(.node (by kernel_rfl) (by kernel_rfl) (fun h5 =>
(.path [1,1] (by kernel_rfl)
(.node (by kernel_rfl) (by kernel_rfl) (fun h6 =>
(.path [1,1,1,0,0,0,1,1] (by kernel_rfl)
(.node (by kernel_rfl) (by kernel_rfl) (fun h7 =>
(.path [1,0,0,1,1,1,0] (by kernel_rfl)
(.node (by kernel_rfl) (by kernel_rfl) (fun h8 =>
(.path [1,1,1,1,1] (by kernel_rfl)
(.leaf (by kernel_rfl)))) (fun h8 =>
.none)))) (fun h7 =>
.none)))) (fun h6 =>
.none)))) (fun h5 =>
.none)))) (fun h4 =>
.none)))) (fun h3 =>
.none)))))) (fun h1 =>
(.path [0,0,0,0,0,0,0,0,0,0,1,1] (by kernel_rfl)
(.leaf (by kernel_rfl))))))) (fun h0 =>
.none)))

noncomputable def cs_9p : FuncId → Option CSpec := csLend 9 B9p cs_71
theorem cs_9p_ok : CsOk Try.prog cs_9p := csLend_ok cs_71_ok B9p_ok

noncomputable def ev_10p (env : List Dat) : Tree (Nat × List Dat) := Lk.boxCN [(0, TB)] false LK cs_9p 10 ls0 (mkF [ouV 0] [] [] [(.own 0, [.arr TB 0])] fun _ => none) env
theorem op_10p_ex : ∃ f : List Dat → Option (Nat × List Dat), ∀ env, f env = (ev_10p env).sel := ⟨fun env => (ev_10p env).sel, fun _ => rfl⟩
noncomputable def op_10p : List Dat → Option (Nat × List Dat) := Classical.choose op_10p_ex
theorem op_10p_eq (env : List Dat) : op_10p env = (ev_10p env).sel := Classical.choose_spec op_10p_ex env
noncomputable def B10p : FBox := mkF [ouV 0] [] [] [(.own 0, [.arr TB 0])] op_10p
theorem B10p_ok : RunOk Try.prog 10 (boxRun B10p) := mkFN_ok (nils := [(0, TB)]) (op := op_10p) cs_9p_ok hmix false (LsOk.none _ _ _) (fun env x h => by rw [op_10p_eq] at h; rw [← boxCN_lk]; exact h)
theorem op_10p_good {p : Nat × List Dat → Prop} {T : Tree (Nat × List Dat)} {env : List Dat} (h : Imp T (ev_10p env)) (g : Good p T.sel) : Good p (op_10p env) := by
  rw [op_10p_eq]
  exact h.good g

noncomputable def fn_10p_t : List Dat → Tree (Nat × List Dat)
  | [.n n0, .n n1, .n n2, .n n3, .n n4] =>
    (let r1 : Option (Nat × List Dat) := (op_80 [.n (1099511627776 : Int), .l (Ty.int IntKind.i64) [n1, n2]]);
     (.node (isK 0 [HK.b] r1)
      (.node (gb (dOf r1) 0)
       (let r2 : Option (Nat × List Dat) := (op_35a [.n (2 : Int), .n (1 : Int)]);
        (.node (isK 0 [] r2)
         (let r3 : Option (Nat × List Dat) := (op_35a [.n (IntKind.wrap .u64 n0), .n (1 : Int)]);
          (.node (isK 0 [] r3)
           (.bad 340)
           (.node (isK 1 [HK.l (Ty.int IntKind.u8)] r3)
            (let r4 : Option (Nat × List Dat) := (op_88 [.l (Ty.int IntKind.u64) [IntKind.wrap .u64 n1, IntKind.wrap .u64 n2, n3], .l (Ty.int IntKind.u8) (gl (Ty.int IntKind.u8) (dOf r3) 0)]);
             (.node (isK 0 [HK.l (Ty.int IntKind.u8)] r4)
              (let r5 : Option (Nat × List Dat) := (op_35b [.n (IntKind.wrap .u64 n4), .n (4 : Int), .l (Ty.int IntKind.u8) (gl (Ty.int IntKind.u8) (dOf r4) 0)]);
               (.node (isK 0 [HK.l (Ty.int IntKind.u8)] r5)
                (let r6 : Option (Nat × List Dat) := (op_31 [.l (Ty.int IntKind.u8) (gl (Ty.int IntKind.u8) (dOf r5) 0)]);
                 (.node (isK 0 [HK.l (Ty.int IntKind.u8)] r6)
                  (let r7 : Option (Nat × List Dat) := (op_q12 [.l (Ty.int IntKind.u8) (gl (Ty.int IntKind.u8) (dOf r6) 0)]);
                   (.node (isK 0 [HK.n] r7)
                    (let r8 : Option (Nat × List Dat) := (op_35b [.n (IntKind.wrap .u64 (gn (dOf r7) 0)), .n (4 : Int), .l (Ty.int IntKind.u8) (gl (Ty.int IntKind.u8) (dOf r5) 0)]);
                     (.node (isK 0 [HK.l (Ty.int IntKind.u8)] r8)
                      (let r9 : Option (Nat × List Dat) := (op_31 [.l (Ty.int IntKind.u8) (gl (Ty.int IntKind.u8) (dOf r8) 0)]);
                       (.node (isK 0 [HK.l (Ty.int IntKind.u8)] r9)
                        (.leaf ((0, [.l (Ty.int IntKind.u8) (gl (Ty.int IntKind.u8) (dOf r9) 0)])))
                        (.bad 351)))
                      (.bad 351)))
                    (.bad 351)))
                  (.bad 351)))
                (.bad 351)))
              (.bad 351)))
            (.bad 351))))
         (.node (isK 1 [HK.l (Ty.int IntKind.u8)] r2)
          (let r3 : Option (Nat × List Dat) := (op_35b [.n (IntKind.wrap .u64 n0), .n (1 : Int), .l (Ty.int IntKind.u8) (gl (Ty.int IntKind.u8) (dOf r2) 0)]);
           (.node (isK 0 [HK.l (Ty.int IntKind.u8)] r3)
            (let r4 : Option (Nat × List Dat) := (op_88 [.l (Ty.int IntKind.u64) [IntKind.wrap .u64 n1, IntKind.wrap .u64 n2, n3], .l (Ty.int IntKind.u8) (gl (Ty.int IntKind.u8) (dOf r3) 0)]);
             (.node (isK 0 [HK.l (Ty.int IntKind.u8)] r4)
              (let r5 : Option (Nat × List Dat) := (op_35b [.n (IntKind.wrap .u64 n4), .n (4 : Int), .l (Ty.int IntKind.u8) (gl (Ty.int IntKind.u8) (dOf r4) 0)]);
               (.node (isK 0 [HK.l (Ty.int IntKind.u8)] r5)
                (let r6 : Option (Nat × List Dat) := (op_31 [.l (Ty.int IntKind.u8) (gl (Ty.int IntKind.u8) (dOf r5) 0)]);
                 (.node (isK 0 [HK.l (Ty.int IntKind.u8)] r6)
                  (let r7 : Option (Nat × List Dat) := (op_q12 [.l (Ty.int IntKind.u8) (gl (Ty.int IntKind.u8) (dOf r6) 0)]);
                   (.node (isK 0 [HK.n] r7)
                    (let r8 : Option (Nat × List Dat) := (op_35b [.n (IntKind.wrap .u64 (gn (dOf r7) 0)), .n (4 : Int), .l (Ty.int IntKind.u8) (gl (Ty.int IntKind.u8) (dOf r5) 0)]);
                     (.node (isK 0 [HK.l (Ty.int IntKind.u8)] r8)
                      (let r9 : Option (Nat × List Dat) := (op_31 [.l (Ty.int IntKind.u8) (gl (Ty.int IntKind.u8) (dOf r8) 0)]);
                       (.node (isK 0 [HK.l (Ty.int IntKind.u8)] r9)
                        (.leaf ((0, [.l (Ty.int IntKind.u8) (gl (Ty.int IntKind.u8) (dOf r9) 0)])))
                        (.bad 351)))
                      (.bad 351)))
                    (.bad 351)))
                  (.bad 351)))
                (.bad 351)))
              (.bad 351)))
            (.bad 351)))
          (.bad 351))))
       (.leaf ((0, [.l (Ty.int IntKind.u8) []]))))
      (.bad 351)))
  | _ => .bad 0
theorem fn_10p_t_im (n0 : Int) (n1 : Int) (n2 : Int) (n3 : Int) (n4 : Int) : Imp (fn_10p_t [.n n0, .n n1, .n n2, .n n3, .n n4]) (ev_10p [.n n0, .n n1, .n n2, .n n3, .n n4]) :=
(.path [1,0,0,0,1,1] (by kernel_rfl)
(.node (by kernel_rfl) (by kernel_rfl) (fun h0 =>
(.path [1,1] (by kernel_rfl)
(.node (by kernel_rfl) (by kernel_rfl) (fun h1 =>
(.path [1,1,1,0,1,1] (by kernel_rfl)
(.node (by kernel_rfl) (by kernel_rfl) (fun h2 =>
(.path [1,0,0,0,0,1,1,1,1,1,1,0,1,1] (by kernel_rfl)
(.node (by kernel_rfl) (by kernel_rfl) (fun h3 =>
(.path [1,0,0,0,0,1,1,1] (by kernel_rfl)
.none)) (fun h3 =>
(.node (by kernel_rfl) (by kernel_rfl) (fun h4 =>
(.path [1,0,0,0,0,1,1,1] (by kernel_rfl)
(.node (by kernel_rfl) (by kernel_rfl) (fun h5 =>
(.path [1,1,1,0,0,0,1,1] (by kernel_rfl)
(.node (by kernel_rfl) (by kernel_rfl) (fun h6 =>
(.path [1,0,0,1,1,1,1,1,0] (by kernel_rfl)
(.node (by kernel_rfl) (by kernel_rfl) (fun h7 =>
(.path [1,1] (by kernel_rfl)
(.node (by kernel_rfl) (by kernel_rfl) (fun h8 =>
(.path [1,1,1,0,0,0,1,1] (by kernel_rfl)
(.node (by kernel_rfl) (by kernel_rfl) (fun h9 =>
(.path [1,0,0,1,1,1,0] (by kernel_rfl)
(.node (by kernel_rfl) (by kernel_rfl) (fun h10 =>
(.path [1,1,1,1,1] (by kernel_rfl)
(.leaf (by kernel_rfl)))) (fun h10 =>
.none)))) (fun h9 =>
.none)))) (fun h8 =>
.none)))) (fun h7 =>
.none)))) (fun h6 =>
.none)))) (fun h5 =>
.none)))) (fun h4 =>
.none)))))) (fun h2 =>
(.node (by kernel_rfl) (by kernel_rfl) (fun h3 =>
(.path [1,0,0,0,0,1,1,1,1,1,1,0,1,1] (by kernel_rfl)
(.node (by kernel_rfl) (by kernel_rfl) (fun h4 =>
(.path [1,0,0,0,0,1,1,1] (by kernel_rfl)
(.node (by kernel_rfl) (by kernel_rfl) (fun h5 =>
(.path [1,1,1,0,0,0,1,1] (by kernel_rfl)
(.node (by kernel_rfl) (by kernel_rfl) (fun h6 =>
(.path [1,0,0,1,1,1,1,1,0] (by kernel_rfl)
(.node (by kernel_rfl) (by kernel_rfl) (fun h7 =>
(.path [1,1] (by kernel_rfl)
(.node (by kernel_rfl) (by kernel_rfl) (fun h8 =>
(.path [1,1,1,0,0,0,1,1] (by kernel_rfl)
(.node (by kernel_rfl) (by kernel_rfl) (fun h9 =>
(.path [1,0,0,1,1,1,0] (by kernel_rfl)
(.node (by kernel_rfl) (by kernel_rfl) (fun h10 =>
(.path [1,1,1,1,1] (by kernel_rfl)
(.leaf (by kernel_rfl)))) (fun h10 =>
.none)))) (fun h9 =>
.none)))) (fun h8 =>
.none)))) (fun h7 =>
.none)))) (fun h6 =>
.none)))) (fun h5 =>
.none)))) (fun h4 =>
.none)))) (fun h3 =>
.none)))))) (fun h1 =>
(.path [0,0,0,0,0,0,0,1,1] (by kernel_rfl)
(.leaf (by kernel_rfl))))))) (fun h0 =>
.none)))

noncomputable def cs_10p : FuncId → Option CSpec := csLend 10 B10p cs_9p
theorem cs_10p_ok : CsOk Try.prog cs_10p := csLend_ok cs_9p_ok B10p_ok

noncomputable def ev_11p (env : List Dat) : Tree (Nat × List Dat) := Lk.boxCN [(0, TB)] false LK cs_10p 11 ls0 (mkF [stV 0] [] [] [(.own 0, [.arr TB 0])] fun _ => none) env
theorem op_11p_ex : ∃ f : List Dat → Option (Nat × List Dat), ∀ env, f env = (ev_11p env).sel := ⟨fun env => (ev_11p env).sel, fun _ => rfl⟩
noncomputable def op_11p : List Dat → Option (Nat × List Dat) := Classical.choose op_11p_ex
theorem op_11p_eq (env : List Dat) : op_11p env = (ev_11p env).sel := Classical.choose_spec op_11p_ex env
noncomputable def B11p : FBox := mkF [stV 0] [] [] [(.own 0, [.arr TB 0])] op_11p
theorem B11p_ok : RunOk Try.prog 11 (boxRun B11p) := mkFN_ok (nils := [(0, TB)]) (op := op_11p) cs_10p_ok hmix false (LsOk.none _ _ _) (fun env x h => by rw [op_11p_eq] at h; rw [← boxCN_lk]; exact h)
theorem op_11p_good {p : Nat × List Dat → Prop} {T : Tree (Nat × List Dat)} {env : List Dat} (h : Imp T (ev_11p env)) (g : Good p T.sel) : Good p (op_11p env) := by
  rw [op_11p_eq]
  exact h.good g

noncomputable def fn_11p_t : List Dat → Tree (Nat × List Dat)
  | [.n n0, .n n1, .n n2, .l (Ty.int IntKind.u8) l3, .n n4] =>
    (let r1 : Option (Nat × List Dat) := (op_35a [.n (3 : Int), .n (1 : Int)]);
     (.node (isK 0 [] r1)
      (.bad 340)
      (.node (isK 1 [HK.l (Ty.int IntKind.u8)] r1)
       (let r2 : Option (Nat × List Dat) := (op_88 [.l (Ty.int IntKind.u64) [n0, n1, n2], .l (Ty.int IntKind.u8) (gl (Ty.int IntKind.u8) (dOf r1) 0)]);
        (.node (isK 0 [HK.l (Ty.int IntKind.u8)] r2)
         (.node (decide ((List.length (gl (Ty.int IntKind.u8) (dOf r2) 0) + List.length l3) * 1 ≤ 140737488355328))
          (let r3 : Option (Nat × List Dat) := (op_35b [.n (IntKind.wrap .u64 n4), .n (4 : Int), .l (Ty.int IntKind.u8) (gl (Ty.int IntKind.u8) (dOf r2) 0 ++ l3)]);
           (.node (isK 0 [HK.l (Ty.int IntKind.u8)] r3)
            (let r4 : Option (Nat × List Dat) := (op_31 [.l (Ty.int IntKind.u8) (gl (Ty.int IntKind.u8) (dOf r3) 0)]);
             (.node (isK 0 [HK.l (Ty.int IntKind.u8)] r4)
              (let r5 : Option (Nat × List Dat) := (op_q12 [.l (Ty.int IntKind.u8) (gl (Ty.int IntKind.u8) (dOf r4) 0)]);
               (.node (isK 0 [HK.n] r5)
                (let r6 : Option (Nat × List Dat) := (op_35b [.n (IntKind.wrap .u64 (gn (dOf r5) 0)), .n (4 : Int), .l (Ty.int IntKind.u8) (gl (Ty.int IntKind.u8) (dOf r3) 0)]);
                 (.node (isK 0 [HK.l (Ty.int IntKind.u8)] r6)
                  (let r7 : Option (Nat × List Dat) := (op_31 [.l (Ty.int IntKind.u8) (gl (Ty.int IntKind.u8) (dOf r6) 0)]);
                   (.node (isK 0 [HK.l (Ty.int IntKind.u8)] r7)
                    (.leaf ((0, [.l (Ty.int IntKind.u8) (gl (Ty.int IntKind.u8) (dOf r7) 0)])))
                    (.bad 351)))
                  (.bad 351)))
                (.bad 351)))
              (.bad 351)))
            (.bad 351)))
          (.bad 62))
         (.bad 351)))
       (.bad 351))))
  | _ => .bad 0
theorem fn_11p_t_im (n0 : Int) (n1 : Int) (n2 : Int) (l3 : List (Ty.den (Ty.int IntKind.u8))) (n4 : Int) (g0 : l3.length = 64) : Imp (fn_11p_t [.n n0, .n n1, .n n2, .l (Ty.int IntKind.u8) l3, .n n4]) (ev_11p [.n n0, .n n1, .n n2, .l TB l3, .n n4]) :=
(.path [1,0,0,0,0,0,0,1,1,1,1,0,1,1] (by kernel_rfl)
(.node (by kernel_rfl) (by kernel_rfl) (fun h0 =>
(.path [1,0,0,0,0,1,1,1,1,1] (by kernel_rfl)
.none)) (fun h0 =>
(.node (by kernel_rfl) (by kernel_rfl) (fun h1 =>
(.path [1,0,0,0,0,1,1,1,1,1] (by kernel_rfl)
(.node (by kernel_rfl) (by kernel_rfl) (fun h2 =>
(.path [1,1,1,1,0,0,0,0,0,1] (by kernel_rfl)
(.node (by kernel_rfl) (by kernel_rfl) (fun h3 =>
(.path [1,1,1,1,0,0,0,1,1] (by kernel_rfl)
(.node (by kernel_rfl) (by kernel_rfl) (fun h4 =>
(.path [1,0,0,1,1,1,1,1,0] (by kernel_rfl)
(.node (by kernel_rfl) (by kernel_rfl) (fun h5 =>
(.path [1,1] (by kernel_rfl)
(.node (by kernel_rfl) (by kernel_rfl) (fun h6 =>
(.path [1,1,1,0,0,0,1,1] (by kernel_rfl)
(.node (by kernel_rfl) (by kernel_rfl) (fun h7 =>
(.path [1,0,0,1,1,1,0] (by kernel_rfl)
(.node (by kernel_rfl) (by kernel_rfl) (fun h8 =>
(.path [1,1,1,1,1] (by kernel_rfl)
(.leaf (by kernel_rfl)))) (fun h8 =>
.none)))) (fun h7 =>
.none)))) (fun h6 =>
.none)))) (fun h5 =>
.none)))) (fun h4 =>
.none)))) (fun h3 =>
.none)))) (fun h2 =>
.none)))) (fun h1 =>
.none)))))

noncomputable def cs_11p : FuncId → Option CSpec := csLend 11 B11p cs_10p
theorem cs_11p_ok : CsOk Try.prog cs_11p := csLend_ok cs_10p_ok B11p_ok

noncomputable def ev_12p (env : List Dat) : Tree (Nat × List Dat) := Lk.boxCN [(0, TB)] false LK cs_11p 12 ls0 (mkF [loV 0] [] [] [(.own 0, [.arr TB 0])] fun _ => none) env
theorem op_12p_ex : ∃ f : List Dat → Option (Nat × List Dat), ∀ env, f env = (ev_12p env).sel := ⟨fun env => (ev_12p env).sel, fun _ => rfl⟩
noncomputable def op_12p : List Dat → Option (Nat × List Dat) := Classical.choose op_12p_ex
theorem op_12p_eq (env : List Dat) : op_12p env = (ev_12p env).sel := Classical.choose_spec op_12p_ex env
noncomputable def B12p : FBox := mkF [loV 0] [] [] [(.own 0, [.arr TB 0])] op_12p
theorem B12p_ok : RunOk Try.prog 12 (boxRun B12p) := mkFN_ok (nils := [(0, TB)]) (op := op_12p) cs_11p_ok hmix false (LsOk.none _ _ _) (fun env x h => by rw [op_12p_eq] at h; rw [← boxCN_lk]; exact h)
theorem op_12p_good {p : Nat × List Dat → Prop} {T : Tree (Nat × List Dat)} {env : List Dat} (h : Imp T (ev_12p env)) (g : Good p T.sel) : Good p (op_12p env) := by
  rw [op_12p_eq]
  exact h.good g

noncomputable def fn_12p_t : List Dat → Tree (Nat × List Dat)
  | [.n n0, .n n1, .n n2, .n n3, .n n4, .l (Ty.int IntKind.u8) l5, .n n6] =>
    (let r1 : Option (Nat × List Dat) := (op_80 [.n (1099511627776 : Int), .l (Ty.int IntKind.i64) [n0, n1]]);
     (.node (isK 0 [HK.b] r1)
      (.node (gb (dOf r1) 0)
       (let r2 : Option (Nat × List Dat) := (op_35a [.n (4 : Int), .n (1 : Int)]);
        (.node (isK 0 [] r2)
         (.bad 340)
         (.node (isK 1 [HK.l (Ty.int IntKind.u8)] r2)
          (let r3 : Option (Nat × List Dat) := (op_88 [.l (Ty.int IntKind.u64) [IntKind.wrap .u64 n0, IntKind.wrap .u64 n1], .l (Ty.int IntKind.u8) (gl (Ty.int IntKind.u8) (dOf r2) 0)]);
           (.node (isK 0 [HK.l (Ty.int IntKind.u8)] r3)
            (let r4 : Option (Nat × List Dat) := (op_88 [.l (Ty.int IntKind.u64) [n2, n3, n4], .l (Ty.int IntKind.u8) (gl (Ty.int IntKind.u8) (dOf r3) 0)]);
             (.node (isK 0 [HK.l (Ty.int IntKind.u8)] r4)
              (.node (decide ((List.length (gl (Ty.int IntKind.u8) (dOf r4) 0) + List.length l5) * 1 ≤ 140737488355328))
               (let r5 : Option (Nat × List Dat) := (op_35b [.n (IntKind.wrap .u64 n6), .n (4 : Int), .l (Ty.int IntKind.u8) (gl (Ty.int IntKind.u8) (dOf r4) 0 ++ l5)]);
                (.node (isK 0 [HK.l (Ty.int IntKind.u8)] r5)
                 (let r6 : Option (Nat × List Dat) := (op_31 [.l (Ty.int IntKind.u8) (gl (Ty.int IntKind.u8) (dOf r5) 0)]);
                  (.node (isK 0 [HK.l (Ty.int IntKind.u8)] r6)
                   (let r7 : Option (Nat × List Dat) := (op_q12 [.l (Ty.int IntKind.u8) (gl (Ty.int IntKind.u8) (dOf r6) 0)]);
                    (.node (isK 0 [HK.n] r7)
                     (let r8 : Option (Nat × List Dat) := (op_35b [.n (IntKind.wrap .u64 (gn (dOf r7) 0)), .n (4 : Int), .l (Ty.int IntKind.u8) (gl (Ty.int IntKind.u8) (dOf r5) 0)]);
                      (.node (isK 0 [HK.l (Ty.int IntKind.u8)] r8)
                       (let r9 : Option (Nat × List Dat) := (op_31 [.l (Ty.int IntKind.u8) (gl (Ty.int IntKind.u8) (dOf r8) 0)]);
                        (.node (isK 0 [HK.l (Ty.int IntKind.u8)] r9)
                         (.leaf ((0, [.l (Ty.int IntKind.u8) (gl (Ty.int IntKind.u8) (dOf r9) 0)])))
                         (.bad 351)))
                       (.bad 351)))
                     (.bad 351)))
                   (.bad 351)))
                 (.bad 351)))
               (.bad 62))
              (.bad 351)))
            (.bad 351)))
          (.bad 351))))
       (.leaf ((0, [.l (Ty.int IntKind.u8) []]))))
      (.bad 351)))
  | _ => .bad 0
theorem fn_12p_t_im (n0 : Int) (n1 : Int) (n2 : Int) (n3 : Int) (n4 : Int) (l5 : List (Ty.den (Ty.int IntKind.u8))) (n6 : Int) (g0 : l5.length = 64) : Imp (fn_12p_t [.n n0, .n n1, .n n2, .n n3, .n n4, .l (Ty.int IntKind.u8) l5, .n n6]) (ev_12p [.n n0, .n n1, .n n2, .n n3, .n n4, .l TB l5, .n n6]) :=
(.path [1,0,0,0,0,0,0,0,1,1] (by kernel_rfl)
(.node (by kernel_rfl) (by kernel_rfl) (fun h0 =>
(.path [1,1] (by kernel_rfl)
(.node (by kernel_rfl) (by kernel_rfl) (fun h1 =>
(.path [1,1,1,0,1,1] (by kernel_rfl)
(.node (by kernel_rfl) (by kernel_rfl) (fun h2 =>
(.path [1,0,0,0,0,1,1,1,1,1] (by kernel_rfl)
.none)) (fun h2 =>
(.node (by kernel_rfl) (by kernel_rfl) (fun h3 =>
(.path [1,0,0,0,0,1,1,1,1,1] (by kernel_rfl)
(.node (by kernel_rfl) (by kernel_rfl) (fun h4 =>
(.path [1,1,1] (by kernel_rfl)
(.node (by kernel_rfl) (by kernel_rfl) (fun h5 =>
(.path [1,1,1,1,0,0,0,0,0,1] (by kernel_rfl)
(.node (by kernel_rfl) (by kernel_rfl) (fun h6 =>
(.path [1,1,1,1,0,0,0,1,1] (by kernel_rfl)
(.node (by kernel_rfl) (by kernel_rfl) (fun h7 =>
(.path [1,0,0,1,1,1,1,1,1,0] (by kernel_rfl)
(.node (by kernel_rfl) (by kernel_rfl) (fun h8 =>
(.path [1,1] (by kernel_rfl)
(.node (by kernel_rfl) (by kernel_rfl) (fun h9 =>
(.path [1,1,1,0,0,0,1,1] (by kernel_rfl)
(.node (by kernel_rfl) (by kernel_rfl) (fun h10 =>
(.path [1,0,0,1,1,1,0] (by kernel_rfl)
(.node (by kernel_rfl) (by kernel_rfl) (fun h11 =>
(.path [1,1,1,1,1] (by kernel_rfl)
(.leaf (by kernel_rfl)))) (fun h11 =>
.none)))) (fun h10 =>
.none)))) (fun h9 =>
.none)))) (fun h8 =>
.none)))) (fun h7 =>
.none)))) (fun h6 =>
.none)))) (fun h5 =>
.none)))) (fun h4 =>
.none)))) (fun h3 =>
.none)))))) (fun h1 =>
(.path [0,0,0,1,1] (by kernel_rfl)
(.leaf (by kernel_rfl))))))) (fun h0 =>
.none)))

noncomputable def cs_12p : FuncId → Option CSpec := csLend 12 B12p cs_11p
theorem cs_12p_ok : CsOk Try.prog cs_12p := csLend_ok cs_11p_ok B12p_ok

noncomputable def ev_13p (env : List Dat) : Tree (Nat × List Dat) := Lk.boxCN [(0, TB)] false LK cs_12p 13 ls0 (mkF [liV 0] [] [] [(.own 0, [.arr TB 0])] fun _ => none) env
theorem op_13p_ex : ∃ f : List Dat → Option (Nat × List Dat), ∀ env, f env = (ev_13p env).sel := ⟨fun env => (ev_13p env).sel, fun _ => rfl⟩
noncomputable def op_13p : List Dat → Option (Nat × List Dat) := Classical.choose op_13p_ex
theorem op_13p_eq (env : List Dat) : op_13p env = (ev_13p env).sel := Classical.choose_spec op_13p_ex env
noncomputable def B13p : FBox := mkF [liV 0] [] [] [(.own 0, [.arr TB 0])] op_13p
theorem B13p_ok : RunOk Try.prog 13 (boxRun B13p) := mkFN_ok (nils := [(0, TB)]) (op := op_13p) cs_12p_ok hmix false (LsOk.none _ _ _) (fun env x h => by rw [op_13p_eq] at h; rw [← boxCN_lk]; exact h)
theorem op_13p_good {p : Nat × List Dat → Prop} {T : Tree (Nat × List Dat)} {env : List Dat} (h : Imp T (ev_13p env)) (g : Good p T.sel) : Good p (op_13p env) := by
  rw [op_13p_eq]
  exact h.good g

noncomputable def fn_13p_t : List Dat → Tree (Nat × List Dat)
  | [.n n0, .n n1, .n n2, .n n3, .l (Ty.int IntKind.u8) l4] =>
    (let r1 : Option (Nat × List Dat) := (op_60 [.n n0, .n n1, .n n2, .n n3, .l (Ty.int IntKind.u8) l4]);
     (.node (isK 0 [HK.b] r1)
      (.node (gb (dOf r1) 0)
       (let r2 : Option (Nat × List Dat) := (op_35a [.n (5 : Int), .n (1 : Int)]);
        (.node (isK 0 [] r2)
         (.bad 340)
         (.node (isK 1 [HK.l (Ty.int IntKind.u8)] r2)
          (let r3 : Option (Nat × List Dat) := (op_71 [.n n0, .n n1, .n n2, .n n3, .l (Ty.int IntKind.u8) l4, .l (Ty.int IntKind.u8) (gl (Ty.int IntKind.u8) (dOf r2) 0)]);
           (.node (isK 0 [HK.l (Ty.int IntKind.u8)] r3)
            (let r4 : Option (Nat × List Dat) := (op_31 [.l (Ty.int IntKind.u8) (gl (Ty.int IntKind.u8) (dOf r3) 0)]);
             (.node (isK 0 [HK.l (Ty.int IntKind.u8)] r4)
              (let r5 : Option (Nat × List Dat) := (op_q12 [.l (Ty.int IntKind.u8) (gl (Ty.int IntKind.u8) (dOf r4) 0)]);
               (.node (isK 0 [HK.n] r5)
                (let r6 : Option (Nat × List Dat) := (op_35b [.n (IntKind.wrap .u64 (gn (dOf r5) 0)), .n (4 : Int), .l (Ty.int IntKind.u8) (gl (Ty.int IntKind.u8) (dOf r3) 0)]);
                 (.node (isK 0 [HK.l (Ty.int IntKind.u8)] r6)
                  (let r7 : Option (Nat × List Dat) := (op_31 [.l (Ty.int IntKind.u8) (gl (Ty.int IntKind.u8) (dOf r6) 0)]);
                   (.node (isK 0 [HK.l (Ty.int IntKind.u8)] r7)
                    (.leaf ((0, [.l (Ty.int IntKind.u8) (gl (Ty.int IntKind.u8) (dOf r7) 0)])))
                    (.bad 351)))
                  (.bad 351)))
                (.bad 351)))
              (.bad 351)))
            (.bad 351)))
          (.bad 351))))
       (.leaf ((0, [.l (Ty.int IntKind.u8) []]))))
      (.bad 351)))
  | _ => .bad 0
theorem fn_13p_t_im (n0 : Int) (n1 : Int) (n2 : Int) (n3 : Int) (l4 : List (Ty.den (Ty.int IntKind.u8))) : Imp (fn_13p_t [.n n0, .n n1, .n n2, .n n3, .l (Ty.int IntKind.u8) l4]) (ev_13p [.n n0, .n n1, .n n2, .n n3, .l TB l4]) :=
(.path [1,0,0,0,0,0,0,0,0,0,0,1] (by kernel_rfl)
(.node (by kernel_rfl) (by kernel_rfl) (fun h0 =>
(.path [1] (by kernel_rfl)
(.node (by kernel_rfl) (by kernel_rfl) (fun h1 =>
(.path [1,1,1,0,1,1] (by kernel_rfl)
(.node (by kernel_rfl) (by kernel_rfl) (fun h2 =>
(.path [1,0,0,0,0,1,1,1,1] (by kernel_rfl)
.none)) (fun h2 =>
(.node (by kernel_rfl) (by kernel_rfl) (fun h3 =>
(.path [1,0,0,0,0,1,1,1,1] (by kernel_rfl)
(.node (by kernel_rfl) (by kernel_rfl) (fun h4 =>
(.path [1,1,1,0] (by kernel_rfl)
(.node (by kernel_rfl) (by kernel_rfl) (fun h5 =>
(.path [1,1] (by kernel_rfl)
(.node (by kernel_rfl) (by kernel_rfl) (fun h6 =>
(.path [1,1,1,0,0,0,1,1] (by kernel_rfl)
(.node (by kernel_rfl) (by kernel_rfl) (fun h7 =>
(.path [1,0,0,1,1,1,0] (by kernel_rfl)
(.node (by kernel_rfl) (by kernel_rfl) (fun h8 =>
(.path [1,1,1,1,1] (by kernel_rfl)
(.leaf (by kernel_rfl)))) (fun h8 =>
.none)))) (fun h7 =>
.none)))) (fun h6 =>
.none)))) (fun h5 =>
.none)))) (fun h4 =>
.none)))) (fun h3 =>
.none)))))) (fun h1 =>
(.path [1,1] (by kernel_rfl)
(.leaf (by kernel_rfl))))))) (fun h0 =>
.none)))

noncomputable def cs_13p : FuncId → Option CSpec := csLend 13 B13p cs_12p
theorem cs_13p_ok : CsOk Try.prog cs_13p := csLend_ok cs_12p_ok B13p_ok

noncomputable def st_L43_5 (env : List Dat) : Tree Step := Lk.stepMC false LK cs_13p 43 5 ls0 (mkM 0 [] [(sh 35 [(1, .ptr 0 0), (3, .own 1), (4, .int .i64 0)], [stB 1, .arr TB 6])] [] [(.exit 0, sh 35 [(1, .ptr 0 0), (3, .own 1)], [stB 0, .arr TB 5])] fun _ => none) env
theorem op_L43_5_ex : ∃ f : List Dat → Option (Nat × List Dat), ∀ env, f env = iterS st_L43_5 FU env := ⟨iterS st_L43_5 FU, fun _ => rfl⟩
noncomputable def op_L43_5 : List Dat → Option (Nat × List Dat) := Classical.choose op_L43_5_ex
theorem op_L43_5_eq (env : List Dat) : op_L43_5 env = iterS st_L43_5 FU env := Classical.choose_spec op_L43_5_ex env
noncomputable def L43_5 : MBox := mkM 0 [] [(sh 35 [(1, .ptr 0 0), (3, .own 1), (4, .int .i64 0)], [stB 1, .arr TB 6])] [] [(.exit 0, sh 35 [(1, .ptr 0 0), (3, .own 1)], [stB 0, .arr TB 5])] op_L43_5
theorem L43_5_eqs : L43_5 = mkM 0 [] [(sh 35 [(1, .ptr 0 0), (3, .own 1), (4, .int .i64 0)], [stB 1, .arr TB 6])] [] [(.exit 0, sh 35 [(1, .ptr 0 0), (3, .own 1)], [stB 0, .arr TB 5])] (iterS st_L43_5 FU) := congrArg (fun f => mkM 0 [] [(sh 35 [(1, .ptr 0 0), (3, .own 1), (4, .int .i64 0)], [stB 1, .arr TB 6])] [] [(.exit 0, sh 35 [(1, .ptr 0 0), (3, .own 1)], [stB 0, .arr TB 5])] f) (funext op_L43_5_eq)
theorem L43_5_run : ∀ t s x, (manyRun L43_5 t s).sel = some x → CodeOk Try.prog 0 (.loop (cAt Try.prog 43 5)) t s x := by
  rw [L43_5_eqs]
  exact mkM_ok (st := st_L43_5) (m := FU) cs_13p_ok hmix false (LsOk.none _ _ _) (by kernel_rfl) (fun env y h => by rw [← stepMC_lk]; exact h)
theorem op_L43_5_good {p : Nat × List Dat → Prop} (Inv : List Dat → Prop) (μ : List Dat → Nat) (h : ∀ env, Inv env → Good (fun y => match y with | .go e => Inv e ∧ μ e < μ env | .stop k d => p (k, d)) (st_L43_5 env).sel) (env : List Dat) (hi : Inv env) (hm : μ env < FU) : Good p (op_L43_5 env) := by
  rw [op_L43_5_eq]
  exact iterS_good Inv μ p h FU env hi hm

noncomputable def fn_L43_5_t : List Dat → Tree Step
  | [.n n0, .n n1, .n n2, .n n3, .l (Ty.int IntKind.u8) l4, .n n5, .l (Ty.int IntKind.u8) l6] =>
    (.node (decide (n0 < (64 : Int)))
     (.node (decide ((List.length l6 + 1) * 1 ≤ 140737488355328))
      (.leaf (Step.go [.k 0, .n (IntKind.wrap .i64 (n0 + (1 : Int))), .n n1, .n n2, .n n3, .l (Ty.int IntKind.u8) l4, .n n5, .l (Ty.int IntKind.u8) (l6 ++ [List.getD l4 (Int.toNat n0) (0 : Int)])]))
      (.bad 62))
     (.leaf (Step.stop 0 [.n n1, .n n2, .n n3, .l (Ty.int IntKind.u8) l4, .n n5, .l (Ty.int IntKind.u8) l6])))
  | _ => .bad 0
theorem fn_L43_5_t_im (n0 : Int) (n1 : Int) (n2 : Int) (n3 : Int) (l4 : List (Ty.den (Ty.int IntKind.u8))) (n5 : Int) (l6 : List (Ty.den (Ty.int IntKind.u8))) (g0 : l4.length = 64) (g1 :  0 ≤ n0) : Imp (fn_L43_5_t [.n n0, .n n1, .n n2, .n n3, .l (Ty.int IntKind.u8) l4, .n n5, .l (Ty.int IntKind.u8) l6]) (st_L43_5 [.k 0, .n n0, .n n1, .n n2, .n n3, .l TB l4, .n n5, .l TB l6]) :=
(.path [1] (by kernel_rfl)
(.node (by kernel_rfl) (by kernel_rfl) (fun h0 =>
(.pt (c := (inR n0 64)) (by kernel_rfl) (by kernel_rfl) (by (simp only [w64d, decide_eq_true_eq, decide_eq_false_iff_not, beq_iff_eq, beq_eq_false_iff_ne, bne_iff_ne, ne_eq, inR, Bool.and_eq_true, Bool.and_eq_false_iff, Bool.not_eq_true', Bool.not_eq_false', Bool.not_eq_eq_eq_not, Bool.not_true, Bool.not_false] at *; omega))
(.node (by kernel_rfl) (by kernel_rfl) (fun h1 =>
(.path [1] (by kernel_rfl)
(.leaf (by kernel_rfl)))) (fun h1 =>
.none)))) (fun h0 =>
(.path [1] (by kernel_rfl)
(.leaf (by kernel_rfl))))))

theorem ls_43_ok : LsOk Try.prog (List.length ([] : List PB)) (lsM [(5, L43_5)] (List.length ([] : List PB))) (bodyOf Try.prog 43) := LsOk.many fun j B hB hk c hc hi => by
  simp only [lookM] at hB
  split at hB
  · rename_i e; have := Nat.eq_of_beq_eq_true e; subst this; cases hB
    have e1 : loopAt Try.prog 43 5 = [cAt Try.prog 43 5] := loopAt_one (by kernel_rfl)
    have e2 : c ∈ loopAt Try.prog 43 5 := loopsAt_mem hc hi
    rw [e1] at e2; cases List.mem_singleton.1 e2; exact L43_5_run
  cases hB

noncomputable def ev_43 (env : List Dat) : Tree (Nat × List Dat) := Lk.boxC false LK cs_13p 43 (lsM [(5, L43_5)] (List.length ([] : List PB))) (mkF [stV 0] [] [] [(.own 0, [.arr TB 0])] fun _ => none) env
theorem op_43_ex : ∃ f : List Dat → Option (Nat × List Dat), ∀ env, f env = (ev_43 env).sel := ⟨fun env => (ev_43 env).sel, fun _ => rfl⟩
noncomputable def op_43 : List Dat → Option (Nat × List Dat) := Classical.choose op_43_ex
theorem op_43_eq (env : List Dat) : op_43 env = (ev_43 env).sel := Classical.choose_spec op_43_ex env
noncomputable def B43 : FBox := mkF [stV 0] [] [] [(.own 0, [.arr TB 0])] op_43
theorem B43_ok : RunOk Try.prog 43 (boxRun B43) := mkF_ok (op := op_43) cs_13p_ok hmix false (ls_43_ok) (fun env x h => by rw [op_43_eq] at h; rw [← boxC_lk]; exact h)
theorem op_43_good {p : Nat × List Dat → Prop} {T : Tree (Nat × List Dat)} {env : List Dat} (h : Imp T (ev_43 env)) (g : Good p T.sel) : Good p (op_43 env) := by
  rw [op_43_eq]
  exact h.good g

noncomputable def fn_43_t : List Dat → Tree (Nat × List Dat)
  | [.n n0, .n n1, .n n2, .l (Ty.int IntKind.u8) l3, .n n4] =>
    (let r1 : Option (Nat × List Dat) := (op_30 [.n n0, .n (8 : Int)]);
     (.node (isK 0 [HK.l (Ty.int IntKind.u8)] r1)
      (let r2 : Option (Nat × List Dat) := (op_30 [.n n1, .n (8 : Int)]);
       (.node (isK 0 [HK.l (Ty.int IntKind.u8)] r2)
        (.node (decide ((List.length (gl (Ty.int IntKind.u8) (dOf r1) 0) + List.length (gl (Ty.int IntKind.u8) (dOf r2) 0)) * 1 ≤ 140737488355328))
         (let r3 : Option (Nat × List Dat) := (op_30 [.n n2, .n (8 : Int)]);
          (.node (isK 0 [HK.l (Ty.int IntKind.u8)] r3)
           (.node (decide ((List.length (gl (Ty.int IntKind.u8) (dOf r1) 0 ++ gl (Ty.int IntKind.u8) (dOf r2) 0) + List.length (gl (Ty.int IntKind.u8) (dOf r3) 0)) * 1 ≤ 140737488355328))
            (let r4 : Option (Nat × List Dat) := (op_L43_5 [.k 0, .n (0 : Int), .n n0, .n n1, .n n2, .l (Ty.int IntKind.u8) l3, .n n4, .l (Ty.int IntKind.u8) (gl (Ty.int IntKind.u8) (dOf r1) 0 ++ gl (Ty.int IntKind.u8) (dOf r2) 0 ++ gl (Ty.int IntKind.u8) (dOf r3) 0)]);
             (.node (isK 0 [HK.n, HK.n, HK.n, HK.l (Ty.int IntKind.u8), HK.n, HK.l (Ty.int IntKind.u8)] r4)
              (let r5 : Option (Nat × List Dat) := (op_30 [.n (IntKind.wrap .u64 (gn (dOf r4) 4)), .n (4 : Int)]);
               (.node (isK 0 [HK.l (Ty.int IntKind.u8)] r5)
                (.node (decide ((List.length (gl (Ty.int IntKind.u8) (dOf r4) 5) + List.length (gl (Ty.int IntKind.u8) (dOf r5) 0)) * 1 ≤ 140737488355328))
                 (.leaf ((0, [.l (Ty.int IntKind.u8) (gl (Ty.int IntKind.u8) (dOf r4) 5 ++ gl (Ty.int IntKind.u8) (dOf r5) 0)])))
                 (.bad 62))
                (.bad 351)))
              (.bad 351)))
            (.bad 62))
           (.bad 351)))
         (.bad 62))
        (.bad 351)))
      (.bad 351)))
  | _ => .bad 0
theorem fn_43_t_im (n0 : Int) (n1 : Int) (n2 : Int) (l3 : List (Ty.den (Ty.int IntKind.u8))) (n4 : Int) (g0 : l3.length = 64) : Imp (fn_43_t [.n n0, .n n1, .n n2, .l (Ty.int IntKind.u8) l3, .n n4]) (ev_43 [.n n0, .n n1, .n n2, .l TB l3, .n n4]) :=
(.path [1] (by kernel_rfl)
(.node (by kernel_rfl) (by kernel_rfl) (fun h0 =>
(.path [1,1,1] (by kernel_rfl)
(.node (by kernel_rfl) (by kernel_rfl) (fun h1 =>
(.path [1,1] (by kernel_rfl)
(.node (by kernel_rfl) (by kernel_rfl) (fun h2 =>
(.path [1] (by kernel_rfl)
(.node (by kernel_rfl) (by kernel_rfl) (fun h3 =>
(.path [1,1] (by kernel_rfl)
(.node (by kernel_rfl) (by kernel_rfl) (fun h4 =>
(.node (by kernel_rfl) (by kernel_rfl) (fun h5 =>
(.path [1] (by kernel_rfl)
(.node (by kernel_rfl) (by kernel_rfl) (fun h6 =>
(.path [1,1] (by kernel_rfl)
(.node (by kernel_rfl) (by kernel_rfl) (fun h7 =>
(.path [1] (by kernel_rfl)
(.leaf (by kernel_rfl)))) (fun h7 =>
.none)))) (fun h6 =>
.none)))) (fun h5 =>
.none))) (fun h4 =>
.none)))) (fun h3 =>
.none)))) (fun h2 =>
.none)))) (fun h1 =>
.none)))) (fun h0 =>
.none)))

noncomputable def cs_43 : FuncId → Option CSpec := csLend 43 B43 cs_13p
theorem cs_43_ok : CsOk Try.prog cs_43 := csLend_ok cs_13p_ok B43_ok

noncomputable def st_L14p_10 (env : List Dat) : Tree Step := Lk.stepMC false LK cs_43 14 10 ls0 (mkM 0 [] [(sh 96 [(1, .ptr 0 0), (3, .own 1), (4, .int .i64 0)], [inB 1, .arr TB 7])] [] [(.exit 0, sh 96 [(3, .own 0)], [.arr TB 0]), (.ret, sh 96 [(2, .nilsl)], [])] fun _ => none) env
theorem op_L14p_10_ex : ∃ f : List Dat → Option (Nat × List Dat), ∀ env, f env = iterS st_L14p_10 FU env := ⟨iterS st_L14p_10 FU, fun _ => rfl⟩
noncomputable def op_L14p_10 : List Dat → Option (Nat × List Dat) := Classical.choose op_L14p_10_ex
theorem op_L14p_10_eq (env : List Dat) : op_L14p_10 env = iterS st_L14p_10 FU env := Classical.choose_spec op_L14p_10_ex env
noncomputable def L14p_10 : MBox := mkM 0 [] [(sh 96 [(1, .ptr 0 0), (3, .own 1), (4, .int .i64 0)], [inB 1, .arr TB 7])] [] [(.exit 0, sh 96 [(3, .own 0)], [.arr TB 0]), (.ret, sh 96 [(2, .nilsl)], [])] op_L14p_10
theorem L14p_10_eqs : L14p_10 = mkM 0 [] [(sh 96 [(1, .ptr 0 0), (3, .own 1), (4, .int .i64 0)], [inB 1, .arr TB 7])] [] [(.exit 0, sh 96 [(3, .own 0)], [.arr TB 0]), (.ret, sh 96 [(2, .nilsl)], [])] (iterS st_L14p_10 FU) := congrArg (fun f => mkM 0 [] [(sh 96 [(1, .ptr 0 0), (3, .own 1), (4, .int .i64 0)], [inB 1, .arr TB 7])] [] [(.exit 0, sh 96 [(3, .own 0)], [.arr TB 0]), (.ret, sh 96 [(2, .nilsl)], [])] f) (funext op_L14p_10_eq)
theorem L14p_10_run : ∀ t s x, (manyRun L14p_10 t s).sel = some x → CodeOk Try.prog 0 (.loop (cAt Try.prog 14 10)) t s x := by
  rw [L14p_10_eqs]
  exact mkM_ok (st := st_L14p_10) (m := FU) cs_43_ok hmix false (LsOk.none _ _ _) (by kernel_rfl) (fun env y h => by rw [← stepMC_lk]; exact h)
theorem op_L14p_10_good {p : Nat × List Dat → Prop} (Inv : List Dat → Prop) (μ : List Dat → Nat) (h : ∀ env, Inv env → Good (fun y => match y with | .go e => Inv e ∧ μ e < μ env | .stop k d => p (k, d)) (st_L14p_10 env).sel) (env : List Dat) (hi : Inv env) (hm : μ env < FU) : Good p (op_L14p_10 env) := by
  rw [op_L14p_10_eq]
  exact iterS_good Inv μ p h FU env hi hm

noncomputable def fn_L14p_10_t : List Dat → Tree Step
  | [.n n0, .n n1, .n n2, .n n3, .n n4, .n n5, .l (Ty.pair (Ty.int IntKind.u8) (Ty.int IntKind.i64)) l6, .l (Ty.int IntKind.u8) l7] =>
    (.node (decide (n0 < (↑(List.length l6) : Int)))
     (.node (decide ((Prod.fst (List.getD l6 (Int.toNat n0) (Ty.dflt (Ty.pair (Ty.int IntKind.u8) (Ty.int IntKind.i64)))) : Int) < (1 : Int)))
      (.leaf (Step.stop 1 []))
      (.node (decide ((Prod.fst (List.getD l6 (Int.toNat n0) (Ty.dflt (Ty.pair (Ty.int IntKind.u8) (Ty.int IntKind.i64)))) : Int) > (3 : Int)))
       (.leaf (Step.stop 1 []))
       (.node (decide ((Prod.snd (List.getD l6 (Int.toNat n0) (Ty.dflt (Ty.pair (Ty.int IntKind.u8) (Ty.int IntKind.i64)))) : Int) < (0 : Int)))
        (.leaf (Step.stop 1 []))
        (.node (decide ((Prod.snd (List.getD l6 (Int.toNat n0) (Ty.dflt (Ty.pair (Ty.int IntKind.u8) (Ty.int IntKind.i64)))) : Int) > (63 : Int)))
         (.leaf (Step.stop 1 []))
         (.node (decide ((List.length l7 + 2) * 1 ≤ 140737488355328))
          (.leaf (Step.go [.k 0, .n (IntKind.wrap .i64 (n0 + (1 : Int))), .n n1, .n n2, .n n3, .n n4, .n n5, .l (Ty.pair (Ty.int IntKind.u8) (Ty.int IntKind.i64)) l6, .l (Ty.int IntKind.u8) (l7 ++ [Prod.fst (List.getD l6 (Int.toNat n0) (Ty.dflt (Ty.pair (Ty.int IntKind.u8) (Ty.int IntKind.i64)))), IntKind.wrap .u8 (Prod.snd (List.getD l6 (Int.toNat n0) (Ty.dflt (Ty.pair (Ty.int IntKind.u8) (Ty.int IntKind.i64)))))])]))
          (.bad 62))))))
     (.leaf (Step.stop 0 [.l (Ty.int IntKind.u8) l7])))
  | _ => .bad 0
theorem fn_L14p_10_t_im (n0 : Int) (n1 : Int) (n2 : Int) (n3 : Int) (n4 : Int) (n5 : Int) (l6 : List (Ty.den (Ty.pair (Ty.int IntKind.u8) (Ty.int IntKind.i64)))) (l7 : List (Ty.den (Ty.int IntKind.u8))) (g0 : 0 ≤ n0) : Imp (fn_L14p_10_t [.n n0, .n n1, .n n2, .n n3, .n n4, .n n5, .l (Ty.pair (Ty.int IntKind.u8) (Ty.int IntKind.i64)) l6, .l (Ty.int IntKind.u8) l7]) (st_L14p_10 [.k 0, .n n0, .n n1, .n n2, .n n3, .n n4, .n n5, .l TC l6, .l TB l7]) :=
(.path [1] (by kernel_rfl)
(.node (by kernel_rfl) (by kernel_rfl) (fun h0 =>
(.pt (c := (inR n0 (List.length l6))) (by kernel_rfl) (by kernel_rfl) (by (simp only [w64d, decide_eq_true_eq, decide_eq_false_iff_not, beq_iff_eq, beq_eq_false_iff_ne, bne_iff_ne, ne_eq, inR, Bool.and_eq_true, Bool.and_eq_false_iff, Bool.not_eq_true', Bool.not_eq_false', Bool.not_eq_eq_eq_not, Bool.not_true, Bool.not_false] at *; omega))
(.node (by kernel_rfl) (by kernel_rfl) (fun h1 =>
(.path [1,1,1,1,1,1,1] (by kernel_rfl)
(.leaf (by kernel_rfl)))) (fun h1 =>
(.node (by kernel_rfl) (by kernel_rfl) (fun h2 =>
(.path [1,1,1,1,1] (by kernel_rfl)
(.leaf (by kernel_rfl)))) (fun h2 =>
(.node (by kernel_rfl) (by kernel_rfl) (fun h3 =>
(.path [1,1,1] (by kernel_rfl)
(.leaf (by kernel_rfl)))) (fun h3 =>
(.node (by kernel_rfl) (by kernel_rfl) (fun h4 =>
(.path [1] (by kernel_rfl)
(.leaf (by kernel_rfl)))) (fun h4 =>
(.node (by kernel_rfl) (by kernel_rfl) (fun h5 =>
(.path [1] (by kernel_rfl)
(.leaf (by kernel_rfl)))) (fun h5 =>
.none)))))))))))) (fun h0 =>
(.path [1] (by kernel_rfl)
(.leaf (by kernel_rfl))))))

theorem ls_14p_ok : LsOk Try.prog (List.length ([] : List PB)) (lsM [(10, L14p_10)] (List.length ([] : List PB))) (bodyOf Try.prog 14) := LsOk.many fun j B hB hk c hc hi => by
  simp only [lookM] at hB
  split at hB
  · rename_i e; have := Nat.eq_of_beq_eq_true e; subst this; cases hB
    have e1 : loopAt Try.prog 14 10 = [cAt Try.prog 14 10] := loopAt_one (by kernel_rfl)
    have e2 : c ∈ loopAt Try.prog 14 10 := loopsAt_mem hc hi
    rw [e1] at e2; cases List.mem_singleton.1 e2; exact L14p_10_run
  cases hB

noncomputable def ev_14p (env : List Dat) : Tree (Nat × List Dat) := Lk.boxCN [(0, TB)] false LK cs_43 14 (lsM [(10, L14p_10)] (List.length ([] : List PB))) (mkF [inV 0] [] [] [(.own 0, [.arr TB 0])] fun _ => none) env
theorem op_14p_ex : ∃ f : List Dat → Option (Nat × List Dat), ∀ env, f env = (ev_14p env).sel := ⟨fun env => (ev_14p env).sel, fun _ => rfl⟩
noncomputable def op_14p : List Dat → Option (Nat × List Dat) := Classical.choose op_14p_ex
theorem op_14p_eq (env : List Dat) : op_14p env = (ev_14p env).sel := Classical.choose_spec op_14p_ex env
noncomputable def B14p : FBox := mkF [inV 0] [] [] [(.own 0, [.arr TB 0])] op_14p
theorem B14p_ok : RunOk Try.prog 14 (boxRun B14p) := mkFN_ok (nils := [(0, TB)]) (op := op_14p) cs_43_ok hmix false (ls_14p_ok) (fun env x h => by rw [op_14p_eq] at h; rw [← boxCN_lk]; exact h)
theorem op_14p_good {p : Nat × List Dat → Prop} {T : Tree (Nat × List Dat)} {env : List Dat} (h : Imp T (ev_14p env)) (g : Good p T.sel) : Good p (op_14p env) := by
  rw [op_14p_eq]
  exact h.good g

noncomputable def fn_14p_t : List Dat → Tree (Nat × List Dat)
  | [.n n0, .n n1, .n n2, .n n3, .n n4, .l (Ty.pair (Ty.int IntKind.u8) (Ty.int IntKind.i64)) l5] =>
    (.node (decide (n1 ≥ (0 : Int)))
     (.node (!decide (n1 ≤ (1099511627776 : Int)))
      (.leaf ((0, [.l (Ty.int IntKind.u8) []])))
      (.node (decide ((↑(List.length l5) : Int) > (8 : Int)))
       (.leaf ((0, [.l (Ty.int IntKind.u8) []])))
       (let r1 : Option (Nat × List Dat) := (op_30 [.n (IntKind.wrap .u64 n1), .n (8 : Int)]);
        (.node (isK 0 [HK.l (Ty.int IntKind.u8)] r1)
         (.node (decide ((2 + List.length (gl (Ty.int IntKind.u8) (dOf r1) 0)) * 1 ≤ 140737488355328))
          (let r2 : Option (Nat × List Dat) := (op_30 [.n n2, .n (8 : Int)]);
           (.node (isK 0 [HK.l (Ty.int IntKind.u8)] r2)
            (.node (decide ((List.length (([(1 : Int), n0] : List (Ty.den (Ty.int IntKind.u8))) ++ gl (Ty.int IntKind.u8) (dOf r1) 0) + List.length (gl (Ty.int IntKind.u8) (dOf r2) 0)) * 1 ≤ 140737488355328))
             (let r3 : Option (Nat × List Dat) := (op_30 [.n (IntKind.wrap .u64 n3), .n (4 : Int)]);
              (.node (isK 0 [HK.l (Ty.int IntKind.u8)] r3)
               (.node (decide ((List.length (([(1 : Int), n0] : List (Ty.den (Ty.int IntKind.u8))) ++ gl (Ty.int IntKind.u8) (dOf r1) 0 ++ gl (Ty.int IntKind.u8) (dOf r2) 0) + List.length (gl (Ty.int IntKind.u8) (dOf r3) 0)) * 1 ≤ 140737488355328))
                (let r4 : Option (Nat × List Dat) := (op_30 [.n (IntKind.wrap .u64 n4), .n (4 : Int)]);
                 (.node (isK 0 [HK.l (Ty.int IntKind.u8)] r4)
                  (.node (decide ((List.length (([(1 : Int), n0] : List (Ty.den (Ty.int IntKind.u8))) ++ gl (Ty.int IntKind.u8) (dOf r1) 0 ++ gl (Ty.int IntKind.u8) (dOf r2) 0 ++ gl (Ty.int IntKind.u8) (dOf r3) 0) + List.length (gl (Ty.int IntKind.u8) (dOf r4) 0)) * 1 ≤ 140737488355328))
                   (.node (decide ((List.length (([(1 : Int), n0] : List (Ty.den (Ty.int IntKind.u8))) ++ gl (Ty.int IntKind.u8) (dOf r1) 0 ++ gl (Ty.int IntKind.u8) (dOf r2) 0 ++ gl (Ty.int IntKind.u8) (dOf r3) 0 ++ gl (Ty.int IntKind.u8) (dOf r4) 0) + 1) * 1 ≤ 140737488355328))
                    (let r5 : Option (Nat × List Dat) := (op_L14p_10 [.k 0, .n (0 : Int), .n n0, .n n1, .n n2, .n n3, .n n4, .l (Ty.pair (Ty.int IntKind.u8) (Ty.int IntKind.i64)) l5, .l (Ty.int IntKind.u8) (([(1 : Int), n0] : List (Ty.den (Ty.int IntKind.u8))) ++ gl (Ty.int IntKind.u8) (dOf r1) 0 ++ gl (Ty.int IntKind.u8) (dOf r2) 0 ++ gl (Ty.int IntKind.u8) (dOf r3) 0 ++ gl (Ty.int IntKind.u8) (dOf r4) 0 ++ [IntKind.wrap .u8 (↑(List.length l5) : Int)])]);
                     (.node (isK 0 [HK.l (Ty.int IntKind.u8)] r5)
                      (let r6 : Option (Nat × List Dat) := (op_q13 [.l (Ty.int IntKind.u8) (gl (Ty.int IntKind.u8) (dOf r5) 0)]);
                       (.node (isK 0 [HK.n] r6)
                        (let r7 : Option (Nat × List Dat) := (op_30 [.n (IntKind.wrap .u64 (gn (dOf r6) 0)), .n (4 : Int)]);
                         (.node (isK 0 [HK.l (Ty.int IntKind.u8)] r7)
                          (.node (decide ((List.length (gl (Ty.int IntKind.u8) (dOf r5) 0) + List.length (gl (Ty.int IntKind.u8) (dOf r7) 0)) * 1 ≤ 140737488355328))
                           (.leaf ((0, [.l (Ty.int IntKind.u8) (gl (Ty.int IntKind.u8) (dOf r5) 0 ++ gl (Ty.int IntKind.u8) (dOf r7) 0)])))
                           (.bad 62))
                          (.bad 351)))
                        (.bad 351)))
                      (.node (isK 1 [] r5)
                       (.leaf ((0, [.l (Ty.int IntKind.u8) []])))
                       (.bad 351))))
                    (.bad 62))
                   (.bad 62))
                  (.bad 351)))
                (.bad 62))
               (.bad 351)))
             (.bad 62))
            (.bad 351)))
          (.bad 62))
         (.bad 351)))))
     (.leaf ((0, [.l (Ty.int IntKind.u8) []]))))
  | _ => .bad 0
theorem fn_14p_t_im (n0 : Int) (n1 : Int) (n2 : Int) (n3 : Int) (n4 : Int) (l5 : List (Ty.den (Ty.pair (Ty.int IntKind.u8) (Ty.int IntKind.i64)))) : Imp (fn_14p_t [.n n0, .n n1, .n n2, .n n3, .n n4, .l (Ty.pair (Ty.int IntKind.u8) (Ty.int IntKind.i64)) l5]) (ev_14p [.n n0, .n n1, .n n2, .n n3, .n n4, .l TC l5]) :=
(.path [1] (by kernel_rfl)
(.node (by kernel_rfl) (by kernel_rfl) (fun h0 =>
(.path [1] (by kernel_rfl)
(.node (by kernel_rfl) (by kernel_rfl) (fun h1 =>
(.path [1,1,1] (by kernel_rfl)
(.leaf (by kernel_rfl)))) (fun h1 =>
(.node (by kernel_rfl) (by kernel_rfl) (fun h2 =>
(.path [1] (by kernel_rfl)
(.leaf (by kernel_rfl)))) (fun h2 =>
(.path [1] (by kernel_rfl)
(.node (by kernel_rfl) (by kernel_rfl) (fun h3 =>
(.path [1,1] (by kernel_rfl)
(.node (by kernel_rfl) (by kernel_rfl) (fun h4 =>
(.path [1] (by kernel_rfl)
(.node (by kernel_rfl) (by kernel_rfl) (fun h5 =>
(.path [1,1] (by kernel_rfl)
(.node (by kernel_rfl) (by kernel_rfl) (fun h6 =>
(.path [1] (by kernel_rfl)
(.node (by kernel_rfl) (by kernel_rfl) (fun h7 =>
(.path [1,1] (by kernel_rfl)
(.node (by kernel_rfl) (by kernel_rfl) (fun h8 =>
(.path [1] (by kernel_rfl)
(.node (by kernel_rfl) (by kernel_rfl) (fun h9 =>
(.path [1,1] (by kernel_rfl)
(.node (by kernel_rfl) (by kernel_rfl) (fun h10 =>
(.node (by kernel_rfl) (by kernel_rfl) (fun h11 =>
(.node (by kernel_rfl) (by kernel_rfl) (fun h12 =>
(.path [1] (by kernel_rfl)
(.node (by kernel_rfl) (by kernel_rfl) (fun h13 =>
(.path [1,1] (by kernel_rfl)
(.node (by kernel_rfl) (by kernel_rfl) (fun h14 =>
(.path [1,1] (by kernel_rfl)
(.node (by kernel_rfl) (by kernel_rfl) (fun h15 =>
(.path [1,1] (by kernel_rfl)
(.leaf (by kernel_rfl)))) (fun h15 =>
.none)))) (fun h14 =>
.none)))) (fun h13 =>
.none)))) (fun h12 =>
(.node (by kernel_rfl) (by kernel_rfl) (fun h13 =>
(.path [1] (by kernel_rfl)
(.leaf (by kernel_rfl)))) (fun h13 =>
.none))))) (fun h11 =>
.none))) (fun h10 =>
.none)))) (fun h9 =>
.none)))) (fun h8 =>
.none)))) (fun h7 =>
.none)))) (fun h6 =>
.none)))) (fun h5 =>
.none)))) (fun h4 =>
.none)))) (fun h3 =>
.none))))))))) (fun h0 =>
(.path [0,1,1,1,1,1] (by kernel_rfl)
(.leaf (by kernel_rfl))))))

noncomputable def cs_14p : FuncId → Option CSpec := csLend 14 B14p cs_43
theorem cs_14p_ok : CsOk Try.prog cs_14p := csLend_ok cs_43_ok B14p_ok

noncomputable def ev_16p (env : List Dat) : Tree (Nat × List Dat) := Lk.boxCN [(0, TB)] false LK cs_14p 16 ls0 (mkF [ouV 0] [] [] [(.own 0, [.arr TB 0])] fun _ => none) env
theorem op_16p_ex : ∃ f : List Dat → Option (Nat × List Dat), ∀ env, f env = (ev_16p env).sel := ⟨fun env => (ev_16p env).sel, fun _ => rfl⟩
noncomputable def op_16p : List Dat → Option (Nat × List Dat) := Classical.choose op_16p_ex
theorem op_16p_eq (env : List Dat) : op_16p env = (ev_16p env).sel := Classical.choose_spec op_16p_ex env
noncomputable def B16p : FBox := mkF [ouV 0] [] [] [(.own 0, [.arr TB 0])] op_16p
theorem B16p_ok : RunOk Try.prog 16 (boxRun B16p) := mkFN_ok (nils := [(0, TB)]) (op := op_16p) cs_14p_ok hmix false (LsOk.none _ _ _) (fun env x h => by rw [op_16p_eq] at h; rw [← boxCN_lk]; exact h)
theorem op_16p_good {p : Nat × List Dat → Prop} {T : Tree (Nat × List Dat)} {env : List Dat} (h : Imp T (ev_16p env)) (g : Good p T.sel) : Good p (op_16p env) := by
  rw [op_16p_eq]
  exact h.good g

noncomputable def fn_16p_t : List Dat → Tree (Nat × List Dat)
  | [.n n0, .n n1, .n n2, .n n3, .n n4] =>
    (.node (decide (n1 ≥ (0 : Int)))
     (.node (!decide (n1 ≤ (1099511627776 : Int)))
      (.leaf ((0, [.l (Ty.int IntKind.u8) []])))
      (.node (decide (n2 ≥ (0 : Int)))
       (.node (!decide (n2 ≤ (1099511627776 : Int)))
        (.leaf ((0, [.l (Ty.int IntKind.u8) []])))
        (let r1 : Option (Nat × List Dat) := (op_30 [.n (IntKind.wrap .u64 n1), .n (8 : Int)]);
         (.node (isK 0 [HK.l (Ty.int IntKind.u8)] r1)
          (.node (decide ((2 + List.length (gl (Ty.int IntKind.u8) (dOf r1) 0)) * 1 ≤ 140737488355328))
           (let r2 : Option (Nat × List Dat) := (op_30 [.n (IntKind.wrap .u64 n2), .n (8 : Int)]);
            (.node (isK 0 [HK.l (Ty.int IntKind.u8)] r2)
             (.node (decide ((List.length (([(2 : Int), n0] : List (Ty.den (Ty.int IntKind.u8))) ++ gl (Ty.int IntKind.u8) (dOf r1) 0) + List.length (gl (Ty.int IntKind.u8) (dOf r2) 0)) * 1 ≤ 140737488355328))
              (let r3 : Option (Nat × List Dat) := (op_30 [.n n3, .n (8 : Int)]);
               (.node (isK 0 [HK.l (Ty.int IntKind.u8)] r3)
                (.node (decide ((List.length (([(2 : Int), n0] : List (Ty.den (Ty.int IntKind.u8))) ++ gl (Ty.int IntKind.u8) (dOf r1) 0 ++ gl (Ty.int IntKind.u8) (dOf r2) 0) + List.length (gl (Ty.int IntKind.u8) (dOf r3) 0)) * 1 ≤ 140737488355328))
                 (let r4 : Option (Nat × List Dat) := (op_30 [.n (IntKind.wrap .u64 n4), .n (4 : Int)]);
                  (.node (isK 0 [HK.l (Ty.int IntKind.u8)] r4)
                   (.node (decide ((List.length (([(2 : Int), n0] : List (Ty.den (Ty.int IntKind.u8))) ++ gl (Ty.int IntKind.u8) (dOf r1) 0 ++ gl (Ty.int IntKind.u8) (dOf r2) 0 ++ gl (Ty.int IntKind.u8) (dOf r3) 0) + List.length (gl (Ty.int IntKind.u8) (dOf r4) 0)) * 1 ≤ 140737488355328))
                    (let r5 : Option (Nat × List Dat) := (op_q13 [.l (Ty.int IntKind.u8) (([(2 : Int), n0] : List (Ty.den (Ty.int IntKind.u8))) ++ gl (Ty.int IntKind.u8) (dOf r1) 0 ++ gl (Ty.int IntKind.u8) (dOf r2) 0 ++ gl (Ty.int IntKind.u8) (dOf r3) 0 ++ gl (Ty.int IntKind.u8) (dOf r4) 0)]);
                     (.node (isK 0 [HK.n] r5)
                      (let r6 : Option (Nat × List Dat) := (op_30 [.n (IntKind.wrap .u64 (gn (dOf r5) 0)), .n (4 : Int)]);
                       (.node (isK 0 [HK.l (Ty.int IntKind.u8)] r6)
                        (.node (decide ((List.length (([(2 : Int), n0] : List (Ty.den (Ty.int IntKind.u8))) ++ gl (Ty.int IntKind.u8) (dOf r1) 0 ++ gl (Ty.int IntKind.u8) (dOf r2) 0 ++ gl (Ty.int IntKind.u8) (dOf r3) 0 ++ gl (Ty.int IntKind.u8) (dOf r4) 0) + List.length (gl (Ty.int IntKind.u8) (dOf r6) 0)) * 1 ≤ 140737488355328))
                         (.leaf ((0, [.l (Ty.int IntKind.u8) (([(2 : Int), n0] : List (Ty.den (Ty.int IntKind.u8))) ++ gl (Ty.int IntKind.u8) (dOf r1) 0 ++ gl (Ty.int IntKind.u8) (dOf r2) 0 ++ gl (Ty.int IntKind.u8) (dOf r3) 0 ++ gl (Ty.int IntKind.u8) (dOf r4) 0 ++ gl (Ty.int IntKind.u8) (dOf r6) 0)])))
                         (.bad 62))
                        (.bad 351)))
                      (.bad 351)))
                    (.bad 62))
                   (.bad 351)))
                 (.bad 62))
                (.bad 351)))
              (.bad 62))
             (.bad 351)))
           (.bad 62))
          (.bad 351))))
       (.leaf ((0, [.l (Ty.int IntKind.u8) []])))))
     (.leaf ((0, [.l (Ty.int IntKind.u8) []]))))
  | _ => .bad 0
theorem fn_16p_t_im (n0 : Int) (n1 : Int) (n2 : Int) (n3 : Int) (n4 : Int) : Imp (fn_16p_t [.n n0, .n n1, .n n2, .n n3, .n n4]) (ev_16p [.n n0, .n n1, .n n2, .n n3, .n n4]) :=
(.path [1] (by kernel_rfl)
(.node (by kernel_rfl) (by kernel_rfl) (fun h0 =>
(.path [1] (by kernel_rfl)
(.node (by kernel_rfl) (by kernel_rfl) (fun h1 =>
(.path [1,1,1] (by kernel_rfl)
(.leaf (by kernel_rfl)))) (fun h1 =>
(.path [1] (by kernel_rfl)
(.node (by kernel_rfl) (by kernel_rfl) (fun h2 =>
(.path [1] (by kernel_rfl)
(.node (by kernel_rfl) (by kernel_rfl) (fun h3 =>
(.path [1] (by kernel_rfl)
(.leaf (by kernel_rfl)))) (fun h3 =>
(.path [1] (by kernel_rfl)
(.node (by kernel_rfl) (by kernel_rfl) (fun h4 =>
(.path [1,1] (by kernel_rfl)
(.node (by kernel_rfl) (by kernel_rfl) (fun h5 =>
(.path [1] (by kernel_rfl)
(.node (by kernel_rfl) (by kernel_rfl) (fun h6 =>
(.path [1,1] (by kernel_rfl)
(.node (by kernel_rfl) (by kernel_rfl) (fun h7 =>
(.path [1] (by kernel_rfl)
(.node (by kernel_rfl) (by kernel_rfl) (fun h8 =>
(.path [1,1] (by kernel_rfl)
(.node (by kernel_rfl) (by kernel_rfl) (fun h9 =>
(.path [1] (by kernel_rfl)
(.node (by kernel_rfl) (by kernel_rfl) (fun h10 =>
(.path [1,1] (by kernel_rfl)
(.node (by kernel_rfl) (by kernel_rfl) (fun h11 =>
(.path [1] (by kernel_rfl)
(.node (by kernel_rfl) (by kernel_rfl) (fun h12 =>
(.path [1,1] (by kernel_rfl)
(.node (by kernel_rfl) (by kernel_rfl) (fun h13 =>
(.path [1,1] (by kernel_rfl)
(.node (by kernel_rfl) (by kernel_rfl) (fun h14 =>
(.path [1,1] (by kernel_rfl)
(.leaf (by kernel_rfl)))) (fun h14 =>
.none)))) (fun h13 =>
.none)))) (fun h12 =>
.none)))) (fun h11 =>
.none)))) (fun h10 =>
.none)))) (fun h9 =>
.none)))) (fun h8 =>
.none)))) (fun h7 =>
.none)))) (fun h6 =>
.none)))) (fun h5 =>
.none)))) (fun h4 =>
.none))))))) (fun h2 =>
(.path [0,1,1,1] (by kernel_rfl)
(.leaf (by kernel_rfl)))))))))) (fun h0 =>
(.path [0,1,1,1,1,1] (by kernel_rfl)
(.leaf (by kernel_rfl))))))

noncomputable def cs_16p : FuncId → Option CSpec := csLend 16 B16p cs_14p
theorem cs_16p_ok : CsOk Try.prog cs_16p := csLend_ok cs_14p_ok B16p_ok

noncomputable def ev_18p (env : List Dat) : Tree (Nat × List Dat) := Lk.boxCN [(0, TB)] false LK cs_16p 18 ls0 (mkF [stV 0] [] [] [(.own 0, [.arr TB 0])] fun _ => none) env
theorem op_18p_ex : ∃ f : List Dat → Option (Nat × List Dat), ∀ env, f env = (ev_18p env).sel := ⟨fun env => (ev_18p env).sel, fun _ => rfl⟩
noncomputable def op_18p : List Dat → Option (Nat × List Dat) := Classical.choose op_18p_ex
theorem op_18p_eq (env : List Dat) : op_18p env = (ev_18p env).sel := Classical.choose_spec op_18p_ex env
noncomputable def B18p : FBox := mkF [stV 0] [] [] [(.own 0, [.arr TB 0])] op_18p
theorem B18p_ok : RunOk Try.prog 18 (boxRun B18p) := mkFN_ok (nils := [(0, TB)]) (op := op_18p) cs_16p_ok hmix false (LsOk.none _ _ _) (fun env x h => by rw [op_18p_eq] at h; rw [← boxCN_lk]; exact h)
theorem op_18p_good {p : Nat × List Dat → Prop} {T : Tree (Nat × List Dat)} {env : List Dat} (h : Imp T (ev_18p env)) (g : Good p T.sel) : Good p (op_18p env) := by
  rw [op_18p_eq]
  exact h.good g

noncomputable def fn_18p_t : List Dat → Tree (Nat × List Dat)
  | [.n n0, .n n1, .n n2, .l (Ty.int IntKind.u8) l3, .n n4] =>
    (let r1 : Option (Nat × List Dat) := (op_43 [.n n0, .n n1, .n n2, .l (Ty.int IntKind.u8) l3, .n n4]);
     (.node (isK 0 [HK.l (Ty.int IntKind.u8)] r1)
      (.node (decide ((1 + List.length (gl (Ty.int IntKind.u8) (dOf r1) 0)) * 1 ≤ 140737488355328))
       (let r2 : Option (Nat × List Dat) := (op_q13 [.l (Ty.int IntKind.u8) (([(3 : Int)] : List (Ty.den (Ty.int IntKind.u8))) ++ gl (Ty.int IntKind.u8) (dOf r1) 0)]);
        (.node (isK 0 [HK.n] r2)
         (let r3 : Option (Nat × List Dat) := (op_30 [.n (IntKind.wrap .u64 (gn (dOf r2) 0)), .n (4 : Int)]);
          (.node (isK 0 [HK.l (Ty.int IntKind.u8)] r3)
           (.node (decide ((List.length (([(3 : Int)] : List (Ty.den (Ty.int IntKind.u8))) ++ gl (Ty.int IntKind.u8) (dOf r1) 0) + List.length (gl (Ty.int IntKind.u8) (dOf r3) 0)) * 1 ≤ 140737488355328))
            (.leaf ((0, [.l (Ty.int IntKind.u8) (([(3 : Int)] : List (Ty.den (Ty.int IntKind.u8))) ++ gl (Ty.int IntKind.u8) (dOf r1) 0 ++ gl (Ty.int IntKind.u8) (dOf r3) 0)])))
            (.bad 62))
           (.bad 351)))
         (.bad 351)))
       (.bad 62))
      (.bad 351)))
  | _ => .bad 0
theorem fn_18p_t_im (n0 : Int) (n1 : Int) (n2 : Int) (l3 : List (Ty.den (Ty.int IntKind.u8))) (n4 : Int) (g0 : l3.length = 64) : Imp (fn_18p_t [.n n0, .n n1, .n n2, .l (Ty.int IntKind.u8) l3, .n n4]) (ev_18p [.n n0, .n n1, .n n2, .l TB l3, .n n4]) :=
(.node (by kernel_rfl) (by kernel_rfl) (fun h0 =>
(.path [1] (by kernel_rfl)
(.node (by kernel_rfl) (by kernel_rfl) (fun h1 =>
(.path [1] (by kernel_rfl)
(.node (by kernel_rfl) (by kernel_rfl) (fun h2 =>
(.path [1,1] (by kernel_rfl)
(.node (by kernel_rfl) (by kernel_rfl) (fun h3 =>
(.path [1,1] (by kernel_rfl)
(.node (by kernel_rfl) (by kernel_rfl) (fun h4 =>
(.path [1,1] (by kernel_rfl)
(.leaf (by kernel_rfl)))) (fun h4 =>
.none)))) (fun h3 =>
.none)))) (fun h2 =>
.none)))) (fun h1 =>
.none)))) (fun h0 =>
.none))

noncomputable def cs_18p : FuncId → Option CSpec := csLend 18 B18p cs_16p
theorem cs_18p_ok : CsOk Try.prog cs_18p := csLend_ok cs_16p_ok B18p_ok

noncomputable def ev_19p (env : List Dat) : Tree (Nat × List Dat) := Lk.boxCN [(0, TB)] false LK cs_18p 19 ls0 (mkF [loV 0] [] [] [(.own 0, [.arr TB 0])] fun _ => none) env
theorem op_19p_ex : ∃ f : List Dat → Option (Nat × List Dat), ∀ env, f env = (ev_19p env).sel := ⟨fun env => (ev_19p env).sel, fun _ => rfl⟩
noncomputable def op_19p : List Dat → Option (Nat × List Dat) := Classical.choose op_19p_ex
theorem op_19p_eq (env : List Dat) : op_19p env = (ev_19p env).sel := Classical.choose_spec op_19p_ex env
noncomputable def B19p : FBox := mkF [loV 0] [] [] [(.own 0, [.arr TB 0])] op_19p
theorem B19p_ok : RunOk Try.prog 19 (boxRun B19p) := mkFN_ok (nils := [(0, TB)]) (op := op_19p) cs_18p_ok hmix false (LsOk.none _ _ _) (fun env x h => by rw [op_19p_eq] at h; rw [← boxCN_lk]; exact h)
theorem op_19p_good {p : Nat × List Dat → Prop} {T : Tree (Nat × List Dat)} {env : List Dat} (h : Imp T (ev_19p env)) (g : Good p T.sel) : Good p (op_19p env) := by
  rw [op_19p_eq]
  exact h.good g

noncomputable def fn_19p_t : List Dat → Tree (Nat × List Dat)
  | [.n n0, .n n1, .n n2, .n n3, .n n4, .l (Ty.int IntKind.u8) l5, .n n6] =>
    (.node (decide (n0 ≥ (0 : Int)))
     (.node (!decide (n0 ≤ (1099511627776 : Int)))
      (.leaf ((0, [.l (Ty.int IntKind.u8) []])))
      (.node (decide (n1 ≥ (0 : Int)))
       (.node (!decide (n1 ≤ (1099511627776 : Int)))
        (.leaf ((0, [.l (Ty.int IntKind.u8) []])))
        (let r1 : Option (Nat × List Dat) := (op_30 [.n (IntKind.wrap .u64 n0), .n (8 : Int)]);
         (.node (isK 0 [HK.l (Ty.int IntKind.u8)] r1)
          (.node (decide ((1 + List.length (gl (Ty.int IntKind.u8) (dOf r1) 0)) * 1 ≤ 140737488355328))
           (let r2 : Option (Nat × List Dat) := (op_30 [.n (IntKind.wrap .u64 n1), .n (8 : Int)]);
            (.node (isK 0 [HK.l (Ty.int IntKind.u8)] r2)
             (.node (decide ((List.length (([(4 : Int)] : List (Ty.den (Ty.int IntKind.u8))) ++ gl (Ty.int IntKind.u8) (dOf r1) 0) + List.length (gl (Ty.int IntKind.u8) (dOf r2) 0)) * 1 ≤ 140737488355328))
              (let r3 : Option (Nat × List Dat) := (op_43 [.n n2, .n n3, .n n4, .l (Ty.int IntKind.u8) l5, .n n6]);
               (.node (isK 0 [HK.l (Ty.int IntKind.u8)] r3)
                (.node (decide ((List.length (([(4 : Int)] : List (Ty.den (Ty.int IntKind.u8))) ++ gl (Ty.int IntKind.u8) (dOf r1) 0 ++ gl (Ty.int IntKind.u8) (dOf r2) 0) + List.length (gl (Ty.int IntKind.u8) (dOf r3) 0)) * 1 ≤ 140737488355328))
                 (let r4 : Option (Nat × List Dat) := (op_q13 [.l (Ty.int IntKind.u8) (([(4 : Int)] : List (Ty.den (Ty.int IntKind.u8))) ++ gl (Ty.int IntKind.u8) (dOf r1) 0 ++ gl (Ty.int IntKind.u8) (dOf r2) 0 ++ gl (Ty.int IntKind.u8) (dOf r3) 0)]);
                  (.node (isK 0 [HK.n] r4)
                   (let r5 : Option (Nat × List Dat) := (op_30 [.n (IntKind.wrap .u64 (gn (dOf r4) 0)), .n (4 : Int)]);
                    (.node (isK 0 [HK.l (Ty.int IntKind.u8)] r5)
                     (.node (decide ((List.length (([(4 : Int)] : List (Ty.den (Ty.int IntKind.u8))) ++ gl (Ty.int IntKind.u8) (dOf r1) 0 ++ gl (Ty.int IntKind.u8) (dOf r2) 0 ++ gl (Ty.int IntKind.u8) (dOf r3) 0) + List.length (gl (Ty.int IntKind.u8) (dOf r5) 0)) * 1 ≤ 140737488355328))
                      (.leaf ((0, [.l (Ty.int IntKind.u8) (([(4 : Int)] : List (Ty.den (Ty.int IntKind.u8))) ++ gl (Ty.int IntKind.u8) (dOf r1) 0 ++ gl (Ty.int IntKind.u8) (dOf r2) 0 ++ gl (Ty.int IntKind.u8) (dOf r3) 0 ++ gl (Ty.int IntKind.u8) (dOf r5) 0)])))
                      (.bad 62))
                     (.bad 351)))
                   (.bad 351)))
                 (.bad 62))
                (.bad 351)))
              (.bad 62))
             (.bad 351)))
           (.bad 62))
          (.bad 351))))
       (.leaf ((0, [.l (Ty.int IntKind.u8) []])))))
     (.leaf ((0, [.l (Ty.int IntKind.u8) []]))))
  | _ => .bad 0
theorem fn_19p_t_im (n0 : Int) (n1 : Int) (n2 : Int) (n3 : Int) (n4 : Int) (l5 : List (Ty.den (Ty.int IntKind.u8))) (n6 : Int) (g0 : l5.length = 64) : Imp (fn_19p_t [.n n0, .n n1, .n n2, .n n3, .n n4, .l (Ty.int IntKind.u8) l5, .n n6]) (ev_19p [.n n0, .n n1, .n n2, .n n3, .n n4, .l TB l5, .n n6]) :=
(.path [1] (by kernel_rfl)
(.node (by kernel_rfl) (by kernel_rfl) (fun h0 =>
(.path [1] (by kernel_rfl)
(.node (by kernel_rfl) (by kernel_rfl) (fun h1 =>
(.path [1,1,1] (by kernel_rfl)
(.leaf (by kernel_rfl)))) (fun h1 =>
(.path [1] (by kernel_rfl)
(.node (by kernel_rfl) (by kernel_rfl) (fun h2 =>
(.path [1] (by kernel_rfl)
(.node (by kernel_rfl) (by kernel_rfl) (fun h3 =>
(.path [1] (by kernel_rfl)
(.leaf (by kernel_rfl)))) (fun h3 =>
(.path [1] (by kernel_rfl)
(.node (by kernel_rfl) (by kernel_rfl) (fun h4 =>
(.path [1,1] (by kernel_rfl)
(.node (by kernel_rfl) (by kernel_rfl) (fun h5 =>
(.path [1] (by kernel_rfl)
(.node (by kernel_rfl) (by kernel_rfl) (fun h6 =>
(.path [1,1] (by kernel_rfl)
(.node (by kernel_rfl) (by kernel_rfl) (fun h7 =>
(.node (by kernel_rfl) (by kernel_rfl) (fun h8 =>
(.path [1] (by kernel_rfl)
(.node (by kernel_rfl) (by kernel_rfl) (fun h9 =>
(.path [1] (by kernel_rfl)
(.node (by kernel_rfl) (by kernel_rfl) (fun h10 =>
(.path [1,1] (by kernel_rfl)
(.node (by kernel_rfl) (by kernel_rfl) (fun h11 =>
(.path [1,1] (by kernel_rfl)
(.node (by kernel_rfl) (by kernel_rfl) (fun h12 =>
(.path [1,1] (by kernel_rfl)
(.leaf (by kernel_rfl)))) (fun h12 =>
.none)))) (fun h11 =>
.none)))) (fun h10 =>
.none)))) (fun h9 =>
.none)))) (fun h8 =>
.none))) (fun h7 =>
.none)))) (fun h6 =>
.none)))) (fun h5 =>
.none)))) (fun h4 =>
.none))))))) (fun h2 =>
(.path [0,1,1,1] (by kernel_rfl)
(.leaf (by kernel_rfl)))))))))) (fun h0 =>
(.path [0,1,1,1,1,1] (by kernel_rfl)
(.leaf (by kernel_rfl))))))

noncomputable def cs_19p : FuncId → Option CSpec := csLend 19 B19p cs_18p
theorem cs_19p_ok : CsOk Try.prog cs_19p := csLend_ok cs_18p_ok B19p_ok

noncomputable def ev_21p (env : List Dat) : Tree (Nat × List Dat) := Lk.boxCN [(0, TB)] false LK cs_19p 21 ls0 (mkF [lmV 0] [] [] [(.own 0, [.arr TB 0])] fun _ => none) env
theorem op_21p_ex : ∃ f : List Dat → Option (Nat × List Dat), ∀ env, f env = (ev_21p env).sel := ⟨fun env => (ev_21p env).sel, fun _ => rfl⟩
noncomputable def op_21p : List Dat → Option (Nat × List Dat) := Classical.choose op_21p_ex
theorem op_21p_eq (env : List Dat) : op_21p env = (ev_21p env).sel := Classical.choose_spec op_21p_ex env
noncomputable def B21p : FBox := mkF [lmV 0] [] [] [(.own 0, [.arr TB 0])] op_21p
theorem B21p_ok : RunOk Try.prog 21 (boxRun B21p) := mkFN_ok (nils := [(0, TB)]) (op := op_21p) cs_19p_ok hmix false (LsOk.none _ _ _) (fun env x h => by rw [op_21p_eq] at h; rw [← boxCN_lk]; exact h)
theorem op_21p_good {p : Nat × List Dat → Prop} {T : Tree (Nat × List Dat)} {env : List Dat} (h : Imp T (ev_21p env)) (g : Good p T.sel) : Good p (op_21p env) := by
  rw [op_21p_eq]
  exact h.good g

noncomputable def fn_21p_t : List Dat → Tree (Nat × List Dat)
  | [.n n0, .n n1, .n n2, .n n3, .s s4] =>
    (.node (decide (n2 < (0 : Int)))
     (.leaf ((0, [.l (Ty.int IntKind.u8) []])))
     (.node (decide (n2 > (4611686018427387904 : Int)))
      (.leaf ((0, [.l (Ty.int IntKind.u8) []])))
      (.node (decide (n3 < (0 : Int)))
       (.leaf ((0, [.l (Ty.int IntKind.u8) []])))
       (.node (decide (n3 > (4611686018427387904 : Int)))
        (.leaf ((0, [.l (Ty.int IntKind.u8) []])))
        (.node (decide ((↑(ByteArray.size s4) : Int) > (2048 : Int)))
         (.leaf ((0, [.l (Ty.int IntKind.u8) []])))
         (let r1 : Option (Nat × List Dat) := (op_30 [.n (IntKind.wrap .u64 n2), .n (8 : Int)]);
          (.node (isK 0 [HK.l (Ty.int IntKind.u8)] r1)
           (.node (decide ((3 + List.length (gl (Ty.int IntKind.u8) (dOf r1) 0)) * 1 ≤ 140737488355328))
            (let r2 : Option (Nat × List Dat) := (op_30 [.n (IntKind.wrap .u64 n3), .n (8 : Int)]);
             (.node (isK 0 [HK.l (Ty.int IntKind.u8)] r2)
              (.node (decide ((List.length (([(5 : Int), n0, n1] : List (Ty.den (Ty.int IntKind.u8))) ++ gl (Ty.int IntKind.u8) (dOf r1) 0) + List.length (gl (Ty.int IntKind.u8) (dOf r2) 0)) * 1 ≤ 140737488355328))
               (let r3 : Option (Nat × List Dat) := (op_30 [.n (IntKind.wrap .u64 (↑(ByteArray.size s4) : Int)), .n (2 : Int)]);
                (.node (isK 0 [HK.l (Ty.int IntKind.u8)] r3)
                 (.node (decide ((List.length (([(5 : Int), n0, n1] : List (Ty.den (Ty.int IntKind.u8))) ++ gl (Ty.int IntKind.u8) (dOf r1) 0 ++ gl (Ty.int IntKind.u8) (dOf r2) 0) + List.length (gl (Ty.int IntKind.u8) (dOf r3) 0)) * 1 ≤ 140737488355328))
                  (.node (decide ((List.length (([(5 : Int), n0, n1] : List (Ty.den (Ty.int IntKind.u8))) ++ gl (Ty.int IntKind.u8) (dOf r1) 0 ++ gl (Ty.int IntKind.u8) (dOf r2) 0 ++ gl (Ty.int IntKind.u8) (dOf r3) 0) + List.length (bytesOf s4)) * 1 ≤ 140737488355328))
                   (let r4 : Option (Nat × List Dat) := (op_q13 [.l (Ty.int IntKind.u8) (([(5 : Int), n0, n1] : List (Ty.den (Ty.int IntKind.u8))) ++ gl (Ty.int IntKind.u8) (dOf r1) 0 ++ gl (Ty.int IntKind.u8) (dOf r2) 0 ++ gl (Ty.int IntKind.u8) (dOf r3) 0 ++ bytesOf s4)]);
                    (.node (isK 0 [HK.n] r4)
                     (let r5 : Option (Nat × List Dat) := (op_30 [.n (IntKind.wrap .u64 (gn (dOf r4) 0)), .n (4 : Int)]);
                      (.node (isK 0 [HK.l (Ty.int IntKind.u8)] r5)
                       (.node (decide ((List.length (([(5 : Int), n0, n1] : List (Ty.den (Ty.int IntKind.u8))) ++ gl (Ty.int IntKind.u8) (dOf r1) 0 ++ gl (Ty.int IntKind.u8) (dOf r2) 0 ++ gl (Ty.int IntKind.u8) (dOf r3) 0 ++ bytesOf s4) + List.length (gl (Ty.int IntKind.u8) (dOf r5) 0)) * 1 ≤ 140737488355328))
                        (.leaf ((0, [.l (Ty.int IntKind.u8) (([(5 : Int), n0, n1] : List (Ty.den (Ty.int IntKind.u8))) ++ gl (Ty.int IntKind.u8) (dOf r1) 0 ++ gl (Ty.int IntKind.u8) (dOf r2) 0 ++ gl (Ty.int IntKind.u8) (dOf r3) 0 ++ bytesOf s4 ++ gl (Ty.int IntKind.u8) (dOf r5) 0)])))
                        (.bad 62))
                       (.bad 351)))
                     (.bad 351)))
                   (.bad 62))
                  (.bad 62))
                 (.bad 351)))
               (.bad 62))
              (.bad 351)))
            (.bad 62))
           (.bad 351))))))))
  | _ => .bad 0
theorem fn_21p_t_im (n0 : Int) (n1 : Int) (n2 : Int) (n3 : Int) (s4 : ByteArray) : Imp (fn_21p_t [.n n0, .n n1, .n n2, .n n3, .s s4]) (ev_21p [.n n0, .n n1, .n n2, .n n3, .s s4]) :=
(.node (by kernel_rfl) (by kernel_rfl) (fun h0 =>
(.path [1,1,1,1,1,1,1,1,1] (by kernel_rfl)
(.leaf (by kernel_rfl)))) (fun h0 =>
(.node (by kernel_rfl) (by kernel_rfl) (fun h1 =>
(.path [1,1,1,1,1,1,1] (by kernel_rfl)
(.leaf (by kernel_rfl)))) (fun h1 =>
(.node (by kernel_rfl) (by kernel_rfl) (fun h2 =>
(.path [1,1,1,1,1] (by kernel_rfl)
(.leaf (by kernel_rfl)))) (fun h2 =>
(.node (by kernel_rfl) (by kernel_rfl) (fun h3 =>
(.path [1,1,1] (by kernel_rfl)
(.leaf (by kernel_rfl)))) (fun h3 =>
(.node (by kernel_rfl) (by kernel_rfl) (fun h4 =>
(.path [1] (by kernel_rfl)
(.leaf (by kernel_rfl)))) (fun h4 =>
(.path [1] (by kernel_rfl)
(.node (by kernel_rfl) (by kernel_rfl) (fun h5 =>
(.path [1,1] (by kernel_rfl)
(.node (by kernel_rfl) (by kernel_rfl) (fun h6 =>
(.path [1] (by kernel_rfl)
(.node (by kernel_rfl) (by kernel_rfl) (fun h7 =>
(.path [1,1] (by kernel_rfl)
(.node (by kernel_rfl) (by kernel_rfl) (fun h8 =>
(.path [1] (by kernel_rfl)
(.node (by kernel_rfl) (by kernel_rfl) (fun h9 =>
(.path [1,1] (by kernel_rfl)
(.node (by kernel_rfl) (by kernel_rfl) (fun h10 =>
(.node (by kernel_rfl) (by kernel_rfl) (fun h11 =>
(.path [1] (by kernel_rfl)
(.node (by kernel_rfl) (by kernel_rfl) (fun h12 =>
(.path [1,1] (by kernel_rfl)
(.node (by kernel_rfl) (by kernel_rfl) (fun h13 =>
(.path [1,1] (by kernel_rfl)
(.node (by kernel_rfl) (by kernel_rfl) (fun h14 =>
(.path [1,1] (by kernel_rfl)
(.leaf (by kernel_rfl)))) (fun h14 =>
.none)))) (fun h13 =>
.none)))) (fun h12 =>
.none)))) (fun h11 =>
.none))) (fun h10 =>
.none)))) (fun h9 =>
.none)))) (fun h8 =>
.none)))) (fun h7 =>
.none)))) (fun h6 =>
.none)))) (fun h5 =>
.none)))))))))))))

noncomputable def cs_21p : FuncId → Option CSpec := csLend 21 B21p cs_19p
theorem cs_21p_ok : CsOk Try.prog cs_21p := csLend_ok cs_19p_ok B21p_ok
end Go.Proofs.Ytlambinleegdoaa.Vx
namespace Go.Proofs.Ytlambinleegdoaa.Vx
open Go Go.RowKit
set_option linter.unusedVariables false
set_option linter.unusedSimpArgs false
set_option maxRecDepth 100000
set_option maxHeartbeats 0
noncomputable def st_L3_15 (env : List Dat) : Tree Step := Lk.stepMC false LK cs_21p 3 15 ls0 (mkM 0 [] [(sh 85 [(5, .ptr 0 0), (6, .ptr 1 0), (7, .ptr 2 0), (8, .ptr 3 0), (9, .ptr 4 0), (11, .int .i64 0), (12, .own 5), (13, .own 6), (14, .int .i64 1), (15, .own 7), (16, .int .i64 2)], [inB 3, ouB 9, stB 14, loB 19, liB 26, .vec [.own 7, .own 8, .own 9, .own 10, .own 11], .vec [.own 12, .own 13, .own 14, .own 15, .own 16], .arr TB 31, .arr TB 32, .arr TB 33, .arr TB 34, .arr TB 35, .arr TB 36, .arr TB 37, .arr TB 38, .arr TB 39, .arr TB 40]), (sh 85 [(5, .ptr 0 0), (6, .ptr 1 0), (7, .ptr 2 0), (8, .ptr 3 0), (9, .ptr 4 0), (11, .int .i64 0), (12, .own 5), (13, .own 6), (14, .int .i64 1), (15, .own 7), (16, .int .i64 2)], [inB 3, ouB 9, stB 14, loB 19, liB 26, .vec [.own 8, .own 7, .own 9, .own 10, .own 11], .vec [.own 12, .own 13, .own 14, .own 15, .own 16], .arr TB 31, .arr TB 32, .arr TB 33, .arr TB 34, .arr TB 35, .arr TB 36, .arr TB 37, .arr TB 38, .arr TB 39, .arr TB 40]), (sh 85 [(5, .ptr 0 0), (6, .ptr 1 0), (7, .ptr 2 0), (8, .ptr 3 0), (9, .ptr 4 0), (11, .int .i64 0), (12, .own 5), (13, .own 6), (14, .int .i64 1), (15, .own 7), (16, .int .i64 2)], [inB 3, ouB 9, stB 14, loB 19, liB 26, .vec [.own 8, .own 9, .own 7, .own 10, .own 11], .vec [.own 12, .own 13, .own 14, .own 15, .own 16], .arr TB 31, .arr TB 32, .arr TB 33, .arr TB 34, .arr TB 35, .arr TB 36, .arr TB 37, .arr TB 38, .arr TB 39, .arr TB 40]), (sh 85 [(5, .ptr 0 0), (6, .ptr 1 0), (7, .ptr 2 0), (8, .ptr 3 0), (9, .ptr 4 0), (11, .int .i64 0), (12, .own 5), (13, .own 6), (14, .int .i64 1), (15, .own 7), (16, .int .i64 2)], [inB 3, ouB 9, stB 14, loB 19, liB 26, .vec [.own 8, .own 9, .own 10, .own 7, .own 11], .vec [.own 12, .own 13, .own 14, .own 15, .own 16], .arr TB 31, .arr TB 32, .arr TB 33, .arr TB 34, .arr TB 35, .arr TB 36, .arr TB 37, .arr TB 38, .arr TB 39, .arr TB 40]), (sh 85 [(5, .ptr 0 0), (6, .ptr 1 0), (7, .ptr 2 0), (8, .ptr 3 0), (9, .ptr 4 0), (11, .int .i64 0), (12, .own 5), (13, .own 6), (14, .int .i64 1), (15, .own 7), (16, .int .i64 2)], [inB 3, ouB 9, stB 14, loB 19, liB 26, .vec [.own 8, .own 9, .own 10, .own 11, .own 7], .vec [.own 12, .own 13, .own 14, .own 15, .own 16], .arr TB 31, .arr TB 32, .arr TB 33, .arr TB 34, .arr TB 35, .arr TB 36, .arr TB 37, .arr TB 38, .arr TB 39, .arr TB 40])] [] [(.exit 4, sh 85 [(5, .ptr 0 0), (6, .ptr 1 0), (7, .ptr 2 0), (8, .ptr 3 0), (9, .ptr 4 0), (11, .int .i64 0), (12, .own 5), (13, .own 6), (14, .int .i64 1)], [inB 2, ouB 8, stB 13, loB 18, liB 25, .vec [.own 7, .own 8, .own 9, .own 10, .own 11], .vec [.own 12, .own 13, .own 14, .own 15, .own 16], .arr TB 30, .arr TB 31, .arr TB 32, .arr TB 33, .arr TB 34, .arr TB 35, .arr TB 36, .arr TB 37, .arr TB 38, .arr TB 39])] fun _ => none) env
theorem op_L3_15_ex : ∃ f : List Dat → Option (Nat × List Dat), ∀ env, f env = iterS st_L3_15 FU env := ⟨iterS st_L3_15 FU, fun _ => rfl⟩
noncomputable def op_L3_15 : List Dat → Option (Nat × List Dat) := Classical.choose op_L3_15_ex
theorem op_L3_15_eq (env : List Dat) : op_L3_15 env = iterS st_L3_15 FU env := Classical.choose_spec op_L3_15_ex env
noncomputable def L3_15 : MBox := mkM 0 [] [(sh 85 [(5, .ptr 0 0), (6, .ptr 1 0), (7, .ptr 2 0), (8, .ptr 3 0), (9, .ptr 4 0), (11, .int .i64 0), (12, .own 5), (13, .own 6), (14, .int .i64 1), (15, .own 7), (16, .int .i64 2)], [inB 3, ouB 9, stB 14, loB 19, liB 26, .vec [.own 7, .own 8, .own 9, .own 10, .own 11], .vec [.own 12, .own 13, .own 14, .own 15, .own 16], .arr TB 31, .arr TB 32, .arr TB 33, .arr TB 34, .arr TB 35, .arr TB 36, .arr TB 37, .arr TB 38, .arr TB 39, .arr TB 40]), (sh 85 [(5, .ptr 0 0), (6, .ptr 1 0), (7, .ptr 2 0), (8, .ptr 3 0), (9, .ptr 4 0), (11, .int .i64 0), (12, .own 5), (13, .own 6), (14, .int .i64 1), (15, .own 7), (16, .int .i64 2)], [inB 3, ouB 9, stB 14, loB 19, liB 26, .vec [.own 8, .own 7, .own 9, .own 10, .own 11], .vec [.own 12, .own 13, .own 14, .own 15, .own 16], .arr TB 31, .arr TB 32, .arr TB 33, .arr TB 34, .arr TB 35, .arr TB 36, .arr TB 37, .arr TB 38, .arr TB 39, .arr TB 40]), (sh 85 [(5, .ptr 0 0), (6, .ptr 1 0), (7, .ptr 2 0), (8, .ptr 3 0), (9, .ptr 4 0), (11, .int .i64 0), (12, .own 5), (13, .own 6), (14, .int .i64 1), (15, .own 7), (16, .int .i64 2)], [inB 3, ouB 9, stB 14, loB 19, liB 26, .vec [.own 8, .own 9, .own 7, .own 10, .own 11], .vec [.own 12, .own 13, .own 14, .own 15, .own 16], .arr TB 31, .arr TB 32, .arr TB 33, .arr TB 34, .arr TB 35, .arr TB 36, .arr TB 37, .arr TB 38, .arr TB 39, .arr TB 40]), (sh 85 [(5, .ptr 0 0), (6, .ptr 1 0), (7, .ptr 2 0), (8, .ptr 3 0), (9, .ptr 4 0), (11, .int .i64 0), (12, .own 5), (13, .own 6), (14, .int .i64 1), (15, .own 7), (16, .int .i64 2)], [inB 3, ouB 9, stB 14, loB 19, liB 26, .vec [.own 8, .own 9, .own 10, .own 7, .own 11], .vec [.own 12, .own 13, .own 14, .own 15, .own 16], .arr TB 31, .arr TB 32, .arr TB 33, .arr TB 34, .arr TB 35, .arr TB 36, .arr TB 37, .arr TB 38, .arr TB 39, .arr TB 40]), (sh 85 [(5, .ptr 0 0), (6, .ptr 1 0), (7, .ptr 2 0), (8, .ptr 3 0), (9, .ptr 4 0), (11, .int .i64 0), (12, .own 5), (13, .own 6), (14, .int .i64 1), (15, .own 7), (16, .int .i64 2)], [inB 3, ouB 9, stB 14, loB 19, liB 26, .vec [.own 8, .own 9, .own 10, .own 11, .own 7], .vec [.own 12, .own 13, .own 14, .own 15, .own 16], .arr TB 31, .arr TB 32, .arr TB 33, .arr TB 34, .arr TB 35, .arr TB 36, .arr TB 37, .arr TB 38, .arr TB 39, .arr TB 40])] [] [(.exit 4, sh 85 [(5, .ptr 0 0), (6, .ptr 1 0), (7, .ptr 2 0), (8, .ptr 3 0), (9, .ptr 4 0), (11, .int .i64 0), (12, .own 5), (13, .own 6), (14, .int .i64 1)], [inB 2, ouB 8, stB 13, loB 18, liB 25, .vec [.own 7, .own 8, .own 9, .own 10, .own 11], .vec [.own 12, .own 13, .own 14, .own 15, .own 16], .arr TB 30, .arr TB 31, .arr TB 32, .arr TB 33, .arr TB 34, .arr TB 35, .arr TB 36, .arr TB 37, .arr TB 38, .arr TB 39])] op_L3_15
theorem L3_15_eqs : L3_15 = mkM 0 [] [(sh 85 [(5, .ptr 0 0), (6, .ptr 1 0), (7, .ptr 2 0), (8, .ptr 3 0), (9, .ptr 4 0), (11, .int .i64 0), (12, .own 5), (13, .own 6), (14, .int .i64 1), (15, .own 7), (16, .int .i64 2)], [inB 3, ouB 9, stB 14, loB 19, liB 26, .vec [.own 7, .own 8, .own 9, .own 10, .own 11], .vec [.own 12, .own 13, .own 14, .own 15, .own 16], .arr TB 31, .arr TB 32, .arr TB 33, .arr TB 34, .arr TB 35, .arr TB 36, .arr TB 37, .arr TB 38, .arr TB 39, .arr TB 40]), (sh 85 [(5, .ptr 0 0), (6, .ptr 1 0), (7, .ptr 2 0), (8, .ptr 3 0), (9, .ptr 4 0), (11, .int .i64 0), (12, .own 5), (13, .own 6), (14, .int .i64 1), (15, .own 7), (16, .int .i64 2)], [inB 3, ouB 9, stB 14, loB 19, liB 26, .vec [.own 8, .own 7, .own 9, .own 10, .own 11], .vec [.own 12, .own 13, .own 14, .own 15, .own 16], .arr TB 31, .arr TB 32, .arr TB 33, .arr TB 34, .arr TB 35, .arr TB 36, .arr TB 37, .arr TB 38, .arr TB 39, .arr TB 40]), (sh 85 [(5, .ptr 0 0), (6, .ptr 1 0), (7, .ptr 2 0), (8, .ptr 3 0), (9, .ptr 4 0), (11, .int .i64 0), (12, .own 5), (13, .own 6), (14, .int .i64 1), (15, .own 7), (16, .int .i64 2)], [inB 3, ouB 9, stB 14, loB 19, liB 26, .vec [.own 8, .own 9, .own 7, .own 10, .own 11], .vec [.own 12, .own 13, .own 14, .own 15, .own 16], .arr TB 31, .arr TB 32, .arr TB 33, .arr TB 34, .arr TB 35, .arr TB 36, .arr TB 37, .arr TB 38, .arr TB 39, .arr TB 40]), (sh 85 [(5, .ptr 0 0), (6, .ptr 1 0), (7, .ptr 2 0), (8, .ptr 3 0), (9, .ptr 4 0), (11, .int .i64 0), (12, .own 5), (13, .own 6), (14, .int .i64 1), (15, .own 7), (16, .int .i64 2)], [inB 3, ouB 9, stB 14, loB 19, liB 26, .vec [.own 8, .own 9, .own 10, .own 7, .own 11], .vec [.own 12, .own 13, .own 14, .own 15, .own 16], .arr TB 31, .arr TB 32, .arr TB 33, .arr TB 34, .arr TB 35, .arr TB 36, .arr TB 37, .arr TB 38, .arr TB 39, .arr TB 40]), (sh 85 [(5, .ptr 0 0), (6, .ptr 1 0), (7, .ptr 2 0), (8, .ptr 3 0), (9, .ptr 4 0), (11, .int .i64 0), (12, .own 5), (13, .own 6), (14, .int .i64 1), (15, .own 7), (16, .int .i64 2)], [inB 3, ouB 9, stB 14, loB 19, liB 26, .vec [.own 8, .own 9, .own 10, .own 11, .own 7], .vec [.own 12, .own 13, .own 14, .own 15, .own 16], .arr TB 31, .arr TB 32, .arr TB 33, .arr TB 34, .arr TB 35, .arr TB 36, .arr TB 37, .arr TB 38, .arr TB 39, .arr TB 40])] [] [(.exit 4, sh 85 [(5, .ptr 0 0), (6, .ptr 1 0), (7, .ptr 2 0), (8, .ptr 3 0), (9, .ptr 4 0), (11, .int .i64 0), (12, .own 5), (13, .own 6), (14, .int .i64 1)], [inB 2, ouB 8, stB 13, loB 18, liB 25, .vec [.own 7, .own 8, .own 9, .own 10, .own 11], .vec [.own 12, .own 13, .own 14, .own 15, .own 16], .arr TB 30, .arr TB 31, .arr TB 32, .arr TB 33, .arr TB 34, .arr TB 35, .arr TB 36, .arr TB 37, .arr TB 38, .arr TB 39])] (iterS st_L3_15 FU) := congrArg (fun f => mkM 0 [] [(sh 85 [(5, .ptr 0 0), (6, .ptr 1 0), (7, .ptr 2 0), (8, .ptr 3 0), (9, .ptr 4 0), (11, .int .i64 0), (12, .own 5), (13, .own 6), (14, .int .i64 1), (15, .own 7), (16, .int .i64 2)], [inB 3, ouB 9, stB 14, loB 19, liB 26, .vec [.own 7, .own 8, .own 9, .own 10, .own 11], .vec [.own 12, .own 13, .own 14, .own 15, .own 16], .arr TB 31, .arr TB 32, .arr TB 33, .arr TB 34, .arr TB 35, .arr TB 36, .arr TB 37, .arr TB 38, .arr TB 39, .arr TB 40]), (sh 85 [(5, .ptr 0 0), (6, .ptr 1 0), (7, .ptr 2 0), (8, .ptr 3 0), (9, .ptr 4 0), (11, .int .i64 0), (12, .own 5), (13, .own 6), (14, .int .i64 1), (15, .own 7), (16, .int .i64 2)], [inB 3, ouB 9, stB 14, loB 19, liB 26, .vec [.own 8, .own 7, .own 9, .own 10, .own 11], .vec [.own 12, .own 13, .own 14, .own 15, .own 16], .arr TB 31, .arr TB 32, .arr TB 33, .arr TB 34, .arr TB 35, .arr TB 36, .arr TB 37, .arr TB 38, .arr TB 39, .arr TB 40]), (sh 85 [(5, .ptr 0 0), (6, .ptr 1 0), (7, .ptr 2 0), (8, .ptr 3 0), (9, .ptr 4 0), (11, .int .i64 0), (12, .own 5), (13, .own 6), (14, .int .i64 1), (15, .own 7), (16, .int .i64 2)], [inB 3, ouB 9, stB 14, loB 19, liB 26, .vec [.own 8, .own 9, .own 7, .own 10, .own 11], .vec [.own 12, .own 13, .own 14, .own 15, .own 16], .arr TB 31, .arr TB 32, .arr TB 33, .arr TB 34, .arr TB 35, .arr TB 36, .arr TB 37, .arr TB 38, .arr TB 39, .arr TB 40]), (sh 85 [(5, .ptr 0 0), (6, .ptr 1 0), (7, .ptr 2 0), (8, .ptr 3 0), (9, .ptr 4 0), (11, .int .i64 0), (12, .own 5), (13, .own 6), (14, .int .i64 1), (15, .own 7), (16, .int .i64 2)], [inB 3, ouB 9, stB 14, loB 19, liB 26, .vec [.own 8, .own 9, .own 10, .own 7, .own 11], .vec [.own 12, .own 13, .own 14, .own 15, .own 16], .arr TB 31, .arr TB 32, .arr TB 33, .arr TB 34, .arr TB 35, .arr TB 36, .arr TB 37, .arr TB 38, .arr TB 39, .arr TB 40]), (sh 85 [(5, .ptr 0 0), (6, .ptr 1 0), (7, .ptr 2 0), (8, .ptr 3 0), (9, .ptr 4 0), (11, .int .i64 0), (12, .own 5), (13, .own 6), (14, .int .i64 1), (15, .own 7), (16, .int .i64 2)], [inB 3, ouB 9, stB 14, loB 19, liB 26, .vec [.own 8, .own 9, .own 10, .own 11, .own 7], .vec [.own 12, .own 13, .own 14, .own 15, .own 16], .arr TB 31, .arr TB 32, .arr TB 33, .arr TB 34, .arr TB 35, .arr TB 36, .arr TB 37, .arr TB 38, .arr TB 39, .arr TB 40])] [] [(.exit 4, sh 85 [(5, .ptr 0 0), (6, .ptr 1 0), (7, .ptr 2 0), (8, .ptr 3 0), (9, .ptr 4 0), (11, .int .i64 0), (12, .own 5), (13, .own 6), (14, .int .i64 1)], [inB 2, ouB 8, stB 13, loB 18, liB 25, .vec [.own 7, .own 8, .own 9, .own 10, .own 11], .vec [.own 12, .own 13, .own 14, .own 15, .own 16], .arr TB 30, .arr TB 31, .arr TB 32, .arr TB 33, .arr TB 34, .arr TB 35, .arr TB 36, .arr TB 37, .arr TB 38, .arr TB 39])] f) (funext op_L3_15_eq)
theorem L3_15_run : ∀ t s x, (manyRun L3_15 t s).sel = some x → CodeOk Try.prog 0 (.loop (cAt Try.prog 3 15)) t s x := by
  rw [L3_15_eqs]
  exact mkM_ok (st := st_L3_15) (m := FU) cs_21p_ok hmix false (LsOk.none _ _ _) (by kernel_rfl) (fun env y h => by rw [← stepMC_lk]; exact h)
theorem op_L3_15_good {p : Nat × List Dat → Prop} (Inv : List Dat → Prop) (μ : List Dat → Nat) (h : ∀ env, Inv env → Good (fun y => match y with | .go e => Inv e ∧ μ e < μ env | .stop k d => p (k, d)) (st_L3_15 env).sel) (env : List Dat) (hi : Inv env) (hm : μ env < FU) : Good p (op_L3_15 env) := by
  rw [op_L3_15_eq]
  exact iterS_good Inv μ p h FU env hi hm

noncomputable def fn_L3_15_j0 : List Dat → Tree Step
  | (.n n0 :: .n n1 :: .n n2 :: .n n3 :: .n n4 :: .n n5 :: .n n6 :: .n n7 :: .l (Ty.pair (Ty.int IntKind.u8) (Ty.int IntKind.i64)) l8 :: .n n9 :: .n n10 :: .n n11 :: .n n12 :: .n n13 :: .n n14 :: .n n15 :: .n n16 :: .l (Ty.int IntKind.u8) l17 :: .n n18 :: .n n19 :: .n n20 :: .n n21 :: .n n22 :: .n n23 :: .l (Ty.int IntKind.u8) l24 :: .n n25 :: .n n26 :: .n n27 :: .n n28 :: .n n29 :: .l (Ty.int IntKind.u8) l30 :: .l (Ty.int IntKind.u8) l31 :: .l (Ty.int IntKind.u8) l32 :: .l (Ty.int IntKind.u8) l33 :: .l (Ty.int IntKind.u8) l34 :: .l (Ty.int IntKind.u8) l35 :: .l (Ty.int IntKind.u8) l36 :: .l (Ty.int IntKind.u8) l37 :: .l (Ty.int IntKind.u8) l38 :: .l (Ty.int IntKind.u8) l39 :: .l (Ty.int IntKind.u8) l40 :: []) =>
    (.node (decide (n2 < (↑(List.length l31) : Int)))
     (.leaf (Step.go (.k 0 :: .n n0 :: .n n1 :: .n (IntKind.wrap .i64 (n2 + (1 : Int))) :: .n n3 :: .n n4 :: .n n5 :: .n n6 :: .n n7 :: .l (Ty.pair (Ty.int IntKind.u8) (Ty.int IntKind.i64)) l8 :: .n n9 :: .n n10 :: .n n11 :: .n n12 :: .n n13 :: .n n14 :: .n n15 :: .n n16 :: .l (Ty.int IntKind.u8) l17 :: .n n18 :: .n n19 :: .n n20 :: .n n21 :: .n n22 :: .n n23 :: .l (Ty.int IntKind.u8) l24 :: .n n25 :: .n n26 :: .n n27 :: .n n28 :: .n n29 :: .l (Ty.int IntKind.u8) l30 :: .l (Ty.int IntKind.u8) (List.set l31 (Int.toNat n2) (IntKind.wrap .u8 ((List.getD l31 (Int.toNat n2) (0 : Int) : Int) + (1 : Int)))) :: .l (Ty.int IntKind.u8) l32 :: .l (Ty.int IntKind.u8) l33 :: .l (Ty.int IntKind.u8) l34 :: .l (Ty.int IntKind.u8) l35 :: .l (Ty.int IntKind.u8) l36 :: .l (Ty.int IntKind.u8) l37 :: .l (Ty.int IntKind.u8) l38 :: .l (Ty.int IntKind.u8) l39 :: .l (Ty.int IntKind.u8) l40 :: [])))
     (.leaf (Step.stop 0 (.n n0 :: .n n1 :: .n n3 :: .n n4 :: .n n5 :: .n n6 :: .n n7 :: .l (Ty.pair (Ty.int IntKind.u8) (Ty.int IntKind.i64)) l8 :: .n n9 :: .n n10 :: .n n11 :: .n n12 :: .n n13 :: .n n14 :: .n n15 :: .n n16 :: .l (Ty.int IntKind.u8) l17 :: .n n18 :: .n n19 :: .n n20 :: .n n21 :: .n n22 :: .n n23 :: .l (Ty.int IntKind.u8) l24 :: .n n25 :: .n n26 :: .n n27 :: .n n28 :: .n n29 :: .l (Ty.int IntKind.u8) l30 :: .l (Ty.int IntKind.u8) l31 :: .l (Ty.int IntKind.u8) l32 :: .l (Ty.int IntKind.u8) l33 :: .l (Ty.int IntKind.u8) l34 :: .l (Ty.int IntKind.u8) l35 :: .l (Ty.int IntKind.u8) l36 :: .l (Ty.int IntKind.u8) l37 :: .l (Ty.int IntKind.u8) l38 :: .l (Ty.int IntKind.u8) l39 :: .l (Ty.int IntKind.u8) l40 :: []))))
  | _ => .bad 0
theorem fn_L3_15_j0_im (n0 : Int) (n1 : Int) (n2 : Int) (n3 : Int) (n4 : Int) (n5 : Int) (n6 : Int) (n7 : Int) (l8 : List (Ty.den (Ty.pair (Ty.int IntKind.u8) (Ty.int IntKind.i64)))) (n9 : Int) (n10 : Int) (n11 : Int) (n12 : Int) (n13 : Int) (n14 : Int) (n15 : Int) (n16 : Int) (l17 : List (Ty.den (Ty.int IntKind.u8))) (n18 : Int) (n19 : Int) (n20 : Int) (n21 : Int) (n22 : Int) (n23 : Int) (l24 : List (Ty.den (Ty.int IntKind.u8))) (n25 : Int) (n26 : Int) (n27 : Int) (n28 : Int) (n29 : Int) (l30 : List (Ty.den (Ty.int IntKind.u8))) (l31 : List (Ty.den (Ty.int IntKind.u8))) (l32 : List (Ty.den (Ty.int IntKind.u8))) (l33 : List (Ty.den (Ty.int IntKind.u8))) (l34 : List (Ty.den (Ty.int IntKind.u8))) (l35 : List (Ty.den (Ty.int IntKind.u8))) (l36 : List (Ty.den (Ty.int IntKind.u8))) (l37 : List (Ty.den (Ty.int IntKind.u8))) (l38 : List (Ty.den (Ty.int IntKind.u8))) (l39 : List (Ty.den (Ty.int IntKind.u8))) (l40 : List (Ty.den (Ty.int IntKind.u8))) (g0 : 0 ≤ n2) : Imp (fn_L3_15_j0 (.n n0 :: .n n1 :: .n n2 :: .n n3 :: .n n4 :: .n n5 :: .n n6 :: .n n7 :: .l (Ty.pair (Ty.int IntKind.u8) (Ty.int IntKind.i64)) l8 :: .n n9 :: .n n10 :: .n n11 :: .n n12 :: .n n13 :: .n n14 :: .n n15 :: .n n16 :: .l (Ty.int IntKind.u8) l17 :: .n n18 :: .n n19 :: .n n20 :: .n n21 :: .n n22 :: .n n23 :: .l (Ty.int IntKind.u8) l24 :: .n n25 :: .n n26 :: .n n27 :: .n n28 :: .n n29 :: .l (Ty.int IntKind.u8) l30 :: .l (Ty.int IntKind.u8) l31 :: .l (Ty.int IntKind.u8) l32 :: .l (Ty.int IntKind.u8) l33 :: .l (Ty.int IntKind.u8) l34 :: .l (Ty.int IntKind.u8) l35 :: .l (Ty.int IntKind.u8) l36 :: .l (Ty.int IntKind.u8) l37 :: .l (Ty.int IntKind.u8) l38 :: .l (Ty.int IntKind.u8) l39 :: .l (Ty.int IntKind.u8) l40 :: [])) (st_L3_15 [.k 0, .n n0, .n n1, .n n2, .n n3, .n n4, .n n5, .n n6, .n n7, .l TC l8, .n n9, .n n10, .n n11, .n n12, .n n13, .n n14, .n n15, .n n16, .l TB l17, .n n18, .n n19, .n n20, .n n21, .n n22, .n n23, .l TB l24, .n n25, .n n26, .n n27, .n n28, .n n29, .l TB l30, .l TB l31, .l TB l32, .l TB l33, .l TB l34, .l TB l35, .l TB l36, .l TB l37, .l TB l38, .l TB l39, .l TB l40]) :=
(.path [1] (by kernel_rfl)
(.node (by kernel_rfl) (by kernel_rfl) (fun h0 =>
(.pt (c := (inR n2 (List.length l31))) (by kernel_rfl) (by kernel_rfl) (by (simp only [w64d, decide_eq_true_eq, decide_eq_false_iff_not, beq_iff_eq, beq_eq_false_iff_ne, bne_iff_ne, ne_eq, inR, Bool.and_eq_true, Bool.and_eq_false_iff, Bool.not_eq_true', Bool.not_eq_false', Bool.not_eq_eq_eq_not, Bool.not_true, Bool.not_false] at *; omega))
(.pt (c := (inR n2 (List.length l31))) (by kernel_rfl) (by kernel_rfl) (by (simp only [w64d, decide_eq_true_eq, decide_eq_false_iff_not, beq_iff_eq, beq_eq_false_iff_ne, bne_iff_ne, ne_eq, inR, Bool.and_eq_true, Bool.and_eq_false_iff, Bool.not_eq_true', Bool.not_eq_false', Bool.not_eq_eq_eq_not, Bool.not_true, Bool.not_false] at *; omega))
(.path [1] (by kernel_rfl)
(.leaf (by kernel_rfl)))))) (fun h0 =>
(.path [1] (by kernel_rfl)
(.leaf (by kernel_rfl))))))

noncomputable def fn_L3_15_j1 : List Dat → Tree Step
  | (.n n0 :: .n n1 :: .n n2 :: .n n3 :: .n n4 :: .n n5 :: .n n6 :: .n n7 :: .l (Ty.pair (Ty.int IntKind.u8) (Ty.int IntKind.i64)) l8 :: .n n9 :: .n n10 :: .n n11 :: .n n12 :: .n n13 :: .n n14 :: .n n15 :: .n n16 :: .l (Ty.int IntKind.u8) l17 :: .n n18 :: .n n19 :: .n n20 :: .n n21 :: .n n22 :: .n n23 :: .l (Ty.int IntKind.u8) l24 :: .n n25 :: .n n26 :: .n n27 :: .n n28 :: .n n29 :: .l (Ty.int IntKind.u8) l30 :: .l (Ty.int IntKind.u8) l31 :: .l (Ty.int IntKind.u8) l32 :: .l (Ty.int IntKind.u8) l33 :: .l (Ty.int IntKind.u8) l34 :: .l (Ty.int IntKind.u8) l35 :: .l (Ty.int IntKind.u8) l36 :: .l (Ty.int IntKind.u8) l37 :: .l (Ty.int IntKind.u8) l38 :: .l (Ty.int IntKind.u8) l39 :: .l (Ty.int IntKind.u8) l40 :: []) =>
    (.node (decide (n2 < (↑(List.length l31) : Int)))
     (.leaf (Step.go (.k 1 :: .n n0 :: .n n1 :: .n (IntKind.wrap .i64 (n2 + (1 : Int))) :: .n n3 :: .n n4 :: .n n5 :: .n n6 :: .n n7 :: .l (Ty.pair (Ty.int IntKind.u8) (Ty.int IntKind.i64)) l8 :: .n n9 :: .n n10 :: .n n11 :: .n n12 :: .n n13 :: .n n14 :: .n n15 :: .n n16 :: .l (Ty.int IntKind.u8) l17 :: .n n18 :: .n n19 :: .n n20 :: .n n21 :: .n n22 :: .n n23 :: .l (Ty.int IntKind.u8) l24 :: .n n25 :: .n n26 :: .n n27 :: .n n28 :: .n n29 :: .l (Ty.int IntKind.u8) l30 :: .l (Ty.int IntKind.u8) (List.set l31 (Int.toNat n2) (IntKind.wrap .u8 ((List.getD l31 (Int.toNat n2) (0 : Int) : Int) + (1 : Int)))) :: .l (Ty.int IntKind.u8) l32 :: .l (Ty.int IntKind.u8) l33 :: .l (Ty.int IntKind.u8) l34 :: .l (Ty.int IntKind.u8) l35 :: .l (Ty.int IntKind.u8) l36 :: .l (Ty.int IntKind.u8) l37 :: .l (Ty.int IntKind.u8) l38 :: .l (Ty.int IntKind.u8) l39 :: .l (Ty.int IntKind.u8) l40 :: [])))
     (.leaf (Step.stop 0 (.n n0 :: .n n1 :: .n n3 :: .n n4 :: .n n5 :: .n n6 :: .n n7 :: .l (Ty.pair (Ty.int IntKind.u8) (Ty.int IntKind.i64)) l8 :: .n n9 :: .n n10 :: .n n11 :: .n n12 :: .n n13 :: .n n14 :: .n n15 :: .n n16 :: .l (Ty.int IntKind.u8) l17 :: .n n18 :: .n n19 :: .n n20 :: .n n21 :: .n n22 :: .n n23 :: .l (Ty.int IntKind.u8) l24 :: .n n25 :: .n n26 :: .n n27 :: .n n28 :: .n n29 :: .l (Ty.int IntKind.u8) l30 :: .l (Ty.int IntKind.u8) l32 :: .l (Ty.int IntKind.u8) l31 :: .l (Ty.int IntKind.u8) l33 :: .l (Ty.int IntKind.u8) l34 :: .l (Ty.int IntKind.u8) l35 :: .l (Ty.int IntKind.u8) l36 :: .l (Ty.int IntKind.u8) l37 :: .l (Ty.int IntKind.u8) l38 :: .l (Ty.int IntKind.u8) l39 :: .l (Ty.int IntKind.u8) l40 :: []))))
  | _ => .bad 0
theorem fn_L3_15_j1_im (n0 : Int) (n1 : Int) (n2 : Int) (n3 : Int) (n4 : Int) (n5 : Int) (n6 : Int) (n7 : Int) (l8 : List (Ty.den (Ty.pair (Ty.int IntKind.u8) (Ty.int IntKind.i64)))) (n9 : Int) (n10 : Int) (n11 : Int) (n12 : Int) (n13 : Int) (n14 : Int) (n15 : Int) (n16 : Int) (l17 : List (Ty.den (Ty.int IntKind.u8))) (n18 : Int) (n19 : Int) (n20 : Int) (n21 : Int) (n22 : Int) (n23 : Int) (l24 : List (Ty.den (Ty.int IntKind.u8))) (n25 : Int) (n26 : Int) (n27 : Int) (n28 : Int) (n29 : Int) (l30 : List (Ty.den (Ty.int IntKind.u8))) (l31 : List (Ty.den (Ty.int IntKind.u8))) (l32 : List (Ty.den (Ty.int IntKind.u8))) (l33 : List (Ty.den (Ty.int IntKind.u8))) (l34 : List (Ty.den (Ty.int IntKind.u8))) (l35 : List (Ty.den (Ty.int IntKind.u8))) (l36 : List (Ty.den (Ty.int IntKind.u8))) (l37 : List (Ty.den (Ty.int IntKind.u8))) (l38 : List (Ty.den (Ty.int IntKind.u8))) (l39 : List (Ty.den (Ty.int IntKind.u8))) (l40 : List (Ty.den (Ty.int IntKind.u8))) (g0 : 0 ≤ n2) : Imp (fn_L3_15_j1 (.n n0 :: .n n1 :: .n n2 :: .n n3 :: .n n4 :: .n n5 :: .n n6 :: .n n7 :: .l (Ty.pair (Ty.int IntKind.u8) (Ty.int IntKind.i64)) l8 :: .n n9 :: .n n10 :: .n n11 :: .n n12 :: .n n13 :: .n n14 :: .n n15 :: .n n16 :: .l (Ty.int IntKind.u8) l17 :: .n n18 :: .n n19 :: .n n20 :: .n n21 :: .n n22 :: .n n23 :: .l (Ty.int IntKind.u8) l24 :: .n n25 :: .n n26 :: .n n27 :: .n n28 :: .n n29 :: .l (Ty.int IntKind.u8) l30 :: .l (Ty.int IntKind.u8) l31 :: .l (Ty.int IntKind.u8) l32 :: .l (Ty.int IntKind.u8) l33 :: .l (Ty.int IntKind.u8) l34 :: .l (Ty.int IntKind.u8) l35 :: .l (Ty.int IntKind.u8) l36 :: .l (Ty.int IntKind.u8) l37 :: .l (Ty.int IntKind.u8) l38 :: .l (Ty.int IntKind.u8) l39 :: .l (Ty.int IntKind.u8) l40 :: [])) (st_L3_15 [.k 1, .n n0, .n n1, .n n2, .n n3, .n n4, .n n5, .n n6, .n n7, .l TC l8, .n n9, .n n10, .n n11, .n n12, .n n13, .n n14, .n n15, .n n16, .l TB l17, .n n18, .n n19, .n n20, .n n21, .n n22, .n n23, .l TB l24, .n n25, .n n26, .n n27, .n n28, .n n29, .l TB l30, .l TB l31, .l TB l32, .l TB l33, .l TB l34, .l TB l35, .l TB l36, .l TB l37, .l TB l38, .l TB l39, .l TB l40]) :=
(.path [1] (by kernel_rfl)
(.node (by kernel_rfl) (by kernel_rfl) (fun h0 =>
(.pt (c := (inR n2 (List.length l31))) (by kernel_rfl) (by kernel_rfl) (by (simp only [w64d, decide_eq_true_eq, decide_eq_false_iff_not, beq_iff_eq, beq_eq_false_iff_ne, bne_iff_ne, ne_eq, inR, Bool.and_eq_true, Bool.and_eq_false_iff, Bool.not_eq_true', Bool.not_eq_false', Bool.not_eq_eq_eq_not, Bool.not_true, Bool.not_false] at *; omega))
(.pt (c := (inR n2 (List.length l31))) (by kernel_rfl) (by kernel_rfl) (by (simp only [w64d, decide_eq_true_eq, decide_eq_false_iff_not, beq_iff_eq, beq_eq_false_iff_ne, bne_iff_ne, ne_eq, inR, Bool.and_eq_true, Bool.and_eq_false_iff, Bool.not_eq_true', Bool.not_eq_false', Bool.not_eq_eq_eq_not, Bool.not_true, Bool.not_false] at *; omega))
(.path [1] (by kernel_rfl)
(.leaf (by kernel_rfl)))))) (fun h0 =>
(.path [1] (by kernel_rfl)
(.leaf (by kernel_rfl))))))

noncomputable def fn_L3_15_j2 : List Dat → Tree Step
  | (.n n0 :: .n n1 :: .n n2 :: .n n3 :: .n n4 :: .n n5 :: .n n6 :: .n n7 :: .l (Ty.pair (Ty.int IntKind.u8) (Ty.int IntKind.i64)) l8 :: .n n9 :: .n n10 :: .n n11 :: .n n12 :: .n n13 :: .n n14 :: .n n15 :: .n n16 :: .l (Ty.int IntKind.u8) l17 :: .n n18 :: .n n19 :: .n n20 :: .n n21 :: .n n22 :: .n n23 :: .l (Ty.int IntKind.u8) l24 :: .n n25 :: .n n26 :: .n n27 :: .n n28 :: .n n29 :: .l (Ty.int IntKind.u8) l30 :: .l (Ty.int IntKind.u8) l31 :: .l (Ty.int IntKind.u8) l32 :: .l (Ty.int IntKind.u8) l33 :: .l (Ty.int IntKind.u8) l34 :: .l (Ty.int IntKind.u8) l35 :: .l (Ty.int IntKind.u8) l36 :: .l (Ty.int IntKind.u8) l37 :: .l (Ty.int IntKind.u8) l38 :: .l (Ty.int IntKind.u8) l39 :: .l (Ty.int IntKind.u8) l40 :: []) =>
    (.node (decide (n2 < (↑(List.length l31) : Int)))
     (.leaf (Step.go (.k 2 :: .n n0 :: .n n1 :: .n (IntKind.wrap .i64 (n2 + (1 : Int))) :: .n n3 :: .n n4 :: .n n5 :: .n n6 :: .n n7 :: .l (Ty.pair (Ty.int IntKind.u8) (Ty.int IntKind.i64)) l8 :: .n n9 :: .n n10 :: .n n11 :: .n n12 :: .n n13 :: .n n14 :: .n n15 :: .n n16 :: .l (Ty.int IntKind.u8) l17 :: .n n18 :: .n n19 :: .n n20 :: .n n21 :: .n n22 :: .n n23 :: .l (Ty.int IntKind.u8) l24 :: .n n25 :: .n n26 :: .n n27 :: .n n28 :: .n n29 :: .l (Ty.int IntKind.u8) l30 :: .l (Ty.int IntKind.u8) (List.set l31 (Int.toNat n2) (IntKind.wrap .u8 ((List.getD l31 (Int.toNat n2) (0 : Int) : Int) + (1 : Int)))) :: .l (Ty.int IntKind.u8) l32 :: .l (Ty.int IntKind.u8) l33 :: .l (Ty.int IntKind.u8) l34 :: .l (Ty.int IntKind.u8) l35 :: .l (Ty.int IntKind.u8) l36 :: .l (Ty.int IntKind.u8) l37 :: .l (Ty.int IntKind.u8) l38 :: .l (Ty.int IntKind.u8) l39 :: .l (Ty.int IntKind.u8) l40 :: [])))
     (.leaf (Step.stop 0 (.n n0 :: .n n1 :: .n n3 :: .n n4 :: .n n5 :: .n n6 :: .n n7 :: .l (Ty.pair (Ty.int IntKind.u8) (Ty.int IntKind.i64)) l8 :: .n n9 :: .n n10 :: .n n11 :: .n n12 :: .n n13 :: .n n14 :: .n n15 :: .n n16 :: .l (Ty.int IntKind.u8) l17 :: .n n18 :: .n n19 :: .n n20 :: .n n21 :: .n n22 :: .n n23 :: .l (Ty.int IntKind.u8) l24 :: .n n25 :: .n n26 :: .n n27 :: .n n28 :: .n n29 :: .l (Ty.int IntKind.u8) l30 :: .l (Ty.int IntKind.u8) l32 :: .l (Ty.int IntKind.u8) l33 :: .l (Ty.int IntKind.u8) l31 :: .l (Ty.int IntKind.u8) l34 :: .l (Ty.int IntKind.u8) l35 :: .l (Ty.int IntKind.u8) l36 :: .l (Ty.int IntKind.u8) l37 :: .l (Ty.int IntKind.u8) l38 :: .l (Ty.int IntKind.u8) l39 :: .l (Ty.int IntKind.u8) l40 :: []))))
  | _ => .bad 0
theorem fn_L3_15_j2_im (n0 : Int) (n1 : Int) (n2 : Int) (n3 : Int) (n4 : Int) (n5 : Int) (n6 : Int) (n7 : Int) (l8 : List (Ty.den (Ty.pair (Ty.int IntKind.u8) (Ty.int IntKind.i64)))) (n9 : Int) (n10 : Int) (n11 : Int) (n12 : Int) (n13 : Int) (n14 : Int) (n15 : Int) (n16 : Int) (l17 : List (Ty.den (Ty.int IntKind.u8))) (n18 : Int) (n19 : Int) (n20 : Int) (n21 : Int) (n22 : Int) (n23 : Int) (l24 : List (Ty.den (Ty.int IntKind.u8))) (n25 : Int) (n26 : Int) (n27 : Int) (n28 : Int) (n29 : Int) (l30 : List (Ty.den (Ty.int IntKind.u8))) (l31 : List (Ty.den (Ty.int IntKind.u8))) (l32 : List (Ty.den (Ty.int IntKind.u8))) (l33 : List (Ty.den (Ty.int IntKind.u8))) (l34 : List (Ty.den (Ty.int IntKind.u8))) (l35 : List (Ty.den (Ty.int IntKind.u8))) (l36 : List (Ty.den (Ty.int IntKind.u8))) (l37 : List (Ty.den (Ty.int IntKind.u8))) (l38 : List (Ty.den (Ty.int IntKind.u8))) (l39 : List (Ty.den (Ty.int IntKind.u8))) (l40 : List (Ty.den (Ty.int IntKind.u8))) (g0 : 0 ≤ n2) : Imp (fn_L3_15_j2 (.n n0 :: .n n1 :: .n n2 :: .n n3 :: .n n4 :: .n n5 :: .n n6 :: .n n7 :: .l (Ty.pair (Ty.int IntKind.u8) (Ty.int IntKind.i64)) l8 :: .n n9 :: .n n10 :: .n n11 :: .n n12 :: .n n13 :: .n n14 :: .n n15 :: .n n16 :: .l (Ty.int IntKind.u8) l17 :: .n n18 :: .n n19 :: .n n20 :: .n n21 :: .n n22 :: .n n23 :: .l (Ty.int IntKind.u8) l24 :: .n n25 :: .n n26 :: .n n27 :: .n n28 :: .n n29 :: .l (Ty.int IntKind.u8) l30 :: .l (Ty.int IntKind.u8) l31 :: .l (Ty.int IntKind.u8) l32 :: .l (Ty.int IntKind.u8) l33 :: .l (Ty.int IntKind.u8) l34 :: .l (Ty.int IntKind.u8) l35 :: .l (Ty.int IntKind.u8) l36 :: .l (Ty.int IntKind.u8) l37 :: .l (Ty.int IntKind.u8) l38 :: .l (Ty.int IntKind.u8) l39 :: .l (Ty.int IntKind.u8) l40 :: [])) (st_L3_15 [.k 2, .n n0, .n n1, .n n2, .n n3, .n n4, .n n5, .n n6, .n n7, .l TC l8, .n n9, .n n10, .n n11, .n n12, .n n13, .n n14, .n n15, .n n16, .l TB l17, .n n18, .n n19, .n n20, .n n21, .n n22, .n n23, .l TB l24, .n n25, .n n26, .n n27, .n n28, .n n29, .l TB l30, .l TB l31, .l TB l32, .l TB l33, .l TB l34, .l TB l35, .l TB l36, .l TB l37, .l TB l38, .l TB l39, .l TB l40]) :=
(.path [1] (by kernel_rfl)
(.node (by kernel_rfl) (by kernel_rfl) (fun h0 =>
(.pt (c := (inR n2 (List.length l31))) (by kernel_rfl) (by kernel_rfl) (by (simp only [w64d, decide_eq_true_eq, decide_eq_false_iff_not, beq_iff_eq, beq_eq_false_iff_ne, bne_iff_ne, ne_eq, inR, Bool.and_eq_true, Bool.and_eq_false_iff, Bool.not_eq_true', Bool.not_eq_false', Bool.not_eq_eq_eq_not, Bool.not_true, Bool.not_false] at *; omega))
(.pt (c := (inR n2 (List.length l31))) (by kernel_rfl) (by kernel_rfl) (by (simp only [w64d, decide_eq_true_eq, decide_eq_false_iff_not, beq_iff_eq, beq_eq_false_iff_ne, bne_iff_ne, ne_eq, inR, Bool.and_eq_true, Bool.and_eq_false_iff, Bool.not_eq_true', Bool.not_eq_false', Bool.not_eq_eq_eq_not, Bool.not_true, Bool.not_false] at *; omega))
(.path [1] (by kernel_rfl)
(.leaf (by kernel_rfl)))))) (fun h0 =>
(.path [1] (by kernel_rfl)
(.leaf (by kernel_rfl))))))

noncomputable def fn_L3_15_j3 : List Dat → Tree Step
  | (.n n0 :: .n n1 :: .n n2 :: .n n3 :: .n n4 :: .n n5 :: .n n6 :: .n n7 :: .l (Ty.pair (Ty.int IntKind.u8) (Ty.int IntKind.i64)) l8 :: .n n9 :: .n n10 :: .n n11 :: .n n12 :: .n n13 :: .n n14 :: .n n15 :: .n n16 :: .l (Ty.int IntKind.u8) l17 :: .n n18 :: .n n19 :: .n n20 :: .n n21 :: .n n22 :: .n n23 :: .l (Ty.int IntKind.u8) l24 :: .n n25 :: .n n26 :: .n n27 :: .n n28 :: .n n29 :: .l (Ty.int IntKind.u8) l30 :: .l (Ty.int IntKind.u8) l31 :: .l (Ty.int IntKind.u8) l32 :: .l (Ty.int IntKind.u8) l33 :: .l (Ty.int IntKind.u8) l34 :: .l (Ty.int IntKind.u8) l35 :: .l (Ty.int IntKind.u8) l36 :: .l (Ty.int IntKind.u8) l37 :: .l (Ty.int IntKind.u8) l38 :: .l (Ty.int IntKind.u8) l39 :: .l (Ty.int IntKind.u8) l40 :: []) =>
    (.node (decide (n2 < (↑(List.length l31) : Int)))
     (.leaf (Step.go (.k 3 :: .n n0 :: .n n1 :: .n (IntKind.wrap .i64 (n2 + (1 : Int))) :: .n n3 :: .n n4 :: .n n5 :: .n n6 :: .n n7 :: .l (Ty.pair (Ty.int IntKind.u8) (Ty.int IntKind.i64)) l8 :: .n n9 :: .n n10 :: .n n11 :: .n n12 :: .n n13 :: .n n14 :: .n n15 :: .n n16 :: .l (Ty.int IntKind.u8) l17 :: .n n18 :: .n n19 :: .n n20 :: .n n21 :: .n n22 :: .n n23 :: .l (Ty.int IntKind.u8) l24 :: .n n25 :: .n n26 :: .n n27 :: .n n28 :: .n n29 :: .l (Ty.int IntKind.u8) l30 :: .l (Ty.int IntKind.u8) (List.set l31 (Int.toNat n2) (IntKind.wrap .u8 ((List.getD l31 (Int.toNat n2) (0 : Int) : Int) + (1 : Int)))) :: .l (Ty.int IntKind.u8) l32 :: .l (Ty.int IntKind.u8) l33 :: .l (Ty.int IntKind.u8) l34 :: .l (Ty.int IntKind.u8) l35 :: .l (Ty.int IntKind.u8) l36 :: .l (Ty.int IntKind.u8) l37 :: .l (Ty.int IntKind.u8) l38 :: .l (Ty.int IntKind.u8) l39 :: .l (Ty.int IntKind.u8) l40 :: [])))
     (.leaf (Step.stop 0 (.n n0 :: .n n1 :: .n n3 :: .n n4 :: .n n5 :: .n n6 :: .n n7 :: .l (Ty.pair (Ty.int IntKind.u8) (Ty.int IntKind.i64)) l8 :: .n n9 :: .n n10 :: .n n11 :: .n n12 :: .n n13 :: .n n14 :: .n n15 :: .n n16 :: .l (Ty.int IntKind.u8) l17 :: .n n18 :: .n n19 :: .n n20 :: .n n21 :: .n n22 :: .n n23 :: .l (Ty.int IntKind.u8) l24 :: .n n25 :: .n n26 :: .n n27 :: .n n28 :: .n n29 :: .l (Ty.int IntKind.u8) l30 :: .l (Ty.int IntKind.u8) l32 :: .l (Ty.int IntKind.u8) l33 :: .l (Ty.int IntKind.u8) l34 :: .l (Ty.int IntKind.u8) l31 :: .l (Ty.int IntKind.u8) l35 :: .l (Ty.int IntKind.u8) l36 :: .l (Ty.int IntKind.u8) l37 :: .l (Ty.int IntKind.u8) l38 :: .l (Ty.int IntKind.u8) l39 :: .l (Ty.int IntKind.u8) l40 :: []))))
  | _ => .bad 0
theorem fn_L3_15_j3_im (n0 : Int) (n1 : Int) (n2 : Int) (n3 : Int) (n4 : Int) (n5 : Int) (n6 : Int) (n7 : Int) (l8 : List (Ty.den (Ty.pair (Ty.int IntKind.u8) (Ty.int IntKind.i64)))) (n9 : Int) (n10 : Int) (n11 : Int) (n12 : Int) (n13 : Int) (n14 : Int) (n15 : Int) (n16 : Int) (l17 : List (Ty.den (Ty.int IntKind.u8))) (n18 : Int) (n19 : Int) (n20 : Int) (n21 : Int) (n22 : Int) (n23 : Int) (l24 : List (Ty.den (Ty.int IntKind.u8))) (n25 : Int) (n26 : Int) (n27 : Int) (n28 : Int) (n29 : Int) (l30 : List (Ty.den (Ty.int IntKind.u8))) (l31 : List (Ty.den (Ty.int IntKind.u8))) (l32 : List (Ty.den (Ty.int IntKind.u8))) (l33 : List (Ty.den (Ty.int IntKind.u8))) (l34 : List (Ty.den (Ty.int IntKind.u8))) (l35 : List (Ty.den (Ty.int IntKind.u8))) (l36 : List (Ty.den (Ty.int IntKind.u8))) (l37 : List (Ty.den (Ty.int IntKind.u8))) (l38 : List (Ty.den (Ty.int IntKind.u8))) (l39 : List (Ty.den (Ty.int IntKind.u8))) (l40 : List (Ty.den (Ty.int IntKind.u8))) (g0 : 0 ≤ n2) : Imp (fn_L3_15_j3 (.n n0 :: .n n1 :: .n n2 :: .n n3 :: .n n4 :: .n n5 :: .n n6 :: .n n7 :: .l (Ty.pair (Ty.int IntKind.u8) (Ty.int IntKind.i64)) l8 :: .n n9 :: .n n10 :: .n n11 :: .n n12 :: .n n13 :: .n n14 :: .n n15 :: .n n16 :: .l (Ty.int IntKind.u8) l17 :: .n n18 :: .n n19 :: .n n20 :: .n n21 :: .n n22 :: .n n23 :: .l (Ty.int IntKind.u8) l24 :: .n n25 :: .n n26 :: .n n27 :: .n n28 :: .n n29 :: .l (Ty.int IntKind.u8) l30 :: .l (Ty.int IntKind.u8) l31 :: .l (Ty.int IntKind.u8) l32 :: .l (Ty.int IntKind.u8) l33 :: .l (Ty.int IntKind.u8) l34 :: .l (Ty.int IntKind.u8) l35 :: .l (Ty.int IntKind.u8) l36 :: .l (Ty.int IntKind.u8) l37 :: .l (Ty.int IntKind.u8) l38 :: .l (Ty.int IntKind.u8) l39 :: .l (Ty.int IntKind.u8) l40 :: [])) (st_L3_15 [.k 3, .n n0, .n n1, .n n2, .n n3, .n n4, .n n5, .n n6, .n n7, .l TC l8, .n n9, .n n10, .n n11, .n n12, .n n13, .n n14, .n n15, .n n16, .l TB l17, .n n18, .n n19, .n n20, .n n21, .n n22, .n n23, .l TB l24, .n n25, .n n26, .n n27, .n n28, .n n29, .l TB l30, .l TB l31, .l TB l32, .l TB l33, .l TB l34, .l TB l35, .l TB l36, .l TB l37, .l TB l38, .l TB l39, .l TB l40]) :=
(.path [1] (by kernel_rfl)
(.node (by kernel_rfl) (by kernel_rfl) (fun h0 =>
(.pt (c := (inR n2 (List.length l31))) (by kernel_rfl) (by kernel_rfl) (by (simp only [w64d, decide_eq_true_eq, decide_eq_false_iff_not, beq_iff_eq, beq_eq_false_iff_ne, bne_iff_ne, ne_eq, inR, Bool.and_eq_true, Bool.and_eq_false_iff, Bool.not_eq_true', Bool.not_eq_false', Bool.not_eq_eq_eq_not, Bool.not_true, Bool.not_false] at *; omega))
(.pt (c := (inR n2 (List.length l31))) (by kernel_rfl) (by kernel_rfl) (by (simp only [w64d, decide_eq_true_eq, decide_eq_false_iff_not, beq_iff_eq, beq_eq_false_iff_ne, bne_iff_ne, ne_eq, inR, Bool.and_eq_true, Bool.and_eq_false_iff, Bool.not_eq_true', Bool.not_eq_false', Bool.not_eq_eq_eq_not, Bool.not_true, Bool.not_false] at *; omega))
(.path [1] (by kernel_rfl)
(.leaf (by kernel_rfl)))))) (fun h0 =>
(.path [1] (by kernel_rfl)
(.leaf (by kernel_rfl))))))

noncomputable def fn_L3_15_j4 : List Dat → Tree Step
  | (.n n0 :: .n n1 :: .n n2 :: .n n3 :: .n n4 :: .n n5 :: .n n6 :: .n n7 :: .l (Ty.pair (Ty.int IntKind.u8) (Ty.int IntKind.i64)) l8 :: .n n9 :: .n n10 :: .n n11 :: .n n12 :: .n n13 :: .n n14 :: .n n15 :: .n n16 :: .l (Ty.int IntKind.u8) l17 :: .n n18 :: .n n19 :: .n n20 :: .n n21 :: .n n22 :: .n n23 :: .l (Ty.int IntKind.u8) l24 :: .n n25 :: .n n26 :: .n n27 :: .n n28 :: .n n29 :: .l (Ty.int IntKind.u8) l30 :: .l (Ty.int IntKind.u8) l31 :: .l (Ty.int IntKind.u8) l32 :: .l (Ty.int IntKind.u8) l33 :: .l (Ty.int IntKind.u8) l34 :: .l (Ty.int IntKind.u8) l35 :: .l (Ty.int IntKind.u8) l36 :: .l (Ty.int IntKind.u8) l37 :: .l (Ty.int IntKind.u8) l38 :: .l (Ty.int IntKind.u8) l39 :: .l (Ty.int IntKind.u8) l40 :: []) =>
    (.node (decide (n2 < (↑(List.length l31) : Int)))
     (.leaf (Step.go (.k 4 :: .n n0 :: .n n1 :: .n (IntKind.wrap .i64 (n2 + (1 : Int))) :: .n n3 :: .n n4 :: .n n5 :: .n n6 :: .n n7 :: .l (Ty.pair (Ty.int IntKind.u8) (Ty.int IntKind.i64)) l8 :: .n n9 :: .n n10 :: .n n11 :: .n n12 :: .n n13 :: .n n14 :: .n n15 :: .n n16 :: .l (Ty.int IntKind.u8) l17 :: .n n18 :: .n n19 :: .n n20 :: .n n21 :: .n n22 :: .n n23 :: .l (Ty.int IntKind.u8) l24 :: .n n25 :: .n n26 :: .n n27 :: .n n28 :: .n n29 :: .l (Ty.int IntKind.u8) l30 :: .l (Ty.int IntKind.u8) (List.set l31 (Int.toNat n2) (IntKind.wrap .u8 ((List.getD l31 (Int.toNat n2) (0 : Int) : Int) + (1 : Int)))) :: .l (Ty.int IntKind.u8) l32 :: .l (Ty.int IntKind.u8) l33 :: .l (Ty.int IntKind.u8) l34 :: .l (Ty.int IntKind.u8) l35 :: .l (Ty.int IntKind.u8) l36 :: .l (Ty.int IntKind.u8) l37 :: .l (Ty.int IntKind.u8) l38 :: .l (Ty.int IntKind.u8) l39 :: .l (Ty.int IntKind.u8) l40 :: [])))
     (.leaf (Step.stop 0 (.n n0 :: .n n1 :: .n n3 :: .n n4 :: .n n5 :: .n n6 :: .n n7 :: .l (Ty.pair (Ty.int IntKind.u8) (Ty.int IntKind.i64)) l8 :: .n n9 :: .n n10 :: .n n11 :: .n n12 :: .n n13 :: .n n14 :: .n n15 :: .n n16 :: .l (Ty.int IntKind.u8) l17 :: .n n18 :: .n n19 :: .n n20 :: .n n21 :: .n n22 :: .n n23 :: .l (Ty.int IntKind.u8) l24 :: .n n25 :: .n n26 :: .n n27 :: .n n28 :: .n n29 :: .l (Ty.int IntKind.u8) l30 :: .l (Ty.int IntKind.u8) l32 :: .l (Ty.int IntKind.u8) l33 :: .l (Ty.int IntKind.u8) l34 :: .l (Ty.int IntKind.u8) l35 :: .l (Ty.int IntKind.u8) l31 :: .l (Ty.int IntKind.u8) l36 :: .l (Ty.int IntKind.u8) l37 :: .l (Ty.int IntKind.u8) l38 :: .l (Ty.int IntKind.u8) l39 :: .l (Ty.int IntKind.u8) l40 :: []))))
  | _ => .bad 0
theorem fn_L3_15_j4_im (n0 : Int) (n1 : Int) (n2 : Int) (n3 : Int) (n4 : Int) (n5 : Int) (n6 : Int) (n7 : Int) (l8 : List (Ty.den (Ty.pair (Ty.int IntKind.u8) (Ty.int IntKind.i64)))) (n9 : Int) (n10 : Int) (n11 : Int) (n12 : Int) (n13 : Int) (n14 : Int) (n15 : Int) (n16 : Int) (l17 : List (Ty.den (Ty.int IntKind.u8))) (n18 : Int) (n19 : Int) (n20 : Int) (n21 : Int) (n22 : Int) (n23 : Int) (l24 : List (Ty.den (Ty.int IntKind.u8))) (n25 : Int) (n26 : Int) (n27 : Int) (n28 : Int) (n29 : Int) (l30 : List (Ty.den (Ty.int IntKind.u8))) (l31 : List (Ty.den (Ty.int IntKind.u8))) (l32 : List (Ty.den (Ty.int IntKind.u8))) (l33 : List (Ty.den (Ty.int IntKind.u8))) (l34 : List (Ty.den (Ty.int IntKind.u8))) (l35 : List (Ty.den (Ty.int IntKind.u8))) (l36 : List (Ty.den (Ty.int IntKind.u8))) (l37 : List (Ty.den (Ty.int IntKind.u8))) (l38 : List (Ty.den (Ty.int IntKind.u8))) (l39 : List (Ty.den (Ty.int IntKind.u8))) (l40 : List (Ty.den (Ty.int IntKind.u8))) (g0 : 0 ≤ n2) : Imp (fn_L3_15_j4 (.n n0 :: .n n1 :: .n n2 :: .n n3 :: .n n4 :: .n n5 :: .n n6 :: .n n7 :: .l (Ty.pair (Ty.int IntKind.u8) (Ty.int IntKind.i64)) l8 :: .n n9 :: .n n10 :: .n n11 :: .n n12 :: .n n13 :: .n n14 :: .n n15 :: .n n16 :: .l (Ty.int IntKind.u8) l17 :: .n n18 :: .n n19 :: .n n20 :: .n n21 :: .n n22 :: .n n23 :: .l (Ty.int IntKind.u8) l24 :: .n n25 :: .n n26 :: .n n27 :: .n n28 :: .n n29 :: .l (Ty.int IntKind.u8) l30 :: .l (Ty.int IntKind.u8) l31 :: .l (Ty.int IntKind.u8) l32 :: .l (Ty.int IntKind.u8) l33 :: .l (Ty.int IntKind.u8) l34 :: .l (Ty.int IntKind.u8) l35 :: .l (Ty.int IntKind.u8) l36 :: .l (Ty.int IntKind.u8) l37 :: .l (Ty.int IntKind.u8) l38 :: .l (Ty.int IntKind.u8) l39 :: .l (Ty.int IntKind.u8) l40 :: [])) (st_L3_15 [.k 4, .n n0, .n n1, .n n2, .n n3, .n n4, .n n5, .n n6, .n n7, .l TC l8, .n n9, .n n10, .n n11, .n n12, .n n13, .n n14, .n n15, .n n16, .l TB l17, .n n18, .n n19, .n n20, .n n21, .n n22, .n n23, .l TB l24, .n n25, .n n26, .n n27, .n n28, .n n29, .l TB l30, .l TB l31, .l TB l32, .l TB l33, .l TB l34, .l TB l35, .l TB l36, .l TB l37, .l TB l38, .l TB l39, .l TB l40]) :=
(.path [1] (by kernel_rfl)
(.node (by kernel_rfl) (by kernel_rfl) (fun h0 =>
(.pt (c := (inR n2 (List.length l31))) (by kernel_rfl) (by kernel_rfl) (by (simp only [w64d, decide_eq_true_eq, decide_eq_false_iff_not, beq_iff_eq, beq_eq_false_iff_ne, bne_iff_ne, ne_eq, inR, Bool.and_eq_true, Bool.and_eq_false_iff, Bool.not_eq_true', Bool.not_eq_false', Bool.not_eq_eq_eq_not, Bool.not_true, Bool.not_false] at *; omega))
(.pt (c := (inR n2 (List.length l31))) (by kernel_rfl) (by kernel_rfl) (by (simp only [w64d, decide_eq_true_eq, decide_eq_false_iff_not, beq_iff_eq, beq_eq_false_iff_ne, bne_iff_ne, ne_eq, inR, Bool.and_eq_true, Bool.and_eq_false_iff, Bool.not_eq_true', Bool.not_eq_false', Bool.not_eq_eq_eq_not, Bool.not_true, Bool.not_false] at *; omega))
(.path [1] (by kernel_rfl)
(.leaf (by kernel_rfl)))))) (fun h0 =>
(.path [1] (by kernel_rfl)
(.leaf (by kernel_rfl))))))

noncomputable def st_L3_9 (env : List Dat) : Tree Step := Lk.stepMC false LK cs_21p 3 9 (lsM [(15, L3_15)] 0) (mkM 0 [] [(sh 85 [(5, .ptr 0 0), (6, .ptr 1 0), (7, .ptr 2 0), (8, .ptr 3 0), (9, .ptr 4 0), (11, .int .i64 0), (12, .own 5), (13, .own 6), (14, .int .i64 1)], [inB 2, ouB 8, stB 13, loB 18, liB 25, .vec [.own 7, .own 8, .own 9, .own 10, .own 11], .vec [.own 12, .own 13, .own 14, .own 15, .own 16], .arr TB 30, .arr TB 31, .arr TB 32, .arr TB 33, .arr TB 34, .arr TB 35, .arr TB 36, .arr TB 37, .arr TB 38, .arr TB 39])] [] [(.exit 2, sh 85 [(5, .ptr 0 0), (6, .ptr 1 0), (7, .ptr 2 0), (8, .ptr 3 0), (9, .ptr 4 0), (11, .int .i64 0)], [inB 1, ouB 7, stB 12, loB 17, liB 24]), (.ret, sh 85 [(10, .bool 0)], [])] fun _ => none) env
theorem op_L3_9_ex : ∃ f : List Dat → Option (Nat × List Dat), ∀ env, f env = iterS st_L3_9 FU env := ⟨iterS st_L3_9 FU, fun _ => rfl⟩
noncomputable def op_L3_9 : List Dat → Option (Nat × List Dat) := Classical.choose op_L3_9_ex
theorem op_L3_9_eq (env : List Dat) : op_L3_9 env = iterS st_L3_9 FU env := Classical.choose_spec op_L3_9_ex env
noncomputable def L3_9 : MBox := mkM 0 [] [(sh 85 [(5, .ptr 0 0), (6, .ptr 1 0), (7, .ptr 2 0), (8, .ptr 3 0), (9, .ptr 4 0), (11, .int .i64 0), (12, .own 5), (13, .own 6), (14, .int .i64 1)], [inB 2, ouB 8, stB 13, loB 18, liB 25, .vec [.own 7, .own 8, .own 9, .own 10, .own 11], .vec [.own 12, .own 13, .own 14, .own 15, .own 16], .arr TB 30, .arr TB 31, .arr TB 32, .arr TB 33, .arr TB 34, .arr TB 35, .arr TB 36, .arr TB 37, .arr TB 38, .arr TB 39])] [] [(.exit 2, sh 85 [(5, .ptr 0 0), (6, .ptr 1 0), (7, .ptr 2 0), (8, .ptr 3 0), (9, .ptr 4 0), (11, .int .i64 0)], [inB 1, ouB 7, stB 12, loB 17, liB 24]), (.ret, sh 85 [(10, .bool 0)], [])] op_L3_9
theorem L3_9_eqs : L3_9 = mkM 0 [] [(sh 85 [(5, .ptr 0 0), (6, .ptr 1 0), (7, .ptr 2 0), (8, .ptr 3 0), (9, .ptr 4 0), (11, .int .i64 0), (12, .own 5), (13, .own 6), (14, .int .i64 1)], [inB 2, ouB 8, stB 13, loB 18, liB 25, .vec [.own 7, .own 8, .own 9, .own 10, .own 11], .vec [.own 12, .own 13, .own 14, .own 15, .own 16], .arr TB 30, .arr TB 31, .arr TB 32, .arr TB 33, .arr TB 34, .arr TB 35, .arr TB 36, .arr TB 37, .arr TB 38, .arr TB 39])] [] [(.exit 2, sh 85 [(5, .ptr 0 0), (6, .ptr 1 0), (7, .ptr 2 0), (8, .ptr 3 0), (9, .ptr 4 0), (11, .int .i64 0)], [inB 1, ouB 7, stB 12, loB 17, liB 24]), (.ret, sh 85 [(10, .bool 0)], [])] (iterS st_L3_9 FU) := congrArg (fun f => mkM 0 [] [(sh 85 [(5, .ptr 0 0), (6, .ptr 1 0), (7, .ptr 2 0), (8, .ptr 3 0), (9, .ptr 4 0), (11, .int .i64 0), (12, .own 5), (13, .own 6), (14, .int .i64 1)], [inB 2, ouB 8, stB 13, loB 18, liB 25, .vec [.own 7, .own 8, .own 9, .own 10, .own 11], .vec [.own 12, .own 13, .own 14, .own 15, .own 16], .arr TB 30, .arr TB 31, .arr TB 32, .arr TB 33, .arr TB 34, .arr TB 35, .arr TB 36, .arr TB 37, .arr TB 38, .arr TB 39])] [] [(.exit 2, sh 85 [(5, .ptr 0 0), (6, .ptr 1 0), (7, .ptr 2 0), (8, .ptr 3 0), (9, .ptr 4 0), (11, .int .i64 0)], [inB 1, ouB 7, stB 12, loB 17, liB 24]), (.ret, sh 85 [(10, .bool 0)], [])] f) (funext op_L3_9_eq)
theorem L3_9_in : LsOk Try.prog 0 (lsM [(15, L3_15)] 0) (cAt Try.prog 3 9) := LsOk.many fun j B hB hk c hc hi => by
  simp only [lookM] at hB
  split at hB
  · rename_i e; have := Nat.eq_of_beq_eq_true e; subst this; cases hB
    have e1 : loopsAt (cAt Try.prog 3 9) 15 = [cAt Try.prog 3 15] := by kernel_rfl
    have e2 := loopsAt_mem hc hi
    rw [e1] at e2; cases List.mem_singleton.1 e2; exact L3_15_run
  cases hB
theorem L3_9_run : ∀ t s x, (manyRun L3_9 t s).sel = some x → CodeOk Try.prog 0 (.loop (cAt Try.prog 3 9)) t s x := by
  rw [L3_9_eqs]
  exact mkM_ok (st := st_L3_9) (m := FU) cs_21p_ok hmix false (L3_9_in) (by kernel_rfl) (fun env y h => by rw [← stepMC_lk]; exact h)
theorem op_L3_9_good {p : Nat × List Dat → Prop} (Inv : List Dat → Prop) (μ : List Dat → Nat) (h : ∀ env, Inv env → Good (fun y => match y with | .go e => Inv e ∧ μ e < μ env | .stop k d => p (k, d)) (st_L3_9 env).sel) (env : List Dat) (hi : Inv env) (hm : μ env < FU) : Good p (op_L3_9 env) := by
  rw [op_L3_9_eq]
  exact iterS_good Inv μ p h FU env hi hm

noncomputable def fn_L3_9_k0 : List Dat → Tree Step
  | (.n n0 :: .n n1 :: .n n2 :: .n n3 :: .n n4 :: .n n5 :: .l (Ty.pair (Ty.int IntKind.u8) (Ty.int IntKind.i64)) l6 :: .n n7 :: .n n8 :: .n n9 :: .n n10 :: .n n11 :: .n n12 :: .n n13 :: .n n14 :: .l (Ty.int IntKind.u8) l15 :: .n n16 :: .n n17 :: .n n18 :: .n n19 :: .n n20 :: .n n21 :: .l (Ty.int IntKind.u8) l22 :: .n n23 :: .n n24 :: .n n25 :: .n n26 :: .n n27 :: .l (Ty.int IntKind.u8) l28 :: .l (Ty.int IntKind.u8) l29 :: .l (Ty.int IntKind.u8) l30 :: .l (Ty.int IntKind.u8) l31 :: .l (Ty.int IntKind.u8) l32 :: .l (Ty.int IntKind.u8) l33 :: .l (Ty.int IntKind.u8) l34 :: .l (Ty.int IntKind.u8) l35 :: .l (Ty.int IntKind.u8) l36 :: .l (Ty.int IntKind.u8) l37 :: .l (Ty.int IntKind.u8) l38 :: []) =>
    (.node (!strEq (strOf l29) (strOf l34))
     (.leaf (Step.stop 1 [.b false]))
     (let r1 : Option (Nat × List Dat) := (op_L3_15 (.k 0 :: .n n0 :: .n (0 : Int) :: .n (0 : Int) :: .n n1 :: .n n2 :: .n n3 :: .n n4 :: .n n5 :: .l (Ty.pair (Ty.int IntKind.u8) (Ty.int IntKind.i64)) l6 :: .n n7 :: .n n8 :: .n n9 :: .n n10 :: .n n11 :: .n n12 :: .n n13 :: .n n14 :: .l (Ty.int IntKind.u8) l15 :: .n n16 :: .n n17 :: .n n18 :: .n n19 :: .n n20 :: .n n21 :: .l (Ty.int IntKind.u8) l22 :: .n n23 :: .n n24 :: .n n25 :: .n n26 :: .n n27 :: .l (Ty.int IntKind.u8) l28 :: .l (Ty.int IntKind.u8) l29 :: .l (Ty.int IntKind.u8) l30 :: .l (Ty.int IntKind.u8) l31 :: .l (Ty.int IntKind.u8) l32 :: .l (Ty.int IntKind.u8) l33 :: .l (Ty.int IntKind.u8) l34 :: .l (Ty.int IntKind.u8) l35 :: .l (Ty.int IntKind.u8) l36 :: .l (Ty.int IntKind.u8) l37 :: .l (Ty.int IntKind.u8) l38 :: []));
      (.node (isK 0 (HK.n :: HK.n :: HK.n :: HK.n :: HK.n :: HK.n :: HK.n :: HK.l (Ty.pair (Ty.int IntKind.u8) (Ty.int IntKind.i64)) :: HK.n :: HK.n :: HK.n :: HK.n :: HK.n :: HK.n :: HK.n :: HK.n :: HK.l (Ty.int IntKind.u8) :: HK.n :: HK.n :: HK.n :: HK.n :: HK.n :: HK.n :: HK.l (Ty.int IntKind.u8) :: HK.n :: HK.n :: HK.n :: HK.n :: HK.n :: HK.l (Ty.int IntKind.u8) :: HK.l (Ty.int IntKind.u8) :: HK.l (Ty.int IntKind.u8) :: HK.l (Ty.int IntKind.u8) :: HK.l (Ty.int IntKind.u8) :: HK.l (Ty.int IntKind.u8) :: HK.l (Ty.int IntKind.u8) :: HK.l (Ty.int IntKind.u8) :: HK.l (Ty.int IntKind.u8) :: HK.l (Ty.int IntKind.u8) :: HK.l (Ty.int IntKind.u8) :: []) r1)
       (.leaf (Step.go (.k 0 :: .n (gn (dOf r1) 0) :: .n (IntKind.wrap .i64 (gn (dOf r1) 1 + (1 : Int))) :: .n (gn (dOf r1) 2) :: .n (gn (dOf r1) 3) :: .n (gn (dOf r1) 4) :: .n (gn (dOf r1) 5) :: .n (gn (dOf r1) 6) :: .l (Ty.pair (Ty.int IntKind.u8) (Ty.int IntKind.i64)) (gl (Ty.pair (Ty.int IntKind.u8) (Ty.int IntKind.i64)) (dOf r1) 7) :: .n (gn (dOf r1) 8) :: .n (gn (dOf r1) 9) :: .n (gn (dOf r1) 10) :: .n (gn (dOf r1) 11) :: .n (gn (dOf r1) 12) :: .n (gn (dOf r1) 13) :: .n (gn (dOf r1) 14) :: .n (gn (dOf r1) 15) :: .l (Ty.int IntKind.u8) (gl (Ty.int IntKind.u8) (dOf r1) 16) :: .n (gn (dOf r1) 17) :: .n (gn (dOf r1) 18) :: .n (gn (dOf r1) 19) :: .n (gn (dOf r1) 20) :: .n (gn (dOf r1) 21) :: .n (gn (dOf r1) 22) :: .l (Ty.int IntKind.u8) (gl (Ty.int IntKind.u8) (dOf r1) 23) :: .n (gn (dOf r1) 24) :: .n (gn (dOf r1) 25) :: .n (gn (dOf r1) 26) :: .n (gn (dOf r1) 27) :: .n (gn (dOf r1) 28) :: .l (Ty.int IntKind.u8) (gl (Ty.int IntKind.u8) (dOf r1) 29) :: .l (Ty.int IntKind.u8) (gl (Ty.int IntKind.u8) (dOf r1) 30) :: .l (Ty.int IntKind.u8) (gl (Ty.int IntKind.u8) (dOf r1) 31) :: .l (Ty.int IntKind.u8) (gl (Ty.int IntKind.u8) (dOf r1) 32) :: .l (Ty.int IntKind.u8) (gl (Ty.int IntKind.u8) (dOf r1) 33) :: .l (Ty.int IntKind.u8) (gl (Ty.int IntKind.u8) (dOf r1) 34) :: .l (Ty.int IntKind.u8) (gl (Ty.int IntKind.u8) (dOf r1) 35) :: .l (Ty.int IntKind.u8) (gl (Ty.int IntKind.u8) (dOf r1) 36) :: .l (Ty.int IntKind.u8) (gl (Ty.int IntKind.u8) (dOf r1) 37) :: .l (Ty.int IntKind.u8) (gl (Ty.int IntKind.u8) (dOf r1) 38) :: .l (Ty.int IntKind.u8) (gl (Ty.int IntKind.u8) (dOf r1) 39) :: [])))
       (.bad 351))))
  | _ => .bad 0
theorem fn_L3_9_k0_im (n0 : Int) (n1 : Int) (n2 : Int) (n3 : Int) (n4 : Int) (n5 : Int) (l6 : List (Ty.den (Ty.pair (Ty.int IntKind.u8) (Ty.int IntKind.i64)))) (n7 : Int) (n8 : Int) (n9 : Int) (n10 : Int) (n11 : Int) (n12 : Int) (n13 : Int) (n14 : Int) (l15 : List (Ty.den (Ty.int IntKind.u8))) (n16 : Int) (n17 : Int) (n18 : Int) (n19 : Int) (n20 : Int) (n21 : Int) (l22 : List (Ty.den (Ty.int IntKind.u8))) (n23 : Int) (n24 : Int) (n25 : Int) (n26 : Int) (n27 : Int) (l28 : List (Ty.den (Ty.int IntKind.u8))) (l29 : List (Ty.den (Ty.int IntKind.u8))) (l30 : List (Ty.den (Ty.int IntKind.u8))) (l31 : List (Ty.den (Ty.int IntKind.u8))) (l32 : List (Ty.den (Ty.int IntKind.u8))) (l33 : List (Ty.den (Ty.int IntKind.u8))) (l34 : List (Ty.den (Ty.int IntKind.u8))) (l35 : List (Ty.den (Ty.int IntKind.u8))) (l36 : List (Ty.den (Ty.int IntKind.u8))) (l37 : List (Ty.den (Ty.int IntKind.u8))) (l38 : List (Ty.den (Ty.int IntKind.u8))) : Imp (fn_L3_9_k0 (.n n0 :: .n n1 :: .n n2 :: .n n3 :: .n n4 :: .n n5 :: .l (Ty.pair (Ty.int IntKind.u8) (Ty.int IntKind.i64)) l6 :: .n n7 :: .n n8 :: .n n9 :: .n n10 :: .n n11 :: .n n12 :: .n n13 :: .n n14 :: .l (Ty.int IntKind.u8) l15 :: .n n16 :: .n n17 :: .n n18 :: .n n19 :: .n n20 :: .n n21 :: .l (Ty.int IntKind.u8) l22 :: .n n23 :: .n n24 :: .n n25 :: .n n26 :: .n n27 :: .l (Ty.int IntKind.u8) l28 :: .l (Ty.int IntKind.u8) l29 :: .l (Ty.int IntKind.u8) l30 :: .l (Ty.int IntKind.u8) l31 :: .l (Ty.int IntKind.u8) l32 :: .l (Ty.int IntKind.u8) l33 :: .l (Ty.int IntKind.u8) l34 :: .l (Ty.int IntKind.u8) l35 :: .l (Ty.int IntKind.u8) l36 :: .l (Ty.int IntKind.u8) l37 :: .l (Ty.int IntKind.u8) l38 :: [])) (st_L3_9 [.k 0, .n n0, .n 0, .n n1, .n n2, .n n3, .n n4, .n n5, .l TC l6, .n n7, .n n8, .n n9, .n n10, .n n11, .n n12, .n n13, .n n14, .l TB l15, .n n16, .n n17, .n n18, .n n19, .n n20, .n n21, .l TB l22, .n n23, .n n24, .n n25, .n n26, .n n27, .l TB l28, .l TB l29, .l TB l30, .l TB l31, .l TB l32, .l TB l33, .l TB l34, .l TB l35, .l TB l36, .l TB l37, .l TB l38]) :=
(.path [1,1,1,1,1] (by kernel_rfl)
(.node (by kernel_rfl) (by kernel_rfl) (fun h0 =>
(.path [1] (by kernel_rfl)
(.leaf (by kernel_rfl)))) (fun h0 =>
(.node (by kernel_rfl) (by kernel_rfl) (fun h1 =>
(.path [1] (by kernel_rfl)
(.leaf (by kernel_rfl)))) (fun h1 =>
.none)))))

noncomputable def fn_L3_9_k1 : List Dat → Tree Step
  | (.n n0 :: .n n1 :: .n n2 :: .n n3 :: .n n4 :: .n n5 :: .l (Ty.pair (Ty.int IntKind.u8) (Ty.int IntKind.i64)) l6 :: .n n7 :: .n n8 :: .n n9 :: .n n10 :: .n n11 :: .n n12 :: .n n13 :: .n n14 :: .l (Ty.int IntKind.u8) l15 :: .n n16 :: .n n17 :: .n n18 :: .n n19 :: .n n20 :: .n n21 :: .l (Ty.int IntKind.u8) l22 :: .n n23 :: .n n24 :: .n n25 :: .n n26 :: .n n27 :: .l (Ty.int IntKind.u8) l28 :: .l (Ty.int IntKind.u8) l29 :: .l (Ty.int IntKind.u8) l30 :: .l (Ty.int IntKind.u8) l31 :: .l (Ty.int IntKind.u8) l32 :: .l (Ty.int IntKind.u8) l33 :: .l (Ty.int IntKind.u8) l34 :: .l (Ty.int IntKind.u8) l35 :: .l (Ty.int IntKind.u8) l36 :: .l (Ty.int IntKind.u8) l37 :: .l (Ty.int IntKind.u8) l38 :: []) =>
    (.node (!strEq (strOf l30) (strOf l35))
     (.leaf (Step.stop 1 [.b false]))
     (let r1 : Option (Nat × List Dat) := (op_L3_15 (.k 1 :: .n n0 :: .n (1 : Int) :: .n (0 : Int) :: .n n1 :: .n n2 :: .n n3 :: .n n4 :: .n n5 :: .l (Ty.pair (Ty.int IntKind.u8) (Ty.int IntKind.i64)) l6 :: .n n7 :: .n n8 :: .n n9 :: .n n10 :: .n n11 :: .n n12 :: .n n13 :: .n n14 :: .l (Ty.int IntKind.u8) l15 :: .n n16 :: .n n17 :: .n n18 :: .n n19 :: .n n20 :: .n n21 :: .l (Ty.int IntKind.u8) l22 :: .n n23 :: .n n24 :: .n n25 :: .n n26 :: .n n27 :: .l (Ty.int IntKind.u8) l28 :: .l (Ty.int IntKind.u8) l30 :: .l (Ty.int IntKind.u8) l29 :: .l (Ty.int IntKind.u8) l31 :: .l (Ty.int IntKind.u8) l32 :: .l (Ty.int IntKind.u8) l33 :: .l (Ty.int IntKind.u8) l34 :: .l (Ty.int IntKind.u8) l35 :: .l (Ty.int IntKind.u8) l36 :: .l (Ty.int IntKind.u8) l37 :: .l (Ty.int IntKind.u8) l38 :: []));
      (.node (isK 0 (HK.n :: HK.n :: HK.n :: HK.n :: HK.n :: HK.n :: HK.n :: HK.l (Ty.pair (Ty.int IntKind.u8) (Ty.int IntKind.i64)) :: HK.n :: HK.n :: HK.n :: HK.n :: HK.n :: HK.n :: HK.n :: HK.n :: HK.l (Ty.int IntKind.u8) :: HK.n :: HK.n :: HK.n :: HK.n :: HK.n :: HK.n :: HK.l (Ty.int IntKind.u8) :: HK.n :: HK.n :: HK.n :: HK.n :: HK.n :: HK.l (Ty.int IntKind.u8) :: HK.l (Ty.int IntKind.u8) :: HK.l (Ty.int IntKind.u8) :: HK.l (Ty.int IntKind.u8) :: HK.l (Ty.int IntKind.u8) :: HK.l (Ty.int IntKind.u8) :: HK.l (Ty.int IntKind.u8) :: HK.l (Ty.int IntKind.u8) :: HK.l (Ty.int IntKind.u8) :: HK.l (Ty.int IntKind.u8) :: HK.l (Ty.int IntKind.u8) :: []) r1)
       (.leaf (Step.go (.k 0 :: .n (gn (dOf r1) 0) :: .n (IntKind.wrap .i64 (gn (dOf r1) 1 + (1 : Int))) :: .n (gn (dOf r1) 2) :: .n (gn (dOf r1) 3) :: .n (gn (dOf r1) 4) :: .n (gn (dOf r1) 5) :: .n (gn (dOf r1) 6) :: .l (Ty.pair (Ty.int IntKind.u8) (Ty.int IntKind.i64)) (gl (Ty.pair (Ty.int IntKind.u8) (Ty.int IntKind.i64)) (dOf r1) 7) :: .n (gn (dOf r1) 8) :: .n (gn (dOf r1) 9) :: .n (gn (dOf r1) 10) :: .n (gn (dOf r1) 11) :: .n (gn (dOf r1) 12) :: .n (gn (dOf r1) 13) :: .n (gn (dOf r1) 14) :: .n (gn (dOf r1) 15) :: .l (Ty.int IntKind.u8) (gl (Ty.int IntKind.u8) (dOf r1) 16) :: .n (gn (dOf r1) 17) :: .n (gn (dOf r1) 18) :: .n (gn (dOf r1) 19) :: .n (gn (dOf r1) 20) :: .n (gn (dOf r1) 21) :: .n (gn (dOf r1) 22) :: .l (Ty.int IntKind.u8) (gl (Ty.int IntKind.u8) (dOf r1) 23) :: .n (gn (dOf r1) 24) :: .n (gn (dOf r1) 25) :: .n (gn (dOf r1) 26) :: .n (gn (dOf r1) 27) :: .n (gn (dOf r1) 28) :: .l (Ty.int IntKind.u8) (gl (Ty.int IntKind.u8) (dOf r1) 29) :: .l (Ty.int IntKind.u8) (gl (Ty.int IntKind.u8) (dOf r1) 30) :: .l (Ty.int IntKind.u8) (gl (Ty.int IntKind.u8) (dOf r1) 31) :: .l (Ty.int IntKind.u8) (gl (Ty.int IntKind.u8) (dOf r1) 32) :: .l (Ty.int IntKind.u8) (gl (Ty.int IntKind.u8) (dOf r1) 33) :: .l (Ty.int IntKind.u8) (gl (Ty.int IntKind.u8) (dOf r1) 34) :: .l (Ty.int IntKind.u8) (gl (Ty.int IntKind.u8) (dOf r1) 35) :: .l (Ty.int IntKind.u8) (gl (Ty.int IntKind.u8) (dOf r1) 36) :: .l (Ty.int IntKind.u8) (gl (Ty.int IntKind.u8) (dOf r1) 37) :: .l (Ty.int IntKind.u8) (gl (Ty.int IntKind.u8) (dOf r1) 38) :: .l (Ty.int IntKind.u8) (gl (Ty.int IntKind.u8) (dOf r1) 39) :: [])))
       (.bad 351))))
  | _ => .bad 0
theorem fn_L3_9_k1_im (n0 : Int) (n1 : Int) (n2 : Int) (n3 : Int) (n4 : Int) (n5 : Int) (l6 : List (Ty.den (Ty.pair (Ty.int IntKind.u8) (Ty.int IntKind.i64)))) (n7 : Int) (n8 : Int) (n9 : Int) (n10 : Int) (n11 : Int) (n12 : Int) (n13 : Int) (n14 : Int) (l15 : List (Ty.den (Ty.int IntKind.u8))) (n16 : Int) (n17 : Int) (n18 : Int) (n19 : Int) (n20 : Int) (n21 : Int) (l22 : List (Ty.den (Ty.int IntKind.u8))) (n23 : Int) (n24 : Int) (n25 : Int) (n26 : Int) (n27 : Int) (l28 : List (Ty.den (Ty.int IntKind.u8))) (l29 : List (Ty.den (Ty.int IntKind.u8))) (l30 : List (Ty.den (Ty.int IntKind.u8))) (l31 : List (Ty.den (Ty.int IntKind.u8))) (l32 : List (Ty.den (Ty.int IntKind.u8))) (l33 : List (Ty.den (Ty.int IntKind.u8))) (l34 : List (Ty.den (Ty.int IntKind.u8))) (l35 : List (Ty.den (Ty.int IntKind.u8))) (l36 : List (Ty.den (Ty.int IntKind.u8))) (l37 : List (Ty.den (Ty.int IntKind.u8))) (l38 : List (Ty.den (Ty.int IntKind.u8))) : Imp (fn_L3_9_k1 (.n n0 :: .n n1 :: .n n2 :: .n n3 :: .n n4 :: .n n5 :: .l (Ty.pair (Ty.int IntKind.u8) (Ty.int IntKind.i64)) l6 :: .n n7 :: .n n8 :: .n n9 :: .n n10 :: .n n11 :: .n n12 :: .n n13 :: .n n14 :: .l (Ty.int IntKind.u8) l15 :: .n n16 :: .n n17 :: .n n18 :: .n n19 :: .n n20 :: .n n21 :: .l (Ty.int IntKind.u8) l22 :: .n n23 :: .n n24 :: .n n25 :: .n n26 :: .n n27 :: .l (Ty.int IntKind.u8) l28 :: .l (Ty.int IntKind.u8) l29 :: .l (Ty.int IntKind.u8) l30 :: .l (Ty.int IntKind.u8) l31 :: .l (Ty.int IntKind.u8) l32 :: .l (Ty.int IntKind.u8) l33 :: .l (Ty.int IntKind.u8) l34 :: .l (Ty.int IntKind.u8) l35 :: .l (Ty.int IntKind.u8) l36 :: .l (Ty.int IntKind.u8) l37 :: .l (Ty.int IntKind.u8) l38 :: [])) (st_L3_9 [.k 0, .n n0, .n 1, .n n1, .n n2, .n n3, .n n4, .n n5, .l TC l6, .n n7, .n n8, .n n9, .n n10, .n n11, .n n12, .n n13, .n n14, .l TB l15, .n n16, .n n17, .n n18, .n n19, .n n20, .n n21, .l TB l22, .n n23, .n n24, .n n25, .n n26, .n n27, .l TB l28, .l TB l29, .l TB l30, .l TB l31, .l TB l32, .l TB l33, .l TB l34, .l TB l35, .l TB l36, .l TB l37, .l TB l38]) :=
(.path [1,1,0,1,0,1,1] (by kernel_rfl)
(.node (by kernel_rfl) (by kernel_rfl) (fun h0 =>
(.path [1] (by kernel_rfl)
(.leaf (by kernel_rfl)))) (fun h0 =>
(.node (by kernel_rfl) (by kernel_rfl) (fun h1 =>
(.path [1] (by kernel_rfl)
(.leaf (by kernel_rfl)))) (fun h1 =>
.none)))))

noncomputable def fn_L3_9_k2 : List Dat → Tree Step
  | (.n n0 :: .n n1 :: .n n2 :: .n n3 :: .n n4 :: .n n5 :: .l (Ty.pair (Ty.int IntKind.u8) (Ty.int IntKind.i64)) l6 :: .n n7 :: .n n8 :: .n n9 :: .n n10 :: .n n11 :: .n n12 :: .n n13 :: .n n14 :: .l (Ty.int IntKind.u8) l15 :: .n n16 :: .n n17 :: .n n18 :: .n n19 :: .n n20 :: .n n21 :: .l (Ty.int IntKind.u8) l22 :: .n n23 :: .n n24 :: .n n25 :: .n n26 :: .n n27 :: .l (Ty.int IntKind.u8) l28 :: .l (Ty.int IntKind.u8) l29 :: .l (Ty.int IntKind.u8) l30 :: .l (Ty.int IntKind.u8) l31 :: .l (Ty.int IntKind.u8) l32 :: .l (Ty.int IntKind.u8) l33 :: .l (Ty.int IntKind.u8) l34 :: .l (Ty.int IntKind.u8) l35 :: .l (Ty.int IntKind.u8) l36 :: .l (Ty.int IntKind.u8) l37 :: .l (Ty.int IntKind.u8) l38 :: []) =>
    (.node (!strEq (strOf l31) (strOf l36))
     (.leaf (Step.stop 1 [.b false]))
     (let r1 : Option (Nat × List Dat) := (op_L3_15 (.k 2 :: .n n0 :: .n (2 : Int) :: .n (0 : Int) :: .n n1 :: .n n2 :: .n n3 :: .n n4 :: .n n5 :: .l (Ty.pair (Ty.int IntKind.u8) (Ty.int IntKind.i64)) l6 :: .n n7 :: .n n8 :: .n n9 :: .n n10 :: .n n11 :: .n n12 :: .n n13 :: .n n14 :: .l (Ty.int IntKind.u8) l15 :: .n n16 :: .n n17 :: .n n18 :: .n n19 :: .n n20 :: .n n21 :: .l (Ty.int IntKind.u8) l22 :: .n n23 :: .n n24 :: .n n25 :: .n n26 :: .n n27 :: .l (Ty.int IntKind.u8) l28 :: .l (Ty.int IntKind.u8) l31 :: .l (Ty.int IntKind.u8) l29 :: .l (Ty.int IntKind.u8) l30 :: .l (Ty.int IntKind.u8) l32 :: .l (Ty.int IntKind.u8) l33 :: .l (Ty.int IntKind.u8) l34 :: .l (Ty.int IntKind.u8) l35 :: .l (Ty.int IntKind.u8) l36 :: .l (Ty.int IntKind.u8) l37 :: .l (Ty.int IntKind.u8) l38 :: []));
      (.node (isK 0 (HK.n :: HK.n :: HK.n :: HK.n :: HK.n :: HK.n :: HK.n :: HK.l (Ty.pair (Ty.int IntKind.u8) (Ty.int IntKind.i64)) :: HK.n :: HK.n :: HK.n :: HK.n :: HK.n :: HK.n :: HK.n :: HK.n :: HK.l (Ty.int IntKind.u8) :: HK.n :: HK.n :: HK.n :: HK.n :: HK.n :: HK.n :: HK.l (Ty.int IntKind.u8) :: HK.n :: HK.n :: HK.n :: HK.n :: HK.n :: HK.l (Ty.int IntKind.u8) :: HK.l (Ty.int IntKind.u8) :: HK.l (Ty.int IntKind.u8) :: HK.l (Ty.int IntKind.u8) :: HK.l (Ty.int IntKind.u8) :: HK.l (Ty.int IntKind.u8) :: HK.l (Ty.int IntKind.u8) :: HK.l (Ty.int IntKind.u8) :: HK.l (Ty.int IntKind.u8) :: HK.l (Ty.int IntKind.u8) :: HK.l (Ty.int IntKind.u8) :: []) r1)
       (.leaf (Step.go (.k 0 :: .n (gn (dOf r1) 0) :: .n (IntKind.wrap .i64 (gn (dOf r1) 1 + (1 : Int))) :: .n (gn (dOf r1) 2) :: .n (gn (dOf r1) 3) :: .n (gn (dOf r1) 4) :: .n (gn (dOf r1) 5) :: .n (gn (dOf r1) 6) :: .l (Ty.pair (Ty.int IntKind.u8) (Ty.int IntKind.i64)) (gl (Ty.pair (Ty.int IntKind.u8) (Ty.int IntKind.i64)) (dOf r1) 7) :: .n (gn (dOf r1) 8) :: .n (gn (dOf r1) 9) :: .n (gn (dOf r1) 10) :: .n (gn (dOf r1) 11) :: .n (gn (dOf r1) 12) :: .n (gn (dOf r1) 13) :: .n (gn (dOf r1) 14) :: .n (gn (dOf r1) 15) :: .l (Ty.int IntKind.u8) (gl (Ty.int IntKind.u8) (dOf r1) 16) :: .n (gn (dOf r1) 17) :: .n (gn (dOf r1) 18) :: .n (gn (dOf r1) 19) :: .n (gn (dOf r1) 20) :: .n (gn (dOf r1) 21) :: .n (gn (dOf r1) 22) :: .l (Ty.int IntKind.u8) (gl (Ty.int IntKind.u8) (dOf r1) 23) :: .n (gn (dOf r1) 24) :: .n (gn (dOf r1) 25) :: .n (gn (dOf r1) 26) :: .n (gn (dOf r1) 27) :: .n (gn (dOf r1) 28) :: .l (Ty.int IntKind.u8) (gl (Ty.int IntKind.u8) (dOf r1) 29) :: .l (Ty.int IntKind.u8) (gl (Ty.int IntKind.u8) (dOf r1) 30) :: .l (Ty.int IntKind.u8) (gl (Ty.int IntKind.u8) (dOf r1) 31) :: .l (Ty.int IntKind.u8) (gl (Ty.int IntKind.u8) (dOf r1) 32) :: .l (Ty.int IntKind.u8) (gl (Ty.int IntKind.u8) (dOf r1) 33) :: .l (Ty.int IntKind.u8) (gl (Ty.int IntKind.u8) (dOf r1) 34) :: .l (Ty.int IntKind.u8) (gl (Ty.int IntKind.u8) (dOf r1) 35) :: .l (Ty.int IntKind.u8) (gl (Ty.int IntKind.u8) (dOf r1) 36) :: .l (Ty.int IntKind.u8) (gl (Ty.int IntKind.u8) (dOf r1) 37) :: .l (Ty.int IntKind.u8) (gl (Ty.int IntKind.u8) (dOf r1) 38) :: .l (Ty.int IntKind.u8) (gl (Ty.int IntKind.u8) (dOf r1) 39) :: [])))
       (.bad 351))))
  | _ => .bad 0
theorem fn_L3_9_k2_im (n0 : Int) (n1 : Int) (n2 : Int) (n3 : Int) (n4 : Int) (n5 : Int) (l6 : List (Ty.den (Ty.pair (Ty.int IntKind.u8) (Ty.int IntKind.i64)))) (n7 : Int) (n8 : Int) (n9 : Int) (n10 : Int) (n11 : Int) (n12 : Int) (n13 : Int) (n14 : Int) (l15 : List (Ty.den (Ty.int IntKind.u8))) (n16 : Int) (n17 : Int) (n18 : Int) (n19 : Int) (n20 : Int) (n21 : Int) (l22 : List (Ty.den (Ty.int IntKind.u8))) (n23 : Int) (n24 : Int) (n25 : Int) (n26 : Int) (n27 : Int) (l28 : List (Ty.den (Ty.int IntKind.u8))) (l29 : List (Ty.den (Ty.int IntKind.u8))) (l30 : List (Ty.den (Ty.int IntKind.u8))) (l31 : List (Ty.den (Ty.int IntKind.u8))) (l32 : List (Ty.den (Ty.int IntKind.u8))) (l33 : List (Ty.den (Ty.int IntKind.u8))) (l34 : List (Ty.den (Ty.int IntKind.u8))) (l35 : List (Ty.den (Ty.int IntKind.u8))) (l36 : List (Ty.den (Ty.int IntKind.u8))) (l37 : List (Ty.den (Ty.int IntKind.u8))) (l38 : List (Ty.den (Ty.int IntKind.u8))) : Imp (fn_L3_9_k2 (.n n0 :: .n n1 :: .n n2 :: .n n3 :: .n n4 :: .n n5 :: .l (Ty.pair (Ty.int IntKind.u8) (Ty.int IntKind.i64)) l6 :: .n n7 :: .n n8 :: .n n9 :: .n n10 :: .n n11 :: .n n12 :: .n n13 :: .n n14 :: .l (Ty.int IntKind.u8) l15 :: .n n16 :: .n n17 :: .n n18 :: .n n19 :: .n n20 :: .n n21 :: .l (Ty.int IntKind.u8) l22 :: .n n23 :: .n n24 :: .n n25 :: .n n26 :: .n n27 :: .l (Ty.int IntKind.u8) l28 :: .l (Ty.int IntKind.u8) l29 :: .l (Ty.int IntKind.u8) l30 :: .l (Ty.int IntKind.u8) l31 :: .l (Ty.int IntKind.u8) l32 :: .l (Ty.int IntKind.u8) l33 :: .l (Ty.int IntKind.u8) l34 :: .l (Ty.int IntKind.u8) l35 :: .l (Ty.int IntKind.u8) l36 :: .l (Ty.int IntKind.u8) l37 :: .l (Ty.int IntKind.u8) l38 :: [])) (st_L3_9 [.k 0, .n n0, .n 2, .n n1, .n n2, .n n3, .n n4, .n n5, .l TC l6, .n n7, .n n8, .n n9, .n n10, .n n11, .n n12, .n n13, .n n14, .l TB l15, .n n16, .n n17, .n n18, .n n19, .n n20, .n n21, .l TB l22, .n n23, .n n24, .n n25, .n n26, .n n27, .l TB l28, .l TB l29, .l TB l30, .l TB l31, .l TB l32, .l TB l33, .l TB l34, .l TB l35, .l TB l36, .l TB l37, .l TB l38]) :=
(.path [1,1,0,0,1,0,0,1,1] (by kernel_rfl)
(.node (by kernel_rfl) (by kernel_rfl) (fun h0 =>
(.path [1] (by kernel_rfl)
(.leaf (by kernel_rfl)))) (fun h0 =>
(.node (by kernel_rfl) (by kernel_rfl) (fun h1 =>
(.path [1] (by kernel_rfl)
(.leaf (by kernel_rfl)))) (fun h1 =>
.none)))))

noncomputable def fn_L3_9_k3 : List Dat → Tree Step
  | (.n n0 :: .n n1 :: .n n2 :: .n n3 :: .n n4 :: .n n5 :: .l (Ty.pair (Ty.int IntKind.u8) (Ty.int IntKind.i64)) l6 :: .n n7 :: .n n8 :: .n n9 :: .n n10 :: .n n11 :: .n n12 :: .n n13 :: .n n14 :: .l (Ty.int IntKind.u8) l15 :: .n n16 :: .n n17 :: .n n18 :: .n n19 :: .n n20 :: .n n21 :: .l (Ty.int IntKind.u8) l22 :: .n n23 :: .n n24 :: .n n25 :: .n n26 :: .n n27 :: .l (Ty.int IntKind.u8) l28 :: .l (Ty.int IntKind.u8) l29 :: .l (Ty.int IntKind.u8) l30 :: .l (Ty.int IntKind.u8) l31 :: .l (Ty.int IntKind.u8) l32 :: .l (Ty.int IntKind.u8) l33 :: .l (Ty.int IntKind.u8) l34 :: .l (Ty.int IntKind.u8) l35 :: .l (Ty.int IntKind.u8) l36 :: .l (Ty.int IntKind.u8) l37 :: .l (Ty.int IntKind.u8) l38 :: []) =>
    (.node (!strEq (strOf l32) (strOf l37))
     (.leaf (Step.stop 1 [.b false]))
     (let r1 : Option (Nat × List Dat) := (op_L3_15 (.k 3 :: .n n0 :: .n (3 : Int) :: .n (0 : Int) :: .n n1 :: .n n2 :: .n n3 :: .n n4 :: .n n5 :: .l (Ty.pair (Ty.int IntKind.u8) (Ty.int IntKind.i64)) l6 :: .n n7 :: .n n8 :: .n n9 :: .n n10 :: .n n11 :: .n n12 :: .n n13 :: .n n14 :: .l (Ty.int IntKind.u8) l15 :: .n n16 :: .n n17 :: .n n18 :: .n n19 :: .n n20 :: .n n21 :: .l (Ty.int IntKind.u8) l22 :: .n n23 :: .n n24 :: .n n25 :: .n n26 :: .n n27 :: .l (Ty.int IntKind.u8) l28 :: .l (Ty.int IntKind.u8) l32 :: .l (Ty.int IntKind.u8) l29 :: .l (Ty.int IntKind.u8) l30 :: .l (Ty.int IntKind.u8) l31 :: .l (Ty.int IntKind.u8) l33 :: .l (Ty.int IntKind.u8) l34 :: .l (Ty.int IntKind.u8) l35 :: .l (Ty.int IntKind.u8) l36 :: .l (Ty.int IntKind.u8) l37 :: .l (Ty.int IntKind.u8) l38 :: []));
      (.node (isK 0 (HK.n :: HK.n :: HK.n :: HK.n :: HK.n :: HK.n :: HK.n :: HK.l (Ty.pair (Ty.int IntKind.u8) (Ty.int IntKind.i64)) :: HK.n :: HK.n :: HK.n :: HK.n :: HK.n :: HK.n :: HK.n :: HK.n :: HK.l (Ty.int IntKind.u8) :: HK.n :: HK.n :: HK.n :: HK.n :: HK.n :: HK.n :: HK.l (Ty.int IntKind.u8) :: HK.n :: HK.n :: HK.n :: HK.n :: HK.n :: HK.l (Ty.int IntKind.u8) :: HK.l (Ty.int IntKind.u8) :: HK.l (Ty.int IntKind.u8) :: HK.l (Ty.int IntKind.u8) :: HK.l (Ty.int IntKind.u8) :: HK.l (Ty.int IntKind.u8) :: HK.l (Ty.int IntKind.u8) :: HK.l (Ty.int IntKind.u8) :: HK.l (Ty.int IntKind.u8) :: HK.l (Ty.int IntKind.u8) :: HK.l (Ty.int IntKind.u8) :: []) r1)
       (.leaf (Step.go (.k 0 :: .n (gn (dOf r1) 0) :: .n (IntKind.wrap .i64 (gn (dOf r1) 1 + (1 : Int))) :: .n (gn (dOf r1) 2) :: .n (gn (dOf r1) 3) :: .n (gn (dOf r1) 4) :: .n (gn (dOf r1) 5) :: .n (gn (dOf r1) 6) :: .l (Ty.pair (Ty.int IntKind.u8) (Ty.int IntKind.i64)) (gl (Ty.pair (Ty.int IntKind.u8) (Ty.int IntKind.i64)) (dOf r1) 7) :: .n (gn (dOf r1) 8) :: .n (gn (dOf r1) 9) :: .n (gn (dOf r1) 10) :: .n (gn (dOf r1) 11) :: .n (gn (dOf r1) 12) :: .n (gn (dOf r1) 13) :: .n (gn (dOf r1) 14) :: .n (gn (dOf r1) 15) :: .l (Ty.int IntKind.u8) (gl (Ty.int IntKind.u8) (dOf r1) 16) :: .n (gn (dOf r1) 17) :: .n (gn (dOf r1) 18) :: .n (gn (dOf r1) 19) :: .n (gn (dOf r1) 20) :: .n (gn (dOf r1) 21) :: .n (gn (dOf r1) 22) :: .l (Ty.int IntKind.u8) (gl (Ty.int IntKind.u8) (dOf r1) 23) :: .n (gn (dOf r1) 24) :: .n (gn (dOf r1) 25) :: .n (gn (dOf r1) 26) :: .n (gn (dOf r1) 27) :: .n (gn (dOf r1) 28) :: .l (Ty.int IntKind.u8) (gl (Ty.int IntKind.u8) (dOf r1) 29) :: .l (Ty.int IntKind.u8) (gl (Ty.int IntKind.u8) (dOf r1) 30) :: .l (Ty.int IntKind.u8) (gl (Ty.int IntKind.u8) (dOf r1) 31) :: .l (Ty.int IntKind.u8) (gl (Ty.int IntKind.u8) (dOf r1) 32) :: .l (Ty.int IntKind.u8) (gl (Ty.int IntKind.u8) (dOf r1) 33) :: .l (Ty.int IntKind.u8) (gl (Ty.int IntKind.u8) (dOf r1) 34) :: .l (Ty.int IntKind.u8) (gl (Ty.int IntKind.u8) (dOf r1) 35) :: .l (Ty.int IntKind.u8) (gl (Ty.int IntKind.u8) (dOf r1) 36) :: .l (Ty.int IntKind.u8) (gl (Ty.int IntKind.u8) (dOf r1) 37) :: .l (Ty.int IntKind.u8) (gl (Ty.int IntKind.u8) (dOf r1) 38) :: .l (Ty.int IntKind.u8) (gl (Ty.int IntKind.u8) (dOf r1) 39) :: [])))
       (.bad 351))))
  | _ => .bad 0
theorem fn_L3_9_k3_im (n0 : Int) (n1 : Int) (n2 : Int) (n3 : Int) (n4 : Int) (n5 : Int) (l6 : List (Ty.den (Ty.pair (Ty.int IntKind.u8) (Ty.int IntKind.i64)))) (n7 : Int) (n8 : Int) (n9 : Int) (n10 : Int) (n11 : Int) (n12 : Int) (n13 : Int) (n14 : Int) (l15 : List (Ty.den (Ty.int IntKind.u8))) (n16 : Int) (n17 : Int) (n18 : Int) (n19 : Int) (n20 : Int) (n21 : Int) (l22 : List (Ty.den (Ty.int IntKind.u8))) (n23 : Int) (n24 : Int) (n25 : Int) (n26 : Int) (n27 : Int) (l28 : List (Ty.den (Ty.int IntKind.u8))) (l29 : List (Ty.den (Ty.int IntKind.u8))) (l30 : List (Ty.den (Ty.int IntKind.u8))) (l31 : List (Ty.den (Ty.int IntKind.u8))) (l32 : List (Ty.den (Ty.int IntKind.u8))) (l33 : List (Ty.den (Ty.int IntKind.u8))) (l34 : List (Ty.den (Ty.int IntKind.u8))) (l35 : List (Ty.den (Ty.int IntKind.u8))) (l36 : List (Ty.den (Ty.int IntKind.u8))) (l37 : List (Ty.den (Ty.int IntKind.u8))) (l38 : List (Ty.den (Ty.int IntKind.u8))) : Imp (fn_L3_9_k3 (.n n0 :: .n n1 :: .n n2 :: .n n3 :: .n n4 :: .n n5 :: .l (Ty.pair (Ty.int IntKind.u8) (Ty.int IntKind.i64)) l6 :: .n n7 :: .n n8 :: .n n9 :: .n n10 :: .n n11 :: .n n12 :: .n n13 :: .n n14 :: .l (Ty.int IntKind.u8) l15 :: .n n16 :: .n n17 :: .n n18 :: .n n19 :: .n n20 :: .n n21 :: .l (Ty.int IntKind.u8) l22 :: .n n23 :: .n n24 :: .n n25 :: .n n26 :: .n n27 :: .l (Ty.int IntKind.u8) l28 :: .l (Ty.int IntKind.u8) l29 :: .l (Ty.int IntKind.u8) l30 :: .l (Ty.int IntKind.u8) l31 :: .l (Ty.int IntKind.u8) l32 :: .l (Ty.int IntKind.u8) l33 :: .l (Ty.int IntKind.u8) l34 :: .l (Ty.int IntKind.u8) l35 :: .l (Ty.int IntKind.u8) l36 :: .l (Ty.int IntKind.u8) l37 :: .l (Ty.int IntKind.u8) l38 :: [])) (st_L3_9 [.k 0, .n n0, .n 3, .n n1, .n n2, .n n3, .n n4, .n n5, .l TC l6, .n n7, .n n8, .n n9, .n n10, .n n11, .n n12, .n n13, .n n14, .l TB l15, .n n16, .n n17, .n n18, .n n19, .n n20, .n n21, .l TB l22, .n n23, .n n24, .n n25, .n n26, .n n27, .l TB l28, .l TB l29, .l TB l30, .l TB l31, .l TB l32, .l TB l33, .l TB l34, .l TB l35, .l TB l36, .l TB l37, .l TB l38]) :=
(.path [1,1,0,0,0,1,0,0,0,1,1] (by kernel_rfl)
(.node (by kernel_rfl) (by kernel_rfl) (fun h0 =>
(.path [1] (by kernel_rfl)
(.leaf (by kernel_rfl)))) (fun h0 =>
(.node (by kernel_rfl) (by kernel_rfl) (fun h1 =>
(.path [1] (by kernel_rfl)
(.leaf (by kernel_rfl)))) (fun h1 =>
.none)))))

noncomputable def fn_L3_9_k4 : List Dat → Tree Step
  | (.n n0 :: .n n1 :: .n n2 :: .n n3 :: .n n4 :: .n n5 :: .l (Ty.pair (Ty.int IntKind.u8) (Ty.int IntKind.i64)) l6 :: .n n7 :: .n n8 :: .n n9 :: .n n10 :: .n n11 :: .n n12 :: .n n13 :: .n n14 :: .l (Ty.int IntKind.u8) l15 :: .n n16 :: .n n17 :: .n n18 :: .n n19 :: .n n20 :: .n n21 :: .l (Ty.int IntKind.u8) l22 :: .n n23 :: .n n24 :: .n n25 :: .n n26 :: .n n27 :: .l (Ty.int IntKind.u8) l28 :: .l (Ty.int IntKind.u8) l29 :: .l (Ty.int IntKind.u8) l30 :: .l (Ty.int IntKind.u8) l31 :: .l (Ty.int IntKind.u8) l32 :: .l (Ty.int IntKind.u8) l33 :: .l (Ty.int IntKind.u8) l34 :: .l (Ty.int IntKind.u8) l35 :: .l (Ty.int IntKind.u8) l36 :: .l (Ty.int IntKind.u8) l37 :: .l (Ty.int IntKind.u8) l38 :: []) =>
    (.node (!strEq (strOf l33) (strOf l38))
     (.leaf (Step.stop 1 [.b false]))
     (let r1 : Option (Nat × List Dat) := (op_L3_15 (.k 4 :: .n n0 :: .n (4 : Int) :: .n (0 : Int) :: .n n1 :: .n n2 :: .n n3 :: .n n4 :: .n n5 :: .l (Ty.pair (Ty.int IntKind.u8) (Ty.int IntKind.i64)) l6 :: .n n7 :: .n n8 :: .n n9 :: .n n10 :: .n n11 :: .n n12 :: .n n13 :: .n n14 :: .l (Ty.int IntKind.u8) l15 :: .n n16 :: .n n17 :: .n n18 :: .n n19 :: .n n20 :: .n n21 :: .l (Ty.int IntKind.u8) l22 :: .n n23 :: .n n24 :: .n n25 :: .n n26 :: .n n27 :: .l (Ty.int IntKind.u8) l28 :: .l (Ty.int IntKind.u8) l33 :: .l (Ty.int IntKind.u8) l29 :: .l (Ty.int IntKind.u8) l30 :: .l (Ty.int IntKind.u8) l31 :: .l (Ty.int IntKind.u8) l32 :: .l (Ty.int IntKind.u8) l34 :: .l (Ty.int IntKind.u8) l35 :: .l (Ty.int IntKind.u8) l36 :: .l (Ty.int IntKind.u8) l37 :: .l (Ty.int IntKind.u8) l38 :: []));
      (.node (isK 0 (HK.n :: HK.n :: HK.n :: HK.n :: HK.n :: HK.n :: HK.n :: HK.l (Ty.pair (Ty.int IntKind.u8) (Ty.int IntKind.i64)) :: HK.n :: HK.n :: HK.n :: HK.n :: HK.n :: HK.n :: HK.n :: HK.n :: HK.l (Ty.int IntKind.u8) :: HK.n :: HK.n :: HK.n :: HK.n :: HK.n :: HK.n :: HK.l (Ty.int IntKind.u8) :: HK.n :: HK.n :: HK.n :: HK.n :: HK.n :: HK.l (Ty.int IntKind.u8) :: HK.l (Ty.int IntKind.u8) :: HK.l (Ty.int IntKind.u8) :: HK.l (Ty.int IntKind.u8) :: HK.l (Ty.int IntKind.u8) :: HK.l (Ty.int IntKind.u8) :: HK.l (Ty.int IntKind.u8) :: HK.l (Ty.int IntKind.u8) :: HK.l (Ty.int IntKind.u8) :: HK.l (Ty.int IntKind.u8) :: HK.l (Ty.int IntKind.u8) :: []) r1)
       (.leaf (Step.go (.k 0 :: .n (gn (dOf r1) 0) :: .n (IntKind.wrap .i64 (gn (dOf r1) 1 + (1 : Int))) :: .n (gn (dOf r1) 2) :: .n (gn (dOf r1) 3) :: .n (gn (dOf r1) 4) :: .n (gn (dOf r1) 5) :: .n (gn (dOf r1) 6) :: .l (Ty.pair (Ty.int IntKind.u8) (Ty.int IntKind.i64)) (gl (Ty.pair (Ty.int IntKind.u8) (Ty.int IntKind.i64)) (dOf r1) 7) :: .n (gn (dOf r1) 8) :: .n (gn (dOf r1) 9) :: .n (gn (dOf r1) 10) :: .n (gn (dOf r1) 11) :: .n (gn (dOf r1) 12) :: .n (gn (dOf r1) 13) :: .n (gn (dOf r1) 14) :: .n (gn (dOf r1) 15) :: .l (Ty.int IntKind.u8) (gl (Ty.int IntKind.u8) (dOf r1) 16) :: .n (gn (dOf r1) 17) :: .n (gn (dOf r1) 18) :: .n (gn (dOf r1) 19) :: .n (gn (dOf r1) 20) :: .n (gn (dOf r1) 21) :: .n (gn (dOf r1) 22) :: .l (Ty.int IntKind.u8) (gl (Ty.int IntKind.u8) (dOf r1) 23) :: .n (gn (dOf r1) 24) :: .n (gn (dOf r1) 25) :: .n (gn (dOf r1) 26) :: .n (gn (dOf r1) 27) :: .n (gn (dOf r1) 28) :: .l (Ty.int IntKind.u8) (gl (Ty.int IntKind.u8) (dOf r1) 29) :: .l (Ty.int IntKind.u8) (gl (Ty.int IntKind.u8) (dOf r1) 30) :: .l (Ty.int IntKind.u8) (gl (Ty.int IntKind.u8) (dOf r1) 31) :: .l (Ty.int IntKind.u8) (gl (Ty.int IntKind.u8) (dOf r1) 32) :: .l (Ty.int IntKind.u8) (gl (Ty.int IntKind.u8) (dOf r1) 33) :: .l (Ty.int IntKind.u8) (gl (Ty.int IntKind.u8) (dOf r1) 34) :: .l (Ty.int IntKind.u8) (gl (Ty.int IntKind.u8) (dOf r1) 35) :: .l (Ty.int IntKind.u8) (gl (Ty.int IntKind.u8) (dOf r1) 36) :: .l (Ty.int IntKind.u8) (gl (Ty.int IntKind.u8) (dOf r1) 37) :: .l (Ty.int IntKind.u8) (gl (Ty.int IntKind.u8) (dOf r1) 38) :: .l (Ty.int IntKind.u8) (gl (Ty.int IntKind.u8) (dOf r1) 39) :: [])))
       (.bad 351))))
  | _ => .bad 0
theorem fn_L3_9_k4_im (n0 : Int) (n1 : Int) (n2 : Int) (n3 : Int) (n4 : Int) (n5 : Int) (l6 : List (Ty.den (Ty.pair (Ty.int IntKind.u8) (Ty.int IntKind.i64)))) (n7 : Int) (n8 : Int) (n9 : Int) (n10 : Int) (n11 : Int) (n12 : Int) (n13 : Int) (n14 : Int) (l15 : List (Ty.den (Ty.int IntKind.u8))) (n16 : Int) (n17 : Int) (n18 : Int) (n19 : Int) (n20 : Int) (n21 : Int) (l22 : List (Ty.den (Ty.int IntKind.u8))) (n23 : Int) (n24 : Int) (n25 : Int) (n26 : Int) (n27 : Int) (l28 : List (Ty.den (Ty.int IntKind.u8))) (l29 : List (Ty.den (Ty.int IntKind.u8))) (l30 : List (Ty.den (Ty.int IntKind.u8))) (l31 : List (Ty.den (Ty.int IntKind.u8))) (l32 : List (Ty.den (Ty.int IntKind.u8))) (l33 : List (Ty.den (Ty.int IntKind.u8))) (l34 : List (Ty.den (Ty.int IntKind.u8))) (l35 : List (Ty.den (Ty.int IntKind.u8))) (l36 : List (Ty.den (Ty.int IntKind.u8))) (l37 : List (Ty.den (Ty.int IntKind.u8))) (l38 : List (Ty.den (Ty.int IntKind.u8))) : Imp (fn_L3_9_k4 (.n n0 :: .n n1 :: .n n2 :: .n n3 :: .n n4 :: .n n5 :: .l (Ty.pair (Ty.int IntKind.u8) (Ty.int IntKind.i64)) l6 :: .n n7 :: .n n8 :: .n n9 :: .n n10 :: .n n11 :: .n n12 :: .n n13 :: .n n14 :: .l (Ty.int IntKind.u8) l15 :: .n n16 :: .n n17 :: .n n18 :: .n n19 :: .n n20 :: .n n21 :: .l (Ty.int IntKind.u8) l22 :: .n n23 :: .n n24 :: .n n25 :: .n n26 :: .n n27 :: .l (Ty.int IntKind.u8) l28 :: .l (Ty.int IntKind.u8) l29 :: .l (Ty.int IntKind.u8) l30 :: .l (Ty.int IntKind.u8) l31 :: .l (Ty.int IntKind.u8) l32 :: .l (Ty.int IntKind.u8) l33 :: .l (Ty.int IntKind.u8) l34 :: .l (Ty.int IntKind.u8) l35 :: .l (Ty.int IntKind.u8) l36 :: .l (Ty.int IntKind.u8) l37 :: .l (Ty.int IntKind.u8) l38 :: [])) (st_L3_9 [.k 0, .n n0, .n 4, .n n1, .n n2, .n n3, .n n4, .n n5, .l TC l6, .n n7, .n n8, .n n9, .n n10, .n n11, .n n12, .n n13, .n n14, .l TB l15, .n n16, .n n17, .n n18, .n n19, .n n20, .n n21, .l TB l22, .n n23, .n n24, .n n25, .n n26, .n n27, .l TB l28, .l TB l29, .l TB l30, .l TB l31, .l TB l32, .l TB l33, .l TB l34, .l TB l35, .l TB l36, .l TB l37, .l TB l38]) :=
(.path [1,1,0,0,0,0,1,0,0,0,0,1,1] (by kernel_rfl)
(.node (by kernel_rfl) (by kernel_rfl) (fun h0 =>
(.path [1] (by kernel_rfl)
(.leaf (by kernel_rfl)))) (fun h0 =>
(.node (by kernel_rfl) (by kernel_rfl) (fun h1 =>
(.path [1] (by kernel_rfl)
(.leaf (by kernel_rfl)))) (fun h1 =>
.none)))))

noncomputable def fn_L3_9_k5 : List Dat → Tree Step
  | (.n n0 :: .n n1 :: .n n2 :: .n n3 :: .n n4 :: .n n5 :: .l (Ty.pair (Ty.int IntKind.u8) (Ty.int IntKind.i64)) l6 :: .n n7 :: .n n8 :: .n n9 :: .n n10 :: .n n11 :: .n n12 :: .n n13 :: .n n14 :: .l (Ty.int IntKind.u8) l15 :: .n n16 :: .n n17 :: .n n18 :: .n n19 :: .n n20 :: .n n21 :: .l (Ty.int IntKind.u8) l22 :: .n n23 :: .n n24 :: .n n25 :: .n n26 :: .n n27 :: .l (Ty.int IntKind.u8) l28 :: .l (Ty.int IntKind.u8) l29 :: .l (Ty.int IntKind.u8) l30 :: .l (Ty.int IntKind.u8) l31 :: .l (Ty.int IntKind.u8) l32 :: .l (Ty.int IntKind.u8) l33 :: .l (Ty.int IntKind.u8) l34 :: .l (Ty.int IntKind.u8) l35 :: .l (Ty.int IntKind.u8) l36 :: .l (Ty.int IntKind.u8) l37 :: .l (Ty.int IntKind.u8) l38 :: []) =>
    (.leaf (Step.stop 0 [.n n0, .n n1, .n n2, .n n3, .n n4, .n n5, .l (Ty.pair (Ty.int IntKind.u8) (Ty.int IntKind.i64)) l6, .n n7, .n n8, .n n9, .n n10, .n n11, .n n12, .n n13, .n n14, .l (Ty.int IntKind.u8) l15, .n n16, .n n17, .n n18, .n n19, .n n20, .n n21, .l (Ty.int IntKind.u8) l22, .n n23, .n n24, .n n25, .n n26, .n n27, .l (Ty.int IntKind.u8) l28]))
  | _ => .bad 0
theorem fn_L3_9_k5_im (n0 : Int) (n1 : Int) (n2 : Int) (n3 : Int) (n4 : Int) (n5 : Int) (l6 : List (Ty.den (Ty.pair (Ty.int IntKind.u8) (Ty.int IntKind.i64)))) (n7 : Int) (n8 : Int) (n9 : Int) (n10 : Int) (n11 : Int) (n12 : Int) (n13 : Int) (n14 : Int) (l15 : List (Ty.den (Ty.int IntKind.u8))) (n16 : Int) (n17 : Int) (n18 : Int) (n19 : Int) (n20 : Int) (n21 : Int) (l22 : List (Ty.den (Ty.int IntKind.u8))) (n23 : Int) (n24 : Int) (n25 : Int) (n26 : Int) (n27 : Int) (l28 : List (Ty.den (Ty.int IntKind.u8))) (l29 : List (Ty.den (Ty.int IntKind.u8))) (l30 : List (Ty.den (Ty.int IntKind.u8))) (l31 : List (Ty.den (Ty.int IntKind.u8))) (l32 : List (Ty.den (Ty.int IntKind.u8))) (l33 : List (Ty.den (Ty.int IntKind.u8))) (l34 : List (Ty.den (Ty.int IntKind.u8))) (l35 : List (Ty.den (Ty.int IntKind.u8))) (l36 : List (Ty.den (Ty.int IntKind.u8))) (l37 : List (Ty.den (Ty.int IntKind.u8))) (l38 : List (Ty.den (Ty.int IntKind.u8))) : Imp (fn_L3_9_k5 (.n n0 :: .n n1 :: .n n2 :: .n n3 :: .n n4 :: .n n5 :: .l (Ty.pair (Ty.int IntKind.u8) (Ty.int IntKind.i64)) l6 :: .n n7 :: .n n8 :: .n n9 :: .n n10 :: .n n11 :: .n n12 :: .n n13 :: .n n14 :: .l (Ty.int IntKind.u8) l15 :: .n n16 :: .n n17 :: .n n18 :: .n n19 :: .n n20 :: .n n21 :: .l (Ty.int IntKind.u8) l22 :: .n n23 :: .n n24 :: .n n25 :: .n n26 :: .n n27 :: .l (Ty.int IntKind.u8) l28 :: .l (Ty.int IntKind.u8) l29 :: .l (Ty.int IntKind.u8) l30 :: .l (Ty.int IntKind.u8) l31 :: .l (Ty.int IntKind.u8) l32 :: .l (Ty.int IntKind.u8) l33 :: .l (Ty.int IntKind.u8) l34 :: .l (Ty.int IntKind.u8) l35 :: .l (Ty.int IntKind.u8) l36 :: .l (Ty.int IntKind.u8) l37 :: .l (Ty.int IntKind.u8) l38 :: [])) (st_L3_9 [.k 0, .n n0, .n 5, .n n1, .n n2, .n n3, .n n4, .n n5, .l TC l6, .n n7, .n n8, .n n9, .n n10, .n n11, .n n12, .n n13, .n n14, .l TB l15, .n n16, .n n17, .n n18, .n n19, .n n20, .n n21, .l TB l22, .n n23, .n n24, .n n25, .n n26, .n n27, .l TB l28, .l TB l29, .l TB l30, .l TB l31, .l TB l32, .l TB l33, .l TB l34, .l TB l35, .l TB l36, .l TB l37, .l TB l38]) :=
(.path [1,0,1] (by kernel_rfl)
(.leaf (by kernel_rfl)))

noncomputable def st_L3_4 (env : List Dat) : Tree Step := Lk.stepMC false LK cs_21p 3 4 (lsM [(9, L3_9)] 0) (mkM 0 [] [(sh 85 [(5, .ptr 0 0), (6, .ptr 1 0), (7, .ptr 2 0), (8, .ptr 3 0), (9, .ptr 4 0), (11, .int .i64 0)], [inB 1, ouB 7, stB 12, loB 17, liB 24])] [] [(.exit 0, sh 85 [], []), (.ret, sh 85 [(10, .bool 0)], [])] fun _ => none) env
theorem op_L3_4_ex : ∃ f : List Dat → Option (Nat × List Dat), ∀ env, f env = iterS st_L3_4 FU env := ⟨iterS st_L3_4 FU, fun _ => rfl⟩
noncomputable def op_L3_4 : List Dat → Option (Nat × List Dat) := Classical.choose op_L3_4_ex
theorem op_L3_4_eq (env : List Dat) : op_L3_4 env = iterS st_L3_4 FU env := Classical.choose_spec op_L3_4_ex env
noncomputable def L3_4 : MBox := mkM 0 [] [(sh 85 [(5, .ptr 0 0), (6, .ptr 1 0), (7, .ptr 2 0), (8, .ptr 3 0), (9, .ptr 4 0), (11, .int .i64 0)], [inB 1, ouB 7, stB 12, loB 17, liB 24])] [] [(.exit 0, sh 85 [], []), (.ret, sh 85 [(10, .bool 0)], [])] op_L3_4
theorem L3_4_eqs : L3_4 = mkM 0 [] [(sh 85 [(5, .ptr 0 0), (6, .ptr 1 0), (7, .ptr 2 0), (8, .ptr 3 0), (9, .ptr 4 0), (11, .int .i64 0)], [inB 1, ouB 7, stB 12, loB 17, liB 24])] [] [(.exit 0, sh 85 [], []), (.ret, sh 85 [(10, .bool 0)], [])] (iterS st_L3_4 FU) := congrArg (fun f => mkM 0 [] [(sh 85 [(5, .ptr 0 0), (6, .ptr 1 0), (7, .ptr 2 0), (8, .ptr 3 0), (9, .ptr 4 0), (11, .int .i64 0)], [inB 1, ouB 7, stB 12, loB 17, liB 24])] [] [(.exit 0, sh 85 [], []), (.ret, sh 85 [(10, .bool 0)], [])] f) (funext op_L3_4_eq)
theorem L3_4_in : LsOk Try.prog 0 (lsM [(9, L3_9)] 0) (cAt Try.prog 3 4) := LsOk.many fun j B hB hk c hc hi => by
  simp only [lookM] at hB
  split at hB
  · rename_i e; have := Nat.eq_of_beq_eq_true e; subst this; cases hB
    have e1 : loopsAt (cAt Try.prog 3 4) 9 = [cAt Try.prog 3 9] := by kernel_rfl
    have e2 := loopsAt_mem hc hi
    rw [e1] at e2; cases List.mem_singleton.1 e2; exact L3_9_run
  cases hB
theorem L3_4_run : ∀ t s x, (manyRun L3_4 t s).sel = some x → CodeOk Try.prog 0 (.loop (cAt Try.prog 3 4)) t s x := by
  rw [L3_4_eqs]
  exact mkM_ok (st := st_L3_4) (m := FU) cs_21p_ok hmix false (L3_4_in) (by kernel_rfl) (fun env y h => by rw [← stepMC_lk]; exact h)
theorem op_L3_4_good {p : Nat × List Dat → Prop} (Inv : List Dat → Prop) (μ : List Dat → Nat) (h : ∀ env, Inv env → Good (fun y => match y with | .go e => Inv e ∧ μ e < μ env | .stop k d => p (k, d)) (st_L3_4 env).sel) (env : List Dat) (hi : Inv env) (hm : μ env < FU) : Good p (op_L3_4 env) := by
  rw [op_L3_4_eq]
  exact iterS_good Inv μ p h FU env hi hm

noncomputable def fn_L3_4_t : List Dat → Tree Step
  | [.n n0, .n n1, .n n2, .n n3, .n n4, .n n5, .l (Ty.pair (Ty.int IntKind.u8) (Ty.int IntKind.i64)) l6, .n n7, .n n8, .n n9, .n n10, .n n11, .n n12, .n n13, .n n14, .l (Ty.int IntKind.u8) l15, .n n16, .n n17, .n n18, .n n19, .n n20, .n n21, .l (Ty.int IntKind.u8) l22, .n n23, .n n24, .n n25, .n n26, .n n27, .l (Ty.int IntKind.u8) l28] =>
    (.node (decide (n0 < (2 : Int)))
     (let r1 : Option (Nat × List Dat) := (op_9p [.n n1, .n n2, .n n3, .n n4, .n n5, .l (Ty.pair (Ty.int IntKind.u8) (Ty.int IntKind.i64)) l6]);
      (.node (isK 0 [HK.l (Ty.int IntKind.u8)] r1)
       (let r2 : Option (Nat × List Dat) := (op_10p [.n n7, .n n8, .n n9, .n n10, .n n11]);
        (.node (isK 0 [HK.l (Ty.int IntKind.u8)] r2)
         (let r3 : Option (Nat × List Dat) := (op_11p [.n n12, .n n13, .n n14, .l (Ty.int IntKind.u8) l15, .n n16]);
          (.node (isK 0 [HK.l (Ty.int IntKind.u8)] r3)
           (let r4 : Option (Nat × List Dat) := (op_12p [.n n17, .n n18, .n n19, .n n20, .n n21, .l (Ty.int IntKind.u8) l22, .n n23]);
            (.node (isK 0 [HK.l (Ty.int IntKind.u8)] r4)
             (let r5 : Option (Nat × List Dat) := (op_13p [.n n24, .n n25, .n n26, .n n27, .l (Ty.int IntKind.u8) l28]);
              (.node (isK 0 [HK.l (Ty.int IntKind.u8)] r5)
               (let r6 : Option (Nat × List Dat) := (op_14p [.n n1, .n n2, .n n3, .n n4, .n n5, .l (Ty.pair (Ty.int IntKind.u8) (Ty.int IntKind.i64)) l6]);
                (.node (isK 0 [HK.l (Ty.int IntKind.u8)] r6)
                 (let r7 : Option (Nat × List Dat) := (op_16p [.n n7, .n n8, .n n9, .n n10, .n n11]);
                  (.node (isK 0 [HK.l (Ty.int IntKind.u8)] r7)
                   (let r8 : Option (Nat × List Dat) := (op_18p [.n n12, .n n13, .n n14, .l (Ty.int IntKind.u8) l15, .n n16]);
                    (.node (isK 0 [HK.l (Ty.int IntKind.u8)] r8)
                     (let r9 : Option (Nat × List Dat) := (op_19p [.n n17, .n n18, .n n19, .n n20, .n n21, .l (Ty.int IntKind.u8) l22, .n n23]);
                      (.node (isK 0 [HK.l (Ty.int IntKind.u8)] r9)
                       (let r10 : Option (Nat × List Dat) := (op_21p [.n n24, .n n25, .n n26, .n n27, .s (strOf l28)]);
                        (.node (isK 0 [HK.l (Ty.int IntKind.u8)] r10)
                         (let r11 : Option (Nat × List Dat) := (op_L3_9 (.k 0 :: .n n0 :: .n (0 : Int) :: .n n1 :: .n n2 :: .n n3 :: .n n4 :: .n n5 :: .l (Ty.pair (Ty.int IntKind.u8) (Ty.int IntKind.i64)) l6 :: .n n7 :: .n n8 :: .n n9 :: .n n10 :: .n n11 :: .n n12 :: .n n13 :: .n n14 :: .l (Ty.int IntKind.u8) l15 :: .n n16 :: .n n17 :: .n n18 :: .n n19 :: .n n20 :: .n n21 :: .l (Ty.int IntKind.u8) l22 :: .n n23 :: .n n24 :: .n n25 :: .n n26 :: .n n27 :: .l (Ty.int IntKind.u8) l28 :: .l (Ty.int IntKind.u8) (gl (Ty.int IntKind.u8) (dOf r1) 0) :: .l (Ty.int IntKind.u8) (gl (Ty.int IntKind.u8) (dOf r2) 0) :: .l (Ty.int IntKind.u8) (gl (Ty.int IntKind.u8) (dOf r3) 0) :: .l (Ty.int IntKind.u8) (gl (Ty.int IntKind.u8) (dOf r4) 0) :: .l (Ty.int IntKind.u8) (gl (Ty.int IntKind.u8) (dOf r5) 0) :: .l (Ty.int IntKind.u8) (gl (Ty.int IntKind.u8) (dOf r6) 0) :: .l (Ty.int IntKind.u8) (gl (Ty.int IntKind.u8) (dOf r7) 0) :: .l (Ty.int IntKind.u8) (gl (Ty.int IntKind.u8) (dOf r8) 0) :: .l (Ty.int IntKind.u8) (gl (Ty.int IntKind.u8) (dOf r9) 0) :: .l (Ty.int IntKind.u8) (gl (Ty.int IntKind.u8) (dOf r10) 0) :: []));
                          (.node (isK 0 [HK.n, HK.n, HK.n, HK.n, HK.n, HK.n, HK.l (Ty.pair (Ty.int IntKind.u8) (Ty.int IntKind.i64)), HK.n, HK.n, HK.n, HK.n, HK.n, HK.n, HK.n, HK.n, HK.l (Ty.int IntKind.u8), HK.n, HK.n, HK.n, HK.n, HK.n, HK.n, HK.l (Ty.int IntKind.u8), HK.n, HK.n, HK.n, HK.n, HK.n, HK.l (Ty.int IntKind.u8)] r11)
                           (.leaf (Step.go [.k 0, .n (IntKind.wrap .i64 (gn (dOf r11) 0 + (1 : Int))), .n (gn (dOf r11) 1), .n (gn (dOf r11) 2), .n (gn (dOf r11) 3), .n (gn (dOf r11) 4), .n (gn (dOf r11) 5), .l (Ty.pair (Ty.int IntKind.u8) (Ty.int IntKind.i64)) (gl (Ty.pair (Ty.int IntKind.u8) (Ty.int IntKind.i64)) (dOf r11) 6), .n (gn (dOf r11) 7), .n (gn (dOf r11) 8), .n (gn (dOf r11) 9), .n (gn (dOf r11) 10), .n (gn (dOf r11) 11), .n (gn (dOf r11) 12), .n (gn (dOf r11) 13), .n (gn (dOf r11) 14), .l (Ty.int IntKind.u8) (gl (Ty.int IntKind.u8) (dOf r11) 15), .n (gn (dOf r11) 16), .n (gn (dOf r11) 17), .n (gn (dOf r11) 18), .n (gn (dOf r11) 19), .n (gn (dOf r11) 20), .n (gn (dOf r11) 21), .l (Ty.int IntKind.u8) (gl (Ty.int IntKind.u8) (dOf r11) 22), .n (gn (dOf r11) 23), .n (gn (dOf r11) 24), .n (gn (dOf r11) 25), .n (gn (dOf r11) 26), .n (gn (dOf r11) 27), .l (Ty.int IntKind.u8) (gl (Ty.int IntKind.u8) (dOf r11) 28)]))
                           (.node (isK 1 [HK.b] r11)
                            (.leaf (Step.stop 1 [.b (gb (dOf r11) 0)]))
                            (.bad 351))))
                         (.bad 351)))
                       (.bad 351)))
                     (.bad 351)))
                   (.bad 351)))
                 (.bad 351)))
               (.bad 351)))
             (.bad 351)))
           (.bad 351)))
         (.bad 351)))
       (.bad 351)))
     (.leaf (Step.stop 0 [])))
  | _ => .bad 0
theorem fn_L3_4_t_im (n0 : Int) (n1 : Int) (n2 : Int) (n3 : Int) (n4 : Int) (n5 : Int) (l6 : List (Ty.den (Ty.pair (Ty.int IntKind.u8) (Ty.int IntKind.i64)))) (n7 : Int) (n8 : Int) (n9 : Int) (n10 : Int) (n11 : Int) (n12 : Int) (n13 : Int) (n14 : Int) (l15 : List (Ty.den (Ty.int IntKind.u8))) (n16 : Int) (n17 : Int) (n18 : Int) (n19 : Int) (n20 : Int) (n21 : Int) (l22 : List (Ty.den (Ty.int IntKind.u8))) (n23 : Int) (n24 : Int) (n25 : Int) (n26 : Int) (n27 : Int) (l28 : List (Ty.den (Ty.int IntKind.u8))) (g0 : 0 ≤ n0) (g1 :  l15.length = 64) (g2 :  l22.length = 64) : Imp (fn_L3_4_t [.n n0, .n n1, .n n2, .n n3, .n n4, .n n5, .l (Ty.pair (Ty.int IntKind.u8) (Ty.int IntKind.i64)) l6, .n n7, .n n8, .n n9, .n n10, .n n11, .n n12, .n n13, .n n14, .l (Ty.int IntKind.u8) l15, .n n16, .n n17, .n n18, .n n19, .n n20, .n n21, .l (Ty.int IntKind.u8) l22, .n n23, .n n24, .n n25, .n n26, .n n27, .l (Ty.int IntKind.u8) l28]) (st_L3_4 [.k 0, .n n0, .n n1, .n n2, .n n3, .n n4, .n n5, .l TC l6, .n n7, .n n8, .n n9, .n n10, .n n11, .n n12, .n n13, .n n14, .l TB l15, .n n16, .n n17, .n n18, .n n19, .n n20, .n n21, .l TB l22, .n n23, .n n24, .n n25, .n n26, .n n27, .l TB l28]) :=
(.path [1] (by kernel_rfl)
(.node (by kernel_rfl) (by kernel_rfl) (fun h0 =>
(.node (by kernel_rfl) (by kernel_rfl) (fun h1 =>
(.path [1] (by kernel_rfl)
(.node (by kernel_rfl) (by kernel_rfl) (fun h2 =>
(.path [1] (by kernel_rfl)
(.node (by kernel_rfl) (by kernel_rfl) (fun h3 =>
(.path [1] (by kernel_rfl)
(.node (by kernel_rfl) (by kernel_rfl) (fun h4 =>
(.path [1] (by kernel_rfl)
(.node (by kernel_rfl) (by kernel_rfl) (fun h5 =>
(.path [1,1,1,1] (by kernel_rfl)
(.node (by kernel_rfl) (by kernel_rfl) (fun h6 =>
(.path [1,1,1] (by kernel_rfl)
(.node (by kernel_rfl) (by kernel_rfl) (fun h7 =>
(.path [1] (by kernel_rfl)
(.node (by kernel_rfl) (by kernel_rfl) (fun h8 =>
(.path [1,1,1] (by kernel_rfl)
(.node (by kernel_rfl) (by kernel_rfl) (fun h9 =>
(.path [1,1,1] (by kernel_rfl)
(.node (by kernel_rfl) (by kernel_rfl) (fun h10 =>
(.path [1,1] (by kernel_rfl)
(.node (by kernel_rfl) (by kernel_rfl) (fun h11 =>
(.path [1] (by kernel_rfl)
(.leaf (by kernel_rfl)))) (fun h11 =>
(.node (by kernel_rfl) (by kernel_rfl) (fun h12 =>
(.path [1] (by kernel_rfl)
(.leaf (by kernel_rfl)))) (fun h12 =>
.none)))))) (fun h10 =>
.none)))) (fun h9 =>
.none)))) (fun h8 =>
.none)))) (fun h7 =>
.none)))) (fun h6 =>
.none)))) (fun h5 =>
.none)))) (fun h4 =>
.none)))) (fun h3 =>
.none)))) (fun h2 =>
.none)))) (fun h1 =>
.none))) (fun h0 =>
(.path [1] (by kernel_rfl)
(.leaf (by kernel_rfl))))))

theorem ls_3_ok : LsOk Try.prog (0) (lsM [(4, L3_4)] (0)) (bodyOf Try.prog 3) := LsOk.many fun j B hB hk c hc hi => by
  simp only [lookM] at hB
  split at hB
  · rename_i e; have := Nat.eq_of_beq_eq_true e; subst this; cases hB
    have e1 : loopAt Try.prog 3 4 = [cAt Try.prog 3 4] := loopAt_one (by kernel_rfl)
    have e2 : c ∈ loopAt Try.prog 3 4 := loopsAt_mem hc hi
    rw [e1] at e2; cases List.mem_singleton.1 e2; exact L3_4_run
  cases hB

noncomputable def ev_W3 (env : List Dat) : Tree Bool := Lk.lawB false LK cs_21p 3 (lsM [(4, L3_4)] (0)) (instL [inV 0, ouV 6, stV 11, loV 16, liV 23] env)

theorem W3_law (env : List Dat) (h : (ev_W3 env).sel = some true) {w : World} {args : Array Value} (ha : LRel R0 (snapOf w) (instL [inV 0, ouV 6, stV 11, loV 16, liV 23] env) args) :
    Calls Try.prog 3 args w fun e w' => e = .returned (.bool true) ∧ Below w.heap.size w w' :=
  lawB_ok cs_21p_ok hmix false (ls := (lsM [(4, L3_4)] (0))) (ls_3_ok) (by rw [← lawB_lk]; exact h) ha

noncomputable def fn_W3_t : List Dat → Tree Bool
  | [.n n0, .n n1, .n n2, .n n3, .n n4, .l (Ty.pair (Ty.int IntKind.u8) (Ty.int IntKind.i64)) l5, .n n6, .n n7, .n n8, .n n9, .n n10, .n n11, .n n12, .n n13, .l (Ty.int IntKind.u8) l14, .n n15, .n n16, .n n17, .n n18, .n n19, .n n20, .l (Ty.int IntKind.u8) l21, .n n22, .n n23, .n n24, .n n25, .n n26, .l (Ty.int IntKind.u8) l27] =>
    (.node (decide ((↑(List.length l5) : Int) ≤ (1000 : Int)))
     (.node (!decide ((↑(List.length l27) : Int) ≤ (5000 : Int)))
      (.leaf (true))
      (let r1 : Option (Nat × List Dat) := (op_L3_4 [.k 0, .n (0 : Int), .n n0, .n n1, .n n2, .n n3, .n n4, .l (Ty.pair (Ty.int IntKind.u8) (Ty.int IntKind.i64)) l5, .n n6, .n n7, .n n8, .n n9, .n n10, .n n11, .n n12, .n n13, .l (Ty.int IntKind.u8) l14, .n n15, .n n16, .n n17, .n n18, .n n19, .n n20, .l (Ty.int IntKind.u8) l21, .n n22, .n n23, .n n24, .n n25, .n n26, .l (Ty.int IntKind.u8) l27]);
       (.node (isK 0 [] r1)
        (.leaf (true))
        (.node (isK 1 [HK.b] r1)
         (.leaf (gb (dOf r1) 0))
         (.bad 351)))))
     (.leaf (true)))
  | _ => .bad 0
theorem fn_W3_t_im (n0 : Int) (n1 : Int) (n2 : Int) (n3 : Int) (n4 : Int) (l5 : List (Ty.den (Ty.pair (Ty.int IntKind.u8) (Ty.int IntKind.i64)))) (n6 : Int) (n7 : Int) (n8 : Int) (n9 : Int) (n10 : Int) (n11 : Int) (n12 : Int) (n13 : Int) (l14 : List (Ty.den (Ty.int IntKind.u8))) (n15 : Int) (n16 : Int) (n17 : Int) (n18 : Int) (n19 : Int) (n20 : Int) (l21 : List (Ty.den (Ty.int IntKind.u8))) (n22 : Int) (n23 : Int) (n24 : Int) (n25 : Int) (n26 : Int) (l27 : List (Ty.den (Ty.int IntKind.u8))) (g0 : l14.length = 64) (g1 :  l21.length = 64) : Imp (fn_W3_t [.n n0, .n n1, .n n2, .n n3, .n n4, .l (Ty.pair (Ty.int IntKind.u8) (Ty.int IntKind.i64)) l5, .n n6, .n n7, .n n8, .n n9, .n n10, .n n11, .n n12, .n n13, .l (Ty.int IntKind.u8) l14, .n n15, .n n16, .n n17, .n n18, .n n19, .n n20, .l (Ty.int IntKind.u8) l21, .n n22, .n n23, .n n24, .n n25, .n n26, .l (Ty.int IntKind.u8) l27]) (ev_W3 [.n n0, .n n1, .n n2, .n n3, .n n4, .l TC l5, .n n6, .n n7, .n n8, .n n9, .n n10, .n n11, .n n12, .n n13, .l TB l14, .n n15, .n n16, .n n17, .n n18, .n n19, .n n20, .l TB l21, .n n22, .n n23, .n n24, .n n25, .n n26, .l TB l27]) :=
(.path [1] (by kernel_rfl)
(.node (by kernel_rfl) (by kernel_rfl) (fun h0 =>
(.path [1] (by kernel_rfl)
(.node (by kernel_rfl) (by kernel_rfl) (fun h1 =>
(.path [1,1,1] (by kernel_rfl)
(.leaf (by kernel_rfl)))) (fun h1 =>
(.node (by kernel_rfl) (by kernel_rfl) (fun h2 =>
(.path [1,1,1] (by kernel_rfl)
(.leaf (by kernel_rfl)))) (fun h2 =>
(.node (by kernel_rfl) (by kernel_rfl) (fun h3 =>
(.leaf (by kernel_rfl))) (fun h3 =>
.none)))))))) (fun h0 =>
(.path [0,1,1,1,1,1] (by kernel_rfl)
(.leaf (by kernel_rfl))))))
end Go.Proofs.Ytlambinleegdoaa.Vx
