import Derived.Test.YtdaabhpeedekaaaVxNil
import Derived.Test.YtdaabhpeedekaaaProg
import Derived.KernelRfl
import Derived.Test.YtdaabhpeedekaaaVxIm
import Derived.Test.YtdaabhpeedekaaaVxLk
import Derived.Test.YtdaabhpeedekaaaVxLaw
namespace Go.Proofs.Ytdaabhpeedekaaa.Vx
open Go Go.RowKit
set_option linter.unusedVariables false
set_option linter.unusedSimpArgs false
set_option maxRecDepth 100000
set_option maxHeartbeats 0

abbrev TB : Ty := .int .u8
abbrev TN : Ty := .int .u32
theorem hmix : Try.prog.follows .mixedOrders = true := by kernel_rfl
theorem csNone_ok0 : CsOk Try.prog csNone := csNone_ok _

def fn_19 : List Dat → Tree (Nat × List Dat)
  | [.n n0] =>
    (.node (iand IntKind.u32 n0 (1 : Int) == (0 : Int))
     (.leaf ((0, [.n (ishr IntKind.u32 n0 (1 : Int))])))
     (.leaf ((0, [.n (ixor IntKind.u32 (ishr IntKind.u32 n0 (1 : Int)) (3988292384 : Int))]))))
  | _ => .bad 0
def op_19 : List Dat → Option (Nat × List Dat) := fun env => (fn_19 env).sel
def B19 : FBox := (mkF [.int .u32 0] [] [] [(.int .u32 0, [])] op_19)
def cs_19 : FuncId → Option CSpec := csLend 93 B19 csNone
theorem fn_19_eq (n0 : Int) : (boxC false Try.prog csNone 93 ls0 (mkF [.int .u32 0] [] [] [(.int .u32 0, [])] fun _ => none) [.n n0]).sel = (fn_19 [.n n0]).sel := by kernel_rfl
theorem fn_19_ok (env : List Dat) (y : Nat × List Dat) (h : (fn_19 env).sel = some y) : (boxC false Try.prog csNone 93 ls0 (mkF [.int .u32 0] [] [] [(.int .u32 0, [])] fun _ => none) env).sel = some y := by
  unfold fn_19 at h
  split at h
  · rw [fn_19_eq]; exact h
  · cases h
theorem B19_ok : RunOk Try.prog 93 (boxRun B19) := mkF_ok (op := op_19) csNone_ok0 hmix false (LsOk.none _ _ _) fn_19_ok
theorem cs_19_ok : CsOk Try.prog cs_19 := csLend_ok csNone_ok0 B19_ok

def fn_L12_3 : List Dat → Tree Step
  | [.n n0, .l (Ty.int IntKind.u8) l1, .n n2, .n n3] =>
    (.node (decide (n3 < n2))
     (.node (inR n3 (List.length l1))
      (let r1 : Option (Nat × List Dat) := (op_19 [.n (ixor IntKind.u32 n0 (IntKind.wrap .u32 (List.getD l1 (Int.toNat n3) (0 : Int))))]);
       (.node (isK 0 [HK.n] r1)
        (let r2 : Option (Nat × List Dat) := (op_19 [.n (gn (dOf r1) 0)]);
         (.node (isK 0 [HK.n] r2)
          (let r3 : Option (Nat × List Dat) := (op_19 [.n (gn (dOf r2) 0)]);
           (.node (isK 0 [HK.n] r3)
            (let r4 : Option (Nat × List Dat) := (op_19 [.n (gn (dOf r3) 0)]);
             (.node (isK 0 [HK.n] r4)
              (let r5 : Option (Nat × List Dat) := (op_19 [.n (gn (dOf r4) 0)]);
               (.node (isK 0 [HK.n] r5)
                (let r6 : Option (Nat × List Dat) := (op_19 [.n (gn (dOf r5) 0)]);
                 (.node (isK 0 [HK.n] r6)
                  (let r7 : Option (Nat × List Dat) := (op_19 [.n (gn (dOf r6) 0)]);
                   (.node (isK 0 [HK.n] r7)
                    (let r8 : Option (Nat × List Dat) := (op_19 [.n (gn (dOf r7) 0)]);
                     (.node (isK 0 [HK.n] r8)
                      (.leaf (Step.go [.n (gn (dOf r8) 0), .l (Ty.int IntKind.u8) l1, .n n2, .n (IntKind.wrap .i64 (n3 + (1 : Int)))]))
                      (.bad 351)))
                    (.bad 351)))
                  (.bad 351)))
                (.bad 351)))
              (.bad 351)))
            (.bad 351)))
          (.bad 351)))
        (.bad 351)))
      (.bad 10))
     (.leaf (Step.stop 0 [.n n0])))
  | _ => .bad 0
def op_L12_3 : List Dat → Option (Nat × List Dat) := iterS fn_L12_3 FU
def L12_3 : LBox := (mkL 0 [] (sh 20 [(3, .int .u32 0), (6, .imm TB 1), (7, .int .i64 2), (8, .int .i64 3)]) [] [] [(.exit 0, sh 20 [(3, .int .u32 0)], [])] op_L12_3)
theorem fn_L12_3_eq (n0 : Int) (l1 : List (Ty.den (Ty.int IntKind.u8))) (n2 : Int) (n3 : Int) : (stepC false Try.prog cs_19 87 3 ls0 (mkL 0 [] (sh 20 [(3, .int .u32 0), (6, .imm TB 1), (7, .int .i64 2), (8, .int .i64 3)]) [] [] [(.exit 0, sh 20 [(3, .int .u32 0)], [])] fun _ => none) [.n n0, .l (Ty.int IntKind.u8) l1, .n n2, .n n3]).sel = (fn_L12_3 [.n n0, .l (Ty.int IntKind.u8) l1, .n n2, .n n3]).sel := by kernel_rfl
theorem fn_L12_3_ok (env : List Dat) (y : Step) (h : (fn_L12_3 env).sel = some y) : (stepC false Try.prog cs_19 87 3 ls0 (mkL 0 [] (sh 20 [(3, .int .u32 0), (6, .imm TB 1), (7, .int .i64 2), (8, .int .i64 3)]) [] [] [(.exit 0, sh 20 [(3, .int .u32 0)], [])] fun _ => none) env).sel = some y := by
  unfold fn_L12_3 at h
  split at h
  · rw [fn_L12_3_eq]; exact h
  · cases h
theorem L12_3_ok (K : Nat) : LsOk Try.prog K (lsTab [(3, L12_3)] K) (bodyOf Try.prog 87) := mkL_ok (st := fn_L12_3) (m := FU) cs_19_ok hmix false (by kernel_rfl) (by kernel_rfl) fn_L12_3_ok
theorem L12_3_run : ∀ t s x, (loopRun L12_3 t s).sel = some x → CodeOk Try.prog 0 (.loop (cAt Try.prog 87 3)) t s x := mkLs_ok (st := fn_L12_3) (m := FU) cs_19_ok hmix false (LsOk.none _ _ _) (by kernel_rfl) fn_L12_3_ok

def fn_12 : List Dat → Tree (Nat × List Dat)
  | [.l (Ty.int IntKind.u8) l0] =>
    (let r1 : Option (Nat × List Dat) := (op_L12_3 [.n (4294967295 : Int), .l (Ty.int IntKind.u8) l0, .n (↑(List.length l0) : Int), .n (0 : Int)]);
     (.node (isK 0 [HK.n] r1)
      (.leaf ((0, [.n (ixor IntKind.u32 (4294967295 : Int) (gn (dOf r1) 0))])))
      (.bad 351)))
  | _ => .bad 0
def op_12 : List Dat → Option (Nat × List Dat) := fun env => (fn_12 env).sel
def B12 : FBox := (mkF [.imm TB 0] [] [] [(.int .u32 0, [])] op_12)
def cs_12 : FuncId → Option CSpec := csLend 87 B12 cs_19
theorem fn_12_eq (l0 : List (Ty.den (Ty.int IntKind.u8))) : (boxC false Try.prog cs_19 87 (lsTab [(3, L12_3)] (List.length ([] : List PB))) (mkF [.imm TB 0] [] [] [(.int .u32 0, [])] fun _ => none) [.l (Ty.int IntKind.u8) l0]).sel = (fn_12 [.l (Ty.int IntKind.u8) l0]).sel := by kernel_rfl
theorem fn_12_ok (env : List Dat) (y : Nat × List Dat) (h : (fn_12 env).sel = some y) : (boxC false Try.prog cs_19 87 (lsTab [(3, L12_3)] (List.length ([] : List PB))) (mkF [.imm TB 0] [] [] [(.int .u32 0, [])] fun _ => none) env).sel = some y := by
  unfold fn_12 at h
  split at h
  · rw [fn_12_eq]; exact h
  · cases h
theorem B12_ok : RunOk Try.prog 87 (boxRun B12) := mkF_ok (op := op_12) cs_19_ok hmix false (L12_3_ok _) fn_12_ok
theorem cs_12_ok : CsOk Try.prog cs_12 := csLend_ok cs_19_ok B12_ok

def fn_L20_8_0 : List Dat → Tree Step
  | [.n n0, .l (Ty.int IntKind.u8) l1, .n n2, .n n3, .n n4, .l (Ty.int IntKind.u32) l5] =>
    (.node (decide (n4 < (8 : Int)))
     (.node (!decide (n4 < (0 : Int)))
      (.node (iand IntKind.u8 (ishr IntKind.u8 n3 n4) (1 : Int) == (1 : Int))
       (.node (inR n4 (List.length l5))
        (.leaf (Step.go [.k 0, .n (ixor IntKind.u32 n0 (List.getD l5 (Int.toNat n4) (0 : Int))), .l (Ty.int IntKind.u8) l1, .n n2, .n n3, .n (IntKind.wrap .i64 (n4 + (1 : Int))), .l (Ty.int IntKind.u32) l5]))
        (.bad 12))
       (.leaf (Step.go [.k 0, .n n0, .l (Ty.int IntKind.u8) l1, .n n2, .n n3, .n (IntKind.wrap .i64 (n4 + (1 : Int))), .l (Ty.int IntKind.u32) l5])))
      (.bad 83))
     (.leaf (Step.stop 0 [.n n0, .l (Ty.int IntKind.u8) l1, .n n2, .l (Ty.int IntKind.u32) l5])))
  | _ => .bad 0
def fn_L20_8 : List Dat → Tree Step
  | .k 0 :: d => fn_L20_8_0 d
  | _ => .bad 0
def op_L20_8 : List Dat → Option (Nat × List Dat) := iterS fn_L20_8 FU
def L20_8 : MBox := (mkM 0 [] [(sh 41 [(0, .int .u32 0), (1, .imm TB 1), (5, .own 0), (6, .int .i64 2), (7, .int .u8 3), (8, .int .i64 4)], [.arr TN 5])] [] [(.exit 2, sh 41 [(0, .int .u32 0), (1, .imm TB 1), (5, .own 0), (6, .int .i64 2)], [.arr TN 3])] op_L20_8)
theorem fn_L20_8_0_eq (n0 : Int) (l1 : List (Ty.den (Ty.int IntKind.u8))) (n2 : Int) (n3 : Int) (n4 : Int) (l5 : List (Ty.den (Ty.int IntKind.u32))) : ((fun (d : List Dat) => stepMC false Try.prog cs_12 91 8 ls0 (mkM 0 [] [(sh 41 [(0, .int .u32 0), (1, .imm TB 1), (5, .own 0), (6, .int .i64 2), (7, .int .u8 3), (8, .int .i64 4)], [.arr TN 5])] [] [(.exit 2, sh 41 [(0, .int .u32 0), (1, .imm TB 1), (5, .own 0), (6, .int .i64 2)], [.arr TN 3])] fun _ => none) (.k 0 :: d)) [.n n0, .l (Ty.int IntKind.u8) l1, .n n2, .n n3, .n n4, .l (Ty.int IntKind.u32) l5]).sel = (fn_L20_8_0 [.n n0, .l (Ty.int IntKind.u8) l1, .n n2, .n n3, .n n4, .l (Ty.int IntKind.u32) l5]).sel := by kernel_rfl
theorem fn_L20_8_0_ok (env : List Dat) (y : Step) (h : (fn_L20_8_0 env).sel = some y) : ((fun (d : List Dat) => stepMC false Try.prog cs_12 91 8 ls0 (mkM 0 [] [(sh 41 [(0, .int .u32 0), (1, .imm TB 1), (5, .own 0), (6, .int .i64 2), (7, .int .u8 3), (8, .int .i64 4)], [.arr TN 5])] [] [(.exit 2, sh 41 [(0, .int .u32 0), (1, .imm TB 1), (5, .own 0), (6, .int .i64 2)], [.arr TN 3])] fun _ => none) (.k 0 :: d)) env).sel = some y := by
  unfold fn_L20_8_0 at h
  split at h
  · rw [fn_L20_8_0_eq]; exact h
  · cases h
theorem fn_L20_8_ok (env : List Dat) (y : Step) (h : (fn_L20_8 env).sel = some y) : (stepMC false Try.prog cs_12 91 8 ls0 (mkM 0 [] [(sh 41 [(0, .int .u32 0), (1, .imm TB 1), (5, .own 0), (6, .int .i64 2), (7, .int .u8 3), (8, .int .i64 4)], [.arr TN 5])] [] [(.exit 2, sh 41 [(0, .int .u32 0), (1, .imm TB 1), (5, .own 0), (6, .int .i64 2)], [.arr TN 3])] fun _ => none) env).sel = some y := by
  unfold fn_L20_8 at h
  split at h
  · exact fn_L20_8_0_ok _ _ h
  · cases h
theorem L20_8_run : ∀ t s x, (manyRun L20_8 t s).sel = some x → CodeOk Try.prog 0 (.loop (cAt Try.prog 91 8)) t s x := mkM_ok (st := fn_L20_8) (m := FU) cs_12_ok hmix false (LsOk.none _ _ _) (by kernel_rfl) fn_L20_8_ok

def fn_L20_3_0 : List Dat → Tree Step
  | [.n n0, .l (Ty.int IntKind.u8) l1, .n n2, .l (Ty.int IntKind.u32) l3] =>
    (.node (decide (n2 < (↑(List.length l1) : Int)))
     (.node (inR n2 (List.length l1))
      (let r1 : Option (Nat × List Dat) := (op_L20_8 [.k 0, .n (ishr IntKind.u32 n0 (8 : Int)), .l (Ty.int IntKind.u8) l1, .n n2, .n (ixor IntKind.u8 (IntKind.wrap .u8 n0) (List.getD l1 (Int.toNat n2) (0 : Int))), .n (0 : Int), .l (Ty.int IntKind.u32) l3]);
       (.node (isK 0 [HK.n, HK.l (Ty.int IntKind.u8), HK.n, HK.l (Ty.int IntKind.u32)] r1)
        (.leaf (Step.go [.k 0, .n (gn (dOf r1) 0), .l (Ty.int IntKind.u8) (gl (Ty.int IntKind.u8) (dOf r1) 1), .n (IntKind.wrap .i64 (gn (dOf r1) 2 + (1 : Int))), .l (Ty.int IntKind.u32) (gl (Ty.int IntKind.u32) (dOf r1) 3)]))
        (.bad 351)))
      (.bad 10))
     (.leaf (Step.stop 0 [.n n0])))
  | _ => .bad 0
def fn_L20_3 : List Dat → Tree Step
  | .k 0 :: d => fn_L20_3_0 d
  | _ => .bad 0
def op_L20_3 : List Dat → Option (Nat × List Dat) := iterS fn_L20_3 FU
def L20_3 : MBox := (mkM 0 [] [(sh 41 [(0, .int .u32 0), (1, .imm TB 1), (5, .own 0), (6, .int .i64 2)], [.arr TN 3])] [] [(.exit 0, sh 41 [(0, .int .u32 0)], [])] op_L20_3)
theorem fn_L20_3_0_eq (n0 : Int) (l1 : List (Ty.den (Ty.int IntKind.u8))) (n2 : Int) (l3 : List (Ty.den (Ty.int IntKind.u32))) : ((fun (d : List Dat) => stepMC false Try.prog cs_12 91 3 (lsM [(8, L20_8)] 0) (mkM 0 [] [(sh 41 [(0, .int .u32 0), (1, .imm TB 1), (5, .own 0), (6, .int .i64 2)], [.arr TN 3])] [] [(.exit 0, sh 41 [(0, .int .u32 0)], [])] fun _ => none) (.k 0 :: d)) [.n n0, .l (Ty.int IntKind.u8) l1, .n n2, .l (Ty.int IntKind.u32) l3]).sel = (fn_L20_3_0 [.n n0, .l (Ty.int IntKind.u8) l1, .n n2, .l (Ty.int IntKind.u32) l3]).sel := by kernel_rfl
theorem fn_L20_3_0_ok (env : List Dat) (y : Step) (h : (fn_L20_3_0 env).sel = some y) : ((fun (d : List Dat) => stepMC false Try.prog cs_12 91 3 (lsM [(8, L20_8)] 0) (mkM 0 [] [(sh 41 [(0, .int .u32 0), (1, .imm TB 1), (5, .own 0), (6, .int .i64 2)], [.arr TN 3])] [] [(.exit 0, sh 41 [(0, .int .u32 0)], [])] fun _ => none) (.k 0 :: d)) env).sel = some y := by
  unfold fn_L20_3_0 at h
  split at h
  · rw [fn_L20_3_0_eq]; exact h
  · cases h
theorem fn_L20_3_ok (env : List Dat) (y : Step) (h : (fn_L20_3 env).sel = some y) : (stepMC false Try.prog cs_12 91 3 (lsM [(8, L20_8)] 0) (mkM 0 [] [(sh 41 [(0, .int .u32 0), (1, .imm TB 1), (5, .own 0), (6, .int .i64 2)], [.arr TN 3])] [] [(.exit 0, sh 41 [(0, .int .u32 0)], [])] fun _ => none) env).sel = some y := by
  unfold fn_L20_3 at h
  split at h
  · exact fn_L20_3_0_ok _ _ h
  · cases h
theorem L20_3_in : LsOk Try.prog 0 (lsM [(8, L20_8)] 0) (cAt Try.prog 91 3) := LsOk.many fun j B hB hk c hc hi => by
  simp only [lookM] at hB
  split at hB
  · rename_i e; have := Nat.eq_of_beq_eq_true e; subst this; cases hB
    have e1 : loopsAt (cAt Try.prog 91 3) 8 = [cAt Try.prog 91 8] := by kernel_rfl
    have e2 := loopsAt_mem hc hi
    rw [e1] at e2; cases List.mem_singleton.1 e2; exact L20_8_run
  cases hB
theorem L20_3_run : ∀ t s x, (manyRun L20_3 t s).sel = some x → CodeOk Try.prog 0 (.loop (cAt Try.prog 91 3)) t s x := mkM_ok (st := fn_L20_3) (m := FU) cs_12_ok hmix false (L20_3_in) (by kernel_rfl) fn_L20_3_ok

theorem ls_20_ok : LsOk Try.prog (List.length ([] : List PB)) (lsM [(3, L20_3)] (List.length ([] : List PB))) (bodyOf Try.prog 91) := LsOk.many fun j B hB hk c hc hi => by
  simp only [lookM] at hB
  split at hB
  · rename_i e; have := Nat.eq_of_beq_eq_true e; subst this; cases hB
    have e1 : loopAt Try.prog 91 3 = [cAt Try.prog 91 3] := loopAt_one (by kernel_rfl)
    have e2 : c ∈ loopAt Try.prog 91 3 := loopsAt_mem hc hi
    rw [e1] at e2; cases List.mem_singleton.1 e2; exact L20_3_run
  cases hB

def fn_20 : List Dat → Tree (Nat × List Dat)
  | [.n n0, .l (Ty.int IntKind.u8) l1] =>
    (let r1 : Option (Nat × List Dat) := (op_L20_3 [.k 0, .n n0, .l (Ty.int IntKind.u8) l1, .n (0 : Int), .l (Ty.int IntKind.u32) [(1996959894 : Int), (3993919788 : Int), (124634137 : Int), (249268274 : Int), (498536548 : Int), (997073096 : Int), (1994146192 : Int), (3988292384 : Int)]]);
     (.node (isK 0 [HK.n] r1)
      (.leaf ((0, [.n (gn (dOf r1) 0)])))
      (.bad 351)))
  | _ => .bad 0
def op_20 : List Dat → Option (Nat × List Dat) := fun env => (fn_20 env).sel
def B20 : FBox := (mkF [.int .u32 0, .imm TB 1] [] [] [(.int .u32 0, [])] op_20)
def cs_20 : FuncId → Option CSpec := csLend 91 B20 cs_12
theorem fn_20_eq (n0 : Int) (l1 : List (Ty.den (Ty.int IntKind.u8))) : (boxC false Try.prog cs_12 91 (lsM [(3, L20_3)] (List.length ([] : List PB))) (mkF [.int .u32 0, .imm TB 1] [] [] [(.int .u32 0, [])] fun _ => none) [.n n0, .l (Ty.int IntKind.u8) l1]).sel = (fn_20 [.n n0, .l (Ty.int IntKind.u8) l1]).sel := by kernel_rfl
theorem fn_20_ok (env : List Dat) (y : Nat × List Dat) (h : (fn_20 env).sel = some y) : (boxC false Try.prog cs_12 91 (lsM [(3, L20_3)] (List.length ([] : List PB))) (mkF [.int .u32 0, .imm TB 1] [] [] [(.int .u32 0, [])] fun _ => none) env).sel = some y := by
  unfold fn_20 at h
  split at h
  · rw [fn_20_eq]; exact h
  · cases h
theorem B20_ok : RunOk Try.prog 91 (boxRun B20) := mkF_ok (op := op_20) cs_12_ok hmix false (ls_20_ok) fn_20_ok
theorem cs_20_ok : CsOk Try.prog cs_20 := csLend_ok cs_12_ok B20_ok

def fn_13 : List Dat → Tree (Nat × List Dat)
  | [.l (Ty.int IntKind.u8) l0] =>
    (let r1 : Option (Nat × List Dat) := (op_20 [.n (4294967295 : Int), .l (Ty.int IntKind.u8) l0]);
     (.node (isK 0 [HK.n] r1)
      (.leaf ((0, [.n (ixor IntKind.u32 (4294967295 : Int) (gn (dOf r1) 0))])))
      (.bad 351)))
  | _ => .bad 0
def op_13 : List Dat → Option (Nat × List Dat) := fun env => (fn_13 env).sel
def B13 : FBox := (mkF [.imm TB 0] [] [] [(.int .u32 0, [])] op_13)
def cs_13 : FuncId → Option CSpec := csLend 85 B13 cs_20
theorem fn_13_eq (l0 : List (Ty.den (Ty.int IntKind.u8))) : (boxC false Try.prog cs_20 85 ls0 (mkF [.imm TB 0] [] [] [(.int .u32 0, [])] fun _ => none) [.l (Ty.int IntKind.u8) l0]).sel = (fn_13 [.l (Ty.int IntKind.u8) l0]).sel := by kernel_rfl
theorem fn_13_ok (env : List Dat) (y : Nat × List Dat) (h : (fn_13 env).sel = some y) : (boxC false Try.prog cs_20 85 ls0 (mkF [.imm TB 0] [] [] [(.int .u32 0, [])] fun _ => none) env).sel = some y := by
  unfold fn_13 at h
  split at h
  · rw [fn_13_eq]; exact h
  · cases h
theorem B13_ok : RunOk Try.prog 85 (boxRun B13) := mkF_ok (op := op_13) cs_20_ok hmix false (LsOk.none _ _ _) fn_13_ok
theorem cs_13_ok : CsOk Try.prog cs_13 := csLend_ok cs_20_ok B13_ok

def okc_31 (l : List (Ty.den TB)) : Bool := decide ((0 + l.length) * 1 ≤ 140737488355328)
def op_31 : List Dat → Option (Nat × List Dat) := cloneOp TB okc_31
def B31 : FBox := mkF [.imm TB 0] [] [] [(.own 0, [.arr TB 0])] op_31
def cs_31 : FuncId → Option CSpec := csLend 46 B31 cs_13
theorem B31_ok : RunOk Try.prog 46 (boxRun B31) :=
  clone_ok (P := Try.prog) (cl := clMd true Try.prog csNone) (clMd_ok csNone_ok0 hmix true) hmix (T := 32) (e := 5) (n := 400) (fn := Try.f46) (by kernel_rfl) (by kernel_rfl) (by kernel_rfl) (by kernel_rfl) TB okc_31
    (fun l => [.imm TB l, .undef, .nilsl, .undef, .undef, .undef, .undef, .undef]) (fun l => [.imm TB l, .undef, .nilsl, .imm TB l, .bool true, .undef, .undef, .undef])
    (fun l => [.imm TB l, .undef, .own 0 1, .imm TB l, .bool false, .own 0 0, .imm TB l, .own 0 1]) (fun l => ⟨[.arr TB 1 l], [0]⟩) (fun l => .own 0 1)
    (fun l => by kernel_rfl) (fun l => rfl) (fun l => rfl) (fun l => by kernel_rfl) (fun l => by kernel_rfl) (fun l => by kernel_rfl) (fun l => by kernel_rfl) (fun l => by kernel_rfl) (fun l => by kernel_rfl) (by kernel_rfl)
theorem cs_31_ok : CsOk Try.prog cs_31 := csLend_ok cs_13_ok B31_ok
theorem op_31_is (l : List (Ty.den TB)) (h : l.length * 1 ≤ 140737488355328) : op_31 [.l TB l] = some (0, [.l TB l]) := by
  unfold op_31 cloneOp
  simp only [castL_self]
  have : okc_31 l = true := decide_eq_true (by omega)
  rw [this]; rfl

def op_9 : List Dat → Option (Nat × List Dat) := fun _ => some (0, [.b true])
def B9 : FBox := (mkF [] [] [] [(.bool 0, [])] op_9)
def cs_9 : FuncId → Option CSpec := csAdd 4 [B9] cs_31
theorem fn_9_ok (env : List Dat) (y : Nat × List Dat) (h : op_9 env = some y) : (boxC true Try.prog cs_31 4 ls0 (mkF [] [] [] [(.bool 0, [])] fun _ => none) env).sel = some y := by
  cases h
  kernel_rfl
theorem B9_ok : RunOk Try.prog 4 (boxRun B9) := mkF_ok (op := op_9) cs_31_ok hmix true (LsOk.none _ _ _) fn_9_ok
theorem cs_9_ok : CsOk Try.prog cs_9 := csAdd_ok cs_31_ok fun B hB => by
  cases List.mem_singleton.1 hB
  exact B9_ok
end Go.Proofs.Ytdaabhpeedekaaa.Vx
namespace Go.Proofs.Ytdaabhpeedekaaa.Vx
open Go Go.RowKit
set_option linter.unusedVariables false
set_option linter.unusedSimpArgs false
theorem opq_ex (f : List Dat → Option (Nat × List Dat)) : ∃ g : List Dat → Option (Nat × List Dat), ∀ e, g e = f e := ⟨f, fun _ => rfl⟩
noncomputable def op_q12 : List Dat → Option (Nat × List Dat) := Classical.choose (opq_ex op_12)
theorem op_q12_eq (e : List Dat) : op_q12 e = op_12 e := Classical.choose_spec (opq_ex op_12) e
noncomputable def Bq12 : FBox := mkF [.imm TB 0] [] [] [(.int .u32 0, [])] op_q12
theorem Bq12_ok : RunOk Try.prog 87 (boxRun Bq12) := by
  have h : op_q12 = op_12 := funext op_q12_eq
  unfold Bq12
  rw [h]
  exact B12_ok
noncomputable def cs_q12 : FuncId → Option CSpec := csLend 87 Bq12 cs_9
theorem cs_q12_ok : CsOk Try.prog cs_q12 := csLend_ok cs_9_ok Bq12_ok
noncomputable def op_q13 : List Dat → Option (Nat × List Dat) := Classical.choose (opq_ex op_13)
theorem op_q13_eq (e : List Dat) : op_q13 e = op_13 e := Classical.choose_spec (opq_ex op_13) e
noncomputable def Bq13 : FBox := mkF [.imm TB 0] [] [] [(.int .u32 0, [])] op_q13
theorem Bq13_ok : RunOk Try.prog 85 (boxRun Bq13) := by
  have h : op_q13 = op_13 := funext op_q13_eq
  unfold Bq13
  rw [h]
  exact B13_ok
noncomputable def cs_q13 : FuncId → Option CSpec := csLend 85 Bq13 cs_q12
theorem cs_q13_ok : CsOk Try.prog cs_q13 := csLend_ok cs_q12_ok Bq13_ok
end Go.Proofs.Ytdaabhpeedekaaa.Vx
namespace Go.Proofs.Ytdaabhpeedekaaa.Vx
open Go Go.RowKit
set_option linter.unusedVariables false
set_option linter.unusedSimpArgs false
set_option maxRecDepth 100000
set_option maxHeartbeats 0

theorem Imp.nd {α : Type} {T E x : Tree α} {c : Bool} (a : c = true → Imp T x.th) (b : c = false → Imp E x.el) (h : x.isNode = true := by kernel_rfl) (e : x.cd = c := by kernel_rfl) : Imp (.node c T E) x := .node h e a b
theorem Imp.lf {α : Type} {x : Tree α} {y : α} (h : x.sel = some y := by kernel_rfl) : Imp (.leaf y) x := .leaf h
theorem Imp.pa {α : Type} {T x : Tree α} (l : List Nat) (a : Imp T (x.walk l)) (h : x.okPath l = true := by kernel_rfl) : Imp T x := .path l h a
theorem Imp.sT {α : Type} {T x : Tree α} (c : Bool) (a : Imp T x.th) (h : x.isNode = true := by kernel_rfl) (e : x.cd = c := by kernel_rfl) (k : c = true := by simp [*]) : Imp T x := .pt h e k a
theorem Imp.sF {α : Type} {T x : Tree α} (c : Bool) (a : Imp T x.el) (h : x.isNode = true := by kernel_rfl) (e : x.cd = c := by kernel_rfl) (k : c = false := by simp [*]) : Imp T x := .pf h e k a
abbrev ExB (ev : List Dat → Tree (Nat × List Dat)) : Prop := ∃ f : List Dat → Option (Nat × List Dat), ∀ env, f env = (ev env).sel
theorem exB (ev : List Dat → Tree (Nat × List Dat)) : ExB ev := ⟨fun env => (ev env).sel, fun _ => rfl⟩
abbrev ExL (st : List Dat → Tree Step) : Prop := ∃ f : List Dat → Option (Nat × List Dat), ∀ env, f env = iterS st FU env
theorem exL (st : List Dat → Tree Step) : ExL st := ⟨iterS st FU, fun _ => rfl⟩
abbrev TI : Ty := .int .i64
abbrev TL : Ty := .int .u64
abbrev TTm : Ty := .pair (.int .i64) (.int .u8)
def wrN : PB := .cells [.nilsl]
def wrO (b : Nat) : PB := .cells [.own b]
def rdB (h : Nat) : PB := .cells [.imm TB h, .bool (h+1)]
def stV (h : Nat) : PV := .agg [.int .u64 h, .int .u64 (h+1), .int .u64 (h+2), .arrd TB 64 (h+3), .int .u32 (h+4)]
def stB (h : Nat) : PB := .cells [.int .u64 h, .int .u64 (h+1), .int .u64 (h+2), .arrd TB 64 (h+3), .int .u32 (h+4)]
def dlV (h : Nat) (t : PV) : PV := .agg [.int .u64 h, .int .u64 (h+1), .int .u64 (h+2), .int .u32 (h+3), t]
def dlB (h : Nat) (t : PV) : PB := .cells [.int .u64 h, .int .u64 (h+1), .int .u64 (h+2), .int .u32 (h+3), t]
def msV (h : Nat) (t : PV) : PV := .agg [.int .u8 h, .int .i64 (h+1), .int .i64 (h+2), .int .i64 (h+3), .int .i64 (h+4), .int .u64 (h+5), .int .u64 (h+6), .int .u64 (h+7), .arrd TB 64 (h+8), .int .u32 (h+9), .int .u64 (h+10), .int .u64 (h+11), .int .u64 (h+12), .int .u32 (h+13), t]
def msB (h : Nat) (t : PV) : PB := .cells [.int .u8 h, .int .i64 (h+1), .int .i64 (h+2), .int .i64 (h+3), .int .i64 (h+4), .int .u64 (h+5), .int .u64 (h+6), .int .u64 (h+7), .arrd TB 64 (h+8), .int .u32 (h+9), .int .u64 (h+10), .int .u64 (h+11), .int .u64 (h+12), .int .u32 (h+13), t]
def tm_1 (l : List (Ty.den TTm)) (i : Int) : Int := Prod.fst (List.getD l (Int.toNat i) (Ty.dflt TTm))
def tm_2 (l : List (Ty.den TTm)) (i : Int) : Int := Prod.snd (List.getD l (Int.toNat i) (Ty.dflt TTm))
noncomputable def st_L30_3 (env : List Dat) : Tree Step := Lk.stepMC false LK cs_q13 35 3 ls0 (mkM 0 [] [(sh 22 [(0, .int .u64 0), (5, .own 0), (6, .int .i64 1)], [.arr TB 2])] [(5, TB)] [(.exit 0, sh 22 [(5, .own 0)], [.arr TB 0])] fun _ => none) env
theorem op_L30_3_ex : ExL st_L30_3 := exL _
noncomputable def op_L30_3 := Classical.choose op_L30_3_ex
theorem op_L30_3_eq (env : List Dat) : op_L30_3 env = iterS st_L30_3 FU env := Classical.choose_spec op_L30_3_ex env
noncomputable def L30_3 : MBox := mkM 0 [] [(sh 22 [(0, .int .u64 0), (5, .own 0), (6, .int .i64 1)], [.arr TB 2])] [(5, TB)] [(.exit 0, sh 22 [(5, .own 0)], [.arr TB 0])] op_L30_3
theorem L30_3_eqs : L30_3 = mkM 0 [] [(sh 22 [(0, .int .u64 0), (5, .own 0), (6, .int .i64 1)], [.arr TB 2])] [(5, TB)] [(.exit 0, sh 22 [(5, .own 0)], [.arr TB 0])] (iterS st_L30_3 FU) := congrArg (fun f => mkM 0 [] [(sh 22 [(0, .int .u64 0), (5, .own 0), (6, .int .i64 1)], [.arr TB 2])] [(5, TB)] [(.exit 0, sh 22 [(5, .own 0)], [.arr TB 0])] f) (funext op_L30_3_eq)
theorem L30_3_run : ∀ t s x, (manyRun L30_3 t s).sel = some x → CodeOk Try.prog 0 (.loop (cAt Try.prog 35 3)) t s x := by
  rw [L30_3_eqs]
  exact mkM_ok (st := st_L30_3) (m := FU) cs_q13_ok hmix false (LsOk.none _ _ _) (by kernel_rfl) (fun env y h => by rw [← stepMC_lk]; exact h)

noncomputable def fn_L30_3_t : List Dat → Tree Step
 | [.n n0, .n n1, .l (Ty.int IntKind.u8) l2] =>
 (.node (decide (n1 ≥ (0 : Int)))
 (.node (!decide (IntKind.wrap .i64 ((8 : Int) * n1) < (0 : Int)))
 (.node (decide ((List.length l2 + 1) * 1 ≤ 140737488355328))
 (.leaf (Step.go [.k 0, .n n0, .n (IntKind.wrap .i64 (n1 - (1 : Int))), .l TB (l2 ++ [IntKind.wrap .u8 (ishr IntKind.u64 n0 (IntKind.wrap .i64 ((8 : Int) * n1)))])]))
 (.bad 62))
 (.bad 83))
 (.leaf (Step.stop 0 [.l TB l2])))
 | _ => .bad 0
theorem fn_L30_3_t_im (n0 : Int) (n1 : Int) (l2 : List (Ty.den TB)) : Imp (fn_L30_3_t [.n n0, .n n1, .l TB l2]) (st_L30_3 [.k 0, .n n0, .n n1, .l TB l2]) :=
(.pa [1]
(.nd (fun h0 =>
(.nd (fun h1 =>
(.nd (fun h2 =>
(.pa [1]
.lf)) (fun h2 =>
.none))) (fun h1 =>
.none))) (fun h0 =>
(.pa [1]
.lf))))

theorem ls_30_ok : LsOk Try.prog (List.length ([] : List PB)) (lsM [(3, L30_3)] (List.length ([] : List PB))) (bodyOf Try.prog 35) := LsOk.many fun j B hB hk c hc hi => by
  simp only [lookM] at hB
  split at hB
  · rename_i e; have := Nat.eq_of_beq_eq_true e; subst this; cases hB
    have e1 : loopAt Try.prog 35 3 = [cAt Try.prog 35 3] := loopAt_one (by kernel_rfl)
    have e2 : c ∈ loopAt Try.prog 35 3 := loopsAt_mem hc hi
    rw [e1] at e2; cases List.mem_singleton.1 e2; exact L30_3_run
  cases hB

noncomputable def ev_30 (env : List Dat) : Tree (Nat × List Dat) := Lk.boxC false LK cs_q13 35 (lsM [(3, L30_3)] (List.length ([] : List PB))) (mkF [.int .u64 0, .int .i64 1] [] [] [(.own 0, [.arr TB 0])] fun _ => none) env
theorem op_30_ex : ExB ev_30 := exB _
noncomputable def op_30 := Classical.choose op_30_ex
theorem op_30_eq (env : List Dat) : op_30 env = (ev_30 env).sel := Classical.choose_spec op_30_ex env
noncomputable def B30 : FBox := mkF [.int .u64 0, .int .i64 1] [] [] [(.own 0, [.arr TB 0])] op_30
theorem B30_ok : RunOk Try.prog 35 (boxRun B30) := mkF_ok (op := op_30) cs_q13_ok hmix false (ls_30_ok) (fun env x h => by rw [op_30_eq] at h; rw [← boxC_lk]; exact h)

noncomputable def fn_30_t : List Dat → Tree (Nat × List Dat)
 | [.n n0, .n n1] =>
 (let r1 := (op_L30_3 [.k 0, .n n0, .n (IntKind.wrap .i64 (n1 - (1 : Int))), .l TB []]);
 (.node (isK 0 [.l TB] r1)
 (.leaf ((0, [.l TB (gl TB (dOf r1) 0)])))
 (.bad 351)))
 | _ => .bad 0
theorem fn_30_t_im (n0 : Int) (n1 : Int) : Imp (fn_30_t [.n n0, .n n1]) (ev_30 [.n n0, .n n1]) :=
(.nd (fun h0 =>
(.pa [1]
.lf)) (fun h0 =>
.none))

noncomputable def cs_30 : FuncId → Option CSpec := csLend 35 B30 cs_q13
theorem cs_30_ok : CsOk Try.prog cs_30 := csLend_ok cs_q13_ok B30_ok

noncomputable def st_L35a_1 (env : List Dat) : Tree Step := Lk.stepMC false LK cs_30 68 1 ls0 (mkM 1 [0] [(sh 29 [(0, .ptr 0 0), (1, .int .u64 0), (2, .int .i64 1), (7, .int .i64 2), (8, .int .i64 3)], [wrN]), (sh 29 [(0, .ptr 0 0), (1, .int .u64 0), (2, .int .i64 1), (7, .int .i64 2), (8, .int .i64 3)], [wrO 1, .arr TB 4])] [] [(.exit 0, sh 29 [(0, .ptr 0 0)], [wrN]), (.exit 0, sh 29 [(0, .ptr 0 0)], [wrO 1, .arr TB 0])] fun _ => none) env
theorem op_L35a_1_ex : ExL st_L35a_1 := exL _
noncomputable def op_L35a_1 := Classical.choose op_L35a_1_ex
theorem op_L35a_1_eq (env : List Dat) : op_L35a_1 env = iterS st_L35a_1 FU env := Classical.choose_spec op_L35a_1_ex env
noncomputable def L35a_1 : MBox := mkM 1 [0] [(sh 29 [(0, .ptr 0 0), (1, .int .u64 0), (2, .int .i64 1), (7, .int .i64 2), (8, .int .i64 3)], [wrN]), (sh 29 [(0, .ptr 0 0), (1, .int .u64 0), (2, .int .i64 1), (7, .int .i64 2), (8, .int .i64 3)], [wrO 1, .arr TB 4])] [] [(.exit 0, sh 29 [(0, .ptr 0 0)], [wrN]), (.exit 0, sh 29 [(0, .ptr 0 0)], [wrO 1, .arr TB 0])] op_L35a_1
theorem L35a_1_eqs : L35a_1 = mkM 1 [0] [(sh 29 [(0, .ptr 0 0), (1, .int .u64 0), (2, .int .i64 1), (7, .int .i64 2), (8, .int .i64 3)], [wrN]), (sh 29 [(0, .ptr 0 0), (1, .int .u64 0), (2, .int .i64 1), (7, .int .i64 2), (8, .int .i64 3)], [wrO 1, .arr TB 4])] [] [(.exit 0, sh 29 [(0, .ptr 0 0)], [wrN]), (.exit 0, sh 29 [(0, .ptr 0 0)], [wrO 1, .arr TB 0])] (iterS st_L35a_1 FU) := congrArg (fun f => mkM 1 [0] [(sh 29 [(0, .ptr 0 0), (1, .int .u64 0), (2, .int .i64 1), (7, .int .i64 2), (8, .int .i64 3)], [wrN]), (sh 29 [(0, .ptr 0 0), (1, .int .u64 0), (2, .int .i64 1), (7, .int .i64 2), (8, .int .i64 3)], [wrO 1, .arr TB 4])] [] [(.exit 0, sh 29 [(0, .ptr 0 0)], [wrN]), (.exit 0, sh 29 [(0, .ptr 0 0)], [wrO 1, .arr TB 0])] f) (funext op_L35a_1_eq)
theorem L35a_1_run : ∀ t s x, (manyRun L35a_1 t s).sel = some x → CodeOk Try.prog 1 (.loop (cAt Try.prog 68 1)) t s x := by
  rw [L35a_1_eqs]
  exact mkM_ok (st := st_L35a_1) (m := FU) cs_30_ok hmix false (LsOk.none _ _ _) (by kernel_rfl) (fun env y h => by rw [← stepMC_lk]; exact h)

noncomputable def fn_L35a_1_n : List Dat → Tree Step
 | [.n n0, .n n1, .n n2, .n n3] =>
 (.node (decide (n3 < n2))
 (.node (!decide (IntKind.wrap .i64 ((8 : Int) * IntKind.wrap .i64 (IntKind.wrap .i64 (n1 - (1 : Int)) - n3)) < (0 : Int)))
 (.leaf (Step.go [.k 1, .n n0, .n n1, .n n2, .n (IntKind.wrap .i64 (n3 + (1 : Int))), .l TB [IntKind.wrap .u8 (ishr IntKind.u64 n0 (IntKind.wrap .i64 ((8 : Int) * IntKind.wrap .i64 (IntKind.wrap .i64 (n1 - (1 : Int)) - n3))))]]))
 (.bad 83))
 (.leaf (Step.stop 0 [])))
 | _ => .bad 0
theorem fn_L35a_1_n_im (n0 : Int) (n1 : Int) (n2 : Int) (n3 : Int) : Imp (fn_L35a_1_n [.n n0, .n n1, .n n2, .n n3]) (st_L35a_1 [.k 0, .n n0, .n n1, .n n2, .n n3]) :=
(.pa [1]
(.nd (fun h0 =>
(.nd (fun h1 =>
(.pa [1,1,1]
.lf)) (fun h1 =>
.none))) (fun h0 =>
(.pa [1]
.lf))))

noncomputable def fn_L35a_1_o : List Dat → Tree Step
 | [.n n0, .n n1, .n n2, .n n3, .l (Ty.int IntKind.u8) l4] =>
 (.node (decide (n3 < n2))
 (.node (!decide (IntKind.wrap .i64 ((8 : Int) * IntKind.wrap .i64 (IntKind.wrap .i64 (n1 - (1 : Int)) - n3)) < (0 : Int)))
 (.node (decide ((List.length l4 + 1) * 1 ≤ 140737488355328))
 (.leaf (Step.go [.k 1, .n n0, .n n1, .n n2, .n (IntKind.wrap .i64 (n3 + (1 : Int))), .l TB (l4 ++ [IntKind.wrap .u8 (ishr IntKind.u64 n0 (IntKind.wrap .i64 ((8 : Int) * IntKind.wrap .i64 (IntKind.wrap .i64 (n1 - (1 : Int)) - n3))))])]))
 (.bad 62))
 (.bad 83))
 (.leaf (Step.stop 1 [.l TB l4])))
 | _ => .bad 0
theorem fn_L35a_1_o_im (n0 : Int) (n1 : Int) (n2 : Int) (n3 : Int) (l4 : List (Ty.den TB)) : Imp (fn_L35a_1_o [.n n0, .n n1, .n n2, .n n3, .l TB l4]) (st_L35a_1 [.k 1, .n n0, .n n1, .n n2, .n n3, .l TB l4]) :=
(.pa [1]
(.nd (fun h0 =>
(.nd (fun h1 =>
(.nd (fun h2 =>
(.pa [1,1]
.lf)) (fun h2 =>
.none))) (fun h1 =>
.none))) (fun h0 =>
(.pa [1]
.lf))))

theorem ls_35a_ok : LsOk Try.prog (List.length ([wrN] : List PB)) (lsM [(1, L35a_1)] (List.length ([wrN] : List PB))) (bodyOf Try.prog 68) := LsOk.many fun j B hB hk c hc hi => by
  simp only [lookM] at hB
  split at hB
  · rename_i e; have := Nat.eq_of_beq_eq_true e; subst this; cases hB
    have e1 : loopAt Try.prog 68 1 = [cAt Try.prog 68 1] := loopAt_one (by kernel_rfl)
    have e2 : c ∈ loopAt Try.prog 68 1 := loopsAt_mem hc hi
    rw [e1] at e2; cases List.mem_singleton.1 e2; exact L35a_1_run
  cases hB

noncomputable def ev_35a (env : List Dat) : Tree (Nat × List Dat) := Lk.boxC false LK cs_30 68 (lsM [(1, L35a_1)] (List.length ([wrN] : List PB))) (mkF [.ptr 0 0, .int .u64 0, .int .i64 1] [wrN] [0] [(.tup [], [wrN]), (.tup [], [wrO 1, .arr TB 0])] fun _ => none) env
theorem op_35a_ex : ExB ev_35a := exB _
noncomputable def op_35a := Classical.choose op_35a_ex
theorem op_35a_eq (env : List Dat) : op_35a env = (ev_35a env).sel := Classical.choose_spec op_35a_ex env
noncomputable def B35a : FBox := mkF [.ptr 0 0, .int .u64 0, .int .i64 1] [wrN] [0] [(.tup [], [wrN]), (.tup [], [wrO 1, .arr TB 0])] op_35a
theorem B35a_ok : RunOk Try.prog 68 (boxRun B35a) := mkF_ok (op := op_35a) cs_30_ok hmix false (ls_35a_ok) (fun env x h => by rw [op_35a_eq] at h; rw [← boxC_lk]; exact h)

noncomputable def fn_35a_t : List Dat → Tree (Nat × List Dat)
 | [.n n0, .n n1] =>
 (let r1 := (op_L35a_1 [.k 0, .n n0, .n n1, .n n1, .n (0 : Int)]);
 (.node (isK 0 [] r1)
 (.leaf ((0, [])))
 (.node (isK 1 [.l TB] r1)
 (.leaf ((1, [.l TB (gl TB (dOf r1) 0)])))
 (.bad 351))))
 | _ => .bad 0
theorem fn_35a_t_im (n0 : Int) (n1 : Int) : Imp (fn_35a_t [.n n0, .n n1]) (ev_35a [.n n0, .n n1]) :=
(.nd (fun h0 =>
(.pa [1]
.lf)) (fun h0 =>
(.nd (fun h1 =>
(.pa [1]
.lf)) (fun h1 =>
.none))))

noncomputable def st_L35b_1 (env : List Dat) : Tree Step := Lk.stepMC false LK cs_30 68 1 ls0 (mkM 2 [0, 1] [(sh 29 [(0, .ptr 0 0), (1, .int .u64 0), (2, .int .i64 1), (7, .int .i64 2), (8, .int .i64 3)], [wrO 1, .arr TB 4])] [] [(.exit 0, sh 29 [(0, .ptr 0 0)], [wrO 1, .arr TB 0])] fun _ => none) env
theorem op_L35b_1_ex : ExL st_L35b_1 := exL _
noncomputable def op_L35b_1 := Classical.choose op_L35b_1_ex
theorem op_L35b_1_eq (env : List Dat) : op_L35b_1 env = iterS st_L35b_1 FU env := Classical.choose_spec op_L35b_1_ex env
noncomputable def L35b_1 : MBox := mkM 2 [0, 1] [(sh 29 [(0, .ptr 0 0), (1, .int .u64 0), (2, .int .i64 1), (7, .int .i64 2), (8, .int .i64 3)], [wrO 1, .arr TB 4])] [] [(.exit 0, sh 29 [(0, .ptr 0 0)], [wrO 1, .arr TB 0])] op_L35b_1
theorem L35b_1_eqs : L35b_1 = mkM 2 [0, 1] [(sh 29 [(0, .ptr 0 0), (1, .int .u64 0), (2, .int .i64 1), (7, .int .i64 2), (8, .int .i64 3)], [wrO 1, .arr TB 4])] [] [(.exit 0, sh 29 [(0, .ptr 0 0)], [wrO 1, .arr TB 0])] (iterS st_L35b_1 FU) := congrArg (fun f => mkM 2 [0, 1] [(sh 29 [(0, .ptr 0 0), (1, .int .u64 0), (2, .int .i64 1), (7, .int .i64 2), (8, .int .i64 3)], [wrO 1, .arr TB 4])] [] [(.exit 0, sh 29 [(0, .ptr 0 0)], [wrO 1, .arr TB 0])] f) (funext op_L35b_1_eq)
theorem L35b_1_run : ∀ t s x, (manyRun L35b_1 t s).sel = some x → CodeOk Try.prog 2 (.loop (cAt Try.prog 68 1)) t s x := by
  rw [L35b_1_eqs]
  exact mkM_ok (st := st_L35b_1) (m := FU) cs_30_ok hmix false (LsOk.none _ _ _) (by kernel_rfl) (fun env y h => by rw [← stepMC_lk]; exact h)

noncomputable def fn_L35b_1_o : List Dat → Tree Step
 | [.n n0, .n n1, .n n2, .n n3, .l (Ty.int IntKind.u8) l4] =>
 (.node (decide (n3 < n2))
 (.node (!decide (IntKind.wrap .i64 ((8 : Int) * IntKind.wrap .i64 (IntKind.wrap .i64 (n1 - (1 : Int)) - n3)) < (0 : Int)))
 (.node (decide ((List.length l4 + 1) * 1 ≤ 140737488355328))
 (.leaf (Step.go [.k 0, .n n0, .n n1, .n n2, .n (IntKind.wrap .i64 (n3 + (1 : Int))), .l TB (l4 ++ [IntKind.wrap .u8 (ishr IntKind.u64 n0 (IntKind.wrap .i64 ((8 : Int) * IntKind.wrap .i64 (IntKind.wrap .i64 (n1 - (1 : Int)) - n3))))])]))
 (.bad 62))
 (.bad 83))
 (.leaf (Step.stop 0 [.l TB l4])))
 | _ => .bad 0
theorem fn_L35b_1_o_im (n0 : Int) (n1 : Int) (n2 : Int) (n3 : Int) (l4 : List (Ty.den TB)) : Imp (fn_L35b_1_o [.n n0, .n n1, .n n2, .n n3, .l TB l4]) (st_L35b_1 [.k 0, .n n0, .n n1, .n n2, .n n3, .l TB l4]) :=
(.pa [1]
(.nd (fun h0 =>
(.nd (fun h1 =>
(.nd (fun h2 =>
(.pa [1,1]
.lf)) (fun h2 =>
.none))) (fun h1 =>
.none))) (fun h0 =>
(.pa [1]
.lf))))

theorem ls_35b_ok : LsOk Try.prog (List.length ([wrO 1, .arr TB 2] : List PB)) (lsM [(1, L35b_1)] (List.length ([wrO 1, .arr TB 2] : List PB))) (bodyOf Try.prog 68) := LsOk.many fun j B hB hk c hc hi => by
  simp only [lookM] at hB
  split at hB
  · rename_i e; have := Nat.eq_of_beq_eq_true e; subst this; cases hB
    have e1 : loopAt Try.prog 68 1 = [cAt Try.prog 68 1] := loopAt_one (by kernel_rfl)
    have e2 : c ∈ loopAt Try.prog 68 1 := loopsAt_mem hc hi
    rw [e1] at e2; cases List.mem_singleton.1 e2; exact L35b_1_run
  cases hB

noncomputable def ev_35b (env : List Dat) : Tree (Nat × List Dat) := Lk.boxC false LK cs_30 68 (lsM [(1, L35b_1)] (List.length ([wrO 1, .arr TB 2] : List PB))) (mkF [.ptr 0 0, .int .u64 0, .int .i64 1] [wrO 1, .arr TB 2] [0, 1] [(.tup [], [wrO 1, .arr TB 0])] fun _ => none) env
theorem op_35b_ex : ExB ev_35b := exB _
noncomputable def op_35b := Classical.choose op_35b_ex
theorem op_35b_eq (env : List Dat) : op_35b env = (ev_35b env).sel := Classical.choose_spec op_35b_ex env
noncomputable def B35b : FBox := mkF [.ptr 0 0, .int .u64 0, .int .i64 1] [wrO 1, .arr TB 2] [0, 1] [(.tup [], [wrO 1, .arr TB 0])] op_35b
theorem B35b_ok : RunOk Try.prog 68 (boxRun B35b) := mkF_ok (op := op_35b) cs_30_ok hmix false (ls_35b_ok) (fun env x h => by rw [op_35b_eq] at h; rw [← boxC_lk]; exact h)

noncomputable def fn_35b_t : List Dat → Tree (Nat × List Dat)
 | [.n n0, .n n1, .l (Ty.int IntKind.u8) l2] =>
 (let r1 := (op_L35b_1 [.k 0, .n n0, .n n1, .n n1, .n (0 : Int), .l TB l2]);
 (.node (isK 0 [.l TB] r1)
 (.leaf ((0, [.l TB (gl TB (dOf r1) 0)])))
 (.bad 351)))
 | _ => .bad 0
theorem fn_35b_t_im (n0 : Int) (n1 : Int) (l2 : List (Ty.den TB)) : Imp (fn_35b_t [.n n0, .n n1, .l TB l2]) (ev_35b [.n n0, .n n1, .l TB l2]) :=
(.nd (fun h0 =>
(.pa [1]
.lf)) (fun h0 =>
.none))

noncomputable def cs_35b : FuncId → Option CSpec := csAdd 68 [B35a, B35b] cs_30
theorem cs_35b_ok : CsOk Try.prog cs_35b := csAdd_ok cs_30_ok fun B hB => by
  simp only [List.mem_cons, List.not_mem_nil, or_false] at hB
  rcases hB with rfl | rfl
  · exact B35a_ok
  · exact B35b_ok

noncomputable def st_L88_1 (env : List Dat) : Tree Step := Lk.stepMC false LK cs_35b 89 1 ls0 (mkM 3 [0, 1, 2] [(sh 16 [(0, .ptr 0 0), (6, .own 1), (7, .int .i64 0), (8, .int .i64 1)], [wrO 2, .arr TL 2, .arr TB 3])] [] [(.exit 0, sh 16 [(0, .ptr 0 0)], [wrO 2, .gone, .arr TB 0])] fun _ => none) env
theorem op_L88_1_ex : ExL st_L88_1 := exL _
noncomputable def op_L88_1 := Classical.choose op_L88_1_ex
theorem op_L88_1_eq (env : List Dat) : op_L88_1 env = iterS st_L88_1 FU env := Classical.choose_spec op_L88_1_ex env
noncomputable def L88_1 : MBox := mkM 3 [0, 1, 2] [(sh 16 [(0, .ptr 0 0), (6, .own 1), (7, .int .i64 0), (8, .int .i64 1)], [wrO 2, .arr TL 2, .arr TB 3])] [] [(.exit 0, sh 16 [(0, .ptr 0 0)], [wrO 2, .gone, .arr TB 0])] op_L88_1
theorem L88_1_eqs : L88_1 = mkM 3 [0, 1, 2] [(sh 16 [(0, .ptr 0 0), (6, .own 1), (7, .int .i64 0), (8, .int .i64 1)], [wrO 2, .arr TL 2, .arr TB 3])] [] [(.exit 0, sh 16 [(0, .ptr 0 0)], [wrO 2, .gone, .arr TB 0])] (iterS st_L88_1 FU) := congrArg (fun f => mkM 3 [0, 1, 2] [(sh 16 [(0, .ptr 0 0), (6, .own 1), (7, .int .i64 0), (8, .int .i64 1)], [wrO 2, .arr TL 2, .arr TB 3])] [] [(.exit 0, sh 16 [(0, .ptr 0 0)], [wrO 2, .gone, .arr TB 0])] f) (funext op_L88_1_eq)
theorem L88_1_run : ∀ t s x, (manyRun L88_1 t s).sel = some x → CodeOk Try.prog 3 (.loop (cAt Try.prog 89 1)) t s x := by
  rw [L88_1_eqs]
  exact mkM_ok (st := st_L88_1) (m := FU) cs_35b_ok hmix false (LsOk.none _ _ _) (by kernel_rfl) (fun env y h => by rw [← stepMC_lk]; exact h)

noncomputable def fn_L88_1_t : List Dat → Tree Step
 | [.n n0, .n n1, .l (Ty.int IntKind.u64) l2, .l (Ty.int IntKind.u8) l3] =>
 (.node (decide (n1 < n0))
 (let r1 := (op_35b [.n (List.getD l2 (Int.toNat n1) (0 : Int)), .n (8 : Int), .l TB l3]);
 (.node (isK 0 [.l TB] r1)
 (.leaf (Step.go [.k 0, .n n0, .n (IntKind.wrap .i64 (n1 + (1 : Int))), .l TL l2, .l TB (gl TB (dOf r1) 0)]))
 (.bad 351)))
 (.leaf (Step.stop 0 [.l TB l3])))
 | _ => .bad 0
theorem fn_L88_1_t_im (n0 : Int) (n1 : Int) (l2 : List (Ty.den TL)) (l3 : List (Ty.den TB)) (g0 : 0 ≤ n1) (g1 :  n0 = (l2.length : Int)) : Imp (fn_L88_1_t [.n n0, .n n1, .l TL l2, .l TB l3]) (st_L88_1 [.k 0, .n n0, .n n1, .l TL l2, .l TB l3]) :=
(.pa [1]
(.nd (fun h0 =>
(.pt (c := (inR n1 (List.length l2))) (by kernel_rfl) (by kernel_rfl) (by (simp only [w64d, decide_eq_true_eq, decide_eq_false_iff_not, beq_iff_eq, beq_eq_false_iff_ne, bne_iff_ne, ne_eq, inR, Bool.and_eq_true, Bool.and_eq_false_iff, Bool.not_eq_true', Bool.not_eq_false', Bool.not_eq_eq_eq_not, Bool.not_true, Bool.not_false] at *; omega))
(.pa [1,1,0,0,0,0,1,1]
(.nd (fun h1 =>
(.pa [1,0,1,1,1]
.lf)) (fun h1 =>
.none))))) (fun h0 =>
(.pa [1]
.lf))))

theorem ls_88_ok : LsOk Try.prog (List.length ([wrO 2, .arr TL 0, .arr TB 1] : List PB)) (lsM [(1, L88_1)] (List.length ([wrO 2, .arr TL 0, .arr TB 1] : List PB))) (bodyOf Try.prog 89) := LsOk.many fun j B hB hk c hc hi => by
  simp only [lookM] at hB
  split at hB
  · rename_i e; have := Nat.eq_of_beq_eq_true e; subst this; cases hB
    have e1 : loopAt Try.prog 89 1 = [cAt Try.prog 89 1] := loopAt_one (by kernel_rfl)
    have e2 : c ∈ loopAt Try.prog 89 1 := loopsAt_mem hc hi
    rw [e1] at e2; cases List.mem_singleton.1 e2; exact L88_1_run
  cases hB

noncomputable def ev_88 (env : List Dat) : Tree (Nat × List Dat) := Lk.boxC false LK cs_35b 89 (lsM [(1, L88_1)] (List.length ([wrO 2, .arr TL 0, .arr TB 1] : List PB))) (mkF [.ptr 0 0, .own 1] [wrO 2, .arr TL 0, .arr TB 1] [0, 1, 2] [(.tup [], [wrO 2, .gone, .arr TB 0])] fun _ => none) env
theorem op_88_ex : ExB ev_88 := exB _
noncomputable def op_88 := Classical.choose op_88_ex
theorem op_88_eq (env : List Dat) : op_88 env = (ev_88 env).sel := Classical.choose_spec op_88_ex env
noncomputable def B88 : FBox := mkF [.ptr 0 0, .own 1] [wrO 2, .arr TL 0, .arr TB 1] [0, 1, 2] [(.tup [], [wrO 2, .gone, .arr TB 0])] op_88
theorem B88_ok : RunOk Try.prog 89 (boxRun B88) := mkF_ok (op := op_88) cs_35b_ok hmix false (ls_88_ok) (fun env x h => by rw [op_88_eq] at h; rw [← boxC_lk]; exact h)

noncomputable def fn_88_t : List Dat → Tree (Nat × List Dat)
 | [.l (Ty.int IntKind.u64) l0, .l (Ty.int IntKind.u8) l1] =>
 (let r1 := (op_L88_1 [.k 0, .n (↑(List.length l0) : Int), .n (0 : Int), .l TL l0, .l TB l1]);
 (.node (isK 0 [.l TB] r1)
 (.leaf ((0, [.l TB (gl TB (dOf r1) 0)])))
 (.bad 351)))
 | _ => .bad 0
theorem fn_88_t_im (l0 : List (Ty.den TL)) (l1 : List (Ty.den TB)) : Imp (fn_88_t [.l TL l0, .l TB l1]) (ev_88 [.l TL l0, .l TB l1]) :=
(.nd (fun h0 =>
(.pa [1]
.lf)) (fun h0 =>
.none))

noncomputable def cs_88 : FuncId → Option CSpec := csAdd 89 [B88] cs_35b
theorem cs_88_ok : CsOk Try.prog cs_88 := csAdd_ok cs_35b_ok fun B hB => by
  cases List.mem_singleton.1 hB
  exact B88_ok

noncomputable def ev_11p (env : List Dat) : Tree (Nat × List Dat) := Lk.boxCN [(0, TB)] false LK cs_88 31 ls0 (mkF [stV 0] [] [] [(.own 0, [.arr TB 0])] fun _ => none) env
theorem op_11p_ex : ExB ev_11p := exB _
noncomputable def op_11p := Classical.choose op_11p_ex
theorem op_11p_eq (env : List Dat) : op_11p env = (ev_11p env).sel := Classical.choose_spec op_11p_ex env
noncomputable def B11p : FBox := mkF [stV 0] [] [] [(.own 0, [.arr TB 0])] op_11p
theorem B11p_ok : RunOk Try.prog 31 (boxRun B11p) := mkFN_ok (nils := [(0, TB)]) (op := op_11p) cs_88_ok hmix false (LsOk.none _ _ _) (fun env x h => by rw [op_11p_eq] at h; rw [← boxCN_lk]; exact h)

noncomputable def fn_11p_t : List Dat → Tree (Nat × List Dat)
 | [.n n0, .n n1, .n n2, .l (Ty.int IntKind.u8) l3, .n n4] =>
 (let r1 := (op_35a [.n (3 : Int), .n (1 : Int)]);
 (.node (isK 0 [] r1)
 (.bad 340)
 (.node (isK 1 [.l TB] r1)
 (let r2 := (op_88 [.l TL [n0, n1, n2], .l TB (gl TB (dOf r1) 0)]);
 (.node (isK 0 [.l TB] r2)
 (.node (decide ((List.length (gl TB (dOf r2) 0) + List.length l3) * 1 ≤ 140737488355328))
 (let r3 := (op_35b [.n (IntKind.wrap .u64 n4), .n (4 : Int), .l TB (gl TB (dOf r2) 0 ++ l3)]);
 (.node (isK 0 [.l TB] r3)
 (let r4 := (op_31 [.l TB (gl TB (dOf r3) 0)]);
 (.node (isK 0 [.l TB] r4)
 (let r5 := (op_q12 [.l TB (gl TB (dOf r4) 0)]);
 (.node (isK 0 [.n] r5)
 (let r6 := (op_35b [.n (IntKind.wrap .u64 (gn (dOf r5) 0)), .n (4 : Int), .l TB (gl TB (dOf r3) 0)]);
 (.node (isK 0 [.l TB] r6)
 (let r7 := (op_31 [.l TB (gl TB (dOf r6) 0)]);
 (.node (isK 0 [.l TB] r7)
 (.leaf ((0, [.l TB (gl TB (dOf r7) 0)])))
 (.bad 351)))
 (.bad 351)))
 (.bad 351)))
 (.bad 351)))
 (.bad 351)))
 (.bad 62))
 (.bad 351)))
 (.bad 351))))
 | _ => .bad 0
theorem fn_11p_t_im (n0 : Int) (n1 : Int) (n2 : Int) (l3 : List (Ty.den TB)) (n4 : Int) (g0 : l3.length = 64) : Imp (fn_11p_t [.n n0, .n n1, .n n2, .l TB l3, .n n4]) (ev_11p [.n n0, .n n1, .n n2, .l TB l3, .n n4]) :=
(.pa [1,0,0,0,0,0,0,1,1,1,1,0,1,1]
(.nd (fun h0 =>
(.pa [1,0,0,0,0,1,1,1,1,1]
.none)) (fun h0 =>
(.nd (fun h1 =>
(.pa [1,0,0,0,0,1,1,1,1,1]
(.nd (fun h2 =>
(.pa [1,1,1,1,0,0,0,0,0,1]
(.nd (fun h3 =>
(.pa [1,1,1,1,0,0,0,1,1]
(.nd (fun h4 =>
(.pa [1,0,0,1,1,1,1,1,0]
(.nd (fun h5 =>
(.pa [1,1]
(.nd (fun h6 =>
(.pa [1,1,1,0,0,0,1,1]
(.nd (fun h7 =>
(.pa [1,0,0,1,1,1,0]
(.nd (fun h8 =>
(.pa [1,1,1,1,1]
.lf)) (fun h8 =>
.none)))) (fun h7 =>
.none)))) (fun h6 =>
.none)))) (fun h5 =>
.none)))) (fun h4 =>
.none)))) (fun h3 =>
.none)))) (fun h2 =>
.none)))) (fun h1 =>
.none)))))

noncomputable def cs_11p : FuncId → Option CSpec := csLend 31 B11p cs_88
theorem cs_11p_ok : CsOk Try.prog cs_11p := csLend_ok cs_88_ok B11p_ok

noncomputable def st_L43_5 (env : List Dat) : Tree Step := Lk.stepMC false LK cs_11p 64 5 ls0 (mkM 0 [] [(sh 35 [(1, .ptr 0 0), (3, .own 1), (4, .int .i64 0)], [stB 1, .arr TB 6])] [] [(.exit 0, sh 35 [(1, .ptr 0 0), (3, .own 1)], [stB 0, .arr TB 5])] fun _ => none) env
theorem op_L43_5_ex : ExL st_L43_5 := exL _
noncomputable def op_L43_5 := Classical.choose op_L43_5_ex
theorem op_L43_5_eq (env : List Dat) : op_L43_5 env = iterS st_L43_5 FU env := Classical.choose_spec op_L43_5_ex env
noncomputable def L43_5 : MBox := mkM 0 [] [(sh 35 [(1, .ptr 0 0), (3, .own 1), (4, .int .i64 0)], [stB 1, .arr TB 6])] [] [(.exit 0, sh 35 [(1, .ptr 0 0), (3, .own 1)], [stB 0, .arr TB 5])] op_L43_5
theorem L43_5_eqs : L43_5 = mkM 0 [] [(sh 35 [(1, .ptr 0 0), (3, .own 1), (4, .int .i64 0)], [stB 1, .arr TB 6])] [] [(.exit 0, sh 35 [(1, .ptr 0 0), (3, .own 1)], [stB 0, .arr TB 5])] (iterS st_L43_5 FU) := congrArg (fun f => mkM 0 [] [(sh 35 [(1, .ptr 0 0), (3, .own 1), (4, .int .i64 0)], [stB 1, .arr TB 6])] [] [(.exit 0, sh 35 [(1, .ptr 0 0), (3, .own 1)], [stB 0, .arr TB 5])] f) (funext op_L43_5_eq)
theorem L43_5_run : ∀ t s x, (manyRun L43_5 t s).sel = some x → CodeOk Try.prog 0 (.loop (cAt Try.prog 64 5)) t s x := by
  rw [L43_5_eqs]
  exact mkM_ok (st := st_L43_5) (m := FU) cs_11p_ok hmix false (LsOk.none _ _ _) (by kernel_rfl) (fun env y h => by rw [← stepMC_lk]; exact h)

noncomputable def fn_L43_5_t : List Dat → Tree Step
 | [.n n0, .n n1, .n n2, .n n3, .l (Ty.int IntKind.u8) l4, .n n5, .l (Ty.int IntKind.u8) l6] =>
 (.node (decide (n0 < (64 : Int)))
 (.node (decide ((List.length l6 + 1) * 1 ≤ 140737488355328))
 (.leaf (Step.go [.k 0, .n (IntKind.wrap .i64 (n0 + (1 : Int))), .n n1, .n n2, .n n3, .l TB l4, .n n5, .l TB (l6 ++ [List.getD l4 (Int.toNat n0) (0 : Int)])]))
 (.bad 62))
 (.leaf (Step.stop 0 [.n n1, .n n2, .n n3, .l TB l4, .n n5, .l TB l6])))
 | _ => .bad 0
theorem fn_L43_5_t_im (n0 : Int) (n1 : Int) (n2 : Int) (n3 : Int) (l4 : List (Ty.den TB)) (n5 : Int) (l6 : List (Ty.den TB)) (g0 : l4.length = 64) (g1 :  0 ≤ n0) : Imp (fn_L43_5_t [.n n0, .n n1, .n n2, .n n3, .l TB l4, .n n5, .l TB l6]) (st_L43_5 [.k 0, .n n0, .n n1, .n n2, .n n3, .l TB l4, .n n5, .l TB l6]) :=
(.pa [1]
(.nd (fun h0 =>
(.pt (c := (inR n0 64)) (by kernel_rfl) (by kernel_rfl) (by (simp only [w64d, decide_eq_true_eq, decide_eq_false_iff_not, beq_iff_eq, beq_eq_false_iff_ne, bne_iff_ne, ne_eq, inR, Bool.and_eq_true, Bool.and_eq_false_iff, Bool.not_eq_true', Bool.not_eq_false', Bool.not_eq_eq_eq_not, Bool.not_true, Bool.not_false] at *; omega))
(.nd (fun h1 =>
(.pa [1]
.lf)) (fun h1 =>
.none)))) (fun h0 =>
(.pa [1]
.lf))))

theorem ls_43_ok : LsOk Try.prog (List.length ([] : List PB)) (lsM [(5, L43_5)] (List.length ([] : List PB))) (bodyOf Try.prog 64) := LsOk.many fun j B hB hk c hc hi => by
  simp only [lookM] at hB
  split at hB
  · rename_i e; have := Nat.eq_of_beq_eq_true e; subst this; cases hB
    have e1 : loopAt Try.prog 64 5 = [cAt Try.prog 64 5] := loopAt_one (by kernel_rfl)
    have e2 : c ∈ loopAt Try.prog 64 5 := loopsAt_mem hc hi
    rw [e1] at e2; cases List.mem_singleton.1 e2; exact L43_5_run
  cases hB

noncomputable def ev_43 (env : List Dat) : Tree (Nat × List Dat) := Lk.boxC false LK cs_11p 64 (lsM [(5, L43_5)] (List.length ([] : List PB))) (mkF [stV 0] [] [] [(.own 0, [.arr TB 0])] fun _ => none) env
theorem op_43_ex : ExB ev_43 := exB _
noncomputable def op_43 := Classical.choose op_43_ex
theorem op_43_eq (env : List Dat) : op_43 env = (ev_43 env).sel := Classical.choose_spec op_43_ex env
noncomputable def B43 : FBox := mkF [stV 0] [] [] [(.own 0, [.arr TB 0])] op_43
theorem B43_ok : RunOk Try.prog 64 (boxRun B43) := mkF_ok (op := op_43) cs_11p_ok hmix false (ls_43_ok) (fun env x h => by rw [op_43_eq] at h; rw [← boxC_lk]; exact h)

noncomputable def fn_43_t : List Dat → Tree (Nat × List Dat)
 | [.n n0, .n n1, .n n2, .l (Ty.int IntKind.u8) l3, .n n4] =>
 (let r1 := (op_30 [.n n0, .n (8 : Int)]);
 (.node (isK 0 [.l TB] r1)
 (let r2 := (op_30 [.n n1, .n (8 : Int)]);
 (.node (isK 0 [.l TB] r2)
 (.node (decide ((List.length (gl TB (dOf r1) 0) + List.length (gl TB (dOf r2) 0)) * 1 ≤ 140737488355328))
 (let r3 := (op_30 [.n n2, .n (8 : Int)]);
 (.node (isK 0 [.l TB] r3)
 (.node (decide ((List.length (gl TB (dOf r1) 0 ++ gl TB (dOf r2) 0) + List.length (gl TB (dOf r3) 0)) * 1 ≤ 140737488355328))
 (let r4 := (op_L43_5 [.k 0, .n (0 : Int), .n n0, .n n1, .n n2, .l TB l3, .n n4, .l TB (gl TB (dOf r1) 0 ++ gl TB (dOf r2) 0 ++ gl TB (dOf r3) 0)]);
 (.node (isK 0 [.n, .n, .n, .l TB, .n, .l TB] r4)
 (let r5 := (op_30 [.n (IntKind.wrap .u64 (gn (dOf r4) 4)), .n (4 : Int)]);
 (.node (isK 0 [.l TB] r5)
 (.node (decide ((List.length (gl TB (dOf r4) 5) + List.length (gl TB (dOf r5) 0)) * 1 ≤ 140737488355328))
 (.leaf ((0, [.l TB (gl TB (dOf r4) 5 ++ gl TB (dOf r5) 0)])))
 (.bad 62))
 (.bad 351)))
 (.bad 351)))
 (.bad 62))
 (.bad 351)))
 (.bad 62))
 (.bad 351)))
 (.bad 351)))
 | _ => .bad 0
theorem fn_43_t_im (n0 : Int) (n1 : Int) (n2 : Int) (l3 : List (Ty.den TB)) (n4 : Int) (g0 : l3.length = 64) : Imp (fn_43_t [.n n0, .n n1, .n n2, .l TB l3, .n n4]) (ev_43 [.n n0, .n n1, .n n2, .l TB l3, .n n4]) :=
(.pa [1]
(.nd (fun h0 =>
(.pa [1,1,1]
(.nd (fun h1 =>
(.pa [1,1]
(.nd (fun h2 =>
(.pa [1]
(.nd (fun h3 =>
(.pa [1,1]
(.nd (fun h4 =>
(.nd (fun h5 =>
(.pa [1]
(.nd (fun h6 =>
(.pa [1,1]
(.nd (fun h7 =>
(.pa [1]
.lf)) (fun h7 =>
.none)))) (fun h6 =>
.none)))) (fun h5 =>
.none))) (fun h4 =>
.none)))) (fun h3 =>
.none)))) (fun h2 =>
.none)))) (fun h1 =>
.none)))) (fun h0 =>
.none)))

noncomputable def cs_43 : FuncId → Option CSpec := csLend 64 B43 cs_11p
theorem cs_43_ok : CsOk Try.prog cs_43 := csLend_ok cs_11p_ok B43_ok

noncomputable def ev_18p (env : List Dat) : Tree (Nat × List Dat) := Lk.boxCN [(0, TB)] false LK cs_43 36 ls0 (mkF [stV 0] [] [] [(.own 0, [.arr TB 0])] fun _ => none) env
theorem op_18p_ex : ExB ev_18p := exB _
noncomputable def op_18p := Classical.choose op_18p_ex
theorem op_18p_eq (env : List Dat) : op_18p env = (ev_18p env).sel := Classical.choose_spec op_18p_ex env
noncomputable def B18p : FBox := mkF [stV 0] [] [] [(.own 0, [.arr TB 0])] op_18p
theorem B18p_ok : RunOk Try.prog 36 (boxRun B18p) := mkFN_ok (nils := [(0, TB)]) (op := op_18p) cs_43_ok hmix false (LsOk.none _ _ _) (fun env x h => by rw [op_18p_eq] at h; rw [← boxCN_lk]; exact h)

noncomputable def fn_18p_t : List Dat → Tree (Nat × List Dat)
 | [.n n0, .n n1, .n n2, .l (Ty.int IntKind.u8) l3, .n n4] =>
 (let r1 := (op_43 [.n n0, .n n1, .n n2, .l TB l3, .n n4]);
 (.node (isK 0 [.l TB] r1)
 (.node (decide ((1 + List.length (gl TB (dOf r1) 0)) * 1 ≤ 140737488355328))
 (let r2 := (op_q13 [.l TB (([(3 : Int)] : List (Ty.den TB)) ++ gl TB (dOf r1) 0)]);
 (.node (isK 0 [.n] r2)
 (let r3 := (op_30 [.n (IntKind.wrap .u64 (gn (dOf r2) 0)), .n (4 : Int)]);
 (.node (isK 0 [.l TB] r3)
 (.node (decide ((List.length (([(3 : Int)] : List (Ty.den TB)) ++ gl TB (dOf r1) 0) + List.length (gl TB (dOf r3) 0)) * 1 ≤ 140737488355328))
 (.leaf ((0, [.l TB (([(3 : Int)] : List (Ty.den TB)) ++ gl TB (dOf r1) 0 ++ gl TB (dOf r3) 0)])))
 (.bad 62))
 (.bad 351)))
 (.bad 351)))
 (.bad 62))
 (.bad 351)))
 | _ => .bad 0
theorem fn_18p_t_im (n0 : Int) (n1 : Int) (n2 : Int) (l3 : List (Ty.den TB)) (n4 : Int) (g0 : l3.length = 64) : Imp (fn_18p_t [.n n0, .n n1, .n n2, .l TB l3, .n n4]) (ev_18p [.n n0, .n n1, .n n2, .l TB l3, .n n4]) :=
(.nd (fun h0 =>
(.pa [1]
(.nd (fun h1 =>
(.pa [1]
(.nd (fun h2 =>
(.pa [1,1]
(.nd (fun h3 =>
(.pa [1,1]
(.nd (fun h4 =>
(.pa [1,1]
.lf)) (fun h4 =>
.none)))) (fun h3 =>
.none)))) (fun h2 =>
.none)))) (fun h1 =>
.none)))) (fun h0 =>
.none))

noncomputable def cs_18p : FuncId → Option CSpec := csLend 36 B18p cs_43
theorem cs_18p_ok : CsOk Try.prog cs_18p := csLend_ok cs_43_ok B18p_ok

noncomputable def st_L17r_3 (env : List Dat) : Tree Step := Lk.stepMC false LK cs_18p 55 3 ls0 (mkM 0 [] [(sh 20 [(0, .imm TB 0), (3, .int .u64 1), (4, .int .i64 2)], [])] [] [(.exit 0, sh 20 [(3, .int .u64 0)], [])] fun _ => none) env
theorem op_L17r_3_ex : ExL st_L17r_3 := exL _
noncomputable def op_L17r_3 := Classical.choose op_L17r_3_ex
theorem op_L17r_3_eq (env : List Dat) : op_L17r_3 env = iterS st_L17r_3 FU env := Classical.choose_spec op_L17r_3_ex env
noncomputable def L17r_3 : MBox := mkM 0 [] [(sh 20 [(0, .imm TB 0), (3, .int .u64 1), (4, .int .i64 2)], [])] [] [(.exit 0, sh 20 [(3, .int .u64 0)], [])] op_L17r_3
theorem L17r_3_eqs : L17r_3 = mkM 0 [] [(sh 20 [(0, .imm TB 0), (3, .int .u64 1), (4, .int .i64 2)], [])] [] [(.exit 0, sh 20 [(3, .int .u64 0)], [])] (iterS st_L17r_3 FU) := congrArg (fun f => mkM 0 [] [(sh 20 [(0, .imm TB 0), (3, .int .u64 1), (4, .int .i64 2)], [])] [] [(.exit 0, sh 20 [(3, .int .u64 0)], [])] f) (funext op_L17r_3_eq)
theorem L17r_3_run : ∀ t s x, (manyRun L17r_3 t s).sel = some x → CodeOk Try.prog 0 (.loop (cAt Try.prog 55 3)) t s x := by
  rw [L17r_3_eqs]
  exact mkM_ok (st := st_L17r_3) (m := FU) cs_18p_ok hmix false (LsOk.none _ _ _) (by kernel_rfl) (fun env y h => by rw [← stepMC_lk]; exact h)

noncomputable def fn_L17r_3_t : List Dat → Tree Step
 | [.l (Ty.int IntKind.u8) l0, .n n1, .n n2] =>
 (.node (decide (n2 < (↑(List.length l0) : Int)))
 (.node (inR n2 (List.length l0))
 (.leaf (Step.go [.k 0, .l TB l0, .n (ior IntKind.u64 (ishl IntKind.u64 n1 (8 : Int)) (IntKind.wrap .u64 (List.getD l0 (Int.toNat n2) (0 : Int)))), .n (IntKind.wrap .i64 (n2 + (1 : Int)))]))
 (.bad 10))
 (.leaf (Step.stop 0 [.n n1])))
 | _ => .bad 0
theorem fn_L17r_3_t_im (l0 : List (Ty.den TB)) (n1 : Int) (n2 : Int) : Imp (fn_L17r_3_t [.l TB l0, .n n1, .n n2]) (st_L17r_3 [.k 0, .l TB l0, .n n1, .n n2]) :=
(.pa [1]
(.nd (fun h0 =>
(.pa [1]
(.nd (fun h1 =>
(.pa [1]
.lf)) (fun h1 =>
.none)))) (fun h0 =>
(.pa [1]
.lf))))

theorem ls_17r_ok : LsOk Try.prog (List.length ([] : List PB)) (lsM [(3, L17r_3)] (List.length ([] : List PB))) (bodyOf Try.prog 55) := LsOk.many fun j B hB hk c hc hi => by
  simp only [lookM] at hB
  split at hB
  · rename_i e; have := Nat.eq_of_beq_eq_true e; subst this; cases hB
    have e1 : loopAt Try.prog 55 3 = [cAt Try.prog 55 3] := loopAt_one (by kernel_rfl)
    have e2 : c ∈ loopAt Try.prog 55 3 := loopsAt_mem hc hi
    rw [e1] at e2; cases List.mem_singleton.1 e2; exact L17r_3_run
  cases hB

noncomputable def ev_17r (env : List Dat) : Tree (Nat × List Dat) := Lk.boxC false LK cs_18p 55 (lsM [(3, L17r_3)] (List.length ([] : List PB))) (mkF [.imm TB 0] [] [] [(.int .u64 0, [])] fun _ => none) env
theorem op_17r_ex : ExB ev_17r := exB _
noncomputable def op_17r := Classical.choose op_17r_ex
theorem op_17r_eq (env : List Dat) : op_17r env = (ev_17r env).sel := Classical.choose_spec op_17r_ex env
noncomputable def B17r : FBox := mkF [.imm TB 0] [] [] [(.int .u64 0, [])] op_17r
theorem B17r_ok : RunOk Try.prog 55 (boxRun B17r) := mkF_ok (op := op_17r) cs_18p_ok hmix false (ls_17r_ok) (fun env x h => by rw [op_17r_eq] at h; rw [← boxC_lk]; exact h)

noncomputable def fn_17r_t : List Dat → Tree (Nat × List Dat)
 | [.l (Ty.int IntKind.u8) l0] =>
 (let r1 := (op_L17r_3 [.k 0, .l TB l0, .n (0 : Int), .n (0 : Int)]);
 (.node (isK 0 [.n] r1)
 (.leaf ((0, [.n (gn (dOf r1) 0)])))
 (.bad 351)))
 | _ => .bad 0
theorem fn_17r_t_im (l0 : List (Ty.den TB)) : Imp (fn_17r_t [.l TB l0]) (ev_17r [.l TB l0]) :=
(.nd (fun h0 =>
(.pa [1]
.lf)) (fun h0 =>
.none))

noncomputable def cs_17r : FuncId → Option CSpec := csLend 55 B17r cs_18p
theorem cs_17r_ok : CsOk Try.prog cs_17r := csLend_ok cs_18p_ok B17r_ok

noncomputable def ev_33r (env : List Dat) : Tree (Nat × List Dat) := Lk.boxCV [(some 0, 0, .imm TB)] false LK cs_17r 52 ls0 (mkF [.ptr 0 0, .int .i64 0] [rdB 1] [0] [(.imm TB 0, [rdB 1]), (.nilsl, [rdB 0])] fun _ => none) env
theorem op_33r_ex : ExB ev_33r := exB _
noncomputable def op_33r := Classical.choose op_33r_ex
theorem op_33r_eq (env : List Dat) : op_33r env = (ev_33r env).sel := Classical.choose_spec op_33r_ex env
noncomputable def B33r : FBox := mkF [.ptr 0 0, .int .i64 0] [rdB 1] [0] [(.imm TB 0, [rdB 1]), (.nilsl, [rdB 0])] op_33r
theorem B33r_ok : RunOk Try.prog 52 (boxRun B33r) := mkFV_ok (cv := [(some 0, 0, .imm TB)]) (op := op_33r) cs_17r_ok hmix false (LsOk.none _ _ _) (fun env x h => by rw [op_33r_eq] at h; rw [← boxCV_lk]; exact h)

noncomputable def fn_33r_t : List Dat → Tree (Nat × List Dat)
 | [.n n0, .l (Ty.int IntKind.u8) l1, .b b2] =>
 (.node (b2)
 (.leaf ((1, [.l TB [], .b true])))
 (.node (decide (n0 < (0 : Int)))
 (.leaf ((1, [.l TB [], .b true])))
 (.node (decide (n0 > (↑(List.length l1) : Int)))
 (.leaf ((1, [.l TB [], .b true])))
 (.node (true && decide ((0 : Int) ≤ n0))
 (.leaf ((0, [.l TB (List.take (Int.toNat n0) l1), .l TB (List.drop (Int.toNat n0) l1), .b b2])))
 (.bad 39)))))
 | _ => .bad 0
theorem fn_33r_t_im (n0 : Int) (l1 : List (Ty.den TB)) (b2 : Bool) : Imp (fn_33r_t [.n n0, .l TB l1, .b b2]) (ev_33r [.n n0, .l TB l1, .b b2]) :=
(.pa [0]
(.nd (fun h0 =>
(.pa [1,1,1,1,1]
.lf)) (fun h0 =>
(.nd (fun h1 =>
(.pa [1,1,1]
.lf)) (fun h1 =>
(.nd (fun h2 =>
(.pa [1]
.lf)) (fun h2 =>
(.sT ((decide (n0 = n0)))
(.pt (c := (decide ((0 : Int) ≤ n0) && decide (n0 ≤ (↑(List.length l1) : Int)))) (by kernel_rfl) (by kernel_rfl) (by (simp only [w64d, decide_eq_true_eq, decide_eq_false_iff_not, beq_iff_eq, beq_eq_false_iff_ne, bne_iff_ne, ne_eq, inR, Bool.and_eq_true, Bool.and_eq_false_iff, Bool.not_eq_true', Bool.not_eq_false', Bool.not_eq_eq_eq_not, Bool.not_true, Bool.not_false] at *; omega))
(.nd (fun h3 =>
(.sT ((true && decide ((↑(List.length l1) : Int) ≤ (↑(List.length l1) : Int))))
(.pt (c := (decide ((0 : Int) ≤ n0) && decide (n0 ≤ (↑(List.length l1) : Int)))) (by kernel_rfl) (by kernel_rfl) (by (simp only [w64d, decide_eq_true_eq, decide_eq_false_iff_not, beq_iff_eq, beq_eq_false_iff_ne, bne_iff_ne, ne_eq, inR, Bool.and_eq_true, Bool.and_eq_false_iff, Bool.not_eq_true', Bool.not_eq_false', Bool.not_eq_eq_eq_not, Bool.not_true, Bool.not_false] at *; omega))
(.pa [1]
.lf)))) (fun h3 =>
.none)))))))))))

noncomputable def cs_33r : FuncId → Option CSpec := csAdd 52 [B33r] cs_17r
theorem cs_33r_ok : CsOk Try.prog cs_33r := csAdd_ok cs_17r_ok fun B hB => by
  cases List.mem_singleton.1 hB
  exact B33r_ok

noncomputable def st_L34r_3 (env : List Dat) : Tree Step := Lk.stepMC false LK cs_33r 47 3 ls0 (mkM 1 [] [(sh 40 [(0, .ptr 0 0), (1, .int .i64 0), (5, .int .u64 1), (10, .imm TB 2), (11, .int .i64 3), (12, .int .i64 4)], [rdB 5]), (sh 40 [(0, .ptr 0 0), (1, .int .i64 0), (5, .int .u64 1), (10, .nilsl), (11, .int .i64 2), (12, .int .i64 3)], [rdB 4])] [] [(.exit 0, sh 40 [(0, .ptr 0 0), (1, .int .i64 0), (5, .int .u64 1)], [rdB 2])] fun _ => none) env
theorem op_L34r_3_ex : ExL st_L34r_3 := exL _
noncomputable def op_L34r_3 := Classical.choose op_L34r_3_ex
theorem op_L34r_3_eq (env : List Dat) : op_L34r_3 env = iterS st_L34r_3 FU env := Classical.choose_spec op_L34r_3_ex env
noncomputable def L34r_3 : MBox := mkM 1 [] [(sh 40 [(0, .ptr 0 0), (1, .int .i64 0), (5, .int .u64 1), (10, .imm TB 2), (11, .int .i64 3), (12, .int .i64 4)], [rdB 5]), (sh 40 [(0, .ptr 0 0), (1, .int .i64 0), (5, .int .u64 1), (10, .nilsl), (11, .int .i64 2), (12, .int .i64 3)], [rdB 4])] [] [(.exit 0, sh 40 [(0, .ptr 0 0), (1, .int .i64 0), (5, .int .u64 1)], [rdB 2])] op_L34r_3
theorem L34r_3_eqs : L34r_3 = mkM 1 [] [(sh 40 [(0, .ptr 0 0), (1, .int .i64 0), (5, .int .u64 1), (10, .imm TB 2), (11, .int .i64 3), (12, .int .i64 4)], [rdB 5]), (sh 40 [(0, .ptr 0 0), (1, .int .i64 0), (5, .int .u64 1), (10, .nilsl), (11, .int .i64 2), (12, .int .i64 3)], [rdB 4])] [] [(.exit 0, sh 40 [(0, .ptr 0 0), (1, .int .i64 0), (5, .int .u64 1)], [rdB 2])] (iterS st_L34r_3 FU) := congrArg (fun f => mkM 1 [] [(sh 40 [(0, .ptr 0 0), (1, .int .i64 0), (5, .int .u64 1), (10, .imm TB 2), (11, .int .i64 3), (12, .int .i64 4)], [rdB 5]), (sh 40 [(0, .ptr 0 0), (1, .int .i64 0), (5, .int .u64 1), (10, .nilsl), (11, .int .i64 2), (12, .int .i64 3)], [rdB 4])] [] [(.exit 0, sh 40 [(0, .ptr 0 0), (1, .int .i64 0), (5, .int .u64 1)], [rdB 2])] f) (funext op_L34r_3_eq)
theorem L34r_3_run : ∀ t s x, (manyRun L34r_3 t s).sel = some x → CodeOk Try.prog 1 (.loop (cAt Try.prog 47 3)) t s x := by
  rw [L34r_3_eqs]
  exact mkM_ok (st := st_L34r_3) (m := FU) cs_33r_ok hmix false (LsOk.none _ _ _) (by kernel_rfl) (fun env y h => by rw [← stepMC_lk]; exact h)

noncomputable def fn_L34r_3_i : List Dat → Tree Step
 | [.n n0, .n n1, .l (Ty.int IntKind.u8) l2, .n n3, .n n4, .l (Ty.int IntKind.u8) l5, .b b6] =>
 (.node (decide (n4 < n3))
 (.node (inR n4 (List.length l2))
 (.leaf (Step.go [.k 0, .n n0, .n (ior IntKind.u64 (ishl IntKind.u64 n1 (8 : Int)) (IntKind.wrap .u64 (List.getD l2 (Int.toNat n4) (0 : Int)))), .l TB l2, .n n3, .n (IntKind.wrap .i64 (n4 + (1 : Int))), .l TB l5, .b b6]))
 (.bad 10))
 (.leaf (Step.stop 0 [.n n0, .n n1, .l TB l5, .b b6])))
 | _ => .bad 0
theorem fn_L34r_3_i_im (n0 : Int) (n1 : Int) (l2 : List (Ty.den TB)) (n3 : Int) (n4 : Int) (l5 : List (Ty.den TB)) (b6 : Bool) : Imp (fn_L34r_3_i [.n n0, .n n1, .l TB l2, .n n3, .n n4, .l TB l5, .b b6]) (st_L34r_3 [.k 0, .n n0, .n n1, .l TB l2, .n n3, .n n4, .l TB l5, .b b6]) :=
(.pa [1]
(.nd (fun h0 =>
(.nd (fun h1 =>
(.pa [1,1]
.lf)) (fun h1 =>
.none))) (fun h0 =>
(.pa [1]
.lf))))

noncomputable def fn_L34r_3_n : List Dat → Tree Step
 | [.n n0, .n n1, .n n2, .n n3, .l (Ty.int IntKind.u8) l4, .b b5] =>
 (.leaf (Step.stop 0 [.n n0, .n n1, .l TB l4, .b b5]))
 | _ => .bad 0
theorem fn_L34r_3_n_im (n0 : Int) (n1 : Int) (n2 : Int) (n3 : Int) (l4 : List (Ty.den TB)) (b5 : Bool) (g0 : n2 = 0) (g1 :  n3 = 0) : Imp (fn_L34r_3_n [.n n0, .n n1, .n n2, .n n3, .l TB l4, .b b5]) (st_L34r_3 [.k 1, .n n0, .n n1, .n n2, .n n3, .l TB l4, .b b5]) :=
(.pa [1]
(.sF ((decide (n3 < n2)))
(.pa [1]
.lf)))

theorem ls_34r_ok : LsOk Try.prog (List.length ([rdB 1] : List PB)) (lsM [(3, L34r_3)] (List.length ([rdB 1] : List PB))) (bodyOf Try.prog 47) := LsOk.many fun j B hB hk c hc hi => by
  simp only [lookM] at hB
  split at hB
  · rename_i e; have := Nat.eq_of_beq_eq_true e; subst this; cases hB
    have e1 : loopAt Try.prog 47 3 = [cAt Try.prog 47 3] := loopAt_one (by kernel_rfl)
    have e2 : c ∈ loopAt Try.prog 47 3 := loopsAt_mem hc hi
    rw [e1] at e2; cases List.mem_singleton.1 e2; exact L34r_3_run
  cases hB

noncomputable def ev_34r (env : List Dat) : Tree (Nat × List Dat) := Lk.boxC false LK cs_33r 47 (lsM [(3, L34r_3)] (List.length ([rdB 1] : List PB))) (mkF [.ptr 0 0, .int .i64 0] [rdB 1] [0] [(.iface 5 (.int .u8 0), [rdB 1]), (.iface 120 (.int .u16 0), [rdB 1]), (.iface 24 (.int .u32 0), [rdB 1]), (.iface 22 (.int .u64 0), [rdB 1])] fun _ => none) env
theorem op_34r_ex : ExB ev_34r := exB _
noncomputable def op_34r := Classical.choose op_34r_ex
theorem op_34r_eq (env : List Dat) : op_34r env = (ev_34r env).sel := Classical.choose_spec op_34r_ex env
noncomputable def B34r : FBox := mkF [.ptr 0 0, .int .i64 0] [rdB 1] [0] [(.iface 5 (.int .u8 0), [rdB 1]), (.iface 120 (.int .u16 0), [rdB 1]), (.iface 24 (.int .u32 0), [rdB 1]), (.iface 22 (.int .u64 0), [rdB 1])] op_34r
theorem B34r_ok : RunOk Try.prog 47 (boxRun B34r) := mkF_ok (op := op_34r) cs_33r_ok hmix false (ls_34r_ok) (fun env x h => by rw [op_34r_eq] at h; rw [← boxC_lk]; exact h)

noncomputable def fn_34r_t : List Dat → Tree (Nat × List Dat)
 | [.n n0, .l (Ty.int IntKind.u8) l1, .b b2] =>
 (let r1 := (op_33r [.n n0, .l TB l1, .b b2]);
 (.node (isK 0 [.l TB, .l TB, .b] r1)
 (let r2 := (op_L34r_3 [.k 0, .n n0, .n (0 : Int), .l TB (gl TB (dOf r1) 0), .n (↑(List.length (gl TB (dOf r1) 0)) : Int), .n (0 : Int), .l TB (gl TB (dOf r1) 1), .b (gb (dOf r1) 2)]);
 (.node (isK 0 [.n, .n, .l TB, .b] r2)
 (.node (gn (dOf r2) 0 == (1 : Int))
 (.leaf ((0, [.n (IntKind.wrap .u8 (gn (dOf r2) 1)), .l TB (gl TB (dOf r2) 2), .b (gb (dOf r2) 3)])))
 (.node (gn (dOf r2) 0 == (2 : Int))
 (.leaf ((1, [.n (IntKind.wrap .u16 (gn (dOf r2) 1)), .l TB (gl TB (dOf r2) 2), .b (gb (dOf r2) 3)])))
 (.node (gn (dOf r2) 0 == (4 : Int))
 (.leaf ((2, [.n (IntKind.wrap .u32 (gn (dOf r2) 1)), .l TB (gl TB (dOf r2) 2), .b (gb (dOf r2) 3)])))
 (.leaf ((3, [.n (gn (dOf r2) 1), .l TB (gl TB (dOf r2) 2), .b (gb (dOf r2) 3)]))))))
 (.bad 351)))
 (.node (isK 1 [.l TB, .b] r1)
 (let r2 := (op_L34r_3 [.k 1, .n n0, .n (0 : Int), .n (0 : Int), .n (0 : Int), .l TB (gl TB (dOf r1) 0), .b (gb (dOf r1) 1)]);
 (.node (isK 0 [.n, .n, .l TB, .b] r2)
 (.node (gn (dOf r2) 0 == (1 : Int))
 (.leaf ((0, [.n (IntKind.wrap .u8 (gn (dOf r2) 1)), .l TB (gl TB (dOf r2) 2), .b (gb (dOf r2) 3)])))
 (.node (gn (dOf r2) 0 == (2 : Int))
 (.leaf ((1, [.n (IntKind.wrap .u16 (gn (dOf r2) 1)), .l TB (gl TB (dOf r2) 2), .b (gb (dOf r2) 3)])))
 (.node (gn (dOf r2) 0 == (4 : Int))
 (.leaf ((2, [.n (IntKind.wrap .u32 (gn (dOf r2) 1)), .l TB (gl TB (dOf r2) 2), .b (gb (dOf r2) 3)])))
 (.leaf ((3, [.n (gn (dOf r2) 1), .l TB (gl TB (dOf r2) 2), .b (gb (dOf r2) 3)]))))))
 (.bad 351)))
 (.bad 351))))
 | _ => .bad 0
theorem fn_34r_t_im (n0 : Int) (l1 : List (Ty.den TB)) (b2 : Bool) : Imp (fn_34r_t [.n n0, .l TB l1, .b b2]) (ev_34r [.n n0, .l TB l1, .b b2]) :=
(.pa [1]
(.nd (fun h0 =>
(.pa [1]
(.nd (fun h1 =>
(.nd (fun h2 =>
(.pa [1]
.lf)) (fun h2 =>
(.nd (fun h3 =>
(.pa [1]
.lf)) (fun h3 =>
(.nd (fun h4 =>
(.pa [1]
.lf)) (fun h4 =>
(.pa [1]
.lf)))))))) (fun h1 =>
.none)))) (fun h0 =>
(.nd (fun h1 =>
(.pa [1]
(.nd (fun h2 =>
(.nd (fun h3 =>
(.pa [1]
.lf)) (fun h3 =>
(.nd (fun h4 =>
(.pa [1]
.lf)) (fun h4 =>
(.nd (fun h5 =>
(.pa [1]
.lf)) (fun h5 =>
(.pa [1]
.lf)))))))) (fun h2 =>
.none)))) (fun h1 =>
.none)))))

noncomputable def cs_34r : FuncId → Option CSpec := csAdd 47 [B34r] cs_33r
theorem cs_34r_ok : CsOk Try.prog cs_34r := csAdd_ok cs_33r_ok fun B hB => by
  cases List.mem_singleton.1 hB
  exact B34r_ok

noncomputable def ev_13r (env : List Dat) : Tree (Nat × List Dat) := Lk.boxCV [(none, 0, .imm TB)] false LK cs_34r 16 ls0 (mkF [.imm TB 0] [] [] [(.ptr 0 0, [rdB 0])] fun _ => none) env
theorem op_13r_ex : ExB ev_13r := exB _
noncomputable def op_13r := Classical.choose op_13r_ex
theorem op_13r_eq (env : List Dat) : op_13r env = (ev_13r env).sel := Classical.choose_spec op_13r_ex env
noncomputable def B13r : FBox := mkF [.imm TB 0] [] [] [(.ptr 0 0, [rdB 0])] op_13r
theorem B13r_ok : RunOk Try.prog 16 (boxRun B13r) := mkFV_ok (cv := [(none, 0, .imm TB)]) (op := op_13r) cs_34r_ok hmix false (LsOk.none _ _ _) (fun env x h => by rw [op_13r_eq] at h; rw [← boxCV_lk]; exact h)

noncomputable def fn_13r_t : List Dat → Tree (Nat × List Dat)
 | [.l (Ty.int IntKind.u8) l0] =>
 (let r1 := (op_31 [.l TB l0]);
 (.node (isK 0 [.l TB] r1)
 (.leaf ((0, [.l TB (gl TB (dOf r1) 0), .b false])))
 (.bad 351)))
 | _ => .bad 0
theorem fn_13r_t_im (l0 : List (Ty.den TB)) : Imp (fn_13r_t [.l TB l0]) (ev_13r [.l TB l0]) :=
(.nd (fun h0 =>
(.pa [1,1]
.lf)) (fun h0 =>
.none))

noncomputable def cs_13r : FuncId → Option CSpec := csAdd 16 [B13r] cs_34r
theorem cs_13r_ok : CsOk Try.prog cs_13r := csAdd_ok cs_34r_ok fun B hB => by
  cases List.mem_singleton.1 hB
  exact B13r_ok

noncomputable def ev_77r (env : List Dat) : Tree (Nat × List Dat) := Lk.boxC false LK cs_13r 17 ls0 (mkF [.ptr 0 0] [rdB 0] [0] [(.int .u8 0, [rdB 1])] fun _ => none) env
theorem op_77r_ex : ExB ev_77r := exB _
noncomputable def op_77r := Classical.choose op_77r_ex
theorem op_77r_eq (env : List Dat) : op_77r env = (ev_77r env).sel := Classical.choose_spec op_77r_ex env
noncomputable def B77r : FBox := mkF [.ptr 0 0] [rdB 0] [0] [(.int .u8 0, [rdB 1])] op_77r
theorem B77r_ok : RunOk Try.prog 17 (boxRun B77r) := mkF_ok (op := op_77r) cs_13r_ok hmix false (LsOk.none _ _ _) (fun env x h => by rw [op_77r_eq] at h; rw [← boxC_lk]; exact h)

noncomputable def fn_77r_t : List Dat → Tree (Nat × List Dat)
 | [.l (Ty.int IntKind.u8) l0, .b b1] =>
 (let r1 := (op_34r [.n (1 : Int), .l TB l0, .b b1]);
 (.node (isK 0 [.n, .l TB, .b] r1)
 (.leaf ((0, [.n (gn (dOf r1) 0), .l TB (gl TB (dOf r1) 1), .b (gb (dOf r1) 2)])))
 (.node (isK 1 [.n, .l TB, .b] r1)
 (.bad 113)
 (.node (isK 2 [.n, .l TB, .b] r1)
 (.bad 113)
 (.node (isK 3 [.n, .l TB, .b] r1)
 (.bad 113)
 (.bad 351))))))
 | _ => .bad 0
theorem fn_77r_t_im (l0 : List (Ty.den TB)) (b1 : Bool) : Imp (fn_77r_t [.l TB l0, .b b1]) (ev_77r [.l TB l0, .b b1]) :=
(.pa [1]
(.nd (fun h0 =>
(.pa [1,1]
.lf)) (fun h0 =>
(.nd (fun h1 =>
(.pa [1]
.none)) (fun h1 =>
(.nd (fun h2 =>
(.pa [1]
.none)) (fun h2 =>
(.nd (fun h3 =>
(.pa [1]
.none)) (fun h3 =>
.none)))))))))

noncomputable def cs_77r : FuncId → Option CSpec := csAdd 17 [B77r] cs_13r
theorem cs_77r_ok : CsOk Try.prog cs_77r := csAdd_ok cs_13r_ok fun B hB => by
  cases List.mem_singleton.1 hB
  exact B77r_ok

noncomputable def ev_78r (env : List Dat) : Tree (Nat × List Dat) := Lk.boxC false LK cs_77r 48 ls0 (mkF [.ptr 0 0] [rdB 0] [0] [(.int .u64 0, [rdB 1])] fun _ => none) env
theorem op_78r_ex : ExB ev_78r := exB _
noncomputable def op_78r := Classical.choose op_78r_ex
theorem op_78r_eq (env : List Dat) : op_78r env = (ev_78r env).sel := Classical.choose_spec op_78r_ex env
noncomputable def B78r : FBox := mkF [.ptr 0 0] [rdB 0] [0] [(.int .u64 0, [rdB 1])] op_78r
theorem B78r_ok : RunOk Try.prog 48 (boxRun B78r) := mkF_ok (op := op_78r) cs_77r_ok hmix false (LsOk.none _ _ _) (fun env x h => by rw [op_78r_eq] at h; rw [← boxC_lk]; exact h)

noncomputable def fn_78r_t : List Dat → Tree (Nat × List Dat)
 | [.l (Ty.int IntKind.u8) l0, .b b1] =>
 (let r1 := (op_34r [.n (8 : Int), .l TB l0, .b b1]);
 (.node (isK 0 [.n, .l TB, .b] r1)
 (.bad 113)
 (.node (isK 1 [.n, .l TB, .b] r1)
 (.bad 113)
 (.node (isK 2 [.n, .l TB, .b] r1)
 (.bad 113)
 (.node (isK 3 [.n, .l TB, .b] r1)
 (.leaf ((0, [.n (gn (dOf r1) 0), .l TB (gl TB (dOf r1) 1), .b (gb (dOf r1) 2)])))
 (.bad 351))))))
 | _ => .bad 0
theorem fn_78r_t_im (l0 : List (Ty.den TB)) (b1 : Bool) : Imp (fn_78r_t [.l TB l0, .b b1]) (ev_78r [.l TB l0, .b b1]) :=
(.pa [1]
(.nd (fun h0 =>
(.pa [1]
.none)) (fun h0 =>
(.nd (fun h1 =>
(.pa [1]
.none)) (fun h1 =>
(.nd (fun h2 =>
(.pa [1]
.none)) (fun h2 =>
(.nd (fun h3 =>
(.pa [1,1]
.lf)) (fun h3 =>
.none)))))))))

noncomputable def cs_78r : FuncId → Option CSpec := csAdd 48 [B78r] cs_77r
theorem cs_78r_ok : CsOk Try.prog cs_78r := csAdd_ok cs_77r_ok fun B hB => by
  cases List.mem_singleton.1 hB
  exact B78r_ok

noncomputable def ev_79r (env : List Dat) : Tree (Nat × List Dat) := Lk.boxC false LK cs_78r 53 ls0 (mkF [.ptr 0 0] [rdB 0] [0] [(.int .u32 0, [rdB 1])] fun _ => none) env
theorem op_79r_ex : ExB ev_79r := exB _
noncomputable def op_79r := Classical.choose op_79r_ex
theorem op_79r_eq (env : List Dat) : op_79r env = (ev_79r env).sel := Classical.choose_spec op_79r_ex env
noncomputable def B79r : FBox := mkF [.ptr 0 0] [rdB 0] [0] [(.int .u32 0, [rdB 1])] op_79r
theorem B79r_ok : RunOk Try.prog 53 (boxRun B79r) := mkF_ok (op := op_79r) cs_78r_ok hmix false (LsOk.none _ _ _) (fun env x h => by rw [op_79r_eq] at h; rw [← boxC_lk]; exact h)

noncomputable def fn_79r_t : List Dat → Tree (Nat × List Dat)
 | [.l (Ty.int IntKind.u8) l0, .b b1] =>
 (let r1 := (op_34r [.n (4 : Int), .l TB l0, .b b1]);
 (.node (isK 0 [.n, .l TB, .b] r1)
 (.bad 113)
 (.node (isK 1 [.n, .l TB, .b] r1)
 (.bad 113)
 (.node (isK 2 [.n, .l TB, .b] r1)
 (.leaf ((0, [.n (gn (dOf r1) 0), .l TB (gl TB (dOf r1) 1), .b (gb (dOf r1) 2)])))
 (.node (isK 3 [.n, .l TB, .b] r1)
 (.bad 113)
 (.bad 351))))))
 | _ => .bad 0
theorem fn_79r_t_im (l0 : List (Ty.den TB)) (b1 : Bool) : Imp (fn_79r_t [.l TB l0, .b b1]) (ev_79r [.l TB l0, .b b1]) :=
(.pa [1]
(.nd (fun h0 =>
(.pa [1]
.none)) (fun h0 =>
(.nd (fun h1 =>
(.pa [1]
.none)) (fun h1 =>
(.nd (fun h2 =>
(.pa [1,1]
.lf)) (fun h2 =>
(.nd (fun h3 =>
(.pa [1]
.none)) (fun h3 =>
.none)))))))))

noncomputable def cs_79r : FuncId → Option CSpec := csAdd 53 [B79r] cs_78r
theorem cs_79r_ok : CsOk Try.prog cs_79r := csAdd_ok cs_78r_ok fun B hB => by
  cases List.mem_singleton.1 hB
  exact B79r_ok

noncomputable def ev_82r (env : List Dat) : Tree (Nat × List Dat) := Lk.boxC false LK cs_79r 20 ls0 (mkF [.ptr 0 0, .int .i64 0] [rdB 1] [0] [(.own 1, [rdB 0, .arr TB 2])] fun _ => none) env
theorem op_82r_ex : ExB ev_82r := exB _
noncomputable def op_82r := Classical.choose op_82r_ex
theorem op_82r_eq (env : List Dat) : op_82r env = (ev_82r env).sel := Classical.choose_spec op_82r_ex env
noncomputable def B82r : FBox := mkF [.ptr 0 0, .int .i64 0] [rdB 1] [0] [(.own 1, [rdB 0, .arr TB 2])] op_82r
theorem B82r_ok : RunOk Try.prog 20 (boxRun B82r) := mkF_ok (op := op_82r) cs_79r_ok hmix false (LsOk.none _ _ _) (fun env x h => by rw [op_82r_eq] at h; rw [← boxC_lk]; exact h)

noncomputable def fn_82r_t : List Dat → Tree (Nat × List Dat)
 | [.n n0, .l (Ty.int IntKind.u8) l1, .b b2] =>
 (let r1 := (op_33r [.n n0, .l TB l1, .b b2]);
 (.node (isK 0 [.l TB, .l TB, .b] r1)
 (let r2 := (op_31 [.l TB (gl TB (dOf r1) 0)]);
 (.node (isK 0 [.l TB] r2)
 (.leaf ((0, [.l TB (gl TB (dOf r1) 1), .b (gb (dOf r1) 2), .l TB (gl TB (dOf r2) 0)])))
 (.bad 351)))
 (.node (isK 1 [.l TB, .b] r1)
 (.leaf ((0, [.l TB (gl TB (dOf r1) 0), .b (gb (dOf r1) 1), .l TB (gl TB (dOf (op_31 [.l TB []])) 0)])))
 (.bad 351))))
 | _ => .bad 0
theorem fn_82r_t_im (n0 : Int) (l1 : List (Ty.den TB)) (b2 : Bool) : Imp (fn_82r_t [.n n0, .l TB l1, .b b2]) (ev_82r [.n n0, .l TB l1, .b b2]) :=
(.pa [1]
(.nd (fun h0 =>
(.pa [1]
(.nd (fun h1 =>
(.pa [1,1]
.lf)) (fun h1 =>
.none)))) (fun h0 =>
(.nd (fun h1 =>
(.pa [1,1,1,1]
.lf)) (fun h1 =>
.none)))))

noncomputable def cs_82r : FuncId → Option CSpec := csAdd 20 [B82r] cs_79r
theorem cs_82r_ok : CsOk Try.prog cs_82r := csAdd_ok cs_79r_ok fun B hB => by
  cases List.mem_singleton.1 hB
  exact B82r_ok

noncomputable def ev_74r (env : List Dat) : Tree (Nat × List Dat) := Lk.boxC false LK cs_82r 66 ls0 (mkF [.imm TB 0, .int .u8 1] [] [] [(.tup [.ptr 0 0, .bool 0], [rdB 1]), (.tup [.nilptr, .bool 0], [])] fun _ => none) env
theorem op_74r_ex : ExB ev_74r := exB _
noncomputable def op_74r := Classical.choose op_74r_ex
theorem op_74r_eq (env : List Dat) : op_74r env = (ev_74r env).sel := Classical.choose_spec op_74r_ex env
noncomputable def B74r : FBox := mkF [.imm TB 0, .int .u8 1] [] [] [(.tup [.ptr 0 0, .bool 0], [rdB 1]), (.tup [.nilptr, .bool 0], [])] op_74r
theorem B74r_ok : RunOk Try.prog 66 (boxRun B74r) := mkF_ok (op := op_74r) cs_82r_ok hmix false (LsOk.none _ _ _) (fun env x h => by rw [op_74r_eq] at h; rw [← boxC_lk]; exact h)

noncomputable def fn_74r_t : List Dat → Tree (Nat × List Dat)
 | [.l (Ty.int IntKind.u8) l0, .n n1] =>
 (.node (decide (IntKind.wrap .i64 ((↑(List.length l0) : Int) - (4 : Int)) < (1 : Int)))
 (.leaf ((1, [.b false])))
 (.node ((List.getD l0 0 (0 : Int) : Int) != n1)
 (.leaf ((1, [.b false])))
 (let r1 := (op_13r [.l TB (List.drop (Int.toNat (IntKind.wrap .i64 ((↑(List.length l0) : Int) - (4 : Int)))) l0)]);
 (.node (isK 0 [.l TB, .b] r1)
 (let r2 := (op_79r [.l TB (gl TB (dOf r1) 0), .b (gb (dOf r1) 1)]);
 (.node (isK 0 [.n, .l TB, .b] r2)
 (.node (true && decide ((0 : Int) ≤ IntKind.wrap .i64 ((↑(List.length l0) : Int) - (4 : Int))))
 (let r3 := (op_q12 [.l TB (List.take (Int.toNat (IntKind.wrap .i64 ((↑(List.length l0) : Int) - (4 : Int)))) l0)]);
 (.node (isK 0 [.n] r3)
 (.node (gn (dOf r2) 0 != gn (dOf r3) 0)
 (.leaf ((1, [.b false])))
 (.node (true && decide ((1 : Int) ≤ IntKind.wrap .i64 ((↑(List.length l0) : Int) - (4 : Int))))
 (let r4 := (op_13r [.l TB (List.drop 1 (List.take (Int.toNat (IntKind.wrap .i64 ((↑(List.length l0) : Int) - (4 : Int)))) l0))]);
 (.node (isK 0 [.l TB, .b] r4)
 (.leaf ((0, [.b true, .l TB (gl TB (dOf r4) 0), .b (gb (dOf r4) 1)])))
 (.bad 351)))
 (.bad 43)))
 (.bad 351)))
 (.bad 43))
 (.bad 351)))
 (.bad 351)))))
 | _ => .bad 0
theorem fn_74r_t_im (l0 : List (Ty.den TB)) (n1 : Int) : Imp (fn_74r_t [.l TB l0, .n n1]) (ev_74r [.l TB l0, .n n1]) :=
(.nd (fun h0 =>
(.pa [1,1,1,1,1,1]
.lf)) (fun h0 =>
(.pt (c := (inR (0 : Int) (List.length l0))) (by kernel_rfl) (by kernel_rfl) (by (simp only [w64d, decide_eq_true_eq, decide_eq_false_iff_not, beq_iff_eq, beq_eq_false_iff_ne, bne_iff_ne, ne_eq, inR, Bool.and_eq_true, Bool.and_eq_false_iff, Bool.not_eq_true', Bool.not_eq_false', Bool.not_eq_eq_eq_not, Bool.not_true, Bool.not_false] at *; omega))
(.nd (fun h1 =>
(.pa [1,1,1,1]
.lf)) (fun h1 =>
(.sT ((true && decide ((↑(List.length l0) : Int) ≤ (↑(List.length l0) : Int))))
(.pt (c := (decide ((0 : Int) ≤ IntKind.wrap .i64 ((↑(List.length l0) : Int) - (4 : Int))) && decide (IntKind.wrap .i64 ((↑(List.length l0) : Int) - (4 : Int)) ≤ (↑(List.length l0) : Int)))) (by kernel_rfl) (by kernel_rfl) (by (simp only [w64d, decide_eq_true_eq, decide_eq_false_iff_not, beq_iff_eq, beq_eq_false_iff_ne, bne_iff_ne, ne_eq, inR, Bool.and_eq_true, Bool.and_eq_false_iff, Bool.not_eq_true', Bool.not_eq_false', Bool.not_eq_eq_eq_not, Bool.not_true, Bool.not_false] at *; omega))
(.pa [1]
(.nd (fun h2 =>
(.pa [1,1]
(.nd (fun h3 =>
(.pa [1]
(.pt (c := (decide ((0 : Int) ≤ IntKind.wrap .i64 ((↑(List.length l0) : Int) - (4 : Int))) && decide (IntKind.wrap .i64 ((↑(List.length l0) : Int) - (4 : Int)) ≤ (↑(List.length l0) : Int)))) (by kernel_rfl) (by kernel_rfl) (by (simp only [w64d, decide_eq_true_eq, decide_eq_false_iff_not, beq_iff_eq, beq_eq_false_iff_ne, bne_iff_ne, ne_eq, inR, Bool.and_eq_true, Bool.and_eq_false_iff, Bool.not_eq_true', Bool.not_eq_false', Bool.not_eq_eq_eq_not, Bool.not_true, Bool.not_false] at *; omega))
(.nd (fun h4 =>
(.nd (fun h5 =>
(.pa [1,1]
(.nd (fun h6 =>
(.pa [1]
.lf)) (fun h6 =>
(.pt (c := (decide ((0 : Int) ≤ IntKind.wrap .i64 ((↑(List.length l0) : Int) - (4 : Int))) && decide (IntKind.wrap .i64 ((↑(List.length l0) : Int) - (4 : Int)) ≤ (↑(List.length l0) : Int)))) (by kernel_rfl) (by kernel_rfl) (by (simp only [w64d, decide_eq_true_eq, decide_eq_false_iff_not, beq_iff_eq, beq_eq_false_iff_ne, bne_iff_ne, ne_eq, inR, Bool.and_eq_true, Bool.and_eq_false_iff, Bool.not_eq_true', Bool.not_eq_false', Bool.not_eq_eq_eq_not, Bool.not_true, Bool.not_false] at *; omega))
(.nd (fun h7 =>
(.pa [1]
(.nd (fun h8 =>
(.pa [1,1]
.lf)) (fun h8 =>
.none)))) (fun h7 =>
.none))))))) (fun h5 =>
.none))) (fun h4 =>
.none))))) (fun h3 =>
.none)))) (fun h2 =>
.none))))))))))

noncomputable def cs_74r : FuncId → Option CSpec := csAdd 66 [B74r] cs_82r
theorem cs_74r_ok : CsOk Try.prog cs_74r := csAdd_ok cs_82r_ok fun B hB => by
  cases List.mem_singleton.1 hB
  exact B74r_ok

noncomputable def ev_52r (env : List Dat) : Tree (Nat × List Dat) := Lk.boxC false LK cs_74r 50 ls0 (mkF [.ptr 0 0] [rdB 0] [0] [(stV 0, [rdB 5])] fun _ => none) env
theorem op_52r_ex : ExB ev_52r := exB _
noncomputable def op_52r := Classical.choose op_52r_ex
theorem op_52r_eq (env : List Dat) : op_52r env = (ev_52r env).sel := Classical.choose_spec op_52r_ex env
noncomputable def B52r : FBox := mkF [.ptr 0 0] [rdB 0] [0] [(stV 0, [rdB 5])] op_52r
theorem B52r_ok : RunOk Try.prog 50 (boxRun B52r) := mkF_ok (op := op_52r) cs_74r_ok hmix false (LsOk.none _ _ _) (fun env x h => by rw [op_52r_eq] at h; rw [← boxC_lk]; exact h)

noncomputable def fn_52r_t : List Dat → Tree (Nat × List Dat)
 | [.l (Ty.int IntKind.u8) l0, .b b1] =>
 (let r1 := (op_78r [.l TB l0, .b b1]);
 (.node (isK 0 [.n, .l TB, .b] r1)
 (let r2 := (op_78r [.l TB (gl TB (dOf r1) 1), .b (gb (dOf r1) 2)]);
 (.node (isK 0 [.n, .l TB, .b] r2)
 (let r3 := (op_78r [.l TB (gl TB (dOf r2) 1), .b (gb (dOf r2) 2)]);
 (.node (isK 0 [.n, .l TB, .b] r3)
 (let r4 := (op_82r [.n (64 : Int), .l TB (gl TB (dOf r3) 1), .b (gb (dOf r3) 2)]);
 (.node (isK 0 [.l TB, .b, .l TB] r4)
 (let r5 := (op_79r [.l TB (gl TB (dOf r4) 0), .b (gb (dOf r4) 1)]);
 (.node (isK 0 [.n, .l TB, .b] r5)
 (.leaf ((0, [.n (gn (dOf r1) 0), .n (gn (dOf r2) 0), .n (gn (dOf r3) 0), .l TB (List.take 64 (gl TB (dOf r4) 2) ++ List.drop (List.length (gl TB (dOf r4) 2)) (List.replicate 64 (0 : Int))), .n (gn (dOf r5) 0), .l TB (gl TB (dOf r5) 1), .b (gb (dOf r5) 2)])))
 (.bad 351)))
 (.bad 351)))
 (.bad 351)))
 (.bad 351)))
 (.bad 351)))
 | _ => .bad 0
theorem fn_52r_t_im (l0 : List (Ty.den TB)) (b1 : Bool) : Imp (fn_52r_t [.l TB l0, .b b1]) (ev_52r [.l TB l0, .b b1]) :=
(.pa [1]
(.nd (fun h0 =>
(.pa [1,1]
(.nd (fun h1 =>
(.pa [1,1]
(.nd (fun h2 =>
(.pa [1,1,1]
(.nd (fun h3 =>
(.pa [1,1,1]
(.nd (fun h4 =>
(.pa [1,1]
.lf)) (fun h4 =>
.none)))) (fun h3 =>
.none)))) (fun h2 =>
.none)))) (fun h1 =>
.none)))) (fun h0 =>
.none)))

noncomputable def cs_52r : FuncId → Option CSpec := csAdd 50 [B52r] cs_74r
theorem cs_52r_ok : CsOk Try.prog cs_52r := csAdd_ok cs_74r_ok fun B hB => by
  cases List.mem_singleton.1 hB
  exact B52r_ok

noncomputable def ev_28r (env : List Dat) : Tree (Nat × List Dat) := Lk.boxC false LK cs_52r 19 ls0 (mkF [.imm TB 0] [] [] [(.tup [stV 0, .int .i64 5], [])] fun _ => none) env
theorem op_28r_ex : ExB ev_28r := exB _
noncomputable def op_28r := Classical.choose op_28r_ex
theorem op_28r_eq (env : List Dat) : op_28r env = (ev_28r env).sel := Classical.choose_spec op_28r_ex env
noncomputable def B28r : FBox := mkF [.imm TB 0] [] [] [(.tup [stV 0, .int .i64 5], [])] op_28r
theorem B28r_ok : RunOk Try.prog 19 (boxRun B28r) := mkF_ok (op := op_28r) cs_52r_ok hmix false (LsOk.none _ _ _) (fun env x h => by rw [op_28r_eq] at h; rw [← boxC_lk]; exact h)

noncomputable def fn_28r_t : List Dat → Tree (Nat × List Dat)
 | [.l (Ty.int IntKind.u8) l0] =>
 (let r1 := (op_74r [.l TB l0, .n (3 : Int)]);
 (.node (isK 0 [.b, .l TB, .b] r1)
 (.node (!gb (dOf r1) 0)
 (.leaf ((0, [.n (0 : Int), .n (0 : Int), .n (0 : Int), .l TB (List.replicate 64 (0 : Int)), .n (0 : Int), .n (130 : Int)])))
 (let r2 := (op_52r [.l TB (gl TB (dOf r1) 1), .b (gb (dOf r1) 2)]);
 (.node (isK 0 [.n, .n, .n, .l TB, .n, .l TB, .b] r2)
 (.node (gb (dOf r2) 6)
 (.leaf ((0, [.n (0 : Int), .n (0 : Int), .n (0 : Int), .l TB (List.replicate 64 (0 : Int)), .n (0 : Int), .n (130 : Int)])))
 (.node (decide ((↑(List.length (gl TB (dOf r2) 5)) : Int) > (0 : Int)))
 (.leaf ((0, [.n (0 : Int), .n (0 : Int), .n (0 : Int), .l TB (List.replicate 64 (0 : Int)), .n (0 : Int), .n (130 : Int)])))
 (.leaf ((0, [.n (gn (dOf r2) 0), .n (gn (dOf r2) 1), .n (gn (dOf r2) 2), .l TB (gl TB (dOf r2) 3), .n (gn (dOf r2) 4), .n (0 : Int)])))))
 (.bad 351))))
 (.node (isK 1 [.b] r1)
 (.node (!gb (dOf r1) 0)
 (.leaf ((0, [.n (0 : Int), .n (0 : Int), .n (0 : Int), .l TB (List.replicate 64 (0 : Int)), .n (0 : Int), .n (130 : Int)])))
 (.bad 340))
 (.bad 351))))
 | _ => .bad 0
theorem fn_28r_t_im (l0 : List (Ty.den TB)) : Imp (fn_28r_t [.l TB l0]) (ev_28r [.l TB l0]) :=
(.pa [1,1]
(.nd (fun h0 =>
(.pa [1]
(.nd (fun h1 =>
(.pa [1,1]
.lf)) (fun h1 =>
(.pa [1]
(.nd (fun h2 =>
(.pa [1,1,0,1]
(.nd (fun h3 =>
(.pa [1,1,1,1,1,1]
.lf)) (fun h3 =>
(.pa [1,0,1]
(.nd (fun h4 =>
(.pa [1,1,1,1]
.lf)) (fun h4 =>
(.pa [1,1,0,1,1]
.lf)))))))) (fun h2 =>
.none))))))) (fun h0 =>
(.nd (fun h1 =>
(.pa [1]
(.nd (fun h2 =>
(.pa [1,1]
.lf)) (fun h2 =>
(.pa [1]
.none))))) (fun h1 =>
.none)))))

noncomputable def cs_28r : FuncId → Option CSpec := csLend 19 B28r cs_52r
theorem cs_28r_ok : CsOk Try.prog cs_28r := csLend_ok cs_52r_ok B28r_ok

noncomputable def ev_47r (env : List Dat) : Tree (Nat × List Dat) := Lk.boxC false LK cs_28r 67 ls0 (mkF [.imm TB 0, .int .i64 1, .int .i64 2] [] [] [(.int .u64 0, [])] fun _ => none) env
theorem op_47r_ex : ExB ev_47r := exB _
noncomputable def op_47r := Classical.choose op_47r_ex
theorem op_47r_eq (env : List Dat) : op_47r env = (ev_47r env).sel := Classical.choose_spec op_47r_ex env
noncomputable def B47r : FBox := mkF [.imm TB 0, .int .i64 1, .int .i64 2] [] [] [(.int .u64 0, [])] op_47r
theorem B47r_ok : RunOk Try.prog 67 (boxRun B47r) := mkF_ok (op := op_47r) cs_28r_ok hmix false (LsOk.none _ _ _) (fun env x h => by rw [op_47r_eq] at h; rw [← boxC_lk]; exact h)

noncomputable def fn_47r_t : List Dat → Tree (Nat × List Dat)
 | [.l (Ty.int IntKind.u8) l0, .n n1, .n n2] =>
 (.node (decide (IntKind.wrap .i64 (n1 + n2) > (↑(List.length l0) : Int)))
 (.leaf ((0, [.n (0 : Int)])))
 (.node (decide ((0 : Int) ≤ IntKind.wrap .i64 (n1 + n2)) && decide (IntKind.wrap .i64 (n1 + n2) ≤ (↑(List.length l0) : Int)))
 (.node (decide ((0 : Int) ≤ n1) && decide (n1 ≤ IntKind.wrap .i64 (n1 + n2)))
 (let r1 := (op_17r [.l TB (List.drop (Int.toNat n1) (List.take (Int.toNat (IntKind.wrap .i64 (n1 + n2))) l0))]);
 (.node (isK 0 [.n] r1)
 (.leaf ((0, [.n (gn (dOf r1) 0)])))
 (.bad 351)))
 (.bad 43))
 (.bad 42)))
 | _ => .bad 0
theorem fn_47r_t_im (l0 : List (Ty.den TB)) (n1 : Int) (n2 : Int) : Imp (fn_47r_t [.l TB l0, .n n1, .n n2]) (ev_47r [.l TB l0, .n n1, .n n2]) :=
(.nd (fun h0 =>
(.pa [1]
.lf)) (fun h0 =>
(.nd (fun h1 =>
(.nd (fun h2 =>
(.nd (fun h3 =>
(.pa [1,1]
.lf)) (fun h3 =>
.none))) (fun h2 =>
.none))) (fun h1 =>
.none))))

noncomputable def cs_47r : FuncId → Option CSpec := csLend 67 B47r cs_28r
theorem cs_47r_ok : CsOk Try.prog cs_47r := csLend_ok cs_28r_ok B47r_ok

noncomputable def st_L54r_3 (env : List Dat) : Tree Step := Lk.stepMC false LK cs_47r 56 3 ls0 (mkM 0 [] [(sh 39 [(0, .imm TB 0), (1, .int .i64 1), (4, .ptr 0 0), (5, .ptr 1 0), (6, .int .i64 2)], [stB 3, stB 8])] [] [(.exit 0, sh 39 [(4, .ptr 0 0), (5, .ptr 1 0)], [stB 0, stB 5])] fun _ => none) env
theorem op_L54r_3_ex : ExL st_L54r_3 := exL _
noncomputable def op_L54r_3 := Classical.choose op_L54r_3_ex
theorem op_L54r_3_eq (env : List Dat) : op_L54r_3 env = iterS st_L54r_3 FU env := Classical.choose_spec op_L54r_3_ex env
noncomputable def L54r_3 : MBox := mkM 0 [] [(sh 39 [(0, .imm TB 0), (1, .int .i64 1), (4, .ptr 0 0), (5, .ptr 1 0), (6, .int .i64 2)], [stB 3, stB 8])] [] [(.exit 0, sh 39 [(4, .ptr 0 0), (5, .ptr 1 0)], [stB 0, stB 5])] op_L54r_3
theorem L54r_3_eqs : L54r_3 = mkM 0 [] [(sh 39 [(0, .imm TB 0), (1, .int .i64 1), (4, .ptr 0 0), (5, .ptr 1 0), (6, .int .i64 2)], [stB 3, stB 8])] [] [(.exit 0, sh 39 [(4, .ptr 0 0), (5, .ptr 1 0)], [stB 0, stB 5])] (iterS st_L54r_3 FU) := congrArg (fun f => mkM 0 [] [(sh 39 [(0, .imm TB 0), (1, .int .i64 1), (4, .ptr 0 0), (5, .ptr 1 0), (6, .int .i64 2)], [stB 3, stB 8])] [] [(.exit 0, sh 39 [(4, .ptr 0 0), (5, .ptr 1 0)], [stB 0, stB 5])] f) (funext op_L54r_3_eq)
theorem L54r_3_run : ∀ t s x, (manyRun L54r_3 t s).sel = some x → CodeOk Try.prog 0 (.loop (cAt Try.prog 56 3)) t s x := by
  rw [L54r_3_eqs]
  exact mkM_ok (st := st_L54r_3) (m := FU) cs_47r_ok hmix false (LsOk.none _ _ _) (by kernel_rfl) (fun env y h => by rw [← stepMC_lk]; exact h)

noncomputable def fn_L54r_3_t : List Dat → Tree Step
 | [.l (Ty.int IntKind.u8) l0, .n n1, .n n2, .n n3, .n n4, .n n5, .l (Ty.int IntKind.u8) l6, .n n7, .n n8, .n n9, .n n10, .l (Ty.int IntKind.u8) l11, .n n12] =>
 (.node (decide (n2 < (64 : Int)))
 (let r1 := (op_47r [.l TB l0, .n (IntKind.wrap .i64 (IntKind.wrap .i64 (n1 + (24 : Int)) + n2)), .n (1 : Int)]);
 (.node (isK 0 [.n] r1)
 (.leaf (Step.go [.k 0, .l TB l0, .n n1, .n (IntKind.wrap .i64 (n2 + (1 : Int))), .n n3, .n n4, .n n5, .l TB l6, .n n7, .n n8, .n n9, .n n10, .l TB (List.set l11 (Int.toNat n2) (IntKind.wrap .u8 (gn (dOf r1) 0))), .n n12]))
 (.bad 351)))
 (.leaf (Step.stop 0 [.n n3, .n n4, .n n5, .l TB l6, .n n7, .n n8, .n n9, .n n10, .l TB l11, .n n12])))
 | _ => .bad 0
theorem fn_L54r_3_t_im (l0 : List (Ty.den TB)) (n1 : Int) (n2 : Int) (n3 : Int) (n4 : Int) (n5 : Int) (l6 : List (Ty.den TB)) (n7 : Int) (n8 : Int) (n9 : Int) (n10 : Int) (l11 : List (Ty.den TB)) (n12 : Int) (g0 : 0 ≤ n2) (g1 :  l6.length = 64) (g2 :  l11.length = 64) : Imp (fn_L54r_3_t [.l TB l0, .n n1, .n n2, .n n3, .n n4, .n n5, .l TB l6, .n n7, .n n8, .n n9, .n n10, .l TB l11, .n n12]) (st_L54r_3 [.k 0, .l TB l0, .n n1, .n n2, .n n3, .n n4, .n n5, .l TB l6, .n n7, .n n8, .n n9, .n n10, .l TB l11, .n n12]) :=
(.pa [1]
(.nd (fun h0 =>
(.nd (fun h1 =>
(.pa [1]
(.pt (c := (inR n2 64)) (by kernel_rfl) (by kernel_rfl) (by (simp only [w64d, decide_eq_true_eq, decide_eq_false_iff_not, beq_iff_eq, beq_eq_false_iff_ne, bne_iff_ne, ne_eq, inR, Bool.and_eq_true, Bool.and_eq_false_iff, Bool.not_eq_true', Bool.not_eq_false', Bool.not_eq_eq_eq_not, Bool.not_true, Bool.not_false] at *; omega))
(.pa [1]
.lf)))) (fun h1 =>
.none))) (fun h0 =>
(.pa [1]
.lf))))

theorem ls_54r_ok : LsOk Try.prog (List.length ([] : List PB)) (lsM [(3, L54r_3)] (List.length ([] : List PB))) (bodyOf Try.prog 56) := LsOk.many fun j B hB hk c hc hi => by
  simp only [lookM] at hB
  split at hB
  · rename_i e; have := Nat.eq_of_beq_eq_true e; subst this; cases hB
    have e1 : loopAt Try.prog 56 3 = [cAt Try.prog 56 3] := loopAt_one (by kernel_rfl)
    have e2 : c ∈ loopAt Try.prog 56 3 := loopsAt_mem hc hi
    rw [e1] at e2; cases List.mem_singleton.1 e2; exact L54r_3_run
  cases hB

noncomputable def ev_54r (env : List Dat) : Tree (Nat × List Dat) := Lk.boxC false LK cs_47r 56 (lsM [(3, L54r_3)] (List.length ([] : List PB))) (mkF [.imm TB 0, .int .i64 1] [] [] [(stV 0, [])] fun _ => none) env
theorem op_54r_ex : ExB ev_54r := exB _
noncomputable def op_54r := Classical.choose op_54r_ex
theorem op_54r_eq (env : List Dat) : op_54r env = (ev_54r env).sel := Classical.choose_spec op_54r_ex env
noncomputable def B54r : FBox := mkF [.imm TB 0, .int .i64 1] [] [] [(stV 0, [])] op_54r
theorem B54r_ok : RunOk Try.prog 56 (boxRun B54r) := mkF_ok (op := op_54r) cs_47r_ok hmix false (ls_54r_ok) (fun env x h => by rw [op_54r_eq] at h; rw [← boxC_lk]; exact h)

noncomputable def fn_54r_t : List Dat → Tree (Nat × List Dat)
 | [.l (Ty.int IntKind.u8) l0, .n n1] =>
 (let r1 := (op_47r [.l TB l0, .n n1, .n (8 : Int)]);
 (.node (isK 0 [.n] r1)
 (let r2 := (op_47r [.l TB l0, .n (IntKind.wrap .i64 (n1 + (8 : Int))), .n (8 : Int)]);
 (.node (isK 0 [.n] r2)
 (let r3 := (op_47r [.l TB l0, .n (IntKind.wrap .i64 (n1 + (16 : Int))), .n (8 : Int)]);
 (.node (isK 0 [.n] r3)
 (let r4 := (op_47r [.l TB l0, .n (IntKind.wrap .i64 (n1 + (88 : Int))), .n (4 : Int)]);
 (.node (isK 0 [.n] r4)
 (let r5 := (op_L54r_3 [.k 0, .l TB l0, .n n1, .n (0 : Int), .n (0 : Int), .n (0 : Int), .n (0 : Int), .l TB (List.replicate 64 (0 : Int)), .n (0 : Int), .n (gn (dOf r1) 0), .n (gn (dOf r2) 0), .n (gn (dOf r3) 0), .l TB (List.replicate 64 (0 : Int)), .n (IntKind.wrap .u32 (gn (dOf r4) 0))]);
 (.node (isK 0 [.n, .n, .n, .l TB, .n, .n, .n, .n, .l TB, .n] r5)
 (.leaf ((0, [.n (gn (dOf r5) 5), .n (gn (dOf r5) 6), .n (gn (dOf r5) 7), .l TB (gl TB (dOf r5) 8), .n (gn (dOf r5) 9)])))
 (.bad 351)))
 (.bad 351)))
 (.bad 351)))
 (.bad 351)))
 (.bad 351)))
 | _ => .bad 0
theorem fn_54r_t_im (l0 : List (Ty.den TB)) (n1 : Int) : Imp (fn_54r_t [.l TB l0, .n n1]) (ev_54r [.l TB l0, .n n1]) :=
(.nd (fun h0 =>
(.pa [1]
(.nd (fun h1 =>
(.pa [1]
(.nd (fun h2 =>
(.pa [1]
(.nd (fun h3 =>
(.pa [1]
(.nd (fun h4 =>
(.pa [1]
.lf)) (fun h4 =>
.none)))) (fun h3 =>
.none)))) (fun h2 =>
.none)))) (fun h1 =>
.none)))) (fun h0 =>
.none))

noncomputable def cs_54r : FuncId → Option CSpec := csLend 56 B54r cs_47r
theorem cs_54r_ok : CsOk Try.prog cs_54r := csLend_ok cs_47r_ok B54r_ok

noncomputable def ev_29r (env : List Dat) : Tree (Nat × List Dat) := Lk.boxC false LK cs_54r 27 ls0 (mkF [.imm TB 0] [] [] [(.tup [stV 0, .bool 5], [])] fun _ => none) env
theorem op_29r_ex : ExB ev_29r := exB _
noncomputable def op_29r := Classical.choose op_29r_ex
theorem op_29r_eq (env : List Dat) : op_29r env = (ev_29r env).sel := Classical.choose_spec op_29r_ex env
noncomputable def B29r : FBox := mkF [.imm TB 0] [] [] [(.tup [stV 0, .bool 5], [])] op_29r
theorem B29r_ok : RunOk Try.prog 27 (boxRun B29r) := mkF_ok (op := op_29r) cs_54r_ok hmix false (LsOk.none _ _ _) (fun env x h => by rw [op_29r_eq] at h; rw [← boxC_lk]; exact h)

noncomputable def fn_29r_t : List Dat → Tree (Nat × List Dat)
 | [.l (Ty.int IntKind.u8) l0] =>
 (let r1 := (op_54r [.l TB l0, .n (1 : Int)]);
 (.node (isK 0 [.n, .n, .n, .l TB, .n] r1)
 (let r2 := (op_18p [.n (gn (dOf r1) 0), .n (gn (dOf r1) 1), .n (gn (dOf r1) 2), .l TB (gl TB (dOf r1) 3), .n (gn (dOf r1) 4)]);
 (.node (isK 0 [.l TB] r2)
 (.node (!strEq (strOf (gl TB (dOf r2) 0)) (strOf l0))
 (.leaf ((0, [.n (0 : Int), .n (0 : Int), .n (0 : Int), .l TB (List.replicate 64 (0 : Int)), .n (0 : Int), .b false])))
 (.leaf ((0, [.n (gn (dOf r1) 0), .n (gn (dOf r1) 1), .n (gn (dOf r1) 2), .l TB (gl TB (dOf r1) 3), .n (gn (dOf r1) 4), .b true]))))
 (.bad 351)))
 (.bad 351)))
 | _ => .bad 0
theorem fn_29r_t_im (l0 : List (Ty.den TB)) : Imp (fn_29r_t [.l TB l0]) (ev_29r [.l TB l0]) :=
(.nd (fun h0 =>
(.pa [1]
(.nd (fun h1 =>
(.pa [1,1]
(.nd (fun h2 =>
(.pa [1]
.lf)) (fun h2 =>
(.pa [1]
.lf))))) (fun h1 =>
.none)))) (fun h0 =>
.none))

noncomputable def cs_29r : FuncId → Option CSpec := csLend 27 B29r cs_54r
theorem cs_29r_ok : CsOk Try.prog cs_29r := csLend_ok cs_54r_ok B29r_ok

noncomputable def st_L86_3 (env : List Dat) : Tree Step := Lk.stepMC false LK cs_29r 54 3 ls0 (mkM 0 [] [(sh 24 [(3, .int .i64 0), (6, .imm TTm 1), (7, .int .i64 2), (8, .int .i64 3)], [])] [] [(.exit 0, sh 24 [], []), (.ret, sh 24 [(2, .bool 0)], [])] fun _ => none) env
theorem op_L86_3_ex : ExL st_L86_3 := exL _
noncomputable def op_L86_3 := Classical.choose op_L86_3_ex
theorem op_L86_3_eq (env : List Dat) : op_L86_3 env = iterS st_L86_3 FU env := Classical.choose_spec op_L86_3_ex env
noncomputable def L86_3 : MBox := mkM 0 [] [(sh 24 [(3, .int .i64 0), (6, .imm TTm 1), (7, .int .i64 2), (8, .int .i64 3)], [])] [] [(.exit 0, sh 24 [], []), (.ret, sh 24 [(2, .bool 0)], [])] op_L86_3
theorem L86_3_eqs : L86_3 = mkM 0 [] [(sh 24 [(3, .int .i64 0), (6, .imm TTm 1), (7, .int .i64 2), (8, .int .i64 3)], [])] [] [(.exit 0, sh 24 [], []), (.ret, sh 24 [(2, .bool 0)], [])] (iterS st_L86_3 FU) := congrArg (fun f => mkM 0 [] [(sh 24 [(3, .int .i64 0), (6, .imm TTm 1), (7, .int .i64 2), (8, .int .i64 3)], [])] [] [(.exit 0, sh 24 [], []), (.ret, sh 24 [(2, .bool 0)], [])] f) (funext op_L86_3_eq)
theorem L86_3_run : ∀ t s x, (manyRun L86_3 t s).sel = some x → CodeOk Try.prog 0 (.loop (cAt Try.prog 54 3)) t s x := by
  rw [L86_3_eqs]
  exact mkM_ok (st := st_L86_3) (m := FU) cs_29r_ok hmix false (LsOk.none _ _ _) (by kernel_rfl) (fun env y h => by rw [← stepMC_lk]; exact h)

noncomputable def fn_L86_3_t : List Dat → Tree Step
 | [.n n0, .l (Ty.pair (Ty.int IntKind.i64) (Ty.int IntKind.u8)) l1, .n n2, .n n3] =>
 (.node (decide (n3 < n2))
 (.node (decide ((tm_1 l1 n3 : Int) ≤ n0))
 (.leaf (Step.stop 1 [.b false]))
 (.node (decide ((tm_1 l1 n3 : Int) ≥ (64 : Int)))
 (.leaf (Step.stop 1 [.b false]))
 (.leaf (Step.go [.k 0, .n (tm_1 l1 n3), .l TTm l1, .n n2, .n (IntKind.wrap .i64 (n3 + (1 : Int)))]))))
 (.leaf (Step.stop 0 [])))
 | _ => .bad 0
theorem fn_L86_3_t_im (n0 : Int) (l1 : List (Ty.den TTm)) (n2 : Int) (n3 : Int) (g0 : 0 ≤ n3) (g1 :  n2 = (l1.length : Int)) : Imp (fn_L86_3_t [.n n0, .l TTm l1, .n n2, .n n3]) (st_L86_3 [.k 0, .n n0, .l TTm l1, .n n2, .n n3]) :=
(.pa [1]
(.nd (fun h0 =>
(.pt (c := (inR n3 (List.length l1))) (by kernel_rfl) (by kernel_rfl) (by (simp only [w64d, decide_eq_true_eq, decide_eq_false_iff_not, beq_iff_eq, beq_eq_false_iff_ne, bne_iff_ne, ne_eq, inR, Bool.and_eq_true, Bool.and_eq_false_iff, Bool.not_eq_true', Bool.not_eq_false', Bool.not_eq_eq_eq_not, Bool.not_true, Bool.not_false] at *; omega))
(.nd (fun h1 =>
(.pa [1,1,1]
.lf)) (fun h1 =>
(.nd (fun h2 =>
(.pa [1]
.lf)) (fun h2 =>
(.pa [1]
.lf))))))) (fun h0 =>
(.pa [1]
.lf))))

theorem ls_86_ok : LsOk Try.prog (List.length ([] : List PB)) (lsM [(3, L86_3)] (List.length ([] : List PB))) (bodyOf Try.prog 54) := LsOk.many fun j B hB hk c hc hi => by
  simp only [lookM] at hB
  split at hB
  · rename_i e; have := Nat.eq_of_beq_eq_true e; subst this; cases hB
    have e1 : loopAt Try.prog 54 3 = [cAt Try.prog 54 3] := loopAt_one (by kernel_rfl)
    have e2 : c ∈ loopAt Try.prog 54 3 := loopsAt_mem hc hi
    rw [e1] at e2; cases List.mem_singleton.1 e2; exact L86_3_run
  cases hB

noncomputable def ev_86 (env : List Dat) : Tree (Nat × List Dat) := Lk.boxC false LK cs_29r 54 (lsM [(3, L86_3)] (List.length ([] : List PB))) (mkF [.imm TTm 0] [] [] [(.bool 0, [])] fun _ => none) env
theorem op_86_ex : ExB ev_86 := exB _
noncomputable def op_86 := Classical.choose op_86_ex
theorem op_86_eq (env : List Dat) : op_86 env = (ev_86 env).sel := Classical.choose_spec op_86_ex env
noncomputable def B86 : FBox := mkF [.imm TTm 0] [] [] [(.bool 0, [])] op_86
theorem B86_ok : RunOk Try.prog 54 (boxRun B86) := mkF_ok (op := op_86) cs_29r_ok hmix false (ls_86_ok) (fun env x h => by rw [op_86_eq] at h; rw [← boxC_lk]; exact h)

noncomputable def fn_86_t : List Dat → Tree (Nat × List Dat)
 | [.l (Ty.pair (Ty.int IntKind.i64) (Ty.int IntKind.u8)) l0] =>
 (let r1 := (op_L86_3 [.k 0, .n (-1 : Int), .l TTm l0, .n (↑(List.length l0) : Int), .n (0 : Int)]);
 (.node (isK 0 [] r1)
 (.leaf ((0, [.b true])))
 (.node (isK 1 [.b] r1)
 (.leaf ((0, [.b (gb (dOf r1) 0)])))
 (.bad 351))))
 | _ => .bad 0
theorem fn_86_t_im (l0 : List (Ty.den TTm)) : Imp (fn_86_t [.l TTm l0]) (ev_86 [.l TTm l0]) :=
(.nd (fun h0 =>
(.pa [1]
.lf)) (fun h0 =>
(.nd (fun h1 =>
(.pa [1]
.lf)) (fun h1 =>
.none))))

noncomputable def cs_86 : FuncId → Option CSpec := csLend 54 B86 cs_29r
theorem cs_86_ok : CsOk Try.prog cs_86 := csLend_ok cs_29r_ok B86_ok

noncomputable def st_L87_2 (env : List Dat) : Tree Step := Lk.stepMC false LK cs_86 62 2 ls0 (mkM 0 [] [(sh 42 [(0, .imm TTm 0), (3, .int .i64 1)], [])] [] [(.exit 0, sh 42 [], []), (.ret, sh 42 [(2, .bool 0)], [])] fun _ => none) env
theorem op_L87_2_ex : ExL st_L87_2 := exL _
noncomputable def op_L87_2 := Classical.choose op_L87_2_ex
theorem op_L87_2_eq (env : List Dat) : op_L87_2 env = iterS st_L87_2 FU env := Classical.choose_spec op_L87_2_ex env
noncomputable def L87_2 : MBox := mkM 0 [] [(sh 42 [(0, .imm TTm 0), (3, .int .i64 1)], [])] [] [(.exit 0, sh 42 [], []), (.ret, sh 42 [(2, .bool 0)], [])] op_L87_2
theorem L87_2_eqs : L87_2 = mkM 0 [] [(sh 42 [(0, .imm TTm 0), (3, .int .i64 1)], [])] [] [(.exit 0, sh 42 [], []), (.ret, sh 42 [(2, .bool 0)], [])] (iterS st_L87_2 FU) := congrArg (fun f => mkM 0 [] [(sh 42 [(0, .imm TTm 0), (3, .int .i64 1)], [])] [] [(.exit 0, sh 42 [], []), (.ret, sh 42 [(2, .bool 0)], [])] f) (funext op_L87_2_eq)
theorem L87_2_run : ∀ t s x, (manyRun L87_2 t s).sel = some x → CodeOk Try.prog 0 (.loop (cAt Try.prog 62 2)) t s x := by
  rw [L87_2_eqs]
  exact mkM_ok (st := st_L87_2) (m := FU) cs_86_ok hmix false (LsOk.none _ _ _) (by kernel_rfl) (fun env y h => by rw [← stepMC_lk]; exact h)

noncomputable def fn_L87_2_t : List Dat → Tree Step
 | [.l (Ty.pair (Ty.int IntKind.i64) (Ty.int IntKind.u8)) l0, .n n1] =>
 (.node (decide (n1 < (↑(List.length l0) : Int)))
 (.node (decide ((tm_1 l0 n1 : Int) < (0 : Int)))
 (.leaf (Step.stop 1 [.b false]))
 (.node (decide ((tm_1 l0 n1 : Int) ≥ (64 : Int)))
 (.leaf (Step.stop 1 [.b false]))
 (.node (decide (n1 > (0 : Int)))
 (.node (inR (IntKind.wrap .i64 (n1 - (1 : Int))) (List.length l0))
 (.node (decide ((tm_1 l0 n1 : Int) ≤ (tm_1 l0 (IntKind.wrap .i64 (n1 - (1 : Int))) : Int)))
 (.leaf (Step.stop 1 [.b false]))
 (.leaf (Step.go [.k 0, .l TTm l0, .n (IntKind.wrap .i64 (n1 + (1 : Int)))])))
 (.bad 10))
 (.leaf (Step.go [.k 0, .l TTm l0, .n (IntKind.wrap .i64 (n1 + (1 : Int)))])))))
 (.leaf (Step.stop 0 [])))
 | _ => .bad 0
theorem fn_L87_2_t_im (l0 : List (Ty.den TTm)) (n1 : Int) (g0 : 0 ≤ n1) : Imp (fn_L87_2_t [.l TTm l0, .n n1]) (st_L87_2 [.k 0, .l TTm l0, .n n1]) :=
(.pa [1]
(.nd (fun h0 =>
(.pt (c := (inR n1 (List.length l0))) (by kernel_rfl) (by kernel_rfl) (by (simp only [w64d, decide_eq_true_eq, decide_eq_false_iff_not, beq_iff_eq, beq_eq_false_iff_ne, bne_iff_ne, ne_eq, inR, Bool.and_eq_true, Bool.and_eq_false_iff, Bool.not_eq_true', Bool.not_eq_false', Bool.not_eq_eq_eq_not, Bool.not_true, Bool.not_false] at *; omega))
(.nd (fun h1 =>
(.pa [1,1,1,1,1,1]
.lf)) (fun h1 =>
(.pt (c := (inR n1 (List.length l0))) (by kernel_rfl) (by kernel_rfl) (by (simp only [w64d, decide_eq_true_eq, decide_eq_false_iff_not, beq_iff_eq, beq_eq_false_iff_ne, bne_iff_ne, ne_eq, inR, Bool.and_eq_true, Bool.and_eq_false_iff, Bool.not_eq_true', Bool.not_eq_false', Bool.not_eq_eq_eq_not, Bool.not_true, Bool.not_false] at *; omega))
(.nd (fun h2 =>
(.pa [1,1,1,1]
.lf)) (fun h2 =>
(.nd (fun h3 =>
(.pt (c := (inR n1 (List.length l0))) (by kernel_rfl) (by kernel_rfl) (by (simp only [w64d, decide_eq_true_eq, decide_eq_false_iff_not, beq_iff_eq, beq_eq_false_iff_ne, bne_iff_ne, ne_eq, inR, Bool.and_eq_true, Bool.and_eq_false_iff, Bool.not_eq_true', Bool.not_eq_false', Bool.not_eq_eq_eq_not, Bool.not_true, Bool.not_false] at *; omega))
(.nd (fun h4 =>
(.pa [1]
(.nd (fun h5 =>
(.pa [1]
.lf)) (fun h5 =>
(.pa [1]
.lf))))) (fun h4 =>
.none)))) (fun h3 =>
(.pa [0,1,0,1]
.lf)))))))))) (fun h0 =>
(.pa [1]
.lf))))

theorem ls_87_ok : LsOk Try.prog (List.length ([] : List PB)) (lsM [(2, L87_2)] (List.length ([] : List PB))) (bodyOf Try.prog 62) := LsOk.many fun j B hB hk c hc hi => by
  simp only [lookM] at hB
  split at hB
  · rename_i e; have := Nat.eq_of_beq_eq_true e; subst this; cases hB
    have e1 : loopAt Try.prog 62 2 = [cAt Try.prog 62 2] := loopAt_one (by kernel_rfl)
    have e2 : c ∈ loopAt Try.prog 62 2 := loopsAt_mem hc hi
    rw [e1] at e2; cases List.mem_singleton.1 e2; exact L87_2_run
  cases hB

noncomputable def ev_87 (env : List Dat) : Tree (Nat × List Dat) := Lk.boxC false LK cs_86 62 (lsM [(2, L87_2)] (List.length ([] : List PB))) (mkF [.imm TTm 0] [] [] [(.bool 0, [])] fun _ => none) env
theorem op_87_ex : ExB ev_87 := exB _
noncomputable def op_87 := Classical.choose op_87_ex
theorem op_87_eq (env : List Dat) : op_87 env = (ev_87 env).sel := Classical.choose_spec op_87_ex env
noncomputable def B87 : FBox := mkF [.imm TTm 0] [] [] [(.bool 0, [])] op_87
theorem B87_ok : RunOk Try.prog 62 (boxRun B87) := mkF_ok (op := op_87) cs_86_ok hmix false (ls_87_ok) (fun env x h => by rw [op_87_eq] at h; rw [← boxC_lk]; exact h)

noncomputable def fn_87_t : List Dat → Tree (Nat × List Dat)
 | [.l (Ty.pair (Ty.int IntKind.i64) (Ty.int IntKind.u8)) l0] =>
 (let r1 := (op_L87_2 [.k 0, .l TTm l0, .n (0 : Int)]);
 (.node (isK 0 [] r1)
 (.leaf ((0, [.b true])))
 (.node (isK 1 [.b] r1)
 (.leaf ((0, [.b (gb (dOf r1) 0)])))
 (.bad 351))))
 | _ => .bad 0
theorem fn_87_t_im (l0 : List (Ty.den TTm)) : Imp (fn_87_t [.l TTm l0]) (ev_87 [.l TTm l0]) :=
(.nd (fun h0 =>
(.pa [1]
.lf)) (fun h0 =>
(.nd (fun h1 =>
(.pa [1]
.lf)) (fun h1 =>
.none))))

noncomputable def cs_87 : FuncId → Option CSpec := csLend 62 B87 cs_86
theorem cs_87_ok : CsOk Try.prog cs_87 := csLend_ok cs_86_ok B87_ok

noncomputable def st_L24_3 (env : List Dat) : Tree Step := Lk.stepMC false LK cs_87 9 3 ls0 (mkM (cv := [(3, [], 14, .own TTm)]) 0 [] [(sh 59 [(1, .ptr 0 0), (2, .ptr 1 0), (3, .ptr 2 0), (4, .int .i64 0)], [msB 1 (.imm TTm 15), msB 16 .nilsl, msB 30 (.own 3), .arr TTm 44])] [] [(.exit 0, sh 59 [(2, .ptr 0 0), (3, .ptr 1 0)], [msB 0 .nilsl, msB 14 (.own 2), .arr TTm 28])] fun _ => none) env
theorem op_L24_3_ex : ExL st_L24_3 := exL _
noncomputable def op_L24_3 := Classical.choose op_L24_3_ex
theorem op_L24_3_eq (env : List Dat) : op_L24_3 env = iterS st_L24_3 FU env := Classical.choose_spec op_L24_3_ex env
noncomputable def L24_3 : MBox := mkM (cv := [(3, [], 14, .own TTm)]) 0 [] [(sh 59 [(1, .ptr 0 0), (2, .ptr 1 0), (3, .ptr 2 0), (4, .int .i64 0)], [msB 1 (.imm TTm 15), msB 16 .nilsl, msB 30 (.own 3), .arr TTm 44])] [] [(.exit 0, sh 59 [(2, .ptr 0 0), (3, .ptr 1 0)], [msB 0 .nilsl, msB 14 (.own 2), .arr TTm 28])] op_L24_3
theorem L24_3_eqs : L24_3 = mkM (cv := [(3, [], 14, .own TTm)]) 0 [] [(sh 59 [(1, .ptr 0 0), (2, .ptr 1 0), (3, .ptr 2 0), (4, .int .i64 0)], [msB 1 (.imm TTm 15), msB 16 .nilsl, msB 30 (.own 3), .arr TTm 44])] [] [(.exit 0, sh 59 [(2, .ptr 0 0), (3, .ptr 1 0)], [msB 0 .nilsl, msB 14 (.own 2), .arr TTm 28])] (iterS st_L24_3 FU) := congrArg (fun f => mkM (cv := [(3, [], 14, .own TTm)]) 0 [] [(sh 59 [(1, .ptr 0 0), (2, .ptr 1 0), (3, .ptr 2 0), (4, .int .i64 0)], [msB 1 (.imm TTm 15), msB 16 .nilsl, msB 30 (.own 3), .arr TTm 44])] [] [(.exit 0, sh 59 [(2, .ptr 0 0), (3, .ptr 1 0)], [msB 0 .nilsl, msB 14 (.own 2), .arr TTm 28])] f) (funext op_L24_3_eq)
theorem L24_3_run : ∀ t s x, (manyRun L24_3 t s).sel = some x → CodeOk Try.prog 0 (.loop (cAt Try.prog 9 3)) t s x := by
  rw [L24_3_eqs]
  exact mkM_ok (st := st_L24_3) (m := FU) cs_87_ok hmix false (LsOk.none _ _ _) (by kernel_rfl) (fun env y h => by rw [← stepMC_lk]; exact h)

noncomputable def fn_L24_3_t : List Dat → Tree Step
 | (.n n0 :: .n n1 :: .n n2 :: .n n3 :: .n n4 :: .n n5 :: .n n6 :: .n n7 :: .n n8 :: .l (Ty.int IntKind.u8) l9 :: .n n10 :: .n n11 :: .n n12 :: .n n13 :: .n n14 :: .l (Ty.pair (Ty.int IntKind.i64) (Ty.int IntKind.u8)) l15 :: .n n16 :: .n n17 :: .n n18 :: .n n19 :: .n n20 :: .n n21 :: .n n22 :: .n n23 :: .l (Ty.int IntKind.u8) l24 :: .n n25 :: .n n26 :: .n n27 :: .n n28 :: .n n29 :: .n n30 :: .n n31 :: .n n32 :: .n n33 :: .n n34 :: .n n35 :: .n n36 :: .n n37 :: .l (Ty.int IntKind.u8) l38 :: .n n39 :: .n n40 :: .n n41 :: .n n42 :: .n n43 :: .l (Ty.pair (Ty.int IntKind.i64) (Ty.int IntKind.u8)) l44 :: []) =>
 (.node (decide (n0 < (↑(List.length l15) : Int)))
 (.node (decide ((List.length l44 + 1) * 16 ≤ 140737488355328))
 (.leaf (Step.go (.k 0 :: .n (IntKind.wrap .i64 (n0 + (1 : Int))) :: .n n1 :: .n n2 :: .n n3 :: .n n4 :: .n n5 :: .n n6 :: .n n7 :: .n n8 :: .l TB l9 :: .n n10 :: .n n11 :: .n n12 :: .n n13 :: .n n14 :: .l TTm l15 :: .n n16 :: .n n17 :: .n n18 :: .n n19 :: .n n20 :: .n n21 :: .n n22 :: .n n23 :: .l TB l24 :: .n n25 :: .n n26 :: .n n27 :: .n n28 :: .n n29 :: .n n30 :: .n n31 :: .n n32 :: .n n33 :: .n n34 :: .n n35 :: .n n36 :: .n n37 :: .l TB l38 :: .n n39 :: .n n40 :: .n n41 :: .n n42 :: .n n43 :: .l TTm (l44 ++ ([(tm_1 l15 n0, tm_2 l15 n0)] : List (Ty.den TTm))) :: [])))
 (.bad 62))
 (.leaf (Step.stop 0 [.n n16, .n n17, .n n18, .n n19, .n n20, .n n21, .n n22, .n n23, .l TB l24, .n n25, .n n26, .n n27, .n n28, .n n29, .n n30, .n n31, .n n32, .n n33, .n n34, .n n35, .n n36, .n n37, .l TB l38, .n n39, .n n40, .n n41, .n n42, .n n43, .l TTm l44])))
 | _ => .bad 0
theorem fn_L24_3_t_im (n0 : Int) (n1 : Int) (n2 : Int) (n3 : Int) (n4 : Int) (n5 : Int) (n6 : Int) (n7 : Int) (n8 : Int) (l9 : List (Ty.den TB)) (n10 : Int) (n11 : Int) (n12 : Int) (n13 : Int) (n14 : Int) (l15 : List (Ty.den TTm)) (n16 : Int) (n17 : Int) (n18 : Int) (n19 : Int) (n20 : Int) (n21 : Int) (n22 : Int) (n23 : Int) (l24 : List (Ty.den TB)) (n25 : Int) (n26 : Int) (n27 : Int) (n28 : Int) (n29 : Int) (n30 : Int) (n31 : Int) (n32 : Int) (n33 : Int) (n34 : Int) (n35 : Int) (n36 : Int) (n37 : Int) (l38 : List (Ty.den TB)) (n39 : Int) (n40 : Int) (n41 : Int) (n42 : Int) (n43 : Int) (l44 : List (Ty.den TTm)) (g0 : 0 ≤ n0) : Imp (fn_L24_3_t (.n n0 :: .n n1 :: .n n2 :: .n n3 :: .n n4 :: .n n5 :: .n n6 :: .n n7 :: .n n8 :: .l TB l9 :: .n n10 :: .n n11 :: .n n12 :: .n n13 :: .n n14 :: .l TTm l15 :: .n n16 :: .n n17 :: .n n18 :: .n n19 :: .n n20 :: .n n21 :: .n n22 :: .n n23 :: .l TB l24 :: .n n25 :: .n n26 :: .n n27 :: .n n28 :: .n n29 :: .n n30 :: .n n31 :: .n n32 :: .n n33 :: .n n34 :: .n n35 :: .n n36 :: .n n37 :: .l TB l38 :: .n n39 :: .n n40 :: .n n41 :: .n n42 :: .n n43 :: .l TTm l44 :: [])) (st_L24_3 [.k 0, .n n0, .n n1, .n n2, .n n3, .n n4, .n n5, .n n6, .n n7, .n n8, .l TB l9, .n n10, .n n11, .n n12, .n n13, .n n14, .l TTm l15, .n n16, .n n17, .n n18, .n n19, .n n20, .n n21, .n n22, .n n23, .l TB l24, .n n25, .n n26, .n n27, .n n28, .n n29, .n n30, .n n31, .n n32, .n n33, .n n34, .n n35, .n n36, .n n37, .l TB l38, .n n39, .n n40, .n n41, .n n42, .n n43, .l TTm l44]) :=
(.pa [1]
(.nd (fun h0 =>
(.pt (c := (inR n0 (List.length l15))) (by kernel_rfl) (by kernel_rfl) (by (simp only [w64d, decide_eq_true_eq, decide_eq_false_iff_not, beq_iff_eq, beq_eq_false_iff_ne, bne_iff_ne, ne_eq, inR, Bool.and_eq_true, Bool.and_eq_false_iff, Bool.not_eq_true', Bool.not_eq_false', Bool.not_eq_eq_eq_not, Bool.not_true, Bool.not_false] at *; omega))
(.pt (c := (inR n0 (List.length l15))) (by kernel_rfl) (by kernel_rfl) (by (simp only [w64d, decide_eq_true_eq, decide_eq_false_iff_not, beq_iff_eq, beq_eq_false_iff_ne, bne_iff_ne, ne_eq, inR, Bool.and_eq_true, Bool.and_eq_false_iff, Bool.not_eq_true', Bool.not_eq_false', Bool.not_eq_eq_eq_not, Bool.not_true, Bool.not_false] at *; omega))
(.nd (fun h1 =>
(.pa [1,1]
.lf)) (fun h1 =>
.none))))) (fun h0 =>
(.pa [1]
.lf))))

theorem ls_24_ok : LsOk Try.prog (List.length ([] : List PB)) (lsM [(3, L24_3)] (List.length ([] : List PB))) (bodyOf Try.prog 9) := LsOk.many fun j B hB hk c hc hi => by
  simp only [lookM] at hB
  split at hB
  · rename_i e; have := Nat.eq_of_beq_eq_true e; subst this; cases hB
    have e1 : loopAt Try.prog 9 3 = [cAt Try.prog 9 3] := loopAt_one (by kernel_rfl)
    have e2 : c ∈ loopAt Try.prog 9 3 := loopsAt_mem hc hi
    rw [e1] at e2; cases List.mem_singleton.1 e2; exact L24_3_run
  cases hB

noncomputable def ev_24 (env : List Dat) : Tree (Nat × List Dat) := Lk.boxC false LK cs_87 9 (lsM [(3, L24_3)] (List.length ([] : List PB))) (mkF [msV 0 (.imm TTm 14)] [] [] [(msV 0 (.own 0), [.arr TTm 14])] fun _ => none) env
theorem op_24_ex : ExB ev_24 := exB _
noncomputable def op_24 := Classical.choose op_24_ex
theorem op_24_eq (env : List Dat) : op_24 env = (ev_24 env).sel := Classical.choose_spec op_24_ex env
noncomputable def B24 : FBox := mkF [msV 0 (.imm TTm 14)] [] [] [(msV 0 (.own 0), [.arr TTm 14])] op_24
theorem B24_ok : RunOk Try.prog 9 (boxRun B24) := mkF_ok (op := op_24) cs_87_ok hmix false (ls_24_ok) (fun env x h => by rw [op_24_eq] at h; rw [← boxC_lk]; exact h)

noncomputable def fn_24_t : List Dat → Tree (Nat × List Dat)
 | [.n n0, .n n1, .n n2, .n n3, .n n4, .n n5, .n n6, .n n7, .l (Ty.int IntKind.u8) l8, .n n9, .n n10, .n n11, .n n12, .n n13, .l (Ty.pair (Ty.int IntKind.i64) (Ty.int IntKind.u8)) l14] =>
 (let r1 := (op_L24_3 (.k 0 :: .n (0 : Int) :: .n n0 :: .n n1 :: .n n2 :: .n n3 :: .n n4 :: .n n5 :: .n n6 :: .n n7 :: .l TB l8 :: .n n9 :: .n n10 :: .n n11 :: .n n12 :: .n n13 :: .l TTm l14 :: .n (0 : Int) :: .n (0 : Int) :: .n (0 : Int) :: .n (0 : Int) :: .n (0 : Int) :: .n (0 : Int) :: .n (0 : Int) :: .n (0 : Int) :: .l TB (List.replicate 64 (0 : Int)) :: .n (0 : Int) :: .n (0 : Int) :: .n (0 : Int) :: .n (0 : Int) :: .n (0 : Int) :: .n n0 :: .n n1 :: .n n2 :: .n n3 :: .n n4 :: .n n5 :: .n n6 :: .n n7 :: .l TB l8 :: .n n9 :: .n n10 :: .n n11 :: .n n12 :: .n n13 :: .l TTm [] :: []));
 (.node (isK 0 [.n, .n, .n, .n, .n, .n, .n, .n, .l TB, .n, .n, .n, .n, .n, .n, .n, .n, .n, .n, .n, .n, .n, .l TB, .n, .n, .n, .n, .n, .l TTm] r1)
 (.leaf ((0, [.n (gn (dOf r1) 14), .n (gn (dOf r1) 15), .n (gn (dOf r1) 16), .n (gn (dOf r1) 17), .n (gn (dOf r1) 18), .n (gn (dOf r1) 19), .n (gn (dOf r1) 20), .n (gn (dOf r1) 21), .l TB (gl TB (dOf r1) 22), .n (gn (dOf r1) 23), .n (gn (dOf r1) 24), .n (gn (dOf r1) 25), .n (gn (dOf r1) 26), .n (gn (dOf r1) 27), .l TTm (gl TTm (dOf r1) 28)])))
 (.bad 351)))
 | _ => .bad 0
theorem fn_24_t_im (n0 : Int) (n1 : Int) (n2 : Int) (n3 : Int) (n4 : Int) (n5 : Int) (n6 : Int) (n7 : Int) (l8 : List (Ty.den TB)) (n9 : Int) (n10 : Int) (n11 : Int) (n12 : Int) (n13 : Int) (l14 : List (Ty.den TTm)) : Imp (fn_24_t [.n n0, .n n1, .n n2, .n n3, .n n4, .n n5, .n n6, .n n7, .l TB l8, .n n9, .n n10, .n n11, .n n12, .n n13, .l TTm l14]) (ev_24 [.n n0, .n n1, .n n2, .n n3, .n n4, .n n5, .n n6, .n n7, .l TB l8, .n n9, .n n10, .n n11, .n n12, .n n13, .l TTm l14]) :=
(.nd (fun h0 =>
(.pa [1]
.lf)) (fun h0 =>
.none))

noncomputable def cs_24 : FuncId → Option CSpec := csLend 9 B24 cs_87
theorem cs_24_ok : CsOk Try.prog cs_24 := csLend_ok cs_87_ok B24_ok

noncomputable def st_L25_4 (env : List Dat) : Tree Step := Lk.stepMC false LK cs_24 10 4 ls0 (mkM 0 [] [(sh 101 [(2, .ptr 0 0), (3, .ptr 1 0), (5, .int .i64 0)], [msB 1 (.imm TTm 15), msB 16 (.imm TTm 30)])] [] [(.exit 0, sh 101 [], []), (.ret, sh 101 [(4, .bool 0)], [])] fun _ => none) env
theorem op_L25_4_ex : ExL st_L25_4 := exL _
noncomputable def op_L25_4 := Classical.choose op_L25_4_ex
theorem op_L25_4_eq (env : List Dat) : op_L25_4 env = iterS st_L25_4 FU env := Classical.choose_spec op_L25_4_ex env
noncomputable def L25_4 : MBox := mkM 0 [] [(sh 101 [(2, .ptr 0 0), (3, .ptr 1 0), (5, .int .i64 0)], [msB 1 (.imm TTm 15), msB 16 (.imm TTm 30)])] [] [(.exit 0, sh 101 [], []), (.ret, sh 101 [(4, .bool 0)], [])] op_L25_4
theorem L25_4_eqs : L25_4 = mkM 0 [] [(sh 101 [(2, .ptr 0 0), (3, .ptr 1 0), (5, .int .i64 0)], [msB 1 (.imm TTm 15), msB 16 (.imm TTm 30)])] [] [(.exit 0, sh 101 [], []), (.ret, sh 101 [(4, .bool 0)], [])] (iterS st_L25_4 FU) := congrArg (fun f => mkM 0 [] [(sh 101 [(2, .ptr 0 0), (3, .ptr 1 0), (5, .int .i64 0)], [msB 1 (.imm TTm 15), msB 16 (.imm TTm 30)])] [] [(.exit 0, sh 101 [], []), (.ret, sh 101 [(4, .bool 0)], [])] f) (funext op_L25_4_eq)
theorem L25_4_run : ∀ t s x, (manyRun L25_4 t s).sel = some x → CodeOk Try.prog 0 (.loop (cAt Try.prog 10 4)) t s x := by
  rw [L25_4_eqs]
  exact mkM_ok (st := st_L25_4) (m := FU) cs_24_ok hmix false (LsOk.none _ _ _) (by kernel_rfl) (fun env y h => by rw [← stepMC_lk]; exact h)

noncomputable def fn_L25_4_t : List Dat → Tree Step
 | (.n n0 :: .n n1 :: .n n2 :: .n n3 :: .n n4 :: .n n5 :: .n n6 :: .n n7 :: .n n8 :: .l (Ty.int IntKind.u8) l9 :: .n n10 :: .n n11 :: .n n12 :: .n n13 :: .n n14 :: .l (Ty.pair (Ty.int IntKind.i64) (Ty.int IntKind.u8)) l15 :: .n n16 :: .n n17 :: .n n18 :: .n n19 :: .n n20 :: .n n21 :: .n n22 :: .n n23 :: .l (Ty.int IntKind.u8) l24 :: .n n25 :: .n n26 :: .n n27 :: .n n28 :: .n n29 :: .l (Ty.pair (Ty.int IntKind.i64) (Ty.int IntKind.u8)) l30 :: []) =>
 (.node (decide (n0 < (↑(List.length l15) : Int)))
 (.node (!(tm_1 l15 n0 == tm_1 l30 n0 && (tm_2 l15 n0 == tm_2 l30 n0 && true)))
 (.leaf (Step.stop 1 [.b false]))
 (.leaf (Step.go (.k 0 :: .n (IntKind.wrap .i64 (n0 + (1 : Int))) :: .n n1 :: .n n2 :: .n n3 :: .n n4 :: .n n5 :: .n n6 :: .n n7 :: .n n8 :: .l TB l9 :: .n n10 :: .n n11 :: .n n12 :: .n n13 :: .n n14 :: .l TTm l15 :: .n n16 :: .n n17 :: .n n18 :: .n n19 :: .n n20 :: .n n21 :: .n n22 :: .n n23 :: .l TB l24 :: .n n25 :: .n n26 :: .n n27 :: .n n28 :: .n n29 :: .l TTm l30 :: []))))
 (.leaf (Step.stop 0 [])))
 | _ => .bad 0
theorem fn_L25_4_t_im (n0 : Int) (n1 : Int) (n2 : Int) (n3 : Int) (n4 : Int) (n5 : Int) (n6 : Int) (n7 : Int) (n8 : Int) (l9 : List (Ty.den TB)) (n10 : Int) (n11 : Int) (n12 : Int) (n13 : Int) (n14 : Int) (l15 : List (Ty.den TTm)) (n16 : Int) (n17 : Int) (n18 : Int) (n19 : Int) (n20 : Int) (n21 : Int) (n22 : Int) (n23 : Int) (l24 : List (Ty.den TB)) (n25 : Int) (n26 : Int) (n27 : Int) (n28 : Int) (n29 : Int) (l30 : List (Ty.den TTm)) (g0 : 0 ≤ n0) (g1 :  (l15.length : Int) = (l30.length : Int)) : Imp (fn_L25_4_t (.n n0 :: .n n1 :: .n n2 :: .n n3 :: .n n4 :: .n n5 :: .n n6 :: .n n7 :: .n n8 :: .l TB l9 :: .n n10 :: .n n11 :: .n n12 :: .n n13 :: .n n14 :: .l TTm l15 :: .n n16 :: .n n17 :: .n n18 :: .n n19 :: .n n20 :: .n n21 :: .n n22 :: .n n23 :: .l TB l24 :: .n n25 :: .n n26 :: .n n27 :: .n n28 :: .n n29 :: .l TTm l30 :: [])) (st_L25_4 [.k 0, .n n0, .n n1, .n n2, .n n3, .n n4, .n n5, .n n6, .n n7, .n n8, .l TB l9, .n n10, .n n11, .n n12, .n n13, .n n14, .l TTm l15, .n n16, .n n17, .n n18, .n n19, .n n20, .n n21, .n n22, .n n23, .l TB l24, .n n25, .n n26, .n n27, .n n28, .n n29, .l TTm l30]) :=
(.pa [1]
(.nd (fun h0 =>
(.pt (c := (inR n0 (List.length l15))) (by kernel_rfl) (by kernel_rfl) (by (simp only [w64d, decide_eq_true_eq, decide_eq_false_iff_not, beq_iff_eq, beq_eq_false_iff_ne, bne_iff_ne, ne_eq, inR, Bool.and_eq_true, Bool.and_eq_false_iff, Bool.not_eq_true', Bool.not_eq_false', Bool.not_eq_eq_eq_not, Bool.not_true, Bool.not_false] at *; omega))
(.pt (c := (inR n0 (List.length l30))) (by kernel_rfl) (by kernel_rfl) (by (simp only [w64d, decide_eq_true_eq, decide_eq_false_iff_not, beq_iff_eq, beq_eq_false_iff_ne, bne_iff_ne, ne_eq, inR, Bool.and_eq_true, Bool.and_eq_false_iff, Bool.not_eq_true', Bool.not_eq_false', Bool.not_eq_eq_eq_not, Bool.not_true, Bool.not_false] at *; omega))
(.pa [1]
(.nd (fun h1 =>
(.pa [1]
.lf)) (fun h1 =>
(.pa [1]
.lf))))))) (fun h0 =>
(.pa [1]
.lf))))

theorem ls_25_ok : LsOk Try.prog (List.length ([] : List PB)) (lsM [(4, L25_4)] (List.length ([] : List PB))) (bodyOf Try.prog 10) := LsOk.many fun j B hB hk c hc hi => by
  simp only [lookM] at hB
  split at hB
  · rename_i e; have := Nat.eq_of_beq_eq_true e; subst this; cases hB
    have e1 : loopAt Try.prog 10 4 = [cAt Try.prog 10 4] := loopAt_one (by kernel_rfl)
    have e2 : c ∈ loopAt Try.prog 10 4 := loopsAt_mem hc hi
    rw [e1] at e2; cases List.mem_singleton.1 e2; exact L25_4_run
  cases hB

noncomputable def ev_25 (env : List Dat) : Tree (Nat × List Dat) := Lk.boxC false LK cs_24 10 (lsM [(4, L25_4)] (List.length ([] : List PB))) (mkF [msV 0 (.imm TTm 14), msV 15 (.imm TTm 29)] [] [] [(.bool 0, [])] fun _ => none) env
theorem op_25_ex : ExB ev_25 := exB _
noncomputable def op_25 := Classical.choose op_25_ex
theorem op_25_eq (env : List Dat) : op_25 env = (ev_25 env).sel := Classical.choose_spec op_25_ex env
noncomputable def B25 : FBox := mkF [msV 0 (.imm TTm 14), msV 15 (.imm TTm 29)] [] [] [(.bool 0, [])] op_25
theorem B25_ok : RunOk Try.prog 10 (boxRun B25) := mkF_ok (op := op_25) cs_24_ok hmix false (ls_25_ok) (fun env x h => by rw [op_25_eq] at h; rw [← boxC_lk]; exact h)

noncomputable def fn_25_t : List Dat → Tree (Nat × List Dat)
 | [.n n0, .n n1, .n n2, .n n3, .n n4, .n n5, .n n6, .n n7, .l (Ty.int IntKind.u8) l8, .n n9, .n n10, .n n11, .n n12, .n n13, .l (Ty.pair (Ty.int IntKind.i64) (Ty.int IntKind.u8)) l14, .n n15, .n n16, .n n17, .n n18, .n n19, .n n20, .n n21, .n n22, .l (Ty.int IntKind.u8) l23, .n n24, .n n25, .n n26, .n n27, .n n28, .l (Ty.pair (Ty.int IntKind.i64) (Ty.int IntKind.u8)) l29] =>
 (.node (n0 != n15)
 (.leaf ((0, [.b false])))
 (.node (n1 != n16)
 (.leaf ((0, [.b false])))
 (.node (n2 != n17)
 (.leaf ((0, [.b false])))
 (.node (n3 != n18)
 (.leaf ((0, [.b false])))
 (.node (n4 != n19)
 (.leaf ((0, [.b false])))
 (.node (!(n5 == n20 && (n6 == n21 && (n7 == n22 && (eqL TB l8 l23 && (n9 == n24 && true))))))
 (.leaf ((0, [.b false])))
 (.node (n10 != n25)
 (.leaf ((0, [.b false])))
 (.node (n11 != n26)
 (.leaf ((0, [.b false])))
 (.node (n12 != n27)
 (.leaf ((0, [.b false])))
 (.node (n13 != n28)
 (.leaf ((0, [.b false])))
 (.node ((↑(List.length l14) : Int) != (↑(List.length l29) : Int))
 (.leaf ((0, [.b false])))
 (let r1 := (op_L25_4 (.k 0 :: .n (0 : Int) :: .n n0 :: .n n1 :: .n n2 :: .n n3 :: .n n4 :: .n n5 :: .n n6 :: .n n7 :: .l TB l8 :: .n n9 :: .n n10 :: .n n11 :: .n n12 :: .n n13 :: .l TTm l14 :: .n n15 :: .n n16 :: .n n17 :: .n n18 :: .n n19 :: .n n20 :: .n n21 :: .n n22 :: .l TB l23 :: .n n24 :: .n n25 :: .n n26 :: .n n27 :: .n n28 :: .l TTm l29 :: []));
 (.node (isK 0 [] r1)
 (.leaf ((0, [.b true])))
 (.node (isK 1 [.b] r1)
 (.leaf ((0, [.b (gb (dOf r1) 0)])))
 (.bad 351)))))))))))))))
 | _ => .bad 0
theorem fn_25_t_im (n0 : Int) (n1 : Int) (n2 : Int) (n3 : Int) (n4 : Int) (n5 : Int) (n6 : Int) (n7 : Int) (l8 : List (Ty.den TB)) (n9 : Int) (n10 : Int) (n11 : Int) (n12 : Int) (n13 : Int) (l14 : List (Ty.den TTm)) (n15 : Int) (n16 : Int) (n17 : Int) (n18 : Int) (n19 : Int) (n20 : Int) (n21 : Int) (n22 : Int) (l23 : List (Ty.den TB)) (n24 : Int) (n25 : Int) (n26 : Int) (n27 : Int) (n28 : Int) (l29 : List (Ty.den TTm)) : Imp (fn_25_t [.n n0, .n n1, .n n2, .n n3, .n n4, .n n5, .n n6, .n n7, .l TB l8, .n n9, .n n10, .n n11, .n n12, .n n13, .l TTm l14, .n n15, .n n16, .n n17, .n n18, .n n19, .n n20, .n n21, .n n22, .l TB l23, .n n24, .n n25, .n n26, .n n27, .n n28, .l TTm l29]) (ev_25 [.n n0, .n n1, .n n2, .n n3, .n n4, .n n5, .n n6, .n n7, .l TB l8, .n n9, .n n10, .n n11, .n n12, .n n13, .l TTm l14, .n n15, .n n16, .n n17, .n n18, .n n19, .n n20, .n n21, .n n22, .l TB l23, .n n24, .n n25, .n n26, .n n27, .n n28, .l TTm l29]) :=
(.nd (fun h0 =>
(.pa [1,1,1,1,1,1,1,1,1,1,1,1,1,1,1,1,1,1,1,1,1]
.lf)) (fun h0 =>
(.nd (fun h1 =>
(.pa [1,1,1,1,1,1,1,1,1,1,1,1,1,1,1,1,1,1,1]
.lf)) (fun h1 =>
(.nd (fun h2 =>
(.pa [1,1,1,1,1,1,1,1,1,1,1,1,1,1,1,1,1]
.lf)) (fun h2 =>
(.nd (fun h3 =>
(.pa [1,1,1,1,1,1,1,1,1,1,1,1,1,1,1]
.lf)) (fun h3 =>
(.nd (fun h4 =>
(.pa [1,1,1,1,1,1,1,1,1,1,1,1,1]
.lf)) (fun h4 =>
(.nd (fun h5 =>
(.pa [1,1,1,1,1,1,1,1,1,1,1]
.lf)) (fun h5 =>
(.nd (fun h6 =>
(.pa [1,1,1,1,1,1,1,1,1]
.lf)) (fun h6 =>
(.nd (fun h7 =>
(.pa [1,1,1,1,1,1,1]
.lf)) (fun h7 =>
(.nd (fun h8 =>
(.pa [1,1,1,1,1]
.lf)) (fun h8 =>
(.nd (fun h9 =>
(.pa [1,1,1]
.lf)) (fun h9 =>
(.nd (fun h10 =>
(.pa [1]
.lf)) (fun h10 =>
(.nd (fun h11 =>
(.pa [1]
.lf)) (fun h11 =>
(.nd (fun h12 =>
(.pa [1]
.lf)) (fun h12 =>
.none))))))))))))))))))))))))))

noncomputable def cs_25 : FuncId → Option CSpec := csLend 10 B25 cs_24
theorem cs_25_ok : CsOk Try.prog cs_25 := csLend_ok cs_24_ok B25_ok

noncomputable def st_L38w_2 (env : List Dat) : Tree Step := Lk.stepMC false LK cs_25 38 2 ls0 (mkM 0 [] [(sh 18 [(5, .imm TI 0), (6, .int .i64 1), (7, .int .i64 2)], [])] [] [(.exit 0, sh 18 [], []), (.ret, sh 18 [(2, .bool 0)], [])] fun _ => none) env
theorem op_L38w_2_ex : ExL st_L38w_2 := exL _
noncomputable def op_L38w_2 := Classical.choose op_L38w_2_ex
theorem op_L38w_2_eq (env : List Dat) : op_L38w_2 env = iterS st_L38w_2 FU env := Classical.choose_spec op_L38w_2_ex env
noncomputable def L38w_2 : MBox := mkM 0 [] [(sh 18 [(5, .imm TI 0), (6, .int .i64 1), (7, .int .i64 2)], [])] [] [(.exit 0, sh 18 [], []), (.ret, sh 18 [(2, .bool 0)], [])] op_L38w_2
theorem L38w_2_eqs : L38w_2 = mkM 0 [] [(sh 18 [(5, .imm TI 0), (6, .int .i64 1), (7, .int .i64 2)], [])] [] [(.exit 0, sh 18 [], []), (.ret, sh 18 [(2, .bool 0)], [])] (iterS st_L38w_2 FU) := congrArg (fun f => mkM 0 [] [(sh 18 [(5, .imm TI 0), (6, .int .i64 1), (7, .int .i64 2)], [])] [] [(.exit 0, sh 18 [], []), (.ret, sh 18 [(2, .bool 0)], [])] f) (funext op_L38w_2_eq)
theorem L38w_2_run : ∀ t s x, (manyRun L38w_2 t s).sel = some x → CodeOk Try.prog 0 (.loop (cAt Try.prog 38 2)) t s x := by
  rw [L38w_2_eqs]
  exact mkM_ok (st := st_L38w_2) (m := FU) cs_25_ok hmix false (LsOk.none _ _ _) (by kernel_rfl) (fun env y h => by rw [← stepMC_lk]; exact h)

noncomputable def fn_L38w_2_t : List Dat → Tree Step
 | [.l (Ty.int IntKind.i64) l0, .n n1, .n n2] =>
 (.node (decide (n2 < n1))
 (.node (decide ((List.getD l0 (Int.toNat n2) (0 : Int) : Int) < (0 : Int)))
 (.leaf (Step.stop 1 [.b false]))
 (.node (decide ((List.getD l0 (Int.toNat n2) (0 : Int) : Int) > (1099511627776 : Int)))
 (.leaf (Step.stop 1 [.b false]))
 (.leaf (Step.go [.k 0, .l TI l0, .n n1, .n (IntKind.wrap .i64 (n2 + (1 : Int)))]))))
 (.leaf (Step.stop 0 [])))
 | _ => .bad 0
theorem fn_L38w_2_t_im (l0 : List (Ty.den TI)) (n1 : Int) (n2 : Int) (g0 : 0 ≤ n2) (g1 :  n1 = (l0.length : Int)) : Imp (fn_L38w_2_t [.l TI l0, .n n1, .n n2]) (st_L38w_2 [.k 0, .l TI l0, .n n1, .n n2]) :=
(.pa [1]
(.nd (fun h0 =>
(.pt (c := (inR n2 (List.length l0))) (by kernel_rfl) (by kernel_rfl) (by (simp only [w64d, decide_eq_true_eq, decide_eq_false_iff_not, beq_iff_eq, beq_eq_false_iff_ne, bne_iff_ne, ne_eq, inR, Bool.and_eq_true, Bool.and_eq_false_iff, Bool.not_eq_true', Bool.not_eq_false', Bool.not_eq_eq_eq_not, Bool.not_true, Bool.not_false] at *; omega))
(.nd (fun h1 =>
(.pa [1,1,1]
.lf)) (fun h1 =>
(.nd (fun h2 =>
(.pa [1]
.lf)) (fun h2 =>
(.pa [1]
.lf))))))) (fun h0 =>
(.pa [1]
.lf))))

theorem ls_38w_ok : LsOk Try.prog (List.length ([] : List PB)) (lsM [(2, L38w_2)] (List.length ([] : List PB))) (bodyOf Try.prog 38) := LsOk.many fun j B hB hk c hc hi => by
  simp only [lookM] at hB
  split at hB
  · rename_i e; have := Nat.eq_of_beq_eq_true e; subst this; cases hB
    have e1 : loopAt Try.prog 38 2 = [cAt Try.prog 38 2] := loopAt_one (by kernel_rfl)
    have e2 : c ∈ loopAt Try.prog 38 2 := loopsAt_mem hc hi
    rw [e1] at e2; cases List.mem_singleton.1 e2; exact L38w_2_run
  cases hB

noncomputable def ev_38w (env : List Dat) : Tree (Nat × List Dat) := Lk.boxC false LK cs_25 38 (lsM [(2, L38w_2)] (List.length ([] : List PB))) (mkF [.imm TI 0] [] [] [(.bool 0, [])] fun _ => none) env
theorem op_38w_ex : ExB ev_38w := exB _
noncomputable def op_38w := Classical.choose op_38w_ex
theorem op_38w_eq (env : List Dat) : op_38w env = (ev_38w env).sel := Classical.choose_spec op_38w_ex env
noncomputable def B38w : FBox := mkF [.imm TI 0] [] [] [(.bool 0, [])] op_38w
theorem B38w_ok : RunOk Try.prog 38 (boxRun B38w) := mkF_ok (op := op_38w) cs_25_ok hmix false (ls_38w_ok) (fun env x h => by rw [op_38w_eq] at h; rw [← boxC_lk]; exact h)

noncomputable def fn_38w_t : List Dat → Tree (Nat × List Dat)
 | [.l (Ty.int IntKind.i64) l0] =>
 (let r1 := (op_L38w_2 [.k 0, .l TI l0, .n (↑(List.length l0) : Int), .n (0 : Int)]);
 (.node (isK 0 [] r1)
 (.leaf ((0, [.b true])))
 (.node (isK 1 [.b] r1)
 (.leaf ((0, [.b (gb (dOf r1) 0)])))
 (.bad 351))))
 | _ => .bad 0
theorem fn_38w_t_im (l0 : List (Ty.den TI)) : Imp (fn_38w_t [.l TI l0]) (ev_38w [.l TI l0]) :=
(.nd (fun h0 =>
(.pa [1]
.lf)) (fun h0 =>
(.nd (fun h1 =>
(.pa [1]
.lf)) (fun h1 =>
.none))))

noncomputable def cs_38w : FuncId → Option CSpec := csLend 38 B38w cs_25
theorem cs_38w_ok : CsOk Try.prog cs_38w := csLend_ok cs_25_ok B38w_ok

noncomputable def ev_24y (env : List Dat) : Tree (Nat × List Dat) := Lk.boxC false LK cs_38w 24 ls0 (mkF [msV 0 (.imm TTm 14)] [] [] [(.bool 0, [])] fun _ => none) env
theorem op_24y_ex : ExB ev_24y := exB _
noncomputable def op_24y := Classical.choose op_24y_ex
theorem op_24y_eq (env : List Dat) : op_24y env = (ev_24y env).sel := Classical.choose_spec op_24y_ex env
noncomputable def B24y : FBox := mkF [msV 0 (.imm TTm 14)] [] [] [(.bool 0, [])] op_24y
theorem B24y_ok : RunOk Try.prog 24 (boxRun B24y) := mkF_ok (op := op_24y) cs_38w_ok hmix false (LsOk.none _ _ _) (fun env x h => by rw [op_24y_eq] at h; rw [← boxC_lk]; exact h)

noncomputable def fn_24y_t : List Dat → Tree (Nat × List Dat)
 | [.n n0, .n n1, .n n2, .n n3, .n n4, .n n5, .n n6, .n n7, .l (Ty.int IntKind.u8) l8, .n n9, .n n10, .n n11, .n n12, .n n13, .l (Ty.pair (Ty.int IntKind.i64) (Ty.int IntKind.u8)) l14] =>
 (.node (decide (n0 ≥ (1 : Int)))
 (.node (decide (n0 ≤ (4 : Int)))
 (let r1 := (op_38w [.l TI [n1, n2, n3, n4]]);
 (.node (isK 0 [.b] r1)
 (.node (gb (dOf r1) 0)
 (let r2 := (op_86 [.l TTm l14]);
 (.node (isK 0 [.b] r2)
 (.leaf ((0, [.b (gb (dOf r2) 0)])))
 (.bad 351)))
 (.leaf ((0, [.b false]))))
 (.bad 351)))
 (.leaf ((0, [.b false]))))
 (.leaf ((0, [.b false]))))
 | _ => .bad 0
theorem fn_24y_t_im (n0 : Int) (n1 : Int) (n2 : Int) (n3 : Int) (n4 : Int) (n5 : Int) (n6 : Int) (n7 : Int) (l8 : List (Ty.den TB)) (n9 : Int) (n10 : Int) (n11 : Int) (n12 : Int) (n13 : Int) (l14 : List (Ty.den TTm)) : Imp (fn_24y_t [.n n0, .n n1, .n n2, .n n3, .n n4, .n n5, .n n6, .n n7, .l TB l8, .n n9, .n n10, .n n11, .n n12, .n n13, .l TTm l14]) (ev_24y [.n n0, .n n1, .n n2, .n n3, .n n4, .n n5, .n n6, .n n7, .l TB l8, .n n9, .n n10, .n n11, .n n12, .n n13, .l TTm l14]) :=
(.nd (fun h0 =>
(.nd (fun h1 =>
(.nd (fun h2 =>
(.pa [1]
(.nd (fun h3 =>
(.nd (fun h4 =>
(.pa [1,1]
.lf)) (fun h4 =>
.none))) (fun h3 =>
(.pa [0,1]
.lf))))) (fun h2 =>
.none))) (fun h1 =>
(.pa [0,0,0,1]
.lf)))) (fun h0 =>
(.pa [0,0,0,0,0,1]
.lf)))

noncomputable def cs_24y : FuncId → Option CSpec := csLend 24 B24y cs_38w
theorem cs_24y_ok : CsOk Try.prog cs_24y := csLend_ok cs_38w_ok B24y_ok

noncomputable def ev_25y (env : List Dat) : Tree (Nat × List Dat) := Lk.boxC false LK cs_24y 25 ls0 (mkF [msV 0 (.imm TTm 14)] [] [] [(.bool 0, [])] fun _ => none) env
theorem op_25y_ex : ExB ev_25y := exB _
noncomputable def op_25y := Classical.choose op_25y_ex
theorem op_25y_eq (env : List Dat) : op_25y env = (ev_25y env).sel := Classical.choose_spec op_25y_ex env
noncomputable def B25y : FBox := mkF [msV 0 (.imm TTm 14)] [] [] [(.bool 0, [])] op_25y
theorem B25y_ok : RunOk Try.prog 25 (boxRun B25y) := mkF_ok (op := op_25y) cs_24y_ok hmix false (LsOk.none _ _ _) (fun env x h => by rw [op_25y_eq] at h; rw [← boxC_lk]; exact h)

noncomputable def fn_25y_t : List Dat → Tree (Nat × List Dat)
 | [.n n0, .n n1, .n n2, .n n3, .n n4, .n n5, .n n6, .n n7, .l (Ty.int IntKind.u8) l8, .n n9, .n n10, .n n11, .n n12, .n n13, .l (Ty.pair (Ty.int IntKind.i64) (Ty.int IntKind.u8)) l14] =>
 (.node (n0 == (2 : Int))
 (.leaf ((0, [.b true])))
 (.node (n0 == (4 : Int))
 (.node (n1 == (0 : Int))
 (.node (n2 == (0 : Int))
 (.node (n3 == (0 : Int))
 (.leaf ((0, [.b (n4 == (0 : Int))])))
 (.leaf ((0, [.b false]))))
 (.leaf ((0, [.b false]))))
 (.leaf ((0, [.b false]))))
 (.node (n3 == (0 : Int))
 (.leaf ((0, [.b (n4 == (0 : Int))])))
 (.leaf ((0, [.b false]))))))
 | _ => .bad 0
theorem fn_25y_t_im (n0 : Int) (n1 : Int) (n2 : Int) (n3 : Int) (n4 : Int) (n5 : Int) (n6 : Int) (n7 : Int) (l8 : List (Ty.den TB)) (n9 : Int) (n10 : Int) (n11 : Int) (n12 : Int) (n13 : Int) (l14 : List (Ty.den TTm)) : Imp (fn_25y_t [.n n0, .n n1, .n n2, .n n3, .n n4, .n n5, .n n6, .n n7, .l TB l8, .n n9, .n n10, .n n11, .n n12, .n n13, .l TTm l14]) (ev_25y [.n n0, .n n1, .n n2, .n n3, .n n4, .n n5, .n n6, .n n7, .l TB l8, .n n9, .n n10, .n n11, .n n12, .n n13, .l TTm l14]) :=
(.nd (fun h0 =>
(.pa [1]
.lf)) (fun h0 =>
(.nd (fun h1 =>
(.nd (fun h2 =>
(.nd (fun h3 =>
(.nd (fun h4 =>
(.pa [1]
.lf)) (fun h4 =>
(.pa [0,1]
.lf)))) (fun h3 =>
(.pa [0,0,0,1]
.lf)))) (fun h2 =>
(.pa [0,0,0,0,0,1]
.lf)))) (fun h1 =>
(.nd (fun h2 =>
(.pa [1]
.lf)) (fun h2 =>
(.pa [0,1]
.lf)))))))

noncomputable def cs_25y : FuncId → Option CSpec := csLend 25 B25y cs_24y
theorem cs_25y_ok : CsOk Try.prog cs_25y := csLend_ok cs_24y_ok B25y_ok

noncomputable def st_L22d_7 (env : List Dat) : Tree Step := Lk.stepMC false LK cs_25y 22 7 ls0 (mkM (cv := [(3, [], 4, .own TTm)]) 1 [0] [(sh 36 [(0, .ptr 0 0), (2, .ptr 1 0), (3, .ptr 2 0), (19, .int .u8 0), (20, .int .u8 1)], [rdB 2, dlB 4 .nilsl, dlB 8 (.own 3), .arr TTm 12])] [] [(.exit 0, sh 36 [(0, .ptr 0 0), (2, .ptr 1 0), (3, .ptr 2 0)], [rdB 0, dlB 2 .nilsl, dlB 6 (.own 3), .arr TTm 10])] fun _ => none) env
theorem op_L22d_7_ex : ExL st_L22d_7 := exL _
noncomputable def op_L22d_7 := Classical.choose op_L22d_7_ex
theorem op_L22d_7_eq (env : List Dat) : op_L22d_7 env = iterS st_L22d_7 FU env := Classical.choose_spec op_L22d_7_ex env
noncomputable def L22d_7 : MBox := mkM (cv := [(3, [], 4, .own TTm)]) 1 [0] [(sh 36 [(0, .ptr 0 0), (2, .ptr 1 0), (3, .ptr 2 0), (19, .int .u8 0), (20, .int .u8 1)], [rdB 2, dlB 4 .nilsl, dlB 8 (.own 3), .arr TTm 12])] [] [(.exit 0, sh 36 [(0, .ptr 0 0), (2, .ptr 1 0), (3, .ptr 2 0)], [rdB 0, dlB 2 .nilsl, dlB 6 (.own 3), .arr TTm 10])] op_L22d_7
theorem L22d_7_eqs : L22d_7 = mkM (cv := [(3, [], 4, .own TTm)]) 1 [0] [(sh 36 [(0, .ptr 0 0), (2, .ptr 1 0), (3, .ptr 2 0), (19, .int .u8 0), (20, .int .u8 1)], [rdB 2, dlB 4 .nilsl, dlB 8 (.own 3), .arr TTm 12])] [] [(.exit 0, sh 36 [(0, .ptr 0 0), (2, .ptr 1 0), (3, .ptr 2 0)], [rdB 0, dlB 2 .nilsl, dlB 6 (.own 3), .arr TTm 10])] (iterS st_L22d_7 FU) := congrArg (fun f => mkM (cv := [(3, [], 4, .own TTm)]) 1 [0] [(sh 36 [(0, .ptr 0 0), (2, .ptr 1 0), (3, .ptr 2 0), (19, .int .u8 0), (20, .int .u8 1)], [rdB 2, dlB 4 .nilsl, dlB 8 (.own 3), .arr TTm 12])] [] [(.exit 0, sh 36 [(0, .ptr 0 0), (2, .ptr 1 0), (3, .ptr 2 0)], [rdB 0, dlB 2 .nilsl, dlB 6 (.own 3), .arr TTm 10])] f) (funext op_L22d_7_eq)
theorem L22d_7_run : ∀ t s x, (manyRun L22d_7 t s).sel = some x → CodeOk Try.prog 1 (.loop (cAt Try.prog 22 7)) t s x := by
  rw [L22d_7_eqs]
  exact mkM_ok (st := st_L22d_7) (m := FU) cs_25y_ok hmix false (LsOk.none _ _ _) (by kernel_rfl) (fun env y h => by rw [← stepMC_lk]; exact h)

noncomputable def fn_L22d_7_t : List Dat → Tree Step
 | [.n n0, .n n1, .l (Ty.int IntKind.u8) l2, .b b3, .n n4, .n n5, .n n6, .n n7, .l (Ty.pair (Ty.int IntKind.i64) (Ty.int IntKind.u8)) l8] =>
 (.node (decide (n1 < n0))
 (let r1 := (op_77r [.l TB l2, .b b3]);
 (.node (isK 0 [.n, .l TB, .b] r1)
 (let r2 := (op_77r [.l TB (gl TB (dOf r1) 1), .b (gb (dOf r1) 2)]);
 (.node (isK 0 [.n, .l TB, .b] r2)
 (.node (decide ((List.length l8 + 1) * 16 ≤ 140737488355328))
 (.leaf (Step.go [.k 0, .n n0, .n (IntKind.wrap .u8 (n1 + (1 : Int))), .l TB (gl TB (dOf r2) 1), .b (gb (dOf r2) 2), .n (0 : Int), .n (0 : Int), .n (0 : Int), .n (0 : Int), .n n4, .n n5, .n n6, .n n7, .l TTm (l8 ++ ([(IntKind.wrap .i64 (gn (dOf r1) 0), gn (dOf r2) 0)] : List (Ty.den TTm)))]))
 (.bad 62))
 (.bad 351)))
 (.bad 351)))
 (.leaf (Step.stop 0 [.l TB l2, .b b3, .n (0 : Int), .n (0 : Int), .n (0 : Int), .n (0 : Int), .n n4, .n n5, .n n6, .n n7, .l TTm l8])))
 | _ => .bad 0
theorem fn_L22d_7_t_im (n0 : Int) (n1 : Int) (l2 : List (Ty.den TB)) (b3 : Bool) (n4 : Int) (n5 : Int) (n6 : Int) (n7 : Int) (l8 : List (Ty.den TTm)) : Imp (fn_L22d_7_t [.n n0, .n n1, .l TB l2, .b b3, .n n4, .n n5, .n n6, .n n7, .l TTm l8]) (st_L22d_7 [.k 0, .n n0, .n n1, .l TB l2, .b b3, .n 0, .n 0, .n 0, .n 0, .n n4, .n n5, .n n6, .n n7, .l TTm l8]) :=
(.pa [1]
(.nd (fun h0 =>
(.pa [1]
(.nd (fun h1 =>
(.pa [1,1]
(.nd (fun h2 =>
(.pa [1]
(.nd (fun h3 =>
(.pa [1,1]
.lf)) (fun h3 =>
.none)))) (fun h2 =>
.none)))) (fun h1 =>
.none)))) (fun h0 =>
(.pa [1]
.lf))))

theorem ls_22d_ok : LsOk Try.prog (List.length ([rdB 0] : List PB)) (lsM [(7, L22d_7)] (List.length ([rdB 0] : List PB))) (bodyOf Try.prog 22) := LsOk.many fun j B hB hk c hc hi => by
  simp only [lookM] at hB
  split at hB
  · rename_i e; have := Nat.eq_of_beq_eq_true e; subst this; cases hB
    have e1 : loopAt Try.prog 22 7 = [cAt Try.prog 22 7] := loopAt_one (by kernel_rfl)
    have e2 : c ∈ loopAt Try.prog 22 7 := loopsAt_mem hc hi
    rw [e1] at e2; cases List.mem_singleton.1 e2; exact L22d_7_run
  cases hB

noncomputable def ev_22d (env : List Dat) : Tree (Nat × List Dat) := Lk.boxC false LK cs_25y 22 (lsM [(7, L22d_7)] (List.length ([rdB 0] : List PB))) (mkF [.ptr 0 0] [rdB 0] [0] [(dlV 0 (.own 1), [rdB 4, .arr TTm 6])] fun _ => none) env
theorem op_22d_ex : ExB ev_22d := exB _
noncomputable def op_22d := Classical.choose op_22d_ex
theorem op_22d_eq (env : List Dat) : op_22d env = (ev_22d env).sel := Classical.choose_spec op_22d_ex env
noncomputable def B22d : FBox := mkF [.ptr 0 0] [rdB 0] [0] [(dlV 0 (.own 1), [rdB 4, .arr TTm 6])] op_22d
theorem B22d_ok : RunOk Try.prog 22 (boxRun B22d) := mkF_ok (op := op_22d) cs_25y_ok hmix false (ls_22d_ok) (fun env x h => by rw [op_22d_eq] at h; rw [← boxC_lk]; exact h)

noncomputable def fn_22d_t : List Dat → Tree (Nat × List Dat)
 | [.l (Ty.int IntKind.u8) l0, .b b1] =>
 (let r1 := (op_78r [.l TB l0, .b b1]);
 (.node (isK 0 [.n, .l TB, .b] r1)
 (let r2 := (op_78r [.l TB (gl TB (dOf r1) 1), .b (gb (dOf r1) 2)]);
 (.node (isK 0 [.n, .l TB, .b] r2)
 (let r3 := (op_78r [.l TB (gl TB (dOf r2) 1), .b (gb (dOf r2) 2)]);
 (.node (isK 0 [.n, .l TB, .b] r3)
 (let r4 := (op_79r [.l TB (gl TB (dOf r3) 1), .b (gb (dOf r3) 2)]);
 (.node (isK 0 [.n, .l TB, .b] r4)
 (let r5 := (op_77r [.l TB (gl TB (dOf r4) 1), .b (gb (dOf r4) 2)]);
 (.node (isK 0 [.n, .l TB, .b] r5)
 (let r6 := (op_L22d_7 [.k 0, .n (gn (dOf r5) 0), .n (0 : Int), .l TB (gl TB (dOf r5) 1), .b (gb (dOf r5) 2), .n (0 : Int), .n (0 : Int), .n (0 : Int), .n (0 : Int), .n (gn (dOf r1) 0), .n (gn (dOf r2) 0), .n (gn (dOf r3) 0), .n (gn (dOf r4) 0), .l TTm []]);
 (.node (isK 0 [.l TB, .b, .n, .n, .n, .n, .n, .n, .n, .n, .l TTm] r6)
 (.leaf ((0, [.n (gn (dOf r6) 6), .n (gn (dOf r6) 7), .n (gn (dOf r6) 8), .n (gn (dOf r6) 9), .l TB (gl TB (dOf r6) 0), .b (gb (dOf r6) 1), .l TTm (gl TTm (dOf r6) 10)])))
 (.bad 351)))
 (.bad 351)))
 (.bad 351)))
 (.bad 351)))
 (.bad 351)))
 (.bad 351)))
 | _ => .bad 0
theorem fn_22d_t_im (l0 : List (Ty.den TB)) (b1 : Bool) : Imp (fn_22d_t [.l TB l0, .b b1]) (ev_22d [.l TB l0, .b b1]) :=
(.pa [1]
(.nd (fun h0 =>
(.pa [1,1]
(.nd (fun h1 =>
(.pa [1,1]
(.nd (fun h2 =>
(.pa [1,1]
(.nd (fun h3 =>
(.pa [1,1]
(.nd (fun h4 =>
(.pa [1]
(.nd (fun h5 =>
(.pa [1]
.lf)) (fun h5 =>
.none)))) (fun h4 =>
.none)))) (fun h3 =>
.none)))) (fun h2 =>
.none)))) (fun h1 =>
.none)))) (fun h0 =>
.none)))

noncomputable def cs_22d : FuncId → Option CSpec := csAdd 22 [B22d] cs_25y
theorem cs_22d_ok : CsOk Try.prog cs_22d := csAdd_ok cs_25y_ok fun B hB => by
  cases List.mem_singleton.1 hB
  exact B22d_ok

noncomputable def st_L29l_1 (env : List Dat) : Tree Step := Lk.stepMC false LK cs_22d 29 1 ls0 (mkM 3 [0, 1, 2] [(sh 17 [(0, .ptr 0 0), (6, .own 1), (7, .int .i64 0), (8, .int .i64 1)], [wrO 2, .arr TI 2, .arr TB 3])] [] [(.exit 0, sh 17 [(0, .ptr 0 0)], [wrO 2, .gone, .arr TB 0])] fun _ => none) env
theorem op_L29l_1_ex : ExL st_L29l_1 := exL _
noncomputable def op_L29l_1 := Classical.choose op_L29l_1_ex
theorem op_L29l_1_eq (env : List Dat) : op_L29l_1 env = iterS st_L29l_1 FU env := Classical.choose_spec op_L29l_1_ex env
noncomputable def L29l_1 : MBox := mkM 3 [0, 1, 2] [(sh 17 [(0, .ptr 0 0), (6, .own 1), (7, .int .i64 0), (8, .int .i64 1)], [wrO 2, .arr TI 2, .arr TB 3])] [] [(.exit 0, sh 17 [(0, .ptr 0 0)], [wrO 2, .gone, .arr TB 0])] op_L29l_1
theorem L29l_1_eqs : L29l_1 = mkM 3 [0, 1, 2] [(sh 17 [(0, .ptr 0 0), (6, .own 1), (7, .int .i64 0), (8, .int .i64 1)], [wrO 2, .arr TI 2, .arr TB 3])] [] [(.exit 0, sh 17 [(0, .ptr 0 0)], [wrO 2, .gone, .arr TB 0])] (iterS st_L29l_1 FU) := congrArg (fun f => mkM 3 [0, 1, 2] [(sh 17 [(0, .ptr 0 0), (6, .own 1), (7, .int .i64 0), (8, .int .i64 1)], [wrO 2, .arr TI 2, .arr TB 3])] [] [(.exit 0, sh 17 [(0, .ptr 0 0)], [wrO 2, .gone, .arr TB 0])] f) (funext op_L29l_1_eq)
theorem L29l_1_run : ∀ t s x, (manyRun L29l_1 t s).sel = some x → CodeOk Try.prog 3 (.loop (cAt Try.prog 29 1)) t s x := by
  rw [L29l_1_eqs]
  exact mkM_ok (st := st_L29l_1) (m := FU) cs_22d_ok hmix false (LsOk.none _ _ _) (by kernel_rfl) (fun env y h => by rw [← stepMC_lk]; exact h)

noncomputable def fn_L29l_1_t : List Dat → Tree Step
 | [.n n0, .n n1, .l (Ty.int IntKind.i64) l2, .l (Ty.int IntKind.u8) l3] =>
 (.node (decide (n1 < n0))
 (let r1 := (op_35b [.n (IntKind.wrap .u64 (List.getD l2 (Int.toNat n1) (0 : Int))), .n (8 : Int), .l TB l3]);
 (.node (isK 0 [.l TB] r1)
 (.leaf (Step.go [.k 0, .n n0, .n (IntKind.wrap .i64 (n1 + (1 : Int))), .l TI l2, .l TB (gl TB (dOf r1) 0)]))
 (.bad 351)))
 (.leaf (Step.stop 0 [.l TB l3])))
 | _ => .bad 0
theorem fn_L29l_1_t_im (n0 : Int) (n1 : Int) (l2 : List (Ty.den TI)) (l3 : List (Ty.den TB)) (g0 : 0 ≤ n1) (g1 :  n0 = (l2.length : Int)) : Imp (fn_L29l_1_t [.n n0, .n n1, .l TI l2, .l TB l3]) (st_L29l_1 [.k 0, .n n0, .n n1, .l TI l2, .l TB l3]) :=
(.pa [1]
(.nd (fun h0 =>
(.pt (c := (inR n1 (List.length l2))) (by kernel_rfl) (by kernel_rfl) (by (simp only [w64d, decide_eq_true_eq, decide_eq_false_iff_not, beq_iff_eq, beq_eq_false_iff_ne, bne_iff_ne, ne_eq, inR, Bool.and_eq_true, Bool.and_eq_false_iff, Bool.not_eq_true', Bool.not_eq_false', Bool.not_eq_eq_eq_not, Bool.not_true, Bool.not_false] at *; omega))
(.pa [1,1,0,0,0,0,1,1]
(.nd (fun h1 =>
(.pa [1,0,1,1,1]
.lf)) (fun h1 =>
.none))))) (fun h0 =>
(.pa [1]
.lf))))

theorem ls_29l_ok : LsOk Try.prog (List.length ([wrO 2, .arr TI 0, .arr TB 1] : List PB)) (lsM [(1, L29l_1)] (List.length ([wrO 2, .arr TI 0, .arr TB 1] : List PB))) (bodyOf Try.prog 29) := LsOk.many fun j B hB hk c hc hi => by
  simp only [lookM] at hB
  split at hB
  · rename_i e; have := Nat.eq_of_beq_eq_true e; subst this; cases hB
    have e1 : loopAt Try.prog 29 1 = [cAt Try.prog 29 1] := loopAt_one (by kernel_rfl)
    have e2 : c ∈ loopAt Try.prog 29 1 := loopsAt_mem hc hi
    rw [e1] at e2; cases List.mem_singleton.1 e2; exact L29l_1_run
  cases hB

noncomputable def ev_29l (env : List Dat) : Tree (Nat × List Dat) := Lk.boxC false LK cs_22d 29 (lsM [(1, L29l_1)] (List.length ([wrO 2, .arr TI 0, .arr TB 1] : List PB))) (mkF [.ptr 0 0, .own 1] [wrO 2, .arr TI 0, .arr TB 1] [0, 1, 2] [(.tup [], [wrO 2, .gone, .arr TB 0])] fun _ => none) env
theorem op_29l_ex : ExB ev_29l := exB _
noncomputable def op_29l := Classical.choose op_29l_ex
theorem op_29l_eq (env : List Dat) : op_29l env = (ev_29l env).sel := Classical.choose_spec op_29l_ex env
noncomputable def B29l : FBox := mkF [.ptr 0 0, .own 1] [wrO 2, .arr TI 0, .arr TB 1] [0, 1, 2] [(.tup [], [wrO 2, .gone, .arr TB 0])] op_29l
theorem B29l_ok : RunOk Try.prog 29 (boxRun B29l) := mkF_ok (op := op_29l) cs_22d_ok hmix false (ls_29l_ok) (fun env x h => by rw [op_29l_eq] at h; rw [← boxC_lk]; exact h)

noncomputable def fn_29l_t : List Dat → Tree (Nat × List Dat)
 | [.l (Ty.int IntKind.i64) l0, .l (Ty.int IntKind.u8) l1] =>
 (let r1 := (op_L29l_1 [.k 0, .n (↑(List.length l0) : Int), .n (0 : Int), .l TI l0, .l TB l1]);
 (.node (isK 0 [.l TB] r1)
 (.leaf ((0, [.l TB (gl TB (dOf r1) 0)])))
 (.bad 351)))
 | _ => .bad 0
theorem fn_29l_t_im (l0 : List (Ty.den TI)) (l1 : List (Ty.den TB)) : Imp (fn_29l_t [.l TI l0, .l TB l1]) (ev_29l [.l TI l0, .l TB l1]) :=
(.nd (fun h0 =>
(.pa [1]
.lf)) (fun h0 =>
.none))

noncomputable def cs_29l : FuncId → Option CSpec := csAdd 29 [B29l] cs_22d
theorem cs_29l_ok : CsOk Try.prog cs_29l := csAdd_ok cs_22d_ok fun B hB => by
  cases List.mem_singleton.1 hB
  exact B29l_ok

noncomputable def st_L32d_7 (env : List Dat) : Tree Step := Lk.stepMC false LK cs_29l 32 7 ls0 (mkM 2 [0, 1] [(sh 45 [(0, .ptr 0 0), (29, .imm TTm 0), (30, .int .i64 1), (31, .int .i64 2)], [wrO 1, .arr TB 3])] [] [(.exit 0, sh 45 [(0, .ptr 0 0)], [wrO 1, .arr TB 0])] fun _ => none) env
theorem op_L32d_7_ex : ExL st_L32d_7 := exL _
noncomputable def op_L32d_7 := Classical.choose op_L32d_7_ex
theorem op_L32d_7_eq (env : List Dat) : op_L32d_7 env = iterS st_L32d_7 FU env := Classical.choose_spec op_L32d_7_ex env
noncomputable def L32d_7 : MBox := mkM 2 [0, 1] [(sh 45 [(0, .ptr 0 0), (29, .imm TTm 0), (30, .int .i64 1), (31, .int .i64 2)], [wrO 1, .arr TB 3])] [] [(.exit 0, sh 45 [(0, .ptr 0 0)], [wrO 1, .arr TB 0])] op_L32d_7
theorem L32d_7_eqs : L32d_7 = mkM 2 [0, 1] [(sh 45 [(0, .ptr 0 0), (29, .imm TTm 0), (30, .int .i64 1), (31, .int .i64 2)], [wrO 1, .arr TB 3])] [] [(.exit 0, sh 45 [(0, .ptr 0 0)], [wrO 1, .arr TB 0])] (iterS st_L32d_7 FU) := congrArg (fun f => mkM 2 [0, 1] [(sh 45 [(0, .ptr 0 0), (29, .imm TTm 0), (30, .int .i64 1), (31, .int .i64 2)], [wrO 1, .arr TB 3])] [] [(.exit 0, sh 45 [(0, .ptr 0 0)], [wrO 1, .arr TB 0])] f) (funext op_L32d_7_eq)
theorem L32d_7_run : ∀ t s x, (manyRun L32d_7 t s).sel = some x → CodeOk Try.prog 2 (.loop (cAt Try.prog 32 7)) t s x := by
  rw [L32d_7_eqs]
  exact mkM_ok (st := st_L32d_7) (m := FU) cs_29l_ok hmix false (LsOk.none _ _ _) (by kernel_rfl) (fun env y h => by rw [← stepMC_lk]; exact h)

noncomputable def fn_L32d_7_t : List Dat → Tree Step
 | [.l (Ty.pair (Ty.int IntKind.i64) (Ty.int IntKind.u8)) l0, .n n1, .n n2, .l (Ty.int IntKind.u8) l3] =>
 (.node (decide (n2 < n1))
 (let r1 := (op_35b [.n (IntKind.wrap .u64 (IntKind.wrap .u8 (tm_1 l0 n2))), .n (1 : Int), .l TB l3]);
 (.node (isK 0 [.l TB] r1)
 (let r2 := (op_35b [.n (IntKind.wrap .u64 (tm_2 l0 n2)), .n (1 : Int), .l TB (gl TB (dOf r1) 0)]);
 (.node (isK 0 [.l TB] r2)
 (.leaf (Step.go [.k 0, .l TTm l0, .n n1, .n (IntKind.wrap .i64 (n2 + (1 : Int))), .l TB (gl TB (dOf r2) 0)]))
 (.bad 351)))
 (.bad 351)))
 (.leaf (Step.stop 0 [.l TB l3])))
 | _ => .bad 0
theorem fn_L32d_7_t_im (l0 : List (Ty.den TTm)) (n1 : Int) (n2 : Int) (l3 : List (Ty.den TB)) (g0 : 0 ≤ n2) (g1 :  n1 = (l0.length : Int)) : Imp (fn_L32d_7_t [.l TTm l0, .n n1, .n n2, .l TB l3]) (st_L32d_7 [.k 0, .l TTm l0, .n n1, .n n2, .l TB l3]) :=
(.pa [1]
(.nd (fun h0 =>
(.pt (c := (inR n2 (List.length l0))) (by kernel_rfl) (by kernel_rfl) (by (simp only [w64d, decide_eq_true_eq, decide_eq_false_iff_not, beq_iff_eq, beq_eq_false_iff_ne, bne_iff_ne, ne_eq, inR, Bool.and_eq_true, Bool.and_eq_false_iff, Bool.not_eq_true', Bool.not_eq_false', Bool.not_eq_eq_eq_not, Bool.not_true, Bool.not_false] at *; omega))
(.pa [1,1,0,1,1]
(.nd (fun h1 =>
(.pa [1,0,0,0,0,1,1,1,1,0,1,1]
(.nd (fun h2 =>
(.pa [1,0,0,0,0,1,1,1]
.lf)) (fun h2 =>
.none)))) (fun h1 =>
.none))))) (fun h0 =>
(.pa [1]
.lf))))

theorem ls_32d_ok : LsOk Try.prog (List.length ([wrO 1, .arr TB 5] : List PB)) (lsM [(7, L32d_7)] (List.length ([wrO 1, .arr TB 5] : List PB))) (bodyOf Try.prog 32) := LsOk.many fun j B hB hk c hc hi => by
  simp only [lookM] at hB
  split at hB
  · rename_i e; have := Nat.eq_of_beq_eq_true e; subst this; cases hB
    have e1 : loopAt Try.prog 32 7 = [cAt Try.prog 32 7] := loopAt_one (by kernel_rfl)
    have e2 : c ∈ loopAt Try.prog 32 7 := loopsAt_mem hc hi
    rw [e1] at e2; cases List.mem_singleton.1 e2; exact L32d_7_run
  cases hB

noncomputable def ev_32d (env : List Dat) : Tree (Nat × List Dat) := Lk.boxC false LK cs_29l 32 (lsM [(7, L32d_7)] (List.length ([wrO 1, .arr TB 5] : List PB))) (mkF [.ptr 0 0, dlV 0 (.imm TTm 4)] [wrO 1, .arr TB 5] [0, 1] [(.tup [], [wrO 1, .arr TB 0])] fun _ => none) env
theorem op_32d_ex : ExB ev_32d := exB _
noncomputable def op_32d := Classical.choose op_32d_ex
theorem op_32d_eq (env : List Dat) : op_32d env = (ev_32d env).sel := Classical.choose_spec op_32d_ex env
noncomputable def B32d : FBox := mkF [.ptr 0 0, dlV 0 (.imm TTm 4)] [wrO 1, .arr TB 5] [0, 1] [(.tup [], [wrO 1, .arr TB 0])] op_32d
theorem B32d_ok : RunOk Try.prog 32 (boxRun B32d) := mkF_ok (op := op_32d) cs_29l_ok hmix false (ls_32d_ok) (fun env x h => by rw [op_32d_eq] at h; rw [← boxC_lk]; exact h)

noncomputable def fn_32d_t : List Dat → Tree (Nat × List Dat)
 | [.n n0, .n n1, .n n2, .n n3, .l (Ty.pair (Ty.int IntKind.i64) (Ty.int IntKind.u8)) l4, .l (Ty.int IntKind.u8) l5] =>
 (let r1 := (op_35b [.n n0, .n (8 : Int), .l TB l5]);
 (.node (isK 0 [.l TB] r1)
 (let r2 := (op_35b [.n n1, .n (8 : Int), .l TB (gl TB (dOf r1) 0)]);
 (.node (isK 0 [.l TB] r2)
 (let r3 := (op_35b [.n n2, .n (8 : Int), .l TB (gl TB (dOf r2) 0)]);
 (.node (isK 0 [.l TB] r3)
 (let r4 := (op_35b [.n (IntKind.wrap .u64 n3), .n (4 : Int), .l TB (gl TB (dOf r3) 0)]);
 (.node (isK 0 [.l TB] r4)
 (let r5 := (op_35b [.n (IntKind.wrap .u64 (IntKind.wrap .u8 (↑(List.length l4) : Int))), .n (1 : Int), .l TB (gl TB (dOf r4) 0)]);
 (.node (isK 0 [.l TB] r5)
 (let r6 := (op_L32d_7 [.k 0, .l TTm l4, .n (↑(List.length l4) : Int), .n (0 : Int), .l TB (gl TB (dOf r5) 0)]);
 (.node (isK 0 [.l TB] r6)
 (.leaf ((0, [.l TB (gl TB (dOf r6) 0)])))
 (.bad 351)))
 (.bad 351)))
 (.bad 351)))
 (.bad 351)))
 (.bad 351)))
 (.bad 351)))
 | _ => .bad 0
theorem fn_32d_t_im (n0 : Int) (n1 : Int) (n2 : Int) (n3 : Int) (l4 : List (Ty.den TTm)) (l5 : List (Ty.den TB)) : Imp (fn_32d_t [.n n0, .n n1, .n n2, .n n3, .l TTm l4, .l TB l5]) (ev_32d [.n n0, .n n1, .n n2, .n n3, .l TTm l4, .l TB l5]) :=
(.pa [1,1,0,0,0,0,1,1]
(.nd (fun h0 =>
(.pa [1,0,1,1,1,1,0,0,0,0,1,1]
(.nd (fun h1 =>
(.pa [1,0,1,1,1,1,0,0,0,0,1,1]
(.nd (fun h2 =>
(.pa [1,0,1,1,1,1,0,0,0,1,1]
(.nd (fun h3 =>
(.pa [1,0,0,1,1,1,1,0,1,1]
(.nd (fun h4 =>
(.pa [1,0,0,0,0,1,1]
(.nd (fun h5 =>
(.pa [1]
.lf)) (fun h5 =>
.none)))) (fun h4 =>
.none)))) (fun h3 =>
.none)))) (fun h2 =>
.none)))) (fun h1 =>
.none)))) (fun h0 =>
.none)))

noncomputable def cs_32d : FuncId → Option CSpec := csAdd 32 [B32d] cs_29l
theorem cs_32d_ok : CsOk Try.prog cs_32d := csAdd_ok cs_29l_ok fun B hB => by
  cases List.mem_singleton.1 hB
  exact B32d_ok

noncomputable def ev_7p (env : List Dat) : Tree (Nat × List Dat) := Lk.boxCN [(0, TB)] false LK cs_32d 7 ls0 (mkF [msV 0 (.imm TTm 14)] [] [] [(.own 0, [.arr TB 0])] fun _ => none) env
theorem op_7p_ex : ExB ev_7p := exB _
noncomputable def op_7p := Classical.choose op_7p_ex
theorem op_7p_eq (env : List Dat) : op_7p env = (ev_7p env).sel := Classical.choose_spec op_7p_ex env
noncomputable def B7p : FBox := mkF [msV 0 (.imm TTm 14)] [] [] [(.own 0, [.arr TB 0])] op_7p
theorem B7p_ok : RunOk Try.prog 7 (boxRun B7p) := mkFN_ok (nils := [(0, TB)]) (op := op_7p) cs_32d_ok hmix false (LsOk.none _ _ _) (fun env x h => by rw [op_7p_eq] at h; rw [← boxCN_lk]; exact h)

noncomputable def fn_7p_t : List Dat → Tree (Nat × List Dat)
 | [.n n0, .n n1, .n n2, .n n3, .n n4, .n n5, .n n6, .n n7, .l (Ty.int IntKind.u8) l8, .n n9, .n n10, .n n11, .n n12, .n n13, .l (Ty.pair (Ty.int IntKind.i64) (Ty.int IntKind.u8)) l14] =>
 (let r1 := (op_24y [.n n0, .n n1, .n n2, .n n3, .n n4, .n n5, .n n6, .n n7, .l TB l8, .n n9, .n n10, .n n11, .n n12, .n n13, .l TTm l14]);
 (.node (isK 0 [.b] r1)
 (.node (!gb (dOf r1) 0)
 (.leaf ((0, [.l TB []])))
 (let r2 := (op_35a [.n (IntKind.wrap .u64 n0), .n (1 : Int)]);
 (.node (isK 0 [] r2)
 (.bad 340)
 (.node (isK 1 [.l TB] r2)
 (let r3 := (op_29l [.l TI [n1, n2, n3, n4], .l TB (gl TB (dOf r2) 0)]);
 (.node (isK 0 [.l TB] r3)
 (.node (n0 == (1 : Int))
 (let r4 := (op_11p [.n n5, .n n6, .n n7, .l TB l8, .n n9]);
 (.node (isK 0 [.l TB] r4)
 (.node (decide ((List.length (gl TB (dOf r3) 0) + List.length (gl TB (dOf r4) 0)) * 1 ≤ 140737488355328))
 (let r5 := (op_31 [.l TB (gl TB (dOf r3) 0 ++ gl TB (dOf r4) 0)]);
 (.node (isK 0 [.l TB] r5)
 (.leaf ((0, [.l TB (gl TB (dOf r5) 0)])))
 (.bad 351)))
 (.bad 62))
 (.bad 351)))
 (.node (n0 == (2 : Int))
 (let r4 := (op_32d [.n n10, .n n11, .n n12, .n n13, .l TTm l14, .l TB (gl TB (dOf r3) 0)]);
 (.node (isK 0 [.l TB] r4)
 (let r5 := (op_31 [.l TB (gl TB (dOf r4) 0)]);
 (.node (isK 0 [.l TB] r5)
 (.leaf ((0, [.l TB (gl TB (dOf r5) 0)])))
 (.bad 351)))
 (.bad 351)))
 (let r4 := (op_31 [.l TB (gl TB (dOf r3) 0)]);
 (.node (isK 0 [.l TB] r4)
 (.leaf ((0, [.l TB (gl TB (dOf r4) 0)])))
 (.bad 351)))))
 (.bad 351)))
 (.bad 351)))))
 (.bad 351)))
 | _ => .bad 0
theorem fn_7p_t_im (n0 : Int) (n1 : Int) (n2 : Int) (n3 : Int) (n4 : Int) (n5 : Int) (n6 : Int) (n7 : Int) (l8 : List (Ty.den TB)) (n9 : Int) (n10 : Int) (n11 : Int) (n12 : Int) (n13 : Int) (l14 : List (Ty.den TTm)) (g0 : l8.length = 64) : Imp (fn_7p_t [.n n0, .n n1, .n n2, .n n3, .n n4, .n n5, .n n6, .n n7, .l TB l8, .n n9, .n n10, .n n11, .n n12, .n n13, .l TTm l14]) (ev_7p [.n n0, .n n1, .n n2, .n n3, .n n4, .n n5, .n n6, .n n7, .l TB l8, .n n9, .n n10, .n n11, .n n12, .n n13, .l TTm l14]) :=
(.nd (fun h0 =>
(.pa [1]
(.nd (fun h1 =>
(.pa [1]
.lf)) (fun h1 =>
(.pa [1,1,0,1,1]
(.nd (fun h2 =>
(.pa [1,0,0,0,0,1,1,1]
.none)) (fun h2 =>
(.nd (fun h3 =>
(.pa [1,0,0,0,0,1,1,1]
(.nd (fun h4 =>
(.pa [1]
(.nd (fun h5 =>
(.nd (fun h6 =>
(.pa [1,1,1,0,0,0,0,0,1]
(.nd (fun h7 =>
(.pa [1,1,1,0]
(.nd (fun h8 =>
(.pa [1,1,1]
.lf)) (fun h8 =>
.none)))) (fun h7 =>
.none)))) (fun h6 =>
.none))) (fun h5 =>
(.nd (fun h6 =>
(.pa [1]
(.nd (fun h7 =>
(.pa [1,1,0]
(.nd (fun h8 =>
(.pa [1,1,1]
.lf)) (fun h8 =>
.none)))) (fun h7 =>
.none)))) (fun h6 =>
(.pa [1,0]
(.nd (fun h7 =>
(.pa [1,1,1]
.lf)) (fun h7 =>
.none))))))))) (fun h4 =>
.none)))) (fun h3 =>
.none))))))))) (fun h0 =>
.none))

noncomputable def cs_7p : FuncId → Option CSpec := csLend 7 B7p cs_32d
theorem cs_7p_ok : CsOk Try.prog cs_7p := csLend_ok cs_32d_ok B7p_ok

noncomputable def ev_5g (env : List Dat) : Tree (Nat × List Dat) := Lk.boxC false LK cs_7p 5 ls0 (mkF [.imm TB 0] [] [] [(.tup [msV 0 (.own 0), .int .i64 14], [.arr TTm 15]), (.tup [msV 0 .nilsl, .int .i64 14], [])] fun _ => none) env
theorem op_5g_ex : ExB ev_5g := exB _
noncomputable def op_5g := Classical.choose op_5g_ex
theorem op_5g_eq (env : List Dat) : op_5g env = (ev_5g env).sel := Classical.choose_spec op_5g_ex env
noncomputable def B5g : FBox := mkF [.imm TB 0] [] [] [(.tup [msV 0 (.own 0), .int .i64 14], [.arr TTm 15]), (.tup [msV 0 .nilsl, .int .i64 14], [])] op_5g
theorem B5g_ok : RunOk Try.prog 5 (boxRun B5g) := mkF_ok (op := op_5g) cs_7p_ok hmix false (LsOk.none _ _ _) (fun env x h => by rw [op_5g_eq] at h; rw [← boxC_lk]; exact h)

noncomputable def fn_5g_t : List Dat → Tree (Nat × List Dat)
 | [.l (Ty.int IntKind.u8) l0] =>
 (let r1 := (op_13r [.l TB l0]);
 (.node (isK 0 [.l TB, .b] r1)
 (let r2 := (op_77r [.l TB (gl TB (dOf r1) 0), .b (gb (dOf r1) 1)]);
 (.node (isK 0 [.n, .l TB, .b] r2)
 (let r3 := (op_78r [.l TB (gl TB (dOf r2) 1), .b (gb (dOf r2) 2)]);
 (.node (isK 0 [.n, .l TB, .b] r3)
 (let r4 := (op_78r [.l TB (gl TB (dOf r3) 1), .b (gb (dOf r3) 2)]);
 (.node (isK 0 [.n, .l TB, .b] r4)
 (let r5 := (op_78r [.l TB (gl TB (dOf r4) 1), .b (gb (dOf r4) 2)]);
 (.node (isK 0 [.n, .l TB, .b] r5)
 (let r6 := (op_78r [.l TB (gl TB (dOf r5) 1), .b (gb (dOf r5) 2)]);
 (.node (isK 0 [.n, .l TB, .b] r6)
 (.node (gn (dOf r2) 0 == (1 : Int))
 (let r7 := (op_82r [.n (↑(List.length (gl TB (dOf r6) 1)) : Int), .l TB (gl TB (dOf r6) 1), .b (gb (dOf r6) 2)]);
 (.node (isK 0 [.l TB, .b, .l TB] r7)
 (let r8 := (op_28r [.l TB (gl TB (dOf r7) 2)]);
 (.node (isK 0 [.n, .n, .n, .l TB, .n, .n] r8)
 (.node (gn (dOf r8) 5 != (0 : Int))
 (.leaf ((1, [.n (0 : Int), .n (0 : Int), .n (0 : Int), .n (0 : Int), .n (0 : Int), .n (0 : Int), .n (0 : Int), .n (0 : Int), .l TB (List.replicate 64 (0 : Int)), .n (0 : Int), .n (0 : Int), .n (0 : Int), .n (0 : Int), .n (0 : Int), .n (130 : Int)])))
 (.node (gb (dOf r7) 1)
 (.leaf ((1, [.n (0 : Int), .n (0 : Int), .n (0 : Int), .n (0 : Int), .n (0 : Int), .n (0 : Int), .n (0 : Int), .n (0 : Int), .l TB (List.replicate 64 (0 : Int)), .n (0 : Int), .n (0 : Int), .n (0 : Int), .n (0 : Int), .n (0 : Int), .n (130 : Int)])))
 (.node (decide ((↑(List.length (gl TB (dOf r7) 0)) : Int) > (0 : Int)))
 (.leaf ((1, [.n (0 : Int), .n (0 : Int), .n (0 : Int), .n (0 : Int), .n (0 : Int), .n (0 : Int), .n (0 : Int), .n (0 : Int), .l TB (List.replicate 64 (0 : Int)), .n (0 : Int), .n (0 : Int), .n (0 : Int), .n (0 : Int), .n (0 : Int), .n (130 : Int)])))
 (let r9 := (op_24y [.n (gn (dOf r2) 0), .n (IntKind.wrap .i64 (gn (dOf r3) 0)), .n (IntKind.wrap .i64 (gn (dOf r4) 0)), .n (IntKind.wrap .i64 (gn (dOf r5) 0)), .n (IntKind.wrap .i64 (gn (dOf r6) 0)), .n (gn (dOf r8) 0), .n (gn (dOf r8) 1), .n (gn (dOf r8) 2), .l TB (gl TB (dOf r8) 3), .n (gn (dOf r8) 4), .n (0 : Int), .n (0 : Int), .n (0 : Int), .n (0 : Int), .l TTm []]);
 (.node (isK 0 [.b] r9)
 (.node (!gb (dOf r9) 0)
 (.leaf ((1, [.n (0 : Int), .n (0 : Int), .n (0 : Int), .n (0 : Int), .n (0 : Int), .n (0 : Int), .n (0 : Int), .n (0 : Int), .l TB (List.replicate 64 (0 : Int)), .n (0 : Int), .n (0 : Int), .n (0 : Int), .n (0 : Int), .n (0 : Int), .n (130 : Int)])))
 (let r10 := (op_25y [.n (gn (dOf r2) 0), .n (IntKind.wrap .i64 (gn (dOf r3) 0)), .n (IntKind.wrap .i64 (gn (dOf r4) 0)), .n (IntKind.wrap .i64 (gn (dOf r5) 0)), .n (IntKind.wrap .i64 (gn (dOf r6) 0)), .n (gn (dOf r8) 0), .n (gn (dOf r8) 1), .n (gn (dOf r8) 2), .l TB (gl TB (dOf r8) 3), .n (gn (dOf r8) 4), .n (0 : Int), .n (0 : Int), .n (0 : Int), .n (0 : Int), .l TTm []]);
 (.node (isK 0 [.b] r10)
 (.node (!gb (dOf r10) 0)
 (.leaf ((1, [.n (0 : Int), .n (0 : Int), .n (0 : Int), .n (0 : Int), .n (0 : Int), .n (0 : Int), .n (0 : Int), .n (0 : Int), .l TB (List.replicate 64 (0 : Int)), .n (0 : Int), .n (0 : Int), .n (0 : Int), .n (0 : Int), .n (0 : Int), .n (130 : Int)])))
 (.leaf ((1, [.n (gn (dOf r2) 0), .n (IntKind.wrap .i64 (gn (dOf r3) 0)), .n (IntKind.wrap .i64 (gn (dOf r4) 0)), .n (IntKind.wrap .i64 (gn (dOf r5) 0)), .n (IntKind.wrap .i64 (gn (dOf r6) 0)), .n (gn (dOf r8) 0), .n (gn (dOf r8) 1), .n (gn (dOf r8) 2), .l TB (gl TB (dOf r8) 3), .n (gn (dOf r8) 4), .n (0 : Int), .n (0 : Int), .n (0 : Int), .n (0 : Int), .n (0 : Int)]))))
 (.bad 351))))
 (.bad 351))))))
 (.bad 351)))
 (.bad 351)))
 (.node (gn (dOf r2) 0 == (2 : Int))
 (let r7 := (op_22d [.l TB (gl TB (dOf r6) 1), .b (gb (dOf r6) 2)]);
 (.node (isK 0 [.n, .n, .n, .n, .l TB, .b, .l TTm] r7)
 (.node (gb (dOf r7) 5)
 (.leaf ((1, [.n (0 : Int), .n (0 : Int), .n (0 : Int), .n (0 : Int), .n (0 : Int), .n (0 : Int), .n (0 : Int), .n (0 : Int), .l TB (List.replicate 64 (0 : Int)), .n (0 : Int), .n (0 : Int), .n (0 : Int), .n (0 : Int), .n (0 : Int), .n (130 : Int)])))
 (.node (decide ((↑(List.length (gl TB (dOf r7) 4)) : Int) > (0 : Int)))
 (.leaf ((1, [.n (0 : Int), .n (0 : Int), .n (0 : Int), .n (0 : Int), .n (0 : Int), .n (0 : Int), .n (0 : Int), .n (0 : Int), .l TB (List.replicate 64 (0 : Int)), .n (0 : Int), .n (0 : Int), .n (0 : Int), .n (0 : Int), .n (0 : Int), .n (130 : Int)])))
 (let r8 := (op_24y [.n (gn (dOf r2) 0), .n (IntKind.wrap .i64 (gn (dOf r3) 0)), .n (IntKind.wrap .i64 (gn (dOf r4) 0)), .n (IntKind.wrap .i64 (gn (dOf r5) 0)), .n (IntKind.wrap .i64 (gn (dOf r6) 0)), .n (0 : Int), .n (0 : Int), .n (0 : Int), .l TB (List.replicate 64 (0 : Int)), .n (0 : Int), .n (gn (dOf r7) 0), .n (gn (dOf r7) 1), .n (gn (dOf r7) 2), .n (gn (dOf r7) 3), .l TTm (gl TTm (dOf r7) 6)]);
 (.node (isK 0 [.b] r8)
 (.node (!gb (dOf r8) 0)
 (.leaf ((1, [.n (0 : Int), .n (0 : Int), .n (0 : Int), .n (0 : Int), .n (0 : Int), .n (0 : Int), .n (0 : Int), .n (0 : Int), .l TB (List.replicate 64 (0 : Int)), .n (0 : Int), .n (0 : Int), .n (0 : Int), .n (0 : Int), .n (0 : Int), .n (130 : Int)])))
 (let r9 := (op_25y [.n (gn (dOf r2) 0), .n (IntKind.wrap .i64 (gn (dOf r3) 0)), .n (IntKind.wrap .i64 (gn (dOf r4) 0)), .n (IntKind.wrap .i64 (gn (dOf r5) 0)), .n (IntKind.wrap .i64 (gn (dOf r6) 0)), .n (0 : Int), .n (0 : Int), .n (0 : Int), .l TB (List.replicate 64 (0 : Int)), .n (0 : Int), .n (gn (dOf r7) 0), .n (gn (dOf r7) 1), .n (gn (dOf r7) 2), .n (gn (dOf r7) 3), .l TTm (gl TTm (dOf r7) 6)]);
 (.node (isK 0 [.b] r9)
 (.node (!gb (dOf r9) 0)
 (.leaf ((1, [.n (0 : Int), .n (0 : Int), .n (0 : Int), .n (0 : Int), .n (0 : Int), .n (0 : Int), .n (0 : Int), .n (0 : Int), .l TB (List.replicate 64 (0 : Int)), .n (0 : Int), .n (0 : Int), .n (0 : Int), .n (0 : Int), .n (0 : Int), .n (130 : Int)])))
 (.leaf ((0, [.n (gn (dOf r2) 0), .n (IntKind.wrap .i64 (gn (dOf r3) 0)), .n (IntKind.wrap .i64 (gn (dOf r4) 0)), .n (IntKind.wrap .i64 (gn (dOf r5) 0)), .n (IntKind.wrap .i64 (gn (dOf r6) 0)), .n (0 : Int), .n (0 : Int), .n (0 : Int), .l TB (List.replicate 64 (0 : Int)), .n (0 : Int), .n (gn (dOf r7) 0), .n (gn (dOf r7) 1), .n (gn (dOf r7) 2), .n (gn (dOf r7) 3), .n (0 : Int), .l TTm (gl TTm (dOf r7) 6)]))))
 (.bad 351))))
 (.bad 351)))))
 (.bad 351)))
 (.node (gb (dOf r6) 2)
 (.leaf ((1, [.n (0 : Int), .n (0 : Int), .n (0 : Int), .n (0 : Int), .n (0 : Int), .n (0 : Int), .n (0 : Int), .n (0 : Int), .l TB (List.replicate 64 (0 : Int)), .n (0 : Int), .n (0 : Int), .n (0 : Int), .n (0 : Int), .n (0 : Int), .n (130 : Int)])))
 (.node (decide ((↑(List.length (gl TB (dOf r6) 1)) : Int) > (0 : Int)))
 (.leaf ((1, [.n (0 : Int), .n (0 : Int), .n (0 : Int), .n (0 : Int), .n (0 : Int), .n (0 : Int), .n (0 : Int), .n (0 : Int), .l TB (List.replicate 64 (0 : Int)), .n (0 : Int), .n (0 : Int), .n (0 : Int), .n (0 : Int), .n (0 : Int), .n (130 : Int)])))
 (let r7 := (op_24y [.n (gn (dOf r2) 0), .n (IntKind.wrap .i64 (gn (dOf r3) 0)), .n (IntKind.wrap .i64 (gn (dOf r4) 0)), .n (IntKind.wrap .i64 (gn (dOf r5) 0)), .n (IntKind.wrap .i64 (gn (dOf r6) 0)), .n (0 : Int), .n (0 : Int), .n (0 : Int), .l TB (List.replicate 64 (0 : Int)), .n (0 : Int), .n (0 : Int), .n (0 : Int), .n (0 : Int), .n (0 : Int), .l TTm []]);
 (.node (isK 0 [.b] r7)
 (.node (!gb (dOf r7) 0)
 (.leaf ((1, [.n (0 : Int), .n (0 : Int), .n (0 : Int), .n (0 : Int), .n (0 : Int), .n (0 : Int), .n (0 : Int), .n (0 : Int), .l TB (List.replicate 64 (0 : Int)), .n (0 : Int), .n (0 : Int), .n (0 : Int), .n (0 : Int), .n (0 : Int), .n (130 : Int)])))
 (let r8 := (op_25y [.n (gn (dOf r2) 0), .n (IntKind.wrap .i64 (gn (dOf r3) 0)), .n (IntKind.wrap .i64 (gn (dOf r4) 0)), .n (IntKind.wrap .i64 (gn (dOf r5) 0)), .n (IntKind.wrap .i64 (gn (dOf r6) 0)), .n (0 : Int), .n (0 : Int), .n (0 : Int), .l TB (List.replicate 64 (0 : Int)), .n (0 : Int), .n (0 : Int), .n (0 : Int), .n (0 : Int), .n (0 : Int), .l TTm []]);
 (.node (isK 0 [.b] r8)
 (.node (!gb (dOf r8) 0)
 (.leaf ((1, [.n (0 : Int), .n (0 : Int), .n (0 : Int), .n (0 : Int), .n (0 : Int), .n (0 : Int), .n (0 : Int), .n (0 : Int), .l TB (List.replicate 64 (0 : Int)), .n (0 : Int), .n (0 : Int), .n (0 : Int), .n (0 : Int), .n (0 : Int), .n (130 : Int)])))
 (.leaf ((1, [.n (gn (dOf r2) 0), .n (IntKind.wrap .i64 (gn (dOf r3) 0)), .n (IntKind.wrap .i64 (gn (dOf r4) 0)), .n (IntKind.wrap .i64 (gn (dOf r5) 0)), .n (IntKind.wrap .i64 (gn (dOf r6) 0)), .n (0 : Int), .n (0 : Int), .n (0 : Int), .l TB (List.replicate 64 (0 : Int)), .n (0 : Int), .n (0 : Int), .n (0 : Int), .n (0 : Int), .n (0 : Int), .n (0 : Int)]))))
 (.bad 351))))
 (.bad 351)))))))
 (.bad 351)))
 (.bad 351)))
 (.bad 351)))
 (.bad 351)))
 (.bad 351)))
 (.bad 351)))
 | _ => .bad 0
theorem fn_5g_t_im (l0 : List (Ty.den TB)) : Imp (fn_5g_t [.l TB l0]) (ev_5g [.l TB l0]) :=
(.pa [1]
(.nd (fun h0 =>
(.pa [1,1]
(.nd (fun h1 =>
(.pa [1,1,1]
(.nd (fun h2 =>
(.pa [1,1,1,1]
(.nd (fun h3 =>
(.pa [1,1,1,1]
(.nd (fun h4 =>
(.pa [1,1,1,1]
(.nd (fun h5 =>
(.pa [1,1]
(.nd (fun h6 =>
(.pa [1,0,1,1]
(.nd (fun h7 =>
(.pa [1]
(.nd (fun h8 =>
(.pa [1]
(.nd (fun h9 =>
(.pa [1,1,1,1,1,1,1,1,1]
.lf)) (fun h9 =>
(.pa [1,0,1]
(.nd (fun h10 =>
(.pa [1,1,1,1,1,1,1]
.lf)) (fun h10 =>
(.pa [1,0,1]
(.nd (fun h11 =>
(.pa [1,1,1,1,1]
.lf)) (fun h11 =>
(.nd (fun h12 =>
(.pa [1]
(.nd (fun h13 =>
(.pa [1,1,1]
.lf)) (fun h13 =>
(.nd (fun h14 =>
(.pa [1]
(.nd (fun h15 =>
(.pa [1]
.lf)) (fun h15 =>
(.pa [1]
.lf))))) (fun h14 =>
.none)))))) (fun h12 =>
.none)))))))))))) (fun h8 =>
.none)))) (fun h7 =>
.none)))) (fun h6 =>
(.nd (fun h7 =>
(.pa [1]
(.nd (fun h8 =>
(.pa [1,0,1,0,1]
(.nd (fun h9 =>
(.pa [1,1,1,1,1,1,1]
.lf)) (fun h9 =>
(.pa [1,0,1]
(.nd (fun h10 =>
(.pa [1,1,1,1,1]
.lf)) (fun h10 =>
(.nd (fun h11 =>
(.pa [1]
(.nd (fun h12 =>
(.pa [1,1,1]
.lf)) (fun h12 =>
(.nd (fun h13 =>
(.pa [1]
(.nd (fun h14 =>
(.pa [1]
.lf)) (fun h14 =>
(.pa [1]
.lf))))) (fun h13 =>
.none)))))) (fun h11 =>
.none))))))))) (fun h8 =>
.none)))) (fun h7 =>
(.pa [0,1,0,1]
(.nd (fun h8 =>
(.pa [1,1,1,1,1,1,1]
.lf)) (fun h8 =>
(.pa [1,0,1]
(.nd (fun h9 =>
(.pa [1,1,1,1,1]
.lf)) (fun h9 =>
(.nd (fun h10 =>
(.pa [1]
(.nd (fun h11 =>
(.pa [1,1,1]
.lf)) (fun h11 =>
(.nd (fun h12 =>
(.pa [1]
(.nd (fun h13 =>
(.pa [1]
.lf)) (fun h13 =>
(.pa [1]
.lf))))) (fun h12 =>
.none)))))) (fun h10 =>
.none)))))))))))))) (fun h5 =>
.none)))) (fun h4 =>
.none)))) (fun h3 =>
.none)))) (fun h2 =>
.none)))) (fun h1 =>
.none)))) (fun h0 =>
.none)))

noncomputable def cs_5g : FuncId → Option CSpec := csLend 5 B5g cs_7p
theorem cs_5g_ok : CsOk Try.prog cs_5g := csLend_ok cs_7p_ok B5g_ok

noncomputable def ev_26n (env : List Dat) : Tree (Nat × List Dat) := Lk.boxC false LK cs_5g 26 ls0 (mkF [.imm TB 0, .int .i64 1, .int .i64 2] [] [] [(.int .u64 0, [])] fun _ => none) env
theorem op_26n_ex : ExB ev_26n := exB _
noncomputable def op_26n := Classical.choose op_26n_ex
theorem op_26n_eq (env : List Dat) : op_26n env = (ev_26n env).sel := Classical.choose_spec op_26n_ex env
noncomputable def B26n : FBox := mkF [.imm TB 0, .int .i64 1, .int .i64 2] [] [] [(.int .u64 0, [])] op_26n
theorem B26n_ok : RunOk Try.prog 26 (boxRun B26n) := mkF_ok (op := op_26n) cs_5g_ok hmix false (LsOk.none _ _ _) (fun env x h => by rw [op_26n_eq] at h; rw [← boxC_lk]; exact h)

noncomputable def fn_26n_t : List Dat → Tree (Nat × List Dat)
 | [.l (Ty.int IntKind.u8) l0, .n n1, .n n2] =>
 (.node (decide (IntKind.wrap .i64 (n1 + n2) > (↑(List.length l0) : Int)))
 (.leaf ((0, [.n (0 : Int)])))
 (.node (decide ((0 : Int) ≤ IntKind.wrap .i64 (n1 + n2)) && decide (IntKind.wrap .i64 (n1 + n2) ≤ (↑(List.length l0) : Int)))
 (.node (decide ((0 : Int) ≤ n1) && decide (n1 ≤ IntKind.wrap .i64 (n1 + n2)))
 (let r1 := (op_17r [.l TB (List.drop (Int.toNat n1) (List.take (Int.toNat (IntKind.wrap .i64 (n1 + n2))) l0))]);
 (.node (isK 0 [.n] r1)
 (.leaf ((0, [.n (gn (dOf r1) 0)])))
 (.bad 351)))
 (.bad 43))
 (.bad 42)))
 | _ => .bad 0
theorem fn_26n_t_im (l0 : List (Ty.den TB)) (n1 : Int) (n2 : Int) : Imp (fn_26n_t [.l TB l0, .n n1, .n n2]) (ev_26n [.l TB l0, .n n1, .n n2]) :=
(.nd (fun h0 =>
(.pa [1]
.lf)) (fun h0 =>
(.nd (fun h1 =>
(.nd (fun h2 =>
(.nd (fun h3 =>
(.pa [1,1]
.lf)) (fun h3 =>
.none))) (fun h2 =>
.none))) (fun h1 =>
.none))))

noncomputable def cs_26n : FuncId → Option CSpec := csLend 26 B26n cs_5g
theorem cs_26n_ok : CsOk Try.prog cs_26n := csLend_ok cs_5g_ok B26n_ok

noncomputable def ev_34y (env : List Dat) : Tree (Nat × List Dat) := Lk.boxC false LK cs_26n 34 ls0 (mkF [msV 0 (.imm TTm 14)] [] [] [(.bool 0, [])] fun _ => none) env
theorem op_34y_ex : ExB ev_34y := exB _
noncomputable def op_34y := Classical.choose op_34y_ex
theorem op_34y_eq (env : List Dat) : op_34y env = (ev_34y env).sel := Classical.choose_spec op_34y_ex env
noncomputable def B34y : FBox := mkF [msV 0 (.imm TTm 14)] [] [] [(.bool 0, [])] op_34y
theorem B34y_ok : RunOk Try.prog 34 (boxRun B34y) := mkF_ok (op := op_34y) cs_26n_ok hmix false (LsOk.none _ _ _) (fun env x h => by rw [op_34y_eq] at h; rw [← boxC_lk]; exact h)

noncomputable def fn_34y_t : List Dat → Tree (Nat × List Dat)
 | [.n n0, .n n1, .n n2, .n n3, .n n4, .n n5, .n n6, .n n7, .l (Ty.int IntKind.u8) l8, .n n9, .n n10, .n n11, .n n12, .n n13, .l (Ty.pair (Ty.int IntKind.i64) (Ty.int IntKind.u8)) l14] =>
 (.node (decide (n0 ≥ (1 : Int)))
 (.node (decide (n0 ≤ (4 : Int)))
 (.node (decide (n1 ≥ (0 : Int)))
 (.node (decide (n1 ≤ (1099511627776 : Int)))
 (.node (decide (n2 ≥ (0 : Int)))
 (.node (decide (n2 ≤ (1099511627776 : Int)))
 (.node (decide (n3 ≥ (0 : Int)))
 (.node (decide (n3 ≤ (1099511627776 : Int)))
 (.node (decide (n4 ≥ (0 : Int)))
 (.node (decide (n4 ≤ (1099511627776 : Int)))
 (let r1 := (op_87 [.l TTm l14]);
 (.node (isK 0 [.b] r1)
 (.leaf ((0, [.b (gb (dOf r1) 0)])))
 (.bad 351)))
 (.leaf ((0, [.b false]))))
 (.leaf ((0, [.b false]))))
 (.leaf ((0, [.b false]))))
 (.leaf ((0, [.b false]))))
 (.leaf ((0, [.b false]))))
 (.leaf ((0, [.b false]))))
 (.leaf ((0, [.b false]))))
 (.leaf ((0, [.b false]))))
 (.leaf ((0, [.b false]))))
 (.leaf ((0, [.b false]))))
 | _ => .bad 0
theorem fn_34y_t_im (n0 : Int) (n1 : Int) (n2 : Int) (n3 : Int) (n4 : Int) (n5 : Int) (n6 : Int) (n7 : Int) (l8 : List (Ty.den TB)) (n9 : Int) (n10 : Int) (n11 : Int) (n12 : Int) (n13 : Int) (l14 : List (Ty.den TTm)) : Imp (fn_34y_t [.n n0, .n n1, .n n2, .n n3, .n n4, .n n5, .n n6, .n n7, .l TB l8, .n n9, .n n10, .n n11, .n n12, .n n13, .l TTm l14]) (ev_34y [.n n0, .n n1, .n n2, .n n3, .n n4, .n n5, .n n6, .n n7, .l TB l8, .n n9, .n n10, .n n11, .n n12, .n n13, .l TTm l14]) :=
(.nd (fun h0 =>
(.nd (fun h1 =>
(.pa [1]
(.nd (fun h2 =>
(.pa [1]
(.nd (fun h3 =>
(.pa [1]
(.nd (fun h4 =>
(.pa [1]
(.nd (fun h5 =>
(.pa [1]
(.nd (fun h6 =>
(.pa [1]
(.nd (fun h7 =>
(.pa [1]
(.nd (fun h8 =>
(.pa [1]
(.nd (fun h9 =>
(.nd (fun h10 =>
(.pa [1,1]
.lf)) (fun h10 =>
.none))) (fun h9 =>
(.pa [0,1]
.lf))))) (fun h8 =>
(.pa [0,1,0,0,1]
.lf))))) (fun h7 =>
(.pa [0,0,0,1]
.lf))))) (fun h6 =>
(.pa [0,1,0,0,0,0,1]
.lf))))) (fun h5 =>
(.pa [0,0,0,0,0,1]
.lf))))) (fun h4 =>
(.pa [0,1,0,0,0,0,0,0,1]
.lf))))) (fun h3 =>
(.pa [0,0,0,0,0,0,0,1]
.lf))))) (fun h2 =>
(.pa [0,1,0,0,0,0,0,0,0,0,1]
.lf))))) (fun h1 =>
(.pa [0,0,0,0,0,0,0,0,0,1]
.lf)))) (fun h0 =>
(.pa [0,0,0,0,0,0,0,0,0,0,0,1]
.lf)))

noncomputable def cs_34y : FuncId → Option CSpec := csLend 34 B34y cs_26n
theorem cs_34y_ok : CsOk Try.prog cs_34y := csLend_ok cs_26n_ok B34y_ok

noncomputable def st_L8p_18 (env : List Dat) : Tree Step := Lk.stepMC false LK cs_34y 8 18 ls0 (mkM 0 [] [(sh 97 [(1, .ptr 0 0), (3, .own 1), (6, .int .i64 0)], [msB 1 (.imm TTm 15), .arr TB 16])] [] [(.exit 2, sh 97 [(3, .own 0)], [.arr TB 0])] fun _ => none) env
theorem op_L8p_18_ex : ExL st_L8p_18 := exL _
noncomputable def op_L8p_18 := Classical.choose op_L8p_18_ex
theorem op_L8p_18_eq (env : List Dat) : op_L8p_18 env = iterS st_L8p_18 FU env := Classical.choose_spec op_L8p_18_ex env
noncomputable def L8p_18 : MBox := mkM 0 [] [(sh 97 [(1, .ptr 0 0), (3, .own 1), (6, .int .i64 0)], [msB 1 (.imm TTm 15), .arr TB 16])] [] [(.exit 2, sh 97 [(3, .own 0)], [.arr TB 0])] op_L8p_18
theorem L8p_18_eqs : L8p_18 = mkM 0 [] [(sh 97 [(1, .ptr 0 0), (3, .own 1), (6, .int .i64 0)], [msB 1 (.imm TTm 15), .arr TB 16])] [] [(.exit 2, sh 97 [(3, .own 0)], [.arr TB 0])] (iterS st_L8p_18 FU) := congrArg (fun f => mkM 0 [] [(sh 97 [(1, .ptr 0 0), (3, .own 1), (6, .int .i64 0)], [msB 1 (.imm TTm 15), .arr TB 16])] [] [(.exit 2, sh 97 [(3, .own 0)], [.arr TB 0])] f) (funext op_L8p_18_eq)
theorem L8p_18_run : ∀ t s x, (manyRun L8p_18 t s).sel = some x → CodeOk Try.prog 0 (.loop (cAt Try.prog 8 18)) t s x := by
  rw [L8p_18_eqs]
  exact mkM_ok (st := st_L8p_18) (m := FU) cs_34y_ok hmix false (LsOk.none _ _ _) (by kernel_rfl) (fun env y h => by rw [← stepMC_lk]; exact h)

noncomputable def fn_L8p_18_t : List Dat → Tree Step
 | [.n n0, .n n1, .n n2, .n n3, .n n4, .n n5, .n n6, .n n7, .n n8, .l (Ty.int IntKind.u8) l9, .n n10, .n n11, .n n12, .n n13, .n n14, .l (Ty.pair (Ty.int IntKind.i64) (Ty.int IntKind.u8)) l15, .l (Ty.int IntKind.u8) l16] =>
 (.node (decide (n0 < (↑(List.length l15) : Int)))
 (.node (decide ((List.length l16 + 2) * 1 ≤ 140737488355328))
 (.leaf (Step.go [.k 0, .n (IntKind.wrap .i64 (n0 + (1 : Int))), .n n1, .n n2, .n n3, .n n4, .n n5, .n n6, .n n7, .n n8, .l TB l9, .n n10, .n n11, .n n12, .n n13, .n n14, .l TTm l15, .l TB (l16 ++ [IntKind.wrap .u8 (tm_1 l15 n0), tm_2 l15 n0])]))
 (.bad 62))
 (.leaf (Step.stop 0 [.l TB l16])))
 | _ => .bad 0
theorem fn_L8p_18_t_im (n0 : Int) (n1 : Int) (n2 : Int) (n3 : Int) (n4 : Int) (n5 : Int) (n6 : Int) (n7 : Int) (n8 : Int) (l9 : List (Ty.den TB)) (n10 : Int) (n11 : Int) (n12 : Int) (n13 : Int) (n14 : Int) (l15 : List (Ty.den TTm)) (l16 : List (Ty.den TB)) (g0 : 0 ≤ n0) (g1 :  l9.length = 64) : Imp (fn_L8p_18_t [.n n0, .n n1, .n n2, .n n3, .n n4, .n n5, .n n6, .n n7, .n n8, .l TB l9, .n n10, .n n11, .n n12, .n n13, .n n14, .l TTm l15, .l TB l16]) (st_L8p_18 [.k 0, .n n0, .n n1, .n n2, .n n3, .n n4, .n n5, .n n6, .n n7, .n n8, .l TB l9, .n n10, .n n11, .n n12, .n n13, .n n14, .l TTm l15, .l TB l16]) :=
(.pa [1]
(.nd (fun h0 =>
(.pt (c := (inR n0 (List.length l15))) (by kernel_rfl) (by kernel_rfl) (by (simp only [w64d, decide_eq_true_eq, decide_eq_false_iff_not, beq_iff_eq, beq_eq_false_iff_ne, bne_iff_ne, ne_eq, inR, Bool.and_eq_true, Bool.and_eq_false_iff, Bool.not_eq_true', Bool.not_eq_false', Bool.not_eq_eq_eq_not, Bool.not_true, Bool.not_false] at *; omega))
(.pt (c := (inR n0 (List.length l15))) (by kernel_rfl) (by kernel_rfl) (by (simp only [w64d, decide_eq_true_eq, decide_eq_false_iff_not, beq_iff_eq, beq_eq_false_iff_ne, bne_iff_ne, ne_eq, inR, Bool.and_eq_true, Bool.and_eq_false_iff, Bool.not_eq_true', Bool.not_eq_false', Bool.not_eq_eq_eq_not, Bool.not_true, Bool.not_false] at *; omega))
(.nd (fun h1 =>
(.pa [1,1]
.lf)) (fun h1 =>
.none))))) (fun h0 =>
(.pa [1]
.lf))))

theorem ls_8p_ok : LsOk Try.prog (List.length ([] : List PB)) (lsM [(18, L8p_18)] (List.length ([] : List PB))) (bodyOf Try.prog 8) := LsOk.many fun j B hB hk c hc hi => by
  simp only [lookM] at hB
  split at hB
  · rename_i e; have := Nat.eq_of_beq_eq_true e; subst this; cases hB
    have e1 : loopAt Try.prog 8 18 = [cAt Try.prog 8 18] := loopAt_one (by kernel_rfl)
    have e2 : c ∈ loopAt Try.prog 8 18 := loopsAt_mem hc hi
    rw [e1] at e2; cases List.mem_singleton.1 e2; exact L8p_18_run
  cases hB

noncomputable def ev_8p (env : List Dat) : Tree (Nat × List Dat) := Lk.boxCN [(0, TB)] false LK cs_34y 8 (lsM [(18, L8p_18)] (List.length ([] : List PB))) (mkF [msV 0 (.imm TTm 14)] [] [] [(.own 0, [.arr TB 0])] fun _ => none) env
theorem op_8p_ex : ExB ev_8p := exB _
noncomputable def op_8p := Classical.choose op_8p_ex
theorem op_8p_eq (env : List Dat) : op_8p env = (ev_8p env).sel := Classical.choose_spec op_8p_ex env
noncomputable def B8p : FBox := mkF [msV 0 (.imm TTm 14)] [] [] [(.own 0, [.arr TB 0])] op_8p
theorem B8p_ok : RunOk Try.prog 8 (boxRun B8p) := mkFN_ok (nils := [(0, TB)]) (op := op_8p) cs_34y_ok hmix false (ls_8p_ok) (fun env x h => by rw [op_8p_eq] at h; rw [← boxCN_lk]; exact h)

noncomputable def fn_8p_t : List Dat → Tree (Nat × List Dat)
 | [.n n0, .n n1, .n n2, .n n3, .n n4, .n n5, .n n6, .n n7, .l (Ty.int IntKind.u8) l8, .n n9, .n n10, .n n11, .n n12, .n n13, .l (Ty.pair (Ty.int IntKind.i64) (Ty.int IntKind.u8)) l14] =>
 (let r1 := (op_34y [.n n0, .n n1, .n n2, .n n3, .n n4, .n n5, .n n6, .n n7, .l TB l8, .n n9, .n n10, .n n11, .n n12, .n n13, .l TTm l14]);
 (.node (isK 0 [.b] r1)
 (.node (!gb (dOf r1) 0)
 (.leaf ((0, [.l TB []])))
 (let r2 := (op_30 [.n (IntKind.wrap .u64 n1), .n (8 : Int)]);
 (.node (isK 0 [.l TB] r2)
 (.node (decide ((1 + List.length (gl TB (dOf r2) 0)) * 1 ≤ 140737488355328))
 (let r3 := (op_30 [.n (IntKind.wrap .u64 n2), .n (8 : Int)]);
 (.node (isK 0 [.l TB] r3)
 (.node (decide ((List.length (([n0] : List (Ty.den TB)) ++ gl TB (dOf r2) 0) + List.length (gl TB (dOf r3) 0)) * 1 ≤ 140737488355328))
 (let r4 := (op_30 [.n (IntKind.wrap .u64 n3), .n (8 : Int)]);
 (.node (isK 0 [.l TB] r4)
 (.node (decide ((List.length (([n0] : List (Ty.den TB)) ++ gl TB (dOf r2) 0 ++ gl TB (dOf r3) 0) + List.length (gl TB (dOf r4) 0)) * 1 ≤ 140737488355328))
 (let r5 := (op_30 [.n (IntKind.wrap .u64 n4), .n (8 : Int)]);
 (.node (isK 0 [.l TB] r5)
 (.node (decide ((List.length (([n0] : List (Ty.den TB)) ++ gl TB (dOf r2) 0 ++ gl TB (dOf r3) 0 ++ gl TB (dOf r4) 0) + List.length (gl TB (dOf r5) 0)) * 1 ≤ 140737488355328))
 (.node (n0 == (1 : Int))
 (let r6 := (op_18p [.n n5, .n n6, .n n7, .l TB l8, .n n9]);
 (.node (isK 0 [.l TB] r6)
 (.node (decide ((List.length (([n0] : List (Ty.den TB)) ++ gl TB (dOf r2) 0 ++ gl TB (dOf r3) 0 ++ gl TB (dOf r4) 0 ++ gl TB (dOf r5) 0) + List.length (gl TB (dOf r6) 0)) * 1 ≤ 140737488355328))
 (.leaf ((0, [.l TB (([n0] : List (Ty.den TB)) ++ gl TB (dOf r2) 0 ++ gl TB (dOf r3) 0 ++ gl TB (dOf r4) 0 ++ gl TB (dOf r5) 0 ++ gl TB (dOf r6) 0)])))
 (.bad 62))
 (.bad 351)))
 (.node (n0 == (2 : Int))
 (let r6 := (op_30 [.n n10, .n (8 : Int)]);
 (.node (isK 0 [.l TB] r6)
 (.node (decide ((List.length (([n0] : List (Ty.den TB)) ++ gl TB (dOf r2) 0 ++ gl TB (dOf r3) 0 ++ gl TB (dOf r4) 0 ++ gl TB (dOf r5) 0) + List.length (gl TB (dOf r6) 0)) * 1 ≤ 140737488355328))
 (let r7 := (op_30 [.n n11, .n (8 : Int)]);
 (.node (isK 0 [.l TB] r7)
 (.node (decide ((List.length (([n0] : List (Ty.den TB)) ++ gl TB (dOf r2) 0 ++ gl TB (dOf r3) 0 ++ gl TB (dOf r4) 0 ++ gl TB (dOf r5) 0 ++ gl TB (dOf r6) 0) + List.length (gl TB (dOf r7) 0)) * 1 ≤ 140737488355328))
 (let r8 := (op_30 [.n n12, .n (8 : Int)]);
 (.node (isK 0 [.l TB] r8)
 (.node (decide ((List.length (([n0] : List (Ty.den TB)) ++ gl TB (dOf r2) 0 ++ gl TB (dOf r3) 0 ++ gl TB (dOf r4) 0 ++ gl TB (dOf r5) 0 ++ gl TB (dOf r6) 0 ++ gl TB (dOf r7) 0) + List.length (gl TB (dOf r8) 0)) * 1 ≤ 140737488355328))
 (let r9 := (op_30 [.n (IntKind.wrap .u64 n13), .n (4 : Int)]);
 (.node (isK 0 [.l TB] r9)
 (.node (decide ((List.length (([n0] : List (Ty.den TB)) ++ gl TB (dOf r2) 0 ++ gl TB (dOf r3) 0 ++ gl TB (dOf r4) 0 ++ gl TB (dOf r5) 0 ++ gl TB (dOf r6) 0 ++ gl TB (dOf r7) 0 ++ gl TB (dOf r8) 0) + List.length (gl TB (dOf r9) 0)) * 1 ≤ 140737488355328))
 (.node (decide ((List.length (([n0] : List (Ty.den TB)) ++ gl TB (dOf r2) 0 ++ gl TB (dOf r3) 0 ++ gl TB (dOf r4) 0 ++ gl TB (dOf r5) 0 ++ gl TB (dOf r6) 0 ++ gl TB (dOf r7) 0 ++ gl TB (dOf r8) 0 ++ gl TB (dOf r9) 0) + 1) * 1 ≤ 140737488355328))
 (let r10 := (op_L8p_18 [.k 0, .n (0 : Int), .n n0, .n n1, .n n2, .n n3, .n n4, .n n5, .n n6, .n n7, .l TB l8, .n n9, .n n10, .n n11, .n n12, .n n13, .l TTm l14, .l TB (([n0] : List (Ty.den TB)) ++ gl TB (dOf r2) 0 ++ gl TB (dOf r3) 0 ++ gl TB (dOf r4) 0 ++ gl TB (dOf r5) 0 ++ gl TB (dOf r6) 0 ++ gl TB (dOf r7) 0 ++ gl TB (dOf r8) 0 ++ gl TB (dOf r9) 0 ++ [IntKind.wrap .u8 (↑(List.length l14) : Int)])]);
 (.node (isK 0 [.l TB] r10)
 (.leaf ((0, [.l TB (gl TB (dOf r10) 0)])))
 (.bad 351)))
 (.bad 62))
 (.bad 62))
 (.bad 351)))
 (.bad 62))
 (.bad 351)))
 (.bad 62))
 (.bad 351)))
 (.bad 62))
 (.bad 351)))
 (.leaf ((0, [.l TB (([n0] : List (Ty.den TB)) ++ gl TB (dOf r2) 0 ++ gl TB (dOf r3) 0 ++ gl TB (dOf r4) 0 ++ gl TB (dOf r5) 0)])))))
 (.bad 62))
 (.bad 351)))
 (.bad 62))
 (.bad 351)))
 (.bad 62))
 (.bad 351)))
 (.bad 62))
 (.bad 351))))
 (.bad 351)))
 | _ => .bad 0
theorem fn_8p_t_im (n0 : Int) (n1 : Int) (n2 : Int) (n3 : Int) (n4 : Int) (n5 : Int) (n6 : Int) (n7 : Int) (l8 : List (Ty.den TB)) (n9 : Int) (n10 : Int) (n11 : Int) (n12 : Int) (n13 : Int) (l14 : List (Ty.den TTm)) (g0 : l8.length = 64) : Imp (fn_8p_t [.n n0, .n n1, .n n2, .n n3, .n n4, .n n5, .n n6, .n n7, .l TB l8, .n n9, .n n10, .n n11, .n n12, .n n13, .l TTm l14]) (ev_8p [.n n0, .n n1, .n n2, .n n3, .n n4, .n n5, .n n6, .n n7, .l TB l8, .n n9, .n n10, .n n11, .n n12, .n n13, .l TTm l14]) :=
(.nd (fun h0 =>
(.pa [1]
(.nd (fun h1 =>
(.pa [1]
.lf)) (fun h1 =>
(.pa [1,1]
(.nd (fun h2 =>
(.pa [1]
(.nd (fun h3 =>
(.pa [1,1]
(.nd (fun h4 =>
(.pa [1]
(.nd (fun h5 =>
(.pa [1,1]
(.nd (fun h6 =>
(.pa [1]
(.nd (fun h7 =>
(.pa [1,1]
(.nd (fun h8 =>
(.pa [1]
(.nd (fun h9 =>
(.pa [0]
(.nd (fun h10 =>
(.nd (fun h11 =>
(.pa [1]
(.nd (fun h12 =>
(.pf (c := (n0 == (2 : Int))) (by kernel_rfl) (by kernel_rfl) (by (simp only [w64d, decide_eq_true_eq, decide_eq_false_iff_not, beq_iff_eq, beq_eq_false_iff_ne, bne_iff_ne, ne_eq, inR, Bool.and_eq_true, Bool.and_eq_false_iff, Bool.not_eq_true', Bool.not_eq_false', Bool.not_eq_eq_eq_not, Bool.not_true, Bool.not_false] at *; omega))
(.pa [1]
.lf))) (fun h12 =>
.none)))) (fun h11 =>
.none))) (fun h10 =>
(.nd (fun h11 =>
(.nd (fun h12 =>
(.pa [1]
(.nd (fun h13 =>
(.nd (fun h14 =>
(.pa [1]
(.nd (fun h15 =>
(.nd (fun h16 =>
(.pa [1]
(.nd (fun h17 =>
(.nd (fun h18 =>
(.pa [1]
(.nd (fun h19 =>
(.nd (fun h20 =>
(.nd (fun h21 =>
(.pa [1]
.lf)) (fun h21 =>
.none))) (fun h20 =>
.none))) (fun h19 =>
.none)))) (fun h18 =>
.none))) (fun h17 =>
.none)))) (fun h16 =>
.none))) (fun h15 =>
.none)))) (fun h14 =>
.none))) (fun h13 =>
.none)))) (fun h12 =>
.none))) (fun h11 =>
(.pa [1]
.lf))))))) (fun h9 =>
.none)))) (fun h8 =>
.none)))) (fun h7 =>
.none)))) (fun h6 =>
.none)))) (fun h5 =>
.none)))) (fun h4 =>
.none)))) (fun h3 =>
.none)))) (fun h2 =>
.none))))))) (fun h0 =>
.none))

noncomputable def cs_8p : FuncId → Option CSpec := csLend 8 B8p cs_34y
theorem cs_8p_ok : CsOk Try.prog cs_8p := csLend_ok cs_34y_ok B8p_ok

noncomputable def st_L6g_16 (env : List Dat) : Tree Step := Lk.stepMC false LK cs_8p 6 16 ls0 (mkM (cv := [(4, [], 14, .own TTm)]) 0 [] [(sh 143 [(0, .imm TB 0), (2, .ptr 0 0), (4, .ptr 1 0), (7, .int .i64 1), (8, .int .i64 2)], [msB 3 .nilsl, msB 17 (.own 2), .arr TTm 31])] [] [(.exit 0, sh 143 [(0, .imm TB 0), (2, .ptr 0 0), (4, .ptr 1 0)], [msB 1 .nilsl, msB 15 (.own 2), .arr TTm 29])] fun _ => none) env
theorem op_L6g_16_ex : ExL st_L6g_16 := exL _
noncomputable def op_L6g_16 := Classical.choose op_L6g_16_ex
theorem op_L6g_16_eq (env : List Dat) : op_L6g_16 env = iterS st_L6g_16 FU env := Classical.choose_spec op_L6g_16_ex env
noncomputable def L6g_16 : MBox := mkM (cv := [(4, [], 14, .own TTm)]) 0 [] [(sh 143 [(0, .imm TB 0), (2, .ptr 0 0), (4, .ptr 1 0), (7, .int .i64 1), (8, .int .i64 2)], [msB 3 .nilsl, msB 17 (.own 2), .arr TTm 31])] [] [(.exit 0, sh 143 [(0, .imm TB 0), (2, .ptr 0 0), (4, .ptr 1 0)], [msB 1 .nilsl, msB 15 (.own 2), .arr TTm 29])] op_L6g_16
theorem L6g_16_eqs : L6g_16 = mkM (cv := [(4, [], 14, .own TTm)]) 0 [] [(sh 143 [(0, .imm TB 0), (2, .ptr 0 0), (4, .ptr 1 0), (7, .int .i64 1), (8, .int .i64 2)], [msB 3 .nilsl, msB 17 (.own 2), .arr TTm 31])] [] [(.exit 0, sh 143 [(0, .imm TB 0), (2, .ptr 0 0), (4, .ptr 1 0)], [msB 1 .nilsl, msB 15 (.own 2), .arr TTm 29])] (iterS st_L6g_16 FU) := congrArg (fun f => mkM (cv := [(4, [], 14, .own TTm)]) 0 [] [(sh 143 [(0, .imm TB 0), (2, .ptr 0 0), (4, .ptr 1 0), (7, .int .i64 1), (8, .int .i64 2)], [msB 3 .nilsl, msB 17 (.own 2), .arr TTm 31])] [] [(.exit 0, sh 143 [(0, .imm TB 0), (2, .ptr 0 0), (4, .ptr 1 0)], [msB 1 .nilsl, msB 15 (.own 2), .arr TTm 29])] f) (funext op_L6g_16_eq)
theorem L6g_16_run : ∀ t s x, (manyRun L6g_16 t s).sel = some x → CodeOk Try.prog 0 (.loop (cAt Try.prog 6 16)) t s x := by
  rw [L6g_16_eqs]
  exact mkM_ok (st := st_L6g_16) (m := FU) cs_8p_ok hmix false (LsOk.none _ _ _) (by kernel_rfl) (fun env y h => by rw [← stepMC_lk]; exact h)

noncomputable def fn_L6g_16_t : List Dat → Tree Step
 | [.l (Ty.int IntKind.u8) l0, .n n1, .n n2, .n n3, .n n4, .n n5, .n n6, .n n7, .n n8, .n n9, .n n10, .l (Ty.int IntKind.u8) l11, .n n12, .n n13, .n n14, .n n15, .n n16, .l (Ty.pair (Ty.int IntKind.i64) (Ty.int IntKind.u8)) l17] =>
 (.node (decide (n2 < n1))
 (let r1 := (op_26n [.l TB l0, .n (IntKind.wrap .i64 ((62 : Int) + IntKind.wrap .i64 ((2 : Int) * n2))), .n (1 : Int)]);
 (.node (isK 0 [.n] r1)
 (let r2 := (op_26n [.l TB l0, .n (IntKind.wrap .i64 ((63 : Int) + IntKind.wrap .i64 ((2 : Int) * n2))), .n (1 : Int)]);
 (.node (isK 0 [.n] r2)
 (.node (decide ((List.length l17 + 1) * 16 ≤ 140737488355328))
 (.leaf (Step.go (.k 0 :: .l TB l0 :: .n n1 :: .n (IntKind.wrap .i64 (n2 + (1 : Int))) :: .n (0 : Int) :: .n (0 : Int) :: .n (0 : Int) :: .n (0 : Int) :: .n (0 : Int) :: .n (0 : Int) :: .n (0 : Int) :: .n (0 : Int) :: .l TB (List.replicate 64 (0 : Int)) :: .n (0 : Int) :: .n (0 : Int) :: .n (0 : Int) :: .n (0 : Int) :: .n (0 : Int) :: .n n3 :: .n n4 :: .n n5 :: .n n6 :: .n n7 :: .n n8 :: .n n9 :: .n n10 :: .l TB l11 :: .n n12 :: .n n13 :: .n n14 :: .n n15 :: .n n16 :: .l TTm (l17 ++ ([(IntKind.wrap .i64 (gn (dOf r1) 0), IntKind.wrap .u8 (gn (dOf r2) 0))] : List (Ty.den TTm))) :: [])))
 (.bad 62))
 (.bad 351)))
 (.bad 351)))
 (.leaf (Step.stop 0 [.l TB l0, .n (0 : Int), .n (0 : Int), .n (0 : Int), .n (0 : Int), .n (0 : Int), .n (0 : Int), .n (0 : Int), .n (0 : Int), .l TB (List.replicate 64 (0 : Int)), .n (0 : Int), .n (0 : Int), .n (0 : Int), .n (0 : Int), .n (0 : Int), .n n3, .n n4, .n n5, .n n6, .n n7, .n n8, .n n9, .n n10, .l TB l11, .n n12, .n n13, .n n14, .n n15, .n n16, .l TTm l17])))
 | _ => .bad 0
theorem fn_L6g_16_t_im (l0 : List (Ty.den TB)) (n1 : Int) (n2 : Int) (n3 : Int) (n4 : Int) (n5 : Int) (n6 : Int) (n7 : Int) (n8 : Int) (n9 : Int) (n10 : Int) (l11 : List (Ty.den TB)) (n12 : Int) (n13 : Int) (n14 : Int) (n15 : Int) (n16 : Int) (l17 : List (Ty.den TTm)) (g0 : 0 ≤ n2) (g1 :  l11.length = 64) : Imp (fn_L6g_16_t [.l TB l0, .n n1, .n n2, .n n3, .n n4, .n n5, .n n6, .n n7, .n n8, .n n9, .n n10, .l TB l11, .n n12, .n n13, .n n14, .n n15, .n n16, .l TTm l17]) (st_L6g_16 [.k 0, .l TB l0, .n n1, .n n2, .n 0, .n 0, .n 0, .n 0, .n 0, .n 0, .n 0, .n 0, .l TB (List.replicate 64 (0 : Int)), .n 0, .n 0, .n 0, .n 0, .n 0, .n n3, .n n4, .n n5, .n n6, .n n7, .n n8, .n n9, .n n10, .l TB l11, .n n12, .n n13, .n n14, .n n15, .n n16, .l TTm l17]) :=
(.pa [1]
(.nd (fun h0 =>
(.nd (fun h1 =>
(.pa [1]
(.nd (fun h2 =>
(.pa [1]
(.nd (fun h3 =>
(.pa [1,1]
.lf)) (fun h3 =>
.none)))) (fun h2 =>
.none)))) (fun h1 =>
.none))) (fun h0 =>
(.pa [1]
.lf))))

theorem ls_6g_ok : LsOk Try.prog (List.length ([] : List PB)) (lsM [(16, L6g_16)] (List.length ([] : List PB))) (bodyOf Try.prog 6) := LsOk.many fun j B hB hk c hc hi => by
  simp only [lookM] at hB
  split at hB
  · rename_i e; have := Nat.eq_of_beq_eq_true e; subst this; cases hB
    have e1 : loopAt Try.prog 6 16 = [cAt Try.prog 6 16] := loopAt_one (by kernel_rfl)
    have e2 : c ∈ loopAt Try.prog 6 16 := loopsAt_mem hc hi
    rw [e1] at e2; cases List.mem_singleton.1 e2; exact L6g_16_run
  cases hB

noncomputable def ev_6g (env : List Dat) : Tree (Nat × List Dat) := Lk.boxC false LK cs_8p 6 (lsM [(16, L6g_16)] (List.length ([] : List PB))) (mkF [.imm TB 0] [] [] [(.tup [msV 0 (.own 0), .bool 14], [.arr TTm 15]), (.tup [msV 0 .nilsl, .bool 14], [])] fun _ => none) env
theorem op_6g_ex : ExB ev_6g := exB _
noncomputable def op_6g := Classical.choose op_6g_ex
theorem op_6g_eq (env : List Dat) : op_6g env = (ev_6g env).sel := Classical.choose_spec op_6g_ex env
noncomputable def B6g : FBox := mkF [.imm TB 0] [] [] [(.tup [msV 0 (.own 0), .bool 14], [.arr TTm 15]), (.tup [msV 0 .nilsl, .bool 14], [])] op_6g
theorem B6g_ok : RunOk Try.prog 6 (boxRun B6g) := mkF_ok (op := op_6g) cs_8p_ok hmix false (ls_6g_ok) (fun env x h => by rw [op_6g_eq] at h; rw [← boxC_lk]; exact h)

noncomputable def fn_6g_t : List Dat → Tree (Nat × List Dat)
 | [.l (Ty.int IntKind.u8) l0] =>
 (.node (decide ((↑(List.length l0) : Int) < (33 : Int)))
 (.leaf ((1, [.n (0 : Int), .n (0 : Int), .n (0 : Int), .n (0 : Int), .n (0 : Int), .n (0 : Int), .n (0 : Int), .n (0 : Int), .l TB (List.replicate 64 (0 : Int)), .n (0 : Int), .n (0 : Int), .n (0 : Int), .n (0 : Int), .n (0 : Int), .b false])))
 (let r1 := (op_26n [.l TB l0, .n (1 : Int), .n (8 : Int)]);
 (.node (isK 0 [.n] r1)
 (let r2 := (op_26n [.l TB l0, .n (9 : Int), .n (8 : Int)]);
 (.node (isK 0 [.n] r2)
 (let r3 := (op_26n [.l TB l0, .n (17 : Int), .n (8 : Int)]);
 (.node (isK 0 [.n] r3)
 (let r4 := (op_26n [.l TB l0, .n (25 : Int), .n (8 : Int)]);
 (.node (isK 0 [.n] r4)
 (.node ((List.getD l0 0 (0 : Int) : Int) == (1 : Int))
 (.node (true && decide ((33 : Int) ≤ (↑(List.length l0) : Int)))
 (let r5 := (op_29r [.l TB (List.drop 33 l0)]);
 (.node (isK 0 [.n, .n, .n, .l TB, .n, .b] r5)
 (.node (!gb (dOf r5) 5)
 (.leaf ((1, [.n (0 : Int), .n (0 : Int), .n (0 : Int), .n (0 : Int), .n (0 : Int), .n (0 : Int), .n (0 : Int), .n (0 : Int), .l TB (List.replicate 64 (0 : Int)), .n (0 : Int), .n (0 : Int), .n (0 : Int), .n (0 : Int), .n (0 : Int), .b false])))
 (.node (IntKind.wrap .i64 (gn (dOf r3) 0) != (0 : Int))
 (.leaf ((1, [.n (0 : Int), .n (0 : Int), .n (0 : Int), .n (0 : Int), .n (0 : Int), .n (0 : Int), .n (0 : Int), .n (0 : Int), .l TB (List.replicate 64 (0 : Int)), .n (0 : Int), .n (0 : Int), .n (0 : Int), .n (0 : Int), .n (0 : Int), .b false])))
 (.node (IntKind.wrap .i64 (gn (dOf r4) 0) != (0 : Int))
 (.leaf ((1, [.n (0 : Int), .n (0 : Int), .n (0 : Int), .n (0 : Int), .n (0 : Int), .n (0 : Int), .n (0 : Int), .n (0 : Int), .l TB (List.replicate 64 (0 : Int)), .n (0 : Int), .n (0 : Int), .n (0 : Int), .n (0 : Int), .n (0 : Int), .b false])))
 (let r6 := (op_8p [.n (List.getD l0 0 (0 : Int)), .n (IntKind.wrap .i64 (gn (dOf r1) 0)), .n (IntKind.wrap .i64 (gn (dOf r2) 0)), .n (IntKind.wrap .i64 (gn (dOf r3) 0)), .n (IntKind.wrap .i64 (gn (dOf r4) 0)), .n (gn (dOf r5) 0), .n (gn (dOf r5) 1), .n (gn (dOf r5) 2), .l TB (gl TB (dOf r5) 3), .n (gn (dOf r5) 4), .n (0 : Int), .n (0 : Int), .n (0 : Int), .n (0 : Int), .l TTm []]);
 (.node (isK 0 [.l TB] r6)
 (.node (!strEq (strOf (gl TB (dOf r6) 0)) (strOf l0))
 (.leaf ((1, [.n (0 : Int), .n (0 : Int), .n (0 : Int), .n (0 : Int), .n (0 : Int), .n (0 : Int), .n (0 : Int), .n (0 : Int), .l TB (List.replicate 64 (0 : Int)), .n (0 : Int), .n (0 : Int), .n (0 : Int), .n (0 : Int), .n (0 : Int), .b false])))
 (.leaf ((1, [.n (List.getD l0 0 (0 : Int)), .n (IntKind.wrap .i64 (gn (dOf r1) 0)), .n (IntKind.wrap .i64 (gn (dOf r2) 0)), .n (IntKind.wrap .i64 (gn (dOf r3) 0)), .n (IntKind.wrap .i64 (gn (dOf r4) 0)), .n (gn (dOf r5) 0), .n (gn (dOf r5) 1), .n (gn (dOf r5) 2), .l TB (gl TB (dOf r5) 3), .n (gn (dOf r5) 4), .n (0 : Int), .n (0 : Int), .n (0 : Int), .n (0 : Int), .b true]))))
 (.bad 351))))))
 (.bad 351)))
 (.bad 43))
 (.node ((List.getD l0 0 (0 : Int) : Int) == (2 : Int))
 (let r5 := (op_26n [.l TB l0, .n (33 : Int), .n (8 : Int)]);
 (.node (isK 0 [.n] r5)
 (let r6 := (op_26n [.l TB l0, .n (41 : Int), .n (8 : Int)]);
 (.node (isK 0 [.n] r6)
 (let r7 := (op_26n [.l TB l0, .n (49 : Int), .n (8 : Int)]);
 (.node (isK 0 [.n] r7)
 (let r8 := (op_26n [.l TB l0, .n (57 : Int), .n (4 : Int)]);
 (.node (isK 0 [.n] r8)
 (let r9 := (op_26n [.l TB l0, .n (61 : Int), .n (1 : Int)]);
 (.node (isK 0 [.n] r9)
 (let r10 := (op_L6g_16 (.k 0 :: .l TB l0 :: .n (IntKind.wrap .i64 (gn (dOf r9) 0)) :: .n (0 : Int) :: .n (0 : Int) :: .n (0 : Int) :: .n (0 : Int) :: .n (0 : Int) :: .n (0 : Int) :: .n (0 : Int) :: .n (0 : Int) :: .n (0 : Int) :: .l TB (List.replicate 64 (0 : Int)) :: .n (0 : Int) :: .n (0 : Int) :: .n (0 : Int) :: .n (0 : Int) :: .n (0 : Int) :: .n (List.getD l0 0 (0 : Int)) :: .n (IntKind.wrap .i64 (gn (dOf r1) 0)) :: .n (IntKind.wrap .i64 (gn (dOf r2) 0)) :: .n (IntKind.wrap .i64 (gn (dOf r3) 0)) :: .n (IntKind.wrap .i64 (gn (dOf r4) 0)) :: .n (0 : Int) :: .n (0 : Int) :: .n (0 : Int) :: .l TB (List.replicate 64 (0 : Int)) :: .n (0 : Int) :: .n (gn (dOf r5) 0) :: .n (gn (dOf r6) 0) :: .n (gn (dOf r7) 0) :: .n (IntKind.wrap .u32 (gn (dOf r8) 0)) :: .l TTm [] :: []));
 (.node (isK 0 [.l TB, .n, .n, .n, .n, .n, .n, .n, .n, .l TB, .n, .n, .n, .n, .n, .n, .n, .n, .n, .n, .n, .n, .n, .l TB, .n, .n, .n, .n, .n, .l TTm] r10)
 (.node (gn (dOf r10) 15 == (3 : Int))
 (.node (gn (dOf r10) 18 != (0 : Int))
 (.leaf ((1, [.n (0 : Int), .n (0 : Int), .n (0 : Int), .n (0 : Int), .n (0 : Int), .n (0 : Int), .n (0 : Int), .n (0 : Int), .l TB (List.replicate 64 (0 : Int)), .n (0 : Int), .n (0 : Int), .n (0 : Int), .n (0 : Int), .n (0 : Int), .b false])))
 (.node (gn (dOf r10) 19 != (0 : Int))
 (.leaf ((1, [.n (0 : Int), .n (0 : Int), .n (0 : Int), .n (0 : Int), .n (0 : Int), .n (0 : Int), .n (0 : Int), .n (0 : Int), .l TB (List.replicate 64 (0 : Int)), .n (0 : Int), .n (0 : Int), .n (0 : Int), .n (0 : Int), .n (0 : Int), .b false])))
 (let r11 := (op_8p [.n (gn (dOf r10) 15), .n (gn (dOf r10) 16), .n (gn (dOf r10) 17), .n (gn (dOf r10) 18), .n (gn (dOf r10) 19), .n (gn (dOf r10) 20), .n (gn (dOf r10) 21), .n (gn (dOf r10) 22), .l TB (gl TB (dOf r10) 23), .n (gn (dOf r10) 24), .n (gn (dOf r10) 25), .n (gn (dOf r10) 26), .n (gn (dOf r10) 27), .n (gn (dOf r10) 28), .l TTm (gl TTm (dOf r10) 29)]);
 (.node (isK 0 [.l TB] r11)
 (.node (!strEq (strOf (gl TB (dOf r11) 0)) (strOf (gl TB (dOf r10) 0)))
 (.leaf ((1, [.n (0 : Int), .n (0 : Int), .n (0 : Int), .n (0 : Int), .n (0 : Int), .n (0 : Int), .n (0 : Int), .n (0 : Int), .l TB (List.replicate 64 (0 : Int)), .n (0 : Int), .n (0 : Int), .n (0 : Int), .n (0 : Int), .n (0 : Int), .b false])))
 (.leaf ((0, [.n (gn (dOf r10) 15), .n (gn (dOf r10) 16), .n (gn (dOf r10) 17), .n (gn (dOf r10) 18), .n (gn (dOf r10) 19), .n (gn (dOf r10) 20), .n (gn (dOf r10) 21), .n (gn (dOf r10) 22), .l TB (gl TB (dOf r10) 23), .n (gn (dOf r10) 24), .n (gn (dOf r10) 25), .n (gn (dOf r10) 26), .n (gn (dOf r10) 27), .n (gn (dOf r10) 28), .b true, .l TTm (gl TTm (dOf r10) 29)]))))
 (.bad 351)))))
 (.node (gn (dOf r10) 15 == (4 : Int))
 (.node (gn (dOf r10) 16 != (0 : Int))
 (.leaf ((1, [.n (0 : Int), .n (0 : Int), .n (0 : Int), .n (0 : Int), .n (0 : Int), .n (0 : Int), .n (0 : Int), .n (0 : Int), .l TB (List.replicate 64 (0 : Int)), .n (0 : Int), .n (0 : Int), .n (0 : Int), .n (0 : Int), .n (0 : Int), .b false])))
 (.node (gn (dOf r10) 17 != (0 : Int))
 (.leaf ((1, [.n (0 : Int), .n (0 : Int), .n (0 : Int), .n (0 : Int), .n (0 : Int), .n (0 : Int), .n (0 : Int), .n (0 : Int), .l TB (List.replicate 64 (0 : Int)), .n (0 : Int), .n (0 : Int), .n (0 : Int), .n (0 : Int), .n (0 : Int), .b false])))
 (.node (gn (dOf r10) 18 != (0 : Int))
 (.leaf ((1, [.n (0 : Int), .n (0 : Int), .n (0 : Int), .n (0 : Int), .n (0 : Int), .n (0 : Int), .n (0 : Int), .n (0 : Int), .l TB (List.replicate 64 (0 : Int)), .n (0 : Int), .n (0 : Int), .n (0 : Int), .n (0 : Int), .n (0 : Int), .b false])))
 (.node (gn (dOf r10) 19 != (0 : Int))
 (.leaf ((1, [.n (0 : Int), .n (0 : Int), .n (0 : Int), .n (0 : Int), .n (0 : Int), .n (0 : Int), .n (0 : Int), .n (0 : Int), .l TB (List.replicate 64 (0 : Int)), .n (0 : Int), .n (0 : Int), .n (0 : Int), .n (0 : Int), .n (0 : Int), .b false])))
 (let r11 := (op_8p [.n (gn (dOf r10) 15), .n (gn (dOf r10) 16), .n (gn (dOf r10) 17), .n (gn (dOf r10) 18), .n (gn (dOf r10) 19), .n (gn (dOf r10) 20), .n (gn (dOf r10) 21), .n (gn (dOf r10) 22), .l TB (gl TB (dOf r10) 23), .n (gn (dOf r10) 24), .n (gn (dOf r10) 25), .n (gn (dOf r10) 26), .n (gn (dOf r10) 27), .n (gn (dOf r10) 28), .l TTm (gl TTm (dOf r10) 29)]);
 (.node (isK 0 [.l TB] r11)
 (.node (!strEq (strOf (gl TB (dOf r11) 0)) (strOf (gl TB (dOf r10) 0)))
 (.leaf ((1, [.n (0 : Int), .n (0 : Int), .n (0 : Int), .n (0 : Int), .n (0 : Int), .n (0 : Int), .n (0 : Int), .n (0 : Int), .l TB (List.replicate 64 (0 : Int)), .n (0 : Int), .n (0 : Int), .n (0 : Int), .n (0 : Int), .n (0 : Int), .b false])))
 (.leaf ((0, [.n (gn (dOf r10) 15), .n (gn (dOf r10) 16), .n (gn (dOf r10) 17), .n (gn (dOf r10) 18), .n (gn (dOf r10) 19), .n (gn (dOf r10) 20), .n (gn (dOf r10) 21), .n (gn (dOf r10) 22), .l TB (gl TB (dOf r10) 23), .n (gn (dOf r10) 24), .n (gn (dOf r10) 25), .n (gn (dOf r10) 26), .n (gn (dOf r10) 27), .n (gn (dOf r10) 28), .b true, .l TTm (gl TTm (dOf r10) 29)]))))
 (.bad 351)))))))
 (let r11 := (op_8p [.n (gn (dOf r10) 15), .n (gn (dOf r10) 16), .n (gn (dOf r10) 17), .n (gn (dOf r10) 18), .n (gn (dOf r10) 19), .n (gn (dOf r10) 20), .n (gn (dOf r10) 21), .n (gn (dOf r10) 22), .l TB (gl TB (dOf r10) 23), .n (gn (dOf r10) 24), .n (gn (dOf r10) 25), .n (gn (dOf r10) 26), .n (gn (dOf r10) 27), .n (gn (dOf r10) 28), .l TTm (gl TTm (dOf r10) 29)]);
 (.node (isK 0 [.l TB] r11)
 (.node (!strEq (strOf (gl TB (dOf r11) 0)) (strOf (gl TB (dOf r10) 0)))
 (.leaf ((1, [.n (0 : Int), .n (0 : Int), .n (0 : Int), .n (0 : Int), .n (0 : Int), .n (0 : Int), .n (0 : Int), .n (0 : Int), .l TB (List.replicate 64 (0 : Int)), .n (0 : Int), .n (0 : Int), .n (0 : Int), .n (0 : Int), .n (0 : Int), .b false])))
 (.leaf ((0, [.n (gn (dOf r10) 15), .n (gn (dOf r10) 16), .n (gn (dOf r10) 17), .n (gn (dOf r10) 18), .n (gn (dOf r10) 19), .n (gn (dOf r10) 20), .n (gn (dOf r10) 21), .n (gn (dOf r10) 22), .l TB (gl TB (dOf r10) 23), .n (gn (dOf r10) 24), .n (gn (dOf r10) 25), .n (gn (dOf r10) 26), .n (gn (dOf r10) 27), .n (gn (dOf r10) 28), .b true, .l TTm (gl TTm (dOf r10) 29)]))))
 (.bad 351)))))
 (.bad 351)))
 (.bad 351)))
 (.bad 351)))
 (.bad 351)))
 (.bad 351)))
 (.bad 351)))
 (.node ((List.getD l0 0 (0 : Int) : Int) == (3 : Int))
 (.node (IntKind.wrap .i64 (gn (dOf r3) 0) != (0 : Int))
 (.leaf ((1, [.n (0 : Int), .n (0 : Int), .n (0 : Int), .n (0 : Int), .n (0 : Int), .n (0 : Int), .n (0 : Int), .n (0 : Int), .l TB (List.replicate 64 (0 : Int)), .n (0 : Int), .n (0 : Int), .n (0 : Int), .n (0 : Int), .n (0 : Int), .b false])))
 (.node (IntKind.wrap .i64 (gn (dOf r4) 0) != (0 : Int))
 (.leaf ((1, [.n (0 : Int), .n (0 : Int), .n (0 : Int), .n (0 : Int), .n (0 : Int), .n (0 : Int), .n (0 : Int), .n (0 : Int), .l TB (List.replicate 64 (0 : Int)), .n (0 : Int), .n (0 : Int), .n (0 : Int), .n (0 : Int), .n (0 : Int), .b false])))
 (let r5 := (op_8p [.n (List.getD l0 0 (0 : Int)), .n (IntKind.wrap .i64 (gn (dOf r1) 0)), .n (IntKind.wrap .i64 (gn (dOf r2) 0)), .n (IntKind.wrap .i64 (gn (dOf r3) 0)), .n (IntKind.wrap .i64 (gn (dOf r4) 0)), .n (0 : Int), .n (0 : Int), .n (0 : Int), .l TB (List.replicate 64 (0 : Int)), .n (0 : Int), .n (0 : Int), .n (0 : Int), .n (0 : Int), .n (0 : Int), .l TTm []]);
 (.node (isK 0 [.l TB] r5)
 (.node (!strEq (strOf (gl TB (dOf r5) 0)) (strOf l0))
 (.leaf ((1, [.n (0 : Int), .n (0 : Int), .n (0 : Int), .n (0 : Int), .n (0 : Int), .n (0 : Int), .n (0 : Int), .n (0 : Int), .l TB (List.replicate 64 (0 : Int)), .n (0 : Int), .n (0 : Int), .n (0 : Int), .n (0 : Int), .n (0 : Int), .b false])))
 (.leaf ((1, [.n (List.getD l0 0 (0 : Int)), .n (IntKind.wrap .i64 (gn (dOf r1) 0)), .n (IntKind.wrap .i64 (gn (dOf r2) 0)), .n (IntKind.wrap .i64 (gn (dOf r3) 0)), .n (IntKind.wrap .i64 (gn (dOf r4) 0)), .n (0 : Int), .n (0 : Int), .n (0 : Int), .l TB (List.replicate 64 (0 : Int)), .n (0 : Int), .n (0 : Int), .n (0 : Int), .n (0 : Int), .n (0 : Int), .b true]))))
 (.bad 351)))))
 (.node ((List.getD l0 0 (0 : Int) : Int) == (4 : Int))
 (.node (IntKind.wrap .i64 (gn (dOf r1) 0) != (0 : Int))
 (.leaf ((1, [.n (0 : Int), .n (0 : Int), .n (0 : Int), .n (0 : Int), .n (0 : Int), .n (0 : Int), .n (0 : Int), .n (0 : Int), .l TB (List.replicate 64 (0 : Int)), .n (0 : Int), .n (0 : Int), .n (0 : Int), .n (0 : Int), .n (0 : Int), .b false])))
 (.node (IntKind.wrap .i64 (gn (dOf r2) 0) != (0 : Int))
 (.leaf ((1, [.n (0 : Int), .n (0 : Int), .n (0 : Int), .n (0 : Int), .n (0 : Int), .n (0 : Int), .n (0 : Int), .n (0 : Int), .l TB (List.replicate 64 (0 : Int)), .n (0 : Int), .n (0 : Int), .n (0 : Int), .n (0 : Int), .n (0 : Int), .b false])))
 (.node (IntKind.wrap .i64 (gn (dOf r3) 0) != (0 : Int))
 (.leaf ((1, [.n (0 : Int), .n (0 : Int), .n (0 : Int), .n (0 : Int), .n (0 : Int), .n (0 : Int), .n (0 : Int), .n (0 : Int), .l TB (List.replicate 64 (0 : Int)), .n (0 : Int), .n (0 : Int), .n (0 : Int), .n (0 : Int), .n (0 : Int), .b false])))
 (.node (IntKind.wrap .i64 (gn (dOf r4) 0) != (0 : Int))
 (.leaf ((1, [.n (0 : Int), .n (0 : Int), .n (0 : Int), .n (0 : Int), .n (0 : Int), .n (0 : Int), .n (0 : Int), .n (0 : Int), .l TB (List.replicate 64 (0 : Int)), .n (0 : Int), .n (0 : Int), .n (0 : Int), .n (0 : Int), .n (0 : Int), .b false])))
 (let r5 := (op_8p [.n (List.getD l0 0 (0 : Int)), .n (IntKind.wrap .i64 (gn (dOf r1) 0)), .n (IntKind.wrap .i64 (gn (dOf r2) 0)), .n (IntKind.wrap .i64 (gn (dOf r3) 0)), .n (IntKind.wrap .i64 (gn (dOf r4) 0)), .n (0 : Int), .n (0 : Int), .n (0 : Int), .l TB (List.replicate 64 (0 : Int)), .n (0 : Int), .n (0 : Int), .n (0 : Int), .n (0 : Int), .n (0 : Int), .l TTm []]);
 (.node (isK 0 [.l TB] r5)
 (.node (!strEq (strOf (gl TB (dOf r5) 0)) (strOf l0))
 (.leaf ((1, [.n (0 : Int), .n (0 : Int), .n (0 : Int), .n (0 : Int), .n (0 : Int), .n (0 : Int), .n (0 : Int), .n (0 : Int), .l TB (List.replicate 64 (0 : Int)), .n (0 : Int), .n (0 : Int), .n (0 : Int), .n (0 : Int), .n (0 : Int), .b false])))
 (.leaf ((1, [.n (List.getD l0 0 (0 : Int)), .n (IntKind.wrap .i64 (gn (dOf r1) 0)), .n (IntKind.wrap .i64 (gn (dOf r2) 0)), .n (IntKind.wrap .i64 (gn (dOf r3) 0)), .n (IntKind.wrap .i64 (gn (dOf r4) 0)), .n (0 : Int), .n (0 : Int), .n (0 : Int), .l TB (List.replicate 64 (0 : Int)), .n (0 : Int), .n (0 : Int), .n (0 : Int), .n (0 : Int), .n (0 : Int), .b true]))))
 (.bad 351)))))))
 (let r5 := (op_8p [.n (List.getD l0 0 (0 : Int)), .n (IntKind.wrap .i64 (gn (dOf r1) 0)), .n (IntKind.wrap .i64 (gn (dOf r2) 0)), .n (IntKind.wrap .i64 (gn (dOf r3) 0)), .n (IntKind.wrap .i64 (gn (dOf r4) 0)), .n (0 : Int), .n (0 : Int), .n (0 : Int), .l TB (List.replicate 64 (0 : Int)), .n (0 : Int), .n (0 : Int), .n (0 : Int), .n (0 : Int), .n (0 : Int), .l TTm []]);
 (.node (isK 0 [.l TB] r5)
 (.node (!strEq (strOf (gl TB (dOf r5) 0)) (strOf l0))
 (.leaf ((1, [.n (0 : Int), .n (0 : Int), .n (0 : Int), .n (0 : Int), .n (0 : Int), .n (0 : Int), .n (0 : Int), .n (0 : Int), .l TB (List.replicate 64 (0 : Int)), .n (0 : Int), .n (0 : Int), .n (0 : Int), .n (0 : Int), .n (0 : Int), .b false])))
 (.leaf ((1, [.n (List.getD l0 0 (0 : Int)), .n (IntKind.wrap .i64 (gn (dOf r1) 0)), .n (IntKind.wrap .i64 (gn (dOf r2) 0)), .n (IntKind.wrap .i64 (gn (dOf r3) 0)), .n (IntKind.wrap .i64 (gn (dOf r4) 0)), .n (0 : Int), .n (0 : Int), .n (0 : Int), .l TB (List.replicate 64 (0 : Int)), .n (0 : Int), .n (0 : Int), .n (0 : Int), .n (0 : Int), .n (0 : Int), .b true]))))
 (.bad 351)))))))
 (.bad 351)))
 (.bad 351)))
 (.bad 351)))
 (.bad 351))))
 | _ => .bad 0
theorem fn_6g_t_im (l0 : List (Ty.den TB)) : Imp (fn_6g_t [.l TB l0]) (ev_6g [.l TB l0]) :=
(.nd (fun h0 =>
(.pa [1]
.lf)) (fun h0 =>
(.pt (c := (inR (0 : Int) (List.length l0))) (by kernel_rfl) (by kernel_rfl) (by (simp only [w64d, decide_eq_true_eq, decide_eq_false_iff_not, beq_iff_eq, beq_eq_false_iff_ne, bne_iff_ne, ne_eq, inR, Bool.and_eq_true, Bool.and_eq_false_iff, Bool.not_eq_true', Bool.not_eq_false', Bool.not_eq_eq_eq_not, Bool.not_true, Bool.not_false] at *; omega))
(.nd (fun h1 =>
(.pa [1]
(.nd (fun h2 =>
(.pa [1]
(.nd (fun h3 =>
(.pa [1]
(.nd (fun h4 =>
(.pa [1,1]
(.nd (fun h5 =>
(.sT ((true && decide ((↑(List.length l0) : Int) ≤ (↑(List.length l0) : Int))))
(.nd (fun h6 =>
(.nd (fun h7 =>
(.pa [1]
(.nd (fun h8 =>
(.pa [1,1,1,1,1]
.lf)) (fun h8 =>
(.nd (fun h9 =>
(.pa [1,1,1]
.lf)) (fun h9 =>
(.nd (fun h10 =>
(.pa [1]
.lf)) (fun h10 =>
(.pf (c := ((List.getD l0 0 (0 : Int) : Int) == (2 : Int))) (by kernel_rfl) (by kernel_rfl) (by (simp only [w64d, decide_eq_true_eq, decide_eq_false_iff_not, beq_iff_eq, beq_eq_false_iff_ne, bne_iff_ne, ne_eq, inR, Bool.and_eq_true, Bool.and_eq_false_iff, Bool.not_eq_true', Bool.not_eq_false', Bool.not_eq_eq_eq_not, Bool.not_true, Bool.not_false] at *; omega))
(.pf (c := ((List.getD l0 0 (0 : Int) : Int) == (3 : Int))) (by kernel_rfl) (by kernel_rfl) (by (simp only [w64d, decide_eq_true_eq, decide_eq_false_iff_not, beq_iff_eq, beq_eq_false_iff_ne, bne_iff_ne, ne_eq, inR, Bool.and_eq_true, Bool.and_eq_false_iff, Bool.not_eq_true', Bool.not_eq_false', Bool.not_eq_eq_eq_not, Bool.not_true, Bool.not_false] at *; omega))
(.pa [0,0]
(.pf (c := ((List.getD l0 0 (0 : Int) : Int) == (4 : Int))) (by kernel_rfl) (by kernel_rfl) (by (simp only [w64d, decide_eq_true_eq, decide_eq_false_iff_not, beq_iff_eq, beq_eq_false_iff_ne, bne_iff_ne, ne_eq, inR, Bool.and_eq_true, Bool.and_eq_false_iff, Bool.not_eq_true', Bool.not_eq_false', Bool.not_eq_eq_eq_not, Bool.not_true, Bool.not_false] at *; omega))
(.pa [0,0]
(.nd (fun h11 =>
(.pa [1,1]
(.nd (fun h12 =>
(.pa [1]
.lf)) (fun h12 =>
(.pa [1]
.lf))))) (fun h11 =>
.none))))))))))))))) (fun h7 =>
.none))) (fun h6 =>
.none)))) (fun h5 =>
(.nd (fun h6 =>
(.nd (fun h7 =>
(.pa [1]
(.nd (fun h8 =>
(.pa [1]
(.nd (fun h9 =>
(.pa [1]
(.nd (fun h10 =>
(.pa [1]
(.nd (fun h11 =>
(.pa [1]
(.nd (fun h12 =>
(.nd (fun h13 =>
(.nd (fun h14 =>
(.pa [1,1,1,1,1,1,1,1]
.lf)) (fun h14 =>
(.nd (fun h15 =>
(.pa [1,1,1,1,1,1]
.lf)) (fun h15 =>
(.pf (c := (gn (dOf (op_L6g_16 (.k 0 :: .l TB l0 :: .n (IntKind.wrap .i64 (gn (dOf (op_26n [.l TB l0, .n (61 : Int), .n (1 : Int)])) 0)) :: .n (0 : Int) :: .n (0 : Int) :: .n (0 : Int) :: .n (0 : Int) :: .n (0 : Int) :: .n (0 : Int) :: .n (0 : Int) :: .n (0 : Int) :: .n (0 : Int) :: .l TB (List.replicate 64 (0 : Int)) :: .n (0 : Int) :: .n (0 : Int) :: .n (0 : Int) :: .n (0 : Int) :: .n (0 : Int) :: .n (List.getD l0 0 (0 : Int)) :: .n (IntKind.wrap .i64 (gn (dOf (op_26n [.l TB l0, .n (1 : Int), .n (8 : Int)])) 0)) :: .n (IntKind.wrap .i64 (gn (dOf (op_26n [.l TB l0, .n (9 : Int), .n (8 : Int)])) 0)) :: .n (IntKind.wrap .i64 (gn (dOf (op_26n [.l TB l0, .n (17 : Int), .n (8 : Int)])) 0)) :: .n (IntKind.wrap .i64 (gn (dOf (op_26n [.l TB l0, .n (25 : Int), .n (8 : Int)])) 0)) :: .n (0 : Int) :: .n (0 : Int) :: .n (0 : Int) :: .l TB (List.replicate 64 (0 : Int)) :: .n (0 : Int) :: .n (gn (dOf (op_26n [.l TB l0, .n (33 : Int), .n (8 : Int)])) 0) :: .n (gn (dOf (op_26n [.l TB l0, .n (41 : Int), .n (8 : Int)])) 0) :: .n (gn (dOf (op_26n [.l TB l0, .n (49 : Int), .n (8 : Int)])) 0) :: .n (IntKind.wrap .u32 (gn (dOf (op_26n [.l TB l0, .n (57 : Int), .n (4 : Int)])) 0)) :: .l TTm [] :: []))) 15 == (4 : Int))) (by kernel_rfl) (by kernel_rfl) (by (simp only [w64d, decide_eq_true_eq, decide_eq_false_iff_not, beq_iff_eq, beq_eq_false_iff_ne, bne_iff_ne, ne_eq, inR, Bool.and_eq_true, Bool.and_eq_false_iff, Bool.not_eq_true', Bool.not_eq_false', Bool.not_eq_eq_eq_not, Bool.not_true, Bool.not_false] at *; omega))
(.pa [0,0]
(.nd (fun h16 =>
(.pa [1,1]
(.nd (fun h17 =>
(.pa [1]
.lf)) (fun h17 =>
(.pa [1]
.lf))))) (fun h16 =>
.none))))))))) (fun h13 =>
(.pa [0,0]
(.nd (fun h14 =>
(.nd (fun h15 =>
(.pa [1,1,1,1,1,1,1,1,1,1]
.lf)) (fun h15 =>
(.nd (fun h16 =>
(.pa [1,1,1,1,1,1,1,1]
.lf)) (fun h16 =>
(.nd (fun h17 =>
(.pa [1,1,1,1,1,1]
.lf)) (fun h17 =>
(.nd (fun h18 =>
(.pa [1,1,1,1]
.lf)) (fun h18 =>
(.nd (fun h19 =>
(.pa [1,1]
(.nd (fun h20 =>
(.pa [1]
.lf)) (fun h20 =>
(.pa [1]
.lf))))) (fun h19 =>
.none))))))))))) (fun h14 =>
(.pa [0,0]
(.nd (fun h15 =>
(.pa [1,1]
(.nd (fun h16 =>
(.pa [1]
.lf)) (fun h16 =>
(.pa [1]
.lf))))) (fun h15 =>
.none))))))))) (fun h12 =>
.none)))) (fun h11 =>
.none)))) (fun h10 =>
.none)))) (fun h9 =>
.none)))) (fun h8 =>
.none)))) (fun h7 =>
.none))) (fun h6 =>
(.nd (fun h7 =>
(.nd (fun h8 =>
(.pa [1,1,1,1,1,1,1,1]
.lf)) (fun h8 =>
(.nd (fun h9 =>
(.pa [1,1,1,1,1,1]
.lf)) (fun h9 =>
(.pf (c := ((List.getD l0 0 (0 : Int) : Int) == (4 : Int))) (by kernel_rfl) (by kernel_rfl) (by (simp only [w64d, decide_eq_true_eq, decide_eq_false_iff_not, beq_iff_eq, beq_eq_false_iff_ne, bne_iff_ne, ne_eq, inR, Bool.and_eq_true, Bool.and_eq_false_iff, Bool.not_eq_true', Bool.not_eq_false', Bool.not_eq_eq_eq_not, Bool.not_true, Bool.not_false] at *; omega))
(.pa [0,0]
(.nd (fun h10 =>
(.pa [1,1]
(.nd (fun h11 =>
(.pa [1]
.lf)) (fun h11 =>
(.pa [1]
.lf))))) (fun h10 =>
.none))))))))) (fun h7 =>
(.pa [0,0]
(.nd (fun h8 =>
(.nd (fun h9 =>
(.pa [1,1,1,1,1,1,1,1,1,1]
.lf)) (fun h9 =>
(.nd (fun h10 =>
(.pa [1,1,1,1,1,1,1,1]
.lf)) (fun h10 =>
(.nd (fun h11 =>
(.pa [1,1,1,1,1,1]
.lf)) (fun h11 =>
(.nd (fun h12 =>
(.pa [1,1,1,1]
.lf)) (fun h12 =>
(.nd (fun h13 =>
(.pa [1,1]
(.nd (fun h14 =>
(.pa [1]
.lf)) (fun h14 =>
(.pa [1]
.lf))))) (fun h13 =>
.none))))))))))) (fun h8 =>
(.pa [0,0]
(.nd (fun h9 =>
(.pa [1,1]
(.nd (fun h10 =>
(.pa [1]
.lf)) (fun h10 =>
(.pa [1]
.lf))))) (fun h9 =>
.none)))))))))))))) (fun h4 =>
.none)))) (fun h3 =>
.none)))) (fun h2 =>
.none)))) (fun h1 =>
.none)))))

noncomputable def cs_6g : FuncId → Option CSpec := csLend 6 B6g cs_8p
theorem cs_6g_ok : CsOk Try.prog cs_6g := csLend_ok cs_8p_ok B6g_ok
end Go.Proofs.Ytdaabhpeedekaaa.Vx
namespace Go.Proofs.Ytdaabhpeedekaaa.Vx
open Go Go.RowKit
set_option linter.unusedVariables false
set_option linter.unusedSimpArgs false
set_option maxRecDepth 100000
set_option maxHeartbeats 0

abbrev LTm : Type := List (Ty.den TTm)
abbrev LB : Type := List (Ty.den TB)
attribute [local simp] isK fitsK dOf gn gb gs gl castL_self
noncomputable abbrev zq1 (l_0 : LB) : Option (Nat × List Dat) := op_5g [.l TB (bytesOf (strOf l_0))]
noncomputable abbrev zq2 (l_0 : LB) : Option (Nat × List Dat) := op_6g [.l TB l_0]
noncomputable abbrev zq3 (n_0 n_1 n_2 n_3 n_4 n_5 n_6 n_7 : Int) (l_8 : LB) (n_9 n_10 n_11 n_12 n_13 : Int) (l_14 : LTm) : Option (Nat × List Dat) := op_7p [.n n_0, .n n_1, .n n_2, .n n_3, .n n_4, .n n_5, .n n_6, .n n_7, .l TB l_8, .n n_9, .n n_10, .n n_11, .n n_12, .n n_13, .l TTm l_14]
noncomputable abbrev zq4 (n_0 n_1 n_2 n_3 n_4 n_5 n_6 n_7 : Int) (l_8 : LB) (n_9 n_10 n_11 n_12 n_13 : Int) (l_14 : LTm) : Option (Nat × List Dat) := op_24 [.n n_0, .n n_1, .n n_2, .n n_3, .n n_4, .n n_5, .n n_6, .n n_7, .l TB l_8, .n n_9, .n n_10, .n n_11, .n n_12, .n n_13, .l TTm l_14]
noncomputable abbrev zq5 (n_0 n_1 n_2 n_3 n_4 n_5 n_6 n_7 : Int) (l_8 : LB) (n_9 n_10 n_11 n_12 n_13 : Int) (l_14 : LTm) : Option (Nat × List Dat) := op_8p [.n (gn (dOf (zq4 n_0 n_1 n_2 n_3 n_4 n_5 n_6 n_7 l_8 n_9 n_10 n_11 n_12 n_13 l_14)) 0), .n (gn (dOf (zq4 n_0 n_1 n_2 n_3 n_4 n_5 n_6 n_7 l_8 n_9 n_10 n_11 n_12 n_13 l_14)) 1), .n (gn (dOf (zq4 n_0 n_1 n_2 n_3 n_4 n_5 n_6 n_7 l_8 n_9 n_10 n_11 n_12 n_13 l_14)) 2), .n (gn (dOf (zq4 n_0 n_1 n_2 n_3 n_4 n_5 n_6 n_7 l_8 n_9 n_10 n_11 n_12 n_13 l_14)) 3), .n (gn (dOf (zq4 n_0 n_1 n_2 n_3 n_4 n_5 n_6 n_7 l_8 n_9 n_10 n_11 n_12 n_13 l_14)) 4), .n (gn (dOf (zq4 n_0 n_1 n_2 n_3 n_4 n_5 n_6 n_7 l_8 n_9 n_10 n_11 n_12 n_13 l_14)) 5), .n (gn (dOf (zq4 n_0 n_1 n_2 n_3 n_4 n_5 n_6 n_7 l_8 n_9 n_10 n_11 n_12 n_13 l_14)) 6), .n (gn (dOf (zq4 n_0 n_1 n_2 n_3 n_4 n_5 n_6 n_7 l_8 n_9 n_10 n_11 n_12 n_13 l_14)) 7), .l TB (gl TB (dOf (zq4 n_0 n_1 n_2 n_3 n_4 n_5 n_6 n_7 l_8 n_9 n_10 n_11 n_12 n_13 l_14)) 8), .n (gn (dOf (zq4 n_0 n_1 n_2 n_3 n_4 n_5 n_6 n_7 l_8 n_9 n_10 n_11 n_12 n_13 l_14)) 9), .n (gn (dOf (zq4 n_0 n_1 n_2 n_3 n_4 n_5 n_6 n_7 l_8 n_9 n_10 n_11 n_12 n_13 l_14)) 10), .n (gn (dOf (zq4 n_0 n_1 n_2 n_3 n_4 n_5 n_6 n_7 l_8 n_9 n_10 n_11 n_12 n_13 l_14)) 11), .n (gn (dOf (zq4 n_0 n_1 n_2 n_3 n_4 n_5 n_6 n_7 l_8 n_9 n_10 n_11 n_12 n_13 l_14)) 12), .n (gn (dOf (zq4 n_0 n_1 n_2 n_3 n_4 n_5 n_6 n_7 l_8 n_9 n_10 n_11 n_12 n_13 l_14)) 13), .l TTm (gl TTm (dOf (zq4 n_0 n_1 n_2 n_3 n_4 n_5 n_6 n_7 l_8 n_9 n_10 n_11 n_12 n_13 l_14)) 14)]
noncomputable abbrev zq6 (l_0 : LB) : Option (Nat × List Dat) := op_24 [.n (gn (dOf (zq1 l_0)) 0), .n (gn (dOf (zq1 l_0)) 1), .n (gn (dOf (zq1 l_0)) 2), .n (gn (dOf (zq1 l_0)) 3), .n (gn (dOf (zq1 l_0)) 4), .n (gn (dOf (zq1 l_0)) 5), .n (gn (dOf (zq1 l_0)) 6), .n (gn (dOf (zq1 l_0)) 7), .l TB (gl TB (dOf (zq1 l_0)) 8), .n (gn (dOf (zq1 l_0)) 9), .n (gn (dOf (zq1 l_0)) 10), .n (gn (dOf (zq1 l_0)) 11), .n (gn (dOf (zq1 l_0)) 12), .n (gn (dOf (zq1 l_0)) 13), .l TTm (gl TTm (dOf (zq1 l_0)) 15)]
noncomputable abbrev zq7 (l_0 : LB) : Option (Nat × List Dat) := op_7p [.n (gn (dOf (zq1 l_0)) 0), .n (gn (dOf (zq1 l_0)) 1), .n (gn (dOf (zq1 l_0)) 2), .n (gn (dOf (zq1 l_0)) 3), .n (gn (dOf (zq1 l_0)) 4), .n (gn (dOf (zq1 l_0)) 5), .n (gn (dOf (zq1 l_0)) 6), .n (gn (dOf (zq1 l_0)) 7), .l TB (gl TB (dOf (zq1 l_0)) 8), .n (gn (dOf (zq1 l_0)) 9), .n (gn (dOf (zq1 l_0)) 10), .n (gn (dOf (zq1 l_0)) 11), .n (gn (dOf (zq1 l_0)) 12), .n (gn (dOf (zq1 l_0)) 13), .l TTm (gl TTm (dOf (zq1 l_0)) 15)]
noncomputable abbrev zq8 (n_0 n_1 n_2 n_3 n_4 n_5 n_6 n_7 : Int) (l_8 : LB) (n_9 n_10 n_11 n_12 n_13 : Int) (l_14 : LTm) : Option (Nat × List Dat) := op_5g [.l TB (gl TB (dOf (zq3 n_0 n_1 n_2 n_3 n_4 n_5 n_6 n_7 l_8 n_9 n_10 n_11 n_12 n_13 l_14)) 0)]
noncomputable abbrev zq9 (n_0 n_1 n_2 n_3 n_4 n_5 n_6 n_7 : Int) (l_8 : LB) (n_9 n_10 n_11 n_12 n_13 : Int) (l_14 : LTm) : Option (Nat × List Dat) := op_6g [.l TB (gl TB (dOf (zq3 n_0 n_1 n_2 n_3 n_4 n_5 n_6 n_7 l_8 n_9 n_10 n_11 n_12 n_13 l_14)) 0)]
noncomputable abbrev zq10 (l_0 : LB) : Option (Nat × List Dat) := op_25 [.n (gn (dOf (zq6 l_0)) 0), .n (gn (dOf (zq6 l_0)) 1), .n (gn (dOf (zq6 l_0)) 2), .n (gn (dOf (zq6 l_0)) 3), .n (gn (dOf (zq6 l_0)) 4), .n (gn (dOf (zq6 l_0)) 5), .n (gn (dOf (zq6 l_0)) 6), .n (gn (dOf (zq6 l_0)) 7), .l TB (gl TB (dOf (zq6 l_0)) 8), .n (gn (dOf (zq6 l_0)) 9), .n (gn (dOf (zq6 l_0)) 10), .n (gn (dOf (zq6 l_0)) 11), .n (gn (dOf (zq6 l_0)) 12), .n (gn (dOf (zq6 l_0)) 13), .l TTm (gl TTm (dOf (zq6 l_0)) 14), .n (gn (dOf (zq2 l_0)) 0), .n (gn (dOf (zq2 l_0)) 1), .n (gn (dOf (zq2 l_0)) 2), .n (gn (dOf (zq2 l_0)) 3), .n (gn (dOf (zq2 l_0)) 4), .n (gn (dOf (zq2 l_0)) 5), .n (gn (dOf (zq2 l_0)) 6), .n (gn (dOf (zq2 l_0)) 7), .l TB (gl TB (dOf (zq2 l_0)) 8), .n (gn (dOf (zq2 l_0)) 9), .n (gn (dOf (zq2 l_0)) 10), .n (gn (dOf (zq2 l_0)) 11), .n (gn (dOf (zq2 l_0)) 12), .n (gn (dOf (zq2 l_0)) 13), .l TTm (gl TTm (dOf (zq2 l_0)) 15)]
noncomputable abbrev zq11 (n_0 n_1 n_2 n_3 n_4 n_5 n_6 n_7 : Int) (l_8 : LB) (n_9 n_10 n_11 n_12 n_13 : Int) (l_14 : LTm) : Option (Nat × List Dat) := op_24 [.n (gn (dOf (zq8 n_0 n_1 n_2 n_3 n_4 n_5 n_6 n_7 l_8 n_9 n_10 n_11 n_12 n_13 l_14)) 0), .n (gn (dOf (zq8 n_0 n_1 n_2 n_3 n_4 n_5 n_6 n_7 l_8 n_9 n_10 n_11 n_12 n_13 l_14)) 1), .n (gn (dOf (zq8 n_0 n_1 n_2 n_3 n_4 n_5 n_6 n_7 l_8 n_9 n_10 n_11 n_12 n_13 l_14)) 2), .n (gn (dOf (zq8 n_0 n_1 n_2 n_3 n_4 n_5 n_6 n_7 l_8 n_9 n_10 n_11 n_12 n_13 l_14)) 3), .n (gn (dOf (zq8 n_0 n_1 n_2 n_3 n_4 n_5 n_6 n_7 l_8 n_9 n_10 n_11 n_12 n_13 l_14)) 4), .n (gn (dOf (zq8 n_0 n_1 n_2 n_3 n_4 n_5 n_6 n_7 l_8 n_9 n_10 n_11 n_12 n_13 l_14)) 5), .n (gn (dOf (zq8 n_0 n_1 n_2 n_3 n_4 n_5 n_6 n_7 l_8 n_9 n_10 n_11 n_12 n_13 l_14)) 6), .n (gn (dOf (zq8 n_0 n_1 n_2 n_3 n_4 n_5 n_6 n_7 l_8 n_9 n_10 n_11 n_12 n_13 l_14)) 7), .l TB (gl TB (dOf (zq8 n_0 n_1 n_2 n_3 n_4 n_5 n_6 n_7 l_8 n_9 n_10 n_11 n_12 n_13 l_14)) 8), .n (gn (dOf (zq8 n_0 n_1 n_2 n_3 n_4 n_5 n_6 n_7 l_8 n_9 n_10 n_11 n_12 n_13 l_14)) 9), .n (gn (dOf (zq8 n_0 n_1 n_2 n_3 n_4 n_5 n_6 n_7 l_8 n_9 n_10 n_11 n_12 n_13 l_14)) 10), .n (gn (dOf (zq8 n_0 n_1 n_2 n_3 n_4 n_5 n_6 n_7 l_8 n_9 n_10 n_11 n_12 n_13 l_14)) 11), .n (gn (dOf (zq8 n_0 n_1 n_2 n_3 n_4 n_5 n_6 n_7 l_8 n_9 n_10 n_11 n_12 n_13 l_14)) 12), .n (gn (dOf (zq8 n_0 n_1 n_2 n_3 n_4 n_5 n_6 n_7 l_8 n_9 n_10 n_11 n_12 n_13 l_14)) 13), .l TTm (gl TTm (dOf (zq8 n_0 n_1 n_2 n_3 n_4 n_5 n_6 n_7 l_8 n_9 n_10 n_11 n_12 n_13 l_14)) 15)]
noncomputable abbrev zq12 (n_0 n_1 n_2 n_3 n_4 n_5 n_6 n_7 : Int) (l_8 : LB) (n_9 n_10 n_11 n_12 n_13 : Int) (l_14 : LTm) : Option (Nat × List Dat) := op_25 [.n (gn (dOf (zq11 n_0 n_1 n_2 n_3 n_4 n_5 n_6 n_7 l_8 n_9 n_10 n_11 n_12 n_13 l_14)) 0), .n (gn (dOf (zq11 n_0 n_1 n_2 n_3 n_4 n_5 n_6 n_7 l_8 n_9 n_10 n_11 n_12 n_13 l_14)) 1), .n (gn (dOf (zq11 n_0 n_1 n_2 n_3 n_4 n_5 n_6 n_7 l_8 n_9 n_10 n_11 n_12 n_13 l_14)) 2), .n (gn (dOf (zq11 n_0 n_1 n_2 n_3 n_4 n_5 n_6 n_7 l_8 n_9 n_10 n_11 n_12 n_13 l_14)) 3), .n (gn (dOf (zq11 n_0 n_1 n_2 n_3 n_4 n_5 n_6 n_7 l_8 n_9 n_10 n_11 n_12 n_13 l_14)) 4), .n (gn (dOf (zq11 n_0 n_1 n_2 n_3 n_4 n_5 n_6 n_7 l_8 n_9 n_10 n_11 n_12 n_13 l_14)) 5), .n (gn (dOf (zq11 n_0 n_1 n_2 n_3 n_4 n_5 n_6 n_7 l_8 n_9 n_10 n_11 n_12 n_13 l_14)) 6), .n (gn (dOf (zq11 n_0 n_1 n_2 n_3 n_4 n_5 n_6 n_7 l_8 n_9 n_10 n_11 n_12 n_13 l_14)) 7), .l TB (gl TB (dOf (zq11 n_0 n_1 n_2 n_3 n_4 n_5 n_6 n_7 l_8 n_9 n_10 n_11 n_12 n_13 l_14)) 8), .n (gn (dOf (zq11 n_0 n_1 n_2 n_3 n_4 n_5 n_6 n_7 l_8 n_9 n_10 n_11 n_12 n_13 l_14)) 9), .n (gn (dOf (zq11 n_0 n_1 n_2 n_3 n_4 n_5 n_6 n_7 l_8 n_9 n_10 n_11 n_12 n_13 l_14)) 10), .n (gn (dOf (zq11 n_0 n_1 n_2 n_3 n_4 n_5 n_6 n_7 l_8 n_9 n_10 n_11 n_12 n_13 l_14)) 11), .n (gn (dOf (zq11 n_0 n_1 n_2 n_3 n_4 n_5 n_6 n_7 l_8 n_9 n_10 n_11 n_12 n_13 l_14)) 12), .n (gn (dOf (zq11 n_0 n_1 n_2 n_3 n_4 n_5 n_6 n_7 l_8 n_9 n_10 n_11 n_12 n_13 l_14)) 13), .l TTm (gl TTm (dOf (zq11 n_0 n_1 n_2 n_3 n_4 n_5 n_6 n_7 l_8 n_9 n_10 n_11 n_12 n_13 l_14)) 14), .n (gn (dOf (zq9 n_0 n_1 n_2 n_3 n_4 n_5 n_6 n_7 l_8 n_9 n_10 n_11 n_12 n_13 l_14)) 0), .n (gn (dOf (zq9 n_0 n_1 n_2 n_3 n_4 n_5 n_6 n_7 l_8 n_9 n_10 n_11 n_12 n_13 l_14)) 1), .n (gn (dOf (zq9 n_0 n_1 n_2 n_3 n_4 n_5 n_6 n_7 l_8 n_9 n_10 n_11 n_12 n_13 l_14)) 2), .n (gn (dOf (zq9 n_0 n_1 n_2 n_3 n_4 n_5 n_6 n_7 l_8 n_9 n_10 n_11 n_12 n_13 l_14)) 3), .n (gn (dOf (zq9 n_0 n_1 n_2 n_3 n_4 n_5 n_6 n_7 l_8 n_9 n_10 n_11 n_12 n_13 l_14)) 4), .n (gn (dOf (zq9 n_0 n_1 n_2 n_3 n_4 n_5 n_6 n_7 l_8 n_9 n_10 n_11 n_12 n_13 l_14)) 5), .n (gn (dOf (zq9 n_0 n_1 n_2 n_3 n_4 n_5 n_6 n_7 l_8 n_9 n_10 n_11 n_12 n_13 l_14)) 6), .n (gn (dOf (zq9 n_0 n_1 n_2 n_3 n_4 n_5 n_6 n_7 l_8 n_9 n_10 n_11 n_12 n_13 l_14)) 7), .l TB (gl TB (dOf (zq9 n_0 n_1 n_2 n_3 n_4 n_5 n_6 n_7 l_8 n_9 n_10 n_11 n_12 n_13 l_14)) 8), .n (gn (dOf (zq9 n_0 n_1 n_2 n_3 n_4 n_5 n_6 n_7 l_8 n_9 n_10 n_11 n_12 n_13 l_14)) 9), .n (gn (dOf (zq9 n_0 n_1 n_2 n_3 n_4 n_5 n_6 n_7 l_8 n_9 n_10 n_11 n_12 n_13 l_14)) 10), .n (gn (dOf (zq9 n_0 n_1 n_2 n_3 n_4 n_5 n_6 n_7 l_8 n_9 n_10 n_11 n_12 n_13 l_14)) 11), .n (gn (dOf (zq9 n_0 n_1 n_2 n_3 n_4 n_5 n_6 n_7 l_8 n_9 n_10 n_11 n_12 n_13 l_14)) 12), .n (gn (dOf (zq9 n_0 n_1 n_2 n_3 n_4 n_5 n_6 n_7 l_8 n_9 n_10 n_11 n_12 n_13 l_14)) 13), .l TTm (gl TTm (dOf (zq9 n_0 n_1 n_2 n_3 n_4 n_5 n_6 n_7 l_8 n_9 n_10 n_11 n_12 n_13 l_14)) 15)]
noncomputable abbrev zq13 (n_0 n_1 n_2 n_3 n_4 n_5 n_6 n_7 : Int) (l_8 : LB) (n_9 n_10 n_11 n_12 n_13 : Int) (l_14 : LTm) : Option (Nat × List Dat) := op_24 [.n (gn (dOf (zq8 n_0 n_1 n_2 n_3 n_4 n_5 n_6 n_7 l_8 n_9 n_10 n_11 n_12 n_13 l_14)) 0), .n (gn (dOf (zq8 n_0 n_1 n_2 n_3 n_4 n_5 n_6 n_7 l_8 n_9 n_10 n_11 n_12 n_13 l_14)) 1), .n (gn (dOf (zq8 n_0 n_1 n_2 n_3 n_4 n_5 n_6 n_7 l_8 n_9 n_10 n_11 n_12 n_13 l_14)) 2), .n (gn (dOf (zq8 n_0 n_1 n_2 n_3 n_4 n_5 n_6 n_7 l_8 n_9 n_10 n_11 n_12 n_13 l_14)) 3), .n (gn (dOf (zq8 n_0 n_1 n_2 n_3 n_4 n_5 n_6 n_7 l_8 n_9 n_10 n_11 n_12 n_13 l_14)) 4), .n (gn (dOf (zq8 n_0 n_1 n_2 n_3 n_4 n_5 n_6 n_7 l_8 n_9 n_10 n_11 n_12 n_13 l_14)) 5), .n (gn (dOf (zq8 n_0 n_1 n_2 n_3 n_4 n_5 n_6 n_7 l_8 n_9 n_10 n_11 n_12 n_13 l_14)) 6), .n (gn (dOf (zq8 n_0 n_1 n_2 n_3 n_4 n_5 n_6 n_7 l_8 n_9 n_10 n_11 n_12 n_13 l_14)) 7), .l TB (gl TB (dOf (zq8 n_0 n_1 n_2 n_3 n_4 n_5 n_6 n_7 l_8 n_9 n_10 n_11 n_12 n_13 l_14)) 8), .n (gn (dOf (zq8 n_0 n_1 n_2 n_3 n_4 n_5 n_6 n_7 l_8 n_9 n_10 n_11 n_12 n_13 l_14)) 9), .n (gn (dOf (zq8 n_0 n_1 n_2 n_3 n_4 n_5 n_6 n_7 l_8 n_9 n_10 n_11 n_12 n_13 l_14)) 10), .n (gn (dOf (zq8 n_0 n_1 n_2 n_3 n_4 n_5 n_6 n_7 l_8 n_9 n_10 n_11 n_12 n_13 l_14)) 11), .n (gn (dOf (zq8 n_0 n_1 n_2 n_3 n_4 n_5 n_6 n_7 l_8 n_9 n_10 n_11 n_12 n_13 l_14)) 12), .n (gn (dOf (zq8 n_0 n_1 n_2 n_3 n_4 n_5 n_6 n_7 l_8 n_9 n_10 n_11 n_12 n_13 l_14)) 13), .l TTm []]
noncomputable abbrev zq14 (n_0 n_1 n_2 n_3 n_4 n_5 n_6 n_7 : Int) (l_8 : LB) (n_9 n_10 n_11 n_12 n_13 : Int) (l_14 : LTm) : Option (Nat × List Dat) := op_25 [.n (gn (dOf (zq13 n_0 n_1 n_2 n_3 n_4 n_5 n_6 n_7 l_8 n_9 n_10 n_11 n_12 n_13 l_14)) 0), .n (gn (dOf (zq13 n_0 n_1 n_2 n_3 n_4 n_5 n_6 n_7 l_8 n_9 n_10 n_11 n_12 n_13 l_14)) 1), .n (gn (dOf (zq13 n_0 n_1 n_2 n_3 n_4 n_5 n_6 n_7 l_8 n_9 n_10 n_11 n_12 n_13 l_14)) 2), .n (gn (dOf (zq13 n_0 n_1 n_2 n_3 n_4 n_5 n_6 n_7 l_8 n_9 n_10 n_11 n_12 n_13 l_14)) 3), .n (gn (dOf (zq13 n_0 n_1 n_2 n_3 n_4 n_5 n_6 n_7 l_8 n_9 n_10 n_11 n_12 n_13 l_14)) 4), .n (gn (dOf (zq13 n_0 n_1 n_2 n_3 n_4 n_5 n_6 n_7 l_8 n_9 n_10 n_11 n_12 n_13 l_14)) 5), .n (gn (dOf (zq13 n_0 n_1 n_2 n_3 n_4 n_5 n_6 n_7 l_8 n_9 n_10 n_11 n_12 n_13 l_14)) 6), .n (gn (dOf (zq13 n_0 n_1 n_2 n_3 n_4 n_5 n_6 n_7 l_8 n_9 n_10 n_11 n_12 n_13 l_14)) 7), .l TB (gl TB (dOf (zq13 n_0 n_1 n_2 n_3 n_4 n_5 n_6 n_7 l_8 n_9 n_10 n_11 n_12 n_13 l_14)) 8), .n (gn (dOf (zq13 n_0 n_1 n_2 n_3 n_4 n_5 n_6 n_7 l_8 n_9 n_10 n_11 n_12 n_13 l_14)) 9), .n (gn (dOf (zq13 n_0 n_1 n_2 n_3 n_4 n_5 n_6 n_7 l_8 n_9 n_10 n_11 n_12 n_13 l_14)) 10), .n (gn (dOf (zq13 n_0 n_1 n_2 n_3 n_4 n_5 n_6 n_7 l_8 n_9 n_10 n_11 n_12 n_13 l_14)) 11), .n (gn (dOf (zq13 n_0 n_1 n_2 n_3 n_4 n_5 n_6 n_7 l_8 n_9 n_10 n_11 n_12 n_13 l_14)) 12), .n (gn (dOf (zq13 n_0 n_1 n_2 n_3 n_4 n_5 n_6 n_7 l_8 n_9 n_10 n_11 n_12 n_13 l_14)) 13), .l TTm (gl TTm (dOf (zq13 n_0 n_1 n_2 n_3 n_4 n_5 n_6 n_7 l_8 n_9 n_10 n_11 n_12 n_13 l_14)) 14), .n (gn (dOf (zq9 n_0 n_1 n_2 n_3 n_4 n_5 n_6 n_7 l_8 n_9 n_10 n_11 n_12 n_13 l_14)) 0), .n (gn (dOf (zq9 n_0 n_1 n_2 n_3 n_4 n_5 n_6 n_7 l_8 n_9 n_10 n_11 n_12 n_13 l_14)) 1), .n (gn (dOf (zq9 n_0 n_1 n_2 n_3 n_4 n_5 n_6 n_7 l_8 n_9 n_10 n_11 n_12 n_13 l_14)) 2), .n (gn (dOf (zq9 n_0 n_1 n_2 n_3 n_4 n_5 n_6 n_7 l_8 n_9 n_10 n_11 n_12 n_13 l_14)) 3), .n (gn (dOf (zq9 n_0 n_1 n_2 n_3 n_4 n_5 n_6 n_7 l_8 n_9 n_10 n_11 n_12 n_13 l_14)) 4), .n (gn (dOf (zq9 n_0 n_1 n_2 n_3 n_4 n_5 n_6 n_7 l_8 n_9 n_10 n_11 n_12 n_13 l_14)) 5), .n (gn (dOf (zq9 n_0 n_1 n_2 n_3 n_4 n_5 n_6 n_7 l_8 n_9 n_10 n_11 n_12 n_13 l_14)) 6), .n (gn (dOf (zq9 n_0 n_1 n_2 n_3 n_4 n_5 n_6 n_7 l_8 n_9 n_10 n_11 n_12 n_13 l_14)) 7), .l TB (gl TB (dOf (zq9 n_0 n_1 n_2 n_3 n_4 n_5 n_6 n_7 l_8 n_9 n_10 n_11 n_12 n_13 l_14)) 8), .n (gn (dOf (zq9 n_0 n_1 n_2 n_3 n_4 n_5 n_6 n_7 l_8 n_9 n_10 n_11 n_12 n_13 l_14)) 9), .n (gn (dOf (zq9 n_0 n_1 n_2 n_3 n_4 n_5 n_6 n_7 l_8 n_9 n_10 n_11 n_12 n_13 l_14)) 10), .n (gn (dOf (zq9 n_0 n_1 n_2 n_3 n_4 n_5 n_6 n_7 l_8 n_9 n_10 n_11 n_12 n_13 l_14)) 11), .n (gn (dOf (zq9 n_0 n_1 n_2 n_3 n_4 n_5 n_6 n_7 l_8 n_9 n_10 n_11 n_12 n_13 l_14)) 12), .n (gn (dOf (zq9 n_0 n_1 n_2 n_3 n_4 n_5 n_6 n_7 l_8 n_9 n_10 n_11 n_12 n_13 l_14)) 13), .l TTm []]
noncomputable abbrev zq15 (l_0 : LB) : Option (Nat × List Dat) := op_24 [.n (gn (dOf (zq1 l_0)) 0), .n (gn (dOf (zq1 l_0)) 1), .n (gn (dOf (zq1 l_0)) 2), .n (gn (dOf (zq1 l_0)) 3), .n (gn (dOf (zq1 l_0)) 4), .n (gn (dOf (zq1 l_0)) 5), .n (gn (dOf (zq1 l_0)) 6), .n (gn (dOf (zq1 l_0)) 7), .l TB (gl TB (dOf (zq1 l_0)) 8), .n (gn (dOf (zq1 l_0)) 9), .n (gn (dOf (zq1 l_0)) 10), .n (gn (dOf (zq1 l_0)) 11), .n (gn (dOf (zq1 l_0)) 12), .n (gn (dOf (zq1 l_0)) 13), .l TTm []]
noncomputable abbrev zq16 (l_0 : LB) : Option (Nat × List Dat) := op_7p [.n (gn (dOf (zq1 l_0)) 0), .n (gn (dOf (zq1 l_0)) 1), .n (gn (dOf (zq1 l_0)) 2), .n (gn (dOf (zq1 l_0)) 3), .n (gn (dOf (zq1 l_0)) 4), .n (gn (dOf (zq1 l_0)) 5), .n (gn (dOf (zq1 l_0)) 6), .n (gn (dOf (zq1 l_0)) 7), .l TB (gl TB (dOf (zq1 l_0)) 8), .n (gn (dOf (zq1 l_0)) 9), .n (gn (dOf (zq1 l_0)) 10), .n (gn (dOf (zq1 l_0)) 11), .n (gn (dOf (zq1 l_0)) 12), .n (gn (dOf (zq1 l_0)) 13), .l TTm []]
noncomputable abbrev zq17 (l_0 : LB) : Option (Nat × List Dat) := op_25 [.n (gn (dOf (zq15 l_0)) 0), .n (gn (dOf (zq15 l_0)) 1), .n (gn (dOf (zq15 l_0)) 2), .n (gn (dOf (zq15 l_0)) 3), .n (gn (dOf (zq15 l_0)) 4), .n (gn (dOf (zq15 l_0)) 5), .n (gn (dOf (zq15 l_0)) 6), .n (gn (dOf (zq15 l_0)) 7), .l TB (gl TB (dOf (zq15 l_0)) 8), .n (gn (dOf (zq15 l_0)) 9), .n (gn (dOf (zq15 l_0)) 10), .n (gn (dOf (zq15 l_0)) 11), .n (gn (dOf (zq15 l_0)) 12), .n (gn (dOf (zq15 l_0)) 13), .l TTm (gl TTm (dOf (zq15 l_0)) 14), .n (gn (dOf (zq2 l_0)) 0), .n (gn (dOf (zq2 l_0)) 1), .n (gn (dOf (zq2 l_0)) 2), .n (gn (dOf (zq2 l_0)) 3), .n (gn (dOf (zq2 l_0)) 4), .n (gn (dOf (zq2 l_0)) 5), .n (gn (dOf (zq2 l_0)) 6), .n (gn (dOf (zq2 l_0)) 7), .l TB (gl TB (dOf (zq2 l_0)) 8), .n (gn (dOf (zq2 l_0)) 9), .n (gn (dOf (zq2 l_0)) 10), .n (gn (dOf (zq2 l_0)) 11), .n (gn (dOf (zq2 l_0)) 12), .n (gn (dOf (zq2 l_0)) 13), .l TTm []]
attribute [local simp] zq1 zq2 zq3 zq4 zq5 zq6 zq7 zq8 zq9 zq10 zq11 zq12 zq13 zq14 zq15 zq16 zq17
noncomputable def ev_W3 (env : List Dat) : Tree Bool := Lk.lawB false LK cs_6g 3 ls0 (instL [msV 0 (.imm TTm 14), .imm TB 15] env)

theorem W3_law (env : List Dat) (h : (ev_W3 env).sel = some true) {w : World} {args : Array Value} (ha : LRel R0 (snapOf w) (instL [msV 0 (.imm TTm 14), .imm TB 15] env) args) :
    Calls Try.prog 3 args w fun e w' => e = .returned (.bool true) ∧ Below w.heap.size w w' :=
  lawB_ok cs_6g_ok hmix false (ls := ls0) (LsOk.none _ _ _) (by rw [← lawB_lk]; exact h) ha

def fn_W3_hAA : List Dat → Tree Bool := fun _ => .leaf true
theorem fn_W3_hAA_im (n0 n1 n2 n3 n4 n5 n6 n7 : Int) (l8 : LB) (n9 n10 n11 n12 n13 : Int) (l14 : LTm) (l15 l16 : LB) (n17 n18 n19 n20 n21 n22 n23 n24 : Int) (l25 : LB) (n26 n27 n28 n29 n30 : Int) (l31 : LTm) (n32 n33 n34 n35 n36 n37 n38 n39 : Int) (l40 : LB) (n41 n42 n43 n44 n45 : Int) (l46 : LTm) (g0 : (l14.length : Int) ≤ 200) (g1 :  (l15.length : Int) ≤ 1000) (g2 :  l8.length = 64) (g3 :  bytesOf (strOf l15) = l15) (g4 :  strEq (strOf l15) (strOf l15) = true) (g5 :  strEq (strOf l16) (strOf l16) = true) (g6 :  op_5g [.l TB l15] = some (0, [.n n17, .n n18, .n n19, .n n20, .n n21, .n n22, .n n23, .n n24, .l TB l25, .n n26, .n n27, .n n28, .n n29, .n n30, .n 0, .l TTm l31])) (g7 :  op_6g [.l TB l15] = some (0, [.n n17, .n n18, .n n19, .n n20, .n n21, .n n22, .n n23, .n n24, .l TB l25, .n n26, .n n27, .n n28, .n n29, .n n30, .b true, .l TTm l31])) (g8 :  op_24 [.n n17, .n n18, .n n19, .n n20, .n n21, .n n22, .n n23, .n n24, .l TB l25, .n n26, .n n27, .n n28, .n n29, .n n30, .l TTm l31] = some (0, [.n n17, .n n18, .n n19, .n n20, .n n21, .n n22, .n n23, .n n24, .l TB l25, .n n26, .n n27, .n n28, .n n29, .n n30, .l TTm l31])) (g9 :  op_25 [.n n17, .n n18, .n n19, .n n20, .n n21, .n n22, .n n23, .n n24, .l TB l25, .n n26, .n n27, .n n28, .n n29, .n n30, .l TTm l31, .n n17, .n n18, .n n19, .n n20, .n n21, .n n22, .n n23, .n n24, .l TB l25, .n n26, .n n27, .n n28, .n n29, .n n30, .l TTm l31] = some (0, [.b true])) (g10 :  op_7p [.n n0, .n n1, .n n2, .n n3, .n n4, .n n5, .n n6, .n n7, .l TB l8, .n n9, .n n10, .n n11, .n n12, .n n13, .l TTm l14] = some (0, [.l TB l16])) (g11 :  op_24 [.n n0, .n n1, .n n2, .n n3, .n n4, .n n5, .n n6, .n n7, .l TB l8, .n n9, .n n10, .n n11, .n n12, .n n13, .l TTm l14] = some (0, [.n n0, .n n1, .n n2, .n n3, .n n4, .n n5, .n n6, .n n7, .l TB l8, .n n9, .n n10, .n n11, .n n12, .n n13, .l TTm l14])) (g12 :  op_8p [.n n0, .n n1, .n n2, .n n3, .n n4, .n n5, .n n6, .n n7, .l TB l8, .n n9, .n n10, .n n11, .n n12, .n n13, .l TTm l14] = some (0, [.l TB l16])) (g13 :  op_7p [.n n17, .n n18, .n n19, .n n20, .n n21, .n n22, .n n23, .n n24, .l TB l25, .n n26, .n n27, .n n28, .n n29, .n n30, .l TTm l31] = some (0, [.l TB l15])) (g14 :  op_5g [.l TB l16] = some (0, [.n n32, .n n33, .n n34, .n n35, .n n36, .n n37, .n n38, .n n39, .l TB l40, .n n41, .n n42, .n n43, .n n44, .n n45, .n 0, .l TTm l46])) (g15 :  op_6g [.l TB l16] = some (0, [.n n32, .n n33, .n n34, .n n35, .n n36, .n n37, .n n38, .n n39, .l TB l40, .n n41, .n n42, .n n43, .n n44, .n n45, .b true, .l TTm l46])) (g16 :  op_24 [.n n32, .n n33, .n n34, .n n35, .n n36, .n n37, .n n38, .n n39, .l TB l40, .n n41, .n n42, .n n43, .n n44, .n n45, .l TTm l46] = some (0, [.n n32, .n n33, .n n34, .n n35, .n n36, .n n37, .n n38, .n n39, .l TB l40, .n n41, .n n42, .n n43, .n n44, .n n45, .l TTm l46])) (g17 :  op_25 [.n n32, .n n33, .n n34, .n n35, .n n36, .n n37, .n n38, .n n39, .l TB l40, .n n41, .n n42, .n n43, .n n44, .n n45, .l TTm l46, .n n32, .n n33, .n n34, .n n35, .n n36, .n n37, .n n38, .n n39, .l TB l40, .n n41, .n n42, .n n43, .n n44, .n n45, .l TTm l46] = some (0, [.b true])) : Imp (fn_W3_hAA (.n n0 :: .n n1 :: .n n2 :: .n n3 :: .n n4 :: .n n5 :: .n n6 :: .n n7 :: .l TB l8 :: .n n9 :: .n n10 :: .n n11 :: .n n12 :: .n n13 :: .l TTm l14 :: .l TB l15 :: .l TB l16 :: .n n17 :: .n n18 :: .n n19 :: .n n20 :: .n n21 :: .n n22 :: .n n23 :: .n n24 :: .l TB l25 :: .n n26 :: .n n27 :: .n n28 :: .n n29 :: .n n30 :: .l TTm l31 :: .n n32 :: .n n33 :: .n n34 :: .n n35 :: .n n36 :: .n n37 :: .n n38 :: .n n39 :: .l TB l40 :: .n n41 :: .n n42 :: .n n43 :: .n n44 :: .n n45 :: .l TTm l46 :: [])) (ev_W3 [.n n0, .n n1, .n n2, .n n3, .n n4, .n n5, .n n6, .n n7, .l TB l8, .n n9, .n n10, .n n11, .n n12, .n n13, .l TTm l14, .l TB l15]) :=
(.sF ((decide ((↑(List.length l14) : Int) > (200 : Int))))
(.sF ((decide ((↑(List.length l15) : Int) > (1000 : Int))))
(.sT ((isK 0 [.n, .n, .n, .n, .n, .n, .n, .n, .l TB, .n, .n, .n, .n, .n, .n, .l TTm] (zq1 l15)))
(.pa [1]
(.sT ((isK 0 [.n, .n, .n, .n, .n, .n, .n, .n, .l TB, .n, .n, .n, .n, .n, .b, .l TTm] (zq2 l15)))
(.pa [1]
(.sT ((isK 0 [.l TB] (zq3 n0 n1 n2 n3 n4 n5 n6 n7 l8 n9 n10 n11 n12 n13 l14)))
(.pa [1]
(.sT ((isK 0 [.n, .n, .n, .n, .n, .n, .n, .n, .l TB, .n, .n, .n, .n, .n, .l TTm] (zq4 n0 n1 n2 n3 n4 n5 n6 n7 l8 n9 n10 n11 n12 n13 l14)))
(.pa [1]
(.sT ((isK 0 [.l TB] (zq5 n0 n1 n2 n3 n4 n5 n6 n7 l8 n9 n10 n11 n12 n13 l14)))
(.pa [1]
(.sF ((!strEq (strOf (gl TB (dOf (zq3 n0 n1 n2 n3 n4 n5 n6 n7 l8 n9 n10 n11 n12 n13 l14)) 0)) (strOf (gl TB (dOf (zq5 n0 n1 n2 n3 n4 n5 n6 n7 l8 n9 n10 n11 n12 n13 l14)) 0))))
(.sT ((isK 0 [.n, .n, .n, .n, .n, .n, .n, .n, .l TB, .n, .n, .n, .n, .n, .l TTm] (zq6 l15)))
(.pa [1]
(.sT ((isK 0 [.b] (zq10 l15)))
(.pa [1]
(.sF ((!gb (dOf (zq10 l15)) 0))
(.sF ((!(gn (dOf (zq1 l15)) 14 == (0 : Int)) == gb (dOf (zq2 l15)) 14))
(.sF ((!gb (dOf (zq2 l15)) 14))
(.pa [0,0,1]
(.sF ((!strEq (strOf (bytesOf (strOf l15))) (strOf l15)))
(.sT ((gb (dOf (zq2 l15)) 14))
(.sT ((isK 0 [.l TB] (zq7 l15)))
(.pa [1,1]
(.sF ((!strEq (strOf (gl TB (dOf (zq7 l15)) 0)) (strOf l15)))
(.sT ((isK 0 [.n, .n, .n, .n, .n, .n, .n, .n, .l TB, .n, .n, .n, .n, .n, .n, .l TTm] (zq8 n0 n1 n2 n3 n4 n5 n6 n7 l8 n9 n10 n11 n12 n13 l14)))
(.pa [1]
(.sT ((isK 0 [.n, .n, .n, .n, .n, .n, .n, .n, .l TB, .n, .n, .n, .n, .n, .b, .l TTm] (zq9 n0 n1 n2 n3 n4 n5 n6 n7 l8 n9 n10 n11 n12 n13 l14)))
(.pa [1]
(.sT (((gn (dOf (zq8 n0 n1 n2 n3 n4 n5 n6 n7 l8 n9 n10 n11 n12 n13 l14)) 14 == (0 : Int)) == gb (dOf (zq9 n0 n1 n2 n3 n4 n5 n6 n7 l8 n9 n10 n11 n12 n13 l14)) 14))
(.sT ((isK 0 [.n, .n, .n, .n, .n, .n, .n, .n, .l TB, .n, .n, .n, .n, .n, .l TTm] (zq11 n0 n1 n2 n3 n4 n5 n6 n7 l8 n9 n10 n11 n12 n13 l14)))
(.pa [1]
(.sT ((isK 0 [.b] (zq12 n0 n1 n2 n3 n4 n5 n6 n7 l8 n9 n10 n11 n12 n13 l14)))
(.pa [1]
(.sT ((gb (dOf (zq12 n0 n1 n2 n3 n4 n5 n6 n7 l8 n9 n10 n11 n12 n13 l14)) 0))
(.pa [1,1,1,1]
.lf)))))))))))))))))))))))))))))))))))))

def fn_W3_hAB : List Dat → Tree Bool := fun _ => .leaf true
theorem fn_W3_hAB_im (n0 n1 n2 n3 n4 n5 n6 n7 : Int) (l8 : LB) (n9 n10 n11 n12 n13 : Int) (l14 : LTm) (l15 l16 : LB) (n17 n18 n19 n20 n21 n22 n23 n24 : Int) (l25 : LB) (n26 n27 n28 n29 n30 : Int) (l31 : LTm) (n32 n33 n34 n35 n36 n37 n38 n39 : Int) (l40 : LB) (n41 n42 n43 n44 n45 : Int) (g0 : (l14.length : Int) ≤ 200) (g1 :  (l15.length : Int) ≤ 1000) (g2 :  l8.length = 64) (g3 :  bytesOf (strOf l15) = l15) (g4 :  strEq (strOf l15) (strOf l15) = true) (g5 :  strEq (strOf l16) (strOf l16) = true) (g6 :  op_5g [.l TB l15] = some (0, [.n n17, .n n18, .n n19, .n n20, .n n21, .n n22, .n n23, .n n24, .l TB l25, .n n26, .n n27, .n n28, .n n29, .n n30, .n 0, .l TTm l31])) (g7 :  op_6g [.l TB l15] = some (0, [.n n17, .n n18, .n n19, .n n20, .n n21, .n n22, .n n23, .n n24, .l TB l25, .n n26, .n n27, .n n28, .n n29, .n n30, .b true, .l TTm l31])) (g8 :  op_24 [.n n17, .n n18, .n n19, .n n20, .n n21, .n n22, .n n23, .n n24, .l TB l25, .n n26, .n n27, .n n28, .n n29, .n n30, .l TTm l31] = some (0, [.n n17, .n n18, .n n19, .n n20, .n n21, .n n22, .n n23, .n n24, .l TB l25, .n n26, .n n27, .n n28, .n n29, .n n30, .l TTm l31])) (g9 :  op_25 [.n n17, .n n18, .n n19, .n n20, .n n21, .n n22, .n n23, .n n24, .l TB l25, .n n26, .n n27, .n n28, .n n29, .n n30, .l TTm l31, .n n17, .n n18, .n n19, .n n20, .n n21, .n n22, .n n23, .n n24, .l TB l25, .n n26, .n n27, .n n28, .n n29, .n n30, .l TTm l31] = some (0, [.b true])) (g10 :  op_7p [.n n0, .n n1, .n n2, .n n3, .n n4, .n n5, .n n6, .n n7, .l TB l8, .n n9, .n n10, .n n11, .n n12, .n n13, .l TTm l14] = some (0, [.l TB l16])) (g11 :  op_24 [.n n0, .n n1, .n n2, .n n3, .n n4, .n n5, .n n6, .n n7, .l TB l8, .n n9, .n n10, .n n11, .n n12, .n n13, .l TTm l14] = some (0, [.n n0, .n n1, .n n2, .n n3, .n n4, .n n5, .n n6, .n n7, .l TB l8, .n n9, .n n10, .n n11, .n n12, .n n13, .l TTm l14])) (g12 :  op_8p [.n n0, .n n1, .n n2, .n n3, .n n4, .n n5, .n n6, .n n7, .l TB l8, .n n9, .n n10, .n n11, .n n12, .n n13, .l TTm l14] = some (0, [.l TB l16])) (g13 :  op_7p [.n n17, .n n18, .n n19, .n n20, .n n21, .n n22, .n n23, .n n24, .l TB l25, .n n26, .n n27, .n n28, .n n29, .n n30, .l TTm l31] = some (0, [.l TB l15])) (g14 :  op_5g [.l TB l16] = some (1, [.n n32, .n n33, .n n34, .n n35, .n n36, .n n37, .n n38, .n n39, .l TB l40, .n n41, .n n42, .n n43, .n n44, .n n45, .n 0])) (g15 :  op_6g [.l TB l16] = some (1, [.n n32, .n n33, .n n34, .n n35, .n n36, .n n37, .n n38, .n n39, .l TB l40, .n n41, .n n42, .n n43, .n n44, .n n45, .b true])) (g16 :  op_24 [.n n32, .n n33, .n n34, .n n35, .n n36, .n n37, .n n38, .n n39, .l TB l40, .n n41, .n n42, .n n43, .n n44, .n n45, .l TTm ([] : LTm)] = some (0, [.n n32, .n n33, .n n34, .n n35, .n n36, .n n37, .n n38, .n n39, .l TB l40, .n n41, .n n42, .n n43, .n n44, .n n45, .l TTm ([] : LTm)])) (g17 :  op_25 [.n n32, .n n33, .n n34, .n n35, .n n36, .n n37, .n n38, .n n39, .l TB l40, .n n41, .n n42, .n n43, .n n44, .n n45, .l TTm ([] : LTm), .n n32, .n n33, .n n34, .n n35, .n n36, .n n37, .n n38, .n n39, .l TB l40, .n n41, .n n42, .n n43, .n n44, .n n45, .l TTm ([] : LTm)] = some (0, [.b true])) : Imp (fn_W3_hAB (.n n0 :: .n n1 :: .n n2 :: .n n3 :: .n n4 :: .n n5 :: .n n6 :: .n n7 :: .l TB l8 :: .n n9 :: .n n10 :: .n n11 :: .n n12 :: .n n13 :: .l TTm l14 :: .l TB l15 :: .l TB l16 :: .n n17 :: .n n18 :: .n n19 :: .n n20 :: .n n21 :: .n n22 :: .n n23 :: .n n24 :: .l TB l25 :: .n n26 :: .n n27 :: .n n28 :: .n n29 :: .n n30 :: .l TTm l31 :: .n n32 :: .n n33 :: .n n34 :: .n n35 :: .n n36 :: .n n37 :: .n n38 :: .n n39 :: .l TB l40 :: .n n41 :: .n n42 :: .n n43 :: .n n44 :: .n n45 :: [])) (ev_W3 [.n n0, .n n1, .n n2, .n n3, .n n4, .n n5, .n n6, .n n7, .l TB l8, .n n9, .n n10, .n n11, .n n12, .n n13, .l TTm l14, .l TB l15]) :=
(.sF ((decide ((↑(List.length l14) : Int) > (200 : Int))))
(.sF ((decide ((↑(List.length l15) : Int) > (1000 : Int))))
(.sT ((isK 0 [.n, .n, .n, .n, .n, .n, .n, .n, .l TB, .n, .n, .n, .n, .n, .n, .l TTm] (zq1 l15)))
(.pa [1]
(.sT ((isK 0 [.n, .n, .n, .n, .n, .n, .n, .n, .l TB, .n, .n, .n, .n, .n, .b, .l TTm] (zq2 l15)))
(.pa [1]
(.sT ((isK 0 [.l TB] (zq3 n0 n1 n2 n3 n4 n5 n6 n7 l8 n9 n10 n11 n12 n13 l14)))
(.pa [1]
(.sT ((isK 0 [.n, .n, .n, .n, .n, .n, .n, .n, .l TB, .n, .n, .n, .n, .n, .l TTm] (zq4 n0 n1 n2 n3 n4 n5 n6 n7 l8 n9 n10 n11 n12 n13 l14)))
(.pa [1]
(.sT ((isK 0 [.l TB] (zq5 n0 n1 n2 n3 n4 n5 n6 n7 l8 n9 n10 n11 n12 n13 l14)))
(.pa [1]
(.sF ((!strEq (strOf (gl TB (dOf (zq3 n0 n1 n2 n3 n4 n5 n6 n7 l8 n9 n10 n11 n12 n13 l14)) 0)) (strOf (gl TB (dOf (zq5 n0 n1 n2 n3 n4 n5 n6 n7 l8 n9 n10 n11 n12 n13 l14)) 0))))
(.sT ((isK 0 [.n, .n, .n, .n, .n, .n, .n, .n, .l TB, .n, .n, .n, .n, .n, .l TTm] (zq6 l15)))
(.pa [1]
(.sT ((isK 0 [.b] (zq10 l15)))
(.pa [1]
(.sF ((!gb (dOf (zq10 l15)) 0))
(.sF ((!(gn (dOf (zq1 l15)) 14 == (0 : Int)) == gb (dOf (zq2 l15)) 14))
(.sF ((!gb (dOf (zq2 l15)) 14))
(.pa [0,0,1]
(.sF ((!strEq (strOf (bytesOf (strOf l15))) (strOf l15)))
(.sT ((gb (dOf (zq2 l15)) 14))
(.sT ((isK 0 [.l TB] (zq7 l15)))
(.pa [1,1]
(.sF ((!strEq (strOf (gl TB (dOf (zq7 l15)) 0)) (strOf l15)))
(.sF ((isK 0 [.n, .n, .n, .n, .n, .n, .n, .n, .l TB, .n, .n, .n, .n, .n, .n, .l TTm] (zq8 n0 n1 n2 n3 n4 n5 n6 n7 l8 n9 n10 n11 n12 n13 l14)))
(.sT ((isK 1 [.n, .n, .n, .n, .n, .n, .n, .n, .l TB, .n, .n, .n, .n, .n, .n] (zq8 n0 n1 n2 n3 n4 n5 n6 n7 l8 n9 n10 n11 n12 n13 l14)))
(.pa [1]
(.sF ((isK 0 [.n, .n, .n, .n, .n, .n, .n, .n, .l TB, .n, .n, .n, .n, .n, .b, .l TTm] (zq9 n0 n1 n2 n3 n4 n5 n6 n7 l8 n9 n10 n11 n12 n13 l14)))
(.sT ((isK 1 [.n, .n, .n, .n, .n, .n, .n, .n, .l TB, .n, .n, .n, .n, .n, .b] (zq9 n0 n1 n2 n3 n4 n5 n6 n7 l8 n9 n10 n11 n12 n13 l14)))
(.pa [1]
(.sT (((gn (dOf (zq8 n0 n1 n2 n3 n4 n5 n6 n7 l8 n9 n10 n11 n12 n13 l14)) 14 == (0 : Int)) == gb (dOf (zq9 n0 n1 n2 n3 n4 n5 n6 n7 l8 n9 n10 n11 n12 n13 l14)) 14))
(.sT ((isK 0 [.n, .n, .n, .n, .n, .n, .n, .n, .l TB, .n, .n, .n, .n, .n, .l TTm] (zq13 n0 n1 n2 n3 n4 n5 n6 n7 l8 n9 n10 n11 n12 n13 l14)))
(.pa [1]
(.sT ((isK 0 [.b] (zq14 n0 n1 n2 n3 n4 n5 n6 n7 l8 n9 n10 n11 n12 n13 l14)))
(.pa [1]
(.sT ((gb (dOf (zq14 n0 n1 n2 n3 n4 n5 n6 n7 l8 n9 n10 n11 n12 n13 l14)) 0))
(.pa [1,1,1,1]
.lf)))))))))))))))))))))))))))))))))))))))

def fn_W3_hAC : List Dat → Tree Bool := fun _ => .leaf true
theorem fn_W3_hAC_im (n0 n1 n2 n3 n4 n5 n6 n7 : Int) (l8 : LB) (n9 n10 n11 n12 n13 : Int) (l14 : LTm) (l15 l16 : LB) (n17 n18 n19 n20 n21 n22 n23 n24 : Int) (l25 : LB) (n26 n27 n28 n29 n30 : Int) (l31 : LTm) (n32 n33 n34 n35 n36 n37 n38 n39 : Int) (l40 : LB) (n41 n42 n43 n44 n45 : Int) (g0 : (l14.length : Int) ≤ 200) (g1 :  (l15.length : Int) ≤ 1000) (g2 :  l8.length = 64) (g3 :  bytesOf (strOf l15) = l15) (g4 :  strEq (strOf l15) (strOf l15) = true) (g5 :  strEq (strOf l16) (strOf l16) = true) (g6 :  op_5g [.l TB l15] = some (0, [.n n17, .n n18, .n n19, .n n20, .n n21, .n n22, .n n23, .n n24, .l TB l25, .n n26, .n n27, .n n28, .n n29, .n n30, .n 0, .l TTm l31])) (g7 :  op_6g [.l TB l15] = some (0, [.n n17, .n n18, .n n19, .n n20, .n n21, .n n22, .n n23, .n n24, .l TB l25, .n n26, .n n27, .n n28, .n n29, .n n30, .b true, .l TTm l31])) (g8 :  op_24 [.n n17, .n n18, .n n19, .n n20, .n n21, .n n22, .n n23, .n n24, .l TB l25, .n n26, .n n27, .n n28, .n n29, .n n30, .l TTm l31] = some (0, [.n n17, .n n18, .n n19, .n n20, .n n21, .n n22, .n n23, .n n24, .l TB l25, .n n26, .n n27, .n n28, .n n29, .n n30, .l TTm l31])) (g9 :  op_25 [.n n17, .n n18, .n n19, .n n20, .n n21, .n n22, .n n23, .n n24, .l TB l25, .n n26, .n n27, .n n28, .n n29, .n n30, .l TTm l31, .n n17, .n n18, .n n19, .n n20, .n n21, .n n22, .n n23, .n n24, .l TB l25, .n n26, .n n27, .n n28, .n n29, .n n30, .l TTm l31] = some (0, [.b true])) (g10 :  op_7p [.n n0, .n n1, .n n2, .n n3, .n n4, .n n5, .n n6, .n n7, .l TB l8, .n n9, .n n10, .n n11, .n n12, .n n13, .l TTm l14] = some (0, [.l TB l16])) (g11 :  op_24 [.n n0, .n n1, .n n2, .n n3, .n n4, .n n5, .n n6, .n n7, .l TB l8, .n n9, .n n10, .n n11, .n n12, .n n13, .l TTm l14] = some (0, [.n n0, .n n1, .n n2, .n n3, .n n4, .n n5, .n n6, .n n7, .l TB l8, .n n9, .n n10, .n n11, .n n12, .n n13, .l TTm l14])) (g12 :  op_8p [.n n0, .n n1, .n n2, .n n3, .n n4, .n n5, .n n6, .n n7, .l TB l8, .n n9, .n n10, .n n11, .n n12, .n n13, .l TTm l14] = some (0, [.l TB l16])) (g13 :  op_7p [.n n17, .n n18, .n n19, .n n20, .n n21, .n n22, .n n23, .n n24, .l TB l25, .n n26, .n n27, .n n28, .n n29, .n n30, .l TTm l31] = some (0, [.l TB l15])) (g14 :  op_5g [.l TB l16] = some (1, [.n n32, .n n33, .n n34, .n n35, .n n36, .n n37, .n n38, .n n39, .l TB l40, .n n41, .n n42, .n n43, .n n44, .n n45, .n 130])) (g15 :  op_6g [.l TB l16] = some (1, [.n n32, .n n33, .n n34, .n n35, .n n36, .n n37, .n n38, .n n39, .l TB l40, .n n41, .n n42, .n n43, .n n44, .n n45, .b false])) (g16 :  op_24 [.n n32, .n n33, .n n34, .n n35, .n n36, .n n37, .n n38, .n n39, .l TB l40, .n n41, .n n42, .n n43, .n n44, .n n45, .l TTm ([] : LTm)] = some (0, [.n n32, .n n33, .n n34, .n n35, .n n36, .n n37, .n n38, .n n39, .l TB l40, .n n41, .n n42, .n n43, .n n44, .n n45, .l TTm ([] : LTm)])) (g17 :  op_25 [.n n32, .n n33, .n n34, .n n35, .n n36, .n n37, .n n38, .n n39, .l TB l40, .n n41, .n n42, .n n43, .n n44, .n n45, .l TTm ([] : LTm), .n n32, .n n33, .n n34, .n n35, .n n36, .n n37, .n n38, .n n39, .l TB l40, .n n41, .n n42, .n n43, .n n44, .n n45, .l TTm ([] : LTm)] = some (0, [.b true])) : Imp (fn_W3_hAC (.n n0 :: .n n1 :: .n n2 :: .n n3 :: .n n4 :: .n n5 :: .n n6 :: .n n7 :: .l TB l8 :: .n n9 :: .n n10 :: .n n11 :: .n n12 :: .n n13 :: .l TTm l14 :: .l TB l15 :: .l TB l16 :: .n n17 :: .n n18 :: .n n19 :: .n n20 :: .n n21 :: .n n22 :: .n n23 :: .n n24 :: .l TB l25 :: .n n26 :: .n n27 :: .n n28 :: .n n29 :: .n n30 :: .l TTm l31 :: .n n32 :: .n n33 :: .n n34 :: .n n35 :: .n n36 :: .n n37 :: .n n38 :: .n n39 :: .l TB l40 :: .n n41 :: .n n42 :: .n n43 :: .n n44 :: .n n45 :: [])) (ev_W3 [.n n0, .n n1, .n n2, .n n3, .n n4, .n n5, .n n6, .n n7, .l TB l8, .n n9, .n n10, .n n11, .n n12, .n n13, .l TTm l14, .l TB l15]) :=
(.sF ((decide ((↑(List.length l14) : Int) > (200 : Int))))
(.sF ((decide ((↑(List.length l15) : Int) > (1000 : Int))))
(.sT ((isK 0 [.n, .n, .n, .n, .n, .n, .n, .n, .l TB, .n, .n, .n, .n, .n, .n, .l TTm] (zq1 l15)))
(.pa [1]
(.sT ((isK 0 [.n, .n, .n, .n, .n, .n, .n, .n, .l TB, .n, .n, .n, .n, .n, .b, .l TTm] (zq2 l15)))
(.pa [1]
(.sT ((isK 0 [.l TB] (zq3 n0 n1 n2 n3 n4 n5 n6 n7 l8 n9 n10 n11 n12 n13 l14)))
(.pa [1]
(.sT ((isK 0 [.n, .n, .n, .n, .n, .n, .n, .n, .l TB, .n, .n, .n, .n, .n, .l TTm] (zq4 n0 n1 n2 n3 n4 n5 n6 n7 l8 n9 n10 n11 n12 n13 l14)))
(.pa [1]
(.sT ((isK 0 [.l TB] (zq5 n0 n1 n2 n3 n4 n5 n6 n7 l8 n9 n10 n11 n12 n13 l14)))
(.pa [1]
(.sF ((!strEq (strOf (gl TB (dOf (zq3 n0 n1 n2 n3 n4 n5 n6 n7 l8 n9 n10 n11 n12 n13 l14)) 0)) (strOf (gl TB (dOf (zq5 n0 n1 n2 n3 n4 n5 n6 n7 l8 n9 n10 n11 n12 n13 l14)) 0))))
(.sT ((isK 0 [.n, .n, .n, .n, .n, .n, .n, .n, .l TB, .n, .n, .n, .n, .n, .l TTm] (zq6 l15)))
(.pa [1]
(.sT ((isK 0 [.b] (zq10 l15)))
(.pa [1]
(.sF ((!gb (dOf (zq10 l15)) 0))
(.sF ((!(gn (dOf (zq1 l15)) 14 == (0 : Int)) == gb (dOf (zq2 l15)) 14))
(.sF ((!gb (dOf (zq2 l15)) 14))
(.pa [0,0,1]
(.sF ((!strEq (strOf (bytesOf (strOf l15))) (strOf l15)))
(.sT ((gb (dOf (zq2 l15)) 14))
(.sT ((isK 0 [.l TB] (zq7 l15)))
(.pa [1,1]
(.sF ((!strEq (strOf (gl TB (dOf (zq7 l15)) 0)) (strOf l15)))
(.sF ((isK 0 [.n, .n, .n, .n, .n, .n, .n, .n, .l TB, .n, .n, .n, .n, .n, .n, .l TTm] (zq8 n0 n1 n2 n3 n4 n5 n6 n7 l8 n9 n10 n11 n12 n13 l14)))
(.sT ((isK 1 [.n, .n, .n, .n, .n, .n, .n, .n, .l TB, .n, .n, .n, .n, .n, .n] (zq8 n0 n1 n2 n3 n4 n5 n6 n7 l8 n9 n10 n11 n12 n13 l14)))
(.pa [1]
(.sF ((isK 0 [.n, .n, .n, .n, .n, .n, .n, .n, .l TB, .n, .n, .n, .n, .n, .b, .l TTm] (zq9 n0 n1 n2 n3 n4 n5 n6 n7 l8 n9 n10 n11 n12 n13 l14)))
(.sT ((isK 1 [.n, .n, .n, .n, .n, .n, .n, .n, .l TB, .n, .n, .n, .n, .n, .b] (zq9 n0 n1 n2 n3 n4 n5 n6 n7 l8 n9 n10 n11 n12 n13 l14)))
(.pa [1]
(.sT (((gn (dOf (zq8 n0 n1 n2 n3 n4 n5 n6 n7 l8 n9 n10 n11 n12 n13 l14)) 14 == (0 : Int)) == gb (dOf (zq9 n0 n1 n2 n3 n4 n5 n6 n7 l8 n9 n10 n11 n12 n13 l14)) 14))
(.sT ((isK 0 [.n, .n, .n, .n, .n, .n, .n, .n, .l TB, .n, .n, .n, .n, .n, .l TTm] (zq13 n0 n1 n2 n3 n4 n5 n6 n7 l8 n9 n10 n11 n12 n13 l14)))
(.pa [1]
(.sT ((isK 0 [.b] (zq14 n0 n1 n2 n3 n4 n5 n6 n7 l8 n9 n10 n11 n12 n13 l14)))
(.pa [1]
(.sT ((gb (dOf (zq14 n0 n1 n2 n3 n4 n5 n6 n7 l8 n9 n10 n11 n12 n13 l14)) 0))
(.pa [1,1,1,1]
.lf)))))))))))))))))))))))))))))))))))))))

def fn_W3_hBA : List Dat → Tree Bool := fun _ => .leaf true
theorem fn_W3_hBA_im (n0 n1 n2 n3 n4 n5 n6 n7 : Int) (l8 : LB) (n9 n10 n11 n12 n13 : Int) (l14 : LTm) (l15 l16 : LB) (n17 n18 n19 n20 n21 n22 n23 n24 : Int) (l25 : LB) (n26 n27 n28 n29 n30 n31 n32 n33 n34 n35 n36 n37 n38 : Int) (l39 : LB) (n40 n41 n42 n43 n44 : Int) (l45 : LTm) (g0 : (l14.length : Int) ≤ 200) (g1 :  (l15.length : Int) ≤ 1000) (g2 :  l8.length = 64) (g3 :  bytesOf (strOf l15) = l15) (g4 :  strEq (strOf l15) (strOf l15) = true) (g5 :  strEq (strOf l16) (strOf l16) = true) (g6 :  op_5g [.l TB l15] = some (1, [.n n17, .n n18, .n n19, .n n20, .n n21, .n n22, .n n23, .n n24, .l TB l25, .n n26, .n n27, .n n28, .n n29, .n n30, .n 0])) (g7 :  op_6g [.l TB l15] = some (1, [.n n17, .n n18, .n n19, .n n20, .n n21, .n n22, .n n23, .n n24, .l TB l25, .n n26, .n n27, .n n28, .n n29, .n n30, .b true])) (g8 :  op_24 [.n n17, .n n18, .n n19, .n n20, .n n21, .n n22, .n n23, .n n24, .l TB l25, .n n26, .n n27, .n n28, .n n29, .n n30, .l TTm ([] : LTm)] = some (0, [.n n17, .n n18, .n n19, .n n20, .n n21, .n n22, .n n23, .n n24, .l TB l25, .n n26, .n n27, .n n28, .n n29, .n n30, .l TTm ([] : LTm)])) (g9 :  op_25 [.n n17, .n n18, .n n19, .n n20, .n n21, .n n22, .n n23, .n n24, .l TB l25, .n n26, .n n27, .n n28, .n n29, .n n30, .l TTm ([] : LTm), .n n17, .n n18, .n n19, .n n20, .n n21, .n n22, .n n23, .n n24, .l TB l25, .n n26, .n n27, .n n28, .n n29, .n n30, .l TTm ([] : LTm)] = some (0, [.b true])) (g10 :  op_7p [.n n0, .n n1, .n n2, .n n3, .n n4, .n n5, .n n6, .n n7, .l TB l8, .n n9, .n n10, .n n11, .n n12, .n n13, .l TTm l14] = some (0, [.l TB l16])) (g11 :  op_24 [.n n0, .n n1, .n n2, .n n3, .n n4, .n n5, .n n6, .n n7, .l TB l8, .n n9, .n n10, .n n11, .n n12, .n n13, .l TTm l14] = some (0, [.n n0, .n n1, .n n2, .n n3, .n n4, .n n5, .n n6, .n n7, .l TB l8, .n n9, .n n10, .n n11, .n n12, .n n13, .l TTm l14])) (g12 :  op_8p [.n n0, .n n1, .n n2, .n n3, .n n4, .n n5, .n n6, .n n7, .l TB l8, .n n9, .n n10, .n n11, .n n12, .n n13, .l TTm l14] = some (0, [.l TB l16])) (g13 :  op_7p [.n n17, .n n18, .n n19, .n n20, .n n21, .n n22, .n n23, .n n24, .l TB l25, .n n26, .n n27, .n n28, .n n29, .n n30, .l TTm ([] : LTm)] = some (0, [.l TB l15])) (g14 :  op_5g [.l TB l16] = some (0, [.n n31, .n n32, .n n33, .n n34, .n n35, .n n36, .n n37, .n n38, .l TB l39, .n n40, .n n41, .n n42, .n n43, .n n44, .n 0, .l TTm l45])) (g15 :  op_6g [.l TB l16] = some (0, [.n n31, .n n32, .n n33, .n n34, .n n35, .n n36, .n n37, .n n38, .l TB l39, .n n40, .n n41, .n n42, .n n43, .n n44, .b true, .l TTm l45])) (g16 :  op_24 [.n n31, .n n32, .n n33, .n n34, .n n35, .n n36, .n n37, .n n38, .l TB l39, .n n40, .n n41, .n n42, .n n43, .n n44, .l TTm l45] = some (0, [.n n31, .n n32, .n n33, .n n34, .n n35, .n n36, .n n37, .n n38, .l TB l39, .n n40, .n n41, .n n42, .n n43, .n n44, .l TTm l45])) (g17 :  op_25 [.n n31, .n n32, .n n33, .n n34, .n n35, .n n36, .n n37, .n n38, .l TB l39, .n n40, .n n41, .n n42, .n n43, .n n44, .l TTm l45, .n n31, .n n32, .n n33, .n n34, .n n35, .n n36, .n n37, .n n38, .l TB l39, .n n40, .n n41, .n n42, .n n43, .n n44, .l TTm l45] = some (0, [.b true])) : Imp (fn_W3_hBA (.n n0 :: .n n1 :: .n n2 :: .n n3 :: .n n4 :: .n n5 :: .n n6 :: .n n7 :: .l TB l8 :: .n n9 :: .n n10 :: .n n11 :: .n n12 :: .n n13 :: .l TTm l14 :: .l TB l15 :: .l TB l16 :: .n n17 :: .n n18 :: .n n19 :: .n n20 :: .n n21 :: .n n22 :: .n n23 :: .n n24 :: .l TB l25 :: .n n26 :: .n n27 :: .n n28 :: .n n29 :: .n n30 :: .n n31 :: .n n32 :: .n n33 :: .n n34 :: .n n35 :: .n n36 :: .n n37 :: .n n38 :: .l TB l39 :: .n n40 :: .n n41 :: .n n42 :: .n n43 :: .n n44 :: .l TTm l45 :: [])) (ev_W3 [.n n0, .n n1, .n n2, .n n3, .n n4, .n n5, .n n6, .n n7, .l TB l8, .n n9, .n n10, .n n11, .n n12, .n n13, .l TTm l14, .l TB l15]) :=
(.sF ((decide ((↑(List.length l14) : Int) > (200 : Int))))
(.sF ((decide ((↑(List.length l15) : Int) > (1000 : Int))))
(.sF ((isK 0 [.n, .n, .n, .n, .n, .n, .n, .n, .l TB, .n, .n, .n, .n, .n, .n, .l TTm] (zq1 l15)))
(.sT ((isK 1 [.n, .n, .n, .n, .n, .n, .n, .n, .l TB, .n, .n, .n, .n, .n, .n] (zq1 l15)))
(.pa [1]
(.sF ((isK 0 [.n, .n, .n, .n, .n, .n, .n, .n, .l TB, .n, .n, .n, .n, .n, .b, .l TTm] (zq2 l15)))
(.sT ((isK 1 [.n, .n, .n, .n, .n, .n, .n, .n, .l TB, .n, .n, .n, .n, .n, .b] (zq2 l15)))
(.pa [1]
(.sT ((isK 0 [.l TB] (zq3 n0 n1 n2 n3 n4 n5 n6 n7 l8 n9 n10 n11 n12 n13 l14)))
(.pa [1]
(.sT ((isK 0 [.n, .n, .n, .n, .n, .n, .n, .n, .l TB, .n, .n, .n, .n, .n, .l TTm] (zq4 n0 n1 n2 n3 n4 n5 n6 n7 l8 n9 n10 n11 n12 n13 l14)))
(.pa [1]
(.sT ((isK 0 [.l TB] (zq5 n0 n1 n2 n3 n4 n5 n6 n7 l8 n9 n10 n11 n12 n13 l14)))
(.pa [1]
(.sF ((!strEq (strOf (gl TB (dOf (zq3 n0 n1 n2 n3 n4 n5 n6 n7 l8 n9 n10 n11 n12 n13 l14)) 0)) (strOf (gl TB (dOf (zq5 n0 n1 n2 n3 n4 n5 n6 n7 l8 n9 n10 n11 n12 n13 l14)) 0))))
(.sT ((isK 0 [.n, .n, .n, .n, .n, .n, .n, .n, .l TB, .n, .n, .n, .n, .n, .l TTm] (zq15 l15)))
(.pa [1]
(.sT ((isK 0 [.b] (zq17 l15)))
(.pa [1]
(.sF ((!gb (dOf (zq17 l15)) 0))
(.sF ((!(gn (dOf (zq1 l15)) 14 == (0 : Int)) == gb (dOf (zq2 l15)) 14))
(.sF ((!gb (dOf (zq2 l15)) 14))
(.pa [0,0,1]
(.sF ((!strEq (strOf (bytesOf (strOf l15))) (strOf l15)))
(.sT ((gb (dOf (zq2 l15)) 14))
(.sT ((isK 0 [.l TB] (zq16 l15)))
(.pa [1,1]
(.sF ((!strEq (strOf (gl TB (dOf (zq16 l15)) 0)) (strOf l15)))
(.sT ((isK 0 [.n, .n, .n, .n, .n, .n, .n, .n, .l TB, .n, .n, .n, .n, .n, .n, .l TTm] (zq8 n0 n1 n2 n3 n4 n5 n6 n7 l8 n9 n10 n11 n12 n13 l14)))
(.pa [1]
(.sT ((isK 0 [.n, .n, .n, .n, .n, .n, .n, .n, .l TB, .n, .n, .n, .n, .n, .b, .l TTm] (zq9 n0 n1 n2 n3 n4 n5 n6 n7 l8 n9 n10 n11 n12 n13 l14)))
(.pa [1]
(.sT (((gn (dOf (zq8 n0 n1 n2 n3 n4 n5 n6 n7 l8 n9 n10 n11 n12 n13 l14)) 14 == (0 : Int)) == gb (dOf (zq9 n0 n1 n2 n3 n4 n5 n6 n7 l8 n9 n10 n11 n12 n13 l14)) 14))
(.sT ((isK 0 [.n, .n, .n, .n, .n, .n, .n, .n, .l TB, .n, .n, .n, .n, .n, .l TTm] (zq11 n0 n1 n2 n3 n4 n5 n6 n7 l8 n9 n10 n11 n12 n13 l14)))
(.pa [1]
(.sT ((isK 0 [.b] (zq12 n0 n1 n2 n3 n4 n5 n6 n7 l8 n9 n10 n11 n12 n13 l14)))
(.pa [1]
(.sT ((gb (dOf (zq12 n0 n1 n2 n3 n4 n5 n6 n7 l8 n9 n10 n11 n12 n13 l14)) 0))
(.pa [1,1,1,1]
.lf)))))))))))))))))))))))))))))))))))))))

def fn_W3_hBB : List Dat → Tree Bool := fun _ => .leaf true
theorem fn_W3_hBB_im (n0 n1 n2 n3 n4 n5 n6 n7 : Int) (l8 : LB) (n9 n10 n11 n12 n13 : Int) (l14 : LTm) (l15 l16 : LB) (n17 n18 n19 n20 n21 n22 n23 n24 : Int) (l25 : LB) (n26 n27 n28 n29 n30 n31 n32 n33 n34 n35 n36 n37 n38 : Int) (l39 : LB) (n40 n41 n42 n43 n44 : Int) (g0 : (l14.length : Int) ≤ 200) (g1 :  (l15.length : Int) ≤ 1000) (g2 :  l8.length = 64) (g3 :  bytesOf (strOf l15) = l15) (g4 :  strEq (strOf l15) (strOf l15) = true) (g5 :  strEq (strOf l16) (strOf l16) = true) (g6 :  op_5g [.l TB l15] = some (1, [.n n17, .n n18, .n n19, .n n20, .n n21, .n n22, .n n23, .n n24, .l TB l25, .n n26, .n n27, .n n28, .n n29, .n n30, .n 0])) (g7 :  op_6g [.l TB l15] = some (1, [.n n17, .n n18, .n n19, .n n20, .n n21, .n n22, .n n23, .n n24, .l TB l25, .n n26, .n n27, .n n28, .n n29, .n n30, .b true])) (g8 :  op_24 [.n n17, .n n18, .n n19, .n n20, .n n21, .n n22, .n n23, .n n24, .l TB l25, .n n26, .n n27, .n n28, .n n29, .n n30, .l TTm ([] : LTm)] = some (0, [.n n17, .n n18, .n n19, .n n20, .n n21, .n n22, .n n23, .n n24, .l TB l25, .n n26, .n n27, .n n28, .n n29, .n n30, .l TTm ([] : LTm)])) (g9 :  op_25 [.n n17, .n n18, .n n19, .n n20, .n n21, .n n22, .n n23, .n n24, .l TB l25, .n n26, .n n27, .n n28, .n n29, .n n30, .l TTm ([] : LTm), .n n17, .n n18, .n n19, .n n20, .n n21, .n n22, .n n23, .n n24, .l TB l25, .n n26, .n n27, .n n28, .n n29, .n n30, .l TTm ([] : LTm)] = some (0, [.b true])) (g10 :  op_7p [.n n0, .n n1, .n n2, .n n3, .n n4, .n n5, .n n6, .n n7, .l TB l8, .n n9, .n n10, .n n11, .n n12, .n n13, .l TTm l14] = some (0, [.l TB l16])) (g11 :  op_24 [.n n0, .n n1, .n n2, .n n3, .n n4, .n n5, .n n6, .n n7, .l TB l8, .n n9, .n n10, .n n11, .n n12, .n n13, .l TTm l14] = some (0, [.n n0, .n n1, .n n2, .n n3, .n n4, .n n5, .n n6, .n n7, .l TB l8, .n n9, .n n10, .n n11, .n n12, .n n13, .l TTm l14])) (g12 :  op_8p [.n n0, .n n1, .n n2, .n n3, .n n4, .n n5, .n n6, .n n7, .l TB l8, .n n9, .n n10, .n n11, .n n12, .n n13, .l TTm l14] = some (0, [.l TB l16])) (g13 :  op_7p [.n n17, .n n18, .n n19, .n n20, .n n21, .n n22, .n n23, .n n24, .l TB l25, .n n26, .n n27, .n n28, .n n29, .n n30, .l TTm ([] : LTm)] = some (0, [.l TB l15])) (g14 :  op_5g [.l TB l16] = some (1, [.n n31, .n n32, .n n33, .n n34, .n n35, .n n36, .n n37, .n n38, .l TB l39, .n n40, .n n41, .n n42, .n n43, .n n44, .n 0])) (g15 :  op_6g [.l TB l16] = some (1, [.n n31, .n n32, .n n33, .n n34, .n n35, .n n36, .n n37, .n n38, .l TB l39, .n n40, .n n41, .n n42, .n n43, .n n44, .b true])) (g16 :  op_24 [.n n31, .n n32, .n n33, .n n34, .n n35, .n n36, .n n37, .n n38, .l TB l39, .n n40, .n n41, .n n42, .n n43, .n n44, .l TTm ([] : LTm)] = some (0, [.n n31, .n n32, .n n33, .n n34, .n n35, .n n36, .n n37, .n n38, .l TB l39, .n n40, .n n41, .n n42, .n n43, .n n44, .l TTm ([] : LTm)])) (g17 :  op_25 [.n n31, .n n32, .n n33, .n n34, .n n35, .n n36, .n n37, .n n38, .l TB l39, .n n40, .n n41, .n n42, .n n43, .n n44, .l TTm ([] : LTm), .n n31, .n n32, .n n33, .n n34, .n n35, .n n36, .n n37, .n n38, .l TB l39, .n n40, .n n41, .n n42, .n n43, .n n44, .l TTm ([] : LTm)] = some (0, [.b true])) : Imp (fn_W3_hBB (.n n0 :: .n n1 :: .n n2 :: .n n3 :: .n n4 :: .n n5 :: .n n6 :: .n n7 :: .l TB l8 :: .n n9 :: .n n10 :: .n n11 :: .n n12 :: .n n13 :: .l TTm l14 :: .l TB l15 :: .l TB l16 :: .n n17 :: .n n18 :: .n n19 :: .n n20 :: .n n21 :: .n n22 :: .n n23 :: .n n24 :: .l TB l25 :: .n n26 :: .n n27 :: .n n28 :: .n n29 :: .n n30 :: .n n31 :: .n n32 :: .n n33 :: .n n34 :: .n n35 :: .n n36 :: .n n37 :: .n n38 :: .l TB l39 :: .n n40 :: .n n41 :: .n n42 :: .n n43 :: .n n44 :: [])) (ev_W3 [.n n0, .n n1, .n n2, .n n3, .n n4, .n n5, .n n6, .n n7, .l TB l8, .n n9, .n n10, .n n11, .n n12, .n n13, .l TTm l14, .l TB l15]) :=
(.sF ((decide ((↑(List.length l14) : Int) > (200 : Int))))
(.sF ((decide ((↑(List.length l15) : Int) > (1000 : Int))))
(.sF ((isK 0 [.n, .n, .n, .n, .n, .n, .n, .n, .l TB, .n, .n, .n, .n, .n, .n, .l TTm] (zq1 l15)))
(.sT ((isK 1 [.n, .n, .n, .n, .n, .n, .n, .n, .l TB, .n, .n, .n, .n, .n, .n] (zq1 l15)))
(.pa [1]
(.sF ((isK 0 [.n, .n, .n, .n, .n, .n, .n, .n, .l TB, .n, .n, .n, .n, .n, .b, .l TTm] (zq2 l15)))
(.sT ((isK 1 [.n, .n, .n, .n, .n, .n, .n, .n, .l TB, .n, .n, .n, .n, .n, .b] (zq2 l15)))
(.pa [1]
(.sT ((isK 0 [.l TB] (zq3 n0 n1 n2 n3 n4 n5 n6 n7 l8 n9 n10 n11 n12 n13 l14)))
(.pa [1]
(.sT ((isK 0 [.n, .n, .n, .n, .n, .n, .n, .n, .l TB, .n, .n, .n, .n, .n, .l TTm] (zq4 n0 n1 n2 n3 n4 n5 n6 n7 l8 n9 n10 n11 n12 n13 l14)))
(.pa [1]
(.sT ((isK 0 [.l TB] (zq5 n0 n1 n2 n3 n4 n5 n6 n7 l8 n9 n10 n11 n12 n13 l14)))
(.pa [1]
(.sF ((!strEq (strOf (gl TB (dOf (zq3 n0 n1 n2 n3 n4 n5 n6 n7 l8 n9 n10 n11 n12 n13 l14)) 0)) (strOf (gl TB (dOf (zq5 n0 n1 n2 n3 n4 n5 n6 n7 l8 n9 n10 n11 n12 n13 l14)) 0))))
(.sT ((isK 0 [.n, .n, .n, .n, .n, .n, .n, .n, .l TB, .n, .n, .n, .n, .n, .l TTm] (zq15 l15)))
(.pa [1]
(.sT ((isK 0 [.b] (zq17 l15)))
(.pa [1]
(.sF ((!gb (dOf (zq17 l15)) 0))
(.sF ((!(gn (dOf (zq1 l15)) 14 == (0 : Int)) == gb (dOf (zq2 l15)) 14))
(.sF ((!gb (dOf (zq2 l15)) 14))
(.pa [0,0,1]
(.sF ((!strEq (strOf (bytesOf (strOf l15))) (strOf l15)))
(.sT ((gb (dOf (zq2 l15)) 14))
(.sT ((isK 0 [.l TB] (zq16 l15)))
(.pa [1,1]
(.sF ((!strEq (strOf (gl TB (dOf (zq16 l15)) 0)) (strOf l15)))
(.sF ((isK 0 [.n, .n, .n, .n, .n, .n, .n, .n, .l TB, .n, .n, .n, .n, .n, .n, .l TTm] (zq8 n0 n1 n2 n3 n4 n5 n6 n7 l8 n9 n10 n11 n12 n13 l14)))
(.sT ((isK 1 [.n, .n, .n, .n, .n, .n, .n, .n, .l TB, .n, .n, .n, .n, .n, .n] (zq8 n0 n1 n2 n3 n4 n5 n6 n7 l8 n9 n10 n11 n12 n13 l14)))
(.pa [1]
(.sF ((isK 0 [.n, .n, .n, .n, .n, .n, .n, .n, .l TB, .n, .n, .n, .n, .n, .b, .l TTm] (zq9 n0 n1 n2 n3 n4 n5 n6 n7 l8 n9 n10 n11 n12 n13 l14)))
(.sT ((isK 1 [.n, .n, .n, .n, .n, .n, .n, .n, .l TB, .n, .n, .n, .n, .n, .b] (zq9 n0 n1 n2 n3 n4 n5 n6 n7 l8 n9 n10 n11 n12 n13 l14)))
(.pa [1]
(.sT (((gn (dOf (zq8 n0 n1 n2 n3 n4 n5 n6 n7 l8 n9 n10 n11 n12 n13 l14)) 14 == (0 : Int)) == gb (dOf (zq9 n0 n1 n2 n3 n4 n5 n6 n7 l8 n9 n10 n11 n12 n13 l14)) 14))
(.sT ((isK 0 [.n, .n, .n, .n, .n, .n, .n, .n, .l TB, .n, .n, .n, .n, .n, .l TTm] (zq13 n0 n1 n2 n3 n4 n5 n6 n7 l8 n9 n10 n11 n12 n13 l14)))
(.pa [1]
(.sT ((isK 0 [.b] (zq14 n0 n1 n2 n3 n4 n5 n6 n7 l8 n9 n10 n11 n12 n13 l14)))
(.pa [1]
(.sT ((gb (dOf (zq14 n0 n1 n2 n3 n4 n5 n6 n7 l8 n9 n10 n11 n12 n13 l14)) 0))
(.pa [1,1,1,1]
.lf)))))))))))))))))))))))))))))))))))))))))

def fn_W3_hBC : List Dat → Tree Bool := fun _ => .leaf true
theorem fn_W3_hBC_im (n0 n1 n2 n3 n4 n5 n6 n7 : Int) (l8 : LB) (n9 n10 n11 n12 n13 : Int) (l14 : LTm) (l15 l16 : LB) (n17 n18 n19 n20 n21 n22 n23 n24 : Int) (l25 : LB) (n26 n27 n28 n29 n30 n31 n32 n33 n34 n35 n36 n37 n38 : Int) (l39 : LB) (n40 n41 n42 n43 n44 : Int) (g0 : (l14.length : Int) ≤ 200) (g1 :  (l15.length : Int) ≤ 1000) (g2 :  l8.length = 64) (g3 :  bytesOf (strOf l15) = l15) (g4 :  strEq (strOf l15) (strOf l15) = true) (g5 :  strEq (strOf l16) (strOf l16) = true) (g6 :  op_5g [.l TB l15] = some (1, [.n n17, .n n18, .n n19, .n n20, .n n21, .n n22, .n n23, .n n24, .l TB l25, .n n26, .n n27, .n n28, .n n29, .n n30, .n 0])) (g7 :  op_6g [.l TB l15] = some (1, [.n n17, .n n18, .n n19, .n n20, .n n21, .n n22, .n n23, .n n24, .l TB l25, .n n26, .n n27, .n n28, .n n29, .n n30, .b true])) (g8 :  op_24 [.n n17, .n n18, .n n19, .n n20, .n n21, .n n22, .n n23, .n n24, .l TB l25, .n n26, .n n27, .n n28, .n n29, .n n30, .l TTm ([] : LTm)] = some (0, [.n n17, .n n18, .n n19, .n n20, .n n21, .n n22, .n n23, .n n24, .l TB l25, .n n26, .n n27, .n n28, .n n29, .n n30, .l TTm ([] : LTm)])) (g9 :  op_25 [.n n17, .n n18, .n n19, .n n20, .n n21, .n n22, .n n23, .n n24, .l TB l25, .n n26, .n n27, .n n28, .n n29, .n n30, .l TTm ([] : LTm), .n n17, .n n18, .n n19, .n n20, .n n21, .n n22, .n n23, .n n24, .l TB l25, .n n26, .n n27, .n n28, .n n29, .n n30, .l TTm ([] : LTm)] = some (0, [.b true])) (g10 :  op_7p [.n n0, .n n1, .n n2, .n n3, .n n4, .n n5, .n n6, .n n7, .l TB l8, .n n9, .n n10, .n n11, .n n12, .n n13, .l TTm l14] = some (0, [.l TB l16])) (g11 :  op_24 [.n n0, .n n1, .n n2, .n n3, .n n4, .n n5, .n n6, .n n7, .l TB l8, .n n9, .n n10, .n n11, .n n12, .n n13, .l TTm l14] = some (0, [.n n0, .n n1, .n n2, .n n3, .n n4, .n n5, .n n6, .n n7, .l TB l8, .n n9, .n n10, .n n11, .n n12, .n n13, .l TTm l14])) (g12 :  op_8p [.n n0, .n n1, .n n2, .n n3, .n n4, .n n5, .n n6, .n n7, .l TB l8, .n n9, .n n10, .n n11, .n n12, .n n13, .l TTm l14] = some (0, [.l TB l16])) (g13 :  op_7p [.n n17, .n n18, .n n19, .n n20, .n n21, .n n22, .n n23, .n n24, .l TB l25, .n n26, .n n27, .n n28, .n n29, .n n30, .l TTm ([] : LTm)] = some (0, [.l TB l15])) (g14 :  op_5g [.l TB l16] = some (1, [.n n31, .n n32, .n n33, .n n34, .n n35, .n n36, .n n37, .n n38, .l TB l39, .n n40, .n n41, .n n42, .n n43, .n n44, .n 130])) (g15 :  op_6g [.l TB l16] = some (1, [.n n31, .n n32, .n n33, .n n34, .n n35, .n n36, .n n37, .n n38, .l TB l39, .n n40, .n n41, .n n42, .n n43, .n n44, .b false])) (g16 :  op_24 [.n n31, .n n32, .n n33, .n n34, .n n35, .n n36, .n n37, .n n38, .l TB l39, .n n40, .n n41, .n n42, .n n43, .n n44, .l TTm ([] : LTm)] = some (0, [.n n31, .n n32, .n n33, .n n34, .n n35, .n n36, .n n37, .n n38, .l TB l39, .n n40, .n n41, .n n42, .n n43, .n n44, .l TTm ([] : LTm)])) (g17 :  op_25 [.n n31, .n n32, .n n33, .n n34, .n n35, .n n36, .n n37, .n n38, .l TB l39, .n n40, .n n41, .n n42, .n n43, .n n44, .l TTm ([] : LTm), .n n31, .n n32, .n n33, .n n34, .n n35, .n n36, .n n37, .n n38, .l TB l39, .n n40, .n n41, .n n42, .n n43, .n n44, .l TTm ([] : LTm)] = some (0, [.b true])) : Imp (fn_W3_hBC (.n n0 :: .n n1 :: .n n2 :: .n n3 :: .n n4 :: .n n5 :: .n n6 :: .n n7 :: .l TB l8 :: .n n9 :: .n n10 :: .n n11 :: .n n12 :: .n n13 :: .l TTm l14 :: .l TB l15 :: .l TB l16 :: .n n17 :: .n n18 :: .n n19 :: .n n20 :: .n n21 :: .n n22 :: .n n23 :: .n n24 :: .l TB l25 :: .n n26 :: .n n27 :: .n n28 :: .n n29 :: .n n30 :: .n n31 :: .n n32 :: .n n33 :: .n n34 :: .n n35 :: .n n36 :: .n n37 :: .n n38 :: .l TB l39 :: .n n40 :: .n n41 :: .n n42 :: .n n43 :: .n n44 :: [])) (ev_W3 [.n n0, .n n1, .n n2, .n n3, .n n4, .n n5, .n n6, .n n7, .l TB l8, .n n9, .n n10, .n n11, .n n12, .n n13, .l TTm l14, .l TB l15]) :=
(.sF ((decide ((↑(List.length l14) : Int) > (200 : Int))))
(.sF ((decide ((↑(List.length l15) : Int) > (1000 : Int))))
(.sF ((isK 0 [.n, .n, .n, .n, .n, .n, .n, .n, .l TB, .n, .n, .n, .n, .n, .n, .l TTm] (zq1 l15)))
(.sT ((isK 1 [.n, .n, .n, .n, .n, .n, .n, .n, .l TB, .n, .n, .n, .n, .n, .n] (zq1 l15)))
(.pa [1]
(.sF ((isK 0 [.n, .n, .n, .n, .n, .n, .n, .n, .l TB, .n, .n, .n, .n, .n, .b, .l TTm] (zq2 l15)))
(.sT ((isK 1 [.n, .n, .n, .n, .n, .n, .n, .n, .l TB, .n, .n, .n, .n, .n, .b] (zq2 l15)))
(.pa [1]
(.sT ((isK 0 [.l TB] (zq3 n0 n1 n2 n3 n4 n5 n6 n7 l8 n9 n10 n11 n12 n13 l14)))
(.pa [1]
(.sT ((isK 0 [.n, .n, .n, .n, .n, .n, .n, .n, .l TB, .n, .n, .n, .n, .n, .l TTm] (zq4 n0 n1 n2 n3 n4 n5 n6 n7 l8 n9 n10 n11 n12 n13 l14)))
(.pa [1]
(.sT ((isK 0 [.l TB] (zq5 n0 n1 n2 n3 n4 n5 n6 n7 l8 n9 n10 n11 n12 n13 l14)))
(.pa [1]
(.sF ((!strEq (strOf (gl TB (dOf (zq3 n0 n1 n2 n3 n4 n5 n6 n7 l8 n9 n10 n11 n12 n13 l14)) 0)) (strOf (gl TB (dOf (zq5 n0 n1 n2 n3 n4 n5 n6 n7 l8 n9 n10 n11 n12 n13 l14)) 0))))
(.sT ((isK 0 [.n, .n, .n, .n, .n, .n, .n, .n, .l TB, .n, .n, .n, .n, .n, .l TTm] (zq15 l15)))
(.pa [1]
(.sT ((isK 0 [.b] (zq17 l15)))
(.pa [1]
(.sF ((!gb (dOf (zq17 l15)) 0))
(.sF ((!(gn (dOf (zq1 l15)) 14 == (0 : Int)) == gb (dOf (zq2 l15)) 14))
(.sF ((!gb (dOf (zq2 l15)) 14))
(.pa [0,0,1]
(.sF ((!strEq (strOf (bytesOf (strOf l15))) (strOf l15)))
(.sT ((gb (dOf (zq2 l15)) 14))
(.sT ((isK 0 [.l TB] (zq16 l15)))
(.pa [1,1]
(.sF ((!strEq (strOf (gl TB (dOf (zq16 l15)) 0)) (strOf l15)))
(.sF ((isK 0 [.n, .n, .n, .n, .n, .n, .n, .n, .l TB, .n, .n, .n, .n, .n, .n, .l TTm] (zq8 n0 n1 n2 n3 n4 n5 n6 n7 l8 n9 n10 n11 n12 n13 l14)))
(.sT ((isK 1 [.n, .n, .n, .n, .n, .n, .n, .n, .l TB, .n, .n, .n, .n, .n, .n] (zq8 n0 n1 n2 n3 n4 n5 n6 n7 l8 n9 n10 n11 n12 n13 l14)))
(.pa [1]
(.sF ((isK 0 [.n, .n, .n, .n, .n, .n, .n, .n, .l TB, .n, .n, .n, .n, .n, .b, .l TTm] (zq9 n0 n1 n2 n3 n4 n5 n6 n7 l8 n9 n10 n11 n12 n13 l14)))
(.sT ((isK 1 [.n, .n, .n, .n, .n, .n, .n, .n, .l TB, .n, .n, .n, .n, .n, .b] (zq9 n0 n1 n2 n3 n4 n5 n6 n7 l8 n9 n10 n11 n12 n13 l14)))
(.pa [1]
(.sT (((gn (dOf (zq8 n0 n1 n2 n3 n4 n5 n6 n7 l8 n9 n10 n11 n12 n13 l14)) 14 == (0 : Int)) == gb (dOf (zq9 n0 n1 n2 n3 n4 n5 n6 n7 l8 n9 n10 n11 n12 n13 l14)) 14))
(.sT ((isK 0 [.n, .n, .n, .n, .n, .n, .n, .n, .l TB, .n, .n, .n, .n, .n, .l TTm] (zq13 n0 n1 n2 n3 n4 n5 n6 n7 l8 n9 n10 n11 n12 n13 l14)))
(.pa [1]
(.sT ((isK 0 [.b] (zq14 n0 n1 n2 n3 n4 n5 n6 n7 l8 n9 n10 n11 n12 n13 l14)))
(.pa [1]
(.sT ((gb (dOf (zq14 n0 n1 n2 n3 n4 n5 n6 n7 l8 n9 n10 n11 n12 n13 l14)) 0))
(.pa [1,1,1,1]
.lf)))))))))))))))))))))))))))))))))))))))))

def fn_W3_hCA : List Dat → Tree Bool := fun _ => .leaf true
theorem fn_W3_hCA_im (n0 n1 n2 n3 n4 n5 n6 n7 : Int) (l8 : LB) (n9 n10 n11 n12 n13 : Int) (l14 : LTm) (l15 l16 : LB) (n17 n18 n19 n20 n21 n22 n23 n24 : Int) (l25 : LB) (n26 n27 n28 n29 n30 n31 n32 n33 n34 n35 n36 n37 n38 : Int) (l39 : LB) (n40 n41 n42 n43 n44 : Int) (l45 : LTm) (g0 : (l14.length : Int) ≤ 200) (g1 :  (l15.length : Int) ≤ 1000) (g2 :  l8.length = 64) (g3 :  bytesOf (strOf l15) = l15) (g4 :  strEq (strOf l15) (strOf l15) = true) (g5 :  strEq (strOf l16) (strOf l16) = true) (g6 :  op_5g [.l TB l15] = some (1, [.n n17, .n n18, .n n19, .n n20, .n n21, .n n22, .n n23, .n n24, .l TB l25, .n n26, .n n27, .n n28, .n n29, .n n30, .n 130])) (g7 :  op_6g [.l TB l15] = some (1, [.n n17, .n n18, .n n19, .n n20, .n n21, .n n22, .n n23, .n n24, .l TB l25, .n n26, .n n27, .n n28, .n n29, .n n30, .b false])) (g8 :  op_24 [.n n17, .n n18, .n n19, .n n20, .n n21, .n n22, .n n23, .n n24, .l TB l25, .n n26, .n n27, .n n28, .n n29, .n n30, .l TTm ([] : LTm)] = some (0, [.n n17, .n n18, .n n19, .n n20, .n n21, .n n22, .n n23, .n n24, .l TB l25, .n n26, .n n27, .n n28, .n n29, .n n30, .l TTm ([] : LTm)])) (g9 :  op_25 [.n n17, .n n18, .n n19, .n n20, .n n21, .n n22, .n n23, .n n24, .l TB l25, .n n26, .n n27, .n n28, .n n29, .n n30, .l TTm ([] : LTm), .n n17, .n n18, .n n19, .n n20, .n n21, .n n22, .n n23, .n n24, .l TB l25, .n n26, .n n27, .n n28, .n n29, .n n30, .l TTm ([] : LTm)] = some (0, [.b true])) (g10 :  op_7p [.n n0, .n n1, .n n2, .n n3, .n n4, .n n5, .n n6, .n n7, .l TB l8, .n n9, .n n10, .n n11, .n n12, .n n13, .l TTm l14] = some (0, [.l TB l16])) (g11 :  op_24 [.n n0, .n n1, .n n2, .n n3, .n n4, .n n5, .n n6, .n n7, .l TB l8, .n n9, .n n10, .n n11, .n n12, .n n13, .l TTm l14] = some (0, [.n n0, .n n1, .n n2, .n n3, .n n4, .n n5, .n n6, .n n7, .l TB l8, .n n9, .n n10, .n n11, .n n12, .n n13, .l TTm l14])) (g12 :  op_8p [.n n0, .n n1, .n n2, .n n3, .n n4, .n n5, .n n6, .n n7, .l TB l8, .n n9, .n n10, .n n11, .n n12, .n n13, .l TTm l14] = some (0, [.l TB l16])) (g13 :  op_5g [.l TB l16] = some (0, [.n n31, .n n32, .n n33, .n n34, .n n35, .n n36, .n n37, .n n38, .l TB l39, .n n40, .n n41, .n n42, .n n43, .n n44, .n 0, .l TTm l45])) (g14 :  op_6g [.l TB l16] = some (0, [.n n31, .n n32, .n n33, .n n34, .n n35, .n n36, .n n37, .n n38, .l TB l39, .n n40, .n n41, .n n42, .n n43, .n n44, .b true, .l TTm l45])) (g15 :  op_24 [.n n31, .n n32, .n n33, .n n34, .n n35, .n n36, .n n37, .n n38, .l TB l39, .n n40, .n n41, .n n42, .n n43, .n n44, .l TTm l45] = some (0, [.n n31, .n n32, .n n33, .n n34, .n n35, .n n36, .n n37, .n n38, .l TB l39, .n n40, .n n41, .n n42, .n n43, .n n44, .l TTm l45])) (g16 :  op_25 [.n n31, .n n32, .n n33, .n n34, .n n35, .n n36, .n n37, .n n38, .l TB l39, .n n40, .n n41, .n n42, .n n43, .n n44, .l TTm l45, .n n31, .n n32, .n n33, .n n34, .n n35, .n n36, .n n37, .n n38, .l TB l39, .n n40, .n n41, .n n42, .n n43, .n n44, .l TTm l45] = some (0, [.b true])) : Imp (fn_W3_hCA (.n n0 :: .n n1 :: .n n2 :: .n n3 :: .n n4 :: .n n5 :: .n n6 :: .n n7 :: .l TB l8 :: .n n9 :: .n n10 :: .n n11 :: .n n12 :: .n n13 :: .l TTm l14 :: .l TB l15 :: .l TB l16 :: .n n17 :: .n n18 :: .n n19 :: .n n20 :: .n n21 :: .n n22 :: .n n23 :: .n n24 :: .l TB l25 :: .n n26 :: .n n27 :: .n n28 :: .n n29 :: .n n30 :: .n n31 :: .n n32 :: .n n33 :: .n n34 :: .n n35 :: .n n36 :: .n n37 :: .n n38 :: .l TB l39 :: .n n40 :: .n n41 :: .n n42 :: .n n43 :: .n n44 :: .l TTm l45 :: [])) (ev_W3 [.n n0, .n n1, .n n2, .n n3, .n n4, .n n5, .n n6, .n n7, .l TB l8, .n n9, .n n10, .n n11, .n n12, .n n13, .l TTm l14, .l TB l15]) :=
(.sF ((decide ((↑(List.length l14) : Int) > (200 : Int))))
(.sF ((decide ((↑(List.length l15) : Int) > (1000 : Int))))
(.sF ((isK 0 [.n, .n, .n, .n, .n, .n, .n, .n, .l TB, .n, .n, .n, .n, .n, .n, .l TTm] (zq1 l15)))
(.sT ((isK 1 [.n, .n, .n, .n, .n, .n, .n, .n, .l TB, .n, .n, .n, .n, .n, .n] (zq1 l15)))
(.pa [1]
(.sF ((isK 0 [.n, .n, .n, .n, .n, .n, .n, .n, .l TB, .n, .n, .n, .n, .n, .b, .l TTm] (zq2 l15)))
(.sT ((isK 1 [.n, .n, .n, .n, .n, .n, .n, .n, .l TB, .n, .n, .n, .n, .n, .b] (zq2 l15)))
(.pa [1]
(.sT ((isK 0 [.l TB] (zq3 n0 n1 n2 n3 n4 n5 n6 n7 l8 n9 n10 n11 n12 n13 l14)))
(.pa [1]
(.sT ((isK 0 [.n, .n, .n, .n, .n, .n, .n, .n, .l TB, .n, .n, .n, .n, .n, .l TTm] (zq4 n0 n1 n2 n3 n4 n5 n6 n7 l8 n9 n10 n11 n12 n13 l14)))
(.pa [1]
(.sT ((isK 0 [.l TB] (zq5 n0 n1 n2 n3 n4 n5 n6 n7 l8 n9 n10 n11 n12 n13 l14)))
(.pa [1]
(.sF ((!strEq (strOf (gl TB (dOf (zq3 n0 n1 n2 n3 n4 n5 n6 n7 l8 n9 n10 n11 n12 n13 l14)) 0)) (strOf (gl TB (dOf (zq5 n0 n1 n2 n3 n4 n5 n6 n7 l8 n9 n10 n11 n12 n13 l14)) 0))))
(.sT ((isK 0 [.n, .n, .n, .n, .n, .n, .n, .n, .l TB, .n, .n, .n, .n, .n, .l TTm] (zq15 l15)))
(.pa [1]
(.sT ((isK 0 [.b] (zq17 l15)))
(.pa [1]
(.sF ((!gb (dOf (zq17 l15)) 0))
(.sF ((!(gn (dOf (zq1 l15)) 14 == (0 : Int)) == gb (dOf (zq2 l15)) 14))
(.sT ((!gb (dOf (zq2 l15)) 14))
(.sF ((gn (dOf (zq1 l15)) 14 != (130 : Int)))
(.pa [1]
(.sF ((!strEq (strOf (bytesOf (strOf l15))) (strOf l15)))
(.sF ((gb (dOf (zq2 l15)) 14))
(.pa [0,1,0]
(.sT ((isK 0 [.n, .n, .n, .n, .n, .n, .n, .n, .l TB, .n, .n, .n, .n, .n, .n, .l TTm] (zq8 n0 n1 n2 n3 n4 n5 n6 n7 l8 n9 n10 n11 n12 n13 l14)))
(.pa [1]
(.sT ((isK 0 [.n, .n, .n, .n, .n, .n, .n, .n, .l TB, .n, .n, .n, .n, .n, .b, .l TTm] (zq9 n0 n1 n2 n3 n4 n5 n6 n7 l8 n9 n10 n11 n12 n13 l14)))
(.pa [1]
(.sT (((gn (dOf (zq8 n0 n1 n2 n3 n4 n5 n6 n7 l8 n9 n10 n11 n12 n13 l14)) 14 == (0 : Int)) == gb (dOf (zq9 n0 n1 n2 n3 n4 n5 n6 n7 l8 n9 n10 n11 n12 n13 l14)) 14))
(.sT ((isK 0 [.n, .n, .n, .n, .n, .n, .n, .n, .l TB, .n, .n, .n, .n, .n, .l TTm] (zq11 n0 n1 n2 n3 n4 n5 n6 n7 l8 n9 n10 n11 n12 n13 l14)))
(.pa [1]
(.sT ((isK 0 [.b] (zq12 n0 n1 n2 n3 n4 n5 n6 n7 l8 n9 n10 n11 n12 n13 l14)))
(.pa [1]
(.sT ((gb (dOf (zq12 n0 n1 n2 n3 n4 n5 n6 n7 l8 n9 n10 n11 n12 n13 l14)) 0))
(.pa [1,1,1,1]
.lf))))))))))))))))))))))))))))))))))))))

def fn_W3_hCB : List Dat → Tree Bool := fun _ => .leaf true
theorem fn_W3_hCB_im (n0 n1 n2 n3 n4 n5 n6 n7 : Int) (l8 : LB) (n9 n10 n11 n12 n13 : Int) (l14 : LTm) (l15 l16 : LB) (n17 n18 n19 n20 n21 n22 n23 n24 : Int) (l25 : LB) (n26 n27 n28 n29 n30 n31 n32 n33 n34 n35 n36 n37 n38 : Int) (l39 : LB) (n40 n41 n42 n43 n44 : Int) (g0 : (l14.length : Int) ≤ 200) (g1 :  (l15.length : Int) ≤ 1000) (g2 :  l8.length = 64) (g3 :  bytesOf (strOf l15) = l15) (g4 :  strEq (strOf l15) (strOf l15) = true) (g5 :  strEq (strOf l16) (strOf l16) = true) (g6 :  op_5g [.l TB l15] = some (1, [.n n17, .n n18, .n n19, .n n20, .n n21, .n n22, .n n23, .n n24, .l TB l25, .n n26, .n n27, .n n28, .n n29, .n n30, .n 130])) (g7 :  op_6g [.l TB l15] = some (1, [.n n17, .n n18, .n n19, .n n20, .n n21, .n n22, .n n23, .n n24, .l TB l25, .n n26, .n n27, .n n28, .n n29, .n n30, .b false])) (g8 :  op_24 [.n n17, .n n18, .n n19, .n n20, .n n21, .n n22, .n n23, .n n24, .l TB l25, .n n26, .n n27, .n n28, .n n29, .n n30, .l TTm ([] : LTm)] = some (0, [.n n17, .n n18, .n n19, .n n20, .n n21, .n n22, .n n23, .n n24, .l TB l25, .n n26, .n n27, .n n28, .n n29, .n n30, .l TTm ([] : LTm)])) (g9 :  op_25 [.n n17, .n n18, .n n19, .n n20, .n n21, .n n22, .n n23, .n n24, .l TB l25, .n n26, .n n27, .n n28, .n n29, .n n30, .l TTm ([] : LTm), .n n17, .n n18, .n n19, .n n20, .n n21, .n n22, .n n23, .n n24, .l TB l25, .n n26, .n n27, .n n28, .n n29, .n n30, .l TTm ([] : LTm)] = some (0, [.b true])) (g10 :  op_7p [.n n0, .n n1, .n n2, .n n3, .n n4, .n n5, .n n6, .n n7, .l TB l8, .n n9, .n n10, .n n11, .n n12, .n n13, .l TTm l14] = some (0, [.l TB l16])) (g11 :  op_24 [.n n0, .n n1, .n n2, .n n3, .n n4, .n n5, .n n6, .n n7, .l TB l8, .n n9, .n n10, .n n11, .n n12, .n n13, .l TTm l14] = some (0, [.n n0, .n n1, .n n2, .n n3, .n n4, .n n5, .n n6, .n n7, .l TB l8, .n n9, .n n10, .n n11, .n n12, .n n13, .l TTm l14])) (g12 :  op_8p [.n n0, .n n1, .n n2, .n n3, .n n4, .n n5, .n n6, .n n7, .l TB l8, .n n9, .n n10, .n n11, .n n12, .n n13, .l TTm l14] = some (0, [.l TB l16])) (g13 :  op_5g [.l TB l16] = some (1, [.n n31, .n n32, .n n33, .n n34, .n n35, .n n36, .n n37, .n n38, .l TB l39, .n n40, .n n41, .n n42, .n n43, .n n44, .n 0])) (g14 :  op_6g [.l TB l16] = some (1, [.n n31, .n n32, .n n33, .n n34, .n n35, .n n36, .n n37, .n n38, .l TB l39, .n n40, .n n41, .n n42, .n n43, .n n44, .b true])) (g15 :  op_24 [.n n31, .n n32, .n n33, .n n34, .n n35, .n n36, .n n37, .n n38, .l TB l39, .n n40, .n n41, .n n42, .n n43, .n n44, .l TTm ([] : LTm)] = some (0, [.n n31, .n n32, .n n33, .n n34, .n n35, .n n36, .n n37, .n n38, .l TB l39, .n n40, .n n41, .n n42, .n n43, .n n44, .l TTm ([] : LTm)])) (g16 :  op_25 [.n n31, .n n32, .n n33, .n n34, .n n35, .n n36, .n n37, .n n38, .l TB l39, .n n40, .n n41, .n n42, .n n43, .n n44, .l TTm ([] : LTm), .n n31, .n n32, .n n33, .n n34, .n n35, .n n36, .n n37, .n n38, .l TB l39, .n n40, .n n41, .n n42, .n n43, .n n44, .l TTm ([] : LTm)] = some (0, [.b true])) : Imp (fn_W3_hCB (.n n0 :: .n n1 :: .n n2 :: .n n3 :: .n n4 :: .n n5 :: .n n6 :: .n n7 :: .l TB l8 :: .n n9 :: .n n10 :: .n n11 :: .n n12 :: .n n13 :: .l TTm l14 :: .l TB l15 :: .l TB l16 :: .n n17 :: .n n18 :: .n n19 :: .n n20 :: .n n21 :: .n n22 :: .n n23 :: .n n24 :: .l TB l25 :: .n n26 :: .n n27 :: .n n28 :: .n n29 :: .n n30 :: .n n31 :: .n n32 :: .n n33 :: .n n34 :: .n n35 :: .n n36 :: .n n37 :: .n n38 :: .l TB l39 :: .n n40 :: .n n41 :: .n n42 :: .n n43 :: .n n44 :: [])) (ev_W3 [.n n0, .n n1, .n n2, .n n3, .n n4, .n n5, .n n6, .n n7, .l TB l8, .n n9, .n n10, .n n11, .n n12, .n n13, .l TTm l14, .l TB l15]) :=
(.sF ((decide ((↑(List.length l14) : Int) > (200 : Int))))
(.sF ((decide ((↑(List.length l15) : Int) > (1000 : Int))))
(.sF ((isK 0 [.n, .n, .n, .n, .n, .n, .n, .n, .l TB, .n, .n, .n, .n, .n, .n, .l TTm] (zq1 l15)))
(.sT ((isK 1 [.n, .n, .n, .n, .n, .n, .n, .n, .l TB, .n, .n, .n, .n, .n, .n] (zq1 l15)))
(.pa [1]
(.sF ((isK 0 [.n, .n, .n, .n, .n, .n, .n, .n, .l TB, .n, .n, .n, .n, .n, .b, .l TTm] (zq2 l15)))
(.sT ((isK 1 [.n, .n, .n, .n, .n, .n, .n, .n, .l TB, .n, .n, .n, .n, .n, .b] (zq2 l15)))
(.pa [1]
(.sT ((isK 0 [.l TB] (zq3 n0 n1 n2 n3 n4 n5 n6 n7 l8 n9 n10 n11 n12 n13 l14)))
(.pa [1]
(.sT ((isK 0 [.n, .n, .n, .n, .n, .n, .n, .n, .l TB, .n, .n, .n, .n, .n, .l TTm] (zq4 n0 n1 n2 n3 n4 n5 n6 n7 l8 n9 n10 n11 n12 n13 l14)))
(.pa [1]
(.sT ((isK 0 [.l TB] (zq5 n0 n1 n2 n3 n4 n5 n6 n7 l8 n9 n10 n11 n12 n13 l14)))
(.pa [1]
(.sF ((!strEq (strOf (gl TB (dOf (zq3 n0 n1 n2 n3 n4 n5 n6 n7 l8 n9 n10 n11 n12 n13 l14)) 0)) (strOf (gl TB (dOf (zq5 n0 n1 n2 n3 n4 n5 n6 n7 l8 n9 n10 n11 n12 n13 l14)) 0))))
(.sT ((isK 0 [.n, .n, .n, .n, .n, .n, .n, .n, .l TB, .n, .n, .n, .n, .n, .l TTm] (zq15 l15)))
(.pa [1]
(.sT ((isK 0 [.b] (zq17 l15)))
(.pa [1]
(.sF ((!gb (dOf (zq17 l15)) 0))
(.sF ((!(gn (dOf (zq1 l15)) 14 == (0 : Int)) == gb (dOf (zq2 l15)) 14))
(.sT ((!gb (dOf (zq2 l15)) 14))
(.sF ((gn (dOf (zq1 l15)) 14 != (130 : Int)))
(.pa [1]
(.sF ((!strEq (strOf (bytesOf (strOf l15))) (strOf l15)))
(.sF ((gb (dOf (zq2 l15)) 14))
(.pa [0,1,0]
(.sF ((isK 0 [.n, .n, .n, .n, .n, .n, .n, .n, .l TB, .n, .n, .n, .n, .n, .n, .l TTm] (zq8 n0 n1 n2 n3 n4 n5 n6 n7 l8 n9 n10 n11 n12 n13 l14)))
(.sT ((isK 1 [.n, .n, .n, .n, .n, .n, .n, .n, .l TB, .n, .n, .n, .n, .n, .n] (zq8 n0 n1 n2 n3 n4 n5 n6 n7 l8 n9 n10 n11 n12 n13 l14)))
(.pa [1]
(.sF ((isK 0 [.n, .n, .n, .n, .n, .n, .n, .n, .l TB, .n, .n, .n, .n, .n, .b, .l TTm] (zq9 n0 n1 n2 n3 n4 n5 n6 n7 l8 n9 n10 n11 n12 n13 l14)))
(.sT ((isK 1 [.n, .n, .n, .n, .n, .n, .n, .n, .l TB, .n, .n, .n, .n, .n, .b] (zq9 n0 n1 n2 n3 n4 n5 n6 n7 l8 n9 n10 n11 n12 n13 l14)))
(.pa [1]
(.sT (((gn (dOf (zq8 n0 n1 n2 n3 n4 n5 n6 n7 l8 n9 n10 n11 n12 n13 l14)) 14 == (0 : Int)) == gb (dOf (zq9 n0 n1 n2 n3 n4 n5 n6 n7 l8 n9 n10 n11 n12 n13 l14)) 14))
(.sT ((isK 0 [.n, .n, .n, .n, .n, .n, .n, .n, .l TB, .n, .n, .n, .n, .n, .l TTm] (zq13 n0 n1 n2 n3 n4 n5 n6 n7 l8 n9 n10 n11 n12 n13 l14)))
(.pa [1]
(.sT ((isK 0 [.b] (zq14 n0 n1 n2 n3 n4 n5 n6 n7 l8 n9 n10 n11 n12 n13 l14)))
(.pa [1]
(.sT ((gb (dOf (zq14 n0 n1 n2 n3 n4 n5 n6 n7 l8 n9 n10 n11 n12 n13 l14)) 0))
(.pa [1,1,1,1]
.lf))))))))))))))))))))))))))))))))))))))))

def fn_W3_hCC : List Dat → Tree Bool := fun _ => .leaf true
theorem fn_W3_hCC_im (n0 n1 n2 n3 n4 n5 n6 n7 : Int) (l8 : LB) (n9 n10 n11 n12 n13 : Int) (l14 : LTm) (l15 l16 : LB) (n17 n18 n19 n20 n21 n22 n23 n24 : Int) (l25 : LB) (n26 n27 n28 n29 n30 n31 n32 n33 n34 n35 n36 n37 n38 : Int) (l39 : LB) (n40 n41 n42 n43 n44 : Int) (g0 : (l14.length : Int) ≤ 200) (g1 :  (l15.length : Int) ≤ 1000) (g2 :  l8.length = 64) (g3 :  bytesOf (strOf l15) = l15) (g4 :  strEq (strOf l15) (strOf l15) = true) (g5 :  strEq (strOf l16) (strOf l16) = true) (g6 :  op_5g [.l TB l15] = some (1, [.n n17, .n n18, .n n19, .n n20, .n n21, .n n22, .n n23, .n n24, .l TB l25, .n n26, .n n27, .n n28, .n n29, .n n30, .n 130])) (g7 :  op_6g [.l TB l15] = some (1, [.n n17, .n n18, .n n19, .n n20, .n n21, .n n22, .n n23, .n n24, .l TB l25, .n n26, .n n27, .n n28, .n n29, .n n30, .b false])) (g8 :  op_24 [.n n17, .n n18, .n n19, .n n20, .n n21, .n n22, .n n23, .n n24, .l TB l25, .n n26, .n n27, .n n28, .n n29, .n n30, .l TTm ([] : LTm)] = some (0, [.n n17, .n n18, .n n19, .n n20, .n n21, .n n22, .n n23, .n n24, .l TB l25, .n n26, .n n27, .n n28, .n n29, .n n30, .l TTm ([] : LTm)])) (g9 :  op_25 [.n n17, .n n18, .n n19, .n n20, .n n21, .n n22, .n n23, .n n24, .l TB l25, .n n26, .n n27, .n n28, .n n29, .n n30, .l TTm ([] : LTm), .n n17, .n n18, .n n19, .n n20, .n n21, .n n22, .n n23, .n n24, .l TB l25, .n n26, .n n27, .n n28, .n n29, .n n30, .l TTm ([] : LTm)] = some (0, [.b true])) (g10 :  op_7p [.n n0, .n n1, .n n2, .n n3, .n n4, .n n5, .n n6, .n n7, .l TB l8, .n n9, .n n10, .n n11, .n n12, .n n13, .l TTm l14] = some (0, [.l TB l16])) (g11 :  op_24 [.n n0, .n n1, .n n2, .n n3, .n n4, .n n5, .n n6, .n n7, .l TB l8, .n n9, .n n10, .n n11, .n n12, .n n13, .l TTm l14] = some (0, [.n n0, .n n1, .n n2, .n n3, .n n4, .n n5, .n n6, .n n7, .l TB l8, .n n9, .n n10, .n n11, .n n12, .n n13, .l TTm l14])) (g12 :  op_8p [.n n0, .n n1, .n n2, .n n3, .n n4, .n n5, .n n6, .n n7, .l TB l8, .n n9, .n n10, .n n11, .n n12, .n n13, .l TTm l14] = some (0, [.l TB l16])) (g13 :  op_5g [.l TB l16] = some (1, [.n n31, .n n32, .n n33, .n n34, .n n35, .n n36, .n n37, .n n38, .l TB l39, .n n40, .n n41, .n n42, .n n43, .n n44, .n 130])) (g14 :  op_6g [.l TB l16] = some (1, [.n n31, .n n32, .n n33, .n n34, .n n35, .n n36, .n n37, .n n38, .l TB l39, .n n40, .n n41, .n n42, .n n43, .n n44, .b false])) (g15 :  op_24 [.n n31, .n n32, .n n33, .n n34, .n n35, .n n36, .n n37, .n n38, .l TB l39, .n n40, .n n41, .n n42, .n n43, .n n44, .l TTm ([] : LTm)] = some (0, [.n n31, .n n32, .n n33, .n n34, .n n35, .n n36, .n n37, .n n38, .l TB l39, .n n40, .n n41, .n n42, .n n43, .n n44, .l TTm ([] : LTm)])) (g16 :  op_25 [.n n31, .n n32, .n n33, .n n34, .n n35, .n n36, .n n37, .n n38, .l TB l39, .n n40, .n n41, .n n42, .n n43, .n n44, .l TTm ([] : LTm), .n n31, .n n32, .n n33, .n n34, .n n35, .n n36, .n n37, .n n38, .l TB l39, .n n40, .n n41, .n n42, .n n43, .n n44, .l TTm ([] : LTm)] = some (0, [.b true])) : Imp (fn_W3_hCC (.n n0 :: .n n1 :: .n n2 :: .n n3 :: .n n4 :: .n n5 :: .n n6 :: .n n7 :: .l TB l8 :: .n n9 :: .n n10 :: .n n11 :: .n n12 :: .n n13 :: .l TTm l14 :: .l TB l15 :: .l TB l16 :: .n n17 :: .n n18 :: .n n19 :: .n n20 :: .n n21 :: .n n22 :: .n n23 :: .n n24 :: .l TB l25 :: .n n26 :: .n n27 :: .n n28 :: .n n29 :: .n n30 :: .n n31 :: .n n32 :: .n n33 :: .n n34 :: .n n35 :: .n n36 :: .n n37 :: .n n38 :: .l TB l39 :: .n n40 :: .n n41 :: .n n42 :: .n n43 :: .n n44 :: [])) (ev_W3 [.n n0, .n n1, .n n2, .n n3, .n n4, .n n5, .n n6, .n n7, .l TB l8, .n n9, .n n10, .n n11, .n n12, .n n13, .l TTm l14, .l TB l15]) :=
(.sF ((decide ((↑(List.length l14) : Int) > (200 : Int))))
(.sF ((decide ((↑(List.length l15) : Int) > (1000 : Int))))
(.sF ((isK 0 [.n, .n, .n, .n, .n, .n, .n, .n, .l TB, .n, .n, .n, .n, .n, .n, .l TTm] (zq1 l15)))
(.sT ((isK 1 [.n, .n, .n, .n, .n, .n, .n, .n, .l TB, .n, .n, .n, .n, .n, .n] (zq1 l15)))
(.pa [1]
(.sF ((isK 0 [.n, .n, .n, .n, .n, .n, .n, .n, .l TB, .n, .n, .n, .n, .n, .b, .l TTm] (zq2 l15)))
(.sT ((isK 1 [.n, .n, .n, .n, .n, .n, .n, .n, .l TB, .n, .n, .n, .n, .n, .b] (zq2 l15)))
(.pa [1]
(.sT ((isK 0 [.l TB] (zq3 n0 n1 n2 n3 n4 n5 n6 n7 l8 n9 n10 n11 n12 n13 l14)))
(.pa [1]
(.sT ((isK 0 [.n, .n, .n, .n, .n, .n, .n, .n, .l TB, .n, .n, .n, .n, .n, .l TTm] (zq4 n0 n1 n2 n3 n4 n5 n6 n7 l8 n9 n10 n11 n12 n13 l14)))
(.pa [1]
(.sT ((isK 0 [.l TB] (zq5 n0 n1 n2 n3 n4 n5 n6 n7 l8 n9 n10 n11 n12 n13 l14)))
(.pa [1]
(.sF ((!strEq (strOf (gl TB (dOf (zq3 n0 n1 n2 n3 n4 n5 n6 n7 l8 n9 n10 n11 n12 n13 l14)) 0)) (strOf (gl TB (dOf (zq5 n0 n1 n2 n3 n4 n5 n6 n7 l8 n9 n10 n11 n12 n13 l14)) 0))))
(.sT ((isK 0 [.n, .n, .n, .n, .n, .n, .n, .n, .l TB, .n, .n, .n, .n, .n, .l TTm] (zq15 l15)))
(.pa [1]
(.sT ((isK 0 [.b] (zq17 l15)))
(.pa [1]
(.sF ((!gb (dOf (zq17 l15)) 0))
(.sF ((!(gn (dOf (zq1 l15)) 14 == (0 : Int)) == gb (dOf (zq2 l15)) 14))
(.sT ((!gb (dOf (zq2 l15)) 14))
(.sF ((gn (dOf (zq1 l15)) 14 != (130 : Int)))
(.pa [1]
(.sF ((!strEq (strOf (bytesOf (strOf l15))) (strOf l15)))
(.sF ((gb (dOf (zq2 l15)) 14))
(.pa [0,1,0]
(.sF ((isK 0 [.n, .n, .n, .n, .n, .n, .n, .n, .l TB, .n, .n, .n, .n, .n, .n, .l TTm] (zq8 n0 n1 n2 n3 n4 n5 n6 n7 l8 n9 n10 n11 n12 n13 l14)))
(.sT ((isK 1 [.n, .n, .n, .n, .n, .n, .n, .n, .l TB, .n, .n, .n, .n, .n, .n] (zq8 n0 n1 n2 n3 n4 n5 n6 n7 l8 n9 n10 n11 n12 n13 l14)))
(.pa [1]
(.sF ((isK 0 [.n, .n, .n, .n, .n, .n, .n, .n, .l TB, .n, .n, .n, .n, .n, .b, .l TTm] (zq9 n0 n1 n2 n3 n4 n5 n6 n7 l8 n9 n10 n11 n12 n13 l14)))
(.sT ((isK 1 [.n, .n, .n, .n, .n, .n, .n, .n, .l TB, .n, .n, .n, .n, .n, .b] (zq9 n0 n1 n2 n3 n4 n5 n6 n7 l8 n9 n10 n11 n12 n13 l14)))
(.pa [1]
(.sT (((gn (dOf (zq8 n0 n1 n2 n3 n4 n5 n6 n7 l8 n9 n10 n11 n12 n13 l14)) 14 == (0 : Int)) == gb (dOf (zq9 n0 n1 n2 n3 n4 n5 n6 n7 l8 n9 n10 n11 n12 n13 l14)) 14))
(.sT ((isK 0 [.n, .n, .n, .n, .n, .n, .n, .n, .l TB, .n, .n, .n, .n, .n, .l TTm] (zq13 n0 n1 n2 n3 n4 n5 n6 n7 l8 n9 n10 n11 n12 n13 l14)))
(.pa [1]
(.sT ((isK 0 [.b] (zq14 n0 n1 n2 n3 n4 n5 n6 n7 l8 n9 n10 n11 n12 n13 l14)))
(.pa [1]
(.sT ((gb (dOf (zq14 n0 n1 n2 n3 n4 n5 n6 n7 l8 n9 n10 n11 n12 n13 l14)) 0))
(.pa [1,1,1,1]
.lf))))))))))))))))))))))))))))))))))))))))

noncomputable def fn_W3_x : List Dat → Tree Bool
 | [.n n0, .n n1, .n n2, .n n3, .n n4, .n n5, .n n6, .n n7, .l (Ty.int IntKind.u8) l8, .n n9, .n n10, .n n11, .n n12, .n n13, .l (Ty.pair (Ty.int IntKind.i64) (Ty.int IntKind.u8)) l14, .l (Ty.int IntKind.u8) l15] =>
 (.leaf (true))
 | _ => .bad 0
theorem fn_W3_x_im (n0 n1 n2 n3 n4 n5 n6 n7 : Int) (l8 : LB) (n9 n10 n11 n12 n13 : Int) (l14 : LTm) (l15 : LB) (g0 : l8.length = 64) (g1 :  (l14.length : Int) > 200) : Imp (fn_W3_x [.n n0, .n n1, .n n2, .n n3, .n n4, .n n5, .n n6, .n n7, .l TB l8, .n n9, .n n10, .n n11, .n n12, .n n13, .l TTm l14, .l TB l15]) (ev_W3 [.n n0, .n n1, .n n2, .n n3, .n n4, .n n5, .n n6, .n n7, .l TB l8, .n n9, .n n10, .n n11, .n n12, .n n13, .l TTm l14, .l TB l15]) :=
(.sT ((decide ((↑(List.length l14) : Int) > (200 : Int))))
(.pa [1,1,1,1,1]
.lf))

noncomputable def fn_W3_y : List Dat → Tree Bool
 | [.n n0, .n n1, .n n2, .n n3, .n n4, .n n5, .n n6, .n n7, .l (Ty.int IntKind.u8) l8, .n n9, .n n10, .n n11, .n n12, .n n13, .l (Ty.pair (Ty.int IntKind.i64) (Ty.int IntKind.u8)) l14, .l (Ty.int IntKind.u8) l15] =>
 (.leaf (true))
 | _ => .bad 0
theorem fn_W3_y_im (n0 n1 n2 n3 n4 n5 n6 n7 : Int) (l8 : LB) (n9 n10 n11 n12 n13 : Int) (l14 : LTm) (l15 : LB) (g0 : l8.length = 64) (g1 :  (l14.length : Int) ≤ 200) (g2 :  (l15.length : Int) > 1000) : Imp (fn_W3_y [.n n0, .n n1, .n n2, .n n3, .n n4, .n n5, .n n6, .n n7, .l TB l8, .n n9, .n n10, .n n11, .n n12, .n n13, .l TTm l14, .l TB l15]) (ev_W3 [.n n0, .n n1, .n n2, .n n3, .n n4, .n n5, .n n6, .n n7, .l TB l8, .n n9, .n n10, .n n11, .n n12, .n n13, .l TTm l14, .l TB l15]) :=
(.sF ((decide ((↑(List.length l14) : Int) > (200 : Int))))
(.sT ((decide ((↑(List.length l15) : Int) > (1000 : Int))))
(.pa [1,1,1]
.lf)))
end Go.Proofs.Ytdaabhpeedekaaa.Vx
