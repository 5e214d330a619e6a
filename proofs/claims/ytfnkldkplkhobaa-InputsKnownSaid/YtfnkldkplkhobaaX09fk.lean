import Derived.Test.YtfnkldkplkhobaaVxNil
import Derived.Test.YtfnkldkplkhobaaProg
import Derived.KernelRfl
namespace Go.Proofs.Ytfnkldkplkhobaa.Vx.Sa
open Go Go.RowKit
set_option linter.unusedVariables false
set_option maxRecDepth 100000
set_option maxHeartbeats 0

abbrev TCmd : Ty := .pair (.int .u8) (.int .i64)
def inV (h : Nat) : PV := .agg [.int .u64 h, .int .u32 (h+1), .int .u32 (h+2), .imm (.pair (.int .u8) (.int .i64)) (h+3)]
theorem hmix : Try.prog.follows .mixedOrders = true := by kernel_rfl
theorem csNone_ok0 : CsOk Try.prog csNone := csNone_ok _

def op_28 : List Dat → Option (Nat × List Dat) := fun _ => some (0, [.b true])
def B28 : FBox := (mkF [] [] [] [(.bool 0, [])] op_28)
def cs_28 : FuncId → Option CSpec := csAdd 9 [B28] csNone
theorem fn_28_ok (env : List Dat) (y : Nat × List Dat) (h : op_28 env = some y) : (boxC true Try.prog csNone 9 ls0 (mkF [] [] [] [(.bool 0, [])] fun _ => none) env).sel = some y := by
  cases h
  kernel_rfl
theorem B28_ok : RunOk Try.prog 9 (boxRun B28) := mkF_ok (op := op_28) csNone_ok0 hmix true (LsOk.none _ _ _) fn_28_ok
theorem cs_28_ok : CsOk Try.prog cs_28 := csAdd_ok csNone_ok0 fun B hB => by
  cases List.mem_singleton.1 hB
  exact B28_ok

def fn_L60_4 : List Dat → Tree Step
  | [.l (Ty.pair (Ty.int IntKind.u8) (Ty.int IntKind.i64)) l0, .l (Ty.pair (Ty.int IntKind.u8) (Ty.int IntKind.i64)) l1, .n n2, .n n3] =>
    (.node (decide (n3 < n2))
     (.node (inR n3 (List.length l1))
      (.node (inR n3 (List.length l0))
       (.node (!(Prod.fst (List.getD l0 (Int.toNat n3) (Ty.dflt (Ty.pair (Ty.int IntKind.u8) (Ty.int IntKind.i64)))) == Prod.fst (List.getD l1 (Int.toNat n3) (Ty.dflt (Ty.pair (Ty.int IntKind.u8) (Ty.int IntKind.i64)))) && (Prod.snd (List.getD l0 (Int.toNat n3) (Ty.dflt (Ty.pair (Ty.int IntKind.u8) (Ty.int IntKind.i64)))) == Prod.snd (List.getD l1 (Int.toNat n3) (Ty.dflt (Ty.pair (Ty.int IntKind.u8) (Ty.int IntKind.i64)))) && true)))
        (.leaf (Step.stop 1 [.b false]))
        (.leaf (Step.go [.l (Ty.pair (Ty.int IntKind.u8) (Ty.int IntKind.i64)) l0, .l (Ty.pair (Ty.int IntKind.u8) (Ty.int IntKind.i64)) l1, .n n2, .n (IntKind.wrap .i64 (n3 + (1 : Int)))])))
       (.bad 10))
      (.bad 10))
     (.leaf (Step.stop 0 [])))
  | _ => .bad 0
def op_L60_4 : List Dat → Option (Nat × List Dat) := iterS fn_L60_4 FU
def L60_4 : LBox := (mkL 0 [] (sh 26 [(1, .imm TCmd 0), (12, .imm TCmd 1), (13, .int .i64 2), (14, .int .i64 3)]) [] [] [(.exit 0, sh 26 [], []), (.ret, sh 26 [(4, .bool 0)], [])] op_L60_4)
theorem fn_L60_4_eq (l0 : List (Ty.den (Ty.pair (Ty.int IntKind.u8) (Ty.int IntKind.i64)))) (l1 : List (Ty.den (Ty.pair (Ty.int IntKind.u8) (Ty.int IntKind.i64)))) (n2 : Int) (n3 : Int) : (stepC false Try.prog cs_28 22 4 ls0 (mkL 0 [] (sh 26 [(1, .imm TCmd 0), (12, .imm TCmd 1), (13, .int .i64 2), (14, .int .i64 3)]) [] [] [(.exit 0, sh 26 [], []), (.ret, sh 26 [(4, .bool 0)], [])] fun _ => none) [.l (Ty.pair (Ty.int IntKind.u8) (Ty.int IntKind.i64)) l0, .l (Ty.pair (Ty.int IntKind.u8) (Ty.int IntKind.i64)) l1, .n n2, .n n3]).sel = (fn_L60_4 [.l (Ty.pair (Ty.int IntKind.u8) (Ty.int IntKind.i64)) l0, .l (Ty.pair (Ty.int IntKind.u8) (Ty.int IntKind.i64)) l1, .n n2, .n n3]).sel := by kernel_rfl
theorem fn_L60_4_ok (env : List Dat) (y : Step) (h : (fn_L60_4 env).sel = some y) : (stepC false Try.prog cs_28 22 4 ls0 (mkL 0 [] (sh 26 [(1, .imm TCmd 0), (12, .imm TCmd 1), (13, .int .i64 2), (14, .int .i64 3)]) [] [] [(.exit 0, sh 26 [], []), (.ret, sh 26 [(4, .bool 0)], [])] fun _ => none) env).sel = some y := by
  unfold fn_L60_4 at h
  split at h
  · rw [fn_L60_4_eq]; exact h
  · cases h
theorem L60_4_ok (K : Nat) : LsOk Try.prog K (lsTab [(4, L60_4)] K) (bodyOf Try.prog 22) := mkL_ok (st := fn_L60_4) (m := FU) cs_28_ok hmix false (by kernel_rfl) (by kernel_rfl) fn_L60_4_ok
theorem L60_4_run : ∀ t s x, (loopRun L60_4 t s).sel = some x → CodeOk Try.prog 0 (.loop (cAt Try.prog 22 4)) t s x := mkLs_ok (st := fn_L60_4) (m := FU) cs_28_ok hmix false (LsOk.none _ _ _) (by kernel_rfl) fn_L60_4_ok

def fn_60 : List Dat → Tree (Nat × List Dat)
  | [.l (Ty.pair (Ty.int IntKind.u8) (Ty.int IntKind.i64)) l0, .l (Ty.pair (Ty.int IntKind.u8) (Ty.int IntKind.i64)) l1] =>
    (.node ((↑(List.length l0) : Int) != (↑(List.length l1) : Int))
     (.leaf ((0, [.b false])))
     (let r1 : Option (Nat × List Dat) := (op_L60_4 [.l (Ty.pair (Ty.int IntKind.u8) (Ty.int IntKind.i64)) l1, .l (Ty.pair (Ty.int IntKind.u8) (Ty.int IntKind.i64)) l0, .n (↑(List.length l0) : Int), .n (0 : Int)]);
      (.node (isK 0 [] r1)
       (.leaf ((0, [.b true])))
       (.node (isK 1 [HK.b] r1)
        (.leaf ((0, [.b (gb (dOf r1) 0)])))
        (.bad 351)))))
  | _ => .bad 0
def op_60 : List Dat → Option (Nat × List Dat) := fun env => (fn_60 env).sel
def B60 : FBox := (mkF [.imm TCmd 0, .imm TCmd 1] [] [] [(.bool 0, [])] op_60)
def cs_60 : FuncId → Option CSpec := csAdd 22 [B60] cs_28
theorem fn_60_eq (l0 : List (Ty.den (Ty.pair (Ty.int IntKind.u8) (Ty.int IntKind.i64)))) (l1 : List (Ty.den (Ty.pair (Ty.int IntKind.u8) (Ty.int IntKind.i64)))) : (boxC false Try.prog cs_28 22 (lsTab [(4, L60_4)] (List.length ([] : List PB))) (mkF [.imm TCmd 0, .imm TCmd 1] [] [] [(.bool 0, [])] fun _ => none) [.l (Ty.pair (Ty.int IntKind.u8) (Ty.int IntKind.i64)) l0, .l (Ty.pair (Ty.int IntKind.u8) (Ty.int IntKind.i64)) l1]).sel = (fn_60 [.l (Ty.pair (Ty.int IntKind.u8) (Ty.int IntKind.i64)) l0, .l (Ty.pair (Ty.int IntKind.u8) (Ty.int IntKind.i64)) l1]).sel := by kernel_rfl
theorem fn_60_ok (env : List Dat) (y : Nat × List Dat) (h : (fn_60 env).sel = some y) : (boxC false Try.prog cs_28 22 (lsTab [(4, L60_4)] (List.length ([] : List PB))) (mkF [.imm TCmd 0, .imm TCmd 1] [] [] [(.bool 0, [])] fun _ => none) env).sel = some y := by
  unfold fn_60 at h
  split at h
  · rw [fn_60_eq]; exact h
  · cases h
theorem B60_ok : RunOk Try.prog 22 (boxRun B60) := mkF_ok (op := op_60) cs_28_ok hmix false (L60_4_ok _) fn_60_ok
theorem cs_60_ok : CsOk Try.prog cs_60 := csAdd_ok cs_28_ok fun B hB => by
  cases List.mem_singleton.1 hB
  exact B60_ok

def fn_L61_4 : List Dat → Tree Step
  | [.l (Ty.pair (Ty.int IntKind.u8) (Ty.int IntKind.i64)) l0, .l (Ty.pair (Ty.int IntKind.u8) (Ty.int IntKind.i64)) l1, .n n2] =>
    (.node (decide (n2 < (↑(List.length l0) : Int)))
     (.node (inR n2 (List.length l0))
      (.node (inR n2 (List.length l1))
       (.node (!(Prod.fst (List.getD l0 (Int.toNat n2) (Ty.dflt (Ty.pair (Ty.int IntKind.u8) (Ty.int IntKind.i64)))) == Prod.fst (List.getD l1 (Int.toNat n2) (Ty.dflt (Ty.pair (Ty.int IntKind.u8) (Ty.int IntKind.i64)))) && (Prod.snd (List.getD l0 (Int.toNat n2) (Ty.dflt (Ty.pair (Ty.int IntKind.u8) (Ty.int IntKind.i64)))) == Prod.snd (List.getD l1 (Int.toNat n2) (Ty.dflt (Ty.pair (Ty.int IntKind.u8) (Ty.int IntKind.i64)))) && true)))
        (.leaf (Step.stop 1 [.b false]))
        (.leaf (Step.go [.l (Ty.pair (Ty.int IntKind.u8) (Ty.int IntKind.i64)) l0, .l (Ty.pair (Ty.int IntKind.u8) (Ty.int IntKind.i64)) l1, .n (IntKind.wrap .i64 (n2 + (1 : Int)))])))
       (.bad 10))
      (.bad 10))
     (.leaf (Step.stop 0 [])))
  | _ => .bad 0
def op_L61_4 : List Dat → Option (Nat × List Dat) := iterS fn_L61_4 FU
def L61_4 : LBox := (mkL 0 [] (sh 26 [(0, .imm TCmd 0), (1, .imm TCmd 1), (5, .int .i64 2)]) [] [] [(.exit 0, sh 26 [], []), (.ret, sh 26 [(4, .bool 0)], [])] op_L61_4)
theorem fn_L61_4_eq (l0 : List (Ty.den (Ty.pair (Ty.int IntKind.u8) (Ty.int IntKind.i64)))) (l1 : List (Ty.den (Ty.pair (Ty.int IntKind.u8) (Ty.int IntKind.i64)))) (n2 : Int) : (stepC false Try.prog cs_60 24 4 ls0 (mkL 0 [] (sh 26 [(0, .imm TCmd 0), (1, .imm TCmd 1), (5, .int .i64 2)]) [] [] [(.exit 0, sh 26 [], []), (.ret, sh 26 [(4, .bool 0)], [])] fun _ => none) [.l (Ty.pair (Ty.int IntKind.u8) (Ty.int IntKind.i64)) l0, .l (Ty.pair (Ty.int IntKind.u8) (Ty.int IntKind.i64)) l1, .n n2]).sel = (fn_L61_4 [.l (Ty.pair (Ty.int IntKind.u8) (Ty.int IntKind.i64)) l0, .l (Ty.pair (Ty.int IntKind.u8) (Ty.int IntKind.i64)) l1, .n n2]).sel := by kernel_rfl
theorem fn_L61_4_ok (env : List Dat) (y : Step) (h : (fn_L61_4 env).sel = some y) : (stepC false Try.prog cs_60 24 4 ls0 (mkL 0 [] (sh 26 [(0, .imm TCmd 0), (1, .imm TCmd 1), (5, .int .i64 2)]) [] [] [(.exit 0, sh 26 [], []), (.ret, sh 26 [(4, .bool 0)], [])] fun _ => none) env).sel = some y := by
  unfold fn_L61_4 at h
  split at h
  · rw [fn_L61_4_eq]; exact h
  · cases h
theorem L61_4_ok (K : Nat) : LsOk Try.prog K (lsTab [(4, L61_4)] K) (bodyOf Try.prog 24) := mkL_ok (st := fn_L61_4) (m := FU) cs_60_ok hmix false (by kernel_rfl) (by kernel_rfl) fn_L61_4_ok
theorem L61_4_run : ∀ t s x, (loopRun L61_4 t s).sel = some x → CodeOk Try.prog 0 (.loop (cAt Try.prog 24 4)) t s x := mkLs_ok (st := fn_L61_4) (m := FU) cs_60_ok hmix false (LsOk.none _ _ _) (by kernel_rfl) fn_L61_4_ok

def fn_61 : List Dat → Tree (Nat × List Dat)
  | [.l (Ty.pair (Ty.int IntKind.u8) (Ty.int IntKind.i64)) l0, .l (Ty.pair (Ty.int IntKind.u8) (Ty.int IntKind.i64)) l1] =>
    (.node ((↑(List.length l0) : Int) != (↑(List.length l1) : Int))
     (.leaf ((0, [.b false])))
     (let r1 : Option (Nat × List Dat) := (op_L61_4 [.l (Ty.pair (Ty.int IntKind.u8) (Ty.int IntKind.i64)) l0, .l (Ty.pair (Ty.int IntKind.u8) (Ty.int IntKind.i64)) l1, .n (0 : Int)]);
      (.node (isK 0 [] r1)
       (.leaf ((0, [.b true])))
       (.node (isK 1 [HK.b] r1)
        (.leaf ((0, [.b (gb (dOf r1) 0)])))
        (.bad 351)))))
  | _ => .bad 0
def op_61 : List Dat → Option (Nat × List Dat) := fun env => (fn_61 env).sel
def B61 : FBox := (mkF [.imm TCmd 0, .imm TCmd 1] [] [] [(.bool 0, [])] op_61)
def cs_61 : FuncId → Option CSpec := csAdd 24 [B61] cs_60
theorem fn_61_eq (l0 : List (Ty.den (Ty.pair (Ty.int IntKind.u8) (Ty.int IntKind.i64)))) (l1 : List (Ty.den (Ty.pair (Ty.int IntKind.u8) (Ty.int IntKind.i64)))) : (boxC false Try.prog cs_60 24 (lsTab [(4, L61_4)] (List.length ([] : List PB))) (mkF [.imm TCmd 0, .imm TCmd 1] [] [] [(.bool 0, [])] fun _ => none) [.l (Ty.pair (Ty.int IntKind.u8) (Ty.int IntKind.i64)) l0, .l (Ty.pair (Ty.int IntKind.u8) (Ty.int IntKind.i64)) l1]).sel = (fn_61 [.l (Ty.pair (Ty.int IntKind.u8) (Ty.int IntKind.i64)) l0, .l (Ty.pair (Ty.int IntKind.u8) (Ty.int IntKind.i64)) l1]).sel := by kernel_rfl
theorem fn_61_ok (env : List Dat) (y : Nat × List Dat) (h : (fn_61 env).sel = some y) : (boxC false Try.prog cs_60 24 (lsTab [(4, L61_4)] (List.length ([] : List PB))) (mkF [.imm TCmd 0, .imm TCmd 1] [] [] [(.bool 0, [])] fun _ => none) env).sel = some y := by
  unfold fn_61 at h
  split at h
  · rw [fn_61_eq]; exact h
  · cases h
theorem B61_ok : RunOk Try.prog 24 (boxRun B61) := mkF_ok (op := op_61) cs_60_ok hmix false (L61_4_ok _) fn_61_ok
theorem cs_61_ok : CsOk Try.prog cs_61 := csAdd_ok cs_60_ok fun B hB => by
  cases List.mem_singleton.1 hB
  exact B61_ok

def fn_29 : List Dat → Tree (Nat × List Dat)
  | [.n n0, .n n1, .n n2, .l (Ty.pair (Ty.int IntKind.u8) (Ty.int IntKind.i64)) l3, .n n4, .n n5, .n n6, .l (Ty.pair (Ty.int IntKind.u8) (Ty.int IntKind.i64)) l7] =>
    (.node (n0 == n4)
     (.node (n1 == n5)
      (.node (n2 == n6)
       (let r1 : Option (Nat × List Dat) := (op_60 [.l (Ty.pair (Ty.int IntKind.u8) (Ty.int IntKind.i64)) l3, .l (Ty.pair (Ty.int IntKind.u8) (Ty.int IntKind.i64)) l7]);
        (.node (isK 0 [HK.b] r1)
         (.leaf ((0, [.b (gb (dOf r1) 0)])))
         (.bad 351)))
       (.leaf ((0, [.b false]))))
      (.leaf ((0, [.b false]))))
     (.leaf ((0, [.b false]))))
  | _ => .bad 0
def op_29 : List Dat → Option (Nat × List Dat) := fun env => (fn_29 env).sel
def B29 : FBox := (mkF [inV 0, inV 4] [] [] [(.bool 0, [])] op_29)
def cs_29 : FuncId → Option CSpec := csAdd 17 [B29] cs_61
theorem fn_29_eq (n0 : Int) (n1 : Int) (n2 : Int) (l3 : List (Ty.den (Ty.pair (Ty.int IntKind.u8) (Ty.int IntKind.i64)))) (n4 : Int) (n5 : Int) (n6 : Int) (l7 : List (Ty.den (Ty.pair (Ty.int IntKind.u8) (Ty.int IntKind.i64)))) : (boxC false Try.prog cs_61 17 ls0 (mkF [inV 0, inV 4] [] [] [(.bool 0, [])] fun _ => none) [.n n0, .n n1, .n n2, .l (Ty.pair (Ty.int IntKind.u8) (Ty.int IntKind.i64)) l3, .n n4, .n n5, .n n6, .l (Ty.pair (Ty.int IntKind.u8) (Ty.int IntKind.i64)) l7]).sel = (fn_29 [.n n0, .n n1, .n n2, .l (Ty.pair (Ty.int IntKind.u8) (Ty.int IntKind.i64)) l3, .n n4, .n n5, .n n6, .l (Ty.pair (Ty.int IntKind.u8) (Ty.int IntKind.i64)) l7]).sel := by kernel_rfl
theorem fn_29_ok (env : List Dat) (y : Nat × List Dat) (h : (fn_29 env).sel = some y) : (boxC false Try.prog cs_61 17 ls0 (mkF [inV 0, inV 4] [] [] [(.bool 0, [])] fun _ => none) env).sel = some y := by
  unfold fn_29 at h
  split at h
  · rw [fn_29_eq]; exact h
  · cases h
theorem B29_ok : RunOk Try.prog 17 (boxRun B29) := mkF_ok (op := op_29) cs_61_ok hmix false (LsOk.none _ _ _) fn_29_ok
theorem cs_29_ok : CsOk Try.prog cs_29 := csAdd_ok cs_61_ok fun B hB => by
  cases List.mem_singleton.1 hB
  exact B29_ok

def fn_30 : List Dat → Tree (Nat × List Dat)
  | [.n n0, .n n1, .n n2, .l (Ty.pair (Ty.int IntKind.u8) (Ty.int IntKind.i64)) l3, .n n4, .n n5, .n n6, .l (Ty.pair (Ty.int IntKind.u8) (Ty.int IntKind.i64)) l7] =>
    (.node (n0 == n4)
     (.node (n1 == n5)
      (.node (n2 == n6)
       (let r1 : Option (Nat × List Dat) := (op_61 [.l (Ty.pair (Ty.int IntKind.u8) (Ty.int IntKind.i64)) l3, .l (Ty.pair (Ty.int IntKind.u8) (Ty.int IntKind.i64)) l7]);
        (.node (isK 0 [HK.b] r1)
         (.leaf ((0, [.b (gb (dOf r1) 0)])))
         (.bad 351)))
       (.leaf ((0, [.b false]))))
      (.leaf ((0, [.b false]))))
     (.leaf ((0, [.b false]))))
  | _ => .bad 0
def op_30 : List Dat → Option (Nat × List Dat) := fun env => (fn_30 env).sel
def B30 : FBox := (mkF [inV 0, inV 4] [] [] [(.bool 0, [])] op_30)
def cs_30 : FuncId → Option CSpec := csAdd 14 [B30] cs_29
theorem fn_30_eq (n0 : Int) (n1 : Int) (n2 : Int) (l3 : List (Ty.den (Ty.pair (Ty.int IntKind.u8) (Ty.int IntKind.i64)))) (n4 : Int) (n5 : Int) (n6 : Int) (l7 : List (Ty.den (Ty.pair (Ty.int IntKind.u8) (Ty.int IntKind.i64)))) : (boxC false Try.prog cs_29 14 ls0 (mkF [inV 0, inV 4] [] [] [(.bool 0, [])] fun _ => none) [.n n0, .n n1, .n n2, .l (Ty.pair (Ty.int IntKind.u8) (Ty.int IntKind.i64)) l3, .n n4, .n n5, .n n6, .l (Ty.pair (Ty.int IntKind.u8) (Ty.int IntKind.i64)) l7]).sel = (fn_30 [.n n0, .n n1, .n n2, .l (Ty.pair (Ty.int IntKind.u8) (Ty.int IntKind.i64)) l3, .n n4, .n n5, .n n6, .l (Ty.pair (Ty.int IntKind.u8) (Ty.int IntKind.i64)) l7]).sel := by kernel_rfl
theorem fn_30_ok (env : List Dat) (y : Nat × List Dat) (h : (fn_30 env).sel = some y) : (boxC false Try.prog cs_29 14 ls0 (mkF [inV 0, inV 4] [] [] [(.bool 0, [])] fun _ => none) env).sel = some y := by
  unfold fn_30 at h
  split at h
  · rw [fn_30_eq]; exact h
  · cases h
theorem B30_ok : RunOk Try.prog 14 (boxRun B30) := mkF_ok (op := op_30) cs_29_ok hmix false (LsOk.none _ _ _) fn_30_ok
theorem cs_30_ok : CsOk Try.prog cs_30 := csAdd_ok cs_29_ok fun B hB => by
  cases List.mem_singleton.1 hB
  exact B30_ok

def fn_W6 : List Dat → Tree Bool
  | [.n n0, .n n1] =>
    (.node (iandnot IntKind.u32 n0 n1 == iandnot IntKind.u32 n0 n1)
     (.node (iandnot IntKind.u32 n1 n0 == iandnot IntKind.u32 n1 n0)
      (.node (iand IntKind.u32 (iandnot IntKind.u32 n0 n1) (iandnot IntKind.u32 n1 n0) == (0 : Int))
       (.leaf (true))
       (.leaf (false)))
      (.leaf (false)))
     (.leaf (false)))
  | _ => .bad 0
theorem fn_W6_eq (n0 : Int) (n1 : Int) : ((fun (d : List Dat) => lawB false Try.prog cs_30 5 ls0 (instL [.int .u32 0, .int .u32 1] d)) [.n n0, .n n1]).sel = (fn_W6 [.n n0, .n n1]).sel := by kernel_rfl
theorem W6_law (env : List Dat) (h : (fn_W6 env).sel = some true) {w : World} {args : Array Value} (ha : LRel R0 (snapOf w) (instL [.int .u32 0, .int .u32 1] env) args) :
    Calls Try.prog 5 args w fun e w' => e = .returned (.bool true) ∧ Below w.heap.size w w' := by
  refine lawB_ok cs_30_ok hmix false (ls := ls0) (LsOk.none _ _ _) ?_ ha
  unfold fn_W6 at h
  split at h
  · exact (fn_W6_eq _ _).trans h
  · cases h

def fn_W7 : List Dat → Tree Bool
  | [.n n0, .n n1, .n n2, .l (Ty.pair (Ty.int IntKind.u8) (Ty.int IntKind.i64)) l3, .n n4, .n n5, .n n6, .l (Ty.pair (Ty.int IntKind.u8) (Ty.int IntKind.i64)) l7] =>
    (.node (decide ((↑(List.length l3) : Int) > (100 : Int)))
     (.leaf (true))
     (.node (decide ((↑(List.length l7) : Int) > (100 : Int)))
      (.leaf (true))
      (let r1 : Option (Nat × List Dat) := (op_29 [.n n0, .n n1, .n n2, .l (Ty.pair (Ty.int IntKind.u8) (Ty.int IntKind.i64)) l3, .n n4, .n n5, .n n6, .l (Ty.pair (Ty.int IntKind.u8) (Ty.int IntKind.i64)) l7]);
       (.node (isK 0 [HK.b] r1)
        (let r2 : Option (Nat × List Dat) := (op_30 [.n n0, .n n1, .n n2, .l (Ty.pair (Ty.int IntKind.u8) (Ty.int IntKind.i64)) l3, .n n4, .n n5, .n n6, .l (Ty.pair (Ty.int IntKind.u8) (Ty.int IntKind.i64)) l7]);
         (.node (isK 0 [HK.b] r2)
          (.node (gb (dOf r1) 0 == gb (dOf r2) 0)
           (let r3 : Option (Nat × List Dat) := (op_29 [.n n4, .n n5, .n n6, .l (Ty.pair (Ty.int IntKind.u8) (Ty.int IntKind.i64)) l7, .n n0, .n n1, .n n2, .l (Ty.pair (Ty.int IntKind.u8) (Ty.int IntKind.i64)) l3]);
            (.node (isK 0 [HK.b] r3)
             (.node (gb (dOf r3) 0 == gb (dOf r1) 0)
              (let r4 : Option (Nat × List Dat) := (op_29 [.n n0, .n n1, .n n2, .l (Ty.pair (Ty.int IntKind.u8) (Ty.int IntKind.i64)) l3, .n n0, .n n1, .n n2, .l (Ty.pair (Ty.int IntKind.u8) (Ty.int IntKind.i64)) l3]);
               (.node (isK 0 [HK.b] r4)
                (.node (gb (dOf r4) 0)
                 (.leaf (true))
                 (.leaf (false)))
                (.bad 351)))
              (.leaf (false)))
             (.bad 351)))
           (.leaf (false)))
          (.bad 351)))
        (.bad 351)))))
  | _ => .bad 0
def fr_W7 : List Dat → Tree Bool
  | [.n n0, .n n1, .n n2, .l (Ty.pair (Ty.int IntKind.u8) (Ty.int IntKind.i64)) l3, .n n4, .n n5, .n n6, .l (Ty.pair (Ty.int IntKind.u8) (Ty.int IntKind.i64)) l7] =>
    (.node (decide ((↑(List.length l3) : Int) > (100 : Int)))
     (.leaf (true))
     (.node (decide ((↑(List.length l7) : Int) > (100 : Int)))
      (.leaf (true))
      (let r1 : Option (Nat × List Dat) := (op_29 [.n n0, .n n1, .n n2, .l (Ty.pair (Ty.int IntKind.u8) (Ty.int IntKind.i64)) l3, .n n4, .n n5, .n n6, .l (Ty.pair (Ty.int IntKind.u8) (Ty.int IntKind.i64)) l7]);
       (.node (isK 0 [HK.b] r1)
        (let r2 : Option (Nat × List Dat) := (op_30 [.n n0, .n n1, .n n2, .l (Ty.pair (Ty.int IntKind.u8) (Ty.int IntKind.i64)) l3, .n n4, .n n5, .n n6, .l (Ty.pair (Ty.int IntKind.u8) (Ty.int IntKind.i64)) l7]);
         (.node (isK 0 [HK.b] r2)
          (.node (gb (dOf r1) 0 == gb (dOf r2) 0)
           (let r3 : Option (Nat × List Dat) := (op_29 [.n n4, .n n5, .n n6, .l (Ty.pair (Ty.int IntKind.u8) (Ty.int IntKind.i64)) l7, .n n0, .n n1, .n n2, .l (Ty.pair (Ty.int IntKind.u8) (Ty.int IntKind.i64)) l3]);
            (.node (isK 0 [HK.b] r3)
             (.node (isK 0 [HK.b] r1)
              (.node (gb (dOf r3) 0 == gb (dOf r1) 0)
               (let r4 : Option (Nat × List Dat) := (op_29 [.n n0, .n n1, .n n2, .l (Ty.pair (Ty.int IntKind.u8) (Ty.int IntKind.i64)) l3, .n n0, .n n1, .n n2, .l (Ty.pair (Ty.int IntKind.u8) (Ty.int IntKind.i64)) l3]);
                (.node (isK 0 [HK.b] r4)
                 (.node (gb (dOf r4) 0)
                  (.leaf (true))
                  (.leaf (false)))
                 (.bad 351)))
               (.leaf (false)))
              (.bad 351))
             (.bad 351)))
           (.leaf (false)))
          (.bad 351)))
        (.bad 351)))))
  | _ => .bad 0
theorem fr_W7_eq (n0 : Int) (n1 : Int) (n2 : Int) (l3 : List (Ty.den (Ty.pair (Ty.int IntKind.u8) (Ty.int IntKind.i64)))) (n4 : Int) (n5 : Int) (n6 : Int) (l7 : List (Ty.den (Ty.pair (Ty.int IntKind.u8) (Ty.int IntKind.i64)))) : ((fun (d : List Dat) => lawB false Try.prog cs_30 6 ls0 (instL [inV 0, inV 4] d)) [.n n0, .n n1, .n n2, .l (Ty.pair (Ty.int IntKind.u8) (Ty.int IntKind.i64)) l3, .n n4, .n n5, .n n6, .l (Ty.pair (Ty.int IntKind.u8) (Ty.int IntKind.i64)) l7]).sel = (fr_W7 [.n n0, .n n1, .n n2, .l (Ty.pair (Ty.int IntKind.u8) (Ty.int IntKind.i64)) l3, .n n4, .n n5, .n n6, .l (Ty.pair (Ty.int IntKind.u8) (Ty.int IntKind.i64)) l7]).sel := by kernel_rfl
theorem fr_W7_pr (n0 : Int) (n1 : Int) (n2 : Int) (l3 : List (Ty.den (Ty.pair (Ty.int IntKind.u8) (Ty.int IntKind.i64)))) (n4 : Int) (n5 : Int) (n6 : Int) (l7 : List (Ty.den (Ty.pair (Ty.int IntKind.u8) (Ty.int IntKind.i64)))) : (fr_W7 [.n n0, .n n1, .n n2, .l (Ty.pair (Ty.int IntKind.u8) (Ty.int IntKind.i64)) l3, .n n4, .n n5, .n n6, .l (Ty.pair (Ty.int IntKind.u8) (Ty.int IntKind.i64)) l7]).sel = (fn_W7 [.n n0, .n n1, .n n2, .l (Ty.pair (Ty.int IntKind.u8) (Ty.int IntKind.i64)) l3, .n n4, .n n5, .n n6, .l (Ty.pair (Ty.int IntKind.u8) (Ty.int IntKind.i64)) l7]).sel := (sel_c (fun _ => rfl) (fun h0 => (sel_c (fun _ => rfl) (fun h1 => (sel_c (fun h2 => (sel_c (fun h3 => (sel_c (fun h4 => (sel_c (fun h5 => (sel_t h2 rfl)) (fun _ => rfl))) (fun _ => rfl))) (fun _ => rfl))) (fun _ => rfl))))))
theorem fn_W7_eq (n0 : Int) (n1 : Int) (n2 : Int) (l3 : List (Ty.den (Ty.pair (Ty.int IntKind.u8) (Ty.int IntKind.i64)))) (n4 : Int) (n5 : Int) (n6 : Int) (l7 : List (Ty.den (Ty.pair (Ty.int IntKind.u8) (Ty.int IntKind.i64)))) : ((fun (d : List Dat) => lawB false Try.prog cs_30 6 ls0 (instL [inV 0, inV 4] d)) [.n n0, .n n1, .n n2, .l (Ty.pair (Ty.int IntKind.u8) (Ty.int IntKind.i64)) l3, .n n4, .n n5, .n n6, .l (Ty.pair (Ty.int IntKind.u8) (Ty.int IntKind.i64)) l7]).sel = (fn_W7 [.n n0, .n n1, .n n2, .l (Ty.pair (Ty.int IntKind.u8) (Ty.int IntKind.i64)) l3, .n n4, .n n5, .n n6, .l (Ty.pair (Ty.int IntKind.u8) (Ty.int IntKind.i64)) l7]).sel := (fr_W7_eq n0 n1 n2 l3 n4 n5 n6 l7).trans (fr_W7_pr n0 n1 n2 l3 n4 n5 n6 l7)
theorem W7_law (env : List Dat) (h : (fn_W7 env).sel = some true) {w : World} {args : Array Value} (ha : LRel R0 (snapOf w) (instL [inV 0, inV 4] env) args) :
    Calls Try.prog 6 args w fun e w' => e = .returned (.bool true) ∧ Below w.heap.size w w' := by
  refine lawB_ok cs_30_ok hmix false (ls := ls0) (LsOk.none _ _ _) ?_ ha
  unfold fn_W7 at h
  split at h
  · exact (fn_W7_eq _ _ _ _ _ _ _ _).trans h
  · cases h
end Go.Proofs.Ytfnkldkplkhobaa.Vx.Sa
