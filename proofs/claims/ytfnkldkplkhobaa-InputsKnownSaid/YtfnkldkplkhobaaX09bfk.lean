import Derived.Test.YtfnkldkplkhobaaVxNil
import Derived.Test.YtfnkldkplkhobaaProg
import Derived.KernelRfl
namespace Go.Proofs.Ytfnkldkplkhobaa.Vx.Mg
open Go Go.RowKit
set_option linter.unusedVariables false
set_option maxRecDepth 100000
set_option maxHeartbeats 0

abbrev TCmd : Ty := .pair (.int .u8) (.int .i64)
abbrev TPt : Ty := .pair .str (.int .i64)
abbrev TNd : Ty := .pair (.int .i64) .bool
abbrev TRt : Ty := .pair .str (.pair (.int .i64) (.pair (.sl (.int .i64)) (.pair (.sl TNd) (.pair (.sl (.int .i64)) (.sl TNd)))))
def inV (h : Nat) : PV := .agg [.int .u64 h, .int .u32 (h+1), .int .u32 (h+2), .imm TCmd (h+3)]
def inO (h b : Nat) : PV := .agg [.int .u64 h, .int .u32 (h+1), .int .u32 (h+2), .own b]
def inB (h : Nat) : PB := .cells [.int .u64 h, .int .u32 (h+1), .int .u32 (h+2), .imm TCmd (h+3)]
def inC (h b : Nat) : PB := .cells [.int .u64 h, .int .u32 (h+1), .int .u32 (h+2), .own b]
def laV (h : Nat) : PV := .agg [.imm .str h, .imm TPt (h+1), .imm TPt (h+2), .imm TRt (h+3)]
def laB (h : Nat) : PB := .cells [.imm .str h, .imm TPt (h+1), .imm TPt (h+2), .imm TRt (h+3)]
theorem hmix : Try.prog.follows .mixedOrders = true := by kernel_rfl
theorem csNone_ok0 : CsOk Try.prog csNone := csNone_ok _

def op_28 : List Dat → Option (Nat × List Dat) := fun _ => some (0, [.b true])
def B28 : FBox := (mkF [] [] [] [(.bool 0, [])] op_28)
def cs_28 : FuncId → Option CSpec := csAdd 9 [B28] csNone
theorem fn_28_ok (env : List Dat) (y : Nat × List Dat) (h : op_28 env = some y) : (boxC true Try.prog csNone 9 ls0 (mkF [] [] [] [(.bool 0, [])] fun _ => none) env).sel = some y := by
  cases h
  kernel_rfl
theorem B28_ok : RunOk Try.prog 9 (boxRun B28) := mkF_ok (op := op_28) csNone_ok0 hmix true (LsOk.none _ _ _) fn_28_ok
theorem cs_28_ok : CsOk Try.prog cs_28 := csAdd_ok csNone_ok0 fun B hB => by
  cases List.mem_singleton.1 hB
  exact B28_ok

def fn_L60_4 : List Dat → Tree Step
  | [.l (Ty.pair (Ty.int IntKind.u8) (Ty.int IntKind.i64)) l0, .l (Ty.pair (Ty.int IntKind.u8) (Ty.int IntKind.i64)) l1, .n n2, .n n3] =>
    (.node (decide (n3 < n2))
     (.node (inR n3 (List.length l1))
      (.node (inR n3 (List.length l0))
       (.node (!(Prod.fst (List.getD l0 (Int.toNat n3) (Ty.dflt (Ty.pair (Ty.int IntKind.u8) (Ty.int IntKind.i64)))) == Prod.fst (List.getD l1 (Int.toNat n3) (Ty.dflt (Ty.pair (Ty.int IntKind.u8) (Ty.int IntKind.i64)))) && (Prod.snd (List.getD l0 (Int.toNat n3) (Ty.dflt (Ty.pair (Ty.int IntKind.u8) (Ty.int IntKind.i64)))) == Prod.snd (List.getD l1 (Int.toNat n3) (Ty.dflt (Ty.pair (Ty.int IntKind.u8) (Ty.int IntKind.i64)))) && true)))
        (.leaf (Step.stop 1 [.b false]))
        (.leaf (Step.go [.l (Ty.pair (Ty.int IntKind.u8) (Ty.int IntKind.i64)) l0, .l (Ty.pair (Ty.int IntKind.u8) (Ty.int IntKind.i64)) l1, .n n2, .n (IntKind.wrap .i64 (n3 + (1 : Int)))])))
       (.bad 10))
      (.bad 10))
     (.leaf (Step.stop 0 [])))
  | _ => .bad 0
def op_L60_4 : List Dat → Option (Nat × List Dat) := iterS fn_L60_4 FU
def L60_4 : LBox := (mkL 0 [] (sh 26 [(1, .imm TCmd 0), (12, .imm TCmd 1), (13, .int .i64 2), (14, .int .i64 3)]) [] [] [(.exit 0, sh 26 [], []), (.ret, sh 26 [(4, .bool 0)], [])] op_L60_4)
theorem fn_L60_4_eq (l0 : List (Ty.den (Ty.pair (Ty.int IntKind.u8) (Ty.int IntKind.i64)))) (l1 : List (Ty.den (Ty.pair (Ty.int IntKind.u8) (Ty.int IntKind.i64)))) (n2 : Int) (n3 : Int) : (stepC false Try.prog cs_28 22 4 ls0 (mkL 0 [] (sh 26 [(1, .imm TCmd 0), (12, .imm TCmd 1), (13, .int .i64 2), (14, .int .i64 3)]) [] [] [(.exit 0, sh 26 [], []), (.ret, sh 26 [(4, .bool 0)], [])] fun _ => none) [.l (Ty.pair (Ty.int IntKind.u8) (Ty.int IntKind.i64)) l0, .l (Ty.pair (Ty.int IntKind.u8) (Ty.int IntKind.i64)) l1, .n n2, .n n3]).sel = (fn_L60_4 [.l (Ty.pair (Ty.int IntKind.u8) (Ty.int IntKind.i64)) l0, .l (Ty.pair (Ty.int IntKind.u8) (Ty.int IntKind.i64)) l1, .n n2, .n n3]).sel := by kernel_rfl
theorem fn_L60_4_ok (env : List Dat) (y : Step) (h : (fn_L60_4 env).sel = some y) : (stepC false Try.prog cs_28 22 4 ls0 (mkL 0 [] (sh 26 [(1, .imm TCmd 0), (12, .imm TCmd 1), (13, .int .i64 2), (14, .int .i64 3)]) [] [] [(.exit 0, sh 26 [], []), (.ret, sh 26 [(4, .bool 0)], [])] fun _ => none) env).sel = some y := by
  unfold fn_L60_4 at h
  split at h
  · rw [fn_L60_4_eq]; exact h
  · cases h
theorem L60_4_ok (K : Nat) : LsOk Try.prog K (lsTab [(4, L60_4)] K) (bodyOf Try.prog 22) := mkL_ok (st := fn_L60_4) (m := FU) cs_28_ok hmix false (by kernel_rfl) (by kernel_rfl) fn_L60_4_ok
theorem L60_4_run : ∀ t s x, (loopRun L60_4 t s).sel = some x → CodeOk Try.prog 0 (.loop (cAt Try.prog 22 4)) t s x := mkLs_ok (st := fn_L60_4) (m := FU) cs_28_ok hmix false (LsOk.none _ _ _) (by kernel_rfl) fn_L60_4_ok

def fn_60 : List Dat → Tree (Nat × List Dat)
  | [.l (Ty.pair (Ty.int IntKind.u8) (Ty.int IntKind.i64)) l0, .l (Ty.pair (Ty.int IntKind.u8) (Ty.int IntKind.i64)) l1] =>
    (.node ((↑(List.length l0) : Int) != (↑(List.length l1) : Int))
     (.leaf ((0, [.b false])))
     (let r1 : Option (Nat × List Dat) := (op_L60_4 [.l (Ty.pair (Ty.int IntKind.u8) (Ty.int IntKind.i64)) l1, .l (Ty.pair (Ty.int IntKind.u8) (Ty.int IntKind.i64)) l0, .n (↑(List.length l0) : Int), .n (0 : Int)]);
      (.node (isK 0 [] r1)
       (.leaf ((0, [.b true])))
       (.node (isK 1 [HK.b] r1)
        (.leaf ((0, [.b (gb (dOf r1) 0)])))
        (.bad 351)))))
  | _ => .bad 0
def op_60 : List Dat → Option (Nat × List Dat) := fun env => (fn_60 env).sel
def B60 : FBox := (mkF [.imm TCmd 0, .imm TCmd 1] [] [] [(.bool 0, [])] op_60)
def cs_60 : FuncId → Option CSpec := csLend 22 B60 cs_28
theorem fn_60_eq (l0 : List (Ty.den (Ty.pair (Ty.int IntKind.u8) (Ty.int IntKind.i64)))) (l1 : List (Ty.den (Ty.pair (Ty.int IntKind.u8) (Ty.int IntKind.i64)))) : (boxC false Try.prog cs_28 22 (lsTab [(4, L60_4)] (List.length ([] : List PB))) (mkF [.imm TCmd 0, .imm TCmd 1] [] [] [(.bool 0, [])] fun _ => none) [.l (Ty.pair (Ty.int IntKind.u8) (Ty.int IntKind.i64)) l0, .l (Ty.pair (Ty.int IntKind.u8) (Ty.int IntKind.i64)) l1]).sel = (fn_60 [.l (Ty.pair (Ty.int IntKind.u8) (Ty.int IntKind.i64)) l0, .l (Ty.pair (Ty.int IntKind.u8) (Ty.int IntKind.i64)) l1]).sel := by kernel_rfl
theorem fn_60_ok (env : List Dat) (y : Nat × List Dat) (h : (fn_60 env).sel = some y) : (boxC false Try.prog cs_28 22 (lsTab [(4, L60_4)] (List.length ([] : List PB))) (mkF [.imm TCmd 0, .imm TCmd 1] [] [] [(.bool 0, [])] fun _ => none) env).sel = some y := by
  unfold fn_60 at h
  split at h
  · rw [fn_60_eq]; exact h
  · cases h
theorem B60_ok : RunOk Try.prog 22 (boxRun B60) := mkF_ok (op := op_60) cs_28_ok hmix false (L60_4_ok _) fn_60_ok
theorem cs_60_ok : CsOk Try.prog cs_60 := csLend_ok cs_28_ok B60_ok

def fn_L61_4 : List Dat → Tree Step
  | [.l (Ty.pair (Ty.int IntKind.u8) (Ty.int IntKind.i64)) l0, .l (Ty.pair (Ty.int IntKind.u8) (Ty.int IntKind.i64)) l1, .n n2] =>
    (.node (decide (n2 < (↑(List.length l0) : Int)))
     (.node (inR n2 (List.length l0))
      (.node (inR n2 (List.length l1))
       (.node (!(Prod.fst (List.getD l0 (Int.toNat n2) (Ty.dflt (Ty.pair (Ty.int IntKind.u8) (Ty.int IntKind.i64)))) == Prod.fst (List.getD l1 (Int.toNat n2) (Ty.dflt (Ty.pair (Ty.int IntKind.u8) (Ty.int IntKind.i64)))) && (Prod.snd (List.getD l0 (Int.toNat n2) (Ty.dflt (Ty.pair (Ty.int IntKind.u8) (Ty.int IntKind.i64)))) == Prod.snd (List.getD l1 (Int.toNat n2) (Ty.dflt (Ty.pair (Ty.int IntKind.u8) (Ty.int IntKind.i64)))) && true)))
        (.leaf (Step.stop 1 [.b false]))
        (.leaf (Step.go [.l (Ty.pair (Ty.int IntKind.u8) (Ty.int IntKind.i64)) l0, .l (Ty.pair (Ty.int IntKind.u8) (Ty.int IntKind.i64)) l1, .n (IntKind.wrap .i64 (n2 + (1 : Int)))])))
       (.bad 10))
      (.bad 10))
     (.leaf (Step.stop 0 [])))
  | _ => .bad 0
def op_L61_4 : List Dat → Option (Nat × List Dat) := iterS fn_L61_4 FU
def L61_4 : LBox := (mkL 0 [] (sh 26 [(0, .imm TCmd 0), (1, .imm TCmd 1), (5, .int .i64 2)]) [] [] [(.exit 0, sh 26 [], []), (.ret, sh 26 [(4, .bool 0)], [])] op_L61_4)
theorem fn_L61_4_eq (l0 : List (Ty.den (Ty.pair (Ty.int IntKind.u8) (Ty.int IntKind.i64)))) (l1 : List (Ty.den (Ty.pair (Ty.int IntKind.u8) (Ty.int IntKind.i64)))) (n2 : Int) : (stepC false Try.prog cs_60 24 4 ls0 (mkL 0 [] (sh 26 [(0, .imm TCmd 0), (1, .imm TCmd 1), (5, .int .i64 2)]) [] [] [(.exit 0, sh 26 [], []), (.ret, sh 26 [(4, .bool 0)], [])] fun _ => none) [.l (Ty.pair (Ty.int IntKind.u8) (Ty.int IntKind.i64)) l0, .l (Ty.pair (Ty.int IntKind.u8) (Ty.int IntKind.i64)) l1, .n n2]).sel = (fn_L61_4 [.l (Ty.pair (Ty.int IntKind.u8) (Ty.int IntKind.i64)) l0, .l (Ty.pair (Ty.int IntKind.u8) (Ty.int IntKind.i64)) l1, .n n2]).sel := by kernel_rfl
theorem fn_L61_4_ok (env : List Dat) (y : Step) (h : (fn_L61_4 env).sel = some y) : (stepC false Try.prog cs_60 24 4 ls0 (mkL 0 [] (sh 26 [(0, .imm TCmd 0), (1, .imm TCmd 1), (5, .int .i64 2)]) [] [] [(.exit 0, sh 26 [], []), (.ret, sh 26 [(4, .bool 0)], [])] fun _ => none) env).sel = some y := by
  unfold fn_L61_4 at h
  split at h
  · rw [fn_L61_4_eq]; exact h
  · cases h
theorem L61_4_ok (K : Nat) : LsOk Try.prog K (lsTab [(4, L61_4)] K) (bodyOf Try.prog 24) := mkL_ok (st := fn_L61_4) (m := FU) cs_60_ok hmix false (by kernel_rfl) (by kernel_rfl) fn_L61_4_ok
theorem L61_4_run : ∀ t s x, (loopRun L61_4 t s).sel = some x → CodeOk Try.prog 0 (.loop (cAt Try.prog 24 4)) t s x := mkLs_ok (st := fn_L61_4) (m := FU) cs_60_ok hmix false (LsOk.none _ _ _) (by kernel_rfl) fn_L61_4_ok

def fn_61 : List Dat → Tree (Nat × List Dat)
  | [.l (Ty.pair (Ty.int IntKind.u8) (Ty.int IntKind.i64)) l0, .l (Ty.pair (Ty.int IntKind.u8) (Ty.int IntKind.i64)) l1] =>
    (.node ((↑(List.length l0) : Int) != (↑(List.length l1) : Int))
     (.leaf ((0, [.b false])))
     (let r1 : Option (Nat × List Dat) := (op_L61_4 [.l (Ty.pair (Ty.int IntKind.u8) (Ty.int IntKind.i64)) l0, .l (Ty.pair (Ty.int IntKind.u8) (Ty.int IntKind.i64)) l1, .n (0 : Int)]);
      (.node (isK 0 [] r1)
       (.leaf ((0, [.b true])))
       (.node (isK 1 [HK.b] r1)
        (.leaf ((0, [.b (gb (dOf r1) 0)])))
        (.bad 351)))))
  | _ => .bad 0
def op_61 : List Dat → Option (Nat × List Dat) := fun env => (fn_61 env).sel
def B61 : FBox := (mkF [.imm TCmd 0, .imm TCmd 1] [] [] [(.bool 0, [])] op_61)
def cs_61 : FuncId → Option CSpec := csLend 24 B61 cs_60
theorem fn_61_eq (l0 : List (Ty.den (Ty.pair (Ty.int IntKind.u8) (Ty.int IntKind.i64)))) (l1 : List (Ty.den (Ty.pair (Ty.int IntKind.u8) (Ty.int IntKind.i64)))) : (boxC false Try.prog cs_60 24 (lsTab [(4, L61_4)] (List.length ([] : List PB))) (mkF [.imm TCmd 0, .imm TCmd 1] [] [] [(.bool 0, [])] fun _ => none) [.l (Ty.pair (Ty.int IntKind.u8) (Ty.int IntKind.i64)) l0, .l (Ty.pair (Ty.int IntKind.u8) (Ty.int IntKind.i64)) l1]).sel = (fn_61 [.l (Ty.pair (Ty.int IntKind.u8) (Ty.int IntKind.i64)) l0, .l (Ty.pair (Ty.int IntKind.u8) (Ty.int IntKind.i64)) l1]).sel := by kernel_rfl
theorem fn_61_ok (env : List Dat) (y : Nat × List Dat) (h : (fn_61 env).sel = some y) : (boxC false Try.prog cs_60 24 (lsTab [(4, L61_4)] (List.length ([] : List PB))) (mkF [.imm TCmd 0, .imm TCmd 1] [] [] [(.bool 0, [])] fun _ => none) env).sel = some y := by
  unfold fn_61 at h
  split at h
  · rw [fn_61_eq]; exact h
  · cases h
theorem B61_ok : RunOk Try.prog 24 (boxRun B61) := mkF_ok (op := op_61) cs_60_ok hmix false (L61_4_ok _) fn_61_ok
theorem cs_61_ok : CsOk Try.prog cs_61 := csLend_ok cs_60_ok B61_ok

def fn_29 : List Dat → Tree (Nat × List Dat)
  | [.n n0, .n n1, .n n2, .l (Ty.pair (Ty.int IntKind.u8) (Ty.int IntKind.i64)) l3, .n n4, .n n5, .n n6, .l (Ty.pair (Ty.int IntKind.u8) (Ty.int IntKind.i64)) l7] =>
    (.node (n0 == n4)
     (.node (n1 == n5)
      (.node (n2 == n6)
       (let r1 : Option (Nat × List Dat) := (op_60 [.l (Ty.pair (Ty.int IntKind.u8) (Ty.int IntKind.i64)) l3, .l (Ty.pair (Ty.int IntKind.u8) (Ty.int IntKind.i64)) l7]);
        (.node (isK 0 [HK.b] r1)
         (.leaf ((0, [.b (gb (dOf r1) 0)])))
         (.bad 351)))
       (.leaf ((0, [.b false]))))
      (.leaf ((0, [.b false]))))
     (.leaf ((0, [.b false]))))
  | _ => .bad 0
def op_29 : List Dat → Option (Nat × List Dat) := fun env => (fn_29 env).sel
def B29 : FBox := (mkF [inV 0, inV 4] [] [] [(.bool 0, [])] op_29)
def cs_29 : FuncId → Option CSpec := csLend 17 B29 cs_61
theorem fn_29_eq (n0 : Int) (n1 : Int) (n2 : Int) (l3 : List (Ty.den (Ty.pair (Ty.int IntKind.u8) (Ty.int IntKind.i64)))) (n4 : Int) (n5 : Int) (n6 : Int) (l7 : List (Ty.den (Ty.pair (Ty.int IntKind.u8) (Ty.int IntKind.i64)))) : (boxC false Try.prog cs_61 17 ls0 (mkF [inV 0, inV 4] [] [] [(.bool 0, [])] fun _ => none) [.n n0, .n n1, .n n2, .l (Ty.pair (Ty.int IntKind.u8) (Ty.int IntKind.i64)) l3, .n n4, .n n5, .n n6, .l (Ty.pair (Ty.int IntKind.u8) (Ty.int IntKind.i64)) l7]).sel = (fn_29 [.n n0, .n n1, .n n2, .l (Ty.pair (Ty.int IntKind.u8) (Ty.int IntKind.i64)) l3, .n n4, .n n5, .n n6, .l (Ty.pair (Ty.int IntKind.u8) (Ty.int IntKind.i64)) l7]).sel := by kernel_rfl
theorem fn_29_ok (env : List Dat) (y : Nat × List Dat) (h : (fn_29 env).sel = some y) : (boxC false Try.prog cs_61 17 ls0 (mkF [inV 0, inV 4] [] [] [(.bool 0, [])] fun _ => none) env).sel = some y := by
  unfold fn_29 at h
  split at h
  · rw [fn_29_eq]; exact h
  · cases h
theorem B29_ok : RunOk Try.prog 17 (boxRun B29) := mkF_ok (op := op_29) cs_61_ok hmix false (LsOk.none _ _ _) fn_29_ok
theorem cs_29_ok : CsOk Try.prog cs_29 := csLend_ok cs_61_ok B29_ok

def fn_30 : List Dat → Tree (Nat × List Dat)
  | [.n n0, .n n1, .n n2, .l (Ty.pair (Ty.int IntKind.u8) (Ty.int IntKind.i64)) l3, .n n4, .n n5, .n n6, .l (Ty.pair (Ty.int IntKind.u8) (Ty.int IntKind.i64)) l7] =>
    (.node (n0 == n4)
     (.node (n1 == n5)
      (.node (n2 == n6)
       (let r1 : Option (Nat × List Dat) := (op_61 [.l (Ty.pair (Ty.int IntKind.u8) (Ty.int IntKind.i64)) l3, .l (Ty.pair (Ty.int IntKind.u8) (Ty.int IntKind.i64)) l7]);
        (.node (isK 0 [HK.b] r1)
         (.leaf ((0, [.b (gb (dOf r1) 0)])))
         (.bad 351)))
       (.leaf ((0, [.b false]))))
      (.leaf ((0, [.b false]))))
     (.leaf ((0, [.b false]))))
  | _ => .bad 0
def op_30 : List Dat → Option (Nat × List Dat) := fun env => (fn_30 env).sel
def B30 : FBox := (mkF [inV 0, inV 4] [] [] [(.bool 0, [])] op_30)
def cs_30 : FuncId → Option CSpec := csLend 14 B30 cs_29
theorem fn_30_eq (n0 : Int) (n1 : Int) (n2 : Int) (l3 : List (Ty.den (Ty.pair (Ty.int IntKind.u8) (Ty.int IntKind.i64)))) (n4 : Int) (n5 : Int) (n6 : Int) (l7 : List (Ty.den (Ty.pair (Ty.int IntKind.u8) (Ty.int IntKind.i64)))) : (boxC false Try.prog cs_29 14 ls0 (mkF [inV 0, inV 4] [] [] [(.bool 0, [])] fun _ => none) [.n n0, .n n1, .n n2, .l (Ty.pair (Ty.int IntKind.u8) (Ty.int IntKind.i64)) l3, .n n4, .n n5, .n n6, .l (Ty.pair (Ty.int IntKind.u8) (Ty.int IntKind.i64)) l7]).sel = (fn_30 [.n n0, .n n1, .n n2, .l (Ty.pair (Ty.int IntKind.u8) (Ty.int IntKind.i64)) l3, .n n4, .n n5, .n n6, .l (Ty.pair (Ty.int IntKind.u8) (Ty.int IntKind.i64)) l7]).sel := by kernel_rfl
theorem fn_30_ok (env : List Dat) (y : Nat × List Dat) (h : (fn_30 env).sel = some y) : (boxC false Try.prog cs_29 14 ls0 (mkF [inV 0, inV 4] [] [] [(.bool 0, [])] fun _ => none) env).sel = some y := by
  unfold fn_30 at h
  split at h
  · rw [fn_30_eq]; exact h
  · cases h
theorem B30_ok : RunOk Try.prog 14 (boxRun B30) := mkF_ok (op := op_30) cs_29_ok hmix false (LsOk.none _ _ _) fn_30_ok
theorem cs_30_ok : CsOk Try.prog cs_30 := csLend_ok cs_29_ok B30_ok

def okc_62 (l : List (Ty.den TCmd)) : Bool := decide ((0 + l.length) * 16 ≤ 140737488355328)
def op_62 : List Dat → Option (Nat × List Dat) := cloneOp TCmd okc_62
def B62 : FBox := mkF [.imm TCmd 0] [] [] [(.own 0, [.arr TCmd 0])] op_62
def cs_62 : FuncId → Option CSpec := csLend 23 B62 cs_30
theorem B62_ok : RunOk Try.prog 23 (boxRun B62) :=
  clone_ok (P := Try.prog) (cl := clMd true Try.prog csNone) (clMd_ok csNone_ok0 hmix true) hmix (T := 30) (e := 38) (n := 400) (fn := Try.f23) (by kernel_rfl) (by kernel_rfl) (by kernel_rfl) (by kernel_rfl) TCmd okc_62
    (fun l => [.imm TCmd l, .undef, .nilsl, .undef, .undef, .undef, .undef, .undef]) (fun l => [.imm TCmd l, .undef, .nilsl, .imm TCmd l, .bool true, .undef, .undef, .undef])
    (fun l => [.imm TCmd l, .undef, .own 0 1, .imm TCmd l, .bool false, .own 0 0, .imm TCmd l, .own 0 1]) (fun l => ⟨[.arr TCmd 1 l], [0]⟩) (fun l => .own 0 1)
    (fun l => by kernel_rfl) (fun l => rfl) (fun l => rfl) (fun l => by kernel_rfl) (fun l => by kernel_rfl) (fun l => by kernel_rfl) (fun l => by kernel_rfl) (fun l => by kernel_rfl) (fun l => by kernel_rfl) (by kernel_rfl)
theorem cs_62_ok : CsOk Try.prog cs_62 := csLend_ok cs_30_ok B62_ok
theorem op_62_is (l : List (Ty.den TCmd)) (h : l.length * 16 ≤ 140737488355328) : op_62 [.l TCmd l] = some (0, [.l TCmd l]) := by
  unfold op_62 cloneOp
  simp only [castL_self]
  have : okc_62 l = true := decide_eq_true (by omega)
  rw [this]; rfl

def fn_31 : List Dat → Tree (Nat × List Dat)
  | [.n n0, .n n1, .n n2, .l (Ty.pair (Ty.int IntKind.u8) (Ty.int IntKind.i64)) l3, .n n4, .n n5, .n n6, .l (Ty.pair (Ty.int IntKind.u8) (Ty.int IntKind.i64)) l7] =>
    (let r1 : Option (Nat × List Dat) := (op_60 [.l (Ty.pair (Ty.int IntKind.u8) (Ty.int IntKind.i64)) l3, .l (Ty.pair (Ty.int IntKind.u8) (Ty.int IntKind.i64)) l7]);
     (.node (isK 0 [HK.b] r1)
      (.node (gb (dOf r1) 0)
       (let r2 : Option (Nat × List Dat) := (op_62 [.l (Ty.pair (Ty.int IntKind.u8) (Ty.int IntKind.i64)) l3]);
        (.node (isK 0 [HK.l (Ty.pair (Ty.int IntKind.u8) (Ty.int IntKind.i64))] r2)
         (.leaf ((0, [.n (ior IntKind.u64 n0 n4), .n (iand IntKind.u32 n1 n5), .n (iand IntKind.u32 n2 n6), .l (Ty.pair (Ty.int IntKind.u8) (Ty.int IntKind.i64)) (gl (Ty.pair (Ty.int IntKind.u8) (Ty.int IntKind.i64)) (dOf r2) 0)])))
         (.bad 351)))
       (.leaf ((0, [.n (ior IntKind.u64 n0 n4), .n (iand IntKind.u32 n1 n5), .n (iand IntKind.u32 n2 n6), .l (Ty.pair (Ty.int IntKind.u8) (Ty.int IntKind.i64)) []]))))
      (.bad 351)))
  | _ => .bad 0
def op_31 : List Dat → Option (Nat × List Dat) := fun env => (fn_31 env).sel
def B31 : FBox := (mkF [inV 0, inV 4] [] [] [(inO 0 0, [.arr TCmd 3])] op_31)
def cs_31 : FuncId → Option CSpec := csLend 12 B31 cs_62
theorem fn_31_eq (n0 : Int) (n1 : Int) (n2 : Int) (l3 : List (Ty.den (Ty.pair (Ty.int IntKind.u8) (Ty.int IntKind.i64)))) (n4 : Int) (n5 : Int) (n6 : Int) (l7 : List (Ty.den (Ty.pair (Ty.int IntKind.u8) (Ty.int IntKind.i64)))) : (boxCN [(3, TCmd)] false Try.prog cs_62 12 ls0 (mkF [inV 0, inV 4] [] [] [(inO 0 0, [.arr TCmd 3])] fun _ => none) [.n n0, .n n1, .n n2, .l (Ty.pair (Ty.int IntKind.u8) (Ty.int IntKind.i64)) l3, .n n4, .n n5, .n n6, .l (Ty.pair (Ty.int IntKind.u8) (Ty.int IntKind.i64)) l7]).sel = (fn_31 [.n n0, .n n1, .n n2, .l (Ty.pair (Ty.int IntKind.u8) (Ty.int IntKind.i64)) l3, .n n4, .n n5, .n n6, .l (Ty.pair (Ty.int IntKind.u8) (Ty.int IntKind.i64)) l7]).sel := by kernel_rfl
theorem fn_31_ok (env : List Dat) (y : Nat × List Dat) (h : (fn_31 env).sel = some y) : (boxCN [(3, TCmd)] false Try.prog cs_62 12 ls0 (mkF [inV 0, inV 4] [] [] [(inO 0 0, [.arr TCmd 3])] fun _ => none) env).sel = some y := by
  unfold fn_31 at h
  split at h
  · rw [fn_31_eq]; exact h
  · cases h
theorem B31_ok : RunOk Try.prog 12 (boxRun B31) := mkFN_ok (nils := [(3, TCmd)]) (op := op_31) cs_62_ok hmix false (LsOk.none _ _ _) fn_31_ok
theorem cs_31_ok : CsOk Try.prog cs_31 := csLend_ok cs_62_ok B31_ok

def fn_32 : List Dat → Tree (Nat × List Dat)
  | [.n n0, .n n1, .n n2, .l (Ty.pair (Ty.int IntKind.u8) (Ty.int IntKind.i64)) l3, .n n4, .n n5, .n n6, .l (Ty.pair (Ty.int IntKind.u8) (Ty.int IntKind.i64)) l7] =>
    (let r1 : Option (Nat × List Dat) := (op_61 [.l (Ty.pair (Ty.int IntKind.u8) (Ty.int IntKind.i64)) l3, .l (Ty.pair (Ty.int IntKind.u8) (Ty.int IntKind.i64)) l7]);
     (.node (isK 0 [HK.b] r1)
      (.node (gb (dOf r1) 0)
       (.node (decide (List.length l3 * 16 ≤ 140737488355328))
        (.leaf ((0, [.n (ior IntKind.u64 n0 n4), .n (iand IntKind.u32 n1 n5), .n (iand IntKind.u32 n2 n6), .l (Ty.pair (Ty.int IntKind.u8) (Ty.int IntKind.i64)) l3])))
        (.bad 60))
       (.leaf ((0, [.n (ior IntKind.u64 n0 n4), .n (iand IntKind.u32 n1 n5), .n (iand IntKind.u32 n2 n6), .l (Ty.pair (Ty.int IntKind.u8) (Ty.int IntKind.i64)) []]))))
      (.bad 351)))
  | _ => .bad 0
def op_32 : List Dat → Option (Nat × List Dat) := fun env => (fn_32 env).sel
def B32 : FBox := (mkF [inV 0, inV 4] [] [] [(inO 0 0, [.arr TCmd 3])] op_32)
def cs_32 : FuncId → Option CSpec := csLend 13 B32 cs_31
theorem fn_32_eq (n0 : Int) (n1 : Int) (n2 : Int) (l3 : List (Ty.den (Ty.pair (Ty.int IntKind.u8) (Ty.int IntKind.i64)))) (n4 : Int) (n5 : Int) (n6 : Int) (l7 : List (Ty.den (Ty.pair (Ty.int IntKind.u8) (Ty.int IntKind.i64)))) : (boxCN [(3, TCmd)] false Try.prog cs_31 13 ls0 (mkF [inV 0, inV 4] [] [] [(inO 0 0, [.arr TCmd 3])] fun _ => none) [.n n0, .n n1, .n n2, .l (Ty.pair (Ty.int IntKind.u8) (Ty.int IntKind.i64)) l3, .n n4, .n n5, .n n6, .l (Ty.pair (Ty.int IntKind.u8) (Ty.int IntKind.i64)) l7]).sel = (fn_32 [.n n0, .n n1, .n n2, .l (Ty.pair (Ty.int IntKind.u8) (Ty.int IntKind.i64)) l3, .n n4, .n n5, .n n6, .l (Ty.pair (Ty.int IntKind.u8) (Ty.int IntKind.i64)) l7]).sel := by kernel_rfl
theorem fn_32_ok (env : List Dat) (y : Nat × List Dat) (h : (fn_32 env).sel = some y) : (boxCN [(3, TCmd)] false Try.prog cs_31 13 ls0 (mkF [inV 0, inV 4] [] [] [(inO 0 0, [.arr TCmd 3])] fun _ => none) env).sel = some y := by
  unfold fn_32 at h
  split at h
  · rw [fn_32_eq]; exact h
  · cases h
theorem B32_ok : RunOk Try.prog 13 (boxRun B32) := mkFN_ok (nils := [(3, TCmd)]) (op := op_32) cs_31_ok hmix false (LsOk.none _ _ _) fn_32_ok
theorem cs_32_ok : CsOk Try.prog cs_32 := csLend_ok cs_31_ok B32_ok

def fn_35 : List Dat → Tree (Nat × List Dat)
  | [.n n0, .n n1, .n n2, .l (Ty.pair (Ty.int IntKind.u8) (Ty.int IntKind.i64)) l3, .n n4, .n n5, .n n6, .l (Ty.pair (Ty.int IntKind.u8) (Ty.int IntKind.i64)) l7] =>
    (.node (iand IntKind.u64 n0 n4 == n4)
     (.node (iand IntKind.u32 n1 n5 == n1)
      (.node (iand IntKind.u32 n2 n6 == n2)
       (.node ((↑(List.length l3) : Int) == (0 : Int))
        (.leaf ((0, [.b true])))
        (let r1 : Option (Nat × List Dat) := (op_61 [.l (Ty.pair (Ty.int IntKind.u8) (Ty.int IntKind.i64)) l3, .l (Ty.pair (Ty.int IntKind.u8) (Ty.int IntKind.i64)) l7]);
         (.node (isK 0 [HK.b] r1)
          (.leaf ((0, [.b (gb (dOf r1) 0)])))
          (.bad 351))))
       (.leaf ((0, [.b false]))))
      (.leaf ((0, [.b false]))))
     (.leaf ((0, [.b false]))))
  | _ => .bad 0
def op_35 : List Dat → Option (Nat × List Dat) := fun env => (fn_35 env).sel
def B35 : FBox := (mkF [inV 0, inV 4] [] [] [(.bool 0, [])] op_35)
def cs_35 : FuncId → Option CSpec := csLend 18 B35 cs_32
theorem fn_35_eq (n0 : Int) (n1 : Int) (n2 : Int) (l3 : List (Ty.den (Ty.pair (Ty.int IntKind.u8) (Ty.int IntKind.i64)))) (n4 : Int) (n5 : Int) (n6 : Int) (l7 : List (Ty.den (Ty.pair (Ty.int IntKind.u8) (Ty.int IntKind.i64)))) : (boxC false Try.prog cs_32 18 ls0 (mkF [inV 0, inV 4] [] [] [(.bool 0, [])] fun _ => none) [.n n0, .n n1, .n n2, .l (Ty.pair (Ty.int IntKind.u8) (Ty.int IntKind.i64)) l3, .n n4, .n n5, .n n6, .l (Ty.pair (Ty.int IntKind.u8) (Ty.int IntKind.i64)) l7]).sel = (fn_35 [.n n0, .n n1, .n n2, .l (Ty.pair (Ty.int IntKind.u8) (Ty.int IntKind.i64)) l3, .n n4, .n n5, .n n6, .l (Ty.pair (Ty.int IntKind.u8) (Ty.int IntKind.i64)) l7]).sel := by kernel_rfl
theorem fn_35_ok (env : List Dat) (y : Nat × List Dat) (h : (fn_35 env).sel = some y) : (boxC false Try.prog cs_32 18 ls0 (mkF [inV 0, inV 4] [] [] [(.bool 0, [])] fun _ => none) env).sel = some y := by
  unfold fn_35 at h
  split at h
  · rw [fn_35_eq]; exact h
  · cases h
theorem B35_ok : RunOk Try.prog 18 (boxRun B35) := mkF_ok (op := op_35) cs_32_ok hmix false (LsOk.none _ _ _) fn_35_ok
theorem cs_35_ok : CsOk Try.prog cs_35 := csLend_ok cs_32_ok B35_ok

def fn_63 : List Dat → Tree (Nat × List Dat)
  | [.n n0, .n n1, .n n2] =>
    (.node (n0 == (1 : Int))
     (.leaf ((0, [.n n2])))
     (.node (n0 == (2 : Int))
      (.leaf ((0, [.n n2])))
      (.node (n0 == (3 : Int))
       (.leaf ((0, [.n n1])))
       (.leaf ((0, [.n (0 : Int)]))))))
  | _ => .bad 0
def op_63 : List Dat → Option (Nat × List Dat) := fun env => (fn_63 env).sel
def B63 : FBox := (mkF [.int .u8 0, .int .i64 1, .int .i64 2] [] [] [(.int .i64 0, [])] op_63)
def cs_63 : FuncId → Option CSpec := csLend 20 B63 cs_35
def fr_63 : List Dat → Tree (Nat × List Dat)
  | [.n n0, .n n1, .n n2] =>
    (.node (n0 == (1 : Int))
     (.node (n0 == (1 : Int))
      (.leaf ((0, [.n n2])))
      (.node (n0 == (3 : Int))
       (.leaf ((0, [.n n1])))
       (.leaf ((0, [.n (0 : Int)])))))
     (.node (n0 == (2 : Int))
      (.leaf ((0, [.n n2])))
      (.node (n0 == (3 : Int))
       (.leaf ((0, [.n n1])))
       (.leaf ((0, [.n (0 : Int)]))))))
  | _ => .bad 0
theorem fr_63_eq (n0 : Int) (n1 : Int) (n2 : Int) : (boxC false Try.prog cs_35 20 ls0 (mkF [.int .u8 0, .int .i64 1, .int .i64 2] [] [] [(.int .i64 0, [])] fun _ => none) [.n n0, .n n1, .n n2]).sel = (fr_63 [.n n0, .n n1, .n n2]).sel := by kernel_rfl
theorem fr_63_pr (n0 : Int) (n1 : Int) (n2 : Int) : (fr_63 [.n n0, .n n1, .n n2]).sel = (fn_63 [.n n0, .n n1, .n n2]).sel := (sel_c (fun h0 => (sel_t h0 rfl)) (fun _ => rfl))
theorem fn_63_eq (n0 : Int) (n1 : Int) (n2 : Int) : (boxC false Try.prog cs_35 20 ls0 (mkF [.int .u8 0, .int .i64 1, .int .i64 2] [] [] [(.int .i64 0, [])] fun _ => none) [.n n0, .n n1, .n n2]).sel = (fn_63 [.n n0, .n n1, .n n2]).sel := (fr_63_eq n0 n1 n2).trans (fr_63_pr n0 n1 n2)
theorem fn_63_ok (env : List Dat) (y : Nat × List Dat) (h : (fn_63 env).sel = some y) : (boxC false Try.prog cs_35 20 ls0 (mkF [.int .u8 0, .int .i64 1, .int .i64 2] [] [] [(.int .i64 0, [])] fun _ => none) env).sel = some y := by
  unfold fn_63 at h
  split at h
  · rw [fn_63_eq]; exact h
  · cases h
theorem B63_ok : RunOk Try.prog 20 (boxRun B63) := mkF_ok (op := op_63) cs_35_ok hmix false (LsOk.none _ _ _) fn_63_ok
theorem cs_63_ok : CsOk Try.prog cs_63 := csLend_ok cs_35_ok B63_ok

def fn_L53_3 : List Dat → Tree Step
  | [.n n0, .n n1, .n n2] =>
    (.node (decide (n2 < n0))
     (.leaf (Step.go [.n n0, .n (IntKind.wrap .u64 (n1 * (2 : Int))), .n (IntKind.wrap .i64 (n2 + (1 : Int)))]))
     (.leaf (Step.stop 0 [.n n1])))
  | _ => .bad 0
def op_L53_3 : List Dat → Option (Nat × List Dat) := iterS fn_L53_3 FU
def L53_3 : LBox := (mkL 0 [] (sh 13 [(0, .int .i64 0), (3, .int .u64 1), (4, .int .i64 2)]) [] [] [(.exit 0, sh 13 [(3, .int .u64 0)], [])] op_L53_3)
theorem fn_L53_3_eq (n0 : Int) (n1 : Int) (n2 : Int) : (stepC false Try.prog cs_63 27 3 ls0 (mkL 0 [] (sh 13 [(0, .int .i64 0), (3, .int .u64 1), (4, .int .i64 2)]) [] [] [(.exit 0, sh 13 [(3, .int .u64 0)], [])] fun _ => none) [.n n0, .n n1, .n n2]).sel = (fn_L53_3 [.n n0, .n n1, .n n2]).sel := by kernel_rfl
theorem fn_L53_3_ok (env : List Dat) (y : Step) (h : (fn_L53_3 env).sel = some y) : (stepC false Try.prog cs_63 27 3 ls0 (mkL 0 [] (sh 13 [(0, .int .i64 0), (3, .int .u64 1), (4, .int .i64 2)]) [] [] [(.exit 0, sh 13 [(3, .int .u64 0)], [])] fun _ => none) env).sel = some y := by
  unfold fn_L53_3 at h
  split at h
  · rw [fn_L53_3_eq]; exact h
  · cases h
theorem L53_3_ok (K : Nat) : LsOk Try.prog K (lsTab [(3, L53_3)] K) (bodyOf Try.prog 27) := mkL_ok (st := fn_L53_3) (m := FU) cs_63_ok hmix false (by kernel_rfl) (by kernel_rfl) fn_L53_3_ok
theorem L53_3_run : ∀ t s x, (loopRun L53_3 t s).sel = some x → CodeOk Try.prog 0 (.loop (cAt Try.prog 27 3)) t s x := mkLs_ok (st := fn_L53_3) (m := FU) cs_63_ok hmix false (LsOk.none _ _ _) (by kernel_rfl) fn_L53_3_ok

def fn_53 : List Dat → Tree (Nat × List Dat)
  | [.n n0] =>
    (let r1 : Option (Nat × List Dat) := (op_L53_3 [.n n0, .n (1 : Int), .n (0 : Int)]);
     (.node (isK 0 [HK.n] r1)
      (.leaf ((0, [.n (gn (dOf r1) 0)])))
      (.bad 351)))
  | _ => .bad 0
def op_53 : List Dat → Option (Nat × List Dat) := fun env => (fn_53 env).sel
def B53 : FBox := (mkF [.int .i64 0] [] [] [(.int .u64 0, [])] op_53)
def cs_53 : FuncId → Option CSpec := csLend 27 B53 cs_63
theorem fn_53_eq (n0 : Int) : (boxC false Try.prog cs_63 27 (lsTab [(3, L53_3)] (List.length ([] : List PB))) (mkF [.int .i64 0] [] [] [(.int .u64 0, [])] fun _ => none) [.n n0]).sel = (fn_53 [.n n0]).sel := by kernel_rfl
theorem fn_53_ok (env : List Dat) (y : Nat × List Dat) (h : (fn_53 env).sel = some y) : (boxC false Try.prog cs_63 27 (lsTab [(3, L53_3)] (List.length ([] : List PB))) (mkF [.int .i64 0] [] [] [(.int .u64 0, [])] fun _ => none) env).sel = some y := by
  unfold fn_53 at h
  split at h
  · rw [fn_53_eq]; exact h
  · cases h
theorem B53_ok : RunOk Try.prog 27 (boxRun B53) := mkF_ok (op := op_53) cs_63_ok hmix false (L53_3_ok _) fn_53_ok
theorem cs_53_ok : CsOk Try.prog cs_53 := csLend_ok cs_63_ok B53_ok

def fn_16 : List Dat → Tree (Nat × List Dat)
  | [.n n0, .n n1] =>
    (.node (decide (n1 ≥ (0 : Int)))
     (.node (decide (n1 ≤ (63 : Int)))
      (let r1 : Option (Nat × List Dat) := (op_53 [.n n1]);
       (.node (isK 0 [HK.n] r1)
        (.node (!decide (gn (dOf r1) 0 = (0 : Int)))
         (.leaf ((0, [.b (Int.tmod (IntKind.wrap .u64 (Int.tdiv n0 (gn (dOf r1) 0))) (2 : Int) == (1 : Int))])))
         (.bad 80))
        (.bad 351)))
      (.leaf ((0, [.b false]))))
     (.leaf ((0, [.b false]))))
  | _ => .bad 0
def op_16 : List Dat → Option (Nat × List Dat) := fun env => (fn_16 env).sel
def B16 : FBox := (mkF [.int .u64 0, .int .i64 1] [] [] [(.bool 0, [])] op_16)
def cs_16 : FuncId → Option CSpec := csLend 26 B16 cs_53
theorem fn_16_eq (n0 : Int) (n1 : Int) : (boxC false Try.prog cs_53 26 ls0 (mkF [.int .u64 0, .int .i64 1] [] [] [(.bool 0, [])] fun _ => none) [.n n0, .n n1]).sel = (fn_16 [.n n0, .n n1]).sel := by kernel_rfl
theorem fn_16_ok (env : List Dat) (y : Nat × List Dat) (h : (fn_16 env).sel = some y) : (boxC false Try.prog cs_53 26 ls0 (mkF [.int .u64 0, .int .i64 1] [] [] [(.bool 0, [])] fun _ => none) env).sel = some y := by
  unfold fn_16 at h
  split at h
  · rw [fn_16_eq]; exact h
  · cases h
theorem B16_ok : RunOk Try.prog 26 (boxRun B16) := mkF_ok (op := op_16) cs_53_ok hmix false (LsOk.none _ _ _) fn_16_ok
theorem cs_16_ok : CsOk Try.prog cs_16 := csLend_ok cs_53_ok B16_ok

def fn_18 : List Dat → Tree (Nat × List Dat)
  | [.n n0, .n n1] =>
    (.node (decide (n1 < (0 : Int)))
     (.leaf ((0, [.n n0])))
     (.node (decide (n1 > (63 : Int)))
      (.leaf ((0, [.n n0])))
      (let r1 : Option (Nat × List Dat) := (op_16 [.n n0, .n n1]);
       (.node (isK 0 [HK.b] r1)
        (.node (gb (dOf r1) 0)
         (.leaf ((0, [.n n0])))
         (let r2 : Option (Nat × List Dat) := (op_53 [.n n1]);
          (.node (isK 0 [HK.n] r2)
           (.leaf ((0, [.n (IntKind.wrap .u64 (n0 + gn (dOf r2) 0))])))
           (.bad 351))))
        (.bad 351)))))
  | _ => .bad 0
def op_18 : List Dat → Option (Nat × List Dat) := fun env => (fn_18 env).sel
def B18 : FBox := (mkF [.int .u64 0, .int .i64 1] [] [] [(.int .u64 0, [])] op_18)
def cs_18 : FuncId → Option CSpec := csLend 25 B18 cs_16
theorem fn_18_eq (n0 : Int) (n1 : Int) : (boxC false Try.prog cs_16 25 ls0 (mkF [.int .u64 0, .int .i64 1] [] [] [(.int .u64 0, [])] fun _ => none) [.n n0, .n n1]).sel = (fn_18 [.n n0, .n n1]).sel := by kernel_rfl
theorem fn_18_ok (env : List Dat) (y : Nat × List Dat) (h : (fn_18 env).sel = some y) : (boxC false Try.prog cs_16 25 ls0 (mkF [.int .u64 0, .int .i64 1] [] [] [(.int .u64 0, [])] fun _ => none) env).sel = some y := by
  unfold fn_18 at h
  split at h
  · rw [fn_18_eq]; exact h
  · cases h
theorem B18_ok : RunOk Try.prog 25 (boxRun B18) := mkF_ok (op := op_18) cs_16_ok hmix false (LsOk.none _ _ _) fn_18_ok
theorem cs_18_ok : CsOk Try.prog cs_18 := csLend_ok cs_16_ok B18_ok

def fn_L25_3 : List Dat → Tree Step
  | [.n n0, .n n1, .n n2] =>
    (.node (decide (n2 < n0))
     (.node (decide (n2 < (64 : Int)))
      (let r1 : Option (Nat × List Dat) := (op_18 [.n n1, .n n2]);
       (.node (isK 0 [HK.n] r1)
        (.leaf (Step.go [.n n0, .n (gn (dOf r1) 0), .n (IntKind.wrap .i64 (n2 + (1 : Int)))]))
        (.bad 351)))
      (.leaf (Step.stop 0 [.n n1])))
     (.leaf (Step.stop 0 [.n n1])))
  | _ => .bad 0
def op_L25_3 : List Dat → Option (Nat × List Dat) := iterS fn_L25_3 FU
def L25_3 : LBox := (mkL 0 [] (sh 18 [(0, .int .i64 0), (3, .int .u64 1), (4, .int .i64 2)]) [] [] [(.exit 0, sh 18 [(3, .int .u64 0)], [])] op_L25_3)
theorem fn_L25_3_eq (n0 : Int) (n1 : Int) (n2 : Int) : (stepC false Try.prog cs_18 21 3 ls0 (mkL 0 [] (sh 18 [(0, .int .i64 0), (3, .int .u64 1), (4, .int .i64 2)]) [] [] [(.exit 0, sh 18 [(3, .int .u64 0)], [])] fun _ => none) [.n n0, .n n1, .n n2]).sel = (fn_L25_3 [.n n0, .n n1, .n n2]).sel := by kernel_rfl
theorem fn_L25_3_ok (env : List Dat) (y : Step) (h : (fn_L25_3 env).sel = some y) : (stepC false Try.prog cs_18 21 3 ls0 (mkL 0 [] (sh 18 [(0, .int .i64 0), (3, .int .u64 1), (4, .int .i64 2)]) [] [] [(.exit 0, sh 18 [(3, .int .u64 0)], [])] fun _ => none) env).sel = some y := by
  unfold fn_L25_3 at h
  split at h
  · rw [fn_L25_3_eq]; exact h
  · cases h
theorem L25_3_ok (K : Nat) : LsOk Try.prog K (lsTab [(3, L25_3)] K) (bodyOf Try.prog 21) := mkL_ok (st := fn_L25_3) (m := FU) cs_18_ok hmix false (by kernel_rfl) (by kernel_rfl) fn_L25_3_ok
theorem L25_3_run : ∀ t s x, (loopRun L25_3 t s).sel = some x → CodeOk Try.prog 0 (.loop (cAt Try.prog 21 3)) t s x := mkLs_ok (st := fn_L25_3) (m := FU) cs_18_ok hmix false (LsOk.none _ _ _) (by kernel_rfl) fn_L25_3_ok

def fn_25 : List Dat → Tree (Nat × List Dat)
  | [.n n0] =>
    (let r1 : Option (Nat × List Dat) := (op_L25_3 [.n n0, .n (0 : Int), .n (0 : Int)]);
     (.node (isK 0 [HK.n] r1)
      (.leaf ((0, [.n (gn (dOf r1) 0)])))
      (.bad 351)))
  | _ => .bad 0
def op_25 : List Dat → Option (Nat × List Dat) := fun env => (fn_25 env).sel
def B25 : FBox := (mkF [.int .i64 0] [] [] [(.int .u64 0, [])] op_25)
def cs_25 : FuncId → Option CSpec := csLend 21 B25 cs_18
theorem fn_25_eq (n0 : Int) : (boxC false Try.prog cs_18 21 (lsTab [(3, L25_3)] (List.length ([] : List PB))) (mkF [.int .i64 0] [] [] [(.int .u64 0, [])] fun _ => none) [.n n0]).sel = (fn_25 [.n n0]).sel := by kernel_rfl
theorem fn_25_ok (env : List Dat) (y : Nat × List Dat) (h : (fn_25 env).sel = some y) : (boxC false Try.prog cs_18 21 (lsTab [(3, L25_3)] (List.length ([] : List PB))) (mkF [.int .i64 0] [] [] [(.int .u64 0, [])] fun _ => none) env).sel = some y := by
  unfold fn_25 at h
  split at h
  · rw [fn_25_eq]; exact h
  · cases h
theorem B25_ok : RunOk Try.prog 21 (boxRun B25) := mkF_ok (op := op_25) cs_18_ok hmix false (L25_3_ok _) fn_25_ok
theorem cs_25_ok : CsOk Try.prog cs_25 := csLend_ok cs_18_ok B25_ok

def fn_L33_5 : List Dat → Tree Step
  | [.n n0, .n n1, .l (Ty.pair (Ty.int IntKind.u8) (Ty.int IntKind.i64)) l2, .n n3, .n n4] =>
    (.node (decide (n4 < n3))
     (.node (inR n4 (List.length l2))
      (.node (decide ((Prod.snd (List.getD l2 (Int.toNat n4) (Ty.dflt (Ty.pair (Ty.int IntKind.u8) (Ty.int IntKind.i64)))) : Int) < (0 : Int)))
       (.leaf (Step.stop 1 [.b false]))
       (let r1 : Option (Nat × List Dat) := (op_63 [.n (Prod.fst (List.getD l2 (Int.toNat n4) (Ty.dflt (Ty.pair (Ty.int IntKind.u8) (Ty.int IntKind.i64))))), .n n0, .n n1]);
        (.node (isK 0 [HK.n] r1)
         (.node (decide ((Prod.snd (List.getD l2 (Int.toNat n4) (Ty.dflt (Ty.pair (Ty.int IntKind.u8) (Ty.int IntKind.i64)))) : Int) ≥ gn (dOf r1) 0))
          (.leaf (Step.stop 1 [.b false]))
          (.leaf (Step.go [.n n0, .n n1, .l (Ty.pair (Ty.int IntKind.u8) (Ty.int IntKind.i64)) l2, .n n3, .n (IntKind.wrap .i64 (n4 + (1 : Int)))])))
         (.bad 351))))
      (.bad 10))
     (.leaf (Step.stop 0 [])))
  | _ => .bad 0
def op_L33_5 : List Dat → Option (Nat × List Dat) := iterS fn_L33_5 FU
def L33_5 : LBox := (mkL 0 [] (sh 64 [(6, .int .i64 0), (7, .int .i64 1), (44, .imm TCmd 2), (45, .int .i64 3), (46, .int .i64 4)]) [] [] [(.exit 0, sh 64 [], []), (.ret, sh 64 [(4, .bool 0)], [])] op_L33_5)
theorem fn_L33_5_eq (n0 : Int) (n1 : Int) (l2 : List (Ty.den (Ty.pair (Ty.int IntKind.u8) (Ty.int IntKind.i64)))) (n3 : Int) (n4 : Int) : (stepC false Try.prog cs_25 10 5 ls0 (mkL 0 [] (sh 64 [(6, .int .i64 0), (7, .int .i64 1), (44, .imm TCmd 2), (45, .int .i64 3), (46, .int .i64 4)]) [] [] [(.exit 0, sh 64 [], []), (.ret, sh 64 [(4, .bool 0)], [])] fun _ => none) [.n n0, .n n1, .l (Ty.pair (Ty.int IntKind.u8) (Ty.int IntKind.i64)) l2, .n n3, .n n4]).sel = (fn_L33_5 [.n n0, .n n1, .l (Ty.pair (Ty.int IntKind.u8) (Ty.int IntKind.i64)) l2, .n n3, .n n4]).sel := by kernel_rfl
theorem fn_L33_5_ok (env : List Dat) (y : Step) (h : (fn_L33_5 env).sel = some y) : (stepC false Try.prog cs_25 10 5 ls0 (mkL 0 [] (sh 64 [(6, .int .i64 0), (7, .int .i64 1), (44, .imm TCmd 2), (45, .int .i64 3), (46, .int .i64 4)]) [] [] [(.exit 0, sh 64 [], []), (.ret, sh 64 [(4, .bool 0)], [])] fun _ => none) env).sel = some y := by
  unfold fn_L33_5 at h
  split at h
  · rw [fn_L33_5_eq]; exact h
  · cases h
theorem L33_5_ok (K : Nat) : LsOk Try.prog K (lsTab [(5, L33_5)] K) (bodyOf Try.prog 10) := mkL_ok (st := fn_L33_5) (m := FU) cs_25_ok hmix false (by kernel_rfl) (by kernel_rfl) fn_L33_5_ok
theorem L33_5_run : ∀ t s x, (loopRun L33_5 t s).sel = some x → CodeOk Try.prog 0 (.loop (cAt Try.prog 10 5)) t s x := mkLs_ok (st := fn_L33_5) (m := FU) cs_25_ok hmix false (LsOk.none _ _ _) (by kernel_rfl) fn_L33_5_ok

def fn_33 : List Dat → Tree (Nat × List Dat)
  | [.l (Ty.str) l0, .l (Ty.pair Ty.str (Ty.int IntKind.i64)) l1, .l (Ty.pair Ty.str (Ty.int IntKind.i64)) l2, .l (Ty.pair Ty.str (Ty.pair (Ty.int IntKind.i64) (Ty.pair (Ty.sl (Ty.int IntKind.i64)) (Ty.pair (Ty.sl (Ty.pair (Ty.int IntKind.i64) Ty.bool)) (Ty.pair (Ty.sl (Ty.int IntKind.i64)) (Ty.sl (Ty.pair (Ty.int IntKind.i64) Ty.bool))))))) l3, .n n4, .n n5, .n n6, .l (Ty.pair (Ty.int IntKind.u8) (Ty.int IntKind.i64)) l7] =>
    (.node (!decide (imin (↑(List.length l0) : Int) (64 : Int) < (0 : Int)))
     (.node (ishr IntKind.u64 n4 (imin (↑(List.length l0) : Int) (64 : Int)) != (0 : Int))
      (.leaf ((0, [.b false])))
      (.node (!decide (imin (↑(List.length l1) : Int) (32 : Int) < (0 : Int)))
       (.node (ishr IntKind.u32 (ior IntKind.u32 n5 n6) (imin (↑(List.length l1) : Int) (32 : Int)) != (0 : Int))
        (.leaf ((0, [.b false])))
        (.node (decide ((↑(List.length l7) : Int) > (8 : Int)))
         (.leaf ((0, [.b false])))
         (let r1 : Option (Nat × List Dat) := (op_L33_5 [.n (imin (↑(List.length l1) : Int) (32 : Int)), .n (imin (↑(List.length l3) : Int) (64 : Int)), .l (Ty.pair (Ty.int IntKind.u8) (Ty.int IntKind.i64)) l7, .n (↑(List.length l7) : Int), .n (0 : Int)]);
          (.node (isK 0 [] r1)
           (.leaf ((0, [.b true])))
           (.node (isK 1 [HK.b] r1)
            (.leaf ((0, [.b (gb (dOf r1) 0)])))
            (.bad 351))))))
       (.bad 83)))
     (.bad 83))
  | _ => .bad 0
def op_33 : List Dat → Option (Nat × List Dat) := fun env => (fn_33 env).sel
def B33 : FBox := (mkF [laV 0, inV 4] [] [] [(.bool 0, [])] op_33)
def cs_33 : FuncId → Option CSpec := csLend 10 B33 cs_25
theorem fn_33_eq (l0 : List (Ty.den (Ty.str))) (l1 : List (Ty.den (Ty.pair Ty.str (Ty.int IntKind.i64)))) (l2 : List (Ty.den (Ty.pair Ty.str (Ty.int IntKind.i64)))) (l3 : List (Ty.den (Ty.pair Ty.str (Ty.pair (Ty.int IntKind.i64) (Ty.pair (Ty.sl (Ty.int IntKind.i64)) (Ty.pair (Ty.sl (Ty.pair (Ty.int IntKind.i64) Ty.bool)) (Ty.pair (Ty.sl (Ty.int IntKind.i64)) (Ty.sl (Ty.pair (Ty.int IntKind.i64) Ty.bool))))))))) (n4 : Int) (n5 : Int) (n6 : Int) (l7 : List (Ty.den (Ty.pair (Ty.int IntKind.u8) (Ty.int IntKind.i64)))) : (boxC false Try.prog cs_25 10 (lsTab [(5, L33_5)] (List.length ([] : List PB))) (mkF [laV 0, inV 4] [] [] [(.bool 0, [])] fun _ => none) [.l (Ty.str) l0, .l (Ty.pair Ty.str (Ty.int IntKind.i64)) l1, .l (Ty.pair Ty.str (Ty.int IntKind.i64)) l2, .l (Ty.pair Ty.str (Ty.pair (Ty.int IntKind.i64) (Ty.pair (Ty.sl (Ty.int IntKind.i64)) (Ty.pair (Ty.sl (Ty.pair (Ty.int IntKind.i64) Ty.bool)) (Ty.pair (Ty.sl (Ty.int IntKind.i64)) (Ty.sl (Ty.pair (Ty.int IntKind.i64) Ty.bool))))))) l3, .n n4, .n n5, .n n6, .l (Ty.pair (Ty.int IntKind.u8) (Ty.int IntKind.i64)) l7]).sel = (fn_33 [.l (Ty.str) l0, .l (Ty.pair Ty.str (Ty.int IntKind.i64)) l1, .l (Ty.pair Ty.str (Ty.int IntKind.i64)) l2, .l (Ty.pair Ty.str (Ty.pair (Ty.int IntKind.i64) (Ty.pair (Ty.sl (Ty.int IntKind.i64)) (Ty.pair (Ty.sl (Ty.pair (Ty.int IntKind.i64) Ty.bool)) (Ty.pair (Ty.sl (Ty.int IntKind.i64)) (Ty.sl (Ty.pair (Ty.int IntKind.i64) Ty.bool))))))) l3, .n n4, .n n5, .n n6, .l (Ty.pair (Ty.int IntKind.u8) (Ty.int IntKind.i64)) l7]).sel := by kernel_rfl
theorem fn_33_ok (env : List Dat) (y : Nat × List Dat) (h : (fn_33 env).sel = some y) : (boxC false Try.prog cs_25 10 (lsTab [(5, L33_5)] (List.length ([] : List PB))) (mkF [laV 0, inV 4] [] [] [(.bool 0, [])] fun _ => none) env).sel = some y := by
  unfold fn_33 at h
  split at h
  · rw [fn_33_eq]; exact h
  · cases h
theorem B33_ok : RunOk Try.prog 10 (boxRun B33) := mkF_ok (op := op_33) cs_25_ok hmix false (L33_5_ok _) fn_33_ok
theorem cs_33_ok : CsOk Try.prog cs_33 := csLend_ok cs_25_ok B33_ok

def fn_L34_7 : List Dat → Tree Step
  | [.n n0, .l (Ty.str) l1, .l (Ty.pair Ty.str (Ty.int IntKind.i64)) l2, .l (Ty.pair Ty.str (Ty.int IntKind.i64)) l3, .l (Ty.pair Ty.str (Ty.pair (Ty.int IntKind.i64) (Ty.pair (Ty.sl (Ty.int IntKind.i64)) (Ty.pair (Ty.sl (Ty.pair (Ty.int IntKind.i64) Ty.bool)) (Ty.pair (Ty.sl (Ty.int IntKind.i64)) (Ty.sl (Ty.pair (Ty.int IntKind.i64) Ty.bool))))))) l4, .n n5, .n n6, .n n7, .l (Ty.pair (Ty.int IntKind.u8) (Ty.int IntKind.i64)) l8] =>
    (.node (decide (n0 < (↑(List.length l8) : Int)))
     (.node (inR n0 (List.length l8))
      (.node (Prod.fst (List.getD l8 (Int.toNat n0) (Ty.dflt (Ty.pair (Ty.int IntKind.u8) (Ty.int IntKind.i64)))) == (3 : Int))
       (.node (decide ((Prod.fst (List.getD l8 (Int.toNat n0) (Ty.dflt (Ty.pair (Ty.int IntKind.u8) (Ty.int IntKind.i64)))) : Int) < (1 : Int)))
        (.leaf (Step.stop 1 [.b false]))
        (.node (decide ((Prod.fst (List.getD l8 (Int.toNat n0) (Ty.dflt (Ty.pair (Ty.int IntKind.u8) (Ty.int IntKind.i64)))) : Int) > (3 : Int)))
         (.leaf (Step.stop 1 [.b false]))
         (.node (decide ((Prod.snd (List.getD l8 (Int.toNat n0) (Ty.dflt (Ty.pair (Ty.int IntKind.u8) (Ty.int IntKind.i64)))) : Int) < (0 : Int)))
          (.leaf (Step.stop 1 [.b false]))
          (.node (decide ((Prod.snd (List.getD l8 (Int.toNat n0) (Ty.dflt (Ty.pair (Ty.int IntKind.u8) (Ty.int IntKind.i64)))) : Int) ≥ imin (↑(List.length l2) : Int) (32 : Int)))
           (.leaf (Step.stop 1 [.b false]))
           (.leaf (Step.go [.n (IntKind.wrap .i64 (n0 + (1 : Int))), .l Ty.str l1, .l (Ty.pair Ty.str (Ty.int IntKind.i64)) l2, .l (Ty.pair Ty.str (Ty.int IntKind.i64)) l3, .l (Ty.pair Ty.str (Ty.pair (Ty.int IntKind.i64) (Ty.pair (Ty.sl (Ty.int IntKind.i64)) (Ty.pair (Ty.sl (Ty.pair (Ty.int IntKind.i64) Ty.bool)) (Ty.pair (Ty.sl (Ty.int IntKind.i64)) (Ty.sl (Ty.pair (Ty.int IntKind.i64) Ty.bool))))))) l4, .n n5, .n n6, .n n7, .l (Ty.pair (Ty.int IntKind.u8) (Ty.int IntKind.i64)) l8]))))))
       (.node (decide ((Prod.fst (List.getD l8 (Int.toNat n0) (Ty.dflt (Ty.pair (Ty.int IntKind.u8) (Ty.int IntKind.i64)))) : Int) < (1 : Int)))
        (.leaf (Step.stop 1 [.b false]))
        (.node (decide ((Prod.fst (List.getD l8 (Int.toNat n0) (Ty.dflt (Ty.pair (Ty.int IntKind.u8) (Ty.int IntKind.i64)))) : Int) > (3 : Int)))
         (.leaf (Step.stop 1 [.b false]))
         (.node (decide ((Prod.snd (List.getD l8 (Int.toNat n0) (Ty.dflt (Ty.pair (Ty.int IntKind.u8) (Ty.int IntKind.i64)))) : Int) < (0 : Int)))
          (.leaf (Step.stop 1 [.b false]))
          (.node (decide ((Prod.snd (List.getD l8 (Int.toNat n0) (Ty.dflt (Ty.pair (Ty.int IntKind.u8) (Ty.int IntKind.i64)))) : Int) ≥ imin (↑(List.length l4) : Int) (64 : Int)))
           (.leaf (Step.stop 1 [.b false]))
           (.leaf (Step.go [.n (IntKind.wrap .i64 (n0 + (1 : Int))), .l Ty.str l1, .l (Ty.pair Ty.str (Ty.int IntKind.i64)) l2, .l (Ty.pair Ty.str (Ty.int IntKind.i64)) l3, .l (Ty.pair Ty.str (Ty.pair (Ty.int IntKind.i64) (Ty.pair (Ty.sl (Ty.int IntKind.i64)) (Ty.pair (Ty.sl (Ty.pair (Ty.int IntKind.i64) Ty.bool)) (Ty.pair (Ty.sl (Ty.int IntKind.i64)) (Ty.sl (Ty.pair (Ty.int IntKind.i64) Ty.bool))))))) l4, .n n5, .n n6, .n n7, .l (Ty.pair (Ty.int IntKind.u8) (Ty.int IntKind.i64)) l8])))))))
      (.bad 10))
     (.leaf (Step.stop 0 [])))
  | _ => .bad 0
def op_L34_7 : List Dat → Option (Nat × List Dat) := iterS fn_L34_7 FU
def L34_7 : LBox := (mkL 0 [] (sh 83 [(2, .ptr 0 0), (3, .ptr 1 0), (6, .int .i64 0)]) [laB 1, inB 5] [] [(.exit 0, sh 83 [], []), (.ret, sh 83 [(4, .bool 0)], [])] op_L34_7)
theorem fn_L34_7_eq (n0 : Int) (l1 : List (Ty.den (Ty.str))) (l2 : List (Ty.den (Ty.pair Ty.str (Ty.int IntKind.i64)))) (l3 : List (Ty.den (Ty.pair Ty.str (Ty.int IntKind.i64)))) (l4 : List (Ty.den (Ty.pair Ty.str (Ty.pair (Ty.int IntKind.i64) (Ty.pair (Ty.sl (Ty.int IntKind.i64)) (Ty.pair (Ty.sl (Ty.pair (Ty.int IntKind.i64) Ty.bool)) (Ty.pair (Ty.sl (Ty.int IntKind.i64)) (Ty.sl (Ty.pair (Ty.int IntKind.i64) Ty.bool))))))))) (n5 : Int) (n6 : Int) (n7 : Int) (l8 : List (Ty.den (Ty.pair (Ty.int IntKind.u8) (Ty.int IntKind.i64)))) : (stepC false Try.prog cs_33 11 7 ls0 (mkL 0 [] (sh 83 [(2, .ptr 0 0), (3, .ptr 1 0), (6, .int .i64 0)]) [laB 1, inB 5] [] [(.exit 0, sh 83 [], []), (.ret, sh 83 [(4, .bool 0)], [])] fun _ => none) [.n n0, .l (Ty.str) l1, .l (Ty.pair Ty.str (Ty.int IntKind.i64)) l2, .l (Ty.pair Ty.str (Ty.int IntKind.i64)) l3, .l (Ty.pair Ty.str (Ty.pair (Ty.int IntKind.i64) (Ty.pair (Ty.sl (Ty.int IntKind.i64)) (Ty.pair (Ty.sl (Ty.pair (Ty.int IntKind.i64) Ty.bool)) (Ty.pair (Ty.sl (Ty.int IntKind.i64)) (Ty.sl (Ty.pair (Ty.int IntKind.i64) Ty.bool))))))) l4, .n n5, .n n6, .n n7, .l (Ty.pair (Ty.int IntKind.u8) (Ty.int IntKind.i64)) l8]).sel = (fn_L34_7 [.n n0, .l (Ty.str) l1, .l (Ty.pair Ty.str (Ty.int IntKind.i64)) l2, .l (Ty.pair Ty.str (Ty.int IntKind.i64)) l3, .l (Ty.pair Ty.str (Ty.pair (Ty.int IntKind.i64) (Ty.pair (Ty.sl (Ty.int IntKind.i64)) (Ty.pair (Ty.sl (Ty.pair (Ty.int IntKind.i64) Ty.bool)) (Ty.pair (Ty.sl (Ty.int IntKind.i64)) (Ty.sl (Ty.pair (Ty.int IntKind.i64) Ty.bool))))))) l4, .n n5, .n n6, .n n7, .l (Ty.pair (Ty.int IntKind.u8) (Ty.int IntKind.i64)) l8]).sel := by kernel_rfl
theorem fn_L34_7_ok (env : List Dat) (y : Step) (h : (fn_L34_7 env).sel = some y) : (stepC false Try.prog cs_33 11 7 ls0 (mkL 0 [] (sh 83 [(2, .ptr 0 0), (3, .ptr 1 0), (6, .int .i64 0)]) [laB 1, inB 5] [] [(.exit 0, sh 83 [], []), (.ret, sh 83 [(4, .bool 0)], [])] fun _ => none) env).sel = some y := by
  unfold fn_L34_7 at h
  split at h
  · rw [fn_L34_7_eq]; exact h
  · cases h
theorem L34_7_ok (K : Nat) : LsOk Try.prog K (lsTab [(7, L34_7)] K) (bodyOf Try.prog 11) := mkL_ok (st := fn_L34_7) (m := FU) cs_33_ok hmix false (by kernel_rfl) (by kernel_rfl) fn_L34_7_ok
theorem L34_7_run : ∀ t s x, (loopRun L34_7 t s).sel = some x → CodeOk Try.prog 0 (.loop (cAt Try.prog 11 7)) t s x := mkLs_ok (st := fn_L34_7) (m := FU) cs_33_ok hmix false (LsOk.none _ _ _) (by kernel_rfl) fn_L34_7_ok

def fn_34 : List Dat → Tree (Nat × List Dat)
  | [.l (Ty.str) l0, .l (Ty.pair Ty.str (Ty.int IntKind.i64)) l1, .l (Ty.pair Ty.str (Ty.int IntKind.i64)) l2, .l (Ty.pair Ty.str (Ty.pair (Ty.int IntKind.i64) (Ty.pair (Ty.sl (Ty.int IntKind.i64)) (Ty.pair (Ty.sl (Ty.pair (Ty.int IntKind.i64) Ty.bool)) (Ty.pair (Ty.sl (Ty.int IntKind.i64)) (Ty.sl (Ty.pair (Ty.int IntKind.i64) Ty.bool))))))) l3, .n n4, .n n5, .n n6, .l (Ty.pair (Ty.int IntKind.u8) (Ty.int IntKind.i64)) l7] =>
    (let r1 : Option (Nat × List Dat) := (op_25 [.n (↑(List.length l0) : Int)]);
     (.node (isK 0 [HK.n] r1)
      (.node (iandnot IntKind.u64 n4 (gn (dOf r1) 0) != (0 : Int))
       (.leaf ((0, [.b false])))
       (.node (decide ((↑(List.length l7) : Int) > (8 : Int)))
        (.leaf ((0, [.b false])))
        (let r2 : Option (Nat × List Dat) := (op_25 [.n (imin (↑(List.length l1) : Int) (32 : Int))]);
         (.node (isK 0 [HK.n] r2)
          (.node (iandnot IntKind.u32 n5 (IntKind.wrap .u32 (gn (dOf r2) 0)) != (0 : Int))
           (.leaf ((0, [.b false])))
           (.node (iandnot IntKind.u32 n6 (IntKind.wrap .u32 (gn (dOf r2) 0)) != (0 : Int))
            (.leaf ((0, [.b false])))
            (let r3 : Option (Nat × List Dat) := (op_L34_7 [.n (0 : Int), .l Ty.str l0, .l (Ty.pair Ty.str (Ty.int IntKind.i64)) l1, .l (Ty.pair Ty.str (Ty.int IntKind.i64)) l2, .l (Ty.pair Ty.str (Ty.pair (Ty.int IntKind.i64) (Ty.pair (Ty.sl (Ty.int IntKind.i64)) (Ty.pair (Ty.sl (Ty.pair (Ty.int IntKind.i64) Ty.bool)) (Ty.pair (Ty.sl (Ty.int IntKind.i64)) (Ty.sl (Ty.pair (Ty.int IntKind.i64) Ty.bool))))))) l3, .n n4, .n n5, .n n6, .l (Ty.pair (Ty.int IntKind.u8) (Ty.int IntKind.i64)) l7]);
             (.node (isK 0 [] r3)
              (.leaf ((0, [.b true])))
              (.node (isK 1 [HK.b] r3)
               (.leaf ((0, [.b (gb (dOf r3) 0)])))
               (.bad 351))))))
          (.bad 351)))))
      (.bad 351)))
  | _ => .bad 0
def op_34 : List Dat → Option (Nat × List Dat) := fun env => (fn_34 env).sel
def B34 : FBox := (mkF [laV 0, inV 4] [] [] [(.bool 0, [])] op_34)
def cs_34 : FuncId → Option CSpec := csLend 11 B34 cs_33
theorem fn_34_eq (l0 : List (Ty.den (Ty.str))) (l1 : List (Ty.den (Ty.pair Ty.str (Ty.int IntKind.i64)))) (l2 : List (Ty.den (Ty.pair Ty.str (Ty.int IntKind.i64)))) (l3 : List (Ty.den (Ty.pair Ty.str (Ty.pair (Ty.int IntKind.i64) (Ty.pair (Ty.sl (Ty.int IntKind.i64)) (Ty.pair (Ty.sl (Ty.pair (Ty.int IntKind.i64) Ty.bool)) (Ty.pair (Ty.sl (Ty.int IntKind.i64)) (Ty.sl (Ty.pair (Ty.int IntKind.i64) Ty.bool))))))))) (n4 : Int) (n5 : Int) (n6 : Int) (l7 : List (Ty.den (Ty.pair (Ty.int IntKind.u8) (Ty.int IntKind.i64)))) : (boxC false Try.prog cs_33 11 (lsTab [(7, L34_7)] (List.length ([] : List PB))) (mkF [laV 0, inV 4] [] [] [(.bool 0, [])] fun _ => none) [.l (Ty.str) l0, .l (Ty.pair Ty.str (Ty.int IntKind.i64)) l1, .l (Ty.pair Ty.str (Ty.int IntKind.i64)) l2, .l (Ty.pair Ty.str (Ty.pair (Ty.int IntKind.i64) (Ty.pair (Ty.sl (Ty.int IntKind.i64)) (Ty.pair (Ty.sl (Ty.pair (Ty.int IntKind.i64) Ty.bool)) (Ty.pair (Ty.sl (Ty.int IntKind.i64)) (Ty.sl (Ty.pair (Ty.int IntKind.i64) Ty.bool))))))) l3, .n n4, .n n5, .n n6, .l (Ty.pair (Ty.int IntKind.u8) (Ty.int IntKind.i64)) l7]).sel = (fn_34 [.l (Ty.str) l0, .l (Ty.pair Ty.str (Ty.int IntKind.i64)) l1, .l (Ty.pair Ty.str (Ty.int IntKind.i64)) l2, .l (Ty.pair Ty.str (Ty.pair (Ty.int IntKind.i64) (Ty.pair (Ty.sl (Ty.int IntKind.i64)) (Ty.pair (Ty.sl (Ty.pair (Ty.int IntKind.i64) Ty.bool)) (Ty.pair (Ty.sl (Ty.int IntKind.i64)) (Ty.sl (Ty.pair (Ty.int IntKind.i64) Ty.bool))))))) l3, .n n4, .n n5, .n n6, .l (Ty.pair (Ty.int IntKind.u8) (Ty.int IntKind.i64)) l7]).sel := by kernel_rfl
theorem fn_34_ok (env : List Dat) (y : Nat × List Dat) (h : (fn_34 env).sel = some y) : (boxC false Try.prog cs_33 11 (lsTab [(7, L34_7)] (List.length ([] : List PB))) (mkF [laV 0, inV 4] [] [] [(.bool 0, [])] fun _ => none) env).sel = some y := by
  unfold fn_34 at h
  split at h
  · rw [fn_34_eq]; exact h
  · cases h
theorem B34_ok : RunOk Try.prog 11 (boxRun B34) := mkF_ok (op := op_34) cs_33_ok hmix false (L34_7_ok _) fn_34_ok
theorem cs_34_ok : CsOk Try.prog cs_34 := csLend_ok cs_33_ok B34_ok

def fn_W9 : List Dat → Tree Bool
  | [.l (Ty.str) l0, .l (Ty.pair Ty.str (Ty.int IntKind.i64)) l1, .l (Ty.pair Ty.str (Ty.int IntKind.i64)) l2, .l (Ty.pair Ty.str (Ty.pair (Ty.int IntKind.i64) (Ty.pair (Ty.sl (Ty.int IntKind.i64)) (Ty.pair (Ty.sl (Ty.pair (Ty.int IntKind.i64) Ty.bool)) (Ty.pair (Ty.sl (Ty.int IntKind.i64)) (Ty.sl (Ty.pair (Ty.int IntKind.i64) Ty.bool))))))) l3, .n n4, .n n5, .n n6, .l (Ty.pair (Ty.int IntKind.u8) (Ty.int IntKind.i64)) l7] =>
    (.node (decide ((↑(List.length l0) : Int) > (100 : Int)))
     (.leaf (true))
     (.node (decide ((↑(List.length l1) : Int) > (100 : Int)))
      (.leaf (true))
      (.node (decide ((↑(List.length l3) : Int) > (100 : Int)))
       (.leaf (true))
       (.node (decide ((↑(List.length l7) : Int) > (100 : Int)))
        (.leaf (true))
        (let r1 : Option (Nat × List Dat) := (op_33 [.l Ty.str l0, .l (Ty.pair Ty.str (Ty.int IntKind.i64)) l1, .l (Ty.pair Ty.str (Ty.int IntKind.i64)) l2, .l (Ty.pair Ty.str (Ty.pair (Ty.int IntKind.i64) (Ty.pair (Ty.sl (Ty.int IntKind.i64)) (Ty.pair (Ty.sl (Ty.pair (Ty.int IntKind.i64) Ty.bool)) (Ty.pair (Ty.sl (Ty.int IntKind.i64)) (Ty.sl (Ty.pair (Ty.int IntKind.i64) Ty.bool))))))) l3, .n n4, .n n5, .n n6, .l (Ty.pair (Ty.int IntKind.u8) (Ty.int IntKind.i64)) l7]);
         (.node (isK 0 [HK.b] r1)
          (let r2 : Option (Nat × List Dat) := (op_34 [.l Ty.str l0, .l (Ty.pair Ty.str (Ty.int IntKind.i64)) l1, .l (Ty.pair Ty.str (Ty.int IntKind.i64)) l2, .l (Ty.pair Ty.str (Ty.pair (Ty.int IntKind.i64) (Ty.pair (Ty.sl (Ty.int IntKind.i64)) (Ty.pair (Ty.sl (Ty.pair (Ty.int IntKind.i64) Ty.bool)) (Ty.pair (Ty.sl (Ty.int IntKind.i64)) (Ty.sl (Ty.pair (Ty.int IntKind.i64) Ty.bool))))))) l3, .n n4, .n n5, .n n6, .l (Ty.pair (Ty.int IntKind.u8) (Ty.int IntKind.i64)) l7]);
           (.node (isK 0 [HK.b] r2)
            (.node (gb (dOf r1) 0 == gb (dOf r2) 0)
             (.leaf (true))
             (.leaf (false)))
            (.bad 351)))
          (.bad 351)))))))
  | _ => .bad 0
theorem fn_W9_eq (l0 : List (Ty.den (Ty.str))) (l1 : List (Ty.den (Ty.pair Ty.str (Ty.int IntKind.i64)))) (l2 : List (Ty.den (Ty.pair Ty.str (Ty.int IntKind.i64)))) (l3 : List (Ty.den (Ty.pair Ty.str (Ty.pair (Ty.int IntKind.i64) (Ty.pair (Ty.sl (Ty.int IntKind.i64)) (Ty.pair (Ty.sl (Ty.pair (Ty.int IntKind.i64) Ty.bool)) (Ty.pair (Ty.sl (Ty.int IntKind.i64)) (Ty.sl (Ty.pair (Ty.int IntKind.i64) Ty.bool))))))))) (n4 : Int) (n5 : Int) (n6 : Int) (l7 : List (Ty.den (Ty.pair (Ty.int IntKind.u8) (Ty.int IntKind.i64)))) : ((fun (d : List Dat) => lawB false Try.prog cs_34 3 ls0 (instL [laV 0, inV 4] d)) [.l (Ty.str) l0, .l (Ty.pair Ty.str (Ty.int IntKind.i64)) l1, .l (Ty.pair Ty.str (Ty.int IntKind.i64)) l2, .l (Ty.pair Ty.str (Ty.pair (Ty.int IntKind.i64) (Ty.pair (Ty.sl (Ty.int IntKind.i64)) (Ty.pair (Ty.sl (Ty.pair (Ty.int IntKind.i64) Ty.bool)) (Ty.pair (Ty.sl (Ty.int IntKind.i64)) (Ty.sl (Ty.pair (Ty.int IntKind.i64) Ty.bool))))))) l3, .n n4, .n n5, .n n6, .l (Ty.pair (Ty.int IntKind.u8) (Ty.int IntKind.i64)) l7]).sel = (fn_W9 [.l (Ty.str) l0, .l (Ty.pair Ty.str (Ty.int IntKind.i64)) l1, .l (Ty.pair Ty.str (Ty.int IntKind.i64)) l2, .l (Ty.pair Ty.str (Ty.pair (Ty.int IntKind.i64) (Ty.pair (Ty.sl (Ty.int IntKind.i64)) (Ty.pair (Ty.sl (Ty.pair (Ty.int IntKind.i64) Ty.bool)) (Ty.pair (Ty.sl (Ty.int IntKind.i64)) (Ty.sl (Ty.pair (Ty.int IntKind.i64) Ty.bool))))))) l3, .n n4, .n n5, .n n6, .l (Ty.pair (Ty.int IntKind.u8) (Ty.int IntKind.i64)) l7]).sel := by kernel_rfl
theorem W9_law (env : List Dat) (h : (fn_W9 env).sel = some true) {w : World} {args : Array Value} (ha : LRel R0 (snapOf w) (instL [laV 0, inV 4] env) args) :
    Calls Try.prog 3 args w fun e w' => e = .returned (.bool true) ∧ Below w.heap.size w w' := by
  refine lawB_ok cs_34_ok hmix false (ls := ls0) (LsOk.none _ _ _) ?_ ha
  unfold fn_W9 at h
  split at h
  · exact (fn_W9_eq _ _ _ _ _ _ _ _).trans h
  · cases h

def fn_L8_8_0 : List Dat → Tree Step
  | [.n n0, .n n1, .n n2, .n n3, .l (Ty.pair (Ty.int IntKind.u8) (Ty.int IntKind.i64)) l4, .n n5, .n n6, .n n7, .l (Ty.pair (Ty.int IntKind.u8) (Ty.int IntKind.i64)) l8, .n n9, .n n10, .n n11, .n n12, .n n13, .n n14, .l (Ty.pair (Ty.int IntKind.u8) (Ty.int IntKind.i64)) l15, .l (Ty.pair (Ty.int IntKind.u8) (Ty.int IntKind.i64)) l16] =>
    (.node (decide (n0 < (↑(List.length l15) : Int)))
     (.node (inR n0 (List.length l15))
      (.leaf (Step.go [.k 0, .n (IntKind.wrap .i64 (n0 + (1 : Int))), .n n1, .n n2, .n n3, .l (Ty.pair (Ty.int IntKind.u8) (Ty.int IntKind.i64)) l4, .n n5, .n n6, .n n7, .l (Ty.pair (Ty.int IntKind.u8) (Ty.int IntKind.i64)) l8, .n n9, .n n10, .n n11, .n n12, .n n13, .n n14, .l (Ty.pair (Ty.int IntKind.u8) (Ty.int IntKind.i64)) (List.set l15 (Int.toNat n0) (Prod.fst (List.getD l15 (Int.toNat n0) (Ty.dflt (Ty.pair (Ty.int IntKind.u8) (Ty.int IntKind.i64)))), ixor IntKind.i64 (Prod.snd (List.getD l15 (Int.toNat n0) (Ty.dflt (Ty.pair (Ty.int IntKind.u8) (Ty.int IntKind.i64))))) (1 : Int))), .l (Ty.pair (Ty.int IntKind.u8) (Ty.int IntKind.i64)) l16]))
      (.bad 12))
     (.leaf (Step.stop 0 [.n n1, .n n2, .n n3, .l (Ty.pair (Ty.int IntKind.u8) (Ty.int IntKind.i64)) l4, .n n5, .n n6, .n n7, .l (Ty.pair (Ty.int IntKind.u8) (Ty.int IntKind.i64)) l8, .n n12, .n n13, .n n14, .l (Ty.pair (Ty.int IntKind.u8) (Ty.int IntKind.i64)) l16])))
  | _ => .bad 0
def fn_L8_8 : List Dat → Tree Step
  | .k 0 :: d => fn_L8_8_0 d
  | _ => .bad 0
def op_L8_8 : List Dat → Option (Nat × List Dat) := iterS fn_L8_8 FU
def L8_8 : MBox := (mkM 0 [] [(sh 56 [(2, .ptr 0 0), (3, .ptr 1 0), (5, .ptr 2 0), (6, .ptr 3 0), (7, .int .i64 0)], [inB 1, inB 5, inC 9 4, inC 12 5, .arr TCmd 15, .arr TCmd 16])] [] [(.exit 0, sh 56 [(2, .ptr 0 0), (3, .ptr 1 0), (6, .ptr 2 0)], [inB 0, inB 4, inC 8 3, .arr TCmd 11])] op_L8_8)
def fr_L8_8_0 : List Dat → Tree Step
  | [.n n0, .n n1, .n n2, .n n3, .l (Ty.pair (Ty.int IntKind.u8) (Ty.int IntKind.i64)) l4, .n n5, .n n6, .n n7, .l (Ty.pair (Ty.int IntKind.u8) (Ty.int IntKind.i64)) l8, .n n9, .n n10, .n n11, .n n12, .n n13, .n n14, .l (Ty.pair (Ty.int IntKind.u8) (Ty.int IntKind.i64)) l15, .l (Ty.pair (Ty.int IntKind.u8) (Ty.int IntKind.i64)) l16] =>
    (.node (decide (n0 < (↑(List.length l15) : Int)))
     (.node (inR n0 (List.length l15))
      (.node (inR n0 (List.length l15))
       (.leaf (Step.go [.k 0, .n (IntKind.wrap .i64 (n0 + (1 : Int))), .n n1, .n n2, .n n3, .l (Ty.pair (Ty.int IntKind.u8) (Ty.int IntKind.i64)) l4, .n n5, .n n6, .n n7, .l (Ty.pair (Ty.int IntKind.u8) (Ty.int IntKind.i64)) l8, .n n9, .n n10, .n n11, .n n12, .n n13, .n n14, .l (Ty.pair (Ty.int IntKind.u8) (Ty.int IntKind.i64)) (List.set l15 (Int.toNat n0) (Prod.fst (List.getD l15 (Int.toNat n0) (Ty.dflt (Ty.pair (Ty.int IntKind.u8) (Ty.int IntKind.i64)))), ixor IntKind.i64 (Prod.snd (List.getD l15 (Int.toNat n0) (Ty.dflt (Ty.pair (Ty.int IntKind.u8) (Ty.int IntKind.i64))))) (1 : Int))), .l (Ty.pair (Ty.int IntKind.u8) (Ty.int IntKind.i64)) l16]))
       (.bad 12))
      (.bad 12))
     (.leaf (Step.stop 0 [.n n1, .n n2, .n n3, .l (Ty.pair (Ty.int IntKind.u8) (Ty.int IntKind.i64)) l4, .n n5, .n n6, .n n7, .l (Ty.pair (Ty.int IntKind.u8) (Ty.int IntKind.i64)) l8, .n n12, .n n13, .n n14, .l (Ty.pair (Ty.int IntKind.u8) (Ty.int IntKind.i64)) l16])))
  | _ => .bad 0
theorem fr_L8_8_0_eq (n0 : Int) (n1 : Int) (n2 : Int) (n3 : Int) (l4 : List (Ty.den (Ty.pair (Ty.int IntKind.u8) (Ty.int IntKind.i64)))) (n5 : Int) (n6 : Int) (n7 : Int) (l8 : List (Ty.den (Ty.pair (Ty.int IntKind.u8) (Ty.int IntKind.i64)))) (n9 : Int) (n10 : Int) (n11 : Int) (n12 : Int) (n13 : Int) (n14 : Int) (l15 : List (Ty.den (Ty.pair (Ty.int IntKind.u8) (Ty.int IntKind.i64)))) (l16 : List (Ty.den (Ty.pair (Ty.int IntKind.u8) (Ty.int IntKind.i64)))) : ((fun (d : List Dat) => stepMC false Try.prog cs_34 4 8 ls0 (mkM 0 [] [(sh 56 [(2, .ptr 0 0), (3, .ptr 1 0), (5, .ptr 2 0), (6, .ptr 3 0), (7, .int .i64 0)], [inB 1, inB 5, inC 9 4, inC 12 5, .arr TCmd 15, .arr TCmd 16])] [] [(.exit 0, sh 56 [(2, .ptr 0 0), (3, .ptr 1 0), (6, .ptr 2 0)], [inB 0, inB 4, inC 8 3, .arr TCmd 11])] fun _ => none) (.k 0 :: d)) [.n n0, .n n1, .n n2, .n n3, .l (Ty.pair (Ty.int IntKind.u8) (Ty.int IntKind.i64)) l4, .n n5, .n n6, .n n7, .l (Ty.pair (Ty.int IntKind.u8) (Ty.int IntKind.i64)) l8, .n n9, .n n10, .n n11, .n n12, .n n13, .n n14, .l (Ty.pair (Ty.int IntKind.u8) (Ty.int IntKind.i64)) l15, .l (Ty.pair (Ty.int IntKind.u8) (Ty.int IntKind.i64)) l16]).sel = (fr_L8_8_0 [.n n0, .n n1, .n n2, .n n3, .l (Ty.pair (Ty.int IntKind.u8) (Ty.int IntKind.i64)) l4, .n n5, .n n6, .n n7, .l (Ty.pair (Ty.int IntKind.u8) (Ty.int IntKind.i64)) l8, .n n9, .n n10, .n n11, .n n12, .n n13, .n n14, .l (Ty.pair (Ty.int IntKind.u8) (Ty.int IntKind.i64)) l15, .l (Ty.pair (Ty.int IntKind.u8) (Ty.int IntKind.i64)) l16]).sel := by kernel_rfl
theorem fr_L8_8_0_pr (n0 : Int) (n1 : Int) (n2 : Int) (n3 : Int) (l4 : List (Ty.den (Ty.pair (Ty.int IntKind.u8) (Ty.int IntKind.i64)))) (n5 : Int) (n6 : Int) (n7 : Int) (l8 : List (Ty.den (Ty.pair (Ty.int IntKind.u8) (Ty.int IntKind.i64)))) (n9 : Int) (n10 : Int) (n11 : Int) (n12 : Int) (n13 : Int) (n14 : Int) (l15 : List (Ty.den (Ty.pair (Ty.int IntKind.u8) (Ty.int IntKind.i64)))) (l16 : List (Ty.den (Ty.pair (Ty.int IntKind.u8) (Ty.int IntKind.i64)))) : (fr_L8_8_0 [.n n0, .n n1, .n n2, .n n3, .l (Ty.pair (Ty.int IntKind.u8) (Ty.int IntKind.i64)) l4, .n n5, .n n6, .n n7, .l (Ty.pair (Ty.int IntKind.u8) (Ty.int IntKind.i64)) l8, .n n9, .n n10, .n n11, .n n12, .n n13, .n n14, .l (Ty.pair (Ty.int IntKind.u8) (Ty.int IntKind.i64)) l15, .l (Ty.pair (Ty.int IntKind.u8) (Ty.int IntKind.i64)) l16]).sel = (fn_L8_8_0 [.n n0, .n n1, .n n2, .n n3, .l (Ty.pair (Ty.int IntKind.u8) (Ty.int IntKind.i64)) l4, .n n5, .n n6, .n n7, .l (Ty.pair (Ty.int IntKind.u8) (Ty.int IntKind.i64)) l8, .n n9, .n n10, .n n11, .n n12, .n n13, .n n14, .l (Ty.pair (Ty.int IntKind.u8) (Ty.int IntKind.i64)) l15, .l (Ty.pair (Ty.int IntKind.u8) (Ty.int IntKind.i64)) l16]).sel := (sel_c (fun h0 => (sel_c (fun h1 => (sel_t h1 rfl)) (fun _ => rfl))) (fun _ => rfl))
theorem fn_L8_8_0_eq (n0 : Int) (n1 : Int) (n2 : Int) (n3 : Int) (l4 : List (Ty.den (Ty.pair (Ty.int IntKind.u8) (Ty.int IntKind.i64)))) (n5 : Int) (n6 : Int) (n7 : Int) (l8 : List (Ty.den (Ty.pair (Ty.int IntKind.u8) (Ty.int IntKind.i64)))) (n9 : Int) (n10 : Int) (n11 : Int) (n12 : Int) (n13 : Int) (n14 : Int) (l15 : List (Ty.den (Ty.pair (Ty.int IntKind.u8) (Ty.int IntKind.i64)))) (l16 : List (Ty.den (Ty.pair (Ty.int IntKind.u8) (Ty.int IntKind.i64)))) : ((fun (d : List Dat) => stepMC false Try.prog cs_34 4 8 ls0 (mkM 0 [] [(sh 56 [(2, .ptr 0 0), (3, .ptr 1 0), (5, .ptr 2 0), (6, .ptr 3 0), (7, .int .i64 0)], [inB 1, inB 5, inC 9 4, inC 12 5, .arr TCmd 15, .arr TCmd 16])] [] [(.exit 0, sh 56 [(2, .ptr 0 0), (3, .ptr 1 0), (6, .ptr 2 0)], [inB 0, inB 4, inC 8 3, .arr TCmd 11])] fun _ => none) (.k 0 :: d)) [.n n0, .n n1, .n n2, .n n3, .l (Ty.pair (Ty.int IntKind.u8) (Ty.int IntKind.i64)) l4, .n n5, .n n6, .n n7, .l (Ty.pair (Ty.int IntKind.u8) (Ty.int IntKind.i64)) l8, .n n9, .n n10, .n n11, .n n12, .n n13, .n n14, .l (Ty.pair (Ty.int IntKind.u8) (Ty.int IntKind.i64)) l15, .l (Ty.pair (Ty.int IntKind.u8) (Ty.int IntKind.i64)) l16]).sel = (fn_L8_8_0 [.n n0, .n n1, .n n2, .n n3, .l (Ty.pair (Ty.int IntKind.u8) (Ty.int IntKind.i64)) l4, .n n5, .n n6, .n n7, .l (Ty.pair (Ty.int IntKind.u8) (Ty.int IntKind.i64)) l8, .n n9, .n n10, .n n11, .n n12, .n n13, .n n14, .l (Ty.pair (Ty.int IntKind.u8) (Ty.int IntKind.i64)) l15, .l (Ty.pair (Ty.int IntKind.u8) (Ty.int IntKind.i64)) l16]).sel := (fr_L8_8_0_eq n0 n1 n2 n3 l4 n5 n6 n7 l8 n9 n10 n11 n12 n13 n14 l15 l16).trans (fr_L8_8_0_pr n0 n1 n2 n3 l4 n5 n6 n7 l8 n9 n10 n11 n12 n13 n14 l15 l16)
theorem fn_L8_8_0_ok (env : List Dat) (y : Step) (h : (fn_L8_8_0 env).sel = some y) : ((fun (d : List Dat) => stepMC false Try.prog cs_34 4 8 ls0 (mkM 0 [] [(sh 56 [(2, .ptr 0 0), (3, .ptr 1 0), (5, .ptr 2 0), (6, .ptr 3 0), (7, .int .i64 0)], [inB 1, inB 5, inC 9 4, inC 12 5, .arr TCmd 15, .arr TCmd 16])] [] [(.exit 0, sh 56 [(2, .ptr 0 0), (3, .ptr 1 0), (6, .ptr 2 0)], [inB 0, inB 4, inC 8 3, .arr TCmd 11])] fun _ => none) (.k 0 :: d)) env).sel = some y := by
  unfold fn_L8_8_0 at h
  split at h
  · rw [fn_L8_8_0_eq]; exact h
  · cases h
theorem fn_L8_8_ok (env : List Dat) (y : Step) (h : (fn_L8_8 env).sel = some y) : (stepMC false Try.prog cs_34 4 8 ls0 (mkM 0 [] [(sh 56 [(2, .ptr 0 0), (3, .ptr 1 0), (5, .ptr 2 0), (6, .ptr 3 0), (7, .int .i64 0)], [inB 1, inB 5, inC 9 4, inC 12 5, .arr TCmd 15, .arr TCmd 16])] [] [(.exit 0, sh 56 [(2, .ptr 0 0), (3, .ptr 1 0), (6, .ptr 2 0)], [inB 0, inB 4, inC 8 3, .arr TCmd 11])] fun _ => none) env).sel = some y := by
  unfold fn_L8_8 at h
  split at h
  · exact fn_L8_8_0_ok _ _ h
  · cases h
theorem L8_8_run : ∀ t s x, (manyRun L8_8 t s).sel = some x → CodeOk Try.prog 0 (.loop (cAt Try.prog 4 8)) t s x := mkM_ok (st := fn_L8_8) (m := FU) cs_34_ok hmix false (LsOk.none _ _ _) (by kernel_rfl) fn_L8_8_ok

theorem ls_8_ok : LsOk Try.prog (0) (lsM [(8, L8_8)] (0)) (bodyOf Try.prog 4) := LsOk.many fun j B hB hk c hc hi => by
  simp only [lookM] at hB
  split at hB
  · rename_i e; have := Nat.eq_of_beq_eq_true e; subst this; cases hB
    have e1 : loopAt Try.prog 4 8 = [cAt Try.prog 4 8] := loopAt_one (by kernel_rfl)
    have e2 : c ∈ loopAt Try.prog 4 8 := loopsAt_mem hc hi
    rw [e1] at e2; cases List.mem_singleton.1 e2; exact L8_8_run
  cases hB

def fn_W8 : List Dat → Tree Bool
  | [.n n0, .n n1, .n n2, .l (Ty.pair (Ty.int IntKind.u8) (Ty.int IntKind.i64)) l3, .n n4, .n n5, .n n6, .l (Ty.pair (Ty.int IntKind.u8) (Ty.int IntKind.i64)) l7] =>
    (.node (decide ((↑(List.length l3) : Int) > (100 : Int)))
     (.leaf (true))
     (.node (decide ((↑(List.length l7) : Int) > (100 : Int)))
      (.leaf (true))
      (let r1 : Option (Nat × List Dat) := (op_31 [.n n0, .n n1, .n n2, .l (Ty.pair (Ty.int IntKind.u8) (Ty.int IntKind.i64)) l3, .n n4, .n n5, .n n6, .l (Ty.pair (Ty.int IntKind.u8) (Ty.int IntKind.i64)) l7]);
       (.node (isK 0 [HK.n, HK.n, HK.n, HK.l (Ty.pair (Ty.int IntKind.u8) (Ty.int IntKind.i64))] r1)
        (let r2 : Option (Nat × List Dat) := (op_32 [.n n0, .n n1, .n n2, .l (Ty.pair (Ty.int IntKind.u8) (Ty.int IntKind.i64)) l3, .n n4, .n n5, .n n6, .l (Ty.pair (Ty.int IntKind.u8) (Ty.int IntKind.i64)) l7]);
         (.node (isK 0 [HK.n, HK.n, HK.n, HK.l (Ty.pair (Ty.int IntKind.u8) (Ty.int IntKind.i64))] r2)
          (let r3 : Option (Nat × List Dat) := (op_30 [.n (gn (dOf r1) 0), .n (gn (dOf r1) 1), .n (gn (dOf r1) 2), .l (Ty.pair (Ty.int IntKind.u8) (Ty.int IntKind.i64)) (gl (Ty.pair (Ty.int IntKind.u8) (Ty.int IntKind.i64)) (dOf r1) 3), .n (gn (dOf r2) 0), .n (gn (dOf r2) 1), .n (gn (dOf r2) 2), .l (Ty.pair (Ty.int IntKind.u8) (Ty.int IntKind.i64)) (gl (Ty.pair (Ty.int IntKind.u8) (Ty.int IntKind.i64)) (dOf r2) 3)]);
           (.node (isK 0 [HK.b] r3)
            (.node (!gb (dOf r3) 0)
             (.leaf (false))
             (let r4 : Option (Nat × List Dat) := (op_L8_8 [.k 0, .n (0 : Int), .n n0, .n n1, .n n2, .l (Ty.pair (Ty.int IntKind.u8) (Ty.int IntKind.i64)) l3, .n n4, .n n5, .n n6, .l (Ty.pair (Ty.int IntKind.u8) (Ty.int IntKind.i64)) l7, .n (gn (dOf r1) 0), .n (gn (dOf r1) 1), .n (gn (dOf r1) 2), .n (gn (dOf r2) 0), .n (gn (dOf r2) 1), .n (gn (dOf r2) 2), .l (Ty.pair (Ty.int IntKind.u8) (Ty.int IntKind.i64)) (gl (Ty.pair (Ty.int IntKind.u8) (Ty.int IntKind.i64)) (dOf r1) 3), .l (Ty.pair (Ty.int IntKind.u8) (Ty.int IntKind.i64)) (gl (Ty.pair (Ty.int IntKind.u8) (Ty.int IntKind.i64)) (dOf r2) 3)]);
              (.node (isK 0 [HK.n, HK.n, HK.n, HK.l (Ty.pair (Ty.int IntKind.u8) (Ty.int IntKind.i64)), HK.n, HK.n, HK.n, HK.l (Ty.pair (Ty.int IntKind.u8) (Ty.int IntKind.i64)), HK.n, HK.n, HK.n, HK.l (Ty.pair (Ty.int IntKind.u8) (Ty.int IntKind.i64))] r4)
               (let r5 : Option (Nat × List Dat) := (op_31 [.n (gn (dOf r4) 0), .n (gn (dOf r4) 1), .n (gn (dOf r4) 2), .l (Ty.pair (Ty.int IntKind.u8) (Ty.int IntKind.i64)) (gl (Ty.pair (Ty.int IntKind.u8) (Ty.int IntKind.i64)) (dOf r4) 3), .n (gn (dOf r4) 4), .n (gn (dOf r4) 5), .n (gn (dOf r4) 6), .l (Ty.pair (Ty.int IntKind.u8) (Ty.int IntKind.i64)) (gl (Ty.pair (Ty.int IntKind.u8) (Ty.int IntKind.i64)) (dOf r4) 7)]);
                (.node (isK 0 [HK.n, HK.n, HK.n, HK.l (Ty.pair (Ty.int IntKind.u8) (Ty.int IntKind.i64))] r5)
                 (let r6 : Option (Nat × List Dat) := (op_30 [.n (gn (dOf r5) 0), .n (gn (dOf r5) 1), .n (gn (dOf r5) 2), .l (Ty.pair (Ty.int IntKind.u8) (Ty.int IntKind.i64)) (gl (Ty.pair (Ty.int IntKind.u8) (Ty.int IntKind.i64)) (dOf r5) 3), .n (gn (dOf r4) 8), .n (gn (dOf r4) 9), .n (gn (dOf r4) 10), .l (Ty.pair (Ty.int IntKind.u8) (Ty.int IntKind.i64)) (gl (Ty.pair (Ty.int IntKind.u8) (Ty.int IntKind.i64)) (dOf r4) 11)]);
                  (.node (isK 0 [HK.b] r6)
                   (.node (gb (dOf r6) 0)
                    (.leaf (true))
                    (.leaf (false)))
                   (.bad 351)))
                 (.bad 351)))
               (.bad 351))))
            (.bad 351)))
          (.bad 351)))
        (.bad 351)))))
  | _ => .bad 0
theorem fn_W8_eq (n0 : Int) (n1 : Int) (n2 : Int) (l3 : List (Ty.den (Ty.pair (Ty.int IntKind.u8) (Ty.int IntKind.i64)))) (n4 : Int) (n5 : Int) (n6 : Int) (l7 : List (Ty.den (Ty.pair (Ty.int IntKind.u8) (Ty.int IntKind.i64)))) : ((fun (d : List Dat) => lawB false Try.prog cs_34 4 (lsM [(8, L8_8)] (0)) (instL [inV 0, inV 4] d)) [.n n0, .n n1, .n n2, .l (Ty.pair (Ty.int IntKind.u8) (Ty.int IntKind.i64)) l3, .n n4, .n n5, .n n6, .l (Ty.pair (Ty.int IntKind.u8) (Ty.int IntKind.i64)) l7]).sel = (fn_W8 [.n n0, .n n1, .n n2, .l (Ty.pair (Ty.int IntKind.u8) (Ty.int IntKind.i64)) l3, .n n4, .n n5, .n n6, .l (Ty.pair (Ty.int IntKind.u8) (Ty.int IntKind.i64)) l7]).sel := by kernel_rfl
theorem W8_law (env : List Dat) (h : (fn_W8 env).sel = some true) {w : World} {args : Array Value} (ha : LRel R0 (snapOf w) (instL [inV 0, inV 4] env) args) :
    Calls Try.prog 4 args w fun e w' => e = .returned (.bool true) ∧ Below w.heap.size w w' := by
  refine lawB_ok cs_34_ok hmix false (ls := (lsM [(8, L8_8)] (0))) (ls_8_ok) ?_ ha
  unfold fn_W8 at h
  split at h
  · exact (fn_W8_eq _ _ _ _ _ _ _ _).trans h
  · cases h

def fn_W10 : List Dat → Tree Bool
  | [.l (Ty.str) l0, .l (Ty.pair Ty.str (Ty.int IntKind.i64)) l1, .l (Ty.pair Ty.str (Ty.int IntKind.i64)) l2, .l (Ty.pair Ty.str (Ty.pair (Ty.int IntKind.i64) (Ty.pair (Ty.sl (Ty.int IntKind.i64)) (Ty.pair (Ty.sl (Ty.pair (Ty.int IntKind.i64) Ty.bool)) (Ty.pair (Ty.sl (Ty.int IntKind.i64)) (Ty.sl (Ty.pair (Ty.int IntKind.i64) Ty.bool))))))) l3, .n n4, .n n5, .n n6, .l (Ty.pair (Ty.int IntKind.u8) (Ty.int IntKind.i64)) l7, .n n8, .n n9, .n n10, .l (Ty.pair (Ty.int IntKind.u8) (Ty.int IntKind.i64)) l11] =>
    (.node (decide ((↑(List.length l0) : Int) > (100 : Int)))
     (.leaf (true))
     (.node (decide ((↑(List.length l1) : Int) > (100 : Int)))
      (.leaf (true))
      (.node (decide ((↑(List.length l3) : Int) > (100 : Int)))
       (.leaf (true))
       (.node (decide ((↑(List.length l7) : Int) > (100 : Int)))
        (.leaf (true))
        (.node (decide ((↑(List.length l11) : Int) > (100 : Int)))
         (.leaf (true))
         (let r1 : Option (Nat × List Dat) := (op_31 [.n n4, .n n5, .n n6, .l (Ty.pair (Ty.int IntKind.u8) (Ty.int IntKind.i64)) l7, .n n8, .n n9, .n n10, .l (Ty.pair (Ty.int IntKind.u8) (Ty.int IntKind.i64)) l11]);
          (.node (isK 0 [HK.n, HK.n, HK.n, HK.l (Ty.pair (Ty.int IntKind.u8) (Ty.int IntKind.i64))] r1)
           (let r2 : Option (Nat × List Dat) := (op_35 [.n (gn (dOf r1) 0), .n (gn (dOf r1) 1), .n (gn (dOf r1) 2), .l (Ty.pair (Ty.int IntKind.u8) (Ty.int IntKind.i64)) (gl (Ty.pair (Ty.int IntKind.u8) (Ty.int IntKind.i64)) (dOf r1) 3), .n n4, .n n5, .n n6, .l (Ty.pair (Ty.int IntKind.u8) (Ty.int IntKind.i64)) l7]);
            (.node (isK 0 [HK.b] r2)
             (.node (!gb (dOf r2) 0)
              (.leaf (false))
              (let r3 : Option (Nat × List Dat) := (op_35 [.n (gn (dOf r1) 0), .n (gn (dOf r1) 1), .n (gn (dOf r1) 2), .l (Ty.pair (Ty.int IntKind.u8) (Ty.int IntKind.i64)) (gl (Ty.pair (Ty.int IntKind.u8) (Ty.int IntKind.i64)) (dOf r1) 3), .n n8, .n n9, .n n10, .l (Ty.pair (Ty.int IntKind.u8) (Ty.int IntKind.i64)) l11]);
               (.node (isK 0 [HK.b] r3)
                (.node (!gb (dOf r3) 0)
                 (.leaf (false))
                 (let r4 : Option (Nat × List Dat) := (op_31 [.n n8, .n n9, .n n10, .l (Ty.pair (Ty.int IntKind.u8) (Ty.int IntKind.i64)) l11, .n n4, .n n5, .n n6, .l (Ty.pair (Ty.int IntKind.u8) (Ty.int IntKind.i64)) l7]);
                  (.node (isK 0 [HK.n, HK.n, HK.n, HK.l (Ty.pair (Ty.int IntKind.u8) (Ty.int IntKind.i64))] r4)
                   (let r5 : Option (Nat × List Dat) := (op_30 [.n (gn (dOf r1) 0), .n (gn (dOf r1) 1), .n (gn (dOf r1) 2), .l (Ty.pair (Ty.int IntKind.u8) (Ty.int IntKind.i64)) (gl (Ty.pair (Ty.int IntKind.u8) (Ty.int IntKind.i64)) (dOf r1) 3), .n (gn (dOf r4) 0), .n (gn (dOf r4) 1), .n (gn (dOf r4) 2), .l (Ty.pair (Ty.int IntKind.u8) (Ty.int IntKind.i64)) (gl (Ty.pair (Ty.int IntKind.u8) (Ty.int IntKind.i64)) (dOf r4) 3)]);
                    (.node (isK 0 [HK.b] r5)
                     (.node (!gb (dOf r5) 0)
                      (.leaf (false))
                      (let r6 : Option (Nat × List Dat) := (op_31 [.n n4, .n n5, .n n6, .l (Ty.pair (Ty.int IntKind.u8) (Ty.int IntKind.i64)) l7, .n n4, .n n5, .n n6, .l (Ty.pair (Ty.int IntKind.u8) (Ty.int IntKind.i64)) l7]);
                       (.node (isK 0 [HK.n, HK.n, HK.n, HK.l (Ty.pair (Ty.int IntKind.u8) (Ty.int IntKind.i64))] r6)
                        (let r7 : Option (Nat × List Dat) := (op_30 [.n n4, .n n5, .n n6, .l (Ty.pair (Ty.int IntKind.u8) (Ty.int IntKind.i64)) l7, .n (gn (dOf r6) 0), .n (gn (dOf r6) 1), .n (gn (dOf r6) 2), .l (Ty.pair (Ty.int IntKind.u8) (Ty.int IntKind.i64)) (gl (Ty.pair (Ty.int IntKind.u8) (Ty.int IntKind.i64)) (dOf r6) 3)]);
                         (.node (isK 0 [HK.b] r7)
                          (.node (!gb (dOf r7) 0)
                           (.leaf (false))
                           (let r8 : Option (Nat × List Dat) := (op_33 [.l Ty.str l0, .l (Ty.pair Ty.str (Ty.int IntKind.i64)) l1, .l (Ty.pair Ty.str (Ty.int IntKind.i64)) l2, .l (Ty.pair Ty.str (Ty.pair (Ty.int IntKind.i64) (Ty.pair (Ty.sl (Ty.int IntKind.i64)) (Ty.pair (Ty.sl (Ty.pair (Ty.int IntKind.i64) Ty.bool)) (Ty.pair (Ty.sl (Ty.int IntKind.i64)) (Ty.sl (Ty.pair (Ty.int IntKind.i64) Ty.bool))))))) l3, .n n4, .n n5, .n n6, .l (Ty.pair (Ty.int IntKind.u8) (Ty.int IntKind.i64)) l7]);
                            (.node (isK 0 [HK.b] r8)
                             (.node (!gb (dOf r8) 0)
                              (.leaf (true))
                              (let r9 : Option (Nat × List Dat) := (op_33 [.l Ty.str l0, .l (Ty.pair Ty.str (Ty.int IntKind.i64)) l1, .l (Ty.pair Ty.str (Ty.int IntKind.i64)) l2, .l (Ty.pair Ty.str (Ty.pair (Ty.int IntKind.i64) (Ty.pair (Ty.sl (Ty.int IntKind.i64)) (Ty.pair (Ty.sl (Ty.pair (Ty.int IntKind.i64) Ty.bool)) (Ty.pair (Ty.sl (Ty.int IntKind.i64)) (Ty.sl (Ty.pair (Ty.int IntKind.i64) Ty.bool))))))) l3, .n n8, .n n9, .n n10, .l (Ty.pair (Ty.int IntKind.u8) (Ty.int IntKind.i64)) l11]);
                               (.node (isK 0 [HK.b] r9)
                                (.node (!gb (dOf r9) 0)
                                 (.leaf (true))
                                 (let r10 : Option (Nat × List Dat) := (op_33 [.l Ty.str l0, .l (Ty.pair Ty.str (Ty.int IntKind.i64)) l1, .l (Ty.pair Ty.str (Ty.int IntKind.i64)) l2, .l (Ty.pair Ty.str (Ty.pair (Ty.int IntKind.i64) (Ty.pair (Ty.sl (Ty.int IntKind.i64)) (Ty.pair (Ty.sl (Ty.pair (Ty.int IntKind.i64) Ty.bool)) (Ty.pair (Ty.sl (Ty.int IntKind.i64)) (Ty.sl (Ty.pair (Ty.int IntKind.i64) Ty.bool))))))) l3, .n (gn (dOf r1) 0), .n (gn (dOf r1) 1), .n (gn (dOf r1) 2), .l (Ty.pair (Ty.int IntKind.u8) (Ty.int IntKind.i64)) (gl (Ty.pair (Ty.int IntKind.u8) (Ty.int IntKind.i64)) (dOf r1) 3)]);
                                  (.node (isK 0 [HK.b] r10)
                                   (.node (gb (dOf r10) 0)
                                    (.leaf (true))
                                    (.leaf (false)))
                                   (.bad 351))))
                                (.bad 351))))
                             (.bad 351))))
                          (.bad 351)))
                        (.bad 351))))
                     (.bad 351)))
                   (.bad 351))))
                (.bad 351))))
             (.bad 351)))
           (.bad 351))))))))
  | _ => .bad 0
theorem fn_W10_eq (l0 : List (Ty.den (Ty.str))) (l1 : List (Ty.den (Ty.pair Ty.str (Ty.int IntKind.i64)))) (l2 : List (Ty.den (Ty.pair Ty.str (Ty.int IntKind.i64)))) (l3 : List (Ty.den (Ty.pair Ty.str (Ty.pair (Ty.int IntKind.i64) (Ty.pair (Ty.sl (Ty.int IntKind.i64)) (Ty.pair (Ty.sl (Ty.pair (Ty.int IntKind.i64) Ty.bool)) (Ty.pair (Ty.sl (Ty.int IntKind.i64)) (Ty.sl (Ty.pair (Ty.int IntKind.i64) Ty.bool))))))))) (n4 : Int) (n5 : Int) (n6 : Int) (l7 : List (Ty.den (Ty.pair (Ty.int IntKind.u8) (Ty.int IntKind.i64)))) (n8 : Int) (n9 : Int) (n10 : Int) (l11 : List (Ty.den (Ty.pair (Ty.int IntKind.u8) (Ty.int IntKind.i64)))) : ((fun (d : List Dat) => lawB false Try.prog cs_34 7 ls0 (instL [laV 0, inV 4, inV 8] d)) [.l (Ty.str) l0, .l (Ty.pair Ty.str (Ty.int IntKind.i64)) l1, .l (Ty.pair Ty.str (Ty.int IntKind.i64)) l2, .l (Ty.pair Ty.str (Ty.pair (Ty.int IntKind.i64) (Ty.pair (Ty.sl (Ty.int IntKind.i64)) (Ty.pair (Ty.sl (Ty.pair (Ty.int IntKind.i64) Ty.bool)) (Ty.pair (Ty.sl (Ty.int IntKind.i64)) (Ty.sl (Ty.pair (Ty.int IntKind.i64) Ty.bool))))))) l3, .n n4, .n n5, .n n6, .l (Ty.pair (Ty.int IntKind.u8) (Ty.int IntKind.i64)) l7, .n n8, .n n9, .n n10, .l (Ty.pair (Ty.int IntKind.u8) (Ty.int IntKind.i64)) l11]).sel = (fn_W10 [.l (Ty.str) l0, .l (Ty.pair Ty.str (Ty.int IntKind.i64)) l1, .l (Ty.pair Ty.str (Ty.int IntKind.i64)) l2, .l (Ty.pair Ty.str (Ty.pair (Ty.int IntKind.i64) (Ty.pair (Ty.sl (Ty.int IntKind.i64)) (Ty.pair (Ty.sl (Ty.pair (Ty.int IntKind.i64) Ty.bool)) (Ty.pair (Ty.sl (Ty.int IntKind.i64)) (Ty.sl (Ty.pair (Ty.int IntKind.i64) Ty.bool))))))) l3, .n n4, .n n5, .n n6, .l (Ty.pair (Ty.int IntKind.u8) (Ty.int IntKind.i64)) l7, .n n8, .n n9, .n n10, .l (Ty.pair (Ty.int IntKind.u8) (Ty.int IntKind.i64)) l11]).sel := by kernel_rfl
theorem W10_law (env : List Dat) (h : (fn_W10 env).sel = some true) {w : World} {args : Array Value} (ha : LRel R0 (snapOf w) (instL [laV 0, inV 4, inV 8] env) args) :
    Calls Try.prog 7 args w fun e w' => e = .returned (.bool true) ∧ Below w.heap.size w w' := by
  refine lawB_ok cs_34_ok hmix false (ls := ls0) (LsOk.none _ _ _) ?_ ha
  unfold fn_W10 at h
  split at h
  · exact (fn_W10_eq _ _ _ _ _ _ _ _ _ _ _ _).trans h
  · cases h
end Go.Proofs.Ytfnkldkplkhobaa.Vx.Mg
