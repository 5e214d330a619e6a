import Derived.Test.YtcoamiaifbjofaaVxNil
import Derived.Test.YtcoamiaifbjofaaProg
import Derived.KernelRfl
namespace Go.Proofs.Ytcoamiaifbjofaa.Vx
open Go Go.RowKit
set_option linter.unusedVariables false
set_option maxRecDepth 100000
set_option maxHeartbeats 0

abbrev TCmd : Ty := .pair (.int .u8) (.int .i64)
def inV (h : Nat) : PV := .agg [.int .u64 h, .int .u32 (h+1), .int .u32 (h+2), .imm TCmd (h+3)]
def inO (h b : Nat) : PV := .agg [.int .u64 h, .int .u32 (h+1), .int .u32 (h+2), .own b]
def inB (h : Nat) : PB := .cells [.int .u64 h, .int .u32 (h+1), .int .u32 (h+2), .imm TCmd (h+3)]
def inC (h b : Nat) : PB := .cells [.int .u64 h, .int .u32 (h+1), .int .u32 (h+2), .own b]
theorem hmix : Try.prog.follows .mixedOrders = true := by kernel_rfl
theorem csNone_ok0 : CsOk Try.prog csNone := csNone_ok _

def okc_62 (l : List (Ty.den TCmd)) : Bool := decide ((0 + l.length) * 16 ≤ 140737488355328)
def op_62 : List Dat → Option (Nat × List Dat) := cloneOp TCmd okc_62
def B62 : FBox := mkF [.imm TCmd 0] [] [] [(.own 0, [.arr TCmd 0])] op_62
def cs_62 : FuncId → Option CSpec := csLend 33 B62 csNone
theorem B62_ok : RunOk Try.prog 33 (boxRun B62) :=
  clone_ok (P := Try.prog) (cl := clMd true Try.prog csNone) (clMd_ok csNone_ok0 hmix true) hmix (T := 31) (e := 70) (n := 400) (fn := Try.f33) (by kernel_rfl) (by kernel_rfl) (by kernel_rfl) (by kernel_rfl) TCmd okc_62
    (fun l => [.imm TCmd l, .undef, .nilsl, .undef, .undef, .undef, .undef, .undef]) (fun l => [.imm TCmd l, .undef, .nilsl, .imm TCmd l, .bool true, .undef, .undef, .undef])
    (fun l => [.imm TCmd l, .undef, .own 0 1, .imm TCmd l, .bool false, .own 0 0, .imm TCmd l, .own 0 1]) (fun l => ⟨[.arr TCmd 1 l], [0]⟩) (fun l => .own 0 1)
    (fun l => by kernel_rfl) (fun l => rfl) (fun l => rfl) (fun l => by kernel_rfl) (fun l => by kernel_rfl) (fun l => by kernel_rfl) (fun l => by kernel_rfl) (fun l => by kernel_rfl) (fun l => by kernel_rfl) (by kernel_rfl)
theorem cs_62_ok : CsOk Try.prog cs_62 := csLend_ok csNone_ok0 B62_ok
theorem op_62_is (l : List (Ty.den TCmd)) (h : l.length * 16 ≤ 140737488355328) : op_62 [.l TCmd l] = some (0, [.l TCmd l]) := by
  unfold op_62 cloneOp
  simp only [castL_self]
  have : okc_62 l = true := decide_eq_true (by omega)
  rw [this]; rfl

def op_w : List Dat → Option (Nat × List Dat) := fun _ => some (0, [.b true])
def Bw : FBox := (mkF [] [] [] [(.bool 0, [])] op_w)
def cs_w : FuncId → Option CSpec := csAdd 8 [Bw] cs_62
theorem fn_w_ok (env : List Dat) (y : Nat × List Dat) (h : op_w env = some y) : (boxC true Try.prog cs_62 8 ls0 (mkF [] [] [] [(.bool 0, [])] fun _ => none) env).sel = some y := by
  cases h
  kernel_rfl
theorem Bw_ok : RunOk Try.prog 8 (boxRun Bw) := mkF_ok (op := op_w) cs_62_ok hmix true (LsOk.none _ _ _) fn_w_ok
theorem cs_w_ok : CsOk Try.prog cs_w := csAdd_ok cs_62_ok fun B hB => by
  cases List.mem_singleton.1 hB
  exact Bw_ok

def fn_L60_4 : List Dat → Tree Step
  | [.l (Ty.pair (Ty.int IntKind.u8) (Ty.int IntKind.i64)) l0, .l (Ty.pair (Ty.int IntKind.u8) (Ty.int IntKind.i64)) l1, .n n2, .n n3] =>
    (.node (decide (n3 < n2))
     (.node (inR n3 (List.length l1))
      (.node (inR n3 (List.length l0))
       (.node (!(Prod.fst (List.getD l0 (Int.toNat n3) (Ty.dflt (Ty.pair (Ty.int IntKind.u8) (Ty.int IntKind.i64)))) == Prod.fst (List.getD l1 (Int.toNat n3) (Ty.dflt (Ty.pair (Ty.int IntKind.u8) (Ty.int IntKind.i64)))) && (Prod.snd (List.getD l0 (Int.toNat n3) (Ty.dflt (Ty.pair (Ty.int IntKind.u8) (Ty.int IntKind.i64)))) == Prod.snd (List.getD l1 (Int.toNat n3) (Ty.dflt (Ty.pair (Ty.int IntKind.u8) (Ty.int IntKind.i64)))) && true)))
        (.leaf (Step.stop 1 [.b false]))
        (.leaf (Step.go [.l (Ty.pair (Ty.int IntKind.u8) (Ty.int IntKind.i64)) l0, .l (Ty.pair (Ty.int IntKind.u8) (Ty.int IntKind.i64)) l1, .n n2, .n (IntKind.wrap .i64 (n3 + (1 : Int)))])))
       (.bad 10))
      (.bad 10))
     (.leaf (Step.stop 0 [])))
  | _ => .bad 0
def op_L60_4 : List Dat → Option (Nat × List Dat) := iterS fn_L60_4 FU
def L60_4 : LBox := (mkL 0 [] (sh 26 [(1, .imm TCmd 0), (12, .imm TCmd 1), (13, .int .i64 2), (14, .int .i64 3)]) [] [] [(.exit 0, sh 26 [], []), (.ret, sh 26 [(4, .bool 0)], [])] op_L60_4)
theorem fn_L60_4_eq (l0 : List (Ty.den (Ty.pair (Ty.int IntKind.u8) (Ty.int IntKind.i64)))) (l1 : List (Ty.den (Ty.pair (Ty.int IntKind.u8) (Ty.int IntKind.i64)))) (n2 : Int) (n3 : Int) : (stepC false Try.prog cs_w 34 4 ls0 (mkL 0 [] (sh 26 [(1, .imm TCmd 0), (12, .imm TCmd 1), (13, .int .i64 2), (14, .int .i64 3)]) [] [] [(.exit 0, sh 26 [], []), (.ret, sh 26 [(4, .bool 0)], [])] fun _ => none) [.l (Ty.pair (Ty.int IntKind.u8) (Ty.int IntKind.i64)) l0, .l (Ty.pair (Ty.int IntKind.u8) (Ty.int IntKind.i64)) l1, .n n2, .n n3]).sel = (fn_L60_4 [.l (Ty.pair (Ty.int IntKind.u8) (Ty.int IntKind.i64)) l0, .l (Ty.pair (Ty.int IntKind.u8) (Ty.int IntKind.i64)) l1, .n n2, .n n3]).sel := by kernel_rfl
theorem fn_L60_4_ok (env : List Dat) (y : Step) (h : (fn_L60_4 env).sel = some y) : (stepC false Try.prog cs_w 34 4 ls0 (mkL 0 [] (sh 26 [(1, .imm TCmd 0), (12, .imm TCmd 1), (13, .int .i64 2), (14, .int .i64 3)]) [] [] [(.exit 0, sh 26 [], []), (.ret, sh 26 [(4, .bool 0)], [])] fun _ => none) env).sel = some y := by
  unfold fn_L60_4 at h
  split at h
  · rw [fn_L60_4_eq]; exact h
  · cases h
theorem L60_4_ok (K : Nat) : LsOk Try.prog K (lsTab [(4, L60_4)] K) (bodyOf Try.prog 34) := mkL_ok (st := fn_L60_4) (m := FU) cs_w_ok hmix false (by kernel_rfl) (by kernel_rfl) fn_L60_4_ok
theorem L60_4_run : ∀ t s x, (loopRun L60_4 t s).sel = some x → CodeOk Try.prog 0 (.loop (cAt Try.prog 34 4)) t s x := mkLs_ok (st := fn_L60_4) (m := FU) cs_w_ok hmix false (LsOk.none _ _ _) (by kernel_rfl) fn_L60_4_ok

def fn_60 : List Dat → Tree (Nat × List Dat)
  | [.l (Ty.pair (Ty.int IntKind.u8) (Ty.int IntKind.i64)) l0, .l (Ty.pair (Ty.int IntKind.u8) (Ty.int IntKind.i64)) l1] =>
    (.node ((↑(List.length l0) : Int) != (↑(List.length l1) : Int))
     (.leaf ((0, [.b false])))
     (let r1 : Option (Nat × List Dat) := (op_L60_4 [.l (Ty.pair (Ty.int IntKind.u8) (Ty.int IntKind.i64)) l1, .l (Ty.pair (Ty.int IntKind.u8) (Ty.int IntKind.i64)) l0, .n (↑(List.length l0) : Int), .n (0 : Int)]);
      (.node (isK 0 [] r1)
       (.leaf ((0, [.b true])))
       (.node (isK 1 [HK.b] r1)
        (.leaf ((0, [.b (gb (dOf r1) 0)])))
        (.bad 351)))))
  | _ => .bad 0
def op_60 : List Dat → Option (Nat × List Dat) := fun env => (fn_60 env).sel
def B60 : FBox := (mkF [.imm TCmd 0, .imm TCmd 1] [] [] [(.bool 0, [])] op_60)
def cs_60 : FuncId → Option CSpec := csLend 34 B60 cs_w
theorem fn_60_eq (l0 : List (Ty.den (Ty.pair (Ty.int IntKind.u8) (Ty.int IntKind.i64)))) (l1 : List (Ty.den (Ty.pair (Ty.int IntKind.u8) (Ty.int IntKind.i64)))) : (boxC false Try.prog cs_w 34 (lsTab [(4, L60_4)] (List.length ([] : List PB))) (mkF [.imm TCmd 0, .imm TCmd 1] [] [] [(.bool 0, [])] fun _ => none) [.l (Ty.pair (Ty.int IntKind.u8) (Ty.int IntKind.i64)) l0, .l (Ty.pair (Ty.int IntKind.u8) (Ty.int IntKind.i64)) l1]).sel = (fn_60 [.l (Ty.pair (Ty.int IntKind.u8) (Ty.int IntKind.i64)) l0, .l (Ty.pair (Ty.int IntKind.u8) (Ty.int IntKind.i64)) l1]).sel := by kernel_rfl
theorem fn_60_ok (env : List Dat) (y : Nat × List Dat) (h : (fn_60 env).sel = some y) : (boxC false Try.prog cs_w 34 (lsTab [(4, L60_4)] (List.length ([] : List PB))) (mkF [.imm TCmd 0, .imm TCmd 1] [] [] [(.bool 0, [])] fun _ => none) env).sel = some y := by
  unfold fn_60 at h
  split at h
  · rw [fn_60_eq]; exact h
  · cases h
theorem B60_ok : RunOk Try.prog 34 (boxRun B60) := mkF_ok (op := op_60) cs_w_ok hmix false (L60_4_ok _) fn_60_ok
theorem cs_60_ok : CsOk Try.prog cs_60 := csLend_ok cs_w_ok B60_ok

def fn_L61_4 : List Dat → Tree Step
  | [.l (Ty.pair (Ty.int IntKind.u8) (Ty.int IntKind.i64)) l0, .l (Ty.pair (Ty.int IntKind.u8) (Ty.int IntKind.i64)) l1, .n n2] =>
    (.node (decide (n2 < (↑(List.length l0) : Int)))
     (.node (inR n2 (List.length l0))
      (.node (inR n2 (List.length l1))
       (.node (!(Prod.fst (List.getD l0 (Int.toNat n2) (Ty.dflt (Ty.pair (Ty.int IntKind.u8) (Ty.int IntKind.i64)))) == Prod.fst (List.getD l1 (Int.toNat n2) (Ty.dflt (Ty.pair (Ty.int IntKind.u8) (Ty.int IntKind.i64)))) && (Prod.snd (List.getD l0 (Int.toNat n2) (Ty.dflt (Ty.pair (Ty.int IntKind.u8) (Ty.int IntKind.i64)))) == Prod.snd (List.getD l1 (Int.toNat n2) (Ty.dflt (Ty.pair (Ty.int IntKind.u8) (Ty.int IntKind.i64)))) && true)))
        (.leaf (Step.stop 1 [.b false]))
        (.leaf (Step.go [.l (Ty.pair (Ty.int IntKind.u8) (Ty.int IntKind.i64)) l0, .l (Ty.pair (Ty.int IntKind.u8) (Ty.int IntKind.i64)) l1, .n (IntKind.wrap .i64 (n2 + (1 : Int)))])))
       (.bad 10))
      (.bad 10))
     (.leaf (Step.stop 0 [])))
  | _ => .bad 0
def op_L61_4 : List Dat → Option (Nat × List Dat) := iterS fn_L61_4 FU
def L61_4 : LBox := (mkL 0 [] (sh 26 [(0, .imm TCmd 0), (1, .imm TCmd 1), (5, .int .i64 2)]) [] [] [(.exit 0, sh 26 [], []), (.ret, sh 26 [(4, .bool 0)], [])] op_L61_4)
theorem fn_L61_4_eq (l0 : List (Ty.den (Ty.pair (Ty.int IntKind.u8) (Ty.int IntKind.i64)))) (l1 : List (Ty.den (Ty.pair (Ty.int IntKind.u8) (Ty.int IntKind.i64)))) (n2 : Int) : (stepC false Try.prog cs_60 32 4 ls0 (mkL 0 [] (sh 26 [(0, .imm TCmd 0), (1, .imm TCmd 1), (5, .int .i64 2)]) [] [] [(.exit 0, sh 26 [], []), (.ret, sh 26 [(4, .bool 0)], [])] fun _ => none) [.l (Ty.pair (Ty.int IntKind.u8) (Ty.int IntKind.i64)) l0, .l (Ty.pair (Ty.int IntKind.u8) (Ty.int IntKind.i64)) l1, .n n2]).sel = (fn_L61_4 [.l (Ty.pair (Ty.int IntKind.u8) (Ty.int IntKind.i64)) l0, .l (Ty.pair (Ty.int IntKind.u8) (Ty.int IntKind.i64)) l1, .n n2]).sel := by kernel_rfl
theorem fn_L61_4_ok (env : List Dat) (y : Step) (h : (fn_L61_4 env).sel = some y) : (stepC false Try.prog cs_60 32 4 ls0 (mkL 0 [] (sh 26 [(0, .imm TCmd 0), (1, .imm TCmd 1), (5, .int .i64 2)]) [] [] [(.exit 0, sh 26 [], []), (.ret, sh 26 [(4, .bool 0)], [])] fun _ => none) env).sel = some y := by
  unfold fn_L61_4 at h
  split at h
  · rw [fn_L61_4_eq]; exact h
  · cases h
theorem L61_4_ok (K : Nat) : LsOk Try.prog K (lsTab [(4, L61_4)] K) (bodyOf Try.prog 32) := mkL_ok (st := fn_L61_4) (m := FU) cs_60_ok hmix false (by kernel_rfl) (by kernel_rfl) fn_L61_4_ok
theorem L61_4_run : ∀ t s x, (loopRun L61_4 t s).sel = some x → CodeOk Try.prog 0 (.loop (cAt Try.prog 32 4)) t s x := mkLs_ok (st := fn_L61_4) (m := FU) cs_60_ok hmix false (LsOk.none _ _ _) (by kernel_rfl) fn_L61_4_ok

def fn_61 : List Dat → Tree (Nat × List Dat)
  | [.l (Ty.pair (Ty.int IntKind.u8) (Ty.int IntKind.i64)) l0, .l (Ty.pair (Ty.int IntKind.u8) (Ty.int IntKind.i64)) l1] =>
    (.node ((↑(List.length l0) : Int) != (↑(List.length l1) : Int))
     (.leaf ((0, [.b false])))
     (let r1 : Option (Nat × List Dat) := (op_L61_4 [.l (Ty.pair (Ty.int IntKind.u8) (Ty.int IntKind.i64)) l0, .l (Ty.pair (Ty.int IntKind.u8) (Ty.int IntKind.i64)) l1, .n (0 : Int)]);
      (.node (isK 0 [] r1)
       (.leaf ((0, [.b true])))
       (.node (isK 1 [HK.b] r1)
        (.leaf ((0, [.b (gb (dOf r1) 0)])))
        (.bad 351)))))
  | _ => .bad 0
def op_61 : List Dat → Option (Nat × List Dat) := fun env => (fn_61 env).sel
def B61 : FBox := (mkF [.imm TCmd 0, .imm TCmd 1] [] [] [(.bool 0, [])] op_61)
def cs_61 : FuncId → Option CSpec := csLend 32 B61 cs_60
theorem fn_61_eq (l0 : List (Ty.den (Ty.pair (Ty.int IntKind.u8) (Ty.int IntKind.i64)))) (l1 : List (Ty.den (Ty.pair (Ty.int IntKind.u8) (Ty.int IntKind.i64)))) : (boxC false Try.prog cs_60 32 (lsTab [(4, L61_4)] (List.length ([] : List PB))) (mkF [.imm TCmd 0, .imm TCmd 1] [] [] [(.bool 0, [])] fun _ => none) [.l (Ty.pair (Ty.int IntKind.u8) (Ty.int IntKind.i64)) l0, .l (Ty.pair (Ty.int IntKind.u8) (Ty.int IntKind.i64)) l1]).sel = (fn_61 [.l (Ty.pair (Ty.int IntKind.u8) (Ty.int IntKind.i64)) l0, .l (Ty.pair (Ty.int IntKind.u8) (Ty.int IntKind.i64)) l1]).sel := by kernel_rfl
theorem fn_61_ok (env : List Dat) (y : Nat × List Dat) (h : (fn_61 env).sel = some y) : (boxC false Try.prog cs_60 32 (lsTab [(4, L61_4)] (List.length ([] : List PB))) (mkF [.imm TCmd 0, .imm TCmd 1] [] [] [(.bool 0, [])] fun _ => none) env).sel = some y := by
  unfold fn_61 at h
  split at h
  · rw [fn_61_eq]; exact h
  · cases h
theorem B61_ok : RunOk Try.prog 32 (boxRun B61) := mkF_ok (op := op_61) cs_60_ok hmix false (L61_4_ok _) fn_61_ok
theorem cs_61_ok : CsOk Try.prog cs_61 := csLend_ok cs_60_ok B61_ok

def fn_29 : List Dat → Tree (Nat × List Dat)
  | [.n n0, .n n1, .n n2, .l (Ty.pair (Ty.int IntKind.u8) (Ty.int IntKind.i64)) l3, .n n4, .n n5, .n n6, .l (Ty.pair (Ty.int IntKind.u8) (Ty.int IntKind.i64)) l7] =>
    (.node (n0 == n4)
     (.node (n1 == n5)
      (.node (n2 == n6)
       (let r1 : Option (Nat × List Dat) := (op_60 [.l (Ty.pair (Ty.int IntKind.u8) (Ty.int IntKind.i64)) l3, .l (Ty.pair (Ty.int IntKind.u8) (Ty.int IntKind.i64)) l7]);
        (.node (isK 0 [HK.b] r1)
         (.leaf ((0, [.b (gb (dOf r1) 0)])))
         (.bad 351)))
       (.leaf ((0, [.b false]))))
      (.leaf ((0, [.b false]))))
     (.leaf ((0, [.b false]))))
  | _ => .bad 0
def op_29 : List Dat → Option (Nat × List Dat) := fun env => (fn_29 env).sel
def B29 : FBox := (mkF [inV 0, inV 4] [] [] [(.bool 0, [])] op_29)
def cs_29 : FuncId → Option CSpec := csLend 28 B29 cs_61
theorem fn_29_eq (n0 : Int) (n1 : Int) (n2 : Int) (l3 : List (Ty.den (Ty.pair (Ty.int IntKind.u8) (Ty.int IntKind.i64)))) (n4 : Int) (n5 : Int) (n6 : Int) (l7 : List (Ty.den (Ty.pair (Ty.int IntKind.u8) (Ty.int IntKind.i64)))) : (boxC false Try.prog cs_61 28 ls0 (mkF [inV 0, inV 4] [] [] [(.bool 0, [])] fun _ => none) [.n n0, .n n1, .n n2, .l (Ty.pair (Ty.int IntKind.u8) (Ty.int IntKind.i64)) l3, .n n4, .n n5, .n n6, .l (Ty.pair (Ty.int IntKind.u8) (Ty.int IntKind.i64)) l7]).sel = (fn_29 [.n n0, .n n1, .n n2, .l (Ty.pair (Ty.int IntKind.u8) (Ty.int IntKind.i64)) l3, .n n4, .n n5, .n n6, .l (Ty.pair (Ty.int IntKind.u8) (Ty.int IntKind.i64)) l7]).sel := by kernel_rfl
theorem fn_29_ok (env : List Dat) (y : Nat × List Dat) (h : (fn_29 env).sel = some y) : (boxC false Try.prog cs_61 28 ls0 (mkF [inV 0, inV 4] [] [] [(.bool 0, [])] fun _ => none) env).sel = some y := by
  unfold fn_29 at h
  split at h
  · rw [fn_29_eq]; exact h
  · cases h
theorem B29_ok : RunOk Try.prog 28 (boxRun B29) := mkF_ok (op := op_29) cs_61_ok hmix false (LsOk.none _ _ _) fn_29_ok
theorem cs_29_ok : CsOk Try.prog cs_29 := csLend_ok cs_61_ok B29_ok

def fn_30 : List Dat → Tree (Nat × List Dat)
  | [.n n0, .n n1, .n n2, .l (Ty.pair (Ty.int IntKind.u8) (Ty.int IntKind.i64)) l3, .n n4, .n n5, .n n6, .l (Ty.pair (Ty.int IntKind.u8) (Ty.int IntKind.i64)) l7] =>
    (.node (n0 == n4)
     (.node (n1 == n5)
      (.node (n2 == n6)
       (let r1 : Option (Nat × List Dat) := (op_61 [.l (Ty.pair (Ty.int IntKind.u8) (Ty.int IntKind.i64)) l3, .l (Ty.pair (Ty.int IntKind.u8) (Ty.int IntKind.i64)) l7]);
        (.node (isK 0 [HK.b] r1)
         (.leaf ((0, [.b (gb (dOf r1) 0)])))
         (.bad 351)))
       (.leaf ((0, [.b false]))))
      (.leaf ((0, [.b false]))))
     (.leaf ((0, [.b false]))))
  | _ => .bad 0
def op_30 : List Dat → Option (Nat × List Dat) := fun env => (fn_30 env).sel
def B30 : FBox := (mkF [inV 0, inV 4] [] [] [(.bool 0, [])] op_30)
def cs_30 : FuncId → Option CSpec := csLend 22 B30 cs_29
theorem fn_30_eq (n0 : Int) (n1 : Int) (n2 : Int) (l3 : List (Ty.den (Ty.pair (Ty.int IntKind.u8) (Ty.int IntKind.i64)))) (n4 : Int) (n5 : Int) (n6 : Int) (l7 : List (Ty.den (Ty.pair (Ty.int IntKind.u8) (Ty.int IntKind.i64)))) : (boxC false Try.prog cs_29 22 ls0 (mkF [inV 0, inV 4] [] [] [(.bool 0, [])] fun _ => none) [.n n0, .n n1, .n n2, .l (Ty.pair (Ty.int IntKind.u8) (Ty.int IntKind.i64)) l3, .n n4, .n n5, .n n6, .l (Ty.pair (Ty.int IntKind.u8) (Ty.int IntKind.i64)) l7]).sel = (fn_30 [.n n0, .n n1, .n n2, .l (Ty.pair (Ty.int IntKind.u8) (Ty.int IntKind.i64)) l3, .n n4, .n n5, .n n6, .l (Ty.pair (Ty.int IntKind.u8) (Ty.int IntKind.i64)) l7]).sel := by kernel_rfl
theorem fn_30_ok (env : List Dat) (y : Nat × List Dat) (h : (fn_30 env).sel = some y) : (boxC false Try.prog cs_29 22 ls0 (mkF [inV 0, inV 4] [] [] [(.bool 0, [])] fun _ => none) env).sel = some y := by
  unfold fn_30 at h
  split at h
  · rw [fn_30_eq]; exact h
  · cases h
theorem B30_ok : RunOk Try.prog 22 (boxRun B30) := mkF_ok (op := op_30) cs_29_ok hmix false (LsOk.none _ _ _) fn_30_ok
theorem cs_30_ok : CsOk Try.prog cs_30 := csLend_ok cs_29_ok B30_ok

def fn_31 : List Dat → Tree (Nat × List Dat)
  | [.n n0, .n n1, .n n2, .l (Ty.pair (Ty.int IntKind.u8) (Ty.int IntKind.i64)) l3, .n n4, .n n5, .n n6, .l (Ty.pair (Ty.int IntKind.u8) (Ty.int IntKind.i64)) l7] =>
    (let r1 : Option (Nat × List Dat) := (op_60 [.l (Ty.pair (Ty.int IntKind.u8) (Ty.int IntKind.i64)) l3, .l (Ty.pair (Ty.int IntKind.u8) (Ty.int IntKind.i64)) l7]);
     (.node (isK 0 [HK.b] r1)
      (.node (gb (dOf r1) 0)
       (let r2 : Option (Nat × List Dat) := (op_62 [.l (Ty.pair (Ty.int IntKind.u8) (Ty.int IntKind.i64)) l3]);
        (.node (isK 0 [HK.l (Ty.pair (Ty.int IntKind.u8) (Ty.int IntKind.i64))] r2)
         (.leaf ((0, [.n (ior IntKind.u64 n0 n4), .n (iand IntKind.u32 n1 n5), .n (iand IntKind.u32 n2 n6), .l (Ty.pair (Ty.int IntKind.u8) (Ty.int IntKind.i64)) (gl (Ty.pair (Ty.int IntKind.u8) (Ty.int IntKind.i64)) (dOf r2) 0)])))
         (.bad 351)))
       (.leaf ((0, [.n (ior IntKind.u64 n0 n4), .n (iand IntKind.u32 n1 n5), .n (iand IntKind.u32 n2 n6), .l (Ty.pair (Ty.int IntKind.u8) (Ty.int IntKind.i64)) []]))))
      (.bad 351)))
  | _ => .bad 0
def op_31 : List Dat → Option (Nat × List Dat) := fun env => (fn_31 env).sel
def B31 : FBox := (mkF [inV 0, inV 4] [] [] [(inO 0 0, [.arr TCmd 3])] op_31)
def cs_31 : FuncId → Option CSpec := csLend 30 B31 cs_30
theorem fn_31_eq (n0 : Int) (n1 : Int) (n2 : Int) (l3 : List (Ty.den (Ty.pair (Ty.int IntKind.u8) (Ty.int IntKind.i64)))) (n4 : Int) (n5 : Int) (n6 : Int) (l7 : List (Ty.den (Ty.pair (Ty.int IntKind.u8) (Ty.int IntKind.i64)))) : (boxCN [(3, TCmd)] false Try.prog cs_30 30 ls0 (mkF [inV 0, inV 4] [] [] [(inO 0 0, [.arr TCmd 3])] fun _ => none) [.n n0, .n n1, .n n2, .l (Ty.pair (Ty.int IntKind.u8) (Ty.int IntKind.i64)) l3, .n n4, .n n5, .n n6, .l (Ty.pair (Ty.int IntKind.u8) (Ty.int IntKind.i64)) l7]).sel = (fn_31 [.n n0, .n n1, .n n2, .l (Ty.pair (Ty.int IntKind.u8) (Ty.int IntKind.i64)) l3, .n n4, .n n5, .n n6, .l (Ty.pair (Ty.int IntKind.u8) (Ty.int IntKind.i64)) l7]).sel := by kernel_rfl
theorem fn_31_ok (env : List Dat) (y : Nat × List Dat) (h : (fn_31 env).sel = some y) : (boxCN [(3, TCmd)] false Try.prog cs_30 30 ls0 (mkF [inV 0, inV 4] [] [] [(inO 0 0, [.arr TCmd 3])] fun _ => none) env).sel = some y := by
  unfold fn_31 at h
  split at h
  · rw [fn_31_eq]; exact h
  · cases h
theorem B31_ok : RunOk Try.prog 30 (boxRun B31) := mkFN_ok (nils := [(3, TCmd)]) (op := op_31) cs_30_ok hmix false (LsOk.none _ _ _) fn_31_ok
theorem cs_31_ok : CsOk Try.prog cs_31 := csLend_ok cs_30_ok B31_ok

def fn_32 : List Dat → Tree (Nat × List Dat)
  | [.n n0, .n n1, .n n2, .l (Ty.pair (Ty.int IntKind.u8) (Ty.int IntKind.i64)) l3, .n n4, .n n5, .n n6, .l (Ty.pair (Ty.int IntKind.u8) (Ty.int IntKind.i64)) l7] =>
    (let r1 : Option (Nat × List Dat) := (op_61 [.l (Ty.pair (Ty.int IntKind.u8) (Ty.int IntKind.i64)) l3, .l (Ty.pair (Ty.int IntKind.u8) (Ty.int IntKind.i64)) l7]);
     (.node (isK 0 [HK.b] r1)
      (.node (gb (dOf r1) 0)
       (.node (decide (List.length l3 * 16 ≤ 140737488355328))
        (.leaf ((0, [.n (ior IntKind.u64 n0 n4), .n (iand IntKind.u32 n1 n5), .n (iand IntKind.u32 n2 n6), .l (Ty.pair (Ty.int IntKind.u8) (Ty.int IntKind.i64)) l3])))
        (.bad 60))
       (.leaf ((0, [.n (ior IntKind.u64 n0 n4), .n (iand IntKind.u32 n1 n5), .n (iand IntKind.u32 n2 n6), .l (Ty.pair (Ty.int IntKind.u8) (Ty.int IntKind.i64)) []]))))
      (.bad 351)))
  | _ => .bad 0
def op_32 : List Dat → Option (Nat × List Dat) := fun env => (fn_32 env).sel
def B32 : FBox := (mkF [inV 0, inV 4] [] [] [(inO 0 0, [.arr TCmd 3])] op_32)
def cs_32 : FuncId → Option CSpec := csLend 31 B32 cs_31
theorem fn_32_eq (n0 : Int) (n1 : Int) (n2 : Int) (l3 : List (Ty.den (Ty.pair (Ty.int IntKind.u8) (Ty.int IntKind.i64)))) (n4 : Int) (n5 : Int) (n6 : Int) (l7 : List (Ty.den (Ty.pair (Ty.int IntKind.u8) (Ty.int IntKind.i64)))) : (boxCN [(3, TCmd)] false Try.prog cs_31 31 ls0 (mkF [inV 0, inV 4] [] [] [(inO 0 0, [.arr TCmd 3])] fun _ => none) [.n n0, .n n1, .n n2, .l (Ty.pair (Ty.int IntKind.u8) (Ty.int IntKind.i64)) l3, .n n4, .n n5, .n n6, .l (Ty.pair (Ty.int IntKind.u8) (Ty.int IntKind.i64)) l7]).sel = (fn_32 [.n n0, .n n1, .n n2, .l (Ty.pair (Ty.int IntKind.u8) (Ty.int IntKind.i64)) l3, .n n4, .n n5, .n n6, .l (Ty.pair (Ty.int IntKind.u8) (Ty.int IntKind.i64)) l7]).sel := by kernel_rfl
theorem fn_32_ok (env : List Dat) (y : Nat × List Dat) (h : (fn_32 env).sel = some y) : (boxCN [(3, TCmd)] false Try.prog cs_31 31 ls0 (mkF [inV 0, inV 4] [] [] [(inO 0 0, [.arr TCmd 3])] fun _ => none) env).sel = some y := by
  unfold fn_32 at h
  split at h
  · rw [fn_32_eq]; exact h
  · cases h
theorem B32_ok : RunOk Try.prog 31 (boxRun B32) := mkFN_ok (nils := [(3, TCmd)]) (op := op_32) cs_31_ok hmix false (LsOk.none _ _ _) fn_32_ok
theorem cs_32_ok : CsOk Try.prog cs_32 := csLend_ok cs_31_ok B32_ok
end Go.Proofs.Ytcoamiaifbjofaa.Vx
