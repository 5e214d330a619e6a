import Derived.Test.YtkclmlcfdijbmaaVxIm
import Derived.Test.YtkclmlcfdijbmaaVxLk
import Derived.KernelRfl
namespace Go.Proofs.Ytkclmlcfdijbmaa.Vx.Fe
open Go Go.RowKit
set_option linter.unusedVariables false
set_option linter.unusedSimpArgs false
set_option maxRecDepth 100000
set_option maxHeartbeats 0

abbrev TCall24 : Ty := .pair (.int .u8) (.pair (.int .i64) (.pair (.int .u8) (.pair (.int .i64) (.pair (.int .i64) (.pair (.int .u64) (.pair (.int .u32) (.pair (.int .u64) (.pair (.int .u64) (.pair (.int .u64) (.pair (.arr 64 (.int .u8)) (.int .u32)))))))))))
def rlA (h : Nat) : PB := .cells [.int .i64 h, .int .i64 (h+1), .nilif, .int .u64 (h+2), .int .u32 (h+3), .int .i64 (h+4), .int .i64 (h+5), .int .u64 (h+6), .int .u64 (h+7), .int .u64 (h+8), .arrd (.int .u8) 64 (h+9), .int .u32 (h+10), .bool (h+11), .int .i64 (h+12), .int .i64 (h+13), .bool (h+14)]
def rlB (h : Nat) : PB := .cells [.int .i64 h, .int .i64 (h+1), .iface 2 (.int .i64 (h+2)), .int .u64 (h+3), .int .u32 (h+4), .int .i64 (h+5), .int .i64 (h+6), .int .u64 (h+7), .int .u64 (h+8), .int .u64 (h+9), .arrd (.int .u8) 64 (h+10), .int .u32 (h+11), .bool (h+12), .int .i64 (h+13), .int .i64 (h+14), .bool (h+15)]
def rmB (h : Nat) : PB := .cells [.int .i64 h, .int .i64 (h+1), .bool (h+2), .int .i64 (h+3), .int .i64 (h+4), .int .i64 (h+5), .int .u64 (h+6), .int .u32 (h+7), .bool (h+8), .int .u64 (h+9), .int .u64 (h+10), .int .u64 (h+11), .arrd (.int .u8) 64 (h+12), .int .u32 (h+13), .int .i64 (h+14), .int .i64 (h+15)]
def foV (h : Nat) : PV := .agg [.int .u8 h, .int .i64 (h+1), .int .i64 (h+2), .int .u64 (h+3), .int .u32 (h+4)]
def stV (h : Nat) : PV := .agg [.int .u64 h, .int .u64 (h+1), .int .u64 (h+2), .arrd (.int .u8) 64 (h+3), .int .u32 (h+4)]
def ouV (h : Nat) : PV := .agg [.int .u64 h, .int .u32 (h+1)]
def cl_1 (l : List (Ty.den TCall24)) (i : Int) : Int := Prod.fst (List.getD l (Int.toNat i) (Ty.dflt TCall24))
def cl_2 (l : List (Ty.den TCall24)) (i : Int) : Int := Prod.fst (Prod.snd (List.getD l (Int.toNat i) (Ty.dflt TCall24)))
def cl_3 (l : List (Ty.den TCall24)) (i : Int) : Int := Prod.fst (Prod.snd (Prod.snd (List.getD l (Int.toNat i) (Ty.dflt TCall24))))
def cl_4 (l : List (Ty.den TCall24)) (i : Int) : Int := Prod.fst (Prod.snd (Prod.snd (Prod.snd (List.getD l (Int.toNat i) (Ty.dflt TCall24)))))
def cl_5 (l : List (Ty.den TCall24)) (i : Int) : Int := Prod.fst (Prod.snd (Prod.snd (Prod.snd (Prod.snd (List.getD l (Int.toNat i) (Ty.dflt TCall24))))))
def cl_6 (l : List (Ty.den TCall24)) (i : Int) : Int := Prod.fst (Prod.snd (Prod.snd (Prod.snd (Prod.snd (Prod.snd (List.getD l (Int.toNat i) (Ty.dflt TCall24)))))))
def cl_7 (l : List (Ty.den TCall24)) (i : Int) : Int := Prod.fst (Prod.snd (Prod.snd (Prod.snd (Prod.snd (Prod.snd (Prod.snd (List.getD l (Int.toNat i) (Ty.dflt TCall24))))))))
def cl_8 (l : List (Ty.den TCall24)) (i : Int) : Int := Prod.fst (Prod.snd (Prod.snd (Prod.snd (Prod.snd (Prod.snd (Prod.snd (Prod.snd (List.getD l (Int.toNat i) (Ty.dflt TCall24)))))))))
def cl_9 (l : List (Ty.den TCall24)) (i : Int) : Int := Prod.fst (Prod.snd (Prod.snd (Prod.snd (Prod.snd (Prod.snd (Prod.snd (Prod.snd (Prod.snd (List.getD l (Int.toNat i) (Ty.dflt TCall24))))))))))
def cl_10 (l : List (Ty.den TCall24)) (i : Int) : Int := Prod.fst (Prod.snd (Prod.snd (Prod.snd (Prod.snd (Prod.snd (Prod.snd (Prod.snd (Prod.snd (Prod.snd (List.getD l (Int.toNat i) (Ty.dflt TCall24)))))))))))
def cl_11 (l : List (Ty.den TCall24)) (i : Int) : List Int := Prod.fst (Prod.snd (Prod.snd (Prod.snd (Prod.snd (Prod.snd (Prod.snd (Prod.snd (Prod.snd (Prod.snd (Prod.snd (List.getD l (Int.toNat i) (Ty.dflt TCall24))))))))))))
def cl_12 (l : List (Ty.den TCall24)) (i : Int) : Int := Prod.snd (Prod.snd (Prod.snd (Prod.snd (Prod.snd (Prod.snd (Prod.snd (Prod.snd (Prod.snd (Prod.snd (Prod.snd (List.getD l (Int.toNat i) (Ty.dflt TCall24))))))))))))
theorem hmix : Try.prog.follows .mixedOrders = true := by kernel_rfl
theorem csNone_ok0 : CsOk Try.prog csNone := csNone_ok _

def op_28 : List Dat → Option (Nat × List Dat) := fun _ => some (0, [.b true])
def B28 : FBox := mkF [] [] [] [(.bool 0, [])] op_28
theorem fn_28_ok (env : List Dat) (y : Nat × List Dat) (h : op_28 env = some y) : (boxC true Try.prog csNone 28 ls0 (mkF [] [] [] [(.bool 0, [])] fun _ => none) env).sel = some y := by
  cases h
  rw [← boxC_lk]
  kernel_rfl
theorem B28_ok : RunOk Try.prog 28 (boxRun B28) := mkF_ok (op := op_28) csNone_ok0 hmix true (LsOk.none _ _ _) fn_28_ok

noncomputable def cs_28 : FuncId → Option CSpec := csAdd 28 [B28] csNone
theorem cs_28_ok : CsOk Try.prog cs_28 := csAdd_ok csNone_ok0 fun B hB => by
  cases List.mem_singleton.1 hB
  exact B28_ok

noncomputable def st_L6_11 (env : List Dat) : Tree Step := Lk.stepMC false LK cs_28 6 11 ls0 (mkM 0 [] [(sh 210 [(0, .int .u8 0), (1, .imm TCall24 1), (5, .ptr 0 0), (7, .int .i64 2), (8, .int .i64 3), (9, .int .i64 4), (10, .int .i64 5), (11, .ptr 1 0), (12, .bool 6), (13, .int .i64 7)], [rlA 8, .cells [.int .u64 23, .int .u32 24]]), (sh 210 [(0, .int .u8 0), (1, .imm TCall24 1), (5, .ptr 0 0), (7, .int .i64 2), (8, .int .i64 3), (9, .int .i64 4), (10, .int .i64 5), (11, .ptr 1 0), (12, .bool 6), (13, .int .i64 7)], [rlB 8, .cells [.int .u64 24, .int .u32 25]])] [] [(.exit 0, sh 210 [], []), (.ret, sh 210 [(4, .bool 0)], [])] fun _ => none) env
noncomputable def op_L6_11 : List Dat → Option (Nat × List Dat) := iterS st_L6_11 FU
noncomputable def L6_11 : MBox := mkM 0 [] [(sh 210 [(0, .int .u8 0), (1, .imm TCall24 1), (5, .ptr 0 0), (7, .int .i64 2), (8, .int .i64 3), (9, .int .i64 4), (10, .int .i64 5), (11, .ptr 1 0), (12, .bool 6), (13, .int .i64 7)], [rlA 8, .cells [.int .u64 23, .int .u32 24]]), (sh 210 [(0, .int .u8 0), (1, .imm TCall24 1), (5, .ptr 0 0), (7, .int .i64 2), (8, .int .i64 3), (9, .int .i64 4), (10, .int .i64 5), (11, .ptr 1 0), (12, .bool 6), (13, .int .i64 7)], [rlB 8, .cells [.int .u64 24, .int .u32 25]])] [] [(.exit 0, sh 210 [], []), (.ret, sh 210 [(4, .bool 0)], [])] op_L6_11
theorem L6_11_run : ∀ t s x, (manyRun L6_11 t s).sel = some x → CodeOk Try.prog 0 (.loop (cAt Try.prog 6 11)) t s x := mkM_ok (st := st_L6_11) (m := FU) cs_28_ok hmix false (LsOk.none _ _ _) (by kernel_rfl) (fun env y h => by rw [← stepMC_lk]; exact h)
theorem op_L6_11_eq (env : List Dat) : op_L6_11 env = iterS st_L6_11 FU env := by kernel_rfl
theorem op_L6_11_good {p : Nat × List Dat → Prop} (Inv : List Dat → Prop) (μ : List Dat → Nat) (h : ∀ env, Inv env → Good (fun y => match y with | .go e => Inv e ∧ μ e < μ env | .stop k d => p (k, d)) (st_L6_11 env).sel) (env : List Dat) (hi : Inv env) (hm : μ env < FU) : Good p (op_L6_11 env) := by
  rw [op_L6_11_eq]
  exact iterS_good Inv μ p h FU env hi hm

noncomputable def fn_L6_11_ZT : List Dat → Tree Step
  | [.n n0, .l (Ty.pair (Ty.int IntKind.u8) (Ty.pair (Ty.int IntKind.i64) (Ty.pair (Ty.int IntKind.u8) (Ty.pair (Ty.int IntKind.i64) (Ty.pair (Ty.int IntKind.i64) (Ty.pair (Ty.int IntKind.u64) (Ty.pair (Ty.int IntKind.u32) (Ty.pair (Ty.int IntKind.u64) (Ty.pair (Ty.int IntKind.u64) (Ty.pair (Ty.int IntKind.u64) (Ty.pair (Ty.arr 64 (Ty.int IntKind.u8)) (Ty.int IntKind.u32)))))))))))) l1, .n n2, .n n3, .n n4, .n n5, .n n6, .n n7, .n n8, .n n9, .n n10, .n n11, .l (Ty.int IntKind.u8) l12, .n n13, .b b14, .n n15, .n n16] =>
    (.node (Int.tmod (cl_1 l1 n4) (8 : Int) == (3 : Int))
     (.node (decide ((cl_2 l1 n4 : Int) < (0 : Int)))
      (.leaf (Step.go [.k 0, .n n0, .l TCall24 l1, .n (0 : Int), .n (-1 : Int), .n n15, .n (-1 : Int), .b false, .n (IntKind.wrap .i64 (n4 + (1 : Int))), .n (0 : Int), .n (-1 : Int), .n (0 : Int), .n n6, .n n7, .n n8, .n n9, .n n10, .n n11, .l (Ty.int IntKind.u8) l12, .n n13, .b b14, .n n15, .n n16, .b true, .n n5, .n n6]))
      (.node (decide ((cl_2 l1 n4 : Int) > (1 : Int)))
       (.leaf (Step.go [.k 0, .n n0, .l TCall24 l1, .n (0 : Int), .n (-1 : Int), .n n15, .n (-1 : Int), .b false, .n (IntKind.wrap .i64 (n4 + (1 : Int))), .n (0 : Int), .n (-1 : Int), .n (0 : Int), .n n6, .n n7, .n n8, .n n9, .n n10, .n n11, .l (Ty.int IntKind.u8) l12, .n n13, .b b14, .n n15, .n n16, .b true, .n n5, .n n6]))
       (.node (decide ((cl_5 l1 n4 : Int) < (1 : Int)))
        (.leaf (Step.go [.k 0, .n n0, .l TCall24 l1, .n (0 : Int), .n (-1 : Int), .n n15, .n (-1 : Int), .b false, .n (IntKind.wrap .i64 (n4 + (1 : Int))), .n (0 : Int), .n (-1 : Int), .n (0 : Int), .n n6, .n n7, .n n8, .n n9, .n n10, .n n11, .l (Ty.int IntKind.u8) l12, .n n13, .b b14, .n n15, .n n16, .b true, .n n5, .n n6]))
        (.node (decide ((cl_5 l1 n4 : Int) > (1099511627776 : Int)))
         (.leaf (Step.go [.k 0, .n n0, .l TCall24 l1, .n (0 : Int), .n (-1 : Int), .n n15, .n (-1 : Int), .b false, .n (IntKind.wrap .i64 (n4 + (1 : Int))), .n (0 : Int), .n (-1 : Int), .n (0 : Int), .n n6, .n n7, .n n8, .n n9, .n n10, .n n11, .l (Ty.int IntKind.u8) l12, .n n13, .b b14, .n n15, .n n16, .b true, .n n5, .n n6]))
         (.leaf (Step.go [.k 0, .n n0, .l TCall24 l1, .n (cl_5 l1 n4), .n (-1 : Int), .n n15, .n (cl_2 l1 n4), .b false, .n (IntKind.wrap .i64 (n4 + (1 : Int))), .n (cl_5 l1 n4), .n (cl_2 l1 n4), .n (0 : Int), .n n6, .n n7, .n n8, .n n9, .n n10, .n n11, .l (Ty.int IntKind.u8) l12, .n n13, .b b14, .n n15, .n n16, .b true, .n n5, .n n6]))))))
     (.node (Int.tmod (cl_1 l1 n4) (8 : Int) == (4 : Int))
      (.node (decide ((cl_2 l1 n4 : Int) < (0 : Int)))
       (.leaf (Step.go [.k 0, .n n0, .l TCall24 l1, .n (0 : Int), .n (-1 : Int), .n n15, .n (-1 : Int), .b false, .n (IntKind.wrap .i64 (n4 + (1 : Int))), .n (0 : Int), .n (-1 : Int), .n (0 : Int), .n n6, .n n7, .n n8, .n n9, .n n10, .n n11, .l (Ty.int IntKind.u8) l12, .n n13, .b b14, .n n15, .n n16, .b true, .n n5, .n n6]))
       (.node (decide ((cl_2 l1 n4 : Int) > (1 : Int)))
        (.leaf (Step.go [.k 0, .n n0, .l TCall24 l1, .n (0 : Int), .n (-1 : Int), .n n15, .n (-1 : Int), .b false, .n (IntKind.wrap .i64 (n4 + (1 : Int))), .n (0 : Int), .n (-1 : Int), .n (0 : Int), .n n6, .n n7, .n n8, .n n9, .n n10, .n n11, .l (Ty.int IntKind.u8) l12, .n n13, .b b14, .n n15, .n n16, .b true, .n n5, .n n6]))
        (.node (decide ((cl_5 l1 n4 : Int) < (1 : Int)))
         (.leaf (Step.go [.k 0, .n n0, .l TCall24 l1, .n (0 : Int), .n (-1 : Int), .n n15, .n (-1 : Int), .b false, .n (IntKind.wrap .i64 (n4 + (1 : Int))), .n (0 : Int), .n (-1 : Int), .n (0 : Int), .n n6, .n n7, .n n8, .n n9, .n n10, .n n11, .l (Ty.int IntKind.u8) l12, .n n13, .b b14, .n n15, .n n16, .b true, .n n5, .n n6]))
         (.node (decide ((cl_5 l1 n4 : Int) > (1099511627776 : Int)))
          (.leaf (Step.go [.k 0, .n n0, .l TCall24 l1, .n (0 : Int), .n (-1 : Int), .n n15, .n (-1 : Int), .b false, .n (IntKind.wrap .i64 (n4 + (1 : Int))), .n (0 : Int), .n (-1 : Int), .n (0 : Int), .n n6, .n n7, .n n8, .n n9, .n n10, .n n11, .l (Ty.int IntKind.u8) l12, .n n13, .b b14, .n n15, .n n16, .b true, .n n5, .n n6]))
          (.leaf (Step.go [.k 0, .n n0, .l TCall24 l1, .n (cl_5 l1 n4), .n (-1 : Int), .n n15, .n (cl_2 l1 n4), .b false, .n (IntKind.wrap .i64 (n4 + (1 : Int))), .n (cl_5 l1 n4), .n (cl_2 l1 n4), .n (0 : Int), .n n6, .n n7, .n n8, .n n9, .n n10, .n n11, .l (Ty.int IntKind.u8) l12, .n n13, .b b14, .n n15, .n n16, .b true, .n n5, .n n6]))))))
      (.node (Int.tmod (cl_1 l1 n4) (8 : Int) == (5 : Int))
       (.node (decide (IntKind.wrap .i64 (n15 + (1 : Int)) > n16))
        (.leaf (Step.go [.k 0, .n n0, .l TCall24 l1, .n (0 : Int), .n (-1 : Int), .n (IntKind.wrap .i64 (n15 + (1 : Int))), .n (-1 : Int), .b false, .n (IntKind.wrap .i64 (n4 + (1 : Int))), .n (0 : Int), .n (-1 : Int), .n (0 : Int), .n n6, .n n7, .n n8, .n n9, .n n10, .n n11, .l (Ty.int IntKind.u8) l12, .n n13, .b b14, .n (IntKind.wrap .i64 (n15 + (1 : Int))), .n n16, .b true, .n n5, .n n6]))
        (.leaf (Step.go [.k 0, .n n0, .l TCall24 l1, .n (0 : Int), .n (-1 : Int), .n (IntKind.wrap .i64 (n15 + (1 : Int))), .n (-1 : Int), .b false, .n (IntKind.wrap .i64 (n4 + (1 : Int))), .n (0 : Int), .n (-1 : Int), .n (0 : Int), .n n6, .n n7, .n n8, .n n9, .n n10, .n n11, .l (Ty.int IntKind.u8) l12, .n n13, .b b14, .n (IntKind.wrap .i64 (n15 + (1 : Int))), .n n16, .b true, .n n5, .n n6])))
       (.node (Int.tmod (cl_1 l1 n4) (8 : Int) == (6 : Int))
        (.node (decide (IntKind.wrap .i64 (n15 + (1 : Int)) > n16))
         (.leaf (Step.go [.k 0, .n n0, .l TCall24 l1, .n (0 : Int), .n (-1 : Int), .n (IntKind.wrap .i64 (n15 + (1 : Int))), .n (-1 : Int), .b false, .n (IntKind.wrap .i64 (n4 + (1 : Int))), .n (0 : Int), .n (-1 : Int), .n (0 : Int), .n n6, .n n7, .n n8, .n n9, .n n10, .n n11, .l (Ty.int IntKind.u8) l12, .n n13, .b b14, .n (IntKind.wrap .i64 (n15 + (1 : Int))), .n n16, .b true, .n n5, .n n6]))
         (.leaf (Step.go [.k 0, .n n0, .l TCall24 l1, .n (0 : Int), .n (-1 : Int), .n (IntKind.wrap .i64 (n15 + (1 : Int))), .n (-1 : Int), .b false, .n (IntKind.wrap .i64 (n4 + (1 : Int))), .n (0 : Int), .n (-1 : Int), .n (0 : Int), .n n6, .n n7, .n n8, .n n9, .n n10, .n n11, .l (Ty.int IntKind.u8) l12, .n n13, .b b14, .n (IntKind.wrap .i64 (n15 + (1 : Int))), .n n16, .b true, .n n5, .n n6])))
        (.node (Int.tmod (cl_1 l1 n4) (8 : Int) == (7 : Int))
         (.leaf (Step.go [.k 0, .n n0, .l TCall24 l1, .n (0 : Int), .n (-1 : Int), .n (0 : Int), .n (-1 : Int), .b true, .n (IntKind.wrap .i64 (n4 + (1 : Int))), .n (0 : Int), .n (-1 : Int), .n (0 : Int), .n n6, .n n7, .n n8, .n n9, .n n10, .n n11, .l (Ty.int IntKind.u8) l12, .n n13, .b b14, .n (0 : Int), .n n16, .b false, .n (0 : Int), .n n6]))
         (.node (decide ((cl_2 l1 n4 : Int) < (0 : Int)))
          (.leaf (Step.go [.k 0, .n n0, .l TCall24 l1, .n (0 : Int), .n (-1 : Int), .n n15, .n (-1 : Int), .b false, .n (IntKind.wrap .i64 (n4 + (1 : Int))), .n (0 : Int), .n (-1 : Int), .n (0 : Int), .n n6, .n n7, .n n8, .n n9, .n n10, .n n11, .l (Ty.int IntKind.u8) l12, .n n13, .b b14, .n n15, .n n16, .b true, .n n5, .n n6]))
          (.node (decide ((cl_2 l1 n4 : Int) > (1 : Int)))
           (.leaf (Step.go [.k 0, .n n0, .l TCall24 l1, .n (0 : Int), .n (-1 : Int), .n n15, .n (-1 : Int), .b false, .n (IntKind.wrap .i64 (n4 + (1 : Int))), .n (0 : Int), .n (-1 : Int), .n (0 : Int), .n n6, .n n7, .n n8, .n n9, .n n10, .n n11, .l (Ty.int IntKind.u8) l12, .n n13, .b b14, .n n15, .n n16, .b true, .n n5, .n n6]))
           (.node (decide ((cl_5 l1 n4 : Int) < (1 : Int)))
            (.leaf (Step.go [.k 0, .n n0, .l TCall24 l1, .n (0 : Int), .n (-1 : Int), .n n15, .n (-1 : Int), .b false, .n (IntKind.wrap .i64 (n4 + (1 : Int))), .n (0 : Int), .n (-1 : Int), .n (0 : Int), .n n6, .n n7, .n n8, .n n9, .n n10, .n n11, .l (Ty.int IntKind.u8) l12, .n n13, .b b14, .n n15, .n n16, .b true, .n n5, .n n6]))
            (.node (decide ((cl_5 l1 n4 : Int) > (1099511627776 : Int)))
             (.leaf (Step.go [.k 0, .n n0, .l TCall24 l1, .n (0 : Int), .n (-1 : Int), .n n15, .n (-1 : Int), .b false, .n (IntKind.wrap .i64 (n4 + (1 : Int))), .n (0 : Int), .n (-1 : Int), .n (0 : Int), .n n6, .n n7, .n n8, .n n9, .n n10, .n n11, .l (Ty.int IntKind.u8) l12, .n n13, .b b14, .n n15, .n n16, .b true, .n n5, .n n6]))
             (.node (decide ((cl_4 l1 n4 : Int) < (0 : Int)))
              (.leaf (Step.go [.k 0, .n n0, .l TCall24 l1, .n (0 : Int), .n (-1 : Int), .n n15, .n (-1 : Int), .b false, .n (IntKind.wrap .i64 (n4 + (1 : Int))), .n (0 : Int), .n (-1 : Int), .n (0 : Int), .n n6, .n n7, .n n8, .n n9, .n n10, .n n11, .l (Ty.int IntKind.u8) l12, .n n13, .b b14, .n n15, .n n16, .b true, .n n5, .n n6]))
              (.node (decide ((cl_4 l1 n4 : Int) > (1099511627776 : Int)))
               (.leaf (Step.go [.k 0, .n n0, .l TCall24 l1, .n (0 : Int), .n (-1 : Int), .n n15, .n (-1 : Int), .b false, .n (IntKind.wrap .i64 (n4 + (1 : Int))), .n (0 : Int), .n (-1 : Int), .n (0 : Int), .n n6, .n n7, .n n8, .n n9, .n n10, .n n11, .l (Ty.int IntKind.u8) l12, .n n13, .b b14, .n n15, .n n16, .b true, .n n5, .n n6]))
               (.node (iandnot IntKind.u64 (cl_6 l1 n4) (cl_8 l1 n4) != (0 : Int))
                (.leaf (Step.go [.k 0, .n n0, .l TCall24 l1, .n (0 : Int), .n (-1 : Int), .n n15, .n (-1 : Int), .b false, .n (IntKind.wrap .i64 (n4 + (1 : Int))), .n (0 : Int), .n (-1 : Int), .n (0 : Int), .n n6, .n n7, .n n8, .n n9, .n n10, .n n11, .l (Ty.int IntKind.u8) l12, .n n13, .b b14, .n n15, .n n16, .b true, .n n5, .n n6]))
                (.leaf (Step.go [.k 0, .n n0, .l TCall24 l1, .n (cl_5 l1 n4), .n (-1 : Int), .n n15, .n (cl_2 l1 n4), .b false, .n (IntKind.wrap .i64 (n4 + (1 : Int))), .n (cl_5 l1 n4), .n (cl_2 l1 n4), .n (0 : Int), .n n6, .n n7, .n n8, .n n9, .n n10, .n n11, .l (Ty.int IntKind.u8) l12, .n n13, .b b14, .n n15, .n n16, .b true, .n n5, .n n6]))))))))))))))
  | _ => .bad 0
theorem fn_L6_11_ZT_im (n0 : Int) (l1 : List (Ty.den TCall24)) (n2 : Int) (n3 : Int) (n4 : Int) (n5 : Int) (n6 : Int) (n7 : Int) (n8 : Int) (n9 : Int) (n10 : Int) (n11 : Int) (l12 : List (Ty.den (Ty.int IntKind.u8))) (n13 : Int) (b14 : Bool) (n15 : Int) (n16 : Int) (g0 : n16 = 1 + n0) (g1 :  0 ≤ n0) (g2 :  n0 ≤ 255) (g3 :  0 ≤ n15) (g4 :  n15 ≤ 300) (g5 :  0 ≤ n4) (g6 :  n4 < (l1.length : Int)) (g7 :  l1.length ≤ 300) (g8 :  iandnot .u64 0 n9 = 0) : Imp (fn_L6_11_ZT [.n n0, .l TCall24 l1, .n n2, .n n3, .n n4, .n n5, .n n6, .n n7, .n n8, .n n9, .n n10, .n n11, .l (Ty.int IntKind.u8) l12, .n n13, .b b14, .n n15, .n n16]) (st_L6_11 [.k 0, .n n0, .l TCall24 l1, .n 0, .n (-1), .n n15, .n (-1), .b false, .n n4, .n 0, .n (-1), .n 0, .n n6, .n n7, .n n8, .n n9, .n n10, .n n11, .l (.int .u8) l12, .n n13, .b b14, .n n15, .n n16, .b true, .n n5, .n n6]) :=
(.path [1] (by kernel_rfl)
(.pt (c := (decide (n4 < (↑(List.length l1) : Int)))) (by kernel_rfl) (by kernel_rfl) (by (simp [*]; done))
(.pt (c := (inR n4 (List.length l1))) (by kernel_rfl) (by kernel_rfl) (by (simp only [w64d, decide_eq_true_eq, decide_eq_false_iff_not, beq_iff_eq, beq_eq_false_iff_ne, bne_iff_ne, ne_eq, inR, Bool.and_eq_true, Bool.and_eq_false_iff, Bool.not_eq_true', Bool.not_eq_false', Bool.not_eq_eq_eq_not, Bool.not_true, Bool.not_false] at *; omega))
(.path [1] (by kernel_rfl)
(.node (by kernel_rfl) (by kernel_rfl) (fun h0 =>
(.path [1,0,1] (by kernel_rfl)
(.node (by kernel_rfl) (by kernel_rfl) (fun h1 =>
(.path (1 ::1 ::1 ::1 ::1 ::1 ::1 ::1 ::1 ::1 ::0 ::1 ::0 ::1 ::0 ::1 ::1 ::0 ::0 ::0 ::1 ::0 ::1 ::0 ::1 ::0 ::1 ::1 ::0 ::1 ::0 ::1 ::0 ::1 ::1 ::0 ::0 ::0 ::1 ::0 ::1 ::1 ::0 ::1 ::1 ::0 ::0 ::0 ::0 ::1 :: []) (by kernel_rfl)
(.leaf (by kernel_rfl)))) (fun h1 =>
(.node (by kernel_rfl) (by kernel_rfl) (fun h2 =>
(.path (1 ::1 ::1 ::1 ::1 ::1 ::1 ::1 ::0 ::1 ::0 ::1 ::0 ::1 ::1 ::0 ::0 ::0 ::1 ::0 ::1 ::0 ::1 ::0 ::1 ::1 ::0 ::1 ::0 ::1 ::0 ::1 ::1 ::0 ::0 ::0 ::1 ::0 ::1 ::1 ::0 ::1 ::1 ::0 ::0 ::0 ::0 ::1 :: []) (by kernel_rfl)
(.leaf (by kernel_rfl)))) (fun h2 =>
(.node (by kernel_rfl) (by kernel_rfl) (fun h3 =>
(.path (1 ::1 ::1 ::1 ::1 ::1 ::0 ::1 ::0 ::1 ::0 ::1 ::1 ::0 ::0 ::0 ::1 ::0 ::1 ::0 ::1 ::0 ::1 ::1 ::0 ::1 ::0 ::1 ::0 ::1 ::1 ::0 ::0 ::0 ::1 ::0 ::1 ::1 ::0 ::1 ::1 ::0 ::0 ::0 ::0 ::1 :: []) (by kernel_rfl)
(.leaf (by kernel_rfl)))) (fun h3 =>
(.node (by kernel_rfl) (by kernel_rfl) (fun h4 =>
(.path (1 ::1 ::1 ::1 ::0 ::1 ::0 ::1 ::0 ::1 ::1 ::0 ::0 ::0 ::1 ::0 ::1 ::0 ::1 ::0 ::1 ::1 ::0 ::1 ::0 ::1 ::0 ::1 ::1 ::0 ::0 ::0 ::1 ::0 ::1 ::1 ::0 ::1 ::1 ::0 ::0 ::0 ::0 ::1 :: []) (by kernel_rfl)
(.leaf (by kernel_rfl)))) (fun h4 =>
(.pf (c := (decide ((cl_5 l1 n4 : Int) < (0 : Int)))) (by kernel_rfl) (by kernel_rfl) (by (simp only [w64d, decide_eq_true_eq, decide_eq_false_iff_not, beq_iff_eq, beq_eq_false_iff_ne, bne_iff_ne, ne_eq, inR, Bool.and_eq_true, Bool.and_eq_false_iff, Bool.not_eq_true', Bool.not_eq_false', Bool.not_eq_eq_eq_not, Bool.not_true, Bool.not_false] at *; omega))
(.pf (c := (cl_5 l1 n4 == (0 : Int))) (by kernel_rfl) (by kernel_rfl) (by (simp only [w64d, decide_eq_true_eq, decide_eq_false_iff_not, beq_iff_eq, beq_eq_false_iff_ne, bne_iff_ne, ne_eq, inR, Bool.and_eq_true, Bool.and_eq_false_iff, Bool.not_eq_true', Bool.not_eq_false', Bool.not_eq_eq_eq_not, Bool.not_true, Bool.not_false] at *; omega))
(.path [0,0,1,0,1] (by kernel_rfl)
(.pt (c := (decide ((cl_5 l1 n4 : Int) > (0 : Int)))) (by kernel_rfl) (by kernel_rfl) (by (simp only [w64d, decide_eq_true_eq, decide_eq_false_iff_not, beq_iff_eq, beq_eq_false_iff_ne, bne_iff_ne, ne_eq, inR, Bool.and_eq_true, Bool.and_eq_false_iff, Bool.not_eq_true', Bool.not_eq_false', Bool.not_eq_eq_eq_not, Bool.not_true, Bool.not_false] at *; omega))
(.path [1,1,1,0,1] (by kernel_rfl)
(.pf (c := (decide ((cl_5 l1 n4 : Int) < (0 : Int)))) (by kernel_rfl) (by kernel_rfl) (by (simp only [w64d, decide_eq_true_eq, decide_eq_false_iff_not, beq_iff_eq, beq_eq_false_iff_ne, bne_iff_ne, ne_eq, inR, Bool.and_eq_true, Bool.and_eq_false_iff, Bool.not_eq_true', Bool.not_eq_false', Bool.not_eq_eq_eq_not, Bool.not_true, Bool.not_false] at *; omega))
(.path [1,0,1] (by kernel_rfl)
(.pf (c := (cl_5 l1 n4 == (0 : Int))) (by kernel_rfl) (by kernel_rfl) (by (simp only [w64d, decide_eq_true_eq, decide_eq_false_iff_not, beq_iff_eq, beq_eq_false_iff_ne, bne_iff_ne, ne_eq, inR, Bool.and_eq_true, Bool.and_eq_false_iff, Bool.not_eq_true', Bool.not_eq_false', Bool.not_eq_eq_eq_not, Bool.not_true, Bool.not_false] at *; omega))
(.path [0,0,0,0,1,0,1] (by kernel_rfl)
(.pt (c := (decide ((cl_5 l1 n4 : Int) > (0 : Int)))) (by kernel_rfl) (by kernel_rfl) (by (simp only [w64d, decide_eq_true_eq, decide_eq_false_iff_not, beq_iff_eq, beq_eq_false_iff_ne, bne_iff_ne, ne_eq, inR, Bool.and_eq_true, Bool.and_eq_false_iff, Bool.not_eq_true', Bool.not_eq_false', Bool.not_eq_eq_eq_not, Bool.not_true, Bool.not_false] at *; omega))
(.path [1,0,1,1,0,1,0,1,0,1,1,0,0,0,1,0,1,1,0,1,1,0,0,0,0,1] (by kernel_rfl)
(.leaf (by kernel_rfl))))))))))))))))))))))) (fun h0 =>
(.node (by kernel_rfl) (by kernel_rfl) (fun h1 =>
(.path [1,1,0,1] (by kernel_rfl)
(.node (by kernel_rfl) (by kernel_rfl) (fun h2 =>
(.path (1 ::1 ::1 ::1 ::1 ::1 ::1 ::1 ::1 ::1 ::1 ::0 ::1 ::0 ::1 ::0 ::1 ::0 ::1 ::1 ::0 ::0 ::0 ::1 ::0 ::1 ::0 ::1 ::0 ::1 ::1 ::0 ::1 ::0 ::1 ::0 ::1 ::1 ::0 ::0 ::0 ::1 ::0 ::1 ::1 ::0 ::1 ::1 ::0 ::0 ::0 ::0 ::1 :: []) (by kernel_rfl)
(.leaf (by kernel_rfl)))) (fun h2 =>
(.node (by kernel_rfl) (by kernel_rfl) (fun h3 =>
(.path (1 ::1 ::1 ::1 ::1 ::1 ::1 ::1 ::1 ::0 ::1 ::0 ::1 ::0 ::1 ::0 ::1 ::1 ::0 ::0 ::0 ::1 ::0 ::1 ::0 ::1 ::0 ::1 ::1 ::0 ::1 ::0 ::1 ::0 ::1 ::1 ::0 ::0 ::0 ::1 ::0 ::1 ::1 ::0 ::1 ::1 ::0 ::0 ::0 ::0 ::1 :: []) (by kernel_rfl)
(.leaf (by kernel_rfl)))) (fun h3 =>
(.node (by kernel_rfl) (by kernel_rfl) (fun h4 =>
(.path (1 ::1 ::1 ::1 ::1 ::1 ::1 ::0 ::1 ::0 ::1 ::0 ::1 ::0 ::1 ::1 ::0 ::0 ::0 ::1 ::0 ::1 ::0 ::1 ::0 ::1 ::1 ::0 ::1 ::0 ::1 ::0 ::1 ::1 ::0 ::0 ::0 ::1 ::0 ::1 ::1 ::0 ::1 ::1 ::0 ::0 ::0 ::0 ::1 :: []) (by kernel_rfl)
(.leaf (by kernel_rfl)))) (fun h4 =>
(.node (by kernel_rfl) (by kernel_rfl) (fun h5 =>
(.path (1 ::1 ::1 ::1 ::1 ::0 ::1 ::0 ::1 ::0 ::1 ::0 ::1 ::1 ::0 ::0 ::0 ::1 ::0 ::1 ::0 ::1 ::0 ::1 ::1 ::0 ::1 ::0 ::1 ::0 ::1 ::1 ::0 ::0 ::0 ::1 ::0 ::1 ::1 ::0 ::1 ::1 ::0 ::0 ::0 ::0 ::1 :: []) (by kernel_rfl)
(.leaf (by kernel_rfl)))) (fun h5 =>
(.pf (c := (decide ((cl_5 l1 n4 : Int) < (0 : Int)))) (by kernel_rfl) (by kernel_rfl) (by (simp only [w64d, decide_eq_true_eq, decide_eq_false_iff_not, beq_iff_eq, beq_eq_false_iff_ne, bne_iff_ne, ne_eq, inR, Bool.and_eq_true, Bool.and_eq_false_iff, Bool.not_eq_true', Bool.not_eq_false', Bool.not_eq_eq_eq_not, Bool.not_true, Bool.not_false] at *; omega))
(.pf (c := (cl_5 l1 n4 == (0 : Int))) (by kernel_rfl) (by kernel_rfl) (by (simp only [w64d, decide_eq_true_eq, decide_eq_false_iff_not, beq_iff_eq, beq_eq_false_iff_ne, bne_iff_ne, ne_eq, inR, Bool.and_eq_true, Bool.and_eq_false_iff, Bool.not_eq_true', Bool.not_eq_false', Bool.not_eq_eq_eq_not, Bool.not_true, Bool.not_false] at *; omega))
(.path [0,0,1,0,1] (by kernel_rfl)
(.pt (c := (decide ((cl_5 l1 n4 : Int) > (0 : Int)))) (by kernel_rfl) (by kernel_rfl) (by (simp only [w64d, decide_eq_true_eq, decide_eq_false_iff_not, beq_iff_eq, beq_eq_false_iff_ne, bne_iff_ne, ne_eq, inR, Bool.and_eq_true, Bool.and_eq_false_iff, Bool.not_eq_true', Bool.not_eq_false', Bool.not_eq_eq_eq_not, Bool.not_true, Bool.not_false] at *; omega))
(.path [1,1,0,1,1,1,1,1,0,1] (by kernel_rfl)
(.pf (c := (decide ((cl_5 l1 n4 : Int) < (0 : Int)))) (by kernel_rfl) (by kernel_rfl) (by (simp only [w64d, decide_eq_true_eq, decide_eq_false_iff_not, beq_iff_eq, beq_eq_false_iff_ne, bne_iff_ne, ne_eq, inR, Bool.and_eq_true, Bool.and_eq_false_iff, Bool.not_eq_true', Bool.not_eq_false', Bool.not_eq_eq_eq_not, Bool.not_true, Bool.not_false] at *; omega))
(.path [1,0,1] (by kernel_rfl)
(.pf (c := (cl_5 l1 n4 == (0 : Int))) (by kernel_rfl) (by kernel_rfl) (by (simp only [w64d, decide_eq_true_eq, decide_eq_false_iff_not, beq_iff_eq, beq_eq_false_iff_ne, bne_iff_ne, ne_eq, inR, Bool.and_eq_true, Bool.and_eq_false_iff, Bool.not_eq_true', Bool.not_eq_false', Bool.not_eq_eq_eq_not, Bool.not_true, Bool.not_false] at *; omega))
(.path [0,0,0,0,1,0,1] (by kernel_rfl)
(.pt (c := (decide ((cl_5 l1 n4 : Int) > (0 : Int)))) (by kernel_rfl) (by kernel_rfl) (by (simp only [w64d, decide_eq_true_eq, decide_eq_false_iff_not, beq_iff_eq, beq_eq_false_iff_ne, bne_iff_ne, ne_eq, inR, Bool.and_eq_true, Bool.and_eq_false_iff, Bool.not_eq_true', Bool.not_eq_false', Bool.not_eq_eq_eq_not, Bool.not_true, Bool.not_false] at *; omega))
(.path [1,0,1,1,0,1,0,1,0,1,1,0,0,0,1,0,1,1,0,1,1,0,0,0,0,1] (by kernel_rfl)
(.leaf (by kernel_rfl))))))))))))))))))))))) (fun h1 =>
(.node (by kernel_rfl) (by kernel_rfl) (fun h2 =>
(.pt (by kernel_rfl) (by kernel_rfl) h2
(.path [1,0,1] (by kernel_rfl)
(.node (by kernel_rfl) (by kernel_rfl) (fun h3 =>
(.path (1 ::1 ::1 ::1 ::0 ::1 ::0 ::1 ::0 ::1 ::1 ::0 ::0 ::0 ::1 ::0 ::1 ::0 ::1 ::0 ::1 ::1 ::0 ::1 ::0 ::1 ::0 ::1 ::1 ::0 ::0 ::0 ::1 ::0 ::1 ::1 ::0 ::1 ::1 ::0 ::0 ::0 ::0 ::1 :: []) (by kernel_rfl)
(.leaf (by kernel_rfl)))) (fun h3 =>
(.path (1 ::1 ::0 ::1 ::0 ::1 ::0 ::1 ::1 ::0 ::0 ::0 ::1 ::0 ::1 ::0 ::1 ::0 ::1 ::1 ::0 ::1 ::0 ::1 ::0 ::1 ::1 ::0 ::0 ::0 ::1 ::0 ::1 ::1 ::0 ::1 ::1 ::0 ::0 ::0 ::0 ::1 :: []) (by kernel_rfl)
(.leaf (by kernel_rfl)))))))) (fun h2 =>
(.node (by kernel_rfl) (by kernel_rfl) (fun h3 =>
(.path [1,0,1] (by kernel_rfl)
(.node (by kernel_rfl) (by kernel_rfl) (fun h4 =>
(.path (1 ::1 ::1 ::1 ::0 ::1 ::0 ::1 ::0 ::1 ::1 ::0 ::0 ::0 ::1 ::0 ::1 ::0 ::1 ::0 ::1 ::1 ::0 ::1 ::0 ::1 ::0 ::1 ::1 ::0 ::0 ::0 ::1 ::0 ::1 ::1 ::0 ::1 ::1 ::0 ::0 ::0 ::0 ::1 :: []) (by kernel_rfl)
(.leaf (by kernel_rfl)))) (fun h4 =>
(.path (1 ::1 ::0 ::1 ::0 ::1 ::0 ::1 ::1 ::0 ::0 ::0 ::1 ::0 ::1 ::0 ::1 ::0 ::1 ::1 ::0 ::1 ::0 ::1 ::0 ::1 ::1 ::0 ::0 ::0 ::1 ::0 ::1 ::1 ::0 ::1 ::1 ::0 ::0 ::0 ::0 ::1 :: []) (by kernel_rfl)
(.leaf (by kernel_rfl))))))) (fun h3 =>
(.node (by kernel_rfl) (by kernel_rfl) (fun h4 =>
(.path (1 ::0 ::0 ::1 ::1 ::1 ::0 ::1 ::0 ::1 ::0 ::1 ::1 ::0 ::0 ::0 ::1 ::0 ::1 ::0 ::1 ::0 ::1 ::1 ::0 ::1 ::0 ::1 ::0 ::1 ::1 ::0 ::0 ::0 ::1 ::0 ::1 ::1 ::0 ::0 ::0 ::0 ::0 ::1 :: []) (by kernel_rfl)
(.pf (c := (!(true && (n6 == n6 && true)))) (by kernel_rfl) (by kernel_rfl) (by (simp [*]; done))
(.pf (c := (decide ((0 : Int) > IntKind.wrap .i64 ((1 : Int) + IntKind.wrap .i64 n0)))) (by kernel_rfl) (by kernel_rfl) (by (simp only [w64d, decide_eq_true_eq, decide_eq_false_iff_not, beq_iff_eq, beq_eq_false_iff_ne, bne_iff_ne, ne_eq, inR, Bool.and_eq_true, Bool.and_eq_false_iff, Bool.not_eq_true', Bool.not_eq_false', Bool.not_eq_eq_eq_not, Bool.not_true, Bool.not_false] at *; omega))
(.path [0,1] (by kernel_rfl)
(.leaf (by kernel_rfl))))))) (fun h4 =>
(.path [1,0,1] (by kernel_rfl)
(.node (by kernel_rfl) (by kernel_rfl) (fun h5 =>
(.path (1 ::1 ::1 ::1 ::1 ::1 ::1 ::1 ::1 ::1 ::1 ::0 ::1 ::0 ::1 ::0 ::1 ::1 ::0 ::0 ::0 ::1 ::0 ::1 ::0 ::1 ::0 ::1 ::1 ::0 ::1 ::0 ::1 ::0 ::1 ::1 ::0 ::0 ::0 ::1 ::0 ::1 ::1 ::0 ::1 ::1 ::0 ::0 ::0 ::0 ::1 :: []) (by kernel_rfl)
(.leaf (by kernel_rfl)))) (fun h5 =>
(.node (by kernel_rfl) (by kernel_rfl) (fun h6 =>
(.path (1 ::1 ::1 ::1 ::1 ::1 ::1 ::1 ::1 ::0 ::1 ::0 ::1 ::0 ::1 ::1 ::0 ::0 ::0 ::1 ::0 ::1 ::0 ::1 ::0 ::1 ::1 ::0 ::1 ::0 ::1 ::0 ::1 ::1 ::0 ::0 ::0 ::1 ::0 ::1 ::1 ::0 ::1 ::1 ::0 ::0 ::0 ::0 ::1 :: []) (by kernel_rfl)
(.leaf (by kernel_rfl)))) (fun h6 =>
(.node (by kernel_rfl) (by kernel_rfl) (fun h7 =>
(.path (1 ::1 ::1 ::1 ::1 ::1 ::1 ::0 ::1 ::0 ::1 ::0 ::1 ::1 ::0 ::0 ::0 ::1 ::0 ::1 ::0 ::1 ::0 ::1 ::1 ::0 ::1 ::0 ::1 ::0 ::1 ::1 ::0 ::0 ::0 ::1 ::0 ::1 ::1 ::0 ::1 ::1 ::0 ::0 ::0 ::0 ::1 :: []) (by kernel_rfl)
(.leaf (by kernel_rfl)))) (fun h7 =>
(.node (by kernel_rfl) (by kernel_rfl) (fun h8 =>
(.path (1 ::1 ::1 ::1 ::1 ::0 ::1 ::0 ::1 ::0 ::1 ::1 ::0 ::0 ::0 ::1 ::0 ::1 ::0 ::1 ::0 ::1 ::1 ::0 ::1 ::0 ::1 ::0 ::1 ::1 ::0 ::0 ::0 ::1 ::0 ::1 ::1 ::0 ::1 ::1 ::0 ::0 ::0 ::0 ::1 :: []) (by kernel_rfl)
(.leaf (by kernel_rfl)))) (fun h8 =>
(.pf (c := (decide ((cl_5 l1 n4 : Int) < (0 : Int)))) (by kernel_rfl) (by kernel_rfl) (by (simp only [w64d, decide_eq_true_eq, decide_eq_false_iff_not, beq_iff_eq, beq_eq_false_iff_ne, bne_iff_ne, ne_eq, inR, Bool.and_eq_true, Bool.and_eq_false_iff, Bool.not_eq_true', Bool.not_eq_false', Bool.not_eq_eq_eq_not, Bool.not_true, Bool.not_false] at *; omega))
(.pf (c := (cl_5 l1 n4 == (0 : Int))) (by kernel_rfl) (by kernel_rfl) (by (simp only [w64d, decide_eq_true_eq, decide_eq_false_iff_not, beq_iff_eq, beq_eq_false_iff_ne, bne_iff_ne, ne_eq, inR, Bool.and_eq_true, Bool.and_eq_false_iff, Bool.not_eq_true', Bool.not_eq_false', Bool.not_eq_eq_eq_not, Bool.not_true, Bool.not_false] at *; omega))
(.path [0,0,1,1,0] (by kernel_rfl)
(.node (by kernel_rfl) (by kernel_rfl) (fun h9 =>
(.path (1 ::1 ::1 ::1 ::1 ::1 ::0 ::1 ::0 ::1 ::0 ::1 ::1 ::0 ::0 ::0 ::1 ::0 ::1 ::0 ::1 ::0 ::1 ::1 ::0 ::1 ::0 ::1 ::0 ::1 ::1 ::0 ::0 ::0 ::1 ::0 ::1 ::1 ::0 ::1 ::1 ::0 ::0 ::0 ::0 ::1 :: []) (by kernel_rfl)
(.leaf (by kernel_rfl)))) (fun h9 =>
(.node (by kernel_rfl) (by kernel_rfl) (fun h10 =>
(.path (1 ::1 ::1 ::1 ::0 ::1 ::0 ::1 ::0 ::1 ::1 ::0 ::0 ::0 ::1 ::0 ::1 ::0 ::1 ::0 ::1 ::1 ::0 ::1 ::0 ::1 ::0 ::1 ::1 ::0 ::0 ::0 ::1 ::0 ::1 ::1 ::0 ::1 ::1 ::0 ::0 ::0 ::0 ::1 :: []) (by kernel_rfl)
(.leaf (by kernel_rfl)))) (fun h10 =>
(.node (by kernel_rfl) (by kernel_rfl) (fun h11 =>
(.path (1 ::1 ::0 ::1 ::0 ::1 ::0 ::1 ::1 ::0 ::0 ::0 ::1 ::0 ::1 ::0 ::1 ::0 ::1 ::1 ::0 ::1 ::0 ::1 ::0 ::1 ::1 ::0 ::0 ::0 ::1 ::0 ::1 ::1 ::0 ::1 ::1 ::0 ::0 ::0 ::0 ::1 :: []) (by kernel_rfl)
(.leaf (by kernel_rfl)))) (fun h11 =>
(.path [1] (by kernel_rfl)
(.pt (c := (decide ((cl_5 l1 n4 : Int) > (0 : Int)))) (by kernel_rfl) (by kernel_rfl) (by (simp only [w64d, decide_eq_true_eq, decide_eq_false_iff_not, beq_iff_eq, beq_eq_false_iff_ne, bne_iff_ne, ne_eq, inR, Bool.and_eq_true, Bool.and_eq_false_iff, Bool.not_eq_true', Bool.not_eq_false', Bool.not_eq_eq_eq_not, Bool.not_true, Bool.not_false] at *; omega))
(.path [1,1,1,1,1,0,1] (by kernel_rfl)
(.pf (c := (decide ((cl_5 l1 n4 : Int) < (0 : Int)))) (by kernel_rfl) (by kernel_rfl) (by (simp only [w64d, decide_eq_true_eq, decide_eq_false_iff_not, beq_iff_eq, beq_eq_false_iff_ne, bne_iff_ne, ne_eq, inR, Bool.and_eq_true, Bool.and_eq_false_iff, Bool.not_eq_true', Bool.not_eq_false', Bool.not_eq_eq_eq_not, Bool.not_true, Bool.not_false] at *; omega))
(.path [1,0,1] (by kernel_rfl)
(.pf (c := (cl_5 l1 n4 == (0 : Int))) (by kernel_rfl) (by kernel_rfl) (by (simp only [w64d, decide_eq_true_eq, decide_eq_false_iff_not, beq_iff_eq, beq_eq_false_iff_ne, bne_iff_ne, ne_eq, inR, Bool.and_eq_true, Bool.and_eq_false_iff, Bool.not_eq_true', Bool.not_eq_false', Bool.not_eq_eq_eq_not, Bool.not_true, Bool.not_false] at *; omega))
(.path [0,0,0,0,1,0,1] (by kernel_rfl)
(.pt (c := (decide ((cl_5 l1 n4 : Int) > (0 : Int)))) (by kernel_rfl) (by kernel_rfl) (by (simp only [w64d, decide_eq_true_eq, decide_eq_false_iff_not, beq_iff_eq, beq_eq_false_iff_ne, bne_iff_ne, ne_eq, inR, Bool.and_eq_true, Bool.and_eq_false_iff, Bool.not_eq_true', Bool.not_eq_false', Bool.not_eq_eq_eq_not, Bool.not_true, Bool.not_false] at *; omega))
(.path [1,0,1,1,0,1,0,1,0,1,1,0,0,0,1,0,1,1,0,1,1,0,0,0,0,1] (by kernel_rfl)
(.leaf (by kernel_rfl)))))))))))))))))))))))))))))))))))))))))))

noncomputable def fn_L6_11_ZF : List Dat → Tree Step
  | [.n n0, .l (Ty.pair (Ty.int IntKind.u8) (Ty.pair (Ty.int IntKind.i64) (Ty.pair (Ty.int IntKind.u8) (Ty.pair (Ty.int IntKind.i64) (Ty.pair (Ty.int IntKind.i64) (Ty.pair (Ty.int IntKind.u64) (Ty.pair (Ty.int IntKind.u32) (Ty.pair (Ty.int IntKind.u64) (Ty.pair (Ty.int IntKind.u64) (Ty.pair (Ty.int IntKind.u64) (Ty.pair (Ty.arr 64 (Ty.int IntKind.u8)) (Ty.int IntKind.u32)))))))))))) l1, .n n2, .n n3, .n n4, .n n5, .n n6, .n n7, .n n8, .n n9, .n n10, .n n11, .l (Ty.int IntKind.u8) l12, .n n13, .b b14, .n n15, .n n16] =>
    (.node (Int.tmod (cl_1 l1 n4) (8 : Int) == (3 : Int))
     (.node (decide ((cl_2 l1 n4 : Int) < (0 : Int)))
      (.leaf (Step.go [.k 0, .n n0, .l TCall24 l1, .n (0 : Int), .n (-1 : Int), .n n15, .n (-1 : Int), .b true, .n (IntKind.wrap .i64 (n4 + (1 : Int))), .n (0 : Int), .n (-1 : Int), .n n5, .n n6, .n n7, .n n8, .n n9, .n n10, .n n11, .l (Ty.int IntKind.u8) l12, .n n13, .b b14, .n n15, .n n16, .b false, .n n5, .n n6]))
      (.node (decide ((cl_2 l1 n4 : Int) > (1 : Int)))
       (.leaf (Step.go [.k 0, .n n0, .l TCall24 l1, .n (0 : Int), .n (-1 : Int), .n n15, .n (-1 : Int), .b true, .n (IntKind.wrap .i64 (n4 + (1 : Int))), .n (0 : Int), .n (-1 : Int), .n n5, .n n6, .n n7, .n n8, .n n9, .n n10, .n n11, .l (Ty.int IntKind.u8) l12, .n n13, .b b14, .n n15, .n n16, .b false, .n n5, .n n6]))
       (.node (decide ((cl_5 l1 n4 : Int) < (1 : Int)))
        (.leaf (Step.go [.k 0, .n n0, .l TCall24 l1, .n (0 : Int), .n (-1 : Int), .n n15, .n (-1 : Int), .b true, .n (IntKind.wrap .i64 (n4 + (1 : Int))), .n (0 : Int), .n (-1 : Int), .n n5, .n n6, .n n7, .n n8, .n n9, .n n10, .n n11, .l (Ty.int IntKind.u8) l12, .n n13, .b b14, .n n15, .n n16, .b false, .n n5, .n n6]))
        (.node (decide ((cl_5 l1 n4 : Int) > (1099511627776 : Int)))
         (.leaf (Step.go [.k 0, .n n0, .l TCall24 l1, .n (0 : Int), .n (-1 : Int), .n n15, .n (-1 : Int), .b true, .n (IntKind.wrap .i64 (n4 + (1 : Int))), .n (0 : Int), .n (-1 : Int), .n n5, .n n6, .n n7, .n n8, .n n9, .n n10, .n n11, .l (Ty.int IntKind.u8) l12, .n n13, .b b14, .n n15, .n n16, .b false, .n n5, .n n6]))
         (.leaf (Step.go [.k 0, .n n0, .l TCall24 l1, .n (cl_5 l1 n4), .n (-1 : Int), .n n15, .n (cl_2 l1 n4), .b true, .n (IntKind.wrap .i64 (n4 + (1 : Int))), .n (cl_5 l1 n4), .n (cl_2 l1 n4), .n n5, .n n6, .n n7, .n n8, .n n9, .n n10, .n n11, .l (Ty.int IntKind.u8) l12, .n n13, .b b14, .n n15, .n n16, .b false, .n n5, .n n6]))))))
     (.node (Int.tmod (cl_1 l1 n4) (8 : Int) == (4 : Int))
      (.node (decide ((cl_2 l1 n4 : Int) < (0 : Int)))
       (.leaf (Step.go [.k 0, .n n0, .l TCall24 l1, .n (0 : Int), .n (-1 : Int), .n n15, .n (-1 : Int), .b true, .n (IntKind.wrap .i64 (n4 + (1 : Int))), .n (0 : Int), .n (-1 : Int), .n n5, .n n6, .n n7, .n n8, .n n9, .n n10, .n n11, .l (Ty.int IntKind.u8) l12, .n n13, .b b14, .n n15, .n n16, .b false, .n n5, .n n6]))
       (.node (decide ((cl_2 l1 n4 : Int) > (1 : Int)))
        (.leaf (Step.go [.k 0, .n n0, .l TCall24 l1, .n (0 : Int), .n (-1 : Int), .n n15, .n (-1 : Int), .b true, .n (IntKind.wrap .i64 (n4 + (1 : Int))), .n (0 : Int), .n (-1 : Int), .n n5, .n n6, .n n7, .n n8, .n n9, .n n10, .n n11, .l (Ty.int IntKind.u8) l12, .n n13, .b b14, .n n15, .n n16, .b false, .n n5, .n n6]))
        (.node (decide ((cl_5 l1 n4 : Int) < (1 : Int)))
         (.leaf (Step.go [.k 0, .n n0, .l TCall24 l1, .n (0 : Int), .n (-1 : Int), .n n15, .n (-1 : Int), .b true, .n (IntKind.wrap .i64 (n4 + (1 : Int))), .n (0 : Int), .n (-1 : Int), .n n5, .n n6, .n n7, .n n8, .n n9, .n n10, .n n11, .l (Ty.int IntKind.u8) l12, .n n13, .b b14, .n n15, .n n16, .b false, .n n5, .n n6]))
         (.node (decide ((cl_5 l1 n4 : Int) > (1099511627776 : Int)))
          (.leaf (Step.go [.k 0, .n n0, .l TCall24 l1, .n (0 : Int), .n (-1 : Int), .n n15, .n (-1 : Int), .b true, .n (IntKind.wrap .i64 (n4 + (1 : Int))), .n (0 : Int), .n (-1 : Int), .n n5, .n n6, .n n7, .n n8, .n n9, .n n10, .n n11, .l (Ty.int IntKind.u8) l12, .n n13, .b b14, .n n15, .n n16, .b false, .n n5, .n n6]))
          (.leaf (Step.go [.k 0, .n n0, .l TCall24 l1, .n (cl_5 l1 n4), .n (-1 : Int), .n n15, .n (cl_2 l1 n4), .b false, .n (IntKind.wrap .i64 (n4 + (1 : Int))), .n (cl_5 l1 n4), .n (cl_2 l1 n4), .n (0 : Int), .n n6, .n n7, .n n8, .n n9, .n n10, .n n11, .l (Ty.int IntKind.u8) l12, .n n13, .b b14, .n n15, .n n16, .b true, .n n5, .n n6]))))))
      (.node (Int.tmod (cl_1 l1 n4) (8 : Int) == (5 : Int))
       (.node (decide (IntKind.wrap .i64 (n15 + (1 : Int)) > n16))
        (.leaf (Step.go [.k 0, .n n0, .l TCall24 l1, .n (0 : Int), .n (-1 : Int), .n (IntKind.wrap .i64 (n15 + (1 : Int))), .n (-1 : Int), .b false, .n (IntKind.wrap .i64 (n4 + (1 : Int))), .n (0 : Int), .n (-1 : Int), .n (0 : Int), .n n6, .n n7, .n n8, .n n9, .n n10, .n n11, .l (Ty.int IntKind.u8) l12, .n n13, .b b14, .n (IntKind.wrap .i64 (n15 + (1 : Int))), .n n16, .b true, .n n5, .n n6]))
        (.leaf (Step.go [.k 0, .n n0, .l TCall24 l1, .n (0 : Int), .n (-1 : Int), .n (IntKind.wrap .i64 (n15 + (1 : Int))), .n (-1 : Int), .b true, .n (IntKind.wrap .i64 (n4 + (1 : Int))), .n (0 : Int), .n (-1 : Int), .n n5, .n n6, .n n7, .n n8, .n n9, .n n10, .n n11, .l (Ty.int IntKind.u8) l12, .n n13, .b b14, .n (IntKind.wrap .i64 (n15 + (1 : Int))), .n n16, .b false, .n n5, .n n6])))
       (.node (Int.tmod (cl_1 l1 n4) (8 : Int) == (6 : Int))
        (.node (decide (IntKind.wrap .i64 (n15 + (1 : Int)) > n16))
         (.leaf (Step.go [.k 0, .n n0, .l TCall24 l1, .n (0 : Int), .n (-1 : Int), .n (IntKind.wrap .i64 (n15 + (1 : Int))), .n (-1 : Int), .b false, .n (IntKind.wrap .i64 (n4 + (1 : Int))), .n (0 : Int), .n (-1 : Int), .n (0 : Int), .n n6, .n n7, .n n8, .n n9, .n n10, .n n11, .l (Ty.int IntKind.u8) l12, .n n13, .b b14, .n (IntKind.wrap .i64 (n15 + (1 : Int))), .n n16, .b true, .n n5, .n n6]))
         (.leaf (Step.go [.k 0, .n n0, .l TCall24 l1, .n (0 : Int), .n (-1 : Int), .n (IntKind.wrap .i64 (n15 + (1 : Int))), .n (-1 : Int), .b true, .n (IntKind.wrap .i64 (n4 + (1 : Int))), .n (0 : Int), .n (-1 : Int), .n n5, .n n6, .n n7, .n n8, .n n9, .n n10, .n n11, .l (Ty.int IntKind.u8) l12, .n n13, .b b14, .n (IntKind.wrap .i64 (n15 + (1 : Int))), .n n16, .b false, .n n5, .n n6])))
        (.node (Int.tmod (cl_1 l1 n4) (8 : Int) == (7 : Int))
         (.leaf (Step.go [.k 0, .n n0, .l TCall24 l1, .n (0 : Int), .n (-1 : Int), .n n15, .n (-1 : Int), .b true, .n (IntKind.wrap .i64 (n4 + (1 : Int))), .n (0 : Int), .n (-1 : Int), .n n5, .n n6, .n n7, .n n8, .n n9, .n n10, .n n11, .l (Ty.int IntKind.u8) l12, .n n13, .b b14, .n n15, .n n16, .b false, .n n5, .n n6]))
         (.node (decide ((cl_2 l1 n4 : Int) < (0 : Int)))
          (.leaf (Step.go [.k 0, .n n0, .l TCall24 l1, .n (0 : Int), .n (-1 : Int), .n n15, .n (-1 : Int), .b true, .n (IntKind.wrap .i64 (n4 + (1 : Int))), .n (0 : Int), .n (-1 : Int), .n n5, .n n6, .n n7, .n n8, .n n9, .n n10, .n n11, .l (Ty.int IntKind.u8) l12, .n n13, .b b14, .n n15, .n n16, .b false, .n n5, .n n6]))
          (.node (decide ((cl_2 l1 n4 : Int) > (1 : Int)))
           (.leaf (Step.go [.k 0, .n n0, .l TCall24 l1, .n (0 : Int), .n (-1 : Int), .n n15, .n (-1 : Int), .b true, .n (IntKind.wrap .i64 (n4 + (1 : Int))), .n (0 : Int), .n (-1 : Int), .n n5, .n n6, .n n7, .n n8, .n n9, .n n10, .n n11, .l (Ty.int IntKind.u8) l12, .n n13, .b b14, .n n15, .n n16, .b false, .n n5, .n n6]))
           (.node (decide ((cl_5 l1 n4 : Int) < (1 : Int)))
            (.leaf (Step.go [.k 0, .n n0, .l TCall24 l1, .n (0 : Int), .n (-1 : Int), .n n15, .n (-1 : Int), .b true, .n (IntKind.wrap .i64 (n4 + (1 : Int))), .n (0 : Int), .n (-1 : Int), .n n5, .n n6, .n n7, .n n8, .n n9, .n n10, .n n11, .l (Ty.int IntKind.u8) l12, .n n13, .b b14, .n n15, .n n16, .b false, .n n5, .n n6]))
            (.node (decide ((cl_5 l1 n4 : Int) > (1099511627776 : Int)))
             (.leaf (Step.go [.k 0, .n n0, .l TCall24 l1, .n (0 : Int), .n (-1 : Int), .n n15, .n (-1 : Int), .b true, .n (IntKind.wrap .i64 (n4 + (1 : Int))), .n (0 : Int), .n (-1 : Int), .n n5, .n n6, .n n7, .n n8, .n n9, .n n10, .n n11, .l (Ty.int IntKind.u8) l12, .n n13, .b b14, .n n15, .n n16, .b false, .n n5, .n n6]))
             (.node (decide ((cl_4 l1 n4 : Int) < (0 : Int)))
              (.leaf (Step.go [.k 0, .n n0, .l TCall24 l1, .n (0 : Int), .n (-1 : Int), .n n15, .n (-1 : Int), .b true, .n (IntKind.wrap .i64 (n4 + (1 : Int))), .n (0 : Int), .n (-1 : Int), .n n5, .n n6, .n n7, .n n8, .n n9, .n n10, .n n11, .l (Ty.int IntKind.u8) l12, .n n13, .b b14, .n n15, .n n16, .b false, .n n5, .n n6]))
              (.node (decide ((cl_4 l1 n4 : Int) > (1099511627776 : Int)))
               (.leaf (Step.go [.k 0, .n n0, .l TCall24 l1, .n (0 : Int), .n (-1 : Int), .n n15, .n (-1 : Int), .b true, .n (IntKind.wrap .i64 (n4 + (1 : Int))), .n (0 : Int), .n (-1 : Int), .n n5, .n n6, .n n7, .n n8, .n n9, .n n10, .n n11, .l (Ty.int IntKind.u8) l12, .n n13, .b b14, .n n15, .n n16, .b false, .n n5, .n n6]))
               (.node (iandnot IntKind.u64 (cl_6 l1 n4) (cl_8 l1 n4) != (0 : Int))
                (.leaf (Step.go [.k 0, .n n0, .l TCall24 l1, .n (0 : Int), .n (-1 : Int), .n n15, .n (-1 : Int), .b true, .n (IntKind.wrap .i64 (n4 + (1 : Int))), .n (0 : Int), .n (-1 : Int), .n n5, .n n6, .n n7, .n n8, .n n9, .n n10, .n n11, .l (Ty.int IntKind.u8) l12, .n n13, .b b14, .n n15, .n n16, .b false, .n n5, .n n6]))
                (.node (!(cl_8 l1 n4 == cl_8 l1 n4 && (cl_9 l1 n4 == cl_9 l1 n4 && (cl_10 l1 n4 == cl_10 l1 n4 && (eqL (Ty.int IntKind.u8) (cl_11 l1 n4) (cl_11 l1 n4) && (cl_12 l1 n4 == cl_12 l1 n4 && true))))))
                 (.leaf (Step.stop 1 [.b false]))
                 (.leaf (Step.go [.k 1, .n n0, .l TCall24 l1, .n (cl_5 l1 n4), .n (cl_4 l1 n4), .n (0 : Int), .n (cl_2 l1 n4), .b true, .n (IntKind.wrap .i64 (n4 + (1 : Int))), .n (cl_5 l1 n4), .n (cl_2 l1 n4), .n (cl_4 l1 n4), .n (cl_6 l1 n4), .n (cl_7 l1 n4), .n (cl_5 l1 n4), .n (cl_4 l1 n4), .n (cl_8 l1 n4), .n (cl_9 l1 n4), .n (cl_10 l1 n4), .l (Ty.int IntKind.u8) (cl_11 l1 n4), .n (cl_12 l1 n4), .b true, .n (0 : Int), .n n16, .b false, .n (cl_6 l1 n4), .n (cl_7 l1 n4)])))))))))))))))
  | _ => .bad 0
theorem fn_L6_11_ZF_im (n0 : Int) (l1 : List (Ty.den TCall24)) (n2 : Int) (n3 : Int) (n4 : Int) (n5 : Int) (n6 : Int) (n7 : Int) (n8 : Int) (n9 : Int) (n10 : Int) (n11 : Int) (l12 : List (Ty.den (Ty.int IntKind.u8))) (n13 : Int) (b14 : Bool) (n15 : Int) (n16 : Int) (g0 : n15 ≤ n16) (g1 :  n16 = 1 + n0) (g2 :  0 ≤ n0) (g3 :  n0 ≤ 255) (g4 :  0 ≤ n15) (g5 :  n15 ≤ 300) (g6 :  0 ≤ n4) (g7 :  n4 < (l1.length : Int)) (g8 :  l1.length ≤ 300) (g9 :  iandnot .u64 n5 n9 = 0) : Imp (fn_L6_11_ZF [.n n0, .l TCall24 l1, .n n2, .n n3, .n n4, .n n5, .n n6, .n n7, .n n8, .n n9, .n n10, .n n11, .l (Ty.int IntKind.u8) l12, .n n13, .b b14, .n n15, .n n16]) (st_L6_11 [.k 0, .n n0, .l TCall24 l1, .n 0, .n (-1), .n n15, .n (-1), .b true, .n n4, .n 0, .n (-1), .n n5, .n n6, .n n7, .n n8, .n n9, .n n10, .n n11, .l (.int .u8) l12, .n n13, .b b14, .n n15, .n n16, .b false, .n n5, .n n6]) :=
(.path [1] (by kernel_rfl)
(.pt (c := (decide (n4 < (↑(List.length l1) : Int)))) (by kernel_rfl) (by kernel_rfl) (by (simp [*]; done))
(.pt (c := (inR n4 (List.length l1))) (by kernel_rfl) (by kernel_rfl) (by (simp only [w64d, decide_eq_true_eq, decide_eq_false_iff_not, beq_iff_eq, beq_eq_false_iff_ne, bne_iff_ne, ne_eq, inR, Bool.and_eq_true, Bool.and_eq_false_iff, Bool.not_eq_true', Bool.not_eq_false', Bool.not_eq_eq_eq_not, Bool.not_true, Bool.not_false] at *; omega))
(.path [1] (by kernel_rfl)
(.node (by kernel_rfl) (by kernel_rfl) (fun h0 =>
(.path [1,0,1] (by kernel_rfl)
(.node (by kernel_rfl) (by kernel_rfl) (fun h1 =>
(.path (1 ::1 ::1 ::1 ::1 ::1 ::1 ::1 ::1 ::1 ::0 ::1 ::0 ::1 ::0 ::1 ::1 ::0 ::0 ::0 ::1 ::0 ::1 ::0 ::1 ::0 ::1 ::1 ::0 ::1 ::0 ::1 ::0 ::1 ::1 ::0 ::0 ::0 ::1 ::0 ::1 ::1 :: []) (by kernel_rfl)
(.pf (c := (iandnot IntKind.u64 n5 n9 != (0 : Int))) (by kernel_rfl) (by kernel_rfl) (by (simp [*]; done))
(.path [0,0,0,0,1] (by kernel_rfl)
(.pf (c := (!(n5 == n5 && (n6 == n6 && true)))) (by kernel_rfl) (by kernel_rfl) (by (simp [*]; done))
(.pf (c := (decide (n15 > IntKind.wrap .i64 ((1 : Int) + IntKind.wrap .i64 n0)))) (by kernel_rfl) (by kernel_rfl) (by (simp only [w64d, decide_eq_true_eq, decide_eq_false_iff_not, beq_iff_eq, beq_eq_false_iff_ne, bne_iff_ne, ne_eq, inR, Bool.and_eq_true, Bool.and_eq_false_iff, Bool.not_eq_true', Bool.not_eq_false', Bool.not_eq_eq_eq_not, Bool.not_true, Bool.not_false] at *; omega))
(.path [0,1] (by kernel_rfl)
(.leaf (by kernel_rfl))))))))) (fun h1 =>
(.node (by kernel_rfl) (by kernel_rfl) (fun h2 =>
(.path (1 ::1 ::1 ::1 ::1 ::1 ::1 ::1 ::0 ::1 ::0 ::1 ::0 ::1 ::1 ::0 ::0 ::0 ::1 ::0 ::1 ::0 ::1 ::0 ::1 ::1 ::0 ::1 ::0 ::1 ::0 ::1 ::1 ::0 ::0 ::0 ::1 ::0 ::1 ::1 :: []) (by kernel_rfl)
(.pf (c := (iandnot IntKind.u64 n5 n9 != (0 : Int))) (by kernel_rfl) (by kernel_rfl) (by (simp [*]; done))
(.path [0,0,0,0,1] (by kernel_rfl)
(.pf (c := (!(n5 == n5 && (n6 == n6 && true)))) (by kernel_rfl) (by kernel_rfl) (by (simp [*]; done))
(.pf (c := (decide (n15 > IntKind.wrap .i64 ((1 : Int) + IntKind.wrap .i64 n0)))) (by kernel_rfl) (by kernel_rfl) (by (simp only [w64d, decide_eq_true_eq, decide_eq_false_iff_not, beq_iff_eq, beq_eq_false_iff_ne, bne_iff_ne, ne_eq, inR, Bool.and_eq_true, Bool.and_eq_false_iff, Bool.not_eq_true', Bool.not_eq_false', Bool.not_eq_eq_eq_not, Bool.not_true, Bool.not_false] at *; omega))
(.path [0,1] (by kernel_rfl)
(.leaf (by kernel_rfl))))))))) (fun h2 =>
(.node (by kernel_rfl) (by kernel_rfl) (fun h3 =>
(.path (1 ::1 ::1 ::1 ::1 ::1 ::0 ::1 ::0 ::1 ::0 ::1 ::1 ::0 ::0 ::0 ::1 ::0 ::1 ::0 ::1 ::0 ::1 ::1 ::0 ::1 ::0 ::1 ::0 ::1 ::1 ::0 ::0 ::0 ::1 ::0 ::1 ::1 :: []) (by kernel_rfl)
(.pf (c := (iandnot IntKind.u64 n5 n9 != (0 : Int))) (by kernel_rfl) (by kernel_rfl) (by (simp [*]; done))
(.path [0,0,0,0,1] (by kernel_rfl)
(.pf (c := (!(n5 == n5 && (n6 == n6 && true)))) (by kernel_rfl) (by kernel_rfl) (by (simp [*]; done))
(.pf (c := (decide (n15 > IntKind.wrap .i64 ((1 : Int) + IntKind.wrap .i64 n0)))) (by kernel_rfl) (by kernel_rfl) (by (simp only [w64d, decide_eq_true_eq, decide_eq_false_iff_not, beq_iff_eq, beq_eq_false_iff_ne, bne_iff_ne, ne_eq, inR, Bool.and_eq_true, Bool.and_eq_false_iff, Bool.not_eq_true', Bool.not_eq_false', Bool.not_eq_eq_eq_not, Bool.not_true, Bool.not_false] at *; omega))
(.path [0,1] (by kernel_rfl)
(.leaf (by kernel_rfl))))))))) (fun h3 =>
(.node (by kernel_rfl) (by kernel_rfl) (fun h4 =>
(.path (1 ::1 ::1 ::1 ::0 ::1 ::0 ::1 ::0 ::1 ::1 ::0 ::0 ::0 ::1 ::0 ::1 ::0 ::1 ::0 ::1 ::1 ::0 ::1 ::0 ::1 ::0 ::1 ::1 ::0 ::0 ::0 ::1 ::0 ::1 ::1 :: []) (by kernel_rfl)
(.pf (c := (iandnot IntKind.u64 n5 n9 != (0 : Int))) (by kernel_rfl) (by kernel_rfl) (by (simp [*]; done))
(.path [0,0,0,0,1] (by kernel_rfl)
(.pf (c := (!(n5 == n5 && (n6 == n6 && true)))) (by kernel_rfl) (by kernel_rfl) (by (simp [*]; done))
(.pf (c := (decide (n15 > IntKind.wrap .i64 ((1 : Int) + IntKind.wrap .i64 n0)))) (by kernel_rfl) (by kernel_rfl) (by (simp only [w64d, decide_eq_true_eq, decide_eq_false_iff_not, beq_iff_eq, beq_eq_false_iff_ne, bne_iff_ne, ne_eq, inR, Bool.and_eq_true, Bool.and_eq_false_iff, Bool.not_eq_true', Bool.not_eq_false', Bool.not_eq_eq_eq_not, Bool.not_true, Bool.not_false] at *; omega))
(.path [0,1] (by kernel_rfl)
(.leaf (by kernel_rfl))))))))) (fun h4 =>
(.pf (c := (decide ((cl_5 l1 n4 : Int) < (0 : Int)))) (by kernel_rfl) (by kernel_rfl) (by (simp only [w64d, decide_eq_true_eq, decide_eq_false_iff_not, beq_iff_eq, beq_eq_false_iff_ne, bne_iff_ne, ne_eq, inR, Bool.and_eq_true, Bool.and_eq_false_iff, Bool.not_eq_true', Bool.not_eq_false', Bool.not_eq_eq_eq_not, Bool.not_true, Bool.not_false] at *; omega))
(.pf (c := (cl_5 l1 n4 == (0 : Int))) (by kernel_rfl) (by kernel_rfl) (by (simp only [w64d, decide_eq_true_eq, decide_eq_false_iff_not, beq_iff_eq, beq_eq_false_iff_ne, bne_iff_ne, ne_eq, inR, Bool.and_eq_true, Bool.and_eq_false_iff, Bool.not_eq_true', Bool.not_eq_false', Bool.not_eq_eq_eq_not, Bool.not_true, Bool.not_false] at *; omega))
(.path [0,0,1,0,1] (by kernel_rfl)
(.pt (c := (decide ((cl_5 l1 n4 : Int) > (0 : Int)))) (by kernel_rfl) (by kernel_rfl) (by (simp only [w64d, decide_eq_true_eq, decide_eq_false_iff_not, beq_iff_eq, beq_eq_false_iff_ne, bne_iff_ne, ne_eq, inR, Bool.and_eq_true, Bool.and_eq_false_iff, Bool.not_eq_true', Bool.not_eq_false', Bool.not_eq_eq_eq_not, Bool.not_true, Bool.not_false] at *; omega))
(.path [1,1,1,0,1] (by kernel_rfl)
(.pf (c := (decide ((cl_5 l1 n4 : Int) < (0 : Int)))) (by kernel_rfl) (by kernel_rfl) (by (simp only [w64d, decide_eq_true_eq, decide_eq_false_iff_not, beq_iff_eq, beq_eq_false_iff_ne, bne_iff_ne, ne_eq, inR, Bool.and_eq_true, Bool.and_eq_false_iff, Bool.not_eq_true', Bool.not_eq_false', Bool.not_eq_eq_eq_not, Bool.not_true, Bool.not_false] at *; omega))
(.path [1,0,1] (by kernel_rfl)
(.pf (c := (cl_5 l1 n4 == (0 : Int))) (by kernel_rfl) (by kernel_rfl) (by (simp only [w64d, decide_eq_true_eq, decide_eq_false_iff_not, beq_iff_eq, beq_eq_false_iff_ne, bne_iff_ne, ne_eq, inR, Bool.and_eq_true, Bool.and_eq_false_iff, Bool.not_eq_true', Bool.not_eq_false', Bool.not_eq_eq_eq_not, Bool.not_true, Bool.not_false] at *; omega))
(.path [0,0,0,0,1,0,1] (by kernel_rfl)
(.pt (c := (decide ((cl_5 l1 n4 : Int) > (0 : Int)))) (by kernel_rfl) (by kernel_rfl) (by (simp only [w64d, decide_eq_true_eq, decide_eq_false_iff_not, beq_iff_eq, beq_eq_false_iff_ne, bne_iff_ne, ne_eq, inR, Bool.and_eq_true, Bool.and_eq_false_iff, Bool.not_eq_true', Bool.not_eq_false', Bool.not_eq_eq_eq_not, Bool.not_true, Bool.not_false] at *; omega))
(.path [1,0,1,1,0,1,0,1,0,1,1,0,0,0,1,0,1,1] (by kernel_rfl)
(.pf (c := (iandnot IntKind.u64 n5 n9 != (0 : Int))) (by kernel_rfl) (by kernel_rfl) (by (simp [*]; done))
(.path [0,0,0,0,1] (by kernel_rfl)
(.pf (c := (!(n5 == n5 && (n6 == n6 && true)))) (by kernel_rfl) (by kernel_rfl) (by (simp [*]; done))
(.pf (c := (decide (n15 > IntKind.wrap .i64 ((1 : Int) + IntKind.wrap .i64 n0)))) (by kernel_rfl) (by kernel_rfl) (by (simp only [w64d, decide_eq_true_eq, decide_eq_false_iff_not, beq_iff_eq, beq_eq_false_iff_ne, bne_iff_ne, ne_eq, inR, Bool.and_eq_true, Bool.and_eq_false_iff, Bool.not_eq_true', Bool.not_eq_false', Bool.not_eq_eq_eq_not, Bool.not_true, Bool.not_false] at *; omega))
(.path [0,1] (by kernel_rfl)
(.leaf (by kernel_rfl)))))))))))))))))))))))))))) (fun h0 =>
(.node (by kernel_rfl) (by kernel_rfl) (fun h1 =>
(.path [1,1,0,1] (by kernel_rfl)
(.node (by kernel_rfl) (by kernel_rfl) (fun h2 =>
(.path (1 ::1 ::1 ::1 ::1 ::1 ::1 ::1 ::1 ::1 ::1 ::0 ::1 ::0 ::1 ::0 ::1 ::0 ::1 ::1 ::0 ::0 ::0 ::1 ::0 ::1 ::0 ::1 ::0 ::1 ::1 ::0 ::1 ::0 ::1 ::0 ::1 ::1 ::0 ::0 ::0 ::1 ::0 ::1 ::1 :: []) (by kernel_rfl)
(.pf (c := (iandnot IntKind.u64 n5 n9 != (0 : Int))) (by kernel_rfl) (by kernel_rfl) (by (simp [*]; done))
(.path [0,0,0,0,1] (by kernel_rfl)
(.pf (c := (!(n5 == n5 && (n6 == n6 && true)))) (by kernel_rfl) (by kernel_rfl) (by (simp [*]; done))
(.pf (c := (decide (n15 > IntKind.wrap .i64 ((1 : Int) + IntKind.wrap .i64 n0)))) (by kernel_rfl) (by kernel_rfl) (by (simp only [w64d, decide_eq_true_eq, decide_eq_false_iff_not, beq_iff_eq, beq_eq_false_iff_ne, bne_iff_ne, ne_eq, inR, Bool.and_eq_true, Bool.and_eq_false_iff, Bool.not_eq_true', Bool.not_eq_false', Bool.not_eq_eq_eq_not, Bool.not_true, Bool.not_false] at *; omega))
(.path [0,1] (by kernel_rfl)
(.leaf (by kernel_rfl))))))))) (fun h2 =>
(.node (by kernel_rfl) (by kernel_rfl) (fun h3 =>
(.path (1 ::1 ::1 ::1 ::1 ::1 ::1 ::1 ::1 ::0 ::1 ::0 ::1 ::0 ::1 ::0 ::1 ::1 ::0 ::0 ::0 ::1 ::0 ::1 ::0 ::1 ::0 ::1 ::1 ::0 ::1 ::0 ::1 ::0 ::1 ::1 ::0 ::0 ::0 ::1 ::0 ::1 ::1 :: []) (by kernel_rfl)
(.pf (c := (iandnot IntKind.u64 n5 n9 != (0 : Int))) (by kernel_rfl) (by kernel_rfl) (by (simp [*]; done))
(.path [0,0,0,0,1] (by kernel_rfl)
(.pf (c := (!(n5 == n5 && (n6 == n6 && true)))) (by kernel_rfl) (by kernel_rfl) (by (simp [*]; done))
(.pf (c := (decide (n15 > IntKind.wrap .i64 ((1 : Int) + IntKind.wrap .i64 n0)))) (by kernel_rfl) (by kernel_rfl) (by (simp only [w64d, decide_eq_true_eq, decide_eq_false_iff_not, beq_iff_eq, beq_eq_false_iff_ne, bne_iff_ne, ne_eq, inR, Bool.and_eq_true, Bool.and_eq_false_iff, Bool.not_eq_true', Bool.not_eq_false', Bool.not_eq_eq_eq_not, Bool.not_true, Bool.not_false] at *; omega))
(.path [0,1] (by kernel_rfl)
(.leaf (by kernel_rfl))))))))) (fun h3 =>
(.node (by kernel_rfl) (by kernel_rfl) (fun h4 =>
(.path (1 ::1 ::1 ::1 ::1 ::1 ::1 ::0 ::1 ::0 ::1 ::0 ::1 ::0 ::1 ::1 ::0 ::0 ::0 ::1 ::0 ::1 ::0 ::1 ::0 ::1 ::1 ::0 ::1 ::0 ::1 ::0 ::1 ::1 ::0 ::0 ::0 ::1 ::0 ::1 ::1 :: []) (by kernel_rfl)
(.pf (c := (iandnot IntKind.u64 n5 n9 != (0 : Int))) (by kernel_rfl) (by kernel_rfl) (by (simp [*]; done))
(.path [0,0,0,0,1] (by kernel_rfl)
(.pf (c := (!(n5 == n5 && (n6 == n6 && true)))) (by kernel_rfl) (by kernel_rfl) (by (simp [*]; done))
(.pf (c := (decide (n15 > IntKind.wrap .i64 ((1 : Int) + IntKind.wrap .i64 n0)))) (by kernel_rfl) (by kernel_rfl) (by (simp only [w64d, decide_eq_true_eq, decide_eq_false_iff_not, beq_iff_eq, beq_eq_false_iff_ne, bne_iff_ne, ne_eq, inR, Bool.and_eq_true, Bool.and_eq_false_iff, Bool.not_eq_true', Bool.not_eq_false', Bool.not_eq_eq_eq_not, Bool.not_true, Bool.not_false] at *; omega))
(.path [0,1] (by kernel_rfl)
(.leaf (by kernel_rfl))))))))) (fun h4 =>
(.node (by kernel_rfl) (by kernel_rfl) (fun h5 =>
(.path (1 ::1 ::1 ::1 ::1 ::0 ::1 ::0 ::1 ::0 ::1 ::0 ::1 ::1 ::0 ::0 ::0 ::1 ::0 ::1 ::0 ::1 ::0 ::1 ::1 ::0 ::1 ::0 ::1 ::0 ::1 ::1 ::0 ::0 ::0 ::1 ::0 ::1 ::1 :: []) (by kernel_rfl)
(.pf (c := (iandnot IntKind.u64 n5 n9 != (0 : Int))) (by kernel_rfl) (by kernel_rfl) (by (simp [*]; done))
(.path [0,0,0,0,1] (by kernel_rfl)
(.pf (c := (!(n5 == n5 && (n6 == n6 && true)))) (by kernel_rfl) (by kernel_rfl) (by (simp [*]; done))
(.pf (c := (decide (n15 > IntKind.wrap .i64 ((1 : Int) + IntKind.wrap .i64 n0)))) (by kernel_rfl) (by kernel_rfl) (by (simp only [w64d, decide_eq_true_eq, decide_eq_false_iff_not, beq_iff_eq, beq_eq_false_iff_ne, bne_iff_ne, ne_eq, inR, Bool.and_eq_true, Bool.and_eq_false_iff, Bool.not_eq_true', Bool.not_eq_false', Bool.not_eq_eq_eq_not, Bool.not_true, Bool.not_false] at *; omega))
(.path [0,1] (by kernel_rfl)
(.leaf (by kernel_rfl))))))))) (fun h5 =>
(.pf (c := (decide ((cl_5 l1 n4 : Int) < (0 : Int)))) (by kernel_rfl) (by kernel_rfl) (by (simp only [w64d, decide_eq_true_eq, decide_eq_false_iff_not, beq_iff_eq, beq_eq_false_iff_ne, bne_iff_ne, ne_eq, inR, Bool.and_eq_true, Bool.and_eq_false_iff, Bool.not_eq_true', Bool.not_eq_false', Bool.not_eq_eq_eq_not, Bool.not_true, Bool.not_false] at *; omega))
(.pf (c := (cl_5 l1 n4 == (0 : Int))) (by kernel_rfl) (by kernel_rfl) (by (simp only [w64d, decide_eq_true_eq, decide_eq_false_iff_not, beq_iff_eq, beq_eq_false_iff_ne, bne_iff_ne, ne_eq, inR, Bool.and_eq_true, Bool.and_eq_false_iff, Bool.not_eq_true', Bool.not_eq_false', Bool.not_eq_eq_eq_not, Bool.not_true, Bool.not_false] at *; omega))
(.path [0,0,1,0,1] (by kernel_rfl)
(.pt (c := (decide ((cl_5 l1 n4 : Int) > (0 : Int)))) (by kernel_rfl) (by kernel_rfl) (by (simp only [w64d, decide_eq_true_eq, decide_eq_false_iff_not, beq_iff_eq, beq_eq_false_iff_ne, bne_iff_ne, ne_eq, inR, Bool.and_eq_true, Bool.and_eq_false_iff, Bool.not_eq_true', Bool.not_eq_false', Bool.not_eq_eq_eq_not, Bool.not_true, Bool.not_false] at *; omega))
(.path [1,1,0,1,1,1,1,1,0,1] (by kernel_rfl)
(.pf (c := (decide ((cl_5 l1 n4 : Int) < (0 : Int)))) (by kernel_rfl) (by kernel_rfl) (by (simp only [w64d, decide_eq_true_eq, decide_eq_false_iff_not, beq_iff_eq, beq_eq_false_iff_ne, bne_iff_ne, ne_eq, inR, Bool.and_eq_true, Bool.and_eq_false_iff, Bool.not_eq_true', Bool.not_eq_false', Bool.not_eq_eq_eq_not, Bool.not_true, Bool.not_false] at *; omega))
(.path [1,0,1] (by kernel_rfl)
(.pf (c := (cl_5 l1 n4 == (0 : Int))) (by kernel_rfl) (by kernel_rfl) (by (simp only [w64d, decide_eq_true_eq, decide_eq_false_iff_not, beq_iff_eq, beq_eq_false_iff_ne, bne_iff_ne, ne_eq, inR, Bool.and_eq_true, Bool.and_eq_false_iff, Bool.not_eq_true', Bool.not_eq_false', Bool.not_eq_eq_eq_not, Bool.not_true, Bool.not_false] at *; omega))
(.path [0,0,0,0,1,0,1] (by kernel_rfl)
(.pt (c := (decide ((cl_5 l1 n4 : Int) > (0 : Int)))) (by kernel_rfl) (by kernel_rfl) (by (simp only [w64d, decide_eq_true_eq, decide_eq_false_iff_not, beq_iff_eq, beq_eq_false_iff_ne, bne_iff_ne, ne_eq, inR, Bool.and_eq_true, Bool.and_eq_false_iff, Bool.not_eq_true', Bool.not_eq_false', Bool.not_eq_eq_eq_not, Bool.not_true, Bool.not_false] at *; omega))
(.path [1,0,1,1,0,1,0,1,0,1,1,0,0,0,1,0,1,1,0,1,1,0,0,0,0,1] (by kernel_rfl)
(.leaf (by kernel_rfl))))))))))))))))))))))) (fun h1 =>
(.node (by kernel_rfl) (by kernel_rfl) (fun h2 =>
(.pt (by kernel_rfl) (by kernel_rfl) h2
(.path [1,0,1] (by kernel_rfl)
(.node (by kernel_rfl) (by kernel_rfl) (fun h3 =>
(.path (1 ::1 ::1 ::1 ::0 ::1 ::0 ::1 ::0 ::1 ::1 ::0 ::0 ::0 ::1 ::0 ::1 ::0 ::1 ::0 ::1 ::1 ::0 ::1 ::0 ::1 ::0 ::1 ::1 ::0 ::0 ::0 ::1 ::0 ::1 ::1 ::0 ::1 ::1 ::0 ::0 ::0 ::0 ::1 :: []) (by kernel_rfl)
(.leaf (by kernel_rfl)))) (fun h3 =>
(.path (1 ::1 ::0 ::1 ::0 ::1 ::0 ::1 ::1 ::0 ::0 ::0 ::1 ::0 ::1 ::0 ::1 ::0 ::1 ::1 ::0 ::1 ::0 ::1 ::0 ::1 ::1 ::0 ::0 ::0 ::1 ::0 ::1 ::1 :: []) (by kernel_rfl)
(.pf (c := (iandnot IntKind.u64 n5 n9 != (0 : Int))) (by kernel_rfl) (by kernel_rfl) (by (simp [*]; done))
(.path [0,0,0,0,1] (by kernel_rfl)
(.pf (c := (!(n5 == n5 && (n6 == n6 && true)))) (by kernel_rfl) (by kernel_rfl) (by (simp [*]; done))
(.pf (c := (decide (IntKind.wrap .i64 (n15 + (1 : Int)) > IntKind.wrap .i64 ((1 : Int) + IntKind.wrap .i64 n0)))) (by kernel_rfl) (by kernel_rfl) (by (simp only [w64d, decide_eq_true_eq, decide_eq_false_iff_not, beq_iff_eq, beq_eq_false_iff_ne, bne_iff_ne, ne_eq, inR, Bool.and_eq_true, Bool.and_eq_false_iff, Bool.not_eq_true', Bool.not_eq_false', Bool.not_eq_eq_eq_not, Bool.not_true, Bool.not_false] at *; omega))
(.path [0,1] (by kernel_rfl)
(.leaf (by kernel_rfl))))))))))))) (fun h2 =>
(.node (by kernel_rfl) (by kernel_rfl) (fun h3 =>
(.path [1,0,1] (by kernel_rfl)
(.node (by kernel_rfl) (by kernel_rfl) (fun h4 =>
(.path (1 ::1 ::1 ::1 ::0 ::1 ::0 ::1 ::0 ::1 ::1 ::0 ::0 ::0 ::1 ::0 ::1 ::0 ::1 ::0 ::1 ::1 ::0 ::1 ::0 ::1 ::0 ::1 ::1 ::0 ::0 ::0 ::1 ::0 ::1 ::1 ::0 ::1 ::1 ::0 ::0 ::0 ::0 ::1 :: []) (by kernel_rfl)
(.leaf (by kernel_rfl)))) (fun h4 =>
(.path (1 ::1 ::0 ::1 ::0 ::1 ::0 ::1 ::1 ::0 ::0 ::0 ::1 ::0 ::1 ::0 ::1 ::0 ::1 ::1 ::0 ::1 ::0 ::1 ::0 ::1 ::1 ::0 ::0 ::0 ::1 ::0 ::1 ::1 :: []) (by kernel_rfl)
(.pf (c := (iandnot IntKind.u64 n5 n9 != (0 : Int))) (by kernel_rfl) (by kernel_rfl) (by (simp [*]; done))
(.path [0,0,0,0,1] (by kernel_rfl)
(.pf (c := (!(n5 == n5 && (n6 == n6 && true)))) (by kernel_rfl) (by kernel_rfl) (by (simp [*]; done))
(.pf (c := (decide (IntKind.wrap .i64 (n15 + (1 : Int)) > IntKind.wrap .i64 ((1 : Int) + IntKind.wrap .i64 n0)))) (by kernel_rfl) (by kernel_rfl) (by (simp only [w64d, decide_eq_true_eq, decide_eq_false_iff_not, beq_iff_eq, beq_eq_false_iff_ne, bne_iff_ne, ne_eq, inR, Bool.and_eq_true, Bool.and_eq_false_iff, Bool.not_eq_true', Bool.not_eq_false', Bool.not_eq_eq_eq_not, Bool.not_true, Bool.not_false] at *; omega))
(.path [0,1] (by kernel_rfl)
(.leaf (by kernel_rfl)))))))))))) (fun h3 =>
(.node (by kernel_rfl) (by kernel_rfl) (fun h4 =>
(.path (1 ::0 ::1 ::1 ::0 ::1 ::0 ::1 ::0 ::1 ::0 ::1 ::1 ::0 ::0 ::0 ::1 ::0 ::1 ::0 ::1 ::0 ::1 ::1 ::0 ::1 ::0 ::1 ::0 ::1 ::1 ::0 ::0 ::0 ::1 ::0 ::1 ::1 :: []) (by kernel_rfl)
(.pf (c := (iandnot IntKind.u64 n5 n9 != (0 : Int))) (by kernel_rfl) (by kernel_rfl) (by (simp [*]; done))
(.path [0,0,0,0,1] (by kernel_rfl)
(.pf (c := (!(n5 == n5 && (n6 == n6 && true)))) (by kernel_rfl) (by kernel_rfl) (by (simp [*]; done))
(.pf (c := (decide (n15 > IntKind.wrap .i64 ((1 : Int) + IntKind.wrap .i64 n0)))) (by kernel_rfl) (by kernel_rfl) (by (simp only [w64d, decide_eq_true_eq, decide_eq_false_iff_not, beq_iff_eq, beq_eq_false_iff_ne, bne_iff_ne, ne_eq, inR, Bool.and_eq_true, Bool.and_eq_false_iff, Bool.not_eq_true', Bool.not_eq_false', Bool.not_eq_eq_eq_not, Bool.not_true, Bool.not_false] at *; omega))
(.path [0,1] (by kernel_rfl)
(.leaf (by kernel_rfl))))))))) (fun h4 =>
(.path [1,0,1] (by kernel_rfl)
(.node (by kernel_rfl) (by kernel_rfl) (fun h5 =>
(.path (1 ::1 ::1 ::1 ::1 ::1 ::1 ::1 ::1 ::1 ::1 ::0 ::1 ::0 ::1 ::0 ::1 ::1 ::0 ::0 ::0 ::1 ::0 ::1 ::0 ::1 ::0 ::1 ::1 ::0 ::1 ::0 ::1 ::0 ::1 ::1 ::0 ::0 ::0 ::1 ::0 ::1 ::1 :: []) (by kernel_rfl)
(.pf (c := (iandnot IntKind.u64 n5 n9 != (0 : Int))) (by kernel_rfl) (by kernel_rfl) (by (simp [*]; done))
(.path [0,0,0,0,1] (by kernel_rfl)
(.pf (c := (!(n5 == n5 && (n6 == n6 && true)))) (by kernel_rfl) (by kernel_rfl) (by (simp [*]; done))
(.pf (c := (decide (n15 > IntKind.wrap .i64 ((1 : Int) + IntKind.wrap .i64 n0)))) (by kernel_rfl) (by kernel_rfl) (by (simp only [w64d, decide_eq_true_eq, decide_eq_false_iff_not, beq_iff_eq, beq_eq_false_iff_ne, bne_iff_ne, ne_eq, inR, Bool.and_eq_true, Bool.and_eq_false_iff, Bool.not_eq_true', Bool.not_eq_false', Bool.not_eq_eq_eq_not, Bool.not_true, Bool.not_false] at *; omega))
(.path [0,1] (by kernel_rfl)
(.leaf (by kernel_rfl))))))))) (fun h5 =>
(.node (by kernel_rfl) (by kernel_rfl) (fun h6 =>
(.path (1 ::1 ::1 ::1 ::1 ::1 ::1 ::1 ::1 ::0 ::1 ::0 ::1 ::0 ::1 ::1 ::0 ::0 ::0 ::1 ::0 ::1 ::0 ::1 ::0 ::1 ::1 ::0 ::1 ::0 ::1 ::0 ::1 ::1 ::0 ::0 ::0 ::1 ::0 ::1 ::1 :: []) (by kernel_rfl)
(.pf (c := (iandnot IntKind.u64 n5 n9 != (0 : Int))) (by kernel_rfl) (by kernel_rfl) (by (simp [*]; done))
(.path [0,0,0,0,1] (by kernel_rfl)
(.pf (c := (!(n5 == n5 && (n6 == n6 && true)))) (by kernel_rfl) (by kernel_rfl) (by (simp [*]; done))
(.pf (c := (decide (n15 > IntKind.wrap .i64 ((1 : Int) + IntKind.wrap .i64 n0)))) (by kernel_rfl) (by kernel_rfl) (by (simp only [w64d, decide_eq_true_eq, decide_eq_false_iff_not, beq_iff_eq, beq_eq_false_iff_ne, bne_iff_ne, ne_eq, inR, Bool.and_eq_true, Bool.and_eq_false_iff, Bool.not_eq_true', Bool.not_eq_false', Bool.not_eq_eq_eq_not, Bool.not_true, Bool.not_false] at *; omega))
(.path [0,1] (by kernel_rfl)
(.leaf (by kernel_rfl))))))))) (fun h6 =>
(.node (by kernel_rfl) (by kernel_rfl) (fun h7 =>
(.path (1 ::1 ::1 ::1 ::1 ::1 ::1 ::0 ::1 ::0 ::1 ::0 ::1 ::1 ::0 ::0 ::0 ::1 ::0 ::1 ::0 ::1 ::0 ::1 ::1 ::0 ::1 ::0 ::1 ::0 ::1 ::1 ::0 ::0 ::0 ::1 ::0 ::1 ::1 :: []) (by kernel_rfl)
(.pf (c := (iandnot IntKind.u64 n5 n9 != (0 : Int))) (by kernel_rfl) (by kernel_rfl) (by (simp [*]; done))
(.path [0,0,0,0,1] (by kernel_rfl)
(.pf (c := (!(n5 == n5 && (n6 == n6 && true)))) (by kernel_rfl) (by kernel_rfl) (by (simp [*]; done))
(.pf (c := (decide (n15 > IntKind.wrap .i64 ((1 : Int) + IntKind.wrap .i64 n0)))) (by kernel_rfl) (by kernel_rfl) (by (simp only [w64d, decide_eq_true_eq, decide_eq_false_iff_not, beq_iff_eq, beq_eq_false_iff_ne, bne_iff_ne, ne_eq, inR, Bool.and_eq_true, Bool.and_eq_false_iff, Bool.not_eq_true', Bool.not_eq_false', Bool.not_eq_eq_eq_not, Bool.not_true, Bool.not_false] at *; omega))
(.path [0,1] (by kernel_rfl)
(.leaf (by kernel_rfl))))))))) (fun h7 =>
(.node (by kernel_rfl) (by kernel_rfl) (fun h8 =>
(.path (1 ::1 ::1 ::1 ::1 ::0 ::1 ::0 ::1 ::0 ::1 ::1 ::0 ::0 ::0 ::1 ::0 ::1 ::0 ::1 ::0 ::1 ::1 ::0 ::1 ::0 ::1 ::0 ::1 ::1 ::0 ::0 ::0 ::1 ::0 ::1 ::1 :: []) (by kernel_rfl)
(.pf (c := (iandnot IntKind.u64 n5 n9 != (0 : Int))) (by kernel_rfl) (by kernel_rfl) (by (simp [*]; done))
(.path [0,0,0,0,1] (by kernel_rfl)
(.pf (c := (!(n5 == n5 && (n6 == n6 && true)))) (by kernel_rfl) (by kernel_rfl) (by (simp [*]; done))
(.pf (c := (decide (n15 > IntKind.wrap .i64 ((1 : Int) + IntKind.wrap .i64 n0)))) (by kernel_rfl) (by kernel_rfl) (by (simp only [w64d, decide_eq_true_eq, decide_eq_false_iff_not, beq_iff_eq, beq_eq_false_iff_ne, bne_iff_ne, ne_eq, inR, Bool.and_eq_true, Bool.and_eq_false_iff, Bool.not_eq_true', Bool.not_eq_false', Bool.not_eq_eq_eq_not, Bool.not_true, Bool.not_false] at *; omega))
(.path [0,1] (by kernel_rfl)
(.leaf (by kernel_rfl))))))))) (fun h8 =>
(.pf (c := (decide ((cl_5 l1 n4 : Int) < (0 : Int)))) (by kernel_rfl) (by kernel_rfl) (by (simp only [w64d, decide_eq_true_eq, decide_eq_false_iff_not, beq_iff_eq, beq_eq_false_iff_ne, bne_iff_ne, ne_eq, inR, Bool.and_eq_true, Bool.and_eq_false_iff, Bool.not_eq_true', Bool.not_eq_false', Bool.not_eq_eq_eq_not, Bool.not_true, Bool.not_false] at *; omega))
(.pf (c := (cl_5 l1 n4 == (0 : Int))) (by kernel_rfl) (by kernel_rfl) (by (simp only [w64d, decide_eq_true_eq, decide_eq_false_iff_not, beq_iff_eq, beq_eq_false_iff_ne, bne_iff_ne, ne_eq, inR, Bool.and_eq_true, Bool.and_eq_false_iff, Bool.not_eq_true', Bool.not_eq_false', Bool.not_eq_eq_eq_not, Bool.not_true, Bool.not_false] at *; omega))
(.path [0,0,1,1,0] (by kernel_rfl)
(.node (by kernel_rfl) (by kernel_rfl) (fun h9 =>
(.path (1 ::1 ::1 ::1 ::1 ::1 ::0 ::1 ::0 ::1 ::0 ::1 ::1 ::0 ::0 ::0 ::1 ::0 ::1 ::0 ::1 ::0 ::1 ::1 ::0 ::1 ::0 ::1 ::0 ::1 ::1 ::0 ::0 ::0 ::1 ::0 ::1 ::1 :: []) (by kernel_rfl)
(.pf (c := (iandnot IntKind.u64 n5 n9 != (0 : Int))) (by kernel_rfl) (by kernel_rfl) (by (simp [*]; done))
(.path [0,0,0,0,1] (by kernel_rfl)
(.pf (c := (!(n5 == n5 && (n6 == n6 && true)))) (by kernel_rfl) (by kernel_rfl) (by (simp [*]; done))
(.pf (c := (decide (n15 > IntKind.wrap .i64 ((1 : Int) + IntKind.wrap .i64 n0)))) (by kernel_rfl) (by kernel_rfl) (by (simp only [w64d, decide_eq_true_eq, decide_eq_false_iff_not, beq_iff_eq, beq_eq_false_iff_ne, bne_iff_ne, ne_eq, inR, Bool.and_eq_true, Bool.and_eq_false_iff, Bool.not_eq_true', Bool.not_eq_false', Bool.not_eq_eq_eq_not, Bool.not_true, Bool.not_false] at *; omega))
(.path [0,1] (by kernel_rfl)
(.leaf (by kernel_rfl))))))))) (fun h9 =>
(.node (by kernel_rfl) (by kernel_rfl) (fun h10 =>
(.path (1 ::1 ::1 ::1 ::0 ::1 ::0 ::1 ::0 ::1 ::1 ::0 ::0 ::0 ::1 ::0 ::1 ::0 ::1 ::0 ::1 ::1 ::0 ::1 ::0 ::1 ::0 ::1 ::1 ::0 ::0 ::0 ::1 ::0 ::1 ::1 :: []) (by kernel_rfl)
(.pf (c := (iandnot IntKind.u64 n5 n9 != (0 : Int))) (by kernel_rfl) (by kernel_rfl) (by (simp [*]; done))
(.path [0,0,0,0,1] (by kernel_rfl)
(.pf (c := (!(n5 == n5 && (n6 == n6 && true)))) (by kernel_rfl) (by kernel_rfl) (by (simp [*]; done))
(.pf (c := (decide (n15 > IntKind.wrap .i64 ((1 : Int) + IntKind.wrap .i64 n0)))) (by kernel_rfl) (by kernel_rfl) (by (simp only [w64d, decide_eq_true_eq, decide_eq_false_iff_not, beq_iff_eq, beq_eq_false_iff_ne, bne_iff_ne, ne_eq, inR, Bool.and_eq_true, Bool.and_eq_false_iff, Bool.not_eq_true', Bool.not_eq_false', Bool.not_eq_eq_eq_not, Bool.not_true, Bool.not_false] at *; omega))
(.path [0,1] (by kernel_rfl)
(.leaf (by kernel_rfl))))))))) (fun h10 =>
(.node (by kernel_rfl) (by kernel_rfl) (fun h11 =>
(.path (1 ::1 ::0 ::1 ::0 ::1 ::0 ::1 ::1 ::0 ::0 ::0 ::1 ::0 ::1 ::0 ::1 ::0 ::1 ::1 ::0 ::1 ::0 ::1 ::0 ::1 ::1 ::0 ::0 ::0 ::1 ::0 ::1 ::1 :: []) (by kernel_rfl)
(.pf (c := (iandnot IntKind.u64 n5 n9 != (0 : Int))) (by kernel_rfl) (by kernel_rfl) (by (simp [*]; done))
(.path [0,0,0,0,1] (by kernel_rfl)
(.pf (c := (!(n5 == n5 && (n6 == n6 && true)))) (by kernel_rfl) (by kernel_rfl) (by (simp [*]; done))
(.pf (c := (decide (n15 > IntKind.wrap .i64 ((1 : Int) + IntKind.wrap .i64 n0)))) (by kernel_rfl) (by kernel_rfl) (by (simp only [w64d, decide_eq_true_eq, decide_eq_false_iff_not, beq_iff_eq, beq_eq_false_iff_ne, bne_iff_ne, ne_eq, inR, Bool.and_eq_true, Bool.and_eq_false_iff, Bool.not_eq_true', Bool.not_eq_false', Bool.not_eq_eq_eq_not, Bool.not_true, Bool.not_false] at *; omega))
(.path [0,1] (by kernel_rfl)
(.leaf (by kernel_rfl))))))))) (fun h11 =>
(.path [1] (by kernel_rfl)
(.pt (c := (decide ((cl_5 l1 n4 : Int) > (0 : Int)))) (by kernel_rfl) (by kernel_rfl) (by (simp only [w64d, decide_eq_true_eq, decide_eq_false_iff_not, beq_iff_eq, beq_eq_false_iff_ne, bne_iff_ne, ne_eq, inR, Bool.and_eq_true, Bool.and_eq_false_iff, Bool.not_eq_true', Bool.not_eq_false', Bool.not_eq_eq_eq_not, Bool.not_true, Bool.not_false] at *; omega))
(.path [1,1,0,0,0,0,1,1,0,1] (by kernel_rfl)
(.pf (c := (decide ((cl_5 l1 n4 : Int) < (0 : Int)))) (by kernel_rfl) (by kernel_rfl) (by (simp only [w64d, decide_eq_true_eq, decide_eq_false_iff_not, beq_iff_eq, beq_eq_false_iff_ne, bne_iff_ne, ne_eq, inR, Bool.and_eq_true, Bool.and_eq_false_iff, Bool.not_eq_true', Bool.not_eq_false', Bool.not_eq_eq_eq_not, Bool.not_true, Bool.not_false] at *; omega))
(.path [1,0,1] (by kernel_rfl)
(.pf (c := (cl_5 l1 n4 == (0 : Int))) (by kernel_rfl) (by kernel_rfl) (by (simp only [w64d, decide_eq_true_eq, decide_eq_false_iff_not, beq_iff_eq, beq_eq_false_iff_ne, bne_iff_ne, ne_eq, inR, Bool.and_eq_true, Bool.and_eq_false_iff, Bool.not_eq_true', Bool.not_eq_false', Bool.not_eq_eq_eq_not, Bool.not_true, Bool.not_false] at *; omega))
(.path [0,0,0,0,1,0,1] (by kernel_rfl)
(.pt (c := (decide ((cl_5 l1 n4 : Int) > (0 : Int)))) (by kernel_rfl) (by kernel_rfl) (by (simp only [w64d, decide_eq_true_eq, decide_eq_false_iff_not, beq_iff_eq, beq_eq_false_iff_ne, bne_iff_ne, ne_eq, inR, Bool.and_eq_true, Bool.and_eq_false_iff, Bool.not_eq_true', Bool.not_eq_false', Bool.not_eq_eq_eq_not, Bool.not_true, Bool.not_false] at *; omega))
(.path [1,0,1,1,0,1,1] (by kernel_rfl)
(.pf (c := (cl_5 l1 n4 != cl_5 l1 n4)) (by kernel_rfl) (by kernel_rfl) (by (simp [*]; done))
(.pf (c := (cl_2 l1 n4 != cl_2 l1 n4)) (by kernel_rfl) (by kernel_rfl) (by (simp [*]; done))
(.pf (c := (decide ((cl_4 l1 n4 : Int) ≤ (-1 : Int)))) (by kernel_rfl) (by kernel_rfl) (by (simp only [w64d, decide_eq_true_eq, decide_eq_false_iff_not, beq_iff_eq, beq_eq_false_iff_ne, bne_iff_ne, ne_eq, inR, Bool.and_eq_true, Bool.and_eq_false_iff, Bool.not_eq_true', Bool.not_eq_false', Bool.not_eq_eq_eq_not, Bool.not_true, Bool.not_false] at *; omega))
(.path [0,1,0,1,1,1,0] (by kernel_rfl)
(.node (by kernel_rfl) (by kernel_rfl) (fun h12 =>
(.path [1,1,1] (by kernel_rfl)
(.leaf (by kernel_rfl)))) (fun h12 =>
(.pf (c := (cl_4 l1 n4 != cl_4 l1 n4)) (by kernel_rfl) (by kernel_rfl) (by (simp [*]; done))
(.path [1,0,1,1] (by kernel_rfl)
(.pf (by kernel_rfl) (by kernel_rfl) h11
(.path [0,0,0,0,1] (by kernel_rfl)
(.pf (c := (!(cl_6 l1 n4 == cl_6 l1 n4 && (cl_7 l1 n4 == cl_7 l1 n4 && true)))) (by kernel_rfl) (by kernel_rfl) (by (simp [*]; done))
(.pf (c := (decide ((0 : Int) > IntKind.wrap .i64 ((1 : Int) + IntKind.wrap .i64 n0)))) (by kernel_rfl) (by kernel_rfl) (by (simp only [w64d, decide_eq_true_eq, decide_eq_false_iff_not, beq_iff_eq, beq_eq_false_iff_ne, bne_iff_ne, ne_eq, inR, Bool.and_eq_true, Bool.and_eq_false_iff, Bool.not_eq_true', Bool.not_eq_false', Bool.not_eq_eq_eq_not, Bool.not_true, Bool.not_false] at *; omega))
(.path [0,1] (by kernel_rfl)
(.leaf (by kernel_rfl))))))))))))))))))))))))))))))))))))))))))))))))))))))))

noncomputable def fn_L6_11_AT : List Dat → Tree Step
  | [.n n0, .l (Ty.pair (Ty.int IntKind.u8) (Ty.pair (Ty.int IntKind.i64) (Ty.pair (Ty.int IntKind.u8) (Ty.pair (Ty.int IntKind.i64) (Ty.pair (Ty.int IntKind.i64) (Ty.pair (Ty.int IntKind.u64) (Ty.pair (Ty.int IntKind.u32) (Ty.pair (Ty.int IntKind.u64) (Ty.pair (Ty.int IntKind.u64) (Ty.pair (Ty.int IntKind.u64) (Ty.pair (Ty.arr 64 (Ty.int IntKind.u8)) (Ty.int IntKind.u32)))))))))))) l1, .n n2, .n n3, .n n4, .n n5, .n n6, .n n7, .n n8, .n n9, .n n10, .n n11, .l (Ty.int IntKind.u8) l12, .n n13, .b b14, .n n15, .n n16] =>
    (.node (Int.tmod (cl_1 l1 n4) (8 : Int) == (3 : Int))
     (.node (decide ((cl_2 l1 n4 : Int) < (0 : Int)))
      (.leaf (Step.go [.k 0, .n n0, .l TCall24 l1, .n n2, .n (-1 : Int), .n n15, .n n3, .b false, .n (IntKind.wrap .i64 (n4 + (1 : Int))), .n n2, .n n3, .n (0 : Int), .n n6, .n n7, .n n8, .n n9, .n n10, .n n11, .l (Ty.int IntKind.u8) l12, .n n13, .b b14, .n n15, .n n16, .b true, .n n5, .n n6]))
      (.node (decide ((cl_2 l1 n4 : Int) > (1 : Int)))
       (.leaf (Step.go [.k 0, .n n0, .l TCall24 l1, .n n2, .n (-1 : Int), .n n15, .n n3, .b false, .n (IntKind.wrap .i64 (n4 + (1 : Int))), .n n2, .n n3, .n (0 : Int), .n n6, .n n7, .n n8, .n n9, .n n10, .n n11, .l (Ty.int IntKind.u8) l12, .n n13, .b b14, .n n15, .n n16, .b true, .n n5, .n n6]))
       (.node (decide ((cl_5 l1 n4 : Int) < (1 : Int)))
        (.leaf (Step.go [.k 0, .n n0, .l TCall24 l1, .n n2, .n (-1 : Int), .n n15, .n n3, .b false, .n (IntKind.wrap .i64 (n4 + (1 : Int))), .n n2, .n n3, .n (0 : Int), .n n6, .n n7, .n n8, .n n9, .n n10, .n n11, .l (Ty.int IntKind.u8) l12, .n n13, .b b14, .n n15, .n n16, .b true, .n n5, .n n6]))
        (.node (decide ((cl_5 l1 n4 : Int) > (1099511627776 : Int)))
         (.leaf (Step.go [.k 0, .n n0, .l TCall24 l1, .n n2, .n (-1 : Int), .n n15, .n n3, .b false, .n (IntKind.wrap .i64 (n4 + (1 : Int))), .n n2, .n n3, .n (0 : Int), .n n6, .n n7, .n n8, .n n9, .n n10, .n n11, .l (Ty.int IntKind.u8) l12, .n n13, .b b14, .n n15, .n n16, .b true, .n n5, .n n6]))
         (.node (decide ((cl_5 l1 n4 : Int) < n2))
          (.leaf (Step.go [.k 0, .n n0, .l TCall24 l1, .n n2, .n (-1 : Int), .n n15, .n n3, .b false, .n (IntKind.wrap .i64 (n4 + (1 : Int))), .n n2, .n n3, .n (0 : Int), .n n6, .n n7, .n n8, .n n9, .n n10, .n n11, .l (Ty.int IntKind.u8) l12, .n n13, .b b14, .n n15, .n n16, .b true, .n n5, .n n6]))
          (.node (cl_5 l1 n4 == n2)
           (.node (cl_2 l1 n4 != n3)
            (.leaf (Step.go [.k 0, .n n0, .l TCall24 l1, .n n2, .n (-1 : Int), .n n15, .n n3, .b false, .n (IntKind.wrap .i64 (n4 + (1 : Int))), .n n2, .n n3, .n (0 : Int), .n n6, .n n7, .n n8, .n n9, .n n10, .n n11, .l (Ty.int IntKind.u8) l12, .n n13, .b b14, .n n15, .n n16, .b true, .n n5, .n n6]))
            (.leaf (Step.go [.k 0, .n n0, .l TCall24 l1, .n n2, .n (-1 : Int), .n n15, .n n3, .b false, .n (IntKind.wrap .i64 (n4 + (1 : Int))), .n n2, .n n3, .n (0 : Int), .n n6, .n n7, .n n8, .n n9, .n n10, .n n11, .l (Ty.int IntKind.u8) l12, .n n13, .b b14, .n n15, .n n16, .b true, .n n5, .n n6])))
           (.leaf (Step.go [.k 0, .n n0, .l TCall24 l1, .n (cl_5 l1 n4), .n (-1 : Int), .n n15, .n (cl_2 l1 n4), .b false, .n (IntKind.wrap .i64 (n4 + (1 : Int))), .n (cl_5 l1 n4), .n (cl_2 l1 n4), .n (0 : Int), .n n6, .n n7, .n n8, .n n9, .n n10, .n n11, .l (Ty.int IntKind.u8) l12, .n n13, .b b14, .n n15, .n n16, .b true, .n n5, .n n6]))))))))
     (.node (Int.tmod (cl_1 l1 n4) (8 : Int) == (4 : Int))
      (.node (decide ((cl_2 l1 n4 : Int) < (0 : Int)))
       (.leaf (Step.go [.k 0, .n n0, .l TCall24 l1, .n n2, .n (-1 : Int), .n n15, .n n3, .b false, .n (IntKind.wrap .i64 (n4 + (1 : Int))), .n n2, .n n3, .n (0 : Int), .n n6, .n n7, .n n8, .n n9, .n n10, .n n11, .l (Ty.int IntKind.u8) l12, .n n13, .b b14, .n n15, .n n16, .b true, .n n5, .n n6]))
       (.node (decide ((cl_2 l1 n4 : Int) > (1 : Int)))
        (.leaf (Step.go [.k 0, .n n0, .l TCall24 l1, .n n2, .n (-1 : Int), .n n15, .n n3, .b false, .n (IntKind.wrap .i64 (n4 + (1 : Int))), .n n2, .n n3, .n (0 : Int), .n n6, .n n7, .n n8, .n n9, .n n10, .n n11, .l (Ty.int IntKind.u8) l12, .n n13, .b b14, .n n15, .n n16, .b true, .n n5, .n n6]))
        (.node (decide ((cl_5 l1 n4 : Int) < (1 : Int)))
         (.leaf (Step.go [.k 0, .n n0, .l TCall24 l1, .n n2, .n (-1 : Int), .n n15, .n n3, .b false, .n (IntKind.wrap .i64 (n4 + (1 : Int))), .n n2, .n n3, .n (0 : Int), .n n6, .n n7, .n n8, .n n9, .n n10, .n n11, .l (Ty.int IntKind.u8) l12, .n n13, .b b14, .n n15, .n n16, .b true, .n n5, .n n6]))
         (.node (decide ((cl_5 l1 n4 : Int) > (1099511627776 : Int)))
          (.leaf (Step.go [.k 0, .n n0, .l TCall24 l1, .n n2, .n (-1 : Int), .n n15, .n n3, .b false, .n (IntKind.wrap .i64 (n4 + (1 : Int))), .n n2, .n n3, .n (0 : Int), .n n6, .n n7, .n n8, .n n9, .n n10, .n n11, .l (Ty.int IntKind.u8) l12, .n n13, .b b14, .n n15, .n n16, .b true, .n n5, .n n6]))
          (.node (decide ((cl_5 l1 n4 : Int) < n2))
           (.leaf (Step.go [.k 0, .n n0, .l TCall24 l1, .n n2, .n (-1 : Int), .n n15, .n n3, .b false, .n (IntKind.wrap .i64 (n4 + (1 : Int))), .n n2, .n n3, .n (0 : Int), .n n6, .n n7, .n n8, .n n9, .n n10, .n n11, .l (Ty.int IntKind.u8) l12, .n n13, .b b14, .n n15, .n n16, .b true, .n n5, .n n6]))
           (.node (cl_5 l1 n4 == n2)
            (.node (cl_2 l1 n4 != n3)
             (.leaf (Step.go [.k 0, .n n0, .l TCall24 l1, .n n2, .n (-1 : Int), .n n15, .n n3, .b false, .n (IntKind.wrap .i64 (n4 + (1 : Int))), .n n2, .n n3, .n (0 : Int), .n n6, .n n7, .n n8, .n n9, .n n10, .n n11, .l (Ty.int IntKind.u8) l12, .n n13, .b b14, .n n15, .n n16, .b true, .n n5, .n n6]))
             (.leaf (Step.go [.k 0, .n n0, .l TCall24 l1, .n n2, .n (-1 : Int), .n n15, .n n3, .b false, .n (IntKind.wrap .i64 (n4 + (1 : Int))), .n n2, .n n3, .n (0 : Int), .n n6, .n n7, .n n8, .n n9, .n n10, .n n11, .l (Ty.int IntKind.u8) l12, .n n13, .b b14, .n n15, .n n16, .b true, .n n5, .n n6])))
            (.leaf (Step.go [.k 0, .n n0, .l TCall24 l1, .n (cl_5 l1 n4), .n (-1 : Int), .n n15, .n (cl_2 l1 n4), .b false, .n (IntKind.wrap .i64 (n4 + (1 : Int))), .n (cl_5 l1 n4), .n (cl_2 l1 n4), .n (0 : Int), .n n6, .n n7, .n n8, .n n9, .n n10, .n n11, .l (Ty.int IntKind.u8) l12, .n n13, .b b14, .n n15, .n n16, .b true, .n n5, .n n6]))))))))
      (.node (Int.tmod (cl_1 l1 n4) (8 : Int) == (5 : Int))
       (.node (decide (IntKind.wrap .i64 (n15 + (1 : Int)) > n16))
        (.leaf (Step.go [.k 0, .n n0, .l TCall24 l1, .n n2, .n (-1 : Int), .n (IntKind.wrap .i64 (n15 + (1 : Int))), .n n3, .b false, .n (IntKind.wrap .i64 (n4 + (1 : Int))), .n n2, .n n3, .n (0 : Int), .n n6, .n n7, .n n8, .n n9, .n n10, .n n11, .l (Ty.int IntKind.u8) l12, .n n13, .b b14, .n (IntKind.wrap .i64 (n15 + (1 : Int))), .n n16, .b true, .n n5, .n n6]))
        (.leaf (Step.go [.k 0, .n n0, .l TCall24 l1, .n n2, .n (-1 : Int), .n (IntKind.wrap .i64 (n15 + (1 : Int))), .n n3, .b false, .n (IntKind.wrap .i64 (n4 + (1 : Int))), .n n2, .n n3, .n (0 : Int), .n n6, .n n7, .n n8, .n n9, .n n10, .n n11, .l (Ty.int IntKind.u8) l12, .n n13, .b b14, .n (IntKind.wrap .i64 (n15 + (1 : Int))), .n n16, .b true, .n n5, .n n6])))
       (.node (Int.tmod (cl_1 l1 n4) (8 : Int) == (6 : Int))
        (.node (decide (IntKind.wrap .i64 (n15 + (1 : Int)) > n16))
         (.leaf (Step.go [.k 0, .n n0, .l TCall24 l1, .n n2, .n (-1 : Int), .n (IntKind.wrap .i64 (n15 + (1 : Int))), .n n3, .b false, .n (IntKind.wrap .i64 (n4 + (1 : Int))), .n n2, .n n3, .n (0 : Int), .n n6, .n n7, .n n8, .n n9, .n n10, .n n11, .l (Ty.int IntKind.u8) l12, .n n13, .b b14, .n (IntKind.wrap .i64 (n15 + (1 : Int))), .n n16, .b true, .n n5, .n n6]))
         (.leaf (Step.go [.k 0, .n n0, .l TCall24 l1, .n n2, .n (-1 : Int), .n (IntKind.wrap .i64 (n15 + (1 : Int))), .n n3, .b false, .n (IntKind.wrap .i64 (n4 + (1 : Int))), .n n2, .n n3, .n (0 : Int), .n n6, .n n7, .n n8, .n n9, .n n10, .n n11, .l (Ty.int IntKind.u8) l12, .n n13, .b b14, .n (IntKind.wrap .i64 (n15 + (1 : Int))), .n n16, .b true, .n n5, .n n6])))
        (.node (Int.tmod (cl_1 l1 n4) (8 : Int) == (7 : Int))
         (.leaf (Step.go [.k 0, .n n0, .l TCall24 l1, .n n2, .n (-1 : Int), .n (0 : Int), .n n3, .b true, .n (IntKind.wrap .i64 (n4 + (1 : Int))), .n n2, .n n3, .n (0 : Int), .n n6, .n n7, .n n8, .n n9, .n n10, .n n11, .l (Ty.int IntKind.u8) l12, .n n13, .b b14, .n (0 : Int), .n n16, .b false, .n (0 : Int), .n n6]))
         (.node (decide ((cl_2 l1 n4 : Int) < (0 : Int)))
          (.leaf (Step.go [.k 0, .n n0, .l TCall24 l1, .n n2, .n (-1 : Int), .n n15, .n n3, .b false, .n (IntKind.wrap .i64 (n4 + (1 : Int))), .n n2, .n n3, .n (0 : Int), .n n6, .n n7, .n n8, .n n9, .n n10, .n n11, .l (Ty.int IntKind.u8) l12, .n n13, .b b14, .n n15, .n n16, .b true, .n n5, .n n6]))
          (.node (decide ((cl_2 l1 n4 : Int) > (1 : Int)))
           (.leaf (Step.go [.k 0, .n n0, .l TCall24 l1, .n n2, .n (-1 : Int), .n n15, .n n3, .b false, .n (IntKind.wrap .i64 (n4 + (1 : Int))), .n n2, .n n3, .n (0 : Int), .n n6, .n n7, .n n8, .n n9, .n n10, .n n11, .l (Ty.int IntKind.u8) l12, .n n13, .b b14, .n n15, .n n16, .b true, .n n5, .n n6]))
           (.node (decide ((cl_5 l1 n4 : Int) < (1 : Int)))
            (.leaf (Step.go [.k 0, .n n0, .l TCall24 l1, .n n2, .n (-1 : Int), .n n15, .n n3, .b false, .n (IntKind.wrap .i64 (n4 + (1 : Int))), .n n2, .n n3, .n (0 : Int), .n n6, .n n7, .n n8, .n n9, .n n10, .n n11, .l (Ty.int IntKind.u8) l12, .n n13, .b b14, .n n15, .n n16, .b true, .n n5, .n n6]))
            (.node (decide ((cl_5 l1 n4 : Int) > (1099511627776 : Int)))
             (.leaf (Step.go [.k 0, .n n0, .l TCall24 l1, .n n2, .n (-1 : Int), .n n15, .n n3, .b false, .n (IntKind.wrap .i64 (n4 + (1 : Int))), .n n2, .n n3, .n (0 : Int), .n n6, .n n7, .n n8, .n n9, .n n10, .n n11, .l (Ty.int IntKind.u8) l12, .n n13, .b b14, .n n15, .n n16, .b true, .n n5, .n n6]))
             (.node (decide ((cl_5 l1 n4 : Int) < n2))
              (.leaf (Step.go [.k 0, .n n0, .l TCall24 l1, .n n2, .n (-1 : Int), .n n15, .n n3, .b false, .n (IntKind.wrap .i64 (n4 + (1 : Int))), .n n2, .n n3, .n (0 : Int), .n n6, .n n7, .n n8, .n n9, .n n10, .n n11, .l (Ty.int IntKind.u8) l12, .n n13, .b b14, .n n15, .n n16, .b true, .n n5, .n n6]))
              (.node (cl_5 l1 n4 == n2)
               (.node (cl_2 l1 n4 != n3)
                (.leaf (Step.go [.k 0, .n n0, .l TCall24 l1, .n n2, .n (-1 : Int), .n n15, .n n3, .b false, .n (IntKind.wrap .i64 (n4 + (1 : Int))), .n n2, .n n3, .n (0 : Int), .n n6, .n n7, .n n8, .n n9, .n n10, .n n11, .l (Ty.int IntKind.u8) l12, .n n13, .b b14, .n n15, .n n16, .b true, .n n5, .n n6]))
                (.node (decide ((cl_4 l1 n4 : Int) < (0 : Int)))
                 (.leaf (Step.go [.k 0, .n n0, .l TCall24 l1, .n n2, .n (-1 : Int), .n n15, .n n3, .b false, .n (IntKind.wrap .i64 (n4 + (1 : Int))), .n n2, .n n3, .n (0 : Int), .n n6, .n n7, .n n8, .n n9, .n n10, .n n11, .l (Ty.int IntKind.u8) l12, .n n13, .b b14, .n n15, .n n16, .b true, .n n5, .n n6]))
                 (.node (decide ((cl_4 l1 n4 : Int) > (1099511627776 : Int)))
                  (.leaf (Step.go [.k 0, .n n0, .l TCall24 l1, .n n2, .n (-1 : Int), .n n15, .n n3, .b false, .n (IntKind.wrap .i64 (n4 + (1 : Int))), .n n2, .n n3, .n (0 : Int), .n n6, .n n7, .n n8, .n n9, .n n10, .n n11, .l (Ty.int IntKind.u8) l12, .n n13, .b b14, .n n15, .n n16, .b true, .n n5, .n n6]))
                  (.node (iandnot IntKind.u64 (cl_6 l1 n4) (cl_8 l1 n4) != (0 : Int))
                   (.leaf (Step.go [.k 0, .n n0, .l TCall24 l1, .n n2, .n (-1 : Int), .n n15, .n n3, .b false, .n (IntKind.wrap .i64 (n4 + (1 : Int))), .n n2, .n n3, .n (0 : Int), .n n6, .n n7, .n n8, .n n9, .n n10, .n n11, .l (Ty.int IntKind.u8) l12, .n n13, .b b14, .n n15, .n n16, .b true, .n n5, .n n6]))
                   (.leaf (Step.go [.k 0, .n n0, .l TCall24 l1, .n n2, .n (-1 : Int), .n n15, .n n3, .b false, .n (IntKind.wrap .i64 (n4 + (1 : Int))), .n n2, .n n3, .n (0 : Int), .n n6, .n n7, .n n8, .n n9, .n n10, .n n11, .l (Ty.int IntKind.u8) l12, .n n13, .b b14, .n n15, .n n16, .b true, .n n5, .n n6]))))))
               (.node (decide ((cl_4 l1 n4 : Int) < (0 : Int)))
                (.leaf (Step.go [.k 0, .n n0, .l TCall24 l1, .n n2, .n (-1 : Int), .n n15, .n n3, .b false, .n (IntKind.wrap .i64 (n4 + (1 : Int))), .n n2, .n n3, .n (0 : Int), .n n6, .n n7, .n n8, .n n9, .n n10, .n n11, .l (Ty.int IntKind.u8) l12, .n n13, .b b14, .n n15, .n n16, .b true, .n n5, .n n6]))
                (.node (decide ((cl_4 l1 n4 : Int) > (1099511627776 : Int)))
                 (.leaf (Step.go [.k 0, .n n0, .l TCall24 l1, .n n2, .n (-1 : Int), .n n15, .n n3, .b false, .n (IntKind.wrap .i64 (n4 + (1 : Int))), .n n2, .n n3, .n (0 : Int), .n n6, .n n7, .n n8, .n n9, .n n10, .n n11, .l (Ty.int IntKind.u8) l12, .n n13, .b b14, .n n15, .n n16, .b true, .n n5, .n n6]))
                 (.node (iandnot IntKind.u64 (cl_6 l1 n4) (cl_8 l1 n4) != (0 : Int))
                  (.leaf (Step.go [.k 0, .n n0, .l TCall24 l1, .n n2, .n (-1 : Int), .n n15, .n n3, .b false, .n (IntKind.wrap .i64 (n4 + (1 : Int))), .n n2, .n n3, .n (0 : Int), .n n6, .n n7, .n n8, .n n9, .n n10, .n n11, .l (Ty.int IntKind.u8) l12, .n n13, .b b14, .n n15, .n n16, .b true, .n n5, .n n6]))
                  (.leaf (Step.go [.k 0, .n n0, .l TCall24 l1, .n (cl_5 l1 n4), .n (-1 : Int), .n n15, .n (cl_2 l1 n4), .b false, .n (IntKind.wrap .i64 (n4 + (1 : Int))), .n (cl_5 l1 n4), .n (cl_2 l1 n4), .n (0 : Int), .n n6, .n n7, .n n8, .n n9, .n n10, .n n11, .l (Ty.int IntKind.u8) l12, .n n13, .b b14, .n n15, .n n16, .b true, .n n5, .n n6]))))))))))))))))
  | _ => .bad 0
theorem fn_L6_11_AT_im (n0 : Int) (l1 : List (Ty.den TCall24)) (n2 : Int) (n3 : Int) (n4 : Int) (n5 : Int) (n6 : Int) (n7 : Int) (n8 : Int) (n9 : Int) (n10 : Int) (n11 : Int) (l12 : List (Ty.den (Ty.int IntKind.u8))) (n13 : Int) (b14 : Bool) (n15 : Int) (n16 : Int) (g0 : 0 < n2) (g1 :  n16 = 1 + n0) (g2 :  0 ≤ n0) (g3 :  n0 ≤ 255) (g4 :  0 ≤ n15) (g5 :  n15 ≤ 300) (g6 :  0 ≤ n4) (g7 :  n4 < (l1.length : Int)) (g8 :  l1.length ≤ 300) (g9 :  iandnot .u64 0 n9 = 0) : Imp (fn_L6_11_AT [.n n0, .l TCall24 l1, .n n2, .n n3, .n n4, .n n5, .n n6, .n n7, .n n8, .n n9, .n n10, .n n11, .l (Ty.int IntKind.u8) l12, .n n13, .b b14, .n n15, .n n16]) (st_L6_11 [.k 0, .n n0, .l TCall24 l1, .n n2, .n (-1), .n n15, .n n3, .b false, .n n4, .n n2, .n n3, .n 0, .n n6, .n n7, .n n8, .n n9, .n n10, .n n11, .l (.int .u8) l12, .n n13, .b b14, .n n15, .n n16, .b true, .n n5, .n n6]) :=
(.path [1] (by kernel_rfl)
(.pt (c := (decide (n4 < (↑(List.length l1) : Int)))) (by kernel_rfl) (by kernel_rfl) (by (simp [*]; done))
(.pt (c := (inR n4 (List.length l1))) (by kernel_rfl) (by kernel_rfl) (by (simp only [w64d, decide_eq_true_eq, decide_eq_false_iff_not, beq_iff_eq, beq_eq_false_iff_ne, bne_iff_ne, ne_eq, inR, Bool.and_eq_true, Bool.and_eq_false_iff, Bool.not_eq_true', Bool.not_eq_false', Bool.not_eq_eq_eq_not, Bool.not_true, Bool.not_false] at *; omega))
(.path [1] (by kernel_rfl)
(.node (by kernel_rfl) (by kernel_rfl) (fun h0 =>
(.path [1,0,1] (by kernel_rfl)
(.node (by kernel_rfl) (by kernel_rfl) (fun h1 =>
(.path [1,1,1,1,1,1,1,1,1,1,0,1] (by kernel_rfl)
(.pf (c := (decide (n2 < n2))) (by kernel_rfl) (by kernel_rfl) (by (simp [*]; done))
(.path [1,0,1] (by kernel_rfl)
(.pt (c := (n2 == n2)) (by kernel_rfl) (by kernel_rfl) (by (simp [*]; done))
(.pt (c := (decide (n2 > (0 : Int)))) (by kernel_rfl) (by kernel_rfl) (by (simp [*]; done))
(.path [1,0,1] (by kernel_rfl)
(.pf (c := (n3 != n3)) (by kernel_rfl) (by kernel_rfl) (by (simp [*]; done))
(.path [1,0,1] (by kernel_rfl)
(.pf (c := (decide (n2 > n2))) (by kernel_rfl) (by kernel_rfl) (by (simp [*]; done))
(.path [1,0,1,1,0,1,0,1,0,1,1,0,0,0,1,0,1,1,0,1,1,0,0,0,0,1] (by kernel_rfl)
(.leaf (by kernel_rfl))))))))))))) (fun h1 =>
(.node (by kernel_rfl) (by kernel_rfl) (fun h2 =>
(.path [1,1,1,1,1,1,1,1,0,1] (by kernel_rfl)
(.pf (c := (decide (n2 < n2))) (by kernel_rfl) (by kernel_rfl) (by (simp [*]; done))
(.path [1,0,1] (by kernel_rfl)
(.pt (c := (n2 == n2)) (by kernel_rfl) (by kernel_rfl) (by (simp [*]; done))
(.pt (c := (decide (n2 > (0 : Int)))) (by kernel_rfl) (by kernel_rfl) (by (simp [*]; done))
(.path [1,0,1] (by kernel_rfl)
(.pf (c := (n3 != n3)) (by kernel_rfl) (by kernel_rfl) (by (simp [*]; done))
(.path [1,0,1] (by kernel_rfl)
(.pf (c := (decide (n2 > n2))) (by kernel_rfl) (by kernel_rfl) (by (simp [*]; done))
(.path [1,0,1,1,0,1,0,1,0,1,1,0,0,0,1,0,1,1,0,1,1,0,0,0,0,1] (by kernel_rfl)
(.leaf (by kernel_rfl))))))))))))) (fun h2 =>
(.node (by kernel_rfl) (by kernel_rfl) (fun h3 =>
(.path [1,1,1,1,1,1,0,1] (by kernel_rfl)
(.pf (c := (decide (n2 < n2))) (by kernel_rfl) (by kernel_rfl) (by (simp [*]; done))
(.path [1,0,1] (by kernel_rfl)
(.pt (c := (n2 == n2)) (by kernel_rfl) (by kernel_rfl) (by (simp [*]; done))
(.pt (c := (decide (n2 > (0 : Int)))) (by kernel_rfl) (by kernel_rfl) (by (simp [*]; done))
(.path [1,0,1] (by kernel_rfl)
(.pf (c := (n3 != n3)) (by kernel_rfl) (by kernel_rfl) (by (simp [*]; done))
(.path [1,0,1] (by kernel_rfl)
(.pf (c := (decide (n2 > n2))) (by kernel_rfl) (by kernel_rfl) (by (simp [*]; done))
(.path [1,0,1,1,0,1,0,1,0,1,1,0,0,0,1,0,1,1,0,1,1,0,0,0,0,1] (by kernel_rfl)
(.leaf (by kernel_rfl))))))))))))) (fun h3 =>
(.node (by kernel_rfl) (by kernel_rfl) (fun h4 =>
(.path [1,1,1,1,0,1] (by kernel_rfl)
(.pf (c := (decide (n2 < n2))) (by kernel_rfl) (by kernel_rfl) (by (simp [*]; done))
(.path [1,0,1] (by kernel_rfl)
(.pt (c := (n2 == n2)) (by kernel_rfl) (by kernel_rfl) (by (simp [*]; done))
(.pt (c := (decide (n2 > (0 : Int)))) (by kernel_rfl) (by kernel_rfl) (by (simp [*]; done))
(.path [1,0,1] (by kernel_rfl)
(.pf (c := (n3 != n3)) (by kernel_rfl) (by kernel_rfl) (by (simp [*]; done))
(.path [1,0,1] (by kernel_rfl)
(.pf (c := (decide (n2 > n2))) (by kernel_rfl) (by kernel_rfl) (by (simp [*]; done))
(.path [1,0,1,1,0,1,0,1,0,1,1,0,0,0,1,0,1,1,0,1,1,0,0,0,0,1] (by kernel_rfl)
(.leaf (by kernel_rfl))))))))))))) (fun h4 =>
(.node (by kernel_rfl) (by kernel_rfl) (fun h5 =>
(.path [1,1,1,1,1,1,0,1] (by kernel_rfl)
(.pf (c := (decide (n2 < n2))) (by kernel_rfl) (by kernel_rfl) (by (simp [*]; done))
(.path [1,0,1] (by kernel_rfl)
(.pt (c := (n2 == n2)) (by kernel_rfl) (by kernel_rfl) (by (simp [*]; done))
(.pt (c := (decide (n2 > (0 : Int)))) (by kernel_rfl) (by kernel_rfl) (by (simp [*]; done))
(.path [1,0,1] (by kernel_rfl)
(.pf (c := (n3 != n3)) (by kernel_rfl) (by kernel_rfl) (by (simp [*]; done))
(.path [1,0,1] (by kernel_rfl)
(.pf (c := (decide (n2 > n2))) (by kernel_rfl) (by kernel_rfl) (by (simp [*]; done))
(.path [1,0,1,1,0,1,0,1,0,1,1,0,0,0,1,0,1,1,0,1,1,0,0,0,0,1] (by kernel_rfl)
(.leaf (by kernel_rfl))))))))))))) (fun h5 =>
(.node (by kernel_rfl) (by kernel_rfl) (fun h6 =>
(.node (by kernel_rfl) (by kernel_rfl) (fun h7 =>
(.path [1,1,1,1,0,1] (by kernel_rfl)
(.pf (c := (decide (n2 < n2))) (by kernel_rfl) (by kernel_rfl) (by (simp [*]; done))
(.path [1,0,1] (by kernel_rfl)
(.pt (c := (n2 == n2)) (by kernel_rfl) (by kernel_rfl) (by (simp [*]; done))
(.pt (c := (decide (n2 > (0 : Int)))) (by kernel_rfl) (by kernel_rfl) (by (simp [*]; done))
(.path [1,0,1] (by kernel_rfl)
(.pf (c := (n3 != n3)) (by kernel_rfl) (by kernel_rfl) (by (simp [*]; done))
(.path [1,0,1] (by kernel_rfl)
(.pf (c := (decide (n2 > n2))) (by kernel_rfl) (by kernel_rfl) (by (simp [*]; done))
(.path [1,0,1,1,0,1,0,1,0,1,1,0,0,0,1,0,1,1,0,1,1,0,0,0,0,1] (by kernel_rfl)
(.leaf (by kernel_rfl))))))))))))) (fun h7 =>
(.path [1,0,1] (by kernel_rfl)
(.pf (c := (decide ((cl_5 l1 n4 : Int) > n2))) (by kernel_rfl) (by kernel_rfl) (by (simp only [w64d, decide_eq_true_eq, decide_eq_false_iff_not, beq_iff_eq, beq_eq_false_iff_ne, bne_iff_ne, ne_eq, inR, Bool.and_eq_true, Bool.and_eq_false_iff, Bool.not_eq_true', Bool.not_eq_false', Bool.not_eq_eq_eq_not, Bool.not_true, Bool.not_false] at *; omega))
(.path [1,1,1,0,1] (by kernel_rfl)
(.pf (c := (decide (n2 < n2))) (by kernel_rfl) (by kernel_rfl) (by (simp [*]; done))
(.path [1,0,1] (by kernel_rfl)
(.pt (c := (n2 == n2)) (by kernel_rfl) (by kernel_rfl) (by (simp [*]; done))
(.pt (c := (decide (n2 > (0 : Int)))) (by kernel_rfl) (by kernel_rfl) (by (simp [*]; done))
(.path [1,0,1] (by kernel_rfl)
(.pf (c := (n3 != n3)) (by kernel_rfl) (by kernel_rfl) (by (simp [*]; done))
(.path [1,0,1] (by kernel_rfl)
(.pf (c := (decide (n2 > n2))) (by kernel_rfl) (by kernel_rfl) (by (simp [*]; done))
(.path [1,0,1,1,0,1,0,1,0,1,1,0,0,0,1,0,1,1,0,1,1,0,0,0,0,1] (by kernel_rfl)
(.leaf (by kernel_rfl))))))))))))))))) (fun h6 =>
(.path [0,0,1,0,1] (by kernel_rfl)
(.pt (c := (decide ((cl_5 l1 n4 : Int) > n2))) (by kernel_rfl) (by kernel_rfl) (by (simp only [w64d, decide_eq_true_eq, decide_eq_false_iff_not, beq_iff_eq, beq_eq_false_iff_ne, bne_iff_ne, ne_eq, inR, Bool.and_eq_true, Bool.and_eq_false_iff, Bool.not_eq_true', Bool.not_eq_false', Bool.not_eq_eq_eq_not, Bool.not_true, Bool.not_false] at *; omega))
(.path [1,1,1,0,1] (by kernel_rfl)
(.pf (by kernel_rfl) (by kernel_rfl) h5
(.path [1,0,1] (by kernel_rfl)
(.pf (by kernel_rfl) (by kernel_rfl) h6
(.path [0,0,0,0,1,0,1] (by kernel_rfl)
(.pt (c := (decide ((cl_5 l1 n4 : Int) > n2))) (by kernel_rfl) (by kernel_rfl) (by (simp only [w64d, decide_eq_true_eq, decide_eq_false_iff_not, beq_iff_eq, beq_eq_false_iff_ne, bne_iff_ne, ne_eq, inR, Bool.and_eq_true, Bool.and_eq_false_iff, Bool.not_eq_true', Bool.not_eq_false', Bool.not_eq_eq_eq_not, Bool.not_true, Bool.not_false] at *; omega))
(.path [1,0,1,1,0,1,0,1,0,1,1,0,0,0,1,0,1,1,0,1,1,0,0,0,0,1] (by kernel_rfl)
(.leaf (by kernel_rfl))))))))))))))))))))))))) (fun h0 =>
(.node (by kernel_rfl) (by kernel_rfl) (fun h1 =>
(.path [1,1,0,1] (by kernel_rfl)
(.node (by kernel_rfl) (by kernel_rfl) (fun h2 =>
(.path [1,1,1,1,1,1,1,1,1,1,1,0,1,0,1] (by kernel_rfl)
(.pf (c := (decide (n2 < n2))) (by kernel_rfl) (by kernel_rfl) (by (simp [*]; done))
(.path [1,0,1] (by kernel_rfl)
(.pt (c := (n2 == n2)) (by kernel_rfl) (by kernel_rfl) (by (simp [*]; done))
(.pt (c := (decide (n2 > (0 : Int)))) (by kernel_rfl) (by kernel_rfl) (by (simp [*]; done))
(.path [1,0,1] (by kernel_rfl)
(.pf (c := (n3 != n3)) (by kernel_rfl) (by kernel_rfl) (by (simp [*]; done))
(.path [1,0,1] (by kernel_rfl)
(.pf (c := (decide (n2 > n2))) (by kernel_rfl) (by kernel_rfl) (by (simp [*]; done))
(.path [1,0,1,1,0,1,0,1,0,1,1,0,0,0,1,0,1,1,0,1,1,0,0,0,0,1] (by kernel_rfl)
(.leaf (by kernel_rfl))))))))))))) (fun h2 =>
(.node (by kernel_rfl) (by kernel_rfl) (fun h3 =>
(.path [1,1,1,1,1,1,1,1,1,0,1,0,1] (by kernel_rfl)
(.pf (c := (decide (n2 < n2))) (by kernel_rfl) (by kernel_rfl) (by (simp [*]; done))
(.path [1,0,1] (by kernel_rfl)
(.pt (c := (n2 == n2)) (by kernel_rfl) (by kernel_rfl) (by (simp [*]; done))
(.pt (c := (decide (n2 > (0 : Int)))) (by kernel_rfl) (by kernel_rfl) (by (simp [*]; done))
(.path [1,0,1] (by kernel_rfl)
(.pf (c := (n3 != n3)) (by kernel_rfl) (by kernel_rfl) (by (simp [*]; done))
(.path [1,0,1] (by kernel_rfl)
(.pf (c := (decide (n2 > n2))) (by kernel_rfl) (by kernel_rfl) (by (simp [*]; done))
(.path [1,0,1,1,0,1,0,1,0,1,1,0,0,0,1,0,1,1,0,1,1,0,0,0,0,1] (by kernel_rfl)
(.leaf (by kernel_rfl))))))))))))) (fun h3 =>
(.node (by kernel_rfl) (by kernel_rfl) (fun h4 =>
(.path [1,1,1,1,1,1,1,0,1,0,1] (by kernel_rfl)
(.pf (c := (decide (n2 < n2))) (by kernel_rfl) (by kernel_rfl) (by (simp [*]; done))
(.path [1,0,1] (by kernel_rfl)
(.pt (c := (n2 == n2)) (by kernel_rfl) (by kernel_rfl) (by (simp [*]; done))
(.pt (c := (decide (n2 > (0 : Int)))) (by kernel_rfl) (by kernel_rfl) (by (simp [*]; done))
(.path [1,0,1] (by kernel_rfl)
(.pf (c := (n3 != n3)) (by kernel_rfl) (by kernel_rfl) (by (simp [*]; done))
(.path [1,0,1] (by kernel_rfl)
(.pf (c := (decide (n2 > n2))) (by kernel_rfl) (by kernel_rfl) (by (simp [*]; done))
(.path [1,0,1,1,0,1,0,1,0,1,1,0,0,0,1,0,1,1,0,1,1,0,0,0,0,1] (by kernel_rfl)
(.leaf (by kernel_rfl))))))))))))) (fun h4 =>
(.node (by kernel_rfl) (by kernel_rfl) (fun h5 =>
(.path [1,1,1,1,1,0,1,0,1] (by kernel_rfl)
(.pf (c := (decide (n2 < n2))) (by kernel_rfl) (by kernel_rfl) (by (simp [*]; done))
(.path [1,0,1] (by kernel_rfl)
(.pt (c := (n2 == n2)) (by kernel_rfl) (by kernel_rfl) (by (simp [*]; done))
(.pt (c := (decide (n2 > (0 : Int)))) (by kernel_rfl) (by kernel_rfl) (by (simp [*]; done))
(.path [1,0,1] (by kernel_rfl)
(.pf (c := (n3 != n3)) (by kernel_rfl) (by kernel_rfl) (by (simp [*]; done))
(.path [1,0,1] (by kernel_rfl)
(.pf (c := (decide (n2 > n2))) (by kernel_rfl) (by kernel_rfl) (by (simp [*]; done))
(.path [1,0,1,1,0,1,0,1,0,1,1,0,0,0,1,0,1,1,0,1,1,0,0,0,0,1] (by kernel_rfl)
(.leaf (by kernel_rfl))))))))))))) (fun h5 =>
(.node (by kernel_rfl) (by kernel_rfl) (fun h6 =>
(.path [1,1,1,1,1,1,1,0,1,0,1] (by kernel_rfl)
(.pf (c := (decide (n2 < n2))) (by kernel_rfl) (by kernel_rfl) (by (simp [*]; done))
(.path [1,0,1] (by kernel_rfl)
(.pt (c := (n2 == n2)) (by kernel_rfl) (by kernel_rfl) (by (simp [*]; done))
(.pt (c := (decide (n2 > (0 : Int)))) (by kernel_rfl) (by kernel_rfl) (by (simp [*]; done))
(.path [1,0,1] (by kernel_rfl)
(.pf (c := (n3 != n3)) (by kernel_rfl) (by kernel_rfl) (by (simp [*]; done))
(.path [1,0,1] (by kernel_rfl)
(.pf (c := (decide (n2 > n2))) (by kernel_rfl) (by kernel_rfl) (by (simp [*]; done))
(.path [1,0,1,1,0,1,0,1,0,1,1,0,0,0,1,0,1,1,0,1,1,0,0,0,0,1] (by kernel_rfl)
(.leaf (by kernel_rfl))))))))))))) (fun h6 =>
(.node (by kernel_rfl) (by kernel_rfl) (fun h7 =>
(.node (by kernel_rfl) (by kernel_rfl) (fun h8 =>
(.path [1,1,1,1,1,0,1,0,1] (by kernel_rfl)
(.pf (c := (decide (n2 < n2))) (by kernel_rfl) (by kernel_rfl) (by (simp [*]; done))
(.path [1,0,1] (by kernel_rfl)
(.pt (c := (n2 == n2)) (by kernel_rfl) (by kernel_rfl) (by (simp [*]; done))
(.pt (c := (decide (n2 > (0 : Int)))) (by kernel_rfl) (by kernel_rfl) (by (simp [*]; done))
(.path [1,0,1] (by kernel_rfl)
(.pf (c := (n3 != n3)) (by kernel_rfl) (by kernel_rfl) (by (simp [*]; done))
(.path [1,0,1] (by kernel_rfl)
(.pf (c := (decide (n2 > n2))) (by kernel_rfl) (by kernel_rfl) (by (simp [*]; done))
(.path [1,0,1,1,0,1,0,1,0,1,1,0,0,0,1,0,1,1,0,1,1,0,0,0,0,1] (by kernel_rfl)
(.leaf (by kernel_rfl))))))))))))) (fun h8 =>
(.path [1,0,1] (by kernel_rfl)
(.pf (c := (decide ((cl_5 l1 n4 : Int) > n2))) (by kernel_rfl) (by kernel_rfl) (by (simp only [w64d, decide_eq_true_eq, decide_eq_false_iff_not, beq_iff_eq, beq_eq_false_iff_ne, bne_iff_ne, ne_eq, inR, Bool.and_eq_true, Bool.and_eq_false_iff, Bool.not_eq_true', Bool.not_eq_false', Bool.not_eq_eq_eq_not, Bool.not_true, Bool.not_false] at *; omega))
(.path [1,1,0,1,1,1,1,1,0,1] (by kernel_rfl)
(.pf (c := (decide (n2 < n2))) (by kernel_rfl) (by kernel_rfl) (by (simp [*]; done))
(.path [1,0,1] (by kernel_rfl)
(.pt (c := (n2 == n2)) (by kernel_rfl) (by kernel_rfl) (by (simp [*]; done))
(.pt (c := (decide (n2 > (0 : Int)))) (by kernel_rfl) (by kernel_rfl) (by (simp [*]; done))
(.path [1,0,1] (by kernel_rfl)
(.pf (c := (n3 != n3)) (by kernel_rfl) (by kernel_rfl) (by (simp [*]; done))
(.path [1,0,1] (by kernel_rfl)
(.pf (c := (decide (n2 > n2))) (by kernel_rfl) (by kernel_rfl) (by (simp [*]; done))
(.path [1,0,1,1,0,1,0,1,0,1,1,0,0,0,1,0,1,1,0,1,1,0,0,0,0,1] (by kernel_rfl)
(.leaf (by kernel_rfl))))))))))))))))) (fun h7 =>
(.path [0,0,1,0,1] (by kernel_rfl)
(.pt (c := (decide ((cl_5 l1 n4 : Int) > n2))) (by kernel_rfl) (by kernel_rfl) (by (simp only [w64d, decide_eq_true_eq, decide_eq_false_iff_not, beq_iff_eq, beq_eq_false_iff_ne, bne_iff_ne, ne_eq, inR, Bool.and_eq_true, Bool.and_eq_false_iff, Bool.not_eq_true', Bool.not_eq_false', Bool.not_eq_eq_eq_not, Bool.not_true, Bool.not_false] at *; omega))
(.path [1,1,0,1,1,1,1,1,0,1] (by kernel_rfl)
(.pf (by kernel_rfl) (by kernel_rfl) h6
(.path [1,0,1] (by kernel_rfl)
(.pf (by kernel_rfl) (by kernel_rfl) h7
(.path [0,0,0,0,1,0,1] (by kernel_rfl)
(.pt (c := (decide ((cl_5 l1 n4 : Int) > n2))) (by kernel_rfl) (by kernel_rfl) (by (simp only [w64d, decide_eq_true_eq, decide_eq_false_iff_not, beq_iff_eq, beq_eq_false_iff_ne, bne_iff_ne, ne_eq, inR, Bool.and_eq_true, Bool.and_eq_false_iff, Bool.not_eq_true', Bool.not_eq_false', Bool.not_eq_eq_eq_not, Bool.not_true, Bool.not_false] at *; omega))
(.path [1,0,1,1,0,1,0,1,0,1,1,0,0,0,1,0,1,1,0,1,1,0,0,0,0,1] (by kernel_rfl)
(.leaf (by kernel_rfl))))))))))))))))))))))))) (fun h1 =>
(.node (by kernel_rfl) (by kernel_rfl) (fun h2 =>
(.pt (by kernel_rfl) (by kernel_rfl) h2
(.path [1,0,1] (by kernel_rfl)
(.node (by kernel_rfl) (by kernel_rfl) (fun h3 =>
(.path [1,1,1,1,0,1] (by kernel_rfl)
(.pf (c := (decide (n2 < n2))) (by kernel_rfl) (by kernel_rfl) (by (simp [*]; done))
(.path [1,0,1] (by kernel_rfl)
(.pt (c := (n2 == n2)) (by kernel_rfl) (by kernel_rfl) (by (simp [*]; done))
(.pt (c := (decide (n2 > (0 : Int)))) (by kernel_rfl) (by kernel_rfl) (by (simp [*]; done))
(.path [1,0,1] (by kernel_rfl)
(.pf (c := (n3 != n3)) (by kernel_rfl) (by kernel_rfl) (by (simp [*]; done))
(.path [1,0,1] (by kernel_rfl)
(.pf (c := (decide (n2 > n2))) (by kernel_rfl) (by kernel_rfl) (by (simp [*]; done))
(.path [1,0,1,1,0,1,0,1,0,1,1,0,0,0,1,0,1,1,0,1,1,0,0,0,0,1] (by kernel_rfl)
(.leaf (by kernel_rfl))))))))))))) (fun h3 =>
(.path [1,1,0,1] (by kernel_rfl)
(.pf (c := (decide (n2 < n2))) (by kernel_rfl) (by kernel_rfl) (by (simp [*]; done))
(.path [1,0,1] (by kernel_rfl)
(.pt (c := (n2 == n2)) (by kernel_rfl) (by kernel_rfl) (by (simp [*]; done))
(.pt (c := (decide (n2 > (0 : Int)))) (by kernel_rfl) (by kernel_rfl) (by (simp [*]; done))
(.path [1,0,1] (by kernel_rfl)
(.pf (c := (n3 != n3)) (by kernel_rfl) (by kernel_rfl) (by (simp [*]; done))
(.path [1,0,1] (by kernel_rfl)
(.pf (c := (decide (n2 > n2))) (by kernel_rfl) (by kernel_rfl) (by (simp [*]; done))
(.path [1,0,1,1,0,1,0,1,0,1,1,0,0,0,1,0,1,1,0,1,1,0,0,0,0,1] (by kernel_rfl)
(.leaf (by kernel_rfl))))))))))))))))) (fun h2 =>
(.node (by kernel_rfl) (by kernel_rfl) (fun h3 =>
(.path [1,0,1] (by kernel_rfl)
(.node (by kernel_rfl) (by kernel_rfl) (fun h4 =>
(.path [1,1,1,1,0,1] (by kernel_rfl)
(.pf (c := (decide (n2 < n2))) (by kernel_rfl) (by kernel_rfl) (by (simp [*]; done))
(.path [1,0,1] (by kernel_rfl)
(.pt (c := (n2 == n2)) (by kernel_rfl) (by kernel_rfl) (by (simp [*]; done))
(.pt (c := (decide (n2 > (0 : Int)))) (by kernel_rfl) (by kernel_rfl) (by (simp [*]; done))
(.path [1,0,1] (by kernel_rfl)
(.pf (c := (n3 != n3)) (by kernel_rfl) (by kernel_rfl) (by (simp [*]; done))
(.path [1,0,1] (by kernel_rfl)
(.pf (c := (decide (n2 > n2))) (by kernel_rfl) (by kernel_rfl) (by (simp [*]; done))
(.path [1,0,1,1,0,1,0,1,0,1,1,0,0,0,1,0,1,1,0,1,1,0,0,0,0,1] (by kernel_rfl)
(.leaf (by kernel_rfl))))))))))))) (fun h4 =>
(.path [1,1,0,1] (by kernel_rfl)
(.pf (c := (decide (n2 < n2))) (by kernel_rfl) (by kernel_rfl) (by (simp [*]; done))
(.path [1,0,1] (by kernel_rfl)
(.pt (c := (n2 == n2)) (by kernel_rfl) (by kernel_rfl) (by (simp [*]; done))
(.pt (c := (decide (n2 > (0 : Int)))) (by kernel_rfl) (by kernel_rfl) (by (simp [*]; done))
(.path [1,0,1] (by kernel_rfl)
(.pf (c := (n3 != n3)) (by kernel_rfl) (by kernel_rfl) (by (simp [*]; done))
(.path [1,0,1] (by kernel_rfl)
(.pf (c := (decide (n2 > n2))) (by kernel_rfl) (by kernel_rfl) (by (simp [*]; done))
(.path [1,0,1,1,0,1,0,1,0,1,1,0,0,0,1,0,1,1,0,1,1,0,0,0,0,1] (by kernel_rfl)
(.leaf (by kernel_rfl)))))))))))))))) (fun h3 =>
(.node (by kernel_rfl) (by kernel_rfl) (fun h4 =>
(.path [1,0,0,1,1,1,0,1] (by kernel_rfl)
(.pf (c := (decide (n2 < n2))) (by kernel_rfl) (by kernel_rfl) (by (simp [*]; done))
(.path [1,0,1] (by kernel_rfl)
(.pt (c := (n2 == n2)) (by kernel_rfl) (by kernel_rfl) (by (simp [*]; done))
(.pt (c := (decide (n2 > (0 : Int)))) (by kernel_rfl) (by kernel_rfl) (by (simp [*]; done))
(.path [1,0,1] (by kernel_rfl)
(.pf (c := (n3 != n3)) (by kernel_rfl) (by kernel_rfl) (by (simp [*]; done))
(.path [1,0,1] (by kernel_rfl)
(.pf (c := (decide (n2 > n2))) (by kernel_rfl) (by kernel_rfl) (by (simp [*]; done))
(.path [1,0,1,1,0,1,0,1,0,1,1,0,0,0,1,0,1,1,0,0,0,0,0,1] (by kernel_rfl)
(.pf (c := (!(true && (n6 == n6 && true)))) (by kernel_rfl) (by kernel_rfl) (by (simp [*]; done))
(.pf (c := (decide ((0 : Int) > IntKind.wrap .i64 ((1 : Int) + IntKind.wrap .i64 n0)))) (by kernel_rfl) (by kernel_rfl) (by (simp only [w64d, decide_eq_true_eq, decide_eq_false_iff_not, beq_iff_eq, beq_eq_false_iff_ne, bne_iff_ne, ne_eq, inR, Bool.and_eq_true, Bool.and_eq_false_iff, Bool.not_eq_true', Bool.not_eq_false', Bool.not_eq_eq_eq_not, Bool.not_true, Bool.not_false] at *; omega))
(.path [0,1] (by kernel_rfl)
(.leaf (by kernel_rfl)))))))))))))))) (fun h4 =>
(.path [1,0,1] (by kernel_rfl)
(.node (by kernel_rfl) (by kernel_rfl) (fun h5 =>
(.path [1,1,1,1,1,1,1,1,1,1,1,0,1] (by kernel_rfl)
(.pf (c := (decide (n2 < n2))) (by kernel_rfl) (by kernel_rfl) (by (simp [*]; done))
(.path [1,0,1] (by kernel_rfl)
(.pt (c := (n2 == n2)) (by kernel_rfl) (by kernel_rfl) (by (simp [*]; done))
(.pt (c := (decide (n2 > (0 : Int)))) (by kernel_rfl) (by kernel_rfl) (by (simp [*]; done))
(.path [1,0,1] (by kernel_rfl)
(.pf (c := (n3 != n3)) (by kernel_rfl) (by kernel_rfl) (by (simp [*]; done))
(.path [1,0,1] (by kernel_rfl)
(.pf (c := (decide (n2 > n2))) (by kernel_rfl) (by kernel_rfl) (by (simp [*]; done))
(.path [1,0,1,1,0,1,0,1,0,1,1,0,0,0,1,0,1,1,0,1,1,0,0,0,0,1] (by kernel_rfl)
(.leaf (by kernel_rfl))))))))))))) (fun h5 =>
(.node (by kernel_rfl) (by kernel_rfl) (fun h6 =>
(.path [1,1,1,1,1,1,1,1,1,0,1] (by kernel_rfl)
(.pf (c := (decide (n2 < n2))) (by kernel_rfl) (by kernel_rfl) (by (simp [*]; done))
(.path [1,0,1] (by kernel_rfl)
(.pt (c := (n2 == n2)) (by kernel_rfl) (by kernel_rfl) (by (simp [*]; done))
(.pt (c := (decide (n2 > (0 : Int)))) (by kernel_rfl) (by kernel_rfl) (by (simp [*]; done))
(.path [1,0,1] (by kernel_rfl)
(.pf (c := (n3 != n3)) (by kernel_rfl) (by kernel_rfl) (by (simp [*]; done))
(.path [1,0,1] (by kernel_rfl)
(.pf (c := (decide (n2 > n2))) (by kernel_rfl) (by kernel_rfl) (by (simp [*]; done))
(.path [1,0,1,1,0,1,0,1,0,1,1,0,0,0,1,0,1,1,0,1,1,0,0,0,0,1] (by kernel_rfl)
(.leaf (by kernel_rfl))))))))))))) (fun h6 =>
(.node (by kernel_rfl) (by kernel_rfl) (fun h7 =>
(.path [1,1,1,1,1,1,1,0,1] (by kernel_rfl)
(.pf (c := (decide (n2 < n2))) (by kernel_rfl) (by kernel_rfl) (by (simp [*]; done))
(.path [1,0,1] (by kernel_rfl)
(.pt (c := (n2 == n2)) (by kernel_rfl) (by kernel_rfl) (by (simp [*]; done))
(.pt (c := (decide (n2 > (0 : Int)))) (by kernel_rfl) (by kernel_rfl) (by (simp [*]; done))
(.path [1,0,1] (by kernel_rfl)
(.pf (c := (n3 != n3)) (by kernel_rfl) (by kernel_rfl) (by (simp [*]; done))
(.path [1,0,1] (by kernel_rfl)
(.pf (c := (decide (n2 > n2))) (by kernel_rfl) (by kernel_rfl) (by (simp [*]; done))
(.path [1,0,1,1,0,1,0,1,0,1,1,0,0,0,1,0,1,1,0,1,1,0,0,0,0,1] (by kernel_rfl)
(.leaf (by kernel_rfl))))))))))))) (fun h7 =>
(.node (by kernel_rfl) (by kernel_rfl) (fun h8 =>
(.path [1,1,1,1,1,0,1] (by kernel_rfl)
(.pf (c := (decide (n2 < n2))) (by kernel_rfl) (by kernel_rfl) (by (simp [*]; done))
(.path [1,0,1] (by kernel_rfl)
(.pt (c := (n2 == n2)) (by kernel_rfl) (by kernel_rfl) (by (simp [*]; done))
(.pt (c := (decide (n2 > (0 : Int)))) (by kernel_rfl) (by kernel_rfl) (by (simp [*]; done))
(.path [1,0,1] (by kernel_rfl)
(.pf (c := (n3 != n3)) (by kernel_rfl) (by kernel_rfl) (by (simp [*]; done))
(.path [1,0,1] (by kernel_rfl)
(.pf (c := (decide (n2 > n2))) (by kernel_rfl) (by kernel_rfl) (by (simp [*]; done))
(.path [1,0,1,1,0,1,0,1,0,1,1,0,0,0,1,0,1,1,0,1,1,0,0,0,0,1] (by kernel_rfl)
(.leaf (by kernel_rfl))))))))))))) (fun h8 =>
(.node (by kernel_rfl) (by kernel_rfl) (fun h9 =>
(.path [1,1,1,1,1,1,1,0,1] (by kernel_rfl)
(.pf (c := (decide (n2 < n2))) (by kernel_rfl) (by kernel_rfl) (by (simp [*]; done))
(.path [1,0,1] (by kernel_rfl)
(.pt (c := (n2 == n2)) (by kernel_rfl) (by kernel_rfl) (by (simp [*]; done))
(.pt (c := (decide (n2 > (0 : Int)))) (by kernel_rfl) (by kernel_rfl) (by (simp [*]; done))
(.path [1,0,1] (by kernel_rfl)
(.pf (c := (n3 != n3)) (by kernel_rfl) (by kernel_rfl) (by (simp [*]; done))
(.path [1,0,1] (by kernel_rfl)
(.pf (c := (decide (n2 > n2))) (by kernel_rfl) (by kernel_rfl) (by (simp [*]; done))
(.path [1,0,1,1,0,1,0,1,0,1,1,0,0,0,1,0,1,1,0,1,1,0,0,0,0,1] (by kernel_rfl)
(.leaf (by kernel_rfl))))))))))))) (fun h9 =>
(.node (by kernel_rfl) (by kernel_rfl) (fun h10 =>
(.node (by kernel_rfl) (by kernel_rfl) (fun h11 =>
(.path [1,1,1,1,1,0,1] (by kernel_rfl)
(.pf (c := (decide (n2 < n2))) (by kernel_rfl) (by kernel_rfl) (by (simp [*]; done))
(.path [1,0,1] (by kernel_rfl)
(.pt (c := (n2 == n2)) (by kernel_rfl) (by kernel_rfl) (by (simp [*]; done))
(.pt (c := (decide (n2 > (0 : Int)))) (by kernel_rfl) (by kernel_rfl) (by (simp [*]; done))
(.path [1,0,1] (by kernel_rfl)
(.pf (c := (n3 != n3)) (by kernel_rfl) (by kernel_rfl) (by (simp [*]; done))
(.path [1,0,1] (by kernel_rfl)
(.pf (c := (decide (n2 > n2))) (by kernel_rfl) (by kernel_rfl) (by (simp [*]; done))
(.path [1,0,1,1,0,1,0,1,0,1,1,0,0,0,1,0,1,1,0,1,1,0,0,0,0,1] (by kernel_rfl)
(.leaf (by kernel_rfl))))))))))))) (fun h11 =>
(.path [1,1,0] (by kernel_rfl)
(.node (by kernel_rfl) (by kernel_rfl) (fun h12 =>
(.path [1,1,1,1,1,1,0,1] (by kernel_rfl)
(.pf (c := (decide (n2 < n2))) (by kernel_rfl) (by kernel_rfl) (by (simp [*]; done))
(.path [1,0,1] (by kernel_rfl)
(.pt (c := (n2 == n2)) (by kernel_rfl) (by kernel_rfl) (by (simp [*]; done))
(.pt (c := (decide (n2 > (0 : Int)))) (by kernel_rfl) (by kernel_rfl) (by (simp [*]; done))
(.path [1,0,1] (by kernel_rfl)
(.pf (c := (n3 != n3)) (by kernel_rfl) (by kernel_rfl) (by (simp [*]; done))
(.path [1,0,1] (by kernel_rfl)
(.pf (c := (decide (n2 > n2))) (by kernel_rfl) (by kernel_rfl) (by (simp [*]; done))
(.path [1,0,1,1,0,1,0,1,0,1,1,0,0,0,1,0,1,1,0,1,1,0,0,0,0,1] (by kernel_rfl)
(.leaf (by kernel_rfl))))))))))))) (fun h12 =>
(.node (by kernel_rfl) (by kernel_rfl) (fun h13 =>
(.path [1,1,1,1,0,1] (by kernel_rfl)
(.pf (c := (decide (n2 < n2))) (by kernel_rfl) (by kernel_rfl) (by (simp [*]; done))
(.path [1,0,1] (by kernel_rfl)
(.pt (c := (n2 == n2)) (by kernel_rfl) (by kernel_rfl) (by (simp [*]; done))
(.pt (c := (decide (n2 > (0 : Int)))) (by kernel_rfl) (by kernel_rfl) (by (simp [*]; done))
(.path [1,0,1] (by kernel_rfl)
(.pf (c := (n3 != n3)) (by kernel_rfl) (by kernel_rfl) (by (simp [*]; done))
(.path [1,0,1] (by kernel_rfl)
(.pf (c := (decide (n2 > n2))) (by kernel_rfl) (by kernel_rfl) (by (simp [*]; done))
(.path [1,0,1,1,0,1,0,1,0,1,1,0,0,0,1,0,1,1,0,1,1,0,0,0,0,1] (by kernel_rfl)
(.leaf (by kernel_rfl))))))))))))) (fun h13 =>
(.node (by kernel_rfl) (by kernel_rfl) (fun h14 =>
(.path [1,1,0,1] (by kernel_rfl)
(.pf (c := (decide (n2 < n2))) (by kernel_rfl) (by kernel_rfl) (by (simp [*]; done))
(.path [1,0,1] (by kernel_rfl)
(.pt (c := (n2 == n2)) (by kernel_rfl) (by kernel_rfl) (by (simp [*]; done))
(.pt (c := (decide (n2 > (0 : Int)))) (by kernel_rfl) (by kernel_rfl) (by (simp [*]; done))
(.path [1,0,1] (by kernel_rfl)
(.pf (c := (n3 != n3)) (by kernel_rfl) (by kernel_rfl) (by (simp [*]; done))
(.path [1,0,1] (by kernel_rfl)
(.pf (c := (decide (n2 > n2))) (by kernel_rfl) (by kernel_rfl) (by (simp [*]; done))
(.path [1,0,1,1,0,1,0,1,0,1,1,0,0,0,1,0,1,1,0,1,1,0,0,0,0,1] (by kernel_rfl)
(.leaf (by kernel_rfl))))))))))))) (fun h14 =>
(.path [1] (by kernel_rfl)
(.pf (c := (decide ((cl_5 l1 n4 : Int) > n2))) (by kernel_rfl) (by kernel_rfl) (by (simp only [w64d, decide_eq_true_eq, decide_eq_false_iff_not, beq_iff_eq, beq_eq_false_iff_ne, bne_iff_ne, ne_eq, inR, Bool.and_eq_true, Bool.and_eq_false_iff, Bool.not_eq_true', Bool.not_eq_false', Bool.not_eq_eq_eq_not, Bool.not_true, Bool.not_false] at *; omega))
(.path [1,1,1,1,1,0,1] (by kernel_rfl)
(.pf (c := (decide (n2 < n2))) (by kernel_rfl) (by kernel_rfl) (by (simp [*]; done))
(.path [1,0,1] (by kernel_rfl)
(.pt (c := (n2 == n2)) (by kernel_rfl) (by kernel_rfl) (by (simp [*]; done))
(.pt (c := (decide (n2 > (0 : Int)))) (by kernel_rfl) (by kernel_rfl) (by (simp [*]; done))
(.path [1,0,1] (by kernel_rfl)
(.pf (c := (n3 != n3)) (by kernel_rfl) (by kernel_rfl) (by (simp [*]; done))
(.path [1,0,1] (by kernel_rfl)
(.pf (c := (decide (n2 > n2))) (by kernel_rfl) (by kernel_rfl) (by (simp [*]; done))
(.path [1,0,1,1,0,1,0,1,0,1,1,0,0,0,1,0,1,1,0,1,1,0,0,0,0,1] (by kernel_rfl)
(.leaf (by kernel_rfl)))))))))))))))))))))))) (fun h10 =>
(.path [0,0,1,1,0] (by kernel_rfl)
(.node (by kernel_rfl) (by kernel_rfl) (fun h11 =>
(.path [1,1,1,1,1,1,0,1] (by kernel_rfl)
(.pf (c := (decide (n2 < n2))) (by kernel_rfl) (by kernel_rfl) (by (simp [*]; done))
(.path [1,0,1] (by kernel_rfl)
(.pt (c := (n2 == n2)) (by kernel_rfl) (by kernel_rfl) (by (simp [*]; done))
(.pt (c := (decide (n2 > (0 : Int)))) (by kernel_rfl) (by kernel_rfl) (by (simp [*]; done))
(.path [1,0,1] (by kernel_rfl)
(.pf (c := (n3 != n3)) (by kernel_rfl) (by kernel_rfl) (by (simp [*]; done))
(.path [1,0,1] (by kernel_rfl)
(.pf (c := (decide (n2 > n2))) (by kernel_rfl) (by kernel_rfl) (by (simp [*]; done))
(.path [1,0,1,1,0,1,0,1,0,1,1,0,0,0,1,0,1,1,0,1,1,0,0,0,0,1] (by kernel_rfl)
(.leaf (by kernel_rfl))))))))))))) (fun h11 =>
(.node (by kernel_rfl) (by kernel_rfl) (fun h12 =>
(.path [1,1,1,1,0,1] (by kernel_rfl)
(.pf (c := (decide (n2 < n2))) (by kernel_rfl) (by kernel_rfl) (by (simp [*]; done))
(.path [1,0,1] (by kernel_rfl)
(.pt (c := (n2 == n2)) (by kernel_rfl) (by kernel_rfl) (by (simp [*]; done))
(.pt (c := (decide (n2 > (0 : Int)))) (by kernel_rfl) (by kernel_rfl) (by (simp [*]; done))
(.path [1,0,1] (by kernel_rfl)
(.pf (c := (n3 != n3)) (by kernel_rfl) (by kernel_rfl) (by (simp [*]; done))
(.path [1,0,1] (by kernel_rfl)
(.pf (c := (decide (n2 > n2))) (by kernel_rfl) (by kernel_rfl) (by (simp [*]; done))
(.path [1,0,1,1,0,1,0,1,0,1,1,0,0,0,1,0,1,1,0,1,1,0,0,0,0,1] (by kernel_rfl)
(.leaf (by kernel_rfl))))))))))))) (fun h12 =>
(.node (by kernel_rfl) (by kernel_rfl) (fun h13 =>
(.path [1,1,0,1] (by kernel_rfl)
(.pf (c := (decide (n2 < n2))) (by kernel_rfl) (by kernel_rfl) (by (simp [*]; done))
(.path [1,0,1] (by kernel_rfl)
(.pt (c := (n2 == n2)) (by kernel_rfl) (by kernel_rfl) (by (simp [*]; done))
(.pt (c := (decide (n2 > (0 : Int)))) (by kernel_rfl) (by kernel_rfl) (by (simp [*]; done))
(.path [1,0,1] (by kernel_rfl)
(.pf (c := (n3 != n3)) (by kernel_rfl) (by kernel_rfl) (by (simp [*]; done))
(.path [1,0,1] (by kernel_rfl)
(.pf (c := (decide (n2 > n2))) (by kernel_rfl) (by kernel_rfl) (by (simp [*]; done))
(.path [1,0,1,1,0,1,0,1,0,1,1,0,0,0,1,0,1,1,0,1,1,0,0,0,0,1] (by kernel_rfl)
(.leaf (by kernel_rfl))))))))))))) (fun h13 =>
(.path [1] (by kernel_rfl)
(.pt (c := (decide ((cl_5 l1 n4 : Int) > n2))) (by kernel_rfl) (by kernel_rfl) (by (simp only [w64d, decide_eq_true_eq, decide_eq_false_iff_not, beq_iff_eq, beq_eq_false_iff_ne, bne_iff_ne, ne_eq, inR, Bool.and_eq_true, Bool.and_eq_false_iff, Bool.not_eq_true', Bool.not_eq_false', Bool.not_eq_eq_eq_not, Bool.not_true, Bool.not_false] at *; omega))
(.path [1,1,1,1,1,0,1] (by kernel_rfl)
(.pf (by kernel_rfl) (by kernel_rfl) h9
(.path [1,0,1] (by kernel_rfl)
(.pf (by kernel_rfl) (by kernel_rfl) h10
(.path [0,0,0,0,1,0,1] (by kernel_rfl)
(.pt (c := (decide ((cl_5 l1 n4 : Int) > n2))) (by kernel_rfl) (by kernel_rfl) (by (simp only [w64d, decide_eq_true_eq, decide_eq_false_iff_not, beq_iff_eq, beq_eq_false_iff_ne, bne_iff_ne, ne_eq, inR, Bool.and_eq_true, Bool.and_eq_false_iff, Bool.not_eq_true', Bool.not_eq_false', Bool.not_eq_eq_eq_not, Bool.not_true, Bool.not_false] at *; omega))
(.path [1,0,1,1,0,1,0,1,0,1,1,0,0,0,1,0,1,1,0,1,1,0,0,0,0,1] (by kernel_rfl)
(.leaf (by kernel_rfl)))))))))))))))))))))))))))))))))))))))))))))


noncomputable def fn_L6_11_BT : List Dat → Tree Step
  | [.n n0, .l (Ty.pair (Ty.int IntKind.u8) (Ty.pair (Ty.int IntKind.i64) (Ty.pair (Ty.int IntKind.u8) (Ty.pair (Ty.int IntKind.i64) (Ty.pair (Ty.int IntKind.i64) (Ty.pair (Ty.int IntKind.u64) (Ty.pair (Ty.int IntKind.u32) (Ty.pair (Ty.int IntKind.u64) (Ty.pair (Ty.int IntKind.u64) (Ty.pair (Ty.int IntKind.u64) (Ty.pair (Ty.arr 64 (Ty.int IntKind.u8)) (Ty.int IntKind.u32)))))))))))) l1, .n n2, .n n3, .n n4, .n n5, .n n6, .n n7, .n n8, .n n9, .n n10, .n n11, .l (Ty.int IntKind.u8) l12, .n n13, .b b14, .n n15, .n n16, .n n17] =>
    (.node (Int.tmod (cl_1 l1 n4) (8 : Int) == (3 : Int))
     (.node (decide ((cl_2 l1 n4 : Int) < (0 : Int)))
      (.leaf (Step.go [.k 1, .n n0, .l TCall24 l1, .n n2, .n n17, .n n15, .n n3, .b false, .n (IntKind.wrap .i64 (n4 + (1 : Int))), .n n2, .n n3, .n n17, .n (0 : Int), .n n6, .n n7, .n n8, .n n9, .n n10, .n n11, .l (Ty.int IntKind.u8) l12, .n n13, .b b14, .n n15, .n n16, .b true, .n n5, .n n6]))
      (.node (decide ((cl_2 l1 n4 : Int) > (1 : Int)))
       (.leaf (Step.go [.k 1, .n n0, .l TCall24 l1, .n n2, .n n17, .n n15, .n n3, .b false, .n (IntKind.wrap .i64 (n4 + (1 : Int))), .n n2, .n n3, .n n17, .n (0 : Int), .n n6, .n n7, .n n8, .n n9, .n n10, .n n11, .l (Ty.int IntKind.u8) l12, .n n13, .b b14, .n n15, .n n16, .b true, .n n5, .n n6]))
       (.node (decide ((cl_5 l1 n4 : Int) < (1 : Int)))
        (.leaf (Step.go [.k 1, .n n0, .l TCall24 l1, .n n2, .n n17, .n n15, .n n3, .b false, .n (IntKind.wrap .i64 (n4 + (1 : Int))), .n n2, .n n3, .n n17, .n (0 : Int), .n n6, .n n7, .n n8, .n n9, .n n10, .n n11, .l (Ty.int IntKind.u8) l12, .n n13, .b b14, .n n15, .n n16, .b true, .n n5, .n n6]))
        (.node (decide ((cl_5 l1 n4 : Int) > (1099511627776 : Int)))
         (.leaf (Step.go [.k 1, .n n0, .l TCall24 l1, .n n2, .n n17, .n n15, .n n3, .b false, .n (IntKind.wrap .i64 (n4 + (1 : Int))), .n n2, .n n3, .n n17, .n (0 : Int), .n n6, .n n7, .n n8, .n n9, .n n10, .n n11, .l (Ty.int IntKind.u8) l12, .n n13, .b b14, .n n15, .n n16, .b true, .n n5, .n n6]))
         (.node (decide ((cl_5 l1 n4 : Int) < n2))
          (.leaf (Step.go [.k 1, .n n0, .l TCall24 l1, .n n2, .n n17, .n n15, .n n3, .b false, .n (IntKind.wrap .i64 (n4 + (1 : Int))), .n n2, .n n3, .n n17, .n (0 : Int), .n n6, .n n7, .n n8, .n n9, .n n10, .n n11, .l (Ty.int IntKind.u8) l12, .n n13, .b b14, .n n15, .n n16, .b true, .n n5, .n n6]))
          (.node (cl_5 l1 n4 == n2)
           (.node (cl_2 l1 n4 != n3)
            (.leaf (Step.go [.k 1, .n n0, .l TCall24 l1, .n n2, .n n17, .n n15, .n n3, .b false, .n (IntKind.wrap .i64 (n4 + (1 : Int))), .n n2, .n n3, .n n17, .n (0 : Int), .n n6, .n n7, .n n8, .n n9, .n n10, .n n11, .l (Ty.int IntKind.u8) l12, .n n13, .b b14, .n n15, .n n16, .b true, .n n5, .n n6]))
            (.leaf (Step.go [.k 1, .n n0, .l TCall24 l1, .n n2, .n n17, .n n15, .n n3, .b false, .n (IntKind.wrap .i64 (n4 + (1 : Int))), .n n2, .n n3, .n n17, .n (0 : Int), .n n6, .n n7, .n n8, .n n9, .n n10, .n n11, .l (Ty.int IntKind.u8) l12, .n n13, .b b14, .n n15, .n n16, .b true, .n n5, .n n6])))
           (.leaf (Step.go [.k 0, .n n0, .l TCall24 l1, .n (cl_5 l1 n4), .n (-1 : Int), .n n15, .n (cl_2 l1 n4), .b false, .n (IntKind.wrap .i64 (n4 + (1 : Int))), .n (cl_5 l1 n4), .n (cl_2 l1 n4), .n (0 : Int), .n n6, .n n7, .n n8, .n n9, .n n10, .n n11, .l (Ty.int IntKind.u8) l12, .n n13, .b b14, .n n15, .n n16, .b true, .n n5, .n n6]))))))))
     (.node (Int.tmod (cl_1 l1 n4) (8 : Int) == (4 : Int))
      (.node (decide ((cl_2 l1 n4 : Int) < (0 : Int)))
       (.leaf (Step.go [.k 1, .n n0, .l TCall24 l1, .n n2, .n n17, .n n15, .n n3, .b false, .n (IntKind.wrap .i64 (n4 + (1 : Int))), .n n2, .n n3, .n n17, .n (0 : Int), .n n6, .n n7, .n n8, .n n9, .n n10, .n n11, .l (Ty.int IntKind.u8) l12, .n n13, .b b14, .n n15, .n n16, .b true, .n n5, .n n6]))
       (.node (decide ((cl_2 l1 n4 : Int) > (1 : Int)))
        (.leaf (Step.go [.k 1, .n n0, .l TCall24 l1, .n n2, .n n17, .n n15, .n n3, .b false, .n (IntKind.wrap .i64 (n4 + (1 : Int))), .n n2, .n n3, .n n17, .n (0 : Int), .n n6, .n n7, .n n8, .n n9, .n n10, .n n11, .l (Ty.int IntKind.u8) l12, .n n13, .b b14, .n n15, .n n16, .b true, .n n5, .n n6]))
        (.node (decide ((cl_5 l1 n4 : Int) < (1 : Int)))
         (.leaf (Step.go [.k 1, .n n0, .l TCall24 l1, .n n2, .n n17, .n n15, .n n3, .b false, .n (IntKind.wrap .i64 (n4 + (1 : Int))), .n n2, .n n3, .n n17, .n (0 : Int), .n n6, .n n7, .n n8, .n n9, .n n10, .n n11, .l (Ty.int IntKind.u8) l12, .n n13, .b b14, .n n15, .n n16, .b true, .n n5, .n n6]))
         (.node (decide ((cl_5 l1 n4 : Int) > (1099511627776 : Int)))
          (.leaf (Step.go [.k 1, .n n0, .l TCall24 l1, .n n2, .n n17, .n n15, .n n3, .b false, .n (IntKind.wrap .i64 (n4 + (1 : Int))), .n n2, .n n3, .n n17, .n (0 : Int), .n n6, .n n7, .n n8, .n n9, .n n10, .n n11, .l (Ty.int IntKind.u8) l12, .n n13, .b b14, .n n15, .n n16, .b true, .n n5, .n n6]))
          (.node (decide ((cl_5 l1 n4 : Int) < n2))
           (.leaf (Step.go [.k 1, .n n0, .l TCall24 l1, .n n2, .n n17, .n n15, .n n3, .b false, .n (IntKind.wrap .i64 (n4 + (1 : Int))), .n n2, .n n3, .n n17, .n (0 : Int), .n n6, .n n7, .n n8, .n n9, .n n10, .n n11, .l (Ty.int IntKind.u8) l12, .n n13, .b b14, .n n15, .n n16, .b true, .n n5, .n n6]))
           (.node (cl_5 l1 n4 == n2)
            (.node (cl_2 l1 n4 != n3)
             (.leaf (Step.go [.k 1, .n n0, .l TCall24 l1, .n n2, .n n17, .n n15, .n n3, .b false, .n (IntKind.wrap .i64 (n4 + (1 : Int))), .n n2, .n n3, .n n17, .n (0 : Int), .n n6, .n n7, .n n8, .n n9, .n n10, .n n11, .l (Ty.int IntKind.u8) l12, .n n13, .b b14, .n n15, .n n16, .b true, .n n5, .n n6]))
             (.leaf (Step.go [.k 1, .n n0, .l TCall24 l1, .n n2, .n n17, .n n15, .n n3, .b false, .n (IntKind.wrap .i64 (n4 + (1 : Int))), .n n2, .n n3, .n n17, .n (0 : Int), .n n6, .n n7, .n n8, .n n9, .n n10, .n n11, .l (Ty.int IntKind.u8) l12, .n n13, .b b14, .n n15, .n n16, .b true, .n n5, .n n6])))
            (.leaf (Step.go [.k 0, .n n0, .l TCall24 l1, .n (cl_5 l1 n4), .n (-1 : Int), .n n15, .n (cl_2 l1 n4), .b false, .n (IntKind.wrap .i64 (n4 + (1 : Int))), .n (cl_5 l1 n4), .n (cl_2 l1 n4), .n (0 : Int), .n n6, .n n7, .n n8, .n n9, .n n10, .n n11, .l (Ty.int IntKind.u8) l12, .n n13, .b b14, .n n15, .n n16, .b true, .n n5, .n n6]))))))))
      (.node (Int.tmod (cl_1 l1 n4) (8 : Int) == (5 : Int))
       (.node (decide (IntKind.wrap .i64 (n15 + (1 : Int)) > n16))
        (.leaf (Step.go [.k 1, .n n0, .l TCall24 l1, .n n2, .n n17, .n (IntKind.wrap .i64 (n15 + (1 : Int))), .n n3, .b false, .n (IntKind.wrap .i64 (n4 + (1 : Int))), .n n2, .n n3, .n n17, .n (0 : Int), .n n6, .n n7, .n n8, .n n9, .n n10, .n n11, .l (Ty.int IntKind.u8) l12, .n n13, .b b14, .n (IntKind.wrap .i64 (n15 + (1 : Int))), .n n16, .b true, .n n5, .n n6]))
        (.leaf (Step.go [.k 1, .n n0, .l TCall24 l1, .n n2, .n n17, .n (IntKind.wrap .i64 (n15 + (1 : Int))), .n n3, .b false, .n (IntKind.wrap .i64 (n4 + (1 : Int))), .n n2, .n n3, .n n17, .n (0 : Int), .n n6, .n n7, .n n8, .n n9, .n n10, .n n11, .l (Ty.int IntKind.u8) l12, .n n13, .b b14, .n (IntKind.wrap .i64 (n15 + (1 : Int))), .n n16, .b true, .n n5, .n n6])))
       (.node (Int.tmod (cl_1 l1 n4) (8 : Int) == (6 : Int))
        (.node (decide (IntKind.wrap .i64 (n15 + (1 : Int)) > n16))
         (.leaf (Step.go [.k 1, .n n0, .l TCall24 l1, .n n2, .n n17, .n (IntKind.wrap .i64 (n15 + (1 : Int))), .n n3, .b false, .n (IntKind.wrap .i64 (n4 + (1 : Int))), .n n2, .n n3, .n n17, .n (0 : Int), .n n6, .n n7, .n n8, .n n9, .n n10, .n n11, .l (Ty.int IntKind.u8) l12, .n n13, .b b14, .n (IntKind.wrap .i64 (n15 + (1 : Int))), .n n16, .b true, .n n5, .n n6]))
         (.leaf (Step.go [.k 1, .n n0, .l TCall24 l1, .n n2, .n n17, .n (IntKind.wrap .i64 (n15 + (1 : Int))), .n n3, .b false, .n (IntKind.wrap .i64 (n4 + (1 : Int))), .n n2, .n n3, .n n17, .n (0 : Int), .n n6, .n n7, .n n8, .n n9, .n n10, .n n11, .l (Ty.int IntKind.u8) l12, .n n13, .b b14, .n (IntKind.wrap .i64 (n15 + (1 : Int))), .n n16, .b true, .n n5, .n n6])))
        (.node (Int.tmod (cl_1 l1 n4) (8 : Int) == (7 : Int))
         (.leaf (Step.go [.k 1, .n n0, .l TCall24 l1, .n n2, .n n17, .n (0 : Int), .n n3, .b true, .n (IntKind.wrap .i64 (n4 + (1 : Int))), .n n2, .n n3, .n n17, .n (0 : Int), .n n6, .n n7, .n n8, .n n9, .n n10, .n n11, .l (Ty.int IntKind.u8) l12, .n n13, .b b14, .n (0 : Int), .n n16, .b false, .n (0 : Int), .n n6]))
         (.node (decide ((cl_2 l1 n4 : Int) < (0 : Int)))
          (.leaf (Step.go [.k 1, .n n0, .l TCall24 l1, .n n2, .n n17, .n n15, .n n3, .b false, .n (IntKind.wrap .i64 (n4 + (1 : Int))), .n n2, .n n3, .n n17, .n (0 : Int), .n n6, .n n7, .n n8, .n n9, .n n10, .n n11, .l (Ty.int IntKind.u8) l12, .n n13, .b b14, .n n15, .n n16, .b true, .n n5, .n n6]))
          (.node (decide ((cl_2 l1 n4 : Int) > (1 : Int)))
           (.leaf (Step.go [.k 1, .n n0, .l TCall24 l1, .n n2, .n n17, .n n15, .n n3, .b false, .n (IntKind.wrap .i64 (n4 + (1 : Int))), .n n2, .n n3, .n n17, .n (0 : Int), .n n6, .n n7, .n n8, .n n9, .n n10, .n n11, .l (Ty.int IntKind.u8) l12, .n n13, .b b14, .n n15, .n n16, .b true, .n n5, .n n6]))
           (.node (decide ((cl_5 l1 n4 : Int) < (1 : Int)))
            (.leaf (Step.go [.k 1, .n n0, .l TCall24 l1, .n n2, .n n17, .n n15, .n n3, .b false, .n (IntKind.wrap .i64 (n4 + (1 : Int))), .n n2, .n n3, .n n17, .n (0 : Int), .n n6, .n n7, .n n8, .n n9, .n n10, .n n11, .l (Ty.int IntKind.u8) l12, .n n13, .b b14, .n n15, .n n16, .b true, .n n5, .n n6]))
            (.node (decide ((cl_5 l1 n4 : Int) > (1099511627776 : Int)))
             (.leaf (Step.go [.k 1, .n n0, .l TCall24 l1, .n n2, .n n17, .n n15, .n n3, .b false, .n (IntKind.wrap .i64 (n4 + (1 : Int))), .n n2, .n n3, .n n17, .n (0 : Int), .n n6, .n n7, .n n8, .n n9, .n n10, .n n11, .l (Ty.int IntKind.u8) l12, .n n13, .b b14, .n n15, .n n16, .b true, .n n5, .n n6]))
             (.node (decide ((cl_5 l1 n4 : Int) < n2))
              (.leaf (Step.go [.k 1, .n n0, .l TCall24 l1, .n n2, .n n17, .n n15, .n n3, .b false, .n (IntKind.wrap .i64 (n4 + (1 : Int))), .n n2, .n n3, .n n17, .n (0 : Int), .n n6, .n n7, .n n8, .n n9, .n n10, .n n11, .l (Ty.int IntKind.u8) l12, .n n13, .b b14, .n n15, .n n16, .b true, .n n5, .n n6]))
              (.node (cl_5 l1 n4 == n2)
               (.node (cl_2 l1 n4 != n3)
                (.leaf (Step.go [.k 1, .n n0, .l TCall24 l1, .n n2, .n n17, .n n15, .n n3, .b false, .n (IntKind.wrap .i64 (n4 + (1 : Int))), .n n2, .n n3, .n n17, .n (0 : Int), .n n6, .n n7, .n n8, .n n9, .n n10, .n n11, .l (Ty.int IntKind.u8) l12, .n n13, .b b14, .n n15, .n n16, .b true, .n n5, .n n6]))
                (.node (decide ((cl_4 l1 n4 : Int) < (0 : Int)))
                 (.leaf (Step.go [.k 1, .n n0, .l TCall24 l1, .n n2, .n n17, .n n15, .n n3, .b false, .n (IntKind.wrap .i64 (n4 + (1 : Int))), .n n2, .n n3, .n n17, .n (0 : Int), .n n6, .n n7, .n n8, .n n9, .n n10, .n n11, .l (Ty.int IntKind.u8) l12, .n n13, .b b14, .n n15, .n n16, .b true, .n n5, .n n6]))
                 (.node (decide ((cl_4 l1 n4 : Int) > (1099511627776 : Int)))
                  (.leaf (Step.go [.k 1, .n n0, .l TCall24 l1, .n n2, .n n17, .n n15, .n n3, .b false, .n (IntKind.wrap .i64 (n4 + (1 : Int))), .n n2, .n n3, .n n17, .n (0 : Int), .n n6, .n n7, .n n8, .n n9, .n n10, .n n11, .l (Ty.int IntKind.u8) l12, .n n13, .b b14, .n n15, .n n16, .b true, .n n5, .n n6]))
                  (.node (iandnot IntKind.u64 (cl_6 l1 n4) (cl_8 l1 n4) != (0 : Int))
                   (.leaf (Step.go [.k 1, .n n0, .l TCall24 l1, .n n2, .n n17, .n n15, .n n3, .b false, .n (IntKind.wrap .i64 (n4 + (1 : Int))), .n n2, .n n3, .n n17, .n (0 : Int), .n n6, .n n7, .n n8, .n n9, .n n10, .n n11, .l (Ty.int IntKind.u8) l12, .n n13, .b b14, .n n15, .n n16, .b true, .n n5, .n n6]))
                   (.leaf (Step.go [.k 1, .n n0, .l TCall24 l1, .n n2, .n n17, .n n15, .n n3, .b false, .n (IntKind.wrap .i64 (n4 + (1 : Int))), .n n2, .n n3, .n n17, .n (0 : Int), .n n6, .n n7, .n n8, .n n9, .n n10, .n n11, .l (Ty.int IntKind.u8) l12, .n n13, .b b14, .n n15, .n n16, .b true, .n n5, .n n6]))))))
               (.node (decide ((cl_4 l1 n4 : Int) < (0 : Int)))
                (.leaf (Step.go [.k 1, .n n0, .l TCall24 l1, .n n2, .n n17, .n n15, .n n3, .b false, .n (IntKind.wrap .i64 (n4 + (1 : Int))), .n n2, .n n3, .n n17, .n (0 : Int), .n n6, .n n7, .n n8, .n n9, .n n10, .n n11, .l (Ty.int IntKind.u8) l12, .n n13, .b b14, .n n15, .n n16, .b true, .n n5, .n n6]))
                (.node (decide ((cl_4 l1 n4 : Int) > (1099511627776 : Int)))
                 (.leaf (Step.go [.k 1, .n n0, .l TCall24 l1, .n n2, .n n17, .n n15, .n n3, .b false, .n (IntKind.wrap .i64 (n4 + (1 : Int))), .n n2, .n n3, .n n17, .n (0 : Int), .n n6, .n n7, .n n8, .n n9, .n n10, .n n11, .l (Ty.int IntKind.u8) l12, .n n13, .b b14, .n n15, .n n16, .b true, .n n5, .n n6]))
                 (.node (iandnot IntKind.u64 (cl_6 l1 n4) (cl_8 l1 n4) != (0 : Int))
                  (.leaf (Step.go [.k 1, .n n0, .l TCall24 l1, .n n2, .n n17, .n n15, .n n3, .b false, .n (IntKind.wrap .i64 (n4 + (1 : Int))), .n n2, .n n3, .n n17, .n (0 : Int), .n n6, .n n7, .n n8, .n n9, .n n10, .n n11, .l (Ty.int IntKind.u8) l12, .n n13, .b b14, .n n15, .n n16, .b true, .n n5, .n n6]))
                  (.leaf (Step.go [.k 0, .n n0, .l TCall24 l1, .n (cl_5 l1 n4), .n (-1 : Int), .n n15, .n (cl_2 l1 n4), .b false, .n (IntKind.wrap .i64 (n4 + (1 : Int))), .n (cl_5 l1 n4), .n (cl_2 l1 n4), .n (0 : Int), .n n6, .n n7, .n n8, .n n9, .n n10, .n n11, .l (Ty.int IntKind.u8) l12, .n n13, .b b14, .n n15, .n n16, .b true, .n n5, .n n6]))))))))))))))))
  | _ => .bad 0
theorem fn_L6_11_BT_im (n0 : Int) (l1 : List (Ty.den TCall24)) (n2 : Int) (n3 : Int) (n4 : Int) (n5 : Int) (n6 : Int) (n7 : Int) (n8 : Int) (n9 : Int) (n10 : Int) (n11 : Int) (l12 : List (Ty.den (Ty.int IntKind.u8))) (n13 : Int) (b14 : Bool) (n15 : Int) (n16 : Int) (n17 : Int) (g0 : 0 < n2) (g1 :  n16 = 1 + n0) (g2 :  0 ≤ n0) (g3 :  n0 ≤ 255) (g4 :  0 ≤ n15) (g5 :  n15 ≤ 300) (g6 :  0 ≤ n4) (g7 :  n4 < (l1.length : Int)) (g8 :  l1.length ≤ 300) (g9 :  iandnot .u64 0 n9 = 0) : Imp (fn_L6_11_BT [.n n0, .l TCall24 l1, .n n2, .n n3, .n n4, .n n5, .n n6, .n n7, .n n8, .n n9, .n n10, .n n11, .l (Ty.int IntKind.u8) l12, .n n13, .b b14, .n n15, .n n16, .n n17]) (st_L6_11 [.k 1, .n n0, .l TCall24 l1, .n n2, .n n17, .n n15, .n n3, .b false, .n n4, .n n2, .n n3, .n n17, .n 0, .n n6, .n n7, .n n8, .n n9, .n n10, .n n11, .l (.int .u8) l12, .n n13, .b b14, .n n15, .n n16, .b true, .n n5, .n n6]) :=
(.path [1] (by kernel_rfl)
(.pt (c := (decide (n4 < (↑(List.length l1) : Int)))) (by kernel_rfl) (by kernel_rfl) (by (simp [*]; done))
(.pt (c := (inR n4 (List.length l1))) (by kernel_rfl) (by kernel_rfl) (by (simp only [w64d, decide_eq_true_eq, decide_eq_false_iff_not, beq_iff_eq, beq_eq_false_iff_ne, bne_iff_ne, ne_eq, inR, Bool.and_eq_true, Bool.and_eq_false_iff, Bool.not_eq_true', Bool.not_eq_false', Bool.not_eq_eq_eq_not, Bool.not_true, Bool.not_false] at *; omega))
(.path [1] (by kernel_rfl)
(.node (by kernel_rfl) (by kernel_rfl) (fun h0 =>
(.path [1,0,1] (by kernel_rfl)
(.node (by kernel_rfl) (by kernel_rfl) (fun h1 =>
(.path [1,1,1,1,1,1,1,1,1,1,0,1] (by kernel_rfl)
(.pf (c := (decide (n2 < n2))) (by kernel_rfl) (by kernel_rfl) (by (simp [*]; done))
(.path [1,0,1] (by kernel_rfl)
(.pt (c := (n2 == n2)) (by kernel_rfl) (by kernel_rfl) (by (simp [*]; done))
(.pt (c := (decide (n2 > (0 : Int)))) (by kernel_rfl) (by kernel_rfl) (by (simp [*]; done))
(.path [1,0,1] (by kernel_rfl)
(.pf (c := (n3 != n3)) (by kernel_rfl) (by kernel_rfl) (by (simp [*]; done))
(.path [1,0,1] (by kernel_rfl)
(.pf (c := (decide (n2 > n2))) (by kernel_rfl) (by kernel_rfl) (by (simp [*]; done))
(.path [1,0,1,1,0,1,0,1,0,1,1,0,0,0,1,0,1,1,0,1,1,0,0,0,0,1] (by kernel_rfl)
(.leaf (by kernel_rfl))))))))))))) (fun h1 =>
(.node (by kernel_rfl) (by kernel_rfl) (fun h2 =>
(.path [1,1,1,1,1,1,1,1,0,1] (by kernel_rfl)
(.pf (c := (decide (n2 < n2))) (by kernel_rfl) (by kernel_rfl) (by (simp [*]; done))
(.path [1,0,1] (by kernel_rfl)
(.pt (c := (n2 == n2)) (by kernel_rfl) (by kernel_rfl) (by (simp [*]; done))
(.pt (c := (decide (n2 > (0 : Int)))) (by kernel_rfl) (by kernel_rfl) (by (simp [*]; done))
(.path [1,0,1] (by kernel_rfl)
(.pf (c := (n3 != n3)) (by kernel_rfl) (by kernel_rfl) (by (simp [*]; done))
(.path [1,0,1] (by kernel_rfl)
(.pf (c := (decide (n2 > n2))) (by kernel_rfl) (by kernel_rfl) (by (simp [*]; done))
(.path [1,0,1,1,0,1,0,1,0,1,1,0,0,0,1,0,1,1,0,1,1,0,0,0,0,1] (by kernel_rfl)
(.leaf (by kernel_rfl))))))))))))) (fun h2 =>
(.node (by kernel_rfl) (by kernel_rfl) (fun h3 =>
(.path [1,1,1,1,1,1,0,1] (by kernel_rfl)
(.pf (c := (decide (n2 < n2))) (by kernel_rfl) (by kernel_rfl) (by (simp [*]; done))
(.path [1,0,1] (by kernel_rfl)
(.pt (c := (n2 == n2)) (by kernel_rfl) (by kernel_rfl) (by (simp [*]; done))
(.pt (c := (decide (n2 > (0 : Int)))) (by kernel_rfl) (by kernel_rfl) (by (simp [*]; done))
(.path [1,0,1] (by kernel_rfl)
(.pf (c := (n3 != n3)) (by kernel_rfl) (by kernel_rfl) (by (simp [*]; done))
(.path [1,0,1] (by kernel_rfl)
(.pf (c := (decide (n2 > n2))) (by kernel_rfl) (by kernel_rfl) (by (simp [*]; done))
(.path [1,0,1,1,0,1,0,1,0,1,1,0,0,0,1,0,1,1,0,1,1,0,0,0,0,1] (by kernel_rfl)
(.leaf (by kernel_rfl))))))))))))) (fun h3 =>
(.node (by kernel_rfl) (by kernel_rfl) (fun h4 =>
(.path [1,1,1,1,0,1] (by kernel_rfl)
(.pf (c := (decide (n2 < n2))) (by kernel_rfl) (by kernel_rfl) (by (simp [*]; done))
(.path [1,0,1] (by kernel_rfl)
(.pt (c := (n2 == n2)) (by kernel_rfl) (by kernel_rfl) (by (simp [*]; done))
(.pt (c := (decide (n2 > (0 : Int)))) (by kernel_rfl) (by kernel_rfl) (by (simp [*]; done))
(.path [1,0,1] (by kernel_rfl)
(.pf (c := (n3 != n3)) (by kernel_rfl) (by kernel_rfl) (by (simp [*]; done))
(.path [1,0,1] (by kernel_rfl)
(.pf (c := (decide (n2 > n2))) (by kernel_rfl) (by kernel_rfl) (by (simp [*]; done))
(.path [1,0,1,1,0,1,0,1,0,1,1,0,0,0,1,0,1,1,0,1,1,0,0,0,0,1] (by kernel_rfl)
(.leaf (by kernel_rfl))))))))))))) (fun h4 =>
(.node (by kernel_rfl) (by kernel_rfl) (fun h5 =>
(.path [1,1,1,1,1,1,0,1] (by kernel_rfl)
(.pf (c := (decide (n2 < n2))) (by kernel_rfl) (by kernel_rfl) (by (simp [*]; done))
(.path [1,0,1] (by kernel_rfl)
(.pt (c := (n2 == n2)) (by kernel_rfl) (by kernel_rfl) (by (simp [*]; done))
(.pt (c := (decide (n2 > (0 : Int)))) (by kernel_rfl) (by kernel_rfl) (by (simp [*]; done))
(.path [1,0,1] (by kernel_rfl)
(.pf (c := (n3 != n3)) (by kernel_rfl) (by kernel_rfl) (by (simp [*]; done))
(.path [1,0,1] (by kernel_rfl)
(.pf (c := (decide (n2 > n2))) (by kernel_rfl) (by kernel_rfl) (by (simp [*]; done))
(.path [1,0,1,1,0,1,0,1,0,1,1,0,0,0,1,0,1,1,0,1,1,0,0,0,0,1] (by kernel_rfl)
(.leaf (by kernel_rfl))))))))))))) (fun h5 =>
(.node (by kernel_rfl) (by kernel_rfl) (fun h6 =>
(.node (by kernel_rfl) (by kernel_rfl) (fun h7 =>
(.path [1,1,1,1,0,1] (by kernel_rfl)
(.pf (c := (decide (n2 < n2))) (by kernel_rfl) (by kernel_rfl) (by (simp [*]; done))
(.path [1,0,1] (by kernel_rfl)
(.pt (c := (n2 == n2)) (by kernel_rfl) (by kernel_rfl) (by (simp [*]; done))
(.pt (c := (decide (n2 > (0 : Int)))) (by kernel_rfl) (by kernel_rfl) (by (simp [*]; done))
(.path [1,0,1] (by kernel_rfl)
(.pf (c := (n3 != n3)) (by kernel_rfl) (by kernel_rfl) (by (simp [*]; done))
(.path [1,0,1] (by kernel_rfl)
(.pf (c := (decide (n2 > n2))) (by kernel_rfl) (by kernel_rfl) (by (simp [*]; done))
(.path [1,0,1,1,0,1,0,1,0,1,1,0,0,0,1,0,1,1,0,1,1,0,0,0,0,1] (by kernel_rfl)
(.leaf (by kernel_rfl))))))))))))) (fun h7 =>
(.path [1,0,1] (by kernel_rfl)
(.pf (c := (decide ((cl_5 l1 n4 : Int) > n2))) (by kernel_rfl) (by kernel_rfl) (by (simp only [w64d, decide_eq_true_eq, decide_eq_false_iff_not, beq_iff_eq, beq_eq_false_iff_ne, bne_iff_ne, ne_eq, inR, Bool.and_eq_true, Bool.and_eq_false_iff, Bool.not_eq_true', Bool.not_eq_false', Bool.not_eq_eq_eq_not, Bool.not_true, Bool.not_false] at *; omega))
(.path [1,1,1,0,1] (by kernel_rfl)
(.pf (c := (decide (n2 < n2))) (by kernel_rfl) (by kernel_rfl) (by (simp [*]; done))
(.path [1,0,1] (by kernel_rfl)
(.pt (c := (n2 == n2)) (by kernel_rfl) (by kernel_rfl) (by (simp [*]; done))
(.pt (c := (decide (n2 > (0 : Int)))) (by kernel_rfl) (by kernel_rfl) (by (simp [*]; done))
(.path [1,0,1] (by kernel_rfl)
(.pf (c := (n3 != n3)) (by kernel_rfl) (by kernel_rfl) (by (simp [*]; done))
(.path [1,0,1] (by kernel_rfl)
(.pf (c := (decide (n2 > n2))) (by kernel_rfl) (by kernel_rfl) (by (simp [*]; done))
(.path [1,0,1,1,0,1,0,1,0,1,1,0,0,0,1,0,1,1,0,1,1,0,0,0,0,1] (by kernel_rfl)
(.leaf (by kernel_rfl))))))))))))))))) (fun h6 =>
(.path [0,0,1,0,1] (by kernel_rfl)
(.pt (c := (decide ((cl_5 l1 n4 : Int) > n2))) (by kernel_rfl) (by kernel_rfl) (by (simp only [w64d, decide_eq_true_eq, decide_eq_false_iff_not, beq_iff_eq, beq_eq_false_iff_ne, bne_iff_ne, ne_eq, inR, Bool.and_eq_true, Bool.and_eq_false_iff, Bool.not_eq_true', Bool.not_eq_false', Bool.not_eq_eq_eq_not, Bool.not_true, Bool.not_false] at *; omega))
(.path [1,1,1,0,1] (by kernel_rfl)
(.pf (by kernel_rfl) (by kernel_rfl) h5
(.path [1,0,1] (by kernel_rfl)
(.pf (by kernel_rfl) (by kernel_rfl) h6
(.path [0,0,0,0,1,0,1] (by kernel_rfl)
(.pt (c := (decide ((cl_5 l1 n4 : Int) > n2))) (by kernel_rfl) (by kernel_rfl) (by (simp only [w64d, decide_eq_true_eq, decide_eq_false_iff_not, beq_iff_eq, beq_eq_false_iff_ne, bne_iff_ne, ne_eq, inR, Bool.and_eq_true, Bool.and_eq_false_iff, Bool.not_eq_true', Bool.not_eq_false', Bool.not_eq_eq_eq_not, Bool.not_true, Bool.not_false] at *; omega))
(.path [1,0,1,1,0,1,0,1,0,1,1,0,0,0,1,0,1,1,0,1,1,0,0,0,0,1] (by kernel_rfl)
(.leaf (by kernel_rfl))))))))))))))))))))))))) (fun h0 =>
(.node (by kernel_rfl) (by kernel_rfl) (fun h1 =>
(.path [1,1,0,1] (by kernel_rfl)
(.node (by kernel_rfl) (by kernel_rfl) (fun h2 =>
(.path [1,1,1,1,1,1,1,1,1,1,1,0,1,0,1] (by kernel_rfl)
(.pf (c := (decide (n2 < n2))) (by kernel_rfl) (by kernel_rfl) (by (simp [*]; done))
(.path [1,0,1] (by kernel_rfl)
(.pt (c := (n2 == n2)) (by kernel_rfl) (by kernel_rfl) (by (simp [*]; done))
(.pt (c := (decide (n2 > (0 : Int)))) (by kernel_rfl) (by kernel_rfl) (by (simp [*]; done))
(.path [1,0,1] (by kernel_rfl)
(.pf (c := (n3 != n3)) (by kernel_rfl) (by kernel_rfl) (by (simp [*]; done))
(.path [1,0,1] (by kernel_rfl)
(.pf (c := (decide (n2 > n2))) (by kernel_rfl) (by kernel_rfl) (by (simp [*]; done))
(.path [1,0,1,1,0,1,0,1,0,1,1,0,0,0,1,0,1,1,0,1,1,0,0,0,0,1] (by kernel_rfl)
(.leaf (by kernel_rfl))))))))))))) (fun h2 =>
(.node (by kernel_rfl) (by kernel_rfl) (fun h3 =>
(.path [1,1,1,1,1,1,1,1,1,0,1,0,1] (by kernel_rfl)
(.pf (c := (decide (n2 < n2))) (by kernel_rfl) (by kernel_rfl) (by (simp [*]; done))
(.path [1,0,1] (by kernel_rfl)
(.pt (c := (n2 == n2)) (by kernel_rfl) (by kernel_rfl) (by (simp [*]; done))
(.pt (c := (decide (n2 > (0 : Int)))) (by kernel_rfl) (by kernel_rfl) (by (simp [*]; done))
(.path [1,0,1] (by kernel_rfl)
(.pf (c := (n3 != n3)) (by kernel_rfl) (by kernel_rfl) (by (simp [*]; done))
(.path [1,0,1] (by kernel_rfl)
(.pf (c := (decide (n2 > n2))) (by kernel_rfl) (by kernel_rfl) (by (simp [*]; done))
(.path [1,0,1,1,0,1,0,1,0,1,1,0,0,0,1,0,1,1,0,1,1,0,0,0,0,1] (by kernel_rfl)
(.leaf (by kernel_rfl))))))))))))) (fun h3 =>
(.node (by kernel_rfl) (by kernel_rfl) (fun h4 =>
(.path [1,1,1,1,1,1,1,0,1,0,1] (by kernel_rfl)
(.pf (c := (decide (n2 < n2))) (by kernel_rfl) (by kernel_rfl) (by (simp [*]; done))
(.path [1,0,1] (by kernel_rfl)
(.pt (c := (n2 == n2)) (by kernel_rfl) (by kernel_rfl) (by (simp [*]; done))
(.pt (c := (decide (n2 > (0 : Int)))) (by kernel_rfl) (by kernel_rfl) (by (simp [*]; done))
(.path [1,0,1] (by kernel_rfl)
(.pf (c := (n3 != n3)) (by kernel_rfl) (by kernel_rfl) (by (simp [*]; done))
(.path [1,0,1] (by kernel_rfl)
(.pf (c := (decide (n2 > n2))) (by kernel_rfl) (by kernel_rfl) (by (simp [*]; done))
(.path [1,0,1,1,0,1,0,1,0,1,1,0,0,0,1,0,1,1,0,1,1,0,0,0,0,1] (by kernel_rfl)
(.leaf (by kernel_rfl))))))))))))) (fun h4 =>
(.node (by kernel_rfl) (by kernel_rfl) (fun h5 =>
(.path [1,1,1,1,1,0,1,0,1] (by kernel_rfl)
(.pf (c := (decide (n2 < n2))) (by kernel_rfl) (by kernel_rfl) (by (simp [*]; done))
(.path [1,0,1] (by kernel_rfl)
(.pt (c := (n2 == n2)) (by kernel_rfl) (by kernel_rfl) (by (simp [*]; done))
(.pt (c := (decide (n2 > (0 : Int)))) (by kernel_rfl) (by kernel_rfl) (by (simp [*]; done))
(.path [1,0,1] (by kernel_rfl)
(.pf (c := (n3 != n3)) (by kernel_rfl) (by kernel_rfl) (by (simp [*]; done))
(.path [1,0,1] (by kernel_rfl)
(.pf (c := (decide (n2 > n2))) (by kernel_rfl) (by kernel_rfl) (by (simp [*]; done))
(.path [1,0,1,1,0,1,0,1,0,1,1,0,0,0,1,0,1,1,0,1,1,0,0,0,0,1] (by kernel_rfl)
(.leaf (by kernel_rfl))))))))))))) (fun h5 =>
(.node (by kernel_rfl) (by kernel_rfl) (fun h6 =>
(.path [1,1,1,1,1,1,1,0,1,0,1] (by kernel_rfl)
(.pf (c := (decide (n2 < n2))) (by kernel_rfl) (by kernel_rfl) (by (simp [*]; done))
(.path [1,0,1] (by kernel_rfl)
(.pt (c := (n2 == n2)) (by kernel_rfl) (by kernel_rfl) (by (simp [*]; done))
(.pt (c := (decide (n2 > (0 : Int)))) (by kernel_rfl) (by kernel_rfl) (by (simp [*]; done))
(.path [1,0,1] (by kernel_rfl)
(.pf (c := (n3 != n3)) (by kernel_rfl) (by kernel_rfl) (by (simp [*]; done))
(.path [1,0,1] (by kernel_rfl)
(.pf (c := (decide (n2 > n2))) (by kernel_rfl) (by kernel_rfl) (by (simp [*]; done))
(.path [1,0,1,1,0,1,0,1,0,1,1,0,0,0,1,0,1,1,0,1,1,0,0,0,0,1] (by kernel_rfl)
(.leaf (by kernel_rfl))))))))))))) (fun h6 =>
(.node (by kernel_rfl) (by kernel_rfl) (fun h7 =>
(.node (by kernel_rfl) (by kernel_rfl) (fun h8 =>
(.path [1,1,1,1,1,0,1,0,1] (by kernel_rfl)
(.pf (c := (decide (n2 < n2))) (by kernel_rfl) (by kernel_rfl) (by (simp [*]; done))
(.path [1,0,1] (by kernel_rfl)
(.pt (c := (n2 == n2)) (by kernel_rfl) (by kernel_rfl) (by (simp [*]; done))
(.pt (c := (decide (n2 > (0 : Int)))) (by kernel_rfl) (by kernel_rfl) (by (simp [*]; done))
(.path [1,0,1] (by kernel_rfl)
(.pf (c := (n3 != n3)) (by kernel_rfl) (by kernel_rfl) (by (simp [*]; done))
(.path [1,0,1] (by kernel_rfl)
(.pf (c := (decide (n2 > n2))) (by kernel_rfl) (by kernel_rfl) (by (simp [*]; done))
(.path [1,0,1,1,0,1,0,1,0,1,1,0,0,0,1,0,1,1,0,1,1,0,0,0,0,1] (by kernel_rfl)
(.leaf (by kernel_rfl))))))))))))) (fun h8 =>
(.path [1,0,1] (by kernel_rfl)
(.pf (c := (decide ((cl_5 l1 n4 : Int) > n2))) (by kernel_rfl) (by kernel_rfl) (by (simp only [w64d, decide_eq_true_eq, decide_eq_false_iff_not, beq_iff_eq, beq_eq_false_iff_ne, bne_iff_ne, ne_eq, inR, Bool.and_eq_true, Bool.and_eq_false_iff, Bool.not_eq_true', Bool.not_eq_false', Bool.not_eq_eq_eq_not, Bool.not_true, Bool.not_false] at *; omega))
(.path [1,1,0,1,1,1,1,1,0,1] (by kernel_rfl)
(.pf (c := (decide (n2 < n2))) (by kernel_rfl) (by kernel_rfl) (by (simp [*]; done))
(.path [1,0,1] (by kernel_rfl)
(.pt (c := (n2 == n2)) (by kernel_rfl) (by kernel_rfl) (by (simp [*]; done))
(.pt (c := (decide (n2 > (0 : Int)))) (by kernel_rfl) (by kernel_rfl) (by (simp [*]; done))
(.path [1,0,1] (by kernel_rfl)
(.pf (c := (n3 != n3)) (by kernel_rfl) (by kernel_rfl) (by (simp [*]; done))
(.path [1,0,1] (by kernel_rfl)
(.pf (c := (decide (n2 > n2))) (by kernel_rfl) (by kernel_rfl) (by (simp [*]; done))
(.path [1,0,1,1,0,1,0,1,0,1,1,0,0,0,1,0,1,1,0,1,1,0,0,0,0,1] (by kernel_rfl)
(.leaf (by kernel_rfl))))))))))))))))) (fun h7 =>
(.path [0,0,1,0,1] (by kernel_rfl)
(.pt (c := (decide ((cl_5 l1 n4 : Int) > n2))) (by kernel_rfl) (by kernel_rfl) (by (simp only [w64d, decide_eq_true_eq, decide_eq_false_iff_not, beq_iff_eq, beq_eq_false_iff_ne, bne_iff_ne, ne_eq, inR, Bool.and_eq_true, Bool.and_eq_false_iff, Bool.not_eq_true', Bool.not_eq_false', Bool.not_eq_eq_eq_not, Bool.not_true, Bool.not_false] at *; omega))
(.path [1,1,0,1,1,1,1,1,0,1] (by kernel_rfl)
(.pf (by kernel_rfl) (by kernel_rfl) h6
(.path [1,0,1] (by kernel_rfl)
(.pf (by kernel_rfl) (by kernel_rfl) h7
(.path [0,0,0,0,1,0,1] (by kernel_rfl)
(.pt (c := (decide ((cl_5 l1 n4 : Int) > n2))) (by kernel_rfl) (by kernel_rfl) (by (simp only [w64d, decide_eq_true_eq, decide_eq_false_iff_not, beq_iff_eq, beq_eq_false_iff_ne, bne_iff_ne, ne_eq, inR, Bool.and_eq_true, Bool.and_eq_false_iff, Bool.not_eq_true', Bool.not_eq_false', Bool.not_eq_eq_eq_not, Bool.not_true, Bool.not_false] at *; omega))
(.path [1,0,1,1,0,1,0,1,0,1,1,0,0,0,1,0,1,1,0,1,1,0,0,0,0,1] (by kernel_rfl)
(.leaf (by kernel_rfl))))))))))))))))))))))))) (fun h1 =>
(.node (by kernel_rfl) (by kernel_rfl) (fun h2 =>
(.pt (by kernel_rfl) (by kernel_rfl) h2
(.path [1,0,1] (by kernel_rfl)
(.node (by kernel_rfl) (by kernel_rfl) (fun h3 =>
(.path [1,1,1,1,0,1] (by kernel_rfl)
(.pf (c := (decide (n2 < n2))) (by kernel_rfl) (by kernel_rfl) (by (simp [*]; done))
(.path [1,0,1] (by kernel_rfl)
(.pt (c := (n2 == n2)) (by kernel_rfl) (by kernel_rfl) (by (simp [*]; done))
(.pt (c := (decide (n2 > (0 : Int)))) (by kernel_rfl) (by kernel_rfl) (by (simp [*]; done))
(.path [1,0,1] (by kernel_rfl)
(.pf (c := (n3 != n3)) (by kernel_rfl) (by kernel_rfl) (by (simp [*]; done))
(.path [1,0,1] (by kernel_rfl)
(.pf (c := (decide (n2 > n2))) (by kernel_rfl) (by kernel_rfl) (by (simp [*]; done))
(.path [1,0,1,1,0,1,0,1,0,1,1,0,0,0,1,0,1,1,0,1,1,0,0,0,0,1] (by kernel_rfl)
(.leaf (by kernel_rfl))))))))))))) (fun h3 =>
(.path [1,1,0,1] (by kernel_rfl)
(.pf (c := (decide (n2 < n2))) (by kernel_rfl) (by kernel_rfl) (by (simp [*]; done))
(.path [1,0,1] (by kernel_rfl)
(.pt (c := (n2 == n2)) (by kernel_rfl) (by kernel_rfl) (by (simp [*]; done))
(.pt (c := (decide (n2 > (0 : Int)))) (by kernel_rfl) (by kernel_rfl) (by (simp [*]; done))
(.path [1,0,1] (by kernel_rfl)
(.pf (c := (n3 != n3)) (by kernel_rfl) (by kernel_rfl) (by (simp [*]; done))
(.path [1,0,1] (by kernel_rfl)
(.pf (c := (decide (n2 > n2))) (by kernel_rfl) (by kernel_rfl) (by (simp [*]; done))
(.path [1,0,1,1,0,1,0,1,0,1,1,0,0,0,1,0,1,1,0,1,1,0,0,0,0,1] (by kernel_rfl)
(.leaf (by kernel_rfl))))))))))))))))) (fun h2 =>
(.node (by kernel_rfl) (by kernel_rfl) (fun h3 =>
(.path [1,0,1] (by kernel_rfl)
(.node (by kernel_rfl) (by kernel_rfl) (fun h4 =>
(.path [1,1,1,1,0,1] (by kernel_rfl)
(.pf (c := (decide (n2 < n2))) (by kernel_rfl) (by kernel_rfl) (by (simp [*]; done))
(.path [1,0,1] (by kernel_rfl)
(.pt (c := (n2 == n2)) (by kernel_rfl) (by kernel_rfl) (by (simp [*]; done))
(.pt (c := (decide (n2 > (0 : Int)))) (by kernel_rfl) (by kernel_rfl) (by (simp [*]; done))
(.path [1,0,1] (by kernel_rfl)
(.pf (c := (n3 != n3)) (by kernel_rfl) (by kernel_rfl) (by (simp [*]; done))
(.path [1,0,1] (by kernel_rfl)
(.pf (c := (decide (n2 > n2))) (by kernel_rfl) (by kernel_rfl) (by (simp [*]; done))
(.path [1,0,1,1,0,1,0,1,0,1,1,0,0,0,1,0,1,1,0,1,1,0,0,0,0,1] (by kernel_rfl)
(.leaf (by kernel_rfl))))))))))))) (fun h4 =>
(.path [1,1,0,1] (by kernel_rfl)
(.pf (c := (decide (n2 < n2))) (by kernel_rfl) (by kernel_rfl) (by (simp [*]; done))
(.path [1,0,1] (by kernel_rfl)
(.pt (c := (n2 == n2)) (by kernel_rfl) (by kernel_rfl) (by (simp [*]; done))
(.pt (c := (decide (n2 > (0 : Int)))) (by kernel_rfl) (by kernel_rfl) (by (simp [*]; done))
(.path [1,0,1] (by kernel_rfl)
(.pf (c := (n3 != n3)) (by kernel_rfl) (by kernel_rfl) (by (simp [*]; done))
(.path [1,0,1] (by kernel_rfl)
(.pf (c := (decide (n2 > n2))) (by kernel_rfl) (by kernel_rfl) (by (simp [*]; done))
(.path [1,0,1,1,0,1,0,1,0,1,1,0,0,0,1,0,1,1,0,1,1,0,0,0,0,1] (by kernel_rfl)
(.leaf (by kernel_rfl)))))))))))))))) (fun h3 =>
(.node (by kernel_rfl) (by kernel_rfl) (fun h4 =>
(.path [1,0,0,1,1,1,0,1] (by kernel_rfl)
(.pf (c := (decide (n2 < n2))) (by kernel_rfl) (by kernel_rfl) (by (simp [*]; done))
(.path [1,0,1] (by kernel_rfl)
(.pt (c := (n2 == n2)) (by kernel_rfl) (by kernel_rfl) (by (simp [*]; done))
(.pt (c := (decide (n2 > (0 : Int)))) (by kernel_rfl) (by kernel_rfl) (by (simp [*]; done))
(.path [1,0,1] (by kernel_rfl)
(.pf (c := (n3 != n3)) (by kernel_rfl) (by kernel_rfl) (by (simp [*]; done))
(.path [1,0,1] (by kernel_rfl)
(.pf (c := (decide (n2 > n2))) (by kernel_rfl) (by kernel_rfl) (by (simp [*]; done))
(.path [1,0,1,1,0,1,0,1,0,1,1,0,0,0,1,0,1,1,0,0,0,0,0,1] (by kernel_rfl)
(.pf (c := (!(true && (n6 == n6 && true)))) (by kernel_rfl) (by kernel_rfl) (by (simp [*]; done))
(.pf (c := (decide ((0 : Int) > IntKind.wrap .i64 ((1 : Int) + IntKind.wrap .i64 n0)))) (by kernel_rfl) (by kernel_rfl) (by (simp only [w64d, decide_eq_true_eq, decide_eq_false_iff_not, beq_iff_eq, beq_eq_false_iff_ne, bne_iff_ne, ne_eq, inR, Bool.and_eq_true, Bool.and_eq_false_iff, Bool.not_eq_true', Bool.not_eq_false', Bool.not_eq_eq_eq_not, Bool.not_true, Bool.not_false] at *; omega))
(.path [0,1] (by kernel_rfl)
(.leaf (by kernel_rfl)))))))))))))))) (fun h4 =>
(.path [1,0,1] (by kernel_rfl)
(.node (by kernel_rfl) (by kernel_rfl) (fun h5 =>
(.path [1,1,1,1,1,1,1,1,1,1,1,0,1] (by kernel_rfl)
(.pf (c := (decide (n2 < n2))) (by kernel_rfl) (by kernel_rfl) (by (simp [*]; done))
(.path [1,0,1] (by kernel_rfl)
(.pt (c := (n2 == n2)) (by kernel_rfl) (by kernel_rfl) (by (simp [*]; done))
(.pt (c := (decide (n2 > (0 : Int)))) (by kernel_rfl) (by kernel_rfl) (by (simp [*]; done))
(.path [1,0,1] (by kernel_rfl)
(.pf (c := (n3 != n3)) (by kernel_rfl) (by kernel_rfl) (by (simp [*]; done))
(.path [1,0,1] (by kernel_rfl)
(.pf (c := (decide (n2 > n2))) (by kernel_rfl) (by kernel_rfl) (by (simp [*]; done))
(.path [1,0,1,1,0,1,0,1,0,1,1,0,0,0,1,0,1,1,0,1,1,0,0,0,0,1] (by kernel_rfl)
(.leaf (by kernel_rfl))))))))))))) (fun h5 =>
(.node (by kernel_rfl) (by kernel_rfl) (fun h6 =>
(.path [1,1,1,1,1,1,1,1,1,0,1] (by kernel_rfl)
(.pf (c := (decide (n2 < n2))) (by kernel_rfl) (by kernel_rfl) (by (simp [*]; done))
(.path [1,0,1] (by kernel_rfl)
(.pt (c := (n2 == n2)) (by kernel_rfl) (by kernel_rfl) (by (simp [*]; done))
(.pt (c := (decide (n2 > (0 : Int)))) (by kernel_rfl) (by kernel_rfl) (by (simp [*]; done))
(.path [1,0,1] (by kernel_rfl)
(.pf (c := (n3 != n3)) (by kernel_rfl) (by kernel_rfl) (by (simp [*]; done))
(.path [1,0,1] (by kernel_rfl)
(.pf (c := (decide (n2 > n2))) (by kernel_rfl) (by kernel_rfl) (by (simp [*]; done))
(.path [1,0,1,1,0,1,0,1,0,1,1,0,0,0,1,0,1,1,0,1,1,0,0,0,0,1] (by kernel_rfl)
(.leaf (by kernel_rfl))))))))))))) (fun h6 =>
(.node (by kernel_rfl) (by kernel_rfl) (fun h7 =>
(.path [1,1,1,1,1,1,1,0,1] (by kernel_rfl)
(.pf (c := (decide (n2 < n2))) (by kernel_rfl) (by kernel_rfl) (by (simp [*]; done))
(.path [1,0,1] (by kernel_rfl)
(.pt (c := (n2 == n2)) (by kernel_rfl) (by kernel_rfl) (by (simp [*]; done))
(.pt (c := (decide (n2 > (0 : Int)))) (by kernel_rfl) (by kernel_rfl) (by (simp [*]; done))
(.path [1,0,1] (by kernel_rfl)
(.pf (c := (n3 != n3)) (by kernel_rfl) (by kernel_rfl) (by (simp [*]; done))
(.path [1,0,1] (by kernel_rfl)
(.pf (c := (decide (n2 > n2))) (by kernel_rfl) (by kernel_rfl) (by (simp [*]; done))
(.path [1,0,1,1,0,1,0,1,0,1,1,0,0,0,1,0,1,1,0,1,1,0,0,0,0,1] (by kernel_rfl)
(.leaf (by kernel_rfl))))))))))))) (fun h7 =>
(.node (by kernel_rfl) (by kernel_rfl) (fun h8 =>
(.path [1,1,1,1,1,0,1] (by kernel_rfl)
(.pf (c := (decide (n2 < n2))) (by kernel_rfl) (by kernel_rfl) (by (simp [*]; done))
(.path [1,0,1] (by kernel_rfl)
(.pt (c := (n2 == n2)) (by kernel_rfl) (by kernel_rfl) (by (simp [*]; done))
(.pt (c := (decide (n2 > (0 : Int)))) (by kernel_rfl) (by kernel_rfl) (by (simp [*]; done))
(.path [1,0,1] (by kernel_rfl)
(.pf (c := (n3 != n3)) (by kernel_rfl) (by kernel_rfl) (by (simp [*]; done))
(.path [1,0,1] (by kernel_rfl)
(.pf (c := (decide (n2 > n2))) (by kernel_rfl) (by kernel_rfl) (by (simp [*]; done))
(.path [1,0,1,1,0,1,0,1,0,1,1,0,0,0,1,0,1,1,0,1,1,0,0,0,0,1] (by kernel_rfl)
(.leaf (by kernel_rfl))))))))))))) (fun h8 =>
(.node (by kernel_rfl) (by kernel_rfl) (fun h9 =>
(.path [1,1,1,1,1,1,1,0,1] (by kernel_rfl)
(.pf (c := (decide (n2 < n2))) (by kernel_rfl) (by kernel_rfl) (by (simp [*]; done))
(.path [1,0,1] (by kernel_rfl)
(.pt (c := (n2 == n2)) (by kernel_rfl) (by kernel_rfl) (by (simp [*]; done))
(.pt (c := (decide (n2 > (0 : Int)))) (by kernel_rfl) (by kernel_rfl) (by (simp [*]; done))
(.path [1,0,1] (by kernel_rfl)
(.pf (c := (n3 != n3)) (by kernel_rfl) (by kernel_rfl) (by (simp [*]; done))
(.path [1,0,1] (by kernel_rfl)
(.pf (c := (decide (n2 > n2))) (by kernel_rfl) (by kernel_rfl) (by (simp [*]; done))
(.path [1,0,1,1,0,1,0,1,0,1,1,0,0,0,1,0,1,1,0,1,1,0,0,0,0,1] (by kernel_rfl)
(.leaf (by kernel_rfl))))))))))))) (fun h9 =>
(.node (by kernel_rfl) (by kernel_rfl) (fun h10 =>
(.node (by kernel_rfl) (by kernel_rfl) (fun h11 =>
(.path [1,1,1,1,1,0,1] (by kernel_rfl)
(.pf (c := (decide (n2 < n2))) (by kernel_rfl) (by kernel_rfl) (by (simp [*]; done))
(.path [1,0,1] (by kernel_rfl)
(.pt (c := (n2 == n2)) (by kernel_rfl) (by kernel_rfl) (by (simp [*]; done))
(.pt (c := (decide (n2 > (0 : Int)))) (by kernel_rfl) (by kernel_rfl) (by (simp [*]; done))
(.path [1,0,1] (by kernel_rfl)
(.pf (c := (n3 != n3)) (by kernel_rfl) (by kernel_rfl) (by (simp [*]; done))
(.path [1,0,1] (by kernel_rfl)
(.pf (c := (decide (n2 > n2))) (by kernel_rfl) (by kernel_rfl) (by (simp [*]; done))
(.path [1,0,1,1,0,1,0,1,0,1,1,0,0,0,1,0,1,1,0,1,1,0,0,0,0,1] (by kernel_rfl)
(.leaf (by kernel_rfl))))))))))))) (fun h11 =>
(.path [1,1,0] (by kernel_rfl)
(.node (by kernel_rfl) (by kernel_rfl) (fun h12 =>
(.path [1,1,1,1,1,1,0,1] (by kernel_rfl)
(.pf (c := (decide (n2 < n2))) (by kernel_rfl) (by kernel_rfl) (by (simp [*]; done))
(.path [1,0,1] (by kernel_rfl)
(.pt (c := (n2 == n2)) (by kernel_rfl) (by kernel_rfl) (by (simp [*]; done))
(.pt (c := (decide (n2 > (0 : Int)))) (by kernel_rfl) (by kernel_rfl) (by (simp [*]; done))
(.path [1,0,1] (by kernel_rfl)
(.pf (c := (n3 != n3)) (by kernel_rfl) (by kernel_rfl) (by (simp [*]; done))
(.path [1,0,1] (by kernel_rfl)
(.pf (c := (decide (n2 > n2))) (by kernel_rfl) (by kernel_rfl) (by (simp [*]; done))
(.path [1,0,1,1,0,1,0,1,0,1,1,0,0,0,1,0,1,1,0,1,1,0,0,0,0,1] (by kernel_rfl)
(.leaf (by kernel_rfl))))))))))))) (fun h12 =>
(.node (by kernel_rfl) (by kernel_rfl) (fun h13 =>
(.path [1,1,1,1,0,1] (by kernel_rfl)
(.pf (c := (decide (n2 < n2))) (by kernel_rfl) (by kernel_rfl) (by (simp [*]; done))
(.path [1,0,1] (by kernel_rfl)
(.pt (c := (n2 == n2)) (by kernel_rfl) (by kernel_rfl) (by (simp [*]; done))
(.pt (c := (decide (n2 > (0 : Int)))) (by kernel_rfl) (by kernel_rfl) (by (simp [*]; done))
(.path [1,0,1] (by kernel_rfl)
(.pf (c := (n3 != n3)) (by kernel_rfl) (by kernel_rfl) (by (simp [*]; done))
(.path [1,0,1] (by kernel_rfl)
(.pf (c := (decide (n2 > n2))) (by kernel_rfl) (by kernel_rfl) (by (simp [*]; done))
(.path [1,0,1,1,0,1,0,1,0,1,1,0,0,0,1,0,1,1,0,1,1,0,0,0,0,1] (by kernel_rfl)
(.leaf (by kernel_rfl))))))))))))) (fun h13 =>
(.node (by kernel_rfl) (by kernel_rfl) (fun h14 =>
(.path [1,1,0,1] (by kernel_rfl)
(.pf (c := (decide (n2 < n2))) (by kernel_rfl) (by kernel_rfl) (by (simp [*]; done))
(.path [1,0,1] (by kernel_rfl)
(.pt (c := (n2 == n2)) (by kernel_rfl) (by kernel_rfl) (by (simp [*]; done))
(.pt (c := (decide (n2 > (0 : Int)))) (by kernel_rfl) (by kernel_rfl) (by (simp [*]; done))
(.path [1,0,1] (by kernel_rfl)
(.pf (c := (n3 != n3)) (by kernel_rfl) (by kernel_rfl) (by (simp [*]; done))
(.path [1,0,1] (by kernel_rfl)
(.pf (c := (decide (n2 > n2))) (by kernel_rfl) (by kernel_rfl) (by (simp [*]; done))
(.path [1,0,1,1,0,1,0,1,0,1,1,0,0,0,1,0,1,1,0,1,1,0,0,0,0,1] (by kernel_rfl)
(.leaf (by kernel_rfl))))))))))))) (fun h14 =>
(.path [1] (by kernel_rfl)
(.pf (c := (decide ((cl_5 l1 n4 : Int) > n2))) (by kernel_rfl) (by kernel_rfl) (by (simp only [w64d, decide_eq_true_eq, decide_eq_false_iff_not, beq_iff_eq, beq_eq_false_iff_ne, bne_iff_ne, ne_eq, inR, Bool.and_eq_true, Bool.and_eq_false_iff, Bool.not_eq_true', Bool.not_eq_false', Bool.not_eq_eq_eq_not, Bool.not_true, Bool.not_false] at *; omega))
(.path [1,1,1,1,1,0,1] (by kernel_rfl)
(.pf (c := (decide (n2 < n2))) (by kernel_rfl) (by kernel_rfl) (by (simp [*]; done))
(.path [1,0,1] (by kernel_rfl)
(.pt (c := (n2 == n2)) (by kernel_rfl) (by kernel_rfl) (by (simp [*]; done))
(.pt (c := (decide (n2 > (0 : Int)))) (by kernel_rfl) (by kernel_rfl) (by (simp [*]; done))
(.path [1,0,1] (by kernel_rfl)
(.pf (c := (n3 != n3)) (by kernel_rfl) (by kernel_rfl) (by (simp [*]; done))
(.path [1,0,1] (by kernel_rfl)
(.pf (c := (decide (n2 > n2))) (by kernel_rfl) (by kernel_rfl) (by (simp [*]; done))
(.path [1,0,1,1,0,1,0,1,0,1,1,0,0,0,1,0,1,1,0,1,1,0,0,0,0,1] (by kernel_rfl)
(.leaf (by kernel_rfl)))))))))))))))))))))))) (fun h10 =>
(.path [0,0,1,1,0] (by kernel_rfl)
(.node (by kernel_rfl) (by kernel_rfl) (fun h11 =>
(.path [1,1,1,1,1,1,0,1] (by kernel_rfl)
(.pf (c := (decide (n2 < n2))) (by kernel_rfl) (by kernel_rfl) (by (simp [*]; done))
(.path [1,0,1] (by kernel_rfl)
(.pt (c := (n2 == n2)) (by kernel_rfl) (by kernel_rfl) (by (simp [*]; done))
(.pt (c := (decide (n2 > (0 : Int)))) (by kernel_rfl) (by kernel_rfl) (by (simp [*]; done))
(.path [1,0,1] (by kernel_rfl)
(.pf (c := (n3 != n3)) (by kernel_rfl) (by kernel_rfl) (by (simp [*]; done))
(.path [1,0,1] (by kernel_rfl)
(.pf (c := (decide (n2 > n2))) (by kernel_rfl) (by kernel_rfl) (by (simp [*]; done))
(.path [1,0,1,1,0,1,0,1,0,1,1,0,0,0,1,0,1,1,0,1,1,0,0,0,0,1] (by kernel_rfl)
(.leaf (by kernel_rfl))))))))))))) (fun h11 =>
(.node (by kernel_rfl) (by kernel_rfl) (fun h12 =>
(.path [1,1,1,1,0,1] (by kernel_rfl)
(.pf (c := (decide (n2 < n2))) (by kernel_rfl) (by kernel_rfl) (by (simp [*]; done))
(.path [1,0,1] (by kernel_rfl)
(.pt (c := (n2 == n2)) (by kernel_rfl) (by kernel_rfl) (by (simp [*]; done))
(.pt (c := (decide (n2 > (0 : Int)))) (by kernel_rfl) (by kernel_rfl) (by (simp [*]; done))
(.path [1,0,1] (by kernel_rfl)
(.pf (c := (n3 != n3)) (by kernel_rfl) (by kernel_rfl) (by (simp [*]; done))
(.path [1,0,1] (by kernel_rfl)
(.pf (c := (decide (n2 > n2))) (by kernel_rfl) (by kernel_rfl) (by (simp [*]; done))
(.path [1,0,1,1,0,1,0,1,0,1,1,0,0,0,1,0,1,1,0,1,1,0,0,0,0,1] (by kernel_rfl)
(.leaf (by kernel_rfl))))))))))))) (fun h12 =>
(.node (by kernel_rfl) (by kernel_rfl) (fun h13 =>
(.path [1,1,0,1] (by kernel_rfl)
(.pf (c := (decide (n2 < n2))) (by kernel_rfl) (by kernel_rfl) (by (simp [*]; done))
(.path [1,0,1] (by kernel_rfl)
(.pt (c := (n2 == n2)) (by kernel_rfl) (by kernel_rfl) (by (simp [*]; done))
(.pt (c := (decide (n2 > (0 : Int)))) (by kernel_rfl) (by kernel_rfl) (by (simp [*]; done))
(.path [1,0,1] (by kernel_rfl)
(.pf (c := (n3 != n3)) (by kernel_rfl) (by kernel_rfl) (by (simp [*]; done))
(.path [1,0,1] (by kernel_rfl)
(.pf (c := (decide (n2 > n2))) (by kernel_rfl) (by kernel_rfl) (by (simp [*]; done))
(.path [1,0,1,1,0,1,0,1,0,1,1,0,0,0,1,0,1,1,0,1,1,0,0,0,0,1] (by kernel_rfl)
(.leaf (by kernel_rfl))))))))))))) (fun h13 =>
(.path [1] (by kernel_rfl)
(.pt (c := (decide ((cl_5 l1 n4 : Int) > n2))) (by kernel_rfl) (by kernel_rfl) (by (simp only [w64d, decide_eq_true_eq, decide_eq_false_iff_not, beq_iff_eq, beq_eq_false_iff_ne, bne_iff_ne, ne_eq, inR, Bool.and_eq_true, Bool.and_eq_false_iff, Bool.not_eq_true', Bool.not_eq_false', Bool.not_eq_eq_eq_not, Bool.not_true, Bool.not_false] at *; omega))
(.path [1,1,1,1,1,0,1] (by kernel_rfl)
(.pf (by kernel_rfl) (by kernel_rfl) h9
(.path [1,0,1] (by kernel_rfl)
(.pf (by kernel_rfl) (by kernel_rfl) h10
(.path [0,0,0,0,1,0,1] (by kernel_rfl)
(.pt (c := (decide ((cl_5 l1 n4 : Int) > n2))) (by kernel_rfl) (by kernel_rfl) (by (simp only [w64d, decide_eq_true_eq, decide_eq_false_iff_not, beq_iff_eq, beq_eq_false_iff_ne, bne_iff_ne, ne_eq, inR, Bool.and_eq_true, Bool.and_eq_false_iff, Bool.not_eq_true', Bool.not_eq_false', Bool.not_eq_eq_eq_not, Bool.not_true, Bool.not_false] at *; omega))
(.path [1,0,1,1,0,1,0,1,0,1,1,0,0,0,1,0,1,1,0,1,1,0,0,0,0,1] (by kernel_rfl)
(.leaf (by kernel_rfl)))))))))))))))))))))))))))))))))))))))))))))


noncomputable def fn_L6_11_xZT : List Dat → Tree Step
  | [.n n0, .l (Ty.pair (Ty.int IntKind.u8) (Ty.pair (Ty.int IntKind.i64) (Ty.pair (Ty.int IntKind.u8) (Ty.pair (Ty.int IntKind.i64) (Ty.pair (Ty.int IntKind.i64) (Ty.pair (Ty.int IntKind.u64) (Ty.pair (Ty.int IntKind.u32) (Ty.pair (Ty.int IntKind.u64) (Ty.pair (Ty.int IntKind.u64) (Ty.pair (Ty.int IntKind.u64) (Ty.pair (Ty.arr 64 (Ty.int IntKind.u8)) (Ty.int IntKind.u32)))))))))))) l1, .n n2, .n n3, .n n4, .n n5, .n n6, .n n7, .n n8, .n n9, .n n10, .n n11, .l (Ty.int IntKind.u8) l12, .n n13, .b b14, .n n15, .n n16] =>
    (.leaf (Step.stop 0 []))
  | _ => .bad 0
theorem fn_L6_11_xZT_im (n0 : Int) (l1 : List (Ty.den TCall24)) (n2 : Int) (n3 : Int) (n4 : Int) (n5 : Int) (n6 : Int) (n7 : Int) (n8 : Int) (n9 : Int) (n10 : Int) (n11 : Int) (l12 : List (Ty.den (Ty.int IntKind.u8))) (n13 : Int) (b14 : Bool) (n15 : Int) (n16 : Int) (g0 : n4 = (l1.length : Int)) : Imp (fn_L6_11_xZT [.n n0, .l TCall24 l1, .n n2, .n n3, .n n4, .n n5, .n n6, .n n7, .n n8, .n n9, .n n10, .n n11, .l (Ty.int IntKind.u8) l12, .n n13, .b b14, .n n15, .n n16]) (st_L6_11 [.k 0, .n n0, .l TCall24 l1, .n 0, .n (-1), .n n15, .n (-1), .b false, .n n4, .n 0, .n (-1), .n 0, .n n6, .n n7, .n n8, .n n9, .n n10, .n n11, .l (.int .u8) l12, .n n13, .b b14, .n n15, .n n16, .b true, .n n5, .n n6]) :=
(.path [1] (by kernel_rfl)
(.pf (c := (decide (n4 < (↑(List.length l1) : Int)))) (by kernel_rfl) (by kernel_rfl) (by (simp [*]; done))
(.path [1] (by kernel_rfl)
(.leaf (by kernel_rfl)))))

noncomputable def fn_L6_11_xZF : List Dat → Tree Step
  | [.n n0, .l (Ty.pair (Ty.int IntKind.u8) (Ty.pair (Ty.int IntKind.i64) (Ty.pair (Ty.int IntKind.u8) (Ty.pair (Ty.int IntKind.i64) (Ty.pair (Ty.int IntKind.i64) (Ty.pair (Ty.int IntKind.u64) (Ty.pair (Ty.int IntKind.u32) (Ty.pair (Ty.int IntKind.u64) (Ty.pair (Ty.int IntKind.u64) (Ty.pair (Ty.int IntKind.u64) (Ty.pair (Ty.arr 64 (Ty.int IntKind.u8)) (Ty.int IntKind.u32)))))))))))) l1, .n n2, .n n3, .n n4, .n n5, .n n6, .n n7, .n n8, .n n9, .n n10, .n n11, .l (Ty.int IntKind.u8) l12, .n n13, .b b14, .n n15, .n n16] =>
    (.leaf (Step.stop 0 []))
  | _ => .bad 0
theorem fn_L6_11_xZF_im (n0 : Int) (l1 : List (Ty.den TCall24)) (n2 : Int) (n3 : Int) (n4 : Int) (n5 : Int) (n6 : Int) (n7 : Int) (n8 : Int) (n9 : Int) (n10 : Int) (n11 : Int) (l12 : List (Ty.den (Ty.int IntKind.u8))) (n13 : Int) (b14 : Bool) (n15 : Int) (n16 : Int) (g0 : n4 = (l1.length : Int)) : Imp (fn_L6_11_xZF [.n n0, .l TCall24 l1, .n n2, .n n3, .n n4, .n n5, .n n6, .n n7, .n n8, .n n9, .n n10, .n n11, .l (Ty.int IntKind.u8) l12, .n n13, .b b14, .n n15, .n n16]) (st_L6_11 [.k 0, .n n0, .l TCall24 l1, .n 0, .n (-1), .n n15, .n (-1), .b true, .n n4, .n 0, .n (-1), .n n5, .n n6, .n n7, .n n8, .n n9, .n n10, .n n11, .l (.int .u8) l12, .n n13, .b b14, .n n15, .n n16, .b false, .n n5, .n n6]) :=
(.path [1] (by kernel_rfl)
(.pf (c := (decide (n4 < (↑(List.length l1) : Int)))) (by kernel_rfl) (by kernel_rfl) (by (simp [*]; done))
(.path [1] (by kernel_rfl)
(.leaf (by kernel_rfl)))))

noncomputable def fn_L6_11_xAT : List Dat → Tree Step
  | [.n n0, .l (Ty.pair (Ty.int IntKind.u8) (Ty.pair (Ty.int IntKind.i64) (Ty.pair (Ty.int IntKind.u8) (Ty.pair (Ty.int IntKind.i64) (Ty.pair (Ty.int IntKind.i64) (Ty.pair (Ty.int IntKind.u64) (Ty.pair (Ty.int IntKind.u32) (Ty.pair (Ty.int IntKind.u64) (Ty.pair (Ty.int IntKind.u64) (Ty.pair (Ty.int IntKind.u64) (Ty.pair (Ty.arr 64 (Ty.int IntKind.u8)) (Ty.int IntKind.u32)))))))))))) l1, .n n2, .n n3, .n n4, .n n5, .n n6, .n n7, .n n8, .n n9, .n n10, .n n11, .l (Ty.int IntKind.u8) l12, .n n13, .b b14, .n n15, .n n16] =>
    (.leaf (Step.stop 0 []))
  | _ => .bad 0
theorem fn_L6_11_xAT_im (n0 : Int) (l1 : List (Ty.den TCall24)) (n2 : Int) (n3 : Int) (n4 : Int) (n5 : Int) (n6 : Int) (n7 : Int) (n8 : Int) (n9 : Int) (n10 : Int) (n11 : Int) (l12 : List (Ty.den (Ty.int IntKind.u8))) (n13 : Int) (b14 : Bool) (n15 : Int) (n16 : Int) (g0 : n4 = (l1.length : Int)) : Imp (fn_L6_11_xAT [.n n0, .l TCall24 l1, .n n2, .n n3, .n n4, .n n5, .n n6, .n n7, .n n8, .n n9, .n n10, .n n11, .l (Ty.int IntKind.u8) l12, .n n13, .b b14, .n n15, .n n16]) (st_L6_11 [.k 0, .n n0, .l TCall24 l1, .n n2, .n (-1), .n n15, .n n3, .b false, .n n4, .n n2, .n n3, .n 0, .n n6, .n n7, .n n8, .n n9, .n n10, .n n11, .l (.int .u8) l12, .n n13, .b b14, .n n15, .n n16, .b true, .n n5, .n n6]) :=
(.path [1] (by kernel_rfl)
(.pf (c := (decide (n4 < (↑(List.length l1) : Int)))) (by kernel_rfl) (by kernel_rfl) (by (simp [*]; done))
(.path [1] (by kernel_rfl)
(.leaf (by kernel_rfl)))))

noncomputable def fn_L6_11_xAF : List Dat → Tree Step
  | [.n n0, .l (Ty.pair (Ty.int IntKind.u8) (Ty.pair (Ty.int IntKind.i64) (Ty.pair (Ty.int IntKind.u8) (Ty.pair (Ty.int IntKind.i64) (Ty.pair (Ty.int IntKind.i64) (Ty.pair (Ty.int IntKind.u64) (Ty.pair (Ty.int IntKind.u32) (Ty.pair (Ty.int IntKind.u64) (Ty.pair (Ty.int IntKind.u64) (Ty.pair (Ty.int IntKind.u64) (Ty.pair (Ty.arr 64 (Ty.int IntKind.u8)) (Ty.int IntKind.u32)))))))))))) l1, .n n2, .n n3, .n n4, .n n5, .n n6, .n n7, .n n8, .n n9, .n n10, .n n11, .l (Ty.int IntKind.u8) l12, .n n13, .b b14, .n n15, .n n16] =>
    (.leaf (Step.stop 0 []))
  | _ => .bad 0
theorem fn_L6_11_xAF_im (n0 : Int) (l1 : List (Ty.den TCall24)) (n2 : Int) (n3 : Int) (n4 : Int) (n5 : Int) (n6 : Int) (n7 : Int) (n8 : Int) (n9 : Int) (n10 : Int) (n11 : Int) (l12 : List (Ty.den (Ty.int IntKind.u8))) (n13 : Int) (b14 : Bool) (n15 : Int) (n16 : Int) (g0 : n4 = (l1.length : Int)) : Imp (fn_L6_11_xAF [.n n0, .l TCall24 l1, .n n2, .n n3, .n n4, .n n5, .n n6, .n n7, .n n8, .n n9, .n n10, .n n11, .l (Ty.int IntKind.u8) l12, .n n13, .b b14, .n n15, .n n16]) (st_L6_11 [.k 0, .n n0, .l TCall24 l1, .n n2, .n (-1), .n n15, .n n3, .b true, .n n4, .n n2, .n n3, .n n5, .n n6, .n n7, .n n8, .n n9, .n n10, .n n11, .l (.int .u8) l12, .n n13, .b b14, .n n15, .n n16, .b false, .n n5, .n n6]) :=
(.path [1] (by kernel_rfl)
(.pf (c := (decide (n4 < (↑(List.length l1) : Int)))) (by kernel_rfl) (by kernel_rfl) (by (simp [*]; done))
(.path [1] (by kernel_rfl)
(.leaf (by kernel_rfl)))))

noncomputable def fn_L6_11_xBT : List Dat → Tree Step
  | [.n n0, .l (Ty.pair (Ty.int IntKind.u8) (Ty.pair (Ty.int IntKind.i64) (Ty.pair (Ty.int IntKind.u8) (Ty.pair (Ty.int IntKind.i64) (Ty.pair (Ty.int IntKind.i64) (Ty.pair (Ty.int IntKind.u64) (Ty.pair (Ty.int IntKind.u32) (Ty.pair (Ty.int IntKind.u64) (Ty.pair (Ty.int IntKind.u64) (Ty.pair (Ty.int IntKind.u64) (Ty.pair (Ty.arr 64 (Ty.int IntKind.u8)) (Ty.int IntKind.u32)))))))))))) l1, .n n2, .n n3, .n n4, .n n5, .n n6, .n n7, .n n8, .n n9, .n n10, .n n11, .l (Ty.int IntKind.u8) l12, .n n13, .b b14, .n n15, .n n16, .n n17] =>
    (.leaf (Step.stop 0 []))
  | _ => .bad 0
theorem fn_L6_11_xBT_im (n0 : Int) (l1 : List (Ty.den TCall24)) (n2 : Int) (n3 : Int) (n4 : Int) (n5 : Int) (n6 : Int) (n7 : Int) (n8 : Int) (n9 : Int) (n10 : Int) (n11 : Int) (l12 : List (Ty.den (Ty.int IntKind.u8))) (n13 : Int) (b14 : Bool) (n15 : Int) (n16 : Int) (n17 : Int) (g0 : n4 = (l1.length : Int)) : Imp (fn_L6_11_xBT [.n n0, .l TCall24 l1, .n n2, .n n3, .n n4, .n n5, .n n6, .n n7, .n n8, .n n9, .n n10, .n n11, .l (Ty.int IntKind.u8) l12, .n n13, .b b14, .n n15, .n n16, .n n17]) (st_L6_11 [.k 1, .n n0, .l TCall24 l1, .n n2, .n n17, .n n15, .n n3, .b false, .n n4, .n n2, .n n3, .n n17, .n 0, .n n6, .n n7, .n n8, .n n9, .n n10, .n n11, .l (.int .u8) l12, .n n13, .b b14, .n n15, .n n16, .b true, .n n5, .n n6]) :=
(.path [1] (by kernel_rfl)
(.pf (c := (decide (n4 < (↑(List.length l1) : Int)))) (by kernel_rfl) (by kernel_rfl) (by (simp [*]; done))
(.path [1] (by kernel_rfl)
(.leaf (by kernel_rfl)))))

noncomputable def fn_L6_11_xBF : List Dat → Tree Step
  | [.n n0, .l (Ty.pair (Ty.int IntKind.u8) (Ty.pair (Ty.int IntKind.i64) (Ty.pair (Ty.int IntKind.u8) (Ty.pair (Ty.int IntKind.i64) (Ty.pair (Ty.int IntKind.i64) (Ty.pair (Ty.int IntKind.u64) (Ty.pair (Ty.int IntKind.u32) (Ty.pair (Ty.int IntKind.u64) (Ty.pair (Ty.int IntKind.u64) (Ty.pair (Ty.int IntKind.u64) (Ty.pair (Ty.arr 64 (Ty.int IntKind.u8)) (Ty.int IntKind.u32)))))))))))) l1, .n n2, .n n3, .n n4, .n n5, .n n6, .n n7, .n n8, .n n9, .n n10, .n n11, .l (Ty.int IntKind.u8) l12, .n n13, .b b14, .n n15, .n n16, .n n17] =>
    (.leaf (Step.stop 0 []))
  | _ => .bad 0
theorem fn_L6_11_xBF_im (n0 : Int) (l1 : List (Ty.den TCall24)) (n2 : Int) (n3 : Int) (n4 : Int) (n5 : Int) (n6 : Int) (n7 : Int) (n8 : Int) (n9 : Int) (n10 : Int) (n11 : Int) (l12 : List (Ty.den (Ty.int IntKind.u8))) (n13 : Int) (b14 : Bool) (n15 : Int) (n16 : Int) (n17 : Int) (g0 : n4 = (l1.length : Int)) : Imp (fn_L6_11_xBF [.n n0, .l TCall24 l1, .n n2, .n n3, .n n4, .n n5, .n n6, .n n7, .n n8, .n n9, .n n10, .n n11, .l (Ty.int IntKind.u8) l12, .n n13, .b b14, .n n15, .n n16, .n n17]) (st_L6_11 [.k 1, .n n0, .l TCall24 l1, .n n2, .n n17, .n n15, .n n3, .b true, .n n4, .n n2, .n n3, .n n17, .n n5, .n n6, .n n7, .n n8, .n n9, .n n10, .n n11, .l (.int .u8) l12, .n n13, .b b14, .n n15, .n n16, .b false, .n n5, .n n6]) :=
(.path [1] (by kernel_rfl)
(.pf (c := (decide (n4 < (↑(List.length l1) : Int)))) (by kernel_rfl) (by kernel_rfl) (by (simp [*]; done))
(.path [1] (by kernel_rfl)
(.leaf (by kernel_rfl)))))

theorem ls_6_ok : LsOk Try.prog (0) (lsM [(11, L6_11)] (0)) (bodyOf Try.prog 6) := LsOk.many fun j B hB hk c hc hi => by
  simp only [lookM] at hB
  split at hB
  · rename_i e; have := Nat.eq_of_beq_eq_true e; subst this; cases hB
    have e1 : loopAt Try.prog 6 11 = [cAt Try.prog 6 11] := loopAt_one (by kernel_rfl)
    have e2 : c ∈ loopAt Try.prog 6 11 := loopsAt_mem hc hi
    rw [e1] at e2; cases List.mem_singleton.1 e2; exact L6_11_run
  cases hB

noncomputable def ev_W6 (env : List Dat) : Tree Bool := Lk.lawB false LK cs_28 6 (lsM [(11, L6_11)] (0)) (instL [.int .u8 0, .imm TCall24 1] env)

theorem W6_law (env : List Dat) (h : (ev_W6 env).sel = some true) {w : World} {args : Array Value} (ha : LRel R0 (snapOf w) (instL [.int .u8 0, .imm TCall24 1] env) args) :
    Calls Try.prog 6 args w fun e w' => e = .returned (.bool true) ∧ Below w.heap.size w w' :=
  lawB_ok cs_28_ok hmix false (ls := (lsM [(11, L6_11)] (0))) (ls_6_ok) (by rw [← lawB_lk]; exact h) ha

noncomputable def fn_W6_t : List Dat → Tree Bool
  | [.n n0, .l (Ty.pair (Ty.int IntKind.u8) (Ty.pair (Ty.int IntKind.i64) (Ty.pair (Ty.int IntKind.u8) (Ty.pair (Ty.int IntKind.i64) (Ty.pair (Ty.int IntKind.i64) (Ty.pair (Ty.int IntKind.u64) (Ty.pair (Ty.int IntKind.u32) (Ty.pair (Ty.int IntKind.u64) (Ty.pair (Ty.int IntKind.u64) (Ty.pair (Ty.int IntKind.u64) (Ty.pair (Ty.arr 64 (Ty.int IntKind.u8)) (Ty.int IntKind.u32)))))))))))) l1] =>
    (.node (decide ((↑(List.length l1) : Int) > (300 : Int)))
     (.leaf (true))
     (.node (decide (IntKind.wrap .i64 ((1 : Int) + IntKind.wrap .i64 n0) < (1 : Int)))
      (.leaf (false))
      (.node (decide (IntKind.wrap .i64 ((1 : Int) + IntKind.wrap .i64 n0) > (1000 : Int)))
       (.leaf (false))
       (let r1 : Option (Nat × List Dat) := (op_L6_11 [.k 0, .n n0, .l TCall24 l1, .n (0 : Int), .n (-1 : Int), .n (0 : Int), .n (-1 : Int), .b false, .n (0 : Int), .n (0 : Int), .n (-1 : Int), .n (0 : Int), .n (0 : Int), .n (0 : Int), .n (0 : Int), .n (0 : Int), .n (0 : Int), .n (0 : Int), .l (Ty.int IntKind.u8) (List.replicate 64 (0 : Int)), .n (0 : Int), .b false, .n (0 : Int), .n (IntKind.wrap .i64 ((1 : Int) + IntKind.wrap .i64 n0)), .b true, .n (0 : Int), .n (0 : Int)]);
        (.node (isK 0 [] r1)
         (.leaf (true))
         (.node (isK 1 [HK.b] r1)
          (.leaf (gb (dOf r1) 0))
          (.bad 351)))))))
  | _ => .bad 0
theorem fn_W6_t_im (n0 : Int) (l1 : List (Ty.den TCall24)) : Imp (fn_W6_t [.n n0, .l TCall24 l1]) (ev_W6 [.n n0, .l TCall24 l1]) :=
(.node (by kernel_rfl) (by kernel_rfl) (fun h0 =>
(.path [1,1,1] (by kernel_rfl)
(.leaf (by kernel_rfl)))) (fun h0 =>
(.path [1] (by kernel_rfl)
(.node (by kernel_rfl) (by kernel_rfl) (fun h1 =>
(.path [1,1,1,1] (by kernel_rfl)
(.leaf (by kernel_rfl)))) (fun h1 =>
(.node (by kernel_rfl) (by kernel_rfl) (fun h2 =>
(.path [1,1] (by kernel_rfl)
(.leaf (by kernel_rfl)))) (fun h2 =>
(.path [1,0] (by kernel_rfl)
(.node (by kernel_rfl) (by kernel_rfl) (fun h3 =>
(.path [1,1,1] (by kernel_rfl)
(.leaf (by kernel_rfl)))) (fun h3 =>
(.node (by kernel_rfl) (by kernel_rfl) (fun h4 =>
(.leaf (by kernel_rfl))) (fun h4 =>
.none))))))))))))
end Go.Proofs.Ytkclmlcfdijbmaa.Vx.Fe
