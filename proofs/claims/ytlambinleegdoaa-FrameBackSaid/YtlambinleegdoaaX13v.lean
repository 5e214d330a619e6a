import Derived.Test.YtlambinleegdoaaVxIm
import Derived.Test.YtlambinleegdoaaVxLk
import Derived.Test.YtlambinleegdoaaVxLaw
import Derived.Test.YtlambinleegdoaaX13o
import Derived.KernelRfl
namespace Go.Proofs.Ytlambinleegdoaa.Vx
open Go Go.RowKit
set_option linter.unusedVariables false
set_option linter.unusedSimpArgs false
set_option maxRecDepth 100000
set_option maxHeartbeats 0

theorem Imp.nd {α : Type} {T E x : Tree α} {c : Bool} (a : c = true → Imp T x.th) (b : c = false → Imp E x.el) (h : x.isNode = true := by kernel_rfl) (e : x.cd = c := by kernel_rfl) : Imp (.node c T E) x := .node h e a b
theorem Imp.lf {α : Type} {x : Tree α} {y : α} (h : x.sel = some y := by kernel_rfl) : Imp (.leaf y) x := .leaf h
theorem Imp.pa {α : Type} {T x : Tree α} (l : List Nat) (a : Imp T (x.walk l)) (h : x.okPath l = true := by kernel_rfl) : Imp T x := .path l h a
theorem Imp.sT {α : Type} {T x : Tree α} (c : Bool) (a : Imp T x.th) (h : x.isNode = true := by kernel_rfl) (e : x.cd = c := by kernel_rfl) (k : c = true := by simp [*]) : Imp T x := .pt h e k a
theorem Imp.sF {α : Type} {T x : Tree α} (c : Bool) (a : Imp T x.el) (h : x.isNode = true := by kernel_rfl) (e : x.cd = c := by kernel_rfl) (k : c = false := by simp [*]) : Imp T x := .pf h e k a
abbrev ExB (ev : List Dat → Tree (Nat × List Dat)) : Prop := ∃ f : List Dat → Option (Nat × List Dat), ∀ env, f env = (ev env).sel
theorem exB (ev : List Dat → Tree (Nat × List Dat)) : ExB ev := ⟨fun env => (ev env).sel, fun _ => rfl⟩
abbrev ExL (st : List Dat → Tree Step) : Prop := ∃ f : List Dat → Option (Nat × List Dat), ∀ env, f env = iterS st FU env
theorem exL (st : List Dat → Tree Step) : ExL st := ⟨iterS st FU, fun _ => rfl⟩
abbrev TI : Ty := .int .i64
abbrev TL : Ty := .int .u64
abbrev TC : Ty := .pair (.int .u8) (.int .i64)
def wrN : PB := .cells [.nilsl]
def wrO (b : Nat) : PB := .cells [.own b]
def inV (h : Nat) : PV := .agg [.int .u8 h, .int .i64 (h+1), .int .u64 (h+2), .int .u32 (h+3), .int .u32 (h+4), .imm TC (h+5)]
def inB (h : Nat) : PB := .cells [.int .u8 h, .int .i64 (h+1), .int .u64 (h+2), .int .u32 (h+3), .int .u32 (h+4), .imm TC (h+5)]
def ouV (h : Nat) : PV := .agg [.int .u8 h, .int .i64 (h+1), .int .i64 (h+2), .int .u64 (h+3), .int .u32 (h+4)]
def ouB (h : Nat) : PB := .cells [.int .u8 h, .int .i64 (h+1), .int .i64 (h+2), .int .u64 (h+3), .int .u32 (h+4)]
def stV (h : Nat) : PV := .agg [.int .u64 h, .int .u64 (h+1), .int .u64 (h+2), .arrd TB 64 (h+3), .int .u32 (h+4)]
def stB (h : Nat) : PB := .cells [.int .u64 h, .int .u64 (h+1), .int .u64 (h+2), .arrd TB 64 (h+3), .int .u32 (h+4)]
def loV (h : Nat) : PV := .agg [.int .i64 h, .int .i64 (h+1), .int .u64 (h+2), .int .u64 (h+3), .int .u64 (h+4), .arrd TB 64 (h+5), .int .u32 (h+6)]
def loB (h : Nat) : PB := .cells [.int .i64 h, .int .i64 (h+1), .int .u64 (h+2), .int .u64 (h+3), .int .u64 (h+4), .arrd TB 64 (h+5), .int .u32 (h+6)]
def liV (h : Nat) : PV := .agg [.int .u8 h, .int .u8 (h+1), .int .i64 (h+2), .int .i64 (h+3), .imm TB (h+4)]
def liB (h : Nat) : PB := .cells [.int .u8 h, .int .u8 (h+1), .int .i64 (h+2), .int .i64 (h+3), .imm TB (h+4)]
def lmV (h : Nat) : PV := .agg [.int .u8 h, .int .u8 (h+1), .int .i64 (h+2), .int .i64 (h+3), .str (h+4)]

def apC (l : List (Ty.den TC)) (x y : Int) : List (Ty.den TC) := List.append l [(x, y)]
def rdB (h : Nat) : PB := .cells [.imm TB h, .bool (h+1)]
def inO (h : Nat) (v : PV) : PV := .agg [.int .u8 h, .int .i64 (h+1), .int .u64 (h+2), .int .u32 (h+3), .int .u32 (h+4), v]
def inC (h : Nat) (v : PV) : PB := .cells [.int .u8 h, .int .i64 (h+1), .int .u64 (h+2), .int .u32 (h+3), .int .u32 (h+4), v]
def liO (h : Nat) (v : PV) : PV := .agg [.int .u8 h, .int .u8 (h+1), .int .i64 (h+2), .int .i64 (h+3), v]
def liC (h : Nat) (v : PV) : PB := .cells [.int .u8 h, .int .u8 (h+1), .int .i64 (h+2), .int .i64 (h+3), v]

theorem len0 : @List.length Int (@List.nil (Ty.den (.int .u8))) = 0 := rfl
attribute [local simp] isK fitsK dOf gn gb gs gl castL_self len0
noncomputable def st_L35a_1 (env : List Dat) : Tree Step := Lk.stepMC false LK cs_q13 100 1 ls0 (mkM 1 [0] [(sh 29 [(0, .ptr 0 0), (1, .int .u64 0), (2, .int .i64 1), (7, .int .i64 2), (8, .int .i64 3)], [wrN]), (sh 29 [(0, .ptr 0 0), (1, .int .u64 0), (2, .int .i64 1), (7, .int .i64 2), (8, .int .i64 3)], [wrO 1, .arr TB 4])] [] [(.exit 0, sh 29 [(0, .ptr 0 0)], [wrN]), (.exit 0, sh 29 [(0, .ptr 0 0)], [wrO 1, .arr TB 0])] fun _ => none) env
theorem op_L35a_1_ex : ExL st_L35a_1 := exL _
noncomputable def op_L35a_1 := Classical.choose op_L35a_1_ex
theorem op_L35a_1_eq (env : List Dat) : op_L35a_1 env = iterS st_L35a_1 FU env := Classical.choose_spec op_L35a_1_ex env
noncomputable def L35a_1 : MBox := mkM 1 [0] [(sh 29 [(0, .ptr 0 0), (1, .int .u64 0), (2, .int .i64 1), (7, .int .i64 2), (8, .int .i64 3)], [wrN]), (sh 29 [(0, .ptr 0 0), (1, .int .u64 0), (2, .int .i64 1), (7, .int .i64 2), (8, .int .i64 3)], [wrO 1, .arr TB 4])] [] [(.exit 0, sh 29 [(0, .ptr 0 0)], [wrN]), (.exit 0, sh 29 [(0, .ptr 0 0)], [wrO 1, .arr TB 0])] op_L35a_1
theorem L35a_1_eqs : L35a_1 = mkM 1 [0] [(sh 29 [(0, .ptr 0 0), (1, .int .u64 0), (2, .int .i64 1), (7, .int .i64 2), (8, .int .i64 3)], [wrN]), (sh 29 [(0, .ptr 0 0), (1, .int .u64 0), (2, .int .i64 1), (7, .int .i64 2), (8, .int .i64 3)], [wrO 1, .arr TB 4])] [] [(.exit 0, sh 29 [(0, .ptr 0 0)], [wrN]), (.exit 0, sh 29 [(0, .ptr 0 0)], [wrO 1, .arr TB 0])] (iterS st_L35a_1 FU) := congrArg (fun f => mkM 1 [0] [(sh 29 [(0, .ptr 0 0), (1, .int .u64 0), (2, .int .i64 1), (7, .int .i64 2), (8, .int .i64 3)], [wrN]), (sh 29 [(0, .ptr 0 0), (1, .int .u64 0), (2, .int .i64 1), (7, .int .i64 2), (8, .int .i64 3)], [wrO 1, .arr TB 4])] [] [(.exit 0, sh 29 [(0, .ptr 0 0)], [wrN]), (.exit 0, sh 29 [(0, .ptr 0 0)], [wrO 1, .arr TB 0])] f) (funext op_L35a_1_eq)
theorem L35a_1_run : ∀ t s x, (manyRun L35a_1 t s).sel = some x → CodeOk Try.prog 1 (.loop (cAt Try.prog 100 1)) t s x := by
  rw [L35a_1_eqs]
  exact mkM_ok (st := st_L35a_1) (m := FU) cs_q13_ok hmix false (LsOk.none _ _ _) (by kernel_rfl) (fun env y h => by rw [← stepMC_lk]; exact h)

noncomputable def fn_L35a_1_n : List Dat → Tree Step
 | [.n n0, .n n1, .n n2, .n n3] =>
 (.node (decide (n3 < n2))
 (.node (!decide (IntKind.wrap .i64 ((8 : Int) * IntKind.wrap .i64 (IntKind.wrap .i64 (n1 - (1 : Int)) - n3)) < (0 : Int)))
 (.leaf (Step.go [.k 1, .n n0, .n n1, .n n2, .n (IntKind.wrap .i64 (n3 + (1 : Int))), .l TB [IntKind.wrap .u8 (ishr IntKind.u64 n0 (IntKind.wrap .i64 ((8 : Int) * IntKind.wrap .i64 (IntKind.wrap .i64 (n1 - (1 : Int)) - n3))))]]))
 (.bad 83))
 (.leaf (Step.stop 0 [])))
 | _ => .bad 0
theorem fn_L35a_1_n_im (n0 : Int) (n1 : Int) (n2 : Int) (n3 : Int) : Imp (fn_L35a_1_n [.n n0, .n n1, .n n2, .n n3]) (st_L35a_1 [.k 0, .n n0, .n n1, .n n2, .n n3]) :=
(.pa [1]
(.nd (fun h0 =>
(.nd (fun h1 =>
(.pa [1,1,1]
.lf)) (fun h1 =>
.none))) (fun h0 =>
(.pa [1]
.lf))))

noncomputable def fn_L35a_1_o : List Dat → Tree Step
 | [.n n0, .n n1, .n n2, .n n3, .l (Ty.int IntKind.u8) l4] =>
 (.node (decide (n3 < n2))
 (.node (!decide (IntKind.wrap .i64 ((8 : Int) * IntKind.wrap .i64 (IntKind.wrap .i64 (n1 - (1 : Int)) - n3)) < (0 : Int)))
 (.node (decide ((List.length l4 + 1) * 1 ≤ 140737488355328))
 (.leaf (Step.go [.k 1, .n n0, .n n1, .n n2, .n (IntKind.wrap .i64 (n3 + (1 : Int))), .l TB (l4 ++ [IntKind.wrap .u8 (ishr IntKind.u64 n0 (IntKind.wrap .i64 ((8 : Int) * IntKind.wrap .i64 (IntKind.wrap .i64 (n1 - (1 : Int)) - n3))))])]))
 (.bad 62))
 (.bad 83))
 (.leaf (Step.stop 1 [.l TB l4])))
 | _ => .bad 0
theorem fn_L35a_1_o_im (n0 : Int) (n1 : Int) (n2 : Int) (n3 : Int) (l4 : List (Ty.den TB)) : Imp (fn_L35a_1_o [.n n0, .n n1, .n n2, .n n3, .l TB l4]) (st_L35a_1 [.k 1, .n n0, .n n1, .n n2, .n n3, .l TB l4]) :=
(.pa [1]
(.nd (fun h0 =>
(.nd (fun h1 =>
(.nd (fun h2 =>
(.pa [1,1]
.lf)) (fun h2 =>
.none))) (fun h1 =>
.none))) (fun h0 =>
(.pa [1]
.lf))))

theorem ls_35a_ok : LsOk Try.prog (List.length ([wrN] : List PB)) (lsM [(1, L35a_1)] (List.length ([wrN] : List PB))) (bodyOf Try.prog 100) := LsOk.many fun j B hB hk c hc hi => by
  simp only [lookM] at hB
  split at hB
  · rename_i e; have := Nat.eq_of_beq_eq_true e; subst this; cases hB
    have e1 : loopAt Try.prog 100 1 = [cAt Try.prog 100 1] := loopAt_one (by kernel_rfl)
    have e2 : c ∈ loopAt Try.prog 100 1 := loopsAt_mem hc hi
    rw [e1] at e2; cases List.mem_singleton.1 e2; exact L35a_1_run
  cases hB

noncomputable def ev_35a (env : List Dat) : Tree (Nat × List Dat) := Lk.boxC false LK cs_q13 100 (lsM [(1, L35a_1)] (List.length ([wrN] : List PB))) (mkF [.ptr 0 0, .int .u64 0, .int .i64 1] [wrN] [0] [(.tup [], [wrN]), (.tup [], [wrO 1, .arr TB 0])] fun _ => none) env
theorem op_35a_ex : ExB ev_35a := exB _
noncomputable def op_35a := Classical.choose op_35a_ex
theorem op_35a_eq (env : List Dat) : op_35a env = (ev_35a env).sel := Classical.choose_spec op_35a_ex env
noncomputable def B35a : FBox := mkF [.ptr 0 0, .int .u64 0, .int .i64 1] [wrN] [0] [(.tup [], [wrN]), (.tup [], [wrO 1, .arr TB 0])] op_35a
theorem B35a_ok : RunOk Try.prog 100 (boxRun B35a) := mkF_ok (op := op_35a) cs_q13_ok hmix false (ls_35a_ok) (fun env x h => by rw [op_35a_eq] at h; rw [← boxC_lk]; exact h)

noncomputable def fn_35a_t : List Dat → Tree (Nat × List Dat)
 | [.n n0, .n n1] =>
 (let r1 := (op_L35a_1 [.k 0, .n n0, .n n1, .n n1, .n (0 : Int)]);
 (.node (isK 0 [] r1)
 (.leaf ((0, [])))
 (.node (isK 1 [.l TB] r1)
 (.leaf ((1, [.l TB (gl TB (dOf r1) 0)])))
 (.bad 351))))
 | _ => .bad 0
theorem fn_35a_t_im (n0 : Int) (n1 : Int) : Imp (fn_35a_t [.n n0, .n n1]) (ev_35a [.n n0, .n n1]) :=
(.nd (fun h0 =>
(.pa [1]
.lf)) (fun h0 =>
(.nd (fun h1 =>
(.pa [1]
.lf)) (fun h1 =>
.none))))

noncomputable def st_L35b_1 (env : List Dat) : Tree Step := Lk.stepMC false LK cs_q13 100 1 ls0 (mkM 2 [0, 1] [(sh 29 [(0, .ptr 0 0), (1, .int .u64 0), (2, .int .i64 1), (7, .int .i64 2), (8, .int .i64 3)], [wrO 1, .arr TB 4])] [] [(.exit 0, sh 29 [(0, .ptr 0 0)], [wrO 1, .arr TB 0])] fun _ => none) env
theorem op_L35b_1_ex : ExL st_L35b_1 := exL _
noncomputable def op_L35b_1 := Classical.choose op_L35b_1_ex
theorem op_L35b_1_eq (env : List Dat) : op_L35b_1 env = iterS st_L35b_1 FU env := Classical.choose_spec op_L35b_1_ex env
noncomputable def L35b_1 : MBox := mkM 2 [0, 1] [(sh 29 [(0, .ptr 0 0), (1, .int .u64 0), (2, .int .i64 1), (7, .int .i64 2), (8, .int .i64 3)], [wrO 1, .arr TB 4])] [] [(.exit 0, sh 29 [(0, .ptr 0 0)], [wrO 1, .arr TB 0])] op_L35b_1
theorem L35b_1_eqs : L35b_1 = mkM 2 [0, 1] [(sh 29 [(0, .ptr 0 0), (1, .int .u64 0), (2, .int .i64 1), (7, .int .i64 2), (8, .int .i64 3)], [wrO 1, .arr TB 4])] [] [(.exit 0, sh 29 [(0, .ptr 0 0)], [wrO 1, .arr TB 0])] (iterS st_L35b_1 FU) := congrArg (fun f => mkM 2 [0, 1] [(sh 29 [(0, .ptr 0 0), (1, .int .u64 0), (2, .int .i64 1), (7, .int .i64 2), (8, .int .i64 3)], [wrO 1, .arr TB 4])] [] [(.exit 0, sh 29 [(0, .ptr 0 0)], [wrO 1, .arr TB 0])] f) (funext op_L35b_1_eq)
theorem L35b_1_run : ∀ t s x, (manyRun L35b_1 t s).sel = some x → CodeOk Try.prog 2 (.loop (cAt Try.prog 100 1)) t s x := by
  rw [L35b_1_eqs]
  exact mkM_ok (st := st_L35b_1) (m := FU) cs_q13_ok hmix false (LsOk.none _ _ _) (by kernel_rfl) (fun env y h => by rw [← stepMC_lk]; exact h)

noncomputable def fn_L35b_1_o : List Dat → Tree Step
 | [.n n0, .n n1, .n n2, .n n3, .l (Ty.int IntKind.u8) l4] =>
 (.node (decide (n3 < n2))
 (.node (!decide (IntKind.wrap .i64 ((8 : Int) * IntKind.wrap .i64 (IntKind.wrap .i64 (n1 - (1 : Int)) - n3)) < (0 : Int)))
 (.node (decide ((List.length l4 + 1) * 1 ≤ 140737488355328))
 (.leaf (Step.go [.k 0, .n n0, .n n1, .n n2, .n (IntKind.wrap .i64 (n3 + (1 : Int))), .l TB (l4 ++ [IntKind.wrap .u8 (ishr IntKind.u64 n0 (IntKind.wrap .i64 ((8 : Int) * IntKind.wrap .i64 (IntKind.wrap .i64 (n1 - (1 : Int)) - n3))))])]))
 (.bad 62))
 (.bad 83))
 (.leaf (Step.stop 0 [.l TB l4])))
 | _ => .bad 0
theorem fn_L35b_1_o_im (n0 : Int) (n1 : Int) (n2 : Int) (n3 : Int) (l4 : List (Ty.den TB)) : Imp (fn_L35b_1_o [.n n0, .n n1, .n n2, .n n3, .l TB l4]) (st_L35b_1 [.k 0, .n n0, .n n1, .n n2, .n n3, .l TB l4]) :=
(.pa [1]
(.nd (fun h0 =>
(.nd (fun h1 =>
(.nd (fun h2 =>
(.pa [1,1]
.lf)) (fun h2 =>
.none))) (fun h1 =>
.none))) (fun h0 =>
(.pa [1]
.lf))))

theorem ls_35b_ok : LsOk Try.prog (List.length ([wrO 1, .arr TB 2] : List PB)) (lsM [(1, L35b_1)] (List.length ([wrO 1, .arr TB 2] : List PB))) (bodyOf Try.prog 100) := LsOk.many fun j B hB hk c hc hi => by
  simp only [lookM] at hB
  split at hB
  · rename_i e; have := Nat.eq_of_beq_eq_true e; subst this; cases hB
    have e1 : loopAt Try.prog 100 1 = [cAt Try.prog 100 1] := loopAt_one (by kernel_rfl)
    have e2 : c ∈ loopAt Try.prog 100 1 := loopsAt_mem hc hi
    rw [e1] at e2; cases List.mem_singleton.1 e2; exact L35b_1_run
  cases hB

noncomputable def ev_35b (env : List Dat) : Tree (Nat × List Dat) := Lk.boxC false LK cs_q13 100 (lsM [(1, L35b_1)] (List.length ([wrO 1, .arr TB 2] : List PB))) (mkF [.ptr 0 0, .int .u64 0, .int .i64 1] [wrO 1, .arr TB 2] [0, 1] [(.tup [], [wrO 1, .arr TB 0])] fun _ => none) env
theorem op_35b_ex : ExB ev_35b := exB _
noncomputable def op_35b := Classical.choose op_35b_ex
theorem op_35b_eq (env : List Dat) : op_35b env = (ev_35b env).sel := Classical.choose_spec op_35b_ex env
noncomputable def B35b : FBox := mkF [.ptr 0 0, .int .u64 0, .int .i64 1] [wrO 1, .arr TB 2] [0, 1] [(.tup [], [wrO 1, .arr TB 0])] op_35b
theorem B35b_ok : RunOk Try.prog 100 (boxRun B35b) := mkF_ok (op := op_35b) cs_q13_ok hmix false (ls_35b_ok) (fun env x h => by rw [op_35b_eq] at h; rw [← boxC_lk]; exact h)

noncomputable def fn_35b_t : List Dat → Tree (Nat × List Dat)
 | [.n n0, .n n1, .l (Ty.int IntKind.u8) l2] =>
 (let r1 := (op_L35b_1 [.k 0, .n n0, .n n1, .n n1, .n (0 : Int), .l TB l2]);
 (.node (isK 0 [.l TB] r1)
 (.leaf ((0, [.l TB (gl TB (dOf r1) 0)])))
 (.bad 351)))
 | _ => .bad 0
theorem fn_35b_t_im (n0 : Int) (n1 : Int) (l2 : List (Ty.den TB)) : Imp (fn_35b_t [.n n0, .n n1, .l TB l2]) (ev_35b [.n n0, .n n1, .l TB l2]) :=
(.nd (fun h0 =>
(.pa [1]
.lf)) (fun h0 =>
.none))

noncomputable def cs_35b : FuncId → Option CSpec := csAdd 100 [B35a, B35b] cs_q13
theorem cs_35b_ok : CsOk Try.prog cs_35b := csAdd_ok cs_q13_ok fun B hB => by
  simp only [List.mem_cons, List.not_mem_nil, or_false] at hB
  rcases hB with rfl | rfl
  · exact B35a_ok
  · exact B35b_ok

noncomputable def st_L80_2 (env : List Dat) : Tree Step := Lk.stepMC false LK cs_35b 80 2 ls0 (mkM 0 [] [(sh 21 [(0, .int .i64 0), (7, .imm TI 1), (8, .int .i64 2), (9, .int .i64 3)], [])] [] [(.exit 0, sh 21 [], []), (.ret, sh 21 [(4, .bool 0)], [])] fun _ => none) env
theorem op_L80_2_ex : ExL st_L80_2 := exL _
noncomputable def op_L80_2 := Classical.choose op_L80_2_ex
theorem op_L80_2_eq (env : List Dat) : op_L80_2 env = iterS st_L80_2 FU env := Classical.choose_spec op_L80_2_ex env
noncomputable def L80_2 : MBox := mkM 0 [] [(sh 21 [(0, .int .i64 0), (7, .imm TI 1), (8, .int .i64 2), (9, .int .i64 3)], [])] [] [(.exit 0, sh 21 [], []), (.ret, sh 21 [(4, .bool 0)], [])] op_L80_2
theorem L80_2_eqs : L80_2 = mkM 0 [] [(sh 21 [(0, .int .i64 0), (7, .imm TI 1), (8, .int .i64 2), (9, .int .i64 3)], [])] [] [(.exit 0, sh 21 [], []), (.ret, sh 21 [(4, .bool 0)], [])] (iterS st_L80_2 FU) := congrArg (fun f => mkM 0 [] [(sh 21 [(0, .int .i64 0), (7, .imm TI 1), (8, .int .i64 2), (9, .int .i64 3)], [])] [] [(.exit 0, sh 21 [], []), (.ret, sh 21 [(4, .bool 0)], [])] f) (funext op_L80_2_eq)
theorem L80_2_run : ∀ t s x, (manyRun L80_2 t s).sel = some x → CodeOk Try.prog 0 (.loop (cAt Try.prog 80 2)) t s x := by
  rw [L80_2_eqs]
  exact mkM_ok (st := st_L80_2) (m := FU) cs_35b_ok hmix false (LsOk.none _ _ _) (by kernel_rfl) (fun env y h => by rw [← stepMC_lk]; exact h)

noncomputable def fn_L80_2_t : List Dat → Tree Step
 | [.n n0, .l (Ty.int IntKind.i64) l1, .n n2, .n n3] =>
 (.node (decide (n3 < n2))
 (.node (decide ((List.getD l1 (Int.toNat n3) (0 : Int) : Int) < (0 : Int)))
 (.leaf (Step.stop 1 [.b false]))
 (.node (decide ((List.getD l1 (Int.toNat n3) (0 : Int) : Int) > n0))
 (.leaf (Step.stop 1 [.b false]))
 (.leaf (Step.go [.k 0, .n n0, .l TI l1, .n n2, .n (IntKind.wrap .i64 (n3 + (1 : Int)))]))))
 (.leaf (Step.stop 0 [])))
 | _ => .bad 0
theorem fn_L80_2_t_im (n0 : Int) (l1 : List (Ty.den TI)) (n2 : Int) (n3 : Int) (g0 : 0 ≤ n3) (g1 :  n2 = (l1.length : Int)) : Imp (fn_L80_2_t [.n n0, .l TI l1, .n n2, .n n3]) (st_L80_2 [.k 0, .n n0, .l TI l1, .n n2, .n n3]) :=
(.pa [1]
(.nd (fun h0 =>
(.pt (c := (inR n3 (List.length l1))) (by kernel_rfl) (by kernel_rfl) (by (simp only [w64d, decide_eq_true_eq, decide_eq_false_iff_not, beq_iff_eq, beq_eq_false_iff_ne, bne_iff_ne, ne_eq, inR, Bool.and_eq_true, Bool.and_eq_false_iff, Bool.not_eq_true', Bool.not_eq_false', Bool.not_eq_eq_eq_not, Bool.not_true, Bool.not_false] at *; omega))
(.nd (fun h1 =>
(.pa [1,1,1]
.lf)) (fun h1 =>
(.nd (fun h2 =>
(.pa [1]
.lf)) (fun h2 =>
(.pa [1]
.lf))))))) (fun h0 =>
(.pa [1]
.lf))))

theorem ls_80_ok : LsOk Try.prog (List.length ([] : List PB)) (lsM [(2, L80_2)] (List.length ([] : List PB))) (bodyOf Try.prog 80) := LsOk.many fun j B hB hk c hc hi => by
  simp only [lookM] at hB
  split at hB
  · rename_i e; have := Nat.eq_of_beq_eq_true e; subst this; cases hB
    have e1 : loopAt Try.prog 80 2 = [cAt Try.prog 80 2] := loopAt_one (by kernel_rfl)
    have e2 : c ∈ loopAt Try.prog 80 2 := loopsAt_mem hc hi
    rw [e1] at e2; cases List.mem_singleton.1 e2; exact L80_2_run
  cases hB

noncomputable def ev_80 (env : List Dat) : Tree (Nat × List Dat) := Lk.boxC false LK cs_35b 80 (lsM [(2, L80_2)] (List.length ([] : List PB))) (mkF [.int .i64 0, .imm TI 1] [] [] [(.bool 0, [])] fun _ => none) env
theorem op_80_ex : ExB ev_80 := exB _
noncomputable def op_80 := Classical.choose op_80_ex
theorem op_80_eq (env : List Dat) : op_80 env = (ev_80 env).sel := Classical.choose_spec op_80_ex env
noncomputable def B80 : FBox := mkF [.int .i64 0, .imm TI 1] [] [] [(.bool 0, [])] op_80
theorem B80_ok : RunOk Try.prog 80 (boxRun B80) := mkF_ok (op := op_80) cs_35b_ok hmix false (ls_80_ok) (fun env x h => by rw [op_80_eq] at h; rw [← boxC_lk]; exact h)

noncomputable def fn_80_t : List Dat → Tree (Nat × List Dat)
 | [.n n0, .l (Ty.int IntKind.i64) l1] =>
 (let r1 := (op_L80_2 [.k 0, .n n0, .l TI l1, .n (↑(List.length l1) : Int), .n (0 : Int)]);
 (.node (isK 0 [] r1)
 (.leaf ((0, [.b true])))
 (.node (isK 1 [.b] r1)
 (.leaf ((0, [.b (gb (dOf r1) 0)])))
 (.bad 351))))
 | _ => .bad 0
theorem fn_80_t_im (n0 : Int) (l1 : List (Ty.den TI)) : Imp (fn_80_t [.n n0, .l TI l1]) (ev_80 [.n n0, .l TI l1]) :=
(.nd (fun h0 =>
(.pa [1]
.lf)) (fun h0 =>
(.nd (fun h1 =>
(.pa [1]
.lf)) (fun h1 =>
.none))))

noncomputable def cs_80 : FuncId → Option CSpec := csLend 80 B80 cs_35b
theorem cs_80_ok : CsOk Try.prog cs_80 := csLend_ok cs_35b_ok B80_ok

noncomputable def st_L88_1 (env : List Dat) : Tree Step := Lk.stepMC false LK cs_80 88 1 ls0 (mkM 3 [0, 1, 2] [(sh 16 [(0, .ptr 0 0), (6, .own 1), (7, .int .i64 0), (8, .int .i64 1)], [wrO 2, .arr TL 2, .arr TB 3])] [] [(.exit 0, sh 16 [(0, .ptr 0 0)], [wrO 2, .gone, .arr TB 0])] fun _ => none) env
theorem op_L88_1_ex : ExL st_L88_1 := exL _
noncomputable def op_L88_1 := Classical.choose op_L88_1_ex
theorem op_L88_1_eq (env : List Dat) : op_L88_1 env = iterS st_L88_1 FU env := Classical.choose_spec op_L88_1_ex env
noncomputable def L88_1 : MBox := mkM 3 [0, 1, 2] [(sh 16 [(0, .ptr 0 0), (6, .own 1), (7, .int .i64 0), (8, .int .i64 1)], [wrO 2, .arr TL 2, .arr TB 3])] [] [(.exit 0, sh 16 [(0, .ptr 0 0)], [wrO 2, .gone, .arr TB 0])] op_L88_1
theorem L88_1_eqs : L88_1 = mkM 3 [0, 1, 2] [(sh 16 [(0, .ptr 0 0), (6, .own 1), (7, .int .i64 0), (8, .int .i64 1)], [wrO 2, .arr TL 2, .arr TB 3])] [] [(.exit 0, sh 16 [(0, .ptr 0 0)], [wrO 2, .gone, .arr TB 0])] (iterS st_L88_1 FU) := congrArg (fun f => mkM 3 [0, 1, 2] [(sh 16 [(0, .ptr 0 0), (6, .own 1), (7, .int .i64 0), (8, .int .i64 1)], [wrO 2, .arr TL 2, .arr TB 3])] [] [(.exit 0, sh 16 [(0, .ptr 0 0)], [wrO 2, .gone, .arr TB 0])] f) (funext op_L88_1_eq)
theorem L88_1_run : ∀ t s x, (manyRun L88_1 t s).sel = some x → CodeOk Try.prog 3 (.loop (cAt Try.prog 88 1)) t s x := by
  rw [L88_1_eqs]
  exact mkM_ok (st := st_L88_1) (m := FU) cs_80_ok hmix false (LsOk.none _ _ _) (by kernel_rfl) (fun env y h => by rw [← stepMC_lk]; exact h)

noncomputable def fn_L88_1_t : List Dat → Tree Step
 | [.n n0, .n n1, .l (Ty.int IntKind.u64) l2, .l (Ty.int IntKind.u8) l3] =>
 (.node (decide (n1 < n0))
 (let r1 := (op_35b [.n (List.getD l2 (Int.toNat n1) (0 : Int)), .n (8 : Int), .l TB l3]);
 (.node (isK 0 [.l TB] r1)
 (.leaf (Step.go [.k 0, .n n0, .n (IntKind.wrap .i64 (n1 + (1 : Int))), .l TL l2, .l TB (gl TB (dOf r1) 0)]))
 (.bad 351)))
 (.leaf (Step.stop 0 [.l TB l3])))
 | _ => .bad 0
theorem fn_L88_1_t_im (n0 : Int) (n1 : Int) (l2 : List (Ty.den TL)) (l3 : List (Ty.den TB)) (g0 : 0 ≤ n1) (g1 :  n0 = (l2.length : Int)) : Imp (fn_L88_1_t [.n n0, .n n1, .l TL l2, .l TB l3]) (st_L88_1 [.k 0, .n n0, .n n1, .l TL l2, .l TB l3]) :=
(.pa [1]
(.nd (fun h0 =>
(.pt (c := (inR n1 (List.length l2))) (by kernel_rfl) (by kernel_rfl) (by (simp only [w64d, decide_eq_true_eq, decide_eq_false_iff_not, beq_iff_eq, beq_eq_false_iff_ne, bne_iff_ne, ne_eq, inR, Bool.and_eq_true, Bool.and_eq_false_iff, Bool.not_eq_true', Bool.not_eq_false', Bool.not_eq_eq_eq_not, Bool.not_true, Bool.not_false] at *; omega))
(.pa [1,1,0,0,0,0,1,1]
(.nd (fun h1 =>
(.pa [1,0,1,1,1]
.lf)) (fun h1 =>
.none))))) (fun h0 =>
(.pa [1]
.lf))))

theorem ls_88_ok : LsOk Try.prog (List.length ([wrO 2, .arr TL 0, .arr TB 1] : List PB)) (lsM [(1, L88_1)] (List.length ([wrO 2, .arr TL 0, .arr TB 1] : List PB))) (bodyOf Try.prog 88) := LsOk.many fun j B hB hk c hc hi => by
  simp only [lookM] at hB
  split at hB
  · rename_i e; have := Nat.eq_of_beq_eq_true e; subst this; cases hB
    have e1 : loopAt Try.prog 88 1 = [cAt Try.prog 88 1] := loopAt_one (by kernel_rfl)
    have e2 : c ∈ loopAt Try.prog 88 1 := loopsAt_mem hc hi
    rw [e1] at e2; cases List.mem_singleton.1 e2; exact L88_1_run
  cases hB

noncomputable def ev_88 (env : List Dat) : Tree (Nat × List Dat) := Lk.boxC false LK cs_80 88 (lsM [(1, L88_1)] (List.length ([wrO 2, .arr TL 0, .arr TB 1] : List PB))) (mkF [.ptr 0 0, .own 1] [wrO 2, .arr TL 0, .arr TB 1] [0, 1, 2] [(.tup [], [wrO 2, .gone, .arr TB 0])] fun _ => none) env
theorem op_88_ex : ExB ev_88 := exB _
noncomputable def op_88 := Classical.choose op_88_ex
theorem op_88_eq (env : List Dat) : op_88 env = (ev_88 env).sel := Classical.choose_spec op_88_ex env
noncomputable def B88 : FBox := mkF [.ptr 0 0, .own 1] [wrO 2, .arr TL 0, .arr TB 1] [0, 1, 2] [(.tup [], [wrO 2, .gone, .arr TB 0])] op_88
theorem B88_ok : RunOk Try.prog 88 (boxRun B88) := mkF_ok (op := op_88) cs_80_ok hmix false (ls_88_ok) (fun env x h => by rw [op_88_eq] at h; rw [← boxC_lk]; exact h)

noncomputable def fn_88_t : List Dat → Tree (Nat × List Dat)
 | [.l (Ty.int IntKind.u64) l0, .l (Ty.int IntKind.u8) l1] =>
 (let r1 := (op_L88_1 [.k 0, .n (↑(List.length l0) : Int), .n (0 : Int), .l TL l0, .l TB l1]);
 (.node (isK 0 [.l TB] r1)
 (.leaf ((0, [.l TB (gl TB (dOf r1) 0)])))
 (.bad 351)))
 | _ => .bad 0
theorem fn_88_t_im (l0 : List (Ty.den TL)) (l1 : List (Ty.den TB)) : Imp (fn_88_t [.l TL l0, .l TB l1]) (ev_88 [.l TL l0, .l TB l1]) :=
(.nd (fun h0 =>
(.pa [1]
.lf)) (fun h0 =>
.none))

noncomputable def cs_88 : FuncId → Option CSpec := csAdd 88 [B88] cs_80
theorem cs_88_ok : CsOk Try.prog cs_88 := csAdd_ok cs_80_ok fun B hB => by
  cases List.mem_singleton.1 hB
  exact B88_ok

noncomputable def st_L46_2 (env : List Dat) : Tree Step := Lk.stepMC false LK cs_88 46 2 ls0 (mkM 0 [] [(sh 40 [(1, .ptr 0 0), (7, .imm TC 0), (8, .int .i64 1), (9, .int .i64 2)], [inB 3])] [] [(.exit 0, sh 40 [(1, .ptr 0 0)], [inB 0]), (.ret, sh 40 [(2, .bool 0)], [])] fun _ => none) env
theorem op_L46_2_ex : ExL st_L46_2 := exL _
noncomputable def op_L46_2 := Classical.choose op_L46_2_ex
theorem op_L46_2_eq (env : List Dat) : op_L46_2 env = iterS st_L46_2 FU env := Classical.choose_spec op_L46_2_ex env
noncomputable def L46_2 : MBox := mkM 0 [] [(sh 40 [(1, .ptr 0 0), (7, .imm TC 0), (8, .int .i64 1), (9, .int .i64 2)], [inB 3])] [] [(.exit 0, sh 40 [(1, .ptr 0 0)], [inB 0]), (.ret, sh 40 [(2, .bool 0)], [])] op_L46_2
theorem L46_2_eqs : L46_2 = mkM 0 [] [(sh 40 [(1, .ptr 0 0), (7, .imm TC 0), (8, .int .i64 1), (9, .int .i64 2)], [inB 3])] [] [(.exit 0, sh 40 [(1, .ptr 0 0)], [inB 0]), (.ret, sh 40 [(2, .bool 0)], [])] (iterS st_L46_2 FU) := congrArg (fun f => mkM 0 [] [(sh 40 [(1, .ptr 0 0), (7, .imm TC 0), (8, .int .i64 1), (9, .int .i64 2)], [inB 3])] [] [(.exit 0, sh 40 [(1, .ptr 0 0)], [inB 0]), (.ret, sh 40 [(2, .bool 0)], [])] f) (funext op_L46_2_eq)
theorem L46_2_run : ∀ t s x, (manyRun L46_2 t s).sel = some x → CodeOk Try.prog 0 (.loop (cAt Try.prog 46 2)) t s x := by
  rw [L46_2_eqs]
  exact mkM_ok (st := st_L46_2) (m := FU) cs_88_ok hmix false (LsOk.none _ _ _) (by kernel_rfl) (fun env y h => by rw [← stepMC_lk]; exact h)

noncomputable def fn_L46_2_t : List Dat → Tree Step
 | [.l (Ty.pair (Ty.int IntKind.u8) (Ty.int IntKind.i64)) l0, .n n1, .n n2, .n n3, .n n4, .n n5, .n n6, .n n7, .l (Ty.pair (Ty.int IntKind.u8) (Ty.int IntKind.i64)) l8] =>
 (.node (decide (n2 < n1))
 (.node (decide ((Prod.fst (List.getD l0 (Int.toNat n2) (Ty.dflt TC)) : Int) < (1 : Int)))
 (.leaf (Step.stop 1 [.b false]))
 (.node (decide ((Prod.fst (List.getD l0 (Int.toNat n2) (Ty.dflt TC)) : Int) > (3 : Int)))
 (.leaf (Step.stop 1 [.b false]))
 (let r1 := (op_80 [.n (63 : Int), .l TI [Prod.snd (List.getD l0 (Int.toNat n2) (Ty.dflt TC))]]);
 (.node (isK 0 [.b] r1)
 (.node (!gb (dOf r1) 0)
 (.leaf (Step.stop 1 [.b false]))
 (.leaf (Step.go [.k 0, .l TC l0, .n n1, .n (IntKind.wrap .i64 (n2 + (1 : Int))), .n n3, .n n4, .n n5, .n n6, .n n7, .l TC l0])))
 (.bad 351)))))
 (.leaf (Step.stop 0 [.n n3, .n n4, .n n5, .n n6, .n n7, .l TC l0])))
 | _ => .bad 0
theorem fn_L46_2_t_im (l0 : List (Ty.den TC)) (n1 : Int) (n2 : Int) (n3 : Int) (n4 : Int) (n5 : Int) (n6 : Int) (n7 : Int) (l8 : List (Ty.den TC)) (g0 : 0 ≤ n2) (g1 :  n1 = (l0.length : Int)) : Imp (fn_L46_2_t [.l TC l0, .n n1, .n n2, .n n3, .n n4, .n n5, .n n6, .n n7, .l TC l8]) (st_L46_2 [.k 0, .l TC l0, .n n1, .n n2, .n n3, .n n4, .n n5, .n n6, .n n7, .l TC l0]) :=
(.pa [1]
(.nd (fun h0 =>
(.pt (c := (inR n2 (List.length l0))) (by kernel_rfl) (by kernel_rfl) (by (simp only [w64d, decide_eq_true_eq, decide_eq_false_iff_not, beq_iff_eq, beq_eq_false_iff_ne, bne_iff_ne, ne_eq, inR, Bool.and_eq_true, Bool.and_eq_false_iff, Bool.not_eq_true', Bool.not_eq_false', Bool.not_eq_eq_eq_not, Bool.not_true, Bool.not_false] at *; omega))
(.nd (fun h1 =>
(.pa [1,1,1,1,1]
.lf)) (fun h1 =>
(.nd (fun h2 =>
(.pa [1,1,1]
.lf)) (fun h2 =>
(.nd (fun h3 =>
(.pa [1]
(.nd (fun h4 =>
(.pa [1]
.lf)) (fun h4 =>
(.pa [1]
.lf))))) (fun h3 =>
.none)))))))) (fun h0 =>
(.pa [1]
.lf))))

theorem ls_46_ok : LsOk Try.prog (List.length ([] : List PB)) (lsM [(2, L46_2)] (List.length ([] : List PB))) (bodyOf Try.prog 46) := LsOk.many fun j B hB hk c hc hi => by
  simp only [lookM] at hB
  split at hB
  · rename_i e; have := Nat.eq_of_beq_eq_true e; subst this; cases hB
    have e1 : loopAt Try.prog 46 2 = [cAt Try.prog 46 2] := loopAt_one (by kernel_rfl)
    have e2 : c ∈ loopAt Try.prog 46 2 := loopsAt_mem hc hi
    rw [e1] at e2; cases List.mem_singleton.1 e2; exact L46_2_run
  cases hB

noncomputable def ev_46 (env : List Dat) : Tree (Nat × List Dat) := Lk.boxC false LK cs_88 46 (lsM [(2, L46_2)] (List.length ([] : List PB))) (mkF [inV 0] [] [] [(.bool 0, [])] fun _ => none) env
theorem op_46_ex : ExB ev_46 := exB _
noncomputable def op_46 := Classical.choose op_46_ex
theorem op_46_eq (env : List Dat) : op_46 env = (ev_46 env).sel := Classical.choose_spec op_46_ex env
noncomputable def B46 : FBox := mkF [inV 0] [] [] [(.bool 0, [])] op_46
theorem B46_ok : RunOk Try.prog 46 (boxRun B46) := mkF_ok (op := op_46) cs_88_ok hmix false (ls_46_ok) (fun env x h => by rw [op_46_eq] at h; rw [← boxC_lk]; exact h)

noncomputable def fn_46_t : List Dat → Tree (Nat × List Dat)
 | [.n n0, .n n1, .n n2, .n n3, .n n4, .l (Ty.pair (Ty.int IntKind.u8) (Ty.int IntKind.i64)) l5] =>
 (let r1 := (op_L46_2 [.k 0, .l TC l5, .n (↑(List.length l5) : Int), .n (0 : Int), .n n0, .n n1, .n n2, .n n3, .n n4, .l TC l5]);
 (.node (isK 0 [.n, .n, .n, .n, .n, .l TC] r1)
 (let r2 := (op_80 [.n (1099511627776 : Int), .l TI [gn (dOf r1) 1]]);
 (.node (isK 0 [.b] r2)
 (.node (gb (dOf r2) 0)
 (.leaf ((0, [.b (decide ((↑(List.length (gl TC (dOf r1) 5)) : Int) ≤ (8 : Int)))])))
 (.leaf ((0, [.b false]))))
 (.bad 351)))
 (.node (isK 1 [.b] r1)
 (.leaf ((0, [.b (gb (dOf r1) 0)])))
 (.bad 351))))
 | _ => .bad 0
theorem fn_46_t_im (n0 : Int) (n1 : Int) (n2 : Int) (n3 : Int) (n4 : Int) (l5 : List (Ty.den TC)) : Imp (fn_46_t [.n n0, .n n1, .n n2, .n n3, .n n4, .l TC l5]) (ev_46 [.n n0, .n n1, .n n2, .n n3, .n n4, .l TC l5]) :=
(.nd (fun h0 =>
(.nd (fun h1 =>
(.pa [1]
(.nd (fun h2 =>
(.pa [1]
.lf)) (fun h2 =>
(.pa [0,1]
.lf))))) (fun h1 =>
.none))) (fun h0 =>
(.nd (fun h1 =>
(.pa [1]
.lf)) (fun h1 =>
.none))))

noncomputable def cs_46 : FuncId → Option CSpec := csLend 46 B46 cs_88
theorem cs_46_ok : CsOk Try.prog cs_46 := csLend_ok cs_88_ok B46_ok

noncomputable def st_L63_7 (env : List Dat) : Tree Step := Lk.stepMC false LK cs_46 63 7 ls0 (mkM 2 [0, 1] [(sh 54 [(0, .ptr 0 0), (38, .imm TC 0), (39, .int .i64 1), (40, .int .i64 2)], [wrO 1, .arr TB 3])] [] [(.exit 0, sh 54 [(0, .ptr 0 0)], [wrO 1, .arr TB 0])] fun _ => none) env
theorem op_L63_7_ex : ExL st_L63_7 := exL _
noncomputable def op_L63_7 := Classical.choose op_L63_7_ex
theorem op_L63_7_eq (env : List Dat) : op_L63_7 env = iterS st_L63_7 FU env := Classical.choose_spec op_L63_7_ex env
noncomputable def L63_7 : MBox := mkM 2 [0, 1] [(sh 54 [(0, .ptr 0 0), (38, .imm TC 0), (39, .int .i64 1), (40, .int .i64 2)], [wrO 1, .arr TB 3])] [] [(.exit 0, sh 54 [(0, .ptr 0 0)], [wrO 1, .arr TB 0])] op_L63_7
theorem L63_7_eqs : L63_7 = mkM 2 [0, 1] [(sh 54 [(0, .ptr 0 0), (38, .imm TC 0), (39, .int .i64 1), (40, .int .i64 2)], [wrO 1, .arr TB 3])] [] [(.exit 0, sh 54 [(0, .ptr 0 0)], [wrO 1, .arr TB 0])] (iterS st_L63_7 FU) := congrArg (fun f => mkM 2 [0, 1] [(sh 54 [(0, .ptr 0 0), (38, .imm TC 0), (39, .int .i64 1), (40, .int .i64 2)], [wrO 1, .arr TB 3])] [] [(.exit 0, sh 54 [(0, .ptr 0 0)], [wrO 1, .arr TB 0])] f) (funext op_L63_7_eq)
theorem L63_7_run : ∀ t s x, (manyRun L63_7 t s).sel = some x → CodeOk Try.prog 2 (.loop (cAt Try.prog 63 7)) t s x := by
  rw [L63_7_eqs]
  exact mkM_ok (st := st_L63_7) (m := FU) cs_46_ok hmix false (LsOk.none _ _ _) (by kernel_rfl) (fun env y h => by rw [← stepMC_lk]; exact h)

noncomputable def fn_L63_7_t : List Dat → Tree Step
 | [.l (Ty.pair (Ty.int IntKind.u8) (Ty.int IntKind.i64)) l0, .n n1, .n n2, .l (Ty.int IntKind.u8) l3] =>
 (.node (decide (n2 < n1))
 (let r1 := (op_35b [.n (IntKind.wrap .u64 (Prod.fst (List.getD l0 (Int.toNat n2) (Ty.dflt TC)))), .n (1 : Int), .l TB l3]);
 (.node (isK 0 [.l TB] r1)
 (let r2 := (op_35b [.n (IntKind.wrap .u64 (IntKind.wrap .u8 (Prod.snd (List.getD l0 (Int.toNat n2) (Ty.dflt TC))))), .n (1 : Int), .l TB (gl TB (dOf r1) 0)]);
 (.node (isK 0 [.l TB] r2)
 (.leaf (Step.go [.k 0, .l TC l0, .n n1, .n (IntKind.wrap .i64 (n2 + (1 : Int))), .l TB (gl TB (dOf r2) 0)]))
 (.bad 351)))
 (.bad 351)))
 (.leaf (Step.stop 0 [.l TB l3])))
 | _ => .bad 0
theorem fn_L63_7_t_im (l0 : List (Ty.den TC)) (n1 : Int) (n2 : Int) (l3 : List (Ty.den TB)) (g0 : 0 ≤ n2) (g1 :  n1 = (l0.length : Int)) : Imp (fn_L63_7_t [.l TC l0, .n n1, .n n2, .l TB l3]) (st_L63_7 [.k 0, .l TC l0, .n n1, .n n2, .l TB l3]) :=
(.pa [1]
(.nd (fun h0 =>
(.pt (c := (inR n2 (List.length l0))) (by kernel_rfl) (by kernel_rfl) (by (simp only [w64d, decide_eq_true_eq, decide_eq_false_iff_not, beq_iff_eq, beq_eq_false_iff_ne, bne_iff_ne, ne_eq, inR, Bool.and_eq_true, Bool.and_eq_false_iff, Bool.not_eq_true', Bool.not_eq_false', Bool.not_eq_eq_eq_not, Bool.not_true, Bool.not_false] at *; omega))
(.pa [1,1,0,1,1]
(.nd (fun h1 =>
(.pa [1,0,0,0,0,1,1,1,1,0,1,1]
(.nd (fun h2 =>
(.pa [1,0,0,0,0,1,1,1]
.lf)) (fun h2 =>
.none)))) (fun h1 =>
.none))))) (fun h0 =>
(.pa [1]
.lf))))

theorem ls_63_ok : LsOk Try.prog (List.length ([wrO 1, .arr TB 6] : List PB)) (lsM [(7, L63_7)] (List.length ([wrO 1, .arr TB 6] : List PB))) (bodyOf Try.prog 63) := LsOk.many fun j B hB hk c hc hi => by
  simp only [lookM] at hB
  split at hB
  · rename_i e; have := Nat.eq_of_beq_eq_true e; subst this; cases hB
    have e1 : loopAt Try.prog 63 7 = [cAt Try.prog 63 7] := loopAt_one (by kernel_rfl)
    have e2 : c ∈ loopAt Try.prog 63 7 := loopsAt_mem hc hi
    rw [e1] at e2; cases List.mem_singleton.1 e2; exact L63_7_run
  cases hB

noncomputable def ev_63 (env : List Dat) : Tree (Nat × List Dat) := Lk.boxC false LK cs_46 63 (lsM [(7, L63_7)] (List.length ([wrO 1, .arr TB 6] : List PB))) (mkF [.ptr 0 0, inV 0] [wrO 1, .arr TB 6] [0, 1] [(.tup [], [wrO 1, .arr TB 0])] fun _ => none) env
theorem op_63_ex : ExB ev_63 := exB _
noncomputable def op_63 := Classical.choose op_63_ex
theorem op_63_eq (env : List Dat) : op_63 env = (ev_63 env).sel := Classical.choose_spec op_63_ex env
noncomputable def B63 : FBox := mkF [.ptr 0 0, inV 0] [wrO 1, .arr TB 6] [0, 1] [(.tup [], [wrO 1, .arr TB 0])] op_63
theorem B63_ok : RunOk Try.prog 63 (boxRun B63) := mkF_ok (op := op_63) cs_46_ok hmix false (ls_63_ok) (fun env x h => by rw [op_63_eq] at h; rw [← boxC_lk]; exact h)

noncomputable def fn_63_t : List Dat → Tree (Nat × List Dat)
 | [.n n0, .n n1, .n n2, .n n3, .n n4, .l (Ty.pair (Ty.int IntKind.u8) (Ty.int IntKind.i64)) l5, .l (Ty.int IntKind.u8) l6] =>
 (let r1 := (op_35b [.n (IntKind.wrap .u64 n0), .n (1 : Int), .l TB l6]);
 (.node (isK 0 [.l TB] r1)
 (let r2 := (op_88 [.l TL [IntKind.wrap .u64 n1, n2], .l TB (gl TB (dOf r1) 0)]);
 (.node (isK 0 [.l TB] r2)
 (let r3 := (op_35b [.n (IntKind.wrap .u64 n3), .n (4 : Int), .l TB (gl TB (dOf r2) 0)]);
 (.node (isK 0 [.l TB] r3)
 (let r4 := (op_35b [.n (IntKind.wrap .u64 n4), .n (4 : Int), .l TB (gl TB (dOf r3) 0)]);
 (.node (isK 0 [.l TB] r4)
 (let r5 := (op_35b [.n (IntKind.wrap .u64 (IntKind.wrap .u8 (↑(List.length l5) : Int))), .n (1 : Int), .l TB (gl TB (dOf r4) 0)]);
 (.node (isK 0 [.l TB] r5)
 (let r6 := (op_L63_7 [.k 0, .l TC l5, .n (↑(List.length l5) : Int), .n (0 : Int), .l TB (gl TB (dOf r5) 0)]);
 (.node (isK 0 [.l TB] r6)
 (.leaf ((0, [.l TB (gl TB (dOf r6) 0)])))
 (.bad 351)))
 (.bad 351)))
 (.bad 351)))
 (.bad 351)))
 (.bad 351)))
 (.bad 351)))
 | _ => .bad 0
theorem fn_63_t_im (n0 : Int) (n1 : Int) (n2 : Int) (n3 : Int) (n4 : Int) (l5 : List (Ty.den TC)) (l6 : List (Ty.den TB)) : Imp (fn_63_t [.n n0, .n n1, .n n2, .n n3, .n n4, .l TC l5, .l TB l6]) (ev_63 [.n n0, .n n1, .n n2, .n n3, .n n4, .l TC l5, .l TB l6]) :=
(.pa [1,1,0,1,1]
(.nd (fun h0 =>
(.pa [1,0,0,0,0,1,1,1]
(.nd (fun h1 =>
(.pa [1,1,1,0,0,0,1,1]
(.nd (fun h2 =>
(.pa [1,0,0,1,1,1,1,0,0,0,1,1]
(.nd (fun h3 =>
(.pa [1,0,0,1,1,1,1,0,1,1]
(.nd (fun h4 =>
(.pa [1,0,0,0,0,1,1]
(.nd (fun h5 =>
(.pa [1]
.lf)) (fun h5 =>
.none)))) (fun h4 =>
.none)))) (fun h3 =>
.none)))) (fun h2 =>
.none)))) (fun h1 =>
.none)))) (fun h0 =>
.none)))

noncomputable def cs_63 : FuncId → Option CSpec := csAdd 63 [B63] cs_46
theorem cs_63_ok : CsOk Try.prog cs_63 := csAdd_ok cs_46_ok fun B hB => by
  cases List.mem_singleton.1 hB
  exact B63_ok

noncomputable def ev_60 (env : List Dat) : Tree (Nat × List Dat) := Lk.boxC false LK cs_63 60 ls0 (mkF [liV 0] [] [] [(.bool 0, [])] fun _ => none) env
theorem op_60_ex : ExB ev_60 := exB _
noncomputable def op_60 := Classical.choose op_60_ex
theorem op_60_eq (env : List Dat) : op_60 env = (ev_60 env).sel := Classical.choose_spec op_60_ex env
noncomputable def B60 : FBox := mkF [liV 0] [] [] [(.bool 0, [])] op_60
theorem B60_ok : RunOk Try.prog 60 (boxRun B60) := mkF_ok (op := op_60) cs_63_ok hmix false (LsOk.none _ _ _) (fun env x h => by rw [op_60_eq] at h; rw [← boxC_lk]; exact h)

noncomputable def fn_60_t : List Dat → Tree (Nat × List Dat)
 | [.n n0, .n n1, .n n2, .n n3, .l (Ty.int IntKind.u8) l4] =>
 (let r1 := (op_80 [.n (4611686018427387904 : Int), .l TI [n2, n3]]);
 (.node (isK 0 [.b] r1)
 (.node (gb (dOf r1) 0)
 (.leaf ((0, [.b (decide ((↑(List.length l4) : Int) ≤ (2048 : Int)))])))
 (.leaf ((0, [.b false]))))
 (.bad 351)))
 | _ => .bad 0
theorem fn_60_t_im (n0 : Int) (n1 : Int) (n2 : Int) (n3 : Int) (l4 : List (Ty.den TB)) : Imp (fn_60_t [.n n0, .n n1, .n n2, .n n3, .l TB l4]) (ev_60 [.n n0, .n n1, .n n2, .n n3, .l TB l4]) :=
(.nd (fun h0 =>
(.pa [1]
(.nd (fun h1 =>
(.pa [1]
.lf)) (fun h1 =>
(.pa [0,1]
.lf))))) (fun h0 =>
.none))

noncomputable def cs_60 : FuncId → Option CSpec := csLend 60 B60 cs_63
theorem cs_60_ok : CsOk Try.prog cs_60 := csLend_ok cs_63_ok B60_ok

noncomputable def ev_71 (env : List Dat) : Tree (Nat × List Dat) := Lk.boxC false LK cs_60 71 ls0 (mkF [.ptr 0 0, liV 0] [wrO 1, .arr TB 5] [0, 1] [(.tup [], [wrO 1, .arr TB 0])] fun _ => none) env
theorem op_71_ex : ExB ev_71 := exB _
noncomputable def op_71 := Classical.choose op_71_ex
theorem op_71_eq (env : List Dat) : op_71 env = (ev_71 env).sel := Classical.choose_spec op_71_ex env
noncomputable def B71 : FBox := mkF [.ptr 0 0, liV 0] [wrO 1, .arr TB 5] [0, 1] [(.tup [], [wrO 1, .arr TB 0])] op_71
theorem B71_ok : RunOk Try.prog 71 (boxRun B71) := mkF_ok (op := op_71) cs_60_ok hmix false (LsOk.none _ _ _) (fun env x h => by rw [op_71_eq] at h; rw [← boxC_lk]; exact h)

noncomputable def fn_71_t : List Dat → Tree (Nat × List Dat)
 | [.n n0, .n n1, .n n2, .n n3, .l (Ty.int IntKind.u8) l4, .l (Ty.int IntKind.u8) l5] =>
 (let r1 := (op_35b [.n (IntKind.wrap .u64 n0), .n (1 : Int), .l TB l5]);
 (.node (isK 0 [.l TB] r1)
 (let r2 := (op_35b [.n (IntKind.wrap .u64 n1), .n (1 : Int), .l TB (gl TB (dOf r1) 0)]);
 (.node (isK 0 [.l TB] r2)
 (let r3 := (op_88 [.l TL [IntKind.wrap .u64 n2, IntKind.wrap .u64 n3], .l TB (gl TB (dOf r2) 0)]);
 (.node (isK 0 [.l TB] r3)
 (let r4 := (op_35b [.n (IntKind.wrap .u64 (IntKind.wrap .u16 (↑(List.length l4) : Int))), .n (2 : Int), .l TB (gl TB (dOf r3) 0)]);
 (.node (isK 0 [.l TB] r4)
 (.node (decide ((List.length (gl TB (dOf r4) 0) + List.length l4) * 1 ≤ 140737488355328))
 (.leaf ((0, [.l TB (gl TB (dOf r4) 0 ++ l4)])))
 (.bad 62))
 (.bad 351)))
 (.bad 351)))
 (.bad 351)))
 (.bad 351)))
 | _ => .bad 0
theorem fn_71_t_im (n0 : Int) (n1 : Int) (n2 : Int) (n3 : Int) (l4 : List (Ty.den TB)) (l5 : List (Ty.den TB)) : Imp (fn_71_t [.n n0, .n n1, .n n2, .n n3, .l TB l4, .l TB l5]) (ev_71 [.n n0, .n n1, .n n2, .n n3, .l TB l4, .l TB l5]) :=
(.pa [1,1,0,1,1]
(.nd (fun h0 =>
(.pa [1,0,0,0,0,1,1,1,1,0,1,1]
(.nd (fun h1 =>
(.pa [1,0,0,0,0,1,1,1]
(.nd (fun h2 =>
(.pa [1,1,1,0,0,1,1]
(.nd (fun h3 =>
(.pa [1,0,0,0,1,1,1,1,0,0,0,0,0,1]
(.nd (fun h4 =>
(.pa [1,1,1]
.lf)) (fun h4 =>
.none)))) (fun h3 =>
.none)))) (fun h2 =>
.none)))) (fun h1 =>
.none)))) (fun h0 =>
.none)))

noncomputable def cs_71 : FuncId → Option CSpec := csAdd 71 [B71] cs_60
theorem cs_71_ok : CsOk Try.prog cs_71 := csAdd_ok cs_60_ok fun B hB => by
  cases List.mem_singleton.1 hB
  exact B71_ok

noncomputable def ev_9p (env : List Dat) : Tree (Nat × List Dat) := Lk.boxCN [(0, TB)] false LK cs_71 9 ls0 (mkF [inV 0] [] [] [(.own 0, [.arr TB 0])] fun _ => none) env
theorem op_9p_ex : ExB ev_9p := exB _
noncomputable def op_9p := Classical.choose op_9p_ex
theorem op_9p_eq (env : List Dat) : op_9p env = (ev_9p env).sel := Classical.choose_spec op_9p_ex env
noncomputable def B9p : FBox := mkF [inV 0] [] [] [(.own 0, [.arr TB 0])] op_9p
theorem B9p_ok : RunOk Try.prog 9 (boxRun B9p) := mkFN_ok (nils := [(0, TB)]) (op := op_9p) cs_71_ok hmix false (LsOk.none _ _ _) (fun env x h => by rw [op_9p_eq] at h; rw [← boxCN_lk]; exact h)

noncomputable def fn_9p_t : List Dat → Tree (Nat × List Dat)
 | [.n n0, .n n1, .n n2, .n n3, .n n4, .l (Ty.pair (Ty.int IntKind.u8) (Ty.int IntKind.i64)) l5] =>
 (let r1 := (op_46 [.n n0, .n n1, .n n2, .n n3, .n n4, .l TC l5]);
 (.node (isK 0 [.b] r1)
 (.node (gb (dOf r1) 0)
 (let r2 := (op_35a [.n (1 : Int), .n (1 : Int)]);
 (.node (isK 0 [] r2)
 (.bad 340)
 (.node (isK 1 [.l TB] r2)
 (let r3 := (op_63 [.n n0, .n n1, .n n2, .n n3, .n n4, .l TC l5, .l TB (gl TB (dOf r2) 0)]);
 (.node (isK 0 [.l TB] r3)
 (let r4 := (op_31 [.l TB (gl TB (dOf r3) 0)]);
 (.node (isK 0 [.l TB] r4)
 (let r5 := (op_q12 [.l TB (gl TB (dOf r4) 0)]);
 (.node (isK 0 [.n] r5)
 (let r6 := (op_35b [.n (IntKind.wrap .u64 (gn (dOf r5) 0)), .n (4 : Int), .l TB (gl TB (dOf r3) 0)]);
 (.node (isK 0 [.l TB] r6)
 (let r7 := (op_31 [.l TB (gl TB (dOf r6) 0)]);
 (.node (isK 0 [.l TB] r7)
 (.leaf ((0, [.l TB (gl TB (dOf r7) 0)])))
 (.bad 351)))
 (.bad 351)))
 (.bad 351)))
 (.bad 351)))
 (.bad 351)))
 (.bad 351))))
 (.leaf ((0, [.l TB []]))))
 (.bad 351)))
 | _ => .bad 0
theorem fn_9p_t_im (n0 : Int) (n1 : Int) (n2 : Int) (n3 : Int) (n4 : Int) (l5 : List (Ty.den TC)) : Imp (fn_9p_t [.n n0, .n n1, .n n2, .n n3, .n n4, .l TC l5]) (ev_9p [.n n0, .n n1, .n n2, .n n3, .n n4, .l TC l5]) :=
(.pa [1,1]
(.nd (fun h0 =>
(.pa [1]
(.nd (fun h1 =>
(.pa [1,1,1,0,1,1]
(.nd (fun h2 =>
(.pa [1,0,0,0,0,1,1,1,1]
.none)) (fun h2 =>
(.nd (fun h3 =>
(.pa [1,0,0,0,0,1,1,1,1]
(.nd (fun h4 =>
(.pa [1,1,1,0]
(.nd (fun h5 =>
(.pa [1,1]
(.nd (fun h6 =>
(.pa [1,1,1,0,0,0,1,1]
(.nd (fun h7 =>
(.pa [1,0,0,1,1,1,0]
(.nd (fun h8 =>
(.pa [1,1,1,1,1]
.lf)) (fun h8 =>
.none)))) (fun h7 =>
.none)))) (fun h6 =>
.none)))) (fun h5 =>
.none)))) (fun h4 =>
.none)))) (fun h3 =>
.none)))))) (fun h1 =>
(.pa [0,0,0,0,0,0,0,0,0,0,1,1]
.lf))))) (fun h0 =>
.none)))

noncomputable def cs_9p : FuncId → Option CSpec := csLend 9 B9p cs_71
theorem cs_9p_ok : CsOk Try.prog cs_9p := csLend_ok cs_71_ok B9p_ok

noncomputable def ev_10p (env : List Dat) : Tree (Nat × List Dat) := Lk.boxCN [(0, TB)] false LK cs_9p 10 ls0 (mkF [ouV 0] [] [] [(.own 0, [.arr TB 0])] fun _ => none) env
theorem op_10p_ex : ExB ev_10p := exB _
noncomputable def op_10p := Classical.choose op_10p_ex
theorem op_10p_eq (env : List Dat) : op_10p env = (ev_10p env).sel := Classical.choose_spec op_10p_ex env
noncomputable def B10p : FBox := mkF [ouV 0] [] [] [(.own 0, [.arr TB 0])] op_10p
theorem B10p_ok : RunOk Try.prog 10 (boxRun B10p) := mkFN_ok (nils := [(0, TB)]) (op := op_10p) cs_9p_ok hmix false (LsOk.none _ _ _) (fun env x h => by rw [op_10p_eq] at h; rw [← boxCN_lk]; exact h)

noncomputable def fn_10p_t : List Dat → Tree (Nat × List Dat)
 | [.n n0, .n n1, .n n2, .n n3, .n n4] =>
 (let r1 := (op_80 [.n (1099511627776 : Int), .l TI [n1, n2]]);
 (.node (isK 0 [.b] r1)
 (.node (gb (dOf r1) 0)
 (let r2 := (op_35a [.n (2 : Int), .n (1 : Int)]);
 (.node (isK 0 [] r2)
 (let r3 := (op_35a [.n (IntKind.wrap .u64 n0), .n (1 : Int)]);
 (.node (isK 0 [] r3)
 (.bad 340)
 (.node (isK 1 [.l TB] r3)
 (let r4 := (op_88 [.l TL [IntKind.wrap .u64 n1, IntKind.wrap .u64 n2, n3], .l TB (gl TB (dOf r3) 0)]);
 (.node (isK 0 [.l TB] r4)
 (let r5 := (op_35b [.n (IntKind.wrap .u64 n4), .n (4 : Int), .l TB (gl TB (dOf r4) 0)]);
 (.node (isK 0 [.l TB] r5)
 (let r6 := (op_31 [.l TB (gl TB (dOf r5) 0)]);
 (.node (isK 0 [.l TB] r6)
 (let r7 := (op_q12 [.l TB (gl TB (dOf r6) 0)]);
 (.node (isK 0 [.n] r7)
 (let r8 := (op_35b [.n (IntKind.wrap .u64 (gn (dOf r7) 0)), .n (4 : Int), .l TB (gl TB (dOf r5) 0)]);
 (.node (isK 0 [.l TB] r8)
 (let r9 := (op_31 [.l TB (gl TB (dOf r8) 0)]);
 (.node (isK 0 [.l TB] r9)
 (.leaf ((0, [.l TB (gl TB (dOf r9) 0)])))
 (.bad 351)))
 (.bad 351)))
 (.bad 351)))
 (.bad 351)))
 (.bad 351)))
 (.bad 351)))
 (.bad 351))))
 (.node (isK 1 [.l TB] r2)
 (let r3 := (op_35b [.n (IntKind.wrap .u64 n0), .n (1 : Int), .l TB (gl TB (dOf r2) 0)]);
 (.node (isK 0 [.l TB] r3)
 (let r4 := (op_88 [.l TL [IntKind.wrap .u64 n1, IntKind.wrap .u64 n2, n3], .l TB (gl TB (dOf r3) 0)]);
 (.node (isK 0 [.l TB] r4)
 (let r5 := (op_35b [.n (IntKind.wrap .u64 n4), .n (4 : Int), .l TB (gl TB (dOf r4) 0)]);
 (.node (isK 0 [.l TB] r5)
 (let r6 := (op_31 [.l TB (gl TB (dOf r5) 0)]);
 (.node (isK 0 [.l TB] r6)
 (let r7 := (op_q12 [.l TB (gl TB (dOf r6) 0)]);
 (.node (isK 0 [.n] r7)
 (let r8 := (op_35b [.n (IntKind.wrap .u64 (gn (dOf r7) 0)), .n (4 : Int), .l TB (gl TB (dOf r5) 0)]);
 (.node (isK 0 [.l TB] r8)
 (let r9 := (op_31 [.l TB (gl TB (dOf r8) 0)]);
 (.node (isK 0 [.l TB] r9)
 (.leaf ((0, [.l TB (gl TB (dOf r9) 0)])))
 (.bad 351)))
 (.bad 351)))
 (.bad 351)))
 (.bad 351)))
 (.bad 351)))
 (.bad 351)))
 (.bad 351)))
 (.bad 351))))
 (.leaf ((0, [.l TB []]))))
 (.bad 351)))
 | _ => .bad 0
theorem fn_10p_t_im (n0 : Int) (n1 : Int) (n2 : Int) (n3 : Int) (n4 : Int) : Imp (fn_10p_t [.n n0, .n n1, .n n2, .n n3, .n n4]) (ev_10p [.n n0, .n n1, .n n2, .n n3, .n n4]) :=
(.pa [1,0,0,0,1,1]
(.nd (fun h0 =>
(.pa [1,1]
(.nd (fun h1 =>
(.pa [1,1,1,0,1,1]
(.nd (fun h2 =>
(.pa [1,0,0,0,0,1,1,1,1,1,1,0,1,1]
(.nd (fun h3 =>
(.pa [1,0,0,0,0,1,1,1]
.none)) (fun h3 =>
(.nd (fun h4 =>
(.pa [1,0,0,0,0,1,1,1]
(.nd (fun h5 =>
(.pa [1,1,1,0,0,0,1,1]
(.nd (fun h6 =>
(.pa [1,0,0,1,1,1,1,1,0]
(.nd (fun h7 =>
(.pa [1,1]
(.nd (fun h8 =>
(.pa [1,1,1,0,0,0,1,1]
(.nd (fun h9 =>
(.pa [1,0,0,1,1,1,0]
(.nd (fun h10 =>
(.pa [1,1,1,1,1]
.lf)) (fun h10 =>
.none)))) (fun h9 =>
.none)))) (fun h8 =>
.none)))) (fun h7 =>
.none)))) (fun h6 =>
.none)))) (fun h5 =>
.none)))) (fun h4 =>
.none)))))) (fun h2 =>
(.nd (fun h3 =>
(.pa [1,0,0,0,0,1,1,1,1,1,1,0,1,1]
(.nd (fun h4 =>
(.pa [1,0,0,0,0,1,1,1]
(.nd (fun h5 =>
(.pa [1,1,1,0,0,0,1,1]
(.nd (fun h6 =>
(.pa [1,0,0,1,1,1,1,1,0]
(.nd (fun h7 =>
(.pa [1,1]
(.nd (fun h8 =>
(.pa [1,1,1,0,0,0,1,1]
(.nd (fun h9 =>
(.pa [1,0,0,1,1,1,0]
(.nd (fun h10 =>
(.pa [1,1,1,1,1]
.lf)) (fun h10 =>
.none)))) (fun h9 =>
.none)))) (fun h8 =>
.none)))) (fun h7 =>
.none)))) (fun h6 =>
.none)))) (fun h5 =>
.none)))) (fun h4 =>
.none)))) (fun h3 =>
.none)))))) (fun h1 =>
(.pa [0,0,0,0,0,0,0,1,1]
.lf))))) (fun h0 =>
.none)))

noncomputable def cs_10p : FuncId → Option CSpec := csLend 10 B10p cs_9p
theorem cs_10p_ok : CsOk Try.prog cs_10p := csLend_ok cs_9p_ok B10p_ok

noncomputable def ev_11p (env : List Dat) : Tree (Nat × List Dat) := Lk.boxCN [(0, TB)] false LK cs_10p 11 ls0 (mkF [stV 0] [] [] [(.own 0, [.arr TB 0])] fun _ => none) env
theorem op_11p_ex : ExB ev_11p := exB _
noncomputable def op_11p := Classical.choose op_11p_ex
theorem op_11p_eq (env : List Dat) : op_11p env = (ev_11p env).sel := Classical.choose_spec op_11p_ex env
noncomputable def B11p : FBox := mkF [stV 0] [] [] [(.own 0, [.arr TB 0])] op_11p
theorem B11p_ok : RunOk Try.prog 11 (boxRun B11p) := mkFN_ok (nils := [(0, TB)]) (op := op_11p) cs_10p_ok hmix false (LsOk.none _ _ _) (fun env x h => by rw [op_11p_eq] at h; rw [← boxCN_lk]; exact h)

noncomputable def fn_11p_t : List Dat → Tree (Nat × List Dat)
 | [.n n0, .n n1, .n n2, .l (Ty.int IntKind.u8) l3, .n n4] =>
 (let r1 := (op_35a [.n (3 : Int), .n (1 : Int)]);
 (.node (isK 0 [] r1)
 (.bad 340)
 (.node (isK 1 [.l TB] r1)
 (let r2 := (op_88 [.l TL [n0, n1, n2], .l TB (gl TB (dOf r1) 0)]);
 (.node (isK 0 [.l TB] r2)
 (.node (decide ((List.length (gl TB (dOf r2) 0) + List.length l3) * 1 ≤ 140737488355328))
 (let r3 := (op_35b [.n (IntKind.wrap .u64 n4), .n (4 : Int), .l TB (gl TB (dOf r2) 0 ++ l3)]);
 (.node (isK 0 [.l TB] r3)
 (let r4 := (op_31 [.l TB (gl TB (dOf r3) 0)]);
 (.node (isK 0 [.l TB] r4)
 (let r5 := (op_q12 [.l TB (gl TB (dOf r4) 0)]);
 (.node (isK 0 [.n] r5)
 (let r6 := (op_35b [.n (IntKind.wrap .u64 (gn (dOf r5) 0)), .n (4 : Int), .l TB (gl TB (dOf r3) 0)]);
 (.node (isK 0 [.l TB] r6)
 (let r7 := (op_31 [.l TB (gl TB (dOf r6) 0)]);
 (.node (isK 0 [.l TB] r7)
 (.leaf ((0, [.l TB (gl TB (dOf r7) 0)])))
 (.bad 351)))
 (.bad 351)))
 (.bad 351)))
 (.bad 351)))
 (.bad 351)))
 (.bad 62))
 (.bad 351)))
 (.bad 351))))
 | _ => .bad 0
theorem fn_11p_t_im (n0 : Int) (n1 : Int) (n2 : Int) (l3 : List (Ty.den TB)) (n4 : Int) (g0 : l3.length = 64) : Imp (fn_11p_t [.n n0, .n n1, .n n2, .l TB l3, .n n4]) (ev_11p [.n n0, .n n1, .n n2, .l TB l3, .n n4]) :=
(.pa [1,0,0,0,0,0,0,1,1,1,1,0,1,1]
(.nd (fun h0 =>
(.pa [1,0,0,0,0,1,1,1,1,1]
.none)) (fun h0 =>
(.nd (fun h1 =>
(.pa [1,0,0,0,0,1,1,1,1,1]
(.nd (fun h2 =>
(.pa [1,1,1,1,0,0,0,0,0,1]
(.nd (fun h3 =>
(.pa [1,1,1,1,0,0,0,1,1]
(.nd (fun h4 =>
(.pa [1,0,0,1,1,1,1,1,0]
(.nd (fun h5 =>
(.pa [1,1]
(.nd (fun h6 =>
(.pa [1,1,1,0,0,0,1,1]
(.nd (fun h7 =>
(.pa [1,0,0,1,1,1,0]
(.nd (fun h8 =>
(.pa [1,1,1,1,1]
.lf)) (fun h8 =>
.none)))) (fun h7 =>
.none)))) (fun h6 =>
.none)))) (fun h5 =>
.none)))) (fun h4 =>
.none)))) (fun h3 =>
.none)))) (fun h2 =>
.none)))) (fun h1 =>
.none)))))

noncomputable def cs_11p : FuncId → Option CSpec := csLend 11 B11p cs_10p
theorem cs_11p_ok : CsOk Try.prog cs_11p := csLend_ok cs_10p_ok B11p_ok

noncomputable def ev_12p (env : List Dat) : Tree (Nat × List Dat) := Lk.boxCN [(0, TB)] false LK cs_11p 12 ls0 (mkF [loV 0] [] [] [(.own 0, [.arr TB 0])] fun _ => none) env
theorem op_12p_ex : ExB ev_12p := exB _
noncomputable def op_12p := Classical.choose op_12p_ex
theorem op_12p_eq (env : List Dat) : op_12p env = (ev_12p env).sel := Classical.choose_spec op_12p_ex env
noncomputable def B12p : FBox := mkF [loV 0] [] [] [(.own 0, [.arr TB 0])] op_12p
theorem B12p_ok : RunOk Try.prog 12 (boxRun B12p) := mkFN_ok (nils := [(0, TB)]) (op := op_12p) cs_11p_ok hmix false (LsOk.none _ _ _) (fun env x h => by rw [op_12p_eq] at h; rw [← boxCN_lk]; exact h)

noncomputable def fn_12p_t : List Dat → Tree (Nat × List Dat)
 | [.n n0, .n n1, .n n2, .n n3, .n n4, .l (Ty.int IntKind.u8) l5, .n n6] =>
 (let r1 := (op_80 [.n (1099511627776 : Int), .l TI [n0, n1]]);
 (.node (isK 0 [.b] r1)
 (.node (gb (dOf r1) 0)
 (let r2 := (op_35a [.n (4 : Int), .n (1 : Int)]);
 (.node (isK 0 [] r2)
 (.bad 340)
 (.node (isK 1 [.l TB] r2)
 (let r3 := (op_88 [.l TL [IntKind.wrap .u64 n0, IntKind.wrap .u64 n1], .l TB (gl TB (dOf r2) 0)]);
 (.node (isK 0 [.l TB] r3)
 (let r4 := (op_88 [.l TL [n2, n3, n4], .l TB (gl TB (dOf r3) 0)]);
 (.node (isK 0 [.l TB] r4)
 (.node (decide ((List.length (gl TB (dOf r4) 0) + List.length l5) * 1 ≤ 140737488355328))
 (let r5 := (op_35b [.n (IntKind.wrap .u64 n6), .n (4 : Int), .l TB (gl TB (dOf r4) 0 ++ l5)]);
 (.node (isK 0 [.l TB] r5)
 (let r6 := (op_31 [.l TB (gl TB (dOf r5) 0)]);
 (.node (isK 0 [.l TB] r6)
 (let r7 := (op_q12 [.l TB (gl TB (dOf r6) 0)]);
 (.node (isK 0 [.n] r7)
 (let r8 := (op_35b [.n (IntKind.wrap .u64 (gn (dOf r7) 0)), .n (4 : Int), .l TB (gl TB (dOf r5) 0)]);
 (.node (isK 0 [.l TB] r8)
 (let r9 := (op_31 [.l TB (gl TB (dOf r8) 0)]);
 (.node (isK 0 [.l TB] r9)
 (.leaf ((0, [.l TB (gl TB (dOf r9) 0)])))
 (.bad 351)))
 (.bad 351)))
 (.bad 351)))
 (.bad 351)))
 (.bad 351)))
 (.bad 62))
 (.bad 351)))
 (.bad 351)))
 (.bad 351))))
 (.leaf ((0, [.l TB []]))))
 (.bad 351)))
 | _ => .bad 0
theorem fn_12p_t_im (n0 : Int) (n1 : Int) (n2 : Int) (n3 : Int) (n4 : Int) (l5 : List (Ty.den TB)) (n6 : Int) (g0 : l5.length = 64) : Imp (fn_12p_t [.n n0, .n n1, .n n2, .n n3, .n n4, .l TB l5, .n n6]) (ev_12p [.n n0, .n n1, .n n2, .n n3, .n n4, .l TB l5, .n n6]) :=
(.pa [1,0,0,0,0,0,0,0,1,1]
(.nd (fun h0 =>
(.pa [1,1]
(.nd (fun h1 =>
(.pa [1,1,1,0,1,1]
(.nd (fun h2 =>
(.pa [1,0,0,0,0,1,1,1,1,1]
.none)) (fun h2 =>
(.nd (fun h3 =>
(.pa [1,0,0,0,0,1,1,1,1,1]
(.nd (fun h4 =>
(.pa [1,1,1]
(.nd (fun h5 =>
(.pa [1,1,1,1,0,0,0,0,0,1]
(.nd (fun h6 =>
(.pa [1,1,1,1,0,0,0,1,1]
(.nd (fun h7 =>
(.pa [1,0,0,1,1,1,1,1,1,0]
(.nd (fun h8 =>
(.pa [1,1]
(.nd (fun h9 =>
(.pa [1,1,1,0,0,0,1,1]
(.nd (fun h10 =>
(.pa [1,0,0,1,1,1,0]
(.nd (fun h11 =>
(.pa [1,1,1,1,1]
.lf)) (fun h11 =>
.none)))) (fun h10 =>
.none)))) (fun h9 =>
.none)))) (fun h8 =>
.none)))) (fun h7 =>
.none)))) (fun h6 =>
.none)))) (fun h5 =>
.none)))) (fun h4 =>
.none)))) (fun h3 =>
.none)))))) (fun h1 =>
(.pa [0,0,0,1,1]
.lf))))) (fun h0 =>
.none)))

noncomputable def cs_12p : FuncId → Option CSpec := csLend 12 B12p cs_11p
theorem cs_12p_ok : CsOk Try.prog cs_12p := csLend_ok cs_11p_ok B12p_ok

noncomputable def ev_13p (env : List Dat) : Tree (Nat × List Dat) := Lk.boxCN [(0, TB)] false LK cs_12p 13 ls0 (mkF [liV 0] [] [] [(.own 0, [.arr TB 0])] fun _ => none) env
theorem op_13p_ex : ExB ev_13p := exB _
noncomputable def op_13p := Classical.choose op_13p_ex
theorem op_13p_eq (env : List Dat) : op_13p env = (ev_13p env).sel := Classical.choose_spec op_13p_ex env
noncomputable def B13p : FBox := mkF [liV 0] [] [] [(.own 0, [.arr TB 0])] op_13p
theorem B13p_ok : RunOk Try.prog 13 (boxRun B13p) := mkFN_ok (nils := [(0, TB)]) (op := op_13p) cs_12p_ok hmix false (LsOk.none _ _ _) (fun env x h => by rw [op_13p_eq] at h; rw [← boxCN_lk]; exact h)

noncomputable def fn_13p_t : List Dat → Tree (Nat × List Dat)
 | [.n n0, .n n1, .n n2, .n n3, .l (Ty.int IntKind.u8) l4] =>
 (let r1 := (op_60 [.n n0, .n n1, .n n2, .n n3, .l TB l4]);
 (.node (isK 0 [.b] r1)
 (.node (gb (dOf r1) 0)
 (let r2 := (op_35a [.n (5 : Int), .n (1 : Int)]);
 (.node (isK 0 [] r2)
 (.bad 340)
 (.node (isK 1 [.l TB] r2)
 (let r3 := (op_71 [.n n0, .n n1, .n n2, .n n3, .l TB l4, .l TB (gl TB (dOf r2) 0)]);
 (.node (isK 0 [.l TB] r3)
 (let r4 := (op_31 [.l TB (gl TB (dOf r3) 0)]);
 (.node (isK 0 [.l TB] r4)
 (let r5 := (op_q12 [.l TB (gl TB (dOf r4) 0)]);
 (.node (isK 0 [.n] r5)
 (let r6 := (op_35b [.n (IntKind.wrap .u64 (gn (dOf r5) 0)), .n (4 : Int), .l TB (gl TB (dOf r3) 0)]);
 (.node (isK 0 [.l TB] r6)
 (let r7 := (op_31 [.l TB (gl TB (dOf r6) 0)]);
 (.node (isK 0 [.l TB] r7)
 (.leaf ((0, [.l TB (gl TB (dOf r7) 0)])))
 (.bad 351)))
 (.bad 351)))
 (.bad 351)))
 (.bad 351)))
 (.bad 351)))
 (.bad 351))))
 (.leaf ((0, [.l TB []]))))
 (.bad 351)))
 | _ => .bad 0
theorem fn_13p_t_im (n0 : Int) (n1 : Int) (n2 : Int) (n3 : Int) (l4 : List (Ty.den TB)) : Imp (fn_13p_t [.n n0, .n n1, .n n2, .n n3, .l TB l4]) (ev_13p [.n n0, .n n1, .n n2, .n n3, .l TB l4]) :=
(.pa [1,0,0,0,0,0,0,0,0,0,0,1]
(.nd (fun h0 =>
(.pa [1]
(.nd (fun h1 =>
(.pa [1,1,1,0,1,1]
(.nd (fun h2 =>
(.pa [1,0,0,0,0,1,1,1,1]
.none)) (fun h2 =>
(.nd (fun h3 =>
(.pa [1,0,0,0,0,1,1,1,1]
(.nd (fun h4 =>
(.pa [1,1,1,0]
(.nd (fun h5 =>
(.pa [1,1]
(.nd (fun h6 =>
(.pa [1,1,1,0,0,0,1,1]
(.nd (fun h7 =>
(.pa [1,0,0,1,1,1,0]
(.nd (fun h8 =>
(.pa [1,1,1,1,1]
.lf)) (fun h8 =>
.none)))) (fun h7 =>
.none)))) (fun h6 =>
.none)))) (fun h5 =>
.none)))) (fun h4 =>
.none)))) (fun h3 =>
.none)))))) (fun h1 =>
(.pa [1,1]
.lf))))) (fun h0 =>
.none)))

noncomputable def cs_13p : FuncId → Option CSpec := csLend 13 B13p cs_12p
theorem cs_13p_ok : CsOk Try.prog cs_13p := csLend_ok cs_12p_ok B13p_ok

noncomputable def ev_33r (env : List Dat) : Tree (Nat × List Dat) := Lk.boxCV [(some 0, 0, .imm TB)] false LK cs_13p 95 ls0 (mkF [.ptr 0 0, .int .i64 0] [rdB 1] [0] [(.imm TB 0, [rdB 1]), (.nilsl, [rdB 0])] fun _ => none) env
theorem op_33r_ex : ExB ev_33r := exB _
noncomputable def op_33r := Classical.choose op_33r_ex
theorem op_33r_eq (env : List Dat) : op_33r env = (ev_33r env).sel := Classical.choose_spec op_33r_ex env
noncomputable def B33r : FBox := mkF [.ptr 0 0, .int .i64 0] [rdB 1] [0] [(.imm TB 0, [rdB 1]), (.nilsl, [rdB 0])] op_33r
theorem B33r_ok : RunOk Try.prog 95 (boxRun B33r) := mkFV_ok (cv := [(some 0, 0, .imm TB)]) (op := op_33r) cs_13p_ok hmix false (LsOk.none _ _ _) (fun env x h => by rw [op_33r_eq] at h; rw [← boxCV_lk]; exact h)

noncomputable def fn_33r_t : List Dat → Tree (Nat × List Dat)
 | [.n n0, .l (Ty.int IntKind.u8) l1, .b b2] =>
 (.node (b2)
 (.leaf ((1, [.l TB [], .b true])))
 (.node (decide (n0 < (0 : Int)))
 (.leaf ((1, [.l TB [], .b true])))
 (.node (decide (n0 > (↑(List.length l1) : Int)))
 (.leaf ((1, [.l TB [], .b true])))
 (.node (true && decide ((0 : Int) ≤ n0))
 (.leaf ((0, [.l TB (List.take (Int.toNat n0) l1), .l TB (List.drop (Int.toNat n0) l1), .b b2])))
 (.bad 39)))))
 | _ => .bad 0
theorem fn_33r_t_im (n0 : Int) (l1 : List (Ty.den TB)) (b2 : Bool) : Imp (fn_33r_t [.n n0, .l TB l1, .b b2]) (ev_33r [.n n0, .l TB l1, .b b2]) :=
(.pa [0]
(.nd (fun h0 =>
(.pa [1,1,1,1,1]
.lf)) (fun h0 =>
(.nd (fun h1 =>
(.pa [1,1,1]
.lf)) (fun h1 =>
(.nd (fun h2 =>
(.pa [1]
.lf)) (fun h2 =>
(.sT ((decide (n0 = n0)))
(.pt (c := (decide ((0 : Int) ≤ n0) && decide (n0 ≤ (↑(List.length l1) : Int)))) (by kernel_rfl) (by kernel_rfl) (by (simp only [w64d, decide_eq_true_eq, decide_eq_false_iff_not, beq_iff_eq, beq_eq_false_iff_ne, bne_iff_ne, ne_eq, inR, Bool.and_eq_true, Bool.and_eq_false_iff, Bool.not_eq_true', Bool.not_eq_false', Bool.not_eq_eq_eq_not, Bool.not_true, Bool.not_false] at *; omega))
(.nd (fun h3 =>
(.sT ((true && decide ((↑(List.length l1) : Int) ≤ (↑(List.length l1) : Int))))
(.pt (c := (decide ((0 : Int) ≤ n0) && decide (n0 ≤ (↑(List.length l1) : Int)))) (by kernel_rfl) (by kernel_rfl) (by (simp only [w64d, decide_eq_true_eq, decide_eq_false_iff_not, beq_iff_eq, beq_eq_false_iff_ne, bne_iff_ne, ne_eq, inR, Bool.and_eq_true, Bool.and_eq_false_iff, Bool.not_eq_true', Bool.not_eq_false', Bool.not_eq_eq_eq_not, Bool.not_true, Bool.not_false] at *; omega))
(.pa [1]
.lf)))) (fun h3 =>
.none)))))))))))

noncomputable def cs_33r : FuncId → Option CSpec := csAdd 95 [B33r] cs_13p
theorem cs_33r_ok : CsOk Try.prog cs_33r := csAdd_ok cs_13p_ok fun B hB => by
  cases List.mem_singleton.1 hB
  exact B33r_ok

noncomputable def st_L34r_3 (env : List Dat) : Tree Step := Lk.stepMC false LK cs_33r 93 3 ls0 (mkM 1 [] [(sh 40 [(0, .ptr 0 0), (1, .int .i64 0), (5, .int .u64 1), (10, .imm TB 2), (11, .int .i64 3), (12, .int .i64 4)], [rdB 5]), (sh 40 [(0, .ptr 0 0), (1, .int .i64 0), (5, .int .u64 1), (10, .nilsl), (11, .int .i64 2), (12, .int .i64 3)], [rdB 4])] [] [(.exit 0, sh 40 [(0, .ptr 0 0), (1, .int .i64 0), (5, .int .u64 1)], [rdB 2])] fun _ => none) env
theorem op_L34r_3_ex : ExL st_L34r_3 := exL _
noncomputable def op_L34r_3 := Classical.choose op_L34r_3_ex
theorem op_L34r_3_eq (env : List Dat) : op_L34r_3 env = iterS st_L34r_3 FU env := Classical.choose_spec op_L34r_3_ex env
noncomputable def L34r_3 : MBox := mkM 1 [] [(sh 40 [(0, .ptr 0 0), (1, .int .i64 0), (5, .int .u64 1), (10, .imm TB 2), (11, .int .i64 3), (12, .int .i64 4)], [rdB 5]), (sh 40 [(0, .ptr 0 0), (1, .int .i64 0), (5, .int .u64 1), (10, .nilsl), (11, .int .i64 2), (12, .int .i64 3)], [rdB 4])] [] [(.exit 0, sh 40 [(0, .ptr 0 0), (1, .int .i64 0), (5, .int .u64 1)], [rdB 2])] op_L34r_3
theorem L34r_3_eqs : L34r_3 = mkM 1 [] [(sh 40 [(0, .ptr 0 0), (1, .int .i64 0), (5, .int .u64 1), (10, .imm TB 2), (11, .int .i64 3), (12, .int .i64 4)], [rdB 5]), (sh 40 [(0, .ptr 0 0), (1, .int .i64 0), (5, .int .u64 1), (10, .nilsl), (11, .int .i64 2), (12, .int .i64 3)], [rdB 4])] [] [(.exit 0, sh 40 [(0, .ptr 0 0), (1, .int .i64 0), (5, .int .u64 1)], [rdB 2])] (iterS st_L34r_3 FU) := congrArg (fun f => mkM 1 [] [(sh 40 [(0, .ptr 0 0), (1, .int .i64 0), (5, .int .u64 1), (10, .imm TB 2), (11, .int .i64 3), (12, .int .i64 4)], [rdB 5]), (sh 40 [(0, .ptr 0 0), (1, .int .i64 0), (5, .int .u64 1), (10, .nilsl), (11, .int .i64 2), (12, .int .i64 3)], [rdB 4])] [] [(.exit 0, sh 40 [(0, .ptr 0 0), (1, .int .i64 0), (5, .int .u64 1)], [rdB 2])] f) (funext op_L34r_3_eq)
theorem L34r_3_run : ∀ t s x, (manyRun L34r_3 t s).sel = some x → CodeOk Try.prog 1 (.loop (cAt Try.prog 93 3)) t s x := by
  rw [L34r_3_eqs]
  exact mkM_ok (st := st_L34r_3) (m := FU) cs_33r_ok hmix false (LsOk.none _ _ _) (by kernel_rfl) (fun env y h => by rw [← stepMC_lk]; exact h)

noncomputable def fn_L34r_3_i : List Dat → Tree Step
 | [.n n0, .n n1, .l (Ty.int IntKind.u8) l2, .n n3, .n n4, .l (Ty.int IntKind.u8) l5, .b b6] =>
 (.node (decide (n4 < n3))
 (.node (inR n4 (List.length l2))
 (.leaf (Step.go [.k 0, .n n0, .n (ior IntKind.u64 (ishl IntKind.u64 n1 (8 : Int)) (IntKind.wrap .u64 (List.getD l2 (Int.toNat n4) (0 : Int)))), .l TB l2, .n n3, .n (IntKind.wrap .i64 (n4 + (1 : Int))), .l TB l5, .b b6]))
 (.bad 10))
 (.leaf (Step.stop 0 [.n n0, .n n1, .l TB l5, .b b6])))
 | _ => .bad 0
theorem fn_L34r_3_i_im (n0 : Int) (n1 : Int) (l2 : List (Ty.den TB)) (n3 : Int) (n4 : Int) (l5 : List (Ty.den TB)) (b6 : Bool) : Imp (fn_L34r_3_i [.n n0, .n n1, .l TB l2, .n n3, .n n4, .l TB l5, .b b6]) (st_L34r_3 [.k 0, .n n0, .n n1, .l TB l2, .n n3, .n n4, .l TB l5, .b b6]) :=
(.pa [1]
(.nd (fun h0 =>
(.nd (fun h1 =>
(.pa [1,1]
.lf)) (fun h1 =>
.none))) (fun h0 =>
(.pa [1]
.lf))))

noncomputable def fn_L34r_3_n : List Dat → Tree Step
 | [.n n0, .n n1, .n n2, .n n3, .l (Ty.int IntKind.u8) l4, .b b5] =>
 (.leaf (Step.stop 0 [.n n0, .n n1, .l TB l4, .b b5]))
 | _ => .bad 0
theorem fn_L34r_3_n_im (n0 : Int) (n1 : Int) (n2 : Int) (n3 : Int) (l4 : List (Ty.den TB)) (b5 : Bool) (g0 : n2 = 0) (g1 :  n3 = 0) : Imp (fn_L34r_3_n [.n n0, .n n1, .n n2, .n n3, .l TB l4, .b b5]) (st_L34r_3 [.k 1, .n n0, .n n1, .n n2, .n n3, .l TB l4, .b b5]) :=
(.pa [1]
(.sF ((decide (n3 < n2)))
(.pa [1]
.lf)))

theorem ls_34r_ok : LsOk Try.prog (List.length ([rdB 1] : List PB)) (lsM [(3, L34r_3)] (List.length ([rdB 1] : List PB))) (bodyOf Try.prog 93) := LsOk.many fun j B hB hk c hc hi => by
  simp only [lookM] at hB
  split at hB
  · rename_i e; have := Nat.eq_of_beq_eq_true e; subst this; cases hB
    have e1 : loopAt Try.prog 93 3 = [cAt Try.prog 93 3] := loopAt_one (by kernel_rfl)
    have e2 : c ∈ loopAt Try.prog 93 3 := loopsAt_mem hc hi
    rw [e1] at e2; cases List.mem_singleton.1 e2; exact L34r_3_run
  cases hB

noncomputable def ev_34r (env : List Dat) : Tree (Nat × List Dat) := Lk.boxC false LK cs_33r 93 (lsM [(3, L34r_3)] (List.length ([rdB 1] : List PB))) (mkF [.ptr 0 0, .int .i64 0] [rdB 1] [0] [(.iface 5 (.int .u8 0), [rdB 1]), (.iface 93 (.int .u16 0), [rdB 1]), (.iface 23 (.int .u32 0), [rdB 1]), (.iface 22 (.int .u64 0), [rdB 1])] fun _ => none) env
theorem op_34r_ex : ExB ev_34r := exB _
noncomputable def op_34r := Classical.choose op_34r_ex
theorem op_34r_eq (env : List Dat) : op_34r env = (ev_34r env).sel := Classical.choose_spec op_34r_ex env
noncomputable def B34r : FBox := mkF [.ptr 0 0, .int .i64 0] [rdB 1] [0] [(.iface 5 (.int .u8 0), [rdB 1]), (.iface 93 (.int .u16 0), [rdB 1]), (.iface 23 (.int .u32 0), [rdB 1]), (.iface 22 (.int .u64 0), [rdB 1])] op_34r
theorem B34r_ok : RunOk Try.prog 93 (boxRun B34r) := mkF_ok (op := op_34r) cs_33r_ok hmix false (ls_34r_ok) (fun env x h => by rw [op_34r_eq] at h; rw [← boxC_lk]; exact h)

noncomputable def fn_34r_t : List Dat → Tree (Nat × List Dat)
 | [.n n0, .l (Ty.int IntKind.u8) l1, .b b2] =>
 (let r1 := (op_33r [.n n0, .l TB l1, .b b2]);
 (.node (isK 0 [.l TB, .l TB, .b] r1)
 (let r2 := (op_L34r_3 [.k 0, .n n0, .n (0 : Int), .l TB (gl TB (dOf r1) 0), .n (↑(List.length (gl TB (dOf r1) 0)) : Int), .n (0 : Int), .l TB (gl TB (dOf r1) 1), .b (gb (dOf r1) 2)]);
 (.node (isK 0 [.n, .n, .l TB, .b] r2)
 (.node (gn (dOf r2) 0 == (1 : Int))
 (.leaf ((0, [.n (IntKind.wrap .u8 (gn (dOf r2) 1)), .l TB (gl TB (dOf r2) 2), .b (gb (dOf r2) 3)])))
 (.node (gn (dOf r2) 0 == (2 : Int))
 (.leaf ((1, [.n (IntKind.wrap .u16 (gn (dOf r2) 1)), .l TB (gl TB (dOf r2) 2), .b (gb (dOf r2) 3)])))
 (.node (gn (dOf r2) 0 == (4 : Int))
 (.leaf ((2, [.n (IntKind.wrap .u32 (gn (dOf r2) 1)), .l TB (gl TB (dOf r2) 2), .b (gb (dOf r2) 3)])))
 (.leaf ((3, [.n (gn (dOf r2) 1), .l TB (gl TB (dOf r2) 2), .b (gb (dOf r2) 3)]))))))
 (.bad 351)))
 (.node (isK 1 [.l TB, .b] r1)
 (let r2 := (op_L34r_3 [.k 1, .n n0, .n (0 : Int), .n (0 : Int), .n (0 : Int), .l TB (gl TB (dOf r1) 0), .b (gb (dOf r1) 1)]);
 (.node (isK 0 [.n, .n, .l TB, .b] r2)
 (.node (gn (dOf r2) 0 == (1 : Int))
 (.leaf ((0, [.n (IntKind.wrap .u8 (gn (dOf r2) 1)), .l TB (gl TB (dOf r2) 2), .b (gb (dOf r2) 3)])))
 (.node (gn (dOf r2) 0 == (2 : Int))
 (.leaf ((1, [.n (IntKind.wrap .u16 (gn (dOf r2) 1)), .l TB (gl TB (dOf r2) 2), .b (gb (dOf r2) 3)])))
 (.node (gn (dOf r2) 0 == (4 : Int))
 (.leaf ((2, [.n (IntKind.wrap .u32 (gn (dOf r2) 1)), .l TB (gl TB (dOf r2) 2), .b (gb (dOf r2) 3)])))
 (.leaf ((3, [.n (gn (dOf r2) 1), .l TB (gl TB (dOf r2) 2), .b (gb (dOf r2) 3)]))))))
 (.bad 351)))
 (.bad 351))))
 | _ => .bad 0
theorem fn_34r_t_im (n0 : Int) (l1 : List (Ty.den TB)) (b2 : Bool) : Imp (fn_34r_t [.n n0, .l TB l1, .b b2]) (ev_34r [.n n0, .l TB l1, .b b2]) :=
(.pa [1]
(.nd (fun h0 =>
(.pa [1]
(.nd (fun h1 =>
(.nd (fun h2 =>
(.pa [1]
.lf)) (fun h2 =>
(.nd (fun h3 =>
(.pa [1]
.lf)) (fun h3 =>
(.nd (fun h4 =>
(.pa [1]
.lf)) (fun h4 =>
(.pa [1]
.lf)))))))) (fun h1 =>
.none)))) (fun h0 =>
(.nd (fun h1 =>
(.pa [1]
(.nd (fun h2 =>
(.nd (fun h3 =>
(.pa [1]
.lf)) (fun h3 =>
(.nd (fun h4 =>
(.pa [1]
.lf)) (fun h4 =>
(.nd (fun h5 =>
(.pa [1]
.lf)) (fun h5 =>
(.pa [1]
.lf)))))))) (fun h2 =>
.none)))) (fun h1 =>
.none)))))

noncomputable def cs_34r : FuncId → Option CSpec := csAdd 93 [B34r] cs_33r
theorem cs_34r_ok : CsOk Try.prog cs_34r := csAdd_ok cs_33r_ok fun B hB => by
  cases List.mem_singleton.1 hB
  exact B34r_ok

noncomputable def ev_13r (env : List Dat) : Tree (Nat × List Dat) := Lk.boxCV [(none, 0, .imm TB)] false LK cs_34r 92 ls0 (mkF [.imm TB 0] [] [] [(.ptr 0 0, [rdB 0])] fun _ => none) env
theorem op_13r_ex : ExB ev_13r := exB _
noncomputable def op_13r := Classical.choose op_13r_ex
theorem op_13r_eq (env : List Dat) : op_13r env = (ev_13r env).sel := Classical.choose_spec op_13r_ex env
noncomputable def B13r : FBox := mkF [.imm TB 0] [] [] [(.ptr 0 0, [rdB 0])] op_13r
theorem B13r_ok : RunOk Try.prog 92 (boxRun B13r) := mkFV_ok (cv := [(none, 0, .imm TB)]) (op := op_13r) cs_34r_ok hmix false (LsOk.none _ _ _) (fun env x h => by rw [op_13r_eq] at h; rw [← boxCV_lk]; exact h)

noncomputable def fn_13r_t : List Dat → Tree (Nat × List Dat)
 | [.l (Ty.int IntKind.u8) l0] =>
 (let r1 := (op_31 [.l TB l0]);
 (.node (isK 0 [.l TB] r1)
 (.leaf ((0, [.l TB (gl TB (dOf r1) 0), .b false])))
 (.bad 351)))
 | _ => .bad 0
theorem fn_13r_t_im (l0 : List (Ty.den TB)) : Imp (fn_13r_t [.l TB l0]) (ev_13r [.l TB l0]) :=
(.nd (fun h0 =>
(.pa [1,1]
.lf)) (fun h0 =>
.none))

noncomputable def cs_13r : FuncId → Option CSpec := csAdd 92 [B13r] cs_34r
theorem cs_13r_ok : CsOk Try.prog cs_13r := csAdd_ok cs_34r_ok fun B hB => by
  cases List.mem_singleton.1 hB
  exact B13r_ok

noncomputable def ev_77r (env : List Dat) : Tree (Nat × List Dat) := Lk.boxC false LK cs_13r 77 ls0 (mkF [.ptr 0 0] [rdB 0] [0] [(.int .u8 0, [rdB 1])] fun _ => none) env
theorem op_77r_ex : ExB ev_77r := exB _
noncomputable def op_77r := Classical.choose op_77r_ex
theorem op_77r_eq (env : List Dat) : op_77r env = (ev_77r env).sel := Classical.choose_spec op_77r_ex env
noncomputable def B77r : FBox := mkF [.ptr 0 0] [rdB 0] [0] [(.int .u8 0, [rdB 1])] op_77r
theorem B77r_ok : RunOk Try.prog 77 (boxRun B77r) := mkF_ok (op := op_77r) cs_13r_ok hmix false (LsOk.none _ _ _) (fun env x h => by rw [op_77r_eq] at h; rw [← boxC_lk]; exact h)

noncomputable def fn_77r_t : List Dat → Tree (Nat × List Dat)
 | [.l (Ty.int IntKind.u8) l0, .b b1] =>
 (let r1 := (op_34r [.n (1 : Int), .l TB l0, .b b1]);
 (.node (isK 0 [.n, .l TB, .b] r1)
 (.leaf ((0, [.n (gn (dOf r1) 0), .l TB (gl TB (dOf r1) 1), .b (gb (dOf r1) 2)])))
 (.node (isK 1 [.n, .l TB, .b] r1)
 (.bad 113)
 (.node (isK 2 [.n, .l TB, .b] r1)
 (.bad 113)
 (.node (isK 3 [.n, .l TB, .b] r1)
 (.bad 113)
 (.bad 351))))))
 | _ => .bad 0
theorem fn_77r_t_im (l0 : List (Ty.den TB)) (b1 : Bool) : Imp (fn_77r_t [.l TB l0, .b b1]) (ev_77r [.l TB l0, .b b1]) :=
(.pa [1]
(.nd (fun h0 =>
(.pa [1,1]
.lf)) (fun h0 =>
(.nd (fun h1 =>
(.pa [1]
.none)) (fun h1 =>
(.nd (fun h2 =>
(.pa [1]
.none)) (fun h2 =>
(.nd (fun h3 =>
(.pa [1]
.none)) (fun h3 =>
.none)))))))))

noncomputable def cs_77r : FuncId → Option CSpec := csAdd 77 [B77r] cs_13r
theorem cs_77r_ok : CsOk Try.prog cs_77r := csAdd_ok cs_13r_ok fun B hB => by
  cases List.mem_singleton.1 hB
  exact B77r_ok

noncomputable def ev_78r (env : List Dat) : Tree (Nat × List Dat) := Lk.boxC false LK cs_77r 78 ls0 (mkF [.ptr 0 0] [rdB 0] [0] [(.int .u64 0, [rdB 1])] fun _ => none) env
theorem op_78r_ex : ExB ev_78r := exB _
noncomputable def op_78r := Classical.choose op_78r_ex
theorem op_78r_eq (env : List Dat) : op_78r env = (ev_78r env).sel := Classical.choose_spec op_78r_ex env
noncomputable def B78r : FBox := mkF [.ptr 0 0] [rdB 0] [0] [(.int .u64 0, [rdB 1])] op_78r
theorem B78r_ok : RunOk Try.prog 78 (boxRun B78r) := mkF_ok (op := op_78r) cs_77r_ok hmix false (LsOk.none _ _ _) (fun env x h => by rw [op_78r_eq] at h; rw [← boxC_lk]; exact h)

noncomputable def fn_78r_t : List Dat → Tree (Nat × List Dat)
 | [.l (Ty.int IntKind.u8) l0, .b b1] =>
 (let r1 := (op_34r [.n (8 : Int), .l TB l0, .b b1]);
 (.node (isK 0 [.n, .l TB, .b] r1)
 (.bad 113)
 (.node (isK 1 [.n, .l TB, .b] r1)
 (.bad 113)
 (.node (isK 2 [.n, .l TB, .b] r1)
 (.bad 113)
 (.node (isK 3 [.n, .l TB, .b] r1)
 (.leaf ((0, [.n (gn (dOf r1) 0), .l TB (gl TB (dOf r1) 1), .b (gb (dOf r1) 2)])))
 (.bad 351))))))
 | _ => .bad 0
theorem fn_78r_t_im (l0 : List (Ty.den TB)) (b1 : Bool) : Imp (fn_78r_t [.l TB l0, .b b1]) (ev_78r [.l TB l0, .b b1]) :=
(.pa [1]
(.nd (fun h0 =>
(.pa [1]
.none)) (fun h0 =>
(.nd (fun h1 =>
(.pa [1]
.none)) (fun h1 =>
(.nd (fun h2 =>
(.pa [1]
.none)) (fun h2 =>
(.nd (fun h3 =>
(.pa [1,1]
.lf)) (fun h3 =>
.none)))))))))

noncomputable def cs_78r : FuncId → Option CSpec := csAdd 78 [B78r] cs_77r
theorem cs_78r_ok : CsOk Try.prog cs_78r := csAdd_ok cs_77r_ok fun B hB => by
  cases List.mem_singleton.1 hB
  exact B78r_ok

noncomputable def ev_79r (env : List Dat) : Tree (Nat × List Dat) := Lk.boxC false LK cs_78r 79 ls0 (mkF [.ptr 0 0] [rdB 0] [0] [(.int .u32 0, [rdB 1])] fun _ => none) env
theorem op_79r_ex : ExB ev_79r := exB _
noncomputable def op_79r := Classical.choose op_79r_ex
theorem op_79r_eq (env : List Dat) : op_79r env = (ev_79r env).sel := Classical.choose_spec op_79r_ex env
noncomputable def B79r : FBox := mkF [.ptr 0 0] [rdB 0] [0] [(.int .u32 0, [rdB 1])] op_79r
theorem B79r_ok : RunOk Try.prog 79 (boxRun B79r) := mkF_ok (op := op_79r) cs_78r_ok hmix false (LsOk.none _ _ _) (fun env x h => by rw [op_79r_eq] at h; rw [← boxC_lk]; exact h)

noncomputable def fn_79r_t : List Dat → Tree (Nat × List Dat)
 | [.l (Ty.int IntKind.u8) l0, .b b1] =>
 (let r1 := (op_34r [.n (4 : Int), .l TB l0, .b b1]);
 (.node (isK 0 [.n, .l TB, .b] r1)
 (.bad 113)
 (.node (isK 1 [.n, .l TB, .b] r1)
 (.bad 113)
 (.node (isK 2 [.n, .l TB, .b] r1)
 (.leaf ((0, [.n (gn (dOf r1) 0), .l TB (gl TB (dOf r1) 1), .b (gb (dOf r1) 2)])))
 (.node (isK 3 [.n, .l TB, .b] r1)
 (.bad 113)
 (.bad 351))))))
 | _ => .bad 0
theorem fn_79r_t_im (l0 : List (Ty.den TB)) (b1 : Bool) : Imp (fn_79r_t [.l TB l0, .b b1]) (ev_79r [.l TB l0, .b b1]) :=
(.pa [1]
(.nd (fun h0 =>
(.pa [1]
.none)) (fun h0 =>
(.nd (fun h1 =>
(.pa [1]
.none)) (fun h1 =>
(.nd (fun h2 =>
(.pa [1,1]
.lf)) (fun h2 =>
(.nd (fun h3 =>
(.pa [1]
.none)) (fun h3 =>
.none)))))))))

noncomputable def cs_79r : FuncId → Option CSpec := csAdd 79 [B79r] cs_78r
theorem cs_79r_ok : CsOk Try.prog cs_79r := csAdd_ok cs_78r_ok fun B hB => by
  cases List.mem_singleton.1 hB
  exact B79r_ok

noncomputable def ev_83r (env : List Dat) : Tree (Nat × List Dat) := Lk.boxC false LK cs_79r 83 ls0 (mkF [.ptr 0 0] [rdB 0] [0] [(.int .u16 0, [rdB 1])] fun _ => none) env
theorem op_83r_ex : ExB ev_83r := exB _
noncomputable def op_83r := Classical.choose op_83r_ex
theorem op_83r_eq (env : List Dat) : op_83r env = (ev_83r env).sel := Classical.choose_spec op_83r_ex env
noncomputable def B83r : FBox := mkF [.ptr 0 0] [rdB 0] [0] [(.int .u16 0, [rdB 1])] op_83r
theorem B83r_ok : RunOk Try.prog 83 (boxRun B83r) := mkF_ok (op := op_83r) cs_79r_ok hmix false (LsOk.none _ _ _) (fun env x h => by rw [op_83r_eq] at h; rw [← boxC_lk]; exact h)

noncomputable def fn_83r_t : List Dat → Tree (Nat × List Dat)
 | [.l (Ty.int IntKind.u8) l0, .b b1] =>
 (let r1 := (op_34r [.n (2 : Int), .l TB l0, .b b1]);
 (.node (isK 0 [.n, .l TB, .b] r1)
 (.bad 113)
 (.node (isK 1 [.n, .l TB, .b] r1)
 (.leaf ((0, [.n (gn (dOf r1) 0), .l TB (gl TB (dOf r1) 1), .b (gb (dOf r1) 2)])))
 (.node (isK 2 [.n, .l TB, .b] r1)
 (.bad 113)
 (.node (isK 3 [.n, .l TB, .b] r1)
 (.bad 113)
 (.bad 351))))))
 | _ => .bad 0
theorem fn_83r_t_im (l0 : List (Ty.den TB)) (b1 : Bool) : Imp (fn_83r_t [.l TB l0, .b b1]) (ev_83r [.l TB l0, .b b1]) :=
(.pa [1]
(.nd (fun h0 =>
(.pa [1]
.none)) (fun h0 =>
(.nd (fun h1 =>
(.pa [1,1]
.lf)) (fun h1 =>
(.nd (fun h2 =>
(.pa [1]
.none)) (fun h2 =>
(.nd (fun h3 =>
(.pa [1]
.none)) (fun h3 =>
.none)))))))))

noncomputable def cs_83r : FuncId → Option CSpec := csAdd 83 [B83r] cs_79r
theorem cs_83r_ok : CsOk Try.prog cs_83r := csAdd_ok cs_79r_ok fun B hB => by
  cases List.mem_singleton.1 hB
  exact B83r_ok

noncomputable def ev_82r (env : List Dat) : Tree (Nat × List Dat) := Lk.boxC false LK cs_83r 82 ls0 (mkF [.ptr 0 0, .int .i64 0] [rdB 1] [0] [(.own 1, [rdB 0, .arr TB 2])] fun _ => none) env
theorem op_82r_ex : ExB ev_82r := exB _
noncomputable def op_82r := Classical.choose op_82r_ex
theorem op_82r_eq (env : List Dat) : op_82r env = (ev_82r env).sel := Classical.choose_spec op_82r_ex env
noncomputable def B82r : FBox := mkF [.ptr 0 0, .int .i64 0] [rdB 1] [0] [(.own 1, [rdB 0, .arr TB 2])] op_82r
theorem B82r_ok : RunOk Try.prog 82 (boxRun B82r) := mkF_ok (op := op_82r) cs_83r_ok hmix false (LsOk.none _ _ _) (fun env x h => by rw [op_82r_eq] at h; rw [← boxC_lk]; exact h)

noncomputable def fn_82r_t : List Dat → Tree (Nat × List Dat)
 | [.n n0, .l (Ty.int IntKind.u8) l1, .b b2] =>
 (let r1 := (op_33r [.n n0, .l TB l1, .b b2]);
 (.node (isK 0 [.l TB, .l TB, .b] r1)
 (let r2 := (op_31 [.l TB (gl TB (dOf r1) 0)]);
 (.node (isK 0 [.l TB] r2)
 (.leaf ((0, [.l TB (gl TB (dOf r1) 1), .b (gb (dOf r1) 2), .l TB (gl TB (dOf r2) 0)])))
 (.bad 351)))
 (.node (isK 1 [.l TB, .b] r1)
 (.leaf ((0, [.l TB (gl TB (dOf r1) 0), .b (gb (dOf r1) 1), .l TB (gl TB (dOf (op_31 [.l TB []])) 0)])))
 (.bad 351))))
 | _ => .bad 0
theorem fn_82r_t_im (n0 : Int) (l1 : List (Ty.den TB)) (b2 : Bool) : Imp (fn_82r_t [.n n0, .l TB l1, .b b2]) (ev_82r [.n n0, .l TB l1, .b b2]) :=
(.pa [1]
(.nd (fun h0 =>
(.pa [1]
(.nd (fun h1 =>
(.pa [1,1]
.lf)) (fun h1 =>
.none)))) (fun h0 =>
(.nd (fun h1 =>
(.pa [1,1,1,1]
.lf)) (fun h1 =>
.none)))))

noncomputable def cs_82r : FuncId → Option CSpec := csAdd 82 [B82r] cs_83r
theorem cs_82r_ok : CsOk Try.prog cs_82r := csAdd_ok cs_83r_ok fun B hB => by
  cases List.mem_singleton.1 hB
  exact B82r_ok

noncomputable def ev_74r (env : List Dat) : Tree (Nat × List Dat) := Lk.boxC false LK cs_82r 74 ls0 (mkF [.imm TB 0, .int .u8 1] [] [] [(.tup [.ptr 0 0, .bool 0], [rdB 1]), (.tup [.nilptr, .bool 0], [])] fun _ => none) env
theorem op_74r_ex : ExB ev_74r := exB _
noncomputable def op_74r := Classical.choose op_74r_ex
theorem op_74r_eq (env : List Dat) : op_74r env = (ev_74r env).sel := Classical.choose_spec op_74r_ex env
noncomputable def B74r : FBox := mkF [.imm TB 0, .int .u8 1] [] [] [(.tup [.ptr 0 0, .bool 0], [rdB 1]), (.tup [.nilptr, .bool 0], [])] op_74r
theorem B74r_ok : RunOk Try.prog 74 (boxRun B74r) := mkF_ok (op := op_74r) cs_82r_ok hmix false (LsOk.none _ _ _) (fun env x h => by rw [op_74r_eq] at h; rw [← boxC_lk]; exact h)

noncomputable def fn_74r_t : List Dat → Tree (Nat × List Dat)
 | [.l (Ty.int IntKind.u8) l0, .n n1] =>
 (.node (decide (IntKind.wrap .i64 ((↑(List.length l0) : Int) - (4 : Int)) < (1 : Int)))
 (.leaf ((1, [.b false])))
 (.node ((List.getD l0 0 (0 : Int) : Int) != n1)
 (.leaf ((1, [.b false])))
 (let r1 := (op_13r [.l TB (List.drop (Int.toNat (IntKind.wrap .i64 ((↑(List.length l0) : Int) - (4 : Int)))) l0)]);
 (.node (isK 0 [.l TB, .b] r1)
 (let r2 := (op_79r [.l TB (gl TB (dOf r1) 0), .b (gb (dOf r1) 1)]);
 (.node (isK 0 [.n, .l TB, .b] r2)
 (.node (true && decide ((0 : Int) ≤ IntKind.wrap .i64 ((↑(List.length l0) : Int) - (4 : Int))))
 (let r3 := (op_q12 [.l TB (List.take (Int.toNat (IntKind.wrap .i64 ((↑(List.length l0) : Int) - (4 : Int)))) l0)]);
 (.node (isK 0 [.n] r3)
 (.node (gn (dOf r2) 0 != gn (dOf r3) 0)
 (.leaf ((1, [.b false])))
 (.node (true && decide ((1 : Int) ≤ IntKind.wrap .i64 ((↑(List.length l0) : Int) - (4 : Int))))
 (let r4 := (op_13r [.l TB (List.drop 1 (List.take (Int.toNat (IntKind.wrap .i64 ((↑(List.length l0) : Int) - (4 : Int)))) l0))]);
 (.node (isK 0 [.l TB, .b] r4)
 (.leaf ((0, [.b true, .l TB (gl TB (dOf r4) 0), .b (gb (dOf r4) 1)])))
 (.bad 351)))
 (.bad 43)))
 (.bad 351)))
 (.bad 43))
 (.bad 351)))
 (.bad 351)))))
 | _ => .bad 0
theorem fn_74r_t_im (l0 : List (Ty.den TB)) (n1 : Int) : Imp (fn_74r_t [.l TB l0, .n n1]) (ev_74r [.l TB l0, .n n1]) :=
(.nd (fun h0 =>
(.pa [1,1,1,1,1,1]
.lf)) (fun h0 =>
(.pt (c := (inR (0 : Int) (List.length l0))) (by kernel_rfl) (by kernel_rfl) (by (simp only [w64d, decide_eq_true_eq, decide_eq_false_iff_not, beq_iff_eq, beq_eq_false_iff_ne, bne_iff_ne, ne_eq, inR, Bool.and_eq_true, Bool.and_eq_false_iff, Bool.not_eq_true', Bool.not_eq_false', Bool.not_eq_eq_eq_not, Bool.not_true, Bool.not_false] at *; omega))
(.nd (fun h1 =>
(.pa [1,1,1,1]
.lf)) (fun h1 =>
(.sT ((true && decide ((↑(List.length l0) : Int) ≤ (↑(List.length l0) : Int))))
(.pt (c := (decide ((0 : Int) ≤ IntKind.wrap .i64 ((↑(List.length l0) : Int) - (4 : Int))) && decide (IntKind.wrap .i64 ((↑(List.length l0) : Int) - (4 : Int)) ≤ (↑(List.length l0) : Int)))) (by kernel_rfl) (by kernel_rfl) (by (simp only [w64d, decide_eq_true_eq, decide_eq_false_iff_not, beq_iff_eq, beq_eq_false_iff_ne, bne_iff_ne, ne_eq, inR, Bool.and_eq_true, Bool.and_eq_false_iff, Bool.not_eq_true', Bool.not_eq_false', Bool.not_eq_eq_eq_not, Bool.not_true, Bool.not_false] at *; omega))
(.pa [1]
(.nd (fun h2 =>
(.pa [1,1]
(.nd (fun h3 =>
(.pa [1]
(.pt (c := (decide ((0 : Int) ≤ IntKind.wrap .i64 ((↑(List.length l0) : Int) - (4 : Int))) && decide (IntKind.wrap .i64 ((↑(List.length l0) : Int) - (4 : Int)) ≤ (↑(List.length l0) : Int)))) (by kernel_rfl) (by kernel_rfl) (by (simp only [w64d, decide_eq_true_eq, decide_eq_false_iff_not, beq_iff_eq, beq_eq_false_iff_ne, bne_iff_ne, ne_eq, inR, Bool.and_eq_true, Bool.and_eq_false_iff, Bool.not_eq_true', Bool.not_eq_false', Bool.not_eq_eq_eq_not, Bool.not_true, Bool.not_false] at *; omega))
(.nd (fun h4 =>
(.nd (fun h5 =>
(.pa [1,1]
(.nd (fun h6 =>
(.pa [1]
.lf)) (fun h6 =>
(.pt (c := (decide ((0 : Int) ≤ IntKind.wrap .i64 ((↑(List.length l0) : Int) - (4 : Int))) && decide (IntKind.wrap .i64 ((↑(List.length l0) : Int) - (4 : Int)) ≤ (↑(List.length l0) : Int)))) (by kernel_rfl) (by kernel_rfl) (by (simp only [w64d, decide_eq_true_eq, decide_eq_false_iff_not, beq_iff_eq, beq_eq_false_iff_ne, bne_iff_ne, ne_eq, inR, Bool.and_eq_true, Bool.and_eq_false_iff, Bool.not_eq_true', Bool.not_eq_false', Bool.not_eq_eq_eq_not, Bool.not_true, Bool.not_false] at *; omega))
(.nd (fun h7 =>
(.pa [1]
(.nd (fun h8 =>
(.pa [1,1]
.lf)) (fun h8 =>
.none)))) (fun h7 =>
.none))))))) (fun h5 =>
.none))) (fun h4 =>
.none))))) (fun h3 =>
.none)))) (fun h2 =>
.none))))))))))

noncomputable def cs_74r : FuncId → Option CSpec := csAdd 74 [B74r] cs_82r
theorem cs_74r_ok : CsOk Try.prog cs_74r := csAdd_ok cs_82r_ok fun B hB => by
  cases List.mem_singleton.1 hB
  exact B74r_ok

noncomputable def st_L45r_4 (env : List Dat) : Tree Step := Lk.stepMC false LK cs_74r 45 4 ls0 (mkM (cv := [(3, [], 5, .own TC)]) 1 [0] [(sh 37 [(0, .ptr 0 0), (2, .ptr 1 0), (3, .ptr 2 0), (19, .int .u8 0), (20, .int .u8 1)], [rdB 2, inC 4 .nilsl, inC 9 (.own 3), .arr TC 14])] [] [(.exit 0, sh 37 [(0, .ptr 0 0), (2, .ptr 1 0), (3, .ptr 2 0)], [rdB 0, inC 2 .nilsl, inC 7 (.own 3), .arr TC 12])] fun _ => none) env
theorem op_L45r_4_ex : ExL st_L45r_4 := exL _
noncomputable def op_L45r_4 := Classical.choose op_L45r_4_ex
theorem op_L45r_4_eq (env : List Dat) : op_L45r_4 env = iterS st_L45r_4 FU env := Classical.choose_spec op_L45r_4_ex env
noncomputable def L45r_4 : MBox := mkM (cv := [(3, [], 5, .own TC)]) 1 [0] [(sh 37 [(0, .ptr 0 0), (2, .ptr 1 0), (3, .ptr 2 0), (19, .int .u8 0), (20, .int .u8 1)], [rdB 2, inC 4 .nilsl, inC 9 (.own 3), .arr TC 14])] [] [(.exit 0, sh 37 [(0, .ptr 0 0), (2, .ptr 1 0), (3, .ptr 2 0)], [rdB 0, inC 2 .nilsl, inC 7 (.own 3), .arr TC 12])] op_L45r_4
theorem L45r_4_eqs : L45r_4 = mkM (cv := [(3, [], 5, .own TC)]) 1 [0] [(sh 37 [(0, .ptr 0 0), (2, .ptr 1 0), (3, .ptr 2 0), (19, .int .u8 0), (20, .int .u8 1)], [rdB 2, inC 4 .nilsl, inC 9 (.own 3), .arr TC 14])] [] [(.exit 0, sh 37 [(0, .ptr 0 0), (2, .ptr 1 0), (3, .ptr 2 0)], [rdB 0, inC 2 .nilsl, inC 7 (.own 3), .arr TC 12])] (iterS st_L45r_4 FU) := congrArg (fun f => mkM (cv := [(3, [], 5, .own TC)]) 1 [0] [(sh 37 [(0, .ptr 0 0), (2, .ptr 1 0), (3, .ptr 2 0), (19, .int .u8 0), (20, .int .u8 1)], [rdB 2, inC 4 .nilsl, inC 9 (.own 3), .arr TC 14])] [] [(.exit 0, sh 37 [(0, .ptr 0 0), (2, .ptr 1 0), (3, .ptr 2 0)], [rdB 0, inC 2 .nilsl, inC 7 (.own 3), .arr TC 12])] f) (funext op_L45r_4_eq)
theorem L45r_4_run : ∀ t s x, (manyRun L45r_4 t s).sel = some x → CodeOk Try.prog 1 (.loop (cAt Try.prog 45 4)) t s x := by
  rw [L45r_4_eqs]
  exact mkM_ok (st := st_L45r_4) (m := FU) cs_74r_ok hmix false (LsOk.none _ _ _) (by kernel_rfl) (fun env y h => by rw [← stepMC_lk]; exact h)

noncomputable def fn_L45r_4_t : List Dat → Tree Step
 | [.n n0, .n n1, .l (Ty.int IntKind.u8) l2, .b b3, .n n4, .n n5, .n n6, .n n7, .n n8, .l (Ty.pair (Ty.int IntKind.u8) (Ty.int IntKind.i64)) l9] =>
 (.node (decide (n1 < n0))
 (let r1 := (op_77r [.l TB l2, .b b3]);
 (.node (isK 0 [.n, .l TB, .b] r1)
 (let r2 := (op_77r [.l TB (gl TB (dOf r1) 1), .b (gb (dOf r1) 2)]);
 (.node (isK 0 [.n, .l TB, .b] r2)
 (.node (decide ((List.length l9 + 1) * 16 ≤ 140737488355328))
 (.leaf (Step.go [.k 0, .n n0, .n (IntKind.wrap .u8 (n1 + (1 : Int))), .l TB (gl TB (dOf r2) 1), .b (gb (dOf r2) 2), .n (0 : Int), .n (0 : Int), .n (0 : Int), .n (0 : Int), .n (0 : Int), .n n4, .n n5, .n n6, .n n7, .n n8, .l TC (apC l9 (gn (dOf r1) 0) (IntKind.wrap .i64 (gn (dOf r2) 0)))]))
 (.bad 62))
 (.bad 351)))
 (.bad 351)))
 (.leaf (Step.stop 0 [.l TB l2, .b b3, .n (0 : Int), .n (0 : Int), .n (0 : Int), .n (0 : Int), .n (0 : Int), .n n4, .n n5, .n n6, .n n7, .n n8, .l TC l9])))
 | _ => .bad 0
theorem fn_L45r_4_t_im (n0 : Int) (n1 : Int) (l2 : List (Ty.den TB)) (b3 : Bool) (n4 : Int) (n5 : Int) (n6 : Int) (n7 : Int) (n8 : Int) (l9 : List (Ty.den TC)) : Imp (fn_L45r_4_t [.n n0, .n n1, .l TB l2, .b b3, .n n4, .n n5, .n n6, .n n7, .n n8, .l TC l9]) (st_L45r_4 [.k 0, .n n0, .n n1, .l TB l2, .b b3, .n 0, .n 0, .n 0, .n 0, .n 0, .n n4, .n n5, .n n6, .n n7, .n n8, .l TC l9]) :=
(.pa [1]
(.nd (fun h0 =>
(.pa [1]
(.nd (fun h1 =>
(.pa [1,1]
(.nd (fun h2 =>
(.pa [1]
(.nd (fun h3 =>
(.pa [1,1]
.lf)) (fun h3 =>
.none)))) (fun h2 =>
.none)))) (fun h1 =>
.none)))) (fun h0 =>
(.pa [1]
.lf))))

theorem ls_45r_ok : LsOk Try.prog (List.length ([rdB 0] : List PB)) (lsM [(4, L45r_4)] (List.length ([rdB 0] : List PB))) (bodyOf Try.prog 45) := LsOk.many fun j B hB hk c hc hi => by
  simp only [lookM] at hB
  split at hB
  · rename_i e; have := Nat.eq_of_beq_eq_true e; subst this; cases hB
    have e1 : loopAt Try.prog 45 4 = [cAt Try.prog 45 4] := loopAt_one (by kernel_rfl)
    have e2 : c ∈ loopAt Try.prog 45 4 := loopsAt_mem hc hi
    rw [e1] at e2; cases List.mem_singleton.1 e2; exact L45r_4_run
  cases hB

noncomputable def ev_45r (env : List Dat) : Tree (Nat × List Dat) := Lk.boxC false LK cs_74r 45 (lsM [(4, L45r_4)] (List.length ([rdB 0] : List PB))) (mkF [.ptr 0 0] [rdB 0] [0] [(inO 0 (.own 1), [rdB 5, .arr TC 7])] fun _ => none) env
theorem op_45r_ex : ExB ev_45r := exB _
noncomputable def op_45r := Classical.choose op_45r_ex
theorem op_45r_eq (env : List Dat) : op_45r env = (ev_45r env).sel := Classical.choose_spec op_45r_ex env
noncomputable def B45r : FBox := mkF [.ptr 0 0] [rdB 0] [0] [(inO 0 (.own 1), [rdB 5, .arr TC 7])] op_45r
theorem B45r_ok : RunOk Try.prog 45 (boxRun B45r) := mkF_ok (op := op_45r) cs_74r_ok hmix false (ls_45r_ok) (fun env x h => by rw [op_45r_eq] at h; rw [← boxC_lk]; exact h)

noncomputable def fn_45r_t : List Dat → Tree (Nat × List Dat)
 | [.l (Ty.int IntKind.u8) l0, .b b1] =>
 (let r1 := (op_77r [.l TB l0, .b b1]);
 (.node (isK 0 [.n, .l TB, .b] r1)
 (let r2 := (op_78r [.l TB (gl TB (dOf r1) 1), .b (gb (dOf r1) 2)]);
 (.node (isK 0 [.n, .l TB, .b] r2)
 (let r3 := (op_78r [.l TB (gl TB (dOf r2) 1), .b (gb (dOf r2) 2)]);
 (.node (isK 0 [.n, .l TB, .b] r3)
 (let r4 := (op_79r [.l TB (gl TB (dOf r3) 1), .b (gb (dOf r3) 2)]);
 (.node (isK 0 [.n, .l TB, .b] r4)
 (let r5 := (op_79r [.l TB (gl TB (dOf r4) 1), .b (gb (dOf r4) 2)]);
 (.node (isK 0 [.n, .l TB, .b] r5)
 (let r6 := (op_77r [.l TB (gl TB (dOf r5) 1), .b (gb (dOf r5) 2)]);
 (.node (isK 0 [.n, .l TB, .b] r6)
 (let r7 := (op_L45r_4 [.k 0, .n (gn (dOf r6) 0), .n (0 : Int), .l TB (gl TB (dOf r6) 1), .b (gb (dOf r6) 2), .n (0 : Int), .n (0 : Int), .n (0 : Int), .n (0 : Int), .n (0 : Int), .n (gn (dOf r1) 0), .n (IntKind.wrap .i64 (gn (dOf r2) 0)), .n (gn (dOf r3) 0), .n (gn (dOf r4) 0), .n (gn (dOf r5) 0), .l TC []]);
 (.node (isK 0 [.l TB, .b, .n, .n, .n, .n, .n, .n, .n, .n, .n, .n, .l TC] r7)
 (.leaf ((0, [.n (gn (dOf r7) 7), .n (gn (dOf r7) 8), .n (gn (dOf r7) 9), .n (gn (dOf r7) 10), .n (gn (dOf r7) 11), .l TB (gl TB (dOf r7) 0), .b (gb (dOf r7) 1), .l TC (gl TC (dOf r7) 12)])))
 (.bad 351)))
 (.bad 351)))
 (.bad 351)))
 (.bad 351)))
 (.bad 351)))
 (.bad 351)))
 (.bad 351)))
 | _ => .bad 0
theorem fn_45r_t_im (l0 : List (Ty.den TB)) (b1 : Bool) : Imp (fn_45r_t [.l TB l0, .b b1]) (ev_45r [.l TB l0, .b b1]) :=
(.pa [1]
(.nd (fun h0 =>
(.pa [1,1]
(.nd (fun h1 =>
(.pa [1,1]
(.nd (fun h2 =>
(.pa [1,1]
(.nd (fun h3 =>
(.pa [1,1]
(.nd (fun h4 =>
(.pa [1,1]
(.nd (fun h5 =>
(.pa [1]
(.nd (fun h6 =>
(.pa [1]
.lf)) (fun h6 =>
.none)))) (fun h5 =>
.none)))) (fun h4 =>
.none)))) (fun h3 =>
.none)))) (fun h2 =>
.none)))) (fun h1 =>
.none)))) (fun h0 =>
.none)))

noncomputable def cs_45r : FuncId → Option CSpec := csAdd 45 [B45r] cs_74r
theorem cs_45r_ok : CsOk Try.prog cs_45r := csAdd_ok cs_74r_ok fun B hB => by
  cases List.mem_singleton.1 hB
  exact B45r_ok

noncomputable def ev_49r (env : List Dat) : Tree (Nat × List Dat) := Lk.boxC false LK cs_45r 49 ls0 (mkF [.ptr 0 0] [rdB 0] [0] [(ouV 0, [rdB 5])] fun _ => none) env
theorem op_49r_ex : ExB ev_49r := exB _
noncomputable def op_49r := Classical.choose op_49r_ex
theorem op_49r_eq (env : List Dat) : op_49r env = (ev_49r env).sel := Classical.choose_spec op_49r_ex env
noncomputable def B49r : FBox := mkF [.ptr 0 0] [rdB 0] [0] [(ouV 0, [rdB 5])] op_49r
theorem B49r_ok : RunOk Try.prog 49 (boxRun B49r) := mkF_ok (op := op_49r) cs_45r_ok hmix false (LsOk.none _ _ _) (fun env x h => by rw [op_49r_eq] at h; rw [← boxC_lk]; exact h)

noncomputable def fn_49r_t : List Dat → Tree (Nat × List Dat)
 | [.l (Ty.int IntKind.u8) l0, .b b1] =>
 (let r1 := (op_77r [.l TB l0, .b b1]);
 (.node (isK 0 [.n, .l TB, .b] r1)
 (let r2 := (op_78r [.l TB (gl TB (dOf r1) 1), .b (gb (dOf r1) 2)]);
 (.node (isK 0 [.n, .l TB, .b] r2)
 (let r3 := (op_78r [.l TB (gl TB (dOf r2) 1), .b (gb (dOf r2) 2)]);
 (.node (isK 0 [.n, .l TB, .b] r3)
 (let r4 := (op_78r [.l TB (gl TB (dOf r3) 1), .b (gb (dOf r3) 2)]);
 (.node (isK 0 [.n, .l TB, .b] r4)
 (let r5 := (op_79r [.l TB (gl TB (dOf r4) 1), .b (gb (dOf r4) 2)]);
 (.node (isK 0 [.n, .l TB, .b] r5)
 (.leaf ((0, [.n (gn (dOf r1) 0), .n (IntKind.wrap .i64 (gn (dOf r2) 0)), .n (IntKind.wrap .i64 (gn (dOf r3) 0)), .n (gn (dOf r4) 0), .n (gn (dOf r5) 0), .l TB (gl TB (dOf r5) 1), .b (gb (dOf r5) 2)])))
 (.bad 351)))
 (.bad 351)))
 (.bad 351)))
 (.bad 351)))
 (.bad 351)))
 | _ => .bad 0
theorem fn_49r_t_im (l0 : List (Ty.den TB)) (b1 : Bool) : Imp (fn_49r_t [.l TB l0, .b b1]) (ev_49r [.l TB l0, .b b1]) :=
(.pa [1]
(.nd (fun h0 =>
(.pa [1,1]
(.nd (fun h1 =>
(.pa [1,1]
(.nd (fun h2 =>
(.pa [1,1]
(.nd (fun h3 =>
(.pa [1,1]
(.nd (fun h4 =>
(.pa [1,1]
.lf)) (fun h4 =>
.none)))) (fun h3 =>
.none)))) (fun h2 =>
.none)))) (fun h1 =>
.none)))) (fun h0 =>
.none)))

noncomputable def cs_49r : FuncId → Option CSpec := csAdd 49 [B49r] cs_45r
theorem cs_49r_ok : CsOk Try.prog cs_49r := csAdd_ok cs_45r_ok fun B hB => by
  cases List.mem_singleton.1 hB
  exact B49r_ok

noncomputable def ev_52r (env : List Dat) : Tree (Nat × List Dat) := Lk.boxC false LK cs_49r 52 ls0 (mkF [.ptr 0 0] [rdB 0] [0] [(stV 0, [rdB 5])] fun _ => none) env
theorem op_52r_ex : ExB ev_52r := exB _
noncomputable def op_52r := Classical.choose op_52r_ex
theorem op_52r_eq (env : List Dat) : op_52r env = (ev_52r env).sel := Classical.choose_spec op_52r_ex env
noncomputable def B52r : FBox := mkF [.ptr 0 0] [rdB 0] [0] [(stV 0, [rdB 5])] op_52r
theorem B52r_ok : RunOk Try.prog 52 (boxRun B52r) := mkF_ok (op := op_52r) cs_49r_ok hmix false (LsOk.none _ _ _) (fun env x h => by rw [op_52r_eq] at h; rw [← boxC_lk]; exact h)

noncomputable def fn_52r_t : List Dat → Tree (Nat × List Dat)
 | [.l (Ty.int IntKind.u8) l0, .b b1] =>
 (let r1 := (op_78r [.l TB l0, .b b1]);
 (.node (isK 0 [.n, .l TB, .b] r1)
 (let r2 := (op_78r [.l TB (gl TB (dOf r1) 1), .b (gb (dOf r1) 2)]);
 (.node (isK 0 [.n, .l TB, .b] r2)
 (let r3 := (op_78r [.l TB (gl TB (dOf r2) 1), .b (gb (dOf r2) 2)]);
 (.node (isK 0 [.n, .l TB, .b] r3)
 (let r4 := (op_82r [.n (64 : Int), .l TB (gl TB (dOf r3) 1), .b (gb (dOf r3) 2)]);
 (.node (isK 0 [.l TB, .b, .l TB] r4)
 (let r5 := (op_79r [.l TB (gl TB (dOf r4) 0), .b (gb (dOf r4) 1)]);
 (.node (isK 0 [.n, .l TB, .b] r5)
 (.leaf ((0, [.n (gn (dOf r1) 0), .n (gn (dOf r2) 0), .n (gn (dOf r3) 0), .l TB (List.take 64 (gl TB (dOf r4) 2) ++ List.drop (List.length (gl TB (dOf r4) 2)) (List.replicate 64 (0 : Int))), .n (gn (dOf r5) 0), .l TB (gl TB (dOf r5) 1), .b (gb (dOf r5) 2)])))
 (.bad 351)))
 (.bad 351)))
 (.bad 351)))
 (.bad 351)))
 (.bad 351)))
 | _ => .bad 0
theorem fn_52r_t_im (l0 : List (Ty.den TB)) (b1 : Bool) : Imp (fn_52r_t [.l TB l0, .b b1]) (ev_52r [.l TB l0, .b b1]) :=
(.pa [1]
(.nd (fun h0 =>
(.pa [1,1]
(.nd (fun h1 =>
(.pa [1,1]
(.nd (fun h2 =>
(.pa [1,1,1]
(.nd (fun h3 =>
(.pa [1,1,1]
(.nd (fun h4 =>
(.pa [1,1]
.lf)) (fun h4 =>
.none)))) (fun h3 =>
.none)))) (fun h2 =>
.none)))) (fun h1 =>
.none)))) (fun h0 =>
.none)))

noncomputable def cs_52r : FuncId → Option CSpec := csAdd 52 [B52r] cs_49r
theorem cs_52r_ok : CsOk Try.prog cs_52r := csAdd_ok cs_49r_ok fun B hB => by
  cases List.mem_singleton.1 hB
  exact B52r_ok

noncomputable def ev_56r (env : List Dat) : Tree (Nat × List Dat) := Lk.boxC false LK cs_52r 56 ls0 (mkF [.ptr 0 0] [rdB 0] [0] [(loV 0, [rdB 7])] fun _ => none) env
theorem op_56r_ex : ExB ev_56r := exB _
noncomputable def op_56r := Classical.choose op_56r_ex
theorem op_56r_eq (env : List Dat) : op_56r env = (ev_56r env).sel := Classical.choose_spec op_56r_ex env
noncomputable def B56r : FBox := mkF [.ptr 0 0] [rdB 0] [0] [(loV 0, [rdB 7])] op_56r
theorem B56r_ok : RunOk Try.prog 56 (boxRun B56r) := mkF_ok (op := op_56r) cs_52r_ok hmix false (LsOk.none _ _ _) (fun env x h => by rw [op_56r_eq] at h; rw [← boxC_lk]; exact h)

noncomputable def fn_56r_t : List Dat → Tree (Nat × List Dat)
 | [.l (Ty.int IntKind.u8) l0, .b b1] =>
 (let r1 := (op_78r [.l TB l0, .b b1]);
 (.node (isK 0 [.n, .l TB, .b] r1)
 (let r2 := (op_78r [.l TB (gl TB (dOf r1) 1), .b (gb (dOf r1) 2)]);
 (.node (isK 0 [.n, .l TB, .b] r2)
 (let r3 := (op_52r [.l TB (gl TB (dOf r2) 1), .b (gb (dOf r2) 2)]);
 (.node (isK 0 [.n, .n, .n, .l TB, .n, .l TB, .b] r3)
 (.leaf ((0, [.n (IntKind.wrap .i64 (gn (dOf r1) 0)), .n (IntKind.wrap .i64 (gn (dOf r2) 0)), .n (gn (dOf r3) 0), .n (gn (dOf r3) 1), .n (gn (dOf r3) 2), .l TB (gl TB (dOf r3) 3), .n (gn (dOf r3) 4), .l TB (gl TB (dOf r3) 5), .b (gb (dOf r3) 6)])))
 (.bad 351)))
 (.bad 351)))
 (.bad 351)))
 | _ => .bad 0
theorem fn_56r_t_im (l0 : List (Ty.den TB)) (b1 : Bool) : Imp (fn_56r_t [.l TB l0, .b b1]) (ev_56r [.l TB l0, .b b1]) :=
(.pa [1]
(.nd (fun h0 =>
(.pa [1,1]
(.nd (fun h1 =>
(.pa [1,1]
(.nd (fun h2 =>
(.pa [1,1]
.lf)) (fun h2 =>
.none)))) (fun h1 =>
.none)))) (fun h0 =>
.none)))

noncomputable def cs_56r : FuncId → Option CSpec := csAdd 56 [B56r] cs_52r
theorem cs_56r_ok : CsOk Try.prog cs_56r := csAdd_ok cs_52r_ok fun B hB => by
  cases List.mem_singleton.1 hB
  exact B56r_ok

noncomputable def ev_59r (env : List Dat) : Tree (Nat × List Dat) := Lk.boxC false LK cs_56r 59 ls0 (mkF [.ptr 0 0] [rdB 0] [0] [(liO 0 (.own 1), [rdB 4, .arr TB 6])] fun _ => none) env
theorem op_59r_ex : ExB ev_59r := exB _
noncomputable def op_59r := Classical.choose op_59r_ex
theorem op_59r_eq (env : List Dat) : op_59r env = (ev_59r env).sel := Classical.choose_spec op_59r_ex env
noncomputable def B59r : FBox := mkF [.ptr 0 0] [rdB 0] [0] [(liO 0 (.own 1), [rdB 4, .arr TB 6])] op_59r
theorem B59r_ok : RunOk Try.prog 59 (boxRun B59r) := mkF_ok (op := op_59r) cs_56r_ok hmix false (LsOk.none _ _ _) (fun env x h => by rw [op_59r_eq] at h; rw [← boxC_lk]; exact h)

noncomputable def fn_59r_t : List Dat → Tree (Nat × List Dat)
 | [.l (Ty.int IntKind.u8) l0, .b b1] =>
 (let r1 := (op_77r [.l TB l0, .b b1]);
 (.node (isK 0 [.n, .l TB, .b] r1)
 (let r2 := (op_77r [.l TB (gl TB (dOf r1) 1), .b (gb (dOf r1) 2)]);
 (.node (isK 0 [.n, .l TB, .b] r2)
 (let r3 := (op_78r [.l TB (gl TB (dOf r2) 1), .b (gb (dOf r2) 2)]);
 (.node (isK 0 [.n, .l TB, .b] r3)
 (let r4 := (op_78r [.l TB (gl TB (dOf r3) 1), .b (gb (dOf r3) 2)]);
 (.node (isK 0 [.n, .l TB, .b] r4)
 (let r5 := (op_83r [.l TB (gl TB (dOf r4) 1), .b (gb (dOf r4) 2)]);
 (.node (isK 0 [.n, .l TB, .b] r5)
 (let r6 := (op_82r [.n (IntKind.wrap .i64 (gn (dOf r5) 0)), .l TB (gl TB (dOf r5) 1), .b (gb (dOf r5) 2)]);
 (.node (isK 0 [.l TB, .b, .l TB] r6)
 (.leaf ((0, [.n (gn (dOf r1) 0), .n (gn (dOf r2) 0), .n (IntKind.wrap .i64 (gn (dOf r3) 0)), .n (IntKind.wrap .i64 (gn (dOf r4) 0)), .l TB (gl TB (dOf r6) 0), .b (gb (dOf r6) 1), .l TB (gl TB (dOf r6) 2)])))
 (.bad 351)))
 (.bad 351)))
 (.bad 351)))
 (.bad 351)))
 (.bad 351)))
 (.bad 351)))
 | _ => .bad 0
theorem fn_59r_t_im (l0 : List (Ty.den TB)) (b1 : Bool) : Imp (fn_59r_t [.l TB l0, .b b1]) (ev_59r [.l TB l0, .b b1]) :=
(.pa [1]
(.nd (fun h0 =>
(.pa [1,1]
(.nd (fun h1 =>
(.pa [1,1]
(.nd (fun h2 =>
(.pa [1,1]
(.nd (fun h3 =>
(.pa [1,1]
(.nd (fun h4 =>
(.pa [1,1]
(.nd (fun h5 =>
(.pa [1,1]
.lf)) (fun h5 =>
.none)))) (fun h4 =>
.none)))) (fun h3 =>
.none)))) (fun h2 =>
.none)))) (fun h1 =>
.none)))) (fun h0 =>
.none)))

noncomputable def cs_59r : FuncId → Option CSpec := csAdd 59 [B59r] cs_56r
theorem cs_59r_ok : CsOk Try.prog cs_59r := csAdd_ok cs_56r_ok fun B hB => by
  cases List.mem_singleton.1 hB
  exact B59r_ok

noncomputable def ev_23r (env : List Dat) : Tree (Nat × List Dat) := Lk.boxC false LK cs_59r 23 ls0 (mkF [.imm TB 0] [] [] [(.tup [inO 0 (.own 0), .int .i64 5], [.arr TC 6]), (.tup [inO 0 .nilsl, .int .i64 5], [])] fun _ => none) env
theorem op_23r_ex : ExB ev_23r := exB _
noncomputable def op_23r := Classical.choose op_23r_ex
theorem op_23r_eq (env : List Dat) : op_23r env = (ev_23r env).sel := Classical.choose_spec op_23r_ex env
noncomputable def B23r : FBox := mkF [.imm TB 0] [] [] [(.tup [inO 0 (.own 0), .int .i64 5], [.arr TC 6]), (.tup [inO 0 .nilsl, .int .i64 5], [])] op_23r
theorem B23r_ok : RunOk Try.prog 23 (boxRun B23r) := mkF_ok (op := op_23r) cs_59r_ok hmix false (LsOk.none _ _ _) (fun env x h => by rw [op_23r_eq] at h; rw [← boxC_lk]; exact h)

noncomputable def fn_23r_t : List Dat → Tree (Nat × List Dat)
 | [.l (Ty.int IntKind.u8) l0] =>
 (let r1 := (op_74r [.l TB l0, .n (1 : Int)]);
 (.node (isK 0 [.b, .l TB, .b] r1)
 (.node (!gb (dOf r1) 0)
 (.leaf ((1, [.n (0 : Int), .n (0 : Int), .n (0 : Int), .n (0 : Int), .n (0 : Int), .n (130 : Int)])))
 (let r2 := (op_45r [.l TB (gl TB (dOf r1) 1), .b (gb (dOf r1) 2)]);
 (.node (isK 0 [.n, .n, .n, .n, .n, .l TB, .b, .l TC] r2)
 (.node (gb (dOf r2) 6)
 (.leaf ((1, [.n (0 : Int), .n (0 : Int), .n (0 : Int), .n (0 : Int), .n (0 : Int), .n (130 : Int)])))
 (.node (decide ((↑(List.length (gl TB (dOf r2) 5)) : Int) > (0 : Int)))
 (.leaf ((1, [.n (0 : Int), .n (0 : Int), .n (0 : Int), .n (0 : Int), .n (0 : Int), .n (130 : Int)])))
 (let r3 := (op_46 [.n (gn (dOf r2) 0), .n (gn (dOf r2) 1), .n (gn (dOf r2) 2), .n (gn (dOf r2) 3), .n (gn (dOf r2) 4), .l TC (gl TC (dOf r2) 7)]);
 (.node (isK 0 [.b] r3)
 (.node (!gb (dOf r3) 0)
 (.leaf ((1, [.n (0 : Int), .n (0 : Int), .n (0 : Int), .n (0 : Int), .n (0 : Int), .n (130 : Int)])))
 (.leaf ((0, [.n (gn (dOf r2) 0), .n (gn (dOf r2) 1), .n (gn (dOf r2) 2), .n (gn (dOf r2) 3), .n (gn (dOf r2) 4), .n (0 : Int), .l TC (gl TC (dOf r2) 7)]))))
 (.bad 351)))))
 (.bad 351))))
 (.node (isK 1 [.b] r1)
 (.node (!gb (dOf r1) 0)
 (.leaf ((1, [.n (0 : Int), .n (0 : Int), .n (0 : Int), .n (0 : Int), .n (0 : Int), .n (130 : Int)])))
 (.bad 340))
 (.bad 351))))
 | _ => .bad 0
theorem fn_23r_t_im (l0 : List (Ty.den TB)) : Imp (fn_23r_t [.l TB l0]) (ev_23r [.l TB l0]) :=
(.pa [1,1]
(.nd (fun h0 =>
(.pa [1]
(.nd (fun h1 =>
(.pa [1,1]
.lf)) (fun h1 =>
(.pa [1]
(.nd (fun h2 =>
(.pa [1,1,0,1]
(.nd (fun h3 =>
(.pa [1,1,1,1,1,1]
.lf)) (fun h3 =>
(.pa [1,0,1]
(.nd (fun h4 =>
(.pa [1,1,1,1]
.lf)) (fun h4 =>
(.nd (fun h5 =>
(.pa [1]
(.nd (fun h6 =>
(.pa [1,1]
.lf)) (fun h6 =>
(.pa [1,1]
.lf))))) (fun h5 =>
.none))))))))) (fun h2 =>
.none))))))) (fun h0 =>
(.nd (fun h1 =>
(.pa [1]
(.nd (fun h2 =>
(.pa [1,1]
.lf)) (fun h2 =>
(.pa [1]
.none))))) (fun h1 =>
.none)))))

noncomputable def cs_23r : FuncId → Option CSpec := csLend 23 B23r cs_59r
theorem cs_23r_ok : CsOk Try.prog cs_23r := csLend_ok cs_59r_ok B23r_ok

noncomputable def ev_26r (env : List Dat) : Tree (Nat × List Dat) := Lk.boxC false LK cs_23r 26 ls0 (mkF [.imm TB 0] [] [] [(.tup [ouV 0, .int .i64 5], [])] fun _ => none) env
theorem op_26r_ex : ExB ev_26r := exB _
noncomputable def op_26r := Classical.choose op_26r_ex
theorem op_26r_eq (env : List Dat) : op_26r env = (ev_26r env).sel := Classical.choose_spec op_26r_ex env
noncomputable def B26r : FBox := mkF [.imm TB 0] [] [] [(.tup [ouV 0, .int .i64 5], [])] op_26r
theorem B26r_ok : RunOk Try.prog 26 (boxRun B26r) := mkF_ok (op := op_26r) cs_23r_ok hmix false (LsOk.none _ _ _) (fun env x h => by rw [op_26r_eq] at h; rw [← boxC_lk]; exact h)

noncomputable def fn_26r_t : List Dat → Tree (Nat × List Dat)
 | [.l (Ty.int IntKind.u8) l0] =>
 (let r1 := (op_74r [.l TB l0, .n (2 : Int)]);
 (.node (isK 0 [.b, .l TB, .b] r1)
 (.node (!gb (dOf r1) 0)
 (.leaf ((0, [.n (0 : Int), .n (0 : Int), .n (0 : Int), .n (0 : Int), .n (0 : Int), .n (130 : Int)])))
 (let r2 := (op_49r [.l TB (gl TB (dOf r1) 1), .b (gb (dOf r1) 2)]);
 (.node (isK 0 [.n, .n, .n, .n, .n, .l TB, .b] r2)
 (.node (gb (dOf r2) 6)
 (.leaf ((0, [.n (0 : Int), .n (0 : Int), .n (0 : Int), .n (0 : Int), .n (0 : Int), .n (130 : Int)])))
 (.node (decide ((↑(List.length (gl TB (dOf r2) 5)) : Int) > (0 : Int)))
 (.leaf ((0, [.n (0 : Int), .n (0 : Int), .n (0 : Int), .n (0 : Int), .n (0 : Int), .n (130 : Int)])))
 (let r3 := (op_80 [.n (1099511627776 : Int), .l TI [gn (dOf r2) 1, gn (dOf r2) 2]]);
 (.node (isK 0 [.b] r3)
 (.node (!gb (dOf r3) 0)
 (.leaf ((0, [.n (0 : Int), .n (0 : Int), .n (0 : Int), .n (0 : Int), .n (0 : Int), .n (130 : Int)])))
 (.leaf ((0, [.n (gn (dOf r2) 0), .n (gn (dOf r2) 1), .n (gn (dOf r2) 2), .n (gn (dOf r2) 3), .n (gn (dOf r2) 4), .n (0 : Int)]))))
 (.bad 351)))))
 (.bad 351))))
 (.node (isK 1 [.b] r1)
 (.node (!gb (dOf r1) 0)
 (.leaf ((0, [.n (0 : Int), .n (0 : Int), .n (0 : Int), .n (0 : Int), .n (0 : Int), .n (130 : Int)])))
 (.bad 340))
 (.bad 351))))
 | _ => .bad 0
theorem fn_26r_t_im (l0 : List (Ty.den TB)) : Imp (fn_26r_t [.l TB l0]) (ev_26r [.l TB l0]) :=
(.pa [1,1]
(.nd (fun h0 =>
(.pa [1]
(.nd (fun h1 =>
(.pa [1,1]
.lf)) (fun h1 =>
(.pa [1]
(.nd (fun h2 =>
(.pa [1,1,0,1]
(.nd (fun h3 =>
(.pa [1,1,1,1,1,1]
.lf)) (fun h3 =>
(.pa [1,0,1]
(.nd (fun h4 =>
(.pa [1,1,1,1]
.lf)) (fun h4 =>
(.pa [1]
(.nd (fun h5 =>
(.pa [1,1]
(.nd (fun h6 =>
(.pa [1,1]
.lf)) (fun h6 =>
(.pa [1,1]
.lf))))) (fun h5 =>
.none)))))))))) (fun h2 =>
.none))))))) (fun h0 =>
(.nd (fun h1 =>
(.pa [1]
(.nd (fun h2 =>
(.pa [1,1]
.lf)) (fun h2 =>
(.pa [1]
.none))))) (fun h1 =>
.none)))))

noncomputable def cs_26r : FuncId → Option CSpec := csLend 26 B26r cs_23r
theorem cs_26r_ok : CsOk Try.prog cs_26r := csLend_ok cs_23r_ok B26r_ok

noncomputable def ev_28r (env : List Dat) : Tree (Nat × List Dat) := Lk.boxC false LK cs_26r 28 ls0 (mkF [.imm TB 0] [] [] [(.tup [stV 0, .int .i64 5], [])] fun _ => none) env
theorem op_28r_ex : ExB ev_28r := exB _
noncomputable def op_28r := Classical.choose op_28r_ex
theorem op_28r_eq (env : List Dat) : op_28r env = (ev_28r env).sel := Classical.choose_spec op_28r_ex env
noncomputable def B28r : FBox := mkF [.imm TB 0] [] [] [(.tup [stV 0, .int .i64 5], [])] op_28r
theorem B28r_ok : RunOk Try.prog 28 (boxRun B28r) := mkF_ok (op := op_28r) cs_26r_ok hmix false (LsOk.none _ _ _) (fun env x h => by rw [op_28r_eq] at h; rw [← boxC_lk]; exact h)

noncomputable def fn_28r_t : List Dat → Tree (Nat × List Dat)
 | [.l (Ty.int IntKind.u8) l0] =>
 (let r1 := (op_74r [.l TB l0, .n (3 : Int)]);
 (.node (isK 0 [.b, .l TB, .b] r1)
 (.node (!gb (dOf r1) 0)
 (.leaf ((0, [.n (0 : Int), .n (0 : Int), .n (0 : Int), .l TB (List.replicate 64 (0 : Int)), .n (0 : Int), .n (130 : Int)])))
 (let r2 := (op_52r [.l TB (gl TB (dOf r1) 1), .b (gb (dOf r1) 2)]);
 (.node (isK 0 [.n, .n, .n, .l TB, .n, .l TB, .b] r2)
 (.node (gb (dOf r2) 6)
 (.leaf ((0, [.n (0 : Int), .n (0 : Int), .n (0 : Int), .l TB (List.replicate 64 (0 : Int)), .n (0 : Int), .n (130 : Int)])))
 (.node (decide ((↑(List.length (gl TB (dOf r2) 5)) : Int) > (0 : Int)))
 (.leaf ((0, [.n (0 : Int), .n (0 : Int), .n (0 : Int), .l TB (List.replicate 64 (0 : Int)), .n (0 : Int), .n (130 : Int)])))
 (.leaf ((0, [.n (gn (dOf r2) 0), .n (gn (dOf r2) 1), .n (gn (dOf r2) 2), .l TB (gl TB (dOf r2) 3), .n (gn (dOf r2) 4), .n (0 : Int)])))))
 (.bad 351))))
 (.node (isK 1 [.b] r1)
 (.node (!gb (dOf r1) 0)
 (.leaf ((0, [.n (0 : Int), .n (0 : Int), .n (0 : Int), .l TB (List.replicate 64 (0 : Int)), .n (0 : Int), .n (130 : Int)])))
 (.bad 340))
 (.bad 351))))
 | _ => .bad 0
theorem fn_28r_t_im (l0 : List (Ty.den TB)) : Imp (fn_28r_t [.l TB l0]) (ev_28r [.l TB l0]) :=
(.pa [1,1]
(.nd (fun h0 =>
(.pa [1]
(.nd (fun h1 =>
(.pa [1,1]
.lf)) (fun h1 =>
(.pa [1]
(.nd (fun h2 =>
(.pa [1,1,0,1]
(.nd (fun h3 =>
(.pa [1,1,1,1,1,1]
.lf)) (fun h3 =>
(.pa [1,0,1]
(.nd (fun h4 =>
(.pa [1,1,1,1]
.lf)) (fun h4 =>
(.pa [1,1,0,1,1]
.lf)))))))) (fun h2 =>
.none))))))) (fun h0 =>
(.nd (fun h1 =>
(.pa [1]
(.nd (fun h2 =>
(.pa [1,1]
.lf)) (fun h2 =>
(.pa [1]
.none))))) (fun h1 =>
.none)))))

noncomputable def cs_28r : FuncId → Option CSpec := csLend 28 B28r cs_26r
theorem cs_28r_ok : CsOk Try.prog cs_28r := csLend_ok cs_26r_ok B28r_ok

noncomputable def ev_30r (env : List Dat) : Tree (Nat × List Dat) := Lk.boxC false LK cs_28r 30 ls0 (mkF [.imm TB 0] [] [] [(.tup [loV 0, .int .i64 7], [])] fun _ => none) env
theorem op_30r_ex : ExB ev_30r := exB _
noncomputable def op_30r := Classical.choose op_30r_ex
theorem op_30r_eq (env : List Dat) : op_30r env = (ev_30r env).sel := Classical.choose_spec op_30r_ex env
noncomputable def B30r : FBox := mkF [.imm TB 0] [] [] [(.tup [loV 0, .int .i64 7], [])] op_30r
theorem B30r_ok : RunOk Try.prog 30 (boxRun B30r) := mkF_ok (op := op_30r) cs_28r_ok hmix false (LsOk.none _ _ _) (fun env x h => by rw [op_30r_eq] at h; rw [← boxC_lk]; exact h)

noncomputable def fn_30r_t : List Dat → Tree (Nat × List Dat)
 | [.l (Ty.int IntKind.u8) l0] =>
 (let r1 := (op_74r [.l TB l0, .n (4 : Int)]);
 (.node (isK 0 [.b, .l TB, .b] r1)
 (.node (!gb (dOf r1) 0)
 (.leaf ((0, [.n (0 : Int), .n (0 : Int), .n (0 : Int), .n (0 : Int), .n (0 : Int), .l TB (List.replicate 64 (0 : Int)), .n (0 : Int), .n (130 : Int)])))
 (let r2 := (op_56r [.l TB (gl TB (dOf r1) 1), .b (gb (dOf r1) 2)]);
 (.node (isK 0 [.n, .n, .n, .n, .n, .l TB, .n, .l TB, .b] r2)
 (.node (gb (dOf r2) 8)
 (.leaf ((0, [.n (0 : Int), .n (0 : Int), .n (0 : Int), .n (0 : Int), .n (0 : Int), .l TB (List.replicate 64 (0 : Int)), .n (0 : Int), .n (130 : Int)])))
 (.node (decide ((↑(List.length (gl TB (dOf r2) 7)) : Int) > (0 : Int)))
 (.leaf ((0, [.n (0 : Int), .n (0 : Int), .n (0 : Int), .n (0 : Int), .n (0 : Int), .l TB (List.replicate 64 (0 : Int)), .n (0 : Int), .n (130 : Int)])))
 (let r3 := (op_80 [.n (1099511627776 : Int), .l TI [gn (dOf r2) 0, gn (dOf r2) 1]]);
 (.node (isK 0 [.b] r3)
 (.node (!gb (dOf r3) 0)
 (.leaf ((0, [.n (0 : Int), .n (0 : Int), .n (0 : Int), .n (0 : Int), .n (0 : Int), .l TB (List.replicate 64 (0 : Int)), .n (0 : Int), .n (130 : Int)])))
 (.leaf ((0, [.n (gn (dOf r2) 0), .n (gn (dOf r2) 1), .n (gn (dOf r2) 2), .n (gn (dOf r2) 3), .n (gn (dOf r2) 4), .l TB (gl TB (dOf r2) 5), .n (gn (dOf r2) 6), .n (0 : Int)]))))
 (.bad 351)))))
 (.bad 351))))
 (.node (isK 1 [.b] r1)
 (.node (!gb (dOf r1) 0)
 (.leaf ((0, [.n (0 : Int), .n (0 : Int), .n (0 : Int), .n (0 : Int), .n (0 : Int), .l TB (List.replicate 64 (0 : Int)), .n (0 : Int), .n (130 : Int)])))
 (.bad 340))
 (.bad 351))))
 | _ => .bad 0
theorem fn_30r_t_im (l0 : List (Ty.den TB)) : Imp (fn_30r_t [.l TB l0]) (ev_30r [.l TB l0]) :=
(.pa [1,1]
(.nd (fun h0 =>
(.pa [1]
(.nd (fun h1 =>
(.pa [1,1]
.lf)) (fun h1 =>
(.pa [1]
(.nd (fun h2 =>
(.pa [1,1,0,1]
(.nd (fun h3 =>
(.pa [1,1,1,1,1,1]
.lf)) (fun h3 =>
(.pa [1,0,1]
(.nd (fun h4 =>
(.pa [1,1,1,1]
.lf)) (fun h4 =>
(.pa [1]
(.nd (fun h5 =>
(.pa [1,1]
(.nd (fun h6 =>
(.pa [1,1]
.lf)) (fun h6 =>
(.pa [1,1]
.lf))))) (fun h5 =>
.none)))))))))) (fun h2 =>
.none))))))) (fun h0 =>
(.nd (fun h1 =>
(.pa [1]
(.nd (fun h2 =>
(.pa [1,1]
.lf)) (fun h2 =>
(.pa [1]
.none))))) (fun h1 =>
.none)))))

noncomputable def cs_30r : FuncId → Option CSpec := csLend 30 B30r cs_28r
theorem cs_30r_ok : CsOk Try.prog cs_30r := csLend_ok cs_28r_ok B30r_ok

noncomputable def ev_32r (env : List Dat) : Tree (Nat × List Dat) := Lk.boxC false LK cs_30r 32 ls0 (mkF [.imm TB 0] [] [] [(.tup [liO 0 (.own 0), .int .i64 4], [.arr TB 5]), (.tup [liO 0 .nilsl, .int .i64 4], [])] fun _ => none) env
theorem op_32r_ex : ExB ev_32r := exB _
noncomputable def op_32r := Classical.choose op_32r_ex
theorem op_32r_eq (env : List Dat) : op_32r env = (ev_32r env).sel := Classical.choose_spec op_32r_ex env
noncomputable def B32r : FBox := mkF [.imm TB 0] [] [] [(.tup [liO 0 (.own 0), .int .i64 4], [.arr TB 5]), (.tup [liO 0 .nilsl, .int .i64 4], [])] op_32r
theorem B32r_ok : RunOk Try.prog 32 (boxRun B32r) := mkF_ok (op := op_32r) cs_30r_ok hmix false (LsOk.none _ _ _) (fun env x h => by rw [op_32r_eq] at h; rw [← boxC_lk]; exact h)

noncomputable def fn_32r_t : List Dat → Tree (Nat × List Dat)
 | [.l (Ty.int IntKind.u8) l0] =>
 (let r1 := (op_74r [.l TB l0, .n (5 : Int)]);
 (.node (isK 0 [.b, .l TB, .b] r1)
 (.node (!gb (dOf r1) 0)
 (.leaf ((1, [.n (0 : Int), .n (0 : Int), .n (0 : Int), .n (0 : Int), .n (130 : Int)])))
 (let r2 := (op_59r [.l TB (gl TB (dOf r1) 1), .b (gb (dOf r1) 2)]);
 (.node (isK 0 [.n, .n, .n, .n, .l TB, .b, .l TB] r2)
 (.node (gb (dOf r2) 5)
 (.leaf ((1, [.n (0 : Int), .n (0 : Int), .n (0 : Int), .n (0 : Int), .n (130 : Int)])))
 (.node (decide ((↑(List.length (gl TB (dOf r2) 4)) : Int) > (0 : Int)))
 (.leaf ((1, [.n (0 : Int), .n (0 : Int), .n (0 : Int), .n (0 : Int), .n (130 : Int)])))
 (let r3 := (op_60 [.n (gn (dOf r2) 0), .n (gn (dOf r2) 1), .n (gn (dOf r2) 2), .n (gn (dOf r2) 3), .l TB (gl TB (dOf r2) 6)]);
 (.node (isK 0 [.b] r3)
 (.node (!gb (dOf r3) 0)
 (.leaf ((1, [.n (0 : Int), .n (0 : Int), .n (0 : Int), .n (0 : Int), .n (130 : Int)])))
 (.leaf ((0, [.n (gn (dOf r2) 0), .n (gn (dOf r2) 1), .n (gn (dOf r2) 2), .n (gn (dOf r2) 3), .n (0 : Int), .l TB (gl TB (dOf r2) 6)]))))
 (.bad 351)))))
 (.bad 351))))
 (.node (isK 1 [.b] r1)
 (.node (!gb (dOf r1) 0)
 (.leaf ((1, [.n (0 : Int), .n (0 : Int), .n (0 : Int), .n (0 : Int), .n (130 : Int)])))
 (.bad 340))
 (.bad 351))))
 | _ => .bad 0
theorem fn_32r_t_im (l0 : List (Ty.den TB)) : Imp (fn_32r_t [.l TB l0]) (ev_32r [.l TB l0]) :=
(.pa [1,1]
(.nd (fun h0 =>
(.pa [1]
(.nd (fun h1 =>
(.pa [1,1]
.lf)) (fun h1 =>
(.pa [1]
(.nd (fun h2 =>
(.pa [1,1,0,1]
(.nd (fun h3 =>
(.pa [1,1,1,1,1,1]
.lf)) (fun h3 =>
(.pa [1,0,1]
(.nd (fun h4 =>
(.pa [1,1,1,1]
.lf)) (fun h4 =>
(.nd (fun h5 =>
(.pa [1]
(.nd (fun h6 =>
(.pa [1,1]
.lf)) (fun h6 =>
(.pa [1,1]
.lf))))) (fun h5 =>
.none))))))))) (fun h2 =>
.none))))))) (fun h0 =>
(.nd (fun h1 =>
(.pa [1]
(.nd (fun h2 =>
(.pa [1,1]
.lf)) (fun h2 =>
(.pa [1]
.none))))) (fun h1 =>
.none)))))

noncomputable def cs_32r : FuncId → Option CSpec := csLend 32 B32r cs_30r
theorem cs_32r_ok : CsOk Try.prog cs_32r := csLend_ok cs_30r_ok B32r_ok

noncomputable def st_L25r_4 (env : List Dat) : Tree Step := Lk.stepMC false LK cs_32r 25 4 ls0 (mkM 0 [] [(sh 77 [(2, .ptr 0 0), (3, .ptr 1 0), (5, .int .i64 0)], [inB 1, inB 7])] [] [(.exit 0, sh 77 [], []), (.ret, sh 77 [(4, .bool 0)], [])] fun _ => none) env
theorem op_L25r_4_ex : ExL st_L25r_4 := exL _
noncomputable def op_L25r_4 := Classical.choose op_L25r_4_ex
theorem op_L25r_4_eq (env : List Dat) : op_L25r_4 env = iterS st_L25r_4 FU env := Classical.choose_spec op_L25r_4_ex env
noncomputable def L25r_4 : MBox := mkM 0 [] [(sh 77 [(2, .ptr 0 0), (3, .ptr 1 0), (5, .int .i64 0)], [inB 1, inB 7])] [] [(.exit 0, sh 77 [], []), (.ret, sh 77 [(4, .bool 0)], [])] op_L25r_4
theorem L25r_4_eqs : L25r_4 = mkM 0 [] [(sh 77 [(2, .ptr 0 0), (3, .ptr 1 0), (5, .int .i64 0)], [inB 1, inB 7])] [] [(.exit 0, sh 77 [], []), (.ret, sh 77 [(4, .bool 0)], [])] (iterS st_L25r_4 FU) := congrArg (fun f => mkM 0 [] [(sh 77 [(2, .ptr 0 0), (3, .ptr 1 0), (5, .int .i64 0)], [inB 1, inB 7])] [] [(.exit 0, sh 77 [], []), (.ret, sh 77 [(4, .bool 0)], [])] f) (funext op_L25r_4_eq)
theorem L25r_4_run : ∀ t s x, (manyRun L25r_4 t s).sel = some x → CodeOk Try.prog 0 (.loop (cAt Try.prog 25 4)) t s x := by
  rw [L25r_4_eqs]
  exact mkM_ok (st := st_L25r_4) (m := FU) cs_32r_ok hmix false (LsOk.none _ _ _) (by kernel_rfl) (fun env y h => by rw [← stepMC_lk]; exact h)

noncomputable def fn_L25r_4_t : List Dat → Tree Step
 | [.n n0, .n n1, .n n2, .n n3, .n n4, .n n5, .l (Ty.pair (Ty.int IntKind.u8) (Ty.int IntKind.i64)) l6, .n n7, .n n8, .n n9, .n n10, .n n11, .l (Ty.pair (Ty.int IntKind.u8) (Ty.int IntKind.i64)) l12] =>
 (.node (decide (n0 < (↑(List.length l6) : Int)))
 (.node (!(Prod.fst (List.getD l6 (Int.toNat n0) (Ty.dflt TC)) == Prod.fst (List.getD l12 (Int.toNat n0) (Ty.dflt TC)) && (Prod.snd (List.getD l6 (Int.toNat n0) (Ty.dflt TC)) == Prod.snd (List.getD l12 (Int.toNat n0) (Ty.dflt TC)) && true)))
 (.leaf (Step.stop 1 [.b false]))
 (.leaf (Step.go [.k 0, .n (IntKind.wrap .i64 (n0 + (1 : Int))), .n n1, .n n2, .n n3, .n n4, .n n5, .l TC l6, .n n7, .n n8, .n n9, .n n10, .n n11, .l TC l12])))
 (.leaf (Step.stop 0 [])))
 | _ => .bad 0
theorem fn_L25r_4_t_im (n0 : Int) (n1 : Int) (n2 : Int) (n3 : Int) (n4 : Int) (n5 : Int) (l6 : List (Ty.den TC)) (n7 : Int) (n8 : Int) (n9 : Int) (n10 : Int) (n11 : Int) (l12 : List (Ty.den TC)) (g0 : 0 ≤ n0) (g1 :  (l12.length : Int) = (l6.length : Int)) : Imp (fn_L25r_4_t [.n n0, .n n1, .n n2, .n n3, .n n4, .n n5, .l TC l6, .n n7, .n n8, .n n9, .n n10, .n n11, .l TC l12]) (st_L25r_4 [.k 0, .n n0, .n n1, .n n2, .n n3, .n n4, .n n5, .l TC l6, .n n7, .n n8, .n n9, .n n10, .n n11, .l TC l12]) :=
(.pa [1]
(.nd (fun h0 =>
(.pt (c := (inR n0 (List.length l6))) (by kernel_rfl) (by kernel_rfl) (by (simp only [w64d, decide_eq_true_eq, decide_eq_false_iff_not, beq_iff_eq, beq_eq_false_iff_ne, bne_iff_ne, ne_eq, inR, Bool.and_eq_true, Bool.and_eq_false_iff, Bool.not_eq_true', Bool.not_eq_false', Bool.not_eq_eq_eq_not, Bool.not_true, Bool.not_false] at *; omega))
(.pt (c := (inR n0 (List.length l12))) (by kernel_rfl) (by kernel_rfl) (by (simp only [w64d, decide_eq_true_eq, decide_eq_false_iff_not, beq_iff_eq, beq_eq_false_iff_ne, bne_iff_ne, ne_eq, inR, Bool.and_eq_true, Bool.and_eq_false_iff, Bool.not_eq_true', Bool.not_eq_false', Bool.not_eq_eq_eq_not, Bool.not_true, Bool.not_false] at *; omega))
(.pa [1]
(.nd (fun h1 =>
(.pa [1]
.lf)) (fun h1 =>
(.pa [1]
.lf))))))) (fun h0 =>
(.pa [1]
.lf))))

theorem ls_25r_ok : LsOk Try.prog (List.length ([] : List PB)) (lsM [(4, L25r_4)] (List.length ([] : List PB))) (bodyOf Try.prog 25) := LsOk.many fun j B hB hk c hc hi => by
  simp only [lookM] at hB
  split at hB
  · rename_i e; have := Nat.eq_of_beq_eq_true e; subst this; cases hB
    have e1 : loopAt Try.prog 25 4 = [cAt Try.prog 25 4] := loopAt_one (by kernel_rfl)
    have e2 : c ∈ loopAt Try.prog 25 4 := loopsAt_mem hc hi
    rw [e1] at e2; cases List.mem_singleton.1 e2; exact L25r_4_run
  cases hB

noncomputable def ev_25r (env : List Dat) : Tree (Nat × List Dat) := Lk.boxC false LK cs_32r 25 (lsM [(4, L25r_4)] (List.length ([] : List PB))) (mkF [inV 0, inV 6] [] [] [(.bool 0, [])] fun _ => none) env
theorem op_25r_ex : ExB ev_25r := exB _
noncomputable def op_25r := Classical.choose op_25r_ex
theorem op_25r_eq (env : List Dat) : op_25r env = (ev_25r env).sel := Classical.choose_spec op_25r_ex env
noncomputable def B25r : FBox := mkF [inV 0, inV 6] [] [] [(.bool 0, [])] op_25r
theorem B25r_ok : RunOk Try.prog 25 (boxRun B25r) := mkF_ok (op := op_25r) cs_32r_ok hmix false (ls_25r_ok) (fun env x h => by rw [op_25r_eq] at h; rw [← boxC_lk]; exact h)

noncomputable def fn_25r_t : List Dat → Tree (Nat × List Dat)
 | [.n n0, .n n1, .n n2, .n n3, .n n4, .l (Ty.pair (Ty.int IntKind.u8) (Ty.int IntKind.i64)) l5, .n n6, .n n7, .n n8, .n n9, .n n10, .l (Ty.pair (Ty.int IntKind.u8) (Ty.int IntKind.i64)) l11] =>
 (.node (n0 != n6)
 (.leaf ((0, [.b false])))
 (.node (n1 != n7)
 (.leaf ((0, [.b false])))
 (.node (n2 != n8)
 (.leaf ((0, [.b false])))
 (.node (n3 != n9)
 (.leaf ((0, [.b false])))
 (.node (n4 != n10)
 (.leaf ((0, [.b false])))
 (.node ((↑(List.length l5) : Int) != (↑(List.length l11) : Int))
 (.leaf ((0, [.b false])))
 (let r1 := (op_L25r_4 [.k 0, .n (0 : Int), .n n0, .n n1, .n n2, .n n3, .n n4, .l TC l5, .n n6, .n n7, .n n8, .n n9, .n n10, .l TC l11]);
 (.node (isK 0 [] r1)
 (.leaf ((0, [.b true])))
 (.node (isK 1 [.b] r1)
 (.leaf ((0, [.b (gb (dOf r1) 0)])))
 (.bad 351))))))))))
 | _ => .bad 0
theorem fn_25r_t_im (n0 : Int) (n1 : Int) (n2 : Int) (n3 : Int) (n4 : Int) (l5 : List (Ty.den TC)) (n6 : Int) (n7 : Int) (n8 : Int) (n9 : Int) (n10 : Int) (l11 : List (Ty.den TC)) : Imp (fn_25r_t [.n n0, .n n1, .n n2, .n n3, .n n4, .l TC l5, .n n6, .n n7, .n n8, .n n9, .n n10, .l TC l11]) (ev_25r [.n n0, .n n1, .n n2, .n n3, .n n4, .l TC l5, .n n6, .n n7, .n n8, .n n9, .n n10, .l TC l11]) :=
(.nd (fun h0 =>
(.pa [1,1,1,1,1,1,1,1,1,1,1]
.lf)) (fun h0 =>
(.nd (fun h1 =>
(.pa [1,1,1,1,1,1,1,1,1]
.lf)) (fun h1 =>
(.nd (fun h2 =>
(.pa [1,1,1,1,1,1,1]
.lf)) (fun h2 =>
(.nd (fun h3 =>
(.pa [1,1,1,1,1]
.lf)) (fun h3 =>
(.nd (fun h4 =>
(.pa [1,1,1]
.lf)) (fun h4 =>
(.nd (fun h5 =>
(.pa [1]
.lf)) (fun h5 =>
(.nd (fun h6 =>
(.pa [1]
.lf)) (fun h6 =>
(.nd (fun h7 =>
(.pa [1]
.lf)) (fun h7 =>
.none))))))))))))))))

noncomputable def cs_25r : FuncId → Option CSpec := csLend 25 B25r cs_32r
theorem cs_25r_ok : CsOk Try.prog cs_25r := csLend_ok cs_32r_ok B25r_ok

noncomputable def ev_35r (env : List Dat) : Tree (Nat × List Dat) := Lk.boxC false LK cs_25r 35 ls0 (mkF [.imm TB 0] [] [] [(.int .u8 0, [])] fun _ => none) env
theorem op_35r_ex : ExB ev_35r := exB _
noncomputable def op_35r := Classical.choose op_35r_ex
theorem op_35r_eq (env : List Dat) : op_35r env = (ev_35r env).sel := Classical.choose_spec op_35r_ex env
noncomputable def B35r : FBox := mkF [.imm TB 0] [] [] [(.int .u8 0, [])] op_35r
theorem B35r_ok : RunOk Try.prog 35 (boxRun B35r) := mkF_ok (op := op_35r) cs_25r_ok hmix false (LsOk.none _ _ _) (fun env x h => by rw [op_35r_eq] at h; rw [← boxC_lk]; exact h)

noncomputable def fn_35r_t : List Dat → Tree (Nat × List Dat)
 | [.l (Ty.int IntKind.u8) l0] =>
 (.node ((↑(List.length l0) : Int) == (0 : Int))
 (.leaf ((0, [.n (0 : Int)])))
 (.node ((List.getD l0 0 (0 : Int) : Int) == (1 : Int))
 (let r1 := (op_23r [.l TB l0]);
 (.node (isK 0 [.n, .n, .n, .n, .n, .n, .l TC] r1)
 (.node (gn (dOf r1) 5 != (0 : Int))
 (.leaf ((0, [.n (0 : Int)])))
 (.leaf ((0, [.n (List.getD l0 0 (0 : Int))]))))
 (.node (isK 1 [.n, .n, .n, .n, .n, .n] r1)
 (.node (gn (dOf r1) 5 != (0 : Int))
 (.leaf ((0, [.n (0 : Int)])))
 (.leaf ((0, [.n (List.getD l0 0 (0 : Int))]))))
 (.bad 351))))
 (.node ((List.getD l0 0 (0 : Int) : Int) == (2 : Int))
 (let r1 := (op_26r [.l TB l0]);
 (.node (isK 0 [.n, .n, .n, .n, .n, .n] r1)
 (.node (gn (dOf r1) 5 != (0 : Int))
 (.leaf ((0, [.n (0 : Int)])))
 (.leaf ((0, [.n (List.getD l0 0 (0 : Int))]))))
 (.bad 351)))
 (.node ((List.getD l0 0 (0 : Int) : Int) == (3 : Int))
 (let r1 := (op_28r [.l TB l0]);
 (.node (isK 0 [.n, .n, .n, .l TB, .n, .n] r1)
 (.node (gn (dOf r1) 5 != (0 : Int))
 (.leaf ((0, [.n (0 : Int)])))
 (.leaf ((0, [.n (List.getD l0 0 (0 : Int))]))))
 (.bad 351)))
 (.node ((List.getD l0 0 (0 : Int) : Int) == (4 : Int))
 (let r1 := (op_30r [.l TB l0]);
 (.node (isK 0 [.n, .n, .n, .n, .n, .l TB, .n, .n] r1)
 (.node (gn (dOf r1) 7 != (0 : Int))
 (.leaf ((0, [.n (0 : Int)])))
 (.leaf ((0, [.n (List.getD l0 0 (0 : Int))]))))
 (.bad 351)))
 (.node ((List.getD l0 0 (0 : Int) : Int) == (5 : Int))
 (let r1 := (op_32r [.l TB l0]);
 (.node (isK 0 [.n, .n, .n, .n, .n, .l TB] r1)
 (.node (gn (dOf r1) 4 != (0 : Int))
 (.leaf ((0, [.n (0 : Int)])))
 (.leaf ((0, [.n (List.getD l0 0 (0 : Int))]))))
 (.node (isK 1 [.n, .n, .n, .n, .n] r1)
 (.node (gn (dOf r1) 4 != (0 : Int))
 (.leaf ((0, [.n (0 : Int)])))
 (.leaf ((0, [.n (List.getD l0 0 (0 : Int))]))))
 (.bad 351))))
 (.leaf ((0, [.n (0 : Int)])))))))))
 | _ => .bad 0
theorem fn_35r_t_im (l0 : List (Ty.den TB)) : Imp (fn_35r_t [.l TB l0]) (ev_35r [.l TB l0]) :=
(.nd (fun h0 =>
(.pa [1]
.lf)) (fun h0 =>
(.pt (c := (inR (0 : Int) (List.length l0))) (by kernel_rfl) (by kernel_rfl) (by (simp only [w64d, decide_eq_true_eq, decide_eq_false_iff_not, beq_iff_eq, beq_eq_false_iff_ne, bne_iff_ne, ne_eq, inR, Bool.and_eq_true, Bool.and_eq_false_iff, Bool.not_eq_true', Bool.not_eq_false', Bool.not_eq_eq_eq_not, Bool.not_true, Bool.not_false] at *; omega))
(.nd (fun h1 =>
(.nd (fun h2 =>
(.pa [1]
(.nd (fun h3 =>
(.pa [1]
.lf)) (fun h3 =>
(.pt (c := (inR (0 : Int) (List.length l0))) (by kernel_rfl) (by kernel_rfl) (by (simp only [w64d, decide_eq_true_eq, decide_eq_false_iff_not, beq_iff_eq, beq_eq_false_iff_ne, bne_iff_ne, ne_eq, inR, Bool.and_eq_true, Bool.and_eq_false_iff, Bool.not_eq_true', Bool.not_eq_false', Bool.not_eq_eq_eq_not, Bool.not_true, Bool.not_false] at *; omega))
(.pa [1]
.lf)))))) (fun h2 =>
(.nd (fun h3 =>
(.pa [1]
(.nd (fun h4 =>
(.pa [1]
.lf)) (fun h4 =>
(.pt (c := (inR (0 : Int) (List.length l0))) (by kernel_rfl) (by kernel_rfl) (by (simp only [w64d, decide_eq_true_eq, decide_eq_false_iff_not, beq_iff_eq, beq_eq_false_iff_ne, bne_iff_ne, ne_eq, inR, Bool.and_eq_true, Bool.and_eq_false_iff, Bool.not_eq_true', Bool.not_eq_false', Bool.not_eq_eq_eq_not, Bool.not_true, Bool.not_false] at *; omega))
(.pa [1]
.lf)))))) (fun h3 =>
.none))))) (fun h1 =>
(.nd (fun h2 =>
(.nd (fun h3 =>
(.pa [1]
(.nd (fun h4 =>
(.pa [1]
.lf)) (fun h4 =>
(.pt (c := (inR (0 : Int) (List.length l0))) (by kernel_rfl) (by kernel_rfl) (by (simp only [w64d, decide_eq_true_eq, decide_eq_false_iff_not, beq_iff_eq, beq_eq_false_iff_ne, bne_iff_ne, ne_eq, inR, Bool.and_eq_true, Bool.and_eq_false_iff, Bool.not_eq_true', Bool.not_eq_false', Bool.not_eq_eq_eq_not, Bool.not_true, Bool.not_false] at *; omega))
(.pa [1]
.lf)))))) (fun h3 =>
.none))) (fun h2 =>
(.nd (fun h3 =>
(.nd (fun h4 =>
(.pa [1]
(.nd (fun h5 =>
(.pa [1]
.lf)) (fun h5 =>
(.pt (c := (inR (0 : Int) (List.length l0))) (by kernel_rfl) (by kernel_rfl) (by (simp only [w64d, decide_eq_true_eq, decide_eq_false_iff_not, beq_iff_eq, beq_eq_false_iff_ne, bne_iff_ne, ne_eq, inR, Bool.and_eq_true, Bool.and_eq_false_iff, Bool.not_eq_true', Bool.not_eq_false', Bool.not_eq_eq_eq_not, Bool.not_true, Bool.not_false] at *; omega))
(.pa [1]
.lf)))))) (fun h4 =>
.none))) (fun h3 =>
(.nd (fun h4 =>
(.nd (fun h5 =>
(.pa [1]
(.nd (fun h6 =>
(.pa [1]
.lf)) (fun h6 =>
(.pt (c := (inR (0 : Int) (List.length l0))) (by kernel_rfl) (by kernel_rfl) (by (simp only [w64d, decide_eq_true_eq, decide_eq_false_iff_not, beq_iff_eq, beq_eq_false_iff_ne, bne_iff_ne, ne_eq, inR, Bool.and_eq_true, Bool.and_eq_false_iff, Bool.not_eq_true', Bool.not_eq_false', Bool.not_eq_eq_eq_not, Bool.not_true, Bool.not_false] at *; omega))
(.pa [1]
.lf)))))) (fun h5 =>
.none))) (fun h4 =>
(.nd (fun h5 =>
(.nd (fun h6 =>
(.pa [1]
(.nd (fun h7 =>
(.pa [1]
.lf)) (fun h7 =>
(.pt (c := (inR (0 : Int) (List.length l0))) (by kernel_rfl) (by kernel_rfl) (by (simp only [w64d, decide_eq_true_eq, decide_eq_false_iff_not, beq_iff_eq, beq_eq_false_iff_ne, bne_iff_ne, ne_eq, inR, Bool.and_eq_true, Bool.and_eq_false_iff, Bool.not_eq_true', Bool.not_eq_false', Bool.not_eq_eq_eq_not, Bool.not_true, Bool.not_false] at *; omega))
(.pa [1]
.lf)))))) (fun h6 =>
(.nd (fun h7 =>
(.pa [1]
(.nd (fun h8 =>
(.pa [1]
.lf)) (fun h8 =>
(.pt (c := (inR (0 : Int) (List.length l0))) (by kernel_rfl) (by kernel_rfl) (by (simp only [w64d, decide_eq_true_eq, decide_eq_false_iff_not, beq_iff_eq, beq_eq_false_iff_ne, bne_iff_ne, ne_eq, inR, Bool.and_eq_true, Bool.and_eq_false_iff, Bool.not_eq_true', Bool.not_eq_false', Bool.not_eq_eq_eq_not, Bool.not_true, Bool.not_false] at *; omega))
(.pa [1]
.lf)))))) (fun h7 =>
.none))))) (fun h5 =>
(.pa [1,1]
.lf))))))))))))))

noncomputable def cs_35r : FuncId → Option CSpec := csLend 35 B35r cs_25r
theorem cs_35r_ok : CsOk Try.prog cs_35r := csLend_ok cs_25r_ok B35r_ok

noncomputable def ev_37r (env : List Dat) : Tree (Nat × List Dat) := Lk.boxC false LK cs_35r 37 ls0 (mkF [.imm TB 0] [] [] [(.bool 0, [])] fun _ => none) env
theorem op_37r_ex : ExB ev_37r := exB _
noncomputable def op_37r := Classical.choose op_37r_ex
theorem op_37r_eq (env : List Dat) : op_37r env = (ev_37r env).sel := Classical.choose_spec op_37r_ex env
noncomputable def B37r : FBox := mkF [.imm TB 0] [] [] [(.bool 0, [])] op_37r
theorem B37r_ok : RunOk Try.prog 37 (boxRun B37r) := mkF_ok (op := op_37r) cs_35r_ok hmix false (LsOk.none _ _ _) (fun env x h => by rw [op_37r_eq] at h; rw [← boxC_lk]; exact h)

noncomputable def fn_37r_t : List Dat → Tree (Nat × List Dat)
 | [.l (Ty.int IntKind.u8) l0] =>
 (let r1 := (op_23r [.l TB l0]);
 (.node (isK 0 [.n, .n, .n, .n, .n, .n, .l TC] r1)
 (let r2 := (op_26r [.l TB l0]);
 (.node (isK 0 [.n, .n, .n, .n, .n, .n] r2)
 (let r3 := (op_28r [.l TB l0]);
 (.node (isK 0 [.n, .n, .n, .l TB, .n, .n] r3)
 (let r4 := (op_30r [.l TB l0]);
 (.node (isK 0 [.n, .n, .n, .n, .n, .l TB, .n, .n] r4)
 (let r5 := (op_32r [.l TB l0]);
 (.node (isK 0 [.n, .n, .n, .n, .n, .l TB] r5)
 (let r6 := (op_35r [.l TB l0]);
 (.node (isK 0 [.n] r6)
 (.node (gn (dOf r6) 0 == (0 : Int))
 (.leaf ((0, [.b true])))
 (.node (gn (dOf r6) 0 == (1 : Int))
 (let r7 := (op_9p [.n (gn (dOf r1) 0), .n (gn (dOf r1) 1), .n (gn (dOf r1) 2), .n (gn (dOf r1) 3), .n (gn (dOf r1) 4), .l TC (gl TC (dOf r1) 6)]);
 (.node (isK 0 [.l TB] r7)
 (.leaf ((0, [.b (strEq (strOf (gl TB (dOf r7) 0)) (strOf l0))])))
 (.bad 351)))
 (.node (gn (dOf r6) 0 == (2 : Int))
 (let r7 := (op_10p [.n (gn (dOf r2) 0), .n (gn (dOf r2) 1), .n (gn (dOf r2) 2), .n (gn (dOf r2) 3), .n (gn (dOf r2) 4)]);
 (.node (isK 0 [.l TB] r7)
 (.leaf ((0, [.b (strEq (strOf (gl TB (dOf r7) 0)) (strOf l0))])))
 (.bad 351)))
 (.node (gn (dOf r6) 0 == (3 : Int))
 (let r7 := (op_11p [.n (gn (dOf r3) 0), .n (gn (dOf r3) 1), .n (gn (dOf r3) 2), .l TB (gl TB (dOf r3) 3), .n (gn (dOf r3) 4)]);
 (.node (isK 0 [.l TB] r7)
 (.leaf ((0, [.b (strEq (strOf (gl TB (dOf r7) 0)) (strOf l0))])))
 (.bad 351)))
 (.node (gn (dOf r6) 0 == (4 : Int))
 (let r7 := (op_12p [.n (gn (dOf r4) 0), .n (gn (dOf r4) 1), .n (gn (dOf r4) 2), .n (gn (dOf r4) 3), .n (gn (dOf r4) 4), .l TB (gl TB (dOf r4) 5), .n (gn (dOf r4) 6)]);
 (.node (isK 0 [.l TB] r7)
 (.leaf ((0, [.b (strEq (strOf (gl TB (dOf r7) 0)) (strOf l0))])))
 (.bad 351)))
 (let r7 := (op_13p [.n (gn (dOf r5) 0), .n (gn (dOf r5) 1), .n (gn (dOf r5) 2), .n (gn (dOf r5) 3), .l TB (gl TB (dOf r5) 5)]);
 (.node (isK 0 [.l TB] r7)
 (.leaf ((0, [.b (strEq (strOf (gl TB (dOf r7) 0)) (strOf l0))])))
 (.bad 351))))))))
 (.bad 351)))
 (.node (isK 1 [.n, .n, .n, .n, .n] r5)
 (let r6 := (op_35r [.l TB l0]);
 (.node (isK 0 [.n] r6)
 (.node (gn (dOf r6) 0 == (0 : Int))
 (.leaf ((0, [.b true])))
 (.node (gn (dOf r6) 0 == (1 : Int))
 (let r7 := (op_9p [.n (gn (dOf r1) 0), .n (gn (dOf r1) 1), .n (gn (dOf r1) 2), .n (gn (dOf r1) 3), .n (gn (dOf r1) 4), .l TC (gl TC (dOf r1) 6)]);
 (.node (isK 0 [.l TB] r7)
 (.leaf ((0, [.b (strEq (strOf (gl TB (dOf r7) 0)) (strOf l0))])))
 (.bad 351)))
 (.node (gn (dOf r6) 0 == (2 : Int))
 (let r7 := (op_10p [.n (gn (dOf r2) 0), .n (gn (dOf r2) 1), .n (gn (dOf r2) 2), .n (gn (dOf r2) 3), .n (gn (dOf r2) 4)]);
 (.node (isK 0 [.l TB] r7)
 (.leaf ((0, [.b (strEq (strOf (gl TB (dOf r7) 0)) (strOf l0))])))
 (.bad 351)))
 (.node (gn (dOf r6) 0 == (3 : Int))
 (let r7 := (op_11p [.n (gn (dOf r3) 0), .n (gn (dOf r3) 1), .n (gn (dOf r3) 2), .l TB (gl TB (dOf r3) 3), .n (gn (dOf r3) 4)]);
 (.node (isK 0 [.l TB] r7)
 (.leaf ((0, [.b (strEq (strOf (gl TB (dOf r7) 0)) (strOf l0))])))
 (.bad 351)))
 (.node (gn (dOf r6) 0 == (4 : Int))
 (let r7 := (op_12p [.n (gn (dOf r4) 0), .n (gn (dOf r4) 1), .n (gn (dOf r4) 2), .n (gn (dOf r4) 3), .n (gn (dOf r4) 4), .l TB (gl TB (dOf r4) 5), .n (gn (dOf r4) 6)]);
 (.node (isK 0 [.l TB] r7)
 (.leaf ((0, [.b (strEq (strOf (gl TB (dOf r7) 0)) (strOf l0))])))
 (.bad 351)))
 (let r7 := (op_13p [.n (gn (dOf r5) 0), .n (gn (dOf r5) 1), .n (gn (dOf r5) 2), .n (gn (dOf r5) 3), .l TB []]);
 (.node (isK 0 [.l TB] r7)
 (.leaf ((0, [.b (strEq (strOf (gl TB (dOf r7) 0)) (strOf l0))])))
 (.bad 351))))))))
 (.bad 351)))
 (.bad 351))))
 (.bad 351)))
 (.bad 351)))
 (.bad 351)))
 (.node (isK 1 [.n, .n, .n, .n, .n, .n] r1)
 (let r2 := (op_26r [.l TB l0]);
 (.node (isK 0 [.n, .n, .n, .n, .n, .n] r2)
 (let r3 := (op_28r [.l TB l0]);
 (.node (isK 0 [.n, .n, .n, .l TB, .n, .n] r3)
 (let r4 := (op_30r [.l TB l0]);
 (.node (isK 0 [.n, .n, .n, .n, .n, .l TB, .n, .n] r4)
 (let r5 := (op_32r [.l TB l0]);
 (.node (isK 0 [.n, .n, .n, .n, .n, .l TB] r5)
 (let r6 := (op_35r [.l TB l0]);
 (.node (isK 0 [.n] r6)
 (.node (gn (dOf r6) 0 == (0 : Int))
 (.leaf ((0, [.b true])))
 (.node (gn (dOf r6) 0 == (1 : Int))
 (let r7 := (op_9p [.n (gn (dOf r1) 0), .n (gn (dOf r1) 1), .n (gn (dOf r1) 2), .n (gn (dOf r1) 3), .n (gn (dOf r1) 4), .l TC []]);
 (.node (isK 0 [.l TB] r7)
 (.leaf ((0, [.b (strEq (strOf (gl TB (dOf r7) 0)) (strOf l0))])))
 (.bad 351)))
 (.node (gn (dOf r6) 0 == (2 : Int))
 (let r7 := (op_10p [.n (gn (dOf r2) 0), .n (gn (dOf r2) 1), .n (gn (dOf r2) 2), .n (gn (dOf r2) 3), .n (gn (dOf r2) 4)]);
 (.node (isK 0 [.l TB] r7)
 (.leaf ((0, [.b (strEq (strOf (gl TB (dOf r7) 0)) (strOf l0))])))
 (.bad 351)))
 (.node (gn (dOf r6) 0 == (3 : Int))
 (let r7 := (op_11p [.n (gn (dOf r3) 0), .n (gn (dOf r3) 1), .n (gn (dOf r3) 2), .l TB (gl TB (dOf r3) 3), .n (gn (dOf r3) 4)]);
 (.node (isK 0 [.l TB] r7)
 (.leaf ((0, [.b (strEq (strOf (gl TB (dOf r7) 0)) (strOf l0))])))
 (.bad 351)))
 (.node (gn (dOf r6) 0 == (4 : Int))
 (let r7 := (op_12p [.n (gn (dOf r4) 0), .n (gn (dOf r4) 1), .n (gn (dOf r4) 2), .n (gn (dOf r4) 3), .n (gn (dOf r4) 4), .l TB (gl TB (dOf r4) 5), .n (gn (dOf r4) 6)]);
 (.node (isK 0 [.l TB] r7)
 (.leaf ((0, [.b (strEq (strOf (gl TB (dOf r7) 0)) (strOf l0))])))
 (.bad 351)))
 (let r7 := (op_13p [.n (gn (dOf r5) 0), .n (gn (dOf r5) 1), .n (gn (dOf r5) 2), .n (gn (dOf r5) 3), .l TB (gl TB (dOf r5) 5)]);
 (.node (isK 0 [.l TB] r7)
 (.leaf ((0, [.b (strEq (strOf (gl TB (dOf r7) 0)) (strOf l0))])))
 (.bad 351))))))))
 (.bad 351)))
 (.node (isK 1 [.n, .n, .n, .n, .n] r5)
 (let r6 := (op_35r [.l TB l0]);
 (.node (isK 0 [.n] r6)
 (.node (gn (dOf r6) 0 == (0 : Int))
 (.leaf ((0, [.b true])))
 (.node (gn (dOf r6) 0 == (1 : Int))
 (let r7 := (op_9p [.n (gn (dOf r1) 0), .n (gn (dOf r1) 1), .n (gn (dOf r1) 2), .n (gn (dOf r1) 3), .n (gn (dOf r1) 4), .l TC []]);
 (.node (isK 0 [.l TB] r7)
 (.leaf ((0, [.b (strEq (strOf (gl TB (dOf r7) 0)) (strOf l0))])))
 (.bad 351)))
 (.node (gn (dOf r6) 0 == (2 : Int))
 (let r7 := (op_10p [.n (gn (dOf r2) 0), .n (gn (dOf r2) 1), .n (gn (dOf r2) 2), .n (gn (dOf r2) 3), .n (gn (dOf r2) 4)]);
 (.node (isK 0 [.l TB] r7)
 (.leaf ((0, [.b (strEq (strOf (gl TB (dOf r7) 0)) (strOf l0))])))
 (.bad 351)))
 (.node (gn (dOf r6) 0 == (3 : Int))
 (let r7 := (op_11p [.n (gn (dOf r3) 0), .n (gn (dOf r3) 1), .n (gn (dOf r3) 2), .l TB (gl TB (dOf r3) 3), .n (gn (dOf r3) 4)]);
 (.node (isK 0 [.l TB] r7)
 (.leaf ((0, [.b (strEq (strOf (gl TB (dOf r7) 0)) (strOf l0))])))
 (.bad 351)))
 (.node (gn (dOf r6) 0 == (4 : Int))
 (let r7 := (op_12p [.n (gn (dOf r4) 0), .n (gn (dOf r4) 1), .n (gn (dOf r4) 2), .n (gn (dOf r4) 3), .n (gn (dOf r4) 4), .l TB (gl TB (dOf r4) 5), .n (gn (dOf r4) 6)]);
 (.node (isK 0 [.l TB] r7)
 (.leaf ((0, [.b (strEq (strOf (gl TB (dOf r7) 0)) (strOf l0))])))
 (.bad 351)))
 (let r7 := (op_13p [.n (gn (dOf r5) 0), .n (gn (dOf r5) 1), .n (gn (dOf r5) 2), .n (gn (dOf r5) 3), .l TB []]);
 (.node (isK 0 [.l TB] r7)
 (.leaf ((0, [.b (strEq (strOf (gl TB (dOf r7) 0)) (strOf l0))])))
 (.bad 351))))))))
 (.bad 351)))
 (.bad 351))))
 (.bad 351)))
 (.bad 351)))
 (.bad 351)))
 (.bad 351))))
 | _ => .bad 0
theorem fn_37r_t_im (l0 : List (Ty.den TB)) : Imp (fn_37r_t [.l TB l0]) (ev_37r [.l TB l0]) :=
(.nd (fun h0 =>
(.pa [1]
(.nd (fun h1 =>
(.pa [1]
(.nd (fun h2 =>
(.pa [1]
(.nd (fun h3 =>
(.pa [1]
(.nd (fun h4 =>
(.pa [1]
(.nd (fun h5 =>
(.pa [1]
(.nd (fun h6 =>
(.pa [1]
.lf)) (fun h6 =>
(.nd (fun h7 =>
(.nd (fun h8 =>
(.pa [1,1]
.lf)) (fun h8 =>
.none))) (fun h7 =>
(.nd (fun h8 =>
(.nd (fun h9 =>
(.pa [1,1]
.lf)) (fun h9 =>
.none))) (fun h8 =>
(.nd (fun h9 =>
(.nd (fun h10 =>
(.pa [1,1]
.lf)) (fun h10 =>
.none))) (fun h9 =>
(.nd (fun h10 =>
(.nd (fun h11 =>
(.pa [1,1]
.lf)) (fun h11 =>
.none))) (fun h10 =>
(.nd (fun h11 =>
(.pa [1,1]
.lf)) (fun h11 =>
.none)))))))))))))) (fun h5 =>
.none)))) (fun h4 =>
(.nd (fun h5 =>
(.pa [1]
(.nd (fun h6 =>
(.pa [1]
(.nd (fun h7 =>
(.pa [1]
.lf)) (fun h7 =>
(.nd (fun h8 =>
(.nd (fun h9 =>
(.pa [1,1]
.lf)) (fun h9 =>
.none))) (fun h8 =>
(.nd (fun h9 =>
(.nd (fun h10 =>
(.pa [1,1]
.lf)) (fun h10 =>
.none))) (fun h9 =>
(.nd (fun h10 =>
(.nd (fun h11 =>
(.pa [1,1]
.lf)) (fun h11 =>
.none))) (fun h10 =>
(.nd (fun h11 =>
(.nd (fun h12 =>
(.pa [1,1]
.lf)) (fun h12 =>
.none))) (fun h11 =>
(.nd (fun h12 =>
(.pa [1,1]
.lf)) (fun h12 =>
.none)))))))))))))) (fun h6 =>
.none)))) (fun h5 =>
.none)))))) (fun h3 =>
.none)))) (fun h2 =>
.none)))) (fun h1 =>
.none)))) (fun h0 =>
(.nd (fun h1 =>
(.pa [1]
(.nd (fun h2 =>
(.pa [1]
(.nd (fun h3 =>
(.pa [1]
(.nd (fun h4 =>
(.pa [1]
(.nd (fun h5 =>
(.pa [1]
(.nd (fun h6 =>
(.pa [1]
(.nd (fun h7 =>
(.pa [1]
.lf)) (fun h7 =>
(.nd (fun h8 =>
(.nd (fun h9 =>
(.pa [1,1]
.lf)) (fun h9 =>
.none))) (fun h8 =>
(.nd (fun h9 =>
(.nd (fun h10 =>
(.pa [1,1]
.lf)) (fun h10 =>
.none))) (fun h9 =>
(.nd (fun h10 =>
(.nd (fun h11 =>
(.pa [1,1]
.lf)) (fun h11 =>
.none))) (fun h10 =>
(.nd (fun h11 =>
(.nd (fun h12 =>
(.pa [1,1]
.lf)) (fun h12 =>
.none))) (fun h11 =>
(.nd (fun h12 =>
(.pa [1,1]
.lf)) (fun h12 =>
.none)))))))))))))) (fun h6 =>
.none)))) (fun h5 =>
(.nd (fun h6 =>
(.pa [1]
(.nd (fun h7 =>
(.pa [1]
(.nd (fun h8 =>
(.pa [1]
.lf)) (fun h8 =>
(.nd (fun h9 =>
(.nd (fun h10 =>
(.pa [1,1]
.lf)) (fun h10 =>
.none))) (fun h9 =>
(.nd (fun h10 =>
(.nd (fun h11 =>
(.pa [1,1]
.lf)) (fun h11 =>
.none))) (fun h10 =>
(.nd (fun h11 =>
(.nd (fun h12 =>
(.pa [1,1]
.lf)) (fun h12 =>
.none))) (fun h11 =>
(.nd (fun h12 =>
(.nd (fun h13 =>
(.pa [1,1]
.lf)) (fun h13 =>
.none))) (fun h12 =>
(.nd (fun h13 =>
(.pa [1,1]
.lf)) (fun h13 =>
.none)))))))))))))) (fun h7 =>
.none)))) (fun h6 =>
.none)))))) (fun h4 =>
.none)))) (fun h3 =>
.none)))) (fun h2 =>
.none)))) (fun h1 =>
.none))))

noncomputable def cs_37r : FuncId → Option CSpec := csLend 37 B37r cs_35r
theorem cs_37r_ok : CsOk Try.prog cs_37r := csLend_ok cs_35r_ok B37r_ok

noncomputable def ev_W5 (env : List Dat) : Tree Bool := Lk.lawB false LK cs_37r 5 ls0 (instL [inV 0, ouV 6, stV 11, loV 16, liV 23, .imm TB 28] env)

theorem W5_law (env : List Dat) (h : (ev_W5 env).sel = some true) {w : World} {args : Array Value} (ha : LRel R0 (snapOf w) (instL [inV 0, ouV 6, stV 11, loV 16, liV 23, .imm TB 28] env) args) :
    Calls Try.prog 5 args w fun e w' => e = .returned (.bool true) ∧ Below w.heap.size w w' :=
  lawB_ok cs_37r_ok hmix false (ls := ls0) (LsOk.none _ _ _) (by rw [← lawB_lk]; exact h) ha

noncomputable def fn_W5_hiogl : List Dat → Tree Bool
 | (.n n0 :: .n n1 :: .n n2 :: .n n3 :: .n n4 :: .l (Ty.pair (Ty.int IntKind.u8) (Ty.int IntKind.i64)) l5 :: .n n6 :: .n n7 :: .n n8 :: .n n9 :: .n n10 :: .n n11 :: .n n12 :: .n n13 :: .l (Ty.int IntKind.u8) l14 :: .n n15 :: .n n16 :: .n n17 :: .n n18 :: .n n19 :: .n n20 :: .l (Ty.int IntKind.u8) l21 :: .n n22 :: .n n23 :: .n n24 :: .n n25 :: .n n26 :: .l (Ty.int IntKind.u8) l27 :: .l (Ty.int IntKind.u8) l28 :: .l (Ty.int IntKind.u8) l29 :: .l (Ty.int IntKind.u8) l30 :: .l (Ty.int IntKind.u8) l31 :: .l (Ty.int IntKind.u8) l32 :: .l (Ty.int IntKind.u8) l33 :: []) =>
 (.leaf (true))
 | _ => .bad 0
theorem fn_W5_hiogl_im (n0 : Int) (n1 : Int) (n2 : Int) (n3 : Int) (n4 : Int) (l5 : List (Ty.den TC)) (n6 : Int) (n7 : Int) (n8 : Int) (n9 : Int) (n10 : Int) (n11 : Int) (n12 : Int) (n13 : Int) (l14 : List (Ty.den TB)) (n15 : Int) (n16 : Int) (n17 : Int) (n18 : Int) (n19 : Int) (n20 : Int) (l21 : List (Ty.den TB)) (n22 : Int) (n23 : Int) (n24 : Int) (n25 : Int) (n26 : Int) (l27 : List (Ty.den TB)) (l28 : List (Ty.den TB)) (l29 : List (Ty.den TB)) (l30 : List (Ty.den TB)) (l31 : List (Ty.den TB)) (l32 : List (Ty.den TB)) (l33 : List (Ty.den TB)) (g0 : (l5.length : Int) ≤ 1000) (g1 :  (l27.length : Int) ≤ 5000) (g2 :  (l28.length : Int) ≤ 3000) (g3 :  eqL TB l14 l14 = true) (g4 :  eqL TB l21 l21 = true) (g5 :  op_9p [.n n0, .n n1, .n n2, .n n3, .n n4, .l TC l5] = some (0, [.l TB l29])) (g6 :  0 < l29.length) (g7 :  op_23r [.l TB l29] = some (0, [.n n0, .n n1, .n n2, .n n3, .n n4, .n 0, .l TC l5])) (g8 :  op_25r [.n n0, .n n1, .n n2, .n n3, .n n4, .l TC l5, .n n0, .n n1, .n n2, .n n3, .n n4, .l TC l5] = some (0, [.b true])) (g9 :  op_35r [.l TB l29] = some (0, [.n 1])) (g10 :  op_10p [.n n6, .n n7, .n n8, .n n9, .n n10] = some (0, [.l TB l30])) (g11 :  0 < l30.length) (g12 :  op_26r [.l TB l30] = some (0, [.n n6, .n n7, .n n8, .n n9, .n n10, .n 0])) (g13 :  op_35r [.l TB l30] = some (0, [.n 2])) (g14 :  op_11p [.n n11, .n n12, .n n13, .l TB l14, .n n15] = some (0, [.l TB l31])) (g15 :  0 < l31.length) (g16 :  op_28r [.l TB l31] = some (0, [.n n11, .n n12, .n n13, .l TB l14, .n n15, .n 0])) (g17 :  op_35r [.l TB l31] = some (0, [.n 3])) (g18 :  op_12p [.n n16, .n n17, .n n18, .n n19, .n n20, .l TB l21, .n n22] = some (0, [.l TB l32])) (g19 :  0 < l32.length) (g20 :  op_30r [.l TB l32] = some (0, [.n n16, .n n17, .n n18, .n n19, .n n20, .l TB l21, .n n22, .n 0])) (g21 :  op_35r [.l TB l32] = some (0, [.n 4])) (g22 :  op_13p [.n n23, .n n24, .n n25, .n n26, .l TB l27] = some (0, [.l TB l33])) (g23 :  0 < l33.length) (g24 :  strEq (strOf l27) (strOf l27) = true) (g25 :  op_32r [.l TB l33] = some (0, [.n n23, .n n24, .n n25, .n n26, .n 0, .l TB l27])) (g26 :  op_35r [.l TB l33] = some (0, [.n 5])) (g27 :  op_37r [.l TB l28] = some (0, [.b true])) (g28 :  l14.length = 64) (g29 :  l21.length = 64) : Imp (fn_W5_hiogl (.n n0 :: .n n1 :: .n n2 :: .n n3 :: .n n4 :: .l TC l5 :: .n n6 :: .n n7 :: .n n8 :: .n n9 :: .n n10 :: .n n11 :: .n n12 :: .n n13 :: .l TB l14 :: .n n15 :: .n n16 :: .n n17 :: .n n18 :: .n n19 :: .n n20 :: .l TB l21 :: .n n22 :: .n n23 :: .n n24 :: .n n25 :: .n n26 :: .l TB l27 :: .l TB l28 :: .l TB l29 :: .l TB l30 :: .l TB l31 :: .l TB l32 :: .l TB l33 :: [])) (ev_W5 [.n n0, .n n1, .n n2, .n n3, .n n4, .l TC l5, .n n6, .n n7, .n n8, .n n9, .n n10, .n n11, .n n12, .n n13, .l TB l14, .n n15, .n n16, .n n17, .n n18, .n n19, .n n20, .l TB l21, .n n22, .n n23, .n n24, .n n25, .n n26, .l TB l27, .l TB l28]) :=
(.pa [1]
(.sT ((decide ((↑(List.length l5) : Int) ≤ (1000 : Int))))
(.pa [1]
(.sF ((!decide ((↑(List.length l27) : Int) ≤ (5000 : Int))))
(.sF ((decide ((↑(List.length l28) : Int) > (3000 : Int))))
(.sT ((isK 0 [.l TB] (op_9p [.n n0, .n n1, .n n2, .n n3, .n n4, .l TC l5])))
(.pa [1]
(.sT ((isK 0 [.n, .n, .n, .n, .n, .n, .l TC] (op_23r [.l TB (gl TB (dOf (op_9p [.n n0, .n n1, .n n2, .n n3, .n n4, .l TC l5])) 0)])))
(.pa [1]
(.sT ((decide ((↑(List.length (gl TB (dOf (op_9p [.n n0, .n n1, .n n2, .n n3, .n n4, .l TC l5])) 0)) : Int) > (0 : Int))))
(.sF ((gn (dOf (op_23r [.l TB (gl TB (dOf (op_9p [.n n0, .n n1, .n n2, .n n3, .n n4, .l TC l5])) 0)])) 5 != (0 : Int)))
(.pa [1,1,1,1]
(.sT ((isK 0 [.b] (op_25r [.n (gn (dOf (op_23r [.l TB (gl TB (dOf (op_9p [.n n0, .n n1, .n n2, .n n3, .n n4, .l TC l5])) 0)])) 0), .n (gn (dOf (op_23r [.l TB (gl TB (dOf (op_9p [.n n0, .n n1, .n n2, .n n3, .n n4, .l TC l5])) 0)])) 1), .n (gn (dOf (op_23r [.l TB (gl TB (dOf (op_9p [.n n0, .n n1, .n n2, .n n3, .n n4, .l TC l5])) 0)])) 2), .n (gn (dOf (op_23r [.l TB (gl TB (dOf (op_9p [.n n0, .n n1, .n n2, .n n3, .n n4, .l TC l5])) 0)])) 3), .n (gn (dOf (op_23r [.l TB (gl TB (dOf (op_9p [.n n0, .n n1, .n n2, .n n3, .n n4, .l TC l5])) 0)])) 4), .l TC (gl TC (dOf (op_23r [.l TB (gl TB (dOf (op_9p [.n n0, .n n1, .n n2, .n n3, .n n4, .l TC l5])) 0)])) 6), .n n0, .n n1, .n n2, .n n3, .n n4, .l TC l5])))
(.pa [1]
(.sF ((!gb (dOf (op_25r [.n (gn (dOf (op_23r [.l TB (gl TB (dOf (op_9p [.n n0, .n n1, .n n2, .n n3, .n n4, .l TC l5])) 0)])) 0), .n (gn (dOf (op_23r [.l TB (gl TB (dOf (op_9p [.n n0, .n n1, .n n2, .n n3, .n n4, .l TC l5])) 0)])) 1), .n (gn (dOf (op_23r [.l TB (gl TB (dOf (op_9p [.n n0, .n n1, .n n2, .n n3, .n n4, .l TC l5])) 0)])) 2), .n (gn (dOf (op_23r [.l TB (gl TB (dOf (op_9p [.n n0, .n n1, .n n2, .n n3, .n n4, .l TC l5])) 0)])) 3), .n (gn (dOf (op_23r [.l TB (gl TB (dOf (op_9p [.n n0, .n n1, .n n2, .n n3, .n n4, .l TC l5])) 0)])) 4), .l TC (gl TC (dOf (op_23r [.l TB (gl TB (dOf (op_9p [.n n0, .n n1, .n n2, .n n3, .n n4, .l TC l5])) 0)])) 6), .n n0, .n n1, .n n2, .n n3, .n n4, .l TC l5])) 0))
(.sT ((isK 0 [.n] (op_35r [.l TB (gl TB (dOf (op_9p [.n n0, .n n1, .n n2, .n n3, .n n4, .l TC l5])) 0)])))
(.pa [1,1]
(.sF ((gn (dOf (op_35r [.l TB (gl TB (dOf (op_9p [.n n0, .n n1, .n n2, .n n3, .n n4, .l TC l5])) 0)])) 0 != (1 : Int)))
(.sT ((isK 0 [.l TB] (op_10p [.n n6, .n n7, .n n8, .n n9, .n n10])))
(.pa [1]
(.sT ((isK 0 [.n, .n, .n, .n, .n, .n] (op_26r [.l TB (gl TB (dOf (op_10p [.n n6, .n n7, .n n8, .n n9, .n n10])) 0)])))
(.pa [1]
(.sT ((decide ((↑(List.length (gl TB (dOf (op_10p [.n n6, .n n7, .n n8, .n n9, .n n10])) 0)) : Int) > (0 : Int))))
(.sF ((gn (dOf (op_26r [.l TB (gl TB (dOf (op_10p [.n n6, .n n7, .n n8, .n n9, .n n10])) 0)])) 5 != (0 : Int)))
(.sF ((!(gn (dOf (op_26r [.l TB (gl TB (dOf (op_10p [.n n6, .n n7, .n n8, .n n9, .n n10])) 0)])) 0 == n6 && (gn (dOf (op_26r [.l TB (gl TB (dOf (op_10p [.n n6, .n n7, .n n8, .n n9, .n n10])) 0)])) 1 == n7 && (gn (dOf (op_26r [.l TB (gl TB (dOf (op_10p [.n n6, .n n7, .n n8, .n n9, .n n10])) 0)])) 2 == n8 && (gn (dOf (op_26r [.l TB (gl TB (dOf (op_10p [.n n6, .n n7, .n n8, .n n9, .n n10])) 0)])) 3 == n9 && (gn (dOf (op_26r [.l TB (gl TB (dOf (op_10p [.n n6, .n n7, .n n8, .n n9, .n n10])) 0)])) 4 == n10 && true) && true))))))
(.sT ((isK 0 [.n] (op_35r [.l TB (gl TB (dOf (op_10p [.n n6, .n n7, .n n8, .n n9, .n n10])) 0)])))
(.pa [1]
(.sF ((gn (dOf (op_35r [.l TB (gl TB (dOf (op_10p [.n n6, .n n7, .n n8, .n n9, .n n10])) 0)])) 0 != (2 : Int)))
(.sT ((isK 0 [.l TB] (op_11p [.n n11, .n n12, .n n13, .l TB l14, .n n15])))
(.pa [1]
(.sT ((isK 0 [.n, .n, .n, .l TB, .n, .n] (op_28r [.l TB (gl TB (dOf (op_11p [.n n11, .n n12, .n n13, .l TB l14, .n n15])) 0)])))
(.pa [1]
(.sF ((gn (dOf (op_28r [.l TB (gl TB (dOf (op_11p [.n n11, .n n12, .n n13, .l TB l14, .n n15])) 0)])) 5 != (0 : Int)))
(.sF ((!(gn (dOf (op_28r [.l TB (gl TB (dOf (op_11p [.n n11, .n n12, .n n13, .l TB l14, .n n15])) 0)])) 0 == n11 && (gn (dOf (op_28r [.l TB (gl TB (dOf (op_11p [.n n11, .n n12, .n n13, .l TB l14, .n n15])) 0)])) 1 == n12 && (gn (dOf (op_28r [.l TB (gl TB (dOf (op_11p [.n n11, .n n12, .n n13, .l TB l14, .n n15])) 0)])) 2 == n13 && (eqL TB (gl TB (dOf (op_28r [.l TB (gl TB (dOf (op_11p [.n n11, .n n12, .n n13, .l TB l14, .n n15])) 0)])) 3) l14 && (gn (dOf (op_28r [.l TB (gl TB (dOf (op_11p [.n n11, .n n12, .n n13, .l TB l14, .n n15])) 0)])) 4 == n15 && true)))))))
(.sT ((isK 0 [.n] (op_35r [.l TB (gl TB (dOf (op_11p [.n n11, .n n12, .n n13, .l TB l14, .n n15])) 0)])))
(.pa [1]
(.sF ((gn (dOf (op_35r [.l TB (gl TB (dOf (op_11p [.n n11, .n n12, .n n13, .l TB l14, .n n15])) 0)])) 0 != (3 : Int)))
(.sT ((isK 0 [.l TB] (op_12p [.n n16, .n n17, .n n18, .n n19, .n n20, .l TB l21, .n n22])))
(.pa [1]
(.sT ((isK 0 [.n, .n, .n, .n, .n, .l TB, .n, .n] (op_30r [.l TB (gl TB (dOf (op_12p [.n n16, .n n17, .n n18, .n n19, .n n20, .l TB l21, .n n22])) 0)])))
(.pa [1]
(.sT ((decide ((↑(List.length (gl TB (dOf (op_12p [.n n16, .n n17, .n n18, .n n19, .n n20, .l TB l21, .n n22])) 0)) : Int) > (0 : Int))))
(.sF ((gn (dOf (op_30r [.l TB (gl TB (dOf (op_12p [.n n16, .n n17, .n n18, .n n19, .n n20, .l TB l21, .n n22])) 0)])) 7 != (0 : Int)))
(.sF ((!(gn (dOf (op_30r [.l TB (gl TB (dOf (op_12p [.n n16, .n n17, .n n18, .n n19, .n n20, .l TB l21, .n n22])) 0)])) 0 == n16 && (gn (dOf (op_30r [.l TB (gl TB (dOf (op_12p [.n n16, .n n17, .n n18, .n n19, .n n20, .l TB l21, .n n22])) 0)])) 1 == n17 && (gn (dOf (op_30r [.l TB (gl TB (dOf (op_12p [.n n16, .n n17, .n n18, .n n19, .n n20, .l TB l21, .n n22])) 0)])) 2 == n18 && (gn (dOf (op_30r [.l TB (gl TB (dOf (op_12p [.n n16, .n n17, .n n18, .n n19, .n n20, .l TB l21, .n n22])) 0)])) 3 == n19 && (gn (dOf (op_30r [.l TB (gl TB (dOf (op_12p [.n n16, .n n17, .n n18, .n n19, .n n20, .l TB l21, .n n22])) 0)])) 4 == n20 && (eqL TB (gl TB (dOf (op_30r [.l TB (gl TB (dOf (op_12p [.n n16, .n n17, .n n18, .n n19, .n n20, .l TB l21, .n n22])) 0)])) 5) l21 && (gn (dOf (op_30r [.l TB (gl TB (dOf (op_12p [.n n16, .n n17, .n n18, .n n19, .n n20, .l TB l21, .n n22])) 0)])) 6 == n22 && true)))) && true)))))
(.sT ((isK 0 [.n] (op_35r [.l TB (gl TB (dOf (op_12p [.n n16, .n n17, .n n18, .n n19, .n n20, .l TB l21, .n n22])) 0)])))
(.pa [1]
(.sF ((gn (dOf (op_35r [.l TB (gl TB (dOf (op_12p [.n n16, .n n17, .n n18, .n n19, .n n20, .l TB l21, .n n22])) 0)])) 0 != (4 : Int)))
(.sT ((isK 0 [.l TB] (op_13p [.n n23, .n n24, .n n25, .n n26, .l TB l27])))
(.pa [1]
(.sT ((isK 0 [.n, .n, .n, .n, .n, .l TB] (op_32r [.l TB (gl TB (dOf (op_13p [.n n23, .n n24, .n n25, .n n26, .l TB l27])) 0)])))
(.pa [1]
(.sT ((decide ((↑(List.length (gl TB (dOf (op_13p [.n n23, .n n24, .n n25, .n n26, .l TB l27])) 0)) : Int) > (0 : Int))))
(.sF ((gn (dOf (op_32r [.l TB (gl TB (dOf (op_13p [.n n23, .n n24, .n n25, .n n26, .l TB l27])) 0)])) 4 != (0 : Int)))
(.pa [1,1,1,1]
(.sF ((!(gn (dOf (op_32r [.l TB (gl TB (dOf (op_13p [.n n23, .n n24, .n n25, .n n26, .l TB l27])) 0)])) 0 == n23 && (gn (dOf (op_32r [.l TB (gl TB (dOf (op_13p [.n n23, .n n24, .n n25, .n n26, .l TB l27])) 0)])) 1 == n24 && (gn (dOf (op_32r [.l TB (gl TB (dOf (op_13p [.n n23, .n n24, .n n25, .n n26, .l TB l27])) 0)])) 2 == n25 && (gn (dOf (op_32r [.l TB (gl TB (dOf (op_13p [.n n23, .n n24, .n n25, .n n26, .l TB l27])) 0)])) 3 == n26 && (strEq (strOf (gl TB (dOf (op_32r [.l TB (gl TB (dOf (op_13p [.n n23, .n n24, .n n25, .n n26, .l TB l27])) 0)])) 5)) (strOf l27) && true)))))))
(.sT ((isK 0 [.n] (op_35r [.l TB (gl TB (dOf (op_13p [.n n23, .n n24, .n n25, .n n26, .l TB l27])) 0)])))
(.pa [1,1]
(.sF ((gn (dOf (op_35r [.l TB (gl TB (dOf (op_13p [.n n23, .n n24, .n n25, .n n26, .l TB l27])) 0)])) 0 != (5 : Int)))
(.sT ((isK 0 [.b] (op_37r [.l TB l28])))
(.pa [1]
(.sT ((gb (dOf (op_37r [.l TB l28])) 0))
(.pa [1,1,1]
.lf))))))))))))))))))))))))))))))))))))))))))))))))))))))))))))))

noncomputable def fn_W5_hiog : List Dat → Tree Bool
 | (.n n0 :: .n n1 :: .n n2 :: .n n3 :: .n n4 :: .l (Ty.pair (Ty.int IntKind.u8) (Ty.int IntKind.i64)) l5 :: .n n6 :: .n n7 :: .n n8 :: .n n9 :: .n n10 :: .n n11 :: .n n12 :: .n n13 :: .l (Ty.int IntKind.u8) l14 :: .n n15 :: .n n16 :: .n n17 :: .n n18 :: .n n19 :: .n n20 :: .l (Ty.int IntKind.u8) l21 :: .n n22 :: .n n23 :: .n n24 :: .n n25 :: .n n26 :: .l (Ty.int IntKind.u8) l27 :: .l (Ty.int IntKind.u8) l28 :: .l (Ty.int IntKind.u8) l29 :: .l (Ty.int IntKind.u8) l30 :: .l (Ty.int IntKind.u8) l31 :: .l (Ty.int IntKind.u8) l32 :: []) =>
 (.leaf (true))
 | _ => .bad 0
theorem fn_W5_hiog_im (n0 : Int) (n1 : Int) (n2 : Int) (n3 : Int) (n4 : Int) (l5 : List (Ty.den TC)) (n6 : Int) (n7 : Int) (n8 : Int) (n9 : Int) (n10 : Int) (n11 : Int) (n12 : Int) (n13 : Int) (l14 : List (Ty.den TB)) (n15 : Int) (n16 : Int) (n17 : Int) (n18 : Int) (n19 : Int) (n20 : Int) (l21 : List (Ty.den TB)) (n22 : Int) (n23 : Int) (n24 : Int) (n25 : Int) (n26 : Int) (l27 : List (Ty.den TB)) (l28 : List (Ty.den TB)) (l29 : List (Ty.den TB)) (l30 : List (Ty.den TB)) (l31 : List (Ty.den TB)) (l32 : List (Ty.den TB)) (g0 : (l5.length : Int) ≤ 1000) (g1 :  (l27.length : Int) ≤ 5000) (g2 :  (l28.length : Int) ≤ 3000) (g3 :  eqL TB l14 l14 = true) (g4 :  eqL TB l21 l21 = true) (g5 :  op_9p [.n n0, .n n1, .n n2, .n n3, .n n4, .l TC l5] = some (0, [.l TB l29])) (g6 :  0 < l29.length) (g7 :  op_23r [.l TB l29] = some (0, [.n n0, .n n1, .n n2, .n n3, .n n4, .n 0, .l TC l5])) (g8 :  op_25r [.n n0, .n n1, .n n2, .n n3, .n n4, .l TC l5, .n n0, .n n1, .n n2, .n n3, .n n4, .l TC l5] = some (0, [.b true])) (g9 :  op_35r [.l TB l29] = some (0, [.n 1])) (g10 :  op_10p [.n n6, .n n7, .n n8, .n n9, .n n10] = some (0, [.l TB l30])) (g11 :  0 < l30.length) (g12 :  op_26r [.l TB l30] = some (0, [.n n6, .n n7, .n n8, .n n9, .n n10, .n 0])) (g13 :  op_35r [.l TB l30] = some (0, [.n 2])) (g14 :  op_11p [.n n11, .n n12, .n n13, .l TB l14, .n n15] = some (0, [.l TB l31])) (g15 :  0 < l31.length) (g16 :  op_28r [.l TB l31] = some (0, [.n n11, .n n12, .n n13, .l TB l14, .n n15, .n 0])) (g17 :  op_35r [.l TB l31] = some (0, [.n 3])) (g18 :  op_12p [.n n16, .n n17, .n n18, .n n19, .n n20, .l TB l21, .n n22] = some (0, [.l TB l32])) (g19 :  0 < l32.length) (g20 :  op_30r [.l TB l32] = some (0, [.n n16, .n n17, .n n18, .n n19, .n n20, .l TB l21, .n n22, .n 0])) (g21 :  op_35r [.l TB l32] = some (0, [.n 4])) (g22 :  op_13p [.n n23, .n n24, .n n25, .n n26, .l TB l27] = some (0, [.l TB ([] : List (Ty.den TB))])) (g23 :  op_32r [.l TB ([] : List (Ty.den TB))] = some (1, [.n 0, .n 0, .n 0, .n 0, .n 130])) (g24 :  op_37r [.l TB l28] = some (0, [.b true])) (g25 :  l14.length = 64) (g26 :  l21.length = 64) : Imp (fn_W5_hiog (.n n0 :: .n n1 :: .n n2 :: .n n3 :: .n n4 :: .l TC l5 :: .n n6 :: .n n7 :: .n n8 :: .n n9 :: .n n10 :: .n n11 :: .n n12 :: .n n13 :: .l TB l14 :: .n n15 :: .n n16 :: .n n17 :: .n n18 :: .n n19 :: .n n20 :: .l TB l21 :: .n n22 :: .n n23 :: .n n24 :: .n n25 :: .n n26 :: .l TB l27 :: .l TB l28 :: .l TB l29 :: .l TB l30 :: .l TB l31 :: .l TB l32 :: [])) (ev_W5 [.n n0, .n n1, .n n2, .n n3, .n n4, .l TC l5, .n n6, .n n7, .n n8, .n n9, .n n10, .n n11, .n n12, .n n13, .l TB l14, .n n15, .n n16, .n n17, .n n18, .n n19, .n n20, .l TB l21, .n n22, .n n23, .n n24, .n n25, .n n26, .l TB l27, .l TB l28]) :=
(.pa [1]
(.sT ((decide ((↑(List.length l5) : Int) ≤ (1000 : Int))))
(.pa [1]
(.sF ((!decide ((↑(List.length l27) : Int) ≤ (5000 : Int))))
(.sF ((decide ((↑(List.length l28) : Int) > (3000 : Int))))
(.sT ((isK 0 [.l TB] (op_9p [.n n0, .n n1, .n n2, .n n3, .n n4, .l TC l5])))
(.pa [1]
(.sT ((isK 0 [.n, .n, .n, .n, .n, .n, .l TC] (op_23r [.l TB (gl TB (dOf (op_9p [.n n0, .n n1, .n n2, .n n3, .n n4, .l TC l5])) 0)])))
(.pa [1]
(.sT ((decide ((↑(List.length (gl TB (dOf (op_9p [.n n0, .n n1, .n n2, .n n3, .n n4, .l TC l5])) 0)) : Int) > (0 : Int))))
(.sF ((gn (dOf (op_23r [.l TB (gl TB (dOf (op_9p [.n n0, .n n1, .n n2, .n n3, .n n4, .l TC l5])) 0)])) 5 != (0 : Int)))
(.pa [1,1,1,1]
(.sT ((isK 0 [.b] (op_25r [.n (gn (dOf (op_23r [.l TB (gl TB (dOf (op_9p [.n n0, .n n1, .n n2, .n n3, .n n4, .l TC l5])) 0)])) 0), .n (gn (dOf (op_23r [.l TB (gl TB (dOf (op_9p [.n n0, .n n1, .n n2, .n n3, .n n4, .l TC l5])) 0)])) 1), .n (gn (dOf (op_23r [.l TB (gl TB (dOf (op_9p [.n n0, .n n1, .n n2, .n n3, .n n4, .l TC l5])) 0)])) 2), .n (gn (dOf (op_23r [.l TB (gl TB (dOf (op_9p [.n n0, .n n1, .n n2, .n n3, .n n4, .l TC l5])) 0)])) 3), .n (gn (dOf (op_23r [.l TB (gl TB (dOf (op_9p [.n n0, .n n1, .n n2, .n n3, .n n4, .l TC l5])) 0)])) 4), .l TC (gl TC (dOf (op_23r [.l TB (gl TB (dOf (op_9p [.n n0, .n n1, .n n2, .n n3, .n n4, .l TC l5])) 0)])) 6), .n n0, .n n1, .n n2, .n n3, .n n4, .l TC l5])))
(.pa [1]
(.sF ((!gb (dOf (op_25r [.n (gn (dOf (op_23r [.l TB (gl TB (dOf (op_9p [.n n0, .n n1, .n n2, .n n3, .n n4, .l TC l5])) 0)])) 0), .n (gn (dOf (op_23r [.l TB (gl TB (dOf (op_9p [.n n0, .n n1, .n n2, .n n3, .n n4, .l TC l5])) 0)])) 1), .n (gn (dOf (op_23r [.l TB (gl TB (dOf (op_9p [.n n0, .n n1, .n n2, .n n3, .n n4, .l TC l5])) 0)])) 2), .n (gn (dOf (op_23r [.l TB (gl TB (dOf (op_9p [.n n0, .n n1, .n n2, .n n3, .n n4, .l TC l5])) 0)])) 3), .n (gn (dOf (op_23r [.l TB (gl TB (dOf (op_9p [.n n0, .n n1, .n n2, .n n3, .n n4, .l TC l5])) 0)])) 4), .l TC (gl TC (dOf (op_23r [.l TB (gl TB (dOf (op_9p [.n n0, .n n1, .n n2, .n n3, .n n4, .l TC l5])) 0)])) 6), .n n0, .n n1, .n n2, .n n3, .n n4, .l TC l5])) 0))
(.sT ((isK 0 [.n] (op_35r [.l TB (gl TB (dOf (op_9p [.n n0, .n n1, .n n2, .n n3, .n n4, .l TC l5])) 0)])))
(.pa [1,1]
(.sF ((gn (dOf (op_35r [.l TB (gl TB (dOf (op_9p [.n n0, .n n1, .n n2, .n n3, .n n4, .l TC l5])) 0)])) 0 != (1 : Int)))
(.sT ((isK 0 [.l TB] (op_10p [.n n6, .n n7, .n n8, .n n9, .n n10])))
(.pa [1]
(.sT ((isK 0 [.n, .n, .n, .n, .n, .n] (op_26r [.l TB (gl TB (dOf (op_10p [.n n6, .n n7, .n n8, .n n9, .n n10])) 0)])))
(.pa [1]
(.sT ((decide ((↑(List.length (gl TB (dOf (op_10p [.n n6, .n n7, .n n8, .n n9, .n n10])) 0)) : Int) > (0 : Int))))
(.sF ((gn (dOf (op_26r [.l TB (gl TB (dOf (op_10p [.n n6, .n n7, .n n8, .n n9, .n n10])) 0)])) 5 != (0 : Int)))
(.sF ((!(gn (dOf (op_26r [.l TB (gl TB (dOf (op_10p [.n n6, .n n7, .n n8, .n n9, .n n10])) 0)])) 0 == n6 && (gn (dOf (op_26r [.l TB (gl TB (dOf (op_10p [.n n6, .n n7, .n n8, .n n9, .n n10])) 0)])) 1 == n7 && (gn (dOf (op_26r [.l TB (gl TB (dOf (op_10p [.n n6, .n n7, .n n8, .n n9, .n n10])) 0)])) 2 == n8 && (gn (dOf (op_26r [.l TB (gl TB (dOf (op_10p [.n n6, .n n7, .n n8, .n n9, .n n10])) 0)])) 3 == n9 && (gn (dOf (op_26r [.l TB (gl TB (dOf (op_10p [.n n6, .n n7, .n n8, .n n9, .n n10])) 0)])) 4 == n10 && true) && true))))))
(.sT ((isK 0 [.n] (op_35r [.l TB (gl TB (dOf (op_10p [.n n6, .n n7, .n n8, .n n9, .n n10])) 0)])))
(.pa [1]
(.sF ((gn (dOf (op_35r [.l TB (gl TB (dOf (op_10p [.n n6, .n n7, .n n8, .n n9, .n n10])) 0)])) 0 != (2 : Int)))
(.sT ((isK 0 [.l TB] (op_11p [.n n11, .n n12, .n n13, .l TB l14, .n n15])))
(.pa [1]
(.sT ((isK 0 [.n, .n, .n, .l TB, .n, .n] (op_28r [.l TB (gl TB (dOf (op_11p [.n n11, .n n12, .n n13, .l TB l14, .n n15])) 0)])))
(.pa [1]
(.sF ((gn (dOf (op_28r [.l TB (gl TB (dOf (op_11p [.n n11, .n n12, .n n13, .l TB l14, .n n15])) 0)])) 5 != (0 : Int)))
(.sF ((!(gn (dOf (op_28r [.l TB (gl TB (dOf (op_11p [.n n11, .n n12, .n n13, .l TB l14, .n n15])) 0)])) 0 == n11 && (gn (dOf (op_28r [.l TB (gl TB (dOf (op_11p [.n n11, .n n12, .n n13, .l TB l14, .n n15])) 0)])) 1 == n12 && (gn (dOf (op_28r [.l TB (gl TB (dOf (op_11p [.n n11, .n n12, .n n13, .l TB l14, .n n15])) 0)])) 2 == n13 && (eqL TB (gl TB (dOf (op_28r [.l TB (gl TB (dOf (op_11p [.n n11, .n n12, .n n13, .l TB l14, .n n15])) 0)])) 3) l14 && (gn (dOf (op_28r [.l TB (gl TB (dOf (op_11p [.n n11, .n n12, .n n13, .l TB l14, .n n15])) 0)])) 4 == n15 && true)))))))
(.sT ((isK 0 [.n] (op_35r [.l TB (gl TB (dOf (op_11p [.n n11, .n n12, .n n13, .l TB l14, .n n15])) 0)])))
(.pa [1]
(.sF ((gn (dOf (op_35r [.l TB (gl TB (dOf (op_11p [.n n11, .n n12, .n n13, .l TB l14, .n n15])) 0)])) 0 != (3 : Int)))
(.sT ((isK 0 [.l TB] (op_12p [.n n16, .n n17, .n n18, .n n19, .n n20, .l TB l21, .n n22])))
(.pa [1]
(.sT ((isK 0 [.n, .n, .n, .n, .n, .l TB, .n, .n] (op_30r [.l TB (gl TB (dOf (op_12p [.n n16, .n n17, .n n18, .n n19, .n n20, .l TB l21, .n n22])) 0)])))
(.pa [1]
(.sT ((decide ((↑(List.length (gl TB (dOf (op_12p [.n n16, .n n17, .n n18, .n n19, .n n20, .l TB l21, .n n22])) 0)) : Int) > (0 : Int))))
(.sF ((gn (dOf (op_30r [.l TB (gl TB (dOf (op_12p [.n n16, .n n17, .n n18, .n n19, .n n20, .l TB l21, .n n22])) 0)])) 7 != (0 : Int)))
(.sF ((!(gn (dOf (op_30r [.l TB (gl TB (dOf (op_12p [.n n16, .n n17, .n n18, .n n19, .n n20, .l TB l21, .n n22])) 0)])) 0 == n16 && (gn (dOf (op_30r [.l TB (gl TB (dOf (op_12p [.n n16, .n n17, .n n18, .n n19, .n n20, .l TB l21, .n n22])) 0)])) 1 == n17 && (gn (dOf (op_30r [.l TB (gl TB (dOf (op_12p [.n n16, .n n17, .n n18, .n n19, .n n20, .l TB l21, .n n22])) 0)])) 2 == n18 && (gn (dOf (op_30r [.l TB (gl TB (dOf (op_12p [.n n16, .n n17, .n n18, .n n19, .n n20, .l TB l21, .n n22])) 0)])) 3 == n19 && (gn (dOf (op_30r [.l TB (gl TB (dOf (op_12p [.n n16, .n n17, .n n18, .n n19, .n n20, .l TB l21, .n n22])) 0)])) 4 == n20 && (eqL TB (gl TB (dOf (op_30r [.l TB (gl TB (dOf (op_12p [.n n16, .n n17, .n n18, .n n19, .n n20, .l TB l21, .n n22])) 0)])) 5) l21 && (gn (dOf (op_30r [.l TB (gl TB (dOf (op_12p [.n n16, .n n17, .n n18, .n n19, .n n20, .l TB l21, .n n22])) 0)])) 6 == n22 && true)))) && true)))))
(.sT ((isK 0 [.n] (op_35r [.l TB (gl TB (dOf (op_12p [.n n16, .n n17, .n n18, .n n19, .n n20, .l TB l21, .n n22])) 0)])))
(.pa [1]
(.sF ((gn (dOf (op_35r [.l TB (gl TB (dOf (op_12p [.n n16, .n n17, .n n18, .n n19, .n n20, .l TB l21, .n n22])) 0)])) 0 != (4 : Int)))
(.sT ((isK 0 [.l TB] (op_13p [.n n23, .n n24, .n n25, .n n26, .l TB l27])))
(.pa [1]
(.sF ((isK 0 [.n, .n, .n, .n, .n, .l TB] (op_32r [.l TB (gl TB (dOf (op_13p [.n n23, .n n24, .n n25, .n n26, .l TB l27])) 0)])))
(.sT ((isK 1 [.n, .n, .n, .n, .n] (op_32r [.l TB (gl TB (dOf (op_13p [.n n23, .n n24, .n n25, .n n26, .l TB l27])) 0)])))
(.pa [1]
(.sF ((decide ((↑(List.length (gl TB (dOf (op_13p [.n n23, .n n24, .n n25, .n n26, .l TB l27])) 0)) : Int) > (0 : Int))))
(.pa [0,1,0]
(.sT ((isK 0 [.b] (op_37r [.l TB l28])))
(.pa [1]
(.sT ((gb (dOf (op_37r [.l TB l28])) 0))
(.pa [1,1,1]
.lf))))))))))))))))))))))))))))))))))))))))))))))))))))))))))

noncomputable def fn_W5_hiol : List Dat → Tree Bool
 | (.n n0 :: .n n1 :: .n n2 :: .n n3 :: .n n4 :: .l (Ty.pair (Ty.int IntKind.u8) (Ty.int IntKind.i64)) l5 :: .n n6 :: .n n7 :: .n n8 :: .n n9 :: .n n10 :: .n n11 :: .n n12 :: .n n13 :: .l (Ty.int IntKind.u8) l14 :: .n n15 :: .n n16 :: .n n17 :: .n n18 :: .n n19 :: .n n20 :: .l (Ty.int IntKind.u8) l21 :: .n n22 :: .n n23 :: .n n24 :: .n n25 :: .n n26 :: .l (Ty.int IntKind.u8) l27 :: .l (Ty.int IntKind.u8) l28 :: .l (Ty.int IntKind.u8) l29 :: .l (Ty.int IntKind.u8) l30 :: .l (Ty.int IntKind.u8) l31 :: .l (Ty.int IntKind.u8) l32 :: .l (Ty.int IntKind.u8) l33 :: []) =>
 (.leaf (true))
 | _ => .bad 0
theorem fn_W5_hiol_im (n0 : Int) (n1 : Int) (n2 : Int) (n3 : Int) (n4 : Int) (l5 : List (Ty.den TC)) (n6 : Int) (n7 : Int) (n8 : Int) (n9 : Int) (n10 : Int) (n11 : Int) (n12 : Int) (n13 : Int) (l14 : List (Ty.den TB)) (n15 : Int) (n16 : Int) (n17 : Int) (n18 : Int) (n19 : Int) (n20 : Int) (l21 : List (Ty.den TB)) (n22 : Int) (n23 : Int) (n24 : Int) (n25 : Int) (n26 : Int) (l27 : List (Ty.den TB)) (l28 : List (Ty.den TB)) (l29 : List (Ty.den TB)) (l30 : List (Ty.den TB)) (l31 : List (Ty.den TB)) (l32 : List (Ty.den TB)) (l33 : List (Ty.den TB)) (g0 : (l5.length : Int) ≤ 1000) (g1 :  (l27.length : Int) ≤ 5000) (g2 :  (l28.length : Int) ≤ 3000) (g3 :  eqL TB l14 l14 = true) (g4 :  eqL TB l21 l21 = true) (g5 :  op_9p [.n n0, .n n1, .n n2, .n n3, .n n4, .l TC l5] = some (0, [.l TB l29])) (g6 :  0 < l29.length) (g7 :  op_23r [.l TB l29] = some (0, [.n n0, .n n1, .n n2, .n n3, .n n4, .n 0, .l TC l5])) (g8 :  op_25r [.n n0, .n n1, .n n2, .n n3, .n n4, .l TC l5, .n n0, .n n1, .n n2, .n n3, .n n4, .l TC l5] = some (0, [.b true])) (g9 :  op_35r [.l TB l29] = some (0, [.n 1])) (g10 :  op_10p [.n n6, .n n7, .n n8, .n n9, .n n10] = some (0, [.l TB l30])) (g11 :  0 < l30.length) (g12 :  op_26r [.l TB l30] = some (0, [.n n6, .n n7, .n n8, .n n9, .n n10, .n 0])) (g13 :  op_35r [.l TB l30] = some (0, [.n 2])) (g14 :  op_11p [.n n11, .n n12, .n n13, .l TB l14, .n n15] = some (0, [.l TB l31])) (g15 :  0 < l31.length) (g16 :  op_28r [.l TB l31] = some (0, [.n n11, .n n12, .n n13, .l TB l14, .n n15, .n 0])) (g17 :  op_35r [.l TB l31] = some (0, [.n 3])) (g18 :  op_12p [.n n16, .n n17, .n n18, .n n19, .n n20, .l TB l21, .n n22] = some (0, [.l TB ([] : List (Ty.den TB))])) (g19 :  op_30r [.l TB ([] : List (Ty.den TB))] = some (0, [.n 0, .n 0, .n 0, .n 0, .n 0, .l TB l32, .n 0, .n 130])) (g20 :  op_13p [.n n23, .n n24, .n n25, .n n26, .l TB l27] = some (0, [.l TB l33])) (g21 :  0 < l33.length) (g22 :  strEq (strOf l27) (strOf l27) = true) (g23 :  op_32r [.l TB l33] = some (0, [.n n23, .n n24, .n n25, .n n26, .n 0, .l TB l27])) (g24 :  op_35r [.l TB l33] = some (0, [.n 5])) (g25 :  op_37r [.l TB l28] = some (0, [.b true])) (g26 :  l14.length = 64) (g27 :  l21.length = 64) : Imp (fn_W5_hiol (.n n0 :: .n n1 :: .n n2 :: .n n3 :: .n n4 :: .l TC l5 :: .n n6 :: .n n7 :: .n n8 :: .n n9 :: .n n10 :: .n n11 :: .n n12 :: .n n13 :: .l TB l14 :: .n n15 :: .n n16 :: .n n17 :: .n n18 :: .n n19 :: .n n20 :: .l TB l21 :: .n n22 :: .n n23 :: .n n24 :: .n n25 :: .n n26 :: .l TB l27 :: .l TB l28 :: .l TB l29 :: .l TB l30 :: .l TB l31 :: .l TB l32 :: .l TB l33 :: [])) (ev_W5 [.n n0, .n n1, .n n2, .n n3, .n n4, .l TC l5, .n n6, .n n7, .n n8, .n n9, .n n10, .n n11, .n n12, .n n13, .l TB l14, .n n15, .n n16, .n n17, .n n18, .n n19, .n n20, .l TB l21, .n n22, .n n23, .n n24, .n n25, .n n26, .l TB l27, .l TB l28]) :=
(.pa [1]
(.sT ((decide ((↑(List.length l5) : Int) ≤ (1000 : Int))))
(.pa [1]
(.sF ((!decide ((↑(List.length l27) : Int) ≤ (5000 : Int))))
(.sF ((decide ((↑(List.length l28) : Int) > (3000 : Int))))
(.sT ((isK 0 [.l TB] (op_9p [.n n0, .n n1, .n n2, .n n3, .n n4, .l TC l5])))
(.pa [1]
(.sT ((isK 0 [.n, .n, .n, .n, .n, .n, .l TC] (op_23r [.l TB (gl TB (dOf (op_9p [.n n0, .n n1, .n n2, .n n3, .n n4, .l TC l5])) 0)])))
(.pa [1]
(.sT ((decide ((↑(List.length (gl TB (dOf (op_9p [.n n0, .n n1, .n n2, .n n3, .n n4, .l TC l5])) 0)) : Int) > (0 : Int))))
(.sF ((gn (dOf (op_23r [.l TB (gl TB (dOf (op_9p [.n n0, .n n1, .n n2, .n n3, .n n4, .l TC l5])) 0)])) 5 != (0 : Int)))
(.pa [1,1,1,1]
(.sT ((isK 0 [.b] (op_25r [.n (gn (dOf (op_23r [.l TB (gl TB (dOf (op_9p [.n n0, .n n1, .n n2, .n n3, .n n4, .l TC l5])) 0)])) 0), .n (gn (dOf (op_23r [.l TB (gl TB (dOf (op_9p [.n n0, .n n1, .n n2, .n n3, .n n4, .l TC l5])) 0)])) 1), .n (gn (dOf (op_23r [.l TB (gl TB (dOf (op_9p [.n n0, .n n1, .n n2, .n n3, .n n4, .l TC l5])) 0)])) 2), .n (gn (dOf (op_23r [.l TB (gl TB (dOf (op_9p [.n n0, .n n1, .n n2, .n n3, .n n4, .l TC l5])) 0)])) 3), .n (gn (dOf (op_23r [.l TB (gl TB (dOf (op_9p [.n n0, .n n1, .n n2, .n n3, .n n4, .l TC l5])) 0)])) 4), .l TC (gl TC (dOf (op_23r [.l TB (gl TB (dOf (op_9p [.n n0, .n n1, .n n2, .n n3, .n n4, .l TC l5])) 0)])) 6), .n n0, .n n1, .n n2, .n n3, .n n4, .l TC l5])))
(.pa [1]
(.sF ((!gb (dOf (op_25r [.n (gn (dOf (op_23r [.l TB (gl TB (dOf (op_9p [.n n0, .n n1, .n n2, .n n3, .n n4, .l TC l5])) 0)])) 0), .n (gn (dOf (op_23r [.l TB (gl TB (dOf (op_9p [.n n0, .n n1, .n n2, .n n3, .n n4, .l TC l5])) 0)])) 1), .n (gn (dOf (op_23r [.l TB (gl TB (dOf (op_9p [.n n0, .n n1, .n n2, .n n3, .n n4, .l TC l5])) 0)])) 2), .n (gn (dOf (op_23r [.l TB (gl TB (dOf (op_9p [.n n0, .n n1, .n n2, .n n3, .n n4, .l TC l5])) 0)])) 3), .n (gn (dOf (op_23r [.l TB (gl TB (dOf (op_9p [.n n0, .n n1, .n n2, .n n3, .n n4, .l TC l5])) 0)])) 4), .l TC (gl TC (dOf (op_23r [.l TB (gl TB (dOf (op_9p [.n n0, .n n1, .n n2, .n n3, .n n4, .l TC l5])) 0)])) 6), .n n0, .n n1, .n n2, .n n3, .n n4, .l TC l5])) 0))
(.sT ((isK 0 [.n] (op_35r [.l TB (gl TB (dOf (op_9p [.n n0, .n n1, .n n2, .n n3, .n n4, .l TC l5])) 0)])))
(.pa [1,1]
(.sF ((gn (dOf (op_35r [.l TB (gl TB (dOf (op_9p [.n n0, .n n1, .n n2, .n n3, .n n4, .l TC l5])) 0)])) 0 != (1 : Int)))
(.sT ((isK 0 [.l TB] (op_10p [.n n6, .n n7, .n n8, .n n9, .n n10])))
(.pa [1]
(.sT ((isK 0 [.n, .n, .n, .n, .n, .n] (op_26r [.l TB (gl TB (dOf (op_10p [.n n6, .n n7, .n n8, .n n9, .n n10])) 0)])))
(.pa [1]
(.sT ((decide ((↑(List.length (gl TB (dOf (op_10p [.n n6, .n n7, .n n8, .n n9, .n n10])) 0)) : Int) > (0 : Int))))
(.sF ((gn (dOf (op_26r [.l TB (gl TB (dOf (op_10p [.n n6, .n n7, .n n8, .n n9, .n n10])) 0)])) 5 != (0 : Int)))
(.sF ((!(gn (dOf (op_26r [.l TB (gl TB (dOf (op_10p [.n n6, .n n7, .n n8, .n n9, .n n10])) 0)])) 0 == n6 && (gn (dOf (op_26r [.l TB (gl TB (dOf (op_10p [.n n6, .n n7, .n n8, .n n9, .n n10])) 0)])) 1 == n7 && (gn (dOf (op_26r [.l TB (gl TB (dOf (op_10p [.n n6, .n n7, .n n8, .n n9, .n n10])) 0)])) 2 == n8 && (gn (dOf (op_26r [.l TB (gl TB (dOf (op_10p [.n n6, .n n7, .n n8, .n n9, .n n10])) 0)])) 3 == n9 && (gn (dOf (op_26r [.l TB (gl TB (dOf (op_10p [.n n6, .n n7, .n n8, .n n9, .n n10])) 0)])) 4 == n10 && true) && true))))))
(.sT ((isK 0 [.n] (op_35r [.l TB (gl TB (dOf (op_10p [.n n6, .n n7, .n n8, .n n9, .n n10])) 0)])))
(.pa [1]
(.sF ((gn (dOf (op_35r [.l TB (gl TB (dOf (op_10p [.n n6, .n n7, .n n8, .n n9, .n n10])) 0)])) 0 != (2 : Int)))
(.sT ((isK 0 [.l TB] (op_11p [.n n11, .n n12, .n n13, .l TB l14, .n n15])))
(.pa [1]
(.sT ((isK 0 [.n, .n, .n, .l TB, .n, .n] (op_28r [.l TB (gl TB (dOf (op_11p [.n n11, .n n12, .n n13, .l TB l14, .n n15])) 0)])))
(.pa [1]
(.sF ((gn (dOf (op_28r [.l TB (gl TB (dOf (op_11p [.n n11, .n n12, .n n13, .l TB l14, .n n15])) 0)])) 5 != (0 : Int)))
(.sF ((!(gn (dOf (op_28r [.l TB (gl TB (dOf (op_11p [.n n11, .n n12, .n n13, .l TB l14, .n n15])) 0)])) 0 == n11 && (gn (dOf (op_28r [.l TB (gl TB (dOf (op_11p [.n n11, .n n12, .n n13, .l TB l14, .n n15])) 0)])) 1 == n12 && (gn (dOf (op_28r [.l TB (gl TB (dOf (op_11p [.n n11, .n n12, .n n13, .l TB l14, .n n15])) 0)])) 2 == n13 && (eqL TB (gl TB (dOf (op_28r [.l TB (gl TB (dOf (op_11p [.n n11, .n n12, .n n13, .l TB l14, .n n15])) 0)])) 3) l14 && (gn (dOf (op_28r [.l TB (gl TB (dOf (op_11p [.n n11, .n n12, .n n13, .l TB l14, .n n15])) 0)])) 4 == n15 && true)))))))
(.sT ((isK 0 [.n] (op_35r [.l TB (gl TB (dOf (op_11p [.n n11, .n n12, .n n13, .l TB l14, .n n15])) 0)])))
(.pa [1]
(.sF ((gn (dOf (op_35r [.l TB (gl TB (dOf (op_11p [.n n11, .n n12, .n n13, .l TB l14, .n n15])) 0)])) 0 != (3 : Int)))
(.sT ((isK 0 [.l TB] (op_12p [.n n16, .n n17, .n n18, .n n19, .n n20, .l TB l21, .n n22])))
(.pa [1]
(.sT ((isK 0 [.n, .n, .n, .n, .n, .l TB, .n, .n] (op_30r [.l TB (gl TB (dOf (op_12p [.n n16, .n n17, .n n18, .n n19, .n n20, .l TB l21, .n n22])) 0)])))
(.pa [1]
(.sF ((decide ((↑(List.length (gl TB (dOf (op_12p [.n n16, .n n17, .n n18, .n n19, .n n20, .l TB l21, .n n22])) 0)) : Int) > (0 : Int))))
(.pa [0,0]
(.sT ((isK 0 [.l TB] (op_13p [.n n23, .n n24, .n n25, .n n26, .l TB l27])))
(.pa [1]
(.sT ((isK 0 [.n, .n, .n, .n, .n, .l TB] (op_32r [.l TB (gl TB (dOf (op_13p [.n n23, .n n24, .n n25, .n n26, .l TB l27])) 0)])))
(.pa [1]
(.sT ((decide ((↑(List.length (gl TB (dOf (op_13p [.n n23, .n n24, .n n25, .n n26, .l TB l27])) 0)) : Int) > (0 : Int))))
(.sF ((gn (dOf (op_32r [.l TB (gl TB (dOf (op_13p [.n n23, .n n24, .n n25, .n n26, .l TB l27])) 0)])) 4 != (0 : Int)))
(.pa [1,1,1,1]
(.sF ((!(gn (dOf (op_32r [.l TB (gl TB (dOf (op_13p [.n n23, .n n24, .n n25, .n n26, .l TB l27])) 0)])) 0 == n23 && (gn (dOf (op_32r [.l TB (gl TB (dOf (op_13p [.n n23, .n n24, .n n25, .n n26, .l TB l27])) 0)])) 1 == n24 && (gn (dOf (op_32r [.l TB (gl TB (dOf (op_13p [.n n23, .n n24, .n n25, .n n26, .l TB l27])) 0)])) 2 == n25 && (gn (dOf (op_32r [.l TB (gl TB (dOf (op_13p [.n n23, .n n24, .n n25, .n n26, .l TB l27])) 0)])) 3 == n26 && (strEq (strOf (gl TB (dOf (op_32r [.l TB (gl TB (dOf (op_13p [.n n23, .n n24, .n n25, .n n26, .l TB l27])) 0)])) 5)) (strOf l27) && true)))))))
(.sT ((isK 0 [.n] (op_35r [.l TB (gl TB (dOf (op_13p [.n n23, .n n24, .n n25, .n n26, .l TB l27])) 0)])))
(.pa [1,1]
(.sF ((gn (dOf (op_35r [.l TB (gl TB (dOf (op_13p [.n n23, .n n24, .n n25, .n n26, .l TB l27])) 0)])) 0 != (5 : Int)))
(.sT ((isK 0 [.b] (op_37r [.l TB l28])))
(.pa [1]
(.sT ((gb (dOf (op_37r [.l TB l28])) 0))
(.pa [1,1,1]
.lf))))))))))))))))))))))))))))))))))))))))))))))))))))))))))

noncomputable def fn_W5_hio : List Dat → Tree Bool
 | (.n n0 :: .n n1 :: .n n2 :: .n n3 :: .n n4 :: .l (Ty.pair (Ty.int IntKind.u8) (Ty.int IntKind.i64)) l5 :: .n n6 :: .n n7 :: .n n8 :: .n n9 :: .n n10 :: .n n11 :: .n n12 :: .n n13 :: .l (Ty.int IntKind.u8) l14 :: .n n15 :: .n n16 :: .n n17 :: .n n18 :: .n n19 :: .n n20 :: .l (Ty.int IntKind.u8) l21 :: .n n22 :: .n n23 :: .n n24 :: .n n25 :: .n n26 :: .l (Ty.int IntKind.u8) l27 :: .l (Ty.int IntKind.u8) l28 :: .l (Ty.int IntKind.u8) l29 :: .l (Ty.int IntKind.u8) l30 :: .l (Ty.int IntKind.u8) l31 :: .l (Ty.int IntKind.u8) l32 :: []) =>
 (.leaf (true))
 | _ => .bad 0
theorem fn_W5_hio_im (n0 : Int) (n1 : Int) (n2 : Int) (n3 : Int) (n4 : Int) (l5 : List (Ty.den TC)) (n6 : Int) (n7 : Int) (n8 : Int) (n9 : Int) (n10 : Int) (n11 : Int) (n12 : Int) (n13 : Int) (l14 : List (Ty.den TB)) (n15 : Int) (n16 : Int) (n17 : Int) (n18 : Int) (n19 : Int) (n20 : Int) (l21 : List (Ty.den TB)) (n22 : Int) (n23 : Int) (n24 : Int) (n25 : Int) (n26 : Int) (l27 : List (Ty.den TB)) (l28 : List (Ty.den TB)) (l29 : List (Ty.den TB)) (l30 : List (Ty.den TB)) (l31 : List (Ty.den TB)) (l32 : List (Ty.den TB)) (g0 : (l5.length : Int) ≤ 1000) (g1 :  (l27.length : Int) ≤ 5000) (g2 :  (l28.length : Int) ≤ 3000) (g3 :  eqL TB l14 l14 = true) (g4 :  eqL TB l21 l21 = true) (g5 :  op_9p [.n n0, .n n1, .n n2, .n n3, .n n4, .l TC l5] = some (0, [.l TB l29])) (g6 :  0 < l29.length) (g7 :  op_23r [.l TB l29] = some (0, [.n n0, .n n1, .n n2, .n n3, .n n4, .n 0, .l TC l5])) (g8 :  op_25r [.n n0, .n n1, .n n2, .n n3, .n n4, .l TC l5, .n n0, .n n1, .n n2, .n n3, .n n4, .l TC l5] = some (0, [.b true])) (g9 :  op_35r [.l TB l29] = some (0, [.n 1])) (g10 :  op_10p [.n n6, .n n7, .n n8, .n n9, .n n10] = some (0, [.l TB l30])) (g11 :  0 < l30.length) (g12 :  op_26r [.l TB l30] = some (0, [.n n6, .n n7, .n n8, .n n9, .n n10, .n 0])) (g13 :  op_35r [.l TB l30] = some (0, [.n 2])) (g14 :  op_11p [.n n11, .n n12, .n n13, .l TB l14, .n n15] = some (0, [.l TB l31])) (g15 :  0 < l31.length) (g16 :  op_28r [.l TB l31] = some (0, [.n n11, .n n12, .n n13, .l TB l14, .n n15, .n 0])) (g17 :  op_35r [.l TB l31] = some (0, [.n 3])) (g18 :  op_12p [.n n16, .n n17, .n n18, .n n19, .n n20, .l TB l21, .n n22] = some (0, [.l TB ([] : List (Ty.den TB))])) (g19 :  op_30r [.l TB ([] : List (Ty.den TB))] = some (0, [.n 0, .n 0, .n 0, .n 0, .n 0, .l TB l32, .n 0, .n 130])) (g20 :  op_13p [.n n23, .n n24, .n n25, .n n26, .l TB l27] = some (0, [.l TB ([] : List (Ty.den TB))])) (g21 :  op_32r [.l TB ([] : List (Ty.den TB))] = some (1, [.n 0, .n 0, .n 0, .n 0, .n 130])) (g22 :  op_37r [.l TB l28] = some (0, [.b true])) (g23 :  l14.length = 64) (g24 :  l21.length = 64) : Imp (fn_W5_hio (.n n0 :: .n n1 :: .n n2 :: .n n3 :: .n n4 :: .l TC l5 :: .n n6 :: .n n7 :: .n n8 :: .n n9 :: .n n10 :: .n n11 :: .n n12 :: .n n13 :: .l TB l14 :: .n n15 :: .n n16 :: .n n17 :: .n n18 :: .n n19 :: .n n20 :: .l TB l21 :: .n n22 :: .n n23 :: .n n24 :: .n n25 :: .n n26 :: .l TB l27 :: .l TB l28 :: .l TB l29 :: .l TB l30 :: .l TB l31 :: .l TB l32 :: [])) (ev_W5 [.n n0, .n n1, .n n2, .n n3, .n n4, .l TC l5, .n n6, .n n7, .n n8, .n n9, .n n10, .n n11, .n n12, .n n13, .l TB l14, .n n15, .n n16, .n n17, .n n18, .n n19, .n n20, .l TB l21, .n n22, .n n23, .n n24, .n n25, .n n26, .l TB l27, .l TB l28]) :=
(.pa [1]
(.sT ((decide ((↑(List.length l5) : Int) ≤ (1000 : Int))))
(.pa [1]
(.sF ((!decide ((↑(List.length l27) : Int) ≤ (5000 : Int))))
(.sF ((decide ((↑(List.length l28) : Int) > (3000 : Int))))
(.sT ((isK 0 [.l TB] (op_9p [.n n0, .n n1, .n n2, .n n3, .n n4, .l TC l5])))
(.pa [1]
(.sT ((isK 0 [.n, .n, .n, .n, .n, .n, .l TC] (op_23r [.l TB (gl TB (dOf (op_9p [.n n0, .n n1, .n n2, .n n3, .n n4, .l TC l5])) 0)])))
(.pa [1]
(.sT ((decide ((↑(List.length (gl TB (dOf (op_9p [.n n0, .n n1, .n n2, .n n3, .n n4, .l TC l5])) 0)) : Int) > (0 : Int))))
(.sF ((gn (dOf (op_23r [.l TB (gl TB (dOf (op_9p [.n n0, .n n1, .n n2, .n n3, .n n4, .l TC l5])) 0)])) 5 != (0 : Int)))
(.pa [1,1,1,1]
(.sT ((isK 0 [.b] (op_25r [.n (gn (dOf (op_23r [.l TB (gl TB (dOf (op_9p [.n n0, .n n1, .n n2, .n n3, .n n4, .l TC l5])) 0)])) 0), .n (gn (dOf (op_23r [.l TB (gl TB (dOf (op_9p [.n n0, .n n1, .n n2, .n n3, .n n4, .l TC l5])) 0)])) 1), .n (gn (dOf (op_23r [.l TB (gl TB (dOf (op_9p [.n n0, .n n1, .n n2, .n n3, .n n4, .l TC l5])) 0)])) 2), .n (gn (dOf (op_23r [.l TB (gl TB (dOf (op_9p [.n n0, .n n1, .n n2, .n n3, .n n4, .l TC l5])) 0)])) 3), .n (gn (dOf (op_23r [.l TB (gl TB (dOf (op_9p [.n n0, .n n1, .n n2, .n n3, .n n4, .l TC l5])) 0)])) 4), .l TC (gl TC (dOf (op_23r [.l TB (gl TB (dOf (op_9p [.n n0, .n n1, .n n2, .n n3, .n n4, .l TC l5])) 0)])) 6), .n n0, .n n1, .n n2, .n n3, .n n4, .l TC l5])))
(.pa [1]
(.sF ((!gb (dOf (op_25r [.n (gn (dOf (op_23r [.l TB (gl TB (dOf (op_9p [.n n0, .n n1, .n n2, .n n3, .n n4, .l TC l5])) 0)])) 0), .n (gn (dOf (op_23r [.l TB (gl TB (dOf (op_9p [.n n0, .n n1, .n n2, .n n3, .n n4, .l TC l5])) 0)])) 1), .n (gn (dOf (op_23r [.l TB (gl TB (dOf (op_9p [.n n0, .n n1, .n n2, .n n3, .n n4, .l TC l5])) 0)])) 2), .n (gn (dOf (op_23r [.l TB (gl TB (dOf (op_9p [.n n0, .n n1, .n n2, .n n3, .n n4, .l TC l5])) 0)])) 3), .n (gn (dOf (op_23r [.l TB (gl TB (dOf (op_9p [.n n0, .n n1, .n n2, .n n3, .n n4, .l TC l5])) 0)])) 4), .l TC (gl TC (dOf (op_23r [.l TB (gl TB (dOf (op_9p [.n n0, .n n1, .n n2, .n n3, .n n4, .l TC l5])) 0)])) 6), .n n0, .n n1, .n n2, .n n3, .n n4, .l TC l5])) 0))
(.sT ((isK 0 [.n] (op_35r [.l TB (gl TB (dOf (op_9p [.n n0, .n n1, .n n2, .n n3, .n n4, .l TC l5])) 0)])))
(.pa [1,1]
(.sF ((gn (dOf (op_35r [.l TB (gl TB (dOf (op_9p [.n n0, .n n1, .n n2, .n n3, .n n4, .l TC l5])) 0)])) 0 != (1 : Int)))
(.sT ((isK 0 [.l TB] (op_10p [.n n6, .n n7, .n n8, .n n9, .n n10])))
(.pa [1]
(.sT ((isK 0 [.n, .n, .n, .n, .n, .n] (op_26r [.l TB (gl TB (dOf (op_10p [.n n6, .n n7, .n n8, .n n9, .n n10])) 0)])))
(.pa [1]
(.sT ((decide ((↑(List.length (gl TB (dOf (op_10p [.n n6, .n n7, .n n8, .n n9, .n n10])) 0)) : Int) > (0 : Int))))
(.sF ((gn (dOf (op_26r [.l TB (gl TB (dOf (op_10p [.n n6, .n n7, .n n8, .n n9, .n n10])) 0)])) 5 != (0 : Int)))
(.sF ((!(gn (dOf (op_26r [.l TB (gl TB (dOf (op_10p [.n n6, .n n7, .n n8, .n n9, .n n10])) 0)])) 0 == n6 && (gn (dOf (op_26r [.l TB (gl TB (dOf (op_10p [.n n6, .n n7, .n n8, .n n9, .n n10])) 0)])) 1 == n7 && (gn (dOf (op_26r [.l TB (gl TB (dOf (op_10p [.n n6, .n n7, .n n8, .n n9, .n n10])) 0)])) 2 == n8 && (gn (dOf (op_26r [.l TB (gl TB (dOf (op_10p [.n n6, .n n7, .n n8, .n n9, .n n10])) 0)])) 3 == n9 && (gn (dOf (op_26r [.l TB (gl TB (dOf (op_10p [.n n6, .n n7, .n n8, .n n9, .n n10])) 0)])) 4 == n10 && true) && true))))))
(.sT ((isK 0 [.n] (op_35r [.l TB (gl TB (dOf (op_10p [.n n6, .n n7, .n n8, .n n9, .n n10])) 0)])))
(.pa [1]
(.sF ((gn (dOf (op_35r [.l TB (gl TB (dOf (op_10p [.n n6, .n n7, .n n8, .n n9, .n n10])) 0)])) 0 != (2 : Int)))
(.sT ((isK 0 [.l TB] (op_11p [.n n11, .n n12, .n n13, .l TB l14, .n n15])))
(.pa [1]
(.sT ((isK 0 [.n, .n, .n, .l TB, .n, .n] (op_28r [.l TB (gl TB (dOf (op_11p [.n n11, .n n12, .n n13, .l TB l14, .n n15])) 0)])))
(.pa [1]
(.sF ((gn (dOf (op_28r [.l TB (gl TB (dOf (op_11p [.n n11, .n n12, .n n13, .l TB l14, .n n15])) 0)])) 5 != (0 : Int)))
(.sF ((!(gn (dOf (op_28r [.l TB (gl TB (dOf (op_11p [.n n11, .n n12, .n n13, .l TB l14, .n n15])) 0)])) 0 == n11 && (gn (dOf (op_28r [.l TB (gl TB (dOf (op_11p [.n n11, .n n12, .n n13, .l TB l14, .n n15])) 0)])) 1 == n12 && (gn (dOf (op_28r [.l TB (gl TB (dOf (op_11p [.n n11, .n n12, .n n13, .l TB l14, .n n15])) 0)])) 2 == n13 && (eqL TB (gl TB (dOf (op_28r [.l TB (gl TB (dOf (op_11p [.n n11, .n n12, .n n13, .l TB l14, .n n15])) 0)])) 3) l14 && (gn (dOf (op_28r [.l TB (gl TB (dOf (op_11p [.n n11, .n n12, .n n13, .l TB l14, .n n15])) 0)])) 4 == n15 && true)))))))
(.sT ((isK 0 [.n] (op_35r [.l TB (gl TB (dOf (op_11p [.n n11, .n n12, .n n13, .l TB l14, .n n15])) 0)])))
(.pa [1]
(.sF ((gn (dOf (op_35r [.l TB (gl TB (dOf (op_11p [.n n11, .n n12, .n n13, .l TB l14, .n n15])) 0)])) 0 != (3 : Int)))
(.sT ((isK 0 [.l TB] (op_12p [.n n16, .n n17, .n n18, .n n19, .n n20, .l TB l21, .n n22])))
(.pa [1]
(.sT ((isK 0 [.n, .n, .n, .n, .n, .l TB, .n, .n] (op_30r [.l TB (gl TB (dOf (op_12p [.n n16, .n n17, .n n18, .n n19, .n n20, .l TB l21, .n n22])) 0)])))
(.pa [1]
(.sF ((decide ((↑(List.length (gl TB (dOf (op_12p [.n n16, .n n17, .n n18, .n n19, .n n20, .l TB l21, .n n22])) 0)) : Int) > (0 : Int))))
(.pa [0,0]
(.sT ((isK 0 [.l TB] (op_13p [.n n23, .n n24, .n n25, .n n26, .l TB l27])))
(.pa [1]
(.sF ((isK 0 [.n, .n, .n, .n, .n, .l TB] (op_32r [.l TB (gl TB (dOf (op_13p [.n n23, .n n24, .n n25, .n n26, .l TB l27])) 0)])))
(.sT ((isK 1 [.n, .n, .n, .n, .n] (op_32r [.l TB (gl TB (dOf (op_13p [.n n23, .n n24, .n n25, .n n26, .l TB l27])) 0)])))
(.pa [1]
(.sF ((decide ((↑(List.length (gl TB (dOf (op_13p [.n n23, .n n24, .n n25, .n n26, .l TB l27])) 0)) : Int) > (0 : Int))))
(.pa [0,1,0]
(.sT ((isK 0 [.b] (op_37r [.l TB l28])))
(.pa [1]
(.sT ((gb (dOf (op_37r [.l TB l28])) 0))
(.pa [1,1,1]
.lf))))))))))))))))))))))))))))))))))))))))))))))))))))))

noncomputable def fn_W5_higl : List Dat → Tree Bool
 | (.n n0 :: .n n1 :: .n n2 :: .n n3 :: .n n4 :: .l (Ty.pair (Ty.int IntKind.u8) (Ty.int IntKind.i64)) l5 :: .n n6 :: .n n7 :: .n n8 :: .n n9 :: .n n10 :: .n n11 :: .n n12 :: .n n13 :: .l (Ty.int IntKind.u8) l14 :: .n n15 :: .n n16 :: .n n17 :: .n n18 :: .n n19 :: .n n20 :: .l (Ty.int IntKind.u8) l21 :: .n n22 :: .n n23 :: .n n24 :: .n n25 :: .n n26 :: .l (Ty.int IntKind.u8) l27 :: .l (Ty.int IntKind.u8) l28 :: .l (Ty.int IntKind.u8) l29 :: .l (Ty.int IntKind.u8) l30 :: .l (Ty.int IntKind.u8) l31 :: .l (Ty.int IntKind.u8) l32 :: []) =>
 (.leaf (true))
 | _ => .bad 0
theorem fn_W5_higl_im (n0 : Int) (n1 : Int) (n2 : Int) (n3 : Int) (n4 : Int) (l5 : List (Ty.den TC)) (n6 : Int) (n7 : Int) (n8 : Int) (n9 : Int) (n10 : Int) (n11 : Int) (n12 : Int) (n13 : Int) (l14 : List (Ty.den TB)) (n15 : Int) (n16 : Int) (n17 : Int) (n18 : Int) (n19 : Int) (n20 : Int) (l21 : List (Ty.den TB)) (n22 : Int) (n23 : Int) (n24 : Int) (n25 : Int) (n26 : Int) (l27 : List (Ty.den TB)) (l28 : List (Ty.den TB)) (l29 : List (Ty.den TB)) (l30 : List (Ty.den TB)) (l31 : List (Ty.den TB)) (l32 : List (Ty.den TB)) (g0 : (l5.length : Int) ≤ 1000) (g1 :  (l27.length : Int) ≤ 5000) (g2 :  (l28.length : Int) ≤ 3000) (g3 :  eqL TB l14 l14 = true) (g4 :  eqL TB l21 l21 = true) (g5 :  op_9p [.n n0, .n n1, .n n2, .n n3, .n n4, .l TC l5] = some (0, [.l TB l29])) (g6 :  0 < l29.length) (g7 :  op_23r [.l TB l29] = some (0, [.n n0, .n n1, .n n2, .n n3, .n n4, .n 0, .l TC l5])) (g8 :  op_25r [.n n0, .n n1, .n n2, .n n3, .n n4, .l TC l5, .n n0, .n n1, .n n2, .n n3, .n n4, .l TC l5] = some (0, [.b true])) (g9 :  op_35r [.l TB l29] = some (0, [.n 1])) (g10 :  op_10p [.n n6, .n n7, .n n8, .n n9, .n n10] = some (0, [.l TB ([] : List (Ty.den TB))])) (g11 :  op_26r [.l TB ([] : List (Ty.den TB))] = some (0, [.n 0, .n 0, .n 0, .n 0, .n 0, .n 130])) (g12 :  op_11p [.n n11, .n n12, .n n13, .l TB l14, .n n15] = some (0, [.l TB l30])) (g13 :  0 < l30.length) (g14 :  op_28r [.l TB l30] = some (0, [.n n11, .n n12, .n n13, .l TB l14, .n n15, .n 0])) (g15 :  op_35r [.l TB l30] = some (0, [.n 3])) (g16 :  op_12p [.n n16, .n n17, .n n18, .n n19, .n n20, .l TB l21, .n n22] = some (0, [.l TB l31])) (g17 :  0 < l31.length) (g18 :  op_30r [.l TB l31] = some (0, [.n n16, .n n17, .n n18, .n n19, .n n20, .l TB l21, .n n22, .n 0])) (g19 :  op_35r [.l TB l31] = some (0, [.n 4])) (g20 :  op_13p [.n n23, .n n24, .n n25, .n n26, .l TB l27] = some (0, [.l TB l32])) (g21 :  0 < l32.length) (g22 :  strEq (strOf l27) (strOf l27) = true) (g23 :  op_32r [.l TB l32] = some (0, [.n n23, .n n24, .n n25, .n n26, .n 0, .l TB l27])) (g24 :  op_35r [.l TB l32] = some (0, [.n 5])) (g25 :  op_37r [.l TB l28] = some (0, [.b true])) (g26 :  l14.length = 64) (g27 :  l21.length = 64) : Imp (fn_W5_higl (.n n0 :: .n n1 :: .n n2 :: .n n3 :: .n n4 :: .l TC l5 :: .n n6 :: .n n7 :: .n n8 :: .n n9 :: .n n10 :: .n n11 :: .n n12 :: .n n13 :: .l TB l14 :: .n n15 :: .n n16 :: .n n17 :: .n n18 :: .n n19 :: .n n20 :: .l TB l21 :: .n n22 :: .n n23 :: .n n24 :: .n n25 :: .n n26 :: .l TB l27 :: .l TB l28 :: .l TB l29 :: .l TB l30 :: .l TB l31 :: .l TB l32 :: [])) (ev_W5 [.n n0, .n n1, .n n2, .n n3, .n n4, .l TC l5, .n n6, .n n7, .n n8, .n n9, .n n10, .n n11, .n n12, .n n13, .l TB l14, .n n15, .n n16, .n n17, .n n18, .n n19, .n n20, .l TB l21, .n n22, .n n23, .n n24, .n n25, .n n26, .l TB l27, .l TB l28]) :=
(.pa [1]
(.sT ((decide ((↑(List.length l5) : Int) ≤ (1000 : Int))))
(.pa [1]
(.sF ((!decide ((↑(List.length l27) : Int) ≤ (5000 : Int))))
(.sF ((decide ((↑(List.length l28) : Int) > (3000 : Int))))
(.sT ((isK 0 [.l TB] (op_9p [.n n0, .n n1, .n n2, .n n3, .n n4, .l TC l5])))
(.pa [1]
(.sT ((isK 0 [.n, .n, .n, .n, .n, .n, .l TC] (op_23r [.l TB (gl TB (dOf (op_9p [.n n0, .n n1, .n n2, .n n3, .n n4, .l TC l5])) 0)])))
(.pa [1]
(.sT ((decide ((↑(List.length (gl TB (dOf (op_9p [.n n0, .n n1, .n n2, .n n3, .n n4, .l TC l5])) 0)) : Int) > (0 : Int))))
(.sF ((gn (dOf (op_23r [.l TB (gl TB (dOf (op_9p [.n n0, .n n1, .n n2, .n n3, .n n4, .l TC l5])) 0)])) 5 != (0 : Int)))
(.pa [1,1,1,1]
(.sT ((isK 0 [.b] (op_25r [.n (gn (dOf (op_23r [.l TB (gl TB (dOf (op_9p [.n n0, .n n1, .n n2, .n n3, .n n4, .l TC l5])) 0)])) 0), .n (gn (dOf (op_23r [.l TB (gl TB (dOf (op_9p [.n n0, .n n1, .n n2, .n n3, .n n4, .l TC l5])) 0)])) 1), .n (gn (dOf (op_23r [.l TB (gl TB (dOf (op_9p [.n n0, .n n1, .n n2, .n n3, .n n4, .l TC l5])) 0)])) 2), .n (gn (dOf (op_23r [.l TB (gl TB (dOf (op_9p [.n n0, .n n1, .n n2, .n n3, .n n4, .l TC l5])) 0)])) 3), .n (gn (dOf (op_23r [.l TB (gl TB (dOf (op_9p [.n n0, .n n1, .n n2, .n n3, .n n4, .l TC l5])) 0)])) 4), .l TC (gl TC (dOf (op_23r [.l TB (gl TB (dOf (op_9p [.n n0, .n n1, .n n2, .n n3, .n n4, .l TC l5])) 0)])) 6), .n n0, .n n1, .n n2, .n n3, .n n4, .l TC l5])))
(.pa [1]
(.sF ((!gb (dOf (op_25r [.n (gn (dOf (op_23r [.l TB (gl TB (dOf (op_9p [.n n0, .n n1, .n n2, .n n3, .n n4, .l TC l5])) 0)])) 0), .n (gn (dOf (op_23r [.l TB (gl TB (dOf (op_9p [.n n0, .n n1, .n n2, .n n3, .n n4, .l TC l5])) 0)])) 1), .n (gn (dOf (op_23r [.l TB (gl TB (dOf (op_9p [.n n0, .n n1, .n n2, .n n3, .n n4, .l TC l5])) 0)])) 2), .n (gn (dOf (op_23r [.l TB (gl TB (dOf (op_9p [.n n0, .n n1, .n n2, .n n3, .n n4, .l TC l5])) 0)])) 3), .n (gn (dOf (op_23r [.l TB (gl TB (dOf (op_9p [.n n0, .n n1, .n n2, .n n3, .n n4, .l TC l5])) 0)])) 4), .l TC (gl TC (dOf (op_23r [.l TB (gl TB (dOf (op_9p [.n n0, .n n1, .n n2, .n n3, .n n4, .l TC l5])) 0)])) 6), .n n0, .n n1, .n n2, .n n3, .n n4, .l TC l5])) 0))
(.sT ((isK 0 [.n] (op_35r [.l TB (gl TB (dOf (op_9p [.n n0, .n n1, .n n2, .n n3, .n n4, .l TC l5])) 0)])))
(.pa [1,1]
(.sF ((gn (dOf (op_35r [.l TB (gl TB (dOf (op_9p [.n n0, .n n1, .n n2, .n n3, .n n4, .l TC l5])) 0)])) 0 != (1 : Int)))
(.sT ((isK 0 [.l TB] (op_10p [.n n6, .n n7, .n n8, .n n9, .n n10])))
(.pa [1]
(.sT ((isK 0 [.n, .n, .n, .n, .n, .n] (op_26r [.l TB (gl TB (dOf (op_10p [.n n6, .n n7, .n n8, .n n9, .n n10])) 0)])))
(.pa [1]
(.sF ((decide ((↑(List.length (gl TB (dOf (op_10p [.n n6, .n n7, .n n8, .n n9, .n n10])) 0)) : Int) > (0 : Int))))
(.pa [0,0]
(.sT ((isK 0 [.l TB] (op_11p [.n n11, .n n12, .n n13, .l TB l14, .n n15])))
(.pa [1]
(.sT ((isK 0 [.n, .n, .n, .l TB, .n, .n] (op_28r [.l TB (gl TB (dOf (op_11p [.n n11, .n n12, .n n13, .l TB l14, .n n15])) 0)])))
(.pa [1]
(.sF ((gn (dOf (op_28r [.l TB (gl TB (dOf (op_11p [.n n11, .n n12, .n n13, .l TB l14, .n n15])) 0)])) 5 != (0 : Int)))
(.sF ((!(gn (dOf (op_28r [.l TB (gl TB (dOf (op_11p [.n n11, .n n12, .n n13, .l TB l14, .n n15])) 0)])) 0 == n11 && (gn (dOf (op_28r [.l TB (gl TB (dOf (op_11p [.n n11, .n n12, .n n13, .l TB l14, .n n15])) 0)])) 1 == n12 && (gn (dOf (op_28r [.l TB (gl TB (dOf (op_11p [.n n11, .n n12, .n n13, .l TB l14, .n n15])) 0)])) 2 == n13 && (eqL TB (gl TB (dOf (op_28r [.l TB (gl TB (dOf (op_11p [.n n11, .n n12, .n n13, .l TB l14, .n n15])) 0)])) 3) l14 && (gn (dOf (op_28r [.l TB (gl TB (dOf (op_11p [.n n11, .n n12, .n n13, .l TB l14, .n n15])) 0)])) 4 == n15 && true)))))))
(.sT ((isK 0 [.n] (op_35r [.l TB (gl TB (dOf (op_11p [.n n11, .n n12, .n n13, .l TB l14, .n n15])) 0)])))
(.pa [1]
(.sF ((gn (dOf (op_35r [.l TB (gl TB (dOf (op_11p [.n n11, .n n12, .n n13, .l TB l14, .n n15])) 0)])) 0 != (3 : Int)))
(.sT ((isK 0 [.l TB] (op_12p [.n n16, .n n17, .n n18, .n n19, .n n20, .l TB l21, .n n22])))
(.pa [1]
(.sT ((isK 0 [.n, .n, .n, .n, .n, .l TB, .n, .n] (op_30r [.l TB (gl TB (dOf (op_12p [.n n16, .n n17, .n n18, .n n19, .n n20, .l TB l21, .n n22])) 0)])))
(.pa [1]
(.sT ((decide ((↑(List.length (gl TB (dOf (op_12p [.n n16, .n n17, .n n18, .n n19, .n n20, .l TB l21, .n n22])) 0)) : Int) > (0 : Int))))
(.sF ((gn (dOf (op_30r [.l TB (gl TB (dOf (op_12p [.n n16, .n n17, .n n18, .n n19, .n n20, .l TB l21, .n n22])) 0)])) 7 != (0 : Int)))
(.sF ((!(gn (dOf (op_30r [.l TB (gl TB (dOf (op_12p [.n n16, .n n17, .n n18, .n n19, .n n20, .l TB l21, .n n22])) 0)])) 0 == n16 && (gn (dOf (op_30r [.l TB (gl TB (dOf (op_12p [.n n16, .n n17, .n n18, .n n19, .n n20, .l TB l21, .n n22])) 0)])) 1 == n17 && (gn (dOf (op_30r [.l TB (gl TB (dOf (op_12p [.n n16, .n n17, .n n18, .n n19, .n n20, .l TB l21, .n n22])) 0)])) 2 == n18 && (gn (dOf (op_30r [.l TB (gl TB (dOf (op_12p [.n n16, .n n17, .n n18, .n n19, .n n20, .l TB l21, .n n22])) 0)])) 3 == n19 && (gn (dOf (op_30r [.l TB (gl TB (dOf (op_12p [.n n16, .n n17, .n n18, .n n19, .n n20, .l TB l21, .n n22])) 0)])) 4 == n20 && (eqL TB (gl TB (dOf (op_30r [.l TB (gl TB (dOf (op_12p [.n n16, .n n17, .n n18, .n n19, .n n20, .l TB l21, .n n22])) 0)])) 5) l21 && (gn (dOf (op_30r [.l TB (gl TB (dOf (op_12p [.n n16, .n n17, .n n18, .n n19, .n n20, .l TB l21, .n n22])) 0)])) 6 == n22 && true)))) && true)))))
(.sT ((isK 0 [.n] (op_35r [.l TB (gl TB (dOf (op_12p [.n n16, .n n17, .n n18, .n n19, .n n20, .l TB l21, .n n22])) 0)])))
(.pa [1]
(.sF ((gn (dOf (op_35r [.l TB (gl TB (dOf (op_12p [.n n16, .n n17, .n n18, .n n19, .n n20, .l TB l21, .n n22])) 0)])) 0 != (4 : Int)))
(.sT ((isK 0 [.l TB] (op_13p [.n n23, .n n24, .n n25, .n n26, .l TB l27])))
(.pa [1]
(.sT ((isK 0 [.n, .n, .n, .n, .n, .l TB] (op_32r [.l TB (gl TB (dOf (op_13p [.n n23, .n n24, .n n25, .n n26, .l TB l27])) 0)])))
(.pa [1]
(.sT ((decide ((↑(List.length (gl TB (dOf (op_13p [.n n23, .n n24, .n n25, .n n26, .l TB l27])) 0)) : Int) > (0 : Int))))
(.sF ((gn (dOf (op_32r [.l TB (gl TB (dOf (op_13p [.n n23, .n n24, .n n25, .n n26, .l TB l27])) 0)])) 4 != (0 : Int)))
(.pa [1,1,1,1]
(.sF ((!(gn (dOf (op_32r [.l TB (gl TB (dOf (op_13p [.n n23, .n n24, .n n25, .n n26, .l TB l27])) 0)])) 0 == n23 && (gn (dOf (op_32r [.l TB (gl TB (dOf (op_13p [.n n23, .n n24, .n n25, .n n26, .l TB l27])) 0)])) 1 == n24 && (gn (dOf (op_32r [.l TB (gl TB (dOf (op_13p [.n n23, .n n24, .n n25, .n n26, .l TB l27])) 0)])) 2 == n25 && (gn (dOf (op_32r [.l TB (gl TB (dOf (op_13p [.n n23, .n n24, .n n25, .n n26, .l TB l27])) 0)])) 3 == n26 && (strEq (strOf (gl TB (dOf (op_32r [.l TB (gl TB (dOf (op_13p [.n n23, .n n24, .n n25, .n n26, .l TB l27])) 0)])) 5)) (strOf l27) && true)))))))
(.sT ((isK 0 [.n] (op_35r [.l TB (gl TB (dOf (op_13p [.n n23, .n n24, .n n25, .n n26, .l TB l27])) 0)])))
(.pa [1,1]
(.sF ((gn (dOf (op_35r [.l TB (gl TB (dOf (op_13p [.n n23, .n n24, .n n25, .n n26, .l TB l27])) 0)])) 0 != (5 : Int)))
(.sT ((isK 0 [.b] (op_37r [.l TB l28])))
(.pa [1]
(.sT ((gb (dOf (op_37r [.l TB l28])) 0))
(.pa [1,1,1]
.lf))))))))))))))))))))))))))))))))))))))))))))))))))))))))))

noncomputable def fn_W5_hig : List Dat → Tree Bool
 | (.n n0 :: .n n1 :: .n n2 :: .n n3 :: .n n4 :: .l (Ty.pair (Ty.int IntKind.u8) (Ty.int IntKind.i64)) l5 :: .n n6 :: .n n7 :: .n n8 :: .n n9 :: .n n10 :: .n n11 :: .n n12 :: .n n13 :: .l (Ty.int IntKind.u8) l14 :: .n n15 :: .n n16 :: .n n17 :: .n n18 :: .n n19 :: .n n20 :: .l (Ty.int IntKind.u8) l21 :: .n n22 :: .n n23 :: .n n24 :: .n n25 :: .n n26 :: .l (Ty.int IntKind.u8) l27 :: .l (Ty.int IntKind.u8) l28 :: .l (Ty.int IntKind.u8) l29 :: .l (Ty.int IntKind.u8) l30 :: .l (Ty.int IntKind.u8) l31 :: []) =>
 (.leaf (true))
 | _ => .bad 0
theorem fn_W5_hig_im (n0 : Int) (n1 : Int) (n2 : Int) (n3 : Int) (n4 : Int) (l5 : List (Ty.den TC)) (n6 : Int) (n7 : Int) (n8 : Int) (n9 : Int) (n10 : Int) (n11 : Int) (n12 : Int) (n13 : Int) (l14 : List (Ty.den TB)) (n15 : Int) (n16 : Int) (n17 : Int) (n18 : Int) (n19 : Int) (n20 : Int) (l21 : List (Ty.den TB)) (n22 : Int) (n23 : Int) (n24 : Int) (n25 : Int) (n26 : Int) (l27 : List (Ty.den TB)) (l28 : List (Ty.den TB)) (l29 : List (Ty.den TB)) (l30 : List (Ty.den TB)) (l31 : List (Ty.den TB)) (g0 : (l5.length : Int) ≤ 1000) (g1 :  (l27.length : Int) ≤ 5000) (g2 :  (l28.length : Int) ≤ 3000) (g3 :  eqL TB l14 l14 = true) (g4 :  eqL TB l21 l21 = true) (g5 :  op_9p [.n n0, .n n1, .n n2, .n n3, .n n4, .l TC l5] = some (0, [.l TB l29])) (g6 :  0 < l29.length) (g7 :  op_23r [.l TB l29] = some (0, [.n n0, .n n1, .n n2, .n n3, .n n4, .n 0, .l TC l5])) (g8 :  op_25r [.n n0, .n n1, .n n2, .n n3, .n n4, .l TC l5, .n n0, .n n1, .n n2, .n n3, .n n4, .l TC l5] = some (0, [.b true])) (g9 :  op_35r [.l TB l29] = some (0, [.n 1])) (g10 :  op_10p [.n n6, .n n7, .n n8, .n n9, .n n10] = some (0, [.l TB ([] : List (Ty.den TB))])) (g11 :  op_26r [.l TB ([] : List (Ty.den TB))] = some (0, [.n 0, .n 0, .n 0, .n 0, .n 0, .n 130])) (g12 :  op_11p [.n n11, .n n12, .n n13, .l TB l14, .n n15] = some (0, [.l TB l30])) (g13 :  0 < l30.length) (g14 :  op_28r [.l TB l30] = some (0, [.n n11, .n n12, .n n13, .l TB l14, .n n15, .n 0])) (g15 :  op_35r [.l TB l30] = some (0, [.n 3])) (g16 :  op_12p [.n n16, .n n17, .n n18, .n n19, .n n20, .l TB l21, .n n22] = some (0, [.l TB l31])) (g17 :  0 < l31.length) (g18 :  op_30r [.l TB l31] = some (0, [.n n16, .n n17, .n n18, .n n19, .n n20, .l TB l21, .n n22, .n 0])) (g19 :  op_35r [.l TB l31] = some (0, [.n 4])) (g20 :  op_13p [.n n23, .n n24, .n n25, .n n26, .l TB l27] = some (0, [.l TB ([] : List (Ty.den TB))])) (g21 :  op_32r [.l TB ([] : List (Ty.den TB))] = some (1, [.n 0, .n 0, .n 0, .n 0, .n 130])) (g22 :  op_37r [.l TB l28] = some (0, [.b true])) (g23 :  l14.length = 64) (g24 :  l21.length = 64) : Imp (fn_W5_hig (.n n0 :: .n n1 :: .n n2 :: .n n3 :: .n n4 :: .l TC l5 :: .n n6 :: .n n7 :: .n n8 :: .n n9 :: .n n10 :: .n n11 :: .n n12 :: .n n13 :: .l TB l14 :: .n n15 :: .n n16 :: .n n17 :: .n n18 :: .n n19 :: .n n20 :: .l TB l21 :: .n n22 :: .n n23 :: .n n24 :: .n n25 :: .n n26 :: .l TB l27 :: .l TB l28 :: .l TB l29 :: .l TB l30 :: .l TB l31 :: [])) (ev_W5 [.n n0, .n n1, .n n2, .n n3, .n n4, .l TC l5, .n n6, .n n7, .n n8, .n n9, .n n10, .n n11, .n n12, .n n13, .l TB l14, .n n15, .n n16, .n n17, .n n18, .n n19, .n n20, .l TB l21, .n n22, .n n23, .n n24, .n n25, .n n26, .l TB l27, .l TB l28]) :=
(.pa [1]
(.sT ((decide ((↑(List.length l5) : Int) ≤ (1000 : Int))))
(.pa [1]
(.sF ((!decide ((↑(List.length l27) : Int) ≤ (5000 : Int))))
(.sF ((decide ((↑(List.length l28) : Int) > (3000 : Int))))
(.sT ((isK 0 [.l TB] (op_9p [.n n0, .n n1, .n n2, .n n3, .n n4, .l TC l5])))
(.pa [1]
(.sT ((isK 0 [.n, .n, .n, .n, .n, .n, .l TC] (op_23r [.l TB (gl TB (dOf (op_9p [.n n0, .n n1, .n n2, .n n3, .n n4, .l TC l5])) 0)])))
(.pa [1]
(.sT ((decide ((↑(List.length (gl TB (dOf (op_9p [.n n0, .n n1, .n n2, .n n3, .n n4, .l TC l5])) 0)) : Int) > (0 : Int))))
(.sF ((gn (dOf (op_23r [.l TB (gl TB (dOf (op_9p [.n n0, .n n1, .n n2, .n n3, .n n4, .l TC l5])) 0)])) 5 != (0 : Int)))
(.pa [1,1,1,1]
(.sT ((isK 0 [.b] (op_25r [.n (gn (dOf (op_23r [.l TB (gl TB (dOf (op_9p [.n n0, .n n1, .n n2, .n n3, .n n4, .l TC l5])) 0)])) 0), .n (gn (dOf (op_23r [.l TB (gl TB (dOf (op_9p [.n n0, .n n1, .n n2, .n n3, .n n4, .l TC l5])) 0)])) 1), .n (gn (dOf (op_23r [.l TB (gl TB (dOf (op_9p [.n n0, .n n1, .n n2, .n n3, .n n4, .l TC l5])) 0)])) 2), .n (gn (dOf (op_23r [.l TB (gl TB (dOf (op_9p [.n n0, .n n1, .n n2, .n n3, .n n4, .l TC l5])) 0)])) 3), .n (gn (dOf (op_23r [.l TB (gl TB (dOf (op_9p [.n n0, .n n1, .n n2, .n n3, .n n4, .l TC l5])) 0)])) 4), .l TC (gl TC (dOf (op_23r [.l TB (gl TB (dOf (op_9p [.n n0, .n n1, .n n2, .n n3, .n n4, .l TC l5])) 0)])) 6), .n n0, .n n1, .n n2, .n n3, .n n4, .l TC l5])))
(.pa [1]
(.sF ((!gb (dOf (op_25r [.n (gn (dOf (op_23r [.l TB (gl TB (dOf (op_9p [.n n0, .n n1, .n n2, .n n3, .n n4, .l TC l5])) 0)])) 0), .n (gn (dOf (op_23r [.l TB (gl TB (dOf (op_9p [.n n0, .n n1, .n n2, .n n3, .n n4, .l TC l5])) 0)])) 1), .n (gn (dOf (op_23r [.l TB (gl TB (dOf (op_9p [.n n0, .n n1, .n n2, .n n3, .n n4, .l TC l5])) 0)])) 2), .n (gn (dOf (op_23r [.l TB (gl TB (dOf (op_9p [.n n0, .n n1, .n n2, .n n3, .n n4, .l TC l5])) 0)])) 3), .n (gn (dOf (op_23r [.l TB (gl TB (dOf (op_9p [.n n0, .n n1, .n n2, .n n3, .n n4, .l TC l5])) 0)])) 4), .l TC (gl TC (dOf (op_23r [.l TB (gl TB (dOf (op_9p [.n n0, .n n1, .n n2, .n n3, .n n4, .l TC l5])) 0)])) 6), .n n0, .n n1, .n n2, .n n3, .n n4, .l TC l5])) 0))
(.sT ((isK 0 [.n] (op_35r [.l TB (gl TB (dOf (op_9p [.n n0, .n n1, .n n2, .n n3, .n n4, .l TC l5])) 0)])))
(.pa [1,1]
(.sF ((gn (dOf (op_35r [.l TB (gl TB (dOf (op_9p [.n n0, .n n1, .n n2, .n n3, .n n4, .l TC l5])) 0)])) 0 != (1 : Int)))
(.sT ((isK 0 [.l TB] (op_10p [.n n6, .n n7, .n n8, .n n9, .n n10])))
(.pa [1]
(.sT ((isK 0 [.n, .n, .n, .n, .n, .n] (op_26r [.l TB (gl TB (dOf (op_10p [.n n6, .n n7, .n n8, .n n9, .n n10])) 0)])))
(.pa [1]
(.sF ((decide ((↑(List.length (gl TB (dOf (op_10p [.n n6, .n n7, .n n8, .n n9, .n n10])) 0)) : Int) > (0 : Int))))
(.pa [0,0]
(.sT ((isK 0 [.l TB] (op_11p [.n n11, .n n12, .n n13, .l TB l14, .n n15])))
(.pa [1]
(.sT ((isK 0 [.n, .n, .n, .l TB, .n, .n] (op_28r [.l TB (gl TB (dOf (op_11p [.n n11, .n n12, .n n13, .l TB l14, .n n15])) 0)])))
(.pa [1]
(.sF ((gn (dOf (op_28r [.l TB (gl TB (dOf (op_11p [.n n11, .n n12, .n n13, .l TB l14, .n n15])) 0)])) 5 != (0 : Int)))
(.sF ((!(gn (dOf (op_28r [.l TB (gl TB (dOf (op_11p [.n n11, .n n12, .n n13, .l TB l14, .n n15])) 0)])) 0 == n11 && (gn (dOf (op_28r [.l TB (gl TB (dOf (op_11p [.n n11, .n n12, .n n13, .l TB l14, .n n15])) 0)])) 1 == n12 && (gn (dOf (op_28r [.l TB (gl TB (dOf (op_11p [.n n11, .n n12, .n n13, .l TB l14, .n n15])) 0)])) 2 == n13 && (eqL TB (gl TB (dOf (op_28r [.l TB (gl TB (dOf (op_11p [.n n11, .n n12, .n n13, .l TB l14, .n n15])) 0)])) 3) l14 && (gn (dOf (op_28r [.l TB (gl TB (dOf (op_11p [.n n11, .n n12, .n n13, .l TB l14, .n n15])) 0)])) 4 == n15 && true)))))))
(.sT ((isK 0 [.n] (op_35r [.l TB (gl TB (dOf (op_11p [.n n11, .n n12, .n n13, .l TB l14, .n n15])) 0)])))
(.pa [1]
(.sF ((gn (dOf (op_35r [.l TB (gl TB (dOf (op_11p [.n n11, .n n12, .n n13, .l TB l14, .n n15])) 0)])) 0 != (3 : Int)))
(.sT ((isK 0 [.l TB] (op_12p [.n n16, .n n17, .n n18, .n n19, .n n20, .l TB l21, .n n22])))
(.pa [1]
(.sT ((isK 0 [.n, .n, .n, .n, .n, .l TB, .n, .n] (op_30r [.l TB (gl TB (dOf (op_12p [.n n16, .n n17, .n n18, .n n19, .n n20, .l TB l21, .n n22])) 0)])))
(.pa [1]
(.sT ((decide ((↑(List.length (gl TB (dOf (op_12p [.n n16, .n n17, .n n18, .n n19, .n n20, .l TB l21, .n n22])) 0)) : Int) > (0 : Int))))
(.sF ((gn (dOf (op_30r [.l TB (gl TB (dOf (op_12p [.n n16, .n n17, .n n18, .n n19, .n n20, .l TB l21, .n n22])) 0)])) 7 != (0 : Int)))
(.sF ((!(gn (dOf (op_30r [.l TB (gl TB (dOf (op_12p [.n n16, .n n17, .n n18, .n n19, .n n20, .l TB l21, .n n22])) 0)])) 0 == n16 && (gn (dOf (op_30r [.l TB (gl TB (dOf (op_12p [.n n16, .n n17, .n n18, .n n19, .n n20, .l TB l21, .n n22])) 0)])) 1 == n17 && (gn (dOf (op_30r [.l TB (gl TB (dOf (op_12p [.n n16, .n n17, .n n18, .n n19, .n n20, .l TB l21, .n n22])) 0)])) 2 == n18 && (gn (dOf (op_30r [.l TB (gl TB (dOf (op_12p [.n n16, .n n17, .n n18, .n n19, .n n20, .l TB l21, .n n22])) 0)])) 3 == n19 && (gn (dOf (op_30r [.l TB (gl TB (dOf (op_12p [.n n16, .n n17, .n n18, .n n19, .n n20, .l TB l21, .n n22])) 0)])) 4 == n20 && (eqL TB (gl TB (dOf (op_30r [.l TB (gl TB (dOf (op_12p [.n n16, .n n17, .n n18, .n n19, .n n20, .l TB l21, .n n22])) 0)])) 5) l21 && (gn (dOf (op_30r [.l TB (gl TB (dOf (op_12p [.n n16, .n n17, .n n18, .n n19, .n n20, .l TB l21, .n n22])) 0)])) 6 == n22 && true)))) && true)))))
(.sT ((isK 0 [.n] (op_35r [.l TB (gl TB (dOf (op_12p [.n n16, .n n17, .n n18, .n n19, .n n20, .l TB l21, .n n22])) 0)])))
(.pa [1]
(.sF ((gn (dOf (op_35r [.l TB (gl TB (dOf (op_12p [.n n16, .n n17, .n n18, .n n19, .n n20, .l TB l21, .n n22])) 0)])) 0 != (4 : Int)))
(.sT ((isK 0 [.l TB] (op_13p [.n n23, .n n24, .n n25, .n n26, .l TB l27])))
(.pa [1]
(.sF ((isK 0 [.n, .n, .n, .n, .n, .l TB] (op_32r [.l TB (gl TB (dOf (op_13p [.n n23, .n n24, .n n25, .n n26, .l TB l27])) 0)])))
(.sT ((isK 1 [.n, .n, .n, .n, .n] (op_32r [.l TB (gl TB (dOf (op_13p [.n n23, .n n24, .n n25, .n n26, .l TB l27])) 0)])))
(.pa [1]
(.sF ((decide ((↑(List.length (gl TB (dOf (op_13p [.n n23, .n n24, .n n25, .n n26, .l TB l27])) 0)) : Int) > (0 : Int))))
(.pa [0,1,0]
(.sT ((isK 0 [.b] (op_37r [.l TB l28])))
(.pa [1]
(.sT ((gb (dOf (op_37r [.l TB l28])) 0))
(.pa [1,1,1]
.lf))))))))))))))))))))))))))))))))))))))))))))))))))))))

noncomputable def fn_W5_hil : List Dat → Tree Bool
 | (.n n0 :: .n n1 :: .n n2 :: .n n3 :: .n n4 :: .l (Ty.pair (Ty.int IntKind.u8) (Ty.int IntKind.i64)) l5 :: .n n6 :: .n n7 :: .n n8 :: .n n9 :: .n n10 :: .n n11 :: .n n12 :: .n n13 :: .l (Ty.int IntKind.u8) l14 :: .n n15 :: .n n16 :: .n n17 :: .n n18 :: .n n19 :: .n n20 :: .l (Ty.int IntKind.u8) l21 :: .n n22 :: .n n23 :: .n n24 :: .n n25 :: .n n26 :: .l (Ty.int IntKind.u8) l27 :: .l (Ty.int IntKind.u8) l28 :: .l (Ty.int IntKind.u8) l29 :: .l (Ty.int IntKind.u8) l30 :: .l (Ty.int IntKind.u8) l31 :: .l (Ty.int IntKind.u8) l32 :: []) =>
 (.leaf (true))
 | _ => .bad 0
theorem fn_W5_hil_im (n0 : Int) (n1 : Int) (n2 : Int) (n3 : Int) (n4 : Int) (l5 : List (Ty.den TC)) (n6 : Int) (n7 : Int) (n8 : Int) (n9 : Int) (n10 : Int) (n11 : Int) (n12 : Int) (n13 : Int) (l14 : List (Ty.den TB)) (n15 : Int) (n16 : Int) (n17 : Int) (n18 : Int) (n19 : Int) (n20 : Int) (l21 : List (Ty.den TB)) (n22 : Int) (n23 : Int) (n24 : Int) (n25 : Int) (n26 : Int) (l27 : List (Ty.den TB)) (l28 : List (Ty.den TB)) (l29 : List (Ty.den TB)) (l30 : List (Ty.den TB)) (l31 : List (Ty.den TB)) (l32 : List (Ty.den TB)) (g0 : (l5.length : Int) ≤ 1000) (g1 :  (l27.length : Int) ≤ 5000) (g2 :  (l28.length : Int) ≤ 3000) (g3 :  eqL TB l14 l14 = true) (g4 :  eqL TB l21 l21 = true) (g5 :  op_9p [.n n0, .n n1, .n n2, .n n3, .n n4, .l TC l5] = some (0, [.l TB l29])) (g6 :  0 < l29.length) (g7 :  op_23r [.l TB l29] = some (0, [.n n0, .n n1, .n n2, .n n3, .n n4, .n 0, .l TC l5])) (g8 :  op_25r [.n n0, .n n1, .n n2, .n n3, .n n4, .l TC l5, .n n0, .n n1, .n n2, .n n3, .n n4, .l TC l5] = some (0, [.b true])) (g9 :  op_35r [.l TB l29] = some (0, [.n 1])) (g10 :  op_10p [.n n6, .n n7, .n n8, .n n9, .n n10] = some (0, [.l TB ([] : List (Ty.den TB))])) (g11 :  op_26r [.l TB ([] : List (Ty.den TB))] = some (0, [.n 0, .n 0, .n 0, .n 0, .n 0, .n 130])) (g12 :  op_11p [.n n11, .n n12, .n n13, .l TB l14, .n n15] = some (0, [.l TB l30])) (g13 :  0 < l30.length) (g14 :  op_28r [.l TB l30] = some (0, [.n n11, .n n12, .n n13, .l TB l14, .n n15, .n 0])) (g15 :  op_35r [.l TB l30] = some (0, [.n 3])) (g16 :  op_12p [.n n16, .n n17, .n n18, .n n19, .n n20, .l TB l21, .n n22] = some (0, [.l TB ([] : List (Ty.den TB))])) (g17 :  op_30r [.l TB ([] : List (Ty.den TB))] = some (0, [.n 0, .n 0, .n 0, .n 0, .n 0, .l TB l31, .n 0, .n 130])) (g18 :  op_13p [.n n23, .n n24, .n n25, .n n26, .l TB l27] = some (0, [.l TB l32])) (g19 :  0 < l32.length) (g20 :  strEq (strOf l27) (strOf l27) = true) (g21 :  op_32r [.l TB l32] = some (0, [.n n23, .n n24, .n n25, .n n26, .n 0, .l TB l27])) (g22 :  op_35r [.l TB l32] = some (0, [.n 5])) (g23 :  op_37r [.l TB l28] = some (0, [.b true])) (g24 :  l14.length = 64) (g25 :  l21.length = 64) : Imp (fn_W5_hil (.n n0 :: .n n1 :: .n n2 :: .n n3 :: .n n4 :: .l TC l5 :: .n n6 :: .n n7 :: .n n8 :: .n n9 :: .n n10 :: .n n11 :: .n n12 :: .n n13 :: .l TB l14 :: .n n15 :: .n n16 :: .n n17 :: .n n18 :: .n n19 :: .n n20 :: .l TB l21 :: .n n22 :: .n n23 :: .n n24 :: .n n25 :: .n n26 :: .l TB l27 :: .l TB l28 :: .l TB l29 :: .l TB l30 :: .l TB l31 :: .l TB l32 :: [])) (ev_W5 [.n n0, .n n1, .n n2, .n n3, .n n4, .l TC l5, .n n6, .n n7, .n n8, .n n9, .n n10, .n n11, .n n12, .n n13, .l TB l14, .n n15, .n n16, .n n17, .n n18, .n n19, .n n20, .l TB l21, .n n22, .n n23, .n n24, .n n25, .n n26, .l TB l27, .l TB l28]) :=
(.pa [1]
(.sT ((decide ((↑(List.length l5) : Int) ≤ (1000 : Int))))
(.pa [1]
(.sF ((!decide ((↑(List.length l27) : Int) ≤ (5000 : Int))))
(.sF ((decide ((↑(List.length l28) : Int) > (3000 : Int))))
(.sT ((isK 0 [.l TB] (op_9p [.n n0, .n n1, .n n2, .n n3, .n n4, .l TC l5])))
(.pa [1]
(.sT ((isK 0 [.n, .n, .n, .n, .n, .n, .l TC] (op_23r [.l TB (gl TB (dOf (op_9p [.n n0, .n n1, .n n2, .n n3, .n n4, .l TC l5])) 0)])))
(.pa [1]
(.sT ((decide ((↑(List.length (gl TB (dOf (op_9p [.n n0, .n n1, .n n2, .n n3, .n n4, .l TC l5])) 0)) : Int) > (0 : Int))))
(.sF ((gn (dOf (op_23r [.l TB (gl TB (dOf (op_9p [.n n0, .n n1, .n n2, .n n3, .n n4, .l TC l5])) 0)])) 5 != (0 : Int)))
(.pa [1,1,1,1]
(.sT ((isK 0 [.b] (op_25r [.n (gn (dOf (op_23r [.l TB (gl TB (dOf (op_9p [.n n0, .n n1, .n n2, .n n3, .n n4, .l TC l5])) 0)])) 0), .n (gn (dOf (op_23r [.l TB (gl TB (dOf (op_9p [.n n0, .n n1, .n n2, .n n3, .n n4, .l TC l5])) 0)])) 1), .n (gn (dOf (op_23r [.l TB (gl TB (dOf (op_9p [.n n0, .n n1, .n n2, .n n3, .n n4, .l TC l5])) 0)])) 2), .n (gn (dOf (op_23r [.l TB (gl TB (dOf (op_9p [.n n0, .n n1, .n n2, .n n3, .n n4, .l TC l5])) 0)])) 3), .n (gn (dOf (op_23r [.l TB (gl TB (dOf (op_9p [.n n0, .n n1, .n n2, .n n3, .n n4, .l TC l5])) 0)])) 4), .l TC (gl TC (dOf (op_23r [.l TB (gl TB (dOf (op_9p [.n n0, .n n1, .n n2, .n n3, .n n4, .l TC l5])) 0)])) 6), .n n0, .n n1, .n n2, .n n3, .n n4, .l TC l5])))
(.pa [1]
(.sF ((!gb (dOf (op_25r [.n (gn (dOf (op_23r [.l TB (gl TB (dOf (op_9p [.n n0, .n n1, .n n2, .n n3, .n n4, .l TC l5])) 0)])) 0), .n (gn (dOf (op_23r [.l TB (gl TB (dOf (op_9p [.n n0, .n n1, .n n2, .n n3, .n n4, .l TC l5])) 0)])) 1), .n (gn (dOf (op_23r [.l TB (gl TB (dOf (op_9p [.n n0, .n n1, .n n2, .n n3, .n n4, .l TC l5])) 0)])) 2), .n (gn (dOf (op_23r [.l TB (gl TB (dOf (op_9p [.n n0, .n n1, .n n2, .n n3, .n n4, .l TC l5])) 0)])) 3), .n (gn (dOf (op_23r [.l TB (gl TB (dOf (op_9p [.n n0, .n n1, .n n2, .n n3, .n n4, .l TC l5])) 0)])) 4), .l TC (gl TC (dOf (op_23r [.l TB (gl TB (dOf (op_9p [.n n0, .n n1, .n n2, .n n3, .n n4, .l TC l5])) 0)])) 6), .n n0, .n n1, .n n2, .n n3, .n n4, .l TC l5])) 0))
(.sT ((isK 0 [.n] (op_35r [.l TB (gl TB (dOf (op_9p [.n n0, .n n1, .n n2, .n n3, .n n4, .l TC l5])) 0)])))
(.pa [1,1]
(.sF ((gn (dOf (op_35r [.l TB (gl TB (dOf (op_9p [.n n0, .n n1, .n n2, .n n3, .n n4, .l TC l5])) 0)])) 0 != (1 : Int)))
(.sT ((isK 0 [.l TB] (op_10p [.n n6, .n n7, .n n8, .n n9, .n n10])))
(.pa [1]
(.sT ((isK 0 [.n, .n, .n, .n, .n, .n] (op_26r [.l TB (gl TB (dOf (op_10p [.n n6, .n n7, .n n8, .n n9, .n n10])) 0)])))
(.pa [1]
(.sF ((decide ((↑(List.length (gl TB (dOf (op_10p [.n n6, .n n7, .n n8, .n n9, .n n10])) 0)) : Int) > (0 : Int))))
(.pa [0,0]
(.sT ((isK 0 [.l TB] (op_11p [.n n11, .n n12, .n n13, .l TB l14, .n n15])))
(.pa [1]
(.sT ((isK 0 [.n, .n, .n, .l TB, .n, .n] (op_28r [.l TB (gl TB (dOf (op_11p [.n n11, .n n12, .n n13, .l TB l14, .n n15])) 0)])))
(.pa [1]
(.sF ((gn (dOf (op_28r [.l TB (gl TB (dOf (op_11p [.n n11, .n n12, .n n13, .l TB l14, .n n15])) 0)])) 5 != (0 : Int)))
(.sF ((!(gn (dOf (op_28r [.l TB (gl TB (dOf (op_11p [.n n11, .n n12, .n n13, .l TB l14, .n n15])) 0)])) 0 == n11 && (gn (dOf (op_28r [.l TB (gl TB (dOf (op_11p [.n n11, .n n12, .n n13, .l TB l14, .n n15])) 0)])) 1 == n12 && (gn (dOf (op_28r [.l TB (gl TB (dOf (op_11p [.n n11, .n n12, .n n13, .l TB l14, .n n15])) 0)])) 2 == n13 && (eqL TB (gl TB (dOf (op_28r [.l TB (gl TB (dOf (op_11p [.n n11, .n n12, .n n13, .l TB l14, .n n15])) 0)])) 3) l14 && (gn (dOf (op_28r [.l TB (gl TB (dOf (op_11p [.n n11, .n n12, .n n13, .l TB l14, .n n15])) 0)])) 4 == n15 && true)))))))
(.sT ((isK 0 [.n] (op_35r [.l TB (gl TB (dOf (op_11p [.n n11, .n n12, .n n13, .l TB l14, .n n15])) 0)])))
(.pa [1]
(.sF ((gn (dOf (op_35r [.l TB (gl TB (dOf (op_11p [.n n11, .n n12, .n n13, .l TB l14, .n n15])) 0)])) 0 != (3 : Int)))
(.sT ((isK 0 [.l TB] (op_12p [.n n16, .n n17, .n n18, .n n19, .n n20, .l TB l21, .n n22])))
(.pa [1]
(.sT ((isK 0 [.n, .n, .n, .n, .n, .l TB, .n, .n] (op_30r [.l TB (gl TB (dOf (op_12p [.n n16, .n n17, .n n18, .n n19, .n n20, .l TB l21, .n n22])) 0)])))
(.pa [1]
(.sF ((decide ((↑(List.length (gl TB (dOf (op_12p [.n n16, .n n17, .n n18, .n n19, .n n20, .l TB l21, .n n22])) 0)) : Int) > (0 : Int))))
(.pa [0,0]
(.sT ((isK 0 [.l TB] (op_13p [.n n23, .n n24, .n n25, .n n26, .l TB l27])))
(.pa [1]
(.sT ((isK 0 [.n, .n, .n, .n, .n, .l TB] (op_32r [.l TB (gl TB (dOf (op_13p [.n n23, .n n24, .n n25, .n n26, .l TB l27])) 0)])))
(.pa [1]
(.sT ((decide ((↑(List.length (gl TB (dOf (op_13p [.n n23, .n n24, .n n25, .n n26, .l TB l27])) 0)) : Int) > (0 : Int))))
(.sF ((gn (dOf (op_32r [.l TB (gl TB (dOf (op_13p [.n n23, .n n24, .n n25, .n n26, .l TB l27])) 0)])) 4 != (0 : Int)))
(.pa [1,1,1,1]
(.sF ((!(gn (dOf (op_32r [.l TB (gl TB (dOf (op_13p [.n n23, .n n24, .n n25, .n n26, .l TB l27])) 0)])) 0 == n23 && (gn (dOf (op_32r [.l TB (gl TB (dOf (op_13p [.n n23, .n n24, .n n25, .n n26, .l TB l27])) 0)])) 1 == n24 && (gn (dOf (op_32r [.l TB (gl TB (dOf (op_13p [.n n23, .n n24, .n n25, .n n26, .l TB l27])) 0)])) 2 == n25 && (gn (dOf (op_32r [.l TB (gl TB (dOf (op_13p [.n n23, .n n24, .n n25, .n n26, .l TB l27])) 0)])) 3 == n26 && (strEq (strOf (gl TB (dOf (op_32r [.l TB (gl TB (dOf (op_13p [.n n23, .n n24, .n n25, .n n26, .l TB l27])) 0)])) 5)) (strOf l27) && true)))))))
(.sT ((isK 0 [.n] (op_35r [.l TB (gl TB (dOf (op_13p [.n n23, .n n24, .n n25, .n n26, .l TB l27])) 0)])))
(.pa [1,1]
(.sF ((gn (dOf (op_35r [.l TB (gl TB (dOf (op_13p [.n n23, .n n24, .n n25, .n n26, .l TB l27])) 0)])) 0 != (5 : Int)))
(.sT ((isK 0 [.b] (op_37r [.l TB l28])))
(.pa [1]
(.sT ((gb (dOf (op_37r [.l TB l28])) 0))
(.pa [1,1,1]
.lf))))))))))))))))))))))))))))))))))))))))))))))))))))))

noncomputable def fn_W5_hi : List Dat → Tree Bool
 | (.n n0 :: .n n1 :: .n n2 :: .n n3 :: .n n4 :: .l (Ty.pair (Ty.int IntKind.u8) (Ty.int IntKind.i64)) l5 :: .n n6 :: .n n7 :: .n n8 :: .n n9 :: .n n10 :: .n n11 :: .n n12 :: .n n13 :: .l (Ty.int IntKind.u8) l14 :: .n n15 :: .n n16 :: .n n17 :: .n n18 :: .n n19 :: .n n20 :: .l (Ty.int IntKind.u8) l21 :: .n n22 :: .n n23 :: .n n24 :: .n n25 :: .n n26 :: .l (Ty.int IntKind.u8) l27 :: .l (Ty.int IntKind.u8) l28 :: .l (Ty.int IntKind.u8) l29 :: .l (Ty.int IntKind.u8) l30 :: .l (Ty.int IntKind.u8) l31 :: []) =>
 (.leaf (true))
 | _ => .bad 0
theorem fn_W5_hi_im (n0 : Int) (n1 : Int) (n2 : Int) (n3 : Int) (n4 : Int) (l5 : List (Ty.den TC)) (n6 : Int) (n7 : Int) (n8 : Int) (n9 : Int) (n10 : Int) (n11 : Int) (n12 : Int) (n13 : Int) (l14 : List (Ty.den TB)) (n15 : Int) (n16 : Int) (n17 : Int) (n18 : Int) (n19 : Int) (n20 : Int) (l21 : List (Ty.den TB)) (n22 : Int) (n23 : Int) (n24 : Int) (n25 : Int) (n26 : Int) (l27 : List (Ty.den TB)) (l28 : List (Ty.den TB)) (l29 : List (Ty.den TB)) (l30 : List (Ty.den TB)) (l31 : List (Ty.den TB)) (g0 : (l5.length : Int) ≤ 1000) (g1 :  (l27.length : Int) ≤ 5000) (g2 :  (l28.length : Int) ≤ 3000) (g3 :  eqL TB l14 l14 = true) (g4 :  eqL TB l21 l21 = true) (g5 :  op_9p [.n n0, .n n1, .n n2, .n n3, .n n4, .l TC l5] = some (0, [.l TB l29])) (g6 :  0 < l29.length) (g7 :  op_23r [.l TB l29] = some (0, [.n n0, .n n1, .n n2, .n n3, .n n4, .n 0, .l TC l5])) (g8 :  op_25r [.n n0, .n n1, .n n2, .n n3, .n n4, .l TC l5, .n n0, .n n1, .n n2, .n n3, .n n4, .l TC l5] = some (0, [.b true])) (g9 :  op_35r [.l TB l29] = some (0, [.n 1])) (g10 :  op_10p [.n n6, .n n7, .n n8, .n n9, .n n10] = some (0, [.l TB ([] : List (Ty.den TB))])) (g11 :  op_26r [.l TB ([] : List (Ty.den TB))] = some (0, [.n 0, .n 0, .n 0, .n 0, .n 0, .n 130])) (g12 :  op_11p [.n n11, .n n12, .n n13, .l TB l14, .n n15] = some (0, [.l TB l30])) (g13 :  0 < l30.length) (g14 :  op_28r [.l TB l30] = some (0, [.n n11, .n n12, .n n13, .l TB l14, .n n15, .n 0])) (g15 :  op_35r [.l TB l30] = some (0, [.n 3])) (g16 :  op_12p [.n n16, .n n17, .n n18, .n n19, .n n20, .l TB l21, .n n22] = some (0, [.l TB ([] : List (Ty.den TB))])) (g17 :  op_30r [.l TB ([] : List (Ty.den TB))] = some (0, [.n 0, .n 0, .n 0, .n 0, .n 0, .l TB l31, .n 0, .n 130])) (g18 :  op_13p [.n n23, .n n24, .n n25, .n n26, .l TB l27] = some (0, [.l TB ([] : List (Ty.den TB))])) (g19 :  op_32r [.l TB ([] : List (Ty.den TB))] = some (1, [.n 0, .n 0, .n 0, .n 0, .n 130])) (g20 :  op_37r [.l TB l28] = some (0, [.b true])) (g21 :  l14.length = 64) (g22 :  l21.length = 64) : Imp (fn_W5_hi (.n n0 :: .n n1 :: .n n2 :: .n n3 :: .n n4 :: .l TC l5 :: .n n6 :: .n n7 :: .n n8 :: .n n9 :: .n n10 :: .n n11 :: .n n12 :: .n n13 :: .l TB l14 :: .n n15 :: .n n16 :: .n n17 :: .n n18 :: .n n19 :: .n n20 :: .l TB l21 :: .n n22 :: .n n23 :: .n n24 :: .n n25 :: .n n26 :: .l TB l27 :: .l TB l28 :: .l TB l29 :: .l TB l30 :: .l TB l31 :: [])) (ev_W5 [.n n0, .n n1, .n n2, .n n3, .n n4, .l TC l5, .n n6, .n n7, .n n8, .n n9, .n n10, .n n11, .n n12, .n n13, .l TB l14, .n n15, .n n16, .n n17, .n n18, .n n19, .n n20, .l TB l21, .n n22, .n n23, .n n24, .n n25, .n n26, .l TB l27, .l TB l28]) :=
(.pa [1]
(.sT ((decide ((↑(List.length l5) : Int) ≤ (1000 : Int))))
(.pa [1]
(.sF ((!decide ((↑(List.length l27) : Int) ≤ (5000 : Int))))
(.sF ((decide ((↑(List.length l28) : Int) > (3000 : Int))))
(.sT ((isK 0 [.l TB] (op_9p [.n n0, .n n1, .n n2, .n n3, .n n4, .l TC l5])))
(.pa [1]
(.sT ((isK 0 [.n, .n, .n, .n, .n, .n, .l TC] (op_23r [.l TB (gl TB (dOf (op_9p [.n n0, .n n1, .n n2, .n n3, .n n4, .l TC l5])) 0)])))
(.pa [1]
(.sT ((decide ((↑(List.length (gl TB (dOf (op_9p [.n n0, .n n1, .n n2, .n n3, .n n4, .l TC l5])) 0)) : Int) > (0 : Int))))
(.sF ((gn (dOf (op_23r [.l TB (gl TB (dOf (op_9p [.n n0, .n n1, .n n2, .n n3, .n n4, .l TC l5])) 0)])) 5 != (0 : Int)))
(.pa [1,1,1,1]
(.sT ((isK 0 [.b] (op_25r [.n (gn (dOf (op_23r [.l TB (gl TB (dOf (op_9p [.n n0, .n n1, .n n2, .n n3, .n n4, .l TC l5])) 0)])) 0), .n (gn (dOf (op_23r [.l TB (gl TB (dOf (op_9p [.n n0, .n n1, .n n2, .n n3, .n n4, .l TC l5])) 0)])) 1), .n (gn (dOf (op_23r [.l TB (gl TB (dOf (op_9p [.n n0, .n n1, .n n2, .n n3, .n n4, .l TC l5])) 0)])) 2), .n (gn (dOf (op_23r [.l TB (gl TB (dOf (op_9p [.n n0, .n n1, .n n2, .n n3, .n n4, .l TC l5])) 0)])) 3), .n (gn (dOf (op_23r [.l TB (gl TB (dOf (op_9p [.n n0, .n n1, .n n2, .n n3, .n n4, .l TC l5])) 0)])) 4), .l TC (gl TC (dOf (op_23r [.l TB (gl TB (dOf (op_9p [.n n0, .n n1, .n n2, .n n3, .n n4, .l TC l5])) 0)])) 6), .n n0, .n n1, .n n2, .n n3, .n n4, .l TC l5])))
(.pa [1]
(.sF ((!gb (dOf (op_25r [.n (gn (dOf (op_23r [.l TB (gl TB (dOf (op_9p [.n n0, .n n1, .n n2, .n n3, .n n4, .l TC l5])) 0)])) 0), .n (gn (dOf (op_23r [.l TB (gl TB (dOf (op_9p [.n n0, .n n1, .n n2, .n n3, .n n4, .l TC l5])) 0)])) 1), .n (gn (dOf (op_23r [.l TB (gl TB (dOf (op_9p [.n n0, .n n1, .n n2, .n n3, .n n4, .l TC l5])) 0)])) 2), .n (gn (dOf (op_23r [.l TB (gl TB (dOf (op_9p [.n n0, .n n1, .n n2, .n n3, .n n4, .l TC l5])) 0)])) 3), .n (gn (dOf (op_23r [.l TB (gl TB (dOf (op_9p [.n n0, .n n1, .n n2, .n n3, .n n4, .l TC l5])) 0)])) 4), .l TC (gl TC (dOf (op_23r [.l TB (gl TB (dOf (op_9p [.n n0, .n n1, .n n2, .n n3, .n n4, .l TC l5])) 0)])) 6), .n n0, .n n1, .n n2, .n n3, .n n4, .l TC l5])) 0))
(.sT ((isK 0 [.n] (op_35r [.l TB (gl TB (dOf (op_9p [.n n0, .n n1, .n n2, .n n3, .n n4, .l TC l5])) 0)])))
(.pa [1,1]
(.sF ((gn (dOf (op_35r [.l TB (gl TB (dOf (op_9p [.n n0, .n n1, .n n2, .n n3, .n n4, .l TC l5])) 0)])) 0 != (1 : Int)))
(.sT ((isK 0 [.l TB] (op_10p [.n n6, .n n7, .n n8, .n n9, .n n10])))
(.pa [1]
(.sT ((isK 0 [.n, .n, .n, .n, .n, .n] (op_26r [.l TB (gl TB (dOf (op_10p [.n n6, .n n7, .n n8, .n n9, .n n10])) 0)])))
(.pa [1]
(.sF ((decide ((↑(List.length (gl TB (dOf (op_10p [.n n6, .n n7, .n n8, .n n9, .n n10])) 0)) : Int) > (0 : Int))))
(.pa [0,0]
(.sT ((isK 0 [.l TB] (op_11p [.n n11, .n n12, .n n13, .l TB l14, .n n15])))
(.pa [1]
(.sT ((isK 0 [.n, .n, .n, .l TB, .n, .n] (op_28r [.l TB (gl TB (dOf (op_11p [.n n11, .n n12, .n n13, .l TB l14, .n n15])) 0)])))
(.pa [1]
(.sF ((gn (dOf (op_28r [.l TB (gl TB (dOf (op_11p [.n n11, .n n12, .n n13, .l TB l14, .n n15])) 0)])) 5 != (0 : Int)))
(.sF ((!(gn (dOf (op_28r [.l TB (gl TB (dOf (op_11p [.n n11, .n n12, .n n13, .l TB l14, .n n15])) 0)])) 0 == n11 && (gn (dOf (op_28r [.l TB (gl TB (dOf (op_11p [.n n11, .n n12, .n n13, .l TB l14, .n n15])) 0)])) 1 == n12 && (gn (dOf (op_28r [.l TB (gl TB (dOf (op_11p [.n n11, .n n12, .n n13, .l TB l14, .n n15])) 0)])) 2 == n13 && (eqL TB (gl TB (dOf (op_28r [.l TB (gl TB (dOf (op_11p [.n n11, .n n12, .n n13, .l TB l14, .n n15])) 0)])) 3) l14 && (gn (dOf (op_28r [.l TB (gl TB (dOf (op_11p [.n n11, .n n12, .n n13, .l TB l14, .n n15])) 0)])) 4 == n15 && true)))))))
(.sT ((isK 0 [.n] (op_35r [.l TB (gl TB (dOf (op_11p [.n n11, .n n12, .n n13, .l TB l14, .n n15])) 0)])))
(.pa [1]
(.sF ((gn (dOf (op_35r [.l TB (gl TB (dOf (op_11p [.n n11, .n n12, .n n13, .l TB l14, .n n15])) 0)])) 0 != (3 : Int)))
(.sT ((isK 0 [.l TB] (op_12p [.n n16, .n n17, .n n18, .n n19, .n n20, .l TB l21, .n n22])))
(.pa [1]
(.sT ((isK 0 [.n, .n, .n, .n, .n, .l TB, .n, .n] (op_30r [.l TB (gl TB (dOf (op_12p [.n n16, .n n17, .n n18, .n n19, .n n20, .l TB l21, .n n22])) 0)])))
(.pa [1]
(.sF ((decide ((↑(List.length (gl TB (dOf (op_12p [.n n16, .n n17, .n n18, .n n19, .n n20, .l TB l21, .n n22])) 0)) : Int) > (0 : Int))))
(.pa [0,0]
(.sT ((isK 0 [.l TB] (op_13p [.n n23, .n n24, .n n25, .n n26, .l TB l27])))
(.pa [1]
(.sF ((isK 0 [.n, .n, .n, .n, .n, .l TB] (op_32r [.l TB (gl TB (dOf (op_13p [.n n23, .n n24, .n n25, .n n26, .l TB l27])) 0)])))
(.sT ((isK 1 [.n, .n, .n, .n, .n] (op_32r [.l TB (gl TB (dOf (op_13p [.n n23, .n n24, .n n25, .n n26, .l TB l27])) 0)])))
(.pa [1]
(.sF ((decide ((↑(List.length (gl TB (dOf (op_13p [.n n23, .n n24, .n n25, .n n26, .l TB l27])) 0)) : Int) > (0 : Int))))
(.pa [0,1,0]
(.sT ((isK 0 [.b] (op_37r [.l TB l28])))
(.pa [1]
(.sT ((gb (dOf (op_37r [.l TB l28])) 0))
(.pa [1,1,1]
.lf))))))))))))))))))))))))))))))))))))))))))))))))))

noncomputable def fn_W5_hogl : List Dat → Tree Bool
 | (.n n0 :: .n n1 :: .n n2 :: .n n3 :: .n n4 :: .l (Ty.pair (Ty.int IntKind.u8) (Ty.int IntKind.i64)) l5 :: .n n6 :: .n n7 :: .n n8 :: .n n9 :: .n n10 :: .n n11 :: .n n12 :: .n n13 :: .l (Ty.int IntKind.u8) l14 :: .n n15 :: .n n16 :: .n n17 :: .n n18 :: .n n19 :: .n n20 :: .l (Ty.int IntKind.u8) l21 :: .n n22 :: .n n23 :: .n n24 :: .n n25 :: .n n26 :: .l (Ty.int IntKind.u8) l27 :: .l (Ty.int IntKind.u8) l28 :: .l (Ty.int IntKind.u8) l29 :: .l (Ty.int IntKind.u8) l30 :: .l (Ty.int IntKind.u8) l31 :: .l (Ty.int IntKind.u8) l32 :: []) =>
 (.leaf (true))
 | _ => .bad 0
theorem fn_W5_hogl_im (n0 : Int) (n1 : Int) (n2 : Int) (n3 : Int) (n4 : Int) (l5 : List (Ty.den TC)) (n6 : Int) (n7 : Int) (n8 : Int) (n9 : Int) (n10 : Int) (n11 : Int) (n12 : Int) (n13 : Int) (l14 : List (Ty.den TB)) (n15 : Int) (n16 : Int) (n17 : Int) (n18 : Int) (n19 : Int) (n20 : Int) (l21 : List (Ty.den TB)) (n22 : Int) (n23 : Int) (n24 : Int) (n25 : Int) (n26 : Int) (l27 : List (Ty.den TB)) (l28 : List (Ty.den TB)) (l29 : List (Ty.den TB)) (l30 : List (Ty.den TB)) (l31 : List (Ty.den TB)) (l32 : List (Ty.den TB)) (g0 : (l5.length : Int) ≤ 1000) (g1 :  (l27.length : Int) ≤ 5000) (g2 :  (l28.length : Int) ≤ 3000) (g3 :  eqL TB l14 l14 = true) (g4 :  eqL TB l21 l21 = true) (g5 :  op_9p [.n n0, .n n1, .n n2, .n n3, .n n4, .l TC l5] = some (0, [.l TB ([] : List (Ty.den TB))])) (g6 :  op_23r [.l TB ([] : List (Ty.den TB))] = some (1, [.n 0, .n 0, .n 0, .n 0, .n 0, .n 130])) (g7 :  op_10p [.n n6, .n n7, .n n8, .n n9, .n n10] = some (0, [.l TB l29])) (g8 :  0 < l29.length) (g9 :  op_26r [.l TB l29] = some (0, [.n n6, .n n7, .n n8, .n n9, .n n10, .n 0])) (g10 :  op_35r [.l TB l29] = some (0, [.n 2])) (g11 :  op_11p [.n n11, .n n12, .n n13, .l TB l14, .n n15] = some (0, [.l TB l30])) (g12 :  0 < l30.length) (g13 :  op_28r [.l TB l30] = some (0, [.n n11, .n n12, .n n13, .l TB l14, .n n15, .n 0])) (g14 :  op_35r [.l TB l30] = some (0, [.n 3])) (g15 :  op_12p [.n n16, .n n17, .n n18, .n n19, .n n20, .l TB l21, .n n22] = some (0, [.l TB l31])) (g16 :  0 < l31.length) (g17 :  op_30r [.l TB l31] = some (0, [.n n16, .n n17, .n n18, .n n19, .n n20, .l TB l21, .n n22, .n 0])) (g18 :  op_35r [.l TB l31] = some (0, [.n 4])) (g19 :  op_13p [.n n23, .n n24, .n n25, .n n26, .l TB l27] = some (0, [.l TB l32])) (g20 :  0 < l32.length) (g21 :  strEq (strOf l27) (strOf l27) = true) (g22 :  op_32r [.l TB l32] = some (0, [.n n23, .n n24, .n n25, .n n26, .n 0, .l TB l27])) (g23 :  op_35r [.l TB l32] = some (0, [.n 5])) (g24 :  op_37r [.l TB l28] = some (0, [.b true])) (g25 :  l14.length = 64) (g26 :  l21.length = 64) : Imp (fn_W5_hogl (.n n0 :: .n n1 :: .n n2 :: .n n3 :: .n n4 :: .l TC l5 :: .n n6 :: .n n7 :: .n n8 :: .n n9 :: .n n10 :: .n n11 :: .n n12 :: .n n13 :: .l TB l14 :: .n n15 :: .n n16 :: .n n17 :: .n n18 :: .n n19 :: .n n20 :: .l TB l21 :: .n n22 :: .n n23 :: .n n24 :: .n n25 :: .n n26 :: .l TB l27 :: .l TB l28 :: .l TB l29 :: .l TB l30 :: .l TB l31 :: .l TB l32 :: [])) (ev_W5 [.n n0, .n n1, .n n2, .n n3, .n n4, .l TC l5, .n n6, .n n7, .n n8, .n n9, .n n10, .n n11, .n n12, .n n13, .l TB l14, .n n15, .n n16, .n n17, .n n18, .n n19, .n n20, .l TB l21, .n n22, .n n23, .n n24, .n n25, .n n26, .l TB l27, .l TB l28]) :=
(.pa [1]
(.sT ((decide ((↑(List.length l5) : Int) ≤ (1000 : Int))))
(.pa [1]
(.sF ((!decide ((↑(List.length l27) : Int) ≤ (5000 : Int))))
(.sF ((decide ((↑(List.length l28) : Int) > (3000 : Int))))
(.sT ((isK 0 [.l TB] (op_9p [.n n0, .n n1, .n n2, .n n3, .n n4, .l TC l5])))
(.pa [1]
(.sF ((isK 0 [.n, .n, .n, .n, .n, .n, .l TC] (op_23r [.l TB (gl TB (dOf (op_9p [.n n0, .n n1, .n n2, .n n3, .n n4, .l TC l5])) 0)])))
(.sT ((isK 1 [.n, .n, .n, .n, .n, .n] (op_23r [.l TB (gl TB (dOf (op_9p [.n n0, .n n1, .n n2, .n n3, .n n4, .l TC l5])) 0)])))
(.pa [1]
(.sF ((decide ((↑(List.length (gl TB (dOf (op_9p [.n n0, .n n1, .n n2, .n n3, .n n4, .l TC l5])) 0)) : Int) > (0 : Int))))
(.pa [0,1,0]
(.sT ((isK 0 [.l TB] (op_10p [.n n6, .n n7, .n n8, .n n9, .n n10])))
(.pa [1]
(.sT ((isK 0 [.n, .n, .n, .n, .n, .n] (op_26r [.l TB (gl TB (dOf (op_10p [.n n6, .n n7, .n n8, .n n9, .n n10])) 0)])))
(.pa [1]
(.sT ((decide ((↑(List.length (gl TB (dOf (op_10p [.n n6, .n n7, .n n8, .n n9, .n n10])) 0)) : Int) > (0 : Int))))
(.sF ((gn (dOf (op_26r [.l TB (gl TB (dOf (op_10p [.n n6, .n n7, .n n8, .n n9, .n n10])) 0)])) 5 != (0 : Int)))
(.sF ((!(gn (dOf (op_26r [.l TB (gl TB (dOf (op_10p [.n n6, .n n7, .n n8, .n n9, .n n10])) 0)])) 0 == n6 && (gn (dOf (op_26r [.l TB (gl TB (dOf (op_10p [.n n6, .n n7, .n n8, .n n9, .n n10])) 0)])) 1 == n7 && (gn (dOf (op_26r [.l TB (gl TB (dOf (op_10p [.n n6, .n n7, .n n8, .n n9, .n n10])) 0)])) 2 == n8 && (gn (dOf (op_26r [.l TB (gl TB (dOf (op_10p [.n n6, .n n7, .n n8, .n n9, .n n10])) 0)])) 3 == n9 && (gn (dOf (op_26r [.l TB (gl TB (dOf (op_10p [.n n6, .n n7, .n n8, .n n9, .n n10])) 0)])) 4 == n10 && true) && true))))))
(.sT ((isK 0 [.n] (op_35r [.l TB (gl TB (dOf (op_10p [.n n6, .n n7, .n n8, .n n9, .n n10])) 0)])))
(.pa [1]
(.sF ((gn (dOf (op_35r [.l TB (gl TB (dOf (op_10p [.n n6, .n n7, .n n8, .n n9, .n n10])) 0)])) 0 != (2 : Int)))
(.sT ((isK 0 [.l TB] (op_11p [.n n11, .n n12, .n n13, .l TB l14, .n n15])))
(.pa [1]
(.sT ((isK 0 [.n, .n, .n, .l TB, .n, .n] (op_28r [.l TB (gl TB (dOf (op_11p [.n n11, .n n12, .n n13, .l TB l14, .n n15])) 0)])))
(.pa [1]
(.sF ((gn (dOf (op_28r [.l TB (gl TB (dOf (op_11p [.n n11, .n n12, .n n13, .l TB l14, .n n15])) 0)])) 5 != (0 : Int)))
(.sF ((!(gn (dOf (op_28r [.l TB (gl TB (dOf (op_11p [.n n11, .n n12, .n n13, .l TB l14, .n n15])) 0)])) 0 == n11 && (gn (dOf (op_28r [.l TB (gl TB (dOf (op_11p [.n n11, .n n12, .n n13, .l TB l14, .n n15])) 0)])) 1 == n12 && (gn (dOf (op_28r [.l TB (gl TB (dOf (op_11p [.n n11, .n n12, .n n13, .l TB l14, .n n15])) 0)])) 2 == n13 && (eqL TB (gl TB (dOf (op_28r [.l TB (gl TB (dOf (op_11p [.n n11, .n n12, .n n13, .l TB l14, .n n15])) 0)])) 3) l14 && (gn (dOf (op_28r [.l TB (gl TB (dOf (op_11p [.n n11, .n n12, .n n13, .l TB l14, .n n15])) 0)])) 4 == n15 && true)))))))
(.sT ((isK 0 [.n] (op_35r [.l TB (gl TB (dOf (op_11p [.n n11, .n n12, .n n13, .l TB l14, .n n15])) 0)])))
(.pa [1]
(.sF ((gn (dOf (op_35r [.l TB (gl TB (dOf (op_11p [.n n11, .n n12, .n n13, .l TB l14, .n n15])) 0)])) 0 != (3 : Int)))
(.sT ((isK 0 [.l TB] (op_12p [.n n16, .n n17, .n n18, .n n19, .n n20, .l TB l21, .n n22])))
(.pa [1]
(.sT ((isK 0 [.n, .n, .n, .n, .n, .l TB, .n, .n] (op_30r [.l TB (gl TB (dOf (op_12p [.n n16, .n n17, .n n18, .n n19, .n n20, .l TB l21, .n n22])) 0)])))
(.pa [1]
(.sT ((decide ((↑(List.length (gl TB (dOf (op_12p [.n n16, .n n17, .n n18, .n n19, .n n20, .l TB l21, .n n22])) 0)) : Int) > (0 : Int))))
(.sF ((gn (dOf (op_30r [.l TB (gl TB (dOf (op_12p [.n n16, .n n17, .n n18, .n n19, .n n20, .l TB l21, .n n22])) 0)])) 7 != (0 : Int)))
(.sF ((!(gn (dOf (op_30r [.l TB (gl TB (dOf (op_12p [.n n16, .n n17, .n n18, .n n19, .n n20, .l TB l21, .n n22])) 0)])) 0 == n16 && (gn (dOf (op_30r [.l TB (gl TB (dOf (op_12p [.n n16, .n n17, .n n18, .n n19, .n n20, .l TB l21, .n n22])) 0)])) 1 == n17 && (gn (dOf (op_30r [.l TB (gl TB (dOf (op_12p [.n n16, .n n17, .n n18, .n n19, .n n20, .l TB l21, .n n22])) 0)])) 2 == n18 && (gn (dOf (op_30r [.l TB (gl TB (dOf (op_12p [.n n16, .n n17, .n n18, .n n19, .n n20, .l TB l21, .n n22])) 0)])) 3 == n19 && (gn (dOf (op_30r [.l TB (gl TB (dOf (op_12p [.n n16, .n n17, .n n18, .n n19, .n n20, .l TB l21, .n n22])) 0)])) 4 == n20 && (eqL TB (gl TB (dOf (op_30r [.l TB (gl TB (dOf (op_12p [.n n16, .n n17, .n n18, .n n19, .n n20, .l TB l21, .n n22])) 0)])) 5) l21 && (gn (dOf (op_30r [.l TB (gl TB (dOf (op_12p [.n n16, .n n17, .n n18, .n n19, .n n20, .l TB l21, .n n22])) 0)])) 6 == n22 && true)))) && true)))))
(.sT ((isK 0 [.n] (op_35r [.l TB (gl TB (dOf (op_12p [.n n16, .n n17, .n n18, .n n19, .n n20, .l TB l21, .n n22])) 0)])))
(.pa [1]
(.sF ((gn (dOf (op_35r [.l TB (gl TB (dOf (op_12p [.n n16, .n n17, .n n18, .n n19, .n n20, .l TB l21, .n n22])) 0)])) 0 != (4 : Int)))
(.sT ((isK 0 [.l TB] (op_13p [.n n23, .n n24, .n n25, .n n26, .l TB l27])))
(.pa [1]
(.sT ((isK 0 [.n, .n, .n, .n, .n, .l TB] (op_32r [.l TB (gl TB (dOf (op_13p [.n n23, .n n24, .n n25, .n n26, .l TB l27])) 0)])))
(.pa [1]
(.sT ((decide ((↑(List.length (gl TB (dOf (op_13p [.n n23, .n n24, .n n25, .n n26, .l TB l27])) 0)) : Int) > (0 : Int))))
(.sF ((gn (dOf (op_32r [.l TB (gl TB (dOf (op_13p [.n n23, .n n24, .n n25, .n n26, .l TB l27])) 0)])) 4 != (0 : Int)))
(.pa [1,1,1,1]
(.sF ((!(gn (dOf (op_32r [.l TB (gl TB (dOf (op_13p [.n n23, .n n24, .n n25, .n n26, .l TB l27])) 0)])) 0 == n23 && (gn (dOf (op_32r [.l TB (gl TB (dOf (op_13p [.n n23, .n n24, .n n25, .n n26, .l TB l27])) 0)])) 1 == n24 && (gn (dOf (op_32r [.l TB (gl TB (dOf (op_13p [.n n23, .n n24, .n n25, .n n26, .l TB l27])) 0)])) 2 == n25 && (gn (dOf (op_32r [.l TB (gl TB (dOf (op_13p [.n n23, .n n24, .n n25, .n n26, .l TB l27])) 0)])) 3 == n26 && (strEq (strOf (gl TB (dOf (op_32r [.l TB (gl TB (dOf (op_13p [.n n23, .n n24, .n n25, .n n26, .l TB l27])) 0)])) 5)) (strOf l27) && true)))))))
(.sT ((isK 0 [.n] (op_35r [.l TB (gl TB (dOf (op_13p [.n n23, .n n24, .n n25, .n n26, .l TB l27])) 0)])))
(.pa [1,1]
(.sF ((gn (dOf (op_35r [.l TB (gl TB (dOf (op_13p [.n n23, .n n24, .n n25, .n n26, .l TB l27])) 0)])) 0 != (5 : Int)))
(.sT ((isK 0 [.b] (op_37r [.l TB l28])))
(.pa [1]
(.sT ((gb (dOf (op_37r [.l TB l28])) 0))
(.pa [1,1,1]
.lf))))))))))))))))))))))))))))))))))))))))))))))))))))))))

noncomputable def fn_W5_hog : List Dat → Tree Bool
 | (.n n0 :: .n n1 :: .n n2 :: .n n3 :: .n n4 :: .l (Ty.pair (Ty.int IntKind.u8) (Ty.int IntKind.i64)) l5 :: .n n6 :: .n n7 :: .n n8 :: .n n9 :: .n n10 :: .n n11 :: .n n12 :: .n n13 :: .l (Ty.int IntKind.u8) l14 :: .n n15 :: .n n16 :: .n n17 :: .n n18 :: .n n19 :: .n n20 :: .l (Ty.int IntKind.u8) l21 :: .n n22 :: .n n23 :: .n n24 :: .n n25 :: .n n26 :: .l (Ty.int IntKind.u8) l27 :: .l (Ty.int IntKind.u8) l28 :: .l (Ty.int IntKind.u8) l29 :: .l (Ty.int IntKind.u8) l30 :: .l (Ty.int IntKind.u8) l31 :: []) =>
 (.leaf (true))
 | _ => .bad 0
theorem fn_W5_hog_im (n0 : Int) (n1 : Int) (n2 : Int) (n3 : Int) (n4 : Int) (l5 : List (Ty.den TC)) (n6 : Int) (n7 : Int) (n8 : Int) (n9 : Int) (n10 : Int) (n11 : Int) (n12 : Int) (n13 : Int) (l14 : List (Ty.den TB)) (n15 : Int) (n16 : Int) (n17 : Int) (n18 : Int) (n19 : Int) (n20 : Int) (l21 : List (Ty.den TB)) (n22 : Int) (n23 : Int) (n24 : Int) (n25 : Int) (n26 : Int) (l27 : List (Ty.den TB)) (l28 : List (Ty.den TB)) (l29 : List (Ty.den TB)) (l30 : List (Ty.den TB)) (l31 : List (Ty.den TB)) (g0 : (l5.length : Int) ≤ 1000) (g1 :  (l27.length : Int) ≤ 5000) (g2 :  (l28.length : Int) ≤ 3000) (g3 :  eqL TB l14 l14 = true) (g4 :  eqL TB l21 l21 = true) (g5 :  op_9p [.n n0, .n n1, .n n2, .n n3, .n n4, .l TC l5] = some (0, [.l TB ([] : List (Ty.den TB))])) (g6 :  op_23r [.l TB ([] : List (Ty.den TB))] = some (1, [.n 0, .n 0, .n 0, .n 0, .n 0, .n 130])) (g7 :  op_10p [.n n6, .n n7, .n n8, .n n9, .n n10] = some (0, [.l TB l29])) (g8 :  0 < l29.length) (g9 :  op_26r [.l TB l29] = some (0, [.n n6, .n n7, .n n8, .n n9, .n n10, .n 0])) (g10 :  op_35r [.l TB l29] = some (0, [.n 2])) (g11 :  op_11p [.n n11, .n n12, .n n13, .l TB l14, .n n15] = some (0, [.l TB l30])) (g12 :  0 < l30.length) (g13 :  op_28r [.l TB l30] = some (0, [.n n11, .n n12, .n n13, .l TB l14, .n n15, .n 0])) (g14 :  op_35r [.l TB l30] = some (0, [.n 3])) (g15 :  op_12p [.n n16, .n n17, .n n18, .n n19, .n n20, .l TB l21, .n n22] = some (0, [.l TB l31])) (g16 :  0 < l31.length) (g17 :  op_30r [.l TB l31] = some (0, [.n n16, .n n17, .n n18, .n n19, .n n20, .l TB l21, .n n22, .n 0])) (g18 :  op_35r [.l TB l31] = some (0, [.n 4])) (g19 :  op_13p [.n n23, .n n24, .n n25, .n n26, .l TB l27] = some (0, [.l TB ([] : List (Ty.den TB))])) (g20 :  op_32r [.l TB ([] : List (Ty.den TB))] = some (1, [.n 0, .n 0, .n 0, .n 0, .n 130])) (g21 :  op_37r [.l TB l28] = some (0, [.b true])) (g22 :  l14.length = 64) (g23 :  l21.length = 64) : Imp (fn_W5_hog (.n n0 :: .n n1 :: .n n2 :: .n n3 :: .n n4 :: .l TC l5 :: .n n6 :: .n n7 :: .n n8 :: .n n9 :: .n n10 :: .n n11 :: .n n12 :: .n n13 :: .l TB l14 :: .n n15 :: .n n16 :: .n n17 :: .n n18 :: .n n19 :: .n n20 :: .l TB l21 :: .n n22 :: .n n23 :: .n n24 :: .n n25 :: .n n26 :: .l TB l27 :: .l TB l28 :: .l TB l29 :: .l TB l30 :: .l TB l31 :: [])) (ev_W5 [.n n0, .n n1, .n n2, .n n3, .n n4, .l TC l5, .n n6, .n n7, .n n8, .n n9, .n n10, .n n11, .n n12, .n n13, .l TB l14, .n n15, .n n16, .n n17, .n n18, .n n19, .n n20, .l TB l21, .n n22, .n n23, .n n24, .n n25, .n n26, .l TB l27, .l TB l28]) :=
(.pa [1]
(.sT ((decide ((↑(List.length l5) : Int) ≤ (1000 : Int))))
(.pa [1]
(.sF ((!decide ((↑(List.length l27) : Int) ≤ (5000 : Int))))
(.sF ((decide ((↑(List.length l28) : Int) > (3000 : Int))))
(.sT ((isK 0 [.l TB] (op_9p [.n n0, .n n1, .n n2, .n n3, .n n4, .l TC l5])))
(.pa [1]
(.sF ((isK 0 [.n, .n, .n, .n, .n, .n, .l TC] (op_23r [.l TB (gl TB (dOf (op_9p [.n n0, .n n1, .n n2, .n n3, .n n4, .l TC l5])) 0)])))
(.sT ((isK 1 [.n, .n, .n, .n, .n, .n] (op_23r [.l TB (gl TB (dOf (op_9p [.n n0, .n n1, .n n2, .n n3, .n n4, .l TC l5])) 0)])))
(.pa [1]
(.sF ((decide ((↑(List.length (gl TB (dOf (op_9p [.n n0, .n n1, .n n2, .n n3, .n n4, .l TC l5])) 0)) : Int) > (0 : Int))))
(.pa [0,1,0]
(.sT ((isK 0 [.l TB] (op_10p [.n n6, .n n7, .n n8, .n n9, .n n10])))
(.pa [1]
(.sT ((isK 0 [.n, .n, .n, .n, .n, .n] (op_26r [.l TB (gl TB (dOf (op_10p [.n n6, .n n7, .n n8, .n n9, .n n10])) 0)])))
(.pa [1]
(.sT ((decide ((↑(List.length (gl TB (dOf (op_10p [.n n6, .n n7, .n n8, .n n9, .n n10])) 0)) : Int) > (0 : Int))))
(.sF ((gn (dOf (op_26r [.l TB (gl TB (dOf (op_10p [.n n6, .n n7, .n n8, .n n9, .n n10])) 0)])) 5 != (0 : Int)))
(.sF ((!(gn (dOf (op_26r [.l TB (gl TB (dOf (op_10p [.n n6, .n n7, .n n8, .n n9, .n n10])) 0)])) 0 == n6 && (gn (dOf (op_26r [.l TB (gl TB (dOf (op_10p [.n n6, .n n7, .n n8, .n n9, .n n10])) 0)])) 1 == n7 && (gn (dOf (op_26r [.l TB (gl TB (dOf (op_10p [.n n6, .n n7, .n n8, .n n9, .n n10])) 0)])) 2 == n8 && (gn (dOf (op_26r [.l TB (gl TB (dOf (op_10p [.n n6, .n n7, .n n8, .n n9, .n n10])) 0)])) 3 == n9 && (gn (dOf (op_26r [.l TB (gl TB (dOf (op_10p [.n n6, .n n7, .n n8, .n n9, .n n10])) 0)])) 4 == n10 && true) && true))))))
(.sT ((isK 0 [.n] (op_35r [.l TB (gl TB (dOf (op_10p [.n n6, .n n7, .n n8, .n n9, .n n10])) 0)])))
(.pa [1]
(.sF ((gn (dOf (op_35r [.l TB (gl TB (dOf (op_10p [.n n6, .n n7, .n n8, .n n9, .n n10])) 0)])) 0 != (2 : Int)))
(.sT ((isK 0 [.l TB] (op_11p [.n n11, .n n12, .n n13, .l TB l14, .n n15])))
(.pa [1]
(.sT ((isK 0 [.n, .n, .n, .l TB, .n, .n] (op_28r [.l TB (gl TB (dOf (op_11p [.n n11, .n n12, .n n13, .l TB l14, .n n15])) 0)])))
(.pa [1]
(.sF ((gn (dOf (op_28r [.l TB (gl TB (dOf (op_11p [.n n11, .n n12, .n n13, .l TB l14, .n n15])) 0)])) 5 != (0 : Int)))
(.sF ((!(gn (dOf (op_28r [.l TB (gl TB (dOf (op_11p [.n n11, .n n12, .n n13, .l TB l14, .n n15])) 0)])) 0 == n11 && (gn (dOf (op_28r [.l TB (gl TB (dOf (op_11p [.n n11, .n n12, .n n13, .l TB l14, .n n15])) 0)])) 1 == n12 && (gn (dOf (op_28r [.l TB (gl TB (dOf (op_11p [.n n11, .n n12, .n n13, .l TB l14, .n n15])) 0)])) 2 == n13 && (eqL TB (gl TB (dOf (op_28r [.l TB (gl TB (dOf (op_11p [.n n11, .n n12, .n n13, .l TB l14, .n n15])) 0)])) 3) l14 && (gn (dOf (op_28r [.l TB (gl TB (dOf (op_11p [.n n11, .n n12, .n n13, .l TB l14, .n n15])) 0)])) 4 == n15 && true)))))))
(.sT ((isK 0 [.n] (op_35r [.l TB (gl TB (dOf (op_11p [.n n11, .n n12, .n n13, .l TB l14, .n n15])) 0)])))
(.pa [1]
(.sF ((gn (dOf (op_35r [.l TB (gl TB (dOf (op_11p [.n n11, .n n12, .n n13, .l TB l14, .n n15])) 0)])) 0 != (3 : Int)))
(.sT ((isK 0 [.l TB] (op_12p [.n n16, .n n17, .n n18, .n n19, .n n20, .l TB l21, .n n22])))
(.pa [1]
(.sT ((isK 0 [.n, .n, .n, .n, .n, .l TB, .n, .n] (op_30r [.l TB (gl TB (dOf (op_12p [.n n16, .n n17, .n n18, .n n19, .n n20, .l TB l21, .n n22])) 0)])))
(.pa [1]
(.sT ((decide ((↑(List.length (gl TB (dOf (op_12p [.n n16, .n n17, .n n18, .n n19, .n n20, .l TB l21, .n n22])) 0)) : Int) > (0 : Int))))
(.sF ((gn (dOf (op_30r [.l TB (gl TB (dOf (op_12p [.n n16, .n n17, .n n18, .n n19, .n n20, .l TB l21, .n n22])) 0)])) 7 != (0 : Int)))
(.sF ((!(gn (dOf (op_30r [.l TB (gl TB (dOf (op_12p [.n n16, .n n17, .n n18, .n n19, .n n20, .l TB l21, .n n22])) 0)])) 0 == n16 && (gn (dOf (op_30r [.l TB (gl TB (dOf (op_12p [.n n16, .n n17, .n n18, .n n19, .n n20, .l TB l21, .n n22])) 0)])) 1 == n17 && (gn (dOf (op_30r [.l TB (gl TB (dOf (op_12p [.n n16, .n n17, .n n18, .n n19, .n n20, .l TB l21, .n n22])) 0)])) 2 == n18 && (gn (dOf (op_30r [.l TB (gl TB (dOf (op_12p [.n n16, .n n17, .n n18, .n n19, .n n20, .l TB l21, .n n22])) 0)])) 3 == n19 && (gn (dOf (op_30r [.l TB (gl TB (dOf (op_12p [.n n16, .n n17, .n n18, .n n19, .n n20, .l TB l21, .n n22])) 0)])) 4 == n20 && (eqL TB (gl TB (dOf (op_30r [.l TB (gl TB (dOf (op_12p [.n n16, .n n17, .n n18, .n n19, .n n20, .l TB l21, .n n22])) 0)])) 5) l21 && (gn (dOf (op_30r [.l TB (gl TB (dOf (op_12p [.n n16, .n n17, .n n18, .n n19, .n n20, .l TB l21, .n n22])) 0)])) 6 == n22 && true)))) && true)))))
(.sT ((isK 0 [.n] (op_35r [.l TB (gl TB (dOf (op_12p [.n n16, .n n17, .n n18, .n n19, .n n20, .l TB l21, .n n22])) 0)])))
(.pa [1]
(.sF ((gn (dOf (op_35r [.l TB (gl TB (dOf (op_12p [.n n16, .n n17, .n n18, .n n19, .n n20, .l TB l21, .n n22])) 0)])) 0 != (4 : Int)))
(.sT ((isK 0 [.l TB] (op_13p [.n n23, .n n24, .n n25, .n n26, .l TB l27])))
(.pa [1]
(.sF ((isK 0 [.n, .n, .n, .n, .n, .l TB] (op_32r [.l TB (gl TB (dOf (op_13p [.n n23, .n n24, .n n25, .n n26, .l TB l27])) 0)])))
(.sT ((isK 1 [.n, .n, .n, .n, .n] (op_32r [.l TB (gl TB (dOf (op_13p [.n n23, .n n24, .n n25, .n n26, .l TB l27])) 0)])))
(.pa [1]
(.sF ((decide ((↑(List.length (gl TB (dOf (op_13p [.n n23, .n n24, .n n25, .n n26, .l TB l27])) 0)) : Int) > (0 : Int))))
(.pa [0,1,0]
(.sT ((isK 0 [.b] (op_37r [.l TB l28])))
(.pa [1]
(.sT ((gb (dOf (op_37r [.l TB l28])) 0))
(.pa [1,1,1]
.lf))))))))))))))))))))))))))))))))))))))))))))))))))))

noncomputable def fn_W5_hol : List Dat → Tree Bool
 | (.n n0 :: .n n1 :: .n n2 :: .n n3 :: .n n4 :: .l (Ty.pair (Ty.int IntKind.u8) (Ty.int IntKind.i64)) l5 :: .n n6 :: .n n7 :: .n n8 :: .n n9 :: .n n10 :: .n n11 :: .n n12 :: .n n13 :: .l (Ty.int IntKind.u8) l14 :: .n n15 :: .n n16 :: .n n17 :: .n n18 :: .n n19 :: .n n20 :: .l (Ty.int IntKind.u8) l21 :: .n n22 :: .n n23 :: .n n24 :: .n n25 :: .n n26 :: .l (Ty.int IntKind.u8) l27 :: .l (Ty.int IntKind.u8) l28 :: .l (Ty.int IntKind.u8) l29 :: .l (Ty.int IntKind.u8) l30 :: .l (Ty.int IntKind.u8) l31 :: .l (Ty.int IntKind.u8) l32 :: []) =>
 (.leaf (true))
 | _ => .bad 0
theorem fn_W5_hol_im (n0 : Int) (n1 : Int) (n2 : Int) (n3 : Int) (n4 : Int) (l5 : List (Ty.den TC)) (n6 : Int) (n7 : Int) (n8 : Int) (n9 : Int) (n10 : Int) (n11 : Int) (n12 : Int) (n13 : Int) (l14 : List (Ty.den TB)) (n15 : Int) (n16 : Int) (n17 : Int) (n18 : Int) (n19 : Int) (n20 : Int) (l21 : List (Ty.den TB)) (n22 : Int) (n23 : Int) (n24 : Int) (n25 : Int) (n26 : Int) (l27 : List (Ty.den TB)) (l28 : List (Ty.den TB)) (l29 : List (Ty.den TB)) (l30 : List (Ty.den TB)) (l31 : List (Ty.den TB)) (l32 : List (Ty.den TB)) (g0 : (l5.length : Int) ≤ 1000) (g1 :  (l27.length : Int) ≤ 5000) (g2 :  (l28.length : Int) ≤ 3000) (g3 :  eqL TB l14 l14 = true) (g4 :  eqL TB l21 l21 = true) (g5 :  op_9p [.n n0, .n n1, .n n2, .n n3, .n n4, .l TC l5] = some (0, [.l TB ([] : List (Ty.den TB))])) (g6 :  op_23r [.l TB ([] : List (Ty.den TB))] = some (1, [.n 0, .n 0, .n 0, .n 0, .n 0, .n 130])) (g7 :  op_10p [.n n6, .n n7, .n n8, .n n9, .n n10] = some (0, [.l TB l29])) (g8 :  0 < l29.length) (g9 :  op_26r [.l TB l29] = some (0, [.n n6, .n n7, .n n8, .n n9, .n n10, .n 0])) (g10 :  op_35r [.l TB l29] = some (0, [.n 2])) (g11 :  op_11p [.n n11, .n n12, .n n13, .l TB l14, .n n15] = some (0, [.l TB l30])) (g12 :  0 < l30.length) (g13 :  op_28r [.l TB l30] = some (0, [.n n11, .n n12, .n n13, .l TB l14, .n n15, .n 0])) (g14 :  op_35r [.l TB l30] = some (0, [.n 3])) (g15 :  op_12p [.n n16, .n n17, .n n18, .n n19, .n n20, .l TB l21, .n n22] = some (0, [.l TB ([] : List (Ty.den TB))])) (g16 :  op_30r [.l TB ([] : List (Ty.den TB))] = some (0, [.n 0, .n 0, .n 0, .n 0, .n 0, .l TB l31, .n 0, .n 130])) (g17 :  op_13p [.n n23, .n n24, .n n25, .n n26, .l TB l27] = some (0, [.l TB l32])) (g18 :  0 < l32.length) (g19 :  strEq (strOf l27) (strOf l27) = true) (g20 :  op_32r [.l TB l32] = some (0, [.n n23, .n n24, .n n25, .n n26, .n 0, .l TB l27])) (g21 :  op_35r [.l TB l32] = some (0, [.n 5])) (g22 :  op_37r [.l TB l28] = some (0, [.b true])) (g23 :  l14.length = 64) (g24 :  l21.length = 64) : Imp (fn_W5_hol (.n n0 :: .n n1 :: .n n2 :: .n n3 :: .n n4 :: .l TC l5 :: .n n6 :: .n n7 :: .n n8 :: .n n9 :: .n n10 :: .n n11 :: .n n12 :: .n n13 :: .l TB l14 :: .n n15 :: .n n16 :: .n n17 :: .n n18 :: .n n19 :: .n n20 :: .l TB l21 :: .n n22 :: .n n23 :: .n n24 :: .n n25 :: .n n26 :: .l TB l27 :: .l TB l28 :: .l TB l29 :: .l TB l30 :: .l TB l31 :: .l TB l32 :: [])) (ev_W5 [.n n0, .n n1, .n n2, .n n3, .n n4, .l TC l5, .n n6, .n n7, .n n8, .n n9, .n n10, .n n11, .n n12, .n n13, .l TB l14, .n n15, .n n16, .n n17, .n n18, .n n19, .n n20, .l TB l21, .n n22, .n n23, .n n24, .n n25, .n n26, .l TB l27, .l TB l28]) :=
(.pa [1]
(.sT ((decide ((↑(List.length l5) : Int) ≤ (1000 : Int))))
(.pa [1]
(.sF ((!decide ((↑(List.length l27) : Int) ≤ (5000 : Int))))
(.sF ((decide ((↑(List.length l28) : Int) > (3000 : Int))))
(.sT ((isK 0 [.l TB] (op_9p [.n n0, .n n1, .n n2, .n n3, .n n4, .l TC l5])))
(.pa [1]
(.sF ((isK 0 [.n, .n, .n, .n, .n, .n, .l TC] (op_23r [.l TB (gl TB (dOf (op_9p [.n n0, .n n1, .n n2, .n n3, .n n4, .l TC l5])) 0)])))
(.sT ((isK 1 [.n, .n, .n, .n, .n, .n] (op_23r [.l TB (gl TB (dOf (op_9p [.n n0, .n n1, .n n2, .n n3, .n n4, .l TC l5])) 0)])))
(.pa [1]
(.sF ((decide ((↑(List.length (gl TB (dOf (op_9p [.n n0, .n n1, .n n2, .n n3, .n n4, .l TC l5])) 0)) : Int) > (0 : Int))))
(.pa [0,1,0]
(.sT ((isK 0 [.l TB] (op_10p [.n n6, .n n7, .n n8, .n n9, .n n10])))
(.pa [1]
(.sT ((isK 0 [.n, .n, .n, .n, .n, .n] (op_26r [.l TB (gl TB (dOf (op_10p [.n n6, .n n7, .n n8, .n n9, .n n10])) 0)])))
(.pa [1]
(.sT ((decide ((↑(List.length (gl TB (dOf (op_10p [.n n6, .n n7, .n n8, .n n9, .n n10])) 0)) : Int) > (0 : Int))))
(.sF ((gn (dOf (op_26r [.l TB (gl TB (dOf (op_10p [.n n6, .n n7, .n n8, .n n9, .n n10])) 0)])) 5 != (0 : Int)))
(.sF ((!(gn (dOf (op_26r [.l TB (gl TB (dOf (op_10p [.n n6, .n n7, .n n8, .n n9, .n n10])) 0)])) 0 == n6 && (gn (dOf (op_26r [.l TB (gl TB (dOf (op_10p [.n n6, .n n7, .n n8, .n n9, .n n10])) 0)])) 1 == n7 && (gn (dOf (op_26r [.l TB (gl TB (dOf (op_10p [.n n6, .n n7, .n n8, .n n9, .n n10])) 0)])) 2 == n8 && (gn (dOf (op_26r [.l TB (gl TB (dOf (op_10p [.n n6, .n n7, .n n8, .n n9, .n n10])) 0)])) 3 == n9 && (gn (dOf (op_26r [.l TB (gl TB (dOf (op_10p [.n n6, .n n7, .n n8, .n n9, .n n10])) 0)])) 4 == n10 && true) && true))))))
(.sT ((isK 0 [.n] (op_35r [.l TB (gl TB (dOf (op_10p [.n n6, .n n7, .n n8, .n n9, .n n10])) 0)])))
(.pa [1]
(.sF ((gn (dOf (op_35r [.l TB (gl TB (dOf (op_10p [.n n6, .n n7, .n n8, .n n9, .n n10])) 0)])) 0 != (2 : Int)))
(.sT ((isK 0 [.l TB] (op_11p [.n n11, .n n12, .n n13, .l TB l14, .n n15])))
(.pa [1]
(.sT ((isK 0 [.n, .n, .n, .l TB, .n, .n] (op_28r [.l TB (gl TB (dOf (op_11p [.n n11, .n n12, .n n13, .l TB l14, .n n15])) 0)])))
(.pa [1]
(.sF ((gn (dOf (op_28r [.l TB (gl TB (dOf (op_11p [.n n11, .n n12, .n n13, .l TB l14, .n n15])) 0)])) 5 != (0 : Int)))
(.sF ((!(gn (dOf (op_28r [.l TB (gl TB (dOf (op_11p [.n n11, .n n12, .n n13, .l TB l14, .n n15])) 0)])) 0 == n11 && (gn (dOf (op_28r [.l TB (gl TB (dOf (op_11p [.n n11, .n n12, .n n13, .l TB l14, .n n15])) 0)])) 1 == n12 && (gn (dOf (op_28r [.l TB (gl TB (dOf (op_11p [.n n11, .n n12, .n n13, .l TB l14, .n n15])) 0)])) 2 == n13 && (eqL TB (gl TB (dOf (op_28r [.l TB (gl TB (dOf (op_11p [.n n11, .n n12, .n n13, .l TB l14, .n n15])) 0)])) 3) l14 && (gn (dOf (op_28r [.l TB (gl TB (dOf (op_11p [.n n11, .n n12, .n n13, .l TB l14, .n n15])) 0)])) 4 == n15 && true)))))))
(.sT ((isK 0 [.n] (op_35r [.l TB (gl TB (dOf (op_11p [.n n11, .n n12, .n n13, .l TB l14, .n n15])) 0)])))
(.pa [1]
(.sF ((gn (dOf (op_35r [.l TB (gl TB (dOf (op_11p [.n n11, .n n12, .n n13, .l TB l14, .n n15])) 0)])) 0 != (3 : Int)))
(.sT ((isK 0 [.l TB] (op_12p [.n n16, .n n17, .n n18, .n n19, .n n20, .l TB l21, .n n22])))
(.pa [1]
(.sT ((isK 0 [.n, .n, .n, .n, .n, .l TB, .n, .n] (op_30r [.l TB (gl TB (dOf (op_12p [.n n16, .n n17, .n n18, .n n19, .n n20, .l TB l21, .n n22])) 0)])))
(.pa [1]
(.sF ((decide ((↑(List.length (gl TB (dOf (op_12p [.n n16, .n n17, .n n18, .n n19, .n n20, .l TB l21, .n n22])) 0)) : Int) > (0 : Int))))
(.pa [0,0]
(.sT ((isK 0 [.l TB] (op_13p [.n n23, .n n24, .n n25, .n n26, .l TB l27])))
(.pa [1]
(.sT ((isK 0 [.n, .n, .n, .n, .n, .l TB] (op_32r [.l TB (gl TB (dOf (op_13p [.n n23, .n n24, .n n25, .n n26, .l TB l27])) 0)])))
(.pa [1]
(.sT ((decide ((↑(List.length (gl TB (dOf (op_13p [.n n23, .n n24, .n n25, .n n26, .l TB l27])) 0)) : Int) > (0 : Int))))
(.sF ((gn (dOf (op_32r [.l TB (gl TB (dOf (op_13p [.n n23, .n n24, .n n25, .n n26, .l TB l27])) 0)])) 4 != (0 : Int)))
(.pa [1,1,1,1]
(.sF ((!(gn (dOf (op_32r [.l TB (gl TB (dOf (op_13p [.n n23, .n n24, .n n25, .n n26, .l TB l27])) 0)])) 0 == n23 && (gn (dOf (op_32r [.l TB (gl TB (dOf (op_13p [.n n23, .n n24, .n n25, .n n26, .l TB l27])) 0)])) 1 == n24 && (gn (dOf (op_32r [.l TB (gl TB (dOf (op_13p [.n n23, .n n24, .n n25, .n n26, .l TB l27])) 0)])) 2 == n25 && (gn (dOf (op_32r [.l TB (gl TB (dOf (op_13p [.n n23, .n n24, .n n25, .n n26, .l TB l27])) 0)])) 3 == n26 && (strEq (strOf (gl TB (dOf (op_32r [.l TB (gl TB (dOf (op_13p [.n n23, .n n24, .n n25, .n n26, .l TB l27])) 0)])) 5)) (strOf l27) && true)))))))
(.sT ((isK 0 [.n] (op_35r [.l TB (gl TB (dOf (op_13p [.n n23, .n n24, .n n25, .n n26, .l TB l27])) 0)])))
(.pa [1,1]
(.sF ((gn (dOf (op_35r [.l TB (gl TB (dOf (op_13p [.n n23, .n n24, .n n25, .n n26, .l TB l27])) 0)])) 0 != (5 : Int)))
(.sT ((isK 0 [.b] (op_37r [.l TB l28])))
(.pa [1]
(.sT ((gb (dOf (op_37r [.l TB l28])) 0))
(.pa [1,1,1]
.lf))))))))))))))))))))))))))))))))))))))))))))))))))))

noncomputable def fn_W5_ho : List Dat → Tree Bool
 | (.n n0 :: .n n1 :: .n n2 :: .n n3 :: .n n4 :: .l (Ty.pair (Ty.int IntKind.u8) (Ty.int IntKind.i64)) l5 :: .n n6 :: .n n7 :: .n n8 :: .n n9 :: .n n10 :: .n n11 :: .n n12 :: .n n13 :: .l (Ty.int IntKind.u8) l14 :: .n n15 :: .n n16 :: .n n17 :: .n n18 :: .n n19 :: .n n20 :: .l (Ty.int IntKind.u8) l21 :: .n n22 :: .n n23 :: .n n24 :: .n n25 :: .n n26 :: .l (Ty.int IntKind.u8) l27 :: .l (Ty.int IntKind.u8) l28 :: .l (Ty.int IntKind.u8) l29 :: .l (Ty.int IntKind.u8) l30 :: .l (Ty.int IntKind.u8) l31 :: []) =>
 (.leaf (true))
 | _ => .bad 0
theorem fn_W5_ho_im (n0 : Int) (n1 : Int) (n2 : Int) (n3 : Int) (n4 : Int) (l5 : List (Ty.den TC)) (n6 : Int) (n7 : Int) (n8 : Int) (n9 : Int) (n10 : Int) (n11 : Int) (n12 : Int) (n13 : Int) (l14 : List (Ty.den TB)) (n15 : Int) (n16 : Int) (n17 : Int) (n18 : Int) (n19 : Int) (n20 : Int) (l21 : List (Ty.den TB)) (n22 : Int) (n23 : Int) (n24 : Int) (n25 : Int) (n26 : Int) (l27 : List (Ty.den TB)) (l28 : List (Ty.den TB)) (l29 : List (Ty.den TB)) (l30 : List (Ty.den TB)) (l31 : List (Ty.den TB)) (g0 : (l5.length : Int) ≤ 1000) (g1 :  (l27.length : Int) ≤ 5000) (g2 :  (l28.length : Int) ≤ 3000) (g3 :  eqL TB l14 l14 = true) (g4 :  eqL TB l21 l21 = true) (g5 :  op_9p [.n n0, .n n1, .n n2, .n n3, .n n4, .l TC l5] = some (0, [.l TB ([] : List (Ty.den TB))])) (g6 :  op_23r [.l TB ([] : List (Ty.den TB))] = some (1, [.n 0, .n 0, .n 0, .n 0, .n 0, .n 130])) (g7 :  op_10p [.n n6, .n n7, .n n8, .n n9, .n n10] = some (0, [.l TB l29])) (g8 :  0 < l29.length) (g9 :  op_26r [.l TB l29] = some (0, [.n n6, .n n7, .n n8, .n n9, .n n10, .n 0])) (g10 :  op_35r [.l TB l29] = some (0, [.n 2])) (g11 :  op_11p [.n n11, .n n12, .n n13, .l TB l14, .n n15] = some (0, [.l TB l30])) (g12 :  0 < l30.length) (g13 :  op_28r [.l TB l30] = some (0, [.n n11, .n n12, .n n13, .l TB l14, .n n15, .n 0])) (g14 :  op_35r [.l TB l30] = some (0, [.n 3])) (g15 :  op_12p [.n n16, .n n17, .n n18, .n n19, .n n20, .l TB l21, .n n22] = some (0, [.l TB ([] : List (Ty.den TB))])) (g16 :  op_30r [.l TB ([] : List (Ty.den TB))] = some (0, [.n 0, .n 0, .n 0, .n 0, .n 0, .l TB l31, .n 0, .n 130])) (g17 :  op_13p [.n n23, .n n24, .n n25, .n n26, .l TB l27] = some (0, [.l TB ([] : List (Ty.den TB))])) (g18 :  op_32r [.l TB ([] : List (Ty.den TB))] = some (1, [.n 0, .n 0, .n 0, .n 0, .n 130])) (g19 :  op_37r [.l TB l28] = some (0, [.b true])) (g20 :  l14.length = 64) (g21 :  l21.length = 64) : Imp (fn_W5_ho (.n n0 :: .n n1 :: .n n2 :: .n n3 :: .n n4 :: .l TC l5 :: .n n6 :: .n n7 :: .n n8 :: .n n9 :: .n n10 :: .n n11 :: .n n12 :: .n n13 :: .l TB l14 :: .n n15 :: .n n16 :: .n n17 :: .n n18 :: .n n19 :: .n n20 :: .l TB l21 :: .n n22 :: .n n23 :: .n n24 :: .n n25 :: .n n26 :: .l TB l27 :: .l TB l28 :: .l TB l29 :: .l TB l30 :: .l TB l31 :: [])) (ev_W5 [.n n0, .n n1, .n n2, .n n3, .n n4, .l TC l5, .n n6, .n n7, .n n8, .n n9, .n n10, .n n11, .n n12, .n n13, .l TB l14, .n n15, .n n16, .n n17, .n n18, .n n19, .n n20, .l TB l21, .n n22, .n n23, .n n24, .n n25, .n n26, .l TB l27, .l TB l28]) :=
(.pa [1]
(.sT ((decide ((↑(List.length l5) : Int) ≤ (1000 : Int))))
(.pa [1]
(.sF ((!decide ((↑(List.length l27) : Int) ≤ (5000 : Int))))
(.sF ((decide ((↑(List.length l28) : Int) > (3000 : Int))))
(.sT ((isK 0 [.l TB] (op_9p [.n n0, .n n1, .n n2, .n n3, .n n4, .l TC l5])))
(.pa [1]
(.sF ((isK 0 [.n, .n, .n, .n, .n, .n, .l TC] (op_23r [.l TB (gl TB (dOf (op_9p [.n n0, .n n1, .n n2, .n n3, .n n4, .l TC l5])) 0)])))
(.sT ((isK 1 [.n, .n, .n, .n, .n, .n] (op_23r [.l TB (gl TB (dOf (op_9p [.n n0, .n n1, .n n2, .n n3, .n n4, .l TC l5])) 0)])))
(.pa [1]
(.sF ((decide ((↑(List.length (gl TB (dOf (op_9p [.n n0, .n n1, .n n2, .n n3, .n n4, .l TC l5])) 0)) : Int) > (0 : Int))))
(.pa [0,1,0]
(.sT ((isK 0 [.l TB] (op_10p [.n n6, .n n7, .n n8, .n n9, .n n10])))
(.pa [1]
(.sT ((isK 0 [.n, .n, .n, .n, .n, .n] (op_26r [.l TB (gl TB (dOf (op_10p [.n n6, .n n7, .n n8, .n n9, .n n10])) 0)])))
(.pa [1]
(.sT ((decide ((↑(List.length (gl TB (dOf (op_10p [.n n6, .n n7, .n n8, .n n9, .n n10])) 0)) : Int) > (0 : Int))))
(.sF ((gn (dOf (op_26r [.l TB (gl TB (dOf (op_10p [.n n6, .n n7, .n n8, .n n9, .n n10])) 0)])) 5 != (0 : Int)))
(.sF ((!(gn (dOf (op_26r [.l TB (gl TB (dOf (op_10p [.n n6, .n n7, .n n8, .n n9, .n n10])) 0)])) 0 == n6 && (gn (dOf (op_26r [.l TB (gl TB (dOf (op_10p [.n n6, .n n7, .n n8, .n n9, .n n10])) 0)])) 1 == n7 && (gn (dOf (op_26r [.l TB (gl TB (dOf (op_10p [.n n6, .n n7, .n n8, .n n9, .n n10])) 0)])) 2 == n8 && (gn (dOf (op_26r [.l TB (gl TB (dOf (op_10p [.n n6, .n n7, .n n8, .n n9, .n n10])) 0)])) 3 == n9 && (gn (dOf (op_26r [.l TB (gl TB (dOf (op_10p [.n n6, .n n7, .n n8, .n n9, .n n10])) 0)])) 4 == n10 && true) && true))))))
(.sT ((isK 0 [.n] (op_35r [.l TB (gl TB (dOf (op_10p [.n n6, .n n7, .n n8, .n n9, .n n10])) 0)])))
(.pa [1]
(.sF ((gn (dOf (op_35r [.l TB (gl TB (dOf (op_10p [.n n6, .n n7, .n n8, .n n9, .n n10])) 0)])) 0 != (2 : Int)))
(.sT ((isK 0 [.l TB] (op_11p [.n n11, .n n12, .n n13, .l TB l14, .n n15])))
(.pa [1]
(.sT ((isK 0 [.n, .n, .n, .l TB, .n, .n] (op_28r [.l TB (gl TB (dOf (op_11p [.n n11, .n n12, .n n13, .l TB l14, .n n15])) 0)])))
(.pa [1]
(.sF ((gn (dOf (op_28r [.l TB (gl TB (dOf (op_11p [.n n11, .n n12, .n n13, .l TB l14, .n n15])) 0)])) 5 != (0 : Int)))
(.sF ((!(gn (dOf (op_28r [.l TB (gl TB (dOf (op_11p [.n n11, .n n12, .n n13, .l TB l14, .n n15])) 0)])) 0 == n11 && (gn (dOf (op_28r [.l TB (gl TB (dOf (op_11p [.n n11, .n n12, .n n13, .l TB l14, .n n15])) 0)])) 1 == n12 && (gn (dOf (op_28r [.l TB (gl TB (dOf (op_11p [.n n11, .n n12, .n n13, .l TB l14, .n n15])) 0)])) 2 == n13 && (eqL TB (gl TB (dOf (op_28r [.l TB (gl TB (dOf (op_11p [.n n11, .n n12, .n n13, .l TB l14, .n n15])) 0)])) 3) l14 && (gn (dOf (op_28r [.l TB (gl TB (dOf (op_11p [.n n11, .n n12, .n n13, .l TB l14, .n n15])) 0)])) 4 == n15 && true)))))))
(.sT ((isK 0 [.n] (op_35r [.l TB (gl TB (dOf (op_11p [.n n11, .n n12, .n n13, .l TB l14, .n n15])) 0)])))
(.pa [1]
(.sF ((gn (dOf (op_35r [.l TB (gl TB (dOf (op_11p [.n n11, .n n12, .n n13, .l TB l14, .n n15])) 0)])) 0 != (3 : Int)))
(.sT ((isK 0 [.l TB] (op_12p [.n n16, .n n17, .n n18, .n n19, .n n20, .l TB l21, .n n22])))
(.pa [1]
(.sT ((isK 0 [.n, .n, .n, .n, .n, .l TB, .n, .n] (op_30r [.l TB (gl TB (dOf (op_12p [.n n16, .n n17, .n n18, .n n19, .n n20, .l TB l21, .n n22])) 0)])))
(.pa [1]
(.sF ((decide ((↑(List.length (gl TB (dOf (op_12p [.n n16, .n n17, .n n18, .n n19, .n n20, .l TB l21, .n n22])) 0)) : Int) > (0 : Int))))
(.pa [0,0]
(.sT ((isK 0 [.l TB] (op_13p [.n n23, .n n24, .n n25, .n n26, .l TB l27])))
(.pa [1]
(.sF ((isK 0 [.n, .n, .n, .n, .n, .l TB] (op_32r [.l TB (gl TB (dOf (op_13p [.n n23, .n n24, .n n25, .n n26, .l TB l27])) 0)])))
(.sT ((isK 1 [.n, .n, .n, .n, .n] (op_32r [.l TB (gl TB (dOf (op_13p [.n n23, .n n24, .n n25, .n n26, .l TB l27])) 0)])))
(.pa [1]
(.sF ((decide ((↑(List.length (gl TB (dOf (op_13p [.n n23, .n n24, .n n25, .n n26, .l TB l27])) 0)) : Int) > (0 : Int))))
(.pa [0,1,0]
(.sT ((isK 0 [.b] (op_37r [.l TB l28])))
(.pa [1]
(.sT ((gb (dOf (op_37r [.l TB l28])) 0))
(.pa [1,1,1]
.lf))))))))))))))))))))))))))))))))))))))))))))))))

noncomputable def fn_W5_hgl : List Dat → Tree Bool
 | (.n n0 :: .n n1 :: .n n2 :: .n n3 :: .n n4 :: .l (Ty.pair (Ty.int IntKind.u8) (Ty.int IntKind.i64)) l5 :: .n n6 :: .n n7 :: .n n8 :: .n n9 :: .n n10 :: .n n11 :: .n n12 :: .n n13 :: .l (Ty.int IntKind.u8) l14 :: .n n15 :: .n n16 :: .n n17 :: .n n18 :: .n n19 :: .n n20 :: .l (Ty.int IntKind.u8) l21 :: .n n22 :: .n n23 :: .n n24 :: .n n25 :: .n n26 :: .l (Ty.int IntKind.u8) l27 :: .l (Ty.int IntKind.u8) l28 :: .l (Ty.int IntKind.u8) l29 :: .l (Ty.int IntKind.u8) l30 :: .l (Ty.int IntKind.u8) l31 :: []) =>
 (.leaf (true))
 | _ => .bad 0
theorem fn_W5_hgl_im (n0 : Int) (n1 : Int) (n2 : Int) (n3 : Int) (n4 : Int) (l5 : List (Ty.den TC)) (n6 : Int) (n7 : Int) (n8 : Int) (n9 : Int) (n10 : Int) (n11 : Int) (n12 : Int) (n13 : Int) (l14 : List (Ty.den TB)) (n15 : Int) (n16 : Int) (n17 : Int) (n18 : Int) (n19 : Int) (n20 : Int) (l21 : List (Ty.den TB)) (n22 : Int) (n23 : Int) (n24 : Int) (n25 : Int) (n26 : Int) (l27 : List (Ty.den TB)) (l28 : List (Ty.den TB)) (l29 : List (Ty.den TB)) (l30 : List (Ty.den TB)) (l31 : List (Ty.den TB)) (g0 : (l5.length : Int) ≤ 1000) (g1 :  (l27.length : Int) ≤ 5000) (g2 :  (l28.length : Int) ≤ 3000) (g3 :  eqL TB l14 l14 = true) (g4 :  eqL TB l21 l21 = true) (g5 :  op_9p [.n n0, .n n1, .n n2, .n n3, .n n4, .l TC l5] = some (0, [.l TB ([] : List (Ty.den TB))])) (g6 :  op_23r [.l TB ([] : List (Ty.den TB))] = some (1, [.n 0, .n 0, .n 0, .n 0, .n 0, .n 130])) (g7 :  op_10p [.n n6, .n n7, .n n8, .n n9, .n n10] = some (0, [.l TB ([] : List (Ty.den TB))])) (g8 :  op_26r [.l TB ([] : List (Ty.den TB))] = some (0, [.n 0, .n 0, .n 0, .n 0, .n 0, .n 130])) (g9 :  op_11p [.n n11, .n n12, .n n13, .l TB l14, .n n15] = some (0, [.l TB l29])) (g10 :  0 < l29.length) (g11 :  op_28r [.l TB l29] = some (0, [.n n11, .n n12, .n n13, .l TB l14, .n n15, .n 0])) (g12 :  op_35r [.l TB l29] = some (0, [.n 3])) (g13 :  op_12p [.n n16, .n n17, .n n18, .n n19, .n n20, .l TB l21, .n n22] = some (0, [.l TB l30])) (g14 :  0 < l30.length) (g15 :  op_30r [.l TB l30] = some (0, [.n n16, .n n17, .n n18, .n n19, .n n20, .l TB l21, .n n22, .n 0])) (g16 :  op_35r [.l TB l30] = some (0, [.n 4])) (g17 :  op_13p [.n n23, .n n24, .n n25, .n n26, .l TB l27] = some (0, [.l TB l31])) (g18 :  0 < l31.length) (g19 :  strEq (strOf l27) (strOf l27) = true) (g20 :  op_32r [.l TB l31] = some (0, [.n n23, .n n24, .n n25, .n n26, .n 0, .l TB l27])) (g21 :  op_35r [.l TB l31] = some (0, [.n 5])) (g22 :  op_37r [.l TB l28] = some (0, [.b true])) (g23 :  l14.length = 64) (g24 :  l21.length = 64) : Imp (fn_W5_hgl (.n n0 :: .n n1 :: .n n2 :: .n n3 :: .n n4 :: .l TC l5 :: .n n6 :: .n n7 :: .n n8 :: .n n9 :: .n n10 :: .n n11 :: .n n12 :: .n n13 :: .l TB l14 :: .n n15 :: .n n16 :: .n n17 :: .n n18 :: .n n19 :: .n n20 :: .l TB l21 :: .n n22 :: .n n23 :: .n n24 :: .n n25 :: .n n26 :: .l TB l27 :: .l TB l28 :: .l TB l29 :: .l TB l30 :: .l TB l31 :: [])) (ev_W5 [.n n0, .n n1, .n n2, .n n3, .n n4, .l TC l5, .n n6, .n n7, .n n8, .n n9, .n n10, .n n11, .n n12, .n n13, .l TB l14, .n n15, .n n16, .n n17, .n n18, .n n19, .n n20, .l TB l21, .n n22, .n n23, .n n24, .n n25, .n n26, .l TB l27, .l TB l28]) :=
(.pa [1]
(.sT ((decide ((↑(List.length l5) : Int) ≤ (1000 : Int))))
(.pa [1]
(.sF ((!decide ((↑(List.length l27) : Int) ≤ (5000 : Int))))
(.sF ((decide ((↑(List.length l28) : Int) > (3000 : Int))))
(.sT ((isK 0 [.l TB] (op_9p [.n n0, .n n1, .n n2, .n n3, .n n4, .l TC l5])))
(.pa [1]
(.sF ((isK 0 [.n, .n, .n, .n, .n, .n, .l TC] (op_23r [.l TB (gl TB (dOf (op_9p [.n n0, .n n1, .n n2, .n n3, .n n4, .l TC l5])) 0)])))
(.sT ((isK 1 [.n, .n, .n, .n, .n, .n] (op_23r [.l TB (gl TB (dOf (op_9p [.n n0, .n n1, .n n2, .n n3, .n n4, .l TC l5])) 0)])))
(.pa [1]
(.sF ((decide ((↑(List.length (gl TB (dOf (op_9p [.n n0, .n n1, .n n2, .n n3, .n n4, .l TC l5])) 0)) : Int) > (0 : Int))))
(.pa [0,1,0]
(.sT ((isK 0 [.l TB] (op_10p [.n n6, .n n7, .n n8, .n n9, .n n10])))
(.pa [1]
(.sT ((isK 0 [.n, .n, .n, .n, .n, .n] (op_26r [.l TB (gl TB (dOf (op_10p [.n n6, .n n7, .n n8, .n n9, .n n10])) 0)])))
(.pa [1]
(.sF ((decide ((↑(List.length (gl TB (dOf (op_10p [.n n6, .n n7, .n n8, .n n9, .n n10])) 0)) : Int) > (0 : Int))))
(.pa [0,0]
(.sT ((isK 0 [.l TB] (op_11p [.n n11, .n n12, .n n13, .l TB l14, .n n15])))
(.pa [1]
(.sT ((isK 0 [.n, .n, .n, .l TB, .n, .n] (op_28r [.l TB (gl TB (dOf (op_11p [.n n11, .n n12, .n n13, .l TB l14, .n n15])) 0)])))
(.pa [1]
(.sF ((gn (dOf (op_28r [.l TB (gl TB (dOf (op_11p [.n n11, .n n12, .n n13, .l TB l14, .n n15])) 0)])) 5 != (0 : Int)))
(.sF ((!(gn (dOf (op_28r [.l TB (gl TB (dOf (op_11p [.n n11, .n n12, .n n13, .l TB l14, .n n15])) 0)])) 0 == n11 && (gn (dOf (op_28r [.l TB (gl TB (dOf (op_11p [.n n11, .n n12, .n n13, .l TB l14, .n n15])) 0)])) 1 == n12 && (gn (dOf (op_28r [.l TB (gl TB (dOf (op_11p [.n n11, .n n12, .n n13, .l TB l14, .n n15])) 0)])) 2 == n13 && (eqL TB (gl TB (dOf (op_28r [.l TB (gl TB (dOf (op_11p [.n n11, .n n12, .n n13, .l TB l14, .n n15])) 0)])) 3) l14 && (gn (dOf (op_28r [.l TB (gl TB (dOf (op_11p [.n n11, .n n12, .n n13, .l TB l14, .n n15])) 0)])) 4 == n15 && true)))))))
(.sT ((isK 0 [.n] (op_35r [.l TB (gl TB (dOf (op_11p [.n n11, .n n12, .n n13, .l TB l14, .n n15])) 0)])))
(.pa [1]
(.sF ((gn (dOf (op_35r [.l TB (gl TB (dOf (op_11p [.n n11, .n n12, .n n13, .l TB l14, .n n15])) 0)])) 0 != (3 : Int)))
(.sT ((isK 0 [.l TB] (op_12p [.n n16, .n n17, .n n18, .n n19, .n n20, .l TB l21, .n n22])))
(.pa [1]
(.sT ((isK 0 [.n, .n, .n, .n, .n, .l TB, .n, .n] (op_30r [.l TB (gl TB (dOf (op_12p [.n n16, .n n17, .n n18, .n n19, .n n20, .l TB l21, .n n22])) 0)])))
(.pa [1]
(.sT ((decide ((↑(List.length (gl TB (dOf (op_12p [.n n16, .n n17, .n n18, .n n19, .n n20, .l TB l21, .n n22])) 0)) : Int) > (0 : Int))))
(.sF ((gn (dOf (op_30r [.l TB (gl TB (dOf (op_12p [.n n16, .n n17, .n n18, .n n19, .n n20, .l TB l21, .n n22])) 0)])) 7 != (0 : Int)))
(.sF ((!(gn (dOf (op_30r [.l TB (gl TB (dOf (op_12p [.n n16, .n n17, .n n18, .n n19, .n n20, .l TB l21, .n n22])) 0)])) 0 == n16 && (gn (dOf (op_30r [.l TB (gl TB (dOf (op_12p [.n n16, .n n17, .n n18, .n n19, .n n20, .l TB l21, .n n22])) 0)])) 1 == n17 && (gn (dOf (op_30r [.l TB (gl TB (dOf (op_12p [.n n16, .n n17, .n n18, .n n19, .n n20, .l TB l21, .n n22])) 0)])) 2 == n18 && (gn (dOf (op_30r [.l TB (gl TB (dOf (op_12p [.n n16, .n n17, .n n18, .n n19, .n n20, .l TB l21, .n n22])) 0)])) 3 == n19 && (gn (dOf (op_30r [.l TB (gl TB (dOf (op_12p [.n n16, .n n17, .n n18, .n n19, .n n20, .l TB l21, .n n22])) 0)])) 4 == n20 && (eqL TB (gl TB (dOf (op_30r [.l TB (gl TB (dOf (op_12p [.n n16, .n n17, .n n18, .n n19, .n n20, .l TB l21, .n n22])) 0)])) 5) l21 && (gn (dOf (op_30r [.l TB (gl TB (dOf (op_12p [.n n16, .n n17, .n n18, .n n19, .n n20, .l TB l21, .n n22])) 0)])) 6 == n22 && true)))) && true)))))
(.sT ((isK 0 [.n] (op_35r [.l TB (gl TB (dOf (op_12p [.n n16, .n n17, .n n18, .n n19, .n n20, .l TB l21, .n n22])) 0)])))
(.pa [1]
(.sF ((gn (dOf (op_35r [.l TB (gl TB (dOf (op_12p [.n n16, .n n17, .n n18, .n n19, .n n20, .l TB l21, .n n22])) 0)])) 0 != (4 : Int)))
(.sT ((isK 0 [.l TB] (op_13p [.n n23, .n n24, .n n25, .n n26, .l TB l27])))
(.pa [1]
(.sT ((isK 0 [.n, .n, .n, .n, .n, .l TB] (op_32r [.l TB (gl TB (dOf (op_13p [.n n23, .n n24, .n n25, .n n26, .l TB l27])) 0)])))
(.pa [1]
(.sT ((decide ((↑(List.length (gl TB (dOf (op_13p [.n n23, .n n24, .n n25, .n n26, .l TB l27])) 0)) : Int) > (0 : Int))))
(.sF ((gn (dOf (op_32r [.l TB (gl TB (dOf (op_13p [.n n23, .n n24, .n n25, .n n26, .l TB l27])) 0)])) 4 != (0 : Int)))
(.pa [1,1,1,1]
(.sF ((!(gn (dOf (op_32r [.l TB (gl TB (dOf (op_13p [.n n23, .n n24, .n n25, .n n26, .l TB l27])) 0)])) 0 == n23 && (gn (dOf (op_32r [.l TB (gl TB (dOf (op_13p [.n n23, .n n24, .n n25, .n n26, .l TB l27])) 0)])) 1 == n24 && (gn (dOf (op_32r [.l TB (gl TB (dOf (op_13p [.n n23, .n n24, .n n25, .n n26, .l TB l27])) 0)])) 2 == n25 && (gn (dOf (op_32r [.l TB (gl TB (dOf (op_13p [.n n23, .n n24, .n n25, .n n26, .l TB l27])) 0)])) 3 == n26 && (strEq (strOf (gl TB (dOf (op_32r [.l TB (gl TB (dOf (op_13p [.n n23, .n n24, .n n25, .n n26, .l TB l27])) 0)])) 5)) (strOf l27) && true)))))))
(.sT ((isK 0 [.n] (op_35r [.l TB (gl TB (dOf (op_13p [.n n23, .n n24, .n n25, .n n26, .l TB l27])) 0)])))
(.pa [1,1]
(.sF ((gn (dOf (op_35r [.l TB (gl TB (dOf (op_13p [.n n23, .n n24, .n n25, .n n26, .l TB l27])) 0)])) 0 != (5 : Int)))
(.sT ((isK 0 [.b] (op_37r [.l TB l28])))
(.pa [1]
(.sT ((gb (dOf (op_37r [.l TB l28])) 0))
(.pa [1,1,1]
.lf))))))))))))))))))))))))))))))))))))))))))))))))))))

noncomputable def fn_W5_hg : List Dat → Tree Bool
 | (.n n0 :: .n n1 :: .n n2 :: .n n3 :: .n n4 :: .l (Ty.pair (Ty.int IntKind.u8) (Ty.int IntKind.i64)) l5 :: .n n6 :: .n n7 :: .n n8 :: .n n9 :: .n n10 :: .n n11 :: .n n12 :: .n n13 :: .l (Ty.int IntKind.u8) l14 :: .n n15 :: .n n16 :: .n n17 :: .n n18 :: .n n19 :: .n n20 :: .l (Ty.int IntKind.u8) l21 :: .n n22 :: .n n23 :: .n n24 :: .n n25 :: .n n26 :: .l (Ty.int IntKind.u8) l27 :: .l (Ty.int IntKind.u8) l28 :: .l (Ty.int IntKind.u8) l29 :: .l (Ty.int IntKind.u8) l30 :: []) =>
 (.leaf (true))
 | _ => .bad 0
theorem fn_W5_hg_im (n0 : Int) (n1 : Int) (n2 : Int) (n3 : Int) (n4 : Int) (l5 : List (Ty.den TC)) (n6 : Int) (n7 : Int) (n8 : Int) (n9 : Int) (n10 : Int) (n11 : Int) (n12 : Int) (n13 : Int) (l14 : List (Ty.den TB)) (n15 : Int) (n16 : Int) (n17 : Int) (n18 : Int) (n19 : Int) (n20 : Int) (l21 : List (Ty.den TB)) (n22 : Int) (n23 : Int) (n24 : Int) (n25 : Int) (n26 : Int) (l27 : List (Ty.den TB)) (l28 : List (Ty.den TB)) (l29 : List (Ty.den TB)) (l30 : List (Ty.den TB)) (g0 : (l5.length : Int) ≤ 1000) (g1 :  (l27.length : Int) ≤ 5000) (g2 :  (l28.length : Int) ≤ 3000) (g3 :  eqL TB l14 l14 = true) (g4 :  eqL TB l21 l21 = true) (g5 :  op_9p [.n n0, .n n1, .n n2, .n n3, .n n4, .l TC l5] = some (0, [.l TB ([] : List (Ty.den TB))])) (g6 :  op_23r [.l TB ([] : List (Ty.den TB))] = some (1, [.n 0, .n 0, .n 0, .n 0, .n 0, .n 130])) (g7 :  op_10p [.n n6, .n n7, .n n8, .n n9, .n n10] = some (0, [.l TB ([] : List (Ty.den TB))])) (g8 :  op_26r [.l TB ([] : List (Ty.den TB))] = some (0, [.n 0, .n 0, .n 0, .n 0, .n 0, .n 130])) (g9 :  op_11p [.n n11, .n n12, .n n13, .l TB l14, .n n15] = some (0, [.l TB l29])) (g10 :  0 < l29.length) (g11 :  op_28r [.l TB l29] = some (0, [.n n11, .n n12, .n n13, .l TB l14, .n n15, .n 0])) (g12 :  op_35r [.l TB l29] = some (0, [.n 3])) (g13 :  op_12p [.n n16, .n n17, .n n18, .n n19, .n n20, .l TB l21, .n n22] = some (0, [.l TB l30])) (g14 :  0 < l30.length) (g15 :  op_30r [.l TB l30] = some (0, [.n n16, .n n17, .n n18, .n n19, .n n20, .l TB l21, .n n22, .n 0])) (g16 :  op_35r [.l TB l30] = some (0, [.n 4])) (g17 :  op_13p [.n n23, .n n24, .n n25, .n n26, .l TB l27] = some (0, [.l TB ([] : List (Ty.den TB))])) (g18 :  op_32r [.l TB ([] : List (Ty.den TB))] = some (1, [.n 0, .n 0, .n 0, .n 0, .n 130])) (g19 :  op_37r [.l TB l28] = some (0, [.b true])) (g20 :  l14.length = 64) (g21 :  l21.length = 64) : Imp (fn_W5_hg (.n n0 :: .n n1 :: .n n2 :: .n n3 :: .n n4 :: .l TC l5 :: .n n6 :: .n n7 :: .n n8 :: .n n9 :: .n n10 :: .n n11 :: .n n12 :: .n n13 :: .l TB l14 :: .n n15 :: .n n16 :: .n n17 :: .n n18 :: .n n19 :: .n n20 :: .l TB l21 :: .n n22 :: .n n23 :: .n n24 :: .n n25 :: .n n26 :: .l TB l27 :: .l TB l28 :: .l TB l29 :: .l TB l30 :: [])) (ev_W5 [.n n0, .n n1, .n n2, .n n3, .n n4, .l TC l5, .n n6, .n n7, .n n8, .n n9, .n n10, .n n11, .n n12, .n n13, .l TB l14, .n n15, .n n16, .n n17, .n n18, .n n19, .n n20, .l TB l21, .n n22, .n n23, .n n24, .n n25, .n n26, .l TB l27, .l TB l28]) :=
(.pa [1]
(.sT ((decide ((↑(List.length l5) : Int) ≤ (1000 : Int))))
(.pa [1]
(.sF ((!decide ((↑(List.length l27) : Int) ≤ (5000 : Int))))
(.sF ((decide ((↑(List.length l28) : Int) > (3000 : Int))))
(.sT ((isK 0 [.l TB] (op_9p [.n n0, .n n1, .n n2, .n n3, .n n4, .l TC l5])))
(.pa [1]
(.sF ((isK 0 [.n, .n, .n, .n, .n, .n, .l TC] (op_23r [.l TB (gl TB (dOf (op_9p [.n n0, .n n1, .n n2, .n n3, .n n4, .l TC l5])) 0)])))
(.sT ((isK 1 [.n, .n, .n, .n, .n, .n] (op_23r [.l TB (gl TB (dOf (op_9p [.n n0, .n n1, .n n2, .n n3, .n n4, .l TC l5])) 0)])))
(.pa [1]
(.sF ((decide ((↑(List.length (gl TB (dOf (op_9p [.n n0, .n n1, .n n2, .n n3, .n n4, .l TC l5])) 0)) : Int) > (0 : Int))))
(.pa [0,1,0]
(.sT ((isK 0 [.l TB] (op_10p [.n n6, .n n7, .n n8, .n n9, .n n10])))
(.pa [1]
(.sT ((isK 0 [.n, .n, .n, .n, .n, .n] (op_26r [.l TB (gl TB (dOf (op_10p [.n n6, .n n7, .n n8, .n n9, .n n10])) 0)])))
(.pa [1]
(.sF ((decide ((↑(List.length (gl TB (dOf (op_10p [.n n6, .n n7, .n n8, .n n9, .n n10])) 0)) : Int) > (0 : Int))))
(.pa [0,0]
(.sT ((isK 0 [.l TB] (op_11p [.n n11, .n n12, .n n13, .l TB l14, .n n15])))
(.pa [1]
(.sT ((isK 0 [.n, .n, .n, .l TB, .n, .n] (op_28r [.l TB (gl TB (dOf (op_11p [.n n11, .n n12, .n n13, .l TB l14, .n n15])) 0)])))
(.pa [1]
(.sF ((gn (dOf (op_28r [.l TB (gl TB (dOf (op_11p [.n n11, .n n12, .n n13, .l TB l14, .n n15])) 0)])) 5 != (0 : Int)))
(.sF ((!(gn (dOf (op_28r [.l TB (gl TB (dOf (op_11p [.n n11, .n n12, .n n13, .l TB l14, .n n15])) 0)])) 0 == n11 && (gn (dOf (op_28r [.l TB (gl TB (dOf (op_11p [.n n11, .n n12, .n n13, .l TB l14, .n n15])) 0)])) 1 == n12 && (gn (dOf (op_28r [.l TB (gl TB (dOf (op_11p [.n n11, .n n12, .n n13, .l TB l14, .n n15])) 0)])) 2 == n13 && (eqL TB (gl TB (dOf (op_28r [.l TB (gl TB (dOf (op_11p [.n n11, .n n12, .n n13, .l TB l14, .n n15])) 0)])) 3) l14 && (gn (dOf (op_28r [.l TB (gl TB (dOf (op_11p [.n n11, .n n12, .n n13, .l TB l14, .n n15])) 0)])) 4 == n15 && true)))))))
(.sT ((isK 0 [.n] (op_35r [.l TB (gl TB (dOf (op_11p [.n n11, .n n12, .n n13, .l TB l14, .n n15])) 0)])))
(.pa [1]
(.sF ((gn (dOf (op_35r [.l TB (gl TB (dOf (op_11p [.n n11, .n n12, .n n13, .l TB l14, .n n15])) 0)])) 0 != (3 : Int)))
(.sT ((isK 0 [.l TB] (op_12p [.n n16, .n n17, .n n18, .n n19, .n n20, .l TB l21, .n n22])))
(.pa [1]
(.sT ((isK 0 [.n, .n, .n, .n, .n, .l TB, .n, .n] (op_30r [.l TB (gl TB (dOf (op_12p [.n n16, .n n17, .n n18, .n n19, .n n20, .l TB l21, .n n22])) 0)])))
(.pa [1]
(.sT ((decide ((↑(List.length (gl TB (dOf (op_12p [.n n16, .n n17, .n n18, .n n19, .n n20, .l TB l21, .n n22])) 0)) : Int) > (0 : Int))))
(.sF ((gn (dOf (op_30r [.l TB (gl TB (dOf (op_12p [.n n16, .n n17, .n n18, .n n19, .n n20, .l TB l21, .n n22])) 0)])) 7 != (0 : Int)))
(.sF ((!(gn (dOf (op_30r [.l TB (gl TB (dOf (op_12p [.n n16, .n n17, .n n18, .n n19, .n n20, .l TB l21, .n n22])) 0)])) 0 == n16 && (gn (dOf (op_30r [.l TB (gl TB (dOf (op_12p [.n n16, .n n17, .n n18, .n n19, .n n20, .l TB l21, .n n22])) 0)])) 1 == n17 && (gn (dOf (op_30r [.l TB (gl TB (dOf (op_12p [.n n16, .n n17, .n n18, .n n19, .n n20, .l TB l21, .n n22])) 0)])) 2 == n18 && (gn (dOf (op_30r [.l TB (gl TB (dOf (op_12p [.n n16, .n n17, .n n18, .n n19, .n n20, .l TB l21, .n n22])) 0)])) 3 == n19 && (gn (dOf (op_30r [.l TB (gl TB (dOf (op_12p [.n n16, .n n17, .n n18, .n n19, .n n20, .l TB l21, .n n22])) 0)])) 4 == n20 && (eqL TB (gl TB (dOf (op_30r [.l TB (gl TB (dOf (op_12p [.n n16, .n n17, .n n18, .n n19, .n n20, .l TB l21, .n n22])) 0)])) 5) l21 && (gn (dOf (op_30r [.l TB (gl TB (dOf (op_12p [.n n16, .n n17, .n n18, .n n19, .n n20, .l TB l21, .n n22])) 0)])) 6 == n22 && true)))) && true)))))
(.sT ((isK 0 [.n] (op_35r [.l TB (gl TB (dOf (op_12p [.n n16, .n n17, .n n18, .n n19, .n n20, .l TB l21, .n n22])) 0)])))
(.pa [1]
(.sF ((gn (dOf (op_35r [.l TB (gl TB (dOf (op_12p [.n n16, .n n17, .n n18, .n n19, .n n20, .l TB l21, .n n22])) 0)])) 0 != (4 : Int)))
(.sT ((isK 0 [.l TB] (op_13p [.n n23, .n n24, .n n25, .n n26, .l TB l27])))
(.pa [1]
(.sF ((isK 0 [.n, .n, .n, .n, .n, .l TB] (op_32r [.l TB (gl TB (dOf (op_13p [.n n23, .n n24, .n n25, .n n26, .l TB l27])) 0)])))
(.sT ((isK 1 [.n, .n, .n, .n, .n] (op_32r [.l TB (gl TB (dOf (op_13p [.n n23, .n n24, .n n25, .n n26, .l TB l27])) 0)])))
(.pa [1]
(.sF ((decide ((↑(List.length (gl TB (dOf (op_13p [.n n23, .n n24, .n n25, .n n26, .l TB l27])) 0)) : Int) > (0 : Int))))
(.pa [0,1,0]
(.sT ((isK 0 [.b] (op_37r [.l TB l28])))
(.pa [1]
(.sT ((gb (dOf (op_37r [.l TB l28])) 0))
(.pa [1,1,1]
.lf))))))))))))))))))))))))))))))))))))))))))))))))

noncomputable def fn_W5_hl : List Dat → Tree Bool
 | (.n n0 :: .n n1 :: .n n2 :: .n n3 :: .n n4 :: .l (Ty.pair (Ty.int IntKind.u8) (Ty.int IntKind.i64)) l5 :: .n n6 :: .n n7 :: .n n8 :: .n n9 :: .n n10 :: .n n11 :: .n n12 :: .n n13 :: .l (Ty.int IntKind.u8) l14 :: .n n15 :: .n n16 :: .n n17 :: .n n18 :: .n n19 :: .n n20 :: .l (Ty.int IntKind.u8) l21 :: .n n22 :: .n n23 :: .n n24 :: .n n25 :: .n n26 :: .l (Ty.int IntKind.u8) l27 :: .l (Ty.int IntKind.u8) l28 :: .l (Ty.int IntKind.u8) l29 :: .l (Ty.int IntKind.u8) l30 :: .l (Ty.int IntKind.u8) l31 :: []) =>
 (.leaf (true))
 | _ => .bad 0
theorem fn_W5_hl_im (n0 : Int) (n1 : Int) (n2 : Int) (n3 : Int) (n4 : Int) (l5 : List (Ty.den TC)) (n6 : Int) (n7 : Int) (n8 : Int) (n9 : Int) (n10 : Int) (n11 : Int) (n12 : Int) (n13 : Int) (l14 : List (Ty.den TB)) (n15 : Int) (n16 : Int) (n17 : Int) (n18 : Int) (n19 : Int) (n20 : Int) (l21 : List (Ty.den TB)) (n22 : Int) (n23 : Int) (n24 : Int) (n25 : Int) (n26 : Int) (l27 : List (Ty.den TB)) (l28 : List (Ty.den TB)) (l29 : List (Ty.den TB)) (l30 : List (Ty.den TB)) (l31 : List (Ty.den TB)) (g0 : (l5.length : Int) ≤ 1000) (g1 :  (l27.length : Int) ≤ 5000) (g2 :  (l28.length : Int) ≤ 3000) (g3 :  eqL TB l14 l14 = true) (g4 :  eqL TB l21 l21 = true) (g5 :  op_9p [.n n0, .n n1, .n n2, .n n3, .n n4, .l TC l5] = some (0, [.l TB ([] : List (Ty.den TB))])) (g6 :  op_23r [.l TB ([] : List (Ty.den TB))] = some (1, [.n 0, .n 0, .n 0, .n 0, .n 0, .n 130])) (g7 :  op_10p [.n n6, .n n7, .n n8, .n n9, .n n10] = some (0, [.l TB ([] : List (Ty.den TB))])) (g8 :  op_26r [.l TB ([] : List (Ty.den TB))] = some (0, [.n 0, .n 0, .n 0, .n 0, .n 0, .n 130])) (g9 :  op_11p [.n n11, .n n12, .n n13, .l TB l14, .n n15] = some (0, [.l TB l29])) (g10 :  0 < l29.length) (g11 :  op_28r [.l TB l29] = some (0, [.n n11, .n n12, .n n13, .l TB l14, .n n15, .n 0])) (g12 :  op_35r [.l TB l29] = some (0, [.n 3])) (g13 :  op_12p [.n n16, .n n17, .n n18, .n n19, .n n20, .l TB l21, .n n22] = some (0, [.l TB ([] : List (Ty.den TB))])) (g14 :  op_30r [.l TB ([] : List (Ty.den TB))] = some (0, [.n 0, .n 0, .n 0, .n 0, .n 0, .l TB l30, .n 0, .n 130])) (g15 :  op_13p [.n n23, .n n24, .n n25, .n n26, .l TB l27] = some (0, [.l TB l31])) (g16 :  0 < l31.length) (g17 :  strEq (strOf l27) (strOf l27) = true) (g18 :  op_32r [.l TB l31] = some (0, [.n n23, .n n24, .n n25, .n n26, .n 0, .l TB l27])) (g19 :  op_35r [.l TB l31] = some (0, [.n 5])) (g20 :  op_37r [.l TB l28] = some (0, [.b true])) (g21 :  l14.length = 64) (g22 :  l21.length = 64) : Imp (fn_W5_hl (.n n0 :: .n n1 :: .n n2 :: .n n3 :: .n n4 :: .l TC l5 :: .n n6 :: .n n7 :: .n n8 :: .n n9 :: .n n10 :: .n n11 :: .n n12 :: .n n13 :: .l TB l14 :: .n n15 :: .n n16 :: .n n17 :: .n n18 :: .n n19 :: .n n20 :: .l TB l21 :: .n n22 :: .n n23 :: .n n24 :: .n n25 :: .n n26 :: .l TB l27 :: .l TB l28 :: .l TB l29 :: .l TB l30 :: .l TB l31 :: [])) (ev_W5 [.n n0, .n n1, .n n2, .n n3, .n n4, .l TC l5, .n n6, .n n7, .n n8, .n n9, .n n10, .n n11, .n n12, .n n13, .l TB l14, .n n15, .n n16, .n n17, .n n18, .n n19, .n n20, .l TB l21, .n n22, .n n23, .n n24, .n n25, .n n26, .l TB l27, .l TB l28]) :=
(.pa [1]
(.sT ((decide ((↑(List.length l5) : Int) ≤ (1000 : Int))))
(.pa [1]
(.sF ((!decide ((↑(List.length l27) : Int) ≤ (5000 : Int))))
(.sF ((decide ((↑(List.length l28) : Int) > (3000 : Int))))
(.sT ((isK 0 [.l TB] (op_9p [.n n0, .n n1, .n n2, .n n3, .n n4, .l TC l5])))
(.pa [1]
(.sF ((isK 0 [.n, .n, .n, .n, .n, .n, .l TC] (op_23r [.l TB (gl TB (dOf (op_9p [.n n0, .n n1, .n n2, .n n3, .n n4, .l TC l5])) 0)])))
(.sT ((isK 1 [.n, .n, .n, .n, .n, .n] (op_23r [.l TB (gl TB (dOf (op_9p [.n n0, .n n1, .n n2, .n n3, .n n4, .l TC l5])) 0)])))
(.pa [1]
(.sF ((decide ((↑(List.length (gl TB (dOf (op_9p [.n n0, .n n1, .n n2, .n n3, .n n4, .l TC l5])) 0)) : Int) > (0 : Int))))
(.pa [0,1,0]
(.sT ((isK 0 [.l TB] (op_10p [.n n6, .n n7, .n n8, .n n9, .n n10])))
(.pa [1]
(.sT ((isK 0 [.n, .n, .n, .n, .n, .n] (op_26r [.l TB (gl TB (dOf (op_10p [.n n6, .n n7, .n n8, .n n9, .n n10])) 0)])))
(.pa [1]
(.sF ((decide ((↑(List.length (gl TB (dOf (op_10p [.n n6, .n n7, .n n8, .n n9, .n n10])) 0)) : Int) > (0 : Int))))
(.pa [0,0]
(.sT ((isK 0 [.l TB] (op_11p [.n n11, .n n12, .n n13, .l TB l14, .n n15])))
(.pa [1]
(.sT ((isK 0 [.n, .n, .n, .l TB, .n, .n] (op_28r [.l TB (gl TB (dOf (op_11p [.n n11, .n n12, .n n13, .l TB l14, .n n15])) 0)])))
(.pa [1]
(.sF ((gn (dOf (op_28r [.l TB (gl TB (dOf (op_11p [.n n11, .n n12, .n n13, .l TB l14, .n n15])) 0)])) 5 != (0 : Int)))
(.sF ((!(gn (dOf (op_28r [.l TB (gl TB (dOf (op_11p [.n n11, .n n12, .n n13, .l TB l14, .n n15])) 0)])) 0 == n11 && (gn (dOf (op_28r [.l TB (gl TB (dOf (op_11p [.n n11, .n n12, .n n13, .l TB l14, .n n15])) 0)])) 1 == n12 && (gn (dOf (op_28r [.l TB (gl TB (dOf (op_11p [.n n11, .n n12, .n n13, .l TB l14, .n n15])) 0)])) 2 == n13 && (eqL TB (gl TB (dOf (op_28r [.l TB (gl TB (dOf (op_11p [.n n11, .n n12, .n n13, .l TB l14, .n n15])) 0)])) 3) l14 && (gn (dOf (op_28r [.l TB (gl TB (dOf (op_11p [.n n11, .n n12, .n n13, .l TB l14, .n n15])) 0)])) 4 == n15 && true)))))))
(.sT ((isK 0 [.n] (op_35r [.l TB (gl TB (dOf (op_11p [.n n11, .n n12, .n n13, .l TB l14, .n n15])) 0)])))
(.pa [1]
(.sF ((gn (dOf (op_35r [.l TB (gl TB (dOf (op_11p [.n n11, .n n12, .n n13, .l TB l14, .n n15])) 0)])) 0 != (3 : Int)))
(.sT ((isK 0 [.l TB] (op_12p [.n n16, .n n17, .n n18, .n n19, .n n20, .l TB l21, .n n22])))
(.pa [1]
(.sT ((isK 0 [.n, .n, .n, .n, .n, .l TB, .n, .n] (op_30r [.l TB (gl TB (dOf (op_12p [.n n16, .n n17, .n n18, .n n19, .n n20, .l TB l21, .n n22])) 0)])))
(.pa [1]
(.sF ((decide ((↑(List.length (gl TB (dOf (op_12p [.n n16, .n n17, .n n18, .n n19, .n n20, .l TB l21, .n n22])) 0)) : Int) > (0 : Int))))
(.pa [0,0]
(.sT ((isK 0 [.l TB] (op_13p [.n n23, .n n24, .n n25, .n n26, .l TB l27])))
(.pa [1]
(.sT ((isK 0 [.n, .n, .n, .n, .n, .l TB] (op_32r [.l TB (gl TB (dOf (op_13p [.n n23, .n n24, .n n25, .n n26, .l TB l27])) 0)])))
(.pa [1]
(.sT ((decide ((↑(List.length (gl TB (dOf (op_13p [.n n23, .n n24, .n n25, .n n26, .l TB l27])) 0)) : Int) > (0 : Int))))
(.sF ((gn (dOf (op_32r [.l TB (gl TB (dOf (op_13p [.n n23, .n n24, .n n25, .n n26, .l TB l27])) 0)])) 4 != (0 : Int)))
(.pa [1,1,1,1]
(.sF ((!(gn (dOf (op_32r [.l TB (gl TB (dOf (op_13p [.n n23, .n n24, .n n25, .n n26, .l TB l27])) 0)])) 0 == n23 && (gn (dOf (op_32r [.l TB (gl TB (dOf (op_13p [.n n23, .n n24, .n n25, .n n26, .l TB l27])) 0)])) 1 == n24 && (gn (dOf (op_32r [.l TB (gl TB (dOf (op_13p [.n n23, .n n24, .n n25, .n n26, .l TB l27])) 0)])) 2 == n25 && (gn (dOf (op_32r [.l TB (gl TB (dOf (op_13p [.n n23, .n n24, .n n25, .n n26, .l TB l27])) 0)])) 3 == n26 && (strEq (strOf (gl TB (dOf (op_32r [.l TB (gl TB (dOf (op_13p [.n n23, .n n24, .n n25, .n n26, .l TB l27])) 0)])) 5)) (strOf l27) && true)))))))
(.sT ((isK 0 [.n] (op_35r [.l TB (gl TB (dOf (op_13p [.n n23, .n n24, .n n25, .n n26, .l TB l27])) 0)])))
(.pa [1,1]
(.sF ((gn (dOf (op_35r [.l TB (gl TB (dOf (op_13p [.n n23, .n n24, .n n25, .n n26, .l TB l27])) 0)])) 0 != (5 : Int)))
(.sT ((isK 0 [.b] (op_37r [.l TB l28])))
(.pa [1]
(.sT ((gb (dOf (op_37r [.l TB l28])) 0))
(.pa [1,1,1]
.lf))))))))))))))))))))))))))))))))))))))))))))))))

noncomputable def fn_W5_h : List Dat → Tree Bool
 | (.n n0 :: .n n1 :: .n n2 :: .n n3 :: .n n4 :: .l (Ty.pair (Ty.int IntKind.u8) (Ty.int IntKind.i64)) l5 :: .n n6 :: .n n7 :: .n n8 :: .n n9 :: .n n10 :: .n n11 :: .n n12 :: .n n13 :: .l (Ty.int IntKind.u8) l14 :: .n n15 :: .n n16 :: .n n17 :: .n n18 :: .n n19 :: .n n20 :: .l (Ty.int IntKind.u8) l21 :: .n n22 :: .n n23 :: .n n24 :: .n n25 :: .n n26 :: .l (Ty.int IntKind.u8) l27 :: .l (Ty.int IntKind.u8) l28 :: .l (Ty.int IntKind.u8) l29 :: .l (Ty.int IntKind.u8) l30 :: []) =>
 (.leaf (true))
 | _ => .bad 0
theorem fn_W5_h_im (n0 : Int) (n1 : Int) (n2 : Int) (n3 : Int) (n4 : Int) (l5 : List (Ty.den TC)) (n6 : Int) (n7 : Int) (n8 : Int) (n9 : Int) (n10 : Int) (n11 : Int) (n12 : Int) (n13 : Int) (l14 : List (Ty.den TB)) (n15 : Int) (n16 : Int) (n17 : Int) (n18 : Int) (n19 : Int) (n20 : Int) (l21 : List (Ty.den TB)) (n22 : Int) (n23 : Int) (n24 : Int) (n25 : Int) (n26 : Int) (l27 : List (Ty.den TB)) (l28 : List (Ty.den TB)) (l29 : List (Ty.den TB)) (l30 : List (Ty.den TB)) (g0 : (l5.length : Int) ≤ 1000) (g1 :  (l27.length : Int) ≤ 5000) (g2 :  (l28.length : Int) ≤ 3000) (g3 :  eqL TB l14 l14 = true) (g4 :  eqL TB l21 l21 = true) (g5 :  op_9p [.n n0, .n n1, .n n2, .n n3, .n n4, .l TC l5] = some (0, [.l TB ([] : List (Ty.den TB))])) (g6 :  op_23r [.l TB ([] : List (Ty.den TB))] = some (1, [.n 0, .n 0, .n 0, .n 0, .n 0, .n 130])) (g7 :  op_10p [.n n6, .n n7, .n n8, .n n9, .n n10] = some (0, [.l TB ([] : List (Ty.den TB))])) (g8 :  op_26r [.l TB ([] : List (Ty.den TB))] = some (0, [.n 0, .n 0, .n 0, .n 0, .n 0, .n 130])) (g9 :  op_11p [.n n11, .n n12, .n n13, .l TB l14, .n n15] = some (0, [.l TB l29])) (g10 :  0 < l29.length) (g11 :  op_28r [.l TB l29] = some (0, [.n n11, .n n12, .n n13, .l TB l14, .n n15, .n 0])) (g12 :  op_35r [.l TB l29] = some (0, [.n 3])) (g13 :  op_12p [.n n16, .n n17, .n n18, .n n19, .n n20, .l TB l21, .n n22] = some (0, [.l TB ([] : List (Ty.den TB))])) (g14 :  op_30r [.l TB ([] : List (Ty.den TB))] = some (0, [.n 0, .n 0, .n 0, .n 0, .n 0, .l TB l30, .n 0, .n 130])) (g15 :  op_13p [.n n23, .n n24, .n n25, .n n26, .l TB l27] = some (0, [.l TB ([] : List (Ty.den TB))])) (g16 :  op_32r [.l TB ([] : List (Ty.den TB))] = some (1, [.n 0, .n 0, .n 0, .n 0, .n 130])) (g17 :  op_37r [.l TB l28] = some (0, [.b true])) (g18 :  l14.length = 64) (g19 :  l21.length = 64) : Imp (fn_W5_h (.n n0 :: .n n1 :: .n n2 :: .n n3 :: .n n4 :: .l TC l5 :: .n n6 :: .n n7 :: .n n8 :: .n n9 :: .n n10 :: .n n11 :: .n n12 :: .n n13 :: .l TB l14 :: .n n15 :: .n n16 :: .n n17 :: .n n18 :: .n n19 :: .n n20 :: .l TB l21 :: .n n22 :: .n n23 :: .n n24 :: .n n25 :: .n n26 :: .l TB l27 :: .l TB l28 :: .l TB l29 :: .l TB l30 :: [])) (ev_W5 [.n n0, .n n1, .n n2, .n n3, .n n4, .l TC l5, .n n6, .n n7, .n n8, .n n9, .n n10, .n n11, .n n12, .n n13, .l TB l14, .n n15, .n n16, .n n17, .n n18, .n n19, .n n20, .l TB l21, .n n22, .n n23, .n n24, .n n25, .n n26, .l TB l27, .l TB l28]) :=
(.pa [1]
(.sT ((decide ((↑(List.length l5) : Int) ≤ (1000 : Int))))
(.pa [1]
(.sF ((!decide ((↑(List.length l27) : Int) ≤ (5000 : Int))))
(.sF ((decide ((↑(List.length l28) : Int) > (3000 : Int))))
(.sT ((isK 0 [.l TB] (op_9p [.n n0, .n n1, .n n2, .n n3, .n n4, .l TC l5])))
(.pa [1]
(.sF ((isK 0 [.n, .n, .n, .n, .n, .n, .l TC] (op_23r [.l TB (gl TB (dOf (op_9p [.n n0, .n n1, .n n2, .n n3, .n n4, .l TC l5])) 0)])))
(.sT ((isK 1 [.n, .n, .n, .n, .n, .n] (op_23r [.l TB (gl TB (dOf (op_9p [.n n0, .n n1, .n n2, .n n3, .n n4, .l TC l5])) 0)])))
(.pa [1]
(.sF ((decide ((↑(List.length (gl TB (dOf (op_9p [.n n0, .n n1, .n n2, .n n3, .n n4, .l TC l5])) 0)) : Int) > (0 : Int))))
(.pa [0,1,0]
(.sT ((isK 0 [.l TB] (op_10p [.n n6, .n n7, .n n8, .n n9, .n n10])))
(.pa [1]
(.sT ((isK 0 [.n, .n, .n, .n, .n, .n] (op_26r [.l TB (gl TB (dOf (op_10p [.n n6, .n n7, .n n8, .n n9, .n n10])) 0)])))
(.pa [1]
(.sF ((decide ((↑(List.length (gl TB (dOf (op_10p [.n n6, .n n7, .n n8, .n n9, .n n10])) 0)) : Int) > (0 : Int))))
(.pa [0,0]
(.sT ((isK 0 [.l TB] (op_11p [.n n11, .n n12, .n n13, .l TB l14, .n n15])))
(.pa [1]
(.sT ((isK 0 [.n, .n, .n, .l TB, .n, .n] (op_28r [.l TB (gl TB (dOf (op_11p [.n n11, .n n12, .n n13, .l TB l14, .n n15])) 0)])))
(.pa [1]
(.sF ((gn (dOf (op_28r [.l TB (gl TB (dOf (op_11p [.n n11, .n n12, .n n13, .l TB l14, .n n15])) 0)])) 5 != (0 : Int)))
(.sF ((!(gn (dOf (op_28r [.l TB (gl TB (dOf (op_11p [.n n11, .n n12, .n n13, .l TB l14, .n n15])) 0)])) 0 == n11 && (gn (dOf (op_28r [.l TB (gl TB (dOf (op_11p [.n n11, .n n12, .n n13, .l TB l14, .n n15])) 0)])) 1 == n12 && (gn (dOf (op_28r [.l TB (gl TB (dOf (op_11p [.n n11, .n n12, .n n13, .l TB l14, .n n15])) 0)])) 2 == n13 && (eqL TB (gl TB (dOf (op_28r [.l TB (gl TB (dOf (op_11p [.n n11, .n n12, .n n13, .l TB l14, .n n15])) 0)])) 3) l14 && (gn (dOf (op_28r [.l TB (gl TB (dOf (op_11p [.n n11, .n n12, .n n13, .l TB l14, .n n15])) 0)])) 4 == n15 && true)))))))
(.sT ((isK 0 [.n] (op_35r [.l TB (gl TB (dOf (op_11p [.n n11, .n n12, .n n13, .l TB l14, .n n15])) 0)])))
(.pa [1]
(.sF ((gn (dOf (op_35r [.l TB (gl TB (dOf (op_11p [.n n11, .n n12, .n n13, .l TB l14, .n n15])) 0)])) 0 != (3 : Int)))
(.sT ((isK 0 [.l TB] (op_12p [.n n16, .n n17, .n n18, .n n19, .n n20, .l TB l21, .n n22])))
(.pa [1]
(.sT ((isK 0 [.n, .n, .n, .n, .n, .l TB, .n, .n] (op_30r [.l TB (gl TB (dOf (op_12p [.n n16, .n n17, .n n18, .n n19, .n n20, .l TB l21, .n n22])) 0)])))
(.pa [1]
(.sF ((decide ((↑(List.length (gl TB (dOf (op_12p [.n n16, .n n17, .n n18, .n n19, .n n20, .l TB l21, .n n22])) 0)) : Int) > (0 : Int))))
(.pa [0,0]
(.sT ((isK 0 [.l TB] (op_13p [.n n23, .n n24, .n n25, .n n26, .l TB l27])))
(.pa [1]
(.sF ((isK 0 [.n, .n, .n, .n, .n, .l TB] (op_32r [.l TB (gl TB (dOf (op_13p [.n n23, .n n24, .n n25, .n n26, .l TB l27])) 0)])))
(.sT ((isK 1 [.n, .n, .n, .n, .n] (op_32r [.l TB (gl TB (dOf (op_13p [.n n23, .n n24, .n n25, .n n26, .l TB l27])) 0)])))
(.pa [1]
(.sF ((decide ((↑(List.length (gl TB (dOf (op_13p [.n n23, .n n24, .n n25, .n n26, .l TB l27])) 0)) : Int) > (0 : Int))))
(.pa [0,1,0]
(.sT ((isK 0 [.b] (op_37r [.l TB l28])))
(.pa [1]
(.sT ((gb (dOf (op_37r [.l TB l28])) 0))
(.pa [1,1,1]
.lf))))))))))))))))))))))))))))))))))))))))))))

noncomputable def fn_W5_x : List Dat → Tree Bool
 | [.n n0, .n n1, .n n2, .n n3, .n n4, .l (Ty.pair (Ty.int IntKind.u8) (Ty.int IntKind.i64)) l5, .n n6, .n n7, .n n8, .n n9, .n n10, .n n11, .n n12, .n n13, .l (Ty.int IntKind.u8) l14, .n n15, .n n16, .n n17, .n n18, .n n19, .n n20, .l (Ty.int IntKind.u8) l21, .n n22, .n n23, .n n24, .n n25, .n n26, .l (Ty.int IntKind.u8) l27, .l (Ty.int IntKind.u8) l28] =>
 (.leaf (true))
 | _ => .bad 0
theorem fn_W5_x_im (n0 : Int) (n1 : Int) (n2 : Int) (n3 : Int) (n4 : Int) (l5 : List (Ty.den TC)) (n6 : Int) (n7 : Int) (n8 : Int) (n9 : Int) (n10 : Int) (n11 : Int) (n12 : Int) (n13 : Int) (l14 : List (Ty.den TB)) (n15 : Int) (n16 : Int) (n17 : Int) (n18 : Int) (n19 : Int) (n20 : Int) (l21 : List (Ty.den TB)) (n22 : Int) (n23 : Int) (n24 : Int) (n25 : Int) (n26 : Int) (l27 : List (Ty.den TB)) (l28 : List (Ty.den TB)) (g0 : l14.length = 64) (g1 :  l21.length = 64) (g2 :  (l5.length : Int) > 1000) : Imp (fn_W5_x [.n n0, .n n1, .n n2, .n n3, .n n4, .l TC l5, .n n6, .n n7, .n n8, .n n9, .n n10, .n n11, .n n12, .n n13, .l TB l14, .n n15, .n n16, .n n17, .n n18, .n n19, .n n20, .l TB l21, .n n22, .n n23, .n n24, .n n25, .n n26, .l TB l27, .l TB l28]) (ev_W5 [.n n0, .n n1, .n n2, .n n3, .n n4, .l TC l5, .n n6, .n n7, .n n8, .n n9, .n n10, .n n11, .n n12, .n n13, .l TB l14, .n n15, .n n16, .n n17, .n n18, .n n19, .n n20, .l TB l21, .n n22, .n n23, .n n24, .n n25, .n n26, .l TB l27, .l TB l28]) :=
(.pa [1]
(.sF ((decide ((↑(List.length l5) : Int) ≤ (1000 : Int))))
(.pa [0,1,1,1,1,1,1,1]
.lf)))

noncomputable def fn_W5_y : List Dat → Tree Bool
 | [.n n0, .n n1, .n n2, .n n3, .n n4, .l (Ty.pair (Ty.int IntKind.u8) (Ty.int IntKind.i64)) l5, .n n6, .n n7, .n n8, .n n9, .n n10, .n n11, .n n12, .n n13, .l (Ty.int IntKind.u8) l14, .n n15, .n n16, .n n17, .n n18, .n n19, .n n20, .l (Ty.int IntKind.u8) l21, .n n22, .n n23, .n n24, .n n25, .n n26, .l (Ty.int IntKind.u8) l27, .l (Ty.int IntKind.u8) l28] =>
 (.leaf (true))
 | _ => .bad 0
theorem fn_W5_y_im (n0 : Int) (n1 : Int) (n2 : Int) (n3 : Int) (n4 : Int) (l5 : List (Ty.den TC)) (n6 : Int) (n7 : Int) (n8 : Int) (n9 : Int) (n10 : Int) (n11 : Int) (n12 : Int) (n13 : Int) (l14 : List (Ty.den TB)) (n15 : Int) (n16 : Int) (n17 : Int) (n18 : Int) (n19 : Int) (n20 : Int) (l21 : List (Ty.den TB)) (n22 : Int) (n23 : Int) (n24 : Int) (n25 : Int) (n26 : Int) (l27 : List (Ty.den TB)) (l28 : List (Ty.den TB)) (g0 : l14.length = 64) (g1 :  l21.length = 64) (g2 :  (l5.length : Int) ≤ 1000) (g3 :  (l27.length : Int) > 5000) : Imp (fn_W5_y [.n n0, .n n1, .n n2, .n n3, .n n4, .l TC l5, .n n6, .n n7, .n n8, .n n9, .n n10, .n n11, .n n12, .n n13, .l TB l14, .n n15, .n n16, .n n17, .n n18, .n n19, .n n20, .l TB l21, .n n22, .n n23, .n n24, .n n25, .n n26, .l TB l27, .l TB l28]) (ev_W5 [.n n0, .n n1, .n n2, .n n3, .n n4, .l TC l5, .n n6, .n n7, .n n8, .n n9, .n n10, .n n11, .n n12, .n n13, .l TB l14, .n n15, .n n16, .n n17, .n n18, .n n19, .n n20, .l TB l21, .n n22, .n n23, .n n24, .n n25, .n n26, .l TB l27, .l TB l28]) :=
(.pa [1]
(.sT ((decide ((↑(List.length l5) : Int) ≤ (1000 : Int))))
(.pa [1]
(.sT ((!decide ((↑(List.length l27) : Int) ≤ (5000 : Int))))
(.pa [1,1,1,1,1]
.lf)))))

noncomputable def fn_W5_z : List Dat → Tree Bool
 | [.n n0, .n n1, .n n2, .n n3, .n n4, .l (Ty.pair (Ty.int IntKind.u8) (Ty.int IntKind.i64)) l5, .n n6, .n n7, .n n8, .n n9, .n n10, .n n11, .n n12, .n n13, .l (Ty.int IntKind.u8) l14, .n n15, .n n16, .n n17, .n n18, .n n19, .n n20, .l (Ty.int IntKind.u8) l21, .n n22, .n n23, .n n24, .n n25, .n n26, .l (Ty.int IntKind.u8) l27, .l (Ty.int IntKind.u8) l28] =>
 (.leaf (true))
 | _ => .bad 0
theorem fn_W5_z_im (n0 : Int) (n1 : Int) (n2 : Int) (n3 : Int) (n4 : Int) (l5 : List (Ty.den TC)) (n6 : Int) (n7 : Int) (n8 : Int) (n9 : Int) (n10 : Int) (n11 : Int) (n12 : Int) (n13 : Int) (l14 : List (Ty.den TB)) (n15 : Int) (n16 : Int) (n17 : Int) (n18 : Int) (n19 : Int) (n20 : Int) (l21 : List (Ty.den TB)) (n22 : Int) (n23 : Int) (n24 : Int) (n25 : Int) (n26 : Int) (l27 : List (Ty.den TB)) (l28 : List (Ty.den TB)) (g0 : l14.length = 64) (g1 :  l21.length = 64) (g2 :  (l5.length : Int) ≤ 1000) (g3 :  (l27.length : Int) ≤ 5000) (g4 :  (l28.length : Int) > 3000) : Imp (fn_W5_z [.n n0, .n n1, .n n2, .n n3, .n n4, .l TC l5, .n n6, .n n7, .n n8, .n n9, .n n10, .n n11, .n n12, .n n13, .l TB l14, .n n15, .n n16, .n n17, .n n18, .n n19, .n n20, .l TB l21, .n n22, .n n23, .n n24, .n n25, .n n26, .l TB l27, .l TB l28]) (ev_W5 [.n n0, .n n1, .n n2, .n n3, .n n4, .l TC l5, .n n6, .n n7, .n n8, .n n9, .n n10, .n n11, .n n12, .n n13, .l TB l14, .n n15, .n n16, .n n17, .n n18, .n n19, .n n20, .l TB l21, .n n22, .n n23, .n n24, .n n25, .n n26, .l TB l27, .l TB l28]) :=
(.pa [1]
(.sT ((decide ((↑(List.length l5) : Int) ≤ (1000 : Int))))
(.pa [1]
(.sF ((!decide ((↑(List.length l27) : Int) ≤ (5000 : Int))))
(.sT ((decide ((↑(List.length l28) : Int) > (3000 : Int))))
(.pa [1,1,1]
.lf))))))
end Go.Proofs.Ytlambinleegdoaa.Vx
