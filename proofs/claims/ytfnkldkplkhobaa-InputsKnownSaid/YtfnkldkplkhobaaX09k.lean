import Derived.Test.YtfnkldkplkhobaaVxIm
import Derived.Test.YtfnkldkplkhobaaVxLk
import Derived.Test.YtfnkldkplkhobaaVxLaw
import Derived.Test.YtfnkldkplkhobaaY09mk
import Derived.Test.YtfnkldkplkhobaaY09sk
import Derived.KernelRfl
namespace Go.Proofs.Ytfnkldkplkhobaa.Vx
open Go Go.RowKit
set_option linter.unusedVariables false
set_option linter.unusedSimpArgs false
set_option maxRecDepth 100000
set_option maxHeartbeats 0

abbrev TCmd : Ty := .pair (.int .u8) (.int .i64)
abbrev TPt : Ty := .pair .str (.int .i64)
abbrev TNd : Ty := .pair (.int .i64) .bool
abbrev TRt : Ty := .pair .str (.pair (.int .i64) (.pair (.sl (.int .i64)) (.pair (.sl TNd) (.pair (.sl (.int .i64)) (.sl TNd)))))
def inV (h : Nat) : PV := .agg [.int .u64 h, .int .u32 (h+1), .int .u32 (h+2), .imm TCmd (h+3)]
def inO (h b : Nat) : PV := .agg [.int .u64 h, .int .u32 (h+1), .int .u32 (h+2), .own b]
def inB (h : Nat) : PB := .cells [.int .u64 h, .int .u32 (h+1), .int .u32 (h+2), .imm TCmd (h+3)]
def inC (h b : Nat) : PB := .cells [.int .u64 h, .int .u32 (h+1), .int .u32 (h+2), .own b]
def laV (h : Nat) : PV := .agg [.imm .str h, .imm TPt (h+1), .imm TPt (h+2), .imm TRt (h+3)]
def laB (h : Nat) : PB := .cells [.imm .str h, .imm TPt (h+1), .imm TPt (h+2), .imm TRt (h+3)]

abbrev TLa : Ty := .pair (.sl .str) (.pair (.sl TPt) (.pair (.sl TPt) (.sl TRt)))
abbrev TIn : Ty := .pair (.int .u64) (.pair (.int .u32) (.pair (.int .u32) (.sl TCmd)))
def mkLa (d : List Dat) (h : Nat) : Ty.den TLa := (gl .str d h, gl TPt d (h+1), gl TPt d (h+2), gl TRt d (h+3))
def mkIn (d : List Dat) (h : Nat) : Ty.den TIn := (gn d h, gn d (h+1), gn d (h+2), gl TCmd d (h+3))
theorem hmix : Try.prog.follows .mixedOrders = true := by kernel_rfl
theorem csNone_ok0 : CsOk Try.prog csNone := csNone_ok _

def op_9 : List Dat → Option (Nat × List Dat) := fun _ => some (0, [.b true])
def B9 : FBox := mkF [] [] [] [(.bool 0, [])] op_9
theorem fn_9_ok (env : List Dat) (y : Nat × List Dat) (h : op_9 env = some y) : (boxC true Try.prog csNone 9 ls0 (mkF [] [] [] [(.bool 0, [])] fun _ => none) env).sel = some y := by
  cases h
  rw [← boxC_lk]
  kernel_rfl
theorem B9_ok : RunOk Try.prog 9 (boxRun B9) := mkF_ok (op := op_9) csNone_ok0 hmix true (LsOk.none _ _ _) fn_9_ok

noncomputable def cs_9 : FuncId → Option CSpec := csAdd 9 [B9] csNone
theorem cs_9_ok : CsOk Try.prog cs_9 := csAdd_ok csNone_ok0 fun B hB => by
  cases List.mem_singleton.1 hB
  exact B9_ok

noncomputable def op_3 : List Dat → Option (Nat × List Dat) := lawOpP [.l .str, .l TPt, .l TPt, .l TRt, .n, .n, .n, .l TCmd] (fun d => wfD TLa (mkLa d 0) && wfD TIn (mkIn d 4))
noncomputable def B3 : FBox := mkF [laV 0, inV 4] [] [] [(.bool 0, [])] op_3
noncomputable def cs_3 : FuncId → Option CSpec := csLend 3 B3 cs_9
theorem B3_ok : RunOk Try.prog 3 (boxRun B3) := lawBox_ok (op := op_3) Mg.cs_34_ok hmix false (ls := ls0) (LsOk.none _ _ _) fun env x he => by
  obtain ⟨rfl, h, hp⟩ := lawOpP_some he
  refine ⟨rfl, ?_⟩
  obtain ⟨x0, _, rfl, h0⟩ := fits_l h
  obtain ⟨x1, _, rfl, h1⟩ := fits_l h0
  obtain ⟨x2, _, rfl, h2⟩ := fits_l h1
  obtain ⟨x3, _, rfl, h3⟩ := fits_l h2
  obtain ⟨x4, _, rfl, h4⟩ := fits_n h3
  obtain ⟨x5, _, rfl, h5⟩ := fits_n h4
  obtain ⟨x6, _, rfl, h6⟩ := fits_n h5
  obtain ⟨x7, _, rfl, h7⟩ := fits_l h6
  cases fits_nil h7
  rw [Bool.and_eq_true] at hp
  exact (Mg.fn_W9_eq _ _ _ _ _ _ _ _).trans (Mg.t9' hp.1 hp.2)
theorem cs_3_ok : CsOk Try.prog cs_3 := csLend_ok cs_9_ok B3_ok

noncomputable def op_4 : List Dat → Option (Nat × List Dat) := lawOp [.n, .n, .n, .l TCmd, .n, .n, .n, .l TCmd]
noncomputable def B4 : FBox := mkF [inV 0, inV 4] [] [] [(.bool 0, [])] op_4
noncomputable def cs_4 : FuncId → Option CSpec := csLend 4 B4 cs_3
theorem B4_ok : RunOk Try.prog 4 (boxRun B4) := lawBox_ok (op := op_4) Mg.cs_34_ok hmix false (ls := (lsM [(8, Mg.L8_8)] (0))) Mg.ls_8_ok fun env x he => by
  obtain ⟨rfl, h⟩ := lawOp_some he
  refine ⟨rfl, ?_⟩
  obtain ⟨x0, _, rfl, h0⟩ := fits_n h
  obtain ⟨x1, _, rfl, h1⟩ := fits_n h0
  obtain ⟨x2, _, rfl, h2⟩ := fits_n h1
  obtain ⟨x3, _, rfl, h3⟩ := fits_l h2
  obtain ⟨x4, _, rfl, h4⟩ := fits_n h3
  obtain ⟨x5, _, rfl, h5⟩ := fits_n h4
  obtain ⟨x6, _, rfl, h6⟩ := fits_n h5
  obtain ⟨x7, _, rfl, h7⟩ := fits_l h6
  cases fits_nil h7
  exact (Mg.fn_W8_eq _ _ _ _ _ _ _ _).trans (Mg.t8 _ _ _ _ _ _ _ _)
theorem cs_4_ok : CsOk Try.prog cs_4 := csLend_ok cs_3_ok B4_ok

noncomputable def op_7 : List Dat → Option (Nat × List Dat) := lawOpP [.l .str, .l TPt, .l TPt, .l TRt, .n, .n, .n, .l TCmd, .n, .n, .n, .l TCmd] (fun d => wfD TIn (mkIn d 4) && wfD TIn (mkIn d 8))
noncomputable def B7 : FBox := mkF [laV 0, inV 4, inV 8] [] [] [(.bool 0, [])] op_7
noncomputable def cs_7 : FuncId → Option CSpec := csLend 7 B7 cs_4
theorem B7_ok : RunOk Try.prog 7 (boxRun B7) := lawBox_ok (op := op_7) Mg.cs_34_ok hmix false (ls := ls0) (LsOk.none _ _ _) fun env x he => by
  obtain ⟨rfl, h, hp⟩ := lawOpP_some he
  refine ⟨rfl, ?_⟩
  obtain ⟨x0, _, rfl, h0⟩ := fits_l h
  obtain ⟨x1, _, rfl, h1⟩ := fits_l h0
  obtain ⟨x2, _, rfl, h2⟩ := fits_l h1
  obtain ⟨x3, _, rfl, h3⟩ := fits_l h2
  obtain ⟨x4, _, rfl, h4⟩ := fits_n h3
  obtain ⟨x5, _, rfl, h5⟩ := fits_n h4
  obtain ⟨x6, _, rfl, h6⟩ := fits_n h5
  obtain ⟨x7, _, rfl, h7⟩ := fits_l h6
  obtain ⟨x8, _, rfl, h8⟩ := fits_n h7
  obtain ⟨x9, _, rfl, h9⟩ := fits_n h8
  obtain ⟨x10, _, rfl, h10⟩ := fits_n h9
  obtain ⟨x11, _, rfl, h11⟩ := fits_l h10
  cases fits_nil h11
  rw [Bool.and_eq_true] at hp
  exact (Mg.fn_W10_eq _ _ _ _ _ _ _ _ _ _ _ _).trans (Mg.t10' (l := (x0, x1, x2, x3)) hp.1 hp.2)
theorem cs_7_ok : CsOk Try.prog cs_7 := csLend_ok cs_4_ok B7_ok

noncomputable def op_5 : List Dat → Option (Nat × List Dat) := lawOp [.n, .n]
noncomputable def B5 : FBox := mkF [.int .u32 0, .int .u32 1] [] [] [(.bool 0, [])] op_5
noncomputable def cs_5 : FuncId → Option CSpec := csLend 5 B5 cs_7
theorem B5_ok : RunOk Try.prog 5 (boxRun B5) := lawBox_ok (op := op_5) Sa.cs_30_ok hmix false (ls := ls0) (LsOk.none _ _ _) fun env x he => by
  obtain ⟨rfl, h⟩ := lawOp_some he
  refine ⟨rfl, ?_⟩
  obtain ⟨x0, _, rfl, h0⟩ := fits_n h
  obtain ⟨x1, _, rfl, h1⟩ := fits_n h0
  cases fits_nil h1
  exact (Sa.fn_W6_eq _ _).trans (Sa.t6 _ _)
theorem cs_5_ok : CsOk Try.prog cs_5 := csLend_ok cs_7_ok B5_ok

noncomputable def op_6 : List Dat → Option (Nat × List Dat) := lawOpP [.n, .n, .n, .l TCmd, .n, .n, .n, .l TCmd] (fun d => decide ((gl TCmd d 3).length ≤ 9223372036854775807) && decide ((gl TCmd d 7).length ≤ 9223372036854775807))
noncomputable def B6 : FBox := mkF [inV 0, inV 4] [] [] [(.bool 0, [])] op_6
noncomputable def cs_6 : FuncId → Option CSpec := csLend 6 B6 cs_5
theorem B6_ok : RunOk Try.prog 6 (boxRun B6) := lawBox_ok (op := op_6) Sa.cs_30_ok hmix false (ls := ls0) (LsOk.none _ _ _) fun env x he => by
  obtain ⟨rfl, h, hp⟩ := lawOpP_some he
  refine ⟨rfl, ?_⟩
  obtain ⟨x0, _, rfl, h0⟩ := fits_n h
  obtain ⟨x1, _, rfl, h1⟩ := fits_n h0
  obtain ⟨x2, _, rfl, h2⟩ := fits_n h1
  obtain ⟨x3, _, rfl, h3⟩ := fits_l h2
  obtain ⟨x4, _, rfl, h4⟩ := fits_n h3
  obtain ⟨x5, _, rfl, h5⟩ := fits_n h4
  obtain ⟨x6, _, rfl, h6⟩ := fits_n h5
  obtain ⟨x7, _, rfl, h7⟩ := fits_l h6
  cases fits_nil h7
  rw [Bool.and_eq_true] at hp
  exact (Sa.fn_W7_eq _ _ _ _ _ _ _ _).trans (Sa.t7 _ _ _ _ _ _ _ _ (of_decide_eq_true hp.1) (of_decide_eq_true hp.2))
theorem cs_6_ok : CsOk Try.prog cs_6 := csLend_ok cs_5_ok B6_ok

noncomputable def ev_W8 (env : List Dat) : Tree Bool := Lk.lawB false LK cs_6 8 ls0 (instL [] env)

theorem W8_law (env : List Dat) (h : (ev_W8 env).sel = some true) {w : World} {args : Array Value} (ha : LRel R0 (snapOf w) (instL [] env) args) :
    Calls Try.prog 8 args w fun e w' => e = .returned (.bool true) ∧ Below w.heap.size w w' :=
  lawB_ok cs_6_ok hmix false (ls := ls0) (LsOk.none _ _ _) (by rw [← lawB_lk]; exact h) ha

noncomputable def fn_W8_t : List Dat → Tree Bool
  | [] =>
    (.leaf (true))
  | _ => .bad 0
theorem fn_W8_t_im  : Imp (fn_W8_t []) (ev_W8 []) :=
(.path (1 ::1 ::1 ::1 ::1 ::1 ::1 ::1 ::1 ::1 ::1 ::1 ::1 ::1 ::1 ::0 ::1 ::1 ::0 ::1 ::1 ::0 ::1 ::1 ::0 ::1 ::1 ::0 ::1 ::1 ::0 ::1 ::1 ::0 ::1 ::1 ::0 ::1 ::1 ::0 ::1 ::1 ::1 ::1 ::0 ::1 ::1 ::0 ::1 ::1 ::0 ::1 ::1 ::0 ::1 ::1 ::0 ::1 ::1 ::0 ::1 ::1 ::0 ::1 ::1 ::0 ::1 ::1 ::0 ::1 ::1 ::1 ::1 ::0 ::1 ::1 ::0 ::1 ::1 ::0 ::1 ::1 ::0 ::1 ::1 ::0 ::1 ::1 ::0 ::1 ::1 ::0 ::1 ::1 ::0 ::1 ::1 ::0 ::1 ::1 ::1 ::1 ::0 ::1 ::1 ::0 ::1 ::1 ::0 ::1 ::1 ::0 ::1 ::1 ::0 ::1 ::1 ::0 ::1 ::1 ::0 ::1 ::1 ::0 ::1 ::1 ::0 ::1 ::1 ::1 ::1 ::0 ::1 ::1 ::0 ::1 ::1 ::0 ::1 ::1 ::0 ::1 ::1 ::0 ::1 ::1 ::0 ::1 ::1 ::0 ::1 ::1 ::0 ::1 ::1 ::0 ::1 ::1 ::1 ::1 ::0 ::1 ::1 ::0 ::1 ::1 ::0 ::1 ::1 ::0 ::1 ::1 ::0 ::1 ::1 ::0 ::1 ::1 ::0 ::1 ::1 ::0 ::1 ::1 ::0 ::1 ::1 ::1 ::1 ::0 ::1 ::1 ::0 ::1 ::1 ::0 ::1 ::1 ::0 ::1 ::1 ::0 ::1 ::1 ::0 ::1 ::1 ::0 ::1 ::1 ::0 ::1 ::1 ::0 ::1 ::1 ::1 ::1 ::0 ::1 ::1 ::0 ::1 ::1 ::0 ::1 ::1 ::0 ::1 ::1 ::0 ::1 ::1 ::0 ::1 ::1 ::0 ::1 ::1 ::0 ::1 ::1 ::0 ::1 ::1 ::1 ::1 ::0 ::1 ::1 ::0 ::1 ::1 ::0 ::1 ::1 ::0 ::1 ::1 ::0 ::1 ::1 ::0 ::1 ::1 ::0 ::1 ::1 ::0 ::1 ::1 ::0 ::1 ::1 ::1 ::1 ::0 ::1 ::1 ::0 ::1 ::1 ::0 ::1 ::1 ::0 ::1 ::1 ::0 ::1 ::1 ::0 ::1 ::1 ::0 ::1 ::1 ::0 ::1 ::1 ::0 ::1 ::1 ::1 ::1 ::0 ::1 ::1 ::0 ::1 ::1 ::0 ::1 ::1 ::0 ::1 ::1 ::0 ::1 ::1 ::0 ::1 ::1 ::0 ::1 ::1 ::0 ::1 ::1 ::0 ::1 ::1 ::1 ::1 ::0 ::1 ::1 ::0 ::1 ::1 ::0 ::1 ::1 ::0 ::1 ::1 ::0 ::1 ::1 ::0 ::1 ::1 ::0 ::1 ::1 ::0 ::1 ::1 ::0 ::1 ::1 ::1 ::1 ::0 ::1 ::1 ::0 ::1 ::1 ::0 ::1 ::1 ::0 ::1 ::1 ::0 ::1 ::1 ::0 ::1 ::1 ::0 ::1 ::1 ::0 ::1 ::1 ::0 ::1 ::1 ::1 ::1 ::0 ::1 ::1 ::0 ::1 ::1 ::0 ::1 ::1 ::0 ::1 ::1 ::0 ::1 ::1 ::0 ::1 ::1 ::0 ::1 ::1 ::0 ::1 ::1 ::0 ::1 ::1 ::1 ::1 ::0 ::1 ::1 ::0 ::1 ::1 ::0 ::1 ::1 ::0 ::1 ::1 ::0 ::1 ::1 ::0 ::1 ::1 ::0 ::1 ::1 ::0 ::1 ::1 ::0 ::1 ::1 ::1 ::1 ::0 ::1 ::1 ::0 ::1 ::1 ::0 ::1 ::1 ::0 ::1 ::1 ::0 ::1 ::1 ::0 ::1 ::1 ::0 ::1 ::1 ::0 ::1 ::1 ::0 ::1 ::1 ::1 ::1 ::0 ::1 ::1 ::0 ::1 ::1 ::0 ::1 ::1 ::0 ::1 ::1 ::0 ::1 ::1 ::0 ::1 ::1 ::0 ::1 ::1 ::0 ::1 ::1 ::0 ::0 ::1 ::1 ::1 ::1 ::1 ::1 ::1 ::1 ::1 ::1 ::1 ::1 ::1 ::1 ::1 ::1 ::1 ::1 ::1 ::1 ::1 ::1 ::1 ::1 ::1 ::1 ::1 ::0 ::1 ::1 ::1 ::1 ::1 ::1 ::1 ::1 ::1 ::1 ::1 ::1 ::1 ::1 ::1 ::1 ::1 ::1 :: []) (by kernel_rfl)
(.leaf (by kernel_rfl)))
end Go.Proofs.Ytfnkldkplkhobaa.Vx
