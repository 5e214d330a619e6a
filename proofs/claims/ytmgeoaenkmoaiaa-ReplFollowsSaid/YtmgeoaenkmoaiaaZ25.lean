import Derived.Test.YtmgeoaenkmoaiaaVxIm
import Derived.Test.YtmgeoaenkmoaiaaVxLk
import Derived.Test.YtmgeoaenkmoaiaaVxLaw
import Derived.KernelRfl
import Derived.Shelf.RegionOpenPlain
import Derived.WalkKit
import Derived.OwnWalk
import Derived.Deep.LoopGhost
import Derived.Deep.RegionLaw
import Derived.Lib.Walk
import Derived.Lib.SliceRun
import Derived.Lib.SlicesDelete
import Derived.Test.YtmgeoaenkmoaiaaProg
import Derived.Test.YtmgeoaenkmoaiaaVxDel
import Derived.Test.YtmgeoaenkmoaiaaVxAsk
noncomputable section
namespace Go.Proofs.Ytmgeoaenkmoaiaa.Vx
open Go Go.RowKit
set_option linter.unusedVariables false
set_option linter.unusedSimpArgs false
set_option maxRecDepth 100000
set_option maxHeartbeats 0
theorem hmix:Try.prog.follows .mixedOrders=true:=by kernel_rfl
theorem v0d:CsOk Try.prog h0b:=d1h _
def u3k:List Dat→Option (Nat×List Dat):=fun _=>some (0,[.b true])
def B20:FBox:=mkF [] [] [] [(.bool 0,[])] u3k
theorem a4f (env:List Dat)(y:Nat×List Dat)(h:u3k env=some y):(boxC true Try.prog h0b 8 ls0 (mkF [] [] [] [(.bool 0,[])] fun _=>none) env).sel=some y:=by
 cases h
 rw[←boxC_lk]
 kernel_rfl
theorem B20_ok:a0v Try.prog 8 (a0j B20):=a0p (op:=u3k) v0d hmix true (LsOk.none _ _ _) a4f
def a4i:FuncId→Option a0q:=e1c 8 [B20] h0b
theorem s3b:CsOk Try.prog a4i:=h0a v0d fun B hB=>by
 cases List.mem_singleton.1 hB
 exact B20_ok
abbrev TB:Ty:=.int .u8
abbrev TTm:Ty:=.pair (.int .i64) (.int .u8)
def stV (h:Nat):PV:=.agg [.int .u64 h,.int .u64 (h+1),.int .u64 (h+2),.arrd TB 64 (h+3),.int .u32 (h+4)]
def stB (h:Nat):PB:=.cells [.int .u64 h,.int .u64 (h+1),.int .u64 (h+2),.arrd TB 64 (h+3),.int .u32 (h+4)]
def dlV (h:Nat)(t:PV):PV:=.agg [.int .u64 h,.int .u64 (h+1),.int .u64 (h+2),.int .u32 (h+3),t]
def dlB (h:Nat)(t:PV):PB:=.cells [.int .u64 h,.int .u64 (h+1),.int .u64 (h+2),.int .u32 (h+3),t]
def msV (h:Nat)(t:PV):PV:=.agg [.int .u8 h,.int .i64 (h+1),.int .i64 (h+2),.int .i64 (h+3),.int .i64 (h+4),.int .u64 (h+5),.int .u64 (h+6),.int .u64 (h+7),.arrd TB 64 (h+8),.int .u32 (h+9),.int .u64 (h+10),.int .u64 (h+11),.int .u64 (h+12),.int .u32 (h+13),t]
def msB (h:Nat)(t:PV):PB:=.cells [.int .u8 h,.int .i64 (h+1),.int .i64 (h+2),.int .i64 (h+3),.int .i64 (h+4),.int .u64 (h+5),.int .u64 (h+6),.int .u64 (h+7),.arrd TB 64 (h+8),.int .u32 (h+9),.int .u64 (h+10),.int .u64 (h+11),.int .u64 (h+12),.int .u32 (h+13),t]
def tm_1 (l:List (Ty.den TTm))(i:Int):Int:=Prod.fst (List.getD l (Int.toNat i) (Ty.dflt TTm))
def tm_2 (l:List (Ty.den TTm))(i:Int):Int:=Prod.snd (List.getD l (Int.toNat i) (Ty.dflt TTm))
def e4t (env:List Dat):Tree Step:=Lk.stepMC false LK a4i 44 3 ls0 (mkM 0 [] [(sh 24 [(3,.int .i64 0),(6,.imm TTm 1),(7,.int .i64 2),(8,.int .i64 3)],[])] [] [(.exit 0,sh 24 [],[]),(.ret,sh 24 [(2,.bool 0)],[])] fun _=>none) env
theorem g4w: ∃f:List Dat→Option (Nat×List Dat),∀env,f env=a0b e4t FU env:=⟨a0b e4t FU,fun _=>rfl⟩
def g4a:List Dat→Option (Nat×List Dat):=Classical.choose g4w
theorem g4x (env:List Dat):g4a env=a0b e4t FU env:=Classical.choose_spec g4w env
def t4c:MBox:=mkM 0 [] [(sh 24 [(3,.int .i64 0),(6,.imm TTm 1),(7,.int .i64 2),(8,.int .i64 3)],[])] [] [(.exit 0,sh 24 [],[]),(.ret,sh 24 [(2,.bool 0)],[])] g4a
theorem n4a:t4c=mkM 0 [] [(sh 24 [(3,.int .i64 0),(6,.imm TTm 1),(7,.int .i64 2),(8,.int .i64 3)],[])] [] [(.exit 0,sh 24 [],[]),(.ret,sh 24 [(2,.bool 0)],[])] (a0b e4t FU):=congrArg (fun f=>mkM 0 [] [(sh 24 [(3,.int .i64 0),(6,.imm TTm 1),(7,.int .i64 2),(8,.int .i64 3)],[])] [] [(.exit 0,sh 24 [],[]),(.ret,sh 24 [(2,.bool 0)],[])] f) (funext g4x)
theorem l4u: ∀t s x,(a0h t4c t s).sel=some x→a0k Try.prog 0 (.loop (cAt Try.prog 44 3)) t s x:=by
 rw[n4a]
 exact a0o (st:=e4t) (m:=FU) s3b hmix false (LsOk.none _ _ _) (by kernel_rfl) (fun env y h=>by rw[←stepMC_lk];exact h)
def e4n:List Dat→Tree Step
 |[.n n0,.l (Ty.pair (Ty.int IntKind.i64) (Ty.int IntKind.u8)) l1,.n n2,.n n3]=>
  (.node (decide (n3<n2))
   (.node (decide ((tm_1 l1 n3:Int)≤n0))
   (.leaf (Step.stop 1 [.b false]))
   (.node (decide ((tm_1 l1 n3:Int)≥(64:Int)))
    (.leaf (Step.stop 1 [.b false]))
    (.leaf (Step.go [.k 0,.n (tm_1 l1 n3),.l TTm l1,.n n2,.n (IntKind.wrap .i64 (n3+(1:Int)))]))))
   (.leaf (Step.stop 0 [])))
 |_=>.bad 0
theorem e4g (n0:Int)(l1:List (Ty.den TTm))(n2:Int)(n3:Int)(g0:0≤n3)(g1:n2=(l1.length:Int)):Imp (e4n [.n n0,.l TTm l1,.n n2,.n n3]) (e4t [.k 0,.n n0,.l TTm l1,.n n2,.n n3]):=
(.path [1] (by kernel_rfl)
(.node (by kernel_rfl) (by kernel_rfl) (fun h0=>
(.pt (c:=(inR n3 (List.length l1))) (by kernel_rfl) (by kernel_rfl) (by(simp only[w64d,decide_eq_true_eq,decide_eq_false_iff_not,beq_iff_eq,beq_eq_false_iff_ne,bne_iff_ne,ne_eq,inR,Bool.and_eq_true,Bool.and_eq_false_iff,Bool.not_eq_true',Bool.not_eq_false',Bool.not_eq_eq_eq_not,Bool.not_true,Bool.not_false]at*;omega))
(.node (by kernel_rfl) (by kernel_rfl) (fun h1=>
(.path [1,1,1] (by kernel_rfl)
(.leaf (by kernel_rfl)))) (fun h1=>
(.node (by kernel_rfl) (by kernel_rfl) (fun h2=>
(.path [1] (by kernel_rfl)
(.leaf (by kernel_rfl)))) (fun h2=>
(.path [1] (by kernel_rfl)
(.leaf (by kernel_rfl))))))))) (fun h0=>
(.path [1] (by kernel_rfl)
(.leaf (by kernel_rfl))))))
theorem s4u:LsOk Try.prog (List.length ([]:List PB)) (lsM [(3,t4c)] (List.length ([]:List PB))) (a0r Try.prog 44):=LsOk.many fun j B hB hk c hc hi=>by
 simp only[b0d]at hB
 split at hB
 ·rename_i e;have:=Nat.eq_of_beq_eq_true e;subst this;cases hB
  have e1:p0c Try.prog 44 3=[cAt Try.prog 44 3]:=a0e (by kernel_rfl)
  have e2:c∈p0c Try.prog 44 3:=a0d hc hi
  rw[e1]at e2;cases List.mem_singleton.1 e2;exact l4u
 cases hB
def q4w (env:List Dat):Tree (Nat×List Dat):=Lk.boxC false LK a4i 44 (lsM [(3,t4c)] (List.length ([]:List PB))) (mkF [.imm TTm 0] [] [] [(.bool 0,[])] fun _=>none) env
theorem j4f: ∃f:List Dat→Option (Nat×List Dat),∀env,f env=(q4w env).sel:=⟨fun env=>(q4w env).sel,fun _=>rfl⟩
def i4k:List Dat→Option (Nat×List Dat):=Classical.choose j4f
theorem j4g (env:List Dat):i4k env=(q4w env).sel:=Classical.choose_spec j4f env
def B86:FBox:=mkF [.imm TTm 0] [] [] [(.bool 0,[])] i4k
theorem B86_ok:a0v Try.prog 44 (a0j B86):=a0p (op:=i4k) s3b hmix false (s4u) (fun env x h=>by rw[j4g]at h;rw[←boxC_lk];exact h)
def o4i:List Dat→Tree (Nat×List Dat)
 |[.l (Ty.pair (Ty.int IntKind.i64) (Ty.int IntKind.u8)) l0]=>
  (let r1:Option (Nat×List Dat):=(g4a [.k 0,.n (-1:Int),.l TTm l0,.n (↑(List.length l0):Int),.n (0:Int)]);
   (.node (isK 0 [] r1)
   (.leaf ((0,[.b true])))
   (.node (isK 1 [HK.b] r1)
    (.leaf ((0,[.b (gb (dOf r1) 0)])))
    (.bad 351))))
 |_=>.bad 0
theorem k4y (l0:List (Ty.den TTm)):Imp (o4i [.l TTm l0]) (q4w [.l TTm l0]):=
(.node (by kernel_rfl) (by kernel_rfl) (fun h0=>
(.path [1] (by kernel_rfl)
(.leaf (by kernel_rfl)))) (fun h0=>
(.node (by kernel_rfl) (by kernel_rfl) (fun h1=>
(.path [1] (by kernel_rfl)
(.leaf (by kernel_rfl)))) (fun h1=>
.none))))
def r4b:FuncId→Option a0q:=a0s 44 B86 a4i
theorem h4g:CsOk Try.prog r4b:=a0g s3b B86_ok
def e4q (env:List Dat):Tree Step:=Lk.stepMC false LK r4b 45 2 ls0 (mkM 0 [] [(sh 42 [(0,.imm TTm 0),(3,.int .i64 1)],[])] [] [(.exit 0,sh 42 [],[]),(.ret,sh 42 [(2,.bool 0)],[])] fun _=>none) env
theorem h4a: ∃f:List Dat→Option (Nat×List Dat),∀env,f env=a0b e4q FU env:=⟨a0b e4q FU,fun _=>rfl⟩
def g4c:List Dat→Option (Nat×List Dat):=Classical.choose h4a
theorem g4g (env:List Dat):g4c env=a0b e4q FU env:=Classical.choose_spec h4a env
def q4i:MBox:=mkM 0 [] [(sh 42 [(0,.imm TTm 0),(3,.int .i64 1)],[])] [] [(.exit 0,sh 42 [],[]),(.ret,sh 42 [(2,.bool 0)],[])] g4c
theorem o4b:q4i=mkM 0 [] [(sh 42 [(0,.imm TTm 0),(3,.int .i64 1)],[])] [] [(.exit 0,sh 42 [],[]),(.ret,sh 42 [(2,.bool 0)],[])] (a0b e4q FU):=congrArg (fun f=>mkM 0 [] [(sh 42 [(0,.imm TTm 0),(3,.int .i64 1)],[])] [] [(.exit 0,sh 42 [],[]),(.ret,sh 42 [(2,.bool 0)],[])] f) (funext g4g)
theorem n4i: ∀t s x,(a0h q4i t s).sel=some x→a0k Try.prog 0 (.loop (cAt Try.prog 45 2)) t s x:=by
 rw[o4b]
 exact a0o (st:=e4q) (m:=FU) h4g hmix false (LsOk.none _ _ _) (by kernel_rfl) (fun env y h=>by rw[←stepMC_lk];exact h)
theorem q4z:LsOk Try.prog (List.length ([]:List PB)) (lsM [(2,q4i)] (List.length ([]:List PB))) (a0r Try.prog 45):=LsOk.many fun j B hB hk c hc hi=>by
 simp only[b0d]at hB
 split at hB
 ·rename_i e;have:=Nat.eq_of_beq_eq_true e;subst this;cases hB
  have e1:p0c Try.prog 45 2=[cAt Try.prog 45 2]:=a0e (by kernel_rfl)
  have e2:c∈p0c Try.prog 45 2:=a0d hc hi
  rw[e1]at e2;cases List.mem_singleton.1 e2;exact n4i
 cases hB
def ev_87 (env:List Dat):Tree (Nat×List Dat):=Lk.boxC false LK r4b 45 (lsM [(2,q4i)] (List.length ([]:List PB))) (mkF [.imm TTm 0] [] [] [(.bool 0,[])] fun _=>none) env
theorem j4h: ∃f:List Dat→Option (Nat×List Dat),∀env,f env=(ev_87 env).sel:=⟨fun env=>(ev_87 env).sel,fun _=>rfl⟩
def i4c:List Dat→Option (Nat×List Dat):=Classical.choose j4h
theorem j4v (env:List Dat):i4c env=(ev_87 env).sel:=Classical.choose_spec j4h env
def B87:FBox:=mkF [.imm TTm 0] [] [] [(.bool 0,[])] i4c
theorem B87_ok:a0v Try.prog 45 (a0j B87):=a0p (op:=i4c) h4g hmix false (q4z) (fun env x h=>by rw[j4v]at h;rw[←boxC_lk];exact h)
def q4y:FuncId→Option a0q:=a0s 45 B87 r4b
theorem h4h:CsOk Try.prog q4y:=a0g h4g B87_ok
def e4o (env:List Dat):Tree Step:=Lk.stepMC false LK q4y 18 3 ls0 (mkM (cv:=[(5,[],4,.own TTm)]) 0 [] [(sh 51 [(2,.ptr 0 0),(4,.ptr 1 0),(5,.ptr 2 0),(30,.agg [.arrd TB 64 0]),(31,.int .i64 1)],[stB 2,dlB 7 .nilsl,dlB 11 (.own 3),.arr TTm 15])] [] [(.exit 0,sh 51 [(4,.ptr 0 0),(5,.ptr 1 0)],[dlB 0 .nilsl,dlB 4 (.own 2),.arr TTm 8])] fun _=>none) env
theorem g4m: ∃f:List Dat→Option (Nat×List Dat),∀env,f env=a0b e4o FU env:=⟨a0b e4o FU,fun _=>rfl⟩
def f4u:List Dat→Option (Nat×List Dat):=Classical.choose g4m
theorem g4f (env:List Dat):f4u env=a0b e4o FU env:=Classical.choose_spec g4m env
def p4k:MBox:=mkM (cv:=[(5,[],4,.own TTm)]) 0 [] [(sh 51 [(2,.ptr 0 0),(4,.ptr 1 0),(5,.ptr 2 0),(30,.agg [.arrd TB 64 0]),(31,.int .i64 1)],[stB 2,dlB 7 .nilsl,dlB 11 (.own 3),.arr TTm 15])] [] [(.exit 0,sh 51 [(4,.ptr 0 0),(5,.ptr 1 0)],[dlB 0 .nilsl,dlB 4 (.own 2),.arr TTm 8])] f4u
theorem m4s:p4k=mkM (cv:=[(5,[],4,.own TTm)]) 0 [] [(sh 51 [(2,.ptr 0 0),(4,.ptr 1 0),(5,.ptr 2 0),(30,.agg [.arrd TB 64 0]),(31,.int .i64 1)],[stB 2,dlB 7 .nilsl,dlB 11 (.own 3),.arr TTm 15])] [] [(.exit 0,sh 51 [(4,.ptr 0 0),(5,.ptr 1 0)],[dlB 0 .nilsl,dlB 4 (.own 2),.arr TTm 8])] (a0b e4o FU):=congrArg (fun f=>mkM (cv:=[(5,[],4,.own TTm)]) 0 [] [(sh 51 [(2,.ptr 0 0),(4,.ptr 1 0),(5,.ptr 2 0),(30,.agg [.arrd TB 64 0]),(31,.int .i64 1)],[stB 2,dlB 7 .nilsl,dlB 11 (.own 3),.arr TTm 15])] [] [(.exit 0,sh 51 [(4,.ptr 0 0),(5,.ptr 1 0)],[dlB 0 .nilsl,dlB 4 (.own 2),.arr TTm 8])] f) (funext g4f)
theorem m4h: ∀t s x,(a0h p4k t s).sel=some x→a0k Try.prog 0 (.loop (cAt Try.prog 18 3)) t s x:=by
 rw[m4s]
 exact a0o (st:=e4o) (m:=FU) h4h hmix false (LsOk.none _ _ _) (by kernel_rfl) (fun env y h=>by rw[←stepMC_lk];exact h)
def f4m:List Dat→Tree Step
 |[.l (Ty.int IntKind.u8) l0,.n n1,.n n2,.n n3,.n n4,.l (Ty.int IntKind.u8) l5,.n n6,.n n7,.n n8,.n n9,.n n10,.n n11,.n n12,.n n13,.n n14,.l (Ty.pair (Ty.int IntKind.i64) (Ty.int IntKind.u8)) l15]=>
  (.node (decide (n1<(64:Int)))
   (.node ((List.getD l5 (Int.toNat n1) (0:Int):Int) !=(List.getD l0 (Int.toNat n1) (0:Int):Int))
   (.node (decide ((List.length l15+1)*16≤140737488355328))
    (.leaf (Step.go [.k 0,.l (Ty.int IntKind.u8) l0,.n (IntKind.wrap .i64 (n1+(1:Int))),.n n2,.n n3,.n n4,.l (Ty.int IntKind.u8) l5,.n n6,.n n7,.n n8,.n n9,.n n10,.n n11,.n n12,.n n13,.n n14,.l TTm (l15++([(n1,List.getD l0 (Int.toNat n1) (0:Int))]:List (Ty.den TTm)))]))
    (.bad 62))
   (.leaf (Step.go [.k 0,.l (Ty.int IntKind.u8) l0,.n (IntKind.wrap .i64 (n1+(1:Int))),.n n2,.n n3,.n n4,.l (Ty.int IntKind.u8) l5,.n n6,.n n7,.n n8,.n n9,.n n10,.n n11,.n n12,.n n13,.n n14,.l TTm l15])))
   (.leaf (Step.stop 0 [.n n7,.n n8,.n n9,.n n10,.n n11,.n n12,.n n13,.n n14,.l TTm l15])))
 |_=>.bad 0
theorem f4a (l0:List (Ty.den (Ty.int IntKind.u8)))(n1:Int)(n2:Int)(n3:Int)(n4:Int)(l5:List (Ty.den (Ty.int IntKind.u8)))(n6:Int)(n7:Int)(n8:Int)(n9:Int)(n10:Int)(n11:Int)(n12:Int)(n13:Int)(n14:Int)(l15:List (Ty.den TTm))(g0:0≤n1):Imp (f4m [.l (Ty.int IntKind.u8) l0,.n n1,.n n2,.n n3,.n n4,.l (Ty.int IntKind.u8) l5,.n n6,.n n7,.n n8,.n n9,.n n10,.n n11,.n n12,.n n13,.n n14,.l TTm l15]) (e4o [.k 0,.l TB l0,.n n1,.n n2,.n n3,.n n4,.l TB l5,.n n6,.n n7,.n n8,.n n9,.n n10,.n n11,.n n12,.n n13,.n n14,.l TTm l15]):=
(.path [1] (by kernel_rfl)
(.node (by kernel_rfl) (by kernel_rfl) (fun h0=>
(.pt (c:=(inR n1 64)) (by kernel_rfl) (by kernel_rfl) (by(simp only[w64d,decide_eq_true_eq,decide_eq_false_iff_not,beq_iff_eq,beq_eq_false_iff_ne,bne_iff_ne,ne_eq,inR,Bool.and_eq_true,Bool.and_eq_false_iff,Bool.not_eq_true',Bool.not_eq_false',Bool.not_eq_eq_eq_not,Bool.not_true,Bool.not_false]at*;omega))
(.pt (c:=(inR n1 64)) (by kernel_rfl) (by kernel_rfl) (by(simp only[w64d,decide_eq_true_eq,decide_eq_false_iff_not,beq_iff_eq,beq_eq_false_iff_ne,bne_iff_ne,ne_eq,inR,Bool.and_eq_true,Bool.and_eq_false_iff,Bool.not_eq_true',Bool.not_eq_false',Bool.not_eq_eq_eq_not,Bool.not_true,Bool.not_false]at*;omega))
(.node (by kernel_rfl) (by kernel_rfl) (fun h1=>
(.node (by kernel_rfl) (by kernel_rfl) (fun h2=>
(.path [1] (by kernel_rfl)
(.leaf (by kernel_rfl)))) (fun h2=>
.none))) (fun h1=>
(.path [1] (by kernel_rfl)
(.leaf (by kernel_rfl)))))))) (fun h0=>
(.path [1] (by kernel_rfl)
(.leaf (by kernel_rfl))))))
theorem p4j:LsOk Try.prog (List.length ([]:List PB)) (lsM [(3,p4k)] (List.length ([]:List PB))) (a0r Try.prog 18):=LsOk.many fun j B hB hk c hc hi=>by
 simp only[b0d]at hB
 split at hB
 ·rename_i e;have:=Nat.eq_of_beq_eq_true e;subst this;cases hB
  have e1:p0c Try.prog 18 3=[cAt Try.prog 18 3]:=a0e (by kernel_rfl)
  have e2:c∈p0c Try.prog 18 3:=a0d hc hi
  rw[e1]at e2;cases List.mem_singleton.1 e2;exact m4h
 cases hB
def p4b (env:List Dat):Tree (Nat×List Dat):=Lk.boxC false LK q4y 18 (lsM [(3,p4k)] (List.length ([]:List PB))) (mkF [stV 0,stV 5] [] [] [(dlV 0 (.own 0),[.arr TTm 4])] fun _=>none) env
theorem i4r: ∃f:List Dat→Option (Nat×List Dat),∀env,f env=(p4b env).sel:=⟨fun env=>(p4b env).sel,fun _=>rfl⟩
def k4m:List Dat→Option (Nat×List Dat):=Classical.choose i4r
theorem j4u (env:List Dat):k4m env=(p4b env).sel:=Classical.choose_spec i4r env
def B21:FBox:=mkF [stV 0,stV 5] [] [] [(dlV 0 (.own 0),[.arr TTm 4])] k4m
theorem B21_ok:a0v Try.prog 18 (a0j B21):=a0p (op:=k4m) h4h hmix false (p4j) (fun env x h=>by rw[j4u]at h;rw[←boxC_lk];exact h)
def m4w:List Dat→Tree (Nat×List Dat)
 |[.n n0,.n n1,.n n2,.l (Ty.int IntKind.u8) l3,.n n4,.n n5,.n n6,.n n7,.l (Ty.int IntKind.u8) l8,.n n9]=>
  (let r1:Option (Nat×List Dat):=(f4u [.k 0,.l (Ty.int IntKind.u8) l8,.n (0:Int),.n n0,.n n1,.n n2,.l (Ty.int IntKind.u8) l3,.n n4,.n (0:Int),.n (0:Int),.n (0:Int),.n (0:Int),.n (ixor IntKind.u64 n0 n5),.n (ixor IntKind.u64 n1 n6),.n (ixor IntKind.u64 n2 n7),.n (ixor IntKind.u32 n4 n9),.l TTm []]);
   (.node (isK 0 [HK.n,HK.n,HK.n,HK.n,HK.n,HK.n,HK.n,HK.n,HK.l TTm] r1)
   (.leaf ((0,[.n (gn (dOf r1) 4),.n (gn (dOf r1) 5),.n (gn (dOf r1) 6),.n (gn (dOf r1) 7),.l TTm (gl TTm (dOf r1) 8)])))
   (.bad 351)))
 |_=>.bad 0
theorem k4l (n0:Int)(n1:Int)(n2:Int)(l3:List (Ty.den (Ty.int IntKind.u8)))(n4:Int)(n5:Int)(n6:Int)(n7:Int)(l8:List (Ty.den (Ty.int IntKind.u8)))(n9:Int):Imp (m4w [.n n0,.n n1,.n n2,.l (Ty.int IntKind.u8) l3,.n n4,.n n5,.n n6,.n n7,.l (Ty.int IntKind.u8) l8,.n n9]) (p4b [.n n0,.n n1,.n n2,.l TB l3,.n n4,.n n5,.n n6,.n n7,.l TB l8,.n n9]):=
(.node (by kernel_rfl) (by kernel_rfl) (fun h0=>
(.path [1] (by kernel_rfl)
(.leaf (by kernel_rfl)))) (fun h0=>
.none))
def p4e:FuncId→Option a0q:=a0s 18 B21 q4y
theorem h4m:CsOk Try.prog p4e:=a0g h4h B21_ok
def e4m (env:List Dat):Tree Step:=Lk.stepMC false LK p4e 19 8 ls0 (mkM 0 [] [(sh 52 [(2,.ptr 0 0),(4,.ptr 1 0),(38,.imm TTm 0),(39,.int .i64 1),(40,.int .i64 2)],[stB 3,stB 8])] [] [(.exit 0,sh 52 [(2,.ptr 0 0),(4,.ptr 1 0)],[stB 0,stB 5])] fun _=>none) env
theorem g4i: ∃f:List Dat→Option (Nat×List Dat),∀env,f env=a0b e4m FU env:=⟨a0b e4m FU,fun _=>rfl⟩
def f4w:List Dat→Option (Nat×List Dat):=Classical.choose g4i
theorem g4p (env:List Dat):f4w env=a0b e4m FU env:=Classical.choose_spec g4i env
def r4u:MBox:=mkM 0 [] [(sh 52 [(2,.ptr 0 0),(4,.ptr 1 0),(38,.imm TTm 0),(39,.int .i64 1),(40,.int .i64 2)],[stB 3,stB 8])] [] [(.exit 0,sh 52 [(2,.ptr 0 0),(4,.ptr 1 0)],[stB 0,stB 5])] f4w
theorem l4x:r4u=mkM 0 [] [(sh 52 [(2,.ptr 0 0),(4,.ptr 1 0),(38,.imm TTm 0),(39,.int .i64 1),(40,.int .i64 2)],[stB 3,stB 8])] [] [(.exit 0,sh 52 [(2,.ptr 0 0),(4,.ptr 1 0)],[stB 0,stB 5])] (a0b e4m FU):=congrArg (fun f=>mkM 0 [] [(sh 52 [(2,.ptr 0 0),(4,.ptr 1 0),(38,.imm TTm 0),(39,.int .i64 1),(40,.int .i64 2)],[stB 3,stB 8])] [] [(.exit 0,sh 52 [(2,.ptr 0 0),(4,.ptr 1 0)],[stB 0,stB 5])] f) (funext g4p)
theorem n4q: ∀t s x,(a0h r4u t s).sel=some x→a0k Try.prog 0 (.loop (cAt Try.prog 19 8)) t s x:=by
 rw[l4x]
 exact a0o (st:=e4m) (m:=FU) h4m hmix false (LsOk.none _ _ _) (by kernel_rfl) (fun env y h=>by rw[←stepMC_lk];exact h)
def f4h:List Dat→Tree Step
 |[.l (Ty.pair (Ty.int IntKind.i64) (Ty.int IntKind.u8)) l0,.n n1,.n n2,.n n3,.n n4,.n n5,.l (Ty.int IntKind.u8) l6,.n n7,.n n8,.n n9,.n n10,.l (Ty.int IntKind.u8) l11,.n n12]=>
  (.node (decide (n2<n1))
   (.node (inR (tm_1 l0 n2) 64)
   (.leaf (Step.go [.k 0,.l TTm l0,.n n1,.n (IntKind.wrap .i64 (n2+(1:Int))),.n n3,.n n4,.n n5,.l (Ty.int IntKind.u8) (List.set l6 (Int.toNat (tm_1 l0 n2)) (tm_2 l0 n2)),.n n7,.n n8,.n n9,.n n10,.l (Ty.int IntKind.u8) l11,.n n12]))
   (.bad 17))
   (.leaf (Step.stop 0 [.n n3,.n n4,.n n5,.l (Ty.int IntKind.u8) l6,.n n7,.n n8,.n n9,.n n10,.l (Ty.int IntKind.u8) l11,.n n12])))
 |_=>.bad 0
theorem f4d (l0:List (Ty.den TTm))(n1:Int)(n2:Int)(n3:Int)(n4:Int)(n5:Int)(l6:List (Ty.den (Ty.int IntKind.u8)))(n7:Int)(n8:Int)(n9:Int)(n10:Int)(l11:List (Ty.den (Ty.int IntKind.u8)))(n12:Int)(g0:0≤n2)(g1:n1=(l0.length:Int)):Imp (f4h [.l TTm l0,.n n1,.n n2,.n n3,.n n4,.n n5,.l (Ty.int IntKind.u8) l6,.n n7,.n n8,.n n9,.n n10,.l (Ty.int IntKind.u8) l11,.n n12]) (e4m [.k 0,.l TTm l0,.n n1,.n n2,.n n3,.n n4,.n n5,.l TB l6,.n n7,.n n8,.n n9,.n n10,.l TB l11,.n n12]):=
(.path [1] (by kernel_rfl)
(.node (by kernel_rfl) (by kernel_rfl) (fun h0=>
(.pt (c:=(inR n2 (List.length l0))) (by kernel_rfl) (by kernel_rfl) (by(simp only[w64d,decide_eq_true_eq,decide_eq_false_iff_not,beq_iff_eq,beq_eq_false_iff_ne,bne_iff_ne,ne_eq,inR,Bool.and_eq_true,Bool.and_eq_false_iff,Bool.not_eq_true',Bool.not_eq_false',Bool.not_eq_eq_eq_not,Bool.not_true,Bool.not_false]at*;omega))
(.node (by kernel_rfl) (by kernel_rfl) (fun h1=>
(.path [1] (by kernel_rfl)
(.leaf (by kernel_rfl)))) (fun h1=>
.none)))) (fun h0=>
(.path [1] (by kernel_rfl)
(.leaf (by kernel_rfl))))))
theorem s4i:LsOk Try.prog (List.length ([]:List PB)) (lsM [(8,r4u)] (List.length ([]:List PB))) (a0r Try.prog 19):=LsOk.many fun j B hB hk c hc hi=>by
 simp only[b0d]at hB
 split at hB
 ·rename_i e;have:=Nat.eq_of_beq_eq_true e;subst this;cases hB
  have e1:p0c Try.prog 19 8=[cAt Try.prog 19 8]:=a0e (by kernel_rfl)
  have e2:c∈p0c Try.prog 19 8:=a0d hc hi
  rw[e1]at e2;cases List.mem_singleton.1 e2;exact n4q
 cases hB
def q4q (env:List Dat):Tree (Nat×List Dat):=Lk.boxC false LK p4e 19 (lsM [(8,r4u)] (List.length ([]:List PB))) (mkF [stV 0,dlV 5 (.imm TTm 9)] [] [] [(.tup [stV 0,.int .i64 5],[])] fun _=>none) env
theorem i4x: ∃f:List Dat→Option (Nat×List Dat),∀env,f env=(q4q env).sel:=⟨fun env=>(q4q env).sel,fun _=>rfl⟩
def i4j:List Dat→Option (Nat×List Dat):=Classical.choose i4x
theorem i4t (env:List Dat):i4j env=(q4q env).sel:=Classical.choose_spec i4x env
def B22:FBox:=mkF [stV 0,dlV 5 (.imm TTm 9)] [] [] [(.tup [stV 0,.int .i64 5],[])] i4j
theorem B22_ok:a0v Try.prog 19 (a0j B22):=a0p (op:=i4j) h4m hmix false (s4i) (fun env x h=>by rw[i4t]at h;rw[←boxC_lk];exact h)
def m4o:List Dat→Tree (Nat×List Dat)
 |[.n n0,.n n1,.n n2,.l (Ty.int IntKind.u8) l3,.n n4,.n n5,.n n6,.n n7,.n n8,.l (Ty.pair (Ty.int IntKind.i64) (Ty.int IntKind.u8)) l9]=>
  (let r1:Option (Nat×List Dat):=(i4k [.l TTm l9]);
   (.node (isK 0 [HK.b] r1)
   (.node (!gb (dOf r1) 0)
    (.leaf ((0,[.n (0:Int),.n (0:Int),.n (0:Int),.l (Ty.int IntKind.u8) (List.replicate 64 (0:Int)),.n (0:Int),.n (2:Int)])))
    (let r2:Option (Nat×List Dat):=(f4w [.k 0,.l TTm l9,.n (↑(List.length l9):Int),.n (0:Int),.n (ixor IntKind.u64 n0 n5),.n (ixor IntKind.u64 n1 n6),.n (ixor IntKind.u64 n2 n7),.l (Ty.int IntKind.u8) l3,.n (ixor IntKind.u32 n4 n8),.n (0:Int),.n (0:Int),.n (0:Int),.l (Ty.int IntKind.u8) (List.replicate 64 (0:Int)),.n (0:Int)]);
    (.node (isK 0 [HK.n,HK.n,HK.n,HK.l (Ty.int IntKind.u8),HK.n,HK.n,HK.n,HK.n,HK.l (Ty.int IntKind.u8),HK.n] r2)
     (.leaf ((0,[.n (gn (dOf r2) 0),.n (gn (dOf r2) 1),.n (gn (dOf r2) 2),.l (Ty.int IntKind.u8) (gl (Ty.int IntKind.u8) (dOf r2) 3),.n (gn (dOf r2) 4),.n (0:Int)])))
     (.bad 351))))
   (.bad 351)))
 |_=>.bad 0
theorem l4d (n0:Int)(n1:Int)(n2:Int)(l3:List (Ty.den (Ty.int IntKind.u8)))(n4:Int)(n5:Int)(n6:Int)(n7:Int)(n8:Int)(l9:List (Ty.den TTm)):Imp (m4o [.n n0,.n n1,.n n2,.l (Ty.int IntKind.u8) l3,.n n4,.n n5,.n n6,.n n7,.n n8,.l TTm l9]) (q4q [.n n0,.n n1,.n n2,.l TB l3,.n n4,.n n5,.n n6,.n n7,.n n8,.l TTm l9]):=
(.node (by kernel_rfl) (by kernel_rfl) (fun h0=>
(.path [1] (by kernel_rfl)
(.node (by kernel_rfl) (by kernel_rfl) (fun h1=>
(.path [1] (by kernel_rfl)
(.leaf (by kernel_rfl)))) (fun h1=>
(.node (by kernel_rfl) (by kernel_rfl) (fun h2=>
(.path [1] (by kernel_rfl)
(.leaf (by kernel_rfl)))) (fun h2=>
.none)))))) (fun h0=>
.none))
def o4y:FuncId→Option a0q:=a0s 19 B22 p4e
theorem h4o:CsOk Try.prog o4y:=a0g h4m B22_ok
def e4p (env:List Dat):Tree Step:=Lk.stepMC false LK o4y 20 8 ls0 (mkM 0 [] [(sh 58 [(2,.ptr 0 0),(3,.ptr 1 0),(4,.ptr 2 0),(6,.int .i64 0)],[stB 1,msB 6 (.imm TTm 20),stB 21])] [] [(.exit 0,sh 58 [(2,.ptr 0 0),(4,.ptr 1 0)],[stB 0,stB 5])] fun _=>none) env
theorem g4l: ∃f:List Dat→Option (Nat×List Dat),∀env,f env=a0b e4p FU env:=⟨a0b e4p FU,fun _=>rfl⟩
def g4b:List Dat→Option (Nat×List Dat):=Classical.choose g4l
theorem g4r (env:List Dat):g4b env=a0b e4p FU env:=Classical.choose_spec g4l env
def p4r:MBox:=mkM 0 [] [(sh 58 [(2,.ptr 0 0),(3,.ptr 1 0),(4,.ptr 2 0),(6,.int .i64 0)],[stB 1,msB 6 (.imm TTm 20),stB 21])] [] [(.exit 0,sh 58 [(2,.ptr 0 0),(4,.ptr 1 0)],[stB 0,stB 5])] g4b
theorem o4p:p4r=mkM 0 [] [(sh 58 [(2,.ptr 0 0),(3,.ptr 1 0),(4,.ptr 2 0),(6,.int .i64 0)],[stB 1,msB 6 (.imm TTm 20),stB 21])] [] [(.exit 0,sh 58 [(2,.ptr 0 0),(4,.ptr 1 0)],[stB 0,stB 5])] (a0b e4p FU):=congrArg (fun f=>mkM 0 [] [(sh 58 [(2,.ptr 0 0),(3,.ptr 1 0),(4,.ptr 2 0),(6,.int .i64 0)],[stB 1,msB 6 (.imm TTm 20),stB 21])] [] [(.exit 0,sh 58 [(2,.ptr 0 0),(4,.ptr 1 0)],[stB 0,stB 5])] f) (funext g4r)
theorem m4e: ∀t s x,(a0h p4r t s).sel=some x→a0k Try.prog 0 (.loop (cAt Try.prog 20 8)) t s x:=by
 rw[o4p]
 exact a0o (st:=e4p) (m:=FU) h4o hmix false (LsOk.none _ _ _) (by kernel_rfl) (fun env y h=>by rw[←stepMC_lk];exact h)
theorem o4t:LsOk Try.prog (List.length ([]:List PB)) (lsM [(8,p4r)] (List.length ([]:List PB))) (a0r Try.prog 20):=LsOk.many fun j B hB hk c hc hi=>by
 simp only[b0d]at hB
 split at hB
 ·rename_i e;have:=Nat.eq_of_beq_eq_true e;subst this;cases hB
  have e1:p0c Try.prog 20 8=[cAt Try.prog 20 8]:=a0e (by kernel_rfl)
  have e2:c∈p0c Try.prog 20 8:=a0d hc hi
  rw[e1]at e2;cases List.mem_singleton.1 e2;exact m4e
 cases hB
def ev_23 (env:List Dat):Tree (Nat×List Dat):=Lk.boxC false LK o4y 20 (lsM [(8,p4r)] (List.length ([]:List PB))) (mkF [stV 0,msV 5 (.imm TTm 19)] [] [] [(.tup [stV 0,.int .i64 5],[])] fun _=>none) env
theorem i4w: ∃f:List Dat→Option (Nat×List Dat),∀env,f env=(ev_23 env).sel:=⟨fun env=>(ev_23 env).sel,fun _=>rfl⟩
def i4l:List Dat→Option (Nat×List Dat):=Classical.choose i4w
theorem j4r (env:List Dat):i4l env=(ev_23 env).sel:=Classical.choose_spec i4w env
def B23:FBox:=mkF [stV 0,msV 5 (.imm TTm 19)] [] [] [(.tup [stV 0,.int .i64 5],[])] i4l
theorem B23_ok:a0v Try.prog 20 (a0j B23):=a0p (op:=i4l) h4o hmix false (o4t) (fun env x h=>by rw[j4r]at h;rw[←boxC_lk];exact h)
def q4x:FuncId→Option a0q:=a0s 20 B23 o4y
theorem h4u:CsOk Try.prog q4x:=a0g h4o B23_ok
def e4k (env:List Dat):Tree Step:=Lk.stepMC false LK q4x 21 3 ls0 (mkM (cv:=[(3,[],14,.own TTm)]) 0 [] [(sh 59 [(1,.ptr 0 0),(2,.ptr 1 0),(3,.ptr 2 0),(4,.int .i64 0)],[msB 1 (.imm TTm 15),msB 16 .nilsl,msB 30 (.own 3),.arr TTm 44])] [] [(.exit 0,sh 59 [(2,.ptr 0 0),(3,.ptr 1 0)],[msB 0 .nilsl,msB 14 (.own 2),.arr TTm 28])] fun _=>none) env
theorem g4d: ∃f:List Dat→Option (Nat×List Dat),∀env,f env=a0b e4k FU env:=⟨a0b e4k FU,fun _=>rfl⟩
def f4y:List Dat→Option (Nat×List Dat):=Classical.choose g4d
theorem h4b (env:List Dat):f4y env=a0b e4k FU env:=Classical.choose_spec g4d env
def q4e:MBox:=mkM (cv:=[(3,[],14,.own TTm)]) 0 [] [(sh 59 [(1,.ptr 0 0),(2,.ptr 1 0),(3,.ptr 2 0),(4,.int .i64 0)],[msB 1 (.imm TTm 15),msB 16 .nilsl,msB 30 (.own 3),.arr TTm 44])] [] [(.exit 0,sh 59 [(2,.ptr 0 0),(3,.ptr 1 0)],[msB 0 .nilsl,msB 14 (.own 2),.arr TTm 28])] f4y
theorem m4q:q4e=mkM (cv:=[(3,[],14,.own TTm)]) 0 [] [(sh 59 [(1,.ptr 0 0),(2,.ptr 1 0),(3,.ptr 2 0),(4,.int .i64 0)],[msB 1 (.imm TTm 15),msB 16 .nilsl,msB 30 (.own 3),.arr TTm 44])] [] [(.exit 0,sh 59 [(2,.ptr 0 0),(3,.ptr 1 0)],[msB 0 .nilsl,msB 14 (.own 2),.arr TTm 28])] (a0b e4k FU):=congrArg (fun f=>mkM (cv:=[(3,[],14,.own TTm)]) 0 [] [(sh 59 [(1,.ptr 0 0),(2,.ptr 1 0),(3,.ptr 2 0),(4,.int .i64 0)],[msB 1 (.imm TTm 15),msB 16 .nilsl,msB 30 (.own 3),.arr TTm 44])] [] [(.exit 0,sh 59 [(2,.ptr 0 0),(3,.ptr 1 0)],[msB 0 .nilsl,msB 14 (.own 2),.arr TTm 28])] f) (funext h4b)
theorem m4m: ∀t s x,(a0h q4e t s).sel=some x→a0k Try.prog 0 (.loop (cAt Try.prog 21 3)) t s x:=by
 rw[m4q]
 exact a0o (st:=e4k) (m:=FU) h4u hmix false (LsOk.none _ _ _) (by kernel_rfl) (fun env y h=>by rw[←stepMC_lk];exact h)
theorem s4n:LsOk Try.prog (List.length ([]:List PB)) (lsM [(3,q4e)] (List.length ([]:List PB))) (a0r Try.prog 21):=LsOk.many fun j B hB hk c hc hi=>by
 simp only[b0d]at hB
 split at hB
 ·rename_i e;have:=Nat.eq_of_beq_eq_true e;subst this;cases hB
  have e1:p0c Try.prog 21 3=[cAt Try.prog 21 3]:=a0e (by kernel_rfl)
  have e2:c∈p0c Try.prog 21 3:=a0d hc hi
  rw[e1]at e2;cases List.mem_singleton.1 e2;exact m4m
 cases hB
def ev_24 (env:List Dat):Tree (Nat×List Dat):=Lk.boxC false LK q4x 21 (lsM [(3,q4e)] (List.length ([]:List PB))) (mkF [msV 0 (.imm TTm 14)] [] [] [(msV 0 (.own 0),[.arr TTm 14])] fun _=>none) env
theorem j4a: ∃f:List Dat→Option (Nat×List Dat),∀env,f env=(ev_24 env).sel:=⟨fun env=>(ev_24 env).sel,fun _=>rfl⟩
def e4h:List Dat→Option (Nat×List Dat):=Classical.choose j4a
theorem i4u (env:List Dat):e4h env=(ev_24 env).sel:=Classical.choose_spec j4a env
def B24:FBox:=mkF [msV 0 (.imm TTm 14)] [] [] [(msV 0 (.own 0),[.arr TTm 14])] e4h
theorem B24_ok:a0v Try.prog 21 (a0j B24):=a0p (op:=e4h) h4u hmix false (s4n) (fun env x h=>by rw[i4u]at h;rw[←boxC_lk];exact h)
def s4c:FuncId→Option a0q:=a0s 21 B24 q4x
theorem h4q:CsOk Try.prog s4c:=a0g h4u B24_ok
def e4s (env:List Dat):Tree Step:=Lk.stepMC false LK s4c 23 6 ls0 (mkM (cv:=[(3,[],14,.own TTm)]) 0 [] [(sh 57 [(3,.ptr 0 0),(4,.ptr 1 0),(5,.ptr 2 0),(6,.ptr 3 0),(7,.int .i64 0)],[msB 1 (.own 4),stB 15,stB 20,msB 25 .nilsl,.arr TTm 39])] [] [(.exit 0,sh 57 [(3,.ptr 0 0),(6,.ptr 1 0)],[msB 0 (.own 2),msB 14 .nilsl,.arr TTm 28])] fun _=>none) env
theorem g4k: ∃f:List Dat→Option (Nat×List Dat),∀env,f env=a0b e4s FU env:=⟨a0b e4s FU,fun _=>rfl⟩
def f4v:List Dat→Option (Nat×List Dat):=Classical.choose g4k
theorem g4u (env:List Dat):f4v env=a0b e4s FU env:=Classical.choose_spec g4k env
def q4g:MBox:=mkM (cv:=[(3,[],14,.own TTm)]) 0 [] [(sh 57 [(3,.ptr 0 0),(4,.ptr 1 0),(5,.ptr 2 0),(6,.ptr 3 0),(7,.int .i64 0)],[msB 1 (.own 4),stB 15,stB 20,msB 25 .nilsl,.arr TTm 39])] [] [(.exit 0,sh 57 [(3,.ptr 0 0),(6,.ptr 1 0)],[msB 0 (.own 2),msB 14 .nilsl,.arr TTm 28])] f4v
theorem n4p:q4g=mkM (cv:=[(3,[],14,.own TTm)]) 0 [] [(sh 57 [(3,.ptr 0 0),(4,.ptr 1 0),(5,.ptr 2 0),(6,.ptr 3 0),(7,.int .i64 0)],[msB 1 (.own 4),stB 15,stB 20,msB 25 .nilsl,.arr TTm 39])] [] [(.exit 0,sh 57 [(3,.ptr 0 0),(6,.ptr 1 0)],[msB 0 (.own 2),msB 14 .nilsl,.arr TTm 28])] (a0b e4s FU):=congrArg (fun f=>mkM (cv:=[(3,[],14,.own TTm)]) 0 [] [(sh 57 [(3,.ptr 0 0),(4,.ptr 1 0),(5,.ptr 2 0),(6,.ptr 3 0),(7,.int .i64 0)],[msB 1 (.own 4),stB 15,stB 20,msB 25 .nilsl,.arr TTm 39])] [] [(.exit 0,sh 57 [(3,.ptr 0 0),(6,.ptr 1 0)],[msB 0 (.own 2),msB 14 .nilsl,.arr TTm 28])] f) (funext g4u)
theorem o4l: ∀t s x,(a0h q4g t s).sel=some x→a0k Try.prog 0 (.loop (cAt Try.prog 23 6)) t s x:=by
 rw[n4p]
 exact a0o (st:=e4s) (m:=FU) h4q hmix false (LsOk.none _ _ _) (by kernel_rfl) (fun env y h=>by rw[←stepMC_lk];exact h)
theorem u2j:LsOk Try.prog (List.length ([]:List PB)) (lsM [(6,q4g)] (List.length ([]:List PB))) (a0r Try.prog 23):=LsOk.many fun j B hB hk c hc hi=>by
 simp only[b0d]at hB
 split at hB
 ·rename_i e;have:=Nat.eq_of_beq_eq_true e;subst this;cases hB
  have e1:p0c Try.prog 23 6=[cAt Try.prog 23 6]:=a0e (by kernel_rfl)
  have e2:c∈p0c Try.prog 23 6:=a0d hc hi
  rw[e1]at e2;cases List.mem_singleton.1 e2;exact o4l
 cases hB
def ev_26 (env:List Dat):Tree (Nat×List Dat):=Lk.boxC false LK s4c 23 (lsM [(6,q4g)] (List.length ([]:List PB))) (mkF [msV 0 .nilsl,stV 14,stV 19] [] [] [(msV 0 (.own 0),[.arr TTm 14])] fun _=>none) env
theorem j4p: ∃f:List Dat→Option (Nat×List Dat),∀env,f env=(ev_26 env).sel:=⟨fun env=>(ev_26 env).sel,fun _=>rfl⟩
def g2g:List Dat→Option (Nat×List Dat):=Classical.choose j4p
theorem v1e (env:List Dat):g2g env=(ev_26 env).sel:=Classical.choose_spec j4p env
def B26:FBox:=mkF [msV 0 .nilsl,stV 14,stV 19] [] [] [(msV 0 (.own 0),[.arr TTm 14])] g2g
theorem B26_ok:a0v Try.prog 23 (a0j B26):=a0p (op:=g2g) h4q hmix false (u2j) (fun env x h=>by rw[v1e]at h;rw[←boxC_lk];exact h)
def s1x:FuncId→Option a0q:=a0s 23 B26 s4c
theorem n0g:CsOk Try.prog s1x:=a0g h4q B26_ok
def e4r (env:List Dat):Tree Step:=Lk.stepMC false LK s1x 22 4 ls0 (mkM 0 [] [(sh 101 [(2,.ptr 0 0),(3,.ptr 1 0),(5,.int .i64 0)],[msB 1 (.imm TTm 15),msB 16 (.imm TTm 30)])] [] [(.exit 0,sh 101 [],[]),(.ret,sh 101 [(4,.bool 0)],[])] fun _=>none) env
theorem g4t: ∃f:List Dat→Option (Nat×List Dat),∀env,f env=a0b e4r FU env:=⟨a0b e4r FU,fun _=>rfl⟩
def f4x:List Dat→Option (Nat×List Dat):=Classical.choose g4t
theorem g4y (env:List Dat):f4x env=a0b e4r FU env:=Classical.choose_spec g4t env
def p4a:MBox:=mkM 0 [] [(sh 101 [(2,.ptr 0 0),(3,.ptr 1 0),(5,.int .i64 0)],[msB 1 (.imm TTm 15),msB 16 (.imm TTm 30)])] [] [(.exit 0,sh 101 [],[]),(.ret,sh 101 [(4,.bool 0)],[])] f4x
theorem n4u:p4a=mkM 0 [] [(sh 101 [(2,.ptr 0 0),(3,.ptr 1 0),(5,.int .i64 0)],[msB 1 (.imm TTm 15),msB 16 (.imm TTm 30)])] [] [(.exit 0,sh 101 [],[]),(.ret,sh 101 [(4,.bool 0)],[])] (a0b e4r FU):=congrArg (fun f=>mkM 0 [] [(sh 101 [(2,.ptr 0 0),(3,.ptr 1 0),(5,.int .i64 0)],[msB 1 (.imm TTm 15),msB 16 (.imm TTm 30)])] [] [(.exit 0,sh 101 [],[]),(.ret,sh 101 [(4,.bool 0)],[])] f) (funext g4y)
theorem m4g: ∀t s x,(a0h p4a t s).sel=some x→a0k Try.prog 0 (.loop (cAt Try.prog 22 4)) t s x:=by
 rw[n4u]
 exact a0o (st:=e4r) (m:=FU) n0g hmix false (LsOk.none _ _ _) (by kernel_rfl) (fun env y h=>by rw[←stepMC_lk];exact h)
theorem r4w:LsOk Try.prog (List.length ([]:List PB)) (lsM [(4,p4a)] (List.length ([]:List PB))) (a0r Try.prog 22):=LsOk.many fun j B hB hk c hc hi=>by
 simp only[b0d]at hB
 split at hB
 ·rename_i e;have:=Nat.eq_of_beq_eq_true e;subst this;cases hB
  have e1:p0c Try.prog 22 4=[cAt Try.prog 22 4]:=a0e (by kernel_rfl)
  have e2:c∈p0c Try.prog 22 4:=a0d hc hi
  rw[e1]at e2;cases List.mem_singleton.1 e2;exact m4g
 cases hB
def ev_25 (env:List Dat):Tree (Nat×List Dat):=Lk.boxC false LK s1x 22 (lsM [(4,p4a)] (List.length ([]:List PB))) (mkF [msV 0 (.imm TTm 14),msV 15 (.imm TTm 29)] [] [] [(.bool 0,[])] fun _=>none) env
theorem j4x: ∃f:List Dat→Option (Nat×List Dat),∀env,f env=(ev_25 env).sel:=⟨fun env=>(ev_25 env).sel,fun _=>rfl⟩
def e4u:List Dat→Option (Nat×List Dat):=Classical.choose j4x
theorem j4o (env:List Dat):e4u env=(ev_25 env).sel:=Classical.choose_spec j4x env
def B25:FBox:=mkF [msV 0 (.imm TTm 14),msV 15 (.imm TTm 29)] [] [] [(.bool 0,[])] e4u
theorem B25_ok:a0v Try.prog 22 (a0j B25):=a0p (op:=e4u) n0g hmix false (r4w) (fun env x h=>by rw[j4o]at h;rw[←boxC_lk];exact h)
def cs_25:FuncId→Option a0q:=a0s 22 B25 s1x
theorem q4v:CsOk Try.prog cs_25:=a0g n0g B25_ok
open Go Go.Shelf Go.RowKit Go.Lib
def zLg:Value:=((Try.prog.info? 34).bind fun i=>i.zero).getD undef
theorem iLg:(Try.prog.info? 34).map (fun i=>(i.zero,i.size,i.bytes))=some (some zLg,70,112):=by kernel_rfl
theorem vLg (w:World):(zeroValue 34).run Try.prog w=.ok zLg w:=by kernel_rfl
theorem sLg:zLg.cells.size=70:=by kernel_rfl
theorem oLg:(zLg.cells.all fun v=>v.oneCell')=true:=by kernel_rfl
theorem wLg (w:World):(Go.sizeOf 34).run Try.prog w=.ok 70 w:=by kernel_rfl
set_option maxHeartbeats 4000000 in
set_option maxRecDepth 1000000 in
theorem k4q (blk off cap L i j:Nat)(olds:List Value)(w:World)(ho:olds.length=L*70)(h1c: ∀u∈olds,u.oneCell'=true)
  (hH: ∀k u,olds[k]? =some u→w.cell? ⟨blk,off+k,none⟩=some u∧w.frozen? ⟨blk,off+k,none⟩=false)
  (hcap:L≤cap) (hij:i<j) (hj:j≤L):
  Calls Try.prog 40 #[.slice (some ⟨blk,off,none⟩) L cap,.int .i64 i,.int .i64 j] w fun e w'=>e=.returned (.slice (some ⟨blk,off,none⟩) (i+(L-j)) cap)∧
   w'=(w.drew.setCells blk (off+i*70) (olds.drop (j*70))).setCells blk (off+(i+(L-j))*70) (Builtin.zeroCells zLg.cells (L-(i+(L-j)))).toList:=by
 have mixed:Try.prog.follows .mixedOrders=true:=by kernel_rfl
 have t3:=Try.underlying3;have t4:=Try.underlying4;have tT:=Try.underlying25
 have zE:=wLg
 obtain⟨i0,hi0,hz0,hz1,hz2⟩:=info_parts iLg
 obtain⟨news,hnews⟩: ∃news,news=olds.drop (j*70):=⟨_,rfl⟩
 have hlen:news.length=(L-j)*70:=by rw[hnews];simp[ho];omega
 obtain⟨A,hA,hsrc⟩: ∃A:Addr,(if cap=j then some (⟨blk,off,none⟩:Addr)else some ⟨blk,off+j*70,none⟩)=some A∧Hid (∀t u,news[t]? =some u→w.drew.cell? (A.add t)=some u):=by
  by_cases h:cap=j
  ·refine⟨⟨blk,off,none⟩,by simp[h],fun t u hu=> ?_⟩
   have h0:news.length=0:=by rw[hlen];omega
   rw[List.length_eq_zero_iff.1 h0]at hu
   simp at hu
  ·refine⟨⟨blk,off+j*70,none⟩,by simp[h],fun t u hu=> ?_⟩
   rw[hnews,List.getElem?_drop]at hu
   rw[Addr.add_lit,show off+j*70+t=off+(j*70+t) by omega]
   exact(hH _ _ hu).1
 have s1:Hid (news.length=(L-j)*70):=hlen
 have s2:Hid (∀u∈news,u.oneCell'=true):=fun u hu=>h1c u (List.mem_of_mem_drop (by rw[hnews]at hu;exact hu))
 have s3:Hid (∀t,t<news.length→(w.drew.cell? ⟨blk,off+i*70+t,none⟩).isSome=true∧w.drew.frozen? ⟨blk,off+i*70+t,none⟩=false):=by
  intro t ht
  rw[hlen]at ht
  have hlt:i*70+t<olds.length:=by omega
  obtain⟨k1,k2⟩:=hH (i*70+t) _ (List.getElem?_eq_getElem hlt)
  rw[Nat.add_assoc]
  exact⟨by show(w.cell? _).isSome=true;rw[k1];rfl,k2⟩
 obtain⟨W1,hW1⟩: ∃W1,W1=w.drew.setCells blk (off+i*70) news:=⟨_,rfl⟩
 have hcl: ∀ty,(Builtin.clear_ #[25] ty #[.slice (some ⟨blk,off+(i+(L-j))*70,none⟩) (L-(i+(L-j))) (cap-(i+(L-j)))]).run Try.prog W1=.ok (.tuple #[]) (W1.setCells blk (off+(i+(L-j))*70) (Builtin.zeroCells zLg.cells (L-(i+(L-j)))).toList):=by
  intro ty
  refine g4n W1 25 34 ty zLg tT vLg (by rw[sLg];omega) oLg blk (off+(i+(L-j))*70) _ _ (by omega) (fun t ht=> ?_) (fun t ht=> ?_)
  all_goals
   rw[sLg]at ht
   have hlt:(i+(L-j))*70+t<olds.length:=by omega
   obtain⟨k1,k2⟩:=hH ((i+(L-j))*70+t) _ (List.getElem?_eq_getElem hlt)
   obtain⟨m1,m2⟩:=b4n (w:=w.drew) (o:=off+i*70) (l:=news) k1
   rw[hW1]
  ·rw[show off+(i+(L-j))*70+t=off+((i+(L-j))*70+t) by omega];exact m1
  ·rw[show off+(i+(L-j))*70+t=off+((i+(L-j))*70+t) by omega];exact m2.trans k2
 have X:Aside (w.drew.setCells blk (off+i*70) (olds.drop (j*70))=W1):=(hW1.trans (by rw[hnews])).symm
 have hW:Hid (W1=w.drew.setCells blk (off+i*70) news):=hW1
 have hic:i≤cap:=by omega
 have hjc:j≤cap:=by omega
 clear hW1 hH hnews hlen h1c ho
 go_enter Try.func40,Try.ntmps40
 go_wp2_with fail
 go_region_law_o (refine step_append_room rfl (.tmp 22) (.tmp 25) 25 rfl 34 i0 70 tT hi0 hz1 blk off i cap (by simp[Act.eval,Act.put]) A (L-j) (cap-j) news (by simp[Act.eval,Act.put]) s1.out hsrc.out s2.out (by omega) s3.out ?_;rw[←hW.out])
 go_wp2
 go_ret
 all_goals
  refine⟨rfl,?_⟩
  rw[X.out]
  first|rfl|(rename_i h;rw[h];rfl)
theorem delLg:DelRun Try.prog 40 70:=fun blk off cap L i j olds w h1 h2 h3 h4 h5 h6=>(k4q blk off cap L i j olds w h1 h2 h3 h4 h5 h6).mono fun e w' ⟨e1,e2⟩=>⟨e1,_,by rw[Array.length_toList,o0z,sLg],e2⟩
abbrev TI:Ty:=.int .i64
abbrev TLog:Ty:=.pair (.int .i64) (.pair (.int .i64) (.pair (.int .u64) (.pair (.int .u64) (.pair (.int .u64) (.pair (.arr 64 (.int .u8)) (.int .u32))))))
theorem c4h (f:List Dat→Option (Nat×List Dat)): ∃g:List Dat→Option (Nat×List Dat),∀env,g env=f env:=⟨f,fun _=>rfl⟩
def c4q:List Dat→Option (Nat×List Dat):=Classical.choose (c4h (a4x TLog))
theorem b4y (env:List Dat):c4q env=a4x TLog env:=Classical.choose_spec (c4h (a4x TLog)) env
def Bdl:FBox:=mkF [.own 0,.int .i64 0,.int .i64 1] [.arr TLog 2] [0] [(.own 0,[.arr TLog 0])] c4q
theorem Bdl_ok:a0v Try.prog 40 (a0j Bdl):=by
 have e:c4q=a4x TLog:=funext b4y
 unfold Bdl
 rw[e]
 exact del_ok delLg (fun l=>by kernel_rfl)
abbrev t0c:Ty:=.pair (.int .u8) (.pair (.int .i64) (.pair (.int .i64) (.pair (.int .u64) (.pair (.int .u64) (.pair (.int .u64) (.pair (.arr 64 (.int .u8)) (.pair (.int .u32) (.pair (.int .u8) (.pair (.int .i64) (.pair (.int .i64) (.pair (.int .i64) (.pair (.int .i64) (.pair (.int .u64) (.pair (.int .u64) (.pair (.int .u64) (.pair (.arr 64 (.int .u8)) (.pair (.int .u32) (.pair (.int .u64) (.pair (.int .u64) (.pair (.int .u64) (.pair (.int .u32) (.sl (.pair (.int .i64) (.int .u8))))))))))))))))))))))))
def lgV (h:Nat):PV:=.agg [.int .i64 h,.int .i64 (h+1),.int .u64 (h+2),.int .u64 (h+3),.int .u64 (h+4),.arrd TB 64 (h+5),.int .u32 (h+6)]
def seB (a h:Nat):PB:=.cells [.own a,.int .i64 h]
def reB (h:Nat):PB:=.cells [.int .i64 h,.int .i64 (h+1),.int .u64 (h+2),.int .u64 (h+3),.int .u64 (h+4),.arrd TB 64 (h+5),.int .u32 (h+6),.bool (h+7)]
def fnV0 (f:Nat):PV:=.fn (.func f) [] []
def lgB (h:Nat):PB:=.cells [.int .i64 h,.int .i64 (h+1),.int .u64 (h+2),.int .u64 (h+3),.int .u64 (h+4),.arrd TB 64 (h+5),.int .u32 (h+6)]
def cs_20A:FuncId→Option a0q:=e1c 8 [(BSh.of B20).k u3k] cs_25
theorem l4p:CsOk Try.prog cs_20A:=csB q4v B20_ok
def cs_86A:FuncId→Option a0q:=a0s 44 ((BSh.of B86).k i4k) cs_20A
theorem m4x:CsOk Try.prog cs_86A:=csA l4p B86_ok
def cs_87A:FuncId→Option a0q:=a0s 45 ((BSh.of B87).k i4c) cs_86A
theorem n4k:CsOk Try.prog cs_87A:=csA m4x B87_ok
def cs_21A:FuncId→Option a0q:=a0s 18 ((BSh.of B21).k k4m) cs_87A
theorem l4z:CsOk Try.prog cs_21A:=csA n4k B21_ok
def cs_22A:FuncId→Option a0q:=a0s 19 ((BSh.of B22).k i4j) cs_21A
theorem m4y:CsOk Try.prog cs_22A:=csA l4z B22_ok
def cs_23A:FuncId→Option a0q:=a0s 20 ((BSh.of B23).k i4l) cs_22A
theorem l4v:CsOk Try.prog cs_23A:=csA m4y B23_ok
def cs_24A:FuncId→Option a0q:=a0s 21 ((BSh.of B24).k e4h) cs_23A
theorem m4p:CsOk Try.prog cs_24A:=csA l4v B24_ok
def cs_26A:FuncId→Option a0q:=a0s 23 ((BSh.of B26).k g2g) cs_24A
theorem m4f:CsOk Try.prog cs_26A:=csA m4p B26_ok
def cs_25A:FuncId→Option a0q:=a0s 22 ((BSh.of B25).k e4u) cs_26A
theorem n4z:CsOk Try.prog cs_25A:=csA m4f B25_ok
def j4n:FuncId→Option a0q:=e1c 40 [(BSh.of Bdl).k c4q] cs_25A
theorem c4p:CsOk Try.prog j4n:=csB n4z Bdl_ok
def R_wi_2:LSh:={K:=0,log:=[],ins:=[(sh 18 [(5,.imm TI 0),(6,.int .i64 1),(7,.int .i64 2)],[])],nils:=[],outs:=[(.exit 0,sh 18 [],[]),(.ret,sh 18 [(2,.bool 0)],[])],cv:=[]}
def f4o:List Dat→Tree Step:=evL j4n 38 2 ls0 R_wi_2
theorem j4c: ∃op,IsL f4o 38 2 R_wi_2 op:=bxL c4p (LsOk.none _ _ _)
def h4t:OpA:=opL j4c
theorem l4j (env:List Dat):h4t env=a0b f4o FU env:=x3n j4c env
abbrev Bx_wi_2:MBox:=boxL j4c
theorem l4c {l0:List (Ty.den TI)}{n1 n2:Int}(g0:0≤n2)(g1:n1=(l0.length:Int))(h0:(n2<n1))(h1:((List.getD l0 (Int.toNat n2) (0:Int):Int)<(0:Int))):(f4o [.k 0,.l TI l0,.n n1,.n n2]).sel=some (Step.stop 1 [.b false]):=sP [1]<|sT (dt h0)<|sTo (c:=(inR n2 (List.length l0)))<|sT (dt h1)<|sP [1,1,1]<|sL
theorem k4g {l0:List (Ty.den TI)}{n1 n2:Int}(g0:0≤n2)(g1:n1=(l0.length:Int))(h0:(n2<n1))(h1:(¬(List.getD l0 (Int.toNat n2) (0:Int):Int)<(0:Int)))(h2:((List.getD l0 (Int.toNat n2) (0:Int):Int)>(1099511627776:Int))):(f4o [.k 0,.l TI l0,.n n1,.n n2]).sel=some (Step.stop 1 [.b false]):=sP [1]<|sT (dt h0)<|sTo (c:=(inR n2 (List.length l0)))<|sF (df h1)<|sT (dt h2)<|sP [1]<|sL
theorem k4j {l0:List (Ty.den TI)}{n1 n2:Int}(g0:0≤n2)(g1:n1=(l0.length:Int))(h0:(n2<n1))(h1:(¬(List.getD l0 (Int.toNat n2) (0:Int):Int)<(0:Int)))(h2:(¬(List.getD l0 (Int.toNat n2) (0:Int):Int)>(1099511627776:Int))):(f4o [.k 0,.l TI l0,.n n1,.n n2]).sel=some (Step.go [.k 0,.l TI l0,.n n1,.n (IntKind.wrap .i64 (n2+(1:Int)))]):=sP [1]<|sT (dt h0)<|sTo (c:=(inR n2 (List.length l0)))<|sF (df h1)<|sF (df h2)<|sP [1]<|sL
theorem l4n {l0:List (Ty.den TI)}{n1 n2:Int}(g0:0≤n2)(g1:n1=(l0.length:Int))(h0:(¬n2<n1)):(f4o [.k 0,.l TI l0,.n n1,.n n2]).sel=some (Step.stop 0 []):=sP [1]<|sF (df h0)<|sP [1]<|sL
def S_wi:BSh:={args:=[.imm TI 0],blks:=[],log:=[],outs:=[(.bool 0,[])]}
def ev_wi:List Dat→Tree (Nat×List Dat):=evF j4n 38 (lsM [(2,Bx_wi_2)] 0) S_wi
theorem e_wi: ∃op,IsF ev_wi 38 S_wi op:=bxF c4p (lsE (lsC (q3c j4c) (atF) lsZ))
def e4j:OpA:=opF e_wi
theorem p4o {l0:List (Ty.den TI)}(h0:(h4t [.k 0,.l TI l0,.n (↑(List.length l0):Int),.n (0:Int)])=(some (0,[]))):e4j [.l TI l0]=some ((0,[.b true])):=t2c e_wi (sA h0<|sP [1,1]<|sL)
theorem r4y {l0:List (Ty.den TI)}{b1:Bool}(h0:(h4t [.k 0,.l TI l0,.n (↑(List.length l0):Int),.n (0:Int)])=(some (1,[.b b1]))):e4j [.l TI l0]=some ((0,[.b b1])):=t2c e_wi (sA h0<|sP [0,1,1]<|sL)
def cs_wi:FuncId→Option a0q:=a0s 38 (S_wi.k e4j) j4n
theorem j4i:CsOk Try.prog cs_wi:=csL1 c4p e_wi
def S_od:BSh:={args:=[lgV 0,lgV 7],blks:=[],log:=[],outs:=[(.int .i64 0,[])]}
def ev_od:List Dat→Tree (Nat×List Dat):=evF cs_wi 39 ls0 S_od
theorem e_od: ∃op,IsF ev_od 39 S_od op:=bxF j4i (LsOk.none _ _ _)
def d4y:OpA:=opF e_od
theorem t4g {n0 n1 n2 n3 n4:Int}{l5:List (Ty.den TB)}{n6 n7 n8 n9 n10 n11:Int}{l12:List (Ty.den TB)}{n13:Int}(h0:(¬n0=n7))(h1:(n0<n7)):d4y [.n n0,.n n1,.n n2,.n n3,.n n4,.l TB l5,.n n6,.n n7,.n n8,.n n9,.n n10,.n n11,.l TB l12,.n n13]=some ((0,[.n (-1:Int)])):=t2c e_od (sT (bnt h0)<|sP [1,1,1,1,1]<|sF (bnf (a:=(n0)) rfl)<|sF (bnf (a:=(n7)) rfl)<|sT (dt h1)<|sP [1,1]<|sL)
theorem r4d {n0 n1 n2 n3 n4:Int}{l5:List (Ty.den TB)}{n6 n7 n8 n9 n10 n11:Int}{l12:List (Ty.den TB)}{n13:Int}(h0:(¬n0=n7))(h1:(¬n0<n7)):d4y [.n n0,.n n1,.n n2,.n n3,.n n4,.l TB l5,.n n6,.n n7,.n n8,.n n9,.n n10,.n n11,.l TB l12,.n n13]=some ((0,[.n (1:Int)])):=t2c e_od (sT (bnt h0)<|sP [1,1,1,1,1]<|sF (bnf (a:=(n0)) rfl)<|sF (bnf (a:=(n7)) rfl)<|sF (df h1)<|sTo (c:=(decide (n0>n7)))<|sP [1,1]<|sL)
theorem q4t {n0 n1 n2 n3 n4:Int}{l5:List (Ty.den TB)}{n6 n7 n8 n9 n10 n11:Int}{l12:List (Ty.den TB)}{n13:Int}(h0:(n0=n7))(h1:(n1<n8)):d4y [.n n0,.n n1,.n n2,.n n3,.n n4,.l TB l5,.n n6,.n n7,.n n8,.n n9,.n n10,.n n11,.l TB l12,.n n13]=some ((0,[.n (-1:Int)])):=t2c e_od (sF (bnf h0)<|sP [1,1,1,1,1]<|sF (bnf (a:=(n1)) rfl)<|sF (bnf (a:=(n8)) rfl)<|sT (dt h1)<|sP [1,1]<|sL)
theorem s4o {n0 n1 n2 n3 n4:Int}{l5:List (Ty.den TB)}{n6 n7 n8 n9 n10 n11:Int}{l12:List (Ty.den TB)}{n13:Int}(h0:(n0=n7))(h1:(¬n1<n8))(h2:(n1>n8)):d4y [.n n0,.n n1,.n n2,.n n3,.n n4,.l TB l5,.n n6,.n n7,.n n8,.n n9,.n n10,.n n11,.l TB l12,.n n13]=some ((0,[.n (1:Int)])):=t2c e_od (sF (bnf h0)<|sP [1,1,1,1,1]<|sF (bnf (a:=(n1)) rfl)<|sF (bnf (a:=(n8)) rfl)<|sF (df h1)<|sT (dt h2)<|sP [1,1]<|sL)
theorem o4s {n0 n1 n2 n3 n4:Int}{l5:List (Ty.den TB)}{n6 n7 n8 n9 n10 n11:Int}{l12:List (Ty.den TB)}{n13:Int}(h0:(n0=n7))(h1:(¬n1<n8))(h2:(¬n1>n8)):d4y [.n n0,.n n1,.n n2,.n n3,.n n4,.l TB l5,.n n6,.n n7,.n n8,.n n9,.n n10,.n n11,.l TB l12,.n n13]=some ((0,[.n (0:Int)])):=t2c e_od (sF (bnf h0)<|sP [1,1,1,1,1]<|sF (bnf (a:=(n1)) rfl)<|sF (bnf (a:=(n8)) rfl)<|sF (df h1)<|sF (df h2)<|sP [1,1]<|sL)
def cs_od:FuncId→Option a0q:=a0s 39 (S_od.k d4y) cs_wi
theorem j4q:CsOk Try.prog cs_od:=csL1 j4i e_od
def S_la:BSh:={args:=[lgV 0,lgV 7],blks:=[],log:=[],outs:=[(.bool 0,[])]}
def ev_la:List Dat→Tree (Nat×List Dat):=evF cs_od 67 ls0 S_la
theorem e_la: ∃op,IsF ev_la 67 S_la op:=bxF j4q (LsOk.none _ _ _)
def op_la:OpA:=opF e_la
def cs_la:FuncId→Option a0q:=a0s 67 (S_la.k op_la) cs_od
theorem j4m:CsOk Try.prog cs_la:=csL1 j4q e_la
def S_ma:BSh:={args:=[msV 0 (.imm TTm 14)],blks:=[],log:=[],outs:=[(.bool 0,[])]}
def ev_ma:List Dat→Tree (Nat×List Dat):=evF cs_la 41 ls0 S_ma
theorem e_ma: ∃op,IsF ev_ma 41 S_ma op:=bxF j4m (LsOk.none _ _ _)
def d4w:OpA:=opF e_ma
theorem q4n {n0 n1 n2 n3 n4 n5 n6 n7:Int}{l8:List (Ty.den TB)}{n9 n10 n11 n12 n13:Int}{l14:List (Ty.den TTm)}{b15 b16:Bool}(h0:(n0≥(1:Int)))(h1:(n0≤(4:Int)))(h2:(e4j [.l TI [n1,n2,n3,n4]])=(some (0,[.b b15])))(h3:(b15=true))(h4:(i4k [.l TTm l14])=(some (0,[.b b16]))):d4w [.n n0,.n n1,.n n2,.n n3,.n n4,.n n5,.n n6,.n n7,.l TB l8,.n n9,.n n10,.n n11,.n n12,.n n13,.l TTm l14]=some ((0,[.b b16])):=t2c e_ma (sT (dt h0)<|sT (dt h1)<|sA h2<|sP [1,1]<|sT h3<|sA h4<|sP [1,1,1]<|sL)
theorem s4x {n0 n1 n2 n3 n4 n5 n6 n7:Int}{l8:List (Ty.den TB)}{n9 n10 n11 n12 n13:Int}{l14:List (Ty.den TTm)}{b15:Bool}(h0:(n0≥(1:Int)))(h1:(n0≤(4:Int)))(h2:(e4j [.l TI [n1,n2,n3,n4]])=(some (0,[.b b15])))(h3:(b15=false)):d4w [.n n0,.n n1,.n n2,.n n3,.n n4,.n n5,.n n6,.n n7,.l TB l8,.n n9,.n n10,.n n11,.n n12,.n n13,.l TTm l14]=some ((0,[.b false])):=t2c e_ma (sT (dt h0)<|sT (dt h1)<|sA h2<|sP [1,1]<|sF h3<|sP [0,1]<|sL)
theorem s4j {n0 n1 n2 n3 n4 n5 n6 n7:Int}{l8:List (Ty.den TB)}{n9 n10 n11 n12 n13:Int}{l14:List (Ty.den TTm)}(h0:(n0≥(1:Int)))(h1:(¬n0≤(4:Int))):d4w [.n n0,.n n1,.n n2,.n n3,.n n4,.n n5,.n n6,.n n7,.l TB l8,.n n9,.n n10,.n n11,.n n12,.n n13,.l TTm l14]=some ((0,[.b false])):=t2c e_ma (sT (dt h0)<|sF (df h1)<|sP [0,0,0,1]<|sL)
theorem r4j {n0 n1 n2 n3 n4 n5 n6 n7:Int}{l8:List (Ty.den TB)}{n9 n10 n11 n12 n13:Int}{l14:List (Ty.den TTm)}(h0:(¬n0≥(1:Int))):d4w [.n n0,.n n1,.n n2,.n n3,.n n4,.n n5,.n n6,.n n7,.l TB l8,.n n9,.n n10,.n n11,.n n12,.n n13,.l TTm l14]=some ((0,[.b false])):=t2c e_ma (sF (df h0)<|sP [0,0,0,0,0,1]<|sL)
def cs_ma:FuncId→Option a0q:=a0s 41 (S_ma.k d4w) cs_la
theorem j4k:CsOk Try.prog cs_ma:=csL1 j4m e_ma
def S_mr:BSh:={args:=[msV 0 (.imm TTm 14)],blks:=[],log:=[],outs:=[(.bool 0,[])]}
def ev_mr:List Dat→Tree (Nat×List Dat):=evF cs_ma 63 ls0 S_mr
theorem e_mr: ∃op,IsF ev_mr 63 S_mr op:=bxF j4k (LsOk.none _ _ _)
def op_mr:OpA:=opF e_mr
def q4p:FuncId→Option a0q:=a0s 63 (S_mr.k op_mr) cs_ma
theorem h4j:CsOk Try.prog q4p:=csL1 j4k e_mr
def R_bs_3:LSh:={K:=0,log:=[],ins:=[(sh 49 [(0,.imm TLog 0),(2,fnV0 39),(4,.ptr 0 0),(8,.int .i64 1),(9,.int .i64 2),(10,.int .i64 3)],[lgB 4])],nils:=[],outs:=[(.exit 0,sh 49 [(0,.imm TLog 0),(2,fnV0 39),(4,.ptr 0 0),(8,.int .i64 1),(9,.int .i64 2)],[lgB 3])],cv:=[]}
def f4k:List Dat→Tree Step:=evL q4p 43 3 ls0 R_bs_3
theorem j4l: ∃op,IsL f4k 43 3 R_bs_3 op:=bxL h4j (LsOk.none _ _ _)
def i4m:OpA:=opL j4l
theorem k4c (env:List Dat):i4m env=a0b f4k FU env:=x3n j4l env
abbrev Bx_bs_3:MBox:=boxL j4l
theorem l4m {l0:List (Ty.den TLog)}{n1 n2 n3 n4 n5 n6 n7 n8:Int}{l9:List (Ty.den TB)}{n10 n11:Int}(g0:0≤n2)(g1:n3≤n1)(g2:n1=(l0.length:Int))(g3:n1≤100)(h0:(n2<n3))(h1:(inR (IntKind.wrap .i64 (ishr IntKind.u64 (IntKind.wrap .u64 (IntKind.wrap .i64 (n2+n3))) (1:Int))) (List.length l0)=true))(h2:(d4y [.n (Prod.fst (List.getD l0 (Int.toNat (IntKind.wrap .i64 (ishr IntKind.u64 (IntKind.wrap .u64 (IntKind.wrap .i64 (n2+n3))) (1:Int)))) (Ty.dflt TLog))),.n (Prod.fst (Prod.snd (List.getD l0 (Int.toNat (IntKind.wrap .i64 (ishr IntKind.u64 (IntKind.wrap .u64 (IntKind.wrap .i64 (n2+n3))) (1:Int)))) (Ty.dflt TLog)))),.n (Prod.fst (Prod.snd (Prod.snd (List.getD l0 (Int.toNat (IntKind.wrap .i64 (ishr IntKind.u64 (IntKind.wrap .u64 (IntKind.wrap .i64 (n2+n3))) (1:Int)))) (Ty.dflt TLog))))),.n (Prod.fst (Prod.snd (Prod.snd (Prod.snd (List.getD l0 (Int.toNat (IntKind.wrap .i64 (ishr IntKind.u64 (IntKind.wrap .u64 (IntKind.wrap .i64 (n2+n3))) (1:Int)))) (Ty.dflt TLog)))))),.n (Prod.fst (Prod.snd (Prod.snd (Prod.snd (Prod.snd (List.getD l0 (Int.toNat (IntKind.wrap .i64 (ishr IntKind.u64 (IntKind.wrap .u64 (IntKind.wrap .i64 (n2+n3))) (1:Int)))) (Ty.dflt TLog))))))),.l TB (Prod.fst (Prod.snd (Prod.snd (Prod.snd (Prod.snd (Prod.snd (List.getD l0 (Int.toNat (IntKind.wrap .i64 (ishr IntKind.u64 (IntKind.wrap .u64 (IntKind.wrap .i64 (n2+n3))) (1:Int)))) (Ty.dflt TLog)))))))),.n (Prod.snd (Prod.snd (Prod.snd (Prod.snd (Prod.snd (Prod.snd (List.getD l0 (Int.toNat (IntKind.wrap .i64 (ishr IntKind.u64 (IntKind.wrap .u64 (IntKind.wrap .i64 (n2+n3))) (1:Int)))) (Ty.dflt TLog)))))))),.n n4,.n n5,.n n6,.n n7,.n n8,.l TB l9,.n n10])=(some (0,[.n n11])))(h3:(n11<(0:Int))):(f4k [.k 0,.l TLog l0,.n n1,.n n2,.n n3,.n n4,.n n5,.n n6,.n n7,.n n8,.l TB l9,.n n10]).sel=some (Step.go [.k 0,.l TLog l0,.n n1,.n (IntKind.wrap .i64 (IntKind.wrap .i64 (ishr IntKind.u64 (IntKind.wrap .u64 (IntKind.wrap .i64 (n2+n3))) (1:Int))+(1:Int))),.n n3,.n n4,.n n5,.n n6,.n n7,.n n8,.l TB l9,.n n10]):=sP [1]<|sT (dt h0)<|sP [1]<|sT h1<|sA h2<|sP [1,1,1]<|sT (dt h3)<|sP [1]<|sL
theorem l4a {l0:List (Ty.den TLog)}{n1 n2 n3 n4 n5 n6 n7 n8:Int}{l9:List (Ty.den TB)}{n10 n11:Int}(g0:0≤n2)(g1:n3≤n1)(g2:n1=(l0.length:Int))(g3:n1≤100)(h0:(n2<n3))(h1:(inR (IntKind.wrap .i64 (ishr IntKind.u64 (IntKind.wrap .u64 (IntKind.wrap .i64 (n2+n3))) (1:Int))) (List.length l0)=true))(h2:(d4y [.n (Prod.fst (List.getD l0 (Int.toNat (IntKind.wrap .i64 (ishr IntKind.u64 (IntKind.wrap .u64 (IntKind.wrap .i64 (n2+n3))) (1:Int)))) (Ty.dflt TLog))),.n (Prod.fst (Prod.snd (List.getD l0 (Int.toNat (IntKind.wrap .i64 (ishr IntKind.u64 (IntKind.wrap .u64 (IntKind.wrap .i64 (n2+n3))) (1:Int)))) (Ty.dflt TLog)))),.n (Prod.fst (Prod.snd (Prod.snd (List.getD l0 (Int.toNat (IntKind.wrap .i64 (ishr IntKind.u64 (IntKind.wrap .u64 (IntKind.wrap .i64 (n2+n3))) (1:Int)))) (Ty.dflt TLog))))),.n (Prod.fst (Prod.snd (Prod.snd (Prod.snd (List.getD l0 (Int.toNat (IntKind.wrap .i64 (ishr IntKind.u64 (IntKind.wrap .u64 (IntKind.wrap .i64 (n2+n3))) (1:Int)))) (Ty.dflt TLog)))))),.n (Prod.fst (Prod.snd (Prod.snd (Prod.snd (Prod.snd (List.getD l0 (Int.toNat (IntKind.wrap .i64 (ishr IntKind.u64 (IntKind.wrap .u64 (IntKind.wrap .i64 (n2+n3))) (1:Int)))) (Ty.dflt TLog))))))),.l TB (Prod.fst (Prod.snd (Prod.snd (Prod.snd (Prod.snd (Prod.snd (List.getD l0 (Int.toNat (IntKind.wrap .i64 (ishr IntKind.u64 (IntKind.wrap .u64 (IntKind.wrap .i64 (n2+n3))) (1:Int)))) (Ty.dflt TLog)))))))),.n (Prod.snd (Prod.snd (Prod.snd (Prod.snd (Prod.snd (Prod.snd (List.getD l0 (Int.toNat (IntKind.wrap .i64 (ishr IntKind.u64 (IntKind.wrap .u64 (IntKind.wrap .i64 (n2+n3))) (1:Int)))) (Ty.dflt TLog)))))))),.n n4,.n n5,.n n6,.n n7,.n n8,.l TB l9,.n n10])=(some (0,[.n n11])))(h3:(¬n11<(0:Int))):(f4k [.k 0,.l TLog l0,.n n1,.n n2,.n n3,.n n4,.n n5,.n n6,.n n7,.n n8,.l TB l9,.n n10]).sel=some (Step.go [.k 0,.l TLog l0,.n n1,.n n2,.n (IntKind.wrap .i64 (ishr IntKind.u64 (IntKind.wrap .u64 (IntKind.wrap .i64 (n2+n3))) (1:Int))),.n n4,.n n5,.n n6,.n n7,.n n8,.l TB l9,.n n10]):=sP [1]<|sT (dt h0)<|sP [1]<|sT h1<|sA h2<|sP [1,1,1]<|sF (df h3)<|sP [1]<|sL
theorem k4p {l0:List (Ty.den TLog)}{n1 n2 n3 n4 n5 n6 n7 n8:Int}{l9:List (Ty.den TB)}{n10:Int}(g0:0≤n2)(g1:n3≤n1)(g2:n1=(l0.length:Int))(g3:n1≤100)(h0:(¬n2<n3)):(f4k [.k 0,.l TLog l0,.n n1,.n n2,.n n3,.n n4,.n n5,.n n6,.n n7,.n n8,.l TB l9,.n n10]).sel=some (Step.stop 0 [.l TLog l0,.n n1,.n n2,.n n4,.n n5,.n n6,.n n7,.n n8,.l TB l9,.n n10]):=sP [1]<|sF (df h0)<|sP [1]<|sL
def S_bs:BSh:={args:=[.imm TLog 0,lgV 1,fnV0 39],blks:=[],log:=[],outs:=[(.tup [.int .i64 0,.bool 1],[])]}
def ev_bs:List Dat→Tree (Nat×List Dat):=evF q4p 43 (lsM [(3,Bx_bs_3)] 0) S_bs
theorem e_bs: ∃op,IsF ev_bs 43 S_bs op:=bxF h4j (lsE (lsC (q3c j4l) (atF) lsZ))
def k4v:OpA:=opF e_bs
theorem p4f {l0:List (Ty.den TLog)}{n1 n2 n3 n4 n5:Int}{l6:List (Ty.den TB)}{n7:Int}{l8:List (Ty.den TLog)}{n9 n10 n11 n12 n13 n14 n15:Int}{l16:List (Ty.den TB)}{n17 n18:Int}(h0:(i4m [.k 0,.l TLog l0,.n (↑(List.length l0):Int),.n (0:Int),.n (↑(List.length l0):Int),.n n1,.n n2,.n n3,.n n4,.n n5,.l TB l6,.n n7])=(some (0,[.l TLog l8,.n n9,.n n10,.n n11,.n n12,.n n13,.n n14,.n n15,.l TB l16,.n n17])))(h1:(n10<n9))(h2:(inR n10 (List.length l8)=true))(h3:(d4y [.n (Prod.fst (List.getD l8 (Int.toNat n10) (Ty.dflt TLog))),.n (Prod.fst (Prod.snd (List.getD l8 (Int.toNat n10) (Ty.dflt TLog)))),.n (Prod.fst (Prod.snd (Prod.snd (List.getD l8 (Int.toNat n10) (Ty.dflt TLog))))),.n (Prod.fst (Prod.snd (Prod.snd (Prod.snd (List.getD l8 (Int.toNat n10) (Ty.dflt TLog)))))),.n (Prod.fst (Prod.snd (Prod.snd (Prod.snd (Prod.snd (List.getD l8 (Int.toNat n10) (Ty.dflt TLog))))))),.l TB (Prod.fst (Prod.snd (Prod.snd (Prod.snd (Prod.snd (Prod.snd (List.getD l8 (Int.toNat n10) (Ty.dflt TLog)))))))),.n (Prod.snd (Prod.snd (Prod.snd (Prod.snd (Prod.snd (Prod.snd (List.getD l8 (Int.toNat n10) (Ty.dflt TLog)))))))),.n n11,.n n12,.n n13,.n n14,.n n15,.l TB l16,.n n17])=(some (0,[.n n18]))):k4v [.l TLog l0,.n n1,.n n2,.n n3,.n n4,.n n5,.l TB l6,.n n7]=some ((0,[.n n10,.b (n18==(0:Int))])):=t2c e_bs (sA h0<|sP [1]<|sT (dt h1)<|sT h2<|sA h3<|sP [1,1,1,1]<|sL)
theorem s4r {l0:List (Ty.den TLog)}{n1 n2 n3 n4 n5:Int}{l6:List (Ty.den TB)}{n7:Int}{l8:List (Ty.den TLog)}{n9 n10 n11 n12 n13 n14 n15:Int}{l16:List (Ty.den TB)}{n17:Int}(h0:(i4m [.k 0,.l TLog l0,.n (↑(List.length l0):Int),.n (0:Int),.n (↑(List.length l0):Int),.n n1,.n n2,.n n3,.n n4,.n n5,.l TB l6,.n n7])=(some (0,[.l TLog l8,.n n9,.n n10,.n n11,.n n12,.n n13,.n n14,.n n15,.l TB l16,.n n17])))(h1:(¬n10<n9)):k4v [.l TLog l0,.n n1,.n n2,.n n3,.n n4,.n n5,.l TB l6,.n n7]=some ((0,[.n n10,.b false])):=t2c e_bs (sA h0<|sP [1]<|sF (df h1)<|sP [0,1,1]<|sL)
def p4p:FuncId→Option a0q:=a0s 43 (S_bs.k k4v) q4p
theorem h4s:CsOk Try.prog p4p:=csL1 h4j e_bs
def R_fw_5:LSh:={K:=0,log:=[],ins:=[(sh 35 [(0,.imm t0c 0),(3,.int .i64 1),(4,.int .i64 2)],[])],nils:=[],outs:=[(.exit 0,sh 35 [],[]),(.ret,sh 35 [(2,.bool 0)],[])],cv:=[]}
def st_fw_5:List Dat→Tree Step:=evL p4p 7 5 ls0 R_fw_5
theorem e_fw_5: ∃op,IsL st_fw_5 7 5 R_fw_5 op:=bxL h4s (LsOk.none _ _ _)
abbrev Bx_fw_5:MBox:=boxL e_fw_5
def S_fw:BSh:={args:=[.imm t0c 0],blks:=[],log:=[],outs:=[(.bool 0,[])]}
def ev_fw:List Dat→Tree (Nat×List Dat):=evF p4p 7 (lsM [(5,Bx_fw_5)] 0) S_fw
theorem e_fw: ∃op,IsF ev_fw 7 S_fw op:=bxF h4s (lsE (lsC (q3c e_fw_5) (atF) lsZ))
def op_fw:OpA:=opF e_fw
def cs_fw:FuncId→Option a0q:=a0s 7 (S_fw.k op_fw) p4p
theorem j4j:CsOk Try.prog cs_fw:=csL1 h4s e_fw
def S_of:BSh:={args:=[.ptr 0 0,lgV 0],blks:=[seB 1 7,.arr TLog 8],log:=[0,1],outs:=[(.int .i64 0,[seB 1 1,.arr TLog 2])]}
def ev_of:List Dat→Tree (Nat×List Dat):=evF cs_fw 12 ls0 S_of
theorem e_of: ∃op,IsF ev_of 12 S_of op:=bxF j4j (LsOk.none _ _ _)
def f4r:OpA:=opF e_of
theorem s4s {n0 n1 n2 n3 n4:Int}{l5:List (Ty.den TB)}{n6 n7:Int}{l8:List (Ty.den TLog)}{b9:Bool}(g0:l8.length≤100)(h0:((↑(List.length l8):Int)=(0:Int)))(h1:(e4j [.l TI [n0,n1]])=(some (0,[.b b9])))(h2:(b9=true))(h3:(¬(↑(List.length (apL l8 [(n0,n1,n2,n3,n4,l5,n6)])):Int)>(8:Int))):f4r [.n n0,.n n1,.n n2,.n n3,.n n4,.l TB l5,.n n6,.n n7,.l TLog l8]=some ((0,[.n (0:Int),.n n7,.l TLog (apL l8 [(n0,n1,n2,n3,n4,l5,n6)])])):=t2c e_of (sP [0,1,0]<|sT (bt h0)<|sP [1]<|sA h1<|sP [1,1]<|sF (nt h2)<|sP [0,0,0]<|sTo (c:=(decide ((List.length l8+1)*112≤140737488355328)))<|sP [1]<|sF (df h3)<|sP [1]<|sL)
theorem o4w {n0 n1 n2 n3 n4:Int}{l5:List (Ty.den TB)}{n6 n7:Int}{l8:List (Ty.den TLog)}{b9:Bool}{n10:Int}{l11:List (Ty.den TLog)}(g0:l8.length≤100)(h0:(¬(↑(List.length l8):Int)=(0:Int)))(h1:(e4j [.l TI [n0,n1]])=(some (0,[.b b9])))(h2:(b9=true))(h3:(d4y [.n n0,.n n1,.n n2,.n n3,.n n4,.l TB l5,.n n6,.n (Prod.fst (List.getD l8 (Int.toNat (IntKind.wrap .i64 ((↑(List.length l8):Int)-(1:Int)))) (Ty.dflt TLog))),.n (Prod.fst (Prod.snd (List.getD l8 (Int.toNat (IntKind.wrap .i64 ((↑(List.length l8):Int)-(1:Int)))) (Ty.dflt TLog)))),.n (Prod.fst (Prod.snd (Prod.snd (List.getD l8 (Int.toNat (IntKind.wrap .i64 ((↑(List.length l8):Int)-(1:Int)))) (Ty.dflt TLog))))),.n (Prod.fst (Prod.snd (Prod.snd (Prod.snd (List.getD l8 (Int.toNat (IntKind.wrap .i64 ((↑(List.length l8):Int)-(1:Int)))) (Ty.dflt TLog)))))),.n (Prod.fst (Prod.snd (Prod.snd (Prod.snd (Prod.snd (List.getD l8 (Int.toNat (IntKind.wrap .i64 ((↑(List.length l8):Int)-(1:Int)))) (Ty.dflt TLog))))))),.l TB (Prod.fst (Prod.snd (Prod.snd (Prod.snd (Prod.snd (Prod.snd (List.getD l8 (Int.toNat (IntKind.wrap .i64 ((↑(List.length l8):Int)-(1:Int)))) (Ty.dflt TLog)))))))),.n (Prod.snd (Prod.snd (Prod.snd (Prod.snd (Prod.snd (Prod.snd (List.getD l8 (Int.toNat (IntKind.wrap .i64 ((↑(List.length l8):Int)-(1:Int)))) (Ty.dflt TLog))))))))])=(some (0,[.n n10])))(h4:(¬n10≤(0:Int)))(h5:((↑(List.length (apL l8 [(n0,n1,n2,n3,n4,l5,n6)])):Int)>(8:Int)))(h6:(c4q [.n (0:Int),.n (1:Int),.l TLog (apL l8 [(n0,n1,n2,n3,n4,l5,n6)])])=(some (0,[.l TLog l11]))):f4r [.n n0,.n n1,.n n2,.n n3,.n n4,.l TB l5,.n n6,.n n7,.l TLog l8]=some ((0,[.n (0:Int),.n (imax (IntKind.wrap .i64 (n7-(1:Int))) (0:Int)),.l TLog l11])):=t2c e_of (sP [0,1,0]<|sF (bf h0)<|sTo (c:=(inR (IntKind.wrap .i64 ((↑(List.length l8):Int)-(1:Int))) (List.length l8)))<|sP [1,1]<|sA h1<|sP [1,1]<|sF (nt h2)<|sP [1]<|sA h3<|sP [1,1]<|sF (df h4)<|sTo (c:=(decide ((List.length l8+1)*112≤140737488355328)))<|sP [1]<|sT (dt h5)<|sP [1]<|sA h6<|sP [1,1,1]<|sL)
theorem r4p {n0 n1 n2 n3 n4:Int}{l5:List (Ty.den TB)}{n6 n7:Int}{l8:List (Ty.den TLog)}{b9:Bool}{n10:Int}(g0:l8.length≤100)(h0:(¬(↑(List.length l8):Int)=(0:Int)))(h1:(e4j [.l TI [n0,n1]])=(some (0,[.b b9])))(h2:(b9=true))(h3:(d4y [.n n0,.n n1,.n n2,.n n3,.n n4,.l TB l5,.n n6,.n (Prod.fst (List.getD l8 (Int.toNat (IntKind.wrap .i64 ((↑(List.length l8):Int)-(1:Int)))) (Ty.dflt TLog))),.n (Prod.fst (Prod.snd (List.getD l8 (Int.toNat (IntKind.wrap .i64 ((↑(List.length l8):Int)-(1:Int)))) (Ty.dflt TLog)))),.n (Prod.fst (Prod.snd (Prod.snd (List.getD l8 (Int.toNat (IntKind.wrap .i64 ((↑(List.length l8):Int)-(1:Int)))) (Ty.dflt TLog))))),.n (Prod.fst (Prod.snd (Prod.snd (Prod.snd (List.getD l8 (Int.toNat (IntKind.wrap .i64 ((↑(List.length l8):Int)-(1:Int)))) (Ty.dflt TLog)))))),.n (Prod.fst (Prod.snd (Prod.snd (Prod.snd (Prod.snd (List.getD l8 (Int.toNat (IntKind.wrap .i64 ((↑(List.length l8):Int)-(1:Int)))) (Ty.dflt TLog))))))),.l TB (Prod.fst (Prod.snd (Prod.snd (Prod.snd (Prod.snd (Prod.snd (List.getD l8 (Int.toNat (IntKind.wrap .i64 ((↑(List.length l8):Int)-(1:Int)))) (Ty.dflt TLog)))))))),.n (Prod.snd (Prod.snd (Prod.snd (Prod.snd (Prod.snd (Prod.snd (List.getD l8 (Int.toNat (IntKind.wrap .i64 ((↑(List.length l8):Int)-(1:Int)))) (Ty.dflt TLog))))))))])=(some (0,[.n n10])))(h4:(¬n10≤(0:Int)))(h5:(¬(↑(List.length (apL l8 [(n0,n1,n2,n3,n4,l5,n6)])):Int)>(8:Int))):f4r [.n n0,.n n1,.n n2,.n n3,.n n4,.l TB l5,.n n6,.n n7,.l TLog l8]=some ((0,[.n (0:Int),.n n7,.l TLog (apL l8 [(n0,n1,n2,n3,n4,l5,n6)])])):=t2c e_of (sP [0,1,0]<|sF (bf h0)<|sTo (c:=(inR (IntKind.wrap .i64 ((↑(List.length l8):Int)-(1:Int))) (List.length l8)))<|sP [1,1]<|sA h1<|sP [1,1]<|sF (nt h2)<|sP [1]<|sA h3<|sP [1,1]<|sF (df h4)<|sTo (c:=(decide ((List.length l8+1)*112≤140737488355328)))<|sP [1]<|sF (df h5)<|sP [1]<|sL)
def cs_of:FuncId→Option a0q:=e1c 12 [S_of.k f4r] cs_fw
theorem i4z:CsOk Try.prog cs_of:=csA1 j4j e_of
def S_or:BSh:={args:=[.ptr 0 0,lgV 0],blks:=[seB 1 7,.arr TLog 8],log:=[0,1],outs:=[(.int .i64 0,[seB 1 1,.arr TLog 2]),(.int .i64 0,[seB 2 1,.gone,.arr TLog 2])]}
def ev_or:List Dat→Tree (Nat×List Dat):=evF cs_of 28 ls0 S_or
theorem e_or: ∃op,IsF ev_or 28 S_or op:=bxF i4z (LsOk.none _ _ _)
def op_or:OpA:=opF e_or
def cs_or:FuncId→Option a0q:=e1c 28 [S_or.k op_or] cs_of
theorem j4y:CsOk Try.prog cs_or:=csA1 i4z e_or
def S_se:BSh:={args:=[.ptr 0 0],blks:=[seB 1 0,.arr TLog 1],log:=[],outs:=[(.tup [msV 0 .nilsl,.bool 14],[seB 1 15,.arr TLog 16]),(.tup [msV 0 (.own 2),.bool 14],[seB 1 15,.arr TLog 16,.arr TTm 17])]}
def ev_se:List Dat→Tree (Nat×List Dat):=evF cs_or 13 ls0 S_se
theorem e_se: ∃op,IsF ev_se 13 S_se op:=bxF j4y (LsOk.none _ _ _)
def f4p:OpA:=opF e_se
theorem r4h {n0:Int}{l1:List (Ty.den TLog)}(g0:0≤n0)(g1:n0≤(l1.length:Int))(g2:l1.length≤100)(h0:((↑(List.length l1):Int)=(0:Int))):f4p [.n n0,.l TLog l1]=some ((0,[.n (0:Int),.n (0:Int),.n (0:Int),.n (0:Int),.n (0:Int),.n (0:Int),.n (0:Int),.n (0:Int),.l TB (List.replicate 64 (0:Int)),.n (0:Int),.n (0:Int),.n (0:Int),.n (0:Int),.n (0:Int),.b false,.n n0,.l TLog l1])):=t2c e_se (sP [1,0]<|sT (bt h0)<|sP [1,1,1,1,1,1]<|sL)
theorem q4m {n0:Int}{l1:List (Ty.den TLog)}(g0:0≤n0)(g1:n0≤(l1.length:Int))(g2:l1.length≤100)(h0:(¬(↑(List.length l1):Int)=(0:Int)))(h1:(n0=(↑(List.length l1):Int))):f4p [.n n0,.l TLog l1]=some ((0,[.n (0:Int),.n (0:Int),.n (0:Int),.n (0:Int),.n (0:Int),.n (0:Int),.n (0:Int),.n (0:Int),.l TB (List.replicate 64 (0:Int)),.n (0:Int),.n (0:Int),.n (0:Int),.n (0:Int),.n (0:Int),.b false,.n n0,.l TLog l1])):=t2c e_se (sP [1,0]<|sF (bf h0)<|sTo (c:=(inR (IntKind.wrap .i64 ((↑(List.length l1):Int)-(1:Int))) (List.length l1)))<|sP [1,1,0,1]<|sT (bt h1)<|sP [1]<|sL)
theorem p4h {n0:Int}{l1:List (Ty.den TLog)}(g0:0≤n0)(g1:n0≤(l1.length:Int))(g2:l1.length≤100)(h0:(¬(↑(List.length l1):Int)=(0:Int)))(h1:(¬n0=(↑(List.length l1):Int)))(h2:(n0=(0:Int))):f4p [.n n0,.l TLog l1]=some ((0,[.n (1:Int),.n (Prod.fst (List.getD l1 (Int.toNat (IntKind.wrap .i64 ((↑(List.length l1):Int)-(1:Int)))) (Ty.dflt TLog))),.n (Prod.fst (Prod.snd (List.getD l1 (Int.toNat (IntKind.wrap .i64 ((↑(List.length l1):Int)-(1:Int)))) (Ty.dflt TLog)))),.n (0:Int),.n (0:Int),.n (Prod.fst (Prod.snd (Prod.snd (List.getD l1 (Int.toNat (IntKind.wrap .i64 ((↑(List.length l1):Int)-(1:Int)))) (Ty.dflt TLog))))),.n (Prod.fst (Prod.snd (Prod.snd (Prod.snd (List.getD l1 (Int.toNat (IntKind.wrap .i64 ((↑(List.length l1):Int)-(1:Int)))) (Ty.dflt TLog)))))),.n (Prod.fst (Prod.snd (Prod.snd (Prod.snd (Prod.snd (List.getD l1 (Int.toNat (IntKind.wrap .i64 ((↑(List.length l1):Int)-(1:Int)))) (Ty.dflt TLog))))))),.l TB (Prod.fst (Prod.snd (Prod.snd (Prod.snd (Prod.snd (Prod.snd (List.getD l1 (Int.toNat (IntKind.wrap .i64 ((↑(List.length l1):Int)-(1:Int)))) (Ty.dflt TLog)))))))),.n (Prod.snd (Prod.snd (Prod.snd (Prod.snd (Prod.snd (Prod.snd (List.getD l1 (Int.toNat (IntKind.wrap .i64 ((↑(List.length l1):Int)-(1:Int)))) (Ty.dflt TLog)))))))),.n (0:Int),.n (0:Int),.n (0:Int),.n (0:Int),.b true,.n n0,.l TLog l1])):=t2c e_se (sP [1,0]<|sF (bf h0)<|sTo (c:=(inR (IntKind.wrap .i64 ((↑(List.length l1):Int)-(1:Int))) (List.length l1)))<|sP [1,1,0,1]<|sF (bf h1)<|sP [1,0]<|sT (bt h2)<|sP [1,0,1]<|sL)
theorem s4d {n0:Int}{l1:List (Ty.den TLog)}{n2 n3 n4 n5:Int}{l6:List (Ty.den TTm)}(g0:0≤n0)(g1:n0≤(l1.length:Int))(g2:l1.length≤100)(h0:(¬(↑(List.length l1):Int)=(0:Int)))(h1:(¬n0=(↑(List.length l1):Int)))(h2:(¬n0=(0:Int)))(h3:(k4m [.n (Prod.fst (Prod.snd (Prod.snd (List.getD l1 (Int.toNat (IntKind.wrap .i64 (n0-(1:Int)))) (Ty.dflt TLog))))),.n (Prod.fst (Prod.snd (Prod.snd (Prod.snd (List.getD l1 (Int.toNat (IntKind.wrap .i64 (n0-(1:Int)))) (Ty.dflt TLog)))))),.n (Prod.fst (Prod.snd (Prod.snd (Prod.snd (Prod.snd (List.getD l1 (Int.toNat (IntKind.wrap .i64 (n0-(1:Int)))) (Ty.dflt TLog))))))),.l TB (Prod.fst (Prod.snd (Prod.snd (Prod.snd (Prod.snd (Prod.snd (List.getD l1 (Int.toNat (IntKind.wrap .i64 (n0-(1:Int)))) (Ty.dflt TLog)))))))),.n (Prod.snd (Prod.snd (Prod.snd (Prod.snd (Prod.snd (Prod.snd (List.getD l1 (Int.toNat (IntKind.wrap .i64 (n0-(1:Int)))) (Ty.dflt TLog)))))))),.n (Prod.fst (Prod.snd (Prod.snd (List.getD l1 (Int.toNat (IntKind.wrap .i64 ((↑(List.length l1):Int)-(1:Int)))) (Ty.dflt TLog))))),.n (Prod.fst (Prod.snd (Prod.snd (Prod.snd (List.getD l1 (Int.toNat (IntKind.wrap .i64 ((↑(List.length l1):Int)-(1:Int)))) (Ty.dflt TLog)))))),.n (Prod.fst (Prod.snd (Prod.snd (Prod.snd (Prod.snd (List.getD l1 (Int.toNat (IntKind.wrap .i64 ((↑(List.length l1):Int)-(1:Int)))) (Ty.dflt TLog))))))),.l TB (Prod.fst (Prod.snd (Prod.snd (Prod.snd (Prod.snd (Prod.snd (List.getD l1 (Int.toNat (IntKind.wrap .i64 ((↑(List.length l1):Int)-(1:Int)))) (Ty.dflt TLog)))))))),.n (Prod.snd (Prod.snd (Prod.snd (Prod.snd (Prod.snd (Prod.snd (List.getD l1 (Int.toNat (IntKind.wrap .i64 ((↑(List.length l1):Int)-(1:Int)))) (Ty.dflt TLog))))))))])=(some (0,[.n n2,.n n3,.n n4,.n n5,.l TTm l6]))):f4p [.n n0,.l TLog l1]=some ((1,[.n (2:Int),.n (Prod.fst (List.getD l1 (Int.toNat (IntKind.wrap .i64 ((↑(List.length l1):Int)-(1:Int)))) (Ty.dflt TLog))),.n (Prod.fst (Prod.snd (List.getD l1 (Int.toNat (IntKind.wrap .i64 ((↑(List.length l1):Int)-(1:Int)))) (Ty.dflt TLog)))),.n (Prod.fst (List.getD l1 (Int.toNat (IntKind.wrap .i64 (n0-(1:Int)))) (Ty.dflt TLog))),.n (Prod.fst (Prod.snd (List.getD l1 (Int.toNat (IntKind.wrap .i64 (n0-(1:Int)))) (Ty.dflt TLog)))),.n (0:Int),.n (0:Int),.n (0:Int),.l TB (List.replicate 64 (0:Int)),.n (0:Int),.n n2,.n n3,.n n4,.n n5,.b true,.n n0,.l TLog l1,.l TTm l6])):=t2c e_se (sP [1,0]<|sF (bf h0)<|sTo (c:=(inR (IntKind.wrap .i64 ((↑(List.length l1):Int)-(1:Int))) (List.length l1)))<|sP [1,1,0,1]<|sF (bf h1)<|sP [1,0]<|sF (bf h2)<|sTo (c:=(inR (IntKind.wrap .i64 (n0-(1:Int))) (List.length l1)))<|sP [1,1,1]<|sA h3<|sP [1,1,1,1]<|sL)
def cs_se:FuncId→Option a0q:=e1c 13 [S_se.k f4p] cs_or
theorem j4s:CsOk Try.prog cs_se:=csA1 j4y e_se
def S_sr:BSh:={args:=[.ptr 0 0],blks:=[seB 1 0,.arr TLog 1],log:=[],outs:=[(.tup [msV 0 .nilsl,.bool 14],[seB 1 15,.arr TLog 16]),(.tup [msV 0 (.own 2),.bool 14],[seB 1 15,.arr TLog 16,.arr TTm 17])]}
def ev_sr:List Dat→Tree (Nat×List Dat):=evF cs_se 34 ls0 S_sr
theorem e_sr: ∃op,IsF ev_sr 34 S_sr op:=bxF j4s (LsOk.none _ _ _)
def op_sr:OpA:=opF e_sr
def cs_sr:FuncId→Option a0q:=e1c 34 [S_sr.k op_sr] cs_se
theorem i4s:CsOk Try.prog cs_sr:=csA1 j4s e_sr
def S_he:BSh:={args:=[.ptr 0 0,msV 0 (.imn TTm 14)],blks:=[seB 1 15,.arr TLog 16],log:=[0],outs:=[(.int .i64 0,[seB 1 1,.arr TLog 2])]}
def ev_he:List Dat→Tree (Nat×List Dat):=evF cs_sr 16 ls0 S_he
theorem e_he: ∃op,IsF ev_he 16 S_he op:=bxF i4s (LsOk.none _ _ _)
def h4c:OpA:=opF e_he
theorem r4r {n0 n1 n2 n3 n4 n5 n6 n7:Int}{l8:List (Ty.den TB)}{n9 n10 n11 n12 n13:Int}{l14:List (Ty.den TTm)}{n15:Int}{l16:List (Ty.den TLog)}{b17:Bool}(h0:(d4w [.n n0,.n n1,.n n2,.n n3,.n n4,.n n5,.n n6,.n n7,.l TB l8,.n n9,.n n10,.n n11,.n n12,.n n13,.l TTm l14])=(some (0,[.b b17])))(h1:(b17=true))(h2:(¬n0=(3:Int)))(h3:(n0=(4:Int))):h4c [.n n0,.n n1,.n n2,.n n3,.n n4,.n n5,.n n6,.n n7,.l TB l8,.n n9,.n n10,.n n11,.n n12,.n n13,.l TTm l14,.n n15,.l TLog l16]=some ((0,[.n (0:Int),.n (0:Int),.l TLog l16])):=t2c e_he (sP [0]<|sA h0<|sP [1,1]<|sF (nt h1)<|sT (bnt h2)<|sF (bnf h3)<|sTs (c:=(n0==(4:Int)))<|sP [1]<|sL)
theorem p4g {n0 n1 n2 n3 n4 n5 n6 n7:Int}{l8:List (Ty.den TB)}{n9 n10 n11 n12 n13:Int}{l14:List (Ty.den TTm)}{n15:Int}{l16:List (Ty.den TLog)}{b17:Bool}{n18:Int}{b19:Bool}(h0:(d4w [.n n0,.n n1,.n n2,.n n3,.n n4,.n n5,.n n6,.n n7,.l TB l8,.n n9,.n n10,.n n11,.n n12,.n n13,.l TTm l14])=(some (0,[.b b17])))(h1:(b17=true))(h2:(n0=(3:Int)))(h3:(k4v [.l TLog l16,.n n1,.n n2,.n (0:Int),.n (0:Int),.n (0:Int),.l TB (List.replicate 64 (0:Int)),.n (0:Int)])=(some (0,[.n n18,.b b19])))(h4:(b19=true)):h4c [.n n0,.n n1,.n n2,.n n3,.n n4,.n n5,.n n6,.n n7,.l TB l8,.n n9,.n n10,.n n11,.n n12,.n n13,.l TTm l14,.n n15,.l TLog l16]=some ((0,[.n (0:Int),.n (imax n15 (IntKind.wrap .i64 (n18+(1:Int)))),.l TLog l16])):=t2c e_he (sP [0]<|sA h0<|sP [1,1]<|sF (nt h1)<|sF (bnf h2)<|sP [0,0]<|sFs (c:=(n0==(4:Int)))<|sA h3<|sP [1,1,1]<|sT h4<|sP [1]<|sL)
theorem t4f {n0 n1 n2 n3 n4 n5 n6 n7:Int}{l8:List (Ty.den TB)}{n9 n10 n11 n12 n13:Int}{l14:List (Ty.den TTm)}{n15:Int}{l16:List (Ty.den TLog)}{b17:Bool}{n18:Int}{b19:Bool}(h0:(d4w [.n n0,.n n1,.n n2,.n n3,.n n4,.n n5,.n n6,.n n7,.l TB l8,.n n9,.n n10,.n n11,.n n12,.n n13,.l TTm l14])=(some (0,[.b b17])))(h1:(b17=true))(h2:(n0=(3:Int)))(h3:(k4v [.l TLog l16,.n n1,.n n2,.n (0:Int),.n (0:Int),.n (0:Int),.l TB (List.replicate 64 (0:Int)),.n (0:Int)])=(some (0,[.n n18,.b b19])))(h4:(b19=false)):h4c [.n n0,.n n1,.n n2,.n n3,.n n4,.n n5,.n n6,.n n7,.l TB l8,.n n9,.n n10,.n n11,.n n12,.n n13,.l TTm l14,.n n15,.l TLog l16]=some ((0,[.n (0:Int),.n n15,.l TLog l16])):=t2c e_he (sP [0]<|sA h0<|sP [1,1]<|sF (nt h1)<|sF (bnf h2)<|sP [0,0]<|sFs (c:=(n0==(4:Int)))<|sA h3<|sP [1,1,1]<|sF h4<|sP [1]<|sL)
def k4n:FuncId→Option a0q:=e1c 16 [S_he.k h4c] cs_sr
theorem f4c:CsOk Try.prog k4n:=csA1 i4s e_he
def R_hr_7:LSh:={K:=2,log:=[0],ins:=[(sh 65 [(0,.ptr 0 0),(3,.ptr 2 0),(5,.int .i64 0)],[seB 1 1,.arr TLog 2,msB 3 (.imn TTm 17)])],nils:=[],outs:=[(.exit 0,sh 65 [],[seB 1 0,.arr TLog 1])],cv:=[]}
def st_hr_7:List Dat→Tree Step:=evL k4n 30 7 ls0 R_hr_7
theorem e_hr_7: ∃op,IsL st_hr_7 30 7 R_hr_7 op:=bxL f4c (LsOk.none _ _ _)
abbrev Bx_hr_7:MBox:=boxL e_hr_7
def S_hr:BSh:={args:=[.ptr 0 0,msV 0 (.imn TTm 14)],blks:=[seB 1 15,.arr TLog 16],log:=[0],outs:=[(.int .i64 0,[seB 1 1,.arr TLog 2])]}
def ev_hr:List Dat→Tree (Nat×List Dat):=evF k4n 30 (lsM [(7,Bx_hr_7)] 2) S_hr
theorem e_hr: ∃op,IsF ev_hr 30 S_hr op:=bxF f4c (lsE (lsC (q3c e_hr_7) (atF) lsZ))
def op_hr:OpA:=opF e_hr
def m4j:LSh:={K:=3,log:=[0],ins:=[(sh 65 [(0,.ptr 0 0),(3,.ptr 3 0),(5,.int .i64 0)],[seB 2 1,.arr TTm 2,.arr TLog 3,msB 4 (.own 1)])],nils:=[],outs:=[(.exit 0,sh 65 [],[seB 2 0,.arr TTm 1,.arr TLog 2])],cv:=[]}
def e4e:List Dat→Tree Step:=evL k4n 30 7 ls0 m4j
theorem h4p: ∃op,IsL e4e 30 7 m4j op:=bxL f4c (LsOk.none _ _ _)
abbrev s4k:MBox:=boxL h4p
def S_hro:BSh:={args:=[.ptr 0 0,msV 0 (.own 1)],blks:=[seB 2 14,.arr TTm 15,.arr TLog 16],log:=[0],outs:=[(.int .i64 0,[seB 2 1,.arr TTm 2,.arr TLog 3])]}
def ev_hro:List Dat→Tree (Nat×List Dat):=evF k4n 30 (lsM [(7,s4k)] 3) S_hro
theorem e_hro: ∃op,IsF ev_hro 30 S_hro op:=bxF f4c (lsE (lsC (q3c h4p) (atF) lsZ))
def op_hro:OpA:=opF e_hro
def j4d:FuncId→Option a0q:=e1c 30 [S_hr.k op_hr,S_hro.k op_hro] k4n
theorem g4z:CsOk Try.prog j4d:=h0a f4c fun B hB=>by
 simp only[List.mem_cons,List.not_mem_nil,or_false]at hB
 rcases hB with rfl|rfl
 ·exact c4a e_hr
 ·exact c4a e_hro
def S_rh:BSh:={args:=[.ptr 0 0,msV 0 (.imn TTm 14)],blks:=[reB 15],log:=[0],outs:=[(.tup [msV 0 .nilsl,.bool 14,.int .i64 15],[reB 16])]}
def ev_rh:List Dat→Tree (Nat×List Dat):=evF j4d 14 ls0 S_rh
theorem e_rh: ∃op,IsF ev_rh 14 S_rh op:=bxF g4z (LsOk.none _ _ _)
def e4w:OpA:=opF e_rh
theorem p4l {n0 n1 n2 n3 n4 n5 n6 n7:Int}{l8:List (Ty.den TB)}{n9 n10 n11 n12 n13:Int}{l14:List (Ty.den TTm)}{n15 n16 n17 n18 n19:Int}{l20:List (Ty.den TB)}{n21:Int}{b22 b23:Bool}{n24:Int}(h0:(d4w [.n n0,.n n1,.n n2,.n n3,.n n4,.n n5,.n n6,.n n7,.l TB l8,.n n9,.n n10,.n n11,.n n12,.n n13,.l TTm l14])=(some (0,[.b b23])))(h1:(b23=true))(h2:(¬n0=(1:Int)))(h3:(n0=(2:Int)))(h4:(b22=true))(h5:(d4y [.n n1,.n n2,.n n5,.n n6,.n n7,.l TB l8,.n n9,.n n15,.n n16,.n n17,.n n18,.n n19,.l TB l20,.n n21])=(some (0,[.n n24])))(h6:(n24≤(0:Int))):e4w [.n n0,.n n1,.n n2,.n n3,.n n4,.n n5,.n n6,.n n7,.l TB l8,.n n9,.n n10,.n n11,.n n12,.n n13,.l TTm l14,.n n15,.n n16,.n n17,.n n18,.n n19,.l TB l20,.n n21,.b b22]=some ((0,[.n (3:Int),.n n15,.n n16,.n (0:Int),.n (0:Int),.n (0:Int),.n (0:Int),.n (0:Int),.l TB (List.replicate 64 (0:Int)),.n (0:Int),.n (0:Int),.n (0:Int),.n (0:Int),.n (0:Int),.b false,.n (0:Int),.n n15,.n n16,.n n17,.n n18,.n n19,.l TB l20,.n n21,.b b22])):=t2c e_rh (sP [0]<|sA h0<|sP [1,1]<|sF (nt h1)<|sT (bnt h2)<|sF (bnf h3)<|sT h4<|sA h5<|sP [1,1,1]<|sT (dt h6)<|sP [1,1,1,1]<|sL)
theorem r4z {n0 n1 n2 n3 n4 n5 n6 n7:Int}{l8:List (Ty.den TB)}{n9 n10 n11 n12 n13:Int}{l14:List (Ty.den TTm)}{n15 n16 n17 n18 n19:Int}{l20:List (Ty.den TB)}{n21:Int}{b22 b23:Bool}{n24:Int}(h0:(d4w [.n n0,.n n1,.n n2,.n n3,.n n4,.n n5,.n n6,.n n7,.l TB l8,.n n9,.n n10,.n n11,.n n12,.n n13,.l TTm l14])=(some (0,[.b b23])))(h1:(b23=true))(h2:(¬n0=(1:Int)))(h3:(n0=(2:Int)))(h4:(b22=true))(h5:(d4y [.n n1,.n n2,.n n5,.n n6,.n n7,.l TB l8,.n n9,.n n15,.n n16,.n n17,.n n18,.n n19,.l TB l20,.n n21])=(some (0,[.n n24])))(h6:(¬n24≤(0:Int)))(h7:(¬n3=n15)):e4w [.n n0,.n n1,.n n2,.n n3,.n n4,.n n5,.n n6,.n n7,.l TB l8,.n n9,.n n10,.n n11,.n n12,.n n13,.l TTm l14,.n n15,.n n16,.n n17,.n n18,.n n19,.l TB l20,.n n21,.b b22]=some ((0,[.n (4:Int),.n (0:Int),.n (0:Int),.n (0:Int),.n (0:Int),.n (0:Int),.n (0:Int),.n (0:Int),.l TB (List.replicate 64 (0:Int)),.n (0:Int),.n (0:Int),.n (0:Int),.n (0:Int),.n (0:Int),.b false,.n (0:Int),.n n15,.n n16,.n n17,.n n18,.n n19,.l TB l20,.n n21,.b b22])):=t2c e_rh (sP [0]<|sA h0<|sP [1,1]<|sF (nt h1)<|sT (bnt h2)<|sF (bnf h3)<|sT h4<|sA h5<|sP [1,1,1]<|sF (df h6)<|sTs (c:=(n0==(2:Int)))<|sFs (c:=(!b22))<|sT (bnt h7)<|sP [1,1,1,1]<|sL)
theorem r4t {n0 n1 n2 n3 n4 n5 n6 n7:Int}{l8:List (Ty.den TB)}{n9 n10 n11 n12 n13:Int}{l14:List (Ty.den TTm)}{n15 n16 n17 n18 n19:Int}{l20:List (Ty.den TB)}{n21:Int}{b22 b23:Bool}{n24:Int}(h0:(d4w [.n n0,.n n1,.n n2,.n n3,.n n4,.n n5,.n n6,.n n7,.l TB l8,.n n9,.n n10,.n n11,.n n12,.n n13,.l TTm l14])=(some (0,[.b b23])))(h1:(b23=true))(h2:(¬n0=(1:Int)))(h3:(n0=(2:Int)))(h4:(b22=true))(h5:(d4y [.n n1,.n n2,.n n5,.n n6,.n n7,.l TB l8,.n n9,.n n15,.n n16,.n n17,.n n18,.n n19,.l TB l20,.n n21])=(some (0,[.n n24])))(h6:(¬n24≤(0:Int)))(h7:(n3=n15))(h8:(¬n4=n16)):e4w [.n n0,.n n1,.n n2,.n n3,.n n4,.n n5,.n n6,.n n7,.l TB l8,.n n9,.n n10,.n n11,.n n12,.n n13,.l TTm l14,.n n15,.n n16,.n n17,.n n18,.n n19,.l TB l20,.n n21,.b b22]=some ((0,[.n (4:Int),.n (0:Int),.n (0:Int),.n (0:Int),.n (0:Int),.n (0:Int),.n (0:Int),.n (0:Int),.l TB (List.replicate 64 (0:Int)),.n (0:Int),.n (0:Int),.n (0:Int),.n (0:Int),.n (0:Int),.b false,.n (0:Int),.n n15,.n n16,.n n17,.n n18,.n n19,.l TB l20,.n n21,.b b22])):=t2c e_rh (sP [0]<|sA h0<|sP [1,1]<|sF (nt h1)<|sT (bnt h2)<|sF (bnf h3)<|sT h4<|sA h5<|sP [1,1,1]<|sF (df h6)<|sTs (c:=(n0==(2:Int)))<|sFs (c:=(!b22))<|sF (bnf h7)<|sP [1]<|sT (bnt h8)<|sP [1]<|sL)
theorem s4q {n0 n1 n2 n3 n4 n5 n6 n7:Int}{l8:List (Ty.den TB)}{n9 n10 n11 n12 n13:Int}{l14:List (Ty.den TTm)}{n15 n16 n17 n18 n19:Int}{l20:List (Ty.den TB)}{n21:Int}{b22 b23:Bool}{n24 n25 n26 n27:Int}{l28:List (Ty.den TB)}{n29 n30:Int}(h0:(d4w [.n n0,.n n1,.n n2,.n n3,.n n4,.n n5,.n n6,.n n7,.l TB l8,.n n9,.n n10,.n n11,.n n12,.n n13,.l TTm l14])=(some (0,[.b b23])))(h1:(b23=true))(h2:(¬n0=(1:Int)))(h3:(n0=(2:Int)))(h4:(b22=true))(h5:(d4y [.n n1,.n n2,.n n5,.n n6,.n n7,.l TB l8,.n n9,.n n15,.n n16,.n n17,.n n18,.n n19,.l TB l20,.n n21])=(some (0,[.n n24])))(h6:(¬n24≤(0:Int)))(h7:(n3=n15))(h8:(n4=n16))(h9:(i4j [.n n17,.n n18,.n n19,.l TB l20,.n n21,.n n10,.n n11,.n n12,.n n13,.l TTm l14])=(some (0,[.n n25,.n n26,.n n27,.l TB l28,.n n29,.n n30]))):e4w [.n n0,.n n1,.n n2,.n n3,.n n4,.n n5,.n n6,.n n7,.l TB l8,.n n9,.n n10,.n n11,.n n12,.n n13,.l TTm l14,.n n15,.n n16,.n n17,.n n18,.n n19,.l TB l20,.n n21,.b b22]=some ((0,[.n (3:Int),.n n1,.n n2,.n (0:Int),.n (0:Int),.n (0:Int),.n (0:Int),.n (0:Int),.l TB (List.replicate 64 (0:Int)),.n (0:Int),.n (0:Int),.n (0:Int),.n (0:Int),.n (0:Int),.b true,.n (0:Int),.n n1,.n n2,.n n25,.n n26,.n n27,.l TB l28,.n n29,.b true])):=t2c e_rh (sP [0]<|sA h0<|sP [1,1]<|sF (nt h1)<|sT (bnt h2)<|sF (bnf h3)<|sT h4<|sA h5<|sP [1,1,1]<|sF (df h6)<|sTs (c:=(n0==(2:Int)))<|sFs (c:=(!b22))<|sF (bnf h7)<|sP [1]<|sF (bnf h8)<|sA h9<|sP [1,1,1,1,1,1,1]<|sL)
theorem r4g {n0 n1 n2 n3 n4 n5 n6 n7:Int}{l8:List (Ty.den TB)}{n9 n10 n11 n12 n13:Int}{l14:List (Ty.den TTm)}{n15 n16 n17 n18 n19:Int}{l20:List (Ty.den TB)}{n21:Int}{b22 b23:Bool}(h0:(d4w [.n n0,.n n1,.n n2,.n n3,.n n4,.n n5,.n n6,.n n7,.l TB l8,.n n9,.n n10,.n n11,.n n12,.n n13,.l TTm l14])=(some (0,[.b b23])))(h1:(b23=true))(h2:(¬n0=(1:Int)))(h3:(n0=(2:Int)))(h4:(b22=false)):e4w [.n n0,.n n1,.n n2,.n n3,.n n4,.n n5,.n n6,.n n7,.l TB l8,.n n9,.n n10,.n n11,.n n12,.n n13,.l TTm l14,.n n15,.n n16,.n n17,.n n18,.n n19,.l TB l20,.n n21,.b b22]=some ((0,[.n (4:Int),.n (0:Int),.n (0:Int),.n (0:Int),.n (0:Int),.n (0:Int),.n (0:Int),.n (0:Int),.l TB (List.replicate 64 (0:Int)),.n (0:Int),.n (0:Int),.n (0:Int),.n (0:Int),.n (0:Int),.b false,.n (0:Int),.n n15,.n n16,.n n17,.n n18,.n n19,.l TB l20,.n n21,.b b22])):=t2c e_rh (sP [0]<|sA h0<|sP [1,1]<|sF (nt h1)<|sT (bnt h2)<|sF (bnf h3)<|sF h4<|sP [0,1,0]<|sTs (c:=(n0==(2:Int)))<|sTs (c:=(!b22))<|sP [1,1,1,1,1,1]<|sL)
theorem q4f {n0 n1 n2 n3 n4 n5 n6 n7:Int}{l8:List (Ty.den TB)}{n9 n10 n11 n12 n13:Int}{l14:List (Ty.den TTm)}{n15 n16 n17 n18 n19:Int}{l20:List (Ty.den TB)}{n21:Int}{b22 b23:Bool}{n24:Int}(h0:(d4w [.n n0,.n n1,.n n2,.n n3,.n n4,.n n5,.n n6,.n n7,.l TB l8,.n n9,.n n10,.n n11,.n n12,.n n13,.l TTm l14])=(some (0,[.b b23])))(h1:(b23=true))(h2:(n0=(1:Int)))(h3:(b22=true))(h4:(d4y [.n n1,.n n2,.n n5,.n n6,.n n7,.l TB l8,.n n9,.n n15,.n n16,.n n17,.n n18,.n n19,.l TB l20,.n n21])=(some (0,[.n n24])))(h5:(n24≤(0:Int))):e4w [.n n0,.n n1,.n n2,.n n3,.n n4,.n n5,.n n6,.n n7,.l TB l8,.n n9,.n n10,.n n11,.n n12,.n n13,.l TTm l14,.n n15,.n n16,.n n17,.n n18,.n n19,.l TB l20,.n n21,.b b22]=some ((0,[.n (3:Int),.n n15,.n n16,.n (0:Int),.n (0:Int),.n (0:Int),.n (0:Int),.n (0:Int),.l TB (List.replicate 64 (0:Int)),.n (0:Int),.n (0:Int),.n (0:Int),.n (0:Int),.n (0:Int),.b false,.n (0:Int),.n n15,.n n16,.n n17,.n n18,.n n19,.l TB l20,.n n21,.b b22])):=t2c e_rh (sP [0]<|sA h0<|sP [1,1]<|sF (nt h1)<|sF (bnf h2)<|sP [0,0]<|sT h3<|sA h4<|sP [1,1,1]<|sT (dt h5)<|sP [1,1,1,1]<|sL)
theorem s4a {n0 n1 n2 n3 n4 n5 n6 n7:Int}{l8:List (Ty.den TB)}{n9 n10 n11 n12 n13:Int}{l14:List (Ty.den TTm)}{n15 n16 n17 n18 n19:Int}{l20:List (Ty.den TB)}{n21:Int}{b22 b23:Bool}{n24:Int}(h0:(d4w [.n n0,.n n1,.n n2,.n n3,.n n4,.n n5,.n n6,.n n7,.l TB l8,.n n9,.n n10,.n n11,.n n12,.n n13,.l TTm l14])=(some (0,[.b b23])))(h1:(b23=true))(h2:(n0=(1:Int)))(h3:(b22=true))(h4:(d4y [.n n1,.n n2,.n n5,.n n6,.n n7,.l TB l8,.n n9,.n n15,.n n16,.n n17,.n n18,.n n19,.l TB l20,.n n21])=(some (0,[.n n24])))(h5:(¬n24≤(0:Int))):e4w [.n n0,.n n1,.n n2,.n n3,.n n4,.n n5,.n n6,.n n7,.l TB l8,.n n9,.n n10,.n n11,.n n12,.n n13,.l TTm l14,.n n15,.n n16,.n n17,.n n18,.n n19,.l TB l20,.n n21,.b b22]=some ((0,[.n (3:Int),.n n1,.n n2,.n (0:Int),.n (0:Int),.n (0:Int),.n (0:Int),.n (0:Int),.l TB (List.replicate 64 (0:Int)),.n (0:Int),.n (0:Int),.n (0:Int),.n (0:Int),.n (0:Int),.b true,.n (0:Int),.n n1,.n n2,.n n5,.n n6,.n n7,.l TB l8,.n n9,.b true])):=t2c e_rh (sP [0]<|sA h0<|sP [1,1]<|sF (nt h1)<|sF (bnf h2)<|sP [0,0]<|sT h3<|sA h4<|sP [1,1,1]<|sF (df h5)<|sFs (c:=(n0==(2:Int)))<|sP [1,1,1,1]<|sL)
theorem t4d {n0 n1 n2 n3 n4 n5 n6 n7:Int}{l8:List (Ty.den TB)}{n9 n10 n11 n12 n13:Int}{l14:List (Ty.den TTm)}{n15 n16 n17 n18 n19:Int}{l20:List (Ty.den TB)}{n21:Int}{b22 b23:Bool}(h0:(d4w [.n n0,.n n1,.n n2,.n n3,.n n4,.n n5,.n n6,.n n7,.l TB l8,.n n9,.n n10,.n n11,.n n12,.n n13,.l TTm l14])=(some (0,[.b b23])))(h1:(b23=true))(h2:(n0=(1:Int)))(h3:(b22=false)):e4w [.n n0,.n n1,.n n2,.n n3,.n n4,.n n5,.n n6,.n n7,.l TB l8,.n n9,.n n10,.n n11,.n n12,.n n13,.l TTm l14,.n n15,.n n16,.n n17,.n n18,.n n19,.l TB l20,.n n21,.b b22]=some ((0,[.n (3:Int),.n n1,.n n2,.n (0:Int),.n (0:Int),.n (0:Int),.n (0:Int),.n (0:Int),.l TB (List.replicate 64 (0:Int)),.n (0:Int),.n (0:Int),.n (0:Int),.n (0:Int),.n (0:Int),.b true,.n (0:Int),.n n1,.n n2,.n n5,.n n6,.n n7,.l TB l8,.n n9,.b true])):=t2c e_rh (sP [0]<|sA h0<|sP [1,1]<|sF (nt h1)<|sF (bnf h2)<|sP [0,0]<|sF h3<|sP [0,1,0]<|sFs (c:=(n0==(2:Int)))<|sP [1,1,1,1]<|sL)
def S_rho:BSh:={args:=[.ptr 0 0,msV 0 (.own 1)],blks:=[reB 14,.arr TTm 22],log:=[0],outs:=[(.tup [msV 0 .nilsl,.bool 14,.int .i64 15],[reB 16,.arr TTm 24])]}
def ev_rho:List Dat→Tree (Nat×List Dat):=evF j4d 14 ls0 S_rho
theorem e_rho: ∃op,IsF ev_rho 14 S_rho op:=bxF g4z (LsOk.none _ _ _)
def op_rho:OpA:=opF e_rho
def j4z:FuncId→Option a0q:=e1c 14 [S_rh.k e4w,S_rho.k op_rho] j4d
theorem g4h:CsOk Try.prog j4z:=h0a g4z fun B hB=>by
 simp only[List.mem_cons,List.not_mem_nil,or_false]at hB
 rcases hB with rfl|rfl
 ·exact c4a e_rh
 ·exact c4a e_rho
def S_rr:BSh:={args:=[.ptr 0 0,msV 0 (.imn TTm 14)],blks:=[reB 15],log:=[0],outs:=[(.tup [msV 0 .nilsl,.bool 14,.int .i64 15],[reB 16])]}
def ev_rr:List Dat→Tree (Nat×List Dat):=evF j4z 31 ls0 S_rr
theorem e_rr: ∃op,IsF ev_rr 31 S_rr op:=bxF g4h (LsOk.none _ _ _)
def op_rr:OpA:=opF e_rr
def S_rro:BSh:={args:=[.ptr 0 0,msV 0 (.own 1)],blks:=[reB 14,.arr TTm 22],log:=[0],outs:=[(.tup [msV 0 .nilsl,.bool 14,.int .i64 15],[reB 16,.arr TTm 24])]}
def ev_rro:List Dat→Tree (Nat×List Dat):=evF j4z 31 ls0 S_rro
theorem e_rro: ∃op,IsF ev_rro 31 S_rro op:=bxF g4h (LsOk.none _ _ _)
def op_rro:OpA:=opF e_rro
def i4a:FuncId→Option a0q:=e1c 31 [S_rr.k op_rr,S_rro.k op_rro] j4z
theorem e4x:CsOk Try.prog i4a:=h0a g4h fun B hB=>by
 simp only[List.mem_cons,List.not_mem_nil,or_false]at hB
 rcases hB with rfl|rfl
 ·exact c4a e_rr
 ·exact c4a e_rro
def R_sp_3:LSh:={K:=1,log:=[0],ins:=[(sh 17 [(2,.own 0),(3,.int .i64 0)],[.arr TTm 1])],nils:=[],outs:=[(.exit 0,sh 17 [],[.arr TTm 0])],cv:=[]}
def st_sp_3:List Dat→Tree Step:=evL i4a 35 3 ls0 R_sp_3
theorem e_sp_3: ∃op,IsL st_sp_3 35 3 R_sp_3 op:=bxL e4x (LsOk.none _ _ _)
abbrev Bx_sp_3:MBox:=boxL e_sp_3
def S_sp:BSh:={args:=[msV 0 (.own 0)],blks:=[.arr TTm 14],log:=[0],outs:=[(.tup [],[.arr TTm 0])]}
def ev_sp:List Dat→Tree (Nat×List Dat):=evF i4a 35 (lsM [(3,Bx_sp_3)] 1) S_sp
theorem e_sp: ∃op,IsF ev_sp 35 S_sp op:=bxF e4x (lsE (lsC (q3c e_sp_3) (atF) lsZ))
def op_sp:OpA:=opF e_sp
def S_spn:BSh:={args:=[msV 0 .nilsl],blks:=[],log:=[],outs:=[(.tup [],[])]}
def ev_spn:List Dat→Tree (Nat×List Dat):=evF i4a 35 ls0 S_spn
theorem e_spn: ∃op,IsF ev_spn 35 S_spn op:=bxF e4x (LsOk.none _ _ _)
def op_spn:OpA:=opF e_spn
def cs_spn:FuncId→Option a0q:=e1c 35 [S_sp.k op_sp,S_spn.k op_spn] i4a
theorem i4b:CsOk Try.prog cs_spn:=h0a e4x fun B hB=>by
 simp only[List.mem_cons,List.not_mem_nil,or_false]at hB
 rcases hB with rfl|rfl
 ·exact c4a e_sp
 ·exact c4a e_spn
end Go.Proofs.Ytmgeoaenkmoaiaa.Vx
end
