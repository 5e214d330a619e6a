import Derived.Test.YthkdhfejnbineaaX13a
import Derived.Test.YthkdhfejnbineaaVxIm
import Derived.Test.YthkdhfejnbineaaVxLk
import Derived.Test.YthkdhfejnbineaaVxLaw
import Derived.KernelRfl
import Derived.Test.YthkdhfejnbineaaVxBits
noncomputable section
namespace Go.Proofs.Ythkdhfejnbineaa.Vx
open Go Go.RowKit
set_option linter.unusedVariables false
set_option linter.unusedSimpArgs false
set_option maxRecDepth 100000
set_option maxHeartbeats 0
theorem q3s (f:List Dat→Option (Nat×List Dat)): ∃g:List Dat→Option (Nat×List Dat),∀e,g e=f e:=⟨f,fun _=>rfl⟩
def l3p:List Dat→Option (Nat×List Dat):=Classical.choose (q3s i1r)
theorem o3b (e:List Dat):l3p e=i1r e:=Classical.choose_spec (q3s i1r) e
def Bq12:FBox:=mkF [.imm TB 0] [] [] [(.int .u32 0,[])] l3p
theorem Bq12_ok:a0v Try.prog 59 (a0j Bq12):=by
 have h:l3p=i1r:=funext o3b
 unfold Bq12
 rw[h]
 exact B12_ok
def cs_q12:FuncId→Option a0q:=a0s 59 Bq12 cs_9
theorem w3i:CsOk Try.prog cs_q12:=a0g cs_9_ok Bq12_ok
def o1n:List Dat→Option (Nat×List Dat):=Classical.choose (q3s q3i)
theorem o1e (e:List Dat):o1n e=q3i e:=Classical.choose_spec (q3s q3i) e
def Bq13:FBox:=mkF [.imm TB 0] [] [] [(.int .u32 0,[])] o1n
theorem Bq13_ok:a0v Try.prog 55 (a0j Bq13):=by
 have h:o1n=q3i:=funext o1e
 unfold Bq13
 rw[h]
 exact B13_ok
def y1c:FuncId→Option a0q:=a0s 55 Bq13 cs_q12
theorem c1e:CsOk Try.prog y1c:=a0g w3i Bq13_ok
theorem Imp.nd {α:Type}{T E x:Tree α}{c:Bool}(a:c=true→Imp T x.th)(b:c=false→Imp E x.el)(h:x.isNode=true:=by kernel_rfl)(e:x.cd=c:=by kernel_rfl):Imp (.node c T E) x:=.node h e a b
theorem Imp.lf {α:Type}{x:Tree α}{y:α}(h:x.sel=some y:=by kernel_rfl):Imp (.leaf y) x:=.leaf h
theorem Imp.pa {α:Type}{T x:Tree α}(l:List Nat)(a:Imp T (x.walk l))(h:x.okPath l=true:=by kernel_rfl):Imp T x:=.path l h a
theorem Imp.sT {α:Type}{T x:Tree α}(c:Bool)(a:Imp T x.th)(h:x.isNode=true:=by kernel_rfl)(e:x.cd=c:=by kernel_rfl)(k:c=true:=by simp[*]):Imp T x:=.pt h e k a
theorem Imp.sF {α:Type}{T x:Tree α}(c:Bool)(a:Imp T x.el)(h:x.isNode=true:=by kernel_rfl)(e:x.cd=c:=by kernel_rfl)(k:c=false:=by simp[*]):Imp T x:=.pf h e k a
abbrev ExB (ev:List Dat→Tree (Nat×List Dat)):Prop:= ∃f:List Dat→Option (Nat×List Dat),∀env,f env=(ev env).sel
theorem exB (ev:List Dat→Tree (Nat×List Dat)):ExB ev:=⟨fun env=>(ev env).sel,fun _=>rfl⟩
abbrev ExL (st:List Dat→Tree Step):Prop:= ∃f:List Dat→Option (Nat×List Dat),∀env,f env=a0b st FU env
theorem exL (st:List Dat→Tree Step):ExL st:=⟨a0b st FU,fun _=>rfl⟩
abbrev TI:Ty:=.int .i64
abbrev TL:Ty:=.int .u64
abbrev TC:Ty:=.pair (.int .u8) (.int .i64)
def wrN:PB:=.cells [.nilsl]
def wrO (b:Nat):PB:=.cells [.own b]
def inV (h:Nat):PV:=.agg [.int .u8 h,.int .i64 (h+1),.int .u64 (h+2),.int .u32 (h+3),.int .u32 (h+4),.imm TC (h+5)]
def inB (h:Nat):PB:=.cells [.int .u8 h,.int .i64 (h+1),.int .u64 (h+2),.int .u32 (h+3),.int .u32 (h+4),.imm TC (h+5)]
def liV (h:Nat):PV:=.agg [.int .u8 h,.int .u8 (h+1),.int .i64 (h+2),.int .i64 (h+3),.imm TB (h+4)]
def lmV (h:Nat):PV:=.agg [.int .u8 h,.int .u8 (h+1),.int .i64 (h+2),.int .i64 (h+3),.str (h+4)]
def h3y (env:List Dat):Tree Step:=Lk.stepMC false LK y1c 54 3 ls0 (mkM 0 [] [(sh 22 [(0,.int .u64 0),(5,.own 0),(6,.int .i64 1)],[.arr TB 2])] [(5,TB)] [(.exit 0,sh 22 [(5,.own 0)],[.arr TB 0])] fun _=>none) env
theorem k3s:ExL h3y:=exL _
def k3d:=Classical.choose k3s
theorem k3g (env:List Dat):k3d env=a0b h3y FU env:=Classical.choose_spec k3s env
def z3u:MBox:=mkM 0 [] [(sh 22 [(0,.int .u64 0),(5,.own 0),(6,.int .i64 1)],[.arr TB 2])] [(5,TB)] [(.exit 0,sh 22 [(5,.own 0)],[.arr TB 0])] k3d
theorem v3w:z3u=mkM 0 [] [(sh 22 [(0,.int .u64 0),(5,.own 0),(6,.int .i64 1)],[.arr TB 2])] [(5,TB)] [(.exit 0,sh 22 [(5,.own 0)],[.arr TB 0])] (a0b h3y FU):=congrArg (fun f=>mkM 0 [] [(sh 22 [(0,.int .u64 0),(5,.own 0),(6,.int .i64 1)],[.arr TB 2])] [(5,TB)] [(.exit 0,sh 22 [(5,.own 0)],[.arr TB 0])] f) (funext k3g)
theorem x3q: ∀t s x,(a0h z3u t s).sel=some x→a0k Try.prog 0 (.loop (cAt Try.prog 54 3)) t s x:=by
 rw[v3w]
 exact a0o (st:=h3y) (m:=FU) c1e hmix false (LsOk.none _ _ _) (by kernel_rfl) (fun env y h=>by rw[←stepMC_lk];exact h)
def j3h:List Dat→Tree Step
 |[.n n0,.n n1,.l (Ty.int IntKind.u8) l2]=>
 (.node (decide (n1≥(0:Int)))
 (.node (!decide (IntKind.wrap .i64 ((8:Int)*n1)<(0:Int)))
 (.node (decide ((List.length l2+1)*1≤140737488355328))
 (.leaf (Step.go [.k 0,.n n0,.n (IntKind.wrap .i64 (n1-(1:Int))),.l TB (l2++[IntKind.wrap .u8 (ishr IntKind.u64 n0 (IntKind.wrap .i64 ((8:Int)*n1)))])]))
 (.bad 62))
 (.bad 83))
 (.leaf (Step.stop 0 [.l TB l2])))
 |_=>.bad 0
theorem i3u (n0:Int)(n1:Int)(l2:List (Ty.den TB)):Imp (j3h [.n n0,.n n1,.l TB l2]) (h3y [.k 0,.n n0,.n n1,.l TB l2]):=
(.pa [1]
(.nd (fun h0=>
(.nd (fun h1=>
(.nd (fun h2=>
(.pa [1]
.lf)) (fun h2=>
.none))) (fun h1=>
.none))) (fun h0=>
(.pa [1]
.lf))))
theorem a4b:LsOk Try.prog (List.length ([]:List PB)) (lsM [(3,z3u)] (List.length ([]:List PB))) (a0r Try.prog 54):=LsOk.many fun j B hB hk c hc hi=>by
 simp only[b0d]at hB
 split at hB
 ·rename_i e;have:=Nat.eq_of_beq_eq_true e;subst this;cases hB
  have e1:p0c Try.prog 54 3=[cAt Try.prog 54 3]:=a0e (by kernel_rfl)
  have e2:c∈p0c Try.prog 54 3:=a0d hc hi
  rw[e1]at e2;cases List.mem_singleton.1 e2;exact x3q
 cases hB
def ev_30 (env:List Dat):Tree (Nat×List Dat):=Lk.boxC false LK y1c 54 (lsM [(3,z3u)] (List.length ([]:List PB))) (mkF [.int .u64 0,.int .i64 1] [] [] [(.own 0,[.arr TB 0])] fun _=>none) env
theorem r3k:ExB ev_30:=exB _
def o3w:=Classical.choose r3k
theorem s3a (env:List Dat):o3w env=(ev_30 env).sel:=Classical.choose_spec r3k env
def B30:FBox:=mkF [.int .u64 0,.int .i64 1] [] [] [(.own 0,[.arr TB 0])] o3w
theorem B30_ok:a0v Try.prog 54 (a0j B30):=a0p (op:=o3w) c1e hmix false (a4b) (fun env x h=>by rw[s3a]at h;rw[←boxC_lk];exact h)
def w3m:List Dat→Tree (Nat×List Dat)
 |[.n n0,.n n1]=>
 (let r1:=(k3d [.k 0,.n n0,.n (IntKind.wrap .i64 (n1-(1:Int))),.l TB []]);
 (.node (isK 0 [.l TB] r1)
 (.leaf ((0,[.l TB (gl TB (dOf r1) 0)])))
 (.bad 351)))
 |_=>.bad 0
theorem t3c (n0:Int)(n1:Int):Imp (w3m [.n n0,.n n1]) (ev_30 [.n n0,.n n1]):=
(.nd (fun h0=>
(.pa [1]
.lf)) (fun h0=>
.none))
def t3m:FuncId→Option a0q:=a0s 54 B30 y1c
theorem j3e:CsOk Try.prog t3m:=a0g c1e B30_ok
def h3h (env:List Dat):Tree Step:=Lk.stepMC false LK t3m 81 1 ls0 (mkM 1 [0] [(sh 29 [(0,.ptr 0 0),(1,.int .u64 0),(2,.int .i64 1),(7,.int .i64 2),(8,.int .i64 3)],[wrN]),(sh 29 [(0,.ptr 0 0),(1,.int .u64 0),(2,.int .i64 1),(7,.int .i64 2),(8,.int .i64 3)],[wrO 1,.arr TB 4])] [] [(.exit 0,sh 29 [(0,.ptr 0 0)],[wrN]),(.exit 0,sh 29 [(0,.ptr 0 0)],[wrO 1,.arr TB 0])] fun _=>none) env
theorem j3o:ExL h3h:=exL _
def j3b:=Classical.choose j3o
theorem j3n (env:List Dat):j3b env=a0b h3h FU env:=Classical.choose_spec j3o env
def r3s:MBox:=mkM 1 [0] [(sh 29 [(0,.ptr 0 0),(1,.int .u64 0),(2,.int .i64 1),(7,.int .i64 2),(8,.int .i64 3)],[wrN]),(sh 29 [(0,.ptr 0 0),(1,.int .u64 0),(2,.int .i64 1),(7,.int .i64 2),(8,.int .i64 3)],[wrO 1,.arr TB 4])] [] [(.exit 0,sh 29 [(0,.ptr 0 0)],[wrN]),(.exit 0,sh 29 [(0,.ptr 0 0)],[wrO 1,.arr TB 0])] j3b
theorem t3k:r3s=mkM 1 [0] [(sh 29 [(0,.ptr 0 0),(1,.int .u64 0),(2,.int .i64 1),(7,.int .i64 2),(8,.int .i64 3)],[wrN]),(sh 29 [(0,.ptr 0 0),(1,.int .u64 0),(2,.int .i64 1),(7,.int .i64 2),(8,.int .i64 3)],[wrO 1,.arr TB 4])] [] [(.exit 0,sh 29 [(0,.ptr 0 0)],[wrN]),(.exit 0,sh 29 [(0,.ptr 0 0)],[wrO 1,.arr TB 0])] (a0b h3h FU):=congrArg (fun f=>mkM 1 [0] [(sh 29 [(0,.ptr 0 0),(1,.int .u64 0),(2,.int .i64 1),(7,.int .i64 2),(8,.int .i64 3)],[wrN]),(sh 29 [(0,.ptr 0 0),(1,.int .u64 0),(2,.int .i64 1),(7,.int .i64 2),(8,.int .i64 3)],[wrO 1,.arr TB 4])] [] [(.exit 0,sh 29 [(0,.ptr 0 0)],[wrN]),(.exit 0,sh 29 [(0,.ptr 0 0)],[wrO 1,.arr TB 0])] f) (funext j3n)
theorem t3i: ∀t s x,(a0h r3s t s).sel=some x→a0k Try.prog 1 (.loop (cAt Try.prog 81 1)) t s x:=by
 rw[t3k]
 exact a0o (st:=h3h) (m:=FU) j3e hmix false (LsOk.none _ _ _) (by kernel_rfl) (fun env y h=>by rw[←stepMC_lk];exact h)
def k3j:List Dat→Tree Step
 |[.n n0,.n n1,.n n2,.n n3]=>
 (.node (decide (n3<n2))
 (.node (!decide (IntKind.wrap .i64 ((8:Int)*IntKind.wrap .i64 (IntKind.wrap .i64 (n1-(1:Int))-n3))<(0:Int)))
 (.leaf (Step.go [.k 1,.n n0,.n n1,.n n2,.n (IntKind.wrap .i64 (n3+(1:Int))),.l TB [IntKind.wrap .u8 (ishr IntKind.u64 n0 (IntKind.wrap .i64 ((8:Int)*IntKind.wrap .i64 (IntKind.wrap .i64 (n1-(1:Int))-n3))))]]))
 (.bad 83))
 (.leaf (Step.stop 0 [])))
 |_=>.bad 0
theorem l3h (n0:Int)(n1:Int)(n2:Int)(n3:Int):Imp (k3j [.n n0,.n n1,.n n2,.n n3]) (h3h [.k 0,.n n0,.n n1,.n n2,.n n3]):=
(.pa [1]
(.nd (fun h0=>
(.nd (fun h1=>
(.pa [1,1,1]
.lf)) (fun h1=>
.none))) (fun h0=>
(.pa [1]
.lf))))
def i3p:List Dat→Tree Step
 |[.n n0,.n n1,.n n2,.n n3,.l (Ty.int IntKind.u8) l4]=>
 (.node (decide (n3<n2))
 (.node (!decide (IntKind.wrap .i64 ((8:Int)*IntKind.wrap .i64 (IntKind.wrap .i64 (n1-(1:Int))-n3))<(0:Int)))
 (.node (decide ((List.length l4+1)*1≤140737488355328))
 (.leaf (Step.go [.k 1,.n n0,.n n1,.n n2,.n (IntKind.wrap .i64 (n3+(1:Int))),.l TB (l4++[IntKind.wrap .u8 (ishr IntKind.u64 n0 (IntKind.wrap .i64 ((8:Int)*IntKind.wrap .i64 (IntKind.wrap .i64 (n1-(1:Int))-n3))))])]))
 (.bad 62))
 (.bad 83))
 (.leaf (Step.stop 1 [.l TB l4])))
 |_=>.bad 0
theorem i3o (n0:Int)(n1:Int)(n2:Int)(n3:Int)(l4:List (Ty.den TB)):Imp (i3p [.n n0,.n n1,.n n2,.n n3,.l TB l4]) (h3h [.k 1,.n n0,.n n1,.n n2,.n n3,.l TB l4]):=
(.pa [1]
(.nd (fun h0=>
(.nd (fun h1=>
(.nd (fun h2=>
(.pa [1,1]
.lf)) (fun h2=>
.none))) (fun h1=>
.none))) (fun h0=>
(.pa [1]
.lf))))
theorem y3o:LsOk Try.prog (List.length ([wrN]:List PB)) (lsM [(1,r3s)] (List.length ([wrN]:List PB))) (a0r Try.prog 81):=LsOk.many fun j B hB hk c hc hi=>by
 simp only[b0d]at hB
 split at hB
 ·rename_i e;have:=Nat.eq_of_beq_eq_true e;subst this;cases hB
  have e1:p0c Try.prog 81 1=[cAt Try.prog 81 1]:=a0e (by kernel_rfl)
  have e2:c∈p0c Try.prog 81 1:=a0d hc hi
  rw[e1]at e2;cases List.mem_singleton.1 e2;exact t3i
 cases hB
def u3t (env:List Dat):Tree (Nat×List Dat):=Lk.boxC false LK t3m 81 (lsM [(1,r3s)] (List.length ([wrN]:List PB))) (mkF [.ptr 0 0,.int .u64 0,.int .i64 1] [wrN] [0] [(.tup [],[wrN]),(.tup [],[wrO 1,.arr TB 0])] fun _=>none) env
theorem m3v:ExB u3t:=exB _
def o3v:=Classical.choose m3v
theorem o3h (env:List Dat):o3v env=(u3t env).sel:=Classical.choose_spec m3v env
def B35a:FBox:=mkF [.ptr 0 0,.int .u64 0,.int .i64 1] [wrN] [0] [(.tup [],[wrN]),(.tup [],[wrO 1,.arr TB 0])] o3v
theorem B35a_ok:a0v Try.prog 81 (a0j B35a):=a0p (op:=o3v) j3e hmix false (y3o) (fun env x h=>by rw[o3h]at h;rw[←boxC_lk];exact h)
def s3e:List Dat→Tree (Nat×List Dat)
 |[.n n0,.n n1]=>
 (let r1:=(j3b [.k 0,.n n0,.n n1,.n n1,.n (0:Int)]);
 (.node (isK 0 [] r1)
 (.leaf ((0,[])))
 (.node (isK 1 [.l TB] r1)
 (.leaf ((1,[.l TB (gl TB (dOf r1) 0)])))
 (.bad 351))))
 |_=>.bad 0
theorem p3l (n0:Int)(n1:Int):Imp (s3e [.n n0,.n n1]) (u3t [.n n0,.n n1]):=
(.nd (fun h0=>
(.pa [1]
.lf)) (fun h0=>
(.nd (fun h1=>
(.pa [1]
.lf)) (fun h1=>
.none))))
def h3p (env:List Dat):Tree Step:=Lk.stepMC false LK t3m 81 1 ls0 (mkM 2 [0,1] [(sh 29 [(0,.ptr 0 0),(1,.int .u64 0),(2,.int .i64 1),(7,.int .i64 2),(8,.int .i64 3)],[wrO 1,.arr TB 4])] [] [(.exit 0,sh 29 [(0,.ptr 0 0)],[wrO 1,.arr TB 0])] fun _=>none) env
theorem j3r:ExL h3p:=exL _
def i3x:=Classical.choose j3r
theorem j3s (env:List Dat):i3x env=a0b h3p FU env:=Classical.choose_spec j3r env
def r3t:MBox:=mkM 2 [0,1] [(sh 29 [(0,.ptr 0 0),(1,.int .u64 0),(2,.int .i64 1),(7,.int .i64 2),(8,.int .i64 3)],[wrO 1,.arr TB 4])] [] [(.exit 0,sh 29 [(0,.ptr 0 0)],[wrO 1,.arr TB 0])] i3x
theorem s3t:r3t=mkM 2 [0,1] [(sh 29 [(0,.ptr 0 0),(1,.int .u64 0),(2,.int .i64 1),(7,.int .i64 2),(8,.int .i64 3)],[wrO 1,.arr TB 4])] [] [(.exit 0,sh 29 [(0,.ptr 0 0)],[wrO 1,.arr TB 0])] (a0b h3p FU):=congrArg (fun f=>mkM 2 [0,1] [(sh 29 [(0,.ptr 0 0),(1,.int .u64 0),(2,.int .i64 1),(7,.int .i64 2),(8,.int .i64 3)],[wrO 1,.arr TB 4])] [] [(.exit 0,sh 29 [(0,.ptr 0 0)],[wrO 1,.arr TB 0])] f) (funext j3s)
theorem t3g: ∀t s x,(a0h r3t t s).sel=some x→a0k Try.prog 2 (.loop (cAt Try.prog 81 1)) t s x:=by
 rw[s3t]
 exact a0o (st:=h3p) (m:=FU) j3e hmix false (LsOk.none _ _ _) (by kernel_rfl) (fun env y h=>by rw[←stepMC_lk];exact h)
def i3t:List Dat→Tree Step
 |[.n n0,.n n1,.n n2,.n n3,.l (Ty.int IntKind.u8) l4]=>
 (.node (decide (n3<n2))
 (.node (!decide (IntKind.wrap .i64 ((8:Int)*IntKind.wrap .i64 (IntKind.wrap .i64 (n1-(1:Int))-n3))<(0:Int)))
 (.node (decide ((List.length l4+1)*1≤140737488355328))
 (.leaf (Step.go [.k 0,.n n0,.n n1,.n n2,.n (IntKind.wrap .i64 (n3+(1:Int))),.l TB (l4++[IntKind.wrap .u8 (ishr IntKind.u64 n0 (IntKind.wrap .i64 ((8:Int)*IntKind.wrap .i64 (IntKind.wrap .i64 (n1-(1:Int))-n3))))])]))
 (.bad 62))
 (.bad 83))
 (.leaf (Step.stop 0 [.l TB l4])))
 |_=>.bad 0
theorem i3n (n0:Int)(n1:Int)(n2:Int)(n3:Int)(l4:List (Ty.den TB)):Imp (i3t [.n n0,.n n1,.n n2,.n n3,.l TB l4]) (h3p [.k 0,.n n0,.n n1,.n n2,.n n3,.l TB l4]):=
(.pa [1]
(.nd (fun h0=>
(.nd (fun h1=>
(.nd (fun h2=>
(.pa [1,1]
.lf)) (fun h2=>
.none))) (fun h1=>
.none))) (fun h0=>
(.pa [1]
.lf))))
theorem v3m:LsOk Try.prog (List.length ([wrO 1,.arr TB 2]:List PB)) (lsM [(1,r3t)] (List.length ([wrO 1,.arr TB 2]:List PB))) (a0r Try.prog 81):=LsOk.many fun j B hB hk c hc hi=>by
 simp only[b0d]at hB
 split at hB
 ·rename_i e;have:=Nat.eq_of_beq_eq_true e;subst this;cases hB
  have e1:p0c Try.prog 81 1=[cAt Try.prog 81 1]:=a0e (by kernel_rfl)
  have e2:c∈p0c Try.prog 81 1:=a0d hc hi
  rw[e1]at e2;cases List.mem_singleton.1 e2;exact t3g
 cases hB
def u3e (env:List Dat):Tree (Nat×List Dat):=Lk.boxC false LK t3m 81 (lsM [(1,r3t)] (List.length ([wrO 1,.arr TB 2]:List PB))) (mkF [.ptr 0 0,.int .u64 0,.int .i64 1] [wrO 1,.arr TB 2] [0,1] [(.tup [],[wrO 1,.arr TB 0])] fun _=>none) env
theorem n3s:ExB u3e:=exB _
def j3d:=Classical.choose n3s
theorem n3a (env:List Dat):j3d env=(u3e env).sel:=Classical.choose_spec n3s env
def B35b:FBox:=mkF [.ptr 0 0,.int .u64 0,.int .i64 1] [wrO 1,.arr TB 2] [0,1] [(.tup [],[wrO 1,.arr TB 0])] j3d
theorem B35b_ok:a0v Try.prog 81 (a0j B35b):=a0p (op:=j3d) j3e hmix false (v3m) (fun env x h=>by rw[n3a]at h;rw[←boxC_lk];exact h)
def s3c:List Dat→Tree (Nat×List Dat)
 |[.n n0,.n n1,.l (Ty.int IntKind.u8) l2]=>
 (let r1:=(i3x [.k 0,.n n0,.n n1,.n n1,.n (0:Int),.l TB l2]);
 (.node (isK 0 [.l TB] r1)
 (.leaf ((0,[.l TB (gl TB (dOf r1) 0)])))
 (.bad 351)))
 |_=>.bad 0
theorem p3z (n0:Int)(n1:Int)(l2:List (Ty.den TB)):Imp (s3c [.n n0,.n n1,.l TB l2]) (u3e [.n n0,.n n1,.l TB l2]):=
(.nd (fun h0=>
(.pa [1]
.lf)) (fun h0=>
.none))
def r3x:FuncId→Option a0q:=e1c 81 [B35a,B35b] t3m
theorem k3y:CsOk Try.prog r3x:=h0a j3e fun B hB=>by
 simp only[List.mem_cons,List.not_mem_nil,or_false]at hB
 rcases hB with rfl|rfl
 ·exact B35a_ok
 ·exact B35b_ok
def h3n (env:List Dat):Tree Step:=Lk.stepMC false LK r3x 56 2 ls0 (mkM 0 [] [(sh 21 [(0,.int .i64 0),(7,.imm TI 1),(8,.int .i64 2),(9,.int .i64 3)],[])] [] [(.exit 0,sh 21 [],[]),(.ret,sh 21 [(4,.bool 0)],[])] fun _=>none) env
theorem k3u:ExL h3n:=exL _
def j3x:=Classical.choose k3u
theorem l3a (env:List Dat):j3x env=a0b h3n FU env:=Classical.choose_spec k3u env
def a4c:MBox:=mkM 0 [] [(sh 21 [(0,.int .i64 0),(7,.imm TI 1),(8,.int .i64 2),(9,.int .i64 3)],[])] [] [(.exit 0,sh 21 [],[]),(.ret,sh 21 [(4,.bool 0)],[])] j3x
theorem u3h:a4c=mkM 0 [] [(sh 21 [(0,.int .i64 0),(7,.imm TI 1),(8,.int .i64 2),(9,.int .i64 3)],[])] [] [(.exit 0,sh 21 [],[]),(.ret,sh 21 [(4,.bool 0)],[])] (a0b h3n FU):=congrArg (fun f=>mkM 0 [] [(sh 21 [(0,.int .i64 0),(7,.imm TI 1),(8,.int .i64 2),(9,.int .i64 3)],[])] [] [(.exit 0,sh 21 [],[]),(.ret,sh 21 [(4,.bool 0)],[])] f) (funext l3a)
theorem v3o: ∀t s x,(a0h a4c t s).sel=some x→a0k Try.prog 0 (.loop (cAt Try.prog 56 2)) t s x:=by
 rw[u3h]
 exact a0o (st:=h3n) (m:=FU) k3y hmix false (LsOk.none _ _ _) (by kernel_rfl) (fun env y h=>by rw[←stepMC_lk];exact h)
def i3b:List Dat→Tree Step
 |[.n n0,.l (Ty.int IntKind.i64) l1,.n n2,.n n3]=>
 (.node (decide (n3<n2))
 (.node (decide ((List.getD l1 (Int.toNat n3) (0:Int):Int)<(0:Int)))
 (.leaf (Step.stop 1 [.b false]))
 (.node (decide ((List.getD l1 (Int.toNat n3) (0:Int):Int)>n0))
 (.leaf (Step.stop 1 [.b false]))
 (.leaf (Step.go [.k 0,.n n0,.l TI l1,.n n2,.n (IntKind.wrap .i64 (n3+(1:Int)))]))))
 (.leaf (Step.stop 0 [])))
 |_=>.bad 0
theorem h3s (n0:Int)(l1:List (Ty.den TI))(n2:Int)(n3:Int)(g0:0≤n3)(g1:n2=(l1.length:Int)):Imp (i3b [.n n0,.l TI l1,.n n2,.n n3]) (h3n [.k 0,.n n0,.l TI l1,.n n2,.n n3]):=
(.pa [1]
(.nd (fun h0=>
(.pt (c:=(inR n3 (List.length l1))) (by kernel_rfl) (by kernel_rfl) (by(simp only[w64d,decide_eq_true_eq,decide_eq_false_iff_not,beq_iff_eq,beq_eq_false_iff_ne,bne_iff_ne,ne_eq,inR,Bool.and_eq_true,Bool.and_eq_false_iff,Bool.not_eq_true',Bool.not_eq_false',Bool.not_eq_eq_eq_not,Bool.not_true,Bool.not_false]at*;omega))
(.nd (fun h1=>
(.pa [1,1,1]
.lf)) (fun h1=>
(.nd (fun h2=>
(.pa [1]
.lf)) (fun h2=>
(.pa [1]
.lf))))))) (fun h0=>
(.pa [1]
.lf))))
theorem z3a:LsOk Try.prog (List.length ([]:List PB)) (lsM [(2,a4c)] (List.length ([]:List PB))) (a0r Try.prog 56):=LsOk.many fun j B hB hk c hc hi=>by
 simp only[b0d]at hB
 split at hB
 ·rename_i e;have:=Nat.eq_of_beq_eq_true e;subst this;cases hB
  have e1:p0c Try.prog 56 2=[cAt Try.prog 56 2]:=a0e (by kernel_rfl)
  have e2:c∈p0c Try.prog 56 2:=a0d hc hi
  rw[e1]at e2;cases List.mem_singleton.1 e2;exact v3o
 cases hB
def ev_80 (env:List Dat):Tree (Nat×List Dat):=Lk.boxC false LK r3x 56 (lsM [(2,a4c)] (List.length ([]:List PB))) (mkF [.int .i64 0,.imm TI 1] [] [] [(.bool 0,[])] fun _=>none) env
theorem r3w:ExB ev_80:=exB _
def u3u:=Classical.choose r3w
theorem q3v (env:List Dat):u3u env=(ev_80 env).sel:=Classical.choose_spec r3w env
def B80:FBox:=mkF [.int .i64 0,.imm TI 1] [] [] [(.bool 0,[])] u3u
theorem B80_ok:a0v Try.prog 56 (a0j B80):=a0p (op:=u3u) k3y hmix false (z3a) (fun env x h=>by rw[q3v]at h;rw[←boxC_lk];exact h)
def y3q:List Dat→Tree (Nat×List Dat)
 |[.n n0,.l (Ty.int IntKind.i64) l1]=>
 (let r1:=(j3x [.k 0,.n n0,.l TI l1,.n (↑(List.length l1):Int),.n (0:Int)]);
 (.node (isK 0 [] r1)
 (.leaf ((0,[.b true])))
 (.node (isK 1 [.b] r1)
 (.leaf ((0,[.b (gb (dOf r1) 0)])))
 (.bad 351))))
 |_=>.bad 0
theorem s3n (n0:Int)(l1:List (Ty.den TI)):Imp (y3q [.n n0,.l TI l1]) (ev_80 [.n n0,.l TI l1]):=
(.nd (fun h0=>
(.pa [1]
.lf)) (fun h0=>
(.nd (fun h1=>
(.pa [1]
.lf)) (fun h1=>
.none))))
def z3w:FuncId→Option a0q:=a0s 56 B80 r3x
theorem m3g:CsOk Try.prog z3w:=a0g k3y B80_ok
def h3z (env:List Dat):Tree Step:=Lk.stepMC false LK z3w 61 1 ls0 (mkM 3 [0,1,2] [(sh 16 [(0,.ptr 0 0),(6,.own 1),(7,.int .i64 0),(8,.int .i64 1)],[wrO 2,.arr TL 2,.arr TB 3])] [] [(.exit 0,sh 16 [(0,.ptr 0 0)],[wrO 2,.gone,.arr TB 0])] fun _=>none) env
theorem l3b:ExL h3z:=exL _
def k3c:=Classical.choose l3b
theorem k3o (env:List Dat):k3c env=a0b h3z FU env:=Classical.choose_spec l3b env
def a4g:MBox:=mkM 3 [0,1,2] [(sh 16 [(0,.ptr 0 0),(6,.own 1),(7,.int .i64 0),(8,.int .i64 1)],[wrO 2,.arr TL 2,.arr TB 3])] [] [(.exit 0,sh 16 [(0,.ptr 0 0)],[wrO 2,.gone,.arr TB 0])] k3c
theorem v3b:a4g=mkM 3 [0,1,2] [(sh 16 [(0,.ptr 0 0),(6,.own 1),(7,.int .i64 0),(8,.int .i64 1)],[wrO 2,.arr TL 2,.arr TB 3])] [] [(.exit 0,sh 16 [(0,.ptr 0 0)],[wrO 2,.gone,.arr TB 0])] (a0b h3z FU):=congrArg (fun f=>mkM 3 [0,1,2] [(sh 16 [(0,.ptr 0 0),(6,.own 1),(7,.int .i64 0),(8,.int .i64 1)],[wrO 2,.arr TL 2,.arr TB 3])] [] [(.exit 0,sh 16 [(0,.ptr 0 0)],[wrO 2,.gone,.arr TB 0])] f) (funext k3o)
theorem u3y: ∀t s x,(a0h a4g t s).sel=some x→a0k Try.prog 3 (.loop (cAt Try.prog 61 1)) t s x:=by
 rw[v3b]
 exact a0o (st:=h3z) (m:=FU) m3g hmix false (LsOk.none _ _ _) (by kernel_rfl) (fun env y h=>by rw[←stepMC_lk];exact h)
def j3k:List Dat→Tree Step
 |[.n n0,.n n1,.l (Ty.int IntKind.u64) l2,.l (Ty.int IntKind.u8) l3]=>
 (.node (decide (n1<n0))
 (let r1:=(j3d [.n (List.getD l2 (Int.toNat n1) (0:Int)),.n (8:Int),.l TB l3]);
 (.node (isK 0 [.l TB] r1)
 (.leaf (Step.go [.k 0,.n n0,.n (IntKind.wrap .i64 (n1+(1:Int))),.l TL l2,.l TB (gl TB (dOf r1) 0)]))
 (.bad 351)))
 (.leaf (Step.stop 0 [.l TB l3])))
 |_=>.bad 0
theorem i3y (n0:Int)(n1:Int)(l2:List (Ty.den TL))(l3:List (Ty.den TB))(g0:0≤n1)(g1:n0=(l2.length:Int)):Imp (j3k [.n n0,.n n1,.l TL l2,.l TB l3]) (h3z [.k 0,.n n0,.n n1,.l TL l2,.l TB l3]):=
(.pa [1]
(.nd (fun h0=>
(.pt (c:=(inR n1 (List.length l2))) (by kernel_rfl) (by kernel_rfl) (by(simp only[w64d,decide_eq_true_eq,decide_eq_false_iff_not,beq_iff_eq,beq_eq_false_iff_ne,bne_iff_ne,ne_eq,inR,Bool.and_eq_true,Bool.and_eq_false_iff,Bool.not_eq_true',Bool.not_eq_false',Bool.not_eq_eq_eq_not,Bool.not_true,Bool.not_false]at*;omega))
(.pa [1,1,0,0,0,0,1,1]
(.nd (fun h1=>
(.pa [1,0,1,1,1]
.lf)) (fun h1=>
.none))))) (fun h0=>
(.pa [1]
.lf))))
theorem z3k:LsOk Try.prog (List.length ([wrO 2,.arr TL 0,.arr TB 1]:List PB)) (lsM [(1,a4g)] (List.length ([wrO 2,.arr TL 0,.arr TB 1]:List PB))) (a0r Try.prog 61):=LsOk.many fun j B hB hk c hc hi=>by
 simp only[b0d]at hB
 split at hB
 ·rename_i e;have:=Nat.eq_of_beq_eq_true e;subst this;cases hB
  have e1:p0c Try.prog 61 1=[cAt Try.prog 61 1]:=a0e (by kernel_rfl)
  have e2:c∈p0c Try.prog 61 1:=a0d hc hi
  rw[e1]at e2;cases List.mem_singleton.1 e2;exact u3y
 cases hB
def ev_88 (env:List Dat):Tree (Nat×List Dat):=Lk.boxC false LK z3w 61 (lsM [(1,a4g)] (List.length ([wrO 2,.arr TL 0,.arr TB 1]:List PB))) (mkF [.ptr 0 0,.own 1] [wrO 2,.arr TL 0,.arr TB 1] [0,1,2] [(.tup [],[wrO 2,.gone,.arr TB 0])] fun _=>none) env
theorem r3y:ExB ev_88:=exB _
def x3p:=Classical.choose r3y
theorem r3o (env:List Dat):x3p env=(ev_88 env).sel:=Classical.choose_spec r3y env
def B88:FBox:=mkF [.ptr 0 0,.own 1] [wrO 2,.arr TL 0,.arr TB 1] [0,1,2] [(.tup [],[wrO 2,.gone,.arr TB 0])] x3p
theorem B88_ok:a0v Try.prog 61 (a0j B88):=a0p (op:=x3p) m3g hmix false (z3k) (fun env x h=>by rw[r3o]at h;rw[←boxC_lk];exact h)
def t3y:List Dat→Tree (Nat×List Dat)
 |[.l (Ty.int IntKind.u64) l0,.l (Ty.int IntKind.u8) l1]=>
 (let r1:=(k3c [.k 0,.n (↑(List.length l0):Int),.n (0:Int),.l TL l0,.l TB l1]);
 (.node (isK 0 [.l TB] r1)
 (.leaf ((0,[.l TB (gl TB (dOf r1) 0)])))
 (.bad 351)))
 |_=>.bad 0
theorem t3o (l0:List (Ty.den TL))(l1:List (Ty.den TB)):Imp (t3y [.l TL l0,.l TB l1]) (ev_88 [.l TL l0,.l TB l1]):=
(.nd (fun h0=>
(.pa [1]
.lf)) (fun h0=>
.none))
def y3y:FuncId→Option a0q:=e1c 61 [B88] z3w
theorem m3i:CsOk Try.prog y3y:=h0a m3g fun B hB=>by
 cases List.mem_singleton.1 hB
 exact B88_ok
def j3z (env:List Dat):Tree Step:=Lk.stepMC false LK y3y 36 2 ls0 (mkM 0 [] [(sh 40 [(1,.ptr 0 0),(7,.imm TC 0),(8,.int .i64 1),(9,.int .i64 2)],[inB 3])] [] [(.exit 0,sh 40 [(1,.ptr 0 0)],[inB 0]),(.ret,sh 40 [(2,.bool 0)],[])] fun _=>none) env
theorem k3h:ExL j3z:=exL _
def r3z:=Classical.choose k3h
theorem p3g (env:List Dat):r3z env=a0b j3z FU env:=Classical.choose_spec k3h env
def z3p:MBox:=mkM 0 [] [(sh 40 [(1,.ptr 0 0),(7,.imm TC 0),(8,.int .i64 1),(9,.int .i64 2)],[inB 3])] [] [(.exit 0,sh 40 [(1,.ptr 0 0)],[inB 0]),(.ret,sh 40 [(2,.bool 0)],[])] r3z
theorem w3a:z3p=mkM 0 [] [(sh 40 [(1,.ptr 0 0),(7,.imm TC 0),(8,.int .i64 1),(9,.int .i64 2)],[inB 3])] [] [(.exit 0,sh 40 [(1,.ptr 0 0)],[inB 0]),(.ret,sh 40 [(2,.bool 0)],[])] (a0b j3z FU):=congrArg (fun f=>mkM 0 [] [(sh 40 [(1,.ptr 0 0),(7,.imm TC 0),(8,.int .i64 1),(9,.int .i64 2)],[inB 3])] [] [(.exit 0,sh 40 [(1,.ptr 0 0)],[inB 0]),(.ret,sh 40 [(2,.bool 0)],[])] f) (funext p3g)
theorem w3f: ∀t s x,(a0h z3p t s).sel=some x→a0k Try.prog 0 (.loop (cAt Try.prog 36 2)) t s x:=by
 rw[w3a]
 exact a0o (st:=j3z) (m:=FU) m3i hmix false (LsOk.none _ _ _) (by kernel_rfl) (fun env y h=>by rw[←stepMC_lk];exact h)
theorem q2o:LsOk Try.prog (List.length ([]:List PB)) (lsM [(2,z3p)] (List.length ([]:List PB))) (a0r Try.prog 36):=LsOk.many fun j B hB hk c hc hi=>by
 simp only[b0d]at hB
 split at hB
 ·rename_i e;have:=Nat.eq_of_beq_eq_true e;subst this;cases hB
  have e1:p0c Try.prog 36 2=[cAt Try.prog 36 2]:=a0e (by kernel_rfl)
  have e2:c∈p0c Try.prog 36 2:=a0d hc hi
  rw[e1]at e2;cases List.mem_singleton.1 e2;exact w3f
 cases hB
def ev_46 (env:List Dat):Tree (Nat×List Dat):=Lk.boxC false LK y3y 36 (lsM [(2,z3p)] (List.length ([]:List PB))) (mkF [inV 0] [] [] [(.bool 0,[])] fun _=>none) env
theorem q3z:ExB ev_46:=exB _
def op_46:=Classical.choose q3z
theorem a2n (env:List Dat):op_46 env=(ev_46 env).sel:=Classical.choose_spec q3z env
def B46:FBox:=mkF [inV 0] [] [] [(.bool 0,[])] op_46
theorem B46_ok:a0v Try.prog 36 (a0j B46):=a0p (op:=op_46) m3i hmix false (q2o) (fun env x h=>by rw[a2n]at h;rw[←boxC_lk];exact h)
def b2b:FuncId→Option a0q:=a0s 36 B46 y3y
theorem s0d:CsOk Try.prog b2b:=a0g m3i B46_ok
def k3b (env:List Dat):Tree Step:=Lk.stepMC false LK b2b 39 7 ls0 (mkM 2 [0,1] [(sh 54 [(0,.ptr 0 0),(38,.imm TC 0),(39,.int .i64 1),(40,.int .i64 2)],[wrO 1,.arr TB 3])] [] [(.exit 0,sh 54 [(0,.ptr 0 0)],[wrO 1,.arr TB 0])] fun _=>none) env
theorem k3q:ExL k3b:=exL _
def r3l:=Classical.choose k3q
theorem p3q (env:List Dat):r3l env=a0b k3b FU env:=Classical.choose_spec k3q env
def z3m:MBox:=mkM 2 [0,1] [(sh 54 [(0,.ptr 0 0),(38,.imm TC 0),(39,.int .i64 1),(40,.int .i64 2)],[wrO 1,.arr TB 3])] [] [(.exit 0,sh 54 [(0,.ptr 0 0)],[wrO 1,.arr TB 0])] r3l
theorem w3c:z3m=mkM 2 [0,1] [(sh 54 [(0,.ptr 0 0),(38,.imm TC 0),(39,.int .i64 1),(40,.int .i64 2)],[wrO 1,.arr TB 3])] [] [(.exit 0,sh 54 [(0,.ptr 0 0)],[wrO 1,.arr TB 0])] (a0b k3b FU):=congrArg (fun f=>mkM 2 [0,1] [(sh 54 [(0,.ptr 0 0),(38,.imm TC 0),(39,.int .i64 1),(40,.int .i64 2)],[wrO 1,.arr TB 3])] [] [(.exit 0,sh 54 [(0,.ptr 0 0)],[wrO 1,.arr TB 0])] f) (funext p3q)
theorem x3b: ∀t s x,(a0h z3m t s).sel=some x→a0k Try.prog 2 (.loop (cAt Try.prog 39 7)) t s x:=by
 rw[w3c]
 exact a0o (st:=k3b) (m:=FU) s0d hmix false (LsOk.none _ _ _) (by kernel_rfl) (fun env y h=>by rw[←stepMC_lk];exact h)
theorem z3y:LsOk Try.prog (List.length ([wrO 1,.arr TB 6]:List PB)) (lsM [(7,z3m)] (List.length ([wrO 1,.arr TB 6]:List PB))) (a0r Try.prog 39):=LsOk.many fun j B hB hk c hc hi=>by
 simp only[b0d]at hB
 split at hB
 ·rename_i e;have:=Nat.eq_of_beq_eq_true e;subst this;cases hB
  have e1:p0c Try.prog 39 7=[cAt Try.prog 39 7]:=a0e (by kernel_rfl)
  have e2:c∈p0c Try.prog 39 7:=a0d hc hi
  rw[e1]at e2;cases List.mem_singleton.1 e2;exact x3b
 cases hB
def ev_63 (env:List Dat):Tree (Nat×List Dat):=Lk.boxC false LK b2b 39 (lsM [(7,z3m)] (List.length ([wrO 1,.arr TB 6]:List PB))) (mkF [.ptr 0 0,inV 0] [wrO 1,.arr TB 6] [0,1] [(.tup [],[wrO 1,.arr TB 0])] fun _=>none) env
theorem s3g:ExB ev_63:=exB _
def op_63:=Classical.choose s3g
theorem z3e (env:List Dat):op_63 env=(ev_63 env).sel:=Classical.choose_spec s3g env
def B63:FBox:=mkF [.ptr 0 0,inV 0] [wrO 1,.arr TB 6] [0,1] [(.tup [],[wrO 1,.arr TB 0])] op_63
theorem B63_ok:a0v Try.prog 39 (a0j B63):=a0p (op:=op_63) s0d hmix false (z3y) (fun env x h=>by rw[z3e]at h;rw[←boxC_lk];exact h)
def cs_63:FuncId→Option a0q:=e1c 39 [B63] b2b
theorem r3v:CsOk Try.prog cs_63:=h0a s0d fun B hB=>by
 cases List.mem_singleton.1 hB
 exact B63_ok
def ev_60 (env:List Dat):Tree (Nat×List Dat):=Lk.boxC false LK cs_63 48 ls0 (mkF [liV 0] [] [] [(.bool 0,[])] fun _=>none) env
theorem r3f:ExB ev_60:=exB _
def j2c:=Classical.choose r3f
theorem v1v (env:List Dat):j2c env=(ev_60 env).sel:=Classical.choose_spec r3f env
def B60:FBox:=mkF [liV 0] [] [] [(.bool 0,[])] j2c
theorem B60_ok:a0v Try.prog 48 (a0j B60):=a0p (op:=j2c) r3v hmix false (LsOk.none _ _ _) (fun env x h=>by rw[v1v]at h;rw[←boxC_lk];exact h)
def l2c:List Dat→Tree (Nat×List Dat)
 |[.n n0,.n n1,.n n2,.n n3,.l (Ty.int IntKind.u8) l4]=>
 (let r1:=(u3u [.n (4611686018427387904:Int),.l TI [n2,n3]]);
 (.node (isK 0 [.b] r1)
 (.node (gb (dOf r1) 0)
 (.leaf ((0,[.b (decide ((↑(List.length l4):Int)≤(2048:Int)))])))
 (.leaf ((0,[.b false]))))
 (.bad 351)))
 |_=>.bad 0
theorem c2x (n0:Int)(n1:Int)(n2:Int)(n3:Int)(l4:List (Ty.den TB)):Imp (l2c [.n n0,.n n1,.n n2,.n n3,.l TB l4]) (ev_60 [.n n0,.n n1,.n n2,.n n3,.l TB l4]):=
(.nd (fun h0=>
(.pa [1]
(.nd (fun h1=>
(.pa [1]
.lf)) (fun h1=>
(.pa [0,1]
.lf))))) (fun h0=>
.none))
def cs_60:FuncId→Option a0q:=a0s 48 B60 cs_63
theorem t1w:CsOk Try.prog cs_60:=a0g r3v B60_ok
def ev_71 (env:List Dat):Tree (Nat×List Dat):=Lk.boxC false LK cs_60 50 ls0 (mkF [.ptr 0 0,liV 0] [wrO 1,.arr TB 5] [0,1] [(.tup [],[wrO 1,.arr TB 0])] fun _=>none) env
theorem q3t:ExB ev_71:=exB _
def y3c:=Classical.choose q3t
theorem s3f (env:List Dat):y3c env=(ev_71 env).sel:=Classical.choose_spec q3t env
def B71:FBox:=mkF [.ptr 0 0,liV 0] [wrO 1,.arr TB 5] [0,1] [(.tup [],[wrO 1,.arr TB 0])] y3c
theorem B71_ok:a0v Try.prog 50 (a0j B71):=a0p (op:=y3c) t1w hmix false (LsOk.none _ _ _) (fun env x h=>by rw[s3f]at h;rw[←boxC_lk];exact h)
def v3f:List Dat→Tree (Nat×List Dat)
 |[.n n0,.n n1,.n n2,.n n3,.l (Ty.int IntKind.u8) l4,.l (Ty.int IntKind.u8) l5]=>
 (let r1:=(j3d [.n (IntKind.wrap .u64 n0),.n (1:Int),.l TB l5]);
 (.node (isK 0 [.l TB] r1)
 (let r2:=(j3d [.n (IntKind.wrap .u64 n1),.n (1:Int),.l TB (gl TB (dOf r1) 0)]);
 (.node (isK 0 [.l TB] r2)
 (let r3:=(x3p [.l TL [IntKind.wrap .u64 n2,IntKind.wrap .u64 n3],.l TB (gl TB (dOf r2) 0)]);
 (.node (isK 0 [.l TB] r3)
 (let r4:=(j3d [.n (IntKind.wrap .u64 (IntKind.wrap .u16 (↑(List.length l4):Int))),.n (2:Int),.l TB (gl TB (dOf r3) 0)]);
 (.node (isK 0 [.l TB] r4)
 (.node (decide ((List.length (gl TB (dOf r4) 0)+List.length l4)*1≤140737488355328))
 (.leaf ((0,[.l TB (gl TB (dOf r4) 0++l4)])))
 (.bad 62))
 (.bad 351)))
 (.bad 351)))
 (.bad 351)))
 (.bad 351)))
 |_=>.bad 0
theorem t3b (n0:Int)(n1:Int)(n2:Int)(n3:Int)(l4:List (Ty.den TB))(l5:List (Ty.den TB)):Imp (v3f [.n n0,.n n1,.n n2,.n n3,.l TB l4,.l TB l5]) (ev_71 [.n n0,.n n1,.n n2,.n n3,.l TB l4,.l TB l5]):=
(.pa [1,1,0,1,1]
(.nd (fun h0=>
(.pa [1,0,0,0,0,1,1,1,1,0,1,1]
(.nd (fun h1=>
(.pa [1,0,0,0,0,1,1,1]
(.nd (fun h2=>
(.pa [1,1,1,0,0,1,1]
(.nd (fun h3=>
(.pa [1,0,0,0,1,1,1,1,0,0,0,0,0,1]
(.nd (fun h4=>
(.pa [1,1,1]
.lf)) (fun h4=>
.none)))) (fun h3=>
.none)))) (fun h2=>
.none)))) (fun h1=>
.none)))) (fun h0=>
.none)))
def cs_71:FuncId→Option a0q:=e1c 50 [B71] cs_60
theorem r3h:CsOk Try.prog cs_71:=h0a t1w fun B hB=>by
 cases List.mem_singleton.1 hB
 exact B71_ok
def w3y (env:List Dat):Tree (Nat×List Dat):=Lk.boxCN [(0,TB)] false LK cs_71 13 ls0 (mkF [liV 0] [] [] [(.own 0,[.arr TB 0])] fun _=>none) env
theorem n3o:ExB w3y:=exB _
def j3c:=Classical.choose n3o
theorem p3a (env:List Dat):j3c env=(w3y env).sel:=Classical.choose_spec n3o env
def B13p:FBox:=mkF [liV 0] [] [] [(.own 0,[.arr TB 0])] j3c
theorem y3i:a0v Try.prog 13 (a0j B13p):=x3w (nils:=[(0,TB)]) (op:=j3c) r3h hmix false (LsOk.none _ _ _) (fun env x h=>by rw[p3a]at h;rw[←boxCN_lk];exact h)
def r3g:List Dat→Tree (Nat×List Dat)
 |[.n n0,.n n1,.n n2,.n n3,.l (Ty.int IntKind.u8) l4]=>
 (let r1:=(j2c [.n n0,.n n1,.n n2,.n n3,.l TB l4]);
 (.node (isK 0 [.b] r1)
 (.node (gb (dOf r1) 0)
 (let r2:=(o3v [.n (5:Int),.n (1:Int)]);
 (.node (isK 0 [] r2)
 (.bad 340)
 (.node (isK 1 [.l TB] r2)
 (let r3:=(y3c [.n n0,.n n1,.n n2,.n n3,.l TB l4,.l TB (gl TB (dOf r2) 0)]);
 (.node (isK 0 [.l TB] r3)
 (let r4:=(i2m [.l TB (gl TB (dOf r3) 0)]);
 (.node (isK 0 [.l TB] r4)
 (let r5:=(l3p [.l TB (gl TB (dOf r4) 0)]);
 (.node (isK 0 [.n] r5)
 (let r6:=(j3d [.n (IntKind.wrap .u64 (gn (dOf r5) 0)),.n (4:Int),.l TB (gl TB (dOf r3) 0)]);
 (.node (isK 0 [.l TB] r6)
 (let r7:=(i2m [.l TB (gl TB (dOf r6) 0)]);
 (.node (isK 0 [.l TB] r7)
 (.leaf ((0,[.l TB (gl TB (dOf r7) 0)])))
 (.bad 351)))
 (.bad 351)))
 (.bad 351)))
 (.bad 351)))
 (.bad 351)))
 (.bad 351))))
 (.leaf ((0,[.l TB []]))))
 (.bad 351)))
 |_=>.bad 0
theorem p3y (n0:Int)(n1:Int)(n2:Int)(n3:Int)(l4:List (Ty.den TB)):Imp (r3g [.n n0,.n n1,.n n2,.n n3,.l TB l4]) (w3y [.n n0,.n n1,.n n2,.n n3,.l TB l4]):=
(.pa [1,0,0,0,0,0,0,0,0,0,0,1]
(.nd (fun h0=>
(.pa [1]
(.nd (fun h1=>
(.pa [1,1,1,0,1,1]
(.nd (fun h2=>
(.pa [1,0,0,0,0,1,1,1,1]
.none)) (fun h2=>
(.nd (fun h3=>
(.pa [1,0,0,0,0,1,1,1,1]
(.nd (fun h4=>
(.pa [1,1,1,0]
(.nd (fun h5=>
(.pa [1,1]
(.nd (fun h6=>
(.pa [1,1,1,0,0,0,1,1]
(.nd (fun h7=>
(.pa [1,0,0,1,1,1,0]
(.nd (fun h8=>
(.pa [1,1,1,1,1]
.lf)) (fun h8=>
.none)))) (fun h7=>
.none)))) (fun h6=>
.none)))) (fun h5=>
.none)))) (fun h4=>
.none)))) (fun h3=>
.none)))))) (fun h1=>
(.pa [1,1]
.lf))))) (fun h0=>
.none)))
def y3f:FuncId→Option a0q:=a0s 13 B13p cs_71
theorem o3f:CsOk Try.prog y3f:=a0g r3h y3i
def x3v (env:List Dat):Tree (Nat×List Dat):=Lk.boxCN [(0,TB)] false LK y3f 27 ls0 (mkF [lmV 0] [] [] [(.own 0,[.arr TB 0])] fun _=>none) env
theorem m3q:ExB x3v:=exB _
def j3q:=Classical.choose m3q
theorem o3j (env:List Dat):j3q env=(x3v env).sel:=Classical.choose_spec m3q env
def B21p:FBox:=mkF [lmV 0] [] [] [(.own 0,[.arr TB 0])] j3q
theorem y3d:a0v Try.prog 27 (a0j B21p):=x3w (nils:=[(0,TB)]) (op:=j3q) o3f hmix false (LsOk.none _ _ _) (fun env x h=>by rw[o3j]at h;rw[←boxCN_lk];exact h)
def r3b:List Dat→Tree (Nat×List Dat)
 |[.n n0,.n n1,.n n2,.n n3,.s s4]=>
 (.node (decide (n2<(0:Int)))
 (.leaf ((0,[.l TB []])))
 (.node (decide (n2>(4611686018427387904:Int)))
 (.leaf ((0,[.l TB []])))
 (.node (decide (n3<(0:Int)))
 (.leaf ((0,[.l TB []])))
 (.node (decide (n3>(4611686018427387904:Int)))
 (.leaf ((0,[.l TB []])))
 (.node (decide ((↑(ByteArray.size s4):Int)>(2048:Int)))
 (.leaf ((0,[.l TB []])))
 (let r1:=(o3w [.n (IntKind.wrap .u64 n2),.n (8:Int)]);
 (.node (isK 0 [.l TB] r1)
 (.node (decide ((3+List.length (gl TB (dOf r1) 0))*1≤140737488355328))
 (let r2:=(o3w [.n (IntKind.wrap .u64 n3),.n (8:Int)]);
 (.node (isK 0 [.l TB] r2)
 (.node (decide ((List.length (([(5:Int),n0,n1]:List (Ty.den TB))++gl TB (dOf r1) 0)+List.length (gl TB (dOf r2) 0))*1≤140737488355328))
 (let r3:=(o3w [.n (IntKind.wrap .u64 (↑(ByteArray.size s4):Int)),.n (2:Int)]);
 (.node (isK 0 [.l TB] r3)
 (.node (decide ((List.length (([(5:Int),n0,n1]:List (Ty.den TB))++gl TB (dOf r1) 0++gl TB (dOf r2) 0)+List.length (gl TB (dOf r3) 0))*1≤140737488355328))
 (.node (decide ((List.length (([(5:Int),n0,n1]:List (Ty.den TB))++gl TB (dOf r1) 0++gl TB (dOf r2) 0++gl TB (dOf r3) 0)+List.length (c0b s4))*1≤140737488355328))
 (let r4:=(o1n [.l TB (([(5:Int),n0,n1]:List (Ty.den TB))++gl TB (dOf r1) 0++gl TB (dOf r2) 0++gl TB (dOf r3) 0++c0b s4)]);
 (.node (isK 0 [.n] r4)
 (let r5:=(o3w [.n (IntKind.wrap .u64 (gn (dOf r4) 0)),.n (4:Int)]);
 (.node (isK 0 [.l TB] r5)
 (.node (decide ((List.length (([(5:Int),n0,n1]:List (Ty.den TB))++gl TB (dOf r1) 0++gl TB (dOf r2) 0++gl TB (dOf r3) 0++c0b s4)+List.length (gl TB (dOf r5) 0))*1≤140737488355328))
 (.leaf ((0,[.l TB (([(5:Int),n0,n1]:List (Ty.den TB))++gl TB (dOf r1) 0++gl TB (dOf r2) 0++gl TB (dOf r3) 0++c0b s4++gl TB (dOf r5) 0)])))
 (.bad 62))
 (.bad 351)))
 (.bad 351)))
 (.bad 62))
 (.bad 62))
 (.bad 351)))
 (.bad 62))
 (.bad 351)))
 (.bad 62))
 (.bad 351))))))))
 |_=>.bad 0
theorem p3w (n0:Int)(n1:Int)(n2:Int)(n3:Int)(s4:ByteArray):Imp (r3b [.n n0,.n n1,.n n2,.n n3,.s s4]) (x3v [.n n0,.n n1,.n n2,.n n3,.s s4]):=
(.nd (fun h0=>
(.pa [1,1,1,1,1,1,1,1,1]
.lf)) (fun h0=>
(.nd (fun h1=>
(.pa [1,1,1,1,1,1,1]
.lf)) (fun h1=>
(.nd (fun h2=>
(.pa [1,1,1,1,1]
.lf)) (fun h2=>
(.nd (fun h3=>
(.pa [1,1,1]
.lf)) (fun h3=>
(.nd (fun h4=>
(.pa [1]
.lf)) (fun h4=>
(.pa [1]
(.nd (fun h5=>
(.pa [1,1]
(.nd (fun h6=>
(.pa [1]
(.nd (fun h7=>
(.pa [1,1]
(.nd (fun h8=>
(.pa [1]
(.nd (fun h9=>
(.pa [1,1]
(.nd (fun h10=>
(.nd (fun h11=>
(.pa [1]
(.nd (fun h12=>
(.pa [1,1]
(.nd (fun h13=>
(.pa [1,1]
(.nd (fun h14=>
(.pa [1,1]
.lf)) (fun h14=>
.none)))) (fun h13=>
.none)))) (fun h12=>
.none)))) (fun h11=>
.none))) (fun h10=>
.none)))) (fun h9=>
.none)))) (fun h8=>
.none)))) (fun h7=>
.none)))) (fun h6=>
.none)))) (fun h5=>
.none)))))))))))))
def s3h:FuncId→Option a0q:=a0s 27 B21p y3f
theorem k3t:CsOk Try.prog s3h:=a0g o3f y3d
def rdB (h:Nat):PB:=.cells [.imm TB h,.bool (h+1)]
def liO (h:Nat)(v:PV):PV:=.agg [.int .u8 h,.int .u8 (h+1),.int .i64 (h+2),.int .i64 (h+3),v]
def i3j (env:List Dat):Tree Step:=Lk.stepMC false LK s3h 71 3 ls0 (mkM 0 [] [(sh 20 [(0,.imm TB 0),(3,.int .u64 1),(4,.int .i64 2)],[])] [] [(.exit 0,sh 20 [(3,.int .u64 0)],[])] fun _=>none) env
theorem j3m:ExL i3j:=exL _
def i3w:=Classical.choose j3m
theorem j3l (env:List Dat):i3w env=a0b i3j FU env:=Classical.choose_spec j3m env
def q3q:MBox:=mkM 0 [] [(sh 20 [(0,.imm TB 0),(3,.int .u64 1),(4,.int .i64 2)],[])] [] [(.exit 0,sh 20 [(3,.int .u64 0)],[])] i3w
theorem t3u:q3q=mkM 0 [] [(sh 20 [(0,.imm TB 0),(3,.int .u64 1),(4,.int .i64 2)],[])] [] [(.exit 0,sh 20 [(3,.int .u64 0)],[])] (a0b i3j FU):=congrArg (fun f=>mkM 0 [] [(sh 20 [(0,.imm TB 0),(3,.int .u64 1),(4,.int .i64 2)],[])] [] [(.exit 0,sh 20 [(3,.int .u64 0)],[])] f) (funext j3l)
theorem t3e: ∀t s x,(a0h q3q t s).sel=some x→a0k Try.prog 0 (.loop (cAt Try.prog 71 3)) t s x:=by
 rw[t3u]
 exact a0o (st:=i3j) (m:=FU) k3t hmix false (LsOk.none _ _ _) (by kernel_rfl) (fun env y h=>by rw[←stepMC_lk];exact h)
def i3s:List Dat→Tree Step
 |[.l (Ty.int IntKind.u8) l0,.n n1,.n n2]=>
 (.node (decide (n2<(↑(List.length l0):Int)))
 (.node (inR n2 (List.length l0))
 (.leaf (Step.go [.k 0,.l TB l0,.n (ior IntKind.u64 (ishl IntKind.u64 n1 (8:Int)) (IntKind.wrap .u64 (List.getD l0 (Int.toNat n2) (0:Int)))),.n (IntKind.wrap .i64 (n2+(1:Int)))]))
 (.bad 10))
 (.leaf (Step.stop 0 [.n n1])))
 |_=>.bad 0
theorem i3l (l0:List (Ty.den TB))(n1:Int)(n2:Int):Imp (i3s [.l TB l0,.n n1,.n n2]) (i3j [.k 0,.l TB l0,.n n1,.n n2]):=
(.pa [1]
(.nd (fun h0=>
(.pa [1]
(.nd (fun h1=>
(.pa [1]
.lf)) (fun h1=>
.none)))) (fun h0=>
(.pa [1]
.lf))))
theorem x3i:LsOk Try.prog (List.length ([]:List PB)) (lsM [(3,q3q)] (List.length ([]:List PB))) (a0r Try.prog 71):=LsOk.many fun j B hB hk c hc hi=>by
 simp only[b0d]at hB
 split at hB
 ·rename_i e;have:=Nat.eq_of_beq_eq_true e;subst this;cases hB
  have e1:p0c Try.prog 71 3=[cAt Try.prog 71 3]:=a0e (by kernel_rfl)
  have e2:c∈p0c Try.prog 71 3:=a0d hc hi
  rw[e1]at e2;cases List.mem_singleton.1 e2;exact t3e
 cases hB
def v3x (env:List Dat):Tree (Nat×List Dat):=Lk.boxC false LK s3h 71 (lsM [(3,q3q)] (List.length ([]:List PB))) (mkF [.imm TB 0] [] [] [(.int .u64 0,[])] fun _=>none) env
theorem m3p:ExB v3x:=exB _
def n3n:=Classical.choose m3p
theorem n3f (env:List Dat):n3n env=(v3x env).sel:=Classical.choose_spec m3p env
def B17r:FBox:=mkF [.imm TB 0] [] [] [(.int .u64 0,[])] n3n
theorem B17r_ok:a0v Try.prog 71 (a0j B17r):=a0p (op:=n3n) k3t hmix false (x3i) (fun env x h=>by rw[n3f]at h;rw[←boxC_lk];exact h)
def q3x:List Dat→Tree (Nat×List Dat)
 |[.l (Ty.int IntKind.u8) l0]=>
 (let r1:=(i3w [.k 0,.l TB l0,.n (0:Int),.n (0:Int)]);
 (.node (isK 0 [.n] r1)
 (.leaf ((0,[.n (gn (dOf r1) 0)])))
 (.bad 351)))
 |_=>.bad 0
theorem q3l (l0:List (Ty.den TB)):Imp (q3x [.l TB l0]) (v3x [.l TB l0]):=
(.nd (fun h0=>
(.pa [1]
.lf)) (fun h0=>
.none))
def x3e:FuncId→Option a0q:=a0s 71 B17r s3h
theorem n3t:CsOk Try.prog x3e:=a0g k3t B17r_ok
def u3f (env:List Dat):Tree (Nat×List Dat):=Lk.boxCV [(some 0,0,.imm TB)] false LK x3e 80 ls0 (mkF [.ptr 0 0,.int .i64 0] [rdB 1] [0] [(.imm TB 0,[rdB 1]),(.nilsl,[rdB 0])] fun _=>none) env
theorem o3x:ExB u3f:=exB _
def s1c:=Classical.choose o3x
theorem k3n (env:List Dat):s1c env=(u3f env).sel:=Classical.choose_spec o3x env
def B33r:FBox:=mkF [.ptr 0 0,.int .i64 0] [rdB 1] [0] [(.imm TB 0,[rdB 1]),(.nilsl,[rdB 0])] s1c
theorem B33r_ok:a0v Try.prog 80 (a0j B33r):=w3t (cv:=[(some 0,0,.imm TB)]) (op:=s1c) n3t hmix false (LsOk.none _ _ _) (fun env x h=>by rw[k3n]at h;rw[←boxCV_lk];exact h)
def m3e:List Dat→Tree (Nat×List Dat)
 |[.n n0,.l (Ty.int IntKind.u8) l1,.b b2]=>
 (.node (b2)
 (.leaf ((1,[.l TB [],.b true])))
 (.node (decide (n0<(0:Int)))
 (.leaf ((1,[.l TB [],.b true])))
 (.node (decide (n0>(↑(List.length l1):Int)))
 (.leaf ((1,[.l TB [],.b true])))
 (.node (true&&decide ((0:Int)≤n0))
 (.leaf ((0,[.l TB (List.take (Int.toNat n0) l1),.l TB (List.drop (Int.toNat n0) l1),.b b2])))
 (.bad 39)))))
 |_=>.bad 0
theorem k3m (n0:Int)(l1:List (Ty.den TB))(b2:Bool):Imp (m3e [.n n0,.l TB l1,.b b2]) (u3f [.n n0,.l TB l1,.b b2]):=
(.pa [0]
(.nd (fun h0=>
(.pa [1,1,1,1,1]
.lf)) (fun h0=>
(.nd (fun h1=>
(.pa [1,1,1]
.lf)) (fun h1=>
(.nd (fun h2=>
(.pa [1]
.lf)) (fun h2=>
(.sT ((decide (n0=n0)))
(.pt (c:=(decide ((0:Int)≤n0)&&decide (n0≤(↑(List.length l1):Int)))) (by kernel_rfl) (by kernel_rfl) (by(simp only[w64d,decide_eq_true_eq,decide_eq_false_iff_not,beq_iff_eq,beq_eq_false_iff_ne,bne_iff_ne,ne_eq,inR,Bool.and_eq_true,Bool.and_eq_false_iff,Bool.not_eq_true',Bool.not_eq_false',Bool.not_eq_eq_eq_not,Bool.not_true,Bool.not_false]at*;omega))
(.nd (fun h3=>
(.sT ((true&&decide ((↑(List.length l1):Int)≤(↑(List.length l1):Int))))
(.pt (c:=(decide ((0:Int)≤n0)&&decide (n0≤(↑(List.length l1):Int)))) (by kernel_rfl) (by kernel_rfl) (by(simp only[w64d,decide_eq_true_eq,decide_eq_false_iff_not,beq_iff_eq,beq_eq_false_iff_ne,bne_iff_ne,ne_eq,inR,Bool.and_eq_true,Bool.and_eq_false_iff,Bool.not_eq_true',Bool.not_eq_false',Bool.not_eq_eq_eq_not,Bool.not_true,Bool.not_false]at*;omega))
(.pa [1]
.lf)))) (fun h3=>
.none)))))))))))
def r3j:FuncId→Option a0q:=e1c 80 [B33r] x3e
theorem l3e:CsOk Try.prog r3j:=h0a n3t fun B hB=>by
 cases List.mem_singleton.1 hB
 exact B33r_ok
def i3c (env:List Dat):Tree Step:=Lk.stepMC false LK r3j 79 3 ls0 (mkM 1 [] [(sh 40 [(0,.ptr 0 0),(1,.int .i64 0),(5,.int .u64 1),(10,.imm TB 2),(11,.int .i64 3),(12,.int .i64 4)],[rdB 5]),(sh 40 [(0,.ptr 0 0),(1,.int .i64 0),(5,.int .u64 1),(10,.nilsl),(11,.int .i64 2),(12,.int .i64 3)],[rdB 4])] [] [(.exit 0,sh 40 [(0,.ptr 0 0),(1,.int .i64 0),(5,.int .u64 1)],[rdB 2])] fun _=>none) env
theorem j3p:ExL i3c:=exL _
def h3c:=Classical.choose j3p
theorem i3h (env:List Dat):h3c env=a0b i3c FU env:=Classical.choose_spec j3p env
def q3y:MBox:=mkM 1 [] [(sh 40 [(0,.ptr 0 0),(1,.int .i64 0),(5,.int .u64 1),(10,.imm TB 2),(11,.int .i64 3),(12,.int .i64 4)],[rdB 5]),(sh 40 [(0,.ptr 0 0),(1,.int .i64 0),(5,.int .u64 1),(10,.nilsl),(11,.int .i64 2),(12,.int .i64 3)],[rdB 4])] [] [(.exit 0,sh 40 [(0,.ptr 0 0),(1,.int .i64 0),(5,.int .u64 1)],[rdB 2])] h3c
theorem s3v:q3y=mkM 1 [] [(sh 40 [(0,.ptr 0 0),(1,.int .i64 0),(5,.int .u64 1),(10,.imm TB 2),(11,.int .i64 3),(12,.int .i64 4)],[rdB 5]),(sh 40 [(0,.ptr 0 0),(1,.int .i64 0),(5,.int .u64 1),(10,.nilsl),(11,.int .i64 2),(12,.int .i64 3)],[rdB 4])] [] [(.exit 0,sh 40 [(0,.ptr 0 0),(1,.int .i64 0),(5,.int .u64 1)],[rdB 2])] (a0b i3c FU):=congrArg (fun f=>mkM 1 [] [(sh 40 [(0,.ptr 0 0),(1,.int .i64 0),(5,.int .u64 1),(10,.imm TB 2),(11,.int .i64 3),(12,.int .i64 4)],[rdB 5]),(sh 40 [(0,.ptr 0 0),(1,.int .i64 0),(5,.int .u64 1),(10,.nilsl),(11,.int .i64 2),(12,.int .i64 3)],[rdB 4])] [] [(.exit 0,sh 40 [(0,.ptr 0 0),(1,.int .i64 0),(5,.int .u64 1)],[rdB 2])] f) (funext i3h)
theorem s3u: ∀t s x,(a0h q3y t s).sel=some x→a0k Try.prog 1 (.loop (cAt Try.prog 79 3)) t s x:=by
 rw[s3v]
 exact a0o (st:=i3c) (m:=FU) l3e hmix false (LsOk.none _ _ _) (by kernel_rfl) (fun env y h=>by rw[←stepMC_lk];exact h)
def i3r:List Dat→Tree Step
 |[.n n0,.n n1,.l (Ty.int IntKind.u8) l2,.n n3,.n n4,.l (Ty.int IntKind.u8) l5,.b b6]=>
 (.node (decide (n4<n3))
 (.node (inR n4 (List.length l2))
 (.leaf (Step.go [.k 0,.n n0,.n (ior IntKind.u64 (ishl IntKind.u64 n1 (8:Int)) (IntKind.wrap .u64 (List.getD l2 (Int.toNat n4) (0:Int)))),.l TB l2,.n n3,.n (IntKind.wrap .i64 (n4+(1:Int))),.l TB l5,.b b6]))
 (.bad 10))
 (.leaf (Step.stop 0 [.n n0,.n n1,.l TB l5,.b b6])))
 |_=>.bad 0
theorem i3m (n0:Int)(n1:Int)(l2:List (Ty.den TB))(n3:Int)(n4:Int)(l5:List (Ty.den TB))(b6:Bool):Imp (i3r [.n n0,.n n1,.l TB l2,.n n3,.n n4,.l TB l5,.b b6]) (i3c [.k 0,.n n0,.n n1,.l TB l2,.n n3,.n n4,.l TB l5,.b b6]):=
(.pa [1]
(.nd (fun h0=>
(.nd (fun h1=>
(.pa [1,1]
.lf)) (fun h1=>
.none))) (fun h0=>
(.pa [1]
.lf))))
def p3m:List Dat→Tree Step
 |[.n n0,.n n1,.n n2,.n n3,.l (Ty.int IntKind.u8) l4,.b b5]=>
 (.leaf (Step.stop 0 [.n n0,.n n1,.l TB l4,.b b5]))
 |_=>.bad 0
theorem l3i (n0:Int)(n1:Int)(n2:Int)(n3:Int)(l4:List (Ty.den TB))(b5:Bool)(g0:n2=0)(g1:n3=0):Imp (p3m [.n n0,.n n1,.n n2,.n n3,.l TB l4,.b b5]) (i3c [.k 1,.n n0,.n n1,.n n2,.n n3,.l TB l4,.b b5]):=
(.pa [1]
(.sF ((decide (n3<n2)))
(.pa [1]
.lf)))
theorem u3q:LsOk Try.prog (List.length ([rdB 1]:List PB)) (lsM [(3,q3y)] (List.length ([rdB 1]:List PB))) (a0r Try.prog 79):=LsOk.many fun j B hB hk c hc hi=>by
 simp only[b0d]at hB
 split at hB
 ·rename_i e;have:=Nat.eq_of_beq_eq_true e;subst this;cases hB
  have e1:p0c Try.prog 79 3=[cAt Try.prog 79 3]:=a0e (by kernel_rfl)
  have e2:c∈p0c Try.prog 79 3:=a0d hc hi
  rw[e1]at e2;cases List.mem_singleton.1 e2;exact s3u
 cases hB
def w3r (env:List Dat):Tree (Nat×List Dat):=Lk.boxC false LK r3j 79 (lsM [(3,q3y)] (List.length ([rdB 1]:List PB))) (mkF [.ptr 0 0,.int .i64 0] [rdB 1] [0] [(.iface 5 (.int .u8 0),[rdB 1]),(.iface 122 (.int .u16 0),[rdB 1]),(.iface 75 (.int .u32 0),[rdB 1]),(.iface 74 (.int .u64 0),[rdB 1])] fun _=>none) env
theorem o3p:ExB w3r:=exB _
def h3j:=Classical.choose o3p
theorem h3k (env:List Dat):h3j env=(w3r env).sel:=Classical.choose_spec o3p env
def B34r:FBox:=mkF [.ptr 0 0,.int .i64 0] [rdB 1] [0] [(.iface 5 (.int .u8 0),[rdB 1]),(.iface 122 (.int .u16 0),[rdB 1]),(.iface 75 (.int .u32 0),[rdB 1]),(.iface 74 (.int .u64 0),[rdB 1])] h3j
theorem B34r_ok:a0v Try.prog 79 (a0j B34r):=a0p (op:=h3j) l3e hmix false (u3q) (fun env x h=>by rw[h3k]at h;rw[←boxC_lk];exact h)
def h3r:List Dat→Tree (Nat×List Dat)
 |[.n n0,.l (Ty.int IntKind.u8) l1,.b b2]=>
 (let r1:=(s1c [.n n0,.l TB l1,.b b2]);
 (.node (isK 0 [.l TB,.l TB,.b] r1)
 (let r2:=(h3c [.k 0,.n n0,.n (0:Int),.l TB (gl TB (dOf r1) 0),.n (↑(List.length (gl TB (dOf r1) 0)):Int),.n (0:Int),.l TB (gl TB (dOf r1) 1),.b (gb (dOf r1) 2)]);
 (.node (isK 0 [.n,.n,.l TB,.b] r2)
 (.node (gn (dOf r2) 0==(1:Int))
 (.leaf ((0,[.n (IntKind.wrap .u8 (gn (dOf r2) 1)),.l TB (gl TB (dOf r2) 2),.b (gb (dOf r2) 3)])))
 (.node (gn (dOf r2) 0==(2:Int))
 (.leaf ((1,[.n (IntKind.wrap .u16 (gn (dOf r2) 1)),.l TB (gl TB (dOf r2) 2),.b (gb (dOf r2) 3)])))
 (.node (gn (dOf r2) 0==(4:Int))
 (.leaf ((2,[.n (IntKind.wrap .u32 (gn (dOf r2) 1)),.l TB (gl TB (dOf r2) 2),.b (gb (dOf r2) 3)])))
 (.leaf ((3,[.n (gn (dOf r2) 1),.l TB (gl TB (dOf r2) 2),.b (gb (dOf r2) 3)]))))))
 (.bad 351)))
 (.node (isK 1 [.l TB,.b] r1)
 (let r2:=(h3c [.k 1,.n n0,.n (0:Int),.n (0:Int),.n (0:Int),.l TB (gl TB (dOf r1) 0),.b (gb (dOf r1) 1)]);
 (.node (isK 0 [.n,.n,.l TB,.b] r2)
 (.node (gn (dOf r2) 0==(1:Int))
 (.leaf ((0,[.n (IntKind.wrap .u8 (gn (dOf r2) 1)),.l TB (gl TB (dOf r2) 2),.b (gb (dOf r2) 3)])))
 (.node (gn (dOf r2) 0==(2:Int))
 (.leaf ((1,[.n (IntKind.wrap .u16 (gn (dOf r2) 1)),.l TB (gl TB (dOf r2) 2),.b (gb (dOf r2) 3)])))
 (.node (gn (dOf r2) 0==(4:Int))
 (.leaf ((2,[.n (IntKind.wrap .u32 (gn (dOf r2) 1)),.l TB (gl TB (dOf r2) 2),.b (gb (dOf r2) 3)])))
 (.leaf ((3,[.n (gn (dOf r2) 1),.l TB (gl TB (dOf r2) 2),.b (gb (dOf r2) 3)]))))))
 (.bad 351)))
 (.bad 351))))
 |_=>.bad 0
theorem h3f (n0:Int)(l1:List (Ty.den TB))(b2:Bool):Imp (h3r [.n n0,.l TB l1,.b b2]) (w3r [.n n0,.l TB l1,.b b2]):=
(.pa [1]
(.nd (fun h0=>
(.pa [1]
(.nd (fun h1=>
(.nd (fun h2=>
(.pa [1]
.lf)) (fun h2=>
(.nd (fun h3=>
(.pa [1]
.lf)) (fun h3=>
(.nd (fun h4=>
(.pa [1]
.lf)) (fun h4=>
(.pa [1]
.lf)))))))) (fun h1=>
.none)))) (fun h0=>
(.nd (fun h1=>
(.pa [1]
(.nd (fun h2=>
(.nd (fun h3=>
(.pa [1]
.lf)) (fun h3=>
(.nd (fun h4=>
(.pa [1]
.lf)) (fun h4=>
(.nd (fun h5=>
(.pa [1]
.lf)) (fun h5=>
(.pa [1]
.lf)))))))) (fun h2=>
.none)))) (fun h1=>
.none)))))
def v3z:FuncId→Option a0q:=e1c 79 [B34r] r3j
theorem m3x:CsOk Try.prog v3z:=h0a l3e fun B hB=>by
 cases List.mem_singleton.1 hB
 exact B34r_ok
def x3r (env:List Dat):Tree (Nat×List Dat):=Lk.boxCV [(none,0,.imm TB)] false LK v3z 77 ls0 (mkF [.imm TB 0] [] [] [(.ptr 0 0,[rdB 0])] fun _=>none) env
theorem p3d:ExB x3r:=exB _
def k3p:=Classical.choose p3d
theorem m3s (env:List Dat):k3p env=(x3r env).sel:=Classical.choose_spec p3d env
def B13r:FBox:=mkF [.imm TB 0] [] [] [(.ptr 0 0,[rdB 0])] k3p
theorem B13r_ok:a0v Try.prog 77 (a0j B13r):=w3t (cv:=[(none,0,.imm TB)]) (op:=k3p) m3x hmix false (LsOk.none _ _ _) (fun env x h=>by rw[m3s]at h;rw[←boxCV_lk];exact h)
def r3m:List Dat→Tree (Nat×List Dat)
 |[.l (Ty.int IntKind.u8) l0]=>
 (let r1:=(i2m [.l TB l0]);
 (.node (isK 0 [.l TB] r1)
 (.leaf ((0,[.l TB (gl TB (dOf r1) 0),.b false])))
 (.bad 351)))
 |_=>.bad 0
theorem p3h (l0:List (Ty.den TB)):Imp (r3m [.l TB l0]) (x3r [.l TB l0]):=
(.nd (fun h0=>
(.pa [1,1]
.lf)) (fun h0=>
.none))
def w3b:FuncId→Option a0q:=e1c 77 [B13r] v3z
theorem o3z:CsOk Try.prog w3b:=h0a m3x fun B hB=>by
 cases List.mem_singleton.1 hB
 exact B13r_ok
def v3p (env:List Dat):Tree (Nat×List Dat):=Lk.boxC false LK w3b 67 ls0 (mkF [.ptr 0 0] [rdB 0] [0] [(.int .u8 0,[rdB 1])] fun _=>none) env
theorem o3u:ExB v3p:=exB _
def l3l:=Classical.choose o3u
theorem p3c (env:List Dat):l3l env=(v3p env).sel:=Classical.choose_spec o3u env
def B77r:FBox:=mkF [.ptr 0 0] [rdB 0] [0] [(.int .u8 0,[rdB 1])] l3l
theorem B77r_ok:a0v Try.prog 67 (a0j B77r):=a0p (op:=l3l) o3z hmix false (LsOk.none _ _ _) (fun env x h=>by rw[p3c]at h;rw[←boxC_lk];exact h)
def q3u:List Dat→Tree (Nat×List Dat)
 |[.l (Ty.int IntKind.u8) l0,.b b1]=>
 (let r1:=(h3j [.n (1:Int),.l TB l0,.b b1]);
 (.node (isK 0 [.n,.l TB,.b] r1)
 (.leaf ((0,[.n (gn (dOf r1) 0),.l TB (gl TB (dOf r1) 1),.b (gb (dOf r1) 2)])))
 (.node (isK 1 [.n,.l TB,.b] r1)
 (.bad 113)
 (.node (isK 2 [.n,.l TB,.b] r1)
 (.bad 113)
 (.node (isK 3 [.n,.l TB,.b] r1)
 (.bad 113)
 (.bad 351))))))
 |_=>.bad 0
theorem q3o (l0:List (Ty.den TB))(b1:Bool):Imp (q3u [.l TB l0,.b b1]) (v3p [.l TB l0,.b b1]):=
(.pa [1]
(.nd (fun h0=>
(.pa [1,1]
.lf)) (fun h0=>
(.nd (fun h1=>
(.pa [1]
.none)) (fun h1=>
(.nd (fun h2=>
(.pa [1]
.none)) (fun h2=>
(.nd (fun h3=>
(.pa [1]
.none)) (fun h3=>
.none)))))))))
def x3t:FuncId→Option a0q:=e1c 67 [B77r] w3b
theorem n3v:CsOk Try.prog x3t:=h0a o3z fun B hB=>by
 cases List.mem_singleton.1 hB
 exact B77r_ok
def v3s (env:List Dat):Tree (Nat×List Dat):=Lk.boxC false LK x3t 68 ls0 (mkF [.ptr 0 0] [rdB 0] [0] [(.int .u64 0,[rdB 1])] fun _=>none) env
theorem n3u:ExB v3s:=exB _
def l3q:=Classical.choose n3u
theorem m3l (env:List Dat):l3q env=(v3s env).sel:=Classical.choose_spec n3u env
def B78r:FBox:=mkF [.ptr 0 0] [rdB 0] [0] [(.int .u64 0,[rdB 1])] l3q
theorem B78r_ok:a0v Try.prog 68 (a0j B78r):=a0p (op:=l3q) n3v hmix false (LsOk.none _ _ _) (fun env x h=>by rw[m3l]at h;rw[←boxC_lk];exact h)
def q3w:List Dat→Tree (Nat×List Dat)
 |[.l (Ty.int IntKind.u8) l0,.b b1]=>
 (let r1:=(h3j [.n (8:Int),.l TB l0,.b b1]);
 (.node (isK 0 [.n,.l TB,.b] r1)
 (.bad 113)
 (.node (isK 1 [.n,.l TB,.b] r1)
 (.bad 113)
 (.node (isK 2 [.n,.l TB,.b] r1)
 (.bad 113)
 (.node (isK 3 [.n,.l TB,.b] r1)
 (.leaf ((0,[.n (gn (dOf r1) 0),.l TB (gl TB (dOf r1) 1),.b (gb (dOf r1) 2)])))
 (.bad 351))))))
 |_=>.bad 0
theorem p3e (l0:List (Ty.den TB))(b1:Bool):Imp (q3w [.l TB l0,.b b1]) (v3s [.l TB l0,.b b1]):=
(.pa [1]
(.nd (fun h0=>
(.pa [1]
.none)) (fun h0=>
(.nd (fun h1=>
(.pa [1]
.none)) (fun h1=>
(.nd (fun h2=>
(.pa [1]
.none)) (fun h2=>
(.nd (fun h3=>
(.pa [1,1]
.lf)) (fun h3=>
.none)))))))))
def w3l:FuncId→Option a0q:=e1c 68 [B78r] x3t
theorem m3n:CsOk Try.prog w3l:=h0a n3v fun B hB=>by
 cases List.mem_singleton.1 hB
 exact B78r_ok
def x3d (env:List Dat):Tree (Nat×List Dat):=Lk.boxC false LK w3l 78 ls0 (mkF [.ptr 0 0] [rdB 0] [0] [(.int .u32 0,[rdB 1])] fun _=>none) env
theorem n3d:ExB x3d:=exB _
def m3j:=Classical.choose n3d
theorem o3l (env:List Dat):m3j env=(x3d env).sel:=Classical.choose_spec n3d env
def B79r:FBox:=mkF [.ptr 0 0] [rdB 0] [0] [(.int .u32 0,[rdB 1])] m3j
theorem B79r_ok:a0v Try.prog 78 (a0j B79r):=a0p (op:=m3j) m3n hmix false (LsOk.none _ _ _) (fun env x h=>by rw[o3l]at h;rw[←boxC_lk];exact h)
def r3d:List Dat→Tree (Nat×List Dat)
 |[.l (Ty.int IntKind.u8) l0,.b b1]=>
 (let r1:=(h3j [.n (4:Int),.l TB l0,.b b1]);
 (.node (isK 0 [.n,.l TB,.b] r1)
 (.bad 113)
 (.node (isK 1 [.n,.l TB,.b] r1)
 (.bad 113)
 (.node (isK 2 [.n,.l TB,.b] r1)
 (.leaf ((0,[.n (gn (dOf r1) 0),.l TB (gl TB (dOf r1) 1),.b (gb (dOf r1) 2)])))
 (.node (isK 3 [.n,.l TB,.b] r1)
 (.bad 113)
 (.bad 351))))))
 |_=>.bad 0
theorem p3s (l0:List (Ty.den TB))(b1:Bool):Imp (r3d [.l TB l0,.b b1]) (x3d [.l TB l0,.b b1]):=
(.pa [1]
(.nd (fun h0=>
(.pa [1]
.none)) (fun h0=>
(.nd (fun h1=>
(.pa [1]
.none)) (fun h1=>
(.nd (fun h2=>
(.pa [1,1]
.lf)) (fun h2=>
(.nd (fun h3=>
(.pa [1]
.none)) (fun h3=>
.none)))))))))
def u3i:FuncId→Option a0q:=e1c 78 [B79r] w3l
theorem o3d:CsOk Try.prog u3i:=h0a m3n fun B hB=>by
 cases List.mem_singleton.1 hB
 exact B79r_ok
def x3l (env:List Dat):Tree (Nat×List Dat):=Lk.boxC false LK u3i 70 ls0 (mkF [.ptr 0 0] [rdB 0] [0] [(.int .u16 0,[rdB 1])] fun _=>none) env
theorem o3m:ExB x3l:=exB _
def o3e:=Classical.choose o3m
theorem o3y (env:List Dat):o3e env=(x3l env).sel:=Classical.choose_spec o3m env
def B83r:FBox:=mkF [.ptr 0 0] [rdB 0] [0] [(.int .u16 0,[rdB 1])] o3e
theorem B83r_ok:a0v Try.prog 70 (a0j B83r):=a0p (op:=o3e) o3d hmix false (LsOk.none _ _ _) (fun env x h=>by rw[o3y]at h;rw[←boxC_lk];exact h)
def s3i:List Dat→Tree (Nat×List Dat)
 |[.l (Ty.int IntKind.u8) l0,.b b1]=>
 (let r1:=(h3j [.n (2:Int),.l TB l0,.b b1]);
 (.node (isK 0 [.n,.l TB,.b] r1)
 (.bad 113)
 (.node (isK 1 [.n,.l TB,.b] r1)
 (.leaf ((0,[.n (gn (dOf r1) 0),.l TB (gl TB (dOf r1) 1),.b (gb (dOf r1) 2)])))
 (.node (isK 2 [.n,.l TB,.b] r1)
 (.bad 113)
 (.node (isK 3 [.n,.l TB,.b] r1)
 (.bad 113)
 (.bad 351))))))
 |_=>.bad 0
theorem q3h (l0:List (Ty.den TB))(b1:Bool):Imp (s3i [.l TB l0,.b b1]) (x3l [.l TB l0,.b b1]):=
(.pa [1]
(.nd (fun h0=>
(.pa [1]
.none)) (fun h0=>
(.nd (fun h1=>
(.pa [1,1]
.lf)) (fun h1=>
(.nd (fun h2=>
(.pa [1]
.none)) (fun h2=>
(.nd (fun h3=>
(.pa [1]
.none)) (fun h3=>
.none)))))))))
def w3p:FuncId→Option a0q:=e1c 70 [B83r] u3i
theorem n3l:CsOk Try.prog w3p:=h0a o3d fun B hB=>by
 cases List.mem_singleton.1 hB
 exact B83r_ok
def y3n (env:List Dat):Tree (Nat×List Dat):=Lk.boxC false LK w3p 69 ls0 (mkF [.ptr 0 0,.int .i64 0] [rdB 1] [0] [(.own 1,[rdB 0,.arr TB 2])] fun _=>none) env
theorem o3r:ExB y3n:=exB _
def n3i:=Classical.choose o3r
theorem o3a (env:List Dat):n3i env=(y3n env).sel:=Classical.choose_spec o3r env
def B82r:FBox:=mkF [.ptr 0 0,.int .i64 0] [rdB 1] [0] [(.own 1,[rdB 0,.arr TB 2])] n3i
theorem B82r_ok:a0v Try.prog 69 (a0j B82r):=a0p (op:=n3i) n3l hmix false (LsOk.none _ _ _) (fun env x h=>by rw[o3a]at h;rw[←boxC_lk];exact h)
def r3i:List Dat→Tree (Nat×List Dat)
 |[.n n0,.l (Ty.int IntKind.u8) l1,.b b2]=>
 (let r1:=(s1c [.n n0,.l TB l1,.b b2]);
 (.node (isK 0 [.l TB,.l TB,.b] r1)
 (let r2:=(i2m [.l TB (gl TB (dOf r1) 0)]);
 (.node (isK 0 [.l TB] r2)
 (.leaf ((0,[.l TB (gl TB (dOf r1) 1),.b (gb (dOf r1) 2),.l TB (gl TB (dOf r2) 0)])))
 (.bad 351)))
 (.node (isK 1 [.l TB,.b] r1)
 (.leaf ((0,[.l TB (gl TB (dOf r1) 0),.b (gb (dOf r1) 1),.l TB (gl TB (dOf (i2m [.l TB []])) 0)])))
 (.bad 351))))
 |_=>.bad 0
theorem p3i (n0:Int)(l1:List (Ty.den TB))(b2:Bool):Imp (r3i [.n n0,.l TB l1,.b b2]) (y3n [.n n0,.l TB l1,.b b2]):=
(.pa [1]
(.nd (fun h0=>
(.pa [1]
(.nd (fun h1=>
(.pa [1,1]
.lf)) (fun h1=>
.none)))) (fun h0=>
(.nd (fun h1=>
(.pa [1,1,1,1]
.lf)) (fun h1=>
.none)))))
def u3j:FuncId→Option a0q:=e1c 69 [B82r] w3p
theorem m3m:CsOk Try.prog u3j:=h0a n3l fun B hB=>by
 cases List.mem_singleton.1 hB
 exact B82r_ok
def u3c (env:List Dat):Tree (Nat×List Dat):=Lk.boxC false LK u3j 64 ls0 (mkF [.imm TB 0,.int .u8 1] [] [] [(.tup [.ptr 0 0,.bool 0],[rdB 1]),(.tup [.nilptr,.bool 0],[])] fun _=>none) env
theorem n3j:ExB u3c:=exB _
def l3o:=Classical.choose n3j
theorem k3w (env:List Dat):l3o env=(u3c env).sel:=Classical.choose_spec n3j env
def B74r:FBox:=mkF [.imm TB 0,.int .u8 1] [] [] [(.tup [.ptr 0 0,.bool 0],[rdB 1]),(.tup [.nilptr,.bool 0],[])] l3o
theorem B74r_ok:a0v Try.prog 64 (a0j B74r):=a0p (op:=l3o) m3m hmix false (LsOk.none _ _ _) (fun env x h=>by rw[k3w]at h;rw[←boxC_lk];exact h)
def m3f:List Dat→Tree (Nat×List Dat)
 |[.l (Ty.int IntKind.u8) l0,.n n1]=>
 (.node (decide (IntKind.wrap .i64 ((↑(List.length l0):Int)-(4:Int))<(1:Int)))
 (.leaf ((1,[.b false])))
 (.node ((List.getD l0 0 (0:Int):Int) !=n1)
 (.leaf ((1,[.b false])))
 (let r1:=(k3p [.l TB (List.drop (Int.toNat (IntKind.wrap .i64 ((↑(List.length l0):Int)-(4:Int)))) l0)]);
 (.node (isK 0 [.l TB,.b] r1)
 (let r2:=(m3j [.l TB (gl TB (dOf r1) 0),.b (gb (dOf r1) 1)]);
 (.node (isK 0 [.n,.l TB,.b] r2)
 (.node (true&&decide ((0:Int)≤IntKind.wrap .i64 ((↑(List.length l0):Int)-(4:Int))))
 (let r3:=(l3p [.l TB (List.take (Int.toNat (IntKind.wrap .i64 ((↑(List.length l0):Int)-(4:Int)))) l0)]);
 (.node (isK 0 [.n] r3)
 (.node (gn (dOf r2) 0 !=gn (dOf r3) 0)
 (.leaf ((1,[.b false])))
 (.node (true&&decide ((1:Int)≤IntKind.wrap .i64 ((↑(List.length l0):Int)-(4:Int))))
 (let r4:=(k3p [.l TB (List.drop 1 (List.take (Int.toNat (IntKind.wrap .i64 ((↑(List.length l0):Int)-(4:Int)))) l0))]);
 (.node (isK 0 [.l TB,.b] r4)
 (.leaf ((0,[.b true,.l TB (gl TB (dOf r4) 0),.b (gb (dOf r4) 1)])))
 (.bad 351)))
 (.bad 43)))
 (.bad 351)))
 (.bad 43))
 (.bad 351)))
 (.bad 351)))))
 |_=>.bad 0
theorem k3k (l0:List (Ty.den TB))(n1:Int):Imp (m3f [.l TB l0,.n n1]) (u3c [.l TB l0,.n n1]):=
(.nd (fun h0=>
(.pa [1,1,1,1,1,1]
.lf)) (fun h0=>
(.pt (c:=(inR (0:Int) (List.length l0))) (by kernel_rfl) (by kernel_rfl) (by(simp only[w64d,decide_eq_true_eq,decide_eq_false_iff_not,beq_iff_eq,beq_eq_false_iff_ne,bne_iff_ne,ne_eq,inR,Bool.and_eq_true,Bool.and_eq_false_iff,Bool.not_eq_true',Bool.not_eq_false',Bool.not_eq_eq_eq_not,Bool.not_true,Bool.not_false]at*;omega))
(.nd (fun h1=>
(.pa [1,1,1,1]
.lf)) (fun h1=>
(.sT ((true&&decide ((↑(List.length l0):Int)≤(↑(List.length l0):Int))))
(.pt (c:=(decide ((0:Int)≤IntKind.wrap .i64 ((↑(List.length l0):Int)-(4:Int)))&&decide (IntKind.wrap .i64 ((↑(List.length l0):Int)-(4:Int))≤(↑(List.length l0):Int)))) (by kernel_rfl) (by kernel_rfl) (by(simp only[w64d,decide_eq_true_eq,decide_eq_false_iff_not,beq_iff_eq,beq_eq_false_iff_ne,bne_iff_ne,ne_eq,inR,Bool.and_eq_true,Bool.and_eq_false_iff,Bool.not_eq_true',Bool.not_eq_false',Bool.not_eq_eq_eq_not,Bool.not_true,Bool.not_false]at*;omega))
(.pa [1]
(.nd (fun h2=>
(.pa [1,1]
(.nd (fun h3=>
(.pa [1]
(.pt (c:=(decide ((0:Int)≤IntKind.wrap .i64 ((↑(List.length l0):Int)-(4:Int)))&&decide (IntKind.wrap .i64 ((↑(List.length l0):Int)-(4:Int))≤(↑(List.length l0):Int)))) (by kernel_rfl) (by kernel_rfl) (by(simp only[w64d,decide_eq_true_eq,decide_eq_false_iff_not,beq_iff_eq,beq_eq_false_iff_ne,bne_iff_ne,ne_eq,inR,Bool.and_eq_true,Bool.and_eq_false_iff,Bool.not_eq_true',Bool.not_eq_false',Bool.not_eq_eq_eq_not,Bool.not_true,Bool.not_false]at*;omega))
(.nd (fun h4=>
(.nd (fun h5=>
(.pa [1,1]
(.nd (fun h6=>
(.pa [1]
.lf)) (fun h6=>
(.pt (c:=(decide ((0:Int)≤IntKind.wrap .i64 ((↑(List.length l0):Int)-(4:Int)))&&decide (IntKind.wrap .i64 ((↑(List.length l0):Int)-(4:Int))≤(↑(List.length l0):Int)))) (by kernel_rfl) (by kernel_rfl) (by(simp only[w64d,decide_eq_true_eq,decide_eq_false_iff_not,beq_iff_eq,beq_eq_false_iff_ne,bne_iff_ne,ne_eq,inR,Bool.and_eq_true,Bool.and_eq_false_iff,Bool.not_eq_true',Bool.not_eq_false',Bool.not_eq_eq_eq_not,Bool.not_true,Bool.not_false]at*;omega))
(.nd (fun h7=>
(.pa [1]
(.nd (fun h8=>
(.pa [1,1]
.lf)) (fun h8=>
.none)))) (fun h7=>
.none))))))) (fun h5=>
.none))) (fun h4=>
.none))))) (fun h3=>
.none)))) (fun h2=>
.none))))))))))
def u3r:FuncId→Option a0q:=e1c 64 [B74r] u3j
theorem n3p:CsOk Try.prog u3r:=h0a m3m fun B hB=>by
 cases List.mem_singleton.1 hB
 exact B74r_ok
def w3d (env:List Dat):Tree (Nat×List Dat):=Lk.boxC false LK u3r 52 ls0 (mkF [.ptr 0 0] [rdB 0] [0] [(liO 0 (.own 1),[rdB 4,.arr TB 6])] fun _=>none) env
theorem n3c:ExB w3d:=exB _
def l3g:=Classical.choose n3c
theorem o3k (env:List Dat):l3g env=(w3d env).sel:=Classical.choose_spec n3c env
def B59r:FBox:=mkF [.ptr 0 0] [rdB 0] [0] [(liO 0 (.own 1),[rdB 4,.arr TB 6])] l3g
theorem B59r_ok:a0v Try.prog 52 (a0j B59r):=a0p (op:=l3g) n3p hmix false (LsOk.none _ _ _) (fun env x h=>by rw[o3k]at h;rw[←boxC_lk];exact h)
def r3u:List Dat→Tree (Nat×List Dat)
 |[.l (Ty.int IntKind.u8) l0,.b b1]=>
 (let r1:=(l3l [.l TB l0,.b b1]);
 (.node (isK 0 [.n,.l TB,.b] r1)
 (let r2:=(l3l [.l TB (gl TB (dOf r1) 1),.b (gb (dOf r1) 2)]);
 (.node (isK 0 [.n,.l TB,.b] r2)
 (let r3:=(l3q [.l TB (gl TB (dOf r2) 1),.b (gb (dOf r2) 2)]);
 (.node (isK 0 [.n,.l TB,.b] r3)
 (let r4:=(l3q [.l TB (gl TB (dOf r3) 1),.b (gb (dOf r3) 2)]);
 (.node (isK 0 [.n,.l TB,.b] r4)
 (let r5:=(o3e [.l TB (gl TB (dOf r4) 1),.b (gb (dOf r4) 2)]);
 (.node (isK 0 [.n,.l TB,.b] r5)
 (let r6:=(n3i [.n (IntKind.wrap .i64 (gn (dOf r5) 0)),.l TB (gl TB (dOf r5) 1),.b (gb (dOf r5) 2)]);
 (.node (isK 0 [.l TB,.b,.l TB] r6)
 (.leaf ((0,[.n (gn (dOf r1) 0),.n (gn (dOf r2) 0),.n (IntKind.wrap .i64 (gn (dOf r3) 0)),.n (IntKind.wrap .i64 (gn (dOf r4) 0)),.l TB (gl TB (dOf r6) 0),.b (gb (dOf r6) 1),.l TB (gl TB (dOf r6) 2)])))
 (.bad 351)))
 (.bad 351)))
 (.bad 351)))
 (.bad 351)))
 (.bad 351)))
 (.bad 351)))
 |_=>.bad 0
theorem p3v (l0:List (Ty.den TB))(b1:Bool):Imp (r3u [.l TB l0,.b b1]) (w3d [.l TB l0,.b b1]):=
(.pa [1]
(.nd (fun h0=>
(.pa [1,1]
(.nd (fun h1=>
(.pa [1,1]
(.nd (fun h2=>
(.pa [1,1]
(.nd (fun h3=>
(.pa [1,1]
(.nd (fun h4=>
(.pa [1,1]
(.nd (fun h5=>
(.pa [1,1]
.lf)) (fun h5=>
.none)))) (fun h4=>
.none)))) (fun h3=>
.none)))) (fun h2=>
.none)))) (fun h1=>
.none)))) (fun h0=>
.none)))
def u3l:FuncId→Option a0q:=e1c 52 [B59r] u3r
theorem m3r:CsOk Try.prog u3l:=h0a n3p fun B hB=>by
 cases List.mem_singleton.1 hB
 exact B59r_ok
def y3m (env:List Dat):Tree (Nat×List Dat):=Lk.boxC false LK u3l 29 ls0 (mkF [.imm TB 0] [] [] [(.tup [liO 0 (.own 0),.int .i64 4],[.arr TB 5]),(.tup [liO 0 .nilsl,.int .i64 4],[])] fun _=>none) env
theorem n3y:ExB y3m:=exB _
def h3q:=Classical.choose n3y
theorem k3x (env:List Dat):h3q env=(y3m env).sel:=Classical.choose_spec n3y env
def B32r:FBox:=mkF [.imm TB 0] [] [] [(.tup [liO 0 (.own 0),.int .i64 4],[.arr TB 5]),(.tup [liO 0 .nilsl,.int .i64 4],[])] h3q
theorem y3k:a0v Try.prog 29 (a0j B32r):=a0p (op:=h3q) m3r hmix false (LsOk.none _ _ _) (fun env x h=>by rw[k3x]at h;rw[←boxC_lk];exact h)
def m3h:List Dat→Tree (Nat×List Dat)
 |[.l (Ty.int IntKind.u8) l0]=>
 (let r1:=(l3o [.l TB l0,.n (5:Int)]);
 (.node (isK 0 [.b,.l TB,.b] r1)
 (.node (!gb (dOf r1) 0)
 (.leaf ((1,[.n (0:Int),.n (0:Int),.n (0:Int),.n (0:Int),.n (130:Int)])))
 (let r2:=(l3g [.l TB (gl TB (dOf r1) 1),.b (gb (dOf r1) 2)]);
 (.node (isK 0 [.n,.n,.n,.n,.l TB,.b,.l TB] r2)
 (.node (gb (dOf r2) 5)
 (.leaf ((1,[.n (0:Int),.n (0:Int),.n (0:Int),.n (0:Int),.n (130:Int)])))
 (.node (decide ((↑(List.length (gl TB (dOf r2) 4)):Int)>(0:Int)))
 (.leaf ((1,[.n (0:Int),.n (0:Int),.n (0:Int),.n (0:Int),.n (130:Int)])))
 (let r3:=(j2c [.n (gn (dOf r2) 0),.n (gn (dOf r2) 1),.n (gn (dOf r2) 2),.n (gn (dOf r2) 3),.l TB (gl TB (dOf r2) 6)]);
 (.node (isK 0 [.b] r3)
 (.node (!gb (dOf r3) 0)
 (.leaf ((1,[.n (0:Int),.n (0:Int),.n (0:Int),.n (0:Int),.n (130:Int)])))
 (.leaf ((0,[.n (gn (dOf r2) 0),.n (gn (dOf r2) 1),.n (gn (dOf r2) 2),.n (gn (dOf r2) 3),.n (0:Int),.l TB (gl TB (dOf r2) 6)]))))
 (.bad 351)))))
 (.bad 351))))
 (.node (isK 1 [.b] r1)
 (.node (!gb (dOf r1) 0)
 (.leaf ((1,[.n (0:Int),.n (0:Int),.n (0:Int),.n (0:Int),.n (130:Int)])))
 (.bad 340))
 (.bad 351))))
 |_=>.bad 0
theorem k3f (l0:List (Ty.den TB)):Imp (m3h [.l TB l0]) (y3m [.l TB l0]):=
(.pa [1,1]
(.nd (fun h0=>
(.pa [1]
(.nd (fun h1=>
(.pa [1,1]
.lf)) (fun h1=>
(.pa [1]
(.nd (fun h2=>
(.pa [1,1,0,1]
(.nd (fun h3=>
(.pa [1,1,1,1,1,1]
.lf)) (fun h3=>
(.pa [1,0,1]
(.nd (fun h4=>
(.pa [1,1,1,1]
.lf)) (fun h4=>
(.nd (fun h5=>
(.pa [1]
(.nd (fun h6=>
(.pa [1,1]
.lf)) (fun h6=>
(.pa [1,1]
.lf))))) (fun h5=>
.none))))))))) (fun h2=>
.none))))))) (fun h0=>
(.nd (fun h1=>
(.pa [1]
(.nd (fun h2=>
(.pa [1,1]
.lf)) (fun h2=>
(.pa [1]
.none))))) (fun h1=>
.none)))))
def w3e:FuncId→Option a0q:=a0s 29 B32r u3l
theorem n3g:CsOk Try.prog w3e:=a0g m3r y3k
def w3x (env:List Dat):Tree (Nat×List Dat):=Lk.boxC false LK w3e 53 ls0 (mkF [.imm TB 0,.int .i64 1,.int .i64 2] [] [] [(.int .u64 0,[])] fun _=>none) env
theorem m3o:ExB w3x:=exB _
def l3t:=Classical.choose m3o
theorem m3u (env:List Dat):l3t env=(w3x env).sel:=Classical.choose_spec m3o env
def B47r:FBox:=mkF [.imm TB 0,.int .i64 1,.int .i64 2] [] [] [(.int .u64 0,[])] l3t
theorem B47r_ok:a0v Try.prog 53 (a0j B47r):=a0p (op:=l3t) n3g hmix false (LsOk.none _ _ _) (fun env x h=>by rw[m3u]at h;rw[←boxC_lk];exact h)
def r3a:List Dat→Tree (Nat×List Dat)
 |[.l (Ty.int IntKind.u8) l0,.n n1,.n n2]=>
 (.node (decide (IntKind.wrap .i64 (n1+n2)>(↑(List.length l0):Int)))
 (.leaf ((0,[.n (0:Int)])))
 (.node (decide ((0:Int)≤IntKind.wrap .i64 (n1+n2))&&decide (IntKind.wrap .i64 (n1+n2)≤(↑(List.length l0):Int)))
 (.node (decide ((0:Int)≤n1)&&decide (n1≤IntKind.wrap .i64 (n1+n2)))
 (let r1:=(n3n [.l TB (List.drop (Int.toNat n1) (List.take (Int.toNat (IntKind.wrap .i64 (n1+n2))) l0))]);
 (.node (isK 0 [.n] r1)
 (.leaf ((0,[.n (gn (dOf r1) 0)])))
 (.bad 351)))
 (.bad 43))
 (.bad 42)))
 |_=>.bad 0
theorem p3t (l0:List (Ty.den TB))(n1:Int)(n2:Int):Imp (r3a [.l TB l0,.n n1,.n n2]) (w3x [.l TB l0,.n n1,.n n2]):=
(.nd (fun h0=>
(.pa [1]
.lf)) (fun h0=>
(.nd (fun h1=>
(.nd (fun h2=>
(.nd (fun h3=>
(.pa [1,1]
.lf)) (fun h3=>
.none))) (fun h2=>
.none))) (fun h1=>
.none))))
def v3r:FuncId→Option a0q:=a0s 53 B47r w3e
theorem m3w:CsOk Try.prog v3r:=a0g n3g B47r_ok
def w3z (env:List Dat):Tree (Nat×List Dat):=Lk.boxC false LK v3r 30 ls0 (mkF [.imm TB 0] [] [] [(.tup [lmV 0,.bool 5],[])] fun _=>none) env
theorem o3n:ExB w3z:=exB _
def h3o:=Classical.choose o3n
theorem k3v (env:List Dat):h3o env=(w3z env).sel:=Classical.choose_spec o3n env
def B33g:FBox:=mkF [.imm TB 0] [] [] [(.tup [lmV 0,.bool 5],[])] h3o
theorem v3u:a0v Try.prog 30 (a0j B33g):=a0p (op:=h3o) m3w hmix false (LsOk.none _ _ _) (fun env x h=>by rw[k3v]at h;rw[←boxC_lk];exact h)
def m3b:List Dat→Tree (Nat×List Dat)
 |[.l (Ty.int IntKind.u8) l0]=>
 (.node (decide ((↑(List.length l0):Int)<(25:Int)))
 (.leaf ((0,[.n (0:Int),.n (0:Int),.n (0:Int),.n (0:Int),.s {data:={toList:=[]}},.b false])))
 (let r1:=(l3t [.l TB l0,.n (3:Int),.n (8:Int)]);
 (.node (isK 0 [.n] r1)
 (let r2:=(l3t [.l TB l0,.n (11:Int),.n (8:Int)]);
 (.node (isK 0 [.n] r2)
 (.node (decide ((0:Int)≤IntKind.wrap .i64 ((↑(List.length l0):Int)-(4:Int)))&&decide (IntKind.wrap .i64 ((↑(List.length l0):Int)-(4:Int))≤(↑(List.length l0):Int)))
 (.node (true&&decide ((21:Int)≤IntKind.wrap .i64 ((↑(List.length l0):Int)-(4:Int))))
 (let r3:=(j3q [.n (List.getD l0 1 (0:Int)),.n (List.getD l0 2 (0:Int)),.n (IntKind.wrap .i64 (gn (dOf r1) 0)),.n (IntKind.wrap .i64 (gn (dOf r2) 0)),.s (r2b (List.drop 21 (List.take (Int.toNat (IntKind.wrap .i64 ((↑(List.length l0):Int)-(4:Int)))) l0)))]);
 (.node (isK 0 [.l TB] r3)
 (.node (!f0b (r2b (gl TB (dOf r3) 0)) (r2b l0))
 (.leaf ((0,[.n (0:Int),.n (0:Int),.n (0:Int),.n (0:Int),.s {data:={toList:=[]}},.b false])))
 (.leaf ((0,[.n (List.getD l0 1 (0:Int)),.n (List.getD l0 2 (0:Int)),.n (IntKind.wrap .i64 (gn (dOf r1) 0)),.n (IntKind.wrap .i64 (gn (dOf r2) 0)),.s (r2b (List.drop 21 (List.take (Int.toNat (IntKind.wrap .i64 ((↑(List.length l0):Int)-(4:Int)))) l0))),.b true]))))
 (.bad 351)))
 (.bad 43))
 (.bad 42))
 (.bad 351)))
 (.bad 351))))
 |_=>.bad 0
theorem k3l (l0:List (Ty.den TB)):Imp (m3b [.l TB l0]) (w3z [.l TB l0]):=
(.nd (fun h0=>
(.pa [1]
.lf)) (fun h0=>
(.pt (c:=(inR (1:Int) (List.length l0))) (by kernel_rfl) (by kernel_rfl) (by(simp only[w64d,decide_eq_true_eq,decide_eq_false_iff_not,beq_iff_eq,beq_eq_false_iff_ne,bne_iff_ne,ne_eq,inR,Bool.and_eq_true,Bool.and_eq_false_iff,Bool.not_eq_true',Bool.not_eq_false',Bool.not_eq_eq_eq_not,Bool.not_true,Bool.not_false]at*;omega))
(.pt (c:=(inR (2:Int) (List.length l0))) (by kernel_rfl) (by kernel_rfl) (by(simp only[w64d,decide_eq_true_eq,decide_eq_false_iff_not,beq_iff_eq,beq_eq_false_iff_ne,bne_iff_ne,ne_eq,inR,Bool.and_eq_true,Bool.and_eq_false_iff,Bool.not_eq_true',Bool.not_eq_false',Bool.not_eq_eq_eq_not,Bool.not_true,Bool.not_false]at*;omega))
(.nd (fun h1=>
(.pa [1]
(.nd (fun h2=>
(.pa [1]
(.nd (fun h3=>
(.nd (fun h4=>
(.pa [1]
(.nd (fun h5=>
(.pa [1,1]
(.nd (fun h6=>
(.pa [1]
.lf)) (fun h6=>
(.pa [1]
.lf))))) (fun h5=>
.none)))) (fun h4=>
.none))) (fun h3=>
.none)))) (fun h2=>
.none)))) (fun h1=>
.none))))))
def cs_33g:FuncId→Option a0q:=a0s 30 B33g v3r
theorem u3m:CsOk Try.prog cs_33g:=a0g m3w v3u
theorem k3i {α:Type}{l:List α}{n:Nat}{d:α}(h:n<l.length):l.take (n+1)=l.take n++[l.getD n d]:=by
 rw[List.take_succ_eq_append_getElem h,List.getD_eq_getElem?_getD,List.getElem?_eq_getElem h];rfl
theorem selB {α:Type}{c:Bool}{t e:Tree α}:(Tree.node c t e).sel=bif c then t.sel else e.sel:=rfl
def v3k:BitVec 32:=0xEDB88320#32
def dn (n:BitVec 32):BitVec 32:=(n>>>1)^^^(if n.getLsbD 0 then v3k else 0#32)
def up (n:BitVec 32):BitVec 32:=if n.getLsbD 31 then((n^^^v3k)<<<1)|||1#32 else n<<<1
theorem dn_xor (a b:BitVec 32):dn (a^^^b)=dn a^^^dn b:=by
 unfold dn
 rw[BitVec.getLsbD_xor,BitVec.ushiftRight_xor_distrib]
 cases a.getLsbD 0<;>cases b.getLsbD 0<;>simp
 ·ac_rfl
 ·ac_rfl
 ·have: ∀x y z:BitVec 32,x^^^y=(x^^^z)^^^(y^^^z):=by
   intro x y z
   have e:(x^^^z)^^^(y^^^z)=(x^^^y)^^^(z^^^z):=by ac_rfl
   rw[e,BitVec.xor_self,BitVec.xor_zero]
  exact this _ _ _
def low (n:BitVec 32)(k:Nat):BitVec 32:=n&&&BitVec.ofNat 32 (2^k-1)
theorem z3h (n:BitVec 32)(k:Nat)(hk:k<32):low n (k+1)=low n k^^^(if n.getLsbD k then 1#32<<<k else 0#32):=by
 unfold low
 ext i hi
 simp only[BitVec.getElem_and,BitVec.getElem_xor]
 have e: ∀j,(BitVec.ofNat 32 (2^j-1))[i]=decide (i<j):=by
  intro j
  rw[←BitVec.getLsbD_eq_getElem,BitVec.getLsbD_ofNat,Nat.testBit_two_pow_sub_one];simp[hi]
 rw[e,e]
 by_cases h:n.getLsbD k
 ·rw[if_pos h]
  rw[BitVec.getElem_shiftLeft]
  by_cases h1:i<k
  ·simp[h1,show i<k+1 by omega]
  ·by_cases h2:i=k
   ·subst h2;rw[BitVec.getLsbD_eq_getElem hi]at h;simp[h]
   ·simp[h1,show¬i<k+1 by omega,show¬i-k=0 by omega]
 ·rw[if_neg h]
  by_cases h1:i<k
  ·simp[h1,show i<k+1 by omega]
  ·by_cases h2:i=k
   ·subst h2;rw[BitVec.getLsbD_eq_getElem hi]at h;simp[h]
   ·simp[h1,show¬i<k+1 by omega]
theorem low_32 (n:BitVec 32):low n 32=n:=by
 unfold low
 ext i hi
 rw[BitVec.getElem_and,←BitVec.getLsbD_eq_getElem (x:=BitVec.ofNat 32 (2^32-1)),BitVec.getLsbD_ofNat,Nat.testBit_two_pow_sub_one]
 simp[hi]
theorem low_0 (n:BitVec 32):low n 0=0#32:=by unfold low;simp
theorem lin_ext {w:Nat}{f g:BitVec 32→BitVec w}(hf: ∀a b,f (a^^^b)=f a^^^f b)(hg: ∀a b,g (a^^^b)=g a^^^g b)(h: ∀i,i<32→f (1#32<<<i)=g (1#32<<<i))(n:BitVec 32):f n=g n:=by
 have z: ∀{f:BitVec 32→BitVec w},(∀a b,f (a^^^b)=f a^^^f b)→f 0#32=0#w:=by
  intro f hf
  have:=hf 0#32 0#32
  rw[BitVec.xor_self]at this
  rw[this,BitVec.xor_self]
 have key: ∀k,k≤32→f (low n k)=g (low n k):=by
  intro k
  induction k with
  |zero=>intro _;rw[low_0,z hf,z hg]
  |succ k ih=>
   intro hk
   rw[z3h n k (by omega),hf,hg,ih (by omega)]
   cases n.getLsbD k with
   |true=>rw[if_pos rfl,h k (by omega)]
   |false=>rw[if_neg (by simp),z hf,z hg]
 have:=key 32 (by omega)
 rwa [low_32]at this
def dnN:Nat→BitVec 32→BitVec 32
 |0,n=>n
 |k+1,n=>dnN k (dn n)
theorem dnN_xor (k:Nat)(a b:BitVec 32):dnN k (a^^^b)=dnN k a^^^dnN k b:=by
 induction k generalizing a b with
 |zero=>rfl
 |succ k ih=>simp only[dnN,dn_xor,ih]
def go (n:BitVec 32)(l:List Int):BitVec 32:=l.foldl (fun n x=>dnN 8 (n^^^BitVec.ofInt 32 x)) n
theorem go_nil (n:BitVec 32):go n []=n:=rfl
theorem go_cons (n:BitVec 32)(x:Int)(l:List Int):go n (x::l)=go (dnN 8 (n^^^BitVec.ofInt 32 x)) l:=rfl
theorem m3z (n:BitVec 32)(l m:List Int):go n (l++m)=go (go n l) m:=by unfold go;rw[List.foldl_append]
def E8:List Int:=[1996959894,3993919788,124634137,249268274,498536548,997073096,1994146192,3988292384]
def tab (u:BitVec 8):Nat→BitVec 32
 |0=>0#32
 |k+1=>tab u k^^^(if u.getLsbD k then BitVec.ofInt 32 (E8.getD k 0)else 0#32)
theorem tab_xor (a b:BitVec 8)(k:Nat):tab (a^^^b) k=tab a k^^^tab b k:=by
 induction k with
 |zero=>simp[tab]
 |succ k ih=>
  simp only[tab,ih,BitVec.getLsbD_xor]
  cases a.getLsbD k<;>cases b.getLsbD k<;>simp
  ·ac_rfl
  ·ac_rfl
  ·have: ∀x y z:BitVec 32,x^^^y=(x^^^z)^^^(y^^^z):=by
    intro x y z
    have e:(x^^^z)^^^(y^^^z)=(x^^^y)^^^(z^^^z):=by ac_rfl
    rw[e,BitVec.xor_self,BitVec.xor_zero]
   exact this _ _ _
theorem dn8 (m:BitVec 32):dnN 8 m=(m>>>8)^^^tab (m.setWidth 8) 8:=by
 refine lin_ext (f:=dnN 8) (g:=fun m=>(m>>>8)^^^tab (m.setWidth 8) 8) (dnN_xor 8) (fun a b=> ?_) (by decide+kernel) m
 simp only[BitVec.ushiftRight_xor_distrib,BitVec.setWidth_xor,tab_xor]
 ac_rfl
theorem ofInt_8 {x:Int}(h0:0≤x)(h1:x<256):BitVec.ofInt 32 x=(BitVec.ofInt 8 x).setWidth 32:=by
 apply BitVec.eq_of_toNat_eq
 rw[BitVec.toNat_setWidth,BitVec.toNat_ofInt,BitVec.toNat_ofInt]
 omega
theorem v3y (n:BitVec 32):BitVec.ofInt 8 (N n)=n.setWidth 8:=by
 apply BitVec.eq_of_toNat_eq
 rw[BitVec.toNat_setWidth,BitVec.toNat_ofInt]
 unfold N
 omega
theorem byte_in (n:BitVec 32){x:Int}(h0:0≤x)(h1:x<256):dnN 8 (n^^^BitVec.ofInt 32 x)=(n>>>8)^^^tab (n.setWidth 8^^^BitVec.ofInt 8 x) 8:=by
 rw[dn8,ofInt_8 h0 h1,BitVec.ushiftRight_xor_distrib,BitVec.setWidth_xor]
 have e1:(BitVec.ofInt 8 x).setWidth 32>>>8=0#32:=by
  apply BitVec.eq_of_toNat_eq
  have:=(BitVec.ofInt 8 x).isLt
  rw[BitVec.toNat_ushiftRight,BitVec.toNat_setWidth,Nat.shiftRight_eq_div_pow]
  simp
  omega
 have e2:((BitVec.ofInt 8 x).setWidth 32).setWidth 8=BitVec.ofInt 8 x:=by
  apply BitVec.eq_of_toNat_eq
  have:=(BitVec.ofInt 8 x).isLt
  rw[BitVec.toNat_setWidth,BitVec.toNat_setWidth]
  omega
 rw[e1,e2,BitVec.xor_zero]
theorem bit0 (x:BitVec 32):(N (x&&&1#32)==0)= !x.getLsbD 0:=by
 rw[show(0:Int)=N 0#32 from rfl,N_beq,Bool.eq_iff_iff]
 simp only[beq_iff_eq,Bool.not_eq_true']
 constructor
 ·intro h
  have:=congrArg (fun v=>v.getLsbD 0) h
  simpa using this
 ·intro h
  apply BitVec.eq_of_getLsbD_eq
  intro i hi
  by_cases h0:i=0
  ·subst h0;rw[BitVec.getLsbD_and,h];simp
  ·simp[h0]
theorem t19 (x:BitVec 32):f2v [.n (N x)]=some (0,[.n (N (dn x))]):=by
 show(s3y [.n (N x)]).sel=_
 simp only[s3y]
 have e:iand IntKind.u32 (N x) 1=N (x&&&1#32):=r2g x 1#32
 have e1:ishr IntKind.u32 (N x) 1=N (x>>>1):=a2b x 1
 have e2:ixor IntKind.u32 (N (x>>>1)) 3988292384=N ((x>>>1)^^^v3k):=q2n (x>>>1) v3k
 rw[selB,e,e1,e2,bit0]
 unfold dn
 cases x.getLsbD 0
 ·simp[Tree.sel]
 ·simp[Tree.sel]
theorem isK1 (x:Int):isK 0 [HK.n] (some (0,[.n x]))=true:=rfl
theorem len_ok {n:Nat}{i:Nat}(h:i<n)(hn:n≤9223372036854775807):IntKind.wrap .i64 ((i:Int)+1)=((i+1:Nat):Int):=by
 rw[w64 (by omega) (by omega)];omega
theorem t12L (b:List Int)(hb:b.length≤9223372036854775807):j3y [.n (N 0xFFFFFFFF#32),.l TB (ofI b),.n b.length,.n ((0:Nat):Int)]=some (0,[.n (N (go 0xFFFFFFFF#32 b))]):=by
 refine b0a (st:=h3w) (fun i=>[.n (N (go 0xFFFFFFFF#32 (b.take i))),.l TB (ofI b),.n b.length,.n (i:Int)]) b.length (0,[.n (N (go 0xFFFFFFFF#32 b))]) ?_ ?_ FU (b1w hb)
 ·intro i hi
  simp only[h3w,j3j,l3f]
  refine(selT (dt (by omega))).trans ((selT (h1s (by omega) (by omega))).trans ?_)
  simp only[p2u,q2n,t19,j3w,gn0,isK1,cond_true,len_ok hi hb,Tree.sel]
  rw[k3i (d:=(0:Int)) hi,m3z]
  rfl
 ·rw[List.take_length]
  simp only[h3w,j3j]
  exact selF (df (Int.lt_irrefl _))
def Sm (b:List Int):BitVec 32:=0xFFFFFFFF#32^^^go 0xFFFFFFFF#32 b
theorem t12 (b:List Int)(hb:b.length≤9223372036854775807):i1r [.l TB (ofI b)]=some (0,[.n (N (Sm b))]):=by
 show(t3d [.l TB (ofI b)]).sel=_
 have e':j3y [.n 4294967295,.l TB (ofI b),.n b.length,.n 0]=some (0,[.n (N (go 0xFFFFFFFF#32 b))]):=t12L b hb
 simp only[t3d,j3j]
 rw[e']
 simp only[j3w,gn0,isK1,cond_true,Tree.sel]
 have:=q2n 0xFFFFFFFF#32 (go 0xFFFFFFFF#32 b)
 rw[show(4294967295:Int)=N 0xFFFFFFFF#32 from rfl,this]
 rfl
theorem bitk (u:BitVec 8)(k:Nat):(iand IntKind.u8 (ishr IntKind.u8 (N u) (k:Int)) 1==1)=u.getLsbD k:=by
 rw[ishr_u8,show(1:Int)=N 1#8 from rfl,iand_u8,N_beq,Bool.eq_iff_iff]
 simp only[beq_iff_eq]
 constructor
 ·intro h
  have:=congrArg (fun v=>v.getLsbD 0) h
  simpa using this
 ·intro h
  apply BitVec.eq_of_getLsbD_eq
  intro i hi
  by_cases h0:i=0
  ·subst h0;rw[BitVec.getLsbD_and,BitVec.getLsbD_ushiftRight];simp[h]
  ·rw[BitVec.getLsbD_and];simp[h0]
theorem isK4 (x y:Int)(l m:List Int):isK 0 [HK.n,HK.l TB,HK.n,HK.l TN] (some (0,[.n x,.l TB (ofI l),.n y,.l TN (ofI m)]))=true:=rfl
theorem e8_in (k:Nat)(hk:k<8):List.getD E8 k 0=N (BitVec.ofInt 32 (List.getD E8 k 0)):=by
 rcases k with _|_|_|_|_|_|_|_|k<;>first|rfl|omega
theorem t20L (n:BitVec 32)(b:List Int)(i:Int)(u:BitVec 8):k3e [.k 0,.n (N n),.l TB (ofI b),.n i,.n (N u),.n ((0:Nat):Int),.l TN (ofI E8)]=some (0,[.n (N (n^^^tab u 8)),.l TB (ofI b),.n i,.l TN (ofI E8)]):=by
 have:=b0a (st:=i3e) (fun k=>[.k 0,.n (N (n^^^tab u k)),.l TB (ofI b),.n i,.n (N u),.n (k:Int),.l TN (ofI E8)]) 8 (0,[.n (N (n^^^tab u 8)),.l TB (ofI b),.n i,.l TN (ofI E8)]) ?_ ?_ FU (by unfold FU;omega)
 ·simp only[tab,BitVec.xor_zero]at this
  simp only[tab]
  exact this
 ·intro k hk
  simp only[i3e,h3u,j3j,l3f]
  refine(selT (dt (by omega))).trans ((selT (nf (df (by omega)))).trans ?_)
  rw[selB,bitk]
  have e0:IntKind.wrap .i64 ((k:Int)+1)=((k+1:Nat):Int):=by rw[w64 (by omega) (by omega)];omega
  cases h:u.getLsbD k with
  |true=>
   refine(selT (h1s (by omega) (by show(k:Int)<((8:Nat):Int);omega))).trans ?_
   rw[e0,show((k:Int)).toNat=k from rfl,e8_in k hk,q2n]
   simp only[tab,h,if_true,Tree.sel,BitVec.xor_assoc]
  |false=>
   rw[e0]
   simp only[tab,h,Bool.false_eq_true,if_false,Tree.sel,cond_false,BitVec.xor_zero]
 ·simp only[i3e,h3u]
  exact selF (df (by omega))
theorem t20M (n:BitVec 32)(b:List Int)(hb:b.length≤9223372036854775807)(hr: ∀x∈b,0≤x∧x<256):m3d [.k 0,.n (N n),.l TB (ofI b),.n ((0:Nat):Int),.l TN (ofI E8)]=some (0,[.n (N (go n b))]):=by
 refine b0a (st:=i3f) (fun i=>[.k 0,.n (N (go n (b.take i))),.l TB (ofI b),.n (i:Int),.l TN (ofI E8)]) b.length (0,[.n (N (go n b))]) ?_ ?_ FU (b1w hb)
 ·intro i hi
  simp only[i3f,h3t,j3j,l3f]
  refine(selT (dt (by omega))).trans ((selT (h1s (by omega) (by omega))).trans ?_)
  have hx:=hr _ (h0f (d:=(0:Int)) hi)
  rw[show((i:Int)).toNat=i from rfl]
  have ex:List.getD b i 0=N (BitVec.ofInt 8 (List.getD b i 0)):=(N_of hx.1 hx.2).symm
  have e8:ishr IntKind.u32 (N (go n (b.take i))) 8=N (go n (b.take i)>>>8):=a2b _ 8
  rw[e8,y3s,v3y,ex,ixor_u8]
  rw[show k3e [.k 0,.n (N (go n (b.take i)>>>8)),.l TB (ofI b),.n (i:Int),.n (N ((go n (b.take i)).setWidth 8^^^BitVec.ofInt 8 (List.getD b i 0))),.n 0,.l TN (ofI E8)]=_ from t20L _ _ _ _]
  simp only[j3w,gn0,gn2,gl1,gl3,isK4,selB,cond_true,len_ok hi hb,Tree.sel]
  rw[k3i (d:=(0:Int)) hi,m3z,go_cons,go_nil,byte_in _ hx.1 hx.2]
 ·rw[List.take_length]
  simp only[i3f,h3t,j3j]
  exact selF (df (Int.lt_irrefl _))
theorem t13 (b:List Int)(hb:b.length≤9223372036854775807)(hr: ∀x∈b,0≤x∧x<256):q3i [.l TB (ofI b)]=some (0,[.n (N (Sm b))]):=by
 have e20:u3k [.n (N 0xFFFFFFFF#32),.l TB (ofI b)]=some (0,[.n (N (go 0xFFFFFFFF#32 b))]):=by
  show(w3k [.n (N 0xFFFFFFFF#32),.l TB (ofI b)]).sel=_
  have e:=t20M 0xFFFFFFFF#32 b hb hr
  exact(selT (congrArg (isK 0 [HK.n]) e)).trans (congrArg (fun r=>some (0,[Dat.n (gn (dOf r) 0)])) e)
 show(t3l [.l TB (ofI b)]).sel=_
 simp only[t3l]
 rw[show u3k [.n 4294967295,.l TB (ofI b)]=_ from e20]
 simp only[j3w,gn0,isK1,cond_true,Tree.sel]
 have:=q2n 0xFFFFFFFF#32 (go 0xFFFFFFFF#32 b)
 rw[show(4294967295:Int)=N 0xFFFFFFFF#32 from rfl,this]
 rfl
def Wb (l:List Int):Prop:= ∀b∈l,0≤b∧b<256
theorem wu64 (x:Int):IntKind.wrap .u64 x=x%18446744073709551616:=by unfold IntKind.wrap;simp[IntKind.bits,IntKind.signed]
theorem wu8 (x:Int):IntKind.wrap .u8 x=x%256:=by unfold IntKind.wrap;simp[IntKind.bits,IntKind.signed]
theorem wu16 (x:Int):IntKind.wrap .u16 x=x%65536:=by unfold IntKind.wrap;simp[IntKind.bits,IntKind.signed]
theorem wu32 (x:Int):IntKind.wrap .u32 x=x%4294967296:=by unfold IntKind.wrap;simp[IntKind.bits,IntKind.signed]
theorem t31g (l:List (Ty.den TB))(h:l3m l=true):i2m [.l TB l]=some (0,[.l TB l]):=by
 show(match c0r TB TB l with|some l=>bif l3m l then some (0,[Dat.l TB l])else none|none=>none)=_
 rw[d0b]
 show(bif l3m l then some (0,[Dat.l TB l])else none)=_
 rw[h];rfl
theorem t31 {l:List Int}(h:l.length≤140737488355328):i2m [.l TB l]=some (0,[.l TB l]):=
 t31g l (by unfold l3m;exact decide_eq_true (show(0+l.length)*1≤140737488355328 by omega))
def byt (n:Int)(k:Nat):Int:=IntKind.wrap .u8 (ishr .u64 n (8*(k:Int)))
def bes (n:Int):Nat→List Int
 |0=>[]
 |k+1=>byt n k::bes n k
theorem h3g (n:Int): ∀k,(bes n k).length=k
 |0=>rfl
 |k+1=>by rw[bes,List.length_cons,h3g n k]
theorem j3f (n:Int): ∀k,Wb (bes n k)
 |0=>fun b hb=>by simp[bes]at hb
 |k+1=>fun b hb=>by
  rw[bes,List.mem_cons]at hb
  rcases hb with rfl|hb
  ·unfold byt;rw[wu8];omega
  ·exact j3f n k b hb
theorem lp30 (n:Int): ∀(k:Nat) (l:List Int) (f:Nat),k≤8→l.length+k≤1000000→k<f→a0b h3y f [.k 0,.n n,.n ((k:Int)-1),.l TB l]=some (0,[.l TB (l++bes n k)])
 |_,_,0,_,_,h=>by omega
 |0,l,f+1,h,hl,hf=>by
  have e:(h3y [.k 0,.n n,.n (((0:Nat):Int)-1),.l TB l]).sel=some (.stop 0 [.l TB l]):=by
   refine i3u n _ l _ ?_
   unfold j3h
   exact a0c (decide_eq_false (by omega)) rfl
  unfold a0b
  rw[e]
  show some (0,[Dat.l TB l])=some (0,[Dat.l TB (l++bes n 0)])
  rw[bes,List.append_nil]
 |k+1,l,f+1,h,hl,hf=>by
  have w8:IntKind.wrap .i64 (8*(((k+1:Nat):Int)-1))=8*(k:Int):=by rw[w64d];omega
  have w1:IntKind.wrap .i64 ((((k+1:Nat):Int)-1)-1)=(k:Int)-1:=by rw[w64d];omega
  have e:(h3y [.k 0,.n n,.n (((k+1:Nat):Int)-1),.l TB l]).sel=some (.go [.k 0,.n n,.n ((k:Int)-1),.l TB (l++[byt n k])]):=by
   refine i3u n _ l _ ?_
   unfold j3h
   refine a0a (decide_eq_true (by omega)) (a0a (by rw[w8];simp;omega) (a0a (decide_eq_true (show(l.length+1)*1≤140737488355328 by omega)) ?_))
   show some (Step.go [.k 0,.n n,.n (IntKind.wrap .i64 ((((k+1:Nat):Int)-1)-1)),.l TB (l++[IntKind.wrap .u8 (ishr .u64 n (IntKind.wrap .i64 (8*(((k+1:Nat):Int)-1))))])])=_
   rw[w8,w1];rfl
  unfold a0b
  rw[e]
  have ih:=lp30 n k (l++[byt n k]) f (by omega) (by rw[List.length_append];simp;omega) (by omega)
  rw[List.append_assoc]at ih
  exact ih
theorem t30 (n:Int)(w:Nat)(h:w≤8):o3w [.n n,.n (w:Int)]=some (0,[.l TB (bes n w)]):=by
 have w1:IntKind.wrap .i64 ((w:Int)-1)=(w:Int)-1:=by rw[w64d];omega
 have e:k3d [.k 0,.n n,.n (IntKind.wrap .i64 ((w:Int)-1)),.l TB ([]:List Int)]=some (0,[.l TB (bes n w)]):=by
  rw[w1,k3g]
  exact lp30 n w [] FU h (by simp;omega) (by unfold FU;omega)
 rw[s3a]
 refine t3c n w _ ?_
 unfold w3m
 exact a0a (by erw[e];rfl) (by erw[e];rfl)
theorem lp35b (n:Int)(w:Nat)(hw:w≤8): ∀(k:Nat) (l:List Int) (f:Nat),k≤w→l.length+k≤1000000→k<f→a0b h3p f [.k 0,.n n,.n (w:Int),.n (w:Int),.n ((w:Int)-k),.l TB l]=some (0,[.l TB (l++bes n k)])
 |_,_,0,_,_,h=>by omega
 |0,l,f+1,h,hl,hf=>by
  have e:(h3p [.k 0,.n n,.n (w:Int),.n (w:Int),.n ((w:Int)-((0:Nat):Int)),.l TB l]).sel=some (.stop 0 [.l TB l]):=by
   refine i3n n _ _ _ l _ ?_
   unfold i3t
   exact a0c (decide_eq_false (by omega)) rfl
  unfold a0b
  rw[e]
  show some (0,[Dat.l TB l])=some (0,[Dat.l TB (l++bes n 0)])
  rw[bes,List.append_nil]
 |k+1,l,f+1,h,hl,hf=>by
  have w8:IntKind.wrap .i64 (8*IntKind.wrap .i64 (IntKind.wrap .i64 ((w:Int)-1)-((w:Int)-((k+1:Nat):Int))))=8*(k:Int):=by simp only[w64d];omega
  have w1:IntKind.wrap .i64 ((w:Int)-((k+1:Nat):Int)+1)=(w:Int)-(k:Int):=by rw[w64d];omega
  have e:(h3p [.k 0,.n n,.n (w:Int),.n (w:Int),.n ((w:Int)-((k+1:Nat):Int)),.l TB l]).sel=some (.go [.k 0,.n n,.n (w:Int),.n (w:Int),.n ((w:Int)-(k:Int)),.l TB (l++[byt n k])]):=by
   refine i3n n _ _ _ l _ ?_
   unfold i3t
   refine a0a (decide_eq_true (by omega)) (a0a (by rw[w8];simp;omega) (a0a (decide_eq_true (show(l.length+1)*1≤140737488355328 by omega)) ?_))
   show some (Step.go [.k 0,.n n,.n (w:Int),.n (w:Int),.n (IntKind.wrap .i64 ((w:Int)-((k+1:Nat):Int)+1)),.l TB (l++[IntKind.wrap .u8 (ishr .u64 n (IntKind.wrap .i64 (8*IntKind.wrap .i64 (IntKind.wrap .i64 ((w:Int)-1)-((w:Int)-((k+1:Nat):Int))))))])])=_
   rw[w8,w1];rfl
  unfold a0b
  rw[e]
  have ih:=lp35b n w hw k (l++[byt n k]) f (by omega) (by rw[List.length_append];simp;omega) (by omega)
  rw[List.append_assoc]at ih
  exact ih
theorem lp35a (n:Int)(w:Nat)(hw:w≤8): ∀(k:Nat) (l:List Int) (f:Nat),k≤w→l.length+k≤1000000→k<f→a0b h3h f [.k 1,.n n,.n (w:Int),.n (w:Int),.n ((w:Int)-k),.l TB l]=some (1,[.l TB (l++bes n k)])
 |_,_,0,_,_,h=>by omega
 |0,l,f+1,h,hl,hf=>by
  have e:(h3h [.k 1,.n n,.n (w:Int),.n (w:Int),.n ((w:Int)-((0:Nat):Int)),.l TB l]).sel=some (.stop 1 [.l TB l]):=by
   refine i3o n _ _ _ l _ ?_
   unfold i3p
   exact a0c (decide_eq_false (by omega)) rfl
  unfold a0b
  rw[e]
  show some (1,[Dat.l TB l])=some (1,[Dat.l TB (l++bes n 0)])
  rw[bes,List.append_nil]
 |k+1,l,f+1,h,hl,hf=>by
  have w8:IntKind.wrap .i64 (8*IntKind.wrap .i64 (IntKind.wrap .i64 ((w:Int)-1)-((w:Int)-((k+1:Nat):Int))))=8*(k:Int):=by simp only[w64d];omega
  have w1:IntKind.wrap .i64 ((w:Int)-((k+1:Nat):Int)+1)=(w:Int)-(k:Int):=by rw[w64d];omega
  have e:(h3h [.k 1,.n n,.n (w:Int),.n (w:Int),.n ((w:Int)-((k+1:Nat):Int)),.l TB l]).sel=some (.go [.k 1,.n n,.n (w:Int),.n (w:Int),.n ((w:Int)-(k:Int)),.l TB (l++[byt n k])]):=by
   refine i3o n _ _ _ l _ ?_
   unfold i3p
   refine a0a (decide_eq_true (by omega)) (a0a (by rw[w8];simp;omega) (a0a (decide_eq_true (show(l.length+1)*1≤140737488355328 by omega)) ?_))
   show some (Step.go [.k 1,.n n,.n (w:Int),.n (w:Int),.n (IntKind.wrap .i64 ((w:Int)-((k+1:Nat):Int)+1)),.l TB (l++[IntKind.wrap .u8 (ishr .u64 n (IntKind.wrap .i64 (8*IntKind.wrap .i64 (IntKind.wrap .i64 ((w:Int)-1)-((w:Int)-((k+1:Nat):Int))))))])])=_
   rw[w8,w1];rfl
  unfold a0b
  rw[e]
  have ih:=lp35a n w hw k (l++[byt n k]) f (by omega) (by rw[List.length_append];simp;omega) (by omega)
  rw[List.append_assoc]at ih
  exact ih
theorem t35b (n:Int)(w:Nat)(h:w≤8)(l:List Int)(hl:l.length≤999000):j3d [.n n,.n (w:Int),.l TB l]=some (0,[.l TB (l++bes n w)]):=by
 have e:i3x [.k 0,.n n,.n (w:Int),.n (w:Int),.n 0,.l TB l]=some (0,[.l TB (l++bes n w)]):=by
  rw[j3s]
  have:=lp35b n w h w l FU (Nat.le_refl _) (by omega) (by unfold FU;omega)
  rw[show(w:Int)-(w:Int)=0 by omega]at this
  exact this
 rw[n3a]
 refine p3z n w l _ ?_
 unfold s3c
 exact a0a (by erw[e];rfl) (by erw[e];rfl)
theorem t35a (n:Int)(w:Nat)(h:w≤8)(h1:1≤w):o3v [.n n,.n (w:Int)]=some (1,[.l TB (bes n w)]):=by
 obtain⟨k,rfl⟩: ∃k,w=k+1:=⟨w-1,by omega⟩
 have e:j3b [.k 0,.n n,.n ((k+1:Nat):Int),.n ((k+1:Nat):Int),.n 0]=some (1,[.l TB (bes n (k+1))]):=by
  have w8:IntKind.wrap .i64 (8*IntKind.wrap .i64 (IntKind.wrap .i64 (((k+1:Nat):Int)-1)-0))=8*(k:Int):=by simp only[w64d];omega
  have w1:IntKind.wrap .i64 ((0:Int)+1)=((k+1:Nat):Int)-(k:Int):=by rw[w64d];omega
  have e:(h3h [.k 0,.n n,.n ((k+1:Nat):Int),.n ((k+1:Nat):Int),.n 0]).sel=some (.go [.k 1,.n n,.n ((k+1:Nat):Int),.n ((k+1:Nat):Int),.n (((k+1:Nat):Int)-(k:Int)),.l TB [byt n k]]):=by
   refine l3h n _ _ _ _ ?_
   unfold k3j
   refine a0a (decide_eq_true (by omega)) (a0a (by rw[w8];simp;omega) ?_)
   show some (Step.go [.k 1,.n n,.n ((k+1:Nat):Int),.n ((k+1:Nat):Int),.n (IntKind.wrap .i64 ((0:Int)+1)),.l TB [IntKind.wrap .u8 (ishr .u64 n (IntKind.wrap .i64 (8*IntKind.wrap .i64 (IntKind.wrap .i64 (((k+1:Nat):Int)-1)-0))))]])=_
   rw[w8,w1];rfl
  rw[j3n,show FU=18446744073709551615+1 from rfl]
  unfold a0b
  rw[e]
  exact lp35a n (k+1) h k [byt n k] 18446744073709551615 (by omega) (by simp;omega) (by omega)
 rw[o3h]
 refine p3l n _ _ ?_
 unfold s3e
 exact a0c (by erw[e];rfl) (a0a (by erw[e];rfl) (by erw[e];rfl))
theorem q12 (l:List Int)(hl:l.length≤1000000):l3p [.l TB l]=some (0,[.n (N (Sm l))]):=by
 rw[o3b];exact t12 l (by omega)
theorem q13 (l:List Int)(hl:l.length≤1000000)(hw:Wb l):o1n [.l TB l]=some (0,[.n (N (Sm l))]):=by
 rw[o1e];exact t13 l (by omega) hw
def win (m:Int)(l:List Int):Bool:=l.all fun x=> !decide (x<0)&& !decide (x>m)
theorem l3c {l:List Int}{i:Nat}(h:i<l.length):l.drop i=l.getD i 0::l.drop (i+1):=by
 rw[List.drop_eq_getElem_cons h,List.getD_eq_getElem?_getD,List.getElem?_eq_getElem h];rfl
theorem lp80 (m:Int)(l:List Int)(hl:l.length≤1000000): ∀(k i f:Nat),i+k=l.length→k<f→a0b h3n f [.k 0,.n m,.l TI l,.n (l.length:Int),.n (i:Int)]=(bif win m (l.drop i)then some (0,[])else some (1,[.b false]))
 |_,_,0,_,h=>by omega
 |0,i,f+1,hi,hf=>by
  have e:(h3n [.k 0,.n m,.l TI l,.n (l.length:Int),.n (i:Int)]).sel=some (.stop 0 []):=by
   refine h3s m l _ _ (by omega) rfl _ ?_
   unfold i3b
   exact a0c (decide_eq_false (show¬((i:Int)<(l.length:Int)) by omega)) rfl
  unfold a0b
  rw[e,List.drop_eq_nil_of_le (by omega)]
  rfl
 |k+1,i,f+1,hi,hf=>by
  have w:IntKind.wrap .i64 ((i:Int)+1)=((i+1:Nat):Int):=by rw[w64d];omega
  rw[l3c (show i<l.length by omega)]
  by_cases h1:l.getD i 0<0
  ·have e:(h3n [.k 0,.n m,.l TI l,.n (l.length:Int),.n (i:Int)]).sel=some (.stop 1 [.b false]):=by
    refine h3s m l _ _ (by omega) rfl _ ?_
    unfold i3b
    exact a0a (decide_eq_true (show(i:Int)<(l.length:Int) by omega)) (a0a (decide_eq_true h1) rfl)
   unfold a0b
   have hw:win m (l.getD i 0::l.drop (i+1))=false:=by unfold win;rw[List.all_cons,decide_eq_true h1];rfl
   rw[e,hw]
   rfl
  ·by_cases h2:l.getD i 0>m
   ·have e:(h3n [.k 0,.n m,.l TI l,.n (l.length:Int),.n (i:Int)]).sel=some (.stop 1 [.b false]):=by
     refine h3s m l _ _ (by omega) rfl _ ?_
     unfold i3b
     exact a0a (decide_eq_true (show(i:Int)<(l.length:Int) by omega)) (a0c (decide_eq_false h1) (a0a (decide_eq_true h2) rfl))
    unfold a0b
    have hw:win m (l.getD i 0::l.drop (i+1))=false:=by unfold win;rw[List.all_cons,decide_eq_false h1,decide_eq_true h2];rfl
    rw[e,hw]
    rfl
   ·have e:(h3n [.k 0,.n m,.l TI l,.n (l.length:Int),.n (i:Int)]).sel=some (.go [.k 0,.n m,.l TI l,.n (l.length:Int),.n ((i+1:Nat):Int)]):=by
     refine h3s m l _ _ (by omega) rfl _ ?_
     unfold i3b
     refine a0a (decide_eq_true (show(i:Int)<(l.length:Int) by omega)) (a0c (decide_eq_false h1) (a0c (decide_eq_false h2) ?_))
     rw[w];rfl
    unfold a0b
    rw[e]
    have ih:=lp80 m l hl k (i+1) f (by omega) (by omega)
    have hw:win m (l.getD i 0::l.drop (i+1))=win m (l.drop (i+1)):=by
     unfold win;rw[List.all_cons,decide_eq_false h1,decide_eq_false h2];rfl
    rw[hw]
    exact ih
theorem t80 (m:Int)(l:List Int)(hl:l.length≤1000000):u3u [.n m,.l TI l]=some (0,[.b (win m l)]):=by
 have e:j3x [.k 0,.n m,.l TI l,.n (l.length:Int),.n 0]=(bif win m l then some (0,[])else some (1,[.b false])):=by
  rw[l3a]
  exact lp80 m l hl l.length 0 FU (by omega) (by unfold FU;omega)
 rw[q3v]
 refine s3n m l _ ?_
 unfold y3q
 cases h:win m l with
 |true=>
  rw[h]at e
  exact a0a (by erw[e];rfl) rfl
 |false=>
  rw[h]at e
  exact a0c (by erw[e];rfl) (a0a (by erw[e];rfl) (by erw[e];rfl))
def lgs (l:List Int):List Int:=l.flatMap fun n=>bes n 8
theorem y3h (l:List Int):(lgs l).length=8*l.length:=by
 induction l with
 |nil=>rfl
 |cons a l ih=>unfold lgs at*;rw[List.flatMap_cons,List.length_append,h3g,ih,List.length_cons];omega
theorem lp88 (ns:List Int)(hn:ns.length≤1000): ∀(k i:Nat) (l:List Int) (f:Nat),i+k=ns.length→l.length+8*k≤990000→k<f→a0b h3z f [.k 0,.n (ns.length:Int),.n (i:Int),.l TL ns,.l TB l]=some (0,[.l TB (l++lgs (ns.drop i))])
 |_,_,_,0,_,_,h=>by omega
 |0,i,l,f+1,hi,hl,hf=>by
  have e:(h3z [.k 0,.n (ns.length:Int),.n (i:Int),.l TL ns,.l TB l]).sel=some (.stop 0 [.l TB l]):=by
   refine i3y _ _ ns l (by omega) rfl _ ?_
   unfold j3k
   exact a0c (decide_eq_false (show¬((i:Int)<(ns.length:Int)) by omega)) rfl
  unfold a0b
  rw[e,List.drop_eq_nil_of_le (by omega)]
  exact congrArg (fun z:List Int=>some (0,[Dat.l TB z])) (List.append_nil l).symm
 |k+1,i,l,f+1,hi,hl,hf=>by
  have w:IntKind.wrap .i64 ((i:Int)+1)=((i+1:Nat):Int):=by rw[w64d];omega
  have e1:=t35b (ns.getD i 0) 8 (by omega) l (by omega)
  have e:(h3z [.k 0,.n (ns.length:Int),.n (i:Int),.l TL ns,.l TB l]).sel=some (.go [.k 0,.n (ns.length:Int),.n ((i+1:Nat):Int),.l TL ns,.l TB (l++bes (ns.getD i 0) 8)]):=by
   refine i3y _ _ ns l (by omega) rfl _ ?_
   unfold j3k
   refine a0a (decide_eq_true (show(i:Int)<(ns.length:Int) by omega)) (a0a (by erw[e1];rfl) ?_)
   erw[e1]
   rw[w];rfl
  unfold a0b
  rw[e]
  have ih:=lp88 ns hn k (i+1) (l++bes (ns.getD i 0) 8) f (by omega) (by rw[List.length_append,h3g];omega) (by omega)
  rw[l3c (show i<ns.length by omega)]
  have hc:lgs (ns.getD i 0::ns.drop (i+1))=bes (ns.getD i 0) 8++lgs (ns.drop (i+1)):=rfl
  rw[hc,←List.append_assoc]
  exact ih
theorem t88 (ns l:List Int)(hn:ns.length≤1000)(hl:l.length+8*ns.length≤990000):x3p [.l TL ns,.l TB l]=some (0,[.l TB (l++lgs ns)]):=by
 have e:k3c [.k 0,.n (ns.length:Int),.n 0,.l TL ns,.l TB l]=some (0,[.l TB (l++lgs ns)]):=by
  rw[k3o]
  exact lp88 ns hn ns.length 0 l FU (by omega) (by omega) (by unfold FU;omega)
 rw[r3o]
 refine t3o ns l _ ?_
 unfold t3y
 exact a0a (by erw[e];rfl) (by erw[e];rfl)
def chk (l:List Int):List Int:=l++bes (IntKind.wrap .u64 (N (Sm l))) 4
theorem k3r (l:List Int):(chk l).length=l.length+4:=by unfold chk;rw[List.length_append,h3g]
theorem bes1 {c:Int}(h0:0≤c)(h1:c<256):bes (IntKind.wrap .u64 c) 1=[c]:=by
 have e:IntKind.wrap .u64 c=c:=by rw[wu64];omega
 rw[e]
 show[IntKind.wrap .u8 (ishr .u64 c (8*((0:Nat):Int)))]=[c]
 have e2:ishr .u64 c (8*((0:Nat):Int))=c:=by
  rw[show(8*((0:Nat):Int))=0 from rfl]
  unfold ishr;simp
 rw[e2,wu8]
 congr 1
 omega
theorem b5:bes 5 1=[5]:=rfl
def liL (x y s k:Int)(l:List Int):List Int:=[5,x,y]++bes (IntKind.wrap .u64 s) 8++bes (IntKind.wrap .u64 k) 8++bes (IntKind.wrap .u64 (l.length:Int)) 2++l
theorem p3u (x y s k:Int)(l:List Int):(liL x y s k l).length=21+l.length:=by unfold liL;simp only[List.length_append,h3g];rfl
theorem t60 (x y s k:Int)(l:List Int):j2c [.n x,.n y,.n s,.n k,.l TB l]=some (0,[.b (win 4611686018427387904 [s,k]&&decide ((l.length:Int)≤2048))]):=by
 have e1:=t80 4611686018427387904 [s,k] (by simp)
 rw[v1v]
 refine c2x _ _ _ _ _ _ ?_
 unfold l2c
 dsimp only
 erw[e1]
 cases hw:win 4611686018427387904 [s,k]with
 |false=>rfl
 |true=>rfl
theorem t71 (x y s k:Int)(l:List Int)(hx:0≤x∧x<256)(hy:0≤y∧y<256)(hl:l.length≤2048):y3c [.n x,.n y,.n s,.n k,.l TB l,.l TB (bes 5 1)]=some (0,[.l TB (liL x y s k l)]):=by
 have hu:IntKind.wrap .u64 (IntKind.wrap .u16 (l.length:Int))=IntKind.wrap .u64 (l.length:Int):=by rw[wu16,wu64,wu64];omega
 have hb:bes 5 1++bes (IntKind.wrap .u64 x) 1++bes (IntKind.wrap .u64 y) 1++lgs [IntKind.wrap .u64 s,IntKind.wrap .u64 k]++bes (IntKind.wrap .u64 (IntKind.wrap .u16 (l.length:Int))) 2++l=liL x y s k l:=by
  rw[b5,bes1 hx.1 hx.2,bes1 hy.1 hy.2,hu]
  unfold liL lgs
  simp only[List.flatMap_cons,List.flatMap_nil,List.append_assoc,List.append_nil,List.cons_append,List.nil_append]
 have e1:=t35b (IntKind.wrap .u64 x) 1 (by omega) (bes 5 1) (by simp[h3g])
 have e2:=t35b (IntKind.wrap .u64 y) 1 (by omega) (bes 5 1++bes (IntKind.wrap .u64 x) 1) (by simp[h3g])
 have e3:=t88 [IntKind.wrap .u64 s,IntKind.wrap .u64 k] (bes 5 1++bes (IntKind.wrap .u64 x) 1++bes (IntKind.wrap .u64 y) 1) (by simp) (by simp[h3g])
 have e4:=t35b (IntKind.wrap .u64 (IntKind.wrap .u16 (l.length:Int))) 2 (by omega) (bes 5 1++bes (IntKind.wrap .u64 x) 1++bes (IntKind.wrap .u64 y) 1++lgs [IntKind.wrap .u64 s,IntKind.wrap .u64 k]) (by simp[h3g,y3h])
 rw[s3f]
 refine t3b _ _ _ _ _ _ _ ?_
 unfold v3f
 dsimp only
 erw[e1]
 refine a0a rfl ?_
 erw[e2]
 refine a0a rfl ?_
 erw[e3]
 refine a0a rfl ?_
 erw[e4]
 refine a0a rfl ?_
 refine a0a (decide_eq_true (show((bes 5 1++bes (IntKind.wrap .u64 x) 1++bes (IntKind.wrap .u64 y) 1++lgs [IntKind.wrap .u64 s,IntKind.wrap .u64 k]++bes (IntKind.wrap .u64 (IntKind.wrap .u16 (l.length:Int))) 2).length+l.length)*1≤140737488355328 by simp only[List.length_append,y3h,h3g,List.length_cons,List.length_nil];omega)) ?_
 exact congrArg (fun z:List Int=>some (0,[Dat.l TB z])) hb
theorem p13 (x y s k:Int)(l:List Int)(hx:0≤x∧x<256)(hy:0≤y∧y<256):j3c [.n x,.n y,.n s,.n k,.l TB l]=some (0,[.l TB (bif win 4611686018427387904 [s,k]&&decide ((l.length:Int)≤2048)then chk (liL x y s k l)else[])]):=by
 have e1:=t60 x y s k l
 rw[p3a]
 refine p3y _ _ _ _ _ _ ?_
 unfold r3g
 dsimp only
 erw[e1]
 cases hw:win 4611686018427387904 [s,k]&&decide ((l.length:Int)≤2048)with
 |false=>rfl
 |true=>
  rw[Bool.and_eq_true]at hw
  have h2:=of_decide_eq_true hw.2
  have hn:l.length≤2048:=by omega
  have hl:=p3u x y s k l
  have e2:=t35a 5 1 (by omega) (by omega)
  have e3:=t71 x y s k l hx hy hn
  have eA:=t31 (l:=liL x y s k l) (by omega)
  have eB:=q12 (liL x y s k l) (by omega)
  have eC:=t35b (IntKind.wrap .u64 (N (Sm (liL x y s k l)))) 4 (by omega) (liL x y s k l) (by omega)
  have eD:=t31 (l:=chk (liL x y s k l)) (by rw[k3r];omega)
  refine a0a rfl (a0a rfl ?_)
  erw[e2]
  refine a0c rfl (a0a rfl ?_)
  erw[e3]
  refine a0a rfl ?_
  erw[eA]
  refine a0a rfl ?_
  erw[eB]
  refine a0a rfl ?_
  erw[eC]
  refine a0a rfl ?_
  erw[eD]
  rfl
theorem win2_t {m a b:Int}(h:0≤a∧a≤m∧0≤b∧b≤m):win m [a,b]=true:=by
 unfold win;simp;omega
theorem q3r {m a b:Int}(h: ¬(0≤a∧a≤m∧0≤b∧b≤m)):win m [a,b]=false:=by
 cases hh:win m [a,b]with
 |false=>rfl
 |true=>exfalso;apply h;unfold win at hh;simp at hh;omega
theorem Wb.app {a b:List Int}(h:Wb a)(k:Wb b):Wb (a++b):=fun x hx=>(List.mem_append.1 hx).elim (h x) (k x)
theorem Wb.cons {a:Int}{b:List Int}(h:0≤a∧a<256)(k:Wb b):Wb (a::b):=fun x hx=>(List.mem_cons.1 hx).elim (fun e=>e▸h) (k x)
theorem Wb.nil:Wb []:=fun x hx=>by cases hx
theorem liL_wb {x y s k:Int}{l:List Int}(hx:0≤x∧x<256)(hy:0≤y∧y<256)(h:Wb l):Wb (liL x y s k l):=((((Wb.nil.cons hy).cons hx).cons (a:=5) (by omega)).app (j3f _ _)).app (j3f _ _)|>.app (j3f _ _)|>.app h
theorem m21 (x y s k:Int)(z:ByteArray)(hx:0≤x∧x<256)(hy:0≤y∧y<256)(hwz:Wb (c0b z)):j3q [.n x,.n y,.n s,.n k,.s z]=some (0,[.l TB (bif win 4611686018427387904 [s,k]&&decide (((c0b z).length:Int)≤2048)then chk (liL x y s k (c0b z))else[])]):=by
 have hz:(c0b z).length=z.size:=h0z z
 rw[o3j]
 refine p3w _ _ _ _ _ _ ?_
 unfold r3b
 dsimp only
 by_cases s0:s<0
 ·rw[q3r (by omega)];exact a0a (decide_eq_true s0) rfl
 ·refine a0c (decide_eq_false s0) ?_
  by_cases s1:s>4611686018427387904
  ·rw[q3r (by omega)];exact a0a (decide_eq_true s1) rfl
  ·refine a0c (decide_eq_false s1) ?_
   by_cases k0:k<0
   ·rw[q3r (by omega)];exact a0a (decide_eq_true k0) rfl
   ·refine a0c (decide_eq_false k0) ?_
    by_cases k1:k>4611686018427387904
    ·rw[q3r (by omega)];exact a0a (decide_eq_true k1) rfl
    ·refine a0c (decide_eq_false k1) ?_
     rw[win2_t (by omega)]
     by_cases z1:(z.size:Int)>2048
     ·have h2:decide (((c0b z).length:Int)≤2048)=false:=decide_eq_false (by omega)
      rw[h2];exact a0a (decide_eq_true z1) rfl
     ·refine a0c (decide_eq_false z1) ?_
      have h2:decide (((c0b z).length:Int)≤2048)=true:=decide_eq_true (by omega)
      rw[h2]
      have hl:=p3u x y s k (c0b z)
      have hq:[5,x,y]++bes (IntKind.wrap .u64 s) 8++bes (IntKind.wrap .u64 k) 8++bes (IntKind.wrap .u64 (z.size:Int)) 2++c0b z++bes (IntKind.wrap .u64 (N (Sm (liL x y s k (c0b z))))) 4=chk (liL x y s k (c0b z)):=by
       unfold chk
       rw[show liL x y s k (c0b z)=[5,x,y]++bes (IntKind.wrap .u64 s) 8++bes (IntKind.wrap .u64 k) 8++bes (IntKind.wrap .u64 (z.size:Int)) 2++c0b z from by unfold liL;rw[hz]]
      have hq0:[5,x,y]++bes (IntKind.wrap .u64 s) 8++bes (IntKind.wrap .u64 k) 8++bes (IntKind.wrap .u64 (z.size:Int)) 2++c0b z=liL x y s k (c0b z):=by unfold liL;rw[hz]
      have e1:=t30 (IntKind.wrap .u64 s) 8 (by omega)
      have e2:=t30 (IntKind.wrap .u64 k) 8 (by omega)
      have e3:=t30 (IntKind.wrap .u64 (z.size:Int)) 2 (by omega)
      have e4:=q13 (liL x y s k (c0b z)) (by omega) (liL_wb hx hy hwz)
      rw[←hq0]at e4
      have e5:=t30 (IntKind.wrap .u64 (N (Sm (liL x y s k (c0b z))))) 4 (by omega)
      rw[←hq0]at e5
      erw[e1]
      refine a0a rfl ?_
      refine a0a (decide_eq_true (show(([5,x,y]:List Int).length+(bes (IntKind.wrap .u64 s) 8).length)*1≤140737488355328 by simp only[List.length_append,h3g,List.length_cons,List.length_nil];omega)) ?_
      erw[e2]
      refine a0a rfl ?_
      refine a0a (decide_eq_true (show(([5,x,y]++bes (IntKind.wrap .u64 s) 8:List Int).length+(bes (IntKind.wrap .u64 k) 8).length)*1≤140737488355328 by simp only[List.length_append,h3g,List.length_cons,List.length_nil];omega)) ?_
      erw[e3]
      refine a0a rfl ?_
      refine a0a (decide_eq_true (show(([5,x,y]++bes (IntKind.wrap .u64 s) 8++bes (IntKind.wrap .u64 k) 8:List Int).length+(bes (IntKind.wrap .u64 (z.size:Int)) 2).length)*1≤140737488355328 by simp only[List.length_append,h3g,List.length_cons,List.length_nil];omega)) ?_
      refine a0a (decide_eq_true (show(([5,x,y]++bes (IntKind.wrap .u64 s) 8++bes (IntKind.wrap .u64 k) 8++bes (IntKind.wrap .u64 (z.size:Int)) 2:List Int).length+(c0b z).length)*1≤140737488355328 by simp only[List.length_append,h3g,List.length_cons,List.length_nil,hz];omega)) ?_
      erw[e4]
      refine a0a rfl ?_
      erw[e5]
      refine a0a rfl ?_
      refine a0a (decide_eq_true (show(([5,x,y]++bes (IntKind.wrap .u64 s) 8++bes (IntKind.wrap .u64 k) 8++bes (IntKind.wrap .u64 (z.size:Int)) 2++c0b z:List Int).length+(bes (IntKind.wrap .u64 (N (Sm ([5,x,y]++bes (IntKind.wrap .u64 s) 8++bes (IntKind.wrap .u64 k) 8++bes (IntKind.wrap .u64 (z.size:Int)) 2++c0b z)))) 4).length)*1≤140737488355328 by simp only[List.length_append,h3g,List.length_cons,List.length_nil,hl,hz];omega)) ?_
      rw[←hq0]at hq⊢
      exact congrArg (fun z:List Int=>some (0,[Dat.l TB z])) hq
theorem b1:bes 1 1=[1]:=rfl
theorem h3i {b:List Int}(h:Wb b):c0b (r2b b)=b:=by
 unfold c0b r2b
 simp only[List.map_map]
 conv=>rhs;rw[←List.map_id b]
 refine List.map_congr_left fun x hx=> ?_
 have:=h x hx
 show(((UInt8.ofNat x.toNat).toNat:Nat):Int)=x
 rw[UInt8.toNat_ofNat']
 omega
def nm (l:List Int):Int:=l.foldl (fun a b=>a*256+b) 0
theorem nm_snoc (l:List Int)(b:Int):nm (l++[b])=nm l*256+b:=by simp[nm]
theorem v3n: ∀(l:List Int) (a m:Int),Wb l→0≤a→a<m→0≤l.foldl (fun a b=>a*256+b) a∧l.foldl (fun a b=>a*256+b) a<m*256^l.length
 |[],a,m,_,h0,h1=>by simp;exact⟨h0,h1⟩
 |b::l,a,m,hw,h0,h1=>by
  have hb:=hw b (by simp)
  have:=v3n l (a*256+b) (m*256) (fun x hx=>hw x (by simp[hx])) (by omega) (by omega)
  simp only[List.foldl_cons,List.length_cons,Int.pow_succ]
  rw[Int.mul_comm (256^l.length) 256,←Int.mul_assoc]
  exact this
theorem l3u {l:List Int}(h:Wb l):0≤nm l∧nm l<256^l.length:=by
 have:=v3n l 0 1 h (by omega) (by omega)
 rw[Int.one_mul]at this
 exact this
theorem Wb.take {l:List Int}(h:Wb l)(n:Nat):Wb (l.take n):=fun b hb=>h b (List.mem_of_mem_take hb)
theorem Wb.drop {l:List Int}(h:Wb l)(n:Nat):Wb (l.drop n):=fun b hb=>h b (List.mem_of_mem_drop hb)
theorem pow_le {n:Nat}(h:n≤7):(256:Int)^n≤72057594037927936:=by
 have:n=0∨n=1∨n=2∨n=3∨n=4∨n=5∨n=6∨n=7:=by omega
 rcases this with rfl|rfl|rfl|rfl|rfl|rfl|rfl|rfl<;>decide
theorem st8 {a b:Int}(h0:0≤a)(h1:a<72057594037927936)(b0:0≤b)(b1:b<256):ior .u64 (ishl .u64 a 8) (IntKind.wrap .u64 b)=a*256+b:=by
 have e1:ishl .u64 a 8=a*256:=by
  have:ishl .u64 a 8=IntKind.wrap .u64 (a*2^8):=rfl
  rw[this,wu64]
  have:(2:Int)^8=256:=by decide
  rw[this];omega
 have e2:IntKind.wrap .u64 b=b:=by rw[wu64];omega
 rw[e1,e2]
 obtain⟨x,rfl⟩: ∃x:Nat,a=x:=⟨a.toNat,by omega⟩
 obtain⟨y,rfl⟩: ∃y:Nat,b=y:=⟨b.toNat,by omega⟩
 have e3:ior .u64 ((x:Int)*256) (y:Int)=IntKind.wrap .u64 ((BitVec.ofInt 64 ((x:Int)*256)|||BitVec.ofInt 64 (y:Int)).toNat:Int):=rfl
 rw[e3]
 have e4:(x:Int)*256=((x*256:Nat):Int):=by omega
 rw[e4,BitVec.ofInt_natCast,BitVec.ofInt_natCast,BitVec.toNat_or,BitVec.toNat_ofNat,BitVec.toNat_ofNat,Nat.mod_eq_of_lt (by omega),Nat.mod_eq_of_lt (by omega)]
 have e5:x*256|||y=x*256+y:=by
  have:=Nat.shiftLeft_add_eq_or_of_lt (i:=8) (b:=y) (by omega) x
  rw[Nat.shiftLeft_eq]at this
  exact this.symm
 rw[e5,wu64];omega
theorem nm_step {l:List Int}(hw:Wb l)(hl:l.length≤8){n:Nat}(h:n<l.length):ior .u64 (ishl .u64 (nm (l.take n)) 8) (IntKind.wrap .u64 (l.getD n 0))=nm (l.take (n+1)):=by
 have hb:=l3u (hw.take n)
 have hle:(l.take n).length≤7:=by rw[List.length_take];omega
 have:=pow_le hle
 have hx:=hw (l.getD n 0) (by rw[List.getD_eq_getElem?_getD,List.getElem?_eq_getElem h];simp)
 rw[k3i h,nm_snoc]
 exact st8 hb.1 (by omega) hx.1 hx.2
theorem step2 {l:List Int}(hw:Wb l)(hl:l.length≤8){n:Int}(h0:0≤n)(h1:n<(l.length:Int)):ior .u64 (ishl .u64 (nm (l.take n.toNat)) 8) (IntKind.wrap .u64 (l.getD n.toNat 0))=nm (l.take (n+1).toNat):=by
 have e:(n+1).toNat=n.toNat+1:=by omega
 rw[e];exact nm_step hw hl (by omega)
theorem lp17r {l:List Int}(hl:l.length≤8)(hw:Wb l):i3w [.k 0,.l TB l,.n 0,.n 0]=some (0,[.n (nm l)]):=by
 rw[j3l]
 refine i3q (fun i=>[.k 0,.l TB l,.n (nm (l.take i.toNat)),.n i]) (l.length:Int) (0,[.n (nm l)]) (fun n h0 h1=> ?_) ?_ FU 0 (by omega) (by omega) (by show((l.length:Int)-0).toNat<FU;unfold FU;omega)
 ·have w:=w64s (x:=n+1) (by omega) (by omega)
  refine i3l l (nm (l.take n.toNat)) n _ ?_
  unfold i3s
  refine a0a (decide_eq_true (show n<(l.length:Int)from h1)) (a0a (h1s h0 h1) ?_)
  show some (Step.go [.k 0,.l TB l,.n (ior .u64 (ishl .u64 (nm (l.take n.toNat)) 8) (IntKind.wrap .u64 (l.getD n.toNat 0))),.n (IntKind.wrap .i64 (n+1))])=_
  rw[step2 hw hl h0 h1,w]
 ·refine i3l l _ _ _ ?_
  unfold i3s
  refine a0c (decide_eq_false (show¬((l.length:Int)<(l.length:Int)) by omega)) ?_
  show some (Step.stop 0 [.n (nm (l.take (l.length:Int).toNat))])=some (Step.stop 0 [.n (nm l)])
  rw[show(l.length:Int).toNat=l.length by omega,List.take_length]
theorem t17r {l:List Int}(hl:l.length≤8)(hw:Wb l):n3n [.l TB l]=some (0,[.n (nm l)]):=by
 rw[n3f]
 refine q3l l _ ?_
 unfold q3x
 have e:=lp17r hl hw
 exact a0a (by erw[e];rfl) (by erw[e];rfl)
theorem lp34 {l:List Int}(hl:l.length≤8)(hw:Wb l)(n:Int)(r:List Int)(b:Bool):h3c [.k 0,.n n,.n 0,.l TB l,.n (l.length:Int),.n 0,.l TB r,.b b]=some (0,[.n n,.n (nm l),.l TB r,.b b]):=by
 rw[i3h]
 refine i3q (fun i=>[.k 0,.n n,.n (nm (l.take i.toNat)),.l TB l,.n (l.length:Int),.n i,.l TB r,.b b]) (l.length:Int) (0,[.n n,.n (nm l),.l TB r,.b b]) (fun i h0 h1=> ?_) ?_ FU 0 (by omega) (by omega) (by show((l.length:Int)-0).toNat<FU;unfold FU;omega)
 ·have w:=w64s (x:=i+1) (by omega) (by omega)
  refine i3m n (nm (l.take i.toNat)) l (l.length:Int) i r b _ ?_
  unfold i3r
  refine a0a (decide_eq_true (show i<(l.length:Int)from h1)) (a0a (h1s h0 h1) ?_)
  show some (Step.go [.k 0,.n n,.n (ior .u64 (ishl .u64 (nm (l.take i.toNat)) 8) (IntKind.wrap .u64 (l.getD i.toNat 0))),.l TB l,.n (l.length:Int),.n (IntKind.wrap .i64 (i+1)),.l TB r,.b b])=_
  rw[step2 hw hl h0 h1,w]
 ·refine i3m n _ l (l.length:Int) _ r b _ ?_
  unfold i3r
  refine a0c (decide_eq_false (show¬((l.length:Int)<(l.length:Int)) by omega)) ?_
  show some (Step.stop 0 [Dat.n n,Dat.n (nm (l.take (l.length:Int).toNat)),Dat.l TB r,Dat.b b])=some (Step.stop 0 [Dat.n n,Dat.n (nm l),Dat.l TB r,Dat.b b])
  rw[show(l.length:Int).toNat=l.length by omega,List.take_length]
theorem z3q (n:Int)(r:List Int)(b:Bool):h3c [.k 1,.n n,.n 0,.n 0,.n 0,.l TB r,.b b]=some (0,[.n n,.n 0,.l TB r,.b b]):=by
 rw[i3h,show FU=18446744073709551615+1 from rfl]
 unfold a0b
 rw[l3i n 0 0 0 r b rfl rfl _ rfl]
theorem w3u {n:Int}{l:List Int}(h0:0≤n)(h1:n≤(l.length:Int)):s1c [.n n,.l TB l,.b false]=some (0,[.l TB (l.take n.toNat),.l TB (l.drop n.toNat),.b false]):=by
 rw[k3n]
 refine k3m n l false _ ?_
 unfold m3e
 exact a0c rfl (a0c (decide_eq_false (by omega)) (a0c (decide_eq_false (show¬(n>(l.length:Int)) by omega)) (a0a (by simp;omega) rfl)))
theorem y3e {n:Int}{l:List Int}{b:Bool}(h:b=true∨n<0∨(l.length:Int)<n):s1c [.n n,.l TB l,.b b]=some (1,[.l TB ([]:List Int),.b true]):=by
 rw[k3n]
 refine k3m n l b _ ?_
 unfold m3e
 cases b with
 |true=>exact a0a rfl rfl
 |false=>
  refine a0c rfl ?_
  by_cases h1:n<0
  ·exact a0a (decide_eq_true h1) rfl
  ·refine a0c (decide_eq_false h1) (a0a (decide_eq_true (show n>(l.length:Int)from ?_)) rfl)
   rcases h with h|h|h
   ·cases h
   ·omega
   ·exact h
theorem t34_1ok {l:List Int}(hw:Wb l)(h1:1≤l.length):h3j [.n 1,.l TB l,.b false]=some (0,[.n (nm (l.take 1)),.l TB (l.drop 1),.b false]):=by
 have e1:s1c [.n (1:Int),.l TB l,.b false]=some (0,[.l TB (l.take 1),.l TB (l.drop 1),.b false]):=w3u (n:=1) (by omega) (by omega)
 have hx:(l.take 1).length=1:=by rw[List.length_take];omega
 have e2:=lp34 (l:=l.take 1) (by omega) (hw.take 1) 1 (l.drop 1) false
 have hb:=l3u (hw.take 1)
 rw[hx]at hb
 have wr:IntKind.wrap .u8 (nm (l.take 1))=nm (l.take 1):=by
  have:(256:Int)^1=256:=by decide
  rw[wu8];omega
 rw[h3k]
 refine h3f 1 l false _ ?_
 unfold h3r
 refine a0a (by erw[e1];rfl) (a0a (by erw[e1];erw[e2];rfl) ?_)
 have e3:h3c [.k 0,.n (1:Int),.n 0,.l TB (gl TB (dOf (s1c [.n (1:Int),.l TB l,.b false])) 0),.n (List.length (gl TB (dOf (s1c [.n (1:Int),.l TB l,.b false])) 0):Int),.n 0,.l TB (gl TB (dOf (s1c [.n (1:Int),.l TB l,.b false])) 1),.b (gb (dOf (s1c [.n (1:Int),.l TB l,.b false])) 2)]=some (0,[.n 1,.n (nm (l.take 1)),.l TB (l.drop 1),.b false]):=by
  rw[e1];exact e2
 clear e2
 have e2:=e3
 exact a0a (by erw[e2];rfl) (by erw[e2];exact congrArg (fun z=>some (0,[Dat.n z,.l TB (l.drop 1),.b false])) wr)
theorem x3o {l:List Int}{b:Bool}(h:b=true∨l.length<1):h3j [.n 1,.l TB l,.b b]=some (0,[.n 0,.l TB ([]:List Int),.b true]):=by
 have e1:s1c [.n (1:Int),.l TB l,.b b]=some (1,[.l TB ([]:List Int),.b true]):=y3e (by rcases h with h|h;exact .inl h;exact .inr (.inr (by omega)))
 have e2:h3c [.k 1,.n (1:Int),.n 0,.n 0,.n 0,.l TB (gl TB (dOf (s1c [.n (1:Int),.l TB l,.b b])) 0),.b (gb (dOf (s1c [.n (1:Int),.l TB l,.b b])) 1)]=some (0,[.n 1,.n 0,.l TB ([]:List Int),.b true]):=by
  rw[e1];exact z3q 1 [] true
 rw[h3k]
 refine h3f 1 l b _ ?_
 unfold h3r
 refine a0c (by erw[e1];rfl) (a0a (by erw[e1];rfl) (a0a (by erw[e2];rfl) ?_))
 exact a0a (by erw[e2];rfl) (by erw[e2];rfl)
theorem t34_2ok {l:List Int}(hw:Wb l)(h1:2≤l.length):h3j [.n 2,.l TB l,.b false]=some (1,[.n (nm (l.take 2)),.l TB (l.drop 2),.b false]):=by
 have e1:s1c [.n (2:Int),.l TB l,.b false]=some (0,[.l TB (l.take 2),.l TB (l.drop 2),.b false]):=w3u (n:=2) (by omega) (by omega)
 have hx:(l.take 2).length=2:=by rw[List.length_take];omega
 have e2:=lp34 (l:=l.take 2) (by omega) (hw.take 2) 2 (l.drop 2) false
 have hb:=l3u (hw.take 2)
 rw[hx]at hb
 have wr:IntKind.wrap .u16 (nm (l.take 2))=nm (l.take 2):=by
  have:(256:Int)^2=65536:=by decide
  rw[wu16];omega
 rw[h3k]
 refine h3f 2 l false _ ?_
 unfold h3r
 refine a0a (by erw[e1];rfl) (a0a (by erw[e1];erw[e2];rfl) ?_)
 have e3:h3c [.k 0,.n (2:Int),.n 0,.l TB (gl TB (dOf (s1c [.n (2:Int),.l TB l,.b false])) 0),.n (List.length (gl TB (dOf (s1c [.n (2:Int),.l TB l,.b false])) 0):Int),.n 0,.l TB (gl TB (dOf (s1c [.n (2:Int),.l TB l,.b false])) 1),.b (gb (dOf (s1c [.n (2:Int),.l TB l,.b false])) 2)]=some (0,[.n 2,.n (nm (l.take 2)),.l TB (l.drop 2),.b false]):=by
  rw[e1];exact e2
 clear e2
 have e2:=e3
 exact a0c (by erw[e2];rfl) (a0a (by erw[e2];rfl) (by erw[e2];exact congrArg (fun z=>some (1,[Dat.n z,.l TB (l.drop 2),.b false])) wr))
theorem u3s {l:List Int}{b:Bool}(h:b=true∨l.length<2):h3j [.n 2,.l TB l,.b b]=some (1,[.n 0,.l TB ([]:List Int),.b true]):=by
 have e1:s1c [.n (2:Int),.l TB l,.b b]=some (1,[.l TB ([]:List Int),.b true]):=y3e (by rcases h with h|h;exact .inl h;exact .inr (.inr (by omega)))
 have e2:h3c [.k 1,.n (2:Int),.n 0,.n 0,.n 0,.l TB (gl TB (dOf (s1c [.n (2:Int),.l TB l,.b b])) 0),.b (gb (dOf (s1c [.n (2:Int),.l TB l,.b b])) 1)]=some (0,[.n 2,.n 0,.l TB ([]:List Int),.b true]):=by
  rw[e1];exact z3q 2 [] true
 rw[h3k]
 refine h3f 2 l b _ ?_
 unfold h3r
 refine a0c (by erw[e1];rfl) (a0a (by erw[e1];rfl) (a0a (by erw[e2];rfl) ?_))
 exact a0c (by erw[e2];rfl) (a0a (by erw[e2];rfl) (by erw[e2];rfl))
theorem t34_4ok {l:List Int}(hw:Wb l)(h1:4≤l.length):h3j [.n 4,.l TB l,.b false]=some (2,[.n (nm (l.take 4)),.l TB (l.drop 4),.b false]):=by
 have e1:s1c [.n (4:Int),.l TB l,.b false]=some (0,[.l TB (l.take 4),.l TB (l.drop 4),.b false]):=w3u (n:=4) (by omega) (by omega)
 have hx:(l.take 4).length=4:=by rw[List.length_take];omega
 have e2:=lp34 (l:=l.take 4) (by omega) (hw.take 4) 4 (l.drop 4) false
 have hb:=l3u (hw.take 4)
 rw[hx]at hb
 have wr:IntKind.wrap .u32 (nm (l.take 4))=nm (l.take 4):=by
  have:(256:Int)^4=4294967296:=by decide
  rw[wu32];omega
 rw[h3k]
 refine h3f 4 l false _ ?_
 unfold h3r
 refine a0a (by erw[e1];rfl) (a0a (by erw[e1];erw[e2];rfl) ?_)
 have e3:h3c [.k 0,.n (4:Int),.n 0,.l TB (gl TB (dOf (s1c [.n (4:Int),.l TB l,.b false])) 0),.n (List.length (gl TB (dOf (s1c [.n (4:Int),.l TB l,.b false])) 0):Int),.n 0,.l TB (gl TB (dOf (s1c [.n (4:Int),.l TB l,.b false])) 1),.b (gb (dOf (s1c [.n (4:Int),.l TB l,.b false])) 2)]=some (0,[.n 4,.n (nm (l.take 4)),.l TB (l.drop 4),.b false]):=by
  rw[e1];exact e2
 clear e2
 have e2:=e3
 exact a0c (by erw[e2];rfl) (a0c (by erw[e2];rfl) (a0a (by erw[e2];rfl) (by erw[e2];exact congrArg (fun z=>some (2,[Dat.n z,.l TB (l.drop 4),.b false])) wr)))
theorem v3i {l:List Int}{b:Bool}(h:b=true∨l.length<4):h3j [.n 4,.l TB l,.b b]=some (2,[.n 0,.l TB ([]:List Int),.b true]):=by
 have e1:s1c [.n (4:Int),.l TB l,.b b]=some (1,[.l TB ([]:List Int),.b true]):=y3e (by rcases h with h|h;exact .inl h;exact .inr (.inr (by omega)))
 have e2:h3c [.k 1,.n (4:Int),.n 0,.n 0,.n 0,.l TB (gl TB (dOf (s1c [.n (4:Int),.l TB l,.b b])) 0),.b (gb (dOf (s1c [.n (4:Int),.l TB l,.b b])) 1)]=some (0,[.n 4,.n 0,.l TB ([]:List Int),.b true]):=by
  rw[e1];exact z3q 4 [] true
 rw[h3k]
 refine h3f 4 l b _ ?_
 unfold h3r
 refine a0c (by erw[e1];rfl) (a0a (by erw[e1];rfl) (a0a (by erw[e2];rfl) ?_))
 exact a0c (by erw[e2];rfl) (a0c (by erw[e2];rfl) (a0a (by erw[e2];rfl) (by erw[e2];rfl)))
theorem t34_8ok {l:List Int}(hw:Wb l)(h1:8≤l.length):h3j [.n 8,.l TB l,.b false]=some (3,[.n (nm (l.take 8)),.l TB (l.drop 8),.b false]):=by
 have e1:s1c [.n (8:Int),.l TB l,.b false]=some (0,[.l TB (l.take 8),.l TB (l.drop 8),.b false]):=w3u (n:=8) (by omega) (by omega)
 have hx:(l.take 8).length=8:=by rw[List.length_take];omega
 have e2:=lp34 (l:=l.take 8) (by omega) (hw.take 8) 8 (l.drop 8) false
 have hb:=l3u (hw.take 8)
 rw[hx]at hb
 have wr:IntKind.wrap .u64 (nm (l.take 8))=nm (l.take 8):=by
  have:(256:Int)^8=18446744073709551616:=by decide
  rw[wu64];omega
 rw[h3k]
 refine h3f 8 l false _ ?_
 unfold h3r
 refine a0a (by erw[e1];rfl) (a0a (by erw[e1];erw[e2];rfl) ?_)
 have e3:h3c [.k 0,.n (8:Int),.n 0,.l TB (gl TB (dOf (s1c [.n (8:Int),.l TB l,.b false])) 0),.n (List.length (gl TB (dOf (s1c [.n (8:Int),.l TB l,.b false])) 0):Int),.n 0,.l TB (gl TB (dOf (s1c [.n (8:Int),.l TB l,.b false])) 1),.b (gb (dOf (s1c [.n (8:Int),.l TB l,.b false])) 2)]=some (0,[.n 8,.n (nm (l.take 8)),.l TB (l.drop 8),.b false]):=by
  rw[e1];exact e2
 clear e2
 have e2:=e3
 exact a0c (by erw[e2];rfl) (a0c (by erw[e2];rfl) (a0c (by erw[e2];rfl) ((by erw[e2];rfl))))
theorem u3x {l:List Int}{b:Bool}(h:b=true∨l.length<8):h3j [.n 8,.l TB l,.b b]=some (3,[.n 0,.l TB ([]:List Int),.b true]):=by
 have e1:s1c [.n (8:Int),.l TB l,.b b]=some (1,[.l TB ([]:List Int),.b true]):=y3e (by rcases h with h|h;exact .inl h;exact .inr (.inr (by omega)))
 have e2:h3c [.k 1,.n (8:Int),.n 0,.n 0,.n 0,.l TB (gl TB (dOf (s1c [.n (8:Int),.l TB l,.b b])) 0),.b (gb (dOf (s1c [.n (8:Int),.l TB l,.b b])) 1)]=some (0,[.n 8,.n 0,.l TB ([]:List Int),.b true]):=by
  rw[e1];exact z3q 8 [] true
 rw[h3k]
 refine h3f 8 l b _ ?_
 unfold h3r
 refine a0c (by erw[e1];rfl) (a0a (by erw[e1];rfl) (a0a (by erw[e2];rfl) ?_))
 exact a0c (by erw[e2];rfl) (a0c (by erw[e2];rfl) (a0c (by erw[e2];rfl) ((by erw[e2];rfl))))
theorem byt0 {n:Int}(h:0≤n):byt n 0=n/1%256:=by
 show IntKind.wrap .u8 (n.fdiv 1)=_
 rw[wu8,Int.fdiv_eq_ediv_of_nonneg _ (by decide)]
theorem byt1 {n:Int}(h:0≤n):byt n 1=n/256%256:=by
 show IntKind.wrap .u8 (n.fdiv 256)=_
 rw[wu8,Int.fdiv_eq_ediv_of_nonneg _ (by decide)]
theorem byt2 {n:Int}(h:0≤n):byt n 2=n/65536%256:=by
 show IntKind.wrap .u8 (n.fdiv 65536)=_
 rw[wu8,Int.fdiv_eq_ediv_of_nonneg _ (by decide)]
theorem byt3 {n:Int}(h:0≤n):byt n 3=n/16777216%256:=by
 show IntKind.wrap .u8 (n.fdiv 16777216)=_
 rw[wu8,Int.fdiv_eq_ediv_of_nonneg _ (by decide)]
theorem byt4 {n:Int}(h:0≤n):byt n 4=n/4294967296%256:=by
 show IntKind.wrap .u8 (n.fdiv 4294967296)=_
 rw[wu8,Int.fdiv_eq_ediv_of_nonneg _ (by decide)]
theorem byt5 {n:Int}(h:0≤n):byt n 5=n/1099511627776%256:=by
 show IntKind.wrap .u8 (n.fdiv 1099511627776)=_
 rw[wu8,Int.fdiv_eq_ediv_of_nonneg _ (by decide)]
theorem byt6 {n:Int}(h:0≤n):byt n 6=n/281474976710656%256:=by
 show IntKind.wrap .u8 (n.fdiv 281474976710656)=_
 rw[wu8,Int.fdiv_eq_ediv_of_nonneg _ (by decide)]
theorem byt7 {n:Int}(h:0≤n):byt n 7=n/72057594037927936%256:=by
 show IntKind.wrap .u8 (n.fdiv 72057594037927936)=_
 rw[wu8,Int.fdiv_eq_ediv_of_nonneg _ (by decide)]
theorem nmb1 {n:Int}(h:0≤n):nm (bes n 1)=n%256:=by
 show nm [byt n 0]=_
 rw[byt0 h]
 simp only[nm,List.foldl]
 omega
theorem nmb2 {n:Int}(h:0≤n):nm (bes n 2)=n%65536:=by
 show nm [byt n 1,byt n 0]=_
 rw[byt0 h,byt1 h]
 simp only[nm,List.foldl]
 omega
theorem nmb4 {n:Int}(h:0≤n):nm (bes n 4)=n%4294967296:=by
 show nm [byt n 3,byt n 2,byt n 1,byt n 0]=_
 rw[byt0 h,byt1 h,byt2 h,byt3 h]
 simp only[nm,List.foldl]
 omega
theorem nmb8 {n:Int}(h:0≤n):nm (bes n 8)=n%18446744073709551616:=by
 show nm [byt n 7,byt n 6,byt n 5,byt n 4,byt n 3,byt n 2,byt n 1,byt n 0]=_
 rw[byt0 h,byt1 h,byt2 h,byt3 h,byt4 h,byt5 h,byt6 h,byt7 h]
 simp only[nm,List.foldl]
 omega
theorem k1 (n:Int)(h:0≤n):nm (bes n 1)=n%256^1:=by rw[nmb1 h];rfl
theorem k2 (n:Int)(h:0≤n):nm (bes n 2)=n%256^2:=by rw[nmb2 h];rfl
theorem nb1 {v:Int}(h:0≤v)(h2:v<256):nm (bes v 1)=v:=by rw[nmb1 h];omega
theorem nb2 {v:Int}(h:0≤v)(h2:v<65536):nm (bes v 2)=v:=by rw[nmb2 h];omega
theorem nb4 {v:Int}(h:0≤v)(h2:v<4294967296):nm (bes v 4)=v:=by rw[nmb4 h];omega
theorem nb8 {v:Int}(h:0≤v)(h2:v<18446744073709551616):nm (bes v 8)=v:=by rw[nmb8 h];omega
def lf (o:Option (List Int)):List Int:=o.getD []
def bd (o:Option (List Int)):Bool:=o.isNone
def rd (w:Nat):Option (List Int)→Option (List Int)
 |some l=>if w≤l.length then some (l.drop w)else none
 |none=>none
def tk (w:Nat):Option (List Int)→List Int
 |some l=>if w≤l.length then l.take w else[]
 |none=>[]
def vl (w:Nat)(o:Option (List Int)):Int:=nm (tk w o)
def WO (o:Option (List Int)):Prop:= ∀l,o=some l→Wb l∧l.length≤1000000
theorem WO.rd {o:Option (List Int)}(h:WO o)(w:Nat):WO (rd w o):=by
 intro l hl
 cases o with
 |none=>cases hl
 |some x=>
  have:=h x rfl
  by_cases q:w≤x.length
  ·have e:Vx.rd w (some x)=some (x.drop w):=if_pos q
   rw[e]at hl
   cases hl
   exact⟨this.1.drop w,by rw[List.length_drop];omega⟩
  ·have e:Vx.rd w (some x)=none:=if_neg q
   rw[e]at hl
   cases hl
theorem h3x {w:Nat}{l:List Int}(h:w≤l.length):rd w (some l)=some (l.drop w):=if_pos h
theorem i3i {w:Nat}{l:List Int}(h: ¬w≤l.length):rd w (some l)=none:=if_neg h
theorem j3t {w:Nat}{l:List Int}(h:w≤l.length):tk w (some l)=l.take w:=if_pos h
theorem l3s {w:Nat}{l:List Int}(h: ¬w≤l.length):tk w (some l)=[]:=if_neg h
theorem rd_rd (a b:Nat)(o:Option (List Int)):rd a (rd b o)=rd (b+a) o:=by
 cases o with
 |none=>rfl
 |some l=>
  by_cases h:b≤l.length
  ·rw[h3x h]
   by_cases h2:b+a≤l.length
   ·rw[h3x (by rw[List.length_drop];omega),h3x h2,List.drop_drop]
   ·rw[i3i (by rw[List.length_drop];omega),i3i h2]
  ·rw[i3i h,i3i (by omega)];rfl
theorem rd_app {k:Nat}{a r:List Int}(h:a.length=k):rd k (some (a++r))=some r:=by
 subst h
 rw[h3x (by rw[List.length_append];omega),List.drop_left]
theorem tk_app {k:Nat}{a r:List Int}(h:a.length=k):tk k (some (a++r))=a:=by
 subst h
 rw[j3t (by rw[List.length_append];omega),List.take_left]
theorem t3a (v:Int)(k:Nat)(r:List Int):rd k (some (bes v k++r))=some r:=rd_app (h3g v k)
theorem s3l (v:Int)(k:Nat)(r:List Int):vl k (some (bes v k++r))=nm (bes v k):=by unfold vl;rw[tk_app (h3g v k)]
theorem r77r {o:Option (List Int)}(h:WO o):l3l [.l TB (lf o),.b (bd o)]=some (0,[.n (vl 1 o),.l TB (lf (rd 1 o)),.b (bd (rd 1 o))]):=by
 have e:h3j [.n 1,.l TB (lf o),.b (bd o)]=some (0,[.n (vl 1 o),.l TB (lf (rd 1 o)),.b (bd (rd 1 o))]):=by
  cases o with
  |none=>exact x3o (.inl rfl)
  |some l=>
   by_cases q:1≤l.length
   ·unfold vl;rw[j3t q,h3x q];exact t34_1ok (h l rfl).1 q
   ·unfold vl;rw[l3s q,i3i q];exact x3o (.inr (by show l.length<_;omega))
 rw[p3c]
 refine q3o _ _ _ ?_
 unfold q3u
 dsimp only
 erw[e]
 rfl
theorem r83r {o:Option (List Int)}(h:WO o):o3e [.l TB (lf o),.b (bd o)]=some (0,[.n (vl 2 o),.l TB (lf (rd 2 o)),.b (bd (rd 2 o))]):=by
 have e:h3j [.n 2,.l TB (lf o),.b (bd o)]=some (1,[.n (vl 2 o),.l TB (lf (rd 2 o)),.b (bd (rd 2 o))]):=by
  cases o with
  |none=>exact u3s (.inl rfl)
  |some l=>
   by_cases q:2≤l.length
   ·unfold vl;rw[j3t q,h3x q];exact t34_2ok (h l rfl).1 q
   ·unfold vl;rw[l3s q,i3i q];exact u3s (.inr (by show l.length<_;omega))
 rw[o3y]
 refine q3h _ _ _ ?_
 unfold s3i
 dsimp only
 erw[e]
 rfl
theorem r79r {o:Option (List Int)}(h:WO o):m3j [.l TB (lf o),.b (bd o)]=some (0,[.n (vl 4 o),.l TB (lf (rd 4 o)),.b (bd (rd 4 o))]):=by
 have e:h3j [.n 4,.l TB (lf o),.b (bd o)]=some (2,[.n (vl 4 o),.l TB (lf (rd 4 o)),.b (bd (rd 4 o))]):=by
  cases o with
  |none=>exact v3i (.inl rfl)
  |some l=>
   by_cases q:4≤l.length
   ·unfold vl;rw[j3t q,h3x q];exact t34_4ok (h l rfl).1 q
   ·unfold vl;rw[l3s q,i3i q];exact v3i (.inr (by show l.length<_;omega))
 rw[o3l]
 refine p3s _ _ _ ?_
 unfold r3d
 dsimp only
 erw[e]
 rfl
theorem r78r {o:Option (List Int)}(h:WO o):l3q [.l TB (lf o),.b (bd o)]=some (0,[.n (vl 8 o),.l TB (lf (rd 8 o)),.b (bd (rd 8 o))]):=by
 have e:h3j [.n 8,.l TB (lf o),.b (bd o)]=some (3,[.n (vl 8 o),.l TB (lf (rd 8 o)),.b (bd (rd 8 o))]):=by
  cases o with
  |none=>exact u3x (.inl rfl)
  |some l=>
   by_cases q:8≤l.length
   ·unfold vl;rw[j3t q,h3x q];exact t34_8ok (h l rfl).1 q
   ·unfold vl;rw[l3s q,i3i q];exact u3x (.inr (by show l.length<_;omega))
 rw[m3l]
 refine p3e _ _ _ ?_
 unfold q3w
 dsimp only
 erw[e]
 rfl
theorem r82r {o:Option (List Int)}(h:WO o)(n:Nat)(hn:n≤1000000):n3i [.n (n:Int),.l TB (lf o),.b (bd o)]=some (0,[.l TB (lf (rd n o)),.b (bd (rd n o)),.l TB (tk n o)]):=by
 rw[o3a]
 refine p3i _ _ _ _ ?_
 unfold r3i
 dsimp only
 have e0:i2m [.l TB ([]:List Int)]=some (0,[.l TB ([]:List Int)]):=t31 (by simp)
 have no: ∀{l:List Int} {b:Bool},(b=true∨(n:Int)<0∨(l.length:Int)<n)→s1c [.n (n:Int),.l TB l,.b b]=some (1,[.l TB ([]:List Int),.b true]):=fun h=>y3e h
 cases o with
 |none=>
  have e:=no (l:=[]) (b:=true) (.inl rfl)
  erw[e]
  refine a0c rfl (a0a rfl ?_)
  erw[e0]
  rfl
 |some l=>
  by_cases q:n≤l.length
  ·have e:s1c [.n (n:Int),.l TB l,.b false]=_:=w3u (n:=(n:Int)) (by omega) (by omega)
   rw[show((n:Int)).toNat=n by omega]at e
   have e1:=t31 (l:=l.take n) (by rw[List.length_take];omega)
   have hr:rd n (some l)=some (l.drop n):=if_pos q
   have ht:tk n (some l)=l.take n:=if_pos q
   rw[hr,ht]
   erw[e]
   refine a0a rfl ?_
   erw[e1]
   rfl
  ·have e:=no (l:=l) (b:=false) (.inr (.inr (by omega)))
   have hr:rd n (some l)=none:=if_neg q
   have ht:tk n (some l)=[]:=if_neg q
   rw[hr,ht]
   erw[e]
   refine a0c rfl (a0a rfl ?_)
   erw[e0]
   rfl
theorem t13r {l:List Int}(h:l.length≤1000000):k3p [.l TB l]=some (0,[.l TB l,.b false]):=by
 rw[m3s]
 refine p3h l _ ?_
 unfold r3m
 have e:=t31 (l:=l) (by omega)
 dsimp only
 erw[e]
 rfl
theorem Sm_bd (l:List Int):0≤N (Sm l)∧N (Sm l)<4294967296:=by
 have h:N (Sm l)=((Sm l).toNat:Int):=rfl
 have:=(Sm l).isLt
 omega
theorem w8i (n:Nat)(h:n≤1000000):IntKind.wrap .i64 (((n+5:Nat):Int)-4)=((n+1:Nat):Int):=by rw[w64d];omega
theorem N_bne {a b:Int}(h:a=b):(a !=b)=false:=by subst h;simp
theorem b74ok {k:Int}{p:List Int}(hw:Wb (k::p))(hl:p.length≤900000):l3o [.l TB (chk (k::p)),.n k]=some (0,[.b true,.l TB p,.b false]):=by
 have hlen:(chk (k::p)).length=p.length+5:=by rw[k3r,List.length_cons]
 have hL:IntKind.wrap .i64 (((chk (k::p)).length:Int)-4)=((p.length+1:Nat):Int):=by rw[hlen];exact w8i _ (by omega)
 have hd:(chk (k::p)).drop (p.length+1)=bes (IntKind.wrap .u64 (N (Sm (k::p)))) 4:=by
  unfold chk
  exact List.drop_left' (by rw[List.length_cons])
 have ht:(chk (k::p)).take (p.length+1)=k::p:=by
  unfold chk
  exact List.take_left' (by rw[List.length_cons])
 have hS:=Sm_bd (k::p)
 have hu:IntKind.wrap .u64 (N (Sm (k::p)))=N (Sm (k::p)):=by rw[wu64];omega
 rw[hu]at hd
 have e1:k3p [.l TB (bes (N (Sm (k::p))) 4)]=some (0,[.l TB (bes (N (Sm (k::p))) 4),.b false]):=t13r (by rw[h3g];omega)
 have e2:=r79r (o:=some (bes (N (Sm (k::p))) 4)) (fun l hl=>by cases hl;exact⟨j3f _ _,by rw[h3g];omega⟩)
 have hv:vl 4 (some (bes (N (Sm (k::p))) 4))=N (Sm (k::p)):=by
  have:=s3l (N (Sm (k::p))) 4 []
  rw[List.append_nil]at this
  rw[this,nb4 hS.1 hS.2]
 rw[hv]at e2
 have e3:=q12 (k::p) (by rw[List.length_cons];omega)
 have e4:=t13r (l:=p) (by omega)
 rw[k3w]
 refine k3k _ _ _ ?_
 unfold m3f
 dsimp only
 have hn:(((p.length+1:Nat):Int)).toNat=p.length+1:=by omega
 refine a0c (decide_eq_false (by erw[hL];omega)) (a0c (N_bne rfl) ?_)
 erw[hL,hn,hd,ht,e1]
 refine a0a rfl ?_
 erw[e2]
 refine a0a rfl (a0a (by rw[Bool.true_and];exact decide_eq_true (by omega)) ?_)
 erw[e3]
 refine a0a rfl (a0c (N_bne rfl) (a0a (by rw[Bool.true_and];exact decide_eq_true (by omega)) ?_))
 erw[e4]
 rfl
theorem win2 {m a b:Int}(h:win m [a,b]=true):0≤a∧a≤m∧0≤b∧b≤m:=by
 unfold win at h;simp at h;omega
theorem wj {y:Int}(h0:0≤y)(h1:y≤9223372036854775807):IntKind.wrap .i64 (IntKind.wrap .u64 y)=y:=by rw[wu64,w64d];omega
theorem wk {y:Int}(h0:0≤y)(h1:y<18446744073709551616):IntKind.wrap .u64 y=y:=by rw[wu64];omega
theorem be1 {c:Int}(h0:0≤c)(h1:c<256):bes c 1=[c]:=by have:=bes1 h0 h1;rw[wk h0 (by omega)]at this;exact this
theorem vl_bd {o:Option (List Int)}(h:WO o)(w:Nat):0≤vl w o∧vl w o<256^w:=by
 have hp:(0:Int)<256^w:=Int.pow_pos (by omega)
 have z:nm []=0:=rfl
 unfold vl
 cases o with
 |none=>show 0≤nm []∧nm []<_;omega
 |some l=>
  by_cases q:w≤l.length
  ·rw[j3t q]
   have:=l3u ((h l rfl).1.take w)
   rw[List.length_take,Nat.min_eq_left q]at this
   exact this
  ·rw[l3s q];omega
def o59 (o:Option (List Int)):Option (List Int):=rd 8 (rd 8 (rd 1 (rd 1 o)))
theorem t59 {o:Option (List Int)}(h:WO o):l3g [.l TB (lf o),.b (bd o)]=some (0,[.n (vl 1 o),.n (vl 1 (rd 1 o)),.n (IntKind.wrap .i64 (vl 8 (rd 1 (rd 1 o)))),.n (IntKind.wrap .i64 (vl 8 (rd 8 (rd 1 (rd 1 o))))),.l TB (lf (rd (vl 2 (o59 o)).toNat (rd 2 (o59 o)))),.b (bd (rd (vl 2 (o59 o)).toNat (rd 2 (o59 o)))),.l TB (tk (vl 2 (o59 o)).toNat (rd 2 (o59 o)))]):=by
 have e1:=r77r h
 have e2:=r77r (h.rd 1)
 have e3:=r78r ((h.rd 1).rd 1)
 have e4:=r78r (((h.rd 1).rd 1).rd 8)
 have h5:WO (o59 o):=((((h.rd 1).rd 1).rd 8).rd 8)
 have e5:=r83r h5
 have hv:=vl_bd h5 2
 have h2:(256:Int)^2=65536:=rfl
 have e6:=r82r (h5.rd 2) (vl 2 (o59 o)).toNat (by omega)
 have hw:((vl 2 (o59 o)).toNat:Int)=IntKind.wrap .i64 (vl 2 (o59 o)):=by rw[w64d];omega
 rw[hw]at e6
 rw[o3k]
 refine p3v _ _ _ ?_
 unfold r3u
 dsimp only
 erw[e1]
 refine a0a rfl ?_
 erw[e2]
 refine a0a rfl ?_
 erw[e3]
 refine a0a rfl ?_
 erw[e4]
 refine a0a rfl ?_
 erw[e5]
 refine a0a rfl ?_
 erw[e6]
 rfl
theorem g59 {x y s k n:Int}{r:List Int}(hx:0≤x∧x<256)(hy:0≤y∧y<256)(hs:0≤s∧s<18446744073709551616)(hk:0≤k∧k<18446744073709551616)(hn:0≤n∧n<65536)
  (hw:WO (some (bes x 1++(bes y 1++(bes s 8++(bes k 8++(bes n 2++r))))))):l3g [.l TB (bes x 1++(bes y 1++(bes s 8++(bes k 8++(bes n 2++r))))),.b false]=some (0,[.n x,.n y,.n (IntKind.wrap .i64 s),.n (IntKind.wrap .i64 k),.l TB (lf (rd n.toNat (some r))),.b (bd (rd n.toNat (some r))),.l TB (tk n.toNat (some r))]):=by
 have e:=t59 hw
 unfold o59 at e
 simp only[t3a,s3l,nb1 hx.1 hx.2,nb1 hy.1 hy.2,nb8 hs.1 hs.2,nb8 hk.1 hk.2,nb2 hn.1 hn.2]at e
 exact e
def OKL (x y s k:Int)(l:List Int):Prop:=(0≤x∧x<256)∧(0≤y∧y<256)∧(win 4611686018427387904 [s,k]&&decide ((l.length:Int)≤2048))=true∧Wb l
theorem encL {x y s k:Int}{l:List Int}(hx:0≤x∧x<256)(hy:0≤y∧y<256):chk (liL x y s k l)=chk (5::(bes x 1++(bes y 1++(bes (IntKind.wrap .u64 s) 8++(bes (IntKind.wrap .u64 k) 8++(bes (IntKind.wrap .u64 (l.length:Int)) 2++l)))))):=by
 unfold liL
 simp only[be1 hx.1 hx.2,be1 hy.1 hy.2,List.append_assoc,List.cons_append,List.nil_append]
theorem GL {x y s k:Int}{l:List Int}(h:OKL x y s k l):h3q [.l TB (chk (liL x y s k l))]=some (0,[.n x,.n y,.n s,.n k,.n 0,.l TB l]):=by
 obtain⟨hx,hy,hm,hwl⟩:=h
 have hm':=hm
 rw[Bool.and_eq_true]at hm'
 have hwn:=win2 hm'.1
 have hn:l.length≤2048:=by have:=of_decide_eq_true hm'.2;omega
 have wu: ∀{x:Int},0≤IntKind.wrap .u64 x∧IntKind.wrap .u64 x<18446744073709551616:=by intro x;rw[wu64];omega
 have hwb:Wb (bes x 1++(bes y 1++(bes (IntKind.wrap .u64 s) 8++(bes (IntKind.wrap .u64 k) 8++(bes (IntKind.wrap .u64 (l.length:Int)) 2++l))))):=(j3f _ _).app ((j3f _ _).app ((j3f _ _).app ((j3f _ _).app ((j3f _ _).app hwl))))
 have hlen:(bes x 1++(bes y 1++(bes (IntKind.wrap .u64 s) 8++(bes (IntKind.wrap .u64 k) 8++(bes (IntKind.wrap .u64 (l.length:Int)) 2++l))))).length≤900000:=by simp only[List.length_append,h3g];omega
 have e1:=b74ok (k:=5) (hwb.cons ⟨by omega,by omega⟩) hlen
 have hu:IntKind.wrap .u64 (l.length:Int)=(l.length:Int):=by rw[wu64];omega
 have e2:=g59 (r:=l) hx hy (wu (x:=s)) (wu (x:=k)) (n:=IntKind.wrap .u64 (l.length:Int)) (by rw[hu];omega) (fun l hl=>by cases hl;exact⟨hwb,by omega⟩)
 have hr:rd (IntKind.wrap .u64 (l.length:Int)).toNat (some l)=some []:=by
  have:=rd_app (k:=l.length) (a:=l) (r:=[]) rfl
  rw[List.append_nil]at this
  rw[hu,show((l.length:Int)).toNat=l.length by omega];exact this
 have ht:tk (IntKind.wrap .u64 (l.length:Int)).toNat (some l)=l:=by
  have:=tk_app (k:=l.length) (a:=l) (r:=[]) rfl
  rw[List.append_nil]at this
  rw[hu,show((l.length:Int)).toNat=l.length by omega];exact this
 rw[hr,ht,wj (y:=s) (by omega) (by omega),wj (y:=k) (by omega) (by omega)]at e2
 have e3:=t60 x y s k l
 rw[hm]at e3
 rw[encL hx hy,k3x]
 refine k3f _ _ ?_
 unfold m3h
 dsimp only
 erw[e1]
 refine a0a rfl (a0c rfl ?_)
 erw[e2]
 refine a0a rfl (a0c rfl (a0c (decide_eq_false (show¬((([]:List Int).length:Int)>0) by simp)) ?_))
 erw[e3]
 rfl
theorem rdx1 (x:Int)(l:List Int):rd 1 (some (x::l))=some l:=h3x (by simp)
theorem vl1 (x:Int)(l:List Int):vl 1 (some (x::l))=x:=by
 unfold vl
 rw[j3t (by simp)]
 show 0*256+x=x
 omega
def atv (b:List Int)(i w:Nat):Int:=vl w (rd i (some b))
theorem t47 {b:List Int}(hb:Wb b)(hl:b.length≤1000000)(i w:Nat)(hi:i≤100000)(hw:w≤8):l3t [.l TB b,.n (i:Int),.n (w:Int)]=some (0,[.n (atv b i w)]):=by
 have hs:IntKind.wrap .i64 ((i:Int)+(w:Int))=((i+w:Nat):Int):=by rw[w64d];omega
 rw[m3u]
 refine p3t _ _ _ _ ?_
 unfold r3a
 dsimp only
 by_cases h:i+w≤b.length
 ·have hd:List.drop ((i:Int)).toNat (List.take (((i+w:Nat):Int)).toNat b)=(b.drop i).take w:=by
   rw[show((i:Int)).toNat=i by omega,show(((i+w:Nat):Int)).toNat=i+w by omega,List.drop_take,show i+w-i=w by omega]
  have hat:atv b i w=nm ((b.drop i).take w):=by
   unfold atv vl
   rw[h3x (by omega),j3t (by rw[List.length_drop];omega)]
  have e1:=t17r (l:=(b.drop i).take w) (by rw[List.length_take];omega) ((hb.drop i).take w)
  have q1: ¬(((i+w:Nat):Int)>(b.length:Int)):=by omega
  have q2:(0:Int)≤((i+w:Nat):Int):=by omega
  have q3:((i+w:Nat):Int)≤(b.length:Int):=by omega
  have q4:(0:Int)≤(i:Int):=by omega
  have q5:(i:Int)≤((i+w:Nat):Int):=by omega
  erw[hs]
  refine a0c (decide_eq_false q1) (a0a (by rw[Bool.and_eq_true];exact⟨decide_eq_true q2,decide_eq_true q3⟩) (a0a (by rw[Bool.and_eq_true];exact⟨decide_eq_true q4,decide_eq_true q5⟩) ?_))
  erw[hd,e1,hat]
  rfl
 ·have hat:atv b i w=0:=by
   unfold atv vl
   by_cases q:i≤b.length
   ·rw[h3x q,l3s (by rw[List.length_drop];omega)];rfl
   ·rw[i3i q];rfl
  have q1:(((i+w:Nat):Int)>(b.length:Int)):=by omega
  erw[hs]
  rw[hat]
  exact a0a (decide_eq_true q1) rfl
theorem u3v {b:List Int}{i:Nat}(h:i<b.length):b.getD i 0=vl 1 (rd i (some b)):=by
 rw[h3x (by omega),l3c h,vl1]
theorem j3g {b:List Int}(hb:Wb b)(i:Nat):0≤b.getD i 0∧b.getD i 0<256:=by
 by_cases h:i<b.length
 ·exact hb _ (by rw[List.getD_eq_getElem?_getD,List.getElem?_eq_getElem h];exact List.getElem_mem h)
 ·rw[List.getD_eq_getElem?_getD,List.getElem?_eq_none (by omega)];exact⟨by decide,by decide⟩
theorem u3n {i j k:Nat}{b x:List Int}{y:Option (List Int)}(h:rd i (some b)=some x)(h2:rd j (some x)=y)(hk:i+j=k):rd k (some b)=y:=by
 subst hk
 rw[←rd_rd,h,h2]
theorem h3v (s:ByteArray):f0b s s=true:=by unfold f0b;exact decide_eq_true rfl
theorem seNo (s:ByteArray):(!f0b s s)=false:=by rw[h3v];rfl
theorem chk_wb {l:List Int}(h:Wb l):Wb (chk l):=h.app (j3f _ _)
theorem rdh {b l:List Int}{x:Int}(h:b=x::l):rd 1 (some b)=some l:=by rw[h];exact rdx1 _ _
theorem chk_c {k:Int}{p:List Int}: ∃C,chk (k::p)=k::(p++C):=⟨_,rfl⟩
theorem H33 {b0:List Int}(hw:Wb b0)(hl:b0.length≤100000)(n:Nat)(h25:b0.length=n+25)(z f:List Int)(hz:z=(b0.drop 21).take n)
  (hf:f=bif win 4611686018427387904 [IntKind.wrap .i64 (atv b0 3 8),IntKind.wrap .i64 (atv b0 11 8)]&&decide ((z.length:Int)≤2048)then chk (liL (b0.getD 1 0) (b0.getD 2 0) (IntKind.wrap .i64 (atv b0 3 8)) (IntKind.wrap .i64 (atv b0 11 8)) z)else[]) (r:Nat×List Dat)
  (hr:(Tree.node (!f0b (r2b f) (r2b b0)) (.leaf ((0,[.n (0:Int),.n (0:Int),.n (0:Int),.n (0:Int),.s {data:={toList:=[]}},.b false]))) (.leaf ((0,[.n (b0.getD 1 0),.n (b0.getD 2 0),.n (IntKind.wrap .i64 (atv b0 3 8)),.n (IntKind.wrap .i64 (atv b0 11 8)),.s (r2b z),.b true])))).sel=some r):h3o [.l TB b0]=some r:=by
 have hw2:b0.length≤1000000:=by omega
 have e1:=t47 hw hw2 3 8 (by omega) (by omega)
 have e2:=t47 hw hw2 11 8 (by omega) (by omega)
 have hzw:Wb z:=by rw[hz];exact(hw.drop _).take _
 have e3:j3q [.n (b0.getD 1 0),.n (b0.getD 2 0),.n (IntKind.wrap .i64 (atv b0 3 8)),.n (IntKind.wrap .i64 (atv b0 11 8)),.s (r2b z)]=some (0,[.l TB f]):=by
  have q:=m21 (b0.getD 1 0) (b0.getD 2 0) (IntKind.wrap .i64 (atv b0 3 8)) (IntKind.wrap .i64 (atv b0 11 8)) (r2b z) (j3g hw 1) (j3g hw 2) (by rw[h3i hzw];exact hzw)
  rw[h3i hzw]at q
  rw[hf];exact q
 clear hf
 have hL:IntKind.wrap .i64 ((b0.length:Int)-4)=((n+21:Nat):Int):=by rw[h25,w64d];omega
 have hd:List.drop 21 (List.take (((n+21:Nat):Int)).toNat b0)=z:=by
  rw[hz,show(((n+21:Nat):Int)).toNat=n+21 by omega,List.drop_take,show n+21-21=n by omega]
 have q1: ¬((b0.length:Int)<25):=by omega
 have q2:(0:Int)≤((n+21:Nat):Int):=by omega
 have q3:((n+21:Nat):Int)≤(b0.length:Int):=by omega
 have q4:(21:Int)≤((n+21:Nat):Int):=by omega
 rw[k3v]
 refine k3l _ _ ?_
 unfold m3b
 dsimp only
 refine a0c (decide_eq_false q1) ?_
 erw[e1]
 refine a0a rfl ?_
 erw[e2]
 refine a0a rfl ?_
 erw[hL]
 refine a0a (by rw[Bool.and_eq_true];exact⟨decide_eq_true q2,decide_eq_true q3⟩) (a0a (by rw[Bool.true_and];exact decide_eq_true q4) ?_)
 erw[hd,e3]
 exact a0a rfl hr
theorem G33 {x y s k:Int}{l:List Int}(h:OKL x y s k l):h3o [.l TB (chk (liL x y s k l))]=some (0,[.n x,.n y,.n s,.n k,.s (r2b l),.b true]):=by
 obtain⟨hx,hy,hm,hwl⟩:=h
 have hm':=hm
 rw[Bool.and_eq_true]at hm'
 have hwn:=win2 hm'.1
 have hn:l.length≤2048:=by have:=of_decide_eq_true hm'.2;omega
 have wu: ∀{x:Int},0≤IntKind.wrap .u64 x∧IntKind.wrap .u64 x<18446744073709551616:=by intro x;rw[wu64];omega
 have hlen:(chk (liL x y s k l)).length=l.length+25:=by rw[k3r,p3u];omega
 have hb0:=encL (s:=s) (k:=k) (l:=l) hx hy
 have hwb:Wb (chk (liL x y s k l)):=chk_wb (liL_wb hx hy hwl)
 obtain⟨C,hxx⟩:=chk_c (k:=5) (p:=bes x 1++(bes y 1++(bes (IntKind.wrap .u64 s) 8++(bes (IntKind.wrap .u64 k) 8++(bes (IntKind.wrap .u64 (l.length:Int)) 2++l)))))
 rw[←hb0]at hxx
 simp only[List.append_assoc,List.nil_append]at hxx
 obtain⟨B,hB⟩: ∃B:List Int,B=chk (liL x y s k l):=⟨_,rfl⟩
 rw[←hB]at hlen hwb hxx⊢
 have s1:=rdh hxx
 have s2:=u3n s1 (t3a _ 1 _) rfl
 have s3:=u3n s2 (t3a _ 1 _) rfl
 have s11:=u3n s3 (t3a _ 8 _) rfl
 have s19:=u3n s11 (t3a _ 8 _) rfl
 have s21:=u3n s19 (t3a _ 2 _) rfl
 have a1:B.getD 1 0=x:=by rw[u3v (by omega),s1,s3l,nb1 hx.1 hx.2]
 have a2:B.getD 2 0=y:=by rw[u3v (by omega),s2,s3l,nb1 hy.1 hy.2]
 have a3:IntKind.wrap .i64 (atv B 3 8)=s:=by unfold atv;rw[s3,s3l,nb8 wu.1 wu.2,wj (by omega) (by omega)]
 have a4:IntKind.wrap .i64 (atv B 11 8)=k:=by unfold atv;rw[s11,s3l,nb8 wu.1 wu.2,wj (by omega) (by omega)]
 have a5:l=(B.drop 21).take l.length:=by
  rw[h3x (by omega)]at s21
  rw[Option.some.inj s21,List.take_left]
 refine H33 hwb (by omega) l.length hlen l B a5 ?_ _ ?_
 ·rw[a1,a2,a3,a4,hm];exact hB
 ·rw[a1,a2,a3,a4]
  exact a0c (seNo _) rfl
end Go.Proofs.Ythkdhfejnbineaa.Vx
end
