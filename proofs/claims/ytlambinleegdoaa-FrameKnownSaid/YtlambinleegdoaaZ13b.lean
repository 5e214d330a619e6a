import Derived.Test.YtlambinleegdoaaVxIm
import Derived.Test.YtlambinleegdoaaVxLk
import Derived.Test.YtlambinleegdoaaVxLaw
import Derived.Test.YtlambinleegdoaaZ13a
import Derived.KernelRfl
import Derived.Test.YtlambinleegdoaaVxBits
noncomputable section
namespace Go.Proofs.Ytlambinleegdoaa.Vx
open Go Go.RowKit
set_option linter.unusedVariables false
set_option linter.unusedSimpArgs false
set_option maxRecDepth 100000
set_option maxHeartbeats 0
theorem Imp.nd {α:Type}{T E x:Tree α}{c:Bool}(a:c=true→Imp T x.th)(b:c=false→Imp E x.el)(h:x.isNode=true:=by kernel_rfl)(e:x.cd=c:=by kernel_rfl):Imp (.node c T E) x:=.node h e a b
theorem Imp.lf {α:Type}{x:Tree α}{y:α}(h:x.sel=some y:=by kernel_rfl):Imp (.leaf y) x:=.leaf h
theorem Imp.pa {α:Type}{T x:Tree α}(l:List Nat)(a:Imp T (x.walk l))(h:x.okPath l=true:=by kernel_rfl):Imp T x:=.path l h a
theorem Imp.sT {α:Type}{T x:Tree α}(c:Bool)(a:Imp T x.th)(h:x.isNode=true:=by kernel_rfl)(e:x.cd=c:=by kernel_rfl)(k:c=true:=by simp[*]):Imp T x:=.pt h e k a
theorem Imp.sF {α:Type}{T x:Tree α}(c:Bool)(a:Imp T x.el)(h:x.isNode=true:=by kernel_rfl)(e:x.cd=c:=by kernel_rfl)(k:c=false:=by simp[*]):Imp T x:=.pf h e k a
abbrev ExB (ev:List Dat→Tree (Nat×List Dat)):Prop:= ∃f:List Dat→Option (Nat×List Dat),∀env,f env=(ev env).sel
theorem exB (ev:List Dat→Tree (Nat×List Dat)):ExB ev:=⟨fun env=>(ev env).sel,fun _=>rfl⟩
abbrev ExL (st:List Dat→Tree Step):Prop:= ∃f:List Dat→Option (Nat×List Dat),∀env,f env=a0b st FU env
theorem exL (st:List Dat→Tree Step):ExL st:=⟨a0b st FU,fun _=>rfl⟩
abbrev TI:Ty:=.int .i64
abbrev TL:Ty:=.int .u64
abbrev TC:Ty:=.pair (.int .u8) (.int .i64)
def wrN:PB:=.cells [.nilsl]
def wrO (b:Nat):PB:=.cells [.own b]
def inV (h:Nat):PV:=.agg [.int .u8 h,.int .i64 (h+1),.int .u64 (h+2),.int .u32 (h+3),.int .u32 (h+4),.imm TC (h+5)]
def inB (h:Nat):PB:=.cells [.int .u8 h,.int .i64 (h+1),.int .u64 (h+2),.int .u32 (h+3),.int .u32 (h+4),.imm TC (h+5)]
def ouV (h:Nat):PV:=.agg [.int .u8 h,.int .i64 (h+1),.int .i64 (h+2),.int .u64 (h+3),.int .u32 (h+4)]
def ouB (h:Nat):PB:=.cells [.int .u8 h,.int .i64 (h+1),.int .i64 (h+2),.int .u64 (h+3),.int .u32 (h+4)]
def stV (h:Nat):PV:=.agg [.int .u64 h,.int .u64 (h+1),.int .u64 (h+2),.arrd TB 64 (h+3),.int .u32 (h+4)]
def stB (h:Nat):PB:=.cells [.int .u64 h,.int .u64 (h+1),.int .u64 (h+2),.arrd TB 64 (h+3),.int .u32 (h+4)]
def loV (h:Nat):PV:=.agg [.int .i64 h,.int .i64 (h+1),.int .u64 (h+2),.int .u64 (h+3),.int .u64 (h+4),.arrd TB 64 (h+5),.int .u32 (h+6)]
def loB (h:Nat):PB:=.cells [.int .i64 h,.int .i64 (h+1),.int .u64 (h+2),.int .u64 (h+3),.int .u64 (h+4),.arrd TB 64 (h+5),.int .u32 (h+6)]
def liV (h:Nat):PV:=.agg [.int .u8 h,.int .u8 (h+1),.int .i64 (h+2),.int .i64 (h+3),.imm TB (h+4)]
def liB (h:Nat):PB:=.cells [.int .u8 h,.int .u8 (h+1),.int .i64 (h+2),.int .i64 (h+3),.imm TB (h+4)]
def lmV (h:Nat):PV:=.agg [.int .u8 h,.int .u8 (h+1),.int .i64 (h+2),.int .i64 (h+3),.str (h+4)]
def j3j (env:List Dat):Tree Step:=Lk.stepMC false LK y1c 72 3 ls0 (mkM 0 [] [(sh 22 [(0,.int .u64 0),(5,.own 0),(6,.int .i64 1)],[.arr TB 2])] [(5,TB)] [(.exit 0,sh 22 [(5,.own 0)],[.arr TB 0])] fun _=>none) env
theorem p3a:ExL j3j:=exL _
def o3h:=Classical.choose p3a
theorem p3l (env:List Dat):o3h env=a0b j3j FU env:=Classical.choose_spec p3a env
def n4t:MBox:=mkM 0 [] [(sh 22 [(0,.int .u64 0),(5,.own 0),(6,.int .i64 1)],[.arr TB 2])] [(5,TB)] [(.exit 0,sh 22 [(5,.own 0)],[.arr TB 0])] o3h
theorem j4f:n4t=mkM 0 [] [(sh 22 [(0,.int .u64 0),(5,.own 0),(6,.int .i64 1)],[.arr TB 2])] [(5,TB)] [(.exit 0,sh 22 [(5,.own 0)],[.arr TB 0])] (a0b j3j FU):=congrArg (fun f=>mkM 0 [] [(sh 22 [(0,.int .u64 0),(5,.own 0),(6,.int .i64 1)],[.arr TB 2])] [(5,TB)] [(.exit 0,sh 22 [(5,.own 0)],[.arr TB 0])] f) (funext p3l)
theorem k4s: ∀t s x,(a0h n4t t s).sel=some x→a0k Try.prog 0 (.loop (cAt Try.prog 72 3)) t s x:=by
 rw[j4f]
 exact a0o (st:=j3j) (m:=FU) c1e hmix false (LsOk.none _ _ _) (by kernel_rfl) (fun env y h=>by rw[←stepMC_lk];exact h)
def n3c:List Dat→Tree Step
 |[.n n0,.n n1,.l (Ty.int IntKind.u8) l2]=>
 (.node (decide (n1≥(0:Int)))
 (.node (!decide (IntKind.wrap .i64 ((8:Int)*n1)<(0:Int)))
 (.node (decide ((List.length l2+1)*1≤140737488355328))
 (.leaf (Step.go [.k 0,.n n0,.n (IntKind.wrap .i64 (n1-(1:Int))),.l TB (l2++[IntKind.wrap .u8 (ishr IntKind.u64 n0 (IntKind.wrap .i64 ((8:Int)*n1)))])]))
 (.bad 62))
 (.bad 83))
 (.leaf (Step.stop 0 [.l TB l2])))
 |_=>.bad 0
theorem m3v (n0:Int)(n1:Int)(l2:List (Ty.den TB)):Imp (n3c [.n n0,.n n1,.l TB l2]) (j3j [.k 0,.n n0,.n n1,.l TB l2]):=
(.pa [1]
(.nd (fun h0=>
(.nd (fun h1=>
(.nd (fun h2=>
(.pa [1]
.lf)) (fun h2=>
.none))) (fun h1=>
.none))) (fun h0=>
(.pa [1]
.lf))))
theorem m4y:LsOk Try.prog (List.length ([]:List PB)) (lsM [(3,n4t)] (List.length ([]:List PB))) (a0r Try.prog 72):=LsOk.many fun j B hB hk c hc hi=>by
 simp only[b0d]at hB
 split at hB
 ·rename_i e;have:=Nat.eq_of_beq_eq_true e;subst this;cases hB
  have e1:p0c Try.prog 72 3=[cAt Try.prog 72 3]:=a0e (by kernel_rfl)
  have e2:c∈p0c Try.prog 72 3:=a0d hc hi
  rw[e1]at e2;cases List.mem_singleton.1 e2;exact k4s
 cases hB
def ev_30 (env:List Dat):Tree (Nat×List Dat):=Lk.boxC false LK y1c 72 (lsM [(3,n4t)] (List.length ([]:List PB))) (mkF [.int .u64 0,.int .i64 1] [] [] [(.own 0,[.arr TB 0])] fun _=>none) env
theorem d4n:ExB ev_30:=exB _
def i3o:=Classical.choose d4n
theorem c4s (env:List Dat):i3o env=(ev_30 env).sel:=Classical.choose_spec d4n env
def B30:FBox:=mkF [.int .u64 0,.int .i64 1] [] [] [(.own 0,[.arr TB 0])] i3o
theorem B30_ok:a0v Try.prog 72 (a0j B30):=a0p (op:=i3o) c1e hmix false (m4y) (fun env x h=>by rw[c4s]at h;rw[←boxC_lk];exact h)
def j4u:List Dat→Tree (Nat×List Dat)
 |[.n n0,.n n1]=>
 (let r1:=(o3h [.k 0,.n n0,.n (IntKind.wrap .i64 (n1-(1:Int))),.l TB []]);
 (.node (isK 0 [.l TB] r1)
 (.leaf ((0,[.l TB (gl TB (dOf r1) 0)])))
 (.bad 351)))
 |_=>.bad 0
theorem f4v (n0:Int)(n1:Int):Imp (j4u [.n n0,.n n1]) (ev_30 [.n n0,.n n1]):=
(.nd (fun h0=>
(.pa [1]
.lf)) (fun h0=>
.none))
def e4u:FuncId→Option a0q:=a0s 72 B30 y1c
theorem m3d:CsOk Try.prog e4u:=a0g c1e B30_ok
def i3a (env:List Dat):Tree Step:=Lk.stepMC false LK e4u 100 1 ls0 (mkM 1 [0] [(sh 29 [(0,.ptr 0 0),(1,.int .u64 0),(2,.int .i64 1),(7,.int .i64 2),(8,.int .i64 3)],[wrN]),(sh 29 [(0,.ptr 0 0),(1,.int .u64 0),(2,.int .i64 1),(7,.int .i64 2),(8,.int .i64 3)],[wrO 1,.arr TB 4])] [] [(.exit 0,sh 29 [(0,.ptr 0 0)],[wrN]),(.exit 0,sh 29 [(0,.ptr 0 0)],[wrO 1,.arr TB 0])] fun _=>none) env
theorem n3q:ExL i3a:=exL _
def m3i:=Classical.choose n3q
theorem n3m (env:List Dat):m3i env=a0b i3a FU env:=Classical.choose_spec n3q env
def d4m:MBox:=mkM 1 [0] [(sh 29 [(0,.ptr 0 0),(1,.int .u64 0),(2,.int .i64 1),(7,.int .i64 2),(8,.int .i64 3)],[wrN]),(sh 29 [(0,.ptr 0 0),(1,.int .u64 0),(2,.int .i64 1),(7,.int .i64 2),(8,.int .i64 3)],[wrO 1,.arr TB 4])] [] [(.exit 0,sh 29 [(0,.ptr 0 0)],[wrN]),(.exit 0,sh 29 [(0,.ptr 0 0)],[wrO 1,.arr TB 0])] m3i
theorem e4k:d4m=mkM 1 [0] [(sh 29 [(0,.ptr 0 0),(1,.int .u64 0),(2,.int .i64 1),(7,.int .i64 2),(8,.int .i64 3)],[wrN]),(sh 29 [(0,.ptr 0 0),(1,.int .u64 0),(2,.int .i64 1),(7,.int .i64 2),(8,.int .i64 3)],[wrO 1,.arr TB 4])] [] [(.exit 0,sh 29 [(0,.ptr 0 0)],[wrN]),(.exit 0,sh 29 [(0,.ptr 0 0)],[wrO 1,.arr TB 0])] (a0b i3a FU):=congrArg (fun f=>mkM 1 [0] [(sh 29 [(0,.ptr 0 0),(1,.int .u64 0),(2,.int .i64 1),(7,.int .i64 2),(8,.int .i64 3)],[wrN]),(sh 29 [(0,.ptr 0 0),(1,.int .u64 0),(2,.int .i64 1),(7,.int .i64 2),(8,.int .i64 3)],[wrO 1,.arr TB 4])] [] [(.exit 0,sh 29 [(0,.ptr 0 0)],[wrN]),(.exit 0,sh 29 [(0,.ptr 0 0)],[wrO 1,.arr TB 0])] f) (funext n3m)
theorem f4q: ∀t s x,(a0h d4m t s).sel=some x→a0k Try.prog 1 (.loop (cAt Try.prog 100 1)) t s x:=by
 rw[e4k]
 exact a0o (st:=i3a) (m:=FU) m3d hmix false (LsOk.none _ _ _) (by kernel_rfl) (fun env y h=>by rw[←stepMC_lk];exact h)
def p3b:List Dat→Tree Step
 |[.n n0,.n n1,.n n2,.n n3]=>
 (.node (decide (n3<n2))
 (.node (!decide (IntKind.wrap .i64 ((8:Int)*IntKind.wrap .i64 (IntKind.wrap .i64 (n1-(1:Int))-n3))<(0:Int)))
 (.leaf (Step.go [.k 1,.n n0,.n n1,.n n2,.n (IntKind.wrap .i64 (n3+(1:Int))),.l TB [IntKind.wrap .u8 (ishr IntKind.u64 n0 (IntKind.wrap .i64 ((8:Int)*IntKind.wrap .i64 (IntKind.wrap .i64 (n1-(1:Int))-n3))))]]))
 (.bad 83))
 (.leaf (Step.stop 0 [])))
 |_=>.bad 0
theorem q3w (n0:Int)(n1:Int)(n2:Int)(n3:Int):Imp (p3b [.n n0,.n n1,.n n2,.n n3]) (i3a [.k 0,.n n0,.n n1,.n n2,.n n3]):=
(.pa [1]
(.nd (fun h0=>
(.nd (fun h1=>
(.pa [1,1,1]
.lf)) (fun h1=>
.none))) (fun h0=>
(.pa [1]
.lf))))
def l3i:List Dat→Tree Step
 |[.n n0,.n n1,.n n2,.n n3,.l (Ty.int IntKind.u8) l4]=>
 (.node (decide (n3<n2))
 (.node (!decide (IntKind.wrap .i64 ((8:Int)*IntKind.wrap .i64 (IntKind.wrap .i64 (n1-(1:Int))-n3))<(0:Int)))
 (.node (decide ((List.length l4+1)*1≤140737488355328))
 (.leaf (Step.go [.k 1,.n n0,.n n1,.n n2,.n (IntKind.wrap .i64 (n3+(1:Int))),.l TB (l4++[IntKind.wrap .u8 (ishr IntKind.u64 n0 (IntKind.wrap .i64 ((8:Int)*IntKind.wrap .i64 (IntKind.wrap .i64 (n1-(1:Int))-n3))))])]))
 (.bad 62))
 (.bad 83))
 (.leaf (Step.stop 1 [.l TB l4])))
 |_=>.bad 0
theorem k3r (n0:Int)(n1:Int)(n2:Int)(n3:Int)(l4:List (Ty.den TB)):Imp (l3i [.n n0,.n n1,.n n2,.n n3,.l TB l4]) (i3a [.k 1,.n n0,.n n1,.n n2,.n n3,.l TB l4]):=
(.pa [1]
(.nd (fun h0=>
(.nd (fun h1=>
(.nd (fun h2=>
(.pa [1,1]
.lf)) (fun h2=>
.none))) (fun h1=>
.none))) (fun h0=>
(.pa [1]
.lf))))
theorem j4p:LsOk Try.prog (List.length ([wrN]:List PB)) (lsM [(1,d4m)] (List.length ([wrN]:List PB))) (a0r Try.prog 100):=LsOk.many fun j B hB hk c hc hi=>by
 simp only[b0d]at hB
 split at hB
 ·rename_i e;have:=Nat.eq_of_beq_eq_true e;subst this;cases hB
  have e1:p0c Try.prog 100 1=[cAt Try.prog 100 1]:=a0e (by kernel_rfl)
  have e2:c∈p0c Try.prog 100 1:=a0d hc hi
  rw[e1]at e2;cases List.mem_singleton.1 e2;exact f4q
 cases hB
def i4a (env:List Dat):Tree (Nat×List Dat):=Lk.boxC false LK e4u 100 (lsM [(1,d4m)] (List.length ([wrN]:List PB))) (mkF [.ptr 0 0,.int .u64 0,.int .i64 1] [wrN] [0] [(.tup [],[wrN]),(.tup [],[wrO 1,.arr TB 0])] fun _=>none) env
theorem y3j:ExB i4a:=exB _
def k3u:=Classical.choose y3j
theorem u3x (env:List Dat):k3u env=(i4a env).sel:=Classical.choose_spec y3j env
def B35a:FBox:=mkF [.ptr 0 0,.int .u64 0,.int .i64 1] [wrN] [0] [(.tup [],[wrN]),(.tup [],[wrO 1,.arr TB 0])] k3u
theorem B35a_ok:a0v Try.prog 100 (a0j B35a):=a0p (op:=k3u) m3d hmix false (j4p) (fun env x h=>by rw[u3x]at h;rw[←boxC_lk];exact h)
def c4k:List Dat→Tree (Nat×List Dat)
 |[.n n0,.n n1]=>
 (let r1:=(m3i [.k 0,.n n0,.n n1,.n n1,.n (0:Int)]);
 (.node (isK 0 [] r1)
 (.leaf ((0,[])))
 (.node (isK 1 [.l TB] r1)
 (.leaf ((1,[.l TB (gl TB (dOf r1) 0)])))
 (.bad 351))))
 |_=>.bad 0
theorem z3y (n0:Int)(n1:Int):Imp (c4k [.n n0,.n n1]) (i4a [.n n0,.n n1]):=
(.nd (fun h0=>
(.pa [1]
.lf)) (fun h0=>
(.nd (fun h1=>
(.pa [1]
.lf)) (fun h1=>
.none))))
def i3q (env:List Dat):Tree Step:=Lk.stepMC false LK e4u 100 1 ls0 (mkM 2 [0,1] [(sh 29 [(0,.ptr 0 0),(1,.int .u64 0),(2,.int .i64 1),(7,.int .i64 2),(8,.int .i64 3)],[wrO 1,.arr TB 4])] [] [(.exit 0,sh 29 [(0,.ptr 0 0)],[wrO 1,.arr TB 0])] fun _=>none) env
theorem n3v:ExL i3q:=exL _
def m3l:=Classical.choose n3v
theorem n3u (env:List Dat):m3l env=a0b i3q FU env:=Classical.choose_spec n3v env
def d4g:MBox:=mkM 2 [0,1] [(sh 29 [(0,.ptr 0 0),(1,.int .u64 0),(2,.int .i64 1),(7,.int .i64 2),(8,.int .i64 3)],[wrO 1,.arr TB 4])] [] [(.exit 0,sh 29 [(0,.ptr 0 0)],[wrO 1,.arr TB 0])] m3l
theorem e4x:d4g=mkM 2 [0,1] [(sh 29 [(0,.ptr 0 0),(1,.int .u64 0),(2,.int .i64 1),(7,.int .i64 2),(8,.int .i64 3)],[wrO 1,.arr TB 4])] [] [(.exit 0,sh 29 [(0,.ptr 0 0)],[wrO 1,.arr TB 0])] (a0b i3q FU):=congrArg (fun f=>mkM 2 [0,1] [(sh 29 [(0,.ptr 0 0),(1,.int .u64 0),(2,.int .i64 1),(7,.int .i64 2),(8,.int .i64 3)],[wrO 1,.arr TB 4])] [] [(.exit 0,sh 29 [(0,.ptr 0 0)],[wrO 1,.arr TB 0])] f) (funext n3u)
theorem e4h: ∀t s x,(a0h d4g t s).sel=some x→a0k Try.prog 2 (.loop (cAt Try.prog 100 1)) t s x:=by
 rw[e4x]
 exact a0o (st:=i3q) (m:=FU) m3d hmix false (LsOk.none _ _ _) (by kernel_rfl) (fun env y h=>by rw[←stepMC_lk];exact h)
def l3c:List Dat→Tree Step
 |[.n n0,.n n1,.n n2,.n n3,.l (Ty.int IntKind.u8) l4]=>
 (.node (decide (n3<n2))
 (.node (!decide (IntKind.wrap .i64 ((8:Int)*IntKind.wrap .i64 (IntKind.wrap .i64 (n1-(1:Int))-n3))<(0:Int)))
 (.node (decide ((List.length l4+1)*1≤140737488355328))
 (.leaf (Step.go [.k 0,.n n0,.n n1,.n n2,.n (IntKind.wrap .i64 (n3+(1:Int))),.l TB (l4++[IntKind.wrap .u8 (ishr IntKind.u64 n0 (IntKind.wrap .i64 ((8:Int)*IntKind.wrap .i64 (IntKind.wrap .i64 (n1-(1:Int))-n3))))])]))
 (.bad 62))
 (.bad 83))
 (.leaf (Step.stop 0 [.l TB l4])))
 |_=>.bad 0
theorem k3v (n0:Int)(n1:Int)(n2:Int)(n3:Int)(l4:List (Ty.den TB)):Imp (l3c [.n n0,.n n1,.n n2,.n n3,.l TB l4]) (i3q [.k 0,.n n0,.n n1,.n n2,.n n3,.l TB l4]):=
(.pa [1]
(.nd (fun h0=>
(.nd (fun h1=>
(.nd (fun h2=>
(.pa [1,1]
.lf)) (fun h2=>
.none))) (fun h1=>
.none))) (fun h0=>
(.pa [1]
.lf))))
theorem i4h:LsOk Try.prog (List.length ([wrO 1,.arr TB 2]:List PB)) (lsM [(1,d4g)] (List.length ([wrO 1,.arr TB 2]:List PB))) (a0r Try.prog 100):=LsOk.many fun j B hB hk c hc hi=>by
 simp only[b0d]at hB
 split at hB
 ·rename_i e;have:=Nat.eq_of_beq_eq_true e;subst this;cases hB
  have e1:p0c Try.prog 100 1=[cAt Try.prog 100 1]:=a0e (by kernel_rfl)
  have e2:c∈p0c Try.prog 100 1:=a0d hc hi
  rw[e1]at e2;cases List.mem_singleton.1 e2;exact e4h
 cases hB
def h4t (env:List Dat):Tree (Nat×List Dat):=Lk.boxC false LK e4u 100 (lsM [(1,d4g)] (List.length ([wrO 1,.arr TB 2]:List PB))) (mkF [.ptr 0 0,.int .u64 0,.int .i64 1] [wrO 1,.arr TB 2] [0,1] [(.tup [],[wrO 1,.arr TB 0])] fun _=>none) env
theorem u3q:ExB h4t:=exB _
def h3t:=Classical.choose u3q
theorem u3z (env:List Dat):h3t env=(h4t env).sel:=Classical.choose_spec u3q env
def B35b:FBox:=mkF [.ptr 0 0,.int .u64 0,.int .i64 1] [wrO 1,.arr TB 2] [0,1] [(.tup [],[wrO 1,.arr TB 0])] h3t
theorem B35b_ok:a0v Try.prog 100 (a0j B35b):=a0p (op:=h3t) m3d hmix false (i4h) (fun env x h=>by rw[u3z]at h;rw[←boxC_lk];exact h)
def b4s:List Dat→Tree (Nat×List Dat)
 |[.n n0,.n n1,.l (Ty.int IntKind.u8) l2]=>
 (let r1:=(m3l [.k 0,.n n0,.n n1,.n n1,.n (0:Int),.l TB l2]);
 (.node (isK 0 [.l TB] r1)
 (.leaf ((0,[.l TB (gl TB (dOf r1) 0)])))
 (.bad 351)))
 |_=>.bad 0
theorem y3v (n0:Int)(n1:Int)(l2:List (Ty.den TB)):Imp (b4s [.n n0,.n n1,.l TB l2]) (h4t [.n n0,.n n1,.l TB l2]):=
(.nd (fun h0=>
(.pa [1]
.lf)) (fun h0=>
.none))
def b4v:FuncId→Option a0q:=e1c 100 [B35a,B35b] e4u
theorem q3k:CsOk Try.prog b4v:=h0a m3d fun B hB=>by
 simp only[List.mem_cons,List.not_mem_nil,or_false]at hB
 rcases hB with rfl|rfl
 ·exact B35a_ok
 ·exact B35b_ok
def i3n (env:List Dat):Tree Step:=Lk.stepMC false LK b4v 80 2 ls0 (mkM 0 [] [(sh 21 [(0,.int .i64 0),(7,.imm TI 1),(8,.int .i64 2),(9,.int .i64 3)],[])] [] [(.exit 0,sh 21 [],[]),(.ret,sh 21 [(4,.bool 0)],[])] fun _=>none) env
theorem q3r:ExL i3n:=exL _
def o3l:=Classical.choose q3r
theorem q3h (env:List Dat):o3l env=a0b i3n FU env:=Classical.choose_spec q3r env
def n4r:MBox:=mkM 0 [] [(sh 21 [(0,.int .i64 0),(7,.imm TI 1),(8,.int .i64 2),(9,.int .i64 3)],[])] [] [(.exit 0,sh 21 [],[]),(.ret,sh 21 [(4,.bool 0)],[])] o3l
theorem h4o:n4r=mkM 0 [] [(sh 21 [(0,.int .i64 0),(7,.imm TI 1),(8,.int .i64 2),(9,.int .i64 3)],[])] [] [(.exit 0,sh 21 [],[]),(.ret,sh 21 [(4,.bool 0)],[])] (a0b i3n FU):=congrArg (fun f=>mkM 0 [] [(sh 21 [(0,.int .i64 0),(7,.imm TI 1),(8,.int .i64 2),(9,.int .i64 3)],[])] [] [(.exit 0,sh 21 [],[]),(.ret,sh 21 [(4,.bool 0)],[])] f) (funext q3h)
theorem k4d: ∀t s x,(a0h n4r t s).sel=some x→a0k Try.prog 0 (.loop (cAt Try.prog 80 2)) t s x:=by
 rw[h4o]
 exact a0o (st:=i3n) (m:=FU) q3k hmix false (LsOk.none _ _ _) (by kernel_rfl) (fun env y h=>by rw[←stepMC_lk];exact h)
def j3q:List Dat→Tree Step
 |[.n n0,.l (Ty.int IntKind.i64) l1,.n n2,.n n3]=>
 (.node (decide (n3<n2))
 (.node (decide ((List.getD l1 (Int.toNat n3) (0:Int):Int)<(0:Int)))
 (.leaf (Step.stop 1 [.b false]))
 (.node (decide ((List.getD l1 (Int.toNat n3) (0:Int):Int)>n0))
 (.leaf (Step.stop 1 [.b false]))
 (.leaf (Step.go [.k 0,.n n0,.l TI l1,.n n2,.n (IntKind.wrap .i64 (n3+(1:Int)))]))))
 (.leaf (Step.stop 0 [])))
 |_=>.bad 0
theorem i3x (n0:Int)(l1:List (Ty.den TI))(n2:Int)(n3:Int)(g0:0≤n3)(g1:n2=(l1.length:Int)):Imp (j3q [.n n0,.l TI l1,.n n2,.n n3]) (i3n [.k 0,.n n0,.l TI l1,.n n2,.n n3]):=
(.pa [1]
(.nd (fun h0=>
(.pt (c:=(inR n3 (List.length l1))) (by kernel_rfl) (by kernel_rfl) (by(simp only[w64d,decide_eq_true_eq,decide_eq_false_iff_not,beq_iff_eq,beq_eq_false_iff_ne,bne_iff_ne,ne_eq,inR,Bool.and_eq_true,Bool.and_eq_false_iff,Bool.not_eq_true',Bool.not_eq_false',Bool.not_eq_eq_eq_not,Bool.not_true,Bool.not_false]at*;omega))
(.nd (fun h1=>
(.pa [1,1,1]
.lf)) (fun h1=>
(.nd (fun h2=>
(.pa [1]
.lf)) (fun h2=>
(.pa [1]
.lf))))))) (fun h0=>
(.pa [1]
.lf))))
theorem m4w:LsOk Try.prog (List.length ([]:List PB)) (lsM [(2,n4r)] (List.length ([]:List PB))) (a0r Try.prog 80):=LsOk.many fun j B hB hk c hc hi=>by
 simp only[b0d]at hB
 split at hB
 ·rename_i e;have:=Nat.eq_of_beq_eq_true e;subst this;cases hB
  have e1:p0c Try.prog 80 2=[cAt Try.prog 80 2]:=a0e (by kernel_rfl)
  have e2:c∈p0c Try.prog 80 2:=a0d hc hi
  rw[e1]at e2;cases List.mem_singleton.1 e2;exact k4d
 cases hB
def ev_80 (env:List Dat):Tree (Nat×List Dat):=Lk.boxC false LK b4v 80 (lsM [(2,n4r)] (List.length ([]:List PB))) (mkF [.int .i64 0,.imm TI 1] [] [] [(.bool 0,[])] fun _=>none) env
theorem d4p:ExB ev_80:=exB _
def q3o:=Classical.choose d4p
theorem c4i (env:List Dat):q3o env=(ev_80 env).sel:=Classical.choose_spec d4p env
def B80:FBox:=mkF [.int .i64 0,.imm TI 1] [] [] [(.bool 0,[])] q3o
theorem B80_ok:a0v Try.prog 80 (a0j B80):=a0p (op:=q3o) q3k hmix false (m4w) (fun env x h=>by rw[c4i]at h;rw[←boxC_lk];exact h)
def k4z:List Dat→Tree (Nat×List Dat)
 |[.n n0,.l (Ty.int IntKind.i64) l1]=>
 (let r1:=(o3l [.k 0,.n n0,.l TI l1,.n (↑(List.length l1):Int),.n (0:Int)]);
 (.node (isK 0 [] r1)
 (.leaf ((0,[.b true])))
 (.node (isK 1 [.b] r1)
 (.leaf ((0,[.b (gb (dOf r1) 0)])))
 (.bad 351))))
 |_=>.bad 0
theorem f4r (n0:Int)(l1:List (Ty.den TI)):Imp (k4z [.n n0,.l TI l1]) (ev_80 [.n n0,.l TI l1]):=
(.nd (fun h0=>
(.pa [1]
.lf)) (fun h0=>
(.nd (fun h1=>
(.pa [1]
.lf)) (fun h1=>
.none))))
def m4z:FuncId→Option a0q:=a0s 80 B80 b4v
theorem s3w:CsOk Try.prog m4z:=a0g q3k B80_ok
def j3i (env:List Dat):Tree Step:=Lk.stepMC false LK m4z 88 1 ls0 (mkM 3 [0,1,2] [(sh 16 [(0,.ptr 0 0),(6,.own 1),(7,.int .i64 0),(8,.int .i64 1)],[wrO 2,.arr TL 2,.arr TB 3])] [] [(.exit 0,sh 16 [(0,.ptr 0 0)],[wrO 2,.gone,.arr TB 0])] fun _=>none) env
theorem p3u:ExL j3i:=exL _
def o3g:=Classical.choose p3u
theorem q3d (env:List Dat):o3g env=a0b j3i FU env:=Classical.choose_spec p3u env
def n4v:MBox:=mkM 3 [0,1,2] [(sh 16 [(0,.ptr 0 0),(6,.own 1),(7,.int .i64 0),(8,.int .i64 1)],[wrO 2,.arr TL 2,.arr TB 3])] [] [(.exit 0,sh 16 [(0,.ptr 0 0)],[wrO 2,.gone,.arr TB 0])] o3g
theorem j4q:n4v=mkM 3 [0,1,2] [(sh 16 [(0,.ptr 0 0),(6,.own 1),(7,.int .i64 0),(8,.int .i64 1)],[wrO 2,.arr TL 2,.arr TB 3])] [] [(.exit 0,sh 16 [(0,.ptr 0 0)],[wrO 2,.gone,.arr TB 0])] (a0b j3i FU):=congrArg (fun f=>mkM 3 [0,1,2] [(sh 16 [(0,.ptr 0 0),(6,.own 1),(7,.int .i64 0),(8,.int .i64 1)],[wrO 2,.arr TL 2,.arr TB 3])] [] [(.exit 0,sh 16 [(0,.ptr 0 0)],[wrO 2,.gone,.arr TB 0])] f) (funext q3d)
theorem m4j: ∀t s x,(a0h n4v t s).sel=some x→a0k Try.prog 3 (.loop (cAt Try.prog 88 1)) t s x:=by
 rw[j4q]
 exact a0o (st:=j3i) (m:=FU) s3w hmix false (LsOk.none _ _ _) (by kernel_rfl) (fun env y h=>by rw[←stepMC_lk];exact h)
def n3a:List Dat→Tree Step
 |[.n n0,.n n1,.l (Ty.int IntKind.u64) l2,.l (Ty.int IntKind.u8) l3]=>
 (.node (decide (n1<n0))
 (let r1:=(h3t [.n (List.getD l2 (Int.toNat n1) (0:Int)),.n (8:Int),.l TB l3]);
 (.node (isK 0 [.l TB] r1)
 (.leaf (Step.go [.k 0,.n n0,.n (IntKind.wrap .i64 (n1+(1:Int))),.l TL l2,.l TB (gl TB (dOf r1) 0)]))
 (.bad 351)))
 (.leaf (Step.stop 0 [.l TB l3])))
 |_=>.bad 0
theorem l3u (n0:Int)(n1:Int)(l2:List (Ty.den TL))(l3:List (Ty.den TB))(g0:0≤n1)(g1:n0=(l2.length:Int)):Imp (n3a [.n n0,.n n1,.l TL l2,.l TB l3]) (j3i [.k 0,.n n0,.n n1,.l TL l2,.l TB l3]):=
(.pa [1]
(.nd (fun h0=>
(.pt (c:=(inR n1 (List.length l2))) (by kernel_rfl) (by kernel_rfl) (by(simp only[w64d,decide_eq_true_eq,decide_eq_false_iff_not,beq_iff_eq,beq_eq_false_iff_ne,bne_iff_ne,ne_eq,inR,Bool.and_eq_true,Bool.and_eq_false_iff,Bool.not_eq_true',Bool.not_eq_false',Bool.not_eq_eq_eq_not,Bool.not_true,Bool.not_false]at*;omega))
(.pa [1,1,0,0,0,0,1,1]
(.nd (fun h1=>
(.pa [1,0,1,1,1]
.lf)) (fun h1=>
.none))))) (fun h0=>
(.pa [1]
.lf))))
theorem n4n:LsOk Try.prog (List.length ([wrO 2,.arr TL 0,.arr TB 1]:List PB)) (lsM [(1,n4v)] (List.length ([wrO 2,.arr TL 0,.arr TB 1]:List PB))) (a0r Try.prog 88):=LsOk.many fun j B hB hk c hc hi=>by
 simp only[b0d]at hB
 split at hB
 ·rename_i e;have:=Nat.eq_of_beq_eq_true e;subst this;cases hB
  have e1:p0c Try.prog 88 1=[cAt Try.prog 88 1]:=a0e (by kernel_rfl)
  have e2:c∈p0c Try.prog 88 1:=a0d hc hi
  rw[e1]at e2;cases List.mem_singleton.1 e2;exact m4j
 cases hB
def ev_88 (env:List Dat):Tree (Nat×List Dat):=Lk.boxC false LK m4z 88 (lsM [(1,n4v)] (List.length ([wrO 2,.arr TL 0,.arr TB 1]:List PB))) (mkF [.ptr 0 0,.own 1] [wrO 2,.arr TL 0,.arr TB 1] [0,1,2] [(.tup [],[wrO 2,.gone,.arr TB 0])] fun _=>none) env
theorem c4l:ExB ev_88:=exB _
def p3d:=Classical.choose c4l
theorem d4l (env:List Dat):p3d env=(ev_88 env).sel:=Classical.choose_spec c4l env
def B88:FBox:=mkF [.ptr 0 0,.own 1] [wrO 2,.arr TL 0,.arr TB 1] [0,1,2] [(.tup [],[wrO 2,.gone,.arr TB 0])] p3d
theorem B88_ok:a0v Try.prog 88 (a0j B88):=a0p (op:=p3d) s3w hmix false (n4n) (fun env x h=>by rw[d4l]at h;rw[←boxC_lk];exact h)
def k4g:List Dat→Tree (Nat×List Dat)
 |[.l (Ty.int IntKind.u64) l0,.l (Ty.int IntKind.u8) l1]=>
 (let r1:=(o3g [.k 0,.n (↑(List.length l0):Int),.n (0:Int),.l TL l0,.l TB l1]);
 (.node (isK 0 [.l TB] r1)
 (.leaf ((0,[.l TB (gl TB (dOf r1) 0)])))
 (.bad 351)))
 |_=>.bad 0
theorem f4g (l0:List (Ty.den TL))(l1:List (Ty.den TB)):Imp (k4g [.l TL l0,.l TB l1]) (ev_88 [.l TL l0,.l TB l1]):=
(.nd (fun h0=>
(.pa [1]
.lf)) (fun h0=>
.none))
def n4h:FuncId→Option a0q:=e1c 88 [B88] m4z
theorem r3x:CsOk Try.prog n4h:=h0a s3w fun B hB=>by
 cases List.mem_singleton.1 hB
 exact B88_ok
def i3i (env:List Dat):Tree Step:=Lk.stepMC false LK n4h 46 2 ls0 (mkM 0 [] [(sh 40 [(1,.ptr 0 0),(7,.imm TC 0),(8,.int .i64 1),(9,.int .i64 2)],[inB 3])] [] [(.exit 0,sh 40 [(1,.ptr 0 0)],[inB 0]),(.ret,sh 40 [(2,.bool 0)],[])] fun _=>none) env
theorem o3x:ExL i3i:=exL _
def o3o:=Classical.choose o3x
theorem p3h (env:List Dat):o3o env=a0b i3i FU env:=Classical.choose_spec o3x env
def n4m:MBox:=mkM 0 [] [(sh 40 [(1,.ptr 0 0),(7,.imm TC 0),(8,.int .i64 1),(9,.int .i64 2)],[inB 3])] [] [(.exit 0,sh 40 [(1,.ptr 0 0)],[inB 0]),(.ret,sh 40 [(2,.bool 0)],[])] o3o
theorem g4g:n4m=mkM 0 [] [(sh 40 [(1,.ptr 0 0),(7,.imm TC 0),(8,.int .i64 1),(9,.int .i64 2)],[inB 3])] [] [(.exit 0,sh 40 [(1,.ptr 0 0)],[inB 0]),(.ret,sh 40 [(2,.bool 0)],[])] (a0b i3i FU):=congrArg (fun f=>mkM 0 [] [(sh 40 [(1,.ptr 0 0),(7,.imm TC 0),(8,.int .i64 1),(9,.int .i64 2)],[inB 3])] [] [(.exit 0,sh 40 [(1,.ptr 0 0)],[inB 0]),(.ret,sh 40 [(2,.bool 0)],[])] f) (funext p3h)
theorem l4n: ∀t s x,(a0h n4m t s).sel=some x→a0k Try.prog 0 (.loop (cAt Try.prog 46 2)) t s x:=by
 rw[g4g]
 exact a0o (st:=i3i) (m:=FU) r3x hmix false (LsOk.none _ _ _) (by kernel_rfl) (fun env y h=>by rw[←stepMC_lk];exact h)
def i3z:List Dat→Tree Step
 |[.l (Ty.pair (Ty.int IntKind.u8) (Ty.int IntKind.i64)) l0,.n n1,.n n2,.n n3,.n n4,.n n5,.n n6,.n n7,.l (Ty.pair (Ty.int IntKind.u8) (Ty.int IntKind.i64)) l8]=>
 (.node (decide (n2<n1))
 (.node (decide ((Prod.fst (List.getD l0 (Int.toNat n2) (Ty.dflt TC)):Int)<(1:Int)))
 (.leaf (Step.stop 1 [.b false]))
 (.node (decide ((Prod.fst (List.getD l0 (Int.toNat n2) (Ty.dflt TC)):Int)>(3:Int)))
 (.leaf (Step.stop 1 [.b false]))
 (let r1:=(q3o [.n (63:Int),.l TI [Prod.snd (List.getD l0 (Int.toNat n2) (Ty.dflt TC))]]);
 (.node (isK 0 [.b] r1)
 (.node (!gb (dOf r1) 0)
 (.leaf (Step.stop 1 [.b false]))
 (.leaf (Step.go [.k 0,.l TC l0,.n n1,.n (IntKind.wrap .i64 (n2+(1:Int))),.n n3,.n n4,.n n5,.n n6,.n n7,.l TC l0])))
 (.bad 351)))))
 (.leaf (Step.stop 0 [.n n3,.n n4,.n n5,.n n6,.n n7,.l TC l0])))
 |_=>.bad 0
theorem i3j (l0:List (Ty.den TC))(n1:Int)(n2:Int)(n3:Int)(n4:Int)(n5:Int)(n6:Int)(n7:Int)(l8:List (Ty.den TC))(g0:0≤n2)(g1:n1=(l0.length:Int)):Imp (i3z [.l TC l0,.n n1,.n n2,.n n3,.n n4,.n n5,.n n6,.n n7,.l TC l8]) (i3i [.k 0,.l TC l0,.n n1,.n n2,.n n3,.n n4,.n n5,.n n6,.n n7,.l TC l0]):=
(.pa [1]
(.nd (fun h0=>
(.pt (c:=(inR n2 (List.length l0))) (by kernel_rfl) (by kernel_rfl) (by(simp only[w64d,decide_eq_true_eq,decide_eq_false_iff_not,beq_iff_eq,beq_eq_false_iff_ne,bne_iff_ne,ne_eq,inR,Bool.and_eq_true,Bool.and_eq_false_iff,Bool.not_eq_true',Bool.not_eq_false',Bool.not_eq_eq_eq_not,Bool.not_true,Bool.not_false]at*;omega))
(.nd (fun h1=>
(.pa [1,1,1,1,1]
.lf)) (fun h1=>
(.nd (fun h2=>
(.pa [1,1,1]
.lf)) (fun h2=>
(.nd (fun h3=>
(.pa [1]
(.nd (fun h4=>
(.pa [1]
.lf)) (fun h4=>
(.pa [1]
.lf))))) (fun h3=>
.none)))))))) (fun h0=>
(.pa [1]
.lf))))
theorem q2o:LsOk Try.prog (List.length ([]:List PB)) (lsM [(2,n4m)] (List.length ([]:List PB))) (a0r Try.prog 46):=LsOk.many fun j B hB hk c hc hi=>by
 simp only[b0d]at hB
 split at hB
 ·rename_i e;have:=Nat.eq_of_beq_eq_true e;subst this;cases hB
  have e1:p0c Try.prog 46 2=[cAt Try.prog 46 2]:=a0e (by kernel_rfl)
  have e2:c∈p0c Try.prog 46 2:=a0d hc hi
  rw[e1]at e2;cases List.mem_singleton.1 e2;exact l4n
 cases hB
def ev_46 (env:List Dat):Tree (Nat×List Dat):=Lk.boxC false LK n4h 46 (lsM [(2,n4m)] (List.length ([]:List PB))) (mkF [inV 0] [] [] [(.bool 0,[])] fun _=>none) env
theorem d4i:ExB ev_46:=exB _
def q1w:=Classical.choose d4i
theorem a2n (env:List Dat):q1w env=(ev_46 env).sel:=Classical.choose_spec d4i env
def B46:FBox:=mkF [inV 0] [] [] [(.bool 0,[])] q1w
theorem B46_ok:a0v Try.prog 46 (a0j B46):=a0p (op:=q1w) r3x hmix false (q2o) (fun env x h=>by rw[a2n]at h;rw[←boxC_lk];exact h)
def i2f:List Dat→Tree (Nat×List Dat)
 |[.n n0,.n n1,.n n2,.n n3,.n n4,.l (Ty.pair (Ty.int IntKind.u8) (Ty.int IntKind.i64)) l5]=>
 (let r1:=(o3o [.k 0,.l TC l5,.n (↑(List.length l5):Int),.n (0:Int),.n n0,.n n1,.n n2,.n n3,.n n4,.l TC l5]);
 (.node (isK 0 [.n,.n,.n,.n,.n,.l TC] r1)
 (let r2:=(q3o [.n (1099511627776:Int),.l TI [gn (dOf r1) 1]]);
 (.node (isK 0 [.b] r2)
 (.node (gb (dOf r2) 0)
 (.leaf ((0,[.b (decide ((↑(List.length (gl TC (dOf r1) 5)):Int)≤(8:Int)))])))
 (.leaf ((0,[.b false]))))
 (.bad 351)))
 (.node (isK 1 [.b] r1)
 (.leaf ((0,[.b (gb (dOf r1) 0)])))
 (.bad 351))))
 |_=>.bad 0
theorem d2b (n0:Int)(n1:Int)(n2:Int)(n3:Int)(n4:Int)(l5:List (Ty.den TC)):Imp (i2f [.n n0,.n n1,.n n2,.n n3,.n n4,.l TC l5]) (ev_46 [.n n0,.n n1,.n n2,.n n3,.n n4,.l TC l5]):=
(.nd (fun h0=>
(.nd (fun h1=>
(.pa [1]
(.nd (fun h2=>
(.pa [1]
.lf)) (fun h2=>
(.pa [0,1]
.lf))))) (fun h1=>
.none))) (fun h0=>
(.nd (fun h1=>
(.pa [1]
.lf)) (fun h1=>
.none))))
def b2b:FuncId→Option a0q:=a0s 46 B46 n4h
theorem s0d:CsOk Try.prog b2b:=a0g r3x B46_ok
def j3n (env:List Dat):Tree Step:=Lk.stepMC false LK b2b 63 7 ls0 (mkM 2 [0,1] [(sh 54 [(0,.ptr 0 0),(38,.imm TC 0),(39,.int .i64 1),(40,.int .i64 2)],[wrO 1,.arr TB 3])] [] [(.exit 0,sh 54 [(0,.ptr 0 0)],[wrO 1,.arr TB 0])] fun _=>none) env
theorem p3g:ExL j3n:=exL _
def o3i:=Classical.choose p3g
theorem p3c (env:List Dat):o3i env=a0b j3n FU env:=Classical.choose_spec p3g env
def m4r:MBox:=mkM 2 [0,1] [(sh 54 [(0,.ptr 0 0),(38,.imm TC 0),(39,.int .i64 1),(40,.int .i64 2)],[wrO 1,.arr TB 3])] [] [(.exit 0,sh 54 [(0,.ptr 0 0)],[wrO 1,.arr TB 0])] o3i
theorem j4t:m4r=mkM 2 [0,1] [(sh 54 [(0,.ptr 0 0),(38,.imm TC 0),(39,.int .i64 1),(40,.int .i64 2)],[wrO 1,.arr TB 3])] [] [(.exit 0,sh 54 [(0,.ptr 0 0)],[wrO 1,.arr TB 0])] (a0b j3n FU):=congrArg (fun f=>mkM 2 [0,1] [(sh 54 [(0,.ptr 0 0),(38,.imm TC 0),(39,.int .i64 1),(40,.int .i64 2)],[wrO 1,.arr TB 3])] [] [(.exit 0,sh 54 [(0,.ptr 0 0)],[wrO 1,.arr TB 0])] f) (funext p3c)
theorem g4n: ∀t s x,(a0h m4r t s).sel=some x→a0k Try.prog 2 (.loop (cAt Try.prog 63 7)) t s x:=by
 rw[j4t]
 exact a0o (st:=j3n) (m:=FU) s0d hmix false (LsOk.none _ _ _) (by kernel_rfl) (fun env y h=>by rw[←stepMC_lk];exact h)
def n3d:List Dat→Tree Step
 |[.l (Ty.pair (Ty.int IntKind.u8) (Ty.int IntKind.i64)) l0,.n n1,.n n2,.l (Ty.int IntKind.u8) l3]=>
 (.node (decide (n2<n1))
 (let r1:=(h3t [.n (IntKind.wrap .u64 (Prod.fst (List.getD l0 (Int.toNat n2) (Ty.dflt TC)))),.n (1:Int),.l TB l3]);
 (.node (isK 0 [.l TB] r1)
 (let r2:=(h3t [.n (IntKind.wrap .u64 (IntKind.wrap .u8 (Prod.snd (List.getD l0 (Int.toNat n2) (Ty.dflt TC))))),.n (1:Int),.l TB (gl TB (dOf r1) 0)]);
 (.node (isK 0 [.l TB] r2)
 (.leaf (Step.go [.k 0,.l TC l0,.n n1,.n (IntKind.wrap .i64 (n2+(1:Int))),.l TB (gl TB (dOf r2) 0)]))
 (.bad 351)))
 (.bad 351)))
 (.leaf (Step.stop 0 [.l TB l3])))
 |_=>.bad 0
theorem m3o (l0:List (Ty.den TC))(n1:Int)(n2:Int)(l3:List (Ty.den TB))(g0:0≤n2)(g1:n1=(l0.length:Int)):Imp (n3d [.l TC l0,.n n1,.n n2,.l TB l3]) (j3n [.k 0,.l TC l0,.n n1,.n n2,.l TB l3]):=
(.pa [1]
(.nd (fun h0=>
(.pt (c:=(inR n2 (List.length l0))) (by kernel_rfl) (by kernel_rfl) (by(simp only[w64d,decide_eq_true_eq,decide_eq_false_iff_not,beq_iff_eq,beq_eq_false_iff_ne,bne_iff_ne,ne_eq,inR,Bool.and_eq_true,Bool.and_eq_false_iff,Bool.not_eq_true',Bool.not_eq_false',Bool.not_eq_eq_eq_not,Bool.not_true,Bool.not_false]at*;omega))
(.pa [1,1,0,1,1]
(.nd (fun h1=>
(.pa [1,0,0,0,0,1,1,1,1,0,1,1]
(.nd (fun h2=>
(.pa [1,0,0,0,0,1,1,1]
.lf)) (fun h2=>
.none)))) (fun h1=>
.none))))) (fun h0=>
(.pa [1]
.lf))))
theorem m4v:LsOk Try.prog (List.length ([wrO 1,.arr TB 6]:List PB)) (lsM [(7,m4r)] (List.length ([wrO 1,.arr TB 6]:List PB))) (a0r Try.prog 63):=LsOk.many fun j B hB hk c hc hi=>by
 simp only[b0d]at hB
 split at hB
 ·rename_i e;have:=Nat.eq_of_beq_eq_true e;subst this;cases hB
  have e1:p0c Try.prog 63 7=[cAt Try.prog 63 7]:=a0e (by kernel_rfl)
  have e2:c∈p0c Try.prog 63 7:=a0d hc hi
  rw[e1]at e2;cases List.mem_singleton.1 e2;exact g4n
 cases hB
def ev_63 (env:List Dat):Tree (Nat×List Dat):=Lk.boxC false LK b2b 63 (lsM [(7,m4r)] (List.length ([wrO 1,.arr TB 6]:List PB))) (mkF [.ptr 0 0,inV 0] [wrO 1,.arr TB 6] [0,1] [(.tup [],[wrO 1,.arr TB 0])] fun _=>none) env
theorem c4p:ExB ev_63:=exB _
def k4k:=Classical.choose c4p
theorem c4r (env:List Dat):k4k env=(ev_63 env).sel:=Classical.choose_spec c4p env
def B63:FBox:=mkF [.ptr 0 0,inV 0] [wrO 1,.arr TB 6] [0,1] [(.tup [],[wrO 1,.arr TB 0])] k4k
theorem B63_ok:a0v Try.prog 63 (a0j B63):=a0p (op:=k4k) s0d hmix false (m4v) (fun env x h=>by rw[c4r]at h;rw[←boxC_lk];exact h)
def h4f:List Dat→Tree (Nat×List Dat)
 |[.n n0,.n n1,.n n2,.n n3,.n n4,.l (Ty.pair (Ty.int IntKind.u8) (Ty.int IntKind.i64)) l5,.l (Ty.int IntKind.u8) l6]=>
 (let r1:=(h3t [.n (IntKind.wrap .u64 n0),.n (1:Int),.l TB l6]);
 (.node (isK 0 [.l TB] r1)
 (let r2:=(p3d [.l TL [IntKind.wrap .u64 n1,n2],.l TB (gl TB (dOf r1) 0)]);
 (.node (isK 0 [.l TB] r2)
 (let r3:=(h3t [.n (IntKind.wrap .u64 n3),.n (4:Int),.l TB (gl TB (dOf r2) 0)]);
 (.node (isK 0 [.l TB] r3)
 (let r4:=(h3t [.n (IntKind.wrap .u64 n4),.n (4:Int),.l TB (gl TB (dOf r3) 0)]);
 (.node (isK 0 [.l TB] r4)
 (let r5:=(h3t [.n (IntKind.wrap .u64 (IntKind.wrap .u8 (↑(List.length l5):Int))),.n (1:Int),.l TB (gl TB (dOf r4) 0)]);
 (.node (isK 0 [.l TB] r5)
 (let r6:=(o3i [.k 0,.l TC l5,.n (↑(List.length l5):Int),.n (0:Int),.l TB (gl TB (dOf r5) 0)]);
 (.node (isK 0 [.l TB] r6)
 (.leaf ((0,[.l TB (gl TB (dOf r6) 0)])))
 (.bad 351)))
 (.bad 351)))
 (.bad 351)))
 (.bad 351)))
 (.bad 351)))
 (.bad 351)))
 |_=>.bad 0
theorem f4d (n0:Int)(n1:Int)(n2:Int)(n3:Int)(n4:Int)(l5:List (Ty.den TC))(l6:List (Ty.den TB)):Imp (h4f [.n n0,.n n1,.n n2,.n n3,.n n4,.l TC l5,.l TB l6]) (ev_63 [.n n0,.n n1,.n n2,.n n3,.n n4,.l TC l5,.l TB l6]):=
(.pa [1,1,0,1,1]
(.nd (fun h0=>
(.pa [1,0,0,0,0,1,1,1]
(.nd (fun h1=>
(.pa [1,1,1,0,0,0,1,1]
(.nd (fun h2=>
(.pa [1,0,0,1,1,1,1,0,0,0,1,1]
(.nd (fun h3=>
(.pa [1,0,0,1,1,1,1,0,1,1]
(.nd (fun h4=>
(.pa [1,0,0,0,0,1,1]
(.nd (fun h5=>
(.pa [1]
.lf)) (fun h5=>
.none)))) (fun h4=>
.none)))) (fun h3=>
.none)))) (fun h2=>
.none)))) (fun h1=>
.none)))) (fun h0=>
.none)))
def cs_63:FuncId→Option a0q:=e1c 63 [B63] b2b
theorem d4h:CsOk Try.prog cs_63:=h0a s0d fun B hB=>by
 cases List.mem_singleton.1 hB
 exact B63_ok
def ev_60 (env:List Dat):Tree (Nat×List Dat):=Lk.boxC false LK cs_63 60 ls0 (mkF [liV 0] [] [] [(.bool 0,[])] fun _=>none) env
theorem d4r:ExB ev_60:=exB _
def j2c:=Classical.choose d4r
theorem v1v (env:List Dat):j2c env=(ev_60 env).sel:=Classical.choose_spec d4r env
def B60:FBox:=mkF [liV 0] [] [] [(.bool 0,[])] j2c
theorem B60_ok:a0v Try.prog 60 (a0j B60):=a0p (op:=j2c) d4h hmix false (LsOk.none _ _ _) (fun env x h=>by rw[v1v]at h;rw[←boxC_lk];exact h)
def l2c:List Dat→Tree (Nat×List Dat)
 |[.n n0,.n n1,.n n2,.n n3,.l (Ty.int IntKind.u8) l4]=>
 (let r1:=(q3o [.n (4611686018427387904:Int),.l TI [n2,n3]]);
 (.node (isK 0 [.b] r1)
 (.node (gb (dOf r1) 0)
 (.leaf ((0,[.b (decide ((↑(List.length l4):Int)≤(2048:Int)))])))
 (.leaf ((0,[.b false]))))
 (.bad 351)))
 |_=>.bad 0
theorem c2x (n0:Int)(n1:Int)(n2:Int)(n3:Int)(l4:List (Ty.den TB)):Imp (l2c [.n n0,.n n1,.n n2,.n n3,.l TB l4]) (ev_60 [.n n0,.n n1,.n n2,.n n3,.l TB l4]):=
(.nd (fun h0=>
(.pa [1]
(.nd (fun h1=>
(.pa [1]
.lf)) (fun h1=>
(.pa [0,1]
.lf))))) (fun h0=>
.none))
def cs_60:FuncId→Option a0q:=a0s 60 B60 cs_63
theorem t1w:CsOk Try.prog cs_60:=a0g d4h B60_ok
def ev_71 (env:List Dat):Tree (Nat×List Dat):=Lk.boxC false LK cs_60 71 ls0 (mkF [.ptr 0 0,liV 0] [wrO 1,.arr TB 5] [0,1] [(.tup [],[wrO 1,.arr TB 0])] fun _=>none) env
theorem d4t:ExB ev_71:=exB _
def i4x:=Classical.choose d4t
theorem b4x (env:List Dat):i4x env=(ev_71 env).sel:=Classical.choose_spec d4t env
def B71:FBox:=mkF [.ptr 0 0,liV 0] [wrO 1,.arr TB 5] [0,1] [(.tup [],[wrO 1,.arr TB 0])] i4x
theorem B71_ok:a0v Try.prog 71 (a0j B71):=a0p (op:=i4x) t1w hmix false (LsOk.none _ _ _) (fun env x h=>by rw[b4x]at h;rw[←boxC_lk];exact h)
def j4v:List Dat→Tree (Nat×List Dat)
 |[.n n0,.n n1,.n n2,.n n3,.l (Ty.int IntKind.u8) l4,.l (Ty.int IntKind.u8) l5]=>
 (let r1:=(h3t [.n (IntKind.wrap .u64 n0),.n (1:Int),.l TB l5]);
 (.node (isK 0 [.l TB] r1)
 (let r2:=(h3t [.n (IntKind.wrap .u64 n1),.n (1:Int),.l TB (gl TB (dOf r1) 0)]);
 (.node (isK 0 [.l TB] r2)
 (let r3:=(p3d [.l TL [IntKind.wrap .u64 n2,IntKind.wrap .u64 n3],.l TB (gl TB (dOf r2) 0)]);
 (.node (isK 0 [.l TB] r3)
 (let r4:=(h3t [.n (IntKind.wrap .u64 (IntKind.wrap .u16 (↑(List.length l4):Int))),.n (2:Int),.l TB (gl TB (dOf r3) 0)]);
 (.node (isK 0 [.l TB] r4)
 (.node (decide ((List.length (gl TB (dOf r4) 0)+List.length l4)*1≤140737488355328))
 (.leaf ((0,[.l TB (gl TB (dOf r4) 0++l4)])))
 (.bad 62))
 (.bad 351)))
 (.bad 351)))
 (.bad 351)))
 (.bad 351)))
 |_=>.bad 0
theorem e4o (n0:Int)(n1:Int)(n2:Int)(n3:Int)(l4:List (Ty.den TB))(l5:List (Ty.den TB)):Imp (j4v [.n n0,.n n1,.n n2,.n n3,.l TB l4,.l TB l5]) (ev_71 [.n n0,.n n1,.n n2,.n n3,.l TB l4,.l TB l5]):=
(.pa [1,1,0,1,1]
(.nd (fun h0=>
(.pa [1,0,0,0,0,1,1,1,1,0,1,1]
(.nd (fun h1=>
(.pa [1,0,0,0,0,1,1,1]
(.nd (fun h2=>
(.pa [1,1,1,0,0,1,1]
(.nd (fun h3=>
(.pa [1,0,0,0,1,1,1,1,0,0,0,0,0,1]
(.nd (fun h4=>
(.pa [1,1,1]
.lf)) (fun h4=>
.none)))) (fun h3=>
.none)))) (fun h2=>
.none)))) (fun h1=>
.none)))) (fun h0=>
.none)))
def cs_71:FuncId→Option a0q:=e1c 71 [B71] cs_60
theorem e4b:CsOk Try.prog cs_71:=h0a t1w fun B hB=>by
 cases List.mem_singleton.1 hB
 exact B71_ok
def ev_9p (env:List Dat):Tree (Nat×List Dat):=Lk.boxCN [(0,TB)] false LK cs_71 9 ls0 (mkF [inV 0] [] [] [(.own 0,[.arr TB 0])] fun _=>none) env
theorem c4b:ExB ev_9p:=exB _
def k3m:=Classical.choose c4b
theorem c4t (env:List Dat):k3m env=(ev_9p env).sel:=Classical.choose_spec c4b env
def B9p:FBox:=mkF [inV 0] [] [] [(.own 0,[.arr TB 0])] k3m
theorem i4t:a0v Try.prog 9 (a0j B9p):=j3p (nils:=[(0,TB)]) (op:=k3m) e4b hmix false (LsOk.none _ _ _) (fun env x h=>by rw[c4t]at h;rw[←boxCN_lk];exact h)
def g4w:List Dat→Tree (Nat×List Dat)
 |[.n n0,.n n1,.n n2,.n n3,.n n4,.l (Ty.pair (Ty.int IntKind.u8) (Ty.int IntKind.i64)) l5]=>
 (let r1:=(q1w [.n n0,.n n1,.n n2,.n n3,.n n4,.l TC l5]);
 (.node (isK 0 [.b] r1)
 (.node (gb (dOf r1) 0)
 (let r2:=(k3u [.n (1:Int),.n (1:Int)]);
 (.node (isK 0 [] r2)
 (.bad 340)
 (.node (isK 1 [.l TB] r2)
 (let r3:=(k4k [.n n0,.n n1,.n n2,.n n3,.n n4,.l TC l5,.l TB (gl TB (dOf r2) 0)]);
 (.node (isK 0 [.l TB] r3)
 (let r4:=(i2m [.l TB (gl TB (dOf r3) 0)]);
 (.node (isK 0 [.l TB] r4)
 (let r5:=(k3e [.l TB (gl TB (dOf r4) 0)]);
 (.node (isK 0 [.n] r5)
 (let r6:=(h3t [.n (IntKind.wrap .u64 (gn (dOf r5) 0)),.n (4:Int),.l TB (gl TB (dOf r3) 0)]);
 (.node (isK 0 [.l TB] r6)
 (let r7:=(i2m [.l TB (gl TB (dOf r6) 0)]);
 (.node (isK 0 [.l TB] r7)
 (.leaf ((0,[.l TB (gl TB (dOf r7) 0)])))
 (.bad 351)))
 (.bad 351)))
 (.bad 351)))
 (.bad 351)))
 (.bad 351)))
 (.bad 351))))
 (.leaf ((0,[.l TB []]))))
 (.bad 351)))
 |_=>.bad 0
theorem f4h (n0:Int)(n1:Int)(n2:Int)(n3:Int)(n4:Int)(l5:List (Ty.den TC)):Imp (g4w [.n n0,.n n1,.n n2,.n n3,.n n4,.l TC l5]) (ev_9p [.n n0,.n n1,.n n2,.n n3,.n n4,.l TC l5]):=
(.pa [1,1]
(.nd (fun h0=>
(.pa [1]
(.nd (fun h1=>
(.pa [1,1,1,0,1,1]
(.nd (fun h2=>
(.pa [1,0,0,0,0,1,1,1,1]
.none)) (fun h2=>
(.nd (fun h3=>
(.pa [1,0,0,0,0,1,1,1,1]
(.nd (fun h4=>
(.pa [1,1,1,0]
(.nd (fun h5=>
(.pa [1,1]
(.nd (fun h6=>
(.pa [1,1,1,0,0,0,1,1]
(.nd (fun h7=>
(.pa [1,0,0,1,1,1,0]
(.nd (fun h8=>
(.pa [1,1,1,1,1]
.lf)) (fun h8=>
.none)))) (fun h7=>
.none)))) (fun h6=>
.none)))) (fun h5=>
.none)))) (fun h4=>
.none)))) (fun h3=>
.none)))))) (fun h1=>
(.pa [0,0,0,0,0,0,0,0,0,0,1,1]
.lf))))) (fun h0=>
.none)))
def cs_9p:FuncId→Option a0q:=a0s 9 B9p cs_71
theorem b4p:CsOk Try.prog cs_9p:=a0g e4b i4t
def l4r (env:List Dat):Tree (Nat×List Dat):=Lk.boxCN [(0,TB)] false LK cs_9p 10 ls0 (mkF [ouV 0] [] [] [(.own 0,[.arr TB 0])] fun _=>none) env
theorem w3p:ExB l4r:=exB _
def i3w:=Classical.choose w3p
theorem w3r (env:List Dat):i3w env=(l4r env).sel:=Classical.choose_spec w3p env
def B10p:FBox:=mkF [ouV 0] [] [] [(.own 0,[.arr TB 0])] i3w
theorem a4o:a0v Try.prog 10 (a0j B10p):=j3p (nils:=[(0,TB)]) (op:=i3w) b4p hmix false (LsOk.none _ _ _) (fun env x h=>by rw[w3r]at h;rw[←boxCN_lk];exact h)
def e4f:List Dat→Tree (Nat×List Dat)
 |[.n n0,.n n1,.n n2,.n n3,.n n4]=>
 (let r1:=(q3o [.n (1099511627776:Int),.l TI [n1,n2]]);
 (.node (isK 0 [.b] r1)
 (.node (gb (dOf r1) 0)
 (let r2:=(k3u [.n (2:Int),.n (1:Int)]);
 (.node (isK 0 [] r2)
 (let r3:=(k3u [.n (IntKind.wrap .u64 n0),.n (1:Int)]);
 (.node (isK 0 [] r3)
 (.bad 340)
 (.node (isK 1 [.l TB] r3)
 (let r4:=(p3d [.l TL [IntKind.wrap .u64 n1,IntKind.wrap .u64 n2,n3],.l TB (gl TB (dOf r3) 0)]);
 (.node (isK 0 [.l TB] r4)
 (let r5:=(h3t [.n (IntKind.wrap .u64 n4),.n (4:Int),.l TB (gl TB (dOf r4) 0)]);
 (.node (isK 0 [.l TB] r5)
 (let r6:=(i2m [.l TB (gl TB (dOf r5) 0)]);
 (.node (isK 0 [.l TB] r6)
 (let r7:=(k3e [.l TB (gl TB (dOf r6) 0)]);
 (.node (isK 0 [.n] r7)
 (let r8:=(h3t [.n (IntKind.wrap .u64 (gn (dOf r7) 0)),.n (4:Int),.l TB (gl TB (dOf r5) 0)]);
 (.node (isK 0 [.l TB] r8)
 (let r9:=(i2m [.l TB (gl TB (dOf r8) 0)]);
 (.node (isK 0 [.l TB] r9)
 (.leaf ((0,[.l TB (gl TB (dOf r9) 0)])))
 (.bad 351)))
 (.bad 351)))
 (.bad 351)))
 (.bad 351)))
 (.bad 351)))
 (.bad 351)))
 (.bad 351))))
 (.node (isK 1 [.l TB] r2)
 (let r3:=(h3t [.n (IntKind.wrap .u64 n0),.n (1:Int),.l TB (gl TB (dOf r2) 0)]);
 (.node (isK 0 [.l TB] r3)
 (let r4:=(p3d [.l TL [IntKind.wrap .u64 n1,IntKind.wrap .u64 n2,n3],.l TB (gl TB (dOf r3) 0)]);
 (.node (isK 0 [.l TB] r4)
 (let r5:=(h3t [.n (IntKind.wrap .u64 n4),.n (4:Int),.l TB (gl TB (dOf r4) 0)]);
 (.node (isK 0 [.l TB] r5)
 (let r6:=(i2m [.l TB (gl TB (dOf r5) 0)]);
 (.node (isK 0 [.l TB] r6)
 (let r7:=(k3e [.l TB (gl TB (dOf r6) 0)]);
 (.node (isK 0 [.n] r7)
 (let r8:=(h3t [.n (IntKind.wrap .u64 (gn (dOf r7) 0)),.n (4:Int),.l TB (gl TB (dOf r5) 0)]);
 (.node (isK 0 [.l TB] r8)
 (let r9:=(i2m [.l TB (gl TB (dOf r8) 0)]);
 (.node (isK 0 [.l TB] r9)
 (.leaf ((0,[.l TB (gl TB (dOf r9) 0)])))
 (.bad 351)))
 (.bad 351)))
 (.bad 351)))
 (.bad 351)))
 (.bad 351)))
 (.bad 351)))
 (.bad 351)))
 (.bad 351))))
 (.leaf ((0,[.l TB []]))))
 (.bad 351)))
 |_=>.bad 0
theorem a4p (n0:Int)(n1:Int)(n2:Int)(n3:Int)(n4:Int):Imp (e4f [.n n0,.n n1,.n n2,.n n3,.n n4]) (l4r [.n n0,.n n1,.n n2,.n n3,.n n4]):=
(.pa [1,0,0,0,1,1]
(.nd (fun h0=>
(.pa [1,1]
(.nd (fun h1=>
(.pa [1,1,1,0,1,1]
(.nd (fun h2=>
(.pa [1,0,0,0,0,1,1,1,1,1,1,0,1,1]
(.nd (fun h3=>
(.pa [1,0,0,0,0,1,1,1]
.none)) (fun h3=>
(.nd (fun h4=>
(.pa [1,0,0,0,0,1,1,1]
(.nd (fun h5=>
(.pa [1,1,1,0,0,0,1,1]
(.nd (fun h6=>
(.pa [1,0,0,1,1,1,1,1,0]
(.nd (fun h7=>
(.pa [1,1]
(.nd (fun h8=>
(.pa [1,1,1,0,0,0,1,1]
(.nd (fun h9=>
(.pa [1,0,0,1,1,1,0]
(.nd (fun h10=>
(.pa [1,1,1,1,1]
.lf)) (fun h10=>
.none)))) (fun h9=>
.none)))) (fun h8=>
.none)))) (fun h7=>
.none)))) (fun h6=>
.none)))) (fun h5=>
.none)))) (fun h4=>
.none)))))) (fun h2=>
(.nd (fun h3=>
(.pa [1,0,0,0,0,1,1,1,1,1,1,0,1,1]
(.nd (fun h4=>
(.pa [1,0,0,0,0,1,1,1]
(.nd (fun h5=>
(.pa [1,1,1,0,0,0,1,1]
(.nd (fun h6=>
(.pa [1,0,0,1,1,1,1,1,0]
(.nd (fun h7=>
(.pa [1,1]
(.nd (fun h8=>
(.pa [1,1,1,0,0,0,1,1]
(.nd (fun h9=>
(.pa [1,0,0,1,1,1,0]
(.nd (fun h10=>
(.pa [1,1,1,1,1]
.lf)) (fun h10=>
.none)))) (fun h9=>
.none)))) (fun h8=>
.none)))) (fun h7=>
.none)))) (fun h6=>
.none)))) (fun h5=>
.none)))) (fun h4=>
.none)))) (fun h3=>
.none)))))) (fun h1=>
(.pa [0,0,0,0,0,0,0,1,1]
.lf))))) (fun h0=>
.none)))
def m4m:FuncId→Option a0q:=a0s 10 B10p cs_9p
theorem u3i:CsOk Try.prog m4m:=a0g b4p a4o
def m4k (env:List Dat):Tree (Nat×List Dat):=Lk.boxCN [(0,TB)] false LK m4m 11 ls0 (mkF [stV 0] [] [] [(.own 0,[.arr TB 0])] fun _=>none) env
theorem v3m:ExB m4k:=exB _
def j3d:=Classical.choose v3m
theorem w3m (env:List Dat):j3d env=(m4k env).sel:=Classical.choose_spec v3m env
def B11p:FBox:=mkF [stV 0] [] [] [(.own 0,[.arr TB 0])] j3d
theorem z3o:a0v Try.prog 11 (a0j B11p):=j3p (nils:=[(0,TB)]) (op:=j3d) u3i hmix false (LsOk.none _ _ _) (fun env x h=>by rw[w3m]at h;rw[←boxCN_lk];exact h)
def c4u:List Dat→Tree (Nat×List Dat)
 |[.n n0,.n n1,.n n2,.l (Ty.int IntKind.u8) l3,.n n4]=>
 (let r1:=(k3u [.n (3:Int),.n (1:Int)]);
 (.node (isK 0 [] r1)
 (.bad 340)
 (.node (isK 1 [.l TB] r1)
 (let r2:=(p3d [.l TL [n0,n1,n2],.l TB (gl TB (dOf r1) 0)]);
 (.node (isK 0 [.l TB] r2)
 (.node (decide ((List.length (gl TB (dOf r2) 0)+List.length l3)*1≤140737488355328))
 (let r3:=(h3t [.n (IntKind.wrap .u64 n4),.n (4:Int),.l TB (gl TB (dOf r2) 0++l3)]);
 (.node (isK 0 [.l TB] r3)
 (let r4:=(i2m [.l TB (gl TB (dOf r3) 0)]);
 (.node (isK 0 [.l TB] r4)
 (let r5:=(k3e [.l TB (gl TB (dOf r4) 0)]);
 (.node (isK 0 [.n] r5)
 (let r6:=(h3t [.n (IntKind.wrap .u64 (gn (dOf r5) 0)),.n (4:Int),.l TB (gl TB (dOf r3) 0)]);
 (.node (isK 0 [.l TB] r6)
 (let r7:=(i2m [.l TB (gl TB (dOf r6) 0)]);
 (.node (isK 0 [.l TB] r7)
 (.leaf ((0,[.l TB (gl TB (dOf r7) 0)])))
 (.bad 351)))
 (.bad 351)))
 (.bad 351)))
 (.bad 351)))
 (.bad 351)))
 (.bad 62))
 (.bad 351)))
 (.bad 351))))
 |_=>.bad 0
theorem z3j (n0:Int)(n1:Int)(n2:Int)(l3:List (Ty.den TB))(n4:Int)(g0:l3.length=64):Imp (c4u [.n n0,.n n1,.n n2,.l TB l3,.n n4]) (m4k [.n n0,.n n1,.n n2,.l TB l3,.n n4]):=
(.pa [1,0,0,0,0,0,0,1,1,1,1,0,1,1]
(.nd (fun h0=>
(.pa [1,0,0,0,0,1,1,1,1,1]
.none)) (fun h0=>
(.nd (fun h1=>
(.pa [1,0,0,0,0,1,1,1,1,1]
(.nd (fun h2=>
(.pa [1,1,1,1,0,0,0,0,0,1]
(.nd (fun h3=>
(.pa [1,1,1,1,0,0,0,1,1]
(.nd (fun h4=>
(.pa [1,0,0,1,1,1,1,1,0]
(.nd (fun h5=>
(.pa [1,1]
(.nd (fun h6=>
(.pa [1,1,1,0,0,0,1,1]
(.nd (fun h7=>
(.pa [1,0,0,1,1,1,0]
(.nd (fun h8=>
(.pa [1,1,1,1,1]
.lf)) (fun h8=>
.none)))) (fun h7=>
.none)))) (fun h6=>
.none)))) (fun h5=>
.none)))) (fun h4=>
.none)))) (fun h3=>
.none)))) (fun h2=>
.none)))) (fun h1=>
.none)))))
def g4h:FuncId→Option a0q:=a0s 11 B11p m4m
theorem t3i:CsOk Try.prog g4h:=a0g u3i z3o
def g4x (env:List Dat):Tree (Nat×List Dat):=Lk.boxCN [(0,TB)] false LK g4h 12 ls0 (mkF [loV 0] [] [] [(.own 0,[.arr TB 0])] fun _=>none) env
theorem y3n:ExB g4x:=exB _
def i3t:=Classical.choose y3n
theorem t3x (env:List Dat):i3t env=(g4x env).sel:=Classical.choose_spec y3n env
def B12p:FBox:=mkF [loV 0] [] [] [(.own 0,[.arr TB 0])] i3t
theorem a4z:a0v Try.prog 12 (a0j B12p):=j3p (nils:=[(0,TB)]) (op:=i3t) t3i hmix false (LsOk.none _ _ _) (fun env x h=>by rw[t3x]at h;rw[←boxCN_lk];exact h)
def d4z:List Dat→Tree (Nat×List Dat)
 |[.n n0,.n n1,.n n2,.n n3,.n n4,.l (Ty.int IntKind.u8) l5,.n n6]=>
 (let r1:=(q3o [.n (1099511627776:Int),.l TI [n0,n1]]);
 (.node (isK 0 [.b] r1)
 (.node (gb (dOf r1) 0)
 (let r2:=(k3u [.n (4:Int),.n (1:Int)]);
 (.node (isK 0 [] r2)
 (.bad 340)
 (.node (isK 1 [.l TB] r2)
 (let r3:=(p3d [.l TL [IntKind.wrap .u64 n0,IntKind.wrap .u64 n1],.l TB (gl TB (dOf r2) 0)]);
 (.node (isK 0 [.l TB] r3)
 (let r4:=(p3d [.l TL [n2,n3,n4],.l TB (gl TB (dOf r3) 0)]);
 (.node (isK 0 [.l TB] r4)
 (.node (decide ((List.length (gl TB (dOf r4) 0)+List.length l5)*1≤140737488355328))
 (let r5:=(h3t [.n (IntKind.wrap .u64 n6),.n (4:Int),.l TB (gl TB (dOf r4) 0++l5)]);
 (.node (isK 0 [.l TB] r5)
 (let r6:=(i2m [.l TB (gl TB (dOf r5) 0)]);
 (.node (isK 0 [.l TB] r6)
 (let r7:=(k3e [.l TB (gl TB (dOf r6) 0)]);
 (.node (isK 0 [.n] r7)
 (let r8:=(h3t [.n (IntKind.wrap .u64 (gn (dOf r7) 0)),.n (4:Int),.l TB (gl TB (dOf r5) 0)]);
 (.node (isK 0 [.l TB] r8)
 (let r9:=(i2m [.l TB (gl TB (dOf r8) 0)]);
 (.node (isK 0 [.l TB] r9)
 (.leaf ((0,[.l TB (gl TB (dOf r9) 0)])))
 (.bad 351)))
 (.bad 351)))
 (.bad 351)))
 (.bad 351)))
 (.bad 351)))
 (.bad 62))
 (.bad 351)))
 (.bad 351)))
 (.bad 351))))
 (.leaf ((0,[.l TB []]))))
 (.bad 351)))
 |_=>.bad 0
theorem a4i (n0:Int)(n1:Int)(n2:Int)(n3:Int)(n4:Int)(l5:List (Ty.den TB))(n6:Int)(g0:l5.length=64):Imp (d4z [.n n0,.n n1,.n n2,.n n3,.n n4,.l TB l5,.n n6]) (g4x [.n n0,.n n1,.n n2,.n n3,.n n4,.l TB l5,.n n6]):=
(.pa [1,0,0,0,0,0,0,0,1,1]
(.nd (fun h0=>
(.pa [1,1]
(.nd (fun h1=>
(.pa [1,1,1,0,1,1]
(.nd (fun h2=>
(.pa [1,0,0,0,0,1,1,1,1,1]
.none)) (fun h2=>
(.nd (fun h3=>
(.pa [1,0,0,0,0,1,1,1,1,1]
(.nd (fun h4=>
(.pa [1,1,1]
(.nd (fun h5=>
(.pa [1,1,1,1,0,0,0,0,0,1]
(.nd (fun h6=>
(.pa [1,1,1,1,0,0,0,1,1]
(.nd (fun h7=>
(.pa [1,0,0,1,1,1,1,1,1,0]
(.nd (fun h8=>
(.pa [1,1]
(.nd (fun h9=>
(.pa [1,1,1,0,0,0,1,1]
(.nd (fun h10=>
(.pa [1,0,0,1,1,1,0]
(.nd (fun h11=>
(.pa [1,1,1,1,1]
.lf)) (fun h11=>
.none)))) (fun h10=>
.none)))) (fun h9=>
.none)))) (fun h8=>
.none)))) (fun h7=>
.none)))) (fun h6=>
.none)))) (fun h5=>
.none)))) (fun h4=>
.none)))) (fun h3=>
.none)))))) (fun h1=>
(.pa [0,0,0,1,1]
.lf))))) (fun h0=>
.none)))
def g4r:FuncId→Option a0q:=a0s 12 B12p g4h
theorem y3k:CsOk Try.prog g4r:=a0g t3i a4z
def i4q (env:List Dat):Tree (Nat×List Dat):=Lk.boxCN [(0,TB)] false LK g4r 13 ls0 (mkF [liV 0] [] [] [(.own 0,[.arr TB 0])] fun _=>none) env
theorem x3m:ExB i4q:=exB _
def i3u:=Classical.choose x3m
theorem u3k (env:List Dat):i3u env=(i4q env).sel:=Classical.choose_spec x3m env
def B13p:FBox:=mkF [liV 0] [] [] [(.own 0,[.arr TB 0])] i3u
theorem a4t:a0v Try.prog 13 (a0j B13p):=j3p (nils:=[(0,TB)]) (op:=i3u) y3k hmix false (LsOk.none _ _ _) (fun env x h=>by rw[u3k]at h;rw[←boxCN_lk];exact h)
def b4o:List Dat→Tree (Nat×List Dat)
 |[.n n0,.n n1,.n n2,.n n3,.l (Ty.int IntKind.u8) l4]=>
 (let r1:=(j2c [.n n0,.n n1,.n n2,.n n3,.l TB l4]);
 (.node (isK 0 [.b] r1)
 (.node (gb (dOf r1) 0)
 (let r2:=(k3u [.n (5:Int),.n (1:Int)]);
 (.node (isK 0 [] r2)
 (.bad 340)
 (.node (isK 1 [.l TB] r2)
 (let r3:=(i4x [.n n0,.n n1,.n n2,.n n3,.l TB l4,.l TB (gl TB (dOf r2) 0)]);
 (.node (isK 0 [.l TB] r3)
 (let r4:=(i2m [.l TB (gl TB (dOf r3) 0)]);
 (.node (isK 0 [.l TB] r4)
 (let r5:=(k3e [.l TB (gl TB (dOf r4) 0)]);
 (.node (isK 0 [.n] r5)
 (let r6:=(h3t [.n (IntKind.wrap .u64 (gn (dOf r5) 0)),.n (4:Int),.l TB (gl TB (dOf r3) 0)]);
 (.node (isK 0 [.l TB] r6)
 (let r7:=(i2m [.l TB (gl TB (dOf r6) 0)]);
 (.node (isK 0 [.l TB] r7)
 (.leaf ((0,[.l TB (gl TB (dOf r7) 0)])))
 (.bad 351)))
 (.bad 351)))
 (.bad 351)))
 (.bad 351)))
 (.bad 351)))
 (.bad 351))))
 (.leaf ((0,[.l TB []]))))
 (.bad 351)))
 |_=>.bad 0
theorem b4c (n0:Int)(n1:Int)(n2:Int)(n3:Int)(l4:List (Ty.den TB)):Imp (b4o [.n n0,.n n1,.n n2,.n n3,.l TB l4]) (i4q [.n n0,.n n1,.n n2,.n n3,.l TB l4]):=
(.pa [1,0,0,0,0,0,0,0,0,0,0,1]
(.nd (fun h0=>
(.pa [1]
(.nd (fun h1=>
(.pa [1,1,1,0,1,1]
(.nd (fun h2=>
(.pa [1,0,0,0,0,1,1,1,1]
.none)) (fun h2=>
(.nd (fun h3=>
(.pa [1,0,0,0,0,1,1,1,1]
(.nd (fun h4=>
(.pa [1,1,1,0]
(.nd (fun h5=>
(.pa [1,1]
(.nd (fun h6=>
(.pa [1,1,1,0,0,0,1,1]
(.nd (fun h7=>
(.pa [1,0,0,1,1,1,0]
(.nd (fun h8=>
(.pa [1,1,1,1,1]
.lf)) (fun h8=>
.none)))) (fun h7=>
.none)))) (fun h6=>
.none)))) (fun h5=>
.none)))) (fun h4=>
.none)))) (fun h3=>
.none)))))) (fun h1=>
(.pa [1,1]
.lf))))) (fun h0=>
.none)))
def b4z:FuncId→Option a0q:=a0s 13 B13p g4r
theorem q3m:CsOk Try.prog b4z:=a0g y3k a4t
def j3h (env:List Dat):Tree Step:=Lk.stepMC false LK b4z 43 5 ls0 (mkM 0 [] [(sh 35 [(1,.ptr 0 0),(3,.own 1),(4,.int .i64 0)],[stB 1,.arr TB 6])] [] [(.exit 0,sh 35 [(1,.ptr 0 0),(3,.own 1)],[stB 0,.arr TB 5])] fun _=>none) env
theorem p3o:ExL j3h:=exL _
def o3j:=Classical.choose p3o
theorem p3q (env:List Dat):o3j env=a0b j3h FU env:=Classical.choose_spec p3o env
def n4z:MBox:=mkM 0 [] [(sh 35 [(1,.ptr 0 0),(3,.own 1),(4,.int .i64 0)],[stB 1,.arr TB 6])] [] [(.exit 0,sh 35 [(1,.ptr 0 0),(3,.own 1)],[stB 0,.arr TB 5])] o3j
theorem i4j:n4z=mkM 0 [] [(sh 35 [(1,.ptr 0 0),(3,.own 1),(4,.int .i64 0)],[stB 1,.arr TB 6])] [] [(.exit 0,sh 35 [(1,.ptr 0 0),(3,.own 1)],[stB 0,.arr TB 5])] (a0b j3h FU):=congrArg (fun f=>mkM 0 [] [(sh 35 [(1,.ptr 0 0),(3,.own 1),(4,.int .i64 0)],[stB 1,.arr TB 6])] [] [(.exit 0,sh 35 [(1,.ptr 0 0),(3,.own 1)],[stB 0,.arr TB 5])] f) (funext p3q)
theorem g4v: ∀t s x,(a0h n4z t s).sel=some x→a0k Try.prog 0 (.loop (cAt Try.prog 43 5)) t s x:=by
 rw[i4j]
 exact a0o (st:=j3h) (m:=FU) q3m hmix false (LsOk.none _ _ _) (by kernel_rfl) (fun env y h=>by rw[←stepMC_lk];exact h)
def n3f:List Dat→Tree Step
 |[.n n0,.n n1,.n n2,.n n3,.l (Ty.int IntKind.u8) l4,.n n5,.l (Ty.int IntKind.u8) l6]=>
 (.node (decide (n0<(64:Int)))
 (.node (decide ((List.length l6+1)*1≤140737488355328))
 (.leaf (Step.go [.k 0,.n (IntKind.wrap .i64 (n0+(1:Int))),.n n1,.n n2,.n n3,.l TB l4,.n n5,.l TB (l6++[List.getD l4 (Int.toNat n0) (0:Int)])]))
 (.bad 62))
 (.leaf (Step.stop 0 [.n n1,.n n2,.n n3,.l TB l4,.n n5,.l TB l6])))
 |_=>.bad 0
theorem m3f (n0:Int)(n1:Int)(n2:Int)(n3:Int)(l4:List (Ty.den TB))(n5:Int)(l6:List (Ty.den TB))(g0:l4.length=64)(g1:0≤n0):Imp (n3f [.n n0,.n n1,.n n2,.n n3,.l TB l4,.n n5,.l TB l6]) (j3h [.k 0,.n n0,.n n1,.n n2,.n n3,.l TB l4,.n n5,.l TB l6]):=
(.pa [1]
(.nd (fun h0=>
(.pt (c:=(inR n0 64)) (by kernel_rfl) (by kernel_rfl) (by(simp only[w64d,decide_eq_true_eq,decide_eq_false_iff_not,beq_iff_eq,beq_eq_false_iff_ne,bne_iff_ne,ne_eq,inR,Bool.and_eq_true,Bool.and_eq_false_iff,Bool.not_eq_true',Bool.not_eq_false',Bool.not_eq_eq_eq_not,Bool.not_true,Bool.not_false]at*;omega))
(.nd (fun h1=>
(.pa [1]
.lf)) (fun h1=>
.none)))) (fun h0=>
(.pa [1]
.lf))))
theorem v2x:LsOk Try.prog (List.length ([]:List PB)) (lsM [(5,n4z)] (List.length ([]:List PB))) (a0r Try.prog 43):=LsOk.many fun j B hB hk c hc hi=>by
 simp only[b0d]at hB
 split at hB
 ·rename_i e;have:=Nat.eq_of_beq_eq_true e;subst this;cases hB
  have e1:p0c Try.prog 43 5=[cAt Try.prog 43 5]:=a0e (by kernel_rfl)
  have e2:c∈p0c Try.prog 43 5:=a0d hc hi
  rw[e1]at e2;cases List.mem_singleton.1 e2;exact g4v
 cases hB
def ev_43 (env:List Dat):Tree (Nat×List Dat):=Lk.boxC false LK b4z 43 (lsM [(5,n4z)] (List.length ([]:List PB))) (mkF [stV 0] [] [] [(.own 0,[.arr TB 0])] fun _=>none) env
theorem c4f:ExB ev_43:=exB _
def c2l:=Classical.choose c4f
theorem h1q (env:List Dat):c2l env=(ev_43 env).sel:=Classical.choose_spec c4f env
def B43:FBox:=mkF [stV 0] [] [] [(.own 0,[.arr TB 0])] c2l
theorem B43_ok:a0v Try.prog 43 (a0j B43):=a0p (op:=c2l) q3m hmix false (v2x) (fun env x h=>by rw[h1q]at h;rw[←boxC_lk];exact h)
def q1q:List Dat→Tree (Nat×List Dat)
 |[.n n0,.n n1,.n n2,.l (Ty.int IntKind.u8) l3,.n n4]=>
 (let r1:=(i3o [.n n0,.n (8:Int)]);
 (.node (isK 0 [.l TB] r1)
 (let r2:=(i3o [.n n1,.n (8:Int)]);
 (.node (isK 0 [.l TB] r2)
 (.node (decide ((List.length (gl TB (dOf r1) 0)+List.length (gl TB (dOf r2) 0))*1≤140737488355328))
 (let r3:=(i3o [.n n2,.n (8:Int)]);
 (.node (isK 0 [.l TB] r3)
 (.node (decide ((List.length (gl TB (dOf r1) 0++gl TB (dOf r2) 0)+List.length (gl TB (dOf r3) 0))*1≤140737488355328))
 (let r4:=(o3j [.k 0,.n (0:Int),.n n0,.n n1,.n n2,.l TB l3,.n n4,.l TB (gl TB (dOf r1) 0++gl TB (dOf r2) 0++gl TB (dOf r3) 0)]);
 (.node (isK 0 [.n,.n,.n,.l TB,.n,.l TB] r4)
 (let r5:=(i3o [.n (IntKind.wrap .u64 (gn (dOf r4) 4)),.n (4:Int)]);
 (.node (isK 0 [.l TB] r5)
 (.node (decide ((List.length (gl TB (dOf r4) 5)+List.length (gl TB (dOf r5) 0))*1≤140737488355328))
 (.leaf ((0,[.l TB (gl TB (dOf r4) 5++gl TB (dOf r5) 0)])))
 (.bad 62))
 (.bad 351)))
 (.bad 351)))
 (.bad 62))
 (.bad 351)))
 (.bad 62))
 (.bad 351)))
 (.bad 351)))
 |_=>.bad 0
theorem f1j (n0:Int)(n1:Int)(n2:Int)(l3:List (Ty.den TB))(n4:Int)(g0:l3.length=64):Imp (q1q [.n n0,.n n1,.n n2,.l TB l3,.n n4]) (ev_43 [.n n0,.n n1,.n n2,.l TB l3,.n n4]):=
(.pa [1]
(.nd (fun h0=>
(.pa [1,1,1]
(.nd (fun h1=>
(.pa [1,1]
(.nd (fun h2=>
(.pa [1]
(.nd (fun h3=>
(.pa [1,1]
(.nd (fun h4=>
(.nd (fun h5=>
(.pa [1]
(.nd (fun h6=>
(.pa [1,1]
(.nd (fun h7=>
(.pa [1]
.lf)) (fun h7=>
.none)))) (fun h6=>
.none)))) (fun h5=>
.none))) (fun h4=>
.none)))) (fun h3=>
.none)))) (fun h2=>
.none)))) (fun h1=>
.none)))) (fun h0=>
.none)))
def s2x:FuncId→Option a0q:=a0s 43 B43 b4z
theorem i1z:CsOk Try.prog s2x:=a0g q3m B43_ok
def h3o (env:List Dat):Tree Step:=Lk.stepMC false LK s2x 14 10 ls0 (mkM 0 [] [(sh 96 [(1,.ptr 0 0),(3,.own 1),(4,.int .i64 0)],[inB 1,.arr TB 7])] [] [(.exit 0,sh 96 [(3,.own 0)],[.arr TB 0]),(.ret,sh 96 [(2,.nilsl)],[])] fun _=>none) env
theorem m3e:ExL h3o:=exL _
def k3k:=Classical.choose m3e
theorem l3v (env:List Dat):k3k env=a0b h3o FU env:=Classical.choose_spec m3e env
def s3l:MBox:=mkM 0 [] [(sh 96 [(1,.ptr 0 0),(3,.own 1),(4,.int .i64 0)],[inB 1,.arr TB 7])] [] [(.exit 0,sh 96 [(3,.own 0)],[.arr TB 0]),(.ret,sh 96 [(2,.nilsl)],[])] k3k
theorem z3v:s3l=mkM 0 [] [(sh 96 [(1,.ptr 0 0),(3,.own 1),(4,.int .i64 0)],[inB 1,.arr TB 7])] [] [(.exit 0,sh 96 [(3,.own 0)],[.arr TB 0]),(.ret,sh 96 [(2,.nilsl)],[])] (a0b h3o FU):=congrArg (fun f=>mkM 0 [] [(sh 96 [(1,.ptr 0 0),(3,.own 1),(4,.int .i64 0)],[inB 1,.arr TB 7])] [] [(.exit 0,sh 96 [(3,.own 0)],[.arr TB 0]),(.ret,sh 96 [(2,.nilsl)],[])] f) (funext l3v)
theorem a4a: ∀t s x,(a0h s3l t s).sel=some x→a0k Try.prog 0 (.loop (cAt Try.prog 14 10)) t s x:=by
 rw[z3v]
 exact a0o (st:=h3o) (m:=FU) i1z hmix false (LsOk.none _ _ _) (by kernel_rfl) (fun env y h=>by rw[←stepMC_lk];exact h)
def h3v:List Dat→Tree Step
 |[.n n0,.n n1,.n n2,.n n3,.n n4,.n n5,.l (Ty.pair (Ty.int IntKind.u8) (Ty.int IntKind.i64)) l6,.l (Ty.int IntKind.u8) l7]=>
 (.node (decide (n0<(↑(List.length l6):Int)))
 (.node (decide ((Prod.fst (List.getD l6 (Int.toNat n0) (Ty.dflt TC)):Int)<(1:Int)))
 (.leaf (Step.stop 1 []))
 (.node (decide ((Prod.fst (List.getD l6 (Int.toNat n0) (Ty.dflt TC)):Int)>(3:Int)))
 (.leaf (Step.stop 1 []))
 (.node (decide ((Prod.snd (List.getD l6 (Int.toNat n0) (Ty.dflt TC)):Int)<(0:Int)))
 (.leaf (Step.stop 1 []))
 (.node (decide ((Prod.snd (List.getD l6 (Int.toNat n0) (Ty.dflt TC)):Int)>(63:Int)))
 (.leaf (Step.stop 1 []))
 (.node (decide ((List.length l7+2)*1≤140737488355328))
 (.leaf (Step.go [.k 0,.n (IntKind.wrap .i64 (n0+(1:Int))),.n n1,.n n2,.n n3,.n n4,.n n5,.l TC l6,.l TB (l7++[Prod.fst (List.getD l6 (Int.toNat n0) (Ty.dflt TC)),IntKind.wrap .u8 (Prod.snd (List.getD l6 (Int.toNat n0) (Ty.dflt TC)))])]))
 (.bad 62))))))
 (.leaf (Step.stop 0 [.l TB l7])))
 |_=>.bad 0
theorem h3r (n0:Int)(n1:Int)(n2:Int)(n3:Int)(n4:Int)(n5:Int)(l6:List (Ty.den TC))(l7:List (Ty.den TB))(g0:0≤n0):Imp (h3v [.n n0,.n n1,.n n2,.n n3,.n n4,.n n5,.l TC l6,.l TB l7]) (h3o [.k 0,.n n0,.n n1,.n n2,.n n3,.n n4,.n n5,.l TC l6,.l TB l7]):=
(.pa [1]
(.nd (fun h0=>
(.pt (c:=(inR n0 (List.length l6))) (by kernel_rfl) (by kernel_rfl) (by(simp only[w64d,decide_eq_true_eq,decide_eq_false_iff_not,beq_iff_eq,beq_eq_false_iff_ne,bne_iff_ne,ne_eq,inR,Bool.and_eq_true,Bool.and_eq_false_iff,Bool.not_eq_true',Bool.not_eq_false',Bool.not_eq_eq_eq_not,Bool.not_true,Bool.not_false]at*;omega))
(.nd (fun h1=>
(.pa [1,1,1,1,1,1,1]
.lf)) (fun h1=>
(.nd (fun h2=>
(.pa [1,1,1,1,1]
.lf)) (fun h2=>
(.nd (fun h3=>
(.pa [1,1,1]
.lf)) (fun h3=>
(.nd (fun h4=>
(.pa [1]
.lf)) (fun h4=>
(.nd (fun h5=>
(.pa [1]
.lf)) (fun h5=>
.none)))))))))))) (fun h0=>
(.pa [1]
.lf))))
theorem h4y:LsOk Try.prog (List.length ([]:List PB)) (lsM [(10,s3l)] (List.length ([]:List PB))) (a0r Try.prog 14):=LsOk.many fun j B hB hk c hc hi=>by
 simp only[b0d]at hB
 split at hB
 ·rename_i e;have:=Nat.eq_of_beq_eq_true e;subst this;cases hB
  have e1:p0c Try.prog 14 10=[cAt Try.prog 14 10]:=a0e (by kernel_rfl)
  have e2:c∈p0c Try.prog 14 10:=a0d hc hi
  rw[e1]at e2;cases List.mem_singleton.1 e2;exact a4a
 cases hB
def m4o (env:List Dat):Tree (Nat×List Dat):=Lk.boxCN [(0,TB)] false LK s2x 14 (lsM [(10,s3l)] (List.length ([]:List PB))) (mkF [inV 0] [] [] [(.own 0,[.arr TB 0])] fun _=>none) env
theorem x3i:ExB m4o:=exB _
def m3p:=Classical.choose x3i
theorem x3f (env:List Dat):m3p env=(m4o env).sel:=Classical.choose_spec x3i env
def B14p:FBox:=mkF [inV 0] [] [] [(.own 0,[.arr TB 0])] m3p
theorem B14p_ok:a0v Try.prog 14 (a0j B14p):=j3p (nils:=[(0,TB)]) (op:=m3p) i1z hmix false (h4y) (fun env x h=>by rw[x3f]at h;rw[←boxCN_lk];exact h)
def c4g:List Dat→Tree (Nat×List Dat)
 |[.n n0,.n n1,.n n2,.n n3,.n n4,.l (Ty.pair (Ty.int IntKind.u8) (Ty.int IntKind.i64)) l5]=>
 (.node (decide (n1≥(0:Int)))
 (.node (!decide (n1≤(1099511627776:Int)))
 (.leaf ((0,[.l TB []])))
 (.node (decide ((↑(List.length l5):Int)>(8:Int)))
 (.leaf ((0,[.l TB []])))
 (let r1:=(i3o [.n (IntKind.wrap .u64 n1),.n (8:Int)]);
 (.node (isK 0 [.l TB] r1)
 (.node (decide ((2+List.length (gl TB (dOf r1) 0))*1≤140737488355328))
 (let r2:=(i3o [.n n2,.n (8:Int)]);
 (.node (isK 0 [.l TB] r2)
 (.node (decide ((List.length (([(1:Int),n0]:List (Ty.den TB))++gl TB (dOf r1) 0)+List.length (gl TB (dOf r2) 0))*1≤140737488355328))
 (let r3:=(i3o [.n (IntKind.wrap .u64 n3),.n (4:Int)]);
 (.node (isK 0 [.l TB] r3)
 (.node (decide ((List.length (([(1:Int),n0]:List (Ty.den TB))++gl TB (dOf r1) 0++gl TB (dOf r2) 0)+List.length (gl TB (dOf r3) 0))*1≤140737488355328))
 (let r4:=(i3o [.n (IntKind.wrap .u64 n4),.n (4:Int)]);
 (.node (isK 0 [.l TB] r4)
 (.node (decide ((List.length (([(1:Int),n0]:List (Ty.den TB))++gl TB (dOf r1) 0++gl TB (dOf r2) 0++gl TB (dOf r3) 0)+List.length (gl TB (dOf r4) 0))*1≤140737488355328))
 (.node (decide ((List.length (([(1:Int),n0]:List (Ty.den TB))++gl TB (dOf r1) 0++gl TB (dOf r2) 0++gl TB (dOf r3) 0++gl TB (dOf r4) 0)+1)*1≤140737488355328))
 (let r5:=(k3k [.k 0,.n (0:Int),.n n0,.n n1,.n n2,.n n3,.n n4,.l TC l5,.l TB (([(1:Int),n0]:List (Ty.den TB))++gl TB (dOf r1) 0++gl TB (dOf r2) 0++gl TB (dOf r3) 0++gl TB (dOf r4) 0++[IntKind.wrap .u8 (↑(List.length l5):Int)])]);
 (.node (isK 0 [.l TB] r5)
 (let r6:=(o1n [.l TB (gl TB (dOf r5) 0)]);
 (.node (isK 0 [.n] r6)
 (let r7:=(i3o [.n (IntKind.wrap .u64 (gn (dOf r6) 0)),.n (4:Int)]);
 (.node (isK 0 [.l TB] r7)
 (.node (decide ((List.length (gl TB (dOf r5) 0)+List.length (gl TB (dOf r7) 0))*1≤140737488355328))
 (.leaf ((0,[.l TB (gl TB (dOf r5) 0++gl TB (dOf r7) 0)])))
 (.bad 62))
 (.bad 351)))
 (.bad 351)))
 (.node (isK 1 [] r5)
 (.leaf ((0,[.l TB []])))
 (.bad 351))))
 (.bad 62))
 (.bad 62))
 (.bad 351)))
 (.bad 62))
 (.bad 351)))
 (.bad 62))
 (.bad 351)))
 (.bad 62))
 (.bad 351)))))
 (.leaf ((0,[.l TB []]))))
 |_=>.bad 0
theorem z3l (n0:Int)(n1:Int)(n2:Int)(n3:Int)(n4:Int)(l5:List (Ty.den TC)):Imp (c4g [.n n0,.n n1,.n n2,.n n3,.n n4,.l TC l5]) (m4o [.n n0,.n n1,.n n2,.n n3,.n n4,.l TC l5]):=
(.pa [1]
(.nd (fun h0=>
(.pa [1]
(.nd (fun h1=>
(.pa [1,1,1]
.lf)) (fun h1=>
(.nd (fun h2=>
(.pa [1]
.lf)) (fun h2=>
(.pa [1]
(.nd (fun h3=>
(.pa [1,1]
(.nd (fun h4=>
(.pa [1]
(.nd (fun h5=>
(.pa [1,1]
(.nd (fun h6=>
(.pa [1]
(.nd (fun h7=>
(.pa [1,1]
(.nd (fun h8=>
(.pa [1]
(.nd (fun h9=>
(.pa [1,1]
(.nd (fun h10=>
(.nd (fun h11=>
(.nd (fun h12=>
(.pa [1]
(.nd (fun h13=>
(.pa [1,1]
(.nd (fun h14=>
(.pa [1,1]
(.nd (fun h15=>
(.pa [1,1]
.lf)) (fun h15=>
.none)))) (fun h14=>
.none)))) (fun h13=>
.none)))) (fun h12=>
(.nd (fun h13=>
(.pa [1]
.lf)) (fun h13=>
.none))))) (fun h11=>
.none))) (fun h10=>
.none)))) (fun h9=>
.none)))) (fun h8=>
.none)))) (fun h7=>
.none)))) (fun h6=>
.none)))) (fun h5=>
.none)))) (fun h4=>
.none)))) (fun h3=>
.none))))))))) (fun h0=>
(.pa [0,1,1,1,1,1]
.lf))))
def j4n:FuncId→Option a0q:=a0s 14 B14p s2x
theorem w3t:CsOk Try.prog j4n:=a0g i1z B14p_ok
def g4a (env:List Dat):Tree (Nat×List Dat):=Lk.boxCN [(0,TB)] false LK j4n 16 ls0 (mkF [ouV 0] [] [] [(.own 0,[.arr TB 0])] fun _=>none) env
theorem v3u:ExB g4a:=exB _
def m3m:=Classical.choose v3u
theorem t3b (env:List Dat):m3m env=(g4a env).sel:=Classical.choose_spec v3u env
def B16p:FBox:=mkF [ouV 0] [] [] [(.own 0,[.arr TB 0])] m3m
theorem B16p_ok:a0v Try.prog 16 (a0j B16p):=j3p (nils:=[(0,TB)]) (op:=m3m) w3t hmix false (LsOk.none _ _ _) (fun env x h=>by rw[t3b]at h;rw[←boxCN_lk];exact h)
def b4w:List Dat→Tree (Nat×List Dat)
 |[.n n0,.n n1,.n n2,.n n3,.n n4]=>
 (.node (decide (n1≥(0:Int)))
 (.node (!decide (n1≤(1099511627776:Int)))
 (.leaf ((0,[.l TB []])))
 (.node (decide (n2≥(0:Int)))
 (.node (!decide (n2≤(1099511627776:Int)))
 (.leaf ((0,[.l TB []])))
 (let r1:=(i3o [.n (IntKind.wrap .u64 n1),.n (8:Int)]);
 (.node (isK 0 [.l TB] r1)
 (.node (decide ((2+List.length (gl TB (dOf r1) 0))*1≤140737488355328))
 (let r2:=(i3o [.n (IntKind.wrap .u64 n2),.n (8:Int)]);
 (.node (isK 0 [.l TB] r2)
 (.node (decide ((List.length (([(2:Int),n0]:List (Ty.den TB))++gl TB (dOf r1) 0)+List.length (gl TB (dOf r2) 0))*1≤140737488355328))
 (let r3:=(i3o [.n n3,.n (8:Int)]);
 (.node (isK 0 [.l TB] r3)
 (.node (decide ((List.length (([(2:Int),n0]:List (Ty.den TB))++gl TB (dOf r1) 0++gl TB (dOf r2) 0)+List.length (gl TB (dOf r3) 0))*1≤140737488355328))
 (let r4:=(i3o [.n (IntKind.wrap .u64 n4),.n (4:Int)]);
 (.node (isK 0 [.l TB] r4)
 (.node (decide ((List.length (([(2:Int),n0]:List (Ty.den TB))++gl TB (dOf r1) 0++gl TB (dOf r2) 0++gl TB (dOf r3) 0)+List.length (gl TB (dOf r4) 0))*1≤140737488355328))
 (let r5:=(o1n [.l TB (([(2:Int),n0]:List (Ty.den TB))++gl TB (dOf r1) 0++gl TB (dOf r2) 0++gl TB (dOf r3) 0++gl TB (dOf r4) 0)]);
 (.node (isK 0 [.n] r5)
 (let r6:=(i3o [.n (IntKind.wrap .u64 (gn (dOf r5) 0)),.n (4:Int)]);
 (.node (isK 0 [.l TB] r6)
 (.node (decide ((List.length (([(2:Int),n0]:List (Ty.den TB))++gl TB (dOf r1) 0++gl TB (dOf r2) 0++gl TB (dOf r3) 0++gl TB (dOf r4) 0)+List.length (gl TB (dOf r6) 0))*1≤140737488355328))
 (.leaf ((0,[.l TB (([(2:Int),n0]:List (Ty.den TB))++gl TB (dOf r1) 0++gl TB (dOf r2) 0++gl TB (dOf r3) 0++gl TB (dOf r4) 0++gl TB (dOf r6) 0)])))
 (.bad 62))
 (.bad 351)))
 (.bad 351)))
 (.bad 62))
 (.bad 351)))
 (.bad 62))
 (.bad 351)))
 (.bad 62))
 (.bad 351)))
 (.bad 62))
 (.bad 351))))
 (.leaf ((0,[.l TB []])))))
 (.leaf ((0,[.l TB []]))))
 |_=>.bad 0
theorem b4n (n0:Int)(n1:Int)(n2:Int)(n3:Int)(n4:Int):Imp (b4w [.n n0,.n n1,.n n2,.n n3,.n n4]) (g4a [.n n0,.n n1,.n n2,.n n3,.n n4]):=
(.pa [1]
(.nd (fun h0=>
(.pa [1]
(.nd (fun h1=>
(.pa [1,1,1]
.lf)) (fun h1=>
(.pa [1]
(.nd (fun h2=>
(.pa [1]
(.nd (fun h3=>
(.pa [1]
.lf)) (fun h3=>
(.pa [1]
(.nd (fun h4=>
(.pa [1,1]
(.nd (fun h5=>
(.pa [1]
(.nd (fun h6=>
(.pa [1,1]
(.nd (fun h7=>
(.pa [1]
(.nd (fun h8=>
(.pa [1,1]
(.nd (fun h9=>
(.pa [1]
(.nd (fun h10=>
(.pa [1,1]
(.nd (fun h11=>
(.pa [1]
(.nd (fun h12=>
(.pa [1,1]
(.nd (fun h13=>
(.pa [1,1]
(.nd (fun h14=>
(.pa [1,1]
.lf)) (fun h14=>
.none)))) (fun h13=>
.none)))) (fun h12=>
.none)))) (fun h11=>
.none)))) (fun h10=>
.none)))) (fun h9=>
.none)))) (fun h8=>
.none)))) (fun h7=>
.none)))) (fun h6=>
.none)))) (fun h5=>
.none)))) (fun h4=>
.none))))))) (fun h2=>
(.pa [0,1,1,1]
.lf)))))))) (fun h0=>
(.pa [0,1,1,1,1,1]
.lf))))
def l4y:FuncId→Option a0q:=a0s 16 B16p j4n
theorem x3s:CsOk Try.prog l4y:=a0g w3t B16p_ok
def h4s (env:List Dat):Tree (Nat×List Dat):=Lk.boxCN [(0,TB)] false LK l4y 18 ls0 (mkF [stV 0] [] [] [(.own 0,[.arr TB 0])] fun _=>none) env
theorem u3f:ExB h4s:=exB _
def l3z:=Classical.choose u3f
theorem w3i (env:List Dat):l3z env=(h4s env).sel:=Classical.choose_spec u3f env
def B18p:FBox:=mkF [stV 0] [] [] [(.own 0,[.arr TB 0])] l3z
theorem B18p_ok:a0v Try.prog 18 (a0j B18p):=j3p (nils:=[(0,TB)]) (op:=l3z) x3s hmix false (LsOk.none _ _ _) (fun env x h=>by rw[w3i]at h;rw[←boxCN_lk];exact h)
def d4d:List Dat→Tree (Nat×List Dat)
 |[.n n0,.n n1,.n n2,.l (Ty.int IntKind.u8) l3,.n n4]=>
 (let r1:=(c2l [.n n0,.n n1,.n n2,.l TB l3,.n n4]);
 (.node (isK 0 [.l TB] r1)
 (.node (decide ((1+List.length (gl TB (dOf r1) 0))*1≤140737488355328))
 (let r2:=(o1n [.l TB (([(3:Int)]:List (Ty.den TB))++gl TB (dOf r1) 0)]);
 (.node (isK 0 [.n] r2)
 (let r3:=(i3o [.n (IntKind.wrap .u64 (gn (dOf r2) 0)),.n (4:Int)]);
 (.node (isK 0 [.l TB] r3)
 (.node (decide ((List.length (([(3:Int)]:List (Ty.den TB))++gl TB (dOf r1) 0)+List.length (gl TB (dOf r3) 0))*1≤140737488355328))
 (.leaf ((0,[.l TB (([(3:Int)]:List (Ty.den TB))++gl TB (dOf r1) 0++gl TB (dOf r3) 0)])))
 (.bad 62))
 (.bad 351)))
 (.bad 351)))
 (.bad 62))
 (.bad 351)))
 |_=>.bad 0
theorem a4m (n0:Int)(n1:Int)(n2:Int)(l3:List (Ty.den TB))(n4:Int)(g0:l3.length=64):Imp (d4d [.n n0,.n n1,.n n2,.l TB l3,.n n4]) (h4s [.n n0,.n n1,.n n2,.l TB l3,.n n4]):=
(.nd (fun h0=>
(.pa [1]
(.nd (fun h1=>
(.pa [1]
(.nd (fun h2=>
(.pa [1,1]
(.nd (fun h3=>
(.pa [1,1]
(.nd (fun h4=>
(.pa [1,1]
.lf)) (fun h4=>
.none)))) (fun h3=>
.none)))) (fun h2=>
.none)))) (fun h1=>
.none)))) (fun h0=>
.none))
def l4l:FuncId→Option a0q:=a0s 18 B18p l4y
theorem x3z:CsOk Try.prog l4l:=a0g x3s B18p_ok
def g4p (env:List Dat):Tree (Nat×List Dat):=Lk.boxCN [(0,TB)] false LK l4l 19 ls0 (mkF [loV 0] [] [] [(.own 0,[.arr TB 0])] fun _=>none) env
theorem w3z:ExB g4p:=exB _
def l3x:=Classical.choose w3z
theorem w3h (env:List Dat):l3x env=(g4p env).sel:=Classical.choose_spec w3z env
def B19p:FBox:=mkF [loV 0] [] [] [(.own 0,[.arr TB 0])] l3x
theorem B19p_ok:a0v Try.prog 19 (a0j B19p):=j3p (nils:=[(0,TB)]) (op:=l3x) x3z hmix false (LsOk.none _ _ _) (fun env x h=>by rw[w3h]at h;rw[←boxCN_lk];exact h)
def b4u:List Dat→Tree (Nat×List Dat)
 |[.n n0,.n n1,.n n2,.n n3,.n n4,.l (Ty.int IntKind.u8) l5,.n n6]=>
 (.node (decide (n0≥(0:Int)))
 (.node (!decide (n0≤(1099511627776:Int)))
 (.leaf ((0,[.l TB []])))
 (.node (decide (n1≥(0:Int)))
 (.node (!decide (n1≤(1099511627776:Int)))
 (.leaf ((0,[.l TB []])))
 (let r1:=(i3o [.n (IntKind.wrap .u64 n0),.n (8:Int)]);
 (.node (isK 0 [.l TB] r1)
 (.node (decide ((1+List.length (gl TB (dOf r1) 0))*1≤140737488355328))
 (let r2:=(i3o [.n (IntKind.wrap .u64 n1),.n (8:Int)]);
 (.node (isK 0 [.l TB] r2)
 (.node (decide ((List.length (([(4:Int)]:List (Ty.den TB))++gl TB (dOf r1) 0)+List.length (gl TB (dOf r2) 0))*1≤140737488355328))
 (let r3:=(c2l [.n n2,.n n3,.n n4,.l TB l5,.n n6]);
 (.node (isK 0 [.l TB] r3)
 (.node (decide ((List.length (([(4:Int)]:List (Ty.den TB))++gl TB (dOf r1) 0++gl TB (dOf r2) 0)+List.length (gl TB (dOf r3) 0))*1≤140737488355328))
 (let r4:=(o1n [.l TB (([(4:Int)]:List (Ty.den TB))++gl TB (dOf r1) 0++gl TB (dOf r2) 0++gl TB (dOf r3) 0)]);
 (.node (isK 0 [.n] r4)
 (let r5:=(i3o [.n (IntKind.wrap .u64 (gn (dOf r4) 0)),.n (4:Int)]);
 (.node (isK 0 [.l TB] r5)
 (.node (decide ((List.length (([(4:Int)]:List (Ty.den TB))++gl TB (dOf r1) 0++gl TB (dOf r2) 0++gl TB (dOf r3) 0)+List.length (gl TB (dOf r5) 0))*1≤140737488355328))
 (.leaf ((0,[.l TB (([(4:Int)]:List (Ty.den TB))++gl TB (dOf r1) 0++gl TB (dOf r2) 0++gl TB (dOf r3) 0++gl TB (dOf r5) 0)])))
 (.bad 62))
 (.bad 351)))
 (.bad 351)))
 (.bad 62))
 (.bad 351)))
 (.bad 62))
 (.bad 351)))
 (.bad 62))
 (.bad 351))))
 (.leaf ((0,[.l TB []])))))
 (.leaf ((0,[.l TB []]))))
 |_=>.bad 0
theorem z3h (n0:Int)(n1:Int)(n2:Int)(n3:Int)(n4:Int)(l5:List (Ty.den TB))(n6:Int)(g0:l5.length=64):Imp (b4u [.n n0,.n n1,.n n2,.n n3,.n n4,.l TB l5,.n n6]) (g4p [.n n0,.n n1,.n n2,.n n3,.n n4,.l TB l5,.n n6]):=
(.pa [1]
(.nd (fun h0=>
(.pa [1]
(.nd (fun h1=>
(.pa [1,1,1]
.lf)) (fun h1=>
(.pa [1]
(.nd (fun h2=>
(.pa [1]
(.nd (fun h3=>
(.pa [1]
.lf)) (fun h3=>
(.pa [1]
(.nd (fun h4=>
(.pa [1,1]
(.nd (fun h5=>
(.pa [1]
(.nd (fun h6=>
(.pa [1,1]
(.nd (fun h7=>
(.nd (fun h8=>
(.pa [1]
(.nd (fun h9=>
(.pa [1]
(.nd (fun h10=>
(.pa [1,1]
(.nd (fun h11=>
(.pa [1,1]
(.nd (fun h12=>
(.pa [1,1]
.lf)) (fun h12=>
.none)))) (fun h11=>
.none)))) (fun h10=>
.none)))) (fun h9=>
.none)))) (fun h8=>
.none))) (fun h7=>
.none)))) (fun h6=>
.none)))) (fun h5=>
.none)))) (fun h4=>
.none))))))) (fun h2=>
(.pa [0,1,1,1]
.lf)))))))) (fun h0=>
(.pa [0,1,1,1,1,1]
.lf))))
def h4c:FuncId→Option a0q:=a0s 19 B19p l4l
theorem v3s:CsOk Try.prog h4c:=a0g x3z B19p_ok
def l4w (env:List Dat):Tree (Nat×List Dat):=Lk.boxCN [(0,TB)] false LK h4c 21 ls0 (mkF [lmV 0] [] [] [(.own 0,[.arr TB 0])] fun _=>none) env
theorem t3m:ExB l4w:=exB _
def m3y:=Classical.choose t3m
theorem x3l (env:List Dat):m3y env=(l4w env).sel:=Classical.choose_spec t3m env
def B21p:FBox:=mkF [lmV 0] [] [] [(.own 0,[.arr TB 0])] m3y
theorem B21p_ok:a0v Try.prog 21 (a0j B21p):=j3p (nils:=[(0,TB)]) (op:=m3y) v3s hmix false (LsOk.none _ _ _) (fun env x h=>by rw[x3l]at h;rw[←boxCN_lk];exact h)
def c4x:List Dat→Tree (Nat×List Dat)
 |[.n n0,.n n1,.n n2,.n n3,.s s4]=>
 (.node (decide (n2<(0:Int)))
 (.leaf ((0,[.l TB []])))
 (.node (decide (n2>(4611686018427387904:Int)))
 (.leaf ((0,[.l TB []])))
 (.node (decide (n3<(0:Int)))
 (.leaf ((0,[.l TB []])))
 (.node (decide (n3>(4611686018427387904:Int)))
 (.leaf ((0,[.l TB []])))
 (.node (decide ((↑(ByteArray.size s4):Int)>(2048:Int)))
 (.leaf ((0,[.l TB []])))
 (let r1:=(i3o [.n (IntKind.wrap .u64 n2),.n (8:Int)]);
 (.node (isK 0 [.l TB] r1)
 (.node (decide ((3+List.length (gl TB (dOf r1) 0))*1≤140737488355328))
 (let r2:=(i3o [.n (IntKind.wrap .u64 n3),.n (8:Int)]);
 (.node (isK 0 [.l TB] r2)
 (.node (decide ((List.length (([(5:Int),n0,n1]:List (Ty.den TB))++gl TB (dOf r1) 0)+List.length (gl TB (dOf r2) 0))*1≤140737488355328))
 (let r3:=(i3o [.n (IntKind.wrap .u64 (↑(ByteArray.size s4):Int)),.n (2:Int)]);
 (.node (isK 0 [.l TB] r3)
 (.node (decide ((List.length (([(5:Int),n0,n1]:List (Ty.den TB))++gl TB (dOf r1) 0++gl TB (dOf r2) 0)+List.length (gl TB (dOf r3) 0))*1≤140737488355328))
 (.node (decide ((List.length (([(5:Int),n0,n1]:List (Ty.den TB))++gl TB (dOf r1) 0++gl TB (dOf r2) 0++gl TB (dOf r3) 0)+List.length (c0b s4))*1≤140737488355328))
 (let r4:=(o1n [.l TB (([(5:Int),n0,n1]:List (Ty.den TB))++gl TB (dOf r1) 0++gl TB (dOf r2) 0++gl TB (dOf r3) 0++c0b s4)]);
 (.node (isK 0 [.n] r4)
 (let r5:=(i3o [.n (IntKind.wrap .u64 (gn (dOf r4) 0)),.n (4:Int)]);
 (.node (isK 0 [.l TB] r5)
 (.node (decide ((List.length (([(5:Int),n0,n1]:List (Ty.den TB))++gl TB (dOf r1) 0++gl TB (dOf r2) 0++gl TB (dOf r3) 0++c0b s4)+List.length (gl TB (dOf r5) 0))*1≤140737488355328))
 (.leaf ((0,[.l TB (([(5:Int),n0,n1]:List (Ty.den TB))++gl TB (dOf r1) 0++gl TB (dOf r2) 0++gl TB (dOf r3) 0++c0b s4++gl TB (dOf r5) 0)])))
 (.bad 62))
 (.bad 351)))
 (.bad 351)))
 (.bad 62))
 (.bad 62))
 (.bad 351)))
 (.bad 62))
 (.bad 351)))
 (.bad 62))
 (.bad 351))))))))
 |_=>.bad 0
theorem b4h (n0:Int)(n1:Int)(n2:Int)(n3:Int)(s4:ByteArray):Imp (c4x [.n n0,.n n1,.n n2,.n n3,.s s4]) (l4w [.n n0,.n n1,.n n2,.n n3,.s s4]):=
(.nd (fun h0=>
(.pa [1,1,1,1,1,1,1,1,1]
.lf)) (fun h0=>
(.nd (fun h1=>
(.pa [1,1,1,1,1,1,1]
.lf)) (fun h1=>
(.nd (fun h2=>
(.pa [1,1,1,1,1]
.lf)) (fun h2=>
(.nd (fun h3=>
(.pa [1,1,1]
.lf)) (fun h3=>
(.nd (fun h4=>
(.pa [1]
.lf)) (fun h4=>
(.pa [1]
(.nd (fun h5=>
(.pa [1,1]
(.nd (fun h6=>
(.pa [1]
(.nd (fun h7=>
(.pa [1,1]
(.nd (fun h8=>
(.pa [1]
(.nd (fun h9=>
(.pa [1,1]
(.nd (fun h10=>
(.nd (fun h11=>
(.pa [1]
(.nd (fun h12=>
(.pa [1,1]
(.nd (fun h13=>
(.pa [1,1]
(.nd (fun h14=>
(.pa [1,1]
.lf)) (fun h14=>
.none)))) (fun h13=>
.none)))) (fun h12=>
.none)))) (fun h11=>
.none))) (fun h10=>
.none)))) (fun h9=>
.none)))) (fun h8=>
.none)))) (fun h7=>
.none)))) (fun h6=>
.none)))) (fun h5=>
.none)))))))))))))
def n3w:FuncId→Option a0q:=a0s 21 B21p h4c
theorem j3f:CsOk Try.prog n3w:=a0g v3s B21p_ok
def Wb (l:List Int):Prop:= ∀b∈l,0≤b∧b<256
theorem wu64 (x:Int):IntKind.wrap .u64 x=x%18446744073709551616:=by unfold IntKind.wrap;simp[IntKind.bits,IntKind.signed]
theorem wu8 (x:Int):IntKind.wrap .u8 x=x%256:=by unfold IntKind.wrap;simp[IntKind.bits,IntKind.signed]
theorem wu16 (x:Int):IntKind.wrap .u16 x=x%65536:=by unfold IntKind.wrap;simp[IntKind.bits,IntKind.signed]
theorem wu32 (x:Int):IntKind.wrap .u32 x=x%4294967296:=by unfold IntKind.wrap;simp[IntKind.bits,IntKind.signed]
theorem t31g (l:List (Ty.den TB))(h:r3h l=true):i2m [.l TB l]=some (0,[.l TB l]):=by
 show(match c0r TB TB l with|some l=>bif r3h l then some (0,[Dat.l TB l])else none|none=>none)=_
 rw[d0b]
 show(bif r3h l then some (0,[Dat.l TB l])else none)=_
 rw[h];rfl
theorem t31 {l:List Int}(h:l.length≤140737488355328):i2m [.l TB l]=some (0,[.l TB l]):=
 t31g l (by unfold r3h;exact decide_eq_true (show(0+l.length)*1≤140737488355328 by omega))
def byt (n:Int)(k:Nat):Int:=IntKind.wrap .u8 (ishr .u64 n (8*(k:Int)))
def bes (n:Int):Nat→List Int
 |0=>[]
 |k+1=>byt n k::bes n k
theorem s1c (n:Int): ∀k,(bes n k).length=k
 |0=>rfl
 |k+1=>by rw[bes,List.length_cons,s1c n k]
theorem h3m (n:Int): ∀k,Wb (bes n k)
 |0=>fun b hb=>by simp[bes]at hb
 |k+1=>fun b hb=>by
  rw[bes,List.mem_cons]at hb
  rcases hb with rfl|hb
  ·unfold byt;rw[wu8];omega
  ·exact h3m n k b hb
theorem lp30 (n:Int): ∀(k:Nat) (l:List Int) (f:Nat),k≤8→l.length+k≤1000000→k<f→a0b j3j f [.k 0,.n n,.n ((k:Int)-1),.l TB l]=some (0,[.l TB (l++bes n k)])
 |_,_,0,_,_,h=>by omega
 |0,l,f+1,h,hl,hf=>by
  have e:(j3j [.k 0,.n n,.n (((0:Nat):Int)-1),.l TB l]).sel=some (.stop 0 [.l TB l]):=by
   refine m3v n _ l _ ?_
   unfold n3c
   exact a0c (decide_eq_false (by omega)) rfl
  unfold a0b
  rw[e]
  show some (0,[Dat.l TB l])=some (0,[Dat.l TB (l++bes n 0)])
  rw[bes,List.append_nil]
 |k+1,l,f+1,h,hl,hf=>by
  have w8:IntKind.wrap .i64 (8*(((k+1:Nat):Int)-1))=8*(k:Int):=by rw[w64d];omega
  have w1:IntKind.wrap .i64 ((((k+1:Nat):Int)-1)-1)=(k:Int)-1:=by rw[w64d];omega
  have e:(j3j [.k 0,.n n,.n (((k+1:Nat):Int)-1),.l TB l]).sel=some (.go [.k 0,.n n,.n ((k:Int)-1),.l TB (l++[byt n k])]):=by
   refine m3v n _ l _ ?_
   unfold n3c
   refine a0a (decide_eq_true (by omega)) (a0a (by rw[w8];simp;omega) (a0a (decide_eq_true (show(l.length+1)*1≤140737488355328 by omega)) ?_))
   show some (Step.go [.k 0,.n n,.n (IntKind.wrap .i64 ((((k+1:Nat):Int)-1)-1)),.l TB (l++[IntKind.wrap .u8 (ishr .u64 n (IntKind.wrap .i64 (8*(((k+1:Nat):Int)-1))))])])=_
   rw[w8,w1];rfl
  unfold a0b
  rw[e]
  have ih:=lp30 n k (l++[byt n k]) f (by omega) (by rw[List.length_append];simp;omega) (by omega)
  rw[List.append_assoc]at ih
  exact ih
theorem t30 (n:Int)(w:Nat)(h:w≤8):i3o [.n n,.n (w:Int)]=some (0,[.l TB (bes n w)]):=by
 have w1:IntKind.wrap .i64 ((w:Int)-1)=(w:Int)-1:=by rw[w64d];omega
 have e:o3h [.k 0,.n n,.n (IntKind.wrap .i64 ((w:Int)-1)),.l TB ([]:List Int)]=some (0,[.l TB (bes n w)]):=by
  rw[w1,p3l]
  exact lp30 n w [] FU h (by simp;omega) (by unfold FU;omega)
 rw[c4s]
 refine f4v n w _ ?_
 unfold j4u
 exact a0a (by erw[e];rfl) (by erw[e];rfl)
theorem lp35b (n:Int)(w:Nat)(hw:w≤8): ∀(k:Nat) (l:List Int) (f:Nat),k≤w→l.length+k≤1000000→k<f→a0b i3q f [.k 0,.n n,.n (w:Int),.n (w:Int),.n ((w:Int)-k),.l TB l]=some (0,[.l TB (l++bes n k)])
 |_,_,0,_,_,h=>by omega
 |0,l,f+1,h,hl,hf=>by
  have e:(i3q [.k 0,.n n,.n (w:Int),.n (w:Int),.n ((w:Int)-((0:Nat):Int)),.l TB l]).sel=some (.stop 0 [.l TB l]):=by
   refine k3v n _ _ _ l _ ?_
   unfold l3c
   exact a0c (decide_eq_false (by omega)) rfl
  unfold a0b
  rw[e]
  show some (0,[Dat.l TB l])=some (0,[Dat.l TB (l++bes n 0)])
  rw[bes,List.append_nil]
 |k+1,l,f+1,h,hl,hf=>by
  have w8:IntKind.wrap .i64 (8*IntKind.wrap .i64 (IntKind.wrap .i64 ((w:Int)-1)-((w:Int)-((k+1:Nat):Int))))=8*(k:Int):=by simp only[w64d];omega
  have w1:IntKind.wrap .i64 ((w:Int)-((k+1:Nat):Int)+1)=(w:Int)-(k:Int):=by rw[w64d];omega
  have e:(i3q [.k 0,.n n,.n (w:Int),.n (w:Int),.n ((w:Int)-((k+1:Nat):Int)),.l TB l]).sel=some (.go [.k 0,.n n,.n (w:Int),.n (w:Int),.n ((w:Int)-(k:Int)),.l TB (l++[byt n k])]):=by
   refine k3v n _ _ _ l _ ?_
   unfold l3c
   refine a0a (decide_eq_true (by omega)) (a0a (by rw[w8];simp;omega) (a0a (decide_eq_true (show(l.length+1)*1≤140737488355328 by omega)) ?_))
   show some (Step.go [.k 0,.n n,.n (w:Int),.n (w:Int),.n (IntKind.wrap .i64 ((w:Int)-((k+1:Nat):Int)+1)),.l TB (l++[IntKind.wrap .u8 (ishr .u64 n (IntKind.wrap .i64 (8*IntKind.wrap .i64 (IntKind.wrap .i64 ((w:Int)-1)-((w:Int)-((k+1:Nat):Int))))))])])=_
   rw[w8,w1];rfl
  unfold a0b
  rw[e]
  have ih:=lp35b n w hw k (l++[byt n k]) f (by omega) (by rw[List.length_append];simp;omega) (by omega)
  rw[List.append_assoc]at ih
  exact ih
theorem lp35a (n:Int)(w:Nat)(hw:w≤8): ∀(k:Nat) (l:List Int) (f:Nat),k≤w→l.length+k≤1000000→k<f→a0b i3a f [.k 1,.n n,.n (w:Int),.n (w:Int),.n ((w:Int)-k),.l TB l]=some (1,[.l TB (l++bes n k)])
 |_,_,0,_,_,h=>by omega
 |0,l,f+1,h,hl,hf=>by
  have e:(i3a [.k 1,.n n,.n (w:Int),.n (w:Int),.n ((w:Int)-((0:Nat):Int)),.l TB l]).sel=some (.stop 1 [.l TB l]):=by
   refine k3r n _ _ _ l _ ?_
   unfold l3i
   exact a0c (decide_eq_false (by omega)) rfl
  unfold a0b
  rw[e]
  show some (1,[Dat.l TB l])=some (1,[Dat.l TB (l++bes n 0)])
  rw[bes,List.append_nil]
 |k+1,l,f+1,h,hl,hf=>by
  have w8:IntKind.wrap .i64 (8*IntKind.wrap .i64 (IntKind.wrap .i64 ((w:Int)-1)-((w:Int)-((k+1:Nat):Int))))=8*(k:Int):=by simp only[w64d];omega
  have w1:IntKind.wrap .i64 ((w:Int)-((k+1:Nat):Int)+1)=(w:Int)-(k:Int):=by rw[w64d];omega
  have e:(i3a [.k 1,.n n,.n (w:Int),.n (w:Int),.n ((w:Int)-((k+1:Nat):Int)),.l TB l]).sel=some (.go [.k 1,.n n,.n (w:Int),.n (w:Int),.n ((w:Int)-(k:Int)),.l TB (l++[byt n k])]):=by
   refine k3r n _ _ _ l _ ?_
   unfold l3i
   refine a0a (decide_eq_true (by omega)) (a0a (by rw[w8];simp;omega) (a0a (decide_eq_true (show(l.length+1)*1≤140737488355328 by omega)) ?_))
   show some (Step.go [.k 1,.n n,.n (w:Int),.n (w:Int),.n (IntKind.wrap .i64 ((w:Int)-((k+1:Nat):Int)+1)),.l TB (l++[IntKind.wrap .u8 (ishr .u64 n (IntKind.wrap .i64 (8*IntKind.wrap .i64 (IntKind.wrap .i64 ((w:Int)-1)-((w:Int)-((k+1:Nat):Int))))))])])=_
   rw[w8,w1];rfl
  unfold a0b
  rw[e]
  have ih:=lp35a n w hw k (l++[byt n k]) f (by omega) (by rw[List.length_append];simp;omega) (by omega)
  rw[List.append_assoc]at ih
  exact ih
theorem t35b (n:Int)(w:Nat)(h:w≤8)(l:List Int)(hl:l.length≤999000):h3t [.n n,.n (w:Int),.l TB l]=some (0,[.l TB (l++bes n w)]):=by
 have e:m3l [.k 0,.n n,.n (w:Int),.n (w:Int),.n 0,.l TB l]=some (0,[.l TB (l++bes n w)]):=by
  rw[n3u]
  have:=lp35b n w h w l FU (Nat.le_refl _) (by omega) (by unfold FU;omega)
  rw[show(w:Int)-(w:Int)=0 by omega]at this
  exact this
 rw[u3z]
 refine y3v n w l _ ?_
 unfold b4s
 exact a0a (by erw[e];rfl) (by erw[e];rfl)
theorem t35a (n:Int)(w:Nat)(h:w≤8)(h1:1≤w):k3u [.n n,.n (w:Int)]=some (1,[.l TB (bes n w)]):=by
 obtain⟨k,rfl⟩: ∃k,w=k+1:=⟨w-1,by omega⟩
 have e:m3i [.k 0,.n n,.n ((k+1:Nat):Int),.n ((k+1:Nat):Int),.n 0]=some (1,[.l TB (bes n (k+1))]):=by
  have w8:IntKind.wrap .i64 (8*IntKind.wrap .i64 (IntKind.wrap .i64 (((k+1:Nat):Int)-1)-0))=8*(k:Int):=by simp only[w64d];omega
  have w1:IntKind.wrap .i64 ((0:Int)+1)=((k+1:Nat):Int)-(k:Int):=by rw[w64d];omega
  have e:(i3a [.k 0,.n n,.n ((k+1:Nat):Int),.n ((k+1:Nat):Int),.n 0]).sel=some (.go [.k 1,.n n,.n ((k+1:Nat):Int),.n ((k+1:Nat):Int),.n (((k+1:Nat):Int)-(k:Int)),.l TB [byt n k]]):=by
   refine q3w n _ _ _ _ ?_
   unfold p3b
   refine a0a (decide_eq_true (by omega)) (a0a (by rw[w8];simp;omega) ?_)
   show some (Step.go [.k 1,.n n,.n ((k+1:Nat):Int),.n ((k+1:Nat):Int),.n (IntKind.wrap .i64 ((0:Int)+1)),.l TB [IntKind.wrap .u8 (ishr .u64 n (IntKind.wrap .i64 (8*IntKind.wrap .i64 (IntKind.wrap .i64 (((k+1:Nat):Int)-1)-0))))]])=_
   rw[w8,w1];rfl
  rw[n3m,show FU=18446744073709551615+1 from rfl]
  unfold a0b
  rw[e]
  exact lp35a n (k+1) h k [byt n k] 18446744073709551615 (by omega) (by simp;omega) (by omega)
 rw[u3x]
 refine z3y n _ _ ?_
 unfold c4k
 exact a0c (by erw[e];rfl) (a0a (by erw[e];rfl) (by erw[e];rfl))
theorem q12 (l:List Int)(hl:l.length≤1000000):k3e [.l TB l]=some (0,[.n (N (Sm l))]):=by
 rw[x3q];exact t12 l (by omega)
theorem q13 (l:List Int)(hl:l.length≤1000000)(hw:Wb l):o1n [.l TB l]=some (0,[.n (N (Sm l))]):=by
 rw[o1e];exact t13 l (by omega) hw
def win (m:Int)(l:List Int):Bool:=l.all fun x=> !decide (x<0)&& !decide (x>m)
theorem m3x {l:List Int}{i:Nat}(h:i<l.length):l.drop i=l.getD i 0::l.drop (i+1):=by
 rw[List.drop_eq_getElem_cons h,List.getD_eq_getElem?_getD,List.getElem?_eq_getElem h];rfl
theorem lp80 (m:Int)(l:List Int)(hl:l.length≤1000000): ∀(k i f:Nat),i+k=l.length→k<f→a0b i3n f [.k 0,.n m,.l TI l,.n (l.length:Int),.n (i:Int)]=(bif win m (l.drop i)then some (0,[])else some (1,[.b false]))
 |_,_,0,_,h=>by omega
 |0,i,f+1,hi,hf=>by
  have e:(i3n [.k 0,.n m,.l TI l,.n (l.length:Int),.n (i:Int)]).sel=some (.stop 0 []):=by
   refine i3x m l _ _ (by omega) rfl _ ?_
   unfold j3q
   exact a0c (decide_eq_false (show¬((i:Int)<(l.length:Int)) by omega)) rfl
  unfold a0b
  rw[e,List.drop_eq_nil_of_le (by omega)]
  rfl
 |k+1,i,f+1,hi,hf=>by
  have w:IntKind.wrap .i64 ((i:Int)+1)=((i+1:Nat):Int):=by rw[w64d];omega
  rw[m3x (show i<l.length by omega)]
  by_cases h1:l.getD i 0<0
  ·have e:(i3n [.k 0,.n m,.l TI l,.n (l.length:Int),.n (i:Int)]).sel=some (.stop 1 [.b false]):=by
    refine i3x m l _ _ (by omega) rfl _ ?_
    unfold j3q
    exact a0a (decide_eq_true (show(i:Int)<(l.length:Int) by omega)) (a0a (decide_eq_true h1) rfl)
   unfold a0b
   have hw:win m (l.getD i 0::l.drop (i+1))=false:=by unfold win;rw[List.all_cons,decide_eq_true h1];rfl
   rw[e,hw]
   rfl
  ·by_cases h2:l.getD i 0>m
   ·have e:(i3n [.k 0,.n m,.l TI l,.n (l.length:Int),.n (i:Int)]).sel=some (.stop 1 [.b false]):=by
     refine i3x m l _ _ (by omega) rfl _ ?_
     unfold j3q
     exact a0a (decide_eq_true (show(i:Int)<(l.length:Int) by omega)) (a0c (decide_eq_false h1) (a0a (decide_eq_true h2) rfl))
    unfold a0b
    have hw:win m (l.getD i 0::l.drop (i+1))=false:=by unfold win;rw[List.all_cons,decide_eq_false h1,decide_eq_true h2];rfl
    rw[e,hw]
    rfl
   ·have e:(i3n [.k 0,.n m,.l TI l,.n (l.length:Int),.n (i:Int)]).sel=some (.go [.k 0,.n m,.l TI l,.n (l.length:Int),.n ((i+1:Nat):Int)]):=by
     refine i3x m l _ _ (by omega) rfl _ ?_
     unfold j3q
     refine a0a (decide_eq_true (show(i:Int)<(l.length:Int) by omega)) (a0c (decide_eq_false h1) (a0c (decide_eq_false h2) ?_))
     rw[w];rfl
    unfold a0b
    rw[e]
    have ih:=lp80 m l hl k (i+1) f (by omega) (by omega)
    have hw:win m (l.getD i 0::l.drop (i+1))=win m (l.drop (i+1)):=by
     unfold win;rw[List.all_cons,decide_eq_false h1,decide_eq_false h2];rfl
    rw[hw]
    exact ih
theorem t80 (m:Int)(l:List Int)(hl:l.length≤1000000):q3o [.n m,.l TI l]=some (0,[.b (win m l)]):=by
 have e:o3l [.k 0,.n m,.l TI l,.n (l.length:Int),.n 0]=(bif win m l then some (0,[])else some (1,[.b false])):=by
  rw[q3h]
  exact lp80 m l hl l.length 0 FU (by omega) (by unfold FU;omega)
 rw[c4i]
 refine f4r m l _ ?_
 unfold k4z
 cases h:win m l with
 |true=>
  rw[h]at e
  exact a0a (by erw[e];rfl) rfl
 |false=>
  rw[h]at e
  exact a0c (by erw[e];rfl) (a0a (by erw[e];rfl) (by erw[e];rfl))
def lgs (l:List Int):List Int:=l.flatMap fun n=>bes n 8
theorem i3s (l:List Int):(lgs l).length=8*l.length:=by
 induction l with
 |nil=>rfl
 |cons a l ih=>unfold lgs at*;rw[List.flatMap_cons,List.length_append,s1c,ih,List.length_cons];omega
theorem lp88 (ns:List Int)(hn:ns.length≤1000): ∀(k i:Nat) (l:List Int) (f:Nat),i+k=ns.length→l.length+8*k≤990000→k<f→a0b j3i f [.k 0,.n (ns.length:Int),.n (i:Int),.l TL ns,.l TB l]=some (0,[.l TB (l++lgs (ns.drop i))])
 |_,_,_,0,_,_,h=>by omega
 |0,i,l,f+1,hi,hl,hf=>by
  have e:(j3i [.k 0,.n (ns.length:Int),.n (i:Int),.l TL ns,.l TB l]).sel=some (.stop 0 [.l TB l]):=by
   refine l3u _ _ ns l (by omega) rfl _ ?_
   unfold n3a
   exact a0c (decide_eq_false (show¬((i:Int)<(ns.length:Int)) by omega)) rfl
  unfold a0b
  rw[e,List.drop_eq_nil_of_le (by omega)]
  exact congrArg (fun z:List Int=>some (0,[Dat.l TB z])) (List.append_nil l).symm
 |k+1,i,l,f+1,hi,hl,hf=>by
  have w:IntKind.wrap .i64 ((i:Int)+1)=((i+1:Nat):Int):=by rw[w64d];omega
  have e1:=t35b (ns.getD i 0) 8 (by omega) l (by omega)
  have e:(j3i [.k 0,.n (ns.length:Int),.n (i:Int),.l TL ns,.l TB l]).sel=some (.go [.k 0,.n (ns.length:Int),.n ((i+1:Nat):Int),.l TL ns,.l TB (l++bes (ns.getD i 0) 8)]):=by
   refine l3u _ _ ns l (by omega) rfl _ ?_
   unfold n3a
   refine a0a (decide_eq_true (show(i:Int)<(ns.length:Int) by omega)) (a0a (by erw[e1];rfl) ?_)
   erw[e1]
   rw[w];rfl
  unfold a0b
  rw[e]
  have ih:=lp88 ns hn k (i+1) (l++bes (ns.getD i 0) 8) f (by omega) (by rw[List.length_append,s1c];omega) (by omega)
  rw[m3x (show i<ns.length by omega)]
  have hc:lgs (ns.getD i 0::ns.drop (i+1))=bes (ns.getD i 0) 8++lgs (ns.drop (i+1)):=rfl
  rw[hc,←List.append_assoc]
  exact ih
theorem t88 (ns l:List Int)(hn:ns.length≤1000)(hl:l.length+8*ns.length≤990000):p3d [.l TL ns,.l TB l]=some (0,[.l TB (l++lgs ns)]):=by
 have e:o3g [.k 0,.n (ns.length:Int),.n 0,.l TL ns,.l TB l]=some (0,[.l TB (l++lgs ns)]):=by
  rw[q3d]
  exact lp88 ns hn ns.length 0 l FU (by omega) (by omega) (by unfold FU;omega)
 rw[d4l]
 refine f4g ns l _ ?_
 unfold k4g
 exact a0a (by erw[e];rfl) (by erw[e];rfl)
def chk (l:List Int):List Int:=l++bes (IntKind.wrap .u64 (N (Sm l))) 4
theorem w1n (l:List Int):(chk l).length=l.length+4:=by unfold chk;rw[List.length_append,s1c]
theorem bes1 {c:Int}(h0:0≤c)(h1:c<256):bes (IntKind.wrap .u64 c) 1=[c]:=by
 have e:IntKind.wrap .u64 c=c:=by rw[wu64];omega
 rw[e]
 show[IntKind.wrap .u8 (ishr .u64 c (8*((0:Nat):Int)))]=[c]
 have e2:ishr .u64 c (8*((0:Nat):Int))=c:=by
  rw[show(8*((0:Nat):Int))=0 from rfl]
  unfold ishr;simp
 rw[e2,wu8]
 congr 1
 omega
def outB (c y p q u:Int):List Int:=[2,c]++bes (IntKind.wrap .u64 y) 8++bes (IntKind.wrap .u64 p) 8++bes q 8++bes (IntKind.wrap .u64 u) 4
theorem o3f (c y p q u:Int):(outB c y p q u).length=30:=by unfold outB;simp only[List.length_append,s1c];rfl
theorem p10 (c y p q u:Int)(h0:0≤c)(h1:c<256):i3w [.n c,.n y,.n p,.n q,.n u]=some (0,[.l TB (bif win 1099511627776 [y,p]then chk (outB c y p q u)else[])]):=by
 have hb:bes 2 1++bes (IntKind.wrap .u64 c) 1++lgs [IntKind.wrap .u64 y,IntKind.wrap .u64 p,q]++bes (IntKind.wrap .u64 u) 4=outB c y p q u:=by
  rw[bes1 h0 h1]
  unfold outB lgs
  simp only[List.flatMap_cons,List.flatMap_nil,List.append_assoc,List.append_nil]
  rfl
 have hl:=o3f c y p q u
 have e1:=t80 1099511627776 [y,p] (by simp)
 have e2:=t35a 2 1 (by omega) (by omega)
 have e3:=t35b (IntKind.wrap .u64 c) 1 (by omega) (bes 2 1) (by rw[s1c];omega)
 have e4:=t88 [IntKind.wrap .u64 y,IntKind.wrap .u64 p,q] (bes 2 1++bes (IntKind.wrap .u64 c) 1) (by simp) (by simp[s1c])
 have e5:=t35b (IntKind.wrap .u64 u) 4 (by omega) (bes 2 1++bes (IntKind.wrap .u64 c) 1++lgs [IntKind.wrap .u64 y,IntKind.wrap .u64 p,q]) (by simp[s1c,i3s])
 rw[hb]at e5
 have e6:=t31 (l:=outB c y p q u) (by omega)
 have e7:=q12 (outB c y p q u) (by omega)
 have e8:=t35b (IntKind.wrap .u64 (N (Sm (outB c y p q u)))) 4 (by omega) (outB c y p q u) (by omega)
 have e9:=t31 (l:=chk (outB c y p q u)) (by rw[w1n];omega)
 rw[w3r]
 refine a4p _ _ _ _ _ _ ?_
 unfold e4f
 dsimp only
 erw[e1]
 cases hw:win 1099511627776 [y,p]with
 |false=>rfl
 |true=>
  refine a0a rfl (a0a rfl ?_)
  erw[e2]
  refine a0c rfl (a0a rfl ?_)
  erw[e3]
  refine a0a rfl ?_
  erw[e4]
  refine a0a rfl ?_
  erw[e5]
  refine a0a rfl ?_
  erw[e6]
  refine a0a rfl ?_
  erw[e7]
  refine a0a rfl ?_
  erw[e8]
  refine a0a rfl ?_
  erw[e9]
  rfl
theorem i4k (c y p q u:Int)(h0:0≤c)(h1:c<256):Wb (outB c y p q u):=by
 intro b hb
 unfold outB at hb
 simp only[List.mem_append,List.mem_cons,List.not_mem_nil,or_false]at hb
 rcases hb with((((rfl|rfl)|hb)|hb)|hb)|hb
 all_goals first|omega|exact h3m _ _ _ hb|(rcases hb with hb|hb<;>exact h3m _ _ _ hb)
def stL (a b c:Int)(t:List Int)(u:Int):List Int:=bes a 8++bes b 8++bes c 8++t++bes (IntKind.wrap .u64 u) 4
theorem n3g (a b c:Int)(t:List Int)(u:Int)(ht:t.length=64):(stL a b c t u).length=92:=by unfold stL;simp only[List.length_append,s1c,ht]
theorem b3:bes 3 1=[3]:=rfl
theorem b4:bes 4 1=[4]:=rfl
theorem b5:bes 5 1=[5]:=rfl
theorem p11 (a b c:Int)(t:List Int)(u:Int)(ht:t.length=64):j3d [.n a,.n b,.n c,.l TB t,.n u]=some (0,[.l TB (chk (3::stL a b c t u))]):=by
 have hb:bes 3 1++lgs [a,b,c]++t++bes (IntKind.wrap .u64 u) 4=3::stL a b c t u:=by
  rw[b3]
  unfold stL lgs
  simp only[List.flatMap_cons,List.flatMap_nil,List.append_assoc,List.append_nil,List.cons_append,List.nil_append]
 have hl:(3::stL a b c t u).length=93:=by rw[List.length_cons,n3g a b c t u ht]
 have e1:=t35a 3 1 (by omega) (by omega)
 have e2:=t88 [a,b,c] (bes 3 1) (by simp) (by simp[s1c])
 have e3:=t35b (IntKind.wrap .u64 u) 4 (by omega) (bes 3 1++lgs [a,b,c]++t) (by simp[s1c,i3s,ht])
 rw[hb]at e3
 have eA:=t31 (l:=3::stL a b c t u) (by omega)
 have eB:=q12 (3::stL a b c t u) (by omega)
 have eC:=t35b (IntKind.wrap .u64 (N (Sm (3::stL a b c t u)))) 4 (by omega) (3::stL a b c t u) (by omega)
 have eD:=t31 (l:=chk (3::stL a b c t u)) (by rw[w1n];omega)
 rw[w3m]
 refine z3j _ _ _ _ _ ht _ ?_
 unfold c4u
 dsimp only
 erw[e1]
 refine a0c rfl (a0a rfl ?_)
 erw[e2]
 refine a0a rfl ?_
 refine a0a (decide_eq_true (show((bes 3 1++lgs [a,b,c]).length+t.length)*1≤140737488355328 by simp only[List.length_append,i3s,s1c,ht,List.length_cons,List.length_nil];omega)) ?_
 erw[e3]
 refine a0a rfl ?_
 erw[eA]
 refine a0a rfl ?_
 erw[eB]
 refine a0a rfl ?_
 erw[eC]
 refine a0a rfl ?_
 erw[eD]
 rfl
def logL (e y a b c:Int)(t:List Int)(u:Int):List Int:=[4]++bes (IntKind.wrap .u64 e) 8++bes (IntKind.wrap .u64 y) 8++stL a b c t u
theorem o3n (e y a b c:Int)(t:List Int)(u:Int)(ht:t.length=64):(logL e y a b c t u).length=109:=by unfold logL;simp only[List.length_append,s1c,n3g a b c t u ht];rfl
theorem p12 (e y a b c:Int)(t:List Int)(u:Int)(ht:t.length=64):i3t [.n e,.n y,.n a,.n b,.n c,.l TB t,.n u]=some (0,[.l TB (bif win 1099511627776 [e,y]then chk (logL e y a b c t u)else[])]):=by
 have hb:bes 4 1++lgs [IntKind.wrap .u64 e,IntKind.wrap .u64 y]++lgs [a,b,c]++t++bes (IntKind.wrap .u64 u) 4=logL e y a b c t u:=by
  rw[b4]
  unfold logL stL lgs
  simp only[List.flatMap_cons,List.flatMap_nil,List.append_assoc,List.append_nil,List.cons_append,List.nil_append]
 have hl:=o3n e y a b c t u ht
 have e1:=t80 1099511627776 [e,y] (by simp)
 have e2:=t35a 4 1 (by omega) (by omega)
 have e3:=t88 [IntKind.wrap .u64 e,IntKind.wrap .u64 y] (bes 4 1) (by simp) (by simp[s1c])
 have e4:=t88 [a,b,c] (bes 4 1++lgs [IntKind.wrap .u64 e,IntKind.wrap .u64 y]) (by simp) (by simp[s1c,i3s])
 have e5:=t35b (IntKind.wrap .u64 u) 4 (by omega) (bes 4 1++lgs [IntKind.wrap .u64 e,IntKind.wrap .u64 y]++lgs [a,b,c]++t) (by simp[s1c,i3s,ht])
 rw[hb]at e5
 have eA:=t31 (l:=logL e y a b c t u) (by omega)
 have eB:=q12 (logL e y a b c t u) (by omega)
 have eC:=t35b (IntKind.wrap .u64 (N (Sm (logL e y a b c t u)))) 4 (by omega) (logL e y a b c t u) (by omega)
 have eD:=t31 (l:=chk (logL e y a b c t u)) (by rw[w1n];omega)
 rw[t3x]
 refine a4i _ _ _ _ _ _ _ ht _ ?_
 unfold d4z
 dsimp only
 erw[e1]
 cases hw:win 1099511627776 [e,y]with
 |false=>rfl
 |true=>
  refine a0a rfl (a0a rfl ?_)
  erw[e2]
  refine a0c rfl (a0a rfl ?_)
  erw[e3]
  refine a0a rfl ?_
  erw[e4]
  refine a0a rfl ?_
  refine a0a (decide_eq_true (show((bes 4 1++lgs [IntKind.wrap .u64 e,IntKind.wrap .u64 y]++lgs [a,b,c]).length+t.length)*1≤140737488355328 by simp only[List.length_append,i3s,s1c,ht,List.length_cons,List.length_nil];omega)) ?_
  erw[e5]
  refine a0a rfl ?_
  erw[eA]
  refine a0a rfl ?_
  erw[eB]
  refine a0a rfl ?_
  erw[eC]
  refine a0a rfl ?_
  erw[eD]
  rfl
def liL (x y s k:Int)(l:List Int):List Int:=[5,x,y]++bes (IntKind.wrap .u64 s) 8++bes (IntKind.wrap .u64 k) 8++bes (IntKind.wrap .u64 (l.length:Int)) 2++l
theorem s3j (x y s k:Int)(l:List Int):(liL x y s k l).length=21+l.length:=by unfold liL;simp only[List.length_append,s1c];rfl
theorem t60 (x y s k:Int)(l:List Int):j2c [.n x,.n y,.n s,.n k,.l TB l]=some (0,[.b (win 4611686018427387904 [s,k]&&decide ((l.length:Int)≤2048))]):=by
 have e1:=t80 4611686018427387904 [s,k] (by simp)
 rw[v1v]
 refine c2x _ _ _ _ _ _ ?_
 unfold l2c
 dsimp only
 erw[e1]
 cases hw:win 4611686018427387904 [s,k]with
 |false=>rfl
 |true=>rfl
theorem t71 (x y s k:Int)(l:List Int)(hx:0≤x∧x<256)(hy:0≤y∧y<256)(hl:l.length≤2048):i4x [.n x,.n y,.n s,.n k,.l TB l,.l TB (bes 5 1)]=some (0,[.l TB (liL x y s k l)]):=by
 have hu:IntKind.wrap .u64 (IntKind.wrap .u16 (l.length:Int))=IntKind.wrap .u64 (l.length:Int):=by rw[wu16,wu64,wu64];omega
 have hb:bes 5 1++bes (IntKind.wrap .u64 x) 1++bes (IntKind.wrap .u64 y) 1++lgs [IntKind.wrap .u64 s,IntKind.wrap .u64 k]++bes (IntKind.wrap .u64 (IntKind.wrap .u16 (l.length:Int))) 2++l=liL x y s k l:=by
  rw[b5,bes1 hx.1 hx.2,bes1 hy.1 hy.2,hu]
  unfold liL lgs
  simp only[List.flatMap_cons,List.flatMap_nil,List.append_assoc,List.append_nil,List.cons_append,List.nil_append]
 have e1:=t35b (IntKind.wrap .u64 x) 1 (by omega) (bes 5 1) (by simp[s1c])
 have e2:=t35b (IntKind.wrap .u64 y) 1 (by omega) (bes 5 1++bes (IntKind.wrap .u64 x) 1) (by simp[s1c])
 have e3:=t88 [IntKind.wrap .u64 s,IntKind.wrap .u64 k] (bes 5 1++bes (IntKind.wrap .u64 x) 1++bes (IntKind.wrap .u64 y) 1) (by simp) (by simp[s1c])
 have e4:=t35b (IntKind.wrap .u64 (IntKind.wrap .u16 (l.length:Int))) 2 (by omega) (bes 5 1++bes (IntKind.wrap .u64 x) 1++bes (IntKind.wrap .u64 y) 1++lgs [IntKind.wrap .u64 s,IntKind.wrap .u64 k]) (by simp[s1c,i3s])
 rw[b4x]
 refine e4o _ _ _ _ _ _ _ ?_
 unfold j4v
 dsimp only
 erw[e1]
 refine a0a rfl ?_
 erw[e2]
 refine a0a rfl ?_
 erw[e3]
 refine a0a rfl ?_
 erw[e4]
 refine a0a rfl ?_
 refine a0a (decide_eq_true (show((bes 5 1++bes (IntKind.wrap .u64 x) 1++bes (IntKind.wrap .u64 y) 1++lgs [IntKind.wrap .u64 s,IntKind.wrap .u64 k]++bes (IntKind.wrap .u64 (IntKind.wrap .u16 (l.length:Int))) 2).length+l.length)*1≤140737488355328 by simp only[List.length_append,i3s,s1c,List.length_cons,List.length_nil];omega)) ?_
 exact congrArg (fun z:List Int=>some (0,[Dat.l TB z])) hb
theorem p13 (x y s k:Int)(l:List Int)(hx:0≤x∧x<256)(hy:0≤y∧y<256):i3u [.n x,.n y,.n s,.n k,.l TB l]=some (0,[.l TB (bif win 4611686018427387904 [s,k]&&decide ((l.length:Int)≤2048)then chk (liL x y s k l)else[])]):=by
 have e1:=t60 x y s k l
 rw[u3k]
 refine b4c _ _ _ _ _ _ ?_
 unfold b4o
 dsimp only
 erw[e1]
 cases hw:win 4611686018427387904 [s,k]&&decide ((l.length:Int)≤2048)with
 |false=>rfl
 |true=>
  rw[Bool.and_eq_true]at hw
  have h2:=of_decide_eq_true hw.2
  have hn:l.length≤2048:=by omega
  have hl:=s3j x y s k l
  have e2:=t35a 5 1 (by omega) (by omega)
  have e3:=t71 x y s k l hx hy hn
  have eA:=t31 (l:=liL x y s k l) (by omega)
  have eB:=q12 (liL x y s k l) (by omega)
  have eC:=t35b (IntKind.wrap .u64 (N (Sm (liL x y s k l)))) 4 (by omega) (liL x y s k l) (by omega)
  have eD:=t31 (l:=chk (liL x y s k l)) (by rw[w1n];omega)
  refine a0a rfl (a0a rfl ?_)
  erw[e2]
  refine a0c rfl (a0a rfl ?_)
  erw[e3]
  refine a0a rfl ?_
  erw[eA]
  refine a0a rfl ?_
  erw[eB]
  refine a0a rfl ?_
  erw[eC]
  refine a0a rfl ?_
  erw[eD]
  rfl
theorem i4i {m a b:Int}(h:0≤a∧a≤m∧0≤b∧b≤m):win m [a,b]=true:=by
 unfold win;simp;omega
theorem j3x {m a b:Int}(h: ¬(0≤a∧a≤m∧0≤b∧b≤m)):win m [a,b]=false:=by
 cases hh:win m [a,b]with
 |false=>rfl
 |true=>exfalso;apply h;unfold win at hh;simp at hh;omega
theorem ndt {p:Prop}[Decidable p](h:p):(!decide p)=false:=by rw[decide_eq_true h];rfl
theorem ndf {p:Prop}[Decidable p](h: ¬p):(!decide p)=true:=by rw[decide_eq_false h];rfl
theorem Wb.app {a b:List Int}(h:Wb a)(k:Wb b):Wb (a++b):=fun x hx=>(List.mem_append.1 hx).elim (h x) (k x)
theorem Wb.cons {a:Int}{b:List Int}(h:0≤a∧a<256)(k:Wb b):Wb (a::b):=fun x hx=>(List.mem_cons.1 hx).elim (fun e=>e▸h) (k x)
theorem Wb.nil:Wb []:=fun x hx=>by cases hx
theorem j4z {a b c:Int}{t:List Int}{u:Int}(h:Wb t):Wb (stL a b c t u):=(((h3m _ _).app (h3m _ _)).app (h3m _ _)).app h|>.app (h3m _ _)
theorem i4w {e y a b c:Int}{t:List Int}{u:Int}(h:Wb t):Wb (logL e y a b c t u):=(((Wb.nil.cons (a:=4) (by omega)).app (h3m _ _)).app (h3m _ _)).app (j4z h)
theorem liL_wb {x y s k:Int}{l:List Int}(hx:0≤x∧x<256)(hy:0≤y∧y<256)(h:Wb l):Wb (liL x y s k l):=((((Wb.nil.cons hy).cons hx).cons (a:=5) (by omega)).app (h3m _ _)).app (h3m _ _)|>.app (h3m _ _)|>.app h
theorem m16 (c y p q u:Int)(h0:0≤c)(h1:c<256):m3m [.n c,.n y,.n p,.n q,.n u]=some (0,[.l TB (bif win 1099511627776 [y,p]then chk (outB c y p q u)else[])]):=by
 have hl:=o3f c y p q u
 have e1:=t30 (IntKind.wrap .u64 y) 8 (by omega)
 have e2:=t30 (IntKind.wrap .u64 p) 8 (by omega)
 have e3:=t30 q 8 (by omega)
 have e4:=t30 (IntKind.wrap .u64 u) 4 (by omega)
 have e5:=q13 (outB c y p q u) (by omega) (i4k c y p q u h0 h1)
 have e6:=t30 (IntKind.wrap .u64 (N (Sm (outB c y p q u)))) 4 (by omega)
 rw[t3b]
 refine b4n _ _ _ _ _ _ ?_
 unfold b4w
 dsimp only
 by_cases y0:y≥0
 ·refine a0a (decide_eq_true y0) ?_
  by_cases y1:y≤1099511627776
  ·refine a0c (ndt y1) ?_
   by_cases p0:p≥0
   ·refine a0a (decide_eq_true p0) ?_
    by_cases p1:p≤1099511627776
    ·refine a0c (ndt p1) ?_
     rw[i4i ⟨y0,y1,p0,p1⟩]
     erw[e1]
     refine a0a rfl ?_
     refine a0a (decide_eq_true (show(([2,c]:List Int).length+(bes (IntKind.wrap .u64 y) 8).length)*1≤140737488355328 by simp only[List.length_append,s1c,List.length_cons,List.length_nil];omega)) ?_
     erw[e2]
     refine a0a rfl ?_
     refine a0a (decide_eq_true (show(([2,c]++bes (IntKind.wrap .u64 y) 8:List Int).length+(bes (IntKind.wrap .u64 p) 8).length)*1≤140737488355328 by simp only[List.length_append,s1c,List.length_cons,List.length_nil];omega)) ?_
     erw[e3]
     refine a0a rfl ?_
     refine a0a (decide_eq_true (show(([2,c]++bes (IntKind.wrap .u64 y) 8++bes (IntKind.wrap .u64 p) 8:List Int).length+(bes q 8).length)*1≤140737488355328 by simp only[List.length_append,s1c,List.length_cons,List.length_nil];omega)) ?_
     erw[e4]
     refine a0a rfl ?_
     refine a0a (decide_eq_true (show(([2,c]++bes (IntKind.wrap .u64 y) 8++bes (IntKind.wrap .u64 p) 8++bes q 8:List Int).length+(bes (IntKind.wrap .u64 u) 4).length)*1≤140737488355328 by simp only[List.length_append,s1c,List.length_cons,List.length_nil];omega)) ?_
     erw[e5]
     refine a0a rfl ?_
     erw[e6]
     refine a0a rfl ?_
     refine a0a (decide_eq_true (show((outB c y p q u:List Int).length+(bes (IntKind.wrap .u64 (N (Sm (outB c y p q u)))) 4).length)*1≤140737488355328 by simp only[List.length_append,s1c,List.length_cons,List.length_nil,hl];omega)) ?_
     rfl
    ·rw[j3x (by omega)];exact a0a (ndf p1) rfl
   ·rw[j3x (by omega)];exact a0c (decide_eq_false p0) rfl
  ·rw[j3x (by omega)];exact a0a (ndf y1) rfl
 ·rw[j3x (by omega)];exact a0c (decide_eq_false y0) rfl
theorem lp43 (a b c u:Int)(t:List Int)(ht:t.length=64): ∀(k i:Nat) (l:List Int) (f:Nat),i+k=64→l.length+k≤100000→k<f→a0b j3h f [.k 0,.n (i:Int),.n a,.n b,.n c,.l TB t,.n u,.l TB l]=some (0,[.n a,.n b,.n c,.l TB t,.n u,.l TB (l++t.drop i)])
 |_,_,_,0,_,_,h=>by omega
 |0,i,l,f+1,hi,hl,hf=>by
  have e:(j3h [.k 0,.n (i:Int),.n a,.n b,.n c,.l TB t,.n u,.l TB l]).sel=some (.stop 0 [.n a,.n b,.n c,.l TB t,.n u,.l TB l]):=by
   refine m3f _ _ _ _ t _ l ht (by omega) _ ?_
   unfold n3f
   exact a0c (decide_eq_false (by omega)) rfl
  unfold a0b
  rw[e,List.drop_eq_nil_of_le (by omega)]
  exact congrArg (fun z:List Int=>some (0,[Dat.n a,.n b,.n c,.l TB t,.n u,.l TB z])) (List.append_nil l).symm
 |k+1,i,l,f+1,hi,hl,hf=>by
  have w:IntKind.wrap .i64 ((i:Int)+1)=((i+1:Nat):Int):=by rw[w64d];omega
  have e:(j3h [.k 0,.n (i:Int),.n a,.n b,.n c,.l TB t,.n u,.l TB l]).sel=some (.go [.k 0,.n ((i+1:Nat):Int),.n a,.n b,.n c,.l TB t,.n u,.l TB (l++[t.getD i 0])]):=by
   refine m3f _ _ _ _ t _ l ht (by omega) _ ?_
   unfold n3f
   refine a0a (decide_eq_true (by omega)) (a0a (decide_eq_true (show(l.length+1)*1≤140737488355328 by omega)) ?_)
   rw[w];rfl
  unfold a0b
  rw[e]
  have ih:=lp43 a b c u t ht k (i+1) (l++[t.getD i 0]) f (by omega) (by rw[List.length_append];simp;omega) (by omega)
  rw[m3x (show i<t.length by omega)]
  rw[List.append_assoc]at ih
  exact ih
theorem t43 (a b c:Int)(t:List Int)(u:Int)(ht:t.length=64):c2l [.n a,.n b,.n c,.l TB t,.n u]=some (0,[.l TB (stL a b c t u)]):=by
 have e1:=t30 a 8 (by omega)
 have e2:=t30 b 8 (by omega)
 have e3:=t30 c 8 (by omega)
 have e4:o3j [.k 0,.n 0,.n a,.n b,.n c,.l TB t,.n u,.l TB (bes a 8++bes b 8++bes c 8)]=some (0,[.n a,.n b,.n c,.l TB t,.n u,.l TB (bes a 8++bes b 8++bes c 8++t)]):=by
  rw[p3q]
  exact lp43 a b c u t ht 64 0 (bes a 8++bes b 8++bes c 8) FU (by omega) (by simp[s1c]) (by unfold FU;omega)
 have e5:=t30 (IntKind.wrap .u64 u) 4 (by omega)
 rw[h1q]
 refine f1j _ _ _ _ _ ht _ ?_
 unfold q1q
 dsimp only
 erw[e1]
 refine a0a rfl ?_
 erw[e2]
 refine a0a rfl ?_
 refine a0a (decide_eq_true (show((bes a 8:List Int).length+(bes b 8).length)*1≤140737488355328 by simp only[List.length_append,s1c,List.length_cons,List.length_nil];omega)) ?_
 erw[e3]
 refine a0a rfl ?_
 refine a0a (decide_eq_true (show((bes a 8++bes b 8:List Int).length+(bes c 8).length)*1≤140737488355328 by simp only[List.length_append,s1c,List.length_cons,List.length_nil];omega)) ?_
 erw[e4]
 refine a0a rfl ?_
 erw[e5]
 refine a0a rfl ?_
 refine a0a (decide_eq_true (show((bes a 8++bes b 8++bes c 8++t:List Int).length+(bes (IntKind.wrap .u64 u) 4).length)*1≤140737488355328 by simp only[List.length_append,s1c,List.length_cons,List.length_nil,ht];omega)) ?_
 rfl
theorem m18 (a b c:Int)(t:List Int)(u:Int)(ht:t.length=64)(hw:Wb t):l3z [.n a,.n b,.n c,.l TB t,.n u]=some (0,[.l TB (chk (3::stL a b c t u))]):=by
 have hs:=n3g a b c t u ht
 have hl:(3::stL a b c t u).length=93:=by rw[List.length_cons,hs]
 have e1:=t43 a b c t u ht
 have e2:=q13 (3::stL a b c t u) (by omega) ((j4z hw).cons (by omega))
 have e3:=t30 (IntKind.wrap .u64 (N (Sm (3::stL a b c t u)))) 4 (by omega)
 rw[w3i]
 refine a4m _ _ _ _ _ ht _ ?_
 unfold d4d
 dsimp only
 erw[e1]
 refine a0a rfl ?_
 refine a0a (decide_eq_true (show(([3]:List Int).length+(stL a b c t u).length)*1≤140737488355328 by simp only[List.length_append,s1c,List.length_cons,List.length_nil,hs];omega)) ?_
 erw[e2]
 refine a0a rfl ?_
 erw[e3]
 refine a0a rfl ?_
 refine a0a (decide_eq_true (show((3::stL a b c t u:List Int).length+(bes (IntKind.wrap .u64 (N (Sm (3::stL a b c t u)))) 4).length)*1≤140737488355328 by simp only[List.length_append,s1c,List.length_cons,List.length_nil,hs];omega)) ?_
 rfl
theorem m19 (e y a b c:Int)(t:List Int)(u:Int)(ht:t.length=64)(hw:Wb t):l3x [.n e,.n y,.n a,.n b,.n c,.l TB t,.n u]=some (0,[.l TB (bif win 1099511627776 [e,y]then chk (logL e y a b c t u)else[])]):=by
 have hs:=n3g a b c t u ht
 have hl:=o3n e y a b c t u ht
 have e1:=t30 (IntKind.wrap .u64 e) 8 (by omega)
 have e2:=t30 (IntKind.wrap .u64 y) 8 (by omega)
 have e3:=t43 a b c t u ht
 have e4:=q13 (logL e y a b c t u) (by omega) (i4w hw)
 have e5:=t30 (IntKind.wrap .u64 (N (Sm (logL e y a b c t u)))) 4 (by omega)
 rw[w3h]
 refine z3h _ _ _ _ _ _ _ ht _ ?_
 unfold b4u
 dsimp only
 by_cases y0:e≥0
 ·refine a0a (decide_eq_true y0) ?_
  by_cases y1:e≤1099511627776
  ·refine a0c (ndt y1) ?_
   by_cases p0:y≥0
   ·refine a0a (decide_eq_true p0) ?_
    by_cases p1:y≤1099511627776
    ·refine a0c (ndt p1) ?_
     rw[i4i ⟨y0,y1,p0,p1⟩]
     erw[e1]
     refine a0a rfl ?_
     refine a0a (decide_eq_true (show(([(4:Int)]:List Int).length+(bes (IntKind.wrap .u64 e) 8).length)*1≤140737488355328 by simp only[List.length_append,s1c,List.length_cons,List.length_nil,hs];omega)) ?_
     erw[e2]
     refine a0a rfl ?_
     refine a0a (decide_eq_true (show(([(4:Int)]++bes (IntKind.wrap .u64 e) 8:List Int).length+(bes (IntKind.wrap .u64 y) 8).length)*1≤140737488355328 by simp only[List.length_append,s1c,List.length_cons,List.length_nil,hs];omega)) ?_
     erw[e3]
     refine a0a rfl ?_
     refine a0a (decide_eq_true (show(([(4:Int)]++bes (IntKind.wrap .u64 e) 8++bes (IntKind.wrap .u64 y) 8:List Int).length+(stL a b c t u).length)*1≤140737488355328 by simp only[List.length_append,s1c,List.length_cons,List.length_nil,hs];omega)) ?_
     erw[e4]
     refine a0a rfl ?_
     erw[e5]
     refine a0a rfl ?_
     refine a0a (decide_eq_true (show((logL e y a b c t u:List Int).length+(bes (IntKind.wrap .u64 (N (Sm (logL e y a b c t u)))) 4).length)*1≤140737488355328 by simp only[List.length_append,s1c,List.length_cons,List.length_nil,hl];omega)) ?_
     rfl
    ·rw[j3x (by omega)];exact a0a (ndf p1) rfl
   ·rw[j3x (by omega)];exact a0c (decide_eq_false p0) rfl
  ·rw[j3x (by omega)];exact a0a (ndf y1) rfl
 ·rw[j3x (by omega)];exact a0c (decide_eq_false y0) rfl
theorem m21 (x y s k:Int)(z:ByteArray)(hx:0≤x∧x<256)(hy:0≤y∧y<256)(hwz:Wb (c0b z)):m3y [.n x,.n y,.n s,.n k,.s z]=some (0,[.l TB (bif win 4611686018427387904 [s,k]&&decide (((c0b z).length:Int)≤2048)then chk (liL x y s k (c0b z))else[])]):=by
 have hz:(c0b z).length=z.size:=h0z z
 rw[x3l]
 refine b4h _ _ _ _ _ _ ?_
 unfold c4x
 dsimp only
 by_cases s0:s<0
 ·rw[j3x (by omega)];exact a0a (decide_eq_true s0) rfl
 ·refine a0c (decide_eq_false s0) ?_
  by_cases s1:s>4611686018427387904
  ·rw[j3x (by omega)];exact a0a (decide_eq_true s1) rfl
  ·refine a0c (decide_eq_false s1) ?_
   by_cases k0:k<0
   ·rw[j3x (by omega)];exact a0a (decide_eq_true k0) rfl
   ·refine a0c (decide_eq_false k0) ?_
    by_cases k1:k>4611686018427387904
    ·rw[j3x (by omega)];exact a0a (decide_eq_true k1) rfl
    ·refine a0c (decide_eq_false k1) ?_
     rw[i4i (by omega)]
     by_cases z1:(z.size:Int)>2048
     ·have h2:decide (((c0b z).length:Int)≤2048)=false:=decide_eq_false (by omega)
      rw[h2];exact a0a (decide_eq_true z1) rfl
     ·refine a0c (decide_eq_false z1) ?_
      have h2:decide (((c0b z).length:Int)≤2048)=true:=decide_eq_true (by omega)
      rw[h2]
      have hl:=s3j x y s k (c0b z)
      have hq:[5,x,y]++bes (IntKind.wrap .u64 s) 8++bes (IntKind.wrap .u64 k) 8++bes (IntKind.wrap .u64 (z.size:Int)) 2++c0b z++bes (IntKind.wrap .u64 (N (Sm (liL x y s k (c0b z))))) 4=chk (liL x y s k (c0b z)):=by
       unfold chk
       rw[show liL x y s k (c0b z)=[5,x,y]++bes (IntKind.wrap .u64 s) 8++bes (IntKind.wrap .u64 k) 8++bes (IntKind.wrap .u64 (z.size:Int)) 2++c0b z from by unfold liL;rw[hz]]
      have hq0:[5,x,y]++bes (IntKind.wrap .u64 s) 8++bes (IntKind.wrap .u64 k) 8++bes (IntKind.wrap .u64 (z.size:Int)) 2++c0b z=liL x y s k (c0b z):=by unfold liL;rw[hz]
      have e1:=t30 (IntKind.wrap .u64 s) 8 (by omega)
      have e2:=t30 (IntKind.wrap .u64 k) 8 (by omega)
      have e3:=t30 (IntKind.wrap .u64 (z.size:Int)) 2 (by omega)
      have e4:=q13 (liL x y s k (c0b z)) (by omega) (liL_wb hx hy hwz)
      rw[←hq0]at e4
      have e5:=t30 (IntKind.wrap .u64 (N (Sm (liL x y s k (c0b z))))) 4 (by omega)
      rw[←hq0]at e5
      erw[e1]
      refine a0a rfl ?_
      refine a0a (decide_eq_true (show(([5,x,y]:List Int).length+(bes (IntKind.wrap .u64 s) 8).length)*1≤140737488355328 by simp only[List.length_append,s1c,List.length_cons,List.length_nil];omega)) ?_
      erw[e2]
      refine a0a rfl ?_
      refine a0a (decide_eq_true (show(([5,x,y]++bes (IntKind.wrap .u64 s) 8:List Int).length+(bes (IntKind.wrap .u64 k) 8).length)*1≤140737488355328 by simp only[List.length_append,s1c,List.length_cons,List.length_nil];omega)) ?_
      erw[e3]
      refine a0a rfl ?_
      refine a0a (decide_eq_true (show(([5,x,y]++bes (IntKind.wrap .u64 s) 8++bes (IntKind.wrap .u64 k) 8:List Int).length+(bes (IntKind.wrap .u64 (z.size:Int)) 2).length)*1≤140737488355328 by simp only[List.length_append,s1c,List.length_cons,List.length_nil];omega)) ?_
      refine a0a (decide_eq_true (show(([5,x,y]++bes (IntKind.wrap .u64 s) 8++bes (IntKind.wrap .u64 k) 8++bes (IntKind.wrap .u64 (z.size:Int)) 2:List Int).length+(c0b z).length)*1≤140737488355328 by simp only[List.length_append,s1c,List.length_cons,List.length_nil,hz];omega)) ?_
      erw[e4]
      refine a0a rfl ?_
      erw[e5]
      refine a0a rfl ?_
      refine a0a (decide_eq_true (show(([5,x,y]++bes (IntKind.wrap .u64 s) 8++bes (IntKind.wrap .u64 k) 8++bes (IntKind.wrap .u64 (z.size:Int)) 2++c0b z:List Int).length+(bes (IntKind.wrap .u64 (N (Sm ([5,x,y]++bes (IntKind.wrap .u64 s) 8++bes (IntKind.wrap .u64 k) 8++bes (IntKind.wrap .u64 (z.size:Int)) 2++c0b z)))) 4).length)*1≤140737488355328 by simp only[List.length_append,s1c,List.length_cons,List.length_nil,hl,hz];omega)) ?_
      rw[←hq0]at hq⊢
      exact congrArg (fun z:List Int=>some (0,[Dat.l TB z])) hq
abbrev Cmd:=Ty.den TC
def ck (a b:Int):Bool:= !decide (a<1)&&(!decide (a>3)&&win 63 [b])
def cb (a b:Int):List Int:=[a,IntKind.wrap .u8 b]
def h3w (x:Cmd):Bool:=ck (Prod.fst x) (Prod.snd x)
def c1 (l:List Cmd)(i:Nat):Int:=Prod.fst (List.getD l i (Ty.dflt TC))
def c2 (l:List Cmd)(i:Nat):Int:=Prod.snd (List.getD l i (Ty.dflt TC))
def cms (l:List Cmd):List Int:=l.flatMap fun x=>cb (Prod.fst x) (Prod.snd x)
theorem y3r (l:List Cmd):(cms l).length=2*l.length:=by
 induction l with
 |nil=>rfl
 |cons a l ih=>
  have h:cms (a::l)=cb (Prod.fst a) (Prod.snd a)++cms l:=rfl
  rw[h,List.length_append,ih,List.length_cons]
  show 2+2*l.length=_
  omega
theorem q3e {l:List Cmd}{i:Nat}(h:i<l.length):l.drop i=l.getD i (Ty.dflt TC)::l.drop (i+1):=by
 rw[List.drop_eq_getElem_cons h,List.getD_eq_getElem?_getD,List.getElem?_eq_getElem h];rfl
theorem lp46 (c y o a b:Int)(l:List Cmd)(hl:l.length≤1000000): ∀(k i f:Nat),i+k=l.length→k<f→a0b i3i f [.k 0,.l TC l,.n (l.length:Int),.n (i:Int),.n c,.n y,.n o,.n a,.n b,.l TC l]=(bif (l.drop i).all h3w then some (0,[.n c,.n y,.n o,.n a,.n b,.l TC l])else some (1,[.b false]))
 |_,_,0,_,h=>by omega
 |0,i,f+1,hi,hf=>by
  have e:(i3i [.k 0,.l TC l,.n (l.length:Int),.n (i:Int),.n c,.n y,.n o,.n a,.n b,.l TC l]).sel=some (.stop 0 [.n c,.n y,.n o,.n a,.n b,.l TC l]):=by
   refine i3j l _ _ _ _ _ _ _ l (by omega) rfl _ ?_
   unfold i3z
   exact a0c (decide_eq_false (show¬((i:Int)<(l.length:Int)) by omega)) rfl
  unfold a0b
  rw[e,List.drop_eq_nil_of_le (by omega)]
  rfl
 |k+1,i,f+1,hi,hf=>by
  have w:IntKind.wrap .i64 ((i:Int)+1)=((i+1:Nat):Int):=by rw[w64d];omega
  have hd:=q3e (l:=l) (show i<l.length by omega)
  have hlt:(i:Int)<(l.length:Int):=by omega
  have ih:=lp46 c y o a b l hl k (i+1) f (by omega) (by omega)
  rw[hd,List.all_cons]
  by_cases h1:c1 l i<1
  ·have e:(i3i [.k 0,.l TC l,.n (l.length:Int),.n (i:Int),.n c,.n y,.n o,.n a,.n b,.l TC l]).sel=some (.stop 1 [.b false]):=by
    refine i3j l _ _ _ _ _ _ _ l (by omega) rfl _ ?_
    unfold i3z
    exact a0a (decide_eq_true hlt) (a0a (decide_eq_true h1) rfl)
   have hc:h3w (l.getD i (Ty.dflt TC))=false:=by show ck (c1 l i) (c2 l i)=_;unfold ck;rw[decide_eq_true h1];rfl
   unfold a0b
   rw[e,hc]
   rfl
  ·by_cases h2:c1 l i>3
   ·have e:(i3i [.k 0,.l TC l,.n (l.length:Int),.n (i:Int),.n c,.n y,.n o,.n a,.n b,.l TC l]).sel=some (.stop 1 [.b false]):=by
     refine i3j l _ _ _ _ _ _ _ l (by omega) rfl _ ?_
     unfold i3z
     exact a0a (decide_eq_true hlt) (a0c (decide_eq_false h1) (a0a (decide_eq_true h2) rfl))
    have hc:h3w (l.getD i (Ty.dflt TC))=false:=by show ck (c1 l i) (c2 l i)=_;unfold ck;rw[decide_eq_true h2,decide_eq_false h1];rfl
    unfold a0b
    rw[e,hc]
    rfl
   ·have e8:=t80 63 [c2 l i] (by simp)
    have hc:h3w (l.getD i (Ty.dflt TC))=win 63 [c2 l i]:=by show ck (c1 l i) (c2 l i)=_;unfold ck;rw[decide_eq_false h2,decide_eq_false h1];rfl
    rw[hc]
    cases hw:win 63 [c2 l i]with
    |false=>
     rw[hw]at e8
     have e:(i3i [.k 0,.l TC l,.n (l.length:Int),.n (i:Int),.n c,.n y,.n o,.n a,.n b,.l TC l]).sel=some (.stop 1 [.b false]):=by
      refine i3j l _ _ _ _ _ _ _ l (by omega) rfl _ ?_
      unfold i3z
      refine a0a (decide_eq_true hlt) (a0c (decide_eq_false h1) (a0c (decide_eq_false h2) ?_))
      erw[e8]
      rfl
     unfold a0b
     rw[e]
     rfl
    |true=>
     rw[hw]at e8
     have e:(i3i [.k 0,.l TC l,.n (l.length:Int),.n (i:Int),.n c,.n y,.n o,.n a,.n b,.l TC l]).sel=some (.go [.k 0,.l TC l,.n (l.length:Int),.n ((i+1:Nat):Int),.n c,.n y,.n o,.n a,.n b,.l TC l]):=by
      refine i3j l _ _ _ _ _ _ _ l (by omega) rfl _ ?_
      unfold i3z
      refine a0a (decide_eq_true hlt) (a0c (decide_eq_false h1) (a0c (decide_eq_false h2) ?_))
      erw[e8]
      rw[w]
      rfl
     unfold a0b
     rw[e]
     exact ih
theorem t46 (c y o a b:Int)(l:List Cmd)(hl:l.length≤1000000):q1w [.n c,.n y,.n o,.n a,.n b,.l TC l]=some (0,[.b (l.all h3w&&(win 1099511627776 [y]&&decide ((l.length:Int)≤8)))]):=by
 have e1:o3o [.k 0,.l TC l,.n (l.length:Int),.n 0,.n c,.n y,.n o,.n a,.n b,.l TC l]=(bif l.all h3w then some (0,[.n c,.n y,.n o,.n a,.n b,.l TC l])else some (1,[.b false])):=by
  rw[p3h]
  exact lp46 c y o a b l hl l.length 0 FU (by omega) (by unfold FU;omega)
 have e2:=t80 1099511627776 [y] (by simp)
 rw[a2n]
 refine d2b _ _ _ _ _ _ _ ?_
 unfold i2f
 dsimp only
 cases h:l.all h3w with
 |false=>
  rw[h]at e1
  erw[e1]
  rfl
 |true=>
  rw[h]at e1
  erw[e1]
  refine a0a rfl ?_
  erw[e2]
  refine a0a rfl ?_
  cases hw:win 1099511627776 [y]with
  |false=>rfl
  |true=>rfl
theorem lp63 (l:List Cmd)(hl:l.length≤1000)(hf: ∀i,i<l.length→0≤c1 l i∧c1 l i<256): ∀(k i:Nat) (r:List Int) (f:Nat),i+k=l.length→r.length+2*k≤100000→k<f→a0b j3n f [.k 0,.l TC l,.n (l.length:Int),.n (i:Int),.l TB r]=some (0,[.l TB (r++cms (l.drop i))])
 |_,_,_,0,_,_,h=>by omega
 |0,i,r,f+1,hi,hr,hf'=>by
  have e:(j3n [.k 0,.l TC l,.n (l.length:Int),.n (i:Int),.l TB r]).sel=some (.stop 0 [.l TB r]):=by
   refine m3o l _ _ r (by omega) rfl _ ?_
   unfold n3d
   exact a0c (decide_eq_false (show¬((i:Int)<(l.length:Int)) by omega)) rfl
  unfold a0b
  rw[e,List.drop_eq_nil_of_le (by omega)]
  exact congrArg (fun z:List Int=>some (0,[Dat.l TB z])) (List.append_nil r).symm
 |k+1,i,r,f+1,hi,hr,hf'=>by
  have w:IntKind.wrap .i64 ((i:Int)+1)=((i+1:Nat):Int):=by rw[w64d];omega
  have hd:=q3e (l:=l) (show i<l.length by omega)
  have hlt:(i:Int)<(l.length:Int):=by omega
  have hx0:=hf i (by omega)
  have ih:=fun r h=>lp63 l hl hf k (i+1) r f (by omega) h (by omega)
  rw[hd]
  have e1:=t35b (IntKind.wrap .u64 (c1 l i)) 1 (by omega) r (by omega)
  rw[bes1 hx0.1 hx0.2]at e1
  have e2:=t35b (IntKind.wrap .u64 (IntKind.wrap .u8 (c2 l i))) 1 (by omega) (r++[c1 l i]) (by rw[List.length_append];simp;omega)
  rw[bes1 (by rw[wu8];omega) (by rw[wu8];omega)]at e2
  have e:(j3n [.k 0,.l TC l,.n (l.length:Int),.n (i:Int),.l TB r]).sel=some (.go [.k 0,.l TC l,.n (l.length:Int),.n ((i+1:Nat):Int),.l TB (r++[c1 l i]++[IntKind.wrap .u8 (c2 l i)])]):=by
   refine m3o l _ _ r (by omega) rfl _ ?_
   unfold n3d
   refine a0a (decide_eq_true hlt) ?_
   erw[e1]
   refine a0a rfl ?_
   erw[e2]
   refine a0a rfl ?_
   rw[w]
   rfl
  unfold a0b
  rw[e]
  have ih':=ih (r++[c1 l i]++[IntKind.wrap .u8 (c2 l i)]) (by simp only[List.length_append,List.length_cons,List.length_nil];omega)
  have hc:cms (l.getD i (Ty.dflt TC)::l.drop (i+1))=[c1 l i]++([IntKind.wrap .u8 (c2 l i)]++cms (l.drop (i+1))):=rfl
  rw[hc,←List.append_assoc,←List.append_assoc]
  exact ih'
theorem lp14 (c y o a b:Int)(l:List Cmd)(hl:l.length≤1000): ∀(k i:Nat) (r:List Int) (f:Nat),i+k=l.length→r.length+2*k≤100000→k<f→a0b h3o f [.k 0,.n (i:Int),.n c,.n y,.n o,.n a,.n b,.l TC l,.l TB r]=(bif (l.drop i).all h3w then some (0,[.l TB (r++cms (l.drop i))])else some (1,[]))
 |_,_,_,0,_,_,h=>by omega
 |0,i,r,f+1,hi,hr,hf'=>by
  have e:(h3o [.k 0,.n (i:Int),.n c,.n y,.n o,.n a,.n b,.l TC l,.l TB r]).sel=some (.stop 0 [.l TB r]):=by
   refine h3r _ _ _ _ _ _ l r (by omega) _ ?_
   unfold h3v
   exact a0c (decide_eq_false (show¬((i:Int)<(l.length:Int)) by omega)) rfl
  unfold a0b
  rw[e,List.drop_eq_nil_of_le (by omega)]
  exact congrArg (fun z:List Int=>some (0,[Dat.l TB z])) (List.append_nil r).symm
 |k+1,i,r,f+1,hi,hr,hf'=>by
  have w:IntKind.wrap .i64 ((i:Int)+1)=((i+1:Nat):Int):=by rw[w64d];omega
  have hd:=q3e (l:=l) (show i<l.length by omega)
  have hlt:(i:Int)<(l.length:Int):=by omega
  have ih:=fun r h=>lp14 c y o a b l hl k (i+1) r f (by omega) h (by omega)
  rw[hd,List.all_cons]
  have hwin:win 63 [c2 l i]=(!decide (c2 l i<0)&&(!decide (c2 l i>63)&&true)):=by unfold win;simp
  by_cases h1:c1 l i<1
  ·have hc:h3w (l.getD i (Ty.dflt TC))=false:=by show ck (c1 l i) (c2 l i)=_;unfold ck;rw[hwin];simp[h1]
   have e:(h3o [.k 0,.n (i:Int),.n c,.n y,.n o,.n a,.n b,.l TC l,.l TB r]).sel=some (.stop 1 []):=by
    refine h3r _ _ _ _ _ _ l r (by omega) _ ?_
    unfold h3v
    exact a0a (decide_eq_true hlt) (a0a (decide_eq_true h1) rfl)
   unfold a0b
   rw[e,hc]
   rfl
  by_cases h2:c1 l i>3
  ·have hc:h3w (l.getD i (Ty.dflt TC))=false:=by show ck (c1 l i) (c2 l i)=_;unfold ck;rw[hwin];simp[h2]
   have e:(h3o [.k 0,.n (i:Int),.n c,.n y,.n o,.n a,.n b,.l TC l,.l TB r]).sel=some (.stop 1 []):=by
    refine h3r _ _ _ _ _ _ l r (by omega) _ ?_
    unfold h3v
    exact a0a (decide_eq_true hlt) (a0c (decide_eq_false h1) (a0a (decide_eq_true h2) rfl))
   unfold a0b
   rw[e,hc]
   rfl
  by_cases h3:c2 l i<0
  ·have hc:h3w (l.getD i (Ty.dflt TC))=false:=by show ck (c1 l i) (c2 l i)=_;unfold ck;rw[hwin];simp[h3]
   have e:(h3o [.k 0,.n (i:Int),.n c,.n y,.n o,.n a,.n b,.l TC l,.l TB r]).sel=some (.stop 1 []):=by
    refine h3r _ _ _ _ _ _ l r (by omega) _ ?_
    unfold h3v
    exact a0a (decide_eq_true hlt) (a0c (decide_eq_false h1) (a0c (decide_eq_false h2) (a0a (decide_eq_true h3) rfl)))
   unfold a0b
   rw[e,hc]
   rfl
  by_cases h4:c2 l i>63
  ·have hc:h3w (l.getD i (Ty.dflt TC))=false:=by show ck (c1 l i) (c2 l i)=_;unfold ck;rw[hwin];simp[h4]
   have e:(h3o [.k 0,.n (i:Int),.n c,.n y,.n o,.n a,.n b,.l TC l,.l TB r]).sel=some (.stop 1 []):=by
    refine h3r _ _ _ _ _ _ l r (by omega) _ ?_
    unfold h3v
    exact a0a (decide_eq_true hlt) (a0c (decide_eq_false h1) (a0c (decide_eq_false h2) (a0c (decide_eq_false h3) (a0a (decide_eq_true h4) rfl))))
   unfold a0b
   rw[e,hc]
   rfl
  have hc:h3w (l.getD i (Ty.dflt TC))=true:=by show ck (c1 l i) (c2 l i)=_;unfold ck;rw[hwin];rw[decide_eq_false h1,decide_eq_false h2,decide_eq_false h3,decide_eq_false h4];rfl
  have e:(h3o [.k 0,.n (i:Int),.n c,.n y,.n o,.n a,.n b,.l TC l,.l TB r]).sel=some (.go [.k 0,.n ((i+1:Nat):Int),.n c,.n y,.n o,.n a,.n b,.l TC l,.l TB (r++[c1 l i,IntKind.wrap .u8 (c2 l i)])]):=by
   refine h3r _ _ _ _ _ _ l r (by omega) _ ?_
   unfold h3v
   refine a0a (decide_eq_true hlt) (a0c (decide_eq_false h1) (a0c (decide_eq_false h2) (a0c (decide_eq_false h3) (a0c (decide_eq_false h4) (a0a (decide_eq_true (show(r.length+2)*1≤140737488355328 by omega)) ?_)))))
   rw[w]
   rfl
  unfold a0b
  rw[e,hc]
  have ih':=ih (r++[c1 l i,IntKind.wrap .u8 (c2 l i)]) (by simp only[List.length_append,List.length_cons,List.length_nil];omega)
  have hm:cms (l.getD i (Ty.dflt TC)::l.drop (i+1))=[c1 l i,IntKind.wrap .u8 (c2 l i)]++cms (l.drop (i+1)):=rfl
  rw[hm,←List.append_assoc]
  exact ih'
theorem win1_t {m a:Int}(h:0≤a∧a≤m):win m [a]=true:=by
 unfold win;simp;omega
theorem win1_f {m a:Int}(h: ¬(0≤a∧a≤m)):win m [a]=false:=by
 cases hh:win m [a]with
 |false=>rfl
 |true=>exfalso;apply h;unfold win at hh;simp at hh;omega
theorem ck_1 {a b:Int}(h:ck a b=true):1≤a∧a≤3:=by
 unfold ck at h;simp at h;omega
theorem ok_at {l:List Cmd}(h:l.all h3w=true): ∀i,i<l.length→0≤c1 l i∧c1 l i<256:=by
 intro i hi
 have hm:l.getD i (Ty.dflt TC)∈l:=by rw[List.getD_eq_getElem?_getD,List.getElem?_eq_getElem hi];exact List.getElem_mem hi
 have h2:ck (c1 l i) (c2 l i)=true:=List.all_eq_true.1 h _ hm
 have:=ck_1 h2
 omega
def inL (c y o a b:Int)(l:List Cmd):List Int:=[1,c]++bes (IntKind.wrap .u64 y) 8++bes o 8++bes (IntKind.wrap .u64 a) 4++bes (IntKind.wrap .u64 b) 4++[IntKind.wrap .u8 (l.length:Int)]++cms l
theorem r3r (c y o a b:Int)(l:List Cmd):(inL c y o a b l).length=27+2*l.length:=by unfold inL;simp only[List.length_append,s1c,y3r];rfl
theorem g4k: ∀{l:List Cmd},l.all h3w=true→Wb (cms l)
 |[],h=>Wb.nil
 |x::l,h=>by
  rw[List.all_cons,Bool.and_eq_true]at h
  have h1:ck (Prod.fst x) (Prod.snd x)=true:=h.1
  have h2:=ck_1 h1
  have hc:cms (x::l)=cb (Prod.fst x) (Prod.snd x)++cms l:=rfl
  rw[hc]
  refine Wb.app ?_ (g4k h.2)
  have hw:0≤IntKind.wrap .u8 (Prod.snd x)∧IntKind.wrap .u8 (Prod.snd x)<256:=by rw[wu8];omega
  exact(Wb.nil.cons hw).cons ⟨by omega,by omega⟩
theorem inL_wb {c y o a b:Int}{l:List Cmd}(h0:0≤c)(h1:c<256)(h:l.all h3w=true):Wb (inL c y o a b l):=
 ((((((Wb.nil.cons ⟨h0,h1⟩).cons (a:=1) (by omega)).app (h3m _ _)).app (h3m _ _)).app (h3m _ _)).app (h3m _ _)).app (Wb.nil.cons (by rw[wu8];omega))|>.app (g4k h)
theorem b1:bes 1 1=[1]:=rfl
theorem t63 (c y o a b:Int)(l:List Cmd)(h0:0≤c)(h1:c<256)(hl:l.length≤8)(hk:l.all h3w=true):k4k [.n c,.n y,.n o,.n a,.n b,.l TC l,.l TB (bes 1 1)]=some (0,[.l TB (inL c y o a b l)]):=by
 have hb:bes 1 1++bes (IntKind.wrap .u64 c) 1++lgs [IntKind.wrap .u64 y,o]++bes (IntKind.wrap .u64 a) 4++bes (IntKind.wrap .u64 b) 4++bes (IntKind.wrap .u64 (IntKind.wrap .u8 (l.length:Int))) 1++cms l=inL c y o a b l:=by
  rw[b1,bes1 h0 h1,bes1 (c:=IntKind.wrap .u8 (l.length:Int)) (by rw[wu8];omega) (by rw[wu8];omega)]
  unfold inL lgs
  simp only[List.flatMap_cons,List.flatMap_nil,List.append_assoc,List.append_nil,List.cons_append,List.nil_append]
 have e1:=t35b (IntKind.wrap .u64 c) 1 (by omega) (bes 1 1) (by simp[s1c])
 have e2:=t88 [IntKind.wrap .u64 y,o] (bes 1 1++bes (IntKind.wrap .u64 c) 1) (by simp) (by simp[s1c])
 have e3:=t35b (IntKind.wrap .u64 a) 4 (by omega) (bes 1 1++bes (IntKind.wrap .u64 c) 1++lgs [IntKind.wrap .u64 y,o]) (by simp[s1c,i3s])
 have e4:=t35b (IntKind.wrap .u64 b) 4 (by omega) (bes 1 1++bes (IntKind.wrap .u64 c) 1++lgs [IntKind.wrap .u64 y,o]++bes (IntKind.wrap .u64 a) 4) (by simp[s1c,i3s])
 have e5:=t35b (IntKind.wrap .u64 (IntKind.wrap .u8 (l.length:Int))) 1 (by omega) (bes 1 1++bes (IntKind.wrap .u64 c) 1++lgs [IntKind.wrap .u64 y,o]++bes (IntKind.wrap .u64 a) 4++bes (IntKind.wrap .u64 b) 4) (by simp[s1c,i3s])
 have e6:o3i [.k 0,.l TC l,.n (l.length:Int),.n 0,.l TB (bes 1 1++bes (IntKind.wrap .u64 c) 1++lgs [IntKind.wrap .u64 y,o]++bes (IntKind.wrap .u64 a) 4++bes (IntKind.wrap .u64 b) 4++bes (IntKind.wrap .u64 (IntKind.wrap .u8 (l.length:Int))) 1)]=some (0,[.l TB (inL c y o a b l)]):=by
  rw[p3c,←hb]
  exact lp63 l (by omega) (ok_at hk) l.length 0 (bes 1 1++bes (IntKind.wrap .u64 c) 1++lgs [IntKind.wrap .u64 y,o]++bes (IntKind.wrap .u64 a) 4++bes (IntKind.wrap .u64 b) 4++bes (IntKind.wrap .u64 (IntKind.wrap .u8 (l.length:Int))) 1) FU (by omega) (by simp[s1c,i3s];omega) (by unfold FU;omega)
 rw[c4r]
 refine f4d _ _ _ _ _ _ _ _ ?_
 unfold h4f
 dsimp only
 erw[e1]
 refine a0a rfl ?_
 erw[e2]
 refine a0a rfl ?_
 erw[e3]
 refine a0a rfl ?_
 erw[e4]
 refine a0a rfl ?_
 erw[e5]
 refine a0a rfl ?_
 erw[e6]
 rfl
theorem p9 (c y o a b:Int)(l:List Cmd)(h0:0≤c)(h1:c<256)(hl0:l.length≤1000):k3m [.n c,.n y,.n o,.n a,.n b,.l TC l]=some (0,[.l TB (bif l.all h3w&&(win 1099511627776 [y]&&decide ((l.length:Int)≤8))then chk (inL c y o a b l)else[])]):=by
 have e1:=t46 c y o a b l (by omega)
 rw[c4t]
 refine f4h _ _ _ _ _ _ _ ?_
 unfold g4w
 dsimp only
 erw[e1]
 cases hw:l.all h3w&&(win 1099511627776 [y]&&decide ((l.length:Int)≤8))with
 |false=>rfl
 |true=>
  rw[Bool.and_eq_true,Bool.and_eq_true]at hw
  have h2:=of_decide_eq_true hw.2.2
  have hn:l.length≤8:=by omega
  have hl:=r3r c y o a b l
  have e2:=t35a 1 1 (by omega) (by omega)
  have e3:=t63 c y o a b l h0 h1 hn hw.1
  have eA:=t31 (l:=inL c y o a b l) (by omega)
  have eB:=q12 (inL c y o a b l) (by omega)
  have eC:=t35b (IntKind.wrap .u64 (N (Sm (inL c y o a b l)))) 4 (by omega) (inL c y o a b l) (by omega)
  have eD:=t31 (l:=chk (inL c y o a b l)) (by rw[w1n];omega)
  refine a0a rfl (a0a rfl ?_)
  erw[e2]
  refine a0c rfl (a0a rfl ?_)
  erw[e3]
  refine a0a rfl ?_
  erw[eA]
  refine a0a rfl ?_
  erw[eB]
  refine a0a rfl ?_
  erw[eC]
  refine a0a rfl ?_
  erw[eD]
  rfl
theorem m14 (c y o a b:Int)(l:List Cmd)(h0:0≤c)(h1:c<256):m3p [.n c,.n y,.n o,.n a,.n b,.l TC l]=some (0,[.l TB (bif l.all h3w&&(win 1099511627776 [y]&&decide ((l.length:Int)≤8))then chk (inL c y o a b l)else[])]):=by
 rw[x3f]
 refine z3l _ _ _ _ _ _ _ ?_
 unfold c4g
 dsimp only
 by_cases y0:y≥0
 ·refine a0a (decide_eq_true y0) ?_
  by_cases y1:y≤1099511627776
  ·refine a0c (ndt y1) ?_
   rw[win1_t ⟨y0,y1⟩]
   by_cases z1:(l.length:Int)>8
   ·rw[decide_eq_false (show¬((l.length:Int)≤8) by omega),Bool.and_false,Bool.and_false]
    exact a0a (decide_eq_true z1) rfl
   ·refine a0c (decide_eq_false z1) ?_
    rw[decide_eq_true (show(l.length:Int)≤8 by omega),Bool.and_true,Bool.and_true]
    have hl:=r3r c y o a b l
    have e5:k3k [.k 0,.n 0,.n c,.n y,.n o,.n a,.n b,.l TC l,.l TB ([1,c]++bes (IntKind.wrap .u64 y) 8++bes o 8++bes (IntKind.wrap .u64 a) 4++bes (IntKind.wrap .u64 b) 4++[IntKind.wrap .u8 (l.length:Int)])]=(bif l.all h3w then some (0,[.l TB (inL c y o a b l)])else some (1,[])):=by
     rw[l3v]
     exact lp14 c y o a b l (by omega) l.length 0 ([1,c]++bes (IntKind.wrap .u64 y) 8++bes o 8++bes (IntKind.wrap .u64 a) 4++bes (IntKind.wrap .u64 b) 4++[IntKind.wrap .u8 (l.length:Int)]) FU (by omega) (by simp[s1c];omega) (by unfold FU;omega)
    have e1:=t30 (IntKind.wrap .u64 y) 8 (by omega)
    have e2:=t30 o 8 (by omega)
    have e3:=t30 (IntKind.wrap .u64 a) 4 (by omega)
    have e4:=t30 (IntKind.wrap .u64 b) 4 (by omega)
    erw[e1]
    refine a0a rfl ?_
    refine a0a (decide_eq_true (show(([1,c]:List Int).length+(bes (IntKind.wrap .u64 y) 8).length)*1≤140737488355328 by simp only[List.length_append,s1c,List.length_cons,List.length_nil];omega)) ?_
    erw[e2]
    refine a0a rfl ?_
    refine a0a (decide_eq_true (show(([1,c]++bes (IntKind.wrap .u64 y) 8:List Int).length+(bes o 8).length)*1≤140737488355328 by simp only[List.length_append,s1c,List.length_cons,List.length_nil];omega)) ?_
    erw[e3]
    refine a0a rfl ?_
    refine a0a (decide_eq_true (show(([1,c]++bes (IntKind.wrap .u64 y) 8++bes o 8:List Int).length+(bes (IntKind.wrap .u64 a) 4).length)*1≤140737488355328 by simp only[List.length_append,s1c,List.length_cons,List.length_nil];omega)) ?_
    erw[e4]
    refine a0a rfl ?_
    refine a0a (decide_eq_true (show(([1,c]++bes (IntKind.wrap .u64 y) 8++bes o 8++bes (IntKind.wrap .u64 a) 4:List Int).length+(bes (IntKind.wrap .u64 b) 4).length)*1≤140737488355328 by simp only[List.length_append,s1c,List.length_cons,List.length_nil];omega)) ?_
    refine a0a (decide_eq_true (show(([1,c]++bes (IntKind.wrap .u64 y) 8++bes o 8++bes (IntKind.wrap .u64 a) 4++bes (IntKind.wrap .u64 b) 4:List Int).length+1)*1≤140737488355328 by simp only[List.length_append,s1c,List.length_cons,List.length_nil];omega)) ?_
    cases hk:l.all h3w with
    |false=>
     rw[hk]at e5
     erw[e5]
     rfl
    |true=>
     rw[hk]at e5
     have e6:=q13 (inL c y o a b l) (by omega) (inL_wb h0 h1 hk)
     have e7:=t30 (IntKind.wrap .u64 (N (Sm (inL c y o a b l)))) 4 (by omega)
     erw[e5]
     refine a0a rfl ?_
     erw[e6]
     refine a0a rfl ?_
     erw[e7]
     refine a0a rfl ?_
     refine a0a (decide_eq_true (show((inL c y o a b l:List Int).length+(bes (IntKind.wrap .u64 (N (Sm (inL c y o a b l)))) 4).length)*1≤140737488355328 by simp only[List.length_append,s1c,List.length_cons,List.length_nil,hl];omega)) ?_
     rfl
  ·rw[win1_f (by omega),Bool.false_and,Bool.and_false];exact a0a (ndf y1) rfl
 ·rw[win1_f (by omega),Bool.false_and,Bool.and_false];exact a0c (decide_eq_false y0) rfl
theorem h3i {b:List Int}(h:Wb b):c0b (r2b b)=b:=by
 unfold c0b r2b
 simp only[List.map_map]
 conv=>rhs;rw[←List.map_id b]
 refine List.map_congr_left fun x hx=> ?_
 have:=h x hx
 show(((UInt8.ofNat x.toNat).toNat:Nat):Int)=x
 rw[UInt8.toNat_ofNat']
 omega
theorem k3g (c:Bool){l:List Int}{n:Nat}(h:l.length≤n):(bif c then l else[]).length≤n:=by
 cases c
 ·exact Nat.zero_le _
 ·exact h
end Go.Proofs.Ytlambinleegdoaa.Vx
end
