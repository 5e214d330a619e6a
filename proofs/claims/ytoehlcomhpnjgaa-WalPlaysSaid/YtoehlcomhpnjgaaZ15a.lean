import Derived.Test.YtoehlcomhpnjgaaVxAsk
import Derived.Test.YtoehlcomhpnjgaaZ13
import Derived.KernelRfl
import Derived.Test.YtoehlcomhpnjgaaVxFrz
import Derived.Test.YtoehlcomhpnjgaaVxFrzP
import Derived.Test.YtoehlcomhpnjgaaZ06m
import Derived.LoopNIn
noncomputable section
namespace Go.Proofs.Ytoehlcomhpnjgaa.Vx
open Go Go.RowKit
set_option linter.unusedVariables false
set_option linter.unusedSimpArgs false
set_option maxRecDepth 100000
set_option maxHeartbeats 0
abbrev TBs:Ty:=.sl (.int .u8)
abbrev TRec:Ty:=.pair (.int .i64) (.sl (.int .u8))
abbrev TCl:Ty:=.pair (.int .u8) (.pair (.sl (.int .u8)) (.pair (.int .i64) (.sl (.int .u8))))
def bkB (h:Nat):PB:=.cells [.arrd TB 256 h]
def hdV (h:Nat):PV:=.iface 72 (.agg [.int .i64 h,.int .i64 (h+1)])
def rcV (h:Nat)(b:Nat):PV:=.iface 100 (.agg [.int .i64 h,.own b])
def cs_wn:FuncId→Option a0q:=e1c 98 [(BSh.of B35a).k p3o,(BSh.of B35b).k m3q] h0b
theorem t4w:CsOk Try.prog cs_wn:=h0a (d1h _) fun B hB=>by
 simp only[List.mem_cons,List.not_mem_nil,or_false]at hB
 rcases hB with rfl|rfl
 ·exact j3k o4x
 ·exact j3k i4o
def o4v:FuncId→Option a0q:=a0s 90 ((BSh.of Bq12).k l3o) cs_wn
theorem b4l:CsOk Try.prog o4v:=csA t4w x3t
def g4w:FuncId→Option a0q:=a0s 78 ((BSh.of Bq13).k o1n) o4v
theorem d4m:CsOk Try.prog g4w:=csA b4l i4l
def cs_30A:FuncId→Option a0q:=a0s 67 ((BSh.of B30).k n3w) g4w
theorem m4d:CsOk Try.prog cs_30A:=csA d4m B30_ok
def n4u:FuncId→Option a0q:=a0s 74 ((BSh.of B17r).k j3g) cs_30A
theorem c4z:CsOk Try.prog n4u:=csA m4d f4f
def o4y:FuncId→Option a0q:=a0s 62 ((BSh.of B31).k i2m) n4u
theorem u3k:CsOk Try.prog o4y:=csA c4z y3z
def o4m:BSh:={args:=[.imm TB 0,.imm TB 1],blks:=[],log:=[],outs:=[(.bool 0,[])]}
def ev_e70:List Dat→Tree (Nat×List Dat):=evF o4y 70 ls0 o4m
theorem k4f: ∃op,IsF ev_e70 70 o4m op:=bxF u3k (LsOk.none _ _ _)
def j3j:OpA:=opF k4f
theorem g4s {l0 l1:List (Ty.den TB)}:j3j [.l TB l0,.l TB l1]=some ((0,[.b (f0b (r2b l0) (r2b l1))])):=t0c k4f (sP [1]<|sL)
def i4z:FuncId→Option a0q:=a0s 70 (o4m.k j3j) o4y
theorem t3w:CsOk Try.prog i4z:=csL1 u3k k4f
def S_r82:BSh:={args:=[.int .i64 0],blks:=[],log:=[],outs:=[(.bool 0,[])]}
def ev_r82:List Dat→Tree (Nat×List Dat):=evF i4z 82 ls0 S_r82
theorem t4o: ∃op,IsF ev_r82 82 S_r82 op:=bxF t3w (LsOk.none _ _ _)
def i3v:OpA:=opF t4o
theorem h4f {n0:Int}(h0:(n0≥(1:Int))):i3v [.n n0]=some ((0,[.b (decide (n0≤(4611686018427387904:Int)))])):=t0c t4o (sT (dt h0)<|sP [1]<|sL)
theorem l4e {n0:Int}(h0:(¬n0≥(1:Int))):i3v [.n n0]=some ((0,[.b false])):=t0c t4o (sF (df h0)<|sP [0,1]<|sL)
def h4n:FuncId→Option a0q:=a0s 82 (S_r82.k i3v) i4z
theorem t3t:CsOk Try.prog h4n:=csL1 t3w t4o
def S_wB:BSh:={args:=[.ptr 0 0,.int .u8 0],blks:=[wrN],log:=[0],outs:=[(.tup [],[wrO 1,.arr TB 0])]}
def ev_wB:List Dat→Tree (Nat×List Dat):=evF h4n 85 ls0 S_wB
theorem e_wB: ∃op,IsF ev_wB 85 S_wB op:=bxF t3t (LsOk.none _ _ _)
def w3r:OpA:=opF e_wB
theorem u4o {n0:Int}{l1:List (Ty.den TB)}(h0:(p3o [.n (IntKind.wrap .u64 n0),.n (1:Int)])=(some (1,[.l TB l1]))):w3r [.n n0]=some ((0,[.l TB l1])):=t0c e_wB (sP [1,0,1,1]<|sA h0<|sP [0,1,1,0,0,0,0,1,1]<|sL)
def cs_wB:FuncId→Option a0q:=e1c 85 [S_wB.k w3r] h4n
theorem z3i:CsOk Try.prog cs_wB:=csA1 t3t e_wB
def S_wL:BSh:={args:=[.ptr 0 0,.int .u64 0],blks:=[wrO 1,.arr TB 1],log:=[0,1],outs:=[(.tup [],[wrO 1,.arr TB 0])]}
def ev_wL:List Dat→Tree (Nat×List Dat):=evF cs_wB 86 ls0 S_wL
theorem e_wL: ∃op,IsF ev_wL 86 S_wL op:=bxF z3i (LsOk.none _ _ _)
def o3j:OpA:=opF e_wL
theorem r4o {n0:Int}{l1 l2:List (Ty.den TB)}(h0:(m3q [.n n0,.n (8:Int),.l TB l1])=(some (0,[.l TB l2]))):o3j [.n n0,.l TB l1]=some ((0,[.l TB l2])):=t0c e_wL (sP [1,0,0,0,0,1,1]<|sA h0<|sP [1,1,0,1,1]<|sL)
def cs_wL:FuncId→Option a0q:=e1c 86 [S_wL.k o3j] cs_wB
theorem a4s:CsOk Try.prog cs_wL:=csA1 z3i e_wL
def S_wS:BSh:={args:=[.ptr 0 0,.int .u16 0],blks:=[wrO 1,.arr TB 1],log:=[0,1],outs:=[(.tup [],[wrO 1,.arr TB 0])]}
def ev_wS:List Dat→Tree (Nat×List Dat):=evF cs_wL 87 ls0 S_wS
theorem e_wS: ∃op,IsF ev_wS 87 S_wS op:=bxF a4s (LsOk.none _ _ _)
def b4u:OpA:=opF e_wS
theorem r4l {n0:Int}{l1 l2:List (Ty.den TB)}(h0:(m3q [.n (IntKind.wrap .u64 n0),.n (2:Int),.l TB l1])=(some (0,[.l TB l2]))):b4u [.n n0,.l TB l1]=some ((0,[.l TB l2])):=t0c e_wS (sP [1,0,0,1,1]<|sA h0<|sP [1,1,0,0,0,1,1]<|sL)
def cs_wS:FuncId→Option a0q:=e1c 87 [S_wS.k b4u] cs_wL
theorem z3q:CsOk Try.prog cs_wS:=csA1 a4s e_wS
def S_wW:BSh:={args:=[.ptr 0 0,.int .u32 0],blks:=[wrO 1,.arr TB 1],log:=[0,1],outs:=[(.tup [],[wrO 1,.arr TB 0])]}
def ev_wW:List Dat→Tree (Nat×List Dat):=evF cs_wS 89 ls0 S_wW
theorem e_wW: ∃op,IsF ev_wW 89 S_wW op:=bxF z3q (LsOk.none _ _ _)
def w3d:OpA:=opF e_wW
theorem s4e {n0:Int}{l1 l2:List (Ty.den TB)}(h0:(m3q [.n (IntKind.wrap .u64 n0),.n (4:Int),.l TB l1])=(some (0,[.l TB l2]))):w3d [.n n0,.l TB l1]=some ((0,[.l TB l2])):=t0c e_wW (sP [1,0,0,0,1,1]<|sA h0<|sP [1,1,0,0,1,1]<|sL)
def cs_wW:FuncId→Option a0q:=e1c 89 [S_wW.k w3d] cs_wS
theorem y3t:CsOk Try.prog cs_wW:=csA1 z3q e_wW
def S_wR:BSh:={args:=[.ptr 0 0,.own 1],blks:=[wrO 2,.arr TB 0,.arr TB 1],log:=[0,2],outs:=[(.tup [],[wrO 2,.arr TB 0,.arr TB 1])]}
def ev_wR:List Dat→Tree (Nat×List Dat):=evF cs_wW 88 ls0 S_wR
theorem e_wR: ∃op,IsF ev_wR 88 S_wR op:=bxF y3t (LsOk.none _ _ _)
def r3e:OpA:=opF e_wR
theorem p4t {l0 l1:List (Ty.den TB)}(h0:((List.length l1+List.length l0)*1≤140737488355328)):r3e [.l TB l0,.l TB l1]=some ((0,[.l TB l0,.l TB (l1++l0)])):=t0c e_wR (sP [1,0,0,0,0,0,1]<|sT (dt h0)<|sP [1,1]<|sL)
def cs_wR:FuncId→Option a0q:=e1c 88 [S_wR.k r3e] cs_wW
theorem z3a:CsOk Try.prog cs_wR:=csA1 y3t e_wR
def S_wO:BSh:={args:=[.ptr 0 0],blks:=[wrO 1,.arr TB 0],log:=[],outs:=[(.own 2,[wrO 1,.arr TB 0,.arr TB 1])]}
def ev_wO:List Dat→Tree (Nat×List Dat):=evF cs_wR 91 ls0 S_wO
theorem e_wO: ∃op,IsF ev_wO 91 S_wO op:=bxF z3a (LsOk.none _ _ _)
def m3h:OpA:=opF e_wO
theorem r4i {l0 l1:List (Ty.den TB)}(h0:(i2m [.l TB l0])=(some (0,[.l TB l1]))):m3h [.l TB l0]=some ((0,[.l TB l0,.l TB l1])):=t0c e_wO (sP [0]<|sA h0<|sP [1,1,1]<|sL)
def u4q:FuncId→Option a0q:=e1c 91 [S_wO.k m3h] cs_wR
theorem r3v:CsOk Try.prog u4q:=csA1 z3a e_wO
def S_bh:BSh:={args:=[hdV 0],blks:=[],log:=[],outs:=[(.own 0,[.arr TB 0])]}
def ev_bh:List Dat→Tree (Nat×List Dat):=evF u4q 76 ls0 S_bh
theorem e_bh: ∃op,IsF ev_bh 76 S_bh op:=bxF r3v (LsOk.none _ _ _)
def n3e:OpA:=opF e_bh
theorem s4p {n0 n1:Int}{l2 l3 l4 l5 l6:List (Ty.den TB)}{n7:Int}{l8 l9 l10 l11 l12 l13 l14 l15:List (Ty.den TB)}(h0:(w3r [.n (72:Int)])=(some (0,[.l TB l2])))(h1:(o3j [.n (IntKind.wrap .u64 n0),.l TB l2])=(some (0,[.l TB l3])))(h2:(o3j [.n (IntKind.wrap .u64 n1),.l TB l3])=(some (0,[.l TB l4])))(h3:(m3h [.l TB l4])=(some (0,[.l TB l5,.l TB l6])))(h4:(l3o [.l TB l6])=(some (0,[.n n7])))(h5:(w3d [.n n7,.l TB l4])=(some (0,[.l TB l8])))(h6:(m3h [.l TB l8])=(some (0,[.l TB l9,.l TB l10])))(h7:((decide ((0:Int)≤IntKind.wrap .i64 ((248:Int)-(↑(List.length l10):Int)))&&decide (IntKind.wrap .i64 ((248:Int)-(↑(List.length l10):Int))≤IntKind.wrap .i64 ((248:Int)-(↑(List.length l10):Int)))&&decide (IntKind.wrap .i64 ((248:Int)-(↑(List.length l10):Int))*(1:Int)≤(281474976710656:Int)))=true))(h8:(r3e
 [.l TB
   (repC (Int.toNat (IntKind.wrap .i64 ((248:Int)-(↑(List.length l10):Int)))) (Ty.dflt TB)),
  .l TB l8])=(some (0,[.l TB l11,.l TB l12]))) (h9:(o3j [.n (IntKind.wrap .u64 n0),.l TB l12])=(some (0,[.l TB l13]))) (h10:(m3h [.l TB l13])=(some (0,[.l TB l14,.l TB l15]))):n3e [.n n0,.n n1]=some ((0,[.l TB l15])):=t0c e_bh (sP [1,1]<|sA h0<|sP [1,1,1]<|sA h1<|sP [1,1,1]<|sA h2<|sP [1,1,1]<|sA h3<|sP [1,1]<|sA h4<|sP [1,1,1]<|sA h5<|sP [1,1,1]<|sA h6<|sP [1,1]<|sT h7<|sP [1]<|sA h8<|sP [1,1,1]<|sA h9<|sP [1,1,1]<|sA h10<|sP [1,1,1]<|sL)
def S_br:BSh:={args:=[rcV 0 0],blks:=[.arr TB 1],log:=[],outs:=[(.own 1,[.arr TB 0,.arr TB 1])]}
def ev_br:List Dat→Tree (Nat×List Dat):=evF u4q 76 ls0 S_br
theorem e_br: ∃op,IsF ev_br 76 S_br op:=bxF r3v (LsOk.none _ _ _)
def c4d:OpA:=opF e_br
theorem s4b {n0:Int}{l1 l2 l3 l4 l5 l6 l7 l8:List (Ty.den TB)}{n9:Int}{l10 l11 l12 l13 l14 l15 l16 l17:List (Ty.den TB)}(h0:(w3r [.n (82:Int)])=(some (0,[.l TB l2])))(h1:(o3j [.n (IntKind.wrap .u64 n0),.l TB l2])=(some (0,[.l TB l3])))(h2:(b4u [.n (IntKind.wrap .u16 (↑(List.length l1):Int)),.l TB l3])=(some (0,[.l TB l4])))(h3:(r3e [.l TB l1,.l TB l4])=(some (0,[.l TB l5,.l TB l6])))(h4:(m3h [.l TB l6])=(some (0,[.l TB l7,.l TB l8])))(h5:(l3o [.l TB l8])=(some (0,[.n n9])))(h6:(w3d [.n n9,.l TB l6])=(some (0,[.l TB l10])))(h7:(m3h [.l TB l10])=(some (0,[.l TB l11,.l TB l12])))(h8:((decide ((0:Int)≤IntKind.wrap .i64 ((248:Int)-(↑(List.length l12):Int)))&&decide (IntKind.wrap .i64 ((248:Int)-(↑(List.length l12):Int))≤IntKind.wrap .i64 ((248:Int)-(↑(List.length l12):Int)))&&decide (IntKind.wrap .i64 ((248:Int)-(↑(List.length l12):Int))*(1:Int)≤(281474976710656:Int)))=true))(h9:(r3e
 [.l TB
   (repC (Int.toNat (IntKind.wrap .i64 ((248:Int)-(↑(List.length l12):Int)))) (Ty.dflt TB)),
  .l TB l10])=(some (0,[.l TB l13,.l TB l14]))) (h10:(o3j [.n (IntKind.wrap .u64 n0),.l TB l14])=(some (0,[.l TB l15]))) (h11:(m3h [.l TB l15])=(some (0,[.l TB l16,.l TB l17]))):c4d [.n n0,.l TB l1]=some ((0,[.l TB l1,.l TB l17])):=t0c e_br (sP [0,1]<|sA h0<|sP [1,1,1]<|sA h1<|sP [1,1,1]<|sA h2<|sP [1,1,1]<|sA h3<|sP [1,1,1]<|sA h4<|sP [1,1]<|sA h5<|sP [1,1,1]<|sA h6<|sP [1,1,1]<|sA h7<|sP [1,1]<|sT h8<|sP [1]<|sA h9<|sP [1,1,1]<|sA h10<|sP [1,1,1]<|sA h11<|sP [1,1,1]<|sL)
def cs_br:FuncId→Option a0q:=e1c 76 [S_bh.k n3e,S_br.k c4d] u4q
theorem z3j:CsOk Try.prog cs_br:=h0a r3v fun B hB=>by
 simp only[List.mem_cons,List.not_mem_nil,or_false]at hB
 rcases hB with rfl|rfl
 ·exact h3x e_bh
 ·exact h3x e_br
def S_o79:BSh:={args:=[.asl 0 0 256],blks:=[bkB 0],log:=[],outs:=[(.ptr 1 0,[bkB 0,rdB 1])]}
def ev_o79:List Dat→Tree (Nat×List Dat):=evFV [(none,0,.imm TB)] cs_br 79 ls0 S_o79
theorem e_o79: ∃op,IsF ev_o79 79 S_o79 op:=bxFV z3j (LsOk.none _ _ _)
def j3z:OpA:=opF e_o79
theorem m4v {l0 l1:List (Ty.den TB)}(g0:l0.length=256)(h0:(i2m [.l TB l0])=(some (0,[.l TB l1]))):j3z [.l TB l0]=some ((0,[.l TB l0,.l TB l1,.b false])):=t0c e_o79 (sA h0<|sP [1,1,1]<|sL)
def cs_o79:FuncId→Option a0q:=e1c 79 [S_o79.k j3z] cs_br
theorem k4j:CsOk Try.prog cs_o79:=csA1 z3j e_o79
def k4i:FuncId→Option a0q:=e1c 80 [(BSh.of B77r).k i3z] cs_o79
theorem d4b:CsOk Try.prog k4i:=csB k4j i4v
def k4c:FuncId→Option a0q:=e1c 81 [(BSh.of B78r).k i3c] k4i
theorem e4s:CsOk Try.prog k4c:=csB d4b n4x
def o4f:FuncId→Option a0q:=e1c 84 [(BSh.of B83r).k k3u] k4c
theorem e4b:CsOk Try.prog o4f:=csB e4s k4x
def w3l:FuncId→Option a0q:=e1c 83 [(BSh.of B82r).k k3b] o4f
theorem p3s:CsOk Try.prog w3l:=csB e4b n4n
def l4a:BSh:={args:=[.asl 0 0 256],blks:=[bkB 0],log:=[],outs:=[(.nilif,[bkB 0]),(hdV 0,[bkB 2]),(rcV 0 1,[bkB 1,.arr TB 2])]}
def ev_t71:List Dat→Tree (Nat×List Dat):=evF w3l 71 ls0 l4a
theorem m3m: ∃op,IsF ev_t71 71 l4a op:=bxF p3s (LsOk.none _ _ _)
def h3q:OpA:=opF m3m
theorem f4r {l0 l1 l2:List (Ty.den TB)}{b3:Bool}{n4:Int}{l5:List (Ty.den TB)}{b6:Bool}{n7:Int}{l8:List (Ty.den TB)}{b9:Bool}{n10:Int}{l11:List (Ty.den TB)}{b12 b13 b14:Bool}{l15:List (Ty.den TB)}{b16:Bool}(g0:l0.length=256)(h0:(j3z [.l TB l0])=(some (0,[.l TB l1,.l TB l2,.b b3])))(h1:(i3z [.l TB l2,.b b3])=(some (0,[.n n4,.l TB l5,.b b6])))(h2:(n4=(72:Int)))(h3:(i3c [.l TB l5,.b b6])=(some (0,[.n n7,.l TB l8,.b b9])))(h4:(i3c [.l TB l8,.b b9])=(some (0,[.n n10,.l TB l11,.b b12])))(h5:(i3v [.n (IntKind.wrap .i64 n7)])=(some (0,[.b b13])))(h6:(b13=true))(h7:(i3v [.n (IntKind.wrap .i64 n10)])=(some (0,[.b b14])))(h8:(b14=true))(h9:(n3e [.n (IntKind.wrap .i64 n7),.n (IntKind.wrap .i64 n10)])=(some (0,[.l TB l15])))(h10:(j3j [.l TB l15,.l TB l0])=(some (0,[.b b16])))(h11:(b16=true)):h3q [.l TB l0]=some ((1,[.n (IntKind.wrap .i64 n7),.n (IntKind.wrap .i64 n10),.l TB l0])):=t0c m3m (sP [1]<|sA h0<|sP [1,1,1]<|sA h1<|sP [1,1]<|sT (bt h2)<|sP [1]<|sA h3<|sP [1,1,1]<|sA h4<|sP [1,1]<|sA h5<|sP [1,1]<|sT h6<|sA h7<|sP [1,1]<|sT h8<|sP [1]<|sA h9<|sP [1,1]<|sA h10<|sP [1,1]<|sT h11<|sP [1]<|sL)
theorem i4s {l0 l1 l2:List (Ty.den TB)}{b3:Bool}{n4:Int}{l5:List (Ty.den TB)}{b6:Bool}{n7:Int}{l8:List (Ty.den TB)}{b9:Bool}{n10:Int}{l11:List (Ty.den TB)}{b12 b13 b14:Bool}{l15:List (Ty.den TB)}{b16:Bool}(g0:l0.length=256)(h0:(j3z [.l TB l0])=(some (0,[.l TB l1,.l TB l2,.b b3])))(h1:(i3z [.l TB l2,.b b3])=(some (0,[.n n4,.l TB l5,.b b6])))(h2:(n4=(72:Int)))(h3:(i3c [.l TB l5,.b b6])=(some (0,[.n n7,.l TB l8,.b b9])))(h4:(i3c [.l TB l8,.b b9])=(some (0,[.n n10,.l TB l11,.b b12])))(h5:(i3v [.n (IntKind.wrap .i64 n7)])=(some (0,[.b b13])))(h6:(b13=true))(h7:(i3v [.n (IntKind.wrap .i64 n10)])=(some (0,[.b b14])))(h8:(b14=true))(h9:(n3e [.n (IntKind.wrap .i64 n7),.n (IntKind.wrap .i64 n10)])=(some (0,[.l TB l15])))(h10:(j3j [.l TB l15,.l TB l0])=(some (0,[.b b16])))(h11:(b16=false)):h3q [.l TB l0]=some ((0,[.l TB l0])):=t0c m3m (sP [1]<|sA h0<|sP [1,1,1]<|sA h1<|sP [1,1]<|sT (bt h2)<|sP [1]<|sA h3<|sP [1,1,1]<|sA h4<|sP [1,1]<|sA h5<|sP [1,1]<|sT h6<|sA h7<|sP [1,1]<|sT h8<|sP [1]<|sA h9<|sP [1,1]<|sA h10<|sP [1,1]<|sF h11<|sP [1]<|sL)
theorem m4l {l0 l1 l2:List (Ty.den TB)}{b3:Bool}{n4:Int}{l5:List (Ty.den TB)}{b6:Bool}{n7:Int}{l8:List (Ty.den TB)}{b9:Bool}{n10:Int}{l11:List (Ty.den TB)}{b12 b13 b14:Bool}(g0:l0.length=256)(h0:(j3z [.l TB l0])=(some (0,[.l TB l1,.l TB l2,.b b3])))(h1:(i3z [.l TB l2,.b b3])=(some (0,[.n n4,.l TB l5,.b b6])))(h2:(n4=(72:Int)))(h3:(i3c [.l TB l5,.b b6])=(some (0,[.n n7,.l TB l8,.b b9])))(h4:(i3c [.l TB l8,.b b9])=(some (0,[.n n10,.l TB l11,.b b12])))(h5:(i3v [.n (IntKind.wrap .i64 n7)])=(some (0,[.b b13])))(h6:(b13=true))(h7:(i3v [.n (IntKind.wrap .i64 n10)])=(some (0,[.b b14])))(h8:(b14=false)):h3q [.l TB l0]=some ((0,[.l TB l0])):=t0c m3m (sP [1]<|sA h0<|sP [1,1,1]<|sA h1<|sP [1,1]<|sT (bt h2)<|sP [1]<|sA h3<|sP [1,1,1]<|sA h4<|sP [1,1]<|sA h5<|sP [1,1]<|sT h6<|sA h7<|sP [1,1]<|sF h8<|sP [0,0,1]<|sL)
theorem n4k {l0 l1 l2:List (Ty.den TB)}{b3:Bool}{n4:Int}{l5:List (Ty.den TB)}{b6:Bool}{n7:Int}{l8:List (Ty.den TB)}{b9:Bool}{n10:Int}{l11:List (Ty.den TB)}{b12 b13:Bool}(g0:l0.length=256)(h0:(j3z [.l TB l0])=(some (0,[.l TB l1,.l TB l2,.b b3])))(h1:(i3z [.l TB l2,.b b3])=(some (0,[.n n4,.l TB l5,.b b6])))(h2:(n4=(72:Int)))(h3:(i3c [.l TB l5,.b b6])=(some (0,[.n n7,.l TB l8,.b b9])))(h4:(i3c [.l TB l8,.b b9])=(some (0,[.n n10,.l TB l11,.b b12])))(h5:(i3v [.n (IntKind.wrap .i64 n7)])=(some (0,[.b b13])))(h6:(b13=false)):h3q [.l TB l0]=some ((0,[.l TB l0])):=t0c m3m (sP [1]<|sA h0<|sP [1,1,1]<|sA h1<|sP [1,1]<|sT (bt h2)<|sP [1]<|sA h3<|sP [1,1,1]<|sA h4<|sP [1,1]<|sA h5<|sP [1,1]<|sF h6<|sP [0,0,0,0,1]<|sL)
theorem g4t {l0 l1 l2:List (Ty.den TB)}{b3:Bool}{n4:Int}{l5:List (Ty.den TB)}{b6:Bool}{n7:Int}{l8:List (Ty.den TB)}{b9:Bool}{n10:Int}{l11:List (Ty.den TB)}{b12:Bool}{l13:List (Ty.den TB)}{b14:Bool}{l15:List (Ty.den TB)}{b16:Bool}{l17 l18:List (Ty.den TB)}{b19:Bool}(g0:l0.length=256)(h0:(j3z [.l TB l0])=(some (0,[.l TB l1,.l TB l2,.b b3])))(h1:(i3z [.l TB l2,.b b3])=(some (0,[.n n4,.l TB l5,.b b6])))(h2:(¬n4=(72:Int)))(h3:(n4=(82:Int)))(h4:(i3c [.l TB l5,.b b6])=(some (0,[.n n7,.l TB l8,.b b9])))(h5:(k3u [.l TB l8,.b b9])=(some (0,[.n n10,.l TB l11,.b b12])))(h6:(k3b [.n (IntKind.wrap .i64 n10),.l TB l11,.b b12])=(some (0,[.l TB l13,.b b14,.l TB l15])))(h7:(i3v [.n (IntKind.wrap .i64 n7)])=(some (0,[.b b16])))(h8:(b16=true))(h9:((↑(List.length l15):Int)≤(232:Int)))(h10:(c4d [.n (IntKind.wrap .i64 n7),.l TB l15])=(some (0,[.l TB l17,.l TB l18])))(h11:(j3j [.l TB l18,.l TB l0])=(some (0,[.b b19])))(h12:(b19=true)):h3q [.l TB l0]=some ((2,[.n (IntKind.wrap .i64 n7),.l TB l0,.l TB l15])):=t0c m3m (sP [1]<|sA h0<|sP [1,1,1]<|sA h1<|sP [1,1]<|sF (bf h2)<|sT (bt h3)<|sP [1]<|sA h4<|sP [1,1,1]<|sA h5<|sP [1,1,1]<|sA h6<|sP [1,1]<|sA h7<|sP [1,1]<|sT h8<|sT (dt h9)<|sP [1]<|sA h10<|sP [1,1]<|sA h11<|sP [1,1]<|sT h12<|sP [1]<|sL)
theorem s3n {l0 l1 l2:List (Ty.den TB)}{b3:Bool}{n4:Int}{l5:List (Ty.den TB)}{b6:Bool}{n7:Int}{l8:List (Ty.den TB)}{b9:Bool}{n10:Int}{l11:List (Ty.den TB)}{b12:Bool}{l13:List (Ty.den TB)}{b14:Bool}{l15:List (Ty.den TB)}{b16:Bool}{l17 l18:List (Ty.den TB)}{b19:Bool}(g0:l0.length=256)(h0:(j3z [.l TB l0])=(some (0,[.l TB l1,.l TB l2,.b b3])))(h1:(i3z [.l TB l2,.b b3])=(some (0,[.n n4,.l TB l5,.b b6])))(h2:(¬n4=(72:Int)))(h3:(n4=(82:Int)))(h4:(i3c [.l TB l5,.b b6])=(some (0,[.n n7,.l TB l8,.b b9])))(h5:(k3u [.l TB l8,.b b9])=(some (0,[.n n10,.l TB l11,.b b12])))(h6:(k3b [.n (IntKind.wrap .i64 n10),.l TB l11,.b b12])=(some (0,[.l TB l13,.b b14,.l TB l15])))(h7:(i3v [.n (IntKind.wrap .i64 n7)])=(some (0,[.b b16])))(h8:(b16=true))(h9:((↑(List.length l15):Int)≤(232:Int)))(h10:(c4d [.n (IntKind.wrap .i64 n7),.l TB l15])=(some (0,[.l TB l17,.l TB l18])))(h11:(j3j [.l TB l18,.l TB l0])=(some (0,[.b b19])))(h12:(b19=false)):h3q [.l TB l0]=some ((0,[.l TB l0])):=t0c m3m (sP [1]<|sA h0<|sP [1,1,1]<|sA h1<|sP [1,1]<|sF (bf h2)<|sT (bt h3)<|sP [1]<|sA h4<|sP [1,1,1]<|sA h5<|sP [1,1,1]<|sA h6<|sP [1,1]<|sA h7<|sP [1,1]<|sT h8<|sT (dt h9)<|sP [1]<|sA h10<|sP [1,1]<|sA h11<|sP [1,1]<|sF h12<|sP [1]<|sL)
theorem l4n {l0 l1 l2:List (Ty.den TB)}{b3:Bool}{n4:Int}{l5:List (Ty.den TB)}{b6:Bool}{n7:Int}{l8:List (Ty.den TB)}{b9:Bool}{n10:Int}{l11:List (Ty.den TB)}{b12:Bool}{l13:List (Ty.den TB)}{b14:Bool}{l15:List (Ty.den TB)}{b16:Bool}(g0:l0.length=256)(h0:(j3z [.l TB l0])=(some (0,[.l TB l1,.l TB l2,.b b3])))(h1:(i3z [.l TB l2,.b b3])=(some (0,[.n n4,.l TB l5,.b b6])))(h2:(¬n4=(72:Int)))(h3:(n4=(82:Int)))(h4:(i3c [.l TB l5,.b b6])=(some (0,[.n n7,.l TB l8,.b b9])))(h5:(k3u [.l TB l8,.b b9])=(some (0,[.n n10,.l TB l11,.b b12])))(h6:(k3b [.n (IntKind.wrap .i64 n10),.l TB l11,.b b12])=(some (0,[.l TB l13,.b b14,.l TB l15])))(h7:(i3v [.n (IntKind.wrap .i64 n7)])=(some (0,[.b b16])))(h8:(b16=true))(h9:(¬(↑(List.length l15):Int)≤(232:Int))):h3q [.l TB l0]=some ((0,[.l TB l0])):=t0c m3m (sP [1]<|sA h0<|sP [1,1,1]<|sA h1<|sP [1,1]<|sF (bf h2)<|sT (bt h3)<|sP [1]<|sA h4<|sP [1,1,1]<|sA h5<|sP [1,1,1]<|sA h6<|sP [1,1]<|sA h7<|sP [1,1]<|sT h8<|sF (df h9)<|sP [0,0,1]<|sL)
theorem s3c {l0 l1 l2:List (Ty.den TB)}{b3:Bool}{n4:Int}{l5:List (Ty.den TB)}{b6:Bool}{n7:Int}{l8:List (Ty.den TB)}{b9:Bool}{n10:Int}{l11:List (Ty.den TB)}{b12:Bool}{l13:List (Ty.den TB)}{b14:Bool}{l15:List (Ty.den TB)}{b16:Bool}(g0:l0.length=256)(h0:(j3z [.l TB l0])=(some (0,[.l TB l1,.l TB l2,.b b3])))(h1:(i3z [.l TB l2,.b b3])=(some (0,[.n n4,.l TB l5,.b b6])))(h2:(¬n4=(72:Int)))(h3:(n4=(82:Int)))(h4:(i3c [.l TB l5,.b b6])=(some (0,[.n n7,.l TB l8,.b b9])))(h5:(k3u [.l TB l8,.b b9])=(some (0,[.n n10,.l TB l11,.b b12])))(h6:(k3b [.n (IntKind.wrap .i64 n10),.l TB l11,.b b12])=(some (0,[.l TB l13,.b b14,.l TB l15])))(h7:(i3v [.n (IntKind.wrap .i64 n7)])=(some (0,[.b b16])))(h8:(b16=false)):h3q [.l TB l0]=some ((0,[.l TB l0])):=t0c m3m (sP [1]<|sA h0<|sP [1,1,1]<|sA h1<|sP [1,1]<|sF (bf h2)<|sT (bt h3)<|sP [1]<|sA h4<|sP [1,1,1]<|sA h5<|sP [1,1,1]<|sA h6<|sP [1,1]<|sA h7<|sP [1,1]<|sF h8<|sP [0,0,0,0,1]<|sL)
theorem n4e {l0 l1 l2:List (Ty.den TB)}{b3:Bool}{n4:Int}{l5:List (Ty.den TB)}{b6:Bool}(g0:l0.length=256)(h0:(j3z [.l TB l0])=(some (0,[.l TB l1,.l TB l2,.b b3])))(h1:(i3z [.l TB l2,.b b3])=(some (0,[.n n4,.l TB l5,.b b6])))(h2:(¬n4=(72:Int)))(h3:(¬n4=(82:Int))):h3q [.l TB l0]=some ((0,[.l TB l0])):=t0c m3m (sP [1]<|sA h0<|sP [1,1,1]<|sA h1<|sP [1,1]<|sF (bf h2)<|sF (bf h3)<|sP [1]<|sL)
def a4k:FuncId→Option a0q:=e1c 71 [l4a.k h3q] w3l
theorem o3l:CsOk Try.prog a4k:=csA1 p3s m3m
def n4m:LSh:={K:=1,log:=[0],ins:=[(sh 23 [(0,.own 0),(1,.int .i64 0)],[.arr TB 1])],nils:=[],outs:=[(.exit 0,sh 23 [(0,.own 0),(1,.int .i64 0)],[.arr TB 1])],cv:=[]}
def l3t:List Dat→Tree Step:=evL a4k 68 2 ls0 n4m
theorem q3c: ∃op,IsL l3t 68 2 n4m op:=bxL o3l (LsOk.none _ _ _)
def q3j:OpA:=opL q3c
theorem v3u (env:List Dat):q3j env=a0b l3t FU env:=h3y q3c env
abbrev v4j:MBox:=boxL q3c
theorem v3h {n0:Int}{l1:List (Ty.den TB)}(h0:((↑(List.length l1):Int)<(248:Int))):(l3t [.k 0,.n n0,.l TB l1]).sel=some (Step.go [.k 0,.n n0,.l TB (l1++[(0:Int)])]):=sP [1]<|sT (dt h0)<|sTo (c:=(decide ((List.length l1+1)*1≤140737488355328)))<|sP [1]<|sL
theorem v3n {n0:Int}{l1:List (Ty.den TB)}(h0:(¬(↑(List.length l1):Int)<(248:Int))):(l3t [.k 0,.n n0,.l TB l1]).sel=some (Step.stop 0 [.n n0,.l TB l1]):=sP [1]<|sF (df h0)<|sP [1]<|sL
def S_m68:BSh:={args:=[.own 0,.int .i64 0],blks:=[.arr TB 1],log:=[0],outs:=[(.str 0,[.gone])]}
def ev_m68:List Dat→Tree (Nat×List Dat):=evF a4k 68 (lsM [(2,v4j)] 1) S_m68
theorem e_m68: ∃op,IsF ev_m68 68 S_m68 op:=bxF o3l (lsE (lsC (h3n q3c) (atF) lsZ))
def u3c:OpA:=opF e_m68
theorem g4c {n0:Int}{l1:List (Ty.den TB)}{n2:Int}{l3:List (Ty.den TB)}{n4:Int}{l5 l6:List (Ty.den TB)}(h0:(o1n [.l TB l1])=(some (0,[.n n2])))(h1:(n3w [.n (IntKind.wrap .u64 n2),.n (4:Int)])=(some (0,[.l TB l3])))(h2:((List.length l1+List.length l3)*1≤140737488355328))(h3:(q3j [.k 0,.n n0,.l TB (l1++l3)])=(some (0,[.n n4,.l TB l5])))(h4:(n3w [.n (IntKind.wrap .u64 n4),.n (8:Int)])=(some (0,[.l TB l6])))(h5:((List.length l5+List.length l6)*1≤140737488355328)):u3c [.n n0,.l TB l1]=some ((0,[.s (r2b (l5++l6))])):=t0c e_m68 (sA h0<|sP [1,1]<|sA h1<|sP [1,1]<|sT (dt h2)<|sA h3<|sP [1]<|sA h4<|sP [1,1]<|sT (dt h5)<|sP [1]<|sL)
def k4q:FuncId→Option a0q:=e1c 68 [S_m68.k u3c] a4k
theorem t3f:CsOk Try.prog k4q:=csA1 o3l e_m68
def a4c:BSh:={args:=[.int .i64 0,.int .i64 1],blks:=[],log:=[],outs:=[(.str 0,[])]}
def ev_m32h:List Dat→Tree (Nat×List Dat):=evF k4q 32 ls0 a4c
theorem z3s: ∃op,IsF ev_m32h 32 a4c op:=bxF t3f (LsOk.none _ _ _)
def i3n:OpA:=opF z3s
theorem b4s {n0 n1:Int}{l2 l3:List (Ty.den TB)}{s4:ByteArray}(h0:(n3w [.n (IntKind.wrap .u64 n0),.n (8:Int)])=(some (0,[.l TB l2])))(h1:((1+List.length l2)*1≤140737488355328))(h2:(n3w [.n (IntKind.wrap .u64 n1),.n (8:Int)])=(some (0,[.l TB l3])))(h3:((List.length (([(72:Int)]:List (Ty.den TB))++l2)+List.length l3)*1≤140737488355328))(h4:(u3c [.n n0,.l TB (([(72:Int)]:List (Ty.den TB))++l2++l3)])=(some (0,[.s s4]))):i3n [.n n0,.n n1]=some ((0,[.s s4])):=t0c z3s (sA h0<|sP [1,1]<|sT (dt h1)<|sA h2<|sP [1,1]<|sT (dt h3)<|sP [1]<|sA h4<|sP [1,1,1]<|sL)
def w3h:FuncId→Option a0q:=a0s 32 (a4c.k i3n) k4q
theorem p3v:CsOk Try.prog w3h:=csL1 t3f z3s
def a4q:BSh:={args:=[.int .i64 0,.str 1],blks:=[],log:=[],outs:=[(.str 0,[])]}
def ev_m33r:List Dat→Tree (Nat×List Dat):=evF w3h 33 ls0 a4q
theorem z3f: ∃op,IsF ev_m33r 33 a4q op:=bxF p3v (LsOk.none _ _ _)
def k3h:OpA:=opF z3f
theorem c4i {n0:Int}{s1:ByteArray}{l2 l3:List (Ty.den TB)}{s4:ByteArray}(h0:(n3w [.n (IntKind.wrap .u64 n0),.n (8:Int)])=(some (0,[.l TB l2])))(h1:((1+List.length l2)*1≤140737488355328))(h2:(n3w [.n (IntKind.wrap .u64 (↑(ByteArray.size s1):Int)),.n (2:Int)])=(some (0,[.l TB l3])))(h3:((List.length (([(82:Int)]:List (Ty.den TB))++l2)+List.length l3)*1≤140737488355328))(h4:((List.length (([(82:Int)]:List (Ty.den TB))++l2++l3)+List.length (c0b s1))*1≤140737488355328))(h5:(u3c [.n n0,.l TB (([(82:Int)]:List (Ty.den TB))++l2++l3++c0b s1)])=(some (0,[.s s4]))):k3h [.n n0,.s s1]=some ((0,[.s s4])):=t0c z3f (sA h0<|sP [1,1]<|sT (dt h1)<|sA h2<|sP [1,1]<|sT (dt h3)<|sT (dt h4)<|sP [1]<|sA h5<|sP [1,1,1]<|sL)
def w3y:FuncId→Option a0q:=a0s 33 (a4q.k k3h) w3h
theorem p3x:CsOk Try.prog w3y:=csL1 p3v z3f
def S_m73:BSh:={args:=[.str 0,.int .i64 1],blks:=[],log:=[],outs:=[(.int .i64 0,[])]}
def ev_m73:List Dat→Tree (Nat×List Dat):=evF w3y 73 ls0 S_m73
theorem o4a: ∃op,IsF ev_m73 73 S_m73 op:=bxF p3x (LsOk.none _ _ _)
def i3i:OpA:=opF o4a
theorem m4i {s0:ByteArray}{n1 n2:Int}(g0:s0.size=256)(g1:0≤n1)(g2:n1≤9)(h0:(j3g [.l TB (c0b (ByteArray.extract s0 (Int.toNat n1) (Int.toNat (IntKind.wrap .i64 (n1+(8:Int))))))])=(some (0,[.n n2])))(h1:(n2<(1:Int))):i3i [.s s0,.n n1]=some ((0,[.n (0:Int)])):=t0c o4a (sTo (c:=(decide ((0:Int)≤IntKind.wrap .i64 (n1+(8:Int)))&&decide (IntKind.wrap .i64 (n1+(8:Int))≤(↑(ByteArray.size s0):Int))))<|sTo (c:=(decide ((0:Int)≤n1)&&decide (n1≤IntKind.wrap .i64 (n1+(8:Int)))))<|sA h0<|sP [1,1]<|sT (dt h1)<|sP [1,1,1]<|sL)
theorem n4l {s0:ByteArray}{n1 n2:Int}(g0:s0.size=256)(g1:0≤n1)(g2:n1≤9)(h0:(j3g [.l TB (c0b (ByteArray.extract s0 (Int.toNat n1) (Int.toNat (IntKind.wrap .i64 (n1+(8:Int))))))])=(some (0,[.n n2])))(h1:(¬n2<(1:Int)))(h2:(n2>(4611686018427387904:Int))):i3i [.s s0,.n n1]=some ((0,[.n (0:Int)])):=t0c o4a (sTo (c:=(decide ((0:Int)≤IntKind.wrap .i64 (n1+(8:Int)))&&decide (IntKind.wrap .i64 (n1+(8:Int))≤(↑(ByteArray.size s0):Int))))<|sTo (c:=(decide ((0:Int)≤n1)&&decide (n1≤IntKind.wrap .i64 (n1+(8:Int)))))<|sA h0<|sP [1,1]<|sF (df h1)<|sT (dt h2)<|sP [1]<|sL)
theorem g4z {s0:ByteArray}{n1 n2:Int}(g0:s0.size=256)(g1:0≤n1)(g2:n1≤9)(h0:(j3g [.l TB (c0b (ByteArray.extract s0 (Int.toNat n1) (Int.toNat (IntKind.wrap .i64 (n1+(8:Int))))))])=(some (0,[.n n2])))(h1:(¬n2<(1:Int)))(h2:(¬n2>(4611686018427387904:Int))):i3i [.s s0,.n n1]=some ((0,[.n (IntKind.wrap .i64 n2)])):=t0c o4a (sTo (c:=(decide ((0:Int)≤IntKind.wrap .i64 (n1+(8:Int)))&&decide (IntKind.wrap .i64 (n1+(8:Int))≤(↑(ByteArray.size s0):Int))))<|sTo (c:=(decide ((0:Int)≤n1)&&decide (n1≤IntKind.wrap .i64 (n1+(8:Int)))))<|sA h0<|sP [1,1]<|sF (df h1)<|sF (df h2)<|sP [1]<|sL)
def l4r:FuncId→Option a0q:=a0s 73 (S_m73.k i3i) w3y
theorem s3u:CsOk Try.prog l4r:=csL1 p3x o4a
def s4f:BSh:={args:=[.str 0],blks:=[],log:=[],outs:=[(.tup [.int .i64 0,.int .i64 1],[])]}
def ev_m41:List Dat→Tree (Nat×List Dat):=evF l4r 41 ls0 s4f
theorem w3o: ∃op,IsF ev_m41 41 s4f op:=bxF s3u (LsOk.none _ _ _)
def h3l:OpA:=opF w3o
theorem l4d {s0:ByteArray}{n1 n2:Int}(g0:s0.size=256)(h0:(i3i [.s s0,.n (1:Int)])=(some (0,[.n n1])))(h1:(i3i [.s s0,.n (9:Int)])=(some (0,[.n n2])))(h2:(n1=(0:Int))):h3l [.s s0]=some ((0,[.n (0:Int),.n (0:Int)])):=t0c w3o (sA h0<|sP [1,1]<|sA h1<|sP [1,1]<|sT (bt h2)<|sP [1,1,1,1,1]<|sL)
theorem m4c {s0:ByteArray}{n1 n2:Int}(g0:s0.size=256)(h0:(i3i [.s s0,.n (1:Int)])=(some (0,[.n n1])))(h1:(i3i [.s s0,.n (9:Int)])=(some (0,[.n n2])))(h2:(¬n1=(0:Int)))(h3:(n2=(0:Int))):h3l [.s s0]=some ((0,[.n (0:Int),.n (0:Int)])):=t0c w3o (sA h0<|sP [1,1]<|sA h1<|sP [1,1]<|sF (bf h2)<|sT (bt h3)<|sP [1,1,1]<|sL)
theorem j4u {s0:ByteArray}{n1 n2:Int}{s3:ByteArray}(g0:s0.size=256)(h0:(i3i [.s s0,.n (1:Int)])=(some (0,[.n n1])))(h1:(i3i [.s s0,.n (9:Int)])=(some (0,[.n n2])))(h2:(¬n1=(0:Int)))(h3:(¬n2=(0:Int)))(h4:(i3n [.n n1,.n n2])=(some (0,[.s s3])))(h5:(f0b s3 s0=false)):h3l [.s s0]=some ((0,[.n (0:Int),.n (0:Int)])):=t0c w3o (sA h0<|sP [1,1]<|sA h1<|sP [1,1]<|sF (bf h2)<|sF (bf h3)<|sA h4<|sP [1,1]<|sT (nf h5)<|sP [1]<|sL)
theorem j4q {s0:ByteArray}{n1 n2:Int}{s3:ByteArray}(g0:s0.size=256)(h0:(i3i [.s s0,.n (1:Int)])=(some (0,[.n n1])))(h1:(i3i [.s s0,.n (9:Int)])=(some (0,[.n n2])))(h2:(¬n1=(0:Int)))(h3:(¬n2=(0:Int)))(h4:(i3n [.n n1,.n n2])=(some (0,[.s s3])))(h5:(f0b s3 s0=true)):h3l [.s s0]=some ((0,[.n n1,.n n2])):=t0c w3o (sA h0<|sP [1,1]<|sA h1<|sP [1,1]<|sF (bf h2)<|sF (bf h3)<|sA h4<|sP [1,1]<|sF (nt h5)<|sP [1]<|sL)
def p4b:FuncId→Option a0q:=a0s 41 (s4f.k h3l) l4r
theorem s3i:CsOk Try.prog p4b:=csL1 s3u w3o
def v4h:BSh:={args:=[.str 0],blks:=[],log:=[],outs:=[(.tup [.int .i64 0,.str 1],[])]}
def ev_m47:List Dat→Tree (Nat×List Dat):=evF p4b 47 ls0 v4h
theorem x3v: ∃op,IsF ev_m47 47 v4h op:=bxF s3i (LsOk.none _ _ _)
def i3l:OpA:=opF x3v
theorem p4g {s0:ByteArray}{n1 n2:Int}(g0:s0.size=256)(h0:(i3i [.s s0,.n (1:Int)])=(some (0,[.n n1])))(h1:(j3g [.l TB (c0b (ByteArray.extract s0 9 11))])=(some (0,[.n n2])))(h2:(n1=(0:Int))):i3l [.s s0]=some ((0,[.n (0:Int),.s {data:={toList:=[]}}])):=t0c x3v (sA h0<|sP [1,1]<|sTs (c:=(true&&decide ((11:Int)≤(↑(ByteArray.size s0):Int))))<|sP [1]<|sA h1<|sP [1,1]<|sT (bt h2)<|sP [1,1,1,1,1]<|sL)
theorem o4g {s0:ByteArray}{n1 n2:Int}(g0:s0.size=256)(h0:(i3i [.s s0,.n (1:Int)])=(some (0,[.n n1])))(h1:(j3g [.l TB (c0b (ByteArray.extract s0 9 11))])=(some (0,[.n n2])))(h2:(¬n1=(0:Int)))(h3:(IntKind.wrap .i64 n2>(232:Int))):i3l [.s s0]=some ((0,[.n (0:Int),.s {data:={toList:=[]}}])):=t0c x3v (sA h0<|sP [1,1]<|sTs (c:=(true&&decide ((11:Int)≤(↑(ByteArray.size s0):Int))))<|sP [1]<|sA h1<|sP [1,1]<|sF (bf h2)<|sT (dt h3)<|sP [1,1,1]<|sL)
theorem j4i {s0:ByteArray}{n1 n2:Int}{s3:ByteArray}(g0:s0.size=256)(h0:(i3i [.s s0,.n (1:Int)])=(some (0,[.n n1])))(h1:(j3g [.l TB (c0b (ByteArray.extract s0 9 11))])=(some (0,[.n n2])))(h2:(¬n1=(0:Int)))(h3:(¬IntKind.wrap .i64 n2>(232:Int)))(h4:((decide ((0:Int)≤IntKind.wrap .i64 ((11:Int)+IntKind.wrap .i64 n2))&&decide (IntKind.wrap .i64 ((11:Int)+IntKind.wrap .i64 n2)≤(↑(ByteArray.size s0):Int)))=true))(h5:((true&&decide ((11:Int)≤IntKind.wrap .i64 ((11:Int)+IntKind.wrap .i64 n2)))=true))(h6:(k3h [.n n1,.s (ByteArray.extract s0 11 (Int.toNat (IntKind.wrap .i64 ((11:Int)+IntKind.wrap .i64 n2))))])=(some (0,[.s s3])))(h7:(f0b s3 s0=false)):i3l [.s s0]=some ((0,[.n (0:Int),.s {data:={toList:=[]}}])):=t0c x3v (sA h0<|sP [1,1]<|sTs (c:=(true&&decide ((11:Int)≤(↑(ByteArray.size s0):Int))))<|sP [1]<|sA h1<|sP [1,1]<|sF (bf h2)<|sF (df h3)<|sT h4<|sT h5<|sA h6<|sP [1,1]<|sT (nf h7)<|sP [1]<|sL)
theorem k4p {s0:ByteArray}{n1 n2:Int}{s3:ByteArray}(g0:s0.size=256)(h0:(i3i [.s s0,.n (1:Int)])=(some (0,[.n n1])))(h1:(j3g [.l TB (c0b (ByteArray.extract s0 9 11))])=(some (0,[.n n2])))(h2:(¬n1=(0:Int)))(h3:(¬IntKind.wrap .i64 n2>(232:Int)))(h4:((decide ((0:Int)≤IntKind.wrap .i64 ((11:Int)+IntKind.wrap .i64 n2))&&decide (IntKind.wrap .i64 ((11:Int)+IntKind.wrap .i64 n2)≤(↑(ByteArray.size s0):Int)))=true))(h5:((true&&decide ((11:Int)≤IntKind.wrap .i64 ((11:Int)+IntKind.wrap .i64 n2)))=true))(h6:(k3h [.n n1,.s (ByteArray.extract s0 11 (Int.toNat (IntKind.wrap .i64 ((11:Int)+IntKind.wrap .i64 n2))))])=(some (0,[.s s3])))(h7:(f0b s3 s0=true)):i3l [.s s0]=some ((0,[.n n1,.s (ByteArray.extract s0 11 (Int.toNat (IntKind.wrap .i64 ((11:Int)+IntKind.wrap .i64 n2))))])):=t0c x3v (sA h0<|sP [1,1]<|sTs (c:=(true&&decide ((11:Int)≤(↑(ByteArray.size s0):Int))))<|sP [1]<|sA h1<|sP [1,1]<|sF (bf h2)<|sF (df h3)<|sT h4<|sT h5<|sA h6<|sP [1,1]<|sF (nt h7)<|sT h4<|sT h5<|sP [1,1]<|sL)
def l4k:FuncId→Option a0q:=a0s 47 (v4h.k i3l) p4b
theorem s3b:CsOk Try.prog l4k:=csL1 s3i x3v
def j4t:LSh:={K:=0,log:=[],ins:=[(sh 14 [(0,.str 0),(3,.int .i64 1)],[])],nils:=[],outs:=[(.exit 0,sh 14 [],[]),(.ret,sh 14 [(2,.bool 0)],[])],cv:=[]}
def k3n:List Dat→Tree Step:=evL l4k 42 2 ls0 j4t
theorem r3i: ∃op,IsL k3n 42 2 j4t op:=bxL s3b (LsOk.none _ _ _)
def n3l:OpA:=opL r3i
theorem v3f (env:List Dat):n3l env=a0b k3n FU env:=h3y r3i env
abbrev u4l:MBox:=boxL r3i
theorem y3g {s0:ByteArray}{n1:Int}(g0:0≤n1)(h0:(n1<(↑(ByteArray.size s0):Int)))(h1:(¬x3e s0 n1=(0:Int))):(k3n [.k 0,.s s0,.n n1]).sel=some (Step.stop 1 [.b false]):=sP [1]<|sT (dt h0)<|sTo (c:=(inR n1 (ByteArray.size s0)))<|sT (bnt h1)<|sP [1]<|sL
theorem v3k {s0:ByteArray}{n1:Int}(g0:0≤n1)(h0:(n1<(↑(ByteArray.size s0):Int)))(h1:(x3e s0 n1=(0:Int))):(k3n [.k 0,.s s0,.n n1]).sel=some (Step.go [.k 0,.s s0,.n (IntKind.wrap .i64 (n1+(1:Int)))]):=sP [1]<|sT (dt h0)<|sTo (c:=(inR n1 (ByteArray.size s0)))<|sF (bnf h1)<|sP [1]<|sL
theorem w3n {s0:ByteArray}{n1:Int}(g0:0≤n1)(h0:(¬n1<(↑(ByteArray.size s0):Int))):(k3n [.k 0,.s s0,.n n1]).sel=some (Step.stop 0 []):=sP [1]<|sF (df h0)<|sP [1]<|sL
def S_m42:BSh:={args:=[.str 0],blks:=[],log:=[],outs:=[(.bool 0,[])]}
def ev_m42:List Dat→Tree (Nat×List Dat):=evF l4k 42 (lsM [(2,u4l)] 0) S_m42
theorem u4a: ∃op,IsF ev_m42 42 S_m42 op:=bxF s3b (lsE (lsC (h3n r3i) (atF) lsZ))
def i3t:OpA:=opF u4a
theorem n4f {s0:ByteArray}(h0:(n3l [.k 0,.s s0,.n (0:Int)])=(some (0,[]))):i3t [.s s0]=some ((0,[.b true])):=t0c u4a (sA h0<|sP [1,1]<|sL)
theorem h4i {s0:ByteArray}{b1:Bool}(h0:(n3l [.k 0,.s s0,.n (0:Int)])=(some (1,[.b b1]))):i3t [.s s0]=some ((0,[.b b1])):=t0c u4a (sA h0<|sP [0,1,1]<|sL)
def chk (l:List Int):List Int:=l++bes (IntKind.wrap .u64 (N (Sm l))) 4
theorem m3o (l:List Int):(chk l).length=l.length+4:=by unfold chk;rw[List.length_append,h3v]
def blkB (b:List Int)(n:Int):List Int:=chk b++List.replicate (248-(chk b).length) 0++bes (IntKind.wrap .u64 n) 8
def hdP (t f:Int):List Int:=[72]++bes (IntKind.wrap .u64 t) 8++bes (IntKind.wrap .u64 f) 8
def hdB (t f:Int):List Int:=blkB (hdP t f) t
def rcP (k:Int)(s:List Int):List Int:=[82]++bes (IntKind.wrap .u64 k) 8++bes (IntKind.wrap .u64 (s.length:Int)) 2++s
def rcB (k:Int)(s:List Int):List Int:=blkB (rcP k s) k
theorem m3y {a b:List Int}(ha:Wb a)(hb:Wb b):Wb (a++b):=fun x hx=>by
 rcases List.mem_append.1 hx with h|h
 ·exact ha x h
 ·exact hb x h
theorem k4s {c:Int}(h0:0≤c)(h1:c<256):Wb [c]:=fun x hx=>by
 rcases List.mem_singleton.1 hx with rfl;exact⟨h0,h1⟩
theorem wb_rep (n:Nat):Wb (List.replicate n (0:Int)):=fun x hx=>by
 rw[(List.mem_replicate.1 hx).2];decide
theorem u3z (t f:Int):(hdP t f).length=17:=by unfold hdP;simp only[List.length_append,h3v];rfl
theorem hdP_wb (t f:Int):Wb (hdP t f):=m3y (m3y (k4s (by decide) (by decide)) (t3b _ _)) (t3b _ _)
theorem r3n (k:Int)(s:List Int):(rcP k s).length=11+s.length:=by unfold rcP;simp only[List.length_append,h3v];rfl
theorem rcP_wb (k:Int){s:List Int}(h:Wb s):Wb (rcP k s):=m3y (m3y (m3y (k4s (by decide) (by decide)) (t3b _ _)) (t3b _ _)) h
theorem chk_wb {b:List Int}(h:Wb b):Wb (chk b):=m3y h (t3b _ _)
theorem h4m {b:List Int}(h:Wb b)(n:Int):Wb (blkB b n):=m3y (m3y (chk_wb h) (wb_rep _)) (t3b _ _)
theorem z3r {b:List Int}(h:b.length≤244)(n:Int):(blkB b n).length=256:=by
 unfold blkB;rw[List.length_append,List.length_append,List.length_replicate,h3v,m3o];omega
theorem hdB_len (t f:Int):(hdB t f).length=256:=z3r (by rw[u3z];decide) _
theorem k3d (t f:Int):Wb (hdB t f):=h4m (hdP_wb _ _) _
theorem h4o (k:Int){s:List Int}(h:s.length≤232):(rcB k s).length=256:=z3r (by rw[r3n];omega) _
theorem p3z (k:Int){s:List Int}(h:Wb s):Wb (rcB k s):=h4m (rcP_wb _ h) _
theorem r3s {a b:List Int}(ha:Wb a)(hb:Wb b):f0b (r2b a) (r2b b)=decide (a=b):=by
 by_cases h:a=b
 ·subst h;rw[y2e];simp
 ·rw[decide_eq_false h]
  cases e:f0b (r2b a) (r2b b)with
  |false=>rfl
  |true=>
   exfalso
   have e2:r2b a=r2b b:=by unfold f0b at e;exact o4z (by simpa using congrArg Array.toList (by simpa using e:(r2b a).data=(r2b b).data))
   exact h (by rw[←h3z ha,e2,h3z hb])
theorem e70 {a b:List Int}(ha:Wb a)(hb:Wb b):j3j [.l TB a,.l TB b]=some (0,[.b (decide (a=b))]):=by
 rw[←r3s ha hb];exact g4s
theorem r82 (n:Int):i3v [.n n]=some (0,[.b (decide (1≤n)&&decide (n≤4611686018427387904))]):=by
 by_cases h:n≥1
 ·rw[decide_eq_true h,Bool.true_and];exact h4f h
 ·rw[decide_eq_false h,Bool.false_and];exact l4e h
theorem vB {c:Int}(h:bes (IntKind.wrap .u64 c) 1=[c]):w3r [.n c]=some (0,[.l TB [c]]):=by
 have:=t35a (IntKind.wrap .u64 c) 1 (by omega) (by omega)
 rw[h]at this
 exact u4o this
theorem vL (n:Int){l:List Int}(h:l.length≤900000):o3j [.n n,.l TB l]=some (0,[.l TB (l++bes n 8)]):=r4o (t35b n 8 (by omega) l (by omega))
theorem vS (n:Int){l:List Int}(h:l.length≤900000):b4u [.n n,.l TB l]=some (0,[.l TB (l++bes (IntKind.wrap .u64 n) 2)]):=r4l (t35b _ 2 (by omega) l (by omega))
theorem vW (n:Int){l:List Int}(h:l.length≤900000):w3d [.n n,.l TB l]=some (0,[.l TB (l++bes (IntKind.wrap .u64 n) 4)]):=s4e (t35b _ 4 (by omega) l (by omega))
theorem vR {a l:List Int}(h:l.length+a.length≤900000):r3e [.l TB a,.l TB l]=some (0,[.l TB a,.l TB (l++a)]):=p4t (l0:=a) (l1:=l) (show(List.length l+List.length a)*1≤140737488355328 by omega)
theorem vO {l:List Int}(h:l.length≤900000):m3h [.l TB l]=some (0,[.l TB l,.l TB l]):=r4i (t31 (by omega))
theorem r3c (n:Nat):(repC n (Ty.dflt TB):List (Ty.den TB))=List.replicate n (0:Int):=by rw[l2h];rfl
theorem seaB {b:List Int}(hb:b.length≤244):IntKind.wrap .i64 ((248:Int)-((chk b).length:Int))=((248-(chk b).length:Nat):Int):=by
 rw[m3o,w64 (by omega) (by omega)];omega
theorem bh (t f:Int):n3e [.n t,.n f]=some (0,[.l TB (hdB t f)]):=by
 have hl:(hdP t f).length=17:=u3z t f
 have hc:=m3o (hdP t f)
 have e1:=vB (c:=72) rfl
 have e2:=vL (IntKind.wrap .u64 t) (l:=[72]) (by decide)
 have e3:=vL (IntKind.wrap .u64 f) (l:=[72]++bes (IntKind.wrap .u64 t) 8) (by rw[List.length_append,h3v];decide)
 have e4:=vO (l:=hdP t f) (by omega)
 have e5:=q12 (hdP t f) (by omega)
 have e6:=vW (N (Sm (hdP t f))) (l:=hdP t f) (by omega)
 have e7:=vO (l:=chk (hdP t f)) (by omega)
 have es:=seaB (b:=hdP t f) (by omega)
 have e8:=vR (a:=List.replicate (248-(chk (hdP t f)).length) 0) (l:=chk (hdP t f)) (by rw[List.length_replicate];omega)
 have e9:=vL (IntKind.wrap .u64 t) (l:=chk (hdP t f)++List.replicate (248-(chk (hdP t f)).length) 0) (by rw[List.length_append,List.length_replicate];omega)
 have e10:=vO (l:=hdB t f) (by rw[hdB_len];decide)
 refine s4p (l11:=List.replicate (248-(chk (hdP t f)).length) (0:Int)) e1 e2 e3 e4 e5 e6 e7 ?_ ?_ e9 e10
 ·rw[show(List.length (α:=Ty.den TB) (chk (hdP t f)):Int)=((chk (hdP t f)).length:Int)from rfl,es]
  rw[hc,hl];rfl
 ·rw[show(List.length (α:=Ty.den TB) (chk (hdP t f)):Int)=((chk (hdP t f)).length:Int)from rfl,es,Int.toNat_natCast,r3c]
  exact e8
theorem be2 {n:Nat}(h:n≤232):bes (IntKind.wrap .u64 (IntKind.wrap .u16 (n:Int))) 2=bes (IntKind.wrap .u64 (n:Int)) 2:=by
 rw[show IntKind.wrap .u16 (n:Int)=(n:Int) by rw[wu16];omega]
theorem br (k:Int){s:List Int}(hs:s.length≤232):c4d [.n k,.l TB s]=some (0,[.l TB s,.l TB (rcB k s)]):=by
 have hl:(rcP k s).length=11+s.length:=r3n k s
 have hc:=m3o (rcP k s)
 have e1:=vB (c:=82) rfl
 have e2:=vL (IntKind.wrap .u64 k) (l:=[82]) (by decide)
 have e3:=vS (IntKind.wrap .u16 (s.length:Int)) (l:=[82]++bes (IntKind.wrap .u64 k) 8) (by rw[List.length_append,h3v];decide)
 rw[be2 hs]at e3
 have e3b:=vR (a:=s) (l:=[82]++bes (IntKind.wrap .u64 k) 8++bes (IntKind.wrap .u64 (s.length:Int)) 2) (by simp only[List.length_append,h3v,List.length_cons,List.length_nil];omega)
 have e4:=vO (l:=rcP k s) (by omega)
 have e5:=q12 (rcP k s) (by omega)
 have e6:=vW (N (Sm (rcP k s))) (l:=rcP k s) (by omega)
 have e7:=vO (l:=chk (rcP k s)) (by omega)
 have es:=seaB (b:=rcP k s) (by omega)
 have e8:=vR (a:=List.replicate (248-(chk (rcP k s)).length) 0) (l:=chk (rcP k s)) (by rw[List.length_replicate];omega)
 have e9:=vL (IntKind.wrap .u64 k) (l:=chk (rcP k s)++List.replicate (248-(chk (rcP k s)).length) 0) (by rw[List.length_append,List.length_replicate];omega)
 have e10:=vO (l:=rcB k s) (by rw[h4o k hs];decide)
 refine s4b (l13:=List.replicate (248-(chk (rcP k s)).length) (0:Int)) e1 e2 e3 e3b e4 e5 e6 e7 ?_ ?_ e9 e10
 ·rw[show(List.length (α:=Ty.den TB) (chk (rcP k s)):Int)=((chk (rcP k s)).length:Int)from rfl,es]
  have:(248-(chk (rcP k s)).length:Nat)≤248:=by omega
  generalize (248-(chk (rcP k s)).length:Nat)=m at this
  simp only[Bool.and_eq_true,decide_eq_true_eq]
  omega
 ·rw[show(List.length (α:=Ty.den TB) (chk (rcP k s)):Int)=((chk (rcP k s)).length:Int)from rfl,es,Int.toNat_natCast,r3c]
  exact e8
theorem pow8: ∀k,k≤8→(256:Int)^k≤256^8:=by decide
theorem pow2: ∀k,k≤2→(256:Int)^k≤256^2:=by decide
def sl (b:List Int)(i n:Nat):List Int:=(b.drop i).take n
def rtn (n:Int):Prop:=1≤n∧n≤4611686018427387904
instance (n:Int):Decidable (rtn n):=by unfold rtn;infer_instance
def tH (b:List Int):Option (Int×Int):=if rtn (nm (sl b 1 8))∧rtn (nm (sl b 9 8))∧hdB (nm (sl b 1 8)) (nm (sl b 9 8))=b then some (nm (sl b 1 8),nm (sl b 9 8))else none
def rcS (b:List Int):List Int:=sl b 11 (nm (sl b 9 2)).toNat
def tR (b:List Int):Option (Int×List Int):=if rtn (nm (sl b 1 8))∧nm (sl b 9 2)≤232∧rcB (nm (sl b 1 8)) (rcS b)=b then some (nm (sl b 1 8),rcS b)else none
theorem p3e {b:List Int}(h:Wb b)(i n:Nat):Wb (sl b i n):=(h.drop i).take n
theorem sl_len {b:List Int}{i n:Nat}(h:i+n≤b.length):(sl b i n).length=n:=by unfold sl;rw[List.length_take,List.length_drop];omega
theorem k4e (b:List Int)(i n:Nat):(sl b i n).length≤n:=by unfold sl;rw[List.length_take];omega
theorem nm8 {b:List Int}(h:Wb b)(i:Nat):0≤nm (sl b i 8)∧nm (sl b i 8)<18446744073709551616:=by
 have h1:=r3o (p3e h i 8)
 have h2:=k4e b i 8
 refine⟨h1.1,Int.lt_of_lt_of_le h1.2 ?_⟩
 have:(256:Int)^(sl b i 8).length≤256^8:=pow8 _ h2
 exact Int.le_trans this (by decide)
theorem nm2 {b:List Int}(h:Wb b)(i:Nat):0≤nm (sl b i 2)∧nm (sl b i 2)<65536:=by
 have h1:=r3o (p3e h i 2)
 have h2:=k4e b i 2
 refine⟨h1.1,Int.lt_of_lt_of_le h1.2 ?_⟩
 have:(256:Int)^(sl b i 2).length≤256^2:=pow2 _ h2
 exact Int.le_trans this (by decide)
theorem v3o (b:List Int)(i n:Nat):(b.take (i+n)).drop i=sl b i n:=by unfold sl;rw[List.drop_take];congr 1;omega
section
variable {b:List Int} (hb:Wb b) (hl:b.length=256)
include hb hl
theorem o3k (i:Nat):WO (some (b.drop i)):=fun l e=>by
 cases e
 exact⟨hb.drop i,by rw[List.length_drop];omega⟩
theorem rd8 {i:Nat}(h:i+8≤256):i3c [.l TB (b.drop i),.b false]=some (0,[.n (nm (sl b i 8)),.l TB (b.drop (i+8)),.b false]):=by
 have e:=r78r (o3k hb hl i)
 have h1:8≤(b.drop i).length:=by rw[List.length_drop];omega
 rw[o3q h1,show vl 8 (some (b.drop i))=nm (sl b i 8) by unfold vl;rw[o3b h1];rfl,List.drop_drop]at e
 exact e
theorem rd2 {i:Nat}(h:i+2≤256):k3u [.l TB (b.drop i),.b false]=some (0,[.n (nm (sl b i 2)),.l TB (b.drop (i+2)),.b false]):=by
 have e:=r83r (o3k hb hl i)
 have h1:2≤(b.drop i).length:=by rw[List.length_drop];omega
 rw[o3q h1,show vl 2 (some (b.drop i))=nm (sl b i 2) by unfold vl;rw[o3b h1];rfl,List.drop_drop]at e
 exact e
theorem rd1:i3z [.l TB b,.b false]=some (0,[.n (nm (b.take 1)),.l TB (b.drop 1),.b false]):=by
 have e:=r77r (o3k hb hl 0)
 have h1:1≤(b.drop 0).length:=by rw[List.length_drop];omega
 rw[o3q h1,show vl 1 (some (b.drop 0))=nm (b.take 1) by unfold vl;rw[o3b h1];rfl,List.drop_zero]at e
 exact e
theorem rdW {i n:Nat}(h:i+n≤256):k3b [.n (n:Int),.l TB (b.drop i),.b false]=some (0,[.l TB (b.drop (i+n)),.b false,.l TB (sl b i n)]):=by
 have e:=r82r (o3k hb hl i) n (by omega)
 have h1:n≤(b.drop i).length:=by rw[List.length_drop];omega
 rw[o3q h1,o3b h1,List.drop_drop]at e
 exact e
theorem rdX {i n:Nat}(hi:i≤256)(h:256<i+n)(hn:n≤65536):k3b [.n (n:Int),.l TB (b.drop i),.b false]=some (0,[.l TB ([]:List Int),.b true,.l TB ([]:List Int)]):=by
 have e:=r82r (o3k hb hl i) n (by omega)
 have h1: ¬n≤(b.drop i).length:=by rw[List.length_drop];omega
 rw[a4z h1,z3x h1]at e
 exact e
theorem m73 {i:Nat}(h:i≤9):i3i [.s (r2b b),.n (i:Int)]=some (0,[.n (if rtn (nm (sl b i 8))then nm (sl b i 8)else 0)]):=by
 have hs:(r2b b).size=256:=by rw[i3a,hl]
 have e0:IntKind.wrap .i64 ((i:Int)+8)=((i+8:Nat):Int):=by rw[w64 (by omega) (by omega)];omega
 have e1:c0b (ByteArray.extract (r2b b) (Int.toNat (i:Int)) (Int.toNat (IntKind.wrap .i64 ((i:Int)+8))))=sl b i 8:=by
  rw[e0,Int.toNat_natCast,Int.toNat_natCast,l3b,v3o,h3z (p3e hb i 8)]
 have e2:j3g [.l TB (c0b (ByteArray.extract (r2b b) (Int.toNat (i:Int)) (Int.toNat (IntKind.wrap .i64 ((i:Int)+8)))))]=some (0,[.n (nm (sl b i 8))]):=by
  rw[e1];exact t17r (k4e b i 8) (p3e hb i 8)
 have hn:=nm8 hb i
 by_cases h1:nm (sl b i 8)<1
 ·rw[if_neg (fun q=>by have:=q.1;omega)]
  exact m4i hs (by omega) (by omega) e2 h1
 ·by_cases h2:nm (sl b i 8)>4611686018427387904
  ·rw[if_neg (fun q=>by have:=q.2;omega)]
   exact n4l hs (by omega) (by omega) e2 h1 h2
  ·rw[if_pos ⟨by omega,by omega⟩]
   have:=g4z hs (by omega) (by omega) e2 h1 h2
   rw[w64 (by omega) (by omega)]at this
   exact this
end
theorem le1 {a b:List Int}(h:a.length+b.length≤140737488355328):(List.length (α:=Ty.den TB) a+List.length (α:=Ty.den TB) b)*1≤140737488355328:=by rw[Nat.mul_one];exact h
theorem le0 {b:List Int}(h:1+b.length≤140737488355328):(1+List.length (α:=Ty.den TB) b)*1≤140737488355328:=by rw[Nat.mul_one];exact h
theorem m68l (n:Int): ∀(k:Nat) (l r:List Int) (f:Nat),l.length+k=248→k<f→r=l++List.replicate k 0→a0b l3t f [.k 0,.n n,.l TB l]=some (0,[.n n,.l TB r])
 |0,l,r,f,h,hf,hr=>by
  obtain⟨f,rfl⟩: ∃g,f=g+1:=⟨f-1,by omega⟩
  have e:=v3n (n0:=n) (l1:=l) (show¬((List.length l:Nat):Int)<248 by omega)
  rw[List.replicate_zero,List.append_nil]at hr
  subst hr
  exact c0a e
 |k+1,l,r,f,h,hf,hr=>by
  obtain⟨f,rfl⟩: ∃g,f=g+1:=⟨f-1,by omega⟩
  have e:=v3h (n0:=n) (l1:=l) (show((List.length l:Nat):Int)<248 by omega)
  refine(v0e e).trans ?_
  have q1:((l++[(0:Int)]:List Int)).length+k=248:=by rw[List.length_append,List.length_singleton];omega
  have q2:r=(l++[(0:Int)]:List Int)++List.replicate k 0:=by rw[hr,List.append_assoc,List.singleton_append,←List.replicate_succ]
  exact m68l n k _ r f q1 (by omega) q2
theorem m68 {b:List Int}(hw:Wb b)(hl:b.length≤244)(n:Int):u3c [.n n,.l TB b]=some (0,[.s (r2b (blkB b n))]):=by
 have e1:=q13 b (by omega) hw
 have e2:=t30 (IntKind.wrap .u64 (N (Sm b))) 4 (by omega)
 have hc:=m3o b
 obtain⟨R,hR⟩: ∃R,R=chk b++List.replicate (248-(chk b).length) 0:=⟨_,rfl⟩
 have hRl:R.length=248:=by rw[hR,List.length_append,List.length_replicate];omega
 have e3:q3j [.k 0,.n n,.l TB (chk b)]=some (0,[.n n,.l TB R]):=by
  rw[v3u]
  exact m68l n (248-(chk b).length) (chk b) R FU (by omega) (by unfold FU;omega) hR
 have e4:=t30 (IntKind.wrap .u64 n) 8 (by omega)
 have hB:blkB b n=R++bes (IntKind.wrap .u64 n) 8:=by rw[hR];rfl
 rw[hB]
 exact g4c (l1:=b) (l3:=bes (IntKind.wrap .u64 (N (Sm b))) 4) (l5:=R) (l6:=bes (IntKind.wrap .u64 n) 8) e1 e2 (le1 (by rw[h3v];omega)) e3 e4 (le1 (by rw[h3v];omega))
theorem m32h (t f:Int):i3n [.n t,.n f]=some (0,[.s (r2b (hdB t f))]):=by
 have e1:=t30 (IntKind.wrap .u64 t) 8 (by omega)
 have e2:=t30 (IntKind.wrap .u64 f) 8 (by omega)
 have e3:=m68 (hdP_wb t f) (by rw[u3z];decide) t
 have q1:((([(72:Int)]:List Int)++bes (IntKind.wrap .u64 t) 8:List Int)).length+(bes (IntKind.wrap .u64 f) 8).length≤140737488355328:=by rw[List.length_append,h3v,h3v];decide
 exact b4s (l2:=bes (IntKind.wrap .u64 t) 8) (l3:=bes (IntKind.wrap .u64 f) 8) e1 (le0 (by rw[h3v];decide)) e2 (le1 q1) e3
theorem m33r (k:Int){s:List Int}(hw:Wb s)(hs:s.length≤232):k3h [.n k,.s (r2b s)]=some (0,[.s (r2b (rcB k s))]):=by
 have e1:=t30 (IntKind.wrap .u64 k) 8 (by omega)
 have e2:=t30 (IntKind.wrap .u64 (s.length:Int)) 2 (by omega)
 have e3:=m68 (rcP_wb k hw) (by rw[r3n];omega) k
 have hz:((ByteArray.size (r2b s):Nat):Int)=(s.length:Int):=by rw[i3a]
 have hy:=h3z hw
 have q0:([82]:List Int).length=1:=rfl
 have q1:((([(82:Int)]:List Int)++bes (IntKind.wrap .u64 k) 8:List Int)).length+(bes (IntKind.wrap .u64 (s.length:Int)) 2).length≤140737488355328:=by rw[List.length_append,h3v,h3v];decide
 have q2:((([(82:Int)]:List Int)++bes (IntKind.wrap .u64 k) 8++bes (IntKind.wrap .u64 (s.length:Int)) 2:List Int)).length+(c0b (r2b s)).length≤140737488355328:=by rw[hy,List.length_append,List.length_append,h3v,h3v,List.length_singleton];omega
 exact c4i (l2:=bes (IntKind.wrap .u64 k) 8) (l3:=bes (IntKind.wrap .u64 (s.length:Int)) 2) e1 (le0 (by rw[h3v];decide)) (by rw[hz];exact e2) (le1 q1) (le1 q2) (by rw[hy];exact e3)
theorem p3q {c:Int}{p:List Int}(n:Int):(blkB (c::p) n).take 1=[c]:=by
 unfold blkB chk;rfl
theorem n4p (t f:Int):(hdB t f).take 1=[72]:=p3q (p:=bes (IntKind.wrap .u64 t) 8++bes (IntKind.wrap .u64 f) 8) t
theorem f4e (k:Int)(s:List Int):(rcB k s).take 1=[82]:=p3q (p:=bes (IntKind.wrap .u64 k) 8++bes (IntKind.wrap .u64 (s.length:Int)) 2++s) k
theorem tH_eq {b:List Int}{x:Int×Int}(h:tH b=some x):rtn x.1∧rtn x.2∧hdB x.1 x.2=b∧x=(nm (sl b 1 8),nm (sl b 9 8)):=by
 unfold tH at h
 split at h
 ·rename_i q;cases h;exact⟨q.1,q.2.1,q.2.2,rfl⟩
 ·cases h
theorem tR_eq {b:List Int}{x:Int×List Int}(h:tR b=some x):rtn x.1∧nm (sl b 9 2)≤232∧rcB x.1 x.2=b∧x=(nm (sl b 1 8),rcS b):=by
 unfold tR at h
 split at h
 ·rename_i q;cases h;exact⟨q.1,q.2.1,q.2.2,rfl⟩
 ·cases h
theorem a4x {b:List Int}{x:Int×Int}(h:tH b=some x):nm (b.take 1)=72:=by
 rw[←(tH_eq h).2.2.1,n4p];rfl
theorem q3a {b:List Int}{x:Int×List Int}(h:tR b=some x):nm (b.take 1)=82:=by
 rw[←(tR_eq h).2.2.1,f4e];rfl
theorem wrapR {n:Int}(h0:0≤n)(h1:n<18446744073709551616):(decide (1≤IntKind.wrap .i64 n)&&decide (IntKind.wrap .i64 n≤4611686018427387904))=decide (rtn n):=by
 by_cases h:n≤9223372036854775807
 ·rw[w64 (by omega) (by omega)]
  unfold rtn
  by_cases a:1≤n<;>by_cases c:n≤4611686018427387904<;>simp[a,c]
 ·have e:IntKind.wrap .i64 n=n-18446744073709551616:=by unfold IntKind.wrap;simp[IntKind.bits,IntKind.signed];omega
  rw[e,decide_eq_false (by omega: ¬1≤n-18446744073709551616),Bool.false_and]
  symm;exact decide_eq_false fun q=>by have:=q.2;omega
theorem r3h {n:Int}(h:rtn n):IntKind.wrap .i64 n=n:=w64 (by have:=h.1;omega) (by have:=h.2;omega)
def i3s (b:List Int):Nat×List Dat:=match tH b with
 |some x=>(1,[.n x.1,.n x.2,.l TB b])
 |none=>match tR b with
  |some y=>(2,[.n y.1,.l TB b,.l TB y.2])
  |none=>(0,[.l TB b])
section
variable {b:List Int} (hb:Wb b) (hl:b.length=256)
include hb hl
theorem told:h3q [.l TB b]=some (i3s b):=by
 have hl':List.length (α:=Ty.den TB) b=256:=hl
 have e0:j3z [.l TB b]=some (0,[.l TB b,.l TB b,.b false]):=m4v hl' (t31 (by omega))
 have e1:=rd1 hb hl
 by_cases h72:nm (b.take 1)=72
 ·have e2:=rd8 hb hl (i:=1) (by omega)
  have e3:=rd8 hb hl (i:=9) (by omega)
  have n1:=nm8 hb 1
  have n2:=nm8 hb 9
  have hR:tR b=none:=by
   cases h:tR b with
   |none=>rfl
   |some x=>have:=q3a h;omega
  have r1:=r82 (IntKind.wrap .i64 (nm (sl b 1 8)))
  have r2:=r82 (IntKind.wrap .i64 (nm (sl b 9 8)))
  rw[wrapR n1.1 n1.2]at r1
  rw[wrapR n2.1 n2.2]at r2
  have hno:(¬(rtn (nm (sl b 1 8))∧rtn (nm (sl b 9 8))∧hdB (nm (sl b 1 8)) (nm (sl b 9 8))=b))→i3s b=(0,[.l TB b]):=fun h=>by
   unfold i3s;rw[hR]
   unfold tH;rw[if_neg h]
  by_cases q1:rtn (nm (sl b 1 8))
  ·by_cases q2:rtn (nm (sl b 9 8))
   ·have e4:=bh (IntKind.wrap .i64 (nm (sl b 1 8))) (IntKind.wrap .i64 (nm (sl b 9 8)))
    have e5:=e70 (k3d (IntKind.wrap .i64 (nm (sl b 1 8))) (IntKind.wrap .i64 (nm (sl b 9 8)))) hb
    by_cases q3:hdB (nm (sl b 1 8)) (nm (sl b 9 8))=b
    ·have hk:i3s b=(1,[.n (nm (sl b 1 8)),.n (nm (sl b 9 8)),.l TB b]):=by
      unfold i3s tH;rw[if_pos ⟨q1,q2,q3⟩]
     rw[hk]
     have:=f4r hl' e0 e1 h72 e2 e3 r1 (decide_eq_true q1) r2 (decide_eq_true q2) e4 e5 (decide_eq_true (by rw[r3h q1,r3h q2];exact q3))
     rw[r3h q1,r3h q2]at this
     exact this
    ·rw[hno fun q=>q3 q.2.2]
     exact i4s hl' e0 e1 h72 e2 e3 r1 (decide_eq_true q1) r2 (decide_eq_true q2) e4 e5 (decide_eq_false (by rw[r3h q1,r3h q2];exact q3))
   ·rw[hno fun q=>q2 q.2.1]
    exact m4l hl' e0 e1 h72 e2 e3 r1 (decide_eq_true q1) r2 (decide_eq_false q2)
  ·rw[hno fun q=>q1 q.1]
   exact n4k hl' e0 e1 h72 e2 e3 r1 (decide_eq_false q1)
 ·have hH:tH b=none:=by
   cases h:tH b with
   |none=>rfl
   |some x=>exact absurd (a4x h) h72
  by_cases h82:nm (b.take 1)=82
  ·have e2:=rd8 hb hl (i:=1) (by omega)
   have e3:=rd2 hb hl (i:=9) (by omega)
   have n1:=nm8 hb 1
   have n2:=nm2 hb 9
   obtain⟨m,hm⟩: ∃m:Nat,nm (sl b 9 2)=m:=⟨(nm (sl b 9 2)).toNat,by omega⟩
   have hs:rcS b=sl b 11 m:=by unfold rcS;rw[hm];rfl
   have r1:=r82 (IntKind.wrap .i64 (nm (sl b 1 8)))
   rw[wrapR n1.1 n1.2]at r1
   have hw:IntKind.wrap .i64 (nm (sl b 9 2))=(m:Int):=by rw[hm,w64 (by omega) (by omega)]
   have hno:(¬(rtn (nm (sl b 1 8))∧nm (sl b 9 2)≤232∧rcB (nm (sl b 1 8)) (rcS b)=b))→i3s b=(0,[.l TB b]):=fun h=>by
    unfold i3s;rw[hH]
    unfold tR;rw[if_neg h]
   by_cases hbig:245<m
   ·have e4:=rdX hb hl (i:=11) (n:=m) (by omega) (by omega) (by omega)
    rw[←hw]at e4
    rw[hno fun q=>by have:=q.2.1;omega]
    by_cases q1:rtn (nm (sl b 1 8))
    ·have e5:=br (IntKind.wrap .i64 (nm (sl b 1 8))) (s:=[]) (by decide)
     have e6:=e70 (p3z (IntKind.wrap .i64 (nm (sl b 1 8))) (s:=[]) (fun x hx=>by cases hx)) hb
     have q3: ¬rcB (IntKind.wrap .i64 (nm (sl b 1 8))) []=b:=fun q=>by
      have:nm (sl b 9 2)=0:=by rw[←q];rfl
      omega
     exact s3n hl' e0 e1 h72 h82 e2 e3 e4 r1 (decide_eq_true q1) (by decide) e5 e6 (decide_eq_false q3)
    ·exact s3c hl' e0 e1 h72 h82 e2 e3 e4 r1 (decide_eq_false q1)
   ·have e4:=rdW hb hl (i:=11) (n:=m) (by omega)
    rw[←hw,←hs]at e4
    have hlen:(rcS b).length=m:=by rw[hs];exact sl_len (by omega)
    by_cases q1:rtn (nm (sl b 1 8))
    ·by_cases q2:m≤232
     ·have e5:=br (IntKind.wrap .i64 (nm (sl b 1 8))) (s:=rcS b) (by omega)
      have e6:=e70 (p3z (IntKind.wrap .i64 (nm (sl b 1 8))) (s:=rcS b) (p3e hb _ _)) hb
      by_cases q3:rcB (nm (sl b 1 8)) (rcS b)=b
      ·have hk:i3s b=(2,[.n (nm (sl b 1 8)),.l TB b,.l TB (rcS b)]):=by
        unfold i3s;rw[hH];unfold tR;rw[if_pos ⟨q1,by omega,q3⟩]
       rw[hk]
       have:=g4t hl' e0 e1 h72 h82 e2 e3 e4 r1 (decide_eq_true q1) (show((rcS b).length:Int)≤232 by omega) e5 e6 (decide_eq_true (by rw[r3h q1];exact q3))
       rw[r3h q1]at this
       exact this
      ·rw[hno fun q=>q3 q.2.2]
       exact s3n hl' e0 e1 h72 h82 e2 e3 e4 r1 (decide_eq_true q1) (show((rcS b).length:Int)≤232 by omega) e5 e6 (decide_eq_false (by rw[r3h q1];exact q3))
     ·rw[hno fun q=>by have:=q.2.1;omega]
      exact l4n hl' e0 e1 h72 h82 e2 e3 e4 r1 (decide_eq_true q1) (show¬((rcS b).length:Int)≤232 by omega)
    ·rw[hno fun q=>q1 q.1]
     exact s3c hl' e0 e1 h72 h82 e2 e3 e4 r1 (decide_eq_false q1)
  ·have hR:tR b=none:=by
    cases h:tR b with
    |none=>rfl
    |some x=>exact absurd (q3a h) h82
   rw[show i3s b=(0,[.l TB b]) by unfold i3s;rw[hH,hR]]
   exact n4e hl' e0 e1 h72 h82
theorem m4u:(r2b b).size=256:=by rw[i3a,hl]
theorem m41:h3l [.s (r2b b)]=some (0,match tH b with|some x=>[.n x.1,.n x.2]|none=>[.n 0,.n 0]):=by
 have hs:=m4u hb hl
 have e1:=m73 hb hl (i:=1) (by omega)
 have e2:=m73 hb hl (i:=9) (by omega)
 have n1:=nm8 hb 1
 have n2:=nm8 hb 9
 by_cases q1:rtn (nm (sl b 1 8))
 ·rw[if_pos q1]at e1
  by_cases q2:rtn (nm (sl b 9 8))
  ·rw[if_pos q2]at e2
   have e3:=m32h (nm (sl b 1 8)) (nm (sl b 9 8))
   have e4:=r3s (k3d (nm (sl b 1 8)) (nm (sl b 9 8))) hb
   by_cases q3:hdB (nm (sl b 1 8)) (nm (sl b 9 8))=b
   ·rw[show tH b=some (nm (sl b 1 8),nm (sl b 9 8)) by unfold tH;rw[if_pos ⟨q1,q2,q3⟩]]
    exact j4q hs e1 e2 (by have:=q1.1;omega) (by have:=q2.1;omega) e3 (e4.trans (decide_eq_true q3))
   ·rw[show tH b=none by unfold tH;rw[if_neg fun q=>q3 q.2.2]]
    exact j4u hs e1 e2 (by have:=q1.1;omega) (by have:=q2.1;omega) e3 (e4.trans (decide_eq_false q3))
  ·rw[if_neg q2]at e2
   rw[show tH b=none by unfold tH;rw[if_neg fun q=>q2 q.2.1]]
   exact m4c hs e1 e2 (by have:=q1.1;omega) rfl
 ·rw[if_neg q1]at e1
  rw[show tH b=none by unfold tH;rw[if_neg fun q=>q1 q.1]]
  exact l4d hs e1 e2 rfl
theorem m47:i3l [.s (r2b b)]=some (0,match tR b with|some x=>[.n x.1,.s (r2b x.2)]|none=>[.n 0,.s (r2b [])]):=by
 have hs:=m4u hb hl
 have e1:=m73 hb hl (i:=1) (by omega)
 have n1:=nm8 hb 1
 have n2:=nm2 hb 9
 have e2:j3g [.l TB (c0b (ByteArray.extract (r2b b) 9 11))]=some (0,[.n (nm (sl b 9 2))]):=by
  rw[l3b,show(11:Nat)=9+2 from rfl,v3o,h3z (p3e hb 9 2)]
  exact t17r (Nat.le_trans (k4e b 9 2) (by decide)) (p3e hb 9 2)
 obtain⟨m,hm⟩: ∃m:Nat,nm (sl b 9 2)=m:=⟨(nm (sl b 9 2)).toNat,by omega⟩
 have hsS:rcS b=sl b 11 m:=by unfold rcS;rw[hm];rfl
 have hw:IntKind.wrap .i64 (nm (sl b 9 2))=(m:Int):=by rw[hm,w64 (by omega) (by omega)]
 by_cases q1:rtn (nm (sl b 1 8))
 ·rw[if_pos q1]at e1
  by_cases q2:m≤232
  ·have hw2:IntKind.wrap .i64 ((11:Int)+IntKind.wrap .i64 (nm (sl b 9 2)))=((11+m:Nat):Int):=by rw[hw,w64 (by omega) (by omega)];omega
   have hx:ByteArray.extract (r2b b) 11 (Int.toNat (IntKind.wrap .i64 ((11:Int)+IntKind.wrap .i64 (nm (sl b 9 2)))))=r2b (rcS b):=by
    rw[hw2,Int.toNat_natCast,l3b,v3o,hsS]
   have hlen:(rcS b).length=m:=by rw[hsS];exact sl_len (by omega)
   have e3:=m33r (nm (sl b 1 8)) (s:=rcS b) (p3e hb _ _) (by omega)
   rw[←hx]at e3
   have e4:=r3s (p3z (nm (sl b 1 8)) (s:=rcS b) (p3e hb _ _)) hb
   have g1:((decide ((0:Int)≤IntKind.wrap .i64 ((11:Int)+IntKind.wrap .i64 (nm (sl b 9 2))))&&decide (IntKind.wrap .i64 ((11:Int)+IntKind.wrap .i64 (nm (sl b 9 2)))≤((ByteArray.size (r2b b):Nat):Int))))=true:=by
    rw[hw2,hs];simp only[Bool.and_eq_true,decide_eq_true_eq];omega
   have g2:((true&&decide ((11:Int)≤IntKind.wrap .i64 ((11:Int)+IntKind.wrap .i64 (nm (sl b 9 2))))))=true:=by
    rw[hw2];simp only[Bool.true_and,decide_eq_true_eq];omega
   by_cases q3:rcB (nm (sl b 1 8)) (rcS b)=b
   ·rw[show tR b=some (nm (sl b 1 8),rcS b) by unfold tR;rw[if_pos ⟨q1,by omega,q3⟩]]
    have:=k4p hs e1 e2 (by have:=q1.1;omega) (by omega) g1 g2 e3 (e4.trans (decide_eq_true q3))
    rw[hx]at this
    exact this
   ·rw[show tR b=none by unfold tR;rw[if_neg fun q=>q3 q.2.2]]
    exact j4i hs e1 e2 (by have:=q1.1;omega) (by omega) g1 g2 e3 (e4.trans (decide_eq_false q3))
  ·rw[show tR b=none by unfold tR;rw[if_neg fun q=>by have:=q.2.1;omega]]
   exact o4g hs e1 e2 (by have:=q1.1;omega) (by omega)
 ·rw[if_neg q1]at e1
  rw[show tR b=none by unfold tR;rw[if_neg fun q=>q1 q.1]]
  exact p4g hs e1 e2 rfl
theorem a4d {i:Nat}(h:i<256):x3e (r2b b) (i:Int)=b.getD i 0:=by
 unfold x3e r2b
 rw[Int.toNat_natCast]
 have h1:i<b.length:=by omega
 simp only[List.getD_eq_getElem?_getD,List.getElem?_map,List.getElem?_eq_getElem h1,Option.map_some,Option.getD_some]
 have:=hb _ (List.getElem_mem h1)
 show(((UInt8.ofNat (b[i]).toNat).toNat:Nat):Int)=b[i]
 rw[UInt8.toNat_ofNat']
 omega
theorem m42:i3t [.s (r2b b)]=some (0,[.b (decide (b=List.replicate 256 0))]):=by
 have hs:=m4u hb hl
 have key:=f0f (st:=k3n) (fun i=>[.k 0,.s (r2b b),.n (i:Int)]) 256 (fun i=>b.getD i 0 !=0) (fun _=>(1,[.b false])) (0,[])
  (fun i hi h=>by
   have h1:b.getD i 0=0:=by simpa using h
   have:=v3k (s0:=r2b b) (n1:=(i:Int)) (by omega) (by rw[hs];omega) (by rw[a4d hb hl hi];exact h1)
   rw[w1n i (by omega)]at this
   exact this)
  (fun i hi h=>y3g (s0:=r2b b) (n1:=(i:Int)) (by omega) (by rw[hs];omega) (by rw[a4d hb hl hi];simpa using h))
  (w3n (s0:=r2b b) (n1:=((256:Nat):Int)) (by omega) (by rw[hs];omega)) FU (by unfold FU;omega)
 have e:n3l [.k 0,.s (r2b b),.n 0]=some (match b0i (fun i=>b.getD i 0 !=0) 256 with|some k=>(1,[.b false])|none=>(0,[])):=by
  rw[v3f];exact key
 cases hf:b0i (fun i=>b.getD i 0 !=0) 256 with
 |none=>
  rw[hf]at e
  have hall:=b0r hf
  have:b=List.replicate 256 0:=by
   apply List.ext_getElem (by rw[hl,List.length_replicate])
   intro i h1 h2
   rw[List.getElem_replicate]
   have:=hall i (by omega)
   rw[List.getD_eq_getElem?_getD,List.getElem?_eq_getElem h1]at this
   simpa using this
  rw[decide_eq_true this]
  exact n4f e
 |some k=>
  rw[hf]at e
  obtain⟨k1,k2,_⟩:=b0x hf
  have: ¬b=List.replicate 256 0:=fun q=>by
   rw[q,List.getD_eq_getElem?_getD,List.getElem?_replicate,if_pos k1]at k2
   simp at k2
  rw[decide_eq_false this]
  exact h4i e
end
def logB (h d:Nat)(r:PV):PB:=.cells [.int .i64 h,.int .i64 (h+1),.ptr d 0,r,.int .i64 (h+2)]
def n4v:FuncId→Option a0q:=a0s 70 (o4m.k j3j) m3b
theorem d4t:CsOk Try.prog n4v:=csL1 i3h k4f
def cs_31C:FuncId→Option a0q:=a0s 62 ((BSh.of B31).k i2m) n4v
theorem f4l:CsOk Try.prog cs_31C:=csA d4t y3z
def l4h:FuncId→Option a0q:=e1c 71 [l4a.k h3q] cs_31C
theorem d4f:CsOk Try.prog l4h:=csA1 f4l m3m
def a4y:FuncId→Option a0q:=e1c 76 [S_bh.k n3e,S_br.k c4d] l4h
theorem o3g:CsOk Try.prog a4y:=h0a d4f fun B hB=>by
 simp only[List.mem_cons,List.not_mem_nil,or_false]at hB
 rcases hB with rfl|rfl
 ·exact h3x e_bh
 ·exact h3x e_br
def R_fh_3:LSh:={K:=4,log:=[0],ins:=[(sh 74 [(0,.ptr 0 0),(3,.bool 0),(9,.int .i64 1)],[logB 2 1 .nilsl,dkB 2 3 5,.arr TBk 9,.arr TWr 10])],nils:=[],outs:=[(.exit 0,sh 74 [(0,.ptr 0 0),(3,.bool 0)],[logB 1 1 .nilsl,dkB 2 3 4,.arr TBk 8,.arr TWr 9])],cv:=[]}
def i3e:List Dat→Tree Step:=evL a4y 38 3 ls0 R_fh_3
theorem y3m: ∃op,IsL i3e 38 3 R_fh_3 op:=bxL o3g (LsOk.none _ _ _)
def l3d:OpA:=opL y3m
theorem b4j (env:List Dat):l3d env=a0b i3e FU env:=h3y y3m env
abbrev Bx_fh_3:MBox:=boxL y3m
theorem c4a {b0:Bool}{n1 n2 n3 n4 n5:Int}{b6:Bool}{n7:Int}{b8:Bool}{l9:List (Ty.den TBk)}{l10:List (Ty.den TWr)}{n11 n12:Int}{b13:Bool}{n14:Int}{b15:Bool}{l16:List (Ty.den TBk)}{l17:List (Ty.den TWr)}{l18:List (Ty.den TB)}{b19:Bool}{l20:List (Ty.den TB)}(g0:0≤n1)(h0:(n1<(2:Int)))(h1:(i3b [.n n1,.n n5,.b b6,.n n7,.b b8,.l TBk l9,.l TWr l10])=(some (1,[.n n11,.n n12,.b b13,.n n14,.b b15,.l TBk l16,.l TWr l17,.l TB l18])))(h2:(b0=true))(h3:(j3j [.l TB l18,.l TB (List.replicate 256 (0:Int))])=(some (0,[.b b19])))(h4:(h3q [.l TB l18])=(some (0,[.l TB l20]))):(i3e [.k 0,.b b0,.n n1,.n n2,.n n3,.n n4,.n n5,.b b6,.n n7,.b b8,.l TBk l9,.l TWr l10]).sel=some (Step.go [.k 0,.b b19,.n (IntKind.wrap .i64 (n1+(1:Int))),.n n2,.n n3,.n n4,.n n5,.b b6,.n n7,.b b8,.l TBk l9,.l TWr l10]):=sP [1]<|sT (dt h0)<|sP [1]<|sA h1<|sP [0,1,1]<|sT h2<|sP [1]<|sA h3<|sP [1,1,1]<|sA h4<|sP [1,1,0,0,1,0,1]<|sL
theorem d4w {b0:Bool}{n1 n2 n3 n4 n5:Int}{b6:Bool}{n7:Int}{b8:Bool}{l9:List (Ty.den TBk)}{l10:List (Ty.den TWr)}{n11 n12:Int}{b13:Bool}{n14:Int}{b15:Bool}{l16:List (Ty.den TBk)}{l17:List (Ty.den TWr)}{l18:List (Ty.den TB)}{b19:Bool}{n20 n21:Int}{l22:List (Ty.den TB)}(g0:0≤n1)(h0:(n1<(2:Int)))(h1:(i3b [.n n1,.n n5,.b b6,.n n7,.b b8,.l TBk l9,.l TWr l10])=(some (1,[.n n11,.n n12,.b b13,.n n14,.b b15,.l TBk l16,.l TWr l17,.l TB l18])))(h2:(b0=true))(h3:(j3j [.l TB l18,.l TB (List.replicate 256 (0:Int))])=(some (0,[.b b19])))(h4:(h3q [.l TB l18])=(some (1,[.n n20,.n n21,.l TB l22])))(h5:(n20>n2)):(i3e [.k 0,.b b0,.n n1,.n n2,.n n3,.n n4,.n n5,.b b6,.n n7,.b b8,.l TBk l9,.l TWr l10]).sel=some (Step.go [.k 0,.b b19,.n (IntKind.wrap .i64 (n1+(1:Int))),.n n20,.n n21,.n n4,.n n5,.b b6,.n n7,.b b8,.l TBk l9,.l TWr l10]):=sP [1]<|sT (dt h0)<|sP [1]<|sA h1<|sP [0,1,1]<|sT h2<|sP [1]<|sA h3<|sP [1,1,1]<|sA h4<|sP [0,1,1,1,1]<|sT (dt h5)<|sP [1]<|sL
theorem c4u {b0:Bool}{n1 n2 n3 n4 n5:Int}{b6:Bool}{n7:Int}{b8:Bool}{l9:List (Ty.den TBk)}{l10:List (Ty.den TWr)}{n11 n12:Int}{b13:Bool}{n14:Int}{b15:Bool}{l16:List (Ty.den TBk)}{l17:List (Ty.den TWr)}{l18:List (Ty.den TB)}{b19:Bool}{n20 n21:Int}{l22:List (Ty.den TB)}(g0:0≤n1)(h0:(n1<(2:Int)))(h1:(i3b [.n n1,.n n5,.b b6,.n n7,.b b8,.l TBk l9,.l TWr l10])=(some (1,[.n n11,.n n12,.b b13,.n n14,.b b15,.l TBk l16,.l TWr l17,.l TB l18])))(h2:(b0=true))(h3:(j3j [.l TB l18,.l TB (List.replicate 256 (0:Int))])=(some (0,[.b b19])))(h4:(h3q [.l TB l18])=(some (1,[.n n20,.n n21,.l TB l22])))(h5:(¬n20>n2)):(i3e [.k 0,.b b0,.n n1,.n n2,.n n3,.n n4,.n n5,.b b6,.n n7,.b b8,.l TBk l9,.l TWr l10]).sel=some (Step.go [.k 0,.b b19,.n (IntKind.wrap .i64 (n1+(1:Int))),.n n2,.n n3,.n n4,.n n5,.b b6,.n n7,.b b8,.l TBk l9,.l TWr l10]):=sP [1]<|sT (dt h0)<|sP [1]<|sA h1<|sP [0,1,1]<|sT h2<|sP [1]<|sA h3<|sP [1,1,1]<|sA h4<|sP [0,1,1,1,1]<|sF (df h5)<|sP [1]<|sL
theorem c4e {b0:Bool}{n1 n2 n3 n4 n5:Int}{b6:Bool}{n7:Int}{b8:Bool}{l9:List (Ty.den TBk)}{l10:List (Ty.den TWr)}{n11 n12:Int}{b13:Bool}{n14:Int}{b15:Bool}{l16:List (Ty.den TBk)}{l17:List (Ty.den TWr)}{l18:List (Ty.den TB)}{b19:Bool}{n20:Int}{l21 l22:List (Ty.den TB)}(g0:0≤n1)(h0:(n1<(2:Int)))(h1:(i3b [.n n1,.n n5,.b b6,.n n7,.b b8,.l TBk l9,.l TWr l10])=(some (1,[.n n11,.n n12,.b b13,.n n14,.b b15,.l TBk l16,.l TWr l17,.l TB l18])))(h2:(b0=true))(h3:(j3j [.l TB l18,.l TB (List.replicate 256 (0:Int))])=(some (0,[.b b19])))(h4:(h3q [.l TB l18])=(some (2,[.n n20,.l TB l21,.l TB l22]))):(i3e [.k 0,.b b0,.n n1,.n n2,.n n3,.n n4,.n n5,.b b6,.n n7,.b b8,.l TBk l9,.l TWr l10]).sel=some (Step.go [.k 0,.b b19,.n (IntKind.wrap .i64 (n1+(1:Int))),.n n2,.n n3,.n n4,.n n5,.b b6,.n n7,.b b8,.l TBk l9,.l TWr l10]):=sP [1]<|sT (dt h0)<|sP [1]<|sA h1<|sP [0,1,1]<|sT h2<|sP [1]<|sA h3<|sP [1,1,1]<|sA h4<|sP [0,0,1,1,0,0,1,0,1]<|sL
theorem b4t {b0:Bool}{n1 n2 n3 n4 n5:Int}{b6:Bool}{n7:Int}{b8:Bool}{l9:List (Ty.den TBk)}{l10:List (Ty.den TWr)}{n11 n12:Int}{b13:Bool}{n14:Int}{b15:Bool}{l16:List (Ty.den TBk)}{l17:List (Ty.den TWr)}{l18 l19:List (Ty.den TB)}(g0:0≤n1)(h0:(n1<(2:Int)))(h1:(i3b [.n n1,.n n5,.b b6,.n n7,.b b8,.l TBk l9,.l TWr l10])=(some (1,[.n n11,.n n12,.b b13,.n n14,.b b15,.l TBk l16,.l TWr l17,.l TB l18])))(h2:(b0=false))(h3:(h3q [.l TB l18])=(some (0,[.l TB l19]))):(i3e [.k 0,.b b0,.n n1,.n n2,.n n3,.n n4,.n n5,.b b6,.n n7,.b b8,.l TBk l9,.l TWr l10]).sel=some (Step.go [.k 0,.b false,.n (IntKind.wrap .i64 (n1+(1:Int))),.n n2,.n n3,.n n4,.n n5,.b b6,.n n7,.b b8,.l TBk l9,.l TWr l10]):=sP [1]<|sT (dt h0)<|sP [1]<|sA h1<|sP [0,1,1]<|sF h2<|sP [0,1]<|sA h3<|sP [1,1,0,0,1,0,1]<|sL
theorem e4i {b0:Bool}{n1 n2 n3 n4 n5:Int}{b6:Bool}{n7:Int}{b8:Bool}{l9:List (Ty.den TBk)}{l10:List (Ty.den TWr)}{n11 n12:Int}{b13:Bool}{n14:Int}{b15:Bool}{l16:List (Ty.den TBk)}{l17:List (Ty.den TWr)}{l18:List (Ty.den TB)}{n19 n20:Int}{l21:List (Ty.den TB)}(g0:0≤n1)(h0:(n1<(2:Int)))(h1:(i3b [.n n1,.n n5,.b b6,.n n7,.b b8,.l TBk l9,.l TWr l10])=(some (1,[.n n11,.n n12,.b b13,.n n14,.b b15,.l TBk l16,.l TWr l17,.l TB l18])))(h2:(b0=false))(h3:(h3q [.l TB l18])=(some (1,[.n n19,.n n20,.l TB l21])))(h4:(n19>n2)):(i3e [.k 0,.b b0,.n n1,.n n2,.n n3,.n n4,.n n5,.b b6,.n n7,.b b8,.l TBk l9,.l TWr l10]).sel=some (Step.go [.k 0,.b false,.n (IntKind.wrap .i64 (n1+(1:Int))),.n n19,.n n20,.n n4,.n n5,.b b6,.n n7,.b b8,.l TBk l9,.l TWr l10]):=sP [1]<|sT (dt h0)<|sP [1]<|sA h1<|sP [0,1,1]<|sF h2<|sP [0,1]<|sA h3<|sP [0,1,1,1,1]<|sT (dt h4)<|sP [1]<|sL
theorem c4p {b0:Bool}{n1 n2 n3 n4 n5:Int}{b6:Bool}{n7:Int}{b8:Bool}{l9:List (Ty.den TBk)}{l10:List (Ty.den TWr)}{n11 n12:Int}{b13:Bool}{n14:Int}{b15:Bool}{l16:List (Ty.den TBk)}{l17:List (Ty.den TWr)}{l18:List (Ty.den TB)}{n19 n20:Int}{l21:List (Ty.den TB)}(g0:0≤n1)(h0:(n1<(2:Int)))(h1:(i3b [.n n1,.n n5,.b b6,.n n7,.b b8,.l TBk l9,.l TWr l10])=(some (1,[.n n11,.n n12,.b b13,.n n14,.b b15,.l TBk l16,.l TWr l17,.l TB l18])))(h2:(b0=false))(h3:(h3q [.l TB l18])=(some (1,[.n n19,.n n20,.l TB l21])))(h4:(¬n19>n2)):(i3e [.k 0,.b b0,.n n1,.n n2,.n n3,.n n4,.n n5,.b b6,.n n7,.b b8,.l TBk l9,.l TWr l10]).sel=some (Step.go [.k 0,.b false,.n (IntKind.wrap .i64 (n1+(1:Int))),.n n2,.n n3,.n n4,.n n5,.b b6,.n n7,.b b8,.l TBk l9,.l TWr l10]):=sP [1]<|sT (dt h0)<|sP [1]<|sA h1<|sP [0,1,1]<|sF h2<|sP [0,1]<|sA h3<|sP [0,1,1,1,1]<|sF (df h4)<|sP [1]<|sL
theorem b4z {b0:Bool}{n1 n2 n3 n4 n5:Int}{b6:Bool}{n7:Int}{b8:Bool}{l9:List (Ty.den TBk)}{l10:List (Ty.den TWr)}{n11 n12:Int}{b13:Bool}{n14:Int}{b15:Bool}{l16:List (Ty.den TBk)}{l17:List (Ty.den TWr)}{l18:List (Ty.den TB)}{n19:Int}{l20 l21:List (Ty.den TB)}(g0:0≤n1)(h0:(n1<(2:Int)))(h1:(i3b [.n n1,.n n5,.b b6,.n n7,.b b8,.l TBk l9,.l TWr l10])=(some (1,[.n n11,.n n12,.b b13,.n n14,.b b15,.l TBk l16,.l TWr l17,.l TB l18])))(h2:(b0=false))(h3:(h3q [.l TB l18])=(some (2,[.n n19,.l TB l20,.l TB l21]))):(i3e [.k 0,.b b0,.n n1,.n n2,.n n3,.n n4,.n n5,.b b6,.n n7,.b b8,.l TBk l9,.l TWr l10]).sel=some (Step.go [.k 0,.b false,.n (IntKind.wrap .i64 (n1+(1:Int))),.n n2,.n n3,.n n4,.n n5,.b b6,.n n7,.b b8,.l TBk l9,.l TWr l10]):=sP [1]<|sT (dt h0)<|sP [1]<|sA h1<|sP [0,1,1]<|sF h2<|sP [0,1]<|sA h3<|sP [0,0,1,1,0,0,1,0,1]<|sL
theorem c4v {b0:Bool}{n1 n2 n3 n4 n5:Int}{b6:Bool}{n7:Int}{b8:Bool}{l9:List (Ty.den TBk)}{l10:List (Ty.den TWr)}(g0:0≤n1)(h0:(¬n1<(2:Int))):(i3e [.k 0,.b b0,.n n1,.n n2,.n n3,.n n4,.n n5,.b b6,.n n7,.b b8,.l TBk l9,.l TWr l10]).sel=some (Step.stop 0 [.b b0,.n n2,.n n3,.n n4,.n n5,.b b6,.n n7,.b b8,.l TBk l9,.l TWr l10]):=sP [1]<|sF (df h0)<|sP [1]<|sL
def S_fh:BSh:={args:=[.ptr 0 0],blks:=[logB 0 1 .nilsl,dkB 2 3 3,.arr TBk 7,.arr TWr 8],log:=[0,1,2,3],outs:=[(.int .i64 0,[logB 1 1 .nilsl,dkB 2 3 4,.arr TBk 8,.arr TWr 9]),(.int .i64 0,[logB 1 1 .nilsl,dkB 2 4 4,.arr TBk 8,.gone,.arr TWr 9])]}
def ev_fh:List Dat→Tree (Nat×List Dat):=evFV [(some 1,1,.own TWr)] a4y 38 (lsM [(3,Bx_fh_3)] 4) S_fh
theorem e_fh: ∃op,IsF ev_fh 38 S_fh op:=bxFV o3g (lsE (lsC (h3n y3m) (atF) lsZ))
def k3q:OpA:=opF e_fh
theorem u4d {n0 n1 n2 n3:Int}{b4:Bool}{n5:Int}{b6:Bool}{l7:List (Ty.den TBk)}{l8:List (Ty.den TWr)}{b9:Bool}{n10 n11 n12 n13:Int}{b14:Bool}{n15:Int}{b16:Bool}{l17:List (Ty.den TBk)}{l18:List (Ty.den TWr)}(g0:n2=0)(h0:(l3d [.k 0,.b true,.n (0:Int),.n n0,.n n1,.n n2,.n n3,.b b4,.n n5,.b b6,.l TBk l7,.l TWr l8])=(some (0,[.b b9,.n n10,.n n11,.n n12,.n n13,.b b14,.n n15,.b b16,.l TBk l17,.l TWr l18])))(h1:(n10>(0:Int))):k3q [.n n0,.n n1,.n n2,.n n3,.b b4,.n n5,.b b6,.l TBk l7,.l TWr l8]=some ((0,[.n (0:Int),.n n10,.n n11,.n n12,.n n13,.b b14,.n n15,.b b16,.l TBk l17,.l TWr l18])):=t0c e_fh (sA h0<|sP [1]<|sT (dt h1)<|sP [1]<|sL)
theorem q4s {n0 n1 n2 n3:Int}{b4:Bool}{n5:Int}{b6:Bool}{l7:List (Ty.den TBk)}{l8:List (Ty.den TWr)}{b9:Bool}{n10 n11 n12 n13:Int}{b14:Bool}{n15:Int}{b16:Bool}{l17:List (Ty.den TBk)}{l18:List (Ty.den TWr)}(g0:n2=0)(h0:(l3d [.k 0,.b true,.n (0:Int),.n n0,.n n1,.n n2,.n n3,.b b4,.n n5,.b b6,.l TBk l7,.l TWr l8])=(some (0,[.b b9,.n n10,.n n11,.n n12,.n n13,.b b14,.n n15,.b b16,.l TBk l17,.l TWr l18])))(h1:(¬n10>(0:Int)))(h2:(b9=false)):k3q [.n n0,.n n1,.n n2,.n n3,.b b4,.n n5,.b b6,.l TBk l7,.l TWr l8]=some ((0,[.n (151:Int),.n n10,.n n11,.n n12,.n n13,.b b14,.n n15,.b b16,.l TBk l17,.l TWr l18])):=t0c e_fh (sA h0<|sP [1]<|sF (df h1)<|sT (nf h2)<|sP [1]<|sL)
theorem u4e {n0 n1 n2 n3:Int}{b4:Bool}{n5:Int}{b6:Bool}{l7:List (Ty.den TBk)}{l8:List (Ty.den TWr)}{b9:Bool}{n10 n11 n12 n13:Int}{b14:Bool}{n15:Int}{b16:Bool}{l17:List (Ty.den TBk)}{l18:List (Ty.den TWr)}{l19:List (Ty.den TB)}{n20 n21:Int}{b22:Bool}{n23:Int}{b24:Bool}{l25:List (Ty.den TB)}{l26:List (Ty.den TBk)}{l27:List (Ty.den TWr)}{n28 n29:Int}{b30:Bool}{n31:Int}{b32:Bool}{l33:List (Ty.den TBk)}{l34:List (Ty.den TWr)}(g0:n2=0)(h0:(l3d [.k 0,.b true,.n (0:Int),.n n0,.n n1,.n n2,.n n3,.b b4,.n n5,.b b6,.l TBk l7,.l TWr l8])=(some (0,[.b b9,.n n10,.n n11,.n n12,.n n13,.b b14,.n n15,.b b16,.l TBk l17,.l TWr l18])))(h1:(¬n10>(0:Int)))(h2:(b9=true))(h3:(n3e [.n (1:Int),.n (1:Int)])=(some (0,[.l TB l19])))(h4:(h3k [.n (1:Int),.n n13,.b b14,.n n15,.b b16,.l TB l19,.l TBk l17,.l TWr l18])=(some (0,[.n n20,.n n21,.b b22,.n n23,.b b24,.l TB l25,.l TBk l26,.l TWr l27])))(h5:(n20=(0:Int)))(h6:(j3c [.n n21,.b b22,.n n23,.b b24,.l TBk l17,.l TWr l27])=(some (0,[.n n28,.n n29,.b b30,.n n31,.b b32,.l TBk l33,.l TWr l34]))):k3q [.n n0,.n n1,.n n2,.n n3,.b b4,.n n5,.b b6,.l TBk l7,.l TWr l8]=some ((0,[.n n28,.n (1:Int),.n (1:Int),.n n28,.n n29,.b b30,.n n31,.b b32,.l TBk l33,.l TWr l27])):=t0c e_fh (sA h0<|sP [1]<|sF (df h1)<|sF (nt h2)<|sP [1,1,1]<|sA h3<|sP [1,1,1]<|sA h4<|sP [1,1,1]<|sT (bt h5)<|sP [1]<|sA h6<|sP [1,1,1,1,1]<|sL)
theorem v4e {n0 n1 n2 n3:Int}{b4:Bool}{n5:Int}{b6:Bool}{l7:List (Ty.den TBk)}{l8:List (Ty.den TWr)}{b9:Bool}{n10 n11 n12 n13:Int}{b14:Bool}{n15:Int}{b16:Bool}{l17:List (Ty.den TBk)}{l18:List (Ty.den TWr)}{l19:List (Ty.den TB)}{n20 n21:Int}{b22:Bool}{n23:Int}{b24:Bool}{l25:List (Ty.den TB)}{l26:List (Ty.den TBk)}{l27:List (Ty.den TWr)}{n28 n29:Int}{b30:Bool}{n31:Int}{b32:Bool}{l33:List (Ty.den TBk)}{l34:List (Ty.den TWr)}(g0:n2=0)(h0:(l3d [.k 0,.b true,.n (0:Int),.n n0,.n n1,.n n2,.n n3,.b b4,.n n5,.b b6,.l TBk l7,.l TWr l8])=(some (0,[.b b9,.n n10,.n n11,.n n12,.n n13,.b b14,.n n15,.b b16,.l TBk l17,.l TWr l18])))(h1:(¬n10>(0:Int)))(h2:(b9=true))(h3:(n3e [.n (1:Int),.n (1:Int)])=(some (0,[.l TB l19])))(h4:(h3k [.n (1:Int),.n n13,.b b14,.n n15,.b b16,.l TB l19,.l TBk l17,.l TWr l18])=(some (0,[.n n20,.n n21,.b b22,.n n23,.b b24,.l TB l25,.l TBk l26,.l TWr l27])))(h5:(n20=(0:Int)))(h6:(j3c [.n n21,.b b22,.n n23,.b b24,.l TBk l17,.l TWr l27])=(some (1,[.n n28,.n n29,.b b30,.n n31,.b b32,.l TBk l33,.l TWr l34]))):k3q [.n n0,.n n1,.n n2,.n n3,.b b4,.n n5,.b b6,.l TBk l7,.l TWr l8]=some ((1,[.n n28,.n (1:Int),.n (1:Int),.n n28,.n n29,.b b30,.n n31,.b b32,.l TBk l33,.l TWr l34])):=t0c e_fh (sA h0<|sP [1]<|sF (df h1)<|sF (nt h2)<|sP [1,1,1]<|sA h3<|sP [1,1,1]<|sA h4<|sP [1,1,1]<|sT (bt h5)<|sP [1]<|sA h6<|sP [0,1,1,1,1,1]<|sL)
theorem r4z {n0 n1 n2 n3:Int}{b4:Bool}{n5:Int}{b6:Bool}{l7:List (Ty.den TBk)}{l8:List (Ty.den TWr)}{b9:Bool}{n10 n11 n12 n13:Int}{b14:Bool}{n15:Int}{b16:Bool}{l17:List (Ty.den TBk)}{l18:List (Ty.den TWr)}{l19:List (Ty.den TB)}{n20 n21:Int}{b22:Bool}{n23:Int}{b24:Bool}{l25:List (Ty.den TB)}{l26:List (Ty.den TBk)}{l27:List (Ty.den TWr)}(g0:n2=0)(h0:(l3d [.k 0,.b true,.n (0:Int),.n n0,.n n1,.n n2,.n n3,.b b4,.n n5,.b b6,.l TBk l7,.l TWr l8])=(some (0,[.b b9,.n n10,.n n11,.n n12,.n n13,.b b14,.n n15,.b b16,.l TBk l17,.l TWr l18])))(h1:(¬n10>(0:Int)))(h2:(b9=true))(h3:(n3e [.n (1:Int),.n (1:Int)])=(some (0,[.l TB l19])))(h4:(h3k [.n (1:Int),.n n13,.b b14,.n n15,.b b16,.l TB l19,.l TBk l17,.l TWr l18])=(some (0,[.n n20,.n n21,.b b22,.n n23,.b b24,.l TB l25,.l TBk l26,.l TWr l27])))(h5:(¬n20=(0:Int))):k3q [.n n0,.n n1,.n n2,.n n3,.b b4,.n n5,.b b6,.l TBk l7,.l TWr l8]=some ((0,[.n n20,.n (1:Int),.n (1:Int),.n n20,.n n21,.b b22,.n n23,.b b24,.l TBk l17,.l TWr l27])):=t0c e_fh (sA h0<|sP [1]<|sF (df h1)<|sF (nt h2)<|sP [1,1,1]<|sA h3<|sP [1,1,1]<|sA h4<|sP [1,1,1]<|sF (bf h5)<|sP [1,1,1]<|sL)
def cs_fh:FuncId→Option a0q:=e1c 38 [S_fh.k k3q] a4y
theorem u4r:CsOk Try.prog cs_fh:=csA1 o3g e_fh
def S_wh:BSh:={args:=[.ptr 0 0,.int .i64 0,hdV 1],blks:=[logB 3 1 (.own 2),dkB 3 4 6,.arr TBs 10,.arr TBk 11,.arr TWr 12],log:=[0,1,3,4],outs:=[(.int .i64 0,[logB 1 1 (.own 2),dkB 3 4 4,.arr TBs 8,.arr TBk 9,.arr TWr 10]),(.int .i64 0,[logB 1 1 (.own 2),dkB 3 5 4,.arr TBs 8,.arr TBk 9,.gone,.arr TWr 10])]}
def ev_wh:List Dat→Tree (Nat×List Dat):=evFV [(some 1,1,.own TWr)] cs_fh 63 ls0 S_wh
theorem e_wh: ∃op,IsF ev_wh 63 S_wh op:=bxFV u4r (LsOk.none _ _ _)
def p3m:OpA:=opF e_wh
theorem s4h {n0 n1 n2 n3 n4 n5 n6:Int}{b7:Bool}{n8:Int}{b9:Bool}{l10:List (Ty.den TBs)}{l11:List (Ty.den TBk)}{l12:List (Ty.den TWr)}{l13:List (Ty.den TB)}{n14 n15:Int}{b16:Bool}{n17:Int}{b18:Bool}{l19:List (Ty.den TB)}{l20:List (Ty.den TBk)}{l21:List (Ty.den TWr)}{n22 n23:Int}{b24:Bool}{n25:Int}{b26:Bool}{l27:List (Ty.den TBk)}{l28:List (Ty.den TWr)}(h0:(n3e [.n n1,.n n2])=(some (0,[.l TB l13])))(h1:(h3k [.n n0,.n n6,.b b7,.n n8,.b b9,.l TB l13,.l TBk l11,.l TWr l12])=(some (0,[.n n14,.n n15,.b b16,.n n17,.b b18,.l TB l19,.l TBk l20,.l TWr l21])))(h2:(n14=(0:Int)))(h3:(j3c [.n n15,.b b16,.n n17,.b b18,.l TBk l11,.l TWr l21])=(some (0,[.n n22,.n n23,.b b24,.n n25,.b b26,.l TBk l27,.l TWr l28]))):p3m [.n n0,.n n1,.n n2,.n n3,.n n4,.n n5,.n n6,.b b7,.n n8,.b b9,.l TBs l10,.l TBk l11,.l TWr l12]=some ((0,[.n n22,.n n3,.n n4,.n n22,.n n23,.b b24,.n n25,.b b26,.l TBs l10,.l TBk l27,.l TWr l21])):=t0c e_wh (sP [1]<|sA h0<|sP [1,1,1]<|sA h1<|sP [1,1,1]<|sT (bt h2)<|sP [1]<|sA h3<|sP [1,1,1]<|sL)
theorem r4v {n0 n1 n2 n3 n4 n5 n6:Int}{b7:Bool}{n8:Int}{b9:Bool}{l10:List (Ty.den TBs)}{l11:List (Ty.den TBk)}{l12:List (Ty.den TWr)}{l13:List (Ty.den TB)}{n14 n15:Int}{b16:Bool}{n17:Int}{b18:Bool}{l19:List (Ty.den TB)}{l20:List (Ty.den TBk)}{l21:List (Ty.den TWr)}{n22 n23:Int}{b24:Bool}{n25:Int}{b26:Bool}{l27:List (Ty.den TBk)}{l28:List (Ty.den TWr)}(h0:(n3e [.n n1,.n n2])=(some (0,[.l TB l13])))(h1:(h3k [.n n0,.n n6,.b b7,.n n8,.b b9,.l TB l13,.l TBk l11,.l TWr l12])=(some (0,[.n n14,.n n15,.b b16,.n n17,.b b18,.l TB l19,.l TBk l20,.l TWr l21])))(h2:(n14=(0:Int)))(h3:(j3c [.n n15,.b b16,.n n17,.b b18,.l TBk l11,.l TWr l21])=(some (1,[.n n22,.n n23,.b b24,.n n25,.b b26,.l TBk l27,.l TWr l28]))):p3m [.n n0,.n n1,.n n2,.n n3,.n n4,.n n5,.n n6,.b b7,.n n8,.b b9,.l TBs l10,.l TBk l11,.l TWr l12]=some ((1,[.n n22,.n n3,.n n4,.n n22,.n n23,.b b24,.n n25,.b b26,.l TBs l10,.l TBk l27,.l TWr l28])):=t0c e_wh (sP [1]<|sA h0<|sP [1,1,1]<|sA h1<|sP [1,1,1]<|sT (bt h2)<|sP [1]<|sA h3<|sP [0,1,1,1]<|sL)
theorem u4h {n0 n1 n2 n3 n4 n5 n6:Int}{b7:Bool}{n8:Int}{b9:Bool}{l10:List (Ty.den TBs)}{l11:List (Ty.den TBk)}{l12:List (Ty.den TWr)}{l13:List (Ty.den TB)}{n14 n15:Int}{b16:Bool}{n17:Int}{b18:Bool}{l19:List (Ty.den TB)}{l20:List (Ty.den TBk)}{l21:List (Ty.den TWr)}(h0:(n3e [.n n1,.n n2])=(some (0,[.l TB l13])))(h1:(h3k [.n n0,.n n6,.b b7,.n n8,.b b9,.l TB l13,.l TBk l11,.l TWr l12])=(some (0,[.n n14,.n n15,.b b16,.n n17,.b b18,.l TB l19,.l TBk l20,.l TWr l21])))(h2:(¬n14=(0:Int))):p3m [.n n0,.n n1,.n n2,.n n3,.n n4,.n n5,.n n6,.b b7,.n n8,.b b9,.l TBs l10,.l TBk l11,.l TWr l12]=some ((0,[.n n14,.n n3,.n n4,.n n14,.n n15,.b b16,.n n17,.b b18,.l TBs l10,.l TBk l11,.l TWr l21])):=t0c e_wh (sP [1]<|sA h0<|sP [1,1,1]<|sA h1<|sP [1,1,1]<|sF (bf h2)<|sP [1]<|sL)
def rcI (h b:Nat):PV:=.iface 100 (.agg [.int .i64 h,.imm TB b])
def p4j:FuncId→Option a0q:=a0s 90 ((BSh.of Bq12).k l3o) m3b
theorem d4o:CsOk Try.prog p4j:=csA i3h x3t
def cs_wBg:FuncId→Option a0q:=e1c 85 [S_wB.k w3r] p4j
theorem g4v:CsOk Try.prog cs_wBg:=csA1 d4o e_wB
def cs_wLg:FuncId→Option a0q:=e1c 86 [S_wL.k o3j] cs_wBg
theorem h4x:CsOk Try.prog cs_wLg:=csA1 g4v e_wL
def cs_wSg:FuncId→Option a0q:=e1c 87 [S_wS.k b4u] cs_wLg
theorem n4o:CsOk Try.prog cs_wSg:=csA1 h4x e_wS
def cs_wWg:FuncId→Option a0q:=e1c 89 [S_wW.k w3d] cs_wSg
theorem h4s:CsOk Try.prog cs_wWg:=csA1 n4o e_wW
def cs_wRg:FuncId→Option a0q:=e1c 88 [S_wR.k r3e] cs_wWg
theorem n4g:CsOk Try.prog cs_wRg:=csA1 h4s e_wR
def m4o:FuncId→Option a0q:=e1c 91 [S_wO.k m3h] cs_wRg
theorem s3j:CsOk Try.prog m4o:=csA1 n4g e_wO
def S_wI:BSh:={args:=[.ptr 0 0,.imm TB 0],blks:=[wrO 1,.arr TB 1],log:=[0,1],outs:=[(.tup [],[wrO 1,.arr TB 0])]}
def ev_wI:List Dat→Tree (Nat×List Dat):=evF m4o 88 ls0 S_wI
theorem e_wI: ∃op,IsF ev_wI 88 S_wI op:=bxF s3j (LsOk.none _ _ _)
def o4u:OpA:=opF e_wI
theorem v4n {l0 l1:List (Ty.den TB)}(h0:((List.length l1+List.length l0)*1≤140737488355328)):o4u [.l TB l0,.l TB l1]=some ((0,[.l TB (l1++l0)])):=t0c e_wI (sP [1,0,0,0,0,0,1]<|sT (dt h0)<|sP [1,1]<|sL)
def j4e:FuncId→Option a0q:=e1c 88 [S_wI.k o4u,S_wR.k r3e] m4o
theorem t3v:CsOk Try.prog j4e:=h0a s3j fun B hB=>by
 simp only[List.mem_cons,List.not_mem_nil,or_false]at hB
 rcases hB with rfl|rfl
 ·exact h3x e_wI
 ·exact h3x e_wR
def S_bi:BSh:={args:=[rcI 0 1],blks:=[],log:=[],outs:=[(.own 0,[.arr TB 0])]}
def ev_bi:List Dat→Tree (Nat×List Dat):=evF j4e 76 ls0 S_bi
theorem e_bi: ∃op,IsF ev_bi 76 S_bi op:=bxF t3v (LsOk.none _ _ _)
def b4r:OpA:=opF e_bi
theorem s4s {n0:Int}{l1 l2 l3 l4 l5 l6 l7:List (Ty.den TB)}{n8:Int}{l9 l10 l11 l12 l13 l14 l15 l16:List (Ty.den TB)}(h0:(w3r [.n (82:Int)])=(some (0,[.l TB l2])))(h1:(o3j [.n (IntKind.wrap .u64 n0),.l TB l2])=(some (0,[.l TB l3])))(h2:(b4u [.n (IntKind.wrap .u16 (↑(List.length l1):Int)),.l TB l3])=(some (0,[.l TB l4])))(h3:(o4u [.l TB l1,.l TB l4])=(some (0,[.l TB l5])))(h4:(m3h [.l TB l5])=(some (0,[.l TB l6,.l TB l7])))(h5:(l3o [.l TB l7])=(some (0,[.n n8])))(h6:(w3d [.n n8,.l TB l5])=(some (0,[.l TB l9])))(h7:(m3h [.l TB l9])=(some (0,[.l TB l10,.l TB l11])))(h8:((decide ((0:Int)≤IntKind.wrap .i64 ((248:Int)-(↑(List.length l11):Int)))&&decide (IntKind.wrap .i64 ((248:Int)-(↑(List.length l11):Int))≤IntKind.wrap .i64 ((248:Int)-(↑(List.length l11):Int)))&&decide (IntKind.wrap .i64 ((248:Int)-(↑(List.length l11):Int))*(1:Int)≤(281474976710656:Int)))=true))(h9:(r3e
 [.l TB
   (repC (Int.toNat (IntKind.wrap .i64 ((248:Int)-(↑(List.length l11):Int)))) (Ty.dflt TB)),
  .l TB l9])=(some (0,[.l TB l12,.l TB l13]))) (h10:(o3j [.n (IntKind.wrap .u64 n0),.l TB l13])=(some (0,[.l TB l14]))) (h11:(m3h [.l TB l14])=(some (0,[.l TB l15,.l TB l16]))):b4r [.n n0,.l TB l1]=some ((0,[.l TB l16])):=t0c e_bi (sP [0,1]<|sA h0<|sP [1,1,1]<|sA h1<|sP [1,1,1]<|sA h2<|sP [1,1,1]<|sA h3<|sP [1,1,1]<|sA h4<|sP [1,1]<|sA h5<|sP [1,1,1]<|sA h6<|sP [1,1,1]<|sA h7<|sP [1,1]<|sT h8<|sP [1]<|sA h9<|sP [1,1,1]<|sA h10<|sP [1,1,1]<|sA h11<|sP [1,1,1]<|sL)
def cs_bi:FuncId→Option a0q:=e1c 76 [S_bi.k b4r] j4e
theorem z3b:CsOk Try.prog cs_bi:=csA1 t3v e_bi
def S_wi:BSh:={args:=[.ptr 0 0,.int .i64 0,rcI 1 2],blks:=[logB 3 1 (.own 2),dkB 3 4 6,.arr TBs 10,.arr TBk 11,.arr TWr 12],log:=[0,1,3,4],outs:=[(.int .i64 0,[logB 1 1 (.own 2),dkB 3 4 4,.arr TBs 8,.arr TBk 9,.arr TWr 10]),(.int .i64 0,[logB 1 1 (.own 2),dkB 3 5 4,.arr TBs 8,.arr TBk 9,.gone,.arr TWr 10])]}
def ev_wi:List Dat→Tree (Nat×List Dat):=evFV [(some 1,1,.own TWr)] cs_bi 63 ls0 S_wi
theorem e_wi: ∃op,IsF ev_wi 63 S_wi op:=bxFV z3b (LsOk.none _ _ _)
def p3l:OpA:=opF e_wi
theorem s4u {n0 n1:Int}{l2:List (Ty.den TB)}{n3 n4 n5 n6:Int}{b7:Bool}{n8:Int}{b9:Bool}{l10:List (Ty.den TBs)}{l11:List (Ty.den TBk)}{l12:List (Ty.den TWr)}{l13:List (Ty.den TB)}{n14 n15:Int}{b16:Bool}{n17:Int}{b18:Bool}{l19:List (Ty.den TB)}{l20:List (Ty.den TBk)}{l21:List (Ty.den TWr)}{n22 n23:Int}{b24:Bool}{n25:Int}{b26:Bool}{l27:List (Ty.den TBk)}{l28:List (Ty.den TWr)}(h0:(b4r [.n n1,.l TB l2])=(some (0,[.l TB l13])))(h1:(h3k [.n n0,.n n6,.b b7,.n n8,.b b9,.l TB l13,.l TBk l11,.l TWr l12])=(some (0,[.n n14,.n n15,.b b16,.n n17,.b b18,.l TB l19,.l TBk l20,.l TWr l21])))(h2:(n14=(0:Int)))(h3:(j3c [.n n15,.b b16,.n n17,.b b18,.l TBk l11,.l TWr l21])=(some (0,[.n n22,.n n23,.b b24,.n n25,.b b26,.l TBk l27,.l TWr l28]))):p3l [.n n0,.n n1,.l TB l2,.n n3,.n n4,.n n5,.n n6,.b b7,.n n8,.b b9,.l TBs l10,.l TBk l11,.l TWr l12]=some ((0,[.n n22,.n n3,.n n4,.n n22,.n n23,.b b24,.n n25,.b b26,.l TBs l10,.l TBk l27,.l TWr l21])):=t0c e_wi (sP [1]<|sA h0<|sP [1,1,1]<|sA h1<|sP [1,1,1]<|sT (bt h2)<|sP [1]<|sA h3<|sP [1,1,1]<|sL)
theorem r4q {n0 n1:Int}{l2:List (Ty.den TB)}{n3 n4 n5 n6:Int}{b7:Bool}{n8:Int}{b9:Bool}{l10:List (Ty.den TBs)}{l11:List (Ty.den TBk)}{l12:List (Ty.den TWr)}{l13:List (Ty.den TB)}{n14 n15:Int}{b16:Bool}{n17:Int}{b18:Bool}{l19:List (Ty.den TB)}{l20:List (Ty.den TBk)}{l21:List (Ty.den TWr)}{n22 n23:Int}{b24:Bool}{n25:Int}{b26:Bool}{l27:List (Ty.den TBk)}{l28:List (Ty.den TWr)}(h0:(b4r [.n n1,.l TB l2])=(some (0,[.l TB l13])))(h1:(h3k [.n n0,.n n6,.b b7,.n n8,.b b9,.l TB l13,.l TBk l11,.l TWr l12])=(some (0,[.n n14,.n n15,.b b16,.n n17,.b b18,.l TB l19,.l TBk l20,.l TWr l21])))(h2:(n14=(0:Int)))(h3:(j3c [.n n15,.b b16,.n n17,.b b18,.l TBk l11,.l TWr l21])=(some (1,[.n n22,.n n23,.b b24,.n n25,.b b26,.l TBk l27,.l TWr l28]))):p3l [.n n0,.n n1,.l TB l2,.n n3,.n n4,.n n5,.n n6,.b b7,.n n8,.b b9,.l TBs l10,.l TBk l11,.l TWr l12]=some ((1,[.n n22,.n n3,.n n4,.n n22,.n n23,.b b24,.n n25,.b b26,.l TBs l10,.l TBk l27,.l TWr l28])):=t0c e_wi (sP [1]<|sA h0<|sP [1,1,1]<|sA h1<|sP [1,1,1]<|sT (bt h2)<|sP [1]<|sA h3<|sP [0,1,1,1]<|sL)
theorem s4y {n0 n1:Int}{l2:List (Ty.den TB)}{n3 n4 n5 n6:Int}{b7:Bool}{n8:Int}{b9:Bool}{l10:List (Ty.den TBs)}{l11:List (Ty.den TBk)}{l12:List (Ty.den TWr)}{l13:List (Ty.den TB)}{n14 n15:Int}{b16:Bool}{n17:Int}{b18:Bool}{l19:List (Ty.den TB)}{l20:List (Ty.den TBk)}{l21:List (Ty.den TWr)}(h0:(b4r [.n n1,.l TB l2])=(some (0,[.l TB l13])))(h1:(h3k [.n n0,.n n6,.b b7,.n n8,.b b9,.l TB l13,.l TBk l11,.l TWr l12])=(some (0,[.n n14,.n n15,.b b16,.n n17,.b b18,.l TB l19,.l TBk l20,.l TWr l21])))(h2:(¬n14=(0:Int))):p3l [.n n0,.n n1,.l TB l2,.n n3,.n n4,.n n5,.n n6,.b b7,.n n8,.b b9,.l TBs l10,.l TBk l11,.l TWr l12]=some ((0,[.n n14,.n n3,.n n4,.n n14,.n n15,.b b16,.n n17,.b b18,.l TBs l10,.l TBk l11,.l TWr l21])):=t0c e_wi (sP [1]<|sA h0<|sP [1,1,1]<|sA h1<|sP [1,1,1]<|sF (bf h2)<|sP [1]<|sL)
def j4l:FuncId→Option a0q:=a0s 70 (o4m.k j3j) cs_bi
theorem e4z:CsOk Try.prog j4l:=csL1 z3b k4f
def cs_31D:FuncId→Option a0q:=a0s 62 ((BSh.of B31).k i2m) j4l
theorem j4h:CsOk Try.prog cs_31D:=csA e4z y3z
def x3r (l:List (Ty.den TBs)):Bool:=decide ((0+l.length)*24≤140737488355328)
def p3u:OpA:=n3u TBs x3r
def Bc66:FBox:=mkF [.imm TBs 0] [] [] [(.own 0,[.arr TBs 0])] p3u
def cs_c66:FuncId→Option a0q:=e1c 66 [(BSh.of Bc66).k p3u] cs_31D
theorem Bc66_ok:a0v Try.prog 66 (a0j Bc66):=
 z3k (P:=Try.prog) (cl:=clMd true Try.prog h0b) (c1t v0d hmix true) hmix (T:=47) (e:=38) (n:=400) (fn:=Try.f66) (by kernel_rfl) (by kernel_rfl) (by kernel_rfl) (by kernel_rfl) TBs x3r
  (fun l=>[.imm TBs l,.undef,.nilsl,.undef,.undef,.undef,.undef,.undef]) (fun l=>[.imm TBs l,.undef,.nilsl,.imm TBs l,.bool true,.undef,.undef,.undef])
  (fun l=>[.imm TBs l,.undef,.own 0 1,.imm TBs l,.bool false,.own 0 0,.imm TBs l,.own 0 1]) (fun l=>⟨[.arr TBs 1 l],[0]⟩) (fun l=>.own 0 1)
  (fun l=>by kernel_rfl) (fun l=>rfl) (fun l=>rfl) (fun l=>by kernel_rfl) (fun l=>by kernel_rfl) (fun l=>by kernel_rfl) (fun l=>by kernel_rfl) (fun l=>by kernel_rfl) (fun l=>by kernel_rfl) (by kernel_rfl)
theorem i4e:CsOk Try.prog cs_c66:=csB j4h Bc66_ok
def x3q:FuncId→Option a0q:=k4t 66 TBs cs_c66
theorem p3n:CsOk Try.prog x3q:=k4o i4e
def S_rc:BSh:={args:=[.ptr 0 0,.int .i64 0],blks:=[logB 1 1 (.own 2),dkB 3 4 4,.arr TBs 8,.arr TBk 9,.arr TWr 10],log:=[],outs:=[(.tup [.nilsl,.bool 0],[logB 1 1 (.own 2),dkB 3 4 4,.arr TBs 8,.arr TBk 9,.arr TWr 10]),(.tup [.own 5,.bool 0],[logB 1 1 (.own 2),dkB 3 4 4,.arr TBs 8,.arr TBk 9,.arr TWr 10,.arr TB 11])]}
def ev_rc:List Dat→Tree (Nat×List Dat):=evF x3q 27 ls0 S_rc
theorem e_rc: ∃op,IsF ev_rc 27 S_rc op:=bxF p3n (LsOk.none _ _ _)
def o3t:OpA:=opF e_rc
theorem u4j {n0 n1 n2 n3 n4:Int}{b5:Bool}{n6:Int}{b7:Bool}{l8:List (Ty.den TBs)}{l9:List (Ty.den TBk)}{l10:List (Ty.den TWr)}(h0:(n0<n2)):o3t [.n n0,.n n1,.n n2,.n n3,.n n4,.b b5,.n n6,.b b7,.l TBs l8,.l TBk l9,.l TWr l10]=some ((0,[.b false,.n n1,.n n2,.n n3,.n n4,.b b5,.n n6,.b b7,.l TBs l8,.l TBk l9,.l TWr l10])):=t0c e_rc (sP [0]<|sT (dt h0)<|sP [1,1,1]<|sL)
theorem s4n {n0 n1 n2 n3 n4:Int}{b5:Bool}{n6:Int}{b7:Bool}{l8:List (Ty.den TBs)}{l9:List (Ty.den TBk)}{l10:List (Ty.den TWr)}(h0:(¬n0<n2))(h1:(n0≥IntKind.wrap .i64 (n2+(↑(List.length l8):Int)))):o3t [.n n0,.n n1,.n n2,.n n3,.n n4,.b b5,.n n6,.b b7,.l TBs l8,.l TBk l9,.l TWr l10]=some ((0,[.b false,.n n1,.n n2,.n n3,.n n4,.b b5,.n n6,.b b7,.l TBs l8,.l TBk l9,.l TWr l10])):=t0c e_rc (sP [0]<|sF (df h0)<|sP [1,0,1,1]<|sT (dt h1)<|sP [1]<|sL)
theorem s4k {n0 n1 n2 n3 n4:Int}{b5:Bool}{n6:Int}{b7:Bool}{l8:List (Ty.den TBs)}{l9:List (Ty.den TBk)}{l10:List (Ty.den TWr)}{l11:List (Ty.den TB)}(h0:(¬n0<n2))(h1:(¬n0≥IntKind.wrap .i64 (n2+(↑(List.length l8):Int))))(h2:(inR (IntKind.wrap .i64 (n0-n2)) (List.length l8)=true))(h3:(i2m [.l TB (List.getD l8 (Int.toNat (IntKind.wrap .i64 (n0-n2))) (Ty.dflt TBs))])=(some (0,[.l TB l11]))):o3t [.n n0,.n n1,.n n2,.n n3,.n n4,.b b5,.n n6,.b b7,.l TBs l8,.l TBk l9,.l TWr l10]=some ((1,[.b true,.n n1,.n n2,.n n3,.n n4,.b b5,.n n6,.b b7,.l TBs l8,.l TBk l9,.l TWr l10,.l TB l11])):=t0c e_rc (sP [0]<|sF (df h0)<|sP [1,0,1,1]<|sF (df h1)<|sT h2<|sA h3<|sP [1,1,1,1]<|sL)
def cs_rc:FuncId→Option a0q:=e1c 27 [S_rc.k o3t] x3q
theorem t4u:CsOk Try.prog cs_rc:=csA1 p3n e_rc
def cs_whg:FuncId→Option a0q:=e1c 63 [S_wh.k p3m,S_wi.k p3l] cs_rc
theorem l4o:CsOk Try.prog cs_whg:=h0a t4u fun B hB=>by
 simp only[List.mem_cons,List.not_mem_nil,or_false]at hB
 rcases hB with rfl|rfl
 ·exact h3x e_wh
 ·exact h3x e_wi
def q3o:FuncId→Option a0q:=csFrz 62 TB cs_whg
theorem m3l:CsOk Try.prog q3o:=r4k l4o
def S_ap:BSh:={args:=[.ptr 0 0,.own 1],blks:=[logB 0 2 (.own 3),.arr TB 3,dkB 4 5 4,.arr TBs 8,.arr TBk 9,.arr TWr 10],log:=[0,2,3,4,5],outs:=[(.int .i64 0,[logB 1 2 (.own 3),.arr TB 4,dkB 4 5 5,.arr TBs 9,.arr TBk 10,.arr TWr 11]),(.int .i64 0,[logB 1 2 (.own 3),.arr TB 4,dkB 4 6 5,.arr TBs 9,.arr TBk 10,.gone,.arr TWr 11])]}
def ev_ap:List Dat→Tree (Nat×List Dat):=evFV [(some 2,1,.own TWr)] q3o 23 ls0 S_ap
theorem e_ap: ∃op,IsF ev_ap 23 S_ap op:=bxFV m3l (LsOk.none _ _ _)
def k3s:OpA:=opF e_ap
theorem t4p {n0 n1 n2:Int}{l3:List (Ty.den TB)}{n4:Int}{b5:Bool}{n6:Int}{b7:Bool}{l8:List (Ty.den TBs)}{l9:List (Ty.den TBk)}{l10:List (Ty.den TWr)}(h0:(¬n2=(0:Int))):k3s [.n n0,.n n1,.n n2,.l TB l3,.n n4,.b b5,.n n6,.b b7,.l TBs l8,.l TBk l9,.l TWr l10]=some ((0,[.n n2,.n n0,.n n1,.n n2,.l TB l3,.n n4,.b b5,.n n6,.b b7,.l TBs l8,.l TBk l9,.l TWr l10])):=t0c e_ap (sP [1,0,1]<|sT (bnt h0)<|sP [1]<|sL)
theorem r4p {n0 n1 n2:Int}{l3:List (Ty.den TB)}{n4:Int}{b5:Bool}{n6:Int}{b7:Bool}{l8:List (Ty.den TBs)}{l9:List (Ty.den TBk)}{l10:List (Ty.den TWr)}(h0:(n2=(0:Int)))(h1:((↑(List.length l3):Int)>(232:Int))):k3s [.n n0,.n n1,.n n2,.l TB l3,.n n4,.b b5,.n n6,.b b7,.l TBs l8,.l TBk l9,.l TWr l10]=some ((0,[.n (3:Int),.n n0,.n n1,.n n2,.l TB l3,.n n4,.b b5,.n n6,.b b7,.l TBs l8,.l TBk l9,.l TWr l10])):=t0c e_ap (sP [1,0,1]<|sF (bnf h0)<|sT (dt h1)<|sP [1]<|sL)
theorem q4j {n0 n1 n2:Int}{l3:List (Ty.den TB)}{n4:Int}{b5:Bool}{n6:Int}{b7:Bool}{l8:List (Ty.den TBs)}{l9:List (Ty.den TBk)}{l10:List (Ty.den TWr)}(h0:(n2=(0:Int)))(h1:(¬(↑(List.length l3):Int)>(232:Int)))(h2:((↑(List.length l8):Int)≥imax (IntKind.wrap .i64 ((↑(List.length l9):Int)-(2:Int))) (0:Int))):k3s [.n n0,.n n1,.n n2,.l TB l3,.n n4,.b b5,.n n6,.b b7,.l TBs l8,.l TBk l9,.l TWr l10]=some ((0,[.n (150:Int),.n n0,.n n1,.n n2,.l TB l3,.n n4,.b b5,.n n6,.b b7,.l TBs l8,.l TBk l9,.l TWr l10])):=t0c e_ap (sP [1,0,1]<|sF (bnf h0)<|sF (df h1)<|sP [1,0,1,0,1,1,1]<|sT (dt h2)<|sP [1]<|sL)
theorem q4k {n0 n1 n2:Int}{l3:List (Ty.den TB)}{n4:Int}{b5:Bool}{n6:Int}{b7:Bool}{l8:List (Ty.den TBs)}{l9:List (Ty.den TBk)}{l10:List (Ty.den TWr)}{l11:List (Ty.den TB)}{n12 n13 n14 n15 n16:Int}{b17:Bool}{n18:Int}{b19:Bool}{l20:List (Ty.den TBs)}{l21:List (Ty.den TBk)}{l22:List (Ty.den TWr)}(h0:(n2=(0:Int)))(h1:(¬(↑(List.length l3):Int)>(232:Int)))(h2:(¬(↑(List.length l8):Int)≥imax (IntKind.wrap .i64 ((↑(List.length l9):Int)-(2:Int))) (0:Int)))(h3:(i2m [.l TB l3])=(some (0,[.l TB l11])))(h4:(p3l [.n (IntKind.wrap .i64 ((2:Int)+Int.tmod (IntKind.wrap .i64 (IntKind.wrap .i64 (n1+(↑(List.length l8):Int))-(1:Int))) (imax (IntKind.wrap .i64 ((↑(List.length l9):Int)-(2:Int))) (0:Int)))),.n (IntKind.wrap .i64 (n1+(↑(List.length l8):Int))),.l TB l11,.n n0,.n n1,.n n2,.n n4,.b b5,.n n6,.b b7,.l TBs l8,.l TBk l9,.l TWr l10])=(some (0,[.n n12,.n n13,.n n14,.n n15,.n n16,.b b17,.n n18,.b b19,.l TBs l20,.l TBk l21,.l TWr l22])))(h5:(¬n12=(0:Int))):k3s [.n n0,.n n1,.n n2,.l TB l3,.n n4,.b b5,.n n6,.b b7,.l TBs l8,.l TBk l9,.l TWr l10]=some ((0,[.n n12,.n n13,.n n14,.n n15,.l TB l3,.n n16,.b b17,.n n18,.b b19,.l TBs l8,.l TBk l21,.l TWr l22])):=t0c e_ap (sP [1,0,1]<|sF (bnf h0)<|sF (df h1)<|sP [1,0,1,0,1,1,1]<|sF (df h2)<|sP [1,0,1,1]<|sA h3<|sP [1,1,1,1,0,1,0,1,1]<|sTo (c:=(!decide (imax (IntKind.wrap .i64 ((↑(List.length l9):Int)-(2:Int))) (0:Int)=(0:Int))))<|sP [1,1]<|sA h4<|sP [1,1,1]<|sT (bnt h5)<|sP [1]<|sL)
theorem t4n {n0 n1 n2:Int}{l3:List (Ty.den TB)}{n4:Int}{b5:Bool}{n6:Int}{b7:Bool}{l8:List (Ty.den TBs)}{l9:List (Ty.den TBk)}{l10:List (Ty.den TWr)}{l11:List (Ty.den TB)}{n12 n13 n14 n15 n16:Int}{b17:Bool}{n18:Int}{b19:Bool}{l20:List (Ty.den TBs)}{l21:List (Ty.den TBk)}{l22:List (Ty.den TWr)}(h0:(n2=(0:Int)))(h1:(¬(↑(List.length l3):Int)>(232:Int)))(h2:(¬(↑(List.length l8):Int)≥imax (IntKind.wrap .i64 ((↑(List.length l9):Int)-(2:Int))) (0:Int)))(h3:(i2m [.l TB l3])=(some (0,[.l TB l11])))(h4:(p3l [.n (IntKind.wrap .i64 ((2:Int)+Int.tmod (IntKind.wrap .i64 (IntKind.wrap .i64 (n1+(↑(List.length l8):Int))-(1:Int))) (imax (IntKind.wrap .i64 ((↑(List.length l9):Int)-(2:Int))) (0:Int)))),.n (IntKind.wrap .i64 (n1+(↑(List.length l8):Int))),.l TB l11,.n n0,.n n1,.n n2,.n n4,.b b5,.n n6,.b b7,.l TBs l8,.l TBk l9,.l TWr l10])=(some (1,[.n n12,.n n13,.n n14,.n n15,.n n16,.b b17,.n n18,.b b19,.l TBs l20,.l TBk l21,.l TWr l22])))(h5:(n12=(0:Int)))(h6:((List.length l8+1)*24≤140737488355328)):k3s [.n n0,.n n1,.n n2,.l TB l3,.n n4,.b b5,.n n6,.b b7,.l TBs l8,.l TBk l9,.l TWr l10]=some ((1,[.n (0:Int),.n n13,.n n14,.n n15,.l TB l3,.n n16,.b b17,.n n18,.b b19,.l TBs (apL l8 [l11]),.l TBk l21,.l TWr l22])):=t0c e_ap (sP [1,0,1]<|sF (bnf h0)<|sF (df h1)<|sP [1,0,1,0,1,1,1]<|sF (df h2)<|sP [1,0,1,1]<|sA h3<|sP [1,1,1,1,0,1,0,1,1]<|sTo (c:=(!decide (imax (IntKind.wrap .i64 ((↑(List.length l9):Int)-(2:Int))) (0:Int)=(0:Int))))<|sP [1,1]<|sA h4<|sP [0,1,1,1]<|sF (bnf h5)<|sT (dt h6)<|sP [1,1]<|sL)
def S_ai:BSh:={args:=[.ptr 0 0,.imm TB 0],blks:=[logB 1 1 (.own 2),dkB 3 4 4,.arr TBs 8,.arr TBk 9,.arr TWr 10],log:=[0,1,2,3,4],outs:=[(.int .i64 0,[logB 1 1 (.own 2),dkB 3 4 4,.arr TBs 8,.arr TBk 9,.arr TWr 10]),(.int .i64 0,[logB 1 1 (.own 2),dkB 3 5 4,.arr TBs 8,.arr TBk 9,.gone,.arr TWr 10])]}
def ev_ai:List Dat→Tree (Nat×List Dat):=evFV [(some 1,1,.own TWr)] q3o 23 ls0 S_ai
theorem e_ai: ∃op,IsF ev_ai 23 S_ai op:=bxFV m3l (LsOk.none _ _ _)
def u3d:OpA:=opF e_ai
theorem s4x {l0:List (Ty.den TB)}{n1 n2 n3 n4:Int}{b5:Bool}{n6:Int}{b7:Bool}{l8:List (Ty.den TBs)}{l9:List (Ty.den TBk)}{l10:List (Ty.den TWr)}(h0:(¬n3=(0:Int))):u3d [.l TB l0,.n n1,.n n2,.n n3,.n n4,.b b5,.n n6,.b b7,.l TBs l8,.l TBk l9,.l TWr l10]=some ((0,[.n n3,.n n1,.n n2,.n n3,.n n4,.b b5,.n n6,.b b7,.l TBs l8,.l TBk l9,.l TWr l10])):=t0c e_ai (sP [1,0,1]<|sT (bnt h0)<|sP [1]<|sL)
theorem q4c {l0:List (Ty.den TB)}{n1 n2 n3 n4:Int}{b5:Bool}{n6:Int}{b7:Bool}{l8:List (Ty.den TBs)}{l9:List (Ty.den TBk)}{l10:List (Ty.den TWr)}(h0:(n3=(0:Int)))(h1:((↑(List.length l0):Int)>(232:Int))):u3d [.l TB l0,.n n1,.n n2,.n n3,.n n4,.b b5,.n n6,.b b7,.l TBs l8,.l TBk l9,.l TWr l10]=some ((0,[.n (3:Int),.n n1,.n n2,.n n3,.n n4,.b b5,.n n6,.b b7,.l TBs l8,.l TBk l9,.l TWr l10])):=t0c e_ai (sP [1,0,1]<|sF (bnf h0)<|sT (dt h1)<|sP [1]<|sL)
theorem p4u {l0:List (Ty.den TB)}{n1 n2 n3 n4:Int}{b5:Bool}{n6:Int}{b7:Bool}{l8:List (Ty.den TBs)}{l9:List (Ty.den TBk)}{l10:List (Ty.den TWr)}(h0:(n3=(0:Int)))(h1:(¬(↑(List.length l0):Int)>(232:Int)))(h2:((↑(List.length l8):Int)≥imax (IntKind.wrap .i64 ((↑(List.length l9):Int)-(2:Int))) (0:Int))):u3d [.l TB l0,.n n1,.n n2,.n n3,.n n4,.b b5,.n n6,.b b7,.l TBs l8,.l TBk l9,.l TWr l10]=some ((0,[.n (150:Int),.n n1,.n n2,.n n3,.n n4,.b b5,.n n6,.b b7,.l TBs l8,.l TBk l9,.l TWr l10])):=t0c e_ai (sP [1,0,1]<|sF (bnf h0)<|sF (df h1)<|sP [1,0,1,0,1,1,1]<|sT (dt h2)<|sP [1]<|sL)
theorem v4d {l0:List (Ty.den TB)}{n1 n2 n3 n4:Int}{b5:Bool}{n6:Int}{b7:Bool}{l8:List (Ty.den TBs)}{l9:List (Ty.den TBk)}{l10:List (Ty.den TWr)}{l11:List (Ty.den TB)}{n12 n13 n14 n15 n16:Int}{b17:Bool}{n18:Int}{b19:Bool}{l20:List (Ty.den TBs)}{l21:List (Ty.den TBk)}{l22:List (Ty.den TWr)}(h0:(n3=(0:Int)))(h1:(¬(↑(List.length l0):Int)>(232:Int)))(h2:(¬(↑(List.length l8):Int)≥imax (IntKind.wrap .i64 ((↑(List.length l9):Int)-(2:Int))) (0:Int)))(h3:(i2m [.l TB l0])=(some (0,[.l TB l11])))(h4:(p3l [.n (IntKind.wrap .i64 ((2:Int)+Int.tmod (IntKind.wrap .i64 (IntKind.wrap .i64 (n2+(↑(List.length l8):Int))-(1:Int))) (imax (IntKind.wrap .i64 ((↑(List.length l9):Int)-(2:Int))) (0:Int)))),.n (IntKind.wrap .i64 (n2+(↑(List.length l8):Int))),.l TB l11,.n n1,.n n2,.n n3,.n n4,.b b5,.n n6,.b b7,.l TBs l8,.l TBk l9,.l TWr l10])=(some (0,[.n n12,.n n13,.n n14,.n n15,.n n16,.b b17,.n n18,.b b19,.l TBs l20,.l TBk l21,.l TWr l22])))(h5:(¬n12=(0:Int))):u3d [.l TB l0,.n n1,.n n2,.n n3,.n n4,.b b5,.n n6,.b b7,.l TBs l8,.l TBk l9,.l TWr l10]=some ((0,[.n n12,.n n13,.n n14,.n n15,.n n16,.b b17,.n n18,.b b19,.l TBs l8,.l TBk l21,.l TWr l22])):=t0c e_ai (sP [1,0,1]<|sF (bnf h0)<|sF (df h1)<|sP [1,0,1,0,1,1,1]<|sF (df h2)<|sP [1,0,1,1]<|sA h3<|sP [1,1,1,1,0,1,0,1,1]<|sTo (c:=(!decide (imax (IntKind.wrap .i64 ((↑(List.length l9):Int)-(2:Int))) (0:Int)=(0:Int))))<|sP [1,1]<|sA h4<|sP [1,1,1]<|sT (bnt h5)<|sP [1]<|sL)
theorem q4e {l0:List (Ty.den TB)}{n1 n2 n3 n4:Int}{b5:Bool}{n6:Int}{b7:Bool}{l8:List (Ty.den TBs)}{l9:List (Ty.den TBk)}{l10:List (Ty.den TWr)}{l11:List (Ty.den TB)}{n12 n13 n14 n15 n16:Int}{b17:Bool}{n18:Int}{b19:Bool}{l20:List (Ty.den TBs)}{l21:List (Ty.den TBk)}{l22:List (Ty.den TWr)}(h0:(n3=(0:Int)))(h1:(¬(↑(List.length l0):Int)>(232:Int)))(h2:(¬(↑(List.length l8):Int)≥imax (IntKind.wrap .i64 ((↑(List.length l9):Int)-(2:Int))) (0:Int)))(h3:(i2m [.l TB l0])=(some (0,[.l TB l11])))(h4:(p3l [.n (IntKind.wrap .i64 ((2:Int)+Int.tmod (IntKind.wrap .i64 (IntKind.wrap .i64 (n2+(↑(List.length l8):Int))-(1:Int))) (imax (IntKind.wrap .i64 ((↑(List.length l9):Int)-(2:Int))) (0:Int)))),.n (IntKind.wrap .i64 (n2+(↑(List.length l8):Int))),.l TB l11,.n n1,.n n2,.n n3,.n n4,.b b5,.n n6,.b b7,.l TBs l8,.l TBk l9,.l TWr l10])=(some (1,[.n n12,.n n13,.n n14,.n n15,.n n16,.b b17,.n n18,.b b19,.l TBs l20,.l TBk l21,.l TWr l22])))(h5:(n12=(0:Int)))(h6:((List.length l8+1)*24≤140737488355328)):u3d [.l TB l0,.n n1,.n n2,.n n3,.n n4,.b b5,.n n6,.b b7,.l TBs l8,.l TBk l9,.l TWr l10]=some ((1,[.n (0:Int),.n n13,.n n14,.n n15,.n n16,.b b17,.n n18,.b b19,.l TBs (apL l8 [l11]),.l TBk l21,.l TWr l22])):=t0c e_ai (sP [1,0,1]<|sF (bnf h0)<|sF (df h1)<|sP [1,0,1,0,1,1,1]<|sF (df h2)<|sP [1,0,1,1]<|sA h3<|sP [1,1,1,1,0,1,0,1,1]<|sTo (c:=(!decide (imax (IntKind.wrap .i64 ((↑(List.length l9):Int)-(2:Int))) (0:Int)=(0:Int))))<|sP [1,1]<|sA h4<|sP [0,1,1,1]<|sF (bnf h5)<|sT (dt h6)<|sP [1,1]<|sL)
def cs_ai:FuncId→Option a0q:=e1c 23 [S_ap.k k3s,S_ai.k u3d] q3o
theorem q4x:CsOk Try.prog cs_ai:=h0a m3l fun B hB=>by
 simp only[List.mem_cons,List.not_mem_nil,or_false]at hB
 rcases hB with rfl|rfl
 ·exact h3x e_ap
 ·exact h3x e_ai
def S_tr:BSh:={args:=[.ptr 0 0,.int .i64 0],blks:=[logB 1 1 (.own 2),dkB 3 4 4,.arr TBs 8,.arr TBk 9,.arr TWr 10],log:=[0,1,2,3,4],outs:=[(.int .i64 0,[logB 1 1 (.own 2),dkB 3 4 4,.arr TBs 8,.arr TBk 9,.arr TWr 10]),(.int .i64 0,[logB 1 1 (.own 2),dkB 3 5 4,.arr TBs 8,.arr TBk 9,.gone,.arr TWr 10]),(.int .i64 0,[logB 1 1 (.own 5),dkB 3 4 4,.gone,.arr TBk 8,.arr TWr 9,.arr TBs 10]),(.int .i64 0,[logB 1 1 (.own 5),dkB 3 6 4,.gone,.arr TBk 8,.gone,.arr TBs 9,.arr TWr 10])]}
def ev_tr:List Dat→Tree (Nat×List Dat):=evFV [(some 1,1,.own TWr)] cs_ai 31 ls0 S_tr
theorem e_tr: ∃op,IsF ev_tr 31 S_tr op:=bxFV q4x (LsOk.none _ _ _)
def p3f:OpA:=opF e_tr
theorem q4q {n0 n1 n2 n3 n4:Int}{b5:Bool}{n6:Int}{b7:Bool}{l8:List (Ty.den TBs)}{l9:List (Ty.den TBk)}{l10:List (Ty.den TWr)}(h0:(¬n3=(0:Int))):p3f [.n n0,.n n1,.n n2,.n n3,.n n4,.b b5,.n n6,.b b7,.l TBs l8,.l TBk l9,.l TWr l10]=some ((0,[.n n3,.n n1,.n n2,.n n3,.n n4,.b b5,.n n6,.b b7,.l TBs l8,.l TBk l9,.l TWr l10])):=t0c e_tr (sP [1,0,1]<|sT (bnt h0)<|sP [1]<|sL)
theorem r4n {n0 n1 n2 n3 n4:Int}{b5:Bool}{n6:Int}{b7:Bool}{l8:List (Ty.den TBs)}{l9:List (Ty.den TBk)}{l10:List (Ty.den TWr)}(h0:(n3=(0:Int)))(h1:(n0<n2)):p3f [.n n0,.n n1,.n n2,.n n3,.n n4,.b b5,.n n6,.b b7,.l TBs l8,.l TBk l9,.l TWr l10]=some ((0,[.n (2:Int),.n n1,.n n2,.n n3,.n n4,.b b5,.n n6,.b b7,.l TBs l8,.l TBk l9,.l TWr l10])):=t0c e_tr (sP [1,0,1]<|sF (bnf h0)<|sT (dt h1)<|sP [1,1,1]<|sL)
theorem s4c {n0 n1 n2 n3 n4:Int}{b5:Bool}{n6:Int}{b7:Bool}{l8:List (Ty.den TBs)}{l9:List (Ty.den TBk)}{l10:List (Ty.den TWr)}(h0:(n3=(0:Int)))(h1:(¬n0<n2))(h2:(n0>IntKind.wrap .i64 (n2+(↑(List.length l8):Int)))):p3f [.n n0,.n n1,.n n2,.n n3,.n n4,.b b5,.n n6,.b b7,.l TBs l8,.l TBk l9,.l TWr l10]=some ((0,[.n (2:Int),.n n1,.n n2,.n n3,.n n4,.b b5,.n n6,.b b7,.l TBs l8,.l TBk l9,.l TWr l10])):=t0c e_tr (sP [1,0,1]<|sF (bnf h0)<|sF (df h1)<|sP [1,0,1,1]<|sT (dt h2)<|sP [1]<|sL)
theorem q4z {n0 n1 n2 n3 n4:Int}{b5:Bool}{n6:Int}{b7:Bool}{l8:List (Ty.den TBs)}{l9:List (Ty.den TBk)}{l10:List (Ty.den TWr)}{n11 n12 n13 n14 n15:Int}{b16:Bool}{n17:Int}{b18:Bool}{l19:List (Ty.den TBs)}{l20:List (Ty.den TBk)}{l21:List (Ty.den TWr)}(h0:(n3=(0:Int)))(h1:(¬n0<n2))(h2:(¬n0>IntKind.wrap .i64 (n2+(↑(List.length l8):Int))))(h3:(p3m [.n (Int.tmod (IntKind.wrap .i64 (n1+(1:Int))) (2:Int)),.n (IntKind.wrap .i64 (n1+(1:Int))),.n n0,.n n1,.n n2,.n n3,.n n4,.b b5,.n n6,.b b7,.l TBs l8,.l TBk l9,.l TWr l10])=(some (0,[.n n11,.n n12,.n n13,.n n14,.n n15,.b b16,.n n17,.b b18,.l TBs l19,.l TBk l20,.l TWr l21])))(h4:(¬n11=(0:Int))):p3f [.n n0,.n n1,.n n2,.n n3,.n n4,.b b5,.n n6,.b b7,.l TBs l8,.l TBk l9,.l TWr l10]=some ((0,[.n n11,.n n12,.n n13,.n n14,.n n15,.b b16,.n n17,.b b18,.l TBs l8,.l TBk l20,.l TWr l21])):=t0c e_tr (sP [1,0,1]<|sF (bnf h0)<|sF (df h1)<|sP [1,0,1,1]<|sF (df h2)<|sP [1,1]<|sA h3<|sP [1,1]<|sT (bnt h4)<|sP [1]<|sL)
theorem r4w {n0 n1 n2 n3 n4:Int}{b5:Bool}{n6:Int}{b7:Bool}{l8:List (Ty.den TBs)}{l9:List (Ty.den TBk)}{l10:List (Ty.den TWr)}{n11 n12 n13 n14 n15:Int}{b16:Bool}{n17:Int}{b18:Bool}{l19:List (Ty.den TBs)}{l20:List (Ty.den TBk)}{l21:List (Ty.den TWr)}{l22:List (Ty.den TBs)}(h0:(n3=(0:Int)))(h1:(¬n0<n2))(h2:(¬n0>IntKind.wrap .i64 (n2+(↑(List.length l8):Int))))(h3:(p3m [.n (Int.tmod (IntKind.wrap .i64 (n1+(1:Int))) (2:Int)),.n (IntKind.wrap .i64 (n1+(1:Int))),.n n0,.n n1,.n n2,.n n3,.n n4,.b b5,.n n6,.b b7,.l TBs l8,.l TBk l9,.l TWr l10])=(some (1,[.n n11,.n n12,.n n13,.n n14,.n n15,.b b16,.n n17,.b b18,.l TBs l19,.l TBk l20,.l TWr l21])))(h4:(n11=(0:Int)))(h5:((decide ((0:Int)≤IntKind.wrap .i64 (n0-n13))&&decide (IntKind.wrap .i64 (n0-n13)≤(↑(List.length l8):Int)))=true))(h6:(p3u [.l TBs (List.take (Int.toNat (↑(List.length l8):Int)-Int.toNat (IntKind.wrap .i64 (n0-n13))) (List.drop (Int.toNat (IntKind.wrap .i64 (n0-n13))) l8))])=(some (0,[.l TBs l22]))):p3f [.n n0,.n n1,.n n2,.n n3,.n n4,.b b5,.n n6,.b b7,.l TBs l8,.l TBk l9,.l TWr l10]=some ((3,[.n (0:Int),.n (IntKind.wrap .i64 (n1+(1:Int))),.n n0,.n n14,.n n15,.b b16,.n n17,.b b18,.l TBk l20,.l TBs l22,.l TWr l21])):=t0c e_tr (sP [1,0,1]<|sF (bnf h0)<|sF (df h1)<|sP [1,0,1,1]<|sF (df h2)<|sP [1,1]<|sA h3<|sP [0,1,1]<|sF (bnf h4)<|sTs (c:=(true&&decide ((↑(List.length l8):Int)≤(↑(List.length l8):Int))))<|sT h5<|sP [1]<|sA h6<|sP [1,1,1,1]<|sL)
def atC:List Nat→Code→Code
 |[],c=>c
 |0::p,.seq a _=>atC p a
 |1::p,.seq _ b=>atC p b
 |0::p,.block _ c=>atC p c
 |0::p,.loop c=>atC p c
 |0::p,.cond _ a _=>atC p a
 |1::p,.cond _ _ b=>atC p b
 |0::p,.rangeFunc _ _ a _=>atC p a
 |1::p,.rangeFunc _ _ _ b=>atC p b
 |_,_=>.skip
structure PSh where
 K:Nat
 log:List Nat:=[]
 t:List PV
 blks:List PB
 outs:List (Exit×List PV×List PB)
def evPc (cs:FuncId→Option a0q)(c:Code)(ls:b0u)(S:PSh)(env:List Dat):Tree (Nat×List Dat):=
 fVs false (instL S.t env) fun t=>fSW false ⟨instBs S.blks env,[]⟩ fun s=>(evCodeF false Try.prog (clMd false Try.prog cs) ls 4000 c t s).bind fun x=>.guard (p2r S.K S.log x.2.2.log) 333 (l0j S.K x.1 x.2.1 x.2.2 S.outs 0)
theorem n4a {cs:FuncId→Option a0q}(hcs:CsOk Try.prog cs){c:Code}{ls:b0u}{S:PSh}(hls:LsOk Try.prog S.K ls c)(hK:Nat.ble S.K S.blks.length=true){env:List Dat}{k:Nat}{d:List Dat}(h:(evPc cs c ls S env).sel=some (k,d))
  {o:Exit×List PV×List PB} (ho:S.outs[k]? =some o) {ds:List Deferred} {r:RM} {σ:Snap} {w:World} {t':Array Value} {Q:Exit→Act→World→Prop} (hr: ∀lg,Rel r σ ⟨instBs S.blks env,lg⟩ w) (ht:LRel r σ (instL S.t env) t')
  (hQ: ∀t1' w' r' σ',(∀lg,Rel r' σ' ⟨instBs o.2.2 d,lg⟩ w')→FrameK S.K S.log r r' σ σ' w w'→LRel r' σ' (instL o.2.1 d) t1'→Q o.1 ⟨t1',ds⟩ w'):c.wp Try.prog Q ⟨t',ds⟩ w:=by
 unfold evPc at h
 rw[j2y,o1m,w0a]at h
 obtain⟨⟨e,t1,s1⟩,h1,h2⟩:=Tree.bind_some h
 obtain⟨h3,h4⟩:=Tree.guard_some h2
 have lg:=o1x h3
 have hK:=Nat.le_of_ble_eq_true hK
 refine m0n (c1t hcs y3b false) y3b 4000 c _ _ _ hls h1 (by simpa [SW.len,instBs]using hK) ds r σ w t' Q (hr []) ht fun t1' w' hth=> ?_
 obtain⟨r1,σ1,a1,a2,a3,a4,a5⟩:=hth
 have a2':=a2.more fun b hb hk=>lg b hb hk
 obtain⟨o',q1,q2,q3,q4⟩:=a1g h4
 rw[Nat.sub_zero,ho]at q2
 cases q2
 obtain⟨r2,b1,b2,b3,b4⟩:=k1i q4 a5 a1 a3
 have:=hQ t1' w' r2 σ1 b1 (a2'.trans (b3.more fun b hb hk=>lg b hb hk) fun _ h _=>h) b2
 rw[q3]at this
 exact this
def k3w:b0p:=fun _ _ _=>.bad 306
def evSt (P:Program)(cl:b0p):Code→List SV→SW→Tree (List SV×SW)
 |.region _ ops false,t,s=>o0r P cl ops (List.range ops.size) [] t s
 |.seq a b,t,s=>(evSt P cl a t s).bind fun x=>evSt P cl b x.1 x.2
 |.block _ c,t,s=>evSt P cl c t s
 |_,_,_=>.bad 302
def dstsO (ops:Array Oper):List Nat:=ops.toList.filterMap (·.dst)
def n3d:Code→List Nat
 |.region _ ops _=>dstsO ops
 |.seq a b=>n3d a++n3d b
 |.block _ c=>n3d c
 |_=>[]
def l3a (P:Program)(F:Fence)(cl:b0p):Prop:=(∀f,F.fn f)∧(cl=k3w∨F=Fence.wide∧ClOk P cl)
def j3u (l:List Nat)(t t':Array Value):Prop:= ∀i,i∉l→t'[i]? =t[i]?
theorem j3u.trans {a b:List Nat}{x y z:Array Value}(h:j3u a x y)(k:j3u b y z):j3u (a++b) x z:=fun i hi=>by
 rw[k i fun q=>hi (List.mem_append_right _ q),h i fun q=>hi (List.mem_append_left _ q)]
theorem j3u.refl (l:List Nat)(x:Array Value):j3u l x x:=fun _ _=>rfl
def o3x (ops:Array Oper)(l:List Nat):List Nat:=l.filterMap fun i=>(ops[i]?).bind (·.dst)
theorem j3u.sub {a b:List Nat}{x y:Array Value}(h:j3u a x y)(k: ∀i,i∈a→i∈b):j3u b x y:=fun i hi=>h i fun q=>hi (k i q)
theorem p4r {ops:Array Oper}{l:List Nat}{i:Nat}(h:i∈o3x ops l):i∈dstsO ops:=by
 obtain⟨j,_,h2⟩:=List.mem_filterMap.1 h
 cases e:ops[j]? with
 |none=>rw[e]at h2;cases h2
 |some o=>
  rw[e]at h2
  exact List.mem_filterMap.2 ⟨o,by obtain⟨h,rfl⟩:=Array.getElem?_eq_some_iff.1 e;exact Array.getElem_mem_toList h,h2⟩
theorem y3p {ops:Array Oper}{i:Nat}{o:Oper}(ho:ops[i]? =some o)(rest:List Nat)(t:Array Value)(ds:List Deferred)(v:Value):j3u (o3x ops (i::rest)) t ((Act.mk t ds).put o.dst v).tmps:=by
 intro k hk
 cases hd:o.dst with
 |none=>rfl
 |some d=>
  have:d≠k:=fun e=>hk (List.mem_filterMap.2 ⟨i,List.mem_cons_self ..,by rw[ho];show o.dst=_;rw[hd,e]⟩)
  show(t.setIfInBounds d v)[k]? =_
  rw[Array.getElem?_setIfInBounds,if_neg this]
section
variable {P:Program} {F:Fence} {n:Nat} {cl:b0p}
theorem runOpIn {o:Oper}{t:List SV}{t':Array Value}{r:RM}{σ:Snap}{s s1:SW}{w:World}{v:SV}(hF:l3a P F cl)(hr:Rel r σ s w)(ht:LRel r σ t t')(h:(runOp P cl o t s).sel=some (v,s1))
  {K:Act→World→Prop} {Q:Exit→Act→World→Prop} (hK: ∀v' w',h2a r σ s w v s1 v' w'→K ((Act.mk t' []).put o.dst v') w'):o.wpIn F n P ⟨t',[]⟩ w K Q:=by
 unfold runOp at h
 refine⟨fun f _=>hF.1 f,?_⟩
 split at h
 ·rename_i f args hc
  rcases hF.2 with rfl|⟨rfl,hcl⟩
  ·simp[k3w,Tree.sel]at h
  ·obtain⟨args',ha,hrun⟩:=d2m ht hc
   have hp: ∀c,o.op≠.defer c:=by
    intro c e
    rw[e]at hc
    simp[e1v]at hc
   rw[Oper.semAt_plain _ _ o hp,hrun w,Oper.uponIn_enter]
   refine⟨fun e=>by simp[Fence.wide]at e,callsIn_wide.2 ((hcl f args s v s1 h r σ w args' hr ha).mono ?_)⟩
   rintro e w' ⟨v',rfl,haf⟩
   exact hK v' w' haf
 ·have hp: ∀c,o.op≠.defer c:=by
   intro c e
   unfold evOp at h
   rw[e]at h
   simp[Tree.sel]at h
  rw[Oper.semAt_plain F _ o hp]
  obtain⟨r',σ',w',h1,h2,h3,h4,h5,h6,h7⟩:=j4d hr ht h
  rcases h7 with⟨v',h7,h8⟩|⟨h7,rfl⟩
  ·rw[h7,Oper.uponIn_value]
   exact hK v' w' ⟨r',σ',h1,h2,h3,h4,h8,h5,h6⟩
  ·rw[h7,Oper.uponIn_skip]
   exact hK Go.undef w' ⟨r',σ',h1,h2,h3,h4,.undef,h5,h6⟩
theorem m3g (hF:l3a P F cl){ops:Array Oper}(rest0:List Nat): ∀(l seen:List Nat) (t:List SV) (s:SW) (t1:List SV) (s1:SW),(o0r P cl ops l seen t s).sel=some (t1,s1)→
  ∀(r:RM) (σ:Snap) (w:World) (t':Array Value) (Q:Exit→Act→World→Prop),Rel r σ s w→LRel r σ t t'→
   (∀t1' w',Then r σ s w t1 s1 t1' w'→j3u (o3x ops l) t' t1'→wpOpsIn F n P ops Q rest0 ⟨t1',[]⟩ w')→wpOpsIn F n P ops Q (l++rest0) ⟨t',[]⟩ w
 |[],seen,t,s,t1,s1,h,r,σ,w,t',Q,hr,ht,hQ=>by
  simp only[o0r]at h;cases h
  exact hQ t' w (Then.refl hr ht) (j3u.refl _ _)
 |i::rest,seen,t,s,t1,s1,h,r,σ,w,t',Q,hr,ht,hQ=>by
  have ih:=m3g hF (ops:=ops) rest0 rest
  unfold o0r at h
  show wpOpsIn F n P ops Q (i::(rest++rest0)) _ _
  unfold wpOpsIn
  cases hi:ops[i]? with
  |none=>simp[hi,Tree.sel]at h
  |some o=>
   simp only[hi]at h⊢
   have kp: ∀{x y:Array Value},j3u (o3x ops (i::rest)) x y→ ∀{z},j3u (o3x ops rest) y z→j3u (o3x ops (i::rest)) x z:=fun h _ k i hi=>(k i fun q=>hi (by unfold o3x at q⊢;rw[List.filterMap_cons];split;exact q;exact List.mem_cons_of_mem _ q)).trans (h i hi)
   have run: ∀(seen:List Nat),((runOp P cl o t s).bind fun x=>o0r P cl ops rest seen (put t o.dst x.1) x.2).sel=some (t1,s1)→o.wpIn F n P ⟨t',[]⟩ w (wpOpsIn F n P ops Q (rest++rest0)) Q:=by
    intro seen h
    obtain⟨⟨v,s2⟩,h1,h2⟩:=Tree.bind_some h
    refine runOpIn hF hr ht h1 fun v' w' haf=> ?_
    obtain⟨r',σ',k1,k2,k3,k4,k5,k6,k7⟩:=haf
    have hk:=y3p hi rest t' [] v'
    rw[k1r]
    exact ih seen _ s2 t1 s1 h2 r' σ' w' _ Q k3 (n2k (ht.mono k1 k2) _ k5) fun t1' w'' hth hkt=>hQ t1' w'' (Then.trans k1 k2 k4 k6 k7 hth) (kp hk hkt)
   have pass: ∀(seen:List Nat),(o0r P cl ops rest seen (put t o.dst .undef) s).sel=some (t1,s1)→(∀f,o.about P w (Act.mk t' []).eval=some f→F.fn f)∧wpOpsIn F n P ops Q (rest++rest0) ((Act.mk t' []).put o.dst undef) w:=by
    intro seen h
    have hk:=y3p hi rest t' [] undef
    rw[k1r]
    exact⟨fun f _=>hF.1 f,ih seen _ s t1 s1 h r σ w _ Q hr (n2k ht _ .undef) fun t1' w'' hth hkt=>hQ t1' w'' hth (kp hk hkt)⟩
   cases hg:o.guard with
   |none=>
    simp only[hg]at h
    rw[if_pos (by simp[Region.wanted,hg])]
    exact run seen h
   |some jw=>
    obtain⟨j,want⟩:=jw
    simp only[hg]at h
    cases hga:e0r ops t j with
    |bad=>simp[hga,Tree.sel]at h
    |no=>
     simp only[hga]at h
     rw[if_neg (by simp[Region.wanted,hg,e1w ht hga])]
     exact pass seen h
    |yes d b=>
     obtain⟨hy,htd⟩:=b1h ht hga
     simp only[hga]at h
     have hw:Region.wanted o (yielded ops t')=(b==want):=by
      simp only[Region.wanted,hg,hy];cases b<;>cases want<;>rfl
     cases hs:seen.contains j with
     |true=>
      simp only[hs]at h
      cases hbw:b==want with
      |true=>simp only[hbw]at h;rw[if_pos (by rw[hw,hbw])];exact run seen h
      |false=>simp only[hbw]at h;rw[if_neg (by rw[hw,hbw];simp)];exact pass seen h
     |false=>
      simp only[hs,Tree.sel]at h
      cases b with
      |true=>
       simp only[cond_true,y0r htd]at h
       cases want with
       |true=>rw[if_pos (by rw[hw];rfl)];exact run _ h
       |false=>rw[if_neg (by rw[hw];simp)];exact pass _ h
      |false=>
       simp only[cond_false,y0r htd]at h
       cases want with
       |true=>rw[if_neg (by rw[hw];simp)];exact pass _ h
       |false=>rw[if_pos (by rw[hw];rfl)];exact run _ h
theorem evSt_ok (hF:l3a P F cl): ∀(c:Code) (t:List SV) (s:SW) (t1:List SV) (s1:SW),(evSt P cl c t s).sel=some (t1,s1)→
  ∀(r:RM) (σ:Snap) (w:World) (t':Array Value) (Q:Exit→Act→World→Prop),Rel r σ s w→LRel r σ t t'→
   (∀t1' w',Then r σ s w t1 s1 t1' w'→j3u (n3d c) t' t1'→Q .normal ⟨t1',[]⟩ w')→c.wpIn F n P Q ⟨t',[]⟩ w:=by
 intro c
 induction c with
 |region id ops d=>
  intro t s t1 s1 h r σ w t' Q hr ht hQ
  cases d with
  |true=>simp[evSt,Tree.sel]at h
  |false=>
   refine wpIn_region ?_
   have:=m3g (Q:=Q) (n:=n) hF [] _ _ _ _ _ _ h r σ w t' hr ht fun t1' w' h1 h2=>(show wpOpsIn F n P ops Q [] ⟨t1',[]⟩ w' from hQ t1' w' h1 (h2.sub fun _=>p4r))
   rwa [List.append_nil]at this
 |seq a b iha ihb=>
  intro t s t1 s1 h r σ w t' Q hr ht hQ
  unfold evSt at h
  obtain⟨⟨t2,s2⟩,h1,h2⟩:=Tree.bind_some h
  refine wpIn_seq (iha t s t2 s2 h1 r σ w t' _ hr ht fun t2' w2 hth hk1=> ?_)
  obtain⟨r',σ',k1,k2,k3,k4,k5,k6,k7⟩:=hth
  exact ihb t2 s2 t1 s1 h2 r' σ' w2 t2' Q k3 k5 fun t1' w' hth hk2=>hQ t1' w' (Then.trans k1 k2 k4 k6 k7 hth) (hk1.trans hk2)
 |block id c ih=>
  intro t s t1 s1 h r σ w t' Q hr ht hQ
  unfold evSt at h
  exact wpIn_block (ih t s t1 s1 h r σ w t' _ hr ht fun t1' w' hth hk=>hQ t1' w' hth hk)
 |_=>intro t s t1 s1 h;simp[evSt,Tree.sel]at h
end
def evRd (cl:b0p)(c:Code)(S:PSh)(env:List Dat):Tree (Nat×List Dat):=
 fVs false (instL S.t env) fun t=>fSW false ⟨instBs S.blks env,[]⟩ fun s=>(evSt Try.prog cl c t s).bind fun x=>.guard (p2r S.K S.log x.2.log) 333 (l0j S.K .normal x.1 x.2 S.outs 0)
def evRg (cs:FuncId→Option a0q):Code→PSh→List Dat→Tree (Nat×List Dat):=evRd (clMd false Try.prog cs)
theorem o3w {F:Fence}{cl:b0p}{c:Code}{S:PSh}(hK:Nat.ble S.K S.blks.length=true){env:List Dat}{k:Nat}{d:List Dat}(h:(evRd cl c S env).sel=some (k,d)){o:Exit×List PV×List PB}(ho:S.outs[k]? =some o)
  {n:Nat} (hF:l3a Try.prog F cl) {r:RM} {σ:Snap} {w:World} {t':Array Value} {Q:Exit→Act→World→Prop} (hr: ∀lg,Rel r σ ⟨instBs S.blks env,lg⟩ w) (ht:LRel r σ (instL S.t env) t')
  (hQ: ∀t1' w' r' σ',(∀lg,Rel r' σ' ⟨instBs o.2.2 d,lg⟩ w')→FrameK S.K S.log r r' σ σ' w w'→LRel r' σ' (instL o.2.1 d) t1'→j3u (n3d c) t' t1'→Q .normal ⟨t1',[]⟩ w'):c.wpIn F n Try.prog Q ⟨t',[]⟩ w:=by
 unfold evRd at h
 rw[j2y,o1m]at h
 obtain⟨⟨t1,s1⟩,h1,h2⟩:=Tree.bind_some h
 obtain⟨h3,h4⟩:=Tree.guard_some h2
 have lg:=o1x h3
 have hK:=Nat.le_of_ble_eq_true hK
 refine evSt_ok hF c _ _ t1 s1 h1 r σ w t' _ (hr []) ht fun t1' w' hth hk=> ?_
 obtain⟨r1,σ1,a1,a2,a3,a4,a5⟩:=hth.toK (K:=S.K) (by simpa [SW.len,instBs]using hK)
 have a2':=a2.more fun b hb hk=>lg b hb hk
 obtain⟨o',q1,q2,q3,q4⟩:=a1g h4
 rw[Nat.sub_zero,ho]at q2
 cases q2
 obtain⟨r2,b1,b2,b3,b4⟩:=k1i q4 a5 a1 a3
 exact hQ t1' w' r2 σ1 b1 (a2'.trans (b3.more fun b hb hk=>lg b hb hk) fun _ h _=>h) b2 hk
def fnR:PV:=.fn (.func 72) [.ptr 0 0] []
def i3m:FuncId→Option a0q:=e1c 71 [l4a.k h3q] m3b
theorem h3h:CsOk Try.prog i3m:=csA1 i3h m3m
def c_p10:Code:=(atC [0] (a0r Try.prog 39))
def P_p10:PSh:={K:=4,log:=[],t:=sh 58 [(0,.ptr 0 0)],blks:=[logB 0 1 .nilsl,dkB 2 3 3,.arr TBk 7,.arr TWr 8],outs:=[(.normal,sh 58 [(0,.ptr 0 0)],[logB 0 1 .nilsl,dkB 2 3 3,.arr TBk 7,.arr TWr 8])]}
def ev_p10:List Dat→Tree (Nat×List Dat):=evPc i3m c_p10 ls0 P_p10
theorem h4d:LsOk Try.prog 4 ls0 c_p10:=LsOk.none _ _ _
theorem k4v {n0 n1 n2 n3:Int}{b4:Bool}{n5:Int}{b6:Bool}{l7:List (Ty.den TBk)}{l8:List (Ty.den TWr)}:(ev_p10 [.n n0,.n n1,.n n2,.n n3,.b b4,.n n5,.b b6,.l TBk l7,.l TWr l8]).sel=some ((0,[.n n0,.n n1,.n n2,.n n3,.b b4,.n n5,.b b6,.l TBk l7,.l TWr l8])):=sP [1]<|sL
def c_p11:Code:=(atC [1,0] (a0r Try.prog 39))
def P_p11:PSh:={K:=4,log:=[],t:=sh 58 [(0,.ptr 0 0)],blks:=[logB 0 1 .nilsl,dkB 2 3 3,.arr TBk 7,.arr TWr 8],outs:=[(.normal,sh 58 [(0,.ptr 0 0),(3,.ptr 4 0)],[logB 0 1 .nilsl,dkB 2 3 3,.arr TBk 7,.arr TWr 8,.cells [.int .i64 9]])]}
def ev_p11:List Dat→Tree (Nat×List Dat):=evPc i3m c_p11 ls0 P_p11
theorem g4n:LsOk Try.prog 4 ls0 c_p11:=LsOk.none _ _ _
theorem k4h {n0 n1 n2 n3:Int}{b4:Bool}{n5:Int}{b6:Bool}{l7:List (Ty.den TBk)}{l8:List (Ty.den TWr)}:(ev_p11 [.n n0,.n n1,.n n2,.n n3,.b b4,.n n5,.b b6,.l TBk l7,.l TWr l8]).sel=some ((0,[.n n0,.n n1,.n n2,.n n3,.b b4,.n n5,.b b6,.l TBk l7,.l TWr l8,.n (0:Int)])):=sP [1]<|sL
def c_p12:Code:=(atC [1,1,0] (a0r Try.prog 39))
def P_p12:PSh:={K:=4,log:=[],t:=sh 58 [(0,.ptr 0 0),(3,.ptr 4 0)],blks:=[logB 0 1 .nilsl,dkB 2 3 3,.arr TBk 7,.arr TWr 8,.cells [.int .i64 9]],outs:=[(.normal,sh 58 [(0,.ptr 0 0),(3,.ptr 4 0),(4,.ptr 5 0)],[logB 0 1 .nilsl,dkB 2 3 3,.arr TBk 7,.arr TWr 8,.cells [.int .i64 9],.cells [.own 6],.arr TRec 10])]}
def ev_p12:List Dat→Tree (Nat×List Dat):=evPc i3m c_p12 ls0 P_p12
theorem l4u:LsOk Try.prog 4 ls0 c_p12:=LsOk.none _ _ _
theorem p4d {n0 n1 n2 n3:Int}{b4:Bool}{n5:Int}{b6:Bool}{l7:List (Ty.den TBk)}{l8:List (Ty.den TWr)}{n9:Int}(h0:((decide ((0:Int)≤imax (IntKind.wrap .i64 ((↑(List.length l7):Int)-(2:Int))) (0:Int))&&decide (imax (IntKind.wrap .i64 ((↑(List.length l7):Int)-(2:Int))) (0:Int)≤imax (IntKind.wrap .i64 ((↑(List.length l7):Int)-(2:Int))) (0:Int))&&decide (imax (IntKind.wrap .i64 ((↑(List.length l7):Int)-(2:Int))) (0:Int)*(32:Int)≤(281474976710656:Int)))=true)):(ev_p12 [.n n0,.n n1,.n n2,.n n3,.b b4,.n n5,.b b6,.l TBk l7,.l TWr l8,.n n9]).sel=some ((0,[.n n0,.n n1,.n n2,.n n3,.b b4,.n n5,.b b6,.l TBk l7,.l TWr l8,.n n9,.l TRec
 (repC (Int.toNat (imax (IntKind.wrap .i64 ((↑(List.length l7):Int)-(2:Int))) (0:Int))) (Ty.dflt TRec))])):=sP [1,0,1,0,1,1]<|sT h0<|sP [1]<|sL
def c_p13:Code:=(atC [1,1,1,0,0] (a0r Try.prog 39))
def P_p13:PSh:={K:=4,log:=[],t:=sh 58 [(0,.ptr 0 0),(3,.ptr 4 0),(4,.ptr 5 0)],blks:=[logB 0 1 .nilsl,dkB 2 3 3,.arr TBk 7,.arr TWr 8,.cells [.int .i64 9],.cells [.own 6],.arr TRec 10],outs:=[(.normal,sh 58 [(0,.ptr 0 0),(3,.ptr 4 0),(4,.ptr 5 0),(12,fnR)],[logB 0 1 .nilsl,dkB 2 3 3,.arr TBk 7,.arr TWr 8,.cells [.int .i64 9],.cells [.own 6],.arr TRec 10])]}
def ev_p13:List Dat→Tree (Nat×List Dat):=evPc i3m c_p13 ls0 P_p13
theorem j4b:LsOk Try.prog 4 ls0 c_p13:=LsOk.none _ _ _
theorem m4e {n0 n1 n2 n3:Int}{b4:Bool}{n5:Int}{b6:Bool}{l7:List (Ty.den TBk)}{l8:List (Ty.den TWr)}{n9:Int}{l10:List (Ty.den TRec)}:(ev_p13 [.n n0,.n n1,.n n2,.n n3,.b b4,.n n5,.b b6,.l TBk l7,.l TWr l8,.n n9,.l TRec l10]).sel=some ((0,[.n n0,.n n1,.n n2,.n n3,.b b4,.n n5,.b b6,.l TBk l7,.l TWr l8,.n n9,.l TRec l10])):=sP [1]<|sL
def R_p2_8:LSh:={K:=4,log:=[0],ins:=[(sh 58 [(0,.ptr 0 0),(3,.ptr 4 0),(4,.ptr 5 0)],[logB 0 1 (.own 6),dkB 2 3 3,.arr TBk 7,.arr TWr 8,.cells [.int .i64 9],.cells [.own 7],.arr TBs 10,.arr TRec 11])],nils:=[],outs:=[(.exit 2,sh 58 [(0,.ptr 0 0),(3,.ptr 4 0)],[logB 0 1 (.own 5),dkB 2 3 3,.arr TBk 7,.arr TWr 8,.cells [.int .i64 9],.arr TBs 10])],cv:=[(0,[],3,.own TBs)]}
def l3e:List Dat→Tree Step:=evL i3m 39 8 ls0 R_p2_8
theorem a4m: ∃op,IsL l3e 39 8 R_p2_8 op:=bxL h3h (LsOk.none _ _ _)
def q3f:OpA:=opL a4m
theorem b4p (env:List Dat):q3f env=a0b l3e FU env:=h3y a4m env
abbrev h4u:MBox:=boxL a4m
theorem c4w {n0 n1 n2 n3:Int}{b4:Bool}{n5:Int}{b6:Bool}{l7:List (Ty.den TBk)}{l8:List (Ty.den TWr)}{n9:Int}{l10:List (Ty.den TBs)}{l11:List (Ty.den TRec)}(h0:((↑(List.length l10):Int)<imax (IntKind.wrap .i64 ((↑(List.length l7):Int)-(2:Int))) (0:Int)))(h1:(inR (Int.tmod (IntKind.wrap .i64 (IntKind.wrap .i64 (n1+(↑(List.length l10):Int))-(1:Int))) (imax (IntKind.wrap .i64 ((↑(List.length l7):Int)-(2:Int))) (0:Int))) (List.length l11)=true))(h2:(¬(Prod.fst (List.getD l11 (Int.toNat (Int.tmod (IntKind.wrap .i64 (IntKind.wrap .i64 (n1+(↑(List.length l10):Int))-(1:Int))) (imax (IntKind.wrap .i64 ((↑(List.length l7):Int)-(2:Int))) (0:Int)))) (Ty.dflt TRec)):Int)=IntKind.wrap .i64 (n1+(↑(List.length l10):Int)))):(l3e [.k 0,.n n0,.n n1,.n n2,.n n3,.b b4,.n n5,.b b6,.l TBk l7,.l TWr l8,.n n9,.l TBs l10,.l TRec l11]).sel=some (Step.stop 0 [.n n0,.n n1,.n n2,.n n3,.b b4,.n n5,.b b6,.l TBk l7,.l TWr l8,.n n9,.l TBs l10]):=sP [1,1,0,1,0,1,1,1]<|sT (dt h0)<|sP [1,0,1,1,1,1,0,1,0,1,1]<|sTo (c:=(!decide (imax (IntKind.wrap .i64 ((↑(List.length l7):Int)-(2:Int))) (0:Int)=(0:Int))))<|sP [1]<|sT h1<|sP [1,1,0,1,1,1]<|sT (bnt h2)<|sP [1]<|sL
theorem e4j {n0 n1 n2 n3:Int}{b4:Bool}{n5:Int}{b6:Bool}{l7:List (Ty.den TBk)}{l8:List (Ty.den TWr)}{n9:Int}{l10:List (Ty.den TBs)}{l11:List (Ty.den TRec)}(h0:((↑(List.length l10):Int)<imax (IntKind.wrap .i64 ((↑(List.length l7):Int)-(2:Int))) (0:Int)))(h1:(inR (Int.tmod (IntKind.wrap .i64 (IntKind.wrap .i64 (n1+(↑(List.length l10):Int))-(1:Int))) (imax (IntKind.wrap .i64 ((↑(List.length l7):Int)-(2:Int))) (0:Int))) (List.length l11)=true))(h2:((Prod.fst (List.getD l11 (Int.toNat (Int.tmod (IntKind.wrap .i64 (IntKind.wrap .i64 (n1+(↑(List.length l10):Int))-(1:Int))) (imax (IntKind.wrap .i64 ((↑(List.length l7):Int)-(2:Int))) (0:Int)))) (Ty.dflt TRec)):Int)=IntKind.wrap .i64 (n1+(↑(List.length l10):Int))))(h3:((List.length l10+1)*24≤140737488355328)):(l3e [.k 0,.n n0,.n n1,.n n2,.n n3,.b b4,.n n5,.b b6,.l TBk l7,.l TWr l8,.n n9,.l TBs l10,.l TRec l11]).sel=some (Step.go [.k 0,.n n0,.n n1,.n n2,.n n3,.b b4,.n n5,.b b6,.l TBk l7,.l TWr l8,.n n9,.l TBs (apL l10 [Prod.snd (List.getD l11 (Int.toNat (Int.tmod (IntKind.wrap .i64 (IntKind.wrap .i64 (n1+(↑(List.length l10):Int))-(1:Int))) (imax (IntKind.wrap .i64 ((↑(List.length l7):Int)-(2:Int))) (0:Int)))) (Ty.dflt TRec))]),.l TRec l11]):=sP [1,1,0,1,0,1,1,1]<|sT (dt h0)<|sP [1,0,1,1,1,1,0,1,0,1,1]<|sTo (c:=(!decide (imax (IntKind.wrap .i64 ((↑(List.length l7):Int)-(2:Int))) (0:Int)=(0:Int))))<|sP [1]<|sT h1<|sP [1,1,0,1,1,1]<|sF (bnf h2)<|sT (dt h3)<|sP [1,1]<|sL
theorem c4f {n0 n1 n2 n3:Int}{b4:Bool}{n5:Int}{b6:Bool}{l7:List (Ty.den TBk)}{l8:List (Ty.den TWr)}{n9:Int}{l10:List (Ty.den TBs)}{l11:List (Ty.den TRec)}(h0:(¬(↑(List.length l10):Int)<imax (IntKind.wrap .i64 ((↑(List.length l7):Int)-(2:Int))) (0:Int))):(l3e [.k 0,.n n0,.n n1,.n n2,.n n3,.b b4,.n n5,.b b6,.l TBk l7,.l TWr l8,.n n9,.l TBs l10,.l TRec l11]).sel=some (Step.stop 0 [.n n0,.n n1,.n n2,.n n3,.b b4,.n n5,.b b6,.l TBk l7,.l TWr l8,.n n9,.l TBs l10]):=sP [1,1,0,1,0,1,1,1]<|sF (df h0)<|sP [1]<|sL
def c_p2:Code:=(atC [1,1,1,1] (a0r Try.prog 39))
def P_p2:PSh:={K:=4,log:=[0],t:=sh 58 [(0,.ptr 0 0),(3,.ptr 4 0),(4,.ptr 5 0)],blks:=[logB 0 1 .nilsl,dkB 2 3 3,.arr TBk 7,.arr TWr 8,.cells [.int .i64 9],.cells [.own 6],.arr TRec 10],outs:=[(.ret,sh 58 [(2,.int .i64 0)],[logB 1 1 (.own 4),dkB 2 3 4,.arr TBk 8,.arr TWr 9,.arr TBs 10])]}
def ev_p2:List Dat→Tree (Nat×List Dat):=evPc i3m c_p2 (lsM [(8,h4u)] 4) P_p2
theorem t4r:LsOk Try.prog 4 (lsM [(8,h4u)] 4) c_p2:=(lsE (lsC (h3n a4m) (by kernel_rfl) lsZ))
theorem r4x {n0 n1 n2 n3:Int}{b4:Bool}{n5:Int}{b6:Bool}{l7:List (Ty.den TBk)}{l8:List (Ty.den TWr)}{n9:Int}{l10:List (Ty.den TRec)}{n11 n12 n13 n14:Int}{b15:Bool}{n16:Int}{b17:Bool}{l18:List (Ty.den TBk)}{l19:List (Ty.den TWr)}{n20:Int}{l21:List (Ty.den TBs)}(h0:(q3f [.k 0,.n n0,.n n1,.n n2,.n n3,.b b4,.n n5,.b b6,.l TBk l7,.l TWr l8,.n n9,.l TBs [],.l TRec l10])=(some (0,[.n n11,.n n12,.n n13,.n n14,.b b15,.n n16,.b b17,.l TBk l18,.l TWr l19,.n n20,.l TBs l21])))(h1:(n20>IntKind.wrap .i64 (n12+(↑(List.length l21):Int)))):(ev_p2 [.n n0,.n n1,.n n2,.n n3,.b b4,.n n5,.b b6,.l TBk l7,.l TWr l8,.n n9,.l TRec l10]).sel=some ((0,[.n (151:Int),.n n11,.n n12,.n n13,.n n14,.b b15,.n n16,.b b17,.l TBk l18,.l TWr l19,.l TBs l21])):=sA h0<|sP [1,1,0,1,1,1]<|sT (dt h1)<|sP [1]<|sL
theorem u4c {n0 n1 n2 n3:Int}{b4:Bool}{n5:Int}{b6:Bool}{l7:List (Ty.den TBk)}{l8:List (Ty.den TWr)}{n9:Int}{l10:List (Ty.den TRec)}{n11 n12 n13 n14:Int}{b15:Bool}{n16:Int}{b17:Bool}{l18:List (Ty.den TBk)}{l19:List (Ty.den TWr)}{n20:Int}{l21:List (Ty.den TBs)}(h0:(q3f [.k 0,.n n0,.n n1,.n n2,.n n3,.b b4,.n n5,.b b6,.l TBk l7,.l TWr l8,.n n9,.l TBs [],.l TRec l10])=(some (0,[.n n11,.n n12,.n n13,.n n14,.b b15,.n n16,.b b17,.l TBk l18,.l TWr l19,.n n20,.l TBs l21])))(h1:(¬n20>IntKind.wrap .i64 (n12+(↑(List.length l21):Int)))):(ev_p2 [.n n0,.n n1,.n n2,.n n3,.b b4,.n n5,.b b6,.l TBk l7,.l TWr l8,.n n9,.l TRec l10]).sel=some ((0,[.n (0:Int),.n n11,.n n12,.n n13,.n n14,.b b15,.n n16,.b b17,.l TBk l18,.l TWr l19,.l TBs l21])):=sA h0<|sP [1,1,0,1,1,1]<|sF (df h1)<|sP [1]<|sL
def c_p3:Code:=(atC [1,1,1,0,1,0,0] (a0r Try.prog 39))
def P_p3:PSh:={K:=7,log:=[],t:=sh 58 [(0,.ptr 0 0),(3,.ptr 4 0),(4,.ptr 5 0),(13,.int .i64 0),(14,.agg [.int .i64 1,.own 8])],blks:=[logB 2 1 .nilsl,dkB 2 3 5,.arr TBk 9,.arr TWr 10,.cells [.int .i64 11],.cells [.own 6],.arr TRec 12,.cells [.int .i64 13,.own 8],.arr TB 14],outs:=[(.normal,sh 58 [(0,.ptr 0 0),(3,.ptr 4 0),(4,.ptr 5 0),(5,.int .i64 0),(6,.ptr 7 0)],[logB 1 1 .nilsl,dkB 2 3 4,.arr TBk 8,.arr TWr 9,.cells [.int .i64 10],.cells [.own 6],.arr TRec 11,.cells [.int .i64 12,.own 8],.arr TB 13])]}
def ev_p3:List Dat→Tree (Nat×List Dat):=evRd k3w c_p3 P_p3
theorem t4l {n0 n1 n2 n3 n4 n5:Int}{b6:Bool}{n7:Int}{b8:Bool}{l9:List (Ty.den TBk)}{l10:List (Ty.den TWr)}{n11:Int}{l12:List (Ty.den TRec)}{n13:Int}{l14:List (Ty.den TB)}:(ev_p3 [.n n0,.n n1,.n n2,.n n3,.n n4,.n n5,.b b6,.n n7,.b b8,.l TBk l9,.l TWr l10,.n n11,.l TRec l12,.n n13,.l TB l14]).sel=some ((0,[.n n0,.n n2,.n n3,.n n4,.n n5,.b b6,.n n7,.b b8,.l TBk l9,.l TWr l10,.n n11,.l TRec l12,.n n1,.l TB l14])):=sP [1]<|sL
def c_p4:Code:=(atC [1,1,1,0,1,0,1] (a0r Try.prog 39))
def P_p4:PSh:={K:=7,log:=[4,6],t:=sh 58 [(0,.ptr 0 0),(3,.ptr 4 0),(4,.ptr 5 0),(5,.int .i64 0),(6,.ptr 7 0)],blks:=[logB 1 1 .nilsl,dkB 2 3 4,.arr TBk 8,.arr TWr 9,.cells [.int .i64 10],.cells [.own 6],.arr TRec 11,.cells [.int .i64 12,.own 8],.arr TB 13],outs:=[(.normal,sh 58 [],[logB 0 1 .nilsl,dkB 2 3 3,.arr TBk 7,.arr TWr 8,.cells [.int .i64 9],.cells [.own 6],.arr TRec 10])]}
def ev_p4:List Dat→Tree (Nat×List Dat):=evRd k3w c_p4 P_p4
theorem q4m {n0 n1 n2 n3 n4:Int}{b5:Bool}{n6:Int}{b7:Bool}{l8:List (Ty.den TBk)}{l9:List (Ty.den TWr)}{n10:Int}{l11:List (Ty.den TRec)}{n12:Int}{l13:List (Ty.den TB)}(g0:0≤n0)(g1:n0<(l11.length:Int)):(ev_p4 [.n n0,.n n1,.n n2,.n n3,.n n4,.b b5,.n n6,.b b7,.l TBk l8,.l TWr l9,.n n10,.l TRec l11,.n n12,.l TB l13]).sel=some ((0,[.n n1,.n n2,.n n3,.n n4,.b b5,.n n6,.b b7,.l TBk l8,.l TWr l9,.n (imax n10 n12),.l TRec (List.set l11 (Int.toNat n0) (n12,l13))])):=sTo (c:=(inR n0 (List.length l11)))<|sP [1]<|sL
def c_p5:Code:=(atC [0] (a0r Try.prog 72))
def P_p5:PSh:={K:=7,log:=[],t:=sh 39 [(0,.ptr 0 0)],blks:=[logB 0 1 .nilsl,dkB 2 3 3,.arr TBk 7,.arr TWr 8,.cells [.int .i64 9],.cells [.own 6],.arr TRec 10],outs:=[(.normal,sh 39 [(0,.ptr 0 0),(10,.int .i64 0),(11,.int .i64 1)],[logB 2 1 .nilsl,dkB 2 3 5,.arr TBk 9,.arr TWr 10,.cells [.int .i64 11],.cells [.own 6],.arr TRec 12])]}
def ev_p5:List Dat→Tree (Nat×List Dat):=evRg i3m c_p5 P_p5
theorem q4f {n0 n1 n2 n3:Int}{b4:Bool}{n5:Int}{b6:Bool}{l7:List (Ty.den TBk)}{l8:List (Ty.den TWr)}{n9:Int}{l10:List (Ty.den TRec)}:(ev_p5 [.n n0,.n n1,.n n2,.n n3,.b b4,.n n5,.b b6,.l TBk l7,.l TWr l8,.n n9,.l TRec l10]).sel=some ((0,[.n (imax (IntKind.wrap .i64 ((↑(List.length l7):Int)-(2:Int))) (0:Int)),.n (0:Int),.n n0,.n n1,.n n2,.n n3,.b b4,.n n5,.b b6,.l TBk l7,.l TWr l8,.n n9,.l TRec l10])):=sP [1,0,1,0,1,1,1]<|sL
def c_p6:Code:=(atC [1,0,0,0] (a0r Try.prog 72))
def P_p6:PSh:={K:=7,log:=[],t:=sh 39 [(0,.ptr 0 0),(10,.int .i64 0),(11,.int .i64 1)],blks:=[logB 2 1 .nilsl,dkB 2 3 5,.arr TBk 9,.arr TWr 10,.cells [.int .i64 11],.cells [.own 6],.arr TRec 12],outs:=[(.normal,sh 39 [(0,.ptr 0 0),(10,.int .i64 0),(11,.int .i64 1),(12,.bool 2)],[logB 3 1 .nilsl,dkB 2 3 6,.arr TBk 10,.arr TWr 11,.cells [.int .i64 12],.cells [.own 6],.arr TRec 13])]}
def ev_p6:List Dat→Tree (Nat×List Dat):=evRg i3m c_p6 P_p6
theorem t4i {n0 n1 n2 n3 n4 n5:Int}{b6:Bool}{n7:Int}{b8:Bool}{l9:List (Ty.den TBk)}{l10:List (Ty.den TWr)}{n11:Int}{l12:List (Ty.den TRec)}:(ev_p6 [.n n0,.n n1,.n n2,.n n3,.n n4,.n n5,.b b6,.n n7,.b b8,.l TBk l9,.l TWr l10,.n n11,.l TRec l12]).sel=some ((0,[.n n0,.n n1,.b (decide (n1<n0)),.n n2,.n n3,.n n4,.n n5,.b b6,.n n7,.b b8,.l TBk l9,.l TWr l10,.n n11,.l TRec l12])):=sP [1]<|sL
def j4p:Code:=(atC [1,0,0,1,1,0,0,0] (a0r Try.prog 72))
def P_p7a:PSh:={K:=7,log:=[],t:=sh 39 [(0,.ptr 0 0),(10,.int .i64 0),(11,.int .i64 1)],blks:=[logB 2 1 .nilsl,dkB 2 3 5,.arr TBk 9,.arr TWr 10,.cells [.int .i64 11],.cells [.own 6],.arr TRec 12],outs:=[(.normal,sh 39 [(0,.ptr 0 0),(4,.int .i64 0),(10,.int .i64 1),(11,.int .i64 2)],[logB 3 1 .nilsl,dkB 2 3 6,.arr TBk 10,.arr TWr 11,.cells [.int .i64 12],.cells [.own 6],.arr TRec 13])]}
def ev_p7a:List Dat→Tree (Nat×List Dat):=evRg i3m j4p P_p7a
theorem l4t {n0 n1 n2 n3 n4 n5:Int}{b6:Bool}{n7:Int}{b8:Bool}{l9:List (Ty.den TBk)}{l10:List (Ty.den TWr)}{n11:Int}{l12:List (Ty.den TRec)}:(ev_p7a [.n n0,.n n1,.n n2,.n n3,.n n4,.n n5,.b b6,.n n7,.b b8,.l TBk l9,.l TWr l10,.n n11,.l TRec l12]).sel=some ((0,[.n n1,.n n0,.n n1,.n n2,.n n3,.n n4,.n n5,.b b6,.n n7,.b b8,.l TBk l9,.l TWr l10,.n n11,.l TRec l12])):=sP [1]<|sL
def m4n:Code:=(atC [1,0,0,1,1,0,0,1,0] (a0r Try.prog 72))
def P_p7b:PSh:={K:=7,log:=[],t:=sh 39 [(0,.ptr 0 0),(4,.int .i64 0),(10,.int .i64 1),(11,.int .i64 2)],blks:=[logB 3 1 .nilsl,dkB 2 3 6,.arr TBk 10,.arr TWr 11,.cells [.int .i64 12],.cells [.own 6],.arr TRec 13],outs:=[(.normal,sh 39 [(0,.ptr 0 0),(4,.int .i64 0),(5,.asl 7 0 256),(10,.int .i64 1),(11,.int .i64 2)],[logB 3 1 .nilsl,dkB 2 3 6,.arr TBk 10,.arr TWr 11,.cells [.int .i64 12],.cells [.own 6],.arr TRec 13,bkB 14])]}
def ev_p7b:List Dat→Tree (Nat×List Dat):=evRg i3m m4n P_p7b
theorem k4n {n0 n1 n2 n3 n4 n5 n6:Int}{b7:Bool}{n8:Int}{b9:Bool}{l10:List (Ty.den TBk)}{l11:List (Ty.den TWr)}{n12:Int}{l13:List (Ty.den TRec)}{n14 n15:Int}{b16:Bool}{n17:Int}{b18:Bool}{l19:List (Ty.den TBk)}{l20:List (Ty.den TWr)}{l21:List (Ty.den TB)}(h0:(i3b [.n (IntKind.wrap .i64 ((2:Int)+n0)),.n n6,.b b7,.n n8,.b b9,.l TBk l10,.l TWr l11])=(some (1,[.n n14,.n n15,.b b16,.n n17,.b b18,.l TBk l19,.l TWr l20,.l TB l21]))):(ev_p7b [.n n0,.n n1,.n n2,.n n3,.n n4,.n n5,.n n6,.b b7,.n n8,.b b9,.l TBk l10,.l TWr l11,.n n12,.l TRec l13]).sel=some ((0,[.n n0,.n n1,.n n2,.n n3,.n n4,.n n5,.n n6,.b b7,.n n8,.b b9,.l TBk l10,.l TWr l11,.n n12,.l TRec l13,.l TB l21])):=sP [1]<|sA h0<|sP [0,1,1,1]<|sL
def f4k:Code:=(atC [1,0,0,1,1,0,0,1,1,0] (a0r Try.prog 72))
def P_p7c:PSh:={K:=7,log:=[],t:=sh 39 [(0,.ptr 0 0),(4,.int .i64 0),(5,.asl 7 0 256),(10,.int .i64 1),(11,.int .i64 2)],blks:=[logB 3 1 .nilsl,dkB 2 3 6,.arr TBk 10,.arr TWr 11,.cells [.int .i64 12],.cells [.own 6],.arr TRec 13,bkB 14],outs:=[(.normal,sh 39 [(0,.ptr 0 0),(4,.int .i64 0),(7,.ptr 7 0),(8,.bool 1),(10,.int .i64 2),(11,.int .i64 3)],[logB 4 1 .nilsl,dkB 2 3 7,.arr TBk 11,.arr TWr 12,.cells [.int .i64 13],.cells [.own 6],.arr TRec 14,.cells [.int .i64 15,.own 8],.arr TB 16]),(.normal,sh 39 [(0,.ptr 0 0),(4,.int .i64 0),(7,.ptr 7 0),(8,.bool 1),(10,.int .i64 2),(11,.int .i64 3)],[logB 4 1 .nilsl,dkB 2 3 7,.arr TBk 11,.arr TWr 12,.cells [.int .i64 13],.cells [.own 6],.arr TRec 14,.cells [.int .i64 15,.nilsl]])]}
def o4n:List Dat→Tree (Nat×List Dat):=evRg i3m f4k P_p7c
theorem l4m {n0 n1 n2 n3 n4 n5 n6:Int}{b7:Bool}{n8:Int}{b9:Bool}{l10:List (Ty.den TBk)}{l11:List (Ty.den TWr)}{n12:Int}{l13:List (Ty.den TRec)}{l14 l15:List (Ty.den TB)}(h0:(h3q [.l TB l14])=(some (0,[.l TB l15]))):(o4n [.n n0,.n n1,.n n2,.n n3,.n n4,.n n5,.n n6,.b b7,.n n8,.b b9,.l TBk l10,.l TWr l11,.n n12,.l TRec l13,.l TB l14]).sel=some ((1,[.n n0,.b false,.n n1,.n n2,.n n3,.n n4,.n n5,.n n6,.b b7,.n n8,.b b9,.l TBk l10,.l TWr l11,.n n12,.l TRec l13,.n (0:Int)])):=sP [1]<|sA h0<|sP [1,1,1]<|sL
theorem h4h {n0 n1 n2 n3 n4 n5 n6:Int}{b7:Bool}{n8:Int}{b9:Bool}{l10:List (Ty.den TBk)}{l11:List (Ty.den TWr)}{n12:Int}{l13:List (Ty.den TRec)}{l14:List (Ty.den TB)}{n15 n16:Int}{l17:List (Ty.den TB)}(h0:(h3q [.l TB l14])=(some (1,[.n n15,.n n16,.l TB l17]))):(o4n [.n n0,.n n1,.n n2,.n n3,.n n4,.n n5,.n n6,.b b7,.n n8,.b b9,.l TBk l10,.l TWr l11,.n n12,.l TRec l13,.l TB l14]).sel=some ((1,[.n n0,.b false,.n n1,.n n2,.n n3,.n n4,.n n5,.n n6,.b b7,.n n8,.b b9,.l TBk l10,.l TWr l11,.n n12,.l TRec l13,.n (0:Int)])):=sP [1]<|sA h0<|sP [0,1,1,1]<|sL
theorem o4k {n0 n1 n2 n3 n4 n5 n6:Int}{b7:Bool}{n8:Int}{b9:Bool}{l10:List (Ty.den TBk)}{l11:List (Ty.den TWr)}{n12:Int}{l13:List (Ty.den TRec)}{l14:List (Ty.den TB)}{n15:Int}{l16 l17:List (Ty.den TB)}(h0:(h3q [.l TB l14])=(some (2,[.n n15,.l TB l16,.l TB l17]))):(o4n [.n n0,.n n1,.n n2,.n n3,.n n4,.n n5,.n n6,.b b7,.n n8,.b b9,.l TBk l10,.l TWr l11,.n n12,.l TRec l13,.l TB l14]).sel=some ((0,[.n n0,.b true,.n n1,.n n2,.n n3,.n n4,.n n5,.n n6,.b b7,.n n8,.b b9,.l TBk l10,.l TWr l11,.n n12,.l TRec l13,.n n15,.l TB l17])):=sP [1]<|sA h0<|sP [0,0,1,1,1]<|sL
def c_p8:Code:=(atC [1,0,0,1,1,0,0,1,1,1,0] (a0r Try.prog 72))
def P_p8:PSh:={K:=7,log:=[],t:=sh 39 [(0,.ptr 0 0),(4,.int .i64 0),(7,.ptr 7 0),(8,.bool 1),(10,.int .i64 2),(11,.int .i64 3)],blks:=[logB 4 1 .nilsl,dkB 2 3 7,.arr TBk 11,.arr TWr 12,.cells [.int .i64 13],.cells [.own 6],.arr TRec 14,.cells [.int .i64 15,.nilsl]],outs:=[(.normal,sh 39 [(0,.ptr 0 0),(10,.int .i64 0),(11,.int .i64 1),(37,.bool 2)],[logB 3 1 .nilsl,dkB 2 3 6,.arr TBk 10,.arr TWr 11,.cells [.int .i64 12],.cells [.own 6],.arr TRec 13])]}
def ev_p8:List Dat→Tree (Nat×List Dat):=evRd k3w c_p8 P_p8
theorem r4g {n0:Int}{b1:Bool}{n2 n3 n4 n5 n6 n7:Int}{b8:Bool}{n9:Int}{b10:Bool}{l11:List (Ty.den TBk)}{l12:List (Ty.den TWr)}{n13:Int}{l14:List (Ty.den TRec)}{n15:Int}(g0:b1=false):(ev_p8 [.n n0,.b b1,.n n2,.n n3,.n n4,.n n5,.n n6,.n n7,.b b8,.n n9,.b b10,.l TBk l11,.l TWr l12,.n n13,.l TRec l14,.n n15]).sel=some ((0,[.n n2,.n n3,.b false,.n n4,.n n5,.n n6,.n n7,.b b8,.n n9,.b b10,.l TBk l11,.l TWr l12,.n n13,.l TRec l14])):=sFs (c:=(b1))<|sP [0,1]<|sL
def c_p9:Code:=(atC [1,0,0,1,1,1] (a0r Try.prog 72))
def P_p9:PSh:={K:=7,log:=[],t:=sh 39 [(0,.ptr 0 0),(10,.int .i64 0),(11,.int .i64 1)],blks:=[logB 2 1 .nilsl,dkB 2 3 5,.arr TBk 9,.arr TWr 10,.cells [.int .i64 11],.cells [.own 6],.arr TRec 12],outs:=[(.normal,sh 39 [(0,.ptr 0 0),(10,.int .i64 0),(11,.int .i64 1)],[logB 2 1 .nilsl,dkB 2 3 5,.arr TBk 9,.arr TWr 10,.cells [.int .i64 11],.cells [.own 6],.arr TRec 12])]}
def ev_p9:List Dat→Tree (Nat×List Dat):=evRd k3w c_p9 P_p9
theorem u4u {n0 n1 n2 n3 n4 n5:Int}{b6:Bool}{n7:Int}{b8:Bool}{l9:List (Ty.den TBk)}{l10:List (Ty.den TWr)}{n11:Int}{l12:List (Ty.den TRec)}:(ev_p9 [.n n0,.n n1,.n n2,.n n3,.n n4,.n n5,.b b6,.n n7,.b b8,.l TBk l9,.l TWr l10,.n n11,.l TRec l12]).sel=some ((0,[.n n0,.n (IntKind.wrap .i64 (n1+(1:Int))),.n n2,.n n3,.n n4,.n n5,.b b6,.n n7,.b b8,.l TBk l9,.l TWr l10,.n n11,.l TRec l12])):=sP [1]<|sL
abbrev LRc:=List (Ty.den TRec)
abbrev LBs:=List (Ty.den TBs)
def bkOf (s:DS)(i:Nat):List Int:=((k3t s (i:Int)).1).getD []
def mkR (k:Int)(b:List Int):Ty.den TRec:=(k,b)
def rkI (x:Ty.den TRec):Int:=Prod.fst x
def rkB (x:Ty.den TRec):List Int:=Prod.snd x
def zR:Ty.den TRec:=Ty.dflt TRec
def room (s:DS):Nat:=s.K.length-2
def fndN (s:DS):Nat→LRc×Int
 |0=>(List.replicate (room s) zR,0)
 |p+1=>match tR (bkOf s (2+p))with
  |some x=>((fndN s p).1.set p (mkR x.1 x.2),imax (fndN s p).2 x.1)
  |none=>fndN s p
theorem m3a (s:DS): ∀p,(fndN s p).1.length=room s
 |0=>List.length_replicate ..
 |p+1=>by
  unfold fndN
  split
  ·rw[List.length_set];exact m3a s p
  ·exact m3a s p
def plc (s:DS)(k:Int):Nat:=((k-1)% (room s:Int)).toNat
def recN (s:DS)(first:Int):Nat→LBs→LBs
 |0,R=>R
 |f+1,R=>match tR (bkOf s (2+plc s (first+R.length)))with
  |some x=>if x.1=first+R.length then recN s first f (apL R [x.2])else R
  |none=>R
def k3r (s:DS):Int:=(fndN s (room s)).2
def recS (s:DS)(first:Int):LBs:=recN s first (room s) []
def frE (s:DS)(first:Int):Int:=if k3r s>first+(recS s first).length then 151 else 0
section
variable {s:DS} (hs:DH s) (ho:s.o=false)
include hs ho
theorem h3t {i:Nat}(hi:i<s.K.length):k3t s (i:Int)=(some (bkOf s i),0)∧Wb (bkOf s i)∧(bkOf s i).length=256:=by
 have e: ∃b,k3t s (i:Int)=(some b,0):=by
  unfold k3t
  rw[ho,if_neg (by decide),if_pos ⟨by omega,by omega⟩]
  exact⟨_,rfl⟩
 obtain⟨b,hb⟩:=e
 have h1:bkOf s i=b:=by unfold bkOf;rw[hb];rfl
 have h2:=r4c s hs (i:Int) (b:=b) (by rw[hb])
 rw[h1]
 exact⟨hb,h2⟩
end
section
variable {r r':RM} {σ σ':Snap} {w w1 w2:World}
theorem FrameK.down {K K':Nat}{log log':List Nat}(h:FrameK K log r r' σ σ' w w1)(hK:K'≤K)(hl: ∀b,b∈log→b∈log'∨K'≤b):FrameK K' log' r r' σ σ' w w1:=by
 have up: ∀{b},b∈log∨K≤b→b∈log'∨K'≤b:=fun{b} e=>e.elim (hl b) fun q=>.inr (by omega)
 refine⟨h.os,h.tape,h.output,h.size,h.ls,fun b j hj=> ?_,fun j hj hn=>h.keep j hj fun b hb=>hn b (up hb),fun b hb hm=>h.same b (by omega) fun e=>(hl b e).elim hm fun q=>by omega,fun b x hb e=>h.cel b x (by omega) e,fun b x hb e=>h.mp b x (by omega) e,fun j c hj=> ?_⟩
 ·rcases h.fresh b j hj with⟨q1,q2⟩|⟨q1,b',q2,q3⟩|q
  ·rcases Nat.lt_or_ge b K' with u|u
   ·exact .inl ⟨u,q2⟩
   ·exact .inr (.inl ⟨u,b,u,q2⟩)
  ·exact .inr (.inl ⟨by omega,b',by omega,q3⟩)
  ·exact .inr (.inr q)
 ·rcases h.stay j c hj with q|q|⟨b,q1,q2⟩
  ·exact .inl q
  ·exact .inr (.inl q)
  ·exact .inr (.inr ⟨b,up q1,q2⟩)
theorem FrameK.later {K:Nat}{log:List Nat}(h:FrameK K log r r' σ σ' w w1)(e1:w2.os=w1.os)(e2:w2.tape=w1.tape)(e3:w2.output=w1.output)(hs:w1.heap.size≤w2.heap.size)(hk: ∀j,j<w.heap.size→w2.heap[j]? =w1.heap[j]?):FrameK K log r r' σ σ' w w2:=
 ⟨e1.trans h.os,e2.trans h.tape,e3.trans h.output,Nat.le_trans h.size hs,h.ls,h.fresh,fun j hj hn=>(hk j hj).trans (h.keep j hj hn),h.same,h.cel,h.mp,h.stay⟩
theorem FrameK.put {K:Nat}{log:List Nat}(h:FrameK K log r r' σ σ' w w1){j:Nat}(hj:w.heap.size≤j)(o:Obj):FrameK K log r r' σ σ' w (w1.putObj j o):=
 h.later rfl rfl rfl (by simp) fun k hk=>World.putObj_heap_other (by omega)
def NA (r:RM)(w:World)(j:Nat):Prop:=j<w.heap.size∧ ∀b,¬r.at b j
theorem NA.step {K:Nat}{log:List Nat}{j:Nat}(h:NA r w j)(k:FrameK K log r r' σ σ' w w1):NA r' w1 j∧w1.heap[j]? =w.heap[j]? :=by
 refine⟨⟨Nat.lt_of_lt_of_le h.1 k.size,fun b hb=> ?_⟩,k.keep j h.1 fun b _=>h.2 b⟩
 rcases k.fresh b j hb with⟨_,q⟩|⟨_,b',_,q⟩|q
 ·exact h.2 b q
 ·exact h.2 b' q
 ·have:=h.1;omega
theorem NA.put {j k:Nat}{o:Obj}(h:NA r w j):NA r (w.putObj k o) j:=⟨by simpa using h.1,h.2⟩
end
def isDead:SV→Bool
 |.dead=>true
 |_=>false
def p3r:List SV→List Nat→Nat→Bool
 |[],_,_=>true
 |v::l,is,i=>(isDead v||is.contains i)&&p3r l is (i+1)
theorem u3a: ∀{l:List SV} {is:List Nat} {i:Nat},p3r l is i=true→ ∀k v,l[k]? =some v→v=.dead∨(i+k)∈is
 |[],is,i,h,k,v,e=>by simp at e
 |x::l,is,i,h,k,v,e=>by
  simp only[p3r,Bool.and_eq_true,Bool.or_eq_true]at h
  cases k with
  |zero=>
   simp only[List.getElem?_cons_zero,Option.some.injEq]at e
   subst e
   rcases h.1 with q|q
   ·left;cases x<;>simp[isDead]at q⊢
   ·right;simpa using q
  |succ k=>
   rcases u3a h.2 k v (by simpa using e)with q|q
   ·exact .inl q
   ·right;rw[show i+(k+1)=i+1+k by omega];exact q
theorem LRel.only {r:RM}{σ:Snap}{l:List SV}{T:Array Value}(is:List Nat)(hs:l.length=T.size)(ho:p3r l is 0=true)(h: ∀i,i∈is→ ∀v v',l[i]? =some v→T[i]? =some v'→VRel r σ v v'):LRel r σ l T:=by
 refine⟨hs,fun i v v' e e'=> ?_⟩
 rcases u3a ho i v e with q|q
 ·subst q;exact .dead _
 ·exact h i (by simpa using q) v v' e e'
end Go.Proofs.Ytoehlcomhpnjgaa.Vx
end
noncomputable section
namespace Go.Proofs.Ytoehlcomhpnjgaa.Vx
open Go Go.RowKit
set_option linter.unusedVariables false
set_option linter.unusedSimpArgs false
set_option maxRecDepth 100000
set_option maxHeartbeats 4000000
attribute [local go_sem] Oper.semAt_some
def fn39:Func:=(Try.prog.funcs[39]?).getD default
def fn72:Func:=(Try.prog.funcs[72]?).getD default
theorem f39:Try.prog.funcs[39]? =some fn39:=by kernel_rfl
theorem f72:Try.prog.funcs[72]? =some fn72:=by kernel_rfl
theorem b39:fn39.body=some (.seq c_p10 (.seq c_p11 (.seq c_p12 (.seq (.seq c_p13 (.block 0 (.rangeFunc (.tmp 12) #[13,14] c_p3 c_p4))) c_p2)))):=by kernel_rfl
theorem b72:fn72.body=some (.seq c_p5 (.block 0 (.loop (.seq c_p6 (.seq (.cond (.tmp 12) .skip (.exit 0)) (.seq (.block 1 (.seq j4p (.seq m4n (.seq f4k (.seq c_p8 (.cond (.tmp 37) .ret .skip)))))) c_p9)))))):=by kernel_rfl
theorem n39:fn39.ntmps=58:=by kernel_rfl
theorem n72:fn72.ntmps=39:=by kernel_rfl
theorem s39:fn39.results= #[.tmp 2]:=by kernel_rfl
theorem s72:fn72.results= #[]:=by kernel_rfl
theorem mayW {cs:FuncId→Option a0q}(h:CsOk Try.prog cs):l3a Try.prog Fence.wide (clMd false Try.prog cs):=⟨fun _=>trivial,.inr ⟨rfl,c1t h y3b false⟩⟩
theorem mayN {F:Fence}(h: ∀f,F.fn f):l3a Try.prog F k3w:=⟨h,.inl rfl⟩
def ops8:Array Oper:=match c_p8 with
 |.region _ o _=>o
 |_=> #[]
theorem c8: ∃id,c_p8=.region id ops8 false:=⟨5,by kernel_rfl⟩
def isO2:Bool:=match(ops8[2]? :Option Oper)with
 |some ⟨some 32,.move (.tmp 1),_,_,_,some (1,true)⟩=>true
 |_=>false
def isO5:Bool:=match(ops8[5]? :Option Oper)with
 |some ⟨some 35,.call ⟨.value (.tmp 32),a,_⟩,_,_,_,some (1,true)⟩=>match a.toList with
  |[.tmp 33,.tmp 34]=>true
  |_=>false
 |_=>false
theorem o2: ∃a b c,ops8[2]? =some ⟨some 32,.move (.tmp 1),a,b,c,some (1,true)⟩:=by
 have h:isO2=true:=by kernel_rfl
 unfold isO2 at h
 split at h
 ·rename_i a b c e;exact⟨a,b,c,e⟩
 ·cases h
theorem o5: ∃t a b c,ops8[5]? =some ⟨some 35,.call ⟨.value (.tmp 32),#[.tmp 33,.tmp 34],t⟩,a,b,c,some (1,true)⟩:=by
 have h:isO5=true:=by kernel_rfl
 unfold isO5 at h
 split at h
 ·rename_i ar t a b c e
  split at h
  ·rename_i e2
   have:ar= #[.tmp 33,.tmp 34]:=by cases ar;simp at e2;simp[e2]
   subst this
   exact⟨t,a,b,c,e⟩
  ·cases h
 ·cases h
theorem sz8:ops8.size=8:=by kernel_rfl
theorem d1:(ops8[1]?).bind (·.dst)=some 31:=by kernel_rfl
theorem n4s {T:Array Value}{b:Bool}(h:T[31]? =some (.bool b)):yielded ops8 T 1=some b:=by
 have h1:=d1
 cases e:ops8[1]? with
 |none=>rw[e]at h1;cases h1
 |some o=>
  rw[e]at h1
  have h2:o.dst=some 31:=h1
  simp[yielded,e,h2,h]
end Go.Proofs.Ytoehlcomhpnjgaa.Vx
noncomputable section
namespace Go.Proofs.Ytoehlcomhpnjgaa.Vx
open Go Go.RowKit
set_option linter.unusedVariables false
set_option linter.unusedSimpArgs false
set_option maxRecDepth 100000
set_option maxHeartbeats 4000000
attribute [local go_sem] Oper.semAt_some
structure FQ where
 turn:Int
 first:Int
 br:Int
 s:DS
def FQ.e4 (q:FQ):List Dat:=[.n q.turn,.n q.first,.n q.br,.n q.s.n,.b q.s.A,.n q.s.h,.b q.s.o,.l TBk q.s.K,.l TWr q.s.W]
def FQ.e7 (q:FQ)(x:LRc×Int):List Dat:=[.n q.turn,.n q.first,.n q.br,.n q.s.n,.b q.s.A,.n q.s.h,.b q.s.o,.l TBk q.s.K,.l TWr q.s.W,.n x.2,.l TRec x.1]
def B7 (q:FQ)(x:LRc×Int):List Blk:=instBs P_p13.blks (q.e7 x)
def recL (fn:FuncId)(T:Array Value)(D:Nat)(st:LoopState):Loop:={state:=st,pending:=none,fn:=fn,tmps:=T,params:= #[13,14],assign:=c_p3,body:=c_p4,defers:=D}
structure IvR (r0:RM)(σ0:Snap)(w0:World)(L D:Nat)(rec:Loop)(r:RM)(σ:Snap)(W:World):Prop where
 fr:FrameK 7 [4,6] r0 r σ0 σ w0 W
 nl:NA r W L
 nd:NA r W D
 hl:W.heap[L]? =some (.loop rec)
 hd:W.heap[D]? =some (.deferred (some []))
section
variable {r0 r r1:RM} {σ0 σ σ1:Snap} {w0 W w1:World} {L D:Nat} {rec:Loop}
theorem IvR.step (h:IvR r0 σ0 w0 L D rec r σ W){log:List Nat}(k:FrameK 7 log r r1 σ σ1 W w1)(hl: ∀b,b∈log→b∈[4,6]):IvR r0 σ0 w0 L D rec r1 σ1 w1:=by
 obtain⟨a1,a2⟩:=h.nl.step k
 obtain⟨b1,b2⟩:=h.nd.step k
 exact⟨h.fr.trans (k.more fun b hb _=>hl b hb) fun _ h _=>h,a1,b1,a2.trans h.hl,b2.trans h.hd⟩
theorem IvR.put (h:IvR r0 σ0 w0 L D rec r σ W)(hL:w0.heap.size≤L)(hne:D≠L)(rec':Loop):IvR r0 σ0 w0 L D rec' r σ (W.putObj L (.loop rec')):=
 ⟨h.fr.put hL _,h.nl.put,h.nd.put,World.putObj_heap_same h.nl.1,(World.putObj_heap_other hne).trans h.hd⟩
theorem IvR.kr (h:IvR r0 σ0 w0 L D rec r σ W)(rec':Loop):KR W (W.putObj L (.loop rec')):=KR.putObj W L _ _ h.hl rfl rfl
theorem j3p {K:Nat}{log:List Nat}{b o:Nat}{v:Value}(h:VRel r σ (.ptr b o) v)(hb:b<K)(k:FrameK K log r r1 σ σ1 W w1):VRel r1 σ1 (.ptr b o) v:=by
 cases h with
 |ptr _ _ j n e=>exact .ptr b o j n (k.cel b _ hb e)
theorem LRel.int {l:List SV}{T:Array Value}(h:LRel r σ l T){i:Nat}{k:IntKind}{n:Int}(e:l[i]? =some (.int k n)):T[i]? =some (.int k n):=by
 obtain⟨v,h1,h2⟩:=h.get e
 cases h2;exact h1
theorem LRel.bool {l:List SV}{T:Array Value}(h:LRel r σ l T){i:Nat}{b:Bool}(e:l[i]? =some (.bool b)):T[i]? =some (.bool b):=by
 obtain⟨v,h1,h2⟩:=h.get e
 cases h2;exact h1
theorem w3p {T:Array Value}{ds:List Deferred}{i:Nat}{v:Value}(h:T[i]? =some v):(Act.mk T ds).eval (.tmp i)=v:=by
 show T.getD i undef=v
 rw[Array.getD_eq_getD_getElem?,h];rfl
end
def sl39:List PV:=sh 58 [(0,.ptr 0 0),(3,.ptr 4 0),(4,.ptr 5 0)]
section
variable {q:FQ} {r0 r:RM} {σ0 σ:Snap} {w0 W:World} {L D:Nat} {fn:FuncId} {T:Array Value} {x:LRc×Int} {p m:Nat} {k k0:Int} {bs:List Int} {v14:Value}
theorem r4e (hT:LRel r0 σ0 (instL sl39 []) T)(hL:w0.heap.size≤L)(hne:D≠L)(hp:p<x.1.length)
  (hi:IvR r0 σ0 w0 L D (recL fn T D .ready) r σ W) (hr: ∀lg,Rel r σ ⟨B7 q x++[.cells [.int .i64 k0,.own 8 0],.arr TB 0 bs],lg⟩ W) (h14:VRel r σ (.agg [.int .i64 k,.own 8 0]) v14):
  YieldAt Fence.wide m Try.prog L #[.int .i64 (p:Int),v14] W fun e W'=>e=.returned (.bool true)∧ ∃r' σ',(∀lg,Rel r' σ' ⟨B7 q (x.1.set p (mkR k bs),imax x.2 k),lg⟩ W')∧IvR r0 σ0 w0 L D (recL fn T D .ready) r' σ' W':=by
 have hTs:T.size=58:=hT.size.symm
 refine⟨fn,_,c_p3,c_p4,run_yield hi.hl rfl,roundIn_of_wpIn trivial ?_⟩
 obtain⟨T2,hT2⟩: ∃T2,T2=(T.setIfInBounds 13 (.int .i64 (p:Int))).setIfInBounds 14 v14:=⟨_,rfl⟩
 have e0:((recL fn T D .ready).params.zip #[.int .i64 (p:Int),v14]).foldl (fun t (x:Nat×Value)=>t.setIfInBounds x.1 x.2) T=T2:=by
  rw[hT2];simp[recL]
 show c_p3.wpIn _ _ _ _ ⟨((recL fn T D .ready).params.zip #[.int .i64 (p:Int),v14]).foldl (fun t (x:Nat×Value)=>t.setIfInBounds x.1 x.2) T,[]⟩ W
 rw[e0]
 have old: ∀i,i≠13→i≠14→T2[i]? =T[i]? :=fun i h1 h2=>by
  rw[hT2,Array.getElem?_setIfInBounds,if_neg (Ne.symm h2),Array.getElem?_setIfInBounds,if_neg (Ne.symm h1)]
 have i13:T2[13]? =some (.int .i64 (p:Int)):=by
  rw[hT2,Array.getElem?_setIfInBounds,if_neg (by decide),Array.getElem?_setIfInBounds,if_pos rfl,if_pos (by omega)]
 have i14:T2[14]? =some v14:=by
  rw[hT2,Array.getElem?_setIfInBounds,if_pos rfl,if_pos (by simp;omega)]
 have ptr: ∀i b,b<7→i≠13→i≠14→(instL sl39 [])[i]? =some (.ptr b 0)→ ∀v',T2[i]? =some v'→VRel r σ (.ptr b 0) v':=by
  intro i b hb h1 h2 e v' e'
  rw[old i h1 h2]at e'
  exact j3p (hT.at_ i _ v' e e') hb hi.fr
 have ht:LRel r σ (instL P_p3.t ([.n (p:Int),.n k]++q.e7 x++[.n k0,.l TB bs])) T2:=by
  refine LRel.only [0,3,4,13,14] (by rw[hT2];simp[hTs];rfl) (by kernel_rfl) ?_
  intro i hi v v' e e'
  simp only[List.mem_cons,List.not_mem_nil,or_false]at hi
  rcases hi with rfl|rfl|rfl|rfl|rfl
  ·cases e;exact ptr 0 0 (by decide) (by decide) (by decide) rfl v' e'
  ·cases e;exact ptr 3 4 (by decide) (by decide) (by decide) rfl v' e'
  ·cases e;exact ptr 4 5 (by decide) (by decide) (by decide) rfl v' e'
  ·cases e;rw[i13]at e';cases e';exact .int _ _
  ·cases e;rw[i14]at e';cases e';exact h14
 refine o3w (k:=0) (by kernel_rfl) (t4l (n0:=(p:Int)) (n1:=k) (n2:=q.turn) (n3:=q.first) (n4:=q.br) (n5:=q.s.n) (b6:=q.s.A) (n7:=q.s.h) (b8:=q.s.o) (l9:=q.s.K) (l10:=q.s.W) (n11:=x.2) (l12:=x.1) (n13:=k0) (l14:=bs)) rfl (mayN fun _=>trivial) hr ht ?_
 intro t1 w1 r1 σ1 a1 a2 a3 a4
 have i1:=hi.step a2 (by simp[P_p3])
 refine⟨_,run_beginRound i1.hl rfl,?_⟩
 have i2:=i1.put hL hne (recL fn T D .busy)
 refine o3w (k:=0) (by kernel_rfl) (q4m (n0:=(p:Int)) (n1:=q.turn) (n2:=q.first) (n3:=q.br) (n4:=q.s.n) (b5:=q.s.A) (n6:=q.s.h) (b7:=q.s.o) (l8:=q.s.K) (l9:=q.s.W) (n10:=x.2) (l11:=x.1) (n12:=k) (l13:=bs) (by omega) (Int.ofNat_lt.2 hp)) rfl (mayN fun _=>trivial) (fun lg=>(i1.kr _).rel _ _ _ (a1 lg)) a3 ?_
 intro t2 w2 r2 σ2 c1 c2 c3 c4
 have i3:=i2.step c2 (by simp[P_p4])
 refine⟨_,_,run_endRound none i3.hl,rfl,r2,σ2,fun lg=>(i3.kr _).rel _ _ _ ?_,i3.put hL hne (recL fn T D .ready)⟩
 exact c1 lg
end
end Go.Proofs.Ytoehlcomhpnjgaa.Vx
noncomputable section
namespace Go.Proofs.Ytoehlcomhpnjgaa.Vx
open Go Go.RowKit
set_option linter.unusedVariables false
set_option linter.unusedSimpArgs false
set_option maxRecDepth 100000
set_option maxHeartbeats 4000000
attribute [local go_sem] Oper.semAt_some
def evOL (cl:b0p)(ops:Array Oper)(l:List Nat)(S:PSh)(env:List Dat):Tree (Nat×List Dat):=
 fVs false (instL S.t env) fun t=>fSW false ⟨instBs S.blks env,[]⟩ fun s=>(o0r Try.prog cl ops l [] t s).bind fun x=>.guard (p2r S.K S.log x.2.log) 333 (l0j S.K .normal x.1 x.2 S.outs 0)
theorem ol_ok {F:Fence}{cl:b0p}{ops:Array Oper}{l:List Nat}{S:PSh}(hK:Nat.ble S.K S.blks.length=true){env:List Dat}{k:Nat}{d:List Dat}(h:(evOL cl ops l S env).sel=some (k,d)){o:Exit×List PV×List PB}(ho:S.outs[k]? =some o)
  {n:Nat} (hF:l3a Try.prog F cl) (rest0:List Nat) {r:RM} {σ:Snap} {w:World} {t':Array Value} {Q:Exit→Act→World→Prop} (hr: ∀lg,Rel r σ ⟨instBs S.blks env,lg⟩ w) (ht:LRel r σ (instL S.t env) t')
  (hQ: ∀t1' w' r' σ',(∀lg,Rel r' σ' ⟨instBs o.2.2 d,lg⟩ w')→FrameK S.K S.log r r' σ σ' w w'→LRel r' σ' (instL o.2.1 d) t1'→j3u (o3x ops l) t' t1'→wpOpsIn F n Try.prog ops Q rest0 ⟨t1',[]⟩ w'):wpOpsIn F n Try.prog ops Q (l++rest0) ⟨t',[]⟩ w:=by
 unfold evOL at h
 rw[j2y,o1m]at h
 obtain⟨⟨t1,s1⟩,h1,h2⟩:=Tree.bind_some h
 obtain⟨h3,h4⟩:=Tree.guard_some h2
 have lg:=o1x h3
 have hK:=Nat.le_of_ble_eq_true hK
 refine m3g hF rest0 l [] _ _ t1 s1 h1 r σ w t' Q (hr []) ht fun t1' w' hth hk=> ?_
 obtain⟨r1,σ1,a1,a2,a3,a4,a5⟩:=hth.toK (K:=S.K) (by simpa [SW.len,instBs]using hK)
 have a2':=a2.more fun b hb hk=>lg b hb hk
 obtain⟨o',q1,q2,q3,q4⟩:=a1g h4
 rw[Nat.sub_zero,ho]at q2
 cases q2
 obtain⟨r2,b1,b2,b3,b4⟩:=k1i q4 a5 a1 a3
 exact hQ t1' w' r2 σ1 b1 (a2'.trans (b3.more fun b hb hk=>lg b hb hk) fun _ h _=>h) b2 hk
def P_o1:PSh:={K:=7,log:=[],t:=sh 39 [(0,.ptr 0 0),(4,.int .i64 0),(7,.ptr 7 0),(8,.bool 1),(10,.int .i64 2),(11,.int .i64 3)],blks:=[logB 4 1 .nilsl,dkB 2 3 7,.arr TBk 11,.arr TWr 12,.cells [.int .i64 13],.cells [.own 6],.arr TRec 14,.cells [.int .i64 15,.own 8],.arr TB 16],outs:=[(.normal,sh 39 [(0,.ptr 0 0),(4,.int .i64 0),(7,.ptr 7 0),(10,.int .i64 1),(11,.int .i64 2),(31,.bool 3)],[logB 4 1 .nilsl,dkB 2 3 7,.arr TBk 11,.arr TWr 12,.cells [.int .i64 13],.cells [.own 6],.arr TRec 14,.cells [.int .i64 15,.own 8],.arr TB 16])]}
def P_o3:PSh:={K:=7,log:=[],t:=sh 39 [(0,.ptr 0 0),(4,.int .i64 0),(7,.ptr 7 0),(10,.int .i64 1),(11,.int .i64 2),(31,.bool 3)],blks:=[logB 4 1 .nilsl,dkB 2 3 7,.arr TBk 11,.arr TWr 12,.cells [.int .i64 13],.cells [.own 6],.arr TRec 14,.cells [.int .i64 15,.own 8],.arr TB 16],outs:=[(.normal,sh 39 [(7,.ptr 7 0),(10,.int .i64 0),(11,.int .i64 1),(31,.bool 2),(33,.int .i64 3),(34,.agg [.int .i64 4,.own 8])],[logB 5 1 .nilsl,dkB 2 3 8,.arr TBk 12,.arr TWr 13,.cells [.int .i64 14],.cells [.own 6],.arr TRec 15,.cells [.int .i64 16,.own 8],.arr TB 17])]}
def P_o6:PSh:={K:=7,log:=[],t:=sh 39 [(0,.ptr 0 0),(10,.int .i64 0),(11,.int .i64 1),(31,.bool 2),(35,.bool 3)],blks:=[logB 4 1 .nilsl,dkB 2 3 7,.arr TBk 11,.arr TWr 12,.cells [.int .i64 13],.cells [.own 6],.arr TRec 14],outs:=[(.normal,sh 39 [(0,.ptr 0 0),(10,.int .i64 0),(11,.int .i64 1),(37,.bool 2)],[logB 3 1 .nilsl,dkB 2 3 6,.arr TBk 10,.arr TWr 11,.cells [.int .i64 12],.cells [.own 6],.arr TRec 13])]}
section
variable {q:FQ} {x:LRc×Int} {p rm k:Int} {bs:List Int}
theorem w_o1:(evOL k3w ops8 [0,1] P_o1 ([.n p,.b true,.n rm,.n p]++q.e7 x++[.n k,.l TB bs])).sel=some (0,[.n p,.n rm,.n p,.b true]++q.e7 x++[.n k,.l TB bs]):=by kernel_rfl
theorem w_o3:(evOL k3w ops8 [3,4] P_o3 ([.n p,.n rm,.n p,.b true]++q.e7 x++[.n k,.l TB bs])).sel=some (0,[.n rm,.n p,.b true,.n p,.n k]++q.e7 x++[.n k,.l TB bs]):=by kernel_rfl
theorem w_o6:(evOL k3w ops8 [6,7] P_o6 ([.n rm,.n p,.b true,.b true]++q.e7 x)).sel=some (0,[.n rm,.n p,.b false]++q.e7 x):=by kernel_rfl
end
end Go.Proofs.Ytoehlcomhpnjgaa.Vx
noncomputable section
namespace Go.Proofs.Ytoehlcomhpnjgaa.Vx
open Go Go.RowKit
set_option linter.unusedVariables false
set_option linter.unusedSimpArgs false
set_option maxRecDepth 100000
set_option maxHeartbeats 4000000
attribute [local go_sem] Oper.semAt_some
theorem LRel.pick {r:RM}{σ:Snap}{l l':List SV}{T:Array Value}(h:LRel r σ l T)(is:List Nat)(hlen:l'.length=l.length)(ho:p3r l' is 0=true)(he: ∀i,i∈is→l'[i]? =l[i]?):LRel r σ l' T:=
 LRel.only is (hlen.trans h.size) ho fun i hi v v' e e'=>h.at_ i v v' ((he i hi).symm.trans e) e'
theorem tH_no {b:List Int}{x:Int×Int}(h:tH b=some x):tR b=none:=by
 cases e:tR b with
 |none=>rfl
 |some y=>have h1:=a4x h;have h2:=q3a e;omega
structure SR (q:FQ)(r0:RM)(σ0:Snap)(w0:World)(L D:Nat)(rec:Loop)(vl:Value)(p:Nat)(x:LRc×Int)(ex:List Blk)(r:RM)(σ:Snap)(T:Array Value)(W:World):Prop where
 sz:T.size=39
 t0:T[0]? =some vl
 t1:T[1]? =some (.func (.yield L) #[] #[])
 t10:T[10]? =some (.int .i64 (room q.s:Int))
 t11:T[11]? =some (.int .i64 (p:Int))
 hr: ∀lg,Rel r σ ⟨B7 q x++ex,lg⟩ W
 hi:IvR r0 σ0 w0 L D rec r σ W
 hv:VRel r0 σ0 (.ptr 0 0) vl
def a4o:Code:=.seq c_p6 (.seq (.cond (.tmp 12) .skip (.exit 0)) (.seq (.block 1 (.seq j4p (.seq m4n (.seq f4k (.seq c_p8 (.cond (.tmp 37) .ret .skip)))))) c_p9))
def o3v (l is:List Nat):Bool:=is.all fun i=> !l.contains i
theorem h3m {l is:List Nat}(h:o3v l is=true){i:Nat}(hi:i∈is):i∉l:=fun q=>by
 have:=List.all_eq_true.1 h i hi
 simp[q]at this
theorem k15_6:o3v (n3d c_p6) [0,1,10,11]=true:=by kernel_rfl
theorem k15_7a:o3v (n3d j4p) [0,1,10,11]=true:=by kernel_rfl
theorem k15_7b:o3v (n3d m4n) [0,1,4,10,11]=true:=by kernel_rfl
theorem p4a:o3v (n3d f4k) [0,1,4,10,11]=true:=by kernel_rfl
theorem k15_8:o3v (n3d c_p8) [0,1,10,11]=true:=by kernel_rfl
theorem k15_o1:o3v (o3x ops8 [0,1]) [0,1,4,7,10,11]=true:=by kernel_rfl
theorem k15_o3:o3v (o3x ops8 [3,4]) [0,1,10,11,32]=true:=by kernel_rfl
theorem k15_o6:o3v (o3x ops8 [6,7]) [0,1,10,11]=true:=by kernel_rfl
theorem k15_9:o3v (n3d c_p9) [0,1,10]=true:=by kernel_rfl
section
variable {q:FQ} {r0 r r1:RM} {σ0 σ σ1:Snap} {w0 W W1:World} {L D:Nat} {rec:Loop} {T T1:Array Value} {vl:Value} {p m:Nat} {x x':LRc×Int} {ex ex':List Blk}
theorem SR.next (h:SR q r0 σ0 w0 L D rec vl p x ex r σ T W){log:List Nat}(hl:log=[])(hr: ∀lg,Rel r1 σ1 ⟨B7 q x++ex',lg⟩ W1)(hf:FrameK 7 log r r1 σ σ1 W W1){c:List Nat}(hk:j3u c T T1)(hc: ∀i,i∈[0,1,10,11]→i∉c)(hsz:T1.size=39):SR q r0 σ0 w0 L D rec vl p x ex' r1 σ1 T1 W1:=
 ⟨hsz,(hk 0 (hc 0 (by decide))).trans h.t0,(hk 1 (hc 1 (by decide))).trans h.t1,(hk 10 (hc 10 (by decide))).trans h.t10,(hk 11 (hc 11 (by decide))).trans h.t11,hr,h.hi.step hf (by subst hl;simp),h.hv⟩
theorem SR.lr (h:SR q r0 σ0 w0 L D rec vl p x ex r σ T W){l:List SV}(is:List Nat)(hlen:l.length=39)(ho:p3r l (0::10::11::is) 0=true)(e0:l[0]? =some (.ptr 0 0))(e1:l[10]? =some (.int .i64 (room q.s:Int)))(e2:l[11]? =some (.int .i64 (p:Int)))
  (hx: ∀i,i∈is→ ∀v v',l[i]? =some v→T[i]? =some v'→VRel r σ v v'):LRel r σ l T:=by
 refine LRel.only (0::10::11::is) (by rw[h.sz,hlen]) ho fun i hi v v' e e'=> ?_
 rcases List.mem_cons.1 hi with rfl|hi
 ·rw[e0]at e;cases e;rw[h.t0]at e';cases e';exact j3p h.hv (by decide) h.hi.fr
 rcases List.mem_cons.1 hi with rfl|hi
 ·rw[e1]at e;cases e;rw[h.t10]at e';cases e';exact .int _ _
 rcases List.mem_cons.1 hi with rfl|hi
 ·rw[e2]at e;cases e;rw[h.t11]at e';cases e';exact .int _ _
 exact hx i hi v v' e e'
theorem run6 (h:SR q r0 σ0 w0 L D rec vl p x [] r σ T W){Q:Exit→Act→World→Prop}(hQ: ∀T1 W1 r1 σ1,SR q r0 σ0 w0 L D rec vl p x [] r1 σ1 T1 W1→T1[12]? =some (.bool (decide ((p:Int)<(room q.s:Int))))→Q .normal ⟨T1,[]⟩ W1):c_p6.wpIn Fence.wide m Try.prog Q ⟨T,[]⟩ W:=by
 refine o3w (k:=0) (by kernel_rfl) (t4i (n0:=(room q.s:Int)) (n1:=(p:Int)) (n2:=q.turn) (n3:=q.first) (n4:=q.br) (n5:=q.s.n) (b6:=q.s.A) (n7:=q.s.h) (b8:=q.s.o) (l9:=q.s.K) (l10:=q.s.W) (n11:=x.2) (l12:=x.1)) rfl (mayW h3h) h.hr (h.lr [] rfl (by kernel_rfl) rfl rfl rfl (by simp)) ?_
 intro T1 W1 r1 σ1 a1 a2 a3 a4
 exact hQ T1 W1 r1 σ1 (h.next (ex':=[]) rfl a1 a2 a4 (fun i hi=>h3m k15_6 hi) (a3.size.symm.trans rfl)) (a3.bool (i:=12) rfl)
theorem run7a (h:SR q r0 σ0 w0 L D rec vl p x [] r σ T W){Q:Exit→Act→World→Prop}(hQ: ∀T1 W1 r1 σ1,SR q r0 σ0 w0 L D rec vl p x [] r1 σ1 T1 W1→T1[4]? =some (.int .i64 (p:Int))→Q .normal ⟨T1,[]⟩ W1):j4p.wpIn Fence.wide m Try.prog Q ⟨T,[]⟩ W:=by
 refine o3w (k:=0) (by kernel_rfl) (l4t (n0:=(room q.s:Int)) (n1:=(p:Int)) (n2:=q.turn) (n3:=q.first) (n4:=q.br) (n5:=q.s.n) (b6:=q.s.A) (n7:=q.s.h) (b8:=q.s.o) (l9:=q.s.K) (l10:=q.s.W) (n11:=x.2) (l12:=x.1)) rfl (mayW h3h) h.hr (h.lr [] rfl (by kernel_rfl) rfl rfl rfl (by simp)) ?_
 intro T1 W1 r1 σ1 a1 a2 a3 a4
 exact hQ T1 W1 r1 σ1 (h.next (ex':=[]) rfl a1 a2 a4 (fun i hi=>h3m k15_7a hi) (a3.size.symm.trans rfl)) (a3.int (i:=4) rfl)
def xtB (b:List Int):List Blk:=instBs [bkB 0] [.l TB b]
def xtR (k:Int)(b:List Int):List Blk:=[.cells [.int .i64 k,.own 8 0],.arr TB 0 b]
def xtN:List Blk:=[.cells [.int .i64 0,.nilsl]]
theorem run7b (hs:DH q.s)(ho:q.s.o=false)(hW:q.s.W.length≤100000)(hp:p<room q.s)(h:SR q r0 σ0 w0 L D rec vl p x [] r σ T W)(h4:T[4]? =some (.int .i64 (p:Int))){Q:Exit→Act→World→Prop}
  (hQ: ∀T1 W1 r1 σ1,SR q r0 σ0 w0 L D rec vl p x (xtB (bkOf q.s (2+p))) r1 σ1 T1 W1→T1[4]? =some (.int .i64 (p:Int))→(∀v,T1[5]? =some v→VRel r1 σ1 (.asl 7 0 256) v)→Q .normal ⟨T1,[]⟩ W1):m4n.wpIn Fence.wide m Try.prog Q ⟨T,[]⟩ W:=by
 have hK:q.s.K.length≤4096:=hs.kl
 have hpK:2+p<q.s.K.length:=by unfold room at hp;omega
 have e:=d20 q.s hW (IntKind.wrap .i64 ((2:Int)+(p:Int)))
 have ew:IntKind.wrap .i64 ((2:Int)+(p:Int))=((2+p:Nat):Int):=by rw[w64 (by omega) (by omega)];omega
 rw[show k3t q.s (IntKind.wrap .i64 ((2:Int)+(p:Int)))=(some (bkOf q.s (2+p)),0) by rw[ew];exact(h3t hs ho hpK).1]at e
 refine o3w (k:=0) (by kernel_rfl) (k4n (n0:=(p:Int)) (n1:=(room q.s:Int)) (n2:=(p:Int)) (n3:=q.turn) (n4:=q.first) (n5:=q.br) (n6:=q.s.n) (b7:=q.s.A) (n8:=q.s.h) (b9:=q.s.o) (l10:=q.s.K) (l11:=q.s.W) (n12:=x.2) (l13:=x.1) e) rfl (mayW h3h) h.hr
  (h.lr [4] rfl (by kernel_rfl) rfl rfl rfl (by intro i hi v v' e1 e2;cases List.mem_singleton.1 hi;cases e1;rw[h4]at e2;cases e2;exact .int _ _)) ?_
 intro T1 W1 r1 σ1 a1 a2 a3 a4
 exact hQ T1 W1 r1 σ1 (h.next (ex':=xtB (bkOf q.s (2+p))) rfl a1 a2 a4 (fun i hi=>h3m k15_7b (by revert hi;simp;omega)) (a3.size.symm.trans rfl)) (a3.int (i:=4) rfl) (fun v hv=>a3.at_ 5 _ v rfl hv)
theorem run7c {b:List Int}(hb:Wb b)(hl:b.length=256)(h:SR q r0 σ0 w0 L D rec vl p x (xtB b) r σ T W)(h4:T[4]? =some (.int .i64 (p:Int)))(h5: ∀v,T[5]? =some v→VRel r σ (.asl 7 0 256) v){Q:Exit→Act→World→Prop}
  (hS: ∀y,tR b=some y→ ∀T1 W1 r1 σ1,SR q r0 σ0 w0 L D rec vl p x (xtR y.1 y.2) r1 σ1 T1 W1→T1[4]? =some (.int .i64 (p:Int))→(∀v,T1[7]? =some v→VRel r1 σ1 (.ptr 7 0) v)→T1[8]? =some (.bool true)→Q .normal ⟨T1,[]⟩ W1)
  (hN:tR b=none→ ∀T1 W1 r1 σ1,SR q r0 σ0 w0 L D rec vl p x xtN r1 σ1 T1 W1→T1[4]? =some (.int .i64 (p:Int))→(∀v,T1[7]? =some v→VRel r1 σ1 (.ptr 7 0) v)→T1[8]? =some (.bool false)→Q .normal ⟨T1,[]⟩ W1):f4k.wpIn Fence.wide m Try.prog Q ⟨T,[]⟩ W:=by
 have et:=told hb hl
 have lr:LRel r σ (instL P_p7c.t ([.n (p:Int),.n (room q.s:Int),.n (p:Int)]++q.e7 x++[.l TB b])) T:=h.lr [4,5] rfl (by kernel_rfl) rfl rfl rfl (by
  intro i hi v v' e1 e2
  rcases List.mem_cons.1 hi with rfl|hi
  ·cases e1;rw[h4]at e2;cases e2;exact .int _ _
  ·cases List.mem_singleton.1 hi;cases e1;exact h5 v' e2)
 cases hH:tH b with
 |some y=>
  rw[show i3s b=(1,[.n y.1,.n y.2,.l TB b]) by unfold i3s;rw[hH]]at et
  refine o3w (k:=1) (by kernel_rfl) (h4h (n0:=(p:Int)) (n1:=(room q.s:Int)) (n2:=(p:Int)) (n3:=q.turn) (n4:=q.first) (n5:=q.br) (n6:=q.s.n) (b7:=q.s.A) (n8:=q.s.h) (b9:=q.s.o) (l10:=q.s.K) (l11:=q.s.W) (n12:=x.2) (l13:=x.1) et) rfl (mayW h3h) h.hr lr ?_
  intro T1 W1 r1 σ1 a1 a2 a3 a4
  exact hN (tH_no hH) T1 W1 r1 σ1 (h.next (ex':=xtN) rfl a1 a2 a4 (fun i hi=>h3m p4a (by revert hi;simp;omega)) (a3.size.symm.trans rfl)) (a3.int (i:=4) rfl) (fun v hv=>a3.at_ 7 _ v rfl hv) (a3.bool (i:=8) rfl)
 |none=>
  cases hR:tR b with
  |none=>
   rw[show i3s b=(0,[.l TB b]) by unfold i3s;rw[hH,hR]]at et
   refine o3w (k:=1) (by kernel_rfl) (l4m (n0:=(p:Int)) (n1:=(room q.s:Int)) (n2:=(p:Int)) (n3:=q.turn) (n4:=q.first) (n5:=q.br) (n6:=q.s.n) (b7:=q.s.A) (n8:=q.s.h) (b9:=q.s.o) (l10:=q.s.K) (l11:=q.s.W) (n12:=x.2) (l13:=x.1) et) rfl (mayW h3h) h.hr lr ?_
   intro T1 W1 r1 σ1 a1 a2 a3 a4
   exact hN hR T1 W1 r1 σ1 (h.next (ex':=xtN) rfl a1 a2 a4 (fun i hi=>h3m p4a (by revert hi;simp;omega)) (a3.size.symm.trans rfl)) (a3.int (i:=4) rfl) (fun v hv=>a3.at_ 7 _ v rfl hv) (a3.bool (i:=8) rfl)
  |some y=>
   rw[show i3s b=(2,[.n y.1,.l TB b,.l TB y.2]) by unfold i3s;rw[hH,hR]]at et
   refine o3w (k:=0) (by kernel_rfl) (o4k (n0:=(p:Int)) (n1:=(room q.s:Int)) (n2:=(p:Int)) (n3:=q.turn) (n4:=q.first) (n5:=q.br) (n6:=q.s.n) (b7:=q.s.A) (n8:=q.s.h) (b9:=q.s.o) (l10:=q.s.K) (l11:=q.s.W) (n12:=x.2) (l13:=x.1) et) rfl (mayW h3h) h.hr lr ?_
   intro T1 W1 r1 σ1 a1 a2 a3 a4
   exact hS y hR T1 W1 r1 σ1 (h.next (ex':=xtR y.1 y.2) rfl a1 a2 a4 (fun i hi=>h3m p4a (by revert hi;simp;omega)) (a3.size.symm.trans rfl)) (a3.int (i:=4) rfl) (fun v hv=>a3.at_ 7 _ v rfl hv) (a3.bool (i:=8) rfl)
theorem run8n (h:SR q r0 σ0 w0 L D rec vl p x xtN r σ T W)(h4:T[4]? =some (.int .i64 (p:Int)))(h7: ∀v,T[7]? =some v→VRel r σ (.ptr 7 0) v)(h8:T[8]? =some (.bool false)){Q:Exit→Act→World→Prop}
  (hQ: ∀T1 W1 r1 σ1,SR q r0 σ0 w0 L D rec vl p x [] r1 σ1 T1 W1→T1[37]? =some (.bool false)→Q .normal ⟨T1,[]⟩ W1):c_p8.wpIn Fence.wide m Try.prog Q ⟨T,[]⟩ W:=by
 refine o3w (k:=0) (by kernel_rfl) (r4g (n0:=(p:Int)) (b1:=false) (n2:=(room q.s:Int)) (n3:=(p:Int)) (n4:=q.turn) (n5:=q.first) (n6:=q.br) (n7:=q.s.n) (b8:=q.s.A) (n9:=q.s.h) (b10:=q.s.o) (l11:=q.s.K) (l12:=q.s.W) (n13:=x.2) (l14:=x.1) (n15:=0) rfl) rfl (mayN fun _=>trivial) h.hr
  (h.lr [4,7,8] rfl (by kernel_rfl) rfl rfl rfl (by
   intro i hi v v' e1 e2
   rcases List.mem_cons.1 hi with rfl|hi
   ·cases e1;rw[h4]at e2;cases e2;exact .int _ _
   rcases List.mem_cons.1 hi with rfl|hi
   ·cases e1;exact h7 v' e2
   ·cases List.mem_singleton.1 hi;cases e1;rw[h8]at e2;cases e2;exact .bool _)) ?_
 intro T1 W1 r1 σ1 a1 a2 a3 a4
 exact hQ T1 W1 r1 σ1 (h.next (ex':=[]) rfl a1 a2 a4 (fun i hi=>h3m k15_8 hi) (a3.size.symm.trans rfl)) (a3.bool (i:=37) rfl)
theorem run9 (hp:p<9223372036854775807)(h:SR q r0 σ0 w0 L D rec vl p x [] r σ T W){Q:Exit→Act→World→Prop}(hQ: ∀T1 W1 r1 σ1,SR q r0 σ0 w0 L D rec vl (p+1) x [] r1 σ1 T1 W1→Q .normal ⟨T1,[]⟩ W1):c_p9.wpIn Fence.wide m Try.prog Q ⟨T,[]⟩ W:=by
 refine o3w (k:=0) (by kernel_rfl) (u4u (n0:=(room q.s:Int)) (n1:=(p:Int)) (n2:=q.turn) (n3:=q.first) (n4:=q.br) (n5:=q.s.n) (b6:=q.s.A) (n7:=q.s.h) (b8:=q.s.o) (l9:=q.s.K) (l10:=q.s.W) (n11:=x.2) (l12:=x.1)) rfl (mayN fun _=>trivial) h.hr (h.lr [] rfl (by kernel_rfl) rfl rfl rfl (by simp)) ?_
 intro T1 W1 r1 σ1 a1 a2 a3 a4
 have ew:IntKind.wrap .i64 ((p:Int)+(1:Int))=((p+1:Nat):Int):=by rw[w64 (by omega) (by omega)];omega
 rw[ew]at a3
 exact hQ T1 W1 r1 σ1 ⟨a3.size.symm.trans rfl,(a4 0 (h3m k15_9 (by decide))).trans h.t0,(a4 1 (h3m k15_9 (by decide))).trans h.t1,(a4 10 (h3m k15_9 (by decide))).trans h.t10,a3.int (i:=11) rfl,fun lg=>a1 lg,h.hi.step a2 (by simp[P_p9]),h.hv⟩
theorem m3v {T:Array Value}{i j:Nat}{v:Value}(h:j≠i):(T.setIfInBounds j v)[i]? =T[i]? :=by rw[Array.getElem?_setIfInBounds,if_neg h]
theorem get_eq {T:Array Value}{i:Nat}{v:Value}(h:i<T.size):(T.setIfInBounds i v)[i]? =some v:=by rw[Array.getElem?_setIfInBounds,if_pos rfl,if_pos h]
theorem SR.put (h:SR q r0 σ0 w0 L D rec vl p x ex r σ T W){j:Nat}(hj:j∉[0,1,10,11])(v:Value):SR q r0 σ0 w0 L D rec vl p x ex r σ (T.setIfInBounds j v) W:=by
 have ne: ∀i,i∈[0,1,10,11]→j≠i:=fun i hi e=>hj (e▸hi)
 exact⟨by simp[h.sz],(m3v (ne 0 (by decide))).trans h.t0,(m3v (ne 1 (by decide))).trans h.t1,(m3v (ne 10 (by decide))).trans h.t10,(m3v (ne 11 (by decide))).trans h.t11,h.hr,h.hi,h.hv⟩
theorem g4h {o:Oper}(hg:o.guard=some (1,true)){T:Array Value}(h:T[31]? =some (.bool true)):Region.wanted o (yielded ops8 T)=true:=by
 simp[Region.wanted,hg,n4s h]
theorem run8s {fn:FuncId}{T0:Array Value}{k:Int}{b:List Int}(hT0:LRel r0 σ0 (instL sl39 []) T0)(hL:w0.heap.size≤L)(hne:D≠L)(hp:p<x.1.length)(h:SR q r0 σ0 w0 L D (recL fn T0 D .ready) vl p x (xtR k b) r σ T W)(h4:T[4]? =some (.int .i64 (p:Int)))(h7: ∀v,T[7]? =some v→VRel r σ (.ptr 7 0) v)(h8:T[8]? =some (.bool true)){Q:Exit→Act→World→Prop}
  (hQ: ∀T1 W1 r1 σ1,SR q r0 σ0 w0 L D (recL fn T0 D .ready) vl p (x.1.set p (mkR k b),imax x.2 k) [] r1 σ1 T1 W1→T1[37]? =some (.bool false)→Q .normal ⟨T1,[]⟩ W1):c_p8.wpIn Fence.wide m Try.prog Q ⟨T,[]⟩ W:=by
 obtain⟨id,hc⟩:=c8
 rw[hc]
 refine wpIn_region ?_
 rw[sz8,show List.range 8=[0,1]++[2,3,4,5,6,7]from rfl]
 refine ol_ok (S:=P_o1) (k:=0) (by kernel_rfl) (w_o1 (q:=q) (x:=x) (p:=(p:Int)) (rm:=(room q.s:Int)) (k:=k) (bs:=b)) rfl (mayN fun _=>trivial) _ h.hr
  (h.lr [4,7,8] rfl (by kernel_rfl) rfl rfl rfl (by
   intro i hi v v' e1 e2
   rcases List.mem_cons.1 hi with rfl|hi
   ·cases e1;rw[h4]at e2;cases e2;exact .int _ _
   rcases List.mem_cons.1 hi with rfl|hi
   ·cases e1;exact h7 v' e2
   ·cases List.mem_singleton.1 hi;cases e1;rw[h8]at e2;cases e2;exact .bool _)) ?_
 intro T1 W1 r1 σ1 a1 a2 a3 a4
 have g1:SR q r0 σ0 w0 L D (recL fn T0 D .ready) vl p x (xtR k b) r1 σ1 T1 W1:=h.next (ex':=xtR k b) rfl a1 a2 a4 (fun i hi=>h3m k15_o1 (by revert hi;simp;omega)) (a3.size.symm.trans rfl)
 have t31:T1[31]? =some (.bool true):=a3.bool (i:=31) rfl
 have t4:T1[4]? =some (.int .i64 (p:Int)):=a3.int (i:=4) rfl
 have t7: ∀v,T1[7]? =some v→VRel r1 σ1 (.ptr 7 0) v:=fun v hv=>a3.at_ 7 _ v rfl hv
 obtain⟨p2,q2,s2,h2⟩:=o2
 rw[wpOpsIn_cons]
 refine op_val (v:=.func (.yield L) #[] #[]) h2 (g4h rfl t31) (by simp[execOp,go_sem,g1.t1]) ?_
 have g2:=g1.put (j:=32) (by decide) (.func (.yield L) #[] #[])
 show wpOpsIn _ _ _ _ _ [3,4,5,6,7] ⟨T1.setIfInBounds 32 (.func (.yield L) #[] #[]),[]⟩ W1
 obtain⟨T2,hT2⟩: ∃T2,T2=T1.setIfInBounds 32 (.func (.yield L) #[] #[]):=⟨_,rfl⟩
 rw[←hT2]at g2⊢
 have u31:T2[31]? =some (.bool true):=by rw[hT2,m3v (by decide)];exact t31
 have u32:T2[32]? =some (.func (.yield L) #[] #[]):=by rw[hT2];exact get_eq (by rw[g1.sz];decide)
 have u4:T2[4]? =some (.int .i64 (p:Int)):=by rw[hT2,m3v (by decide)];exact t4
 have u7:T2[7]? =T1[7]? :=by rw[hT2,m3v (by decide)]
 rw[show[3,4,5,6,7]=[3,4]++[5,6,7]from rfl]
 refine ol_ok (S:=P_o3) (k:=0) (by kernel_rfl) (w_o3 (q:=q) (x:=x) (p:=(p:Int)) (rm:=(room q.s:Int)) (k:=k) (bs:=b)) rfl (mayN fun _=>trivial) _ g2.hr
  (g2.lr [4,7,31] rfl (by kernel_rfl) rfl rfl rfl (by
   intro i hi v v' e1 e2
   rcases List.mem_cons.1 hi with rfl|hi
   ·cases e1;rw[u4]at e2;cases e2;exact .int _ _
   rcases List.mem_cons.1 hi with rfl|hi
   ·cases e1;rw[u7]at e2;exact t7 v' e2
   ·cases List.mem_singleton.1 hi;cases e1;rw[u31]at e2;cases e2;exact .bool _)) ?_
 intro T3 W3 r3 σ3 c1 c2 c3 c4
 have g3:SR q r0 σ0 w0 L D (recL fn T0 D .ready) vl p x (xtR k b) r3 σ3 T3 W3:=g2.next (ex':=xtR k b) rfl c1 c2 c4 (fun i hi=>h3m k15_o3 (by revert hi;simp;omega)) (c3.size.symm.trans rfl)
 have v31:T3[31]? =some (.bool true):=c3.bool (i:=31) rfl
 have v33:T3[33]? =some (.int .i64 (p:Int)):=c3.int (i:=33) rfl
 obtain⟨v14,e14,h14⟩:=c3.get (i:=34) rfl
 have v32:T3[32]? =some (.func (.yield L) #[] #[]):=(c4 32 (h3m k15_o3 (by decide))).trans u32
 obtain⟨ta,p5,q5,s5,h5⟩:=o5
 rw[wpOpsIn_cons]
 refine t0a (l:=L) (args':= #[.int .i64 (p:Int),v14]) h5 (g4h rfl v31) ?_ (r4e hT0 hL hne hp g3.hi g3.hr h14) ?_
 ·exact m0v rfl (by rw[w3p v32]) (by simp[w3p v33,w3p e14])
 ·rintro e W4 ⟨rfl,r4,σ4,d1,d2⟩
  refine⟨_,rfl,?_⟩
  obtain⟨T4,hT4⟩: ∃T4,T4=T3.setIfInBounds 35 (.bool true):=⟨_,rfl⟩
  show wpOpsIn _ _ _ _ _ [6,7] ⟨T3.setIfInBounds 35 (.bool true),[]⟩ W4
  rw[←hT4]
  have g3':=g3.put (j:=35) (by decide) (.bool true)
  rw[←hT4]at g3'
  have g4:SR q r0 σ0 w0 L D (recL fn T0 D .ready) vl p (x.1.set p (mkR k b),imax x.2 k) [] r4 σ4 T4 W4:=⟨g3'.sz,g3'.t0,g3'.t1,g3'.t10,g3'.t11,fun lg=>by rw[List.append_nil];exact d1 lg,d2,g3'.hv⟩
  have x31:T4[31]? =some (.bool true):=by rw[hT4,m3v (by decide)];exact v31
  have x35:T4[35]? =some (.bool true):=by rw[hT4];exact get_eq (by rw[g3.sz];decide)
  rw[show[6,7]=[6,7]++[]from rfl]
  refine ol_ok (S:=P_o6) (k:=0) (by kernel_rfl) (w_o6 (q:=q) (x:=(x.1.set p (mkR k b),imax x.2 k)) (p:=(p:Int)) (rm:=(room q.s:Int))) rfl (mayN fun _=>trivial) _ (fun lg=>g4.hr lg)
   (g4.lr [31,35] rfl (by kernel_rfl) rfl rfl rfl (by
    intro i hi v v' e1 e2
    rcases List.mem_cons.1 hi with rfl|hi
    ·cases e1;rw[x31]at e2;cases e2;exact .bool _
    ·cases List.mem_singleton.1 hi;cases e1;rw[x35]at e2;cases e2;exact .bool _)) ?_
  intro T5 W5 r5 σ5 f1 f2 f3 f4
  have g5:SR q r0 σ0 w0 L D (recL fn T0 D .ready) vl p (x.1.set p (mkR k b),imax x.2 k) [] r5 σ5 T5 W5:=g4.next (ex':=[]) rfl f1 f2 f4 (fun i hi=>h3m k15_o6 hi) (f3.size.symm.trans rfl)
  exact hQ T5 W5 r5 σ5 g5 (f3.bool (i:=37) rfl)
end
end Go.Proofs.Ytoehlcomhpnjgaa.Vx
noncomputable section
namespace Go.Proofs.Ytoehlcomhpnjgaa.Vx
open Go Go.RowKit
set_option linter.unusedVariables false
set_option linter.unusedSimpArgs false
set_option maxRecDepth 100000
set_option maxHeartbeats 4000000
attribute [local go_sem] Oper.semAt_some
theorem k15_5:o3v (n3d c_p5) [0,1]=true:=by kernel_rfl
section
variable {q:FQ} {r0 r:RM} {σ0 σ:Snap} {w0 W:World} {L D:Nat} {fn:FuncId} {T0 T:Array Value} {vl:Value} {p m:Nat}
variable (hs:DH q.s) (ho:q.s.o=false) (hW:q.s.W.length≤100000) (hT0:LRel r0 σ0 (instL sl39 []) T0) (hL:w0.heap.size≤L) (hne:D≠L)
def JR (q:FQ)(r0:RM)(σ0:Snap)(w0:World)(L D:Nat)(rec:Loop)(vl:Value)(p:Nat)(a:Act)(W:World):Prop:=a.defers=[]∧ ∃r σ,SR q r0 σ0 w0 L D rec vl p (fndN q.s p) [] r σ a.tmps W
include hs ho hW hT0 hL hne
theorem e4x (hp:p<room q.s)(h:SR q r0 σ0 w0 L D (recL fn T0 D .ready) vl p (fndN q.s p) [] r σ T W){Q:Exit→Act→World→Prop}:
  a4o.wpIn Fence.wide m Try.prog (Exit.then (JR q r0 σ0 w0 L D (recL fn T0 D .ready) vl (p+1)) Q) ⟨T,[]⟩ W:=by
 have hK:q.s.K.length≤4096:=hs.kl
 have hpK:2+p<q.s.K.length:=by unfold room at hp;omega
 unfold a4o
 refine wpIn_seq (run6 h fun T1 W1 r1 σ1 h1 e1=> ?_)
 refine wpIn_seq (wpIn_cond_true (by rw[w3p e1,decide_eq_true (by omega)]) (wpIn_skip ?_))
 have last: ∀T5 W5 r5 σ5,SR q r0 σ0 w0 L D (recL fn T0 D .ready) vl p (fndN q.s (p+1)) [] r5 σ5 T5 W5→T5[37]? =some (.bool false)→(Code.cond (.tmp 37) .ret .skip).wpIn Fence.wide m Try.prog (Exit.inBlock 1 (Exit.then (c_p9.wpIn Fence.wide m Try.prog (Exit.then (JR q r0 σ0 w0 L D (recL fn T0 D .ready) vl (p+1)) Q)) (Exit.then (JR q r0 σ0 w0 L D (recL fn T0 D .ready) vl (p+1)) Q))) ⟨T5,[]⟩ W5:=fun T5 W5 r5 σ5 h5 e5=>
  wpIn_cond_false (w3p e5) (wpIn_skip (run9 (by omega) h5 fun T6 W6 r6 σ6 h6=>⟨rfl,r6,σ6,h6⟩))
 obtain⟨e0,hb,hl⟩:=h3t hs ho hpK
 refine wpIn_seq (wpIn_block (wpIn_seq (run7a h1 fun T2 W2 r2 σ2 h2 e2=>wpIn_seq (run7b hs ho hW hp h2 e2 fun T3 W3 r3 σ3 h3 e3 f3=>wpIn_seq (run7c hb hl h3 e3 f3 ?_ ?_)))))
 ·intro y hy T4 W4 r4 σ4 h4 e4 f4 g4
  refine wpIn_seq (run8s hT0 hL hne (by rw[m3a];exact hp) h4 e4 f4 g4 fun T5 W5 r5 σ5 h5 e5=>last T5 W5 r5 σ5 ?_ e5)
  rw[show fndN q.s (p+1)=((fndN q.s p).1.set p (mkR y.1 y.2),imax (fndN q.s p).2 y.1) by show(match tR (bkOf q.s (2+p))with|some x=>_|none=>_)=_;rw[hy]]
  exact h5
 ·intro hy T4 W4 r4 σ4 h4 e4 f4 g4
  refine wpIn_seq (run8n h4 e4 f4 g4 fun T5 W5 r5 σ5 h5 e5=>last T5 W5 r5 σ5 ?_ e5)
  rw[show fndN q.s (p+1)=fndN q.s p by show(match tR (bkOf q.s (2+p))with|some x=>_|none=>_)=_;rw[hy]]
  exact h5
theorem u3m {Q:Exit→Act→World→Prop}(hQ: ∀T W r σ,SR q r0 σ0 w0 L D (recL fn T0 D .ready) vl (room q.s) (fndN q.s (room q.s)) [] r σ T W→Q (.exit 0) ⟨T,[]⟩ W): ∀(d p:Nat) (a:Act) (W:World),room q.s-p=d→p≤room q.s→JR q r0 σ0 w0 L D (recL fn T0 D .ready) vl p a W→Code.roundsIn Fence.wide m Try.prog a4o Q (d+1) a W
 |0,p,⟨T,ds⟩,W,hd,hp,⟨ha,r,σ,h⟩=>by
  cases(show ds=[]from ha)
  have e:p=room q.s:=by omega
  subst e
  rw[roundsIn_succ]
  unfold a4o
  refine wpIn_seq (run6 h fun T1 W1 r1 σ1 h1 e1=> ?_)
  exact wpIn_seq (wpIn_cond_false (by rw[w3p e1,decide_eq_false (by omega)]) (wpIn_exit (hQ T1 W1 r1 σ1 h1)))
 |d+1,p,⟨T,ds⟩,W,hd,hp,⟨ha,r,σ,h⟩=>by
  cases(show ds=[]from ha)
  rw[roundsIn_succ]
  refine wpIn_mono (e4x hs ho hW hT0 hL hne (by omega) h (Q:=Q)) fun e a' W' hq=> ?_
  cases e with
  |normal=>exact u3m hQ d (p+1) a' W' (by omega) (by omega) hq
  |_=>exact hq
theorem h4g:imax (IntKind.wrap .i64 ((q.s.K.length:Int)-2)) 0=(room q.s:Int):=by
 have hK:q.s.K.length≤4096:=hs.kl
 rw[w64 (by omega) (by omega)]
 unfold room imax
 split<;>omega
theorem e4h (hv:VRel r0 σ0 (.ptr 0 0) vl)(hr: ∀lg,Rel r σ ⟨B7 q (fndN q.s 0),lg⟩ W)(hi:IvR r0 σ0 w0 L D (recL fn T0 D .ready) r σ W){R:Ending→World→Prop}
  (hR: ∀v W' r' σ',(∀lg,Rel r' σ' ⟨B7 q (fndN q.s (room q.s)),lg⟩ W')→IvR r0 σ0 w0 L D (recL fn T0 D .ready) r' σ' W'→R (.returned v) W'):CallsIn Fence.wide m Try.prog 72 #[vl,.func (.yield L) #[] #[]] W R:=by
 refine callsIn_of_wp f72 b72 trivial ?_
 obtain⟨T,hT⟩: ∃T,T= #[vl,.func (.yield L) #[] #[]]++Array.replicate (fn72.ntmps-2) undef:=⟨_,rfl⟩
 show Code.wpIn _ _ _ _ _ ⟨#[vl,.func (.yield L) #[] #[]]++Array.replicate (fn72.ntmps-2) undef,[]⟩ W
 rw[←hT]
 have hsz:T.size=39:=by rw[hT,n72];simp
 have t0:T[0]? =some vl:=by rw[hT];exact(Array.getElem?_append_left (show 0<2 by decide)).trans rfl
 have t1:T[1]? =some (.func (.yield L) #[] #[]):=by rw[hT];exact(Array.getElem?_append_left (show 1<2 by decide)).trans rfl
 refine wpIn_seq (o3w (k:=0) (by kernel_rfl) (q4f (n0:=q.turn) (n1:=q.first) (n2:=q.br) (n3:=q.s.n) (b4:=q.s.A) (n5:=q.s.h) (b6:=q.s.o) (l7:=q.s.K) (l8:=q.s.W) (n9:=(fndN q.s 0).2) (l10:=(fndN q.s 0).1)) rfl (mayW h3h) hr
  (LRel.only [0] (by rw[hsz];rfl) (by kernel_rfl) (by intro i h v v' e e';cases List.mem_singleton.1 h;cases e;rw[t0]at e';cases e';exact j3p hv (by decide) hi.fr)) ?_)
 intro T1 W1 r1 σ1 a1 a2 a3 a4
 have e10:=a3.int (i:=10) (k:=.i64) (n:=imax (IntKind.wrap .i64 ((q.s.K.length:Int)-2)) 0) rfl
 rw[h4g hs ho hW hT0 hL hne]at e10
 have h1:SR q r0 σ0 w0 L D (recL fn T0 D .ready) vl 0 (fndN q.s 0) [] r1 σ1 T1 W1:=⟨a3.size.symm.trans rfl,(a4 0 (h3m k15_5 (by decide))).trans t0,(a4 1 (h3m k15_5 (by decide))).trans t1,e10,a3.int (i:=11) rfl,fun lg=>a1 lg,hi.step a2 (by simp[P_p5]),hv⟩
 refine wpIn_block (wpIn_loop_rounds (room q.s+1) (u3m hs ho hW hT0 hL hne (fun T2 W2 r2 σ2 h2=> ?_) (room q.s) 0 ⟨T1,[]⟩ W1 (by omega) (by omega) ⟨rfl,r1,σ1,h1⟩))
 have e:resV Try.prog fn72 (List.replicate 39 .dead) ⟨B7 q (fndN q.s (room q.s))++[],[]⟩=some (.tup []):=by unfold resV;rw[s72];rfl
 obtain⟨v,hv1,_⟩:=o3c (h2.hr []) (LRel.only (r:=r2) (σ:=σ2) (l:=List.replicate 39 .dead) (T:=T2) [] (by rw[h2.sz];rfl) (by kernel_rfl) (by simp)) e
 exact⟨rfl,v,hv1,hR _ W2 r2 σ2 (fun lg=>by have:=h2.hr lg;rwa [List.append_nil]at this) h2.hi⟩
end
end Go.Proofs.Ytoehlcomhpnjgaa.Vx
noncomputable section
namespace Go.Proofs.Ytoehlcomhpnjgaa.Vx
open Go Go.RowKit
set_option linter.unusedVariables false
set_option linter.unusedSimpArgs false
set_option maxRecDepth 100000
set_option maxHeartbeats 4000000
attribute [local go_sem] Oper.semAt_some
def sl39f:List PV:=sh 58 [(0,.ptr 0 0),(3,.ptr 4 0),(4,.ptr 5 0),(12,fnR)]
theorem run72 (args:Array Value)(w:World):(callFunc 72 args).run Try.prog w=.ok (.enter 72 args) w:=by
 have hp:(program).run Try.prog w=.ok Try.prog w:=rfl
 have hn:(fn72.name== "runtime.NumGoroutine")=false:=by kernel_rfl
 simp only[callFunc,Sem.run_bind,Sem.run_pure,Result.andThen_ok,hp,f72]
 simp[hn,b72]
section
variable {q:FQ} {r:RM} {σ:Snap} {W:World} {T:Array Value} {m:Nat}
variable (hs:DH q.s) (ho:q.s.o=false) (hW:q.s.W.length≤100000)
include hs ho hW
theorem r4u {Q:Exit→Act→World→Prop}(hr: ∀lg,Rel r σ ⟨B7 q (fndN q.s 0),lg⟩ W)(hT:LRel r σ (instL sl39f []) T)
  (hQ: ∀D W' r' σ',(∀lg,Rel r' σ' ⟨B7 q (fndN q.s (room q.s)),lg⟩ W')→FrameK 7 [4,6] r r' σ σ' W W'→NA r' W' D→W.heap.size≤D→W'.heap[D]? =some (.deferred (some []))→LRel r' σ' (instL sl39 []) T→Q .normal ⟨T,[{target:=.collected D,args:= #[]}]⟩ W'):
  (Code.rangeFunc (.tmp 12) #[13,14] c_p3 c_p4).wpIn Fence.wide m Try.prog Q ⟨T,[]⟩ W:=by
 have hT0:LRel r σ (instL sl39 []) T:=hT.pick [0,3,4] rfl (by kernel_rfl) (by intro i h;simp at h;rcases h with rfl|rfl|rfl<;>rfl)
 obtain⟨vf,ef,hf⟩:=hT.get (i:=12) rfl
 obtain⟨vl,rfl,hvl⟩: ∃vl,vf=.func (.func 72) #[vl] #[]∧VRel r σ (.ptr 0 0) vl:=by
  cases hf with
  |fn _ _ _ fs' cs' h1 h2 h3 h4=>
   have z1:fs'.size=1:=h1.symm
   have z2:cs'= #[]:=Array.eq_empty_of_size_eq_zero h3.symm
   subst z2
   obtain⟨a,rfl⟩: ∃a,fs'= #[a]:=⟨fs'[0],by apply Array.ext<;>simp[z1];intro i hi;cases(show i=0 by omega);rfl⟩
   exact⟨a,rfl,h2 0 _ _ rfl rfl⟩
 refine wpIn_rangeFunc ?_
 intro fn hfn
 obtain⟨L,hL⟩: ∃L,L=W.heap.size+1:=⟨_,rfl⟩
 obtain⟨D,hD⟩: ∃D,D=W.heap.size:=⟨_,rfl⟩
 obtain⟨W1,hW1⟩: ∃W1,(W.alloc (.deferred (some []))).alloc (.loop (recL fn T D .ready))=W1:=⟨_,rfl⟩
 have hL1:W1.heap[L]? =some (.loop (recL fn T D .ready)):=by
  rw[←hW1,hL];have:=World.alloc_heap_new (W.alloc (.deferred (some []))) (.loop (recL fn T D .ready));rwa [World.size_alloc]at this
 have hK1:W1.heap[D]? =some (.deferred (some [])):=by
  rw[←hW1,hD];exact(Below.heap_alloc _ _ _ (by simp)).trans (World.alloc_heap_new W _)
 have hsz:W1.heap.size=W.heap.size+2:=by rw[←hW1];simp
 have hb1:Below W.heap.size W W1:=by
  rw[←hW1];exact(((Below.refl _ W).alloc (Nat.le_refl _) _).alloc (by simp) _)
 have na: ∀j,W.heap.size≤j→j<W1.heap.size→NA r W1 j:=fun j h1 h2=>⟨h2,fun b hb=>by have:=(hr []).inb b j hb;omega⟩
 have hi:IvR r σ W L D (recL fn T D .ready) r σ W1:=⟨(FrameK.refl 7 [4,6] r σ W).later hb1.os hb1.tape hb1.output hb1.size hb1.block,na L (by omega) (by omega),na D (by omega) (by omega),hL1,hK1⟩
 refine⟨L,[{target:=.collected D,args:= #[]}],W1,{target:=.fn (.func 72) #[],args:= #[vl,.func (.yield L) #[] #[]]},W1,72,#[vl,.func (.yield L) #[] #[]],W1,?_,?_,fun _ _=>trivial,?_,(fun h=>by cases h),?_⟩
 ·rw[←hW1,hL,hD];exact run_enterLoop_outer _ _ _ _ _
 ·simp only[resolve,w3p ef]
  simp[go_sem]
 ·simp[invoke,go_sem,run72]
 ·refine e4h hs ho hW hT0 (by omega) (by omega) hvl (fun lg=>(KR.below hb1).rel _ _ _ (hr lg)) hi fun v W2 r2 σ2 a1 a2=> ?_
  have he:=run_endLoop (P:=Try.prog) a2.hl (by simp[recL])
  have i2:=a2.put (by omega) (by omega) {recL fn T D .ready with state:=.exhausted}
  refine⟨none,_,he,hQ D _ r2 σ2 (fun lg=>(a2.kr _).rel _ _ _ (a1 lg)) i2.fr i2.nd (by omega) i2.hd ?_⟩
  refine LRel.only [0,3,4] (by rw[←hT0.size]) (by kernel_rfl) ?_
  intro i hi v v' e e'
  simp only[List.mem_cons,List.not_mem_nil,or_false]at hi
  rcases hi with rfl|rfl|rfl
  ·cases e;exact j3p (hT0.at_ 0 _ v' rfl e') (by decide) i2.fr
  ·cases e;exact j3p (hT0.at_ 3 _ v' rfl e') (by decide) i2.fr
  ·cases e;exact j3p (hT0.at_ 4 _ v' rfl e') (by decide) i2.fr
end
end Go.Proofs.Ytoehlcomhpnjgaa.Vx
noncomputable section
namespace Go.Proofs.Ytoehlcomhpnjgaa.Vx
open Go Go.RowKit
set_option linter.unusedVariables false
set_option linter.unusedSimpArgs false
set_option maxRecDepth 100000
set_option maxHeartbeats 0
def q3h (s:DS)(i:Nat):Ty.den TRec:=match tR (bkOf s (2+i))with
 |some x=>mkR x.1 x.2
 |none=>zR
theorem k3f {s:DS}{p:Nat}{x:Int×List Int}(h:tR (bkOf s (2+p))=some x):fndN s (p+1)=((fndN s p).1.set p (mkR x.1 x.2),imax (fndN s p).2 x.1):=by
 show(match tR (bkOf s (2+p))with|some x=>_|none=>_)=_;rw[h]
theorem l3l {s:DS}{p:Nat}(h:tR (bkOf s (2+p))=none):fndN s (p+1)=fndN s p:=by
 show(match tR (bkOf s (2+p))with|some x=>_|none=>_)=_;rw[h]
theorem n4d (s:DS): ∀p i,i<room s→(fndN s p).1.getD i zR=if i<p then q3h s i else zR
 |0,i,hi=>by
  rw[if_neg (by omega)]
  show(List.replicate (room s) zR).getD i zR=zR
  simp[List.getD_eq_getElem?_getD,List.getElem?_replicate,hi]
 |p+1,i,hi=>by
  have ih:=n4d s p i hi
  have hl:=m3a s p
  have e1:(i<p+1)=(i<p∨i=p):=by simp;omega
  cases hr:tR (bkOf s (2+p))with
  |none=>
   rw[l3l hr,ih]
   by_cases e:i=p
   ·subst e
    rw[if_neg (by omega),if_pos (by omega)]
    unfold q3h;rw[hr]
   ·by_cases h:i<p
    ·rw[if_pos h,if_pos (by omega)]
    ·rw[if_neg h,if_neg (by omega)]
  |some x=>
   rw[k3f hr]
   by_cases e:i=p
   ·subst e
    rw[if_pos (by omega)]
    unfold q3h;rw[hr]
    simp[List.getD_eq_getElem?_getD,List.getElem?_set,hl,hi]
   ·have:((fndN s p).1.set p (mkR x.1 x.2)).getD i zR=(fndN s p).1.getD i zR:=by simp[List.getD_eq_getElem?_getD,List.getElem?_set,Ne.symm e]
    show((fndN s p).1.set p (mkR x.1 x.2)).getD i zR=_
    rw[this,ih]
    by_cases h:i<p
    ·rw[if_pos h,if_pos (by omega)]
    ·rw[if_neg h,if_neg (by omega)]
theorem fnd_all (s:DS){i:Nat}(hi:i<room s):(fndN s (room s)).1.getD i zR=q3h s i:=by rw[n4d s _ i hi,if_pos hi]
theorem apL1 {α:Type}(l:List α)(x:α):(apL l [x]).length=l.length+1:=by show(l++[x]).length=_;simp
theorem i3u {s:DS}{first:Int}{f:Nat}{R:LBs}(h: ∀x,tR (bkOf s (2+plc s (first+R.length)))=some x→x.1≠first+R.length):recN s first (f+1) R=R:=by
 show(match tR (bkOf s (2+plc s (first+R.length)))with|some x=>_|none=>_)=_
 cases e:tR (bkOf s (2+plc s (first+R.length)))with
 |none=>rfl
 |some x=>exact if_neg (h x e)
theorem o3p {s:DS}{first:Int}{f:Nat}{R:LBs}{x:Int×List Int}(h:tR (bkOf s (2+plc s (first+R.length)))=some x)(h2:x.1=first+R.length):recN s first (f+1) R=recN s first f (apL R [x.2]):=by
 show(match tR (bkOf s (2+plc s (first+R.length)))with|some x=>_|none=>_)=_
 rw[h];exact if_pos h2
theorem lenN (s:DS)(first:Int): ∀f R,(recN s first f R).length≤f+R.length
 |0,R=>by simp[recN]
 |f+1,R=>by
  by_cases h: ∃x,tR (bkOf s (2+plc s (first+R.length)))=some x∧x.1=first+R.length
  ·obtain⟨x,h1,h2⟩:=h
   rw[o3p h1 h2]
   have:=lenN s first f (apL R [x.2])
   have e:List.length (apL R [x.2])=List.length R+1:=apL1 R x.2
   omega
  ·rw[i3u fun x h1 h2=>h ⟨x,h1,h2⟩];omega
theorem k3l {s:DS}(hs:DH s):imax (IntKind.wrap .i64 ((↑(List.length s.K):Int)-(2:Int))) (0:Int)=(room s:Int):=by
 have hK:s.K.length≤4096:=hs.kl
 rw[w64 (by omega) (by omega)]
 unfold room imax
 split<;>omega
section
variable {q:FQ} (hs:DH q.s) (hf:1≤q.first) (hf2:q.first≤4611686018427387904)
include hs hf hf2
theorem p2_8s: ∀(f:Nat) (R:LBs) (fuel:Nat),f+R.length=room q.s→f<fuel→a0b l3e fuel [.k 0,.n q.turn,.n q.first,.n q.br,.n q.s.n,.b q.s.A,.n q.s.h,.b q.s.o,.l TBk q.s.K,.l TWr q.s.W,.n (fndN q.s (room q.s)).2,.l TBs R,.l TRec (fndN q.s (room q.s)).1]=
  some (0,[.n q.turn,.n q.first,.n q.br,.n q.s.n,.b q.s.A,.n q.s.h,.b q.s.o,.l TBk q.s.K,.l TWr q.s.W,.n (fndN q.s (room q.s)).2,.l TBs (recN q.s q.first f R)])
 |_,_,0,_,h=>by omega
 |0,R,fuel+1,h,_=>by
  refine c0a (c4f ?_)
  rw[k3l hs];omega
 |f+1,R,fuel+1,h,hu=>by
  have hK:q.s.K.length≤4096:=hs.kl
  have hrm:room q.s≤4096:=by unfold room;omega
  have e1:IntKind.wrap .i64 (q.first+(↑(List.length R):Int))=q.first+(↑(List.length R):Int):=w64 (by omega) (by omega)
  have e2:IntKind.wrap .i64 (q.first+(↑(List.length R):Int)-1)=q.first+(↑(List.length R):Int)-1:=w64 (by omega) (by omega)
  have hm:=k3l hs
  have hpl:plc q.s (q.first+R.length)<room q.s:=by
   unfold plc
   have h1:=Int.emod_nonneg (q.first+R.length-1) (show(room q.s:Int)≠0 by omega)
   have h2:=Int.emod_lt_of_pos (q.first+R.length-1) (show 0<(room q.s:Int) by omega)
   omega
  have e3:Int.tmod (IntKind.wrap .i64 (IntKind.wrap .i64 (q.first+(↑(List.length R):Int))-(1:Int))) (imax (IntKind.wrap .i64 ((↑(List.length q.s.K):Int)-(2:Int))) (0:Int))=(plc q.s (q.first+R.length):Int):=by
   rw[e1,e2,hm,Int.tmod_eq_emod_of_nonneg (by omega)]
   unfold plc
   have h1:=Int.emod_nonneg (q.first+R.length-1) (show(room q.s:Int)≠0 by omega)
   omega
  have g0:(↑(List.length R):Int)<imax (IntKind.wrap .i64 ((↑(List.length q.s.K):Int)-(2:Int))) (0:Int):=by rw[hm];omega
  have g1:inR (Int.tmod (IntKind.wrap .i64 (IntKind.wrap .i64 (q.first+(↑(List.length R):Int))-(1:Int))) (imax (IntKind.wrap .i64 ((↑(List.length q.s.K):Int)-(2:Int))) (0:Int))) (List.length (fndN q.s (room q.s)).1)=true:=by
   rw[e3,m3a];unfold inR;simp;exact hpl
  have e4:List.getD (fndN q.s (room q.s)).1 (Int.toNat (Int.tmod (IntKind.wrap .i64 (IntKind.wrap .i64 (q.first+(↑(List.length R):Int))-(1:Int))) (imax (IntKind.wrap .i64 ((↑(List.length q.s.K):Int)-(2:Int))) (0:Int)))) (Ty.dflt TRec)=q3h q.s (plc q.s (q.first+R.length)):=by
   rw[e3];exact fnd_all q.s hpl
  by_cases hx: ∃x,tR (bkOf q.s (2+plc q.s (q.first+R.length)))=some x∧x.1=q.first+R.length
  ·obtain⟨x,h1,h2⟩:=hx
   have e5:q3h q.s (plc q.s (q.first+R.length))=mkR x.1 x.2:=by unfold q3h;rw[h1]
   rw[o3p h1 h2]
   have key: ∀(y:Ty.den TRec),List.getD (fndN q.s (room q.s)).1 (Int.toNat (Int.tmod (IntKind.wrap .i64 (IntKind.wrap .i64 (q.first+(↑(List.length R):Int))-(1:Int))) (imax (IntKind.wrap .i64 ((↑(List.length q.s.K):Int)-(2:Int))) (0:Int)))) (Ty.dflt TRec)=y→rkI y=IntKind.wrap .i64 (q.first+(↑(List.length R):Int))→
     (l3e [.k 0,.n q.turn,.n q.first,.n q.br,.n q.s.n,.b q.s.A,.n q.s.h,.b q.s.o,.l TBk q.s.K,.l TWr q.s.W,.n (fndN q.s (room q.s)).2,.l TBs R,.l TRec (fndN q.s (room q.s)).1]).sel=some (Step.go [.k 0,.n q.turn,.n q.first,.n q.br,.n q.s.n,.b q.s.A,.n q.s.h,.b q.s.o,.l TBk q.s.K,.l TWr q.s.W,.n (fndN q.s (room q.s)).2,.l TBs (apL R [rkB y]),.l TRec (fndN q.s (room q.s)).1]):=by
    intro y hy h;subst hy
    exact e4j g0 g1 h (by omega)
   rw[v0e (key (mkR x.1 x.2) (e4.trans e5) (by rw[e1];exact h2))]
   exact p2_8s f (apL R [x.2]) fuel (by have:List.length (apL R [x.2])=List.length R+1:=apL1 R x.2;omega) (by omega)
  ·rw[i3u fun x h1 h2=>hx ⟨x,h1,h2⟩]
   refine c0a (c4w g0 g1 fun q1=> ?_)
   have q2:rkI (q3h q.s (plc q.s (q.first+R.length)))=q.first+(↑(List.length R):Int):=((congrArg rkI e4).symm.trans q1).trans e1
   unfold q3h at q2
   cases h1:tR (bkOf q.s (2+plc q.s (q.first+R.length)))with
   |some x=>rw[h1]at q2;exact hx ⟨x,h1,q2⟩
   |none=>rw[h1]at q2;have q3:(0:Int)=q.first+R.length:=q2;omega
theorem p2_8:q3f [.k 0,.n q.turn,.n q.first,.n q.br,.n q.s.n,.b q.s.A,.n q.s.h,.b q.s.o,.l TBk q.s.K,.l TWr q.s.W,.n (fndN q.s (room q.s)).2,.l TBs [],.l TRec (fndN q.s (room q.s)).1]=
  some (0,[.n q.turn,.n q.first,.n q.br,.n q.s.n,.b q.s.A,.n q.s.h,.b q.s.o,.l TBk q.s.K,.l TWr q.s.W,.n (k3r q.s),.l TBs (recS q.s q.first)]):=by
 have hK:q.s.K.length≤4096:=hs.kl
 rw[b4p]
 exact p2_8s hs hf hf2 (room q.s) [] FU rfl (b1w (by unfold room;omega))
theorem p2_says:(ev_p2 (q.e7 (fndN q.s (room q.s)))).sel=some (0,[.n (frE q.s q.first),.n q.turn,.n q.first,.n q.br,.n q.s.n,.b q.s.A,.n q.s.h,.b q.s.o,.l TBk q.s.K,.l TWr q.s.W,.l TBs (recS q.s q.first)]):=by
 have hK:q.s.K.length≤4096:=hs.kl
 have hl:(recS q.s q.first).length≤room q.s:=lenN q.s q.first (room q.s) []
 have hrm:room q.s≤4096:=by unfold room;omega
 have e1:IntKind.wrap .i64 (q.first+(↑(List.length (recS q.s q.first)):Int))=q.first+(↑(List.length (recS q.s q.first)):Int):=w64 (by omega) (by omega)
 have e:=p2_8 hs hf hf2
 unfold frE
 by_cases h:k3r q.s>q.first+(recS q.s q.first).length
 ·rw[if_pos h];exact r4x e (by rw[e1];exact h)
 ·rw[if_neg h];exact u4c e (by rw[e1];exact h)
end
end Go.Proofs.Ytoehlcomhpnjgaa.Vx
end
noncomputable section
namespace Go.Proofs.Ytoehlcomhpnjgaa.Vx
open Go Go.RowKit
set_option linter.unusedVariables false
set_option linter.unusedSimpArgs false
set_option maxRecDepth 100000
set_option maxHeartbeats 4000000
attribute [local go_sem] Oper.semAt_some
theorem e4a {f:FuncId}{args:List PV}{blks:List PB}{log:List Nat}{outs:List (PV×List PB)}{op:OpA}(h: ∀env k d,op env=some (k,d)→ ∃o,outs[k]? =some o∧blks.length≤o.2.length∧ ∀(r:RM) (σ:Snap) (w:World) (args':Array Value),(∀lg,Rel r σ ⟨instBs blks env,lg⟩ w)→LRel r σ (instL args env) args'→
      Calls Try.prog f args' w fun e w'=> ∃v' r' σ',e=.returned v'∧(∀lg,Rel r' σ' ⟨instBs o.2 d,lg⟩ w')∧FrameK blks.length log r r' σ σ' w w'∧VRel r' σ' (instV o.1 d) v'):a0v Try.prog f (a0j (mkF args blks log outs op)):=by
  intro a0 s v s1 hrun hlog r σ w args' hr ha
  unfold a0j at hrun
  split at hrun
  · rename_i env henv
    obtain⟨⟨k,d⟩,h1,h2⟩:=Tree.bind_some hrun
    have h1':=i0g h1
    obtain⟨o,ho,hlen,hc⟩:=h env k d h1'
    obtain⟨_,f2,f3⟩:=c1f henv hr ha []
    have h2':instV o.1 d=v∧(⟨instBs o.2 d,log⟩:SW)=s1:=by
      have:(match outs[k]? with|some o=>Tree.leaf (instV o.1 d,(⟨instBs o.2 d,log⟩:SW))|none=>.bad 321).sel=some (v,s1):=h2
      rw[ho]at this
      simp only[Tree.sel,Option.some.injEq,Prod.mk.injEq]at this
      exact this
    obtain⟨rfl,rfl⟩:=h2'
    refine(hc r σ w args' (fun lg=>(c1f henv hr ha lg).1) f2).mono ?_
    rintro e w' ⟨v',r',σ',rfl,g1,g2,g3⟩
    have hK:s.len=blks.length:=f3.symm
    refine⟨v',rfl,r',σ',g1 _,by rw[hK];exact g2,g3,(fun x hx _=>by rw[hlog]at hx;cases hx),?_⟩
    show s.len≤(instBs o.2 d).length
    rw[hK,show(instBs o.2 d).length=o.2.length by simp[instBs]]
    exact hlen
  · simp[Tree.sel]at hrun
structure FrOk (q:FQ):Prop where
 h:DH q.s
 o:q.s.o=false
 w:q.s.W.length≤100000
 f1:1≤q.first
 f2:q.first≤4611686018427387904
def FQ.e4' (q:FQ)(R:LBs):List Dat:=[.n (frE q.s q.first),.n q.turn,.n q.first,.n q.br,.n q.s.n,.b q.s.A,.n q.s.h,.b q.s.o,.l TBk q.s.K,.l TWr q.s.W,.l TBs R]
def S_fr:BSh:={args:=[.ptr 0 0],blks:=[logB 0 1 .nilsl,dkB 2 3 3,.arr TBk 7,.arr TWr 8],log:=[0],outs:=[(.int .i64 0,[logB 1 1 (.own 4),dkB 2 3 4,.arr TBk 8,.arr TWr 9,.arr TBs 10])]}
theorem t4j {q:FQ}(hq:FrOk q){r:RM}{σ:Snap}{w:World}{args':Array Value}(hr: ∀lg,Rel r σ ⟨instBs S_fr.blks q.e4,lg⟩ w)(ha:LRel r σ (instL S_fr.args q.e4) args'):
  Calls Try.prog 39 args' w fun e w'=> ∃v' r' σ',e=.returned v'∧(∀lg,Rel r' σ' ⟨instBs [logB 1 1 (.own 4),dkB 2 3 4,.arr TBk 8,.arr TWr 9,.arr TBs 10] (q.e4' (recS q.s q.first)),lg⟩ w')∧FrameK 4 [0] r r' σ σ' w w'∧VRel r' σ' (.int .i64 (frE q.s q.first)) v':=by
 obtain⟨hs,ho,hW,hf1,hf2⟩:=hq
 have hK:q.s.K.length≤4096:=hs.kl
 refine(callsIn_wide (n:=1)).1 (callsIn_of_wp_marks f39 b39 trivial ?_)
 have hz:args'.size=1:=ha.size.symm
 obtain⟨T,hT⟩: ∃T,T=args'++Array.replicate (fn39.ntmps-args'.size) undef:=⟨_,rfl⟩
 rw[←hT]
 have hsz:T.size=58:=by rw[hT,n39];simp[hz]
 have ht:LRel r σ (instL P_p10.t q.e4) T:=LRel.only [0] (by rw[hsz];rfl) (by kernel_rfl) (by
  intro i h v v' e e';cases List.mem_singleton.1 h;cases e
  rw[hT,Array.getElem?_append_left (by omega)]at e'
  exact ha.at_ 0 _ v' rfl e')
 have pc: ∀{c:Code} {ls:b0u} {S:PSh},LsOk Try.prog S.K ls c→Nat.ble S.K S.blks.length=true→True:=fun _ _=>trivial
 refine wpIn_seq (wpIn_wide.2 (n4a (k:=0) h3h h4d (by kernel_rfl) (k4v (n0:=q.turn) (n1:=q.first) (n2:=q.br) (n3:=q.s.n) (b4:=q.s.A) (n5:=q.s.h) (b6:=q.s.o) (l7:=q.s.K) (l8:=q.s.W)) rfl hr ht ?_))
 intro T1 W1 r1 σ1 a1 a2 a3
 refine wpIn_seq (wpIn_wide.2 (n4a (k:=0) h3h g4n (by kernel_rfl) (k4h (n0:=q.turn) (n1:=q.first) (n2:=q.br) (n3:=q.s.n) (b4:=q.s.A) (n5:=q.s.h) (b6:=q.s.o) (l7:=q.s.K) (l8:=q.s.W)) rfl a1 a3 ?_))
 intro T2 W2 r2 σ2 c1 c2 c3
 refine wpIn_seq (wpIn_wide.2 (n4a (k:=0) h3h l4u (by kernel_rfl) (p4d (n0:=q.turn) (n1:=q.first) (n2:=q.br) (n3:=q.s.n) (b4:=q.s.A) (n5:=q.s.h) (b6:=q.s.o) (l7:=q.s.K) (l8:=q.s.W) (n9:=0) ?_) rfl c1 c3 ?_))
 ·rw[k3l hs];unfold room;simp;omega
 intro T3 W3 r3 σ3 d1 d2 d3
 refine wpIn_seq (wpIn_seq (wpIn_wide.2 (n4a (k:=0) h3h j4b (by kernel_rfl) (m4e (n0:=q.turn) (n1:=q.first) (n2:=q.br) (n3:=q.s.n) (b4:=q.s.A) (n5:=q.s.h) (b6:=q.s.o) (l7:=q.s.K) (l8:=q.s.W) (n9:=0)) rfl d1 d3 ?_)))
 intro T4 W4 r4 σ4 e1 e2 e3
 have e1': ∀lg,Rel r4 σ4 ⟨B7 q (fndN q.s 0),lg⟩ W4:=fun lg=>by
  have:=e1 lg
  rw[k3l hs,l2h]at this
  exact this
 refine wpIn_block (r4u hs ho hW e1' (e3.pick [0,3,4,12] rfl (by kernel_rfl) (by intro i h;simp at h;rcases h with rfl|rfl|rfl|rfl<;>rfl)) ?_)
 intro D W5 r5 σ5 g1 g2 g3 g0 g4 g5
 refine wpIn_wide.2 (n4a (k:=0) h3h t4r (by kernel_rfl) (p2_says hs hf1 hf2) rfl g1 g5 ?_)
 intro T6 W6 r6 σ6 h1 h2 h3
 obtain⟨g3',g4'⟩:=g3.step h2
 have hd:W6.heap[D]? =some (.deferred (some [])):=g4'.trans g4
 have k1:KR W6 (W6.putObj D (.deferred none)):=KR.putObj W6 D _ _ hd rfl rfl
 have h1': ∀lg,Rel r6 σ6 ⟨instBs [logB 1 1 (.own 4),dkB 2 3 4,.arr TBk 8,.arr TWr 9,.arr TBs 10] (q.e4' (recS q.s q.first)),lg⟩ (W6.putObj D (.deferred none)):=fun lg=>k1.rel _ _ _ (h1 lg)
 have hv:resV Try.prog fn39 (instL (sh 58 [(2,.int .i64 0)]) (q.e4' (recS q.s q.first))) ⟨instBs [logB 1 1 (.own 4),dkB 2 3 4,.arr TBk 8,.arr TWr 9,.arr TBs 10] (q.e4' (recS q.s q.first)),[]⟩=some (.int .i64 (frE q.s q.first)):=by unfold resV;rw[s39];rfl
 obtain⟨v',hv1,hv2⟩:=o3c (h1' []) h3 hv
 have m1:FrameK 4 [0] r r1 σ σ1 w W1:=a2.more fun b h _=>by simp[P_p10]at h
 have m2:FrameK 4 [0] r1 r2 σ1 σ2 W1 W2:=c2.more fun b h _=>by simp[P_p11]at h
 have m3:FrameK 4 [0] r2 r3 σ2 σ3 W2 W3:=d2.more fun b h _=>by simp[P_p12]at h
 have m4:FrameK 4 [0] r3 r4 σ3 σ4 W3 W4:=e2.more fun b h _=>by simp[P_p13]at h
 have m5:FrameK 4 [0] r4 r5 σ4 σ5 W4 W5:=g2.down (by decide) fun b hb=>.inr (by simp at hb;omega)
 have m6:FrameK 4 [0] r5 r6 σ5 σ6 W5 W6:=h2
 have fr:FrameK 4 [0] r r6 σ σ6 w W6:=((((m1.trans m2 fun _ h _=>h).trans m3 fun _ h _=>h).trans m4 fun _ h _=>h).trans m5 fun _ h _=>h).trans m6 fun _ h _=>h
 have hD:w.heap.size≤D:=Nat.le_trans (Nat.le_trans (Nat.le_trans a2.size c2.size) (Nat.le_trans d2.size e2.size)) g0
 exact⟨(fun h=>by cases h),.inl ⟨D,_,rfl,run_takeDeferred hd,v',hv1,v',r6,σ6,rfl,h1',fr.put hD _,hv2⟩⟩
theorem e4_inj {q q':FQ}(h:q.e4=q'.e4):q=q':=by
 obtain⟨a,b,c,n,A,hh,o,K,W⟩:=q
 obtain⟨a',b',c',n',A',hh',o',K',W'⟩:=q'
 simp only[FQ.e4,List.cons.injEq,Dat.n.injEq,Dat.b.injEq,Dat.l.injEq,true_and,and_true,heq_eq_eq]at h
 obtain⟨rfl,rfl,rfl,rfl,rfl,rfl,rfl,rfl,rfl⟩:=h
 rfl
open Classical in
def o3i:OpA:=fun env=>if h: ∃q:FQ,env=q.e4∧FrOk q then some (0,(Classical.choose h).e4' (recS (Classical.choose h).s (Classical.choose h).first))else none
theorem n4y {q:FQ}(hq:FrOk q):o3i q.e4=some (0,q.e4' (recS q.s q.first)):=by
 have h: ∃q':FQ,q.e4=q'.e4∧FrOk q':=⟨q,rfl,hq⟩
 have e:Classical.choose h=q:=(e4_inj (Classical.choose_spec h).1).symm
 unfold o3i
 rw[dif_pos h,e]
theorem fr_ok:a0v Try.prog 39 (a0j (mkF S_fr.args S_fr.blks S_fr.log S_fr.outs o3i)):=by
 refine e4a fun env k d he=> ?_
 unfold o3i at he
 split at he
 ·rename_i h
  obtain⟨h1,h2⟩:=Classical.choose_spec h
  generalize Classical.choose h=q at he h1 h2
  cases he
  subst h1
  exact⟨_,rfl,by decide,fun r σ w args' hr ha=>t4j h2 hr ha⟩
 ·cases he
theorem opq15 (f:OpA): ∃g:OpA,∀env,g env=f env:=⟨f,fun _=>rfl⟩
def s3y:OpA:=Classical.choose (opq15 o3i)
theorem b4c:s3y=o3i:=funext (Classical.choose_spec (opq15 o3i))
theorem s4t {q:FQ}(hq:FrOk q):s3y q.e4=some (0,q.e4' (recS q.s q.first)):=by rw[b4c];exact n4y hq
def cs_fr:FuncId→Option a0q:=e1c 39 [S_fr.k s3y] m3b
theorem t4c:CsOk Try.prog cs_fr:=csB i3h (by rw[b4c];exact fr_ok)
end Go.Proofs.Ytoehlcomhpnjgaa.Vx
noncomputable section
namespace Go.Proofs.Ytoehlcomhpnjgaa.Vx
open Go Go.RowKit
set_option linter.unusedVariables false
set_option linter.unusedSimpArgs false
set_option maxRecDepth 100000
set_option maxHeartbeats 0
def cs_fho:FuncId→Option a0q:=e1c 38 [S_fh.k k3q] cs_fr
theorem p4k:CsOk Try.prog cs_fho:=csA1 t4c e_fh
def S_wo:BSh:={args:=[.ptr 0 0],blks:=[dkB 1 2 0,.arr TBk 4,.arr TWr 5],log:=[0,1,2],outs:=[(.tup [.nilptr,.int .i64 0],[dkB 1 2 1,.arr TBk 5,.arr TWr 6]),(.tup [.nilptr,.int .i64 0],[dkB 1 3 1,.arr TBk 5,.gone,.arr TWr 6]),(.tup [.ptr 3 0,.int .i64 0],[dkB 1 2 1,.arr TBk 5,.arr TWr 6,logB 7 0 (.own 4),.arr TBs 10]),(.tup [.ptr 3 0,.int .i64 0],[dkB 1 4 1,.arr TBk 5,.gone,logB 6 0 (.own 5),.arr TWr 9,.arr TBs 10])]}
def ev_wo:List Dat→Tree (Nat×List Dat):=evFV [(some 0,1,.own TWr)] cs_fho 10 ls0 S_wo
theorem e_wo: ∃op,IsF ev_wo 10 S_wo op:=bxFV p4k (LsOk.none _ _ _)
def h3i:OpA:=opF e_wo
theorem t4s {n0:Int}{b1:Bool}{n2:Int}{b3:Bool}{l4:List (Ty.den TBk)}{l5:List (Ty.den TWr)}(h0:((↑(List.length l4):Int)<(3:Int))):h3i [.n n0,.b b1,.n n2,.b b3,.l TBk l4,.l TWr l5]=some ((0,[.n (2:Int),.n n0,.b b1,.n n2,.b b3,.l TBk l4,.l TWr l5])):=t0c e_wo (sP [0,1,0,1]<|sT (dt h0)<|sP [1]<|sL)
theorem q4a {n0:Int}{b1:Bool}{n2:Int}{b3:Bool}{l4:List (Ty.den TBk)}{l5:List (Ty.den TWr)}(h0:(¬(↑(List.length l4):Int)<(3:Int)))(h1:(b3=true)):h3i [.n n0,.b b1,.n n2,.b b3,.l TBk l4,.l TWr l5]=some ((0,[.n (140:Int),.n n0,.b b1,.n n2,.b b3,.l TBk l4,.l TWr l5])):=t0c e_wo (sP [0,1,0,1]<|sF (df h0)<|sP [1,0,1]<|sT h1<|sP [1]<|sL)
theorem p4x {n0:Int}{b1:Bool}{n2:Int}{b3:Bool}{l4:List (Ty.den TBk)}{l5:List (Ty.den TWr)}{n6 n7 n8 n9 n10:Int}{b11:Bool}{n12:Int}{b13:Bool}{l14:List (Ty.den TBk)}{l15:List (Ty.den TWr)}{n16 n17 n18 n19 n20:Int}{b21:Bool}{n22:Int}{b23:Bool}{l24:List (Ty.den TBk)}{l25:List (Ty.den TWr)}{l26:List (Ty.den TBs)}(h0:(¬(↑(List.length l4):Int)<(3:Int)))(h1:(b3=false))(h2:(k3q [.n (0:Int),.n (0:Int),.n (0:Int),.n n0,.b b1,.n n2,.b b3,.l TBk l4,.l TWr l5])=(some (0,[.n n6,.n n7,.n n8,.n n9,.n n10,.b b11,.n n12,.b b13,.l TBk l14,.l TWr l15])))(h3:(n6=(0:Int)))(h4:(s3y [.n n7,.n n8,.n n9,.n n10,.b b11,.n n12,.b b13,.l TBk l14,.l TWr l15])=(some (0,[.n n16,.n n17,.n n18,.n n19,.n n20,.b b21,.n n22,.b b23,.l TBk l24,.l TWr l25,.l TBs l26])))(h5:(¬n16=(0:Int))):h3i [.n n0,.b b1,.n n2,.b b3,.l TBk l4,.l TWr l5]=some ((0,[.n n16,.n n10,.b b11,.n n12,.b b13,.l TBk l14,.l TWr l15])):=t0c e_wo (sP [0,1,0,1]<|sF (df h0)<|sP [1,0,1]<|sF h1<|sP [1]<|sA h2<|sP [1,1]<|sT (bt h3)<|sP [1]<|sA h4<|sP [1,1]<|sT (bnt h5)<|sP [1]<|sL)
theorem q4n {n0:Int}{b1:Bool}{n2:Int}{b3:Bool}{l4:List (Ty.den TBk)}{l5:List (Ty.den TWr)}{n6 n7 n8 n9 n10:Int}{b11:Bool}{n12:Int}{b13:Bool}{l14:List (Ty.den TBk)}{l15:List (Ty.den TWr)}{n16 n17 n18 n19 n20:Int}{b21:Bool}{n22:Int}{b23:Bool}{l24:List (Ty.den TBk)}{l25:List (Ty.den TWr)}{l26:List (Ty.den TBs)}(h0:(¬(↑(List.length l4):Int)<(3:Int)))(h1:(b3=false))(h2:(k3q [.n (0:Int),.n (0:Int),.n (0:Int),.n n0,.b b1,.n n2,.b b3,.l TBk l4,.l TWr l5])=(some (0,[.n n6,.n n7,.n n8,.n n9,.n n10,.b b11,.n n12,.b b13,.l TBk l14,.l TWr l15])))(h3:(n6=(0:Int)))(h4:(s3y [.n n7,.n n8,.n n9,.n n10,.b b11,.n n12,.b b13,.l TBk l14,.l TWr l15])=(some (0,[.n n16,.n n17,.n n18,.n n19,.n n20,.b b21,.n n22,.b b23,.l TBk l24,.l TWr l25,.l TBs l26])))(h5:(n16=(0:Int))):h3i [.n n0,.b b1,.n n2,.b b3,.l TBk l4,.l TWr l5]=some ((2,[.n (0:Int),.n n10,.b b11,.n n12,.b b13,.l TBk l14,.l TWr l15,.n n17,.n n18,.n n19,.l TBs l26])):=t0c e_wo (sP [0,1,0,1]<|sF (df h0)<|sP [1,0,1]<|sF h1<|sP [1]<|sA h2<|sP [1,1]<|sT (bt h3)<|sP [1]<|sA h4<|sP [1,1]<|sF (bnf h5)<|sP [1]<|sL)
theorem a4l {n0:Int}{b1:Bool}{n2:Int}{b3:Bool}{l4:List (Ty.den TBk)}{l5:List (Ty.den TWr)}{n6 n7 n8 n9 n10:Int}{b11:Bool}{n12:Int}{b13:Bool}{l14:List (Ty.den TBk)}{l15:List (Ty.den TWr)}(h0:(¬(↑(List.length l4):Int)<(3:Int)))(h1:(b3=false))(h2:(k3q [.n (0:Int),.n (0:Int),.n (0:Int),.n n0,.b b1,.n n2,.b b3,.l TBk l4,.l TWr l5])=(some (0,[.n n6,.n n7,.n n8,.n n9,.n n10,.b b11,.n n12,.b b13,.l TBk l14,.l TWr l15])))(h3:(¬n6=(0:Int))):h3i [.n n0,.b b1,.n n2,.b b3,.l TBk l4,.l TWr l5]=some ((0,[.n n6,.n n10,.b b11,.n n12,.b b13,.l TBk l14,.l TWr l15])):=t0c e_wo (sP [0,1,0,1]<|sF (df h0)<|sP [1,0,1]<|sF h1<|sP [1]<|sA h2<|sP [1,1]<|sF (bf h3)<|sTs (c:=(n6 !=(0:Int)))<|sP [1]<|sL)
theorem q4v {n0:Int}{b1:Bool}{n2:Int}{b3:Bool}{l4:List (Ty.den TBk)}{l5:List (Ty.den TWr)}{n6 n7 n8 n9 n10:Int}{b11:Bool}{n12:Int}{b13:Bool}{l14:List (Ty.den TBk)}{l15:List (Ty.den TWr)}{n16 n17 n18 n19 n20:Int}{b21:Bool}{n22:Int}{b23:Bool}{l24:List (Ty.den TBk)}{l25:List (Ty.den TWr)}{l26:List (Ty.den TBs)}(h0:(¬(↑(List.length l4):Int)<(3:Int)))(h1:(b3=false))(h2:(k3q [.n (0:Int),.n (0:Int),.n (0:Int),.n n0,.b b1,.n n2,.b b3,.l TBk l4,.l TWr l5])=(some (1,[.n n6,.n n7,.n n8,.n n9,.n n10,.b b11,.n n12,.b b13,.l TBk l14,.l TWr l15])))(h3:(n6=(0:Int)))(h4:(s3y [.n n7,.n n8,.n n9,.n n10,.b b11,.n n12,.b b13,.l TBk l14,.l TWr l15])=(some (0,[.n n16,.n n17,.n n18,.n n19,.n n20,.b b21,.n n22,.b b23,.l TBk l24,.l TWr l25,.l TBs l26])))(h5:(¬n16=(0:Int))):h3i [.n n0,.b b1,.n n2,.b b3,.l TBk l4,.l TWr l5]=some ((1,[.n n16,.n n10,.b b11,.n n12,.b b13,.l TBk l14,.l TWr l15])):=t0c e_wo (sP [0,1,0,1]<|sF (df h0)<|sP [1,0,1]<|sF h1<|sP [1]<|sA h2<|sP [0,1,1]<|sT (bt h3)<|sP [1]<|sA h4<|sP [1,1]<|sT (bnt h5)<|sP [1]<|sL)
theorem p4w {n0:Int}{b1:Bool}{n2:Int}{b3:Bool}{l4:List (Ty.den TBk)}{l5:List (Ty.den TWr)}{n6 n7 n8 n9 n10:Int}{b11:Bool}{n12:Int}{b13:Bool}{l14:List (Ty.den TBk)}{l15:List (Ty.den TWr)}{n16 n17 n18 n19 n20:Int}{b21:Bool}{n22:Int}{b23:Bool}{l24:List (Ty.den TBk)}{l25:List (Ty.den TWr)}{l26:List (Ty.den TBs)}(h0:(¬(↑(List.length l4):Int)<(3:Int)))(h1:(b3=false))(h2:(k3q [.n (0:Int),.n (0:Int),.n (0:Int),.n n0,.b b1,.n n2,.b b3,.l TBk l4,.l TWr l5])=(some (1,[.n n6,.n n7,.n n8,.n n9,.n n10,.b b11,.n n12,.b b13,.l TBk l14,.l TWr l15])))(h3:(n6=(0:Int)))(h4:(s3y [.n n7,.n n8,.n n9,.n n10,.b b11,.n n12,.b b13,.l TBk l14,.l TWr l15])=(some (0,[.n n16,.n n17,.n n18,.n n19,.n n20,.b b21,.n n22,.b b23,.l TBk l24,.l TWr l25,.l TBs l26])))(h5:(n16=(0:Int))):h3i [.n n0,.b b1,.n n2,.b b3,.l TBk l4,.l TWr l5]=some ((3,[.n (0:Int),.n n10,.b b11,.n n12,.b b13,.l TBk l14,.n n17,.n n18,.n n19,.l TWr l15,.l TBs l26])):=t0c e_wo (sP [0,1,0,1]<|sF (df h0)<|sP [1,0,1]<|sF h1<|sP [1]<|sA h2<|sP [0,1,1]<|sT (bt h3)<|sP [1]<|sA h4<|sP [1,1]<|sF (bnf h5)<|sP [1]<|sL)
end Go.Proofs.Ytoehlcomhpnjgaa.Vx
end
