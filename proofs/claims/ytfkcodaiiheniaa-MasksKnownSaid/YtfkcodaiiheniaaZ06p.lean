import Derived.Test.YtfkcodaiiheniaaZ06j
import Derived.Test.YtfkcodaiiheniaaProg
import Derived.Test.YtfkcodaiiheniaaZ06m
import Derived.KernelRfl
import Derived.Test.YtfkcodaiiheniaaVxAsk
import Derived.Test.YtfkcodaiiheniaaZ06n
import Derived.Test.YtfkcodaiiheniaaVxSize
noncomputable section
namespace Go.Proofs.Ytfkcodaiiheniaa.Vx
open Go Go.RowKit
set_option linter.unusedVariables false
set_option linter.unusedSimpArgs false
set_option maxRecDepth 100000
set_option maxHeartbeats 0
def op_w27:List Dat→Option (Nat×List Dat):=fun _=>some (0,[.b true])
def Bw27:FBox:=(mkF [] [] [] [(.bool 0,[])] op_w27)
theorem o3e (env:List Dat)(y:Nat×List Dat)(h:op_w27 env=some y):(boxC true Try.prog cs_Q0 27 ls0 (mkF [] [] [] [(.bool 0,[])] fun _=>none) env).sel=some y:=by
 cases h
 kernel_rfl
theorem Bw27_ok:a0v Try.prog 27 (a0j Bw27):=a0p (op:=op_w27) a2u hmix true (LsOk.none _ _ _) o3e
abbrev TMr:Ty:=.pair (.int .u64) (.pair (.int .u64) (.pair (.int .u64) (.pair (.int .u32) (.pair (.int .u32) (.int .u64)))))
def fnV0 (f:Nat):PV:=.fn (.func f) [] []
def zM (h:Nat):PB:=.cells [.nilsl,.nilsl,.int .u64 h,.int .u32 (h+1),.int .u64 (h+2)]
def yM (o h:Nat):PB:=.cells [.own o,.nilsl,.int .u64 h,.int .u32 (h+1),.int .u64 (h+2)]
def xM (o h:Nat):PB:=.cells [.own o,.own (o+1),.int .u64 h,.int .u32 (h+1),.int .u64 (h+2)]
def mrB (h:Nat):PB:=.cells [.int .u64 h,.int .u64 (h+1),.int .u64 (h+2),.int .u32 (h+3),.int .u32 (h+4),.int .u64 (h+5)]
def mrV (h:Nat):PV:=.agg [.int .u64 h,.int .u64 (h+1),.int .u64 (h+2),.int .u32 (h+3),.int .u32 (h+4),.int .u64 (h+5)]
def msV (h:Nat):PV:=.agg [.imm TMr h,.imm TU (h+1),.int .u64 (h+2),.int .u32 (h+3),.int .u64 (h+4)]
def msB (h:Nat):PB:=.cells [.imm TMr h,.imm TU (h+1),.int .u64 (h+2),.int .u32 (h+3),.int .u64 (h+4)]
def o3x:FuncId→Option a0q:=e1c 27 [(BSh.of Bw27).k op_w27] a1q
theorem o3w:CsOk Try.prog o3x:=csB i0t Bw27_ok
def cs_15A:FuncId→Option a0q:=a0s 14 ((BSh.of B15).k n2d) o3x
theorem m3c:CsOk Try.prog cs_15A:=csA o3w B15_ok
def cs_9A:FuncId→Option a0q:=a0s 83 ((BSh.of B9).k op_9) cs_15A
theorem o3m:CsOk Try.prog cs_9A:=csA m3c B9_ok
def cs_10A:FuncId→Option a0q:=a0s 84 ((BSh.of B10).k t1a) cs_9A
theorem n3o:CsOk Try.prog cs_10A:=csA o3m B10_ok
def m3g:FuncId→Option a0q:=a0s 17 ((BSh.of Bc17).k p1p) cs_10A
theorem l3w:CsOk Try.prog m3g:=csA n3o Bc17_ok
def n3m:LSh:={K:=0,log:=[],ins:=[(sh 13 [(0,.int .i64 0),(3,.int .u64 1),(4,.int .i64 2)],[])],nils:=[],outs:=[(.exit 0,sh 13 [(3,.int .u64 0)],[])],cv:=[]}
def i3a:List Dat→Tree Step:=evL m3g 63 3 ls0 n3m
theorem j3d: ∃op,IsL i3a 63 3 n3m op:=bxL l3w (LsOk.none _ _ _)
def l3u:OpA:=opL j3d
theorem l3e (env:List Dat):l3u env=a0b i3a FU env:=h3j j3d env
abbrev o3l:MBox:=boxL j3d
theorem k3z {n0 n1 n2:Int}(h0:(n2<n0)):(i3a [.k 0,.n n0,.n n1,.n n2]).sel=some (Step.go [.k 0,.n n0,.n (IntKind.wrap .u64 (n1*(2:Int))),.n (IntKind.wrap .i64 (n2+(1:Int)))]):=sP [1]<|sT (dt h0)<|sP [1]<|sL
theorem l3c {n0 n1 n2:Int}(h0:(¬n2<n0)):(i3a [.k 0,.n n0,.n n1,.n n2]).sel=some (Step.stop 0 [.n n1]):=sP [1]<|sF (df h0)<|sP [1]<|sL
def S_q31:BSh:={args:=[.int .i64 0],blks:=[],log:=[],outs:=[(.int .u64 0,[])]}
def t1x:List Dat→Tree (Nat×List Dat):=evF m3g 63 (lsM [(3,o3l)] 0) S_q31
theorem e_q31: ∃op,IsF t1x 63 S_q31 op:=bxF l3w (lsE (lsC (h3i j3d) (atF) lsZ))
def f1y:OpA:=opF e_q31
theorem m3t {n0 n1:Int}(h0:(l3u [.k 0,.n n0,.n (1:Int),.n (0:Int)])=(some (0,[.n n1]))):f1y [.n n0]=some ((0,[.n n1])):=h3h e_q31 (sA h0<|sP [1,1]<|sL)
def p2s:FuncId→Option a0q:=a0s 63 (S_q31.k f1y) m3g
theorem q1c:CsOk Try.prog p2s:=csL1 l3w e_q31
def S_q11:BSh:={args:=[.int .u64 0,.int .i64 1],blks:=[],log:=[],outs:=[(.bool 0,[])]}
def x1r:List Dat→Tree (Nat×List Dat):=evF p2s 33 ls0 S_q11
theorem o3c: ∃op,IsF x1r 33 S_q11 op:=bxF q1c (LsOk.none _ _ _)
def a1u:OpA:=opF o3c
theorem m3u {n0 n1 n2:Int}(h0:(n1≥(0:Int)))(h1:(n1≤(63:Int)))(h2:(f1y [.n n1])=(some (0,[.n n2])))(h3:(¬n2=(0:Int))):a1u [.n n0,.n n1]=some ((0,[.b (Int.tmod (IntKind.wrap .u64 (Int.tdiv n0 n2)) (2:Int)==(1:Int))])):=h3h o3c (sT (dt h0)<|sT (dt h1)<|sA h2<|sP [1,1]<|sT (nf (df h3))<|sP [1,1]<|sL)
theorem n3v {n0 n1:Int}(h0:(n1≥(0:Int)))(h1:(¬n1≤(63:Int))):a1u [.n n0,.n n1]=some ((0,[.b false])):=h3h o3c (sT (dt h0)<|sF (df h1)<|sP [0,1]<|sL)
theorem n3s {n0 n1:Int}(h0:(¬n1≥(0:Int))):a1u [.n n0,.n n1]=some ((0,[.b false])):=h3h o3c (sF (df h0)<|sP [0,0,0,1]<|sL)
def i2o:FuncId→Option a0q:=a0s 33 (S_q11.k a1u) p2s
theorem m1y:CsOk Try.prog i2o:=csL1 q1c o3c
def S_q12:BSh:={args:=[.int .u64 0,.int .i64 1],blks:=[],log:=[],outs:=[(.int .u64 0,[])]}
def ev_q12:List Dat→Tree (Nat×List Dat):=evF i2o 55 ls0 S_q12
theorem n3x: ∃op,IsF ev_q12 55 S_q12 op:=bxF m1y (LsOk.none _ _ _)
def h3l:OpA:=opF n3x
theorem m3h {n0 n1:Int}(h0:(n1≥(0:Int)))(h1:(¬n1<(64:Int))):h3l [.n n0,.n n1]=some ((0,[.n n0])):=h3h n3x (sP [1]<|sT (dt h0)<|sP [1]<|sT (nf (df h1))<|sP [1]<|sL)
theorem m3o {n0 n1:Int}(h0:(n1≥(0:Int)))(h1:(n1<(64:Int))):h3l [.n n0,.n n1]=some ((0,[.n (ior IntKind.u64 n0 (ishl IntKind.u64 (1:Int) n1))])):=h3h n3x (sP [1]<|sT (dt h0)<|sP [1]<|sF (nt (dt h1))<|sTs (c:=(!decide (n1<(0:Int))))<|sP [1]<|sL)
theorem m3s {n0 n1:Int}(h0:(¬n1≥(0:Int))):h3l [.n n0,.n n1]=some ((0,[.n n0])):=h3h n3x (sP [1]<|sF (df h0)<|sP [0,1,1,1]<|sL)
def m3w:FuncId→Option a0q:=a0s 55 (S_q12.k h3l) i2o
theorem j3n:CsOk Try.prog m3w:=csL1 m1y n3x
def S_q26:BSh:={args:=[.int .i64 0],blks:=[],log:=[],outs:=[(.int .u64 0,[])]}
def ev_q26:List Dat→Tree (Nat×List Dat):=evF m3w 53 ls0 S_q26
theorem m3y: ∃op,IsF ev_q26 53 S_q26 op:=bxF j3n (LsOk.none _ _ _)
def i3e:OpA:=opF m3y
theorem n3d {n0:Int}(h0:(n0≤(0:Int))):i3e [.n n0]=some ((0,[.n (0:Int)])):=h3h m3y (sT (dt h0)<|sP [1]<|sL)
theorem o3a {n0:Int}(h0:(¬n0≤(0:Int)))(h1:(n0≥(64:Int))):i3e [.n n0]=some ((0,[.n (18446744073709551615:Int)])):=h3h m3y (sF (df h0)<|sT (dt h1)<|sP [1]<|sL)
theorem m3k {n0:Int}(h0:(¬n0≤(0:Int)))(h1:(¬n0≥(64:Int))):i3e [.n n0]=some ((0,[.n (IntKind.wrap .u64 (ishl IntKind.u64 (1:Int) n0-(1:Int)))])):=h3h m3y (sF (df h0)<|sF (df h1)<|sTo (c:=(!decide (n0<(0:Int))))<|sP [1]<|sL)
def l3q:FuncId→Option a0q:=a0s 53 (S_q26.k i3e) m3w
theorem i3s:CsOk Try.prog l3q:=csL1 j3n m3y
def n3g:LSh:={K:=0,log:=[],ins:=[(sh 17 [(3,.int .u64 0),(6,.imm TI 1),(7,.int .i64 2),(8,.int .i64 3)],[])],nils:=[],outs:=[(.exit 0,sh 17 [(3,.int .u64 0)],[])],cv:=[]}
def h3y:List Dat→Tree Step:=evL l3q 92 3 ls0 n3g
theorem j3b: ∃op,IsL h3y 92 3 n3g op:=bxL i3s (LsOk.none _ _ _)
def l3v:OpA:=opL j3b
theorem k3x (env:List Dat):l3v env=a0b h3y FU env:=h3j j3b env
abbrev o3p:MBox:=boxL j3b
theorem l3a {n0:Int}{l1:List (Ty.den TI)}{n2 n3 n4:Int}(g0:0≤n3)(g1:n2=(l1.length:Int))(h0:(n3<n2))(h1:(h3l [.n n0,.n (List.getD l1 (Int.toNat n3) (0:Int))])=(some (0,[.n n4]))):(h3y [.k 0,.n n0,.l TI l1,.n n2,.n n3]).sel=some (Step.go [.k 0,.n n4,.l TI l1,.n n2,.n (IntKind.wrap .i64 (n3+(1:Int)))]):=sP [1]<|sT (dt h0)<|sTo (c:=(inR n3 (List.length l1)))<|sA h1<|sP [1,1,1]<|sL
theorem l3b {n0:Int}{l1:List (Ty.den TI)}{n2 n3:Int}(g0:0≤n3)(g1:n2=(l1.length:Int))(h0:(¬n3<n2)):(h3y [.k 0,.n n0,.l TI l1,.n n2,.n n3]).sel=some (Step.stop 0 [.n n0]):=sP [1]<|sF (df h0)<|sP [1]<|sL
def S_q17:BSh:={args:=[.imm TI 0],blks:=[],log:=[],outs:=[(.int .u64 0,[])]}
def ev_q17:List Dat→Tree (Nat×List Dat):=evF l3q 92 (lsM [(3,o3p)] 0) S_q17
theorem e_q17: ∃op,IsF ev_q17 92 S_q17 op:=bxF i3s (lsE (lsC (h3i j3b) (atF) lsZ))
def l3s:OpA:=opF e_q17
theorem n3b {l0:List (Ty.den TI)}{n1:Int}(h0:(l3v [.k 0,.n (0:Int),.l TI l0,.n (↑(List.length l0):Int),.n (0:Int)])=(some (0,[.n n1]))):l3s [.l TI l0]=some ((0,[.n n1])):=h3h e_q17 (sA h0<|sP [1,1]<|sL)
def l3h:FuncId→Option a0q:=a0s 92 (S_q17.k l3s) l3q
theorem i3r:CsOk Try.prog l3h:=csL1 i3s e_q17
def S_q10:BSh:={args:=[.int .u64 0,.int .i64 1],blks:=[],log:=[],outs:=[(.bool 0,[])]}
def ev_q10:List Dat→Tree (Nat×List Dat):=evF l3h 94 ls0 S_q10
theorem s3f: ∃op,IsF ev_q10 94 S_q10 op:=bxF i3r (LsOk.none _ _ _)
def p3c:OpA:=opF s3f
theorem s3m {n0 n1:Int}(h0:(n1≥(0:Int)))(h1:(n1<(64:Int))):p3c [.n n0,.n n1]=some ((0,[.b (iand IntKind.u64 (ishr IntKind.u64 n0 n1) (1:Int)==(1:Int))])):=h3h s3f (sP [1]<|sT (dt h0)<|sP [1]<|sT (dt h1)<|sTs (c:=(!decide (n1<(0:Int))))<|sP [1]<|sL)
theorem s3c {n0 n1:Int}(h0:(n1≥(0:Int)))(h1:(¬n1<(64:Int))):p3c [.n n0,.n n1]=some ((0,[.b false])):=h3h s3f (sP [1]<|sT (dt h0)<|sP [1]<|sF (df h1)<|sP [0,1]<|sL)
theorem s3r {n0 n1:Int}(h0:(¬n1≥(0:Int))):p3c [.n n0,.n n1]=some ((0,[.b false])):=h3h s3f (sP [1]<|sF (df h0)<|sP [0,1,0,0,1]<|sL)
def o3v:FuncId→Option a0q:=a0s 94 (S_q10.k p3c) l3h
theorem o3u:CsOk Try.prog o3v:=csL1 i3r s3f
def m3p:LSh:={K:=0,log:=[],ins:=[(sh 51 [(2,.int .u64 0),(3,.ptr 0 0),(4,.ptr 1 0),(6,.ptr 2 0),(7,.int .u64 1),(8,.int .u64 2),(12,.own 3),(13,.int .i64 3),(14,.int .i64 4)],[laB 5,rtB 9,mrB 15,.arr TNd 21])],nils:=[],outs:=[(.exit 0,sh 51 [(2,.int .u64 0),(3,.ptr 0 0),(4,.ptr 1 0),(6,.ptr 2 0),(7,.int .u64 1),(8,.int .u64 2)],[laB 3,rtB 7,mrB 13])],cv:=[]}
def h3o:List Dat→Tree Step:=evL o3v 54 3 ls0 m3p
theorem i3y: ∃op,IsL h3o 54 3 m3p op:=bxL o3u (LsOk.none _ _ _)
def j3g:OpA:=opL i3y
theorem k3h (env:List Dat):j3g env=a0b h3o FU env:=h3j i3y env
abbrev o3i:MBox:=boxL i3y
theorem k3y {n0 n1 n2 n3 n4:Int}{l5:List (Ty.den TS)}{l6 l7:List (Ty.den TPt)}{l8:List (Ty.den TRt)}{s9:ByteArray}{n10:Int}{l11:List (Ty.den TI)}{l12:List (Ty.den TNd)}{l13:List (Ty.den TI)}{l14:List (Ty.den TNd)}{n15 n16 n17 n18 n19 n20:Int}{l21:List (Ty.den TNd)}{n22:Int}(g0:0≤n4)(g1:n3=(l21.length:Int))(h0:(n4<n3))(h1:(Prod.snd (List.getD l21 (Int.toNat n4) (Ty.dflt TNd))=true))(h2:(h3l [.n n2,.n (Prod.fst (List.getD l21 (Int.toNat n4) (Ty.dflt TNd)))])=(some (0,[.n n22]))):(h3o [.k 0,.n n0,.n n1,.n n2,.n n3,.n n4,.l TS l5,.l TPt l6,.l TPt l7,.l TRt l8,.s s9,.n n10,.l TI l11,.l TNd l12,.l TI l13,.l TNd l14,.n n15,.n n16,.n n17,.n n18,.n n19,.n n20,.l TNd l21]).sel=some (Step.go [.k 0,.n n0,.n n1,.n n22,.n n3,.n (IntKind.wrap .i64 (n4+(1:Int))),.l TS l5,.l TPt l6,.l TPt l7,.l TRt l8,.s s9,.n n10,.l TI l11,.l TNd l12,.l TI l13,.l TNd l14,.n n15,.n n16,.n n17,.n n18,.n n19,.n n20,.l TNd l21]):=sP [1]<|sT (dt h0)<|sTo (c:=(inR n4 (List.length l21)))<|sT h1<|sA h2<|sP [1,1,1]<|sL
theorem k3q {n0 n1 n2 n3 n4:Int}{l5:List (Ty.den TS)}{l6 l7:List (Ty.den TPt)}{l8:List (Ty.den TRt)}{s9:ByteArray}{n10:Int}{l11:List (Ty.den TI)}{l12:List (Ty.den TNd)}{l13:List (Ty.den TI)}{l14:List (Ty.den TNd)}{n15 n16 n17 n18 n19 n20:Int}{l21:List (Ty.den TNd)}{n22:Int}(g0:0≤n4)(g1:n3=(l21.length:Int))(h0:(n4<n3))(h1:(Prod.snd (List.getD l21 (Int.toNat n4) (Ty.dflt TNd))=false))(h2:(h3l [.n n1,.n (Prod.fst (List.getD l21 (Int.toNat n4) (Ty.dflt TNd)))])=(some (0,[.n n22]))):(h3o [.k 0,.n n0,.n n1,.n n2,.n n3,.n n4,.l TS l5,.l TPt l6,.l TPt l7,.l TRt l8,.s s9,.n n10,.l TI l11,.l TNd l12,.l TI l13,.l TNd l14,.n n15,.n n16,.n n17,.n n18,.n n19,.n n20,.l TNd l21]).sel=some (Step.go [.k 0,.n n0,.n n22,.n n2,.n n3,.n (IntKind.wrap .i64 (n4+(1:Int))),.l TS l5,.l TPt l6,.l TPt l7,.l TRt l8,.s s9,.n n10,.l TI l11,.l TNd l12,.l TI l13,.l TNd l14,.n n15,.n n16,.n n17,.n n18,.n n19,.n n20,.l TNd l21]):=sP [1]<|sT (dt h0)<|sTo (c:=(inR n4 (List.length l21)))<|sF h1<|sA h2<|sP [1,1,1]<|sL
theorem k3w {n0 n1 n2 n3 n4:Int}{l5:List (Ty.den TS)}{l6 l7:List (Ty.den TPt)}{l8:List (Ty.den TRt)}{s9:ByteArray}{n10:Int}{l11:List (Ty.den TI)}{l12:List (Ty.den TNd)}{l13:List (Ty.den TI)}{l14:List (Ty.den TNd)}{n15 n16 n17 n18 n19 n20:Int}{l21:List (Ty.den TNd)}(g0:0≤n4)(g1:n3=(l21.length:Int))(h0:(¬n4<n3)):(h3o [.k 0,.n n0,.n n1,.n n2,.n n3,.n n4,.l TS l5,.l TPt l6,.l TPt l7,.l TRt l8,.s s9,.n n10,.l TI l11,.l TNd l12,.l TI l13,.l TNd l14,.n n15,.n n16,.n n17,.n n18,.n n19,.n n20,.l TNd l21]).sel=some (Step.stop 0 [.n n0,.n n1,.n n2,.l TS l5,.l TPt l6,.l TPt l7,.l TRt l8,.s s9,.n n10,.l TI l11,.l TNd l12,.l TI l13,.l TNd l14,.n n15,.n n16,.n n17,.n n18,.n n19,.n n20]):=sP [1]<|sF (df h0)<|sP [1]<|sL
def S_m54:BSh:={args:=[laV 0,rtV 4,.int .u64 10],blks:=[],log:=[],outs:=[(mrV 0,[])]}
def ev_m54:List Dat→Tree (Nat×List Dat):=evF o3v 54 (lsM [(3,o3i)] 0) S_m54
theorem e_m54: ∃op,IsF ev_m54 54 S_m54 op:=bxF o3u (lsE (lsC (h3i i3y) (atF) lsZ))
def l3o:OpA:=opF e_m54
theorem m3q {l0:List (Ty.den TS)}{l1 l2:List (Ty.den TPt)}{l3:List (Ty.den TRt)}{s4:ByteArray}{n5:Int}{l6:List (Ty.den TI)}{l7:List (Ty.den TNd)}{l8:List (Ty.den TI)}{l9:List (Ty.den TNd)}{n10:Int}{l11:List (Ty.den TNd)}{n12 n13 n14:Int}{l15:List (Ty.den TS)}{l16 l17:List (Ty.den TPt)}{l18:List (Ty.den TRt)}{s19:ByteArray}{n20:Int}{l21:List (Ty.den TI)}{l22:List (Ty.den TNd)}{l23:List (Ty.den TI)}{l24:List (Ty.den TNd)}{n25 n26 n27 n28 n29 n30:Int}{l31:List (Ty.den TI)}{n32 n33 n34:Int}(h0:(t1a [.s s4,.n n5,.l TI l6,.l TNd l7,.l TI l8,.l TNd l9])=(some (0,[.l TNd l11])))(h1:(j3g [.k 0,.n n10,.n (0:Int),.n (0:Int),.n (↑(List.length l11):Int),.n (0:Int),.l TS l0,.l TPt l1,.l TPt l2,.l TRt l3,.s s4,.n n5,.l TI l6,.l TNd l7,.l TI l8,.l TNd l9,.n (0:Int),.n (0:Int),.n (0:Int),.n (0:Int),.n (0:Int),.n (0:Int),.l TNd l11])=(some (0,[.n n12,.n n13,.n n14,.l TS l15,.l TPt l16,.l TPt l17,.l TRt l18,.s s19,.n n20,.l TI l21,.l TNd l22,.l TI l23,.l TNd l24,.n n25,.n n26,.n n27,.n n28,.n n29,.n n30])))(h2:(op_9 [.s s19,.n n20,.l TI l21,.l TNd l22,.l TI l23,.l TNd l24])=(some (0,[.l TI l31])))(h3:(l3s [.l TI l31])=(some (0,[.n n32])))(h4:(inR (0:Int) (List.length l21)=true))(h5:(h3l [.n (0:Int),.n (List.getD l21 0 (0:Int))])=(some (0,[.n n33])))(h6:(inR n20 (List.length l17)=true))(h7:(h3l [.n (0:Int),.n (Prod.snd (List.getD l17 (Int.toNat n20) (Ty.dflt TPt)))])=(some (0,[.n n34]))):l3o [.l TS l0,.l TPt l1,.l TPt l2,.l TRt l3,.s s4,.n n5,.l TI l6,.l TNd l7,.l TI l8,.l TNd l9,.n n10]=some ((0,[.n n32,.n n33,.n n34,.n (IntKind.wrap .u32 n13),.n (IntKind.wrap .u32 n14),.n n12])):=h3h e_m54 (sA h0<|sP [1,1]<|sA h1<|sP [1]<|sA h2<|sP [1,1]<|sA h3<|sP [1,1]<|sT h4<|sA h5<|sP [1,1]<|sT h6<|sA h7<|sP [1,1,1,1]<|sL)
def j3v:FuncId→Option a0q:=a0s 54 (S_m54.k l3o) o3v
theorem h3w:CsOk Try.prog j3v:=csL1 o3u e_m54
def r3n:LSh:={K:=0,log:=[],ins:=[(sh 72 [(1,.ptr 0 0),(2,.ptr 1 0),(4,.own 2),(6,.ptr 3 0),(35,.imm TRt 0),(36,.int .i64 1),(37,.int .i64 2)],[laB 3,zM 7,.arr TU 10,yM 4 11,.arr TMr 14])],nils:=[],outs:=[(.exit 0,sh 72 [(1,.ptr 0 0),(2,.ptr 1 0),(6,.ptr 2 0)],[laB 0,zM 4,yM 3 7,.arr TMr 10])],cv:=[(6,[],0,.own TMr)]}
def p3d:List Dat→Tree Step:=evL j3v 28 6 ls0 r3n
theorem p3p: ∃op,IsL p3d 28 6 r3n op:=bxL h3w (LsOk.none _ _ _)
def p3q:OpA:=opL p3p
theorem q3o (env:List Dat):p3q env=a0b p3d FU env:=h3j p3p env
abbrev s3b:MBox:=boxL p3p
theorem q3i {l0:List (Ty.den TRt)}{n1 n2:Int}{l3:List (Ty.den TS)}{l4 l5:List (Ty.den TPt)}{l6:List (Ty.den TRt)}{n7 n8 n9:Int}{l10:List (Ty.den TU)}{n11 n12 n13:Int}{l14:List (Ty.den TMr)}{n15 n16 n17 n18 n19 n20:Int}(g0:0≤n2)(g1:n1=(l0.length:Int))(g2:n1=(l10.length:Int))(h0:(n2<n1))(h1:(l3o [.l TS l3,.l TPt l4,.l TPt l5,.l TRt l6,.s (Prod.fst (List.getD l0 (Int.toNat n2) (Ty.dflt TRt))),.n (Prod.fst (Prod.snd (List.getD l0 (Int.toNat n2) (Ty.dflt TRt)))),.l TI (Prod.fst (Prod.snd (Prod.snd (List.getD l0 (Int.toNat n2) (Ty.dflt TRt))))),.l TNd (Prod.fst (Prod.snd (Prod.snd (Prod.snd (List.getD l0 (Int.toNat n2) (Ty.dflt TRt)))))),.l TI (Prod.fst (Prod.snd (Prod.snd (Prod.snd (Prod.snd (List.getD l0 (Int.toNat n2) (Ty.dflt TRt))))))),.l TNd (Prod.snd (Prod.snd (Prod.snd (Prod.snd (Prod.snd (List.getD l0 (Int.toNat n2) (Ty.dflt TRt))))))),.n (List.getD l10 (Int.toNat n2) (0:Int))])=(some (0,[.n n15,.n n16,.n n17,.n n18,.n n19,.n n20])))(h2:((List.length l14+1)*40≤140737488355328)):(p3d [.k 0,.l TRt l0,.n n1,.n n2,.l TS l3,.l TPt l4,.l TPt l5,.l TRt l6,.n n7,.n n8,.n n9,.l TU l10,.n n11,.n n12,.n n13,.l TMr l14]).sel=some (Step.go [.k 0,.l TRt l0,.n n1,.n (IntKind.wrap .i64 (n2+(1:Int))),.l TS l3,.l TPt l4,.l TPt l5,.l TRt l6,.n n7,.n n8,.n n9,.l TU l10,.n n11,.n n12,.n n13,.l TMr (apL l14 [(n15,n16,n17,n18,n19,n20)])]):=sP [1]<|sT (dt h0)<|sTo (c:=(inR n2 (List.length l0)))<|sTo (c:=(inR n2 (List.length l10)))<|sA h1<|sP [1,1]<|sT (dt h2)<|sP [1,1]<|sL
theorem q3s {l0:List (Ty.den TRt)}{n1 n2:Int}{l3:List (Ty.den TS)}{l4 l5:List (Ty.den TPt)}{l6:List (Ty.den TRt)}{n7 n8 n9:Int}{l10:List (Ty.den TU)}{n11 n12 n13:Int}{l14:List (Ty.den TMr)}(g0:0≤n2)(g1:n1=(l0.length:Int))(g2:n1=(l10.length:Int))(h0:(¬n2<n1)):(p3d [.k 0,.l TRt l0,.n n1,.n n2,.l TS l3,.l TPt l4,.l TPt l5,.l TRt l6,.n n7,.n n8,.n n9,.l TU l10,.n n11,.n n12,.n n13,.l TMr l14]).sel=some (Step.stop 0 [.l TS l3,.l TPt l4,.l TPt l5,.l TRt l6,.n n7,.n n8,.n n9,.n n11,.n n12,.n n13,.l TMr l14]):=sP [1]<|sF (df h0)<|sP [1]<|sL
def q3l:LSh:={K:=0,log:=[],ins:=[(sh 72 [(2,.ptr 0 0),(6,.ptr 1 0),(56,.imm TPt 0),(57,.int .i64 1),(58,.int .i64 2)],[zM 3,xM 2 6,.arr TMr 9,.arr TU 10])],nils:=[],outs:=[(.exit 2,sh 72 [(2,.ptr 0 0),(6,.ptr 1 0)],[zM 0,xM 2 3,.arr TMr 6,.arr TU 7])],cv:=[(6,[],1,.own TU)]}
def p3b:List Dat→Tree Step:=evL j3v 28 11 ls0 q3l
theorem p3i: ∃op,IsL p3b 28 11 q3l op:=bxL h3w (LsOk.none _ _ _)
def p3l:OpA:=opL p3i
theorem p3w (env:List Dat):p3l env=a0b p3b FU env:=h3j p3i env
abbrev r3p:MBox:=boxL p3i
theorem p3v {l0:List (Ty.den TPt)}{n1 n2 n3 n4 n5 n6 n7 n8:Int}{l9:List (Ty.den TMr)}{l10:List (Ty.den TU)}{n11:Int}(g0:0≤n2)(g1:n1=(l0.length:Int))(h0:(n2<n1))(h1:(h3l [.n (0:Int),.n (Prod.snd (List.getD l0 (Int.toNat n2) (Ty.dflt TPt)))])=(some (0,[.n n11])))(h2:((List.length l10+1)*8≤140737488355328)):(p3b [.k 0,.l TPt l0,.n n1,.n n2,.n n3,.n n4,.n n5,.n n6,.n n7,.n n8,.l TMr l9,.l TU l10]).sel=some (Step.go [.k 0,.l TPt l0,.n n1,.n (IntKind.wrap .i64 (n2+(1:Int))),.n n3,.n n4,.n n5,.n n6,.n n7,.n n8,.l TMr l9,.l TU (l10++[n11])]):=sP [1]<|sT (dt h0)<|sTo (c:=(inR n2 (List.length l0)))<|sA h1<|sP [1,1]<|sT (dt h2)<|sP [1,1]<|sL
theorem p3u {l0:List (Ty.den TPt)}{n1 n2 n3 n4 n5 n6 n7 n8:Int}{l9:List (Ty.den TMr)}{l10:List (Ty.den TU)}(g0:0≤n2)(g1:n1=(l0.length:Int))(h0:(¬n2<n1)):(p3b [.k 0,.l TPt l0,.n n1,.n n2,.n n3,.n n4,.n n5,.n n6,.n n7,.n n8,.l TMr l9,.l TU l10]).sel=some (Step.stop 0 [.n n3,.n n4,.n n5,.n n6,.n n7,.n n8,.l TMr l9,.l TU l10]):=sP [1]<|sF (df h0)<|sP [1]<|sL
def s3q:BSh:={args:=[laV 0],blks:=[],log:=[],outs:=[(.tup [.agg [.own 0,.own 1,.int .u64 0,.int .u32 1,.int .u64 2],.int .i64 3],[.arr TMr 4,.arr TU 5]),(.tup [.agg [.nilsl,.nilsl,.int .u64 0,.int .u32 1,.int .u64 2],.int .i64 3],[])]}
def ev_m28i:List Dat→Tree (Nat×List Dat):=evF j3v 28 (lsM [(6,s3b),(11,r3p)] 0) s3q
theorem r3k: ∃op,IsF ev_m28i 28 s3q op:=bxF h3w (lsE (lsC (h3i p3p) (atF) (lsC (h3i p3i) (atF) lsZ)))
def p3g:OpA:=opF r3k
theorem r3q {l0:List (Ty.den TS)}{l1 l2:List (Ty.den TPt)}{l3:List (Ty.den TRt)}{n4:Int}{l5:List (Ty.den TU)}{n6 n7 n8:Int}{l9:List (Ty.den TS)}{l10 l11:List (Ty.den TPt)}{l12:List (Ty.den TRt)}{n13 n14 n15 n16 n17 n18:Int}{l19:List (Ty.den TMr)}{n20 n21 n22 n23 n24 n25:Int}{l26:List (Ty.den TMr)}{l27:List (Ty.den TU)}(h0:(p1p [.l TS l0,.l TPt l1,.l TPt l2,.l TRt l3])=(some (0,[.n n4,.l TU l5])))(h1:(n4=(0:Int)))(h2:(i3e [.n (↑(List.length l3):Int)])=(some (0,[.n n6])))(h3:(i3e [.n (↑(List.length l1):Int)])=(some (0,[.n n7])))(h4:(i3e [.n (↑(List.length l0):Int)])=(some (0,[.n n8])))(h5:(p3q [.k 0,.l TRt l3,.n (↑(List.length l3):Int),.n (0:Int),.l TS l0,.l TPt l1,.l TPt l2,.l TRt l3,.n (0:Int),.n (0:Int),.n (0:Int),.l TU l5,.n n6,.n (IntKind.wrap .u32 n7),.n n8,.l TMr []])=(some (0,[.l TS l9,.l TPt l10,.l TPt l11,.l TRt l12,.n n13,.n n14,.n n15,.n n16,.n n17,.n n18,.l TMr l19])))(h6:(p3l [.k 0,.l TPt l10,.n (↑(List.length l10):Int),.n (0:Int),.n n13,.n n14,.n n15,.n n16,.n n17,.n n18,.l TMr l19,.l TU []])=(some (0,[.n n20,.n n21,.n n22,.n n23,.n n24,.n n25,.l TMr l26,.l TU l27]))):p3g [.l TS l0,.l TPt l1,.l TPt l2,.l TRt l3]=some ((0,[.n n23,.n n24,.n n25,.n (0:Int),.l TMr l26,.l TU l27])):=h3h r3k (sA h0<|sP [1,1]<|sF (bnf h1)<|sA h2<|sP [1,1]<|sA h3<|sP [1,1]<|sA h4<|sP [1,1,1]<|sA h5<|sP [1]<|sA h6<|sP [1,1]<|sL)
theorem r3u {l0:List (Ty.den TS)}{l1 l2:List (Ty.den TPt)}{l3:List (Ty.den TRt)}{n4:Int}(h0:(p1p [.l TS l0,.l TPt l1,.l TPt l2,.l TRt l3])=(some (1,[.n n4])))(h1:(¬n4=(0:Int))):p3g [.l TS l0,.l TPt l1,.l TPt l2,.l TRt l3]=some ((1,[.n (0:Int),.n (0:Int),.n (0:Int),.n n4])):=h3h r3k (sA h0<|sP [0,1,1]<|sT (bnt h1)<|sP [1]<|sL)
def p3j:FuncId→Option a0q:=e1c 28 [s3q.k p3g] j3v
theorem p3a:CsOk Try.prog p3j:=csA1 h3w r3k
def r3e:LSh:={K:=0,log:=[],ins:=[(sh 28 [(1,.int .u64 0),(2,fnV0 59),(7,.int .u32 1),(11,.imm TMr 2),(12,.int .i64 3),(13,.int .i64 4)],[])],nils:=[],outs:=[(.exit 0,sh 28 [(7,.int .u32 0)],[])],cv:=[]}
def o3z:List Dat→Tree Step:=evL p3j 58 3 ls0 r3e
theorem p3o: ∃op,IsL o3z 58 3 r3e op:=bxL p3a (LsOk.none _ _ _)
def q3j:OpA:=opL p3o
theorem q3p (env:List Dat):q3j env=a0b o3z FU env:=h3j p3o env
abbrev s3j:MBox:=boxL p3o
theorem q3m {n0 n1:Int}{l2:List (Ty.den TMr)}{n3 n4:Int}{b5:Bool}(g0:0≤n4)(g1:n3=(l2.length:Int))(h0:(n4<n3))(h1:(p3c [.n n0,.n n4])=(some (0,[.b b5])))(h2:(b5=true)):(o3z [.k 0,.n n0,.n n1,.l TMr l2,.n n3,.n n4]).sel=some (Step.go [.k 0,.n n0,.n (ior IntKind.u32 n1 (Prod.fst (Prod.snd (Prod.snd (Prod.snd (List.getD l2 (Int.toNat n4) (Ty.dflt TMr))))))),.l TMr l2,.n n3,.n (IntKind.wrap .i64 (n4+(1:Int)))]):=sP [1]<|sT (dt h0)<|sTo (c:=(inR n4 (List.length l2)))<|sA h1<|sP [1,1]<|sT h2<|sP [1,1,1]<|sL
theorem q3b {n0 n1:Int}{l2:List (Ty.den TMr)}{n3 n4:Int}{b5:Bool}(g0:0≤n4)(g1:n3=(l2.length:Int))(h0:(n4<n3))(h1:(p3c [.n n0,.n n4])=(some (0,[.b b5])))(h2:(b5=false)):(o3z [.k 0,.n n0,.n n1,.l TMr l2,.n n3,.n n4]).sel=some (Step.go [.k 0,.n n0,.n n1,.l TMr l2,.n n3,.n (IntKind.wrap .i64 (n4+(1:Int)))]):=sP [1]<|sT (dt h0)<|sTo (c:=(inR n4 (List.length l2)))<|sA h1<|sP [1,1]<|sF h2<|sP [1]<|sL
theorem q3h {n0 n1:Int}{l2:List (Ty.den TMr)}{n3 n4:Int}(g0:0≤n4)(g1:n3=(l2.length:Int))(h0:(¬n4<n3)):(o3z [.k 0,.n n0,.n n1,.l TMr l2,.n n3,.n n4]).sel=some (Step.stop 0 [.n n1]):=sP [1]<|sF (df h0)<|sP [1]<|sL
def s3g:BSh:={args:=[.imm TMr 0,.int .u64 1,fnV0 59],blks:=[],log:=[],outs:=[(.int .u32 0,[])]}
def ev_m58a:List Dat→Tree (Nat×List Dat):=evF p3j 58 (lsM [(3,s3j)] 0) s3g
theorem r3z: ∃op,IsF ev_m58a 58 s3g op:=bxF p3a (lsE (lsC (h3i p3o) (atF) lsZ))
def p3x:OpA:=opF r3z
theorem r3t {l0:List (Ty.den TMr)}{n1 n2:Int}(h0:(q3j [.k 0,.n n1,.n (0:Int),.l TMr l0,.n (↑(List.length l0):Int),.n (0:Int)])=(some (0,[.n n2]))):p3x [.l TMr l0,.n n1]=some ((0,[.n n2])):=h3h r3z (sA h0<|sP [1,1]<|sL)
def r3d:LSh:={K:=0,log:=[],ins:=[(sh 28 [(1,.int .u64 0),(2,fnV0 60),(7,.int .u32 1),(11,.imm TMr 2),(12,.int .i64 3),(13,.int .i64 4)],[])],nils:=[],outs:=[(.exit 0,sh 28 [(7,.int .u32 0)],[])],cv:=[]}
def o3y:List Dat→Tree Step:=evL p3j 58 3 ls0 r3d
theorem p3m: ∃op,IsL o3y 58 3 r3d op:=bxL p3a (LsOk.none _ _ _)
def q3q:OpA:=opL p3m
theorem q3r (env:List Dat):q3q env=a0b o3y FU env:=h3j p3m env
abbrev r3x:MBox:=boxL p3m
theorem q3f {n0 n1:Int}{l2:List (Ty.den TMr)}{n3 n4:Int}{b5:Bool}(g0:0≤n4)(g1:n3=(l2.length:Int))(h0:(n4<n3))(h1:(p3c [.n n0,.n n4])=(some (0,[.b b5])))(h2:(b5=true)):(o3y [.k 0,.n n0,.n n1,.l TMr l2,.n n3,.n n4]).sel=some (Step.go [.k 0,.n n0,.n (ior IntKind.u32 n1 (Prod.fst (Prod.snd (Prod.snd (Prod.snd (Prod.snd (List.getD l2 (Int.toNat n4) (Ty.dflt TMr)))))))),.l TMr l2,.n n3,.n (IntKind.wrap .i64 (n4+(1:Int)))]):=sP [1]<|sT (dt h0)<|sTo (c:=(inR n4 (List.length l2)))<|sA h1<|sP [1,1]<|sT h2<|sP [1,1,1]<|sL
theorem q3k {n0 n1:Int}{l2:List (Ty.den TMr)}{n3 n4:Int}{b5:Bool}(g0:0≤n4)(g1:n3=(l2.length:Int))(h0:(n4<n3))(h1:(p3c [.n n0,.n n4])=(some (0,[.b b5])))(h2:(b5=false)):(o3y [.k 0,.n n0,.n n1,.l TMr l2,.n n3,.n n4]).sel=some (Step.go [.k 0,.n n0,.n n1,.l TMr l2,.n n3,.n (IntKind.wrap .i64 (n4+(1:Int)))]):=sP [1]<|sT (dt h0)<|sTo (c:=(inR n4 (List.length l2)))<|sA h1<|sP [1,1]<|sF h2<|sP [1]<|sL
theorem q3n {n0 n1:Int}{l2:List (Ty.den TMr)}{n3 n4:Int}(g0:0≤n4)(g1:n3=(l2.length:Int))(h0:(¬n4<n3)):(o3y [.k 0,.n n0,.n n1,.l TMr l2,.n n3,.n n4]).sel=some (Step.stop 0 [.n n1]):=sP [1]<|sF (df h0)<|sP [1]<|sL
def s3n:BSh:={args:=[.imm TMr 0,.int .u64 1,fnV0 60],blks:=[],log:=[],outs:=[(.int .u32 0,[])]}
def ev_m58b:List Dat→Tree (Nat×List Dat):=evF p3j 58 (lsM [(3,r3x)] 0) s3n
theorem s3d: ∃op,IsF ev_m58b 58 s3n op:=bxF p3a (lsE (lsC (h3i p3m) (atF) lsZ))
def p3t:OpA:=opF s3d
theorem r3v {l0:List (Ty.den TMr)}{n1 n2:Int}(h0:(q3q [.k 0,.n n1,.n (0:Int),.l TMr l0,.n (↑(List.length l0):Int),.n (0:Int)])=(some (0,[.n n2]))):p3t [.l TMr l0,.n n1]=some ((0,[.n n2])):=h3h s3d (sA h0<|sP [1,1]<|sL)
def p3z:FuncId→Option a0q:=e1c 58 [s3g.k p3x,s3n.k p3t] p3j
theorem p3k:CsOk Try.prog p3z:=h0a p3a fun B hB=>by
 simp only[List.mem_cons,List.not_mem_nil,or_false]at hB
 rcases hB with rfl|rfl
 ·exact r3c r3z
 ·exact r3c s3d
def s3a:LSh:={K:=0,log:=[],ins:=[(sh 28 [(1,.int .u64 0),(2,fnV0 62),(7,.int .u64 1),(11,.imm TMr 2),(12,.int .i64 3),(13,.int .i64 4)],[])],nils:=[],outs:=[(.exit 0,sh 28 [(7,.int .u64 0)],[])],cv:=[]}
def p3e:List Dat→Tree Step:=evL p3z 61 3 ls0 s3a
theorem p3y: ∃op,IsL p3e 61 3 s3a op:=bxL p3k (LsOk.none _ _ _)
def r3g:OpA:=opL p3y
theorem q3t (env:List Dat):r3g env=a0b p3e FU env:=h3j p3y env
abbrev t3a:MBox:=boxL p3y
theorem q3w {n0 n1:Int}{l2:List (Ty.den TMr)}{n3 n4:Int}{b5:Bool}(g0:0≤n4)(g1:n3=(l2.length:Int))(h0:(n4<n3))(h1:(p3c [.n n0,.n n4])=(some (0,[.b b5])))(h2:(b5=true)):(p3e [.k 0,.n n0,.n n1,.l TMr l2,.n n3,.n n4]).sel=some (Step.go [.k 0,.n n0,.n (ior IntKind.u64 n1 (Prod.snd (Prod.snd (Prod.snd (Prod.snd (Prod.snd (List.getD l2 (Int.toNat n4) (Ty.dflt TMr)))))))),.l TMr l2,.n n3,.n (IntKind.wrap .i64 (n4+(1:Int)))]):=sP [1]<|sT (dt h0)<|sTo (c:=(inR n4 (List.length l2)))<|sA h1<|sP [1,1]<|sT h2<|sP [1,1,1]<|sL
theorem q3z {n0 n1:Int}{l2:List (Ty.den TMr)}{n3 n4:Int}{b5:Bool}(g0:0≤n4)(g1:n3=(l2.length:Int))(h0:(n4<n3))(h1:(p3c [.n n0,.n n4])=(some (0,[.b b5])))(h2:(b5=false)):(p3e [.k 0,.n n0,.n n1,.l TMr l2,.n n3,.n n4]).sel=some (Step.go [.k 0,.n n0,.n n1,.l TMr l2,.n n3,.n (IntKind.wrap .i64 (n4+(1:Int)))]):=sP [1]<|sT (dt h0)<|sTo (c:=(inR n4 (List.length l2)))<|sA h1<|sP [1,1]<|sF h2<|sP [1]<|sL
theorem q3y {n0 n1:Int}{l2:List (Ty.den TMr)}{n3 n4:Int}(g0:0≤n4)(g1:n3=(l2.length:Int))(h0:(¬n4<n3)):(p3e [.k 0,.n n0,.n n1,.l TMr l2,.n n3,.n n4]).sel=some (Step.stop 0 [.n n1]):=sP [1]<|sF (df h0)<|sP [1]<|sL
def S_m61:BSh:={args:=[.imm TMr 0,.int .u64 1,fnV0 62],blks:=[],log:=[],outs:=[(.int .u64 0,[])]}
def ev_m61:List Dat→Tree (Nat×List Dat):=evF p3z 61 (lsM [(3,t3a)] 0) S_m61
theorem e_m61: ∃op,IsF ev_m61 61 S_m61 op:=bxF p3k (lsE (lsC (h3i p3y) (atF) lsZ))
def r3b:OpA:=opF e_m61
theorem s3s {l0:List (Ty.den TMr)}{n1 n2:Int}(h0:(r3g [.k 0,.n n1,.n (0:Int),.l TMr l0,.n (↑(List.length l0):Int),.n (0:Int)])=(some (0,[.n n2]))):r3b [.l TMr l0,.n n1]=some ((0,[.n n2])):=h3h e_m61 (sA h0<|sP [1,1]<|sL)
def r3y:FuncId→Option a0q:=e1c 61 [S_m61.k r3b] p3z
theorem q3d:CsOk Try.prog r3y:=csA1 p3k e_m61
def S_m31:BSh:={args:=[msV 0,.int .u64 5],blks:=[],log:=[],outs:=[(.tup [.int .u32 0,.int .u32 1],[])]}
def ev_m31:List Dat→Tree (Nat×List Dat):=evF r3y 31 ls0 S_m31
theorem e_m31: ∃op,IsF ev_m31 31 S_m31 op:=bxF q3d (LsOk.none _ _ _)
def r3l:OpA:=opF e_m31
theorem s3o {l0:List (Ty.den TMr)}{l1:List (Ty.den TU)}{n2 n3 n4 n5 n6 n7:Int}(h0:(p3x [.l TMr l0,.n n5])=(some (0,[.n n6])))(h1:(p3t [.l TMr l0,.n n5])=(some (0,[.n n7]))):r3l [.l TMr l0,.l TU l1,.n n2,.n n3,.n n4,.n n5]=some ((0,[.n n6,.n n7])):=h3h e_m31 (sP [1]<|sA h0<|sP [1,1,1]<|sA h1<|sP [1,1,1,1]<|sL)
def s3t:FuncId→Option a0q:=a0s 31 (S_m31.k r3l) r3y
theorem q3c:CsOk Try.prog s3t:=csL1 q3d e_m31
def S_m32:BSh:={args:=[msV 0,.int .u64 5],blks:=[],log:=[],outs:=[(.int .u64 0,[])]}
def ev_m32:List Dat→Tree (Nat×List Dat):=evF s3t 32 ls0 S_m32
theorem e_m32: ∃op,IsF ev_m32 32 S_m32 op:=bxF q3c (LsOk.none _ _ _)
def r3f:OpA:=opF e_m32
theorem s3k {l0:List (Ty.den TMr)}{l1:List (Ty.den TU)}{n2 n3 n4 n5 n6:Int}(h0:(r3b [.l TMr l0,.n n5])=(some (0,[.n n6]))):r3f [.l TMr l0,.l TU l1,.n n2,.n n3,.n n4,.n n5]=some ((0,[.n n6])):=h3h e_m32 (sP [1]<|sA h0<|sP [1,1,1]<|sL)
def s3e:FuncId→Option a0q:=a0s 32 (S_m32.k r3f) s3t
theorem q3e:CsOk Try.prog s3e:=csL1 q3c e_m32
def R_8_11:LSh:={K:=0,log:=[],ins:=[(sh 137 [(1,.int .u64 0),(5,.ptr 0 0),(7,.int .u32 1),(8,.int .u32 2),(9,.bool 3),(10,.int .u64 4),(11,.int .i64 5)],[xM 1 6,.arr TMr 9,.arr TU 10])],nils:=[],outs:=[(.exit 0,sh 137 [(1,.int .u64 0),(5,.ptr 0 0),(7,.int .u32 1),(8,.int .u32 2),(9,.bool 3),(10,.int .u64 4)],[xM 1 5,.arr TMr 8,.arr TU 9]),(.ret,sh 137 [(4,.bool 0)],[])],cv:=[]}
def p3f:List Dat→Tree Step:=evL s3e 8 11 ls0 R_8_11
theorem r3j: ∃op,IsL p3f 8 11 R_8_11 op:=bxL q3e (LsOk.none _ _ _)
def q3a:OpA:=opL r3j
theorem r3w (env:List Dat):q3a env=a0b p3f FU env:=h3j r3j env
abbrev v3o:MBox:=boxL r3j
theorem r3s {n0 n1 n2:Int}{b3:Bool}{n4 n5 n6 n7 n8:Int}{l9:List (Ty.den TMr)}{l10:List (Ty.den TU)}{b11:Bool}(g0:0≤n5)(h0:(n5<(↑(List.length l9):Int)))(h1:(a1u [.n n0,.n n5])=(some (0,[.b b11])))(h2:(b11=false)):(p3f [.k 0,.n n0,.n n1,.n n2,.b b3,.n n4,.n n5,.n n6,.n n7,.n n8,.l TMr l9,.l TU l10]).sel=some (Step.go [.k 0,.n n0,.n n1,.n n2,.b b3,.n n4,.n (IntKind.wrap .i64 (n5+(1:Int))),.n n6,.n n7,.n n8,.l TMr l9,.l TU l10]):=sP [1]<|sT (dt h0)<|sA h1<|sP [1,1]<|sT (nf h2)<|sP [1]<|sL
theorem r3r {n0 n1 n2:Int}{b3:Bool}{n4 n5 n6 n7 n8:Int}{l9:List (Ty.den TMr)}{l10:List (Ty.den TU)}{b11:Bool}(g0:0≤n5)(h0:(n5<(↑(List.length l9):Int)))(h1:(a1u [.n n0,.n n5])=(some (0,[.b b11])))(h2:(b11=true))(h3:(b3=true))(h4:(iand IntKind.u64 (Prod.fst (List.getD l9 (Int.toNat n5) (Ty.dflt TMr))) n4=(0:Int)))(h5:(iand IntKind.u64 (Prod.snd (Prod.snd (Prod.snd (Prod.snd (Prod.snd (List.getD l9 (Int.toNat n5) (Ty.dflt TMr))))))) n0=(0:Int)))(h6:(¬iand IntKind.u64 (Prod.fst (Prod.snd (List.getD l9 (Int.toNat n5) (Ty.dflt TMr)))) (Prod.fst (List.getD l9 (Int.toNat n5) (Ty.dflt TMr)))=(0:Int)))(h7:(iand IntKind.u64 (Prod.fst (Prod.snd (Prod.snd (List.getD l9 (Int.toNat n5) (Ty.dflt TMr))))) (Prod.fst (List.getD l9 (Int.toNat n5) (Ty.dflt TMr)))=(0:Int)))(h8:(iand IntKind.u32 (Prod.fst (Prod.snd (Prod.snd (Prod.snd (List.getD l9 (Int.toNat n5) (Ty.dflt TMr)))))) (Prod.fst (Prod.snd (Prod.snd (Prod.snd (Prod.snd (List.getD l9 (Int.toNat n5) (Ty.dflt TMr)))))))=(0:Int))):(p3f [.k 0,.n n0,.n n1,.n n2,.b b3,.n n4,.n n5,.n n6,.n n7,.n n8,.l TMr l9,.l TU l10]).sel=some (Step.go [.k 0,.n n0,.n n1,.n n2,.b b3,.n (ior IntKind.u64 n4 (Prod.fst (List.getD l9 (Int.toNat n5) (Ty.dflt TMr)))),.n (IntKind.wrap .i64 (n5+(1:Int))),.n n6,.n n7,.n n8,.l TMr l9,.l TU l10]):=sP [1]<|sT (dt h0)<|sA h1<|sP [1,1]<|sF (nt h2)<|sTo (c:=(inR n5 (List.length l9)))<|sT h3<|sF (bnf h4)<|sF (bnf h5)<|sF (bf h6)<|sF (bnf h7)<|sF (bnf h8)<|sP [1]<|sL
theorem q3v {n0 n1 n2:Int}{b3:Bool}{n4 n5 n6 n7 n8:Int}{l9:List (Ty.den TMr)}{l10:List (Ty.den TU)}{b11:Bool}(g0:0≤n5)(h0:(n5<(↑(List.length l9):Int)))(h1:(a1u [.n n0,.n n5])=(some (0,[.b b11])))(h2:(b11=true))(h3:(b3=false))(h4:(¬iand IntKind.u64 (Prod.fst (Prod.snd (List.getD l9 (Int.toNat n5) (Ty.dflt TMr)))) (Prod.fst (List.getD l9 (Int.toNat n5) (Ty.dflt TMr)))=(0:Int)))(h5:(iand IntKind.u64 (Prod.fst (Prod.snd (Prod.snd (List.getD l9 (Int.toNat n5) (Ty.dflt TMr))))) (Prod.fst (List.getD l9 (Int.toNat n5) (Ty.dflt TMr)))=(0:Int)))(h6:(iand IntKind.u32 (Prod.fst (Prod.snd (Prod.snd (Prod.snd (List.getD l9 (Int.toNat n5) (Ty.dflt TMr)))))) (Prod.fst (Prod.snd (Prod.snd (Prod.snd (Prod.snd (List.getD l9 (Int.toNat n5) (Ty.dflt TMr)))))))=(0:Int))):(p3f [.k 0,.n n0,.n n1,.n n2,.b b3,.n n4,.n n5,.n n6,.n n7,.n n8,.l TMr l9,.l TU l10]).sel=some (Step.go [.k 0,.n n0,.n n1,.n n2,.b b3,.n (ior IntKind.u64 n4 (Prod.fst (List.getD l9 (Int.toNat n5) (Ty.dflt TMr)))),.n (IntKind.wrap .i64 (n5+(1:Int))),.n n6,.n n7,.n n8,.l TMr l9,.l TU l10]):=sP [1]<|sT (dt h0)<|sA h1<|sP [1,1]<|sF (nt h2)<|sTo (c:=(inR n5 (List.length l9)))<|sF h3<|sP [0,0]<|sF (bf h4)<|sF (bnf h5)<|sF (bnf h6)<|sP [1]<|sL
theorem q3u {n0 n1 n2:Int}{b3:Bool}{n4 n5 n6 n7 n8:Int}{l9:List (Ty.den TMr)}{l10:List (Ty.den TU)}(g0:0≤n5)(h0:(¬n5<(↑(List.length l9):Int))):(p3f [.k 0,.n n0,.n n1,.n n2,.b b3,.n n4,.n n5,.n n6,.n n7,.n n8,.l TMr l9,.l TU l10]).sel=some (Step.stop 0 [.n n0,.n n1,.n n2,.b b3,.n n4,.n n6,.n n7,.n n8,.l TMr l9,.l TU l10]):=sP [1]<|sF (df h0)<|sP [1]<|sL
def r3a:List Dat→Tree Bool:=evW s3e 8 (lsM [(11,v3o)] 0) [laV 0,.int .u64 4]
theorem t3d {l0:List (Ty.den TS)}{l1 l2:List (Ty.den TPt)}{l3:List (Ty.den TRt)}{n4 n5:Int}{b6:Bool}(h0:(n2d [.l TS l0,.l TPt l1,.l TPt l2,.l TRt l3,.n (1000:Int)])=(some (0,[.n n5])))(h1:(n5>(1000:Int)))(h2:(op_w27 [])=(some (0,[.b b6]))):(r3a [.l TS l0,.l TPt l1,.l TPt l2,.l TRt l3,.n n4]).sel=some (b6):=sA h0<|sP [1,1]<|sT (dt h1)<|sP [1]<|sA h2<|sP [1,1]<|sL
theorem s3z {l0:List (Ty.den TS)}{l1 l2:List (Ty.den TPt)}{l3:List (Ty.den TRt)}{n4 n5 n6 n7 n8 n9:Int}{l10:List (Ty.den TMr)}{l11:List (Ty.den TU)}{n12 n13 n14 n15 n16 n17:Int}{b18:Bool}{n19 n20 n21 n22:Int}{l23:List (Ty.den TMr)}{l24:List (Ty.den TU)}{b25:Bool}(h0:(n2d [.l TS l0,.l TPt l1,.l TPt l2,.l TRt l3,.n (1000:Int)])=(some (0,[.n n5])))(h1:(¬n5>(1000:Int)))(h2:(p3g [.l TS l0,.l TPt l1,.l TPt l2,.l TRt l3])=(some (0,[.n n6,.n n7,.n n8,.n n9,.l TMr l10,.l TU l11])))(h3:(n9=(0:Int)))(h4:(r3l [.l TMr l10,.l TU l11,.n n6,.n n7,.n n8,.n (iand IntKind.u64 n4 n6)])=(some (0,[.n n12,.n n13])))(h5:(r3f [.l TMr l10,.l TU l11,.n n6,.n n7,.n n8,.n (iand IntKind.u64 n4 n6)])=(some (0,[.n n14])))(h6:(q3a [.k 0,.n (iand IntKind.u64 n4 n6),.n n12,.n n13,.b (iand IntKind.u64 n14 (iand IntKind.u64 n4 n6)==(0:Int)),.n (0:Int),.n (0:Int),.n n6,.n n7,.n n8,.l TMr l10,.l TU l11])=(some (0,[.n n15,.n n16,.n n17,.b b18,.n n19,.n n20,.n n21,.n n22,.l TMr l23,.l TU l24])))(h7:(b18=false))(h8:(iand IntKind.u64 n19 n22=n19))(h9:(iand IntKind.u32 (ior IntKind.u32 n16 n17) n21=ior IntKind.u32 n16 n17))(h10:(op_w27 [])=(some (0,[.b b25]))):(r3a [.l TS l0,.l TPt l1,.l TPt l2,.l TRt l3,.n n4]).sel=some (b25):=sA h0<|sP [1,1]<|sF (df h1)<|sP [1]<|sA h2<|sP [1,1]<|sF (bnf h3)<|sA h4<|sP [1,1]<|sA h5<|sP [1,1]<|sA h6<|sP [1]<|sT (nf h7)<|sP [1,1]<|sT (bt h8)<|sT (bt h9)<|sP [1]<|sA h10<|sP [1,1]<|sL
theorem s3y {l0:List (Ty.den TS)}{l1 l2:List (Ty.den TPt)}{l3:List (Ty.den TRt)}{n4 n5 n6 n7 n8 n9:Int}{l10:List (Ty.den TMr)}{l11:List (Ty.den TU)}{n12 n13 n14 n15 n16 n17:Int}{b18:Bool}{n19 n20 n21 n22:Int}{l23:List (Ty.den TMr)}{l24:List (Ty.den TU)}{b25:Bool}(h0:(n2d [.l TS l0,.l TPt l1,.l TPt l2,.l TRt l3,.n (1000:Int)])=(some (0,[.n n5])))(h1:(¬n5>(1000:Int)))(h2:(p3g [.l TS l0,.l TPt l1,.l TPt l2,.l TRt l3])=(some (0,[.n n6,.n n7,.n n8,.n n9,.l TMr l10,.l TU l11])))(h3:(n9=(0:Int)))(h4:(r3l [.l TMr l10,.l TU l11,.n n6,.n n7,.n n8,.n (iand IntKind.u64 n4 n6)])=(some (0,[.n n12,.n n13])))(h5:(r3f [.l TMr l10,.l TU l11,.n n6,.n n7,.n n8,.n (iand IntKind.u64 n4 n6)])=(some (0,[.n n14])))(h6:(q3a [.k 0,.n (iand IntKind.u64 n4 n6),.n n12,.n n13,.b (iand IntKind.u64 n14 (iand IntKind.u64 n4 n6)==(0:Int)),.n (0:Int),.n (0:Int),.n n6,.n n7,.n n8,.l TMr l10,.l TU l11])=(some (0,[.n n15,.n n16,.n n17,.b b18,.n n19,.n n20,.n n21,.n n22,.l TMr l23,.l TU l24])))(h7:(b18=true))(h8:(iand IntKind.u32 n16 n17=(0:Int)))(h9:(iand IntKind.u64 n19 n22=n19))(h10:(iand IntKind.u32 (ior IntKind.u32 n16 n17) n21=ior IntKind.u32 n16 n17))(h11:(op_w27 [])=(some (0,[.b b25]))):(r3a [.l TS l0,.l TPt l1,.l TPt l2,.l TRt l3,.n n4]).sel=some (b25):=sA h0<|sP [1,1]<|sF (df h1)<|sP [1]<|sA h2<|sP [1,1]<|sF (bnf h3)<|sA h4<|sP [1,1]<|sA h5<|sP [1,1]<|sA h6<|sP [1]<|sF (nt h7)<|sT (bt h8)<|sT (bt h9)<|sT (bt h10)<|sP [1]<|sA h11<|sP [1,1]<|sL
theorem s3u {l0:List (Ty.den TS)}{l1 l2:List (Ty.den TPt)}{l3:List (Ty.den TRt)}{n4 n5 n6 n7 n8 n9:Int}{b10:Bool}(h0:(n2d [.l TS l0,.l TPt l1,.l TPt l2,.l TRt l3,.n (1000:Int)])=(some (0,[.n n5])))(h1:(¬n5>(1000:Int)))(h2:(p3g [.l TS l0,.l TPt l1,.l TPt l2,.l TRt l3])=(some (1,[.n n6,.n n7,.n n8,.n n9])))(h3:(¬n9=(0:Int)))(h4:(op_w27 [])=(some (0,[.b b10]))):(r3a [.l TS l0,.l TPt l1,.l TPt l2,.l TRt l3,.n n4]).sel=some (b10):=sA h0<|sP [1,1]<|sF (df h1)<|sP [1]<|sA h2<|sP [0,1,1]<|sT (bnt h3)<|sP [1,1]<|sA h4<|sP [1,1]<|sL
def mkV (h:Nat):PV:=.agg [.imm TMr h,.nilsl,.int .u64 (h+1),.int .u32 (h+2),.int .u64 (h+3)]
def mkB (h:Nat):PB:=.cells [.imm TMr h,.nilsl,.int .u64 (h+1),.int .u32 (h+2),.int .u64 (h+3)]
def mkO (h b:Nat):PB:=.cells [.own b,.nilsl,.int .u64 h,.int .u32 (h+1),.int .u64 (h+2)]
def v3p:LSh:={K:=0,log:=[],ins:=[(sh 41 [(1,.int .u64 0),(2,.ptr 0 0),(6,.int .u32 1),(7,.int .u32 2),(8,.int .i64 3)],[mkB 4])],nils:=[],outs:=[(.exit 0,sh 41 [(6,.int .u32 0),(7,.int .u32 1)],[])],cv:=[]}
def t3i:List Dat→Tree Step:=evL s3e 64 3 ls0 v3p
theorem t3u: ∃op,IsL t3i 64 3 v3p op:=bxL q3e (LsOk.none _ _ _)
def u3h:OpA:=opL t3u
theorem u3a (env:List Dat):u3h env=a0b t3i FU env:=h3j t3u env
abbrev v3u:MBox:=boxL t3u
theorem t3z {n0 n1 n2 n3:Int}{l4:List (Ty.den TMr)}{b5:Bool}(g0:0≤n3)(h0:(n3<(↑(List.length l4):Int)))(h1:(n3<(64:Int)))(h2:(a1u [.n n0,.n n3])=(some (0,[.b b5])))(h3:(b5=true)):(t3i [.k 0,.n n0,.n n1,.n n2,.n n3,.l TMr l4,.n 0,.n 0,.n 0]).sel=some (Step.go [.k 0,.n n0,.n (ior IntKind.u32 n1 (Prod.fst (Prod.snd (Prod.snd (Prod.snd (List.getD l4 (Int.toNat n3) (Ty.dflt TMr))))))),.n (ior IntKind.u32 n2 (Prod.fst (Prod.snd (Prod.snd (Prod.snd (Prod.snd (List.getD l4 (Int.toNat n3) (Ty.dflt TMr)))))))),.n (IntKind.wrap .i64 (n3+(1:Int))),.l TMr l4,.n (0:Int),.n (0:Int),.n (0:Int)]):=sP [1]<|sT (dt h0)<|sT (dt h1)<|sA h2<|sP [1,1]<|sT h3<|sTo (c:=(inR n3 (List.length l4)))<|sTo (c:=(inR n3 (List.length l4)))<|sP [1]<|sL
theorem u3d {n0 n1 n2 n3:Int}{l4:List (Ty.den TMr)}{b5:Bool}(g0:0≤n3)(h0:(n3<(↑(List.length l4):Int)))(h1:(n3<(64:Int)))(h2:(a1u [.n n0,.n n3])=(some (0,[.b b5])))(h3:(b5=false)):(t3i [.k 0,.n n0,.n n1,.n n2,.n n3,.l TMr l4,.n 0,.n 0,.n 0]).sel=some (Step.go [.k 0,.n n0,.n n1,.n n2,.n (IntKind.wrap .i64 (n3+(1:Int))),.l TMr l4,.n (0:Int),.n (0:Int),.n (0:Int)]):=sP [1]<|sT (dt h0)<|sT (dt h1)<|sA h2<|sP [1,1]<|sF h3<|sP [1]<|sL
theorem u3b {n0 n1 n2 n3:Int}{l4:List (Ty.den TMr)}(g0:0≤n3)(h0:(n3<(↑(List.length l4):Int)))(h1:(¬n3<(64:Int))):(t3i [.k 0,.n n0,.n n1,.n n2,.n n3,.l TMr l4,.n 0,.n 0,.n 0]).sel=some (Step.stop 0 [.n n1,.n n2]):=sP [1]<|sT (dt h0)<|sF (df h1)<|sP [1]<|sL
theorem u3c {n0 n1 n2 n3:Int}{l4:List (Ty.den TMr)}(g0:0≤n3)(h0:(¬n3<(↑(List.length l4):Int))):(t3i [.k 0,.n n0,.n n1,.n n2,.n n3,.l TMr l4,.n 0,.n 0,.n 0]).sel=some (Step.stop 0 [.n n1,.n n2]):=sP [1]<|sF (df h0)<|sP [0,0,1]<|sL
def S_m64:BSh:={args:=[mkV 0,.int .u64 4],blks:=[],log:=[],outs:=[(.tup [.int .u32 0,.int .u32 1],[])]}
def ev_m64:List Dat→Tree (Nat×List Dat):=evF s3e 64 (lsM [(3,v3u)] 0) S_m64
theorem e_m64: ∃op,IsF ev_m64 64 S_m64 op:=bxF q3e (lsE (lsC (h3i t3u) (atF) lsZ))
def u3j:OpA:=opF e_m64
theorem v3q {l0:List (Ty.den TMr)}{n1 n2 n3 n4 n5 n6:Int}(h0:(u3h [.k 0,.n n4,.n (0:Int),.n (0:Int),.n (0:Int),.l TMr l0,.n n1,.n n2,.n n3])=(some (0,[.n n5,.n n6]))):u3j [.l TMr l0,.n n1,.n n2,.n n3,.n n4]=some ((0,[.n n5,.n n6])):=h3h e_m64 (sA h0<|sP [1,1]<|sL)
def u3q:FuncId→Option a0q:=a0s 64 (S_m64.k u3j) s3e
theorem t3p:CsOk Try.prog u3q:=csL1 q3e e_m64
def v3k:LSh:={K:=0,log:=[],ins:=[(sh 30 [(1,.int .u64 0),(2,.ptr 0 0),(5,.int .u64 1),(6,.int .i64 2)],[mkB 3])],nils:=[],outs:=[(.exit 0,sh 30 [(5,.int .u64 0)],[])],cv:=[]}
def t3h:List Dat→Tree Step:=evL u3q 65 3 ls0 v3k
theorem t3v: ∃op,IsL t3h 65 3 v3k op:=bxL t3p (LsOk.none _ _ _)
def u3l:OpA:=opL t3v
theorem t3x (env:List Dat):u3l env=a0b t3h FU env:=h3j t3v env
abbrev w3b:MBox:=boxL t3v
theorem u3e {n0 n1 n2:Int}{l3:List (Ty.den TMr)}{b4:Bool}(g0:0≤n2)(h0:(n2<(↑(List.length l3):Int)))(h1:(n2<(64:Int)))(h2:(a1u [.n n0,.n n2])=(some (0,[.b b4])))(h3:(b4=true)):(t3h [.k 0,.n n0,.n n1,.n n2,.l TMr l3,.n 0,.n 0,.n 0]).sel=some (Step.go [.k 0,.n n0,.n (ior IntKind.u64 n1 (Prod.snd (Prod.snd (Prod.snd (Prod.snd (Prod.snd (List.getD l3 (Int.toNat n2) (Ty.dflt TMr)))))))),.n (IntKind.wrap .i64 (n2+(1:Int))),.l TMr l3,.n (0:Int),.n (0:Int),.n (0:Int)]):=sP [1]<|sT (dt h0)<|sT (dt h1)<|sA h2<|sP [1,1]<|sT h3<|sTo (c:=(inR n2 (List.length l3)))<|sP [1]<|sL
theorem t3w {n0 n1 n2:Int}{l3:List (Ty.den TMr)}{b4:Bool}(g0:0≤n2)(h0:(n2<(↑(List.length l3):Int)))(h1:(n2<(64:Int)))(h2:(a1u [.n n0,.n n2])=(some (0,[.b b4])))(h3:(b4=false)):(t3h [.k 0,.n n0,.n n1,.n n2,.l TMr l3,.n 0,.n 0,.n 0]).sel=some (Step.go [.k 0,.n n0,.n n1,.n (IntKind.wrap .i64 (n2+(1:Int))),.l TMr l3,.n (0:Int),.n (0:Int),.n (0:Int)]):=sP [1]<|sT (dt h0)<|sT (dt h1)<|sA h2<|sP [1,1]<|sF h3<|sP [1]<|sL
theorem u3g {n0 n1 n2:Int}{l3:List (Ty.den TMr)}(g0:0≤n2)(h0:(n2<(↑(List.length l3):Int)))(h1:(¬n2<(64:Int))):(t3h [.k 0,.n n0,.n n1,.n n2,.l TMr l3,.n 0,.n 0,.n 0]).sel=some (Step.stop 0 [.n n1]):=sP [1]<|sT (dt h0)<|sF (df h1)<|sP [1]<|sL
theorem t3y {n0 n1 n2:Int}{l3:List (Ty.den TMr)}(g0:0≤n2)(h0:(¬n2<(↑(List.length l3):Int))):(t3h [.k 0,.n n0,.n n1,.n n2,.l TMr l3,.n 0,.n 0,.n 0]).sel=some (Step.stop 0 [.n n1]):=sP [1]<|sF (df h0)<|sP [0,0,1]<|sL
def S_m65:BSh:={args:=[mkV 0,.int .u64 4],blks:=[],log:=[],outs:=[(.int .u64 0,[])]}
def ev_m65:List Dat→Tree (Nat×List Dat):=evF u3q 65 (lsM [(3,w3b)] 0) S_m65
theorem e_m65: ∃op,IsF ev_m65 65 S_m65 op:=bxF t3p (lsE (lsC (h3i t3v) (atF) lsZ))
def u3k:OpA:=opF e_m65
theorem v3l {l0:List (Ty.den TMr)}{n1 n2 n3 n4 n5:Int}(h0:(u3l [.k 0,.n n4,.n (0:Int),.n (0:Int),.l TMr l0,.n n1,.n n2,.n n3])=(some (0,[.n n5]))):u3k [.l TMr l0,.n n1,.n n2,.n n3,.n n4]=some ((0,[.n n5])):=h3h e_m65 (sA h0<|sP [1,1]<|sL)
def u3n:FuncId→Option a0q:=a0s 65 (S_m65.k u3k) u3q
theorem t3n:CsOk Try.prog u3n:=csL1 t3p e_m65
def R_34_5:LSh:={K:=0,log:=[],ins:=[(sh 92 [(0,.imm TMr 0),(1,.int .u64 1),(5,.ptr 0 0),(6,.int .i64 2)],[mkO 3 1,.arr TMr 6])],nils:=[],outs:=[(.exit 0,sh 92 [(0,.imm TMr 0),(1,.int .u64 1),(5,.ptr 0 0)],[mkO 2 1,.arr TMr 5])],cv:=[(5,[],0,.own TMr)]}
def t3o:List Dat→Tree Step:=evL u3n 34 5 ls0 R_34_5
theorem u3p: ∃op,IsL t3o 34 5 R_34_5 op:=bxL t3n (LsOk.none _ _ _)
def u3f:OpA:=opL u3p
theorem v3c (env:List Dat):u3f env=a0b t3o FU env:=h3j u3p env
abbrev v3m:MBox:=boxL u3p
theorem u3z {l0:List (Ty.den TMr)}{n1 n2:Int}{l3:List (Ty.den TMr)}(g0:0≤n2)(h0:(n2<(↑(List.length l0):Int)))(h1:((List.length l3+1)*40≤140737488355328)):(t3o [.k 0,.l TMr l0,.n n1,.n n2,.n 0,.n 0,.n 0,.l TMr l3]).sel=some (Step.go [.k 0,.l TMr l0,.n n1,.n (IntKind.wrap .i64 (n2+(1:Int))),.n (0:Int),.n (0:Int),.n (0:Int),.l TMr (apL l3 [(Prod.fst (List.getD l0 (Int.toNat n2) (Ty.dflt TMr)),Prod.fst (Prod.snd (List.getD l0 (Int.toNat n2) (Ty.dflt TMr))),Prod.fst (Prod.snd (Prod.snd (List.getD l0 (Int.toNat n2) (Ty.dflt TMr)))),Prod.fst (Prod.snd (Prod.snd (Prod.snd (List.getD l0 (Int.toNat n2) (Ty.dflt TMr))))),Prod.fst (Prod.snd (Prod.snd (Prod.snd (Prod.snd (List.getD l0 (Int.toNat n2) (Ty.dflt TMr)))))),Prod.snd (Prod.snd (Prod.snd (Prod.snd (Prod.snd (List.getD l0 (Int.toNat n2) (Ty.dflt TMr)))))))])]):=sP [1]<|sT (dt h0)<|sTo (c:=(inR n2 (List.length l0)))<|sTo (c:=(inR n2 (List.length l0)))<|sTo (c:=(inR n2 (List.length l0)))<|sTo (c:=(inR n2 (List.length l0)))<|sTo (c:=(inR n2 (List.length l0)))<|sTo (c:=(inR n2 (List.length l0)))<|sT (dt h1)<|sP [1,1]<|sL
theorem u3v {l0:List (Ty.den TMr)}{n1 n2:Int}{l3:List (Ty.den TMr)}(g0:0≤n2)(h0:(¬n2<(↑(List.length l0):Int))):(t3o [.k 0,.l TMr l0,.n n1,.n n2,.n 0,.n 0,.n 0,.l TMr l3]).sel=some (Step.stop 0 [.l TMr l0,.n n1,.n (0:Int),.n (0:Int),.n (0:Int),.l TMr l3]):=sP [1]<|sF (df h0)<|sP [1]<|sL
def u3o:List Dat→Tree Bool:=evW u3n 34 (lsM [(5,v3m)] 0) [.imm TMr 0,.int .u64 1]
theorem v3s {l0:List (Ty.den TMr)}{n1:Int}{b2:Bool}(h0:((↑(List.length l0):Int)>(100:Int)))(h1:(op_w27 [])=(some (0,[.b b2]))):(u3o [.l TMr l0,.n n1]).sel=some (b2):=sT (dt h0)<|sP [1]<|sA h1<|sP [1,1]<|sL
theorem v3n {l0:List (Ty.den TMr)}{n1:Int}{l2:List (Ty.den TMr)}{n3 n4 n5 n6:Int}{l7:List (Ty.den TMr)}{n8 n9 n10 n11 n12 n13:Int}{b14:Bool}(h0:(¬(↑(List.length l0):Int)>(100:Int)))(h1:(u3f [.k 0,.l TMr l0,.n n1,.n (0:Int),.n (0:Int),.n (0:Int),.n (0:Int),.l TMr []])=(some (0,[.l TMr l2,.n n3,.n n4,.n n5,.n n6,.l TMr l7])))(h2:(r3l [.l TMr l2,.l TU [],.n (0:Int),.n (0:Int),.n (0:Int),.n n3])=(some (0,[.n n8,.n n9])))(h3:(u3j [.l TMr l7,.n n4,.n n5,.n n6,.n n3])=(some (0,[.n n10,.n n11])))(h4:(n8=n10))(h5:(n9=n11))(h6:(r3f [.l TMr l2,.l TU [],.n (0:Int),.n (0:Int),.n (0:Int),.n n3])=(some (0,[.n n12])))(h7:(u3k [.l TMr l7,.n n4,.n n5,.n n6,.n n3])=(some (0,[.n n13])))(h8:(n12=n13))(h9:(op_w27 [])=(some (0,[.b b14]))):(u3o [.l TMr l0,.n n1]).sel=some (b14):=sF (df h0)<|sA h1<|sP [1]<|sA h2<|sP [1,1]<|sA h3<|sP [1,1]<|sT (bt h4)<|sT (bt h5)<|sA h6<|sP [1,1]<|sA h7<|sP [1,1]<|sT (bt h8)<|sP [1]<|sA h9<|sP [1,1,1]<|sL
def cs_11A:FuncId→Option a0q:=a0s 22 ((BSh.of B11).k h1f) j3v
theorem n3i:CsOk Try.prog cs_11A:=csA h3w B11_ok
def cs_12A:FuncId→Option a0q:=a0s 23 ((BSh.of B12).k i1r) cs_11A
theorem n3p:CsOk Try.prog cs_12A:=csA n3i B12_ok
def m3r:FuncId→Option a0q:=e1c 16 [(BSh.of Bc16).k b3k] cs_12A
theorem m3b:CsOk Try.prog m3r:=csB n3p Bc16_ok
def m3i:FuncId→Option a0q:=a0s 18 ((BSh.of Bc18).k z2v) m3r
theorem l3z:CsOk Try.prog m3i:=csA m3b Bc18_ok
def j3h:FuncId→Option a0q:=a0s 19 ((BSh.of Bc19).k y2j) m3i
theorem i3c:CsOk Try.prog j3h:=csA l3z Bc19_ok
def S_q13:BSh:={args:=[.int .u64 0,.int .i64 1],blks:=[],log:=[],outs:=[(.int .u64 0,[])]}
def a2r:List Dat→Tree (Nat×List Dat):=evF j3h 75 ls0 S_q13
theorem m3a: ∃op,IsF a2r 75 S_q13 op:=bxF i3c (LsOk.none _ _ _)
def o1n:OpA:=opF m3a
theorem m3j {n0 n1:Int}(h0:(n1<(0:Int))):o1n [.n n0,.n n1]=some ((0,[.n n0])):=h3h m3a (sT (dt h0)<|sP [1,1,1,1,1]<|sL)
theorem o3f {n0 n1:Int}(h0:(¬n1<(0:Int)))(h1:(n1>(63:Int))):o1n [.n n0,.n n1]=some ((0,[.n n0])):=h3h m3a (sF (df h0)<|sT (dt h1)<|sP [1,1,1]<|sL)
theorem o3d {n0 n1:Int}{b2:Bool}(h0:(¬n1<(0:Int)))(h1:(¬n1>(63:Int)))(h2:(a1u [.n n0,.n n1])=(some (0,[.b b2])))(h3:(b2=true)):o1n [.n n0,.n n1]=some ((0,[.n n0])):=h3h m3a (sF (df h0)<|sF (df h1)<|sA h2<|sP [1,1]<|sT h3<|sP [1]<|sL)
theorem n3k {n0 n1:Int}{b2:Bool}{n3:Int}(h0:(¬n1<(0:Int)))(h1:(¬n1>(63:Int)))(h2:(a1u [.n n0,.n n1])=(some (0,[.b b2])))(h3:(b2=false))(h4:(f1y [.n n1])=(some (0,[.n n3]))):o1n [.n n0,.n n1]=some ((0,[.n (IntKind.wrap .u64 (n0+n3))])):=h3h m3a (sF (df h0)<|sF (df h1)<|sA h2<|sP [1,1]<|sF h3<|sA h4<|sP [1,1,1]<|sL)
def y1c:FuncId→Option a0q:=a0s 75 (S_q13.k o1n) j3h
theorem c1e:CsOk Try.prog y1c:=csL1 i3c m3a
def m3z:LSh:={K:=0,log:=[],ins:=[(sh 18 [(0,.int .i64 0),(3,.int .u64 1),(4,.int .i64 2)],[])],nils:=[],outs:=[(.exit 0,sh 18 [(3,.int .u64 0)],[])],cv:=[]}
def h3q:List Dat→Tree Step:=evL y1c 41 3 ls0 m3z
theorem i3z: ∃op,IsL h3q 41 3 m3z op:=bxL c1e (LsOk.none _ _ _)
def l3g:OpA:=opL i3z
theorem l3d (env:List Dat):l3g env=a0b h3q FU env:=h3j i3z env
abbrev o3r:MBox:=boxL i3z
theorem k3l {n0 n1 n2 n3:Int}(h0:(n2<n0))(h1:(n2<(64:Int)))(h2:(o1n [.n n1,.n n2])=(some (0,[.n n3]))):(h3q [.k 0,.n n0,.n n1,.n n2]).sel=some (Step.go [.k 0,.n n0,.n n3,.n (IntKind.wrap .i64 (n2+(1:Int)))]):=sP [1]<|sT (dt h0)<|sT (dt h1)<|sA h2<|sP [1,1,1]<|sL
theorem k3o {n0 n1 n2:Int}(h0:(n2<n0))(h1:(¬n2<(64:Int))):(h3q [.k 0,.n n0,.n n1,.n n2]).sel=some (Step.stop 0 [.n n1]):=sP [1]<|sT (dt h0)<|sF (df h1)<|sP [1]<|sL
theorem k3m {n0 n1 n2:Int}(h0:(¬n2<n0)):(h3q [.k 0,.n n0,.n n1,.n n2]).sel=some (Step.stop 0 [.n n1]):=sP [1]<|sF (df h0)<|sP [0,0,1]<|sL
def S_q27:BSh:={args:=[.int .i64 0],blks:=[],log:=[],outs:=[(.int .u64 0,[])]}
def y1a:List Dat→Tree (Nat×List Dat):=evF y1c 41 (lsM [(3,o3r)] 0) S_q27
theorem e_q27: ∃op,IsF y1a 41 S_q27 op:=bxF c1e (lsE (lsC (h3i i3z) (atF) lsZ))
def g1d:OpA:=opF e_q27
theorem n3c {n0 n1:Int}(h0:(l3g [.k 0,.n n0,.n (0:Int),.n (0:Int)])=(some (0,[.n n1]))):g1d [.n n0]=some ((0,[.n n1])):=h3h e_q27 (sA h0<|sP [1,1]<|sL)
def m3n:FuncId→Option a0q:=a0s 41 (S_q27.k g1d) y1c
theorem o2v:CsOk Try.prog m3n:=csL1 c1e e_q27
def o3b:LSh:={K:=0,log:=[],ins:=[(sh 18 [(0,.imm TI 0),(3,.int .u64 1),(4,.int .i64 2)],[])],nils:=[],outs:=[(.exit 0,sh 18 [(3,.int .u64 0)],[])],cv:=[]}
def h3s:List Dat→Tree Step:=evL m3n 56 3 ls0 o3b
theorem j3j: ∃op,IsL h3s 56 3 o3b op:=bxL o2v (LsOk.none _ _ _)
def l3k:OpA:=opL j3j
theorem k3s (env:List Dat):l3k env=a0b h3s FU env:=h3j j3j env
abbrev o3k:MBox:=boxL j3j
theorem k3e {l0:List (Ty.den TI)}{n1 n2 n3:Int}(g0:0≤n2)(h0:(n2<(↑(List.length l0):Int)))(h1:(o1n [.n n1,.n (List.getD l0 (Int.toNat n2) (0:Int))])=(some (0,[.n n3]))):(h3s [.k 0,.l TI l0,.n n1,.n n2]).sel=some (Step.go [.k 0,.l TI l0,.n n3,.n (IntKind.wrap .i64 (n2+(1:Int)))]):=sP [1]<|sT (dt h0)<|sTo (c:=(inR n2 (List.length l0)))<|sA h1<|sP [1,1,1]<|sL
theorem k3i {l0:List (Ty.den TI)}{n1 n2:Int}(g0:0≤n2)(h0:(¬n2<(↑(List.length l0):Int))):(h3s [.k 0,.l TI l0,.n n1,.n n2]).sel=some (Step.stop 0 [.n n1]):=sP [1]<|sF (df h0)<|sP [1]<|sL
def S_q18:BSh:={args:=[.imm TI 0],blks:=[],log:=[],outs:=[(.int .u64 0,[])]}
def ev_q18:List Dat→Tree (Nat×List Dat):=evF m3n 56 (lsM [(3,o3k)] 0) S_q18
theorem e_q18: ∃op,IsF ev_q18 56 S_q18 op:=bxF o2v (lsE (lsC (h3i j3j) (atF) lsZ))
def i3d:OpA:=opF e_q18
theorem n3y {l0:List (Ty.den TI)}{n1:Int}(h0:(l3k [.k 0,.l TI l0,.n (0:Int),.n (0:Int)])=(some (0,[.n n1]))):i3d [.l TI l0]=some ((0,[.n n1])):=h3h e_q18 (sA h0<|sP [1,1]<|sL)
def l3f:FuncId→Option a0q:=a0s 56 (S_q18.k i3d) m3n
theorem i3m:CsOk Try.prog l3f:=csL1 o2v e_q18
def m3d:LSh:={K:=0,log:=[],ins:=[(sh 31 [(0,.imm TNd 0),(1,.bool 1),(5,.own 0),(6,.int .i64 2)],[.arr TI 3])],nils:=[(5,TI)],outs:=[(.exit 0,sh 31 [(5,.own 0)],[.arr TI 0])],cv:=[]}
def h3p:List Dat→Tree Step:=evL l3f 57 3 ls0 m3d
theorem j3e: ∃op,IsL h3p 57 3 m3d op:=bxL i3m (LsOk.none _ _ _)
def l3j:OpA:=opL j3e
theorem k3u (env:List Dat):l3j env=a0b h3p FU env:=h3j j3e env
abbrev o3o:MBox:=boxL j3e
theorem k3k {l0:List (Ty.den TNd)}{b1:Bool}{n2:Int}{l3:List (Ty.den TI)}(g0:0≤n2)(h0:(n2<(↑(List.length l0):Int)))(h1:((Prod.snd (List.getD l0 (Int.toNat n2) (Ty.dflt TNd))==b1)=true))(h2:((List.length l3+1)*8≤140737488355328)):(h3p [.k 0,.l TNd l0,.b b1,.n n2,.l TI l3]).sel=some (Step.go [.k 0,.l TNd l0,.b b1,.n (IntKind.wrap .i64 (n2+(1:Int))),.l TI (l3++[Prod.fst (List.getD l0 (Int.toNat n2) (Ty.dflt TNd))])]):=sP [1]<|sT (dt h0)<|sTo (c:=(inR n2 (List.length l0)))<|sT h1<|sTo (c:=(inR n2 (List.length l0)))<|sT (dt h2)<|sP [1]<|sL
theorem k3a {l0:List (Ty.den TNd)}{b1:Bool}{n2:Int}{l3:List (Ty.den TI)}(g0:0≤n2)(h0:(n2<(↑(List.length l0):Int)))(h1:((Prod.snd (List.getD l0 (Int.toNat n2) (Ty.dflt TNd))==b1)=false)):(h3p [.k 0,.l TNd l0,.b b1,.n n2,.l TI l3]).sel=some (Step.go [.k 0,.l TNd l0,.b b1,.n (IntKind.wrap .i64 (n2+(1:Int))),.l TI l3]):=sP [1]<|sT (dt h0)<|sTo (c:=(inR n2 (List.length l0)))<|sF h1<|sP [1]<|sL
theorem k3c {l0:List (Ty.den TNd)}{b1:Bool}{n2:Int}{l3:List (Ty.den TI)}(g0:0≤n2)(h0:(¬n2<(↑(List.length l0):Int))):(h3p [.k 0,.l TNd l0,.b b1,.n n2,.l TI l3]).sel=some (Step.stop 0 [.l TI l3]):=sP [1]<|sF (df h0)<|sP [1]<|sL
def S_m57:BSh:={args:=[.imm TNd 0,.bool 1],blks:=[],log:=[],outs:=[(.int .u32 0,[])]}
def ev_m57:List Dat→Tree (Nat×List Dat):=evF l3f 57 (lsM [(3,o3o)] 0) S_m57
theorem e_m57: ∃op,IsF ev_m57 57 S_m57 op:=bxF i3m (lsE (lsC (h3i j3e) (atF) lsZ))
def j3s:OpA:=opF e_m57
theorem n3j {l0:List (Ty.den TNd)}{b1:Bool}{l2:List (Ty.den TI)}{n3:Int}(h0:(l3j [.k 0,.l TNd l0,.b b1,.n (0:Int),.l TI []])=(some (0,[.l TI l2])))(h1:(i3d [.l TI l2])=(some (0,[.n n3]))):j3s [.l TNd l0,.b b1]=some ((0,[.n (IntKind.wrap .u32 n3)])):=h3h e_m57 (sA h0<|sP [1]<|sA h1<|sP [1,1,1]<|sL)
def l3p:FuncId→Option a0q:=a0s 57 (S_m57.k j3s) l3f
theorem i3o:CsOk Try.prog l3p:=csL1 i3m e_m57
def n3r:LSh:={K:=4,log:=[],ins:=[(sh 72 [(1,.ptr 4 0),(2,.ptr 5 0),(4,.own 6),(6,.ptr 7 0),(35,.own 3),(36,.int .i64 0),(37,.int .i64 1)],[.arr TS 2,.arr TPt 3,.arr TPt 4,.arr TRt 5,.cells [.own 0,.own 1,.own 2,.own 3],zM 6,.arr TU 9,yM 8 10,.arr TMr 13])],nils:=[],outs:=[(.exit 0,sh 72 [(1,.ptr 4 0),(2,.ptr 5 0),(6,.ptr 6 0)],[.arr TS 0,.arr TPt 1,.arr TPt 2,.arr TRt 3,.cells [.own 0,.own 1,.own 2,.own 3],zM 4,yM 7 7,.arr TMr 10])],cv:=[(6,[],0,.own TMr)]}
def h3u:List Dat→Tree Step:=evL l3p 28 6 ls0 n3r
theorem i3x: ∃op,IsL h3u 28 6 n3r op:=bxL i3o (LsOk.none _ _ _)
def j3c:OpA:=opL i3x
theorem k3f (env:List Dat):j3c env=a0b h3u FU env:=h3j i3x env
abbrev o3g:MBox:=boxL i3x
theorem k3r {n0 n1:Int}{l2:List (Ty.den TS)}{l3 l4:List (Ty.den TPt)}{l5:List (Ty.den TRt)}{n6 n7 n8:Int}{l9:List (Ty.den TU)}{n10 n11 n12:Int}{l13:List (Ty.den TMr)}{n14 n15 n16 n17 n18 n19:Int}(g0:0≤n1)(g1:n0=(l5.length:Int))(g2:n0=(l9.length:Int))(h0:(n1<n0))(h1:(l3o [.l TS l2,.l TPt l3,.l TPt l4,.l TRt l5,.s (Prod.fst (List.getD l5 (Int.toNat n1) (Ty.dflt TRt))),.n (Prod.fst (Prod.snd (List.getD l5 (Int.toNat n1) (Ty.dflt TRt)))),.l TI (Prod.fst (Prod.snd (Prod.snd (List.getD l5 (Int.toNat n1) (Ty.dflt TRt))))),.l TNd (Prod.fst (Prod.snd (Prod.snd (Prod.snd (List.getD l5 (Int.toNat n1) (Ty.dflt TRt)))))),.l TI (Prod.fst (Prod.snd (Prod.snd (Prod.snd (Prod.snd (List.getD l5 (Int.toNat n1) (Ty.dflt TRt))))))),.l TNd (Prod.snd (Prod.snd (Prod.snd (Prod.snd (Prod.snd (List.getD l5 (Int.toNat n1) (Ty.dflt TRt))))))),.n (List.getD l9 (Int.toNat n1) (0:Int))])=(some (0,[.n n14,.n n15,.n n16,.n n17,.n n18,.n n19])))(h2:((List.length l13+1)*40≤140737488355328)):(h3u [.k 0,.n n0,.n n1,.l TS l2,.l TPt l3,.l TPt l4,.l TRt l5,.n n6,.n n7,.n n8,.l TU l9,.n n10,.n n11,.n n12,.l TMr l13]).sel=some (Step.go [.k 0,.n n0,.n (IntKind.wrap .i64 (n1+(1:Int))),.l TS l2,.l TPt l3,.l TPt l4,.l TRt l5,.n n6,.n n7,.n n8,.l TU l9,.n n10,.n n11,.n n12,.l TMr (apL l13 [(n14,n15,n16,n17,n18,n19)])]):=sP [1]<|sT (dt h0)<|sTo (c:=(inR n1 (List.length l5)))<|sTo (c:=(inR n1 (List.length l9)))<|sA h1<|sP [1,1]<|sT (dt h2)<|sP [1,1]<|sL
theorem k3b {n0 n1:Int}{l2:List (Ty.den TS)}{l3 l4:List (Ty.den TPt)}{l5:List (Ty.den TRt)}{n6 n7 n8:Int}{l9:List (Ty.den TU)}{n10 n11 n12:Int}{l13:List (Ty.den TMr)}(g0:0≤n1)(g1:n0=(l5.length:Int))(g2:n0=(l9.length:Int))(h0:(¬n1<n0)):(h3u [.k 0,.n n0,.n n1,.l TS l2,.l TPt l3,.l TPt l4,.l TRt l5,.n n6,.n n7,.n n8,.l TU l9,.n n10,.n n11,.n n12,.l TMr l13]).sel=some (Step.stop 0 [.l TS l2,.l TPt l3,.l TPt l4,.l TRt l5,.n n6,.n n7,.n n8,.n n10,.n n11,.n n12,.l TMr l13]):=sP [1]<|sF (df h0)<|sP [1]<|sL
def l3t:LSh:={K:=4,log:=[],ins:=[(sh 72 [(2,.ptr 4 0),(6,.ptr 5 0),(56,.own 1),(57,.int .i64 0),(58,.int .i64 1)],[.arr TS 2,.arr TPt 3,.arr TPt 4,.arr TRt 5,zM 6,xM 6 9,.arr TMr 12,.arr TU 13])],nils:=[],outs:=[(.exit 2,sh 72 [(2,.ptr 4 0),(6,.ptr 5 0)],[.gone,.gone,.gone,.gone,zM 0,xM 6 3,.arr TMr 6,.arr TU 7])],cv:=[(6,[],1,.own TU)]}
def h3n:List Dat→Tree Step:=evL l3p 28 11 ls0 l3t
theorem i3i: ∃op,IsL h3n 28 11 l3t op:=bxL i3o (LsOk.none _ _ _)
def i3n:OpA:=opL i3i
theorem j3o (env:List Dat):i3n env=a0b h3n FU env:=h3j i3i env
abbrev n3a:MBox:=boxL i3i
theorem j3l {n0 n1:Int}{l2:List (Ty.den TS)}{l3 l4:List (Ty.den TPt)}{l5:List (Ty.den TRt)}{n6 n7 n8 n9 n10 n11:Int}{l12:List (Ty.den TMr)}{l13:List (Ty.den TU)}{n14:Int}(g0:0≤n1)(g1:n0=(l3.length:Int))(h0:(n1<n0))(h1:(h3l [.n (0:Int),.n (Prod.snd (List.getD l3 (Int.toNat n1) (Ty.dflt TPt)))])=(some (0,[.n n14])))(h2:((List.length l13+1)*8≤140737488355328)):(h3n [.k 0,.n n0,.n n1,.l TS l2,.l TPt l3,.l TPt l4,.l TRt l5,.n n6,.n n7,.n n8,.n n9,.n n10,.n n11,.l TMr l12,.l TU l13]).sel=some (Step.go [.k 0,.n n0,.n (IntKind.wrap .i64 (n1+(1:Int))),.l TS l2,.l TPt l3,.l TPt l4,.l TRt l5,.n n6,.n n7,.n n8,.n n9,.n n10,.n n11,.l TMr l12,.l TU (l13++[n14])]):=sP [1]<|sT (dt h0)<|sTo (c:=(inR n1 (List.length l3)))<|sA h1<|sP [1,1]<|sT (dt h2)<|sP [1,1]<|sL
theorem j3x {n0 n1:Int}{l2:List (Ty.den TS)}{l3 l4:List (Ty.den TPt)}{l5:List (Ty.den TRt)}{n6 n7 n8 n9 n10 n11:Int}{l12:List (Ty.den TMr)}{l13:List (Ty.den TU)}(g0:0≤n1)(g1:n0=(l3.length:Int))(h0:(¬n1<n0)):(h3n [.k 0,.n n0,.n n1,.l TS l2,.l TPt l3,.l TPt l4,.l TRt l5,.n n6,.n n7,.n n8,.n n9,.n n10,.n n11,.l TMr l12,.l TU l13]).sel=some (Step.stop 0 [.n n6,.n n7,.n n8,.n n9,.n n10,.n n11,.l TMr l12,.l TU l13]):=sP [1]<|sF (df h0)<|sP [1]<|sL
def S_m28:BSh:={args:=[.agg [.own 0,.own 1,.own 2,.own 3]],blks:=[.arr TS 0,.arr TPt 1,.arr TPt 2,.arr TRt 3],log:=[],outs:=[(.tup [.agg [.own 4,.own 5,.int .u64 0,.int .u32 1,.int .u64 2],.int .i64 3],[.gone,.gone,.gone,.gone,.arr TMr 4,.arr TU 5]),(.tup [.agg [.nilsl,.nilsl,.int .u64 0,.int .u32 1,.int .u64 2],.int .i64 3],[.gone,.gone,.gone,.gone])]}
def ev_m28:List Dat→Tree (Nat×List Dat):=evF l3p 28 (lsM [(6,o3g),(11,n3a)] 4) S_m28
theorem o3t: ∃op,IsF ev_m28 28 S_m28 op:=bxF i3o (lsE (lsC (h3i i3x) (atF) (lsC (h3i i3i) (atF) lsZ)))
def i3v:OpA:=opF o3t
theorem n3e {l0:List (Ty.den TS)}{l1 l2:List (Ty.den TPt)}{l3:List (Ty.den TRt)}{n4:Int}{l5:List (Ty.den TU)}{n6 n7 n8:Int}{l9:List (Ty.den TS)}{l10 l11:List (Ty.den TPt)}{l12:List (Ty.den TRt)}{n13 n14 n15 n16 n17 n18:Int}{l19:List (Ty.den TMr)}{n20 n21 n22 n23 n24 n25:Int}{l26:List (Ty.den TMr)}{l27:List (Ty.den TU)}(h0:(p1p [.l TS l0,.l TPt l1,.l TPt l2,.l TRt l3])=(some (0,[.n n4,.l TU l5])))(h1:(n4=(0:Int)))(h2:(i3e [.n (↑(List.length l3):Int)])=(some (0,[.n n6])))(h3:(i3e [.n (↑(List.length l1):Int)])=(some (0,[.n n7])))(h4:(i3e [.n (↑(List.length l0):Int)])=(some (0,[.n n8])))(h5:(j3c [.k 0,.n (↑(List.length l3):Int),.n (0:Int),.l TS l0,.l TPt l1,.l TPt l2,.l TRt l3,.n (0:Int),.n (0:Int),.n (0:Int),.l TU l5,.n n6,.n (IntKind.wrap .u32 n7),.n n8,.l TMr []])=(some (0,[.l TS l9,.l TPt l10,.l TPt l11,.l TRt l12,.n n13,.n n14,.n n15,.n n16,.n n17,.n n18,.l TMr l19])))(h6:(i3n [.k 0,.n (↑(List.length l10):Int),.n (0:Int),.l TS l9,.l TPt l10,.l TPt l11,.l TRt l12,.n n13,.n n14,.n n15,.n n16,.n n17,.n n18,.l TMr l19,.l TU []])=(some (0,[.n n20,.n n21,.n n22,.n n23,.n n24,.n n25,.l TMr l26,.l TU l27]))):i3v [.l TS l0,.l TPt l1,.l TPt l2,.l TRt l3]=some ((0,[.n n23,.n n24,.n n25,.n (0:Int),.l TMr l26,.l TU l27])):=h3h o3t (sA h0<|sP [1,1]<|sF (bnf h1)<|sA h2<|sP [1,1]<|sA h3<|sP [1,1]<|sA h4<|sP [1,1,1]<|sA h5<|sP [1]<|sA h6<|sP [1,1]<|sL)
theorem n3t {l0:List (Ty.den TS)}{l1 l2:List (Ty.den TPt)}{l3:List (Ty.den TRt)}{n4:Int}(h0:(p1p [.l TS l0,.l TPt l1,.l TPt l2,.l TRt l3])=(some (1,[.n n4])))(h1:(¬n4=(0:Int))):i3v [.l TS l0,.l TPt l1,.l TPt l2,.l TRt l3]=some ((1,[.n (0:Int),.n (0:Int),.n (0:Int),.n n4])):=h3h o3t (sA h0<|sP [0,1,1]<|sT (bnt h1)<|sP [1]<|sL)
def j3y:FuncId→Option a0q:=e1c 28 [S_m28.k i3v] l3p
theorem h3z:CsOk Try.prog j3y:=csA1 i3o o3t
def n3q:LSh:={K:=0,log:=[],ins:=[(sh 99 [(1,.ptr 0 0),(2,.ptr 1 0),(4,.own 2),(6,.ptr 3 0),(7,.int .i64 0)],[laB 1,zM 5,.arr TU 8,yM 4 9,.arr TMr 12])],nils:=[],outs:=[(.exit 0,sh 99 [(1,.ptr 0 0),(2,.ptr 1 0),(6,.ptr 2 0)],[laB 0,zM 4,yM 3 7,.arr TMr 10])],cv:=[(6,[],0,.own TMr)]}
def h3x:List Dat→Tree Step:=evL j3y 29 6 ls0 n3q
theorem j3i: ∃op,IsL h3x 29 6 n3q op:=bxL h3z (LsOk.none _ _ _)
def j3f:OpA:=opL j3i
theorem k3j (env:List Dat):j3f env=a0b h3x FU env:=h3j j3i env
abbrev o3h:MBox:=boxL j3i
theorem k3p {n0:Int}{l1:List (Ty.den TS)}{l2 l3:List (Ty.den TPt)}{l4:List (Ty.den TRt)}{n5 n6 n7:Int}{l8:List (Ty.den TU)}{n9 n10 n11:Int}{l12:List (Ty.den TMr)}{l13:List (Ty.den TNd)}{l14:List (Ty.den TI)}{n15 n16 n17 n18 n19:Int}(g0:0≤n0)(g1:(l4.length:Int)=(l8.length:Int))(h0:(n0<(↑(List.length l4):Int)))(h1:(i1r [.s (Prod.fst (List.getD l4 (Int.toNat n0) (Ty.dflt TRt))),.n (Prod.fst (Prod.snd (List.getD l4 (Int.toNat n0) (Ty.dflt TRt)))),.l TI (Prod.fst (Prod.snd (Prod.snd (List.getD l4 (Int.toNat n0) (Ty.dflt TRt))))),.l TNd (Prod.fst (Prod.snd (Prod.snd (Prod.snd (List.getD l4 (Int.toNat n0) (Ty.dflt TRt)))))),.l TI (Prod.fst (Prod.snd (Prod.snd (Prod.snd (Prod.snd (List.getD l4 (Int.toNat n0) (Ty.dflt TRt))))))),.l TNd (Prod.snd (Prod.snd (Prod.snd (Prod.snd (Prod.snd (List.getD l4 (Int.toNat n0) (Ty.dflt TRt)))))))])=(some (0,[.l TNd l13])))(h2:(h1f [.s (Prod.fst (List.getD l4 (Int.toNat n0) (Ty.dflt TRt))),.n (Prod.fst (Prod.snd (List.getD l4 (Int.toNat n0) (Ty.dflt TRt)))),.l TI (Prod.fst (Prod.snd (Prod.snd (List.getD l4 (Int.toNat n0) (Ty.dflt TRt))))),.l TNd (Prod.fst (Prod.snd (Prod.snd (Prod.snd (List.getD l4 (Int.toNat n0) (Ty.dflt TRt)))))),.l TI (Prod.fst (Prod.snd (Prod.snd (Prod.snd (Prod.snd (List.getD l4 (Int.toNat n0) (Ty.dflt TRt))))))),.l TNd (Prod.snd (Prod.snd (Prod.snd (Prod.snd (Prod.snd (List.getD l4 (Int.toNat n0) (Ty.dflt TRt)))))))])=(some (0,[.l TI l14])))(h3:(i3d [.l TI l14])=(some (0,[.n n15])))(h4:((true&&decide ((1:Int)≤(↑(List.length (Prod.fst (Prod.snd (Prod.snd (List.getD l4 (Int.toNat n0) (Ty.dflt TRt)))))):Int)))=true))(h5:(i3d [.l TI (List.take 1 (Prod.fst (Prod.snd (Prod.snd (List.getD l4 (Int.toNat n0) (Ty.dflt TRt))))))])=(some (0,[.n n16])))(h6:(inR (Prod.fst (Prod.snd (List.getD l4 (Int.toNat n0) (Ty.dflt TRt)))) (List.length l3)=true))(h7:(i3d [.l TI [Prod.snd (List.getD l3 (Int.toNat (Prod.fst (Prod.snd (List.getD l4 (Int.toNat n0) (Ty.dflt TRt))))) (Ty.dflt TPt))]])=(some (0,[.n n17])))(h8:(j3s [.l TNd l13,.b false])=(some (0,[.n n18])))(h9:(j3s [.l TNd l13,.b true])=(some (0,[.n n19])))(h10:((List.length l12+1)*40≤140737488355328)):(h3x [.k 0,.n n0,.l TS l1,.l TPt l2,.l TPt l3,.l TRt l4,.n n5,.n n6,.n n7,.l TU l8,.n n9,.n n10,.n n11,.l TMr l12]).sel=some (Step.go [.k 0,.n (IntKind.wrap .i64 (n0+(1:Int))),.l TS l1,.l TPt l2,.l TPt l3,.l TRt l4,.n n5,.n n6,.n n7,.l TU l8,.n n9,.n n10,.n n11,.l TMr (apL l12 [(n15,n16,n17,n18,n19,List.getD l8 (Int.toNat n0) (0:Int))])]):=sP [1]<|sT (dt h0)<|sTo (c:=(inR n0 (List.length l4)))<|sA h1<|sP [1,1]<|sA h2<|sP [1,1]<|sA h3<|sP [1,1]<|sT h4<|sP [1]<|sA h5<|sP [1,1]<|sT h6<|sA h7<|sP [1,1]<|sA h8<|sP [1,1]<|sA h9<|sP [1,1]<|sTo (c:=(inR n0 (List.length l8)))<|sT (dt h10)<|sP [1,1]<|sL
theorem k3d {n0:Int}{l1:List (Ty.den TS)}{l2 l3:List (Ty.den TPt)}{l4:List (Ty.den TRt)}{n5 n6 n7:Int}{l8:List (Ty.den TU)}{n9 n10 n11:Int}{l12:List (Ty.den TMr)}(g0:0≤n0)(g1:(l4.length:Int)=(l8.length:Int))(h0:(¬n0<(↑(List.length l4):Int))):(h3x [.k 0,.n n0,.l TS l1,.l TPt l2,.l TPt l3,.l TRt l4,.n n5,.n n6,.n n7,.l TU l8,.n n9,.n n10,.n n11,.l TMr l12]).sel=some (Step.stop 0 [.l TS l1,.l TPt l2,.l TPt l3,.l TRt l4,.n n5,.n n6,.n n7,.n n9,.n n10,.n n11,.l TMr l12]):=sP [1]<|sF (df h0)<|sP [1]<|sL
def l3m:LSh:={K:=0,log:=[],ins:=[(sh 99 [(1,.ptr 0 0),(2,.ptr 1 0),(6,.ptr 2 0),(10,.int .i64 0)],[laB 1,zM 5,xM 3 8,.arr TMr 11,.arr TU 12])],nils:=[],outs:=[(.exit 2,sh 99 [(2,.ptr 0 0),(6,.ptr 1 0)],[zM 0,xM 2 3,.arr TMr 6,.arr TU 7])],cv:=[(6,[],1,.own TU)]}
def h3k:List Dat→Tree Step:=evL j3y 29 12 ls0 l3m
theorem i3g: ∃op,IsL h3k 29 12 l3m op:=bxL h3z (LsOk.none _ _ _)
def i3p:OpA:=opL i3g
theorem j3r (env:List Dat):i3p env=a0b h3k FU env:=h3j i3g env
abbrev m3x:MBox:=boxL i3g
theorem j3m {n0:Int}{l1:List (Ty.den TS)}{l2 l3:List (Ty.den TPt)}{l4:List (Ty.den TRt)}{n5 n6 n7 n8 n9 n10:Int}{l11:List (Ty.den TMr)}{l12:List (Ty.den TU)}{n13:Int}(g0:0≤n0)(h0:(n0<(↑(List.length l2):Int)))(h1:(i3d [.l TI [Prod.snd (List.getD l2 (Int.toNat n0) (Ty.dflt TPt))]])=(some (0,[.n n13])))(h2:((List.length l12+1)*8≤140737488355328)):(h3k [.k 0,.n n0,.l TS l1,.l TPt l2,.l TPt l3,.l TRt l4,.n n5,.n n6,.n n7,.n n8,.n n9,.n n10,.l TMr l11,.l TU l12]).sel=some (Step.go [.k 0,.n (IntKind.wrap .i64 (n0+(1:Int))),.l TS l1,.l TPt l2,.l TPt l3,.l TRt l4,.n n5,.n n6,.n n7,.n n8,.n n9,.n n10,.l TMr l11,.l TU (l12++[n13])]):=sP [1]<|sT (dt h0)<|sTo (c:=(inR n0 (List.length l2)))<|sA h1<|sP [1,1]<|sT (dt h2)<|sP [1,1]<|sL
theorem j3p {n0:Int}{l1:List (Ty.den TS)}{l2 l3:List (Ty.den TPt)}{l4:List (Ty.den TRt)}{n5 n6 n7 n8 n9 n10:Int}{l11:List (Ty.den TMr)}{l12:List (Ty.den TU)}(g0:0≤n0)(h0:(¬n0<(↑(List.length l2):Int))):(h3k [.k 0,.n n0,.l TS l1,.l TPt l2,.l TPt l3,.l TRt l4,.n n5,.n n6,.n n7,.n n8,.n n9,.n n10,.l TMr l11,.l TU l12]).sel=some (Step.stop 0 [.n n5,.n n6,.n n7,.n n8,.n n9,.n n10,.l TMr l11,.l TU l12]):=sP [1]<|sF (df h0)<|sP [1]<|sL
def S_m29:BSh:={args:=[laV 0],blks:=[],log:=[],outs:=[(.tup [.agg [.own 0,.own 1,.int .u64 0,.int .u32 1,.int .u64 2],.int .i64 3],[.arr TMr 4,.arr TU 5]),(.tup [.agg [.nilsl,.nilsl,.int .u64 0,.int .u32 1,.int .u64 2],.int .i64 3],[])]}
def ev_m29:List Dat→Tree (Nat×List Dat):=evF j3y 29 (lsM [(6,o3h),(12,m3x)] 0) S_m29
theorem o3j: ∃op,IsF ev_m29 29 S_m29 op:=bxF h3z (lsE (lsC (h3i j3i) (atF) (lsC (h3i i3g) (atF) lsZ)))
def i3w:OpA:=opF o3j
theorem n3h {l0:List (Ty.den TS)}{l1 l2:List (Ty.den TPt)}{l3:List (Ty.den TRt)}{n4:Int}{l5:List (Ty.den TU)}{n6 n7 n8:Int}{l9:List (Ty.den TS)}{l10 l11:List (Ty.den TPt)}{l12:List (Ty.den TRt)}{n13 n14 n15 n16 n17 n18:Int}{l19:List (Ty.den TMr)}{n20 n21 n22 n23 n24 n25:Int}{l26:List (Ty.den TMr)}{l27:List (Ty.den TU)}(h0:(z2v [.l TS l0,.l TPt l1,.l TPt l2,.l TRt l3])=(some (0,[.n n4,.l TU l5])))(h1:(n4=(0:Int)))(h2:(g1d [.n (↑(List.length l3):Int)])=(some (0,[.n n6])))(h3:(g1d [.n (↑(List.length l1):Int)])=(some (0,[.n n7])))(h4:(g1d [.n (↑(List.length l0):Int)])=(some (0,[.n n8])))(h5:(j3f [.k 0,.n (0:Int),.l TS l0,.l TPt l1,.l TPt l2,.l TRt l3,.n (0:Int),.n (0:Int),.n (0:Int),.l TU l5,.n n6,.n (IntKind.wrap .u32 n7),.n n8,.l TMr []])=(some (0,[.l TS l9,.l TPt l10,.l TPt l11,.l TRt l12,.n n13,.n n14,.n n15,.n n16,.n n17,.n n18,.l TMr l19])))(h6:(i3p [.k 0,.n (0:Int),.l TS l9,.l TPt l10,.l TPt l11,.l TRt l12,.n n13,.n n14,.n n15,.n n16,.n n17,.n n18,.l TMr l19,.l TU []])=(some (0,[.n n20,.n n21,.n n22,.n n23,.n n24,.n n25,.l TMr l26,.l TU l27]))):i3w [.l TS l0,.l TPt l1,.l TPt l2,.l TRt l3]=some ((0,[.n n23,.n n24,.n n25,.n (0:Int),.l TMr l26,.l TU l27])):=h3h o3j (sA h0<|sP [1,1]<|sF (bnf h1)<|sA h2<|sP [1,1]<|sA h3<|sP [1,1]<|sA h4<|sP [1,1,1]<|sA h5<|sP [1]<|sA h6<|sP [1,1]<|sL)
theorem n3u {l0:List (Ty.den TS)}{l1 l2:List (Ty.den TPt)}{l3:List (Ty.den TRt)}{n4:Int}(h0:(z2v [.l TS l0,.l TPt l1,.l TPt l2,.l TRt l3])=(some (1,[.n n4])))(h1:(¬n4=(0:Int))):i3w [.l TS l0,.l TPt l1,.l TPt l2,.l TRt l3]=some ((1,[.n (0:Int),.n (0:Int),.n (0:Int),.n n4])):=h3h o3j (sA h0<|sP [0,1,1]<|sT (bnt h1)<|sP [1]<|sL)
def j3u:FuncId→Option a0q:=e1c 29 [S_m29.k i3w] j3y
theorem i3b:CsOk Try.prog j3u:=csA1 h3z o3j
def n3z:LSh:={K:=0,log:=[],ins:=[(sh 121 [(2,.ptr 0 0),(3,.ptr 1 0),(5,.int .i64 0)],[msB 1,msB 6])],nils:=[],outs:=[(.exit 0,sh 121 [(2,.ptr 0 0),(3,.ptr 1 0)],[msB 0,msB 5]),(.ret,sh 121 [(4,.bool 0)],[])],cv:=[]}
def h3v:List Dat→Tree Step:=evL j3u 30 4 ls0 n3z
theorem j3a: ∃op,IsL h3v 30 4 n3z op:=bxL i3b (LsOk.none _ _ _)
def l3l:OpA:=opL j3a
theorem k3g (env:List Dat):l3l env=a0b h3v FU env:=h3j j3a env
abbrev o3n:MBox:=boxL j3a
theorem k3v {n0:Int}{l1:List (Ty.den TMr)}{l2:List (Ty.den TU)}{n3 n4 n5:Int}(g0:0≤n0)(h0:(n0<(↑(List.length l1):Int))):(h3v [.k 0,.n n0,.l TMr l1,.l TU l2,.n n3,.n n4,.n n5,.l TMr l1,.l TU l2,.n n3,.n n4,.n n5]).sel=some (Step.go [.k 0,.n (IntKind.wrap .i64 (n0+(1:Int))),.l TMr l1,.l TU l2,.n n3,.n n4,.n n5,.l TMr l1,.l TU l2,.n n3,.n n4,.n n5]):=sP [1]<|sT (dt h0)<|sTo (c:=(inR n0 (List.length l1)))<|sTo (c:=(inR n0 (List.length l1)))<|sP [1]<|sF (bnf (a:=(Prod.fst (List.getD l1 (Int.toNat n0) (Ty.dflt TMr)))) rfl)<|sF (bnf (a:=(Prod.fst (Prod.snd (List.getD l1 (Int.toNat n0) (Ty.dflt TMr))))) rfl)<|sF (bnf (a:=(Prod.fst (Prod.snd (Prod.snd (List.getD l1 (Int.toNat n0) (Ty.dflt TMr)))))) rfl)<|sF (bnf (a:=(Prod.fst (Prod.snd (Prod.snd (Prod.snd (List.getD l1 (Int.toNat n0) (Ty.dflt TMr))))))) rfl)<|sF (bnf (a:=(Prod.fst (Prod.snd (Prod.snd (Prod.snd (Prod.snd (List.getD l1 (Int.toNat n0) (Ty.dflt TMr)))))))) rfl)<|sF (bnf (a:=(Prod.snd (Prod.snd (Prod.snd (Prod.snd (Prod.snd (List.getD l1 (Int.toNat n0) (Ty.dflt TMr)))))))) rfl)<|sP [1]<|sL
theorem k3t {n0:Int}{l1:List (Ty.den TMr)}{l2:List (Ty.den TU)}{n3 n4 n5:Int}(g0:0≤n0)(h0:(¬n0<(↑(List.length l1):Int))):(h3v [.k 0,.n n0,.l TMr l1,.l TU l2,.n n3,.n n4,.n n5,.l TMr l1,.l TU l2,.n n3,.n n4,.n n5]).sel=some (Step.stop 0 [.l TMr l1,.l TU l2,.n n3,.n n4,.n n5,.l TMr l1,.l TU l2,.n n3,.n n4,.n n5]):=sP [1]<|sF (df h0)<|sP [1]<|sL
def l3n:LSh:={K:=0,log:=[],ins:=[(sh 121 [(2,.ptr 0 0),(3,.ptr 1 0),(8,.int .i64 0)],[msB 1,msB 6])],nils:=[],outs:=[(.exit 2,sh 121 [],[]),(.ret,sh 121 [(4,.bool 0)],[])],cv:=[]}
def h3m:List Dat→Tree Step:=evL j3u 30 10 ls0 l3n
theorem i3f: ∃op,IsL h3m 30 10 l3n op:=bxL i3b (LsOk.none _ _ _)
def j3k:OpA:=opL i3f
theorem j3z (env:List Dat):j3k env=a0b h3m FU env:=h3j i3f env
abbrev m3l:MBox:=boxL i3f
theorem j3w {n0:Int}{l1:List (Ty.den TMr)}{l2:List (Ty.den TU)}{n3 n4 n5:Int}(g0:0≤n0)(h0:(n0<(↑(List.length l2):Int))):(h3m [.k 0,.n n0,.l TMr l1,.l TU l2,.n n3,.n n4,.n n5,.l TMr l1,.l TU l2,.n n3,.n n4,.n n5]).sel=some (Step.go [.k 0,.n (IntKind.wrap .i64 (n0+(1:Int))),.l TMr l1,.l TU l2,.n n3,.n n4,.n n5,.l TMr l1,.l TU l2,.n n3,.n n4,.n n5]):=sP [1]<|sT (dt h0)<|sTo (c:=(inR n0 (List.length l2)))<|sTo (c:=(inR n0 (List.length l2)))<|sP [1]<|sF (bnf (a:=(List.getD l2 (Int.toNat n0) (0:Int))) rfl)<|sP [1]<|sL
theorem j3t {n0:Int}{l1:List (Ty.den TMr)}{l2:List (Ty.den TU)}{n3 n4 n5:Int}(g0:0≤n0)(h0:(¬n0<(↑(List.length l2):Int))):(h3m [.k 0,.n n0,.l TMr l1,.l TU l2,.n n3,.n n4,.n n5,.l TMr l1,.l TU l2,.n n3,.n n4,.n n5]).sel=some (Step.stop 0 []):=sP [1]<|sF (df h0)<|sP [1]<|sL
def S_m30:BSh:={args:=[msV 0,msV 5],blks:=[],log:=[],outs:=[(.bool 0,[])]}
def ev_m30:List Dat→Tree (Nat×List Dat):=evF j3u 30 (lsM [(4,o3n),(10,m3l)] 0) S_m30
theorem e_m30: ∃op,IsF ev_m30 30 S_m30 op:=bxF i3b (lsE (lsC (h3i j3a) (atF) (lsC (h3i i3f) (atF) lsZ)))
def j3q:OpA:=opF e_m30
theorem n3w {l0:List (Ty.den TMr)}{l1:List (Ty.den TU)}{n2 n3 n4:Int}{l5:List (Ty.den TMr)}{l6:List (Ty.den TU)}{n7 n8 n9:Int}{l10:List (Ty.den TMr)}{l11:List (Ty.den TU)}{n12 n13 n14:Int}(h0:(l3l [.k 0,.n (0:Int),.l TMr l0,.l TU l1,.n n2,.n n3,.n n4,.l TMr l0,.l TU l1,.n n2,.n n3,.n n4])=(some (0,[.l TMr l5,.l TU l6,.n n7,.n n8,.n n9,.l TMr l10,.l TU l11,.n n12,.n n13,.n n14])))(h1:(j3k [.k 0,.n (0:Int),.l TMr l5,.l TU l6,.n n7,.n n8,.n n9,.l TMr l10,.l TU l11,.n n12,.n n13,.n n14])=(some (0,[]))):j3q [.l TMr l0,.l TU l1,.n n2,.n n3,.n n4,.l TMr l0,.l TU l1,.n n2,.n n3,.n n4]=some ((0,[.b true])):=h3h e_m30 (sF (bnf (a:=((↑(List.length l0):Int))) rfl)<|sF (bnf (a:=((↑(List.length l1):Int))) rfl)<|sF (bnf (a:=(n2)) rfl)<|sF (bnf (a:=(n3)) rfl)<|sF (bnf (a:=(n4)) rfl)<|sA h0<|sP [1]<|sA h1<|sP [1,1]<|sL)
def cs_m30:FuncId→Option a0q:=a0s 30 (S_m30.k j3q) j3u
theorem m3v:CsOk Try.prog cs_m30:=csL1 i3b e_m30
def n3n:List Dat→Tree Bool:=evW cs_m30 7 ls0 [laV 0]
theorem o3s {l0:List (Ty.den TS)}{l1 l2:List (Ty.den TPt)}{l3:List (Ty.den TRt)}{n4:Int}{b5:Bool}(h0:(n2d [.l TS l0,.l TPt l1,.l TPt l2,.l TRt l3,.n (1000:Int)])=(some (0,[.n n4])))(h1:(n4>(1000:Int)))(h2:(op_w27 [])=(some (0,[.b b5]))):(n3n [.l TS l0,.l TPt l1,.l TPt l2,.l TRt l3]).sel=some (b5):=sA h0<|sP [1,1]<|sT (dt h1)<|sP [1]<|sA h2<|sP [1,1]<|sL
theorem o3q {l0:List (Ty.den TS)}{l1 l2:List (Ty.den TPt)}{l3:List (Ty.den TRt)}{n4:Int}{l5:List (Ty.den TS)}{l6 l7:List (Ty.den TPt)}{l8:List (Ty.den TRt)}{n9 n10 n11 n12:Int}{l13:List (Ty.den TMr)}{l14:List (Ty.den TU)}{n15 n16 n17 n18:Int}{l19:List (Ty.den TMr)}{l20:List (Ty.den TU)}{b21 b22 b23:Bool}(h0:(n2d [.l TS l0,.l TPt l1,.l TPt l2,.l TRt l3,.n (1000:Int)])=(some (0,[.n n4])))(h1:(¬n4>(1000:Int)))(h2:(b3k [.l TS l0,.l TPt l1,.l TPt l2,.l TRt l3])=(some (0,[.l TS l5,.l TPt l6,.l TPt l7,.l TRt l8])))(h3:(i3v [.l TS l5,.l TPt l6,.l TPt l7,.l TRt l8])=(some (0,[.n n9,.n n10,.n n11,.n n12,.l TMr l13,.l TU l14])))(h4:(i3w [.l TS l0,.l TPt l1,.l TPt l2,.l TRt l3])=(some (0,[.n n15,.n n16,.n n17,.n n18,.l TMr l19,.l TU l20])))(h5:(n12=n18))(h6:(j3q [.l TMr l13,.l TU l14,.n n9,.n n10,.n n11,.l TMr l19,.l TU l20,.n n15,.n n16,.n n17])=(some (0,[.b b21])))(h7:(b21=true))(h8:(y2j [.l TS l5,.l TPt l6,.l TPt l7,.l TRt l8,.l TS l0,.l TPt l1,.l TPt l2,.l TRt l3])=(some (0,[.b b22])))(h9:(b22=true))(h10:(op_w27 [])=(some (0,[.b b23]))):(n3n [.l TS l0,.l TPt l1,.l TPt l2,.l TRt l3]).sel=some (b23):=sA h0<|sP [1,1]<|sF (df h1)<|sP [1]<|sA h2<|sP [1,1,1]<|sA h3<|sP [1,1,1]<|sA h4<|sP [1,1]<|sT (bt h5)<|sA h6<|sP [1,1]<|sT h7<|sA h8<|sP [1,1]<|sT h9<|sP [1]<|sA h10<|sP [1,1]<|sL
theorem n3l {l0:List (Ty.den TS)}{l1 l2:List (Ty.den TPt)}{l3:List (Ty.den TRt)}{n4:Int}{l5:List (Ty.den TS)}{l6 l7:List (Ty.den TPt)}{l8:List (Ty.den TRt)}{n9 n10 n11 n12 n13 n14 n15 n16:Int}{b17 b18 b19:Bool}(h0:(n2d [.l TS l0,.l TPt l1,.l TPt l2,.l TRt l3,.n (1000:Int)])=(some (0,[.n n4])))(h1:(¬n4>(1000:Int)))(h2:(b3k [.l TS l0,.l TPt l1,.l TPt l2,.l TRt l3])=(some (0,[.l TS l5,.l TPt l6,.l TPt l7,.l TRt l8])))(h3:(i3v [.l TS l5,.l TPt l6,.l TPt l7,.l TRt l8])=(some (1,[.n n9,.n n10,.n n11,.n n12])))(h4:(i3w [.l TS l0,.l TPt l1,.l TPt l2,.l TRt l3])=(some (1,[.n n13,.n n14,.n n15,.n n16])))(h5:(n12=n16))(h6:(j3q [.l TMr [],.l TU [],.n n9,.n n10,.n n11,.l TMr [],.l TU [],.n n13,.n n14,.n n15])=(some (0,[.b b17])))(h7:(b17=true))(h8:(y2j [.l TS l5,.l TPt l6,.l TPt l7,.l TRt l8,.l TS l0,.l TPt l1,.l TPt l2,.l TRt l3])=(some (0,[.b b18])))(h9:(b18=true))(h10:(op_w27 [])=(some (0,[.b b19]))):(n3n [.l TS l0,.l TPt l1,.l TPt l2,.l TRt l3]).sel=some (b19):=sA h0<|sP [1,1]<|sF (df h1)<|sP [1]<|sA h2<|sP [1,1,1]<|sA h3<|sP [0,1,1,1]<|sA h4<|sP [0,1,1]<|sT (bt h5)<|sA h6<|sP [1,1]<|sT h7<|sA h8<|sP [1,1]<|sT h9<|sP [1]<|sA h10<|sP [1,1]<|sL
def p2 (k:Nat):B64:=1#64<<<k
def inN (n:Int):Bool:=decide (0≤n)&&decide (n<64)
def hasB (X:B64)(n:Int):Bool:=inN n&&X.getLsbD n.toNat
def s1o (X:B64)(n:Int):B64:=bif inN n then X|||p2 n.toNat else X
theorem h2g (k i:Nat):(p2 k).getLsbD i=(decide (i<64)&&decide (i=k)):=by
 unfold p2
 rw[BitVec.getLsbD_shiftLeft]
 by_cases h:i=k
 ·subst h;simp
 ·by_cases h2:i<k
  ·simp[h,h2]
  ·have:i-k≠0:=by omega
   simp[h,h2,this]
theorem j2e {k:Nat}(h:k<64):(p2 k).toNat=2^k:=by
 unfold p2
 rw[BitVec.toNat_shiftLeft,Nat.shiftLeft_eq]
 have:2^k<2^64:=Nat.pow_lt_pow_right (by omega) h
 rw[show(1#64).toNat=1 from rfl,Nat.one_mul,Nat.mod_eq_of_lt this]
theorem getN (X:B64)(k:Nat):X.getLsbD k=decide (X.toNat/2^k%2=1):=by
 rw[←BitVec.testBit_toNat,Nat.testBit_eq_decide_div_mod_eq]
theorem r2c {X:B64}{k:Nat}(hk:k<64)(h:X.getLsbD k=false):X+p2 k=X|||p2 k:=by
 apply BitVec.add_eq_or_of_and_eq_zero
 apply BitVec.eq_of_getLsbD_eq
 intro i hi
 rw[BitVec.getLsbD_and,h2g]
 by_cases e:i=k
 ·subst e;simp[h]
 ·simp[e]
theorem N_add (X Y:B64):IntKind.wrap .u64 (N X+N Y)=N (X+Y):=by
 rw[k2v]
 refine congrArg N ?_
 apply BitVec.eq_of_toNat_eq
 rw[BitVec.toNat_ofInt,BitVec.toNat_add]
 unfold N
 omega
theorem w64x {x:Int}(h0: -9223372036854775808≤x)(h1:x<9223372036854775808):IntKind.wrap .i64 x=x:=by unfold IntKind.wrap;simp[IntKind.bits,IntKind.signed];omega
theorem wu64' {x:Int}(h0:0≤x)(h1:x<18446744073709551616):IntKind.wrap .u64 x=x:=by unfold IntKind.wrap;simp[IntKind.bits,IntKind.signed];omega
theorem q_pw (k:Nat)(hk:k<64):f1y [.n (k:Int)]=some (0,[.n (N (p2 k))]):=by
 refine m3t ?_
 rw[l3e]
 refine b0a (st:=i3a) (fun i=>[.k 0,.n (k:Int),.n (N (p2 i)),.n (i:Int)]) k (0,[.n (N (p2 k))]) (fun i hi=> ?_) ?_ FU (b1w (by omega))
 ·have h:=k3z (n0:=k) (n1:=N (p2 i)) (n2:=i) (by omega)
  have e1:IntKind.wrap .u64 (N (p2 i)*(2:Int))=N (p2 (i+1)):=by
   unfold N
   rw[j2e (by omega),j2e (by omega),Nat.pow_succ]
   have:2^(i+1)≤2^63:=Nat.pow_le_pow_right (by omega) (by omega)
   rw[Nat.pow_succ]at this
   rw[wu64' (by omega) (by omega)];omega
  rw[e1,w64x (by omega) (by omega)]at h
  exact h
 ·exact l3c (by omega)
theorem v3z (X:B64)(n:Int):a1u [.n (N X),.n n]=some (0,[.b (hasB X n)]):=by
 unfold hasB inN
 by_cases h0:0≤n
 ·by_cases h1:n<64
  ·obtain⟨k,rfl⟩: ∃k:Nat,n=k:=⟨n.toNat,by omega⟩
   have hp:N (p2 k)=((2^k:Nat):Int):=by unfold N;rw[j2e (by omega)]
   have hpos:0<2^k:=Nat.pow_pos (by omega)
   have hne:((2^k:Nat):Int)≠0:=by have:=Nat.pos_iff_ne_zero.1 hpos;exact_mod_cast this
   rw[m3u h0 (by omega) (q_pw k (by omega)) (by rw[hp];exact hne),hp]
   have e1:Int.tdiv (N X) ((2^k:Nat):Int)=((X.toNat/2^k:Nat):Int):=by unfold N;rfl
   have hlt:X.toNat/2^k<2^64:=Nat.lt_of_le_of_lt (Nat.div_le_self _ _) X.isLt
   rw[e1,wu64' (Int.natCast_nonneg _) (Int.ofNat_lt.2 (Nat.lt_of_lt_of_le hlt (by decide)))]
   have e2:Int.tmod ((X.toNat/2^k:Nat):Int) 2=((X.toNat/2^k%2:Nat):Int):=rfl
   rw[e2,getN]
   simp only[Option.some.injEq,Prod.mk.injEq,List.cons.injEq,and_true,true_and,Dat.b.injEq]
   rw[show decide (0≤(k:Int))=true by simp,show decide ((k:Int)<64)=true by simpa using h1,Bool.true_and,Bool.true_and,Bool.eq_iff_iff,beq_iff_eq,decide_eq_true_eq]
   simp only[Int.toNat_natCast]
   omega
  ·rw[n3v h0 (by omega),decide_eq_false h1];simp
 ·rw[n3s h0,decide_eq_false h0];simp
theorem i3h {X:B64}{n:Int}(h:inN n=false):s1o X n=X:=by unfold s1o;rw[h];rfl
def firB (k:Nat):B64:=BitVec.ofNat 64 (2^k-1)
theorem t2j {k:Nat}(h:k≤64):(firB k).toNat=2^k-1:=by
 unfold firB
 rw[BitVec.toNat_ofNat]
 have:2^k≤2^64:=Nat.pow_le_pow_right (by omega) h
 exact Nat.mod_eq_of_lt (by omega)
theorem y0i {k:Nat}(h:k≤64)(i:Nat):(firB k).getLsbD i=decide (i<k):=by
 rw[←BitVec.testBit_toNat,t2j h,Nat.testBit_two_pow_sub_one]
theorem j2a {k:Nat}(h:k<64):s1o (firB k) (k:Int)=firB (k+1):=by
 unfold s1o
 have:inN (k:Int)=true:=by simp[inN];omega
 rw[this,cond_true,Int.toNat_natCast]
 apply BitVec.eq_of_getLsbD_eq
 intro i hi
 rw[BitVec.getLsbD_or,h2g,y0i (by omega),y0i (by omega)]
 by_cases e:i=k
 ·subst e;simp[hi]
 ·have:decide (i<k)=decide (i<k+1):=by rw[Bool.eq_iff_iff];simp;omega
  simp[e,this]
theorem ishl1 (k:Nat):ishl IntKind.u64 (1:Int) (k:Int)=N (p2 k):=ishlB k
theorem l3y (X:B64)(n:Int):h3l [.n (N X),.n n]=some (0,[.n (N (s1o X n))]):=by
 by_cases h0:0≤n
 ·by_cases h1:n<64
  ·obtain⟨k,rfl⟩: ∃k:Nat,n=k:=⟨n.toNat,by omega⟩
   rw[m3o h0 (by omega),ishl1,ior_u64]
   have:inN (k:Int)=true:=by simp[inN];omega
   unfold s1o;rw[this];rfl
  ·rw[m3h h0 (by omega),i3h (by simp[inN,h1])]
 ·rw[m3s (by omega),i3h (by simp[inN,h0])]
theorem firN (n:Int):N (firB (min n.toNat 64))=if n≤0 then 0 else if n≥64 then 18446744073709551615 else 2^n.toNat-1:=by
 unfold N
 rw[t2j (by omega)]
 by_cases h0:n≤0
 ·rw[if_pos h0,show min n.toNat 64=0 by omega];rfl
 ·rw[if_neg h0]
  by_cases h1:n≥64
  ·rw[if_pos h1,show min n.toNat 64=64 by omega];rfl
  ·rw[if_neg h1,show min n.toNat 64=n.toNat by omega]
   have:0<2^n.toNat:=Nat.pow_pos (by omega)
   simp[Int.natCast_sub this]
theorem v3h (n:Int):i3e [.n n]=some (0,[.n (N (firB (min n.toNat 64)))]):=by
 rw[firN]
 by_cases h0:n≤0
 ·rw[if_pos h0];exact n3d h0
 ·rw[if_neg h0]
  by_cases h1:n≥64
  ·rw[if_pos h1];exact o3a h0 h1
  ·rw[if_neg h1,m3k h0 h1]
   obtain⟨k,rfl⟩: ∃k:Nat,n=k:=⟨n.toNat,by omega⟩
   have hp:N (p2 k)=((2^k:Nat):Int):=by unfold N;rw[j2e (by omega)]
   have hlt:2^k<2^64:=Nat.pow_lt_pow_right (by omega) (by omega)
   have hpos:0<2^k:=Nat.pow_pos (by omega)
   rw[ishl1,hp,wu64' (by omega) (by omega)]
   simp
def ofL (l:List Int):B64:=l.foldl s1o 0#64
theorem l3r (l:List Int){i:Nat}(hi:i<l.length):ofL (l.take (i+1))=s1o (ofL (l.take i)) (l.getD i 0):=by
 unfold ofL
 rw[List.take_add_one,List.getElem?_eq_getElem hi,List.foldl_append]
 simp[List.getD_eq_getElem?_getD,List.getElem?_eq_getElem hi]
theorem q_e17 (l:List Int)(hl:l.length≤9223372036854775807):l3s [.l TI l]=some (0,[.n (N (ofL l))]):=by
 refine n3b ?_
 rw[k3x]
 refine b0a (st:=h3y) (fun i=>[.k 0,.n (N (ofL (l.take i))),.l TI l,.n (l.length:Int),.n (i:Int)]) l.length (0,[.n (N (ofL l))]) (fun i hi=> ?_) ?_ FU (b1w hl)
 ·have h:=l3a (n3:=i) (n2:=l.length) (l1:=l) (by omega) rfl (by omega) (l3y (ofL (l.take i)) _)
  rw[w64x (by omega) (by omega)]at h
  rw[show(Int.toNat (i:Int))=i from rfl,show s1o (ofL (l.take i)) (l.getD i 0)=_ from(l3r l hi).symm]at h
  exact h
 ·have h:=l3b (n0:=N (ofL (l.take l.length))) (n3:=l.length) (n2:=l.length) (l1:=l) (by omega) rfl (by omega)
  rw[List.take_length]at h⊢;exact h
theorem u3s (X:B64)(n:Int):p3c [.n (N X),.n n]=some (0,[.b (hasB X n)]):=by
 unfold hasB inN
 by_cases h0:0≤n
 ·by_cases h1:n<64
  ·obtain⟨k,rfl⟩: ∃k:Nat,n=k:=⟨n.toNat,by omega⟩
   rw[s3m h0 h1,iandB,decide_eq_true h0,decide_eq_true h1];rfl
  ·rw[s3c h0 h1,decide_eq_false h1];simp
 ·rw[s3r h0,decide_eq_false h0];simp
def ptsR (z:Bool)(l:LN):List Int:=(l.filter fun d=>g2 d==z).map f1
theorem i3j (z:Bool)(l:LN){i:Nat}(hi:i<l.length):ptsR z (l.take (i+1))=if(g2 (l.getD i (Ty.dflt TNd))==z)=true then ptsR z (l.take i)++[f1 (l.getD i (Ty.dflt TNd))]else ptsR z (l.take i):=by
 unfold ptsR
 rw[List.take_add_one,List.getElem?_eq_getElem hi,List.getD_eq_getElem?_getD,List.getElem?_eq_getElem hi]
 simp only[Option.toList,Option.getD_some,List.filter_append,List.map_append,List.filter_cons,List.filter_nil]
 split<;>simp
theorem l3i (z:Bool)(l:LN):(ptsR z l).length≤l.length:=by
 unfold ptsR;rw[List.length_map];exact List.length_filter_le _ _
theorem m3f (l:List Int)(x:Int):ofL (l++[x])=s1o (ofL l) x:=by unfold ofL;rw[List.foldl_append];rfl
def p0 (e:Rt):Int:=(eP e).getD 0 0
def mrow (c:LP)(e:Rt)(t:Int):Ty.den TMr:=(N (ofL (trk e)),N (s1o 0#64 (p0 e)),N (s1o 0#64 (ptS c (eN e))),IntKind.wrap .u32 (N (ofL (ptsR false (ndsE e)))),IntKind.wrap .u32 (N (ofL (ptsR true (ndsE e)))),t)
theorem lp54m (a:LS)(b c:LP)(r:LR)(s:ByteArray)(n:Int)(p:LI)(q:LN)(o:LI)(f:LN)(t x1 x2 x3 x4 x5 x6:Int)(l:LN)(hl:l.length≤1000):
  j3g [.k 0,.n t,.n 0,.n 0,.n (l.length:Int),.n 0,.l TS a,.l TPt b,.l TPt c,.l TRt r,.s s,.n n,.l TI p,.l TNd q,.l TI o,.l TNd f,.n x1,.n x2,.n x3,.n x4,.n x5,.n x6,.l TNd l]=
   some (0,[.n t,.n (N (ofL (ptsR false l))),.n (N (ofL (ptsR true l))),.l TS a,.l TPt b,.l TPt c,.l TRt r,.s s,.n n,.l TI p,.l TNd q,.l TI o,.l TNd f,.n x1,.n x2,.n x3,.n x4,.n x5,.n x6]):=by
 rw[k3h]
 refine b0a (st:=h3o) (fun i=>[.k 0,.n t,.n (N (ofL (ptsR false (l.take i)))),.n (N (ofL (ptsR true (l.take i)))),.n (l.length:Int),.n (i:Int),.l TS a,.l TPt b,.l TPt c,.l TRt r,.s s,.n n,.l TI p,.l TNd q,.l TI o,.l TNd f,.n x1,.n x2,.n x3,.n x4,.n x5,.n x6,.l TNd l]) l.length (0,[.n t,.n (N (ofL (ptsR false l))),.n (N (ofL (ptsR true l))),.l TS a,.l TPt b,.l TPt c,.l TRt r,.s s,.n n,.l TI p,.l TNd q,.l TI o,.l TNd f,.n x1,.n x2,.n x3,.n x4,.n x5,.n x6]) (fun i hi=> ?_) ?_ FU (b1w (by omega))
 ·show _=some (Step.go [.k 0,.n t,.n (N (ofL (ptsR false (l.take (i+1))))),.n (N (ofL (ptsR true (l.take (i+1))))),.n (l.length:Int),.n ((i+1:Nat):Int),.l TS a,.l TPt b,.l TPt c,.l TRt r,.s s,.n n,.l TI p,.l TNd q,.l TI o,.l TNd f,.n x1,.n x2,.n x3,.n x4,.n x5,.n x6,.l TNd l])
  rw[i3j false l hi,i3j true l hi,←w1n i (by omega)]
  cases h:g2 (l.getD i (Ty.dflt TNd))with
  |true=>
   rw[if_neg (by simp),if_pos (by simp),m3f]
   exact k3y (by omega) rfl (by omega) h (l3y _ _)
  |false=>
   rw[if_pos (by simp),if_neg (by simp),m3f]
   exact k3q (by omega) rfl (by omega) h (l3y _ _)
 ·show _=some (Step.stop 0 [.n t,.n (N (ofL (ptsR false l))),.n (N (ofL (ptsR true l))),.l TS a,.l TPt b,.l TPt c,.l TRt r,.s s,.n n,.l TI p,.l TNd q,.l TI o,.l TNd f,.n x1,.n x2,.n x3,.n x4,.n x5,.n x6])
  rw[←congrArg (ptsR false) (List.take_length (l:=l)),←congrArg (ptsR true) (List.take_length (l:=l))]
  exact k3w (by omega) rfl (by omega)
theorem o54m (a:LS)(b c:LP)(r:LR)(e:Rt)(t:Int)(hk:rtOk b c e)(hw:wfE b c e=true):
  l3o [.l TS a,.l TPt b,.l TPt c,.l TRt r,.s (eS e),.n (eN e),.l TI (eP e),.l TNd (eQ e),.l TI (eO e),.l TNd (eF e),.n t]=some (0,[.n (mrow c e t).1,.n (mrow c e t).2.1,.n (mrow c e t).2.2.1,.n (mrow c e t).2.2.2.1,.n (mrow c e t).2.2.2.2.1,.n (mrow c e t).2.2.2.2.2]):=by
 obtain⟨⟨k1,k2⟩,⟨l1,l2,l3,l4⟩,k3,k4⟩:=hk
 have hp:0<(eP e).length:=by
  unfold wfE wfR at hw
  exact of_decide_eq_true (Bool.and_eq_true_iff.1 hw).1
 have hn:(ndsE e).length≤1000:=by unfold ndsE;rw[show List.append (eQ e) (eF e)=eQ e++eF e from rfl,List.length_append];omega
 have ht:(trk e).length≤9223372036854775807:=by unfold trk;rw[List.length_append];omega
 exact m3q (o10 _ _ _ _ _ _ l1 l2 l3 l4) (lp54m a b c r _ _ _ _ _ _ t 0 0 0 0 0 0 (ndsE e) hn) (o9 _ _ _ _ _ _ l1 l2 l3 l4) (q_e17 (trk e) ht) (h1s (i:=0) (n:=(eP e).length) (by omega) (by omega)) (l3y 0#64 (p0 e)) (h1s k1 k2) (l3y 0#64 (ptS c (eN e)))
def h3t (c:LP)(r:LR)(T:List Int)(k:Nat):List (Ty.den TMr):=(List.range k).map fun i=>mrow c (r.getD i (Ty.dflt TRt)) (T.getD i 0)
theorem i3k (c:LP)(r:LR)(T:List Int)(k:Nat):(h3t c r T k).length=k:=by unfold h3t;rw[List.length_map,List.length_range]
theorem i3t (c:LP)(r:LR)(T:List Int)(k:Nat):h3t c r T (k+1)=apL (h3t c r T k) [mrow c (r.getD k (Ty.dflt TRt)) (T.getD k 0)]:=by unfold h3t;rw[List.range_succ,List.map_append];rfl
def h3r (b:LP)(k:Nat):List Int:=(List.range k).map fun i=>N (s1o 0#64 (Prod.snd (b.getD i (Ty.dflt TPt))))
theorem i3q (b:LP)(k:Nat):(h3r b k).length=k:=by unfold h3r;rw[List.length_map,List.length_range]
theorem i3u (b:LP)(k:Nat):h3r b (k+1)=h3r b k++[N (s1o 0#64 (Prod.snd (b.getD k (Ty.dflt TPt))))]:=by unfold h3r;rw[List.range_succ,List.map_append];rfl
abbrev allR (b c:LP)(r:LR):Prop:= ∀i,i<r.length→rtOk b c (r.getD i (Ty.dflt TRt))∧wfE b c (r.getD i (Ty.dflt TRt))=true
def mkA (a:LS)(b c:LP)(r:LR):Nat×List Dat:=if(ckA a b c r).1=0 then(0,[.n (N (firB (min r.length 64))),.n (IntKind.wrap .u32 (N (firB (min b.length 64)))),.n (N (firB (min a.length 64))),.n 0,.l TMr (h3t c r (NL (tabB b r)) r.length),.l TU (h3r b b.length)])else(1,[.n 0,.n 0,.n 0,.n (ckA a b c r).1])
theorem m3e (b:LP)(r:LR):(NL (tabB b r)).length=r.length:=by rw[u1l];exact o0n ..
theorem n3f {a:LS}{b c:LP}{r:LR}(h:(ckA a b c r).1=0):b.length≤32∧r.length≤64∧allR b c r:=by
 obtain⟨hm,hw⟩:=(ck_ok a b c r).1 h
 obtain⟨h1,h2,h3⟩:=l0q hm
 exact⟨h1,h2,fun i hi=>⟨h3 i hi,hw _ (h0f hi)⟩⟩
theorem lq28i_6 (a:LS)(b c:LP)(r:LR)(T:List Int)(y1 y2 y3 z1 z2 z3:Int)(hr:r.length≤64)(hT:T.length=r.length)(hk:allR b c r):
  p3q [.k 0,.l TRt r,.n (r.length:Int),.n 0,.l TS a,.l TPt b,.l TPt c,.l TRt r,.n y1,.n y2,.n y3,.l TU T,.n z1,.n z2,.n z3,.l TMr []]=some (0,[.l TS a,.l TPt b,.l TPt c,.l TRt r,.n y1,.n y2,.n y3,.n z1,.n z2,.n z3,.l TMr (h3t c r T r.length)]):=by
 rw[q3o]
 refine b0a (st:=p3d) (fun i=>[.k 0,.l TRt r,.n (r.length:Int),.n (i:Int),.l TS a,.l TPt b,.l TPt c,.l TRt r,.n y1,.n y2,.n y3,.l TU T,.n z1,.n z2,.n z3,.l TMr (h3t c r T i)]) r.length (0,[.l TS a,.l TPt b,.l TPt c,.l TRt r,.n y1,.n y2,.n y3,.n z1,.n z2,.n z3,.l TMr (h3t c r T r.length)]) (fun i hi=> ?_) ?_ FU (b1w (by omega))
 ·show _=some (Step.go [.k 0,.l TRt r,.n (r.length:Int),.n ((i+1:Nat):Int),.l TS a,.l TPt b,.l TPt c,.l TRt r,.n y1,.n y2,.n y3,.l TU T,.n z1,.n z2,.n z3,.l TMr (h3t c r T (i+1))])
  rw[i3t,←w1n i (by omega)]
  have hl:=i3k c r T i
  exact q3i (by omega) rfl (congrArg Int.ofNat hT.symm) (by omega) (o54m a b c r _ (T.getD i 0) (hk i hi).1 (hk i hi).2) (by omega)
 ·exact q3s (by omega) rfl (congrArg Int.ofNat hT.symm) (by omega)
theorem s3v (b:LP)(M:List (Ty.den TMr))(y1 y2 y3 z1 z2 z3:Int)(hb:b.length≤32):
  p3l [.k 0,.l TPt b,.n (b.length:Int),.n 0,.n y1,.n y2,.n y3,.n z1,.n z2,.n z3,.l TMr M,.l TU []]=some (0,[.n y1,.n y2,.n y3,.n z1,.n z2,.n z3,.l TMr M,.l TU (h3r b b.length)]):=by
 rw[p3w]
 refine b0a (st:=p3b) (fun i=>[.k 0,.l TPt b,.n (b.length:Int),.n (i:Int),.n y1,.n y2,.n y3,.n z1,.n z2,.n z3,.l TMr M,.l TU (h3r b i)]) b.length (0,[.n y1,.n y2,.n y3,.n z1,.n z2,.n z3,.l TMr M,.l TU (h3r b b.length)]) (fun i hi=> ?_) ?_ FU (b1w (by omega))
 ·show _=some (Step.go [.k 0,.l TPt b,.n (b.length:Int),.n ((i+1:Nat):Int),.n y1,.n y2,.n y3,.n z1,.n z2,.n z3,.l TMr M,.l TU (h3r b (i+1))])
  rw[i3u,←w1n i (by omega)]
  have hl:=i3q b i
  exact p3v (by omega) rfl (by omega) (l3y 0#64 _) (show(List.length (α:=Int) (h3r b i)+1)*8≤140737488355328 by omega)
 ·exact p3u (by omega) rfl (by omega)
theorem o28i (a:LS)(b c:LP)(r:LR)(hs:okS a b c r):p3g [.l TS a,.l TPt b,.l TPt c,.l TRt r]=some (mkA a b c r):=by
 have e:=o17c a b c r hs
 unfold mkA
 by_cases h:(ckA a b c r).1=0
 ·rw[if_pos h]at e⊢
  obtain⟨h1,h2,h3⟩:=n3f h
  have f6:=lq28i_6 a b c r (NL (tabB b r)) 0 0 0 (N (firB (min r.length 64))) (IntKind.wrap .u32 (N (firB (min b.length 64)))) (N (firB (min a.length 64))) h2 (m3e b r) h3
  exact r3q e rfl (v3h _) (v3h _) (v3h _) f6 (s3v b _ 0 0 0 _ _ _ h1)
 ·rw[if_neg h]at e⊢
  exact r3u e h
theorem p3r (X:B64)(n:Int){k:Nat}(hk:k<64):(s1o X n).getLsbD k=(X.getLsbD k||decide ((k:Int)=n)):=by
 unfold s1o
 cases h:inN n with
 |true=>
  unfold inN at h
  rw[Bool.and_eq_true,decide_eq_true_eq,decide_eq_true_eq]at h
  rw[cond_true,BitVec.getLsbD_or,h2g,decide_eq_true hk,Bool.true_and]
  congr 1
  rw[Bool.eq_iff_iff,decide_eq_true_eq,decide_eq_true_eq];omega
 |false=>
  unfold inN at h
  rw[Bool.and_eq_false_iff,decide_eq_false_iff_not,decide_eq_false_iff_not]at h
  rw[cond_false,decide_eq_false (by omega),Bool.or_false]
theorem s3i (l:List Int){k:Nat}(hk:k<64):(ofL l).getLsbD k=decide ((k:Int)∈l):=by
 have key: ∀(l:List Int) (X:B64),(l.foldl s1o X).getLsbD k=(X.getLsbD k||decide ((k:Int)∈l)):=by
  intro l
  induction l with
  |nil=>intro X;simp
  |cons x l ih=>intro X;rw[List.foldl_cons,ih,p3r _ _ hk,Bool.or_assoc];simp[List.mem_cons]
 unfold ofL
 rw[key];simp
def acc {w:Nat}(X:B64)(f:Nat→BitVec w):Nat→BitVec w
 |0=>0#w
 |i+1=>bif X.getLsbD i then acc X f i|||f i else acc X f i
theorem p3h {w:Nat}(X:B64)(f:Nat→BitVec w)(j:Nat): ∀m,(acc X f m).getLsbD j=true↔ ∃i,i<m∧X.getLsbD i=true∧(f i).getLsbD j=true
 |0=>by simp[acc]
 |m+1=>by
  have ih:=p3h X f j m
  unfold acc
  cases h:X.getLsbD m with
  |true=>
   rw[cond_true,BitVec.getLsbD_or,Bool.or_eq_true,ih]
   constructor
   ·rintro(⟨i,a,b,c⟩|c)
    ·exact⟨i,by omega,b,c⟩
    ·exact⟨m,by omega,h,c⟩
   ·rintro⟨i,a,b,c⟩
    rcases Nat.lt_or_ge i m with q|q
    ·exact .inl ⟨i,q,b,c⟩
    ·rw[show i=m by omega]at c;exact .inr c
  |false=>
   rw[cond_false,ih]
   constructor
   ·rintro⟨i,a,b,c⟩;exact⟨i,by omega,b,c⟩
   ·rintro⟨i,a,b,c⟩
    rcases Nat.lt_or_ge i m with q|q
    ·exact⟨i,q,b,c⟩
    ·rw[show i=m by omega,h]at b;cases b
theorem t3b {w:Nat}{X:BitVec 64}(f:Nat→BitVec w){i:Nat}(h:X.getLsbD i=true):acc X f (i+1)=acc X f i|||f i:=by
 show(bif X.getLsbD i then _ else _)=_
 rw[h];rfl
theorem t3f {w:Nat}{X:BitVec 64}(f:Nat→BitVec w){i:Nat}(h:X.getLsbD i=false):acc X f (i+1)=acc X f i:=by
 show(bif X.getLsbD i then _ else _)=_
 rw[h];rfl
theorem q3x (Y:B64):IntKind.wrap .u32 (N Y)=N (Y.setWidth 32):=by
 rw[p2u]
 refine congrArg N (BitVec.eq_of_toNat_eq ?_)
 rw[BitVec.toNat_ofInt,BitVec.toNat_setWidth]
 unfold N;omega
theorem bv0 {w:Nat}{X:BitVec w}(h: ∀k,k<w→ ¬X.getLsbD k=true):X=0#w:=by
 apply BitVec.eq_of_getLsbD_eq
 intro i hi
 rw[BitVec.getLsbD_zero]
 cases e:X.getLsbD i with
 |true=>exact absurd e (h i hi)
 |false=>rfl
theorem and0 {w:Nat}{X Y:BitVec w}(h: ∀k,k<w→X.getLsbD k=true→Y.getLsbD k=true→False):X&&&Y=0#w:=
 bv0 fun k hk e=>by rw[BitVec.getLsbD_and,Bool.and_eq_true]at e;exact h k hk e.1 e.2
theorem s3l {w:Nat}{X Y:BitVec w}(h: ∀k,k<w→X.getLsbD k=true→Y.getLsbD k=true):X&&&Y=X:=by
 apply BitVec.eq_of_getLsbD_eq
 intro i hi
 rw[BitVec.getLsbD_and]
 cases e:X.getLsbD i with
 |true=>rw[h i hi e];rfl
 |false=>rfl
section
variable (b c:LP) (r:LR)
abbrev rN (r:LR)(i:Nat):Rt:=r.getD i (Ty.dflt TRt)
def fT (i:Nat):B64:=ofL (trk (rN r i))
def f32 (z:Bool)(i:Nat):BitVec 32:=(ofL (ptsR z (ndsE (rN r i)))).setWidth 32
def fC (i:Nat):B64:=(tabB b r).getD i 0#64
theorem s3x {T:List Int}{k i:Nat}(h:i<k):(h3t c r T k).getD i (Ty.dflt TMr)=mrow c (rN r i) (T.getD i 0):=by
 unfold h3t
 rw[List.getD_eq_getElem?_getD,List.getElem?_map,List.getElem?_range h];rfl
theorem r3m {i:Nat}(h:i<r.length):(h3t c r (NL (tabB b r)) r.length).getD i (Ty.dflt TMr)=(N (fT r i),N (s1o 0#64 (p0 (rN r i))),N (s1o 0#64 (ptS c (eN (rN r i)))),N (f32 r false i),N (f32 r true i),N (fC b r i)):=by
 rw[s3x c r h]
 unfold mrow fT f32 fC
 rw[q3x,q3x,NL_at];rfl
end
theorem pts_mem {z:Bool}{l:LN}{x:Int}:x∈ptsR z l↔ ∃d∈l,f1 d=x∧g2 d=z:=by
 unfold ptsR
 rw[List.mem_map]
 constructor
 ·rintro⟨d,hd,e⟩
  rw[List.mem_filter]at hd
  exact⟨d,hd.1,e,by simpa using hd.2⟩
 ·rintro⟨d,hd,e,g⟩
  exact⟨d,List.mem_filter.2 ⟨hd,by simpa using g⟩,e⟩
theorem p3s {r:LR}{z:Bool}{i j:Nat}(hj:j<32):(f32 r z i).getLsbD j=true↔ ∃d∈ndsE (rN r i),f1 d=(j:Int)∧g2 d=z:=by
 unfold f32
 rw[BitVec.getLsbD_setWidth,decide_eq_true hj,Bool.true_and,s3i _ (by omega),decide_eq_true_eq,pts_mem]
theorem r3i {r:LR}{i j:Nat}(hj:j<64):(fT r i).getLsbD j=true↔(j:Int)∈trk (rN r i):=by
 unfold fT;rw[s3i _ hj,decide_eq_true_eq]
structure WF (a:LS)(b c:LP)(r:LR):Prop where
 la:a.length≤64
 lb:b.length≤32
 lr:r.length≤64
 tr: ∀i,i<r.length→ ∀x∈trk (rN r i),0≤x∧x<(a.length:Int)
 pt: ∀i,i<r.length→f0c b (ndsE (rN r i))
 all:allR b c r
theorem wf_of {a:LS}{b c:LP}{r:LR}(h:(ckA a b c r).1=0):WF a b c r:=by
 obtain⟨hm,hw⟩:=(ck_ok a b c r).1 h
 obtain⟨h1,h2,h3⟩:=n3f h
 have h:=hm
 unfold mayL at h
 rw[Bool.and_eq_true]at h
 obtain⟨q1,-,-,-⟩:=(@of_decide_eq_true (smallL a b c r) (instDecidableSmallL a b c r) h.1)
 have h:=h.2
 simp only[Bool.and_eq_true]at h
 obtain⟨h5,h6,h7,h8⟩:=h
 refine⟨q1,h1,h2,fun i hi x hx=> ?_,fun i hi d hd=> ?_,h3⟩
 ·have k:=List.all_eq_true.1 h7 i (List.mem_range'_1.2 (by omega))
  unfold okR mayR at k
  simp only[Bool.and_eq_true,decide_eq_true_eq]at k
  obtain⟨k1,k2,k3,k4,k5,k6⟩:=k
  unfold trk at hx
  rcases List.mem_append.1 hx with hx|hx
  ·exact(n2h k3).2 x hx
  ·exact(n2h k5).2 x hx
 ·obtain⟨⟨-,-,k3,k4⟩,-⟩:=h3 i hi
  unfold ndsE at hd
  rcases List.mem_append.1 hd with hd|hd
  ·exact k3 d hd
  ·exact k4 d hd
theorem inj_nd {l:LN}(h:(nd l).Nodup){d e:Ty.den TNd}(hd:d∈l)(he:e∈l)(q:f1 d=f1 e):g2 d=g2 e:=by
 have h1:=n2x h hd
 have h2:=n2x h he
 rw[q,h2]at h1;exact(Option.some.inj h1).symm
theorem s3h {b:LP}{r:LR}{X:B64}(h:acc X (fC b r) r.length&&&X=0#64){i:Nat}(hi:i<r.length)(hx:X.getLsbD i=true):fC b r i&&&X=0#64:=by
 refine and0 fun k hk h1 h2=> ?_
 have:=congrArg (fun x=>BitVec.getLsbD x k) h
 simp only[BitVec.getLsbD_and,BitVec.getLsbD_zero]at this
 rw[(p3h X (fC b r) k r.length).2 ⟨i,hi,hx,h1⟩,h2]at this
 cases this
section
variable {a:LS} {b c:LP} {r:LR} (w:WF a b c r)
include w
theorem q3g {i:Nat}(hi:i<r.length):0<(eP (rN r i)).length∧ptS c (eN (rN r i))∉trk (rN r i)∧(nd (ndsE (rN r i))).Nodup:=by
 have h:=(w.all i hi).2
 unfold wfE wfR at h
 simp only[Bool.and_eq_true,decide_eq_true_eq,Bool.not_eq_true',decide_eq_false_iff_not]at h
 exact⟨h.1,h.2.1,h.2.2.2.1⟩
theorem s3w {i:Nat}(hi:i<r.length): ¬s1o 0#64 (p0 (rN r i))&&&fT r i=0#64:=by
 obtain⟨h,-,-⟩:=q3g w hi
 intro e
 have hm:p0 (rN r i)∈trk (rN r i):=by
  unfold p0 trk
  rw[List.getD_eq_getElem?_getD,List.getElem?_eq_getElem h]
  exact List.mem_append_left _ (List.getElem_mem h)
 obtain⟨k1,k2⟩:=w.tr i hi _ hm
 have la:=w.la
 have:=congrArg (fun x=>BitVec.getLsbD x (p0 (rN r i)).toNat) e
 simp only[BitVec.getLsbD_and,BitVec.getLsbD_zero]at this
 rw[p3r _ _ (by omega),decide_eq_true (by omega),Bool.or_true,Bool.true_and]at this
 have h2:=(r3i (r:=r) (i:=i) (j:=(p0 (rN r i)).toNat) (by omega)).2 (by rw[Int.toNat_of_nonneg k1];exact hm)
 rw[h2]at this;cases this
theorem ahead_0 {i:Nat}(hi:i<r.length):s1o 0#64 (ptS c (eN (rN r i)))&&&fT r i=0#64:=by
 obtain⟨-,h,-⟩:=q3g w hi
 refine and0 fun k hk h1 h2=> ?_
 rw[p3r _ _ hk,BitVec.getLsbD_zero,Bool.false_or,decide_eq_true_eq]at h1
 rw[r3i hk,h1]at h2
 exact h h2
theorem s3p {i:Nat}(hi:i<r.length):f32 r false i&&&f32 r true i=0#32:=by
 obtain⟨-,-,h⟩:=q3g w hi
 refine and0 fun k hk h1 h2=> ?_
 obtain⟨d,d1,d2,d3⟩:=(p3s hk).1 h1
 obtain⟨e,e1,e2,e3⟩:=(p3s hk).1 h2
 have:=inj_nd h d1 e1 (d2.trans e2.symm)
 rw[d3,e3]at this;cases this
theorem fC_bit {i k:Nat}(hi:i<r.length)(hk:k<r.length):(fC b r i).getLsbD k=clN b r i k:=by
 have:=w.lr
 have:=m2h b r hi w.lr (show k<64 by omega)
 unfold bitT at this
 unfold fC
 rw[this,decide_eq_true hk,Bool.true_and]
theorem apart {i k:Nat}(hi:i<r.length)(hk:k<r.length)(hik:i≠k)(h:clN b r i k=false):
  (∀x∈trk (rN r i),x∉trk (rN r k))∧ ∀x∈ndsE (rN r i),∀y∈ndsE (rN r k),f1 x=f1 y→g2 x=g2 y:=by
 obtain⟨-,-,ni⟩:=q3g w hi
 obtain⟨-,-,nk⟩:=q3g w hk
 unfold clN clF at h
 rw[df (show¬(i:Int)=(k:Int) by omega)]at h
 have h:cfE b (rN r i) (rN r k)=false:=h
 unfold cfE at h
 rw[Bool.or_eq_false_iff,Bool.or_eq_false_iff,Bool.or_eq_false_iff]at h
 obtain⟨-,c2,c3,-⟩:=h
 rw[sds_nd ni,sds_nd nk]at c3
 refine⟨fun x hx hy=> ?_,fun x hx y hy e=> ?_⟩
 ·unfold shF at c2
  rw[List.any_eq_false]at c2
  exact c2 x hx (dt hy)
 ·unfold unF at c3
  rw[List.any_eq_false]at c3
  have:=c3 x hx
  unfold unAt at this
  rw[e,n2x nk hy]at this
  have this: ¬(g2 y !=g2 x)=true:=this
  revert this
  cases g2 x<;>cases g2 y<;>simp
theorem r3o {X:B64}(h:acc X (fC b r) r.length&&&X=0#64){i k:Nat}(hi:i<r.length)(hk:k<r.length)(hx:X.getLsbD i=true)(hy:X.getLsbD k=true):clN b r i k=false:=by
 have:=congrArg (fun x=>BitVec.getLsbD x k) (s3h h hi hx)
 simp only[BitVec.getLsbD_and,BitVec.getLsbD_zero]at this
 rw[hy,Bool.and_true,fC_bit w hi hk]at this
 exact this
theorem peace_T {X:B64}(h:acc X (fC b r) r.length&&&X=0#64){i:Nat}(hi:i<r.length)(hx:X.getLsbD i=true):fT r i&&&acc X (fT r) i=0#64:=by
 refine and0 fun k hk h1 h2=> ?_
 obtain⟨j,j1,j2,j3⟩:=(p3h X (fT r) k i).1 h2
 rw[r3i hk]at h1 j3
 exact(apart w hi (show j<r.length by omega) (by omega) (r3o w h hi (by omega) hx j2)).1 _ h1 j3
theorem peace_P {X:B64}(h:acc X (fC b r) r.length&&&X=0#64):acc X (f32 r false) r.length&&&acc X (f32 r true) r.length=0#32:=by
 refine and0 fun k hk h1 h2=> ?_
 obtain⟨i,i1,i2,i3⟩:=(p3h X (f32 r false) k r.length).1 h1
 obtain⟨j,j1,j2,j3⟩:=(p3h X (f32 r true) k r.length).1 h2
 by_cases e:i=j
 ·subst e
  have:=congrArg (fun x=>BitVec.getLsbD x k) (s3p w i1)
  simp only[BitVec.getLsbD_and,BitVec.getLsbD_zero]at this
  rw[i3,j3]at this;cases this
 ·obtain⟨d,d1,d2,d3⟩:=(p3s hk).1 i3
  obtain⟨f,e1,e2,e3⟩:=(p3s hk).1 j3
  have:=(apart w i1 j1 e (r3o w h i1 j1 i2 j2)).2 d d1 f e1 (d2.trans e2.symm)
  rw[d3,e3]at this;cases this
theorem t3e (X:B64):acc X (fT r) r.length&&&firB (min a.length 64)=acc X (fT r) r.length:=by
 refine s3l fun k hk h=> ?_
 obtain⟨i,i1,i2,i3⟩:=(p3h X (fT r) k r.length).1 h
 rw[r3i hk]at i3
 have:=(w.tr i i1 _ i3).2
 rw[y0i (by omega),decide_eq_true_eq];omega
theorem r3h (X:B64)(z:Bool){k:Nat}(hk:k<32)(h:(acc X (f32 r z) r.length).getLsbD k=true):((firB (min b.length 64)).setWidth 32).getLsbD k=true:=by
 obtain⟨i,i1,i2,i3⟩:=(p3h X (f32 r z) k r.length).1 h
 obtain⟨d,d1,d2,d3⟩:=(p3s hk).1 i3
 have:=(w.pt i i1 d d1).2
 rw[BitVec.getLsbD_setWidth,decide_eq_true hk,Bool.true_and,y0i (by omega),decide_eq_true_eq];omega
theorem pts_sub (X:B64):(acc X (f32 r false) r.length|||acc X (f32 r true) r.length)&&&(firB (min b.length 64)).setWidth 32=acc X (f32 r false) r.length|||acc X (f32 r true) r.length:=by
 refine s3l fun k hk h=> ?_
 rw[BitVec.getLsbD_or,Bool.or_eq_true]at h
 rcases h with h|h
 ·exact r3h w X false hk h
 ·exact r3h w X true hk h
end
theorem p3n (X:B64){i:Nat}(h:i<64):hasB X (i:Int)=X.getLsbD i:=by
 unfold hasB inN
 rw[decide_eq_true (show(0:Int)≤(i:Int) by omega),decide_eq_true (show(i:Int)<64 by omega)];rfl
theorem om58a (b c:LP)(r:LR)(X:B64)(hr:r.length≤64):p3x [.l TMr (h3t c r (NL (tabB b r)) r.length),.n (N X)]=some (0,[.n (N (acc X (f32 r false) r.length))]):=by
 have hl:=i3k c r (NL (tabB b r)) r.length
 refine r3t ?_
 rw[hl,q3p]
 refine b0a (st:=o3z) (fun i=>[.k 0,.n (N X),.n (N (acc X (f32 r false) i)),.l TMr (h3t c r (NL (tabB b r)) r.length),.n (r.length:Int),.n (i:Int)]) r.length (0,[.n (N (acc X (f32 r false) r.length))]) (fun i hi=> ?_) ?_ FU (b1w (by omega))
 ·show _=some (Step.go [.k 0,.n (N X),.n (N (acc X (f32 r false) (i+1))),.l TMr (h3t c r (NL (tabB b r)) r.length),.n (r.length:Int),.n ((i+1:Nat):Int)])
  rw[←w1n i (by omega)]
  have e:=u3s X (i:Int)
  rw[p3n X (by omega)]at e
  have ra:=r3m b c r hi
  cases h:X.getLsbD i with
  |true=>
   rw[h]at e
   have s:=q3m (n1:=N (acc X (f32 r false) i)) (n4:=(i:Int)) (n3:=(r.length:Int)) (l2:=h3t c r (NL (tabB b r)) r.length) (by omega) (by rw[hl]) (by omega) e rfl
   rw[t3b _ h,←ior_u32]
   have t:=congrArg (fun x:Ty.den TMr=>some (Step.go [.k 0,.n (N X),.n (ior IntKind.u32 (N (acc X (f32 r false) i)) x.2.2.2.1),.l TMr (h3t c r (NL (tabB b r)) r.length),.n (r.length:Int),.n (IntKind.wrap .i64 ((i:Int)+1))])) ra
   have u:=s.trans t
   exact u
  |false=>
   rw[h]at e
   rw[t3f _ h]
   exact q3b (by omega) (by rw[hl]) (by omega) e rfl
 ·exact q3h (by omega) (by rw[hl]) (by omega)
theorem om58b (b c:LP)(r:LR)(X:B64)(hr:r.length≤64):p3t [.l TMr (h3t c r (NL (tabB b r)) r.length),.n (N X)]=some (0,[.n (N (acc X (f32 r true) r.length))]):=by
 have hl:=i3k c r (NL (tabB b r)) r.length
 refine r3v ?_
 rw[hl,q3r]
 refine b0a (st:=o3y) (fun i=>[.k 0,.n (N X),.n (N (acc X (f32 r true) i)),.l TMr (h3t c r (NL (tabB b r)) r.length),.n (r.length:Int),.n (i:Int)]) r.length (0,[.n (N (acc X (f32 r true) r.length))]) (fun i hi=> ?_) ?_ FU (b1w (by omega))
 ·show _=some (Step.go [.k 0,.n (N X),.n (N (acc X (f32 r true) (i+1))),.l TMr (h3t c r (NL (tabB b r)) r.length),.n (r.length:Int),.n ((i+1:Nat):Int)])
  rw[←w1n i (by omega)]
  have e:=u3s X (i:Int)
  rw[p3n X (by omega)]at e
  have ra:=r3m b c r hi
  cases h:X.getLsbD i with
  |true=>
   rw[h]at e
   have s:=q3f (n1:=N (acc X (f32 r true) i)) (n4:=(i:Int)) (n3:=(r.length:Int)) (l2:=h3t c r (NL (tabB b r)) r.length) (by omega) (by rw[hl]) (by omega) e rfl
   rw[t3b _ h,←ior_u32]
   have t:=congrArg (fun x:Ty.den TMr=>some (Step.go [.k 0,.n (N X),.n (ior IntKind.u32 (N (acc X (f32 r true) i)) x.2.2.2.2.1),.l TMr (h3t c r (NL (tabB b r)) r.length),.n (r.length:Int),.n (IntKind.wrap .i64 ((i:Int)+1))])) ra
   have u:=s.trans t
   exact u
  |false=>
   rw[h]at e
   rw[t3f _ h]
   exact q3k (by omega) (by rw[hl]) (by omega) e rfl
 ·exact q3n (by omega) (by rw[hl]) (by omega)
theorem om61 (b c:LP)(r:LR)(X:B64)(hr:r.length≤64):r3b [.l TMr (h3t c r (NL (tabB b r)) r.length),.n (N X)]=some (0,[.n (N (acc X (fC b r) r.length))]):=by
 have hl:=i3k c r (NL (tabB b r)) r.length
 refine s3s ?_
 rw[hl,q3t]
 refine b0a (st:=p3e) (fun i=>[.k 0,.n (N X),.n (N (acc X (fC b r) i)),.l TMr (h3t c r (NL (tabB b r)) r.length),.n (r.length:Int),.n (i:Int)]) r.length (0,[.n (N (acc X (fC b r) r.length))]) (fun i hi=> ?_) ?_ FU (b1w (by omega))
 ·show _=some (Step.go [.k 0,.n (N X),.n (N (acc X (fC b r) (i+1))),.l TMr (h3t c r (NL (tabB b r)) r.length),.n (r.length:Int),.n ((i+1:Nat):Int)])
  rw[←w1n i (by omega)]
  have e:=u3s X (i:Int)
  rw[p3n X (by omega)]at e
  have ra:=r3m b c r hi
  cases h:X.getLsbD i with
  |true=>
   rw[h]at e
   have s:=q3w (n1:=N (acc X (fC b r) i)) (n4:=(i:Int)) (n3:=(r.length:Int)) (l2:=h3t c r (NL (tabB b r)) r.length) (by omega) (by rw[hl]) (by omega) e rfl
   rw[t3b _ h,←ior_u64]
   have t:=congrArg (fun x:Ty.den TMr=>some (Step.go [.k 0,.n (N X),.n (ior IntKind.u64 (N (acc X (fC b r) i)) x.2.2.2.2.2),.l TMr (h3t c r (NL (tabB b r)) r.length),.n (r.length:Int),.n (IntKind.wrap .i64 ((i:Int)+1))])) ra
   have u:=s.trans t
   exact u
  |false=>
   rw[h]at e
   rw[t3f _ h]
   exact q3z (by omega) (by rw[hl]) (by omega) e rfl
 ·exact q3y (by omega) (by rw[hl]) (by omega)
theorem lq8_11 (a:LS)(b c:LP)(r:LR)(X:B64)(A B:BitVec 32)(p:Bool)(z1 z2 z3:Int)(u:List Int)(w:WF a b c r)(hp:p=true→acc X (fC b r) r.length&&&X=0#64):
  q3a [.k 0,.n (N X),.n (N A),.n (N B),.b p,.n (N (acc X (fT r) 0)),.n 0,.n z1,.n z2,.n z3,.l TMr (h3t c r (NL (tabB b r)) r.length),.l TU u]=some (0,[.n (N X),.n (N A),.n (N B),.b p,.n (N (acc X (fT r) r.length)),.n z1,.n z2,.n z3,.l TMr (h3t c r (NL (tabB b r)) r.length),.l TU u]):=by
 have hl:=i3k c r (NL (tabB b r)) r.length
 have lr:=w.lr
 rw[r3w]
 refine b0a (st:=p3f) (fun i=>[.k 0,.n (N X),.n (N A),.n (N B),.b p,.n (N (acc X (fT r) i)),.n (i:Int),.n z1,.n z2,.n z3,.l TMr (h3t c r (NL (tabB b r)) r.length),.l TU u]) r.length (0,[.n (N X),.n (N A),.n (N B),.b p,.n (N (acc X (fT r) r.length)),.n z1,.n z2,.n z3,.l TMr (h3t c r (NL (tabB b r)) r.length),.l TU u]) (fun i hi=> ?_) ?_ FU (b1w (by omega))
 ·show _=some (Step.go [.k 0,.n (N X),.n (N A),.n (N B),.b p,.n (N (acc X (fT r) (i+1))),.n ((i+1:Nat):Int),.n z1,.n z2,.n z3,.l TMr (h3t c r (NL (tabB b r)) r.length),.l TU u])
  rw[←w1n i (by omega)]
  have e:=v3z X (i:Int)
  rw[p3n X (by omega)]at e
  have ra:=r3m b c r hi
  have hlt:(i:Int)<((h3t c r (NL (tabB b r)) r.length).length:Int):=by rw[hl];omega
  cases h:X.getLsbD i with
  |true=>
   rw[h]at e
   have z0: ∀{w:Nat} {Y Z:BitVec w},Y&&&Z=0#w→N (Y&&&Z)=0:=fun h=>by rw[h];simp[N]
   have y1: ¬iand IntKind.u64 (N (s1o 0#64 (p0 (rN r i)))) (N (fT r i))=0:=by
    rw[u1v];intro q;exact s3w w hi (N_inj (q.trans (by simp[N])))
   have y2:iand IntKind.u64 (N (s1o 0#64 (ptS c (eN (rN r i))))) (N (fT r i))=0:=by rw[u1v];exact z0 (ahead_0 w hi)
   have y3:iand IntKind.u32 (N (f32 r false i)) (N (f32 r true i))=0:=by rw[r2g];exact z0 (s3p w hi)
   have k1:iand IntKind.u64 (N (fT r i)) (N (acc X (fT r) i))=0→iand IntKind.u64 (Prod.fst (List.getD (h3t c r (NL (tabB b r)) r.length) i (Ty.dflt TMr))) (N (acc X (fT r) i))=0:=fun q=>(congrArg (fun x:Ty.den TMr=>iand IntKind.u64 x.1 (N (acc X (fT r) i))) ra).trans q
   have k2:iand IntKind.u64 (N (fC b r i)) (N X)=0→iand IntKind.u64 (Prod.snd (Prod.snd (Prod.snd (Prod.snd (Prod.snd (List.getD (h3t c r (NL (tabB b r)) r.length) i (Ty.dflt TMr))))))) (N X)=0:=fun q=>(congrArg (fun x:Ty.den TMr=>iand IntKind.u64 x.2.2.2.2.2 (N X)) ra).trans q
   have k3: ¬iand IntKind.u64 (N (s1o 0#64 (p0 (rN r i)))) (N (fT r i))=0→ ¬iand IntKind.u64 (Prod.fst (Prod.snd (List.getD (h3t c r (NL (tabB b r)) r.length) i (Ty.dflt TMr)))) (Prod.fst (List.getD (h3t c r (NL (tabB b r)) r.length) i (Ty.dflt TMr)))=0:=fun q e=>q ((congrArg (fun x:Ty.den TMr=>iand IntKind.u64 x.2.1 x.1) ra).symm.trans e)
   have k4:iand IntKind.u64 (N (s1o 0#64 (ptS c (eN (rN r i))))) (N (fT r i))=0→iand IntKind.u64 (Prod.fst (Prod.snd (Prod.snd (List.getD (h3t c r (NL (tabB b r)) r.length) i (Ty.dflt TMr))))) (Prod.fst (List.getD (h3t c r (NL (tabB b r)) r.length) i (Ty.dflt TMr)))=0:=fun q=>(congrArg (fun x:Ty.den TMr=>iand IntKind.u64 x.2.2.1 x.1) ra).trans q
   have k5:iand IntKind.u32 (N (f32 r false i)) (N (f32 r true i))=0→iand IntKind.u32 (Prod.fst (Prod.snd (Prod.snd (Prod.snd (List.getD (h3t c r (NL (tabB b r)) r.length) i (Ty.dflt TMr)))))) (Prod.fst (Prod.snd (Prod.snd (Prod.snd (Prod.snd (List.getD (h3t c r (NL (tabB b r)) r.length) i (Ty.dflt TMr)))))))=0:=fun q=>(congrArg (fun x:Ty.den TMr=>iand IntKind.u32 x.2.2.2.1 x.2.2.2.2.1) ra).trans q
   rw[t3b _ h,←ior_u64]
   cases p with
   |true=>
    have y4:iand IntKind.u64 (N (fT r i)) (N (acc X (fT r) i))=0:=by rw[u1v];exact z0 (peace_T w (hp rfl) hi h)
    have y5:iand IntKind.u64 (N (fC b r i)) (N X)=0:=by rw[u1v];exact z0 (s3h (hp rfl) hi h)
    have s:=r3r (n0:=N X) (n1:=N A) (n2:=N B) (n4:=N (acc X (fT r) i)) (n5:=(i:Int)) (n6:=z1) (n7:=z2) (n8:=z3) (l9:=h3t c r (NL (tabB b r)) r.length) (l10:=u) (by omega) hlt e rfl rfl
    have t:=congrArg (fun x:Ty.den TMr=>some (Step.go [.k 0,.n (N X),.n (N A),.n (N B),.b true,.n (ior IntKind.u64 (N (acc X (fT r) i)) x.1),.n (IntKind.wrap .i64 ((i:Int)+1)),.n z1,.n z2,.n z3,.l TMr (h3t c r (NL (tabB b r)) r.length),.l TU u])) ra
    have v:=(s (k1 y4) (k2 y5) (k3 y1) (k4 y2) (k5 y3))
    have u:=v.trans t
    exact u
   |false=>
    have s:=q3v (n0:=N X) (n1:=N A) (n2:=N B) (n4:=N (acc X (fT r) i)) (n5:=(i:Int)) (n6:=z1) (n7:=z2) (n8:=z3) (l9:=h3t c r (NL (tabB b r)) r.length) (l10:=u) (by omega) hlt e rfl rfl
    have t:=congrArg (fun x:Ty.den TMr=>some (Step.go [.k 0,.n (N X),.n (N A),.n (N B),.b false,.n (ior IntKind.u64 (N (acc X (fT r) i)) x.1),.n (IntKind.wrap .i64 ((i:Int)+1)),.n z1,.n z2,.n z3,.l TMr (h3t c r (NL (tabB b r)) r.length),.l TU u])) ra
    have v:=(s (k3 y1) (k4 y2) (k5 y3))
    have u:=v.trans t
    exact u
  |false=>
   rw[h]at e
   rw[t3f _ h]
   exact r3s (by omega) hlt e rfl
 ·exact q3u (by omega) (by rw[hl];omega)
theorem W8_true (a:LS)(b c:LP)(r:LR)(R:B64)(hs:okS a b c r):(r3a [.l TS a,.l TPt b,.l TPt c,.l TRt r,.n (N R)]).sel=some true:=by
 obtain⟨z,e1⟩:=o15 a b c r 1000 hs
 by_cases h:z>1000
 ·exact t3d e1 h rfl
 have e3:=o28i a b c r hs
 unfold mkA at e3
 by_cases hc:(ckA a b c r).1=0
 ·rw[if_pos hc]at e3
  have w:=wf_of hc
  have e4:=s3o (l1:=h3r b b.length) (n2:=N (firB (min r.length 64))) (n3:=N ((firB (min b.length 64)).setWidth 32)) (n4:=N (firB (min a.length 64))) (om58a b c r (R&&&firB (min r.length 64)) w.lr) (om58b b c r (R&&&firB (min r.length 64)) w.lr)
  have e5:=s3k (l1:=h3r b b.length) (n2:=N (firB (min r.length 64))) (n3:=N ((firB (min b.length 64)).setWidth 32)) (n4:=N (firB (min a.length 64))) (om61 b c r (R&&&firB (min r.length 64)) w.lr)
  rw[q3x]at e3
  generalize hX:R&&&firB (min r.length 64)=X at e4 e5
  have hp:(iand IntKind.u64 (N (acc X (fC b r) r.length)) (N X)==(0:Int))=true→acc X (fC b r) r.length&&&X=0#64:=by
   intro q
   rw[u1v,beq_iff_eq]at q
   exact N_inj (q.trans (by simp[N]))
  have e6:=lq8_11 a b c r X (acc X (f32 r false) r.length) (acc X (f32 r true) r.length) _ (N (firB (min r.length 64))) (N ((firB (min b.length 64)).setWidth 32)) (N (firB (min a.length 64))) (h3r b b.length) w hp
  have iX:iand IntKind.u64 (N R) (N (firB (min r.length 64)))=N X:=by rw[u1v,hX]
  have e8:iand IntKind.u64 (N (acc X (fT r) r.length)) (N (firB (min a.length 64)))=N (acc X (fT r) r.length):=by rw[u1v,t3e w]
  have e9:iand IntKind.u32 (ior IntKind.u32 (N (acc X (f32 r false) r.length)) (N (acc X (f32 r true) r.length))) (N ((firB (min b.length 64)).setWidth 32))=ior IntKind.u32 (N (acc X (f32 r false) r.length)) (N (acc X (f32 r true) r.length)):=by
   rw[ior_u32,r2g,pts_sub w]
  rw[←iX]at e4 e5 e6
  cases q:(iand IntKind.u64 (N (acc X (fC b r) r.length)) (N X)==(0:Int))with
  |false=>
   rw[←iX]at q
   exact s3z e1 h e3 rfl e4 e5 e6 q e8 e9 rfl
  |true=>
   have e7:iand IntKind.u32 (N (acc X (f32 r false) r.length)) (N (acc X (f32 r true) r.length))=0:=by
    rw[r2g,peace_P w (hp q)];simp[N]
   rw[←iX]at q
   exact s3y e1 h e3 rfl e4 e5 e6 q e7 e8 e9 rfl
 ·rw[if_neg hc]at e3
  exact s3u e1 h e3 hc rfl
theorem W8_all (a:LS)(b c:LP)(r:LR)(n:Int)(hs:okS a b c r)(h:wfD (.int .u64) n=true):(r3a [.l TS a,.l TPt b,.l TPt c,.l TRt r,.n n]).sel=some true:=by
 have h:=wfi h
 simp[IntKind.min,IntKind.max,IntKind.bits,IntKind.signed]at h
 have:=W8_true a b c r (BitVec.ofInt 64 n) hs
 rw[N_of h.1 (by omega)]at this
 exact this
abbrev LM:=List (Ty.den TMr)
def accI (k:IntKind)(f:Ty.den TMr→Int)(X:B64)(l:LM):Nat→Int
 |0=>0
 |i+1=>bif hasB X (i:Int)then ior k (accI k f X l i) (f (l.getD i (Ty.dflt TMr)))else accI k f X l i
theorem t3s {k:IntKind}{f:Ty.den TMr→Int}{X:B64}{l:LM}{i:Nat}(h:hasB X (i:Int)=true):accI k f X l (i+1)=ior k (accI k f X l i) (f (l.getD i (Ty.dflt TMr))):=by
 show(bif hasB X (i:Int)then _ else _)=_
 rw[h];rfl
theorem t3r {k:IntKind}{f:Ty.den TMr→Int}{X:B64}{l:LM}{i:Nat}(h:hasB X (i:Int)=false):accI k f X l (i+1)=accI k f X l i:=by
 show(bif hasB X (i:Int)then _ else _)=_
 rw[h];rfl
theorem accI64 (k:IntKind)(f:Ty.den TMr→Int)(X:B64)(l:LM): ∀d,accI k f X l (64+d)=accI k f X l 64
 |0=>rfl
 |d+1=>by
  have h:hasB X ((64+d:Nat):Int)=false:=by
   unfold hasB inN
   rw[decide_eq_false (show¬((64+d:Nat):Int)<64 by omega),Bool.and_false];rfl
  rw[show 64+(d+1)=(64+d)+1 by omega,t3r h];exact accI64 k f X l d
theorem t3t (k:IntKind)(f:Ty.den TMr→Int)(X:B64)(l:LM)(m:Nat):accI k f X l (min m 64)=accI k f X l m:=by
 rcases Nat.lt_or_ge m 64 with h|h
 ·rw[show min m 64=m by omega]
 ·rw[show min m 64=64 by omega,show m=64+(m-64) by omega,accI64]
def mF (x:Ty.den TMr):Int:=x.2.2.2.1
def mG (x:Ty.den TMr):Int:=x.2.2.2.2.1
def mH (x:Ty.den TMr):Int:=x.2.2.2.2.2
theorem gm58a (X:B64)(l:LM)(hl:l.length≤100):p3x [.l TMr l,.n (N X)]=some (0,[.n (accI .u32 mF X l l.length)]):=by
 refine r3t ?_
 rw[q3p]
 refine b0a (st:=o3z) (fun i=>[.k 0,.n (N X),.n (accI .u32 mF X l i),.l TMr l,.n (l.length:Int),.n (i:Int)]) l.length (0,[.n (accI .u32 mF X l l.length)]) (fun i hi=> ?_) ?_ FU (b1w (by omega))
 ·show _=some (Step.go [.k 0,.n (N X),.n (accI .u32 mF X l (i+1)),.l TMr l,.n (l.length:Int),.n ((i+1:Nat):Int)])
  rw[←w1n i (by omega)]
  have e:=u3s X (i:Int)
  cases h:hasB X (i:Int)with
  |true=>rw[h]at e;rw[t3s h];exact q3m (by omega) rfl (by omega) e rfl
  |false=>rw[h]at e;rw[t3r h];exact q3b (by omega) rfl (by omega) e rfl
 ·exact q3h (by omega) rfl (by omega)
theorem gm58b (X:B64)(l:LM)(hl:l.length≤100):p3t [.l TMr l,.n (N X)]=some (0,[.n (accI .u32 mG X l l.length)]):=by
 refine r3v ?_
 rw[q3r]
 refine b0a (st:=o3y) (fun i=>[.k 0,.n (N X),.n (accI .u32 mG X l i),.l TMr l,.n (l.length:Int),.n (i:Int)]) l.length (0,[.n (accI .u32 mG X l l.length)]) (fun i hi=> ?_) ?_ FU (b1w (by omega))
 ·show _=some (Step.go [.k 0,.n (N X),.n (accI .u32 mG X l (i+1)),.l TMr l,.n (l.length:Int),.n ((i+1:Nat):Int)])
  rw[←w1n i (by omega)]
  have e:=u3s X (i:Int)
  cases h:hasB X (i:Int)with
  |true=>rw[h]at e;rw[t3s h];exact q3f (by omega) rfl (by omega) e rfl
  |false=>rw[h]at e;rw[t3r h];exact q3k (by omega) rfl (by omega) e rfl
 ·exact q3n (by omega) rfl (by omega)
theorem gm61 (X:B64)(l:LM)(hl:l.length≤100):r3b [.l TMr l,.n (N X)]=some (0,[.n (accI .u64 mH X l l.length)]):=by
 refine s3s ?_
 rw[q3t]
 refine b0a (st:=p3e) (fun i=>[.k 0,.n (N X),.n (accI .u64 mH X l i),.l TMr l,.n (l.length:Int),.n (i:Int)]) l.length (0,[.n (accI .u64 mH X l l.length)]) (fun i hi=> ?_) ?_ FU (b1w (by omega))
 ·show _=some (Step.go [.k 0,.n (N X),.n (accI .u64 mH X l (i+1)),.l TMr l,.n (l.length:Int),.n ((i+1:Nat):Int)])
  rw[←w1n i (by omega)]
  have e:=u3s X (i:Int)
  cases h:hasB X (i:Int)with
  |true=>rw[h]at e;rw[t3s h];exact q3w (by omega) rfl (by omega) e rfl
  |false=>rw[h]at e;rw[t3r h];exact q3z (by omega) rfl (by omega) e rfl
 ·exact q3y (by omega) rfl (by omega)
theorem gm64 (X:B64)(l:LM)(hl:l.length≤100):u3j [.l TMr l,.n 0,.n 0,.n 0,.n (N X)]=some (0,[.n (accI .u32 mF X l l.length),.n (accI .u32 mG X l l.length)]):=by
 refine v3q ?_
 rw[u3a]
 refine b0a (st:=t3i) (fun i=>[.k 0,.n (N X),.n (accI .u32 mF X l i),.n (accI .u32 mG X l i),.n (i:Int),.l TMr l,.n 0,.n 0,.n 0]) (min l.length 64) (0,[.n (accI .u32 mF X l l.length),.n (accI .u32 mG X l l.length)]) (fun i hi=> ?_) ?_ FU (b1w (by omega))
 ·show _=some (Step.go [.k 0,.n (N X),.n (accI .u32 mF X l (i+1)),.n (accI .u32 mG X l (i+1)),.n ((i+1:Nat):Int),.l TMr l,.n 0,.n 0,.n 0])
  rw[←w1n i (by omega)]
  have e:=v3z X (i:Int)
  cases h:hasB X (i:Int)with
  |true=>rw[h]at e;rw[t3s h,t3s h];exact t3z (by omega) (by omega) (by omega) e rfl
  |false=>rw[h]at e;rw[t3r h,t3r h];exact u3d (by omega) (by omega) (by omega) e rfl
 ·show _=some (Step.stop 0 [.n (accI .u32 mF X l l.length),.n (accI .u32 mG X l l.length)])
  rw[←t3t .u32 mF X l l.length,←t3t .u32 mG X l l.length]
  rcases Nat.lt_or_ge (min l.length 64) l.length with q|q
  ·exact u3b (by omega) (by omega) (by omega)
  ·exact u3c (by omega) (by omega)
theorem gm65 (X:B64)(l:LM)(hl:l.length≤100):u3k [.l TMr l,.n 0,.n 0,.n 0,.n (N X)]=some (0,[.n (accI .u64 mH X l l.length)]):=by
 refine v3l ?_
 rw[t3x]
 refine b0a (st:=t3h) (fun i=>[.k 0,.n (N X),.n (accI .u64 mH X l i),.n (i:Int),.l TMr l,.n 0,.n 0,.n 0]) (min l.length 64) (0,[.n (accI .u64 mH X l l.length)]) (fun i hi=> ?_) ?_ FU (b1w (by omega))
 ·show _=some (Step.go [.k 0,.n (N X),.n (accI .u64 mH X l (i+1)),.n ((i+1:Nat):Int),.l TMr l,.n 0,.n 0,.n 0])
  rw[←w1n i (by omega)]
  have e:=v3z X (i:Int)
  cases h:hasB X (i:Int)with
  |true=>rw[h]at e;rw[t3s h];exact u3e (by omega) (by omega) (by omega) e rfl
  |false=>rw[h]at e;rw[t3r h];exact t3w (by omega) (by omega) (by omega) e rfl
 ·show _=some (Step.stop 0 [.n (accI .u64 mH X l l.length)])
  rw[←t3t .u64 mH X l l.length]
  rcases Nat.lt_or_ge (min l.length 64) l.length with q|q
  ·exact u3g (by omega) (by omega) (by omega)
  ·exact t3y (by omega) (by omega)
theorem gl34 (n:Int)(l:LM)(hl:l.length≤100):u3f [.k 0,.l TMr l,.n n,.n 0,.n 0,.n 0,.n 0,.l TMr []]=some (0,[.l TMr l,.n n,.n 0,.n 0,.n 0,.l TMr l]):=by
 rw[v3c]
 refine b0a (st:=t3o) (fun i=>[.k 0,.l TMr l,.n n,.n (i:Int),.n 0,.n 0,.n 0,.l TMr (l.take i)]) l.length (0,[.l TMr l,.n n,.n 0,.n 0,.n 0,.l TMr l]) (fun i hi=> ?_) ?_ FU (b1w (by omega))
 ·have e:l.take (i+1)=apL (l.take i) [l.getD i (Ty.dflt TMr)]:=by
   rw[List.take_add_one,List.getElem?_eq_getElem hi,List.getD_eq_getElem?_getD,List.getElem?_eq_getElem hi];rfl
  show _=some (Step.go [.k 0,.l TMr l,.n n,.n ((i+1:Nat):Int),.n 0,.n 0,.n 0,.l TMr (l.take (i+1))])
  rw[e,←w1n i (by omega)]
  have hl':(l.take i).length≤100:=by rw[List.length_take];omega
  exact u3z (by omega) (by omega) (by omega)
 ·have h:=u3v (n1:=n) (l0:=l) (n2:=(l.length:Int)) (l3:=l.take l.length) (by omega) (by omega)
  rw[List.take_length]at h⊢;exact h
theorem w3a (X:B64)(l:LM):(u3o [.l TMr l,.n (N X)]).sel=some true:=by
 by_cases h:(l.length:Int)>100
 ·exact v3s h rfl
 ·have hl:l.length≤100:=by omega
  exact v3n h (gl34 (N X) l hl) (s3o (gm58a X l hl) (gm58b X l hl)) (gm64 X l hl) rfl rfl (s3k (gm61 X l hl)) (gm65 X l hl) rfl rfl
theorem W34_all (l:LM)(n:Int)(h:wfD (.int .u64) n=true):(u3o [.l TMr l,.n n]).sel=some true:=by
 have h:=wfi h
 simp[IntKind.min,IntKind.max,IntKind.bits,IntKind.signed]at h
 have:=w3a (BitVec.ofInt 64 n) l
 rw[N_of h.1 (by omega)]at this
 exact this
theorem q_e13 (X:B64)(n:Int):o1n [.n (N X),.n n]=some (0,[.n (N (s1o X n))]):=by
 by_cases h0:0≤n
 ·by_cases h1:n<64
  ·have hi:inN n=true:=by simp[inN,h0,h1]
   have hq:=v3z X n
   cases hb:hasB X n with
   |true=>
    rw[hb]at hq
    rw[o3d (by omega) (by omega) hq rfl]
    have hg:X.getLsbD n.toNat=true:=by unfold hasB at hb;rw[hi]at hb;simpa using hb
    have:X|||p2 n.toNat=X:=by
     apply BitVec.eq_of_getLsbD_eq
     intro i hlt
     rw[BitVec.getLsbD_or,h2g]
     by_cases e:i=n.toNat
     ·subst e;simp[hg]
     ·simp[e]
    simp only[s1o,hi,cond_true,this]
   |false=>
    rw[hb]at hq
    have hg:X.getLsbD n.toNat=false:=by unfold hasB at hb;rw[hi]at hb;simpa using hb
    obtain⟨k,rfl⟩: ∃k:Nat,n=k:=⟨n.toNat,by omega⟩
    rw[n3k (by omega) (by omega) hq rfl (q_pw k (by omega))]
    rw[Int.toNat_natCast]at hg
    rw[N_add,r2c (by omega) hg]
    simp only[s1o,hi,cond_true,Int.toNat_natCast]
  ·rw[o3f (by omega) (by omega),i3h (by simp[inN,h1])]
 ·rw[m3j (by omega),i3h (by simp[inN,h0])]
theorem q_e27 (n:Int):g1d [.n n]=some (0,[.n (N (firB (min n.toNat 64)))]):=by
 refine n3c ?_
 rw[l3d]
 refine b0a (st:=h3q) (fun i=>[.k 0,.n n,.n (N (firB i)),.n (i:Int)]) (min n.toNat 64) (0,[.n (N (firB (min n.toNat 64)))]) (fun i hi=> ?_) ?_ FU (b1w (by omega))
 ·have h:=k3l (n0:=n) (n2:=i) (by omega) (by omega) (q_e13 (firB i) i)
  rw[w64x (by omega) (by omega),j2a (by omega)]at h
  exact h
 ·by_cases h:((min n.toNat 64:Nat):Int)<n
  ·exact k3o h (by omega)
  ·exact k3m h
theorem m3m (l:List Int)(hl:l.length≤9223372036854775807):i3d [.l TI l]=some (0,[.n (N (ofL l))]):=by
 refine n3y ?_
 rw[k3s]
 refine b0a (st:=h3s) (fun i=>[.k 0,.l TI l,.n (N (ofL (l.take i))),.n (i:Int)]) l.length (0,[.n (N (ofL l))]) (fun i hi=> ?_) ?_ FU (b1w hl)
 ·have h:=k3e (n2:=i) (l0:=l) (by omega) (Int.ofNat_lt.2 hi) (q_e13 (ofL (l.take i)) _)
  rw[w64x (by omega) (by omega)]at h
  rw[show(Int.toNat (i:Int))=i from rfl,show s1o (ofL (l.take i)) (l.getD i 0)=_ from(l3r l hi).symm]at h
  exact h
 ·have h:=k3i (n1:=N (ofL (l.take l.length))) (n2:=l.length) (l0:=l) (by omega) (Int.lt_irrefl (l.length:Int))
  rw[List.take_length]at h⊢;exact h
theorem o57m (l:LN)(z:Bool)(hl:l.length≤1000):j3s [.l TNd l,.b z]=some (0,[.n (IntKind.wrap .u32 (N (ofL (ptsR z l))))]):=by
 have hp:=l3i z l
 refine n3j (l2:=ptsR z l) ?_ (m3m _ (by omega))
 rw[k3u]
 refine b0a (st:=h3p) (fun i=>[.k 0,.l TNd l,.b z,.n (i:Int),.l TI (ptsR z (l.take i))]) l.length (0,[.l TI (ptsR z l)]) (fun i hi=> ?_) ?_ FU (b1w (by omega))
 ·show _=some (Step.go [.k 0,.l TNd l,.b z,.n ((i+1:Nat):Int),.l TI (ptsR z (l.take (i+1)))])
  rw[i3j z l hi,←w1n i (by omega)]
  cases h:(g2 (l.getD i (Ty.dflt TNd))==z)with
  |true=>
   have hq:=l3i z (l.take i)
   rw[List.length_take]at hq
   have hq':(ptsR z (l.take i)).length≤1000:=by omega
   have z1:(List.length (α:=Int) (ptsR z (l.take i))+1)*8≤140737488355328:=by omega
   exact k3k (by omega) (by omega) h z1
  |false=>exact k3a (by omega) (by omega) h
 ·have h:=k3c (l0:=l) (b1:=z) (n2:=(l.length:Int)) (l3:=ptsR z (l.take l.length)) (by omega) (by omega)
  rw[List.take_length]at h⊢;exact h
theorem lq28_6 (a:LS)(b c:LP)(r:LR)(T:List Int)(y1 y2 y3 z1 z2 z3:Int)(hr:r.length≤64)(hT:T.length=r.length)(hk:allR b c r):
  j3c [.k 0,.n (r.length:Int),.n 0,.l TS a,.l TPt b,.l TPt c,.l TRt r,.n y1,.n y2,.n y3,.l TU T,.n z1,.n z2,.n z3,.l TMr []]=some (0,[.l TS a,.l TPt b,.l TPt c,.l TRt r,.n y1,.n y2,.n y3,.n z1,.n z2,.n z3,.l TMr (h3t c r T r.length)]):=by
 rw[k3f]
 refine b0a (st:=h3u) (fun i=>[.k 0,.n (r.length:Int),.n (i:Int),.l TS a,.l TPt b,.l TPt c,.l TRt r,.n y1,.n y2,.n y3,.l TU T,.n z1,.n z2,.n z3,.l TMr (h3t c r T i)]) r.length (0,[.l TS a,.l TPt b,.l TPt c,.l TRt r,.n y1,.n y2,.n y3,.n z1,.n z2,.n z3,.l TMr (h3t c r T r.length)]) (fun i hi=> ?_) ?_ FU (b1w (by omega))
 ·show _=some (Step.go [.k 0,.n (r.length:Int),.n ((i+1:Nat):Int),.l TS a,.l TPt b,.l TPt c,.l TRt r,.n y1,.n y2,.n y3,.l TU T,.n z1,.n z2,.n z3,.l TMr (h3t c r T (i+1))])
  rw[i3t,←w1n i (by omega)]
  have hl:=i3k c r T i
  exact k3r (by omega) rfl (congrArg Int.ofNat hT.symm) (by omega) (o54m a b c r _ (T.getD i 0) (hk i hi).1 (hk i hi).2) (by omega)
 ·exact k3b (by omega) rfl (congrArg Int.ofNat hT.symm) (by omega)
theorem lq28_11 (a:LS)(b c:LP)(r:LR)(M:List (Ty.den TMr))(y1 y2 y3 z1 z2 z3:Int)(hb:b.length≤32):
  i3n [.k 0,.n (b.length:Int),.n 0,.l TS a,.l TPt b,.l TPt c,.l TRt r,.n y1,.n y2,.n y3,.n z1,.n z2,.n z3,.l TMr M,.l TU []]=some (0,[.n y1,.n y2,.n y3,.n z1,.n z2,.n z3,.l TMr M,.l TU (h3r b b.length)]):=by
 rw[j3o]
 refine b0a (st:=h3n) (fun i=>[.k 0,.n (b.length:Int),.n (i:Int),.l TS a,.l TPt b,.l TPt c,.l TRt r,.n y1,.n y2,.n y3,.n z1,.n z2,.n z3,.l TMr M,.l TU (h3r b i)]) b.length (0,[.n y1,.n y2,.n y3,.n z1,.n z2,.n z3,.l TMr M,.l TU (h3r b b.length)]) (fun i hi=> ?_) ?_ FU (b1w (by omega))
 ·show _=some (Step.go [.k 0,.n (b.length:Int),.n ((i+1:Nat):Int),.l TS a,.l TPt b,.l TPt c,.l TRt r,.n y1,.n y2,.n y3,.n z1,.n z2,.n z3,.l TMr M,.l TU (h3r b (i+1))])
  rw[i3u,←w1n i (by omega)]
  have hl:=i3q b i
  exact j3l (by omega) rfl (by omega) (l3y 0#64 _) (show(List.length (α:=Int) (h3r b i)+1)*8≤140737488355328 by omega)
 ·exact j3x (by omega) rfl (by omega)
theorem lq29_12 (a:LS)(b c:LP)(r:LR)(M:List (Ty.den TMr))(y1 y2 y3 z1 z2 z3:Int)(hb:b.length≤32):
  i3p [.k 0,.n 0,.l TS a,.l TPt b,.l TPt c,.l TRt r,.n y1,.n y2,.n y3,.n z1,.n z2,.n z3,.l TMr M,.l TU []]=some (0,[.n y1,.n y2,.n y3,.n z1,.n z2,.n z3,.l TMr M,.l TU (h3r b b.length)]):=by
 rw[j3r]
 refine b0a (st:=h3k) (fun i=>[.k 0,.n (i:Int),.l TS a,.l TPt b,.l TPt c,.l TRt r,.n y1,.n y2,.n y3,.n z1,.n z2,.n z3,.l TMr M,.l TU (h3r b i)]) b.length (0,[.n y1,.n y2,.n y3,.n z1,.n z2,.n z3,.l TMr M,.l TU (h3r b b.length)]) (fun i hi=> ?_) ?_ FU (b1w (by omega))
 ·show _=some (Step.go [.k 0,.n ((i+1:Nat):Int),.l TS a,.l TPt b,.l TPt c,.l TRt r,.n y1,.n y2,.n y3,.n z1,.n z2,.n z3,.l TMr M,.l TU (h3r b (i+1))])
  rw[i3u,←w1n i (by omega)]
  have hl:=i3q b i
  exact j3m (by omega) (by omega) (m3m [_] (by show 1≤9223372036854775807;omega)) (show(List.length (α:=Int) (h3r b i)+1)*8≤140737488355328 by omega)
 ·exact j3p (by omega) (by omega)
theorem lq29_6 (a:LS)(b c:LP)(r:LR)(T:List Int)(y1 y2 y3 z1 z2 z3:Int)(hr:r.length≤64)(hT:T.length=r.length)(hk:allR b c r):
  j3f [.k 0,.n 0,.l TS a,.l TPt b,.l TPt c,.l TRt r,.n y1,.n y2,.n y3,.l TU T,.n z1,.n z2,.n z3,.l TMr []]=some (0,[.l TS a,.l TPt b,.l TPt c,.l TRt r,.n y1,.n y2,.n y3,.n z1,.n z2,.n z3,.l TMr (h3t c r T r.length)]):=by
 rw[k3j]
 refine b0a (st:=h3x) (fun i=>[.k 0,.n (i:Int),.l TS a,.l TPt b,.l TPt c,.l TRt r,.n y1,.n y2,.n y3,.l TU T,.n z1,.n z2,.n z3,.l TMr (h3t c r T i)]) r.length (0,[.l TS a,.l TPt b,.l TPt c,.l TRt r,.n y1,.n y2,.n y3,.n z1,.n z2,.n z3,.l TMr (h3t c r T r.length)]) (fun i hi=> ?_) ?_ FU (b1w (by omega))
 ·show _=some (Step.go [.k 0,.n ((i+1:Nat):Int),.l TS a,.l TPt b,.l TPt c,.l TRt r,.n y1,.n y2,.n y3,.l TU T,.n z1,.n z2,.n z3,.l TMr (h3t c r T (i+1))])
  rw[i3t,←w1n i (by omega)]
  have hl:=i3k c r T i
  obtain⟨⟨⟨k1,k2⟩,⟨l1,l2,l3,l4⟩,k3,k4⟩,hw⟩:=hk i hi
  have hp:0<(eP (r.getD i (Ty.dflt TRt))).length:=by
   unfold wfE wfR at hw
   exact of_decide_eq_true (Bool.and_eq_true_iff.1 hw).1
  have hn:(ndsE (r.getD i (Ty.dflt TRt))).length≤1000:=by unfold ndsE;rw[show∀x y:LN,List.append x y=x++y from fun _ _=>rfl,List.length_append];omega
  have ht:(trk (r.getD i (Ty.dflt TRt))).length≤9223372036854775807:=by unfold trk;rw[List.length_append];omega
  have h1:ofL (List.take 1 (eP (r.getD i (Ty.dflt TRt))))=s1o 0#64 (p0 (r.getD i (Ty.dflt TRt))):=by
   unfold p0
   cases e:eP (r.getD i (Ty.dflt TRt))with
   |nil=>rw[e]at hp;simp at hp
   |cons x xs=>rfl
  have e18:=m3m (List.take 1 (eP (r.getD i (Ty.dflt TRt)))) (by rw[List.length_take];omega)
  rw[h1]at e18
  exact k3p (by omega) (congrArg Int.ofNat hT.symm) (by omega) (o12 _ _ _ _ _ _ l1 l2 l3 l4) (o11 _ _ _ _ _ _ l1 l2 l3 l4) (m3m (trk (r.getD i (Ty.dflt TRt))) ht) (dt (show(1:Int)≤((eP (r.getD i (Ty.dflt TRt))).length:Int) by omega)) e18 (h1s k1 k2) (m3m [_] (by show 1≤9223372036854775807;omega)) (o57m _ false hn) (o57m _ true hn) (by omega)
 ·exact k3d (by omega) (congrArg Int.ofNat hT.symm) (by omega)
theorem o28m (a:LS)(b c:LP)(r:LR)(hs:okS a b c r):i3v [.l TS a,.l TPt b,.l TPt c,.l TRt r]=some (mkA a b c r):=by
 have e:=o17c a b c r hs
 unfold mkA
 by_cases h:(ckA a b c r).1=0
 ·rw[if_pos h]at e⊢
  obtain⟨h1,h2,h3⟩:=n3f h
  have f6:=lq28_6 a b c r (NL (tabB b r)) 0 0 0 (N (firB (min r.length 64))) (IntKind.wrap .u32 (N (firB (min b.length 64)))) (N (firB (min a.length 64))) h2 (m3e b r) h3
  exact n3e e rfl (v3h _) (v3h _) (v3h _) f6 (lq28_11 a b c r _ 0 0 0 _ _ _ h1)
 ·rw[if_neg h]at e⊢
  exact n3t e h
theorem o29m (a:LS)(b c:LP)(r:LR)(hs:okS a b c r):i3w [.l TS a,.l TPt b,.l TPt c,.l TRt r]=some (mkA a b c r):=by
 have e:=o18c a b c r hs
 unfold mkA
 by_cases h:(ckA a b c r).1=0
 ·rw[if_pos h]at e⊢
  obtain⟨h1,h2,h3⟩:=n3f h
  have f6:=lq29_6 a b c r (NL (tabB b r)) 0 0 0 (N (firB (min r.length 64))) (IntKind.wrap .u32 (N (firB (min b.length 64)))) (N (firB (min a.length 64))) h2 (m3e b r) h3
  exact n3h e rfl (q_e27 _) (q_e27 _) (q_e27 _) f6 (lq29_12 a b c r _ 0 0 0 _ _ _ h1)
 ·rw[if_neg h]at e⊢
  exact n3u e h
theorem o30m (M:List (Ty.den TMr))(u:List Int)(x y z:Int)(h1:M.length≤1000)(h2:u.length≤1000):j3q [.l TMr M,.l TU u,.n x,.n y,.n z,.l TMr M,.l TU u,.n x,.n y,.n z]=some (0,[.b true]):=by
 refine n3w (l5:=M) (l6:=u) (n7:=x) (n8:=y) (n9:=z) (l10:=M) (l11:=u) (n12:=x) (n13:=y) (n14:=z) ?_ ?_
 ·rw[k3g]
  refine b0a (st:=h3v) (fun i=>[.k 0,.n (i:Int),.l TMr M,.l TU u,.n x,.n y,.n z,.l TMr M,.l TU u,.n x,.n y,.n z]) M.length (0,[.l TMr M,.l TU u,.n x,.n y,.n z,.l TMr M,.l TU u,.n x,.n y,.n z]) (fun i hi=> ?_) ?_ FU (b1w (by omega))
  ·show _=some (Step.go [.k 0,.n ((i+1:Nat):Int),.l TMr M,.l TU u,.n x,.n y,.n z,.l TMr M,.l TU u,.n x,.n y,.n z])
   rw[←w1n i (by omega)]
   exact k3v (by omega) (by omega)
  ·exact k3t (by omega) (by omega)
 ·rw[j3z]
  refine b0a (st:=h3m) (fun i=>[.k 0,.n (i:Int),.l TMr M,.l TU u,.n x,.n y,.n z,.l TMr M,.l TU u,.n x,.n y,.n z]) u.length (0,[]) (fun i hi=> ?_) ?_ FU (b1w (by omega))
  ·show _=some (Step.go [.k 0,.n ((i+1:Nat):Int),.l TMr M,.l TU u,.n x,.n y,.n z,.l TMr M,.l TU u,.n x,.n y,.n z])
   rw[←w1n i (by omega)]
   exact j3w (by omega) (Int.ofNat_lt.2 hi)
  ·exact j3t (by omega) (Int.lt_irrefl (u.length:Int))
theorem W7_true (a:LS)(b c:LP)(r:LR)(hs:okS a b c r)(hz:szA a b c r):(n3n [.l TS a,.l TPt b,.l TPt c,.l TRt r]).sel=some true:=by
 obtain⟨z,e1,hw⟩:=o15w a b c r hs hz
 by_cases h:z>1000
 ·exact o3s e1 h rfl
 obtain⟨la,lb,lc,lr,hr⟩:=hw (by omega)
 have la0:List.length (α:=ByteArray) a≤1000:=Int.ofNat_le.1 la
 have la':List.length (α:=ByteArray) a≤100000:=by omega
 have e2:=o16c a b c r la' (by omega) (by omega) (by omega) hr
 have e3:=o28m a b c r hs
 have e4:=o29m a b c r hs
 have e5:=o19s a b c r la' (by omega) (by omega) (by omega) hr
 unfold mkA at e3 e4
 by_cases hc:(ckA a b c r).1=0
 ·rw[if_pos hc]at e3 e4
  obtain⟨h1,h2,h3⟩:=n3f hc
  have k1:=i3k c r (NL (tabB b r)) r.length
  have k2:=i3q b b.length
  exact o3q e1 h e2 e3 e4 rfl (o30m _ _ _ _ _ (by omega) (by omega)) rfl e5 rfl rfl
 ·rw[if_neg hc]at e3 e4
  exact n3l e1 h e2 e3 e4 rfl (o30m [] [] 0 0 0 (by simp) (by simp)) rfl e5 rfl rfl
abbrev TLaz:Ty:=.pair (.sl TS) (.pair (.sl TPt) (.pair (.sl TPt) (.sl TRt)))
def layW (d:List Dat):Bool:=wsD reachBytes TLaz ((gl TS d 0,gl TPt d 1,gl TPt d 2,gl TRt d 3):Ty.den TLaz)
def p8v (d:List Dat):Bool:=layW d&&wfD (.int .u64) (gn d 4)
def p34v (d:List Dat):Bool:=wfD (.int .u64) (gn d 1)
def S_k7:BSh:={args:=[laV 0],outs:=[(.bool 0,[])]}
def t3k:OpA:=lawOpP [.l TS,.l TPt,.l TPt,.l TRt] (layW)
def cs_k7:FuncId→Option a0q:=a0s 7 (S_k7.k t3k) u3n
theorem v3w:CsOk Try.prog cs_k7:=csA t3n (lawBox_ok (op:=t3k) (args:=[laV 0]) m3v u3r false (ls:=ls0) (LsOk.none _ _ _) fun env x he=>by
 obtain⟨rfl,h,hp⟩:=lawOpP_some he
 refine⟨rfl,?_⟩
 obtain⟨x0,_,rfl,h0⟩:=fits_l h
 obtain⟨x1,_,rfl,h1⟩:=fits_l h0
 obtain⟨x2,_,rfl,h2⟩:=fits_l h1
 obtain⟨x3,_,rfl,h3⟩:=fits_l h2
 cases fits_nil h3
 rw[←lawB_lk];exact W7_true _ _ _ _ (okS_wf ((x0,x1,x2,x3):Ty.den TLay) (a3v (by decide) _ _ hp)) (szA_ws ((x0,x1,x2,x3):Ty.den TLay) hp))
def S_k8:BSh:={args:=[laV 0,.int .u64 4],outs:=[(.bool 0,[])]}
def v3f:OpA:=lawOpP [.l TS,.l TPt,.l TPt,.l TRt,.n] (p8v)
def cs_k8:FuncId→Option a0q:=a0s 8 (S_k8.k v3f) cs_k7
theorem v3y:CsOk Try.prog cs_k8:=csA v3w (lawBox_ok (op:=v3f) (args:=[laV 0,.int .u64 4]) q3e u3r false (ls:=(lsM [(11,v3o)] 0)) (lsE (lsC (h3i r3j) (atF) lsZ)) fun env x he=>by
 obtain⟨rfl,h,hp⟩:=lawOpP_some he
 refine⟨rfl,?_⟩
 obtain⟨x0,_,rfl,h0⟩:=fits_l h
 obtain⟨x1,_,rfl,h1⟩:=fits_l h0
 obtain⟨x2,_,rfl,h2⟩:=fits_l h1
 obtain⟨x3,_,rfl,h3⟩:=fits_l h2
 obtain⟨x4,_,rfl,h4⟩:=fits_n h3
 cases fits_nil h4
 obtain⟨q1,q2⟩:=Bool.and_eq_true_iff.1 hp
 rw[←lawB_lk];exact W8_all _ _ _ _ _ (okS_wf ((x0,x1,x2,x3):Ty.den TLay) (a3v (by decide) _ _ q1)) q2)
def S_k34:BSh:={args:=[.imm TMr 0,.int .u64 1],outs:=[(.bool 0,[])]}
def t3l:OpA:=lawOpP [.l TMr,.n] (p34v)
def u3m:FuncId→Option a0q:=a0s 34 (S_k34.k t3l) cs_k8
theorem t3m:CsOk Try.prog u3m:=csA v3y (lawBox_ok (op:=t3l) (args:=[.imm TMr 0,.int .u64 1]) t3n u3r false (ls:=(lsM [(5,v3m)] 0)) (lsE (lsC (h3i u3p) (atF) lsZ)) fun env x he=>by
 obtain⟨rfl,h,hp⟩:=lawOpP_some he
 refine⟨rfl,?_⟩
 obtain⟨x0,_,rfl,h0⟩:=fits_l h
 obtain⟨x1,_,rfl,h1⟩:=fits_n h0
 cases fits_nil h1
 rw[←lawB_lk];exact W34_all _ _ hp)
def R_9_21:LSh:={K:=0,log:=[],ins:=[(sh 100 [(1,.int .i64 0),(2,.ptr 0 0),(4,.int .u64 1)],[laB 2])],nils:=[],outs:=[(.exit 3,sh 100 [(1,.int .i64 0)],[]),(.ret,sh 100 [(0,.bool 0)],[])],cv:=[(2,[],0,.imm TS),(2,[],1,.imm TPt),(2,[],2,.imm TPt),(2,[],3,.imm TRt)]}
def t3q:List Dat→Tree Step:=evL u3m 9 21 ls0 R_9_21
theorem u3i: ∃op,IsL t3q 9 21 R_9_21 op:=bxL t3m (LsOk.none _ _ _)
def t3g:OpA:=opL u3i
theorem v3g (env:List Dat):t3g env=a0b t3q FU env:=h3j u3i env
abbrev Bx_9_21:MBox:=boxL u3i
theorem v3d {n0 n1:Int}{l2:List (Ty.den TS)}{l3 l4:List (Ty.den TPt)}{l5:List (Ty.den TRt)}{b6 b7:Bool}(g0:0≤n1)(g1:n1≤32)(h0:(n1<(32:Int)))(h1:(v3f [.l TS l2,.l TPt l3,.l TPt l4,.l TRt l5,.n n1])=(some (0,[.b b6])))(h2:(b6=true))(h3:(v3f [.l TS l2,.l TPt l3,.l TPt l4,.l TRt l5,.n (ior IntKind.u64 (ishl IntKind.u64 n1 (1:Int)) (1099511627776:Int))])=(some (0,[.b b7])))(h4:(b7=true)):(t3q [.k 0,.n n0,.n n1,.l TS l2,.l TPt l3,.l TPt l4,.l TRt l5]).sel=some (Step.go [.k 0,.n n0,.n (IntKind.wrap .u64 (n1+(1:Int))),.l TS l2,.l TPt l3,.l TPt l4,.l TRt l5]):=sP [1]<|sT (dt h0)<|sA h1<|sP [1,1]<|sF (nt h2)<|sP [1]<|sA h3<|sP [1,1]<|sF (nt h4)<|sP [1]<|sL
theorem v3e {n0 n1:Int}{l2:List (Ty.den TS)}{l3 l4:List (Ty.den TPt)}{l5:List (Ty.den TRt)}(g0:0≤n1)(g1:n1≤32)(h0:(¬n1<(32:Int))):(t3q [.k 0,.n n0,.n n1,.l TS l2,.l TPt l3,.l TPt l4,.l TRt l5]).sel=some (Step.stop 0 [.n n0]):=sP [1]<|sF (df h0)<|sP [1]<|sL
def R_9_2:LSh:={K:=0,log:=[],ins:=[(sh 100 [(1,.int .i64 0)],[])],nils:=[],outs:=[(.exit 0,sh 100 [],[]),(.ret,sh 100 [(0,.bool 0)],[])],cv:=[]}
def t3j:List Dat→Tree Step:=evL u3m 9 2 (lsM [(21,Bx_9_21)] 0) R_9_2
theorem w3c: ∃op,IsL t3j 9 2 R_9_2 op:=bxL t3m (lsE (lsC (h3i u3i) (by kernel_rfl) lsZ))
def v3t:OpA:=opL w3c
theorem v3r (env:List Dat):v3t env=a0b t3j FU env:=h3j w3c env
abbrev Bx_9_2:MBox:=boxL w3c
theorem v3j {b0:Bool}{n1:Int}(h0:(t3k [.l TS [{data:={toList:=[(97:UInt8)]}},{data:={toList:=[(98:UInt8)]}},{data:={toList:=[(99:UInt8)]}},{data:={toList:=[(100:UInt8)]}},{data:={toList:=[(101:UInt8)]}},{data:={toList:=[(102:UInt8)]}}],.l TPt [({data:={toList:=[(80:UInt8)]}},(1:Int)),({data:={toList:=[(81:UInt8)]}},(3:Int))],.l TPt [({data:={toList:=[(71:UInt8)]}},(0:Int)),({data:={toList:=[(72:UInt8)]}},(4:Int)),({data:={toList:=[(75:UInt8)]}},(5:Int))],.l TRt [({data:={toList:=[(82:UInt8),(49:UInt8)]}},(0:Int),[(1:Int),(2:Int)],[((0:Int),false),((1:Int),false)],[],[]),({data:={toList:=[(82:UInt8),(50:UInt8)]}},(0:Int),[(1:Int),(5:Int)],[((0:Int),true)],[],[]),({data:={toList:=[(82:UInt8),(51:UInt8)]}},(1:Int),[(3:Int),(2:Int)],[((1:Int),false)],[],[]),({data:={toList:=[(82:UInt8),(52:UInt8)]}},(2:Int),[(4:Int)],[],[],[((1:Int),true)]),({data:={toList:=[(82:UInt8),(53:UInt8)]}},(1:Int),[(3:Int)],[((1:Int),true)],[(5:Int)],[])]])=(some (0,[.b b0])))(h1:(b0=true))(h2:(t3g [.k 0,.n (0:Int),.n (0:Int),.l TS [{data:={toList:=[(97:UInt8)]}},{data:={toList:=[(98:UInt8)]}},{data:={toList:=[(99:UInt8)]}},{data:={toList:=[(100:UInt8)]}},{data:={toList:=[(101:UInt8)]}},{data:={toList:=[(102:UInt8)]}}],.l TPt [({data:={toList:=[(80:UInt8)]}},(1:Int)),({data:={toList:=[(81:UInt8)]}},(3:Int))],.l TPt [({data:={toList:=[(71:UInt8)]}},(0:Int)),({data:={toList:=[(72:UInt8)]}},(4:Int)),({data:={toList:=[(75:UInt8)]}},(5:Int))],.l TRt [({data:={toList:=[(82:UInt8),(49:UInt8)]}},(0:Int),[(1:Int),(2:Int)],[((0:Int),false),((1:Int),false)],[],[]),({data:={toList:=[(82:UInt8),(50:UInt8)]}},(0:Int),[(1:Int),(5:Int)],[((0:Int),true)],[],[]),({data:={toList:=[(82:UInt8),(51:UInt8)]}},(1:Int),[(3:Int),(2:Int)],[((1:Int),false)],[],[]),({data:={toList:=[(82:UInt8),(52:UInt8)]}},(2:Int),[(4:Int)],[],[],[((1:Int),true)]),({data:={toList:=[(82:UInt8),(53:UInt8)]}},(1:Int),[(3:Int)],[((1:Int),true)],[(5:Int)],[])]])=(some (0,[.n n1]))):(t3j [.k 0,.n 0]).sel=some (Step.go [.k 0,.n (IntKind.wrap .i64 (n1+(1:Int)))]):=sP [1,1,1,1,1,1,1]<|sA h0<|sP [1,1]<|sF (nt h1)<|sA h2<|sP [1,1]<|sL
theorem u3x {b0:Bool}{n1:Int}(h0:(t3k [.l TS [{data:={toList:=[(97:UInt8)]}},{data:={toList:=[(98:UInt8)]}},{data:={toList:=[(99:UInt8)]}},{data:={toList:=[(100:UInt8)]}},{data:={toList:=[(101:UInt8)]}},{data:={toList:=[(102:UInt8)]}}],.l TPt [({data:={toList:=[(80:UInt8)]}},(1:Int)),({data:={toList:=[(81:UInt8)]}},(3:Int))],.l TPt [({data:={toList:=[(71:UInt8)]}},(0:Int)),({data:={toList:=[(72:UInt8)]}},(4:Int)),({data:={toList:=[(75:UInt8)]}},(5:Int))],.l TRt [({data:={toList:=[(82:UInt8),(49:UInt8)]}},(0:Int),[],[((0:Int),false),((1:Int),false)],[(3:Int)],[]),({data:={toList:=[(82:UInt8),(50:UInt8)]}},(0:Int),[(1:Int),(5:Int)],[((0:Int),true)],[],[]),({data:={toList:=[(82:UInt8),(51:UInt8)]}},(1:Int),[(3:Int),(2:Int)],[((1:Int),false)],[],[]),({data:={toList:=[(82:UInt8),(52:UInt8)]}},(2:Int),[(4:Int)],[],[],[((1:Int),true)]),({data:={toList:=[(82:UInt8),(53:UInt8)]}},(1:Int),[(3:Int)],[((1:Int),true)],[(5:Int)],[])]])=(some (0,[.b b0])))(h1:(b0=true))(h2:(t3g [.k 0,.n (1:Int),.n (0:Int),.l TS [{data:={toList:=[(97:UInt8)]}},{data:={toList:=[(98:UInt8)]}},{data:={toList:=[(99:UInt8)]}},{data:={toList:=[(100:UInt8)]}},{data:={toList:=[(101:UInt8)]}},{data:={toList:=[(102:UInt8)]}}],.l TPt [({data:={toList:=[(80:UInt8)]}},(1:Int)),({data:={toList:=[(81:UInt8)]}},(3:Int))],.l TPt [({data:={toList:=[(71:UInt8)]}},(0:Int)),({data:={toList:=[(72:UInt8)]}},(4:Int)),({data:={toList:=[(75:UInt8)]}},(5:Int))],.l TRt [({data:={toList:=[(82:UInt8),(49:UInt8)]}},(0:Int),[],[((0:Int),false),((1:Int),false)],[(3:Int)],[]),({data:={toList:=[(82:UInt8),(50:UInt8)]}},(0:Int),[(1:Int),(5:Int)],[((0:Int),true)],[],[]),({data:={toList:=[(82:UInt8),(51:UInt8)]}},(1:Int),[(3:Int),(2:Int)],[((1:Int),false)],[],[]),({data:={toList:=[(82:UInt8),(52:UInt8)]}},(2:Int),[(4:Int)],[],[],[((1:Int),true)]),({data:={toList:=[(82:UInt8),(53:UInt8)]}},(1:Int),[(3:Int)],[((1:Int),true)],[(5:Int)],[])]])=(some (0,[.n n1]))):(t3j [.k 0,.n 1]).sel=some (Step.go [.k 0,.n (IntKind.wrap .i64 (n1+(1:Int)))]):=sP [1,1,1,1,1,0,1,1]<|sA h0<|sP [1,1]<|sF (nt h1)<|sA h2<|sP [1,1]<|sL
theorem v3i {b0:Bool}{n1:Int}(h0:(t3k [.l TS [{data:={toList:=[(97:UInt8)]}},{data:={toList:=[(98:UInt8)]}},{data:={toList:=[(99:UInt8)]}},{data:={toList:=[(100:UInt8)]}},{data:={toList:=[(101:UInt8)]}},{data:={toList:=[(102:UInt8)]}}],.l TPt [({data:={toList:=[(80:UInt8)]}},(1:Int)),({data:={toList:=[(81:UInt8)]}},(3:Int))],.l TPt [({data:={toList:=[(71:UInt8)]}},(0:Int)),({data:={toList:=[(72:UInt8)]}},(4:Int)),({data:={toList:=[(75:UInt8)]}},(5:Int))],.l TRt [({data:={toList:=[(82:UInt8),(49:UInt8)]}},(9:Int),[(1:Int),(2:Int)],[((0:Int),false),((1:Int),false)],[(3:Int)],[]),({data:={toList:=[(82:UInt8),(50:UInt8)]}},(0:Int),[(1:Int),(5:Int)],[((0:Int),true)],[],[]),({data:={toList:=[(82:UInt8),(51:UInt8)]}},(1:Int),[(3:Int),(2:Int)],[((1:Int),false)],[],[]),({data:={toList:=[(82:UInt8),(52:UInt8)]}},(2:Int),[(4:Int)],[],[],[((1:Int),true)]),({data:={toList:=[(82:UInt8),(53:UInt8)]}},(1:Int),[(3:Int)],[((1:Int),true)],[(5:Int)],[])]])=(some (0,[.b b0])))(h1:(b0=true))(h2:(t3g [.k 0,.n (2:Int),.n (0:Int),.l TS [{data:={toList:=[(97:UInt8)]}},{data:={toList:=[(98:UInt8)]}},{data:={toList:=[(99:UInt8)]}},{data:={toList:=[(100:UInt8)]}},{data:={toList:=[(101:UInt8)]}},{data:={toList:=[(102:UInt8)]}}],.l TPt [({data:={toList:=[(80:UInt8)]}},(1:Int)),({data:={toList:=[(81:UInt8)]}},(3:Int))],.l TPt [({data:={toList:=[(71:UInt8)]}},(0:Int)),({data:={toList:=[(72:UInt8)]}},(4:Int)),({data:={toList:=[(75:UInt8)]}},(5:Int))],.l TRt [({data:={toList:=[(82:UInt8),(49:UInt8)]}},(9:Int),[(1:Int),(2:Int)],[((0:Int),false),((1:Int),false)],[(3:Int)],[]),({data:={toList:=[(82:UInt8),(50:UInt8)]}},(0:Int),[(1:Int),(5:Int)],[((0:Int),true)],[],[]),({data:={toList:=[(82:UInt8),(51:UInt8)]}},(1:Int),[(3:Int),(2:Int)],[((1:Int),false)],[],[]),({data:={toList:=[(82:UInt8),(52:UInt8)]}},(2:Int),[(4:Int)],[],[],[((1:Int),true)]),({data:={toList:=[(82:UInt8),(53:UInt8)]}},(1:Int),[(3:Int)],[((1:Int),true)],[(5:Int)],[])]])=(some (0,[.n n1]))):(t3j [.k 0,.n 2]).sel=some (Step.go [.k 0,.n (IntKind.wrap .i64 (n1+(1:Int)))]):=sP [1,1,1,1,1,0,0,1,1]<|sA h0<|sP [1,1]<|sF (nt h1)<|sA h2<|sP [1,1]<|sL
theorem u3y {b0:Bool}{n1:Int}(h0:(t3k [.l TS [{data:={toList:=[(97:UInt8)]}},{data:={toList:=[(98:UInt8)]}},{data:={toList:=[(99:UInt8)]}},{data:={toList:=[(100:UInt8)]}},{data:={toList:=[(101:UInt8)]}},{data:={toList:=[(102:UInt8)]}}],.l TPt [({data:={toList:=[(80:UInt8)]}},(1:Int)),({data:={toList:=[(81:UInt8)]}},(3:Int))],.l TPt [({data:={toList:=[(71:UInt8)]}},(0:Int)),({data:={toList:=[(72:UInt8)]}},(4:Int)),({data:={toList:=[(75:UInt8)]}},(5:Int))],.l TRt [({data:={toList:=[(82:UInt8),(49:UInt8)]}},(0:Int),[(1:Int),(2:Int)],[((0:Int),false),((1:Int),false)],[(3:Int)],[((0:Int),false)]),({data:={toList:=[(82:UInt8),(50:UInt8)]}},(0:Int),[(1:Int),(5:Int)],[((0:Int),true)],[],[]),({data:={toList:=[(82:UInt8),(51:UInt8)]}},(1:Int),[(3:Int),(2:Int)],[((1:Int),false)],[],[]),({data:={toList:=[(82:UInt8),(52:UInt8)]}},(2:Int),[(4:Int)],[],[],[((1:Int),true)]),({data:={toList:=[(82:UInt8),(53:UInt8)]}},(1:Int),[(3:Int)],[((1:Int),true)],[(5:Int)],[])]])=(some (0,[.b b0])))(h1:(b0=true))(h2:(t3g [.k 0,.n (3:Int),.n (0:Int),.l TS [{data:={toList:=[(97:UInt8)]}},{data:={toList:=[(98:UInt8)]}},{data:={toList:=[(99:UInt8)]}},{data:={toList:=[(100:UInt8)]}},{data:={toList:=[(101:UInt8)]}},{data:={toList:=[(102:UInt8)]}}],.l TPt [({data:={toList:=[(80:UInt8)]}},(1:Int)),({data:={toList:=[(81:UInt8)]}},(3:Int))],.l TPt [({data:={toList:=[(71:UInt8)]}},(0:Int)),({data:={toList:=[(72:UInt8)]}},(4:Int)),({data:={toList:=[(75:UInt8)]}},(5:Int))],.l TRt [({data:={toList:=[(82:UInt8),(49:UInt8)]}},(0:Int),[(1:Int),(2:Int)],[((0:Int),false),((1:Int),false)],[(3:Int)],[((0:Int),false)]),({data:={toList:=[(82:UInt8),(50:UInt8)]}},(0:Int),[(1:Int),(5:Int)],[((0:Int),true)],[],[]),({data:={toList:=[(82:UInt8),(51:UInt8)]}},(1:Int),[(3:Int),(2:Int)],[((1:Int),false)],[],[]),({data:={toList:=[(82:UInt8),(52:UInt8)]}},(2:Int),[(4:Int)],[],[],[((1:Int),true)]),({data:={toList:=[(82:UInt8),(53:UInt8)]}},(1:Int),[(3:Int)],[((1:Int),true)],[(5:Int)],[])]])=(some (0,[.n n1]))):(t3j [.k 0,.n 3]).sel=some (Step.go [.k 0,.n (IntKind.wrap .i64 (n1+(1:Int)))]):=sP [1,1,1,1,1,0,0,0,1,1]<|sA h0<|sP [1,1]<|sF (nt h1)<|sA h2<|sP [1,1]<|sL
theorem u3w {b0:Bool}{n1:Int}(h0:(t3k [.l TS [{data:={toList:=[(97:UInt8)]}},{data:={toList:=[(98:UInt8)]}},{data:={toList:=[(99:UInt8)]}},{data:={toList:=[(100:UInt8)]}},{data:={toList:=[(101:UInt8)]}},{data:={toList:=[(102:UInt8)]}}],.l TPt [({data:={toList:=[(80:UInt8)]}},(1:Int)),({data:={toList:=[(81:UInt8)]}},(3:Int))],.l TPt [({data:={toList:=[(71:UInt8)]}},(0:Int)),({data:={toList:=[(72:UInt8)]}},(4:Int)),({data:={toList:=[(75:UInt8)]}},(5:Int))],.l TRt [({data:={toList:=[(82:UInt8),(49:UInt8)]}},(0:Int),[(1:Int),(2:Int)],[((0:Int),false),((1:Int),false)],[(3:Int)],[])]])=(some (0,[.b b0])))(h1:(b0=true))(h2:(t3g [.k 0,.n (4:Int),.n (0:Int),.l TS [{data:={toList:=[(97:UInt8)]}},{data:={toList:=[(98:UInt8)]}},{data:={toList:=[(99:UInt8)]}},{data:={toList:=[(100:UInt8)]}},{data:={toList:=[(101:UInt8)]}},{data:={toList:=[(102:UInt8)]}}],.l TPt [({data:={toList:=[(80:UInt8)]}},(1:Int)),({data:={toList:=[(81:UInt8)]}},(3:Int))],.l TPt [({data:={toList:=[(71:UInt8)]}},(0:Int)),({data:={toList:=[(72:UInt8)]}},(4:Int)),({data:={toList:=[(75:UInt8)]}},(5:Int))],.l TRt [({data:={toList:=[(82:UInt8),(49:UInt8)]}},(0:Int),[(1:Int),(2:Int)],[((0:Int),false),((1:Int),false)],[(3:Int)],[])]])=(some (0,[.n n1]))):(t3j [.k 0,.n 4]).sel=some (Step.go [.k 0,.n (IntKind.wrap .i64 (n1+(1:Int)))]):=sP [1,1,1,1,1,0,0,0,0,1,1,1,1]<|sA h0<|sP [1,1]<|sF (nt h1)<|sA h2<|sP [1,1]<|sL
theorem u3t {b0:Bool}{n1:Int}(h0:(t3k [.l TS [{data:={toList:=[(97:UInt8)]}},{data:={toList:=[(98:UInt8)]}},{data:={toList:=[(99:UInt8)]}},{data:={toList:=[(100:UInt8)]}},{data:={toList:=[(101:UInt8)]}},{data:={toList:=[(102:UInt8)]}}],.l TPt [({data:={toList:=[(80:UInt8)]}},(1:Int)),({data:={toList:=[(81:UInt8)]}},(3:Int))],.l TPt [({data:={toList:=[(71:UInt8)]}},(0:Int)),({data:={toList:=[(72:UInt8)]}},(4:Int)),({data:={toList:=[(75:UInt8)]}},(5:Int))],.l TRt [({data:={toList:=[(82:UInt8),(49:UInt8)]}},(0:Int),[(1:Int),(2:Int)],[((0:Int),false),((1:Int),false)],[(3:Int)],[]),({data:={toList:=[(82:UInt8),(50:UInt8)]}},(0:Int),[(1:Int),(5:Int)],[((0:Int),true)],[],[]),({data:={toList:=[(82:UInt8),(51:UInt8)]}},(1:Int),[(3:Int),(2:Int)],[((1:Int),false)],[],[]),({data:={toList:=[(82:UInt8),(52:UInt8)]}},(2:Int),[(4:Int)],[],[],[((1:Int),true)]),({data:={toList:=[(82:UInt8),(53:UInt8)]}},(1:Int),[(3:Int)],[((1:Int),true)],[(5:Int)],[])]])=(some (0,[.b b0])))(h1:(b0=true))(h2:(t3g [.k 0,.n (5:Int),.n (0:Int),.l TS [{data:={toList:=[(97:UInt8)]}},{data:={toList:=[(98:UInt8)]}},{data:={toList:=[(99:UInt8)]}},{data:={toList:=[(100:UInt8)]}},{data:={toList:=[(101:UInt8)]}},{data:={toList:=[(102:UInt8)]}}],.l TPt [({data:={toList:=[(80:UInt8)]}},(1:Int)),({data:={toList:=[(81:UInt8)]}},(3:Int))],.l TPt [({data:={toList:=[(71:UInt8)]}},(0:Int)),({data:={toList:=[(72:UInt8)]}},(4:Int)),({data:={toList:=[(75:UInt8)]}},(5:Int))],.l TRt [({data:={toList:=[(82:UInt8),(49:UInt8)]}},(0:Int),[(1:Int),(2:Int)],[((0:Int),false),((1:Int),false)],[(3:Int)],[]),({data:={toList:=[(82:UInt8),(50:UInt8)]}},(0:Int),[(1:Int),(5:Int)],[((0:Int),true)],[],[]),({data:={toList:=[(82:UInt8),(51:UInt8)]}},(1:Int),[(3:Int),(2:Int)],[((1:Int),false)],[],[]),({data:={toList:=[(82:UInt8),(52:UInt8)]}},(2:Int),[(4:Int)],[],[],[((1:Int),true)]),({data:={toList:=[(82:UInt8),(53:UInt8)]}},(1:Int),[(3:Int)],[((1:Int),true)],[(5:Int)],[])]])=(some (0,[.n n1]))):(t3j [.k 0,.n 5]).sel=some (Step.go [.k 0,.n (IntKind.wrap .i64 (n1+(1:Int)))]):=sP [1,1,1,1,1,0,0,0,0,0,1]<|sA h0<|sP [1,1]<|sF (nt h1)<|sA h2<|sP [1,1]<|sL
theorem v3b {b0:Bool}{n1:Int}(h0:(t3k [.l TS [{data:={toList:=[(97:UInt8)]}},{data:={toList:=[(98:UInt8)]}},{data:={toList:=[(99:UInt8)]}},{data:={toList:=[(100:UInt8)]}},{data:={toList:=[(101:UInt8)]}},{data:={toList:=[(102:UInt8)]}}],.l TPt [({data:={toList:=[(80:UInt8)]}},(1:Int)),({data:={toList:=[(81:UInt8)]}},(3:Int))],.l TPt [({data:={toList:=[(71:UInt8)]}},(0:Int)),({data:={toList:=[(72:UInt8)]}},(4:Int)),({data:={toList:=[(75:UInt8)]}},(5:Int))],.l TRt [({data:={toList:=[(82:UInt8),(49:UInt8)]}},(0:Int),[(1:Int),(2:Int)],[((0:Int),false),((1:Int),false)],[(3:Int)],[]),({data:={toList:=[(82:UInt8),(50:UInt8)]}},(0:Int),[(1:Int),(5:Int)],[((0:Int),true)],[],[]),({data:={toList:=[(82:UInt8),(51:UInt8)]}},(1:Int),[(3:Int),(2:Int)],[((1:Int),false)],[],[]),({data:={toList:=[(82:UInt8),(52:UInt8)]}},(2:Int),[(4:Int)],[],[],[((1:Int),true)]),({data:={toList:=[(82:UInt8),(53:UInt8)]}},(1:Int),[(3:Int)],[((1:Int),true)],[(5:Int)],[])]])=(some (0,[.b b0])))(h1:(b0=true))(h2:(t3g [.k 0,.n (6:Int),.n (0:Int),.l TS [{data:={toList:=[(97:UInt8)]}},{data:={toList:=[(98:UInt8)]}},{data:={toList:=[(99:UInt8)]}},{data:={toList:=[(100:UInt8)]}},{data:={toList:=[(101:UInt8)]}},{data:={toList:=[(102:UInt8)]}}],.l TPt [({data:={toList:=[(80:UInt8)]}},(1:Int)),({data:={toList:=[(81:UInt8)]}},(3:Int))],.l TPt [({data:={toList:=[(71:UInt8)]}},(0:Int)),({data:={toList:=[(72:UInt8)]}},(4:Int)),({data:={toList:=[(75:UInt8)]}},(5:Int))],.l TRt [({data:={toList:=[(82:UInt8),(49:UInt8)]}},(0:Int),[(1:Int),(2:Int)],[((0:Int),false),((1:Int),false)],[(3:Int)],[]),({data:={toList:=[(82:UInt8),(50:UInt8)]}},(0:Int),[(1:Int),(5:Int)],[((0:Int),true)],[],[]),({data:={toList:=[(82:UInt8),(51:UInt8)]}},(1:Int),[(3:Int),(2:Int)],[((1:Int),false)],[],[]),({data:={toList:=[(82:UInt8),(52:UInt8)]}},(2:Int),[(4:Int)],[],[],[((1:Int),true)]),({data:={toList:=[(82:UInt8),(53:UInt8)]}},(1:Int),[(3:Int)],[((1:Int),true)],[(5:Int)],[])]])=(some (0,[.n n1]))):(t3j [.k 0,.n 6]).sel=some (Step.go [.k 0,.n (IntKind.wrap .i64 (n1+(1:Int)))]):=sP [1,1,1,1,1,0,0,0,0,0,1]<|sA h0<|sP [1,1]<|sF (nt h1)<|sA h2<|sP [1,1]<|sL
theorem u3u {b0:Bool}{n1:Int}(h0:(t3k [.l TS [{data:={toList:=[(97:UInt8)]}},{data:={toList:=[(98:UInt8)]}},{data:={toList:=[(99:UInt8)]}},{data:={toList:=[(100:UInt8)]}},{data:={toList:=[(101:UInt8)]}},{data:={toList:=[(102:UInt8)]}}],.l TPt [({data:={toList:=[(80:UInt8)]}},(1:Int)),({data:={toList:=[(81:UInt8)]}},(3:Int))],.l TPt [({data:={toList:=[(71:UInt8)]}},(0:Int)),({data:={toList:=[(72:UInt8)]}},(4:Int)),({data:={toList:=[(75:UInt8)]}},(5:Int))],.l TRt [({data:={toList:=[(82:UInt8),(49:UInt8)]}},(0:Int),[(1:Int),(2:Int)],[((0:Int),false),((1:Int),false)],[(3:Int)],[]),({data:={toList:=[(82:UInt8),(50:UInt8)]}},(0:Int),[(1:Int),(5:Int)],[((0:Int),true)],[],[]),({data:={toList:=[(82:UInt8),(51:UInt8)]}},(1:Int),[(3:Int),(2:Int)],[((1:Int),false)],[],[]),({data:={toList:=[(82:UInt8),(52:UInt8)]}},(2:Int),[(4:Int)],[],[],[((1:Int),true)]),({data:={toList:=[(82:UInt8),(53:UInt8)]}},(1:Int),[(3:Int)],[((1:Int),true)],[(5:Int)],[])]])=(some (0,[.b b0])))(h1:(b0=true))(h2:(t3g [.k 0,.n (7:Int),.n (0:Int),.l TS [{data:={toList:=[(97:UInt8)]}},{data:={toList:=[(98:UInt8)]}},{data:={toList:=[(99:UInt8)]}},{data:={toList:=[(100:UInt8)]}},{data:={toList:=[(101:UInt8)]}},{data:={toList:=[(102:UInt8)]}}],.l TPt [({data:={toList:=[(80:UInt8)]}},(1:Int)),({data:={toList:=[(81:UInt8)]}},(3:Int))],.l TPt [({data:={toList:=[(71:UInt8)]}},(0:Int)),({data:={toList:=[(72:UInt8)]}},(4:Int)),({data:={toList:=[(75:UInt8)]}},(5:Int))],.l TRt [({data:={toList:=[(82:UInt8),(49:UInt8)]}},(0:Int),[(1:Int),(2:Int)],[((0:Int),false),((1:Int),false)],[(3:Int)],[]),({data:={toList:=[(82:UInt8),(50:UInt8)]}},(0:Int),[(1:Int),(5:Int)],[((0:Int),true)],[],[]),({data:={toList:=[(82:UInt8),(51:UInt8)]}},(1:Int),[(3:Int),(2:Int)],[((1:Int),false)],[],[]),({data:={toList:=[(82:UInt8),(52:UInt8)]}},(2:Int),[(4:Int)],[],[],[((1:Int),true)]),({data:={toList:=[(82:UInt8),(53:UInt8)]}},(1:Int),[(3:Int)],[((1:Int),true)],[(5:Int)],[])]])=(some (0,[.n n1]))):(t3j [.k 0,.n 7]).sel=some (Step.go [.k 0,.n (IntKind.wrap .i64 (n1+(1:Int)))]):=sP [1,1,1,1,1,0,0,0,0,0,1]<|sA h0<|sP [1,1]<|sF (nt h1)<|sA h2<|sP [1,1]<|sL
theorem v3a:(t3j [.k 0,.n 8]).sel=some (Step.stop 0 []):=sP [1,0,1]<|sL
def ev_W9:List Dat→Tree Bool:=evW u3m 9 (lsM [(2,Bx_9_2)] 0) []
theorem W9_law (env:List Dat)(h:(ev_W9 env).sel=some true){w:World}{aa:Array Value}(ha:LRel R0 (b0k w) (instL [] env) aa):
  Calls Try.prog 9 aa w fun e w'=>e=.returned (.bool true)∧Below w.heap.size w w':=evW_law t3m (lsE (lsC (h3i w3c) (atF) lsZ)) env h ha
theorem v3x {b0 b1 b2 b3 b4 b5:Bool}(h0:(v3t [.k 0,.n (0:Int)])=(some (0,[])))(h1:(t3k [.l TS [],.l TPt [],.l TPt [],.l TRt []])=(some (0,[.b b0])))(h2:(b0=true))(h3:(t3l [.l TMr (apL (apL (apL (apL (apL (apL (apL (apL (apL (apL (apL (apL (apL (apL (apL (apL (apL (apL (apL (apL (apL (apL (apL (apL (apL (apL (apL (apL (apL (apL (apL (apL (apL (apL (apL (apL (apL (apL (apL (apL (apL (apL (apL (apL (apL (apL (apL (apL (apL (apL (apL (apL (apL (apL (apL (apL (apL (apL [((0:Int),(0:Int),(0:Int),(1:Int),(1:Int),(1:Int)),((0:Int),(0:Int),(0:Int),(2:Int),(128:Int),(32:Int)),((0:Int),(0:Int),(0:Int),(4:Int),(16384:Int),(1024:Int)),((0:Int),(0:Int),(0:Int),(8:Int),(2097152:Int),(32768:Int)),((0:Int),(0:Int),(0:Int),(16:Int),(268435456:Int),(1048576:Int)),((0:Int),(0:Int),(0:Int),(32:Int),(8:Int),(33554432:Int)),((0:Int),(0:Int),(0:Int),(64:Int),(1024:Int),(1073741824:Int)),((0:Int),(0:Int),(0:Int),(128:Int),(131072:Int),(34359738368:Int)),((0:Int),(0:Int),(0:Int),(256:Int),(16777216:Int),(1099511627776:Int)),((0:Int),(0:Int),(0:Int),(512:Int),(2147483648:Int),(35184372088832:Int)),((0:Int),(0:Int),(0:Int),(1024:Int),(64:Int),(1125899906842624:Int)),((0:Int),(0:Int),(0:Int),(2048:Int),(8192:Int),(36028797018963968:Int))] [((0:Int),(0:Int),(0:Int),(4096:Int),(1048576:Int),(1152921504606846976:Int))]) [((0:Int),(0:Int),(0:Int),(8192:Int),(134217728:Int),(2:Int))]) [((0:Int),(0:Int),(0:Int),(16384:Int),(4:Int),(64:Int))]) [((0:Int),(0:Int),(0:Int),(32768:Int),(512:Int),(2048:Int))]) [((0:Int),(0:Int),(0:Int),(65536:Int),(65536:Int),(65536:Int))]) [((0:Int),(0:Int),(0:Int),(131072:Int),(8388608:Int),(2097152:Int))]) [((0:Int),(0:Int),(0:Int),(262144:Int),(1073741824:Int),(67108864:Int))]) [((0:Int),(0:Int),(0:Int),(524288:Int),(32:Int),(2147483648:Int))]) [((0:Int),(0:Int),(0:Int),(1048576:Int),(4096:Int),(68719476736:Int))]) [((0:Int),(0:Int),(0:Int),(2097152:Int),(524288:Int),(2199023255552:Int))]) [((0:Int),(0:Int),(0:Int),(4194304:Int),(67108864:Int),(70368744177664:Int))]) [((0:Int),(0:Int),(0:Int),(8388608:Int),(2:Int),(2251799813685248:Int))]) [((0:Int),(0:Int),(0:Int),(16777216:Int),(256:Int),(72057594037927936:Int))]) [((0:Int),(0:Int),(0:Int),(33554432:Int),(32768:Int),(2305843009213693952:Int))]) [((0:Int),(0:Int),(0:Int),(67108864:Int),(4194304:Int),(4:Int))]) [((0:Int),(0:Int),(0:Int),(134217728:Int),(536870912:Int),(128:Int))]) [((0:Int),(0:Int),(0:Int),(268435456:Int),(16:Int),(4096:Int))]) [((0:Int),(0:Int),(0:Int),(536870912:Int),(2048:Int),(131072:Int))]) [((0:Int),(0:Int),(0:Int),(1073741824:Int),(262144:Int),(4194304:Int))]) [((0:Int),(0:Int),(0:Int),(2147483648:Int),(33554432:Int),(134217728:Int))]) [((0:Int),(0:Int),(0:Int),(1:Int),(1:Int),(4294967296:Int))]) [((0:Int),(0:Int),(0:Int),(2:Int),(128:Int),(137438953472:Int))]) [((0:Int),(0:Int),(0:Int),(4:Int),(16384:Int),(4398046511104:Int))]) [((0:Int),(0:Int),(0:Int),(8:Int),(2097152:Int),(140737488355328:Int))]) [((0:Int),(0:Int),(0:Int),(16:Int),(268435456:Int),(4503599627370496:Int))]) [((0:Int),(0:Int),(0:Int),(32:Int),(8:Int),(144115188075855872:Int))]) [((0:Int),(0:Int),(0:Int),(64:Int),(1024:Int),(4611686018427387904:Int))]) [((0:Int),(0:Int),(0:Int),(128:Int),(131072:Int),(8:Int))]) [((0:Int),(0:Int),(0:Int),(256:Int),(16777216:Int),(256:Int))]) [((0:Int),(0:Int),(0:Int),(512:Int),(2147483648:Int),(8192:Int))]) [((0:Int),(0:Int),(0:Int),(1024:Int),(64:Int),(262144:Int))]) [((0:Int),(0:Int),(0:Int),(2048:Int),(8192:Int),(8388608:Int))]) [((0:Int),(0:Int),(0:Int),(4096:Int),(1048576:Int),(268435456:Int))]) [((0:Int),(0:Int),(0:Int),(8192:Int),(134217728:Int),(8589934592:Int))]) [((0:Int),(0:Int),(0:Int),(16384:Int),(4:Int),(274877906944:Int))]) [((0:Int),(0:Int),(0:Int),(32768:Int),(512:Int),(8796093022208:Int))]) [((0:Int),(0:Int),(0:Int),(65536:Int),(65536:Int),(281474976710656:Int))]) [((0:Int),(0:Int),(0:Int),(131072:Int),(8388608:Int),(9007199254740992:Int))]) [((0:Int),(0:Int),(0:Int),(262144:Int),(1073741824:Int),(288230376151711744:Int))]) [((0:Int),(0:Int),(0:Int),(524288:Int),(32:Int),(9223372036854775808:Int))]) [((0:Int),(0:Int),(0:Int),(1048576:Int),(4096:Int),(16:Int))]) [((0:Int),(0:Int),(0:Int),(2097152:Int),(524288:Int),(512:Int))]) [((0:Int),(0:Int),(0:Int),(4194304:Int),(67108864:Int),(16384:Int))]) [((0:Int),(0:Int),(0:Int),(8388608:Int),(2:Int),(524288:Int))]) [((0:Int),(0:Int),(0:Int),(16777216:Int),(256:Int),(16777216:Int))]) [((0:Int),(0:Int),(0:Int),(33554432:Int),(32768:Int),(536870912:Int))]) [((0:Int),(0:Int),(0:Int),(67108864:Int),(4194304:Int),(17179869184:Int))]) [((0:Int),(0:Int),(0:Int),(134217728:Int),(536870912:Int),(549755813888:Int))]) [((0:Int),(0:Int),(0:Int),(268435456:Int),(16:Int),(17592186044416:Int))]) [((0:Int),(0:Int),(0:Int),(536870912:Int),(2048:Int),(562949953421312:Int))]) [((0:Int),(0:Int),(0:Int),(1073741824:Int),(262144:Int),(18014398509481984:Int))]) [((0:Int),(0:Int),(0:Int),(2147483648:Int),(33554432:Int),(576460752303423488:Int))]) [((0:Int),(0:Int),(0:Int),(1:Int),(1:Int),(1:Int))]) [((0:Int),(0:Int),(0:Int),(2:Int),(128:Int),(32:Int))]) [((0:Int),(0:Int),(0:Int),(4:Int),(16384:Int),(1024:Int))]) [((0:Int),(0:Int),(0:Int),(8:Int),(2097152:Int),(32768:Int))]) [((0:Int),(0:Int),(0:Int),(16:Int),(268435456:Int),(1048576:Int))]) [((0:Int),(0:Int),(0:Int),(32:Int),(8:Int),(33554432:Int))]),.n (18446744073709551615:Int)])=(some (0,[.b b1])))(h4:(b1=true))(h5:(t3l [.l TMr [((0:Int),(0:Int),(0:Int),(1:Int),(1:Int),(1:Int)),((0:Int),(0:Int),(0:Int),(2:Int),(128:Int),(32:Int)),((0:Int),(0:Int),(0:Int),(4:Int),(16384:Int),(1024:Int))],.n (18446744073709551615:Int)])=(some (0,[.b b2])))(h6:(b2=true))(h7:(t3l [.l TMr (apL (apL (apL (apL (apL (apL (apL (apL (apL (apL (apL (apL (apL (apL (apL (apL (apL (apL (apL (apL (apL (apL (apL (apL (apL (apL (apL (apL (apL (apL (apL (apL (apL (apL (apL (apL (apL (apL (apL (apL (apL (apL (apL (apL (apL (apL (apL (apL (apL (apL (apL (apL (apL (apL (apL (apL (apL (apL [((0:Int),(0:Int),(0:Int),(1:Int),(1:Int),(1:Int)),((0:Int),(0:Int),(0:Int),(2:Int),(128:Int),(32:Int)),((0:Int),(0:Int),(0:Int),(4:Int),(16384:Int),(1024:Int)),((0:Int),(0:Int),(0:Int),(8:Int),(2097152:Int),(32768:Int)),((0:Int),(0:Int),(0:Int),(16:Int),(268435456:Int),(1048576:Int)),((0:Int),(0:Int),(0:Int),(32:Int),(8:Int),(33554432:Int)),((0:Int),(0:Int),(0:Int),(64:Int),(1024:Int),(1073741824:Int)),((0:Int),(0:Int),(0:Int),(128:Int),(131072:Int),(34359738368:Int)),((0:Int),(0:Int),(0:Int),(256:Int),(16777216:Int),(1099511627776:Int)),((0:Int),(0:Int),(0:Int),(512:Int),(2147483648:Int),(35184372088832:Int)),((0:Int),(0:Int),(0:Int),(1024:Int),(64:Int),(1125899906842624:Int)),((0:Int),(0:Int),(0:Int),(2048:Int),(8192:Int),(36028797018963968:Int))] [((0:Int),(0:Int),(0:Int),(4096:Int),(1048576:Int),(1152921504606846976:Int))]) [((0:Int),(0:Int),(0:Int),(8192:Int),(134217728:Int),(2:Int))]) [((0:Int),(0:Int),(0:Int),(16384:Int),(4:Int),(64:Int))]) [((0:Int),(0:Int),(0:Int),(32768:Int),(512:Int),(2048:Int))]) [((0:Int),(0:Int),(0:Int),(65536:Int),(65536:Int),(65536:Int))]) [((0:Int),(0:Int),(0:Int),(131072:Int),(8388608:Int),(2097152:Int))]) [((0:Int),(0:Int),(0:Int),(262144:Int),(1073741824:Int),(67108864:Int))]) [((0:Int),(0:Int),(0:Int),(524288:Int),(32:Int),(2147483648:Int))]) [((0:Int),(0:Int),(0:Int),(1048576:Int),(4096:Int),(68719476736:Int))]) [((0:Int),(0:Int),(0:Int),(2097152:Int),(524288:Int),(2199023255552:Int))]) [((0:Int),(0:Int),(0:Int),(4194304:Int),(67108864:Int),(70368744177664:Int))]) [((0:Int),(0:Int),(0:Int),(8388608:Int),(2:Int),(2251799813685248:Int))]) [((0:Int),(0:Int),(0:Int),(16777216:Int),(256:Int),(72057594037927936:Int))]) [((0:Int),(0:Int),(0:Int),(33554432:Int),(32768:Int),(2305843009213693952:Int))]) [((0:Int),(0:Int),(0:Int),(67108864:Int),(4194304:Int),(4:Int))]) [((0:Int),(0:Int),(0:Int),(134217728:Int),(536870912:Int),(128:Int))]) [((0:Int),(0:Int),(0:Int),(268435456:Int),(16:Int),(4096:Int))]) [((0:Int),(0:Int),(0:Int),(536870912:Int),(2048:Int),(131072:Int))]) [((0:Int),(0:Int),(0:Int),(1073741824:Int),(262144:Int),(4194304:Int))]) [((0:Int),(0:Int),(0:Int),(2147483648:Int),(33554432:Int),(134217728:Int))]) [((0:Int),(0:Int),(0:Int),(1:Int),(1:Int),(4294967296:Int))]) [((0:Int),(0:Int),(0:Int),(2:Int),(128:Int),(137438953472:Int))]) [((0:Int),(0:Int),(0:Int),(4:Int),(16384:Int),(4398046511104:Int))]) [((0:Int),(0:Int),(0:Int),(8:Int),(2097152:Int),(140737488355328:Int))]) [((0:Int),(0:Int),(0:Int),(16:Int),(268435456:Int),(4503599627370496:Int))]) [((0:Int),(0:Int),(0:Int),(32:Int),(8:Int),(144115188075855872:Int))]) [((0:Int),(0:Int),(0:Int),(64:Int),(1024:Int),(4611686018427387904:Int))]) [((0:Int),(0:Int),(0:Int),(128:Int),(131072:Int),(8:Int))]) [((0:Int),(0:Int),(0:Int),(256:Int),(16777216:Int),(256:Int))]) [((0:Int),(0:Int),(0:Int),(512:Int),(2147483648:Int),(8192:Int))]) [((0:Int),(0:Int),(0:Int),(1024:Int),(64:Int),(262144:Int))]) [((0:Int),(0:Int),(0:Int),(2048:Int),(8192:Int),(8388608:Int))]) [((0:Int),(0:Int),(0:Int),(4096:Int),(1048576:Int),(268435456:Int))]) [((0:Int),(0:Int),(0:Int),(8192:Int),(134217728:Int),(8589934592:Int))]) [((0:Int),(0:Int),(0:Int),(16384:Int),(4:Int),(274877906944:Int))]) [((0:Int),(0:Int),(0:Int),(32768:Int),(512:Int),(8796093022208:Int))]) [((0:Int),(0:Int),(0:Int),(65536:Int),(65536:Int),(281474976710656:Int))]) [((0:Int),(0:Int),(0:Int),(131072:Int),(8388608:Int),(9007199254740992:Int))]) [((0:Int),(0:Int),(0:Int),(262144:Int),(1073741824:Int),(288230376151711744:Int))]) [((0:Int),(0:Int),(0:Int),(524288:Int),(32:Int),(9223372036854775808:Int))]) [((0:Int),(0:Int),(0:Int),(1048576:Int),(4096:Int),(16:Int))]) [((0:Int),(0:Int),(0:Int),(2097152:Int),(524288:Int),(512:Int))]) [((0:Int),(0:Int),(0:Int),(4194304:Int),(67108864:Int),(16384:Int))]) [((0:Int),(0:Int),(0:Int),(8388608:Int),(2:Int),(524288:Int))]) [((0:Int),(0:Int),(0:Int),(16777216:Int),(256:Int),(16777216:Int))]) [((0:Int),(0:Int),(0:Int),(33554432:Int),(32768:Int),(536870912:Int))]) [((0:Int),(0:Int),(0:Int),(67108864:Int),(4194304:Int),(17179869184:Int))]) [((0:Int),(0:Int),(0:Int),(134217728:Int),(536870912:Int),(549755813888:Int))]) [((0:Int),(0:Int),(0:Int),(268435456:Int),(16:Int),(17592186044416:Int))]) [((0:Int),(0:Int),(0:Int),(536870912:Int),(2048:Int),(562949953421312:Int))]) [((0:Int),(0:Int),(0:Int),(1073741824:Int),(262144:Int),(18014398509481984:Int))]) [((0:Int),(0:Int),(0:Int),(2147483648:Int),(33554432:Int),(576460752303423488:Int))]) [((0:Int),(0:Int),(0:Int),(1:Int),(1:Int),(1:Int))]) [((0:Int),(0:Int),(0:Int),(2:Int),(128:Int),(32:Int))]) [((0:Int),(0:Int),(0:Int),(4:Int),(16384:Int),(1024:Int))]) [((0:Int),(0:Int),(0:Int),(8:Int),(2097152:Int),(32768:Int))]) [((0:Int),(0:Int),(0:Int),(16:Int),(268435456:Int),(1048576:Int))]) [((0:Int),(0:Int),(0:Int),(32:Int),(8:Int),(33554432:Int))]),.n (0:Int)])=(some (0,[.b b3])))(h8:(b3=true))(h9:(t3l [.l TMr [],.n (7:Int)])=(some (0,[.b b4])))(h10:(b4=true))(h11:(op_w27 [])=(some (0,[.b b5]))):(ev_W9 []).sel=some (b5):=sA h0<|sP (1::1::1::1::1::1::1::1::1::1::1::1::1::1::1::1::1::1::1::1::1::1::1::1::1::1::1::1::1::1::1::1::1::1::1::1::1::1::1::1::1::1::1::1::1::1::1::1::1::1::1::1::1::1::1::1::1::1::1::1::1::1::1::1::1::1::1::1::1::1::1::1::1::1::1::1::1::1::1::1::1::1::1::1::1::1::1::1::1::1::1::1::1::1::1::1::1::1::1::1::1::1::1::1::1::1::1::1::1::1::1::1::1::1::1::1::1::1::1::1::1::1::1::1::1::1::1::1::1::1::1::1::1::1::1::1::1::1::1::1::1::1::1::1::1::1::1::1::1::1::1::1::1::1::1::1::1::1::1::1::1::1::1::1::1::1::1::1::1::1::1::1::1::1::1::1::1::1::1::1::1::1::1::1::1::1::1::1::1::1::1::1::1::1::1::1::1::1::1::1::1::1::1::1::1::1::1::1::1::1::1::1::1::1::1::1::1::1::1::1::1::1::1::1::1::1::1::1::1::1::1::1::1::1::1::1::1::1::1::1::1::1::1::1::1::1::1::1::1::1::1::1::1::1::1::1::1::1::1::1::1::1::1::1::1::1::1::1::1::1::1::1::1::1::1::1::1::1::1::1::1::1::1::1::1::1::1::1::1::1::1::1::1::1::1::1::1::1::1::1::1::1::1::1::1::1::1::1::1::1::1::1::1::1::1::1::1::1::1::1::1::1::1::1::1::1::1::1::1::1::1::1::1::1::1::1::1::1::1::1::1::1::1::1::1::1::1::1::1::1::1::1::1::1::1::1::1::1::1::1::1::1::1::1::1::1::1::1::1::1::1::1::1::1::1::1::1::1::1::1::1::1::1::1::1::1::1::1::1::1::1::1::1::1::1::1::1::1::1::1::1::1::1::1::1::1::1::1::1::1::1::1::1::1::1::1::1::1::1::1::1::1::1::1::1::1::1::1::1::1::1::1::1::1::1::1::1::1::1::1::1::1::1::1::1::1::1::1::1::1::1::1::1::1::1::1::1::1::1::1::1::1::1::1::1::1::1::1::1::1::1::1::1::1::1::1::1::1::1::1::1::1::1::1::1::1::1::1::1::1::1::1::1::1::1::1::1::1::1::1::1::1::1::1::1::1::1::1::1::1::1::1::1::1::1::1::1::1::1::1::1::1::1::1::1::1::1::1::1::1::1::1::1::1::1::1::1::1::1::1::1::1::1::1::1::1::1::1::1::1::1::1::1::1::1::1::1::1::1::1::1::1::1::1::1::1::1::1::1::1::1::1::1::1::1::1::1::1::1::1::1::1::1::1::1::1::1::1::1::1::1::1::1::1::1::1::1::1::1::1::1::1::1::1::1::1::1::1::1::1::1::1::1::1::1::1::1::1::1::1::1::1::1::1::1::1::1::1::1::1::1::0::[])<|sA h1<|sP [1,1]<|sT h2<|sA h3<|sP [1,1]<|sT h4<|sP [1,1]<|sA h5<|sP [1,1]<|sT h6<|sA h7<|sP [1,1]<|sT h8<|sA h9<|sP [1,1]<|sT h10<|sP [1]<|sA h11<|sP [1,1]<|sL
theorem k7t (a:LS)(b c:LP)(r:LR)(h:layW [.l TS a,.l TPt b,.l TPt c,.l TRt r]=true):t3k [.l TS a,.l TPt b,.l TPt c,.l TRt r]=some (0,[.b true]):=by
 unfold t3k lawOpP
 rw[h];rfl
theorem k8t (a:LS)(b c:LP)(r:LR)(n:Int)(h:layW [.l TS a,.l TPt b,.l TPt c,.l TRt r,.n n]=true)(h2:wfD (.int .u64) n=true):v3f [.l TS a,.l TPt b,.l TPt c,.l TRt r,.n n]=some (0,[.b true]):=by
 have hp:p8v [.l TS a,.l TPt b,.l TPt c,.l TRt r,.n n]=true:=Bool.and_eq_true_iff.2 ⟨h,h2⟩
 unfold v3f lawOpP
 rw[hp];rfl
theorem k34t (l:LM)(n:Int)(h:wfD (.int .u64) n=true):t3l [.l TMr l,.n n]=some (0,[.b true]):=by
 have hp:p34v [.l TMr l,.n n]=true:=h
 unfold t3l lawOpP
 rw[hp];rfl
def okNk (n:Int):Bool:=wfD (.int .u64) n&&(wfD (.int .u64) (ior IntKind.u64 (ishl IntKind.u64 n (1:Int)) (1099511627776:Int))&&decide (IntKind.wrap .u64 (n+1)=n+1))
theorem v3v:((List.range 32).all fun i=>okNk (i:Int))=true:=by kernel_rfl
theorem lp9i (m:Int)(a:LS)(b c:LP)(r:LR)(h:layW [.l TS a,.l TPt b,.l TPt c,.l TRt r]=true):t3g [.k 0,.n m,.n 0,.l TS a,.l TPt b,.l TPt c,.l TRt r]=some (0,[.n m]):=by
 rw[v3g]
 refine b0a (st:=t3q) (fun i=>[.k 0,.n m,.n (i:Int),.l TS a,.l TPt b,.l TPt c,.l TRt r]) 32 (0,[.n m]) (fun i hi=> ?_) ?_ FU (by unfold FU;omega)
 ·have q:=List.all_eq_true.1 v3v i (List.mem_range.2 hi)
  obtain⟨q1,q⟩:=Bool.and_eq_true_iff.1 q
  obtain⟨q2,q3⟩:=Bool.and_eq_true_iff.1 q
  have q3:=of_decide_eq_true q3
  show _=some (Step.go [.k 0,.n m,.n ((i:Int)+1),.l TS a,.l TPt b,.l TPt c,.l TRt r])
  rw[←q3]
  exact v3d (by omega) (by omega) (by omega) (k8t a b c r _ h q1) rfl (k8t a b c r _ h q2) rfl
 ·exact v3e (by omega) (by omega) (by omega)
theorem lp9k:v3t [.k 0,.n 0]=some (0,[]):=by
 rw[v3r]
 refine b0a (st:=t3j) (fun i=>[.k 0,.n (i:Int)]) 8 (0,[]) (fun i hi=> ?_) v3a FU (by unfold FU;omega)
 have:i=0∨i=1∨i=2∨i=3∨i=4∨i=5∨i=6∨i=7:=by omega
 rcases this with rfl|rfl|rfl|rfl|rfl|rfl|rfl|rfl
 ·exact v3j (k7t _ _ _ _ (by kernel_rfl)) rfl (lp9i _ _ _ _ _ (by kernel_rfl))
 ·exact u3x (k7t _ _ _ _ (by kernel_rfl)) rfl (lp9i _ _ _ _ _ (by kernel_rfl))
 ·exact v3i (k7t _ _ _ _ (by kernel_rfl)) rfl (lp9i _ _ _ _ _ (by kernel_rfl))
 ·exact u3y (k7t _ _ _ _ (by kernel_rfl)) rfl (lp9i _ _ _ _ _ (by kernel_rfl))
 ·exact u3w (k7t _ _ _ _ (by kernel_rfl)) rfl (lp9i _ _ _ _ _ (by kernel_rfl))
 ·exact u3t (k7t _ _ _ _ (by kernel_rfl)) rfl (lp9i _ _ _ _ _ (by kernel_rfl))
 ·exact v3b (k7t _ _ _ _ (by kernel_rfl)) rfl (lp9i _ _ _ _ _ (by kernel_rfl))
 ·exact u3u (k7t _ _ _ _ (by kernel_rfl)) rfl (lp9i _ _ _ _ _ (by kernel_rfl))
theorem W9_true:(ev_W9 []).sel=some true:=
 v3x lp9k (k7t _ _ _ _ (by kernel_rfl)) rfl (k34t _ _ (by kernel_rfl)) rfl (k34t _ _ (by kernel_rfl)) rfl (k34t _ _ (by kernel_rfl)) rfl (k34t _ _ (by kernel_rfl)) rfl rfl
end Go.Proofs.Ytfkcodaiiheniaa.Vx
end
