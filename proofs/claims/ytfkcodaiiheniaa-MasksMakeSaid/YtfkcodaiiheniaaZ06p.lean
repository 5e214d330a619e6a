import Derived.Test.YtfkcodaiiheniaaZ06j
import Derived.Test.YtfkcodaiiheniaaProg
import Derived.Test.YtfkcodaiiheniaaZ06m
import Derived.KernelRfl
import Derived.Test.YtfkcodaiiheniaaVxAsk
import Derived.Test.YtfkcodaiiheniaaZ06n
noncomputable section
namespace Go.Proofs.Ytfkcodaiiheniaa.Vx
open Go Go.RowKit
set_option linter.unusedVariables false
set_option linter.unusedSimpArgs false
set_option maxRecDepth 100000
set_option maxHeartbeats 0
def op_w27:List Dat→Option (Nat×List Dat):=fun _=>some (0,[.b true])
def Bw27:FBox:=(mkF [] [] [] [(.bool 0,[])] op_w27)
theorem o3e (env:List Dat)(y:Nat×List Dat)(h:op_w27 env=some y):(boxC true Try.prog cs_Q0 27 ls0 (mkF [] [] [] [(.bool 0,[])] fun _=>none) env).sel=some y:=by
 cases h
 kernel_rfl
theorem Bw27_ok:a0v Try.prog 27 (a0j Bw27):=a0p (op:=op_w27) a2u hmix true (LsOk.none _ _ _) o3e
abbrev TMr:Ty:=.pair (.int .u64) (.pair (.int .u64) (.pair (.int .u64) (.pair (.int .u32) (.pair (.int .u32) (.int .u64)))))
def zM (h:Nat):PB:=.cells [.nilsl,.nilsl,.int .u64 h,.int .u32 (h+1),.int .u64 (h+2)]
def yM (o h:Nat):PB:=.cells [.own o,.nilsl,.int .u64 h,.int .u32 (h+1),.int .u64 (h+2)]
def xM (o h:Nat):PB:=.cells [.own o,.own (o+1),.int .u64 h,.int .u32 (h+1),.int .u64 (h+2)]
def mrB (h:Nat):PB:=.cells [.int .u64 h,.int .u64 (h+1),.int .u64 (h+2),.int .u32 (h+3),.int .u32 (h+4),.int .u64 (h+5)]
def mrV (h:Nat):PV:=.agg [.int .u64 h,.int .u64 (h+1),.int .u64 (h+2),.int .u32 (h+3),.int .u32 (h+4),.int .u64 (h+5)]
def msV (h:Nat):PV:=.agg [.imm TMr h,.imm TU (h+1),.int .u64 (h+2),.int .u32 (h+3),.int .u64 (h+4)]
def msB (h:Nat):PB:=.cells [.imm TMr h,.imm TU (h+1),.int .u64 (h+2),.int .u32 (h+3),.int .u64 (h+4)]
def o3x:FuncId→Option a0q:=e1c 27 [(BSh.of Bw27).k op_w27] a1q
theorem o3w:CsOk Try.prog o3x:=csB i0t Bw27_ok
def cs_15A:FuncId→Option a0q:=a0s 14 ((BSh.of B15).k n2d) o3x
theorem m3c:CsOk Try.prog cs_15A:=csA o3w B15_ok
def cs_9A:FuncId→Option a0q:=a0s 83 ((BSh.of B9).k op_9) cs_15A
theorem o3m:CsOk Try.prog cs_9A:=csA m3c B9_ok
def cs_10A:FuncId→Option a0q:=a0s 84 ((BSh.of B10).k t1a) cs_9A
theorem n3o:CsOk Try.prog cs_10A:=csA o3m B10_ok
def m3g:FuncId→Option a0q:=a0s 17 ((BSh.of Bc17).k p1p) cs_10A
theorem l3w:CsOk Try.prog m3g:=csA n3o Bc17_ok
def n3m:LSh:={K:=0,log:=[],ins:=[(sh 13 [(0,.int .i64 0),(3,.int .u64 1),(4,.int .i64 2)],[])],nils:=[],outs:=[(.exit 0,sh 13 [(3,.int .u64 0)],[])],cv:=[]}
def i3a:List Dat→Tree Step:=evL m3g 63 3 ls0 n3m
theorem j3d: ∃op,IsL i3a 63 3 n3m op:=bxL l3w (LsOk.none _ _ _)
def l3u:OpA:=opL j3d
theorem l3e (env:List Dat):l3u env=a0b i3a FU env:=h3j j3d env
abbrev o3l:MBox:=boxL j3d
theorem k3z {n0 n1 n2:Int}(h0:(n2<n0)):(i3a [.k 0,.n n0,.n n1,.n n2]).sel=some (Step.go [.k 0,.n n0,.n (IntKind.wrap .u64 (n1*(2:Int))),.n (IntKind.wrap .i64 (n2+(1:Int)))]):=sP [1]<|sT (dt h0)<|sP [1]<|sL
theorem l3c {n0 n1 n2:Int}(h0:(¬n2<n0)):(i3a [.k 0,.n n0,.n n1,.n n2]).sel=some (Step.stop 0 [.n n1]):=sP [1]<|sF (df h0)<|sP [1]<|sL
def S_q31:BSh:={args:=[.int .i64 0],blks:=[],log:=[],outs:=[(.int .u64 0,[])]}
def t1x:List Dat→Tree (Nat×List Dat):=evF m3g 63 (lsM [(3,o3l)] 0) S_q31
theorem e_q31: ∃op,IsF t1x 63 S_q31 op:=bxF l3w (lsE (lsC (h3i j3d) (atF) lsZ))
def f1y:OpA:=opF e_q31
theorem m3t {n0 n1:Int}(h0:(l3u [.k 0,.n n0,.n (1:Int),.n (0:Int)])=(some (0,[.n n1]))):f1y [.n n0]=some ((0,[.n n1])):=h3h e_q31 (sA h0<|sP [1,1]<|sL)
def p2s:FuncId→Option a0q:=a0s 63 (S_q31.k f1y) m3g
theorem q1c:CsOk Try.prog p2s:=csL1 l3w e_q31
def S_q11:BSh:={args:=[.int .u64 0,.int .i64 1],blks:=[],log:=[],outs:=[(.bool 0,[])]}
def x1r:List Dat→Tree (Nat×List Dat):=evF p2s 33 ls0 S_q11
theorem o3c: ∃op,IsF x1r 33 S_q11 op:=bxF q1c (LsOk.none _ _ _)
def a1u:OpA:=opF o3c
theorem m3u {n0 n1 n2:Int}(h0:(n1≥(0:Int)))(h1:(n1≤(63:Int)))(h2:(f1y [.n n1])=(some (0,[.n n2])))(h3:(¬n2=(0:Int))):a1u [.n n0,.n n1]=some ((0,[.b (Int.tmod (IntKind.wrap .u64 (Int.tdiv n0 n2)) (2:Int)==(1:Int))])):=h3h o3c (sT (dt h0)<|sT (dt h1)<|sA h2<|sP [1,1]<|sT (nf (df h3))<|sP [1,1]<|sL)
theorem n3v {n0 n1:Int}(h0:(n1≥(0:Int)))(h1:(¬n1≤(63:Int))):a1u [.n n0,.n n1]=some ((0,[.b false])):=h3h o3c (sT (dt h0)<|sF (df h1)<|sP [0,1]<|sL)
theorem n3s {n0 n1:Int}(h0:(¬n1≥(0:Int))):a1u [.n n0,.n n1]=some ((0,[.b false])):=h3h o3c (sF (df h0)<|sP [0,0,0,1]<|sL)
def i2o:FuncId→Option a0q:=a0s 33 (S_q11.k a1u) p2s
theorem m1y:CsOk Try.prog i2o:=csL1 q1c o3c
def S_q12:BSh:={args:=[.int .u64 0,.int .i64 1],blks:=[],log:=[],outs:=[(.int .u64 0,[])]}
def ev_q12:List Dat→Tree (Nat×List Dat):=evF i2o 55 ls0 S_q12
theorem n3x: ∃op,IsF ev_q12 55 S_q12 op:=bxF m1y (LsOk.none _ _ _)
def h3l:OpA:=opF n3x
theorem m3h {n0 n1:Int}(h0:(n1≥(0:Int)))(h1:(¬n1<(64:Int))):h3l [.n n0,.n n1]=some ((0,[.n n0])):=h3h n3x (sP [1]<|sT (dt h0)<|sP [1]<|sT (nf (df h1))<|sP [1]<|sL)
theorem m3o {n0 n1:Int}(h0:(n1≥(0:Int)))(h1:(n1<(64:Int))):h3l [.n n0,.n n1]=some ((0,[.n (ior IntKind.u64 n0 (ishl IntKind.u64 (1:Int) n1))])):=h3h n3x (sP [1]<|sT (dt h0)<|sP [1]<|sF (nt (dt h1))<|sTs (c:=(!decide (n1<(0:Int))))<|sP [1]<|sL)
theorem m3s {n0 n1:Int}(h0:(¬n1≥(0:Int))):h3l [.n n0,.n n1]=some ((0,[.n n0])):=h3h n3x (sP [1]<|sF (df h0)<|sP [0,1,1,1]<|sL)
def m3w:FuncId→Option a0q:=a0s 55 (S_q12.k h3l) i2o
theorem j3n:CsOk Try.prog m3w:=csL1 m1y n3x
def S_q26:BSh:={args:=[.int .i64 0],blks:=[],log:=[],outs:=[(.int .u64 0,[])]}
def ev_q26:List Dat→Tree (Nat×List Dat):=evF m3w 53 ls0 S_q26
theorem m3y: ∃op,IsF ev_q26 53 S_q26 op:=bxF j3n (LsOk.none _ _ _)
def i3e:OpA:=opF m3y
theorem n3d {n0:Int}(h0:(n0≤(0:Int))):i3e [.n n0]=some ((0,[.n (0:Int)])):=h3h m3y (sT (dt h0)<|sP [1]<|sL)
theorem o3a {n0:Int}(h0:(¬n0≤(0:Int)))(h1:(n0≥(64:Int))):i3e [.n n0]=some ((0,[.n (18446744073709551615:Int)])):=h3h m3y (sF (df h0)<|sT (dt h1)<|sP [1]<|sL)
theorem m3k {n0:Int}(h0:(¬n0≤(0:Int)))(h1:(¬n0≥(64:Int))):i3e [.n n0]=some ((0,[.n (IntKind.wrap .u64 (ishl IntKind.u64 (1:Int) n0-(1:Int)))])):=h3h m3y (sF (df h0)<|sF (df h1)<|sTo (c:=(!decide (n0<(0:Int))))<|sP [1]<|sL)
def l3q:FuncId→Option a0q:=a0s 53 (S_q26.k i3e) m3w
theorem i3s:CsOk Try.prog l3q:=csL1 j3n m3y
def n3g:LSh:={K:=0,log:=[],ins:=[(sh 17 [(3,.int .u64 0),(6,.imm TI 1),(7,.int .i64 2),(8,.int .i64 3)],[])],nils:=[],outs:=[(.exit 0,sh 17 [(3,.int .u64 0)],[])],cv:=[]}
def h3y:List Dat→Tree Step:=evL l3q 92 3 ls0 n3g
theorem j3b: ∃op,IsL h3y 92 3 n3g op:=bxL i3s (LsOk.none _ _ _)
def l3v:OpA:=opL j3b
theorem k3x (env:List Dat):l3v env=a0b h3y FU env:=h3j j3b env
abbrev o3p:MBox:=boxL j3b
theorem l3a {n0:Int}{l1:List (Ty.den TI)}{n2 n3 n4:Int}(g0:0≤n3)(g1:n2=(l1.length:Int))(h0:(n3<n2))(h1:(h3l [.n n0,.n (List.getD l1 (Int.toNat n3) (0:Int))])=(some (0,[.n n4]))):(h3y [.k 0,.n n0,.l TI l1,.n n2,.n n3]).sel=some (Step.go [.k 0,.n n4,.l TI l1,.n n2,.n (IntKind.wrap .i64 (n3+(1:Int)))]):=sP [1]<|sT (dt h0)<|sTo (c:=(inR n3 (List.length l1)))<|sA h1<|sP [1,1,1]<|sL
theorem l3b {n0:Int}{l1:List (Ty.den TI)}{n2 n3:Int}(g0:0≤n3)(g1:n2=(l1.length:Int))(h0:(¬n3<n2)):(h3y [.k 0,.n n0,.l TI l1,.n n2,.n n3]).sel=some (Step.stop 0 [.n n0]):=sP [1]<|sF (df h0)<|sP [1]<|sL
def S_q17:BSh:={args:=[.imm TI 0],blks:=[],log:=[],outs:=[(.int .u64 0,[])]}
def ev_q17:List Dat→Tree (Nat×List Dat):=evF l3q 92 (lsM [(3,o3p)] 0) S_q17
theorem e_q17: ∃op,IsF ev_q17 92 S_q17 op:=bxF i3s (lsE (lsC (h3i j3b) (atF) lsZ))
def l3s:OpA:=opF e_q17
theorem n3b {l0:List (Ty.den TI)}{n1:Int}(h0:(l3v [.k 0,.n (0:Int),.l TI l0,.n (↑(List.length l0):Int),.n (0:Int)])=(some (0,[.n n1]))):l3s [.l TI l0]=some ((0,[.n n1])):=h3h e_q17 (sA h0<|sP [1,1]<|sL)
def l3h:FuncId→Option a0q:=a0s 92 (S_q17.k l3s) l3q
theorem i3r:CsOk Try.prog l3h:=csL1 i3s e_q17
def S_q10:BSh:={args:=[.int .u64 0,.int .i64 1],blks:=[],log:=[],outs:=[(.bool 0,[])]}
def ev_q10:List Dat→Tree (Nat×List Dat):=evF l3h 94 ls0 S_q10
theorem e_q10: ∃op,IsF ev_q10 94 S_q10 op:=bxF i3r (LsOk.none _ _ _)
def op_q10:OpA:=opF e_q10
def o3v:FuncId→Option a0q:=a0s 94 (S_q10.k op_q10) l3h
theorem o3u:CsOk Try.prog o3v:=csL1 i3r e_q10
def m3p:LSh:={K:=0,log:=[],ins:=[(sh 51 [(2,.int .u64 0),(3,.ptr 0 0),(4,.ptr 1 0),(6,.ptr 2 0),(7,.int .u64 1),(8,.int .u64 2),(12,.own 3),(13,.int .i64 3),(14,.int .i64 4)],[laB 5,rtB 9,mrB 15,.arr TNd 21])],nils:=[],outs:=[(.exit 0,sh 51 [(2,.int .u64 0),(3,.ptr 0 0),(4,.ptr 1 0),(6,.ptr 2 0),(7,.int .u64 1),(8,.int .u64 2)],[laB 3,rtB 7,mrB 13])],cv:=[]}
def h3o:List Dat→Tree Step:=evL o3v 54 3 ls0 m3p
theorem i3y: ∃op,IsL h3o 54 3 m3p op:=bxL o3u (LsOk.none _ _ _)
def j3g:OpA:=opL i3y
theorem k3h (env:List Dat):j3g env=a0b h3o FU env:=h3j i3y env
abbrev o3i:MBox:=boxL i3y
theorem k3y {n0 n1 n2 n3 n4:Int}{l5:List (Ty.den TS)}{l6 l7:List (Ty.den TPt)}{l8:List (Ty.den TRt)}{s9:ByteArray}{n10:Int}{l11:List (Ty.den TI)}{l12:List (Ty.den TNd)}{l13:List (Ty.den TI)}{l14:List (Ty.den TNd)}{n15 n16 n17 n18 n19 n20:Int}{l21:List (Ty.den TNd)}{n22:Int}(g0:0≤n4)(g1:n3=(l21.length:Int))(h0:(n4<n3))(h1:(Prod.snd (List.getD l21 (Int.toNat n4) (Ty.dflt TNd))=true))(h2:(h3l [.n n2,.n (Prod.fst (List.getD l21 (Int.toNat n4) (Ty.dflt TNd)))])=(some (0,[.n n22]))):(h3o [.k 0,.n n0,.n n1,.n n2,.n n3,.n n4,.l TS l5,.l TPt l6,.l TPt l7,.l TRt l8,.s s9,.n n10,.l TI l11,.l TNd l12,.l TI l13,.l TNd l14,.n n15,.n n16,.n n17,.n n18,.n n19,.n n20,.l TNd l21]).sel=some (Step.go [.k 0,.n n0,.n n1,.n n22,.n n3,.n (IntKind.wrap .i64 (n4+(1:Int))),.l TS l5,.l TPt l6,.l TPt l7,.l TRt l8,.s s9,.n n10,.l TI l11,.l TNd l12,.l TI l13,.l TNd l14,.n n15,.n n16,.n n17,.n n18,.n n19,.n n20,.l TNd l21]):=sP [1]<|sT (dt h0)<|sTo (c:=(inR n4 (List.length l21)))<|sT h1<|sA h2<|sP [1,1,1]<|sL
theorem k3q {n0 n1 n2 n3 n4:Int}{l5:List (Ty.den TS)}{l6 l7:List (Ty.den TPt)}{l8:List (Ty.den TRt)}{s9:ByteArray}{n10:Int}{l11:List (Ty.den TI)}{l12:List (Ty.den TNd)}{l13:List (Ty.den TI)}{l14:List (Ty.den TNd)}{n15 n16 n17 n18 n19 n20:Int}{l21:List (Ty.den TNd)}{n22:Int}(g0:0≤n4)(g1:n3=(l21.length:Int))(h0:(n4<n3))(h1:(Prod.snd (List.getD l21 (Int.toNat n4) (Ty.dflt TNd))=false))(h2:(h3l [.n n1,.n (Prod.fst (List.getD l21 (Int.toNat n4) (Ty.dflt TNd)))])=(some (0,[.n n22]))):(h3o [.k 0,.n n0,.n n1,.n n2,.n n3,.n n4,.l TS l5,.l TPt l6,.l TPt l7,.l TRt l8,.s s9,.n n10,.l TI l11,.l TNd l12,.l TI l13,.l TNd l14,.n n15,.n n16,.n n17,.n n18,.n n19,.n n20,.l TNd l21]).sel=some (Step.go [.k 0,.n n0,.n n22,.n n2,.n n3,.n (IntKind.wrap .i64 (n4+(1:Int))),.l TS l5,.l TPt l6,.l TPt l7,.l TRt l8,.s s9,.n n10,.l TI l11,.l TNd l12,.l TI l13,.l TNd l14,.n n15,.n n16,.n n17,.n n18,.n n19,.n n20,.l TNd l21]):=sP [1]<|sT (dt h0)<|sTo (c:=(inR n4 (List.length l21)))<|sF h1<|sA h2<|sP [1,1,1]<|sL
theorem k3w {n0 n1 n2 n3 n4:Int}{l5:List (Ty.den TS)}{l6 l7:List (Ty.den TPt)}{l8:List (Ty.den TRt)}{s9:ByteArray}{n10:Int}{l11:List (Ty.den TI)}{l12:List (Ty.den TNd)}{l13:List (Ty.den TI)}{l14:List (Ty.den TNd)}{n15 n16 n17 n18 n19 n20:Int}{l21:List (Ty.den TNd)}(g0:0≤n4)(g1:n3=(l21.length:Int))(h0:(¬n4<n3)):(h3o [.k 0,.n n0,.n n1,.n n2,.n n3,.n n4,.l TS l5,.l TPt l6,.l TPt l7,.l TRt l8,.s s9,.n n10,.l TI l11,.l TNd l12,.l TI l13,.l TNd l14,.n n15,.n n16,.n n17,.n n18,.n n19,.n n20,.l TNd l21]).sel=some (Step.stop 0 [.n n0,.n n1,.n n2,.l TS l5,.l TPt l6,.l TPt l7,.l TRt l8,.s s9,.n n10,.l TI l11,.l TNd l12,.l TI l13,.l TNd l14,.n n15,.n n16,.n n17,.n n18,.n n19,.n n20]):=sP [1]<|sF (df h0)<|sP [1]<|sL
def S_m54:BSh:={args:=[laV 0,rtV 4,.int .u64 10],blks:=[],log:=[],outs:=[(mrV 0,[])]}
def ev_m54:List Dat→Tree (Nat×List Dat):=evF o3v 54 (lsM [(3,o3i)] 0) S_m54
theorem e_m54: ∃op,IsF ev_m54 54 S_m54 op:=bxF o3u (lsE (lsC (h3i i3y) (atF) lsZ))
def l3o:OpA:=opF e_m54
theorem m3q {l0:List (Ty.den TS)}{l1 l2:List (Ty.den TPt)}{l3:List (Ty.den TRt)}{s4:ByteArray}{n5:Int}{l6:List (Ty.den TI)}{l7:List (Ty.den TNd)}{l8:List (Ty.den TI)}{l9:List (Ty.den TNd)}{n10:Int}{l11:List (Ty.den TNd)}{n12 n13 n14:Int}{l15:List (Ty.den TS)}{l16 l17:List (Ty.den TPt)}{l18:List (Ty.den TRt)}{s19:ByteArray}{n20:Int}{l21:List (Ty.den TI)}{l22:List (Ty.den TNd)}{l23:List (Ty.den TI)}{l24:List (Ty.den TNd)}{n25 n26 n27 n28 n29 n30:Int}{l31:List (Ty.den TI)}{n32 n33 n34:Int}(h0:(t1a [.s s4,.n n5,.l TI l6,.l TNd l7,.l TI l8,.l TNd l9])=(some (0,[.l TNd l11])))(h1:(j3g [.k 0,.n n10,.n (0:Int),.n (0:Int),.n (↑(List.length l11):Int),.n (0:Int),.l TS l0,.l TPt l1,.l TPt l2,.l TRt l3,.s s4,.n n5,.l TI l6,.l TNd l7,.l TI l8,.l TNd l9,.n (0:Int),.n (0:Int),.n (0:Int),.n (0:Int),.n (0:Int),.n (0:Int),.l TNd l11])=(some (0,[.n n12,.n n13,.n n14,.l TS l15,.l TPt l16,.l TPt l17,.l TRt l18,.s s19,.n n20,.l TI l21,.l TNd l22,.l TI l23,.l TNd l24,.n n25,.n n26,.n n27,.n n28,.n n29,.n n30])))(h2:(op_9 [.s s19,.n n20,.l TI l21,.l TNd l22,.l TI l23,.l TNd l24])=(some (0,[.l TI l31])))(h3:(l3s [.l TI l31])=(some (0,[.n n32])))(h4:(inR (0:Int) (List.length l21)=true))(h5:(h3l [.n (0:Int),.n (List.getD l21 0 (0:Int))])=(some (0,[.n n33])))(h6:(inR n20 (List.length l17)=true))(h7:(h3l [.n (0:Int),.n (Prod.snd (List.getD l17 (Int.toNat n20) (Ty.dflt TPt)))])=(some (0,[.n n34]))):l3o [.l TS l0,.l TPt l1,.l TPt l2,.l TRt l3,.s s4,.n n5,.l TI l6,.l TNd l7,.l TI l8,.l TNd l9,.n n10]=some ((0,[.n n32,.n n33,.n n34,.n (IntKind.wrap .u32 n13),.n (IntKind.wrap .u32 n14),.n n12])):=h3h e_m54 (sA h0<|sP [1,1]<|sA h1<|sP [1]<|sA h2<|sP [1,1]<|sA h3<|sP [1,1]<|sT h4<|sA h5<|sP [1,1]<|sT h6<|sA h7<|sP [1,1,1,1]<|sL)
def j3v:FuncId→Option a0q:=a0s 54 (S_m54.k l3o) o3v
theorem h3w:CsOk Try.prog j3v:=csL1 o3u e_m54
def cs_11A:FuncId→Option a0q:=a0s 22 ((BSh.of B11).k h1f) j3v
theorem n3i:CsOk Try.prog cs_11A:=csA h3w B11_ok
def cs_12A:FuncId→Option a0q:=a0s 23 ((BSh.of B12).k i1r) cs_11A
theorem n3p:CsOk Try.prog cs_12A:=csA n3i B12_ok
def m3r:FuncId→Option a0q:=e1c 16 [(BSh.of Bc16).k b3k] cs_12A
theorem m3b:CsOk Try.prog m3r:=csB n3p Bc16_ok
def m3i:FuncId→Option a0q:=a0s 18 ((BSh.of Bc18).k z2v) m3r
theorem l3z:CsOk Try.prog m3i:=csA m3b Bc18_ok
def j3h:FuncId→Option a0q:=a0s 19 ((BSh.of Bc19).k y2j) m3i
theorem i3c:CsOk Try.prog j3h:=csA l3z Bc19_ok
def S_q13:BSh:={args:=[.int .u64 0,.int .i64 1],blks:=[],log:=[],outs:=[(.int .u64 0,[])]}
def a2r:List Dat→Tree (Nat×List Dat):=evF j3h 75 ls0 S_q13
theorem m3a: ∃op,IsF a2r 75 S_q13 op:=bxF i3c (LsOk.none _ _ _)
def o1n:OpA:=opF m3a
theorem m3j {n0 n1:Int}(h0:(n1<(0:Int))):o1n [.n n0,.n n1]=some ((0,[.n n0])):=h3h m3a (sT (dt h0)<|sP [1,1,1,1,1]<|sL)
theorem o3f {n0 n1:Int}(h0:(¬n1<(0:Int)))(h1:(n1>(63:Int))):o1n [.n n0,.n n1]=some ((0,[.n n0])):=h3h m3a (sF (df h0)<|sT (dt h1)<|sP [1,1,1]<|sL)
theorem o3d {n0 n1:Int}{b2:Bool}(h0:(¬n1<(0:Int)))(h1:(¬n1>(63:Int)))(h2:(a1u [.n n0,.n n1])=(some (0,[.b b2])))(h3:(b2=true)):o1n [.n n0,.n n1]=some ((0,[.n n0])):=h3h m3a (sF (df h0)<|sF (df h1)<|sA h2<|sP [1,1]<|sT h3<|sP [1]<|sL)
theorem n3k {n0 n1:Int}{b2:Bool}{n3:Int}(h0:(¬n1<(0:Int)))(h1:(¬n1>(63:Int)))(h2:(a1u [.n n0,.n n1])=(some (0,[.b b2])))(h3:(b2=false))(h4:(f1y [.n n1])=(some (0,[.n n3]))):o1n [.n n0,.n n1]=some ((0,[.n (IntKind.wrap .u64 (n0+n3))])):=h3h m3a (sF (df h0)<|sF (df h1)<|sA h2<|sP [1,1]<|sF h3<|sA h4<|sP [1,1,1]<|sL)
def y1c:FuncId→Option a0q:=a0s 75 (S_q13.k o1n) j3h
theorem c1e:CsOk Try.prog y1c:=csL1 i3c m3a
def m3z:LSh:={K:=0,log:=[],ins:=[(sh 18 [(0,.int .i64 0),(3,.int .u64 1),(4,.int .i64 2)],[])],nils:=[],outs:=[(.exit 0,sh 18 [(3,.int .u64 0)],[])],cv:=[]}
def h3q:List Dat→Tree Step:=evL y1c 41 3 ls0 m3z
theorem i3z: ∃op,IsL h3q 41 3 m3z op:=bxL c1e (LsOk.none _ _ _)
def l3g:OpA:=opL i3z
theorem l3d (env:List Dat):l3g env=a0b h3q FU env:=h3j i3z env
abbrev o3r:MBox:=boxL i3z
theorem k3l {n0 n1 n2 n3:Int}(h0:(n2<n0))(h1:(n2<(64:Int)))(h2:(o1n [.n n1,.n n2])=(some (0,[.n n3]))):(h3q [.k 0,.n n0,.n n1,.n n2]).sel=some (Step.go [.k 0,.n n0,.n n3,.n (IntKind.wrap .i64 (n2+(1:Int)))]):=sP [1]<|sT (dt h0)<|sT (dt h1)<|sA h2<|sP [1,1,1]<|sL
theorem k3o {n0 n1 n2:Int}(h0:(n2<n0))(h1:(¬n2<(64:Int))):(h3q [.k 0,.n n0,.n n1,.n n2]).sel=some (Step.stop 0 [.n n1]):=sP [1]<|sT (dt h0)<|sF (df h1)<|sP [1]<|sL
theorem k3m {n0 n1 n2:Int}(h0:(¬n2<n0)):(h3q [.k 0,.n n0,.n n1,.n n2]).sel=some (Step.stop 0 [.n n1]):=sP [1]<|sF (df h0)<|sP [0,0,1]<|sL
def S_q27:BSh:={args:=[.int .i64 0],blks:=[],log:=[],outs:=[(.int .u64 0,[])]}
def y1a:List Dat→Tree (Nat×List Dat):=evF y1c 41 (lsM [(3,o3r)] 0) S_q27
theorem e_q27: ∃op,IsF y1a 41 S_q27 op:=bxF c1e (lsE (lsC (h3i i3z) (atF) lsZ))
def g1d:OpA:=opF e_q27
theorem n3c {n0 n1:Int}(h0:(l3g [.k 0,.n n0,.n (0:Int),.n (0:Int)])=(some (0,[.n n1]))):g1d [.n n0]=some ((0,[.n n1])):=h3h e_q27 (sA h0<|sP [1,1]<|sL)
def m3n:FuncId→Option a0q:=a0s 41 (S_q27.k g1d) y1c
theorem o2v:CsOk Try.prog m3n:=csL1 c1e e_q27
def o3b:LSh:={K:=0,log:=[],ins:=[(sh 18 [(0,.imm TI 0),(3,.int .u64 1),(4,.int .i64 2)],[])],nils:=[],outs:=[(.exit 0,sh 18 [(3,.int .u64 0)],[])],cv:=[]}
def h3s:List Dat→Tree Step:=evL m3n 56 3 ls0 o3b
theorem j3j: ∃op,IsL h3s 56 3 o3b op:=bxL o2v (LsOk.none _ _ _)
def l3k:OpA:=opL j3j
theorem k3s (env:List Dat):l3k env=a0b h3s FU env:=h3j j3j env
abbrev o3k:MBox:=boxL j3j
theorem k3e {l0:List (Ty.den TI)}{n1 n2 n3:Int}(g0:0≤n2)(h0:(n2<(↑(List.length l0):Int)))(h1:(o1n [.n n1,.n (List.getD l0 (Int.toNat n2) (0:Int))])=(some (0,[.n n3]))):(h3s [.k 0,.l TI l0,.n n1,.n n2]).sel=some (Step.go [.k 0,.l TI l0,.n n3,.n (IntKind.wrap .i64 (n2+(1:Int)))]):=sP [1]<|sT (dt h0)<|sTo (c:=(inR n2 (List.length l0)))<|sA h1<|sP [1,1,1]<|sL
theorem k3i {l0:List (Ty.den TI)}{n1 n2:Int}(g0:0≤n2)(h0:(¬n2<(↑(List.length l0):Int))):(h3s [.k 0,.l TI l0,.n n1,.n n2]).sel=some (Step.stop 0 [.n n1]):=sP [1]<|sF (df h0)<|sP [1]<|sL
def S_q18:BSh:={args:=[.imm TI 0],blks:=[],log:=[],outs:=[(.int .u64 0,[])]}
def ev_q18:List Dat→Tree (Nat×List Dat):=evF m3n 56 (lsM [(3,o3k)] 0) S_q18
theorem e_q18: ∃op,IsF ev_q18 56 S_q18 op:=bxF o2v (lsE (lsC (h3i j3j) (atF) lsZ))
def i3d:OpA:=opF e_q18
theorem n3y {l0:List (Ty.den TI)}{n1:Int}(h0:(l3k [.k 0,.l TI l0,.n (0:Int),.n (0:Int)])=(some (0,[.n n1]))):i3d [.l TI l0]=some ((0,[.n n1])):=h3h e_q18 (sA h0<|sP [1,1]<|sL)
def l3f:FuncId→Option a0q:=a0s 56 (S_q18.k i3d) m3n
theorem i3m:CsOk Try.prog l3f:=csL1 o2v e_q18
def m3d:LSh:={K:=0,log:=[],ins:=[(sh 31 [(0,.imm TNd 0),(1,.bool 1),(5,.own 0),(6,.int .i64 2)],[.arr TI 3])],nils:=[(5,TI)],outs:=[(.exit 0,sh 31 [(5,.own 0)],[.arr TI 0])],cv:=[]}
def h3p:List Dat→Tree Step:=evL l3f 57 3 ls0 m3d
theorem j3e: ∃op,IsL h3p 57 3 m3d op:=bxL i3m (LsOk.none _ _ _)
def l3j:OpA:=opL j3e
theorem k3u (env:List Dat):l3j env=a0b h3p FU env:=h3j j3e env
abbrev o3o:MBox:=boxL j3e
theorem k3k {l0:List (Ty.den TNd)}{b1:Bool}{n2:Int}{l3:List (Ty.den TI)}(g0:0≤n2)(h0:(n2<(↑(List.length l0):Int)))(h1:((Prod.snd (List.getD l0 (Int.toNat n2) (Ty.dflt TNd))==b1)=true))(h2:((List.length l3+1)*8≤140737488355328)):(h3p [.k 0,.l TNd l0,.b b1,.n n2,.l TI l3]).sel=some (Step.go [.k 0,.l TNd l0,.b b1,.n (IntKind.wrap .i64 (n2+(1:Int))),.l TI (l3++[Prod.fst (List.getD l0 (Int.toNat n2) (Ty.dflt TNd))])]):=sP [1]<|sT (dt h0)<|sTo (c:=(inR n2 (List.length l0)))<|sT h1<|sTo (c:=(inR n2 (List.length l0)))<|sT (dt h2)<|sP [1]<|sL
theorem k3a {l0:List (Ty.den TNd)}{b1:Bool}{n2:Int}{l3:List (Ty.den TI)}(g0:0≤n2)(h0:(n2<(↑(List.length l0):Int)))(h1:((Prod.snd (List.getD l0 (Int.toNat n2) (Ty.dflt TNd))==b1)=false)):(h3p [.k 0,.l TNd l0,.b b1,.n n2,.l TI l3]).sel=some (Step.go [.k 0,.l TNd l0,.b b1,.n (IntKind.wrap .i64 (n2+(1:Int))),.l TI l3]):=sP [1]<|sT (dt h0)<|sTo (c:=(inR n2 (List.length l0)))<|sF h1<|sP [1]<|sL
theorem k3c {l0:List (Ty.den TNd)}{b1:Bool}{n2:Int}{l3:List (Ty.den TI)}(g0:0≤n2)(h0:(¬n2<(↑(List.length l0):Int))):(h3p [.k 0,.l TNd l0,.b b1,.n n2,.l TI l3]).sel=some (Step.stop 0 [.l TI l3]):=sP [1]<|sF (df h0)<|sP [1]<|sL
def S_m57:BSh:={args:=[.imm TNd 0,.bool 1],blks:=[],log:=[],outs:=[(.int .u32 0,[])]}
def ev_m57:List Dat→Tree (Nat×List Dat):=evF l3f 57 (lsM [(3,o3o)] 0) S_m57
theorem e_m57: ∃op,IsF ev_m57 57 S_m57 op:=bxF i3m (lsE (lsC (h3i j3e) (atF) lsZ))
def j3s:OpA:=opF e_m57
theorem n3j {l0:List (Ty.den TNd)}{b1:Bool}{l2:List (Ty.den TI)}{n3:Int}(h0:(l3j [.k 0,.l TNd l0,.b b1,.n (0:Int),.l TI []])=(some (0,[.l TI l2])))(h1:(i3d [.l TI l2])=(some (0,[.n n3]))):j3s [.l TNd l0,.b b1]=some ((0,[.n (IntKind.wrap .u32 n3)])):=h3h e_m57 (sA h0<|sP [1]<|sA h1<|sP [1,1,1]<|sL)
def l3p:FuncId→Option a0q:=a0s 57 (S_m57.k j3s) l3f
theorem i3o:CsOk Try.prog l3p:=csL1 i3m e_m57
def n3r:LSh:={K:=4,log:=[],ins:=[(sh 72 [(1,.ptr 4 0),(2,.ptr 5 0),(4,.own 6),(6,.ptr 7 0),(35,.own 3),(36,.int .i64 0),(37,.int .i64 1)],[.arr TS 2,.arr TPt 3,.arr TPt 4,.arr TRt 5,.cells [.own 0,.own 1,.own 2,.own 3],zM 6,.arr TU 9,yM 8 10,.arr TMr 13])],nils:=[],outs:=[(.exit 0,sh 72 [(1,.ptr 4 0),(2,.ptr 5 0),(6,.ptr 6 0)],[.arr TS 0,.arr TPt 1,.arr TPt 2,.arr TRt 3,.cells [.own 0,.own 1,.own 2,.own 3],zM 4,yM 7 7,.arr TMr 10])],cv:=[(6,[],0,.own TMr)]}
def h3u:List Dat→Tree Step:=evL l3p 28 6 ls0 n3r
theorem i3x: ∃op,IsL h3u 28 6 n3r op:=bxL i3o (LsOk.none _ _ _)
def j3c:OpA:=opL i3x
theorem k3f (env:List Dat):j3c env=a0b h3u FU env:=h3j i3x env
abbrev o3g:MBox:=boxL i3x
theorem k3r {n0 n1:Int}{l2:List (Ty.den TS)}{l3 l4:List (Ty.den TPt)}{l5:List (Ty.den TRt)}{n6 n7 n8:Int}{l9:List (Ty.den TU)}{n10 n11 n12:Int}{l13:List (Ty.den TMr)}{n14 n15 n16 n17 n18 n19:Int}(g0:0≤n1)(g1:n0=(l5.length:Int))(g2:n0=(l9.length:Int))(h0:(n1<n0))(h1:(l3o [.l TS l2,.l TPt l3,.l TPt l4,.l TRt l5,.s (Prod.fst (List.getD l5 (Int.toNat n1) (Ty.dflt TRt))),.n (Prod.fst (Prod.snd (List.getD l5 (Int.toNat n1) (Ty.dflt TRt)))),.l TI (Prod.fst (Prod.snd (Prod.snd (List.getD l5 (Int.toNat n1) (Ty.dflt TRt))))),.l TNd (Prod.fst (Prod.snd (Prod.snd (Prod.snd (List.getD l5 (Int.toNat n1) (Ty.dflt TRt)))))),.l TI (Prod.fst (Prod.snd (Prod.snd (Prod.snd (Prod.snd (List.getD l5 (Int.toNat n1) (Ty.dflt TRt))))))),.l TNd (Prod.snd (Prod.snd (Prod.snd (Prod.snd (Prod.snd (List.getD l5 (Int.toNat n1) (Ty.dflt TRt))))))),.n (List.getD l9 (Int.toNat n1) (0:Int))])=(some (0,[.n n14,.n n15,.n n16,.n n17,.n n18,.n n19])))(h2:((List.length l13+1)*40≤140737488355328)):(h3u [.k 0,.n n0,.n n1,.l TS l2,.l TPt l3,.l TPt l4,.l TRt l5,.n n6,.n n7,.n n8,.l TU l9,.n n10,.n n11,.n n12,.l TMr l13]).sel=some (Step.go [.k 0,.n n0,.n (IntKind.wrap .i64 (n1+(1:Int))),.l TS l2,.l TPt l3,.l TPt l4,.l TRt l5,.n n6,.n n7,.n n8,.l TU l9,.n n10,.n n11,.n n12,.l TMr (apL l13 [(n14,n15,n16,n17,n18,n19)])]):=sP [1]<|sT (dt h0)<|sTo (c:=(inR n1 (List.length l5)))<|sTo (c:=(inR n1 (List.length l9)))<|sA h1<|sP [1,1]<|sT (dt h2)<|sP [1,1]<|sL
theorem k3b {n0 n1:Int}{l2:List (Ty.den TS)}{l3 l4:List (Ty.den TPt)}{l5:List (Ty.den TRt)}{n6 n7 n8:Int}{l9:List (Ty.den TU)}{n10 n11 n12:Int}{l13:List (Ty.den TMr)}(g0:0≤n1)(g1:n0=(l5.length:Int))(g2:n0=(l9.length:Int))(h0:(¬n1<n0)):(h3u [.k 0,.n n0,.n n1,.l TS l2,.l TPt l3,.l TPt l4,.l TRt l5,.n n6,.n n7,.n n8,.l TU l9,.n n10,.n n11,.n n12,.l TMr l13]).sel=some (Step.stop 0 [.l TS l2,.l TPt l3,.l TPt l4,.l TRt l5,.n n6,.n n7,.n n8,.n n10,.n n11,.n n12,.l TMr l13]):=sP [1]<|sF (df h0)<|sP [1]<|sL
def l3t:LSh:={K:=4,log:=[],ins:=[(sh 72 [(2,.ptr 4 0),(6,.ptr 5 0),(56,.own 1),(57,.int .i64 0),(58,.int .i64 1)],[.arr TS 2,.arr TPt 3,.arr TPt 4,.arr TRt 5,zM 6,xM 6 9,.arr TMr 12,.arr TU 13])],nils:=[],outs:=[(.exit 2,sh 72 [(2,.ptr 4 0),(6,.ptr 5 0)],[.gone,.gone,.gone,.gone,zM 0,xM 6 3,.arr TMr 6,.arr TU 7])],cv:=[(6,[],1,.own TU)]}
def h3n:List Dat→Tree Step:=evL l3p 28 11 ls0 l3t
theorem i3i: ∃op,IsL h3n 28 11 l3t op:=bxL i3o (LsOk.none _ _ _)
def i3n:OpA:=opL i3i
theorem j3o (env:List Dat):i3n env=a0b h3n FU env:=h3j i3i env
abbrev n3a:MBox:=boxL i3i
theorem j3l {n0 n1:Int}{l2:List (Ty.den TS)}{l3 l4:List (Ty.den TPt)}{l5:List (Ty.den TRt)}{n6 n7 n8 n9 n10 n11:Int}{l12:List (Ty.den TMr)}{l13:List (Ty.den TU)}{n14:Int}(g0:0≤n1)(g1:n0=(l3.length:Int))(h0:(n1<n0))(h1:(h3l [.n (0:Int),.n (Prod.snd (List.getD l3 (Int.toNat n1) (Ty.dflt TPt)))])=(some (0,[.n n14])))(h2:((List.length l13+1)*8≤140737488355328)):(h3n [.k 0,.n n0,.n n1,.l TS l2,.l TPt l3,.l TPt l4,.l TRt l5,.n n6,.n n7,.n n8,.n n9,.n n10,.n n11,.l TMr l12,.l TU l13]).sel=some (Step.go [.k 0,.n n0,.n (IntKind.wrap .i64 (n1+(1:Int))),.l TS l2,.l TPt l3,.l TPt l4,.l TRt l5,.n n6,.n n7,.n n8,.n n9,.n n10,.n n11,.l TMr l12,.l TU (l13++[n14])]):=sP [1]<|sT (dt h0)<|sTo (c:=(inR n1 (List.length l3)))<|sA h1<|sP [1,1]<|sT (dt h2)<|sP [1,1]<|sL
theorem j3x {n0 n1:Int}{l2:List (Ty.den TS)}{l3 l4:List (Ty.den TPt)}{l5:List (Ty.den TRt)}{n6 n7 n8 n9 n10 n11:Int}{l12:List (Ty.den TMr)}{l13:List (Ty.den TU)}(g0:0≤n1)(g1:n0=(l3.length:Int))(h0:(¬n1<n0)):(h3n [.k 0,.n n0,.n n1,.l TS l2,.l TPt l3,.l TPt l4,.l TRt l5,.n n6,.n n7,.n n8,.n n9,.n n10,.n n11,.l TMr l12,.l TU l13]).sel=some (Step.stop 0 [.n n6,.n n7,.n n8,.n n9,.n n10,.n n11,.l TMr l12,.l TU l13]):=sP [1]<|sF (df h0)<|sP [1]<|sL
def S_m28:BSh:={args:=[.agg [.own 0,.own 1,.own 2,.own 3]],blks:=[.arr TS 0,.arr TPt 1,.arr TPt 2,.arr TRt 3],log:=[],outs:=[(.tup [.agg [.own 4,.own 5,.int .u64 0,.int .u32 1,.int .u64 2],.int .i64 3],[.gone,.gone,.gone,.gone,.arr TMr 4,.arr TU 5]),(.tup [.agg [.nilsl,.nilsl,.int .u64 0,.int .u32 1,.int .u64 2],.int .i64 3],[.gone,.gone,.gone,.gone])]}
def ev_m28:List Dat→Tree (Nat×List Dat):=evF l3p 28 (lsM [(6,o3g),(11,n3a)] 4) S_m28
theorem o3t: ∃op,IsF ev_m28 28 S_m28 op:=bxF i3o (lsE (lsC (h3i i3x) (atF) (lsC (h3i i3i) (atF) lsZ)))
def i3v:OpA:=opF o3t
theorem n3e {l0:List (Ty.den TS)}{l1 l2:List (Ty.den TPt)}{l3:List (Ty.den TRt)}{n4:Int}{l5:List (Ty.den TU)}{n6 n7 n8:Int}{l9:List (Ty.den TS)}{l10 l11:List (Ty.den TPt)}{l12:List (Ty.den TRt)}{n13 n14 n15 n16 n17 n18:Int}{l19:List (Ty.den TMr)}{n20 n21 n22 n23 n24 n25:Int}{l26:List (Ty.den TMr)}{l27:List (Ty.den TU)}(h0:(p1p [.l TS l0,.l TPt l1,.l TPt l2,.l TRt l3])=(some (0,[.n n4,.l TU l5])))(h1:(n4=(0:Int)))(h2:(i3e [.n (↑(List.length l3):Int)])=(some (0,[.n n6])))(h3:(i3e [.n (↑(List.length l1):Int)])=(some (0,[.n n7])))(h4:(i3e [.n (↑(List.length l0):Int)])=(some (0,[.n n8])))(h5:(j3c [.k 0,.n (↑(List.length l3):Int),.n (0:Int),.l TS l0,.l TPt l1,.l TPt l2,.l TRt l3,.n (0:Int),.n (0:Int),.n (0:Int),.l TU l5,.n n6,.n (IntKind.wrap .u32 n7),.n n8,.l TMr []])=(some (0,[.l TS l9,.l TPt l10,.l TPt l11,.l TRt l12,.n n13,.n n14,.n n15,.n n16,.n n17,.n n18,.l TMr l19])))(h6:(i3n [.k 0,.n (↑(List.length l10):Int),.n (0:Int),.l TS l9,.l TPt l10,.l TPt l11,.l TRt l12,.n n13,.n n14,.n n15,.n n16,.n n17,.n n18,.l TMr l19,.l TU []])=(some (0,[.n n20,.n n21,.n n22,.n n23,.n n24,.n n25,.l TMr l26,.l TU l27]))):i3v [.l TS l0,.l TPt l1,.l TPt l2,.l TRt l3]=some ((0,[.n n23,.n n24,.n n25,.n (0:Int),.l TMr l26,.l TU l27])):=h3h o3t (sA h0<|sP [1,1]<|sF (bnf h1)<|sA h2<|sP [1,1]<|sA h3<|sP [1,1]<|sA h4<|sP [1,1,1]<|sA h5<|sP [1]<|sA h6<|sP [1,1]<|sL)
theorem n3t {l0:List (Ty.den TS)}{l1 l2:List (Ty.den TPt)}{l3:List (Ty.den TRt)}{n4:Int}(h0:(p1p [.l TS l0,.l TPt l1,.l TPt l2,.l TRt l3])=(some (1,[.n n4])))(h1:(¬n4=(0:Int))):i3v [.l TS l0,.l TPt l1,.l TPt l2,.l TRt l3]=some ((1,[.n (0:Int),.n (0:Int),.n (0:Int),.n n4])):=h3h o3t (sA h0<|sP [0,1,1]<|sT (bnt h1)<|sP [1]<|sL)
def j3y:FuncId→Option a0q:=e1c 28 [S_m28.k i3v] l3p
theorem h3z:CsOk Try.prog j3y:=csA1 i3o o3t
def n3q:LSh:={K:=0,log:=[],ins:=[(sh 99 [(1,.ptr 0 0),(2,.ptr 1 0),(4,.own 2),(6,.ptr 3 0),(7,.int .i64 0)],[laB 1,zM 5,.arr TU 8,yM 4 9,.arr TMr 12])],nils:=[],outs:=[(.exit 0,sh 99 [(1,.ptr 0 0),(2,.ptr 1 0),(6,.ptr 2 0)],[laB 0,zM 4,yM 3 7,.arr TMr 10])],cv:=[(6,[],0,.own TMr)]}
def h3x:List Dat→Tree Step:=evL j3y 29 6 ls0 n3q
theorem j3i: ∃op,IsL h3x 29 6 n3q op:=bxL h3z (LsOk.none _ _ _)
def j3f:OpA:=opL j3i
theorem k3j (env:List Dat):j3f env=a0b h3x FU env:=h3j j3i env
abbrev o3h:MBox:=boxL j3i
theorem k3p {n0:Int}{l1:List (Ty.den TS)}{l2 l3:List (Ty.den TPt)}{l4:List (Ty.den TRt)}{n5 n6 n7:Int}{l8:List (Ty.den TU)}{n9 n10 n11:Int}{l12:List (Ty.den TMr)}{l13:List (Ty.den TNd)}{l14:List (Ty.den TI)}{n15 n16 n17 n18 n19:Int}(g0:0≤n0)(g1:(l4.length:Int)=(l8.length:Int))(h0:(n0<(↑(List.length l4):Int)))(h1:(i1r [.s (Prod.fst (List.getD l4 (Int.toNat n0) (Ty.dflt TRt))),.n (Prod.fst (Prod.snd (List.getD l4 (Int.toNat n0) (Ty.dflt TRt)))),.l TI (Prod.fst (Prod.snd (Prod.snd (List.getD l4 (Int.toNat n0) (Ty.dflt TRt))))),.l TNd (Prod.fst (Prod.snd (Prod.snd (Prod.snd (List.getD l4 (Int.toNat n0) (Ty.dflt TRt)))))),.l TI (Prod.fst (Prod.snd (Prod.snd (Prod.snd (Prod.snd (List.getD l4 (Int.toNat n0) (Ty.dflt TRt))))))),.l TNd (Prod.snd (Prod.snd (Prod.snd (Prod.snd (Prod.snd (List.getD l4 (Int.toNat n0) (Ty.dflt TRt)))))))])=(some (0,[.l TNd l13])))(h2:(h1f [.s (Prod.fst (List.getD l4 (Int.toNat n0) (Ty.dflt TRt))),.n (Prod.fst (Prod.snd (List.getD l4 (Int.toNat n0) (Ty.dflt TRt)))),.l TI (Prod.fst (Prod.snd (Prod.snd (List.getD l4 (Int.toNat n0) (Ty.dflt TRt))))),.l TNd (Prod.fst (Prod.snd (Prod.snd (Prod.snd (List.getD l4 (Int.toNat n0) (Ty.dflt TRt)))))),.l TI (Prod.fst (Prod.snd (Prod.snd (Prod.snd (Prod.snd (List.getD l4 (Int.toNat n0) (Ty.dflt TRt))))))),.l TNd (Prod.snd (Prod.snd (Prod.snd (Prod.snd (Prod.snd (List.getD l4 (Int.toNat n0) (Ty.dflt TRt)))))))])=(some (0,[.l TI l14])))(h3:(i3d [.l TI l14])=(some (0,[.n n15])))(h4:((true&&decide ((1:Int)≤(↑(List.length (Prod.fst (Prod.snd (Prod.snd (List.getD l4 (Int.toNat n0) (Ty.dflt TRt)))))):Int)))=true))(h5:(i3d [.l TI (List.take 1 (Prod.fst (Prod.snd (Prod.snd (List.getD l4 (Int.toNat n0) (Ty.dflt TRt))))))])=(some (0,[.n n16])))(h6:(inR (Prod.fst (Prod.snd (List.getD l4 (Int.toNat n0) (Ty.dflt TRt)))) (List.length l3)=true))(h7:(i3d [.l TI [Prod.snd (List.getD l3 (Int.toNat (Prod.fst (Prod.snd (List.getD l4 (Int.toNat n0) (Ty.dflt TRt))))) (Ty.dflt TPt))]])=(some (0,[.n n17])))(h8:(j3s [.l TNd l13,.b false])=(some (0,[.n n18])))(h9:(j3s [.l TNd l13,.b true])=(some (0,[.n n19])))(h10:((List.length l12+1)*40≤140737488355328)):(h3x [.k 0,.n n0,.l TS l1,.l TPt l2,.l TPt l3,.l TRt l4,.n n5,.n n6,.n n7,.l TU l8,.n n9,.n n10,.n n11,.l TMr l12]).sel=some (Step.go [.k 0,.n (IntKind.wrap .i64 (n0+(1:Int))),.l TS l1,.l TPt l2,.l TPt l3,.l TRt l4,.n n5,.n n6,.n n7,.l TU l8,.n n9,.n n10,.n n11,.l TMr (apL l12 [(n15,n16,n17,n18,n19,List.getD l8 (Int.toNat n0) (0:Int))])]):=sP [1]<|sT (dt h0)<|sTo (c:=(inR n0 (List.length l4)))<|sA h1<|sP [1,1]<|sA h2<|sP [1,1]<|sA h3<|sP [1,1]<|sT h4<|sP [1]<|sA h5<|sP [1,1]<|sT h6<|sA h7<|sP [1,1]<|sA h8<|sP [1,1]<|sA h9<|sP [1,1]<|sTo (c:=(inR n0 (List.length l8)))<|sT (dt h10)<|sP [1,1]<|sL
theorem k3d {n0:Int}{l1:List (Ty.den TS)}{l2 l3:List (Ty.den TPt)}{l4:List (Ty.den TRt)}{n5 n6 n7:Int}{l8:List (Ty.den TU)}{n9 n10 n11:Int}{l12:List (Ty.den TMr)}(g0:0≤n0)(g1:(l4.length:Int)=(l8.length:Int))(h0:(¬n0<(↑(List.length l4):Int))):(h3x [.k 0,.n n0,.l TS l1,.l TPt l2,.l TPt l3,.l TRt l4,.n n5,.n n6,.n n7,.l TU l8,.n n9,.n n10,.n n11,.l TMr l12]).sel=some (Step.stop 0 [.l TS l1,.l TPt l2,.l TPt l3,.l TRt l4,.n n5,.n n6,.n n7,.n n9,.n n10,.n n11,.l TMr l12]):=sP [1]<|sF (df h0)<|sP [1]<|sL
def l3m:LSh:={K:=0,log:=[],ins:=[(sh 99 [(1,.ptr 0 0),(2,.ptr 1 0),(6,.ptr 2 0),(10,.int .i64 0)],[laB 1,zM 5,xM 3 8,.arr TMr 11,.arr TU 12])],nils:=[],outs:=[(.exit 2,sh 99 [(2,.ptr 0 0),(6,.ptr 1 0)],[zM 0,xM 2 3,.arr TMr 6,.arr TU 7])],cv:=[(6,[],1,.own TU)]}
def h3k:List Dat→Tree Step:=evL j3y 29 12 ls0 l3m
theorem i3g: ∃op,IsL h3k 29 12 l3m op:=bxL h3z (LsOk.none _ _ _)
def i3p:OpA:=opL i3g
theorem j3r (env:List Dat):i3p env=a0b h3k FU env:=h3j i3g env
abbrev m3x:MBox:=boxL i3g
theorem j3m {n0:Int}{l1:List (Ty.den TS)}{l2 l3:List (Ty.den TPt)}{l4:List (Ty.den TRt)}{n5 n6 n7 n8 n9 n10:Int}{l11:List (Ty.den TMr)}{l12:List (Ty.den TU)}{n13:Int}(g0:0≤n0)(h0:(n0<(↑(List.length l2):Int)))(h1:(i3d [.l TI [Prod.snd (List.getD l2 (Int.toNat n0) (Ty.dflt TPt))]])=(some (0,[.n n13])))(h2:((List.length l12+1)*8≤140737488355328)):(h3k [.k 0,.n n0,.l TS l1,.l TPt l2,.l TPt l3,.l TRt l4,.n n5,.n n6,.n n7,.n n8,.n n9,.n n10,.l TMr l11,.l TU l12]).sel=some (Step.go [.k 0,.n (IntKind.wrap .i64 (n0+(1:Int))),.l TS l1,.l TPt l2,.l TPt l3,.l TRt l4,.n n5,.n n6,.n n7,.n n8,.n n9,.n n10,.l TMr l11,.l TU (l12++[n13])]):=sP [1]<|sT (dt h0)<|sTo (c:=(inR n0 (List.length l2)))<|sA h1<|sP [1,1]<|sT (dt h2)<|sP [1,1]<|sL
theorem j3p {n0:Int}{l1:List (Ty.den TS)}{l2 l3:List (Ty.den TPt)}{l4:List (Ty.den TRt)}{n5 n6 n7 n8 n9 n10:Int}{l11:List (Ty.den TMr)}{l12:List (Ty.den TU)}(g0:0≤n0)(h0:(¬n0<(↑(List.length l2):Int))):(h3k [.k 0,.n n0,.l TS l1,.l TPt l2,.l TPt l3,.l TRt l4,.n n5,.n n6,.n n7,.n n8,.n n9,.n n10,.l TMr l11,.l TU l12]).sel=some (Step.stop 0 [.n n5,.n n6,.n n7,.n n8,.n n9,.n n10,.l TMr l11,.l TU l12]):=sP [1]<|sF (df h0)<|sP [1]<|sL
def S_m29:BSh:={args:=[laV 0],blks:=[],log:=[],outs:=[(.tup [.agg [.own 0,.own 1,.int .u64 0,.int .u32 1,.int .u64 2],.int .i64 3],[.arr TMr 4,.arr TU 5]),(.tup [.agg [.nilsl,.nilsl,.int .u64 0,.int .u32 1,.int .u64 2],.int .i64 3],[])]}
def ev_m29:List Dat→Tree (Nat×List Dat):=evF j3y 29 (lsM [(6,o3h),(12,m3x)] 0) S_m29
theorem o3j: ∃op,IsF ev_m29 29 S_m29 op:=bxF h3z (lsE (lsC (h3i j3i) (atF) (lsC (h3i i3g) (atF) lsZ)))
def i3w:OpA:=opF o3j
theorem n3h {l0:List (Ty.den TS)}{l1 l2:List (Ty.den TPt)}{l3:List (Ty.den TRt)}{n4:Int}{l5:List (Ty.den TU)}{n6 n7 n8:Int}{l9:List (Ty.den TS)}{l10 l11:List (Ty.den TPt)}{l12:List (Ty.den TRt)}{n13 n14 n15 n16 n17 n18:Int}{l19:List (Ty.den TMr)}{n20 n21 n22 n23 n24 n25:Int}{l26:List (Ty.den TMr)}{l27:List (Ty.den TU)}(h0:(z2v [.l TS l0,.l TPt l1,.l TPt l2,.l TRt l3])=(some (0,[.n n4,.l TU l5])))(h1:(n4=(0:Int)))(h2:(g1d [.n (↑(List.length l3):Int)])=(some (0,[.n n6])))(h3:(g1d [.n (↑(List.length l1):Int)])=(some (0,[.n n7])))(h4:(g1d [.n (↑(List.length l0):Int)])=(some (0,[.n n8])))(h5:(j3f [.k 0,.n (0:Int),.l TS l0,.l TPt l1,.l TPt l2,.l TRt l3,.n (0:Int),.n (0:Int),.n (0:Int),.l TU l5,.n n6,.n (IntKind.wrap .u32 n7),.n n8,.l TMr []])=(some (0,[.l TS l9,.l TPt l10,.l TPt l11,.l TRt l12,.n n13,.n n14,.n n15,.n n16,.n n17,.n n18,.l TMr l19])))(h6:(i3p [.k 0,.n (0:Int),.l TS l9,.l TPt l10,.l TPt l11,.l TRt l12,.n n13,.n n14,.n n15,.n n16,.n n17,.n n18,.l TMr l19,.l TU []])=(some (0,[.n n20,.n n21,.n n22,.n n23,.n n24,.n n25,.l TMr l26,.l TU l27]))):i3w [.l TS l0,.l TPt l1,.l TPt l2,.l TRt l3]=some ((0,[.n n23,.n n24,.n n25,.n (0:Int),.l TMr l26,.l TU l27])):=h3h o3j (sA h0<|sP [1,1]<|sF (bnf h1)<|sA h2<|sP [1,1]<|sA h3<|sP [1,1]<|sA h4<|sP [1,1,1]<|sA h5<|sP [1]<|sA h6<|sP [1,1]<|sL)
theorem n3u {l0:List (Ty.den TS)}{l1 l2:List (Ty.den TPt)}{l3:List (Ty.den TRt)}{n4:Int}(h0:(z2v [.l TS l0,.l TPt l1,.l TPt l2,.l TRt l3])=(some (1,[.n n4])))(h1:(¬n4=(0:Int))):i3w [.l TS l0,.l TPt l1,.l TPt l2,.l TRt l3]=some ((1,[.n (0:Int),.n (0:Int),.n (0:Int),.n n4])):=h3h o3j (sA h0<|sP [0,1,1]<|sT (bnt h1)<|sP [1]<|sL)
def j3u:FuncId→Option a0q:=e1c 29 [S_m29.k i3w] j3y
theorem i3b:CsOk Try.prog j3u:=csA1 h3z o3j
def n3z:LSh:={K:=0,log:=[],ins:=[(sh 121 [(2,.ptr 0 0),(3,.ptr 1 0),(5,.int .i64 0)],[msB 1,msB 6])],nils:=[],outs:=[(.exit 0,sh 121 [(2,.ptr 0 0),(3,.ptr 1 0)],[msB 0,msB 5]),(.ret,sh 121 [(4,.bool 0)],[])],cv:=[]}
def h3v:List Dat→Tree Step:=evL j3u 30 4 ls0 n3z
theorem j3a: ∃op,IsL h3v 30 4 n3z op:=bxL i3b (LsOk.none _ _ _)
def l3l:OpA:=opL j3a
theorem k3g (env:List Dat):l3l env=a0b h3v FU env:=h3j j3a env
abbrev o3n:MBox:=boxL j3a
theorem k3v {n0:Int}{l1:List (Ty.den TMr)}{l2:List (Ty.den TU)}{n3 n4 n5:Int}(g0:0≤n0)(h0:(n0<(↑(List.length l1):Int))):(h3v [.k 0,.n n0,.l TMr l1,.l TU l2,.n n3,.n n4,.n n5,.l TMr l1,.l TU l2,.n n3,.n n4,.n n5]).sel=some (Step.go [.k 0,.n (IntKind.wrap .i64 (n0+(1:Int))),.l TMr l1,.l TU l2,.n n3,.n n4,.n n5,.l TMr l1,.l TU l2,.n n3,.n n4,.n n5]):=sP [1]<|sT (dt h0)<|sTo (c:=(inR n0 (List.length l1)))<|sTo (c:=(inR n0 (List.length l1)))<|sP [1]<|sF (bnf (a:=(Prod.fst (List.getD l1 (Int.toNat n0) (Ty.dflt TMr)))) rfl)<|sF (bnf (a:=(Prod.fst (Prod.snd (List.getD l1 (Int.toNat n0) (Ty.dflt TMr))))) rfl)<|sF (bnf (a:=(Prod.fst (Prod.snd (Prod.snd (List.getD l1 (Int.toNat n0) (Ty.dflt TMr)))))) rfl)<|sF (bnf (a:=(Prod.fst (Prod.snd (Prod.snd (Prod.snd (List.getD l1 (Int.toNat n0) (Ty.dflt TMr))))))) rfl)<|sF (bnf (a:=(Prod.fst (Prod.snd (Prod.snd (Prod.snd (Prod.snd (List.getD l1 (Int.toNat n0) (Ty.dflt TMr)))))))) rfl)<|sF (bnf (a:=(Prod.snd (Prod.snd (Prod.snd (Prod.snd (Prod.snd (List.getD l1 (Int.toNat n0) (Ty.dflt TMr)))))))) rfl)<|sP [1]<|sL
theorem k3t {n0:Int}{l1:List (Ty.den TMr)}{l2:List (Ty.den TU)}{n3 n4 n5:Int}(g0:0≤n0)(h0:(¬n0<(↑(List.length l1):Int))):(h3v [.k 0,.n n0,.l TMr l1,.l TU l2,.n n3,.n n4,.n n5,.l TMr l1,.l TU l2,.n n3,.n n4,.n n5]).sel=some (Step.stop 0 [.l TMr l1,.l TU l2,.n n3,.n n4,.n n5,.l TMr l1,.l TU l2,.n n3,.n n4,.n n5]):=sP [1]<|sF (df h0)<|sP [1]<|sL
def l3n:LSh:={K:=0,log:=[],ins:=[(sh 121 [(2,.ptr 0 0),(3,.ptr 1 0),(8,.int .i64 0)],[msB 1,msB 6])],nils:=[],outs:=[(.exit 2,sh 121 [],[]),(.ret,sh 121 [(4,.bool 0)],[])],cv:=[]}
def h3m:List Dat→Tree Step:=evL j3u 30 10 ls0 l3n
theorem i3f: ∃op,IsL h3m 30 10 l3n op:=bxL i3b (LsOk.none _ _ _)
def j3k:OpA:=opL i3f
theorem j3z (env:List Dat):j3k env=a0b h3m FU env:=h3j i3f env
abbrev m3l:MBox:=boxL i3f
theorem j3w {n0:Int}{l1:List (Ty.den TMr)}{l2:List (Ty.den TU)}{n3 n4 n5:Int}(g0:0≤n0)(h0:(n0<(↑(List.length l2):Int))):(h3m [.k 0,.n n0,.l TMr l1,.l TU l2,.n n3,.n n4,.n n5,.l TMr l1,.l TU l2,.n n3,.n n4,.n n5]).sel=some (Step.go [.k 0,.n (IntKind.wrap .i64 (n0+(1:Int))),.l TMr l1,.l TU l2,.n n3,.n n4,.n n5,.l TMr l1,.l TU l2,.n n3,.n n4,.n n5]):=sP [1]<|sT (dt h0)<|sTo (c:=(inR n0 (List.length l2)))<|sTo (c:=(inR n0 (List.length l2)))<|sP [1]<|sF (bnf (a:=(List.getD l2 (Int.toNat n0) (0:Int))) rfl)<|sP [1]<|sL
theorem j3t {n0:Int}{l1:List (Ty.den TMr)}{l2:List (Ty.den TU)}{n3 n4 n5:Int}(g0:0≤n0)(h0:(¬n0<(↑(List.length l2):Int))):(h3m [.k 0,.n n0,.l TMr l1,.l TU l2,.n n3,.n n4,.n n5,.l TMr l1,.l TU l2,.n n3,.n n4,.n n5]).sel=some (Step.stop 0 []):=sP [1]<|sF (df h0)<|sP [1]<|sL
def S_m30:BSh:={args:=[msV 0,msV 5],blks:=[],log:=[],outs:=[(.bool 0,[])]}
def ev_m30:List Dat→Tree (Nat×List Dat):=evF j3u 30 (lsM [(4,o3n),(10,m3l)] 0) S_m30
theorem e_m30: ∃op,IsF ev_m30 30 S_m30 op:=bxF i3b (lsE (lsC (h3i j3a) (atF) (lsC (h3i i3f) (atF) lsZ)))
def j3q:OpA:=opF e_m30
theorem n3w {l0:List (Ty.den TMr)}{l1:List (Ty.den TU)}{n2 n3 n4:Int}{l5:List (Ty.den TMr)}{l6:List (Ty.den TU)}{n7 n8 n9:Int}{l10:List (Ty.den TMr)}{l11:List (Ty.den TU)}{n12 n13 n14:Int}(h0:(l3l [.k 0,.n (0:Int),.l TMr l0,.l TU l1,.n n2,.n n3,.n n4,.l TMr l0,.l TU l1,.n n2,.n n3,.n n4])=(some (0,[.l TMr l5,.l TU l6,.n n7,.n n8,.n n9,.l TMr l10,.l TU l11,.n n12,.n n13,.n n14])))(h1:(j3k [.k 0,.n (0:Int),.l TMr l5,.l TU l6,.n n7,.n n8,.n n9,.l TMr l10,.l TU l11,.n n12,.n n13,.n n14])=(some (0,[]))):j3q [.l TMr l0,.l TU l1,.n n2,.n n3,.n n4,.l TMr l0,.l TU l1,.n n2,.n n3,.n n4]=some ((0,[.b true])):=h3h e_m30 (sF (bnf (a:=((↑(List.length l0):Int))) rfl)<|sF (bnf (a:=((↑(List.length l1):Int))) rfl)<|sF (bnf (a:=(n2)) rfl)<|sF (bnf (a:=(n3)) rfl)<|sF (bnf (a:=(n4)) rfl)<|sA h0<|sP [1]<|sA h1<|sP [1,1]<|sL)
def cs_m30:FuncId→Option a0q:=a0s 30 (S_m30.k j3q) j3u
theorem m3v:CsOk Try.prog cs_m30:=csL1 i3b e_m30
def n3n:List Dat→Tree Bool:=evW cs_m30 7 ls0 [laV 0]
theorem W7_law (env:List Dat)(h:(n3n env).sel=some true){w:World}{aa:Array Value}(ha:LRel R0 (b0k w) (instL [laV 0] env) aa):
  Calls Try.prog 7 aa w fun e w'=>e=.returned (.bool true)∧Below w.heap.size w w':=evW_law m3v (LsOk.none _ _ _) env h ha
theorem o3s {l0:List (Ty.den TS)}{l1 l2:List (Ty.den TPt)}{l3:List (Ty.den TRt)}{n4:Int}{b5:Bool}(h0:(n2d [.l TS l0,.l TPt l1,.l TPt l2,.l TRt l3,.n (1000:Int)])=(some (0,[.n n4])))(h1:(n4>(1000:Int)))(h2:(op_w27 [])=(some (0,[.b b5]))):(n3n [.l TS l0,.l TPt l1,.l TPt l2,.l TRt l3]).sel=some (b5):=sA h0<|sP [1,1]<|sT (dt h1)<|sP [1]<|sA h2<|sP [1,1]<|sL
theorem o3q {l0:List (Ty.den TS)}{l1 l2:List (Ty.den TPt)}{l3:List (Ty.den TRt)}{n4:Int}{l5:List (Ty.den TS)}{l6 l7:List (Ty.den TPt)}{l8:List (Ty.den TRt)}{n9 n10 n11 n12:Int}{l13:List (Ty.den TMr)}{l14:List (Ty.den TU)}{n15 n16 n17 n18:Int}{l19:List (Ty.den TMr)}{l20:List (Ty.den TU)}{b21 b22 b23:Bool}(h0:(n2d [.l TS l0,.l TPt l1,.l TPt l2,.l TRt l3,.n (1000:Int)])=(some (0,[.n n4])))(h1:(¬n4>(1000:Int)))(h2:(b3k [.l TS l0,.l TPt l1,.l TPt l2,.l TRt l3])=(some (0,[.l TS l5,.l TPt l6,.l TPt l7,.l TRt l8])))(h3:(i3v [.l TS l5,.l TPt l6,.l TPt l7,.l TRt l8])=(some (0,[.n n9,.n n10,.n n11,.n n12,.l TMr l13,.l TU l14])))(h4:(i3w [.l TS l0,.l TPt l1,.l TPt l2,.l TRt l3])=(some (0,[.n n15,.n n16,.n n17,.n n18,.l TMr l19,.l TU l20])))(h5:(n12=n18))(h6:(j3q [.l TMr l13,.l TU l14,.n n9,.n n10,.n n11,.l TMr l19,.l TU l20,.n n15,.n n16,.n n17])=(some (0,[.b b21])))(h7:(b21=true))(h8:(y2j [.l TS l5,.l TPt l6,.l TPt l7,.l TRt l8,.l TS l0,.l TPt l1,.l TPt l2,.l TRt l3])=(some (0,[.b b22])))(h9:(b22=true))(h10:(op_w27 [])=(some (0,[.b b23]))):(n3n [.l TS l0,.l TPt l1,.l TPt l2,.l TRt l3]).sel=some (b23):=sA h0<|sP [1,1]<|sF (df h1)<|sP [1]<|sA h2<|sP [1,1,1]<|sA h3<|sP [1,1,1]<|sA h4<|sP [1,1]<|sT (bt h5)<|sA h6<|sP [1,1]<|sT h7<|sA h8<|sP [1,1]<|sT h9<|sP [1]<|sA h10<|sP [1,1]<|sL
theorem n3l {l0:List (Ty.den TS)}{l1 l2:List (Ty.den TPt)}{l3:List (Ty.den TRt)}{n4:Int}{l5:List (Ty.den TS)}{l6 l7:List (Ty.den TPt)}{l8:List (Ty.den TRt)}{n9 n10 n11 n12 n13 n14 n15 n16:Int}{b17 b18 b19:Bool}(h0:(n2d [.l TS l0,.l TPt l1,.l TPt l2,.l TRt l3,.n (1000:Int)])=(some (0,[.n n4])))(h1:(¬n4>(1000:Int)))(h2:(b3k [.l TS l0,.l TPt l1,.l TPt l2,.l TRt l3])=(some (0,[.l TS l5,.l TPt l6,.l TPt l7,.l TRt l8])))(h3:(i3v [.l TS l5,.l TPt l6,.l TPt l7,.l TRt l8])=(some (1,[.n n9,.n n10,.n n11,.n n12])))(h4:(i3w [.l TS l0,.l TPt l1,.l TPt l2,.l TRt l3])=(some (1,[.n n13,.n n14,.n n15,.n n16])))(h5:(n12=n16))(h6:(j3q [.l TMr [],.l TU [],.n n9,.n n10,.n n11,.l TMr [],.l TU [],.n n13,.n n14,.n n15])=(some (0,[.b b17])))(h7:(b17=true))(h8:(y2j [.l TS l5,.l TPt l6,.l TPt l7,.l TRt l8,.l TS l0,.l TPt l1,.l TPt l2,.l TRt l3])=(some (0,[.b b18])))(h9:(b18=true))(h10:(op_w27 [])=(some (0,[.b b19]))):(n3n [.l TS l0,.l TPt l1,.l TPt l2,.l TRt l3]).sel=some (b19):=sA h0<|sP [1,1]<|sF (df h1)<|sP [1]<|sA h2<|sP [1,1,1]<|sA h3<|sP [0,1,1,1]<|sA h4<|sP [0,1,1]<|sT (bt h5)<|sA h6<|sP [1,1]<|sT h7<|sA h8<|sP [1,1]<|sT h9<|sP [1]<|sA h10<|sP [1,1]<|sL
def p2 (k:Nat):B64:=1#64<<<k
def inN (n:Int):Bool:=decide (0≤n)&&decide (n<64)
def hasB (X:B64)(n:Int):Bool:=inN n&&X.getLsbD n.toNat
def s1o (X:B64)(n:Int):B64:=bif inN n then X|||p2 n.toNat else X
theorem h2g (k i:Nat):(p2 k).getLsbD i=(decide (i<64)&&decide (i=k)):=by
 unfold p2
 rw[BitVec.getLsbD_shiftLeft]
 by_cases h:i=k
 ·subst h;simp
 ·by_cases h2:i<k
  ·simp[h,h2]
  ·have:i-k≠0:=by omega
   simp[h,h2,this]
theorem j2e {k:Nat}(h:k<64):(p2 k).toNat=2^k:=by
 unfold p2
 rw[BitVec.toNat_shiftLeft,Nat.shiftLeft_eq]
 have:2^k<2^64:=Nat.pow_lt_pow_right (by omega) h
 rw[show(1#64).toNat=1 from rfl,Nat.one_mul,Nat.mod_eq_of_lt this]
theorem getN (X:B64)(k:Nat):X.getLsbD k=decide (X.toNat/2^k%2=1):=by
 rw[←BitVec.testBit_toNat,Nat.testBit_eq_decide_div_mod_eq]
theorem r2c {X:B64}{k:Nat}(hk:k<64)(h:X.getLsbD k=false):X+p2 k=X|||p2 k:=by
 apply BitVec.add_eq_or_of_and_eq_zero
 apply BitVec.eq_of_getLsbD_eq
 intro i hi
 rw[BitVec.getLsbD_and,h2g]
 by_cases e:i=k
 ·subst e;simp[h]
 ·simp[e]
theorem N_add (X Y:B64):IntKind.wrap .u64 (N X+N Y)=N (X+Y):=by
 rw[k2v]
 refine congrArg N ?_
 apply BitVec.eq_of_toNat_eq
 rw[BitVec.toNat_ofInt,BitVec.toNat_add]
 unfold N
 omega
theorem w64x {x:Int}(h0: -9223372036854775808≤x)(h1:x<9223372036854775808):IntKind.wrap .i64 x=x:=by unfold IntKind.wrap;simp[IntKind.bits,IntKind.signed];omega
theorem wu64' {x:Int}(h0:0≤x)(h1:x<18446744073709551616):IntKind.wrap .u64 x=x:=by unfold IntKind.wrap;simp[IntKind.bits,IntKind.signed];omega
theorem q_pw (k:Nat)(hk:k<64):f1y [.n (k:Int)]=some (0,[.n (N (p2 k))]):=by
 refine m3t ?_
 rw[l3e]
 refine b0a (st:=i3a) (fun i=>[.k 0,.n (k:Int),.n (N (p2 i)),.n (i:Int)]) k (0,[.n (N (p2 k))]) (fun i hi=> ?_) ?_ FU (b1w (by omega))
 ·have h:=k3z (n0:=k) (n1:=N (p2 i)) (n2:=i) (by omega)
  have e1:IntKind.wrap .u64 (N (p2 i)*(2:Int))=N (p2 (i+1)):=by
   unfold N
   rw[j2e (by omega),j2e (by omega),Nat.pow_succ]
   have:2^(i+1)≤2^63:=Nat.pow_le_pow_right (by omega) (by omega)
   rw[Nat.pow_succ]at this
   rw[wu64' (by omega) (by omega)];omega
  rw[e1,w64x (by omega) (by omega)]at h
  exact h
 ·exact l3c (by omega)
theorem q_e11 (X:B64)(n:Int):a1u [.n (N X),.n n]=some (0,[.b (hasB X n)]):=by
 unfold hasB inN
 by_cases h0:0≤n
 ·by_cases h1:n<64
  ·obtain⟨k,rfl⟩: ∃k:Nat,n=k:=⟨n.toNat,by omega⟩
   have hp:N (p2 k)=((2^k:Nat):Int):=by unfold N;rw[j2e (by omega)]
   have hpos:0<2^k:=Nat.pow_pos (by omega)
   have hne:((2^k:Nat):Int)≠0:=by have:=Nat.pos_iff_ne_zero.1 hpos;exact_mod_cast this
   rw[m3u h0 (by omega) (q_pw k (by omega)) (by rw[hp];exact hne),hp]
   have e1:Int.tdiv (N X) ((2^k:Nat):Int)=((X.toNat/2^k:Nat):Int):=by unfold N;rfl
   have hlt:X.toNat/2^k<2^64:=Nat.lt_of_le_of_lt (Nat.div_le_self _ _) X.isLt
   rw[e1,wu64' (Int.natCast_nonneg _) (Int.ofNat_lt.2 (Nat.lt_of_lt_of_le hlt (by decide)))]
   have e2:Int.tmod ((X.toNat/2^k:Nat):Int) 2=((X.toNat/2^k%2:Nat):Int):=rfl
   rw[e2,getN]
   simp only[Option.some.injEq,Prod.mk.injEq,List.cons.injEq,and_true,true_and,Dat.b.injEq]
   rw[show decide (0≤(k:Int))=true by simp,show decide ((k:Int)<64)=true by simpa using h1,Bool.true_and,Bool.true_and,Bool.eq_iff_iff,beq_iff_eq,decide_eq_true_eq]
   simp only[Int.toNat_natCast]
   omega
  ·rw[n3v h0 (by omega),decide_eq_false h1];simp
 ·rw[n3s h0,decide_eq_false h0];simp
theorem i3h {X:B64}{n:Int}(h:inN n=false):s1o X n=X:=by unfold s1o;rw[h];rfl
def firB (k:Nat):B64:=BitVec.ofNat 64 (2^k-1)
theorem t2j {k:Nat}(h:k≤64):(firB k).toNat=2^k-1:=by
 unfold firB
 rw[BitVec.toNat_ofNat]
 have:2^k≤2^64:=Nat.pow_le_pow_right (by omega) h
 exact Nat.mod_eq_of_lt (by omega)
theorem y0i {k:Nat}(h:k≤64)(i:Nat):(firB k).getLsbD i=decide (i<k):=by
 rw[←BitVec.testBit_toNat,t2j h,Nat.testBit_two_pow_sub_one]
theorem j2a {k:Nat}(h:k<64):s1o (firB k) (k:Int)=firB (k+1):=by
 unfold s1o
 have:inN (k:Int)=true:=by simp[inN];omega
 rw[this,cond_true,Int.toNat_natCast]
 apply BitVec.eq_of_getLsbD_eq
 intro i hi
 rw[BitVec.getLsbD_or,h2g,y0i (by omega),y0i (by omega)]
 by_cases e:i=k
 ·subst e;simp[hi]
 ·have:decide (i<k)=decide (i<k+1):=by rw[Bool.eq_iff_iff];simp;omega
  simp[e,this]
theorem ishl1 (k:Nat):ishl IntKind.u64 (1:Int) (k:Int)=N (p2 k):=ishlB k
theorem l3y (X:B64)(n:Int):h3l [.n (N X),.n n]=some (0,[.n (N (s1o X n))]):=by
 by_cases h0:0≤n
 ·by_cases h1:n<64
  ·obtain⟨k,rfl⟩: ∃k:Nat,n=k:=⟨n.toNat,by omega⟩
   rw[m3o h0 (by omega),ishl1,ior_u64]
   have:inN (k:Int)=true:=by simp[inN];omega
   unfold s1o;rw[this];rfl
  ·rw[m3h h0 (by omega),i3h (by simp[inN,h1])]
 ·rw[m3s (by omega),i3h (by simp[inN,h0])]
theorem firN (n:Int):N (firB (min n.toNat 64))=if n≤0 then 0 else if n≥64 then 18446744073709551615 else 2^n.toNat-1:=by
 unfold N
 rw[t2j (by omega)]
 by_cases h0:n≤0
 ·rw[if_pos h0,show min n.toNat 64=0 by omega];rfl
 ·rw[if_neg h0]
  by_cases h1:n≥64
  ·rw[if_pos h1,show min n.toNat 64=64 by omega];rfl
  ·rw[if_neg h1,show min n.toNat 64=n.toNat by omega]
   have:0<2^n.toNat:=Nat.pow_pos (by omega)
   simp[Int.natCast_sub this]
theorem q_e26 (n:Int):i3e [.n n]=some (0,[.n (N (firB (min n.toNat 64)))]):=by
 rw[firN]
 by_cases h0:n≤0
 ·rw[if_pos h0];exact n3d h0
 ·rw[if_neg h0]
  by_cases h1:n≥64
  ·rw[if_pos h1];exact o3a h0 h1
  ·rw[if_neg h1,m3k h0 h1]
   obtain⟨k,rfl⟩: ∃k:Nat,n=k:=⟨n.toNat,by omega⟩
   have hp:N (p2 k)=((2^k:Nat):Int):=by unfold N;rw[j2e (by omega)]
   have hlt:2^k<2^64:=Nat.pow_lt_pow_right (by omega) (by omega)
   have hpos:0<2^k:=Nat.pow_pos (by omega)
   rw[ishl1,hp,wu64' (by omega) (by omega)]
   simp
def ofL (l:List Int):B64:=l.foldl s1o 0#64
theorem l3r (l:List Int){i:Nat}(hi:i<l.length):ofL (l.take (i+1))=s1o (ofL (l.take i)) (l.getD i 0):=by
 unfold ofL
 rw[List.take_add_one,List.getElem?_eq_getElem hi,List.foldl_append]
 simp[List.getD_eq_getElem?_getD,List.getElem?_eq_getElem hi]
theorem q_e17 (l:List Int)(hl:l.length≤9223372036854775807):l3s [.l TI l]=some (0,[.n (N (ofL l))]):=by
 refine n3b ?_
 rw[k3x]
 refine b0a (st:=h3y) (fun i=>[.k 0,.n (N (ofL (l.take i))),.l TI l,.n (l.length:Int),.n (i:Int)]) l.length (0,[.n (N (ofL l))]) (fun i hi=> ?_) ?_ FU (b1w hl)
 ·have h:=l3a (n3:=i) (n2:=l.length) (l1:=l) (by omega) rfl (by omega) (l3y (ofL (l.take i)) _)
  rw[w64x (by omega) (by omega)]at h
  rw[show(Int.toNat (i:Int))=i from rfl,show s1o (ofL (l.take i)) (l.getD i 0)=_ from(l3r l hi).symm]at h
  exact h
 ·have h:=l3b (n0:=N (ofL (l.take l.length))) (n3:=l.length) (n2:=l.length) (l1:=l) (by omega) rfl (by omega)
  rw[List.take_length]at h⊢;exact h
theorem q_e13 (X:B64)(n:Int):o1n [.n (N X),.n n]=some (0,[.n (N (s1o X n))]):=by
 by_cases h0:0≤n
 ·by_cases h1:n<64
  ·have hi:inN n=true:=by simp[inN,h0,h1]
   have hq:=q_e11 X n
   cases hb:hasB X n with
   |true=>
    rw[hb]at hq
    rw[o3d (by omega) (by omega) hq rfl]
    have hg:X.getLsbD n.toNat=true:=by unfold hasB at hb;rw[hi]at hb;simpa using hb
    have:X|||p2 n.toNat=X:=by
     apply BitVec.eq_of_getLsbD_eq
     intro i hlt
     rw[BitVec.getLsbD_or,h2g]
     by_cases e:i=n.toNat
     ·subst e;simp[hg]
     ·simp[e]
    simp only[s1o,hi,cond_true,this]
   |false=>
    rw[hb]at hq
    have hg:X.getLsbD n.toNat=false:=by unfold hasB at hb;rw[hi]at hb;simpa using hb
    obtain⟨k,rfl⟩: ∃k:Nat,n=k:=⟨n.toNat,by omega⟩
    rw[n3k (by omega) (by omega) hq rfl (q_pw k (by omega))]
    rw[Int.toNat_natCast]at hg
    rw[N_add,r2c (by omega) hg]
    simp only[s1o,hi,cond_true,Int.toNat_natCast]
  ·rw[o3f (by omega) (by omega),i3h (by simp[inN,h1])]
 ·rw[m3j (by omega),i3h (by simp[inN,h0])]
theorem q_e27 (n:Int):g1d [.n n]=some (0,[.n (N (firB (min n.toNat 64)))]):=by
 refine n3c ?_
 rw[l3d]
 refine b0a (st:=h3q) (fun i=>[.k 0,.n n,.n (N (firB i)),.n (i:Int)]) (min n.toNat 64) (0,[.n (N (firB (min n.toNat 64)))]) (fun i hi=> ?_) ?_ FU (b1w (by omega))
 ·have h:=k3l (n0:=n) (n2:=i) (by omega) (by omega) (q_e13 (firB i) i)
  rw[w64x (by omega) (by omega),j2a (by omega)]at h
  exact h
 ·by_cases h:((min n.toNat 64:Nat):Int)<n
  ·exact k3o h (by omega)
  ·exact k3m h
theorem m3m (l:List Int)(hl:l.length≤9223372036854775807):i3d [.l TI l]=some (0,[.n (N (ofL l))]):=by
 refine n3y ?_
 rw[k3s]
 refine b0a (st:=h3s) (fun i=>[.k 0,.l TI l,.n (N (ofL (l.take i))),.n (i:Int)]) l.length (0,[.n (N (ofL l))]) (fun i hi=> ?_) ?_ FU (b1w hl)
 ·have h:=k3e (n2:=i) (l0:=l) (by omega) (Int.ofNat_lt.2 hi) (q_e13 (ofL (l.take i)) _)
  rw[w64x (by omega) (by omega)]at h
  rw[show(Int.toNat (i:Int))=i from rfl,show s1o (ofL (l.take i)) (l.getD i 0)=_ from(l3r l hi).symm]at h
  exact h
 ·have h:=k3i (n1:=N (ofL (l.take l.length))) (n2:=l.length) (l0:=l) (by omega) (Int.lt_irrefl (l.length:Int))
  rw[List.take_length]at h⊢;exact h
def ptsR (z:Bool)(l:LN):List Int:=(l.filter fun d=>g2 d==z).map f1
theorem i3j (z:Bool)(l:LN){i:Nat}(hi:i<l.length):ptsR z (l.take (i+1))=if(g2 (l.getD i (Ty.dflt TNd))==z)=true then ptsR z (l.take i)++[f1 (l.getD i (Ty.dflt TNd))]else ptsR z (l.take i):=by
 unfold ptsR
 rw[List.take_add_one,List.getElem?_eq_getElem hi,List.getD_eq_getElem?_getD,List.getElem?_eq_getElem hi]
 simp only[Option.toList,Option.getD_some,List.filter_append,List.map_append,List.filter_cons,List.filter_nil]
 split<;>simp
theorem l3i (z:Bool)(l:LN):(ptsR z l).length≤l.length:=by
 unfold ptsR;rw[List.length_map];exact List.length_filter_le _ _
theorem m3f (l:List Int)(x:Int):ofL (l++[x])=s1o (ofL l) x:=by unfold ofL;rw[List.foldl_append];rfl
def p0 (e:Rt):Int:=(eP e).getD 0 0
def mrow (c:LP)(e:Rt)(t:Int):Ty.den TMr:=(N (ofL (trk e)),N (s1o 0#64 (p0 e)),N (s1o 0#64 (ptS c (eN e))),IntKind.wrap .u32 (N (ofL (ptsR false (ndsE e)))),IntKind.wrap .u32 (N (ofL (ptsR true (ndsE e)))),t)
theorem lp54m (a:LS)(b c:LP)(r:LR)(s:ByteArray)(n:Int)(p:LI)(q:LN)(o:LI)(f:LN)(t x1 x2 x3 x4 x5 x6:Int)(l:LN)(hl:l.length≤1000):
  j3g [.k 0,.n t,.n 0,.n 0,.n (l.length:Int),.n 0,.l TS a,.l TPt b,.l TPt c,.l TRt r,.s s,.n n,.l TI p,.l TNd q,.l TI o,.l TNd f,.n x1,.n x2,.n x3,.n x4,.n x5,.n x6,.l TNd l]=
   some (0,[.n t,.n (N (ofL (ptsR false l))),.n (N (ofL (ptsR true l))),.l TS a,.l TPt b,.l TPt c,.l TRt r,.s s,.n n,.l TI p,.l TNd q,.l TI o,.l TNd f,.n x1,.n x2,.n x3,.n x4,.n x5,.n x6]):=by
 rw[k3h]
 refine b0a (st:=h3o) (fun i=>[.k 0,.n t,.n (N (ofL (ptsR false (l.take i)))),.n (N (ofL (ptsR true (l.take i)))),.n (l.length:Int),.n (i:Int),.l TS a,.l TPt b,.l TPt c,.l TRt r,.s s,.n n,.l TI p,.l TNd q,.l TI o,.l TNd f,.n x1,.n x2,.n x3,.n x4,.n x5,.n x6,.l TNd l]) l.length (0,[.n t,.n (N (ofL (ptsR false l))),.n (N (ofL (ptsR true l))),.l TS a,.l TPt b,.l TPt c,.l TRt r,.s s,.n n,.l TI p,.l TNd q,.l TI o,.l TNd f,.n x1,.n x2,.n x3,.n x4,.n x5,.n x6]) (fun i hi=> ?_) ?_ FU (b1w (by omega))
 ·show _=some (Step.go [.k 0,.n t,.n (N (ofL (ptsR false (l.take (i+1))))),.n (N (ofL (ptsR true (l.take (i+1))))),.n (l.length:Int),.n ((i+1:Nat):Int),.l TS a,.l TPt b,.l TPt c,.l TRt r,.s s,.n n,.l TI p,.l TNd q,.l TI o,.l TNd f,.n x1,.n x2,.n x3,.n x4,.n x5,.n x6,.l TNd l])
  rw[i3j false l hi,i3j true l hi,←w1n i (by omega)]
  cases h:g2 (l.getD i (Ty.dflt TNd))with
  |true=>
   rw[if_neg (by simp),if_pos (by simp),m3f]
   exact k3y (by omega) rfl (by omega) h (l3y _ _)
  |false=>
   rw[if_pos (by simp),if_neg (by simp),m3f]
   exact k3q (by omega) rfl (by omega) h (l3y _ _)
 ·show _=some (Step.stop 0 [.n t,.n (N (ofL (ptsR false l))),.n (N (ofL (ptsR true l))),.l TS a,.l TPt b,.l TPt c,.l TRt r,.s s,.n n,.l TI p,.l TNd q,.l TI o,.l TNd f,.n x1,.n x2,.n x3,.n x4,.n x5,.n x6])
  rw[←congrArg (ptsR false) (List.take_length (l:=l)),←congrArg (ptsR true) (List.take_length (l:=l))]
  exact k3w (by omega) rfl (by omega)
theorem o54m (a:LS)(b c:LP)(r:LR)(e:Rt)(t:Int)(hk:rtOk b c e)(hw:wfE b c e=true):
  l3o [.l TS a,.l TPt b,.l TPt c,.l TRt r,.s (eS e),.n (eN e),.l TI (eP e),.l TNd (eQ e),.l TI (eO e),.l TNd (eF e),.n t]=some (0,[.n (mrow c e t).1,.n (mrow c e t).2.1,.n (mrow c e t).2.2.1,.n (mrow c e t).2.2.2.1,.n (mrow c e t).2.2.2.2.1,.n (mrow c e t).2.2.2.2.2]):=by
 obtain⟨⟨k1,k2⟩,⟨l1,l2,l3,l4⟩,k3,k4⟩:=hk
 have hp:0<(eP e).length:=by
  unfold wfE wfR at hw
  exact of_decide_eq_true (Bool.and_eq_true_iff.1 hw).1
 have hn:(ndsE e).length≤1000:=by unfold ndsE;rw[show List.append (eQ e) (eF e)=eQ e++eF e from rfl,List.length_append];omega
 have ht:(trk e).length≤9223372036854775807:=by unfold trk;rw[List.length_append];omega
 exact m3q (o10 _ _ _ _ _ _ l1 l2 l3 l4) (lp54m a b c r _ _ _ _ _ _ t 0 0 0 0 0 0 (ndsE e) hn) (o9 _ _ _ _ _ _ l1 l2 l3 l4) (q_e17 (trk e) ht) (h1s (i:=0) (n:=(eP e).length) (by omega) (by omega)) (l3y 0#64 (p0 e)) (h1s k1 k2) (l3y 0#64 (ptS c (eN e)))
def h3t (c:LP)(r:LR)(T:List Int)(k:Nat):List (Ty.den TMr):=(List.range k).map fun i=>mrow c (r.getD i (Ty.dflt TRt)) (T.getD i 0)
theorem i3k (c:LP)(r:LR)(T:List Int)(k:Nat):(h3t c r T k).length=k:=by unfold h3t;rw[List.length_map,List.length_range]
theorem i3t (c:LP)(r:LR)(T:List Int)(k:Nat):h3t c r T (k+1)=apL (h3t c r T k) [mrow c (r.getD k (Ty.dflt TRt)) (T.getD k 0)]:=by unfold h3t;rw[List.range_succ,List.map_append];rfl
def h3r (b:LP)(k:Nat):List Int:=(List.range k).map fun i=>N (s1o 0#64 (Prod.snd (b.getD i (Ty.dflt TPt))))
theorem i3q (b:LP)(k:Nat):(h3r b k).length=k:=by unfold h3r;rw[List.length_map,List.length_range]
theorem i3u (b:LP)(k:Nat):h3r b (k+1)=h3r b k++[N (s1o 0#64 (Prod.snd (b.getD k (Ty.dflt TPt))))]:=by unfold h3r;rw[List.range_succ,List.map_append];rfl
abbrev allR (b c:LP)(r:LR):Prop:= ∀i,i<r.length→rtOk b c (r.getD i (Ty.dflt TRt))∧wfE b c (r.getD i (Ty.dflt TRt))=true
def mkA (a:LS)(b c:LP)(r:LR):Nat×List Dat:=if(ckA a b c r).1=0 then(0,[.n (N (firB (min r.length 64))),.n (IntKind.wrap .u32 (N (firB (min b.length 64)))),.n (N (firB (min a.length 64))),.n 0,.l TMr (h3t c r (NL (tabB b r)) r.length),.l TU (h3r b b.length)])else(1,[.n 0,.n 0,.n 0,.n (ckA a b c r).1])
theorem m3e (b:LP)(r:LR):(NL (tabB b r)).length=r.length:=by rw[u1l];exact o0n ..
theorem n3f {a:LS}{b c:LP}{r:LR}(h:(ckA a b c r).1=0):b.length≤32∧r.length≤64∧allR b c r:=by
 obtain⟨hm,hw⟩:=(ck_ok a b c r).1 h
 obtain⟨h1,h2,h3⟩:=l0q hm
 exact⟨h1,h2,fun i hi=>⟨h3 i hi,hw _ (h0f hi)⟩⟩
theorem o57m (l:LN)(z:Bool)(hl:l.length≤1000):j3s [.l TNd l,.b z]=some (0,[.n (IntKind.wrap .u32 (N (ofL (ptsR z l))))]):=by
 have hp:=l3i z l
 refine n3j (l2:=ptsR z l) ?_ (m3m _ (by omega))
 rw[k3u]
 refine b0a (st:=h3p) (fun i=>[.k 0,.l TNd l,.b z,.n (i:Int),.l TI (ptsR z (l.take i))]) l.length (0,[.l TI (ptsR z l)]) (fun i hi=> ?_) ?_ FU (b1w (by omega))
 ·show _=some (Step.go [.k 0,.l TNd l,.b z,.n ((i+1:Nat):Int),.l TI (ptsR z (l.take (i+1)))])
  rw[i3j z l hi,←w1n i (by omega)]
  cases h:(g2 (l.getD i (Ty.dflt TNd))==z)with
  |true=>
   have hq:=l3i z (l.take i)
   rw[List.length_take]at hq
   have hq':(ptsR z (l.take i)).length≤1000:=by omega
   have z1:(List.length (α:=Int) (ptsR z (l.take i))+1)*8≤140737488355328:=by omega
   exact k3k (by omega) (by omega) h z1
  |false=>exact k3a (by omega) (by omega) h
 ·have h:=k3c (l0:=l) (b1:=z) (n2:=(l.length:Int)) (l3:=ptsR z (l.take l.length)) (by omega) (by omega)
  rw[List.take_length]at h⊢;exact h
theorem lq28_6 (a:LS)(b c:LP)(r:LR)(T:List Int)(y1 y2 y3 z1 z2 z3:Int)(hr:r.length≤64)(hT:T.length=r.length)(hk:allR b c r):
  j3c [.k 0,.n (r.length:Int),.n 0,.l TS a,.l TPt b,.l TPt c,.l TRt r,.n y1,.n y2,.n y3,.l TU T,.n z1,.n z2,.n z3,.l TMr []]=some (0,[.l TS a,.l TPt b,.l TPt c,.l TRt r,.n y1,.n y2,.n y3,.n z1,.n z2,.n z3,.l TMr (h3t c r T r.length)]):=by
 rw[k3f]
 refine b0a (st:=h3u) (fun i=>[.k 0,.n (r.length:Int),.n (i:Int),.l TS a,.l TPt b,.l TPt c,.l TRt r,.n y1,.n y2,.n y3,.l TU T,.n z1,.n z2,.n z3,.l TMr (h3t c r T i)]) r.length (0,[.l TS a,.l TPt b,.l TPt c,.l TRt r,.n y1,.n y2,.n y3,.n z1,.n z2,.n z3,.l TMr (h3t c r T r.length)]) (fun i hi=> ?_) ?_ FU (b1w (by omega))
 ·show _=some (Step.go [.k 0,.n (r.length:Int),.n ((i+1:Nat):Int),.l TS a,.l TPt b,.l TPt c,.l TRt r,.n y1,.n y2,.n y3,.l TU T,.n z1,.n z2,.n z3,.l TMr (h3t c r T (i+1))])
  rw[i3t,←w1n i (by omega)]
  have hl:=i3k c r T i
  exact k3r (by omega) rfl (congrArg Int.ofNat hT.symm) (by omega) (o54m a b c r _ (T.getD i 0) (hk i hi).1 (hk i hi).2) (by omega)
 ·exact k3b (by omega) rfl (congrArg Int.ofNat hT.symm) (by omega)
theorem lq28_11 (a:LS)(b c:LP)(r:LR)(M:List (Ty.den TMr))(y1 y2 y3 z1 z2 z3:Int)(hb:b.length≤32):
  i3n [.k 0,.n (b.length:Int),.n 0,.l TS a,.l TPt b,.l TPt c,.l TRt r,.n y1,.n y2,.n y3,.n z1,.n z2,.n z3,.l TMr M,.l TU []]=some (0,[.n y1,.n y2,.n y3,.n z1,.n z2,.n z3,.l TMr M,.l TU (h3r b b.length)]):=by
 rw[j3o]
 refine b0a (st:=h3n) (fun i=>[.k 0,.n (b.length:Int),.n (i:Int),.l TS a,.l TPt b,.l TPt c,.l TRt r,.n y1,.n y2,.n y3,.n z1,.n z2,.n z3,.l TMr M,.l TU (h3r b i)]) b.length (0,[.n y1,.n y2,.n y3,.n z1,.n z2,.n z3,.l TMr M,.l TU (h3r b b.length)]) (fun i hi=> ?_) ?_ FU (b1w (by omega))
 ·show _=some (Step.go [.k 0,.n (b.length:Int),.n ((i+1:Nat):Int),.l TS a,.l TPt b,.l TPt c,.l TRt r,.n y1,.n y2,.n y3,.n z1,.n z2,.n z3,.l TMr M,.l TU (h3r b (i+1))])
  rw[i3u,←w1n i (by omega)]
  have hl:=i3q b i
  exact j3l (by omega) rfl (by omega) (l3y 0#64 _) (show(List.length (α:=Int) (h3r b i)+1)*8≤140737488355328 by omega)
 ·exact j3x (by omega) rfl (by omega)
theorem lq29_12 (a:LS)(b c:LP)(r:LR)(M:List (Ty.den TMr))(y1 y2 y3 z1 z2 z3:Int)(hb:b.length≤32):
  i3p [.k 0,.n 0,.l TS a,.l TPt b,.l TPt c,.l TRt r,.n y1,.n y2,.n y3,.n z1,.n z2,.n z3,.l TMr M,.l TU []]=some (0,[.n y1,.n y2,.n y3,.n z1,.n z2,.n z3,.l TMr M,.l TU (h3r b b.length)]):=by
 rw[j3r]
 refine b0a (st:=h3k) (fun i=>[.k 0,.n (i:Int),.l TS a,.l TPt b,.l TPt c,.l TRt r,.n y1,.n y2,.n y3,.n z1,.n z2,.n z3,.l TMr M,.l TU (h3r b i)]) b.length (0,[.n y1,.n y2,.n y3,.n z1,.n z2,.n z3,.l TMr M,.l TU (h3r b b.length)]) (fun i hi=> ?_) ?_ FU (b1w (by omega))
 ·show _=some (Step.go [.k 0,.n ((i+1:Nat):Int),.l TS a,.l TPt b,.l TPt c,.l TRt r,.n y1,.n y2,.n y3,.n z1,.n z2,.n z3,.l TMr M,.l TU (h3r b (i+1))])
  rw[i3u,←w1n i (by omega)]
  have hl:=i3q b i
  exact j3m (by omega) (by omega) (m3m [_] (by show 1≤9223372036854775807;omega)) (show(List.length (α:=Int) (h3r b i)+1)*8≤140737488355328 by omega)
 ·exact j3p (by omega) (by omega)
theorem lq29_6 (a:LS)(b c:LP)(r:LR)(T:List Int)(y1 y2 y3 z1 z2 z3:Int)(hr:r.length≤64)(hT:T.length=r.length)(hk:allR b c r):
  j3f [.k 0,.n 0,.l TS a,.l TPt b,.l TPt c,.l TRt r,.n y1,.n y2,.n y3,.l TU T,.n z1,.n z2,.n z3,.l TMr []]=some (0,[.l TS a,.l TPt b,.l TPt c,.l TRt r,.n y1,.n y2,.n y3,.n z1,.n z2,.n z3,.l TMr (h3t c r T r.length)]):=by
 rw[k3j]
 refine b0a (st:=h3x) (fun i=>[.k 0,.n (i:Int),.l TS a,.l TPt b,.l TPt c,.l TRt r,.n y1,.n y2,.n y3,.l TU T,.n z1,.n z2,.n z3,.l TMr (h3t c r T i)]) r.length (0,[.l TS a,.l TPt b,.l TPt c,.l TRt r,.n y1,.n y2,.n y3,.n z1,.n z2,.n z3,.l TMr (h3t c r T r.length)]) (fun i hi=> ?_) ?_ FU (b1w (by omega))
 ·show _=some (Step.go [.k 0,.n ((i+1:Nat):Int),.l TS a,.l TPt b,.l TPt c,.l TRt r,.n y1,.n y2,.n y3,.l TU T,.n z1,.n z2,.n z3,.l TMr (h3t c r T (i+1))])
  rw[i3t,←w1n i (by omega)]
  have hl:=i3k c r T i
  obtain⟨⟨⟨k1,k2⟩,⟨l1,l2,l3,l4⟩,k3,k4⟩,hw⟩:=hk i hi
  have hp:0<(eP (r.getD i (Ty.dflt TRt))).length:=by
   unfold wfE wfR at hw
   exact of_decide_eq_true (Bool.and_eq_true_iff.1 hw).1
  have hn:(ndsE (r.getD i (Ty.dflt TRt))).length≤1000:=by unfold ndsE;rw[show∀x y:LN,List.append x y=x++y from fun _ _=>rfl,List.length_append];omega
  have ht:(trk (r.getD i (Ty.dflt TRt))).length≤9223372036854775807:=by unfold trk;rw[List.length_append];omega
  have h1:ofL (List.take 1 (eP (r.getD i (Ty.dflt TRt))))=s1o 0#64 (p0 (r.getD i (Ty.dflt TRt))):=by
   unfold p0
   cases e:eP (r.getD i (Ty.dflt TRt))with
   |nil=>rw[e]at hp;simp at hp
   |cons x xs=>rfl
  have e18:=m3m (List.take 1 (eP (r.getD i (Ty.dflt TRt)))) (by rw[List.length_take];omega)
  rw[h1]at e18
  exact k3p (by omega) (congrArg Int.ofNat hT.symm) (by omega) (o12 _ _ _ _ _ _ l1 l2 l3 l4) (o11 _ _ _ _ _ _ l1 l2 l3 l4) (m3m (trk (r.getD i (Ty.dflt TRt))) ht) (dt (show(1:Int)≤((eP (r.getD i (Ty.dflt TRt))).length:Int) by omega)) e18 (h1s k1 k2) (m3m [_] (by show 1≤9223372036854775807;omega)) (o57m _ false hn) (o57m _ true hn) (by omega)
 ·exact k3d (by omega) (congrArg Int.ofNat hT.symm) (by omega)
theorem o28m (a:LS)(b c:LP)(r:LR)(hs:okS a b c r):i3v [.l TS a,.l TPt b,.l TPt c,.l TRt r]=some (mkA a b c r):=by
 have e:=o17c a b c r hs
 unfold mkA
 by_cases h:(ckA a b c r).1=0
 ·rw[if_pos h]at e⊢
  obtain⟨h1,h2,h3⟩:=n3f h
  have f6:=lq28_6 a b c r (NL (tabB b r)) 0 0 0 (N (firB (min r.length 64))) (IntKind.wrap .u32 (N (firB (min b.length 64)))) (N (firB (min a.length 64))) h2 (m3e b r) h3
  exact n3e e rfl (q_e26 _) (q_e26 _) (q_e26 _) f6 (lq28_11 a b c r _ 0 0 0 _ _ _ h1)
 ·rw[if_neg h]at e⊢
  exact n3t e h
theorem o29m (a:LS)(b c:LP)(r:LR)(hs:okS a b c r):i3w [.l TS a,.l TPt b,.l TPt c,.l TRt r]=some (mkA a b c r):=by
 have e:=o18c a b c r hs
 unfold mkA
 by_cases h:(ckA a b c r).1=0
 ·rw[if_pos h]at e⊢
  obtain⟨h1,h2,h3⟩:=n3f h
  have f6:=lq29_6 a b c r (NL (tabB b r)) 0 0 0 (N (firB (min r.length 64))) (IntKind.wrap .u32 (N (firB (min b.length 64)))) (N (firB (min a.length 64))) h2 (m3e b r) h3
  exact n3h e rfl (q_e27 _) (q_e27 _) (q_e27 _) f6 (lq29_12 a b c r _ 0 0 0 _ _ _ h1)
 ·rw[if_neg h]at e⊢
  exact n3u e h
theorem o30m (M:List (Ty.den TMr))(u:List Int)(x y z:Int)(h1:M.length≤1000)(h2:u.length≤1000):j3q [.l TMr M,.l TU u,.n x,.n y,.n z,.l TMr M,.l TU u,.n x,.n y,.n z]=some (0,[.b true]):=by
 refine n3w (l5:=M) (l6:=u) (n7:=x) (n8:=y) (n9:=z) (l10:=M) (l11:=u) (n12:=x) (n13:=y) (n14:=z) ?_ ?_
 ·rw[k3g]
  refine b0a (st:=h3v) (fun i=>[.k 0,.n (i:Int),.l TMr M,.l TU u,.n x,.n y,.n z,.l TMr M,.l TU u,.n x,.n y,.n z]) M.length (0,[.l TMr M,.l TU u,.n x,.n y,.n z,.l TMr M,.l TU u,.n x,.n y,.n z]) (fun i hi=> ?_) ?_ FU (b1w (by omega))
  ·show _=some (Step.go [.k 0,.n ((i+1:Nat):Int),.l TMr M,.l TU u,.n x,.n y,.n z,.l TMr M,.l TU u,.n x,.n y,.n z])
   rw[←w1n i (by omega)]
   exact k3v (by omega) (by omega)
  ·exact k3t (by omega) (by omega)
 ·rw[j3z]
  refine b0a (st:=h3m) (fun i=>[.k 0,.n (i:Int),.l TMr M,.l TU u,.n x,.n y,.n z,.l TMr M,.l TU u,.n x,.n y,.n z]) u.length (0,[]) (fun i hi=> ?_) ?_ FU (b1w (by omega))
  ·show _=some (Step.go [.k 0,.n ((i+1:Nat):Int),.l TMr M,.l TU u,.n x,.n y,.n z,.l TMr M,.l TU u,.n x,.n y,.n z])
   rw[←w1n i (by omega)]
   exact j3w (by omega) (Int.ofNat_lt.2 hi)
  ·exact j3t (by omega) (Int.lt_irrefl (u.length:Int))
theorem W7_true (a:LS)(b c:LP)(r:LR)(hs:okS a b c r)(hz:szA a b c r):(n3n [.l TS a,.l TPt b,.l TPt c,.l TRt r]).sel=some true:=by
 obtain⟨z,e1,hw⟩:=o15w a b c r hs hz
 by_cases h:z>1000
 ·exact o3s e1 h rfl
 obtain⟨la,lb,lc,lr,hr⟩:=hw (by omega)
 have la0:List.length (α:=ByteArray) a≤1000:=Int.ofNat_le.1 la
 have la':List.length (α:=ByteArray) a≤100000:=by omega
 have e2:=o16c a b c r la' (by omega) (by omega) (by omega) hr
 have e3:=o28m a b c r hs
 have e4:=o29m a b c r hs
 have e5:=o19s a b c r la' (by omega) (by omega) (by omega) hr
 unfold mkA at e3 e4
 by_cases hc:(ckA a b c r).1=0
 ·rw[if_pos hc]at e3 e4
  obtain⟨h1,h2,h3⟩:=n3f hc
  have k1:=i3k c r (NL (tabB b r)) r.length
  have k2:=i3q b b.length
  exact o3q e1 h e2 e3 e4 rfl (o30m _ _ _ _ _ (by omega) (by omega)) rfl e5 rfl rfl
 ·rw[if_neg hc]at e3 e4
  exact n3l e1 h e2 e3 e4 rfl (o30m [] [] 0 0 0 (by simp) (by simp)) rfl e5 rfl rfl
end Go.Proofs.Ytfkcodaiiheniaa.Vx
end
