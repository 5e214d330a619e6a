import Derived.Test.YtcbhgaeiokfcdaaVxAsk
import Derived.Test.YtcbhgaeiokfcdaaZ06p
import Derived.KernelRfl
noncomputable section
namespace Go.Proofs.Ytcbhgaeiokfcdaa.Vx
open Go Go.RowKit
set_option linter.unusedVariables false
set_option linter.unusedSimpArgs false
set_option maxRecDepth 100000
set_option maxHeartbeats 0
def ucB (h:Nat):PB:=.cells [.int .u64 h]
def S_b15:BSh:={args:=[laV 0],blks:=[],log:=[],outs:=[(.tup [.ptr 0 0,.int .i64 0],[msB 1]),(.tup [.nilptr,.int .i64 0],[])]}
def ev_b15:List Dat→Tree (Nat×List Dat):=evFV [(none,0,.imm TMr),(none,1,.imm TU)] p2i 18 ls0 S_b15
theorem m3h: ∃op,IsF ev_b15 18 S_b15 op:=bxFV q1j (LsOk.none _ _ _)
def h1c:OpA:=opF m3h
theorem r2r {l0:List (Ty.den TS)}{l1 l2:List (Ty.den TPt)}{l3:List (Ty.den TRt)}{n4 n5 n6 n7:Int}{l8:List (Ty.den TMr)}{l9:List (Ty.den TU)}(h0:(w0j [.l TS l0,.l TPt l1,.l TPt l2,.l TRt l3])=(some (0,[.n n4,.n n5,.n n6,.n n7,.l TMr l8,.l TU l9])))(h1:(n7=(0:Int))):h1c [.l TS l0,.l TPt l1,.l TPt l2,.l TRt l3]=some ((0,[.n (0:Int),.l TMr l8,.l TU l9,.n n4,.n n5,.n n6])):=a0g m3h (sP [1]<|sA h0<|sP [1,1]<|sF (bnf h1)<|sP [1]<|sL)
theorem t2o {l0:List (Ty.den TS)}{l1 l2:List (Ty.den TPt)}{l3:List (Ty.den TRt)}{n4 n5 n6 n7:Int}(h0:(w0j [.l TS l0,.l TPt l1,.l TPt l2,.l TRt l3])=(some (1,[.n n4,.n n5,.n n6,.n n7])))(h1:(¬n7=(0:Int))):h1c [.l TS l0,.l TPt l1,.l TPt l2,.l TRt l3]=some ((1,[.n n7])):=a0g m3h (sP [1]<|sA h0<|sP [0,1,1]<|sT (bnt h1)<|sP [1]<|sL)
def w0z:FuncId→Option a0f:=d0e 18 [S_b15.k h1c] p2i
theorem h0j:CsOk Try.prog w0z:=csA1 q1j m3h
def p2a:LSh:={K:=1,log:=[],ins:=[(sh 24 [(1,fnC 44 [.ptr 0 0]),(5,.int .u64 0),(8,.imm TMr 1),(9,.int .i64 2),(10,.int .i64 3)],[ucB 4])],nils:=[],outs:=[(.exit 0,sh 24 [(5,.int .u64 0)],[ucB 1])],cv:=[]}
def o0j:List Dat→Tree Step:=evL w0z 43 3 ls0 p2a
theorem k1p: ∃op,IsL o0j 43 3 p2a op:=bxL h0j (LsOk.none _ _ _)
abbrev i3e:MBox:=boxL k1p
def S_z22:BSh:={args:=[.imm TMr 0,fnC 44 [.ptr 0 0]],blks:=[ucB 1],log:=[],outs:=[(.int .u64 0,[ucB 1])]}
def ev_z22:List Dat→Tree (Nat×List Dat):=evF w0z 43 (lsM [(3,i3e)] 1) S_z22
theorem e_z22: ∃op,IsF ev_z22 43 S_z22 op:=bxF h0j (lsE (lsC (b0b k1p) (atF) lsZ))
def op_z22:OpA:=opF e_z22
def w2x:LSh:={K:=1,log:=[],ins:=[(sh 24 [(1,fnC 45 [.ptr 0 0]),(5,.int .u64 0),(8,.imm TMr 1),(9,.int .i64 2),(10,.int .i64 3)],[ucB 4])],nils:=[],outs:=[(.exit 0,sh 24 [(5,.int .u64 0)],[ucB 1])],cv:=[]}
def p0s:List Dat→Tree Step:=evL w0z 43 3 ls0 w2x
theorem l1z: ∃op,IsL p0s 43 3 w2x op:=bxL h0j (LsOk.none _ _ _)
abbrev m3m:MBox:=boxL l1z
def S_z23:BSh:={args:=[.imm TMr 0,fnC 45 [.ptr 0 0]],blks:=[ucB 1],log:=[],outs:=[(.int .u64 0,[ucB 1])]}
def ev_z23:List Dat→Tree (Nat×List Dat):=evF w0z 43 (lsM [(3,m3m)] 1) S_z23
theorem e_z23: ∃op,IsF ev_z23 43 S_z23 op:=bxF h0j (lsE (lsC (b0b l1z) (atF) lsZ))
def op_z23:OpA:=opF e_z23
def r2l:LSh:={K:=2,log:=[],ins:=[(sh 24 [(1,fnC 92 [.ptr 0 0,.ptr 1 0]),(5,.int .u64 0),(8,.imm TMr 1),(9,.int .i64 2),(10,.int .i64 3)],[wcB 4,wcB 5])],nils:=[],outs:=[(.exit 0,sh 24 [(5,.int .u64 0)],[wcB 1,wcB 2])],cv:=[]}
def l0p:List Dat→Tree Step:=evL w0z 43 3 ls0 r2l
theorem j1n: ∃op,IsL l0p 43 3 r2l op:=bxL h0j (LsOk.none _ _ _)
abbrev j3q:MBox:=boxL j1n
def S_z48:BSh:={args:=[.imm TMr 0,fnC 92 [.ptr 0 0,.ptr 1 0]],blks:=[wcB 1,wcB 2],log:=[],outs:=[(.int .u64 0,[wcB 1,wcB 2])]}
def ev_z48:List Dat→Tree (Nat×List Dat):=evF w0z 43 (lsM [(3,j3q)] 2) S_z48
theorem e_z48: ∃op,IsF ev_z48 43 S_z48 op:=bxF h0j (lsE (lsC (b0b j1n) (atF) lsZ))
def op_z48:OpA:=opF e_z48
def e2g:FuncId→Option a0f:=d0e 43 [S_z22.k op_z22,S_z23.k op_z23,S_z48.k op_z48] w0z
theorem e1l:CsOk Try.prog e2g:=f0z h0j fun B hB=>by
 simp only[List.mem_cons,List.not_mem_nil,or_false]at hB
 rcases hB with rfl|rfl|rfl
 ·exact j0d e_z22
 ·exact j0d e_z23
 ·exact j0d e_z48
def y2w:LSh:={K:=0,log:=[],ins:=[(sh 24 [(1,fnV0 91),(5,.int .u64 0),(8,.imm TB 1),(9,.int .i64 2),(10,.int .i64 3)],[])],nils:=[],outs:=[(.exit 0,sh 24 [(5,.int .u64 0)],[])],cv:=[]}
def o0w:List Dat→Tree Step:=evL e2g 90 3 ls0 y2w
theorem i1f: ∃op,IsL o0w 90 3 y2w op:=bxL e1l (LsOk.none _ _ _)
abbrev k3c:MBox:=boxL i1f
def S_z45:BSh:={args:=[.imm TB 0,fnV0 91],blks:=[],log:=[],outs:=[(.int .u64 0,[])]}
def ev_z45:List Dat→Tree (Nat×List Dat):=evF e2g 90 (lsM [(3,k3c)] 0) S_z45
theorem e_z45: ∃op,IsF ev_z45 90 S_z45 op:=bxF e1l (lsE (lsC (b0b i1f) (atF) lsZ))
def op_z45:OpA:=opF e_z45
def d2n:FuncId→Option a0f:=a0k 90 (S_z45.k op_z45) e2g
theorem e1x:CsOk Try.prog d2n:=csL1 e1l e_z45
def d3a:LSh:={K:=1,log:=[],ins:=[(sh 58 [(3,.ptr 1 0),(4,.ptr 2 0),(5,.ptr 3 0),(42,.own 4),(43,.int .i64 0),(44,.int .i64 1)],[msB 2,stB 7,stB 12,stB 17,.arr TI 22])],nils:=[],outs:=[(.exit 0,sh 58 [(4,.ptr 1 0),(5,.ptr 2 0)],[msB 0,stB 5,stB 10])],cv:=[]}
def u0l:List Dat→Tree Step:=evL d2n 7 6 ls0 d3a
theorem j1r: ∃op,IsL u0l 7 6 d3a op:=bxL e1x (LsOk.none _ _ _)
def l1q:OpA:=opL j1r
theorem w1p (env:List Dat):l1q env=a0b u0l FU env:=b0t j1r env
abbrev l3z:MBox:=boxL j1r
theorem v1l {n0 n1:Int}{l2:List (Ty.den TMr)}{l3:List (Ty.den TU)}{n4 n5 n6 n7 n8 n9:Int}{l10:List (Ty.den TB)}{n11 n12 n13 n14:Int}{l15:List (Ty.den TB)}{n16 n17 n18 n19:Int}{l20:List (Ty.den TB)}{n21:Int}{l22:List (Ty.den TI)}(g0:0≤n1)(g1:n0=(l22.length:Int))(h0:(n1<n0))(h1:(inR (List.getD l22 (Int.toNat n1) (0:Int)) 64=true)):(u0l [.k 0,.n n0,.n n1,.l TMr l2,.l TU l3,.n n4,.n n5,.n n6,.n n7,.n n8,.n n9,.l TB l10,.n n11,.n n12,.n n13,.n n14,.l TB l15,.n n16,.n n17,.n n18,.n n19,.l TB l20,.n n21,.l TI l22]).sel=some (Step.go [.k 0,.n n0,.n (IntKind.wrap .i64 (n1+(1:Int))),.l TMr l2,.l TU l3,.n n4,.n n5,.n n6,.n n7,.n n8,.n n9,.l TB l10,.n n11,.n n12,.n n13,.n n14,.l TB l15,.n n16,.n n17,.n n18,.n n19,.l TB (List.set l20 (Int.toNat (List.getD l22 (Int.toNat n1) (0:Int))) (imin (List.getD l10 (Int.toNat (List.getD l22 (Int.toNat n1) (0:Int))) (0:Int)) (20:Int))),.n n21,.l TI l22]):=sP [1]<|sT (dt h0)<|sTo (c:=(inR n1 (List.length l22)))<|sT h1<|sT h1<|sP [1]<|sL
theorem w1r {n0 n1:Int}{l2:List (Ty.den TMr)}{l3:List (Ty.den TU)}{n4 n5 n6 n7 n8 n9:Int}{l10:List (Ty.den TB)}{n11 n12 n13 n14:Int}{l15:List (Ty.den TB)}{n16 n17 n18 n19:Int}{l20:List (Ty.den TB)}{n21:Int}{l22:List (Ty.den TI)}(g0:0≤n1)(g1:n0=(l22.length:Int))(h0:(¬n1<n0)):(u0l [.k 0,.n n0,.n n1,.l TMr l2,.l TU l3,.n n4,.n n5,.n n6,.n n7,.n n8,.n n9,.l TB l10,.n n11,.n n12,.n n13,.n n14,.l TB l15,.n n16,.n n17,.n n18,.n n19,.l TB l20,.n n21,.l TI l22]).sel=some (Step.stop 0 [.l TMr l2,.l TU l3,.n n4,.n n5,.n n6,.n n12,.n n13,.n n14,.l TB l15,.n n16,.n n17,.n n18,.n n19,.l TB l20,.n n21]):=sP [1]<|sF (df h0)<|sP [1]<|sL
def S_b10:BSh:={args:=[.ptr 0 0,stV 0],blks:=[msB 5],log:=[],outs:=[(stV 0,[msB 5])]}
def ev_b10:List Dat→Tree (Nat×List Dat):=evF d2n 7 (lsM [(6,l3z)] 1) S_b10
theorem e_b10: ∃op,IsF ev_b10 7 S_b10 op:=bxF e1x (lsE (lsC (b0b j1r) (atF) lsZ))
def q0l:OpA:=opF e_b10
theorem y2m {n0 n1 n2:Int}{l3:List (Ty.den TB)}{n4:Int}{l5:List (Ty.den TMr)}{l6:List (Ty.den TU)}{n7 n8 n9:Int}{l10:List (Ty.den TI)}{l11:List (Ty.den TMr)}{l12:List (Ty.den TU)}{n13 n14 n15 n16 n17 n18:Int}{l19:List (Ty.den TB)}{n20 n21 n22 n23:Int}{l24:List (Ty.den TB)}{n25:Int}(h0:(d1x [.n (iand IntKind.u64 n2 (iand IntKind.u64 n0 n7))])=(some (0,[.l TI l10])))(h1:(l1q [.k 0,.n (↑(List.length l10):Int),.n (0:Int),.l TMr l5,.l TU l6,.n n7,.n n8,.n n9,.n n0,.n n1,.n n2,.l TB l3,.n n4,.n (0:Int),.n (0:Int),.n (0:Int),.l TB (List.replicate 64 (0:Int)),.n (0:Int),.n (iand IntKind.u64 n0 n7),.n (iand IntKind.u64 n1 (iand IntKind.u64 n0 n7)),.n (iand IntKind.u64 n2 (iand IntKind.u64 n0 n7)),.l TB (List.replicate 64 (0:Int)),.n (iand IntKind.u32 n4 n8),.l TI l10])=(some (0,[.l TMr l11,.l TU l12,.n n13,.n n14,.n n15,.n n16,.n n17,.n n18,.l TB l19,.n n20,.n n21,.n n22,.n n23,.l TB l24,.n n25]))):q0l [.n n0,.n n1,.n n2,.l TB l3,.n n4,.l TMr l5,.l TU l6,.n n7,.n n8,.n n9]=some ((0,[.n n21,.n n22,.n n23,.l TB l24,.n n25,.l TMr l11,.l TU l12,.n n13,.n n14,.n n15])):=a0g e_b10 (sP [0,1,1]<|sA h0<|sP [1,1]<|sA h1<|sP [1,1]<|sL)
def q2y:FuncId→Option a0f:=d0e 7 [S_b10.k q0l] d2n
theorem u1g:CsOk Try.prog q2y:=csA1 e1x e_b10
def S_b12:BSh:={args:=[.ptr 0 0,stV 0],blks:=[msB 5],log:=[],outs:=[(.bool 0,[msB 1])]}
def ev_b12:List Dat→Tree (Nat×List Dat):=evF q2y 9 ls0 S_b12
theorem m2t: ∃op,IsF ev_b12 9 S_b12 op:=bxF u1g (LsOk.none _ _ _)
def x0c:OpA:=opF m2t
theorem w2g {n0 n1 n2:Int}{l3:List (Ty.den TB)}{n4:Int}{l5:List (Ty.den TMr)}{l6:List (Ty.den TU)}{n7 n8 n9 n10 n11 n12:Int}{l13:List (Ty.den TB)}{n14:Int}{l15:List (Ty.den TMr)}{l16:List (Ty.den TU)}{n17 n18 n19:Int}(h0:(q0l [.n n0,.n n1,.n n2,.l TB l3,.n n4,.l TMr l5,.l TU l6,.n n7,.n n8,.n n9])=(some (0,[.n n10,.n n11,.n n12,.l TB l13,.n n14,.l TMr l15,.l TU l16,.n n17,.n n18,.n n19])))(h1:((n0==n10&&(n1==n11&&(n2==n12&&(eqL TB l3 l13&&(n4==n14&&true)))))=false)):x0c [.n n0,.n n1,.n n2,.l TB l3,.n n4,.l TMr l5,.l TU l6,.n n7,.n n8,.n n9]=some ((0,[.b false,.l TMr l5,.l TU l6,.n n7,.n n8,.n n9])):=a0g m2t (sP [0,1]<|sA h0<|sP [1,1,1]<|sT (nf h1)<|sP [1]<|sL)
theorem a3k {n0 n1 n2:Int}{l3:List (Ty.den TB)}{n4:Int}{l5:List (Ty.den TMr)}{l6:List (Ty.den TU)}{n7 n8 n9 n10 n11 n12:Int}{l13:List (Ty.den TB)}{n14:Int}{l15:List (Ty.den TMr)}{l16:List (Ty.den TU)}{n17 n18 n19 n20 n21 n22:Int}(h0:(q0l [.n n0,.n n1,.n n2,.l TB l3,.n n4,.l TMr l5,.l TU l6,.n n7,.n n8,.n n9])=(some (0,[.n n10,.n n11,.n n12,.l TB l13,.n n14,.l TMr l15,.l TU l16,.n n17,.n n18,.n n19])))(h1:((n0==n10&&(n1==n11&&(n2==n12&&(eqL TB l3 l13&&(n4==n14&&true)))))=true))(h2:(q0f [.l TMr l5,.l TU l6,.n n7,.n n8,.n n9,.n n0])=(some (0,[.n n20,.n n21])))(h3:(g1d [.l TMr l5,.l TU l6,.n n7,.n n8,.n n9,.n n0])=(some (0,[.n n22])))(h4:(iand IntKind.u64 n22 n0=(0:Int)))(h5:(iand IntKind.u32 n20 n4=(0:Int))):x0c [.n n0,.n n1,.n n2,.l TB l3,.n n4,.l TMr l5,.l TU l6,.n n7,.n n8,.n n9]=some ((0,[.b (a0o IntKind.u32 n21 n4==(0:Int)),.l TMr l5,.l TU l6,.n n7,.n n8,.n n9])):=a0g m2t (sP [0,1]<|sA h0<|sP [1,1,1]<|sF (nt h1)<|sA h2<|sP [1,1,1]<|sA h3<|sP [1,1]<|sT (bt h4)<|sT (bt h5)<|sP [1,1]<|sL)
theorem p2m {n0 n1 n2:Int}{l3:List (Ty.den TB)}{n4:Int}{l5:List (Ty.den TMr)}{l6:List (Ty.den TU)}{n7 n8 n9 n10 n11 n12:Int}{l13:List (Ty.den TB)}{n14:Int}{l15:List (Ty.den TMr)}{l16:List (Ty.den TU)}{n17 n18 n19 n20 n21 n22:Int}(h0:(q0l [.n n0,.n n1,.n n2,.l TB l3,.n n4,.l TMr l5,.l TU l6,.n n7,.n n8,.n n9])=(some (0,[.n n10,.n n11,.n n12,.l TB l13,.n n14,.l TMr l15,.l TU l16,.n n17,.n n18,.n n19])))(h1:((n0==n10&&(n1==n11&&(n2==n12&&(eqL TB l3 l13&&(n4==n14&&true)))))=true))(h2:(q0f [.l TMr l5,.l TU l6,.n n7,.n n8,.n n9,.n n0])=(some (0,[.n n20,.n n21])))(h3:(g1d [.l TMr l5,.l TU l6,.n n7,.n n8,.n n9,.n n0])=(some (0,[.n n22])))(h4:(iand IntKind.u64 n22 n0=(0:Int)))(h5:(¬iand IntKind.u32 n20 n4=(0:Int))):x0c [.n n0,.n n1,.n n2,.l TB l3,.n n4,.l TMr l5,.l TU l6,.n n7,.n n8,.n n9]=some ((0,[.b false,.l TMr l5,.l TU l6,.n n7,.n n8,.n n9])):=a0g m2t (sP [0,1]<|sA h0<|sP [1,1,1]<|sF (nt h1)<|sA h2<|sP [1,1,1]<|sA h3<|sP [1,1]<|sT (bt h4)<|sF (bf h5)<|sP [0,1,1]<|sL)
theorem z2c {n0 n1 n2:Int}{l3:List (Ty.den TB)}{n4:Int}{l5:List (Ty.den TMr)}{l6:List (Ty.den TU)}{n7 n8 n9 n10 n11 n12:Int}{l13:List (Ty.den TB)}{n14:Int}{l15:List (Ty.den TMr)}{l16:List (Ty.den TU)}{n17 n18 n19 n20 n21 n22:Int}(h0:(q0l [.n n0,.n n1,.n n2,.l TB l3,.n n4,.l TMr l5,.l TU l6,.n n7,.n n8,.n n9])=(some (0,[.n n10,.n n11,.n n12,.l TB l13,.n n14,.l TMr l15,.l TU l16,.n n17,.n n18,.n n19])))(h1:((n0==n10&&(n1==n11&&(n2==n12&&(eqL TB l3 l13&&(n4==n14&&true)))))=true))(h2:(q0f [.l TMr l5,.l TU l6,.n n7,.n n8,.n n9,.n n0])=(some (0,[.n n20,.n n21])))(h3:(g1d [.l TMr l5,.l TU l6,.n n7,.n n8,.n n9,.n n0])=(some (0,[.n n22])))(h4:(¬iand IntKind.u64 n22 n0=(0:Int))):x0c [.n n0,.n n1,.n n2,.l TB l3,.n n4,.l TMr l5,.l TU l6,.n n7,.n n8,.n n9]=some ((0,[.b false,.l TMr l5,.l TU l6,.n n7,.n n8,.n n9])):=a0g m2t (sP [0,1]<|sA h0<|sP [1,1,1]<|sF (nt h1)<|sA h2<|sP [1,1,1]<|sA h3<|sP [1,1]<|sF (bf h4)<|sP [0,0,0,1,1]<|sL)
def cs_b12:FuncId→Option a0f:=d0e 9 [S_b12.k x0c] q2y
theorem p1b:CsOk Try.prog cs_b12:=csA1 u1g m2t
def k2k:List Dat→Tree Bool:=evW cs_b12 3 ls0 [laV 0,stV 4]
theorem W3_law (env:List Dat)(h:(k2k env).sel=some true){w:World}{aa:Array Value}(ha:LRel R0 (b0n w) (instL [laV 0,stV 4] env) aa):
  Calls Try.prog 3 aa w fun e w'=>e=.returned (.bool true)∧Below w.heap.size w w':=evW_law p1b (LsOk.none _ _ _) env h ha
theorem k3s {l0:List (Ty.den TS)}{l1 l2:List (Ty.den TPt)}{l3:List (Ty.den TRt)}{n4 n5 n6:Int}{l7:List (Ty.den TB)}{n8 n9:Int}{b10:Bool}(h0:(t1b [.l TS l0,.l TPt l1,.l TPt l2,.l TRt l3,.n (400:Int)])=(some (0,[.n n9])))(h1:(n9>(400:Int)))(h2:(v1f [])=(some (0,[.b b10]))):(k2k [.l TS l0,.l TPt l1,.l TPt l2,.l TRt l3,.n n4,.n n5,.n n6,.l TB l7,.n n8]).sel=some (b10):=sP [1]<|sA h0<|sP [1,1]<|sT (dt h1)<|sP [1,1,1]<|sA h2<|sP [1,1]<|sL
theorem g3o {l0:List (Ty.den TS)}{l1 l2:List (Ty.den TPt)}{l3:List (Ty.den TRt)}{n4 n5 n6:Int}{l7:List (Ty.den TB)}{n8 n9 n10:Int}{l11:List (Ty.den TMr)}{l12:List (Ty.den TU)}{n13 n14 n15 n16 n17 n18:Int}{l19:List (Ty.den TB)}{n20:Int}{l21:List (Ty.den TMr)}{l22:List (Ty.den TU)}{n23 n24 n25 n26 n27 n28:Int}{l29:List (Ty.den TB)}{n30:Int}{b31:Bool}{l32:List (Ty.den TMr)}{l33:List (Ty.den TU)}{n34 n35 n36:Int}{b37 b38:Bool}{l39:List (Ty.den TMr)}{l40:List (Ty.den TU)}{n41 n42 n43:Int}{b44 b45:Bool}(h0:(t1b [.l TS l0,.l TPt l1,.l TPt l2,.l TRt l3,.n (400:Int)])=(some (0,[.n n9])))(h1:(¬n9>(400:Int)))(h2:(h1c [.l TS l0,.l TPt l1,.l TPt l2,.l TRt l3])=(some (0,[.n n10,.l TMr l11,.l TU l12,.n n13,.n n14,.n n15])))(h3:(n10=(0:Int)))(h4:(q0l [.n n4,.n n5,.n n6,.l TB l7,.n n8,.l TMr l11,.l TU l12,.n n13,.n n14,.n n15])=(some (0,[.n n16,.n n17,.n n18,.l TB l19,.n n20,.l TMr l21,.l TU l22,.n n23,.n n24,.n n25])))(h5:(c1q [.l TS l0,.l TPt l1,.l TPt l2,.l TRt l3,.n n4,.n n5,.n n6,.l TB l7,.n n8])=(some (0,[.n n26,.n n27,.n n28,.l TB l29,.n n30])))(h6:((n16==n26&&(n17==n27&&(n18==n28&&(eqL TB l19 l29&&(n20==n30&&true)))))=true))(h7:(x0c [.n n4,.n n5,.n n6,.l TB l7,.n n8,.l TMr l11,.l TU l12,.n n13,.n n14,.n n15])=(some (0,[.b b31,.l TMr l32,.l TU l33,.n n34,.n n35,.n n36])))(h8:(e1i [.l TS l0,.l TPt l1,.l TPt l2,.l TRt l3,.n n4,.n n5,.n n6,.l TB l7,.n n8])=(some (0,[.b b37])))(h9:((b31==b37)=true))(h10:(x0c [.n n16,.n n17,.n n18,.l TB l19,.n n20,.l TMr l11,.l TU l12,.n n13,.n n14,.n n15])=(some (0,[.b b38,.l TMr l39,.l TU l40,.n n41,.n n42,.n n43])))(h11:(e1i [.l TS l0,.l TPt l1,.l TPt l2,.l TRt l3,.n n16,.n n17,.n n18,.l TB l19,.n n20])=(some (0,[.b b44])))(h12:((b38==b44)=true))(h13:(v1f [])=(some (0,[.b b45]))):(k2k [.l TS l0,.l TPt l1,.l TPt l2,.l TRt l3,.n n4,.n n5,.n n6,.l TB l7,.n n8]).sel=some (b45):=sP [1]<|sA h0<|sP [1,1]<|sF (df h1)<|sP [1]<|sA h2<|sP [1,1]<|sT (bt h3)<|sP [1,0,1]<|sA h4<|sP [1,1]<|sA h5<|sP [1,1]<|sT h6<|sP [1]<|sA h7<|sP [1,1]<|sA h8<|sP [1,1]<|sT h9<|sP [1]<|sA h10<|sP [1,1]<|sA h11<|sP [1,1]<|sT h12<|sP [1]<|sA h13<|sP [1,1,1]<|sL
theorem m3e {l0:List (Ty.den TS)}{l1 l2:List (Ty.den TPt)}{l3:List (Ty.den TRt)}{n4 n5 n6:Int}{l7:List (Ty.den TB)}{n8 n9 n10:Int}{b11:Bool}(h0:(t1b [.l TS l0,.l TPt l1,.l TPt l2,.l TRt l3,.n (400:Int)])=(some (0,[.n n9])))(h1:(¬n9>(400:Int)))(h2:(h1c [.l TS l0,.l TPt l1,.l TPt l2,.l TRt l3])=(some (1,[.n n10])))(h3:(¬n10=(0:Int)))(h4:(v1f [])=(some (0,[.b b11]))):(k2k [.l TS l0,.l TPt l1,.l TPt l2,.l TRt l3,.n n4,.n n5,.n n6,.l TB l7,.n n8]).sel=some (b11):=sP [1]<|sA h0<|sP [1,1]<|sF (df h1)<|sP [1]<|sA h2<|sP [0,1,1]<|sF (bf h3)<|sP [0,1,1,1]<|sA h4<|sP [1,1]<|sL
theorem r0e {w:Nat}{X Y:BitVec w}:X&&&Y=0#w↔ ∀j,j<w→X.getLsbD j=true→Y.getLsbD j=false:=by
 constructor
 ·intro h j hj hx
  have:=congrArg (fun z=>BitVec.getLsbD z j) h
  simp only[BitVec.getLsbD_and,BitVec.getLsbD_zero]at this
  rw[hx,Bool.true_and]at this
  exact this
 ·intro h
  exact and0 fun k hk h1 h2=>by rw[h k hk h1]at h2;cases h2
structure WH (a:LS)(b c:LP)(r:LR):Prop where
 g:WG a b c r
 lb: ∀k,k<b.length→ptS b (k:Int)<(a.length:Int)
 lc: ∀k,k<c.length→ptS c (k:Int)<(a.length:Int)
theorem wh_of {a:LS}{b c:LP}{r:LR}(h:(ckA a b c r).1=0):WH a b c r:=by
 have g:=wg_of h
 obtain⟨hm,hw⟩:=(x2k a b c r).1 h
 have h:=hm
 unfold mayL at h
 rw[Bool.and_eq_true]at h
 have h:=h.2
 simp only[Bool.and_eq_true]at h
 obtain⟨h5,h6,-,-⟩:=h
 have key: ∀l:LP,(List.range' 0 l.length).all (inAt (secs l) (a.length:Int))=true→ ∀k,k<l.length→ptS l (k:Int)<(a.length:Int):=fun l hl k hk=>by
  have q:=f1a (List.all_eq_true.1 hl k (List.mem_range'_1.2 (by omega)))
  rw[e0s l hk]at q
  unfold ptS
  rw[Int.toNat_natCast]
  exact q.2
 exact⟨g,key b h5,key c h6⟩
section
variable {a:LS} {b c:LP} {r:LR} (w:WH a b c r) (O:B64)
include w
theorem nd_in {i:Nat}(hi:i<r.length){d:Ty.den TNd}(hd:d∈ndsE (rN r i)):0≤f1 d∧(f1 d).toNat<b.length∧(f1 d).toNat<32:=by
 have:=w.g.w.pt i hi d hd
 have:=w.g.w.lb
 have h1:0≤f1 d:=by omega
 have h2:f1 d<(b.length:Int):=by omega
 exact⟨h1,by omega,by omega⟩
theorem right0 {s:SQ}(hL: ∀j,j<64→s.L.getLsbD j=true→j<r.length):(List.range' 0 r.length).all (okJ b r s)=true↔(acc s.L (fC b r) r.length&&&s.L=0#64∧acc s.L (f32 r false) r.length&&&s.P=0#32∧acc s.L (f32 r true) r.length&&& ~~~s.P=0#32):=by
 have lr:=w.g.w.lr
 rw[all_t]
 constructor
 ·intro h
  refine⟨r0e.2 fun j hj hx=> ?_,r0e.2 fun j hj hx=> ?_,r0e.2 fun j hj hx=> ?_⟩
  ·obtain⟨i,h1,h2,h3⟩:=(i0x _ _ _ _).1 hx
   cases hl:s.L.getLsbD j with
   |false=>rfl
   |true=>
    have hk:=hL j hj hl
    rw[fC_bit w.g.w h1 hk,(l3m.1 (h i h1) h2).1 j hk hl]at h3
    cases h3
  ·obtain⟨i,h1,h2,h3⟩:=(i0x _ _ _ _).1 hx
   obtain⟨d,k1,k2,k3⟩:=(e0r hj).1 h3
   have:=(l3m.1 (h i h1) h2).2 d k1
   rw[k2,Int.toNat_natCast,k3]at this
   exact this
  ·obtain⟨i,h1,h2,h3⟩:=(i0x _ _ _ _).1 hx
   obtain⟨d,k1,k2,k3⟩:=(e0r hj).1 h3
   have:=(l3m.1 (h i h1) h2).2 d k1
   rw[k2,Int.toNat_natCast,k3]at this
   rw[BitVec.getLsbD_not,this];simp
 ·rintro⟨h1,h2,h3⟩ i hi
  rw[l3m]
  intro hl
  refine⟨fun k hk hlk=> ?_,fun d hd=> ?_⟩
  ·cases hc:clN b r i k with
   |false=>rfl
   |true=>rw[r0e.1 h1 k (by omega) ((i0x _ _ _ _).2 ⟨i,hi,hl,by rw[fC_bit w.g.w hi hk];exact hc⟩)]at hlk;cases hlk
  ·obtain⟨q1,q2,q3⟩:=nd_in w hi hd
   have e1:((f1 d).toNat:Int)=f1 d:=Int.toNat_of_nonneg q1
   cases hg:g2 d with
   |false=>exact r0e.1 h2 _ q3 ((i0x _ _ _ _).2 ⟨i,hi,hl,(e0r q3).2 ⟨d,hd,e1.symm,hg⟩⟩)
   |true=>
    have:=r0e.1 h3 _ q3 ((i0x _ _ _ _).2 ⟨i,hi,hl,(e0r q3).2 ⟨d,hd,e1.symm,hg⟩⟩)
    rw[BitVec.getLsbD_not,dt q3,Bool.true_and,Bool.not_eq_false']at this
    exact this
end
theorem w2j (X:B64)(k:Nat)(hk:k<64):Bt.hasI (N X) k=X.getLsbD k:=by
 rw[←iandB X k]
 unfold Bt.hasI
 have e:ishr IntKind.u64 (N X) (k:Int)=N X/2^(k:Int).toNat:=by
  show(N X).fdiv (2^min (k:Int).toNat 64)=_
  rw[Nat.min_eq_left (by simp;omega),Int.fdiv_eq_ediv_of_nonneg _ (by exact Int.pow_nonneg (by omega))]
 rw[e];rfl
theorem d1d (X:B64): ∀k,k≤64→Bt.bitsTo (N X) k=(List.range k).filter fun i=>X.getLsbD i
 |0,_=>rfl
 |k+1,h=>by
  have ih:=d1d X k (by omega)
  rw[List.range_succ,List.filter_append]
  cases hb:X.getLsbD k with
  |true=>rw[Bt.bitsTo_hit (by rw[w2j X k (by omega)];exact hb),ih];simp[hb]
  |false=>rw[Bt.bitsTo_miss (by rw[w2j X k (by omega)];exact hb),ih];simp[hb]
def LB (X:B64)(k:Nat):List Int:=((List.range k).filter fun i=>X.getLsbD i).map fun(i:Nat)=>(i:Int)
theorem LB_len (X:B64)(k:Nat):(LB X k).length≤k:=by
 unfold LB
 rw[List.length_map]
 exact Nat.le_trans (List.length_filter_le _ _) (by simp)
theorem LB_mem (X:B64)(n:Int):n∈LB X 64↔hasB X n=true:=by
 unfold LB hasB inN
 simp only[List.mem_map,List.mem_filter,List.mem_range,Bool.and_eq_true,decide_eq_true_eq]
 constructor
 ·rintro⟨i,⟨h1,h2⟩,rfl⟩
  exact⟨⟨by omega,by omega⟩,by simpa using h2⟩
 ·rintro⟨⟨h1,h2⟩,h3⟩
  exact⟨n.toNat,⟨by omega,h3⟩,by omega⟩
theorem t2f (X:B64)(k:Nat):(LB X k).Pairwise (· < ·):=by
 unfold LB
 rw[List.pairwise_map]
 refine List.Pairwise.imp ?_ ((List.pairwise_lt_range (n:=k)).filter _)
 intro a b h;exact_mod_cast h
theorem el19 (X:B64):d1x [.n (N X)]=some (0,[.l TI (LB X 64)]):=by
 rw[r1l]
 show some (0,[Dat.l TI (o1n (N X))])=_
 unfold o1n
 rw[d1d X 64 (by omega)];rfl
theorem N0 {w:Nat}{X:BitVec w}:N X=0↔X=0#w:=by
 rw[show(0:Int)=N 0#w by unfold N;simp,N_eq]
theorem LB_nat (X:B64){k:Nat}(hk:k<64):(k:Int)∈LB X 64↔X.getLsbD k=true:=by rw[LB_mem,h0x X hk]
theorem LB_in {X:B64}{x:Int}(h:x∈LB X 64):0≤x∧x<64:=by
 unfold LB at h
 rw[List.mem_map]at h
 obtain⟨k,h1,rfl⟩:=h
 rw[List.mem_filter,List.mem_range]at h1
 omega
theorem l1s (X:B64):(LB X 64).Nodup:=(t2f X 64).imp fun h=>by omega
def updF (f:Int→Int→Int)(l:List Int)(T:List Int):List Int:=l.foldl (fun T x=>T.set x.toNat (f x (T.getD x.toNat 0))) T
theorem u0v (f:Int→Int→Int): ∀(l T:List Int),(updF f l T).length=T.length
 |[],T=>rfl
 |x::l,T=>by
  show(updF f l (T.set _ _)).length=_
  rw[u0v f l,List.length_set]
theorem d1r (f:Int→Int→Int)(l T:List Int){i:Nat}(hi:i<l.length):updF f (l.take (i+1)) T=(updF f (l.take i) T).set (l.getD i 0).toNat (f (l.getD i 0) ((updF f (l.take i) T).getD (l.getD i 0).toNat 0)):=by
 unfold updF
 rw[m0a l (0:Int) hi,List.foldl_append];rfl
theorem k1h (f:Int→Int→Int){n:Nat}: ∀(l T:List Int),l.Nodup→(∀x∈l,0≤x)→n<T.length→(updF f l T).getD n 0=bif decide ((n:Int)∈l)then f (n:Int) (T.getD n 0)else T.getD n 0
 |[],T,_,_,_=>by simp[updF]
 |x::l,T,hd,h0,hn=>by
  have hd':=List.nodup_cons.1 hd
  show(updF f l (T.set x.toNat (f x (T.getD x.toNat 0)))).getD n 0=_
  rw[k1h f l _ hd'.2 (fun y hy=>h0 y (List.mem_cons_of_mem _ hy)) (by rw[List.length_set];exact hn),set_at _ _ hn]
  have hx:=h0 x List.mem_cons_self
  by_cases e:x.toNat=n
  ·have e2:(n:Int)=x:=by omega
   rw[df (by rw[e2];exact hd'.1),dt e,dt (by rw[e2];exact List.mem_cons_self),e,e2];rfl
  ·have e2:decide ((n:Int)∈x::l)=decide ((n:Int)∈l):=by
    rw[Bool.eq_iff_iff,decide_eq_true_eq,decide_eq_true_eq,List.mem_cons]
    exact⟨fun q=>q.elim (fun q=>absurd q (by omega)) id,.inr⟩
   rw[df e,e2];rfl
abbrev bM (b c:LP)(r:LR):List (Ty.den TMr):=e0n c r (NL (tabB b r)) r.length
abbrev bU (b:LP):List Int:=u0p b b.length
section
variable {a:LS} {b c:LP} {r:LR}
end
theorem new15 (a:LS)(b c:LP)(r:LR)(hs:okS a b c r):h1c [.l TS a,.l TPt b,.l TPt c,.l TRt r]=some (if(ckA a b c r).1=0 then(0,[.n 0,.l TMr (bM b c r),.l TU (bU b),.n (N (firB r.length)),.n (N ((firB b.length).setWidth 32)),.n (N (firB a.length))])else(1,[.n (ckA a b c r).1])):=by
 have e:=o28i a b c r hs
 unfold mkA at e
 by_cases h:(ckA a b c r).1=0
 ·rw[if_pos h]at e⊢
  have w:=wf_of h
  rw[Nat.min_eq_left w.lr,Nat.min_eq_left w.la,Nat.min_eq_left (show b.length≤64 by have:=w.lb;omega),c1w]at e
  exact r2r e rfl
 ·rw[if_neg h]at e⊢
  exact t2o e h
section
variable {a:LS} {b c:LP} {r:LR} (w:WH a b c r) (O:B64)
include w
theorem b10 (s:SQ):q0l [.n (N s.L),.n (N s.U),.n (N s.C),.l TB s.T,.n (N s.P),.l TMr (bM b c r),.l TU (bU b),.n (N (firB r.length)),.n (N ((firB b.length).setWidth 32)),.n (N (firB a.length))]=some (0,[.n (N (s.L&&&firB r.length)),.n (N ((s.L&&&s.U)&&&firB r.length)),.n (N ((s.L&&&s.C)&&&firB r.length)),.l TB (tmL (s.L&&&s.C) s.T r.length),.n (N (s.P&&&(firB b.length).setWidth 32)),.l TMr (bM b c r),.l TU (bU b),.n (N (firB r.length)),.n (N ((firB b.length).setWidth 32)),.n (N (firB a.length))]):=by
 have lr:=w.g.w.lr
 have e1:=el19 ((s.L&&&s.C)&&&firB r.length)
 have hl:=LB_len ((s.L&&&s.C)&&&firB r.length) 64
 generalize hL:LB ((s.L&&&s.C)&&&firB r.length) 64=l at e1 hl
 have hin: ∀x∈l,0≤x∧x<64:=fun x hx=>LB_in (by rw[hL];exact hx)
 let f:Int→Int→Int:=fun x _=>imin (s.T.getD x.toNat 0) 20
 have hT:updF f l (List.replicate 64 0)=tmL (s.L&&&s.C) s.T r.length:=by
  refine j2w (by rw[u0v,List.length_replicate]) (m0z ..) fun n hn=> ?_
  rw[k1h f l _ (by rw[←hL];exact l1s _) (fun x hx=>(hin x hx).1) (by rw[List.length_replicate];exact hn),d1y _ _ _ hn]
  have e:decide ((n:Int)∈l)=(decide (n<r.length)&&(s.L&&&s.C).getLsbD n):=by
   rw[Bool.eq_iff_iff,decide_eq_true_eq,←hL,LB_nat _ hn,BitVec.getLsbD_and,c0j lr,Bool.and_comm]
  rw[e,e0a (List.replicate 64 (0:Int)) 0 (by rw[List.length_replicate];exact hn),List.getElem_replicate]
  show(bif _ then imin (s.T.getD (Int.toNat (n:Int)) 0) 20 else 0)=_
  rw[Int.toNat_natCast]
 have e2:l1q [.k 0,.n (l.length:Int),.n 0,.l TMr (bM b c r),.l TU (bU b),.n (N (firB r.length)),.n (N ((firB b.length).setWidth 32)),.n (N (firB a.length)),.n (N s.L),.n (N s.U),.n (N s.C),.l TB s.T,.n (N s.P),.n (0:Int),.n (0:Int),.n (0:Int),.l TB (List.replicate 64 (0:Int)),.n (0:Int),.n (N (s.L&&&firB r.length)),.n (N ((s.L&&&s.U)&&&firB r.length)),.n (N ((s.L&&&s.C)&&&firB r.length)),.l TB (List.replicate 64 (0:Int)),.n (N (s.P&&&(firB b.length).setWidth 32)),.l TI l]=some (0,[.l TMr (bM b c r),.l TU (bU b),.n (N (firB r.length)),.n (N ((firB b.length).setWidth 32)),.n (N (firB a.length)),.n (0:Int),.n (0:Int),.n (0:Int),.l TB (List.replicate 64 (0:Int)),.n (0:Int),.n (N (s.L&&&firB r.length)),.n (N ((s.L&&&s.U)&&&firB r.length)),.n (N ((s.L&&&s.C)&&&firB r.length)),.l TB (tmL (s.L&&&s.C) s.T r.length),.n (N (s.P&&&(firB b.length).setWidth 32))]):=by
  rw[w1p,←hT]
  refine a0j (st:=u0l) (fun i=>[.k 0,.n (l.length:Int),.n (i:Int),.l TMr (bM b c r),.l TU (bU b),.n (N (firB r.length)),.n (N ((firB b.length).setWidth 32)),.n (N (firB a.length)),.n (N s.L),.n (N s.U),.n (N s.C),.l TB s.T,.n (N s.P),.n (0:Int),.n (0:Int),.n (0:Int),.l TB (List.replicate 64 (0:Int)),.n (0:Int),.n (N (s.L&&&firB r.length)),.n (N ((s.L&&&s.U)&&&firB r.length)),.n (N ((s.L&&&s.C)&&&firB r.length)),.l TB (updF f (l.take i) (List.replicate 64 (0:Int))),.n (N (s.P&&&(firB b.length).setWidth 32)),.l TI l]) l.length (0,[.l TMr (bM b c r),.l TU (bU b),.n (N (firB r.length)),.n (N ((firB b.length).setWidth 32)),.n (N (firB a.length)),.n (0:Int),.n (0:Int),.n (0:Int),.l TB (List.replicate 64 (0:Int)),.n (0:Int),.n (N (s.L&&&firB r.length)),.n (N ((s.L&&&s.U)&&&firB r.length)),.n (N ((s.L&&&s.C)&&&firB r.length)),.l TB (updF f l (List.replicate 64 (0:Int))),.n (N (s.P&&&(firB b.length).setWidth 32))]) (fun i hi=> ?_) ?_ FU (c0v (by omega))
  ·show _=some (Step.go [.k 0,.n (l.length:Int),.n ((i+1:Nat):Int),.l TMr (bM b c r),.l TU (bU b),.n (N (firB r.length)),.n (N ((firB b.length).setWidth 32)),.n (N (firB a.length)),.n (N s.L),.n (N s.U),.n (N s.C),.l TB s.T,.n (N s.P),.n (0:Int),.n (0:Int),.n (0:Int),.l TB (List.replicate 64 (0:Int)),.n (0:Int),.n (N (s.L&&&firB r.length)),.n (N ((s.L&&&s.U)&&&firB r.length)),.n (N ((s.L&&&s.C)&&&firB r.length)),.l TB (updF f (l.take (i+1)) (List.replicate 64 (0:Int))),.n (N (s.P&&&(firB b.length).setWidth 32)),.l TI l])
   obtain⟨q1,q2⟩:=hin _ (sAtG l (0:Int) hi)
   rw[←w1n i (by omega),d1r f l _ hi]
   exact v1l (by omega) rfl (Int.ofNat_lt.2 hi) (b0d q1 q2)
  ·have t:=w1r (n1:=(l.length:Int)) (l2:=bM b c r) (l3:=bU b) (n4:=N (firB r.length)) (n5:=N ((firB b.length).setWidth 32)) (n6:=N (firB a.length)) (n7:=N s.L) (n8:=N s.U) (n9:=N s.C) (l10:=s.T) (n11:=N s.P) (n12:=0) (n13:=0) (n14:=0) (l15:=List.replicate 64 (0:Int)) (n16:=0) (n17:=N (s.L&&&firB r.length)) (n18:=N ((s.L&&&s.U)&&&firB r.length)) (n19:=N ((s.L&&&s.C)&&&firB r.length)) (l20:=updF f (l.take l.length) (List.replicate 64 (0:Int))) (n21:=N (s.P&&&(firB b.length).setWidth 32)) (l22:=l) (by omega) rfl (Int.lt_irrefl (l.length:Int))
   rw[show l.take l.length=l from List.take_length]at t⊢
   exact t
 have t:q0l [.n (N s.L),.n (N s.U),.n (N s.C),.l TB s.T,.n (N s.P),.l TMr (bM b c r),.l TU (bU b),.n (N (firB r.length)),.n (N ((firB b.length).setWidth 32)),.n (N (firB a.length))]=some (0,[.n (N (s.L&&&firB r.length)),.n (N ((s.L&&&s.U)&&&firB r.length)),.n (N ((s.L&&&s.C)&&&firB r.length)),.l TB (tmL (s.L&&&s.C) s.T r.length),.n (N (s.P&&&(firB b.length).setWidth 32)),.l TMr (bM b c r),.l TU (bU b),.n (N (firB r.length)),.n (N ((firB b.length).setWidth 32)),.n (N (firB a.length))]):=by
  refine y2m (l10:=l) (n16:=0) (n17:=0) (n18:=0) (l19:=List.replicate 64 (0:Int)) (n20:=0) ?_ ?_
  ·rw[a0y,a0y,andf];exact e1
  ·rw[a0y,a0y,a0y,k0r,andf,andf];exact e2
 exact t
theorem b12 (s:SQ):x0c [.n (N s.L),.n (N s.U),.n (N s.C),.l TB s.T,.n (N s.P),.l TMr (bM b c r),.l TU (bU b),.n (N (firB r.length)),.n (N ((firB b.length).setWidth 32)),.n (N (firB a.length))]=some (0,[.b (rgtJ b r s),.l TMr (bM b c r),.l TU (bU b),.n (N (firB r.length)),.n (N ((firB b.length).setWidth 32)),.n (N (firB a.length))]):=by
 have lr:=w.g.w.lr
 have e1:=b10 w s
 unfold rgtJ
 cases h:eqS s (m0g r.length b.length s)with
 |false=>exact w2g e1 h
 |true=>
  have hs:=j1i _ _|>.1 h
  have hL: ∀j,j<64→s.L.getLsbD j=true→j<r.length:=fun j hj hl=>by
   rw[show s.L=s.L&&&firB r.length from congrArg SQ.L hs,BitVec.getLsbD_and,Bool.and_eq_true,c0j lr,decide_eq_true_eq]at hl
   exact hl.2
  have e2:q0f [.l TMr (bM b c r),.l TU (bU b),.n (N (firB r.length)),.n (N ((firB b.length).setWidth 32)),.n (N (firB a.length)),.n (N s.L)]=some (0,[.n (N (acc s.L (f32 r false) r.length)),.n (N (acc s.L (f32 r true) r.length))]):=n1o (om58a b c r s.L lr) (om58b b c r s.L lr)
  have e3:g1d [.l TMr (bM b c r),.l TU (bU b),.n (N (firB r.length)),.n (N ((firB b.length).setWidth 32)),.n (N (firB a.length)),.n (N s.L)]=some (0,[.n (N (acc s.L (fC b r) r.length))]):=p2t (om61 b c r s.L lr)
  have hr:=right0 w hL
  rw[Bool.true_and]
  by_cases c1:acc s.L (fC b r) r.length&&&s.L=0#64
  ·by_cases c2:acc s.L (f32 r false) r.length&&&s.P=0#32
   ·have t:=a3k e1 h e2 e3 (by rw[a0y,N0];exact c1) (by rw[k0r,N0];exact c2)
    have ev:(a0o IntKind.u32 (N (acc s.L (f32 r true) r.length)) (N s.P)==0)=(List.range' 0 r.length).all (okJ b r s):=by
     rw[Bool.eq_iff_iff,hr,beq_iff_eq,b0w,N0]
     exact⟨fun q=>⟨c1,c2,q⟩,fun q=>q.2.2⟩
    rw[ev]at t
    exact t
   ·have t:=p2m e1 h e2 e3 (by rw[a0y,N0];exact c1) (by rw[k0r,N0];exact c2)
    rw[show(List.range' 0 r.length).all (okJ b r s)=false from by
     cases q:(List.range' 0 r.length).all (okJ b r s)with
     |false=>rfl
     |true=>exact absurd (hr.1 q).2.1 c2]
    exact t
  ·have t:=z2c e1 h e2 e3 (by rw[a0y,N0];exact c1)
   rw[show(List.range' 0 r.length).all (okJ b r s)=false from by
    cases q:(List.range' 0 r.length).all (okJ b r s)with
    |false=>rfl
    |true=>exact absurd (hr.1 q).1 c1]
   exact t
end
section
variable {a:LS} {b c:LP} {r:LR}
end
section
variable {a:LS} {b c:LP} {r:LR} (w:WH a b c r) (O:B64) (nm rv:P32) (cm:LC)
include w
end
theorem n3b (s:SQ):(N s.L==N s.L&&(N s.U==N s.U&&(N s.C==N s.C&&(eqL TB s.T s.T&&(N s.P==N s.P&&true)))))=true:=(j1i s s).2 rfl
theorem W3_true (a:LS)(b c:LP)(r:LR)(s:SQ)(hs:okS a b c r):(k2k [.l TS a,.l TPt b,.l TPt c,.l TRt r,.n (N s.L),.n (N s.U),.n (N s.C),.l TB s.T,.n (N s.P)]).sel=some true:=by
 obtain⟨m,e1⟩:=o15 a b c r 400 hs
 by_cases h:m>400
 ·exact k3s e1 h rfl
 have e2:=new15 a b c r hs
 by_cases hk:(ckA a b c r).1=0
 ·rw[if_pos hk]at e2
  have w:=wh_of hk
  have q: ∀x:Bool,(x==x)=true:=by simp
  exact g3o e1 h e2 rfl (b10 w s) (m17 s a b c r w.g.w.lb w.g.w.lr) (n3b (m0g r.length b.length s)) (b12 w s) (m18 w.g.w s) (q _) (b12 w (m0g r.length b.length s)) (m18 w.g.w (m0g r.length b.length s)) (q _) rfl
 ·rw[if_neg hk]at e2
  exact m3e e1 h e2 hk rfl
theorem W3_all (a:LS)(b c:LP)(r:LR)(x y z:Int)(T:List (Ty.den TB))(p:Int)(hs:okS a b c r)(hx:wfD (.int .u64) x=true)(hy:wfD (.int .u64) y=true)(hz:wfD (.int .u64) z=true)(hp:wfD (.int .u32) p=true):
  (k2k [.l TS a,.l TPt b,.l TPt c,.l TRt r,.n x,.n y,.n z,.l TB T,.n p]).sel=some true:=by
 have g: ∀{n:Int},wfD (.int .u64) n=true→n=N (BitVec.ofInt 64 n):=fun{n} h=>by
  have h:=wfi h
  simp[IntKind.min,IntKind.max,IntKind.bits,IntKind.signed]at h
  exact(N_of h.1 (by omega)).symm
 have g2:p=N (BitVec.ofInt 32 p):=by
  have h:=wfi hp
  simp[IntKind.min,IntKind.max,IntKind.bits,IntKind.signed]at h
  exact(N_of h.1 (by omega)).symm
 rw[g hx,g hy,g hz,g2]
 exact W3_true a b c r ⟨_,_,_,T,_⟩ hs
end Go.Proofs.Ytcbhgaeiokfcdaa.Vx
end
