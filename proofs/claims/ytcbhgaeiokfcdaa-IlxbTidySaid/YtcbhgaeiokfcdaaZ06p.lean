import Derived.Test.YtcbhgaeiokfcdaaVxAsk
import Derived.Test.YtcbhgaeiokfcdaaZ06q
import Derived.KernelRfl
import Derived.Test.YtcbhgaeiokfcdaaZ06n
noncomputable section
namespace Go.Proofs.Ytcbhgaeiokfcdaa.Vx
open Go Go.RowKit
set_option linter.unusedVariables false
set_option linter.unusedSimpArgs false
set_option maxRecDepth 100000
set_option maxHeartbeats 0
abbrev TB:Ty:=.int .u8
abbrev TCmd:Ty:=.pair (.int .u8) (.int .i64)
abbrev TQr:Ty:=.pair (.int .i64) (.pair (.int .i64) (.pair (.sl (.int .i64)) (.pair (.sl TNd) (.sl (.int .i64)))))
def fnC (f:Nat)(cs:List PV):PV:=.fn (.func f) [] cs
def mB (h:Nat):PB:=.cells [.imm TI h,.imm TQr (h+1)]
def mO (a:Nat):PB:=.cells [.own a,.nilsl]
def mP (a:Nat):PB:=.cells [.own a,.own (a+1)]
def stV (h:Nat):PV:=.agg [.int .u64 h,.int .u64 (h+1),.int .u64 (h+2),.arrd TB 64 (h+3),.int .u32 (h+4)]
def stB (h:Nat):PB:=.cells [.int .u64 h,.int .u64 (h+1),.int .u64 (h+2),.arrd TB 64 (h+3),.int .u32 (h+4)]
def S_i38:BSh:={args:=[.int .u64 0,.int .i64 1],blks:=[],log:=[],outs:=[(.bool 0,[])]}
def ev_i38:List Dat→Tree (Nat×List Dat):=evF r2y 38 ls0 S_i38
theorem e_i38: ∃op,IsF ev_i38 38 S_i38 op:=bxF p1j (LsOk.none _ _ _)
def op_i38:OpA:=opF e_i38
def b3e:FuncId→Option a0f:=a0k 38 (S_i38.k op_i38) r2y
theorem r1b:CsOk Try.prog b3e:=csL1 p1j e_i38
def S_i37:BSh:={args:=[.int .u64 0,.int .i64 1,.bool 2],blks:=[],log:=[],outs:=[(.int .u64 0,[])]}
def ev_i37:List Dat→Tree (Nat×List Dat):=evF b3e 37 ls0 S_i37
theorem e_i37: ∃op,IsF ev_i37 37 S_i37 op:=bxF r1b (LsOk.none _ _ _)
def op_i37:OpA:=opF e_i37
def e2b:FuncId→Option a0f:=a0k 37 (S_i37.k op_i37) b3e
theorem b1v:CsOk Try.prog e2b:=csL1 r1b e_i37
def a3l:LSh:={K:=0,log:=[],ins:=[(sh 20 [(0,.int .u64 0),(5,.own 0),(7,.int .i64 1),(8,.int .i64 2)],[.arr TI 3])],nils:=[(5,TI)],outs:=[(.exit 0,sh 20 [(5,.own 0)],[.arr TI 0])],cv:=[]}
def m3x:List Dat→Tree Step:=evL e2b 31 3 ls0 a3l
theorem c3x: ∃op,IsL m3x 31 3 a3l op:=bxL b1v (LsOk.none _ _ _)
abbrev k3z:MBox:=boxL c3x
def S_i31:BSh:={args:=[.int .u64 0,.int .i64 1],blks:=[],log:=[],outs:=[(.own 0,[.arr TI 0])]}
def ev_i31:List Dat→Tree (Nat×List Dat):=evFN [(0,TI)] e2b 31 (lsM [(3,k3z)] 0) S_i31
theorem e_i31: ∃op,IsF ev_i31 31 S_i31 op:=bxFN b1v (lsE (lsC (b0b c3x) (atF) lsZ))
def op_i31:OpA:=opF e_i31
def p1x:FuncId→Option a0f:=a0k 31 (S_i31.k op_i31) e2b
theorem u0e:CsOk Try.prog p1x:=csL1 b1v e_i31
def w2d:LSh:={K:=0,log:=[],ins:=[(sh 83 [(1,.ptr 0 0),(4,.own 1),(6,.ptr 2 0),(22,.imm TPt 0),(23,.int .i64 1),(24,.int .i64 2)],[laB 3,.arr TU 7,mO 3,.arr TI 8])],nils:=[],outs:=[(.exit 0,sh 83 [(1,.ptr 0 0),(4,.own 1),(6,.ptr 2 0)],[laB 0,.arr TU 4,mO 3,.arr TI 5])],cv:=[(6,[],0,.own TI)]}
def f3l:List Dat→Tree Step:=evL p1x 13 6 ls0 w2d
theorem t2q: ∃op,IsL f3l 13 6 w2d op:=bxL u0e (LsOk.none _ _ _)
abbrev k3u:MBox:=boxL t2q
def e2h:LSh:={K:=0,log:=[],ins:=[(sh 83 [(1,.ptr 0 0),(4,.own 1),(6,.ptr 2 0),(41,.imm TRt 0),(42,.int .i64 1),(43,.int .i64 2)],[laB 3,.arr TU 7,mP 3,.arr TI 8,.arr TQr 9])],nils:=[],outs:=[(.exit 2,sh 83 [(6,.ptr 0 0)],[mP 1,.arr TI 0,.arr TQr 1])],cv:=[(6,[],1,.own TQr)]}
def y2s:List Dat→Tree Step:=evL p1x 13 11 ls0 e2h
theorem d2u: ∃op,IsL y2s 13 11 e2h op:=bxL u0e (LsOk.none _ _ _)
abbrev t2p:MBox:=boxL d2u
def S_i11:BSh:={args:=[laV 0],blks:=[],log:=[],outs:=[(.tup [.ptr 0 0,.int .i64 0],[mB 1]),(.tup [.nilptr,.int .i64 0],[])]}
def ev_i11:List Dat→Tree (Nat×List Dat):=evFV [(none,0,.imm TI),(none,1,.imm TQr)] p1x 13 (lsM [(6,k3u),(11,t2p)] 0) S_i11
theorem e_i11: ∃op,IsF ev_i11 13 S_i11 op:=bxFV u0e (lsE (lsC (b0b t2q) (atF) (lsC (b0b d2u) (atF) lsZ)))
def op_i11:OpA:=opF e_i11
def g1n:FuncId→Option a0f:=d0e 13 [S_i11.k op_i11] p1x
theorem n0v:CsOk Try.prog g1n:=csA1 u0e e_i11
def wcB (h:Nat):PB:=.cells [.int .u32 h]
def S_q13:BSh:={args:=[.int .u64 0,.int .i64 1],blks:=[],log:=[],outs:=[(.int .u64 0,[])]}
def ev_q13:List Dat→Tree (Nat×List Dat):=evF g1n 49 ls0 S_q13
theorem n2n: ∃op,IsF ev_q13 49 S_q13 op:=bxF n0v (LsOk.none _ _ _)
def c1l:OpA:=opF n2n
theorem d3l {n0 n1:Int}(h0:(n1<(0:Int))):c1l [.n n0,.n n1]=some ((0,[.n n0])):=a0g n2n (sT (dt h0)<|sP [1,1,1,1,1]<|sL)
theorem r2a {n0 n1:Int}(h0:(¬n1<(0:Int)))(h1:(n1>(63:Int))):c1l [.n n0,.n n1]=some ((0,[.n n0])):=a0g n2n (sF (df h0)<|sT (dt h1)<|sP [1,1,1]<|sL)
theorem t2a {n0 n1:Int}{b2:Bool}(h0:(¬n1<(0:Int)))(h1:(¬n1>(63:Int)))(h2:(d0q [.n n0,.n n1])=(some (0,[.b b2])))(h3:(b2=true)):c1l [.n n0,.n n1]=some ((0,[.n n0])):=a0g n2n (sF (df h0)<|sF (df h1)<|sA h2<|sP [1,1]<|sT h3<|sP [1]<|sL)
theorem q2n {n0 n1:Int}{b2:Bool}{n3:Int}(h0:(¬n1<(0:Int)))(h1:(¬n1>(63:Int)))(h2:(d0q [.n n0,.n n1])=(some (0,[.b b2])))(h3:(b2=false))(h4:(t1i [.n n1])=(some (0,[.n n3]))):c1l [.n n0,.n n1]=some ((0,[.n (IntKind.wrap .u64 (n0+n3))])):=a0g n2n (sF (df h0)<|sF (df h1)<|sA h2<|sP [1,1]<|sF h3<|sA h4<|sP [1,1,1]<|sL)
def f2t:FuncId→Option a0f:=a0k 49 (S_q13.k c1l) g1n
theorem b1f:CsOk Try.prog f2t:=csL1 n0v n2n
def e3z:LSh:={K:=0,log:=[],ins:=[(sh 18 [(0,.int .i64 0),(3,.int .u64 1),(4,.int .i64 2)],[])],nils:=[],outs:=[(.exit 0,sh 18 [(3,.int .u64 0)],[])],cv:=[]}
def p0w:List Dat→Tree Step:=evL f2t 21 3 ls0 e3z
theorem i1y: ∃op,IsL p0w 21 3 e3z op:=bxL b1f (LsOk.none _ _ _)
def e2u:OpA:=opL i1y
theorem x1a (env:List Dat):e2u env=a0b p0w FU env:=b0t i1y env
abbrev g3l:MBox:=boxL i1y
theorem b2e {n0 n1 n2 n3:Int}(h0:(n2<n0))(h1:(n2<(64:Int)))(h2:(c1l [.n n1,.n n2])=(some (0,[.n n3]))):(p0w [.k 0,.n n0,.n n1,.n n2]).sel=some (Step.go [.k 0,.n n0,.n n3,.n (IntKind.wrap .i64 (n2+(1:Int)))]):=sP [1]<|sT (dt h0)<|sT (dt h1)<|sA h2<|sP [1,1,1]<|sL
theorem v1h {n0 n1 n2:Int}(h0:(n2<n0))(h1:(¬n2<(64:Int))):(p0w [.k 0,.n n0,.n n1,.n n2]).sel=some (Step.stop 0 [.n n1]):=sP [1]<|sT (dt h0)<|sF (df h1)<|sP [1]<|sL
theorem x1n {n0 n1 n2:Int}(h0:(¬n2<n0)):(p0w [.k 0,.n n0,.n n1,.n n2]).sel=some (Step.stop 0 [.n n1]):=sP [1]<|sF (df h0)<|sP [0,0,1]<|sL
def S_q27:BSh:={args:=[.int .i64 0],blks:=[],log:=[],outs:=[(.int .u64 0,[])]}
def ev_q27:List Dat→Tree (Nat×List Dat):=evF f2t 21 (lsM [(3,g3l)] 0) S_q27
theorem e_q27: ∃op,IsF ev_q27 21 S_q27 op:=bxF b1f (lsE (lsC (b0b i1y) (atF) lsZ))
def g1g:OpA:=opF e_q27
theorem q2z {n0 n1:Int}(h0:(e2u [.k 0,.n n0,.n (0:Int),.n (0:Int)])=(some (0,[.n n1]))):g1g [.n n0]=some ((0,[.n n1])):=a0g e_q27 (sA h0<|sP [1,1]<|sL)
def d2s:FuncId→Option a0f:=a0k 21 (S_q27.k g1g) f2t
theorem e1u:CsOk Try.prog d2s:=csL1 b1f e_q27
def q2g:LSh:={K:=0,log:=[],ins:=[(sh 55 [(2,.ptr 0 0),(3,.ptr 1 0),(4,.ptr 2 0),(5,.ptr 3 0),(6,.int .i64 0)],[laB 1,stB 5,stB 10,stB 15])],nils:=[],outs:=[(.exit 0,sh 55 [(4,.ptr 0 0),(5,.ptr 1 0)],[stB 0,stB 5])],cv:=[]}
def h0z:List Dat→Tree Step:=evL d2s 8 5 ls0 q2g
theorem m1a: ∃op,IsL h0z 8 5 q2g op:=bxL e1u (LsOk.none _ _ _)
def y0t:OpA:=opL m1a
theorem w1f (env:List Dat):y0t env=a0b h0z FU env:=b0t m1a env
abbrev m3j:MBox:=boxL m1a
theorem w1x {n0:Int}{l1:List (Ty.den TS)}{l2 l3:List (Ty.den TPt)}{l4:List (Ty.den TRt)}{n5 n6 n7:Int}{l8:List (Ty.den TB)}{n9 n10 n11 n12:Int}{l13:List (Ty.den TB)}{n14 n15 n16 n17:Int}{l18:List (Ty.den TB)}{n19:Int}{b20:Bool}(g0:0≤n0)(h0:(n0<(↑(List.length l4):Int)))(h1:(d0q [.n n17,.n n0])=(some (0,[.b b20])))(h2:(b20=true))(h3:(inR n0 64=true)):(h0z [.k 0,.n n0,.l TS l1,.l TPt l2,.l TPt l3,.l TRt l4,.n n5,.n n6,.n n7,.l TB l8,.n n9,.n n10,.n n11,.n n12,.l TB l13,.n n14,.n n15,.n n16,.n n17,.l TB l18,.n n19]).sel=some (Step.go [.k 0,.n (IntKind.wrap .i64 (n0+(1:Int))),.l TS l1,.l TPt l2,.l TPt l3,.l TRt l4,.n n5,.n n6,.n n7,.l TB l8,.n n9,.n n10,.n n11,.n n12,.l TB l13,.n n14,.n n15,.n n16,.n n17,.l TB (List.set l18 (Int.toNat n0) (imin (List.getD l8 (Int.toNat n0) (0:Int)) (20:Int))),.n n19]):=sP [1]<|sT (dt h0)<|sA h1<|sP [1,1]<|sT h2<|sT h3<|sT h3<|sP [1]<|sL
theorem w1v {n0:Int}{l1:List (Ty.den TS)}{l2 l3:List (Ty.den TPt)}{l4:List (Ty.den TRt)}{n5 n6 n7:Int}{l8:List (Ty.den TB)}{n9 n10 n11 n12:Int}{l13:List (Ty.den TB)}{n14 n15 n16 n17:Int}{l18:List (Ty.den TB)}{n19:Int}{b20:Bool}(g0:0≤n0)(h0:(n0<(↑(List.length l4):Int)))(h1:(d0q [.n n17,.n n0])=(some (0,[.b b20])))(h2:(b20=false)):(h0z [.k 0,.n n0,.l TS l1,.l TPt l2,.l TPt l3,.l TRt l4,.n n5,.n n6,.n n7,.l TB l8,.n n9,.n n10,.n n11,.n n12,.l TB l13,.n n14,.n n15,.n n16,.n n17,.l TB l18,.n n19]).sel=some (Step.go [.k 0,.n (IntKind.wrap .i64 (n0+(1:Int))),.l TS l1,.l TPt l2,.l TPt l3,.l TRt l4,.n n5,.n n6,.n n7,.l TB l8,.n n9,.n n10,.n n11,.n n12,.l TB l13,.n n14,.n n15,.n n16,.n n17,.l TB l18,.n n19]):=sP [1]<|sT (dt h0)<|sA h1<|sP [1,1]<|sF h2<|sP [1]<|sL
theorem w1w {n0:Int}{l1:List (Ty.den TS)}{l2 l3:List (Ty.den TPt)}{l4:List (Ty.den TRt)}{n5 n6 n7:Int}{l8:List (Ty.den TB)}{n9 n10 n11 n12:Int}{l13:List (Ty.den TB)}{n14 n15 n16 n17:Int}{l18:List (Ty.den TB)}{n19:Int}(g0:0≤n0)(h0:(¬n0<(↑(List.length l4):Int))):(h0z [.k 0,.n n0,.l TS l1,.l TPt l2,.l TPt l3,.l TRt l4,.n n5,.n n6,.n n7,.l TB l8,.n n9,.n n10,.n n11,.n n12,.l TB l13,.n n14,.n n15,.n n16,.n n17,.l TB l18,.n n19]).sel=some (Step.stop 0 [.n n10,.n n11,.n n12,.l TB l13,.n n14,.n n15,.n n16,.n n17,.l TB l18,.n n19]):=sP [1]<|sF (df h0)<|sP [1]<|sL
def S_j17:BSh:={args:=[laV 0,stV 4],blks:=[],log:=[],outs:=[(stV 0,[])]}
def ev_j17:List Dat→Tree (Nat×List Dat):=evF d2s 8 (lsM [(5,m3j)] 0) S_j17
theorem e_j17: ∃op,IsF ev_j17 8 S_j17 op:=bxF e1u (lsE (lsC (b0b m1a) (atF) lsZ))
def c1q:OpA:=opF e_j17
theorem p2l {l0:List (Ty.den TS)}{l1 l2:List (Ty.den TPt)}{l3:List (Ty.den TRt)}{n4 n5 n6:Int}{l7:List (Ty.den TB)}{n8 n9 n10 n11 n12 n13:Int}{l14:List (Ty.den TB)}{n15 n16 n17 n18:Int}{l19:List (Ty.den TB)}{n20:Int}(h0:(g1g [.n (↑(List.length l3):Int)])=(some (0,[.n n9])))(h1:(g1g [.n (↑(List.length l1):Int)])=(some (0,[.n n10])))(h2:(y0t [.k 0,.n (0:Int),.l TS l0,.l TPt l1,.l TPt l2,.l TRt l3,.n n4,.n n5,.n n6,.l TB l7,.n n8,.n (0:Int),.n (0:Int),.n (0:Int),.l TB (List.replicate 64 (0:Int)),.n (0:Int),.n (iand IntKind.u64 n4 n9),.n (iand IntKind.u64 n5 (iand IntKind.u64 n4 n9)),.n (iand IntKind.u64 n6 (iand IntKind.u64 n4 n9)),.l TB (List.replicate 64 (0:Int)),.n (iand IntKind.u32 n8 (IntKind.wrap .u32 n10))])=(some (0,[.n n11,.n n12,.n n13,.l TB l14,.n n15,.n n16,.n n17,.n n18,.l TB l19,.n n20]))):c1q [.l TS l0,.l TPt l1,.l TPt l2,.l TRt l3,.n n4,.n n5,.n n6,.l TB l7,.n n8]=some ((0,[.n n16,.n n17,.n n18,.l TB l19,.n n20])):=a0g e_j17 (sA h0<|sP [1,1]<|sA h1<|sP [1,1,1]<|sA h2<|sP [1,1]<|sL)
def h1o:FuncId→Option a0f:=a0k 8 (S_j17.k c1q) d2s
theorem n0c:CsOk Try.prog h1o:=csL1 e1u e_j17
def b3n:LSh:={K:=0,log:=[],ins:=[(sh 88 [(2,.ptr 0 0),(3,.ptr 1 0),(5,.int .i64 0),(6,.int .i64 1)],[laB 2,stB 6])],nils:=[],outs:=[(.exit 2,sh 88 [(2,.ptr 0 0),(3,.ptr 1 0),(5,.int .i64 0)],[laB 1,stB 5]),(.ret,sh 88 [(4,.bool 0)],[])],cv:=[]}
def g0g:List Dat→Tree Step:=evL h1o 10 7 ls0 b3n
theorem n1h: ∃op,IsL g0g 10 7 b3n op:=bxL n0c (LsOk.none _ _ _)
def p0z:OpA:=opL n1h
theorem d1j (env:List Dat):p0z env=a0b g0g FU env:=b0t n1h env
abbrev h3h:MBox:=boxL n1h
theorem a2o {n0 n1:Int}{l2:List (Ty.den TS)}{l3 l4:List (Ty.den TPt)}{l5:List (Ty.den TRt)}{n6 n7 n8:Int}{l9:List (Ty.den TB)}{n10:Int}{b11 b12 b13:Bool}(g0:0≤n1)(g1:0≤n0)(g2:n0<(l5.length:Int))(h0:(n1<(↑(List.length l5):Int)))(h1:(d0q [.n n6,.n n0])=(some (0,[.b b11])))(h2:(b11=true))(h3:(¬n0=n1))(h4:(d0q [.n n6,.n n1])=(some (0,[.b b12])))(h5:(b12=true))(h6:(y0c [.l TS l2,.l TPt l3,.l TPt l4,.l TRt l5,.s (Prod.fst (List.getD l5 (Int.toNat n0) (Ty.dflt TRt))),.n (Prod.fst (Prod.snd (List.getD l5 (Int.toNat n0) (Ty.dflt TRt)))),.l TI (Prod.fst (Prod.snd (Prod.snd (List.getD l5 (Int.toNat n0) (Ty.dflt TRt))))),.l TNd (Prod.fst (Prod.snd (Prod.snd (Prod.snd (List.getD l5 (Int.toNat n0) (Ty.dflt TRt)))))),.l TI (Prod.fst (Prod.snd (Prod.snd (Prod.snd (Prod.snd (List.getD l5 (Int.toNat n0) (Ty.dflt TRt))))))),.l TNd (Prod.snd (Prod.snd (Prod.snd (Prod.snd (Prod.snd (List.getD l5 (Int.toNat n0) (Ty.dflt TRt))))))),.s (Prod.fst (List.getD l5 (Int.toNat n1) (Ty.dflt TRt))),.n (Prod.fst (Prod.snd (List.getD l5 (Int.toNat n1) (Ty.dflt TRt)))),.l TI (Prod.fst (Prod.snd (Prod.snd (List.getD l5 (Int.toNat n1) (Ty.dflt TRt))))),.l TNd (Prod.fst (Prod.snd (Prod.snd (Prod.snd (List.getD l5 (Int.toNat n1) (Ty.dflt TRt)))))),.l TI (Prod.fst (Prod.snd (Prod.snd (Prod.snd (Prod.snd (List.getD l5 (Int.toNat n1) (Ty.dflt TRt))))))),.l TNd (Prod.snd (Prod.snd (Prod.snd (Prod.snd (Prod.snd (List.getD l5 (Int.toNat n1) (Ty.dflt TRt)))))))])=(some (0,[.b b13])))(h7:(b13=true)):(g0g [.k 0,.n n0,.n n1,.l TS l2,.l TPt l3,.l TPt l4,.l TRt l5,.n n6,.n n7,.n n8,.l TB l9,.n n10]).sel=some (Step.stop 1 [.b false]):=sP [1]<|sT (dt h0)<|sA h1<|sP [1,1]<|sT h2<|sT (bnt h3)<|sA h4<|sP [1,1]<|sT h5<|sTo (c:=(inR n0 (List.length l5)))<|sTo (c:=(inR n1 (List.length l5)))<|sA h6<|sP [1,1,1]<|sT h7<|sP [1]<|sL
theorem a2k {n0 n1:Int}{l2:List (Ty.den TS)}{l3 l4:List (Ty.den TPt)}{l5:List (Ty.den TRt)}{n6 n7 n8:Int}{l9:List (Ty.den TB)}{n10:Int}{b11 b12 b13:Bool}(g0:0≤n1)(g1:0≤n0)(g2:n0<(l5.length:Int))(h0:(n1<(↑(List.length l5):Int)))(h1:(d0q [.n n6,.n n0])=(some (0,[.b b11])))(h2:(b11=true))(h3:(¬n0=n1))(h4:(d0q [.n n6,.n n1])=(some (0,[.b b12])))(h5:(b12=true))(h6:(y0c [.l TS l2,.l TPt l3,.l TPt l4,.l TRt l5,.s (Prod.fst (List.getD l5 (Int.toNat n0) (Ty.dflt TRt))),.n (Prod.fst (Prod.snd (List.getD l5 (Int.toNat n0) (Ty.dflt TRt)))),.l TI (Prod.fst (Prod.snd (Prod.snd (List.getD l5 (Int.toNat n0) (Ty.dflt TRt))))),.l TNd (Prod.fst (Prod.snd (Prod.snd (Prod.snd (List.getD l5 (Int.toNat n0) (Ty.dflt TRt)))))),.l TI (Prod.fst (Prod.snd (Prod.snd (Prod.snd (Prod.snd (List.getD l5 (Int.toNat n0) (Ty.dflt TRt))))))),.l TNd (Prod.snd (Prod.snd (Prod.snd (Prod.snd (Prod.snd (List.getD l5 (Int.toNat n0) (Ty.dflt TRt))))))),.s (Prod.fst (List.getD l5 (Int.toNat n1) (Ty.dflt TRt))),.n (Prod.fst (Prod.snd (List.getD l5 (Int.toNat n1) (Ty.dflt TRt)))),.l TI (Prod.fst (Prod.snd (Prod.snd (List.getD l5 (Int.toNat n1) (Ty.dflt TRt))))),.l TNd (Prod.fst (Prod.snd (Prod.snd (Prod.snd (List.getD l5 (Int.toNat n1) (Ty.dflt TRt)))))),.l TI (Prod.fst (Prod.snd (Prod.snd (Prod.snd (Prod.snd (List.getD l5 (Int.toNat n1) (Ty.dflt TRt))))))),.l TNd (Prod.snd (Prod.snd (Prod.snd (Prod.snd (Prod.snd (List.getD l5 (Int.toNat n1) (Ty.dflt TRt)))))))])=(some (0,[.b b13])))(h7:(b13=false)):(g0g [.k 0,.n n0,.n n1,.l TS l2,.l TPt l3,.l TPt l4,.l TRt l5,.n n6,.n n7,.n n8,.l TB l9,.n n10]).sel=some (Step.go [.k 0,.n n0,.n (IntKind.wrap .i64 (n1+(1:Int))),.l TS l2,.l TPt l3,.l TPt l4,.l TRt l5,.n n6,.n n7,.n n8,.l TB l9,.n n10]):=sP [1]<|sT (dt h0)<|sA h1<|sP [1,1]<|sT h2<|sT (bnt h3)<|sA h4<|sP [1,1]<|sT h5<|sTo (c:=(inR n0 (List.length l5)))<|sTo (c:=(inR n1 (List.length l5)))<|sA h6<|sP [1,1,1]<|sF h7<|sP [1]<|sL
theorem a2p {n0 n1:Int}{l2:List (Ty.den TS)}{l3 l4:List (Ty.den TPt)}{l5:List (Ty.den TRt)}{n6 n7 n8:Int}{l9:List (Ty.den TB)}{n10:Int}{b11 b12:Bool}(g0:0≤n1)(g1:0≤n0)(g2:n0<(l5.length:Int))(h0:(n1<(↑(List.length l5):Int)))(h1:(d0q [.n n6,.n n0])=(some (0,[.b b11])))(h2:(b11=true))(h3:(¬n0=n1))(h4:(d0q [.n n6,.n n1])=(some (0,[.b b12])))(h5:(b12=false)):(g0g [.k 0,.n n0,.n n1,.l TS l2,.l TPt l3,.l TPt l4,.l TRt l5,.n n6,.n n7,.n n8,.l TB l9,.n n10]).sel=some (Step.go [.k 0,.n n0,.n (IntKind.wrap .i64 (n1+(1:Int))),.l TS l2,.l TPt l3,.l TPt l4,.l TRt l5,.n n6,.n n7,.n n8,.l TB l9,.n n10]):=sP [1]<|sT (dt h0)<|sA h1<|sP [1,1]<|sT h2<|sT (bnt h3)<|sA h4<|sP [1,1]<|sF h5<|sP [0,1,0,1]<|sL
theorem a2v {n0 n1:Int}{l2:List (Ty.den TS)}{l3 l4:List (Ty.den TPt)}{l5:List (Ty.den TRt)}{n6 n7 n8:Int}{l9:List (Ty.den TB)}{n10:Int}{b11:Bool}(g0:0≤n1)(g1:0≤n0)(g2:n0<(l5.length:Int))(h0:(n1<(↑(List.length l5):Int)))(h1:(d0q [.n n6,.n n0])=(some (0,[.b b11])))(h2:(b11=true))(h3:(n0=n1)):(g0g [.k 0,.n n0,.n n1,.l TS l2,.l TPt l3,.l TPt l4,.l TRt l5,.n n6,.n n7,.n n8,.l TB l9,.n n10]).sel=some (Step.go [.k 0,.n n0,.n (IntKind.wrap .i64 (n1+(1:Int))),.l TS l2,.l TPt l3,.l TPt l4,.l TRt l5,.n n6,.n n7,.n n8,.l TB l9,.n n10]):=sP [1]<|sT (dt h0)<|sA h1<|sP [1,1]<|sT h2<|sF (bnf h3)<|sP [0,0,0,1,0,1]<|sL
theorem x1h {n0 n1:Int}{l2:List (Ty.den TS)}{l3 l4:List (Ty.den TPt)}{l5:List (Ty.den TRt)}{n6 n7 n8:Int}{l9:List (Ty.den TB)}{n10:Int}{b11:Bool}(g0:0≤n1)(g1:0≤n0)(g2:n0<(l5.length:Int))(h0:(n1<(↑(List.length l5):Int)))(h1:(d0q [.n n6,.n n0])=(some (0,[.b b11])))(h2:(b11=false)):(g0g [.k 0,.n n0,.n n1,.l TS l2,.l TPt l3,.l TPt l4,.l TRt l5,.n n6,.n n7,.n n8,.l TB l9,.n n10]).sel=some (Step.stop 0 [.n n0,.l TS l2,.l TPt l3,.l TPt l4,.l TRt l5,.n n6,.n n7,.n n8,.l TB l9,.n n10]):=sP [1]<|sT (dt h0)<|sA h1<|sP [1,1]<|sF h2<|sP [1]<|sL
theorem z1h {n0 n1:Int}{l2:List (Ty.den TS)}{l3 l4:List (Ty.den TPt)}{l5:List (Ty.den TRt)}{n6 n7 n8:Int}{l9:List (Ty.den TB)}{n10:Int}(g0:0≤n1)(g1:0≤n0)(g2:n0<(l5.length:Int))(h0:(¬n1<(↑(List.length l5):Int))):(g0g [.k 0,.n n0,.n n1,.l TS l2,.l TPt l3,.l TPt l4,.l TRt l5,.n n6,.n n7,.n n8,.l TB l9,.n n10]).sel=some (Step.stop 0 [.n n0,.l TS l2,.l TPt l3,.l TPt l4,.l TRt l5,.n n6,.n n7,.n n8,.l TB l9,.n n10]):=sP [1]<|sF (df h0)<|sP [0,0,1]<|sL
def e2m:LSh:={K:=0,log:=[],ins:=[(sh 88 [(2,.ptr 0 0),(3,.ptr 1 0),(5,.int .i64 0),(7,.own 2),(8,.int .i64 1)],[laB 2,stB 6,.arr TNd 11])],nils:=[],outs:=[(.exit 4,sh 88 [(2,.ptr 0 0),(3,.ptr 1 0),(5,.int .i64 0)],[laB 1,stB 5]),(.ret,sh 88 [(4,.bool 0)],[])],cv:=[]}
def h0d:List Dat→Tree Step:=evL h1o 10 13 ls0 e2m
theorem a1m: ∃op,IsL h0d 10 13 e2m op:=bxL n0c (LsOk.none _ _ _)
def t0o:OpA:=opL a1m
theorem r1d (env:List Dat):t0o env=a0b h0d FU env:=b0t a1m env
abbrev x2s:MBox:=boxL a1m
theorem t1j {n0 n1:Int}{l2:List (Ty.den TS)}{l3 l4:List (Ty.den TPt)}{l5:List (Ty.den TRt)}{n6 n7 n8:Int}{l9:List (Ty.den TB)}{n10:Int}{l11:List (Ty.den TNd)}{b12:Bool}(g0:0≤n1)(h0:(n1<(↑(List.length l11):Int)))(h1:(d0q [.n n6,.n n0])=(some (0,[.b b12])))(h2:(b12=true))(h3:(¬(Prod.fst (List.getD l11 (Int.toNat n1) (Ty.dflt TNd)):Int)<(0:Int)))(h4:(((iand IntKind.u32 (ishr IntKind.u32 n10 (Prod.fst (List.getD l11 (Int.toNat n1) (Ty.dflt TNd)))) (1:Int)==(1:Int))==Prod.snd (List.getD l11 (Int.toNat n1) (Ty.dflt TNd)))=false)):(h0d [.k 0,.n n0,.n n1,.l TS l2,.l TPt l3,.l TPt l4,.l TRt l5,.n n6,.n n7,.n n8,.l TB l9,.n n10,.l TNd l11]).sel=some (Step.stop 1 [.b false]):=sP [1]<|sT (dt h0)<|sA h1<|sP [1,1]<|sT h2<|sTo (c:=(inR n1 (List.length l11)))<|sP [1]<|sT (nf (df h3))<|sP [1]<|sTo (c:=(inR n1 (List.length l11)))<|sP [1]<|sT (nf h4)<|sP [1]<|sL
theorem u1b {n0 n1:Int}{l2:List (Ty.den TS)}{l3 l4:List (Ty.den TPt)}{l5:List (Ty.den TRt)}{n6 n7 n8:Int}{l9:List (Ty.den TB)}{n10:Int}{l11:List (Ty.den TNd)}{b12:Bool}(g0:0≤n1)(h0:(n1<(↑(List.length l11):Int)))(h1:(d0q [.n n6,.n n0])=(some (0,[.b b12])))(h2:(b12=true))(h3:(¬(Prod.fst (List.getD l11 (Int.toNat n1) (Ty.dflt TNd)):Int)<(0:Int)))(h4:(((iand IntKind.u32 (ishr IntKind.u32 n10 (Prod.fst (List.getD l11 (Int.toNat n1) (Ty.dflt TNd)))) (1:Int)==(1:Int))==Prod.snd (List.getD l11 (Int.toNat n1) (Ty.dflt TNd)))=true)):(h0d [.k 0,.n n0,.n n1,.l TS l2,.l TPt l3,.l TPt l4,.l TRt l5,.n n6,.n n7,.n n8,.l TB l9,.n n10,.l TNd l11]).sel=some (Step.go [.k 0,.n n0,.n (IntKind.wrap .i64 (n1+(1:Int))),.l TS l2,.l TPt l3,.l TPt l4,.l TRt l5,.n n6,.n n7,.n n8,.l TB l9,.n n10,.l TNd l11]):=sP [1]<|sT (dt h0)<|sA h1<|sP [1,1]<|sT h2<|sTo (c:=(inR n1 (List.length l11)))<|sP [1]<|sT (nf (df h3))<|sP [1]<|sTo (c:=(inR n1 (List.length l11)))<|sP [1]<|sF (nt h4)<|sP [1]<|sL
theorem p1a {n0 n1:Int}{l2:List (Ty.den TS)}{l3 l4:List (Ty.den TPt)}{l5:List (Ty.den TRt)}{n6 n7 n8:Int}{l9:List (Ty.den TB)}{n10:Int}{l11:List (Ty.den TNd)}{b12:Bool}(g0:0≤n1)(h0:(n1<(↑(List.length l11):Int)))(h1:(d0q [.n n6,.n n0])=(some (0,[.b b12])))(h2:(b12=false)):(h0d [.k 0,.n n0,.n n1,.l TS l2,.l TPt l3,.l TPt l4,.l TRt l5,.n n6,.n n7,.n n8,.l TB l9,.n n10,.l TNd l11]).sel=some (Step.go [.k 0,.n n0,.n (IntKind.wrap .i64 (n1+(1:Int))),.l TS l2,.l TPt l3,.l TPt l4,.l TRt l5,.n n6,.n n7,.n n8,.l TB l9,.n n10,.l TNd l11]):=sP [1]<|sT (dt h0)<|sA h1<|sP [1,1]<|sF h2<|sP [0,1,0,1]<|sL
theorem o1z {n0 n1:Int}{l2:List (Ty.den TS)}{l3 l4:List (Ty.den TPt)}{l5:List (Ty.den TRt)}{n6 n7 n8:Int}{l9:List (Ty.den TB)}{n10:Int}{l11:List (Ty.den TNd)}(g0:0≤n1)(h0:(¬n1<(↑(List.length l11):Int))):(h0d [.k 0,.n n0,.n n1,.l TS l2,.l TPt l3,.l TPt l4,.l TRt l5,.n n6,.n n7,.n n8,.l TB l9,.n n10,.l TNd l11]).sel=some (Step.stop 0 [.n n0,.l TS l2,.l TPt l3,.l TPt l4,.l TRt l5,.n n6,.n n7,.n n8,.l TB l9,.n n10]):=sP [1]<|sF (df h0)<|sP [1]<|sL
def e3r:LSh:={K:=0,log:=[],ins:=[(sh 88 [(2,.ptr 0 0),(3,.ptr 1 0),(5,.int .i64 0)],[laB 1,stB 5])],nils:=[],outs:=[(.exit 0,sh 88 [],[]),(.ret,sh 88 [(4,.bool 0)],[])],cv:=[]}
def m0f:List Dat→Tree Step:=evL h1o 10 4 (lsM [(7,h3h),(13,x2s)] 0) e3r
theorem i1d: ∃op,IsL m0f 10 4 e3r op:=bxL n0c (lsE (lsC (b0b n1h) (by kernel_rfl) (lsC (b0b a1m) (by kernel_rfl) lsZ)))
def a1g:OpA:=opL i1d
theorem x1f (env:List Dat):a1g env=a0b m0f FU env:=b0t i1d env
abbrev k3o:MBox:=boxL i1d
theorem e1j {n0:Int}{l1:List (Ty.den TS)}{l2 l3:List (Ty.den TPt)}{l4:List (Ty.den TRt)}{n5 n6 n7:Int}{l8:List (Ty.den TB)}{n9 n10:Int}{l11:List (Ty.den TS)}{l12 l13:List (Ty.den TPt)}{l14:List (Ty.den TRt)}{n15 n16 n17:Int}{l18:List (Ty.den TB)}{n19:Int}{l20:List (Ty.den TNd)}{n21:Int}{l22:List (Ty.den TS)}{l23 l24:List (Ty.den TPt)}{l25:List (Ty.den TRt)}{n26 n27 n28:Int}{l29:List (Ty.den TB)}{n30:Int}(g0:0≤n0)(h0:(n0<(↑(List.length l4):Int)))(h1:(p0z [.k 0,.n n0,.n (0:Int),.l TS l1,.l TPt l2,.l TPt l3,.l TRt l4,.n n5,.n n6,.n n7,.l TB l8,.n n9])=(some (0,[.n n10,.l TS l11,.l TPt l12,.l TPt l13,.l TRt l14,.n n15,.n n16,.n n17,.l TB l18,.n n19])))(h2:(inR n10 (List.length l14)=true))(h3:(y0m [.s (Prod.fst (List.getD l14 (Int.toNat n10) (Ty.dflt TRt))),.n (Prod.fst (Prod.snd (List.getD l14 (Int.toNat n10) (Ty.dflt TRt)))),.l TI (Prod.fst (Prod.snd (Prod.snd (List.getD l14 (Int.toNat n10) (Ty.dflt TRt))))),.l TNd (Prod.fst (Prod.snd (Prod.snd (Prod.snd (List.getD l14 (Int.toNat n10) (Ty.dflt TRt)))))),.l TI (Prod.fst (Prod.snd (Prod.snd (Prod.snd (Prod.snd (List.getD l14 (Int.toNat n10) (Ty.dflt TRt))))))),.l TNd (Prod.snd (Prod.snd (Prod.snd (Prod.snd (Prod.snd (List.getD l14 (Int.toNat n10) (Ty.dflt TRt)))))))])=(some (0,[.l TNd l20])))(h4:(t0o [.k 0,.n n10,.n (0:Int),.l TS l11,.l TPt l12,.l TPt l13,.l TRt l14,.n n15,.n n16,.n n17,.l TB l18,.n n19,.l TNd l20])=(some (0,[.n n21,.l TS l22,.l TPt l23,.l TPt l24,.l TRt l25,.n n26,.n n27,.n n28,.l TB l29,.n n30]))):(m0f [.k 0,.n n0,.l TS l1,.l TPt l2,.l TPt l3,.l TRt l4,.n n5,.n n6,.n n7,.l TB l8,.n n9]).sel=some (Step.go [.k 0,.n (IntKind.wrap .i64 (n21+(1:Int))),.l TS l22,.l TPt l23,.l TPt l24,.l TRt l25,.n n26,.n n27,.n n28,.l TB l29,.n n30]):=sP [1]<|sT (dt h0)<|sA h1<|sP [1]<|sT h2<|sA h3<|sP [1,1]<|sA h4<|sP [1,1]<|sL
theorem y1c {n0:Int}{l1:List (Ty.den TS)}{l2 l3:List (Ty.den TPt)}{l4:List (Ty.den TRt)}{n5 n6 n7:Int}{l8:List (Ty.den TB)}{n9 n10:Int}{l11:List (Ty.den TS)}{l12 l13:List (Ty.den TPt)}{l14:List (Ty.den TRt)}{n15 n16 n17:Int}{l18:List (Ty.den TB)}{n19:Int}{l20:List (Ty.den TNd)}{b21:Bool}(g0:0≤n0)(h0:(n0<(↑(List.length l4):Int)))(h1:(p0z [.k 0,.n n0,.n (0:Int),.l TS l1,.l TPt l2,.l TPt l3,.l TRt l4,.n n5,.n n6,.n n7,.l TB l8,.n n9])=(some (0,[.n n10,.l TS l11,.l TPt l12,.l TPt l13,.l TRt l14,.n n15,.n n16,.n n17,.l TB l18,.n n19])))(h2:(inR n10 (List.length l14)=true))(h3:(y0m [.s (Prod.fst (List.getD l14 (Int.toNat n10) (Ty.dflt TRt))),.n (Prod.fst (Prod.snd (List.getD l14 (Int.toNat n10) (Ty.dflt TRt)))),.l TI (Prod.fst (Prod.snd (Prod.snd (List.getD l14 (Int.toNat n10) (Ty.dflt TRt))))),.l TNd (Prod.fst (Prod.snd (Prod.snd (Prod.snd (List.getD l14 (Int.toNat n10) (Ty.dflt TRt)))))),.l TI (Prod.fst (Prod.snd (Prod.snd (Prod.snd (Prod.snd (List.getD l14 (Int.toNat n10) (Ty.dflt TRt))))))),.l TNd (Prod.snd (Prod.snd (Prod.snd (Prod.snd (Prod.snd (List.getD l14 (Int.toNat n10) (Ty.dflt TRt)))))))])=(some (0,[.l TNd l20])))(h4:(t0o [.k 0,.n n10,.n (0:Int),.l TS l11,.l TPt l12,.l TPt l13,.l TRt l14,.n n15,.n n16,.n n17,.l TB l18,.n n19,.l TNd l20])=(some (1,[.b b21]))):(m0f [.k 0,.n n0,.l TS l1,.l TPt l2,.l TPt l3,.l TRt l4,.n n5,.n n6,.n n7,.l TB l8,.n n9]).sel=some (Step.stop 1 [.b b21]):=sP [1]<|sT (dt h0)<|sA h1<|sP [1]<|sT h2<|sA h3<|sP [1,1]<|sA h4<|sP [0,1,1]<|sL
theorem a2m {n0:Int}{l1:List (Ty.den TS)}{l2 l3:List (Ty.den TPt)}{l4:List (Ty.den TRt)}{n5 n6 n7:Int}{l8:List (Ty.den TB)}{n9:Int}{b10:Bool}(g0:0≤n0)(h0:(n0<(↑(List.length l4):Int)))(h1:(p0z [.k 0,.n n0,.n (0:Int),.l TS l1,.l TPt l2,.l TPt l3,.l TRt l4,.n n5,.n n6,.n n7,.l TB l8,.n n9])=(some (1,[.b b10]))):(m0f [.k 0,.n n0,.l TS l1,.l TPt l2,.l TPt l3,.l TRt l4,.n n5,.n n6,.n n7,.l TB l8,.n n9]).sel=some (Step.stop 1 [.b b10]):=sP [1]<|sT (dt h0)<|sA h1<|sP [0,1,1]<|sL
theorem v1q {n0:Int}{l1:List (Ty.den TS)}{l2 l3:List (Ty.den TPt)}{l4:List (Ty.den TRt)}{n5 n6 n7:Int}{l8:List (Ty.den TB)}{n9:Int}(g0:0≤n0)(h0:(¬n0<(↑(List.length l4):Int))):(m0f [.k 0,.n n0,.l TS l1,.l TPt l2,.l TPt l3,.l TRt l4,.n n5,.n n6,.n n7,.l TB l8,.n n9]).sel=some (Step.stop 0 []):=sP [1]<|sF (df h0)<|sP [1]<|sL
def S_j18:BSh:={args:=[laV 0,stV 4],blks:=[],log:=[],outs:=[(.bool 0,[])]}
def ev_j18:List Dat→Tree (Nat×List Dat):=evF h1o 10 (lsM [(4,k3o)] 0) S_j18
theorem a3v: ∃op,IsF ev_j18 10 S_j18 op:=bxF n0c (lsE (lsC (b0b i1d) (atF) lsZ))
def e1i:OpA:=opF a3v
theorem p2y {l0:List (Ty.den TS)}{l1 l2:List (Ty.den TPt)}{l3:List (Ty.den TRt)}{n4 n5 n6:Int}{l7:List (Ty.den TB)}{n8 n9 n10 n11:Int}{l12:List (Ty.den TB)}{n13:Int}(h0:(c1q [.l TS l0,.l TPt l1,.l TPt l2,.l TRt l3,.n n4,.n n5,.n n6,.l TB l7,.n n8])=(some (0,[.n n9,.n n10,.n n11,.l TB l12,.n n13])))(h1:((n9==n4&&(n10==n5&&(n11==n6&&(eqL TB l12 l7&&(n13==n8&&true)))))=false)):e1i [.l TS l0,.l TPt l1,.l TPt l2,.l TRt l3,.n n4,.n n5,.n n6,.l TB l7,.n n8]=some ((0,[.b false])):=a0g a3v (sA h0<|sP [1,1,1]<|sT (nf h1)<|sP [1]<|sL)
theorem x2a {l0:List (Ty.den TS)}{l1 l2:List (Ty.den TPt)}{l3:List (Ty.den TRt)}{n4 n5 n6:Int}{l7:List (Ty.den TB)}{n8 n9 n10 n11:Int}{l12:List (Ty.den TB)}{n13:Int}(h0:(c1q [.l TS l0,.l TPt l1,.l TPt l2,.l TRt l3,.n n4,.n n5,.n n6,.l TB l7,.n n8])=(some (0,[.n n9,.n n10,.n n11,.l TB l12,.n n13])))(h1:((n9==n4&&(n10==n5&&(n11==n6&&(eqL TB l12 l7&&(n13==n8&&true)))))=true))(h2:(a1g [.k 0,.n (0:Int),.l TS l0,.l TPt l1,.l TPt l2,.l TRt l3,.n n4,.n n5,.n n6,.l TB l7,.n n8])=(some (0,[]))):e1i [.l TS l0,.l TPt l1,.l TPt l2,.l TRt l3,.n n4,.n n5,.n n6,.l TB l7,.n n8]=some ((0,[.b true])):=a0g a3v (sA h0<|sP [1,1,1]<|sF (nt h1)<|sA h2<|sP [1,1]<|sL)
theorem t2h {l0:List (Ty.den TS)}{l1 l2:List (Ty.den TPt)}{l3:List (Ty.den TRt)}{n4 n5 n6:Int}{l7:List (Ty.den TB)}{n8 n9 n10 n11:Int}{l12:List (Ty.den TB)}{n13:Int}{b14:Bool}(h0:(c1q [.l TS l0,.l TPt l1,.l TPt l2,.l TRt l3,.n n4,.n n5,.n n6,.l TB l7,.n n8])=(some (0,[.n n9,.n n10,.n n11,.l TB l12,.n n13])))(h1:((n9==n4&&(n10==n5&&(n11==n6&&(eqL TB l12 l7&&(n13==n8&&true)))))=true))(h2:(a1g [.k 0,.n (0:Int),.l TS l0,.l TPt l1,.l TPt l2,.l TRt l3,.n n4,.n n5,.n n6,.l TB l7,.n n8])=(some (1,[.b b14]))):e1i [.l TS l0,.l TPt l1,.l TPt l2,.l TRt l3,.n n4,.n n5,.n n6,.l TB l7,.n n8]=some ((0,[.b b14])):=a0g a3v (sA h0<|sP [1,1,1]<|sF (nt h1)<|sA h2<|sP [0,1,1]<|sL)
def p2i:FuncId→Option a0f:=a0k 10 (S_j18.k e1i) h1o
theorem q1j:CsOk Try.prog p2i:=csL1 n0c a3v
structure SQ where
 L:B64
 U:B64
 C:B64
 T:List Int
 P:BitVec 32
def turn (P:BitVec 32)(d:Ty.den TNd):Bool:= !(P.getLsbD (f1 d).toNat==g2 d)
def in32 (l:LN):Prop:=l.length≤100000∧ ∀d∈l,0≤f1 d∧f1 d<32
theorem neg_f {b:Bool}(h:(!b)=true):b=false:=by cases b<;>simp_all
theorem neg_t {b:Bool}(h:(!b)=false):b=true:=by cases b<;>simp_all
def tmL (X:B64)(T:List Int)(k:Nat):List Int:=(List.range 64).map fun n=>bif decide (n<k)&&X.getLsbD n then imin (T.getD n 0) 20 else 0
theorem m0z (X:B64)(T:List Int)(k:Nat):(tmL X T k).length=64:=by unfold tmL;rw[List.length_map,List.length_range]
theorem d1y (X:B64)(T:List Int)(k:Nat){n:Nat}(h:n<64):(tmL X T k).getD n 0=bif decide (n<k)&&X.getLsbD n then imin (T.getD n 0) 20 else 0:=by
 unfold tmL
 rw[List.getD_eq_getElem?_getD,List.getElem?_map,List.getElem?_range h];rfl
theorem j2w {l l':List Int}(h:l.length=64)(h':l'.length=64)(e: ∀n,n<64→l.getD n 0=l'.getD n 0):l=l':=by
 apply List.ext_getElem (by omega)
 intro n h1 h2
 have:=e n (by omega)
 rwa [e0a _ _ h1,e0a _ _ h2]at this
theorem set_at (l:List Int){i n:Nat}(v:Int)(h:n<l.length):(l.set i v).getD n 0=bif decide (i=n)then v else l.getD n 0:=by
 rw[e0a _ _ (by rw[List.length_set];exact h),List.getElem_set,e0a _ _ h]
 by_cases e:i=n
 ·rw[if_pos e,dt e];rfl
 ·rw[if_neg e,df e];rfl
theorem tmL_t {X:B64}(T:List Int){i:Nat}(hi:i<64)(h:X.getLsbD i=true):(tmL X T i).set i (imin (T.getD i 0) 20)=tmL X T (i+1):=by
 refine j2w (by rw[List.length_set,m0z]) (m0z ..) fun n hn=> ?_
 rw[set_at _ _ (by rw[m0z];exact hn),d1y _ _ _ hn,d1y _ _ _ hn]
 by_cases e:i=n
 ·subst e;rw[dt rfl,dt (show i<i+1 by omega),h];rfl
 ·have:decide (n<i)=decide (n<i+1):=by rw[Bool.eq_iff_iff];simp;omega
  rw[df e,this];rfl
theorem tmL_f {X:B64}(T:List Int){i:Nat}(h:X.getLsbD i=false):tmL X T i=tmL X T (i+1):=by
 refine j2w (m0z ..) (m0z ..) fun n hn=> ?_
 rw[d1y _ _ _ hn,d1y _ _ _ hn]
 by_cases e:i=n
 ·subst e;rw[h];simp
 ·have:decide (n<i)=decide (n<i+1):=by rw[Bool.eq_iff_iff];simp;omega
  rw[this]
theorem tmL_0 (X:B64)(T:List Int):tmL X T 0=List.replicate 64 0:=by
 refine j2w (m0z ..) List.length_replicate fun n hn=> ?_
 rw[d1y _ _ _ hn,e0a (List.replicate 64 (0:Int)) 0 (by rw[List.length_replicate];exact hn),List.getElem_replicate];simp
abbrev m0g (i k:Nat)(s:SQ):SQ:=⟨s.L&&&firB i,(s.L&&&s.U)&&&firB i,(s.L&&&s.C)&&&firB i,tmL (s.L&&&s.C) s.T i,s.P&&&(firB k).setWidth 32⟩
abbrev zst:SQ:=⟨0#64,0#64,0#64,List.replicate 64 0,0#32⟩
theorem d3e (k:IntKind): ∀l l':List Int,eqL (.int k) l l'=true↔l=l'
 |[],[]=>by simp[eqL]
 |[],_::_=>by simp[eqL]
 |_::_,[]=>by simp[eqL]
 |x::l,y::l'=>by
  show(eqD (.int k) x y&&eqL (.int k) l l')=true↔_
  rw[Bool.and_eq_true,d3e k l l',List.cons.injEq]
  show(x==y)=true∧_↔_
  rw[beq_iff_eq]
def eqS (s t:SQ):Bool:=N s.L==N t.L&&(N s.U==N t.U&&(N s.C==N t.C&&(eqL TB s.T t.T&&(N s.P==N t.P&&true))))
theorem j1i (s t:SQ):eqS s t=true↔s=t:=by
 unfold eqS
 simp only[Bool.and_eq_true,beq_iff_eq,N_eq]
 rw[show eqL TB s.T t.T=true↔s.T=t.T from d3e _ _ _]
 cases s;cases t
 simp
theorem f3u (s t:SQ):eqS s t=eqS t s:=by
 rw[Bool.eq_iff_iff,j1i,j1i];exact⟨fun h=>h.symm,fun h=>h.symm⟩
theorem q_e13 (X:B64)(n:Int):c1l [.n (N X),.n n]=some (0,[.n (N (d0c X n))]):=by
 by_cases h0:0≤n
 ·by_cases h1:n<64
  ·have hi:inN n=true:=by simp[inN,h0,h1]
   have hq:=q_e11 X n
   cases hb:hasB X n with
   |true=>
    rw[hb]at hq
    rw[t2a (by omega) (by omega) hq rfl]
    have hg:X.getLsbD n.toNat=true:=by unfold hasB at hb;rw[hi]at hb;simpa using hb
    have:X|||p2 n.toNat=X:=by
     apply BitVec.eq_of_getLsbD_eq
     intro i hlt
     rw[BitVec.getLsbD_or,h1m]
     by_cases e:i=n.toNat
     ·subst e;simp[hg]
     ·simp[e]
    simp only[d0c,hi,cond_true,this]
   |false=>
    rw[hb]at hq
    have hg:X.getLsbD n.toNat=false:=by unfold hasB at hb;rw[hi]at hb;simpa using hb
    obtain⟨k,rfl⟩: ∃k:Nat,n=k:=⟨n.toNat,by omega⟩
    rw[q2n (by omega) (by omega) hq rfl (q_pw k (by omega))]
    rw[Int.toNat_natCast]at hg
    rw[N_add,g3z (by omega) hg]
    simp only[d0c,hi,cond_true,Int.toNat_natCast]
  ·rw[r2a (by omega) (by omega),y0p (by simp[inN,h1])]
 ·rw[d3l (by omega),y0p (by simp[inN,h0])]
theorem q_e27 (n:Int):g1g [.n n]=some (0,[.n (N (firB (min n.toNat 64)))]):=by
 refine q2z ?_
 rw[x1a]
 refine a0j (st:=p0w) (fun i=>[.k 0,.n n,.n (N (firB i)),.n (i:Int)]) (min n.toNat 64) (0,[.n (N (firB (min n.toNat 64)))]) (fun i hi=> ?_) ?_ FU (c0v (by omega))
 ·have h:=b2e (n0:=n) (n2:=i) (by omega) (by omega) (q_e13 (firB i) i)
  rw[w64x (by omega) (by omega),y2a (by omega)]at h
  exact h
 ·by_cases h:((min n.toNat 64:Nat):Int)<n
  ·exact v1h h (by omega)
  ·exact x1n h
theorem q11 (X:B64){k:Nat}(hk:k<64):d0q [.n (N X),.n (k:Int)]=some (0,[.b (X.getLsbD k)]):=by rw[q_e11,h0x X hk]
theorem q27 {k:Nat}(hk:k≤64):g1g [.n (k:Int)]=some (0,[.n (N (firB k))]):=by rw[q_e27,Int.toNat_natCast,Nat.min_eq_left hk]
theorem p32bit (P:BitVec 32){x:Int}(h0:0≤x):(iand IntKind.u32 (ishr IntKind.u32 (N P) x) (1:Int)==(1:Int))=P.getLsbD x.toNat:=by
 obtain⟨k,rfl⟩: ∃k:Nat,x=k:=⟨x.toNat,by omega⟩
 rw[show(1:Int)=N 1#32 from rfl,g3d,k0r,N_beq,Int.toNat_natCast]
 rw[Bool.eq_iff_iff,beq_iff_eq]
 constructor
 ·intro e
  have:=congrArg (fun z=>BitVec.getLsbD z 0) e
  simpa [BitVec.getLsbD_and,BitVec.getLsbD_ushiftRight]using this
 ·intro e
  apply BitVec.eq_of_getLsbD_eq
  intro j hj
  rw[BitVec.getLsbD_and,BitVec.getLsbD_ushiftRight]
  by_cases q:j=0
  ·subst q;rw[Nat.add_zero,e];rfl
  ·rw[show(1#32).getLsbD j=false by rw[BitVec.getLsbD_one];simp;omega,Bool.and_false]
section
variable {a:LS} {b c:LP} {r:LR} (w:WF a b c r)
include w
theorem e46 {i k:Nat}(hi:i<r.length)(hk:k<r.length):y0c [.l TS a,.l TPt b,.l TPt c,.l TRt r,.s (eS (rN r i)),.n (eN (rN r i)),.l TI (eP (rN r i)),.l TNd (eQ (rN r i)),.l TI (eO (rN r i)),.l TNd (eF (rN r i)),.s (eS (rN r k)),.n (eN (rN r k)),.l TI (eP (rN r k)),.l TNd (eQ (rN r k)),.l TI (eO (rN r k)),.l TNd (eF (rN r k))]=some (0,[.b (cfE b (rN r i) (rN r k))]):=by
 obtain⟨⟨-,⟨p1,p2,p3,p4⟩,-,-⟩,-⟩:=w.all i hi
 obtain⟨⟨-,⟨q1,q2,q3,q4⟩,-,-⟩,-⟩:=w.all k hk
 exact o46c a b c r _ _ p1 p2 p3 p4 q1 q2 q3 q4 (by have:=w.lb;omega) (w.pt i hi) (w.pt k hk)
theorem e12 {i:Nat}(hi:i<r.length):y0m [.s (eS (rN r i)),.n (eN (rN r i)),.l TI (eP (rN r i)),.l TNd (eQ (rN r i)),.l TI (eO (rN r i)),.l TNd (eF (rN r i))]=some (0,[.l TNd (ndsE (rN r i))]):=by
 obtain⟨⟨-,⟨p1,p2,p3,p4⟩,-,-⟩,-⟩:=w.all i hi
 exact o12 _ _ _ _ _ _ p1 p2 p3 p4
theorem in_nds {i:Nat}(hi:i<r.length):in32 (ndsE (rN r i)):=by
 obtain⟨⟨-,⟨(p1:List.length (eP (rN r i))≤200),(p2:List.length (eQ (rN r i))≤200),(p3:List.length (eO (rN r i))≤200),(p4:List.length (eF (rN r i))≤200)⟩,-,-⟩,-⟩:=w.all i hi
 refine⟨by unfold ndsE;rw[show∀x y:LN,List.append x y=x++y from fun _ _=>rfl,List.length_append];omega,fun x hx=> ?_⟩
 have:=w.pt i hi x hx
 have:=w.lb
 omega
end
theorem andf (X Y F:B64):X&&&(Y&&&F)=(Y&&&X)&&&F:=by rw[←BitVec.and_assoc,BitVec.and_comm X Y]
def d1i (b:LP)(r:LR)(L:B64)(i:Nat):Bool:=(List.range' 0 r.length).any fun k=>clN b r i k&&L.getLsbD k
def okJ (b:LP)(r:LR)(s:SQ)(i:Nat):Bool:=bif s.L.getLsbD i then !d1i b r s.L i&& !(ndsE (rN r i)).any (turn s.P)else true
theorem cl_ne {b:LP}{r:LR}{i k:Nat}(h: ¬(i:Int)=(k:Int)):clN b r i k=cfE b (rN r i) (rN r k):=by unfold clN clF;rw[df h];rfl
theorem cl_eq {b:LP}{r:LR}{i k:Nat}(h:(i:Int)=(k:Int)):clN b r i k=false:=by unfold clN clF;rw[dt h];rfl
section
variable {a:LS} {b c:LP} {r:LR} (w:WF a b c r)
include w
def rgtJ (b:LP)(r:LR)(s:SQ):Bool:=eqS s (m0g r.length b.length s)&&(List.range' 0 r.length).all (okJ b r s)
end
abbrev P32:=BitVec 32
abbrev LC:=List (Ty.den TCmd)
section
variable (b c:LP) (r:LR) (O:B64) (nm rv:P32)
end
structure WG (a:LS)(b c:LP)(r:LR):Prop where
 w:WF a b c r
 lb: ∀k,k<b.length→0≤ptS b (k:Int)∧ptS b (k:Int)<64
 lc: ∀k,k<c.length→0≤ptS c (k:Int)∧ptS c (k:Int)<64
theorem wg_of {a:LS}{b c:LP}{r:LR}(h:(ckA a b c r).1=0):WG a b c r:=by
 have w:=wf_of h
 obtain⟨hm,hw⟩:=(x2k a b c r).1 h
 have h:=hm
 unfold mayL at h
 rw[Bool.and_eq_true]at h
 have h:=h.2
 simp only[Bool.and_eq_true]at h
 obtain⟨h5,h6,-,-⟩:=h
 have la:=w.la
 have key: ∀l:LP,(List.range' 0 l.length).all (inAt (secs l) (a.length:Int))=true→ ∀k,k<l.length→0≤ptS l (k:Int)∧ptS l (k:Int)<64:=fun l hl k hk=>by
  have q:=f1a (List.all_eq_true.1 hl k (List.mem_range'_1.2 (by omega)))
  rw[e0s l hk]at q
  unfold ptS
  rw[Int.toNat_natCast]
  exact⟨q.1,Int.lt_of_lt_of_le q.2 (Int.ofNat_le.2 la)⟩
 exact⟨w,key b h5,key c h6⟩
section
variable {a:LS} {b c:LP} {r:LR} (g:WG a b c r) (O:B64) (nm rv:P32) (cm:LC)
include g
end
section
variable {a:LS} {b c:LP} {r:LR} (g:WG a b c r) (O:B64) (nm rv:P32) (cm:LC)
include g
end
structure Rgt (b:LP)(r:LR)(s:SQ):Prop where
 L: ∀j,j<64→s.L.getLsbD j=true→j<r.length
 U: ∀j,j<64→s.U.getLsbD j=true→s.L.getLsbD j=true
 C: ∀j,j<64→s.C.getLsbD j=true→s.L.getLsbD j=true
 len:s.T.length=64
 T: ∀n,n<64→s.T.getD n 0≤20∧(s.C.getLsbD n=false→s.T.getD n 0=0)
 P: ∀j,j<32→s.P.getLsbD j=true→j<b.length
 cl: ∀i,i<r.length→s.L.getLsbD i=true→ ∀k,k<r.length→s.L.getLsbD k=true→clN b r i k=false
 nd: ∀i,i<r.length→s.L.getLsbD i=true→ ∀d∈ndsE (rN r i),s.P.getLsbD (f1 d).toNat=g2 d
theorem turn_f {P:P32}{d:Ty.den TNd}:turn P d=false↔P.getLsbD (f1 d).toNat=g2 d:=by
 unfold turn
 cases P.getLsbD (f1 d).toNat<;>cases g2 d<;>simp
theorem any_f {α:Type}{l:List α}{p:α→Bool}:l.any p=false↔ ∀x∈l,p x=false:=by
 rw[List.any_eq_false]
 exact⟨fun h x hx=>by have:=h x hx;simpa using this,fun h x hx=>by rw[h x hx];simp⟩
theorem lockd_f {b:LP}{r:LR}{L:B64}{i:Nat}:d1i b r L i=false↔ ∀k,k<r.length→L.getLsbD k=true→clN b r i k=false:=by
 unfold d1i
 rw[any_f]
 constructor
 ·intro h k hk hl
  have:=h k (List.mem_range'_1.2 (by omega))
  rw[hl,Bool.and_true]at this
  exact this
 ·intro h k hk
  rw[List.mem_range'_1]at hk
  cases hl:L.getLsbD k with
  |false=>rw[Bool.and_false]
  |true=>rw[h k (by omega) hl];rfl
theorem l3m {b:LP}{r:LR}{s:SQ}{i:Nat}:okJ b r s i=true↔(s.L.getLsbD i=true→(∀k,k<r.length→s.L.getLsbD k=true→clN b r i k=false)∧ ∀d∈ndsE (rN r i),s.P.getLsbD (f1 d).toNat=g2 d):=by
 unfold okJ
 cases h:s.L.getLsbD i with
 |false=>simp
 |true=>
  rw[cond_true,Bool.and_eq_true,Bool.not_eq_true',Bool.not_eq_true',lockd_f,any_f]
  constructor
  ·rintro⟨h1,h2⟩ -
   exact⟨h1,fun d hd=>turn_f.1 (h2 d hd)⟩
  ·intro q
   exact⟨(q rfl).1,fun d hd=>turn_f.2 ((q rfl).2 d hd)⟩
theorem all_t {n:Nat}{f:Nat→Bool}:(List.range' 0 n).all f=true↔ ∀i,i<n→f i=true:=by
 rw[List.all_eq_true]
 exact⟨fun h i hi=>h i (List.mem_range'_1.2 (by omega)),fun h i hi=>h i (by rw[List.mem_range'_1]at hi;omega)⟩
section
variable {a:LS} {b c:LP} {r:LR} (g:WG a b c r) (O:B64)
include g
end
section
variable {a:LS} {b c:LP} {r:LR} (g:WG a b c r) (O:B64) {s:SQ} (h:Rgt b r s)
include g h
end
theorem m17_5 (s:SQ)(a:LS)(b c:LP)(r:LR)(hr:r.length≤64):y0t [.k 0,.n 0,.l TS a,.l TPt b,.l TPt c,.l TRt r,.n (N s.L),.n (N s.U),.n (N s.C),.l TB s.T,.n (N s.P),.n (N zst.L),.n (N zst.U),.n (N zst.C),.l TB zst.T,.n (N zst.P),.n (N (s.L&&&firB r.length)),.n (N (s.U&&&(s.L&&&firB r.length))),.n (N (s.C&&&(s.L&&&firB r.length))),.l TB (tmL (s.L&&&s.C) s.T 0),.n (N (s.P&&&(firB b.length).setWidth 32))]=some (0,[.n (N zst.L),.n (N zst.U),.n (N zst.C),.l TB zst.T,.n (N zst.P),.n (N (s.L&&&firB r.length)),.n (N (s.U&&&(s.L&&&firB r.length))),.n (N (s.C&&&(s.L&&&firB r.length))),.l TB (tmL (s.L&&&s.C) s.T r.length),.n (N (s.P&&&(firB b.length).setWidth 32))]):=by
 rw[w1f]
 refine a0j (st:=h0z) (fun i=>[.k 0,.n (i:Int),.l TS a,.l TPt b,.l TPt c,.l TRt r,.n (N s.L),.n (N s.U),.n (N s.C),.l TB s.T,.n (N s.P),.n (N zst.L),.n (N zst.U),.n (N zst.C),.l TB zst.T,.n (N zst.P),.n (N (s.L&&&firB r.length)),.n (N (s.U&&&(s.L&&&firB r.length))),.n (N (s.C&&&(s.L&&&firB r.length))),.l TB (tmL (s.L&&&s.C) s.T i),.n (N (s.P&&&(firB b.length).setWidth 32))]) r.length (0,[.n (N zst.L),.n (N zst.U),.n (N zst.C),.l TB zst.T,.n (N zst.P),.n (N (s.L&&&firB r.length)),.n (N (s.U&&&(s.L&&&firB r.length))),.n (N (s.C&&&(s.L&&&firB r.length))),.l TB (tmL (s.L&&&s.C) s.T r.length),.n (N (s.P&&&(firB b.length).setWidth 32))]) (fun i hi=> ?_) ?_ FU (c0v (by omega))
 ·show _=some (Step.go [.k 0,.n ((i+1:Nat):Int),.l TS a,.l TPt b,.l TPt c,.l TRt r,.n (N s.L),.n (N s.U),.n (N s.C),.l TB s.T,.n (N s.P),.n (N zst.L),.n (N zst.U),.n (N zst.C),.l TB zst.T,.n (N zst.P),.n (N (s.L&&&firB r.length)),.n (N (s.U&&&(s.L&&&firB r.length))),.n (N (s.C&&&(s.L&&&firB r.length))),.l TB (tmL (s.L&&&s.C) s.T (i+1)),.n (N (s.P&&&(firB b.length).setWidth 32))])
  rw[←w1n i (by omega)]
  have hi':i<64:=by omega
  have e1:=q11 (s.C&&&(s.L&&&firB r.length)) hi'
  have hc:(s.C&&&(s.L&&&firB r.length)).getLsbD i=(s.L&&&s.C).getLsbD i:=by
   rw[BitVec.getLsbD_and,BitVec.getLsbD_and,BitVec.getLsbD_and,c0j (by omega),dt hi,Bool.and_true,Bool.and_comm]
  cases h:(s.L&&&s.C).getLsbD i with
  |true=>
   have t:=w1x (l1:=a) (l2:=b) (l3:=c) (n5:=N s.L) (n6:=N s.U) (n7:=N s.C) (l8:=s.T) (n9:=N s.P) (n10:=N zst.L) (n11:=N zst.U) (n12:=N zst.C) (l13:=zst.T) (n14:=N zst.P) (n15:=N (s.L&&&firB r.length)) (n16:=N (s.U&&&(s.L&&&firB r.length))) (l18:=tmL (s.L&&&s.C) s.T i) (n19:=N (s.P&&&(firB b.length).setWidth 32)) (by omega) (show(i:Int)<(r.length:Int) by omega) e1 (hc.trans h) (b0d (by omega) (by omega))
   have g:=tmL_t s.T hi' h
   have t2:(h0z _).sel=some (Step.go [.k 0,.n (IntKind.wrap .i64 ((i:Int)+1)),.l TS a,.l TPt b,.l TPt c,.l TRt r,.n (N s.L),.n (N s.U),.n (N s.C),.l TB s.T,.n (N s.P),.n (N zst.L),.n (N zst.U),.n (N zst.C),.l TB zst.T,.n (N zst.P),.n (N (s.L&&&firB r.length)),.n (N (s.U&&&(s.L&&&firB r.length))),.n (N (s.C&&&(s.L&&&firB r.length))),.l TB ((tmL (s.L&&&s.C) s.T i).set i (imin (s.T.getD i 0) 20)),.n (N (s.P&&&(firB b.length).setWidth 32))]):=t
   rw[g]at t2
   exact t2
  |false=>
   have t:=w1v (l1:=a) (l2:=b) (l3:=c) (n5:=N s.L) (n6:=N s.U) (n7:=N s.C) (l8:=s.T) (n9:=N s.P) (n10:=N zst.L) (n11:=N zst.U) (n12:=N zst.C) (l13:=zst.T) (n14:=N zst.P) (n15:=N (s.L&&&firB r.length)) (n16:=N (s.U&&&(s.L&&&firB r.length))) (l18:=tmL (s.L&&&s.C) s.T i) (n19:=N (s.P&&&(firB b.length).setWidth 32)) (by omega) (show(i:Int)<(r.length:Int) by omega) e1 (hc.trans h)
   have t2:(h0z _).sel=some (Step.go [.k 0,.n (IntKind.wrap .i64 ((i:Int)+1)),.l TS a,.l TPt b,.l TPt c,.l TRt r,.n (N s.L),.n (N s.U),.n (N s.C),.l TB s.T,.n (N s.P),.n (N zst.L),.n (N zst.U),.n (N zst.C),.l TB zst.T,.n (N zst.P),.n (N (s.L&&&firB r.length)),.n (N (s.U&&&(s.L&&&firB r.length))),.n (N (s.C&&&(s.L&&&firB r.length))),.l TB (tmL (s.L&&&s.C) s.T (i+1)),.n (N (s.P&&&(firB b.length).setWidth 32))]):=t.trans (by rw[tmL_f s.T h])
   exact t2
 ·exact w1w (by omega) (by omega)
theorem m17 (s:SQ)(a:LS)(b c:LP)(r:LR)(hb:b.length≤32)(hr:r.length≤64):c1q [.l TS a,.l TPt b,.l TPt c,.l TRt r,.n (N s.L),.n (N s.U),.n (N s.C),.l TB s.T,.n (N s.P)]=some (0,[.n (N (s.L&&&firB r.length)),.n (N ((s.L&&&s.U)&&&firB r.length)),.n (N ((s.L&&&s.C)&&&firB r.length)),.l TB (tmL (s.L&&&s.C) s.T r.length),.n (N (s.P&&&(firB b.length).setWidth 32))]):=by
 have e:=m17_5 s a b c r hr
 rw[tmL_0]at e
 have e2:y0t [.k 0,.n 0,.l TS a,.l TPt b,.l TPt c,.l TRt r,.n (N s.L),.n (N s.U),.n (N s.C),.l TB s.T,.n (N s.P),.n 0,.n 0,.n 0,.l TB (List.replicate 64 (0:Int)),.n 0,.n (iand IntKind.u64 (N s.L) (N (firB r.length))),.n (iand IntKind.u64 (N s.U) (iand IntKind.u64 (N s.L) (N (firB r.length)))),.n (iand IntKind.u64 (N s.C) (iand IntKind.u64 (N s.L) (N (firB r.length)))),.l TB (List.replicate 64 (0:Int)),.n (iand IntKind.u32 (N s.P) (IntKind.wrap .u32 (N (firB b.length))))]=some (0,[.n (N zst.L),.n (N zst.U),.n (N zst.C),.l TB zst.T,.n (N zst.P),.n (N (s.L&&&firB r.length)),.n (N (s.U&&&(s.L&&&firB r.length))),.n (N (s.C&&&(s.L&&&firB r.length))),.l TB (tmL (s.L&&&s.C) s.T r.length),.n (N (s.P&&&(firB b.length).setWidth 32))]):=by
  rw[a0y,a0y,a0y,c1w,k0r];exact e
 have t:=p2l (q27 hr) (q27 (by omega)) e2
 rw[andf,andf]at t
 exact t
section
variable {a:LS} {b c:LP} {r:LR} (w:WF a b c r)
include w
theorem m18_7 (s:SQ){i:Nat}(hi:i<r.length)(hl:s.L.getLsbD i=true):p0z [.k 0,.n (i:Int),.n 0,.l TS a,.l TPt b,.l TPt c,.l TRt r,.n (N s.L),.n (N s.U),.n (N s.C),.l TB s.T,.n (N s.P)]=some (bif d1i b r s.L i then(1,[.b false])else(0,[.n (i:Int),.l TS a,.l TPt b,.l TPt c,.l TRt r,.n (N s.L),.n (N s.U),.n (N s.C),.l TB s.T,.n (N s.P)])):=by
 have lr:=w.lr
 have hL:=q11 s.L (show i<64 by omega)
 rw[d1j]
 refine b0q (st:=g0g) (fun k=>[.k 0,.n (i:Int),.n (k:Int),.l TS a,.l TPt b,.l TPt c,.l TRt r,.n (N s.L),.n (N s.U),.n (N s.C),.l TB s.T,.n (N s.P)]) r.length (fun k=>clN b r i k&&s.L.getLsbD k) (1,[.b false]) (0,[.n (i:Int),.l TS a,.l TPt b,.l TPt c,.l TRt r,.n (N s.L),.n (N s.U),.n (N s.C),.l TB s.T,.n (N s.P)]) (fun k hk h=> ?_) (fun k hk h=> ?_) (z1h (by omega) (by omega) (Int.ofNat_lt.2 hi) (by omega)) FU (c0v (by omega))
 ·show _=some (Step.go [.k 0,.n (i:Int),.n ((k+1:Nat):Int),.l TS a,.l TPt b,.l TPt c,.l TRt r,.n (N s.L),.n (N s.U),.n (N s.C),.l TB s.T,.n (N s.P)])
  rw[←w1n k (by omega)]
  by_cases e:(i:Int)=(k:Int)
  ·exact a2v (by omega) (by omega) (Int.ofNat_lt.2 hi) (Int.ofNat_lt.2 hk) hL hl e
  rw[cl_ne e]at h
  cases hk2:s.L.getLsbD k with
  |false=>exact a2p (by omega) (by omega) (Int.ofNat_lt.2 hi) (Int.ofNat_lt.2 hk) hL hl e (q11 s.L (by omega)) hk2
  |true=>
   rw[hk2,Bool.and_true]at h
   exact a2k (by omega) (by omega) (Int.ofNat_lt.2 hi) (Int.ofNat_lt.2 hk) hL hl e (q11 s.L (by omega)) hk2 (e46 w hi hk) h
 ·rw[Bool.and_eq_true]at h
  by_cases e:(i:Int)=(k:Int)
  ·rw[cl_eq e]at h;cases h.1
  rw[cl_ne e]at h
  exact a2o (by omega) (by omega) (Int.ofNat_lt.2 hi) (Int.ofNat_lt.2 hk) hL hl e (q11 s.L (by omega)) h.2 (e46 w hi hk) h.1
theorem m18_7f (s:SQ){i:Nat}(hi:i<r.length)(hl:s.L.getLsbD i=false):p0z [.k 0,.n (i:Int),.n 0,.l TS a,.l TPt b,.l TPt c,.l TRt r,.n (N s.L),.n (N s.U),.n (N s.C),.l TB s.T,.n (N s.P)]=some (0,[.n (i:Int),.l TS a,.l TPt b,.l TPt c,.l TRt r,.n (N s.L),.n (N s.U),.n (N s.C),.l TB s.T,.n (N s.P)]):=by
 have lr:=w.lr
 rw[d1j]
 exact c0c (n:=FU-1) (x1h (by omega) (by omega) (Int.ofNat_lt.2 hi) (by omega) (q11 s.L (by omega)) hl)
theorem m18_13 (s:SQ){i:Nat}(hi:i<r.length):t0o [.k 0,.n (i:Int),.n 0,.l TS a,.l TPt b,.l TPt c,.l TRt r,.n (N s.L),.n (N s.U),.n (N s.C),.l TB s.T,.n (N s.P),.l TNd (ndsE (rN r i))]=some (bif s.L.getLsbD i&&(ndsE (rN r i)).any (turn s.P)then(1,[.b false])else(0,[.n (i:Int),.l TS a,.l TPt b,.l TPt c,.l TRt r,.n (N s.L),.n (N s.U),.n (N s.C),.l TB s.T,.n (N s.P)])):=by
 have lr:=w.lr
 obtain⟨n1,n2⟩:=in_nds w hi
 have hL:=q11 s.L (show i<64 by omega)
 have key:(List.range' 0 (ndsE (rN r i)).length).any (fun k=>s.L.getLsbD i&&turn s.P ((ndsE (rN r i)).getD k (Ty.dflt TNd)))=(s.L.getLsbD i&&(ndsE (rN r i)).any (turn s.P)):=by
  rw[←d0x (ndsE (rN r i)) (Ty.dflt TNd) (turn s.P)]
  cases s.L.getLsbD i with
  |true=>simp only[Bool.true_and]
  |false=>simp
 rw[r1d,←key]
 refine b0q (st:=h0d) (fun k=>[.k 0,.n (i:Int),.n (k:Int),.l TS a,.l TPt b,.l TPt c,.l TRt r,.n (N s.L),.n (N s.U),.n (N s.C),.l TB s.T,.n (N s.P),.l TNd (ndsE (rN r i))]) (ndsE (rN r i)).length (fun k=>s.L.getLsbD i&&turn s.P ((ndsE (rN r i)).getD k (Ty.dflt TNd))) (1,[.b false]) (0,[.n (i:Int),.l TS a,.l TPt b,.l TPt c,.l TRt r,.n (N s.L),.n (N s.U),.n (N s.C),.l TB s.T,.n (N s.P)]) (fun k hk h=> ?_) (fun k hk h=> ?_) (o1z (by omega) (by omega)) FU (c0v (by omega))
 ·show _=some (Step.go [.k 0,.n (i:Int),.n ((k+1:Nat):Int),.l TS a,.l TPt b,.l TPt c,.l TRt r,.n (N s.L),.n (N s.U),.n (N s.C),.l TB s.T,.n (N s.P),.l TNd (ndsE (rN r i))])
  rw[←w1n k (by omega)]
  cases hl:s.L.getLsbD i with
  |false=>exact p1a (by omega) (by omega) hL hl
  |true=>
   rw[hl,Bool.true_and]at h
   obtain⟨q1,q2⟩:=n2 _ (sAtG (ndsE (rN r i)) (Ty.dflt TNd) hk)
   have g:=p32bit s.P q1
   unfold turn at h
   rw[←g]at h
   exact u1b (by omega) (by omega) hL hl (show¬f1 ((ndsE (rN r i)).getD k (Ty.dflt TNd))<0 by omega) (neg_t h)
 ·rw[Bool.and_eq_true]at h
  obtain⟨q1,q2⟩:=n2 _ (sAtG (ndsE (rN r i)) (Ty.dflt TNd) hk)
  have g:=p32bit s.P q1
  have h2:=h.2
  unfold turn at h2
  rw[←g]at h2
  exact t1j (by omega) (by omega) hL h.1 (show¬f1 ((ndsE (rN r i)).getD k (Ty.dflt TNd))<0 by omega) (neg_f h2)
theorem m18_4 (s:SQ):a1g [.k 0,.n 0,.l TS a,.l TPt b,.l TPt c,.l TRt r,.n (N s.L),.n (N s.U),.n (N s.C),.l TB s.T,.n (N s.P)]=some (bif (List.range' 0 r.length).all (okJ b r s)then(0,[])else(1,[.b false])):=by
 have lr:=w.lr
 rw[x1f]
 refine d0d (st:=m0f) (fun i=>[.k 0,.n (i:Int),.l TS a,.l TPt b,.l TPt c,.l TRt r,.n (N s.L),.n (N s.U),.n (N s.C),.l TB s.T,.n (N s.P)]) r.length (okJ b r s) (0,[]) (1,[.b false]) (fun i hi h=> ?_) (fun i hi h=> ?_) (v1q (by omega) (by omega)) FU (c0v (by omega))
 ·show _=some (Step.go [.k 0,.n ((i+1:Nat):Int),.l TS a,.l TPt b,.l TPt c,.l TRt r,.n (N s.L),.n (N s.U),.n (N s.C),.l TB s.T,.n (N s.P)])
  rw[←w1n i (by omega)]
  have e13:=m18_13 w s hi
  unfold okJ at h
  cases hl:s.L.getLsbD i with
  |false=>
   rw[hl,Bool.false_and,cond_false]at e13
   exact e1j (by omega) (by omega) (m18_7f w s hi hl) (b0d (by omega) (by omega)) (e12 w hi) e13
  |true=>
   rw[hl,cond_true,Bool.and_eq_true]at h
   have e7:=m18_7 w s hi hl
   rw[neg_f h.1,cond_false]at e7
   rw[neg_f h.2,Bool.and_false,cond_false]at e13
   exact e1j (by omega) (by omega) e7 (b0d (by omega) (by omega)) (e12 w hi) e13
 ·have e13:=m18_13 w s hi
  unfold okJ at h
  cases hl:s.L.getLsbD i with
  |false=>rw[hl]at h;cases h
  |true=>
   have e7:=m18_7 w s hi hl
   rw[hl,cond_true]at h
   cases hd:d1i b r s.L i with
   |true=>rw[hd]at e7;exact a2m (by omega) (by omega) e7
   |false=>
    rw[hd]at e7 h
    rw[hl,Bool.true_and,neg_t h]at e13
    exact y1c (by omega) (by omega) e7 (b0d (by omega) (by omega)) (e12 w hi) e13
theorem m18 (s:SQ):e1i [.l TS a,.l TPt b,.l TPt c,.l TRt r,.n (N s.L),.n (N s.U),.n (N s.C),.l TB s.T,.n (N s.P)]=some (0,[.b (rgtJ b r s)]):=by
 have e1:=m17 s a b c r w.lb w.lr
 have e2:=m18_4 w s
 unfold rgtJ
 rw[f3u]
 cases h:eqS (m0g r.length b.length s) s with
 |false=>exact p2y e1 h
 |true=>
  cases h2:(List.range' 0 r.length).all (okJ b r s)with
  |true=>rw[h2]at e2;exact x2a e1 h e2
  |false=>rw[h2]at e2;exact t2h e1 h e2
end
end Go.Proofs.Ytcbhgaeiokfcdaa.Vx
end
