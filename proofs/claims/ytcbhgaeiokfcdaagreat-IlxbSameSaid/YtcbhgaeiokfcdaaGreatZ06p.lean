import Derived.Test.YtcbhgaeiokfcdaaGreatVxAsk
import Derived.Test.YtcbhgaeiokfcdaaGreatZ06q
import Derived.KernelRfl
import Derived.Test.YtcbhgaeiokfcdaaGreatZ06n
noncomputable section
namespace Go.Proofs.YtcbhgaeiokfcdaaGreat.Vx
open Go Go.RowKit
set_option linter.unusedVariables false
set_option linter.unusedSimpArgs false
set_option maxRecDepth 100000
set_option maxHeartbeats 0
abbrev TB:Ty:=.int .u8
abbrev TCmd:Ty:=.pair (.int .u8) (.int .i64)
abbrev TQr:Ty:=.pair (.int .i64) (.pair (.int .i64) (.pair (.sl (.int .i64)) (.pair (.sl TNd) (.sl (.int .i64)))))
def fnC (f:Nat)(cs:List PV):PV:=.fn (.func f) [] cs
def fnM (f:Nat)(fs:List PV):PV:=.fn (.func f) fs []
def mB (h:Nat):PB:=.cells [.imm TI h,.imm TQr (h+1)]
def mO (a:Nat):PB:=.cells [.own a,.nilsl]
def mP (a:Nat):PB:=.cells [.own a,.own (a+1)]
def qrV (h:Nat):PV:=.agg [.int .i64 h,.int .i64 (h+1),.imm TI (h+2),.imm TNd (h+3),.imm TI (h+4)]
def stV (h:Nat):PV:=.agg [.int .u64 h,.int .u64 (h+1),.int .u64 (h+2),.arrd TB 64 (h+3),.int .u32 (h+4)]
def stB (h:Nat):PB:=.cells [.int .u64 h,.int .u64 (h+1),.int .u64 (h+2),.arrd TB 64 (h+3),.int .u32 (h+4)]
def ipV (h:Nat):PV:=.agg [.int .u64 h,.int .u32 (h+1),.int .u32 (h+2),.imm TCmd (h+3)]
def ipB (h:Nat):PB:=.cells [.int .u64 h,.int .u32 (h+1),.int .u32 (h+2),.imm TCmd (h+3)]
def ouV (h:Nat):PV:=.agg [.int .u64 h,.int .u32 (h+1)]
def ouB (h:Nat):PB:=.cells [.int .u64 h,.int .u32 (h+1)]
def S_i38:BSh:={args:=[.int .u64 0,.int .i64 1],blks:=[],log:=[],outs:=[(.bool 0,[])]}
def ev_i38:List Dat→Tree (Nat×List Dat):=evF z3x 31 ls0 S_i38
theorem e_i38: ∃op,IsF ev_i38 31 S_i38 op:=bxF q3k (LsOk.none _ _ _)
def h3e:OpA:=opF e_i38
theorem e4c {n0 n1:Int}(h0:(¬n1<(0:Int))):h3e [.n n0,.n n1]=some ((0,[.b (iand IntKind.u64 (ishr IntKind.u64 n0 n1) (1:Int)==(1:Int))])):=h3c e_i38 (sT (nf (df h0))<|sP [1]<|sL)
def d4p:FuncId→Option a0q:=a0s 31 (S_i38.k h3e) z3x
theorem p3v:CsOk Tryz.prog d4p:=csL1 q3k e_i38
def S_i37:BSh:={args:=[.int .u64 0,.int .i64 1,.bool 2],blks:=[],log:=[],outs:=[(.int .u64 0,[])]}
def ev_i37:List Dat→Tree (Nat×List Dat):=evF d4p 30 ls0 S_i37
theorem i4o: ∃op,IsF ev_i37 30 S_i37 op:=bxF p3v (LsOk.none _ _ _)
def h3m:OpA:=opF i4o
theorem e4v {n0 n1:Int}{b2:Bool}(h0:(¬n1<(0:Int)))(h1:(b2=true)):h3m [.n n0,.n n1,.b b2]=some ((0,[.n (ior IntKind.u64 (b0l IntKind.u64 n0 (ishl IntKind.u64 (1:Int) n1)) (ishl IntKind.u64 (1:Int) n1))])):=h3c i4o (sT (nf (df h0))<|sT h1<|sT (nf (df h0))<|sP [1]<|sL)
theorem c4k {n0 n1:Int}{b2:Bool}(h0:(¬n1<(0:Int)))(h1:(b2=false)):h3m [.n n0,.n n1,.b b2]=some ((0,[.n (b0l IntKind.u64 n0 (ishl IntKind.u64 (1:Int) n1))])):=h3c i4o (sT (nf (df h0))<|sF h1<|sP [1]<|sL)
def v3y:FuncId→Option a0q:=a0s 30 (S_i37.k h3m) d4p
theorem m3n:CsOk Tryz.prog v3y:=csL1 p3v i4o
def g4g:LSh:={K:=0,log:=[],ins:=[(sh 20 [(0,.int .u64 0),(5,.own 0),(7,.int .i64 1),(8,.int .i64 2)],[.arr TI 3])],nils:=[(5,TI)],outs:=[(.exit 0,sh 20 [(5,.own 0)],[.arr TI 0])],cv:=[]}
def j3b:List Dat→Tree Step:=evL v3y 19 3 ls0 g4g
theorem n3h: ∃op,IsL j3b 19 3 g4g op:=bxL m3n (LsOk.none _ _ _)
def w3y:OpA:=opL n3h
theorem t3l (env:List Dat):w3y env=a0b j3b FU env:=h3i n3h env
abbrev g4r:MBox:=boxL n3h
theorem s3m {n0 n1 n2:Int}{l3:List (Ty.den TI)}{b4:Bool}(g0:0≤n2)(h0:(n2<n1))(h1:(h3e [.n n0,.n n2])=(some (0,[.b b4])))(h2:(b4=true))(h3:((List.length l3+1)*8≤140737488355328)):(j3b [.k 0,.n n0,.n n1,.n n2,.l TI l3]).sel=some (Step.go [.k 0,.n n0,.n n1,.n (IntKind.wrap .i64 (n2+(1:Int))),.l TI (l3++[n2])]):=sP [1]<|sT (dt h0)<|sA h1<|sP [1,1]<|sT h2<|sT (dt h3)<|sP [1]<|sL
theorem r3z {n0 n1 n2:Int}{l3:List (Ty.den TI)}{b4:Bool}(g0:0≤n2)(h0:(n2<n1))(h1:(h3e [.n n0,.n n2])=(some (0,[.b b4])))(h2:(b4=false)):(j3b [.k 0,.n n0,.n n1,.n n2,.l TI l3]).sel=some (Step.go [.k 0,.n n0,.n n1,.n (IntKind.wrap .i64 (n2+(1:Int))),.l TI l3]):=sP [1]<|sT (dt h0)<|sA h1<|sP [1,1]<|sF h2<|sP [1]<|sL
theorem u3i {n0 n1 n2:Int}{l3:List (Ty.den TI)}(g0:0≤n2)(h0:(¬n2<n1)):(j3b [.k 0,.n n0,.n n1,.n n2,.l TI l3]).sel=some (Step.stop 0 [.l TI l3]):=sP [1]<|sF (df h0)<|sP [1]<|sL
def S_i31:BSh:={args:=[.int .u64 0,.int .i64 1],blks:=[],log:=[],outs:=[(.own 0,[.arr TI 0])]}
def ev_i31:List Dat→Tree (Nat×List Dat):=evFN [(0,TI)] v3y 19 (lsM [(3,g4r)] 0) S_i31
theorem e_i31: ∃op,IsF ev_i31 19 S_i31 op:=bxFN m3n (lsE (lsC (h3g n3h) (atF) lsZ))
def q3n:OpA:=opF e_i31
theorem b4o {n0 n1:Int}{l2:List (Ty.den TI)}(h0:(w3y [.k 0,.n n0,.n n1,.n (0:Int),.l TI []])=(some (0,[.l TI l2]))):q3n [.n n0,.n n1]=some ((0,[.l TI l2])):=h3c e_i31 (sA h0<|sP [1,1]<|sL)
def p3c:FuncId→Option a0q:=a0s 19 (S_i31.k q3n) v3y
theorem j3y:CsOk Tryz.prog p3c:=csL1 m3n e_i31
def f4s:LSh:={K:=0,log:=[],ins:=[(sh 83 [(1,.ptr 0 0),(4,.own 1),(6,.ptr 2 0),(22,.imm TPt 0),(23,.int .i64 1),(24,.int .i64 2)],[laB 3,.arr TU 7,mO 3,.arr TI 8])],nils:=[],outs:=[(.exit 0,sh 83 [(1,.ptr 0 0),(4,.own 1),(6,.ptr 2 0)],[laB 0,.arr TU 4,mO 3,.arr TI 5])],cv:=[(6,[],0,.own TI)]}
def j3t:List Dat→Tree Step:=evL p3c 7 6 ls0 f4s
theorem o3h: ∃op,IsL j3t 7 6 f4s op:=bxL j3y (LsOk.none _ _ _)
def n3n:OpA:=opL o3h
theorem u3b (env:List Dat):n3n env=a0b j3t FU env:=h3i o3h env
abbrev i4f:MBox:=boxL o3h
theorem t3u {l0:List (Ty.den TPt)}{n1 n2:Int}{l3:List (Ty.den TS)}{l4 l5:List (Ty.den TPt)}{l6:List (Ty.den TRt)}{l7:List (Ty.den TU)}{l8:List (Ty.den TI)}(g0:0≤n2)(g1:n1=(l0.length:Int))(h0:(n2<n1))(h1:((List.length l8+1)*8≤140737488355328)):(j3t [.k 0,.l TPt l0,.n n1,.n n2,.l TS l3,.l TPt l4,.l TPt l5,.l TRt l6,.l TU l7,.l TI l8]).sel=some (Step.go [.k 0,.l TPt l0,.n n1,.n (IntKind.wrap .i64 (n2+(1:Int))),.l TS l3,.l TPt l4,.l TPt l5,.l TRt l6,.l TU l7,.l TI (l8++[Prod.snd (List.getD l0 (Int.toNat n2) (Ty.dflt TPt))])]):=sP [1]<|sT (dt h0)<|sTo (c:=(inR n2 (List.length l0)))<|sT (dt h1)<|sP [1,1]<|sL
theorem v3n {l0:List (Ty.den TPt)}{n1 n2:Int}{l3:List (Ty.den TS)}{l4 l5:List (Ty.den TPt)}{l6:List (Ty.den TRt)}{l7:List (Ty.den TU)}{l8:List (Ty.den TI)}(g0:0≤n2)(g1:n1=(l0.length:Int))(h0:(¬n2<n1)):(j3t [.k 0,.l TPt l0,.n n1,.n n2,.l TS l3,.l TPt l4,.l TPt l5,.l TRt l6,.l TU l7,.l TI l8]).sel=some (Step.stop 0 [.l TS l3,.l TPt l4,.l TPt l5,.l TRt l6,.l TU l7,.l TI l8]):=sP [1]<|sF (df h0)<|sP [1]<|sL
def w3d:LSh:={K:=0,log:=[],ins:=[(sh 83 [(1,.ptr 0 0),(4,.own 1),(6,.ptr 2 0),(41,.imm TRt 0),(42,.int .i64 1),(43,.int .i64 2)],[laB 3,.arr TU 7,mP 3,.arr TI 8,.arr TQr 9])],nils:=[],outs:=[(.exit 2,sh 83 [(6,.ptr 0 0)],[mP 1,.arr TI 0,.arr TQr 1])],cv:=[(6,[],1,.own TQr)]}
def i3s:List Dat→Tree Step:=evL p3c 7 11 ls0 w3d
theorem l3d: ∃op,IsL i3s 7 11 w3d op:=bxL j3y (LsOk.none _ _ _)
def m3l:OpA:=opL l3d
theorem p3u (env:List Dat):m3l env=a0b i3s FU env:=h3i l3d env
abbrev f4o:MBox:=boxL l3d
theorem p3l {l0:List (Ty.den TRt)}{n1 n2:Int}{l3:List (Ty.den TS)}{l4 l5:List (Ty.den TPt)}{l6:List (Ty.den TRt)}{l7:List (Ty.den TU)}{l8:List (Ty.den TI)}{l9:List (Ty.den TQr)}{l10:List (Ty.den TI)}{l11:List (Ty.den TNd)}{l12:List (Ty.den TI)}(g0:0≤n2)(g1:n1=(l0.length:Int))(h0:(n2<n1))(h1:(inR (Prod.fst (Prod.snd (List.getD l0 (Int.toNat n2) (Ty.dflt TRt)))) (List.length l5)=true))(h2:(inR (0:Int) (List.length (Prod.fst (Prod.snd (Prod.snd (List.getD l0 (Int.toNat n2) (Ty.dflt TRt))))))=true))(h3:(op_9 [.s (Prod.fst (List.getD l0 (Int.toNat n2) (Ty.dflt TRt))),.n (Prod.fst (Prod.snd (List.getD l0 (Int.toNat n2) (Ty.dflt TRt)))),.l TI (Prod.fst (Prod.snd (Prod.snd (List.getD l0 (Int.toNat n2) (Ty.dflt TRt))))),.l TNd (Prod.fst (Prod.snd (Prod.snd (Prod.snd (List.getD l0 (Int.toNat n2) (Ty.dflt TRt)))))),.l TI (Prod.fst (Prod.snd (Prod.snd (Prod.snd (Prod.snd (List.getD l0 (Int.toNat n2) (Ty.dflt TRt))))))),.l TNd (Prod.snd (Prod.snd (Prod.snd (Prod.snd (Prod.snd (List.getD l0 (Int.toNat n2) (Ty.dflt TRt)))))))])=(some (0,[.l TI l10])))(h4:(t1a [.s (Prod.fst (List.getD l0 (Int.toNat n2) (Ty.dflt TRt))),.n (Prod.fst (Prod.snd (List.getD l0 (Int.toNat n2) (Ty.dflt TRt)))),.l TI (Prod.fst (Prod.snd (Prod.snd (List.getD l0 (Int.toNat n2) (Ty.dflt TRt))))),.l TNd (Prod.fst (Prod.snd (Prod.snd (Prod.snd (List.getD l0 (Int.toNat n2) (Ty.dflt TRt)))))),.l TI (Prod.fst (Prod.snd (Prod.snd (Prod.snd (Prod.snd (List.getD l0 (Int.toNat n2) (Ty.dflt TRt))))))),.l TNd (Prod.snd (Prod.snd (Prod.snd (Prod.snd (Prod.snd (List.getD l0 (Int.toNat n2) (Ty.dflt TRt)))))))])=(some (0,[.l TNd l11])))(h5:(inR n2 (List.length l7)=true))(h6:(q3n [.n (List.getD l7 (Int.toNat n2) (0:Int)),.n (↑(List.length l6):Int)])=(some (0,[.l TI l12])))(h7:((List.length l9+1)*88≤140737488355328)):(i3s [.k 0,.l TRt l0,.n n1,.n n2,.l TS l3,.l TPt l4,.l TPt l5,.l TRt l6,.l TU l7,.l TI l8,.l TQr l9]).sel=some (Step.go [.k 0,.l TRt l0,.n n1,.n (IntKind.wrap .i64 (n2+(1:Int))),.l TS l3,.l TPt l4,.l TPt l5,.l TRt l6,.l TU l7,.l TI l8,.l TQr (apL l9 [(Prod.snd (List.getD l5 (Int.toNat (Prod.fst (Prod.snd (List.getD l0 (Int.toNat n2) (Ty.dflt TRt))))) (Ty.dflt TPt)),List.getD (Prod.fst (Prod.snd (Prod.snd (List.getD l0 (Int.toNat n2) (Ty.dflt TRt))))) 0 (0:Int),l10,l11,l12)])]):=sP [1]<|sT (dt h0)<|sTo (c:=(inR n2 (List.length l0)))<|sT h1<|sT h2<|sA h3<|sP [1,1]<|sA h4<|sP [1,1]<|sT h5<|sA h6<|sP [1,1]<|sT (dt h7)<|sP [1,1]<|sL
theorem p3d {l0:List (Ty.den TRt)}{n1 n2:Int}{l3:List (Ty.den TS)}{l4 l5:List (Ty.den TPt)}{l6:List (Ty.den TRt)}{l7:List (Ty.den TU)}{l8:List (Ty.den TI)}{l9:List (Ty.den TQr)}(g0:0≤n2)(g1:n1=(l0.length:Int))(h0:(¬n2<n1)):(i3s [.k 0,.l TRt l0,.n n1,.n n2,.l TS l3,.l TPt l4,.l TPt l5,.l TRt l6,.l TU l7,.l TI l8,.l TQr l9]).sel=some (Step.stop 0 [.l TI l8,.l TQr l9]):=sP [1]<|sF (df h0)<|sP [1]<|sL
def S_i11:BSh:={args:=[laV 0],blks:=[],log:=[],outs:=[(.tup [.ptr 0 0,.int .i64 0],[mB 1]),(.tup [.nilptr,.int .i64 0],[])]}
def ev_i11:List Dat→Tree (Nat×List Dat):=evFV [(none,0,.imm TI),(none,1,.imm TQr)] p3c 7 (lsM [(6,i4f),(11,f4o)] 0) S_i11
theorem h4c: ∃op,IsF ev_i11 7 S_i11 op:=bxFV j3y (lsE (lsC (h3g o3h) (atF) (lsC (h3g l3d) (atF) lsZ)))
def p3o:OpA:=opF h4c
theorem b4q {l0:List (Ty.den TS)}{l1 l2:List (Ty.den TPt)}{l3:List (Ty.den TRt)}{n4:Int}{l5:List (Ty.den TU)}{l6:List (Ty.den TS)}{l7 l8:List (Ty.den TPt)}{l9:List (Ty.den TRt)}{l10:List (Ty.den TU)}{l11 l12:List (Ty.den TI)}{l13:List (Ty.den TQr)}(h0:(p1p [.l TS l0,.l TPt l1,.l TPt l2,.l TRt l3])=(some (0,[.n n4,.l TU l5])))(h1:(n4=(0:Int)))(h2:(n3n [.k 0,.l TPt l1,.n (↑(List.length l1):Int),.n (0:Int),.l TS l0,.l TPt l1,.l TPt l2,.l TRt l3,.l TU l5,.l TI []])=(some (0,[.l TS l6,.l TPt l7,.l TPt l8,.l TRt l9,.l TU l10,.l TI l11])))(h3:(m3l [.k 0,.l TRt l9,.n (↑(List.length l9):Int),.n (0:Int),.l TS l6,.l TPt l7,.l TPt l8,.l TRt l9,.l TU l10,.l TI l11,.l TQr []])=(some (0,[.l TI l12,.l TQr l13]))):p3o [.l TS l0,.l TPt l1,.l TPt l2,.l TRt l3]=some ((0,[.n (0:Int),.l TI l12,.l TQr l13])):=h3c h4c (sA h0<|sP [1,1]<|sF (bnf h1)<|sA h2<|sP [1]<|sA h3<|sP [1,1]<|sL)
theorem a4j {l0:List (Ty.den TS)}{l1 l2:List (Ty.den TPt)}{l3:List (Ty.den TRt)}{n4:Int}(h0:(p1p [.l TS l0,.l TPt l1,.l TPt l2,.l TRt l3])=(some (1,[.n n4])))(h1:(¬n4=(0:Int))):p3o [.l TS l0,.l TPt l1,.l TPt l2,.l TRt l3]=some ((1,[.n n4])):=h3c h4c (sA h0<|sP [0,1,1]<|sT (bnt h1)<|sP [1]<|sL)
def m3y:FuncId→Option a0q:=e1c 7 [S_i11.k p3o] p3c
theorem i3q:CsOk Tryz.prog m3y:=csA1 j3y h4c
def cyB (p h:Nat):PB:=.cells [.ptr p 0,.int .u64 h,.int .u32 (h+1),.int .u32 (h+2),.imm TCmd (h+3),.int .u64 (h+4),.int .u64 (h+5),.int .u64 (h+6),.arrd TB 64 (h+7),.int .u32 (h+8)]
def pcB (q:Nat):PB:=.cells [.ptr q 0]
def icB (h:Nat):PB:=.cells [.int .i64 h]
def wcB (h:Nat):PB:=.cells [.int .u32 h]
def dosB:PB:=.cells [.nilfn,fnM 49 [.ptr 0 0],fnM 50 [.ptr 0 0],fnM 51 [.ptr 0 0]]
def e4p:LSh:={K:=1,log:=[],ins:=[(sh 19 [(0,.imm TI 0),(1,fnC 64 [.ptr 0 0]),(7,.int .i64 1),(8,.int .i64 2)],[stB 3])],nils:=[],outs:=[(.exit 0,sh 19 [],[stB 0]),(.ret,sh 19 [(4,.int .i64 0)],[stB 1])],cv:=[]}
def j3d:List Dat→Tree Step:=evL m3y 81 2 ls0 e4p
theorem o3p: ∃op,IsL j3d 81 2 e4p op:=bxL i3q (LsOk.none _ _ _)
def l3h:OpA:=opL o3p
theorem u3m (env:List Dat):l3h env=a0b j3d FU env:=h3i o3p env
abbrev h4r:MBox:=boxL o3p
theorem u3r {l0:List (Ty.den TI)}{n1 n2 n3 n4 n5:Int}{l6:List (Ty.den TB)}{n7:Int}{b8:Bool}(g0:0≤n2)(g1:n1=(l0.length:Int))(h0:(n2<n1))(h1:(h3e [.n n3,.n (List.getD l0 (Int.toNat n2) (0:Int))])=(some (0,[.b b8])))(h2:(b8=true)):(j3d [.k 0,.l TI l0,.n n1,.n n2,.n n3,.n n4,.n n5,.l TB l6,.n n7]).sel=some (Step.stop 1 [.n n2,.n n3,.n n4,.n n5,.l TB l6,.n n7]):=sP [1]<|sT (dt h0)<|sTo (c:=(inR n2 (List.length l0)))<|sP [1]<|sA h1<|sP [1,1,1]<|sT h2<|sP [1]<|sL
theorem v3j {l0:List (Ty.den TI)}{n1 n2 n3 n4 n5:Int}{l6:List (Ty.den TB)}{n7:Int}{b8:Bool}(g0:0≤n2)(g1:n1=(l0.length:Int))(h0:(n2<n1))(h1:(h3e [.n n3,.n (List.getD l0 (Int.toNat n2) (0:Int))])=(some (0,[.b b8])))(h2:(b8=false)):(j3d [.k 0,.l TI l0,.n n1,.n n2,.n n3,.n n4,.n n5,.l TB l6,.n n7]).sel=some (Step.go [.k 0,.l TI l0,.n n1,.n (IntKind.wrap .i64 (n2+(1:Int))),.n n3,.n n4,.n n5,.l TB l6,.n n7]):=sP [1]<|sT (dt h0)<|sTo (c:=(inR n2 (List.length l0)))<|sP [1]<|sA h1<|sP [1,1,1]<|sF h2<|sP [1]<|sL
theorem v3i {l0:List (Ty.den TI)}{n1 n2 n3 n4 n5:Int}{l6:List (Ty.den TB)}{n7:Int}(g0:0≤n2)(g1:n1=(l0.length:Int))(h0:(¬n2<n1)):(j3d [.k 0,.l TI l0,.n n1,.n n2,.n n3,.n n4,.n n5,.l TB l6,.n n7]).sel=some (Step.stop 0 [.n n3,.n n4,.n n5,.l TB l6,.n n7]):=sP [1]<|sF (df h0)<|sP [1]<|sL
def S_i77:BSh:={args:=[.imm TI 0,fnC 64 [.ptr 0 0]],blks:=[stB 1],log:=[],outs:=[(.int .i64 0,[stB 1])]}
def ev_i77:List Dat→Tree (Nat×List Dat):=evF m3y 81 (lsM [(2,h4r)] 1) S_i77
theorem i4q: ∃op,IsF ev_i77 81 S_i77 op:=bxF i3q (lsE (lsC (h3g o3p) (atF) lsZ))
def p3i:OpA:=opF i4q
theorem c4w {l0:List (Ty.den TI)}{n1 n2 n3:Int}{l4:List (Ty.den TB)}{n5 n6 n7 n8:Int}{l9:List (Ty.den TB)}{n10:Int}(h0:(l3h [.k 0,.l TI l0,.n (↑(List.length l0):Int),.n (0:Int),.n n1,.n n2,.n n3,.l TB l4,.n n5])=(some (0,[.n n6,.n n7,.n n8,.l TB l9,.n n10]))):p3i [.l TI l0,.n n1,.n n2,.n n3,.l TB l4,.n n5]=some ((0,[.n (-1:Int),.n n6,.n n7,.n n8,.l TB l9,.n n10])):=h3c i4q (sA h0<|sP [1,1]<|sL)
theorem e4m {l0:List (Ty.den TI)}{n1 n2 n3:Int}{l4:List (Ty.den TB)}{n5 n6 n7 n8 n9:Int}{l10:List (Ty.den TB)}{n11:Int}(h0:(l3h [.k 0,.l TI l0,.n (↑(List.length l0):Int),.n (0:Int),.n n1,.n n2,.n n3,.l TB l4,.n n5])=(some (1,[.n n6,.n n7,.n n8,.n n9,.l TB l10,.n n11]))):p3i [.l TI l0,.n n1,.n n2,.n n3,.l TB l4,.n n5]=some ((0,[.n n6,.n n7,.n n8,.n n9,.l TB l10,.n n11])):=h3c i4q (sA h0<|sP [0,1,1]<|sL)
def w3a:LSh:={K:=3,log:=[],ins:=[(sh 19 [(0,.imm TI 0),(1,fnC 78 [.ptr 0 0]),(7,.int .i64 1),(8,.int .i64 2)],[pcB 1,cyB 2 3,mB 12])],nils:=[],outs:=[(.exit 0,sh 19 [],[pcB 1,cyB 2 0,mB 9]),(.ret,sh 19 [(4,.int .i64 0)],[pcB 1,cyB 2 1,mB 10])],cv:=[]}
def i3k:List Dat→Tree Step:=evL m3y 81 2 ls0 w3a
theorem l3c: ∃op,IsL i3k 81 2 w3a op:=bxL i3q (LsOk.none _ _ _)
def k3i:OpA:=opL l3c
theorem r3n (env:List Dat):k3i env=a0b i3k FU env:=h3i l3c env
abbrev a4g:MBox:=boxL l3c
theorem q3j {l0:List (Ty.den TI)}{n1 n2 n3 n4 n5:Int}{l6:List (Ty.den TCmd)}{n7 n8 n9:Int}{l10:List (Ty.den TB)}{n11:Int}{l12:List (Ty.den TI)}{l13:List (Ty.den TQr)}{b14:Bool}(g0:0≤n2)(g1:n1=(l0.length:Int))(h0:(n2<n1))(h1:(h3e [.n n3,.n (List.getD l0 (Int.toNat n2) (0:Int))])=(some (0,[.b b14])))(h2:((!b14)=false)):(i3k [.k 0,.l TI l0,.n n1,.n n2,.n n3,.n n4,.n n5,.l TCmd l6,.n n7,.n n8,.n n9,.l TB l10,.n n11,.l TI l12,.l TQr l13]).sel=some (Step.stop 1 [.n n2,.n n3,.n n4,.n n5,.l TCmd l6,.n n7,.n n8,.n n9,.l TB l10,.n n11,.l TI l12,.l TQr l13]):=sP [1]<|sT (dt h0)<|sTo (c:=(inR n2 (List.length l0)))<|sP [1,1]<|sA h1<|sP [1,1,1,1]<|sT (nf h2)<|sP [1]<|sL
theorem p3r {l0:List (Ty.den TI)}{n1 n2 n3 n4 n5:Int}{l6:List (Ty.den TCmd)}{n7 n8 n9:Int}{l10:List (Ty.den TB)}{n11:Int}{l12:List (Ty.den TI)}{l13:List (Ty.den TQr)}{b14:Bool}(g0:0≤n2)(g1:n1=(l0.length:Int))(h0:(n2<n1))(h1:(h3e [.n n3,.n (List.getD l0 (Int.toNat n2) (0:Int))])=(some (0,[.b b14])))(h2:((!b14)=true)):(i3k [.k 0,.l TI l0,.n n1,.n n2,.n n3,.n n4,.n n5,.l TCmd l6,.n n7,.n n8,.n n9,.l TB l10,.n n11,.l TI l12,.l TQr l13]).sel=some (Step.go [.k 0,.l TI l0,.n n1,.n (IntKind.wrap .i64 (n2+(1:Int))),.n n3,.n n4,.n n5,.l TCmd l6,.n n7,.n n8,.n n9,.l TB l10,.n n11,.l TI l12,.l TQr l13]):=sP [1]<|sT (dt h0)<|sTo (c:=(inR n2 (List.length l0)))<|sP [1,1]<|sA h1<|sP [1,1,1,1]<|sF (nt h2)<|sP [1]<|sL
theorem r3m {l0:List (Ty.den TI)}{n1 n2 n3 n4 n5:Int}{l6:List (Ty.den TCmd)}{n7 n8 n9:Int}{l10:List (Ty.den TB)}{n11:Int}{l12:List (Ty.den TI)}{l13:List (Ty.den TQr)}(g0:0≤n2)(g1:n1=(l0.length:Int))(h0:(¬n2<n1)):(i3k [.k 0,.l TI l0,.n n1,.n n2,.n n3,.n n4,.n n5,.l TCmd l6,.n n7,.n n8,.n n9,.l TB l10,.n n11,.l TI l12,.l TQr l13]).sel=some (Step.stop 0 [.n n3,.n n4,.n n5,.l TCmd l6,.n n7,.n n8,.n n9,.l TB l10,.n n11,.l TI l12,.l TQr l13]):=sP [1]<|sF (df h0)<|sP [1]<|sL
def f4r:BSh:={args:=[.imm TI 0,fnC 78 [.ptr 0 0]],blks:=[pcB 1,cyB 2 1,mB 10],log:=[],outs:=[(.int .i64 0,[pcB 1,cyB 2 1,mB 10])]}
def ev_i113:List Dat→Tree (Nat×List Dat):=evF m3y 81 (lsM [(2,a4g)] 3) f4r
theorem x3q: ∃op,IsF ev_i113 81 f4r op:=bxF i3q (lsE (lsC (h3g l3c) (atF) lsZ))
def m3i:OpA:=opF x3q
theorem y3y {l0:List (Ty.den TI)}{n1 n2 n3:Int}{l4:List (Ty.den TCmd)}{n5 n6 n7:Int}{l8:List (Ty.den TB)}{n9:Int}{l10:List (Ty.den TI)}{l11:List (Ty.den TQr)}{n12 n13 n14:Int}{l15:List (Ty.den TCmd)}{n16 n17 n18:Int}{l19:List (Ty.den TB)}{n20:Int}{l21:List (Ty.den TI)}{l22:List (Ty.den TQr)}(h0:(k3i [.k 0,.l TI l0,.n (↑(List.length l0):Int),.n (0:Int),.n n1,.n n2,.n n3,.l TCmd l4,.n n5,.n n6,.n n7,.l TB l8,.n n9,.l TI l10,.l TQr l11])=(some (0,[.n n12,.n n13,.n n14,.l TCmd l15,.n n16,.n n17,.n n18,.l TB l19,.n n20,.l TI l21,.l TQr l22]))):m3i [.l TI l0,.n n1,.n n2,.n n3,.l TCmd l4,.n n5,.n n6,.n n7,.l TB l8,.n n9,.l TI l10,.l TQr l11]=some ((0,[.n (-1:Int),.n n12,.n n13,.n n14,.l TCmd l15,.n n16,.n n17,.n n18,.l TB l19,.n n20,.l TI l21,.l TQr l22])):=h3c x3q (sA h0<|sP [1,1]<|sL)
theorem y3g {l0:List (Ty.den TI)}{n1 n2 n3:Int}{l4:List (Ty.den TCmd)}{n5 n6 n7:Int}{l8:List (Ty.den TB)}{n9:Int}{l10:List (Ty.den TI)}{l11:List (Ty.den TQr)}{n12 n13 n14 n15:Int}{l16:List (Ty.den TCmd)}{n17 n18 n19:Int}{l20:List (Ty.den TB)}{n21:Int}{l22:List (Ty.den TI)}{l23:List (Ty.den TQr)}(h0:(k3i [.k 0,.l TI l0,.n (↑(List.length l0):Int),.n (0:Int),.n n1,.n n2,.n n3,.l TCmd l4,.n n5,.n n6,.n n7,.l TB l8,.n n9,.l TI l10,.l TQr l11])=(some (1,[.n n12,.n n13,.n n14,.n n15,.l TCmd l16,.n n17,.n n18,.n n19,.l TB l20,.n n21,.l TI l22,.l TQr l23]))):m3i [.l TI l0,.n n1,.n n2,.n n3,.l TCmd l4,.n n5,.n n6,.n n7,.l TB l8,.n n9,.l TI l10,.l TQr l11]=some ((0,[.n n12,.n n13,.n n14,.n n15,.l TCmd l16,.n n17,.n n18,.n n19,.l TB l20,.n n21,.l TI l22,.l TQr l23])):=h3c x3q (sA h0<|sP [0,1,1]<|sL)
def i3b:FuncId→Option a0q:=e1c 81 [S_i77.k p3i,f4r.k m3i] m3y
theorem h3l:CsOk Tryz.prog i3b:=h0a i3q fun B hB=>by
 simp only[List.mem_cons,List.not_mem_nil,or_false]at hB
 rcases hB with rfl|rfl
 ·exact i3g i4q
 ·exact i3g x3q
def z3o:LSh:={K:=1,log:=[],ins:=[(sh 19 [(0,.imm TNd 0),(1,fnC 65 [.ptr 0 0]),(7,.int .i64 1),(8,.int .i64 2)],[stB 3])],nils:=[],outs:=[(.exit 0,sh 19 [],[stB 0]),(.ret,sh 19 [(4,.int .i64 0)],[stB 1])],cv:=[]}
def j3i:List Dat→Tree Step:=evL i3b 79 2 ls0 z3o
theorem o3l: ∃op,IsL j3i 79 2 z3o op:=bxL h3l (LsOk.none _ _ _)
def k3y:OpA:=opL o3l
theorem s3q (env:List Dat):k3y env=a0b j3i FU env:=h3i o3l env
abbrev h4a:MBox:=boxL o3l
theorem v3h {l0:List (Ty.den TNd)}{n1 n2 n3 n4 n5:Int}{l6:List (Ty.den TB)}{n7:Int}{b8:Bool}(g0:0≤n2)(g1:n1=(l0.length:Int))(h0:(n2<n1))(h1:(h3e [.n (IntKind.wrap .u64 n7),.n (Prod.fst (List.getD l0 (Int.toNat n2) (Ty.dflt TNd)))])=(some (0,[.b b8])))(h2:((b8==Prod.snd (List.getD l0 (Int.toNat n2) (Ty.dflt TNd)))=false)):(j3i [.k 0,.l TNd l0,.n n1,.n n2,.n n3,.n n4,.n n5,.l TB l6,.n n7]).sel=some (Step.stop 1 [.n n2,.n n3,.n n4,.n n5,.l TB l6,.n n7]):=sP [1]<|sT (dt h0)<|sTo (c:=(inR n2 (List.length l0)))<|sP [1,1]<|sA h1<|sP [1,1,1,1,1]<|sT (nf h2)<|sP [1]<|sL
theorem t3n {l0:List (Ty.den TNd)}{n1 n2 n3 n4 n5:Int}{l6:List (Ty.den TB)}{n7:Int}{b8:Bool}(g0:0≤n2)(g1:n1=(l0.length:Int))(h0:(n2<n1))(h1:(h3e [.n (IntKind.wrap .u64 n7),.n (Prod.fst (List.getD l0 (Int.toNat n2) (Ty.dflt TNd)))])=(some (0,[.b b8])))(h2:((b8==Prod.snd (List.getD l0 (Int.toNat n2) (Ty.dflt TNd)))=true)):(j3i [.k 0,.l TNd l0,.n n1,.n n2,.n n3,.n n4,.n n5,.l TB l6,.n n7]).sel=some (Step.go [.k 0,.l TNd l0,.n n1,.n (IntKind.wrap .i64 (n2+(1:Int))),.n n3,.n n4,.n n5,.l TB l6,.n n7]):=sP [1]<|sT (dt h0)<|sTo (c:=(inR n2 (List.length l0)))<|sP [1,1]<|sA h1<|sP [1,1,1,1,1]<|sF (nt h2)<|sP [1]<|sL
theorem v3v {l0:List (Ty.den TNd)}{n1 n2 n3 n4 n5:Int}{l6:List (Ty.den TB)}{n7:Int}(g0:0≤n2)(g1:n1=(l0.length:Int))(h0:(¬n2<n1)):(j3i [.k 0,.l TNd l0,.n n1,.n n2,.n n3,.n n4,.n n5,.l TB l6,.n n7]).sel=some (Step.stop 0 [.n n3,.n n4,.n n5,.l TB l6,.n n7]):=sP [1]<|sF (df h0)<|sP [1]<|sL
def S_i78:BSh:={args:=[.imm TNd 0,fnC 65 [.ptr 0 0]],blks:=[stB 1],log:=[],outs:=[(.int .i64 0,[stB 1])]}
def ev_i78:List Dat→Tree (Nat×List Dat):=evF i3b 79 (lsM [(2,h4a)] 1) S_i78
theorem g4s: ∃op,IsF ev_i78 79 S_i78 op:=bxF h3l (lsE (lsC (h3g o3l) (atF) lsZ))
def q3s:OpA:=opF g4s
theorem g4j {l0:List (Ty.den TNd)}{n1 n2 n3:Int}{l4:List (Ty.den TB)}{n5 n6 n7 n8:Int}{l9:List (Ty.den TB)}{n10:Int}(h0:(k3y [.k 0,.l TNd l0,.n (↑(List.length l0):Int),.n (0:Int),.n n1,.n n2,.n n3,.l TB l4,.n n5])=(some (0,[.n n6,.n n7,.n n8,.l TB l9,.n n10]))):q3s [.l TNd l0,.n n1,.n n2,.n n3,.l TB l4,.n n5]=some ((0,[.n (-1:Int),.n n6,.n n7,.n n8,.l TB l9,.n n10])):=h3c g4s (sA h0<|sP [1,1]<|sL)
theorem a4b {l0:List (Ty.den TNd)}{n1 n2 n3:Int}{l4:List (Ty.den TB)}{n5 n6 n7 n8 n9:Int}{l10:List (Ty.den TB)}{n11:Int}(h0:(k3y [.k 0,.l TNd l0,.n (↑(List.length l0):Int),.n (0:Int),.n n1,.n n2,.n n3,.l TB l4,.n n5])=(some (1,[.n n6,.n n7,.n n8,.n n9,.l TB l10,.n n11]))):q3s [.l TNd l0,.n n1,.n n2,.n n3,.l TB l4,.n n5]=some ((0,[.n n6,.n n7,.n n8,.n n9,.l TB l10,.n n11])):=h3c g4s (sA h0<|sP [0,1,1]<|sL)
def x3s:LSh:={K:=3,log:=[],ins:=[(sh 19 [(0,.imm TNd 0),(1,fnC 76 [.ptr 0 0]),(7,.int .i64 1),(8,.int .i64 2)],[pcB 1,cyB 2 3,mB 12])],nils:=[],outs:=[(.exit 0,sh 19 [],[pcB 1,cyB 2 0,mB 9]),(.ret,sh 19 [(4,.int .i64 0)],[pcB 1,cyB 2 1,mB 10])],cv:=[]}
def h3x:List Dat→Tree Step:=evL i3b 79 2 ls0 x3s
theorem l3l: ∃op,IsL h3x 79 2 x3s op:=bxL h3l (LsOk.none _ _ _)
def j3z:OpA:=opL l3l
theorem q3x (env:List Dat):j3z env=a0b h3x FU env:=h3i l3l env
abbrev a4r:MBox:=boxL l3l
theorem p3q {l0:List (Ty.den TNd)}{n1 n2 n3 n4 n5:Int}{l6:List (Ty.den TCmd)}{n7 n8 n9:Int}{l10:List (Ty.den TB)}{n11:Int}{l12:List (Ty.den TI)}{l13:List (Ty.den TQr)}{b14 b15:Bool}(g0:0≤n2)(g1:n1=(l0.length:Int))(h0:(n2<n1))(h1:(h3e [.n (IntKind.wrap .u64 n11),.n (Prod.fst (List.getD l0 (Int.toNat n2) (Ty.dflt TNd)))])=(some (0,[.b b14])))(h2:((b14==Prod.snd (List.getD l0 (Int.toNat n2) (Ty.dflt TNd)))=false))(h3:(inR (Prod.fst (List.getD l0 (Int.toNat n2) (Ty.dflt TNd))) (List.length l12)=true))(h4:(h3e [.n n3,.n (List.getD l12 (Int.toNat (Prod.fst (List.getD l0 (Int.toNat n2) (Ty.dflt TNd)))) (0:Int))])=(some (0,[.b b15])))(h5:((!b15)=false)):(h3x [.k 0,.l TNd l0,.n n1,.n n2,.n n3,.n n4,.n n5,.l TCmd l6,.n n7,.n n8,.n n9,.l TB l10,.n n11,.l TI l12,.l TQr l13]).sel=some (Step.stop 1 [.n n2,.n n3,.n n4,.n n5,.l TCmd l6,.n n7,.n n8,.n n9,.l TB l10,.n n11,.l TI l12,.l TQr l13]):=sP [1]<|sT (dt h0)<|sTo (c:=(inR n2 (List.length l0)))<|sP [1,1]<|sA h1<|sP [1,1,1,1]<|sT (nf h2)<|sT h3<|sP [1]<|sA h4<|sP [1,1,1,1,1]<|sT (nf h5)<|sP [1]<|sL
theorem q3e {l0:List (Ty.den TNd)}{n1 n2 n3 n4 n5:Int}{l6:List (Ty.den TCmd)}{n7 n8 n9:Int}{l10:List (Ty.den TB)}{n11:Int}{l12:List (Ty.den TI)}{l13:List (Ty.den TQr)}{b14 b15:Bool}(g0:0≤n2)(g1:n1=(l0.length:Int))(h0:(n2<n1))(h1:(h3e [.n (IntKind.wrap .u64 n11),.n (Prod.fst (List.getD l0 (Int.toNat n2) (Ty.dflt TNd)))])=(some (0,[.b b14])))(h2:((b14==Prod.snd (List.getD l0 (Int.toNat n2) (Ty.dflt TNd)))=false))(h3:(inR (Prod.fst (List.getD l0 (Int.toNat n2) (Ty.dflt TNd))) (List.length l12)=true))(h4:(h3e [.n n3,.n (List.getD l12 (Int.toNat (Prod.fst (List.getD l0 (Int.toNat n2) (Ty.dflt TNd)))) (0:Int))])=(some (0,[.b b15])))(h5:((!b15)=true)):(h3x [.k 0,.l TNd l0,.n n1,.n n2,.n n3,.n n4,.n n5,.l TCmd l6,.n n7,.n n8,.n n9,.l TB l10,.n n11,.l TI l12,.l TQr l13]).sel=some (Step.go [.k 0,.l TNd l0,.n n1,.n (IntKind.wrap .i64 (n2+(1:Int))),.n n3,.n n4,.n n5,.l TCmd l6,.n n7,.n n8,.n n9,.l TB l10,.n n11,.l TI l12,.l TQr l13]):=sP [1]<|sT (dt h0)<|sTo (c:=(inR n2 (List.length l0)))<|sP [1,1]<|sA h1<|sP [1,1,1,1]<|sT (nf h2)<|sT h3<|sP [1]<|sA h4<|sP [1,1,1,1,1]<|sF (nt h5)<|sP [1]<|sL
theorem r3s {l0:List (Ty.den TNd)}{n1 n2 n3 n4 n5:Int}{l6:List (Ty.den TCmd)}{n7 n8 n9:Int}{l10:List (Ty.den TB)}{n11:Int}{l12:List (Ty.den TI)}{l13:List (Ty.den TQr)}{b14:Bool}(g0:0≤n2)(g1:n1=(l0.length:Int))(h0:(n2<n1))(h1:(h3e [.n (IntKind.wrap .u64 n11),.n (Prod.fst (List.getD l0 (Int.toNat n2) (Ty.dflt TNd)))])=(some (0,[.b b14])))(h2:((b14==Prod.snd (List.getD l0 (Int.toNat n2) (Ty.dflt TNd)))=true)):(h3x [.k 0,.l TNd l0,.n n1,.n n2,.n n3,.n n4,.n n5,.l TCmd l6,.n n7,.n n8,.n n9,.l TB l10,.n n11,.l TI l12,.l TQr l13]).sel=some (Step.go [.k 0,.l TNd l0,.n n1,.n (IntKind.wrap .i64 (n2+(1:Int))),.n n3,.n n4,.n n5,.l TCmd l6,.n n7,.n n8,.n n9,.l TB l10,.n n11,.l TI l12,.l TQr l13]):=sP [1]<|sT (dt h0)<|sTo (c:=(inR n2 (List.length l0)))<|sP [1,1]<|sA h1<|sP [1,1,1,1]<|sF (nt h2)<|sP [0,1,1,0,1]<|sL
theorem p3k {l0:List (Ty.den TNd)}{n1 n2 n3 n4 n5:Int}{l6:List (Ty.den TCmd)}{n7 n8 n9:Int}{l10:List (Ty.den TB)}{n11:Int}{l12:List (Ty.den TI)}{l13:List (Ty.den TQr)}(g0:0≤n2)(g1:n1=(l0.length:Int))(h0:(¬n2<n1)):(h3x [.k 0,.l TNd l0,.n n1,.n n2,.n n3,.n n4,.n n5,.l TCmd l6,.n n7,.n n8,.n n9,.l TB l10,.n n11,.l TI l12,.l TQr l13]).sel=some (Step.stop 0 [.n n3,.n n4,.n n5,.l TCmd l6,.n n7,.n n8,.n n9,.l TB l10,.n n11,.l TI l12,.l TQr l13]):=sP [1]<|sF (df h0)<|sP [1]<|sL
def z3n:BSh:={args:=[.imm TNd 0,fnC 76 [.ptr 0 0]],blks:=[pcB 1,cyB 2 1,mB 10],log:=[],outs:=[(.int .i64 0,[pcB 1,cyB 2 1,mB 10])]}
def ev_i111:List Dat→Tree (Nat×List Dat):=evF i3b 79 (lsM [(2,a4r)] 3) z3n
theorem x3y: ∃op,IsF ev_i111 79 z3n op:=bxF h3l (lsE (lsC (h3g l3l) (atF) lsZ))
def j3o:OpA:=opF x3y
theorem y3x {l0:List (Ty.den TNd)}{n1 n2 n3:Int}{l4:List (Ty.den TCmd)}{n5 n6 n7:Int}{l8:List (Ty.den TB)}{n9:Int}{l10:List (Ty.den TI)}{l11:List (Ty.den TQr)}{n12 n13 n14:Int}{l15:List (Ty.den TCmd)}{n16 n17 n18:Int}{l19:List (Ty.den TB)}{n20:Int}{l21:List (Ty.den TI)}{l22:List (Ty.den TQr)}(h0:(j3z [.k 0,.l TNd l0,.n (↑(List.length l0):Int),.n (0:Int),.n n1,.n n2,.n n3,.l TCmd l4,.n n5,.n n6,.n n7,.l TB l8,.n n9,.l TI l10,.l TQr l11])=(some (0,[.n n12,.n n13,.n n14,.l TCmd l15,.n n16,.n n17,.n n18,.l TB l19,.n n20,.l TI l21,.l TQr l22]))):j3o [.l TNd l0,.n n1,.n n2,.n n3,.l TCmd l4,.n n5,.n n6,.n n7,.l TB l8,.n n9,.l TI l10,.l TQr l11]=some ((0,[.n (-1:Int),.n n12,.n n13,.n n14,.l TCmd l15,.n n16,.n n17,.n n18,.l TB l19,.n n20,.l TI l21,.l TQr l22])):=h3c x3y (sA h0<|sP [1,1]<|sL)
theorem y3e {l0:List (Ty.den TNd)}{n1 n2 n3:Int}{l4:List (Ty.den TCmd)}{n5 n6 n7:Int}{l8:List (Ty.den TB)}{n9:Int}{l10:List (Ty.den TI)}{l11:List (Ty.den TQr)}{n12 n13 n14 n15:Int}{l16:List (Ty.den TCmd)}{n17 n18 n19:Int}{l20:List (Ty.den TB)}{n21:Int}{l22:List (Ty.den TI)}{l23:List (Ty.den TQr)}(h0:(j3z [.k 0,.l TNd l0,.n (↑(List.length l0):Int),.n (0:Int),.n n1,.n n2,.n n3,.l TCmd l4,.n n5,.n n6,.n n7,.l TB l8,.n n9,.l TI l10,.l TQr l11])=(some (1,[.n n12,.n n13,.n n14,.n n15,.l TCmd l16,.n n17,.n n18,.n n19,.l TB l20,.n n21,.l TI l22,.l TQr l23]))):j3o [.l TNd l0,.n n1,.n n2,.n n3,.l TCmd l4,.n n5,.n n6,.n n7,.l TB l8,.n n9,.l TI l10,.l TQr l11]=some ((0,[.n n12,.n n13,.n n14,.n n15,.l TCmd l16,.n n17,.n n18,.n n19,.l TB l20,.n n21,.l TI l22,.l TQr l23])):=h3c x3y (sA h0<|sP [0,1,1]<|sL)
def x3h:LSh:={K:=1,log:=[],ins:=[(sh 19 [(0,.imm TNd 0),(1,fnC 77 [.ptr 0 0]),(7,.int .i64 1),(8,.int .i64 2)],[icB 3])],nils:=[],outs:=[(.exit 0,sh 19 [],[icB 0]),(.ret,sh 19 [(4,.int .i64 0)],[icB 1])],cv:=[]}
def i3i:List Dat→Tree Step:=evL i3b 79 2 ls0 x3h
theorem l3j: ∃op,IsL i3i 79 2 x3h op:=bxL h3l (LsOk.none _ _ _)
def k3d:OpA:=opL l3j
theorem r3j (env:List Dat):k3d env=a0b i3i FU env:=h3i l3j env
abbrev b4l:MBox:=boxL l3j
theorem p3m {l0:List (Ty.den TNd)}{n1 n2 n3:Int}(g0:0≤n2)(g1:n1=(l0.length:Int))(h0:(n2<n1))(h1:((Prod.fst (List.getD l0 (Int.toNat n2) (Ty.dflt TNd)):Int)=n3)):(i3i [.k 0,.l TNd l0,.n n1,.n n2,.n n3]).sel=some (Step.stop 1 [.n n2,.n n3]):=sP [1]<|sT (dt h0)<|sTo (c:=(inR n2 (List.length l0)))<|sP [1,1]<|sT (bt h1)<|sP [1]<|sL
theorem q3m {l0:List (Ty.den TNd)}{n1 n2 n3:Int}(g0:0≤n2)(g1:n1=(l0.length:Int))(h0:(n2<n1))(h1:(¬(Prod.fst (List.getD l0 (Int.toNat n2) (Ty.dflt TNd)):Int)=n3)):(i3i [.k 0,.l TNd l0,.n n1,.n n2,.n n3]).sel=some (Step.go [.k 0,.l TNd l0,.n n1,.n (IntKind.wrap .i64 (n2+(1:Int))),.n n3]):=sP [1]<|sT (dt h0)<|sTo (c:=(inR n2 (List.length l0)))<|sP [1,1]<|sF (bf h1)<|sP [1]<|sL
theorem q3i {l0:List (Ty.den TNd)}{n1 n2 n3:Int}(g0:0≤n2)(g1:n1=(l0.length:Int))(h0:(¬n2<n1)):(i3i [.k 0,.l TNd l0,.n n1,.n n2,.n n3]).sel=some (Step.stop 0 [.n n3]):=sP [1]<|sF (df h0)<|sP [1]<|sL
def f4p:BSh:={args:=[.imm TNd 0,fnC 77 [.ptr 0 0]],blks:=[icB 1],log:=[],outs:=[(.int .i64 0,[icB 1])]}
def ev_i112:List Dat→Tree (Nat×List Dat):=evF i3b 79 (lsM [(2,b4l)] 1) f4p
theorem x3u: ∃op,IsF ev_i112 79 f4p op:=bxF h3l (lsE (lsC (h3g l3j) (atF) lsZ))
def k3o:OpA:=opF x3u
theorem x3z {l0:List (Ty.den TNd)}{n1 n2:Int}(h0:(k3d [.k 0,.l TNd l0,.n (↑(List.length l0):Int),.n (0:Int),.n n1])=(some (0,[.n n2]))):k3o [.l TNd l0,.n n1]=some ((0,[.n (-1:Int),.n n2])):=h3c x3u (sA h0<|sP [1,1]<|sL)
theorem y3l {l0:List (Ty.den TNd)}{n1 n2 n3:Int}(h0:(k3d [.k 0,.l TNd l0,.n (↑(List.length l0):Int),.n (0:Int),.n n1])=(some (1,[.n n2,.n n3]))):k3o [.l TNd l0,.n n1]=some ((0,[.n n2,.n n3])):=h3c x3u (sA h0<|sP [0,1,1]<|sL)
def c4b:LSh:={K:=2,log:=[],ins:=[(sh 19 [(0,.imm TNd 0),(1,fnC 54 [.ptr 0 0,.ptr 1 0]),(7,.int .i64 1),(8,.int .i64 2)],[wcB 3,wcB 4])],nils:=[],outs:=[(.exit 0,sh 19 [],[wcB 0,wcB 1]),(.ret,sh 19 [(4,.int .i64 0)],[wcB 1,wcB 2])],cv:=[]}
def h3y:List Dat→Tree Step:=evL i3b 79 2 ls0 c4b
theorem n3z: ∃op,IsL h3y 79 2 c4b op:=bxL h3l (LsOk.none _ _ _)
def l3n:OpA:=opL n3z
theorem s3v (env:List Dat):l3n env=a0b h3y FU env:=h3i n3z env
abbrev g4v:MBox:=boxL n3z
theorem s3w {l0:List (Ty.den TNd)}{n1 n2 n3 n4:Int}{b5:Bool}(g0:0≤n2)(g1:n1=(l0.length:Int))(h0:(n2<n1))(h1:(Prod.snd (List.getD l0 (Int.toNat n2) (Ty.dflt TNd))=true))(h2:(h3e [.n (IntKind.wrap .u64 n3),.n (Prod.fst (List.getD l0 (Int.toNat n2) (Ty.dflt TNd)))])=(some (0,[.b b5])))(h3:(b5=false)):(h3y [.k 0,.l TNd l0,.n n1,.n n2,.n n3,.n n4]).sel=some (Step.stop 1 [.n n2,.n n3,.n n4]):=sP [1]<|sT (dt h0)<|sTo (c:=(inR n2 (List.length l0)))<|sP [1]<|sT h1<|sA h2<|sP [1,1,1]<|sT (nf h3)<|sP [1]<|sL
theorem r3v {l0:List (Ty.den TNd)}{n1 n2 n3 n4:Int}{b5:Bool}(g0:0≤n2)(g1:n1=(l0.length:Int))(h0:(n2<n1))(h1:(Prod.snd (List.getD l0 (Int.toNat n2) (Ty.dflt TNd))=true))(h2:(h3e [.n (IntKind.wrap .u64 n3),.n (Prod.fst (List.getD l0 (Int.toNat n2) (Ty.dflt TNd)))])=(some (0,[.b b5])))(h3:(b5=true)):(h3y [.k 0,.l TNd l0,.n n1,.n n2,.n n3,.n n4]).sel=some (Step.go [.k 0,.l TNd l0,.n n1,.n (IntKind.wrap .i64 (n2+(1:Int))),.n n3,.n n4]):=sP [1]<|sT (dt h0)<|sTo (c:=(inR n2 (List.length l0)))<|sP [1]<|sT h1<|sA h2<|sP [1,1,1]<|sF (nt h3)<|sP [1]<|sL
theorem u3c {l0:List (Ty.den TNd)}{n1 n2 n3 n4:Int}{b5:Bool}(g0:0≤n2)(g1:n1=(l0.length:Int))(h0:(n2<n1))(h1:(Prod.snd (List.getD l0 (Int.toNat n2) (Ty.dflt TNd))=false))(h2:(h3e [.n (IntKind.wrap .u64 n4),.n (Prod.fst (List.getD l0 (Int.toNat n2) (Ty.dflt TNd)))])=(some (0,[.b b5])))(h3:(b5=false)):(h3y [.k 0,.l TNd l0,.n n1,.n n2,.n n3,.n n4]).sel=some (Step.stop 1 [.n n2,.n n3,.n n4]):=sP [1]<|sT (dt h0)<|sTo (c:=(inR n2 (List.length l0)))<|sP [1]<|sF h1<|sA h2<|sP [1,1,1]<|sT (nf h3)<|sP [1]<|sL
theorem s3x {l0:List (Ty.den TNd)}{n1 n2 n3 n4:Int}{b5:Bool}(g0:0≤n2)(g1:n1=(l0.length:Int))(h0:(n2<n1))(h1:(Prod.snd (List.getD l0 (Int.toNat n2) (Ty.dflt TNd))=false))(h2:(h3e [.n (IntKind.wrap .u64 n4),.n (Prod.fst (List.getD l0 (Int.toNat n2) (Ty.dflt TNd)))])=(some (0,[.b b5])))(h3:(b5=true)):(h3y [.k 0,.l TNd l0,.n n1,.n n2,.n n3,.n n4]).sel=some (Step.go [.k 0,.l TNd l0,.n n1,.n (IntKind.wrap .i64 (n2+(1:Int))),.n n3,.n n4]):=sP [1]<|sT (dt h0)<|sTo (c:=(inR n2 (List.length l0)))<|sP [1]<|sF h1<|sA h2<|sP [1,1,1]<|sF (nt h3)<|sP [1]<|sL
theorem v3p {l0:List (Ty.den TNd)}{n1 n2 n3 n4:Int}(g0:0≤n2)(g1:n1=(l0.length:Int))(h0:(¬n2<n1)):(h3y [.k 0,.l TNd l0,.n n1,.n n2,.n n3,.n n4]).sel=some (Step.stop 0 [.n n3,.n n4]):=sP [1]<|sF (df h0)<|sP [1]<|sL
def S_i73:BSh:={args:=[.imm TNd 0,fnC 54 [.ptr 0 0,.ptr 1 0]],blks:=[wcB 1,wcB 2],log:=[],outs:=[(.int .i64 0,[wcB 1,wcB 2])]}
def ev_i73:List Dat→Tree (Nat×List Dat):=evF i3b 79 (lsM [(2,g4v)] 2) S_i73
theorem i4d: ∃op,IsF ev_i73 79 S_i73 op:=bxF h3l (lsE (lsC (h3g n3z) (atF) lsZ))
def o3v:OpA:=opF i4d
theorem f4c {l0:List (Ty.den TNd)}{n1 n2 n3 n4:Int}(h0:(l3n [.k 0,.l TNd l0,.n (↑(List.length l0):Int),.n (0:Int),.n n1,.n n2])=(some (0,[.n n3,.n n4]))):o3v [.l TNd l0,.n n1,.n n2]=some ((0,[.n (-1:Int),.n n3,.n n4])):=h3c i4d (sA h0<|sP [1,1]<|sL)
theorem e4o {l0:List (Ty.den TNd)}{n1 n2 n3 n4 n5:Int}(h0:(l3n [.k 0,.l TNd l0,.n (↑(List.length l0):Int),.n (0:Int),.n n1,.n n2])=(some (1,[.n n3,.n n4,.n n5]))):o3v [.l TNd l0,.n n1,.n n2]=some ((0,[.n n3,.n n4,.n n5])):=h3c i4d (sA h0<|sP [0,1,1]<|sL)
def a4x:FuncId→Option a0q:=e1c 79 [S_i78.k q3s,z3n.k j3o,f4p.k k3o,S_i73.k o3v] i3b
theorem q3w:CsOk Tryz.prog a4x:=h0a h3l fun B hB=>by
 simp only[List.mem_cons,List.not_mem_nil,or_false]at hB
 rcases hB with rfl|rfl|rfl|rfl
 ·exact i3g g4s
 ·exact i3g x3y
 ·exact i3g x3u
 ·exact i3g i4d
def S_i39:BSh:={args:=[stV 0,.imm TI 5],blks:=[],log:=[],outs:=[(.bool 0,[])]}
def ev_i39:List Dat→Tree (Nat×List Dat):=evF a4x 34 ls0 S_i39
theorem e_i39: ∃op,IsF ev_i39 34 S_i39 op:=bxF q3w (LsOk.none _ _ _)
def i3y:OpA:=opF e_i39
theorem d4a {n0 n1 n2:Int}{l3:List (Ty.den TB)}{n4:Int}{l5:List (Ty.den TI)}{n6 n7 n8 n9:Int}{l10:List (Ty.den TB)}{n11:Int}(h0:(p3i [.l TI l5,.n n0,.n n1,.n n2,.l TB l3,.n n4])=(some (0,[.n n6,.n n7,.n n8,.n n9,.l TB l10,.n n11]))):i3y [.n n0,.n n1,.n n2,.l TB l3,.n n4,.l TI l5]=some ((0,[.b (decide (n6≥(0:Int)))])):=h3c e_i39 (sP [1,1]<|sA h0<|sP [1,1,1,1]<|sL)
def b4e:FuncId→Option a0q:=a0s 34 (S_i39.k i3y) a4x
theorem r3e:CsOk Tryz.prog b4e:=csL1 q3w e_i39
def S_i40:BSh:={args:=[stV 0,qrV 5],blks:=[],log:=[],outs:=[(.bool 0,[])]}
def ev_i40:List Dat→Tree (Nat×List Dat):=evF b4e 35 ls0 S_i40
theorem e_i40: ∃op,IsF ev_i40 35 S_i40 op:=bxF r3e (LsOk.none _ _ _)
def o3y:OpA:=opF e_i40
theorem f4a {n0 n1 n2:Int}{l3:List (Ty.den TB)}{n4 n5 n6:Int}{l7:List (Ty.den TI)}{l8:List (Ty.den TNd)}{l9:List (Ty.den TI)}{n10 n11 n12 n13:Int}{l14:List (Ty.den TB)}{n15:Int}(h0:(q3s [.l TNd l8,.n n0,.n n1,.n n2,.l TB l3,.n n4])=(some (0,[.n n10,.n n11,.n n12,.n n13,.l TB l14,.n n15]))):o3y [.n n0,.n n1,.n n2,.l TB l3,.n n4,.n n5,.n n6,.l TI l7,.l TNd l8,.l TI l9]=some ((0,[.b !decide (n10≥(0:Int))])):=h3c e_i40 (sP [1,1]<|sA h0<|sP [1,1,1,1]<|sL)
def z3l:FuncId→Option a0q:=a0s 35 (S_i40.k o3y) b4e
theorem r3f:CsOk Tryz.prog z3l:=csL1 r3e e_i40
def S_i74:BSh:={args:=[.ptr 0 0,qrV 0],blks:=[cyB 1 5,mB 14],log:=[],outs:=[(.bool 0,[cyB 1 1,mB 10])]}
def ev_i74:List Dat→Tree (Nat×List Dat):=evF z3l 55 ls0 S_i74
theorem e_i74: ∃op,IsF ev_i74 55 S_i74 op:=bxF r3f (LsOk.none _ _ _)
def i3z:OpA:=opF e_i74
theorem z3h {n0 n1:Int}{l2:List (Ty.den TI)}{l3:List (Ty.den TNd)}{l4:List (Ty.den TI)}{n5 n6 n7:Int}{l8:List (Ty.den TCmd)}{n9 n10 n11:Int}{l12:List (Ty.den TB)}{n13:Int}{l14:List (Ty.den TI)}{l15:List (Ty.den TQr)}{n16 n17 n18 n19:Int}{l20:List (Ty.den TCmd)}{n21 n22 n23:Int}{l24:List (Ty.den TB)}{n25:Int}{l26:List (Ty.den TI)}{l27:List (Ty.den TQr)}(h0:(m3i [.l TI l2,.n n5,.n n6,.n n7,.l TCmd l8,.n n9,.n n10,.n n11,.l TB l12,.n n13,.l TI l14,.l TQr l15])=(some (0,[.n n16,.n n17,.n n18,.n n19,.l TCmd l20,.n n21,.n n22,.n n23,.l TB l24,.n n25,.l TI l26,.l TQr l27]))):i3z [.n n0,.n n1,.l TI l2,.l TNd l3,.l TI l4,.n n5,.n n6,.n n7,.l TCmd l8,.n n9,.n n10,.n n11,.l TB l12,.n n13,.l TI l14,.l TQr l15]=some ((0,[.b !decide (n16≥(0:Int)),.n n5,.n n6,.n n7,.l TCmd l8,.n n9,.n n10,.n n11,.l TB l12,.n n13,.l TI l14,.l TQr l15])):=h3c e_i74 (sP [1,1]<|sA h0<|sP [1,1,1,1]<|sL)
def r3h:FuncId→Option a0q:=e1c 55 [S_i74.k i3z] z3l
theorem k3g:CsOk Tryz.prog r3h:=csA1 r3f e_i74
def f4j:LSh:={K:=1,log:=[],ins:=[(sh 84 [(0,.ptr 0 0),(3,.ptr 1 0),(4,.ptr 2 0),(5,.ptr 3 0),(15,.int .i64 0),(16,.int .i64 1)],[mB 2,stB 4,stB 9,stB 14])],nils:=[],outs:=[(.exit 0,sh 84 [(0,.ptr 0 0),(3,.ptr 1 0),(4,.ptr 2 0),(5,.ptr 3 0)],[mB 0,stB 2,stB 7,stB 12])],cv:=[]}
def i3a:List Dat→Tree Step:=evL r3h 11 5 ls0 f4j
theorem n3k: ∃op,IsL i3a 11 5 f4j op:=bxL k3g (LsOk.none _ _ _)
def n3b:OpA:=opL n3k
theorem s3e (env:List Dat):n3b env=a0b i3a FU env:=h3i n3k env
abbrev i4s:MBox:=boxL n3k
theorem s3b {n0 n1:Int}{l2:List (Ty.den TI)}{l3:List (Ty.den TQr)}{n4 n5 n6:Int}{l7:List (Ty.den TB)}{n8 n9 n10 n11:Int}{l12:List (Ty.den TB)}{n13 n14 n15 n16:Int}{l17:List (Ty.den TB)}{n18:Int}{b19:Bool}{n20:Int}{b21:Bool}{n22:Int}{b23:Bool}{n24:Int}{b25:Bool}(g0:0≤n1)(h0:(n1<n0))(h1:(h3e [.n n4,.n n1])=(some (0,[.b b19])))(h2:(h3m [.n n14,.n n1,.b b19])=(some (0,[.n n20])))(h3:(h3e [.n (iand IntKind.u64 n4 n5),.n n1])=(some (0,[.b b21])))(h4:(h3m [.n n15,.n n1,.b b21])=(some (0,[.n n22])))(h5:(h3e [.n (iand IntKind.u64 n4 n6),.n n1])=(some (0,[.b b23])))(h6:(h3m [.n n16,.n n1,.b b23])=(some (0,[.n n24])))(h7:(h3e [.n n24,.n n1])=(some (0,[.b b25])))(h8:(b25=true))(h9:(inR n1 64=true)):(i3a [.k 0,.n n0,.n n1,.l TI l2,.l TQr l3,.n n4,.n n5,.n n6,.l TB l7,.n n8,.n n9,.n n10,.n n11,.l TB l12,.n n13,.n n14,.n n15,.n n16,.l TB l17,.n n18]).sel=some (Step.go [.k 0,.n n0,.n (IntKind.wrap .i64 (n1+(1:Int))),.l TI l2,.l TQr l3,.n n4,.n n5,.n n6,.l TB l7,.n n8,.n n9,.n n10,.n n11,.l TB l12,.n n13,.n n20,.n n22,.n n24,.l TB (List.set l17 (Int.toNat n1) (imin (List.getD l7 (Int.toNat n1) (0:Int)) (20:Int))),.n n18]):=sP [1]<|sT (dt h0)<|sA h1<|sP [1,1]<|sA h2<|sP [1,1,1]<|sA h3<|sP [1,1]<|sA h4<|sP [1,1,1]<|sA h5<|sP [1,1]<|sA h6<|sP [1,1,1]<|sA h7<|sP [1,1]<|sT h8<|sT h9<|sT h9<|sP [1]<|sL
theorem v3q {n0 n1:Int}{l2:List (Ty.den TI)}{l3:List (Ty.den TQr)}{n4 n5 n6:Int}{l7:List (Ty.den TB)}{n8 n9 n10 n11:Int}{l12:List (Ty.den TB)}{n13 n14 n15 n16:Int}{l17:List (Ty.den TB)}{n18:Int}{b19:Bool}{n20:Int}{b21:Bool}{n22:Int}{b23:Bool}{n24:Int}{b25:Bool}(g0:0≤n1)(h0:(n1<n0))(h1:(h3e [.n n4,.n n1])=(some (0,[.b b19])))(h2:(h3m [.n n14,.n n1,.b b19])=(some (0,[.n n20])))(h3:(h3e [.n (iand IntKind.u64 n4 n5),.n n1])=(some (0,[.b b21])))(h4:(h3m [.n n15,.n n1,.b b21])=(some (0,[.n n22])))(h5:(h3e [.n (iand IntKind.u64 n4 n6),.n n1])=(some (0,[.b b23])))(h6:(h3m [.n n16,.n n1,.b b23])=(some (0,[.n n24])))(h7:(h3e [.n n24,.n n1])=(some (0,[.b b25])))(h8:(b25=false)):(i3a [.k 0,.n n0,.n n1,.l TI l2,.l TQr l3,.n n4,.n n5,.n n6,.l TB l7,.n n8,.n n9,.n n10,.n n11,.l TB l12,.n n13,.n n14,.n n15,.n n16,.l TB l17,.n n18]).sel=some (Step.go [.k 0,.n n0,.n (IntKind.wrap .i64 (n1+(1:Int))),.l TI l2,.l TQr l3,.n n4,.n n5,.n n6,.l TB l7,.n n8,.n n9,.n n10,.n n11,.l TB l12,.n n13,.n n20,.n n22,.n n24,.l TB l17,.n n18]):=sP [1]<|sT (dt h0)<|sA h1<|sP [1,1]<|sA h2<|sP [1,1,1]<|sA h3<|sP [1,1]<|sA h4<|sP [1,1,1]<|sA h5<|sP [1,1]<|sA h6<|sP [1,1,1]<|sA h7<|sP [1,1]<|sF h8<|sP [1]<|sL
theorem v3b {n0 n1:Int}{l2:List (Ty.den TI)}{l3:List (Ty.den TQr)}{n4 n5 n6:Int}{l7:List (Ty.den TB)}{n8 n9 n10 n11:Int}{l12:List (Ty.den TB)}{n13 n14 n15 n16:Int}{l17:List (Ty.den TB)}{n18:Int}(g0:0≤n1)(h0:(¬n1<n0)):(i3a [.k 0,.n n0,.n n1,.l TI l2,.l TQr l3,.n n4,.n n5,.n n6,.l TB l7,.n n8,.n n9,.n n10,.n n11,.l TB l12,.n n13,.n n14,.n n15,.n n16,.l TB l17,.n n18]).sel=some (Step.stop 0 [.l TI l2,.l TQr l3,.n n4,.n n5,.n n6,.l TB l7,.n n8,.n n9,.n n10,.n n11,.l TB l12,.n n13,.n n14,.n n15,.n n16,.l TB l17,.n n18]):=sP [1]<|sF (df h0)<|sP [1]<|sL
def w3p:LSh:={K:=1,log:=[],ins:=[(sh 84 [(0,.ptr 0 0),(3,.ptr 1 0),(4,.ptr 2 0),(5,.ptr 3 0),(69,.int .i64 0),(70,.int .i64 1)],[mB 2,stB 4,stB 9,stB 14])],nils:=[],outs:=[(.exit 2,sh 84 [(4,.ptr 1 0),(5,.ptr 2 0)],[mB 0,stB 2,stB 7])],cv:=[]}
def i3v:List Dat→Tree Step:=evL r3h 11 14 ls0 w3p
theorem l3g: ∃op,IsL i3v 11 14 w3p op:=bxL k3g (LsOk.none _ _ _)
def m3j:OpA:=opL l3g
theorem o3w (env:List Dat):m3j env=a0b i3v FU env:=h3i l3g env
abbrev z3y:MBox:=boxL l3g
theorem q3r {n0 n1:Int}{l2:List (Ty.den TI)}{l3:List (Ty.den TQr)}{n4 n5 n6:Int}{l7:List (Ty.den TB)}{n8 n9 n10 n11:Int}{l12:List (Ty.den TB)}{n13 n14 n15 n16:Int}{l17:List (Ty.den TB)}{n18:Int}(g0:0≤n1)(h0:(n1<n0)):(i3v [.k 0,.n n0,.n n1,.l TI l2,.l TQr l3,.n n4,.n n5,.n n6,.l TB l7,.n n8,.n n9,.n n10,.n n11,.l TB l12,.n n13,.n n14,.n n15,.n n16,.l TB l17,.n n18]).sel=some (Step.go [.k 0,.n n0,.n (IntKind.wrap .i64 (n1+(1:Int))),.l TI l2,.l TQr l3,.n n4,.n n5,.n n6,.l TB l7,.n n8,.n n9,.n n10,.n n11,.l TB l12,.n n13,.n n14,.n n15,.n n16,.l TB l17,.n (ior IntKind.u32 n18 (iand IntKind.u32 n8 (ishl IntKind.u32 (1:Int) n1)))]):=sP [1]<|sT (dt h0)<|sTs (c:=(!decide (n1<(0:Int))))<|sP [1,1]<|sL
theorem q3o {n0 n1:Int}{l2:List (Ty.den TI)}{l3:List (Ty.den TQr)}{n4 n5 n6:Int}{l7:List (Ty.den TB)}{n8 n9 n10 n11:Int}{l12:List (Ty.den TB)}{n13 n14 n15 n16:Int}{l17:List (Ty.den TB)}{n18:Int}(g0:0≤n1)(h0:(¬n1<n0)):(i3v [.k 0,.n n0,.n n1,.l TI l2,.l TQr l3,.n n4,.n n5,.n n6,.l TB l7,.n n8,.n n9,.n n10,.n n11,.l TB l12,.n n13,.n n14,.n n15,.n n16,.l TB l17,.n n18]).sel=some (Step.stop 0 [.l TI l2,.l TQr l3,.n n9,.n n10,.n n11,.l TB l12,.n n13,.n n14,.n n15,.n n16,.l TB l17,.n n18]):=sP [1]<|sF (df h0)<|sP [1]<|sL
def S_i14:BSh:={args:=[.ptr 0 0,stV 0],blks:=[mB 5],log:=[],outs:=[(stV 0,[mB 5])]}
def ev_i14:List Dat→Tree (Nat×List Dat):=evF r3h 11 (lsM [(5,i4s),(14,z3y)] 1) S_i14
theorem e_i14: ∃op,IsF ev_i14 11 S_i14 op:=bxF k3g (lsE (lsC (h3g n3k) (atF) (lsC (h3g l3g) (atF) lsZ)))
def k3k:OpA:=opF e_i14
theorem f4q {n0 n1 n2:Int}{l3:List (Ty.den TB)}{n4:Int}{l5:List (Ty.den TI)}{l6:List (Ty.den TQr)}{l7:List (Ty.den TI)}{l8:List (Ty.den TQr)}{n9 n10 n11:Int}{l12:List (Ty.den TB)}{n13 n14 n15 n16:Int}{l17:List (Ty.den TB)}{n18 n19 n20 n21:Int}{l22:List (Ty.den TB)}{n23:Int}{l24:List (Ty.den TI)}{l25:List (Ty.den TQr)}{n26 n27 n28:Int}{l29:List (Ty.den TB)}{n30 n31 n32 n33:Int}{l34:List (Ty.den TB)}{n35:Int}(h0:(n3b [.k 0,.n (↑(List.length l6):Int),.n (0:Int),.l TI l5,.l TQr l6,.n n0,.n n1,.n n2,.l TB l3,.n n4,.n (0:Int),.n (0:Int),.n (0:Int),.l TB (List.replicate 64 (0:Int)),.n (0:Int),.n (0:Int),.n (0:Int),.n (0:Int),.l TB (List.replicate 64 (0:Int)),.n (0:Int)])=(some (0,[.l TI l7,.l TQr l8,.n n9,.n n10,.n n11,.l TB l12,.n n13,.n n14,.n n15,.n n16,.l TB l17,.n n18,.n n19,.n n20,.n n21,.l TB l22,.n n23])))(h1:(m3j [.k 0,.n (↑(List.length l7):Int),.n (0:Int),.l TI l7,.l TQr l8,.n n9,.n n10,.n n11,.l TB l12,.n n13,.n n14,.n n15,.n n16,.l TB l17,.n n18,.n n19,.n n20,.n n21,.l TB l22,.n n23])=(some (0,[.l TI l24,.l TQr l25,.n n26,.n n27,.n n28,.l TB l29,.n n30,.n n31,.n n32,.n n33,.l TB l34,.n n35]))):k3k [.n n0,.n n1,.n n2,.l TB l3,.n n4,.l TI l5,.l TQr l6]=some ((0,[.n n31,.n n32,.n n33,.l TB l34,.n n35,.l TI l24,.l TQr l25])):=h3c e_i14 (sP [0]<|sA h0<|sP [1]<|sA h1<|sP [1,1]<|sL)
def x3l:FuncId→Option a0q:=e1c 11 [S_i14.k k3k] r3h
theorem l3s:CsOk Tryz.prog x3l:=csA1 k3g e_i14
def a4c:LSh:={K:=1,log:=[],ins:=[(sh 43 [(3,.ptr 1 0),(19,.imm TQr 0),(20,.int .i64 1),(21,.int .i64 2)],[mB 3,stB 5])],nils:=[],outs:=[(.exit 0,sh 43 [],[mB 0]),(.ret,sh 43 [(4,.bool 0)],[mB 1])],cv:=[]}
def h3z:List Dat→Tree Step:=evL x3l 13 4 ls0 a4c
theorem o3f: ∃op,IsL h3z 13 4 a4c op:=bxL l3s (LsOk.none _ _ _)
def l3i:OpA:=opL o3f
theorem s3y (env:List Dat):l3i env=a0b h3z FU env:=h3i o3f env
abbrev h4w:MBox:=boxL o3f
theorem s3s {l0:List (Ty.den TQr)}{n1 n2:Int}{l3:List (Ty.den TI)}{l4:List (Ty.den TQr)}{n5 n6 n7:Int}{l8:List (Ty.den TB)}{n9:Int}{b10 b11:Bool}(g0:0≤n2)(g1:n1=(l0.length:Int))(h0:(n2<n1))(h1:(h3e [.n n5,.n n2])=(some (0,[.b b10])))(h2:(b10=true))(h3:(i3y [.n n5,.n n6,.n n7,.l TB l8,.n n9,.l TI (Prod.snd (Prod.snd (Prod.snd (Prod.snd (List.getD l0 (Int.toNat n2) (Ty.dflt TQr))))))])=(some (0,[.b b11])))(h4:(b11=true)):(h3z [.k 0,.l TQr l0,.n n1,.n n2,.l TI l3,.l TQr l4,.n n5,.n n6,.n n7,.l TB l8,.n n9]).sel=some (Step.stop 1 [.b false,.l TI l3,.l TQr l4]):=sP [1]<|sT (dt h0)<|sTo (c:=(inR n2 (List.length l0)))<|sA h1<|sP [1,1]<|sT h2<|sA h3<|sP [1,1]<|sT h4<|sP [1,1,1]<|sL
theorem u3u {l0:List (Ty.den TQr)}{n1 n2:Int}{l3:List (Ty.den TI)}{l4:List (Ty.den TQr)}{n5 n6 n7:Int}{l8:List (Ty.den TB)}{n9:Int}{b10 b11 b12:Bool}(g0:0≤n2)(g1:n1=(l0.length:Int))(h0:(n2<n1))(h1:(h3e [.n n5,.n n2])=(some (0,[.b b10])))(h2:(b10=true))(h3:(i3y [.n n5,.n n6,.n n7,.l TB l8,.n n9,.l TI (Prod.snd (Prod.snd (Prod.snd (Prod.snd (List.getD l0 (Int.toNat n2) (Ty.dflt TQr))))))])=(some (0,[.b b11])))(h4:(b11=false))(h5:(o3y [.n n5,.n n6,.n n7,.l TB l8,.n n9,.n (Prod.fst (List.getD l0 (Int.toNat n2) (Ty.dflt TQr))),.n (Prod.fst (Prod.snd (List.getD l0 (Int.toNat n2) (Ty.dflt TQr)))),.l TI (Prod.fst (Prod.snd (Prod.snd (List.getD l0 (Int.toNat n2) (Ty.dflt TQr))))),.l TNd (Prod.fst (Prod.snd (Prod.snd (Prod.snd (List.getD l0 (Int.toNat n2) (Ty.dflt TQr)))))),.l TI (Prod.snd (Prod.snd (Prod.snd (Prod.snd (List.getD l0 (Int.toNat n2) (Ty.dflt TQr))))))])=(some (0,[.b b12])))(h6:(b12=false)):(h3z [.k 0,.l TQr l0,.n n1,.n n2,.l TI l3,.l TQr l4,.n n5,.n n6,.n n7,.l TB l8,.n n9]).sel=some (Step.stop 1 [.b false,.l TI l3,.l TQr l4]):=sP [1]<|sT (dt h0)<|sTo (c:=(inR n2 (List.length l0)))<|sA h1<|sP [1,1]<|sT h2<|sA h3<|sP [1,1]<|sF h4<|sA h5<|sP [1,1]<|sT (nf h6)<|sP [1]<|sL
theorem u3a {l0:List (Ty.den TQr)}{n1 n2:Int}{l3:List (Ty.den TI)}{l4:List (Ty.den TQr)}{n5 n6 n7:Int}{l8:List (Ty.den TB)}{n9:Int}{b10 b11 b12:Bool}(g0:0≤n2)(g1:n1=(l0.length:Int))(h0:(n2<n1))(h1:(h3e [.n n5,.n n2])=(some (0,[.b b10])))(h2:(b10=true))(h3:(i3y [.n n5,.n n6,.n n7,.l TB l8,.n n9,.l TI (Prod.snd (Prod.snd (Prod.snd (Prod.snd (List.getD l0 (Int.toNat n2) (Ty.dflt TQr))))))])=(some (0,[.b b11])))(h4:(b11=false))(h5:(o3y [.n n5,.n n6,.n n7,.l TB l8,.n n9,.n (Prod.fst (List.getD l0 (Int.toNat n2) (Ty.dflt TQr))),.n (Prod.fst (Prod.snd (List.getD l0 (Int.toNat n2) (Ty.dflt TQr)))),.l TI (Prod.fst (Prod.snd (Prod.snd (List.getD l0 (Int.toNat n2) (Ty.dflt TQr))))),.l TNd (Prod.fst (Prod.snd (Prod.snd (Prod.snd (List.getD l0 (Int.toNat n2) (Ty.dflt TQr)))))),.l TI (Prod.snd (Prod.snd (Prod.snd (Prod.snd (List.getD l0 (Int.toNat n2) (Ty.dflt TQr))))))])=(some (0,[.b b12])))(h6:(b12=true)):(h3z [.k 0,.l TQr l0,.n n1,.n n2,.l TI l3,.l TQr l4,.n n5,.n n6,.n n7,.l TB l8,.n n9]).sel=some (Step.go [.k 0,.l TQr l0,.n n1,.n (IntKind.wrap .i64 (n2+(1:Int))),.l TI l3,.l TQr l4,.n n5,.n n6,.n n7,.l TB l8,.n n9]):=sP [1]<|sT (dt h0)<|sTo (c:=(inR n2 (List.length l0)))<|sA h1<|sP [1,1]<|sT h2<|sA h3<|sP [1,1]<|sF h4<|sA h5<|sP [1,1]<|sF (nt h6)<|sP [1]<|sL
theorem t3m {l0:List (Ty.den TQr)}{n1 n2:Int}{l3:List (Ty.den TI)}{l4:List (Ty.den TQr)}{n5 n6 n7:Int}{l8:List (Ty.den TB)}{n9:Int}{b10:Bool}(g0:0≤n2)(g1:n1=(l0.length:Int))(h0:(n2<n1))(h1:(h3e [.n n5,.n n2])=(some (0,[.b b10])))(h2:(b10=false)):(h3z [.k 0,.l TQr l0,.n n1,.n n2,.l TI l3,.l TQr l4,.n n5,.n n6,.n n7,.l TB l8,.n n9]).sel=some (Step.go [.k 0,.l TQr l0,.n n1,.n (IntKind.wrap .i64 (n2+(1:Int))),.l TI l3,.l TQr l4,.n n5,.n n6,.n n7,.l TB l8,.n n9]):=sP [1]<|sT (dt h0)<|sTo (c:=(inR n2 (List.length l0)))<|sA h1<|sP [1,1]<|sF h2<|sP [0,0,1]<|sL
theorem t3a {l0:List (Ty.den TQr)}{n1 n2:Int}{l3:List (Ty.den TI)}{l4:List (Ty.den TQr)}{n5 n6 n7:Int}{l8:List (Ty.den TB)}{n9:Int}(g0:0≤n2)(g1:n1=(l0.length:Int))(h0:(¬n2<n1)):(h3z [.k 0,.l TQr l0,.n n1,.n n2,.l TI l3,.l TQr l4,.n n5,.n n6,.n n7,.l TB l8,.n n9]).sel=some (Step.stop 0 [.l TI l3,.l TQr l4]):=sP [1]<|sF (df h0)<|sP [1]<|sL
def S_i15:BSh:={args:=[.ptr 0 0,stV 0],blks:=[mB 5],log:=[],outs:=[(.bool 0,[mB 1])]}
def ev_i15:List Dat→Tree (Nat×List Dat):=evF x3l 13 (lsM [(4,h4w)] 1) S_i15
theorem d4n: ∃op,IsF ev_i15 13 S_i15 op:=bxF l3s (lsE (lsC (h3g o3f) (atF) lsZ))
def m3g:OpA:=opF d4n
theorem e4i {n0 n1 n2:Int}{l3:List (Ty.den TB)}{n4:Int}{l5:List (Ty.den TI)}{l6:List (Ty.den TQr)}{n7 n8 n9:Int}{l10:List (Ty.den TB)}{n11:Int}{l12:List (Ty.den TI)}{l13:List (Ty.den TQr)}(h0:(k3k [.n n0,.n n1,.n n2,.l TB l3,.n n4,.l TI l5,.l TQr l6])=(some (0,[.n n7,.n n8,.n n9,.l TB l10,.n n11,.l TI l12,.l TQr l13])))(h1:((n0==n7&&(n1==n8&&(n2==n9&&(eqL TB l3 l10&&(n4==n11&&true)))))=false)):m3g [.n n0,.n n1,.n n2,.l TB l3,.n n4,.l TI l5,.l TQr l6]=some ((0,[.b false,.l TI l5,.l TQr l6])):=h3c d4n (sP [0,1]<|sA h0<|sP [1,1,1]<|sT (nf h1)<|sP [1]<|sL)
theorem z3v {n0 n1 n2:Int}{l3:List (Ty.den TB)}{n4:Int}{l5:List (Ty.den TI)}{l6:List (Ty.den TQr)}{n7 n8 n9:Int}{l10:List (Ty.den TB)}{n11:Int}{l12:List (Ty.den TI)}{l13:List (Ty.den TQr)}{l14:List (Ty.den TI)}{l15:List (Ty.den TQr)}(h0:(k3k [.n n0,.n n1,.n n2,.l TB l3,.n n4,.l TI l5,.l TQr l6])=(some (0,[.n n7,.n n8,.n n9,.l TB l10,.n n11,.l TI l12,.l TQr l13])))(h1:((n0==n7&&(n1==n8&&(n2==n9&&(eqL TB l3 l10&&(n4==n11&&true)))))=true))(h2:(l3i [.k 0,.l TQr l6,.n (↑(List.length l6):Int),.n (0:Int),.l TI l5,.l TQr l6,.n n0,.n n1,.n n2,.l TB l3,.n n4])=(some (0,[.l TI l14,.l TQr l15]))):m3g [.n n0,.n n1,.n n2,.l TB l3,.n n4,.l TI l5,.l TQr l6]=some ((0,[.b true,.l TI l14,.l TQr l15])):=h3c d4n (sP [0,1]<|sA h0<|sP [1,1,1]<|sF (nt h1)<|sA h2<|sP [1,1]<|sL)
theorem c4m {n0 n1 n2:Int}{l3:List (Ty.den TB)}{n4:Int}{l5:List (Ty.den TI)}{l6:List (Ty.den TQr)}{n7 n8 n9:Int}{l10:List (Ty.den TB)}{n11:Int}{l12:List (Ty.den TI)}{l13:List (Ty.den TQr)}{b14:Bool}{l15:List (Ty.den TI)}{l16:List (Ty.den TQr)}(h0:(k3k [.n n0,.n n1,.n n2,.l TB l3,.n n4,.l TI l5,.l TQr l6])=(some (0,[.n n7,.n n8,.n n9,.l TB l10,.n n11,.l TI l12,.l TQr l13])))(h1:((n0==n7&&(n1==n8&&(n2==n9&&(eqL TB l3 l10&&(n4==n11&&true)))))=true))(h2:(l3i [.k 0,.l TQr l6,.n (↑(List.length l6):Int),.n (0:Int),.l TI l5,.l TQr l6,.n n0,.n n1,.n n2,.l TB l3,.n n4])=(some (1,[.b b14,.l TI l15,.l TQr l16]))):m3g [.n n0,.n n1,.n n2,.l TB l3,.n n4,.l TI l5,.l TQr l6]=some ((0,[.b b14,.l TI l15,.l TQr l16])):=h3c d4n (sP [0,1]<|sA h0<|sP [1,1,1]<|sF (nt h1)<|sA h2<|sP [0,1,1]<|sL)
def w3g:FuncId→Option a0q:=e1c 13 [S_i15.k m3g] x3l
theorem l3w:CsOk Tryz.prog w3g:=csA1 l3s d4n
def c4n:LSh:={K:=2,log:=[0],ins:=[(sh 86 [(2,.ptr 2 0),(63,.imm TNd 0),(64,.int .i64 1),(65,.int .i64 2)],[cyB 1 3,mB 12,pcB 0])],nils:=[],outs:=[(.exit 0,sh 86 [],[cyB 1 0,mB 9])],cv:=[]}
def j3w:List Dat→Tree Step:=evL w3g 49 7 ls0 c4n
theorem n3f: ∃op,IsL j3w 49 7 c4n op:=bxL l3w (LsOk.none _ _ _)
def o3b:OpA:=opL n3f
theorem t3q (env:List Dat):o3b env=a0b j3w FU env:=h3i n3f env
abbrev g4l:MBox:=boxL n3f
theorem t3o {l0:List (Ty.den TNd)}{n1 n2 n3 n4 n5:Int}{l6:List (Ty.den TCmd)}{n7 n8 n9:Int}{l10:List (Ty.den TB)}{n11:Int}{l12:List (Ty.den TI)}{l13:List (Ty.den TQr)}{n14:Int}(g0:0≤n2)(g1:n1=(l0.length:Int))(h0:(n2<n1))(h1:(h3m [.n (IntKind.wrap .u64 n11),.n (Prod.fst (List.getD l0 (Int.toNat n2) (Ty.dflt TNd))),.b (Prod.snd (List.getD l0 (Int.toNat n2) (Ty.dflt TNd)))])=(some (0,[.n n14]))):(j3w [.k 0,.l TNd l0,.n n1,.n n2,.n n3,.n n4,.n n5,.l TCmd l6,.n n7,.n n8,.n n9,.l TB l10,.n n11,.l TI l12,.l TQr l13]).sel=some (Step.go [.k 0,.l TNd l0,.n n1,.n (IntKind.wrap .i64 (n2+(1:Int))),.n n3,.n n4,.n n5,.l TCmd l6,.n n7,.n n8,.n n9,.l TB l10,.n (IntKind.wrap .u32 n14),.l TI l12,.l TQr l13]):=sP [1]<|sT (dt h0)<|sTo (c:=(inR n2 (List.length l0)))<|sA h1<|sP [1,1,1,1]<|sL
theorem v3o {l0:List (Ty.den TNd)}{n1 n2 n3 n4 n5:Int}{l6:List (Ty.den TCmd)}{n7 n8 n9:Int}{l10:List (Ty.den TB)}{n11:Int}{l12:List (Ty.den TI)}{l13:List (Ty.den TQr)}(g0:0≤n2)(g1:n1=(l0.length:Int))(h0:(¬n2<n1)):(j3w [.k 0,.l TNd l0,.n n1,.n n2,.n n3,.n n4,.n n5,.l TCmd l6,.n n7,.n n8,.n n9,.l TB l10,.n n11,.l TI l12,.l TQr l13]).sel=some (Step.stop 0 [.n n3,.n n4,.n n5,.l TCmd l6,.n n7,.n n8,.n n9,.l TB l10,.n n11,.l TI l12,.l TQr l13]):=sP [1]<|sF (df h0)<|sP [1]<|sL
def S_i67:BSh:={args:=[.ptr 0 0,.int .i64 0],blks:=[cyB 1 1,mB 10],log:=[0],outs:=[(.tup [],[cyB 1 0,mB 9])]}
def ev_i67:List Dat→Tree (Nat×List Dat):=evF w3g 49 (lsM [(7,g4l)] 2) S_i67
theorem n3p: ∃op,IsF ev_i67 49 S_i67 op:=bxF l3w (lsE (lsC (h3g n3f) (atF) lsZ))
def j3n:OpA:=opF n3p
theorem a4m {n0 n1 n2 n3:Int}{l4:List (Ty.den TCmd)}{n5 n6 n7:Int}{l8:List (Ty.den TB)}{n9:Int}{l10:List (Ty.den TI)}{l11:List (Ty.den TQr)}(h0:(n0≥(0:Int)))(h1:(¬n0<(↑(List.length l11):Int))):j3n [.n n0,.n n1,.n n2,.n n3,.l TCmd l4,.n n5,.n n6,.n n7,.l TB l8,.n n9,.l TI l10,.l TQr l11]=some ((0,[.n n1,.n n2,.n n3,.l TCmd l4,.n n5,.n n6,.n n7,.l TB l8,.n n9,.l TI l10,.l TQr l11])):=h3c n3p (sP [1]<|sT (dt h0)<|sP [1]<|sT (nf (df h1))<|sP [1,1,1]<|sL)
theorem c4j {n0 n1 n2 n3:Int}{l4:List (Ty.den TCmd)}{n5 n6 n7:Int}{l8:List (Ty.den TB)}{n9:Int}{l10:List (Ty.den TI)}{l11:List (Ty.den TQr)}{b12:Bool}(h0:(n0≥(0:Int)))(h1:(n0<(↑(List.length l11):Int)))(h2:(h3e [.n n5,.n n0])=(some (0,[.b b12])))(h3:(b12=true)):j3n [.n n0,.n n1,.n n2,.n n3,.l TCmd l4,.n n5,.n n6,.n n7,.l TB l8,.n n9,.l TI l10,.l TQr l11]=some ((0,[.n n1,.n n2,.n n3,.l TCmd l4,.n n5,.n n6,.n n7,.l TB l8,.n n9,.l TI l10,.l TQr l11])):=h3c n3p (sP [1]<|sT (dt h0)<|sP [1]<|sF (nt (dt h1))<|sA h2<|sP [1,1]<|sT h3<|sP [1]<|sL)
theorem d4s {n0 n1 n2 n3:Int}{l4:List (Ty.den TCmd)}{n5 n6 n7:Int}{l8:List (Ty.den TB)}{n9:Int}{l10:List (Ty.den TI)}{l11:List (Ty.den TQr)}{b12 b13:Bool}(h0:(n0≥(0:Int)))(h1:(n0<(↑(List.length l11):Int)))(h2:(h3e [.n n5,.n n0])=(some (0,[.b b12])))(h3:(b12=false))(h4:(i3y [.n n5,.n n6,.n n7,.l TB l8,.n n9,.l TI (Prod.snd (Prod.snd (Prod.snd (Prod.snd (List.getD l11 (Int.toNat n0) (Ty.dflt TQr))))))])=(some (0,[.b b13])))(h5:(b13=true)):j3n [.n n0,.n n1,.n n2,.n n3,.l TCmd l4,.n n5,.n n6,.n n7,.l TB l8,.n n9,.l TI l10,.l TQr l11]=some ((0,[.n n1,.n n2,.n n3,.l TCmd l4,.n n5,.n n6,.n n7,.l TB l8,.n n9,.l TI l10,.l TQr l11])):=h3c n3p (sP [1]<|sT (dt h0)<|sP [1]<|sF (nt (dt h1))<|sA h2<|sP [1,1]<|sF h3<|sTo (c:=(inR n0 (List.length l11)))<|sA h4<|sP [1,1]<|sT h5<|sP [1,1,1,1,1,1]<|sL)
theorem f4k {n0 n1 n2 n3:Int}{l4:List (Ty.den TCmd)}{n5 n6 n7:Int}{l8:List (Ty.den TB)}{n9:Int}{l10:List (Ty.den TI)}{l11:List (Ty.den TQr)}{b12 b13 b14:Bool}{n15 n16 n17:Int}{l18:List (Ty.den TCmd)}{n19 n20 n21:Int}{l22:List (Ty.den TB)}{n23:Int}{l24:List (Ty.den TI)}{l25:List (Ty.den TQr)}(h0:(n0≥(0:Int)))(h1:(n0<(↑(List.length l11):Int)))(h2:(h3e [.n n5,.n n0])=(some (0,[.b b12])))(h3:(b12=false))(h4:(i3y [.n n5,.n n6,.n n7,.l TB l8,.n n9,.l TI (Prod.snd (Prod.snd (Prod.snd (Prod.snd (List.getD l11 (Int.toNat n0) (Ty.dflt TQr))))))])=(some (0,[.b b13])))(h5:(b13=false))(h6:(i3z [.n (Prod.fst (List.getD l11 (Int.toNat n0) (Ty.dflt TQr))),.n (Prod.fst (Prod.snd (List.getD l11 (Int.toNat n0) (Ty.dflt TQr)))),.l TI (Prod.fst (Prod.snd (Prod.snd (List.getD l11 (Int.toNat n0) (Ty.dflt TQr))))),.l TNd (Prod.fst (Prod.snd (Prod.snd (Prod.snd (List.getD l11 (Int.toNat n0) (Ty.dflt TQr)))))),.l TI (Prod.snd (Prod.snd (Prod.snd (Prod.snd (List.getD l11 (Int.toNat n0) (Ty.dflt TQr)))))),.n n1,.n n2,.n n3,.l TCmd l4,.n n5,.n n6,.n n7,.l TB l8,.n n9,.l TI l10,.l TQr l11])=(some (0,[.b b14,.n n15,.n n16,.n n17,.l TCmd l18,.n n19,.n n20,.n n21,.l TB l22,.n n23,.l TI l24,.l TQr l25])))(h7:(b14=false)):j3n [.n n0,.n n1,.n n2,.n n3,.l TCmd l4,.n n5,.n n6,.n n7,.l TB l8,.n n9,.l TI l10,.l TQr l11]=some ((0,[.n n1,.n n2,.n n3,.l TCmd l4,.n n5,.n n6,.n n7,.l TB l8,.n n9,.l TI l10,.l TQr l11])):=h3c n3p (sP [1]<|sT (dt h0)<|sP [1]<|sF (nt (dt h1))<|sA h2<|sP [1,1]<|sF h3<|sTo (c:=(inR n0 (List.length l11)))<|sA h4<|sP [1,1]<|sF h5<|sP [1]<|sA h6<|sP [1,1]<|sT (nf h7)<|sP [1,1,1,1]<|sL)
theorem f4h {n0 n1 n2 n3:Int}{l4:List (Ty.den TCmd)}{n5 n6 n7:Int}{l8:List (Ty.den TB)}{n9:Int}{l10:List (Ty.den TI)}{l11:List (Ty.den TQr)}{b12 b13 b14:Bool}{n15 n16 n17:Int}{l18:List (Ty.den TCmd)}{n19 n20 n21:Int}{l22:List (Ty.den TB)}{n23:Int}{l24:List (Ty.den TI)}{l25:List (Ty.den TQr)}{n26 n27 n28 n29:Int}{l30:List (Ty.den TCmd)}{n31 n32 n33:Int}{l34:List (Ty.den TB)}{n35:Int}{l36:List (Ty.den TI)}{l37:List (Ty.den TQr)}(h0:(n0≥(0:Int)))(h1:(n0<(↑(List.length l11):Int)))(h2:(h3e [.n n5,.n n0])=(some (0,[.b b12])))(h3:(b12=false))(h4:(i3y [.n n5,.n n6,.n n7,.l TB l8,.n n9,.l TI (Prod.snd (Prod.snd (Prod.snd (Prod.snd (List.getD l11 (Int.toNat n0) (Ty.dflt TQr))))))])=(some (0,[.b b13])))(h5:(b13=false))(h6:(i3z [.n (Prod.fst (List.getD l11 (Int.toNat n0) (Ty.dflt TQr))),.n (Prod.fst (Prod.snd (List.getD l11 (Int.toNat n0) (Ty.dflt TQr)))),.l TI (Prod.fst (Prod.snd (Prod.snd (List.getD l11 (Int.toNat n0) (Ty.dflt TQr))))),.l TNd (Prod.fst (Prod.snd (Prod.snd (Prod.snd (List.getD l11 (Int.toNat n0) (Ty.dflt TQr)))))),.l TI (Prod.snd (Prod.snd (Prod.snd (Prod.snd (List.getD l11 (Int.toNat n0) (Ty.dflt TQr)))))),.n n1,.n n2,.n n3,.l TCmd l4,.n n5,.n n6,.n n7,.l TB l8,.n n9,.l TI l10,.l TQr l11])=(some (0,[.b b14,.n n15,.n n16,.n n17,.l TCmd l18,.n n19,.n n20,.n n21,.l TB l22,.n n23,.l TI l24,.l TQr l25])))(h7:(b14=true))(h8:(j3o [.l TNd (Prod.fst (Prod.snd (Prod.snd (Prod.snd (List.getD l11 (Int.toNat n0) (Ty.dflt TQr)))))),.n n1,.n n2,.n n3,.l TCmd l4,.n n5,.n n6,.n n7,.l TB l8,.n n9,.l TI l10,.l TQr l11])=(some (0,[.n n26,.n n27,.n n28,.n n29,.l TCmd l30,.n n31,.n n32,.n n33,.l TB l34,.n n35,.l TI l36,.l TQr l37])))(h9:(n26≥(0:Int))):j3n [.n n0,.n n1,.n n2,.n n3,.l TCmd l4,.n n5,.n n6,.n n7,.l TB l8,.n n9,.l TI l10,.l TQr l11]=some ((0,[.n n1,.n n2,.n n3,.l TCmd l4,.n n5,.n n6,.n n7,.l TB l8,.n n9,.l TI l10,.l TQr l11])):=h3c n3p (sP [1]<|sT (dt h0)<|sP [1]<|sF (nt (dt h1))<|sA h2<|sP [1,1]<|sF h3<|sTo (c:=(inR n0 (List.length l11)))<|sA h4<|sP [1,1]<|sF h5<|sP [1]<|sA h6<|sP [1,1]<|sF (nt h7)<|sP [1,1]<|sA h8<|sP [1,1,1,1]<|sT (dt h9)<|sP [1]<|sL)
theorem c4z {n0 n1 n2 n3:Int}{l4:List (Ty.den TCmd)}{n5 n6 n7:Int}{l8:List (Ty.den TB)}{n9:Int}{l10:List (Ty.den TI)}{l11:List (Ty.den TQr)}{b12 b13 b14:Bool}{n15 n16 n17:Int}{l18:List (Ty.den TCmd)}{n19 n20 n21:Int}{l22:List (Ty.den TB)}{n23:Int}{l24:List (Ty.den TI)}{l25:List (Ty.den TQr)}{n26 n27 n28 n29:Int}{l30:List (Ty.den TCmd)}{n31 n32 n33:Int}{l34:List (Ty.den TB)}{n35:Int}{l36:List (Ty.den TI)}{l37:List (Ty.den TQr)}{n38 n39 n40 n41:Int}{l42:List (Ty.den TCmd)}{n43 n44 n45:Int}{l46:List (Ty.den TB)}{n47:Int}{l48:List (Ty.den TI)}{l49:List (Ty.den TQr)}(h0:(n0≥(0:Int)))(h1:(n0<(↑(List.length l11):Int)))(h2:(h3e [.n n5,.n n0])=(some (0,[.b b12])))(h3:(b12=false))(h4:(i3y [.n n5,.n n6,.n n7,.l TB l8,.n n9,.l TI (Prod.snd (Prod.snd (Prod.snd (Prod.snd (List.getD l11 (Int.toNat n0) (Ty.dflt TQr))))))])=(some (0,[.b b13])))(h5:(b13=false))(h6:(i3z [.n (Prod.fst (List.getD l11 (Int.toNat n0) (Ty.dflt TQr))),.n (Prod.fst (Prod.snd (List.getD l11 (Int.toNat n0) (Ty.dflt TQr)))),.l TI (Prod.fst (Prod.snd (Prod.snd (List.getD l11 (Int.toNat n0) (Ty.dflt TQr))))),.l TNd (Prod.fst (Prod.snd (Prod.snd (Prod.snd (List.getD l11 (Int.toNat n0) (Ty.dflt TQr)))))),.l TI (Prod.snd (Prod.snd (Prod.snd (Prod.snd (List.getD l11 (Int.toNat n0) (Ty.dflt TQr)))))),.n n1,.n n2,.n n3,.l TCmd l4,.n n5,.n n6,.n n7,.l TB l8,.n n9,.l TI l10,.l TQr l11])=(some (0,[.b b14,.n n15,.n n16,.n n17,.l TCmd l18,.n n19,.n n20,.n n21,.l TB l22,.n n23,.l TI l24,.l TQr l25])))(h7:(b14=true))(h8:(j3o [.l TNd (Prod.fst (Prod.snd (Prod.snd (Prod.snd (List.getD l11 (Int.toNat n0) (Ty.dflt TQr)))))),.n n1,.n n2,.n n3,.l TCmd l4,.n n5,.n n6,.n n7,.l TB l8,.n n9,.l TI l10,.l TQr l11])=(some (0,[.n n26,.n n27,.n n28,.n n29,.l TCmd l30,.n n31,.n n32,.n n33,.l TB l34,.n n35,.l TI l36,.l TQr l37])))(h9:(¬n26≥(0:Int)))(h10:(h3m [.n n5,.n n0,.b true])=(some (0,[.n n38])))(h11:(o3b [.k 0,.l TNd (Prod.fst (Prod.snd (Prod.snd (Prod.snd (List.getD l11 (Int.toNat n0) (Ty.dflt TQr)))))),.n (↑(List.length (Prod.fst (Prod.snd (Prod.snd (Prod.snd (List.getD l11 (Int.toNat n0) (Ty.dflt TQr))))))):Int),.n (0:Int),.n n1,.n n2,.n n3,.l TCmd l4,.n n38,.n n6,.n n7,.l TB l8,.n n9,.l TI l10,.l TQr l11])=(some (0,[.n n39,.n n40,.n n41,.l TCmd l42,.n n43,.n n44,.n n45,.l TB l46,.n n47,.l TI l48,.l TQr l49]))):j3n [.n n0,.n n1,.n n2,.n n3,.l TCmd l4,.n n5,.n n6,.n n7,.l TB l8,.n n9,.l TI l10,.l TQr l11]=some ((0,[.n n39,.n n40,.n n41,.l TCmd l42,.n n43,.n n44,.n n45,.l TB l46,.n n47,.l TI l48,.l TQr l49])):=h3c n3p (sP [1]<|sT (dt h0)<|sP [1]<|sF (nt (dt h1))<|sA h2<|sP [1,1]<|sF h3<|sTo (c:=(inR n0 (List.length l11)))<|sA h4<|sP [1,1]<|sF h5<|sP [1]<|sA h6<|sP [1,1]<|sF (nt h7)<|sP [1,1]<|sA h8<|sP [1,1,1,1]<|sF (df h9)<|sA h10<|sP [1,1,1]<|sA h11<|sP [1,1]<|sL)
theorem c4i {n0 n1 n2 n3:Int}{l4:List (Ty.den TCmd)}{n5 n6 n7:Int}{l8:List (Ty.den TB)}{n9:Int}{l10:List (Ty.den TI)}{l11:List (Ty.den TQr)}(h0:(¬n0≥(0:Int))):j3n [.n n0,.n n1,.n n2,.n n3,.l TCmd l4,.n n5,.n n6,.n n7,.l TB l8,.n n9,.l TI l10,.l TQr l11]=some ((0,[.n n1,.n n2,.n n3,.l TCmd l4,.n n5,.n n6,.n n7,.l TB l8,.n n9,.l TI l10,.l TQr l11])):=h3c n3p (sP [1]<|sF (df h0)<|sP [0,1,1,1,1,1]<|sL)
def e4d:FuncId→Option a0q:=e1c 49 [S_i67.k j3n] w3g
theorem p3y:CsOk Tryz.prog e4d:=csA1 l3w n3p
def S_i68:BSh:={args:=[.ptr 0 0,.int .i64 0],blks:=[cyB 1 1,mB 10],log:=[0],outs:=[(.tup [],[cyB 1 0,mB 9])]}
def ev_i68:List Dat→Tree (Nat×List Dat):=evF e4d 50 ls0 S_i68
theorem v3l: ∃op,IsF ev_i68 50 S_i68 op:=bxF p3y (LsOk.none _ _ _)
def k3t:OpA:=opF v3l
theorem e4f {n0 n1 n2 n3:Int}{l4:List (Ty.den TCmd)}{n5 n6 n7:Int}{l8:List (Ty.den TB)}{n9:Int}{l10:List (Ty.den TI)}{l11:List (Ty.den TQr)}(h0:(n0≥(0:Int)))(h1:(¬n0<(↑(List.length l11):Int))):k3t [.n n0,.n n1,.n n2,.n n3,.l TCmd l4,.n n5,.n n6,.n n7,.l TB l8,.n n9,.l TI l10,.l TQr l11]=some ((0,[.n n1,.n n2,.n n3,.l TCmd l4,.n n5,.n n6,.n n7,.l TB l8,.n n9,.l TI l10,.l TQr l11])):=h3c v3l (sP [1]<|sT (dt h0)<|sP [1]<|sT (nf (df h1))<|sP [1,1,1,1]<|sL)
theorem c4g {n0 n1 n2 n3:Int}{l4:List (Ty.den TCmd)}{n5 n6 n7:Int}{l8:List (Ty.den TB)}{n9:Int}{l10:List (Ty.den TI)}{l11:List (Ty.den TQr)}{b12:Bool}(h0:(n0≥(0:Int)))(h1:(n0<(↑(List.length l11):Int)))(h2:(h3e [.n (b0l IntKind.u64 (b0l IntKind.u64 n5 n6) n7),.n n0])=(some (0,[.b b12])))(h3:(b12=false)):k3t [.n n0,.n n1,.n n2,.n n3,.l TCmd l4,.n n5,.n n6,.n n7,.l TB l8,.n n9,.l TI l10,.l TQr l11]=some ((0,[.n n1,.n n2,.n n3,.l TCmd l4,.n n5,.n n6,.n n7,.l TB l8,.n n9,.l TI l10,.l TQr l11])):=h3c v3l (sP [1]<|sT (dt h0)<|sP [1]<|sF (nt (dt h1))<|sA h2<|sP [1,1,1]<|sT (nf h3)<|sP [1]<|sL)
theorem c4s {n0 n1 n2 n3:Int}{l4:List (Ty.den TCmd)}{n5 n6 n7:Int}{l8:List (Ty.den TB)}{n9:Int}{l10:List (Ty.den TI)}{l11:List (Ty.den TQr)}{b12:Bool}{n13:Int}{b14:Bool}(h0:(n0≥(0:Int)))(h1:(n0<(↑(List.length l11):Int)))(h2:(h3e [.n (b0l IntKind.u64 (b0l IntKind.u64 n5 n6) n7),.n n0])=(some (0,[.b b12])))(h3:(b12=true))(h4:(h3m [.n n7,.n n0,.b true])=(some (0,[.n n13])))(h5:(inR n0 64=true))(h6:(h3e [.n n1,.n (Prod.fst (List.getD l11 (Int.toNat n0) (Ty.dflt TQr)))])=(some (0,[.b b14])))(h7:((!b14)=false)):k3t [.n n0,.n n1,.n n2,.n n3,.l TCmd l4,.n n5,.n n6,.n n7,.l TB l8,.n n9,.l TI l10,.l TQr l11]=some ((0,[.n n1,.n n2,.n n3,.l TCmd l4,.n n5,.n n6,.n n13,.l TB (List.set (List.set l8 (Int.toNat n0) (0:Int)) (Int.toNat n0) (20:Int)),.n n9,.l TI l10,.l TQr l11])):=h3c v3l (sP [1]<|sT (dt h0)<|sP [1]<|sF (nt (dt h1))<|sA h2<|sP [1,1,1]<|sF (nt h3)<|sA h4<|sP [1,1]<|sT h5<|sTo (c:=(inR n0 (List.length l11)))<|sP [1]<|sA h6<|sP [1,1,1]<|sT (nf h7)<|sT h5<|sP [1]<|sL)
theorem e4j {n0 n1 n2 n3:Int}{l4:List (Ty.den TCmd)}{n5 n6 n7:Int}{l8:List (Ty.den TB)}{n9:Int}{l10:List (Ty.den TI)}{l11:List (Ty.den TQr)}{b12:Bool}{n13:Int}{b14:Bool}(h0:(n0≥(0:Int)))(h1:(n0<(↑(List.length l11):Int)))(h2:(h3e [.n (b0l IntKind.u64 (b0l IntKind.u64 n5 n6) n7),.n n0])=(some (0,[.b b12])))(h3:(b12=true))(h4:(h3m [.n n7,.n n0,.b true])=(some (0,[.n n13])))(h5:(inR n0 64=true))(h6:(h3e [.n n1,.n (Prod.fst (List.getD l11 (Int.toNat n0) (Ty.dflt TQr)))])=(some (0,[.b b14])))(h7:((!b14)=true)):k3t [.n n0,.n n1,.n n2,.n n3,.l TCmd l4,.n n5,.n n6,.n n7,.l TB l8,.n n9,.l TI l10,.l TQr l11]=some ((0,[.n n1,.n n2,.n n3,.l TCmd l4,.n n5,.n n6,.n n13,.l TB (List.set l8 (Int.toNat n0) (0:Int)),.n n9,.l TI l10,.l TQr l11])):=h3c v3l (sP [1]<|sT (dt h0)<|sP [1]<|sF (nt (dt h1))<|sA h2<|sP [1,1,1]<|sF (nt h3)<|sA h4<|sP [1,1]<|sT h5<|sTo (c:=(inR n0 (List.length l11)))<|sP [1]<|sA h6<|sP [1,1,1]<|sF (nt h7)<|sP [1]<|sL)
theorem d4o {n0 n1 n2 n3:Int}{l4:List (Ty.den TCmd)}{n5 n6 n7:Int}{l8:List (Ty.den TB)}{n9:Int}{l10:List (Ty.den TI)}{l11:List (Ty.den TQr)}(h0:(¬n0≥(0:Int))):k3t [.n n0,.n n1,.n n2,.n n3,.l TCmd l4,.n n5,.n n6,.n n7,.l TB l8,.n n9,.l TI l10,.l TQr l11]=some ((0,[.n n1,.n n2,.n n3,.l TCmd l4,.n n5,.n n6,.n n7,.l TB l8,.n n9,.l TI l10,.l TQr l11])):=h3c v3l (sP [1]<|sF (df h0)<|sP [0,1,1,1,1,1,1]<|sL)
def w3l:FuncId→Option a0q:=e1c 50 [S_i68.k k3t] e4d
theorem l3z:CsOk Tryz.prog w3l:=csA1 p3y v3l
def d4y:LSh:={K:=2,log:=[],ins:=[(sh 73 [(0,.ptr 0 0),(3,.ptr 2 0),(41,.imm TQr 0),(42,.int .i64 1),(43,.int .i64 2)],[cyB 1 3,mB 12,icB 14])],nils:=[],outs:=[(.exit 0,sh 73 [(0,.ptr 0 0),(3,.ptr 2 0)],[cyB 1 0,mB 9,icB 11]),(.ret,sh 73 [],[cyB 1 0,mB 9])],cv:=[]}
def i3n:List Dat→Tree Step:=evL w3l 51 3 ls0 d4y
theorem n3q: ∃op,IsL i3n 51 3 d4y op:=bxL l3z (LsOk.none _ _ _)
def l3m:OpA:=opL n3q
theorem t3e (env:List Dat):l3m env=a0b i3n FU env:=h3i n3q env
abbrev h4h:MBox:=boxL n3q
theorem v3u {l0:List (Ty.den TQr)}{n1 n2 n3 n4 n5:Int}{l6:List (Ty.den TCmd)}{n7 n8 n9:Int}{l10:List (Ty.den TB)}{n11:Int}{l12:List (Ty.den TI)}{l13:List (Ty.den TQr)}{n14:Int}{b15:Bool}{n16 n17:Int}(g0:0≤n2)(g1:n1=(l0.length:Int))(h0:(n2<n1))(h1:(h3e [.n n7,.n n2])=(some (0,[.b b15])))(h2:(b15=true))(h3:(k3o [.l TNd (Prod.fst (Prod.snd (Prod.snd (Prod.snd (List.getD l0 (Int.toNat n2) (Ty.dflt TQr)))))),.n n14])=(some (0,[.n n16,.n n17])))(h4:(n16≥(0:Int))):(i3n [.k 0,.l TQr l0,.n n1,.n n2,.n n3,.n n4,.n n5,.l TCmd l6,.n n7,.n n8,.n n9,.l TB l10,.n n11,.l TI l12,.l TQr l13,.n n14]).sel=some (Step.stop 1 [.n n3,.n n4,.n n5,.l TCmd l6,.n n7,.n n8,.n n9,.l TB l10,.n n11,.l TI l12,.l TQr l13]):=sP [1]<|sT (dt h0)<|sTo (c:=(inR n2 (List.length l0)))<|sA h1<|sP [1,1]<|sT h2<|sP [1,1]<|sA h3<|sP [1,1,1]<|sT (dt h4)<|sP [1]<|sL
theorem s3c {l0:List (Ty.den TQr)}{n1 n2 n3 n4 n5:Int}{l6:List (Ty.den TCmd)}{n7 n8 n9:Int}{l10:List (Ty.den TB)}{n11:Int}{l12:List (Ty.den TI)}{l13:List (Ty.den TQr)}{n14:Int}{b15:Bool}{n16 n17:Int}(g0:0≤n2)(g1:n1=(l0.length:Int))(h0:(n2<n1))(h1:(h3e [.n n7,.n n2])=(some (0,[.b b15])))(h2:(b15=true))(h3:(k3o [.l TNd (Prod.fst (Prod.snd (Prod.snd (Prod.snd (List.getD l0 (Int.toNat n2) (Ty.dflt TQr)))))),.n n14])=(some (0,[.n n16,.n n17])))(h4:(¬n16≥(0:Int))):(i3n [.k 0,.l TQr l0,.n n1,.n n2,.n n3,.n n4,.n n5,.l TCmd l6,.n n7,.n n8,.n n9,.l TB l10,.n n11,.l TI l12,.l TQr l13,.n n14]).sel=some (Step.go [.k 0,.l TQr l0,.n n1,.n (IntKind.wrap .i64 (n2+(1:Int))),.n n3,.n n4,.n n5,.l TCmd l6,.n n7,.n n8,.n n9,.l TB l10,.n n11,.l TI l12,.l TQr l13,.n n14]):=sP [1]<|sT (dt h0)<|sTo (c:=(inR n2 (List.length l0)))<|sA h1<|sP [1,1]<|sT h2<|sP [1,1]<|sA h3<|sP [1,1,1]<|sF (df h4)<|sP [1]<|sL
theorem u3z {l0:List (Ty.den TQr)}{n1 n2 n3 n4 n5:Int}{l6:List (Ty.den TCmd)}{n7 n8 n9:Int}{l10:List (Ty.den TB)}{n11:Int}{l12:List (Ty.den TI)}{l13:List (Ty.den TQr)}{n14:Int}{b15:Bool}(g0:0≤n2)(g1:n1=(l0.length:Int))(h0:(n2<n1))(h1:(h3e [.n n7,.n n2])=(some (0,[.b b15])))(h2:(b15=false)):(i3n [.k 0,.l TQr l0,.n n1,.n n2,.n n3,.n n4,.n n5,.l TCmd l6,.n n7,.n n8,.n n9,.l TB l10,.n n11,.l TI l12,.l TQr l13,.n n14]).sel=some (Step.go [.k 0,.l TQr l0,.n n1,.n (IntKind.wrap .i64 (n2+(1:Int))),.n n3,.n n4,.n n5,.l TCmd l6,.n n7,.n n8,.n n9,.l TB l10,.n n11,.l TI l12,.l TQr l13,.n n14]):=sP [1]<|sT (dt h0)<|sTo (c:=(inR n2 (List.length l0)))<|sA h1<|sP [1,1]<|sF h2<|sP [0,0,1]<|sL
theorem t3x {l0:List (Ty.den TQr)}{n1 n2 n3 n4 n5:Int}{l6:List (Ty.den TCmd)}{n7 n8 n9:Int}{l10:List (Ty.den TB)}{n11:Int}{l12:List (Ty.den TI)}{l13:List (Ty.den TQr)}{n14:Int}(g0:0≤n2)(g1:n1=(l0.length:Int))(h0:(¬n2<n1)):(i3n [.k 0,.l TQr l0,.n n1,.n n2,.n n3,.n n4,.n n5,.l TCmd l6,.n n7,.n n8,.n n9,.l TB l10,.n n11,.l TI l12,.l TQr l13,.n n14]).sel=some (Step.stop 0 [.n n3,.n n4,.n n5,.l TCmd l6,.n n7,.n n8,.n n9,.l TB l10,.n n11,.l TI l12,.l TQr l13,.n n14]):=sP [1]<|sF (df h0)<|sP [1]<|sL
def S_i69:BSh:={args:=[.ptr 0 0,.int .i64 0],blks:=[cyB 1 1,mB 10],log:=[0],outs:=[(.tup [],[cyB 1 0,mB 9])]}
def ev_i69:List Dat→Tree (Nat×List Dat):=evF w3l 51 (lsM [(3,h4h)] 2) S_i69
theorem v3e: ∃op,IsF ev_i69 51 S_i69 op:=bxF l3z (lsE (lsC (h3g n3q) (atF) lsZ))
def k3w:OpA:=opF v3e
theorem z3e {n0 n1 n2 n3:Int}{l4:List (Ty.den TCmd)}{n5 n6 n7:Int}{l8:List (Ty.den TB)}{n9:Int}{l10:List (Ty.den TI)}{l11:List (Ty.den TQr)}(h0:(n0<(0:Int))):k3w [.n n0,.n n1,.n n2,.n n3,.l TCmd l4,.n n5,.n n6,.n n7,.l TB l8,.n n9,.l TI l10,.l TQr l11]=some ((0,[.n n1,.n n2,.n n3,.l TCmd l4,.n n5,.n n6,.n n7,.l TB l8,.n n9,.l TI l10,.l TQr l11])):=h3c v3e (sT (dt h0)<|sP [1,1,1,1,1,1]<|sL)
theorem d4m {n0 n1 n2 n3:Int}{l4:List (Ty.den TCmd)}{n5 n6 n7:Int}{l8:List (Ty.den TB)}{n9:Int}{l10:List (Ty.den TI)}{l11:List (Ty.den TQr)}(h0:(¬n0<(0:Int)))(h1:(n0≥(↑(List.length l10):Int))):k3w [.n n0,.n n1,.n n2,.n n3,.l TCmd l4,.n n5,.n n6,.n n7,.l TB l8,.n n9,.l TI l10,.l TQr l11]=some ((0,[.n n1,.n n2,.n n3,.l TCmd l4,.n n5,.n n6,.n n7,.l TB l8,.n n9,.l TI l10,.l TQr l11])):=h3c v3e (sF (df h0)<|sT (dt h1)<|sP [1,1,1,1]<|sL)
theorem z3m {n0 n1 n2 n3:Int}{l4:List (Ty.den TCmd)}{n5 n6 n7:Int}{l8:List (Ty.den TB)}{n9:Int}{l10:List (Ty.den TI)}{l11:List (Ty.den TQr)}{b12:Bool}(h0:(¬n0<(0:Int)))(h1:(¬n0≥(↑(List.length l10):Int)))(h2:(h3e [.n n1,.n (List.getD l10 (Int.toNat n0) (0:Int))])=(some (0,[.b b12])))(h3:((!b12)=false)):k3w [.n n0,.n n1,.n n2,.n n3,.l TCmd l4,.n n5,.n n6,.n n7,.l TB l8,.n n9,.l TI l10,.l TQr l11]=some ((0,[.n n1,.n n2,.n n3,.l TCmd l4,.n n5,.n n6,.n n7,.l TB l8,.n n9,.l TI l10,.l TQr l11])):=h3c v3e (sF (df h0)<|sF (df h1)<|sTo (c:=(inR n0 (List.length l10)))<|sP [1]<|sA h2<|sP [1,1,1,1]<|sT (nf h3)<|sP [1]<|sL)
theorem e4x {n0 n1 n2 n3:Int}{l4:List (Ty.den TCmd)}{n5 n6 n7:Int}{l8:List (Ty.den TB)}{n9:Int}{l10:List (Ty.den TI)}{l11:List (Ty.den TQr)}{b12:Bool}{n13 n14 n15:Int}{l16:List (Ty.den TCmd)}{n17 n18 n19:Int}{l20:List (Ty.den TB)}{n21:Int}{l22:List (Ty.den TI)}{l23:List (Ty.den TQr)}{n24:Int}(h0:(¬n0<(0:Int)))(h1:(¬n0≥(↑(List.length l10):Int)))(h2:(h3e [.n n1,.n (List.getD l10 (Int.toNat n0) (0:Int))])=(some (0,[.b b12])))(h3:((!b12)=true))(h4:(l3m [.k 0,.l TQr l11,.n (↑(List.length l11):Int),.n (0:Int),.n n1,.n n2,.n n3,.l TCmd l4,.n n5,.n n6,.n n7,.l TB l8,.n n9,.l TI l10,.l TQr l11,.n n0])=(some (0,[.n n13,.n n14,.n n15,.l TCmd l16,.n n17,.n n18,.n n19,.l TB l20,.n n21,.l TI l22,.l TQr l23,.n n24])))(h5:(¬n24<(0:Int))):k3w [.n n0,.n n1,.n n2,.n n3,.l TCmd l4,.n n5,.n n6,.n n7,.l TB l8,.n n9,.l TI l10,.l TQr l11]=some ((0,[.n n13,.n n14,.n n15,.l TCmd l16,.n n17,.n n18,.n n19,.l TB l20,.n (ixor IntKind.u32 n21 (ishl IntKind.u32 (1:Int) n24)),.l TI l22,.l TQr l23])):=h3c v3e (sF (df h0)<|sF (df h1)<|sTo (c:=(inR n0 (List.length l10)))<|sP [1]<|sA h2<|sP [1,1,1,1]<|sF (nt h3)<|sA h4<|sP [1]<|sT (nf (df h5))<|sP [1,1]<|sL)
theorem z3r {n0 n1 n2 n3:Int}{l4:List (Ty.den TCmd)}{n5 n6 n7:Int}{l8:List (Ty.den TB)}{n9:Int}{l10:List (Ty.den TI)}{l11:List (Ty.den TQr)}{b12:Bool}{n13 n14 n15:Int}{l16:List (Ty.den TCmd)}{n17 n18 n19:Int}{l20:List (Ty.den TB)}{n21:Int}{l22:List (Ty.den TI)}{l23:List (Ty.den TQr)}(h0:(¬n0<(0:Int)))(h1:(¬n0≥(↑(List.length l10):Int)))(h2:(h3e [.n n1,.n (List.getD l10 (Int.toNat n0) (0:Int))])=(some (0,[.b b12])))(h3:((!b12)=true))(h4:(l3m [.k 0,.l TQr l11,.n (↑(List.length l11):Int),.n (0:Int),.n n1,.n n2,.n n3,.l TCmd l4,.n n5,.n n6,.n n7,.l TB l8,.n n9,.l TI l10,.l TQr l11,.n n0])=(some (1,[.n n13,.n n14,.n n15,.l TCmd l16,.n n17,.n n18,.n n19,.l TB l20,.n n21,.l TI l22,.l TQr l23]))):k3w [.n n0,.n n1,.n n2,.n n3,.l TCmd l4,.n n5,.n n6,.n n7,.l TB l8,.n n9,.l TI l10,.l TQr l11]=some ((0,[.n n13,.n n14,.n n15,.l TCmd l16,.n n17,.n n18,.n n19,.l TB l20,.n n21,.l TI l22,.l TQr l23])):=h3c v3e (sF (df h0)<|sF (df h1)<|sTo (c:=(inR n0 (List.length l10)))<|sP [1]<|sA h2<|sP [1,1,1,1]<|sF (nt h3)<|sA h4<|sP [0,1,1]<|sL)
def x3t:FuncId→Option a0q:=e1c 51 [S_i69.k k3w] w3l
theorem m3b:CsOk Tryz.prog x3t:=csA1 l3z v3e
def e4a:LSh:={K:=2,log:=[0],ins:=[(sh 42 [(0,.ptr 0 0),(2,.ptr 2 0),(16,.imm TCmd 0),(17,.int .i64 1),(18,.int .i64 2)],[cyB 1 3,mB 12,dosB])],nils:=[],outs:=[(.exit 0,sh 42 [],[cyB 1 0,mB 9]),(.ret,sh 42 [],[cyB 1 0,mB 9])],cv:=[]}
def h3s:List Dat→Tree Step:=evL x3t 26 2 ls0 e4a
theorem n3d: ∃op,IsL h3s 26 2 e4a op:=bxL m3b (LsOk.none _ _ _)
def l3k:OpA:=opL n3d
theorem t3f (env:List Dat):l3k env=a0b h3s FU env:=h3i n3d env
abbrev h4e:MBox:=boxL n3d
theorem s3k {l0:List (Ty.den TCmd)}{n1 n2 n3 n4 n5:Int}{l6:List (Ty.den TCmd)}{n7 n8 n9:Int}{l10:List (Ty.den TB)}{n11:Int}{l12:List (Ty.den TI)}{l13:List (Ty.den TQr)}(g0:0≤n2)(g1:n1=(l0.length:Int))(h0:(n2<n1))(h1:(n2=(8:Int))):(h3s [.k 0,.l TCmd l0,.n n1,.n n2,.n n3,.n n4,.n n5,.l TCmd l6,.n n7,.n n8,.n n9,.l TB l10,.n n11,.l TI l12,.l TQr l13]).sel=some (Step.stop 1 [.n n3,.n n4,.n n5,.l TCmd l6,.n n7,.n n8,.n n9,.l TB l10,.n n11,.l TI l12,.l TQr l13]):=sP [1]<|sT (dt h0)<|sTo (c:=(inR n2 (List.length l0)))<|sT (bt h1)<|sP [1]<|sL
theorem t3i {l0:List (Ty.den TCmd)}{n1 n2 n3 n4 n5:Int}{l6:List (Ty.den TCmd)}{n7 n8 n9:Int}{l10:List (Ty.den TB)}{n11:Int}{l12:List (Ty.den TI)}{l13:List (Ty.den TQr)}{n14 n15 n16:Int}{l17:List (Ty.den TCmd)}{n18 n19 n20:Int}{l21:List (Ty.den TB)}{n22:Int}{l23:List (Ty.den TI)}{l24:List (Ty.den TQr)}(g0:0≤n2)(g1:n1=(l0.length:Int))(h0:(n2<n1))(h1:(¬n2=(8:Int)))(h2:(¬(Prod.fst (List.getD l0 (Int.toNat n2) (Ty.dflt TCmd)):Int)=(0:Int)))(h3:(IntKind.wrap .i64 (Prod.fst (List.getD l0 (Int.toNat n2) (Ty.dflt TCmd)))<(4:Int)))(h4:((Prod.fst (List.getD l0 (Int.toNat n2) (Ty.dflt TCmd)):Int)=(1:Int)))(h5:(j3n [.n (Prod.snd (List.getD l0 (Int.toNat n2) (Ty.dflt TCmd))),.n n3,.n n4,.n n5,.l TCmd l6,.n n7,.n n8,.n n9,.l TB l10,.n n11,.l TI l12,.l TQr l13])=(some (0,[.n n14,.n n15,.n n16,.l TCmd l17,.n n18,.n n19,.n n20,.l TB l21,.n n22,.l TI l23,.l TQr l24]))):(h3s [.k 0,.l TCmd l0,.n n1,.n n2,.n n3,.n n4,.n n5,.l TCmd l6,.n n7,.n n8,.n n9,.l TB l10,.n n11,.l TI l12,.l TQr l13]).sel=some (Step.go [.k 0,.l TCmd l0,.n n1,.n (IntKind.wrap .i64 (n2+(1:Int))),.n n14,.n n15,.n n16,.l TCmd l17,.n n18,.n n19,.n n20,.l TB l21,.n n22,.l TI l12,.l TQr l13]):=sP [1]<|sT (dt h0)<|sTo (c:=(inR n2 (List.length l0)))<|sF (bf h1)<|sT (bnt h2)<|sT (dt h3)<|sFs (c:=(decide ((Prod.fst (List.getD l0 (Int.toNat n2) (Ty.dflt TCmd)):Int)=(0:Int))))<|sT (dt h4)<|sP [1]<|sA h5<|sP [1,1,1,1]<|sL
theorem t3g {l0:List (Ty.den TCmd)}{n1 n2 n3 n4 n5:Int}{l6:List (Ty.den TCmd)}{n7 n8 n9:Int}{l10:List (Ty.den TB)}{n11:Int}{l12:List (Ty.den TI)}{l13:List (Ty.den TQr)}{n14 n15 n16:Int}{l17:List (Ty.den TCmd)}{n18 n19 n20:Int}{l21:List (Ty.den TB)}{n22:Int}{l23:List (Ty.den TI)}{l24:List (Ty.den TQr)}(g0:0≤n2)(g1:n1=(l0.length:Int))(h0:(n2<n1))(h1:(¬n2=(8:Int)))(h2:(¬(Prod.fst (List.getD l0 (Int.toNat n2) (Ty.dflt TCmd)):Int)=(0:Int)))(h3:(IntKind.wrap .i64 (Prod.fst (List.getD l0 (Int.toNat n2) (Ty.dflt TCmd)))<(4:Int)))(h4:(¬(Prod.fst (List.getD l0 (Int.toNat n2) (Ty.dflt TCmd)):Int)=(1:Int)))(h5:((Prod.fst (List.getD l0 (Int.toNat n2) (Ty.dflt TCmd)):Int)=(2:Int)))(h6:(k3t [.n (Prod.snd (List.getD l0 (Int.toNat n2) (Ty.dflt TCmd))),.n n3,.n n4,.n n5,.l TCmd l6,.n n7,.n n8,.n n9,.l TB l10,.n n11,.l TI l12,.l TQr l13])=(some (0,[.n n14,.n n15,.n n16,.l TCmd l17,.n n18,.n n19,.n n20,.l TB l21,.n n22,.l TI l23,.l TQr l24]))):(h3s [.k 0,.l TCmd l0,.n n1,.n n2,.n n3,.n n4,.n n5,.l TCmd l6,.n n7,.n n8,.n n9,.l TB l10,.n n11,.l TI l12,.l TQr l13]).sel=some (Step.go [.k 0,.l TCmd l0,.n n1,.n (IntKind.wrap .i64 (n2+(1:Int))),.n n14,.n n15,.n n16,.l TCmd l17,.n n18,.n n19,.n n20,.l TB l21,.n n22,.l TI l12,.l TQr l13]):=sP [1]<|sT (dt h0)<|sTo (c:=(inR n2 (List.length l0)))<|sF (bf h1)<|sT (bnt h2)<|sT (dt h3)<|sFs (c:=(decide ((Prod.fst (List.getD l0 (Int.toNat n2) (Ty.dflt TCmd)):Int)=(0:Int))))<|sF (df h4)<|sT (dt h5)<|sP [1]<|sA h6<|sP [1,1,1,1]<|sL
theorem v3d {l0:List (Ty.den TCmd)}{n1 n2 n3 n4 n5:Int}{l6:List (Ty.den TCmd)}{n7 n8 n9:Int}{l10:List (Ty.den TB)}{n11:Int}{l12:List (Ty.den TI)}{l13:List (Ty.den TQr)}{n14 n15 n16:Int}{l17:List (Ty.den TCmd)}{n18 n19 n20:Int}{l21:List (Ty.den TB)}{n22:Int}{l23:List (Ty.den TI)}{l24:List (Ty.den TQr)}(g0:0≤n2)(g1:n1=(l0.length:Int))(h0:(n2<n1))(h1:(¬n2=(8:Int)))(h2:(¬(Prod.fst (List.getD l0 (Int.toNat n2) (Ty.dflt TCmd)):Int)=(0:Int)))(h3:(IntKind.wrap .i64 (Prod.fst (List.getD l0 (Int.toNat n2) (Ty.dflt TCmd)))<(4:Int)))(h4:(¬(Prod.fst (List.getD l0 (Int.toNat n2) (Ty.dflt TCmd)):Int)=(1:Int)))(h5:(¬(Prod.fst (List.getD l0 (Int.toNat n2) (Ty.dflt TCmd)):Int)=(2:Int)))(h6:((Prod.fst (List.getD l0 (Int.toNat n2) (Ty.dflt TCmd)):Int)=(3:Int)))(h7:(k3w [.n (Prod.snd (List.getD l0 (Int.toNat n2) (Ty.dflt TCmd))),.n n3,.n n4,.n n5,.l TCmd l6,.n n7,.n n8,.n n9,.l TB l10,.n n11,.l TI l12,.l TQr l13])=(some (0,[.n n14,.n n15,.n n16,.l TCmd l17,.n n18,.n n19,.n n20,.l TB l21,.n n22,.l TI l23,.l TQr l24]))):(h3s [.k 0,.l TCmd l0,.n n1,.n n2,.n n3,.n n4,.n n5,.l TCmd l6,.n n7,.n n8,.n n9,.l TB l10,.n n11,.l TI l12,.l TQr l13]).sel=some (Step.go [.k 0,.l TCmd l0,.n n1,.n (IntKind.wrap .i64 (n2+(1:Int))),.n n14,.n n15,.n n16,.l TCmd l17,.n n18,.n n19,.n n20,.l TB l21,.n n22,.l TI l12,.l TQr l13]):=sP [1]<|sT (dt h0)<|sTo (c:=(inR n2 (List.length l0)))<|sF (bf h1)<|sT (bnt h2)<|sT (dt h3)<|sFs (c:=(decide ((Prod.fst (List.getD l0 (Int.toNat n2) (Ty.dflt TCmd)):Int)=(0:Int))))<|sF (df h4)<|sF (df h5)<|sT (dt h6)<|sP [1]<|sA h7<|sP [1,1,1,1]<|sL
theorem s3i {l0:List (Ty.den TCmd)}{n1 n2 n3 n4 n5:Int}{l6:List (Ty.den TCmd)}{n7 n8 n9:Int}{l10:List (Ty.den TB)}{n11:Int}{l12:List (Ty.den TI)}{l13:List (Ty.den TQr)}(g0:0≤n2)(g1:n1=(l0.length:Int))(h0:(n2<n1))(h1:(¬n2=(8:Int)))(h2:(¬(Prod.fst (List.getD l0 (Int.toNat n2) (Ty.dflt TCmd)):Int)=(0:Int)))(h3:(¬IntKind.wrap .i64 (Prod.fst (List.getD l0 (Int.toNat n2) (Ty.dflt TCmd)))<(4:Int))):(h3s [.k 0,.l TCmd l0,.n n1,.n n2,.n n3,.n n4,.n n5,.l TCmd l6,.n n7,.n n8,.n n9,.l TB l10,.n n11,.l TI l12,.l TQr l13]).sel=some (Step.go [.k 0,.l TCmd l0,.n n1,.n (IntKind.wrap .i64 (n2+(1:Int))),.n n3,.n n4,.n n5,.l TCmd l6,.n n7,.n n8,.n n9,.l TB l10,.n n11,.l TI l12,.l TQr l13]):=sP [1]<|sT (dt h0)<|sTo (c:=(inR n2 (List.length l0)))<|sF (bf h1)<|sT (bnt h2)<|sF (df h3)<|sP [1]<|sL
theorem r3x {l0:List (Ty.den TCmd)}{n1 n2 n3 n4 n5:Int}{l6:List (Ty.den TCmd)}{n7 n8 n9:Int}{l10:List (Ty.den TB)}{n11:Int}{l12:List (Ty.den TI)}{l13:List (Ty.den TQr)}(g0:0≤n2)(g1:n1=(l0.length:Int))(h0:(n2<n1))(h1:(¬n2=(8:Int)))(h2:((Prod.fst (List.getD l0 (Int.toNat n2) (Ty.dflt TCmd)):Int)=(0:Int))):(h3s [.k 0,.l TCmd l0,.n n1,.n n2,.n n3,.n n4,.n n5,.l TCmd l6,.n n7,.n n8,.n n9,.l TB l10,.n n11,.l TI l12,.l TQr l13]).sel=some (Step.go [.k 0,.l TCmd l0,.n n1,.n (IntKind.wrap .i64 (n2+(1:Int))),.n n3,.n n4,.n n5,.l TCmd l6,.n n7,.n n8,.n n9,.l TB l10,.n n11,.l TI l12,.l TQr l13]):=sP [1]<|sT (dt h0)<|sTo (c:=(inR n2 (List.length l0)))<|sF (bf h1)<|sF (bnf h2)<|sP [0,0,1]<|sL
theorem u3f {l0:List (Ty.den TCmd)}{n1 n2 n3 n4 n5:Int}{l6:List (Ty.den TCmd)}{n7 n8 n9:Int}{l10:List (Ty.den TB)}{n11:Int}{l12:List (Ty.den TI)}{l13:List (Ty.den TQr)}(g0:0≤n2)(g1:n1=(l0.length:Int))(h0:(¬n2<n1)):(h3s [.k 0,.l TCmd l0,.n n1,.n n2,.n n3,.n n4,.n n5,.l TCmd l6,.n n7,.n n8,.n n9,.l TB l10,.n n11,.l TI l12,.l TQr l13]).sel=some (Step.stop 0 [.n n3,.n n4,.n n5,.l TCmd l6,.n n7,.n n8,.n n9,.l TB l10,.n n11,.l TI l12,.l TQr l13]):=sP [1]<|sF (df h0)<|sP [1]<|sL
def S_i34:BSh:={args:=[.ptr 0 0],blks:=[cyB 1 0,mB 9],log:=[0],outs:=[(.tup [],[cyB 1 0,mB 9])]}
def ev_i34:List Dat→Tree (Nat×List Dat):=evF x3t 26 (lsM [(2,h4e)] 2) S_i34
theorem g4t: ∃op,IsF ev_i34 26 S_i34 op:=bxF m3b (lsE (lsC (h3g n3d) (atF) lsZ))
def r3t:OpA:=opF g4t
theorem z3k {n0 n1 n2:Int}{l3:List (Ty.den TCmd)}{n4 n5 n6:Int}{l7:List (Ty.den TB)}{n8:Int}{l9:List (Ty.den TI)}{l10:List (Ty.den TQr)}{n11 n12 n13:Int}{l14:List (Ty.den TCmd)}{n15 n16 n17:Int}{l18:List (Ty.den TB)}{n19:Int}{l20:List (Ty.den TI)}{l21:List (Ty.den TQr)}(h0:(l3k [.k 0,.l TCmd l3,.n (↑(List.length l3):Int),.n (0:Int),.n n0,.n n1,.n n2,.l TCmd l3,.n n4,.n n5,.n n6,.l TB l7,.n n8,.l TI l9,.l TQr l10])=(some (0,[.n n11,.n n12,.n n13,.l TCmd l14,.n n15,.n n16,.n n17,.l TB l18,.n n19,.l TI l20,.l TQr l21]))):r3t [.n n0,.n n1,.n n2,.l TCmd l3,.n n4,.n n5,.n n6,.l TB l7,.n n8,.l TI l9,.l TQr l10]=some ((0,[.n n11,.n n12,.n n13,.l TCmd l14,.n n15,.n n16,.n n17,.l TB l18,.n n19,.l TI l20,.l TQr l21])):=h3c g4t (sA h0<|sP [1,1]<|sL)
theorem c4u {n0 n1 n2:Int}{l3:List (Ty.den TCmd)}{n4 n5 n6:Int}{l7:List (Ty.den TB)}{n8:Int}{l9:List (Ty.den TI)}{l10:List (Ty.den TQr)}{n11 n12 n13:Int}{l14:List (Ty.den TCmd)}{n15 n16 n17:Int}{l18:List (Ty.den TB)}{n19:Int}{l20:List (Ty.den TI)}{l21:List (Ty.den TQr)}(h0:(l3k [.k 0,.l TCmd l3,.n (↑(List.length l3):Int),.n (0:Int),.n n0,.n n1,.n n2,.l TCmd l3,.n n4,.n n5,.n n6,.l TB l7,.n n8,.l TI l9,.l TQr l10])=(some (1,[.n n11,.n n12,.n n13,.l TCmd l14,.n n15,.n n16,.n n17,.l TB l18,.n n19,.l TI l20,.l TQr l21]))):r3t [.n n0,.n n1,.n n2,.l TCmd l3,.n n4,.n n5,.n n6,.l TB l7,.n n8,.l TI l9,.l TQr l10]=some ((0,[.n n11,.n n12,.n n13,.l TCmd l14,.n n15,.n n16,.n n17,.l TB l18,.n n19,.l TI l20,.l TQr l21])):=h3c g4t (sA h0<|sP [0,1,1]<|sL)
def a4d:FuncId→Option a0q:=e1c 26 [S_i34.k r3t] x3t
theorem q3g:CsOk Tryz.prog a4d:=csA1 m3b g4t
def S_i70:BSh:={args:=[.ptr 0 0,.int .i64 0],blks:=[cyB 1 1,mB 10],log:=[0],outs:=[(.tup [],[cyB 1 0,mB 9])]}
def ev_i70:List Dat→Tree (Nat×List Dat):=evF a4d 52 ls0 S_i70
theorem h4l: ∃op,IsF ev_i70 52 S_i70 op:=bxF q3g (LsOk.none _ _ _)
def m3s:OpA:=opF h4l
theorem z3g {n0 n1 n2 n3:Int}{l4:List (Ty.den TCmd)}{n5 n6 n7:Int}{l8:List (Ty.den TB)}{n9:Int}{l10:List (Ty.den TI)}{l11:List (Ty.den TQr)}{b12:Bool}{n13 n14 n15:Int}{l16:List (Ty.den TCmd)}{n17 n18 n19:Int}{l20:List (Ty.den TB)}{n21:Int}{l22:List (Ty.den TI)}{l23:List (Ty.den TQr)}(h0:(inR n0 (List.length l11)=true))(h1:(i3z [.n (Prod.fst (List.getD l11 (Int.toNat n0) (Ty.dflt TQr))),.n (Prod.fst (Prod.snd (List.getD l11 (Int.toNat n0) (Ty.dflt TQr)))),.l TI (Prod.fst (Prod.snd (Prod.snd (List.getD l11 (Int.toNat n0) (Ty.dflt TQr))))),.l TNd (Prod.fst (Prod.snd (Prod.snd (Prod.snd (List.getD l11 (Int.toNat n0) (Ty.dflt TQr)))))),.l TI (Prod.snd (Prod.snd (Prod.snd (Prod.snd (List.getD l11 (Int.toNat n0) (Ty.dflt TQr)))))),.n n1,.n n2,.n n3,.l TCmd l4,.n n5,.n n6,.n n7,.l TB l8,.n n9,.l TI l10,.l TQr l11])=(some (0,[.b b12,.n n13,.n n14,.n n15,.l TCmd l16,.n n17,.n n18,.n n19,.l TB l20,.n n21,.l TI l22,.l TQr l23])))(h2:(b12=false)):m3s [.n n0,.n n1,.n n2,.n n3,.l TCmd l4,.n n5,.n n6,.n n7,.l TB l8,.n n9,.l TI l10,.l TQr l11]=some ((0,[.n n1,.n n2,.n n3,.l TCmd l4,.n n5,.n n6,.n n7,.l TB l8,.n n9,.l TI l10,.l TQr l11])):=h3c h4l (sT h0<|sP [1]<|sA h1<|sP [1,1]<|sT (nf h2)<|sP [1]<|sL)
theorem z3p {n0 n1 n2 n3:Int}{l4:List (Ty.den TCmd)}{n5 n6 n7:Int}{l8:List (Ty.den TB)}{n9:Int}{l10:List (Ty.den TI)}{l11:List (Ty.den TQr)}{b12:Bool}{n13 n14 n15:Int}{l16:List (Ty.den TCmd)}{n17 n18 n19:Int}{l20:List (Ty.den TB)}{n21:Int}{l22:List (Ty.den TI)}{l23:List (Ty.den TQr)}{n24 n25 n26:Int}(h0:(inR n0 (List.length l11)=true))(h1:(i3z [.n (Prod.fst (List.getD l11 (Int.toNat n0) (Ty.dflt TQr))),.n (Prod.fst (Prod.snd (List.getD l11 (Int.toNat n0) (Ty.dflt TQr)))),.l TI (Prod.fst (Prod.snd (Prod.snd (List.getD l11 (Int.toNat n0) (Ty.dflt TQr))))),.l TNd (Prod.fst (Prod.snd (Prod.snd (Prod.snd (List.getD l11 (Int.toNat n0) (Ty.dflt TQr)))))),.l TI (Prod.snd (Prod.snd (Prod.snd (Prod.snd (List.getD l11 (Int.toNat n0) (Ty.dflt TQr)))))),.n n1,.n n2,.n n3,.l TCmd l4,.n n5,.n n6,.n n7,.l TB l8,.n n9,.l TI l10,.l TQr l11])=(some (0,[.b b12,.n n13,.n n14,.n n15,.l TCmd l16,.n n17,.n n18,.n n19,.l TB l20,.n n21,.l TI l22,.l TQr l23])))(h2:(b12=true))(h3:(h3m [.n n5,.n n0,.b false])=(some (0,[.n n24])))(h4:(h3m [.n n6,.n n0,.b false])=(some (0,[.n n25])))(h5:(h3m [.n n7,.n n0,.b false])=(some (0,[.n n26])))(h6:(inR n0 64=true)):m3s [.n n0,.n n1,.n n2,.n n3,.l TCmd l4,.n n5,.n n6,.n n7,.l TB l8,.n n9,.l TI l10,.l TQr l11]=some ((0,[.n n1,.n n2,.n n3,.l TCmd l4,.n n24,.n n25,.n n26,.l TB (List.set l8 (Int.toNat n0) (0:Int)),.n n9,.l TI l10,.l TQr l11])):=h3c h4l (sT h0<|sP [1]<|sA h1<|sP [1,1]<|sF (nt h2)<|sA h3<|sP [1,1]<|sA h4<|sP [1,1]<|sA h5<|sP [1,1]<|sT h6<|sP [1]<|sL)
def c4o:FuncId→Option a0q:=e1c 52 [S_i70.k m3s] a4d
theorem r3p:CsOk Tryz.prog c4o:=csA1 q3g h4l
def S_i35:BSh:={args:=[.ptr 0 0,.int .i64 0,.int .u64 1],blks:=[cyB 1 2,mB 11],log:=[0],outs:=[(.tup [],[cyB 1 0,mB 9])]}
def ev_i35:List Dat→Tree (Nat×List Dat):=evF c4o 27 ls0 S_i35
theorem o3z: ∃op,IsF ev_i35 27 S_i35 op:=bxF r3p (LsOk.none _ _ _)
def j3x:OpA:=opF o3z
theorem z3w {n0 n1 n2 n3 n4:Int}{l5:List (Ty.den TCmd)}{n6 n7 n8:Int}{l9:List (Ty.den TB)}{n10:Int}{l11:List (Ty.den TI)}{l12:List (Ty.den TQr)}{b13:Bool}(h0:(inR n0 (List.length l12)=true))(h1:(h3e [.n n6,.n n0])=(some (0,[.b b13])))(h2:(b13=false)):j3x [.n n0,.n n1,.n n2,.n n3,.n n4,.l TCmd l5,.n n6,.n n7,.n n8,.l TB l9,.n n10,.l TI l11,.l TQr l12]=some ((0,[.n n2,.n n3,.n n4,.l TCmd l5,.n n6,.n n7,.n n8,.l TB l9,.n n10,.l TI l11,.l TQr l12])):=h3c o3z (sT h0<|sA h1<|sP [1,1]<|sT (nf h2)<|sP [1]<|sL)
theorem a4v {n0 n1 n2 n3 n4:Int}{l5:List (Ty.den TCmd)}{n6 n7 n8:Int}{l9:List (Ty.den TB)}{n10:Int}{l11:List (Ty.den TI)}{l12:List (Ty.den TQr)}{b13 b14:Bool}{n15 n16 n17:Int}{l18:List (Ty.den TCmd)}{n19 n20 n21:Int}{l22:List (Ty.den TB)}{n23:Int}{l24:List (Ty.den TI)}{l25:List (Ty.den TQr)}(h0:(inR n0 (List.length l12)=true))(h1:(h3e [.n n6,.n n0])=(some (0,[.b b13])))(h2:(b13=true))(h3:(h3e [.n n1,.n n0])=(some (0,[.b b14])))(h4:(b14=true))(h5:(m3s [.n n0,.n n2,.n n3,.n n4,.l TCmd l5,.n n6,.n n7,.n n8,.l TB l9,.n n10,.l TI l11,.l TQr l12])=(some (0,[.n n15,.n n16,.n n17,.l TCmd l18,.n n19,.n n20,.n n21,.l TB l22,.n n23,.l TI l24,.l TQr l25]))):j3x [.n n0,.n n1,.n n2,.n n3,.n n4,.l TCmd l5,.n n6,.n n7,.n n8,.l TB l9,.n n10,.l TI l11,.l TQr l12]=some ((0,[.n n15,.n n16,.n n17,.l TCmd l18,.n n19,.n n20,.n n21,.l TB l22,.n n23,.l TI l11,.l TQr l12])):=h3c o3z (sT h0<|sA h1<|sP [1,1]<|sF (nt h2)<|sA h3<|sP [1,1]<|sT h4<|sP [1]<|sA h5<|sP [1,1,1]<|sL)
theorem e4n {n0 n1 n2 n3 n4:Int}{l5:List (Ty.den TCmd)}{n6 n7 n8:Int}{l9:List (Ty.den TB)}{n10:Int}{l11:List (Ty.den TI)}{l12:List (Ty.den TQr)}{b13 b14 b15:Bool}{n16:Int}(h0:(inR n0 (List.length l12)=true))(h1:(h3e [.n n6,.n n0])=(some (0,[.b b13])))(h2:(b13=true))(h3:(h3e [.n n1,.n n0])=(some (0,[.b b14])))(h4:(b14=false))(h5:(h3e [.n n2,.n (Prod.fst (Prod.snd (List.getD l12 (Int.toNat n0) (Ty.dflt TQr))))])=(some (0,[.b b15])))(h6:((!b15)=false))(h7:(h3m [.n n7,.n n0,.b true])=(some (0,[.n n16]))):j3x [.n n0,.n n1,.n n2,.n n3,.n n4,.l TCmd l5,.n n6,.n n7,.n n8,.l TB l9,.n n10,.l TI l11,.l TQr l12]=some ((0,[.n n2,.n n3,.n n4,.l TCmd l5,.n n6,.n n16,.n n8,.l TB l9,.n n10,.l TI l11,.l TQr l12])):=h3c o3z (sT h0<|sA h1<|sP [1,1]<|sF (nt h2)<|sA h3<|sP [1,1]<|sF h4<|sP [1]<|sA h5<|sP [1,1,1]<|sT (nf h6)<|sA h7<|sP [1,1,1]<|sL)
theorem d4t {n0 n1 n2 n3 n4:Int}{l5:List (Ty.den TCmd)}{n6 n7 n8:Int}{l9:List (Ty.den TB)}{n10:Int}{l11:List (Ty.den TI)}{l12:List (Ty.den TQr)}{b13 b14 b15 b16:Bool}(h0:(inR n0 (List.length l12)=true))(h1:(h3e [.n n6,.n n0])=(some (0,[.b b13])))(h2:(b13=true))(h3:(h3e [.n n1,.n n0])=(some (0,[.b b14])))(h4:(b14=false))(h5:(h3e [.n n2,.n (Prod.fst (Prod.snd (List.getD l12 (Int.toNat n0) (Ty.dflt TQr))))])=(some (0,[.b b15])))(h6:((!b15)=true))(h7:(h3e [.n n8,.n n0])=(some (0,[.b b16])))(h8:(b16=false)):j3x [.n n0,.n n1,.n n2,.n n3,.n n4,.l TCmd l5,.n n6,.n n7,.n n8,.l TB l9,.n n10,.l TI l11,.l TQr l12]=some ((0,[.n n2,.n n3,.n n4,.l TCmd l5,.n n6,.n n7,.n n8,.l TB l9,.n n10,.l TI l11,.l TQr l12])):=h3c o3z (sT h0<|sA h1<|sP [1,1]<|sF (nt h2)<|sA h3<|sP [1,1]<|sF h4<|sP [1]<|sA h5<|sP [1,1,1]<|sF (nt h6)<|sA h7<|sP [1,1]<|sT (nf h8)<|sP [1]<|sL)
theorem f4u {n0 n1 n2 n3 n4:Int}{l5:List (Ty.den TCmd)}{n6 n7 n8:Int}{l9:List (Ty.den TB)}{n10:Int}{l11:List (Ty.den TI)}{l12:List (Ty.den TQr)}{b13 b14 b15 b16:Bool}(h0:(inR n0 (List.length l12)=true))(h1:(h3e [.n n6,.n n0])=(some (0,[.b b13])))(h2:(b13=true))(h3:(h3e [.n n1,.n n0])=(some (0,[.b b14])))(h4:(b14=false))(h5:(h3e [.n n2,.n (Prod.fst (Prod.snd (List.getD l12 (Int.toNat n0) (Ty.dflt TQr))))])=(some (0,[.b b15])))(h6:((!b15)=true))(h7:(h3e [.n n8,.n n0])=(some (0,[.b b16])))(h8:(b16=true))(h9:(inR n0 64=true))(h10:((List.getD l9 (Int.toNat n0) (0:Int):Int)>(0:Int))):j3x [.n n0,.n n1,.n n2,.n n3,.n n4,.l TCmd l5,.n n6,.n n7,.n n8,.l TB l9,.n n10,.l TI l11,.l TQr l12]=some ((0,[.n n2,.n n3,.n n4,.l TCmd l5,.n n6,.n n7,.n n8,.l TB (List.set l9 (Int.toNat n0) (IntKind.wrap .u8 ((List.getD l9 (Int.toNat n0) (0:Int):Int)-(1:Int)))),.n n10,.l TI l11,.l TQr l12])):=h3c o3z (sT h0<|sA h1<|sP [1,1]<|sF (nt h2)<|sA h3<|sP [1,1]<|sF h4<|sP [1]<|sA h5<|sP [1,1,1]<|sF (nt h6)<|sA h7<|sP [1,1]<|sF (nt h8)<|sT h9<|sT (dt h10)<|sT h9<|sT h9<|sP [1,1]<|sL)
theorem b4t {n0 n1 n2 n3 n4:Int}{l5:List (Ty.den TCmd)}{n6 n7 n8:Int}{l9:List (Ty.den TB)}{n10:Int}{l11:List (Ty.den TI)}{l12:List (Ty.den TQr)}{b13 b14 b15 b16:Bool}{n17 n18 n19:Int}{l20:List (Ty.den TCmd)}{n21 n22 n23:Int}{l24:List (Ty.den TB)}{n25:Int}{l26:List (Ty.den TI)}{l27:List (Ty.den TQr)}(h0:(inR n0 (List.length l12)=true))(h1:(h3e [.n n6,.n n0])=(some (0,[.b b13])))(h2:(b13=true))(h3:(h3e [.n n1,.n n0])=(some (0,[.b b14])))(h4:(b14=false))(h5:(h3e [.n n2,.n (Prod.fst (Prod.snd (List.getD l12 (Int.toNat n0) (Ty.dflt TQr))))])=(some (0,[.b b15])))(h6:((!b15)=true))(h7:(h3e [.n n8,.n n0])=(some (0,[.b b16])))(h8:(b16=true))(h9:(inR n0 64=true))(h10:(¬(List.getD l9 (Int.toNat n0) (0:Int):Int)>(0:Int)))(h11:(m3s [.n n0,.n n2,.n n3,.n n4,.l TCmd l5,.n n6,.n n7,.n n8,.l TB l9,.n n10,.l TI l11,.l TQr l12])=(some (0,[.n n17,.n n18,.n n19,.l TCmd l20,.n n21,.n n22,.n n23,.l TB l24,.n n25,.l TI l26,.l TQr l27]))):j3x [.n n0,.n n1,.n n2,.n n3,.n n4,.l TCmd l5,.n n6,.n n7,.n n8,.l TB l9,.n n10,.l TI l11,.l TQr l12]=some ((0,[.n n17,.n n18,.n n19,.l TCmd l20,.n n21,.n n22,.n n23,.l TB l24,.n n25,.l TI l11,.l TQr l12])):=h3c o3z (sT h0<|sA h1<|sP [1,1]<|sF (nt h2)<|sA h3<|sP [1,1]<|sF h4<|sP [1]<|sA h5<|sP [1,1,1]<|sF (nt h6)<|sA h7<|sP [1,1]<|sF (nt h8)<|sT h9<|sF (df h10)<|sP [1]<|sA h11<|sP [1,1,1]<|sL)
def w3x:FuncId→Option a0q:=e1c 27 [S_i35.k j3x] c4o
theorem m3q:CsOk Tryz.prog w3x:=csA1 r3p o3z
def d4g:LSh:={K:=2,log:=[],ins:=[(sh 77 [(0,.ptr 0 0),(2,.ptr 2 0),(3,.ptr 3 0),(6,fnC 54 [.ptr 4 0,.ptr 5 0]),(31,.imm TQr 0),(32,.int .i64 1),(33,.int .i64 2)],[cyB 1 3,mB 12,ouB 14,ouB 16,wcB 18,wcB 19])],nils:=[],outs:=[(.exit 0,sh 77 [(2,.ptr 2 0),(3,.ptr 3 0)],[cyB 1 0,mB 9,ouB 11,ouB 13])],cv:=[]}
def i3m:List Dat→Tree Step:=evL w3x 28 5 ls0 d4g
theorem n3r: ∃op,IsL i3m 28 5 d4g op:=bxL m3q (LsOk.none _ _ _)
def o3c:OpA:=opL n3r
theorem t3v (env:List Dat):o3c env=a0b i3m FU env:=h3i n3r env
abbrev g4y:MBox:=boxL n3r
theorem s3u {l0:List (Ty.den TQr)}{n1 n2 n3 n4 n5:Int}{l6:List (Ty.den TCmd)}{n7 n8 n9:Int}{l10:List (Ty.den TB)}{n11:Int}{l12:List (Ty.den TI)}{l13:List (Ty.den TQr)}{n14 n15 n16 n17 n18 n19:Int}{b20 b21:Bool}{n22 n23 n24:Int}{l25:List (Ty.den TCmd)}{n26 n27 n28:Int}{l29:List (Ty.den TB)}{n30:Int}{l31:List (Ty.den TI)}{l32:List (Ty.den TQr)}{n33 n34 n35 n36:Int}(g0:0≤n2)(g1:n1=(l0.length:Int))(h0:(n2<n1))(h1:(h3e [.n (b0l IntKind.u64 (b0l IntKind.u64 n7 n8) n9),.n n2])=(some (0,[.b b20])))(h2:(b20=true))(h3:(i3z [.n (Prod.fst (List.getD l0 (Int.toNat n2) (Ty.dflt TQr))),.n (Prod.fst (Prod.snd (List.getD l0 (Int.toNat n2) (Ty.dflt TQr)))),.l TI (Prod.fst (Prod.snd (Prod.snd (List.getD l0 (Int.toNat n2) (Ty.dflt TQr))))),.l TNd (Prod.fst (Prod.snd (Prod.snd (Prod.snd (List.getD l0 (Int.toNat n2) (Ty.dflt TQr)))))),.l TI (Prod.snd (Prod.snd (Prod.snd (Prod.snd (List.getD l0 (Int.toNat n2) (Ty.dflt TQr)))))),.n n3,.n n4,.n n5,.l TCmd l6,.n n7,.n n8,.n n9,.l TB l10,.n n11,.l TI l12,.l TQr l13])=(some (0,[.b b21,.n n22,.n n23,.n n24,.l TCmd l25,.n n26,.n n27,.n n28,.l TB l29,.n n30,.l TI l31,.l TQr l32])))(h4:(b21=true))(h5:(o3v [.l TNd (Prod.fst (Prod.snd (Prod.snd (Prod.snd (List.getD l0 (Int.toNat n2) (Ty.dflt TQr)))))),.n n18,.n n19])=(some (0,[.n n33,.n n34,.n n35])))(h6:(h3m [.n n16,.n n2,.b !decide (n33≥(0:Int))])=(some (0,[.n n36]))):(i3m [.k 0,.l TQr l0,.n n1,.n n2,.n n3,.n n4,.n n5,.l TCmd l6,.n n7,.n n8,.n n9,.l TB l10,.n n11,.l TI l12,.l TQr l13,.n n14,.n n15,.n n16,.n n17,.n n18,.n n19]).sel=some (Step.go [.k 0,.l TQr l0,.n n1,.n (IntKind.wrap .i64 (n2+(1:Int))),.n n3,.n n4,.n n5,.l TCmd l6,.n n7,.n n8,.n n9,.l TB l10,.n n11,.l TI l12,.l TQr l13,.n n14,.n n15,.n n36,.n n17,.n n18,.n n19]):=sP [1]<|sT (dt h0)<|sTo (c:=(inR n2 (List.length l0)))<|sA h1<|sP [1,1]<|sT h2<|sP [1]<|sA h3<|sP [1,1,1]<|sT h4<|sP [1,1]<|sA h5<|sP [1,1,1]<|sA h6<|sP [1,1,1,1]<|sL
theorem u3o {l0:List (Ty.den TQr)}{n1 n2 n3 n4 n5:Int}{l6:List (Ty.den TCmd)}{n7 n8 n9:Int}{l10:List (Ty.den TB)}{n11:Int}{l12:List (Ty.den TI)}{l13:List (Ty.den TQr)}{n14 n15 n16 n17 n18 n19:Int}{b20 b21:Bool}{n22 n23 n24:Int}{l25:List (Ty.den TCmd)}{n26 n27 n28:Int}{l29:List (Ty.den TB)}{n30:Int}{l31:List (Ty.den TI)}{l32:List (Ty.den TQr)}{n33:Int}(g0:0≤n2)(g1:n1=(l0.length:Int))(h0:(n2<n1))(h1:(h3e [.n (b0l IntKind.u64 (b0l IntKind.u64 n7 n8) n9),.n n2])=(some (0,[.b b20])))(h2:(b20=true))(h3:(i3z [.n (Prod.fst (List.getD l0 (Int.toNat n2) (Ty.dflt TQr))),.n (Prod.fst (Prod.snd (List.getD l0 (Int.toNat n2) (Ty.dflt TQr)))),.l TI (Prod.fst (Prod.snd (Prod.snd (List.getD l0 (Int.toNat n2) (Ty.dflt TQr))))),.l TNd (Prod.fst (Prod.snd (Prod.snd (Prod.snd (List.getD l0 (Int.toNat n2) (Ty.dflt TQr)))))),.l TI (Prod.snd (Prod.snd (Prod.snd (Prod.snd (List.getD l0 (Int.toNat n2) (Ty.dflt TQr)))))),.n n3,.n n4,.n n5,.l TCmd l6,.n n7,.n n8,.n n9,.l TB l10,.n n11,.l TI l12,.l TQr l13])=(some (0,[.b b21,.n n22,.n n23,.n n24,.l TCmd l25,.n n26,.n n27,.n n28,.l TB l29,.n n30,.l TI l31,.l TQr l32])))(h4:(b21=false))(h5:(h3m [.n n16,.n n2,.b false])=(some (0,[.n n33]))):(i3m [.k 0,.l TQr l0,.n n1,.n n2,.n n3,.n n4,.n n5,.l TCmd l6,.n n7,.n n8,.n n9,.l TB l10,.n n11,.l TI l12,.l TQr l13,.n n14,.n n15,.n n16,.n n17,.n n18,.n n19]).sel=some (Step.go [.k 0,.l TQr l0,.n n1,.n (IntKind.wrap .i64 (n2+(1:Int))),.n n3,.n n4,.n n5,.l TCmd l6,.n n7,.n n8,.n n9,.l TB l10,.n n11,.l TI l12,.l TQr l13,.n n14,.n n15,.n n33,.n n17,.n n18,.n n19]):=sP [1]<|sT (dt h0)<|sTo (c:=(inR n2 (List.length l0)))<|sA h1<|sP [1,1]<|sT h2<|sP [1]<|sA h3<|sP [1,1,1]<|sF h4<|sP [0]<|sA h5<|sP [1,1,1,1]<|sL
theorem s3n {l0:List (Ty.den TQr)}{n1 n2 n3 n4 n5:Int}{l6:List (Ty.den TCmd)}{n7 n8 n9:Int}{l10:List (Ty.den TB)}{n11:Int}{l12:List (Ty.den TI)}{l13:List (Ty.den TQr)}{n14 n15 n16 n17 n18 n19:Int}{b20:Bool}{n21:Int}(g0:0≤n2)(g1:n1=(l0.length:Int))(h0:(n2<n1))(h1:(h3e [.n (b0l IntKind.u64 (b0l IntKind.u64 n7 n8) n9),.n n2])=(some (0,[.b b20])))(h2:(b20=false))(h3:(h3m [.n n16,.n n2,.b false])=(some (0,[.n n21]))):(i3m [.k 0,.l TQr l0,.n n1,.n n2,.n n3,.n n4,.n n5,.l TCmd l6,.n n7,.n n8,.n n9,.l TB l10,.n n11,.l TI l12,.l TQr l13,.n n14,.n n15,.n n16,.n n17,.n n18,.n n19]).sel=some (Step.go [.k 0,.l TQr l0,.n n1,.n (IntKind.wrap .i64 (n2+(1:Int))),.n n3,.n n4,.n n5,.l TCmd l6,.n n7,.n n8,.n n9,.l TB l10,.n n11,.l TI l12,.l TQr l13,.n n14,.n n15,.n n21,.n n17,.n n18,.n n19]):=sP [1]<|sT (dt h0)<|sTo (c:=(inR n2 (List.length l0)))<|sA h1<|sP [1,1]<|sF h2<|sP [0,1,0,0]<|sA h3<|sP [1,1,1,1]<|sL
theorem v3g {l0:List (Ty.den TQr)}{n1 n2 n3 n4 n5:Int}{l6:List (Ty.den TCmd)}{n7 n8 n9:Int}{l10:List (Ty.den TB)}{n11:Int}{l12:List (Ty.den TI)}{l13:List (Ty.den TQr)}{n14 n15 n16 n17 n18 n19:Int}(g0:0≤n2)(g1:n1=(l0.length:Int))(h0:(¬n2<n1)):(i3m [.k 0,.l TQr l0,.n n1,.n n2,.n n3,.n n4,.n n5,.l TCmd l6,.n n7,.n n8,.n n9,.l TB l10,.n n11,.l TI l12,.l TQr l13,.n n14,.n n15,.n n16,.n n17,.n n18,.n n19]).sel=some (Step.stop 0 [.n n3,.n n4,.n n5,.l TCmd l6,.n n7,.n n8,.n n9,.l TB l10,.n n11,.l TI l12,.l TQr l13,.n n14,.n n15,.n n16,.n n17]):=sP [1]<|sF (df h0)<|sP [1]<|sL
def S_i36:BSh:={args:=[.ptr 0 0],blks:=[cyB 1 0,mB 9],log:=[],outs:=[(ouV 0,[cyB 1 2,mB 11])]}
def ev_i36:List Dat→Tree (Nat×List Dat):=evF w3x 28 (lsM [(5,g4y)] 2) S_i36
theorem e_i36: ∃op,IsF ev_i36 28 S_i36 op:=bxF m3q (lsE (lsC (h3g n3r) (atF) lsZ))
def x3p:OpA:=opF e_i36
theorem b4w {n0 n1 n2:Int}{l3:List (Ty.den TCmd)}{n4 n5 n6:Int}{l7:List (Ty.den TB)}{n8:Int}{l9:List (Ty.den TI)}{l10:List (Ty.den TQr)}{n11 n12 n13:Int}{l14:List (Ty.den TCmd)}{n15 n16 n17:Int}{l18:List (Ty.den TB)}{n19:Int}{l20:List (Ty.den TI)}{l21:List (Ty.den TQr)}{n22 n23 n24 n25:Int}(h0:(o3c [.k 0,.l TQr l10,.n (↑(List.length l10):Int),.n (0:Int),.n n0,.n n1,.n n2,.l TCmd l3,.n n4,.n n5,.n n6,.l TB l7,.n n8,.l TI l9,.l TQr l10,.n (0:Int),.n (0:Int),.n (0:Int),.n n8,.n (b0l IntKind.u32 n2 n1),.n (b0l IntKind.u32 n1 n2)])=(some (0,[.n n11,.n n12,.n n13,.l TCmd l14,.n n15,.n n16,.n n17,.l TB l18,.n n19,.l TI l20,.l TQr l21,.n n22,.n n23,.n n24,.n n25]))):x3p [.n n0,.n n1,.n n2,.l TCmd l3,.n n4,.n n5,.n n6,.l TB l7,.n n8,.l TI l9,.l TQr l10]=some ((0,[.n n24,.n n25,.n n11,.n n12,.n n13,.l TCmd l14,.n n15,.n n16,.n n17,.l TB l18,.n n19,.l TI l20,.l TQr l21])):=h3c e_i36 (sP [1,1,1]<|sA h0<|sP [1,1]<|sL)
def w3c:FuncId→Option a0q:=e1c 28 [S_i36.k x3p] w3x
theorem m3e:CsOk Tryz.prog w3c:=csA1 m3q e_i36
def f4l:LSh:={K:=1,log:=[],ins:=[(sh 40 [(0,.ptr 0 0),(6,.ptr 1 0),(7,.ptr 2 0),(8,.ptr 3 0),(9,.int .u64 0),(29,.int .i64 1),(30,.int .i64 2)],[mB 3,stB 5,ouB 10,cyB 0 12])],nils:=[],outs:=[(.exit 0,sh 40 [(0,.ptr 0 0),(6,.ptr 1 0),(7,.ptr 2 0),(8,.ptr 3 0)],[mB 0,stB 2,ouB 7,cyB 0 9])],cv:=[]}
def j3r:List Dat→Tree Step:=evL w3c 9 7 ls0 f4l
theorem n3j: ∃op,IsL j3r 9 7 f4l op:=bxL m3e (LsOk.none _ _ _)
def n3g:OpA:=opL n3j
theorem t3y (env:List Dat):n3g env=a0b j3r FU env:=h3i n3j env
abbrev h4m:MBox:=boxL n3j
theorem s3z {n0 n1 n2:Int}{l3:List (Ty.den TI)}{l4:List (Ty.den TQr)}{n5 n6 n7:Int}{l8:List (Ty.den TB)}{n9 n10 n11 n12 n13 n14:Int}{l15:List (Ty.den TCmd)}{n16 n17 n18:Int}{l19:List (Ty.den TB)}{n20 n21 n22 n23:Int}{l24:List (Ty.den TCmd)}{n25 n26 n27:Int}{l28:List (Ty.den TB)}{n29:Int}{l30:List (Ty.den TI)}{l31:List (Ty.den TQr)}(g0:0≤n2)(h0:(n2<n1))(h1:(j3x [.n n2,.n n0,.n n12,.n n13,.n n14,.l TCmd l15,.n n16,.n n17,.n n18,.l TB l19,.n n20,.l TI l3,.l TQr l4])=(some (0,[.n n21,.n n22,.n n23,.l TCmd l24,.n n25,.n n26,.n n27,.l TB l28,.n n29,.l TI l30,.l TQr l31]))):(j3r [.k 0,.n n0,.n n1,.n n2,.l TI l3,.l TQr l4,.n n5,.n n6,.n n7,.l TB l8,.n n9,.n n10,.n n11,.n n12,.n n13,.n n14,.l TCmd l15,.n n16,.n n17,.n n18,.l TB l19,.n n20]).sel=some (Step.go [.k 0,.n n0,.n n1,.n (IntKind.wrap .i64 (n2+(1:Int))),.l TI l3,.l TQr l4,.n n5,.n n6,.n n7,.l TB l8,.n n9,.n n10,.n n11,.n n21,.n n22,.n n23,.l TCmd l24,.n n25,.n n26,.n n27,.l TB l28,.n n29]):=sP [1]<|sT (dt h0)<|sP [1]<|sA h1<|sP [1,1,1]<|sL
theorem u3j {n0 n1 n2:Int}{l3:List (Ty.den TI)}{l4:List (Ty.den TQr)}{n5 n6 n7:Int}{l8:List (Ty.den TB)}{n9 n10 n11 n12 n13 n14:Int}{l15:List (Ty.den TCmd)}{n16 n17 n18:Int}{l19:List (Ty.den TB)}{n20:Int}(g0:0≤n2)(h0:(¬n2<n1)):(j3r [.k 0,.n n0,.n n1,.n n2,.l TI l3,.l TQr l4,.n n5,.n n6,.n n7,.l TB l8,.n n9,.n n10,.n n11,.n n12,.n n13,.n n14,.l TCmd l15,.n n16,.n n17,.n n18,.l TB l19,.n n20]).sel=some (Step.stop 0 [.l TI l3,.l TQr l4,.n n5,.n n6,.n n7,.l TB l8,.n n9,.n n10,.n n11,.n n12,.n n13,.n n14,.l TCmd l15,.n n16,.n n17,.n n18,.l TB l19,.n n20]):=sP [1]<|sF (df h0)<|sP [1]<|sL
def S_i13:BSh:={args:=[.ptr 0 0,stV 0,ipV 5],blks:=[mB 9],log:=[],outs:=[(.tup [stV 0,ouV 5],[mB 7])]}
def ev_i13:List Dat→Tree (Nat×List Dat):=evF w3c 9 (lsM [(7,h4m)] 1) S_i13
theorem e_i13: ∃op,IsF ev_i13 9 S_i13 op:=bxF m3e (lsE (lsC (h3g n3j) (atF) lsZ))
def w3r:OpA:=opF e_i13
theorem f4g {n0 n1 n2:Int}{l3:List (Ty.den TB)}{n4 n5 n6 n7:Int}{l8:List (Ty.den TCmd)}{l9:List (Ty.den TI)}{l10:List (Ty.den TQr)}{n11 n12 n13:Int}{l14:List (Ty.den TB)}{n15:Int}{l16:List (Ty.den TI)}{l17:List (Ty.den TQr)}{n18 n19 n20:Int}{l21:List (Ty.den TCmd)}{n22 n23 n24:Int}{l25:List (Ty.den TB)}{n26:Int}{l27:List (Ty.den TI)}{l28:List (Ty.den TQr)}{l29:List (Ty.den TI)}{l30:List (Ty.den TQr)}{n31 n32 n33:Int}{l34:List (Ty.den TB)}{n35 n36 n37 n38 n39 n40:Int}{l41:List (Ty.den TCmd)}{n42 n43 n44:Int}{l45:List (Ty.den TB)}{n46 n47 n48 n49 n50 n51:Int}{l52:List (Ty.den TCmd)}{n53 n54 n55:Int}{l56:List (Ty.den TB)}{n57:Int}{l58:List (Ty.den TI)}{l59:List (Ty.den TQr)}(h0:(k3k [.n n0,.n n1,.n n2,.l TB l3,.n n4,.l TI l9,.l TQr l10])=(some (0,[.n n11,.n n12,.n n13,.l TB l14,.n n15,.l TI l16,.l TQr l17])))(h1:(r3t [.n n5,.n n6,.n n7,.l TCmd l8,.n n11,.n n12,.n n13,.l TB l14,.n n15,.l TI l9,.l TQr l10])=(some (0,[.n n18,.n n19,.n n20,.l TCmd l21,.n n22,.n n23,.n n24,.l TB l25,.n n26,.l TI l27,.l TQr l28])))(h2:(n3g [.k 0,.n n12,.n (↑(List.length l10):Int),.n (0:Int),.l TI l9,.l TQr l10,.n (0:Int),.n (0:Int),.n (0:Int),.l TB (List.replicate 64 (0:Int)),.n (0:Int),.n (0:Int),.n (0:Int),.n n18,.n n19,.n n20,.l TCmd l21,.n n22,.n n23,.n n24,.l TB l25,.n n26])=(some (0,[.l TI l29,.l TQr l30,.n n31,.n n32,.n n33,.l TB l34,.n n35,.n n36,.n n37,.n n38,.n n39,.n n40,.l TCmd l41,.n n42,.n n43,.n n44,.l TB l45,.n n46])))(h3:(x3p [.n n38,.n n39,.n n40,.l TCmd l41,.n n42,.n n43,.n n44,.l TB l45,.n n46,.l TI l29,.l TQr l30])=(some (0,[.n n47,.n n48,.n n49,.n n50,.n n51,.l TCmd l52,.n n53,.n n54,.n n55,.l TB l56,.n n57,.l TI l58,.l TQr l59]))):w3r [.n n0,.n n1,.n n2,.l TB l3,.n n4,.n n5,.n n6,.n n7,.l TCmd l8,.l TI l9,.l TQr l10]=some ((0,[.n n42,.n n43,.n n44,.l TB l45,.n n46,.n n47,.n n48,.l TI l29,.l TQr l30])):=h3c e_i13 (sP [0,1]<|sA h0<|sP [1,1,1,1]<|sA h1<|sP [1,1]<|sA h2<|sP [1,1]<|sA h3<|sP [1,1,1,1]<|sL)
def e4q:FuncId→Option a0q:=e1c 9 [S_i13.k w3r] w3c
theorem r3c:CsOk Tryz.prog e4q:=csA1 m3e e_i13
def putB (X:B64)(k:Nat)(v:Bool):B64:=bif v then(X&&& ~~~p2 k)|||p2 k else X&&& ~~~p2 k
theorem h3v (X:B64)(k:Nat)(v:Bool){j:Nat}(hj:j<64):(putB X k v).getLsbD j=bif decide (j=k)then v else X.getLsbD j:=by
 have h: ∀Y:B64,(Y&&& ~~~p2 k).getLsbD j=bif decide (j=k)then false else Y.getLsbD j:=by
  intro Y
  rw[BitVec.getLsbD_and,BitVec.getLsbD_not,h2g,dt hj,Bool.true_and,Bool.true_and]
  by_cases e:j=k
  ·rw[dt e];simp
  ·rw[df e];simp
 unfold putB
 cases v with
 |true=>
  rw[cond_true,BitVec.getLsbD_or,h,h2g,dt hj,Bool.true_and]
  by_cases e:j=k
  ·rw[dt e];simp
  ·rw[df e];simp
 |false=>rw[cond_false,h]
theorem h38 (X:B64){k:Nat}(hk:k<64):h3e [.n (N X),.n (k:Int)]=some (0,[.b (X.getLsbD k)]):=by
 rw[e4c (by omega),iandB]
theorem h37 (X:B64)(k:Nat)(v:Bool):h3m [.n (N X),.n (k:Int),.b v]=some (0,[.n (N (putB X k v))]):=by
 cases v with
 |true=>rw[e4v (by omega) rfl,i4c,q1y,h3r];rfl
 |false=>rw[c4k (by omega) rfl,i4c,q1y];rfl
def mem (X:B64)(n:Nat):List Int:=((List.range n).filter fun i=>X.getLsbD i).map Int.ofNat
theorem h4y (X:B64)(k:Nat):mem X (k+1)=if X.getLsbD k=true then mem X k++[Int.ofNat k]else mem X k:=by
 unfold mem
 rw[List.range_succ,List.filter_append,List.map_append]
 by_cases h:X.getLsbD k=true<;>simp[h]
theorem f4w (X:B64)(n:Nat):(mem X n).length≤n:=by
 unfold mem
 rw[List.length_map]
 exact Nat.le_trans (List.length_filter_le _ _) (Nat.le_of_eq List.length_range)
theorem f4n {X:B64}{n:Nat}{x:Int}:x∈mem X n↔ ∃i,i<n∧X.getLsbD i=true∧x=(i:Int):=by
 unfold mem
 simp only[List.mem_map,List.mem_filter,List.mem_range]
 constructor
 ·rintro⟨i,⟨h1,h2⟩,e⟩;exact⟨i,h1,h2,e.symm⟩
 ·rintro⟨i,h1,h2,e⟩;exact⟨i,⟨h1,h2⟩,e.symm⟩
theorem h31 (X:B64){n:Nat}(hn:n≤64):q3n [.n (N X),.n (n:Int)]=some (0,[.l TI (mem X n)]):=by
 refine b4o ?_
 rw[t3l]
 refine b0a (st:=j3b) (fun i=>[.k 0,.n (N X),.n (n:Int),.n (i:Int),.l TI (mem X i)]) n (0,[.l TI (mem X n)]) (fun i hi=> ?_) ?_ FU (b1w (by omega))
 ·show _=some (Step.go [.k 0,.n (N X),.n (n:Int),.n ((i+1:Nat):Int),.l TI (mem X (i+1))])
  rw[h4y,←w1n i (by omega)]
  have hl:=f4w X i
  cases h:X.getLsbD i with
  |true=>
   rw[if_pos rfl]
   exact s3m (by omega) (by omega) (h38 X (by omega)) h (show(List.length (α:=Int) (mem X i)+1)*8≤140737488355328 by omega)
  |false=>
   rw[if_neg (by simp)]
   exact r3z (by omega) (by omega) (h38 X (by omega)) h
 ·exact u3i (by omega) (by omega)
abbrev Qr:=Ty.den TQr
def qrow (b c:LP)(r:LR)(i:Nat):Qr:=(ptS c (eN (rN r i)),p0 (rN r i),trk (rN r i),ndsE (rN r i),mem (fC b r i) r.length)
def h3d (b c:LP)(r:LR)(k:Nat):List Qr:=(List.range k).map (qrow b c r)
theorem h3j (b c:LP)(r:LR)(k:Nat):(h3d b c r k).length=k:=by unfold h3d;rw[List.length_map,List.length_range]
theorem z3c (b c:LP)(r:LR)(k:Nat):h3d b c r (k+1)=apL (h3d b c r k) [qrow b c r k]:=by unfold h3d;rw[List.range_succ,List.map_append];rfl
theorem h3k (b c:LP)(r:LR){k i:Nat}(h:i<k):(h3d b c r k).getD i (Ty.dflt TQr)=qrow b c r i:=by
 unfold h3d
 rw[List.getD_eq_getElem?_getD,List.getElem?_map,List.getElem?_range h];rfl
def lie (b:LP)(k:Nat):List Int:=(List.range k).map fun i=>gP (b.getD i (Ty.dflt TPt))
theorem i3x (b:LP)(k:Nat):(lie b k).length=k:=by unfold lie;rw[List.length_map,List.length_range]
theorem h4p (b:LP)(k:Nat):lie b (k+1)=lie b k++[gP (b.getD k (Ty.dflt TPt))]:=by unfold lie;rw[List.range_succ,List.map_append];rfl
theorem e4l (b:LP){k i:Nat}(h:i<k):(lie b k).getD i 0=ptS b (i:Int):=by
 unfold lie ptS
 rw[List.getD_eq_getElem?_getD,List.getElem?_map,List.getElem?_range h,Int.toNat_natCast];rfl
theorem l11_6 (a:LS)(b c:LP)(r:LR)(T:List Int)(hb:b.length≤32):
  n3n [.k 0,.l TPt b,.n (b.length:Int),.n 0,.l TS a,.l TPt b,.l TPt c,.l TRt r,.l TU T,.l TI []]=some (0,[.l TS a,.l TPt b,.l TPt c,.l TRt r,.l TU T,.l TI (lie b b.length)]):=by
 rw[u3b]
 refine b0a (st:=j3t) (fun i=>[.k 0,.l TPt b,.n (b.length:Int),.n (i:Int),.l TS a,.l TPt b,.l TPt c,.l TRt r,.l TU T,.l TI (lie b i)]) b.length (0,[.l TS a,.l TPt b,.l TPt c,.l TRt r,.l TU T,.l TI (lie b b.length)]) (fun i hi=> ?_) ?_ FU (b1w (by omega))
 ·show _=some (Step.go [.k 0,.l TPt b,.n (b.length:Int),.n ((i+1:Nat):Int),.l TS a,.l TPt b,.l TPt c,.l TRt r,.l TU T,.l TI (lie b (i+1))])
  rw[h4p,←w1n i (by omega)]
  have hl:=i3x b i
  exact t3u (by omega) rfl (by omega) (show(List.length (α:=Int) (lie b i)+1)*8≤140737488355328 by omega)
 ·exact v3n (by omega) rfl (by omega)
theorem l11_11 (a:LS)(b c:LP)(r:LR)(L:List Int)(w:WF a b c r):
  m3l [.k 0,.l TRt r,.n (r.length:Int),.n 0,.l TS a,.l TPt b,.l TPt c,.l TRt r,.l TU (NL (tabB b r)),.l TI L,.l TQr []]=some (0,[.l TI L,.l TQr (h3d b c r r.length)]):=by
 have lr:=w.lr
 rw[p3u]
 refine b0a (st:=i3s) (fun i=>[.k 0,.l TRt r,.n (r.length:Int),.n (i:Int),.l TS a,.l TPt b,.l TPt c,.l TRt r,.l TU (NL (tabB b r)),.l TI L,.l TQr (h3d b c r i)]) r.length (0,[.l TI L,.l TQr (h3d b c r r.length)]) (fun i hi=> ?_) ?_ FU (b1w (by omega))
 ·show _=some (Step.go [.k 0,.l TRt r,.n (r.length:Int),.n ((i+1:Nat):Int),.l TS a,.l TPt b,.l TPt c,.l TRt r,.l TU (NL (tabB b r)),.l TI L,.l TQr (h3d b c r (i+1))])
  rw[z3c,←w1n i (by omega)]
  have hl:=h3j b c r i
  obtain⟨⟨⟨k1,k2⟩,⟨l1,l2,l3,l4⟩,k3,k4⟩,-⟩:=w.all i hi
  have hp:=(w3v w hi).1
  have ht:=a4w b r
  have e6:q3n [.n (List.getD (NL (tabB b r)) (Int.toNat (i:Int)) (0:Int)),.n (r.length:Int)]=some (0,[.l TI (mem (fC b r i) r.length)]):=by
   rw[Int.toNat_natCast,NL_at];exact h31 _ w.lr
  exact p3l (by omega) rfl (by omega) (h1s k1 k2) (h1s (by omega) (Int.ofNat_lt.2 hp)) (o9 _ _ _ _ _ _ l1 l2 l3 l4) (o10 _ _ _ _ _ _ l1 l2 l3 l4) (h1s (by omega) (Int.ofNat_lt.2 (Nat.lt_of_lt_of_eq hi ht.symm))) e6 (by omega)
 ·exact p3d (by omega) rfl (by omega)
def newA (a:LS)(b c:LP)(r:LR):Nat×List Dat:=if(ckA a b c r).1=0 then(0,[.n 0,.l TI (lie b b.length),.l TQr (h3d b c r r.length)])else(1,[.n (ckA a b c r).1])
theorem o11i (a:LS)(b c:LP)(r:LR)(hs:okS a b c r):p3o [.l TS a,.l TPt b,.l TPt c,.l TRt r]=some (newA a b c r):=by
 have e:=o17c a b c r hs
 unfold newA
 by_cases h:(ckA a b c r).1=0
 ·rw[if_pos h]at e⊢
  have w:=wf_of h
  exact b4q e rfl (l11_6 a b c r _ w.lb) (l11_11 a b c r _ w)
 ·rw[if_neg h]at e⊢
  exact a4j e h
theorem k3r {α:Type}{st:List Dat→Tree Step}{lop:OpA}{fop:Option (Nat×List Dat)}(l:List α)(d:α)(p:α→Bool)(s:Nat→List Dat)(E:List Dat)(hl:l.length≤100000)(heq:lop (s 0)=a0b st FU (s 0))
  (go: ∀i,i<l.length→p (l.getD i d)=false→(st (s i)).sel=some (.go (s (i+1)))) (hit: ∀i,i<l.length→p (l.getD i d)=true→(st (s i)).sel=some (.stop 1 (.n (i:Int)::E))) (stop:(st (s l.length)).sel=some (.stop 0 E))
  (no:lop (s 0)=some (0,E)→fop=some (0,.n (-1)::E)) (yes: ∀k:Nat,lop (s 0)=some (1,.n (k:Int)::E)→fop=some (0,.n (k:Int)::E)): ∃z:Int,fop=some (0,.n z::E)∧decide (z≥0)=l.any p:=by
 have e:=f0f (st:=st) s l.length (fun i=>p (l.getD i d)) (fun k=>(1,.n (k:Int)::E)) (0,E) go hit stop FU (by unfold FU;omega)
 rw[←heq]at e
 have ha:=c0g l d p
 cases hf:b0i (fun i=>p (l.getD i d)) l.length with
 |none=>
  rw[hf]at e
  refine⟨-1,no e,?_⟩
  rw[←ha]
  refine(?_:_=false).symm
  rw[List.any_eq_false]
  intro i hi
  rw[List.mem_range'_1]at hi
  rw[b0r hf i (by omega)];simp
 |some k=>
  rw[hf]at e
  obtain⟨g1,g2',_⟩:=b0x hf
  refine⟨(k:Int),yes k e,?_⟩
  rw[←ha,dt (show(k:Int)≥0 by omega)]
  exact(List.any_eq_true.2 ⟨k,List.mem_range'_1.2 (by omega),g2'⟩).symm
structure SQ where
 L:B64
 U:B64
 C:B64
 T:List Int
 P:BitVec 32
theorem h38i (X:B64){x:Int}(h0:0≤x)(h1:x<64):h3e [.n (N X),.n x]=some (0,[.b (X.getLsbD x.toNat)]):=by
 obtain⟨k,rfl⟩: ∃k:Nat,x=k:=⟨x.toNat,by omega⟩
 exact h38 X (by omega)
theorem n3m (P:BitVec 32):IntKind.wrap .u64 (N P)=N (P.setWidth 64):=by
 rw[k2v]
 refine congrArg N (BitVec.eq_of_toNat_eq ?_)
 rw[BitVec.toNat_ofInt,BitVec.toNat_setWidth]
 have:=P.isLt
 unfold N;omega
theorem h38P (P:BitVec 32){x:Int}(h0:0≤x)(h1:x<32):h3e [.n (IntKind.wrap .u64 (N P)),.n x]=some (0,[.b (P.getLsbD x.toNat)]):=by
 rw[n3m,h38i _ h0 (by omega),BitVec.getLsbD_setWidth,dt (show x.toNat<64 by omega),Bool.true_and]
def turn (P:BitVec 32)(d:Ty.den TNd):Bool:= !(P.getLsbD (f1 d).toNat==g2 d)
def clr (O:B64)(x:Int):Bool:= !O.getLsbD x.toNat
def in64 (l:List Int):Prop:=l.length≤100000∧ ∀x∈l,0≤x∧x<64
def in32 (l:LN):Prop:=l.length≤100000∧ ∀d∈l,0≤f1 d∧f1 d<32
theorem m3r {b:Bool}(h:(!b)=true):b=false:=by cases b<;>simp_all
theorem r3l {b:Bool}(h:(!b)=false):b=true:=by cases b<;>simp_all
theorem k77 (l:List Int)(s:SQ)(hp:in64 l): ∃z:Int,p3i [.l TI l,.n (N s.L),.n (N s.U),.n (N s.C),.l TB s.T,.n (N s.P)]=some (0,.n z::[.n (N s.L),.n (N s.U),.n (N s.C),.l TB s.T,.n (N s.P)])∧decide (z≥0)=l.any (fun x=>s.L.getLsbD x.toNat):=by
 refine k3r (st:=j3d) (lop:=l3h) l (0:Int) (fun x=>s.L.getLsbD x.toNat) (fun i=>[.k 0,.l TI l,.n (l.length:Int),.n (i:Int),.n (N s.L),.n (N s.U),.n (N s.C),.l TB s.T,.n (N s.P)]) [.n (N s.L),.n (N s.U),.n (N s.C),.l TB s.T,.n (N s.P)] hp.1 (u3m _) (fun i hi h=> ?_) (fun i hi h=> ?_) (v3i (by omega) rfl (by omega)) (fun e=>c4w e) (fun k e=>e4m e)
 ·show _=some (Step.go [.k 0,.l TI l,.n (l.length:Int),.n ((i+1:Nat):Int),.n (N s.L),.n (N s.U),.n (N s.C),.l TB s.T,.n (N s.P)])
  obtain⟨q1,q2⟩:=hp.2 _ (sAtG l (0:Int) hi)
  rw[←w1n i (by have:=hp.1;omega)]
  exact v3j (by omega) rfl (by omega) (h38i s.L q1 q2) h
 ·obtain⟨q1,q2⟩:=hp.2 _ (sAtG l (0:Int) hi)
  exact u3r (by omega) rfl (by omega) (h38i s.L q1 q2) h
theorem k78 (l:LN)(s:SQ)(hp:in32 l): ∃z:Int,q3s [.l TNd l,.n (N s.L),.n (N s.U),.n (N s.C),.l TB s.T,.n (N s.P)]=some (0,.n z::[.n (N s.L),.n (N s.U),.n (N s.C),.l TB s.T,.n (N s.P)])∧decide (z≥0)=l.any (turn s.P):=by
 refine k3r (st:=j3i) (lop:=k3y) l (Ty.dflt TNd) (turn s.P) (fun i=>[.k 0,.l TNd l,.n (l.length:Int),.n (i:Int),.n (N s.L),.n (N s.U),.n (N s.C),.l TB s.T,.n (N s.P)]) [.n (N s.L),.n (N s.U),.n (N s.C),.l TB s.T,.n (N s.P)] hp.1 (s3q _) (fun i hi h=> ?_) (fun i hi h=> ?_) (v3v (by omega) rfl (by omega)) (fun e=>g4j e) (fun k e=>a4b e)
 ·show _=some (Step.go [.k 0,.l TNd l,.n (l.length:Int),.n ((i+1:Nat):Int),.n (N s.L),.n (N s.U),.n (N s.C),.l TB s.T,.n (N s.P)])
  obtain⟨q1,q2⟩:=hp.2 _ (sAtG l (Ty.dflt TNd) hi)
  rw[←w1n i (by have:=hp.1;omega)]
  exact t3n (by omega) rfl (by omega) (h38P s.P q1 q2) (r3l h)
 ·obtain⟨q1,q2⟩:=hp.2 _ (sAtG l (Ty.dflt TNd) hi)
  exact v3h (by omega) rfl (by omega) (h38P s.P q1 q2) (m3r h)
theorem k113 (l:List Int)(O:B64)(nm rv:Int)(cm:List (Ty.den TCmd))(s:SQ)(A:List Int)(Q:List Qr)(hp:in64 l): ∃z:Int,m3i [.l TI l,.n (N O),.n nm,.n rv,.l TCmd cm,.n (N s.L),.n (N s.U),.n (N s.C),.l TB s.T,.n (N s.P),.l TI A,.l TQr Q]=some (0,.n z::[.n (N O),.n nm,.n rv,.l TCmd cm,.n (N s.L),.n (N s.U),.n (N s.C),.l TB s.T,.n (N s.P),.l TI A,.l TQr Q])∧decide (z≥0)=l.any (fun x=> !clr O x):=by
 refine k3r (st:=i3k) (lop:=k3i) l (0:Int) (fun x=> !clr O x) (fun i=>[.k 0,.l TI l,.n (l.length:Int),.n (i:Int),.n (N O),.n nm,.n rv,.l TCmd cm,.n (N s.L),.n (N s.U),.n (N s.C),.l TB s.T,.n (N s.P),.l TI A,.l TQr Q]) [.n (N O),.n nm,.n rv,.l TCmd cm,.n (N s.L),.n (N s.U),.n (N s.C),.l TB s.T,.n (N s.P),.l TI A,.l TQr Q] hp.1 (r3n _) (fun i hi h=> ?_) (fun i hi h=> ?_) (r3m (by omega) rfl (by omega)) (fun e=>y3y e) (fun k e=>y3g e)
 ·show _=some (Step.go [.k 0,.l TI l,.n (l.length:Int),.n ((i+1:Nat):Int),.n (N O),.n nm,.n rv,.l TCmd cm,.n (N s.L),.n (N s.U),.n (N s.C),.l TB s.T,.n (N s.P),.l TI A,.l TQr Q])
  obtain⟨q1,q2⟩:=hp.2 _ (sAtG l (0:Int) hi)
  rw[←w1n i (by have:=hp.1;omega)]
  exact p3r (by omega) rfl (by omega) (h38i O q1 q2) (r3l h)
 ·obtain⟨q1,q2⟩:=hp.2 _ (sAtG l (0:Int) hi)
  exact q3j (by omega) rfl (by omega) (h38i O q1 q2) (m3r h)
theorem k39 (s:SQ)(l:List Int)(hp:in64 l):i3y [.n (N s.L),.n (N s.U),.n (N s.C),.l TB s.T,.n (N s.P),.l TI l]=some (0,[.b (l.any fun x=>s.L.getLsbD x.toNat)]):=by
 obtain⟨z,e,h⟩:=k77 l s hp
 exact(d4a e).trans (by rw[h])
theorem k40 (s:SQ)(x y:Int)(t cf:List Int)(l:LN)(hp:in32 l):o3y [.n (N s.L),.n (N s.U),.n (N s.C),.l TB s.T,.n (N s.P),.n x,.n y,.l TI t,.l TNd l,.l TI cf]=some (0,[.b (!l.any (turn s.P))]):=by
 obtain⟨z,e,h⟩:=k78 l s hp
 exact(f4a e).trans (by rw[h])
theorem k74 (x y:Int)(t cf:List Int)(l:LN)(O:B64)(nm rv:Int)(cm:List (Ty.den TCmd))(s:SQ)(A:List Int)(Q:List Qr)(hp:in64 t):i3z [.n x,.n y,.l TI t,.l TNd l,.l TI cf,.n (N O),.n nm,.n rv,.l TCmd cm,.n (N s.L),.n (N s.U),.n (N s.C),.l TB s.T,.n (N s.P),.l TI A,.l TQr Q]=some (0,[.b (t.all (clr O)),.n (N O),.n nm,.n rv,.l TCmd cm,.n (N s.L),.n (N s.U),.n (N s.C),.l TB s.T,.n (N s.P),.l TI A,.l TQr Q]):=by
 obtain⟨z,e,h⟩:=k113 t O nm rv cm s A Q hp
 exact(z3h e).trans (by rw[h,List.not_any_eq_all_not];simp only[Bool.not_not])
theorem i4p (X:B64){k:Nat}(hk:k<64):putB (X&&&firB k) k (X.getLsbD k)=X&&&firB (k+1):=by
 apply BitVec.eq_of_getLsbD_eq
 intro j hj
 rw[h3v _ _ _ hj,BitVec.getLsbD_and,BitVec.getLsbD_and,y0i (by omega),y0i (by omega)]
 by_cases e:j=k
 ·subst e;rw[dt rfl,dt (show j<j+1 by omega)];simp
 ·rw[df e,cond_false]
  have:decide (j<k)=decide (j<k+1):=by rw[Bool.eq_iff_iff];simp;omega
  rw[this]
def tmL (X:B64)(T:List Int)(k:Nat):List Int:=(List.range 64).map fun n=>bif decide (n<k)&&X.getLsbD n then imin (T.getD n 0) 20 else 0
theorem i3t (X:B64)(T:List Int)(k:Nat):(tmL X T k).length=64:=by unfold tmL;rw[List.length_map,List.length_range]
theorem m3m (X:B64)(T:List Int)(k:Nat){n:Nat}(h:n<64):(tmL X T k).getD n 0=bif decide (n<k)&&X.getLsbD n then imin (T.getD n 0) 20 else 0:=by
 unfold tmL
 rw[List.getD_eq_getElem?_getD,List.getElem?_map,List.getElem?_range h];rfl
theorem y3q {l l':List Int}(h:l.length=64)(h':l'.length=64)(e: ∀n,n<64→l.getD n 0=l'.getD n 0):l=l':=by
 apply List.ext_getElem (by omega)
 intro n h1 h2
 have:=e n (by omega)
 rwa [j0x _ _ h1,j0x _ _ h2]at this
theorem x3w (l:List Int){i n:Nat}(v:Int)(h:n<l.length):(l.set i v).getD n 0=bif decide (i=n)then v else l.getD n 0:=by
 rw[j0x _ _ (by rw[List.length_set];exact h),List.getElem_set,j0x _ _ h]
 by_cases e:i=n
 ·rw[if_pos e,dt e];rfl
 ·rw[if_neg e,df e];rfl
theorem tmL_t {X:B64}(T:List Int){i:Nat}(hi:i<64)(h:X.getLsbD i=true):(tmL X T i).set i (imin (T.getD i 0) 20)=tmL X T (i+1):=by
 refine y3q (by rw[List.length_set,i3t]) (i3t ..) fun n hn=> ?_
 rw[x3w _ _ (by rw[i3t];exact hn),m3m _ _ _ hn,m3m _ _ _ hn]
 by_cases e:i=n
 ·subst e;rw[dt rfl,dt (show i<i+1 by omega),h];rfl
 ·have:decide (n<i)=decide (n<i+1):=by rw[Bool.eq_iff_iff];simp;omega
  rw[df e,this];rfl
theorem tmL_f {X:B64}(T:List Int){i:Nat}(h:X.getLsbD i=false):tmL X T i=tmL X T (i+1):=by
 refine y3q (i3t ..) (i3t ..) fun n hn=> ?_
 rw[m3m _ _ _ hn,m3m _ _ _ hn]
 by_cases e:i=n
 ·subst e;rw[h];simp
 ·have:decide (n<i)=decide (n<i+1):=by rw[Bool.eq_iff_iff];simp;omega
  rw[this]
theorem tmL_0 (X:B64)(T:List Int):tmL X T 0=List.replicate 64 0:=by
 refine y3q (i3t ..) List.length_replicate fun n hn=> ?_
 rw[m3m _ _ _ hn,j0x (List.replicate 64 (0:Int)) 0 (by rw[List.length_replicate];exact hn),List.getElem_replicate];simp
abbrev j3k (i k:Nat)(s:SQ):SQ:=⟨s.L&&&firB i,(s.L&&&s.U)&&&firB i,(s.L&&&s.C)&&&firB i,tmL (s.L&&&s.C) s.T i,s.P&&&(firB k).setWidth 32⟩
theorem h4o (P:BitVec 32){k:Nat}(hk:k<32):ior IntKind.u32 (N (P&&&(firB k).setWidth 32)) (iand IntKind.u32 (N P) (ishl IntKind.u32 (1:Int) (k:Int)))=N (P&&&(firB (k+1)).setWidth 32):=by
 rw[show(1:Int)=N 1#32 from rfl,n3x,r2g,m3p]
 refine congrArg N (BitVec.eq_of_getLsbD_eq fun j hj=> ?_)
 rw[BitVec.getLsbD_or,BitVec.getLsbD_and,BitVec.getLsbD_and,BitVec.getLsbD_and,BitVec.getLsbD_setWidth,BitVec.getLsbD_setWidth,y0i (by omega),y0i (by omega),BitVec.getLsbD_shiftLeft]
 by_cases e:j=k
 ·subst e;simp[hj]
 ·by_cases q:j<k
  ·rw[dt q,dt (show j<k+1 by omega),dt hj];simp[q]
  ·rw[df q,df (show¬j<k+1 by omega)]
   have:(1#32).getLsbD (j-k)=false:=by
    rw[BitVec.getLsbD_one];simp;omega
   rw[this];simp
abbrev zst:SQ:=⟨0#64,0#64,0#64,List.replicate 64 0,0#32⟩
theorem l14_5 (s z:SQ)(A:List Int)(Q:List Qr)(hQ:Q.length≤64):n3b [.k 0,.n (Q.length:Int),.n 0,.l TI A,.l TQr Q,.n (N s.L),.n (N s.U),.n (N s.C),.l TB s.T,.n (N s.P),.n (N z.L),.n (N z.U),.n (N z.C),.l TB z.T,.n (N z.P),.n (N (s.L&&&firB 0)),.n (N ((s.L&&&s.U)&&&firB 0)),.n (N ((s.L&&&s.C)&&&firB 0)),.l TB (tmL (s.L&&&s.C) s.T 0),.n (N (s.P&&&(firB 0).setWidth 32))]=some (0,[.l TI A,.l TQr Q,.n (N s.L),.n (N s.U),.n (N s.C),.l TB s.T,.n (N s.P),.n (N z.L),.n (N z.U),.n (N z.C),.l TB z.T,.n (N z.P),.n (N (s.L&&&firB Q.length)),.n (N ((s.L&&&s.U)&&&firB Q.length)),.n (N ((s.L&&&s.C)&&&firB Q.length)),.l TB (tmL (s.L&&&s.C) s.T Q.length),.n (N (s.P&&&(firB 0).setWidth 32))]):=by
 rw[s3e]
 refine b0a (st:=i3a) (fun i=>[.k 0,.n (Q.length:Int),.n (i:Int),.l TI A,.l TQr Q,.n (N s.L),.n (N s.U),.n (N s.C),.l TB s.T,.n (N s.P),.n (N z.L),.n (N z.U),.n (N z.C),.l TB z.T,.n (N z.P),.n (N (s.L&&&firB i)),.n (N ((s.L&&&s.U)&&&firB i)),.n (N ((s.L&&&s.C)&&&firB i)),.l TB (tmL (s.L&&&s.C) s.T i),.n (N (s.P&&&(firB 0).setWidth 32))]) Q.length (0,[.l TI A,.l TQr Q,.n (N s.L),.n (N s.U),.n (N s.C),.l TB s.T,.n (N s.P),.n (N z.L),.n (N z.U),.n (N z.C),.l TB z.T,.n (N z.P),.n (N (s.L&&&firB Q.length)),.n (N ((s.L&&&s.U)&&&firB Q.length)),.n (N ((s.L&&&s.C)&&&firB Q.length)),.l TB (tmL (s.L&&&s.C) s.T Q.length),.n (N (s.P&&&(firB 0).setWidth 32))]) (fun i hi=> ?_) ?_ FU (b1w (by omega))
 ·show _=some (Step.go [.k 0,.n (Q.length:Int),.n ((i+1:Nat):Int),.l TI A,.l TQr Q,.n (N s.L),.n (N s.U),.n (N s.C),.l TB s.T,.n (N s.P),.n (N z.L),.n (N z.U),.n (N z.C),.l TB z.T,.n (N z.P),.n (N (s.L&&&firB (i+1))),.n (N ((s.L&&&s.U)&&&firB (i+1))),.n (N ((s.L&&&s.C)&&&firB (i+1))),.l TB (tmL (s.L&&&s.C) s.T (i+1)),.n (N (s.P&&&(firB 0).setWidth 32))])
  rw[←w1n i (by omega)]
  have hi':i<64:=by omega
  have e2:=h37 (s.L&&&firB i) i (s.L.getLsbD i)
  have e4:=h37 ((s.L&&&s.U)&&&firB i) i ((s.L&&&s.U).getLsbD i)
  have e6:=h37 ((s.L&&&s.C)&&&firB i) i ((s.L&&&s.C).getLsbD i)
  rw[i4p _ hi']at e2 e4 e6
  have e3:=h38 (s.L&&&s.U) hi'
  have e5:=h38 (s.L&&&s.C) hi'
  rw[←u1v]at e3 e5
  have e7:=h38 ((s.L&&&s.C)&&&firB (i+1)) hi'
  have hc:((s.L&&&s.C)&&&firB (i+1)).getLsbD i=(s.L&&&s.C).getLsbD i:=by
   rw[BitVec.getLsbD_and,y0i (by omega),dt (show i<i+1 by omega),Bool.and_true]
  cases h:(s.L&&&s.C).getLsbD i with
  |true=>
   have t:=s3b (l2:=A) (l3:=Q) (l7:=s.T) (n8:=N s.P) (n9:=N z.L) (n10:=N z.U) (n11:=N z.C) (l12:=z.T) (n13:=N z.P) (l17:=tmL (s.L&&&s.C) s.T i) (n18:=N (s.P&&&(firB 0).setWidth 32)) (by omega) (show(i:Int)<(Q.length:Int) by omega) (h38 s.L hi') e2 e3 e4 e5 e6 e7 (hc.trans h) (h1s (by omega) (by omega))
   have g:=tmL_t s.T hi' h
   have t2:(i3a _).sel=some (Step.go [.k 0,.n (Q.length:Int),.n (IntKind.wrap .i64 ((i:Int)+1)),.l TI A,.l TQr Q,.n (N s.L),.n (N s.U),.n (N s.C),.l TB s.T,.n (N s.P),.n (N z.L),.n (N z.U),.n (N z.C),.l TB z.T,.n (N z.P),.n (N (s.L&&&firB (i+1))),.n (N ((s.L&&&s.U)&&&firB (i+1))),.n (N ((s.L&&&s.C)&&&firB (i+1))),.l TB ((tmL (s.L&&&s.C) s.T i).set i (imin (s.T.getD i 0) 20)),.n (N (s.P&&&(firB 0).setWidth 32))]):=t
   rw[g]at t2
   exact t2
  |false=>
   have t:=v3q (l2:=A) (l3:=Q) (l7:=s.T) (n8:=N s.P) (n9:=N z.L) (n10:=N z.U) (n11:=N z.C) (l12:=z.T) (n13:=N z.P) (l17:=tmL (s.L&&&s.C) s.T i) (n18:=N (s.P&&&(firB 0).setWidth 32)) (by omega) (show(i:Int)<(Q.length:Int) by omega) (h38 s.L hi') e2 e3 e4 e5 e6 e7 (hc.trans h)
   have t2:(i3a _).sel=some (Step.go [.k 0,.n (Q.length:Int),.n (IntKind.wrap .i64 ((i:Int)+1)),.l TI A,.l TQr Q,.n (N s.L),.n (N s.U),.n (N s.C),.l TB s.T,.n (N s.P),.n (N z.L),.n (N z.U),.n (N z.C),.l TB z.T,.n (N z.P),.n (N (s.L&&&firB (i+1))),.n (N ((s.L&&&s.U)&&&firB (i+1))),.n (N ((s.L&&&s.C)&&&firB (i+1))),.l TB (tmL (s.L&&&s.C) s.T (i+1)),.n (N (s.P&&&(firB 0).setWidth 32))]):=t.trans (by rw[tmL_f s.T h])
   exact t2
 ·exact v3b (by omega) (by omega)
theorem l14_14 (s z t:SQ)(A:List Int)(Q:List Qr)(hA:A.length≤32):m3j [.k 0,.n (A.length:Int),.n 0,.l TI A,.l TQr Q,.n (N s.L),.n (N s.U),.n (N s.C),.l TB s.T,.n (N s.P),.n (N z.L),.n (N z.U),.n (N z.C),.l TB z.T,.n (N z.P),.n (N t.L),.n (N t.U),.n (N t.C),.l TB t.T,.n (N (s.P&&&(firB 0).setWidth 32))]=some (0,[.l TI A,.l TQr Q,.n (N z.L),.n (N z.U),.n (N z.C),.l TB z.T,.n (N z.P),.n (N t.L),.n (N t.U),.n (N t.C),.l TB t.T,.n (N (s.P&&&(firB A.length).setWidth 32))]):=by
 rw[o3w]
 refine b0a (st:=i3v) (fun i=>[.k 0,.n (A.length:Int),.n (i:Int),.l TI A,.l TQr Q,.n (N s.L),.n (N s.U),.n (N s.C),.l TB s.T,.n (N s.P),.n (N z.L),.n (N z.U),.n (N z.C),.l TB z.T,.n (N z.P),.n (N t.L),.n (N t.U),.n (N t.C),.l TB t.T,.n (N (s.P&&&(firB i).setWidth 32))]) A.length (0,[.l TI A,.l TQr Q,.n (N z.L),.n (N z.U),.n (N z.C),.l TB z.T,.n (N z.P),.n (N t.L),.n (N t.U),.n (N t.C),.l TB t.T,.n (N (s.P&&&(firB A.length).setWidth 32))]) (fun i hi=> ?_) ?_ FU (b1w (by omega))
 ·show _=some (Step.go [.k 0,.n (A.length:Int),.n ((i+1:Nat):Int),.l TI A,.l TQr Q,.n (N s.L),.n (N s.U),.n (N s.C),.l TB s.T,.n (N s.P),.n (N z.L),.n (N z.U),.n (N z.C),.l TB z.T,.n (N z.P),.n (N t.L),.n (N t.U),.n (N t.C),.l TB t.T,.n (N (s.P&&&(firB (i+1)).setWidth 32))])
  rw[←w1n i (by omega)]
  rw[←h4o s.P (show i<32 by omega)]
  exact q3r (by omega) (by omega)
 ·exact q3o (by omega) (by omega)
theorem kk14 (s:SQ)(A:List Int)(Q:List Qr)(hA:A.length≤32)(hQ:Q.length≤64):k3k [.n (N s.L),.n (N s.U),.n (N s.C),.l TB s.T,.n (N s.P),.l TI A,.l TQr Q]=some (0,[.n (N (s.L&&&firB Q.length)),.n (N ((s.L&&&s.U)&&&firB Q.length)),.n (N ((s.L&&&s.C)&&&firB Q.length)),.l TB (tmL (s.L&&&s.C) s.T Q.length),.n (N (s.P&&&(firB A.length).setWidth 32)),.l TI A,.l TQr Q]):=by
 have e1:=l14_5 s zst A Q hQ
 rw[tmL_0,show firB 0=0#64 from rfl,BitVec.and_zero,BitVec.and_zero,BitVec.and_zero,show BitVec.setWidth 32 0#64=0#32 from rfl,BitVec.and_zero]at e1
 have e2:=l14_14 s zst (j3k Q.length 0 s) A Q hA
 rw[show firB 0=0#64 from rfl,show BitVec.setWidth 32 0#64=0#32 from rfl,BitVec.and_zero]at e2
 exact f4q e1 e2
theorem z3d (k:IntKind): ∀l l':List Int,eqL (.int k) l l'=true↔l=l'
 |[],[]=>by simp[eqL]
 |[],_::_=>by simp[eqL]
 |_::_,[]=>by simp[eqL]
 |x::l,y::l'=>by
  show(eqD (.int k) x y&&eqL (.int k) l l')=true↔_
  rw[Bool.and_eq_true,z3d k l l',List.cons.injEq]
  show(x==y)=true∧_↔_
  rw[beq_iff_eq]
def eqS (s t:SQ):Bool:=N s.L==N t.L&&(N s.U==N t.U&&(N s.C==N t.C&&(eqL TB s.T t.T&&(N s.P==N t.P&&true))))
theorem g4d (s t:SQ):eqS s t=true↔s=t:=by
 unfold eqS
 simp only[Bool.and_eq_true,beq_iff_eq,N_eq]
 rw[show eqL TB s.T t.T=true↔s.T=t.T from z3d _ _ _]
 cases s;cases t
 simp
def qC (q:Qr):List Int:=q.2.2.2.2
def qN (q:Qr):LN:=q.2.2.2.1
def qT (q:Qr):List Int:=q.2.2.1
def okQ (q:Qr):Prop:=in64 (qC q)∧in32 (qN q)∧in64 (qT q)
def okI (s:SQ)(Q:List Qr)(i:Nat):Bool:=bif s.L.getLsbD i then !((qC (Q.getD i (Ty.dflt TQr))).any fun x=>s.L.getLsbD x.toNat)&& !(qN (Q.getD i (Ty.dflt TQr))).any (turn s.P)else true
theorem l15_4 (s:SQ)(A:List Int)(Q:List Qr)(hQ:Q.length≤64)(hq: ∀i,i<Q.length→okQ (Q.getD i (Ty.dflt TQr))):
  l3i [.k 0,.l TQr Q,.n (Q.length:Int),.n 0,.l TI A,.l TQr Q,.n (N s.L),.n (N s.U),.n (N s.C),.l TB s.T,.n (N s.P)]=some (bif (List.range' 0 Q.length).all (okI s Q)then(0,[.l TI A,.l TQr Q])else(1,[.b false,.l TI A,.l TQr Q])):=by
 rw[s3y]
 refine d0j (st:=h3z) (fun i=>[.k 0,.l TQr Q,.n (Q.length:Int),.n (i:Int),.l TI A,.l TQr Q,.n (N s.L),.n (N s.U),.n (N s.C),.l TB s.T,.n (N s.P)]) Q.length (okI s Q) (0,[.l TI A,.l TQr Q]) (1,[.b false,.l TI A,.l TQr Q]) (fun i hi h=> ?_) (fun i hi h=> ?_) (t3a (by omega) rfl (by omega)) FU (b1w (by omega))
 ·show _=some (Step.go [.k 0,.l TQr Q,.n (Q.length:Int),.n ((i+1:Nat):Int),.l TI A,.l TQr Q,.n (N s.L),.n (N s.U),.n (N s.C),.l TB s.T,.n (N s.P)])
  rw[←w1n i (by omega)]
  obtain⟨h1,h2,h3⟩:=hq i hi
  unfold okI at h
  cases hl:s.L.getLsbD i with
  |false=>exact t3m (by omega) rfl (by omega) (h38 s.L (by omega)) hl
  |true=>
   rw[hl,cond_true,Bool.and_eq_true]at h
   exact u3a (by omega) rfl (by omega) (h38 s.L (by omega)) hl (k39 s _ h1) (m3r h.1) (k40 s _ _ _ _ _ h2) h.2
 ·obtain⟨h1,h2,h3⟩:=hq i hi
  unfold okI at h
  cases hl:s.L.getLsbD i with
  |false=>rw[hl]at h;cases h
  |true=>
   rw[hl,cond_true]at h
   cases ha:(qC (Q.getD i (Ty.dflt TQr))).any fun x=>s.L.getLsbD x.toNat with
   |true=>exact s3s (by omega) rfl (by omega) (h38 s.L (by omega)) hl (k39 s _ h1) ha
   |false=>
    rw[ha]at h
    exact u3u (by omega) rfl (by omega) (h38 s.L (by omega)) hl (k39 s _ h1) ha (k40 s _ _ _ _ _ h2) h
def rgt (s:SQ)(A:List Int)(Q:List Qr):Bool:=eqS s (j3k Q.length A.length s)&&(List.range' 0 Q.length).all (okI s Q)
theorem kk15 (s:SQ)(A:List Int)(Q:List Qr)(hA:A.length≤32)(hQ:Q.length≤64)(hq: ∀i,i<Q.length→okQ (Q.getD i (Ty.dflt TQr))):m3g [.n (N s.L),.n (N s.U),.n (N s.C),.l TB s.T,.n (N s.P),.l TI A,.l TQr Q]=some (0,[.b (rgt s A Q),.l TI A,.l TQr Q]):=by
 have e1:=kk14 s A Q hA hQ
 have e2:=l15_4 s A Q hQ hq
 unfold rgt
 cases h:eqS s (j3k Q.length A.length s)with
 |false=>exact e4i e1 h
 |true=>
  cases h2:(List.range' 0 Q.length).all (okI s Q)with
  |true=>rw[h2]at e2;exact z3v e1 h e2
  |false=>rw[h2]at e2;exact c4m e1 h e2
section
variable {a:LS} {b c:LP} {r:LR} (w:WF a b c r)
include w
theorem in_trk {i:Nat}(hi:i<r.length):in64 (trk (rN r i)):=by
 obtain⟨⟨-,⟨(p1:List.length (eP (rN r i))≤200),(p2:List.length (eQ (rN r i))≤200),(p3:List.length (eO (rN r i))≤200),(p4:List.length (eF (rN r i))≤200)⟩,-,-⟩,-⟩:=w.all i hi
 refine⟨by unfold trk;rw[List.length_append];omega,fun x hx=> ?_⟩
 have:=w.tr i hi x hx
 have:=w.la
 omega
theorem b4h {i:Nat}(hi:i<r.length):in32 (ndsE (rN r i)):=by
 obtain⟨⟨-,⟨(p1:List.length (eP (rN r i))≤200),(p2:List.length (eQ (rN r i))≤200),(p3:List.length (eO (rN r i))≤200),(p4:List.length (eF (rN r i))≤200)⟩,-,-⟩,-⟩:=w.all i hi
 refine⟨by unfold ndsE;rw[show∀x y:LN,List.append x y=x++y from fun _ _=>rfl,List.length_append];omega,fun x hx=> ?_⟩
 have:=w.pt i hi x hx
 have:=w.lb
 omega
theorem okQs {i:Nat}(hi:i<r.length):okQ ((h3d b c r r.length).getD i (Ty.dflt TQr)):=by
 rw[h3k b c r hi]
 refine⟨⟨?_,fun x hx=> ?_⟩,b4h w hi,in_trk w hi⟩
 ·have:=f4w (fC b r i) r.length
  have:=w.lr
  show(mem _ _).length≤_
  omega
 ·obtain⟨k,h1,h2,rfl⟩:=f4n.1 hx
  have:=w.lr
  omega
end
theorem andf (X Y F:B64):X&&&(Y&&&F)=(Y&&&X)&&&F:=by rw[←BitVec.and_assoc,BitVec.and_comm X Y]
theorem mem_any (X:B64)(n:Nat)(f:Int→Bool):(mem X n).any f=(List.range' 0 n).any fun k=>X.getLsbD k&&f (k:Int):=by
 rw[Bool.eq_iff_iff,List.any_eq_true,List.any_eq_true]
 constructor
 ·rintro⟨x,hx,h⟩
  obtain⟨k,h1,h2,rfl⟩:=f4n.1 hx
  exact⟨k,List.mem_range'_1.2 (by omega),by rw[h2,h];rfl⟩
 ·rintro⟨k,h1,h⟩
  rw[List.mem_range'_1]at h1
  rw[Bool.and_eq_true]at h
  exact⟨k,f4n.2 ⟨k,by omega,h.1,rfl⟩,h.2⟩
theorem any_eq {n:Nat}{f g:Nat→Bool}(h: ∀k,k<n→f k=g k):(List.range' 0 n).any f=(List.range' 0 n).any g:=by
 rw[Bool.eq_iff_iff,List.any_eq_true,List.any_eq_true]
 constructor
 ·rintro⟨k,h1,h2⟩;exact⟨k,h1,by rw[←h k (by rw[List.mem_range'_1]at h1;omega)];exact h2⟩
 ·rintro⟨k,h1,h2⟩;exact⟨k,h1,by rw[h k (by rw[List.mem_range'_1]at h1;omega)];exact h2⟩
theorem all_eq {n:Nat}{f g:Nat→Bool}(h: ∀k,k<n→f k=g k):(List.range' 0 n).all f=(List.range' 0 n).all g:=by
 rw[Bool.eq_iff_iff,List.all_eq_true,List.all_eq_true]
 constructor
 ·intro H k h1;rw[←h k (by rw[List.mem_range'_1]at h1;omega)];exact H k h1
 ·intro H k h1;rw[h k (by rw[List.mem_range'_1]at h1;omega)];exact H k h1
def o3g (b:LP)(r:LR)(L:B64)(i:Nat):Bool:=(List.range' 0 r.length).any fun k=>clN b r i k&&L.getLsbD k
def okJ (b:LP)(r:LR)(s:SQ)(i:Nat):Bool:=bif s.L.getLsbD i then !o3g b r s.L i&& !(ndsE (rN r i)).any (turn s.P)else true
section
variable {a:LS} {b c:LP} {r:LR} (w:WF a b c r)
include w
theorem p3b (L:B64){i:Nat}(hi:i<r.length):((mem (fC b r i) r.length).any fun x=>L.getLsbD x.toNat)=o3g b r L i:=by
 rw[mem_any]
 exact any_eq fun k hk=>by rw[p3e w hi hk,Int.toNat_natCast]
theorem okIJ (s:SQ){i:Nat}(hi:i<r.length):okI s (h3d b c r r.length) i=okJ b r s i:=by
 unfold okI okJ
 rw[h3k b c r hi,show qC (qrow b c r i)=mem (fC b r i) r.length from rfl,show qN (qrow b c r i)=ndsE (rN r i)from rfl,p3b w s.L hi]
def rgtJ (b:LP)(r:LR)(s:SQ):Bool:=eqS s (j3k r.length b.length s)&&(List.range' 0 r.length).all (okJ b r s)
theorem n14 (s:SQ):k3k [.n (N s.L),.n (N s.U),.n (N s.C),.l TB s.T,.n (N s.P),.l TI (lie b b.length),.l TQr (h3d b c r r.length)]=some (0,[.n (N (s.L&&&firB r.length)),.n (N ((s.L&&&s.U)&&&firB r.length)),.n (N ((s.L&&&s.C)&&&firB r.length)),.l TB (tmL (s.L&&&s.C) s.T r.length),.n (N (s.P&&&(firB b.length).setWidth 32)),.l TI (lie b b.length),.l TQr (h3d b c r r.length)]):=by
 have h:=kk14 s (lie b b.length) (h3d b c r r.length) (by rw[i3x];exact w.lb) (by rw[h3j];exact w.lr)
 rw[i3x,h3j]at h
 exact h
theorem n15 (s:SQ):m3g [.n (N s.L),.n (N s.U),.n (N s.C),.l TB s.T,.n (N s.P),.l TI (lie b b.length),.l TQr (h3d b c r r.length)]=some (0,[.b (rgtJ b r s),.l TI (lie b b.length),.l TQr (h3d b c r r.length)]):=by
 have h:=kk15 s (lie b b.length) (h3d b c r r.length) (by rw[i3x];exact w.lb) (by rw[h3j];exact w.lr) (fun i hi=>okQs w (by rwa [h3j]at hi))
 rw[show rgt s (lie b b.length) (h3d b c r r.length)=rgtJ b r s by
  unfold rgt rgtJ
  rw[i3x,h3j,all_eq fun i hi=>okIJ w s hi]]at h
 exact h
end
abbrev P32:=BitVec 32
abbrev LC:=List (Ty.den TCmd)
section
variable (b c:LP) (r:LR) (O:B64) (nm rv:P32)
def h3t (i:Nat):Bool:=(trk (rN r i)).all (clr O)
def s3l (P:P32)(d:Ty.den TNd):P32:=(putB (P.setWidth 64) (f1 d).toNat (g2 d)).setWidth 32
def setP (l:LN)(P:P32):P32:=l.foldl s3l P
def stuck (P:P32)(d:Ty.den TNd):Bool:=turn P d&& !clr O (ptS b (f1 d))
def j3s (s:SQ)(i:Nat):Bool:= !s.L.getLsbD i&&(!o3g b r s.L i&&(h3t r O i&& !(ndsE (rN r i)).any (stuck b O s.P)))
def setI (s:SQ)(i:Nat):SQ:=bif j3s b r O s i then⟨putB s.L i true,s.U,s.C,s.T,setP (ndsE (rN r i)) s.P⟩else s
def setC (s:SQ)(n:Int):SQ:=bif decide (n≥0)&&decide (n<(r.length:Int))then setI b r O s n.toNat else s
def wtgI (s:SQ)(i:Nat):Bool:=((s.L&&& ~~~s.U)&&& ~~~s.C).getLsbD i
def canI (s:SQ)(i:Nat):SQ:=bif wtgI s i then⟨s.L,s.U,putB s.C i true,bif clr O (ptS c (eN (rN r i)))then s.T.set i 0 else(s.T.set i 0).set i 20,s.P⟩else s
def canC (s:SQ)(n:Int):SQ:=bif decide (n≥0)&&decide (n<(r.length:Int))then canI c r O s n.toNat else s
def r3d (L:B64)(n:Int):Bool:=(List.range' 0 r.length).any fun i=>L.getLsbD i&&(ndsE (rN r i)).any fun d=>decide (f1 d=n)
def movC (s:SQ)(n:Int):SQ:=bif decide (n≥0)&&decide (n<(b.length:Int))then(bif clr O (ptS b n)&& !r3d r s.L n then⟨s.L,s.U,s.C,s.T,s.P^^^(1#32<<<n.toNat)⟩else s)else s
def cmdC (s:SQ)(x:Ty.den TCmd):SQ:=bif decide ((Prod.fst x:Int)=1)then setC b r O s (Prod.snd x)else bif decide ((Prod.fst x:Int)=2)then canC c r O s (Prod.snd x)else bif decide ((Prod.fst x:Int)=3)then movC b r O s (Prod.snd x)else s
def h3h (s:SQ)(l:LC):SQ:=l.foldl (cmdC b c r O) s
def relI (s:SQ)(i:Nat):SQ:=bif h3t r O i then⟨putB s.L i false,putB s.U i false,putB s.C i false,s.T.set i 0,s.P⟩else s
def goI (u:B64)(s:SQ)(i:Nat):SQ:=bif !s.L.getLsbD i then s else bif u.getLsbD i then relI r O s i else bif !clr O (p0 (rN r i))then⟨s.L,putB s.U i true,s.C,s.T,s.P⟩else bif !s.C.getLsbD i then s else bif decide ((s.T.getD i 0)>0)then⟨s.L,s.U,s.C,s.T.set i (IntKind.wrap .u8 (s.T.getD i 0-1)),s.P⟩else relI r O s i
def goN (u:B64)(s:SQ):Nat→SQ
 |0=>s
 |k+1=>goI r O u (goN u s k) k
def i3r (d:Ty.den TNd):Bool:=bif g2 d then !(rv&&& ~~~nm).getLsbD (f1 d).toNat else !(nm&&& ~~~rv).getLsbD (f1 d).toNat
def proc (s:SQ)(i:Nat):Bool:=wtgI s i&&(h3t r O i&& !(ndsE (rN r i)).any (i3r nm rv))
def outN (s:SQ):Nat→B64
 |0=>0#64
 |k+1=>putB (outN s k) k (proc r O nm rv s k)
def j3a (cm:LC)(s:SQ):SQ:=goN r O (j3k r.length b.length s).U (h3h b c r O (j3k r.length b.length s) (cm.take 8)) r.length
end
theorem wrap32P (P:P32)(k:Nat)(v:Bool):IntKind.wrap .u32 (N (putB (P.setWidth 64) k v))=N ((putB (P.setWidth 64) k v).setWidth 32):=n3i _
def okPb (b:LP)(l:LN):Prop:=l.length≤100000∧ ∀d∈l,0≤f1 d∧f1 d<(b.length:Int)
theorem k111 (l:LN)(b:LP)(lb:b.length≤32)(la: ∀k,k<b.length→0≤ptS b (k:Int)∧ptS b (k:Int)<64)(O:B64)(nm rv:P32)(cm:LC)(s:SQ)(Q:List Qr)(hp:okPb b l): ∃z:Int,j3o [.l TNd l,.n (N O),.n (N nm),.n (N rv),.l TCmd cm,.n (N s.L),.n (N s.U),.n (N s.C),.l TB s.T,.n (N s.P),.l TI (lie b b.length),.l TQr Q]=some (0,.n z::[.n (N O),.n (N nm),.n (N rv),.l TCmd cm,.n (N s.L),.n (N s.U),.n (N s.C),.l TB s.T,.n (N s.P),.l TI (lie b b.length),.l TQr Q])∧decide (z≥0)=l.any (stuck b O s.P):=by
 refine k3r (st:=h3x) (lop:=j3z) l (Ty.dflt TNd) (stuck b O s.P) (fun i=>[.k 0,.l TNd l,.n (l.length:Int),.n (i:Int),.n (N O),.n (N nm),.n (N rv),.l TCmd cm,.n (N s.L),.n (N s.U),.n (N s.C),.l TB s.T,.n (N s.P),.l TI (lie b b.length),.l TQr Q]) [.n (N O),.n (N nm),.n (N rv),.l TCmd cm,.n (N s.L),.n (N s.U),.n (N s.C),.l TB s.T,.n (N s.P),.l TI (lie b b.length),.l TQr Q] hp.1 (q3x _) (fun i hi h=> ?_) (fun i hi h=> ?_) (p3k (by omega) rfl (by omega)) (fun e=>y3x e) (fun k e=>y3e e)
 ·show _=some (Step.go [.k 0,.l TNd l,.n (l.length:Int),.n ((i+1:Nat):Int),.n (N O),.n (N nm),.n (N rv),.l TCmd cm,.n (N s.L),.n (N s.U),.n (N s.C),.l TB s.T,.n (N s.P),.l TI (lie b b.length),.l TQr Q])
  obtain⟨q1,q2⟩:=hp.2 _ (sAtG l (Ty.dflt TNd) hi)
  rw[←w1n i (by have:=hp.1;omega)]
  unfold stuck at h
  cases ht:turn s.P (l.getD i (Ty.dflt TNd))with
  |false=>exact r3s (by omega) rfl (by omega) (h38P s.P q1 (show f1 (l.getD i (Ty.dflt TNd))<32 by omega)) (r3l ht)
  |true=>
   rw[ht,Bool.true_and]at h
   obtain⟨k,hk⟩: ∃k:Nat,f1 (l.getD i (Ty.dflt TNd))=k:=⟨_,(Int.toNat_of_nonneg q1).symm⟩
   have hk2:k<b.length:=by omega
   obtain⟨g1,g2'⟩:=la k hk2
   have e4:=h38i O g1 g2'
   rw[←hk]at e4
   have e5:List.getD (lie b b.length) (Int.toNat (f1 (l.getD i (Ty.dflt TNd)))) (0:Int)=ptS b (f1 (l.getD i (Ty.dflt TNd))):=by rw[hk,Int.toNat_natCast,e4l b hk2]
   rw[←e5]at e4 h
   exact q3e (by omega) rfl (by omega) (h38P s.P q1 (show f1 (l.getD i (Ty.dflt TNd))<32 by omega)) (m3r ht) (h1s q1 (by rw[show List.length (α:=Ty.den TI) (lie b b.length)=b.length from i3x b b.length];exact q2)) e4 (r3l h)
 ·obtain⟨q1,q2⟩:=hp.2 _ (sAtG l (Ty.dflt TNd) hi)
  unfold stuck at h
  rw[Bool.and_eq_true]at h
  obtain⟨ht,h⟩:=h
  obtain⟨k,hk⟩: ∃k:Nat,f1 (l.getD i (Ty.dflt TNd))=k:=⟨_,(Int.toNat_of_nonneg q1).symm⟩
  have hk2:k<b.length:=by omega
  obtain⟨g1,g2'⟩:=la k hk2
  have e4:=h38i O g1 g2'
  rw[←hk]at e4
  have e5:List.getD (lie b b.length) (Int.toNat (f1 (l.getD i (Ty.dflt TNd)))) (0:Int)=ptS b (f1 (l.getD i (Ty.dflt TNd))):=by rw[hk,Int.toNat_natCast,e4l b hk2]
  rw[←e5]at e4 h
  exact p3q (by omega) rfl (by omega) (h38P s.P q1 (show f1 (l.getD i (Ty.dflt TNd))<32 by omega)) (m3r ht) (h1s q1 (by rw[show List.length (α:=Ty.den TI) (lie b b.length)=b.length from i3x b b.length];exact q2)) e4 (m3r h)
theorem k112 (l:LN)(n:Int)(hp:l.length≤100000): ∃z:Int,k3o [.l TNd l,.n n]=some (0,.n z::[.n n])∧decide (z≥0)=l.any (fun d=>decide (f1 d=n)):=by
 refine k3r (st:=i3i) (lop:=k3d) l (Ty.dflt TNd) (fun d=>decide (f1 d=n)) (fun i=>[.k 0,.l TNd l,.n (l.length:Int),.n (i:Int),.n n]) [.n n] hp (r3j _) (fun i hi h=> ?_) (fun i hi h=> ?_) (q3i (by omega) rfl (by omega)) (fun e=>x3z e) (fun k e=>y3l e)
 ·show _=some (Step.go [.k 0,.l TNd l,.n (l.length:Int),.n ((i+1:Nat):Int),.n n])
  rw[←w1n i (by omega)]
  exact q3m (by omega) rfl (by omega) (of_decide_eq_false h)
 ·exact p3m (by omega) rfl (by omega) (of_decide_eq_true h)
theorem k73 (l:LN)(nm rv:P32)(hp:in32 l): ∃z:Int,o3v [.l TNd l,.n (N (rv&&& ~~~nm)),.n (N (nm&&& ~~~rv))]=some (0,.n z::[.n (N (rv&&& ~~~nm)),.n (N (nm&&& ~~~rv))])∧decide (z≥0)=l.any (i3r nm rv):=by
 refine k3r (st:=h3y) (lop:=l3n) l (Ty.dflt TNd) (i3r nm rv) (fun i=>[.k 0,.l TNd l,.n (l.length:Int),.n (i:Int),.n (N (rv&&& ~~~nm)),.n (N (nm&&& ~~~rv))]) [.n (N (rv&&& ~~~nm)),.n (N (nm&&& ~~~rv))] hp.1 (s3v _) (fun i hi h=> ?_) (fun i hi h=> ?_) (v3p (by omega) rfl (by omega)) (fun e=>f4c e) (fun k e=>e4o e)
 ·show _=some (Step.go [.k 0,.l TNd l,.n (l.length:Int),.n ((i+1:Nat):Int),.n (N (rv&&& ~~~nm)),.n (N (nm&&& ~~~rv))])
  obtain⟨q1,q2⟩:=hp.2 _ (sAtG l (Ty.dflt TNd) hi)
  rw[←w1n i (by have:=hp.1;omega)]
  unfold i3r at h
  cases hg:g2 (l.getD i (Ty.dflt TNd))with
  |true=>rw[hg]at h;exact r3v (by omega) rfl (by omega) hg (h38P _ q1 q2) (r3l h)
  |false=>rw[hg]at h;exact s3x (by omega) rfl (by omega) hg (h38P _ q1 q2) (r3l h)
 ·obtain⟨q1,q2⟩:=hp.2 _ (sAtG l (Ty.dflt TNd) hi)
  unfold i3r at h
  cases hg:g2 (l.getD i (Ty.dflt TNd))with
  |true=>rw[hg]at h;exact s3w (by omega) rfl (by omega) hg (h38P _ q1 q2) (m3r h)
  |false=>rw[hg]at h;exact u3c (by omega) rfl (by omega) hg (h38P _ q1 q2) (m3r h)
theorem v3t (s:SQ):N ((s.L&&& ~~~s.U)&&& ~~~s.C)=b0l IntKind.u64 (b0l IntKind.u64 (N s.L) (N s.U)) (N s.C):=by rw[q1y,q1y]
theorem h4g (P:P32){d:Ty.den TNd}(h0:0≤f1 d):h3m [.n (IntKind.wrap .u64 (N P)),.n (f1 d),.b (g2 d)]=some (0,[.n (N (putB (P.setWidth 64) (f1 d).toNat (g2 d)))]):=by
 obtain⟨k,hk⟩: ∃k:Nat,f1 d=k:=⟨_,(Int.toNat_of_nonneg h0).symm⟩
 rw[n3m,hk,Int.toNat_natCast];exact h37 _ _ _
theorem in_t {n:Int}{m:Nat}(h0:n≥0)(h1:n<(m:Int)):(decide (n≥0)&&decide (n<(m:Int)))=true:=by rw[dt h0,dt h1];rfl
structure WG (a:LS)(b c:LP)(r:LR):Prop where
 w:WF a b c r
 lb: ∀k,k<b.length→0≤ptS b (k:Int)∧ptS b (k:Int)<64
 lc: ∀k,k<c.length→0≤ptS c (k:Int)∧ptS c (k:Int)<64
theorem wg_of {a:LS}{b c:LP}{r:LR}(h:(ckA a b c r).1=0):WG a b c r:=by
 have w:=wf_of h
 obtain⟨hm,hw⟩:=(e4s a b c r).1 h
 have h:=hm
 unfold mayL at h
 rw[Bool.and_eq_true]at h
 have h:=h.2
 simp only[Bool.and_eq_true]at h
 obtain⟨h5,h6,-,-⟩:=h
 have la:=w.la
 have key: ∀l:LP,(List.range' 0 l.length).all (inAt (secs l) (a.length:Int))=true→ ∀k,k<l.length→0≤ptS l (k:Int)∧ptS l (k:Int)<64:=fun l hl k hk=>by
  have q:=o1g (List.all_eq_true.1 hl k (List.mem_range'_1.2 (by omega)))
  rw[f0i l hk]at q
  unfold ptS
  rw[Int.toNat_natCast]
  exact⟨q.1,Int.lt_of_lt_of_le q.2 (Int.ofNat_le.2 la)⟩
 exact⟨w,key b h5,key c h6⟩
section
variable {a:LS} {b c:LP} {r:LR} (g:WG a b c r) (O:B64) (nm rv:P32) (cm:LC)
include g
theorem okb {i:Nat}(hi:i<r.length):okPb b (ndsE (rN r i)):=⟨(b4h g.w hi).1,g.w.pt i hi⟩
theorem p0_in {i:Nat}(hi:i<r.length):0≤p0 (rN r i)∧p0 (rN r i)<64:=by
 have hp:=(w3v g.w hi).1
 have hm:p0 (rN r i)∈trk (rN r i):=by
  unfold p0 trk
  rw[List.getD_eq_getElem?_getD,List.getElem?_eq_getElem hp]
  exact List.mem_append_left _ (List.getElem_mem hp)
 exact(in_trk g.w hi).2 _ hm
theorem ah_in {i:Nat}(hi:i<r.length):0≤ptS c (eN (rN r i))∧ptS c (eN (rN r i))<64:=by
 obtain⟨⟨⟨k1,k2⟩,-,-,-⟩,-⟩:=g.w.all i hi
 obtain⟨k,hk⟩: ∃k:Nat,eN (rN r i)=k:=⟨_,(Int.toNat_of_nonneg k1).symm⟩
 rw[hk]
 refine g.lc k ?_
 have k2:eN (rN r i)<(c.length:Int):=k2
 omega
theorem n39 (s:SQ){i:Nat}(hi:i<r.length):i3y [.n (N s.L),.n (N s.U),.n (N s.C),.l TB s.T,.n (N s.P),.l TI (Prod.snd (Prod.snd (Prod.snd (Prod.snd ((h3d b c r r.length).getD i (Ty.dflt TQr))))))]=some (0,[.b (o3g b r s.L i)]):=by
 have e:=k39 s _ (okQs g.w hi).1
 rw[show(qC ((h3d b c r r.length).getD i (Ty.dflt TQr))).any (fun x=>s.L.getLsbD x.toNat)=o3g b r s.L i by rw[h3k b c r hi];exact p3b g.w s.L hi]at e
 exact e
theorem n74 (s:SQ){i:Nat}(hi:i<r.length):i3z [.n (Prod.fst ((h3d b c r r.length).getD i (Ty.dflt TQr))),.n (Prod.fst (Prod.snd ((h3d b c r r.length).getD i (Ty.dflt TQr)))),.l TI (Prod.fst (Prod.snd (Prod.snd ((h3d b c r r.length).getD i (Ty.dflt TQr))))),.l TNd (Prod.fst (Prod.snd (Prod.snd (Prod.snd ((h3d b c r r.length).getD i (Ty.dflt TQr)))))),.l TI (Prod.snd (Prod.snd (Prod.snd (Prod.snd ((h3d b c r r.length).getD i (Ty.dflt TQr)))))),.n (N O),.n (N nm),.n (N rv),.l TCmd cm,.n (N s.L),.n (N s.U),.n (N s.C),.l TB s.T,.n (N s.P),.l TI (lie b b.length),.l TQr (h3d b c r r.length)]=some (0,[.b (h3t r O i),.n (N O),.n (N nm),.n (N rv),.l TCmd cm,.n (N s.L),.n (N s.U),.n (N s.C),.l TB s.T,.n (N s.P),.l TI (lie b b.length),.l TQr (h3d b c r r.length)]):=by
 have e:=k74 (Prod.fst ((h3d b c r r.length).getD i (Ty.dflt TQr))) (Prod.fst (Prod.snd ((h3d b c r r.length).getD i (Ty.dflt TQr)))) (Prod.fst (Prod.snd (Prod.snd ((h3d b c r r.length).getD i (Ty.dflt TQr))))) (Prod.snd (Prod.snd (Prod.snd (Prod.snd ((h3d b c r r.length).getD i (Ty.dflt TQr)))))) (Prod.fst (Prod.snd (Prod.snd (Prod.snd ((h3d b c r r.length).getD i (Ty.dflt TQr)))))) O (N nm) (N rv) cm s (lie b b.length) (h3d b c r r.length) (okQs g.w hi).2.2
 rw[show((Prod.fst (Prod.snd (Prod.snd ((h3d b c r r.length).getD i (Ty.dflt TQr))))):List Int).all (clr O)=h3t r O i by rw[h3k b c r hi];rfl]at e
 exact e
theorem n111 (s:SQ){i:Nat}(hi:i<r.length): ∃z:Int,j3o [.l TNd (Prod.fst (Prod.snd (Prod.snd (Prod.snd ((h3d b c r r.length).getD i (Ty.dflt TQr)))))),.n (N O),.n (N nm),.n (N rv),.l TCmd cm,.n (N s.L),.n (N s.U),.n (N s.C),.l TB s.T,.n (N s.P),.l TI (lie b b.length),.l TQr (h3d b c r r.length)]=some (0,.n z::[.n (N O),.n (N nm),.n (N rv),.l TCmd cm,.n (N s.L),.n (N s.U),.n (N s.C),.l TB s.T,.n (N s.P),.l TI (lie b b.length),.l TQr (h3d b c r r.length)])∧decide (z≥0)=(ndsE (rN r i)).any (stuck b O s.P):=by
 have hq:qN ((h3d b c r r.length).getD i (Ty.dflt TQr))=ndsE (rN r i):=by rw[h3k b c r hi];rfl
 have e:=k111 (qN ((h3d b c r r.length).getD i (Ty.dflt TQr))) b g.w.lb g.lb O nm rv cm s (h3d b c r r.length) (by rw[hq];exact okb g hi)
 rw[←hq]
 exact e
theorem n67_7 (s:SQ)(l:LN)(hl:okPb b l):o3b [.k 0,.l TNd l,.n (l.length:Int),.n 0,.n (N O),.n (N nm),.n (N rv),.l TCmd cm,.n (N s.L),.n (N s.U),.n (N s.C),.l TB s.T,.n (N s.P),.l TI (lie b b.length),.l TQr (h3d b c r r.length)]=some (0,[.n (N O),.n (N nm),.n (N rv),.l TCmd cm,.n (N s.L),.n (N s.U),.n (N s.C),.l TB s.T,.n (N (setP l s.P)),.l TI (lie b b.length),.l TQr (h3d b c r r.length)]):=by
 have lb:=g.w.lb
 have step: ∀i,i<l.length→setP (l.take (i+1)) s.P=s3l (setP (l.take i) s.P) (l.getD i (Ty.dflt TNd)):=fun i hi=>by
  unfold setP
  rw[h1i l (Ty.dflt TNd) hi,List.foldl_append];rfl
 rw[t3q]
 refine b0a (st:=j3w) (fun i=>[.k 0,.l TNd l,.n (l.length:Int),.n (i:Int),.n (N O),.n (N nm),.n (N rv),.l TCmd cm,.n (N s.L),.n (N s.U),.n (N s.C),.l TB s.T,.n (N (setP (l.take i) s.P)),.l TI (lie b b.length),.l TQr (h3d b c r r.length)]) l.length (0,[.n (N O),.n (N nm),.n (N rv),.l TCmd cm,.n (N s.L),.n (N s.U),.n (N s.C),.l TB s.T,.n (N (setP l s.P)),.l TI (lie b b.length),.l TQr (h3d b c r r.length)]) (fun i hi=> ?_) ?_ FU (b1w (by have:=hl.1;omega))
 ·show _=some (Step.go [.k 0,.l TNd l,.n (l.length:Int),.n ((i+1:Nat):Int),.n (N O),.n (N nm),.n (N rv),.l TCmd cm,.n (N s.L),.n (N s.U),.n (N s.C),.l TB s.T,.n (N (setP (l.take (i+1)) s.P)),.l TI (lie b b.length),.l TQr (h3d b c r r.length)])
  obtain⟨h1,h2⟩:=hl.2 _ (sAtG l (Ty.dflt TNd) hi)
  rw[←w1n i (by have:=hl.1;omega),step i hi]
  unfold s3l
  rw[←wrap32P]
  exact t3o (by omega) rfl (by omega) (h4g (setP (l.take i) s.P) h1)
 ·have h:=v3o (l0:=l) (n1:=(l.length:Int)) (n2:=(l.length:Int)) (n3:=N O) (n4:=N nm) (n5:=N rv) (l6:=cm) (n7:=N s.L) (n8:=N s.U) (n9:=N s.C) (l10:=s.T) (n11:=N (setP (l.take l.length) s.P)) (l12:=(lie b b.length)) (l13:=(h3d b c r r.length)) (by omega) rfl (by omega)
  rw[List.take_length]at h⊢;exact h
theorem n67 (s:SQ)(n:Int):j3n [.n n,.n (N O),.n (N nm),.n (N rv),.l TCmd cm,.n (N s.L),.n (N s.U),.n (N s.C),.l TB s.T,.n (N s.P),.l TI (lie b b.length),.l TQr (h3d b c r r.length)]=some (0,[.n (N O),.n (N nm),.n (N rv),.l TCmd cm,.n (N (setC b r O s n).L),.n (N (setC b r O s n).U),.n (N (setC b r O s n).C),.l TB (setC b r O s n).T,.n (N (setC b r O s n).P),.l TI (lie b b.length),.l TQr (h3d b c r r.length)]):=by
 have lr:=g.w.lr
 have ql:(h3d b c r r.length).length=r.length:=h3j ..
 by_cases h0:n≥0
 ·by_cases h1:n<(r.length:Int)
  ·obtain⟨i,rfl⟩: ∃i:Nat,n=i:=⟨_,(Int.toNat_of_nonneg h0).symm⟩
   have hi:i<r.length:=by omega
   have h1':(i:Int)<((h3d b c r r.length).length:Int):=by rw[ql];exact h1
   have e:setC b r O s (i:Int)=setI b r O s i:=by unfold setC;rw[in_t h0 h1];rfl
   rw[e]
   have e2:=h38 s.L (show i<64 by omega)
   have e4:=n39 g s hi
   have e6:=n74 g O nm rv cm s hi
   obtain⟨z,e8,hz⟩:=n111 g O nm rv cm s hi
   unfold setI j3s
   cases q1:s.L.getLsbD i with
   |true=>exact c4j h0 h1' e2 q1
   |false=>
    cases q2:o3g b r s.L i with
    |true=>exact d4s h0 h1' e2 q1 e4 q2
    |false=>
     cases q3:h3t r O i with
     |false=>exact f4k h0 h1' e2 q1 e4 q2 e6 q3
     |true=>
      cases q4:(ndsE (rN r i)).any (stuck b O s.P)with
      |true=>rw[q4]at hz;exact f4h h0 h1' e2 q1 e4 q2 e6 q3 e8 (of_decide_eq_true hz)
      |false=>
       rw[q4]at hz
       have hq:qN ((h3d b c r r.length).getD i (Ty.dflt TQr))=ndsE (rN r i):=by rw[h3k b c r hi];rfl
       have e11:=n67_7 g O nm rv cm ⟨putB s.L i true,s.U,s.C,s.T,s.P⟩ (qN ((h3d b c r r.length).getD i (Ty.dflt TQr))) (by rw[hq];exact okb g hi)
       have t:=c4z h0 h1' e2 q1 e4 q2 e6 q3 e8 (of_decide_eq_false hz) (h37 s.L i true) e11
       rw[hq]at t
       exact t
  ·have e:setC b r O s n=s:=by unfold setC;rw[df h1,Bool.and_false];rfl
   rw[e]
   exact a4m h0 (by rw[show List.length (α:=Ty.den TQr) (h3d b c r r.length)=r.length from ql];exact h1)
 ·have e:setC b r O s n=s:=by unfold setC;rw[df h0,Bool.false_and];rfl
  rw[e]
  exact c4i h0
theorem n68 (s:SQ)(n:Int):k3t [.n n,.n (N O),.n (N nm),.n (N rv),.l TCmd cm,.n (N s.L),.n (N s.U),.n (N s.C),.l TB s.T,.n (N s.P),.l TI (lie b b.length),.l TQr (h3d b c r r.length)]=some (0,[.n (N O),.n (N nm),.n (N rv),.l TCmd cm,.n (N (canC c r O s n).L),.n (N (canC c r O s n).U),.n (N (canC c r O s n).C),.l TB (canC c r O s n).T,.n (N (canC c r O s n).P),.l TI (lie b b.length),.l TQr (h3d b c r r.length)]):=by
 have lr:=g.w.lr
 have ql:(h3d b c r r.length).length=r.length:=h3j ..
 by_cases h0:n≥0
 ·by_cases h1:n<(r.length:Int)
  ·obtain⟨i,rfl⟩: ∃i:Nat,n=i:=⟨_,(Int.toNat_of_nonneg h0).symm⟩
   have hi:i<r.length:=by omega
   have h1':(i:Int)<((h3d b c r r.length).length:Int):=by rw[ql];exact h1
   have e:canC c r O s (i:Int)=canI c r O s i:=by unfold canC;rw[in_t h0 h1];rfl
   rw[e]
   have e2:=h38 ((s.L&&& ~~~s.U)&&& ~~~s.C) (show i<64 by omega)
   rw[v3t]at e2
   obtain⟨a1,a2⟩:=ah_in g hi
   have e6:=h38i O a1 a2
   rw[show ptS c (eN (rN r i))=(Prod.fst ((h3d b c r r.length).getD i (Ty.dflt TQr))) by rw[h3k b c r hi];rfl]at e6
   have e6':clr O (ptS c (eN (rN r i)))= !O.getLsbD (Int.toNat (Prod.fst ((h3d b c r r.length).getD i (Ty.dflt TQr)))):=by rw[h3k b c r hi];rfl
   unfold canI wtgI
   cases q1:((s.L&&& ~~~s.U)&&& ~~~s.C).getLsbD i with
   |false=>exact c4g h0 h1' e2 q1
   |true=>
    rw[e6']
    cases q2:O.getLsbD (Int.toNat (Prod.fst ((h3d b c r r.length).getD i (Ty.dflt TQr))))with
    |true=>exact c4s h0 h1' e2 q1 (h37 s.C i true) (h1s (by omega) (by omega)) e6 (by rw[q2];rfl)
    |false=>exact e4j h0 h1' e2 q1 (h37 s.C i true) (h1s (by omega) (by omega)) e6 (by rw[q2];rfl)
  ·have e:canC c r O s n=s:=by unfold canC;rw[df h1,Bool.and_false];rfl
   rw[e]
   exact e4f h0 (by rw[show List.length (α:=Ty.den TQr) (h3d b c r r.length)=r.length from ql];exact h1)
 ·have e:canC c r O s n=s:=by unfold canC;rw[df h0,Bool.false_and];rfl
  rw[e]
  exact d4o h0
theorem n69_3 (s:SQ)(n:Int):l3m [.k 0,.l TQr (h3d b c r r.length),.n ((h3d b c r r.length).length:Int),.n 0,.n (N O),.n (N nm),.n (N rv),.l TCmd cm,.n (N s.L),.n (N s.U),.n (N s.C),.l TB s.T,.n (N s.P),.l TI (lie b b.length),.l TQr (h3d b c r r.length),.n n]=some (bif r3d r s.L n then(1,[.n (N O),.n (N nm),.n (N rv),.l TCmd cm,.n (N s.L),.n (N s.U),.n (N s.C),.l TB s.T,.n (N s.P),.l TI (lie b b.length),.l TQr (h3d b c r r.length)])else(0,[.n (N O),.n (N nm),.n (N rv),.l TCmd cm,.n (N s.L),.n (N s.U),.n (N s.C),.l TB s.T,.n (N s.P),.l TI (lie b b.length),.l TQr (h3d b c r r.length),.n n])):=by
 have lr:=g.w.lr
 have ql:(h3d b c r r.length).length=r.length:=h3j ..
 rw[t3e]
 unfold r3d
 refine a0x (st:=i3n) (fun i=>[.k 0,.l TQr (h3d b c r r.length),.n ((h3d b c r r.length).length:Int),.n (i:Int),.n (N O),.n (N nm),.n (N rv),.l TCmd cm,.n (N s.L),.n (N s.U),.n (N s.C),.l TB s.T,.n (N s.P),.l TI (lie b b.length),.l TQr (h3d b c r r.length),.n n]) r.length (fun i=>s.L.getLsbD i&&(ndsE (rN r i)).any fun d=>decide (f1 d=n)) (1,[.n (N O),.n (N nm),.n (N rv),.l TCmd cm,.n (N s.L),.n (N s.U),.n (N s.C),.l TB s.T,.n (N s.P),.l TI (lie b b.length),.l TQr (h3d b c r r.length)]) (0,[.n (N O),.n (N nm),.n (N rv),.l TCmd cm,.n (N s.L),.n (N s.U),.n (N s.C),.l TB s.T,.n (N s.P),.l TI (lie b b.length),.l TQr (h3d b c r r.length),.n n]) (fun i hi h=> ?_) (fun i hi h=> ?_) (t3x (by omega) rfl (by omega)) FU (b1w (by omega))
 ·show _=some (Step.go [.k 0,.l TQr (h3d b c r r.length),.n ((h3d b c r r.length).length:Int),.n ((i+1:Nat):Int),.n (N O),.n (N nm),.n (N rv),.l TCmd cm,.n (N s.L),.n (N s.U),.n (N s.C),.l TB s.T,.n (N s.P),.l TI (lie b b.length),.l TQr (h3d b c r r.length),.n n])
  rw[←w1n i (by omega)]
  have hi':i<r.length:=by omega
  have hq:qN ((h3d b c r r.length).getD i (Ty.dflt TQr))=ndsE (rN r i):=by rw[h3k b c r hi'];rfl
  obtain⟨z,e,hz⟩:=k112 (qN ((h3d b c r r.length).getD i (Ty.dflt TQr))) n (okQs g.w hi').2.1.1
  rw[hq]at hz
  cases q1:s.L.getLsbD i with
  |false=>exact u3z (by omega) rfl (by omega) (h38 s.L (by omega)) q1
  |true=>
   rw[q1,Bool.true_and]at h
   rw[h]at hz
   exact s3c (by omega) rfl (by omega) (h38 s.L (by omega)) q1 e (of_decide_eq_false hz)
 ·have hi':i<r.length:=by omega
  have hq:qN ((h3d b c r r.length).getD i (Ty.dflt TQr))=ndsE (rN r i):=by rw[h3k b c r hi'];rfl
  obtain⟨z,e,hz⟩:=k112 (qN ((h3d b c r r.length).getD i (Ty.dflt TQr))) n (okQs g.w hi').2.1.1
  rw[Bool.and_eq_true]at h
  rw[hq,h.2]at hz
  exact v3u (by omega) rfl (by omega) (h38 s.L (by omega)) h.1 e (of_decide_eq_true hz)
theorem n69 (s:SQ)(n:Int):k3w [.n n,.n (N O),.n (N nm),.n (N rv),.l TCmd cm,.n (N s.L),.n (N s.U),.n (N s.C),.l TB s.T,.n (N s.P),.l TI (lie b b.length),.l TQr (h3d b c r r.length)]=some (0,[.n (N O),.n (N nm),.n (N rv),.l TCmd cm,.n (N (movC b r O s n).L),.n (N (movC b r O s n).U),.n (N (movC b r O s n).C),.l TB (movC b r O s n).T,.n (N (movC b r O s n).P),.l TI (lie b b.length),.l TQr (h3d b c r r.length)]):=by
 have al:(lie b b.length).length=b.length:=i3x ..
 by_cases h0:n≥0
 ·by_cases h1:n<(b.length:Int)
  ·obtain⟨i,rfl⟩: ∃i:Nat,n=i:=⟨_,(Int.toNat_of_nonneg h0).symm⟩
   have hi:i<b.length:=by omega
   have h1': ¬(i:Int)≥((lie b b.length).length:Int):=by rw[al];omega
   have e:movC b r O s (i:Int)=bif clr O (ptS b (i:Int))&& !r3d r s.L (i:Int)then⟨s.L,s.U,s.C,s.T,s.P^^^(1#32<<<i)⟩else s:=by unfold movC;rw[in_t h0 h1];rfl
   rw[e]
   obtain⟨a1,a2⟩:=g.lb i hi
   have e2:=h38i O a1 a2
   have e3:List.getD (lie b b.length) (Int.toNat (i:Int)) (0:Int)=ptS b (i:Int):=by rw[Int.toNat_natCast,e4l b hi]
   have hc:clr O (ptS b (i:Int))= !O.getLsbD (Int.toNat (List.getD (lie b b.length) (Int.toNat (i:Int)) (0:Int))):=by rw[e3];rfl
   rw[←e3]at e2
   have e4:=n69_3 g O nm rv cm s (i:Int)
   rw[hc]
   cases q1:O.getLsbD (Int.toNat (List.getD (lie b b.length) (Int.toNat (i:Int)) (0:Int)))with
   |true=>exact z3m (by omega) h1' e2 (by rw[q1];rfl)
   |false=>
    cases q2:r3d r s.L (i:Int)with
    |true=>rw[q2]at e4;exact z3r (by omega) h1' e2 (by rw[q1];rfl) e4
    |false=>
     rw[q2]at e4
     have t:=e4x (by omega) h1' e2 (by rw[q1];rfl) e4 (by omega)
     rw[show(1:Int)=N 1#32 from rfl,n3x,q2n]at t
     exact t
  ·have e:movC b r O s n=s:=by unfold movC;rw[df h1,Bool.and_false];rfl
   rw[e]
   exact d4m (by omega) (by rw[show List.length (α:=Ty.den TI) (lie b b.length)=b.length from al];omega)
 ·have e:movC b r O s n=s:=by unfold movC;rw[df h0,Bool.false_and];rfl
  rw[e]
  exact z3e (by omega)
end
section
variable {a:LS} {b c:LP} {r:LR} (g:WG a b c r) (O:B64) (nm rv:P32) (cm:LC)
include g
def okCm (cm:LC):Prop:=cm.length≤9223372036854775807∧ ∀x∈cm,0≤(Prod.fst x:Int)∧(Prod.fst x:Int)<256
theorem n34_2 (s:SQ)(hc:okCm cm):l3k [.k 0,.l TCmd cm,.n (cm.length:Int),.n 0,.n (N O),.n (N nm),.n (N rv),.l TCmd cm,.n (N s.L),.n (N s.U),.n (N s.C),.l TB s.T,.n (N s.P),.l TI (lie b b.length),.l TQr (h3d b c r r.length)]=some (if 8<cm.length then 1 else 0,[.n (N O),.n (N nm),.n (N rv),.l TCmd cm,.n (N (h3h b c r O s (cm.take 8)).L),.n (N (h3h b c r O s (cm.take 8)).U),.n (N (h3h b c r O s (cm.take 8)).C),.l TB (h3h b c r O s (cm.take 8)).T,.n (N (h3h b c r O s (cm.take 8)).P),.l TI (lie b b.length),.l TQr (h3d b c r r.length)]):=by
 have hm:min cm.length 8≤8:=Nat.min_le_right ..
 have ht:cm.take (min cm.length 8)=cm.take 8:=by
  rcases Nat.lt_or_ge cm.length 8 with h|h
  ·rw[Nat.min_eq_left (by omega),List.take_length,List.take_of_length_le (by omega)]
  ·rw[Nat.min_eq_right h]
 rw[t3f]
 refine b0a (st:=h3s) (fun i=>[.k 0,.l TCmd cm,.n (cm.length:Int),.n (i:Int),.n (N O),.n (N nm),.n (N rv),.l TCmd cm,.n (N (h3h b c r O s (cm.take i)).L),.n (N (h3h b c r O s (cm.take i)).U),.n (N (h3h b c r O s (cm.take i)).C),.l TB (h3h b c r O s (cm.take i)).T,.n (N (h3h b c r O s (cm.take i)).P),.l TI (lie b b.length),.l TQr (h3d b c r r.length)]) (min cm.length 8) (if 8<cm.length then 1 else 0,[.n (N O),.n (N nm),.n (N rv),.l TCmd cm,.n (N (h3h b c r O s (cm.take 8)).L),.n (N (h3h b c r O s (cm.take 8)).U),.n (N (h3h b c r O s (cm.take 8)).C),.l TB (h3h b c r O s (cm.take 8)).T,.n (N (h3h b c r O s (cm.take 8)).P),.l TI (lie b b.length),.l TQr (h3d b c r r.length)]) (fun i hi=> ?_) ?_ FU (b1w (by omega))
 ·show _=some (Step.go [.k 0,.l TCmd cm,.n (cm.length:Int),.n ((i+1:Nat):Int),.n (N O),.n (N nm),.n (N rv),.l TCmd cm,.n (N (h3h b c r O s (cm.take (i+1))).L),.n (N (h3h b c r O s (cm.take (i+1))).U),.n (N (h3h b c r O s (cm.take (i+1))).C),.l TB (h3h b c r O s (cm.take (i+1))).T,.n (N (h3h b c r O s (cm.take (i+1))).P),.l TI (lie b b.length),.l TQr (h3d b c r r.length)])
  have hi1:i<cm.length:=by omega
  obtain⟨x,hx⟩: ∃x,x=cm.getD i (Ty.dflt TCmd):=⟨_,rfl⟩
  obtain⟨h1,h2⟩:=hc.2 _ (sAtG cm (Ty.dflt TCmd) hi1)
  have step:h3h b c r O s (cm.take (i+1))=cmdC b c r O (h3h b c r O s (cm.take i)) (cm.getD i (Ty.dflt TCmd)):=by
   unfold h3h
   rw[h1i cm (Ty.dflt TCmd) hi1,List.foldl_append];rfl
  have hw:IntKind.wrap .i64 (Prod.fst (cm.getD i (Ty.dflt TCmd)):Int)=(Prod.fst (cm.getD i (Ty.dflt TCmd)):Int):=w64x (by omega) (by omega)
  rw[←w1n i (by omega),step]
  unfold cmdC
  by_cases k1:(Prod.fst (cm.getD i (Ty.dflt TCmd)):Int)=1
  ·rw[dt k1]
   have a0: ¬(Prod.fst (cm.getD i (Ty.dflt TCmd)):Int)=0:=by omega
   have a1:IntKind.wrap .i64 (Prod.fst (cm.getD i (Ty.dflt TCmd)):Int)<4:=by rw[hw];omega
   exact t3i (by omega) rfl (Int.ofNat_lt.2 hi1) (by omega) a0 a1 k1 (n67 g O nm rv cm _ _)
  rw[df k1,cond_false]
  by_cases k2:(Prod.fst (cm.getD i (Ty.dflt TCmd)):Int)=2
  ·rw[dt k2]
   have a0: ¬(Prod.fst (cm.getD i (Ty.dflt TCmd)):Int)=0:=by omega
   have a1:IntKind.wrap .i64 (Prod.fst (cm.getD i (Ty.dflt TCmd)):Int)<4:=by rw[hw];omega
   exact t3g (by omega) rfl (Int.ofNat_lt.2 hi1) (by omega) a0 a1 k1 k2 (n68 g O nm rv cm _ _)
  rw[df k2,cond_false]
  by_cases k3:(Prod.fst (cm.getD i (Ty.dflt TCmd)):Int)=3
  ·rw[dt k3]
   have a0: ¬(Prod.fst (cm.getD i (Ty.dflt TCmd)):Int)=0:=by omega
   have a1:IntKind.wrap .i64 (Prod.fst (cm.getD i (Ty.dflt TCmd)):Int)<4:=by rw[hw];omega
   exact v3d (by omega) rfl (Int.ofNat_lt.2 hi1) (by omega) a0 a1 k1 k2 k3 (n69 g O nm rv cm _ _)
  rw[df k3,cond_false]
  by_cases k0:(Prod.fst (cm.getD i (Ty.dflt TCmd)):Int)=0
  ·exact r3x (by omega) rfl (Int.ofNat_lt.2 hi1) (by omega) k0
  ·have a1: ¬IntKind.wrap .i64 (Prod.fst (cm.getD i (Ty.dflt TCmd)):Int)<4:=by rw[hw];omega
   exact s3i (by omega) rfl (Int.ofNat_lt.2 hi1) (by omega) k0 a1
 ·rw[←ht]
  rcases Nat.lt_or_ge 8 cm.length with h|h
  ·rw[if_pos h]
   exact s3k (by omega) rfl (Int.ofNat_lt.2 (by omega)) (by omega)
  ·rw[if_neg (by omega)]
   have e:min cm.length 8=cm.length:=by omega
   exact u3f (by omega) rfl (by rw[e];exact Int.lt_irrefl _)
theorem n34 (s:SQ)(hc:okCm cm):r3t [.n (N O),.n (N nm),.n (N rv),.l TCmd cm,.n (N s.L),.n (N s.U),.n (N s.C),.l TB s.T,.n (N s.P),.l TI (lie b b.length),.l TQr (h3d b c r r.length)]=some (0,[.n (N O),.n (N nm),.n (N rv),.l TCmd cm,.n (N (h3h b c r O s (cm.take 8)).L),.n (N (h3h b c r O s (cm.take 8)).U),.n (N (h3h b c r O s (cm.take 8)).C),.l TB (h3h b c r O s (cm.take 8)).T,.n (N (h3h b c r O s (cm.take 8)).P),.l TI (lie b b.length),.l TQr (h3d b c r r.length)]):=by
 have e:=n34_2 g O nm rv cm s hc
 by_cases h:8<cm.length
 ·rw[if_pos h]at e;exact c4u e
 ·rw[if_neg h]at e;exact z3k e
theorem n70 (s:SQ){i:Nat}(hi:i<r.length):m3s [.n (i:Int),.n (N O),.n (N nm),.n (N rv),.l TCmd cm,.n (N s.L),.n (N s.U),.n (N s.C),.l TB s.T,.n (N s.P),.l TI (lie b b.length),.l TQr (h3d b c r r.length)]=some (0,[.n (N O),.n (N nm),.n (N rv),.l TCmd cm,.n (N (relI r O s i).L),.n (N (relI r O s i).U),.n (N (relI r O s i).C),.l TB (relI r O s i).T,.n (N (relI r O s i).P),.l TI (lie b b.length),.l TQr (h3d b c r r.length)]):=by
 have lr:=g.w.lr
 have ql:(h3d b c r r.length).length=r.length:=h3j ..
 have e1:=n74 g O nm rv cm s hi
 have hr:inR (i:Int) (List.length (α:=Ty.den TQr) (h3d b c r r.length))=true:=h1s (by omega) (by rw[show List.length (α:=Ty.den TQr) (h3d b c r r.length)=r.length from ql];omega)
 unfold relI
 cases q:h3t r O i with
 |false=>exact z3g hr e1 q
 |true=>exact z3p hr e1 q (h37 s.L i false) (h37 s.U i false) (h37 s.C i false) (h1s (by omega) (by omega))
theorem n35 (u:B64)(s:SQ){i:Nat}(hi:i<r.length):j3x [.n (i:Int),.n (N u),.n (N O),.n (N nm),.n (N rv),.l TCmd cm,.n (N s.L),.n (N s.U),.n (N s.C),.l TB s.T,.n (N s.P),.l TI (lie b b.length),.l TQr (h3d b c r r.length)]=some (0,[.n (N O),.n (N nm),.n (N rv),.l TCmd cm,.n (N (goI r O u s i).L),.n (N (goI r O u s i).U),.n (N (goI r O u s i).C),.l TB (goI r O u s i).T,.n (N (goI r O u s i).P),.l TI (lie b b.length),.l TQr (h3d b c r r.length)]):=by
 have lr:=g.w.lr
 have ql:(h3d b c r r.length).length=r.length:=h3j ..
 have hr:inR (i:Int) (List.length (α:=Ty.den TQr) (h3d b c r r.length))=true:=h1s (by omega) (by rw[show List.length (α:=Ty.den TQr) (h3d b c r r.length)=r.length from ql];omega)
 have e1:=h38 s.L (show i<64 by omega)
 have e3:=h38 u (show i<64 by omega)
 obtain⟨a1,a2⟩:=p0_in g hi
 have e5:=h38i O a1 a2
 rw[show p0 (rN r i)=(Prod.fst (Prod.snd ((h3d b c r r.length).getD i (Ty.dflt TQr)))) by rw[h3k b c r hi];rfl]at e5
 have e5':clr O (p0 (rN r i))= !O.getLsbD (Int.toNat (Prod.fst (Prod.snd ((h3d b c r r.length).getD i (Ty.dflt TQr))))):=by rw[h3k b c r hi];rfl
 have e7:=h38 s.C (show i<64 by omega)
 unfold goI
 cases q1:s.L.getLsbD i with
 |false=>exact z3w hr e1 q1
 |true=>
  cases q2:u.getLsbD i with
  |true=>exact a4v hr e1 q1 e3 q2 (n70 g O nm rv cm s hi)
  |false=>
   rw[e5']
   cases q3:O.getLsbD (Int.toNat (Prod.fst (Prod.snd ((h3d b c r r.length).getD i (Ty.dflt TQr)))))with
   |true=>exact e4n hr e1 q1 e3 q2 e5 (by rw[q3];rfl) (h37 s.U i true)
   |false=>
    cases q4:s.C.getLsbD i with
    |false=>exact d4t hr e1 q1 e3 q2 e5 (by rw[q3];rfl) e7 q4
    |true=>
     by_cases q5:s.T.getD i 0>0
     ·simp only[Bool.not_true,Bool.not_false,cond_true,cond_false,dt q5]
      exact f4u hr e1 q1 e3 q2 e5 (by rw[q3];rfl) e7 q4 (h1s (by omega) (by omega)) q5
     ·simp only[Bool.not_true,Bool.not_false,cond_true,cond_false,df q5]
      exact b4t hr e1 q1 e3 q2 e5 (by rw[q3];rfl) e7 q4 (h1s (by omega) (by omega)) q5 (n70 g O nm rv cm s hi)
theorem n13_7 (u:B64)(s:SQ):n3g [.k 0,.n (N u),.n ((h3d b c r r.length).length:Int),.n 0,.l TI (lie b b.length),.l TQr (h3d b c r r.length),.n 0,.n 0,.n 0,.l TB (List.replicate 64 (0:Int)),.n 0,.n 0,.n 0,.n (N O),.n (N nm),.n (N rv),.l TCmd cm,.n (N s.L),.n (N s.U),.n (N s.C),.l TB s.T,.n (N s.P)]=some (0,[.l TI (lie b b.length),.l TQr (h3d b c r r.length),.n 0,.n 0,.n 0,.l TB (List.replicate 64 (0:Int)),.n 0,.n 0,.n 0,.n (N O),.n (N nm),.n (N rv),.l TCmd cm,.n (N (goN r O u s r.length).L),.n (N (goN r O u s r.length).U),.n (N (goN r O u s r.length).C),.l TB (goN r O u s r.length).T,.n (N (goN r O u s r.length).P)]):=by
 have lr:=g.w.lr
 have ql:(h3d b c r r.length).length=r.length:=h3j ..
 rw[t3y]
 refine b0a (st:=j3r) (fun i=>[.k 0,.n (N u),.n ((h3d b c r r.length).length:Int),.n (i:Int),.l TI (lie b b.length),.l TQr (h3d b c r r.length),.n 0,.n 0,.n 0,.l TB (List.replicate 64 (0:Int)),.n 0,.n 0,.n 0,.n (N O),.n (N nm),.n (N rv),.l TCmd cm,.n (N (goN r O u s i).L),.n (N (goN r O u s i).U),.n (N (goN r O u s i).C),.l TB (goN r O u s i).T,.n (N (goN r O u s i).P)]) r.length (0,[.l TI (lie b b.length),.l TQr (h3d b c r r.length),.n 0,.n 0,.n 0,.l TB (List.replicate 64 (0:Int)),.n 0,.n 0,.n 0,.n (N O),.n (N nm),.n (N rv),.l TCmd cm,.n (N (goN r O u s r.length).L),.n (N (goN r O u s r.length).U),.n (N (goN r O u s r.length).C),.l TB (goN r O u s r.length).T,.n (N (goN r O u s r.length).P)]) (fun i hi=> ?_) (u3j (by omega) (by omega)) FU (b1w (by omega))
 show _=some (Step.go [.k 0,.n (N u),.n ((h3d b c r r.length).length:Int),.n ((i+1:Nat):Int),.l TI (lie b b.length),.l TQr (h3d b c r r.length),.n 0,.n 0,.n 0,.l TB (List.replicate 64 (0:Int)),.n 0,.n 0,.n 0,.n (N O),.n (N nm),.n (N rv),.l TCmd cm,.n (N (goI r O u (goN r O u s i) i).L),.n (N (goI r O u (goN r O u s i) i).U),.n (N (goI r O u (goN r O u s i) i).C),.l TB (goI r O u (goN r O u s i) i).T,.n (N (goI r O u (goN r O u s i) i).P)])
 rw[←w1n i (by omega)]
 exact s3z (by omega) (by omega) (n35 g O nm rv cm u (goN r O u s i) hi)
theorem n36_5 (s:SQ):o3c [.k 0,.l TQr (h3d b c r r.length),.n ((h3d b c r r.length).length:Int),.n 0,.n (N O),.n (N nm),.n (N rv),.l TCmd cm,.n (N s.L),.n (N s.U),.n (N s.C),.l TB s.T,.n (N s.P),.l TI (lie b b.length),.l TQr (h3d b c r r.length),.n 0,.n 0,.n 0,.n (N s.P),.n (N (rv&&& ~~~nm)),.n (N (nm&&& ~~~rv))]=some (0,[.n (N O),.n (N nm),.n (N rv),.l TCmd cm,.n (N s.L),.n (N s.U),.n (N s.C),.l TB s.T,.n (N s.P),.l TI (lie b b.length),.l TQr (h3d b c r r.length),.n 0,.n 0,.n (N (outN r O nm rv s r.length)),.n (N s.P)]):=by
 have lr:=g.w.lr
 have ql:(h3d b c r r.length).length=r.length:=h3j ..
 rw[t3v]
 refine b0a (st:=i3m) (fun i=>[.k 0,.l TQr (h3d b c r r.length),.n ((h3d b c r r.length).length:Int),.n (i:Int),.n (N O),.n (N nm),.n (N rv),.l TCmd cm,.n (N s.L),.n (N s.U),.n (N s.C),.l TB s.T,.n (N s.P),.l TI (lie b b.length),.l TQr (h3d b c r r.length),.n 0,.n 0,.n (N (outN r O nm rv s i)),.n (N s.P),.n (N (rv&&& ~~~nm)),.n (N (nm&&& ~~~rv))]) r.length (0,[.n (N O),.n (N nm),.n (N rv),.l TCmd cm,.n (N s.L),.n (N s.U),.n (N s.C),.l TB s.T,.n (N s.P),.l TI (lie b b.length),.l TQr (h3d b c r r.length),.n 0,.n 0,.n (N (outN r O nm rv s r.length)),.n (N s.P)]) (fun i hi=> ?_) (v3g (by omega) rfl (by omega)) FU (b1w (by omega))
 show _=some (Step.go [.k 0,.l TQr (h3d b c r r.length),.n ((h3d b c r r.length).length:Int),.n ((i+1:Nat):Int),.n (N O),.n (N nm),.n (N rv),.l TCmd cm,.n (N s.L),.n (N s.U),.n (N s.C),.l TB s.T,.n (N s.P),.l TI (lie b b.length),.l TQr (h3d b c r r.length),.n 0,.n 0,.n (N (putB (outN r O nm rv s i) i (proc r O nm rv s i))),.n (N s.P),.n (N (rv&&& ~~~nm)),.n (N (nm&&& ~~~rv))])
 rw[←w1n i (by omega)]
 have e1:=h38 ((s.L&&& ~~~s.U)&&& ~~~s.C) (show i<64 by omega)
 rw[v3t]at e1
 have e3:=n74 g O nm rv cm s hi
 have hq:qN ((h3d b c r r.length).getD i (Ty.dflt TQr))=ndsE (rN r i):=by rw[h3k b c r hi];rfl
 obtain⟨z,e5,hz⟩:=k73 (qN ((h3d b c r r.length).getD i (Ty.dflt TQr))) nm rv (okQs g.w hi).2.1
 rw[hq]at hz
 unfold proc wtgI
 cases q1:((s.L&&& ~~~s.U)&&& ~~~s.C).getLsbD i with
 |false=>exact s3n (by omega) rfl (by omega) e1 q1 (h37 _ i false)
 |true=>
  cases q2:h3t r O i with
  |false=>exact u3o (by omega) rfl (by omega) e1 q1 e3 q2 (h37 _ i false)
  |true=>
   rw[←hz]
   exact s3u (by omega) rfl (by omega) e1 q1 e3 q2 e5 (h37 _ i (!decide (z≥0)))
theorem n36 (s:SQ):x3p [.n (N O),.n (N nm),.n (N rv),.l TCmd cm,.n (N s.L),.n (N s.U),.n (N s.C),.l TB s.T,.n (N s.P),.l TI (lie b b.length),.l TQr (h3d b c r r.length)]=some (0,[.n (N (outN r O nm rv s r.length)),.n (N s.P),.n (N O),.n (N nm),.n (N rv),.l TCmd cm,.n (N s.L),.n (N s.U),.n (N s.C),.l TB s.T,.n (N s.P),.l TI (lie b b.length),.l TQr (h3d b c r r.length)]):=by
 have e:=n36_5 g O nm rv cm s
 rw[←s1h,←s1h]at e
 exact b4w e
theorem n13 (s:SQ)(hc:okCm cm):w3r [.n (N s.L),.n (N s.U),.n (N s.C),.l TB s.T,.n (N s.P),.n (N O),.n (N nm),.n (N rv),.l TCmd cm,.l TI (lie b b.length),.l TQr (h3d b c r r.length)]=some (0,[.n (N (j3a b c r O cm s).L),.n (N (j3a b c r O cm s).U),.n (N (j3a b c r O cm s).C),.l TB (j3a b c r O cm s).T,.n (N (j3a b c r O cm s).P),.n (N (outN r O nm rv (j3a b c r O cm s) r.length)),.n (N (j3a b c r O cm s).P),.l TI (lie b b.length),.l TQr (h3d b c r r.length)]):=by
 have e1:=n14 g.w s
 have e2:=n34 g O nm rv cm (j3k r.length b.length s) hc
 have e3:=n13_7 g O nm rv cm (j3k r.length b.length s).U (h3h b c r O (j3k r.length b.length s) (cm.take 8))
 have e4:=n36 g O nm rv cm (j3a b c r O cm s)
 exact f4g e1 e2 e3 e4
end
structure Rgt (b:LP)(r:LR)(s:SQ):Prop where
 L: ∀j,j<64→s.L.getLsbD j=true→j<r.length
 U: ∀j,j<64→s.U.getLsbD j=true→s.L.getLsbD j=true
 C: ∀j,j<64→s.C.getLsbD j=true→s.L.getLsbD j=true
 len:s.T.length=64
 T: ∀n,n<64→s.T.getD n 0≤20∧(s.C.getLsbD n=false→s.T.getD n 0=0)
 P: ∀j,j<32→s.P.getLsbD j=true→j<b.length
 cl: ∀i,i<r.length→s.L.getLsbD i=true→ ∀k,k<r.length→s.L.getLsbD k=true→clN b r i k=false
 nd: ∀i,i<r.length→s.L.getLsbD i=true→ ∀d∈ndsE (rN r i),s.P.getLsbD (f1 d).toNat=g2 d
theorem turn_f {P:P32}{d:Ty.den TNd}:turn P d=false↔P.getLsbD (f1 d).toNat=g2 d:=by
 unfold turn
 cases P.getLsbD (f1 d).toNat<;>cases g2 d<;>simp
theorem i4r {α:Type}{l:List α}{p:α→Bool}:l.any p=false↔ ∀x∈l,p x=false:=by
 rw[List.any_eq_false]
 exact⟨fun h x hx=>by have:=h x hx;simpa using this,fun h x hx=>by rw[h x hx];simp⟩
theorem d4h {b:LP}{r:LR}{L:B64}{i:Nat}:o3g b r L i=false↔ ∀k,k<r.length→L.getLsbD k=true→clN b r i k=false:=by
 unfold o3g
 rw[i4r]
 constructor
 ·intro h k hk hl
  have:=h k (List.mem_range'_1.2 (by omega))
  rw[hl,Bool.and_true]at this
  exact this
 ·intro h k hk
  rw[List.mem_range'_1]at hk
  cases hl:L.getLsbD k with
  |false=>rw[Bool.and_false]
  |true=>rw[h k (by omega) hl];rfl
theorem i4m {b:LP}{r:LR}{s:SQ}{i:Nat}:okJ b r s i=true↔(s.L.getLsbD i=true→(∀k,k<r.length→s.L.getLsbD k=true→clN b r i k=false)∧ ∀d∈ndsE (rN r i),s.P.getLsbD (f1 d).toNat=g2 d):=by
 unfold okJ
 cases h:s.L.getLsbD i with
 |false=>simp
 |true=>
  rw[cond_true,Bool.and_eq_true,Bool.not_eq_true',Bool.not_eq_true',d4h,i4r]
  constructor
  ·rintro⟨h1,h2⟩ -
   exact⟨h1,fun d hd=>turn_f.1 (h2 d hd)⟩
  ·intro q
   exact⟨(q rfl).1,fun d hd=>turn_f.2 ((q rfl).2 d hd)⟩
theorem all_t {n:Nat}{f:Nat→Bool}:(List.range' 0 n).all f=true↔ ∀i,i<n→f i=true:=by
 rw[List.all_eq_true]
 exact⟨fun h i hi=>h i (List.mem_range'_1.2 (by omega)),fun h i hi=>h i (by rw[List.mem_range'_1]at hi;omega)⟩
theorem q3h (P:P32){d:Ty.den TNd}(h0:0≤f1 d){j:Nat}(hj:j<32):(s3l P d).getLsbD j=bif decide (j=(f1 d).toNat)then g2 d else P.getLsbD j:=by
 unfold s3l
 rw[BitVec.getLsbD_setWidth,dt hj,Bool.true_and,h3v _ _ _ (by omega),BitVec.getLsbD_setWidth,dt (show j<64 by omega),Bool.true_and]
theorem x3b (l:LN): ∀(P:P32) {j:Nat},j<32→(∀d∈l,0≤f1 d)→(∀d∈l,(f1 d).toNat≠j)→(setP l P).getLsbD j=P.getLsbD j:=by
 induction l with
 |nil=>intro P j _ _ _;rfl
 |cons d l ih=>
  intro P j hj h0 h
  show(setP l (s3l P d)).getLsbD j=_
  rw[ih _ hj (fun e he=>h0 e (List.mem_cons_of_mem _ he)) (fun e he=>h e (List.mem_cons_of_mem _ he)),q3h P (h0 d List.mem_cons_self) hj,df (fun e=>h d List.mem_cons_self e.symm)];rfl
theorem setP_in (l:LN): ∀(P:P32),(∀d∈l,0≤f1 d∧f1 d<32)→(nd l).Nodup→ ∀d∈l,(setP l P).getLsbD (f1 d).toNat=g2 d:=by
 induction l with
 |nil=>intro P _ _ d hd;cases hd
 |cons e l ih=>
  intro P h0 hn d hd
  have hn':f1 e∉nd l∧(nd l).Nodup:=List.nodup_cons.1 hn
  show(setP l (s3l P e)).getLsbD _=_
  rcases List.mem_cons.1 hd with rfl|hd
  ·obtain⟨q1,q2⟩:=h0 d List.mem_cons_self
   rw[x3b l _ (by omega) (fun x hx=>(h0 x (List.mem_cons_of_mem _ hx)).1) (fun x hx q=>hn'.1 ?_),q3h P q1 (by omega),dt rfl];rfl
   have:=(h0 x (List.mem_cons_of_mem _ hx)).1
   rw[show f1 d=f1 x by omega]
   exact List.mem_map_of_mem hx
  ·exact ih _ (fun x hx=>h0 x (List.mem_cons_of_mem _ hx)) hn'.2 d hd
section
variable {a:LS} {b c:LP} {r:LR} (g:WG a b c r) (O:B64)
include g
theorem nds32 {i:Nat}(hi:i<r.length): ∀d∈ndsE (rN r i),0≤f1 d∧f1 d<32:=(b4h g.w hi).2
end
theorem h3f {α:Type}{p:α→Prop}{v:Bool}{x y:α}(h1:v=true→p x)(h2:v=false→p y):p (bif v then x else y):=by
 cases v with
 |true=>exact h1 rfl
 |false=>exact h2 rfl
theorem putB_t {X:B64}{i j:Nat}(hj:j<64)(h:(putB X i true).getLsbD j=true):j=i∨X.getLsbD j=true:=by
 rw[h3v _ _ _ hj]at h
 by_cases e:j=i
 ·exact .inl e
 ·rw[df e]at h;exact .inr h
theorem putB_o {X:B64}{i j:Nat}{v:Bool}(hj:j<64)(e:j≠i):(putB X i v).getLsbD j=X.getLsbD j:=by
 rw[h3v _ _ _ hj,df e];rfl
theorem putB_i {X:B64}{i:Nat}{v:Bool}(hj:i<64):(putB X i v).getLsbD i=v:=by
 rw[h3v _ _ _ hj,dt rfl];rfl
theorem set_len (l:List Int)(i:Nat)(v:Int):(l.set i v).length=l.length:=List.length_set ..
section
variable {a:LS} {b c:LP} {r:LR} (g:WG a b c r) (O:B64) {s:SQ} (h:Rgt b r s)
include g h
end
end Go.Proofs.YtcbhgaeiokfcdaaGreat.Vx
end
