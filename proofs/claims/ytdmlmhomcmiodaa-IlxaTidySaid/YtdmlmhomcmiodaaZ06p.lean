import Derived.Test.YtdmlmhomcmiodaaZ06j
import Derived.Test.YtdmlmhomcmiodaaProg
import Derived.Test.YtdmlmhomcmiodaaZ06m
import Derived.KernelRfl
import Derived.Test.YtdmlmhomcmiodaaZ06n
import Derived.Test.YtdmlmhomcmiodaaVxAsk
noncomputable section
namespace Go.Proofs.Ytdmlmhomcmiodaa.Vx
open Go Go.RowKit
set_option linter.unusedVariables false
set_option linter.unusedSimpArgs false
set_option maxRecDepth 100000
set_option maxHeartbeats 0
def op_w10:List Dat→Option (Nat×List Dat):=fun _=>some (0,[.b true])
def Bw10:FBox:=(mkF [] [] [] [(.bool 0,[])] op_w10)
theorem x3v (env:List Dat)(y:Nat×List Dat)(h:op_w10 env=some y):(boxC true Try.prog cs_Q0 10 ls0 (mkF [] [] [] [(.bool 0,[])] fun _=>none) env).sel=some y:=by
 cases h
 kernel_rfl
theorem x3s:a0v Try.prog 10 (a0j Bw10):=a0p (op:=op_w10) a2u hmix true (LsOk.none _ _ _) x3v
def op_w26:List Dat→Option (Nat×List Dat):=fun _=>some (0,[.b true])
def Bw26:FBox:=(mkF [] [] [] [(.bool 0,[])] op_w26)
theorem x3n (env:List Dat)(y:Nat×List Dat)(h:op_w26 env=some y):(boxC true Try.prog cs_Q0 26 ls0 (mkF [] [] [] [(.bool 0,[])] fun _=>none) env).sel=some y:=by
 cases h
 kernel_rfl
theorem Bw26_ok:a0v Try.prog 26 (a0j Bw26):=a0p (op:=op_w26) a2u hmix true (LsOk.none _ _ _) x3n
def cs_Z10:FuncId→Option a0q:=e1c 26 [Bw26] (e1c 10 [Bw10] b3d)
theorem cs_Z10_ok:CsOk Try.prog cs_Z10:=h0a (h0a x2w fun B hB=>by
 cases List.mem_singleton.1 hB
 exact x3s) fun B hB=>by
 cases List.mem_singleton.1 hB
 exact Bw26_ok
abbrev TB:Ty:=.int .u8
abbrev TCmd:Ty:=.pair (.int .u8) (.int .i64)
abbrev TQr:Ty:=.pair (.int .i64) (.pair (.int .i64) (.pair (.sl (.int .i64)) (.pair (.sl TNd) (.sl (.int .i64)))))
def fnC (f:Nat)(cs:List PV):PV:=.fn (.func f) [] cs
def fnM (f:Nat)(fs:List PV):PV:=.fn (.func f) fs []
def mB (h:Nat):PB:=.cells [.imm TI h,.imm TQr (h+1)]
def mO (a:Nat):PB:=.cells [.own a,.nilsl]
def mP (a:Nat):PB:=.cells [.own a,.own (a+1)]
def qrV (h:Nat):PV:=.agg [.int .i64 h,.int .i64 (h+1),.imm TI (h+2),.imm TNd (h+3),.imm TI (h+4)]
def stV (h:Nat):PV:=.agg [.int .u64 h,.int .u64 (h+1),.int .u64 (h+2),.arrd TB 64 (h+3),.int .u32 (h+4)]
def stB (h:Nat):PB:=.cells [.int .u64 h,.int .u64 (h+1),.int .u64 (h+2),.arrd TB 64 (h+3),.int .u32 (h+4)]
def ipV (h:Nat):PV:=.agg [.int .u64 h,.int .u32 (h+1),.int .u32 (h+2),.imm TCmd (h+3)]
def ipB (h:Nat):PB:=.cells [.int .u64 h,.int .u32 (h+1),.int .u32 (h+2),.imm TCmd (h+3)]
def ouV (h:Nat):PV:=.agg [.int .u64 h,.int .u32 (h+1)]
def ouB (h:Nat):PB:=.cells [.int .u64 h,.int .u32 (h+1)]
def cs_15A:FuncId→Option a0q:=a0s 9 ((BSh.of B15).k n2d) cs_Z10
theorem m3c:CsOk Try.prog cs_15A:=csA cs_Z10_ok B15_ok
def cs_9A:FuncId→Option a0q:=a0s 29 ((BSh.of B9).k op_9) cs_15A
theorem o3m:CsOk Try.prog cs_9A:=csA m3c B9_ok
def cs_10A:FuncId→Option a0q:=a0s 30 ((BSh.of B10).k t1a) cs_9A
theorem n3o:CsOk Try.prog cs_10A:=csA o3m B10_ok
def cs_11A:FuncId→Option a0q:=a0s 49 ((BSh.of B11).k h1f) cs_10A
theorem n3i:CsOk Try.prog cs_11A:=csA n3o B11_ok
def cs_12A:FuncId→Option a0q:=a0s 43 ((BSh.of B12).k i1r) cs_11A
theorem n3p:CsOk Try.prog cs_12A:=csA n3i B12_ok
def cs_19A:FuncId→Option a0q:=a0s 12 ((BSh.of B19).k f2v) cs_12A
theorem x3l:CsOk Try.prog cs_19A:=csA n3p B19_ok
def m3g:FuncId→Option a0q:=a0s 28 ((BSh.of Bc17).k p1p) cs_19A
theorem l3w:CsOk Try.prog m3g:=csA x3l Bc17_ok
def x3q:FuncId→Option a0q:=a0s 42 ((BSh.of Bc46).k m1e) m3g
theorem x3j:CsOk Try.prog x3q:=csA l3w Bc46_ok
def m3r:FuncId→Option a0q:=e1c 19 [(BSh.of Bc16).k b3k] x3q
theorem m3b:CsOk Try.prog m3r:=csB x3j Bc16_ok
def x3e:FuncId→Option a0q:=e1c 10 [(BSh.of Bw10).k op_w10] m3r
theorem w3l:CsOk Try.prog x3e:=csB m3b x3s
def S_i38:BSh:={args:=[.int .u64 0,.int .i64 1],blks:=[],log:=[],outs:=[(.bool 0,[])]}
def ev_i38:List Dat→Tree (Nat×List Dat):=evF x3e 38 ls0 S_i38
theorem e_i38: ∃op,IsF ev_i38 38 S_i38 op:=bxF w3l (LsOk.none _ _ _)
def w3v:OpA:=opF e_i38
theorem x3k {n0 n1:Int}(h0:(¬n1<(0:Int))):w3v [.n n0,.n n1]=some ((0,[.b (iand IntKind.u64 (ishr IntKind.u64 n0 n1) (1:Int)==(1:Int))])):=h3h e_i38 (sT (nf (df h0))<|sP [1]<|sL)
def x3m:FuncId→Option a0q:=a0s 38 (S_i38.k w3v) x3e
theorem w3q:CsOk Try.prog x3m:=csL1 w3l e_i38
def S_i37:BSh:={args:=[.int .u64 0,.int .i64 1,.bool 2],blks:=[],log:=[],outs:=[(.int .u64 0,[])]}
def ev_i37:List Dat→Tree (Nat×List Dat):=evF x3m 37 ls0 S_i37
theorem h4d: ∃op,IsF ev_i37 37 S_i37 op:=bxF w3q (LsOk.none _ _ _)
def y3y:OpA:=opF h4d
theorem g4o {n0 n1:Int}{b2:Bool}(h0:(¬n1<(0:Int)))(h1:(b2=true)):y3y [.n n0,.n n1,.b b2]=some ((0,[.n (ior IntKind.u64 (b0l IntKind.u64 n0 (ishl IntKind.u64 (1:Int) n1)) (ishl IntKind.u64 (1:Int) n1))])):=h3h h4d (sT (nf (df h0))<|sT h1<|sT (nf (df h0))<|sP [1]<|sL)
theorem g4k {n0 n1:Int}{b2:Bool}(h0:(¬n1<(0:Int)))(h1:(b2=false)):y3y [.n n0,.n n1,.b b2]=some ((0,[.n (b0l IntKind.u64 n0 (ishl IntKind.u64 (1:Int) n1))])):=h3h h4d (sT (nf (df h0))<|sF h1<|sP [1]<|sL)
def x3f:FuncId→Option a0q:=a0s 37 (S_i37.k y3y) x3m
theorem w3i:CsOk Try.prog x3f:=csL1 w3q h4d
def x3o:LSh:={K:=0,log:=[],ins:=[(sh 20 [(0,.int .u64 0),(5,.own 0),(7,.int .i64 1),(8,.int .i64 2)],[.arr TI 3])],nils:=[(5,TI)],outs:=[(.exit 0,sh 20 [(5,.own 0)],[.arr TI 0])],cv:=[]}
def w3e:List Dat→Tree Step:=evL x3f 31 3 ls0 x3o
theorem w3p: ∃op,IsL w3e 31 3 x3o op:=bxL w3i (LsOk.none _ _ _)
def x3g:OpA:=opL w3p
theorem w3y (env:List Dat):x3g env=a0b w3e FU env:=h3j w3p env
abbrev y3c:MBox:=boxL w3p
theorem w3z {n0 n1 n2:Int}{l3:List (Ty.den TI)}{b4:Bool}(g0:0≤n2)(h0:(n2<n1))(h1:(w3v [.n n0,.n n2])=(some (0,[.b b4])))(h2:(b4=true))(h3:((List.length l3+1)*8≤140737488355328)):(w3e [.k 0,.n n0,.n n1,.n n2,.l TI l3]).sel=some (Step.go [.k 0,.n n0,.n n1,.n (IntKind.wrap .i64 (n2+(1:Int))),.l TI (l3++[n2])]):=sP [1]<|sT (dt h0)<|sA h1<|sP [1,1]<|sT h2<|sT (dt h3)<|sP [1]<|sL
theorem x3a {n0 n1 n2:Int}{l3:List (Ty.den TI)}{b4:Bool}(g0:0≤n2)(h0:(n2<n1))(h1:(w3v [.n n0,.n n2])=(some (0,[.b b4])))(h2:(b4=false)):(w3e [.k 0,.n n0,.n n1,.n n2,.l TI l3]).sel=some (Step.go [.k 0,.n n0,.n n1,.n (IntKind.wrap .i64 (n2+(1:Int))),.l TI l3]):=sP [1]<|sT (dt h0)<|sA h1<|sP [1,1]<|sF h2<|sP [1]<|sL
theorem w3x {n0 n1 n2:Int}{l3:List (Ty.den TI)}(g0:0≤n2)(h0:(¬n2<n1)):(w3e [.k 0,.n n0,.n n1,.n n2,.l TI l3]).sel=some (Step.stop 0 [.l TI l3]):=sP [1]<|sF (df h0)<|sP [1]<|sL
def S_i31:BSh:={args:=[.int .u64 0,.int .i64 1],blks:=[],log:=[],outs:=[(.own 0,[.arr TI 0])]}
def ev_i31:List Dat→Tree (Nat×List Dat):=evFN [(0,TI)] x3f 31 (lsM [(3,y3c)] 0) S_i31
theorem e_i31: ∃op,IsF ev_i31 31 S_i31 op:=bxFN w3i (lsE (lsC (h3i w3p) (atF) lsZ))
def w3t:OpA:=opF e_i31
theorem x3y {n0 n1:Int}{l2:List (Ty.den TI)}(h0:(x3g [.k 0,.n n0,.n n1,.n (0:Int),.l TI []])=(some (0,[.l TI l2]))):w3t [.n n0,.n n1]=some ((0,[.l TI l2])):=h3h e_i31 (sA h0<|sP [1,1]<|sL)
def w3s:FuncId→Option a0q:=a0s 31 (S_i31.k w3t) x3f
theorem w3g:CsOk Try.prog w3s:=csL1 w3i e_i31
def x3z:LSh:={K:=0,log:=[],ins:=[(sh 83 [(1,.ptr 0 0),(4,.own 1),(6,.ptr 2 0),(22,.imm TPt 0),(23,.int .i64 1),(24,.int .i64 2)],[laB 3,.arr TU 7,mO 3,.arr TI 8])],nils:=[],outs:=[(.exit 0,sh 83 [(1,.ptr 0 0),(4,.own 1),(6,.ptr 2 0)],[laB 0,.arr TU 4,mO 3,.arr TI 5])],cv:=[(6,[],0,.own TI)]}
def w3f:List Dat→Tree Step:=evL w3s 11 6 ls0 x3z
theorem w3o: ∃op,IsL w3f 11 6 x3z op:=bxL w3g (LsOk.none _ _ _)
def w3n:OpA:=opL w3o
theorem x3b (env:List Dat):w3n env=a0b w3f FU env:=h3j w3o env
abbrev y3e:MBox:=boxL w3o
theorem x3c {l0:List (Ty.den TPt)}{n1 n2:Int}{l3:List (Ty.den TS)}{l4 l5:List (Ty.den TPt)}{l6:List (Ty.den TRt)}{l7:List (Ty.den TU)}{l8:List (Ty.den TI)}(g0:0≤n2)(g1:n1=(l0.length:Int))(h0:(n2<n1))(h1:((List.length l8+1)*8≤140737488355328)):(w3f [.k 0,.l TPt l0,.n n1,.n n2,.l TS l3,.l TPt l4,.l TPt l5,.l TRt l6,.l TU l7,.l TI l8]).sel=some (Step.go [.k 0,.l TPt l0,.n n1,.n (IntKind.wrap .i64 (n2+(1:Int))),.l TS l3,.l TPt l4,.l TPt l5,.l TRt l6,.l TU l7,.l TI (l8++[Prod.snd (List.getD l0 (Int.toNat n2) (Ty.dflt TPt))])]):=sP [1]<|sT (dt h0)<|sTo (c:=(inR n2 (List.length l0)))<|sT (dt h1)<|sP [1,1]<|sL
theorem x3d {l0:List (Ty.den TPt)}{n1 n2:Int}{l3:List (Ty.den TS)}{l4 l5:List (Ty.den TPt)}{l6:List (Ty.den TRt)}{l7:List (Ty.den TU)}{l8:List (Ty.den TI)}(g0:0≤n2)(g1:n1=(l0.length:Int))(h0:(¬n2<n1)):(w3f [.k 0,.l TPt l0,.n n1,.n n2,.l TS l3,.l TPt l4,.l TPt l5,.l TRt l6,.l TU l7,.l TI l8]).sel=some (Step.stop 0 [.l TS l3,.l TPt l4,.l TPt l5,.l TRt l6,.l TU l7,.l TI l8]):=sP [1]<|sF (df h0)<|sP [1]<|sL
def x3h:LSh:={K:=0,log:=[],ins:=[(sh 83 [(1,.ptr 0 0),(4,.own 1),(6,.ptr 2 0),(41,.imm TRt 0),(42,.int .i64 1),(43,.int .i64 2)],[laB 3,.arr TU 7,mP 3,.arr TI 8,.arr TQr 9])],nils:=[],outs:=[(.exit 2,sh 83 [(6,.ptr 0 0)],[mP 1,.arr TI 0,.arr TQr 1])],cv:=[(6,[],1,.own TQr)]}
def w3d:List Dat→Tree Step:=evL w3s 11 11 ls0 x3h
theorem w3h: ∃op,IsL w3d 11 11 x3h op:=bxL w3g (LsOk.none _ _ _)
def w3j:OpA:=opL w3h
theorem w3u (env:List Dat):w3j env=a0b w3d FU env:=h3j w3h env
abbrev x3p:MBox:=boxL w3h
theorem w3w {l0:List (Ty.den TRt)}{n1 n2:Int}{l3:List (Ty.den TS)}{l4 l5:List (Ty.den TPt)}{l6:List (Ty.den TRt)}{l7:List (Ty.den TU)}{l8:List (Ty.den TI)}{l9:List (Ty.den TQr)}{l10:List (Ty.den TI)}{l11:List (Ty.den TNd)}{l12:List (Ty.den TI)}(g0:0≤n2)(g1:n1=(l0.length:Int))(h0:(n2<n1))(h1:(inR (Prod.fst (Prod.snd (List.getD l0 (Int.toNat n2) (Ty.dflt TRt)))) (List.length l5)=true))(h2:(inR (0:Int) (List.length (Prod.fst (Prod.snd (Prod.snd (List.getD l0 (Int.toNat n2) (Ty.dflt TRt))))))=true))(h3:(op_9 [.s (Prod.fst (List.getD l0 (Int.toNat n2) (Ty.dflt TRt))),.n (Prod.fst (Prod.snd (List.getD l0 (Int.toNat n2) (Ty.dflt TRt)))),.l TI (Prod.fst (Prod.snd (Prod.snd (List.getD l0 (Int.toNat n2) (Ty.dflt TRt))))),.l TNd (Prod.fst (Prod.snd (Prod.snd (Prod.snd (List.getD l0 (Int.toNat n2) (Ty.dflt TRt)))))),.l TI (Prod.fst (Prod.snd (Prod.snd (Prod.snd (Prod.snd (List.getD l0 (Int.toNat n2) (Ty.dflt TRt))))))),.l TNd (Prod.snd (Prod.snd (Prod.snd (Prod.snd (Prod.snd (List.getD l0 (Int.toNat n2) (Ty.dflt TRt)))))))])=(some (0,[.l TI l10])))(h4:(t1a [.s (Prod.fst (List.getD l0 (Int.toNat n2) (Ty.dflt TRt))),.n (Prod.fst (Prod.snd (List.getD l0 (Int.toNat n2) (Ty.dflt TRt)))),.l TI (Prod.fst (Prod.snd (Prod.snd (List.getD l0 (Int.toNat n2) (Ty.dflt TRt))))),.l TNd (Prod.fst (Prod.snd (Prod.snd (Prod.snd (List.getD l0 (Int.toNat n2) (Ty.dflt TRt)))))),.l TI (Prod.fst (Prod.snd (Prod.snd (Prod.snd (Prod.snd (List.getD l0 (Int.toNat n2) (Ty.dflt TRt))))))),.l TNd (Prod.snd (Prod.snd (Prod.snd (Prod.snd (Prod.snd (List.getD l0 (Int.toNat n2) (Ty.dflt TRt)))))))])=(some (0,[.l TNd l11])))(h5:(inR n2 (List.length l7)=true))(h6:(w3t [.n (List.getD l7 (Int.toNat n2) (0:Int)),.n (↑(List.length l6):Int)])=(some (0,[.l TI l12])))(h7:((List.length l9+1)*88≤140737488355328)):(w3d [.k 0,.l TRt l0,.n n1,.n n2,.l TS l3,.l TPt l4,.l TPt l5,.l TRt l6,.l TU l7,.l TI l8,.l TQr l9]).sel=some (Step.go [.k 0,.l TRt l0,.n n1,.n (IntKind.wrap .i64 (n2+(1:Int))),.l TS l3,.l TPt l4,.l TPt l5,.l TRt l6,.l TU l7,.l TI l8,.l TQr (apL l9 [(Prod.snd (List.getD l5 (Int.toNat (Prod.fst (Prod.snd (List.getD l0 (Int.toNat n2) (Ty.dflt TRt))))) (Ty.dflt TPt)),List.getD (Prod.fst (Prod.snd (Prod.snd (List.getD l0 (Int.toNat n2) (Ty.dflt TRt))))) 0 (0:Int),l10,l11,l12)])]):=sP [1]<|sT (dt h0)<|sTo (c:=(inR n2 (List.length l0)))<|sT h1<|sT h2<|sA h3<|sP [1,1]<|sA h4<|sP [1,1]<|sT h5<|sA h6<|sP [1,1]<|sT (dt h7)<|sP [1,1]<|sL
theorem w3r {l0:List (Ty.den TRt)}{n1 n2:Int}{l3:List (Ty.den TS)}{l4 l5:List (Ty.den TPt)}{l6:List (Ty.den TRt)}{l7:List (Ty.den TU)}{l8:List (Ty.den TI)}{l9:List (Ty.den TQr)}(g0:0≤n2)(g1:n1=(l0.length:Int))(h0:(¬n2<n1)):(w3d [.k 0,.l TRt l0,.n n1,.n n2,.l TS l3,.l TPt l4,.l TPt l5,.l TRt l6,.l TU l7,.l TI l8,.l TQr l9]).sel=some (Step.stop 0 [.l TI l8,.l TQr l9]):=sP [1]<|sF (df h0)<|sP [1]<|sL
def S_i11:BSh:={args:=[laV 0],blks:=[],log:=[],outs:=[(.tup [.ptr 0 0,.int .i64 0],[mB 1]),(.tup [.nilptr,.int .i64 0],[])]}
def ev_i11:List Dat→Tree (Nat×List Dat):=evFV [(none,0,.imm TI),(none,1,.imm TQr)] w3s 11 (lsM [(6,y3e),(11,x3p)] 0) S_i11
theorem y3g: ∃op,IsF ev_i11 11 S_i11 op:=bxFV w3g (lsE (lsC (h3i w3o) (atF) (lsC (h3i w3h) (atF) lsZ)))
def w3m:OpA:=opF y3g
theorem x3u {l0:List (Ty.den TS)}{l1 l2:List (Ty.den TPt)}{l3:List (Ty.den TRt)}{n4:Int}{l5:List (Ty.den TU)}{l6:List (Ty.den TS)}{l7 l8:List (Ty.den TPt)}{l9:List (Ty.den TRt)}{l10:List (Ty.den TU)}{l11 l12:List (Ty.den TI)}{l13:List (Ty.den TQr)}(h0:(p1p [.l TS l0,.l TPt l1,.l TPt l2,.l TRt l3])=(some (0,[.n n4,.l TU l5])))(h1:(n4=(0:Int)))(h2:(w3n [.k 0,.l TPt l1,.n (↑(List.length l1):Int),.n (0:Int),.l TS l0,.l TPt l1,.l TPt l2,.l TRt l3,.l TU l5,.l TI []])=(some (0,[.l TS l6,.l TPt l7,.l TPt l8,.l TRt l9,.l TU l10,.l TI l11])))(h3:(w3j [.k 0,.l TRt l9,.n (↑(List.length l9):Int),.n (0:Int),.l TS l6,.l TPt l7,.l TPt l8,.l TRt l9,.l TU l10,.l TI l11,.l TQr []])=(some (0,[.l TI l12,.l TQr l13]))):w3m [.l TS l0,.l TPt l1,.l TPt l2,.l TRt l3]=some ((0,[.n (0:Int),.l TI l12,.l TQr l13])):=h3h y3g (sA h0<|sP [1,1]<|sF (bnf h1)<|sA h2<|sP [1]<|sA h3<|sP [1,1]<|sL)
theorem x3x {l0:List (Ty.den TS)}{l1 l2:List (Ty.den TPt)}{l3:List (Ty.den TRt)}{n4:Int}(h0:(p1p [.l TS l0,.l TPt l1,.l TPt l2,.l TRt l3])=(some (1,[.n n4])))(h1:(¬n4=(0:Int))):w3m [.l TS l0,.l TPt l1,.l TPt l2,.l TRt l3]=some ((1,[.n n4])):=h3h y3g (sA h0<|sP [0,1,1]<|sT (bnt h1)<|sP [1]<|sL)
def a4e:FuncId→Option a0q:=e1c 11 [S_i11.k w3m] w3s
theorem x3r:CsOk Try.prog a4e:=csA1 w3g y3g
def cyB (p h:Nat):PB:=.cells [.ptr p 0,.int .u64 h,.int .u32 (h+1),.int .u32 (h+2),.imm TCmd (h+3),.int .u64 (h+4),.int .u64 (h+5),.int .u64 (h+6),.arrd TB 64 (h+7),.int .u32 (h+8)]
def pcB (q:Nat):PB:=.cells [.ptr q 0]
def icB (h:Nat):PB:=.cells [.int .i64 h]
def wcB (h:Nat):PB:=.cells [.int .u32 h]
def dosB:PB:=.cells [.nilfn,fnM 67 [.ptr 0 0],fnM 68 [.ptr 0 0],fnM 69 [.ptr 0 0]]
def f4r:LSh:={K:=1,log:=[],ins:=[(sh 19 [(0,.imm TI 0),(1,fnC 77 [.ptr 0 0]),(7,.int .i64 1),(8,.int .i64 2)],[stB 3])],nils:=[],outs:=[(.exit 0,sh 19 [],[stB 0]),(.ret,sh 19 [(4,.int .i64 0)],[stB 1])],cv:=[]}
def y3w:List Dat→Tree Step:=evL a4e 115 2 ls0 f4r
theorem a4i: ∃op,IsL y3w 115 2 f4r op:=bxL x3r (LsOk.none _ _ _)
def z3h:OpA:=opL a4i
theorem c4q (env:List Dat):z3h env=a0b y3w FU env:=h3j a4i env
abbrev h4p:MBox:=boxL a4i
theorem b4u {l0:List (Ty.den TI)}{n1 n2 n3 n4 n5:Int}{l6:List (Ty.den TB)}{n7:Int}{b8:Bool}(g0:0≤n2)(g1:n1=(l0.length:Int))(h0:(n2<n1))(h1:(w3v [.n n3,.n (List.getD l0 (Int.toNat n2) (0:Int))])=(some (0,[.b b8])))(h2:(b8=true)):(y3w [.k 0,.l TI l0,.n n1,.n n2,.n n3,.n n4,.n n5,.l TB l6,.n n7]).sel=some (Step.stop 1 [.n n2,.n n3,.n n4,.n n5,.l TB l6,.n n7]):=sP [1]<|sT (dt h0)<|sTo (c:=(inR n2 (List.length l0)))<|sP [1]<|sA h1<|sP [1,1,1]<|sT h2<|sP [1]<|sL
theorem b4p {l0:List (Ty.den TI)}{n1 n2 n3 n4 n5:Int}{l6:List (Ty.den TB)}{n7:Int}{b8:Bool}(g0:0≤n2)(g1:n1=(l0.length:Int))(h0:(n2<n1))(h1:(w3v [.n n3,.n (List.getD l0 (Int.toNat n2) (0:Int))])=(some (0,[.b b8])))(h2:(b8=false)):(y3w [.k 0,.l TI l0,.n n1,.n n2,.n n3,.n n4,.n n5,.l TB l6,.n n7]).sel=some (Step.go [.k 0,.l TI l0,.n n1,.n (IntKind.wrap .i64 (n2+(1:Int))),.n n3,.n n4,.n n5,.l TB l6,.n n7]):=sP [1]<|sT (dt h0)<|sTo (c:=(inR n2 (List.length l0)))<|sP [1]<|sA h1<|sP [1,1,1]<|sF h2<|sP [1]<|sL
theorem b4z {l0:List (Ty.den TI)}{n1 n2 n3 n4 n5:Int}{l6:List (Ty.den TB)}{n7:Int}(g0:0≤n2)(g1:n1=(l0.length:Int))(h0:(¬n2<n1)):(y3w [.k 0,.l TI l0,.n n1,.n n2,.n n3,.n n4,.n n5,.l TB l6,.n n7]).sel=some (Step.stop 0 [.n n3,.n n4,.n n5,.l TB l6,.n n7]):=sP [1]<|sF (df h0)<|sP [1]<|sL
def S_i77:BSh:={args:=[.imm TI 0,fnC 77 [.ptr 0 0]],blks:=[stB 1],log:=[],outs:=[(.int .i64 0,[stB 1])]}
def ev_i77:List Dat→Tree (Nat×List Dat):=evF a4e 115 (lsM [(2,h4p)] 1) S_i77
theorem g4z: ∃op,IsF ev_i77 115 S_i77 op:=bxF x3r (lsE (lsC (h3i a4i) (atF) lsZ))
def b4c:OpA:=opF g4z
theorem f4z {l0:List (Ty.den TI)}{n1 n2 n3:Int}{l4:List (Ty.den TB)}{n5 n6 n7 n8:Int}{l9:List (Ty.den TB)}{n10:Int}(h0:(z3h [.k 0,.l TI l0,.n (↑(List.length l0):Int),.n (0:Int),.n n1,.n n2,.n n3,.l TB l4,.n n5])=(some (0,[.n n6,.n n7,.n n8,.l TB l9,.n n10]))):b4c [.l TI l0,.n n1,.n n2,.n n3,.l TB l4,.n n5]=some ((0,[.n (-1:Int),.n n6,.n n7,.n n8,.l TB l9,.n n10])):=h3h g4z (sA h0<|sP [1,1]<|sL)
theorem e4u {l0:List (Ty.den TI)}{n1 n2 n3:Int}{l4:List (Ty.den TB)}{n5 n6 n7 n8 n9:Int}{l10:List (Ty.den TB)}{n11:Int}(h0:(z3h [.k 0,.l TI l0,.n (↑(List.length l0):Int),.n (0:Int),.n n1,.n n2,.n n3,.l TB l4,.n n5])=(some (1,[.n n6,.n n7,.n n8,.n n9,.l TB l10,.n n11]))):b4c [.l TI l0,.n n1,.n n2,.n n3,.l TB l4,.n n5]=some ((0,[.n n6,.n n7,.n n8,.n n9,.l TB l10,.n n11])):=h3h g4z (sA h0<|sP [0,1,1]<|sL)
def d4e:LSh:={K:=3,log:=[],ins:=[(sh 19 [(0,.imm TI 0),(1,fnC 113 [.ptr 0 0]),(7,.int .i64 1),(8,.int .i64 2)],[pcB 1,cyB 2 3,mB 12])],nils:=[],outs:=[(.exit 0,sh 19 [],[pcB 1,cyB 2 0,mB 9]),(.ret,sh 19 [(4,.int .i64 0)],[pcB 1,cyB 2 1,mB 10])],cv:=[]}
def f4k:List Dat→Tree Step:=evL a4e 115 2 ls0 d4e
theorem c4z: ∃op,IsL f4k 115 2 d4e op:=bxL x3r (LsOk.none _ _ _)
abbrev g4c:MBox:=boxL c4z
def g4m:BSh:={args:=[.imm TI 0,fnC 113 [.ptr 0 0]],blks:=[pcB 1,cyB 2 1,mB 10],log:=[],outs:=[(.int .i64 0,[pcB 1,cyB 2 1,mB 10])]}
def ev_i113:List Dat→Tree (Nat×List Dat):=evF a4e 115 (lsM [(2,g4c)] 3) g4m
theorem e_i113: ∃op,IsF ev_i113 115 g4m op:=bxF x3r (lsE (lsC (h3i c4z) (atF) lsZ))
def op_i113:OpA:=opF e_i113
def y3o:FuncId→Option a0q:=e1c 115 [S_i77.k b4c,g4m.k op_i113] a4e
theorem y3i:CsOk Try.prog y3o:=h0a x3r fun B hB=>by
 simp only[List.mem_cons,List.not_mem_nil,or_false]at hB
 rcases hB with rfl|rfl
 ·exact r3c g4z
 ·exact r3c e_i113
def g4j:LSh:={K:=1,log:=[],ins:=[(sh 19 [(0,.imm TNd 0),(1,fnC 78 [.ptr 0 0]),(7,.int .i64 1),(8,.int .i64 2)],[stB 3])],nils:=[],outs:=[(.exit 0,sh 19 [],[stB 0]),(.ret,sh 19 [(4,.int .i64 0)],[stB 1])],cv:=[]}
def y3u:List Dat→Tree Step:=evL y3o 114 2 ls0 g4j
theorem a4l: ∃op,IsL y3u 114 2 g4j op:=bxL y3i (LsOk.none _ _ _)
def z3f:OpA:=opL a4l
theorem b4v (env:List Dat):z3f env=a0b y3u FU env:=h3j a4l env
abbrev h4e:MBox:=boxL a4l
theorem b4o {l0:List (Ty.den TNd)}{n1 n2 n3 n4 n5:Int}{l6:List (Ty.den TB)}{n7:Int}{b8:Bool}(g0:0≤n2)(g1:n1=(l0.length:Int))(h0:(n2<n1))(h1:(w3v [.n (IntKind.wrap .u64 n7),.n (Prod.fst (List.getD l0 (Int.toNat n2) (Ty.dflt TNd)))])=(some (0,[.b b8])))(h2:((b8==Prod.snd (List.getD l0 (Int.toNat n2) (Ty.dflt TNd)))=false)):(y3u [.k 0,.l TNd l0,.n n1,.n n2,.n n3,.n n4,.n n5,.l TB l6,.n n7]).sel=some (Step.stop 1 [.n n2,.n n3,.n n4,.n n5,.l TB l6,.n n7]):=sP [1]<|sT (dt h0)<|sTo (c:=(inR n2 (List.length l0)))<|sP [1,1]<|sA h1<|sP [1,1,1,1,1]<|sT (nf h2)<|sP [1]<|sL
theorem c4h {l0:List (Ty.den TNd)}{n1 n2 n3 n4 n5:Int}{l6:List (Ty.den TB)}{n7:Int}{b8:Bool}(g0:0≤n2)(g1:n1=(l0.length:Int))(h0:(n2<n1))(h1:(w3v [.n (IntKind.wrap .u64 n7),.n (Prod.fst (List.getD l0 (Int.toNat n2) (Ty.dflt TNd)))])=(some (0,[.b b8])))(h2:((b8==Prod.snd (List.getD l0 (Int.toNat n2) (Ty.dflt TNd)))=true)):(y3u [.k 0,.l TNd l0,.n n1,.n n2,.n n3,.n n4,.n n5,.l TB l6,.n n7]).sel=some (Step.go [.k 0,.l TNd l0,.n n1,.n (IntKind.wrap .i64 (n2+(1:Int))),.n n3,.n n4,.n n5,.l TB l6,.n n7]):=sP [1]<|sT (dt h0)<|sTo (c:=(inR n2 (List.length l0)))<|sP [1,1]<|sA h1<|sP [1,1,1,1,1]<|sF (nt h2)<|sP [1]<|sL
theorem b4q {l0:List (Ty.den TNd)}{n1 n2 n3 n4 n5:Int}{l6:List (Ty.den TB)}{n7:Int}(g0:0≤n2)(g1:n1=(l0.length:Int))(h0:(¬n2<n1)):(y3u [.k 0,.l TNd l0,.n n1,.n n2,.n n3,.n n4,.n n5,.l TB l6,.n n7]).sel=some (Step.stop 0 [.n n3,.n n4,.n n5,.l TB l6,.n n7]):=sP [1]<|sF (df h0)<|sP [1]<|sL
def S_i78:BSh:={args:=[.imm TNd 0,fnC 78 [.ptr 0 0]],blks:=[stB 1],log:=[],outs:=[(.int .i64 0,[stB 1])]}
def ev_i78:List Dat→Tree (Nat×List Dat):=evF y3o 114 (lsM [(2,h4e)] 1) S_i78
theorem i4u: ∃op,IsF ev_i78 114 S_i78 op:=bxF y3i (lsE (lsC (h3i a4l) (atF) lsZ))
def b4b:OpA:=opF i4u
theorem e4o {l0:List (Ty.den TNd)}{n1 n2 n3:Int}{l4:List (Ty.den TB)}{n5 n6 n7 n8:Int}{l9:List (Ty.den TB)}{n10:Int}(h0:(z3f [.k 0,.l TNd l0,.n (↑(List.length l0):Int),.n (0:Int),.n n1,.n n2,.n n3,.l TB l4,.n n5])=(some (0,[.n n6,.n n7,.n n8,.l TB l9,.n n10]))):b4b [.l TNd l0,.n n1,.n n2,.n n3,.l TB l4,.n n5]=some ((0,[.n (-1:Int),.n n6,.n n7,.n n8,.l TB l9,.n n10])):=h3h i4u (sA h0<|sP [1,1]<|sL)
theorem g4x {l0:List (Ty.den TNd)}{n1 n2 n3:Int}{l4:List (Ty.den TB)}{n5 n6 n7 n8 n9:Int}{l10:List (Ty.den TB)}{n11:Int}(h0:(z3f [.k 0,.l TNd l0,.n (↑(List.length l0):Int),.n (0:Int),.n n1,.n n2,.n n3,.l TB l4,.n n5])=(some (1,[.n n6,.n n7,.n n8,.n n9,.l TB l10,.n n11]))):b4b [.l TNd l0,.n n1,.n n2,.n n3,.l TB l4,.n n5]=some ((0,[.n n6,.n n7,.n n8,.n n9,.l TB l10,.n n11])):=h3h i4u (sA h0<|sP [0,1,1]<|sL)
def c4v:LSh:={K:=3,log:=[],ins:=[(sh 19 [(0,.imm TNd 0),(1,fnC 111 [.ptr 0 0]),(7,.int .i64 1),(8,.int .i64 2)],[pcB 1,cyB 2 3,mB 12])],nils:=[],outs:=[(.exit 0,sh 19 [],[pcB 1,cyB 2 0,mB 9]),(.ret,sh 19 [(4,.int .i64 0)],[pcB 1,cyB 2 1,mB 10])],cv:=[]}
def e4w:List Dat→Tree Step:=evL y3o 114 2 ls0 c4v
theorem d4k: ∃op,IsL e4w 114 2 c4v op:=bxL y3i (LsOk.none _ _ _)
abbrev d4w:MBox:=boxL d4k
def e4y:BSh:={args:=[.imm TNd 0,fnC 111 [.ptr 0 0]],blks:=[pcB 1,cyB 2 1,mB 10],log:=[],outs:=[(.int .i64 0,[pcB 1,cyB 2 1,mB 10])]}
def ev_i111:List Dat→Tree (Nat×List Dat):=evF y3o 114 (lsM [(2,d4w)] 3) e4y
theorem e_i111: ∃op,IsF ev_i111 114 e4y op:=bxF y3i (lsE (lsC (h3i d4k) (atF) lsZ))
def op_i111:OpA:=opF e_i111
def d4d:LSh:={K:=1,log:=[],ins:=[(sh 19 [(0,.imm TNd 0),(1,fnC 112 [.ptr 0 0]),(7,.int .i64 1),(8,.int .i64 2)],[icB 3])],nils:=[],outs:=[(.exit 0,sh 19 [],[icB 0]),(.ret,sh 19 [(4,.int .i64 0)],[icB 1])],cv:=[]}
def e4b:List Dat→Tree Step:=evL y3o 114 2 ls0 d4d
theorem c4w: ∃op,IsL e4b 114 2 d4d op:=bxL y3i (LsOk.none _ _ _)
abbrev e4k:MBox:=boxL c4w
def f4f:BSh:={args:=[.imm TNd 0,fnC 112 [.ptr 0 0]],blks:=[icB 1],log:=[],outs:=[(.int .i64 0,[icB 1])]}
def ev_i112:List Dat→Tree (Nat×List Dat):=evF y3o 114 (lsM [(2,e4k)] 1) f4f
theorem e_i112: ∃op,IsF ev_i112 114 f4f op:=bxF y3i (lsE (lsC (h3i c4w) (atF) lsZ))
def op_i112:OpA:=opF e_i112
def g4n:LSh:={K:=2,log:=[],ins:=[(sh 19 [(0,.imm TNd 0),(1,fnC 73 [.ptr 0 0,.ptr 1 0]),(7,.int .i64 1),(8,.int .i64 2)],[wcB 3,wcB 4])],nils:=[],outs:=[(.exit 0,sh 19 [],[wcB 0,wcB 1]),(.ret,sh 19 [(4,.int .i64 0)],[wcB 1,wcB 2])],cv:=[]}
def h4u:List Dat→Tree Step:=evL y3o 114 2 ls0 g4n
theorem f4i: ∃op,IsL h4u 114 2 g4n op:=bxL y3i (LsOk.none _ _ _)
abbrev h4j:MBox:=boxL f4i
def S_i73:BSh:={args:=[.imm TNd 0,fnC 73 [.ptr 0 0,.ptr 1 0]],blks:=[wcB 1,wcB 2],log:=[],outs:=[(.int .i64 0,[wcB 1,wcB 2])]}
def ev_i73:List Dat→Tree (Nat×List Dat):=evF y3o 114 (lsM [(2,h4j)] 2) S_i73
theorem e_i73: ∃op,IsF ev_i73 114 S_i73 op:=bxF y3i (lsE (lsC (h3i f4i) (atF) lsZ))
def op_i73:OpA:=opF e_i73
def e4e:FuncId→Option a0q:=e1c 114 [S_i78.k b4b,e4y.k op_i111,f4f.k op_i112,S_i73.k op_i73] y3o
theorem a4x:CsOk Try.prog e4e:=h0a y3i fun B hB=>by
 simp only[List.mem_cons,List.not_mem_nil,or_false]at hB
 rcases hB with rfl|rfl|rfl|rfl
 ·exact r3c i4u
 ·exact r3c e_i111
 ·exact r3c e_i112
 ·exact r3c e_i73
def S_i39:BSh:={args:=[stV 0,.imm TI 5],blks:=[],log:=[],outs:=[(.bool 0,[])]}
def ev_i39:List Dat→Tree (Nat×List Dat):=evF e4e 39 ls0 S_i39
theorem e_i39: ∃op,IsF ev_i39 39 S_i39 op:=bxF a4x (LsOk.none _ _ _)
def a4f:OpA:=opF e_i39
theorem f4c {n0 n1 n2:Int}{l3:List (Ty.den TB)}{n4:Int}{l5:List (Ty.den TI)}{n6 n7 n8 n9:Int}{l10:List (Ty.den TB)}{n11:Int}(h0:(b4c [.l TI l5,.n n0,.n n1,.n n2,.l TB l3,.n n4])=(some (0,[.n n6,.n n7,.n n8,.n n9,.l TB l10,.n n11]))):a4f [.n n0,.n n1,.n n2,.l TB l3,.n n4,.l TI l5]=some ((0,[.b (decide (n6≥(0:Int)))])):=h3h e_i39 (sP [1,1]<|sA h0<|sP [1,1,1,1]<|sL)
def f4q:FuncId→Option a0q:=a0s 39 (S_i39.k a4f) e4e
theorem b4m:CsOk Try.prog f4q:=csL1 a4x e_i39
def S_i40:BSh:={args:=[stV 0,qrV 5],blks:=[],log:=[],outs:=[(.bool 0,[])]}
def ev_i40:List Dat→Tree (Nat×List Dat):=evF f4q 40 ls0 S_i40
theorem e_i40: ∃op,IsF ev_i40 40 S_i40 op:=bxF b4m (LsOk.none _ _ _)
def b4l:OpA:=opF e_i40
theorem g4w {n0 n1 n2:Int}{l3:List (Ty.den TB)}{n4 n5 n6:Int}{l7:List (Ty.den TI)}{l8:List (Ty.den TNd)}{l9:List (Ty.den TI)}{n10 n11 n12 n13:Int}{l14:List (Ty.den TB)}{n15:Int}(h0:(b4b [.l TNd l8,.n n0,.n n1,.n n2,.l TB l3,.n n4])=(some (0,[.n n10,.n n11,.n n12,.n n13,.l TB l14,.n n15]))):b4l [.n n0,.n n1,.n n2,.l TB l3,.n n4,.n n5,.n n6,.l TI l7,.l TNd l8,.l TI l9]=some ((0,[.b !decide (n10≥(0:Int))])):=h3h e_i40 (sP [1,1]<|sA h0<|sP [1,1,1,1]<|sL)
def f4u:FuncId→Option a0q:=a0s 40 (S_i40.k b4l) f4q
theorem a4u:CsOk Try.prog f4u:=csL1 b4m e_i40
def S_i74:BSh:={args:=[.ptr 0 0,qrV 0],blks:=[cyB 1 5,mB 14],log:=[],outs:=[(.bool 0,[cyB 1 1,mB 10])]}
def ev_i74:List Dat→Tree (Nat×List Dat):=evF f4u 74 ls0 S_i74
theorem e_i74: ∃op,IsF ev_i74 74 S_i74 op:=bxF a4u (LsOk.none _ _ _)
def op_i74:OpA:=opF e_i74
def b4g:FuncId→Option a0q:=e1c 74 [S_i74.k op_i74] f4u
theorem z3a:CsOk Try.prog b4g:=csA1 a4u e_i74
def g4y:LSh:={K:=1,log:=[],ins:=[(sh 84 [(0,.ptr 0 0),(3,.ptr 1 0),(4,.ptr 2 0),(5,.ptr 3 0),(15,.int .i64 0),(16,.int .i64 1)],[mB 2,stB 4,stB 9,stB 14])],nils:=[],outs:=[(.exit 0,sh 84 [(0,.ptr 0 0),(3,.ptr 1 0),(4,.ptr 2 0),(5,.ptr 3 0)],[mB 0,stB 2,stB 7,stB 12])],cv:=[]}
def y3l:List Dat→Tree Step:=evL b4g 14 5 ls0 g4y
theorem a4n: ∃op,IsL y3l 14 5 g4y op:=bxL z3a (LsOk.none _ _ _)
def a4p:OpA:=opL a4n
theorem b4n (env:List Dat):a4p env=a0b y3l FU env:=h3j a4n env
abbrev h4f:MBox:=boxL a4n
theorem c4i {n0 n1:Int}{l2:List (Ty.den TI)}{l3:List (Ty.den TQr)}{n4 n5 n6:Int}{l7:List (Ty.den TB)}{n8 n9 n10 n11:Int}{l12:List (Ty.den TB)}{n13 n14 n15 n16:Int}{l17:List (Ty.den TB)}{n18:Int}{b19:Bool}{n20:Int}{b21:Bool}{n22:Int}{b23:Bool}{n24:Int}{b25:Bool}(g0:0≤n1)(h0:(n1<n0))(h1:(w3v [.n n4,.n n1])=(some (0,[.b b19])))(h2:(y3y [.n n14,.n n1,.b b19])=(some (0,[.n n20])))(h3:(w3v [.n (iand IntKind.u64 n4 n5),.n n1])=(some (0,[.b b21])))(h4:(y3y [.n n15,.n n1,.b b21])=(some (0,[.n n22])))(h5:(w3v [.n (iand IntKind.u64 n4 n6),.n n1])=(some (0,[.b b23])))(h6:(y3y [.n n16,.n n1,.b b23])=(some (0,[.n n24])))(h7:(w3v [.n n24,.n n1])=(some (0,[.b b25])))(h8:(b25=true))(h9:(inR n1 64=true)):(y3l [.k 0,.n n0,.n n1,.l TI l2,.l TQr l3,.n n4,.n n5,.n n6,.l TB l7,.n n8,.n n9,.n n10,.n n11,.l TB l12,.n n13,.n n14,.n n15,.n n16,.l TB l17,.n n18]).sel=some (Step.go [.k 0,.n n0,.n (IntKind.wrap .i64 (n1+(1:Int))),.l TI l2,.l TQr l3,.n n4,.n n5,.n n6,.l TB l7,.n n8,.n n9,.n n10,.n n11,.l TB l12,.n n13,.n n20,.n n22,.n n24,.l TB (List.set l17 (Int.toNat n1) (imin (List.getD l7 (Int.toNat n1) (0:Int)) (20:Int))),.n n18]):=sP [1]<|sT (dt h0)<|sA h1<|sP [1,1]<|sA h2<|sP [1,1,1]<|sA h3<|sP [1,1]<|sA h4<|sP [1,1,1]<|sA h5<|sP [1,1]<|sA h6<|sP [1,1,1]<|sA h7<|sP [1,1]<|sT h8<|sT h9<|sT h9<|sP [1]<|sL
theorem c4a {n0 n1:Int}{l2:List (Ty.den TI)}{l3:List (Ty.den TQr)}{n4 n5 n6:Int}{l7:List (Ty.den TB)}{n8 n9 n10 n11:Int}{l12:List (Ty.den TB)}{n13 n14 n15 n16:Int}{l17:List (Ty.den TB)}{n18:Int}{b19:Bool}{n20:Int}{b21:Bool}{n22:Int}{b23:Bool}{n24:Int}{b25:Bool}(g0:0≤n1)(h0:(n1<n0))(h1:(w3v [.n n4,.n n1])=(some (0,[.b b19])))(h2:(y3y [.n n14,.n n1,.b b19])=(some (0,[.n n20])))(h3:(w3v [.n (iand IntKind.u64 n4 n5),.n n1])=(some (0,[.b b21])))(h4:(y3y [.n n15,.n n1,.b b21])=(some (0,[.n n22])))(h5:(w3v [.n (iand IntKind.u64 n4 n6),.n n1])=(some (0,[.b b23])))(h6:(y3y [.n n16,.n n1,.b b23])=(some (0,[.n n24])))(h7:(w3v [.n n24,.n n1])=(some (0,[.b b25])))(h8:(b25=false)):(y3l [.k 0,.n n0,.n n1,.l TI l2,.l TQr l3,.n n4,.n n5,.n n6,.l TB l7,.n n8,.n n9,.n n10,.n n11,.l TB l12,.n n13,.n n14,.n n15,.n n16,.l TB l17,.n n18]).sel=some (Step.go [.k 0,.n n0,.n (IntKind.wrap .i64 (n1+(1:Int))),.l TI l2,.l TQr l3,.n n4,.n n5,.n n6,.l TB l7,.n n8,.n n9,.n n10,.n n11,.l TB l12,.n n13,.n n20,.n n22,.n n24,.l TB l17,.n n18]):=sP [1]<|sT (dt h0)<|sA h1<|sP [1,1]<|sA h2<|sP [1,1,1]<|sA h3<|sP [1,1]<|sA h4<|sP [1,1,1]<|sA h5<|sP [1,1]<|sA h6<|sP [1,1,1]<|sA h7<|sP [1,1]<|sF h8<|sP [1]<|sL
theorem c4k {n0 n1:Int}{l2:List (Ty.den TI)}{l3:List (Ty.den TQr)}{n4 n5 n6:Int}{l7:List (Ty.den TB)}{n8 n9 n10 n11:Int}{l12:List (Ty.den TB)}{n13 n14 n15 n16:Int}{l17:List (Ty.den TB)}{n18:Int}(g0:0≤n1)(h0:(¬n1<n0)):(y3l [.k 0,.n n0,.n n1,.l TI l2,.l TQr l3,.n n4,.n n5,.n n6,.l TB l7,.n n8,.n n9,.n n10,.n n11,.l TB l12,.n n13,.n n14,.n n15,.n n16,.l TB l17,.n n18]).sel=some (Step.stop 0 [.l TI l2,.l TQr l3,.n n4,.n n5,.n n6,.l TB l7,.n n8,.n n9,.n n10,.n n11,.l TB l12,.n n13,.n n14,.n n15,.n n16,.l TB l17,.n n18]):=sP [1]<|sF (df h0)<|sP [1]<|sL
def c4t:LSh:={K:=1,log:=[],ins:=[(sh 84 [(0,.ptr 0 0),(3,.ptr 1 0),(4,.ptr 2 0),(5,.ptr 3 0),(69,.int .i64 0),(70,.int .i64 1)],[mB 2,stB 4,stB 9,stB 14])],nils:=[],outs:=[(.exit 2,sh 84 [(4,.ptr 1 0),(5,.ptr 2 0)],[mB 0,stB 2,stB 7])],cv:=[]}
def y3q:List Dat→Tree Step:=evL b4g 14 14 ls0 c4t
theorem z3g: ∃op,IsL y3q 14 14 c4t op:=bxL z3a (LsOk.none _ _ _)
def z3w:OpA:=opL z3g
theorem b4i (env:List Dat):z3w env=a0b y3q FU env:=h3j z3g env
abbrev g4t:MBox:=boxL z3g
theorem a4r {n0 n1:Int}{l2:List (Ty.den TI)}{l3:List (Ty.den TQr)}{n4 n5 n6:Int}{l7:List (Ty.den TB)}{n8 n9 n10 n11:Int}{l12:List (Ty.den TB)}{n13 n14 n15 n16:Int}{l17:List (Ty.den TB)}{n18:Int}(g0:0≤n1)(h0:(n1<n0)):(y3q [.k 0,.n n0,.n n1,.l TI l2,.l TQr l3,.n n4,.n n5,.n n6,.l TB l7,.n n8,.n n9,.n n10,.n n11,.l TB l12,.n n13,.n n14,.n n15,.n n16,.l TB l17,.n n18]).sel=some (Step.go [.k 0,.n n0,.n (IntKind.wrap .i64 (n1+(1:Int))),.l TI l2,.l TQr l3,.n n4,.n n5,.n n6,.l TB l7,.n n8,.n n9,.n n10,.n n11,.l TB l12,.n n13,.n n14,.n n15,.n n16,.l TB l17,.n (ior IntKind.u32 n18 (iand IntKind.u32 n8 (ishl IntKind.u32 (1:Int) n1)))]):=sP [1]<|sT (dt h0)<|sTs (c:=(!decide (n1<(0:Int))))<|sP [1,1]<|sL
theorem a4t {n0 n1:Int}{l2:List (Ty.den TI)}{l3:List (Ty.den TQr)}{n4 n5 n6:Int}{l7:List (Ty.den TB)}{n8 n9 n10 n11:Int}{l12:List (Ty.den TB)}{n13 n14 n15 n16:Int}{l17:List (Ty.den TB)}{n18:Int}(g0:0≤n1)(h0:(¬n1<n0)):(y3q [.k 0,.n n0,.n n1,.l TI l2,.l TQr l3,.n n4,.n n5,.n n6,.l TB l7,.n n8,.n n9,.n n10,.n n11,.l TB l12,.n n13,.n n14,.n n15,.n n16,.l TB l17,.n n18]).sel=some (Step.stop 0 [.l TI l2,.l TQr l3,.n n9,.n n10,.n n11,.l TB l12,.n n13,.n n14,.n n15,.n n16,.l TB l17,.n n18]):=sP [1]<|sF (df h0)<|sP [1]<|sL
def S_i14:BSh:={args:=[.ptr 0 0,stV 0],blks:=[mB 5],log:=[],outs:=[(stV 0,[mB 5])]}
def ev_i14:List Dat→Tree (Nat×List Dat):=evF b4g 14 (lsM [(5,h4f),(14,g4t)] 1) S_i14
theorem e_i14: ∃op,IsF ev_i14 14 S_i14 op:=bxF z3a (lsE (lsC (h3i a4n) (atF) (lsC (h3i z3g) (atF) lsZ)))
def y3z:OpA:=opF e_i14
theorem e4q {n0 n1 n2:Int}{l3:List (Ty.den TB)}{n4:Int}{l5:List (Ty.den TI)}{l6:List (Ty.den TQr)}{l7:List (Ty.den TI)}{l8:List (Ty.den TQr)}{n9 n10 n11:Int}{l12:List (Ty.den TB)}{n13 n14 n15 n16:Int}{l17:List (Ty.den TB)}{n18 n19 n20 n21:Int}{l22:List (Ty.den TB)}{n23:Int}{l24:List (Ty.den TI)}{l25:List (Ty.den TQr)}{n26 n27 n28:Int}{l29:List (Ty.den TB)}{n30 n31 n32 n33:Int}{l34:List (Ty.den TB)}{n35:Int}(h0:(a4p [.k 0,.n (↑(List.length l6):Int),.n (0:Int),.l TI l5,.l TQr l6,.n n0,.n n1,.n n2,.l TB l3,.n n4,.n (0:Int),.n (0:Int),.n (0:Int),.l TB (List.replicate 64 (0:Int)),.n (0:Int),.n (0:Int),.n (0:Int),.n (0:Int),.l TB (List.replicate 64 (0:Int)),.n (0:Int)])=(some (0,[.l TI l7,.l TQr l8,.n n9,.n n10,.n n11,.l TB l12,.n n13,.n n14,.n n15,.n n16,.l TB l17,.n n18,.n n19,.n n20,.n n21,.l TB l22,.n n23])))(h1:(z3w [.k 0,.n (↑(List.length l7):Int),.n (0:Int),.l TI l7,.l TQr l8,.n n9,.n n10,.n n11,.l TB l12,.n n13,.n n14,.n n15,.n n16,.l TB l17,.n n18,.n n19,.n n20,.n n21,.l TB l22,.n n23])=(some (0,[.l TI l24,.l TQr l25,.n n26,.n n27,.n n28,.l TB l29,.n n30,.n n31,.n n32,.n n33,.l TB l34,.n n35]))):y3z [.n n0,.n n1,.n n2,.l TB l3,.n n4,.l TI l5,.l TQr l6]=some ((0,[.n n31,.n n32,.n n33,.l TB l34,.n n35,.l TI l24,.l TQr l25])):=h3h e_i14 (sP [0]<|sA h0<|sP [1]<|sA h1<|sP [1,1]<|sL)
def d4h:FuncId→Option a0q:=e1c 14 [S_i14.k y3z] b4g
theorem z3m:CsOk Try.prog d4h:=csA1 z3a e_i14
def f4n:LSh:={K:=1,log:=[],ins:=[(sh 43 [(3,.ptr 1 0),(19,.imm TQr 0),(20,.int .i64 1),(21,.int .i64 2)],[mB 3,stB 5])],nils:=[],outs:=[(.exit 0,sh 43 [],[mB 0]),(.ret,sh 43 [(4,.bool 0)],[mB 1])],cv:=[]}
def y3m:List Dat→Tree Step:=evL d4h 15 4 ls0 f4n
theorem a4m: ∃op,IsL y3m 15 4 f4n op:=bxL z3m (LsOk.none _ _ _)
def z3k:OpA:=opL a4m
theorem b4w (env:List Dat):z3k env=a0b y3m FU env:=h3j a4m env
abbrev h4y:MBox:=boxL a4m
theorem c4m {l0:List (Ty.den TQr)}{n1 n2:Int}{l3:List (Ty.den TI)}{l4:List (Ty.den TQr)}{n5 n6 n7:Int}{l8:List (Ty.den TB)}{n9:Int}{b10 b11:Bool}(g0:0≤n2)(g1:n1=(l0.length:Int))(h0:(n2<n1))(h1:(w3v [.n n5,.n n2])=(some (0,[.b b10])))(h2:(b10=true))(h3:(a4f [.n n5,.n n6,.n n7,.l TB l8,.n n9,.l TI (Prod.snd (Prod.snd (Prod.snd (Prod.snd (List.getD l0 (Int.toNat n2) (Ty.dflt TQr))))))])=(some (0,[.b b11])))(h4:(b11=true)):(y3m [.k 0,.l TQr l0,.n n1,.n n2,.l TI l3,.l TQr l4,.n n5,.n n6,.n n7,.l TB l8,.n n9]).sel=some (Step.stop 1 [.b false,.l TI l3,.l TQr l4]):=sP [1]<|sT (dt h0)<|sTo (c:=(inR n2 (List.length l0)))<|sA h1<|sP [1,1]<|sT h2<|sA h3<|sP [1,1]<|sT h4<|sP [1,1,1]<|sL
theorem c4j {l0:List (Ty.den TQr)}{n1 n2:Int}{l3:List (Ty.den TI)}{l4:List (Ty.den TQr)}{n5 n6 n7:Int}{l8:List (Ty.den TB)}{n9:Int}{b10 b11 b12:Bool}(g0:0≤n2)(g1:n1=(l0.length:Int))(h0:(n2<n1))(h1:(w3v [.n n5,.n n2])=(some (0,[.b b10])))(h2:(b10=true))(h3:(a4f [.n n5,.n n6,.n n7,.l TB l8,.n n9,.l TI (Prod.snd (Prod.snd (Prod.snd (Prod.snd (List.getD l0 (Int.toNat n2) (Ty.dflt TQr))))))])=(some (0,[.b b11])))(h4:(b11=false))(h5:(b4l [.n n5,.n n6,.n n7,.l TB l8,.n n9,.n (Prod.fst (List.getD l0 (Int.toNat n2) (Ty.dflt TQr))),.n (Prod.fst (Prod.snd (List.getD l0 (Int.toNat n2) (Ty.dflt TQr)))),.l TI (Prod.fst (Prod.snd (Prod.snd (List.getD l0 (Int.toNat n2) (Ty.dflt TQr))))),.l TNd (Prod.fst (Prod.snd (Prod.snd (Prod.snd (List.getD l0 (Int.toNat n2) (Ty.dflt TQr)))))),.l TI (Prod.snd (Prod.snd (Prod.snd (Prod.snd (List.getD l0 (Int.toNat n2) (Ty.dflt TQr))))))])=(some (0,[.b b12])))(h6:(b12=false)):(y3m [.k 0,.l TQr l0,.n n1,.n n2,.l TI l3,.l TQr l4,.n n5,.n n6,.n n7,.l TB l8,.n n9]).sel=some (Step.stop 1 [.b false,.l TI l3,.l TQr l4]):=sP [1]<|sT (dt h0)<|sTo (c:=(inR n2 (List.length l0)))<|sA h1<|sP [1,1]<|sT h2<|sA h3<|sP [1,1]<|sF h4<|sA h5<|sP [1,1]<|sT (nf h6)<|sP [1]<|sL
theorem c4b {l0:List (Ty.den TQr)}{n1 n2:Int}{l3:List (Ty.den TI)}{l4:List (Ty.den TQr)}{n5 n6 n7:Int}{l8:List (Ty.den TB)}{n9:Int}{b10 b11 b12:Bool}(g0:0≤n2)(g1:n1=(l0.length:Int))(h0:(n2<n1))(h1:(w3v [.n n5,.n n2])=(some (0,[.b b10])))(h2:(b10=true))(h3:(a4f [.n n5,.n n6,.n n7,.l TB l8,.n n9,.l TI (Prod.snd (Prod.snd (Prod.snd (Prod.snd (List.getD l0 (Int.toNat n2) (Ty.dflt TQr))))))])=(some (0,[.b b11])))(h4:(b11=false))(h5:(b4l [.n n5,.n n6,.n n7,.l TB l8,.n n9,.n (Prod.fst (List.getD l0 (Int.toNat n2) (Ty.dflt TQr))),.n (Prod.fst (Prod.snd (List.getD l0 (Int.toNat n2) (Ty.dflt TQr)))),.l TI (Prod.fst (Prod.snd (Prod.snd (List.getD l0 (Int.toNat n2) (Ty.dflt TQr))))),.l TNd (Prod.fst (Prod.snd (Prod.snd (Prod.snd (List.getD l0 (Int.toNat n2) (Ty.dflt TQr)))))),.l TI (Prod.snd (Prod.snd (Prod.snd (Prod.snd (List.getD l0 (Int.toNat n2) (Ty.dflt TQr))))))])=(some (0,[.b b12])))(h6:(b12=true)):(y3m [.k 0,.l TQr l0,.n n1,.n n2,.l TI l3,.l TQr l4,.n n5,.n n6,.n n7,.l TB l8,.n n9]).sel=some (Step.go [.k 0,.l TQr l0,.n n1,.n (IntKind.wrap .i64 (n2+(1:Int))),.l TI l3,.l TQr l4,.n n5,.n n6,.n n7,.l TB l8,.n n9]):=sP [1]<|sT (dt h0)<|sTo (c:=(inR n2 (List.length l0)))<|sA h1<|sP [1,1]<|sT h2<|sA h3<|sP [1,1]<|sF h4<|sA h5<|sP [1,1]<|sF (nt h6)<|sP [1]<|sL
theorem c4g {l0:List (Ty.den TQr)}{n1 n2:Int}{l3:List (Ty.den TI)}{l4:List (Ty.den TQr)}{n5 n6 n7:Int}{l8:List (Ty.den TB)}{n9:Int}{b10:Bool}(g0:0≤n2)(g1:n1=(l0.length:Int))(h0:(n2<n1))(h1:(w3v [.n n5,.n n2])=(some (0,[.b b10])))(h2:(b10=false)):(y3m [.k 0,.l TQr l0,.n n1,.n n2,.l TI l3,.l TQr l4,.n n5,.n n6,.n n7,.l TB l8,.n n9]).sel=some (Step.go [.k 0,.l TQr l0,.n n1,.n (IntKind.wrap .i64 (n2+(1:Int))),.l TI l3,.l TQr l4,.n n5,.n n6,.n n7,.l TB l8,.n n9]):=sP [1]<|sT (dt h0)<|sTo (c:=(inR n2 (List.length l0)))<|sA h1<|sP [1,1]<|sF h2<|sP [0,0,1]<|sL
theorem b4y {l0:List (Ty.den TQr)}{n1 n2:Int}{l3:List (Ty.den TI)}{l4:List (Ty.den TQr)}{n5 n6 n7:Int}{l8:List (Ty.den TB)}{n9:Int}(g0:0≤n2)(g1:n1=(l0.length:Int))(h0:(¬n2<n1)):(y3m [.k 0,.l TQr l0,.n n1,.n n2,.l TI l3,.l TQr l4,.n n5,.n n6,.n n7,.l TB l8,.n n9]).sel=some (Step.stop 0 [.l TI l3,.l TQr l4]):=sP [1]<|sF (df h0)<|sP [1]<|sL
def S_i15:BSh:={args:=[.ptr 0 0,stV 0],blks:=[mB 5],log:=[],outs:=[(.bool 0,[mB 1])]}
def ev_i15:List Dat→Tree (Nat×List Dat):=evF d4h 15 (lsM [(4,h4y)] 1) S_i15
theorem e4d: ∃op,IsF ev_i15 15 S_i15 op:=bxF z3m (lsE (lsC (h3i a4m) (atF) lsZ))
def z3e:OpA:=opF e4d
theorem g4d {n0 n1 n2:Int}{l3:List (Ty.den TB)}{n4:Int}{l5:List (Ty.den TI)}{l6:List (Ty.den TQr)}{n7 n8 n9:Int}{l10:List (Ty.den TB)}{n11:Int}{l12:List (Ty.den TI)}{l13:List (Ty.den TQr)}(h0:(y3z [.n n0,.n n1,.n n2,.l TB l3,.n n4,.l TI l5,.l TQr l6])=(some (0,[.n n7,.n n8,.n n9,.l TB l10,.n n11,.l TI l12,.l TQr l13])))(h1:((n0==n7&&(n1==n8&&(n2==n9&&(eqL TB l3 l10&&(n4==n11&&true)))))=false)):z3e [.n n0,.n n1,.n n2,.l TB l3,.n n4,.l TI l5,.l TQr l6]=some ((0,[.b false,.l TI l5,.l TQr l6])):=h3h e4d (sP [0,1]<|sA h0<|sP [1,1,1]<|sT (nf h1)<|sP [1]<|sL)
theorem e4g {n0 n1 n2:Int}{l3:List (Ty.den TB)}{n4:Int}{l5:List (Ty.den TI)}{l6:List (Ty.den TQr)}{n7 n8 n9:Int}{l10:List (Ty.den TB)}{n11:Int}{l12:List (Ty.den TI)}{l13:List (Ty.den TQr)}{l14:List (Ty.den TI)}{l15:List (Ty.den TQr)}(h0:(y3z [.n n0,.n n1,.n n2,.l TB l3,.n n4,.l TI l5,.l TQr l6])=(some (0,[.n n7,.n n8,.n n9,.l TB l10,.n n11,.l TI l12,.l TQr l13])))(h1:((n0==n7&&(n1==n8&&(n2==n9&&(eqL TB l3 l10&&(n4==n11&&true)))))=true))(h2:(z3k [.k 0,.l TQr l6,.n (↑(List.length l6):Int),.n (0:Int),.l TI l5,.l TQr l6,.n n0,.n n1,.n n2,.l TB l3,.n n4])=(some (0,[.l TI l14,.l TQr l15]))):z3e [.n n0,.n n1,.n n2,.l TB l3,.n n4,.l TI l5,.l TQr l6]=some ((0,[.b true,.l TI l14,.l TQr l15])):=h3h e4d (sP [0,1]<|sA h0<|sP [1,1,1]<|sF (nt h1)<|sA h2<|sP [1,1]<|sL)
theorem g4p {n0 n1 n2:Int}{l3:List (Ty.den TB)}{n4:Int}{l5:List (Ty.den TI)}{l6:List (Ty.den TQr)}{n7 n8 n9:Int}{l10:List (Ty.den TB)}{n11:Int}{l12:List (Ty.den TI)}{l13:List (Ty.den TQr)}{b14:Bool}{l15:List (Ty.den TI)}{l16:List (Ty.den TQr)}(h0:(y3z [.n n0,.n n1,.n n2,.l TB l3,.n n4,.l TI l5,.l TQr l6])=(some (0,[.n n7,.n n8,.n n9,.l TB l10,.n n11,.l TI l12,.l TQr l13])))(h1:((n0==n7&&(n1==n8&&(n2==n9&&(eqL TB l3 l10&&(n4==n11&&true)))))=true))(h2:(z3k [.k 0,.l TQr l6,.n (↑(List.length l6):Int),.n (0:Int),.l TI l5,.l TQr l6,.n n0,.n n1,.n n2,.l TB l3,.n n4])=(some (1,[.b b14,.l TI l15,.l TQr l16]))):z3e [.n n0,.n n1,.n n2,.l TB l3,.n n4,.l TI l5,.l TQr l6]=some ((0,[.b b14,.l TI l15,.l TQr l16])):=h3h e4d (sP [0,1]<|sA h0<|sP [1,1,1]<|sF (nt h1)<|sA h2<|sP [0,1,1]<|sL)
def d4o:FuncId→Option a0q:=e1c 15 [S_i15.k z3e] d4h
theorem z3r:CsOk Try.prog d4o:=csA1 z3m e4d
def f4b:LSh:={K:=2,log:=[0],ins:=[(sh 86 [(2,.ptr 2 0),(63,.imm TNd 0),(64,.int .i64 1),(65,.int .i64 2)],[cyB 1 3,mB 12,pcB 0])],nils:=[],outs:=[(.exit 0,sh 86 [],[cyB 1 0,mB 9])],cv:=[]}
def h4b:List Dat→Tree Step:=evL d4o 67 7 ls0 f4b
theorem d4z: ∃op,IsL h4b 67 7 f4b op:=bxL z3r (LsOk.none _ _ _)
abbrev h4t:MBox:=boxL d4z
def S_i67:BSh:={args:=[.ptr 0 0,.int .i64 0],blks:=[cyB 1 1,mB 10],log:=[0],outs:=[(.tup [],[cyB 1 0,mB 9])]}
def ev_i67:List Dat→Tree (Nat×List Dat):=evF d4o 67 (lsM [(7,h4t)] 2) S_i67
theorem e_i67: ∃op,IsF ev_i67 67 S_i67 op:=bxF z3r (lsE (lsC (h3i d4z) (atF) lsZ))
def op_i67:OpA:=opF e_i67
def g4l:FuncId→Option a0q:=e1c 67 [S_i67.k op_i67] d4o
theorem b4d:CsOk Try.prog g4l:=csA1 z3r e_i67
def S_i68:BSh:={args:=[.ptr 0 0,.int .i64 0],blks:=[cyB 1 1,mB 10],log:=[0],outs:=[(.tup [],[cyB 1 0,mB 9])]}
def ev_i68:List Dat→Tree (Nat×List Dat):=evF g4l 68 ls0 S_i68
theorem e_i68: ∃op,IsF ev_i68 68 S_i68 op:=bxF b4d (LsOk.none _ _ _)
def op_i68:OpA:=opF e_i68
def d4q:FuncId→Option a0q:=e1c 68 [S_i68.k op_i68] g4l
theorem a4d:CsOk Try.prog d4q:=csA1 b4d e_i68
def e4l:LSh:={K:=2,log:=[],ins:=[(sh 73 [(0,.ptr 0 0),(3,.ptr 2 0),(41,.imm TQr 0),(42,.int .i64 1),(43,.int .i64 2)],[cyB 1 3,mB 12,icB 14])],nils:=[],outs:=[(.exit 0,sh 73 [(0,.ptr 0 0),(3,.ptr 2 0)],[cyB 1 0,mB 9,icB 11]),(.ret,sh 73 [],[cyB 1 0,mB 9])],cv:=[]}
def i4n:List Dat→Tree Step:=evL d4q 69 3 ls0 e4l
theorem e4c: ∃op,IsL i4n 69 3 e4l op:=bxL a4d (LsOk.none _ _ _)
abbrev i4f:MBox:=boxL e4c
def S_i69:BSh:={args:=[.ptr 0 0,.int .i64 0],blks:=[cyB 1 1,mB 10],log:=[0],outs:=[(.tup [],[cyB 1 0,mB 9])]}
def ev_i69:List Dat→Tree (Nat×List Dat):=evF d4q 69 (lsM [(3,i4f)] 2) S_i69
theorem e_i69: ∃op,IsF ev_i69 69 S_i69 op:=bxF a4d (lsE (lsC (h3i e4c) (atF) lsZ))
def op_i69:OpA:=opF e_i69
def d4a:FuncId→Option a0q:=e1c 69 [S_i69.k op_i69] d4q
theorem z3z:CsOk Try.prog d4a:=csA1 a4d e_i69
def f4y:LSh:={K:=2,log:=[0],ins:=[(sh 42 [(0,.ptr 0 0),(2,.ptr 2 0),(16,.imm TCmd 0),(17,.int .i64 1),(18,.int .i64 2)],[cyB 1 3,mB 12,dosB])],nils:=[],outs:=[(.exit 0,sh 42 [],[cyB 1 0,mB 9]),(.ret,sh 42 [],[cyB 1 0,mB 9])],cv:=[]}
def h4s:List Dat→Tree Step:=evL d4a 34 2 ls0 f4y
theorem f4x: ∃op,IsL h4s 34 2 f4y op:=bxL z3z (LsOk.none _ _ _)
abbrev i4t:MBox:=boxL f4x
def S_i34:BSh:={args:=[.ptr 0 0],blks:=[cyB 1 0,mB 9],log:=[0],outs:=[(.tup [],[cyB 1 0,mB 9])]}
def ev_i34:List Dat→Tree (Nat×List Dat):=evF d4a 34 (lsM [(2,i4t)] 2) S_i34
theorem e_i34: ∃op,IsF ev_i34 34 S_i34 op:=bxF z3z (lsE (lsC (h3i f4x) (atF) lsZ))
def op_i34:OpA:=opF e_i34
def d4u:FuncId→Option a0q:=e1c 34 [S_i34.k op_i34] d4a
theorem a4s:CsOk Try.prog d4u:=csA1 z3z e_i34
def S_i70:BSh:={args:=[.ptr 0 0,.int .i64 0],blks:=[cyB 1 1,mB 10],log:=[0],outs:=[(.tup [],[cyB 1 0,mB 9])]}
def ev_i70:List Dat→Tree (Nat×List Dat):=evF d4u 70 ls0 S_i70
theorem e_i70: ∃op,IsF ev_i70 70 S_i70 op:=bxF a4s (LsOk.none _ _ _)
def op_i70:OpA:=opF e_i70
def g4i:FuncId→Option a0q:=e1c 70 [S_i70.k op_i70] d4u
theorem a4y:CsOk Try.prog g4i:=csA1 a4s e_i70
def S_i35:BSh:={args:=[.ptr 0 0,.int .i64 0,.int .u64 1],blks:=[cyB 1 2,mB 11],log:=[0],outs:=[(.tup [],[cyB 1 0,mB 9])]}
def ev_i35:List Dat→Tree (Nat×List Dat):=evF g4i 35 ls0 S_i35
theorem e_i35: ∃op,IsF ev_i35 35 S_i35 op:=bxF a4y (LsOk.none _ _ _)
def op_i35:OpA:=opF e_i35
def d4b:FuncId→Option a0q:=e1c 35 [S_i35.k op_i35] g4i
theorem z3t:CsOk Try.prog d4b:=csA1 a4y e_i35
def f4l:LSh:={K:=2,log:=[],ins:=[(sh 77 [(0,.ptr 0 0),(2,.ptr 2 0),(3,.ptr 3 0),(6,fnC 73 [.ptr 4 0,.ptr 5 0]),(31,.imm TQr 0),(32,.int .i64 1),(33,.int .i64 2)],[cyB 1 3,mB 12,ouB 14,ouB 16,wcB 18,wcB 19])],nils:=[],outs:=[(.exit 0,sh 77 [(2,.ptr 2 0),(3,.ptr 3 0)],[cyB 1 0,mB 9,ouB 11,ouB 13])],cv:=[]}
def i4q:List Dat→Tree Step:=evL d4b 36 5 ls0 f4l
theorem e4x: ∃op,IsL i4q 36 5 f4l op:=bxL z3t (LsOk.none _ _ _)
abbrev i4m:MBox:=boxL e4x
def S_i36:BSh:={args:=[.ptr 0 0],blks:=[cyB 1 0,mB 9],log:=[],outs:=[(ouV 0,[cyB 1 2,mB 11])]}
def ev_i36:List Dat→Tree (Nat×List Dat):=evF d4b 36 (lsM [(5,i4m)] 2) S_i36
theorem e_i36: ∃op,IsF ev_i36 36 S_i36 op:=bxF z3t (lsE (lsC (h3i e4x) (atF) lsZ))
def op_i36:OpA:=opF e_i36
def d4n:FuncId→Option a0q:=e1c 36 [S_i36.k op_i36] d4b
theorem z3x:CsOk Try.prog d4n:=csA1 z3t e_i36
def f4p:LSh:={K:=1,log:=[],ins:=[(sh 40 [(0,.ptr 0 0),(6,.ptr 1 0),(7,.ptr 2 0),(8,.ptr 3 0),(9,.int .u64 0),(29,.int .i64 1),(30,.int .i64 2)],[mB 3,stB 5,ouB 10,cyB 0 12])],nils:=[],outs:=[(.exit 0,sh 40 [(0,.ptr 0 0),(6,.ptr 1 0),(7,.ptr 2 0),(8,.ptr 3 0)],[mB 0,stB 2,ouB 7,cyB 0 9])],cv:=[]}
def h4g:List Dat→Tree Step:=evL d4n 13 7 ls0 f4p
theorem e4p: ∃op,IsL h4g 13 7 f4p op:=bxL z3x (LsOk.none _ _ _)
abbrev h4k:MBox:=boxL e4p
def S_i13:BSh:={args:=[.ptr 0 0,stV 0,ipV 5],blks:=[mB 9],log:=[],outs:=[(.tup [stV 0,ouV 5],[mB 7])]}
def ev_i13:List Dat→Tree (Nat×List Dat):=evF d4n 13 (lsM [(7,h4k)] 1) S_i13
theorem e_i13: ∃op,IsF ev_i13 13 S_i13 op:=bxF z3x (lsE (lsC (h3i e4p) (atF) lsZ))
def op_i13:OpA:=opF e_i13
def d4g:FuncId→Option a0q:=e1c 13 [S_i13.k op_i13] d4n
theorem z3v:CsOk Try.prog d4g:=csA1 z3x e_i13
def cmV (h:Nat):PV:=.agg [.int .u8 h,.int .i64 (h+1)]
def n3m:LSh:={K:=0,log:=[],ins:=[(sh 13 [(0,.int .i64 0),(3,.int .u64 1),(4,.int .i64 2)],[])],nils:=[],outs:=[(.exit 0,sh 13 [(3,.int .u64 0)],[])],cv:=[]}
def i3a:List Dat→Tree Step:=evL d4g 51 3 ls0 n3m
theorem j3d: ∃op,IsL i3a 51 3 n3m op:=bxL z3v (LsOk.none _ _ _)
def l3u:OpA:=opL j3d
theorem l3e (env:List Dat):l3u env=a0b i3a FU env:=h3j j3d env
abbrev o3l:MBox:=boxL j3d
theorem k3z {n0 n1 n2:Int}(h0:(n2<n0)):(i3a [.k 0,.n n0,.n n1,.n n2]).sel=some (Step.go [.k 0,.n n0,.n (IntKind.wrap .u64 (n1*(2:Int))),.n (IntKind.wrap .i64 (n2+(1:Int)))]):=sP [1]<|sT (dt h0)<|sP [1]<|sL
theorem l3c {n0 n1 n2:Int}(h0:(¬n2<n0)):(i3a [.k 0,.n n0,.n n1,.n n2]).sel=some (Step.stop 0 [.n n1]):=sP [1]<|sF (df h0)<|sP [1]<|sL
def S_q31:BSh:={args:=[.int .i64 0],blks:=[],log:=[],outs:=[(.int .u64 0,[])]}
def t1x:List Dat→Tree (Nat×List Dat):=evF d4g 51 (lsM [(3,o3l)] 0) S_q31
theorem e_q31: ∃op,IsF t1x 51 S_q31 op:=bxF z3v (lsE (lsC (h3i j3d) (atF) lsZ))
def f1y:OpA:=opF e_q31
theorem m3t {n0 n1:Int}(h0:(l3u [.k 0,.n n0,.n (1:Int),.n (0:Int)])=(some (0,[.n n1]))):f1y [.n n0]=some ((0,[.n n1])):=h3h e_q31 (sA h0<|sP [1,1]<|sL)
def p2s:FuncId→Option a0q:=a0s 51 (S_q31.k f1y) d4g
theorem q1c:CsOk Try.prog p2s:=csL1 z3v e_q31
def S_q11:BSh:={args:=[.int .u64 0,.int .i64 1],blks:=[],log:=[],outs:=[(.bool 0,[])]}
def x1r:List Dat→Tree (Nat×List Dat):=evF p2s 23 ls0 S_q11
theorem o3c: ∃op,IsF x1r 23 S_q11 op:=bxF q1c (LsOk.none _ _ _)
def a1u:OpA:=opF o3c
theorem m3u {n0 n1 n2:Int}(h0:(n1≥(0:Int)))(h1:(n1≤(63:Int)))(h2:(f1y [.n n1])=(some (0,[.n n2])))(h3:(¬n2=(0:Int))):a1u [.n n0,.n n1]=some ((0,[.b (Int.tmod (IntKind.wrap .u64 (Int.tdiv n0 n2)) (2:Int)==(1:Int))])):=h3h o3c (sT (dt h0)<|sT (dt h1)<|sA h2<|sP [1,1]<|sT (nf (df h3))<|sP [1,1]<|sL)
theorem n3v {n0 n1:Int}(h0:(n1≥(0:Int)))(h1:(¬n1≤(63:Int))):a1u [.n n0,.n n1]=some ((0,[.b false])):=h3h o3c (sT (dt h0)<|sF (df h1)<|sP [0,1]<|sL)
theorem n3s {n0 n1:Int}(h0:(¬n1≥(0:Int))):a1u [.n n0,.n n1]=some ((0,[.b false])):=h3h o3c (sF (df h0)<|sP [0,0,0,1]<|sL)
def i2o:FuncId→Option a0q:=a0s 23 (S_q11.k a1u) p2s
theorem m1y:CsOk Try.prog i2o:=csL1 q1c o3c
def S_q13:BSh:={args:=[.int .u64 0,.int .i64 1],blks:=[],log:=[],outs:=[(.int .u64 0,[])]}
def a2r:List Dat→Tree (Nat×List Dat):=evF i2o 80 ls0 S_q13
theorem m3a: ∃op,IsF a2r 80 S_q13 op:=bxF m1y (LsOk.none _ _ _)
def o1n:OpA:=opF m3a
theorem m3j {n0 n1:Int}(h0:(n1<(0:Int))):o1n [.n n0,.n n1]=some ((0,[.n n0])):=h3h m3a (sT (dt h0)<|sP [1,1,1,1,1]<|sL)
theorem o3f {n0 n1:Int}(h0:(¬n1<(0:Int)))(h1:(n1>(63:Int))):o1n [.n n0,.n n1]=some ((0,[.n n0])):=h3h m3a (sF (df h0)<|sT (dt h1)<|sP [1,1,1]<|sL)
theorem o3d {n0 n1:Int}{b2:Bool}(h0:(¬n1<(0:Int)))(h1:(¬n1>(63:Int)))(h2:(a1u [.n n0,.n n1])=(some (0,[.b b2])))(h3:(b2=true)):o1n [.n n0,.n n1]=some ((0,[.n n0])):=h3h m3a (sF (df h0)<|sF (df h1)<|sA h2<|sP [1,1]<|sT h3<|sP [1]<|sL)
theorem n3k {n0 n1:Int}{b2:Bool}{n3:Int}(h0:(¬n1<(0:Int)))(h1:(¬n1>(63:Int)))(h2:(a1u [.n n0,.n n1])=(some (0,[.b b2])))(h3:(b2=false))(h4:(f1y [.n n1])=(some (0,[.n n3]))):o1n [.n n0,.n n1]=some ((0,[.n (IntKind.wrap .u64 (n0+n3))])):=h3h m3a (sF (df h0)<|sF (df h1)<|sA h2<|sP [1,1]<|sF h3<|sA h4<|sP [1,1,1]<|sL)
def y1c:FuncId→Option a0q:=a0s 80 (S_q13.k o1n) i2o
theorem c1e:CsOk Try.prog y1c:=csL1 m1y m3a
def m3z:LSh:={K:=0,log:=[],ins:=[(sh 18 [(0,.int .i64 0),(3,.int .u64 1),(4,.int .i64 2)],[])],nils:=[],outs:=[(.exit 0,sh 18 [(3,.int .u64 0)],[])],cv:=[]}
def h3q:List Dat→Tree Step:=evL y1c 41 3 ls0 m3z
theorem i3z: ∃op,IsL h3q 41 3 m3z op:=bxL c1e (LsOk.none _ _ _)
def l3g:OpA:=opL i3z
theorem l3d (env:List Dat):l3g env=a0b h3q FU env:=h3j i3z env
abbrev o3r:MBox:=boxL i3z
theorem k3l {n0 n1 n2 n3:Int}(h0:(n2<n0))(h1:(n2<(64:Int)))(h2:(o1n [.n n1,.n n2])=(some (0,[.n n3]))):(h3q [.k 0,.n n0,.n n1,.n n2]).sel=some (Step.go [.k 0,.n n0,.n n3,.n (IntKind.wrap .i64 (n2+(1:Int)))]):=sP [1]<|sT (dt h0)<|sT (dt h1)<|sA h2<|sP [1,1,1]<|sL
theorem k3o {n0 n1 n2:Int}(h0:(n2<n0))(h1:(¬n2<(64:Int))):(h3q [.k 0,.n n0,.n n1,.n n2]).sel=some (Step.stop 0 [.n n1]):=sP [1]<|sT (dt h0)<|sF (df h1)<|sP [1]<|sL
theorem k3m {n0 n1 n2:Int}(h0:(¬n2<n0)):(h3q [.k 0,.n n0,.n n1,.n n2]).sel=some (Step.stop 0 [.n n1]):=sP [1]<|sF (df h0)<|sP [0,0,1]<|sL
def S_q27:BSh:={args:=[.int .i64 0],blks:=[],log:=[],outs:=[(.int .u64 0,[])]}
def y1a:List Dat→Tree (Nat×List Dat):=evF y1c 41 (lsM [(3,o3r)] 0) S_q27
theorem e_q27: ∃op,IsF y1a 41 S_q27 op:=bxF c1e (lsE (lsC (h3i i3z) (atF) lsZ))
def g1d:OpA:=opF e_q27
theorem n3c {n0 n1:Int}(h0:(l3g [.k 0,.n n0,.n (0:Int),.n (0:Int)])=(some (0,[.n n1]))):g1d [.n n0]=some ((0,[.n n1])):=h3h e_q27 (sA h0<|sP [1,1]<|sL)
def m3n:FuncId→Option a0q:=a0s 41 (S_q27.k g1d) y1c
theorem o2v:CsOk Try.prog m3n:=csL1 c1e e_q27
def g4f:LSh:={K:=0,log:=[],ins:=[(sh 55 [(2,.ptr 0 0),(3,.ptr 1 0),(4,.ptr 2 0),(5,.ptr 3 0),(6,.int .i64 0)],[laB 1,stB 5,stB 10,stB 15])],nils:=[],outs:=[(.exit 0,sh 55 [(4,.ptr 0 0),(5,.ptr 1 0)],[stB 0,stB 5])],cv:=[]}
def y3n:List Dat→Tree Step:=evL m3n 17 5 ls0 g4f
theorem a4j: ∃op,IsL y3n 17 5 g4f op:=bxL o2v (LsOk.none _ _ _)
def z3j:OpA:=opL a4j
theorem c4d (env:List Dat):z3j env=a0b y3n FU env:=h3j a4j env
abbrev i4l:MBox:=boxL a4j
theorem b4t {n0:Int}{l1:List (Ty.den TS)}{l2 l3:List (Ty.den TPt)}{l4:List (Ty.den TRt)}{n5 n6 n7:Int}{l8:List (Ty.den TB)}{n9 n10 n11 n12:Int}{l13:List (Ty.den TB)}{n14 n15 n16 n17:Int}{l18:List (Ty.den TB)}{n19:Int}{b20:Bool}(g0:0≤n0)(h0:(n0<(↑(List.length l4):Int)))(h1:(a1u [.n n17,.n n0])=(some (0,[.b b20])))(h2:(b20=true))(h3:(inR n0 64=true)):(y3n [.k 0,.n n0,.l TS l1,.l TPt l2,.l TPt l3,.l TRt l4,.n n5,.n n6,.n n7,.l TB l8,.n n9,.n n10,.n n11,.n n12,.l TB l13,.n n14,.n n15,.n n16,.n n17,.l TB l18,.n n19]).sel=some (Step.go [.k 0,.n (IntKind.wrap .i64 (n0+(1:Int))),.l TS l1,.l TPt l2,.l TPt l3,.l TRt l4,.n n5,.n n6,.n n7,.l TB l8,.n n9,.n n10,.n n11,.n n12,.l TB l13,.n n14,.n n15,.n n16,.n n17,.l TB (List.set l18 (Int.toNat n0) (imin (List.getD l8 (Int.toNat n0) (0:Int)) (20:Int))),.n n19]):=sP [1]<|sT (dt h0)<|sA h1<|sP [1,1]<|sT h2<|sT h3<|sT h3<|sP [1]<|sL
theorem b4s {n0:Int}{l1:List (Ty.den TS)}{l2 l3:List (Ty.den TPt)}{l4:List (Ty.den TRt)}{n5 n6 n7:Int}{l8:List (Ty.den TB)}{n9 n10 n11 n12:Int}{l13:List (Ty.den TB)}{n14 n15 n16 n17:Int}{l18:List (Ty.den TB)}{n19:Int}{b20:Bool}(g0:0≤n0)(h0:(n0<(↑(List.length l4):Int)))(h1:(a1u [.n n17,.n n0])=(some (0,[.b b20])))(h2:(b20=false)):(y3n [.k 0,.n n0,.l TS l1,.l TPt l2,.l TPt l3,.l TRt l4,.n n5,.n n6,.n n7,.l TB l8,.n n9,.n n10,.n n11,.n n12,.l TB l13,.n n14,.n n15,.n n16,.n n17,.l TB l18,.n n19]).sel=some (Step.go [.k 0,.n (IntKind.wrap .i64 (n0+(1:Int))),.l TS l1,.l TPt l2,.l TPt l3,.l TRt l4,.n n5,.n n6,.n n7,.l TB l8,.n n9,.n n10,.n n11,.n n12,.l TB l13,.n n14,.n n15,.n n16,.n n17,.l TB l18,.n n19]):=sP [1]<|sT (dt h0)<|sA h1<|sP [1,1]<|sF h2<|sP [1]<|sL
theorem c4f {n0:Int}{l1:List (Ty.den TS)}{l2 l3:List (Ty.den TPt)}{l4:List (Ty.den TRt)}{n5 n6 n7:Int}{l8:List (Ty.den TB)}{n9 n10 n11 n12:Int}{l13:List (Ty.den TB)}{n14 n15 n16 n17:Int}{l18:List (Ty.den TB)}{n19:Int}(g0:0≤n0)(h0:(¬n0<(↑(List.length l4):Int))):(y3n [.k 0,.n n0,.l TS l1,.l TPt l2,.l TPt l3,.l TRt l4,.n n5,.n n6,.n n7,.l TB l8,.n n9,.n n10,.n n11,.n n12,.l TB l13,.n n14,.n n15,.n n16,.n n17,.l TB l18,.n n19]).sel=some (Step.stop 0 [.n n10,.n n11,.n n12,.l TB l13,.n n14,.n n15,.n n16,.n n17,.l TB l18,.n n19]):=sP [1]<|sF (df h0)<|sP [1]<|sL
def S_j17:BSh:={args:=[laV 0,stV 4],blks:=[],log:=[],outs:=[(stV 0,[])]}
def ev_j17:List Dat→Tree (Nat×List Dat):=evF m3n 17 (lsM [(5,i4l)] 0) S_j17
theorem e_j17: ∃op,IsF ev_j17 17 S_j17 op:=bxF o2v (lsE (lsC (h3i a4j) (atF) lsZ))
def z3q:OpA:=opF e_j17
theorem e4j {l0:List (Ty.den TS)}{l1 l2:List (Ty.den TPt)}{l3:List (Ty.den TRt)}{n4 n5 n6:Int}{l7:List (Ty.den TB)}{n8 n9 n10 n11 n12 n13:Int}{l14:List (Ty.den TB)}{n15 n16 n17 n18:Int}{l19:List (Ty.den TB)}{n20:Int}(h0:(g1d [.n (↑(List.length l3):Int)])=(some (0,[.n n9])))(h1:(g1d [.n (↑(List.length l1):Int)])=(some (0,[.n n10])))(h2:(z3j [.k 0,.n (0:Int),.l TS l0,.l TPt l1,.l TPt l2,.l TRt l3,.n n4,.n n5,.n n6,.l TB l7,.n n8,.n (0:Int),.n (0:Int),.n (0:Int),.l TB (List.replicate 64 (0:Int)),.n (0:Int),.n (iand IntKind.u64 n4 n9),.n (iand IntKind.u64 n5 (iand IntKind.u64 n4 n9)),.n (iand IntKind.u64 n6 (iand IntKind.u64 n4 n9)),.l TB (List.replicate 64 (0:Int)),.n (iand IntKind.u32 n8 (IntKind.wrap .u32 n10))])=(some (0,[.n n11,.n n12,.n n13,.l TB l14,.n n15,.n n16,.n n17,.n n18,.l TB l19,.n n20]))):z3q [.l TS l0,.l TPt l1,.l TPt l2,.l TRt l3,.n n4,.n n5,.n n6,.l TB l7,.n n8]=some ((0,[.n n16,.n n17,.n n18,.l TB l19,.n n20])):=h3h e_j17 (sA h0<|sP [1,1]<|sA h1<|sP [1,1,1]<|sA h2<|sP [1,1]<|sL)
def d4m:FuncId→Option a0q:=a0s 17 (S_j17.k z3q) m3n
theorem z3u:CsOk Try.prog d4m:=csL1 o2v e_j17
def d4s:LSh:={K:=0,log:=[],ins:=[(sh 22 [(3,.ptr 0 0),(5,.own 1),(6,.int .i64 0)],[ipB 1,.arr TI 5])],nils:=[],outs:=[(.exit 0,sh 22 [],[]),(.ret,sh 22 [(4,.bool 0)],[])],cv:=[]}
def h4n:List Dat→Tree Step:=evL d4m 87 3 ls0 d4s
theorem f4o: ∃op,IsL h4n 87 3 d4s op:=bxL z3u (LsOk.none _ _ _)
abbrev i4b:MBox:=boxL f4o
def S_j87:BSh:={args:=[rtV 0,ipV 6],blks:=[],log:=[],outs:=[(.bool 0,[])]}
def ev_j87:List Dat→Tree (Nat×List Dat):=evF d4m 87 (lsM [(3,i4b)] 0) S_j87
theorem e_j87: ∃op,IsF ev_j87 87 S_j87 op:=bxF z3u (lsE (lsC (h3i f4o) (atF) lsZ))
def op_j87:OpA:=opF e_j87
def b4e:FuncId→Option a0q:=a0s 87 (S_j87.k op_j87) d4m
theorem z3d:CsOk Try.prog b4e:=csL1 z3u e_j87
def g4h:LSh:={K:=0,log:=[],ins:=[(sh 85 [(4,.ptr 0 0),(5,.ptr 1 0),(6,.ptr 2 0),(9,.ptr 3 0),(10,.int .i64 0)],[laB 1,stB 5,ipB 10,rtB 14])],nils:=[],outs:=[(.exit 0,sh 85 [(4,.ptr 0 0),(5,.ptr 1 0),(6,.ptr 2 0),(9,.ptr 3 0)],[laB 0,stB 4,ipB 9,rtB 13]),(.ret,sh 85 [(8,.bool 0)],[])],cv:=[]}
def h4x:List Dat→Tree Step:=evL b4e 84 5 ls0 g4h
theorem g4r: ∃op,IsL h4x 84 5 g4h op:=bxL z3d (LsOk.none _ _ _)
abbrev i4g:MBox:=boxL g4r
def c4y:LSh:={K:=0,log:=[],ins:=[(sh 85 [(4,.ptr 0 0),(5,.ptr 1 0),(6,.ptr 2 0),(11,.own 3),(12,.int .i64 0)],[laB 1,stB 5,ipB 10,.arr TNd 14])],nils:=[],outs:=[(.exit 2,sh 85 [],[]),(.ret,sh 85 [(8,.bool 0)],[])],cv:=[]}
def e4m:List Dat→Tree Step:=evL b4e 84 11 ls0 c4y
theorem c4u: ∃op,IsL e4m 84 11 c4y op:=bxL z3d (LsOk.none _ _ _)
abbrev f4t:MBox:=boxL c4u
def S_j84:BSh:={args:=[laV 0,stV 4,ipV 9,.int .i64 13],blks:=[],log:=[],outs:=[(.bool 0,[])]}
def ev_j84:List Dat→Tree (Nat×List Dat):=evF b4e 84 (lsM [(5,i4g),(11,f4t)] 0) S_j84
theorem e_j84: ∃op,IsF ev_j84 84 S_j84 op:=bxF z3d (lsE (lsC (h3i g4r) (atF) (lsC (h3i c4u) (atF) lsZ)))
def op_j84:OpA:=opF e_j84
def b4h:FuncId→Option a0q:=a0s 84 (S_j84.k op_j84) b4e
theorem z3c:CsOk Try.prog b4h:=csL1 z3d e_j84
def d4t:LSh:={K:=0,log:=[],ins:=[(sh 42 [(2,.int .i64 0),(3,.ptr 0 0),(4,.ptr 1 0),(7,.int .i64 1),(8,.own 2),(9,.int .i64 2)],[laB 3,stB 7,.arr TNd 12])],nils:=[],outs:=[(.exit 2,sh 42 [(2,.int .i64 0),(3,.ptr 0 0),(4,.ptr 1 0),(7,.int .i64 1)],[laB 2,stB 6]),(.ret,sh 42 [(6,.bool 0)],[])],cv:=[]}
def h4q:List Dat→Tree Step:=evL b4h 86 6 ls0 d4t
theorem e4n: ∃op,IsL h4q 86 6 d4t op:=bxL z3c (LsOk.none _ _ _)
abbrev i4e:MBox:=boxL e4n
def g4s:LSh:={K:=0,log:=[],ins:=[(sh 42 [(2,.int .i64 0),(3,.ptr 0 0),(4,.ptr 1 0),(7,.int .i64 1)],[laB 2,stB 6])],nils:=[],outs:=[(.exit 0,sh 42 [],[]),(.ret,sh 42 [(6,.bool 0)],[])],cv:=[]}
def h4z:List Dat→Tree Step:=evL b4h 86 2 (lsM [(6,i4e)] 0) g4s
theorem e4t: ∃op,IsL h4z 86 2 g4s op:=bxL z3c (lsE (lsC (h3i e4n) (by kernel_rfl) lsZ))
abbrev h4i:MBox:=boxL e4t
def S_j86:BSh:={args:=[laV 0,stV 4,.int .i64 9],blks:=[],log:=[],outs:=[(.bool 0,[])]}
def ev_j86:List Dat→Tree (Nat×List Dat):=evF b4h 86 (lsM [(2,h4i)] 0) S_j86
theorem e_j86: ∃op,IsF ev_j86 86 S_j86 op:=bxF z3c (lsE (lsC (h3i e4t) (atF) lsZ))
def op_j86:OpA:=opF e_j86
def d4f:FuncId→Option a0q:=a0s 86 (S_j86.k op_j86) b4h
theorem z3y:CsOk Try.prog d4f:=csL1 z3c e_j86
def e4s:LSh:={K:=0,log:=[],ins:=[(sh 83 [(2,.ptr 0 0),(3,.ptr 1 0),(6,.int .i64 0)],[laB 1,ipB 5])],nils:=[],outs:=[(.exit 0,sh 83 [],[]),(.ret,sh 83 [(4,.bool 0)],[])],cv:=[]}
def h4o:List Dat→Tree Step:=evL d4f 83 7 ls0 e4s
theorem g4g: ∃op,IsL h4o 83 7 e4s op:=bxL z3y (LsOk.none _ _ _)
abbrev i4v:MBox:=boxL g4g
def S_j83:BSh:={args:=[laV 0,ipV 4],blks:=[],log:=[],outs:=[(.bool 0,[])]}
def ev_j83:List Dat→Tree (Nat×List Dat):=evF d4f 83 (lsM [(7,i4v)] 0) S_j83
theorem e_j83: ∃op,IsF ev_j83 83 S_j83 op:=bxF z3y (lsE (lsC (h3i g4g) (atF) lsZ))
def op_j83:OpA:=opF e_j83
def e4z:FuncId→Option a0q:=a0s 83 (S_j83.k op_j83) d4f
theorem a4z:CsOk Try.prog e4z:=csL1 z3y e_j83
def S_j88:BSh:={args:=[stV 0,.int .i64 5],blks:=[],log:=[],outs:=[(stV 0,[])]}
def ev_j88:List Dat→Tree (Nat×List Dat):=evF e4z 88 ls0 S_j88
theorem e_j88: ∃op,IsF ev_j88 88 S_j88 op:=bxF a4z (LsOk.none _ _ _)
def op_j88:OpA:=opF e_j88
def d4i:FuncId→Option a0q:=a0s 88 (S_j88.k op_j88) e4z
theorem a4b:CsOk Try.prog d4i:=csL1 a4z e_j88
def f4h:LSh:={K:=0,log:=[],ins:=[(sh 153 [(5,.ptr 0 0),(8,.ptr 1 0),(9,.own 2),(10,.int .i64 0)],[stB 1,stB 6,.arr TNd 11])],nils:=[],outs:=[(.exit 1,sh 153 [(5,.ptr 0 0),(8,.ptr 1 0)],[stB 0,stB 5])],cv:=[]}
def i4j:List Dat→Tree Step:=evL d4i 45 7 ls0 f4h
theorem e4h: ∃op,IsL i4j 45 7 f4h op:=bxL a4b (LsOk.none _ _ _)
abbrev i4o:MBox:=boxL e4h
def S_j45:BSh:={args:=[laV 0,stV 4,ipV 9,cmV 13],blks:=[],log:=[],outs:=[(stV 0,[])]}
def ev_j45:List Dat→Tree (Nat×List Dat):=evF d4i 45 (lsM [(7,i4o)] 0) S_j45
theorem e_j45: ∃op,IsF ev_j45 45 S_j45 op:=bxF a4b (lsE (lsC (h3i e4h) (atF) lsZ))
def op_j45:OpA:=opF e_j45
def d4x:FuncId→Option a0q:=a0s 45 (S_j45.k op_j45) d4i
theorem b4f:CsOk Try.prog d4x:=csL1 a4b e_j45
def S_j46:BSh:={args:=[laV 0,stV 4,ipV 9,.int .i64 13,.int .u64 14],blks:=[],log:=[],outs:=[(stV 0,[])]}
def ev_j46:List Dat→Tree (Nat×List Dat):=evF d4x 46 ls0 S_j46
theorem e_j46: ∃op,IsF ev_j46 46 S_j46 op:=bxF b4f (LsOk.none _ _ _)
def op_j46:OpA:=opF e_j46
def d4c:FuncId→Option a0q:=a0s 46 (S_j46.k op_j46) d4x
theorem z3n:CsOk Try.prog d4c:=csL1 b4f e_j46
def e4r:LSh:={K:=0,log:=[],ins:=[(sh 68 [(9,.int .u32 0),(10,.int .u32 1),(11,.own 0),(12,.int .i64 2)],[.arr TNd 3])],nils:=[],outs:=[(.exit 0,sh 68 [],[]),(.ret,sh 68 [(8,.bool 0)],[])],cv:=[]}
def h4c:List Dat→Tree Step:=evL d4c 47 6 ls0 e4r
theorem g4u: ∃op,IsL h4c 47 6 e4r op:=bxL z3n (LsOk.none _ _ _)
abbrev i4d:MBox:=boxL g4u
def S_j47:BSh:={args:=[laV 0,stV 4,ipV 9,.int .i64 13],blks:=[],log:=[],outs:=[(.bool 0,[])]}
def ev_j47:List Dat→Tree (Nat×List Dat):=evF d4c 47 (lsM [(6,i4d)] 0) S_j47
theorem e_j47: ∃op,IsF ev_j47 47 S_j47 op:=bxF z3n (lsE (lsC (h3i g4u) (atF) lsZ))
def op_j47:OpA:=opF e_j47
def a4h:FuncId→Option a0q:=a0s 47 (S_j47.k op_j47) d4c
theorem y3s:CsOk Try.prog a4h:=csL1 z3n e_j47
def e4f:LSh:={K:=0,log:=[],ins:=[(sh 78 [(3,.ptr 0 0),(4,.ptr 1 0),(5,.ptr 2 0),(6,.ptr 3 0),(7,.ptr 4 0),(8,.int .u64 0),(9,.int .i64 1)],[laB 2,stB 6,ipB 11,stB 15,ouB 20])],nils:=[],outs:=[(.exit 0,sh 78 [(3,.ptr 0 0),(4,.ptr 1 0),(5,.ptr 2 0),(6,.ptr 3 0),(7,.ptr 4 0),(8,.int .u64 0)],[laB 1,stB 5,ipB 10,stB 14,ouB 19])],cv:=[]}
def h4h:List Dat→Tree Step:=evL a4h 20 4 ls0 e4f
theorem e4v: ∃op,IsL h4h 20 4 e4f op:=bxL y3s (LsOk.none _ _ _)
abbrev i4a:MBox:=boxL e4v
def f4v:LSh:={K:=0,log:=[],ins:=[(sh 78 [(3,.ptr 0 0),(4,.ptr 1 0),(5,.ptr 2 0),(6,.ptr 3 0),(7,.ptr 4 0),(8,.int .u64 0),(10,.int .i64 1)],[laB 2,stB 6,ipB 11,stB 15,ouB 20])],nils:=[],outs:=[(.exit 2,sh 78 [(3,.ptr 0 0),(4,.ptr 1 0),(5,.ptr 2 0),(6,.ptr 3 0),(7,.ptr 4 0)],[laB 0,stB 4,ipB 9,stB 13,ouB 18])],cv:=[]}
def i4i:List Dat→Tree Step:=evL a4h 20 8 ls0 f4v
theorem f4w: ∃op,IsL i4i 20 8 f4v op:=bxL y3s (LsOk.none _ _ _)
abbrev i4s:MBox:=boxL f4w
def d4j:LSh:={K:=0,log:=[],ins:=[(sh 78 [(3,.ptr 0 0),(4,.ptr 1 0),(5,.ptr 2 0),(6,.ptr 3 0),(7,.ptr 4 0),(11,.ptr 5 0),(12,.int .i64 0)],[laB 1,stB 5,ipB 10,stB 14,ouB 19,ouB 21])],nils:=[],outs:=[(.exit 4,sh 78 [(4,.ptr 0 0),(6,.ptr 1 0),(7,.ptr 2 0),(11,.ptr 3 0)],[stB 0,stB 5,ouB 10,ouB 12])],cv:=[]}
def g4a:List Dat→Tree Step:=evL a4h 20 14 ls0 d4j
theorem c4x: ∃op,IsL g4a 20 14 d4j op:=bxL y3s (LsOk.none _ _ _)
abbrev f4a:MBox:=boxL c4x
def S_j20:BSh:={args:=[laV 0,stV 4,ipV 9],blks:=[],log:=[],outs:=[(.tup [stV 0,ouV 5],[])]}
def ev_j20:List Dat→Tree (Nat×List Dat):=evF a4h 20 (lsM [(4,i4a),(8,i4s),(14,f4a)] 0) S_j20
theorem e_j20: ∃op,IsF ev_j20 20 S_j20 op:=bxF y3s (lsE (lsC (h3i e4v) (atF) (lsC (h3i f4w) (atF) (lsC (h3i c4x) (atF) lsZ))))
def op_j20:OpA:=opF e_j20
def a4g:FuncId→Option a0q:=a0s 20 (S_j20.k op_j20) a4h
theorem y3t:CsOk Try.prog a4g:=csL1 y3s e_j20
def d4v:LSh:={K:=0,log:=[],ins:=[(sh 88 [(2,.ptr 0 0),(3,.ptr 1 0),(5,.int .i64 0),(6,.int .i64 1)],[laB 2,stB 6])],nils:=[],outs:=[(.exit 2,sh 88 [(2,.ptr 0 0),(3,.ptr 1 0),(5,.int .i64 0)],[laB 1,stB 5]),(.ret,sh 88 [(4,.bool 0)],[])],cv:=[]}
def y3j:List Dat→Tree Step:=evL a4g 18 7 ls0 d4v
theorem a4q: ∃op,IsL y3j 18 7 d4v op:=bxL y3t (LsOk.none _ _ _)
def y3v:OpA:=opL a4q
theorem z3o (env:List Dat):y3v env=a0b y3j FU env:=h3j a4q env
abbrev h4m:MBox:=boxL a4q
theorem c4s {n0 n1:Int}{l2:List (Ty.den TS)}{l3 l4:List (Ty.den TPt)}{l5:List (Ty.den TRt)}{n6 n7 n8:Int}{l9:List (Ty.den TB)}{n10:Int}{b11 b12 b13:Bool}(g0:0≤n1)(g1:0≤n0)(g2:n0<(l5.length:Int))(h0:(n1<(↑(List.length l5):Int)))(h1:(a1u [.n n6,.n n0])=(some (0,[.b b11])))(h2:(b11=true))(h3:(¬n0=n1))(h4:(a1u [.n n6,.n n1])=(some (0,[.b b12])))(h5:(b12=true))(h6:(m1e [.l TS l2,.l TPt l3,.l TPt l4,.l TRt l5,.s (Prod.fst (List.getD l5 (Int.toNat n0) (Ty.dflt TRt))),.n (Prod.fst (Prod.snd (List.getD l5 (Int.toNat n0) (Ty.dflt TRt)))),.l TI (Prod.fst (Prod.snd (Prod.snd (List.getD l5 (Int.toNat n0) (Ty.dflt TRt))))),.l TNd (Prod.fst (Prod.snd (Prod.snd (Prod.snd (List.getD l5 (Int.toNat n0) (Ty.dflt TRt)))))),.l TI (Prod.fst (Prod.snd (Prod.snd (Prod.snd (Prod.snd (List.getD l5 (Int.toNat n0) (Ty.dflt TRt))))))),.l TNd (Prod.snd (Prod.snd (Prod.snd (Prod.snd (Prod.snd (List.getD l5 (Int.toNat n0) (Ty.dflt TRt))))))),.s (Prod.fst (List.getD l5 (Int.toNat n1) (Ty.dflt TRt))),.n (Prod.fst (Prod.snd (List.getD l5 (Int.toNat n1) (Ty.dflt TRt)))),.l TI (Prod.fst (Prod.snd (Prod.snd (List.getD l5 (Int.toNat n1) (Ty.dflt TRt))))),.l TNd (Prod.fst (Prod.snd (Prod.snd (Prod.snd (List.getD l5 (Int.toNat n1) (Ty.dflt TRt)))))),.l TI (Prod.fst (Prod.snd (Prod.snd (Prod.snd (Prod.snd (List.getD l5 (Int.toNat n1) (Ty.dflt TRt))))))),.l TNd (Prod.snd (Prod.snd (Prod.snd (Prod.snd (Prod.snd (List.getD l5 (Int.toNat n1) (Ty.dflt TRt)))))))])=(some (0,[.b b13])))(h7:(b13=true)):(y3j [.k 0,.n n0,.n n1,.l TS l2,.l TPt l3,.l TPt l4,.l TRt l5,.n n6,.n n7,.n n8,.l TB l9,.n n10]).sel=some (Step.stop 1 [.b false]):=sP [1]<|sT (dt h0)<|sA h1<|sP [1,1]<|sT h2<|sT (bnt h3)<|sA h4<|sP [1,1]<|sT h5<|sTo (c:=(inR n0 (List.length l5)))<|sTo (c:=(inR n1 (List.length l5)))<|sA h6<|sP [1,1,1]<|sT h7<|sP [1]<|sL
theorem b4r {n0 n1:Int}{l2:List (Ty.den TS)}{l3 l4:List (Ty.den TPt)}{l5:List (Ty.den TRt)}{n6 n7 n8:Int}{l9:List (Ty.den TB)}{n10:Int}{b11 b12 b13:Bool}(g0:0≤n1)(g1:0≤n0)(g2:n0<(l5.length:Int))(h0:(n1<(↑(List.length l5):Int)))(h1:(a1u [.n n6,.n n0])=(some (0,[.b b11])))(h2:(b11=true))(h3:(¬n0=n1))(h4:(a1u [.n n6,.n n1])=(some (0,[.b b12])))(h5:(b12=true))(h6:(m1e [.l TS l2,.l TPt l3,.l TPt l4,.l TRt l5,.s (Prod.fst (List.getD l5 (Int.toNat n0) (Ty.dflt TRt))),.n (Prod.fst (Prod.snd (List.getD l5 (Int.toNat n0) (Ty.dflt TRt)))),.l TI (Prod.fst (Prod.snd (Prod.snd (List.getD l5 (Int.toNat n0) (Ty.dflt TRt))))),.l TNd (Prod.fst (Prod.snd (Prod.snd (Prod.snd (List.getD l5 (Int.toNat n0) (Ty.dflt TRt)))))),.l TI (Prod.fst (Prod.snd (Prod.snd (Prod.snd (Prod.snd (List.getD l5 (Int.toNat n0) (Ty.dflt TRt))))))),.l TNd (Prod.snd (Prod.snd (Prod.snd (Prod.snd (Prod.snd (List.getD l5 (Int.toNat n0) (Ty.dflt TRt))))))),.s (Prod.fst (List.getD l5 (Int.toNat n1) (Ty.dflt TRt))),.n (Prod.fst (Prod.snd (List.getD l5 (Int.toNat n1) (Ty.dflt TRt)))),.l TI (Prod.fst (Prod.snd (Prod.snd (List.getD l5 (Int.toNat n1) (Ty.dflt TRt))))),.l TNd (Prod.fst (Prod.snd (Prod.snd (Prod.snd (List.getD l5 (Int.toNat n1) (Ty.dflt TRt)))))),.l TI (Prod.fst (Prod.snd (Prod.snd (Prod.snd (Prod.snd (List.getD l5 (Int.toNat n1) (Ty.dflt TRt))))))),.l TNd (Prod.snd (Prod.snd (Prod.snd (Prod.snd (Prod.snd (List.getD l5 (Int.toNat n1) (Ty.dflt TRt)))))))])=(some (0,[.b b13])))(h7:(b13=false)):(y3j [.k 0,.n n0,.n n1,.l TS l2,.l TPt l3,.l TPt l4,.l TRt l5,.n n6,.n n7,.n n8,.l TB l9,.n n10]).sel=some (Step.go [.k 0,.n n0,.n (IntKind.wrap .i64 (n1+(1:Int))),.l TS l2,.l TPt l3,.l TPt l4,.l TRt l5,.n n6,.n n7,.n n8,.l TB l9,.n n10]):=sP [1]<|sT (dt h0)<|sA h1<|sP [1,1]<|sT h2<|sT (bnt h3)<|sA h4<|sP [1,1]<|sT h5<|sTo (c:=(inR n0 (List.length l5)))<|sTo (c:=(inR n1 (List.length l5)))<|sA h6<|sP [1,1,1]<|sF h7<|sP [1]<|sL
theorem c4n {n0 n1:Int}{l2:List (Ty.den TS)}{l3 l4:List (Ty.den TPt)}{l5:List (Ty.den TRt)}{n6 n7 n8:Int}{l9:List (Ty.den TB)}{n10:Int}{b11 b12:Bool}(g0:0≤n1)(g1:0≤n0)(g2:n0<(l5.length:Int))(h0:(n1<(↑(List.length l5):Int)))(h1:(a1u [.n n6,.n n0])=(some (0,[.b b11])))(h2:(b11=true))(h3:(¬n0=n1))(h4:(a1u [.n n6,.n n1])=(some (0,[.b b12])))(h5:(b12=false)):(y3j [.k 0,.n n0,.n n1,.l TS l2,.l TPt l3,.l TPt l4,.l TRt l5,.n n6,.n n7,.n n8,.l TB l9,.n n10]).sel=some (Step.go [.k 0,.n n0,.n (IntKind.wrap .i64 (n1+(1:Int))),.l TS l2,.l TPt l3,.l TPt l4,.l TRt l5,.n n6,.n n7,.n n8,.l TB l9,.n n10]):=sP [1]<|sT (dt h0)<|sA h1<|sP [1,1]<|sT h2<|sT (bnt h3)<|sA h4<|sP [1,1]<|sF h5<|sP [0,1,0,1]<|sL
theorem c4p {n0 n1:Int}{l2:List (Ty.den TS)}{l3 l4:List (Ty.den TPt)}{l5:List (Ty.den TRt)}{n6 n7 n8:Int}{l9:List (Ty.den TB)}{n10:Int}{b11:Bool}(g0:0≤n1)(g1:0≤n0)(g2:n0<(l5.length:Int))(h0:(n1<(↑(List.length l5):Int)))(h1:(a1u [.n n6,.n n0])=(some (0,[.b b11])))(h2:(b11=true))(h3:(n0=n1)):(y3j [.k 0,.n n0,.n n1,.l TS l2,.l TPt l3,.l TPt l4,.l TRt l5,.n n6,.n n7,.n n8,.l TB l9,.n n10]).sel=some (Step.go [.k 0,.n n0,.n (IntKind.wrap .i64 (n1+(1:Int))),.l TS l2,.l TPt l3,.l TPt l4,.l TRt l5,.n n6,.n n7,.n n8,.l TB l9,.n n10]):=sP [1]<|sT (dt h0)<|sA h1<|sP [1,1]<|sT h2<|sF (bnf h3)<|sP [0,0,0,1,0,1]<|sL
theorem c4c {n0 n1:Int}{l2:List (Ty.den TS)}{l3 l4:List (Ty.den TPt)}{l5:List (Ty.den TRt)}{n6 n7 n8:Int}{l9:List (Ty.den TB)}{n10:Int}{b11:Bool}(g0:0≤n1)(g1:0≤n0)(g2:n0<(l5.length:Int))(h0:(n1<(↑(List.length l5):Int)))(h1:(a1u [.n n6,.n n0])=(some (0,[.b b11])))(h2:(b11=false)):(y3j [.k 0,.n n0,.n n1,.l TS l2,.l TPt l3,.l TPt l4,.l TRt l5,.n n6,.n n7,.n n8,.l TB l9,.n n10]).sel=some (Step.stop 0 [.n n0,.l TS l2,.l TPt l3,.l TPt l4,.l TRt l5,.n n6,.n n7,.n n8,.l TB l9,.n n10]):=sP [1]<|sT (dt h0)<|sA h1<|sP [1,1]<|sF h2<|sP [1]<|sL
theorem c4l {n0 n1:Int}{l2:List (Ty.den TS)}{l3 l4:List (Ty.den TPt)}{l5:List (Ty.den TRt)}{n6 n7 n8:Int}{l9:List (Ty.den TB)}{n10:Int}(g0:0≤n1)(g1:0≤n0)(g2:n0<(l5.length:Int))(h0:(¬n1<(↑(List.length l5):Int))):(y3j [.k 0,.n n0,.n n1,.l TS l2,.l TPt l3,.l TPt l4,.l TRt l5,.n n6,.n n7,.n n8,.l TB l9,.n n10]).sel=some (Step.stop 0 [.n n0,.l TS l2,.l TPt l3,.l TPt l4,.l TRt l5,.n n6,.n n7,.n n8,.l TB l9,.n n10]):=sP [1]<|sF (df h0)<|sP [0,0,1]<|sL
def d4p:LSh:={K:=0,log:=[],ins:=[(sh 88 [(2,.ptr 0 0),(3,.ptr 1 0),(5,.int .i64 0),(7,.own 2),(8,.int .i64 1)],[laB 2,stB 6,.arr TNd 11])],nils:=[],outs:=[(.exit 4,sh 88 [(2,.ptr 0 0),(3,.ptr 1 0),(5,.int .i64 0)],[laB 1,stB 5]),(.ret,sh 88 [(4,.bool 0)],[])],cv:=[]}
def y3k:List Dat→Tree Step:=evL a4g 18 13 ls0 d4p
theorem z3i: ∃op,IsL y3k 18 13 d4p op:=bxL y3t (LsOk.none _ _ _)
def z3b:OpA:=opL z3i
theorem b4a (env:List Dat):z3b env=a0b y3k FU env:=h3j z3i env
abbrev g4b:MBox:=boxL z3i
theorem a4w {n0 n1:Int}{l2:List (Ty.den TS)}{l3 l4:List (Ty.den TPt)}{l5:List (Ty.den TRt)}{n6 n7 n8:Int}{l9:List (Ty.den TB)}{n10:Int}{l11:List (Ty.den TNd)}{b12:Bool}(g0:0≤n1)(h0:(n1<(↑(List.length l11):Int)))(h1:(a1u [.n n6,.n n0])=(some (0,[.b b12])))(h2:(b12=true))(h3:(¬(Prod.fst (List.getD l11 (Int.toNat n1) (Ty.dflt TNd)):Int)<(0:Int)))(h4:(((iand IntKind.u32 (ishr IntKind.u32 n10 (Prod.fst (List.getD l11 (Int.toNat n1) (Ty.dflt TNd)))) (1:Int)==(1:Int))==Prod.snd (List.getD l11 (Int.toNat n1) (Ty.dflt TNd)))=false)):(y3k [.k 0,.n n0,.n n1,.l TS l2,.l TPt l3,.l TPt l4,.l TRt l5,.n n6,.n n7,.n n8,.l TB l9,.n n10,.l TNd l11]).sel=some (Step.stop 1 [.b false]):=sP [1]<|sT (dt h0)<|sA h1<|sP [1,1]<|sT h2<|sTo (c:=(inR n1 (List.length l11)))<|sP [1]<|sT (nf (df h3))<|sP [1]<|sTo (c:=(inR n1 (List.length l11)))<|sP [1]<|sT (nf h4)<|sP [1]<|sL
theorem a4v {n0 n1:Int}{l2:List (Ty.den TS)}{l3 l4:List (Ty.den TPt)}{l5:List (Ty.den TRt)}{n6 n7 n8:Int}{l9:List (Ty.den TB)}{n10:Int}{l11:List (Ty.den TNd)}{b12:Bool}(g0:0≤n1)(h0:(n1<(↑(List.length l11):Int)))(h1:(a1u [.n n6,.n n0])=(some (0,[.b b12])))(h2:(b12=true))(h3:(¬(Prod.fst (List.getD l11 (Int.toNat n1) (Ty.dflt TNd)):Int)<(0:Int)))(h4:(((iand IntKind.u32 (ishr IntKind.u32 n10 (Prod.fst (List.getD l11 (Int.toNat n1) (Ty.dflt TNd)))) (1:Int)==(1:Int))==Prod.snd (List.getD l11 (Int.toNat n1) (Ty.dflt TNd)))=true)):(y3k [.k 0,.n n0,.n n1,.l TS l2,.l TPt l3,.l TPt l4,.l TRt l5,.n n6,.n n7,.n n8,.l TB l9,.n n10,.l TNd l11]).sel=some (Step.go [.k 0,.n n0,.n (IntKind.wrap .i64 (n1+(1:Int))),.l TS l2,.l TPt l3,.l TPt l4,.l TRt l5,.n n6,.n n7,.n n8,.l TB l9,.n n10,.l TNd l11]):=sP [1]<|sT (dt h0)<|sA h1<|sP [1,1]<|sT h2<|sTo (c:=(inR n1 (List.length l11)))<|sP [1]<|sT (nf (df h3))<|sP [1]<|sTo (c:=(inR n1 (List.length l11)))<|sP [1]<|sF (nt h4)<|sP [1]<|sL
theorem b4j {n0 n1:Int}{l2:List (Ty.den TS)}{l3 l4:List (Ty.den TPt)}{l5:List (Ty.den TRt)}{n6 n7 n8:Int}{l9:List (Ty.den TB)}{n10:Int}{l11:List (Ty.den TNd)}{b12:Bool}(g0:0≤n1)(h0:(n1<(↑(List.length l11):Int)))(h1:(a1u [.n n6,.n n0])=(some (0,[.b b12])))(h2:(b12=false)):(y3k [.k 0,.n n0,.n n1,.l TS l2,.l TPt l3,.l TPt l4,.l TRt l5,.n n6,.n n7,.n n8,.l TB l9,.n n10,.l TNd l11]).sel=some (Step.go [.k 0,.n n0,.n (IntKind.wrap .i64 (n1+(1:Int))),.l TS l2,.l TPt l3,.l TPt l4,.l TRt l5,.n n6,.n n7,.n n8,.l TB l9,.n n10,.l TNd l11]):=sP [1]<|sT (dt h0)<|sA h1<|sP [1,1]<|sF h2<|sP [0,1,0,1]<|sL
theorem b4k {n0 n1:Int}{l2:List (Ty.den TS)}{l3 l4:List (Ty.den TPt)}{l5:List (Ty.den TRt)}{n6 n7 n8:Int}{l9:List (Ty.den TB)}{n10:Int}{l11:List (Ty.den TNd)}(g0:0≤n1)(h0:(¬n1<(↑(List.length l11):Int))):(y3k [.k 0,.n n0,.n n1,.l TS l2,.l TPt l3,.l TPt l4,.l TRt l5,.n n6,.n n7,.n n8,.l TB l9,.n n10,.l TNd l11]).sel=some (Step.stop 0 [.n n0,.l TS l2,.l TPt l3,.l TPt l4,.l TRt l5,.n n6,.n n7,.n n8,.l TB l9,.n n10]):=sP [1]<|sF (df h0)<|sP [1]<|sL
def g4q:LSh:={K:=0,log:=[],ins:=[(sh 88 [(2,.ptr 0 0),(3,.ptr 1 0),(5,.int .i64 0)],[laB 1,stB 5])],nils:=[],outs:=[(.exit 0,sh 88 [],[]),(.ret,sh 88 [(4,.bool 0)],[])],cv:=[]}
def y3p:List Dat→Tree Step:=evL a4g 18 4 (lsM [(7,h4m),(13,g4b)] 0) g4q
theorem a4o: ∃op,IsL y3p 18 4 g4q op:=bxL y3t (lsE (lsC (h3i a4q) (by kernel_rfl) (lsC (h3i z3i) (by kernel_rfl) lsZ)))
def z3l:OpA:=opL a4o
theorem b4x (env:List Dat):z3l env=a0b y3p FU env:=h3j a4o env
abbrev i4h:MBox:=boxL a4o
theorem z3s {n0:Int}{l1:List (Ty.den TS)}{l2 l3:List (Ty.den TPt)}{l4:List (Ty.den TRt)}{n5 n6 n7:Int}{l8:List (Ty.den TB)}{n9 n10:Int}{l11:List (Ty.den TS)}{l12 l13:List (Ty.den TPt)}{l14:List (Ty.den TRt)}{n15 n16 n17:Int}{l18:List (Ty.den TB)}{n19:Int}{l20:List (Ty.den TNd)}{n21:Int}{l22:List (Ty.den TS)}{l23 l24:List (Ty.den TPt)}{l25:List (Ty.den TRt)}{n26 n27 n28:Int}{l29:List (Ty.den TB)}{n30:Int}(g0:0≤n0)(h0:(n0<(↑(List.length l4):Int)))(h1:(y3v [.k 0,.n n0,.n (0:Int),.l TS l1,.l TPt l2,.l TPt l3,.l TRt l4,.n n5,.n n6,.n n7,.l TB l8,.n n9])=(some (0,[.n n10,.l TS l11,.l TPt l12,.l TPt l13,.l TRt l14,.n n15,.n n16,.n n17,.l TB l18,.n n19])))(h2:(inR n10 (List.length l14)=true))(h3:(i1r [.s (Prod.fst (List.getD l14 (Int.toNat n10) (Ty.dflt TRt))),.n (Prod.fst (Prod.snd (List.getD l14 (Int.toNat n10) (Ty.dflt TRt)))),.l TI (Prod.fst (Prod.snd (Prod.snd (List.getD l14 (Int.toNat n10) (Ty.dflt TRt))))),.l TNd (Prod.fst (Prod.snd (Prod.snd (Prod.snd (List.getD l14 (Int.toNat n10) (Ty.dflt TRt)))))),.l TI (Prod.fst (Prod.snd (Prod.snd (Prod.snd (Prod.snd (List.getD l14 (Int.toNat n10) (Ty.dflt TRt))))))),.l TNd (Prod.snd (Prod.snd (Prod.snd (Prod.snd (Prod.snd (List.getD l14 (Int.toNat n10) (Ty.dflt TRt)))))))])=(some (0,[.l TNd l20])))(h4:(z3b [.k 0,.n n10,.n (0:Int),.l TS l11,.l TPt l12,.l TPt l13,.l TRt l14,.n n15,.n n16,.n n17,.l TB l18,.n n19,.l TNd l20])=(some (0,[.n n21,.l TS l22,.l TPt l23,.l TPt l24,.l TRt l25,.n n26,.n n27,.n n28,.l TB l29,.n n30]))):(y3p [.k 0,.n n0,.l TS l1,.l TPt l2,.l TPt l3,.l TRt l4,.n n5,.n n6,.n n7,.l TB l8,.n n9]).sel=some (Step.go [.k 0,.n (IntKind.wrap .i64 (n21+(1:Int))),.l TS l22,.l TPt l23,.l TPt l24,.l TRt l25,.n n26,.n n27,.n n28,.l TB l29,.n n30]):=sP [1]<|sT (dt h0)<|sA h1<|sP [1]<|sT h2<|sA h3<|sP [1,1]<|sA h4<|sP [1,1]<|sL
theorem c4o {n0:Int}{l1:List (Ty.den TS)}{l2 l3:List (Ty.den TPt)}{l4:List (Ty.den TRt)}{n5 n6 n7:Int}{l8:List (Ty.den TB)}{n9 n10:Int}{l11:List (Ty.den TS)}{l12 l13:List (Ty.den TPt)}{l14:List (Ty.den TRt)}{n15 n16 n17:Int}{l18:List (Ty.den TB)}{n19:Int}{l20:List (Ty.den TNd)}{b21:Bool}(g0:0≤n0)(h0:(n0<(↑(List.length l4):Int)))(h1:(y3v [.k 0,.n n0,.n (0:Int),.l TS l1,.l TPt l2,.l TPt l3,.l TRt l4,.n n5,.n n6,.n n7,.l TB l8,.n n9])=(some (0,[.n n10,.l TS l11,.l TPt l12,.l TPt l13,.l TRt l14,.n n15,.n n16,.n n17,.l TB l18,.n n19])))(h2:(inR n10 (List.length l14)=true))(h3:(i1r [.s (Prod.fst (List.getD l14 (Int.toNat n10) (Ty.dflt TRt))),.n (Prod.fst (Prod.snd (List.getD l14 (Int.toNat n10) (Ty.dflt TRt)))),.l TI (Prod.fst (Prod.snd (Prod.snd (List.getD l14 (Int.toNat n10) (Ty.dflt TRt))))),.l TNd (Prod.fst (Prod.snd (Prod.snd (Prod.snd (List.getD l14 (Int.toNat n10) (Ty.dflt TRt)))))),.l TI (Prod.fst (Prod.snd (Prod.snd (Prod.snd (Prod.snd (List.getD l14 (Int.toNat n10) (Ty.dflt TRt))))))),.l TNd (Prod.snd (Prod.snd (Prod.snd (Prod.snd (Prod.snd (List.getD l14 (Int.toNat n10) (Ty.dflt TRt)))))))])=(some (0,[.l TNd l20])))(h4:(z3b [.k 0,.n n10,.n (0:Int),.l TS l11,.l TPt l12,.l TPt l13,.l TRt l14,.n n15,.n n16,.n n17,.l TB l18,.n n19,.l TNd l20])=(some (1,[.b b21]))):(y3p [.k 0,.n n0,.l TS l1,.l TPt l2,.l TPt l3,.l TRt l4,.n n5,.n n6,.n n7,.l TB l8,.n n9]).sel=some (Step.stop 1 [.b b21]):=sP [1]<|sT (dt h0)<|sA h1<|sP [1]<|sT h2<|sA h3<|sP [1,1]<|sA h4<|sP [0,1,1]<|sL
theorem c4r {n0:Int}{l1:List (Ty.den TS)}{l2 l3:List (Ty.den TPt)}{l4:List (Ty.den TRt)}{n5 n6 n7:Int}{l8:List (Ty.den TB)}{n9:Int}{b10:Bool}(g0:0≤n0)(h0:(n0<(↑(List.length l4):Int)))(h1:(y3v [.k 0,.n n0,.n (0:Int),.l TS l1,.l TPt l2,.l TPt l3,.l TRt l4,.n n5,.n n6,.n n7,.l TB l8,.n n9])=(some (1,[.b b10]))):(y3p [.k 0,.n n0,.l TS l1,.l TPt l2,.l TPt l3,.l TRt l4,.n n5,.n n6,.n n7,.l TB l8,.n n9]).sel=some (Step.stop 1 [.b b10]):=sP [1]<|sT (dt h0)<|sA h1<|sP [0,1,1]<|sL
theorem c4e {n0:Int}{l1:List (Ty.den TS)}{l2 l3:List (Ty.den TPt)}{l4:List (Ty.den TRt)}{n5 n6 n7:Int}{l8:List (Ty.den TB)}{n9:Int}(g0:0≤n0)(h0:(¬n0<(↑(List.length l4):Int))):(y3p [.k 0,.n n0,.l TS l1,.l TPt l2,.l TPt l3,.l TRt l4,.n n5,.n n6,.n n7,.l TB l8,.n n9]).sel=some (Step.stop 0 []):=sP [1]<|sF (df h0)<|sP [1]<|sL
def S_j18:BSh:={args:=[laV 0,stV 4],blks:=[],log:=[],outs:=[(.bool 0,[])]}
def ev_j18:List Dat→Tree (Nat×List Dat):=evF a4g 18 (lsM [(4,i4h)] 0) S_j18
theorem g4v: ∃op,IsF ev_j18 18 S_j18 op:=bxF y3t (lsE (lsC (h3i a4o) (atF) lsZ))
def z3p:OpA:=opF g4v
theorem f4d {l0:List (Ty.den TS)}{l1 l2:List (Ty.den TPt)}{l3:List (Ty.den TRt)}{n4 n5 n6:Int}{l7:List (Ty.den TB)}{n8 n9 n10 n11:Int}{l12:List (Ty.den TB)}{n13:Int}(h0:(z3q [.l TS l0,.l TPt l1,.l TPt l2,.l TRt l3,.n n4,.n n5,.n n6,.l TB l7,.n n8])=(some (0,[.n n9,.n n10,.n n11,.l TB l12,.n n13])))(h1:((n9==n4&&(n10==n5&&(n11==n6&&(eqL TB l12 l7&&(n13==n8&&true)))))=false)):z3p [.l TS l0,.l TPt l1,.l TPt l2,.l TRt l3,.n n4,.n n5,.n n6,.l TB l7,.n n8]=some ((0,[.b false])):=h3h g4v (sA h0<|sP [1,1,1]<|sT (nf h1)<|sP [1]<|sL)
theorem g4e {l0:List (Ty.den TS)}{l1 l2:List (Ty.den TPt)}{l3:List (Ty.den TRt)}{n4 n5 n6:Int}{l7:List (Ty.den TB)}{n8 n9 n10 n11:Int}{l12:List (Ty.den TB)}{n13:Int}(h0:(z3q [.l TS l0,.l TPt l1,.l TPt l2,.l TRt l3,.n n4,.n n5,.n n6,.l TB l7,.n n8])=(some (0,[.n n9,.n n10,.n n11,.l TB l12,.n n13])))(h1:((n9==n4&&(n10==n5&&(n11==n6&&(eqL TB l12 l7&&(n13==n8&&true)))))=true))(h2:(z3l [.k 0,.n (0:Int),.l TS l0,.l TPt l1,.l TPt l2,.l TRt l3,.n n4,.n n5,.n n6,.l TB l7,.n n8])=(some (0,[]))):z3p [.l TS l0,.l TPt l1,.l TPt l2,.l TRt l3,.n n4,.n n5,.n n6,.l TB l7,.n n8]=some ((0,[.b true])):=h3h g4v (sA h0<|sP [1,1,1]<|sF (nt h1)<|sA h2<|sP [1,1]<|sL)
theorem f4j {l0:List (Ty.den TS)}{l1 l2:List (Ty.den TPt)}{l3:List (Ty.den TRt)}{n4 n5 n6:Int}{l7:List (Ty.den TB)}{n8 n9 n10 n11:Int}{l12:List (Ty.den TB)}{n13:Int}{b14:Bool}(h0:(z3q [.l TS l0,.l TPt l1,.l TPt l2,.l TRt l3,.n n4,.n n5,.n n6,.l TB l7,.n n8])=(some (0,[.n n9,.n n10,.n n11,.l TB l12,.n n13])))(h1:((n9==n4&&(n10==n5&&(n11==n6&&(eqL TB l12 l7&&(n13==n8&&true)))))=true))(h2:(z3l [.k 0,.n (0:Int),.l TS l0,.l TPt l1,.l TPt l2,.l TRt l3,.n n4,.n n5,.n n6,.l TB l7,.n n8])=(some (1,[.b b14]))):z3p [.l TS l0,.l TPt l1,.l TPt l2,.l TRt l3,.n n4,.n n5,.n n6,.l TB l7,.n n8]=some ((0,[.b b14])):=h3h g4v (sA h0<|sP [1,1,1]<|sF (nt h1)<|sA h2<|sP [0,1,1]<|sL)
def cs_j18:FuncId→Option a0q:=a0s 18 (S_j18.k z3p) a4g
theorem f4e:CsOk Try.prog cs_j18:=csL1 y3t g4v
def d4r:List Dat→Tree Bool:=evW cs_j18 4 ls0 [laV 0,stV 4]
theorem W4_law (env:List Dat)(h:(d4r env).sel=some true){w:World}{aa:Array Value}(ha:LRel R0 (b0k w) (instL [laV 0,stV 4] env) aa):
  Calls Try.prog 4 aa w fun e w'=>e=.returned (.bool true)∧Below w.heap.size w w':=evW_law f4e (LsOk.none _ _ _) env h ha
theorem h4v {l0:List (Ty.den TS)}{l1 l2:List (Ty.den TPt)}{l3:List (Ty.den TRt)}{n4 n5 n6:Int}{l7:List (Ty.den TB)}{n8 n9:Int}{b10:Bool}(h0:(n2d [.l TS l0,.l TPt l1,.l TPt l2,.l TRt l3,.n (400:Int)])=(some (0,[.n n9])))(h1:(n9>(400:Int)))(h2:(op_w10 [])=(some (0,[.b b10]))):(d4r [.l TS l0,.l TPt l1,.l TPt l2,.l TRt l3,.n n4,.n n5,.n n6,.l TB l7,.n n8]).sel=some (b10):=sP [1]<|sA h0<|sP [1,1]<|sT (dt h1)<|sP [1,1,1]<|sA h2<|sP [1,1]<|sL
theorem i4r {l0:List (Ty.den TS)}{l1 l2:List (Ty.den TPt)}{l3:List (Ty.den TRt)}{n4 n5 n6:Int}{l7:List (Ty.den TB)}{n8 n9 n10:Int}{l11:List (Ty.den TI)}{l12:List (Ty.den TQr)}{n13 n14 n15:Int}{l16:List (Ty.den TB)}{n17:Int}{l18:List (Ty.den TI)}{l19:List (Ty.den TQr)}{n20 n21 n22:Int}{l23:List (Ty.den TB)}{n24 n25 n26 n27:Int}{l28:List (Ty.den TB)}{n29:Int}{l30:List (Ty.den TI)}{l31:List (Ty.den TQr)}{b32:Bool}{l33:List (Ty.den TI)}{l34:List (Ty.den TQr)}{b35 b36:Bool}{l37:List (Ty.den TI)}{l38:List (Ty.den TQr)}{b39 b40:Bool}(h0:(n2d [.l TS l0,.l TPt l1,.l TPt l2,.l TRt l3,.n (400:Int)])=(some (0,[.n n9])))(h1:(¬n9>(400:Int)))(h2:(w3m [.l TS l0,.l TPt l1,.l TPt l2,.l TRt l3])=(some (0,[.n n10,.l TI l11,.l TQr l12])))(h3:(n10=(0:Int)))(h4:(y3z [.n n4,.n n5,.n n6,.l TB l7,.n n8,.l TI l11,.l TQr l12])=(some (0,[.n n13,.n n14,.n n15,.l TB l16,.n n17,.l TI l18,.l TQr l19])))(h5:(z3q [.l TS l0,.l TPt l1,.l TPt l2,.l TRt l3,.n n4,.n n5,.n n6,.l TB l7,.n n8])=(some (0,[.n n20,.n n21,.n n22,.l TB l23,.n n24])))(h6:((n13==n20&&(n14==n21&&(n15==n22&&(eqL TB l16 l23&&(n17==n24&&true)))))=true))(h7:(y3z [.n n13,.n n14,.n n15,.l TB l16,.n n17,.l TI l11,.l TQr l12])=(some (0,[.n n25,.n n26,.n n27,.l TB l28,.n n29,.l TI l30,.l TQr l31])))(h8:((n25==n13&&(n26==n14&&(n27==n15&&(eqL TB l28 l16&&(n29==n17&&true)))))=true))(h9:(z3e [.n n4,.n n5,.n n6,.l TB l7,.n n8,.l TI l11,.l TQr l12])=(some (0,[.b b32,.l TI l33,.l TQr l34])))(h10:(z3p [.l TS l0,.l TPt l1,.l TPt l2,.l TRt l3,.n n4,.n n5,.n n6,.l TB l7,.n n8])=(some (0,[.b b35])))(h11:((b32==b35)=true))(h12:(z3e [.n n13,.n n14,.n n15,.l TB l16,.n n17,.l TI l11,.l TQr l12])=(some (0,[.b b36,.l TI l37,.l TQr l38])))(h13:(z3p [.l TS l0,.l TPt l1,.l TPt l2,.l TRt l3,.n n13,.n n14,.n n15,.l TB l16,.n n17])=(some (0,[.b b39])))(h14:((b36==b39)=true))(h15:(op_w10 [])=(some (0,[.b b40]))):(d4r [.l TS l0,.l TPt l1,.l TPt l2,.l TRt l3,.n n4,.n n5,.n n6,.l TB l7,.n n8]).sel=some (b40):=sP [1]<|sA h0<|sP [1,1]<|sF (df h1)<|sP [1]<|sA h2<|sP [1,1]<|sT (bt h3)<|sP [1,0,1]<|sA h4<|sP [1,1]<|sA h5<|sP [1,1]<|sT h6<|sP [1]<|sA h7<|sP [1,1]<|sT h8<|sP [1]<|sA h9<|sP [1,1]<|sA h10<|sP [1,1]<|sT h11<|sP [1]<|sA h12<|sP [1,1]<|sA h13<|sP [1,1]<|sT h14<|sP [1]<|sA h15<|sP [1,1,1]<|sL
theorem h4w {l0:List (Ty.den TS)}{l1 l2:List (Ty.den TPt)}{l3:List (Ty.den TRt)}{n4 n5 n6:Int}{l7:List (Ty.den TB)}{n8 n9 n10:Int}{b11:Bool}(h0:(n2d [.l TS l0,.l TPt l1,.l TPt l2,.l TRt l3,.n (400:Int)])=(some (0,[.n n9])))(h1:(¬n9>(400:Int)))(h2:(w3m [.l TS l0,.l TPt l1,.l TPt l2,.l TRt l3])=(some (1,[.n n10])))(h3:(¬n10=(0:Int)))(h4:(op_w10 [])=(some (0,[.b b11]))):(d4r [.l TS l0,.l TPt l1,.l TPt l2,.l TRt l3,.n n4,.n n5,.n n6,.l TB l7,.n n8]).sel=some (b11):=sP [1]<|sA h0<|sP [1,1]<|sF (df h1)<|sP [1]<|sA h2<|sP [0,1,1]<|sF (bf h3)<|sP [0,1,1,1]<|sA h4<|sP [1,1]<|sL
def p2 (k:Nat):B64:=1#64<<<k
def inN (n:Int):Bool:=decide (0≤n)&&decide (n<64)
def hasB (X:B64)(n:Int):Bool:=inN n&&X.getLsbD n.toNat
def s1o (X:B64)(n:Int):B64:=bif inN n then X|||p2 n.toNat else X
theorem h2g (k i:Nat):(p2 k).getLsbD i=(decide (i<64)&&decide (i=k)):=by
 unfold p2
 rw[BitVec.getLsbD_shiftLeft]
 by_cases h:i=k
 ·subst h;simp
 ·by_cases h2:i<k
  ·simp[h,h2]
  ·have:i-k≠0:=by omega
   simp[h,h2,this]
theorem j2e {k:Nat}(h:k<64):(p2 k).toNat=2^k:=by
 unfold p2
 rw[BitVec.toNat_shiftLeft,Nat.shiftLeft_eq]
 have:2^k<2^64:=Nat.pow_lt_pow_right (by omega) h
 rw[show(1#64).toNat=1 from rfl,Nat.one_mul,Nat.mod_eq_of_lt this]
theorem getN (X:B64)(k:Nat):X.getLsbD k=decide (X.toNat/2^k%2=1):=by
 rw[←BitVec.testBit_toNat,Nat.testBit_eq_decide_div_mod_eq]
theorem r2c {X:B64}{k:Nat}(hk:k<64)(h:X.getLsbD k=false):X+p2 k=X|||p2 k:=by
 apply BitVec.add_eq_or_of_and_eq_zero
 apply BitVec.eq_of_getLsbD_eq
 intro i hi
 rw[BitVec.getLsbD_and,h2g]
 by_cases e:i=k
 ·subst e;simp[h]
 ·simp[e]
theorem N_add (X Y:B64):IntKind.wrap .u64 (N X+N Y)=N (X+Y):=by
 rw[k2v]
 refine congrArg N ?_
 apply BitVec.eq_of_toNat_eq
 rw[BitVec.toNat_ofInt,BitVec.toNat_add]
 unfold N
 omega
theorem w64x {x:Int}(h0: -9223372036854775808≤x)(h1:x<9223372036854775808):IntKind.wrap .i64 x=x:=by unfold IntKind.wrap;simp[IntKind.bits,IntKind.signed];omega
theorem wu64' {x:Int}(h0:0≤x)(h1:x<18446744073709551616):IntKind.wrap .u64 x=x:=by unfold IntKind.wrap;simp[IntKind.bits,IntKind.signed];omega
theorem i3h {X:B64}{n:Int}(h:inN n=false):s1o X n=X:=by unfold s1o;rw[h];rfl
def firB (k:Nat):B64:=BitVec.ofNat 64 (2^k-1)
theorem t2j {k:Nat}(h:k≤64):(firB k).toNat=2^k-1:=by
 unfold firB
 rw[BitVec.toNat_ofNat]
 have:2^k≤2^64:=Nat.pow_le_pow_right (by omega) h
 exact Nat.mod_eq_of_lt (by omega)
theorem y0i {k:Nat}(h:k≤64)(i:Nat):(firB k).getLsbD i=decide (i<k):=by
 rw[←BitVec.testBit_toNat,t2j h,Nat.testBit_two_pow_sub_one]
theorem j2a {k:Nat}(h:k<64):s1o (firB k) (k:Int)=firB (k+1):=by
 unfold s1o
 have:inN (k:Int)=true:=by simp[inN];omega
 rw[this,cond_true,Int.toNat_natCast]
 apply BitVec.eq_of_getLsbD_eq
 intro i hi
 rw[BitVec.getLsbD_or,h2g,y0i (by omega),y0i (by omega)]
 by_cases e:i=k
 ·subst e;simp[hi]
 ·have:decide (i<k)=decide (i<k+1):=by rw[Bool.eq_iff_iff];simp;omega
  simp[e,this]
theorem ishl1 (k:Nat):ishl IntKind.u64 (1:Int) (k:Int)=N (p2 k):=ishlB k
def p0 (e:Rt):Int:=(eP e).getD 0 0
abbrev allR (b c:LP)(r:LR):Prop:= ∀i,i<r.length→rtOk b c (r.getD i (Ty.dflt TRt))∧wfE b c (r.getD i (Ty.dflt TRt))=true
theorem m3e (b:LP)(r:LR):(NL (tabB b r)).length=r.length:=by rw[u1l];exact o0n ..
theorem n3f {a:LS}{b c:LP}{r:LR}(h:(ckA a b c r).1=0):b.length≤32∧r.length≤64∧allR b c r:=by
 obtain⟨hm,hw⟩:=(ck_ok a b c r).1 h
 obtain⟨h1,h2,h3⟩:=l0q hm
 exact⟨h1,h2,fun i hi=>⟨h3 i hi,hw _ (h0f hi)⟩⟩
theorem q3x (Y:B64):IntKind.wrap .u32 (N Y)=N (Y.setWidth 32):=by
 rw[p2u]
 refine congrArg N (BitVec.eq_of_toNat_eq ?_)
 rw[BitVec.toNat_ofInt,BitVec.toNat_setWidth]
 unfold N;omega
abbrev rN (r:LR)(i:Nat):Rt:=r.getD i (Ty.dflt TRt)
def fC (b:LP)(r:LR)(i:Nat):B64:=(tabB b r).getD i 0#64
structure WF (a:LS)(b c:LP)(r:LR):Prop where
 la:a.length≤64
 lb:b.length≤32
 lr:r.length≤64
 tr: ∀i,i<r.length→ ∀x∈trk (rN r i),0≤x∧x<(a.length:Int)
 pt: ∀i,i<r.length→f0c b (ndsE (rN r i))
 all:allR b c r
theorem wf_of {a:LS}{b c:LP}{r:LR}(h:(ckA a b c r).1=0):WF a b c r:=by
 obtain⟨hm,hw⟩:=(ck_ok a b c r).1 h
 obtain⟨h1,h2,h3⟩:=n3f h
 have h:=hm
 unfold mayL at h
 rw[Bool.and_eq_true]at h
 obtain⟨q1,-,-,-⟩:=(@of_decide_eq_true (smallL a b c r) (instDecidableSmallL a b c r) h.1)
 have h:=h.2
 simp only[Bool.and_eq_true]at h
 obtain⟨h5,h6,h7,h8⟩:=h
 refine⟨q1,h1,h2,fun i hi x hx=> ?_,fun i hi d hd=> ?_,h3⟩
 ·have k:=List.all_eq_true.1 h7 i (List.mem_range'_1.2 (by omega))
  unfold okR mayR at k
  simp only[Bool.and_eq_true,decide_eq_true_eq]at k
  obtain⟨k1,k2,k3,k4,k5,k6⟩:=k
  unfold trk at hx
  rcases List.mem_append.1 hx with hx|hx
  ·exact(n2h k3).2 x hx
  ·exact(n2h k5).2 x hx
 ·obtain⟨⟨-,-,k3,k4⟩,-⟩:=h3 i hi
  unfold ndsE at hd
  rcases List.mem_append.1 hd with hd|hd
  ·exact k3 d hd
  ·exact k4 d hd
section
variable {a:LS} {b c:LP} {r:LR} (w:WF a b c r)
include w
theorem q3g {i:Nat}(hi:i<r.length):0<(eP (rN r i)).length∧ptS c (eN (rN r i))∉trk (rN r i)∧(nd (ndsE (rN r i))).Nodup:=by
 have h:=(w.all i hi).2
 unfold wfE wfR at h
 simp only[Bool.and_eq_true,decide_eq_true_eq,Bool.not_eq_true',decide_eq_false_iff_not]at h
 exact⟨h.1,h.2.1,h.2.2.2.1⟩
theorem fC_bit {i k:Nat}(hi:i<r.length)(hk:k<r.length):(fC b r i).getLsbD k=clN b r i k:=by
 have:=w.lr
 have:=m2h b r hi w.lr (show k<64 by omega)
 unfold bitT at this
 unfold fC
 rw[this,decide_eq_true hk,Bool.true_and]
end
theorem p3n (X:B64){i:Nat}(h:i<64):hasB X (i:Int)=X.getLsbD i:=by
 unfold hasB inN
 rw[decide_eq_true (show(0:Int)≤(i:Int) by omega),decide_eq_true (show(i:Int)<64 by omega)];rfl
def putB (X:B64)(k:Nat)(v:Bool):B64:=bif v then(X&&& ~~~p2 k)|||p2 k else X&&& ~~~p2 k
theorem i4k (X:B64)(k:Nat)(v:Bool){j:Nat}(hj:j<64):(putB X k v).getLsbD j=bif decide (j=k)then v else X.getLsbD j:=by
 have h: ∀Y:B64,(Y&&& ~~~p2 k).getLsbD j=bif decide (j=k)then false else Y.getLsbD j:=by
  intro Y
  rw[BitVec.getLsbD_and,BitVec.getLsbD_not,h2g,dt hj,Bool.true_and,Bool.true_and]
  by_cases e:j=k
  ·rw[dt e];simp
  ·rw[df e];simp
 unfold putB
 cases v with
 |true=>
  rw[cond_true,BitVec.getLsbD_or,h,h2g,dt hj,Bool.true_and]
  by_cases e:j=k
  ·rw[dt e];simp
  ·rw[df e];simp
 |false=>rw[cond_false,h]
theorem h38 (X:B64){k:Nat}(hk:k<64):w3v [.n (N X),.n (k:Int)]=some (0,[.b (X.getLsbD k)]):=by
 rw[x3k (by omega),iandB]
theorem h37 (X:B64)(k:Nat)(v:Bool):y3y [.n (N X),.n (k:Int),.b v]=some (0,[.n (N (putB X k v))]):=by
 cases v with
 |true=>rw[g4o (by omega) rfl,ishl1,q1y,ior_u64];rfl
 |false=>rw[g4k (by omega) rfl,ishl1,q1y];rfl
def mem (X:B64)(n:Nat):List Int:=((List.range n).filter fun i=>X.getLsbD i).map Int.ofNat
theorem y3h (X:B64)(k:Nat):mem X (k+1)=if X.getLsbD k=true then mem X k++[Int.ofNat k]else mem X k:=by
 unfold mem
 rw[List.range_succ,List.filter_append,List.map_append]
 by_cases h:X.getLsbD k=true<;>simp[h]
theorem f4m (X:B64)(n:Nat):(mem X n).length≤n:=by
 unfold mem
 rw[List.length_map]
 exact Nat.le_trans (List.length_filter_le _ _) (Nat.le_of_eq List.length_range)
theorem f4g {X:B64}{n:Nat}{x:Int}:x∈mem X n↔ ∃i,i<n∧X.getLsbD i=true∧x=(i:Int):=by
 unfold mem
 simp only[List.mem_map,List.mem_filter,List.mem_range]
 constructor
 ·rintro⟨i,⟨h1,h2⟩,e⟩;exact⟨i,h1,h2,e.symm⟩
 ·rintro⟨i,h1,h2,e⟩;exact⟨i,⟨h1,h2⟩,e.symm⟩
theorem h31 (X:B64){n:Nat}(hn:n≤64):w3t [.n (N X),.n (n:Int)]=some (0,[.l TI (mem X n)]):=by
 refine x3y ?_
 rw[w3y]
 refine b0a (st:=w3e) (fun i=>[.k 0,.n (N X),.n (n:Int),.n (i:Int),.l TI (mem X i)]) n (0,[.l TI (mem X n)]) (fun i hi=> ?_) ?_ FU (b1w (by omega))
 ·show _=some (Step.go [.k 0,.n (N X),.n (n:Int),.n ((i+1:Nat):Int),.l TI (mem X (i+1))])
  rw[y3h,←w1n i (by omega)]
  have hl:=f4m X i
  cases h:X.getLsbD i with
  |true=>
   rw[if_pos rfl]
   exact w3z (by omega) (by omega) (h38 X (by omega)) h (show(List.length (α:=Int) (mem X i)+1)*8≤140737488355328 by omega)
  |false=>
   rw[if_neg (by simp)]
   exact x3a (by omega) (by omega) (h38 X (by omega)) h
 ·exact w3x (by omega) (by omega)
abbrev Qr:=Ty.den TQr
def qrow (b c:LP)(r:LR)(i:Nat):Qr:=(ptS c (eN (rN r i)),p0 (rN r i),trk (rN r i),ndsE (rN r i),mem (fC b r i) r.length)
def w3k (b c:LP)(r:LR)(k:Nat):List Qr:=(List.range k).map (qrow b c r)
theorem x3t (b c:LP)(r:LR)(k:Nat):(w3k b c r k).length=k:=by unfold w3k;rw[List.length_map,List.length_range]
theorem x3i (b c:LP)(r:LR)(k:Nat):w3k b c r (k+1)=apL (w3k b c r k) [qrow b c r k]:=by unfold w3k;rw[List.range_succ,List.map_append];rfl
theorem d4l (b c:LP)(r:LR){k i:Nat}(h:i<k):(w3k b c r k).getD i (Ty.dflt TQr)=qrow b c r i:=by
 unfold w3k
 rw[List.getD_eq_getElem?_getD,List.getElem?_map,List.getElem?_range h];rfl
def lie (b:LP)(k:Nat):List Int:=(List.range k).map fun i=>gP (b.getD i (Ty.dflt TPt))
theorem a4c (b:LP)(k:Nat):(lie b k).length=k:=by unfold lie;rw[List.length_map,List.length_range]
theorem y3f (b:LP)(k:Nat):lie b (k+1)=lie b k++[gP (b.getD k (Ty.dflt TPt))]:=by unfold lie;rw[List.range_succ,List.map_append];rfl
theorem l11_6 (a:LS)(b c:LP)(r:LR)(T:List Int)(hb:b.length≤32):
  w3n [.k 0,.l TPt b,.n (b.length:Int),.n 0,.l TS a,.l TPt b,.l TPt c,.l TRt r,.l TU T,.l TI []]=some (0,[.l TS a,.l TPt b,.l TPt c,.l TRt r,.l TU T,.l TI (lie b b.length)]):=by
 rw[x3b]
 refine b0a (st:=w3f) (fun i=>[.k 0,.l TPt b,.n (b.length:Int),.n (i:Int),.l TS a,.l TPt b,.l TPt c,.l TRt r,.l TU T,.l TI (lie b i)]) b.length (0,[.l TS a,.l TPt b,.l TPt c,.l TRt r,.l TU T,.l TI (lie b b.length)]) (fun i hi=> ?_) ?_ FU (b1w (by omega))
 ·show _=some (Step.go [.k 0,.l TPt b,.n (b.length:Int),.n ((i+1:Nat):Int),.l TS a,.l TPt b,.l TPt c,.l TRt r,.l TU T,.l TI (lie b (i+1))])
  rw[y3f,←w1n i (by omega)]
  have hl:=a4c b i
  exact x3c (by omega) rfl (by omega) (show(List.length (α:=Int) (lie b i)+1)*8≤140737488355328 by omega)
 ·exact x3d (by omega) rfl (by omega)
theorem l11_11 (a:LS)(b c:LP)(r:LR)(L:List Int)(w:WF a b c r):
  w3j [.k 0,.l TRt r,.n (r.length:Int),.n 0,.l TS a,.l TPt b,.l TPt c,.l TRt r,.l TU (NL (tabB b r)),.l TI L,.l TQr []]=some (0,[.l TI L,.l TQr (w3k b c r r.length)]):=by
 have lr:=w.lr
 rw[w3u]
 refine b0a (st:=w3d) (fun i=>[.k 0,.l TRt r,.n (r.length:Int),.n (i:Int),.l TS a,.l TPt b,.l TPt c,.l TRt r,.l TU (NL (tabB b r)),.l TI L,.l TQr (w3k b c r i)]) r.length (0,[.l TI L,.l TQr (w3k b c r r.length)]) (fun i hi=> ?_) ?_ FU (b1w (by omega))
 ·show _=some (Step.go [.k 0,.l TRt r,.n (r.length:Int),.n ((i+1:Nat):Int),.l TS a,.l TPt b,.l TPt c,.l TRt r,.l TU (NL (tabB b r)),.l TI L,.l TQr (w3k b c r (i+1))])
  rw[x3i,←w1n i (by omega)]
  have hl:=x3t b c r i
  obtain⟨⟨⟨k1,k2⟩,⟨l1,l2,l3,l4⟩,k3,k4⟩,-⟩:=w.all i hi
  have hp:=(q3g w hi).1
  have ht:=m3e b r
  have e6:w3t [.n (List.getD (NL (tabB b r)) (Int.toNat (i:Int)) (0:Int)),.n (r.length:Int)]=some (0,[.l TI (mem (fC b r i) r.length)]):=by
   rw[Int.toNat_natCast,NL_at];exact h31 _ w.lr
  exact w3w (by omega) rfl (by omega) (h1s k1 k2) (h1s (by omega) (Int.ofNat_lt.2 hp)) (o9 _ _ _ _ _ _ l1 l2 l3 l4) (o10 _ _ _ _ _ _ l1 l2 l3 l4) (h1s (by omega) (Int.ofNat_lt.2 (Nat.lt_of_lt_of_eq hi ht.symm))) e6 (by omega)
 ·exact w3r (by omega) rfl (by omega)
def newA (a:LS)(b c:LP)(r:LR):Nat×List Dat:=if(ckA a b c r).1=0 then(0,[.n 0,.l TI (lie b b.length),.l TQr (w3k b c r r.length)])else(1,[.n (ckA a b c r).1])
theorem o11i (a:LS)(b c:LP)(r:LR)(hs:okS a b c r):w3m [.l TS a,.l TPt b,.l TPt c,.l TRt r]=some (newA a b c r):=by
 have e:=o17c a b c r hs
 unfold newA
 by_cases h:(ckA a b c r).1=0
 ·rw[if_pos h]at e⊢
  have w:=wf_of h
  exact x3u e rfl (l11_6 a b c r _ w.lb) (l11_11 a b c r _ w)
 ·rw[if_neg h]at e⊢
  exact x3x e h
theorem e4a {α:Type}{st:List Dat→Tree Step}{lop:OpA}{fop:Option (Nat×List Dat)}(l:List α)(d:α)(p:α→Bool)(s:Nat→List Dat)(E:List Dat)(hl:l.length≤100000)(heq:lop (s 0)=a0b st FU (s 0))
  (go: ∀i,i<l.length→p (l.getD i d)=false→(st (s i)).sel=some (.go (s (i+1)))) (hit: ∀i,i<l.length→p (l.getD i d)=true→(st (s i)).sel=some (.stop 1 (.n (i:Int)::E))) (stop:(st (s l.length)).sel=some (.stop 0 E))
  (no:lop (s 0)=some (0,E)→fop=some (0,.n (-1)::E)) (yes: ∀k:Nat,lop (s 0)=some (1,.n (k:Int)::E)→fop=some (0,.n (k:Int)::E)): ∃z:Int,fop=some (0,.n z::E)∧decide (z≥0)=l.any p:=by
 have e:=f0f (st:=st) s l.length (fun i=>p (l.getD i d)) (fun k=>(1,.n (k:Int)::E)) (0,E) go hit stop FU (by unfold FU;omega)
 rw[←heq]at e
 have ha:=c0g l d p
 cases hf:b0i (fun i=>p (l.getD i d)) l.length with
 |none=>
  rw[hf]at e
  refine⟨-1,no e,?_⟩
  rw[←ha]
  refine(?_:_=false).symm
  rw[List.any_eq_false]
  intro i hi
  rw[List.mem_range'_1]at hi
  rw[b0r hf i (by omega)];simp
 |some k=>
  rw[hf]at e
  obtain⟨g1,g2',_⟩:=b0x hf
  refine⟨(k:Int),yes k e,?_⟩
  rw[←ha,dt (show(k:Int)≥0 by omega)]
  exact(List.any_eq_true.2 ⟨k,List.mem_range'_1.2 (by omega),g2'⟩).symm
structure SQ where
 L:B64
 U:B64
 C:B64
 T:List Int
 P:BitVec 32
theorem h38i (X:B64){x:Int}(h0:0≤x)(h1:x<64):w3v [.n (N X),.n x]=some (0,[.b (X.getLsbD x.toNat)]):=by
 obtain⟨k,rfl⟩: ∃k:Nat,x=k:=⟨x.toNat,by omega⟩
 exact h38 X (by omega)
theorem wrap64P (P:BitVec 32):IntKind.wrap .u64 (N P)=N (P.setWidth 64):=by
 rw[k2v]
 refine congrArg N (BitVec.eq_of_toNat_eq ?_)
 rw[BitVec.toNat_ofInt,BitVec.toNat_setWidth]
 have:=P.isLt
 unfold N;omega
theorem h38P (P:BitVec 32){x:Int}(h0:0≤x)(h1:x<32):w3v [.n (IntKind.wrap .u64 (N P)),.n x]=some (0,[.b (P.getLsbD x.toNat)]):=by
 rw[wrap64P,h38i _ h0 (by omega),BitVec.getLsbD_setWidth,dt (show x.toNat<64 by omega),Bool.true_and]
def turn (P:BitVec 32)(d:Ty.den TNd):Bool:= !(P.getLsbD (f1 d).toNat==g2 d)
def in64 (l:List Int):Prop:=l.length≤100000∧ ∀x∈l,0≤x∧x<64
def in32 (l:LN):Prop:=l.length≤100000∧ ∀d∈l,0≤f1 d∧f1 d<32
theorem d4y {b:Bool}(h:(!b)=true):b=false:=by cases b<;>simp_all
theorem neg_t {b:Bool}(h:(!b)=false):b=true:=by cases b<;>simp_all
theorem k77 (l:List Int)(s:SQ)(hp:in64 l): ∃z:Int,b4c [.l TI l,.n (N s.L),.n (N s.U),.n (N s.C),.l TB s.T,.n (N s.P)]=some (0,.n z::[.n (N s.L),.n (N s.U),.n (N s.C),.l TB s.T,.n (N s.P)])∧decide (z≥0)=l.any (fun x=>s.L.getLsbD x.toNat):=by
 refine e4a (st:=y3w) (lop:=z3h) l (0:Int) (fun x=>s.L.getLsbD x.toNat) (fun i=>[.k 0,.l TI l,.n (l.length:Int),.n (i:Int),.n (N s.L),.n (N s.U),.n (N s.C),.l TB s.T,.n (N s.P)]) [.n (N s.L),.n (N s.U),.n (N s.C),.l TB s.T,.n (N s.P)] hp.1 (c4q _) (fun i hi h=> ?_) (fun i hi h=> ?_) (b4z (by omega) rfl (by omega)) (fun e=>f4z e) (fun k e=>e4u e)
 ·show _=some (Step.go [.k 0,.l TI l,.n (l.length:Int),.n ((i+1:Nat):Int),.n (N s.L),.n (N s.U),.n (N s.C),.l TB s.T,.n (N s.P)])
  obtain⟨q1,q2⟩:=hp.2 _ (sAtG l (0:Int) hi)
  rw[←w1n i (by have:=hp.1;omega)]
  exact b4p (by omega) rfl (by omega) (h38i s.L q1 q2) h
 ·obtain⟨q1,q2⟩:=hp.2 _ (sAtG l (0:Int) hi)
  exact b4u (by omega) rfl (by omega) (h38i s.L q1 q2) h
theorem k78 (l:LN)(s:SQ)(hp:in32 l): ∃z:Int,b4b [.l TNd l,.n (N s.L),.n (N s.U),.n (N s.C),.l TB s.T,.n (N s.P)]=some (0,.n z::[.n (N s.L),.n (N s.U),.n (N s.C),.l TB s.T,.n (N s.P)])∧decide (z≥0)=l.any (turn s.P):=by
 refine e4a (st:=y3u) (lop:=z3f) l (Ty.dflt TNd) (turn s.P) (fun i=>[.k 0,.l TNd l,.n (l.length:Int),.n (i:Int),.n (N s.L),.n (N s.U),.n (N s.C),.l TB s.T,.n (N s.P)]) [.n (N s.L),.n (N s.U),.n (N s.C),.l TB s.T,.n (N s.P)] hp.1 (b4v _) (fun i hi h=> ?_) (fun i hi h=> ?_) (b4q (by omega) rfl (by omega)) (fun e=>e4o e) (fun k e=>g4x e)
 ·show _=some (Step.go [.k 0,.l TNd l,.n (l.length:Int),.n ((i+1:Nat):Int),.n (N s.L),.n (N s.U),.n (N s.C),.l TB s.T,.n (N s.P)])
  obtain⟨q1,q2⟩:=hp.2 _ (sAtG l (Ty.dflt TNd) hi)
  rw[←w1n i (by have:=hp.1;omega)]
  exact c4h (by omega) rfl (by omega) (h38P s.P q1 q2) (neg_t h)
 ·obtain⟨q1,q2⟩:=hp.2 _ (sAtG l (Ty.dflt TNd) hi)
  exact b4o (by omega) rfl (by omega) (h38P s.P q1 q2) (d4y h)
theorem k39 (s:SQ)(l:List Int)(hp:in64 l):a4f [.n (N s.L),.n (N s.U),.n (N s.C),.l TB s.T,.n (N s.P),.l TI l]=some (0,[.b (l.any fun x=>s.L.getLsbD x.toNat)]):=by
 obtain⟨z,e,h⟩:=k77 l s hp
 exact(f4c e).trans (by rw[h])
theorem k40 (s:SQ)(x y:Int)(t cf:List Int)(l:LN)(hp:in32 l):b4l [.n (N s.L),.n (N s.U),.n (N s.C),.l TB s.T,.n (N s.P),.n x,.n y,.l TI t,.l TNd l,.l TI cf]=some (0,[.b (!l.any (turn s.P))]):=by
 obtain⟨z,e,h⟩:=k78 l s hp
 exact(g4w e).trans (by rw[h])
theorem h4a (X:B64){k:Nat}(hk:k<64):putB (X&&&firB k) k (X.getLsbD k)=X&&&firB (k+1):=by
 apply BitVec.eq_of_getLsbD_eq
 intro j hj
 rw[i4k _ _ _ hj,BitVec.getLsbD_and,BitVec.getLsbD_and,y0i (by omega),y0i (by omega)]
 by_cases e:j=k
 ·subst e;rw[dt rfl,dt (show j<j+1 by omega)];simp
 ·rw[df e,cond_false]
  have:decide (j<k)=decide (j<k+1):=by rw[Bool.eq_iff_iff];simp;omega
  rw[this]
def tmL (X:B64)(T:List Int)(k:Nat):List Int:=(List.range 64).map fun n=>bif decide (n<k)&&X.getLsbD n then imin (T.getD n 0) 20 else 0
theorem y3r (X:B64)(T:List Int)(k:Nat):(tmL X T k).length=64:=by unfold tmL;rw[List.length_map,List.length_range]
theorem a4a (X:B64)(T:List Int)(k:Nat){n:Nat}(h:n<64):(tmL X T k).getD n 0=bif decide (n<k)&&X.getLsbD n then imin (T.getD n 0) 20 else 0:=by
 unfold tmL
 rw[List.getD_eq_getElem?_getD,List.getElem?_map,List.getElem?_range h];rfl
theorem h4r {l l':List Int}(h:l.length=64)(h':l'.length=64)(e: ∀n,n<64→l.getD n 0=l'.getD n 0):l=l':=by
 apply List.ext_getElem (by omega)
 intro n h1 h2
 have:=e n (by omega)
 rwa [j0x _ _ h1,j0x _ _ h2]at this
theorem set_at (l:List Int){i n:Nat}(v:Int)(h:n<l.length):(l.set i v).getD n 0=bif decide (i=n)then v else l.getD n 0:=by
 rw[j0x _ _ (by rw[List.length_set];exact h),List.getElem_set,j0x _ _ h]
 by_cases e:i=n
 ·rw[if_pos e,dt e];rfl
 ·rw[if_neg e,df e];rfl
theorem tmL_t {X:B64}(T:List Int){i:Nat}(hi:i<64)(h:X.getLsbD i=true):(tmL X T i).set i (imin (T.getD i 0) 20)=tmL X T (i+1):=by
 refine h4r (by rw[List.length_set,y3r]) (y3r ..) fun n hn=> ?_
 rw[set_at _ _ (by rw[y3r];exact hn),a4a _ _ _ hn,a4a _ _ _ hn]
 by_cases e:i=n
 ·subst e;rw[dt rfl,dt (show i<i+1 by omega),h];rfl
 ·have:decide (n<i)=decide (n<i+1):=by rw[Bool.eq_iff_iff];simp;omega
  rw[df e,this];rfl
theorem tmL_f {X:B64}(T:List Int){i:Nat}(h:X.getLsbD i=false):tmL X T i=tmL X T (i+1):=by
 refine h4r (y3r ..) (y3r ..) fun n hn=> ?_
 rw[a4a _ _ _ hn,a4a _ _ _ hn]
 by_cases e:i=n
 ·subst e;rw[h];simp
 ·have:decide (n<i)=decide (n<i+1):=by rw[Bool.eq_iff_iff];simp;omega
  rw[this]
theorem tmL_0 (X:B64)(T:List Int):tmL X T 0=List.replicate 64 0:=by
 refine h4r (y3r ..) List.length_replicate fun n hn=> ?_
 rw[a4a _ _ _ hn,j0x (List.replicate 64 (0:Int)) 0 (by rw[List.length_replicate];exact hn),List.getElem_replicate];simp
abbrev y3x (i k:Nat)(s:SQ):SQ:=⟨s.L&&&firB i,(s.L&&&s.U)&&&firB i,(s.L&&&s.C)&&&firB i,tmL (s.L&&&s.C) s.T i,s.P&&&(firB k).setWidth 32⟩
theorem i4c (P:BitVec 32){k:Nat}(hk:k<32):ior IntKind.u32 (N (P&&&(firB k).setWidth 32)) (iand IntKind.u32 (N P) (ishl IntKind.u32 (1:Int) (k:Int)))=N (P&&&(firB (k+1)).setWidth 32):=by
 rw[show(1:Int)=N 1#32 from rfl,ishl_u32,r2g,ior_u32]
 refine congrArg N (BitVec.eq_of_getLsbD_eq fun j hj=> ?_)
 rw[BitVec.getLsbD_or,BitVec.getLsbD_and,BitVec.getLsbD_and,BitVec.getLsbD_and,BitVec.getLsbD_setWidth,BitVec.getLsbD_setWidth,y0i (by omega),y0i (by omega),BitVec.getLsbD_shiftLeft]
 by_cases e:j=k
 ·subst e;simp[hj]
 ·by_cases q:j<k
  ·rw[dt q,dt (show j<k+1 by omega),dt hj];simp[q]
  ·rw[df q,df (show¬j<k+1 by omega)]
   have:(1#32).getLsbD (j-k)=false:=by
    rw[BitVec.getLsbD_one];simp;omega
   rw[this];simp
abbrev zst:SQ:=⟨0#64,0#64,0#64,List.replicate 64 0,0#32⟩
theorem l14_5 (s z:SQ)(A:List Int)(Q:List Qr)(hQ:Q.length≤64):a4p [.k 0,.n (Q.length:Int),.n 0,.l TI A,.l TQr Q,.n (N s.L),.n (N s.U),.n (N s.C),.l TB s.T,.n (N s.P),.n (N z.L),.n (N z.U),.n (N z.C),.l TB z.T,.n (N z.P),.n (N (s.L&&&firB 0)),.n (N ((s.L&&&s.U)&&&firB 0)),.n (N ((s.L&&&s.C)&&&firB 0)),.l TB (tmL (s.L&&&s.C) s.T 0),.n (N (s.P&&&(firB 0).setWidth 32))]=some (0,[.l TI A,.l TQr Q,.n (N s.L),.n (N s.U),.n (N s.C),.l TB s.T,.n (N s.P),.n (N z.L),.n (N z.U),.n (N z.C),.l TB z.T,.n (N z.P),.n (N (s.L&&&firB Q.length)),.n (N ((s.L&&&s.U)&&&firB Q.length)),.n (N ((s.L&&&s.C)&&&firB Q.length)),.l TB (tmL (s.L&&&s.C) s.T Q.length),.n (N (s.P&&&(firB 0).setWidth 32))]):=by
 rw[b4n]
 refine b0a (st:=y3l) (fun i=>[.k 0,.n (Q.length:Int),.n (i:Int),.l TI A,.l TQr Q,.n (N s.L),.n (N s.U),.n (N s.C),.l TB s.T,.n (N s.P),.n (N z.L),.n (N z.U),.n (N z.C),.l TB z.T,.n (N z.P),.n (N (s.L&&&firB i)),.n (N ((s.L&&&s.U)&&&firB i)),.n (N ((s.L&&&s.C)&&&firB i)),.l TB (tmL (s.L&&&s.C) s.T i),.n (N (s.P&&&(firB 0).setWidth 32))]) Q.length (0,[.l TI A,.l TQr Q,.n (N s.L),.n (N s.U),.n (N s.C),.l TB s.T,.n (N s.P),.n (N z.L),.n (N z.U),.n (N z.C),.l TB z.T,.n (N z.P),.n (N (s.L&&&firB Q.length)),.n (N ((s.L&&&s.U)&&&firB Q.length)),.n (N ((s.L&&&s.C)&&&firB Q.length)),.l TB (tmL (s.L&&&s.C) s.T Q.length),.n (N (s.P&&&(firB 0).setWidth 32))]) (fun i hi=> ?_) ?_ FU (b1w (by omega))
 ·show _=some (Step.go [.k 0,.n (Q.length:Int),.n ((i+1:Nat):Int),.l TI A,.l TQr Q,.n (N s.L),.n (N s.U),.n (N s.C),.l TB s.T,.n (N s.P),.n (N z.L),.n (N z.U),.n (N z.C),.l TB z.T,.n (N z.P),.n (N (s.L&&&firB (i+1))),.n (N ((s.L&&&s.U)&&&firB (i+1))),.n (N ((s.L&&&s.C)&&&firB (i+1))),.l TB (tmL (s.L&&&s.C) s.T (i+1)),.n (N (s.P&&&(firB 0).setWidth 32))])
  rw[←w1n i (by omega)]
  have hi':i<64:=by omega
  have e2:=h37 (s.L&&&firB i) i (s.L.getLsbD i)
  have e4:=h37 ((s.L&&&s.U)&&&firB i) i ((s.L&&&s.U).getLsbD i)
  have e6:=h37 ((s.L&&&s.C)&&&firB i) i ((s.L&&&s.C).getLsbD i)
  rw[h4a _ hi']at e2 e4 e6
  have e3:=h38 (s.L&&&s.U) hi'
  have e5:=h38 (s.L&&&s.C) hi'
  rw[←u1v]at e3 e5
  have e7:=h38 ((s.L&&&s.C)&&&firB (i+1)) hi'
  have hc:((s.L&&&s.C)&&&firB (i+1)).getLsbD i=(s.L&&&s.C).getLsbD i:=by
   rw[BitVec.getLsbD_and,y0i (by omega),dt (show i<i+1 by omega),Bool.and_true]
  cases h:(s.L&&&s.C).getLsbD i with
  |true=>
   have t:=c4i (l2:=A) (l3:=Q) (l7:=s.T) (n8:=N s.P) (n9:=N z.L) (n10:=N z.U) (n11:=N z.C) (l12:=z.T) (n13:=N z.P) (l17:=tmL (s.L&&&s.C) s.T i) (n18:=N (s.P&&&(firB 0).setWidth 32)) (by omega) (show(i:Int)<(Q.length:Int) by omega) (h38 s.L hi') e2 e3 e4 e5 e6 e7 (hc.trans h) (h1s (by omega) (by omega))
   have g:=tmL_t s.T hi' h
   have t2:(y3l _).sel=some (Step.go [.k 0,.n (Q.length:Int),.n (IntKind.wrap .i64 ((i:Int)+1)),.l TI A,.l TQr Q,.n (N s.L),.n (N s.U),.n (N s.C),.l TB s.T,.n (N s.P),.n (N z.L),.n (N z.U),.n (N z.C),.l TB z.T,.n (N z.P),.n (N (s.L&&&firB (i+1))),.n (N ((s.L&&&s.U)&&&firB (i+1))),.n (N ((s.L&&&s.C)&&&firB (i+1))),.l TB ((tmL (s.L&&&s.C) s.T i).set i (imin (s.T.getD i 0) 20)),.n (N (s.P&&&(firB 0).setWidth 32))]):=t
   rw[g]at t2
   exact t2
  |false=>
   have t:=c4a (l2:=A) (l3:=Q) (l7:=s.T) (n8:=N s.P) (n9:=N z.L) (n10:=N z.U) (n11:=N z.C) (l12:=z.T) (n13:=N z.P) (l17:=tmL (s.L&&&s.C) s.T i) (n18:=N (s.P&&&(firB 0).setWidth 32)) (by omega) (show(i:Int)<(Q.length:Int) by omega) (h38 s.L hi') e2 e3 e4 e5 e6 e7 (hc.trans h)
   have t2:(y3l _).sel=some (Step.go [.k 0,.n (Q.length:Int),.n (IntKind.wrap .i64 ((i:Int)+1)),.l TI A,.l TQr Q,.n (N s.L),.n (N s.U),.n (N s.C),.l TB s.T,.n (N s.P),.n (N z.L),.n (N z.U),.n (N z.C),.l TB z.T,.n (N z.P),.n (N (s.L&&&firB (i+1))),.n (N ((s.L&&&s.U)&&&firB (i+1))),.n (N ((s.L&&&s.C)&&&firB (i+1))),.l TB (tmL (s.L&&&s.C) s.T (i+1)),.n (N (s.P&&&(firB 0).setWidth 32))]):=t.trans (by rw[tmL_f s.T h])
   exact t2
 ·exact c4k (by omega) (by omega)
theorem l14_14 (s z t:SQ)(A:List Int)(Q:List Qr)(hA:A.length≤32):z3w [.k 0,.n (A.length:Int),.n 0,.l TI A,.l TQr Q,.n (N s.L),.n (N s.U),.n (N s.C),.l TB s.T,.n (N s.P),.n (N z.L),.n (N z.U),.n (N z.C),.l TB z.T,.n (N z.P),.n (N t.L),.n (N t.U),.n (N t.C),.l TB t.T,.n (N (s.P&&&(firB 0).setWidth 32))]=some (0,[.l TI A,.l TQr Q,.n (N z.L),.n (N z.U),.n (N z.C),.l TB z.T,.n (N z.P),.n (N t.L),.n (N t.U),.n (N t.C),.l TB t.T,.n (N (s.P&&&(firB A.length).setWidth 32))]):=by
 rw[b4i]
 refine b0a (st:=y3q) (fun i=>[.k 0,.n (A.length:Int),.n (i:Int),.l TI A,.l TQr Q,.n (N s.L),.n (N s.U),.n (N s.C),.l TB s.T,.n (N s.P),.n (N z.L),.n (N z.U),.n (N z.C),.l TB z.T,.n (N z.P),.n (N t.L),.n (N t.U),.n (N t.C),.l TB t.T,.n (N (s.P&&&(firB i).setWidth 32))]) A.length (0,[.l TI A,.l TQr Q,.n (N z.L),.n (N z.U),.n (N z.C),.l TB z.T,.n (N z.P),.n (N t.L),.n (N t.U),.n (N t.C),.l TB t.T,.n (N (s.P&&&(firB A.length).setWidth 32))]) (fun i hi=> ?_) ?_ FU (b1w (by omega))
 ·show _=some (Step.go [.k 0,.n (A.length:Int),.n ((i+1:Nat):Int),.l TI A,.l TQr Q,.n (N s.L),.n (N s.U),.n (N s.C),.l TB s.T,.n (N s.P),.n (N z.L),.n (N z.U),.n (N z.C),.l TB z.T,.n (N z.P),.n (N t.L),.n (N t.U),.n (N t.C),.l TB t.T,.n (N (s.P&&&(firB (i+1)).setWidth 32))])
  rw[←w1n i (by omega)]
  rw[←i4c s.P (show i<32 by omega)]
  exact a4r (by omega) (by omega)
 ·exact a4t (by omega) (by omega)
theorem k14 (s:SQ)(A:List Int)(Q:List Qr)(hA:A.length≤32)(hQ:Q.length≤64):y3z [.n (N s.L),.n (N s.U),.n (N s.C),.l TB s.T,.n (N s.P),.l TI A,.l TQr Q]=some (0,[.n (N (s.L&&&firB Q.length)),.n (N ((s.L&&&s.U)&&&firB Q.length)),.n (N ((s.L&&&s.C)&&&firB Q.length)),.l TB (tmL (s.L&&&s.C) s.T Q.length),.n (N (s.P&&&(firB A.length).setWidth 32)),.l TI A,.l TQr Q]):=by
 have e1:=l14_5 s zst A Q hQ
 rw[tmL_0,show firB 0=0#64 from rfl,BitVec.and_zero,BitVec.and_zero,BitVec.and_zero,show BitVec.setWidth 32 0#64=0#32 from rfl,BitVec.and_zero]at e1
 have e2:=l14_14 s zst (y3x Q.length 0 s) A Q hA
 rw[show firB 0=0#64 from rfl,show BitVec.setWidth 32 0#64=0#32 from rfl,BitVec.and_zero]at e2
 exact e4q e1 e2
theorem e4i (k:IntKind): ∀l l':List Int,eqL (.int k) l l'=true↔l=l'
 |[],[]=>by simp[eqL]
 |[],_::_=>by simp[eqL]
 |_::_,[]=>by simp[eqL]
 |x::l,y::l'=>by
  show(eqD (.int k) x y&&eqL (.int k) l l')=true↔_
  rw[Bool.and_eq_true,e4i k l l',List.cons.injEq]
  show(x==y)=true∧_↔_
  rw[beq_iff_eq]
def eqS (s t:SQ):Bool:=N s.L==N t.L&&(N s.U==N t.U&&(N s.C==N t.C&&(eqL TB s.T t.T&&(N s.P==N t.P&&true))))
theorem a4k (s t:SQ):eqS s t=true↔s=t:=by
 unfold eqS
 simp only[Bool.and_eq_true,beq_iff_eq,N_eq]
 rw[show eqL TB s.T t.T=true↔s.T=t.T from e4i _ _ _]
 cases s;cases t
 simp
theorem i4p (s t:SQ):eqS s t=eqS t s:=by
 rw[Bool.eq_iff_iff,a4k,a4k];exact⟨fun h=>h.symm,fun h=>h.symm⟩
def qC (q:Qr):List Int:=q.2.2.2.2
def qN (q:Qr):LN:=q.2.2.2.1
def qT (q:Qr):List Int:=q.2.2.1
def okQ (q:Qr):Prop:=in64 (qC q)∧in32 (qN q)∧in64 (qT q)
def okI (s:SQ)(Q:List Qr)(i:Nat):Bool:=bif s.L.getLsbD i then !((qC (Q.getD i (Ty.dflt TQr))).any fun x=>s.L.getLsbD x.toNat)&& !(qN (Q.getD i (Ty.dflt TQr))).any (turn s.P)else true
theorem l15_4 (s:SQ)(A:List Int)(Q:List Qr)(hQ:Q.length≤64)(hq: ∀i,i<Q.length→okQ (Q.getD i (Ty.dflt TQr))):
  z3k [.k 0,.l TQr Q,.n (Q.length:Int),.n 0,.l TI A,.l TQr Q,.n (N s.L),.n (N s.U),.n (N s.C),.l TB s.T,.n (N s.P)]=some (bif (List.range' 0 Q.length).all (okI s Q)then(0,[.l TI A,.l TQr Q])else(1,[.b false,.l TI A,.l TQr Q])):=by
 rw[b4w]
 refine d0j (st:=y3m) (fun i=>[.k 0,.l TQr Q,.n (Q.length:Int),.n (i:Int),.l TI A,.l TQr Q,.n (N s.L),.n (N s.U),.n (N s.C),.l TB s.T,.n (N s.P)]) Q.length (okI s Q) (0,[.l TI A,.l TQr Q]) (1,[.b false,.l TI A,.l TQr Q]) (fun i hi h=> ?_) (fun i hi h=> ?_) (b4y (by omega) rfl (by omega)) FU (b1w (by omega))
 ·show _=some (Step.go [.k 0,.l TQr Q,.n (Q.length:Int),.n ((i+1:Nat):Int),.l TI A,.l TQr Q,.n (N s.L),.n (N s.U),.n (N s.C),.l TB s.T,.n (N s.P)])
  rw[←w1n i (by omega)]
  obtain⟨h1,h2,h3⟩:=hq i hi
  unfold okI at h
  cases hl:s.L.getLsbD i with
  |false=>exact c4g (by omega) rfl (by omega) (h38 s.L (by omega)) hl
  |true=>
   rw[hl,cond_true,Bool.and_eq_true]at h
   exact c4b (by omega) rfl (by omega) (h38 s.L (by omega)) hl (k39 s _ h1) (d4y h.1) (k40 s _ _ _ _ _ h2) h.2
 ·obtain⟨h1,h2,h3⟩:=hq i hi
  unfold okI at h
  cases hl:s.L.getLsbD i with
  |false=>rw[hl]at h;cases h
  |true=>
   rw[hl,cond_true]at h
   cases ha:(qC (Q.getD i (Ty.dflt TQr))).any fun x=>s.L.getLsbD x.toNat with
   |true=>exact c4m (by omega) rfl (by omega) (h38 s.L (by omega)) hl (k39 s _ h1) ha
   |false=>
    rw[ha]at h
    exact c4j (by omega) rfl (by omega) (h38 s.L (by omega)) hl (k39 s _ h1) ha (k40 s _ _ _ _ _ h2) h
def rgt (s:SQ)(A:List Int)(Q:List Qr):Bool:=eqS s (y3x Q.length A.length s)&&(List.range' 0 Q.length).all (okI s Q)
theorem k15 (s:SQ)(A:List Int)(Q:List Qr)(hA:A.length≤32)(hQ:Q.length≤64)(hq: ∀i,i<Q.length→okQ (Q.getD i (Ty.dflt TQr))):z3e [.n (N s.L),.n (N s.U),.n (N s.C),.l TB s.T,.n (N s.P),.l TI A,.l TQr Q]=some (0,[.b (rgt s A Q),.l TI A,.l TQr Q]):=by
 have e1:=k14 s A Q hA hQ
 have e2:=l15_4 s A Q hQ hq
 unfold rgt
 cases h:eqS s (y3x Q.length A.length s)with
 |false=>exact g4d e1 h
 |true=>
  cases h2:(List.range' 0 Q.length).all (okI s Q)with
  |true=>rw[h2]at e2;exact e4g e1 h e2
  |false=>rw[h2]at e2;exact g4p e1 h e2
theorem q_pw (k:Nat)(hk:k<64):f1y [.n (k:Int)]=some (0,[.n (N (p2 k))]):=by
 refine m3t ?_
 rw[l3e]
 refine b0a (st:=i3a) (fun i=>[.k 0,.n (k:Int),.n (N (p2 i)),.n (i:Int)]) k (0,[.n (N (p2 k))]) (fun i hi=> ?_) ?_ FU (b1w (by omega))
 ·have h:=k3z (n0:=k) (n1:=N (p2 i)) (n2:=i) (by omega)
  have e1:IntKind.wrap .u64 (N (p2 i)*(2:Int))=N (p2 (i+1)):=by
   unfold N
   rw[j2e (by omega),j2e (by omega),Nat.pow_succ]
   have:2^(i+1)≤2^63:=Nat.pow_le_pow_right (by omega) (by omega)
   rw[Nat.pow_succ]at this
   rw[wu64' (by omega) (by omega)];omega
  rw[e1,w64x (by omega) (by omega)]at h
  exact h
 ·exact l3c (by omega)
theorem v3z (X:B64)(n:Int):a1u [.n (N X),.n n]=some (0,[.b (hasB X n)]):=by
 unfold hasB inN
 by_cases h0:0≤n
 ·by_cases h1:n<64
  ·obtain⟨k,rfl⟩: ∃k:Nat,n=k:=⟨n.toNat,by omega⟩
   have hp:N (p2 k)=((2^k:Nat):Int):=by unfold N;rw[j2e (by omega)]
   have hpos:0<2^k:=Nat.pow_pos (by omega)
   have hne:((2^k:Nat):Int)≠0:=by have:=Nat.pos_iff_ne_zero.1 hpos;exact_mod_cast this
   rw[m3u h0 (by omega) (q_pw k (by omega)) (by rw[hp];exact hne),hp]
   have e1:Int.tdiv (N X) ((2^k:Nat):Int)=((X.toNat/2^k:Nat):Int):=by unfold N;rfl
   have hlt:X.toNat/2^k<2^64:=Nat.lt_of_le_of_lt (Nat.div_le_self _ _) X.isLt
   rw[e1,wu64' (Int.natCast_nonneg _) (Int.ofNat_lt.2 (Nat.lt_of_lt_of_le hlt (by decide)))]
   have e2:Int.tmod ((X.toNat/2^k:Nat):Int) 2=((X.toNat/2^k%2:Nat):Int):=rfl
   rw[e2,getN]
   simp only[Option.some.injEq,Prod.mk.injEq,List.cons.injEq,and_true,true_and,Dat.b.injEq]
   rw[show decide (0≤(k:Int))=true by simp,show decide ((k:Int)<64)=true by simpa using h1,Bool.true_and,Bool.true_and,Bool.eq_iff_iff,beq_iff_eq,decide_eq_true_eq]
   simp only[Int.toNat_natCast]
   omega
  ·rw[n3v h0 (by omega),decide_eq_false h1];simp
 ·rw[n3s h0,decide_eq_false h0];simp
theorem q_e13 (X:B64)(n:Int):o1n [.n (N X),.n n]=some (0,[.n (N (s1o X n))]):=by
 by_cases h0:0≤n
 ·by_cases h1:n<64
  ·have hi:inN n=true:=by simp[inN,h0,h1]
   have hq:=v3z X n
   cases hb:hasB X n with
   |true=>
    rw[hb]at hq
    rw[o3d (by omega) (by omega) hq rfl]
    have hg:X.getLsbD n.toNat=true:=by unfold hasB at hb;rw[hi]at hb;simpa using hb
    have:X|||p2 n.toNat=X:=by
     apply BitVec.eq_of_getLsbD_eq
     intro i hlt
     rw[BitVec.getLsbD_or,h2g]
     by_cases e:i=n.toNat
     ·subst e;simp[hg]
     ·simp[e]
    simp only[s1o,hi,cond_true,this]
   |false=>
    rw[hb]at hq
    have hg:X.getLsbD n.toNat=false:=by unfold hasB at hb;rw[hi]at hb;simpa using hb
    obtain⟨k,rfl⟩: ∃k:Nat,n=k:=⟨n.toNat,by omega⟩
    rw[n3k (by omega) (by omega) hq rfl (q_pw k (by omega))]
    rw[Int.toNat_natCast]at hg
    rw[N_add,r2c (by omega) hg]
    simp only[s1o,hi,cond_true,Int.toNat_natCast]
  ·rw[o3f (by omega) (by omega),i3h (by simp[inN,h1])]
 ·rw[m3j (by omega),i3h (by simp[inN,h0])]
theorem q_e27 (n:Int):g1d [.n n]=some (0,[.n (N (firB (min n.toNat 64)))]):=by
 refine n3c ?_
 rw[l3d]
 refine b0a (st:=h3q) (fun i=>[.k 0,.n n,.n (N (firB i)),.n (i:Int)]) (min n.toNat 64) (0,[.n (N (firB (min n.toNat 64)))]) (fun i hi=> ?_) ?_ FU (b1w (by omega))
 ·have h:=k3l (n0:=n) (n2:=i) (by omega) (by omega) (q_e13 (firB i) i)
  rw[w64x (by omega) (by omega),j2a (by omega)]at h
  exact h
 ·by_cases h:((min n.toNat 64:Nat):Int)<n
  ·exact k3o h (by omega)
  ·exact k3m h
theorem q11 (X:B64){k:Nat}(hk:k<64):a1u [.n (N X),.n (k:Int)]=some (0,[.b (X.getLsbD k)]):=by rw[v3z,p3n X hk]
theorem q27 {k:Nat}(hk:k≤64):g1d [.n (k:Int)]=some (0,[.n (N (firB k))]):=by rw[q_e27,Int.toNat_natCast,Nat.min_eq_left hk]
theorem p32bit (P:BitVec 32){x:Int}(h0:0≤x):(iand IntKind.u32 (ishr IntKind.u32 (N P) x) (1:Int)==(1:Int))=P.getLsbD x.toNat:=by
 obtain⟨k,rfl⟩: ∃k:Nat,x=k:=⟨x.toNat,by omega⟩
 rw[show(1:Int)=N 1#32 from rfl,a2b,r2g,N_beq,Int.toNat_natCast]
 rw[Bool.eq_iff_iff,beq_iff_eq]
 constructor
 ·intro e
  have:=congrArg (fun z=>BitVec.getLsbD z 0) e
  simpa [BitVec.getLsbD_and,BitVec.getLsbD_ushiftRight]using this
 ·intro e
  apply BitVec.eq_of_getLsbD_eq
  intro j hj
  rw[BitVec.getLsbD_and,BitVec.getLsbD_ushiftRight]
  by_cases q:j=0
  ·subst q;rw[Nat.add_zero,e];rfl
  ·rw[show(1#32).getLsbD j=false by rw[BitVec.getLsbD_one];simp;omega,Bool.and_false]
section
variable {a:LS} {b c:LP} {r:LR} (w:WF a b c r)
include w
theorem e46 {i k:Nat}(hi:i<r.length)(hk:k<r.length):m1e [.l TS a,.l TPt b,.l TPt c,.l TRt r,.s (eS (rN r i)),.n (eN (rN r i)),.l TI (eP (rN r i)),.l TNd (eQ (rN r i)),.l TI (eO (rN r i)),.l TNd (eF (rN r i)),.s (eS (rN r k)),.n (eN (rN r k)),.l TI (eP (rN r k)),.l TNd (eQ (rN r k)),.l TI (eO (rN r k)),.l TNd (eF (rN r k))]=some (0,[.b (cfE b (rN r i) (rN r k))]):=by
 obtain⟨⟨-,⟨p1,p2,p3,p4⟩,-,-⟩,-⟩:=w.all i hi
 obtain⟨⟨-,⟨q1,q2,q3,q4⟩,-,-⟩,-⟩:=w.all k hk
 exact o46c a b c r _ _ p1 p2 p3 p4 q1 q2 q3 q4 (by have:=w.lb;omega) (w.pt i hi) (w.pt k hk)
theorem e12 {i:Nat}(hi:i<r.length):i1r [.s (eS (rN r i)),.n (eN (rN r i)),.l TI (eP (rN r i)),.l TNd (eQ (rN r i)),.l TI (eO (rN r i)),.l TNd (eF (rN r i))]=some (0,[.l TNd (ndsE (rN r i))]):=by
 obtain⟨⟨-,⟨p1,p2,p3,p4⟩,-,-⟩,-⟩:=w.all i hi
 exact o12 _ _ _ _ _ _ p1 p2 p3 p4
theorem e11 {i:Nat}(hi:i<r.length):h1f [.s (eS (rN r i)),.n (eN (rN r i)),.l TI (eP (rN r i)),.l TNd (eQ (rN r i)),.l TI (eO (rN r i)),.l TNd (eF (rN r i))]=some (0,[.l TI (trk (rN r i))]):=by
 obtain⟨⟨-,⟨p1,p2,p3,p4⟩,-,-⟩,-⟩:=w.all i hi
 exact o11 _ _ _ _ _ _ p1 p2 p3 p4
theorem in_trk {i:Nat}(hi:i<r.length):in64 (trk (rN r i)):=by
 obtain⟨⟨-,⟨(p1:List.length (eP (rN r i))≤200),(p2:List.length (eQ (rN r i))≤200),(p3:List.length (eO (rN r i))≤200),(p4:List.length (eF (rN r i))≤200)⟩,-,-⟩,-⟩:=w.all i hi
 refine⟨by unfold trk;rw[List.length_append];omega,fun x hx=> ?_⟩
 have:=w.tr i hi x hx
 have:=w.la
 omega
theorem in_nds {i:Nat}(hi:i<r.length):in32 (ndsE (rN r i)):=by
 obtain⟨⟨-,⟨(p1:List.length (eP (rN r i))≤200),(p2:List.length (eQ (rN r i))≤200),(p3:List.length (eO (rN r i))≤200),(p4:List.length (eF (rN r i))≤200)⟩,-,-⟩,-⟩:=w.all i hi
 refine⟨by unfold ndsE;rw[show∀x y:LN,List.append x y=x++y from fun _ _=>rfl,List.length_append];omega,fun x hx=> ?_⟩
 have:=w.pt i hi x hx
 have:=w.lb
 omega
theorem okQs {i:Nat}(hi:i<r.length):okQ ((w3k b c r r.length).getD i (Ty.dflt TQr)):=by
 rw[d4l b c r hi]
 refine⟨⟨?_,fun x hx=> ?_⟩,in_nds w hi,in_trk w hi⟩
 ·have:=f4m (fC b r i) r.length
  have:=w.lr
  show(mem _ _).length≤_
  omega
 ·obtain⟨k,h1,h2,rfl⟩:=f4g.1 hx
  have:=w.lr
  omega
end
theorem m17_5 (s:SQ)(a:LS)(b c:LP)(r:LR)(hr:r.length≤64):z3j [.k 0,.n 0,.l TS a,.l TPt b,.l TPt c,.l TRt r,.n (N s.L),.n (N s.U),.n (N s.C),.l TB s.T,.n (N s.P),.n (N zst.L),.n (N zst.U),.n (N zst.C),.l TB zst.T,.n (N zst.P),.n (N (s.L&&&firB r.length)),.n (N (s.U&&&(s.L&&&firB r.length))),.n (N (s.C&&&(s.L&&&firB r.length))),.l TB (tmL (s.L&&&s.C) s.T 0),.n (N (s.P&&&(firB b.length).setWidth 32))]=some (0,[.n (N zst.L),.n (N zst.U),.n (N zst.C),.l TB zst.T,.n (N zst.P),.n (N (s.L&&&firB r.length)),.n (N (s.U&&&(s.L&&&firB r.length))),.n (N (s.C&&&(s.L&&&firB r.length))),.l TB (tmL (s.L&&&s.C) s.T r.length),.n (N (s.P&&&(firB b.length).setWidth 32))]):=by
 rw[c4d]
 refine b0a (st:=y3n) (fun i=>[.k 0,.n (i:Int),.l TS a,.l TPt b,.l TPt c,.l TRt r,.n (N s.L),.n (N s.U),.n (N s.C),.l TB s.T,.n (N s.P),.n (N zst.L),.n (N zst.U),.n (N zst.C),.l TB zst.T,.n (N zst.P),.n (N (s.L&&&firB r.length)),.n (N (s.U&&&(s.L&&&firB r.length))),.n (N (s.C&&&(s.L&&&firB r.length))),.l TB (tmL (s.L&&&s.C) s.T i),.n (N (s.P&&&(firB b.length).setWidth 32))]) r.length (0,[.n (N zst.L),.n (N zst.U),.n (N zst.C),.l TB zst.T,.n (N zst.P),.n (N (s.L&&&firB r.length)),.n (N (s.U&&&(s.L&&&firB r.length))),.n (N (s.C&&&(s.L&&&firB r.length))),.l TB (tmL (s.L&&&s.C) s.T r.length),.n (N (s.P&&&(firB b.length).setWidth 32))]) (fun i hi=> ?_) ?_ FU (b1w (by omega))
 ·show _=some (Step.go [.k 0,.n ((i+1:Nat):Int),.l TS a,.l TPt b,.l TPt c,.l TRt r,.n (N s.L),.n (N s.U),.n (N s.C),.l TB s.T,.n (N s.P),.n (N zst.L),.n (N zst.U),.n (N zst.C),.l TB zst.T,.n (N zst.P),.n (N (s.L&&&firB r.length)),.n (N (s.U&&&(s.L&&&firB r.length))),.n (N (s.C&&&(s.L&&&firB r.length))),.l TB (tmL (s.L&&&s.C) s.T (i+1)),.n (N (s.P&&&(firB b.length).setWidth 32))])
  rw[←w1n i (by omega)]
  have hi':i<64:=by omega
  have e1:=q11 (s.C&&&(s.L&&&firB r.length)) hi'
  have hc:(s.C&&&(s.L&&&firB r.length)).getLsbD i=(s.L&&&s.C).getLsbD i:=by
   rw[BitVec.getLsbD_and,BitVec.getLsbD_and,BitVec.getLsbD_and,y0i (by omega),dt hi,Bool.and_true,Bool.and_comm]
  cases h:(s.L&&&s.C).getLsbD i with
  |true=>
   have t:=b4t (l1:=a) (l2:=b) (l3:=c) (n5:=N s.L) (n6:=N s.U) (n7:=N s.C) (l8:=s.T) (n9:=N s.P) (n10:=N zst.L) (n11:=N zst.U) (n12:=N zst.C) (l13:=zst.T) (n14:=N zst.P) (n15:=N (s.L&&&firB r.length)) (n16:=N (s.U&&&(s.L&&&firB r.length))) (l18:=tmL (s.L&&&s.C) s.T i) (n19:=N (s.P&&&(firB b.length).setWidth 32)) (by omega) (show(i:Int)<(r.length:Int) by omega) e1 (hc.trans h) (h1s (by omega) (by omega))
   have g:=tmL_t s.T hi' h
   have t2:(y3n _).sel=some (Step.go [.k 0,.n (IntKind.wrap .i64 ((i:Int)+1)),.l TS a,.l TPt b,.l TPt c,.l TRt r,.n (N s.L),.n (N s.U),.n (N s.C),.l TB s.T,.n (N s.P),.n (N zst.L),.n (N zst.U),.n (N zst.C),.l TB zst.T,.n (N zst.P),.n (N (s.L&&&firB r.length)),.n (N (s.U&&&(s.L&&&firB r.length))),.n (N (s.C&&&(s.L&&&firB r.length))),.l TB ((tmL (s.L&&&s.C) s.T i).set i (imin (s.T.getD i 0) 20)),.n (N (s.P&&&(firB b.length).setWidth 32))]):=t
   rw[g]at t2
   exact t2
  |false=>
   have t:=b4s (l1:=a) (l2:=b) (l3:=c) (n5:=N s.L) (n6:=N s.U) (n7:=N s.C) (l8:=s.T) (n9:=N s.P) (n10:=N zst.L) (n11:=N zst.U) (n12:=N zst.C) (l13:=zst.T) (n14:=N zst.P) (n15:=N (s.L&&&firB r.length)) (n16:=N (s.U&&&(s.L&&&firB r.length))) (l18:=tmL (s.L&&&s.C) s.T i) (n19:=N (s.P&&&(firB b.length).setWidth 32)) (by omega) (show(i:Int)<(r.length:Int) by omega) e1 (hc.trans h)
   have t2:(y3n _).sel=some (Step.go [.k 0,.n (IntKind.wrap .i64 ((i:Int)+1)),.l TS a,.l TPt b,.l TPt c,.l TRt r,.n (N s.L),.n (N s.U),.n (N s.C),.l TB s.T,.n (N s.P),.n (N zst.L),.n (N zst.U),.n (N zst.C),.l TB zst.T,.n (N zst.P),.n (N (s.L&&&firB r.length)),.n (N (s.U&&&(s.L&&&firB r.length))),.n (N (s.C&&&(s.L&&&firB r.length))),.l TB (tmL (s.L&&&s.C) s.T (i+1)),.n (N (s.P&&&(firB b.length).setWidth 32))]):=t.trans (by rw[tmL_f s.T h])
   exact t2
 ·exact c4f (by omega) (by omega)
theorem andf (X Y F:B64):X&&&(Y&&&F)=(Y&&&X)&&&F:=by rw[←BitVec.and_assoc,BitVec.and_comm X Y]
theorem m17 (s:SQ)(a:LS)(b c:LP)(r:LR)(hb:b.length≤32)(hr:r.length≤64):z3q [.l TS a,.l TPt b,.l TPt c,.l TRt r,.n (N s.L),.n (N s.U),.n (N s.C),.l TB s.T,.n (N s.P)]=some (0,[.n (N (s.L&&&firB r.length)),.n (N ((s.L&&&s.U)&&&firB r.length)),.n (N ((s.L&&&s.C)&&&firB r.length)),.l TB (tmL (s.L&&&s.C) s.T r.length),.n (N (s.P&&&(firB b.length).setWidth 32))]):=by
 have e:=m17_5 s a b c r hr
 rw[tmL_0]at e
 have e2:z3j [.k 0,.n 0,.l TS a,.l TPt b,.l TPt c,.l TRt r,.n (N s.L),.n (N s.U),.n (N s.C),.l TB s.T,.n (N s.P),.n 0,.n 0,.n 0,.l TB (List.replicate 64 (0:Int)),.n 0,.n (iand IntKind.u64 (N s.L) (N (firB r.length))),.n (iand IntKind.u64 (N s.U) (iand IntKind.u64 (N s.L) (N (firB r.length)))),.n (iand IntKind.u64 (N s.C) (iand IntKind.u64 (N s.L) (N (firB r.length)))),.l TB (List.replicate 64 (0:Int)),.n (iand IntKind.u32 (N s.P) (IntKind.wrap .u32 (N (firB b.length))))]=some (0,[.n (N zst.L),.n (N zst.U),.n (N zst.C),.l TB zst.T,.n (N zst.P),.n (N (s.L&&&firB r.length)),.n (N (s.U&&&(s.L&&&firB r.length))),.n (N (s.C&&&(s.L&&&firB r.length))),.l TB (tmL (s.L&&&s.C) s.T r.length),.n (N (s.P&&&(firB b.length).setWidth 32))]):=by
  rw[u1v,u1v,u1v,q3x,r2g];exact e
 have t:=e4j (q27 hr) (q27 (by omega)) e2
 rw[andf,andf]at t
 exact t
theorem mem_any (X:B64)(n:Nat)(f:Int→Bool):(mem X n).any f=(List.range' 0 n).any fun k=>X.getLsbD k&&f (k:Int):=by
 rw[Bool.eq_iff_iff,List.any_eq_true,List.any_eq_true]
 constructor
 ·rintro⟨x,hx,h⟩
  obtain⟨k,h1,h2,rfl⟩:=f4g.1 hx
  exact⟨k,List.mem_range'_1.2 (by omega),by rw[h2,h];rfl⟩
 ·rintro⟨k,h1,h⟩
  rw[List.mem_range'_1]at h1
  rw[Bool.and_eq_true]at h
  exact⟨k,f4g.2 ⟨k,by omega,h.1,rfl⟩,h.2⟩
theorem any_eq {n:Nat}{f g:Nat→Bool}(h: ∀k,k<n→f k=g k):(List.range' 0 n).any f=(List.range' 0 n).any g:=by
 rw[Bool.eq_iff_iff,List.any_eq_true,List.any_eq_true]
 constructor
 ·rintro⟨k,h1,h2⟩;exact⟨k,h1,by rw[←h k (by rw[List.mem_range'_1]at h1;omega)];exact h2⟩
 ·rintro⟨k,h1,h2⟩;exact⟨k,h1,by rw[h k (by rw[List.mem_range'_1]at h1;omega)];exact h2⟩
theorem all_eq {n:Nat}{f g:Nat→Bool}(h: ∀k,k<n→f k=g k):(List.range' 0 n).all f=(List.range' 0 n).all g:=by
 rw[Bool.eq_iff_iff,List.all_eq_true,List.all_eq_true]
 constructor
 ·intro H k h1;rw[←h k (by rw[List.mem_range'_1]at h1;omega)];exact H k h1
 ·intro H k h1;rw[h k (by rw[List.mem_range'_1]at h1;omega)];exact H k h1
def h4l (b:LP)(r:LR)(L:B64)(i:Nat):Bool:=(List.range' 0 r.length).any fun k=>clN b r i k&&L.getLsbD k
def okJ (b:LP)(r:LR)(s:SQ)(i:Nat):Bool:=bif s.L.getLsbD i then !h4l b r s.L i&& !(ndsE (rN r i)).any (turn s.P)else true
theorem cl_ne {b:LP}{r:LR}{i k:Nat}(h: ¬(i:Int)=(k:Int)):clN b r i k=cfE b (rN r i) (rN r k):=by unfold clN clF;rw[df h];rfl
theorem cl_eq {b:LP}{r:LR}{i k:Nat}(h:(i:Int)=(k:Int)):clN b r i k=false:=by unfold clN clF;rw[dt h];rfl
section
variable {a:LS} {b c:LP} {r:LR} (w:WF a b c r)
include w
theorem f4s (L:B64){i:Nat}(hi:i<r.length):((mem (fC b r i) r.length).any fun x=>L.getLsbD x.toNat)=h4l b r L i:=by
 rw[mem_any]
 exact any_eq fun k hk=>by rw[fC_bit w hi hk,Int.toNat_natCast]
theorem okIJ (s:SQ){i:Nat}(hi:i<r.length):okI s (w3k b c r r.length) i=okJ b r s i:=by
 unfold okI okJ
 rw[d4l b c r hi,show qC (qrow b c r i)=mem (fC b r i) r.length from rfl,show qN (qrow b c r i)=ndsE (rN r i)from rfl,f4s w s.L hi]
theorem m18_7 (s:SQ){i:Nat}(hi:i<r.length)(hl:s.L.getLsbD i=true):y3v [.k 0,.n (i:Int),.n 0,.l TS a,.l TPt b,.l TPt c,.l TRt r,.n (N s.L),.n (N s.U),.n (N s.C),.l TB s.T,.n (N s.P)]=some (bif h4l b r s.L i then(1,[.b false])else(0,[.n (i:Int),.l TS a,.l TPt b,.l TPt c,.l TRt r,.n (N s.L),.n (N s.U),.n (N s.C),.l TB s.T,.n (N s.P)])):=by
 have lr:=w.lr
 have hL:=q11 s.L (show i<64 by omega)
 rw[z3o]
 refine a0x (st:=y3j) (fun k=>[.k 0,.n (i:Int),.n (k:Int),.l TS a,.l TPt b,.l TPt c,.l TRt r,.n (N s.L),.n (N s.U),.n (N s.C),.l TB s.T,.n (N s.P)]) r.length (fun k=>clN b r i k&&s.L.getLsbD k) (1,[.b false]) (0,[.n (i:Int),.l TS a,.l TPt b,.l TPt c,.l TRt r,.n (N s.L),.n (N s.U),.n (N s.C),.l TB s.T,.n (N s.P)]) (fun k hk h=> ?_) (fun k hk h=> ?_) (c4l (by omega) (by omega) (Int.ofNat_lt.2 hi) (by omega)) FU (b1w (by omega))
 ·show _=some (Step.go [.k 0,.n (i:Int),.n ((k+1:Nat):Int),.l TS a,.l TPt b,.l TPt c,.l TRt r,.n (N s.L),.n (N s.U),.n (N s.C),.l TB s.T,.n (N s.P)])
  rw[←w1n k (by omega)]
  by_cases e:(i:Int)=(k:Int)
  ·exact c4p (by omega) (by omega) (Int.ofNat_lt.2 hi) (Int.ofNat_lt.2 hk) hL hl e
  rw[cl_ne e]at h
  cases hk2:s.L.getLsbD k with
  |false=>exact c4n (by omega) (by omega) (Int.ofNat_lt.2 hi) (Int.ofNat_lt.2 hk) hL hl e (q11 s.L (by omega)) hk2
  |true=>
   rw[hk2,Bool.and_true]at h
   exact b4r (by omega) (by omega) (Int.ofNat_lt.2 hi) (Int.ofNat_lt.2 hk) hL hl e (q11 s.L (by omega)) hk2 (e46 w hi hk) h
 ·rw[Bool.and_eq_true]at h
  by_cases e:(i:Int)=(k:Int)
  ·rw[cl_eq e]at h;cases h.1
  rw[cl_ne e]at h
  exact c4s (by omega) (by omega) (Int.ofNat_lt.2 hi) (Int.ofNat_lt.2 hk) hL hl e (q11 s.L (by omega)) h.2 (e46 w hi hk) h.1
theorem m18_7f (s:SQ){i:Nat}(hi:i<r.length)(hl:s.L.getLsbD i=false):y3v [.k 0,.n (i:Int),.n 0,.l TS a,.l TPt b,.l TPt c,.l TRt r,.n (N s.L),.n (N s.U),.n (N s.C),.l TB s.T,.n (N s.P)]=some (0,[.n (i:Int),.l TS a,.l TPt b,.l TPt c,.l TRt r,.n (N s.L),.n (N s.U),.n (N s.C),.l TB s.T,.n (N s.P)]):=by
 have lr:=w.lr
 rw[z3o]
 exact c0a (n:=FU-1) (c4c (by omega) (by omega) (Int.ofNat_lt.2 hi) (by omega) (q11 s.L (by omega)) hl)
theorem m18_13 (s:SQ){i:Nat}(hi:i<r.length):z3b [.k 0,.n (i:Int),.n 0,.l TS a,.l TPt b,.l TPt c,.l TRt r,.n (N s.L),.n (N s.U),.n (N s.C),.l TB s.T,.n (N s.P),.l TNd (ndsE (rN r i))]=some (bif s.L.getLsbD i&&(ndsE (rN r i)).any (turn s.P)then(1,[.b false])else(0,[.n (i:Int),.l TS a,.l TPt b,.l TPt c,.l TRt r,.n (N s.L),.n (N s.U),.n (N s.C),.l TB s.T,.n (N s.P)])):=by
 have lr:=w.lr
 obtain⟨n1,n2⟩:=in_nds w hi
 have hL:=q11 s.L (show i<64 by omega)
 have key:(List.range' 0 (ndsE (rN r i)).length).any (fun k=>s.L.getLsbD i&&turn s.P ((ndsE (rN r i)).getD k (Ty.dflt TNd)))=(s.L.getLsbD i&&(ndsE (rN r i)).any (turn s.P)):=by
  rw[←c0g (ndsE (rN r i)) (Ty.dflt TNd) (turn s.P)]
  cases s.L.getLsbD i with
  |true=>simp only[Bool.true_and]
  |false=>simp
 rw[b4a,←key]
 refine a0x (st:=y3k) (fun k=>[.k 0,.n (i:Int),.n (k:Int),.l TS a,.l TPt b,.l TPt c,.l TRt r,.n (N s.L),.n (N s.U),.n (N s.C),.l TB s.T,.n (N s.P),.l TNd (ndsE (rN r i))]) (ndsE (rN r i)).length (fun k=>s.L.getLsbD i&&turn s.P ((ndsE (rN r i)).getD k (Ty.dflt TNd))) (1,[.b false]) (0,[.n (i:Int),.l TS a,.l TPt b,.l TPt c,.l TRt r,.n (N s.L),.n (N s.U),.n (N s.C),.l TB s.T,.n (N s.P)]) (fun k hk h=> ?_) (fun k hk h=> ?_) (b4k (by omega) (by omega)) FU (b1w (by omega))
 ·show _=some (Step.go [.k 0,.n (i:Int),.n ((k+1:Nat):Int),.l TS a,.l TPt b,.l TPt c,.l TRt r,.n (N s.L),.n (N s.U),.n (N s.C),.l TB s.T,.n (N s.P),.l TNd (ndsE (rN r i))])
  rw[←w1n k (by omega)]
  cases hl:s.L.getLsbD i with
  |false=>exact b4j (by omega) (by omega) hL hl
  |true=>
   rw[hl,Bool.true_and]at h
   obtain⟨q1,q2⟩:=n2 _ (sAtG (ndsE (rN r i)) (Ty.dflt TNd) hk)
   have g:=p32bit s.P q1
   unfold turn at h
   rw[←g]at h
   exact a4v (by omega) (by omega) hL hl (show¬f1 ((ndsE (rN r i)).getD k (Ty.dflt TNd))<0 by omega) (neg_t h)
 ·rw[Bool.and_eq_true]at h
  obtain⟨q1,q2⟩:=n2 _ (sAtG (ndsE (rN r i)) (Ty.dflt TNd) hk)
  have g:=p32bit s.P q1
  have h2:=h.2
  unfold turn at h2
  rw[←g]at h2
  exact a4w (by omega) (by omega) hL h.1 (show¬f1 ((ndsE (rN r i)).getD k (Ty.dflt TNd))<0 by omega) (d4y h2)
theorem m18_4 (s:SQ):z3l [.k 0,.n 0,.l TS a,.l TPt b,.l TPt c,.l TRt r,.n (N s.L),.n (N s.U),.n (N s.C),.l TB s.T,.n (N s.P)]=some (bif (List.range' 0 r.length).all (okJ b r s)then(0,[])else(1,[.b false])):=by
 have lr:=w.lr
 rw[b4x]
 refine d0j (st:=y3p) (fun i=>[.k 0,.n (i:Int),.l TS a,.l TPt b,.l TPt c,.l TRt r,.n (N s.L),.n (N s.U),.n (N s.C),.l TB s.T,.n (N s.P)]) r.length (okJ b r s) (0,[]) (1,[.b false]) (fun i hi h=> ?_) (fun i hi h=> ?_) (c4e (by omega) (by omega)) FU (b1w (by omega))
 ·show _=some (Step.go [.k 0,.n ((i+1:Nat):Int),.l TS a,.l TPt b,.l TPt c,.l TRt r,.n (N s.L),.n (N s.U),.n (N s.C),.l TB s.T,.n (N s.P)])
  rw[←w1n i (by omega)]
  have e13:=m18_13 w s hi
  unfold okJ at h
  cases hl:s.L.getLsbD i with
  |false=>
   rw[hl,Bool.false_and,cond_false]at e13
   exact z3s (by omega) (by omega) (m18_7f w s hi hl) (h1s (by omega) (by omega)) (e12 w hi) e13
  |true=>
   rw[hl,cond_true,Bool.and_eq_true]at h
   have e7:=m18_7 w s hi hl
   rw[d4y h.1,cond_false]at e7
   rw[d4y h.2,Bool.and_false,cond_false]at e13
   exact z3s (by omega) (by omega) e7 (h1s (by omega) (by omega)) (e12 w hi) e13
 ·have e13:=m18_13 w s hi
  unfold okJ at h
  cases hl:s.L.getLsbD i with
  |false=>rw[hl]at h;cases h
  |true=>
   have e7:=m18_7 w s hi hl
   rw[hl,cond_true]at h
   cases hd:h4l b r s.L i with
   |true=>rw[hd]at e7;exact c4r (by omega) (by omega) e7
   |false=>
    rw[hd]at e7 h
    rw[hl,Bool.true_and,neg_t h]at e13
    exact c4o (by omega) (by omega) e7 (h1s (by omega) (by omega)) (e12 w hi) e13
def rgtJ (b:LP)(r:LR)(s:SQ):Bool:=eqS s (y3x r.length b.length s)&&(List.range' 0 r.length).all (okJ b r s)
theorem m18 (s:SQ):z3p [.l TS a,.l TPt b,.l TPt c,.l TRt r,.n (N s.L),.n (N s.U),.n (N s.C),.l TB s.T,.n (N s.P)]=some (0,[.b (rgtJ b r s)]):=by
 have e1:=m17 s a b c r w.lb w.lr
 have e2:=m18_4 w s
 unfold rgtJ
 rw[i4p]
 cases h:eqS (y3x r.length b.length s) s with
 |false=>exact f4d e1 h
 |true=>
  cases h2:(List.range' 0 r.length).all (okJ b r s)with
  |true=>rw[h2]at e2;exact g4e e1 h e2
  |false=>rw[h2]at e2;exact f4j e1 h e2
theorem n14 (s:SQ):y3z [.n (N s.L),.n (N s.U),.n (N s.C),.l TB s.T,.n (N s.P),.l TI (lie b b.length),.l TQr (w3k b c r r.length)]=some (0,[.n (N (s.L&&&firB r.length)),.n (N ((s.L&&&s.U)&&&firB r.length)),.n (N ((s.L&&&s.C)&&&firB r.length)),.l TB (tmL (s.L&&&s.C) s.T r.length),.n (N (s.P&&&(firB b.length).setWidth 32)),.l TI (lie b b.length),.l TQr (w3k b c r r.length)]):=by
 have h:=k14 s (lie b b.length) (w3k b c r r.length) (by rw[a4c];exact w.lb) (by rw[x3t];exact w.lr)
 rw[a4c,x3t]at h
 exact h
theorem n15 (s:SQ):z3e [.n (N s.L),.n (N s.U),.n (N s.C),.l TB s.T,.n (N s.P),.l TI (lie b b.length),.l TQr (w3k b c r r.length)]=some (0,[.b (rgtJ b r s),.l TI (lie b b.length),.l TQr (w3k b c r r.length)]):=by
 have h:=k15 s (lie b b.length) (w3k b c r r.length) (by rw[a4c];exact w.lb) (by rw[x3t];exact w.lr) (fun i hi=>okQs w (by rwa [x3t]at hi))
 rw[show rgt s (lie b b.length) (w3k b c r r.length)=rgtJ b r s by
  unfold rgt rgtJ
  rw[a4c,x3t,all_eq fun i hi=>okIJ w s hi]]at h
 exact h
end
theorem imin2 (x:Int):imin (imin x 20) 20=imin x 20:=by
 unfold imin
 by_cases h:20<x
 ·rw[if_pos h];rfl
 ·rw[if_neg h,if_neg h]
theorem tidy_2 (i k:Nat)(hi:i≤64)(s:SQ):y3x i k (y3x i k s)=y3x i k s:=by
 have h1: ∀X:B64,X&&&firB i&&&firB i=X&&&firB i:=fun X=>by rw[BitVec.and_assoc,BitVec.and_self]
 have h2: ∀X:B64,(s.L&&&firB i)&&&(s.L&&&X&&&firB i)=s.L&&&X&&&firB i:=fun X=>by
  apply BitVec.eq_of_getLsbD_eq
  intro j hj
  simp only[BitVec.getLsbD_and]
  cases s.L.getLsbD j<;>cases X.getLsbD j<;>cases(firB i).getLsbD j<;>rfl
 show SQ.mk _ _ _ _ _=SQ.mk _ _ _ _ _
 congr 1
 ·exact h1 _
 ·rw[h2,h1]
 ·rw[h2,h1]
 ·refine h4r (y3r ..) (y3r ..) fun n hn=> ?_
  rw[h2,a4a _ _ _ hn,a4a _ _ _ hn,BitVec.getLsbD_and,y0i hi]
  by_cases q:n<i
  ·rw[dt q,Bool.true_and,Bool.and_true]
   cases(s.L&&&s.C).getLsbD n with
   |false=>rfl
   |true=>exact imin2 _
  ·rw[df q];rfl
 ·rw[BitVec.and_assoc,BitVec.and_self]
theorem W4_true (a:LS)(b c:LP)(r:LR)(s:SQ)(hs:okS a b c r):(d4r [.l TS a,.l TPt b,.l TPt c,.l TRt r,.n (N s.L),.n (N s.U),.n (N s.C),.l TB s.T,.n (N s.P)]).sel=some true:=by
 obtain⟨m,e1⟩:=o15 a b c r 400 hs
 by_cases h:m>400
 ·exact h4v e1 h rfl
 have e2:=o11i a b c r hs
 unfold newA at e2
 by_cases hc:(ckA a b c r).1=0
 ·rw[if_pos hc]at e2
  have w:=wf_of hc
  have e3:=n14 w s
  have q1:eqS (y3x r.length b.length s) (y3x r.length b.length s)=true:=(a4k _ _).2 rfl
  have e4:=n14 w (y3x r.length b.length s)
  have q2:eqS (y3x r.length b.length (y3x r.length b.length s)) (y3x r.length b.length s)=true:=(a4k _ _).2 (tidy_2 _ _ w.lr s)
  exact i4r e1 h e2 rfl e3 (m17 s a b c r w.lb w.lr) q1 e4 q2 (n15 w s) (m18 w s) (by simp) (n15 w (y3x r.length b.length s)) (m18 w (y3x r.length b.length s)) (by simp) rfl
 ·rw[if_neg hc]at e2
  exact h4w e1 h e2 hc rfl
theorem W4_all (a:LS)(b c:LP)(r:LR)(x y z:Int)(T:List (Ty.den TB))(p:Int)(hs:okS a b c r)(hx:wfD (.int .u64) x=true)(hy:wfD (.int .u64) y=true)(hz:wfD (.int .u64) z=true)(hp:wfD (.int .u32) p=true):
  (d4r [.l TS a,.l TPt b,.l TPt c,.l TRt r,.n x,.n y,.n z,.l TB T,.n p]).sel=some true:=by
 have g: ∀{n:Int},wfD (.int .u64) n=true→n=N (BitVec.ofInt 64 n):=fun{n} h=>by
  have h:=wfi h
  simp[IntKind.min,IntKind.max,IntKind.bits,IntKind.signed]at h
  exact(N_of h.1 (by omega)).symm
 have g2:p=N (BitVec.ofInt 32 p):=by
  have h:=wfi hp
  simp[IntKind.min,IntKind.max,IntKind.bits,IntKind.signed]at h
  exact(N_of h.1 (by omega)).symm
 rw[g hx,g hy,g hz,g2]
 exact W4_true a b c r ⟨_,_,_,T,_⟩ hs
end Go.Proofs.Ytdmlmhomcmiodaa.Vx
end
