import Derived.Test.YtdmlmhomcmiodaaZ06j
import Derived.Test.YtdmlmhomcmiodaaProg
import Derived.Test.YtdmlmhomcmiodaaZ06m
import Derived.KernelRfl
import Derived.Test.YtdmlmhomcmiodaaZ06n
import Derived.Test.YtdmlmhomcmiodaaVxAsk
noncomputable section
namespace Go.Proofs.Ytdmlmhomcmiodaa.Vx
open Go Go.RowKit
set_option linter.unusedVariables false
set_option linter.unusedSimpArgs false
set_option maxRecDepth 100000
set_option maxHeartbeats 0
def q4r:List Dat→Option (Nat×List Dat):=fun _=>some (0,[.b true])
def Bw10:FBox:=(mkF [] [] [] [(.bool 0,[])] q4r)
theorem x3v (env:List Dat)(y:Nat×List Dat)(h:q4r env=some y):(boxC true Try.prog cs_Q0 10 ls0 (mkF [] [] [] [(.bool 0,[])] fun _=>none) env).sel=some y:=by
 cases h
 kernel_rfl
theorem x3s:a0v Try.prog 10 (a0j Bw10):=a0p (op:=q4r) a2u hmix true (LsOk.none _ _ _) x3v
def t4a:List Dat→Option (Nat×List Dat):=fun _=>some (0,[.b true])
def Bw26:FBox:=(mkF [] [] [] [(.bool 0,[])] t4a)
theorem x3n (env:List Dat)(y:Nat×List Dat)(h:t4a env=some y):(boxC true Try.prog cs_Q0 26 ls0 (mkF [] [] [] [(.bool 0,[])] fun _=>none) env).sel=some y:=by
 cases h
 kernel_rfl
theorem Bw26_ok:a0v Try.prog 26 (a0j Bw26):=a0p (op:=t4a) a2u hmix true (LsOk.none _ _ _) x3n
def cs_Z10:FuncId→Option a0q:=e1c 26 [Bw26] (e1c 10 [Bw10] cs_c16)
theorem t4e:CsOk Try.prog cs_Z10:=h0a (h0a x2w fun B hB=>by
 cases List.mem_singleton.1 hB
 exact x3s) fun B hB=>by
 cases List.mem_singleton.1 hB
 exact Bw26_ok
abbrev TB:Ty:=.int .u8
abbrev TCmd:Ty:=.pair (.int .u8) (.int .i64)
abbrev TQr:Ty:=.pair (.int .i64) (.pair (.int .i64) (.pair (.sl (.int .i64)) (.pair (.sl TNd) (.sl (.int .i64)))))
def fnC (f:Nat)(cs:List PV):PV:=.fn (.func f) [] cs
def fnM (f:Nat)(fs:List PV):PV:=.fn (.func f) fs []
def mB (h:Nat):PB:=.cells [.imm TI h,.imm TQr (h+1)]
def mO (a:Nat):PB:=.cells [.own a,.nilsl]
def mP (a:Nat):PB:=.cells [.own a,.own (a+1)]
def qrV (h:Nat):PV:=.agg [.int .i64 h,.int .i64 (h+1),.imm TI (h+2),.imm TNd (h+3),.imm TI (h+4)]
def stV (h:Nat):PV:=.agg [.int .u64 h,.int .u64 (h+1),.int .u64 (h+2),.arrd TB 64 (h+3),.int .u32 (h+4)]
def stB (h:Nat):PB:=.cells [.int .u64 h,.int .u64 (h+1),.int .u64 (h+2),.arrd TB 64 (h+3),.int .u32 (h+4)]
def ipV (h:Nat):PV:=.agg [.int .u64 h,.int .u32 (h+1),.int .u32 (h+2),.imm TCmd (h+3)]
def ipB (h:Nat):PB:=.cells [.int .u64 h,.int .u32 (h+1),.int .u32 (h+2),.imm TCmd (h+3)]
def ouV (h:Nat):PV:=.agg [.int .u64 h,.int .u32 (h+1)]
def ouB (h:Nat):PB:=.cells [.int .u64 h,.int .u32 (h+1)]
def cs_15A:FuncId→Option a0q:=a0s 9 ((BSh.of B15).k n2d) cs_Z10
theorem m3c:CsOk Try.prog cs_15A:=csA t4e B15_ok
def cs_9A:FuncId→Option a0q:=a0s 29 ((BSh.of B9).k op_9) cs_15A
theorem o3m:CsOk Try.prog cs_9A:=csA m3c B9_ok
def cs_10A:FuncId→Option a0q:=a0s 30 ((BSh.of B10).k t1a) cs_9A
theorem n3o:CsOk Try.prog cs_10A:=csA o3m B10_ok
def cs_11A:FuncId→Option a0q:=a0s 49 ((BSh.of B11).k h1f) cs_10A
theorem n3i:CsOk Try.prog cs_11A:=csA n3o B11_ok
def cs_12A:FuncId→Option a0q:=a0s 43 ((BSh.of B12).k i1r) cs_11A
theorem n3p:CsOk Try.prog cs_12A:=csA n3i B12_ok
def cs_19A:FuncId→Option a0q:=a0s 12 ((BSh.of B19).k f2v) cs_12A
theorem x3l:CsOk Try.prog cs_19A:=csA n3p t4c
def m3g:FuncId→Option a0q:=a0s 28 ((BSh.of Bc17).k p1p) cs_19A
theorem l3w:CsOk Try.prog m3g:=csA x3l t4b
def x3q:FuncId→Option a0q:=a0s 42 ((BSh.of Bc46).k m1e) m3g
theorem x3j:CsOk Try.prog x3q:=csA l3w t4i
def m3r:FuncId→Option a0q:=e1c 19 [(BSh.of Bc16).k b3k] x3q
theorem m3b:CsOk Try.prog m3r:=csB x3j t4g
def x3e:FuncId→Option a0q:=e1c 10 [(BSh.of Bw10).k q4r] m3r
theorem w3l:CsOk Try.prog x3e:=csB m3b x3s
def S_i38:BSh:={args:=[.int .u64 0,.int .i64 1],blks:=[],log:=[],outs:=[(.bool 0,[])]}
def ev_i38:List Dat→Tree (Nat×List Dat):=evF x3e 38 ls0 S_i38
theorem e_i38: ∃op,IsF ev_i38 38 S_i38 op:=bxF w3l (LsOk.none _ _ _)
def w3v:OpA:=opF e_i38
theorem x3k {n0 n1:Int}(h0:(¬n1<(0:Int))):w3v [.n n0,.n n1]=some ((0,[.b (iand IntKind.u64 (ishr IntKind.u64 n0 n1) (1:Int)==(1:Int))])):=h3h e_i38 (sT (nf (df h0))<|sP [1]<|sL)
def x3m:FuncId→Option a0q:=a0s 38 (S_i38.k w3v) x3e
theorem w3q:CsOk Try.prog x3m:=csL1 w3l e_i38
def S_i37:BSh:={args:=[.int .u64 0,.int .i64 1,.bool 2],blks:=[],log:=[],outs:=[(.int .u64 0,[])]}
def ev_i37:List Dat→Tree (Nat×List Dat):=evF x3m 37 ls0 S_i37
theorem h4d: ∃op,IsF ev_i37 37 S_i37 op:=bxF w3q (LsOk.none _ _ _)
def y3y:OpA:=opF h4d
theorem g4o {n0 n1:Int}{b2:Bool}(h0:(¬n1<(0:Int)))(h1:(b2=true)):y3y [.n n0,.n n1,.b b2]=some ((0,[.n (ior IntKind.u64 (b0l IntKind.u64 n0 (ishl IntKind.u64 (1:Int) n1)) (ishl IntKind.u64 (1:Int) n1))])):=h3h h4d (sT (nf (df h0))<|sT h1<|sT (nf (df h0))<|sP [1]<|sL)
theorem g4k {n0 n1:Int}{b2:Bool}(h0:(¬n1<(0:Int)))(h1:(b2=false)):y3y [.n n0,.n n1,.b b2]=some ((0,[.n (b0l IntKind.u64 n0 (ishl IntKind.u64 (1:Int) n1))])):=h3h h4d (sT (nf (df h0))<|sF h1<|sP [1]<|sL)
def x3f:FuncId→Option a0q:=a0s 37 (S_i37.k y3y) x3m
theorem w3i:CsOk Try.prog x3f:=csL1 w3q h4d
def x3o:LSh:={K:=0,log:=[],ins:=[(sh 20 [(0,.int .u64 0),(5,.own 0),(7,.int .i64 1),(8,.int .i64 2)],[.arr TI 3])],nils:=[(5,TI)],outs:=[(.exit 0,sh 20 [(5,.own 0)],[.arr TI 0])],cv:=[]}
def w3e:List Dat→Tree Step:=evL x3f 31 3 ls0 x3o
theorem w3p: ∃op,IsL w3e 31 3 x3o op:=bxL w3i (LsOk.none _ _ _)
def x3g:OpA:=opL w3p
theorem w3y (env:List Dat):x3g env=a0b w3e FU env:=h3j w3p env
abbrev y3c:MBox:=boxL w3p
theorem w3z {n0 n1 n2:Int}{l3:List (Ty.den TI)}{b4:Bool}(g0:0≤n2)(h0:(n2<n1))(h1:(w3v [.n n0,.n n2])=(some (0,[.b b4])))(h2:(b4=true))(h3:((List.length l3+1)*8≤140737488355328)):(w3e [.k 0,.n n0,.n n1,.n n2,.l TI l3]).sel=some (Step.go [.k 0,.n n0,.n n1,.n (IntKind.wrap .i64 (n2+(1:Int))),.l TI (l3++[n2])]):=sP [1]<|sT (dt h0)<|sA h1<|sP [1,1]<|sT h2<|sT (dt h3)<|sP [1]<|sL
theorem x3a {n0 n1 n2:Int}{l3:List (Ty.den TI)}{b4:Bool}(g0:0≤n2)(h0:(n2<n1))(h1:(w3v [.n n0,.n n2])=(some (0,[.b b4])))(h2:(b4=false)):(w3e [.k 0,.n n0,.n n1,.n n2,.l TI l3]).sel=some (Step.go [.k 0,.n n0,.n n1,.n (IntKind.wrap .i64 (n2+(1:Int))),.l TI l3]):=sP [1]<|sT (dt h0)<|sA h1<|sP [1,1]<|sF h2<|sP [1]<|sL
theorem w3x {n0 n1 n2:Int}{l3:List (Ty.den TI)}(g0:0≤n2)(h0:(¬n2<n1)):(w3e [.k 0,.n n0,.n n1,.n n2,.l TI l3]).sel=some (Step.stop 0 [.l TI l3]):=sP [1]<|sF (df h0)<|sP [1]<|sL
def S_i31:BSh:={args:=[.int .u64 0,.int .i64 1],blks:=[],log:=[],outs:=[(.own 0,[.arr TI 0])]}
def ev_i31:List Dat→Tree (Nat×List Dat):=evFN [(0,TI)] x3f 31 (lsM [(3,y3c)] 0) S_i31
theorem e_i31: ∃op,IsF ev_i31 31 S_i31 op:=bxFN w3i (lsE (lsC (h3i w3p) (atF) lsZ))
def w3t:OpA:=opF e_i31
theorem x3y {n0 n1:Int}{l2:List (Ty.den TI)}(h0:(x3g [.k 0,.n n0,.n n1,.n (0:Int),.l TI []])=(some (0,[.l TI l2]))):w3t [.n n0,.n n1]=some ((0,[.l TI l2])):=h3h e_i31 (sA h0<|sP [1,1]<|sL)
def w3s:FuncId→Option a0q:=a0s 31 (S_i31.k w3t) x3f
theorem w3g:CsOk Try.prog w3s:=csL1 w3i e_i31
def x3z:LSh:={K:=0,log:=[],ins:=[(sh 83 [(1,.ptr 0 0),(4,.own 1),(6,.ptr 2 0),(22,.imm TPt 0),(23,.int .i64 1),(24,.int .i64 2)],[laB 3,.arr TU 7,mO 3,.arr TI 8])],nils:=[],outs:=[(.exit 0,sh 83 [(1,.ptr 0 0),(4,.own 1),(6,.ptr 2 0)],[laB 0,.arr TU 4,mO 3,.arr TI 5])],cv:=[(6,[],0,.own TI)]}
def w3f:List Dat→Tree Step:=evL w3s 11 6 ls0 x3z
theorem w3o: ∃op,IsL w3f 11 6 x3z op:=bxL w3g (LsOk.none _ _ _)
def w3n:OpA:=opL w3o
theorem x3b (env:List Dat):w3n env=a0b w3f FU env:=h3j w3o env
abbrev y3e:MBox:=boxL w3o
theorem x3c {l0:List (Ty.den TPt)}{n1 n2:Int}{l3:List (Ty.den TS)}{l4 l5:List (Ty.den TPt)}{l6:List (Ty.den TRt)}{l7:List (Ty.den TU)}{l8:List (Ty.den TI)}(g0:0≤n2)(g1:n1=(l0.length:Int))(h0:(n2<n1))(h1:((List.length l8+1)*8≤140737488355328)):(w3f [.k 0,.l TPt l0,.n n1,.n n2,.l TS l3,.l TPt l4,.l TPt l5,.l TRt l6,.l TU l7,.l TI l8]).sel=some (Step.go [.k 0,.l TPt l0,.n n1,.n (IntKind.wrap .i64 (n2+(1:Int))),.l TS l3,.l TPt l4,.l TPt l5,.l TRt l6,.l TU l7,.l TI (l8++[Prod.snd (List.getD l0 (Int.toNat n2) (Ty.dflt TPt))])]):=sP [1]<|sT (dt h0)<|sTo (c:=(inR n2 (List.length l0)))<|sT (dt h1)<|sP [1,1]<|sL
theorem x3d {l0:List (Ty.den TPt)}{n1 n2:Int}{l3:List (Ty.den TS)}{l4 l5:List (Ty.den TPt)}{l6:List (Ty.den TRt)}{l7:List (Ty.den TU)}{l8:List (Ty.den TI)}(g0:0≤n2)(g1:n1=(l0.length:Int))(h0:(¬n2<n1)):(w3f [.k 0,.l TPt l0,.n n1,.n n2,.l TS l3,.l TPt l4,.l TPt l5,.l TRt l6,.l TU l7,.l TI l8]).sel=some (Step.stop 0 [.l TS l3,.l TPt l4,.l TPt l5,.l TRt l6,.l TU l7,.l TI l8]):=sP [1]<|sF (df h0)<|sP [1]<|sL
def x3h:LSh:={K:=0,log:=[],ins:=[(sh 83 [(1,.ptr 0 0),(4,.own 1),(6,.ptr 2 0),(41,.imm TRt 0),(42,.int .i64 1),(43,.int .i64 2)],[laB 3,.arr TU 7,mP 3,.arr TI 8,.arr TQr 9])],nils:=[],outs:=[(.exit 2,sh 83 [(6,.ptr 0 0)],[mP 1,.arr TI 0,.arr TQr 1])],cv:=[(6,[],1,.own TQr)]}
def w3d:List Dat→Tree Step:=evL w3s 11 11 ls0 x3h
theorem w3h: ∃op,IsL w3d 11 11 x3h op:=bxL w3g (LsOk.none _ _ _)
def w3j:OpA:=opL w3h
theorem w3u (env:List Dat):w3j env=a0b w3d FU env:=h3j w3h env
abbrev x3p:MBox:=boxL w3h
theorem w3w {l0:List (Ty.den TRt)}{n1 n2:Int}{l3:List (Ty.den TS)}{l4 l5:List (Ty.den TPt)}{l6:List (Ty.den TRt)}{l7:List (Ty.den TU)}{l8:List (Ty.den TI)}{l9:List (Ty.den TQr)}{l10:List (Ty.den TI)}{l11:List (Ty.den TNd)}{l12:List (Ty.den TI)}(g0:0≤n2)(g1:n1=(l0.length:Int))(h0:(n2<n1))(h1:(inR (Prod.fst (Prod.snd (List.getD l0 (Int.toNat n2) (Ty.dflt TRt)))) (List.length l5)=true))(h2:(inR (0:Int) (List.length (Prod.fst (Prod.snd (Prod.snd (List.getD l0 (Int.toNat n2) (Ty.dflt TRt))))))=true))(h3:(op_9 [.s (Prod.fst (List.getD l0 (Int.toNat n2) (Ty.dflt TRt))),.n (Prod.fst (Prod.snd (List.getD l0 (Int.toNat n2) (Ty.dflt TRt)))),.l TI (Prod.fst (Prod.snd (Prod.snd (List.getD l0 (Int.toNat n2) (Ty.dflt TRt))))),.l TNd (Prod.fst (Prod.snd (Prod.snd (Prod.snd (List.getD l0 (Int.toNat n2) (Ty.dflt TRt)))))),.l TI (Prod.fst (Prod.snd (Prod.snd (Prod.snd (Prod.snd (List.getD l0 (Int.toNat n2) (Ty.dflt TRt))))))),.l TNd (Prod.snd (Prod.snd (Prod.snd (Prod.snd (Prod.snd (List.getD l0 (Int.toNat n2) (Ty.dflt TRt)))))))])=(some (0,[.l TI l10])))(h4:(t1a [.s (Prod.fst (List.getD l0 (Int.toNat n2) (Ty.dflt TRt))),.n (Prod.fst (Prod.snd (List.getD l0 (Int.toNat n2) (Ty.dflt TRt)))),.l TI (Prod.fst (Prod.snd (Prod.snd (List.getD l0 (Int.toNat n2) (Ty.dflt TRt))))),.l TNd (Prod.fst (Prod.snd (Prod.snd (Prod.snd (List.getD l0 (Int.toNat n2) (Ty.dflt TRt)))))),.l TI (Prod.fst (Prod.snd (Prod.snd (Prod.snd (Prod.snd (List.getD l0 (Int.toNat n2) (Ty.dflt TRt))))))),.l TNd (Prod.snd (Prod.snd (Prod.snd (Prod.snd (Prod.snd (List.getD l0 (Int.toNat n2) (Ty.dflt TRt)))))))])=(some (0,[.l TNd l11])))(h5:(inR n2 (List.length l7)=true))(h6:(w3t [.n (List.getD l7 (Int.toNat n2) (0:Int)),.n (↑(List.length l6):Int)])=(some (0,[.l TI l12])))(h7:((List.length l9+1)*88≤140737488355328)):(w3d [.k 0,.l TRt l0,.n n1,.n n2,.l TS l3,.l TPt l4,.l TPt l5,.l TRt l6,.l TU l7,.l TI l8,.l TQr l9]).sel=some (Step.go [.k 0,.l TRt l0,.n n1,.n (IntKind.wrap .i64 (n2+(1:Int))),.l TS l3,.l TPt l4,.l TPt l5,.l TRt l6,.l TU l7,.l TI l8,.l TQr (apL l9 [(Prod.snd (List.getD l5 (Int.toNat (Prod.fst (Prod.snd (List.getD l0 (Int.toNat n2) (Ty.dflt TRt))))) (Ty.dflt TPt)),List.getD (Prod.fst (Prod.snd (Prod.snd (List.getD l0 (Int.toNat n2) (Ty.dflt TRt))))) 0 (0:Int),l10,l11,l12)])]):=sP [1]<|sT (dt h0)<|sTo (c:=(inR n2 (List.length l0)))<|sT h1<|sT h2<|sA h3<|sP [1,1]<|sA h4<|sP [1,1]<|sT h5<|sA h6<|sP [1,1]<|sT (dt h7)<|sP [1,1]<|sL
theorem w3r {l0:List (Ty.den TRt)}{n1 n2:Int}{l3:List (Ty.den TS)}{l4 l5:List (Ty.den TPt)}{l6:List (Ty.den TRt)}{l7:List (Ty.den TU)}{l8:List (Ty.den TI)}{l9:List (Ty.den TQr)}(g0:0≤n2)(g1:n1=(l0.length:Int))(h0:(¬n2<n1)):(w3d [.k 0,.l TRt l0,.n n1,.n n2,.l TS l3,.l TPt l4,.l TPt l5,.l TRt l6,.l TU l7,.l TI l8,.l TQr l9]).sel=some (Step.stop 0 [.l TI l8,.l TQr l9]):=sP [1]<|sF (df h0)<|sP [1]<|sL
def S_i11:BSh:={args:=[laV 0],blks:=[],log:=[],outs:=[(.tup [.ptr 0 0,.int .i64 0],[mB 1]),(.tup [.nilptr,.int .i64 0],[])]}
def ev_i11:List Dat→Tree (Nat×List Dat):=evFV [(none,0,.imm TI),(none,1,.imm TQr)] w3s 11 (lsM [(6,y3e),(11,x3p)] 0) S_i11
theorem y3g: ∃op,IsF ev_i11 11 S_i11 op:=bxFV w3g (lsE (lsC (h3i w3o) (atF) (lsC (h3i w3h) (atF) lsZ)))
def w3m:OpA:=opF y3g
theorem x3u {l0:List (Ty.den TS)}{l1 l2:List (Ty.den TPt)}{l3:List (Ty.den TRt)}{n4:Int}{l5:List (Ty.den TU)}{l6:List (Ty.den TS)}{l7 l8:List (Ty.den TPt)}{l9:List (Ty.den TRt)}{l10:List (Ty.den TU)}{l11 l12:List (Ty.den TI)}{l13:List (Ty.den TQr)}(h0:(p1p [.l TS l0,.l TPt l1,.l TPt l2,.l TRt l3])=(some (0,[.n n4,.l TU l5])))(h1:(n4=(0:Int)))(h2:(w3n [.k 0,.l TPt l1,.n (↑(List.length l1):Int),.n (0:Int),.l TS l0,.l TPt l1,.l TPt l2,.l TRt l3,.l TU l5,.l TI []])=(some (0,[.l TS l6,.l TPt l7,.l TPt l8,.l TRt l9,.l TU l10,.l TI l11])))(h3:(w3j [.k 0,.l TRt l9,.n (↑(List.length l9):Int),.n (0:Int),.l TS l6,.l TPt l7,.l TPt l8,.l TRt l9,.l TU l10,.l TI l11,.l TQr []])=(some (0,[.l TI l12,.l TQr l13]))):w3m [.l TS l0,.l TPt l1,.l TPt l2,.l TRt l3]=some ((0,[.n (0:Int),.l TI l12,.l TQr l13])):=h3h y3g (sA h0<|sP [1,1]<|sF (bnf h1)<|sA h2<|sP [1]<|sA h3<|sP [1,1]<|sL)
theorem x3x {l0:List (Ty.den TS)}{l1 l2:List (Ty.den TPt)}{l3:List (Ty.den TRt)}{n4:Int}(h0:(p1p [.l TS l0,.l TPt l1,.l TPt l2,.l TRt l3])=(some (1,[.n n4])))(h1:(¬n4=(0:Int))):w3m [.l TS l0,.l TPt l1,.l TPt l2,.l TRt l3]=some ((1,[.n n4])):=h3h y3g (sA h0<|sP [0,1,1]<|sT (bnt h1)<|sP [1]<|sL)
def a4e:FuncId→Option a0q:=e1c 11 [S_i11.k w3m] w3s
theorem x3r:CsOk Try.prog a4e:=csA1 w3g y3g
def cyB (p h:Nat):PB:=.cells [.ptr p 0,.int .u64 h,.int .u32 (h+1),.int .u32 (h+2),.imm TCmd (h+3),.int .u64 (h+4),.int .u64 (h+5),.int .u64 (h+6),.arrd TB 64 (h+7),.int .u32 (h+8)]
def pcB (q:Nat):PB:=.cells [.ptr q 0]
def icB (h:Nat):PB:=.cells [.int .i64 h]
def wcB (h:Nat):PB:=.cells [.int .u32 h]
def dosB:PB:=.cells [.nilfn,fnM 67 [.ptr 0 0],fnM 68 [.ptr 0 0],fnM 69 [.ptr 0 0]]
def f4r:LSh:={K:=1,log:=[],ins:=[(sh 19 [(0,.imm TI 0),(1,fnC 77 [.ptr 0 0]),(7,.int .i64 1),(8,.int .i64 2)],[stB 3])],nils:=[],outs:=[(.exit 0,sh 19 [],[stB 0]),(.ret,sh 19 [(4,.int .i64 0)],[stB 1])],cv:=[]}
def y3w:List Dat→Tree Step:=evL a4e 115 2 ls0 f4r
theorem a4i: ∃op,IsL y3w 115 2 f4r op:=bxL x3r (LsOk.none _ _ _)
def z3h:OpA:=opL a4i
theorem c4q (env:List Dat):z3h env=a0b y3w FU env:=h3j a4i env
abbrev h4p:MBox:=boxL a4i
theorem b4u {l0:List (Ty.den TI)}{n1 n2 n3 n4 n5:Int}{l6:List (Ty.den TB)}{n7:Int}{b8:Bool}(g0:0≤n2)(g1:n1=(l0.length:Int))(h0:(n2<n1))(h1:(w3v [.n n3,.n (List.getD l0 (Int.toNat n2) (0:Int))])=(some (0,[.b b8])))(h2:(b8=true)):(y3w [.k 0,.l TI l0,.n n1,.n n2,.n n3,.n n4,.n n5,.l TB l6,.n n7]).sel=some (Step.stop 1 [.n n2,.n n3,.n n4,.n n5,.l TB l6,.n n7]):=sP [1]<|sT (dt h0)<|sTo (c:=(inR n2 (List.length l0)))<|sP [1]<|sA h1<|sP [1,1,1]<|sT h2<|sP [1]<|sL
theorem b4p {l0:List (Ty.den TI)}{n1 n2 n3 n4 n5:Int}{l6:List (Ty.den TB)}{n7:Int}{b8:Bool}(g0:0≤n2)(g1:n1=(l0.length:Int))(h0:(n2<n1))(h1:(w3v [.n n3,.n (List.getD l0 (Int.toNat n2) (0:Int))])=(some (0,[.b b8])))(h2:(b8=false)):(y3w [.k 0,.l TI l0,.n n1,.n n2,.n n3,.n n4,.n n5,.l TB l6,.n n7]).sel=some (Step.go [.k 0,.l TI l0,.n n1,.n (IntKind.wrap .i64 (n2+(1:Int))),.n n3,.n n4,.n n5,.l TB l6,.n n7]):=sP [1]<|sT (dt h0)<|sTo (c:=(inR n2 (List.length l0)))<|sP [1]<|sA h1<|sP [1,1,1]<|sF h2<|sP [1]<|sL
theorem b4z {l0:List (Ty.den TI)}{n1 n2 n3 n4 n5:Int}{l6:List (Ty.den TB)}{n7:Int}(g0:0≤n2)(g1:n1=(l0.length:Int))(h0:(¬n2<n1)):(y3w [.k 0,.l TI l0,.n n1,.n n2,.n n3,.n n4,.n n5,.l TB l6,.n n7]).sel=some (Step.stop 0 [.n n3,.n n4,.n n5,.l TB l6,.n n7]):=sP [1]<|sF (df h0)<|sP [1]<|sL
def S_i77:BSh:={args:=[.imm TI 0,fnC 77 [.ptr 0 0]],blks:=[stB 1],log:=[],outs:=[(.int .i64 0,[stB 1])]}
def ev_i77:List Dat→Tree (Nat×List Dat):=evF a4e 115 (lsM [(2,h4p)] 1) S_i77
theorem g4z: ∃op,IsF ev_i77 115 S_i77 op:=bxF x3r (lsE (lsC (h3i a4i) (atF) lsZ))
def b4c:OpA:=opF g4z
theorem f4z {l0:List (Ty.den TI)}{n1 n2 n3:Int}{l4:List (Ty.den TB)}{n5 n6 n7 n8:Int}{l9:List (Ty.den TB)}{n10:Int}(h0:(z3h [.k 0,.l TI l0,.n (↑(List.length l0):Int),.n (0:Int),.n n1,.n n2,.n n3,.l TB l4,.n n5])=(some (0,[.n n6,.n n7,.n n8,.l TB l9,.n n10]))):b4c [.l TI l0,.n n1,.n n2,.n n3,.l TB l4,.n n5]=some ((0,[.n (-1:Int),.n n6,.n n7,.n n8,.l TB l9,.n n10])):=h3h g4z (sA h0<|sP [1,1]<|sL)
theorem e4u {l0:List (Ty.den TI)}{n1 n2 n3:Int}{l4:List (Ty.den TB)}{n5 n6 n7 n8 n9:Int}{l10:List (Ty.den TB)}{n11:Int}(h0:(z3h [.k 0,.l TI l0,.n (↑(List.length l0):Int),.n (0:Int),.n n1,.n n2,.n n3,.l TB l4,.n n5])=(some (1,[.n n6,.n n7,.n n8,.n n9,.l TB l10,.n n11]))):b4c [.l TI l0,.n n1,.n n2,.n n3,.l TB l4,.n n5]=some ((0,[.n n6,.n n7,.n n8,.n n9,.l TB l10,.n n11])):=h3h g4z (sA h0<|sP [0,1,1]<|sL)
def d4e:LSh:={K:=3,log:=[],ins:=[(sh 19 [(0,.imm TI 0),(1,fnC 113 [.ptr 0 0]),(7,.int .i64 1),(8,.int .i64 2)],[pcB 1,cyB 2 3,mB 12])],nils:=[],outs:=[(.exit 0,sh 19 [],[pcB 1,cyB 2 0,mB 9]),(.ret,sh 19 [(4,.int .i64 0)],[pcB 1,cyB 2 1,mB 10])],cv:=[]}
def f4k:List Dat→Tree Step:=evL a4e 115 2 ls0 d4e
theorem c4z: ∃op,IsL f4k 115 2 d4e op:=bxL x3r (LsOk.none _ _ _)
def j4i:OpA:=opL c4z
theorem k4r (env:List Dat):j4i env=a0b f4k FU env:=h3j c4z env
abbrev g4c:MBox:=boxL c4z
theorem k4q {l0:List (Ty.den TI)}{n1 n2 n3 n4 n5:Int}{l6:List (Ty.den TCmd)}{n7 n8 n9:Int}{l10:List (Ty.den TB)}{n11:Int}{l12:List (Ty.den TI)}{l13:List (Ty.den TQr)}{b14:Bool}(g0:0≤n2)(g1:n1=(l0.length:Int))(h0:(n2<n1))(h1:(w3v [.n n3,.n (List.getD l0 (Int.toNat n2) (0:Int))])=(some (0,[.b b14])))(h2:((!b14)=false)):(f4k [.k 0,.l TI l0,.n n1,.n n2,.n n3,.n n4,.n n5,.l TCmd l6,.n n7,.n n8,.n n9,.l TB l10,.n n11,.l TI l12,.l TQr l13]).sel=some (Step.stop 1 [.n n2,.n n3,.n n4,.n n5,.l TCmd l6,.n n7,.n n8,.n n9,.l TB l10,.n n11,.l TI l12,.l TQr l13]):=sP [1]<|sT (dt h0)<|sTo (c:=(inR n2 (List.length l0)))<|sP [1,1]<|sA h1<|sP [1,1,1,1]<|sT (nf h2)<|sP [1]<|sL
theorem l4p {l0:List (Ty.den TI)}{n1 n2 n3 n4 n5:Int}{l6:List (Ty.den TCmd)}{n7 n8 n9:Int}{l10:List (Ty.den TB)}{n11:Int}{l12:List (Ty.den TI)}{l13:List (Ty.den TQr)}{b14:Bool}(g0:0≤n2)(g1:n1=(l0.length:Int))(h0:(n2<n1))(h1:(w3v [.n n3,.n (List.getD l0 (Int.toNat n2) (0:Int))])=(some (0,[.b b14])))(h2:((!b14)=true)):(f4k [.k 0,.l TI l0,.n n1,.n n2,.n n3,.n n4,.n n5,.l TCmd l6,.n n7,.n n8,.n n9,.l TB l10,.n n11,.l TI l12,.l TQr l13]).sel=some (Step.go [.k 0,.l TI l0,.n n1,.n (IntKind.wrap .i64 (n2+(1:Int))),.n n3,.n n4,.n n5,.l TCmd l6,.n n7,.n n8,.n n9,.l TB l10,.n n11,.l TI l12,.l TQr l13]):=sP [1]<|sT (dt h0)<|sTo (c:=(inR n2 (List.length l0)))<|sP [1,1]<|sA h1<|sP [1,1,1,1]<|sF (nt h2)<|sP [1]<|sL
theorem l4e {l0:List (Ty.den TI)}{n1 n2 n3 n4 n5:Int}{l6:List (Ty.den TCmd)}{n7 n8 n9:Int}{l10:List (Ty.den TB)}{n11:Int}{l12:List (Ty.den TI)}{l13:List (Ty.den TQr)}(g0:0≤n2)(g1:n1=(l0.length:Int))(h0:(¬n2<n1)):(f4k [.k 0,.l TI l0,.n n1,.n n2,.n n3,.n n4,.n n5,.l TCmd l6,.n n7,.n n8,.n n9,.l TB l10,.n n11,.l TI l12,.l TQr l13]).sel=some (Step.stop 0 [.n n3,.n n4,.n n5,.l TCmd l6,.n n7,.n n8,.n n9,.l TB l10,.n n11,.l TI l12,.l TQr l13]):=sP [1]<|sF (df h0)<|sP [1]<|sL
def g4m:BSh:={args:=[.imm TI 0,fnC 113 [.ptr 0 0]],blks:=[pcB 1,cyB 2 1,mB 10],log:=[],outs:=[(.int .i64 0,[pcB 1,cyB 2 1,mB 10])]}
def ev_i113:List Dat→Tree (Nat×List Dat):=evF a4e 115 (lsM [(2,g4c)] 3) g4m
theorem n4s: ∃op,IsF ev_i113 115 g4m op:=bxF x3r (lsE (lsC (h3i c4z) (atF) lsZ))
def j4x:OpA:=opF n4s
theorem n4x {l0:List (Ty.den TI)}{n1 n2 n3:Int}{l4:List (Ty.den TCmd)}{n5 n6 n7:Int}{l8:List (Ty.den TB)}{n9:Int}{l10:List (Ty.den TI)}{l11:List (Ty.den TQr)}{n12 n13 n14:Int}{l15:List (Ty.den TCmd)}{n16 n17 n18:Int}{l19:List (Ty.den TB)}{n20:Int}{l21:List (Ty.den TI)}{l22:List (Ty.den TQr)}(h0:(j4i [.k 0,.l TI l0,.n (↑(List.length l0):Int),.n (0:Int),.n n1,.n n2,.n n3,.l TCmd l4,.n n5,.n n6,.n n7,.l TB l8,.n n9,.l TI l10,.l TQr l11])=(some (0,[.n n12,.n n13,.n n14,.l TCmd l15,.n n16,.n n17,.n n18,.l TB l19,.n n20,.l TI l21,.l TQr l22]))):j4x [.l TI l0,.n n1,.n n2,.n n3,.l TCmd l4,.n n5,.n n6,.n n7,.l TB l8,.n n9,.l TI l10,.l TQr l11]=some ((0,[.n (-1:Int),.n n12,.n n13,.n n14,.l TCmd l15,.n n16,.n n17,.n n18,.l TB l19,.n n20,.l TI l21,.l TQr l22])):=h3h n4s (sA h0<|sP [1,1]<|sL)
theorem n4y {l0:List (Ty.den TI)}{n1 n2 n3:Int}{l4:List (Ty.den TCmd)}{n5 n6 n7:Int}{l8:List (Ty.den TB)}{n9:Int}{l10:List (Ty.den TI)}{l11:List (Ty.den TQr)}{n12 n13 n14 n15:Int}{l16:List (Ty.den TCmd)}{n17 n18 n19:Int}{l20:List (Ty.den TB)}{n21:Int}{l22:List (Ty.den TI)}{l23:List (Ty.den TQr)}(h0:(j4i [.k 0,.l TI l0,.n (↑(List.length l0):Int),.n (0:Int),.n n1,.n n2,.n n3,.l TCmd l4,.n n5,.n n6,.n n7,.l TB l8,.n n9,.l TI l10,.l TQr l11])=(some (1,[.n n12,.n n13,.n n14,.n n15,.l TCmd l16,.n n17,.n n18,.n n19,.l TB l20,.n n21,.l TI l22,.l TQr l23]))):j4x [.l TI l0,.n n1,.n n2,.n n3,.l TCmd l4,.n n5,.n n6,.n n7,.l TB l8,.n n9,.l TI l10,.l TQr l11]=some ((0,[.n n12,.n n13,.n n14,.n n15,.l TCmd l16,.n n17,.n n18,.n n19,.l TB l20,.n n21,.l TI l22,.l TQr l23])):=h3h n4s (sA h0<|sP [0,1,1]<|sL)
def y3o:FuncId→Option a0q:=e1c 115 [S_i77.k b4c,g4m.k j4x] a4e
theorem y3i:CsOk Try.prog y3o:=h0a x3r fun B hB=>by
 simp only[List.mem_cons,List.not_mem_nil,or_false]at hB
 rcases hB with rfl|rfl
 ·exact r3c g4z
 ·exact r3c n4s
def g4j:LSh:={K:=1,log:=[],ins:=[(sh 19 [(0,.imm TNd 0),(1,fnC 78 [.ptr 0 0]),(7,.int .i64 1),(8,.int .i64 2)],[stB 3])],nils:=[],outs:=[(.exit 0,sh 19 [],[stB 0]),(.ret,sh 19 [(4,.int .i64 0)],[stB 1])],cv:=[]}
def y3u:List Dat→Tree Step:=evL y3o 114 2 ls0 g4j
theorem a4l: ∃op,IsL y3u 114 2 g4j op:=bxL y3i (LsOk.none _ _ _)
def z3f:OpA:=opL a4l
theorem b4v (env:List Dat):z3f env=a0b y3u FU env:=h3j a4l env
abbrev h4e:MBox:=boxL a4l
theorem b4o {l0:List (Ty.den TNd)}{n1 n2 n3 n4 n5:Int}{l6:List (Ty.den TB)}{n7:Int}{b8:Bool}(g0:0≤n2)(g1:n1=(l0.length:Int))(h0:(n2<n1))(h1:(w3v [.n (IntKind.wrap .u64 n7),.n (Prod.fst (List.getD l0 (Int.toNat n2) (Ty.dflt TNd)))])=(some (0,[.b b8])))(h2:((b8==Prod.snd (List.getD l0 (Int.toNat n2) (Ty.dflt TNd)))=false)):(y3u [.k 0,.l TNd l0,.n n1,.n n2,.n n3,.n n4,.n n5,.l TB l6,.n n7]).sel=some (Step.stop 1 [.n n2,.n n3,.n n4,.n n5,.l TB l6,.n n7]):=sP [1]<|sT (dt h0)<|sTo (c:=(inR n2 (List.length l0)))<|sP [1,1]<|sA h1<|sP [1,1,1,1,1]<|sT (nf h2)<|sP [1]<|sL
theorem c4h {l0:List (Ty.den TNd)}{n1 n2 n3 n4 n5:Int}{l6:List (Ty.den TB)}{n7:Int}{b8:Bool}(g0:0≤n2)(g1:n1=(l0.length:Int))(h0:(n2<n1))(h1:(w3v [.n (IntKind.wrap .u64 n7),.n (Prod.fst (List.getD l0 (Int.toNat n2) (Ty.dflt TNd)))])=(some (0,[.b b8])))(h2:((b8==Prod.snd (List.getD l0 (Int.toNat n2) (Ty.dflt TNd)))=true)):(y3u [.k 0,.l TNd l0,.n n1,.n n2,.n n3,.n n4,.n n5,.l TB l6,.n n7]).sel=some (Step.go [.k 0,.l TNd l0,.n n1,.n (IntKind.wrap .i64 (n2+(1:Int))),.n n3,.n n4,.n n5,.l TB l6,.n n7]):=sP [1]<|sT (dt h0)<|sTo (c:=(inR n2 (List.length l0)))<|sP [1,1]<|sA h1<|sP [1,1,1,1,1]<|sF (nt h2)<|sP [1]<|sL
theorem b4q {l0:List (Ty.den TNd)}{n1 n2 n3 n4 n5:Int}{l6:List (Ty.den TB)}{n7:Int}(g0:0≤n2)(g1:n1=(l0.length:Int))(h0:(¬n2<n1)):(y3u [.k 0,.l TNd l0,.n n1,.n n2,.n n3,.n n4,.n n5,.l TB l6,.n n7]).sel=some (Step.stop 0 [.n n3,.n n4,.n n5,.l TB l6,.n n7]):=sP [1]<|sF (df h0)<|sP [1]<|sL
def S_i78:BSh:={args:=[.imm TNd 0,fnC 78 [.ptr 0 0]],blks:=[stB 1],log:=[],outs:=[(.int .i64 0,[stB 1])]}
def ev_i78:List Dat→Tree (Nat×List Dat):=evF y3o 114 (lsM [(2,h4e)] 1) S_i78
theorem i4u: ∃op,IsF ev_i78 114 S_i78 op:=bxF y3i (lsE (lsC (h3i a4l) (atF) lsZ))
def b4b:OpA:=opF i4u
theorem e4o {l0:List (Ty.den TNd)}{n1 n2 n3:Int}{l4:List (Ty.den TB)}{n5 n6 n7 n8:Int}{l9:List (Ty.den TB)}{n10:Int}(h0:(z3f [.k 0,.l TNd l0,.n (↑(List.length l0):Int),.n (0:Int),.n n1,.n n2,.n n3,.l TB l4,.n n5])=(some (0,[.n n6,.n n7,.n n8,.l TB l9,.n n10]))):b4b [.l TNd l0,.n n1,.n n2,.n n3,.l TB l4,.n n5]=some ((0,[.n (-1:Int),.n n6,.n n7,.n n8,.l TB l9,.n n10])):=h3h i4u (sA h0<|sP [1,1]<|sL)
theorem g4x {l0:List (Ty.den TNd)}{n1 n2 n3:Int}{l4:List (Ty.den TB)}{n5 n6 n7 n8 n9:Int}{l10:List (Ty.den TB)}{n11:Int}(h0:(z3f [.k 0,.l TNd l0,.n (↑(List.length l0):Int),.n (0:Int),.n n1,.n n2,.n n3,.l TB l4,.n n5])=(some (1,[.n n6,.n n7,.n n8,.n n9,.l TB l10,.n n11]))):b4b [.l TNd l0,.n n1,.n n2,.n n3,.l TB l4,.n n5]=some ((0,[.n n6,.n n7,.n n8,.n n9,.l TB l10,.n n11])):=h3h i4u (sA h0<|sP [0,1,1]<|sL)
def c4v:LSh:={K:=3,log:=[],ins:=[(sh 19 [(0,.imm TNd 0),(1,fnC 111 [.ptr 0 0]),(7,.int .i64 1),(8,.int .i64 2)],[pcB 1,cyB 2 3,mB 12])],nils:=[],outs:=[(.exit 0,sh 19 [],[pcB 1,cyB 2 0,mB 9]),(.ret,sh 19 [(4,.int .i64 0)],[pcB 1,cyB 2 1,mB 10])],cv:=[]}
def e4w:List Dat→Tree Step:=evL y3o 114 2 ls0 c4v
theorem d4k: ∃op,IsL e4w 114 2 c4v op:=bxL y3i (LsOk.none _ _ _)
def j4j:OpA:=opL d4k
theorem l4g (env:List Dat):j4j env=a0b e4w FU env:=h3j d4k env
abbrev d4w:MBox:=boxL d4k
theorem k4o {l0:List (Ty.den TNd)}{n1 n2 n3 n4 n5:Int}{l6:List (Ty.den TCmd)}{n7 n8 n9:Int}{l10:List (Ty.den TB)}{n11:Int}{l12:List (Ty.den TI)}{l13:List (Ty.den TQr)}{b14 b15:Bool}(g0:0≤n2)(g1:n1=(l0.length:Int))(h0:(n2<n1))(h1:(w3v [.n (IntKind.wrap .u64 n11),.n (Prod.fst (List.getD l0 (Int.toNat n2) (Ty.dflt TNd)))])=(some (0,[.b b14])))(h2:((b14==Prod.snd (List.getD l0 (Int.toNat n2) (Ty.dflt TNd)))=false))(h3:(inR (Prod.fst (List.getD l0 (Int.toNat n2) (Ty.dflt TNd))) (List.length l12)=true))(h4:(w3v [.n n3,.n (List.getD l12 (Int.toNat (Prod.fst (List.getD l0 (Int.toNat n2) (Ty.dflt TNd)))) (0:Int))])=(some (0,[.b b15])))(h5:((!b15)=false)):(e4w [.k 0,.l TNd l0,.n n1,.n n2,.n n3,.n n4,.n n5,.l TCmd l6,.n n7,.n n8,.n n9,.l TB l10,.n n11,.l TI l12,.l TQr l13]).sel=some (Step.stop 1 [.n n2,.n n3,.n n4,.n n5,.l TCmd l6,.n n7,.n n8,.n n9,.l TB l10,.n n11,.l TI l12,.l TQr l13]):=sP [1]<|sT (dt h0)<|sTo (c:=(inR n2 (List.length l0)))<|sP [1,1]<|sA h1<|sP [1,1,1,1]<|sT (nf h2)<|sT h3<|sP [1]<|sA h4<|sP [1,1,1,1,1]<|sT (nf h5)<|sP [1]<|sL
theorem k4z {l0:List (Ty.den TNd)}{n1 n2 n3 n4 n5:Int}{l6:List (Ty.den TCmd)}{n7 n8 n9:Int}{l10:List (Ty.den TB)}{n11:Int}{l12:List (Ty.den TI)}{l13:List (Ty.den TQr)}{b14 b15:Bool}(g0:0≤n2)(g1:n1=(l0.length:Int))(h0:(n2<n1))(h1:(w3v [.n (IntKind.wrap .u64 n11),.n (Prod.fst (List.getD l0 (Int.toNat n2) (Ty.dflt TNd)))])=(some (0,[.b b14])))(h2:((b14==Prod.snd (List.getD l0 (Int.toNat n2) (Ty.dflt TNd)))=false))(h3:(inR (Prod.fst (List.getD l0 (Int.toNat n2) (Ty.dflt TNd))) (List.length l12)=true))(h4:(w3v [.n n3,.n (List.getD l12 (Int.toNat (Prod.fst (List.getD l0 (Int.toNat n2) (Ty.dflt TNd)))) (0:Int))])=(some (0,[.b b15])))(h5:((!b15)=true)):(e4w [.k 0,.l TNd l0,.n n1,.n n2,.n n3,.n n4,.n n5,.l TCmd l6,.n n7,.n n8,.n n9,.l TB l10,.n n11,.l TI l12,.l TQr l13]).sel=some (Step.go [.k 0,.l TNd l0,.n n1,.n (IntKind.wrap .i64 (n2+(1:Int))),.n n3,.n n4,.n n5,.l TCmd l6,.n n7,.n n8,.n n9,.l TB l10,.n n11,.l TI l12,.l TQr l13]):=sP [1]<|sT (dt h0)<|sTo (c:=(inR n2 (List.length l0)))<|sP [1,1]<|sA h1<|sP [1,1,1,1]<|sT (nf h2)<|sT h3<|sP [1]<|sA h4<|sP [1,1,1,1,1]<|sF (nt h5)<|sP [1]<|sL
theorem l4n {l0:List (Ty.den TNd)}{n1 n2 n3 n4 n5:Int}{l6:List (Ty.den TCmd)}{n7 n8 n9:Int}{l10:List (Ty.den TB)}{n11:Int}{l12:List (Ty.den TI)}{l13:List (Ty.den TQr)}{b14:Bool}(g0:0≤n2)(g1:n1=(l0.length:Int))(h0:(n2<n1))(h1:(w3v [.n (IntKind.wrap .u64 n11),.n (Prod.fst (List.getD l0 (Int.toNat n2) (Ty.dflt TNd)))])=(some (0,[.b b14])))(h2:((b14==Prod.snd (List.getD l0 (Int.toNat n2) (Ty.dflt TNd)))=true)):(e4w [.k 0,.l TNd l0,.n n1,.n n2,.n n3,.n n4,.n n5,.l TCmd l6,.n n7,.n n8,.n n9,.l TB l10,.n n11,.l TI l12,.l TQr l13]).sel=some (Step.go [.k 0,.l TNd l0,.n n1,.n (IntKind.wrap .i64 (n2+(1:Int))),.n n3,.n n4,.n n5,.l TCmd l6,.n n7,.n n8,.n n9,.l TB l10,.n n11,.l TI l12,.l TQr l13]):=sP [1]<|sT (dt h0)<|sTo (c:=(inR n2 (List.length l0)))<|sP [1,1]<|sA h1<|sP [1,1,1,1]<|sF (nt h2)<|sP [0,1,1,0,1]<|sL
theorem k4p {l0:List (Ty.den TNd)}{n1 n2 n3 n4 n5:Int}{l6:List (Ty.den TCmd)}{n7 n8 n9:Int}{l10:List (Ty.den TB)}{n11:Int}{l12:List (Ty.den TI)}{l13:List (Ty.den TQr)}(g0:0≤n2)(g1:n1=(l0.length:Int))(h0:(¬n2<n1)):(e4w [.k 0,.l TNd l0,.n n1,.n n2,.n n3,.n n4,.n n5,.l TCmd l6,.n n7,.n n8,.n n9,.l TB l10,.n n11,.l TI l12,.l TQr l13]).sel=some (Step.stop 0 [.n n3,.n n4,.n n5,.l TCmd l6,.n n7,.n n8,.n n9,.l TB l10,.n n11,.l TI l12,.l TQr l13]):=sP [1]<|sF (df h0)<|sP [1]<|sL
def e4y:BSh:={args:=[.imm TNd 0,fnC 111 [.ptr 0 0]],blks:=[pcB 1,cyB 2 1,mB 10],log:=[],outs:=[(.int .i64 0,[pcB 1,cyB 2 1,mB 10])]}
def ev_i111:List Dat→Tree (Nat×List Dat):=evF y3o 114 (lsM [(2,d4w)] 3) e4y
theorem n4k: ∃op,IsF ev_i111 114 e4y op:=bxF y3i (lsE (lsC (h3i d4k) (atF) lsZ))
def j4f:OpA:=opF n4k
theorem n4w {l0:List (Ty.den TNd)}{n1 n2 n3:Int}{l4:List (Ty.den TCmd)}{n5 n6 n7:Int}{l8:List (Ty.den TB)}{n9:Int}{l10:List (Ty.den TI)}{l11:List (Ty.den TQr)}{n12 n13 n14:Int}{l15:List (Ty.den TCmd)}{n16 n17 n18:Int}{l19:List (Ty.den TB)}{n20:Int}{l21:List (Ty.den TI)}{l22:List (Ty.den TQr)}(h0:(j4j [.k 0,.l TNd l0,.n (↑(List.length l0):Int),.n (0:Int),.n n1,.n n2,.n n3,.l TCmd l4,.n n5,.n n6,.n n7,.l TB l8,.n n9,.l TI l10,.l TQr l11])=(some (0,[.n n12,.n n13,.n n14,.l TCmd l15,.n n16,.n n17,.n n18,.l TB l19,.n n20,.l TI l21,.l TQr l22]))):j4f [.l TNd l0,.n n1,.n n2,.n n3,.l TCmd l4,.n n5,.n n6,.n n7,.l TB l8,.n n9,.l TI l10,.l TQr l11]=some ((0,[.n (-1:Int),.n n12,.n n13,.n n14,.l TCmd l15,.n n16,.n n17,.n n18,.l TB l19,.n n20,.l TI l21,.l TQr l22])):=h3h n4k (sA h0<|sP [1,1]<|sL)
theorem n4v {l0:List (Ty.den TNd)}{n1 n2 n3:Int}{l4:List (Ty.den TCmd)}{n5 n6 n7:Int}{l8:List (Ty.den TB)}{n9:Int}{l10:List (Ty.den TI)}{l11:List (Ty.den TQr)}{n12 n13 n14 n15:Int}{l16:List (Ty.den TCmd)}{n17 n18 n19:Int}{l20:List (Ty.den TB)}{n21:Int}{l22:List (Ty.den TI)}{l23:List (Ty.den TQr)}(h0:(j4j [.k 0,.l TNd l0,.n (↑(List.length l0):Int),.n (0:Int),.n n1,.n n2,.n n3,.l TCmd l4,.n n5,.n n6,.n n7,.l TB l8,.n n9,.l TI l10,.l TQr l11])=(some (1,[.n n12,.n n13,.n n14,.n n15,.l TCmd l16,.n n17,.n n18,.n n19,.l TB l20,.n n21,.l TI l22,.l TQr l23]))):j4f [.l TNd l0,.n n1,.n n2,.n n3,.l TCmd l4,.n n5,.n n6,.n n7,.l TB l8,.n n9,.l TI l10,.l TQr l11]=some ((0,[.n n12,.n n13,.n n14,.n n15,.l TCmd l16,.n n17,.n n18,.n n19,.l TB l20,.n n21,.l TI l22,.l TQr l23])):=h3h n4k (sA h0<|sP [0,1,1]<|sL)
def d4d:LSh:={K:=1,log:=[],ins:=[(sh 19 [(0,.imm TNd 0),(1,fnC 112 [.ptr 0 0]),(7,.int .i64 1),(8,.int .i64 2)],[icB 3])],nils:=[],outs:=[(.exit 0,sh 19 [],[icB 0]),(.ret,sh 19 [(4,.int .i64 0)],[icB 1])],cv:=[]}
def e4b:List Dat→Tree Step:=evL y3o 114 2 ls0 d4d
theorem c4w: ∃op,IsL e4b 114 2 d4d op:=bxL y3i (LsOk.none _ _ _)
def j4k:OpA:=opL c4w
theorem l4a (env:List Dat):j4k env=a0b e4b FU env:=h3j c4w env
abbrev e4k:MBox:=boxL c4w
theorem l4j {l0:List (Ty.den TNd)}{n1 n2 n3:Int}(g0:0≤n2)(g1:n1=(l0.length:Int))(h0:(n2<n1))(h1:((Prod.fst (List.getD l0 (Int.toNat n2) (Ty.dflt TNd)):Int)=n3)):(e4b [.k 0,.l TNd l0,.n n1,.n n2,.n n3]).sel=some (Step.stop 1 [.n n2,.n n3]):=sP [1]<|sT (dt h0)<|sTo (c:=(inR n2 (List.length l0)))<|sP [1,1]<|sT (bt h1)<|sP [1]<|sL
theorem k4u {l0:List (Ty.den TNd)}{n1 n2 n3:Int}(g0:0≤n2)(g1:n1=(l0.length:Int))(h0:(n2<n1))(h1:(¬(Prod.fst (List.getD l0 (Int.toNat n2) (Ty.dflt TNd)):Int)=n3)):(e4b [.k 0,.l TNd l0,.n n1,.n n2,.n n3]).sel=some (Step.go [.k 0,.l TNd l0,.n n1,.n (IntKind.wrap .i64 (n2+(1:Int))),.n n3]):=sP [1]<|sT (dt h0)<|sTo (c:=(inR n2 (List.length l0)))<|sP [1,1]<|sF (bf h1)<|sP [1]<|sL
theorem l4o {l0:List (Ty.den TNd)}{n1 n2 n3:Int}(g0:0≤n2)(g1:n1=(l0.length:Int))(h0:(¬n2<n1)):(e4b [.k 0,.l TNd l0,.n n1,.n n2,.n n3]).sel=some (Step.stop 0 [.n n3]):=sP [1]<|sF (df h0)<|sP [1]<|sL
def f4f:BSh:={args:=[.imm TNd 0,fnC 112 [.ptr 0 0]],blks:=[icB 1],log:=[],outs:=[(.int .i64 0,[icB 1])]}
def ev_i112:List Dat→Tree (Nat×List Dat):=evF y3o 114 (lsM [(2,e4k)] 1) f4f
theorem n4m: ∃op,IsF ev_i112 114 f4f op:=bxF y3i (lsE (lsC (h3i c4w) (atF) lsZ))
def j4l:OpA:=opF n4m
theorem n4u {l0:List (Ty.den TNd)}{n1 n2:Int}(h0:(j4k [.k 0,.l TNd l0,.n (↑(List.length l0):Int),.n (0:Int),.n n1])=(some (0,[.n n2]))):j4l [.l TNd l0,.n n1]=some ((0,[.n (-1:Int),.n n2])):=h3h n4m (sA h0<|sP [1,1]<|sL)
theorem n4z {l0:List (Ty.den TNd)}{n1 n2 n3:Int}(h0:(j4k [.k 0,.l TNd l0,.n (↑(List.length l0):Int),.n (0:Int),.n n1])=(some (1,[.n n2,.n n3]))):j4l [.l TNd l0,.n n1]=some ((0,[.n n2,.n n3])):=h3h n4m (sA h0<|sP [0,1,1]<|sL)
def g4n:LSh:={K:=2,log:=[],ins:=[(sh 19 [(0,.imm TNd 0),(1,fnC 73 [.ptr 0 0,.ptr 1 0]),(7,.int .i64 1),(8,.int .i64 2)],[wcB 3,wcB 4])],nils:=[],outs:=[(.exit 0,sh 19 [],[wcB 0,wcB 1]),(.ret,sh 19 [(4,.int .i64 0)],[wcB 1,wcB 2])],cv:=[]}
def h4u:List Dat→Tree Step:=evL y3o 114 2 ls0 g4n
theorem f4i: ∃op,IsL h4u 114 2 g4n op:=bxL y3i (LsOk.none _ _ _)
def j4s:OpA:=opL f4i
theorem l4x (env:List Dat):j4s env=a0b h4u FU env:=h3j f4i env
abbrev h4j:MBox:=boxL f4i
theorem m4f {l0:List (Ty.den TNd)}{n1 n2 n3 n4:Int}{b5:Bool}(g0:0≤n2)(g1:n1=(l0.length:Int))(h0:(n2<n1))(h1:(Prod.snd (List.getD l0 (Int.toNat n2) (Ty.dflt TNd))=true))(h2:(w3v [.n (IntKind.wrap .u64 n3),.n (Prod.fst (List.getD l0 (Int.toNat n2) (Ty.dflt TNd)))])=(some (0,[.b b5])))(h3:(b5=false)):(h4u [.k 0,.l TNd l0,.n n1,.n n2,.n n3,.n n4]).sel=some (Step.stop 1 [.n n2,.n n3,.n n4]):=sP [1]<|sT (dt h0)<|sTo (c:=(inR n2 (List.length l0)))<|sP [1]<|sT h1<|sA h2<|sP [1,1,1]<|sT (nf h3)<|sP [1]<|sL
theorem m4x {l0:List (Ty.den TNd)}{n1 n2 n3 n4:Int}{b5:Bool}(g0:0≤n2)(g1:n1=(l0.length:Int))(h0:(n2<n1))(h1:(Prod.snd (List.getD l0 (Int.toNat n2) (Ty.dflt TNd))=true))(h2:(w3v [.n (IntKind.wrap .u64 n3),.n (Prod.fst (List.getD l0 (Int.toNat n2) (Ty.dflt TNd)))])=(some (0,[.b b5])))(h3:(b5=true)):(h4u [.k 0,.l TNd l0,.n n1,.n n2,.n n3,.n n4]).sel=some (Step.go [.k 0,.l TNd l0,.n n1,.n (IntKind.wrap .i64 (n2+(1:Int))),.n n3,.n n4]):=sP [1]<|sT (dt h0)<|sTo (c:=(inR n2 (List.length l0)))<|sP [1]<|sT h1<|sA h2<|sP [1,1,1]<|sF (nt h3)<|sP [1]<|sL
theorem m4g {l0:List (Ty.den TNd)}{n1 n2 n3 n4:Int}{b5:Bool}(g0:0≤n2)(g1:n1=(l0.length:Int))(h0:(n2<n1))(h1:(Prod.snd (List.getD l0 (Int.toNat n2) (Ty.dflt TNd))=false))(h2:(w3v [.n (IntKind.wrap .u64 n4),.n (Prod.fst (List.getD l0 (Int.toNat n2) (Ty.dflt TNd)))])=(some (0,[.b b5])))(h3:(b5=false)):(h4u [.k 0,.l TNd l0,.n n1,.n n2,.n n3,.n n4]).sel=some (Step.stop 1 [.n n2,.n n3,.n n4]):=sP [1]<|sT (dt h0)<|sTo (c:=(inR n2 (List.length l0)))<|sP [1]<|sF h1<|sA h2<|sP [1,1,1]<|sT (nf h3)<|sP [1]<|sL
theorem n4g {l0:List (Ty.den TNd)}{n1 n2 n3 n4:Int}{b5:Bool}(g0:0≤n2)(g1:n1=(l0.length:Int))(h0:(n2<n1))(h1:(Prod.snd (List.getD l0 (Int.toNat n2) (Ty.dflt TNd))=false))(h2:(w3v [.n (IntKind.wrap .u64 n4),.n (Prod.fst (List.getD l0 (Int.toNat n2) (Ty.dflt TNd)))])=(some (0,[.b b5])))(h3:(b5=true)):(h4u [.k 0,.l TNd l0,.n n1,.n n2,.n n3,.n n4]).sel=some (Step.go [.k 0,.l TNd l0,.n n1,.n (IntKind.wrap .i64 (n2+(1:Int))),.n n3,.n n4]):=sP [1]<|sT (dt h0)<|sTo (c:=(inR n2 (List.length l0)))<|sP [1]<|sF h1<|sA h2<|sP [1,1,1]<|sF (nt h3)<|sP [1]<|sL
theorem m4n {l0:List (Ty.den TNd)}{n1 n2 n3 n4:Int}(g0:0≤n2)(g1:n1=(l0.length:Int))(h0:(¬n2<n1)):(h4u [.k 0,.l TNd l0,.n n1,.n n2,.n n3,.n n4]).sel=some (Step.stop 0 [.n n3,.n n4]):=sP [1]<|sF (df h0)<|sP [1]<|sL
def S_i73:BSh:={args:=[.imm TNd 0,fnC 73 [.ptr 0 0,.ptr 1 0]],blks:=[wcB 1,wcB 2],log:=[],outs:=[(.int .i64 0,[wcB 1,wcB 2])]}
def ev_i73:List Dat→Tree (Nat×List Dat):=evF y3o 114 (lsM [(2,h4j)] 2) S_i73
theorem q4l: ∃op,IsF ev_i73 114 S_i73 op:=bxF y3i (lsE (lsC (h3i f4i) (atF) lsZ))
def l4l:OpA:=opF q4l
theorem o4v {l0:List (Ty.den TNd)}{n1 n2 n3 n4:Int}(h0:(j4s [.k 0,.l TNd l0,.n (↑(List.length l0):Int),.n (0:Int),.n n1,.n n2])=(some (0,[.n n3,.n n4]))):l4l [.l TNd l0,.n n1,.n n2]=some ((0,[.n (-1:Int),.n n3,.n n4])):=h3h q4l (sA h0<|sP [1,1]<|sL)
theorem o4x {l0:List (Ty.den TNd)}{n1 n2 n3 n4 n5:Int}(h0:(j4s [.k 0,.l TNd l0,.n (↑(List.length l0):Int),.n (0:Int),.n n1,.n n2])=(some (1,[.n n3,.n n4,.n n5]))):l4l [.l TNd l0,.n n1,.n n2]=some ((0,[.n n3,.n n4,.n n5])):=h3h q4l (sA h0<|sP [0,1,1]<|sL)
def e4e:FuncId→Option a0q:=e1c 114 [S_i78.k b4b,e4y.k j4f,f4f.k j4l,S_i73.k l4l] y3o
theorem a4x:CsOk Try.prog e4e:=h0a y3i fun B hB=>by
 simp only[List.mem_cons,List.not_mem_nil,or_false]at hB
 rcases hB with rfl|rfl|rfl|rfl
 ·exact r3c i4u
 ·exact r3c n4k
 ·exact r3c n4m
 ·exact r3c q4l
def S_i39:BSh:={args:=[stV 0,.imm TI 5],blks:=[],log:=[],outs:=[(.bool 0,[])]}
def ev_i39:List Dat→Tree (Nat×List Dat):=evF e4e 39 ls0 S_i39
theorem e_i39: ∃op,IsF ev_i39 39 S_i39 op:=bxF a4x (LsOk.none _ _ _)
def a4f:OpA:=opF e_i39
theorem f4c {n0 n1 n2:Int}{l3:List (Ty.den TB)}{n4:Int}{l5:List (Ty.den TI)}{n6 n7 n8 n9:Int}{l10:List (Ty.den TB)}{n11:Int}(h0:(b4c [.l TI l5,.n n0,.n n1,.n n2,.l TB l3,.n n4])=(some (0,[.n n6,.n n7,.n n8,.n n9,.l TB l10,.n n11]))):a4f [.n n0,.n n1,.n n2,.l TB l3,.n n4,.l TI l5]=some ((0,[.b (decide (n6≥(0:Int)))])):=h3h e_i39 (sP [1,1]<|sA h0<|sP [1,1,1,1]<|sL)
def f4q:FuncId→Option a0q:=a0s 39 (S_i39.k a4f) e4e
theorem b4m:CsOk Try.prog f4q:=csL1 a4x e_i39
def S_i40:BSh:={args:=[stV 0,qrV 5],blks:=[],log:=[],outs:=[(.bool 0,[])]}
def ev_i40:List Dat→Tree (Nat×List Dat):=evF f4q 40 ls0 S_i40
theorem e_i40: ∃op,IsF ev_i40 40 S_i40 op:=bxF b4m (LsOk.none _ _ _)
def b4l:OpA:=opF e_i40
theorem g4w {n0 n1 n2:Int}{l3:List (Ty.den TB)}{n4 n5 n6:Int}{l7:List (Ty.den TI)}{l8:List (Ty.den TNd)}{l9:List (Ty.den TI)}{n10 n11 n12 n13:Int}{l14:List (Ty.den TB)}{n15:Int}(h0:(b4b [.l TNd l8,.n n0,.n n1,.n n2,.l TB l3,.n n4])=(some (0,[.n n10,.n n11,.n n12,.n n13,.l TB l14,.n n15]))):b4l [.n n0,.n n1,.n n2,.l TB l3,.n n4,.n n5,.n n6,.l TI l7,.l TNd l8,.l TI l9]=some ((0,[.b !decide (n10≥(0:Int))])):=h3h e_i40 (sP [1,1]<|sA h0<|sP [1,1,1,1]<|sL)
def f4u:FuncId→Option a0q:=a0s 40 (S_i40.k b4l) f4q
theorem a4u:CsOk Try.prog f4u:=csL1 b4m e_i40
def S_i74:BSh:={args:=[.ptr 0 0,qrV 0],blks:=[cyB 1 5,mB 14],log:=[],outs:=[(.bool 0,[cyB 1 1,mB 10])]}
def ev_i74:List Dat→Tree (Nat×List Dat):=evF f4u 74 ls0 S_i74
theorem e_i74: ∃op,IsF ev_i74 74 S_i74 op:=bxF a4u (LsOk.none _ _ _)
def j4c:OpA:=opF e_i74
theorem p4y {n0 n1:Int}{l2:List (Ty.den TI)}{l3:List (Ty.den TNd)}{l4:List (Ty.den TI)}{n5 n6 n7:Int}{l8:List (Ty.den TCmd)}{n9 n10 n11:Int}{l12:List (Ty.den TB)}{n13:Int}{l14:List (Ty.den TI)}{l15:List (Ty.den TQr)}{n16 n17 n18 n19:Int}{l20:List (Ty.den TCmd)}{n21 n22 n23:Int}{l24:List (Ty.den TB)}{n25:Int}{l26:List (Ty.den TI)}{l27:List (Ty.den TQr)}(h0:(j4x [.l TI l2,.n n5,.n n6,.n n7,.l TCmd l8,.n n9,.n n10,.n n11,.l TB l12,.n n13,.l TI l14,.l TQr l15])=(some (0,[.n n16,.n n17,.n n18,.n n19,.l TCmd l20,.n n21,.n n22,.n n23,.l TB l24,.n n25,.l TI l26,.l TQr l27]))):j4c [.n n0,.n n1,.l TI l2,.l TNd l3,.l TI l4,.n n5,.n n6,.n n7,.l TCmd l8,.n n9,.n n10,.n n11,.l TB l12,.n n13,.l TI l14,.l TQr l15]=some ((0,[.b !decide (n16≥(0:Int)),.n n5,.n n6,.n n7,.l TCmd l8,.n n9,.n n10,.n n11,.l TB l12,.n n13,.l TI l14,.l TQr l15])):=h3h e_i74 (sP [1,1]<|sA h0<|sP [1,1,1,1]<|sL)
def b4g:FuncId→Option a0q:=e1c 74 [S_i74.k j4c] f4u
theorem z3a:CsOk Try.prog b4g:=csA1 a4u e_i74
def g4y:LSh:={K:=1,log:=[],ins:=[(sh 84 [(0,.ptr 0 0),(3,.ptr 1 0),(4,.ptr 2 0),(5,.ptr 3 0),(15,.int .i64 0),(16,.int .i64 1)],[mB 2,stB 4,stB 9,stB 14])],nils:=[],outs:=[(.exit 0,sh 84 [(0,.ptr 0 0),(3,.ptr 1 0),(4,.ptr 2 0),(5,.ptr 3 0)],[mB 0,stB 2,stB 7,stB 12])],cv:=[]}
def y3l:List Dat→Tree Step:=evL b4g 14 5 ls0 g4y
theorem a4n: ∃op,IsL y3l 14 5 g4y op:=bxL z3a (LsOk.none _ _ _)
def a4p:OpA:=opL a4n
theorem b4n (env:List Dat):a4p env=a0b y3l FU env:=h3j a4n env
abbrev h4f:MBox:=boxL a4n
theorem c4i {n0 n1:Int}{l2:List (Ty.den TI)}{l3:List (Ty.den TQr)}{n4 n5 n6:Int}{l7:List (Ty.den TB)}{n8 n9 n10 n11:Int}{l12:List (Ty.den TB)}{n13 n14 n15 n16:Int}{l17:List (Ty.den TB)}{n18:Int}{b19:Bool}{n20:Int}{b21:Bool}{n22:Int}{b23:Bool}{n24:Int}{b25:Bool}(g0:0≤n1)(h0:(n1<n0))(h1:(w3v [.n n4,.n n1])=(some (0,[.b b19])))(h2:(y3y [.n n14,.n n1,.b b19])=(some (0,[.n n20])))(h3:(w3v [.n (iand IntKind.u64 n4 n5),.n n1])=(some (0,[.b b21])))(h4:(y3y [.n n15,.n n1,.b b21])=(some (0,[.n n22])))(h5:(w3v [.n (iand IntKind.u64 n4 n6),.n n1])=(some (0,[.b b23])))(h6:(y3y [.n n16,.n n1,.b b23])=(some (0,[.n n24])))(h7:(w3v [.n n24,.n n1])=(some (0,[.b b25])))(h8:(b25=true))(h9:(inR n1 64=true)):(y3l [.k 0,.n n0,.n n1,.l TI l2,.l TQr l3,.n n4,.n n5,.n n6,.l TB l7,.n n8,.n n9,.n n10,.n n11,.l TB l12,.n n13,.n n14,.n n15,.n n16,.l TB l17,.n n18]).sel=some (Step.go [.k 0,.n n0,.n (IntKind.wrap .i64 (n1+(1:Int))),.l TI l2,.l TQr l3,.n n4,.n n5,.n n6,.l TB l7,.n n8,.n n9,.n n10,.n n11,.l TB l12,.n n13,.n n20,.n n22,.n n24,.l TB (List.set l17 (Int.toNat n1) (imin (List.getD l7 (Int.toNat n1) (0:Int)) (20:Int))),.n n18]):=sP [1]<|sT (dt h0)<|sA h1<|sP [1,1]<|sA h2<|sP [1,1,1]<|sA h3<|sP [1,1]<|sA h4<|sP [1,1,1]<|sA h5<|sP [1,1]<|sA h6<|sP [1,1,1]<|sA h7<|sP [1,1]<|sT h8<|sT h9<|sT h9<|sP [1]<|sL
theorem c4a {n0 n1:Int}{l2:List (Ty.den TI)}{l3:List (Ty.den TQr)}{n4 n5 n6:Int}{l7:List (Ty.den TB)}{n8 n9 n10 n11:Int}{l12:List (Ty.den TB)}{n13 n14 n15 n16:Int}{l17:List (Ty.den TB)}{n18:Int}{b19:Bool}{n20:Int}{b21:Bool}{n22:Int}{b23:Bool}{n24:Int}{b25:Bool}(g0:0≤n1)(h0:(n1<n0))(h1:(w3v [.n n4,.n n1])=(some (0,[.b b19])))(h2:(y3y [.n n14,.n n1,.b b19])=(some (0,[.n n20])))(h3:(w3v [.n (iand IntKind.u64 n4 n5),.n n1])=(some (0,[.b b21])))(h4:(y3y [.n n15,.n n1,.b b21])=(some (0,[.n n22])))(h5:(w3v [.n (iand IntKind.u64 n4 n6),.n n1])=(some (0,[.b b23])))(h6:(y3y [.n n16,.n n1,.b b23])=(some (0,[.n n24])))(h7:(w3v [.n n24,.n n1])=(some (0,[.b b25])))(h8:(b25=false)):(y3l [.k 0,.n n0,.n n1,.l TI l2,.l TQr l3,.n n4,.n n5,.n n6,.l TB l7,.n n8,.n n9,.n n10,.n n11,.l TB l12,.n n13,.n n14,.n n15,.n n16,.l TB l17,.n n18]).sel=some (Step.go [.k 0,.n n0,.n (IntKind.wrap .i64 (n1+(1:Int))),.l TI l2,.l TQr l3,.n n4,.n n5,.n n6,.l TB l7,.n n8,.n n9,.n n10,.n n11,.l TB l12,.n n13,.n n20,.n n22,.n n24,.l TB l17,.n n18]):=sP [1]<|sT (dt h0)<|sA h1<|sP [1,1]<|sA h2<|sP [1,1,1]<|sA h3<|sP [1,1]<|sA h4<|sP [1,1,1]<|sA h5<|sP [1,1]<|sA h6<|sP [1,1,1]<|sA h7<|sP [1,1]<|sF h8<|sP [1]<|sL
theorem c4k {n0 n1:Int}{l2:List (Ty.den TI)}{l3:List (Ty.den TQr)}{n4 n5 n6:Int}{l7:List (Ty.den TB)}{n8 n9 n10 n11:Int}{l12:List (Ty.den TB)}{n13 n14 n15 n16:Int}{l17:List (Ty.den TB)}{n18:Int}(g0:0≤n1)(h0:(¬n1<n0)):(y3l [.k 0,.n n0,.n n1,.l TI l2,.l TQr l3,.n n4,.n n5,.n n6,.l TB l7,.n n8,.n n9,.n n10,.n n11,.l TB l12,.n n13,.n n14,.n n15,.n n16,.l TB l17,.n n18]).sel=some (Step.stop 0 [.l TI l2,.l TQr l3,.n n4,.n n5,.n n6,.l TB l7,.n n8,.n n9,.n n10,.n n11,.l TB l12,.n n13,.n n14,.n n15,.n n16,.l TB l17,.n n18]):=sP [1]<|sF (df h0)<|sP [1]<|sL
def c4t:LSh:={K:=1,log:=[],ins:=[(sh 84 [(0,.ptr 0 0),(3,.ptr 1 0),(4,.ptr 2 0),(5,.ptr 3 0),(69,.int .i64 0),(70,.int .i64 1)],[mB 2,stB 4,stB 9,stB 14])],nils:=[],outs:=[(.exit 2,sh 84 [(4,.ptr 1 0),(5,.ptr 2 0)],[mB 0,stB 2,stB 7])],cv:=[]}
def y3q:List Dat→Tree Step:=evL b4g 14 14 ls0 c4t
theorem z3g: ∃op,IsL y3q 14 14 c4t op:=bxL z3a (LsOk.none _ _ _)
def z3w:OpA:=opL z3g
theorem b4i (env:List Dat):z3w env=a0b y3q FU env:=h3j z3g env
abbrev g4t:MBox:=boxL z3g
theorem a4r {n0 n1:Int}{l2:List (Ty.den TI)}{l3:List (Ty.den TQr)}{n4 n5 n6:Int}{l7:List (Ty.den TB)}{n8 n9 n10 n11:Int}{l12:List (Ty.den TB)}{n13 n14 n15 n16:Int}{l17:List (Ty.den TB)}{n18:Int}(g0:0≤n1)(h0:(n1<n0)):(y3q [.k 0,.n n0,.n n1,.l TI l2,.l TQr l3,.n n4,.n n5,.n n6,.l TB l7,.n n8,.n n9,.n n10,.n n11,.l TB l12,.n n13,.n n14,.n n15,.n n16,.l TB l17,.n n18]).sel=some (Step.go [.k 0,.n n0,.n (IntKind.wrap .i64 (n1+(1:Int))),.l TI l2,.l TQr l3,.n n4,.n n5,.n n6,.l TB l7,.n n8,.n n9,.n n10,.n n11,.l TB l12,.n n13,.n n14,.n n15,.n n16,.l TB l17,.n (ior IntKind.u32 n18 (iand IntKind.u32 n8 (ishl IntKind.u32 (1:Int) n1)))]):=sP [1]<|sT (dt h0)<|sTs (c:=(!decide (n1<(0:Int))))<|sP [1,1]<|sL
theorem a4t {n0 n1:Int}{l2:List (Ty.den TI)}{l3:List (Ty.den TQr)}{n4 n5 n6:Int}{l7:List (Ty.den TB)}{n8 n9 n10 n11:Int}{l12:List (Ty.den TB)}{n13 n14 n15 n16:Int}{l17:List (Ty.den TB)}{n18:Int}(g0:0≤n1)(h0:(¬n1<n0)):(y3q [.k 0,.n n0,.n n1,.l TI l2,.l TQr l3,.n n4,.n n5,.n n6,.l TB l7,.n n8,.n n9,.n n10,.n n11,.l TB l12,.n n13,.n n14,.n n15,.n n16,.l TB l17,.n n18]).sel=some (Step.stop 0 [.l TI l2,.l TQr l3,.n n9,.n n10,.n n11,.l TB l12,.n n13,.n n14,.n n15,.n n16,.l TB l17,.n n18]):=sP [1]<|sF (df h0)<|sP [1]<|sL
def S_i14:BSh:={args:=[.ptr 0 0,stV 0],blks:=[mB 5],log:=[],outs:=[(stV 0,[mB 5])]}
def ev_i14:List Dat→Tree (Nat×List Dat):=evF b4g 14 (lsM [(5,h4f),(14,g4t)] 1) S_i14
theorem e_i14: ∃op,IsF ev_i14 14 S_i14 op:=bxF z3a (lsE (lsC (h3i a4n) (atF) (lsC (h3i z3g) (atF) lsZ)))
def y3z:OpA:=opF e_i14
theorem e4q {n0 n1 n2:Int}{l3:List (Ty.den TB)}{n4:Int}{l5:List (Ty.den TI)}{l6:List (Ty.den TQr)}{l7:List (Ty.den TI)}{l8:List (Ty.den TQr)}{n9 n10 n11:Int}{l12:List (Ty.den TB)}{n13 n14 n15 n16:Int}{l17:List (Ty.den TB)}{n18 n19 n20 n21:Int}{l22:List (Ty.den TB)}{n23:Int}{l24:List (Ty.den TI)}{l25:List (Ty.den TQr)}{n26 n27 n28:Int}{l29:List (Ty.den TB)}{n30 n31 n32 n33:Int}{l34:List (Ty.den TB)}{n35:Int}(h0:(a4p [.k 0,.n (↑(List.length l6):Int),.n (0:Int),.l TI l5,.l TQr l6,.n n0,.n n1,.n n2,.l TB l3,.n n4,.n (0:Int),.n (0:Int),.n (0:Int),.l TB (List.replicate 64 (0:Int)),.n (0:Int),.n (0:Int),.n (0:Int),.n (0:Int),.l TB (List.replicate 64 (0:Int)),.n (0:Int)])=(some (0,[.l TI l7,.l TQr l8,.n n9,.n n10,.n n11,.l TB l12,.n n13,.n n14,.n n15,.n n16,.l TB l17,.n n18,.n n19,.n n20,.n n21,.l TB l22,.n n23])))(h1:(z3w [.k 0,.n (↑(List.length l7):Int),.n (0:Int),.l TI l7,.l TQr l8,.n n9,.n n10,.n n11,.l TB l12,.n n13,.n n14,.n n15,.n n16,.l TB l17,.n n18,.n n19,.n n20,.n n21,.l TB l22,.n n23])=(some (0,[.l TI l24,.l TQr l25,.n n26,.n n27,.n n28,.l TB l29,.n n30,.n n31,.n n32,.n n33,.l TB l34,.n n35]))):y3z [.n n0,.n n1,.n n2,.l TB l3,.n n4,.l TI l5,.l TQr l6]=some ((0,[.n n31,.n n32,.n n33,.l TB l34,.n n35,.l TI l24,.l TQr l25])):=h3h e_i14 (sP [0]<|sA h0<|sP [1]<|sA h1<|sP [1,1]<|sL)
def d4h:FuncId→Option a0q:=e1c 14 [S_i14.k y3z] b4g
theorem z3m:CsOk Try.prog d4h:=csA1 z3a e_i14
def f4n:LSh:={K:=1,log:=[],ins:=[(sh 43 [(3,.ptr 1 0),(19,.imm TQr 0),(20,.int .i64 1),(21,.int .i64 2)],[mB 3,stB 5])],nils:=[],outs:=[(.exit 0,sh 43 [],[mB 0]),(.ret,sh 43 [(4,.bool 0)],[mB 1])],cv:=[]}
def y3m:List Dat→Tree Step:=evL d4h 15 4 ls0 f4n
theorem a4m: ∃op,IsL y3m 15 4 f4n op:=bxL z3m (LsOk.none _ _ _)
def z3k:OpA:=opL a4m
theorem b4w (env:List Dat):z3k env=a0b y3m FU env:=h3j a4m env
abbrev h4y:MBox:=boxL a4m
theorem c4m {l0:List (Ty.den TQr)}{n1 n2:Int}{l3:List (Ty.den TI)}{l4:List (Ty.den TQr)}{n5 n6 n7:Int}{l8:List (Ty.den TB)}{n9:Int}{b10 b11:Bool}(g0:0≤n2)(g1:n1=(l0.length:Int))(h0:(n2<n1))(h1:(w3v [.n n5,.n n2])=(some (0,[.b b10])))(h2:(b10=true))(h3:(a4f [.n n5,.n n6,.n n7,.l TB l8,.n n9,.l TI (Prod.snd (Prod.snd (Prod.snd (Prod.snd (List.getD l0 (Int.toNat n2) (Ty.dflt TQr))))))])=(some (0,[.b b11])))(h4:(b11=true)):(y3m [.k 0,.l TQr l0,.n n1,.n n2,.l TI l3,.l TQr l4,.n n5,.n n6,.n n7,.l TB l8,.n n9]).sel=some (Step.stop 1 [.b false,.l TI l3,.l TQr l4]):=sP [1]<|sT (dt h0)<|sTo (c:=(inR n2 (List.length l0)))<|sA h1<|sP [1,1]<|sT h2<|sA h3<|sP [1,1]<|sT h4<|sP [1,1,1]<|sL
theorem c4j {l0:List (Ty.den TQr)}{n1 n2:Int}{l3:List (Ty.den TI)}{l4:List (Ty.den TQr)}{n5 n6 n7:Int}{l8:List (Ty.den TB)}{n9:Int}{b10 b11 b12:Bool}(g0:0≤n2)(g1:n1=(l0.length:Int))(h0:(n2<n1))(h1:(w3v [.n n5,.n n2])=(some (0,[.b b10])))(h2:(b10=true))(h3:(a4f [.n n5,.n n6,.n n7,.l TB l8,.n n9,.l TI (Prod.snd (Prod.snd (Prod.snd (Prod.snd (List.getD l0 (Int.toNat n2) (Ty.dflt TQr))))))])=(some (0,[.b b11])))(h4:(b11=false))(h5:(b4l [.n n5,.n n6,.n n7,.l TB l8,.n n9,.n (Prod.fst (List.getD l0 (Int.toNat n2) (Ty.dflt TQr))),.n (Prod.fst (Prod.snd (List.getD l0 (Int.toNat n2) (Ty.dflt TQr)))),.l TI (Prod.fst (Prod.snd (Prod.snd (List.getD l0 (Int.toNat n2) (Ty.dflt TQr))))),.l TNd (Prod.fst (Prod.snd (Prod.snd (Prod.snd (List.getD l0 (Int.toNat n2) (Ty.dflt TQr)))))),.l TI (Prod.snd (Prod.snd (Prod.snd (Prod.snd (List.getD l0 (Int.toNat n2) (Ty.dflt TQr))))))])=(some (0,[.b b12])))(h6:(b12=false)):(y3m [.k 0,.l TQr l0,.n n1,.n n2,.l TI l3,.l TQr l4,.n n5,.n n6,.n n7,.l TB l8,.n n9]).sel=some (Step.stop 1 [.b false,.l TI l3,.l TQr l4]):=sP [1]<|sT (dt h0)<|sTo (c:=(inR n2 (List.length l0)))<|sA h1<|sP [1,1]<|sT h2<|sA h3<|sP [1,1]<|sF h4<|sA h5<|sP [1,1]<|sT (nf h6)<|sP [1]<|sL
theorem c4b {l0:List (Ty.den TQr)}{n1 n2:Int}{l3:List (Ty.den TI)}{l4:List (Ty.den TQr)}{n5 n6 n7:Int}{l8:List (Ty.den TB)}{n9:Int}{b10 b11 b12:Bool}(g0:0≤n2)(g1:n1=(l0.length:Int))(h0:(n2<n1))(h1:(w3v [.n n5,.n n2])=(some (0,[.b b10])))(h2:(b10=true))(h3:(a4f [.n n5,.n n6,.n n7,.l TB l8,.n n9,.l TI (Prod.snd (Prod.snd (Prod.snd (Prod.snd (List.getD l0 (Int.toNat n2) (Ty.dflt TQr))))))])=(some (0,[.b b11])))(h4:(b11=false))(h5:(b4l [.n n5,.n n6,.n n7,.l TB l8,.n n9,.n (Prod.fst (List.getD l0 (Int.toNat n2) (Ty.dflt TQr))),.n (Prod.fst (Prod.snd (List.getD l0 (Int.toNat n2) (Ty.dflt TQr)))),.l TI (Prod.fst (Prod.snd (Prod.snd (List.getD l0 (Int.toNat n2) (Ty.dflt TQr))))),.l TNd (Prod.fst (Prod.snd (Prod.snd (Prod.snd (List.getD l0 (Int.toNat n2) (Ty.dflt TQr)))))),.l TI (Prod.snd (Prod.snd (Prod.snd (Prod.snd (List.getD l0 (Int.toNat n2) (Ty.dflt TQr))))))])=(some (0,[.b b12])))(h6:(b12=true)):(y3m [.k 0,.l TQr l0,.n n1,.n n2,.l TI l3,.l TQr l4,.n n5,.n n6,.n n7,.l TB l8,.n n9]).sel=some (Step.go [.k 0,.l TQr l0,.n n1,.n (IntKind.wrap .i64 (n2+(1:Int))),.l TI l3,.l TQr l4,.n n5,.n n6,.n n7,.l TB l8,.n n9]):=sP [1]<|sT (dt h0)<|sTo (c:=(inR n2 (List.length l0)))<|sA h1<|sP [1,1]<|sT h2<|sA h3<|sP [1,1]<|sF h4<|sA h5<|sP [1,1]<|sF (nt h6)<|sP [1]<|sL
theorem c4g {l0:List (Ty.den TQr)}{n1 n2:Int}{l3:List (Ty.den TI)}{l4:List (Ty.den TQr)}{n5 n6 n7:Int}{l8:List (Ty.den TB)}{n9:Int}{b10:Bool}(g0:0≤n2)(g1:n1=(l0.length:Int))(h0:(n2<n1))(h1:(w3v [.n n5,.n n2])=(some (0,[.b b10])))(h2:(b10=false)):(y3m [.k 0,.l TQr l0,.n n1,.n n2,.l TI l3,.l TQr l4,.n n5,.n n6,.n n7,.l TB l8,.n n9]).sel=some (Step.go [.k 0,.l TQr l0,.n n1,.n (IntKind.wrap .i64 (n2+(1:Int))),.l TI l3,.l TQr l4,.n n5,.n n6,.n n7,.l TB l8,.n n9]):=sP [1]<|sT (dt h0)<|sTo (c:=(inR n2 (List.length l0)))<|sA h1<|sP [1,1]<|sF h2<|sP [0,0,1]<|sL
theorem b4y {l0:List (Ty.den TQr)}{n1 n2:Int}{l3:List (Ty.den TI)}{l4:List (Ty.den TQr)}{n5 n6 n7:Int}{l8:List (Ty.den TB)}{n9:Int}(g0:0≤n2)(g1:n1=(l0.length:Int))(h0:(¬n2<n1)):(y3m [.k 0,.l TQr l0,.n n1,.n n2,.l TI l3,.l TQr l4,.n n5,.n n6,.n n7,.l TB l8,.n n9]).sel=some (Step.stop 0 [.l TI l3,.l TQr l4]):=sP [1]<|sF (df h0)<|sP [1]<|sL
def S_i15:BSh:={args:=[.ptr 0 0,stV 0],blks:=[mB 5],log:=[],outs:=[(.bool 0,[mB 1])]}
def ev_i15:List Dat→Tree (Nat×List Dat):=evF d4h 15 (lsM [(4,h4y)] 1) S_i15
theorem e4d: ∃op,IsF ev_i15 15 S_i15 op:=bxF z3m (lsE (lsC (h3i a4m) (atF) lsZ))
def z3e:OpA:=opF e4d
theorem g4d {n0 n1 n2:Int}{l3:List (Ty.den TB)}{n4:Int}{l5:List (Ty.den TI)}{l6:List (Ty.den TQr)}{n7 n8 n9:Int}{l10:List (Ty.den TB)}{n11:Int}{l12:List (Ty.den TI)}{l13:List (Ty.den TQr)}(h0:(y3z [.n n0,.n n1,.n n2,.l TB l3,.n n4,.l TI l5,.l TQr l6])=(some (0,[.n n7,.n n8,.n n9,.l TB l10,.n n11,.l TI l12,.l TQr l13])))(h1:((n0==n7&&(n1==n8&&(n2==n9&&(eqL TB l3 l10&&(n4==n11&&true)))))=false)):z3e [.n n0,.n n1,.n n2,.l TB l3,.n n4,.l TI l5,.l TQr l6]=some ((0,[.b false,.l TI l5,.l TQr l6])):=h3h e4d (sP [0,1]<|sA h0<|sP [1,1,1]<|sT (nf h1)<|sP [1]<|sL)
theorem e4g {n0 n1 n2:Int}{l3:List (Ty.den TB)}{n4:Int}{l5:List (Ty.den TI)}{l6:List (Ty.den TQr)}{n7 n8 n9:Int}{l10:List (Ty.den TB)}{n11:Int}{l12:List (Ty.den TI)}{l13:List (Ty.den TQr)}{l14:List (Ty.den TI)}{l15:List (Ty.den TQr)}(h0:(y3z [.n n0,.n n1,.n n2,.l TB l3,.n n4,.l TI l5,.l TQr l6])=(some (0,[.n n7,.n n8,.n n9,.l TB l10,.n n11,.l TI l12,.l TQr l13])))(h1:((n0==n7&&(n1==n8&&(n2==n9&&(eqL TB l3 l10&&(n4==n11&&true)))))=true))(h2:(z3k [.k 0,.l TQr l6,.n (↑(List.length l6):Int),.n (0:Int),.l TI l5,.l TQr l6,.n n0,.n n1,.n n2,.l TB l3,.n n4])=(some (0,[.l TI l14,.l TQr l15]))):z3e [.n n0,.n n1,.n n2,.l TB l3,.n n4,.l TI l5,.l TQr l6]=some ((0,[.b true,.l TI l14,.l TQr l15])):=h3h e4d (sP [0,1]<|sA h0<|sP [1,1,1]<|sF (nt h1)<|sA h2<|sP [1,1]<|sL)
theorem g4p {n0 n1 n2:Int}{l3:List (Ty.den TB)}{n4:Int}{l5:List (Ty.den TI)}{l6:List (Ty.den TQr)}{n7 n8 n9:Int}{l10:List (Ty.den TB)}{n11:Int}{l12:List (Ty.den TI)}{l13:List (Ty.den TQr)}{b14:Bool}{l15:List (Ty.den TI)}{l16:List (Ty.den TQr)}(h0:(y3z [.n n0,.n n1,.n n2,.l TB l3,.n n4,.l TI l5,.l TQr l6])=(some (0,[.n n7,.n n8,.n n9,.l TB l10,.n n11,.l TI l12,.l TQr l13])))(h1:((n0==n7&&(n1==n8&&(n2==n9&&(eqL TB l3 l10&&(n4==n11&&true)))))=true))(h2:(z3k [.k 0,.l TQr l6,.n (↑(List.length l6):Int),.n (0:Int),.l TI l5,.l TQr l6,.n n0,.n n1,.n n2,.l TB l3,.n n4])=(some (1,[.b b14,.l TI l15,.l TQr l16]))):z3e [.n n0,.n n1,.n n2,.l TB l3,.n n4,.l TI l5,.l TQr l6]=some ((0,[.b b14,.l TI l15,.l TQr l16])):=h3h e4d (sP [0,1]<|sA h0<|sP [1,1,1]<|sF (nt h1)<|sA h2<|sP [0,1,1]<|sL)
def d4o:FuncId→Option a0q:=e1c 15 [S_i15.k z3e] d4h
theorem z3r:CsOk Try.prog d4o:=csA1 z3m e4d
def f4b:LSh:={K:=2,log:=[0],ins:=[(sh 86 [(2,.ptr 2 0),(63,.imm TNd 0),(64,.int .i64 1),(65,.int .i64 2)],[cyB 1 3,mB 12,pcB 0])],nils:=[],outs:=[(.exit 0,sh 86 [],[cyB 1 0,mB 9])],cv:=[]}
def h4b:List Dat→Tree Step:=evL d4o 67 7 ls0 f4b
theorem d4z: ∃op,IsL h4b 67 7 f4b op:=bxL z3r (LsOk.none _ _ _)
def k4n:OpA:=opL d4z
theorem m4d (env:List Dat):k4n env=a0b h4b FU env:=h3j d4z env
abbrev h4t:MBox:=boxL d4z
theorem m4w {l0:List (Ty.den TNd)}{n1 n2 n3 n4 n5:Int}{l6:List (Ty.den TCmd)}{n7 n8 n9:Int}{l10:List (Ty.den TB)}{n11:Int}{l12:List (Ty.den TI)}{l13:List (Ty.den TQr)}{n14:Int}(g0:0≤n2)(g1:n1=(l0.length:Int))(h0:(n2<n1))(h1:(y3y [.n (IntKind.wrap .u64 n11),.n (Prod.fst (List.getD l0 (Int.toNat n2) (Ty.dflt TNd))),.b (Prod.snd (List.getD l0 (Int.toNat n2) (Ty.dflt TNd)))])=(some (0,[.n n14]))):(h4b [.k 0,.l TNd l0,.n n1,.n n2,.n n3,.n n4,.n n5,.l TCmd l6,.n n7,.n n8,.n n9,.l TB l10,.n n11,.l TI l12,.l TQr l13]).sel=some (Step.go [.k 0,.l TNd l0,.n n1,.n (IntKind.wrap .i64 (n2+(1:Int))),.n n3,.n n4,.n n5,.l TCmd l6,.n n7,.n n8,.n n9,.l TB l10,.n (IntKind.wrap .u32 n14),.l TI l12,.l TQr l13]):=sP [1]<|sT (dt h0)<|sTo (c:=(inR n2 (List.length l0)))<|sA h1<|sP [1,1,1,1]<|sL
theorem m4k {l0:List (Ty.den TNd)}{n1 n2 n3 n4 n5:Int}{l6:List (Ty.den TCmd)}{n7 n8 n9:Int}{l10:List (Ty.den TB)}{n11:Int}{l12:List (Ty.den TI)}{l13:List (Ty.den TQr)}(g0:0≤n2)(g1:n1=(l0.length:Int))(h0:(¬n2<n1)):(h4b [.k 0,.l TNd l0,.n n1,.n n2,.n n3,.n n4,.n n5,.l TCmd l6,.n n7,.n n8,.n n9,.l TB l10,.n n11,.l TI l12,.l TQr l13]).sel=some (Step.stop 0 [.n n3,.n n4,.n n5,.l TCmd l6,.n n7,.n n8,.n n9,.l TB l10,.n n11,.l TI l12,.l TQr l13]):=sP [1]<|sF (df h0)<|sP [1]<|sL
def S_i67:BSh:={args:=[.ptr 0 0,.int .i64 0],blks:=[cyB 1 1,mB 10],log:=[0],outs:=[(.tup [],[cyB 1 0,mB 9])]}
def ev_i67:List Dat→Tree (Nat×List Dat):=evF d4o 67 (lsM [(7,h4t)] 2) S_i67
theorem k4m: ∃op,IsF ev_i67 67 S_i67 op:=bxF z3r (lsE (lsC (h3i d4z) (atF) lsZ))
def j4e:OpA:=opF k4m
theorem o4r {n0 n1 n2 n3:Int}{l4:List (Ty.den TCmd)}{n5 n6 n7:Int}{l8:List (Ty.den TB)}{n9:Int}{l10:List (Ty.den TI)}{l11:List (Ty.den TQr)}(h0:(n0≥(0:Int)))(h1:(¬n0<(↑(List.length l11):Int))):j4e [.n n0,.n n1,.n n2,.n n3,.l TCmd l4,.n n5,.n n6,.n n7,.l TB l8,.n n9,.l TI l10,.l TQr l11]=some ((0,[.n n1,.n n2,.n n3,.l TCmd l4,.n n5,.n n6,.n n7,.l TB l8,.n n9,.l TI l10,.l TQr l11])):=h3h k4m (sP [1]<|sT (dt h0)<|sP [1]<|sT (nf (df h1))<|sP [1,1,1]<|sL)
theorem p4a {n0 n1 n2 n3:Int}{l4:List (Ty.den TCmd)}{n5 n6 n7:Int}{l8:List (Ty.den TB)}{n9:Int}{l10:List (Ty.den TI)}{l11:List (Ty.den TQr)}{b12:Bool}(h0:(n0≥(0:Int)))(h1:(n0<(↑(List.length l11):Int)))(h2:(w3v [.n n5,.n n0])=(some (0,[.b b12])))(h3:(b12=true)):j4e [.n n0,.n n1,.n n2,.n n3,.l TCmd l4,.n n5,.n n6,.n n7,.l TB l8,.n n9,.l TI l10,.l TQr l11]=some ((0,[.n n1,.n n2,.n n3,.l TCmd l4,.n n5,.n n6,.n n7,.l TB l8,.n n9,.l TI l10,.l TQr l11])):=h3h k4m (sP [1]<|sT (dt h0)<|sP [1]<|sF (nt (dt h1))<|sA h2<|sP [1,1]<|sT h3<|sP [1]<|sL)
theorem p4n {n0 n1 n2 n3:Int}{l4:List (Ty.den TCmd)}{n5 n6 n7:Int}{l8:List (Ty.den TB)}{n9:Int}{l10:List (Ty.den TI)}{l11:List (Ty.den TQr)}{b12 b13:Bool}(h0:(n0≥(0:Int)))(h1:(n0<(↑(List.length l11):Int)))(h2:(w3v [.n n5,.n n0])=(some (0,[.b b12])))(h3:(b12=false))(h4:(a4f [.n n5,.n n6,.n n7,.l TB l8,.n n9,.l TI (Prod.snd (Prod.snd (Prod.snd (Prod.snd (List.getD l11 (Int.toNat n0) (Ty.dflt TQr))))))])=(some (0,[.b b13])))(h5:(b13=true)):j4e [.n n0,.n n1,.n n2,.n n3,.l TCmd l4,.n n5,.n n6,.n n7,.l TB l8,.n n9,.l TI l10,.l TQr l11]=some ((0,[.n n1,.n n2,.n n3,.l TCmd l4,.n n5,.n n6,.n n7,.l TB l8,.n n9,.l TI l10,.l TQr l11])):=h3h k4m (sP [1]<|sT (dt h0)<|sP [1]<|sF (nt (dt h1))<|sA h2<|sP [1,1]<|sF h3<|sTo (c:=(inR n0 (List.length l11)))<|sA h4<|sP [1,1]<|sT h5<|sP [1,1,1,1,1,1]<|sL)
theorem o4q {n0 n1 n2 n3:Int}{l4:List (Ty.den TCmd)}{n5 n6 n7:Int}{l8:List (Ty.den TB)}{n9:Int}{l10:List (Ty.den TI)}{l11:List (Ty.den TQr)}{b12 b13 b14:Bool}{n15 n16 n17:Int}{l18:List (Ty.den TCmd)}{n19 n20 n21:Int}{l22:List (Ty.den TB)}{n23:Int}{l24:List (Ty.den TI)}{l25:List (Ty.den TQr)}(h0:(n0≥(0:Int)))(h1:(n0<(↑(List.length l11):Int)))(h2:(w3v [.n n5,.n n0])=(some (0,[.b b12])))(h3:(b12=false))(h4:(a4f [.n n5,.n n6,.n n7,.l TB l8,.n n9,.l TI (Prod.snd (Prod.snd (Prod.snd (Prod.snd (List.getD l11 (Int.toNat n0) (Ty.dflt TQr))))))])=(some (0,[.b b13])))(h5:(b13=false))(h6:(j4c [.n (Prod.fst (List.getD l11 (Int.toNat n0) (Ty.dflt TQr))),.n (Prod.fst (Prod.snd (List.getD l11 (Int.toNat n0) (Ty.dflt TQr)))),.l TI (Prod.fst (Prod.snd (Prod.snd (List.getD l11 (Int.toNat n0) (Ty.dflt TQr))))),.l TNd (Prod.fst (Prod.snd (Prod.snd (Prod.snd (List.getD l11 (Int.toNat n0) (Ty.dflt TQr)))))),.l TI (Prod.snd (Prod.snd (Prod.snd (Prod.snd (List.getD l11 (Int.toNat n0) (Ty.dflt TQr)))))),.n n1,.n n2,.n n3,.l TCmd l4,.n n5,.n n6,.n n7,.l TB l8,.n n9,.l TI l10,.l TQr l11])=(some (0,[.b b14,.n n15,.n n16,.n n17,.l TCmd l18,.n n19,.n n20,.n n21,.l TB l22,.n n23,.l TI l24,.l TQr l25])))(h7:(b14=false)):j4e [.n n0,.n n1,.n n2,.n n3,.l TCmd l4,.n n5,.n n6,.n n7,.l TB l8,.n n9,.l TI l10,.l TQr l11]=some ((0,[.n n1,.n n2,.n n3,.l TCmd l4,.n n5,.n n6,.n n7,.l TB l8,.n n9,.l TI l10,.l TQr l11])):=h3h k4m (sP [1]<|sT (dt h0)<|sP [1]<|sF (nt (dt h1))<|sA h2<|sP [1,1]<|sF h3<|sTo (c:=(inR n0 (List.length l11)))<|sA h4<|sP [1,1]<|sF h5<|sP [1]<|sA h6<|sP [1,1]<|sT (nf h7)<|sP [1,1,1,1]<|sL)
theorem p4p {n0 n1 n2 n3:Int}{l4:List (Ty.den TCmd)}{n5 n6 n7:Int}{l8:List (Ty.den TB)}{n9:Int}{l10:List (Ty.den TI)}{l11:List (Ty.den TQr)}{b12 b13 b14:Bool}{n15 n16 n17:Int}{l18:List (Ty.den TCmd)}{n19 n20 n21:Int}{l22:List (Ty.den TB)}{n23:Int}{l24:List (Ty.den TI)}{l25:List (Ty.den TQr)}{n26 n27 n28 n29:Int}{l30:List (Ty.den TCmd)}{n31 n32 n33:Int}{l34:List (Ty.den TB)}{n35:Int}{l36:List (Ty.den TI)}{l37:List (Ty.den TQr)}(h0:(n0≥(0:Int)))(h1:(n0<(↑(List.length l11):Int)))(h2:(w3v [.n n5,.n n0])=(some (0,[.b b12])))(h3:(b12=false))(h4:(a4f [.n n5,.n n6,.n n7,.l TB l8,.n n9,.l TI (Prod.snd (Prod.snd (Prod.snd (Prod.snd (List.getD l11 (Int.toNat n0) (Ty.dflt TQr))))))])=(some (0,[.b b13])))(h5:(b13=false))(h6:(j4c [.n (Prod.fst (List.getD l11 (Int.toNat n0) (Ty.dflt TQr))),.n (Prod.fst (Prod.snd (List.getD l11 (Int.toNat n0) (Ty.dflt TQr)))),.l TI (Prod.fst (Prod.snd (Prod.snd (List.getD l11 (Int.toNat n0) (Ty.dflt TQr))))),.l TNd (Prod.fst (Prod.snd (Prod.snd (Prod.snd (List.getD l11 (Int.toNat n0) (Ty.dflt TQr)))))),.l TI (Prod.snd (Prod.snd (Prod.snd (Prod.snd (List.getD l11 (Int.toNat n0) (Ty.dflt TQr)))))),.n n1,.n n2,.n n3,.l TCmd l4,.n n5,.n n6,.n n7,.l TB l8,.n n9,.l TI l10,.l TQr l11])=(some (0,[.b b14,.n n15,.n n16,.n n17,.l TCmd l18,.n n19,.n n20,.n n21,.l TB l22,.n n23,.l TI l24,.l TQr l25])))(h7:(b14=true))(h8:(j4f [.l TNd (Prod.fst (Prod.snd (Prod.snd (Prod.snd (List.getD l11 (Int.toNat n0) (Ty.dflt TQr)))))),.n n1,.n n2,.n n3,.l TCmd l4,.n n5,.n n6,.n n7,.l TB l8,.n n9,.l TI l10,.l TQr l11])=(some (0,[.n n26,.n n27,.n n28,.n n29,.l TCmd l30,.n n31,.n n32,.n n33,.l TB l34,.n n35,.l TI l36,.l TQr l37])))(h9:(n26≥(0:Int))):j4e [.n n0,.n n1,.n n2,.n n3,.l TCmd l4,.n n5,.n n6,.n n7,.l TB l8,.n n9,.l TI l10,.l TQr l11]=some ((0,[.n n1,.n n2,.n n3,.l TCmd l4,.n n5,.n n6,.n n7,.l TB l8,.n n9,.l TI l10,.l TQr l11])):=h3h k4m (sP [1]<|sT (dt h0)<|sP [1]<|sF (nt (dt h1))<|sA h2<|sP [1,1]<|sF h3<|sTo (c:=(inR n0 (List.length l11)))<|sA h4<|sP [1,1]<|sF h5<|sP [1]<|sA h6<|sP [1,1]<|sF (nt h7)<|sP [1,1]<|sA h8<|sP [1,1,1,1]<|sT (dt h9)<|sP [1]<|sL)
theorem o4b {n0 n1 n2 n3:Int}{l4:List (Ty.den TCmd)}{n5 n6 n7:Int}{l8:List (Ty.den TB)}{n9:Int}{l10:List (Ty.den TI)}{l11:List (Ty.den TQr)}{b12 b13 b14:Bool}{n15 n16 n17:Int}{l18:List (Ty.den TCmd)}{n19 n20 n21:Int}{l22:List (Ty.den TB)}{n23:Int}{l24:List (Ty.den TI)}{l25:List (Ty.den TQr)}{n26 n27 n28 n29:Int}{l30:List (Ty.den TCmd)}{n31 n32 n33:Int}{l34:List (Ty.den TB)}{n35:Int}{l36:List (Ty.den TI)}{l37:List (Ty.den TQr)}{n38 n39 n40 n41:Int}{l42:List (Ty.den TCmd)}{n43 n44 n45:Int}{l46:List (Ty.den TB)}{n47:Int}{l48:List (Ty.den TI)}{l49:List (Ty.den TQr)}(h0:(n0≥(0:Int)))(h1:(n0<(↑(List.length l11):Int)))(h2:(w3v [.n n5,.n n0])=(some (0,[.b b12])))(h3:(b12=false))(h4:(a4f [.n n5,.n n6,.n n7,.l TB l8,.n n9,.l TI (Prod.snd (Prod.snd (Prod.snd (Prod.snd (List.getD l11 (Int.toNat n0) (Ty.dflt TQr))))))])=(some (0,[.b b13])))(h5:(b13=false))(h6:(j4c [.n (Prod.fst (List.getD l11 (Int.toNat n0) (Ty.dflt TQr))),.n (Prod.fst (Prod.snd (List.getD l11 (Int.toNat n0) (Ty.dflt TQr)))),.l TI (Prod.fst (Prod.snd (Prod.snd (List.getD l11 (Int.toNat n0) (Ty.dflt TQr))))),.l TNd (Prod.fst (Prod.snd (Prod.snd (Prod.snd (List.getD l11 (Int.toNat n0) (Ty.dflt TQr)))))),.l TI (Prod.snd (Prod.snd (Prod.snd (Prod.snd (List.getD l11 (Int.toNat n0) (Ty.dflt TQr)))))),.n n1,.n n2,.n n3,.l TCmd l4,.n n5,.n n6,.n n7,.l TB l8,.n n9,.l TI l10,.l TQr l11])=(some (0,[.b b14,.n n15,.n n16,.n n17,.l TCmd l18,.n n19,.n n20,.n n21,.l TB l22,.n n23,.l TI l24,.l TQr l25])))(h7:(b14=true))(h8:(j4f [.l TNd (Prod.fst (Prod.snd (Prod.snd (Prod.snd (List.getD l11 (Int.toNat n0) (Ty.dflt TQr)))))),.n n1,.n n2,.n n3,.l TCmd l4,.n n5,.n n6,.n n7,.l TB l8,.n n9,.l TI l10,.l TQr l11])=(some (0,[.n n26,.n n27,.n n28,.n n29,.l TCmd l30,.n n31,.n n32,.n n33,.l TB l34,.n n35,.l TI l36,.l TQr l37])))(h9:(¬n26≥(0:Int)))(h10:(y3y [.n n5,.n n0,.b true])=(some (0,[.n n38])))(h11:(k4n [.k 0,.l TNd (Prod.fst (Prod.snd (Prod.snd (Prod.snd (List.getD l11 (Int.toNat n0) (Ty.dflt TQr)))))),.n (↑(List.length (Prod.fst (Prod.snd (Prod.snd (Prod.snd (List.getD l11 (Int.toNat n0) (Ty.dflt TQr))))))):Int),.n (0:Int),.n n1,.n n2,.n n3,.l TCmd l4,.n n38,.n n6,.n n7,.l TB l8,.n n9,.l TI l10,.l TQr l11])=(some (0,[.n n39,.n n40,.n n41,.l TCmd l42,.n n43,.n n44,.n n45,.l TB l46,.n n47,.l TI l48,.l TQr l49]))):j4e [.n n0,.n n1,.n n2,.n n3,.l TCmd l4,.n n5,.n n6,.n n7,.l TB l8,.n n9,.l TI l10,.l TQr l11]=some ((0,[.n n39,.n n40,.n n41,.l TCmd l42,.n n43,.n n44,.n n45,.l TB l46,.n n47,.l TI l48,.l TQr l49])):=h3h k4m (sP [1]<|sT (dt h0)<|sP [1]<|sF (nt (dt h1))<|sA h2<|sP [1,1]<|sF h3<|sTo (c:=(inR n0 (List.length l11)))<|sA h4<|sP [1,1]<|sF h5<|sP [1]<|sA h6<|sP [1,1]<|sF (nt h7)<|sP [1,1]<|sA h8<|sP [1,1,1,1]<|sF (df h9)<|sA h10<|sP [1,1,1]<|sA h11<|sP [1,1]<|sL)
theorem p4h {n0 n1 n2 n3:Int}{l4:List (Ty.den TCmd)}{n5 n6 n7:Int}{l8:List (Ty.den TB)}{n9:Int}{l10:List (Ty.den TI)}{l11:List (Ty.den TQr)}(h0:(¬n0≥(0:Int))):j4e [.n n0,.n n1,.n n2,.n n3,.l TCmd l4,.n n5,.n n6,.n n7,.l TB l8,.n n9,.l TI l10,.l TQr l11]=some ((0,[.n n1,.n n2,.n n3,.l TCmd l4,.n n5,.n n6,.n n7,.l TB l8,.n n9,.l TI l10,.l TQr l11])):=h3h k4m (sP [1]<|sF (df h0)<|sP [0,1,1,1,1,1]<|sL)
def g4l:FuncId→Option a0q:=e1c 67 [S_i67.k j4e] d4o
theorem b4d:CsOk Try.prog g4l:=csA1 z3r k4m
def S_i68:BSh:={args:=[.ptr 0 0,.int .i64 0],blks:=[cyB 1 1,mB 10],log:=[0],outs:=[(.tup [],[cyB 1 0,mB 9])]}
def ev_i68:List Dat→Tree (Nat×List Dat):=evF g4l 68 ls0 S_i68
theorem l4v: ∃op,IsF ev_i68 68 S_i68 op:=bxF b4d (LsOk.none _ _ _)
def j4m:OpA:=opF l4v
theorem p4t {n0 n1 n2 n3:Int}{l4:List (Ty.den TCmd)}{n5 n6 n7:Int}{l8:List (Ty.den TB)}{n9:Int}{l10:List (Ty.den TI)}{l11:List (Ty.den TQr)}(h0:(n0≥(0:Int)))(h1:(¬n0<(↑(List.length l11):Int))):j4m [.n n0,.n n1,.n n2,.n n3,.l TCmd l4,.n n5,.n n6,.n n7,.l TB l8,.n n9,.l TI l10,.l TQr l11]=some ((0,[.n n1,.n n2,.n n3,.l TCmd l4,.n n5,.n n6,.n n7,.l TB l8,.n n9,.l TI l10,.l TQr l11])):=h3h l4v (sP [1]<|sT (dt h0)<|sP [1]<|sT (nf (df h1))<|sP [1,1,1,1]<|sL)
theorem o4f {n0 n1 n2 n3:Int}{l4:List (Ty.den TCmd)}{n5 n6 n7:Int}{l8:List (Ty.den TB)}{n9:Int}{l10:List (Ty.den TI)}{l11:List (Ty.den TQr)}{b12:Bool}(h0:(n0≥(0:Int)))(h1:(n0<(↑(List.length l11):Int)))(h2:(w3v [.n (b0l IntKind.u64 (b0l IntKind.u64 n5 n6) n7),.n n0])=(some (0,[.b b12])))(h3:(b12=false)):j4m [.n n0,.n n1,.n n2,.n n3,.l TCmd l4,.n n5,.n n6,.n n7,.l TB l8,.n n9,.l TI l10,.l TQr l11]=some ((0,[.n n1,.n n2,.n n3,.l TCmd l4,.n n5,.n n6,.n n7,.l TB l8,.n n9,.l TI l10,.l TQr l11])):=h3h l4v (sP [1]<|sT (dt h0)<|sP [1]<|sF (nt (dt h1))<|sA h2<|sP [1,1,1]<|sT (nf h3)<|sP [1]<|sL)
theorem p4q {n0 n1 n2 n3:Int}{l4:List (Ty.den TCmd)}{n5 n6 n7:Int}{l8:List (Ty.den TB)}{n9:Int}{l10:List (Ty.den TI)}{l11:List (Ty.den TQr)}{b12:Bool}{n13:Int}{b14:Bool}(h0:(n0≥(0:Int)))(h1:(n0<(↑(List.length l11):Int)))(h2:(w3v [.n (b0l IntKind.u64 (b0l IntKind.u64 n5 n6) n7),.n n0])=(some (0,[.b b12])))(h3:(b12=true))(h4:(y3y [.n n7,.n n0,.b true])=(some (0,[.n n13])))(h5:(inR n0 64=true))(h6:(w3v [.n n1,.n (Prod.fst (List.getD l11 (Int.toNat n0) (Ty.dflt TQr)))])=(some (0,[.b b14])))(h7:((!b14)=false)):j4m [.n n0,.n n1,.n n2,.n n3,.l TCmd l4,.n n5,.n n6,.n n7,.l TB l8,.n n9,.l TI l10,.l TQr l11]=some ((0,[.n n1,.n n2,.n n3,.l TCmd l4,.n n5,.n n6,.n n13,.l TB (List.set (List.set l8 (Int.toNat n0) (0:Int)) (Int.toNat n0) (20:Int)),.n n9,.l TI l10,.l TQr l11])):=h3h l4v (sP [1]<|sT (dt h0)<|sP [1]<|sF (nt (dt h1))<|sA h2<|sP [1,1,1]<|sF (nt h3)<|sA h4<|sP [1,1]<|sT h5<|sTo (c:=(inR n0 (List.length l11)))<|sP [1]<|sA h6<|sP [1,1,1]<|sT (nf h7)<|sT h5<|sP [1]<|sL)
theorem o4p {n0 n1 n2 n3:Int}{l4:List (Ty.den TCmd)}{n5 n6 n7:Int}{l8:List (Ty.den TB)}{n9:Int}{l10:List (Ty.den TI)}{l11:List (Ty.den TQr)}{b12:Bool}{n13:Int}{b14:Bool}(h0:(n0≥(0:Int)))(h1:(n0<(↑(List.length l11):Int)))(h2:(w3v [.n (b0l IntKind.u64 (b0l IntKind.u64 n5 n6) n7),.n n0])=(some (0,[.b b12])))(h3:(b12=true))(h4:(y3y [.n n7,.n n0,.b true])=(some (0,[.n n13])))(h5:(inR n0 64=true))(h6:(w3v [.n n1,.n (Prod.fst (List.getD l11 (Int.toNat n0) (Ty.dflt TQr)))])=(some (0,[.b b14])))(h7:((!b14)=true)):j4m [.n n0,.n n1,.n n2,.n n3,.l TCmd l4,.n n5,.n n6,.n n7,.l TB l8,.n n9,.l TI l10,.l TQr l11]=some ((0,[.n n1,.n n2,.n n3,.l TCmd l4,.n n5,.n n6,.n n13,.l TB (List.set l8 (Int.toNat n0) (0:Int)),.n n9,.l TI l10,.l TQr l11])):=h3h l4v (sP [1]<|sT (dt h0)<|sP [1]<|sF (nt (dt h1))<|sA h2<|sP [1,1,1]<|sF (nt h3)<|sA h4<|sP [1,1]<|sT h5<|sTo (c:=(inR n0 (List.length l11)))<|sP [1]<|sA h6<|sP [1,1,1]<|sF (nt h7)<|sP [1]<|sL)
theorem p4l {n0 n1 n2 n3:Int}{l4:List (Ty.den TCmd)}{n5 n6 n7:Int}{l8:List (Ty.den TB)}{n9:Int}{l10:List (Ty.den TI)}{l11:List (Ty.den TQr)}(h0:(¬n0≥(0:Int))):j4m [.n n0,.n n1,.n n2,.n n3,.l TCmd l4,.n n5,.n n6,.n n7,.l TB l8,.n n9,.l TI l10,.l TQr l11]=some ((0,[.n n1,.n n2,.n n3,.l TCmd l4,.n n5,.n n6,.n n7,.l TB l8,.n n9,.l TI l10,.l TQr l11])):=h3h l4v (sP [1]<|sF (df h0)<|sP [0,1,1,1,1,1,1]<|sL)
def d4q:FuncId→Option a0q:=e1c 68 [S_i68.k j4m] g4l
theorem a4d:CsOk Try.prog d4q:=csA1 b4d l4v
def e4l:LSh:={K:=2,log:=[],ins:=[(sh 73 [(0,.ptr 0 0),(3,.ptr 2 0),(41,.imm TQr 0),(42,.int .i64 1),(43,.int .i64 2)],[cyB 1 3,mB 12,icB 14])],nils:=[],outs:=[(.exit 0,sh 73 [(0,.ptr 0 0),(3,.ptr 2 0)],[cyB 1 0,mB 9,icB 11]),(.ret,sh 73 [],[cyB 1 0,mB 9])],cv:=[]}
def i4n:List Dat→Tree Step:=evL d4q 69 3 ls0 e4l
theorem e4c: ∃op,IsL i4n 69 3 e4l op:=bxL a4d (LsOk.none _ _ _)
def j4r:OpA:=opL e4c
theorem m4a (env:List Dat):j4r env=a0b i4n FU env:=h3j e4c env
abbrev i4f:MBox:=boxL e4c
theorem n4d {l0:List (Ty.den TQr)}{n1 n2 n3 n4 n5:Int}{l6:List (Ty.den TCmd)}{n7 n8 n9:Int}{l10:List (Ty.den TB)}{n11:Int}{l12:List (Ty.den TI)}{l13:List (Ty.den TQr)}{n14:Int}{b15:Bool}{n16 n17:Int}(g0:0≤n2)(g1:n1=(l0.length:Int))(h0:(n2<n1))(h1:(w3v [.n n7,.n n2])=(some (0,[.b b15])))(h2:(b15=true))(h3:(j4l [.l TNd (Prod.fst (Prod.snd (Prod.snd (Prod.snd (List.getD l0 (Int.toNat n2) (Ty.dflt TQr)))))),.n n14])=(some (0,[.n n16,.n n17])))(h4:(n16≥(0:Int))):(i4n [.k 0,.l TQr l0,.n n1,.n n2,.n n3,.n n4,.n n5,.l TCmd l6,.n n7,.n n8,.n n9,.l TB l10,.n n11,.l TI l12,.l TQr l13,.n n14]).sel=some (Step.stop 1 [.n n3,.n n4,.n n5,.l TCmd l6,.n n7,.n n8,.n n9,.l TB l10,.n n11,.l TI l12,.l TQr l13]):=sP [1]<|sT (dt h0)<|sTo (c:=(inR n2 (List.length l0)))<|sA h1<|sP [1,1]<|sT h2<|sP [1,1]<|sA h3<|sP [1,1,1]<|sT (dt h4)<|sP [1]<|sL
theorem l4w {l0:List (Ty.den TQr)}{n1 n2 n3 n4 n5:Int}{l6:List (Ty.den TCmd)}{n7 n8 n9:Int}{l10:List (Ty.den TB)}{n11:Int}{l12:List (Ty.den TI)}{l13:List (Ty.den TQr)}{n14:Int}{b15:Bool}{n16 n17:Int}(g0:0≤n2)(g1:n1=(l0.length:Int))(h0:(n2<n1))(h1:(w3v [.n n7,.n n2])=(some (0,[.b b15])))(h2:(b15=true))(h3:(j4l [.l TNd (Prod.fst (Prod.snd (Prod.snd (Prod.snd (List.getD l0 (Int.toNat n2) (Ty.dflt TQr)))))),.n n14])=(some (0,[.n n16,.n n17])))(h4:(¬n16≥(0:Int))):(i4n [.k 0,.l TQr l0,.n n1,.n n2,.n n3,.n n4,.n n5,.l TCmd l6,.n n7,.n n8,.n n9,.l TB l10,.n n11,.l TI l12,.l TQr l13,.n n14]).sel=some (Step.go [.k 0,.l TQr l0,.n n1,.n (IntKind.wrap .i64 (n2+(1:Int))),.n n3,.n n4,.n n5,.l TCmd l6,.n n7,.n n8,.n n9,.l TB l10,.n n11,.l TI l12,.l TQr l13,.n n14]):=sP [1]<|sT (dt h0)<|sTo (c:=(inR n2 (List.length l0)))<|sA h1<|sP [1,1]<|sT h2<|sP [1,1]<|sA h3<|sP [1,1,1]<|sF (df h4)<|sP [1]<|sL
theorem m4q {l0:List (Ty.den TQr)}{n1 n2 n3 n4 n5:Int}{l6:List (Ty.den TCmd)}{n7 n8 n9:Int}{l10:List (Ty.den TB)}{n11:Int}{l12:List (Ty.den TI)}{l13:List (Ty.den TQr)}{n14:Int}{b15:Bool}(g0:0≤n2)(g1:n1=(l0.length:Int))(h0:(n2<n1))(h1:(w3v [.n n7,.n n2])=(some (0,[.b b15])))(h2:(b15=false)):(i4n [.k 0,.l TQr l0,.n n1,.n n2,.n n3,.n n4,.n n5,.l TCmd l6,.n n7,.n n8,.n n9,.l TB l10,.n n11,.l TI l12,.l TQr l13,.n n14]).sel=some (Step.go [.k 0,.l TQr l0,.n n1,.n (IntKind.wrap .i64 (n2+(1:Int))),.n n3,.n n4,.n n5,.l TCmd l6,.n n7,.n n8,.n n9,.l TB l10,.n n11,.l TI l12,.l TQr l13,.n n14]):=sP [1]<|sT (dt h0)<|sTo (c:=(inR n2 (List.length l0)))<|sA h1<|sP [1,1]<|sF h2<|sP [0,0,1]<|sL
theorem m4c {l0:List (Ty.den TQr)}{n1 n2 n3 n4 n5:Int}{l6:List (Ty.den TCmd)}{n7 n8 n9:Int}{l10:List (Ty.den TB)}{n11:Int}{l12:List (Ty.den TI)}{l13:List (Ty.den TQr)}{n14:Int}(g0:0≤n2)(g1:n1=(l0.length:Int))(h0:(¬n2<n1)):(i4n [.k 0,.l TQr l0,.n n1,.n n2,.n n3,.n n4,.n n5,.l TCmd l6,.n n7,.n n8,.n n9,.l TB l10,.n n11,.l TI l12,.l TQr l13,.n n14]).sel=some (Step.stop 0 [.n n3,.n n4,.n n5,.l TCmd l6,.n n7,.n n8,.n n9,.l TB l10,.n n11,.l TI l12,.l TQr l13,.n n14]):=sP [1]<|sF (df h0)<|sP [1]<|sL
def S_i69:BSh:={args:=[.ptr 0 0,.int .i64 0],blks:=[cyB 1 1,mB 10],log:=[0],outs:=[(.tup [],[cyB 1 0,mB 9])]}
def ev_i69:List Dat→Tree (Nat×List Dat):=evF d4q 69 (lsM [(3,i4f)] 2) S_i69
theorem m4e: ∃op,IsF ev_i69 69 S_i69 op:=bxF a4d (lsE (lsC (h3i e4c) (atF) lsZ))
def j4o:OpA:=opF m4e
theorem o4h {n0 n1 n2 n3:Int}{l4:List (Ty.den TCmd)}{n5 n6 n7:Int}{l8:List (Ty.den TB)}{n9:Int}{l10:List (Ty.den TI)}{l11:List (Ty.den TQr)}(h0:(n0<(0:Int))):j4o [.n n0,.n n1,.n n2,.n n3,.l TCmd l4,.n n5,.n n6,.n n7,.l TB l8,.n n9,.l TI l10,.l TQr l11]=some ((0,[.n n1,.n n2,.n n3,.l TCmd l4,.n n5,.n n6,.n n7,.l TB l8,.n n9,.l TI l10,.l TQr l11])):=h3h m4e (sT (dt h0)<|sP [1,1,1,1,1,1]<|sL)
theorem o4s {n0 n1 n2 n3:Int}{l4:List (Ty.den TCmd)}{n5 n6 n7:Int}{l8:List (Ty.den TB)}{n9:Int}{l10:List (Ty.den TI)}{l11:List (Ty.den TQr)}(h0:(¬n0<(0:Int)))(h1:(n0≥(↑(List.length l10):Int))):j4o [.n n0,.n n1,.n n2,.n n3,.l TCmd l4,.n n5,.n n6,.n n7,.l TB l8,.n n9,.l TI l10,.l TQr l11]=some ((0,[.n n1,.n n2,.n n3,.l TCmd l4,.n n5,.n n6,.n n7,.l TB l8,.n n9,.l TI l10,.l TQr l11])):=h3h m4e (sF (df h0)<|sT (dt h1)<|sP [1,1,1,1]<|sL)
theorem o4z {n0 n1 n2 n3:Int}{l4:List (Ty.den TCmd)}{n5 n6 n7:Int}{l8:List (Ty.den TB)}{n9:Int}{l10:List (Ty.den TI)}{l11:List (Ty.den TQr)}{b12:Bool}(h0:(¬n0<(0:Int)))(h1:(¬n0≥(↑(List.length l10):Int)))(h2:(w3v [.n n1,.n (List.getD l10 (Int.toNat n0) (0:Int))])=(some (0,[.b b12])))(h3:((!b12)=false)):j4o [.n n0,.n n1,.n n2,.n n3,.l TCmd l4,.n n5,.n n6,.n n7,.l TB l8,.n n9,.l TI l10,.l TQr l11]=some ((0,[.n n1,.n n2,.n n3,.l TCmd l4,.n n5,.n n6,.n n7,.l TB l8,.n n9,.l TI l10,.l TQr l11])):=h3h m4e (sF (df h0)<|sF (df h1)<|sTo (c:=(inR n0 (List.length l10)))<|sP [1]<|sA h2<|sP [1,1,1,1]<|sT (nf h3)<|sP [1]<|sL)
theorem o4e {n0 n1 n2 n3:Int}{l4:List (Ty.den TCmd)}{n5 n6 n7:Int}{l8:List (Ty.den TB)}{n9:Int}{l10:List (Ty.den TI)}{l11:List (Ty.den TQr)}{b12:Bool}{n13 n14 n15:Int}{l16:List (Ty.den TCmd)}{n17 n18 n19:Int}{l20:List (Ty.den TB)}{n21:Int}{l22:List (Ty.den TI)}{l23:List (Ty.den TQr)}{n24:Int}(h0:(¬n0<(0:Int)))(h1:(¬n0≥(↑(List.length l10):Int)))(h2:(w3v [.n n1,.n (List.getD l10 (Int.toNat n0) (0:Int))])=(some (0,[.b b12])))(h3:((!b12)=true))(h4:(j4r [.k 0,.l TQr l11,.n (↑(List.length l11):Int),.n (0:Int),.n n1,.n n2,.n n3,.l TCmd l4,.n n5,.n n6,.n n7,.l TB l8,.n n9,.l TI l10,.l TQr l11,.n n0])=(some (0,[.n n13,.n n14,.n n15,.l TCmd l16,.n n17,.n n18,.n n19,.l TB l20,.n n21,.l TI l22,.l TQr l23,.n n24])))(h5:(¬n24<(0:Int))):j4o [.n n0,.n n1,.n n2,.n n3,.l TCmd l4,.n n5,.n n6,.n n7,.l TB l8,.n n9,.l TI l10,.l TQr l11]=some ((0,[.n n13,.n n14,.n n15,.l TCmd l16,.n n17,.n n18,.n n19,.l TB l20,.n (ixor IntKind.u32 n21 (ishl IntKind.u32 (1:Int) n24)),.l TI l22,.l TQr l23])):=h3h m4e (sF (df h0)<|sF (df h1)<|sTo (c:=(inR n0 (List.length l10)))<|sP [1]<|sA h2<|sP [1,1,1,1]<|sF (nt h3)<|sA h4<|sP [1]<|sT (nf (df h5))<|sP [1,1]<|sL)
theorem o4d {n0 n1 n2 n3:Int}{l4:List (Ty.den TCmd)}{n5 n6 n7:Int}{l8:List (Ty.den TB)}{n9:Int}{l10:List (Ty.den TI)}{l11:List (Ty.den TQr)}{b12:Bool}{n13 n14 n15:Int}{l16:List (Ty.den TCmd)}{n17 n18 n19:Int}{l20:List (Ty.den TB)}{n21:Int}{l22:List (Ty.den TI)}{l23:List (Ty.den TQr)}(h0:(¬n0<(0:Int)))(h1:(¬n0≥(↑(List.length l10):Int)))(h2:(w3v [.n n1,.n (List.getD l10 (Int.toNat n0) (0:Int))])=(some (0,[.b b12])))(h3:((!b12)=true))(h4:(j4r [.k 0,.l TQr l11,.n (↑(List.length l11):Int),.n (0:Int),.n n1,.n n2,.n n3,.l TCmd l4,.n n5,.n n6,.n n7,.l TB l8,.n n9,.l TI l10,.l TQr l11,.n n0])=(some (1,[.n n13,.n n14,.n n15,.l TCmd l16,.n n17,.n n18,.n n19,.l TB l20,.n n21,.l TI l22,.l TQr l23]))):j4o [.n n0,.n n1,.n n2,.n n3,.l TCmd l4,.n n5,.n n6,.n n7,.l TB l8,.n n9,.l TI l10,.l TQr l11]=some ((0,[.n n13,.n n14,.n n15,.l TCmd l16,.n n17,.n n18,.n n19,.l TB l20,.n n21,.l TI l22,.l TQr l23])):=h3h m4e (sF (df h0)<|sF (df h1)<|sTo (c:=(inR n0 (List.length l10)))<|sP [1]<|sA h2<|sP [1,1,1,1]<|sF (nt h3)<|sA h4<|sP [0,1,1]<|sL)
def d4a:FuncId→Option a0q:=e1c 69 [S_i69.k j4o] d4q
theorem z3z:CsOk Try.prog d4a:=csA1 a4d m4e
def f4y:LSh:={K:=2,log:=[0],ins:=[(sh 42 [(0,.ptr 0 0),(2,.ptr 2 0),(16,.imm TCmd 0),(17,.int .i64 1),(18,.int .i64 2)],[cyB 1 3,mB 12,dosB])],nils:=[],outs:=[(.exit 0,sh 42 [],[cyB 1 0,mB 9]),(.ret,sh 42 [],[cyB 1 0,mB 9])],cv:=[]}
def h4s:List Dat→Tree Step:=evL d4a 34 2 ls0 f4y
theorem f4x: ∃op,IsL h4s 34 2 f4y op:=bxL z3z (LsOk.none _ _ _)
def j4t:OpA:=opL f4x
theorem n4c (env:List Dat):j4t env=a0b h4s FU env:=h3j f4x env
abbrev i4t:MBox:=boxL f4x
theorem l4t {l0:List (Ty.den TCmd)}{n1 n2 n3 n4 n5:Int}{l6:List (Ty.den TCmd)}{n7 n8 n9:Int}{l10:List (Ty.den TB)}{n11:Int}{l12:List (Ty.den TI)}{l13:List (Ty.den TQr)}(g0:0≤n2)(g1:n1=(l0.length:Int))(h0:(n2<n1))(h1:(n2=(8:Int))):(h4s [.k 0,.l TCmd l0,.n n1,.n n2,.n n3,.n n4,.n n5,.l TCmd l6,.n n7,.n n8,.n n9,.l TB l10,.n n11,.l TI l12,.l TQr l13]).sel=some (Step.stop 1 [.n n3,.n n4,.n n5,.l TCmd l6,.n n7,.n n8,.n n9,.l TB l10,.n n11,.l TI l12,.l TQr l13]):=sP [1]<|sT (dt h0)<|sTo (c:=(inR n2 (List.length l0)))<|sT (bt h1)<|sP [1]<|sL
theorem m4i {l0:List (Ty.den TCmd)}{n1 n2 n3 n4 n5:Int}{l6:List (Ty.den TCmd)}{n7 n8 n9:Int}{l10:List (Ty.den TB)}{n11:Int}{l12:List (Ty.den TI)}{l13:List (Ty.den TQr)}{n14 n15 n16:Int}{l17:List (Ty.den TCmd)}{n18 n19 n20:Int}{l21:List (Ty.den TB)}{n22:Int}{l23:List (Ty.den TI)}{l24:List (Ty.den TQr)}(g0:0≤n2)(g1:n1=(l0.length:Int))(h0:(n2<n1))(h1:(¬n2=(8:Int)))(h2:(¬(Prod.fst (List.getD l0 (Int.toNat n2) (Ty.dflt TCmd)):Int)=(0:Int)))(h3:(IntKind.wrap .i64 (Prod.fst (List.getD l0 (Int.toNat n2) (Ty.dflt TCmd)))<(4:Int)))(h4:((Prod.fst (List.getD l0 (Int.toNat n2) (Ty.dflt TCmd)):Int)=(1:Int)))(h5:(j4e [.n (Prod.snd (List.getD l0 (Int.toNat n2) (Ty.dflt TCmd))),.n n3,.n n4,.n n5,.l TCmd l6,.n n7,.n n8,.n n9,.l TB l10,.n n11,.l TI l12,.l TQr l13])=(some (0,[.n n14,.n n15,.n n16,.l TCmd l17,.n n18,.n n19,.n n20,.l TB l21,.n n22,.l TI l23,.l TQr l24]))):(h4s [.k 0,.l TCmd l0,.n n1,.n n2,.n n3,.n n4,.n n5,.l TCmd l6,.n n7,.n n8,.n n9,.l TB l10,.n n11,.l TI l12,.l TQr l13]).sel=some (Step.go [.k 0,.l TCmd l0,.n n1,.n (IntKind.wrap .i64 (n2+(1:Int))),.n n14,.n n15,.n n16,.l TCmd l17,.n n18,.n n19,.n n20,.l TB l21,.n n22,.l TI l12,.l TQr l13]):=sP [1]<|sT (dt h0)<|sTo (c:=(inR n2 (List.length l0)))<|sF (bf h1)<|sT (bnt h2)<|sT (dt h3)<|sFs (c:=(decide ((Prod.fst (List.getD l0 (Int.toNat n2) (Ty.dflt TCmd)):Int)=(0:Int))))<|sT (dt h4)<|sP [1]<|sA h5<|sP [1,1,1,1]<|sL
theorem n4a {l0:List (Ty.den TCmd)}{n1 n2 n3 n4 n5:Int}{l6:List (Ty.den TCmd)}{n7 n8 n9:Int}{l10:List (Ty.den TB)}{n11:Int}{l12:List (Ty.den TI)}{l13:List (Ty.den TQr)}{n14 n15 n16:Int}{l17:List (Ty.den TCmd)}{n18 n19 n20:Int}{l21:List (Ty.den TB)}{n22:Int}{l23:List (Ty.den TI)}{l24:List (Ty.den TQr)}(g0:0≤n2)(g1:n1=(l0.length:Int))(h0:(n2<n1))(h1:(¬n2=(8:Int)))(h2:(¬(Prod.fst (List.getD l0 (Int.toNat n2) (Ty.dflt TCmd)):Int)=(0:Int)))(h3:(IntKind.wrap .i64 (Prod.fst (List.getD l0 (Int.toNat n2) (Ty.dflt TCmd)))<(4:Int)))(h4:(¬(Prod.fst (List.getD l0 (Int.toNat n2) (Ty.dflt TCmd)):Int)=(1:Int)))(h5:((Prod.fst (List.getD l0 (Int.toNat n2) (Ty.dflt TCmd)):Int)=(2:Int)))(h6:(j4m [.n (Prod.snd (List.getD l0 (Int.toNat n2) (Ty.dflt TCmd))),.n n3,.n n4,.n n5,.l TCmd l6,.n n7,.n n8,.n n9,.l TB l10,.n n11,.l TI l12,.l TQr l13])=(some (0,[.n n14,.n n15,.n n16,.l TCmd l17,.n n18,.n n19,.n n20,.l TB l21,.n n22,.l TI l23,.l TQr l24]))):(h4s [.k 0,.l TCmd l0,.n n1,.n n2,.n n3,.n n4,.n n5,.l TCmd l6,.n n7,.n n8,.n n9,.l TB l10,.n n11,.l TI l12,.l TQr l13]).sel=some (Step.go [.k 0,.l TCmd l0,.n n1,.n (IntKind.wrap .i64 (n2+(1:Int))),.n n14,.n n15,.n n16,.l TCmd l17,.n n18,.n n19,.n n20,.l TB l21,.n n22,.l TI l12,.l TQr l13]):=sP [1]<|sT (dt h0)<|sTo (c:=(inR n2 (List.length l0)))<|sF (bf h1)<|sT (bnt h2)<|sT (dt h3)<|sFs (c:=(decide ((Prod.fst (List.getD l0 (Int.toNat n2) (Ty.dflt TCmd)):Int)=(0:Int))))<|sF (df h4)<|sT (dt h5)<|sP [1]<|sA h6<|sP [1,1,1,1]<|sL
theorem m4j {l0:List (Ty.den TCmd)}{n1 n2 n3 n4 n5:Int}{l6:List (Ty.den TCmd)}{n7 n8 n9:Int}{l10:List (Ty.den TB)}{n11:Int}{l12:List (Ty.den TI)}{l13:List (Ty.den TQr)}{n14 n15 n16:Int}{l17:List (Ty.den TCmd)}{n18 n19 n20:Int}{l21:List (Ty.den TB)}{n22:Int}{l23:List (Ty.den TI)}{l24:List (Ty.den TQr)}(g0:0≤n2)(g1:n1=(l0.length:Int))(h0:(n2<n1))(h1:(¬n2=(8:Int)))(h2:(¬(Prod.fst (List.getD l0 (Int.toNat n2) (Ty.dflt TCmd)):Int)=(0:Int)))(h3:(IntKind.wrap .i64 (Prod.fst (List.getD l0 (Int.toNat n2) (Ty.dflt TCmd)))<(4:Int)))(h4:(¬(Prod.fst (List.getD l0 (Int.toNat n2) (Ty.dflt TCmd)):Int)=(1:Int)))(h5:(¬(Prod.fst (List.getD l0 (Int.toNat n2) (Ty.dflt TCmd)):Int)=(2:Int)))(h6:((Prod.fst (List.getD l0 (Int.toNat n2) (Ty.dflt TCmd)):Int)=(3:Int)))(h7:(j4o [.n (Prod.snd (List.getD l0 (Int.toNat n2) (Ty.dflt TCmd))),.n n3,.n n4,.n n5,.l TCmd l6,.n n7,.n n8,.n n9,.l TB l10,.n n11,.l TI l12,.l TQr l13])=(some (0,[.n n14,.n n15,.n n16,.l TCmd l17,.n n18,.n n19,.n n20,.l TB l21,.n n22,.l TI l23,.l TQr l24]))):(h4s [.k 0,.l TCmd l0,.n n1,.n n2,.n n3,.n n4,.n n5,.l TCmd l6,.n n7,.n n8,.n n9,.l TB l10,.n n11,.l TI l12,.l TQr l13]).sel=some (Step.go [.k 0,.l TCmd l0,.n n1,.n (IntKind.wrap .i64 (n2+(1:Int))),.n n14,.n n15,.n n16,.l TCmd l17,.n n18,.n n19,.n n20,.l TB l21,.n n22,.l TI l12,.l TQr l13]):=sP [1]<|sT (dt h0)<|sTo (c:=(inR n2 (List.length l0)))<|sF (bf h1)<|sT (bnt h2)<|sT (dt h3)<|sFs (c:=(decide ((Prod.fst (List.getD l0 (Int.toNat n2) (Ty.dflt TCmd)):Int)=(0:Int))))<|sF (df h4)<|sF (df h5)<|sT (dt h6)<|sP [1]<|sA h7<|sP [1,1,1,1]<|sL
theorem m4m {l0:List (Ty.den TCmd)}{n1 n2 n3 n4 n5:Int}{l6:List (Ty.den TCmd)}{n7 n8 n9:Int}{l10:List (Ty.den TB)}{n11:Int}{l12:List (Ty.den TI)}{l13:List (Ty.den TQr)}(g0:0≤n2)(g1:n1=(l0.length:Int))(h0:(n2<n1))(h1:(¬n2=(8:Int)))(h2:(¬(Prod.fst (List.getD l0 (Int.toNat n2) (Ty.dflt TCmd)):Int)=(0:Int)))(h3:(¬IntKind.wrap .i64 (Prod.fst (List.getD l0 (Int.toNat n2) (Ty.dflt TCmd)))<(4:Int))):(h4s [.k 0,.l TCmd l0,.n n1,.n n2,.n n3,.n n4,.n n5,.l TCmd l6,.n n7,.n n8,.n n9,.l TB l10,.n n11,.l TI l12,.l TQr l13]).sel=some (Step.go [.k 0,.l TCmd l0,.n n1,.n (IntKind.wrap .i64 (n2+(1:Int))),.n n3,.n n4,.n n5,.l TCmd l6,.n n7,.n n8,.n n9,.l TB l10,.n n11,.l TI l12,.l TQr l13]):=sP [1]<|sT (dt h0)<|sTo (c:=(inR n2 (List.length l0)))<|sF (bf h1)<|sT (bnt h2)<|sF (df h3)<|sP [1]<|sL
theorem l4y {l0:List (Ty.den TCmd)}{n1 n2 n3 n4 n5:Int}{l6:List (Ty.den TCmd)}{n7 n8 n9:Int}{l10:List (Ty.den TB)}{n11:Int}{l12:List (Ty.den TI)}{l13:List (Ty.den TQr)}(g0:0≤n2)(g1:n1=(l0.length:Int))(h0:(n2<n1))(h1:(¬n2=(8:Int)))(h2:((Prod.fst (List.getD l0 (Int.toNat n2) (Ty.dflt TCmd)):Int)=(0:Int))):(h4s [.k 0,.l TCmd l0,.n n1,.n n2,.n n3,.n n4,.n n5,.l TCmd l6,.n n7,.n n8,.n n9,.l TB l10,.n n11,.l TI l12,.l TQr l13]).sel=some (Step.go [.k 0,.l TCmd l0,.n n1,.n (IntKind.wrap .i64 (n2+(1:Int))),.n n3,.n n4,.n n5,.l TCmd l6,.n n7,.n n8,.n n9,.l TB l10,.n n11,.l TI l12,.l TQr l13]):=sP [1]<|sT (dt h0)<|sTo (c:=(inR n2 (List.length l0)))<|sF (bf h1)<|sF (bnf h2)<|sP [0,0,1]<|sL
theorem m4u {l0:List (Ty.den TCmd)}{n1 n2 n3 n4 n5:Int}{l6:List (Ty.den TCmd)}{n7 n8 n9:Int}{l10:List (Ty.den TB)}{n11:Int}{l12:List (Ty.den TI)}{l13:List (Ty.den TQr)}(g0:0≤n2)(g1:n1=(l0.length:Int))(h0:(¬n2<n1)):(h4s [.k 0,.l TCmd l0,.n n1,.n n2,.n n3,.n n4,.n n5,.l TCmd l6,.n n7,.n n8,.n n9,.l TB l10,.n n11,.l TI l12,.l TQr l13]).sel=some (Step.stop 0 [.n n3,.n n4,.n n5,.l TCmd l6,.n n7,.n n8,.n n9,.l TB l10,.n n11,.l TI l12,.l TQr l13]):=sP [1]<|sF (df h0)<|sP [1]<|sL
def S_i34:BSh:={args:=[.ptr 0 0],blks:=[cyB 1 0,mB 9],log:=[0],outs:=[(.tup [],[cyB 1 0,mB 9])]}
def ev_i34:List Dat→Tree (Nat×List Dat):=evF d4a 34 (lsM [(2,i4t)] 2) S_i34
theorem q4i: ∃op,IsF ev_i34 34 S_i34 op:=bxF z3z (lsE (lsC (h3i f4x) (atF) lsZ))
def k4v:OpA:=opF q4i
theorem o4y {n0 n1 n2:Int}{l3:List (Ty.den TCmd)}{n4 n5 n6:Int}{l7:List (Ty.den TB)}{n8:Int}{l9:List (Ty.den TI)}{l10:List (Ty.den TQr)}{n11 n12 n13:Int}{l14:List (Ty.den TCmd)}{n15 n16 n17:Int}{l18:List (Ty.den TB)}{n19:Int}{l20:List (Ty.den TI)}{l21:List (Ty.den TQr)}(h0:(j4t [.k 0,.l TCmd l3,.n (↑(List.length l3):Int),.n (0:Int),.n n0,.n n1,.n n2,.l TCmd l3,.n n4,.n n5,.n n6,.l TB l7,.n n8,.l TI l9,.l TQr l10])=(some (0,[.n n11,.n n12,.n n13,.l TCmd l14,.n n15,.n n16,.n n17,.l TB l18,.n n19,.l TI l20,.l TQr l21]))):k4v [.n n0,.n n1,.n n2,.l TCmd l3,.n n4,.n n5,.n n6,.l TB l7,.n n8,.l TI l9,.l TQr l10]=some ((0,[.n n11,.n n12,.n n13,.l TCmd l14,.n n15,.n n16,.n n17,.l TB l18,.n n19,.l TI l20,.l TQr l21])):=h3h q4i (sA h0<|sP [1,1]<|sL)
theorem o4c {n0 n1 n2:Int}{l3:List (Ty.den TCmd)}{n4 n5 n6:Int}{l7:List (Ty.den TB)}{n8:Int}{l9:List (Ty.den TI)}{l10:List (Ty.den TQr)}{n11 n12 n13:Int}{l14:List (Ty.den TCmd)}{n15 n16 n17:Int}{l18:List (Ty.den TB)}{n19:Int}{l20:List (Ty.den TI)}{l21:List (Ty.den TQr)}(h0:(j4t [.k 0,.l TCmd l3,.n (↑(List.length l3):Int),.n (0:Int),.n n0,.n n1,.n n2,.l TCmd l3,.n n4,.n n5,.n n6,.l TB l7,.n n8,.l TI l9,.l TQr l10])=(some (1,[.n n11,.n n12,.n n13,.l TCmd l14,.n n15,.n n16,.n n17,.l TB l18,.n n19,.l TI l20,.l TQr l21]))):k4v [.n n0,.n n1,.n n2,.l TCmd l3,.n n4,.n n5,.n n6,.l TB l7,.n n8,.l TI l9,.l TQr l10]=some ((0,[.n n11,.n n12,.n n13,.l TCmd l14,.n n15,.n n16,.n n17,.l TB l18,.n n19,.l TI l20,.l TQr l21])):=h3h q4i (sA h0<|sP [0,1,1]<|sL)
def d4u:FuncId→Option a0q:=e1c 34 [S_i34.k k4v] d4a
theorem a4s:CsOk Try.prog d4u:=csA1 z3z q4i
def S_i70:BSh:={args:=[.ptr 0 0,.int .i64 0],blks:=[cyB 1 1,mB 10],log:=[0],outs:=[(.tup [],[cyB 1 0,mB 9])]}
def ev_i70:List Dat→Tree (Nat×List Dat):=evF d4u 70 ls0 S_i70
theorem q4m: ∃op,IsF ev_i70 70 S_i70 op:=bxF a4s (LsOk.none _ _ _)
def k4e:OpA:=opF q4m
theorem p4x {n0 n1 n2 n3:Int}{l4:List (Ty.den TCmd)}{n5 n6 n7:Int}{l8:List (Ty.den TB)}{n9:Int}{l10:List (Ty.den TI)}{l11:List (Ty.den TQr)}{b12:Bool}{n13 n14 n15:Int}{l16:List (Ty.den TCmd)}{n17 n18 n19:Int}{l20:List (Ty.den TB)}{n21:Int}{l22:List (Ty.den TI)}{l23:List (Ty.den TQr)}(h0:(inR n0 (List.length l11)=true))(h1:(j4c [.n (Prod.fst (List.getD l11 (Int.toNat n0) (Ty.dflt TQr))),.n (Prod.fst (Prod.snd (List.getD l11 (Int.toNat n0) (Ty.dflt TQr)))),.l TI (Prod.fst (Prod.snd (Prod.snd (List.getD l11 (Int.toNat n0) (Ty.dflt TQr))))),.l TNd (Prod.fst (Prod.snd (Prod.snd (Prod.snd (List.getD l11 (Int.toNat n0) (Ty.dflt TQr)))))),.l TI (Prod.snd (Prod.snd (Prod.snd (Prod.snd (List.getD l11 (Int.toNat n0) (Ty.dflt TQr)))))),.n n1,.n n2,.n n3,.l TCmd l4,.n n5,.n n6,.n n7,.l TB l8,.n n9,.l TI l10,.l TQr l11])=(some (0,[.b b12,.n n13,.n n14,.n n15,.l TCmd l16,.n n17,.n n18,.n n19,.l TB l20,.n n21,.l TI l22,.l TQr l23])))(h2:(b12=false)):k4e [.n n0,.n n1,.n n2,.n n3,.l TCmd l4,.n n5,.n n6,.n n7,.l TB l8,.n n9,.l TI l10,.l TQr l11]=some ((0,[.n n1,.n n2,.n n3,.l TCmd l4,.n n5,.n n6,.n n7,.l TB l8,.n n9,.l TI l10,.l TQr l11])):=h3h q4m (sT h0<|sP [1]<|sA h1<|sP [1,1]<|sT (nf h2)<|sP [1]<|sL)
theorem p4k {n0 n1 n2 n3:Int}{l4:List (Ty.den TCmd)}{n5 n6 n7:Int}{l8:List (Ty.den TB)}{n9:Int}{l10:List (Ty.den TI)}{l11:List (Ty.den TQr)}{b12:Bool}{n13 n14 n15:Int}{l16:List (Ty.den TCmd)}{n17 n18 n19:Int}{l20:List (Ty.den TB)}{n21:Int}{l22:List (Ty.den TI)}{l23:List (Ty.den TQr)}{n24 n25 n26:Int}(h0:(inR n0 (List.length l11)=true))(h1:(j4c [.n (Prod.fst (List.getD l11 (Int.toNat n0) (Ty.dflt TQr))),.n (Prod.fst (Prod.snd (List.getD l11 (Int.toNat n0) (Ty.dflt TQr)))),.l TI (Prod.fst (Prod.snd (Prod.snd (List.getD l11 (Int.toNat n0) (Ty.dflt TQr))))),.l TNd (Prod.fst (Prod.snd (Prod.snd (Prod.snd (List.getD l11 (Int.toNat n0) (Ty.dflt TQr)))))),.l TI (Prod.snd (Prod.snd (Prod.snd (Prod.snd (List.getD l11 (Int.toNat n0) (Ty.dflt TQr)))))),.n n1,.n n2,.n n3,.l TCmd l4,.n n5,.n n6,.n n7,.l TB l8,.n n9,.l TI l10,.l TQr l11])=(some (0,[.b b12,.n n13,.n n14,.n n15,.l TCmd l16,.n n17,.n n18,.n n19,.l TB l20,.n n21,.l TI l22,.l TQr l23])))(h2:(b12=true))(h3:(y3y [.n n5,.n n0,.b false])=(some (0,[.n n24])))(h4:(y3y [.n n6,.n n0,.b false])=(some (0,[.n n25])))(h5:(y3y [.n n7,.n n0,.b false])=(some (0,[.n n26])))(h6:(inR n0 64=true)):k4e [.n n0,.n n1,.n n2,.n n3,.l TCmd l4,.n n5,.n n6,.n n7,.l TB l8,.n n9,.l TI l10,.l TQr l11]=some ((0,[.n n1,.n n2,.n n3,.l TCmd l4,.n n24,.n n25,.n n26,.l TB (List.set l8 (Int.toNat n0) (0:Int)),.n n9,.l TI l10,.l TQr l11])):=h3h q4m (sT h0<|sP [1]<|sA h1<|sP [1,1]<|sF (nt h2)<|sA h3<|sP [1,1]<|sA h4<|sP [1,1]<|sA h5<|sP [1,1]<|sT h6<|sP [1]<|sL)
def g4i:FuncId→Option a0q:=e1c 70 [S_i70.k k4e] d4u
theorem a4y:CsOk Try.prog g4i:=csA1 a4s q4m
def S_i35:BSh:={args:=[.ptr 0 0,.int .i64 0,.int .u64 1],blks:=[cyB 1 2,mB 11],log:=[0],outs:=[(.tup [],[cyB 1 0,mB 9])]}
def ev_i35:List Dat→Tree (Nat×List Dat):=evF g4i 35 ls0 S_i35
theorem k4t: ∃op,IsF ev_i35 35 S_i35 op:=bxF a4y (LsOk.none _ _ _)
def j4h:OpA:=opF k4t
theorem o4t {n0 n1 n2 n3 n4:Int}{l5:List (Ty.den TCmd)}{n6 n7 n8:Int}{l9:List (Ty.den TB)}{n10:Int}{l11:List (Ty.den TI)}{l12:List (Ty.den TQr)}{b13:Bool}(h0:(inR n0 (List.length l12)=true))(h1:(w3v [.n n6,.n n0])=(some (0,[.b b13])))(h2:(b13=false)):j4h [.n n0,.n n1,.n n2,.n n3,.n n4,.l TCmd l5,.n n6,.n n7,.n n8,.l TB l9,.n n10,.l TI l11,.l TQr l12]=some ((0,[.n n2,.n n3,.n n4,.l TCmd l5,.n n6,.n n7,.n n8,.l TB l9,.n n10,.l TI l11,.l TQr l12])):=h3h k4t (sT h0<|sA h1<|sP [1,1]<|sT (nf h2)<|sP [1]<|sL)
theorem p4m {n0 n1 n2 n3 n4:Int}{l5:List (Ty.den TCmd)}{n6 n7 n8:Int}{l9:List (Ty.den TB)}{n10:Int}{l11:List (Ty.den TI)}{l12:List (Ty.den TQr)}{b13 b14:Bool}{n15 n16 n17:Int}{l18:List (Ty.den TCmd)}{n19 n20 n21:Int}{l22:List (Ty.den TB)}{n23:Int}{l24:List (Ty.den TI)}{l25:List (Ty.den TQr)}(h0:(inR n0 (List.length l12)=true))(h1:(w3v [.n n6,.n n0])=(some (0,[.b b13])))(h2:(b13=true))(h3:(w3v [.n n1,.n n0])=(some (0,[.b b14])))(h4:(b14=true))(h5:(k4e [.n n0,.n n2,.n n3,.n n4,.l TCmd l5,.n n6,.n n7,.n n8,.l TB l9,.n n10,.l TI l11,.l TQr l12])=(some (0,[.n n15,.n n16,.n n17,.l TCmd l18,.n n19,.n n20,.n n21,.l TB l22,.n n23,.l TI l24,.l TQr l25]))):j4h [.n n0,.n n1,.n n2,.n n3,.n n4,.l TCmd l5,.n n6,.n n7,.n n8,.l TB l9,.n n10,.l TI l11,.l TQr l12]=some ((0,[.n n15,.n n16,.n n17,.l TCmd l18,.n n19,.n n20,.n n21,.l TB l22,.n n23,.l TI l11,.l TQr l12])):=h3h k4t (sT h0<|sA h1<|sP [1,1]<|sF (nt h2)<|sA h3<|sP [1,1]<|sT h4<|sP [1]<|sA h5<|sP [1,1,1]<|sL)
theorem o4n {n0 n1 n2 n3 n4:Int}{l5:List (Ty.den TCmd)}{n6 n7 n8:Int}{l9:List (Ty.den TB)}{n10:Int}{l11:List (Ty.den TI)}{l12:List (Ty.den TQr)}{b13 b14 b15:Bool}{n16:Int}(h0:(inR n0 (List.length l12)=true))(h1:(w3v [.n n6,.n n0])=(some (0,[.b b13])))(h2:(b13=true))(h3:(w3v [.n n1,.n n0])=(some (0,[.b b14])))(h4:(b14=false))(h5:(w3v [.n n2,.n (Prod.fst (Prod.snd (List.getD l12 (Int.toNat n0) (Ty.dflt TQr))))])=(some (0,[.b b15])))(h6:((!b15)=false))(h7:(y3y [.n n7,.n n0,.b true])=(some (0,[.n n16]))):j4h [.n n0,.n n1,.n n2,.n n3,.n n4,.l TCmd l5,.n n6,.n n7,.n n8,.l TB l9,.n n10,.l TI l11,.l TQr l12]=some ((0,[.n n2,.n n3,.n n4,.l TCmd l5,.n n6,.n n16,.n n8,.l TB l9,.n n10,.l TI l11,.l TQr l12])):=h3h k4t (sT h0<|sA h1<|sP [1,1]<|sF (nt h2)<|sA h3<|sP [1,1]<|sF h4<|sP [1]<|sA h5<|sP [1,1,1]<|sT (nf h6)<|sA h7<|sP [1,1,1]<|sL)
theorem p4j {n0 n1 n2 n3 n4:Int}{l5:List (Ty.den TCmd)}{n6 n7 n8:Int}{l9:List (Ty.den TB)}{n10:Int}{l11:List (Ty.den TI)}{l12:List (Ty.den TQr)}{b13 b14 b15 b16:Bool}(h0:(inR n0 (List.length l12)=true))(h1:(w3v [.n n6,.n n0])=(some (0,[.b b13])))(h2:(b13=true))(h3:(w3v [.n n1,.n n0])=(some (0,[.b b14])))(h4:(b14=false))(h5:(w3v [.n n2,.n (Prod.fst (Prod.snd (List.getD l12 (Int.toNat n0) (Ty.dflt TQr))))])=(some (0,[.b b15])))(h6:((!b15)=true))(h7:(w3v [.n n8,.n n0])=(some (0,[.b b16])))(h8:(b16=false)):j4h [.n n0,.n n1,.n n2,.n n3,.n n4,.l TCmd l5,.n n6,.n n7,.n n8,.l TB l9,.n n10,.l TI l11,.l TQr l12]=some ((0,[.n n2,.n n3,.n n4,.l TCmd l5,.n n6,.n n7,.n n8,.l TB l9,.n n10,.l TI l11,.l TQr l12])):=h3h k4t (sT h0<|sA h1<|sP [1,1]<|sF (nt h2)<|sA h3<|sP [1,1]<|sF h4<|sP [1]<|sA h5<|sP [1,1,1]<|sF (nt h6)<|sA h7<|sP [1,1]<|sT (nf h8)<|sP [1]<|sL)
theorem p4f {n0 n1 n2 n3 n4:Int}{l5:List (Ty.den TCmd)}{n6 n7 n8:Int}{l9:List (Ty.den TB)}{n10:Int}{l11:List (Ty.den TI)}{l12:List (Ty.den TQr)}{b13 b14 b15 b16:Bool}(h0:(inR n0 (List.length l12)=true))(h1:(w3v [.n n6,.n n0])=(some (0,[.b b13])))(h2:(b13=true))(h3:(w3v [.n n1,.n n0])=(some (0,[.b b14])))(h4:(b14=false))(h5:(w3v [.n n2,.n (Prod.fst (Prod.snd (List.getD l12 (Int.toNat n0) (Ty.dflt TQr))))])=(some (0,[.b b15])))(h6:((!b15)=true))(h7:(w3v [.n n8,.n n0])=(some (0,[.b b16])))(h8:(b16=true))(h9:(inR n0 64=true))(h10:((List.getD l9 (Int.toNat n0) (0:Int):Int)>(0:Int))):j4h [.n n0,.n n1,.n n2,.n n3,.n n4,.l TCmd l5,.n n6,.n n7,.n n8,.l TB l9,.n n10,.l TI l11,.l TQr l12]=some ((0,[.n n2,.n n3,.n n4,.l TCmd l5,.n n6,.n n7,.n n8,.l TB (List.set l9 (Int.toNat n0) (IntKind.wrap .u8 ((List.getD l9 (Int.toNat n0) (0:Int):Int)-(1:Int)))),.n n10,.l TI l11,.l TQr l12])):=h3h k4t (sT h0<|sA h1<|sP [1,1]<|sF (nt h2)<|sA h3<|sP [1,1]<|sF h4<|sP [1]<|sA h5<|sP [1,1,1]<|sF (nt h6)<|sA h7<|sP [1,1]<|sF (nt h8)<|sT h9<|sT (dt h10)<|sT h9<|sT h9<|sP [1,1]<|sL)
theorem p4c {n0 n1 n2 n3 n4:Int}{l5:List (Ty.den TCmd)}{n6 n7 n8:Int}{l9:List (Ty.den TB)}{n10:Int}{l11:List (Ty.den TI)}{l12:List (Ty.den TQr)}{b13 b14 b15 b16:Bool}{n17 n18 n19:Int}{l20:List (Ty.den TCmd)}{n21 n22 n23:Int}{l24:List (Ty.den TB)}{n25:Int}{l26:List (Ty.den TI)}{l27:List (Ty.den TQr)}(h0:(inR n0 (List.length l12)=true))(h1:(w3v [.n n6,.n n0])=(some (0,[.b b13])))(h2:(b13=true))(h3:(w3v [.n n1,.n n0])=(some (0,[.b b14])))(h4:(b14=false))(h5:(w3v [.n n2,.n (Prod.fst (Prod.snd (List.getD l12 (Int.toNat n0) (Ty.dflt TQr))))])=(some (0,[.b b15])))(h6:((!b15)=true))(h7:(w3v [.n n8,.n n0])=(some (0,[.b b16])))(h8:(b16=true))(h9:(inR n0 64=true))(h10:(¬(List.getD l9 (Int.toNat n0) (0:Int):Int)>(0:Int)))(h11:(k4e [.n n0,.n n2,.n n3,.n n4,.l TCmd l5,.n n6,.n n7,.n n8,.l TB l9,.n n10,.l TI l11,.l TQr l12])=(some (0,[.n n17,.n n18,.n n19,.l TCmd l20,.n n21,.n n22,.n n23,.l TB l24,.n n25,.l TI l26,.l TQr l27]))):j4h [.n n0,.n n1,.n n2,.n n3,.n n4,.l TCmd l5,.n n6,.n n7,.n n8,.l TB l9,.n n10,.l TI l11,.l TQr l12]=some ((0,[.n n17,.n n18,.n n19,.l TCmd l20,.n n21,.n n22,.n n23,.l TB l24,.n n25,.l TI l11,.l TQr l12])):=h3h k4t (sT h0<|sA h1<|sP [1,1]<|sF (nt h2)<|sA h3<|sP [1,1]<|sF h4<|sP [1]<|sA h5<|sP [1,1,1]<|sF (nt h6)<|sA h7<|sP [1,1]<|sF (nt h8)<|sT h9<|sF (df h10)<|sP [1]<|sA h11<|sP [1,1,1]<|sL)
def d4b:FuncId→Option a0q:=e1c 35 [S_i35.k j4h] g4i
theorem z3t:CsOk Try.prog d4b:=csA1 a4y k4t
def f4l:LSh:={K:=2,log:=[],ins:=[(sh 77 [(0,.ptr 0 0),(2,.ptr 2 0),(3,.ptr 3 0),(6,fnC 73 [.ptr 4 0,.ptr 5 0]),(31,.imm TQr 0),(32,.int .i64 1),(33,.int .i64 2)],[cyB 1 3,mB 12,ouB 14,ouB 16,wcB 18,wcB 19])],nils:=[],outs:=[(.exit 0,sh 77 [(2,.ptr 2 0),(3,.ptr 3 0)],[cyB 1 0,mB 9,ouB 11,ouB 13])],cv:=[]}
def i4q:List Dat→Tree Step:=evL d4b 36 5 ls0 f4l
theorem e4x: ∃op,IsL i4q 36 5 f4l op:=bxL z3t (LsOk.none _ _ _)
def k4k:OpA:=opL e4x
theorem l4z (env:List Dat):k4k env=a0b i4q FU env:=h3j e4x env
abbrev i4m:MBox:=boxL e4x
theorem m4h {l0:List (Ty.den TQr)}{n1 n2 n3 n4 n5:Int}{l6:List (Ty.den TCmd)}{n7 n8 n9:Int}{l10:List (Ty.den TB)}{n11:Int}{l12:List (Ty.den TI)}{l13:List (Ty.den TQr)}{n14 n15 n16 n17 n18 n19:Int}{b20 b21:Bool}{n22 n23 n24:Int}{l25:List (Ty.den TCmd)}{n26 n27 n28:Int}{l29:List (Ty.den TB)}{n30:Int}{l31:List (Ty.den TI)}{l32:List (Ty.den TQr)}{n33 n34 n35 n36:Int}(g0:0≤n2)(g1:n1=(l0.length:Int))(h0:(n2<n1))(h1:(w3v [.n (b0l IntKind.u64 (b0l IntKind.u64 n7 n8) n9),.n n2])=(some (0,[.b b20])))(h2:(b20=true))(h3:(j4c [.n (Prod.fst (List.getD l0 (Int.toNat n2) (Ty.dflt TQr))),.n (Prod.fst (Prod.snd (List.getD l0 (Int.toNat n2) (Ty.dflt TQr)))),.l TI (Prod.fst (Prod.snd (Prod.snd (List.getD l0 (Int.toNat n2) (Ty.dflt TQr))))),.l TNd (Prod.fst (Prod.snd (Prod.snd (Prod.snd (List.getD l0 (Int.toNat n2) (Ty.dflt TQr)))))),.l TI (Prod.snd (Prod.snd (Prod.snd (Prod.snd (List.getD l0 (Int.toNat n2) (Ty.dflt TQr)))))),.n n3,.n n4,.n n5,.l TCmd l6,.n n7,.n n8,.n n9,.l TB l10,.n n11,.l TI l12,.l TQr l13])=(some (0,[.b b21,.n n22,.n n23,.n n24,.l TCmd l25,.n n26,.n n27,.n n28,.l TB l29,.n n30,.l TI l31,.l TQr l32])))(h4:(b21=true))(h5:(l4l [.l TNd (Prod.fst (Prod.snd (Prod.snd (Prod.snd (List.getD l0 (Int.toNat n2) (Ty.dflt TQr)))))),.n n18,.n n19])=(some (0,[.n n33,.n n34,.n n35])))(h6:(y3y [.n n16,.n n2,.b !decide (n33≥(0:Int))])=(some (0,[.n n36]))):(i4q [.k 0,.l TQr l0,.n n1,.n n2,.n n3,.n n4,.n n5,.l TCmd l6,.n n7,.n n8,.n n9,.l TB l10,.n n11,.l TI l12,.l TQr l13,.n n14,.n n15,.n n16,.n n17,.n n18,.n n19]).sel=some (Step.go [.k 0,.l TQr l0,.n n1,.n (IntKind.wrap .i64 (n2+(1:Int))),.n n3,.n n4,.n n5,.l TCmd l6,.n n7,.n n8,.n n9,.l TB l10,.n n11,.l TI l12,.l TQr l13,.n n14,.n n15,.n n36,.n n17,.n n18,.n n19]):=sP [1]<|sT (dt h0)<|sTo (c:=(inR n2 (List.length l0)))<|sA h1<|sP [1,1]<|sT h2<|sP [1]<|sA h3<|sP [1,1,1]<|sT h4<|sP [1,1]<|sA h5<|sP [1,1,1]<|sA h6<|sP [1,1,1,1]<|sL
theorem m4b {l0:List (Ty.den TQr)}{n1 n2 n3 n4 n5:Int}{l6:List (Ty.den TCmd)}{n7 n8 n9:Int}{l10:List (Ty.den TB)}{n11:Int}{l12:List (Ty.den TI)}{l13:List (Ty.den TQr)}{n14 n15 n16 n17 n18 n19:Int}{b20 b21:Bool}{n22 n23 n24:Int}{l25:List (Ty.den TCmd)}{n26 n27 n28:Int}{l29:List (Ty.den TB)}{n30:Int}{l31:List (Ty.den TI)}{l32:List (Ty.den TQr)}{n33:Int}(g0:0≤n2)(g1:n1=(l0.length:Int))(h0:(n2<n1))(h1:(w3v [.n (b0l IntKind.u64 (b0l IntKind.u64 n7 n8) n9),.n n2])=(some (0,[.b b20])))(h2:(b20=true))(h3:(j4c [.n (Prod.fst (List.getD l0 (Int.toNat n2) (Ty.dflt TQr))),.n (Prod.fst (Prod.snd (List.getD l0 (Int.toNat n2) (Ty.dflt TQr)))),.l TI (Prod.fst (Prod.snd (Prod.snd (List.getD l0 (Int.toNat n2) (Ty.dflt TQr))))),.l TNd (Prod.fst (Prod.snd (Prod.snd (Prod.snd (List.getD l0 (Int.toNat n2) (Ty.dflt TQr)))))),.l TI (Prod.snd (Prod.snd (Prod.snd (Prod.snd (List.getD l0 (Int.toNat n2) (Ty.dflt TQr)))))),.n n3,.n n4,.n n5,.l TCmd l6,.n n7,.n n8,.n n9,.l TB l10,.n n11,.l TI l12,.l TQr l13])=(some (0,[.b b21,.n n22,.n n23,.n n24,.l TCmd l25,.n n26,.n n27,.n n28,.l TB l29,.n n30,.l TI l31,.l TQr l32])))(h4:(b21=false))(h5:(y3y [.n n16,.n n2,.b false])=(some (0,[.n n33]))):(i4q [.k 0,.l TQr l0,.n n1,.n n2,.n n3,.n n4,.n n5,.l TCmd l6,.n n7,.n n8,.n n9,.l TB l10,.n n11,.l TI l12,.l TQr l13,.n n14,.n n15,.n n16,.n n17,.n n18,.n n19]).sel=some (Step.go [.k 0,.l TQr l0,.n n1,.n (IntKind.wrap .i64 (n2+(1:Int))),.n n3,.n n4,.n n5,.l TCmd l6,.n n7,.n n8,.n n9,.l TB l10,.n n11,.l TI l12,.l TQr l13,.n n14,.n n15,.n n33,.n n17,.n n18,.n n19]):=sP [1]<|sT (dt h0)<|sTo (c:=(inR n2 (List.length l0)))<|sA h1<|sP [1,1]<|sT h2<|sP [1]<|sA h3<|sP [1,1,1]<|sF h4<|sP [0]<|sA h5<|sP [1,1,1,1]<|sL
theorem m4o {l0:List (Ty.den TQr)}{n1 n2 n3 n4 n5:Int}{l6:List (Ty.den TCmd)}{n7 n8 n9:Int}{l10:List (Ty.den TB)}{n11:Int}{l12:List (Ty.den TI)}{l13:List (Ty.den TQr)}{n14 n15 n16 n17 n18 n19:Int}{b20:Bool}{n21:Int}(g0:0≤n2)(g1:n1=(l0.length:Int))(h0:(n2<n1))(h1:(w3v [.n (b0l IntKind.u64 (b0l IntKind.u64 n7 n8) n9),.n n2])=(some (0,[.b b20])))(h2:(b20=false))(h3:(y3y [.n n16,.n n2,.b false])=(some (0,[.n n21]))):(i4q [.k 0,.l TQr l0,.n n1,.n n2,.n n3,.n n4,.n n5,.l TCmd l6,.n n7,.n n8,.n n9,.l TB l10,.n n11,.l TI l12,.l TQr l13,.n n14,.n n15,.n n16,.n n17,.n n18,.n n19]).sel=some (Step.go [.k 0,.l TQr l0,.n n1,.n (IntKind.wrap .i64 (n2+(1:Int))),.n n3,.n n4,.n n5,.l TCmd l6,.n n7,.n n8,.n n9,.l TB l10,.n n11,.l TI l12,.l TQr l13,.n n14,.n n15,.n n21,.n n17,.n n18,.n n19]):=sP [1]<|sT (dt h0)<|sTo (c:=(inR n2 (List.length l0)))<|sA h1<|sP [1,1]<|sF h2<|sP [0,1,0,0]<|sA h3<|sP [1,1,1,1]<|sL
theorem m4v {l0:List (Ty.den TQr)}{n1 n2 n3 n4 n5:Int}{l6:List (Ty.den TCmd)}{n7 n8 n9:Int}{l10:List (Ty.den TB)}{n11:Int}{l12:List (Ty.den TI)}{l13:List (Ty.den TQr)}{n14 n15 n16 n17 n18 n19:Int}(g0:0≤n2)(g1:n1=(l0.length:Int))(h0:(¬n2<n1)):(i4q [.k 0,.l TQr l0,.n n1,.n n2,.n n3,.n n4,.n n5,.l TCmd l6,.n n7,.n n8,.n n9,.l TB l10,.n n11,.l TI l12,.l TQr l13,.n n14,.n n15,.n n16,.n n17,.n n18,.n n19]).sel=some (Step.stop 0 [.n n3,.n n4,.n n5,.l TCmd l6,.n n7,.n n8,.n n9,.l TB l10,.n n11,.l TI l12,.l TQr l13,.n n14,.n n15,.n n16,.n n17]):=sP [1]<|sF (df h0)<|sP [1]<|sL
def S_i36:BSh:={args:=[.ptr 0 0],blks:=[cyB 1 0,mB 9],log:=[],outs:=[(ouV 0,[cyB 1 2,mB 11])]}
def ev_i36:List Dat→Tree (Nat×List Dat):=evF d4b 36 (lsM [(5,i4m)] 2) S_i36
theorem e_i36: ∃op,IsF ev_i36 36 S_i36 op:=bxF z3t (lsE (lsC (h3i e4x) (atF) lsZ))
def n4n:OpA:=opF e_i36
theorem p4e {n0 n1 n2:Int}{l3:List (Ty.den TCmd)}{n4 n5 n6:Int}{l7:List (Ty.den TB)}{n8:Int}{l9:List (Ty.den TI)}{l10:List (Ty.den TQr)}{n11 n12 n13:Int}{l14:List (Ty.den TCmd)}{n15 n16 n17:Int}{l18:List (Ty.den TB)}{n19:Int}{l20:List (Ty.den TI)}{l21:List (Ty.den TQr)}{n22 n23 n24 n25:Int}(h0:(k4k [.k 0,.l TQr l10,.n (↑(List.length l10):Int),.n (0:Int),.n n0,.n n1,.n n2,.l TCmd l3,.n n4,.n n5,.n n6,.l TB l7,.n n8,.l TI l9,.l TQr l10,.n (0:Int),.n (0:Int),.n (0:Int),.n n8,.n (b0l IntKind.u32 n2 n1),.n (b0l IntKind.u32 n1 n2)])=(some (0,[.n n11,.n n12,.n n13,.l TCmd l14,.n n15,.n n16,.n n17,.l TB l18,.n n19,.l TI l20,.l TQr l21,.n n22,.n n23,.n n24,.n n25]))):n4n [.n n0,.n n1,.n n2,.l TCmd l3,.n n4,.n n5,.n n6,.l TB l7,.n n8,.l TI l9,.l TQr l10]=some ((0,[.n n24,.n n25,.n n11,.n n12,.n n13,.l TCmd l14,.n n15,.n n16,.n n17,.l TB l18,.n n19,.l TI l20,.l TQr l21])):=h3h e_i36 (sP [1,1,1]<|sA h0<|sP [1,1]<|sL)
def d4n:FuncId→Option a0q:=e1c 36 [S_i36.k n4n] d4b
theorem z3x:CsOk Try.prog d4n:=csA1 z3t e_i36
def f4p:LSh:={K:=1,log:=[],ins:=[(sh 40 [(0,.ptr 0 0),(6,.ptr 1 0),(7,.ptr 2 0),(8,.ptr 3 0),(9,.int .u64 0),(29,.int .i64 1),(30,.int .i64 2)],[mB 3,stB 5,ouB 10,cyB 0 12])],nils:=[],outs:=[(.exit 0,sh 40 [(0,.ptr 0 0),(6,.ptr 1 0),(7,.ptr 2 0),(8,.ptr 3 0)],[mB 0,stB 2,ouB 7,cyB 0 9])],cv:=[]}
def h4g:List Dat→Tree Step:=evL d4n 13 7 ls0 f4p
theorem e4p: ∃op,IsL h4g 13 7 f4p op:=bxL z3x (LsOk.none _ _ _)
def k4j:OpA:=opL e4p
theorem n4f (env:List Dat):k4j env=a0b h4g FU env:=h3j e4p env
abbrev h4k:MBox:=boxL e4p
theorem m4p {n0 n1 n2:Int}{l3:List (Ty.den TI)}{l4:List (Ty.den TQr)}{n5 n6 n7:Int}{l8:List (Ty.den TB)}{n9 n10 n11 n12 n13 n14:Int}{l15:List (Ty.den TCmd)}{n16 n17 n18:Int}{l19:List (Ty.den TB)}{n20 n21 n22 n23:Int}{l24:List (Ty.den TCmd)}{n25 n26 n27:Int}{l28:List (Ty.den TB)}{n29:Int}{l30:List (Ty.den TI)}{l31:List (Ty.den TQr)}(g0:0≤n2)(h0:(n2<n1))(h1:(j4h [.n n2,.n n0,.n n12,.n n13,.n n14,.l TCmd l15,.n n16,.n n17,.n n18,.l TB l19,.n n20,.l TI l3,.l TQr l4])=(some (0,[.n n21,.n n22,.n n23,.l TCmd l24,.n n25,.n n26,.n n27,.l TB l28,.n n29,.l TI l30,.l TQr l31]))):(h4g [.k 0,.n n0,.n n1,.n n2,.l TI l3,.l TQr l4,.n n5,.n n6,.n n7,.l TB l8,.n n9,.n n10,.n n11,.n n12,.n n13,.n n14,.l TCmd l15,.n n16,.n n17,.n n18,.l TB l19,.n n20]).sel=some (Step.go [.k 0,.n n0,.n n1,.n (IntKind.wrap .i64 (n2+(1:Int))),.l TI l3,.l TQr l4,.n n5,.n n6,.n n7,.l TB l8,.n n9,.n n10,.n n11,.n n21,.n n22,.n n23,.l TCmd l24,.n n25,.n n26,.n n27,.l TB l28,.n n29]):=sP [1]<|sT (dt h0)<|sP [1]<|sA h1<|sP [1,1,1]<|sL
theorem m4t {n0 n1 n2:Int}{l3:List (Ty.den TI)}{l4:List (Ty.den TQr)}{n5 n6 n7:Int}{l8:List (Ty.den TB)}{n9 n10 n11 n12 n13 n14:Int}{l15:List (Ty.den TCmd)}{n16 n17 n18:Int}{l19:List (Ty.den TB)}{n20:Int}(g0:0≤n2)(h0:(¬n2<n1)):(h4g [.k 0,.n n0,.n n1,.n n2,.l TI l3,.l TQr l4,.n n5,.n n6,.n n7,.l TB l8,.n n9,.n n10,.n n11,.n n12,.n n13,.n n14,.l TCmd l15,.n n16,.n n17,.n n18,.l TB l19,.n n20]).sel=some (Step.stop 0 [.l TI l3,.l TQr l4,.n n5,.n n6,.n n7,.l TB l8,.n n9,.n n10,.n n11,.n n12,.n n13,.n n14,.l TCmd l15,.n n16,.n n17,.n n18,.l TB l19,.n n20]):=sP [1]<|sF (df h0)<|sP [1]<|sL
def S_i13:BSh:={args:=[.ptr 0 0,stV 0,ipV 5],blks:=[mB 9],log:=[],outs:=[(.tup [stV 0,ouV 5],[mB 7])]}
def ev_i13:List Dat→Tree (Nat×List Dat):=evF d4n 13 (lsM [(7,h4k)] 1) S_i13
theorem e_i13: ∃op,IsF ev_i13 13 S_i13 op:=bxF z3x (lsE (lsC (h3i e4p) (atF) lsZ))
def n4i:OpA:=opF e_i13
theorem p4w {n0 n1 n2:Int}{l3:List (Ty.den TB)}{n4 n5 n6 n7:Int}{l8:List (Ty.den TCmd)}{l9:List (Ty.den TI)}{l10:List (Ty.den TQr)}{n11 n12 n13:Int}{l14:List (Ty.den TB)}{n15:Int}{l16:List (Ty.den TI)}{l17:List (Ty.den TQr)}{n18 n19 n20:Int}{l21:List (Ty.den TCmd)}{n22 n23 n24:Int}{l25:List (Ty.den TB)}{n26:Int}{l27:List (Ty.den TI)}{l28:List (Ty.den TQr)}{l29:List (Ty.den TI)}{l30:List (Ty.den TQr)}{n31 n32 n33:Int}{l34:List (Ty.den TB)}{n35 n36 n37 n38 n39 n40:Int}{l41:List (Ty.den TCmd)}{n42 n43 n44:Int}{l45:List (Ty.den TB)}{n46 n47 n48 n49 n50 n51:Int}{l52:List (Ty.den TCmd)}{n53 n54 n55:Int}{l56:List (Ty.den TB)}{n57:Int}{l58:List (Ty.den TI)}{l59:List (Ty.den TQr)}(h0:(y3z [.n n0,.n n1,.n n2,.l TB l3,.n n4,.l TI l9,.l TQr l10])=(some (0,[.n n11,.n n12,.n n13,.l TB l14,.n n15,.l TI l16,.l TQr l17])))(h1:(k4v [.n n5,.n n6,.n n7,.l TCmd l8,.n n11,.n n12,.n n13,.l TB l14,.n n15,.l TI l9,.l TQr l10])=(some (0,[.n n18,.n n19,.n n20,.l TCmd l21,.n n22,.n n23,.n n24,.l TB l25,.n n26,.l TI l27,.l TQr l28])))(h2:(k4j [.k 0,.n n12,.n (↑(List.length l10):Int),.n (0:Int),.l TI l9,.l TQr l10,.n (0:Int),.n (0:Int),.n (0:Int),.l TB (List.replicate 64 (0:Int)),.n (0:Int),.n (0:Int),.n (0:Int),.n n18,.n n19,.n n20,.l TCmd l21,.n n22,.n n23,.n n24,.l TB l25,.n n26])=(some (0,[.l TI l29,.l TQr l30,.n n31,.n n32,.n n33,.l TB l34,.n n35,.n n36,.n n37,.n n38,.n n39,.n n40,.l TCmd l41,.n n42,.n n43,.n n44,.l TB l45,.n n46])))(h3:(n4n [.n n38,.n n39,.n n40,.l TCmd l41,.n n42,.n n43,.n n44,.l TB l45,.n n46,.l TI l29,.l TQr l30])=(some (0,[.n n47,.n n48,.n n49,.n n50,.n n51,.l TCmd l52,.n n53,.n n54,.n n55,.l TB l56,.n n57,.l TI l58,.l TQr l59]))):n4i [.n n0,.n n1,.n n2,.l TB l3,.n n4,.n n5,.n n6,.n n7,.l TCmd l8,.l TI l9,.l TQr l10]=some ((0,[.n n42,.n n43,.n n44,.l TB l45,.n n46,.n n47,.n n48,.l TI l29,.l TQr l30])):=h3h e_i13 (sP [0,1]<|sA h0<|sP [1,1,1,1]<|sA h1<|sP [1,1]<|sA h2<|sP [1,1]<|sA h3<|sP [1,1,1,1]<|sL)
def d4g:FuncId→Option a0q:=e1c 13 [S_i13.k n4i] d4n
theorem z3v:CsOk Try.prog d4g:=csA1 z3x e_i13
def n3m:LSh:={K:=0,log:=[],ins:=[(sh 13 [(0,.int .i64 0),(3,.int .u64 1),(4,.int .i64 2)],[])],nils:=[],outs:=[(.exit 0,sh 13 [(3,.int .u64 0)],[])],cv:=[]}
def i3a:List Dat→Tree Step:=evL d4g 51 3 ls0 n3m
theorem j3d: ∃op,IsL i3a 51 3 n3m op:=bxL z3v (LsOk.none _ _ _)
def l3u:OpA:=opL j3d
theorem l3e (env:List Dat):l3u env=a0b i3a FU env:=h3j j3d env
abbrev o3l:MBox:=boxL j3d
theorem k3z {n0 n1 n2:Int}(h0:(n2<n0)):(i3a [.k 0,.n n0,.n n1,.n n2]).sel=some (Step.go [.k 0,.n n0,.n (IntKind.wrap .u64 (n1*(2:Int))),.n (IntKind.wrap .i64 (n2+(1:Int)))]):=sP [1]<|sT (dt h0)<|sP [1]<|sL
theorem l3c {n0 n1 n2:Int}(h0:(¬n2<n0)):(i3a [.k 0,.n n0,.n n1,.n n2]).sel=some (Step.stop 0 [.n n1]):=sP [1]<|sF (df h0)<|sP [1]<|sL
def S_q31:BSh:={args:=[.int .i64 0],blks:=[],log:=[],outs:=[(.int .u64 0,[])]}
def ev_q31:List Dat→Tree (Nat×List Dat):=evF d4g 51 (lsM [(3,o3l)] 0) S_q31
theorem e_q31: ∃op,IsF ev_q31 51 S_q31 op:=bxF z3v (lsE (lsC (h3i j3d) (atF) lsZ))
def f1y:OpA:=opF e_q31
theorem m3t {n0 n1:Int}(h0:(l3u [.k 0,.n n0,.n (1:Int),.n (0:Int)])=(some (0,[.n n1]))):f1y [.n n0]=some ((0,[.n n1])):=h3h e_q31 (sA h0<|sP [1,1]<|sL)
def p2s:FuncId→Option a0q:=a0s 51 (S_q31.k f1y) d4g
theorem q1c:CsOk Try.prog p2s:=csL1 z3v e_q31
def S_q11:BSh:={args:=[.int .u64 0,.int .i64 1],blks:=[],log:=[],outs:=[(.bool 0,[])]}
def ev_q11:List Dat→Tree (Nat×List Dat):=evF p2s 23 ls0 S_q11
theorem o3c: ∃op,IsF ev_q11 23 S_q11 op:=bxF q1c (LsOk.none _ _ _)
def a1u:OpA:=opF o3c
theorem m3u {n0 n1 n2:Int}(h0:(n1≥(0:Int)))(h1:(n1≤(63:Int)))(h2:(f1y [.n n1])=(some (0,[.n n2])))(h3:(¬n2=(0:Int))):a1u [.n n0,.n n1]=some ((0,[.b (Int.tmod (IntKind.wrap .u64 (Int.tdiv n0 n2)) (2:Int)==(1:Int))])):=h3h o3c (sT (dt h0)<|sT (dt h1)<|sA h2<|sP [1,1]<|sT (nf (df h3))<|sP [1,1]<|sL)
theorem n3v {n0 n1:Int}(h0:(n1≥(0:Int)))(h1:(¬n1≤(63:Int))):a1u [.n n0,.n n1]=some ((0,[.b false])):=h3h o3c (sT (dt h0)<|sF (df h1)<|sP [0,1]<|sL)
theorem n3s {n0 n1:Int}(h0:(¬n1≥(0:Int))):a1u [.n n0,.n n1]=some ((0,[.b false])):=h3h o3c (sF (df h0)<|sP [0,0,0,1]<|sL)
def i2o:FuncId→Option a0q:=a0s 23 (S_q11.k a1u) p2s
theorem m1y:CsOk Try.prog i2o:=csL1 q1c o3c
def S_q13:BSh:={args:=[.int .u64 0,.int .i64 1],blks:=[],log:=[],outs:=[(.int .u64 0,[])]}
def ev_q13:List Dat→Tree (Nat×List Dat):=evF i2o 80 ls0 S_q13
theorem m3a: ∃op,IsF ev_q13 80 S_q13 op:=bxF m1y (LsOk.none _ _ _)
def o1n:OpA:=opF m3a
theorem m3j {n0 n1:Int}(h0:(n1<(0:Int))):o1n [.n n0,.n n1]=some ((0,[.n n0])):=h3h m3a (sT (dt h0)<|sP [1,1,1,1,1]<|sL)
theorem o3f {n0 n1:Int}(h0:(¬n1<(0:Int)))(h1:(n1>(63:Int))):o1n [.n n0,.n n1]=some ((0,[.n n0])):=h3h m3a (sF (df h0)<|sT (dt h1)<|sP [1,1,1]<|sL)
theorem o3d {n0 n1:Int}{b2:Bool}(h0:(¬n1<(0:Int)))(h1:(¬n1>(63:Int)))(h2:(a1u [.n n0,.n n1])=(some (0,[.b b2])))(h3:(b2=true)):o1n [.n n0,.n n1]=some ((0,[.n n0])):=h3h m3a (sF (df h0)<|sF (df h1)<|sA h2<|sP [1,1]<|sT h3<|sP [1]<|sL)
theorem n3k {n0 n1:Int}{b2:Bool}{n3:Int}(h0:(¬n1<(0:Int)))(h1:(¬n1>(63:Int)))(h2:(a1u [.n n0,.n n1])=(some (0,[.b b2])))(h3:(b2=false))(h4:(f1y [.n n1])=(some (0,[.n n3]))):o1n [.n n0,.n n1]=some ((0,[.n (IntKind.wrap .u64 (n0+n3))])):=h3h m3a (sF (df h0)<|sF (df h1)<|sA h2<|sP [1,1]<|sF h3<|sA h4<|sP [1,1,1]<|sL)
def y1c:FuncId→Option a0q:=a0s 80 (S_q13.k o1n) i2o
theorem c1e:CsOk Try.prog y1c:=csL1 m1y m3a
def m3z:LSh:={K:=0,log:=[],ins:=[(sh 18 [(0,.int .i64 0),(3,.int .u64 1),(4,.int .i64 2)],[])],nils:=[],outs:=[(.exit 0,sh 18 [(3,.int .u64 0)],[])],cv:=[]}
def h3q:List Dat→Tree Step:=evL y1c 41 3 ls0 m3z
theorem i3z: ∃op,IsL h3q 41 3 m3z op:=bxL c1e (LsOk.none _ _ _)
def l3g:OpA:=opL i3z
theorem l3d (env:List Dat):l3g env=a0b h3q FU env:=h3j i3z env
abbrev o3r:MBox:=boxL i3z
theorem k3l {n0 n1 n2 n3:Int}(h0:(n2<n0))(h1:(n2<(64:Int)))(h2:(o1n [.n n1,.n n2])=(some (0,[.n n3]))):(h3q [.k 0,.n n0,.n n1,.n n2]).sel=some (Step.go [.k 0,.n n0,.n n3,.n (IntKind.wrap .i64 (n2+(1:Int)))]):=sP [1]<|sT (dt h0)<|sT (dt h1)<|sA h2<|sP [1,1,1]<|sL
theorem k3o {n0 n1 n2:Int}(h0:(n2<n0))(h1:(¬n2<(64:Int))):(h3q [.k 0,.n n0,.n n1,.n n2]).sel=some (Step.stop 0 [.n n1]):=sP [1]<|sT (dt h0)<|sF (df h1)<|sP [1]<|sL
theorem k3m {n0 n1 n2:Int}(h0:(¬n2<n0)):(h3q [.k 0,.n n0,.n n1,.n n2]).sel=some (Step.stop 0 [.n n1]):=sP [1]<|sF (df h0)<|sP [0,0,1]<|sL
def S_q27:BSh:={args:=[.int .i64 0],blks:=[],log:=[],outs:=[(.int .u64 0,[])]}
def ev_q27:List Dat→Tree (Nat×List Dat):=evF y1c 41 (lsM [(3,o3r)] 0) S_q27
theorem e_q27: ∃op,IsF ev_q27 41 S_q27 op:=bxF c1e (lsE (lsC (h3i i3z) (atF) lsZ))
def g1d:OpA:=opF e_q27
theorem n3c {n0 n1:Int}(h0:(l3g [.k 0,.n n0,.n (0:Int),.n (0:Int)])=(some (0,[.n n1]))):g1d [.n n0]=some ((0,[.n n1])):=h3h e_q27 (sA h0<|sP [1,1]<|sL)
def cs_q27:FuncId→Option a0q:=a0s 41 (S_q27.k g1d) y1c
theorem o2v:CsOk Try.prog cs_q27:=csL1 c1e e_q27
def j4g:FuncId→Option a0q:=a0s 50 ((BSh.of Bc20).k j2f) cs_q27
theorem i4z:CsOk Try.prog j4g:=csA o2v t4f
def n4r:LSh:={K:=0,log:=[],ins:=[(sh 135 [(4,.ptr 0 0),(5,.ptr 1 0),(6,.ptr 2 0),(7,.ptr 3 0),(9,.int .u32 0),(10,.int .u32 1),(11,.int .i64 2),(13,.own 4),(14,.own 5),(15,.int .i64 3)],[laB 4,stB 8,ipB 13,ouB 17,.arr TI 19,.arr TNd 20])],nils:=[],outs:=[(.exit 2,sh 135 [(4,.ptr 0 0),(5,.ptr 1 0),(6,.ptr 2 0),(7,.ptr 3 0),(9,.int .u32 0),(10,.int .u32 1),(11,.int .i64 2),(13,.own 4)],[laB 3,stB 7,ipB 12,ouB 16,.arr TI 18]),(.ret,sh 135 [(8,.bool 0)],[])],cv:=[]}
def i4y:List Dat→Tree Step:=evL j4g 22 11 ls0 n4r
theorem j4u: ∃op,IsL i4y 22 11 n4r op:=bxL i4z (LsOk.none _ _ _)
def j4z:OpA:=opL j4u
theorem k4y (env:List Dat):j4z env=a0b i4y FU env:=h3j j4u env
abbrev o4w:MBox:=boxL j4u
theorem l4m {n0 n1 n2 n3:Int}{l4:List (Ty.den TS)}{l5 l6:List (Ty.den TPt)}{l7:List (Ty.den TRt)}{n8 n9 n10:Int}{l11:List (Ty.den TB)}{n12 n13 n14 n15:Int}{l16:List (Ty.den TCmd)}{n17 n18:Int}{l19:List (Ty.den TI)}{l20:List (Ty.den TNd)}{b21:Bool}(g0:0≤n3)(h0:(n3<(↑(List.length l20):Int)))(h1:(¬(Prod.fst (List.getD l20 (Int.toNat n3) (Ty.dflt TNd)):Int)<(0:Int)))(h2:(((iand IntKind.u32 (ishr IntKind.u32 n18 (Prod.fst (List.getD l20 (Int.toNat n3) (Ty.dflt TNd)))) (1:Int)==(1:Int))==Prod.snd (List.getD l20 (Int.toNat n3) (Ty.dflt TNd)))=true))(h3:(Prod.snd (List.getD l20 (Int.toNat n3) (Ty.dflt TNd))=true))(h4:(a1u [.n n17,.n n2])=(some (0,[.b b21])))(h5:(b21=true))(h6:(¬iand IntKind.u32 (ishr IntKind.u32 n1 (Prod.fst (List.getD l20 (Int.toNat n3) (Ty.dflt TNd)))) (1:Int)=(0:Int))):(i4y [.k 0,.n n0,.n n1,.n n2,.n n3,.l TS l4,.l TPt l5,.l TPt l6,.l TRt l7,.n n8,.n n9,.n n10,.l TB l11,.n n12,.n n13,.n n14,.n n15,.l TCmd l16,.n n17,.n n18,.l TI l19,.l TNd l20]).sel=some (Step.go [.k 0,.n n0,.n n1,.n n2,.n (IntKind.wrap .i64 (n3+(1:Int))),.l TS l4,.l TPt l5,.l TPt l6,.l TRt l7,.n n8,.n n9,.n n10,.l TB l11,.n n12,.n n13,.n n14,.n n15,.l TCmd l16,.n n17,.n n18,.l TI l19,.l TNd l20]):=sP [1]<|sT (dt h0)<|sTo (c:=(inR n3 (List.length l20)))<|sT (nf (df h1))<|sTo (c:=(inR n3 (List.length l20)))<|sP [1]<|sF (nt h2)<|sTo (c:=(inR n3 (List.length l20)))<|sT h3<|sA h4<|sP [1,1]<|sT h5<|sTo (c:=(inR n3 (List.length l20)))<|sT (nf (df h1))<|sF (bf h6)<|sP [1]<|sL
theorem l4d {n0 n1 n2 n3:Int}{l4:List (Ty.den TS)}{l5 l6:List (Ty.den TPt)}{l7:List (Ty.den TRt)}{n8 n9 n10:Int}{l11:List (Ty.den TB)}{n12 n13 n14 n15:Int}{l16:List (Ty.den TCmd)}{n17 n18:Int}{l19:List (Ty.den TI)}{l20:List (Ty.den TNd)}{b21:Bool}(g0:0≤n3)(h0:(n3<(↑(List.length l20):Int)))(h1:(¬(Prod.fst (List.getD l20 (Int.toNat n3) (Ty.dflt TNd)):Int)<(0:Int)))(h2:(((iand IntKind.u32 (ishr IntKind.u32 n18 (Prod.fst (List.getD l20 (Int.toNat n3) (Ty.dflt TNd)))) (1:Int)==(1:Int))==Prod.snd (List.getD l20 (Int.toNat n3) (Ty.dflt TNd)))=true))(h3:(Prod.snd (List.getD l20 (Int.toNat n3) (Ty.dflt TNd))=true))(h4:(a1u [.n n17,.n n2])=(some (0,[.b b21])))(h5:(b21=false)):(i4y [.k 0,.n n0,.n n1,.n n2,.n n3,.l TS l4,.l TPt l5,.l TPt l6,.l TRt l7,.n n8,.n n9,.n n10,.l TB l11,.n n12,.n n13,.n n14,.n n15,.l TCmd l16,.n n17,.n n18,.l TI l19,.l TNd l20]).sel=some (Step.go [.k 0,.n n0,.n n1,.n n2,.n (IntKind.wrap .i64 (n3+(1:Int))),.l TS l4,.l TPt l5,.l TPt l6,.l TRt l7,.n n8,.n n9,.n n10,.l TB l11,.n n12,.n n13,.n n14,.n n15,.l TCmd l16,.n n17,.n n18,.l TI l19,.l TNd l20]):=sP [1]<|sT (dt h0)<|sTo (c:=(inR n3 (List.length l20)))<|sT (nf (df h1))<|sTo (c:=(inR n3 (List.length l20)))<|sP [1]<|sF (nt h2)<|sTo (c:=(inR n3 (List.length l20)))<|sT h3<|sA h4<|sP [1,1]<|sF h5<|sP [0,0,1]<|sL
theorem l4q {n0 n1 n2 n3:Int}{l4:List (Ty.den TS)}{l5 l6:List (Ty.den TPt)}{l7:List (Ty.den TRt)}{n8 n9 n10:Int}{l11:List (Ty.den TB)}{n12 n13 n14 n15:Int}{l16:List (Ty.den TCmd)}{n17 n18:Int}{l19:List (Ty.den TI)}{l20:List (Ty.den TNd)}{b21:Bool}(g0:0≤n3)(h0:(n3<(↑(List.length l20):Int)))(h1:(¬(Prod.fst (List.getD l20 (Int.toNat n3) (Ty.dflt TNd)):Int)<(0:Int)))(h2:(((iand IntKind.u32 (ishr IntKind.u32 n18 (Prod.fst (List.getD l20 (Int.toNat n3) (Ty.dflt TNd)))) (1:Int)==(1:Int))==Prod.snd (List.getD l20 (Int.toNat n3) (Ty.dflt TNd)))=true))(h3:(Prod.snd (List.getD l20 (Int.toNat n3) (Ty.dflt TNd))=false))(h4:(a1u [.n n17,.n n2])=(some (0,[.b b21])))(h5:(b21=true))(h6:(¬iand IntKind.u32 (ishr IntKind.u32 n0 (Prod.fst (List.getD l20 (Int.toNat n3) (Ty.dflt TNd)))) (1:Int)=(0:Int))):(i4y [.k 0,.n n0,.n n1,.n n2,.n n3,.l TS l4,.l TPt l5,.l TPt l6,.l TRt l7,.n n8,.n n9,.n n10,.l TB l11,.n n12,.n n13,.n n14,.n n15,.l TCmd l16,.n n17,.n n18,.l TI l19,.l TNd l20]).sel=some (Step.go [.k 0,.n n0,.n n1,.n n2,.n (IntKind.wrap .i64 (n3+(1:Int))),.l TS l4,.l TPt l5,.l TPt l6,.l TRt l7,.n n8,.n n9,.n n10,.l TB l11,.n n12,.n n13,.n n14,.n n15,.l TCmd l16,.n n17,.n n18,.l TI l19,.l TNd l20]):=sP [1]<|sT (dt h0)<|sTo (c:=(inR n3 (List.length l20)))<|sT (nf (df h1))<|sTo (c:=(inR n3 (List.length l20)))<|sP [1]<|sF (nt h2)<|sTo (c:=(inR n3 (List.length l20)))<|sF h3<|sA h4<|sP [1,1]<|sT h5<|sTo (c:=(inR n3 (List.length l20)))<|sT (nf (df h1))<|sF (bf h6)<|sP [1]<|sL
theorem l4k {n0 n1 n2 n3:Int}{l4:List (Ty.den TS)}{l5 l6:List (Ty.den TPt)}{l7:List (Ty.den TRt)}{n8 n9 n10:Int}{l11:List (Ty.den TB)}{n12 n13 n14 n15:Int}{l16:List (Ty.den TCmd)}{n17 n18:Int}{l19:List (Ty.den TI)}{l20:List (Ty.den TNd)}{b21:Bool}(g0:0≤n3)(h0:(n3<(↑(List.length l20):Int)))(h1:(¬(Prod.fst (List.getD l20 (Int.toNat n3) (Ty.dflt TNd)):Int)<(0:Int)))(h2:(((iand IntKind.u32 (ishr IntKind.u32 n18 (Prod.fst (List.getD l20 (Int.toNat n3) (Ty.dflt TNd)))) (1:Int)==(1:Int))==Prod.snd (List.getD l20 (Int.toNat n3) (Ty.dflt TNd)))=true))(h3:(Prod.snd (List.getD l20 (Int.toNat n3) (Ty.dflt TNd))=false))(h4:(a1u [.n n17,.n n2])=(some (0,[.b b21])))(h5:(b21=false)):(i4y [.k 0,.n n0,.n n1,.n n2,.n n3,.l TS l4,.l TPt l5,.l TPt l6,.l TRt l7,.n n8,.n n9,.n n10,.l TB l11,.n n12,.n n13,.n n14,.n n15,.l TCmd l16,.n n17,.n n18,.l TI l19,.l TNd l20]).sel=some (Step.go [.k 0,.n n0,.n n1,.n n2,.n (IntKind.wrap .i64 (n3+(1:Int))),.l TS l4,.l TPt l5,.l TPt l6,.l TRt l7,.n n8,.n n9,.n n10,.l TB l11,.n n12,.n n13,.n n14,.n n15,.l TCmd l16,.n n17,.n n18,.l TI l19,.l TNd l20]):=sP [1]<|sT (dt h0)<|sTo (c:=(inR n3 (List.length l20)))<|sT (nf (df h1))<|sTo (c:=(inR n3 (List.length l20)))<|sP [1]<|sF (nt h2)<|sTo (c:=(inR n3 (List.length l20)))<|sF h3<|sA h4<|sP [1,1]<|sF h5<|sP [0,0,1]<|sL
theorem l4s {n0 n1 n2 n3:Int}{l4:List (Ty.den TS)}{l5 l6:List (Ty.den TPt)}{l7:List (Ty.den TRt)}{n8 n9 n10:Int}{l11:List (Ty.den TB)}{n12 n13 n14 n15:Int}{l16:List (Ty.den TCmd)}{n17 n18:Int}{l19:List (Ty.den TI)}{l20:List (Ty.den TNd)}(g0:0≤n3)(h0:(¬n3<(↑(List.length l20):Int))):(i4y [.k 0,.n n0,.n n1,.n n2,.n n3,.l TS l4,.l TPt l5,.l TPt l6,.l TRt l7,.n n8,.n n9,.n n10,.l TB l11,.n n12,.n n13,.n n14,.n n15,.l TCmd l16,.n n17,.n n18,.l TI l19,.l TNd l20]).sel=some (Step.stop 0 [.n n0,.n n1,.n n2,.l TS l4,.l TPt l5,.l TPt l6,.l TRt l7,.n n8,.n n9,.n n10,.l TB l11,.n n12,.n n13,.n n14,.n n15,.l TCmd l16,.n n17,.n n18,.l TI l19]):=sP [1]<|sF (df h0)<|sP [1]<|sL
def n4l:LSh:={K:=0,log:=[],ins:=[(sh 135 [(4,.ptr 0 0),(5,.ptr 1 0),(6,.ptr 2 0),(7,.ptr 3 0),(9,.int .u32 0),(10,.int .u32 1),(11,.int .i64 2),(13,.own 4),(17,.int .i64 3)],[laB 4,stB 8,ipB 13,ouB 17,.arr TI 19])],nils:=[],outs:=[(.exit 4,sh 135 [(4,.ptr 0 0),(5,.ptr 1 0),(6,.ptr 2 0),(7,.ptr 3 0),(9,.int .u32 0),(10,.int .u32 1),(11,.int .i64 2)],[laB 3,stB 7,ipB 12,ouB 16]),(.ret,sh 135 [(8,.bool 0)],[])],cv:=[]}
def j4b:List Dat→Tree Step:=evL j4g 22 21 ls0 n4l
theorem j4q: ∃op,IsL j4b 22 21 n4l op:=bxL i4z (LsOk.none _ _ _)
def j4v:OpA:=opL j4q
theorem l4r (env:List Dat):j4v env=a0b j4b FU env:=h3j j4q env
abbrev o4g:MBox:=boxL j4q
theorem l4b {n0 n1 n2 n3:Int}{l4:List (Ty.den TS)}{l5 l6:List (Ty.den TPt)}{l7:List (Ty.den TRt)}{n8 n9 n10:Int}{l11:List (Ty.den TB)}{n12 n13 n14 n15:Int}{l16:List (Ty.den TCmd)}{n17 n18:Int}{l19:List (Ty.den TI)}{b20 b21:Bool}(g0:0≤n3)(h0:(n3<(↑(List.length l19):Int)))(h1:(a1u [.n n17,.n n2])=(some (0,[.b b20])))(h2:(b20=true))(h3:(a1u [.n n13,.n (List.getD l19 (Int.toNat n3) (0:Int))])=(some (0,[.b b21])))(h4:(b21=false)):(j4b [.k 0,.n n0,.n n1,.n n2,.n n3,.l TS l4,.l TPt l5,.l TPt l6,.l TRt l7,.n n8,.n n9,.n n10,.l TB l11,.n n12,.n n13,.n n14,.n n15,.l TCmd l16,.n n17,.n n18,.l TI l19]).sel=some (Step.go [.k 0,.n n0,.n n1,.n n2,.n (IntKind.wrap .i64 (n3+(1:Int))),.l TS l4,.l TPt l5,.l TPt l6,.l TRt l7,.n n8,.n n9,.n n10,.l TB l11,.n n12,.n n13,.n n14,.n n15,.l TCmd l16,.n n17,.n n18,.l TI l19]):=sP [1]<|sT (dt h0)<|sA h1<|sP [1,1]<|sT h2<|sTo (c:=(inR n3 (List.length l19)))<|sA h3<|sP [1,1,1]<|sF h4<|sP [1]<|sL
theorem l4f {n0 n1 n2 n3:Int}{l4:List (Ty.den TS)}{l5 l6:List (Ty.den TPt)}{l7:List (Ty.den TRt)}{n8 n9 n10:Int}{l11:List (Ty.den TB)}{n12 n13 n14 n15:Int}{l16:List (Ty.den TCmd)}{n17 n18:Int}{l19:List (Ty.den TI)}{b20:Bool}(g0:0≤n3)(h0:(n3<(↑(List.length l19):Int)))(h1:(a1u [.n n17,.n n2])=(some (0,[.b b20])))(h2:(b20=false)):(j4b [.k 0,.n n0,.n n1,.n n2,.n n3,.l TS l4,.l TPt l5,.l TPt l6,.l TRt l7,.n n8,.n n9,.n n10,.l TB l11,.n n12,.n n13,.n n14,.n n15,.l TCmd l16,.n n17,.n n18,.l TI l19]).sel=some (Step.stop 0 [.n n0,.n n1,.n n2,.l TS l4,.l TPt l5,.l TPt l6,.l TRt l7,.n n8,.n n9,.n n10,.l TB l11,.n n12,.n n13,.n n14,.n n15,.l TCmd l16,.n n17,.n n18]):=sP [1]<|sT (dt h0)<|sA h1<|sP [1,1]<|sF h2<|sP [1]<|sL
theorem j4n {n0 n1 n2 n3:Int}{l4:List (Ty.den TS)}{l5 l6:List (Ty.den TPt)}{l7:List (Ty.den TRt)}{n8 n9 n10:Int}{l11:List (Ty.den TB)}{n12 n13 n14 n15:Int}{l16:List (Ty.den TCmd)}{n17 n18:Int}{l19:List (Ty.den TI)}(g0:0≤n3)(h0:(¬n3<(↑(List.length l19):Int))):(j4b [.k 0,.n n0,.n n1,.n n2,.n n3,.l TS l4,.l TPt l5,.l TPt l6,.l TRt l7,.n n8,.n n9,.n n10,.l TB l11,.n n12,.n n13,.n n14,.n n15,.l TCmd l16,.n n17,.n n18,.l TI l19]).sel=some (Step.stop 0 [.n n0,.n n1,.n n2,.l TS l4,.l TPt l5,.l TPt l6,.l TRt l7,.n n8,.n n9,.n n10,.l TB l11,.n n12,.n n13,.n n14,.n n15,.l TCmd l16,.n n17,.n n18]):=sP [1]<|sF (df h0)<|sP [0,0,1]<|sL
def n4p:LSh:={K:=0,log:=[],ins:=[(sh 135 [(4,.ptr 0 0),(5,.ptr 1 0),(6,.ptr 2 0),(7,.ptr 3 0),(9,.int .u32 0),(10,.int .u32 1),(11,.int .i64 2),(18,.int .i64 3)],[laB 4,stB 8,ipB 13,ouB 17])],nils:=[],outs:=[(.exit 6,sh 135 [(4,.ptr 0 0),(5,.ptr 1 0),(6,.ptr 2 0),(7,.ptr 3 0),(9,.int .u32 0),(10,.int .u32 1),(11,.int .i64 2)],[laB 3,stB 7,ipB 12,ouB 16]),(.ret,sh 135 [(8,.bool 0)],[])],cv:=[]}
def j4a:List Dat→Tree Step:=evL j4g 22 26 ls0 n4p
theorem j4p: ∃op,IsL j4a 22 26 n4p op:=bxL i4z (LsOk.none _ _ _)
def j4y:OpA:=opL j4p
theorem l4i (env:List Dat):j4y env=a0b j4a FU env:=h3j j4p env
abbrev o4a:MBox:=boxL j4p
theorem l4c {n0 n1 n2 n3:Int}{l4:List (Ty.den TS)}{l5 l6:List (Ty.den TPt)}{l7:List (Ty.den TRt)}{n8 n9 n10:Int}{l11:List (Ty.den TB)}{n12 n13 n14 n15:Int}{l16:List (Ty.den TCmd)}{n17 n18:Int}{b19 b20:Bool}(g0:0≤n3)(h0:(n3<n2))(h1:(a1u [.n n8,.n n3])=(some (0,[.b b19])))(h2:(b19=true))(h3:(j2f [.l TS l4,.l TPt l5,.l TPt l6,.l TRt l7,.n n2,.n n3])=(some (0,[.b b20])))(h4:(b20=false)):(j4a [.k 0,.n n0,.n n1,.n n2,.n n3,.l TS l4,.l TPt l5,.l TPt l6,.l TRt l7,.n n8,.n n9,.n n10,.l TB l11,.n n12,.n n13,.n n14,.n n15,.l TCmd l16,.n n17,.n n18]).sel=some (Step.go [.k 0,.n n0,.n n1,.n n2,.n (IntKind.wrap .i64 (n3+(1:Int))),.l TS l4,.l TPt l5,.l TPt l6,.l TRt l7,.n n8,.n n9,.n n10,.l TB l11,.n n12,.n n13,.n n14,.n n15,.l TCmd l16,.n n17,.n n18]):=sP [1]<|sT (dt h0)<|sA h1<|sP [1,1]<|sT h2<|sA h3<|sP [1,1]<|sF h4<|sP [1]<|sL
theorem k4w {n0 n1 n2 n3:Int}{l4:List (Ty.den TS)}{l5 l6:List (Ty.den TPt)}{l7:List (Ty.den TRt)}{n8 n9 n10:Int}{l11:List (Ty.den TB)}{n12 n13 n14 n15:Int}{l16:List (Ty.den TCmd)}{n17 n18:Int}{b19:Bool}(g0:0≤n3)(h0:(n3<n2))(h1:(a1u [.n n8,.n n3])=(some (0,[.b b19])))(h2:(b19=false)):(j4a [.k 0,.n n0,.n n1,.n n2,.n n3,.l TS l4,.l TPt l5,.l TPt l6,.l TRt l7,.n n8,.n n9,.n n10,.l TB l11,.n n12,.n n13,.n n14,.n n15,.l TCmd l16,.n n17,.n n18]).sel=some (Step.go [.k 0,.n n0,.n n1,.n n2,.n (IntKind.wrap .i64 (n3+(1:Int))),.l TS l4,.l TPt l5,.l TPt l6,.l TRt l7,.n n8,.n n9,.n n10,.l TB l11,.n n12,.n n13,.n n14,.n n15,.l TCmd l16,.n n17,.n n18]):=sP [1]<|sT (dt h0)<|sA h1<|sP [1,1]<|sF h2<|sP [0,0,1]<|sL
theorem k4x {n0 n1 n2 n3:Int}{l4:List (Ty.den TS)}{l5 l6:List (Ty.den TPt)}{l7:List (Ty.den TRt)}{n8 n9 n10:Int}{l11:List (Ty.den TB)}{n12 n13 n14 n15:Int}{l16:List (Ty.den TCmd)}{n17 n18:Int}(g0:0≤n3)(h0:(¬n3<n2)):(j4a [.k 0,.n n0,.n n1,.n n2,.n n3,.l TS l4,.l TPt l5,.l TPt l6,.l TRt l7,.n n8,.n n9,.n n10,.l TB l11,.n n12,.n n13,.n n14,.n n15,.l TCmd l16,.n n17,.n n18]).sel=some (Step.stop 0 [.n n0,.n n1,.n n2,.l TS l4,.l TPt l5,.l TPt l6,.l TRt l7,.n n8,.n n9,.n n10,.l TB l11,.n n12,.n n13,.n n14,.n n15,.l TCmd l16,.n n17,.n n18]):=sP [1]<|sF (df h0)<|sP [1]<|sL
def p4g:LSh:={K:=0,log:=[],ins:=[(sh 135 [(4,.ptr 0 0),(5,.ptr 1 0),(6,.ptr 2 0),(7,.ptr 3 0),(9,.int .u32 0),(10,.int .u32 1),(11,.int .i64 2)],[laB 3,stB 7,ipB 12,ouB 16])],nils:=[],outs:=[(.exit 0,sh 135 [(4,.ptr 0 0),(7,.ptr 1 0)],[laB 0,ouB 4]),(.ret,sh 135 [(8,.bool 0)],[])],cv:=[]}
def j4d:List Dat→Tree Step:=evL j4g 22 3 (lsM [(11,o4w),(21,o4g),(26,o4a)] 0) p4g
theorem k4g: ∃op,IsL j4d 22 3 p4g op:=bxL i4z (lsE (lsC (h3i j4u) (by kernel_rfl) (lsC (h3i j4q) (by kernel_rfl) (lsC (h3i j4p) (by kernel_rfl) lsZ))))
def k4i:OpA:=opL k4g
theorem m4z (env:List Dat):k4i env=a0b j4d FU env:=h3j k4g env
abbrev q4h:MBox:=boxL k4g
theorem n4e {n0 n1 n2:Int}{l3:List (Ty.den TS)}{l4 l5:List (Ty.den TPt)}{l6:List (Ty.den TRt)}{n7 n8 n9:Int}{l10:List (Ty.den TB)}{n11 n12 n13 n14:Int}{l15:List (Ty.den TCmd)}{n16 n17:Int}{b18 b19:Bool}(g0:0≤n2)(h0:(n2<(↑(List.length l6):Int)))(h1:(a1u [.n n7,.n n2])=(some (0,[.b b18])))(h2:(b18=false))(h3:(a1u [.n n16,.n n2])=(some (0,[.b b19])))(h4:(b19=false)):(j4d [.k 0,.n n0,.n n1,.n n2,.l TS l3,.l TPt l4,.l TPt l5,.l TRt l6,.n n7,.n n8,.n n9,.l TB l10,.n n11,.n n12,.n n13,.n n14,.l TCmd l15,.n n16,.n n17]).sel=some (Step.go [.k 0,.n n0,.n n1,.n (IntKind.wrap .i64 (n2+(1:Int))),.l TS l3,.l TPt l4,.l TPt l5,.l TRt l6,.n n7,.n n8,.n n9,.l TB l10,.n n11,.n n12,.n n13,.n n14,.l TCmd l15,.n n16,.n n17]):=sP [1]<|sT (dt h0)<|sTo (c:=(inR n2 (List.length l6)))<|sA h1<|sP [1,1]<|sT (nf h2)<|sA h3<|sP [1,1]<|sF h4<|sP [1]<|sL
theorem m4y {n0 n1 n2:Int}{l3:List (Ty.den TS)}{l4 l5:List (Ty.den TPt)}{l6:List (Ty.den TRt)}{n7 n8 n9:Int}{l10:List (Ty.den TB)}{n11 n12 n13 n14:Int}{l15:List (Ty.den TCmd)}{n16 n17:Int}{b18:Bool}{l19:List (Ty.den TI)}{l20:List (Ty.den TNd)}{n21 n22 n23:Int}{l24:List (Ty.den TS)}{l25 l26:List (Ty.den TPt)}{l27:List (Ty.den TRt)}{n28 n29 n30:Int}{l31:List (Ty.den TB)}{n32 n33 n34 n35:Int}{l36:List (Ty.den TCmd)}{n37 n38:Int}{l39:List (Ty.den TI)}{n40 n41 n42:Int}{l43:List (Ty.den TS)}{l44 l45:List (Ty.den TPt)}{l46:List (Ty.den TRt)}{n47 n48 n49:Int}{l50:List (Ty.den TB)}{n51 n52 n53 n54:Int}{l55:List (Ty.den TCmd)}{n56 n57 n58 n59 n60:Int}{l61:List (Ty.den TS)}{l62 l63:List (Ty.den TPt)}{l64:List (Ty.den TRt)}{n65 n66 n67:Int}{l68:List (Ty.den TB)}{n69 n70 n71 n72:Int}{l73:List (Ty.den TCmd)}{n74 n75:Int}(g0:0≤n2)(h0:(n2<(↑(List.length l6):Int)))(h1:(a1u [.n n7,.n n2])=(some (0,[.b b18])))(h2:(b18=true))(h3:(h1f [.s (Prod.fst (List.getD l6 (Int.toNat n2) (Ty.dflt TRt))),.n (Prod.fst (Prod.snd (List.getD l6 (Int.toNat n2) (Ty.dflt TRt)))),.l TI (Prod.fst (Prod.snd (Prod.snd (List.getD l6 (Int.toNat n2) (Ty.dflt TRt))))),.l TNd (Prod.fst (Prod.snd (Prod.snd (Prod.snd (List.getD l6 (Int.toNat n2) (Ty.dflt TRt)))))),.l TI (Prod.fst (Prod.snd (Prod.snd (Prod.snd (Prod.snd (List.getD l6 (Int.toNat n2) (Ty.dflt TRt))))))),.l TNd (Prod.snd (Prod.snd (Prod.snd (Prod.snd (Prod.snd (List.getD l6 (Int.toNat n2) (Ty.dflt TRt)))))))])=(some (0,[.l TI l19])))(h4:(i1r [.s (Prod.fst (List.getD l6 (Int.toNat n2) (Ty.dflt TRt))),.n (Prod.fst (Prod.snd (List.getD l6 (Int.toNat n2) (Ty.dflt TRt)))),.l TI (Prod.fst (Prod.snd (Prod.snd (List.getD l6 (Int.toNat n2) (Ty.dflt TRt))))),.l TNd (Prod.fst (Prod.snd (Prod.snd (Prod.snd (List.getD l6 (Int.toNat n2) (Ty.dflt TRt)))))),.l TI (Prod.fst (Prod.snd (Prod.snd (Prod.snd (Prod.snd (List.getD l6 (Int.toNat n2) (Ty.dflt TRt))))))),.l TNd (Prod.snd (Prod.snd (Prod.snd (Prod.snd (Prod.snd (List.getD l6 (Int.toNat n2) (Ty.dflt TRt)))))))])=(some (0,[.l TNd l20])))(h5:(j4z [.k 0,.n n0,.n n1,.n n2,.n (0:Int),.l TS l3,.l TPt l4,.l TPt l5,.l TRt l6,.n n7,.n n8,.n n9,.l TB l10,.n n11,.n n12,.n n13,.n n14,.l TCmd l15,.n n16,.n n17,.l TI l19,.l TNd l20])=(some (0,[.n n21,.n n22,.n n23,.l TS l24,.l TPt l25,.l TPt l26,.l TRt l27,.n n28,.n n29,.n n30,.l TB l31,.n n32,.n n33,.n n34,.n n35,.l TCmd l36,.n n37,.n n38,.l TI l39])))(h6:(j4v [.k 0,.n n21,.n n22,.n n23,.n (0:Int),.l TS l24,.l TPt l25,.l TPt l26,.l TRt l27,.n n28,.n n29,.n n30,.l TB l31,.n n32,.n n33,.n n34,.n n35,.l TCmd l36,.n n37,.n n38,.l TI l39])=(some (0,[.n n40,.n n41,.n n42,.l TS l43,.l TPt l44,.l TPt l45,.l TRt l46,.n n47,.n n48,.n n49,.l TB l50,.n n51,.n n52,.n n53,.n n54,.l TCmd l55,.n n56,.n n57])))(h7:(j4y [.k 0,.n n40,.n n41,.n n42,.n (0:Int),.l TS l43,.l TPt l44,.l TPt l45,.l TRt l46,.n n47,.n n48,.n n49,.l TB l50,.n n51,.n n52,.n n53,.n n54,.l TCmd l55,.n n56,.n n57])=(some (0,[.n n58,.n n59,.n n60,.l TS l61,.l TPt l62,.l TPt l63,.l TRt l64,.n n65,.n n66,.n n67,.l TB l68,.n n69,.n n70,.n n71,.n n72,.l TCmd l73,.n n74,.n n75]))):(j4d [.k 0,.n n0,.n n1,.n n2,.l TS l3,.l TPt l4,.l TPt l5,.l TRt l6,.n n7,.n n8,.n n9,.l TB l10,.n n11,.n n12,.n n13,.n n14,.l TCmd l15,.n n16,.n n17]).sel=some (Step.go [.k 0,.n n58,.n n59,.n (IntKind.wrap .i64 (n60+(1:Int))),.l TS l61,.l TPt l62,.l TPt l63,.l TRt l64,.n n65,.n n66,.n n67,.l TB l68,.n n69,.n n70,.n n71,.n n72,.l TCmd l73,.n n74,.n n75]):=sP [1]<|sT (dt h0)<|sTo (c:=(inR n2 (List.length l6)))<|sA h1<|sP [1,1]<|sF (nt h2)<|sA h3<|sP [1,1]<|sA h4<|sP [1,1,1]<|sA h5<|sP [1]<|sA h6<|sP [1]<|sA h7<|sP [1,1]<|sL
theorem l4u {n0 n1 n2:Int}{l3:List (Ty.den TS)}{l4 l5:List (Ty.den TPt)}{l6:List (Ty.den TRt)}{n7 n8 n9:Int}{l10:List (Ty.den TB)}{n11 n12 n13 n14:Int}{l15:List (Ty.den TCmd)}{n16 n17:Int}(g0:0≤n2)(h0:(¬n2<(↑(List.length l6):Int))):(j4d [.k 0,.n n0,.n n1,.n n2,.l TS l3,.l TPt l4,.l TPt l5,.l TRt l6,.n n7,.n n8,.n n9,.l TB l10,.n n11,.n n12,.n n13,.n n14,.l TCmd l15,.n n16,.n n17]).sel=some (Step.stop 0 [.l TS l3,.l TPt l4,.l TPt l5,.l TRt l6,.n n16,.n n17]):=sP [1]<|sF (df h0)<|sP [1]<|sL
def S_f22:BSh:={args:=[laV 0,stV 4,ipV 9,ouV 13],blks:=[],log:=[],outs:=[(.bool 0,[])]}
def ev_f22:List Dat→Tree (Nat×List Dat):=evF j4g 22 (lsM [(3,q4h)] 0) S_f22
theorem e_f22: ∃op,IsF ev_f22 22 S_f22 op:=bxF i4z (lsE (lsC (h3i k4g) (atF) lsZ))
def n4q:OpA:=opF e_f22
theorem o4l {l0:List (Ty.den TS)}{l1 l2:List (Ty.den TPt)}{l3:List (Ty.den TRt)}{n4 n5 n6:Int}{l7:List (Ty.den TB)}{n8 n9 n10 n11:Int}{l12:List (Ty.den TCmd)}{n13 n14:Int}{l15:List (Ty.den TS)}{l16 l17:List (Ty.den TPt)}{l18:List (Ty.den TRt)}{n19 n20 n21:Int}(h0:(k4i [.k 0,.n (b0l IntKind.u32 n10 n11),.n (b0l IntKind.u32 n11 n10),.n (0:Int),.l TS l0,.l TPt l1,.l TPt l2,.l TRt l3,.n n4,.n n5,.n n6,.l TB l7,.n n8,.n n9,.n n10,.n n11,.l TCmd l12,.n n13,.n n14])=(some (0,[.l TS l15,.l TPt l16,.l TPt l17,.l TRt l18,.n n19,.n n20])))(h1:(g1d [.n (↑(List.length l18):Int)])=(some (0,[.n n21]))):n4q [.l TS l0,.l TPt l1,.l TPt l2,.l TRt l3,.n n4,.n n5,.n n6,.l TB l7,.n n8,.n n9,.n n10,.n n11,.l TCmd l12,.n n13,.n n14]=some ((0,[.b (b0l IntKind.u64 n19 n21==(0:Int))])):=h3h e_f22 (sP [1,1,1]<|sA h0<|sP [1]<|sA h1<|sP [1,1,1,1]<|sL)
def cs_f22:FuncId→Option a0q:=a0s 22 (S_f22.k n4q) j4g
theorem p4d:CsOk Try.prog cs_f22:=csL1 i4z e_f22
def k4s:List Dat→Tree Bool:=evW cs_f22 6 ls0 [laV 0,stV 4,ipV 9]
theorem W6_law (env:List Dat)(h:(k4s env).sel=some true){w:World}{aa:Array Value}(ha:LRel R0 (b0k w) (instL [laV 0,stV 4,ipV 9] env) aa):
  Calls Try.prog 6 aa w fun e w'=>e=.returned (.bool true)∧Below w.heap.size w w':=evW_law p4d (LsOk.none _ _ _) env h ha
theorem q4e {l0:List (Ty.den TS)}{l1 l2:List (Ty.den TPt)}{l3:List (Ty.den TRt)}{n4 n5 n6:Int}{l7:List (Ty.den TB)}{n8 n9 n10 n11:Int}{l12:List (Ty.den TCmd)}{n13:Int}{b14:Bool}(h0:(n2d [.l TS l0,.l TPt l1,.l TPt l2,.l TRt l3,.n (400:Int)])=(some (0,[.n n13])))(h1:(n13>(400:Int)))(h2:(q4r [])=(some (0,[.b b14]))):(k4s [.l TS l0,.l TPt l1,.l TPt l2,.l TRt l3,.n n4,.n n5,.n n6,.l TB l7,.n n8,.n n9,.n n10,.n n11,.l TCmd l12]).sel=some (b14):=sP [1]<|sA h0<|sP [1,1]<|sT (dt h1)<|sP [1,1,1,1,1,1,1]<|sA h2<|sP [1,1]<|sL
theorem q4b {l0:List (Ty.den TS)}{l1 l2:List (Ty.den TPt)}{l3:List (Ty.den TRt)}{n4 n5 n6:Int}{l7:List (Ty.den TB)}{n8 n9 n10 n11:Int}{l12:List (Ty.den TCmd)}{n13 n14:Int}{l15:List (Ty.den TI)}{l16:List (Ty.den TQr)}{b17:Bool}(h0:(n2d [.l TS l0,.l TPt l1,.l TPt l2,.l TRt l3,.n (400:Int)])=(some (0,[.n n13])))(h1:(¬n13>(400:Int)))(h2:(w3m [.l TS l0,.l TPt l1,.l TPt l2,.l TRt l3])=(some (0,[.n n14,.l TI l15,.l TQr l16])))(h3:(n14=(0:Int)))(h4:((↑(List.length l12):Int)>(100:Int)))(h5:(q4r [])=(some (0,[.b b17]))):(k4s [.l TS l0,.l TPt l1,.l TPt l2,.l TRt l3,.n n4,.n n5,.n n6,.l TB l7,.n n8,.n n9,.n n10,.n n11,.l TCmd l12]).sel=some (b17):=sP [1]<|sA h0<|sP [1,1]<|sF (df h1)<|sP [1]<|sA h2<|sP [1,1]<|sT (bt h3)<|sP [1,0]<|sT (dt h4)<|sP [1,1,1]<|sA h5<|sP [1,1]<|sL
theorem q4g {l0:List (Ty.den TS)}{l1 l2:List (Ty.den TPt)}{l3:List (Ty.den TRt)}{n4 n5 n6:Int}{l7:List (Ty.den TB)}{n8 n9 n10 n11:Int}{l12:List (Ty.den TCmd)}{n13 n14:Int}{l15:List (Ty.den TI)}{l16:List (Ty.den TQr)}{b17:Bool}{l18:List (Ty.den TI)}{l19:List (Ty.den TQr)}{b20:Bool}(h0:(n2d [.l TS l0,.l TPt l1,.l TPt l2,.l TRt l3,.n (400:Int)])=(some (0,[.n n13])))(h1:(¬n13>(400:Int)))(h2:(w3m [.l TS l0,.l TPt l1,.l TPt l2,.l TRt l3])=(some (0,[.n n14,.l TI l15,.l TQr l16])))(h3:(n14=(0:Int)))(h4:(¬(↑(List.length l12):Int)>(100:Int)))(h5:(z3e [.n n4,.n n5,.n n6,.l TB l7,.n n8,.l TI l15,.l TQr l16])=(some (0,[.b b17,.l TI l18,.l TQr l19])))(h6:(b17=false))(h7:(q4r [])=(some (0,[.b b20]))):(k4s [.l TS l0,.l TPt l1,.l TPt l2,.l TRt l3,.n n4,.n n5,.n n6,.l TB l7,.n n8,.n n9,.n n10,.n n11,.l TCmd l12]).sel=some (b20):=sP [1]<|sA h0<|sP [1,1]<|sF (df h1)<|sP [1]<|sA h2<|sP [1,1]<|sT (bt h3)<|sP [1,0]<|sF (df h4)<|sP [1]<|sA h5<|sP [1,1]<|sT (nf h6)<|sP [1]<|sA h7<|sP [1,1]<|sL
theorem q4c {l0:List (Ty.den TS)}{l1 l2:List (Ty.den TPt)}{l3:List (Ty.den TRt)}{n4 n5 n6:Int}{l7:List (Ty.den TB)}{n8 n9 n10 n11:Int}{l12:List (Ty.den TCmd)}{n13 n14:Int}{l15:List (Ty.den TI)}{l16:List (Ty.den TQr)}{b17:Bool}{l18:List (Ty.den TI)}{l19:List (Ty.den TQr)}{n20 n21 n22:Int}{l23:List (Ty.den TB)}{n24 n25 n26:Int}{l27:List (Ty.den TI)}{l28:List (Ty.den TQr)}{b29:Bool}{l30:List (Ty.den TI)}{l31:List (Ty.den TQr)}{b32 b33:Bool}(h0:(n2d [.l TS l0,.l TPt l1,.l TPt l2,.l TRt l3,.n (400:Int)])=(some (0,[.n n13])))(h1:(¬n13>(400:Int)))(h2:(w3m [.l TS l0,.l TPt l1,.l TPt l2,.l TRt l3])=(some (0,[.n n14,.l TI l15,.l TQr l16])))(h3:(n14=(0:Int)))(h4:(¬(↑(List.length l12):Int)>(100:Int)))(h5:(z3e [.n n4,.n n5,.n n6,.l TB l7,.n n8,.l TI l15,.l TQr l16])=(some (0,[.b b17,.l TI l18,.l TQr l19])))(h6:(b17=true))(h7:(n4i [.n n4,.n n5,.n n6,.l TB l7,.n n8,.n n9,.n n10,.n n11,.l TCmd l12,.l TI l15,.l TQr l16])=(some (0,[.n n20,.n n21,.n n22,.l TB l23,.n n24,.n n25,.n n26,.l TI l27,.l TQr l28])))(h8:(z3e [.n n20,.n n21,.n n22,.l TB l23,.n n24,.l TI l15,.l TQr l16])=(some (0,[.b b29,.l TI l30,.l TQr l31])))(h9:(b29=true))(h10:(n4q [.l TS l0,.l TPt l1,.l TPt l2,.l TRt l3,.n n20,.n n21,.n n22,.l TB l23,.n n24,.n n9,.n n10,.n n11,.l TCmd l12,.n n25,.n n26])=(some (0,[.b b32])))(h11:(b32=true))(h12:(q4r [])=(some (0,[.b b33]))):(k4s [.l TS l0,.l TPt l1,.l TPt l2,.l TRt l3,.n n4,.n n5,.n n6,.l TB l7,.n n8,.n n9,.n n10,.n n11,.l TCmd l12]).sel=some (b33):=sP [1]<|sA h0<|sP [1,1]<|sF (df h1)<|sP [1]<|sA h2<|sP [1,1]<|sT (bt h3)<|sP [1,0]<|sF (df h4)<|sP [1]<|sA h5<|sP [1,1]<|sF (nt h6)<|sP [1]<|sA h7<|sP [1,1,1]<|sA h8<|sP [1,1]<|sT h9<|sA h10<|sP [1,1]<|sT h11<|sP [1]<|sA h12<|sP [1,1]<|sL
theorem q4a {l0:List (Ty.den TS)}{l1 l2:List (Ty.den TPt)}{l3:List (Ty.den TRt)}{n4 n5 n6:Int}{l7:List (Ty.den TB)}{n8 n9 n10 n11:Int}{l12:List (Ty.den TCmd)}{n13 n14:Int}{b15:Bool}(h0:(n2d [.l TS l0,.l TPt l1,.l TPt l2,.l TRt l3,.n (400:Int)])=(some (0,[.n n13])))(h1:(¬n13>(400:Int)))(h2:(w3m [.l TS l0,.l TPt l1,.l TPt l2,.l TRt l3])=(some (1,[.n n14])))(h3:(¬n14=(0:Int)))(h4:(q4r [])=(some (0,[.b b15]))):(k4s [.l TS l0,.l TPt l1,.l TPt l2,.l TRt l3,.n n4,.n n5,.n n6,.l TB l7,.n n8,.n n9,.n n10,.n n11,.l TCmd l12]).sel=some (b15):=sP [1]<|sA h0<|sP [1,1]<|sF (df h1)<|sP [1]<|sA h2<|sP [0,1,1]<|sF (bf h3)<|sP [0,1,1,1,1,1,1,1]<|sA h4<|sP [1,1]<|sL
def p2 (k:Nat):B64:=1#64<<<k
def inN (n:Int):Bool:=decide (0≤n)&&decide (n<64)
def hasB (X:B64)(n:Int):Bool:=inN n&&X.getLsbD n.toNat
def s1o (X:B64)(n:Int):B64:=bif inN n then X|||p2 n.toNat else X
theorem h2g (k i:Nat):(p2 k).getLsbD i=(decide (i<64)&&decide (i=k)):=by
 unfold p2
 rw[BitVec.getLsbD_shiftLeft]
 by_cases h:i=k
 ·subst h;simp
 ·by_cases h2:i<k
  ·simp[h,h2]
  ·have:i-k≠0:=by omega
   simp[h,h2,this]
theorem j2e {k:Nat}(h:k<64):(p2 k).toNat=2^k:=by
 unfold p2
 rw[BitVec.toNat_shiftLeft,Nat.shiftLeft_eq]
 have:2^k<2^64:=Nat.pow_lt_pow_right (by omega) h
 rw[show(1#64).toNat=1 from rfl,Nat.one_mul,Nat.mod_eq_of_lt this]
theorem getN (X:B64)(k:Nat):X.getLsbD k=decide (X.toNat/2^k%2=1):=by
 rw[←BitVec.testBit_toNat,Nat.testBit_eq_decide_div_mod_eq]
theorem r2c {X:B64}{k:Nat}(hk:k<64)(h:X.getLsbD k=false):X+p2 k=X|||p2 k:=by
 apply BitVec.add_eq_or_of_and_eq_zero
 apply BitVec.eq_of_getLsbD_eq
 intro i hi
 rw[BitVec.getLsbD_and,h2g]
 by_cases e:i=k
 ·subst e;simp[h]
 ·simp[e]
theorem N_add (X Y:B64):IntKind.wrap .u64 (N X+N Y)=N (X+Y):=by
 rw[k2v]
 refine congrArg N ?_
 apply BitVec.eq_of_toNat_eq
 rw[BitVec.toNat_ofInt,BitVec.toNat_add]
 unfold N
 omega
theorem w64x {x:Int}(h0: -9223372036854775808≤x)(h1:x<9223372036854775808):IntKind.wrap .i64 x=x:=by unfold IntKind.wrap;simp[IntKind.bits,IntKind.signed];omega
theorem wu64' {x:Int}(h0:0≤x)(h1:x<18446744073709551616):IntKind.wrap .u64 x=x:=by unfold IntKind.wrap;simp[IntKind.bits,IntKind.signed];omega
theorem i3h {X:B64}{n:Int}(h:inN n=false):s1o X n=X:=by unfold s1o;rw[h];rfl
def firB (k:Nat):B64:=BitVec.ofNat 64 (2^k-1)
theorem t2j {k:Nat}(h:k≤64):(firB k).toNat=2^k-1:=by
 unfold firB
 rw[BitVec.toNat_ofNat]
 have:2^k≤2^64:=Nat.pow_le_pow_right (by omega) h
 exact Nat.mod_eq_of_lt (by omega)
theorem y0i {k:Nat}(h:k≤64)(i:Nat):(firB k).getLsbD i=decide (i<k):=by
 rw[←BitVec.testBit_toNat,t2j h,Nat.testBit_two_pow_sub_one]
theorem j2a {k:Nat}(h:k<64):s1o (firB k) (k:Int)=firB (k+1):=by
 unfold s1o
 have:inN (k:Int)=true:=by simp[inN];omega
 rw[this,cond_true,Int.toNat_natCast]
 apply BitVec.eq_of_getLsbD_eq
 intro i hi
 rw[BitVec.getLsbD_or,h2g,y0i (by omega),y0i (by omega)]
 by_cases e:i=k
 ·subst e;simp[hi]
 ·have:decide (i<k)=decide (i<k+1):=by rw[Bool.eq_iff_iff];simp;omega
  simp[e,this]
theorem ishl1 (k:Nat):ishl IntKind.u64 (1:Int) (k:Int)=N (p2 k):=ishlB k
def p0 (e:Rt):Int:=(eP e).getD 0 0
abbrev allR (b c:LP)(r:LR):Prop:= ∀i,i<r.length→rtOk b c (r.getD i (Ty.dflt TRt))∧wfE b c (r.getD i (Ty.dflt TRt))=true
theorem tab_len (b:LP)(r:LR):(NL (tabB b r)).length=r.length:=by rw[u1l];exact o0n ..
theorem ck_all {a:LS}{b c:LP}{r:LR}(h:(ckA a b c r).1=0):b.length≤32∧r.length≤64∧allR b c r:=by
 obtain⟨hm,hw⟩:=(t4n a b c r).1 h
 obtain⟨h1,h2,h3⟩:=l0q hm
 exact⟨h1,h2,fun i hi=>⟨h3 i hi,hw _ (h0f hi)⟩⟩
theorem wrap32N (Y:B64):IntKind.wrap .u32 (N Y)=N (Y.setWidth 32):=by
 rw[p2u]
 refine congrArg N (BitVec.eq_of_toNat_eq ?_)
 rw[BitVec.toNat_ofInt,BitVec.toNat_setWidth]
 unfold N;omega
theorem bv0 {w:Nat}{X:BitVec w}(h: ∀k,k<w→ ¬X.getLsbD k=true):X=0#w:=by
 apply BitVec.eq_of_getLsbD_eq
 intro i hi
 rw[BitVec.getLsbD_zero]
 cases e:X.getLsbD i with
 |true=>exact absurd e (h i hi)
 |false=>rfl
theorem and0 {w:Nat}{X Y:BitVec w}(h: ∀k,k<w→X.getLsbD k=true→Y.getLsbD k=true→False):X&&&Y=0#w:=
 bv0 fun k hk e=>by rw[BitVec.getLsbD_and,Bool.and_eq_true]at e;exact h k hk e.1 e.2
theorem sub_and {w:Nat}{X Y:BitVec w}(h: ∀k,k<w→X.getLsbD k=true→Y.getLsbD k=true):X&&&Y=X:=by
 apply BitVec.eq_of_getLsbD_eq
 intro i hi
 rw[BitVec.getLsbD_and]
 cases e:X.getLsbD i with
 |true=>rw[h i hi e];rfl
 |false=>rfl
abbrev rN (r:LR)(i:Nat):Rt:=r.getD i (Ty.dflt TRt)
def fC (b:LP)(r:LR)(i:Nat):B64:=(tabB b r).getD i 0#64
structure WF (a:LS)(b c:LP)(r:LR):Prop where
 la:a.length≤64
 lb:b.length≤32
 lr:r.length≤64
 tr: ∀i,i<r.length→ ∀x∈trk (rN r i),0≤x∧x<(a.length:Int)
 pt: ∀i,i<r.length→f0c b (ndsE (rN r i))
 all:allR b c r
theorem wf_of {a:LS}{b c:LP}{r:LR}(h:(ckA a b c r).1=0):WF a b c r:=by
 obtain⟨hm,hw⟩:=(t4n a b c r).1 h
 obtain⟨h1,h2,h3⟩:=ck_all h
 have h:=hm
 unfold mayL at h
 rw[Bool.and_eq_true]at h
 obtain⟨q1,-,-,-⟩:=(@of_decide_eq_true (smallL a b c r) (instDecidableSmallL a b c r) h.1)
 have h:=h.2
 simp only[Bool.and_eq_true]at h
 obtain⟨h5,h6,h7,h8⟩:=h
 refine⟨q1,h1,h2,fun i hi x hx=> ?_,fun i hi d hd=> ?_,h3⟩
 ·have k:=List.all_eq_true.1 h7 i (List.mem_range'_1.2 (by omega))
  unfold okR mayR at k
  simp only[Bool.and_eq_true,decide_eq_true_eq]at k
  obtain⟨k1,k2,k3,k4,k5,k6⟩:=k
  unfold trk at hx
  rcases List.mem_append.1 hx with hx|hx
  ·exact(n2h k3).2 x hx
  ·exact(n2h k5).2 x hx
 ·obtain⟨⟨-,-,k3,k4⟩,-⟩:=h3 i hi
  unfold ndsE at hd
  rcases List.mem_append.1 hd with hd|hd
  ·exact k3 d hd
  ·exact k4 d hd
section
variable {a:LS} {b c:LP} {r:LR} (w:WF a b c r)
include w
theorem q3g {i:Nat}(hi:i<r.length):0<(eP (rN r i)).length∧ptS c (eN (rN r i))∉trk (rN r i)∧(nd (ndsE (rN r i))).Nodup:=by
 have h:=(w.all i hi).2
 unfold wfE wfR at h
 simp only[Bool.and_eq_true,decide_eq_true_eq,Bool.not_eq_true',decide_eq_false_iff_not]at h
 exact⟨h.1,h.2.1,h.2.2.2.1⟩
theorem fC_bit {i k:Nat}(hi:i<r.length)(hk:k<r.length):(fC b r i).getLsbD k=clN b r i k:=by
 have:=w.lr
 have:=tab_bit b r hi w.lr (show k<64 by omega)
 unfold bitT at this
 unfold fC
 rw[this,decide_eq_true hk,Bool.true_and]
theorem apart {i k:Nat}(hi:i<r.length)(hk:k<r.length)(hik:i≠k)(h:clN b r i k=false):
  (∀x∈trk (rN r i),x∉trk (rN r k))∧ ∀x∈ndsE (rN r i),∀y∈ndsE (rN r k),f1 x=f1 y→g2 x=g2 y:=by
 obtain⟨-,-,ni⟩:=q3g w hi
 obtain⟨-,-,nk⟩:=q3g w hk
 unfold clN clF at h
 rw[df (show¬(i:Int)=(k:Int) by omega)]at h
 have h:cfE b (rN r i) (rN r k)=false:=h
 unfold cfE at h
 rw[Bool.or_eq_false_iff,Bool.or_eq_false_iff,Bool.or_eq_false_iff]at h
 obtain⟨-,c2,c3,-⟩:=h
 rw[sds_nd ni,sds_nd nk]at c3
 refine⟨fun x hx hy=> ?_,fun x hx y hy e=> ?_⟩
 ·unfold shF at c2
  rw[List.any_eq_false]at c2
  exact c2 x hx (dt hy)
 ·unfold unF at c3
  rw[List.any_eq_false]at c3
  have:=c3 x hx
  unfold unAt at this
  rw[e,n2x nk hy]at this
  have this: ¬(g2 y !=g2 x)=true:=this
  revert this
  cases g2 x<;>cases g2 y<;>simp
end
theorem p3n (X:B64){i:Nat}(h:i<64):hasB X (i:Int)=X.getLsbD i:=by
 unfold hasB inN
 rw[decide_eq_true (show(0:Int)≤(i:Int) by omega),decide_eq_true (show(i:Int)<64 by omega)];rfl
def putB (X:B64)(k:Nat)(v:Bool):B64:=bif v then(X&&& ~~~p2 k)|||p2 k else X&&& ~~~p2 k
theorem i4k (X:B64)(k:Nat)(v:Bool){j:Nat}(hj:j<64):(putB X k v).getLsbD j=bif decide (j=k)then v else X.getLsbD j:=by
 have h: ∀Y:B64,(Y&&& ~~~p2 k).getLsbD j=bif decide (j=k)then false else Y.getLsbD j:=by
  intro Y
  rw[BitVec.getLsbD_and,BitVec.getLsbD_not,h2g,dt hj,Bool.true_and,Bool.true_and]
  by_cases e:j=k
  ·rw[dt e];simp
  ·rw[df e];simp
 unfold putB
 cases v with
 |true=>
  rw[cond_true,BitVec.getLsbD_or,h,h2g,dt hj,Bool.true_and]
  by_cases e:j=k
  ·rw[dt e];simp
  ·rw[df e];simp
 |false=>rw[cond_false,h]
theorem h38 (X:B64){k:Nat}(hk:k<64):w3v [.n (N X),.n (k:Int)]=some (0,[.b (X.getLsbD k)]):=by
 rw[x3k (by omega),iandB]
theorem h37 (X:B64)(k:Nat)(v:Bool):y3y [.n (N X),.n (k:Int),.b v]=some (0,[.n (N (putB X k v))]):=by
 cases v with
 |true=>rw[g4o (by omega) rfl,ishl1,q1y,t4d];rfl
 |false=>rw[g4k (by omega) rfl,ishl1,q1y];rfl
def mem (X:B64)(n:Nat):List Int:=((List.range n).filter fun i=>X.getLsbD i).map Int.ofNat
theorem y3h (X:B64)(k:Nat):mem X (k+1)=if X.getLsbD k=true then mem X k++[Int.ofNat k]else mem X k:=by
 unfold mem
 rw[List.range_succ,List.filter_append,List.map_append]
 by_cases h:X.getLsbD k=true<;>simp[h]
theorem f4m (X:B64)(n:Nat):(mem X n).length≤n:=by
 unfold mem
 rw[List.length_map]
 exact Nat.le_trans (List.length_filter_le _ _) (Nat.le_of_eq List.length_range)
theorem f4g {X:B64}{n:Nat}{x:Int}:x∈mem X n↔ ∃i,i<n∧X.getLsbD i=true∧x=(i:Int):=by
 unfold mem
 simp only[List.mem_map,List.mem_filter,List.mem_range]
 constructor
 ·rintro⟨i,⟨h1,h2⟩,e⟩;exact⟨i,h1,h2,e.symm⟩
 ·rintro⟨i,h1,h2,e⟩;exact⟨i,⟨h1,h2⟩,e.symm⟩
theorem h31 (X:B64){n:Nat}(hn:n≤64):w3t [.n (N X),.n (n:Int)]=some (0,[.l TI (mem X n)]):=by
 refine x3y ?_
 rw[w3y]
 refine b0a (st:=w3e) (fun i=>[.k 0,.n (N X),.n (n:Int),.n (i:Int),.l TI (mem X i)]) n (0,[.l TI (mem X n)]) (fun i hi=> ?_) ?_ FU (b1w (by omega))
 ·show _=some (Step.go [.k 0,.n (N X),.n (n:Int),.n ((i+1:Nat):Int),.l TI (mem X (i+1))])
  rw[y3h,←w1n i (by omega)]
  have hl:=f4m X i
  cases h:X.getLsbD i with
  |true=>
   rw[if_pos rfl]
   exact w3z (by omega) (by omega) (h38 X (by omega)) h (show(List.length (α:=Int) (mem X i)+1)*8≤140737488355328 by omega)
  |false=>
   rw[if_neg (by simp)]
   exact x3a (by omega) (by omega) (h38 X (by omega)) h
 ·exact w3x (by omega) (by omega)
abbrev Qr:=Ty.den TQr
def qrow (b c:LP)(r:LR)(i:Nat):Qr:=(ptS c (eN (rN r i)),p0 (rN r i),trk (rN r i),ndsE (rN r i),mem (fC b r i) r.length)
def w3k (b c:LP)(r:LR)(k:Nat):List Qr:=(List.range k).map (qrow b c r)
theorem x3t (b c:LP)(r:LR)(k:Nat):(w3k b c r k).length=k:=by unfold w3k;rw[List.length_map,List.length_range]
theorem x3i (b c:LP)(r:LR)(k:Nat):w3k b c r (k+1)=apL (w3k b c r k) [qrow b c r k]:=by unfold w3k;rw[List.range_succ,List.map_append];rfl
theorem d4l (b c:LP)(r:LR){k i:Nat}(h:i<k):(w3k b c r k).getD i (Ty.dflt TQr)=qrow b c r i:=by
 unfold w3k
 rw[List.getD_eq_getElem?_getD,List.getElem?_map,List.getElem?_range h];rfl
def lie (b:LP)(k:Nat):List Int:=(List.range k).map fun i=>gP (b.getD i (Ty.dflt TPt))
theorem a4c (b:LP)(k:Nat):(lie b k).length=k:=by unfold lie;rw[List.length_map,List.length_range]
theorem y3f (b:LP)(k:Nat):lie b (k+1)=lie b k++[gP (b.getD k (Ty.dflt TPt))]:=by unfold lie;rw[List.range_succ,List.map_append];rfl
theorem o4o (b:LP){k i:Nat}(h:i<k):(lie b k).getD i 0=ptS b (i:Int):=by
 unfold lie ptS
 rw[List.getD_eq_getElem?_getD,List.getElem?_map,List.getElem?_range h,Int.toNat_natCast];rfl
theorem l11_6 (a:LS)(b c:LP)(r:LR)(T:List Int)(hb:b.length≤32):
  w3n [.k 0,.l TPt b,.n (b.length:Int),.n 0,.l TS a,.l TPt b,.l TPt c,.l TRt r,.l TU T,.l TI []]=some (0,[.l TS a,.l TPt b,.l TPt c,.l TRt r,.l TU T,.l TI (lie b b.length)]):=by
 rw[x3b]
 refine b0a (st:=w3f) (fun i=>[.k 0,.l TPt b,.n (b.length:Int),.n (i:Int),.l TS a,.l TPt b,.l TPt c,.l TRt r,.l TU T,.l TI (lie b i)]) b.length (0,[.l TS a,.l TPt b,.l TPt c,.l TRt r,.l TU T,.l TI (lie b b.length)]) (fun i hi=> ?_) ?_ FU (b1w (by omega))
 ·show _=some (Step.go [.k 0,.l TPt b,.n (b.length:Int),.n ((i+1:Nat):Int),.l TS a,.l TPt b,.l TPt c,.l TRt r,.l TU T,.l TI (lie b (i+1))])
  rw[y3f,←w1n i (by omega)]
  have hl:=a4c b i
  exact x3c (by omega) rfl (by omega) (show(List.length (α:=Int) (lie b i)+1)*8≤140737488355328 by omega)
 ·exact x3d (by omega) rfl (by omega)
theorem l11_11 (a:LS)(b c:LP)(r:LR)(L:List Int)(w:WF a b c r):
  w3j [.k 0,.l TRt r,.n (r.length:Int),.n 0,.l TS a,.l TPt b,.l TPt c,.l TRt r,.l TU (NL (tabB b r)),.l TI L,.l TQr []]=some (0,[.l TI L,.l TQr (w3k b c r r.length)]):=by
 have lr:=w.lr
 rw[w3u]
 refine b0a (st:=w3d) (fun i=>[.k 0,.l TRt r,.n (r.length:Int),.n (i:Int),.l TS a,.l TPt b,.l TPt c,.l TRt r,.l TU (NL (tabB b r)),.l TI L,.l TQr (w3k b c r i)]) r.length (0,[.l TI L,.l TQr (w3k b c r r.length)]) (fun i hi=> ?_) ?_ FU (b1w (by omega))
 ·show _=some (Step.go [.k 0,.l TRt r,.n (r.length:Int),.n ((i+1:Nat):Int),.l TS a,.l TPt b,.l TPt c,.l TRt r,.l TU (NL (tabB b r)),.l TI L,.l TQr (w3k b c r (i+1))])
  rw[x3i,←w1n i (by omega)]
  have hl:=x3t b c r i
  obtain⟨⟨⟨k1,k2⟩,⟨l1,l2,l3,l4⟩,k3,k4⟩,-⟩:=w.all i hi
  have hp:=(q3g w hi).1
  have ht:=tab_len b r
  have e6:w3t [.n (List.getD (NL (tabB b r)) (Int.toNat (i:Int)) (0:Int)),.n (r.length:Int)]=some (0,[.l TI (mem (fC b r i) r.length)]):=by
   rw[Int.toNat_natCast,NL_at];exact h31 _ w.lr
  exact w3w (by omega) rfl (by omega) (h1s k1 k2) (h1s (by omega) (Int.ofNat_lt.2 hp)) (o9 _ _ _ _ _ _ l1 l2 l3 l4) (o10 _ _ _ _ _ _ l1 l2 l3 l4) (h1s (by omega) (Int.ofNat_lt.2 (Nat.lt_of_lt_of_eq hi ht.symm))) e6 (by omega)
 ·exact w3r (by omega) rfl (by omega)
def newA (a:LS)(b c:LP)(r:LR):Nat×List Dat:=if(ckA a b c r).1=0 then(0,[.n 0,.l TI (lie b b.length),.l TQr (w3k b c r r.length)])else(1,[.n (ckA a b c r).1])
theorem o11i (a:LS)(b c:LP)(r:LR)(hs:okS a b c r):w3m [.l TS a,.l TPt b,.l TPt c,.l TRt r]=some (newA a b c r):=by
 have e:=o17c a b c r hs
 unfold newA
 by_cases h:(ckA a b c r).1=0
 ·rw[if_pos h]at e⊢
  have w:=wf_of h
  exact x3u e rfl (l11_6 a b c r _ w.lb) (l11_11 a b c r _ w)
 ·rw[if_neg h]at e⊢
  exact x3x e h
theorem e4a {α:Type}{st:List Dat→Tree Step}{lop:OpA}{fop:Option (Nat×List Dat)}(l:List α)(d:α)(p:α→Bool)(s:Nat→List Dat)(E:List Dat)(hl:l.length≤100000)(heq:lop (s 0)=a0b st FU (s 0))
  (go: ∀i,i<l.length→p (l.getD i d)=false→(st (s i)).sel=some (.go (s (i+1)))) (hit: ∀i,i<l.length→p (l.getD i d)=true→(st (s i)).sel=some (.stop 1 (.n (i:Int)::E))) (stop:(st (s l.length)).sel=some (.stop 0 E))
  (no:lop (s 0)=some (0,E)→fop=some (0,.n (-1)::E)) (yes: ∀k:Nat,lop (s 0)=some (1,.n (k:Int)::E)→fop=some (0,.n (k:Int)::E)): ∃z:Int,fop=some (0,.n z::E)∧decide (z≥0)=l.any p:=by
 have e:=f0f (st:=st) s l.length (fun i=>p (l.getD i d)) (fun k=>(1,.n (k:Int)::E)) (0,E) go hit stop FU (by unfold FU;omega)
 rw[←heq]at e
 have ha:=c0g l d p
 cases hf:b0i (fun i=>p (l.getD i d)) l.length with
 |none=>
  rw[hf]at e
  refine⟨-1,no e,?_⟩
  rw[←ha]
  refine(?_:_=false).symm
  rw[List.any_eq_false]
  intro i hi
  rw[List.mem_range'_1]at hi
  rw[b0r hf i (by omega)];simp
 |some k=>
  rw[hf]at e
  obtain⟨g1,g2',_⟩:=b0x hf
  refine⟨(k:Int),yes k e,?_⟩
  rw[←ha,dt (show(k:Int)≥0 by omega)]
  exact(List.any_eq_true.2 ⟨k,List.mem_range'_1.2 (by omega),g2'⟩).symm
structure SQ where
 L:B64
 U:B64
 C:B64
 T:List Int
 P:BitVec 32
theorem h38i (X:B64){x:Int}(h0:0≤x)(h1:x<64):w3v [.n (N X),.n x]=some (0,[.b (X.getLsbD x.toNat)]):=by
 obtain⟨k,rfl⟩: ∃k:Nat,x=k:=⟨x.toNat,by omega⟩
 exact h38 X (by omega)
theorem p4u (P:BitVec 32):IntKind.wrap .u64 (N P)=N (P.setWidth 64):=by
 rw[k2v]
 refine congrArg N (BitVec.eq_of_toNat_eq ?_)
 rw[BitVec.toNat_ofInt,BitVec.toNat_setWidth]
 have:=P.isLt
 unfold N;omega
theorem h38P (P:BitVec 32){x:Int}(h0:0≤x)(h1:x<32):w3v [.n (IntKind.wrap .u64 (N P)),.n x]=some (0,[.b (P.getLsbD x.toNat)]):=by
 rw[p4u,h38i _ h0 (by omega),BitVec.getLsbD_setWidth,dt (show x.toNat<64 by omega),Bool.true_and]
def turn (P:BitVec 32)(d:Ty.den TNd):Bool:= !(P.getLsbD (f1 d).toNat==g2 d)
def clr (O:B64)(x:Int):Bool:= !O.getLsbD x.toNat
def in64 (l:List Int):Prop:=l.length≤100000∧ ∀x∈l,0≤x∧x<64
def in32 (l:LN):Prop:=l.length≤100000∧ ∀d∈l,0≤f1 d∧f1 d<32
theorem d4y {b:Bool}(h:(!b)=true):b=false:=by cases b<;>simp_all
theorem k4c {b:Bool}(h:(!b)=false):b=true:=by cases b<;>simp_all
theorem k77 (l:List Int)(s:SQ)(hp:in64 l): ∃z:Int,b4c [.l TI l,.n (N s.L),.n (N s.U),.n (N s.C),.l TB s.T,.n (N s.P)]=some (0,.n z::[.n (N s.L),.n (N s.U),.n (N s.C),.l TB s.T,.n (N s.P)])∧decide (z≥0)=l.any (fun x=>s.L.getLsbD x.toNat):=by
 refine e4a (st:=y3w) (lop:=z3h) l (0:Int) (fun x=>s.L.getLsbD x.toNat) (fun i=>[.k 0,.l TI l,.n (l.length:Int),.n (i:Int),.n (N s.L),.n (N s.U),.n (N s.C),.l TB s.T,.n (N s.P)]) [.n (N s.L),.n (N s.U),.n (N s.C),.l TB s.T,.n (N s.P)] hp.1 (c4q _) (fun i hi h=> ?_) (fun i hi h=> ?_) (b4z (by omega) rfl (by omega)) (fun e=>f4z e) (fun k e=>e4u e)
 ·show _=some (Step.go [.k 0,.l TI l,.n (l.length:Int),.n ((i+1:Nat):Int),.n (N s.L),.n (N s.U),.n (N s.C),.l TB s.T,.n (N s.P)])
  obtain⟨q1,q2⟩:=hp.2 _ (sAtG l (0:Int) hi)
  rw[←w1n i (by have:=hp.1;omega)]
  exact b4p (by omega) rfl (by omega) (h38i s.L q1 q2) h
 ·obtain⟨q1,q2⟩:=hp.2 _ (sAtG l (0:Int) hi)
  exact b4u (by omega) rfl (by omega) (h38i s.L q1 q2) h
theorem k78 (l:LN)(s:SQ)(hp:in32 l): ∃z:Int,b4b [.l TNd l,.n (N s.L),.n (N s.U),.n (N s.C),.l TB s.T,.n (N s.P)]=some (0,.n z::[.n (N s.L),.n (N s.U),.n (N s.C),.l TB s.T,.n (N s.P)])∧decide (z≥0)=l.any (turn s.P):=by
 refine e4a (st:=y3u) (lop:=z3f) l (Ty.dflt TNd) (turn s.P) (fun i=>[.k 0,.l TNd l,.n (l.length:Int),.n (i:Int),.n (N s.L),.n (N s.U),.n (N s.C),.l TB s.T,.n (N s.P)]) [.n (N s.L),.n (N s.U),.n (N s.C),.l TB s.T,.n (N s.P)] hp.1 (b4v _) (fun i hi h=> ?_) (fun i hi h=> ?_) (b4q (by omega) rfl (by omega)) (fun e=>e4o e) (fun k e=>g4x e)
 ·show _=some (Step.go [.k 0,.l TNd l,.n (l.length:Int),.n ((i+1:Nat):Int),.n (N s.L),.n (N s.U),.n (N s.C),.l TB s.T,.n (N s.P)])
  obtain⟨q1,q2⟩:=hp.2 _ (sAtG l (Ty.dflt TNd) hi)
  rw[←w1n i (by have:=hp.1;omega)]
  exact c4h (by omega) rfl (by omega) (h38P s.P q1 q2) (k4c h)
 ·obtain⟨q1,q2⟩:=hp.2 _ (sAtG l (Ty.dflt TNd) hi)
  exact b4o (by omega) rfl (by omega) (h38P s.P q1 q2) (d4y h)
theorem k113 (l:List Int)(O:B64)(nm rv:Int)(cm:List (Ty.den TCmd))(s:SQ)(A:List Int)(Q:List Qr)(hp:in64 l): ∃z:Int,j4x [.l TI l,.n (N O),.n nm,.n rv,.l TCmd cm,.n (N s.L),.n (N s.U),.n (N s.C),.l TB s.T,.n (N s.P),.l TI A,.l TQr Q]=some (0,.n z::[.n (N O),.n nm,.n rv,.l TCmd cm,.n (N s.L),.n (N s.U),.n (N s.C),.l TB s.T,.n (N s.P),.l TI A,.l TQr Q])∧decide (z≥0)=l.any (fun x=> !clr O x):=by
 refine e4a (st:=f4k) (lop:=j4i) l (0:Int) (fun x=> !clr O x) (fun i=>[.k 0,.l TI l,.n (l.length:Int),.n (i:Int),.n (N O),.n nm,.n rv,.l TCmd cm,.n (N s.L),.n (N s.U),.n (N s.C),.l TB s.T,.n (N s.P),.l TI A,.l TQr Q]) [.n (N O),.n nm,.n rv,.l TCmd cm,.n (N s.L),.n (N s.U),.n (N s.C),.l TB s.T,.n (N s.P),.l TI A,.l TQr Q] hp.1 (k4r _) (fun i hi h=> ?_) (fun i hi h=> ?_) (l4e (by omega) rfl (by omega)) (fun e=>n4x e) (fun k e=>n4y e)
 ·show _=some (Step.go [.k 0,.l TI l,.n (l.length:Int),.n ((i+1:Nat):Int),.n (N O),.n nm,.n rv,.l TCmd cm,.n (N s.L),.n (N s.U),.n (N s.C),.l TB s.T,.n (N s.P),.l TI A,.l TQr Q])
  obtain⟨q1,q2⟩:=hp.2 _ (sAtG l (0:Int) hi)
  rw[←w1n i (by have:=hp.1;omega)]
  exact l4p (by omega) rfl (by omega) (h38i O q1 q2) (k4c h)
 ·obtain⟨q1,q2⟩:=hp.2 _ (sAtG l (0:Int) hi)
  exact k4q (by omega) rfl (by omega) (h38i O q1 q2) (d4y h)
theorem k39 (s:SQ)(l:List Int)(hp:in64 l):a4f [.n (N s.L),.n (N s.U),.n (N s.C),.l TB s.T,.n (N s.P),.l TI l]=some (0,[.b (l.any fun x=>s.L.getLsbD x.toNat)]):=by
 obtain⟨z,e,h⟩:=k77 l s hp
 exact(f4c e).trans (by rw[h])
theorem k40 (s:SQ)(x y:Int)(t cf:List Int)(l:LN)(hp:in32 l):b4l [.n (N s.L),.n (N s.U),.n (N s.C),.l TB s.T,.n (N s.P),.n x,.n y,.l TI t,.l TNd l,.l TI cf]=some (0,[.b (!l.any (turn s.P))]):=by
 obtain⟨z,e,h⟩:=k78 l s hp
 exact(g4w e).trans (by rw[h])
theorem k74 (x y:Int)(t cf:List Int)(l:LN)(O:B64)(nm rv:Int)(cm:List (Ty.den TCmd))(s:SQ)(A:List Int)(Q:List Qr)(hp:in64 t):j4c [.n x,.n y,.l TI t,.l TNd l,.l TI cf,.n (N O),.n nm,.n rv,.l TCmd cm,.n (N s.L),.n (N s.U),.n (N s.C),.l TB s.T,.n (N s.P),.l TI A,.l TQr Q]=some (0,[.b (t.all (clr O)),.n (N O),.n nm,.n rv,.l TCmd cm,.n (N s.L),.n (N s.U),.n (N s.C),.l TB s.T,.n (N s.P),.l TI A,.l TQr Q]):=by
 obtain⟨z,e,h⟩:=k113 t O nm rv cm s A Q hp
 exact(p4y e).trans (by rw[h,List.not_any_eq_all_not];simp only[Bool.not_not])
theorem h4a (X:B64){k:Nat}(hk:k<64):putB (X&&&firB k) k (X.getLsbD k)=X&&&firB (k+1):=by
 apply BitVec.eq_of_getLsbD_eq
 intro j hj
 rw[i4k _ _ _ hj,BitVec.getLsbD_and,BitVec.getLsbD_and,y0i (by omega),y0i (by omega)]
 by_cases e:j=k
 ·subst e;rw[dt rfl,dt (show j<j+1 by omega)];simp
 ·rw[df e,cond_false]
  have:decide (j<k)=decide (j<k+1):=by rw[Bool.eq_iff_iff];simp;omega
  rw[this]
def tmL (X:B64)(T:List Int)(k:Nat):List Int:=(List.range 64).map fun n=>bif decide (n<k)&&X.getLsbD n then imin (T.getD n 0) 20 else 0
theorem y3r (X:B64)(T:List Int)(k:Nat):(tmL X T k).length=64:=by unfold tmL;rw[List.length_map,List.length_range]
theorem a4a (X:B64)(T:List Int)(k:Nat){n:Nat}(h:n<64):(tmL X T k).getD n 0=bif decide (n<k)&&X.getLsbD n then imin (T.getD n 0) 20 else 0:=by
 unfold tmL
 rw[List.getD_eq_getElem?_getD,List.getElem?_map,List.getElem?_range h];rfl
theorem h4r {l l':List Int}(h:l.length=64)(h':l'.length=64)(e: ∀n,n<64→l.getD n 0=l'.getD n 0):l=l':=by
 apply List.ext_getElem (by omega)
 intro n h1 h2
 have:=e n (by omega)
 rwa [j0x _ _ h1,j0x _ _ h2]at this
theorem n4h (l:List Int){i n:Nat}(v:Int)(h:n<l.length):(l.set i v).getD n 0=bif decide (i=n)then v else l.getD n 0:=by
 rw[j0x _ _ (by rw[List.length_set];exact h),List.getElem_set,j0x _ _ h]
 by_cases e:i=n
 ·rw[if_pos e,dt e];rfl
 ·rw[if_neg e,df e];rfl
theorem tmL_t {X:B64}(T:List Int){i:Nat}(hi:i<64)(h:X.getLsbD i=true):(tmL X T i).set i (imin (T.getD i 0) 20)=tmL X T (i+1):=by
 refine h4r (by rw[List.length_set,y3r]) (y3r ..) fun n hn=> ?_
 rw[n4h _ _ (by rw[y3r];exact hn),a4a _ _ _ hn,a4a _ _ _ hn]
 by_cases e:i=n
 ·subst e;rw[dt rfl,dt (show i<i+1 by omega),h];rfl
 ·have:decide (n<i)=decide (n<i+1):=by rw[Bool.eq_iff_iff];simp;omega
  rw[df e,this];rfl
theorem tmL_f {X:B64}(T:List Int){i:Nat}(h:X.getLsbD i=false):tmL X T i=tmL X T (i+1):=by
 refine h4r (y3r ..) (y3r ..) fun n hn=> ?_
 rw[a4a _ _ _ hn,a4a _ _ _ hn]
 by_cases e:i=n
 ·subst e;rw[h];simp
 ·have:decide (n<i)=decide (n<i+1):=by rw[Bool.eq_iff_iff];simp;omega
  rw[this]
theorem tmL_0 (X:B64)(T:List Int):tmL X T 0=List.replicate 64 0:=by
 refine h4r (y3r ..) List.length_replicate fun n hn=> ?_
 rw[a4a _ _ _ hn,j0x (List.replicate 64 (0:Int)) 0 (by rw[List.length_replicate];exact hn),List.getElem_replicate];simp
abbrev y3x (i k:Nat)(s:SQ):SQ:=⟨s.L&&&firB i,(s.L&&&s.U)&&&firB i,(s.L&&&s.C)&&&firB i,tmL (s.L&&&s.C) s.T i,s.P&&&(firB k).setWidth 32⟩
theorem i4c (P:BitVec 32){k:Nat}(hk:k<32):ior IntKind.u32 (N (P&&&(firB k).setWidth 32)) (iand IntKind.u32 (N P) (ishl IntKind.u32 (1:Int) (k:Int)))=N (P&&&(firB (k+1)).setWidth 32):=by
 rw[show(1:Int)=N 1#32 from rfl,s4v,r2g,ior_u32]
 refine congrArg N (BitVec.eq_of_getLsbD_eq fun j hj=> ?_)
 rw[BitVec.getLsbD_or,BitVec.getLsbD_and,BitVec.getLsbD_and,BitVec.getLsbD_and,BitVec.getLsbD_setWidth,BitVec.getLsbD_setWidth,y0i (by omega),y0i (by omega),BitVec.getLsbD_shiftLeft]
 by_cases e:j=k
 ·subst e;simp[hj]
 ·by_cases q:j<k
  ·rw[dt q,dt (show j<k+1 by omega),dt hj];simp[q]
  ·rw[df q,df (show¬j<k+1 by omega)]
   have:(1#32).getLsbD (j-k)=false:=by
    rw[BitVec.getLsbD_one];simp;omega
   rw[this];simp
abbrev zst:SQ:=⟨0#64,0#64,0#64,List.replicate 64 0,0#32⟩
theorem l14_5 (s z:SQ)(A:List Int)(Q:List Qr)(hQ:Q.length≤64):a4p [.k 0,.n (Q.length:Int),.n 0,.l TI A,.l TQr Q,.n (N s.L),.n (N s.U),.n (N s.C),.l TB s.T,.n (N s.P),.n (N z.L),.n (N z.U),.n (N z.C),.l TB z.T,.n (N z.P),.n (N (s.L&&&firB 0)),.n (N ((s.L&&&s.U)&&&firB 0)),.n (N ((s.L&&&s.C)&&&firB 0)),.l TB (tmL (s.L&&&s.C) s.T 0),.n (N (s.P&&&(firB 0).setWidth 32))]=some (0,[.l TI A,.l TQr Q,.n (N s.L),.n (N s.U),.n (N s.C),.l TB s.T,.n (N s.P),.n (N z.L),.n (N z.U),.n (N z.C),.l TB z.T,.n (N z.P),.n (N (s.L&&&firB Q.length)),.n (N ((s.L&&&s.U)&&&firB Q.length)),.n (N ((s.L&&&s.C)&&&firB Q.length)),.l TB (tmL (s.L&&&s.C) s.T Q.length),.n (N (s.P&&&(firB 0).setWidth 32))]):=by
 rw[b4n]
 refine b0a (st:=y3l) (fun i=>[.k 0,.n (Q.length:Int),.n (i:Int),.l TI A,.l TQr Q,.n (N s.L),.n (N s.U),.n (N s.C),.l TB s.T,.n (N s.P),.n (N z.L),.n (N z.U),.n (N z.C),.l TB z.T,.n (N z.P),.n (N (s.L&&&firB i)),.n (N ((s.L&&&s.U)&&&firB i)),.n (N ((s.L&&&s.C)&&&firB i)),.l TB (tmL (s.L&&&s.C) s.T i),.n (N (s.P&&&(firB 0).setWidth 32))]) Q.length (0,[.l TI A,.l TQr Q,.n (N s.L),.n (N s.U),.n (N s.C),.l TB s.T,.n (N s.P),.n (N z.L),.n (N z.U),.n (N z.C),.l TB z.T,.n (N z.P),.n (N (s.L&&&firB Q.length)),.n (N ((s.L&&&s.U)&&&firB Q.length)),.n (N ((s.L&&&s.C)&&&firB Q.length)),.l TB (tmL (s.L&&&s.C) s.T Q.length),.n (N (s.P&&&(firB 0).setWidth 32))]) (fun i hi=> ?_) ?_ FU (b1w (by omega))
 ·show _=some (Step.go [.k 0,.n (Q.length:Int),.n ((i+1:Nat):Int),.l TI A,.l TQr Q,.n (N s.L),.n (N s.U),.n (N s.C),.l TB s.T,.n (N s.P),.n (N z.L),.n (N z.U),.n (N z.C),.l TB z.T,.n (N z.P),.n (N (s.L&&&firB (i+1))),.n (N ((s.L&&&s.U)&&&firB (i+1))),.n (N ((s.L&&&s.C)&&&firB (i+1))),.l TB (tmL (s.L&&&s.C) s.T (i+1)),.n (N (s.P&&&(firB 0).setWidth 32))])
  rw[←w1n i (by omega)]
  have hi':i<64:=by omega
  have e2:=h37 (s.L&&&firB i) i (s.L.getLsbD i)
  have e4:=h37 ((s.L&&&s.U)&&&firB i) i ((s.L&&&s.U).getLsbD i)
  have e6:=h37 ((s.L&&&s.C)&&&firB i) i ((s.L&&&s.C).getLsbD i)
  rw[h4a _ hi']at e2 e4 e6
  have e3:=h38 (s.L&&&s.U) hi'
  have e5:=h38 (s.L&&&s.C) hi'
  rw[←u1v]at e3 e5
  have e7:=h38 ((s.L&&&s.C)&&&firB (i+1)) hi'
  have hc:((s.L&&&s.C)&&&firB (i+1)).getLsbD i=(s.L&&&s.C).getLsbD i:=by
   rw[BitVec.getLsbD_and,y0i (by omega),dt (show i<i+1 by omega),Bool.and_true]
  cases h:(s.L&&&s.C).getLsbD i with
  |true=>
   have t:=c4i (l2:=A) (l3:=Q) (l7:=s.T) (n8:=N s.P) (n9:=N z.L) (n10:=N z.U) (n11:=N z.C) (l12:=z.T) (n13:=N z.P) (l17:=tmL (s.L&&&s.C) s.T i) (n18:=N (s.P&&&(firB 0).setWidth 32)) (by omega) (show(i:Int)<(Q.length:Int) by omega) (h38 s.L hi') e2 e3 e4 e5 e6 e7 (hc.trans h) (h1s (by omega) (by omega))
   have g:=tmL_t s.T hi' h
   have t2:(y3l _).sel=some (Step.go [.k 0,.n (Q.length:Int),.n (IntKind.wrap .i64 ((i:Int)+1)),.l TI A,.l TQr Q,.n (N s.L),.n (N s.U),.n (N s.C),.l TB s.T,.n (N s.P),.n (N z.L),.n (N z.U),.n (N z.C),.l TB z.T,.n (N z.P),.n (N (s.L&&&firB (i+1))),.n (N ((s.L&&&s.U)&&&firB (i+1))),.n (N ((s.L&&&s.C)&&&firB (i+1))),.l TB ((tmL (s.L&&&s.C) s.T i).set i (imin (s.T.getD i 0) 20)),.n (N (s.P&&&(firB 0).setWidth 32))]):=t
   rw[g]at t2
   exact t2
  |false=>
   have t:=c4a (l2:=A) (l3:=Q) (l7:=s.T) (n8:=N s.P) (n9:=N z.L) (n10:=N z.U) (n11:=N z.C) (l12:=z.T) (n13:=N z.P) (l17:=tmL (s.L&&&s.C) s.T i) (n18:=N (s.P&&&(firB 0).setWidth 32)) (by omega) (show(i:Int)<(Q.length:Int) by omega) (h38 s.L hi') e2 e3 e4 e5 e6 e7 (hc.trans h)
   have t2:(y3l _).sel=some (Step.go [.k 0,.n (Q.length:Int),.n (IntKind.wrap .i64 ((i:Int)+1)),.l TI A,.l TQr Q,.n (N s.L),.n (N s.U),.n (N s.C),.l TB s.T,.n (N s.P),.n (N z.L),.n (N z.U),.n (N z.C),.l TB z.T,.n (N z.P),.n (N (s.L&&&firB (i+1))),.n (N ((s.L&&&s.U)&&&firB (i+1))),.n (N ((s.L&&&s.C)&&&firB (i+1))),.l TB (tmL (s.L&&&s.C) s.T (i+1)),.n (N (s.P&&&(firB 0).setWidth 32))]):=t.trans (by rw[tmL_f s.T h])
   exact t2
 ·exact c4k (by omega) (by omega)
theorem l14_14 (s z t:SQ)(A:List Int)(Q:List Qr)(hA:A.length≤32):z3w [.k 0,.n (A.length:Int),.n 0,.l TI A,.l TQr Q,.n (N s.L),.n (N s.U),.n (N s.C),.l TB s.T,.n (N s.P),.n (N z.L),.n (N z.U),.n (N z.C),.l TB z.T,.n (N z.P),.n (N t.L),.n (N t.U),.n (N t.C),.l TB t.T,.n (N (s.P&&&(firB 0).setWidth 32))]=some (0,[.l TI A,.l TQr Q,.n (N z.L),.n (N z.U),.n (N z.C),.l TB z.T,.n (N z.P),.n (N t.L),.n (N t.U),.n (N t.C),.l TB t.T,.n (N (s.P&&&(firB A.length).setWidth 32))]):=by
 rw[b4i]
 refine b0a (st:=y3q) (fun i=>[.k 0,.n (A.length:Int),.n (i:Int),.l TI A,.l TQr Q,.n (N s.L),.n (N s.U),.n (N s.C),.l TB s.T,.n (N s.P),.n (N z.L),.n (N z.U),.n (N z.C),.l TB z.T,.n (N z.P),.n (N t.L),.n (N t.U),.n (N t.C),.l TB t.T,.n (N (s.P&&&(firB i).setWidth 32))]) A.length (0,[.l TI A,.l TQr Q,.n (N z.L),.n (N z.U),.n (N z.C),.l TB z.T,.n (N z.P),.n (N t.L),.n (N t.U),.n (N t.C),.l TB t.T,.n (N (s.P&&&(firB A.length).setWidth 32))]) (fun i hi=> ?_) ?_ FU (b1w (by omega))
 ·show _=some (Step.go [.k 0,.n (A.length:Int),.n ((i+1:Nat):Int),.l TI A,.l TQr Q,.n (N s.L),.n (N s.U),.n (N s.C),.l TB s.T,.n (N s.P),.n (N z.L),.n (N z.U),.n (N z.C),.l TB z.T,.n (N z.P),.n (N t.L),.n (N t.U),.n (N t.C),.l TB t.T,.n (N (s.P&&&(firB (i+1)).setWidth 32))])
  rw[←w1n i (by omega)]
  rw[←i4c s.P (show i<32 by omega)]
  exact a4r (by omega) (by omega)
 ·exact a4t (by omega) (by omega)
theorem k14 (s:SQ)(A:List Int)(Q:List Qr)(hA:A.length≤32)(hQ:Q.length≤64):y3z [.n (N s.L),.n (N s.U),.n (N s.C),.l TB s.T,.n (N s.P),.l TI A,.l TQr Q]=some (0,[.n (N (s.L&&&firB Q.length)),.n (N ((s.L&&&s.U)&&&firB Q.length)),.n (N ((s.L&&&s.C)&&&firB Q.length)),.l TB (tmL (s.L&&&s.C) s.T Q.length),.n (N (s.P&&&(firB A.length).setWidth 32)),.l TI A,.l TQr Q]):=by
 have e1:=l14_5 s zst A Q hQ
 rw[tmL_0,show firB 0=0#64 from rfl,BitVec.and_zero,BitVec.and_zero,BitVec.and_zero,show BitVec.setWidth 32 0#64=0#32 from rfl,BitVec.and_zero]at e1
 have e2:=l14_14 s zst (y3x Q.length 0 s) A Q hA
 rw[show firB 0=0#64 from rfl,show BitVec.setWidth 32 0#64=0#32 from rfl,BitVec.and_zero]at e2
 exact e4q e1 e2
theorem e4i (k:IntKind): ∀l l':List Int,eqL (.int k) l l'=true↔l=l'
 |[],[]=>by simp[eqL]
 |[],_::_=>by simp[eqL]
 |_::_,[]=>by simp[eqL]
 |x::l,y::l'=>by
  show(eqD (.int k) x y&&eqL (.int k) l l')=true↔_
  rw[Bool.and_eq_true,e4i k l l',List.cons.injEq]
  show(x==y)=true∧_↔_
  rw[beq_iff_eq]
def eqS (s t:SQ):Bool:=N s.L==N t.L&&(N s.U==N t.U&&(N s.C==N t.C&&(eqL TB s.T t.T&&(N s.P==N t.P&&true))))
theorem a4k (s t:SQ):eqS s t=true↔s=t:=by
 unfold eqS
 simp only[Bool.and_eq_true,beq_iff_eq,N_eq]
 rw[show eqL TB s.T t.T=true↔s.T=t.T from e4i _ _ _]
 cases s;cases t
 simp
def qC (q:Qr):List Int:=q.2.2.2.2
def qN (q:Qr):LN:=q.2.2.2.1
def qT (q:Qr):List Int:=q.2.2.1
def okQ (q:Qr):Prop:=in64 (qC q)∧in32 (qN q)∧in64 (qT q)
def okI (s:SQ)(Q:List Qr)(i:Nat):Bool:=bif s.L.getLsbD i then !((qC (Q.getD i (Ty.dflt TQr))).any fun x=>s.L.getLsbD x.toNat)&& !(qN (Q.getD i (Ty.dflt TQr))).any (turn s.P)else true
theorem l15_4 (s:SQ)(A:List Int)(Q:List Qr)(hQ:Q.length≤64)(hq: ∀i,i<Q.length→okQ (Q.getD i (Ty.dflt TQr))):
  z3k [.k 0,.l TQr Q,.n (Q.length:Int),.n 0,.l TI A,.l TQr Q,.n (N s.L),.n (N s.U),.n (N s.C),.l TB s.T,.n (N s.P)]=some (bif (List.range' 0 Q.length).all (okI s Q)then(0,[.l TI A,.l TQr Q])else(1,[.b false,.l TI A,.l TQr Q])):=by
 rw[b4w]
 refine d0j (st:=y3m) (fun i=>[.k 0,.l TQr Q,.n (Q.length:Int),.n (i:Int),.l TI A,.l TQr Q,.n (N s.L),.n (N s.U),.n (N s.C),.l TB s.T,.n (N s.P)]) Q.length (okI s Q) (0,[.l TI A,.l TQr Q]) (1,[.b false,.l TI A,.l TQr Q]) (fun i hi h=> ?_) (fun i hi h=> ?_) (b4y (by omega) rfl (by omega)) FU (b1w (by omega))
 ·show _=some (Step.go [.k 0,.l TQr Q,.n (Q.length:Int),.n ((i+1:Nat):Int),.l TI A,.l TQr Q,.n (N s.L),.n (N s.U),.n (N s.C),.l TB s.T,.n (N s.P)])
  rw[←w1n i (by omega)]
  obtain⟨h1,h2,h3⟩:=hq i hi
  unfold okI at h
  cases hl:s.L.getLsbD i with
  |false=>exact c4g (by omega) rfl (by omega) (h38 s.L (by omega)) hl
  |true=>
   rw[hl,cond_true,Bool.and_eq_true]at h
   exact c4b (by omega) rfl (by omega) (h38 s.L (by omega)) hl (k39 s _ h1) (d4y h.1) (k40 s _ _ _ _ _ h2) h.2
 ·obtain⟨h1,h2,h3⟩:=hq i hi
  unfold okI at h
  cases hl:s.L.getLsbD i with
  |false=>rw[hl]at h;cases h
  |true=>
   rw[hl,cond_true]at h
   cases ha:(qC (Q.getD i (Ty.dflt TQr))).any fun x=>s.L.getLsbD x.toNat with
   |true=>exact c4m (by omega) rfl (by omega) (h38 s.L (by omega)) hl (k39 s _ h1) ha
   |false=>
    rw[ha]at h
    exact c4j (by omega) rfl (by omega) (h38 s.L (by omega)) hl (k39 s _ h1) ha (k40 s _ _ _ _ _ h2) h
def rgt (s:SQ)(A:List Int)(Q:List Qr):Bool:=eqS s (y3x Q.length A.length s)&&(List.range' 0 Q.length).all (okI s Q)
theorem k15 (s:SQ)(A:List Int)(Q:List Qr)(hA:A.length≤32)(hQ:Q.length≤64)(hq: ∀i,i<Q.length→okQ (Q.getD i (Ty.dflt TQr))):z3e [.n (N s.L),.n (N s.U),.n (N s.C),.l TB s.T,.n (N s.P),.l TI A,.l TQr Q]=some (0,[.b (rgt s A Q),.l TI A,.l TQr Q]):=by
 have e1:=k14 s A Q hA hQ
 have e2:=l15_4 s A Q hQ hq
 unfold rgt
 cases h:eqS s (y3x Q.length A.length s)with
 |false=>exact g4d e1 h
 |true=>
  cases h2:(List.range' 0 Q.length).all (okI s Q)with
  |true=>rw[h2]at e2;exact e4g e1 h e2
  |false=>rw[h2]at e2;exact g4p e1 h e2
theorem q_pw (k:Nat)(hk:k<64):f1y [.n (k:Int)]=some (0,[.n (N (p2 k))]):=by
 refine m3t ?_
 rw[l3e]
 refine b0a (st:=i3a) (fun i=>[.k 0,.n (k:Int),.n (N (p2 i)),.n (i:Int)]) k (0,[.n (N (p2 k))]) (fun i hi=> ?_) ?_ FU (b1w (by omega))
 ·have h:=k3z (n0:=k) (n1:=N (p2 i)) (n2:=i) (by omega)
  have e1:IntKind.wrap .u64 (N (p2 i)*(2:Int))=N (p2 (i+1)):=by
   unfold N
   rw[j2e (by omega),j2e (by omega),Nat.pow_succ]
   have:2^(i+1)≤2^63:=Nat.pow_le_pow_right (by omega) (by omega)
   rw[Nat.pow_succ]at this
   rw[wu64' (by omega) (by omega)];omega
  rw[e1,w64x (by omega) (by omega)]at h
  exact h
 ·exact l3c (by omega)
theorem q_e11 (X:B64)(n:Int):a1u [.n (N X),.n n]=some (0,[.b (hasB X n)]):=by
 unfold hasB inN
 by_cases h0:0≤n
 ·by_cases h1:n<64
  ·obtain⟨k,rfl⟩: ∃k:Nat,n=k:=⟨n.toNat,by omega⟩
   have hp:N (p2 k)=((2^k:Nat):Int):=by unfold N;rw[j2e (by omega)]
   have hpos:0<2^k:=Nat.pow_pos (by omega)
   have hne:((2^k:Nat):Int)≠0:=by have:=Nat.pos_iff_ne_zero.1 hpos;exact_mod_cast this
   rw[m3u h0 (by omega) (q_pw k (by omega)) (by rw[hp];exact hne),hp]
   have e1:Int.tdiv (N X) ((2^k:Nat):Int)=((X.toNat/2^k:Nat):Int):=by unfold N;rfl
   have hlt:X.toNat/2^k<2^64:=Nat.lt_of_le_of_lt (Nat.div_le_self _ _) X.isLt
   rw[e1,wu64' (Int.natCast_nonneg _) (Int.ofNat_lt.2 (Nat.lt_of_lt_of_le hlt (by decide)))]
   have e2:Int.tmod ((X.toNat/2^k:Nat):Int) 2=((X.toNat/2^k%2:Nat):Int):=rfl
   rw[e2,getN]
   simp only[Option.some.injEq,Prod.mk.injEq,List.cons.injEq,and_true,true_and,Dat.b.injEq]
   rw[show decide (0≤(k:Int))=true by simp,show decide ((k:Int)<64)=true by simpa using h1,Bool.true_and,Bool.true_and,Bool.eq_iff_iff,beq_iff_eq,decide_eq_true_eq]
   simp only[Int.toNat_natCast]
   omega
  ·rw[n3v h0 (by omega),decide_eq_false h1];simp
 ·rw[n3s h0,decide_eq_false h0];simp
theorem q_e13 (X:B64)(n:Int):o1n [.n (N X),.n n]=some (0,[.n (N (s1o X n))]):=by
 by_cases h0:0≤n
 ·by_cases h1:n<64
  ·have hi:inN n=true:=by simp[inN,h0,h1]
   have hq:=q_e11 X n
   cases hb:hasB X n with
   |true=>
    rw[hb]at hq
    rw[o3d (by omega) (by omega) hq rfl]
    have hg:X.getLsbD n.toNat=true:=by unfold hasB at hb;rw[hi]at hb;simpa using hb
    have:X|||p2 n.toNat=X:=by
     apply BitVec.eq_of_getLsbD_eq
     intro i hlt
     rw[BitVec.getLsbD_or,h2g]
     by_cases e:i=n.toNat
     ·subst e;simp[hg]
     ·simp[e]
    simp only[s1o,hi,cond_true,this]
   |false=>
    rw[hb]at hq
    have hg:X.getLsbD n.toNat=false:=by unfold hasB at hb;rw[hi]at hb;simpa using hb
    obtain⟨k,rfl⟩: ∃k:Nat,n=k:=⟨n.toNat,by omega⟩
    rw[n3k (by omega) (by omega) hq rfl (q_pw k (by omega))]
    rw[Int.toNat_natCast]at hg
    rw[N_add,r2c (by omega) hg]
    simp only[s1o,hi,cond_true,Int.toNat_natCast]
  ·rw[o3f (by omega) (by omega),i3h (by simp[inN,h1])]
 ·rw[m3j (by omega),i3h (by simp[inN,h0])]
theorem q_e27 (n:Int):g1d [.n n]=some (0,[.n (N (firB (min n.toNat 64)))]):=by
 refine n3c ?_
 rw[l3d]
 refine b0a (st:=h3q) (fun i=>[.k 0,.n n,.n (N (firB i)),.n (i:Int)]) (min n.toNat 64) (0,[.n (N (firB (min n.toNat 64)))]) (fun i hi=> ?_) ?_ FU (b1w (by omega))
 ·have h:=k3l (n0:=n) (n2:=i) (by omega) (by omega) (q_e13 (firB i) i)
  rw[w64x (by omega) (by omega),j2a (by omega)]at h
  exact h
 ·by_cases h:((min n.toNat 64:Nat):Int)<n
  ·exact k3o h (by omega)
  ·exact k3m h
theorem q11 (X:B64){k:Nat}(hk:k<64):a1u [.n (N X),.n (k:Int)]=some (0,[.b (X.getLsbD k)]):=by rw[q_e11,p3n X hk]
theorem q27 {k:Nat}(hk:k≤64):g1d [.n (k:Int)]=some (0,[.n (N (firB k))]):=by rw[q_e27,Int.toNat_natCast,Nat.min_eq_left hk]
theorem p32bit (P:BitVec 32){x:Int}(h0:0≤x):(iand IntKind.u32 (ishr IntKind.u32 (N P) x) (1:Int)==(1:Int))=P.getLsbD x.toNat:=by
 obtain⟨k,rfl⟩: ∃k:Nat,x=k:=⟨x.toNat,by omega⟩
 rw[show(1:Int)=N 1#32 from rfl,a2b,r2g,N_beq,Int.toNat_natCast]
 rw[Bool.eq_iff_iff,beq_iff_eq]
 constructor
 ·intro e
  have:=congrArg (fun z=>BitVec.getLsbD z 0) e
  simpa [BitVec.getLsbD_and,BitVec.getLsbD_ushiftRight]using this
 ·intro e
  apply BitVec.eq_of_getLsbD_eq
  intro j hj
  rw[BitVec.getLsbD_and,BitVec.getLsbD_ushiftRight]
  by_cases q:j=0
  ·subst q;rw[Nat.add_zero,e];rfl
  ·rw[show(1#32).getLsbD j=false by rw[BitVec.getLsbD_one];simp;omega,Bool.and_false]
section
variable {a:LS} {b c:LP} {r:LR} (w:WF a b c r)
include w
theorem e46 {i k:Nat}(hi:i<r.length)(hk:k<r.length):m1e [.l TS a,.l TPt b,.l TPt c,.l TRt r,.s (eS (rN r i)),.n (eN (rN r i)),.l TI (eP (rN r i)),.l TNd (eQ (rN r i)),.l TI (eO (rN r i)),.l TNd (eF (rN r i)),.s (eS (rN r k)),.n (eN (rN r k)),.l TI (eP (rN r k)),.l TNd (eQ (rN r k)),.l TI (eO (rN r k)),.l TNd (eF (rN r k))]=some (0,[.b (cfE b (rN r i) (rN r k))]):=by
 obtain⟨⟨-,⟨p1,p2,p3,p4⟩,-,-⟩,-⟩:=w.all i hi
 obtain⟨⟨-,⟨q1,q2,q3,q4⟩,-,-⟩,-⟩:=w.all k hk
 exact o46c a b c r _ _ p1 p2 p3 p4 q1 q2 q3 q4 (by have:=w.lb;omega) (w.pt i hi) (w.pt k hk)
theorem e12 {i:Nat}(hi:i<r.length):i1r [.s (eS (rN r i)),.n (eN (rN r i)),.l TI (eP (rN r i)),.l TNd (eQ (rN r i)),.l TI (eO (rN r i)),.l TNd (eF (rN r i))]=some (0,[.l TNd (ndsE (rN r i))]):=by
 obtain⟨⟨-,⟨p1,p2,p3,p4⟩,-,-⟩,-⟩:=w.all i hi
 exact o12 _ _ _ _ _ _ p1 p2 p3 p4
theorem e11 {i:Nat}(hi:i<r.length):h1f [.s (eS (rN r i)),.n (eN (rN r i)),.l TI (eP (rN r i)),.l TNd (eQ (rN r i)),.l TI (eO (rN r i)),.l TNd (eF (rN r i))]=some (0,[.l TI (trk (rN r i))]):=by
 obtain⟨⟨-,⟨p1,p2,p3,p4⟩,-,-⟩,-⟩:=w.all i hi
 exact o11 _ _ _ _ _ _ p1 p2 p3 p4
theorem o4i {i:Nat}(hi:i<r.length):in64 (trk (rN r i)):=by
 obtain⟨⟨-,⟨(p1:List.length (eP (rN r i))≤200),(p2:List.length (eQ (rN r i))≤200),(p3:List.length (eO (rN r i))≤200),(p4:List.length (eF (rN r i))≤200)⟩,-,-⟩,-⟩:=w.all i hi
 refine⟨by unfold trk;rw[List.length_append];omega,fun x hx=> ?_⟩
 have:=w.tr i hi x hx
 have:=w.la
 omega
theorem n4o {i:Nat}(hi:i<r.length):in32 (ndsE (rN r i)):=by
 obtain⟨⟨-,⟨(p1:List.length (eP (rN r i))≤200),(p2:List.length (eQ (rN r i))≤200),(p3:List.length (eO (rN r i))≤200),(p4:List.length (eF (rN r i))≤200)⟩,-,-⟩,-⟩:=w.all i hi
 refine⟨by unfold ndsE;rw[show∀x y:LN,List.append x y=x++y from fun _ _=>rfl,List.length_append];omega,fun x hx=> ?_⟩
 have:=w.pt i hi x hx
 have:=w.lb
 omega
theorem okQs {i:Nat}(hi:i<r.length):okQ ((w3k b c r r.length).getD i (Ty.dflt TQr)):=by
 rw[d4l b c r hi]
 refine⟨⟨?_,fun x hx=> ?_⟩,n4o w hi,o4i w hi⟩
 ·have:=f4m (fC b r i) r.length
  have:=w.lr
  show(mem _ _).length≤_
  omega
 ·obtain⟨k,h1,h2,rfl⟩:=f4g.1 hx
  have:=w.lr
  omega
end
theorem mem_any (X:B64)(n:Nat)(f:Int→Bool):(mem X n).any f=(List.range' 0 n).any fun k=>X.getLsbD k&&f (k:Int):=by
 rw[Bool.eq_iff_iff,List.any_eq_true,List.any_eq_true]
 constructor
 ·rintro⟨x,hx,h⟩
  obtain⟨k,h1,h2,rfl⟩:=f4g.1 hx
  exact⟨k,List.mem_range'_1.2 (by omega),by rw[h2,h];rfl⟩
 ·rintro⟨k,h1,h⟩
  rw[List.mem_range'_1]at h1
  rw[Bool.and_eq_true]at h
  exact⟨k,f4g.2 ⟨k,by omega,h.1,rfl⟩,h.2⟩
theorem any_eq {n:Nat}{f g:Nat→Bool}(h: ∀k,k<n→f k=g k):(List.range' 0 n).any f=(List.range' 0 n).any g:=by
 rw[Bool.eq_iff_iff,List.any_eq_true,List.any_eq_true]
 constructor
 ·rintro⟨k,h1,h2⟩;exact⟨k,h1,by rw[←h k (by rw[List.mem_range'_1]at h1;omega)];exact h2⟩
 ·rintro⟨k,h1,h2⟩;exact⟨k,h1,by rw[h k (by rw[List.mem_range'_1]at h1;omega)];exact h2⟩
theorem all_eq {n:Nat}{f g:Nat→Bool}(h: ∀k,k<n→f k=g k):(List.range' 0 n).all f=(List.range' 0 n).all g:=by
 rw[Bool.eq_iff_iff,List.all_eq_true,List.all_eq_true]
 constructor
 ·intro H k h1;rw[←h k (by rw[List.mem_range'_1]at h1;omega)];exact H k h1
 ·intro H k h1;rw[h k (by rw[List.mem_range'_1]at h1;omega)];exact H k h1
def h4l (b:LP)(r:LR)(L:B64)(i:Nat):Bool:=(List.range' 0 r.length).any fun k=>clN b r i k&&L.getLsbD k
def okJ (b:LP)(r:LR)(s:SQ)(i:Nat):Bool:=bif s.L.getLsbD i then !h4l b r s.L i&& !(ndsE (rN r i)).any (turn s.P)else true
theorem cl_eq {b:LP}{r:LR}{i k:Nat}(h:(i:Int)=(k:Int)):clN b r i k=false:=by unfold clN clF;rw[dt h];rfl
section
variable {a:LS} {b c:LP} {r:LR} (w:WF a b c r)
include w
theorem f4s (L:B64){i:Nat}(hi:i<r.length):((mem (fC b r i) r.length).any fun x=>L.getLsbD x.toNat)=h4l b r L i:=by
 rw[mem_any]
 exact any_eq fun k hk=>by rw[fC_bit w hi hk,Int.toNat_natCast]
theorem okIJ (s:SQ){i:Nat}(hi:i<r.length):okI s (w3k b c r r.length) i=okJ b r s i:=by
 unfold okI okJ
 rw[d4l b c r hi,show qC (qrow b c r i)=mem (fC b r i) r.length from rfl,show qN (qrow b c r i)=ndsE (rN r i)from rfl,f4s w s.L hi]
def rgtJ (b:LP)(r:LR)(s:SQ):Bool:=eqS s (y3x r.length b.length s)&&(List.range' 0 r.length).all (okJ b r s)
theorem n14 (s:SQ):y3z [.n (N s.L),.n (N s.U),.n (N s.C),.l TB s.T,.n (N s.P),.l TI (lie b b.length),.l TQr (w3k b c r r.length)]=some (0,[.n (N (s.L&&&firB r.length)),.n (N ((s.L&&&s.U)&&&firB r.length)),.n (N ((s.L&&&s.C)&&&firB r.length)),.l TB (tmL (s.L&&&s.C) s.T r.length),.n (N (s.P&&&(firB b.length).setWidth 32)),.l TI (lie b b.length),.l TQr (w3k b c r r.length)]):=by
 have h:=k14 s (lie b b.length) (w3k b c r r.length) (by rw[a4c];exact w.lb) (by rw[x3t];exact w.lr)
 rw[a4c,x3t]at h
 exact h
theorem n15 (s:SQ):z3e [.n (N s.L),.n (N s.U),.n (N s.C),.l TB s.T,.n (N s.P),.l TI (lie b b.length),.l TQr (w3k b c r r.length)]=some (0,[.b (rgtJ b r s),.l TI (lie b b.length),.l TQr (w3k b c r r.length)]):=by
 have h:=k15 s (lie b b.length) (w3k b c r r.length) (by rw[a4c];exact w.lb) (by rw[x3t];exact w.lr) (fun i hi=>okQs w (by rwa [x3t]at hi))
 rw[show rgt s (lie b b.length) (w3k b c r r.length)=rgtJ b r s by
  unfold rgt rgtJ
  rw[a4c,x3t,all_eq fun i hi=>okIJ w s hi]]at h
 exact h
end
abbrev P32:=BitVec 32
abbrev LC:=List (Ty.den TCmd)
section
variable (b c:LP) (r:LR) (O:B64) (nm rv:P32)
def k4b (i:Nat):Bool:=(trk (rN r i)).all (clr O)
def n4b (P:P32)(d:Ty.den TNd):P32:=(putB (P.setWidth 64) (f1 d).toNat (g2 d)).setWidth 32
def setP (l:LN)(P:P32):P32:=l.foldl n4b P
def stuck (P:P32)(d:Ty.den TNd):Bool:=turn P d&& !clr O (ptS b (f1 d))
def p4b (s:SQ)(i:Nat):Bool:= !s.L.getLsbD i&&(!h4l b r s.L i&&(k4b r O i&& !(ndsE (rN r i)).any (stuck b O s.P)))
def setI (s:SQ)(i:Nat):SQ:=bif p4b b r O s i then⟨putB s.L i true,s.U,s.C,s.T,setP (ndsE (rN r i)) s.P⟩else s
def setC (s:SQ)(n:Int):SQ:=bif decide (n≥0)&&decide (n<(r.length:Int))then setI b r O s n.toNat else s
def wtgI (s:SQ)(i:Nat):Bool:=((s.L&&& ~~~s.U)&&& ~~~s.C).getLsbD i
def canI (s:SQ)(i:Nat):SQ:=bif wtgI s i then⟨s.L,s.U,putB s.C i true,bif clr O (ptS c (eN (rN r i)))then s.T.set i 0 else(s.T.set i 0).set i 20,s.P⟩else s
def canC (s:SQ)(n:Int):SQ:=bif decide (n≥0)&&decide (n<(r.length:Int))then canI c r O s n.toNat else s
def n4t (L:B64)(n:Int):Bool:=(List.range' 0 r.length).any fun i=>L.getLsbD i&&(ndsE (rN r i)).any fun d=>decide (f1 d=n)
def movC (s:SQ)(n:Int):SQ:=bif decide (n≥0)&&decide (n<(b.length:Int))then(bif clr O (ptS b n)&& !n4t r s.L n then⟨s.L,s.U,s.C,s.T,s.P^^^(1#32<<<n.toNat)⟩else s)else s
def cmdC (s:SQ)(x:Ty.den TCmd):SQ:=bif decide ((Prod.fst x:Int)=1)then setC b r O s (Prod.snd x)else bif decide ((Prod.fst x:Int)=2)then canC c r O s (Prod.snd x)else bif decide ((Prod.fst x:Int)=3)then movC b r O s (Prod.snd x)else s
def i4x (s:SQ)(l:LC):SQ:=l.foldl (cmdC b c r O) s
def relI (s:SQ)(i:Nat):SQ:=bif k4b r O i then⟨putB s.L i false,putB s.U i false,putB s.C i false,s.T.set i 0,s.P⟩else s
def goI (u:B64)(s:SQ)(i:Nat):SQ:=bif !s.L.getLsbD i then s else bif u.getLsbD i then relI r O s i else bif !clr O (p0 (rN r i))then⟨s.L,putB s.U i true,s.C,s.T,s.P⟩else bif !s.C.getLsbD i then s else bif decide ((s.T.getD i 0)>0)then⟨s.L,s.U,s.C,s.T.set i (IntKind.wrap .u8 (s.T.getD i 0-1)),s.P⟩else relI r O s i
def goN (u:B64)(s:SQ):Nat→SQ
 |0=>s
 |k+1=>goI r O u (goN u s k) k
def m4s (d:Ty.den TNd):Bool:=bif g2 d then !(rv&&& ~~~nm).getLsbD (f1 d).toNat else !(nm&&& ~~~rv).getLsbD (f1 d).toNat
def proc (s:SQ)(i:Nat):Bool:=wtgI s i&&(k4b r O i&& !(ndsE (rN r i)).any (m4s nm rv))
def outN (s:SQ):Nat→B64
 |0=>0#64
 |k+1=>putB (outN s k) k (proc r O nm rv s k)
def k4a (cm:LC)(s:SQ):SQ:=goN r O (y3x r.length b.length s).U (i4x b c r O (y3x r.length b.length s) (cm.take 8)) r.length
end
theorem wrap32P (P:P32)(k:Nat)(v:Bool):IntKind.wrap .u32 (N (putB (P.setWidth 64) k v))=N ((putB (P.setWidth 64) k v).setWidth 32):=wrap32N _
def okPb (b:LP)(l:LN):Prop:=l.length≤100000∧ ∀d∈l,0≤f1 d∧f1 d<(b.length:Int)
theorem k111 (l:LN)(b:LP)(lb:b.length≤32)(la: ∀k,k<b.length→0≤ptS b (k:Int)∧ptS b (k:Int)<64)(O:B64)(nm rv:P32)(cm:LC)(s:SQ)(Q:List Qr)(hp:okPb b l): ∃z:Int,j4f [.l TNd l,.n (N O),.n (N nm),.n (N rv),.l TCmd cm,.n (N s.L),.n (N s.U),.n (N s.C),.l TB s.T,.n (N s.P),.l TI (lie b b.length),.l TQr Q]=some (0,.n z::[.n (N O),.n (N nm),.n (N rv),.l TCmd cm,.n (N s.L),.n (N s.U),.n (N s.C),.l TB s.T,.n (N s.P),.l TI (lie b b.length),.l TQr Q])∧decide (z≥0)=l.any (stuck b O s.P):=by
 refine e4a (st:=e4w) (lop:=j4j) l (Ty.dflt TNd) (stuck b O s.P) (fun i=>[.k 0,.l TNd l,.n (l.length:Int),.n (i:Int),.n (N O),.n (N nm),.n (N rv),.l TCmd cm,.n (N s.L),.n (N s.U),.n (N s.C),.l TB s.T,.n (N s.P),.l TI (lie b b.length),.l TQr Q]) [.n (N O),.n (N nm),.n (N rv),.l TCmd cm,.n (N s.L),.n (N s.U),.n (N s.C),.l TB s.T,.n (N s.P),.l TI (lie b b.length),.l TQr Q] hp.1 (l4g _) (fun i hi h=> ?_) (fun i hi h=> ?_) (k4p (by omega) rfl (by omega)) (fun e=>n4w e) (fun k e=>n4v e)
 ·show _=some (Step.go [.k 0,.l TNd l,.n (l.length:Int),.n ((i+1:Nat):Int),.n (N O),.n (N nm),.n (N rv),.l TCmd cm,.n (N s.L),.n (N s.U),.n (N s.C),.l TB s.T,.n (N s.P),.l TI (lie b b.length),.l TQr Q])
  obtain⟨q1,q2⟩:=hp.2 _ (sAtG l (Ty.dflt TNd) hi)
  rw[←w1n i (by have:=hp.1;omega)]
  unfold stuck at h
  cases ht:turn s.P (l.getD i (Ty.dflt TNd))with
  |false=>exact l4n (by omega) rfl (by omega) (h38P s.P q1 (show f1 (l.getD i (Ty.dflt TNd))<32 by omega)) (k4c ht)
  |true=>
   rw[ht,Bool.true_and]at h
   obtain⟨k,hk⟩: ∃k:Nat,f1 (l.getD i (Ty.dflt TNd))=k:=⟨_,(Int.toNat_of_nonneg q1).symm⟩
   have hk2:k<b.length:=by omega
   obtain⟨g1,g2'⟩:=la k hk2
   have e4:=h38i O g1 g2'
   rw[←hk]at e4
   have e5:List.getD (lie b b.length) (Int.toNat (f1 (l.getD i (Ty.dflt TNd)))) (0:Int)=ptS b (f1 (l.getD i (Ty.dflt TNd))):=by rw[hk,Int.toNat_natCast,o4o b hk2]
   rw[←e5]at e4 h
   exact k4z (by omega) rfl (by omega) (h38P s.P q1 (show f1 (l.getD i (Ty.dflt TNd))<32 by omega)) (d4y ht) (h1s q1 (by rw[show List.length (α:=Ty.den TI) (lie b b.length)=b.length from a4c b b.length];exact q2)) e4 (k4c h)
 ·obtain⟨q1,q2⟩:=hp.2 _ (sAtG l (Ty.dflt TNd) hi)
  unfold stuck at h
  rw[Bool.and_eq_true]at h
  obtain⟨ht,h⟩:=h
  obtain⟨k,hk⟩: ∃k:Nat,f1 (l.getD i (Ty.dflt TNd))=k:=⟨_,(Int.toNat_of_nonneg q1).symm⟩
  have hk2:k<b.length:=by omega
  obtain⟨g1,g2'⟩:=la k hk2
  have e4:=h38i O g1 g2'
  rw[←hk]at e4
  have e5:List.getD (lie b b.length) (Int.toNat (f1 (l.getD i (Ty.dflt TNd)))) (0:Int)=ptS b (f1 (l.getD i (Ty.dflt TNd))):=by rw[hk,Int.toNat_natCast,o4o b hk2]
  rw[←e5]at e4 h
  exact k4o (by omega) rfl (by omega) (h38P s.P q1 (show f1 (l.getD i (Ty.dflt TNd))<32 by omega)) (d4y ht) (h1s q1 (by rw[show List.length (α:=Ty.den TI) (lie b b.length)=b.length from a4c b b.length];exact q2)) e4 (d4y h)
theorem k112 (l:LN)(n:Int)(hp:l.length≤100000): ∃z:Int,j4l [.l TNd l,.n n]=some (0,.n z::[.n n])∧decide (z≥0)=l.any (fun d=>decide (f1 d=n)):=by
 refine e4a (st:=e4b) (lop:=j4k) l (Ty.dflt TNd) (fun d=>decide (f1 d=n)) (fun i=>[.k 0,.l TNd l,.n (l.length:Int),.n (i:Int),.n n]) [.n n] hp (l4a _) (fun i hi h=> ?_) (fun i hi h=> ?_) (l4o (by omega) rfl (by omega)) (fun e=>n4u e) (fun k e=>n4z e)
 ·show _=some (Step.go [.k 0,.l TNd l,.n (l.length:Int),.n ((i+1:Nat):Int),.n n])
  rw[←w1n i (by omega)]
  exact k4u (by omega) rfl (by omega) (of_decide_eq_false h)
 ·exact l4j (by omega) rfl (by omega) (of_decide_eq_true h)
theorem k73 (l:LN)(nm rv:P32)(hp:in32 l): ∃z:Int,l4l [.l TNd l,.n (N (rv&&& ~~~nm)),.n (N (nm&&& ~~~rv))]=some (0,.n z::[.n (N (rv&&& ~~~nm)),.n (N (nm&&& ~~~rv))])∧decide (z≥0)=l.any (m4s nm rv):=by
 refine e4a (st:=h4u) (lop:=j4s) l (Ty.dflt TNd) (m4s nm rv) (fun i=>[.k 0,.l TNd l,.n (l.length:Int),.n (i:Int),.n (N (rv&&& ~~~nm)),.n (N (nm&&& ~~~rv))]) [.n (N (rv&&& ~~~nm)),.n (N (nm&&& ~~~rv))] hp.1 (l4x _) (fun i hi h=> ?_) (fun i hi h=> ?_) (m4n (by omega) rfl (by omega)) (fun e=>o4v e) (fun k e=>o4x e)
 ·show _=some (Step.go [.k 0,.l TNd l,.n (l.length:Int),.n ((i+1:Nat):Int),.n (N (rv&&& ~~~nm)),.n (N (nm&&& ~~~rv))])
  obtain⟨q1,q2⟩:=hp.2 _ (sAtG l (Ty.dflt TNd) hi)
  rw[←w1n i (by have:=hp.1;omega)]
  unfold m4s at h
  cases hg:g2 (l.getD i (Ty.dflt TNd))with
  |true=>rw[hg]at h;exact m4x (by omega) rfl (by omega) hg (h38P _ q1 q2) (k4c h)
  |false=>rw[hg]at h;exact n4g (by omega) rfl (by omega) hg (h38P _ q1 q2) (k4c h)
 ·obtain⟨q1,q2⟩:=hp.2 _ (sAtG l (Ty.dflt TNd) hi)
  unfold m4s at h
  cases hg:g2 (l.getD i (Ty.dflt TNd))with
  |true=>rw[hg]at h;exact m4f (by omega) rfl (by omega) hg (h38P _ q1 q2) (d4y h)
  |false=>rw[hg]at h;exact m4g (by omega) rfl (by omega) hg (h38P _ q1 q2) (d4y h)
theorem p4i (s:SQ):N ((s.L&&& ~~~s.U)&&& ~~~s.C)=b0l IntKind.u64 (b0l IntKind.u64 (N s.L) (N s.U)) (N s.C):=by rw[q1y,q1y]
theorem p4z (P:P32){d:Ty.den TNd}(h0:0≤f1 d):y3y [.n (IntKind.wrap .u64 (N P)),.n (f1 d),.b (g2 d)]=some (0,[.n (N (putB (P.setWidth 64) (f1 d).toNat (g2 d)))]):=by
 obtain⟨k,hk⟩: ∃k:Nat,f1 d=k:=⟨_,(Int.toNat_of_nonneg h0).symm⟩
 rw[p4u,hk,Int.toNat_natCast];exact h37 _ _ _
theorem in_t {n:Int}{m:Nat}(h0:n≥0)(h1:n<(m:Int)):(decide (n≥0)&&decide (n<(m:Int)))=true:=by rw[dt h0,dt h1];rfl
structure WG (a:LS)(b c:LP)(r:LR):Prop where
 w:WF a b c r
 lb: ∀k,k<b.length→0≤ptS b (k:Int)∧ptS b (k:Int)<64
 lc: ∀k,k<c.length→0≤ptS c (k:Int)∧ptS c (k:Int)<64
theorem wg_of {a:LS}{b c:LP}{r:LR}(h:(ckA a b c r).1=0):WG a b c r:=by
 have w:=wf_of h
 obtain⟨hm,hw⟩:=(t4n a b c r).1 h
 have h:=hm
 unfold mayL at h
 rw[Bool.and_eq_true]at h
 have h:=h.2
 simp only[Bool.and_eq_true]at h
 obtain⟨h5,h6,-,-⟩:=h
 have la:=w.la
 have key: ∀l:LP,(List.range' 0 l.length).all (inAt (secs l) (a.length:Int))=true→ ∀k,k<l.length→0≤ptS l (k:Int)∧ptS l (k:Int)<64:=fun l hl k hk=>by
  have q:=o1g (List.all_eq_true.1 hl k (List.mem_range'_1.2 (by omega)))
  rw[f0i l hk]at q
  unfold ptS
  rw[Int.toNat_natCast]
  exact⟨q.1,Int.lt_of_lt_of_le q.2 (Int.ofNat_le.2 la)⟩
 exact⟨w,key b h5,key c h6⟩
section
variable {a:LS} {b c:LP} {r:LR} (g:WG a b c r) (O:B64) (nm rv:P32) (cm:LC)
include g
theorem okb {i:Nat}(hi:i<r.length):okPb b (ndsE (rN r i)):=⟨(n4o g.w hi).1,g.w.pt i hi⟩
theorem p0_in {i:Nat}(hi:i<r.length):0≤p0 (rN r i)∧p0 (rN r i)<64:=by
 have hp:=(q3g g.w hi).1
 have hm:p0 (rN r i)∈trk (rN r i):=by
  unfold p0 trk
  rw[List.getD_eq_getElem?_getD,List.getElem?_eq_getElem hp]
  exact List.mem_append_left _ (List.getElem_mem hp)
 exact(o4i g.w hi).2 _ hm
theorem ah_in {i:Nat}(hi:i<r.length):0≤ptS c (eN (rN r i))∧ptS c (eN (rN r i))<64:=by
 obtain⟨⟨⟨k1,k2⟩,-,-,-⟩,-⟩:=g.w.all i hi
 obtain⟨k,hk⟩: ∃k:Nat,eN (rN r i)=k:=⟨_,(Int.toNat_of_nonneg k1).symm⟩
 rw[hk]
 refine g.lc k ?_
 have k2:eN (rN r i)<(c.length:Int):=k2
 omega
theorem n39 (s:SQ){i:Nat}(hi:i<r.length):a4f [.n (N s.L),.n (N s.U),.n (N s.C),.l TB s.T,.n (N s.P),.l TI (Prod.snd (Prod.snd (Prod.snd (Prod.snd ((w3k b c r r.length).getD i (Ty.dflt TQr))))))]=some (0,[.b (h4l b r s.L i)]):=by
 have e:=k39 s _ (okQs g.w hi).1
 rw[show(qC ((w3k b c r r.length).getD i (Ty.dflt TQr))).any (fun x=>s.L.getLsbD x.toNat)=h4l b r s.L i by rw[d4l b c r hi];exact f4s g.w s.L hi]at e
 exact e
theorem n74 (s:SQ){i:Nat}(hi:i<r.length):j4c [.n (Prod.fst ((w3k b c r r.length).getD i (Ty.dflt TQr))),.n (Prod.fst (Prod.snd ((w3k b c r r.length).getD i (Ty.dflt TQr)))),.l TI (Prod.fst (Prod.snd (Prod.snd ((w3k b c r r.length).getD i (Ty.dflt TQr))))),.l TNd (Prod.fst (Prod.snd (Prod.snd (Prod.snd ((w3k b c r r.length).getD i (Ty.dflt TQr)))))),.l TI (Prod.snd (Prod.snd (Prod.snd (Prod.snd ((w3k b c r r.length).getD i (Ty.dflt TQr)))))),.n (N O),.n (N nm),.n (N rv),.l TCmd cm,.n (N s.L),.n (N s.U),.n (N s.C),.l TB s.T,.n (N s.P),.l TI (lie b b.length),.l TQr (w3k b c r r.length)]=some (0,[.b (k4b r O i),.n (N O),.n (N nm),.n (N rv),.l TCmd cm,.n (N s.L),.n (N s.U),.n (N s.C),.l TB s.T,.n (N s.P),.l TI (lie b b.length),.l TQr (w3k b c r r.length)]):=by
 have e:=k74 (Prod.fst ((w3k b c r r.length).getD i (Ty.dflt TQr))) (Prod.fst (Prod.snd ((w3k b c r r.length).getD i (Ty.dflt TQr)))) (Prod.fst (Prod.snd (Prod.snd ((w3k b c r r.length).getD i (Ty.dflt TQr))))) (Prod.snd (Prod.snd (Prod.snd (Prod.snd ((w3k b c r r.length).getD i (Ty.dflt TQr)))))) (Prod.fst (Prod.snd (Prod.snd (Prod.snd ((w3k b c r r.length).getD i (Ty.dflt TQr)))))) O (N nm) (N rv) cm s (lie b b.length) (w3k b c r r.length) (okQs g.w hi).2.2
 rw[show((Prod.fst (Prod.snd (Prod.snd ((w3k b c r r.length).getD i (Ty.dflt TQr))))):List Int).all (clr O)=k4b r O i by rw[d4l b c r hi];rfl]at e
 exact e
theorem n111 (s:SQ){i:Nat}(hi:i<r.length): ∃z:Int,j4f [.l TNd (Prod.fst (Prod.snd (Prod.snd (Prod.snd ((w3k b c r r.length).getD i (Ty.dflt TQr)))))),.n (N O),.n (N nm),.n (N rv),.l TCmd cm,.n (N s.L),.n (N s.U),.n (N s.C),.l TB s.T,.n (N s.P),.l TI (lie b b.length),.l TQr (w3k b c r r.length)]=some (0,.n z::[.n (N O),.n (N nm),.n (N rv),.l TCmd cm,.n (N s.L),.n (N s.U),.n (N s.C),.l TB s.T,.n (N s.P),.l TI (lie b b.length),.l TQr (w3k b c r r.length)])∧decide (z≥0)=(ndsE (rN r i)).any (stuck b O s.P):=by
 have hq:qN ((w3k b c r r.length).getD i (Ty.dflt TQr))=ndsE (rN r i):=by rw[d4l b c r hi];rfl
 have e:=k111 (qN ((w3k b c r r.length).getD i (Ty.dflt TQr))) b g.w.lb g.lb O nm rv cm s (w3k b c r r.length) (by rw[hq];exact okb g hi)
 rw[←hq]
 exact e
theorem n67_7 (s:SQ)(l:LN)(hl:okPb b l):k4n [.k 0,.l TNd l,.n (l.length:Int),.n 0,.n (N O),.n (N nm),.n (N rv),.l TCmd cm,.n (N s.L),.n (N s.U),.n (N s.C),.l TB s.T,.n (N s.P),.l TI (lie b b.length),.l TQr (w3k b c r r.length)]=some (0,[.n (N O),.n (N nm),.n (N rv),.l TCmd cm,.n (N s.L),.n (N s.U),.n (N s.C),.l TB s.T,.n (N (setP l s.P)),.l TI (lie b b.length),.l TQr (w3k b c r r.length)]):=by
 have lb:=g.w.lb
 have step: ∀i,i<l.length→setP (l.take (i+1)) s.P=n4b (setP (l.take i) s.P) (l.getD i (Ty.dflt TNd)):=fun i hi=>by
  unfold setP
  rw[h1i l (Ty.dflt TNd) hi,List.foldl_append];rfl
 rw[m4d]
 refine b0a (st:=h4b) (fun i=>[.k 0,.l TNd l,.n (l.length:Int),.n (i:Int),.n (N O),.n (N nm),.n (N rv),.l TCmd cm,.n (N s.L),.n (N s.U),.n (N s.C),.l TB s.T,.n (N (setP (l.take i) s.P)),.l TI (lie b b.length),.l TQr (w3k b c r r.length)]) l.length (0,[.n (N O),.n (N nm),.n (N rv),.l TCmd cm,.n (N s.L),.n (N s.U),.n (N s.C),.l TB s.T,.n (N (setP l s.P)),.l TI (lie b b.length),.l TQr (w3k b c r r.length)]) (fun i hi=> ?_) ?_ FU (b1w (by have:=hl.1;omega))
 ·show _=some (Step.go [.k 0,.l TNd l,.n (l.length:Int),.n ((i+1:Nat):Int),.n (N O),.n (N nm),.n (N rv),.l TCmd cm,.n (N s.L),.n (N s.U),.n (N s.C),.l TB s.T,.n (N (setP (l.take (i+1)) s.P)),.l TI (lie b b.length),.l TQr (w3k b c r r.length)])
  obtain⟨h1,h2⟩:=hl.2 _ (sAtG l (Ty.dflt TNd) hi)
  rw[←w1n i (by have:=hl.1;omega),step i hi]
  unfold n4b
  rw[←wrap32P]
  exact m4w (by omega) rfl (by omega) (p4z (setP (l.take i) s.P) h1)
 ·have h:=m4k (l0:=l) (n1:=(l.length:Int)) (n2:=(l.length:Int)) (n3:=N O) (n4:=N nm) (n5:=N rv) (l6:=cm) (n7:=N s.L) (n8:=N s.U) (n9:=N s.C) (l10:=s.T) (n11:=N (setP (l.take l.length) s.P)) (l12:=(lie b b.length)) (l13:=(w3k b c r r.length)) (by omega) rfl (by omega)
  rw[List.take_length]at h⊢;exact h
theorem n67 (s:SQ)(n:Int):j4e [.n n,.n (N O),.n (N nm),.n (N rv),.l TCmd cm,.n (N s.L),.n (N s.U),.n (N s.C),.l TB s.T,.n (N s.P),.l TI (lie b b.length),.l TQr (w3k b c r r.length)]=some (0,[.n (N O),.n (N nm),.n (N rv),.l TCmd cm,.n (N (setC b r O s n).L),.n (N (setC b r O s n).U),.n (N (setC b r O s n).C),.l TB (setC b r O s n).T,.n (N (setC b r O s n).P),.l TI (lie b b.length),.l TQr (w3k b c r r.length)]):=by
 have lr:=g.w.lr
 have ql:(w3k b c r r.length).length=r.length:=x3t ..
 by_cases h0:n≥0
 ·by_cases h1:n<(r.length:Int)
  ·obtain⟨i,rfl⟩: ∃i:Nat,n=i:=⟨_,(Int.toNat_of_nonneg h0).symm⟩
   have hi:i<r.length:=by omega
   have h1':(i:Int)<((w3k b c r r.length).length:Int):=by rw[ql];exact h1
   have e:setC b r O s (i:Int)=setI b r O s i:=by unfold setC;rw[in_t h0 h1];rfl
   rw[e]
   have e2:=h38 s.L (show i<64 by omega)
   have e4:=n39 g s hi
   have e6:=n74 g O nm rv cm s hi
   obtain⟨z,e8,hz⟩:=n111 g O nm rv cm s hi
   unfold setI p4b
   cases q1:s.L.getLsbD i with
   |true=>exact p4a h0 h1' e2 q1
   |false=>
    cases q2:h4l b r s.L i with
    |true=>exact p4n h0 h1' e2 q1 e4 q2
    |false=>
     cases q3:k4b r O i with
     |false=>exact o4q h0 h1' e2 q1 e4 q2 e6 q3
     |true=>
      cases q4:(ndsE (rN r i)).any (stuck b O s.P)with
      |true=>rw[q4]at hz;exact p4p h0 h1' e2 q1 e4 q2 e6 q3 e8 (of_decide_eq_true hz)
      |false=>
       rw[q4]at hz
       have hq:qN ((w3k b c r r.length).getD i (Ty.dflt TQr))=ndsE (rN r i):=by rw[d4l b c r hi];rfl
       have e11:=n67_7 g O nm rv cm ⟨putB s.L i true,s.U,s.C,s.T,s.P⟩ (qN ((w3k b c r r.length).getD i (Ty.dflt TQr))) (by rw[hq];exact okb g hi)
       have t:=o4b h0 h1' e2 q1 e4 q2 e6 q3 e8 (of_decide_eq_false hz) (h37 s.L i true) e11
       rw[hq]at t
       exact t
  ·have e:setC b r O s n=s:=by unfold setC;rw[df h1,Bool.and_false];rfl
   rw[e]
   exact o4r h0 (by rw[show List.length (α:=Ty.den TQr) (w3k b c r r.length)=r.length from ql];exact h1)
 ·have e:setC b r O s n=s:=by unfold setC;rw[df h0,Bool.false_and];rfl
  rw[e]
  exact p4h h0
theorem n68 (s:SQ)(n:Int):j4m [.n n,.n (N O),.n (N nm),.n (N rv),.l TCmd cm,.n (N s.L),.n (N s.U),.n (N s.C),.l TB s.T,.n (N s.P),.l TI (lie b b.length),.l TQr (w3k b c r r.length)]=some (0,[.n (N O),.n (N nm),.n (N rv),.l TCmd cm,.n (N (canC c r O s n).L),.n (N (canC c r O s n).U),.n (N (canC c r O s n).C),.l TB (canC c r O s n).T,.n (N (canC c r O s n).P),.l TI (lie b b.length),.l TQr (w3k b c r r.length)]):=by
 have lr:=g.w.lr
 have ql:(w3k b c r r.length).length=r.length:=x3t ..
 by_cases h0:n≥0
 ·by_cases h1:n<(r.length:Int)
  ·obtain⟨i,rfl⟩: ∃i:Nat,n=i:=⟨_,(Int.toNat_of_nonneg h0).symm⟩
   have hi:i<r.length:=by omega
   have h1':(i:Int)<((w3k b c r r.length).length:Int):=by rw[ql];exact h1
   have e:canC c r O s (i:Int)=canI c r O s i:=by unfold canC;rw[in_t h0 h1];rfl
   rw[e]
   have e2:=h38 ((s.L&&& ~~~s.U)&&& ~~~s.C) (show i<64 by omega)
   rw[p4i]at e2
   obtain⟨a1,a2⟩:=ah_in g hi
   have e6:=h38i O a1 a2
   rw[show ptS c (eN (rN r i))=(Prod.fst ((w3k b c r r.length).getD i (Ty.dflt TQr))) by rw[d4l b c r hi];rfl]at e6
   have e6':clr O (ptS c (eN (rN r i)))= !O.getLsbD (Int.toNat (Prod.fst ((w3k b c r r.length).getD i (Ty.dflt TQr)))):=by rw[d4l b c r hi];rfl
   unfold canI wtgI
   cases q1:((s.L&&& ~~~s.U)&&& ~~~s.C).getLsbD i with
   |false=>exact o4f h0 h1' e2 q1
   |true=>
    rw[e6']
    cases q2:O.getLsbD (Int.toNat (Prod.fst ((w3k b c r r.length).getD i (Ty.dflt TQr))))with
    |true=>exact p4q h0 h1' e2 q1 (h37 s.C i true) (h1s (by omega) (by omega)) e6 (by rw[q2];rfl)
    |false=>exact o4p h0 h1' e2 q1 (h37 s.C i true) (h1s (by omega) (by omega)) e6 (by rw[q2];rfl)
  ·have e:canC c r O s n=s:=by unfold canC;rw[df h1,Bool.and_false];rfl
   rw[e]
   exact p4t h0 (by rw[show List.length (α:=Ty.den TQr) (w3k b c r r.length)=r.length from ql];exact h1)
 ·have e:canC c r O s n=s:=by unfold canC;rw[df h0,Bool.false_and];rfl
  rw[e]
  exact p4l h0
theorem n69_3 (s:SQ)(n:Int):j4r [.k 0,.l TQr (w3k b c r r.length),.n ((w3k b c r r.length).length:Int),.n 0,.n (N O),.n (N nm),.n (N rv),.l TCmd cm,.n (N s.L),.n (N s.U),.n (N s.C),.l TB s.T,.n (N s.P),.l TI (lie b b.length),.l TQr (w3k b c r r.length),.n n]=some (bif n4t r s.L n then(1,[.n (N O),.n (N nm),.n (N rv),.l TCmd cm,.n (N s.L),.n (N s.U),.n (N s.C),.l TB s.T,.n (N s.P),.l TI (lie b b.length),.l TQr (w3k b c r r.length)])else(0,[.n (N O),.n (N nm),.n (N rv),.l TCmd cm,.n (N s.L),.n (N s.U),.n (N s.C),.l TB s.T,.n (N s.P),.l TI (lie b b.length),.l TQr (w3k b c r r.length),.n n])):=by
 have lr:=g.w.lr
 have ql:(w3k b c r r.length).length=r.length:=x3t ..
 rw[m4a]
 unfold n4t
 refine a0x (st:=i4n) (fun i=>[.k 0,.l TQr (w3k b c r r.length),.n ((w3k b c r r.length).length:Int),.n (i:Int),.n (N O),.n (N nm),.n (N rv),.l TCmd cm,.n (N s.L),.n (N s.U),.n (N s.C),.l TB s.T,.n (N s.P),.l TI (lie b b.length),.l TQr (w3k b c r r.length),.n n]) r.length (fun i=>s.L.getLsbD i&&(ndsE (rN r i)).any fun d=>decide (f1 d=n)) (1,[.n (N O),.n (N nm),.n (N rv),.l TCmd cm,.n (N s.L),.n (N s.U),.n (N s.C),.l TB s.T,.n (N s.P),.l TI (lie b b.length),.l TQr (w3k b c r r.length)]) (0,[.n (N O),.n (N nm),.n (N rv),.l TCmd cm,.n (N s.L),.n (N s.U),.n (N s.C),.l TB s.T,.n (N s.P),.l TI (lie b b.length),.l TQr (w3k b c r r.length),.n n]) (fun i hi h=> ?_) (fun i hi h=> ?_) (m4c (by omega) rfl (by omega)) FU (b1w (by omega))
 ·show _=some (Step.go [.k 0,.l TQr (w3k b c r r.length),.n ((w3k b c r r.length).length:Int),.n ((i+1:Nat):Int),.n (N O),.n (N nm),.n (N rv),.l TCmd cm,.n (N s.L),.n (N s.U),.n (N s.C),.l TB s.T,.n (N s.P),.l TI (lie b b.length),.l TQr (w3k b c r r.length),.n n])
  rw[←w1n i (by omega)]
  have hi':i<r.length:=by omega
  have hq:qN ((w3k b c r r.length).getD i (Ty.dflt TQr))=ndsE (rN r i):=by rw[d4l b c r hi'];rfl
  obtain⟨z,e,hz⟩:=k112 (qN ((w3k b c r r.length).getD i (Ty.dflt TQr))) n (okQs g.w hi').2.1.1
  rw[hq]at hz
  cases q1:s.L.getLsbD i with
  |false=>exact m4q (by omega) rfl (by omega) (h38 s.L (by omega)) q1
  |true=>
   rw[q1,Bool.true_and]at h
   rw[h]at hz
   exact l4w (by omega) rfl (by omega) (h38 s.L (by omega)) q1 e (of_decide_eq_false hz)
 ·have hi':i<r.length:=by omega
  have hq:qN ((w3k b c r r.length).getD i (Ty.dflt TQr))=ndsE (rN r i):=by rw[d4l b c r hi'];rfl
  obtain⟨z,e,hz⟩:=k112 (qN ((w3k b c r r.length).getD i (Ty.dflt TQr))) n (okQs g.w hi').2.1.1
  rw[Bool.and_eq_true]at h
  rw[hq,h.2]at hz
  exact n4d (by omega) rfl (by omega) (h38 s.L (by omega)) h.1 e (of_decide_eq_true hz)
theorem n69 (s:SQ)(n:Int):j4o [.n n,.n (N O),.n (N nm),.n (N rv),.l TCmd cm,.n (N s.L),.n (N s.U),.n (N s.C),.l TB s.T,.n (N s.P),.l TI (lie b b.length),.l TQr (w3k b c r r.length)]=some (0,[.n (N O),.n (N nm),.n (N rv),.l TCmd cm,.n (N (movC b r O s n).L),.n (N (movC b r O s n).U),.n (N (movC b r O s n).C),.l TB (movC b r O s n).T,.n (N (movC b r O s n).P),.l TI (lie b b.length),.l TQr (w3k b c r r.length)]):=by
 have al:(lie b b.length).length=b.length:=a4c ..
 by_cases h0:n≥0
 ·by_cases h1:n<(b.length:Int)
  ·obtain⟨i,rfl⟩: ∃i:Nat,n=i:=⟨_,(Int.toNat_of_nonneg h0).symm⟩
   have hi:i<b.length:=by omega
   have h1': ¬(i:Int)≥((lie b b.length).length:Int):=by rw[al];omega
   have e:movC b r O s (i:Int)=bif clr O (ptS b (i:Int))&& !n4t r s.L (i:Int)then⟨s.L,s.U,s.C,s.T,s.P^^^(1#32<<<i)⟩else s:=by unfold movC;rw[in_t h0 h1];rfl
   rw[e]
   obtain⟨a1,a2⟩:=g.lb i hi
   have e2:=h38i O a1 a2
   have e3:List.getD (lie b b.length) (Int.toNat (i:Int)) (0:Int)=ptS b (i:Int):=by rw[Int.toNat_natCast,o4o b hi]
   have hc:clr O (ptS b (i:Int))= !O.getLsbD (Int.toNat (List.getD (lie b b.length) (Int.toNat (i:Int)) (0:Int))):=by rw[e3];rfl
   rw[←e3]at e2
   have e4:=n69_3 g O nm rv cm s (i:Int)
   rw[hc]
   cases q1:O.getLsbD (Int.toNat (List.getD (lie b b.length) (Int.toNat (i:Int)) (0:Int)))with
   |true=>exact o4z (by omega) h1' e2 (by rw[q1];rfl)
   |false=>
    cases q2:n4t r s.L (i:Int)with
    |true=>rw[q2]at e4;exact o4d (by omega) h1' e2 (by rw[q1];rfl) e4
    |false=>
     rw[q2]at e4
     have t:=o4e (by omega) h1' e2 (by rw[q1];rfl) e4 (by omega)
     rw[show(1:Int)=N 1#32 from rfl,s4v,q2n]at t
     exact t
  ·have e:movC b r O s n=s:=by unfold movC;rw[df h1,Bool.and_false];rfl
   rw[e]
   exact o4s (by omega) (by rw[show List.length (α:=Ty.den TI) (lie b b.length)=b.length from al];omega)
 ·have e:movC b r O s n=s:=by unfold movC;rw[df h0,Bool.false_and];rfl
  rw[e]
  exact o4h (by omega)
end
section
variable {a:LS} {b c:LP} {r:LR} (g:WG a b c r) (O:B64) (nm rv:P32) (cm:LC)
include g
def okCm (cm:LC):Prop:=cm.length≤9223372036854775807∧ ∀x∈cm,0≤(Prod.fst x:Int)∧(Prod.fst x:Int)<256
theorem n34_2 (s:SQ)(hc:okCm cm):j4t [.k 0,.l TCmd cm,.n (cm.length:Int),.n 0,.n (N O),.n (N nm),.n (N rv),.l TCmd cm,.n (N s.L),.n (N s.U),.n (N s.C),.l TB s.T,.n (N s.P),.l TI (lie b b.length),.l TQr (w3k b c r r.length)]=some (if 8<cm.length then 1 else 0,[.n (N O),.n (N nm),.n (N rv),.l TCmd cm,.n (N (i4x b c r O s (cm.take 8)).L),.n (N (i4x b c r O s (cm.take 8)).U),.n (N (i4x b c r O s (cm.take 8)).C),.l TB (i4x b c r O s (cm.take 8)).T,.n (N (i4x b c r O s (cm.take 8)).P),.l TI (lie b b.length),.l TQr (w3k b c r r.length)]):=by
 have hm:min cm.length 8≤8:=Nat.min_le_right ..
 have ht:cm.take (min cm.length 8)=cm.take 8:=by
  rcases Nat.lt_or_ge cm.length 8 with h|h
  ·rw[Nat.min_eq_left (by omega),List.take_length,List.take_of_length_le (by omega)]
  ·rw[Nat.min_eq_right h]
 rw[n4c]
 refine b0a (st:=h4s) (fun i=>[.k 0,.l TCmd cm,.n (cm.length:Int),.n (i:Int),.n (N O),.n (N nm),.n (N rv),.l TCmd cm,.n (N (i4x b c r O s (cm.take i)).L),.n (N (i4x b c r O s (cm.take i)).U),.n (N (i4x b c r O s (cm.take i)).C),.l TB (i4x b c r O s (cm.take i)).T,.n (N (i4x b c r O s (cm.take i)).P),.l TI (lie b b.length),.l TQr (w3k b c r r.length)]) (min cm.length 8) (if 8<cm.length then 1 else 0,[.n (N O),.n (N nm),.n (N rv),.l TCmd cm,.n (N (i4x b c r O s (cm.take 8)).L),.n (N (i4x b c r O s (cm.take 8)).U),.n (N (i4x b c r O s (cm.take 8)).C),.l TB (i4x b c r O s (cm.take 8)).T,.n (N (i4x b c r O s (cm.take 8)).P),.l TI (lie b b.length),.l TQr (w3k b c r r.length)]) (fun i hi=> ?_) ?_ FU (b1w (by omega))
 ·show _=some (Step.go [.k 0,.l TCmd cm,.n (cm.length:Int),.n ((i+1:Nat):Int),.n (N O),.n (N nm),.n (N rv),.l TCmd cm,.n (N (i4x b c r O s (cm.take (i+1))).L),.n (N (i4x b c r O s (cm.take (i+1))).U),.n (N (i4x b c r O s (cm.take (i+1))).C),.l TB (i4x b c r O s (cm.take (i+1))).T,.n (N (i4x b c r O s (cm.take (i+1))).P),.l TI (lie b b.length),.l TQr (w3k b c r r.length)])
  have hi1:i<cm.length:=by omega
  obtain⟨x,hx⟩: ∃x,x=cm.getD i (Ty.dflt TCmd):=⟨_,rfl⟩
  obtain⟨h1,h2⟩:=hc.2 _ (sAtG cm (Ty.dflt TCmd) hi1)
  have step:i4x b c r O s (cm.take (i+1))=cmdC b c r O (i4x b c r O s (cm.take i)) (cm.getD i (Ty.dflt TCmd)):=by
   unfold i4x
   rw[h1i cm (Ty.dflt TCmd) hi1,List.foldl_append];rfl
  have hw:IntKind.wrap .i64 (Prod.fst (cm.getD i (Ty.dflt TCmd)):Int)=(Prod.fst (cm.getD i (Ty.dflt TCmd)):Int):=w64x (by omega) (by omega)
  rw[←w1n i (by omega),step]
  unfold cmdC
  by_cases k1:(Prod.fst (cm.getD i (Ty.dflt TCmd)):Int)=1
  ·rw[dt k1]
   have a0: ¬(Prod.fst (cm.getD i (Ty.dflt TCmd)):Int)=0:=by omega
   have a1:IntKind.wrap .i64 (Prod.fst (cm.getD i (Ty.dflt TCmd)):Int)<4:=by rw[hw];omega
   exact m4i (by omega) rfl (Int.ofNat_lt.2 hi1) (by omega) a0 a1 k1 (n67 g O nm rv cm _ _)
  rw[df k1,cond_false]
  by_cases k2:(Prod.fst (cm.getD i (Ty.dflt TCmd)):Int)=2
  ·rw[dt k2]
   have a0: ¬(Prod.fst (cm.getD i (Ty.dflt TCmd)):Int)=0:=by omega
   have a1:IntKind.wrap .i64 (Prod.fst (cm.getD i (Ty.dflt TCmd)):Int)<4:=by rw[hw];omega
   exact n4a (by omega) rfl (Int.ofNat_lt.2 hi1) (by omega) a0 a1 k1 k2 (n68 g O nm rv cm _ _)
  rw[df k2,cond_false]
  by_cases k3:(Prod.fst (cm.getD i (Ty.dflt TCmd)):Int)=3
  ·rw[dt k3]
   have a0: ¬(Prod.fst (cm.getD i (Ty.dflt TCmd)):Int)=0:=by omega
   have a1:IntKind.wrap .i64 (Prod.fst (cm.getD i (Ty.dflt TCmd)):Int)<4:=by rw[hw];omega
   exact m4j (by omega) rfl (Int.ofNat_lt.2 hi1) (by omega) a0 a1 k1 k2 k3 (n69 g O nm rv cm _ _)
  rw[df k3,cond_false]
  by_cases k0:(Prod.fst (cm.getD i (Ty.dflt TCmd)):Int)=0
  ·exact l4y (by omega) rfl (Int.ofNat_lt.2 hi1) (by omega) k0
  ·have a1: ¬IntKind.wrap .i64 (Prod.fst (cm.getD i (Ty.dflt TCmd)):Int)<4:=by rw[hw];omega
   exact m4m (by omega) rfl (Int.ofNat_lt.2 hi1) (by omega) k0 a1
 ·rw[←ht]
  rcases Nat.lt_or_ge 8 cm.length with h|h
  ·rw[if_pos h]
   exact l4t (by omega) rfl (Int.ofNat_lt.2 (by omega)) (by omega)
  ·rw[if_neg (by omega)]
   have e:min cm.length 8=cm.length:=by omega
   exact m4u (by omega) rfl (by rw[e];exact Int.lt_irrefl _)
theorem n34 (s:SQ)(hc:okCm cm):k4v [.n (N O),.n (N nm),.n (N rv),.l TCmd cm,.n (N s.L),.n (N s.U),.n (N s.C),.l TB s.T,.n (N s.P),.l TI (lie b b.length),.l TQr (w3k b c r r.length)]=some (0,[.n (N O),.n (N nm),.n (N rv),.l TCmd cm,.n (N (i4x b c r O s (cm.take 8)).L),.n (N (i4x b c r O s (cm.take 8)).U),.n (N (i4x b c r O s (cm.take 8)).C),.l TB (i4x b c r O s (cm.take 8)).T,.n (N (i4x b c r O s (cm.take 8)).P),.l TI (lie b b.length),.l TQr (w3k b c r r.length)]):=by
 have e:=n34_2 g O nm rv cm s hc
 by_cases h:8<cm.length
 ·rw[if_pos h]at e;exact o4c e
 ·rw[if_neg h]at e;exact o4y e
theorem n70 (s:SQ){i:Nat}(hi:i<r.length):k4e [.n (i:Int),.n (N O),.n (N nm),.n (N rv),.l TCmd cm,.n (N s.L),.n (N s.U),.n (N s.C),.l TB s.T,.n (N s.P),.l TI (lie b b.length),.l TQr (w3k b c r r.length)]=some (0,[.n (N O),.n (N nm),.n (N rv),.l TCmd cm,.n (N (relI r O s i).L),.n (N (relI r O s i).U),.n (N (relI r O s i).C),.l TB (relI r O s i).T,.n (N (relI r O s i).P),.l TI (lie b b.length),.l TQr (w3k b c r r.length)]):=by
 have lr:=g.w.lr
 have ql:(w3k b c r r.length).length=r.length:=x3t ..
 have e1:=n74 g O nm rv cm s hi
 have hr:inR (i:Int) (List.length (α:=Ty.den TQr) (w3k b c r r.length))=true:=h1s (by omega) (by rw[show List.length (α:=Ty.den TQr) (w3k b c r r.length)=r.length from ql];omega)
 unfold relI
 cases q:k4b r O i with
 |false=>exact p4x hr e1 q
 |true=>exact p4k hr e1 q (h37 s.L i false) (h37 s.U i false) (h37 s.C i false) (h1s (by omega) (by omega))
theorem n35 (u:B64)(s:SQ){i:Nat}(hi:i<r.length):j4h [.n (i:Int),.n (N u),.n (N O),.n (N nm),.n (N rv),.l TCmd cm,.n (N s.L),.n (N s.U),.n (N s.C),.l TB s.T,.n (N s.P),.l TI (lie b b.length),.l TQr (w3k b c r r.length)]=some (0,[.n (N O),.n (N nm),.n (N rv),.l TCmd cm,.n (N (goI r O u s i).L),.n (N (goI r O u s i).U),.n (N (goI r O u s i).C),.l TB (goI r O u s i).T,.n (N (goI r O u s i).P),.l TI (lie b b.length),.l TQr (w3k b c r r.length)]):=by
 have lr:=g.w.lr
 have ql:(w3k b c r r.length).length=r.length:=x3t ..
 have hr:inR (i:Int) (List.length (α:=Ty.den TQr) (w3k b c r r.length))=true:=h1s (by omega) (by rw[show List.length (α:=Ty.den TQr) (w3k b c r r.length)=r.length from ql];omega)
 have e1:=h38 s.L (show i<64 by omega)
 have e3:=h38 u (show i<64 by omega)
 obtain⟨a1,a2⟩:=p0_in g hi
 have e5:=h38i O a1 a2
 rw[show p0 (rN r i)=(Prod.fst (Prod.snd ((w3k b c r r.length).getD i (Ty.dflt TQr)))) by rw[d4l b c r hi];rfl]at e5
 have e5':clr O (p0 (rN r i))= !O.getLsbD (Int.toNat (Prod.fst (Prod.snd ((w3k b c r r.length).getD i (Ty.dflt TQr))))):=by rw[d4l b c r hi];rfl
 have e7:=h38 s.C (show i<64 by omega)
 unfold goI
 cases q1:s.L.getLsbD i with
 |false=>exact o4t hr e1 q1
 |true=>
  cases q2:u.getLsbD i with
  |true=>exact p4m hr e1 q1 e3 q2 (n70 g O nm rv cm s hi)
  |false=>
   rw[e5']
   cases q3:O.getLsbD (Int.toNat (Prod.fst (Prod.snd ((w3k b c r r.length).getD i (Ty.dflt TQr)))))with
   |true=>exact o4n hr e1 q1 e3 q2 e5 (by rw[q3];rfl) (h37 s.U i true)
   |false=>
    cases q4:s.C.getLsbD i with
    |false=>exact p4j hr e1 q1 e3 q2 e5 (by rw[q3];rfl) e7 q4
    |true=>
     by_cases q5:s.T.getD i 0>0
     ·simp only[Bool.not_true,Bool.not_false,cond_true,cond_false,dt q5]
      exact p4f hr e1 q1 e3 q2 e5 (by rw[q3];rfl) e7 q4 (h1s (by omega) (by omega)) q5
     ·simp only[Bool.not_true,Bool.not_false,cond_true,cond_false,df q5]
      exact p4c hr e1 q1 e3 q2 e5 (by rw[q3];rfl) e7 q4 (h1s (by omega) (by omega)) q5 (n70 g O nm rv cm s hi)
theorem n13_7 (u:B64)(s:SQ):k4j [.k 0,.n (N u),.n ((w3k b c r r.length).length:Int),.n 0,.l TI (lie b b.length),.l TQr (w3k b c r r.length),.n 0,.n 0,.n 0,.l TB (List.replicate 64 (0:Int)),.n 0,.n 0,.n 0,.n (N O),.n (N nm),.n (N rv),.l TCmd cm,.n (N s.L),.n (N s.U),.n (N s.C),.l TB s.T,.n (N s.P)]=some (0,[.l TI (lie b b.length),.l TQr (w3k b c r r.length),.n 0,.n 0,.n 0,.l TB (List.replicate 64 (0:Int)),.n 0,.n 0,.n 0,.n (N O),.n (N nm),.n (N rv),.l TCmd cm,.n (N (goN r O u s r.length).L),.n (N (goN r O u s r.length).U),.n (N (goN r O u s r.length).C),.l TB (goN r O u s r.length).T,.n (N (goN r O u s r.length).P)]):=by
 have lr:=g.w.lr
 have ql:(w3k b c r r.length).length=r.length:=x3t ..
 rw[n4f]
 refine b0a (st:=h4g) (fun i=>[.k 0,.n (N u),.n ((w3k b c r r.length).length:Int),.n (i:Int),.l TI (lie b b.length),.l TQr (w3k b c r r.length),.n 0,.n 0,.n 0,.l TB (List.replicate 64 (0:Int)),.n 0,.n 0,.n 0,.n (N O),.n (N nm),.n (N rv),.l TCmd cm,.n (N (goN r O u s i).L),.n (N (goN r O u s i).U),.n (N (goN r O u s i).C),.l TB (goN r O u s i).T,.n (N (goN r O u s i).P)]) r.length (0,[.l TI (lie b b.length),.l TQr (w3k b c r r.length),.n 0,.n 0,.n 0,.l TB (List.replicate 64 (0:Int)),.n 0,.n 0,.n 0,.n (N O),.n (N nm),.n (N rv),.l TCmd cm,.n (N (goN r O u s r.length).L),.n (N (goN r O u s r.length).U),.n (N (goN r O u s r.length).C),.l TB (goN r O u s r.length).T,.n (N (goN r O u s r.length).P)]) (fun i hi=> ?_) (m4t (by omega) (by omega)) FU (b1w (by omega))
 show _=some (Step.go [.k 0,.n (N u),.n ((w3k b c r r.length).length:Int),.n ((i+1:Nat):Int),.l TI (lie b b.length),.l TQr (w3k b c r r.length),.n 0,.n 0,.n 0,.l TB (List.replicate 64 (0:Int)),.n 0,.n 0,.n 0,.n (N O),.n (N nm),.n (N rv),.l TCmd cm,.n (N (goI r O u (goN r O u s i) i).L),.n (N (goI r O u (goN r O u s i) i).U),.n (N (goI r O u (goN r O u s i) i).C),.l TB (goI r O u (goN r O u s i) i).T,.n (N (goI r O u (goN r O u s i) i).P)])
 rw[←w1n i (by omega)]
 exact m4p (by omega) (by omega) (n35 g O nm rv cm u (goN r O u s i) hi)
theorem n36_5 (s:SQ):k4k [.k 0,.l TQr (w3k b c r r.length),.n ((w3k b c r r.length).length:Int),.n 0,.n (N O),.n (N nm),.n (N rv),.l TCmd cm,.n (N s.L),.n (N s.U),.n (N s.C),.l TB s.T,.n (N s.P),.l TI (lie b b.length),.l TQr (w3k b c r r.length),.n 0,.n 0,.n 0,.n (N s.P),.n (N (rv&&& ~~~nm)),.n (N (nm&&& ~~~rv))]=some (0,[.n (N O),.n (N nm),.n (N rv),.l TCmd cm,.n (N s.L),.n (N s.U),.n (N s.C),.l TB s.T,.n (N s.P),.l TI (lie b b.length),.l TQr (w3k b c r r.length),.n 0,.n 0,.n (N (outN r O nm rv s r.length)),.n (N s.P)]):=by
 have lr:=g.w.lr
 have ql:(w3k b c r r.length).length=r.length:=x3t ..
 rw[l4z]
 refine b0a (st:=i4q) (fun i=>[.k 0,.l TQr (w3k b c r r.length),.n ((w3k b c r r.length).length:Int),.n (i:Int),.n (N O),.n (N nm),.n (N rv),.l TCmd cm,.n (N s.L),.n (N s.U),.n (N s.C),.l TB s.T,.n (N s.P),.l TI (lie b b.length),.l TQr (w3k b c r r.length),.n 0,.n 0,.n (N (outN r O nm rv s i)),.n (N s.P),.n (N (rv&&& ~~~nm)),.n (N (nm&&& ~~~rv))]) r.length (0,[.n (N O),.n (N nm),.n (N rv),.l TCmd cm,.n (N s.L),.n (N s.U),.n (N s.C),.l TB s.T,.n (N s.P),.l TI (lie b b.length),.l TQr (w3k b c r r.length),.n 0,.n 0,.n (N (outN r O nm rv s r.length)),.n (N s.P)]) (fun i hi=> ?_) (m4v (by omega) rfl (by omega)) FU (b1w (by omega))
 show _=some (Step.go [.k 0,.l TQr (w3k b c r r.length),.n ((w3k b c r r.length).length:Int),.n ((i+1:Nat):Int),.n (N O),.n (N nm),.n (N rv),.l TCmd cm,.n (N s.L),.n (N s.U),.n (N s.C),.l TB s.T,.n (N s.P),.l TI (lie b b.length),.l TQr (w3k b c r r.length),.n 0,.n 0,.n (N (putB (outN r O nm rv s i) i (proc r O nm rv s i))),.n (N s.P),.n (N (rv&&& ~~~nm)),.n (N (nm&&& ~~~rv))])
 rw[←w1n i (by omega)]
 have e1:=h38 ((s.L&&& ~~~s.U)&&& ~~~s.C) (show i<64 by omega)
 rw[p4i]at e1
 have e3:=n74 g O nm rv cm s hi
 have hq:qN ((w3k b c r r.length).getD i (Ty.dflt TQr))=ndsE (rN r i):=by rw[d4l b c r hi];rfl
 obtain⟨z,e5,hz⟩:=k73 (qN ((w3k b c r r.length).getD i (Ty.dflt TQr))) nm rv (okQs g.w hi).2.1
 rw[hq]at hz
 unfold proc wtgI
 cases q1:((s.L&&& ~~~s.U)&&& ~~~s.C).getLsbD i with
 |false=>exact m4o (by omega) rfl (by omega) e1 q1 (h37 _ i false)
 |true=>
  cases q2:k4b r O i with
  |false=>exact m4b (by omega) rfl (by omega) e1 q1 e3 q2 (h37 _ i false)
  |true=>
   rw[←hz]
   exact m4h (by omega) rfl (by omega) e1 q1 e3 q2 e5 (h37 _ i (!decide (z≥0)))
theorem n36 (s:SQ):n4n [.n (N O),.n (N nm),.n (N rv),.l TCmd cm,.n (N s.L),.n (N s.U),.n (N s.C),.l TB s.T,.n (N s.P),.l TI (lie b b.length),.l TQr (w3k b c r r.length)]=some (0,[.n (N (outN r O nm rv s r.length)),.n (N s.P),.n (N O),.n (N nm),.n (N rv),.l TCmd cm,.n (N s.L),.n (N s.U),.n (N s.C),.l TB s.T,.n (N s.P),.l TI (lie b b.length),.l TQr (w3k b c r r.length)]):=by
 have e:=n36_5 g O nm rv cm s
 rw[←s1h,←s1h]at e
 exact p4e e
theorem n13 (s:SQ)(hc:okCm cm):n4i [.n (N s.L),.n (N s.U),.n (N s.C),.l TB s.T,.n (N s.P),.n (N O),.n (N nm),.n (N rv),.l TCmd cm,.l TI (lie b b.length),.l TQr (w3k b c r r.length)]=some (0,[.n (N (k4a b c r O cm s).L),.n (N (k4a b c r O cm s).U),.n (N (k4a b c r O cm s).C),.l TB (k4a b c r O cm s).T,.n (N (k4a b c r O cm s).P),.n (N (outN r O nm rv (k4a b c r O cm s) r.length)),.n (N (k4a b c r O cm s).P),.l TI (lie b b.length),.l TQr (w3k b c r r.length)]):=by
 have e1:=n14 g.w s
 have e2:=n34 g O nm rv cm (y3x r.length b.length s) hc
 have e3:=n13_7 g O nm rv cm (y3x r.length b.length s).U (i4x b c r O (y3x r.length b.length s) (cm.take 8))
 have e4:=n36 g O nm rv cm (k4a b c r O cm s)
 exact p4w e1 e2 e3 e4
end
structure Rgt (b:LP)(r:LR)(s:SQ):Prop where
 L: ∀j,j<64→s.L.getLsbD j=true→j<r.length
 U: ∀j,j<64→s.U.getLsbD j=true→s.L.getLsbD j=true
 C: ∀j,j<64→s.C.getLsbD j=true→s.L.getLsbD j=true
 len:s.T.length=64
 T: ∀n,n<64→s.T.getD n 0≤20∧(s.C.getLsbD n=false→s.T.getD n 0=0)
 P: ∀j,j<32→s.P.getLsbD j=true→j<b.length
 cl: ∀i,i<r.length→s.L.getLsbD i=true→ ∀k,k<r.length→s.L.getLsbD k=true→clN b r i k=false
 nd: ∀i,i<r.length→s.L.getLsbD i=true→ ∀d∈ndsE (rN r i),s.P.getLsbD (f1 d).toNat=g2 d
theorem turn_f {P:P32}{d:Ty.den TNd}:turn P d=false↔P.getLsbD (f1 d).toNat=g2 d:=by
 unfold turn
 cases P.getLsbD (f1 d).toNat<;>cases g2 d<;>simp
theorem p4v {α:Type}{l:List α}{p:α→Bool}:l.any p=false↔ ∀x∈l,p x=false:=by
 rw[List.any_eq_false]
 exact⟨fun h x hx=>by have:=h x hx;simpa using this,fun h x hx=>by rw[h x hx];simp⟩
theorem o4u {b:LP}{r:LR}{L:B64}{i:Nat}:h4l b r L i=false↔ ∀k,k<r.length→L.getLsbD k=true→clN b r i k=false:=by
 unfold h4l
 rw[p4v]
 constructor
 ·intro h k hk hl
  have:=h k (List.mem_range'_1.2 (by omega))
  rw[hl,Bool.and_true]at this
  exact this
 ·intro h k hk
  rw[List.mem_range'_1]at hk
  cases hl:L.getLsbD k with
  |false=>rw[Bool.and_false]
  |true=>rw[h k (by omega) hl];rfl
theorem okJ_t {b:LP}{r:LR}{s:SQ}{i:Nat}:okJ b r s i=true↔(s.L.getLsbD i=true→(∀k,k<r.length→s.L.getLsbD k=true→clN b r i k=false)∧ ∀d∈ndsE (rN r i),s.P.getLsbD (f1 d).toNat=g2 d):=by
 unfold okJ
 cases h:s.L.getLsbD i with
 |false=>simp
 |true=>
  rw[cond_true,Bool.and_eq_true,Bool.not_eq_true',Bool.not_eq_true',o4u,p4v]
  constructor
  ·rintro⟨h1,h2⟩ -
   exact⟨h1,fun d hd=>turn_f.1 (h2 d hd)⟩
  ·intro q
   exact⟨(q rfl).1,fun d hd=>turn_f.2 ((q rfl).2 d hd)⟩
theorem all_t {n:Nat}{f:Nat→Bool}:(List.range' 0 n).all f=true↔ ∀i,i<n→f i=true:=by
 rw[List.all_eq_true]
 exact⟨fun h i hi=>h i (List.mem_range'_1.2 (by omega)),fun h i hi=>h i (by rw[List.mem_range'_1]at hi;omega)⟩
theorem imin_le (x:Int):imin x 20≤20:=by
 unfold imin
 by_cases h:20<x
 ·rw[if_pos h];omega
 ·rw[if_neg h];omega
theorem imin_of {x:Int}(h:x≤20):imin x 20=x:=by unfold imin;rw[if_neg (by omega)]
theorem p4r {w:Nat}{X Y:BitVec w}(h: ∀j,j<w→X.getLsbD j=true→Y.getLsbD j=true):X=X&&&Y:=(sub_and h).symm
theorem m4r {a:LS}{b c:LP}{r:LR}(w:WF a b c r){s:SQ}:rgtJ b r s=true↔Rgt b r s:=by
 have lr:=w.lr
 have lb:=w.lb
 unfold rgtJ
 rw[Bool.and_eq_true,a4k,all_t]
 constructor
 ·rintro⟨h,h2⟩
  have hL:s.L=s.L&&&firB r.length:=congrArg SQ.L h
  have hU:s.U=(s.L&&&s.U)&&&firB r.length:=congrArg SQ.U h
  have hC:s.C=(s.L&&&s.C)&&&firB r.length:=congrArg SQ.C h
  have hT:s.T=tmL (s.L&&&s.C) s.T r.length:=congrArg SQ.T h
  have hP:s.P=s.P&&&(firB b.length).setWidth 32:=congrArg SQ.P h
  have cL: ∀j,s.C.getLsbD j=true→s.L.getLsbD j=true:=fun j hj=>by
   rw[hC,BitVec.getLsbD_and,BitVec.getLsbD_and,Bool.and_eq_true,Bool.and_eq_true]at hj;exact hj.1.1
  have lR: ∀j,s.L.getLsbD j=true→j<r.length:=fun j hj=>by
   rw[hL,BitVec.getLsbD_and,Bool.and_eq_true,y0i lr,decide_eq_true_eq]at hj;exact hj.2
  refine⟨fun j _ hj=>lR j hj,fun j _ hj=> ?_,fun j _ hj=>cL j hj,?_,fun n hn=> ?_,fun j hj h=> ?_,fun i hi hl=>(okJ_t.1 (h2 i hi) hl).1,fun i hi hl=>(okJ_t.1 (h2 i hi) hl).2⟩
  ·rw[hU,BitVec.getLsbD_and,BitVec.getLsbD_and,Bool.and_eq_true,Bool.and_eq_true]at hj;exact hj.1.1
  ·rw[hT,y3r]
  ·rw[hT,a4a _ _ _ hn]
   constructor
   ·cases decide (n<r.length)&&(s.L&&&s.C).getLsbD n with
    |true=>exact imin_le _
    |false=>show(0:Int)≤20;omega
   ·intro hc
    rw[BitVec.getLsbD_and,hc];simp
  ·rw[hP,BitVec.getLsbD_and,Bool.and_eq_true,BitVec.getLsbD_setWidth,y0i (by omega)]at h
   have:=h.2
   rw[Bool.and_eq_true,decide_eq_true_eq,decide_eq_true_eq]at this
   exact this.2
 ·intro h
  refine⟨?_,fun i hi=>okJ_t.2 fun hl=>⟨h.cl i hi hl,h.nd i hi hl⟩⟩
  have fL: ∀X:B64,(∀j,j<64→X.getLsbD j=true→s.L.getLsbD j=true)→X=(s.L&&&X)&&&firB r.length:=fun X hX=>by
   apply BitVec.eq_of_getLsbD_eq
   intro j hj
   rw[BitVec.getLsbD_and,BitVec.getLsbD_and,y0i lr]
   cases hx:X.getLsbD j with
   |false=>simp
   |true=>rw[hX j hj hx,dt (h.L j hj (hX j hj hx))];rfl
  have e1:s.L=s.L&&&firB r.length:=p4r fun j hj hl=>by rw[y0i lr];exact dt (h.L j hj hl)
  have e4:s.T=tmL (s.L&&&s.C) s.T r.length:=by
   refine h4r h.len (y3r ..) fun n hn=> ?_
   rw[a4a _ _ _ hn,BitVec.getLsbD_and]
   obtain⟨t1,t2⟩:=h.T n hn
   cases hc:s.C.getLsbD n with
   |false=>rw[t2 hc];simp
   |true=>rw[h.C n hn hc,dt (h.L n hn (h.C n hn hc))];exact(imin_of t1).symm
  have e5:s.P=s.P&&&(firB b.length).setWidth 32:=p4r fun j hj hp=>by
   rw[BitVec.getLsbD_setWidth,dt hj,y0i (by omega),dt (h.P j hj hp)];rfl
  have e2:=fL s.U h.U
  have e3:=fL s.C h.C
  show s=SQ.mk _ _ _ _ _
  cases s
  simp only[SQ.mk.injEq]
  exact⟨e1,e2,e3,e4,e5⟩
theorem l4h (P:P32){d:Ty.den TNd}(h0:0≤f1 d){j:Nat}(hj:j<32):(n4b P d).getLsbD j=bif decide (j=(f1 d).toNat)then g2 d else P.getLsbD j:=by
 unfold n4b
 rw[BitVec.getLsbD_setWidth,dt hj,Bool.true_and,i4k _ _ _ (by omega),BitVec.getLsbD_setWidth,dt (show j<64 by omega),Bool.true_and]
theorem k4l (l:LN): ∀(P:P32) {j:Nat},j<32→(∀d∈l,0≤f1 d)→(∀d∈l,(f1 d).toNat≠j)→(setP l P).getLsbD j=P.getLsbD j:=by
 induction l with
 |nil=>intro P j _ _ _;rfl
 |cons d l ih=>
  intro P j hj h0 h
  show(setP l (n4b P d)).getLsbD j=_
  rw[ih _ hj (fun e he=>h0 e (List.mem_cons_of_mem _ he)) (fun e he=>h e (List.mem_cons_of_mem _ he)),l4h P (h0 d List.mem_cons_self) hj,df (fun e=>h d List.mem_cons_self e.symm)];rfl
theorem o4m (l:LN): ∀(P:P32),(∀d∈l,0≤f1 d∧f1 d<32)→(nd l).Nodup→ ∀d∈l,(setP l P).getLsbD (f1 d).toNat=g2 d:=by
 induction l with
 |nil=>intro P _ _ d hd;cases hd
 |cons e l ih=>
  intro P h0 hn d hd
  have hn':f1 e∉nd l∧(nd l).Nodup:=List.nodup_cons.1 hn
  show(setP l (n4b P e)).getLsbD _=_
  rcases List.mem_cons.1 hd with rfl|hd
  ·obtain⟨q1,q2⟩:=h0 d List.mem_cons_self
   rw[k4l l _ (by omega) (fun x hx=>(h0 x (List.mem_cons_of_mem _ hx)).1) (fun x hx q=>hn'.1 ?_),l4h P q1 (by omega),dt rfl];rfl
   have:=(h0 x (List.mem_cons_of_mem _ hx)).1
   rw[show f1 d=f1 x by omega]
   exact List.mem_map_of_mem hx
  ·exact ih _ (fun x hx=>h0 x (List.mem_cons_of_mem _ hx)) hn'.2 d hd
section
variable {a:LS} {b c:LP} {r:LR} (g:WG a b c r) (O:B64)
include g
theorem nds32 {i:Nat}(hi:i<r.length): ∀d∈ndsE (rN r i),0≤f1 d∧f1 d<32:=(n4o g.w hi).2
end
theorem i4w {α:Type}{p:α→Prop}{v:Bool}{x y:α}(h1:v=true→p x)(h2:v=false→p y):p (bif v then x else y):=by
 cases v with
 |true=>exact h1 rfl
 |false=>exact h2 rfl
theorem j4w {X:B64}{i j:Nat}(hj:j<64)(h:(putB X i true).getLsbD j=true):j=i∨X.getLsbD j=true:=by
 rw[i4k _ _ _ hj]at h
 by_cases e:j=i
 ·exact .inl e
 ·rw[df e]at h;exact .inr h
theorem k4d {X:B64}{i j:Nat}(hj:j<64)(h:(putB X i false).getLsbD j=true):j≠i∧X.getLsbD j=true:=by
 rw[i4k _ _ _ hj]at h
 by_cases e:j=i
 ·rw[dt e]at h;cases h
 ·rw[df e]at h;exact⟨e,h⟩
theorem k4f {X:B64}{i j:Nat}{v:Bool}(hj:j<64)(e:j≠i):(putB X i v).getLsbD j=X.getLsbD j:=by
 rw[i4k _ _ _ hj,df e];rfl
theorem p4s {X:B64}{i:Nat}{v:Bool}(hj:i<64):(putB X i v).getLsbD i=v:=by
 rw[i4k _ _ _ hj,dt rfl];rfl
theorem set_len (l:List Int)(i:Nat)(v:Int):(l.set i v).length=l.length:=List.length_set ..
theorem cl_sym {b:LP}{r:LR}(i k:Nat):clN b r i k=clN b r k i:=r2d ..
theorem wu8 {x:Int}(h0:0≤x)(h1:x<256):IntKind.wrap .u8 x=x:=by unfold IntKind.wrap;simp[IntKind.bits,IntKind.signed];omega
section
variable {a:LS} {b c:LP} {r:LR} (g:WG a b c r) (O:B64) {s:SQ} (h:Rgt b r s)
include g h
theorem rgt_set {i:Nat}(hi:i<r.length):Rgt b r (setI b r O s i):=by
 have lr:=g.w.lr
 have lb:=g.w.lb
 unfold setI
 refine i4w (fun hm=> ?_) (fun _=>h)
 unfold p4b at hm
 simp only[Bool.and_eq_true,Bool.not_eq_true']at hm
 obtain⟨h1,h2,h3,h4⟩:=hm
 rw[o4u]at h2
 have n32:=nds32 g hi
 have hn:=(q3g g.w hi).2.2
 have cl: ∀j,j<r.length→(putB s.L i true).getLsbD j=true→ ∀k,k<r.length→(putB s.L i true).getLsbD k=true→clN b r j k=false:=by
  intro j hj lj k hk lk
  rcases j4w (by omega) lj with e1|q1
  ·rcases j4w (by omega) lk with e2|q2
   ·exact cl_eq (by rw[e1,e2])
   ·rw[e1];exact h2 k hk q2
  ·rcases j4w (by omega) lk with e2|q2
   ·rw[cl_sym,e2];exact h2 j hj q1
   ·exact h.cl j hj q1 k hk q2
 refine⟨fun j hj lj=> ?_,fun j hj uj=> ?_,fun j hj cj=> ?_,h.len,h.T,fun j hj pj=> ?_,cl,fun j hj lj d hd=> ?_⟩
 ·rcases j4w hj lj with rfl|lj
  ·exact hi
  ·exact h.L j hj lj
 ·by_cases e:j=i
  ·subst e;exact p4s hj
  ·rw[show SQ.L _=putB s.L i true from rfl,k4f hj e];exact h.U j hj uj
 ·by_cases e:j=i
  ·subst e;exact p4s hj
  ·rw[show SQ.L _=putB s.L i true from rfl,k4f hj e];exact h.C j hj cj
 ·by_cases e: ∀d∈ndsE (rN r i),(f1 d).toNat≠j
  ·exact h.P j hj (by rw[←k4l (ndsE (rN r i)) s.P hj (fun d hd=>(n32 d hd).1) e];exact pj)
  ·obtain⟨d,hd⟩:=Classical.not_forall.1 e
   obtain⟨hd,q⟩:=Classical.not_imp.1 hd
   have:=g.w.pt i hi d hd
   omega
 ·have q:=nds32 g hj d hd
  show(setP (ndsE (rN r i)) s.P).getLsbD _=_
  by_cases e:j=i
  ·subst e;exact o4m _ _ n32 hn d hd
  ·have lj':s.L.getLsbD j=true:=by
    rcases j4w (by omega) lj with x|x
    ·exact absurd x e
    ·exact x
   by_cases f: ∀x∈ndsE (rN r i),(f1 x).toNat≠(f1 d).toNat
   ·rw[k4l _ _ (by omega) (fun x hx=>(n32 x hx).1) f];exact h.nd j hj lj' d hd
   ·obtain⟨x,hx⟩:=Classical.not_forall.1 f
    obtain⟨hx,q2⟩:=Classical.not_imp.1 hx
    have q3:=n32 x hx
    have q4:f1 x=f1 d:=by omega
    rw[←q4,o4m _ _ n32 hn x hx]
    exact(apart g.w hi hj (fun q=>e q.symm) (h2 j hj lj')).2 x hx d hd q4
theorem rgt_can {i:Nat}(hi:i<r.length):Rgt b r (canI c r O s i):=by
 have lr:=g.w.lr
 unfold canI
 refine i4w (fun hm=> ?_) (fun _=>h)
 unfold wtgI at hm
 simp only[BitVec.getLsbD_and,Bool.and_eq_true]at hm
 have hl:=hm.1.1
 have ht: ∀v:Int,v≤20→ ∀n,n<64→((s.T.set i v).getD n 0)≤20∧((putB s.C i true).getLsbD n=false→(s.T.set i v).getD n 0=0):=fun v hv n hn=>by
  rw[n4h _ _ (by rw[h.len];exact hn)]
  by_cases e:i=n
  ·subst e
   rw[dt rfl,p4s (by omega)]
   exact⟨hv,fun q=>by cases q⟩
  ·rw[df e,k4f hn (fun q=>e q.symm)]
   exact h.T n hn
 refine⟨h.L,h.U,fun j hj cj=> ?_,?_,fun n hn=> ?_,h.P,h.cl,h.nd⟩
 ·rcases j4w hj cj with rfl|cj
  ·exact hl
  ·exact h.C j hj cj
 ·exact i4w (p:=fun l:List Int=>l.length=64) (fun _=>by rw[set_len];exact h.len) (fun _=>by rw[set_len,set_len];exact h.len)
 ·show((bif clr O (ptS c (eN (rN r i)))then s.T.set i 0 else(s.T.set i 0).set i 20:List Int).getD n 0)≤20∧(_→_)
  cases clr O (ptS c (eN (rN r i)))with
  |true=>exact ht 0 (by omega) n hn
  |false=>
   rw[show(s.T.set i 0).set i 20=s.T.set i 20 from List.set_set ..]
   exact ht 20 (by omega) n hn
theorem rgt_mov (n:Int):Rgt b r (movC b r O s n):=by
 have lr:=g.w.lr
 have lb:=g.w.lb
 unfold movC
 refine i4w (fun hn=>i4w (fun hm=> ?_) (fun _=>h)) (fun _=>h)
 rw[Bool.and_eq_true,decide_eq_true_eq,decide_eq_true_eq]at hn
 obtain⟨k,rfl⟩: ∃k:Nat,n=k:=⟨_,(Int.toNat_of_nonneg hn.1).symm⟩
 rw[Bool.and_eq_true,Bool.not_eq_true']at hm
 obtain⟨-,h2⟩:=hm
 unfold n4t at h2
 rw[p4v]at h2
 have bit: ∀j,j<32→(s.P^^^(1#32<<<(k:Int).toNat)).getLsbD j=(s.P.getLsbD j !=decide (j=k)):=fun j hj=>by
  rw[BitVec.getLsbD_xor,Int.toNat_natCast,BitVec.getLsbD_shiftLeft]
  by_cases e:j=k
  ·subst e;simp[hj]
  ·rw[df e]
   by_cases q:j<k
   ·simp[q]
   ·rw[show(1#32).getLsbD (j-k)=false by rw[BitVec.getLsbD_one];simp;omega];simp
 refine⟨h.L,h.U,h.C,h.len,h.T,fun j hj pj=> ?_,h.cl,fun i hi hl d hd=> ?_⟩
 ·rw[show SQ.P _=s.P^^^(1#32<<<(k:Int).toNat)from rfl,bit j hj]at pj
  by_cases e:j=k
  ·subst e;omega
  ·rw[df e]at pj;exact h.P j hj (by simpa using pj)
 ·have q:=nds32 g hi d hd
  have:=h2 i (List.mem_range'_1.2 (by omega))
  rw[hl,Bool.true_and,p4v]at this
  have:=of_decide_eq_false (this d hd)
  rw[show SQ.P _=s.P^^^(1#32<<<(k:Int).toNat)from rfl,bit _ (by omega),df (by omega),h.nd i hi hl d hd];simp
theorem rgt_cmd (x:Ty.den TCmd):Rgt b r (cmdC b c r O s x):=by
 have key: ∀f:SQ→Nat→SQ,(∀i,i<r.length→Rgt b r (f s i))→ ∀n:Int,Rgt b r (bif decide (n≥0)&&decide (n<(r.length:Int))then f s n.toNat else s):=fun f hf n=>by
  refine i4w (fun hn=> ?_) (fun _=>h)
  rw[Bool.and_eq_true,decide_eq_true_eq,decide_eq_true_eq]at hn
  exact hf _ (by omega)
 unfold cmdC
 exact i4w (fun _=>key (setI b r O) (fun i hi=>rgt_set g O h hi) _) fun _=>i4w (fun _=>key (canI c r O) (fun i hi=>rgt_can g O h hi) _) fun _=>i4w (fun _=>rgt_mov g O h _) fun _=>h
theorem p4o {i:Nat}(hi:i<r.length):Rgt b r (relI r O s i):=by
 have lr:=g.w.lr
 unfold relI
 refine i4w (fun hm=> ?_) (fun _=>h)
 refine⟨fun j hj q=>h.L j hj (k4d hj q).2,fun j hj q=> ?_,fun j hj q=> ?_,?_,fun n hn=> ?_,h.P,fun j hj q k hk q2=>h.cl j hj (k4d (by omega) q).2 k hk (k4d (by omega) q2).2,fun j hj q=>h.nd j hj (k4d (by omega) q).2⟩
 ·obtain⟨q1,q2⟩:=k4d hj q
  exact(k4f hj q1).trans (h.U j hj q2)
 ·obtain⟨q1,q2⟩:=k4d hj q
  exact(k4f hj q1).trans (h.C j hj q2)
 ·exact(set_len ..).trans h.len
 ·show(s.T.set i 0).getD n 0≤20∧((putB s.C i false).getLsbD n=false→(s.T.set i 0).getD n 0=0)
  rw[n4h _ _ (by rw[h.len];exact hn)]
  by_cases e:i=n
  ·subst e;rw[dt rfl];exact⟨show(0:Int)≤20 by omega,fun _=>rfl⟩
  ·rw[df e,k4f hn (fun q=>e q.symm)];exact h.T n hn
theorem rgt_go (u:B64){i:Nat}(hi:i<r.length):Rgt b r (goI r O u s i):=by
 have lr:=g.w.lr
 unfold goI
 refine i4w (fun _=>h) fun h1=>i4w (fun _=>p4o g O h hi) fun _=>i4w (fun _=> ?_) fun _=>i4w (fun _=>h) fun h4=>i4w (fun h5=> ?_) fun _=>p4o g O h hi
 ·refine⟨h.L,fun j hj q=> ?_,h.C,h.len,h.T,h.P,h.cl,h.nd⟩
  rcases j4w hj q with rfl|q
  ·exact k4c h1
  ·exact h.U j hj q
 ·have h5:=of_decide_eq_true h5
  have ht:=h.T i (by omega)
  refine⟨h.L,h.U,h.C,(set_len ..).trans h.len,fun n hn=> ?_,h.P,h.cl,h.nd⟩
  show(s.T.set i _).getD n 0≤20∧(s.C.getLsbD n=false→(s.T.set i _).getD n 0=0)
  rw[n4h _ _ (by rw[h.len];exact hn)]
  by_cases e:i=n
  ·subst e
   rw[dt rfl,wu8 (by omega) (by omega)]
   exact⟨by show s.T.getD i 0-1≤20;omega,fun q=>by rw[k4c h4]at q;cases q⟩
  ·rw[df e];exact h.T n hn
end
theorem n4j {a:LS}{b c:LP}{r:LR}(g:WG a b c r)(O:B64): ∀(l:LC) {s:SQ},Rgt b r s→Rgt b r (i4x b c r O s l)
 |[],_,h=>h
 |x::l,s,h=>n4j g O l (rgt_cmd g O h x)
theorem o4k {a:LS}{b c:LP}{r:LR}(g:WG a b c r)(O u:B64){s:SQ}(h:Rgt b r s): ∀k,k≤r.length→Rgt b r (goN r O u s k)
 |0,_=>h
 |k+1,hk=>rgt_go g O (o4k g O u h k (by omega)) u (by omega)
theorem q4d {a:LS}{b c:LP}{r:LR}(w:WF a b c r){s:SQ}(h:Rgt b r s):y3x r.length b.length s=s:=by
 have:=(m4r w).2 h
 unfold rgtJ at this
 rw[Bool.and_eq_true,a4k]at this
 exact this.1.symm
theorem q4j {a:LS}{b c:LP}{r:LR}(g:WG a b c r)(O:B64)(cm:LC){s:SQ}(h:Rgt b r s):Rgt b r (k4a b c r O cm s):=by
 unfold k4a
 rw[q4d g.w h]
 exact o4k g O _ (n4j g O _ h) _ (Nat.le_refl _)
theorem p32nz {P:BitVec 32}{x:Int}(h0:0≤x)(h:P.getLsbD x.toNat=true): ¬iand IntKind.u32 (ishr IntKind.u32 (N P) x) (1:Int)=(0:Int):=by
 have:=p32bit P h0
 rw[h,beq_iff_eq]at this
 rw[this];decide
section
variable {a:LS} {b c:LP} {r:LR} (g:WG a b c r) (O:B64) (nm rv:P32) (cm:LC) {t:SQ} (ht:Rgt b r t) {X:B64}
theorem q4k (k:Nat)(hk:k≤64){j:Nat}(hj:j<64):(outN r O nm rv t k).getLsbD j=(decide (j<k)&&proc r O nm rv t j):=by
 induction k with
 |zero=>simp[outN]
 |succ k ih=>
  show(putB (outN r O nm rv t k) k (proc r O nm rv t k)).getLsbD j=_
  rw[i4k _ _ _ hj,ih (by omega)]
  by_cases e:j=k
  ·subst e;rw[dt rfl,dt (show j<j+1 by omega)];rfl
  ·have:decide (j<k)=decide (j<k+1):=by rw[Bool.eq_iff_iff];simp;omega
   rw[df e,this];rfl
def Shown (r:LR)(O:B64)(nm rv:P32)(t:SQ)(X:B64):Prop:= ∀j,j<64→X.getLsbD j=true→j<r.length∧t.L.getLsbD j=true∧k4b r O j=true∧ ∀d∈ndsE (rN r j),m4s nm rv d=false
theorem o4j (hr:r.length≤64):Shown r O nm rv t (outN r O nm rv t r.length):=by
 intro j hj h
 rw[q4k O nm rv _ hr hj,Bool.and_eq_true,decide_eq_true_eq]at h
 obtain⟨h1,h2⟩:=h
 unfold proc wtgI at h2
 simp only[Bool.and_eq_true,BitVec.getLsbD_and,Bool.not_eq_true']at h2
 exact⟨h1,h2.1.1.1,h2.2.1,p4v.1 h2.2.2⟩
variable (hX:Shown r O nm rv t X)
include g ht hX
theorem s22_11 {i:Nat}(hi:i<r.length)(hl:t.L.getLsbD i=true):j4z [.k 0,.n (N (nm&&& ~~~rv)),.n (N (rv&&& ~~~nm)),.n (i:Int),.n 0,.l TS a,.l TPt b,.l TPt c,.l TRt r,.n (N t.L),.n (N t.U),.n (N t.C),.l TB t.T,.n (N t.P),.n (N O),.n (N nm),.n (N rv),.l TCmd cm,.n (N X),.n (N t.P),.l TI (trk (rN r i)),.l TNd (ndsE (rN r i))]=some (0,[.n (N (nm&&& ~~~rv)),.n (N (rv&&& ~~~nm)),.n (i:Int),.l TS a,.l TPt b,.l TPt c,.l TRt r,.n (N t.L),.n (N t.U),.n (N t.C),.l TB t.T,.n (N t.P),.n (N O),.n (N nm),.n (N rv),.l TCmd cm,.n (N X),.n (N t.P),.l TI (trk (rN r i))]):=by
 have lr:=g.w.lr
 have hd:=n4o g.w hi
 rw[k4y]
 refine b0a (st:=i4y) (fun k=>[.k 0,.n (N (nm&&& ~~~rv)),.n (N (rv&&& ~~~nm)),.n (i:Int),.n (k:Int),.l TS a,.l TPt b,.l TPt c,.l TRt r,.n (N t.L),.n (N t.U),.n (N t.C),.l TB t.T,.n (N t.P),.n (N O),.n (N nm),.n (N rv),.l TCmd cm,.n (N X),.n (N t.P),.l TI (trk (rN r i)),.l TNd (ndsE (rN r i))]) (ndsE (rN r i)).length (0,[.n (N (nm&&& ~~~rv)),.n (N (rv&&& ~~~nm)),.n (i:Int),.l TS a,.l TPt b,.l TPt c,.l TRt r,.n (N t.L),.n (N t.U),.n (N t.C),.l TB t.T,.n (N t.P),.n (N O),.n (N nm),.n (N rv),.l TCmd cm,.n (N X),.n (N t.P),.l TI (trk (rN r i))]) (fun k hk=> ?_) (l4s (by omega) (by omega)) FU (b1w (by have:=hd.1;omega))
 show _=some (Step.go [.k 0,.n (N (nm&&& ~~~rv)),.n (N (rv&&& ~~~nm)),.n (i:Int),.n ((k+1:Nat):Int),.l TS a,.l TPt b,.l TPt c,.l TRt r,.n (N t.L),.n (N t.U),.n (N t.C),.l TB t.T,.n (N t.P),.n (N O),.n (N nm),.n (N rv),.l TCmd cm,.n (N X),.n (N t.P),.l TI (trk (rN r i)),.l TNd (ndsE (rN r i))])
 rw[←w1n k (by have:=hd.1;omega)]
 have hm:=sAtG (ndsE (rN r i)) (Ty.dflt TNd) hk
 obtain⟨q1,q2⟩:=hd.2 _ hm
 have e2:((iand IntKind.u32 (ishr IntKind.u32 (N t.P) (f1 ((ndsE (rN r i)).getD k (Ty.dflt TNd)))) (1:Int)==(1:Int))==g2 ((ndsE (rN r i)).getD k (Ty.dflt TNd)))=true:=by
  rw[p32bit t.P q1,ht.nd i hi hl _ hm];simp
 have e0: ¬f1 ((ndsE (rN r i)).getD k (Ty.dflt TNd))<0:=by omega
 have e4:=q11 X (show i<64 by omega)
 cases hx:X.getLsbD i with
 |false=>
  cases hg:g2 ((ndsE (rN r i)).getD k (Ty.dflt TNd))with
  |true=>exact l4d (by omega) (by omega) e0 e2 hg e4 hx
  |false=>exact l4k (by omega) (by omega) e0 e2 hg e4 hx
 |true=>
  have hu:=(hX i (by omega) hx).2.2.2 _ hm
  unfold m4s at hu
  cases hg:g2 ((ndsE (rN r i)).getD k (Ty.dflt TNd))with
  |true=>rw[hg]at hu;exact l4m (by omega) (by omega) e0 e2 hg e4 hx (p32nz q1 (k4c hu))
  |false=>rw[hg]at hu;exact l4q (by omega) (by omega) e0 e2 hg e4 hx (p32nz q1 (k4c hu))
omit ht in
theorem s22_21 {i:Nat}(hi:i<r.length):j4v [.k 0,.n (N (nm&&& ~~~rv)),.n (N (rv&&& ~~~nm)),.n (i:Int),.n 0,.l TS a,.l TPt b,.l TPt c,.l TRt r,.n (N t.L),.n (N t.U),.n (N t.C),.l TB t.T,.n (N t.P),.n (N O),.n (N nm),.n (N rv),.l TCmd cm,.n (N X),.n (N t.P),.l TI (trk (rN r i))]=some (0,[.n (N (nm&&& ~~~rv)),.n (N (rv&&& ~~~nm)),.n (i:Int),.l TS a,.l TPt b,.l TPt c,.l TRt r,.n (N t.L),.n (N t.U),.n (N t.C),.l TB t.T,.n (N t.P),.n (N O),.n (N nm),.n (N rv),.l TCmd cm,.n (N X),.n (N t.P)]):=by
 have lr:=g.w.lr
 have hd:=o4i g.w hi
 have e1:=q11 X (show i<64 by omega)
 rw[l4r]
 cases hx:X.getLsbD i with
 |false=>
  by_cases h0:0<(trk (rN r i)).length
  ·exact c0a (n:=FU-1) (l4f (by omega) (Int.ofNat_lt.2 h0) e1 hx)
  ·exact c0a (n:=FU-1) (j4n (by omega) (fun q=>h0 (Int.ofNat_lt.1 q)))
 |true=>
  refine b0a (st:=j4b) (fun k=>[.k 0,.n (N (nm&&& ~~~rv)),.n (N (rv&&& ~~~nm)),.n (i:Int),.n (k:Int),.l TS a,.l TPt b,.l TPt c,.l TRt r,.n (N t.L),.n (N t.U),.n (N t.C),.l TB t.T,.n (N t.P),.n (N O),.n (N nm),.n (N rv),.l TCmd cm,.n (N X),.n (N t.P),.l TI (trk (rN r i))]) (trk (rN r i)).length (0,[.n (N (nm&&& ~~~rv)),.n (N (rv&&& ~~~nm)),.n (i:Int),.l TS a,.l TPt b,.l TPt c,.l TRt r,.n (N t.L),.n (N t.U),.n (N t.C),.l TB t.T,.n (N t.P),.n (N O),.n (N nm),.n (N rv),.l TCmd cm,.n (N X),.n (N t.P)]) (fun k hk=> ?_) (j4n (by omega) (Int.lt_irrefl ((trk (rN r i)).length:Int))) FU (b1w (by have:=hd.1;omega))
  show _=some (Step.go [.k 0,.n (N (nm&&& ~~~rv)),.n (N (rv&&& ~~~nm)),.n (i:Int),.n ((k+1:Nat):Int),.l TS a,.l TPt b,.l TPt c,.l TRt r,.n (N t.L),.n (N t.U),.n (N t.C),.l TB t.T,.n (N t.P),.n (N O),.n (N nm),.n (N rv),.l TCmd cm,.n (N X),.n (N t.P),.l TI (trk (rN r i))])
  rw[←w1n k (by have:=hd.1;omega)]
  have hm:=sAtG (trk (rN r i)) (0:Int) hk
  obtain⟨q1,q2⟩:=hd.2 _ hm
  have hf:=(hX i (by omega) hx).2.2.1
  unfold k4b at hf
  have hc:=List.all_eq_true.1 hf _ hm
  unfold clr at hc
  have e3:=q_e11 O ((trk (rN r i)).getD k 0)
  obtain⟨m,hm2⟩: ∃m:Nat,(trk (rN r i)).getD k 0=m:=⟨_,(Int.toNat_of_nonneg q1).symm⟩
  have e4:hasB O ((trk (rN r i)).getD k 0)=false:=by
   rw[hm2,p3n O (by omega)]
   rw[hm2,Int.toNat_natCast]at hc
   simpa using hc
  exact l4b (by omega) (Int.ofNat_lt.2 hk) e1 hx e3 e4
omit hX in
theorem s22_26 (hs:okS a b c r){i:Nat}(hi:i<r.length)(hl:t.L.getLsbD i=true):j4y [.k 0,.n (N (nm&&& ~~~rv)),.n (N (rv&&& ~~~nm)),.n (i:Int),.n 0,.l TS a,.l TPt b,.l TPt c,.l TRt r,.n (N t.L),.n (N t.U),.n (N t.C),.l TB t.T,.n (N t.P),.n (N O),.n (N nm),.n (N rv),.l TCmd cm,.n (N X),.n (N t.P)]=some (0,[.n (N (nm&&& ~~~rv)),.n (N (rv&&& ~~~nm)),.n (i:Int),.l TS a,.l TPt b,.l TPt c,.l TRt r,.n (N t.L),.n (N t.U),.n (N t.C),.l TB t.T,.n (N t.P),.n (N O),.n (N nm),.n (N rv),.l TCmd cm,.n (N X),.n (N t.P)]):=by
 have lr:=g.w.lr
 rw[l4i]
 refine b0a (st:=j4a) (fun k=>[.k 0,.n (N (nm&&& ~~~rv)),.n (N (rv&&& ~~~nm)),.n (i:Int),.n (k:Int),.l TS a,.l TPt b,.l TPt c,.l TRt r,.n (N t.L),.n (N t.U),.n (N t.C),.l TB t.T,.n (N t.P),.n (N O),.n (N nm),.n (N rv),.l TCmd cm,.n (N X),.n (N t.P)]) i (0,[.n (N (nm&&& ~~~rv)),.n (N (rv&&& ~~~nm)),.n (i:Int),.l TS a,.l TPt b,.l TPt c,.l TRt r,.n (N t.L),.n (N t.U),.n (N t.C),.l TB t.T,.n (N t.P),.n (N O),.n (N nm),.n (N rv),.l TCmd cm,.n (N X),.n (N t.P)]) (fun k hk=> ?_) (k4x (by omega) (by omega)) FU (b1w (by omega))
 show _=some (Step.go [.k 0,.n (N (nm&&& ~~~rv)),.n (N (rv&&& ~~~nm)),.n (i:Int),.n ((k+1:Nat):Int),.l TS a,.l TPt b,.l TPt c,.l TRt r,.n (N t.L),.n (N t.U),.n (N t.C),.l TB t.T,.n (N t.P),.n (N O),.n (N nm),.n (N rv),.l TCmd cm,.n (N X),.n (N t.P)])
 rw[←w1n k (by omega)]
 have e1:=q11 t.L (show k<64 by omega)
 cases hk2:t.L.getLsbD k with
 |false=>exact k4w (by omega) (by omega) e1 hk2
 |true=>
  have e3:=o20c a b c r (i:Int) (k:Int) hs
  have e4:prB a b c r (i:Int) (k:Int)=false:=by
   have:=ht.cl i hi hl k (by omega) hk2
   unfold clN at this
   unfold prB
   rw[this];simp
  exact l4c (by omega) (by omega) e1 hk2 e3 e4
theorem s22_3 (hs:okS a b c r):k4i [.k 0,.n (N (nm&&& ~~~rv)),.n (N (rv&&& ~~~nm)),.n 0,.l TS a,.l TPt b,.l TPt c,.l TRt r,.n (N t.L),.n (N t.U),.n (N t.C),.l TB t.T,.n (N t.P),.n (N O),.n (N nm),.n (N rv),.l TCmd cm,.n (N X),.n (N t.P)]=some (0,[.l TS a,.l TPt b,.l TPt c,.l TRt r,.n (N X),.n (N t.P)]):=by
 have lr:=g.w.lr
 rw[m4z]
 refine b0a (st:=j4d) (fun i=>[.k 0,.n (N (nm&&& ~~~rv)),.n (N (rv&&& ~~~nm)),.n (i:Int),.l TS a,.l TPt b,.l TPt c,.l TRt r,.n (N t.L),.n (N t.U),.n (N t.C),.l TB t.T,.n (N t.P),.n (N O),.n (N nm),.n (N rv),.l TCmd cm,.n (N X),.n (N t.P)]) r.length (0,[.l TS a,.l TPt b,.l TPt c,.l TRt r,.n (N X),.n (N t.P)]) (fun i hi=> ?_) (l4u (by omega) (by omega)) FU (b1w (by omega))
 show _=some (Step.go [.k 0,.n (N (nm&&& ~~~rv)),.n (N (rv&&& ~~~nm)),.n ((i+1:Nat):Int),.l TS a,.l TPt b,.l TPt c,.l TRt r,.n (N t.L),.n (N t.U),.n (N t.C),.l TB t.T,.n (N t.P),.n (N O),.n (N nm),.n (N rv),.l TCmd cm,.n (N X),.n (N t.P)])
 rw[←w1n i (by omega)]
 have e1:=q11 t.L (show i<64 by omega)
 cases hl:t.L.getLsbD i with
 |false=>
  have e3:X.getLsbD i=false:=by
   cases hx:X.getLsbD i with
   |false=>rfl
   |true=>have:=(hX i (by omega) hx).2.1;rw[hl]at this;cases this
  exact n4e (by omega) (by omega) e1 hl (q11 X (by omega)) e3
 |true=>exact m4y (by omega) (by omega) e1 hl (e11 g.w hi) (e12 g.w hi) (s22_11 g O nm rv cm ht hX hi hl) (s22_21 g O nm rv cm hX hi) (s22_26 g O nm rv cm ht hs hi hl)
theorem s22 (hs:okS a b c r):n4q [.l TS a,.l TPt b,.l TPt c,.l TRt r,.n (N t.L),.n (N t.U),.n (N t.C),.l TB t.T,.n (N t.P),.n (N O),.n (N nm),.n (N rv),.l TCmd cm,.n (N X),.n (N t.P)]=some (0,[.b true]):=by
 have lr:=g.w.lr
 have e:=s22_3 g O nm rv cm ht hX hs
 rw[←s1h,←s1h]at e
 have q:=o4l e (q27 lr)
 rw[q1y]at q
 have z:X&&& ~~~firB r.length=0#64:=and0 fun k hk h1 h2=>by
  rw[BitVec.getLsbD_not,y0i lr,dt hk,dt (hX k hk h1).1]at h2
  cases h2
 rw[z]at q
 exact q
end
theorem W6_true (a:LS)(b c:LP)(r:LR)(s:SQ)(O:B64)(nm rv:P32)(cm:LC)(hs:okS a b c r)(hc:okCm cm):(k4s [.l TS a,.l TPt b,.l TPt c,.l TRt r,.n (N s.L),.n (N s.U),.n (N s.C),.l TB s.T,.n (N s.P),.n (N O),.n (N nm),.n (N rv),.l TCmd cm]).sel=some true:=by
 obtain⟨m,e1⟩:=o15 a b c r 400 hs
 by_cases h:m>400
 ·exact q4e e1 h rfl
 have e2:=o11i a b c r hs
 unfold newA at e2
 by_cases hk:(ckA a b c r).1=0
 ·rw[if_pos hk]at e2
  have g:=wg_of hk
  by_cases hl:((cm.length:Int)>100)
  ·exact q4b e1 h e2 rfl hl rfl
  ·have e5:=n15 g.w s
   cases hr:rgtJ b r s with
   |false=>exact q4g e1 h e2 rfl hl e5 hr rfl
   |true=>
    have hq:=q4j g O cm ((m4r g.w).1 hr)
    exact q4c e1 h e2 rfl hl e5 hr (n13 g O nm rv cm s hc) (n15 g.w (k4a b c r O cm s)) ((m4r g.w).2 hq) (s22 g O nm rv cm hq (o4j O nm rv g.w.lr) hs) rfl rfl
 ·rw[if_neg hk]at e2
  exact q4a e1 h e2 hk rfl
theorem okCm_wf {cm:LC}(h:wfD (.sl TCmd) cm=true):okCm cm:=by
 refine⟨?_,fun x hx=> ?_⟩
 ·have h2:decide (List.length (α:=Ty.den TCmd) cm≤9223372036854775807)=true:=(Bool.and_eq_true_iff.1 (show(decide _&&_)=true from h)).1
  exact of_decide_eq_true h2
 ·have h2:=wfi (p0a (y1u h x hx)).1
  simp[IntKind.min,IntKind.max,IntKind.bits,IntKind.signed]at h2
  exact⟨h2.1,Int.lt_of_le_of_lt h2.2 (show(255:Int)<256 by omega)⟩
theorem q4f {n:Int}(h:wfD (.int .u64) n=true): ∃X:B64,n=N X:=by
 have h:=wfi h
 simp[IntKind.min,IntKind.max,IntKind.bits,IntKind.signed]at h
 exact⟨_,(N_of h.1 (by omega)).symm⟩
theorem toN32 {n:Int}(h:wfD (.int .u32) n=true): ∃X:P32,n=N X:=by
 have h:=wfi h
 simp[IntKind.min,IntKind.max,IntKind.bits,IntKind.signed]at h
 exact⟨_,(N_of h.1 (by omega)).symm⟩
theorem W6_all (a:LS)(b c:LP)(r:LR)(x y z:Int)(T:List (Ty.den TB))(p o n v:Int)(cm:LC)(hs:okS a b c r)(hx:wfD (.int .u64) x=true)(hy:wfD (.int .u64) y=true)(hz:wfD (.int .u64) z=true)(hp:wfD (.int .u32) p=true)(ho:wfD (.int .u64) o=true)(hn:wfD (.int .u32) n=true)(hv:wfD (.int .u32) v=true)(hc:wfD (.sl TCmd) cm=true):
  (k4s [.l TS a,.l TPt b,.l TPt c,.l TRt r,.n x,.n y,.n z,.l TB T,.n p,.n o,.n n,.n v,.l TCmd cm]).sel=some true:=by
 obtain⟨X,rfl⟩:=q4f hx
 obtain⟨Y,rfl⟩:=q4f hy
 obtain⟨Z,rfl⟩:=q4f hz
 obtain⟨P,rfl⟩:=toN32 hp
 obtain⟨O,rfl⟩:=q4f ho
 obtain⟨A,rfl⟩:=toN32 hn
 obtain⟨B,rfl⟩:=toN32 hv
 exact W6_true a b c r ⟨X,Y,Z,T,P⟩ O A B cm hs (okCm_wf hc)
end Go.Proofs.Ytdmlmhomcmiodaa.Vx
end
