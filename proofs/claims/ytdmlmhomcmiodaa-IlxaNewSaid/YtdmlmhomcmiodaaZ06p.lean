import Derived.Test.YtdmlmhomcmiodaaZ06j
import Derived.Test.YtdmlmhomcmiodaaProg
import Derived.Test.YtdmlmhomcmiodaaZ06m
import Derived.KernelRfl
import Derived.Test.YtdmlmhomcmiodaaZ06n
import Derived.Test.YtdmlmhomcmiodaaVxAsk
noncomputable section
namespace Go.Proofs.Ytdmlmhomcmiodaa.Vx
open Go Go.RowKit
set_option linter.unusedVariables false
set_option linter.unusedSimpArgs false
set_option maxRecDepth 100000
set_option maxHeartbeats 0
def op_w10:List Dat→Option (Nat×List Dat):=fun _=>some (0,[.b true])
def Bw10:FBox:=(mkF [] [] [] [(.bool 0,[])] op_w10)
theorem x3v (env:List Dat)(y:Nat×List Dat)(h:op_w10 env=some y):(boxC true Try.prog cs_Q0 10 ls0 (mkF [] [] [] [(.bool 0,[])] fun _=>none) env).sel=some y:=by
 cases h
 kernel_rfl
theorem x3s:a0v Try.prog 10 (a0j Bw10):=a0p (op:=op_w10) a2u hmix true (LsOk.none _ _ _) x3v
def op_w26:List Dat→Option (Nat×List Dat):=fun _=>some (0,[.b true])
def Bw26:FBox:=(mkF [] [] [] [(.bool 0,[])] op_w26)
theorem x3n (env:List Dat)(y:Nat×List Dat)(h:op_w26 env=some y):(boxC true Try.prog cs_Q0 26 ls0 (mkF [] [] [] [(.bool 0,[])] fun _=>none) env).sel=some y:=by
 cases h
 kernel_rfl
theorem Bw26_ok:a0v Try.prog 26 (a0j Bw26):=a0p (op:=op_w26) a2u hmix true (LsOk.none _ _ _) x3n
def cs_Z10:FuncId→Option a0q:=e1c 26 [Bw26] (e1c 10 [Bw10] b3d)
theorem cs_Z10_ok:CsOk Try.prog cs_Z10:=h0a (h0a x2w fun B hB=>by
 cases List.mem_singleton.1 hB
 exact x3s) fun B hB=>by
 cases List.mem_singleton.1 hB
 exact Bw26_ok
abbrev TB:Ty:=.int .u8
abbrev TQr:Ty:=.pair (.int .i64) (.pair (.int .i64) (.pair (.sl (.int .i64)) (.pair (.sl TNd) (.sl (.int .i64)))))
def mB (h:Nat):PB:=.cells [.imm TI h,.imm TQr (h+1)]
def mO (a:Nat):PB:=.cells [.own a,.nilsl]
def mP (a:Nat):PB:=.cells [.own a,.own (a+1)]
def stV (h:Nat):PV:=.agg [.int .u64 h,.int .u64 (h+1),.int .u64 (h+2),.arrd TB 64 (h+3),.int .u32 (h+4)]
def cs_15A:FuncId→Option a0q:=a0s 9 ((BSh.of B15).k n2d) cs_Z10
theorem m3c:CsOk Try.prog cs_15A:=csA cs_Z10_ok B15_ok
def cs_9A:FuncId→Option a0q:=a0s 29 ((BSh.of B9).k op_9) cs_15A
theorem o3m:CsOk Try.prog cs_9A:=csA m3c B9_ok
def cs_10A:FuncId→Option a0q:=a0s 30 ((BSh.of B10).k t1a) cs_9A
theorem n3o:CsOk Try.prog cs_10A:=csA o3m B10_ok
def cs_11A:FuncId→Option a0q:=a0s 49 ((BSh.of B11).k h1f) cs_10A
theorem n3i:CsOk Try.prog cs_11A:=csA n3o B11_ok
def cs_12A:FuncId→Option a0q:=a0s 43 ((BSh.of B12).k i1r) cs_11A
theorem n3p:CsOk Try.prog cs_12A:=csA n3i B12_ok
def cs_19A:FuncId→Option a0q:=a0s 12 ((BSh.of B19).k f2v) cs_12A
theorem x3l:CsOk Try.prog cs_19A:=csA n3p B19_ok
def m3g:FuncId→Option a0q:=a0s 28 ((BSh.of Bc17).k p1p) cs_19A
theorem l3w:CsOk Try.prog m3g:=csA x3l Bc17_ok
def x3q:FuncId→Option a0q:=a0s 42 ((BSh.of Bc46).k m1e) m3g
theorem x3j:CsOk Try.prog x3q:=csA l3w Bc46_ok
def m3r:FuncId→Option a0q:=e1c 19 [(BSh.of Bc16).k b3k] x3q
theorem m3b:CsOk Try.prog m3r:=csB x3j Bc16_ok
def x3e:FuncId→Option a0q:=e1c 10 [(BSh.of Bw10).k op_w10] m3r
theorem w3l:CsOk Try.prog x3e:=csB m3b x3s
def S_i38:BSh:={args:=[.int .u64 0,.int .i64 1],blks:=[],log:=[],outs:=[(.bool 0,[])]}
def ev_i38:List Dat→Tree (Nat×List Dat):=evF x3e 38 ls0 S_i38
theorem e_i38: ∃op,IsF ev_i38 38 S_i38 op:=bxF w3l (LsOk.none _ _ _)
def w3v:OpA:=opF e_i38
theorem x3k {n0 n1:Int}(h0:(¬n1<(0:Int))):w3v [.n n0,.n n1]=some ((0,[.b (iand IntKind.u64 (ishr IntKind.u64 n0 n1) (1:Int)==(1:Int))])):=h3h e_i38 (sT (nf (df h0))<|sP [1]<|sL)
def x3m:FuncId→Option a0q:=a0s 38 (S_i38.k w3v) x3e
theorem w3q:CsOk Try.prog x3m:=csL1 w3l e_i38
def S_i37:BSh:={args:=[.int .u64 0,.int .i64 1,.bool 2],blks:=[],log:=[],outs:=[(.int .u64 0,[])]}
def ev_i37:List Dat→Tree (Nat×List Dat):=evF x3m 37 ls0 S_i37
theorem e_i37: ∃op,IsF ev_i37 37 S_i37 op:=bxF w3q (LsOk.none _ _ _)
def op_i37:OpA:=opF e_i37
def x3f:FuncId→Option a0q:=a0s 37 (S_i37.k op_i37) x3m
theorem w3i:CsOk Try.prog x3f:=csL1 w3q e_i37
def x3o:LSh:={K:=0,log:=[],ins:=[(sh 20 [(0,.int .u64 0),(5,.own 0),(7,.int .i64 1),(8,.int .i64 2)],[.arr TI 3])],nils:=[(5,TI)],outs:=[(.exit 0,sh 20 [(5,.own 0)],[.arr TI 0])],cv:=[]}
def w3e:List Dat→Tree Step:=evL x3f 31 3 ls0 x3o
theorem w3p: ∃op,IsL w3e 31 3 x3o op:=bxL w3i (LsOk.none _ _ _)
def x3g:OpA:=opL w3p
theorem w3y (env:List Dat):x3g env=a0b w3e FU env:=h3j w3p env
abbrev y3c:MBox:=boxL w3p
theorem w3z {n0 n1 n2:Int}{l3:List (Ty.den TI)}{b4:Bool}(g0:0≤n2)(h0:(n2<n1))(h1:(w3v [.n n0,.n n2])=(some (0,[.b b4])))(h2:(b4=true))(h3:((List.length l3+1)*8≤140737488355328)):(w3e [.k 0,.n n0,.n n1,.n n2,.l TI l3]).sel=some (Step.go [.k 0,.n n0,.n n1,.n (IntKind.wrap .i64 (n2+(1:Int))),.l TI (l3++[n2])]):=sP [1]<|sT (dt h0)<|sA h1<|sP [1,1]<|sT h2<|sT (dt h3)<|sP [1]<|sL
theorem x3a {n0 n1 n2:Int}{l3:List (Ty.den TI)}{b4:Bool}(g0:0≤n2)(h0:(n2<n1))(h1:(w3v [.n n0,.n n2])=(some (0,[.b b4])))(h2:(b4=false)):(w3e [.k 0,.n n0,.n n1,.n n2,.l TI l3]).sel=some (Step.go [.k 0,.n n0,.n n1,.n (IntKind.wrap .i64 (n2+(1:Int))),.l TI l3]):=sP [1]<|sT (dt h0)<|sA h1<|sP [1,1]<|sF h2<|sP [1]<|sL
theorem w3x {n0 n1 n2:Int}{l3:List (Ty.den TI)}(g0:0≤n2)(h0:(¬n2<n1)):(w3e [.k 0,.n n0,.n n1,.n n2,.l TI l3]).sel=some (Step.stop 0 [.l TI l3]):=sP [1]<|sF (df h0)<|sP [1]<|sL
def S_i31:BSh:={args:=[.int .u64 0,.int .i64 1],blks:=[],log:=[],outs:=[(.own 0,[.arr TI 0])]}
def ev_i31:List Dat→Tree (Nat×List Dat):=evFN [(0,TI)] x3f 31 (lsM [(3,y3c)] 0) S_i31
theorem e_i31: ∃op,IsF ev_i31 31 S_i31 op:=bxFN w3i (lsE (lsC (h3i w3p) (atF) lsZ))
def w3t:OpA:=opF e_i31
theorem x3y {n0 n1:Int}{l2:List (Ty.den TI)}(h0:(x3g [.k 0,.n n0,.n n1,.n (0:Int),.l TI []])=(some (0,[.l TI l2]))):w3t [.n n0,.n n1]=some ((0,[.l TI l2])):=h3h e_i31 (sA h0<|sP [1,1]<|sL)
def w3s:FuncId→Option a0q:=a0s 31 (S_i31.k w3t) x3f
theorem w3g:CsOk Try.prog w3s:=csL1 w3i e_i31
def x3z:LSh:={K:=0,log:=[],ins:=[(sh 83 [(1,.ptr 0 0),(4,.own 1),(6,.ptr 2 0),(22,.imm TPt 0),(23,.int .i64 1),(24,.int .i64 2)],[laB 3,.arr TU 7,mO 3,.arr TI 8])],nils:=[],outs:=[(.exit 0,sh 83 [(1,.ptr 0 0),(4,.own 1),(6,.ptr 2 0)],[laB 0,.arr TU 4,mO 3,.arr TI 5])],cv:=[(6,[],0,.own TI)]}
def w3f:List Dat→Tree Step:=evL w3s 11 6 ls0 x3z
theorem w3o: ∃op,IsL w3f 11 6 x3z op:=bxL w3g (LsOk.none _ _ _)
def w3n:OpA:=opL w3o
theorem x3b (env:List Dat):w3n env=a0b w3f FU env:=h3j w3o env
abbrev y3e:MBox:=boxL w3o
theorem x3c {l0:List (Ty.den TPt)}{n1 n2:Int}{l3:List (Ty.den TS)}{l4 l5:List (Ty.den TPt)}{l6:List (Ty.den TRt)}{l7:List (Ty.den TU)}{l8:List (Ty.den TI)}(g0:0≤n2)(g1:n1=(l0.length:Int))(h0:(n2<n1))(h1:((List.length l8+1)*8≤140737488355328)):(w3f [.k 0,.l TPt l0,.n n1,.n n2,.l TS l3,.l TPt l4,.l TPt l5,.l TRt l6,.l TU l7,.l TI l8]).sel=some (Step.go [.k 0,.l TPt l0,.n n1,.n (IntKind.wrap .i64 (n2+(1:Int))),.l TS l3,.l TPt l4,.l TPt l5,.l TRt l6,.l TU l7,.l TI (l8++[Prod.snd (List.getD l0 (Int.toNat n2) (Ty.dflt TPt))])]):=sP [1]<|sT (dt h0)<|sTo (c:=(inR n2 (List.length l0)))<|sT (dt h1)<|sP [1,1]<|sL
theorem x3d {l0:List (Ty.den TPt)}{n1 n2:Int}{l3:List (Ty.den TS)}{l4 l5:List (Ty.den TPt)}{l6:List (Ty.den TRt)}{l7:List (Ty.den TU)}{l8:List (Ty.den TI)}(g0:0≤n2)(g1:n1=(l0.length:Int))(h0:(¬n2<n1)):(w3f [.k 0,.l TPt l0,.n n1,.n n2,.l TS l3,.l TPt l4,.l TPt l5,.l TRt l6,.l TU l7,.l TI l8]).sel=some (Step.stop 0 [.l TS l3,.l TPt l4,.l TPt l5,.l TRt l6,.l TU l7,.l TI l8]):=sP [1]<|sF (df h0)<|sP [1]<|sL
def x3h:LSh:={K:=0,log:=[],ins:=[(sh 83 [(1,.ptr 0 0),(4,.own 1),(6,.ptr 2 0),(41,.imm TRt 0),(42,.int .i64 1),(43,.int .i64 2)],[laB 3,.arr TU 7,mP 3,.arr TI 8,.arr TQr 9])],nils:=[],outs:=[(.exit 2,sh 83 [(6,.ptr 0 0)],[mP 1,.arr TI 0,.arr TQr 1])],cv:=[(6,[],1,.own TQr)]}
def w3d:List Dat→Tree Step:=evL w3s 11 11 ls0 x3h
theorem w3h: ∃op,IsL w3d 11 11 x3h op:=bxL w3g (LsOk.none _ _ _)
def w3j:OpA:=opL w3h
theorem w3u (env:List Dat):w3j env=a0b w3d FU env:=h3j w3h env
abbrev x3p:MBox:=boxL w3h
theorem w3w {l0:List (Ty.den TRt)}{n1 n2:Int}{l3:List (Ty.den TS)}{l4 l5:List (Ty.den TPt)}{l6:List (Ty.den TRt)}{l7:List (Ty.den TU)}{l8:List (Ty.den TI)}{l9:List (Ty.den TQr)}{l10:List (Ty.den TI)}{l11:List (Ty.den TNd)}{l12:List (Ty.den TI)}(g0:0≤n2)(g1:n1=(l0.length:Int))(h0:(n2<n1))(h1:(inR (Prod.fst (Prod.snd (List.getD l0 (Int.toNat n2) (Ty.dflt TRt)))) (List.length l5)=true))(h2:(inR (0:Int) (List.length (Prod.fst (Prod.snd (Prod.snd (List.getD l0 (Int.toNat n2) (Ty.dflt TRt))))))=true))(h3:(op_9 [.s (Prod.fst (List.getD l0 (Int.toNat n2) (Ty.dflt TRt))),.n (Prod.fst (Prod.snd (List.getD l0 (Int.toNat n2) (Ty.dflt TRt)))),.l TI (Prod.fst (Prod.snd (Prod.snd (List.getD l0 (Int.toNat n2) (Ty.dflt TRt))))),.l TNd (Prod.fst (Prod.snd (Prod.snd (Prod.snd (List.getD l0 (Int.toNat n2) (Ty.dflt TRt)))))),.l TI (Prod.fst (Prod.snd (Prod.snd (Prod.snd (Prod.snd (List.getD l0 (Int.toNat n2) (Ty.dflt TRt))))))),.l TNd (Prod.snd (Prod.snd (Prod.snd (Prod.snd (Prod.snd (List.getD l0 (Int.toNat n2) (Ty.dflt TRt)))))))])=(some (0,[.l TI l10])))(h4:(t1a [.s (Prod.fst (List.getD l0 (Int.toNat n2) (Ty.dflt TRt))),.n (Prod.fst (Prod.snd (List.getD l0 (Int.toNat n2) (Ty.dflt TRt)))),.l TI (Prod.fst (Prod.snd (Prod.snd (List.getD l0 (Int.toNat n2) (Ty.dflt TRt))))),.l TNd (Prod.fst (Prod.snd (Prod.snd (Prod.snd (List.getD l0 (Int.toNat n2) (Ty.dflt TRt)))))),.l TI (Prod.fst (Prod.snd (Prod.snd (Prod.snd (Prod.snd (List.getD l0 (Int.toNat n2) (Ty.dflt TRt))))))),.l TNd (Prod.snd (Prod.snd (Prod.snd (Prod.snd (Prod.snd (List.getD l0 (Int.toNat n2) (Ty.dflt TRt)))))))])=(some (0,[.l TNd l11])))(h5:(inR n2 (List.length l7)=true))(h6:(w3t [.n (List.getD l7 (Int.toNat n2) (0:Int)),.n (↑(List.length l6):Int)])=(some (0,[.l TI l12])))(h7:((List.length l9+1)*88≤140737488355328)):(w3d [.k 0,.l TRt l0,.n n1,.n n2,.l TS l3,.l TPt l4,.l TPt l5,.l TRt l6,.l TU l7,.l TI l8,.l TQr l9]).sel=some (Step.go [.k 0,.l TRt l0,.n n1,.n (IntKind.wrap .i64 (n2+(1:Int))),.l TS l3,.l TPt l4,.l TPt l5,.l TRt l6,.l TU l7,.l TI l8,.l TQr (apL l9 [(Prod.snd (List.getD l5 (Int.toNat (Prod.fst (Prod.snd (List.getD l0 (Int.toNat n2) (Ty.dflt TRt))))) (Ty.dflt TPt)),List.getD (Prod.fst (Prod.snd (Prod.snd (List.getD l0 (Int.toNat n2) (Ty.dflt TRt))))) 0 (0:Int),l10,l11,l12)])]):=sP [1]<|sT (dt h0)<|sTo (c:=(inR n2 (List.length l0)))<|sT h1<|sT h2<|sA h3<|sP [1,1]<|sA h4<|sP [1,1]<|sT h5<|sA h6<|sP [1,1]<|sT (dt h7)<|sP [1,1]<|sL
theorem w3r {l0:List (Ty.den TRt)}{n1 n2:Int}{l3:List (Ty.den TS)}{l4 l5:List (Ty.den TPt)}{l6:List (Ty.den TRt)}{l7:List (Ty.den TU)}{l8:List (Ty.den TI)}{l9:List (Ty.den TQr)}(g0:0≤n2)(g1:n1=(l0.length:Int))(h0:(¬n2<n1)):(w3d [.k 0,.l TRt l0,.n n1,.n n2,.l TS l3,.l TPt l4,.l TPt l5,.l TRt l6,.l TU l7,.l TI l8,.l TQr l9]).sel=some (Step.stop 0 [.l TI l8,.l TQr l9]):=sP [1]<|sF (df h0)<|sP [1]<|sL
def S_i11:BSh:={args:=[laV 0],blks:=[],log:=[],outs:=[(.tup [.ptr 0 0,.int .i64 0],[mB 1]),(.tup [.nilptr,.int .i64 0],[])]}
def ev_i11:List Dat→Tree (Nat×List Dat):=evFV [(none,0,.imm TI),(none,1,.imm TQr)] w3s 11 (lsM [(6,y3e),(11,x3p)] 0) S_i11
theorem y3g: ∃op,IsF ev_i11 11 S_i11 op:=bxFV w3g (lsE (lsC (h3i w3o) (atF) (lsC (h3i w3h) (atF) lsZ)))
def w3m:OpA:=opF y3g
theorem x3u {l0:List (Ty.den TS)}{l1 l2:List (Ty.den TPt)}{l3:List (Ty.den TRt)}{n4:Int}{l5:List (Ty.den TU)}{l6:List (Ty.den TS)}{l7 l8:List (Ty.den TPt)}{l9:List (Ty.den TRt)}{l10:List (Ty.den TU)}{l11 l12:List (Ty.den TI)}{l13:List (Ty.den TQr)}(h0:(p1p [.l TS l0,.l TPt l1,.l TPt l2,.l TRt l3])=(some (0,[.n n4,.l TU l5])))(h1:(n4=(0:Int)))(h2:(w3n [.k 0,.l TPt l1,.n (↑(List.length l1):Int),.n (0:Int),.l TS l0,.l TPt l1,.l TPt l2,.l TRt l3,.l TU l5,.l TI []])=(some (0,[.l TS l6,.l TPt l7,.l TPt l8,.l TRt l9,.l TU l10,.l TI l11])))(h3:(w3j [.k 0,.l TRt l9,.n (↑(List.length l9):Int),.n (0:Int),.l TS l6,.l TPt l7,.l TPt l8,.l TRt l9,.l TU l10,.l TI l11,.l TQr []])=(some (0,[.l TI l12,.l TQr l13]))):w3m [.l TS l0,.l TPt l1,.l TPt l2,.l TRt l3]=some ((0,[.n (0:Int),.l TI l12,.l TQr l13])):=h3h y3g (sA h0<|sP [1,1]<|sF (bnf h1)<|sA h2<|sP [1]<|sA h3<|sP [1,1]<|sL)
theorem x3x {l0:List (Ty.den TS)}{l1 l2:List (Ty.den TPt)}{l3:List (Ty.den TRt)}{n4:Int}(h0:(p1p [.l TS l0,.l TPt l1,.l TPt l2,.l TRt l3])=(some (1,[.n n4])))(h1:(¬n4=(0:Int))):w3m [.l TS l0,.l TPt l1,.l TPt l2,.l TRt l3]=some ((1,[.n n4])):=h3h y3g (sA h0<|sP [0,1,1]<|sT (bnt h1)<|sP [1]<|sL)
def cs_i11:FuncId→Option a0q:=e1c 11 [S_i11.k w3m] w3s
theorem x3r:CsOk Try.prog cs_i11:=csA1 w3g y3g
def x3w:List Dat→Tree Bool:=evW cs_i11 3 ls0 [laV 0,stV 4]
theorem W3_law (env:List Dat)(h:(x3w env).sel=some true){w:World}{aa:Array Value}(ha:LRel R0 (b0k w) (instL [laV 0,stV 4] env) aa):
  Calls Try.prog 3 aa w fun e w'=>e=.returned (.bool true)∧Below w.heap.size w w':=evW_law x3r (LsOk.none _ _ _) env h ha
theorem y3a {l0:List (Ty.den TS)}{l1 l2:List (Ty.den TPt)}{l3:List (Ty.den TRt)}{n4 n5 n6:Int}{l7:List (Ty.den TB)}{n8 n9:Int}{b10:Bool}(h0:(n2d [.l TS l0,.l TPt l1,.l TPt l2,.l TRt l3,.n (1000:Int)])=(some (0,[.n n9])))(h1:(n9>(1000:Int)))(h2:(op_w10 [])=(some (0,[.b b10]))):(x3w [.l TS l0,.l TPt l1,.l TPt l2,.l TRt l3,.n n4,.n n5,.n n6,.l TB l7,.n n8]).sel=some (b10):=sA h0<|sP [1,1]<|sT (dt h1)<|sP [1]<|sA h2<|sP [1,1]<|sL
theorem y3b {l0:List (Ty.den TS)}{l1 l2:List (Ty.den TPt)}{l3:List (Ty.den TRt)}{n4 n5 n6:Int}{l7:List (Ty.den TB)}{n8 n9 n10:Int}{l11:List (Ty.den TI)}{l12:List (Ty.den TQr)}{n13 n14:Int}{b15:Bool}(h0:(n2d [.l TS l0,.l TPt l1,.l TPt l2,.l TRt l3,.n (1000:Int)])=(some (0,[.n n9])))(h1:(¬n9>(1000:Int)))(h2:(w3m [.l TS l0,.l TPt l1,.l TPt l2,.l TRt l3])=(some (0,[.n n10,.l TI l11,.l TQr l12])))(h3:(f2v [.l TS l0,.l TPt l1,.l TPt l2,.l TRt l3])=(some (0,[.n n13,.n n14])))(h4:(n10=n13))(h5:((false==(n10 !=(0:Int)))=true))(h6:(op_w10 [])=(some (0,[.b b15]))):(x3w [.l TS l0,.l TPt l1,.l TPt l2,.l TRt l3,.n n4,.n n5,.n n6,.l TB l7,.n n8]).sel=some (b15):=sA h0<|sP [1,1]<|sF (df h1)<|sP [1]<|sA h2<|sP [1,1]<|sA h3<|sP [1,1,1,1,1]<|sT (bt h4)<|sT h5<|sP [1,1,1,1,1,1,1,1,1,1,1,1,1,1]<|sA h6<|sP [1,1]<|sL
theorem y3d {l0:List (Ty.den TS)}{l1 l2:List (Ty.den TPt)}{l3:List (Ty.den TRt)}{n4 n5 n6:Int}{l7:List (Ty.den TB)}{n8 n9 n10 n11 n12:Int}{b13:Bool}(h0:(n2d [.l TS l0,.l TPt l1,.l TPt l2,.l TRt l3,.n (1000:Int)])=(some (0,[.n n9])))(h1:(¬n9>(1000:Int)))(h2:(w3m [.l TS l0,.l TPt l1,.l TPt l2,.l TRt l3])=(some (1,[.n n10])))(h3:(f2v [.l TS l0,.l TPt l1,.l TPt l2,.l TRt l3])=(some (0,[.n n11,.n n12])))(h4:(n10=n11))(h5:((true==(n10 !=(0:Int)))=true))(h6:(op_w10 [])=(some (0,[.b b13]))):(x3w [.l TS l0,.l TPt l1,.l TPt l2,.l TRt l3,.n n4,.n n5,.n n6,.l TB l7,.n n8]).sel=some (b13):=sA h0<|sP [1,1]<|sF (df h1)<|sP [1]<|sA h2<|sP [0,1,1]<|sA h3<|sP [1,1,1,1,1]<|sT (bt h4)<|sT h5<|sP [1,1,1,1,1,1,1,1,1,1,1,1,1,1]<|sA h6<|sP [1,1]<|sL
def p2 (k:Nat):B64:=1#64<<<k
def p0 (e:Rt):Int:=(eP e).getD 0 0
abbrev allR (b c:LP)(r:LR):Prop:= ∀i,i<r.length→rtOk b c (r.getD i (Ty.dflt TRt))∧wfE b c (r.getD i (Ty.dflt TRt))=true
theorem m3e (b:LP)(r:LR):(NL (tabB b r)).length=r.length:=by rw[u1l];exact o0n ..
theorem n3f {a:LS}{b c:LP}{r:LR}(h:(ckA a b c r).1=0):b.length≤32∧r.length≤64∧allR b c r:=by
 obtain⟨hm,hw⟩:=(ck_ok a b c r).1 h
 obtain⟨h1,h2,h3⟩:=l0q hm
 exact⟨h1,h2,fun i hi=>⟨h3 i hi,hw _ (h0f hi)⟩⟩
abbrev rN (r:LR)(i:Nat):Rt:=r.getD i (Ty.dflt TRt)
def fC (b:LP)(r:LR)(i:Nat):B64:=(tabB b r).getD i 0#64
structure WF (a:LS)(b c:LP)(r:LR):Prop where
 la:a.length≤64
 lb:b.length≤32
 lr:r.length≤64
 tr: ∀i,i<r.length→ ∀x∈trk (rN r i),0≤x∧x<(a.length:Int)
 pt: ∀i,i<r.length→f0c b (ndsE (rN r i))
 all:allR b c r
theorem wf_of {a:LS}{b c:LP}{r:LR}(h:(ckA a b c r).1=0):WF a b c r:=by
 obtain⟨hm,hw⟩:=(ck_ok a b c r).1 h
 obtain⟨h1,h2,h3⟩:=n3f h
 have h:=hm
 unfold mayL at h
 rw[Bool.and_eq_true]at h
 obtain⟨q1,-,-,-⟩:=(@of_decide_eq_true (smallL a b c r) (instDecidableSmallL a b c r) h.1)
 have h:=h.2
 simp only[Bool.and_eq_true]at h
 obtain⟨h5,h6,h7,h8⟩:=h
 refine⟨q1,h1,h2,fun i hi x hx=> ?_,fun i hi d hd=> ?_,h3⟩
 ·have k:=List.all_eq_true.1 h7 i (List.mem_range'_1.2 (by omega))
  unfold okR mayR at k
  simp only[Bool.and_eq_true,decide_eq_true_eq]at k
  obtain⟨k1,k2,k3,k4,k5,k6⟩:=k
  unfold trk at hx
  rcases List.mem_append.1 hx with hx|hx
  ·exact(n2h k3).2 x hx
  ·exact(n2h k5).2 x hx
 ·obtain⟨⟨-,-,k3,k4⟩,-⟩:=h3 i hi
  unfold ndsE at hd
  rcases List.mem_append.1 hd with hd|hd
  ·exact k3 d hd
  ·exact k4 d hd
section
variable {a:LS} {b c:LP} {r:LR} (w:WF a b c r)
include w
theorem q3g {i:Nat}(hi:i<r.length):0<(eP (rN r i)).length∧ptS c (eN (rN r i))∉trk (rN r i)∧(nd (ndsE (rN r i))).Nodup:=by
 have h:=(w.all i hi).2
 unfold wfE wfR at h
 simp only[Bool.and_eq_true,decide_eq_true_eq,Bool.not_eq_true',decide_eq_false_iff_not]at h
 exact⟨h.1,h.2.1,h.2.2.2.1⟩
end
theorem h38 (X:B64){k:Nat}(hk:k<64):w3v [.n (N X),.n (k:Int)]=some (0,[.b (X.getLsbD k)]):=by
 rw[x3k (by omega),iandB]
def mem (X:B64)(n:Nat):List Int:=((List.range n).filter fun i=>X.getLsbD i).map Int.ofNat
theorem y3h (X:B64)(k:Nat):mem X (k+1)=if X.getLsbD k=true then mem X k++[Int.ofNat k]else mem X k:=by
 unfold mem
 rw[List.range_succ,List.filter_append,List.map_append]
 by_cases h:X.getLsbD k=true<;>simp[h]
theorem mem_len (X:B64)(n:Nat):(mem X n).length≤n:=by
 unfold mem
 rw[List.length_map]
 exact Nat.le_trans (List.length_filter_le _ _) (Nat.le_of_eq List.length_range)
theorem h31 (X:B64){n:Nat}(hn:n≤64):w3t [.n (N X),.n (n:Int)]=some (0,[.l TI (mem X n)]):=by
 refine x3y ?_
 rw[w3y]
 refine b0a (st:=w3e) (fun i=>[.k 0,.n (N X),.n (n:Int),.n (i:Int),.l TI (mem X i)]) n (0,[.l TI (mem X n)]) (fun i hi=> ?_) ?_ FU (b1w (by omega))
 ·show _=some (Step.go [.k 0,.n (N X),.n (n:Int),.n ((i+1:Nat):Int),.l TI (mem X (i+1))])
  rw[y3h,←w1n i (by omega)]
  have hl:=mem_len X i
  cases h:X.getLsbD i with
  |true=>
   rw[if_pos rfl]
   exact w3z (by omega) (by omega) (h38 X (by omega)) h (show(List.length (α:=Int) (mem X i)+1)*8≤140737488355328 by omega)
  |false=>
   rw[if_neg (by simp)]
   exact x3a (by omega) (by omega) (h38 X (by omega)) h
 ·exact w3x (by omega) (by omega)
abbrev Qr:=Ty.den TQr
def qrow (b c:LP)(r:LR)(i:Nat):Qr:=(ptS c (eN (rN r i)),p0 (rN r i),trk (rN r i),ndsE (rN r i),mem (fC b r i) r.length)
def w3k (b c:LP)(r:LR)(k:Nat):List Qr:=(List.range k).map (qrow b c r)
theorem x3t (b c:LP)(r:LR)(k:Nat):(w3k b c r k).length=k:=by unfold w3k;rw[List.length_map,List.length_range]
theorem x3i (b c:LP)(r:LR)(k:Nat):w3k b c r (k+1)=apL (w3k b c r k) [qrow b c r k]:=by unfold w3k;rw[List.range_succ,List.map_append];rfl
def lie (b:LP)(k:Nat):List Int:=(List.range k).map fun i=>gP (b.getD i (Ty.dflt TPt))
theorem lie_len (b:LP)(k:Nat):(lie b k).length=k:=by unfold lie;rw[List.length_map,List.length_range]
theorem y3f (b:LP)(k:Nat):lie b (k+1)=lie b k++[gP (b.getD k (Ty.dflt TPt))]:=by unfold lie;rw[List.range_succ,List.map_append];rfl
theorem l11_6 (a:LS)(b c:LP)(r:LR)(T:List Int)(hb:b.length≤32):
  w3n [.k 0,.l TPt b,.n (b.length:Int),.n 0,.l TS a,.l TPt b,.l TPt c,.l TRt r,.l TU T,.l TI []]=some (0,[.l TS a,.l TPt b,.l TPt c,.l TRt r,.l TU T,.l TI (lie b b.length)]):=by
 rw[x3b]
 refine b0a (st:=w3f) (fun i=>[.k 0,.l TPt b,.n (b.length:Int),.n (i:Int),.l TS a,.l TPt b,.l TPt c,.l TRt r,.l TU T,.l TI (lie b i)]) b.length (0,[.l TS a,.l TPt b,.l TPt c,.l TRt r,.l TU T,.l TI (lie b b.length)]) (fun i hi=> ?_) ?_ FU (b1w (by omega))
 ·show _=some (Step.go [.k 0,.l TPt b,.n (b.length:Int),.n ((i+1:Nat):Int),.l TS a,.l TPt b,.l TPt c,.l TRt r,.l TU T,.l TI (lie b (i+1))])
  rw[y3f,←w1n i (by omega)]
  have hl:=lie_len b i
  exact x3c (by omega) rfl (by omega) (show(List.length (α:=Int) (lie b i)+1)*8≤140737488355328 by omega)
 ·exact x3d (by omega) rfl (by omega)
theorem l11_11 (a:LS)(b c:LP)(r:LR)(L:List Int)(w:WF a b c r):
  w3j [.k 0,.l TRt r,.n (r.length:Int),.n 0,.l TS a,.l TPt b,.l TPt c,.l TRt r,.l TU (NL (tabB b r)),.l TI L,.l TQr []]=some (0,[.l TI L,.l TQr (w3k b c r r.length)]):=by
 have lr:=w.lr
 rw[w3u]
 refine b0a (st:=w3d) (fun i=>[.k 0,.l TRt r,.n (r.length:Int),.n (i:Int),.l TS a,.l TPt b,.l TPt c,.l TRt r,.l TU (NL (tabB b r)),.l TI L,.l TQr (w3k b c r i)]) r.length (0,[.l TI L,.l TQr (w3k b c r r.length)]) (fun i hi=> ?_) ?_ FU (b1w (by omega))
 ·show _=some (Step.go [.k 0,.l TRt r,.n (r.length:Int),.n ((i+1:Nat):Int),.l TS a,.l TPt b,.l TPt c,.l TRt r,.l TU (NL (tabB b r)),.l TI L,.l TQr (w3k b c r (i+1))])
  rw[x3i,←w1n i (by omega)]
  have hl:=x3t b c r i
  obtain⟨⟨⟨k1,k2⟩,⟨l1,l2,l3,l4⟩,k3,k4⟩,-⟩:=w.all i hi
  have hp:=(q3g w hi).1
  have ht:=m3e b r
  have e6:w3t [.n (List.getD (NL (tabB b r)) (Int.toNat (i:Int)) (0:Int)),.n (r.length:Int)]=some (0,[.l TI (mem (fC b r i) r.length)]):=by
   rw[Int.toNat_natCast,NL_at];exact h31 _ w.lr
  exact w3w (by omega) rfl (by omega) (h1s k1 k2) (h1s (by omega) (Int.ofNat_lt.2 hp)) (o9 _ _ _ _ _ _ l1 l2 l3 l4) (o10 _ _ _ _ _ _ l1 l2 l3 l4) (h1s (by omega) (Int.ofNat_lt.2 (Nat.lt_of_lt_of_eq hi ht.symm))) e6 (by omega)
 ·exact w3r (by omega) rfl (by omega)
def newA (a:LS)(b c:LP)(r:LR):Nat×List Dat:=if(ckA a b c r).1=0 then(0,[.n 0,.l TI (lie b b.length),.l TQr (w3k b c r r.length)])else(1,[.n (ckA a b c r).1])
theorem o11i (a:LS)(b c:LP)(r:LR)(hs:okS a b c r):w3m [.l TS a,.l TPt b,.l TPt c,.l TRt r]=some (newA a b c r):=by
 have e:=o17c a b c r hs
 unfold newA
 by_cases h:(ckA a b c r).1=0
 ·rw[if_pos h]at e⊢
  have w:=wf_of h
  exact x3u e rfl (l11_6 a b c r _ w.lb) (l11_11 a b c r _ w)
 ·rw[if_neg h]at e⊢
  exact x3x e h
theorem W3_true (a:LS)(b c:LP)(r:LR)(x y z:Int)(T:List (Ty.den TB))(p:Int)(hs:okS a b c r):(x3w [.l TS a,.l TPt b,.l TPt c,.l TRt r,.n x,.n y,.n z,.l TB T,.n p]).sel=some true:=by
 obtain⟨m,e1⟩:=o15 a b c r 1000 hs
 by_cases h:m>1000
 ·exact y3a e1 h rfl
 have e2:=o11i a b c r hs
 have e3:=o19 a b c r hs
 unfold newA at e2
 by_cases hc:(ckA a b c r).1=0
 ·rw[if_pos hc]at e2
  exact y3b e1 h e2 e3 hc.symm rfl rfl
 ·rw[if_neg hc]at e2
  exact y3d e1 h e2 e3 rfl (by simpa using hc) rfl
end Go.Proofs.Ytdmlmhomcmiodaa.Vx
end
