import Derived.Test.YtcbhgaeiokfcdaaGreatVxAsk
import Derived.Test.YtcbhgaeiokfcdaaGreatZ06p
import Derived.KernelRfl
noncomputable section
namespace Go.Proofs.YtcbhgaeiokfcdaaGreat.Vx
open Go Go.RowKit
set_option linter.unusedVariables false
set_option linter.unusedSimpArgs false
set_option maxRecDepth 100000
set_option maxHeartbeats 0
def ucB (h:Nat):PB:=.cells [.int .u64 h]
def cmV (h:Nat):PV:=.agg [.int .u8 h,.int .i64 (h+1)]
def S_b15:BSh:={args:=[laV 0],blks:=[],log:=[],outs:=[(.tup [.ptr 0 0,.int .i64 0],[msB 1]),(.tup [.nilptr,.int .i64 0],[])]}
def ev_b15:List Dat→Tree (Nat×List Dat):=evFV [(none,0,.imm TMr),(none,1,.imm TU)] e4q 15 ls0 S_b15
theorem g4w: ∃op,IsF ev_b15 15 S_b15 op:=bxFV r3c (LsOk.none _ _ _)
def m3h:OpA:=opF g4w
theorem e4w {l0:List (Ty.den TS)}{l1 l2:List (Ty.den TPt)}{l3:List (Ty.den TRt)}{n4 n5 n6 n7:Int}{l8:List (Ty.den TMr)}{l9:List (Ty.den TU)}(h0:(k3l [.l TS l0,.l TPt l1,.l TPt l2,.l TRt l3])=(some (0,[.n n4,.n n5,.n n6,.n n7,.l TMr l8,.l TU l9])))(h1:(n7=(0:Int))):m3h [.l TS l0,.l TPt l1,.l TPt l2,.l TRt l3]=some ((0,[.n (0:Int),.l TMr l8,.l TU l9,.n n4,.n n5,.n n6])):=h3c g4w (sP [1]<|sA h0<|sP [1,1]<|sF (bnf h1)<|sP [1]<|sL)
theorem b4v {l0:List (Ty.den TS)}{l1 l2:List (Ty.den TPt)}{l3:List (Ty.den TRt)}{n4 n5 n6 n7:Int}(h0:(k3l [.l TS l0,.l TPt l1,.l TPt l2,.l TRt l3])=(some (1,[.n n4,.n n5,.n n6,.n n7])))(h1:(¬n7=(0:Int))):m3h [.l TS l0,.l TPt l1,.l TPt l2,.l TRt l3]=some ((1,[.n n7])):=h3c g4w (sP [1]<|sA h0<|sP [0,1,1]<|sT (bnt h1)<|sP [1]<|sL)
def k3v:FuncId→Option a0q:=e1c 15 [S_b15.k m3h] e4q
theorem h3w:CsOk Tryz.prog k3v:=csA1 r3c g4w
def e4u:LSh:={K:=1,log:=[],ins:=[(sh 24 [(1,fnC 22 [.ptr 0 0]),(5,.int .u64 0),(8,.imm TMr 1),(9,.int .i64 2),(10,.int .i64 3)],[ucB 4])],nils:=[],outs:=[(.exit 0,sh 24 [(5,.int .u64 0)],[ucB 1])],cv:=[]}
def j3h:List Dat→Tree Step:=evL k3v 21 3 ls0 e4u
theorem n3o: ∃op,IsL j3h 21 3 e4u op:=bxL h3w (LsOk.none _ _ _)
def w3i:OpA:=opL n3o
theorem u3t (env:List Dat):w3i env=a0b j3h FU env:=h3i n3o env
abbrev h4t:MBox:=boxL n3o
theorem u3k {n0:Int}{l1:List (Ty.den TMr)}{n2 n3 n4 n5:Int}(g0:0≤n3)(g1:n2=(l1.length:Int))(h0:(n3<n2))(h1:(iand IntKind.u64 (Prod.fst (List.getD l1 (Int.toNat n3) (Ty.dflt TMr))) n4=(0:Int)))(h2:(h3q [.n n0,.n n3])=(some (0,[.n n5]))):(j3h [.k 0,.n n0,.l TMr l1,.n n2,.n n3,.n n4]).sel=some (Step.go [.k 0,.n n5,.l TMr l1,.n n2,.n (IntKind.wrap .i64 (n3+(1:Int))),.n n4]):=sP [1]<|sT (dt h0)<|sTo (c:=(inR n3 (List.length l1)))<|sP [1,1]<|sT (bt h1)<|sA h2<|sP [1,1,1]<|sL
theorem u3s {n0:Int}{l1:List (Ty.den TMr)}{n2 n3 n4:Int}(g0:0≤n3)(g1:n2=(l1.length:Int))(h0:(n3<n2))(h1:(¬iand IntKind.u64 (Prod.fst (List.getD l1 (Int.toNat n3) (Ty.dflt TMr))) n4=(0:Int))):(j3h [.k 0,.n n0,.l TMr l1,.n n2,.n n3,.n n4]).sel=some (Step.go [.k 0,.n n0,.l TMr l1,.n n2,.n (IntKind.wrap .i64 (n3+(1:Int))),.n n4]):=sP [1]<|sT (dt h0)<|sTo (c:=(inR n3 (List.length l1)))<|sP [1,1]<|sF (bf h1)<|sP [1]<|sL
theorem u3v {n0:Int}{l1:List (Ty.den TMr)}{n2 n3 n4:Int}(g0:0≤n3)(g1:n2=(l1.length:Int))(h0:(¬n3<n2)):(j3h [.k 0,.n n0,.l TMr l1,.n n2,.n n3,.n n4]).sel=some (Step.stop 0 [.n n0,.n n4]):=sP [1]<|sF (df h0)<|sP [1]<|sL
def S_z22:BSh:={args:=[.imm TMr 0,fnC 22 [.ptr 0 0]],blks:=[ucB 1],log:=[],outs:=[(.int .u64 0,[ucB 1])]}
def ev_z22:List Dat→Tree (Nat×List Dat):=evF k3v 21 (lsM [(3,h4t)] 1) S_z22
theorem e_z22: ∃op,IsF ev_z22 21 S_z22 op:=bxF h3w (lsE (lsC (h3g n3o) (atF) lsZ))
def x3k:OpA:=opF e_z22
theorem a4t {l0:List (Ty.den TMr)}{n1 n2 n3:Int}(h0:(w3i [.k 0,.n (0:Int),.l TMr l0,.n (↑(List.length l0):Int),.n (0:Int),.n n1])=(some (0,[.n n2,.n n3]))):x3k [.l TMr l0,.n n1]=some ((0,[.n n2,.n n3])):=h3c e_z22 (sA h0<|sP [1,1]<|sL)
def b4a:LSh:={K:=1,log:=[],ins:=[(sh 24 [(1,fnC 23 [.ptr 0 0]),(5,.int .u64 0),(8,.imm TMr 1),(9,.int .i64 2),(10,.int .i64 3)],[ucB 4])],nils:=[],outs:=[(.exit 0,sh 24 [(5,.int .u64 0)],[ucB 1])],cv:=[]}
def j3j:List Dat→Tree Step:=evL k3v 21 3 ls0 b4a
theorem o3o: ∃op,IsL j3j 21 3 b4a op:=bxL h3w (LsOk.none _ _ _)
def v3w:OpA:=opL o3o
theorem t3w (env:List Dat):v3w env=a0b j3j FU env:=h3i o3o env
abbrev i4h:MBox:=boxL o3o
theorem s3r {n0:Int}{l1:List (Ty.den TMr)}{n2 n3 n4 n5:Int}(g0:0≤n3)(g1:n2=(l1.length:Int))(h0:(n3<n2))(h1:(¬iand IntKind.u64 (Prod.fst (Prod.snd (List.getD l1 (Int.toNat n3) (Ty.dflt TMr)))) n4=(0:Int)))(h2:(h3q [.n n0,.n n3])=(some (0,[.n n5]))):(j3j [.k 0,.n n0,.l TMr l1,.n n2,.n n3,.n n4]).sel=some (Step.go [.k 0,.n n5,.l TMr l1,.n n2,.n (IntKind.wrap .i64 (n3+(1:Int))),.n n4]):=sP [1]<|sT (dt h0)<|sTo (c:=(inR n3 (List.length l1)))<|sP [1,1]<|sT (bnt h1)<|sA h2<|sP [1,1,1]<|sL
theorem u3g {n0:Int}{l1:List (Ty.den TMr)}{n2 n3 n4:Int}(g0:0≤n3)(g1:n2=(l1.length:Int))(h0:(n3<n2))(h1:(iand IntKind.u64 (Prod.fst (Prod.snd (List.getD l1 (Int.toNat n3) (Ty.dflt TMr)))) n4=(0:Int))):(j3j [.k 0,.n n0,.l TMr l1,.n n2,.n n3,.n n4]).sel=some (Step.go [.k 0,.n n0,.l TMr l1,.n n2,.n (IntKind.wrap .i64 (n3+(1:Int))),.n n4]):=sP [1]<|sT (dt h0)<|sTo (c:=(inR n3 (List.length l1)))<|sP [1,1]<|sF (bnf h1)<|sP [1]<|sL
theorem u3n {n0:Int}{l1:List (Ty.den TMr)}{n2 n3 n4:Int}(g0:0≤n3)(g1:n2=(l1.length:Int))(h0:(¬n3<n2)):(j3j [.k 0,.n n0,.l TMr l1,.n n2,.n n3,.n n4]).sel=some (Step.stop 0 [.n n0,.n n4]):=sP [1]<|sF (df h0)<|sP [1]<|sL
def S_z23:BSh:={args:=[.imm TMr 0,fnC 23 [.ptr 0 0]],blks:=[ucB 1],log:=[],outs:=[(.int .u64 0,[ucB 1])]}
def ev_z23:List Dat→Tree (Nat×List Dat):=evF k3v 21 (lsM [(3,i4h)] 1) S_z23
theorem e_z23: ∃op,IsF ev_z23 21 S_z23 op:=bxF h3w (lsE (lsC (h3g o3o) (atF) lsZ))
def w3u:OpA:=opF e_z23
theorem e4g {l0:List (Ty.den TMr)}{n1 n2 n3:Int}(h0:(v3w [.k 0,.n (0:Int),.l TMr l0,.n (↑(List.length l0):Int),.n (0:Int),.n n1])=(some (0,[.n n2,.n n3]))):w3u [.l TMr l0,.n n1]=some ((0,[.n n2,.n n3])):=h3c e_z23 (sA h0<|sP [1,1]<|sL)
def f4b:LSh:={K:=2,log:=[],ins:=[(sh 24 [(1,fnC 48 [.ptr 0 0,.ptr 1 0]),(5,.int .u64 0),(8,.imm TMr 1),(9,.int .i64 2),(10,.int .i64 3)],[wcB 4,wcB 5])],nils:=[],outs:=[(.exit 0,sh 24 [(5,.int .u64 0)],[wcB 1,wcB 2])],cv:=[]}
def i3l:List Dat→Tree Step:=evL k3v 21 3 ls0 f4b
theorem n3y: ∃op,IsL i3l 21 3 f4b op:=bxL h3w (LsOk.none _ _ _)
def x3c:OpA:=opL n3y
theorem t3p (env:List Dat):x3c env=a0b i3l FU env:=h3i n3y env
abbrev i4a:MBox:=boxL n3y
theorem s3p {n0:Int}{l1:List (Ty.den TMr)}{n2 n3 n4 n5 n6:Int}(g0:0≤n3)(g1:n2=(l1.length:Int))(h0:(n3<n2))(h1:(b0l IntKind.u32 (Prod.fst (Prod.snd (Prod.snd (Prod.snd (List.getD l1 (Int.toNat n3) (Ty.dflt TMr)))))) n4=(0:Int)))(h2:(b0l IntKind.u32 (Prod.fst (Prod.snd (Prod.snd (Prod.snd (Prod.snd (List.getD l1 (Int.toNat n3) (Ty.dflt TMr))))))) n5=(0:Int)))(h3:(h3q [.n n0,.n n3])=(some (0,[.n n6]))):(i3l [.k 0,.n n0,.l TMr l1,.n n2,.n n3,.n n4,.n n5]).sel=some (Step.go [.k 0,.n n6,.l TMr l1,.n n2,.n (IntKind.wrap .i64 (n3+(1:Int))),.n n4,.n n5]):=sP [1]<|sT (dt h0)<|sTo (c:=(inR n3 (List.length l1)))<|sP [1]<|sT (bt h1)<|sP [1]<|sT (bt h2)<|sA h3<|sP [1,1,1]<|sL
theorem s3o {n0:Int}{l1:List (Ty.den TMr)}{n2 n3 n4 n5:Int}(g0:0≤n3)(g1:n2=(l1.length:Int))(h0:(n3<n2))(h1:(b0l IntKind.u32 (Prod.fst (Prod.snd (Prod.snd (Prod.snd (List.getD l1 (Int.toNat n3) (Ty.dflt TMr)))))) n4=(0:Int)))(h2:(¬b0l IntKind.u32 (Prod.fst (Prod.snd (Prod.snd (Prod.snd (Prod.snd (List.getD l1 (Int.toNat n3) (Ty.dflt TMr))))))) n5=(0:Int))):(i3l [.k 0,.n n0,.l TMr l1,.n n2,.n n3,.n n4,.n n5]).sel=some (Step.go [.k 0,.n n0,.l TMr l1,.n n2,.n (IntKind.wrap .i64 (n3+(1:Int))),.n n4,.n n5]):=sP [1]<|sT (dt h0)<|sTo (c:=(inR n3 (List.length l1)))<|sP [1]<|sT (bt h1)<|sP [1]<|sF (bf h2)<|sP [1]<|sL
theorem t3z {n0:Int}{l1:List (Ty.den TMr)}{n2 n3 n4 n5:Int}(g0:0≤n3)(g1:n2=(l1.length:Int))(h0:(n3<n2))(h1:(¬b0l IntKind.u32 (Prod.fst (Prod.snd (Prod.snd (Prod.snd (List.getD l1 (Int.toNat n3) (Ty.dflt TMr)))))) n4=(0:Int))):(i3l [.k 0,.n n0,.l TMr l1,.n n2,.n n3,.n n4,.n n5]).sel=some (Step.go [.k 0,.n n0,.l TMr l1,.n n2,.n (IntKind.wrap .i64 (n3+(1:Int))),.n n4,.n n5]):=sP [1]<|sT (dt h0)<|sTo (c:=(inR n3 (List.length l1)))<|sP [1]<|sF (bf h1)<|sP [0,1,0,1]<|sL
theorem u3e {n0:Int}{l1:List (Ty.den TMr)}{n2 n3 n4 n5:Int}(g0:0≤n3)(g1:n2=(l1.length:Int))(h0:(¬n3<n2)):(i3l [.k 0,.n n0,.l TMr l1,.n n2,.n n3,.n n4,.n n5]).sel=some (Step.stop 0 [.n n0,.n n4,.n n5]):=sP [1]<|sF (df h0)<|sP [1]<|sL
def S_z48:BSh:={args:=[.imm TMr 0,fnC 48 [.ptr 0 0,.ptr 1 0]],blks:=[wcB 1,wcB 2],log:=[],outs:=[(.int .u64 0,[wcB 1,wcB 2])]}
def ev_z48:List Dat→Tree (Nat×List Dat):=evF k3v 21 (lsM [(3,i4a)] 2) S_z48
theorem e_z48: ∃op,IsF ev_z48 21 S_z48 op:=bxF h3w (lsE (lsC (h3g n3y) (atF) lsZ))
def x3e:OpA:=opF e_z48
theorem z3q {l0:List (Ty.den TMr)}{n1 n2 n3 n4 n5:Int}(h0:(x3c [.k 0,.n (0:Int),.l TMr l0,.n (↑(List.length l0):Int),.n (0:Int),.n n1,.n n2])=(some (0,[.n n3,.n n4,.n n5]))):x3e [.l TMr l0,.n n1,.n n2]=some ((0,[.n n3,.n n4,.n n5])):=h3c e_z48 (sA h0<|sP [1,1]<|sL)
def w3e:FuncId→Option a0q:=e1c 21 [S_z22.k x3k,S_z23.k w3u,S_z48.k x3e] k3v
theorem l3v:CsOk Tryz.prog w3e:=h0a h3w fun B hB=>by
 simp only[List.mem_cons,List.not_mem_nil,or_false]at hB
 rcases hB with rfl|rfl|rfl
 ·exact i3g e_z22
 ·exact i3g e_z23
 ·exact i3g e_z48
def b4g:LSh:={K:=0,log:=[],ins:=[(sh 24 [(1,fnV0 46),(5,.int .u64 0),(8,.imm TB 1),(9,.int .i64 2),(10,.int .i64 3)],[])],nils:=[],outs:=[(.exit 0,sh 24 [(5,.int .u64 0)],[])],cv:=[]}
def j3c:List Dat→Tree Step:=evL w3e 45 3 ls0 b4g
theorem n3l: ∃op,IsL j3c 45 3 b4g op:=bxL l3v (LsOk.none _ _ _)
def w3j:OpA:=opL n3l
theorem v3s (env:List Dat):w3j env=a0b j3c FU env:=h3i n3l env
abbrev i4b:MBox:=boxL n3l
theorem u3w {n0:Int}{l1:List (Ty.den TB)}{n2 n3 n4:Int}(g0:0≤n3)(g1:n2=(l1.length:Int))(h0:(n3<n2))(h1:(List.getD l1 (Int.toNat n3) (0:Int)=(0:Int)))(h2:(h3q [.n n0,.n n3])=(some (0,[.n n4]))):(j3c [.k 0,.n n0,.l TB l1,.n n2,.n n3]).sel=some (Step.go [.k 0,.n n4,.l TB l1,.n n2,.n (IntKind.wrap .i64 (n3+(1:Int)))]):=sP [1]<|sT (dt h0)<|sTo (c:=(inR n3 (List.length l1)))<|sP [1,1]<|sT (bt h1)<|sA h2<|sP [1,1,1]<|sL
theorem t3s {n0:Int}{l1:List (Ty.den TB)}{n2 n3:Int}(g0:0≤n3)(g1:n2=(l1.length:Int))(h0:(n3<n2))(h1:(¬List.getD l1 (Int.toNat n3) (0:Int)=(0:Int))):(j3c [.k 0,.n n0,.l TB l1,.n n2,.n n3]).sel=some (Step.go [.k 0,.n n0,.l TB l1,.n n2,.n (IntKind.wrap .i64 (n3+(1:Int)))]):=sP [1]<|sT (dt h0)<|sTo (c:=(inR n3 (List.length l1)))<|sP [1,1]<|sF (bf h1)<|sP [1]<|sL
theorem t3r {n0:Int}{l1:List (Ty.den TB)}{n2 n3:Int}(g0:0≤n3)(g1:n2=(l1.length:Int))(h0:(¬n3<n2)):(j3c [.k 0,.n n0,.l TB l1,.n n2,.n n3]).sel=some (Step.stop 0 [.n n0]):=sP [1]<|sF (df h0)<|sP [1]<|sL
def S_z45:BSh:={args:=[.imm TB 0,fnV0 46],blks:=[],log:=[],outs:=[(.int .u64 0,[])]}
def ev_z45:List Dat→Tree (Nat×List Dat):=evF w3e 45 (lsM [(3,i4b)] 0) S_z45
theorem e_z45: ∃op,IsF ev_z45 45 S_z45 op:=bxF l3v (lsE (lsC (h3g n3l) (atF) lsZ))
def x3i:OpA:=opF e_z45
theorem c4p {l0:List (Ty.den TB)}{n1:Int}(h0:(w3j [.k 0,.n (0:Int),.l TB l0,.n (↑(List.length l0):Int),.n (0:Int)])=(some (0,[.n n1]))):x3i [.l TB l0]=some ((0,[.n n1])):=h3c e_z45 (sA h0<|sP [1,1]<|sL)
def w3n:FuncId→Option a0q:=a0s 45 (S_z45.k x3i) w3e
theorem l3p:CsOk Tryz.prog w3n:=csL1 l3v e_z45
def b4r:LSh:={K:=1,log:=[],ins:=[(sh 58 [(3,.ptr 1 0),(4,.ptr 2 0),(5,.ptr 3 0),(42,.own 4),(43,.int .i64 0),(44,.int .i64 1)],[msB 2,stB 7,stB 12,stB 17,.arr TI 22])],nils:=[],outs:=[(.exit 0,sh 58 [(4,.ptr 1 0),(5,.ptr 2 0)],[msB 0,stB 5,stB 10])],cv:=[]}
def k3h:List Dat→Tree Step:=evL w3n 10 6 ls0 b4r
theorem o3j: ∃op,IsL k3h 10 6 b4r op:=bxL l3p (LsOk.none _ _ _)
def o3k:OpA:=opL o3j
theorem t3h (env:List Dat):o3k env=a0b k3h FU env:=h3i o3j env
abbrev i4g:MBox:=boxL o3j
theorem v3r {n0 n1:Int}{l2:List (Ty.den TMr)}{l3:List (Ty.den TU)}{n4 n5 n6 n7 n8 n9:Int}{l10:List (Ty.den TB)}{n11 n12 n13 n14:Int}{l15:List (Ty.den TB)}{n16 n17 n18 n19:Int}{l20:List (Ty.den TB)}{n21:Int}{l22:List (Ty.den TI)}(g0:0≤n1)(g1:n0=(l22.length:Int))(h0:(n1<n0))(h1:(inR (List.getD l22 (Int.toNat n1) (0:Int)) 64=true)):(k3h [.k 0,.n n0,.n n1,.l TMr l2,.l TU l3,.n n4,.n n5,.n n6,.n n7,.n n8,.n n9,.l TB l10,.n n11,.n n12,.n n13,.n n14,.l TB l15,.n n16,.n n17,.n n18,.n n19,.l TB l20,.n n21,.l TI l22]).sel=some (Step.go [.k 0,.n n0,.n (IntKind.wrap .i64 (n1+(1:Int))),.l TMr l2,.l TU l3,.n n4,.n n5,.n n6,.n n7,.n n8,.n n9,.l TB l10,.n n11,.n n12,.n n13,.n n14,.l TB l15,.n n16,.n n17,.n n18,.n n19,.l TB (List.set l20 (Int.toNat (List.getD l22 (Int.toNat n1) (0:Int))) (imin (List.getD l10 (Int.toNat (List.getD l22 (Int.toNat n1) (0:Int))) (0:Int)) (20:Int))),.n n21,.l TI l22]):=sP [1]<|sT (dt h0)<|sTo (c:=(inR n1 (List.length l22)))<|sT h1<|sT h1<|sP [1]<|sL
theorem s3t {n0 n1:Int}{l2:List (Ty.den TMr)}{l3:List (Ty.den TU)}{n4 n5 n6 n7 n8 n9:Int}{l10:List (Ty.den TB)}{n11 n12 n13 n14:Int}{l15:List (Ty.den TB)}{n16 n17 n18 n19:Int}{l20:List (Ty.den TB)}{n21:Int}{l22:List (Ty.den TI)}(g0:0≤n1)(g1:n0=(l22.length:Int))(h0:(¬n1<n0)):(k3h [.k 0,.n n0,.n n1,.l TMr l2,.l TU l3,.n n4,.n n5,.n n6,.n n7,.n n8,.n n9,.l TB l10,.n n11,.n n12,.n n13,.n n14,.l TB l15,.n n16,.n n17,.n n18,.n n19,.l TB l20,.n n21,.l TI l22]).sel=some (Step.stop 0 [.l TMr l2,.l TU l3,.n n4,.n n5,.n n6,.n n12,.n n13,.n n14,.l TB l15,.n n16,.n n17,.n n18,.n n19,.l TB l20,.n n21]):=sP [1]<|sF (df h0)<|sP [1]<|sL
def S_b10:BSh:={args:=[.ptr 0 0,stV 0],blks:=[msB 5],log:=[],outs:=[(stV 0,[msB 5])]}
def ev_b10:List Dat→Tree (Nat×List Dat):=evF w3n 10 (lsM [(6,i4g)] 1) S_b10
theorem e_b10: ∃op,IsF ev_b10 10 S_b10 op:=bxF l3p (lsE (lsC (h3g o3j) (atF) lsZ))
def j3l:OpA:=opF e_b10
theorem c4x {n0 n1 n2:Int}{l3:List (Ty.den TB)}{n4:Int}{l5:List (Ty.den TMr)}{l6:List (Ty.den TU)}{n7 n8 n9:Int}{l10:List (Ty.den TI)}{l11:List (Ty.den TMr)}{l12:List (Ty.den TU)}{n13 n14 n15 n16 n17 n18:Int}{l19:List (Ty.den TB)}{n20 n21 n22 n23:Int}{l24:List (Ty.den TB)}{n25:Int}(h0:(l3r [.n (iand IntKind.u64 n2 (iand IntKind.u64 n0 n7))])=(some (0,[.l TI l10])))(h1:(o3k [.k 0,.n (↑(List.length l10):Int),.n (0:Int),.l TMr l5,.l TU l6,.n n7,.n n8,.n n9,.n n0,.n n1,.n n2,.l TB l3,.n n4,.n (0:Int),.n (0:Int),.n (0:Int),.l TB (List.replicate 64 (0:Int)),.n (0:Int),.n (iand IntKind.u64 n0 n7),.n (iand IntKind.u64 n1 (iand IntKind.u64 n0 n7)),.n (iand IntKind.u64 n2 (iand IntKind.u64 n0 n7)),.l TB (List.replicate 64 (0:Int)),.n (iand IntKind.u32 n4 n8),.l TI l10])=(some (0,[.l TMr l11,.l TU l12,.n n13,.n n14,.n n15,.n n16,.n n17,.n n18,.l TB l19,.n n20,.n n21,.n n22,.n n23,.l TB l24,.n n25]))):j3l [.n n0,.n n1,.n n2,.l TB l3,.n n4,.l TMr l5,.l TU l6,.n n7,.n n8,.n n9]=some ((0,[.n n21,.n n22,.n n23,.l TB l24,.n n25,.l TMr l11,.l TU l12,.n n13,.n n14,.n n15])):=h3c e_b10 (sP [0,1,1]<|sA h0<|sP [1,1]<|sA h1<|sP [1,1]<|sL)
def b4z:FuncId→Option a0q:=e1c 10 [S_b10.k j3l] w3n
theorem q3v:CsOk Tryz.prog b4z:=csA1 l3p e_b10
def S_b12:BSh:={args:=[.ptr 0 0,stV 0],blks:=[msB 5],log:=[],outs:=[(.bool 0,[msB 1])]}
def ev_b12:List Dat→Tree (Nat×List Dat):=evF b4z 12 ls0 S_b12
theorem y3m: ∃op,IsF ev_b12 12 S_b12 op:=bxF q3v (LsOk.none _ _ _)
def l3t:OpA:=opF y3m
theorem e4r {n0 n1 n2:Int}{l3:List (Ty.den TB)}{n4:Int}{l5:List (Ty.den TMr)}{l6:List (Ty.den TU)}{n7 n8 n9 n10 n11 n12:Int}{l13:List (Ty.den TB)}{n14:Int}{l15:List (Ty.den TMr)}{l16:List (Ty.den TU)}{n17 n18 n19:Int}(h0:(j3l [.n n0,.n n1,.n n2,.l TB l3,.n n4,.l TMr l5,.l TU l6,.n n7,.n n8,.n n9])=(some (0,[.n n10,.n n11,.n n12,.l TB l13,.n n14,.l TMr l15,.l TU l16,.n n17,.n n18,.n n19])))(h1:((n0==n10&&(n1==n11&&(n2==n12&&(eqL TB l3 l13&&(n4==n14&&true)))))=false)):l3t [.n n0,.n n1,.n n2,.l TB l3,.n n4,.l TMr l5,.l TU l6,.n n7,.n n8,.n n9]=some ((0,[.b false,.l TMr l5,.l TU l6,.n n7,.n n8,.n n9])):=h3c y3m (sP [0,1]<|sA h0<|sP [1,1,1]<|sT (nf h1)<|sP [1]<|sL)
theorem a4i {n0 n1 n2:Int}{l3:List (Ty.den TB)}{n4:Int}{l5:List (Ty.den TMr)}{l6:List (Ty.den TU)}{n7 n8 n9 n10 n11 n12:Int}{l13:List (Ty.den TB)}{n14:Int}{l15:List (Ty.den TMr)}{l16:List (Ty.den TU)}{n17 n18 n19 n20 n21 n22:Int}(h0:(j3l [.n n0,.n n1,.n n2,.l TB l3,.n n4,.l TMr l5,.l TU l6,.n n7,.n n8,.n n9])=(some (0,[.n n10,.n n11,.n n12,.l TB l13,.n n14,.l TMr l15,.l TU l16,.n n17,.n n18,.n n19])))(h1:((n0==n10&&(n1==n11&&(n2==n12&&(eqL TB l3 l13&&(n4==n14&&true)))))=true))(h2:(j3m [.l TMr l5,.l TU l6,.n n7,.n n8,.n n9,.n n0])=(some (0,[.n n20,.n n21])))(h3:(m3t [.l TMr l5,.l TU l6,.n n7,.n n8,.n n9,.n n0])=(some (0,[.n n22])))(h4:(iand IntKind.u64 n22 n0=(0:Int)))(h5:(iand IntKind.u32 n20 n4=(0:Int))):l3t [.n n0,.n n1,.n n2,.l TB l3,.n n4,.l TMr l5,.l TU l6,.n n7,.n n8,.n n9]=some ((0,[.b (b0l IntKind.u32 n21 n4==(0:Int)),.l TMr l5,.l TU l6,.n n7,.n n8,.n n9])):=h3c y3m (sP [0,1]<|sA h0<|sP [1,1,1]<|sF (nt h1)<|sA h2<|sP [1,1,1]<|sA h3<|sP [1,1]<|sT (bt h4)<|sT (bt h5)<|sP [1,1]<|sL)
theorem f4e {n0 n1 n2:Int}{l3:List (Ty.den TB)}{n4:Int}{l5:List (Ty.den TMr)}{l6:List (Ty.den TU)}{n7 n8 n9 n10 n11 n12:Int}{l13:List (Ty.den TB)}{n14:Int}{l15:List (Ty.den TMr)}{l16:List (Ty.den TU)}{n17 n18 n19 n20 n21 n22:Int}(h0:(j3l [.n n0,.n n1,.n n2,.l TB l3,.n n4,.l TMr l5,.l TU l6,.n n7,.n n8,.n n9])=(some (0,[.n n10,.n n11,.n n12,.l TB l13,.n n14,.l TMr l15,.l TU l16,.n n17,.n n18,.n n19])))(h1:((n0==n10&&(n1==n11&&(n2==n12&&(eqL TB l3 l13&&(n4==n14&&true)))))=true))(h2:(j3m [.l TMr l5,.l TU l6,.n n7,.n n8,.n n9,.n n0])=(some (0,[.n n20,.n n21])))(h3:(m3t [.l TMr l5,.l TU l6,.n n7,.n n8,.n n9,.n n0])=(some (0,[.n n22])))(h4:(iand IntKind.u64 n22 n0=(0:Int)))(h5:(¬iand IntKind.u32 n20 n4=(0:Int))):l3t [.n n0,.n n1,.n n2,.l TB l3,.n n4,.l TMr l5,.l TU l6,.n n7,.n n8,.n n9]=some ((0,[.b false,.l TMr l5,.l TU l6,.n n7,.n n8,.n n9])):=h3c y3m (sP [0,1]<|sA h0<|sP [1,1,1]<|sF (nt h1)<|sA h2<|sP [1,1,1]<|sA h3<|sP [1,1]<|sT (bt h4)<|sF (bf h5)<|sP [0,1,1]<|sL)
theorem a4n {n0 n1 n2:Int}{l3:List (Ty.den TB)}{n4:Int}{l5:List (Ty.den TMr)}{l6:List (Ty.den TU)}{n7 n8 n9 n10 n11 n12:Int}{l13:List (Ty.den TB)}{n14:Int}{l15:List (Ty.den TMr)}{l16:List (Ty.den TU)}{n17 n18 n19 n20 n21 n22:Int}(h0:(j3l [.n n0,.n n1,.n n2,.l TB l3,.n n4,.l TMr l5,.l TU l6,.n n7,.n n8,.n n9])=(some (0,[.n n10,.n n11,.n n12,.l TB l13,.n n14,.l TMr l15,.l TU l16,.n n17,.n n18,.n n19])))(h1:((n0==n10&&(n1==n11&&(n2==n12&&(eqL TB l3 l13&&(n4==n14&&true)))))=true))(h2:(j3m [.l TMr l5,.l TU l6,.n n7,.n n8,.n n9,.n n0])=(some (0,[.n n20,.n n21])))(h3:(m3t [.l TMr l5,.l TU l6,.n n7,.n n8,.n n9,.n n0])=(some (0,[.n n22])))(h4:(¬iand IntKind.u64 n22 n0=(0:Int))):l3t [.n n0,.n n1,.n n2,.l TB l3,.n n4,.l TMr l5,.l TU l6,.n n7,.n n8,.n n9]=some ((0,[.b false,.l TMr l5,.l TU l6,.n n7,.n n8,.n n9])):=h3c y3m (sP [0,1]<|sA h0<|sP [1,1,1]<|sF (nt h1)<|sA h2<|sP [1,1,1]<|sA h3<|sP [1,1]<|sF (bf h4)<|sP [0,0,0,1,1]<|sL)
def b4c:FuncId→Option a0q:=e1c 12 [S_b12.k l3t] b4z
theorem q3z:CsOk Tryz.prog b4c:=csA1 q3v y3m
def S_b41:BSh:={args:=[.ptr 0 0,stV 0,.int .u64 5,.int .i64 6],blks:=[msB 7],log:=[],outs:=[(stV 0,[msB 5])]}
def ev_b41:List Dat→Tree (Nat×List Dat):=evF b4c 41 ls0 S_b41
theorem y3b: ∃op,IsF ev_b41 41 S_b41 op:=bxF q3z (LsOk.none _ _ _)
def m3f:OpA:=opF y3b
theorem d4d {n0 n1 n2:Int}{l3:List (Ty.den TB)}{n4 n5 n6:Int}{l7:List (Ty.den TMr)}{l8:List (Ty.den TU)}{n9 n10 n11:Int}{b12:Bool}(h0:(h3n [.n (b0l IntKind.u64 n9 n0),.n n6])=(some (0,[.b b12])))(h1:(b12=false)):m3f [.n n0,.n n1,.n n2,.l TB l3,.n n4,.n n5,.n n6,.l TMr l7,.l TU l8,.n n9,.n n10,.n n11]=some ((0,[.n n0,.n n1,.n n2,.l TB l3,.n n4,.l TMr l7,.l TU l8,.n n9,.n n10,.n n11])):=h3c y3b (sA h0<|sP [1,1,1]<|sT (nf h1)<|sP [1]<|sL)
theorem g4f {n0 n1 n2:Int}{l3:List (Ty.den TB)}{n4 n5 n6:Int}{l7:List (Ty.den TMr)}{l8:List (Ty.den TU)}{n9 n10 n11:Int}{b12:Bool}{n13:Int}(h0:(h3n [.n (b0l IntKind.u64 n9 n0),.n n6])=(some (0,[.b b12])))(h1:(b12=true))(h2:(inR n6 (List.length l7)=true))(h3:(k3u [.l TU l8,.n (IntKind.wrap .u64 (ior IntKind.u32 (iand IntKind.u32 (Prod.fst (Prod.snd (Prod.snd (Prod.snd (List.getD l7 (Int.toNat n6) (Ty.dflt TMr)))))) n4) (b0l IntKind.u32 (Prod.fst (Prod.snd (Prod.snd (Prod.snd (Prod.snd (List.getD l7 (Int.toNat n6) (Ty.dflt TMr))))))) n4)))])=(some (0,[.n n13])))(h4:(¬iand IntKind.u64 (Prod.snd (Prod.snd (Prod.snd (Prod.snd (Prod.snd (List.getD l7 (Int.toNat n6) (Ty.dflt TMr))))))) n0=(0:Int))):m3f [.n n0,.n n1,.n n2,.l TB l3,.n n4,.n n5,.n n6,.l TMr l7,.l TU l8,.n n9,.n n10,.n n11]=some ((0,[.n n0,.n n1,.n n2,.l TB l3,.n n4,.l TMr l7,.l TU l8,.n n9,.n n10,.n n11])):=h3c y3b (sA h0<|sP [1,1,1]<|sF (nt h1)<|sT h2<|sA h3<|sP [1,1]<|sT (bnt h4)<|sP [1,1,1]<|sL)
theorem a4f {n0 n1 n2:Int}{l3:List (Ty.den TB)}{n4 n5 n6:Int}{l7:List (Ty.den TMr)}{l8:List (Ty.den TU)}{n9 n10 n11:Int}{b12:Bool}{n13:Int}(h0:(h3n [.n (b0l IntKind.u64 n9 n0),.n n6])=(some (0,[.b b12])))(h1:(b12=true))(h2:(inR n6 (List.length l7)=true))(h3:(k3u [.l TU l8,.n (IntKind.wrap .u64 (ior IntKind.u32 (iand IntKind.u32 (Prod.fst (Prod.snd (Prod.snd (Prod.snd (List.getD l7 (Int.toNat n6) (Ty.dflt TMr)))))) n4) (b0l IntKind.u32 (Prod.fst (Prod.snd (Prod.snd (Prod.snd (Prod.snd (List.getD l7 (Int.toNat n6) (Ty.dflt TMr))))))) n4)))])=(some (0,[.n n13])))(h4:(iand IntKind.u64 (Prod.snd (Prod.snd (Prod.snd (Prod.snd (Prod.snd (List.getD l7 (Int.toNat n6) (Ty.dflt TMr))))))) n0=(0:Int)))(h5:(¬iand IntKind.u64 (ior IntKind.u64 (Prod.fst (List.getD l7 (Int.toNat n6) (Ty.dflt TMr))) n13) n5=(0:Int))):m3f [.n n0,.n n1,.n n2,.l TB l3,.n n4,.n n5,.n n6,.l TMr l7,.l TU l8,.n n9,.n n10,.n n11]=some ((0,[.n n0,.n n1,.n n2,.l TB l3,.n n4,.l TMr l7,.l TU l8,.n n9,.n n10,.n n11])):=h3c y3b (sA h0<|sP [1,1,1]<|sF (nt h1)<|sT h2<|sA h3<|sP [1,1]<|sF (bnf h4)<|sT (bnt h5)<|sP [1]<|sL)
theorem a4p {n0 n1 n2:Int}{l3:List (Ty.den TB)}{n4 n5 n6:Int}{l7:List (Ty.den TMr)}{l8:List (Ty.den TU)}{n9 n10 n11:Int}{b12:Bool}{n13 n14:Int}(h0:(h3n [.n (b0l IntKind.u64 n9 n0),.n n6])=(some (0,[.b b12])))(h1:(b12=true))(h2:(inR n6 (List.length l7)=true))(h3:(k3u [.l TU l8,.n (IntKind.wrap .u64 (ior IntKind.u32 (iand IntKind.u32 (Prod.fst (Prod.snd (Prod.snd (Prod.snd (List.getD l7 (Int.toNat n6) (Ty.dflt TMr)))))) n4) (b0l IntKind.u32 (Prod.fst (Prod.snd (Prod.snd (Prod.snd (Prod.snd (List.getD l7 (Int.toNat n6) (Ty.dflt TMr))))))) n4)))])=(some (0,[.n n13])))(h4:(iand IntKind.u64 (Prod.snd (Prod.snd (Prod.snd (Prod.snd (Prod.snd (List.getD l7 (Int.toNat n6) (Ty.dflt TMr))))))) n0=(0:Int)))(h5:(iand IntKind.u64 (ior IntKind.u64 (Prod.fst (List.getD l7 (Int.toNat n6) (Ty.dflt TMr))) n13) n5=(0:Int)))(h6:(h3q [.n n0,.n n6])=(some (0,[.n n14]))):m3f [.n n0,.n n1,.n n2,.l TB l3,.n n4,.n n5,.n n6,.l TMr l7,.l TU l8,.n n9,.n n10,.n n11]=some ((0,[.n n14,.n n1,.n n2,.l TB l3,.n (ixor IntKind.u32 n4 (ior IntKind.u32 (iand IntKind.u32 (Prod.fst (Prod.snd (Prod.snd (Prod.snd (List.getD l7 (Int.toNat n6) (Ty.dflt TMr)))))) n4) (b0l IntKind.u32 (Prod.fst (Prod.snd (Prod.snd (Prod.snd (Prod.snd (List.getD l7 (Int.toNat n6) (Ty.dflt TMr))))))) n4))),.l TMr l7,.l TU l8,.n n9,.n n10,.n n11])):=h3c y3b (sA h0<|sP [1,1,1]<|sF (nt h1)<|sT h2<|sA h3<|sP [1,1]<|sF (bnf h4)<|sF (bnf h5)<|sA h6<|sP [1,1,1]<|sL)
def g4e:FuncId→Option a0q:=e1c 41 [S_b41.k m3f] b4c
theorem o3t:CsOk Tryz.prog g4e:=csA1 q3z y3b
def S_b42:BSh:={args:=[.ptr 0 0,stV 0,.int .u64 5,.int .i64 6],blks:=[msB 7],log:=[],outs:=[(stV 0,[msB 5])]}
def ev_b42:List Dat→Tree (Nat×List Dat):=evF g4e 42 ls0 S_b42
theorem c4t: ∃op,IsF ev_b42 42 S_b42 op:=bxF o3t (LsOk.none _ _ _)
def m3x:OpA:=opF c4t
theorem g4a {n0 n1 n2:Int}{l3:List (Ty.den TB)}{n4 n5 n6:Int}{l7:List (Ty.den TMr)}{l8:List (Ty.den TU)}{n9 n10 n11:Int}{b12:Bool}(h0:(h3n [.n (b0l IntKind.u64 (b0l IntKind.u64 n0 n1) n2),.n n6])=(some (0,[.b b12])))(h1:(b12=false)):m3x [.n n0,.n n1,.n n2,.l TB l3,.n n4,.n n5,.n n6,.l TMr l7,.l TU l8,.n n9,.n n10,.n n11]=some ((0,[.n n0,.n n1,.n n2,.l TB l3,.n n4,.l TMr l7,.l TU l8,.n n9,.n n10,.n n11])):=h3c c4t (sA h0<|sP [1,1]<|sT (nf h1)<|sP [1]<|sL)
theorem e4e {n0 n1 n2:Int}{l3:List (Ty.den TB)}{n4 n5 n6:Int}{l7:List (Ty.den TMr)}{l8:List (Ty.den TU)}{n9 n10 n11:Int}{b12:Bool}{n13:Int}(h0:(h3n [.n (b0l IntKind.u64 (b0l IntKind.u64 n0 n1) n2),.n n6])=(some (0,[.b b12])))(h1:(b12=true))(h2:(h3q [.n n2,.n n6])=(some (0,[.n n13])))(h3:(inR n6 64=true))(h4:(inR n6 (List.length l7)=true))(h5:(¬iand IntKind.u64 (Prod.fst (Prod.snd (Prod.snd (List.getD l7 (Int.toNat n6) (Ty.dflt TMr))))) n5=(0:Int))):m3x [.n n0,.n n1,.n n2,.l TB l3,.n n4,.n n5,.n n6,.l TMr l7,.l TU l8,.n n9,.n n10,.n n11]=some ((0,[.n n0,.n n1,.n n13,.l TB (List.set (List.set l3 (Int.toNat n6) (0:Int)) (Int.toNat n6) (20:Int)),.n n4,.l TMr l7,.l TU l8,.n n9,.n n10,.n n11])):=h3c c4t (sA h0<|sP [1,1]<|sF (nt h1)<|sA h2<|sP [1,1]<|sT h3<|sT h4<|sT (bnt h5)<|sT h3<|sP [1]<|sL)
theorem b4j {n0 n1 n2:Int}{l3:List (Ty.den TB)}{n4 n5 n6:Int}{l7:List (Ty.den TMr)}{l8:List (Ty.den TU)}{n9 n10 n11:Int}{b12:Bool}{n13:Int}(h0:(h3n [.n (b0l IntKind.u64 (b0l IntKind.u64 n0 n1) n2),.n n6])=(some (0,[.b b12])))(h1:(b12=true))(h2:(h3q [.n n2,.n n6])=(some (0,[.n n13])))(h3:(inR n6 64=true))(h4:(inR n6 (List.length l7)=true))(h5:(iand IntKind.u64 (Prod.fst (Prod.snd (Prod.snd (List.getD l7 (Int.toNat n6) (Ty.dflt TMr))))) n5=(0:Int))):m3x [.n n0,.n n1,.n n2,.l TB l3,.n n4,.n n5,.n n6,.l TMr l7,.l TU l8,.n n9,.n n10,.n n11]=some ((0,[.n n0,.n n1,.n n13,.l TB (List.set l3 (Int.toNat n6) (0:Int)),.n n4,.l TMr l7,.l TU l8,.n n9,.n n10,.n n11])):=h3c c4t (sA h0<|sP [1,1]<|sF (nt h1)<|sA h2<|sP [1,1]<|sT h3<|sT h4<|sF (bnf h5)<|sP [1]<|sL)
def d4c:FuncId→Option a0q:=e1c 42 [S_b42.k m3x] g4e
theorem q3b:CsOk Tryz.prog d4c:=csA1 o3t c4t
def S_b43:BSh:={args:=[.ptr 0 0,stV 0,.int .u64 5,.int .i64 6],blks:=[msB 7],log:=[],outs:=[(stV 0,[msB 5])]}
def ev_b43:List Dat→Tree (Nat×List Dat):=evF d4c 43 ls0 S_b43
theorem b4n: ∃op,IsF ev_b43 43 S_b43 op:=bxF q3b (LsOk.none _ _ _)
def m3w:OpA:=opF b4n
theorem a4l {n0 n1 n2:Int}{l3:List (Ty.den TB)}{n4 n5 n6:Int}{l7:List (Ty.den TMr)}{l8:List (Ty.den TU)}{n9 n10 n11 n12 n13:Int}{b14:Bool}(h0:(j3m [.l TMr l7,.l TU l8,.n n9,.n n10,.n n11,.n n0])=(some (0,[.n n12,.n n13])))(h1:(h3n [.n (IntKind.wrap .u64 (b0l IntKind.u32 n10 (ior IntKind.u32 n12 n13))),.n n6])=(some (0,[.b b14])))(h2:(b14=false)):m3w [.n n0,.n n1,.n n2,.l TB l3,.n n4,.n n5,.n n6,.l TMr l7,.l TU l8,.n n9,.n n10,.n n11]=some ((0,[.n n0,.n n1,.n n2,.l TB l3,.n n4,.l TMr l7,.l TU l8,.n n9,.n n10,.n n11])):=h3c b4n (sA h0<|sP [1,1,1]<|sA h1<|sP [1,1]<|sT (nf h2)<|sP [1,1,1]<|sL)
theorem b4m {n0 n1 n2:Int}{l3:List (Ty.den TB)}{n4 n5 n6:Int}{l7:List (Ty.den TMr)}{l8:List (Ty.den TU)}{n9 n10 n11 n12 n13:Int}{b14:Bool}(h0:(j3m [.l TMr l7,.l TU l8,.n n9,.n n10,.n n11,.n n0])=(some (0,[.n n12,.n n13])))(h1:(h3n [.n (IntKind.wrap .u64 (b0l IntKind.u32 n10 (ior IntKind.u32 n12 n13))),.n n6])=(some (0,[.b b14])))(h2:(b14=true))(h3:(inR n6 (List.length l8)=true))(h4:(¬iand IntKind.u64 (List.getD l8 (Int.toNat n6) (0:Int)) n5=(0:Int))):m3w [.n n0,.n n1,.n n2,.l TB l3,.n n4,.n n5,.n n6,.l TMr l7,.l TU l8,.n n9,.n n10,.n n11]=some ((0,[.n n0,.n n1,.n n2,.l TB l3,.n n4,.l TMr l7,.l TU l8,.n n9,.n n10,.n n11])):=h3c b4n (sA h0<|sP [1,1,1]<|sA h1<|sP [1,1]<|sF (nt h2)<|sT h3<|sT (bnt h4)<|sP [1]<|sL)
theorem f4v {n0 n1 n2:Int}{l3:List (Ty.den TB)}{n4 n5 n6:Int}{l7:List (Ty.den TMr)}{l8:List (Ty.den TU)}{n9 n10 n11 n12 n13:Int}{b14:Bool}(h0:(j3m [.l TMr l7,.l TU l8,.n n9,.n n10,.n n11,.n n0])=(some (0,[.n n12,.n n13])))(h1:(h3n [.n (IntKind.wrap .u64 (b0l IntKind.u32 n10 (ior IntKind.u32 n12 n13))),.n n6])=(some (0,[.b b14])))(h2:(b14=true))(h3:(inR n6 (List.length l8)=true))(h4:(iand IntKind.u64 (List.getD l8 (Int.toNat n6) (0:Int)) n5=(0:Int))):m3w [.n n0,.n n1,.n n2,.l TB l3,.n n4,.n n5,.n n6,.l TMr l7,.l TU l8,.n n9,.n n10,.n n11]=some ((0,[.n n0,.n n1,.n n2,.l TB l3,.n (ixor IntKind.u32 n4 (ishl IntKind.u32 (1:Int) n6)),.l TMr l7,.l TU l8,.n n9,.n n10,.n n11])):=h3c b4n (sA h0<|sP [1,1,1]<|sA h1<|sP [1,1]<|sF (nt h2)<|sT h3<|sF (bnf h4)<|sTo (c:=(!decide (n6<(0:Int))))<|sP [1,1]<|sL)
def f4t:FuncId→Option a0q:=e1c 43 [S_b43.k m3w] d4c
theorem r3i:CsOk Tryz.prog f4t:=csA1 q3b b4n
def S_b20:BSh:={args:=[.ptr 0 0,stV 0,.int .u64 5,cmV 6],blks:=[msB 8],log:=[],outs:=[(stV 0,[msB 5])]}
def ev_b20:List Dat→Tree (Nat×List Dat):=evF f4t 20 ls0 S_b20
theorem y3p: ∃op,IsF ev_b20 20 S_b20 op:=bxF r3i (LsOk.none _ _ _)
def m3a:OpA:=opF y3p
theorem f4m {n0 n1 n2:Int}{l3:List (Ty.den TB)}{n4 n5 n6 n7:Int}{l8:List (Ty.den TMr)}{l9:List (Ty.den TU)}{n10 n11 n12 n13 n14 n15:Int}{l16:List (Ty.den TB)}{n17:Int}{l18:List (Ty.den TMr)}{l19:List (Ty.den TU)}{n20 n21 n22:Int}(h0:(n6=(1:Int)))(h1:(m3f [.n n0,.n n1,.n n2,.l TB l3,.n n4,.n n5,.n n7,.l TMr l8,.l TU l9,.n n10,.n n11,.n n12])=(some (0,[.n n13,.n n14,.n n15,.l TB l16,.n n17,.l TMr l18,.l TU l19,.n n20,.n n21,.n n22]))):m3a [.n n0,.n n1,.n n2,.l TB l3,.n n4,.n n5,.n n6,.n n7,.l TMr l8,.l TU l9,.n n10,.n n11,.n n12]=some ((0,[.n n13,.n n14,.n n15,.l TB l16,.n n17,.l TMr l8,.l TU l9,.n n10,.n n11,.n n12])):=h3c y3p (sT (bt h0)<|sP [1]<|sA h1<|sP [1,1,1]<|sL)
theorem d4r {n0 n1 n2:Int}{l3:List (Ty.den TB)}{n4 n5 n6 n7:Int}{l8:List (Ty.den TMr)}{l9:List (Ty.den TU)}{n10 n11 n12 n13 n14 n15:Int}{l16:List (Ty.den TB)}{n17:Int}{l18:List (Ty.den TMr)}{l19:List (Ty.den TU)}{n20 n21 n22:Int}(h0:(¬n6=(1:Int)))(h1:(n6=(2:Int)))(h2:(m3x [.n n0,.n n1,.n n2,.l TB l3,.n n4,.n n5,.n n7,.l TMr l8,.l TU l9,.n n10,.n n11,.n n12])=(some (0,[.n n13,.n n14,.n n15,.l TB l16,.n n17,.l TMr l18,.l TU l19,.n n20,.n n21,.n n22]))):m3a [.n n0,.n n1,.n n2,.l TB l3,.n n4,.n n5,.n n6,.n n7,.l TMr l8,.l TU l9,.n n10,.n n11,.n n12]=some ((0,[.n n13,.n n14,.n n15,.l TB l16,.n n17,.l TMr l8,.l TU l9,.n n10,.n n11,.n n12])):=h3c y3p (sF (bf h0)<|sT (bt h1)<|sP [1]<|sA h2<|sP [1,1,1]<|sL)
theorem g4b {n0 n1 n2:Int}{l3:List (Ty.den TB)}{n4 n5 n6 n7:Int}{l8:List (Ty.den TMr)}{l9:List (Ty.den TU)}{n10 n11 n12 n13 n14 n15:Int}{l16:List (Ty.den TB)}{n17:Int}{l18:List (Ty.den TMr)}{l19:List (Ty.den TU)}{n20 n21 n22:Int}(h0:(¬n6=(1:Int)))(h1:(¬n6=(2:Int)))(h2:(n6=(3:Int)))(h3:(m3w [.n n0,.n n1,.n n2,.l TB l3,.n n4,.n n5,.n n7,.l TMr l8,.l TU l9,.n n10,.n n11,.n n12])=(some (0,[.n n13,.n n14,.n n15,.l TB l16,.n n17,.l TMr l18,.l TU l19,.n n20,.n n21,.n n22]))):m3a [.n n0,.n n1,.n n2,.l TB l3,.n n4,.n n5,.n n6,.n n7,.l TMr l8,.l TU l9,.n n10,.n n11,.n n12]=some ((0,[.n n13,.n n14,.n n15,.l TB l16,.n n17,.l TMr l8,.l TU l9,.n n10,.n n11,.n n12])):=h3c y3p (sF (bf h0)<|sF (bf h1)<|sT (bt h2)<|sP [1]<|sA h3<|sP [1,1,1]<|sL)
theorem e4t {n0 n1 n2:Int}{l3:List (Ty.den TB)}{n4 n5 n6 n7:Int}{l8:List (Ty.den TMr)}{l9:List (Ty.den TU)}{n10 n11 n12:Int}(h0:(¬n6=(1:Int)))(h1:(¬n6=(2:Int)))(h2:(¬n6=(3:Int))):m3a [.n n0,.n n1,.n n2,.l TB l3,.n n4,.n n5,.n n6,.n n7,.l TMr l8,.l TU l9,.n n10,.n n11,.n n12]=some ((0,[.n n0,.n n1,.n n2,.l TB l3,.n n4,.l TMr l8,.l TU l9,.n n10,.n n11,.n n12])):=h3c y3p (sF (bf h0)<|sF (bf h1)<|sF (bf h2)<|sP [1]<|sL)
def r3b:FuncId→Option a0q:=e1c 20 [S_b20.k m3a] f4t
theorem k3f:CsOk Tryz.prog r3b:=csA1 r3i y3p
def d4e:LSh:={K:=1,log:=[],ins:=[(sh 85 [(2,.int .u64 0),(4,.int .u64 1),(6,.ptr 1 0),(10,.ptr 2 0),(12,.int .u64 2),(42,.own 3),(43,.int .i64 3),(44,.int .i64 4)],[msB 5,stB 10,stB 15,.arr TI 20])],nils:=[],outs:=[(.exit 0,sh 85 [(2,.int .u64 0),(4,.int .u64 1),(6,.ptr 1 0),(10,.ptr 2 0),(12,.int .u64 2)],[msB 3,stB 8,stB 13])],cv:=[]}
def k3c:List Dat→Tree Step:=evL r3b 24 4 ls0 d4e
theorem n3a: ∃op,IsL k3c 24 4 d4e op:=bxL k3f (LsOk.none _ _ _)
def n3w:OpA:=opL n3a
theorem r3y (env:List Dat):n3w env=a0b k3c FU env:=h3i n3a env
abbrev g4k:MBox:=boxL n3a
theorem r3w {n0 n1 n2 n3 n4:Int}{l5:List (Ty.den TMr)}{l6:List (Ty.den TU)}{n7 n8 n9 n10 n11 n12:Int}{l13:List (Ty.den TB)}{n14 n15 n16 n17:Int}{l18:List (Ty.den TB)}{n19:Int}{l20:List (Ty.den TI)}(g0:0≤n4)(g1:n3=(l20.length:Int))(h0:(n4<n3))(h1:(inR (List.getD l20 (Int.toNat n4) (0:Int)) 64=true)):(k3c [.k 0,.n n0,.n n1,.n n2,.n n3,.n n4,.l TMr l5,.l TU l6,.n n7,.n n8,.n n9,.n n10,.n n11,.n n12,.l TB l13,.n n14,.n n15,.n n16,.n n17,.l TB l18,.n n19,.l TI l20]).sel=some (Step.go [.k 0,.n n0,.n n1,.n n2,.n n3,.n (IntKind.wrap .i64 (n4+(1:Int))),.l TMr l5,.l TU l6,.n n7,.n n8,.n n9,.n n10,.n n11,.n n12,.l TB (List.set l13 (Int.toNat (List.getD l20 (Int.toNat n4) (0:Int))) (IntKind.wrap .u8 ((List.getD l13 (Int.toNat (List.getD l20 (Int.toNat n4) (0:Int))) (0:Int):Int)-(1:Int)))),.n n14,.n n15,.n n16,.n n17,.l TB l18,.n n19,.l TI l20]):=sP [1]<|sT (dt h0)<|sTo (c:=(inR n4 (List.length l20)))<|sT h1<|sT h1<|sP [1]<|sL
theorem u3p {n0 n1 n2 n3 n4:Int}{l5:List (Ty.den TMr)}{l6:List (Ty.den TU)}{n7 n8 n9 n10 n11 n12:Int}{l13:List (Ty.den TB)}{n14 n15 n16 n17:Int}{l18:List (Ty.den TB)}{n19:Int}{l20:List (Ty.den TI)}(g0:0≤n4)(g1:n3=(l20.length:Int))(h0:(¬n4<n3)):(k3c [.k 0,.n n0,.n n1,.n n2,.n n3,.n n4,.l TMr l5,.l TU l6,.n n7,.n n8,.n n9,.n n10,.n n11,.n n12,.l TB l13,.n n14,.n n15,.n n16,.n n17,.l TB l18,.n n19,.l TI l20]).sel=some (Step.stop 0 [.n n0,.n n1,.n n2,.l TMr l5,.l TU l6,.n n7,.n n8,.n n9,.n n10,.n n11,.n n12,.l TB l13,.n n14,.n n15,.n n16,.n n17,.l TB l18,.n n19]):=sP [1]<|sF (df h0)<|sP [1]<|sL
def g4i:LSh:={K:=1,log:=[],ins:=[(sh 85 [(2,.int .u64 0),(4,.int .u64 1),(6,.ptr 1 0),(10,.ptr 2 0),(12,.int .u64 2),(57,.own 3),(58,.int .i64 3),(59,.int .i64 4)],[msB 5,stB 10,stB 15,.arr TI 20])],nils:=[],outs:=[(.exit 2,sh 85 [(2,.int .u64 0),(4,.int .u64 1),(6,.ptr 1 0),(10,.ptr 2 0),(12,.int .u64 2)],[msB 3,stB 8,stB 13])],cv:=[]}
def j3u:List Dat→Tree Step:=evL r3b 24 9 ls0 g4i
theorem o3n: ∃op,IsL j3u 24 9 g4i op:=bxL k3f (LsOk.none _ _ _)
def o3s:OpA:=opL o3n
theorem t3k (env:List Dat):o3s env=a0b j3u FU env:=h3i o3n env
abbrev h4i:MBox:=boxL o3n
theorem s3h {n0 n1 n2 n3 n4:Int}{l5:List (Ty.den TMr)}{l6:List (Ty.den TU)}{n7 n8 n9 n10 n11 n12:Int}{l13:List (Ty.den TB)}{n14 n15 n16 n17:Int}{l18:List (Ty.den TB)}{n19:Int}{l20:List (Ty.den TI)}(g0:0≤n4)(g1:n3=(l20.length:Int))(h0:(n4<n3))(h1:(inR (List.getD l20 (Int.toNat n4) (0:Int)) 64=true)):(j3u [.k 0,.n n0,.n n1,.n n2,.n n3,.n n4,.l TMr l5,.l TU l6,.n n7,.n n8,.n n9,.n n10,.n n11,.n n12,.l TB l13,.n n14,.n n15,.n n16,.n n17,.l TB l18,.n n19,.l TI l20]).sel=some (Step.go [.k 0,.n n0,.n n1,.n n2,.n n3,.n (IntKind.wrap .i64 (n4+(1:Int))),.l TMr l5,.l TU l6,.n n7,.n n8,.n n9,.n n10,.n n11,.n n12,.l TB (List.set l13 (Int.toNat (List.getD l20 (Int.toNat n4) (0:Int))) (0:Int)),.n n14,.n n15,.n n16,.n n17,.l TB l18,.n n19,.l TI l20]):=sP [1]<|sT (dt h0)<|sTo (c:=(inR n4 (List.length l20)))<|sT h1<|sP [1]<|sL
theorem t3j {n0 n1 n2 n3 n4:Int}{l5:List (Ty.den TMr)}{l6:List (Ty.den TU)}{n7 n8 n9 n10 n11 n12:Int}{l13:List (Ty.den TB)}{n14 n15 n16 n17:Int}{l18:List (Ty.den TB)}{n19:Int}{l20:List (Ty.den TI)}(g0:0≤n4)(g1:n3=(l20.length:Int))(h0:(¬n4<n3)):(j3u [.k 0,.n n0,.n n1,.n n2,.n n3,.n n4,.l TMr l5,.l TU l6,.n n7,.n n8,.n n9,.n n10,.n n11,.n n12,.l TB l13,.n n14,.n n15,.n n16,.n n17,.l TB l18,.n n19,.l TI l20]).sel=some (Step.stop 0 [.n n0,.n n1,.n n2,.l TMr l5,.l TU l6,.n n7,.n n8,.n n9,.n n10,.n n11,.n n12,.l TB l13,.n n14,.n n15,.n n16,.n n17,.l TB l18,.n n19]):=sP [1]<|sF (df h0)<|sP [1]<|sL
def S_b24:BSh:={args:=[.ptr 0 0,stV 0,.int .u64 5,.int .u64 6,.int .u64 7],blks:=[msB 8],log:=[],outs:=[(stV 0,[msB 5])]}
def ev_b24:List Dat→Tree (Nat×List Dat):=evF r3b 24 (lsM [(4,g4k),(9,h4i)] 1) S_b24
theorem e_b24: ∃op,IsF ev_b24 24 S_b24 op:=bxF k3f (lsE (lsC (h3g n3a) (atF) (lsC (h3g o3n) (atF) lsZ)))
def w3s:OpA:=opF e_b24
theorem f4i {n0 n1 n2:Int}{l3:List (Ty.den TB)}{n4 n5 n6 n7:Int}{l8:List (Ty.den TMr)}{l9:List (Ty.den TU)}{n10 n11 n12 n13:Int}{l14:List (Ty.den TI)}{n15 n16 n17:Int}{l18:List (Ty.den TMr)}{l19:List (Ty.den TU)}{n20 n21 n22 n23 n24 n25:Int}{l26:List (Ty.den TB)}{n27 n28 n29 n30:Int}{l31:List (Ty.den TB)}{n32:Int}{l33:List (Ty.den TI)}{n34 n35 n36:Int}{l37:List (Ty.den TMr)}{l38:List (Ty.den TU)}{n39 n40 n41 n42 n43 n44:Int}{l45:List (Ty.den TB)}{n46 n47 n48 n49:Int}{l50:List (Ty.den TB)}{n51:Int}(h0:(x3i [.l TB l3])=(some (0,[.n n13])))(h1:(l3r [.n (b0l IntKind.u64 n2 (ior IntKind.u64 (ior IntKind.u64 n5 n7) n13))])=(some (0,[.l TI l14])))(h2:(n3w [.k 0,.n n5,.n n7,.n (ior IntKind.u64 (iand IntKind.u64 n5 n6) (b0l IntKind.u64 (iand IntKind.u64 (iand IntKind.u64 n2 n13) n6) (ior IntKind.u64 n5 n7))),.n (↑(List.length l14):Int),.n (0:Int),.l TMr l8,.l TU l9,.n n10,.n n11,.n n12,.n n0,.n n1,.n n2,.l TB l3,.n n4,.n (0:Int),.n (0:Int),.n (0:Int),.l TB (List.replicate 64 (0:Int)),.n (0:Int),.l TI l14])=(some (0,[.n n15,.n n16,.n n17,.l TMr l18,.l TU l19,.n n20,.n n21,.n n22,.n n23,.n n24,.n n25,.l TB l26,.n n27,.n n28,.n n29,.n n30,.l TB l31,.n n32])))(h3:(l3r [.n n17])=(some (0,[.l TI l33])))(h4:(o3s [.k 0,.n n15,.n n16,.n n17,.n (↑(List.length l33):Int),.n (0:Int),.l TMr l18,.l TU l19,.n n20,.n n21,.n n22,.n n23,.n n24,.n n25,.l TB l26,.n n27,.n n28,.n n29,.n n30,.l TB l31,.n n32,.l TI l33])=(some (0,[.n n34,.n n35,.n n36,.l TMr l37,.l TU l38,.n n39,.n n40,.n n41,.n n42,.n n43,.n n44,.l TB l45,.n n46,.n n47,.n n48,.n n49,.l TB l50,.n n51]))):w3s [.n n0,.n n1,.n n2,.l TB l3,.n n4,.n n5,.n n6,.n n7,.l TMr l8,.l TU l9,.n n10,.n n11,.n n12]=some ((0,[.n (b0l IntKind.u64 n42 n36),.n (iand IntKind.u64 (b0l IntKind.u64 n42 n36) (ior IntKind.u64 n34 n35)),.n (b0l IntKind.u64 n44 n36),.l TB l45,.n n46,.l TMr l37,.l TU l38,.n n39,.n n40,.n n41])):=h3c e_b24 (sP [1]<|sA h0<|sP [1,1]<|sA h1<|sP [1,1]<|sA h2<|sP [1]<|sA h3<|sP [1,1]<|sA h4<|sP [1,1]<|sL)
def f4y:FuncId→Option a0q:=e1c 24 [S_b24.k w3s] r3b
theorem p3p:CsOk Tryz.prog f4y:=csA1 k3f e_b24
def S_b25:BSh:={args:=[.ptr 0 0,stV 0,ipV 5,.int .u64 9],blks:=[msB 10],log:=[],outs:=[(ouV 0,[msB 2])]}
def ev_b25:List Dat→Tree (Nat×List Dat):=evF f4y 25 ls0 S_b25
theorem e_b25: ∃op,IsF ev_b25 25 S_b25 op:=bxF p3p (LsOk.none _ _ _)
def x3f:OpA:=opF e_b25
theorem c4y {n0 n1 n2:Int}{l3:List (Ty.den TB)}{n4 n5 n6 n7:Int}{l8:List (Ty.den TCmd)}{n9:Int}{l10:List (Ty.den TMr)}{l11:List (Ty.den TU)}{n12 n13 n14 n15 n16 n17:Int}(h0:(x3e [.l TMr l10,.n (b0l IntKind.u32 n6 n7),.n (b0l IntKind.u32 n7 n6)])=(some (0,[.n n15,.n n16,.n n17]))):x3f [.n n0,.n n1,.n n2,.l TB l3,.n n4,.n n5,.n n6,.n n7,.l TCmd l8,.n n9,.l TMr l10,.l TU l11,.n n12,.n n13,.n n14]=some ((0,[.n (b0l IntKind.u64 (iand IntKind.u64 (iand IntKind.u64 n0 n9) n15) (ior IntKind.u64 n1 n2)),.n n4,.l TMr l10,.l TU l11,.n n12,.n n13,.n n14])):=h3c e_b25 (sP [1,1,1,1]<|sA h0<|sP [1,1,1]<|sL)
def x3j:FuncId→Option a0q:=e1c 25 [S_b25.k x3f] f4y
theorem m3d:CsOk Tryz.prog x3j:=csA1 p3p e_b25
def R_b8_7:LSh:={K:=1,log:=[],ins:=[(sh 75 [(0,.ptr 0 0),(4,.ptr 1 0),(5,.ptr 2 0),(6,.ptr 3 0),(7,.ptr 4 0),(8,.ptr 5 0),(9,.int .u64 0),(37,.imm TCmd 1),(38,.int .i64 2),(39,.int .i64 3)],[msB 4,stB 9,ipB 14,stB 18,ouB 23,ucB 25])],nils:=[],outs:=[(.exit 0,sh 75 [(0,.ptr 0 0),(4,.ptr 1 0),(5,.ptr 2 0),(6,.ptr 3 0),(7,.ptr 4 0),(8,.ptr 5 0),(9,.int .u64 0)],[msB 1,stB 6,ipB 11,stB 15,ouB 20,ucB 22])],cv:=[]}
def l3u:List Dat→Tree Step:=evL x3j 8 7 ls0 R_b8_7
theorem w3h: ∃op,IsL l3u 8 7 R_b8_7 op:=bxL m3d (LsOk.none _ _ _)
def v3c:OpA:=opL w3h
theorem y3r (env:List Dat):v3c env=a0b l3u FU env:=h3i w3h env
abbrev Bx_b8_7:MBox:=boxL w3h
theorem y3t {n0:Int}{l1:List (Ty.den TCmd)}{n2 n3:Int}{l4:List (Ty.den TMr)}{l5:List (Ty.den TU)}{n6 n7 n8 n9 n10 n11:Int}{l12:List (Ty.den TB)}{n13 n14 n15 n16:Int}{l17:List (Ty.den TCmd)}{n18 n19 n20:Int}{l21:List (Ty.den TB)}{n22 n23 n24 n25 n26 n27 n28:Int}{l29:List (Ty.den TB)}{n30:Int}{l31:List (Ty.den TMr)}{l32:List (Ty.den TU)}{n33 n34 n35:Int}(g0:0≤n3)(g1:n2=(l1.length:Int))(h0:(n3<n2))(h1:(m3a [.n n9,.n n10,.n n11,.l TB l12,.n n13,.n n25,.n (Prod.fst (List.getD l1 (Int.toNat n3) (Ty.dflt TCmd))),.n (Prod.snd (List.getD l1 (Int.toNat n3) (Ty.dflt TCmd))),.l TMr l4,.l TU l5,.n n6,.n n7,.n n8])=(some (0,[.n n26,.n n27,.n n28,.l TB l29,.n n30,.l TMr l31,.l TU l32,.n n33,.n n34,.n n35]))):(l3u [.k 0,.n n0,.l TCmd l1,.n n2,.n n3,.l TMr l4,.l TU l5,.n n6,.n n7,.n n8,.n n9,.n n10,.n n11,.l TB l12,.n n13,.n n14,.n n15,.n n16,.l TCmd l17,.n n18,.n n19,.n n20,.l TB l21,.n n22,.n n23,.n n24,.n n25]).sel=some (Step.go [.k 0,.n n0,.l TCmd l1,.n n2,.n (IntKind.wrap .i64 (n3+(1:Int))),.l TMr l4,.l TU l5,.n n6,.n n7,.n n8,.n n26,.n n27,.n n28,.l TB l29,.n n30,.n n14,.n n15,.n n16,.l TCmd l17,.n n18,.n n19,.n n20,.l TB l21,.n n22,.n n23,.n n24,.n n25]):=sP [1]<|sT (dt h0)<|sTo (c:=(inR n3 (List.length l1)))<|sP [1]<|sA h1<|sP [1,1,1]<|sL
theorem y3v {n0:Int}{l1:List (Ty.den TCmd)}{n2 n3:Int}{l4:List (Ty.den TMr)}{l5:List (Ty.den TU)}{n6 n7 n8 n9 n10 n11:Int}{l12:List (Ty.den TB)}{n13 n14 n15 n16:Int}{l17:List (Ty.den TCmd)}{n18 n19 n20:Int}{l21:List (Ty.den TB)}{n22 n23 n24 n25:Int}(g0:0≤n3)(g1:n2=(l1.length:Int))(h0:(¬n3<n2)):(l3u [.k 0,.n n0,.l TCmd l1,.n n2,.n n3,.l TMr l4,.l TU l5,.n n6,.n n7,.n n8,.n n9,.n n10,.n n11,.l TB l12,.n n13,.n n14,.n n15,.n n16,.l TCmd l17,.n n18,.n n19,.n n20,.l TB l21,.n n22,.n n23,.n n24,.n n25]).sel=some (Step.stop 0 [.n n0,.l TMr l4,.l TU l5,.n n6,.n n7,.n n8,.n n9,.n n10,.n n11,.l TB l12,.n n13,.n n14,.n n15,.n n16,.l TCmd l17,.n n18,.n n19,.n n20,.l TB l21,.n n22,.n n23,.n n24,.n n25]):=sP [1]<|sF (df h0)<|sP [1]<|sL
def S_b8:BSh:={args:=[.ptr 0 0,stV 0,ipV 5],blks:=[msB 9],log:=[],outs:=[(.tup [stV 0,ouV 5],[msB 7])]}
def ev_b8:List Dat→Tree (Nat×List Dat):=evF x3j 8 (lsM [(7,Bx_b8_7)] 1) S_b8
theorem e_b8: ∃op,IsF ev_b8 8 S_b8 op:=bxF m3d (lsE (lsC (h3g w3h) (atF) lsZ))
def i4n:OpA:=opF e_b8
theorem h4v {n0 n1 n2:Int}{l3:List (Ty.den TB)}{n4 n5 n6 n7:Int}{l8:List (Ty.den TCmd)}{l9:List (Ty.den TMr)}{l10:List (Ty.den TU)}{n11 n12 n13 n14 n15 n16:Int}{l17:List (Ty.den TB)}{n18:Int}{l19:List (Ty.den TMr)}{l20:List (Ty.den TU)}{n21 n22 n23 n24:Int}{l25:List (Ty.den TMr)}{l26:List (Ty.den TU)}{n27 n28 n29 n30 n31 n32:Int}{l33:List (Ty.den TB)}{n34 n35 n36 n37:Int}{l38:List (Ty.den TCmd)}{n39 n40 n41:Int}{l42:List (Ty.den TB)}{n43 n44 n45 n46 n47 n48 n49 n50 n51 n52 n53:Int}{l54:List (Ty.den TB)}{n55:Int}{l56:List (Ty.den TMr)}{l57:List (Ty.den TU)}{n58 n59 n60 n61 n62:Int}{l63:List (Ty.den TMr)}{l64:List (Ty.den TU)}{n65 n66 n67:Int}(h0:(j3l [.n n0,.n n1,.n n2,.l TB l3,.n n4,.l TMr l9,.l TU l10,.n n11,.n n12,.n n13])=(some (0,[.n n14,.n n15,.n n16,.l TB l17,.n n18,.l TMr l19,.l TU l20,.n n21,.n n22,.n n23])))(h1:((decide ((0:Int)≤imin (↑(List.length l8):Int) (8:Int))&&decide (imin (↑(List.length l8):Int) (8:Int)≤(↑(List.length l8):Int)))=true))(h2:((true&&decide ((0:Int)≤imin (↑(List.length l8):Int) (8:Int)))=true))(h3:(v3c [.k 0,.n n15,.l TCmd (List.take (Int.toNat (imin (↑(List.length l8):Int) (8:Int))) l8),.n (↑(List.length (List.take (Int.toNat (imin (↑(List.length l8):Int) (8:Int))) l8)):Int),.n (0:Int),.l TMr l9,.l TU l10,.n n11,.n n12,.n n13,.n n14,.n n15,.n n16,.l TB l17,.n n18,.n n5,.n n6,.n n7,.l TCmd l8,.n (0:Int),.n (0:Int),.n (0:Int),.l TB (List.replicate 64 (0:Int)),.n (0:Int),.n (0:Int),.n (0:Int),.n (iand IntKind.u64 n5 n13)])=(some (0,[.n n24,.l TMr l25,.l TU l26,.n n27,.n n28,.n n29,.n n30,.n n31,.n n32,.l TB l33,.n n34,.n n35,.n n36,.n n37,.l TCmd l38,.n n39,.n n40,.n n41,.l TB l42,.n n43,.n n44,.n n45,.n n46])))(h4:(x3k [.l TMr l25,.n n46])=(some (0,[.n n47,.n n48])))(h5:(w3u [.l TMr l25,.n n46])=(some (0,[.n n49,.n n50])))(h6:(w3s [.n n30,.n n31,.n n32,.l TB l33,.n n34,.n n24,.n n47,.n n49,.l TMr l25,.l TU l26,.n n27,.n n28,.n n29])=(some (0,[.n n51,.n n52,.n n53,.l TB l54,.n n55,.l TMr l56,.l TU l57,.n n58,.n n59,.n n60])))(h7:(x3f [.n n51,.n n52,.n n53,.l TB l54,.n n55,.n n35,.n n36,.n n37,.l TCmd l38,.n n47,.l TMr l25,.l TU l26,.n n27,.n n28,.n n29])=(some (0,[.n n61,.n n62,.l TMr l63,.l TU l64,.n n65,.n n66,.n n67]))):i4n [.n n0,.n n1,.n n2,.l TB l3,.n n4,.n n5,.n n6,.n n7,.l TCmd l8,.l TMr l9,.l TU l10,.n n11,.n n12,.n n13]=some ((0,[.n n51,.n n52,.n n53,.l TB l54,.n n55,.n n61,.n n62,.l TMr l25,.l TU l26,.n n27,.n n28,.n n29])):=h3c e_b8 (sP [0,1]<|sA h0<|sP [1,1,1]<|sT h1<|sT h2<|sA h3<|sP [1,1]<|sA h4<|sP [1,1,1]<|sA h5<|sP [1,1,1]<|sA h6<|sP [1,1,1]<|sA h7<|sP [1,1,1,1]<|sL)
def cs_b8:FuncId→Option a0q:=e1c 8 [S_b8.k i4n] x3j
theorem h4j:CsOk Tryz.prog cs_b8:=csA1 m3d e_b8
abbrev TInp:Ty:=.pair (.int .u64) (.pair (.int .u32) (.pair (.int .u32) (.sl TCmd)))
def R_4_9:LSh:={K:=0,log:=[],ins:=[(sh 87 [(1,.imm TInp 0),(5,.ptr 0 0),(7,.ptr 1 0),(9,.ptr 2 0),(10,.ptr 3 0),(11,.int .i64 1)],[msB 2,mB 7,stB 9,stB 14])],nils:=[],outs:=[(.exit 0,sh 87 [],[]),(.ret,sh 87 [(4,.bool 0)],[])],cv:=[]}
def i4v:List Dat→Tree Step:=evL cs_b8 4 9 ls0 R_4_9
theorem j4u: ∃op,IsL i4v 4 9 R_4_9 op:=bxL h4j (LsOk.none _ _ _)
def i4y:OpA:=opL j4u
theorem j4i (env:List Dat):i4y env=a0b i4v FU env:=h3i j4u env
abbrev Bx_4_9:MBox:=boxL j4u
theorem j4n {l0:List (Ty.den TInp)}{n1:Int}{l2:List (Ty.den TMr)}{l3:List (Ty.den TU)}{n4 n5 n6:Int}{l7:List (Ty.den TI)}{l8:List (Ty.den TQr)}{n9 n10 n11:Int}{l12:List (Ty.den TB)}{n13 n14 n15 n16:Int}{l17:List (Ty.den TB)}{n18:Int}{b19:Bool}(g0:0≤n1)(h0:(n1<(↑(List.length l0):Int)))(h1:((↑(List.length (Prod.snd (Prod.snd (Prod.snd (List.getD l0 (Int.toNat n1) (Ty.dflt TInp)))))):Int)>(100:Int)))(h2:(p3f [])=(some (0,[.b b19]))):(i4v [.k 0,.l TInp l0,.n n1,.l TMr l2,.l TU l3,.n n4,.n n5,.n n6,.l TI l7,.l TQr l8,.n n9,.n n10,.n n11,.l TB l12,.n n13,.n n14,.n n15,.n n16,.l TB l17,.n n18]).sel=some (Step.stop 1 [.b b19]):=sP [1]<|sT (dt h0)<|sTo (c:=(inR n1 (List.length l0)))<|sT (dt h1)<|sP [1]<|sA h2<|sP [1,1,1]<|sL
theorem j4m {l0:List (Ty.den TInp)}{n1:Int}{l2:List (Ty.den TMr)}{l3:List (Ty.den TU)}{n4 n5 n6:Int}{l7:List (Ty.den TI)}{l8:List (Ty.den TQr)}{n9 n10 n11:Int}{l12:List (Ty.den TB)}{n13 n14 n15 n16:Int}{l17:List (Ty.den TB)}{n18 n19 n20 n21:Int}{l22:List (Ty.den TB)}{n23 n24 n25:Int}{l26:List (Ty.den TMr)}{l27:List (Ty.den TU)}{n28 n29 n30 n31 n32 n33:Int}{l34:List (Ty.den TB)}{n35 n36 n37:Int}{l38:List (Ty.den TI)}{l39:List (Ty.den TQr)}{b40:Bool}{l41:List (Ty.den TMr)}{l42:List (Ty.den TU)}{n43 n44 n45:Int}(g0:0≤n1)(h0:(n1<(↑(List.length l0):Int)))(h1:(¬(↑(List.length (Prod.snd (Prod.snd (Prod.snd (List.getD l0 (Int.toNat n1) (Ty.dflt TInp)))))):Int)>(100:Int)))(h2:(i4n [.n n9,.n n10,.n n11,.l TB l12,.n n13,.n (Prod.fst (List.getD l0 (Int.toNat n1) (Ty.dflt TInp))),.n (Prod.fst (Prod.snd (List.getD l0 (Int.toNat n1) (Ty.dflt TInp)))),.n (Prod.fst (Prod.snd (Prod.snd (List.getD l0 (Int.toNat n1) (Ty.dflt TInp))))),.l TCmd (Prod.snd (Prod.snd (Prod.snd (List.getD l0 (Int.toNat n1) (Ty.dflt TInp))))),.l TMr l2,.l TU l3,.n n4,.n n5,.n n6])=(some (0,[.n n19,.n n20,.n n21,.l TB l22,.n n23,.n n24,.n n25,.l TMr l26,.l TU l27,.n n28,.n n29,.n n30])))(h3:(w3r [.n n14,.n n15,.n n16,.l TB l17,.n n18,.n (Prod.fst (List.getD l0 (Int.toNat n1) (Ty.dflt TInp))),.n (Prod.fst (Prod.snd (List.getD l0 (Int.toNat n1) (Ty.dflt TInp)))),.n (Prod.fst (Prod.snd (Prod.snd (List.getD l0 (Int.toNat n1) (Ty.dflt TInp))))),.l TCmd (Prod.snd (Prod.snd (Prod.snd (List.getD l0 (Int.toNat n1) (Ty.dflt TInp))))),.l TI l7,.l TQr l8])=(some (0,[.n n31,.n n32,.n n33,.l TB l34,.n n35,.n n36,.n n37,.l TI l38,.l TQr l39])))(h4:((n19==n31&&(n20==n32&&(n21==n33&&(eqL TB l22 l34&&(n23==n35&&true)))))=true))(h5:((n24==n36&&(n25==n37&&true))=true))(h6:(l3t [.n n19,.n n20,.n n21,.l TB l22,.n n23,.l TMr l2,.l TU l3,.n n4,.n n5,.n n6])=(some (0,[.b b40,.l TMr l41,.l TU l42,.n n43,.n n44,.n n45])))(h7:(b40=true)):(i4v [.k 0,.l TInp l0,.n n1,.l TMr l2,.l TU l3,.n n4,.n n5,.n n6,.l TI l7,.l TQr l8,.n n9,.n n10,.n n11,.l TB l12,.n n13,.n n14,.n n15,.n n16,.l TB l17,.n n18]).sel=some (Step.go [.k 0,.l TInp l0,.n (IntKind.wrap .i64 (n1+(1:Int))),.l TMr l2,.l TU l3,.n n4,.n n5,.n n6,.l TI l7,.l TQr l8,.n n19,.n n20,.n n21,.l TB l22,.n n23,.n n31,.n n32,.n n33,.l TB l34,.n n35]):=sP [1]<|sT (dt h0)<|sTo (c:=(inR n1 (List.length l0)))<|sF (df h1)<|sTo (c:=(inR n1 (List.length l0)))<|sP [1]<|sA h2<|sP [1,1,1]<|sTo (c:=(inR n1 (List.length l0)))<|sP [1]<|sA h3<|sP [1,1,1]<|sF (nt h4)<|sF (nt h5)<|sP [1]<|sA h6<|sP [1,1]<|sF (nt h7)<|sP [1]<|sL
theorem j4k {l0:List (Ty.den TInp)}{n1:Int}{l2:List (Ty.den TMr)}{l3:List (Ty.den TU)}{n4 n5 n6:Int}{l7:List (Ty.den TI)}{l8:List (Ty.den TQr)}{n9 n10 n11:Int}{l12:List (Ty.den TB)}{n13 n14 n15 n16:Int}{l17:List (Ty.den TB)}{n18:Int}(g0:0≤n1)(h0:(¬n1<(↑(List.length l0):Int))):(i4v [.k 0,.l TInp l0,.n n1,.l TMr l2,.l TU l3,.n n4,.n n5,.n n6,.l TI l7,.l TQr l8,.n n9,.n n10,.n n11,.l TB l12,.n n13,.n n14,.n n15,.n n16,.l TB l17,.n n18]).sel=some (Step.stop 0 []):=sP [1]<|sF (df h0)<|sP [1]<|sL
def i4z:List Dat→Tree Bool:=evW cs_b8 4 (lsM [(9,Bx_4_9)] 0) [laV 0,.imm TInp 4]
theorem W4_law (env:List Dat)(h:(i4z env).sel=some true){w:World}{aa:Array Value}(ha:LRel R0 (b0k w) (instL [laV 0,.imm TInp 4] env) aa):
  Calls Tryz.prog 4 aa w fun e w'=>e=.returned (.bool true)∧Below w.heap.size w w':=evW_law h4j (lsE (lsC (h3g j4u) (atF) lsZ)) env h ha
theorem j4s {l0:List (Ty.den TS)}{l1 l2:List (Ty.den TPt)}{l3:List (Ty.den TRt)}{l4:List (Ty.den TInp)}{n5:Int}{b6:Bool}(h0:(n2d [.l TS l0,.l TPt l1,.l TPt l2,.l TRt l3,.n (400:Int)])=(some (0,[.n n5])))(h1:(n5>(400:Int)))(h2:(p3f [])=(some (0,[.b b6]))):(i4z [.l TS l0,.l TPt l1,.l TPt l2,.l TRt l3,.l TInp l4]).sel=some (b6):=sP [1]<|sA h0<|sP [1,1]<|sT (dt h1)<|sP [1,1,1,1,1]<|sA h2<|sP [1,1]<|sL
theorem j4v {l0:List (Ty.den TS)}{l1 l2:List (Ty.den TPt)}{l3:List (Ty.den TRt)}{l4:List (Ty.den TInp)}{n5 n6:Int}{l7:List (Ty.den TMr)}{l8:List (Ty.den TU)}{n9 n10 n11:Int}{b12:Bool}(h0:(n2d [.l TS l0,.l TPt l1,.l TPt l2,.l TRt l3,.n (400:Int)])=(some (0,[.n n5])))(h1:(¬n5>(400:Int)))(h2:(m3h [.l TS l0,.l TPt l1,.l TPt l2,.l TRt l3])=(some (0,[.n n6,.l TMr l7,.l TU l8,.n n9,.n n10,.n n11])))(h3:(n6=(0:Int)))(h4:((↑(List.length l4):Int)>(60:Int)))(h5:(p3f [])=(some (0,[.b b12]))):(i4z [.l TS l0,.l TPt l1,.l TPt l2,.l TRt l3,.l TInp l4]).sel=some (b12):=sP [1]<|sA h0<|sP [1,1]<|sF (df h1)<|sP [1]<|sA h2<|sP [1,1]<|sT (bt h3)<|sP [1,0]<|sT (dt h4)<|sP [1]<|sA h5<|sP [1,1]<|sL
theorem j4o {l0:List (Ty.den TS)}{l1 l2:List (Ty.den TPt)}{l3:List (Ty.den TRt)}{l4:List (Ty.den TInp)}{n5 n6:Int}{l7:List (Ty.den TMr)}{l8:List (Ty.den TU)}{n9 n10 n11 n12:Int}{l13:List (Ty.den TI)}{l14:List (Ty.den TQr)}{b15:Bool}(h0:(n2d [.l TS l0,.l TPt l1,.l TPt l2,.l TRt l3,.n (400:Int)])=(some (0,[.n n5])))(h1:(¬n5>(400:Int)))(h2:(m3h [.l TS l0,.l TPt l1,.l TPt l2,.l TRt l3])=(some (0,[.n n6,.l TMr l7,.l TU l8,.n n9,.n n10,.n n11])))(h3:(n6=(0:Int)))(h4:(¬(↑(List.length l4):Int)>(60:Int)))(h5:(p3o [.l TS l0,.l TPt l1,.l TPt l2,.l TRt l3])=(some (0,[.n n12,.l TI l13,.l TQr l14])))(h6:(n12=(0:Int)))(h7:(i4y [.k 0,.l TInp l4,.n (0:Int),.l TMr l7,.l TU l8,.n n9,.n n10,.n n11,.l TI l13,.l TQr l14,.n (0:Int),.n (0:Int),.n (0:Int),.l TB (List.replicate 64 (0:Int)),.n (0:Int),.n (0:Int),.n (0:Int),.n (0:Int),.l TB (List.replicate 64 (0:Int)),.n (0:Int)])=(some (0,[])))(h8:(p3f [])=(some (0,[.b b15]))):(i4z [.l TS l0,.l TPt l1,.l TPt l2,.l TRt l3,.l TInp l4]).sel=some (b15):=sP [1]<|sA h0<|sP [1,1]<|sF (df h1)<|sP [1]<|sA h2<|sP [1,1]<|sT (bt h3)<|sP [1,0]<|sF (df h4)<|sP [1]<|sA h5<|sP [1,1]<|sF (bnf h6)<|sA h7<|sP [1,1]<|sA h8<|sP [1,1]<|sL
theorem j4q {l0:List (Ty.den TS)}{l1 l2:List (Ty.den TPt)}{l3:List (Ty.den TRt)}{l4:List (Ty.den TInp)}{n5 n6:Int}{l7:List (Ty.den TMr)}{l8:List (Ty.den TU)}{n9 n10 n11 n12:Int}{l13:List (Ty.den TI)}{l14:List (Ty.den TQr)}{b15:Bool}(h0:(n2d [.l TS l0,.l TPt l1,.l TPt l2,.l TRt l3,.n (400:Int)])=(some (0,[.n n5])))(h1:(¬n5>(400:Int)))(h2:(m3h [.l TS l0,.l TPt l1,.l TPt l2,.l TRt l3])=(some (0,[.n n6,.l TMr l7,.l TU l8,.n n9,.n n10,.n n11])))(h3:(n6=(0:Int)))(h4:(¬(↑(List.length l4):Int)>(60:Int)))(h5:(p3o [.l TS l0,.l TPt l1,.l TPt l2,.l TRt l3])=(some (0,[.n n12,.l TI l13,.l TQr l14])))(h6:(n12=(0:Int)))(h7:(i4y [.k 0,.l TInp l4,.n (0:Int),.l TMr l7,.l TU l8,.n n9,.n n10,.n n11,.l TI l13,.l TQr l14,.n (0:Int),.n (0:Int),.n (0:Int),.l TB (List.replicate 64 (0:Int)),.n (0:Int),.n (0:Int),.n (0:Int),.n (0:Int),.l TB (List.replicate 64 (0:Int)),.n (0:Int)])=(some (1,[.b b15]))):(i4z [.l TS l0,.l TPt l1,.l TPt l2,.l TRt l3,.l TInp l4]).sel=some (b15):=sP [1]<|sA h0<|sP [1,1]<|sF (df h1)<|sP [1]<|sA h2<|sP [1,1]<|sT (bt h3)<|sP [1,0]<|sF (df h4)<|sP [1]<|sA h5<|sP [1,1]<|sF (bnf h6)<|sA h7<|sP [0,1]<|sL
theorem j4p {l0:List (Ty.den TS)}{l1 l2:List (Ty.den TPt)}{l3:List (Ty.den TRt)}{l4:List (Ty.den TInp)}{n5 n6:Int}{b7:Bool}(h0:(n2d [.l TS l0,.l TPt l1,.l TPt l2,.l TRt l3,.n (400:Int)])=(some (0,[.n n5])))(h1:(¬n5>(400:Int)))(h2:(m3h [.l TS l0,.l TPt l1,.l TPt l2,.l TRt l3])=(some (1,[.n n6])))(h3:(¬n6=(0:Int)))(h4:(p3f [])=(some (0,[.b b7]))):(i4z [.l TS l0,.l TPt l1,.l TPt l2,.l TRt l3,.l TInp l4]).sel=some (b7):=sP [1]<|sA h0<|sP [1,1]<|sF (df h1)<|sP [1]<|sA h2<|sP [0,1,1]<|sF (bf h3)<|sP [0,1,1,1,1,1]<|sA h4<|sP [1,1]<|sL
theorem j3p {w:Nat}{X Y:BitVec w}:X&&&Y=0#w↔ ∀j,j<w→X.getLsbD j=true→Y.getLsbD j=false:=by
 constructor
 ·intro h j hj hx
  have:=congrArg (fun z=>BitVec.getLsbD z j) h
  simp only[BitVec.getLsbD_and,BitVec.getLsbD_zero]at this
  rw[hx,Bool.true_and]at this
  exact this
 ·intro h
  exact and0 fun k hk h1 h2=>by rw[h k hk h1]at h2;cases h2
structure WH (a:LS)(b c:LP)(r:LR):Prop where
 g:WG a b c r
 lb: ∀k,k<b.length→ptS b (k:Int)<(a.length:Int)
 lc: ∀k,k<c.length→ptS c (k:Int)<(a.length:Int)
theorem wh_of {a:LS}{b c:LP}{r:LR}(h:(ckA a b c r).1=0):WH a b c r:=by
 have g:=wg_of h
 obtain⟨hm,hw⟩:=(e4s a b c r).1 h
 have h:=hm
 unfold mayL at h
 rw[Bool.and_eq_true]at h
 have h:=h.2
 simp only[Bool.and_eq_true]at h
 obtain⟨h5,h6,-,-⟩:=h
 have key: ∀l:LP,(List.range' 0 l.length).all (inAt (secs l) (a.length:Int))=true→ ∀k,k<l.length→ptS l (k:Int)<(a.length:Int):=fun l hl k hk=>by
  have q:=o1g (List.all_eq_true.1 hl k (List.mem_range'_1.2 (by omega)))
  rw[f0i l hk]at q
  unfold ptS
  rw[Int.toNat_natCast]
  exact q.2
 exact⟨g,key b h5,key c h6⟩
def occB (a:LS)(O:B64):B64:=O&&&firB a.length
theorem k3q (x:Int){j:Nat}(hj:j<64):(s1o 0#64 x).getLsbD j=decide ((j:Int)=x):=by rw[i3e _ _ hj,BitVec.getLsbD_zero,Bool.false_or]
theorem c4f {O:B64}{x:Int}:clr O x=true↔O.getLsbD x.toNat=false:=by unfold clr;cases O.getLsbD x.toNat<;>simp
theorem sec0 {a:LS}(la:a.length≤64)(O:B64){x:Int}(h0:0≤x)(h1:x<(a.length:Int)):s1o 0#64 x&&&occB a O=0#64↔clr O x=true:=by
 rw[j3p,c4f]
 constructor
 ·intro h
  have:=h x.toNat (by omega) (by rw[k3q x (by omega)];exact dt (by omega))
  unfold occB at this
  rw[BitVec.getLsbD_and,y0i la,dt (show x.toNat<a.length by omega),Bool.and_true]at this
  exact this
 ·intro h j hj hx
  rw[k3q x hj,decide_eq_true_eq]at hx
  unfold occB
  rw[BitVec.getLsbD_and,show j=x.toNat by omega,h];rfl
def selM (f:Nat→Bool):Nat→B64
 |0=>0#64
 |k+1=>bif f k then s1o (selM f k) (k:Int)else selM f k
theorem j3e (f:Nat→Bool): ∀m,m≤64→ ∀j,j<64→(selM f m).getLsbD j=(decide (j<m)&&f j)
 |0,_,j,_=>by simp[selM]
 |m+1,hm,j,hj=>by
  unfold selM
  have ih:=j3e f m (by omega) j hj
  by_cases e:j=m
  ·subst e
   rw[dt (show j<j+1 by omega),Bool.true_and]
   cases h:f j with
   |true=>rw[cond_true,i3e _ _ hj,dt rfl,Bool.or_true]
   |false=>rw[cond_false,ih,df (Nat.lt_irrefl j)];rfl
  ·have e2:decide (j<m+1)=decide (j<m):=by rw[Bool.eq_iff_iff];simp;omega
   rw[e2]
   cases h:f m with
   |true=>rw[cond_true,i3e _ _ hj,ih,df (show¬(j:Int)=(m:Int) by omega),Bool.or_false]
   |false=>rw[cond_false,ih]
def movB (r:LR)(P:P32)(i:Nat):P32:=(f32 r false i&&&P)|||(f32 r true i&&& ~~~P)
theorem l3e {r:LR}{P:P32}{i j:Nat}(hj:j<32):(movB r P i).getLsbD j=true↔ ∃d∈ndsE (rN r i),f1 d=(j:Int)∧turn P d=true:=by
 unfold movB
 rw[BitVec.getLsbD_or,Bool.or_eq_true,BitVec.getLsbD_and,BitVec.getLsbD_and,BitVec.getLsbD_not,dt hj,Bool.true_and,Bool.and_eq_true,Bool.and_eq_true,h3o hj,h3o hj,Bool.not_eq_true']
 constructor
 ·rintro(⟨⟨d,h1,h2,h3⟩,hp⟩|⟨⟨d,h1,h2,h3⟩,hp⟩)
  ·exact⟨d,h1,h2,by unfold turn;rw[h2,Int.toNat_natCast,hp,h3];rfl⟩
  ·exact⟨d,h1,h2,by unfold turn;rw[h2,Int.toNat_natCast,hp,h3];rfl⟩
 ·rintro⟨d,h1,h2,h3⟩
  unfold turn at h3
  rw[h2,Int.toNat_natCast]at h3
  cases hp:P.getLsbD j with
  |true=>
   rw[hp]at h3
   cases hg:g2 d with
   |true=>rw[hg]at h3;cases h3
   |false=>exact .inl ⟨⟨d,h1,h2,hg⟩,rfl⟩
  |false=>
   rw[hp]at h3
   cases hg:g2 d with
   |true=>exact .inr ⟨⟨d,h1,h2,hg⟩,rfl⟩
   |false=>rw[hg]at h3;cases h3
def liB (b:LP)(M:B64):B64:=acc M (fun p=>s1o 0#64 (ptS b (p:Int))) b.length
theorem v3f {b:LP}{M:B64}{j:Nat}(hj:j<64):(liB b M).getLsbD j=true↔ ∃p,p<b.length∧M.getLsbD p=true∧ptS b (p:Int)=(j:Int):=by
 unfold liB
 rw[i3c]
 constructor
 ·rintro⟨p,h1,h2,h3⟩
  rw[k3q _ hj,decide_eq_true_eq]at h3
  exact⟨p,h1,h2,h3.symm⟩
 ·rintro⟨p,h1,h2,h3⟩
  exact⟨p,h1,h2,by rw[k3q _ hj];exact dt h3.symm⟩
theorem needd0 {r:LR}{L:B64}(n:Nat)(hn:n<32):r3d r L (n:Int)=(acc L (f32 r false) r.length|||acc L (f32 r true) r.length).getLsbD n:=by
 rw[Bool.eq_iff_iff,BitVec.getLsbD_or,Bool.or_eq_true,i3c,i3c]
 unfold r3d
 rw[List.any_eq_true]
 constructor
 ·rintro⟨i,hi,h⟩
  rw[Bool.and_eq_true,List.any_eq_true]at h
  obtain⟨h1,d,hd,h2⟩:=h
  rw[List.mem_range'_1]at hi
  rw[decide_eq_true_eq]at h2
  cases hg:g2 d with
  |false=>exact .inl ⟨i,by omega,h1,(h3o hn).2 ⟨d,hd,h2,hg⟩⟩
  |true=>exact .inr ⟨i,by omega,h1,(h3o hn).2 ⟨d,hd,h2,hg⟩⟩
 ·rintro(⟨i,hi,h1,h2⟩|⟨i,hi,h1,h2⟩)
  ·obtain⟨d,k1,k2,k3⟩:=(h3o hn).1 h2
   exact⟨i,List.mem_range'_1.2 (by omega),by rw[h1,Bool.true_and,List.any_eq_true];exact⟨d,k1,dt k2⟩⟩
  ·obtain⟨d,k1,k2,k3⟩:=(h3o hn).1 h2
   exact⟨i,List.mem_range'_1.2 (by omega),by rw[h1,Bool.true_and,List.any_eq_true];exact⟨d,k1,dt k2⟩⟩
section
variable {a:LS} {b c:LP} {r:LR} (w:WH a b c r) (O:B64)
include w
theorem free0 {i:Nat}(hi:i<r.length):fT r i&&&occB a O=0#64↔h3t r O i=true:=by
 have la:=w.g.w.la
 rw[j3p]
 unfold h3t
 rw[List.all_eq_true]
 constructor
 ·intro h x hx
  obtain⟨q1,q2⟩:=w.g.w.tr i hi x hx
  rw[c4f]
  have:=h x.toNat (by omega) (by rw[fT_bit (by omega),Int.toNat_of_nonneg q1];exact hx)
  unfold occB at this
  rw[BitVec.getLsbD_and,y0i la,dt (show x.toNat<a.length by omega),Bool.and_true]at this
  exact this
 ·intro h j hj hx
  rw[fT_bit hj]at hx
  have:=c4f.1 (h _ hx)
  unfold occB
  rw[BitVec.getLsbD_and]
  rw[Int.toNat_natCast]at this
  rw[this];rfl
theorem ent0 {i:Nat}(hi:i<r.length):s1o 0#64 (p0 (rN r i))&&&occB a O=0#64↔clr O (p0 (rN r i))=true:=by
 have hp:=(w3v w.g.w hi).1
 have hm:p0 (rN r i)∈trk (rN r i):=by
  unfold p0 trk
  rw[List.getD_eq_getElem?_getD,List.getElem?_eq_getElem hp]
  exact List.mem_append_left _ (List.getElem_mem hp)
 obtain⟨q1,q2⟩:=w.g.w.tr i hi _ hm
 exact sec0 w.g.w.la O q1 q2
theorem ahead0 {i:Nat}(hi:i<r.length):s1o 0#64 (ptS c (eN (rN r i)))&&&occB a O=0#64↔clr O (ptS c (eN (rN r i)))=true:=by
 obtain⟨⟨⟨k1,k2⟩,-,-,-⟩,-⟩:=w.g.w.all i hi
 obtain⟨k,hk⟩: ∃k:Nat,eN (rN r i)=k:=⟨_,(Int.toNat_of_nonneg k1).symm⟩
 have k2:eN (rN r i)<(c.length:Int):=k2
 rw[hk]
 exact sec0 w.g.w.la O (w.g.lc k (by omega)).1 (w.lc k (by omega))
theorem lies0 {p:Nat}(hp:p<b.length):s1o 0#64 (ptS b (p:Int))&&&occB a O=0#64↔clr O (ptS b (p:Int))=true:=sec0 w.g.w.la O (w.g.lb p hp).1 (w.lb p hp)
theorem nd_in {i:Nat}(hi:i<r.length){d:Ty.den TNd}(hd:d∈ndsE (rN r i)):0≤f1 d∧(f1 d).toNat<b.length∧(f1 d).toNat<32:=by
 have:=w.g.w.pt i hi d hd
 have:=w.g.w.lb
 have h1:0≤f1 d:=by omega
 have h2:f1 d<(b.length:Int):=by omega
 exact⟨h1,by omega,by omega⟩
theorem stuck0 (P:P32){i:Nat}(hi:i<r.length):liB b ((movB r P i).setWidth 64)&&&occB a O=0#64↔(ndsE (rN r i)).any (stuck b O P)=false:=by
 have la:=w.g.w.la
 have lb:=w.g.w.lb
 rw[j3p,i4r]
 constructor
 ·intro h d hd
  obtain⟨q1,q2,q3⟩:=nd_in w hi hd
  unfold stuck
  cases ht:turn P d with
  |false=>rfl
  |true=>
   rw[Bool.true_and,Bool.not_eq_false',c4f]
   have e1:((f1 d).toNat:Int)=f1 d:=Int.toNat_of_nonneg q1
   obtain⟨k1,k2⟩:=w.g.lb _ q2
   have k3:=w.lb _ q2
   rw[e1]at k1 k2 k3
   have:=h (ptS b (f1 d)).toNat (by omega) ((v3f (by omega)).2 ⟨_,q2,?_,by rw[e1,Int.toNat_of_nonneg k1]⟩)
   ·unfold occB at this
    rw[BitVec.getLsbD_and,y0i la,dt (show(ptS b (f1 d)).toNat<a.length by omega),Bool.and_true]at this
    exact this
   ·rw[BitVec.getLsbD_setWidth,dt (show(f1 d).toNat<64 by omega),Bool.true_and]
    exact(l3e q3).2 ⟨d,hd,e1.symm,ht⟩
 ·intro h j hj hx
  obtain⟨p,h1,h2,h3⟩:=(v3f hj).1 hx
  rw[BitVec.getLsbD_setWidth,Bool.and_eq_true]at h2
  obtain⟨d,k1,k2,k3⟩:=(l3e (by omega)).1 h2.2
  have:=h d k1
  unfold stuck at this
  rw[k3,Bool.true_and,Bool.not_eq_false',c4f,k2,h3,Int.toNat_natCast]at this
  unfold occB
  rw[BitVec.getLsbD_and,this];rfl
theorem det0 (nm rv:P32){i:Nat}(hi:i<r.length):(f32 r false i&&& ~~~(nm&&& ~~~rv)=0#32∧f32 r true i&&& ~~~(rv&&& ~~~nm)=0#32)↔(ndsE (rN r i)).any (i3r nm rv)=false:=by
 rw[j3p,j3p,i4r]
 have nb: ∀X:P32,∀j,j<32→(~~~X).getLsbD j= !X.getLsbD j:=fun X j hj=>by rw[BitVec.getLsbD_not,dt hj,Bool.true_and]
 constructor
 ·rintro⟨h1,h2⟩ d hd
  obtain⟨q1,q2,q3⟩:=nd_in w hi hd
  have e1:((f1 d).toNat:Int)=f1 d:=Int.toNat_of_nonneg q1
  unfold i3r
  cases hg:g2 d with
  |true=>rw[cond_true];have:=h2 (f1 d).toNat q3 ((h3o q3).2 ⟨d,hd,e1.symm,hg⟩);rw[nb _ _ q3]at this;exact this
  |false=>rw[cond_false];have:=h1 (f1 d).toNat q3 ((h3o q3).2 ⟨d,hd,e1.symm,hg⟩);rw[nb _ _ q3]at this;exact this
 ·intro h
  refine⟨fun j hj hx=> ?_,fun j hj hx=> ?_⟩
  ·obtain⟨d,k1,k2,k3⟩:=(h3o hj).1 hx
   have:=h d k1
   unfold i3r at this
   rw[k3,cond_false,k2,Int.toNat_natCast]at this
   rw[nb _ _ hj];exact this
  ·obtain⟨d,k1,k2,k3⟩:=(h3o hj).1 hx
   have:=h d k1
   unfold i3r at this
   rw[k3,cond_true,k2,Int.toNat_natCast]at this
   rw[nb _ _ hj];exact this
theorem setP_x (P:P32){i:Nat}(hi:i<r.length):setP (ndsE (rN r i)) P=P^^^movB r P i:=by
 have n32:=j4r w.g hi
 have hn:=(w3v w.g.w hi).2.2
 apply BitVec.eq_of_getLsbD_eq
 intro j hj
 rw[BitVec.getLsbD_xor]
 by_cases e: ∀d∈ndsE (rN r i),(f1 d).toNat≠j
 ·rw[x3b _ P hj (fun d hd=>(n32 d hd).1) e]
  have:(movB r P i).getLsbD j=false:=by
   cases h:(movB r P i).getLsbD j with
   |false=>rfl
   |true=>
    obtain⟨d,k1,k2,-⟩:=(l3e hj).1 h
    exact absurd (by rw[k2,Int.toNat_natCast]) (e d k1)
  rw[this];simp
 ·obtain⟨d,hd⟩:=Classical.not_forall.1 e
  obtain⟨hd,q⟩:=Classical.not_imp.1 hd
  have q:(f1 d).toNat=j:=Classical.not_not.1 q
  have q1:=n32 d hd
  have hs:=j4b _ P n32 hn d hd
  rw[q]at hs
  rw[hs]
  have hm:(movB r P i).getLsbD j=turn P d:=by
   rw[Bool.eq_iff_iff,l3e hj]
   constructor
   ·rintro⟨x,k1,k2,k3⟩
    have e1:f1 x=f1 d:=by omega
    have e2:=inj_nd hn k1 hd e1
    unfold turn at k3⊢
    rw[e1,e2]at k3
    exact k3
   ·intro h;exact⟨d,hd,by omega,h⟩
  rw[hm]
  unfold turn
  rw[q]
  cases P.getLsbD j<;>cases g2 d<;>rfl
theorem may0 {s:SQ}(hL: ∀j,j<64→s.L.getLsbD j=true→j<r.length){i:Nat}(hi:i<r.length)(hl:s.L.getLsbD i=false):j3s b r O s i=true↔(fC b r i&&&s.L=0#64∧(fT r i|||liB b ((movB r s.P i).setWidth 64))&&&occB a O=0#64):=by
 have lr:=w.g.w.lr
 have h1:fC b r i&&&s.L=0#64↔o3g b r s.L i=false:=by
  rw[j3p,d4h]
  constructor
  ·intro h k hk hl
   cases hc:clN b r i k with
   |false=>rfl
   |true=>rw[h k (by omega) (by rw[p3e w.g.w hi hk];exact hc)]at hl;cases hl
  ·intro h j hj hx
   cases hl:s.L.getLsbD j with
   |false=>rfl
   |true=>
    have hk:=hL j hj hl
    rw[p3e w.g.w hi hk,h j hk hl]at hx
    cases hx
 have h2:(fT r i|||liB b ((movB r s.P i).setWidth 64))&&&occB a O=0#64↔(h3t r O i=true∧(ndsE (rN r i)).any (stuck b O s.P)=false):=by
  rw[←free0 w O hi,←stuck0 w O s.P hi,j3p,j3p,j3p]
  constructor
  ·intro h
   exact⟨fun j hj hx=>h j hj (by rw[BitVec.getLsbD_or,hx];rfl),fun j hj hx=>h j hj (by rw[BitVec.getLsbD_or,hx,Bool.or_true])⟩
  ·rintro⟨h1,h2⟩ j hj hx
   rw[BitVec.getLsbD_or,Bool.or_eq_true]at hx
   exact hx.elim (h1 j hj) (h2 j hj)
 rw[h1,h2]
 unfold j3s
 rw[hl]
 simp only[Bool.not_false,Bool.true_and,Bool.and_eq_true,Bool.not_eq_true']
theorem right0 {s:SQ}(hL: ∀j,j<64→s.L.getLsbD j=true→j<r.length):(List.range' 0 r.length).all (okJ b r s)=true↔(acc s.L (fC b r) r.length&&&s.L=0#64∧acc s.L (f32 r false) r.length&&&s.P=0#32∧acc s.L (f32 r true) r.length&&& ~~~s.P=0#32):=by
 have lr:=w.g.w.lr
 rw[all_t]
 constructor
 ·intro h
  refine⟨j3p.2 fun j hj hx=> ?_,j3p.2 fun j hj hx=> ?_,j3p.2 fun j hj hx=> ?_⟩
  ·obtain⟨i,h1,h2,h3⟩:=(i3c _ _ _ _).1 hx
   cases hl:s.L.getLsbD j with
   |false=>rfl
   |true=>
    have hk:=hL j hj hl
    rw[p3e w.g.w h1 hk,(i4m.1 (h i h1) h2).1 j hk hl]at h3
    cases h3
  ·obtain⟨i,h1,h2,h3⟩:=(i3c _ _ _ _).1 hx
   obtain⟨d,k1,k2,k3⟩:=(h3o hj).1 h3
   have:=(i4m.1 (h i h1) h2).2 d k1
   rw[k2,Int.toNat_natCast,k3]at this
   exact this
  ·obtain⟨i,h1,h2,h3⟩:=(i3c _ _ _ _).1 hx
   obtain⟨d,k1,k2,k3⟩:=(h3o hj).1 h3
   have:=(i4m.1 (h i h1) h2).2 d k1
   rw[k2,Int.toNat_natCast,k3]at this
   rw[BitVec.getLsbD_not,this];simp
 ·rintro⟨h1,h2,h3⟩ i hi
  rw[i4m]
  intro hl
  refine⟨fun k hk hlk=> ?_,fun d hd=> ?_⟩
  ·cases hc:clN b r i k with
   |false=>rfl
   |true=>rw[j3p.1 h1 k (by omega) ((i3c _ _ _ _).2 ⟨i,hi,hl,by rw[p3e w.g.w hi hk];exact hc⟩)]at hlk;cases hlk
  ·obtain⟨q1,q2,q3⟩:=nd_in w hi hd
   have e1:((f1 d).toNat:Int)=f1 d:=Int.toNat_of_nonneg q1
   cases hg:g2 d with
   |false=>exact j3p.1 h2 _ q3 ((i3c _ _ _ _).2 ⟨i,hi,hl,(h3o q3).2 ⟨d,hd,e1.symm,hg⟩⟩)
   |true=>
    have:=j3p.1 h3 _ q3 ((i3c _ _ _ _).2 ⟨i,hi,hl,(h3o q3).2 ⟨d,hd,e1.symm,hg⟩⟩)
    rw[BitVec.getLsbD_not,dt q3,Bool.true_and,Bool.not_eq_false']at this
    exact this
end
structure IV (r:LR)(u:B64)(s:SQ):Prop where
 L: ∀j,j<64→s.L.getLsbD j=true→j<r.length
 U:s.U=u
 uL: ∀j,j<64→u.getLsbD j=true→s.L.getLsbD j=true
 C: ∀j,j<64→s.C.getLsbD j=true→s.L.getLsbD j=true
 len:s.T.length=64
 T: ∀n,n<64→0≤s.T.getD n 0
theorem j4e {r:LR}(hr:r.length≤64)(k:Nat){s:SQ}(hT: ∀n,n<64→0≤s.T.getD n 0):IV r (j3k r.length k s).U (j3k r.length k s):=by
 refine⟨fun j hj h=> ?_,rfl,fun j hj h=> ?_,fun j hj h=> ?_,i3t ..,fun n hn=> ?_⟩
 ·have h:(s.L&&&firB r.length).getLsbD j=true:=h
  rw[BitVec.getLsbD_and,y0i hr,Bool.and_eq_true,decide_eq_true_eq]at h
  exact h.2
 ·have h:((s.L&&&s.U)&&&firB r.length).getLsbD j=true:=h
  show(s.L&&&firB r.length).getLsbD j=true
  rw[BitVec.getLsbD_and,BitVec.getLsbD_and,Bool.and_eq_true,Bool.and_eq_true]at h
  rw[BitVec.getLsbD_and,h.1.1,h.2];rfl
 ·have h:((s.L&&&s.C)&&&firB r.length).getLsbD j=true:=h
  show(s.L&&&firB r.length).getLsbD j=true
  rw[BitVec.getLsbD_and,BitVec.getLsbD_and,Bool.and_eq_true,Bool.and_eq_true]at h
  rw[BitVec.getLsbD_and,h.1.1,h.2];rfl
 ·show 0≤(tmL _ _ _).getD n 0
  rw[m3m _ _ _ hn]
  cases decide (n<r.length)&&(s.L&&&s.C).getLsbD n with
  |false=>exact Int.le_refl _
  |true=>
   have:=hT n hn
   show 0≤imin _ 20
   unfold imin
   by_cases q:20<s.T.getD n 0
   ·rw[if_pos q];omega
   ·rw[if_neg q];exact this
theorem iv_cmd {b c:LP}{r:LR}(hr:r.length≤64)(O:B64){u:B64}{s:SQ}(h:IV r u s)(x:Ty.den TCmd):IV r u (cmdC b c r O s x):=by
 have key: ∀f:SQ→Nat→SQ,(∀i,i<r.length→IV r u (f s i))→ ∀n:Int,IV r u (bif decide (n≥0)&&decide (n<(r.length:Int))then f s n.toNat else s):=fun f hf n=>by
  refine h3f (fun hn=> ?_) (fun _=>h)
  rw[Bool.and_eq_true,decide_eq_true_eq,decide_eq_true_eq]at hn
  exact hf _ (by omega)
 unfold cmdC
 refine h3f (fun _=>key (setI b r O) (fun i hi=> ?_) _) fun _=>h3f (fun _=>key (canI c r O) (fun i hi=> ?_) _) fun _=>h3f (fun _=> ?_) fun _=>h
 ·unfold setI
  refine h3f (fun _=> ?_) fun _=>h
  have up: ∀j,j<64→s.L.getLsbD j=true→(putB s.L i true).getLsbD j=true:=fun j hj hl=>by
   rw[h3v _ _ _ hj,hl];cases decide (j=i)<;>rfl
  exact⟨fun j hj hl=>(i4t hj hl).elim (fun e=>by rw[e];exact hi) (h.L j hj),h.U,fun j hj hu=>up j hj (h.uL j hj hu),fun j hj hu=>up j hj (h.C j hj hu),h.len,h.T⟩
 ·unfold canI
  refine h3f (fun hw=> ?_) fun _=>h
  unfold wtgI at hw
  simp only[BitVec.getLsbD_and,Bool.and_eq_true]at hw
  have len2: ∀v v2:Int,((s.T.set i v).set i v2).length=64:=fun v v2=>by rw[set_len,set_len];exact h.len
  have at1: ∀v:Int,0≤v→ ∀n,n<64→0≤(s.T.set i v).getD n 0:=fun v hv n hn=>by
   rw[x3w _ _ (by rw[h.len];exact hn)]
   cases decide (i=n)with
   |true=>exact hv
   |false=>exact h.T n hn
  refine⟨h.L,h.U,h.uL,fun j hj hc=>(i4t hj hc).elim (fun e=>by rw[e];exact hw.1.1) (h.C j hj),?_,fun n hn=> ?_⟩
  ·exact h3f (p:=fun l:List Int=>l.length=64) (fun _=>by rw[set_len];exact h.len) (fun _=>len2 0 20)
  ·refine h3f (p:=fun l:List Int=>0≤l.getD n 0) (fun _=>at1 0 (by omega) n hn) (fun _=> ?_)
   rw[show(s.T.set i 0).set i 20=s.T.set i 20 from List.set_set ..]
   exact at1 20 (by omega) n hn
 ·unfold movC
  exact h3f (fun _=>h3f (fun _=>⟨h.L,h.U,h.uL,h.C,h.len,h.T⟩) fun _=>h) fun _=>h
theorem s3j {b c:LP}{r:LR}(hr:r.length≤64)(O:B64){u:B64}: ∀(l:LC) {s:SQ},IV r u s→IV r u (h3h b c r O s l)
 |[],_,h=>h
 |x::l,s,h=>s3j hr O l (iv_cmd hr O h x)
def relA (r:LR)(O u:B64)(s:SQ)(i:Nat):Bool:=s.L.getLsbD i&&(bif u.getLsbD i then h3t r O i else(clr O (p0 (rN r i))&&(s.C.getLsbD i&&(!decide (s.T.getD i 0>0)&&h3t r O i))))
def decA (r:LR)(O u:B64)(s:SQ)(i:Nat):Bool:=s.L.getLsbD i&&(!u.getLsbD i&&(clr O (p0 (rN r i))&&(s.C.getLsbD i&&decide (s.T.getD i 0>0))))
theorem d4x (r:LR)(O u:B64)(s:SQ){i:Nat}(hi:i<64)(hT:s.T.length=64):(goI r O u s i).L.getLsbD i=(s.L.getLsbD i&& !relA r O u s i)∧(goI r O u s i).U.getLsbD i=((s.L.getLsbD i&&(!u.getLsbD i&& !clr O (p0 (rN r i))))||(s.U.getLsbD i&& !relA r O u s i))∧(goI r O u s i).C.getLsbD i=(s.C.getLsbD i&& !relA r O u s i)∧
  (goI r O u s i).T.getD i 0=(bif relA r O u s i then 0 else bif decA r O u s i then IntKind.wrap .u8 (s.T.getD i 0-1)else s.T.getD i 0):=by
 have e1: ∀(X:B64) (v:Bool),(putB X i v).getLsbD i=v:=fun X v=>j4d hi
 have e2: ∀v:Int,(s.T.set i v).getD i 0=v:=fun v=>by rw[x3w _ _ (by rw[hT];exact hi),dt rfl];rfl
 unfold goI relA decA relI
 cases h1:s.L.getLsbD i with
 |false=>simp[h1]
 |true=>
  cases h2:u.getLsbD i with
  |true=>
   cases h3:h3t r O i with
   |true=>simp only[Bool.not_true,cond_false,cond_true,Bool.true_and,e1,e2,Bool.and_false,Bool.false_and,Bool.or_false,Bool.false_or,and_self]
   |false=>simp only[Bool.not_true,cond_false,cond_true,Bool.true_and,h1,Bool.and_false,Bool.false_and,Bool.or_false,Bool.not_false,Bool.and_true,Bool.false_or,and_self]
  |false=>
   cases h4:clr O (p0 (rN r i))with
   |false=>simp only[Bool.not_true,cond_false,cond_true,Bool.true_and,h1,Bool.and_false,Bool.false_and,Bool.or_false,Bool.not_false,Bool.and_true,Bool.false_or,and_self,e1,Bool.true_or]
   |true=>
    cases h5:s.C.getLsbD i with
    |false=>simp only[Bool.not_true,cond_false,cond_true,Bool.true_and,h1,h5,Bool.and_false,Bool.false_and,Bool.or_false,Bool.not_false,Bool.and_true,Bool.false_or,and_self]
    |true=>
     cases h6:decide (s.T.getD i 0>0)with
     |true=>simp only[Bool.not_true,cond_false,cond_true,Bool.true_and,h1,h5,Bool.and_false,Bool.false_and,Bool.or_false,Bool.not_false,Bool.and_true,Bool.false_or,and_self,e2]
     |false=>
      cases h3:h3t r O i with
      |true=>simp only[Bool.not_true,cond_false,cond_true,Bool.true_and,e1,e2,Bool.and_false,Bool.false_and,Bool.or_false,Bool.not_false,Bool.and_true,Bool.false_or,and_self]
      |false=>simp only[Bool.not_true,cond_false,cond_true,Bool.true_and,h1,h5,Bool.and_false,Bool.false_and,Bool.or_false,Bool.not_false,Bool.and_true,Bool.false_or,and_self]
def atEq (s t:SQ)(j:Nat):Prop:=s.L.getLsbD j=t.L.getLsbD j∧s.U.getLsbD j=t.U.getLsbD j∧s.C.getLsbD j=t.C.getLsbD j∧s.T.getD j 0=t.T.getD j 0
theorem goI_ne (r:LR)(O u:B64)(s:SQ){i j:Nat}(hj:j<64)(hij:j≠i):atEq (goI r O u s i) s j:=by
 have e1: ∀(X:B64) (v:Bool),(putB X i v).getLsbD j=X.getLsbD j:=fun X v=>i4u hj hij
 have e2: ∀v:Int,(s.T.set i v).getD j 0=s.T.getD j 0:=fun v=>by
  rw[List.getD_eq_getElem?_getD,List.getElem?_set_ne (fun q=>hij q.symm),←List.getD_eq_getElem?_getD]
 have id:atEq s s j:=⟨rfl,rfl,rfl,rfl⟩
 have rel:atEq (relI r O s i) s j:=by
  unfold relI
  exact h3f (p:=fun y=>atEq y s j) (fun _=>⟨e1 _ _,e1 _ _,e1 _ _,e2 _⟩) fun _=>id
 unfold goI
 exact h3f (p:=fun y=>atEq y s j) (fun _=>id) fun _=>h3f (p:=fun y=>atEq y s j) (fun _=>rel) fun _=>h3f (p:=fun y=>atEq y s j) (fun _=>⟨rfl,e1 _ _,rfl,rfl⟩) fun _=>h3f (p:=fun y=>atEq y s j) (fun _=>id) fun _=>h3f (p:=fun y=>atEq y s j) (fun _=>⟨rfl,rfl,rfl,e2 _⟩) fun _=>rel
theorem goI_len (r:LR)(O u:B64)(s:SQ)(i:Nat)(h:s.T.length=64):(goI r O u s i).T.length=64:=by
 have e2: ∀v:Int,(s.T.set i v).length=64:=fun v=>by rw[set_len];exact h
 have rel:(relI r O s i).T.length=64:=by
  unfold relI
  exact h3f (p:=fun y:SQ=>y.T.length=64) (fun _=>e2 _) fun _=>h
 unfold goI
 exact h3f (p:=fun y:SQ=>y.T.length=64) (fun _=>h) fun _=>h3f (p:=fun y:SQ=>y.T.length=64) (fun _=>rel) fun _=>h3f (p:=fun y:SQ=>y.T.length=64) (fun _=>h) fun _=>h3f (p:=fun y:SQ=>y.T.length=64) (fun _=>h) fun _=>h3f (p:=fun y:SQ=>y.T.length=64) (fun _=>e2 _) fun _=>rel
theorem goI_P (r:LR)(O u:B64)(s:SQ)(i:Nat):(goI r O u s i).P=s.P:=by
 have rel:(relI r O s i).P=s.P:=by
  unfold relI
  exact h3f (p:=fun y:SQ=>y.P=s.P) (fun _=>rfl) fun _=>rfl
 unfold goI
 exact h3f (p:=fun y:SQ=>y.P=s.P) (fun _=>rfl) fun _=>h3f (p:=fun y:SQ=>y.P=s.P) (fun _=>rel) fun _=>h3f (p:=fun y:SQ=>y.P=s.P) (fun _=>rfl) fun _=>h3f (p:=fun y:SQ=>y.P=s.P) (fun _=>rfl) fun _=>h3f (p:=fun y:SQ=>y.P=s.P) (fun _=>rfl) fun _=>rel
theorem a4k (r:LR)(O u:B64){s t:SQ}{i:Nat}(hi:i<64)(hs:s.T.length=64)(ht:t.T.length=64)(h:atEq s t i):atEq (goI r O u s i) (goI r O u t i) i:=by
 obtain⟨a1,a2,a3,a4⟩:=d4x r O u s hi hs
 obtain⟨b1,b2,b3,b4⟩:=d4x r O u t hi ht
 obtain⟨h1,h2,h3,h4⟩:=h
 have er:relA r O u s i=relA r O u t i:=by unfold relA;rw[h1,h3,h4]
 have ed:decA r O u s i=decA r O u t i:=by unfold decA;rw[h1,h3,h4]
 exact⟨by rw[a1,b1,h1,er],by rw[a2,b2,h1,h2,er],by rw[a3,b3,h3,er],by rw[a4,b4,er,ed,h4]⟩
theorem j4g (r:LR)(O u:B64)(s:SQ)(hs:s.T.length=64): ∀k,k≤64→(goN r O u s k).T.length=64∧(goN r O u s k).P=s.P∧ ∀j,j<64→(j<k→atEq (goN r O u s k) (goI r O u s j) j)∧(k≤j→atEq (goN r O u s k) s j)
 |0,_=>⟨hs,rfl,fun j _=>⟨fun h=>absurd h (Nat.not_lt_zero _),fun _=>⟨rfl,rfl,rfl,rfl⟩⟩⟩
 |k+1,hk=>by
  obtain⟨h1,h2,h3⟩:=j4g r O u s hs k (by omega)
  have tr: ∀{x y z:SQ} {j:Nat},atEq x y j→atEq y z j→atEq x z j:=fun p q=>⟨p.1.trans q.1,p.2.1.trans q.2.1,p.2.2.1.trans q.2.2.1,p.2.2.2.trans q.2.2.2⟩
  refine⟨goI_len r O u _ k h1,(goI_P r O u _ k).trans h2,fun j hj=>⟨fun hjk=> ?_,fun hjk=> ?_⟩⟩
  ·by_cases e:j=k
   ·subst e
    exact a4k r O u hj h1 hs ((h3 j hj).2 (Nat.le_refl _))
   ·exact tr (goI_ne r O u _ hj e) ((h3 j hj).1 (by omega))
  ·exact tr (goI_ne r O u _ hj (by omega)) ((h3 j hj).2 (by omega))
def dueB (s:SQ):B64:=selM (fun n=>decide (s.T.getD n 0=0)) 64
def relB (u f e d C:B64):B64:=(u&&&f)|||(((C&&&d)&&&f)&&& ~~~(u|||e))
def decB (u e d C:B64):B64:=C&&& ~~~((u|||e)|||d)
def timB (R D:B64)(T:List Int):List Int:=(List.range 64).map fun n=>bif R.getLsbD n then 0 else bif D.getLsbD n then IntKind.wrap .u8 (T.getD n 0-1)else T.getD n 0
theorem x3m (R D:B64)(T:List Int):(timB R D T).length=64:=by unfold timB;rw[List.length_map,List.length_range]
theorem b4i (R D:B64)(T:List Int){n:Nat}(h:n<64):(timB R D T).getD n 0=bif R.getLsbD n then 0 else bif D.getLsbD n then IntKind.wrap .u8 (T.getD n 0-1)else T.getD n 0:=by
 unfold timB
 rw[List.getD_eq_getElem?_getD,List.getElem?_map,List.getElem?_range h];rfl
def goB (u f e:B64)(s:SQ):SQ:=⟨s.L&&& ~~~relB u f e (dueB s) s.C,(s.L&&& ~~~relB u f e (dueB s) s.C)&&&(u|||e),s.C&&& ~~~relB u f e (dueB s) s.C,timB (relB u f e (dueB s) s.C) (decB u e (dueB s) s.C) s.T,s.P⟩
def h3u (r:LR)(O:B64):B64:=selM (h3t r O) r.length
def entM (r:LR)(O:B64):B64:=selM (fun i=> !clr O (p0 (rN r i))) r.length
def detM (r:LR)(nm rv:P32):B64:=selM (fun i=> !(ndsE (rN r i)).any (i3r nm rv)) r.length
theorem go_same {r:LR}(hr:r.length≤64)(O:B64){u:B64}{s:SQ}(h:IV r u s):goB u (h3u r O) (entM r O) s=goN r O u s r.length:=by
 obtain⟨k1,k2,k3⟩:=j4g r O u s h.len r.length hr
 have due: ∀j,j<64→(dueB s).getLsbD j=decide (s.T.getD j 0=0):=fun j hj=>by
  unfold dueB;rw[j3e _ _ (by omega) _ hj,dt hj,Bool.true_and]
 have nb: ∀X:B64,∀j,j<64→(~~~X).getLsbD j= !X.getLsbD j:=fun X j hj=>by rw[BitVec.getLsbD_not,dt hj,Bool.true_and]
 have fin: ∀j,j<64→atEq (goB u (h3u r O) (entM r O) s) (goN r O u s r.length) j:=fun j hj=>by
  have hf:(h3u r O).getLsbD j=(decide (j<r.length)&&h3t r O j):=j3e _ _ hr _ hj
  have he:(entM r O).getLsbD j=(decide (j<r.length)&& !clr O (p0 (rN r j))):=j3e _ _ hr _ hj
  have hT:=h.T j hj
  have eR:(relB u (h3u r O) (entM r O) (dueB s) s.C).getLsbD j=((u.getLsbD j&&(h3u r O).getLsbD j)||(((s.C.getLsbD j&&decide (s.T.getD j 0=0))&&(h3u r O).getLsbD j)&& !(u.getLsbD j||(entM r O).getLsbD j))):=by
   unfold relB
   rw[BitVec.getLsbD_or,BitVec.getLsbD_and,BitVec.getLsbD_and,BitVec.getLsbD_and,BitVec.getLsbD_and,nb _ _ hj,BitVec.getLsbD_or,due j hj]
  have eD:(decB u (entM r O) (dueB s) s.C).getLsbD j=(s.C.getLsbD j&& !((u.getLsbD j||(entM r O).getLsbD j)||decide (s.T.getD j 0=0))):=by
   unfold decB
   rw[BitVec.getLsbD_and,nb _ _ hj,BitVec.getLsbD_or,BitVec.getLsbD_or,due j hj]
  have aL:(goB u (h3u r O) (entM r O) s).L.getLsbD j=(s.L.getLsbD j&& !(relB u (h3u r O) (entM r O) (dueB s) s.C).getLsbD j):=by
   show(_&&& ~~~_:B64).getLsbD j=_
   rw[BitVec.getLsbD_and,nb _ _ hj]
  have aU:(goB u (h3u r O) (entM r O) s).U.getLsbD j=((s.L.getLsbD j&& !(relB u (h3u r O) (entM r O) (dueB s) s.C).getLsbD j)&&(u.getLsbD j||(entM r O).getLsbD j)):=by
   show((_&&& ~~~_)&&&(_|||_):B64).getLsbD j=_
   rw[BitVec.getLsbD_and,BitVec.getLsbD_and,nb _ _ hj,BitVec.getLsbD_or]
  have aC:(goB u (h3u r O) (entM r O) s).C.getLsbD j=(s.C.getLsbD j&& !(relB u (h3u r O) (entM r O) (dueB s) s.C).getLsbD j):=by
   show(_&&& ~~~_:B64).getLsbD j=_
   rw[BitVec.getLsbD_and,nb _ _ hj]
  have aT:(goB u (h3u r O) (entM r O) s).T.getD j 0=_:=b4i _ _ s.T hj
  have gt:decide (s.T.getD j 0>0)= !decide (s.T.getD j 0=0):=by rw[Bool.eq_iff_iff,decide_eq_true_eq,Bool.not_eq_true',decide_eq_false_iff_not];omega
  have hu:s.U.getLsbD j=u.getLsbD j:=by rw[h.U]
  rcases Nat.lt_or_ge j r.length with hjr|hjr
  ·rw[dt hjr,Bool.true_and]at hf he
   obtain⟨b1,b2,b3,b4⟩:=d4x r O u s hj h.len
   obtain⟨c1,c2,c3,c4⟩:=(k3 j hj).1 hjr
   rw[hf,he]at eR
   rw[he]at eD aU
   have q1:=h.uL j hj
   have q2:=h.C j hj
   have e1:relA r O u s j=(relB u (h3u r O) (entM r O) (dueB s) s.C).getLsbD j:=by
    rw[eR];unfold relA;rw[gt]
    generalize s.L.getLsbD j=xL at q1 q2⊢
    generalize s.C.getLsbD j=xC at q2⊢
    generalize u.getLsbD j=xu at q1⊢
    generalize decide (s.T.getD j 0=0)=xd
    generalize h3t r O j=xf
    generalize clr O (p0 (rN r j))=xe
    revert q1 q2
    cases xL<;>cases xC<;>cases xu<;>cases xd<;>cases xf<;>cases xe<;>simp
   have e2:decA r O u s j=(decB u (entM r O) (dueB s) s.C).getLsbD j:=by
    rw[eD];unfold decA;rw[gt]
    generalize s.L.getLsbD j=xL at q1 q2⊢
    generalize s.C.getLsbD j=xC at q2⊢
    generalize u.getLsbD j=xu at q1⊢
    generalize decide (s.T.getD j 0=0)=xd
    generalize clr O (p0 (rN r j))=xe
    revert q1 q2
    cases xL<;>cases xC<;>cases xu<;>cases xd<;>cases xe<;>simp
   refine⟨?_,?_,?_,?_⟩
   ·rw[aL,c1,b1,e1]
   ·rw[aU,c2,b2,hu,e1]
    have e3:=e1
    rw[eR]
    generalize s.L.getLsbD j=xL at q1 q2⊢
    generalize s.C.getLsbD j=xC at q2⊢
    generalize u.getLsbD j=xu at q1⊢
    generalize decide (s.T.getD j 0=0)=xd
    generalize h3t r O j=xf
    generalize clr O (p0 (rN r j))=xe
    revert q1 q2
    cases xL<;>cases xC<;>cases xu<;>cases xd<;>cases xf<;>cases xe<;>simp
   ·rw[aC,c3,b3,e1]
   ·rw[aT,c4,b4,e1,e2]
  ·rw[df (show¬j<r.length by omega),Bool.false_and]at hf he
   obtain⟨c1,c2,c3,c4⟩:=(k3 j hj).2 hjr
   have l0:s.L.getLsbD j=false:=by
    cases q:s.L.getLsbD j with
    |false=>rfl
    |true=>exact absurd (h.L j hj q) (by omega)
   have c0:s.C.getLsbD j=false:=by
    cases q:s.C.getLsbD j with
    |false=>rfl
    |true=>rw[h.C j hj q]at l0;cases l0
   have u0:u.getLsbD j=false:=by
    cases q:u.getLsbD j with
    |false=>rfl
    |true=>rw[h.uL j hj q]at l0;cases l0
   rw[u0,c0]at eR
   rw[c0]at eD
   refine⟨?_,?_,?_,?_⟩
   ·rw[aL,c1,l0];rfl
   ·rw[aU,c2,hu,l0,u0];rfl
   ·rw[aC,c3,c0];rfl
   ·rw[aT,c4,eR,eD];rfl
 have eL:(goB u (h3u r O) (entM r O) s).L=(goN r O u s r.length).L:=BitVec.eq_of_getLsbD_eq fun j hj=>(fin j hj).1
 have eU:(goB u (h3u r O) (entM r O) s).U=(goN r O u s r.length).U:=BitVec.eq_of_getLsbD_eq fun j hj=>(fin j hj).2.1
 have eC:(goB u (h3u r O) (entM r O) s).C=(goN r O u s r.length).C:=BitVec.eq_of_getLsbD_eq fun j hj=>(fin j hj).2.2.1
 have eT:(goB u (h3u r O) (entM r O) s).T=(goN r O u s r.length).T:=y3q (x3m ..) k1 fun n hn=>(fin n hn).2.2.2
 have eP:(goB u (h3u r O) (entM r O) s).P=(goN r O u s r.length).P:=k2.symm
 generalize goB u (h3u r O) (entM r O) s=x at eL eU eC eT eP
 generalize goN r O u s r.length=y at eL eU eC eT eP
 cases x;cases y
 simp only at eL eU eC eT eP
 rw[eL,eU,eC,eT,eP]
theorem r3o (r:LR)(O:B64)(nm rv:P32)(t:SQ): ∀k,k≤64→ ∀j,j<64→(outN r O nm rv t k).getLsbD j=(decide (j<k)&&proc r O nm rv t j)
 |0,_,j,_=>by simp[outN]
 |k+1,hk,j,hj=>by
  show(putB (outN r O nm rv t k) k (proc r O nm rv t k)).getLsbD j=_
  rw[h3v _ _ _ hj,r3o r O nm rv t k (by omega) j hj]
  by_cases e:j=k
  ·subst e;rw[dt rfl,dt (show j<j+1 by omega)];rfl
  ·have:decide (j<k)=decide (j<k+1):=by rw[Bool.eq_iff_iff];simp;omega
   rw[df e,this];rfl
theorem i4j {r:LR}(hr:r.length≤64)(O:B64)(nm rv:P32)(t:SQ):((t.L&&&h3u r O)&&&detM r nm rv)&&& ~~~(t.U|||t.C)=outN r O nm rv t r.length:=by
 apply BitVec.eq_of_getLsbD_eq
 intro j hj
 have hf:(h3u r O).getLsbD j=(decide (j<r.length)&&h3t r O j):=j3e _ _ hr _ hj
 have hd:(detM r nm rv).getLsbD j=(decide (j<r.length)&& !(ndsE (rN r j)).any (i3r nm rv)):=j3e _ _ hr _ hj
 rw[r3o r O nm rv t r.length hr j hj,BitVec.getLsbD_and,BitVec.getLsbD_and,BitVec.getLsbD_and,BitVec.getLsbD_not,BitVec.getLsbD_or,dt hj,hf,hd]
 unfold proc wtgI
 rw[BitVec.getLsbD_and,BitVec.getLsbD_and,BitVec.getLsbD_not,BitVec.getLsbD_not,dt hj]
 generalize t.L.getLsbD j=x1
 generalize t.U.getLsbD j=x2
 generalize t.C.getLsbD j=x3
 generalize decide (j<r.length)=x4
 generalize h3t r O j=x5
 generalize (ndsE (rN r j)).any (i3r nm rv)=x6
 cases x1<;>cases x2<;>cases x3<;>cases x4<;>cases x5<;>cases x6<;>rfl
theorem c4d (X:B64)(k:Nat)(hk:k<64):Bt.hasI (N X) k=X.getLsbD k:=by
 rw[←iandB X k]
 unfold Bt.hasI
 have e:ishr IntKind.u64 (N X) (k:Int)=N X/2^(k:Int).toNat:=by
  show(N X).fdiv (2^min (k:Int).toNat 64)=_
  rw[Nat.min_eq_left (by simp;omega),Int.fdiv_eq_ediv_of_nonneg _ (by exact Int.pow_nonneg (by omega))]
 rw[e];rfl
theorem l3o (X:B64): ∀k,k≤64→Bt.bitsTo (N X) k=(List.range k).filter fun i=>X.getLsbD i
 |0,_=>rfl
 |k+1,h=>by
  have ih:=l3o X k (by omega)
  rw[List.range_succ,List.filter_append]
  cases hb:X.getLsbD k with
  |true=>rw[Bt.bitsTo_hit (by rw[c4d X k (by omega)];exact hb),ih];simp[hb]
  |false=>rw[Bt.bitsTo_miss (by rw[c4d X k (by omega)];exact hb),ih];simp[hb]
def LB (X:B64)(k:Nat):List Int:=((List.range k).filter fun i=>X.getLsbD i).map fun(i:Nat)=>(i:Int)
theorem g4c (X:B64)(k:Nat):(LB X k).length≤k:=by
 unfold LB
 rw[List.length_map]
 exact Nat.le_trans (List.length_filter_le _ _) (by simp)
theorem LB_mem (X:B64)(n:Int):n∈LB X 64↔hasB X n=true:=by
 unfold LB hasB inN
 simp only[List.mem_map,List.mem_filter,List.mem_range,Bool.and_eq_true,decide_eq_true_eq]
 constructor
 ·rintro⟨i,⟨h1,h2⟩,rfl⟩
  exact⟨⟨by omega,by omega⟩,by simpa using h2⟩
 ·rintro⟨⟨h1,h2⟩,h3⟩
  exact⟨n.toNat,⟨by omega,h3⟩,by omega⟩
theorem d4b (X:B64)(k:Nat):(LB X k).Pairwise (· < ·):=by
 unfold LB
 rw[List.pairwise_map]
 refine List.Pairwise.imp ?_ ((List.pairwise_lt_range (n:=k)).filter _)
 intro a b h;exact_mod_cast h
theorem el19 (X:B64):l3r [.n (N X)]=some (0,[.l TI (LB X 64)]):=by
 rw[p3x]
 show some (0,[Dat.l TI (p3w (N X))])=_
 unfold p3w
 rw[l3o X 64 (by omega)];rfl
def gB (l:List Int)(n:Nat):B64:=BitVec.ofInt 64 (l.getD n 0)
def WfU (l:List Int):Prop:= ∀v∈l,0≤v∧v<18446744073709551616
theorem gB_N {l:List Int}(h:WfU l)(n:Nat):N (gB l n)=l.getD n 0:=by
 have:0≤l.getD n 0∧l.getD n 0<18446744073709551616:=by
  rw[List.getD_eq_getElem?_getD]
  cases hn:l[n]? with
  |none=>simp
  |some v=>exact h v (List.mem_of_getElem? hn)
 exact N_of this.1 (by have:=this.2;simpa using this)
theorem l3x: ∀{l:List Nat} (m:Nat),l.Pairwise (· < ·)→l.takeWhile (fun n=>decide (n<m))=l.filter (fun n=>decide (n<m))
 |[],m,_=>rfl
 |a::l,m,h=>by
  rw[List.pairwise_cons]at h
  by_cases ha:a<m
  ·simp[ha,l3x m h.2]
  ·simp only[List.takeWhile_cons,ha,decide_false,List.filter_cons,Bool.false_eq_true,if_false]
   symm
   rw[List.filter_eq_nil_iff]
   intro b hb
   have:=h.1 b hb
   simp;omega
def anyB (l:List Int)(X:B64):B64:=(((List.range 64).filter fun i=>X.getLsbD i).filter fun n=>decide (n<l.length)).foldl (fun a n=>a|||gB l n) 0#64
theorem w3w {l:List Int}(h:WfU l): ∀(ns:List Nat) (A:B64),ns.foldl (fun a n=>bits BinOp.or IntKind.u64 a (l.getD n 0)) (N A)=N (ns.foldl (fun a n=>a|||gB l n) A)
 |[],A=>rfl
 |n::ns,A=>by
  simp only[List.foldl_cons]
  rw[←w3w h ns,←gB_N h n,←h3r];rfl
theorem el28 {l:List Int}(h:WfU l)(X:B64):k3u [.l TU l,.n (N X)]=some (0,[.n (N (anyB l X))]):=by
 rw[p3t]
 have e1:m3z [.l TU l,.n (N X)]=some (0,[.n (Bt.anyI l (N X))]):=by
  show(match c0r TU TU l with|some l=>some (0,[Dat.n (Bt.anyI l (N X))])|none=>none)=_
  have:c0r TU TU (l:List (Ty.den TU))=some l:=d0b _
  rw[this]
 rw[e1]
 have:Bt.anyI l (N X)=N (anyB l X):=by
  unfold Bt.anyI Bt.orAll anyB
  rw[l3o X 64 (by omega),l3x l.length ((List.pairwise_lt_range (n:=64)).filter _)]
  exact w3w h _ 0#64
 rw[this]
theorem x3n (g:Nat→B64)(j:Nat): ∀(ns:List Nat) (A:B64),(ns.foldl (fun a n=>a|||g n) A).getLsbD j=(A.getLsbD j||ns.any fun n=>(g n).getLsbD j)
 |[],A=>by simp
 |n::ns,A=>by
  rw[List.foldl_cons,x3n g j ns,BitVec.getLsbD_or,List.any_cons,Bool.or_assoc]
theorem N0 {w:Nat}{X:BitVec w}:N X=0↔X=0#w:=by
 rw[show(0:Int)=N 0#w by unfold N;simp,N_eq]
theorem c4h (X:B64){k:Nat}(hk:k<64):(k:Int)∈LB X 64↔X.getLsbD k=true:=by rw[LB_mem,i3o X hk]
theorem LB_in {X:B64}{x:Int}(h:x∈LB X 64):0≤x∧x<64:=by
 unfold LB at h
 rw[List.mem_map]at h
 obtain⟨k,h1,rfl⟩:=h
 rw[List.mem_filter,List.mem_range]at h1
 omega
theorem o3q (X:B64):(LB X 64).Nodup:=(d4b X 64).imp fun h=>by omega
def updF (f:Int→Int→Int)(l:List Int)(T:List Int):List Int:=l.foldl (fun T x=>T.set x.toNat (f x (T.getD x.toNat 0))) T
theorem k3j (f:Int→Int→Int): ∀(l T:List Int),(updF f l T).length=T.length
 |[],T=>rfl
 |x::l,T=>by
  show(updF f l (T.set _ _)).length=_
  rw[k3j f l,List.length_set]
theorem m3k (f:Int→Int→Int)(l T:List Int){i:Nat}(hi:i<l.length):updF f (l.take (i+1)) T=(updF f (l.take i) T).set (l.getD i 0).toNat (f (l.getD i 0) ((updF f (l.take i) T).getD (l.getD i 0).toNat 0)):=by
 unfold updF
 rw[h1i l (0:Int) hi,List.foldl_append];rfl
theorem o3d (f:Int→Int→Int){n:Nat}: ∀(l T:List Int),l.Nodup→(∀x∈l,0≤x)→n<T.length→(updF f l T).getD n 0=bif decide ((n:Int)∈l)then f (n:Int) (T.getD n 0)else T.getD n 0
 |[],T,_,_,_=>by simp[updF]
 |x::l,T,hd,h0,hn=>by
  have hd':=List.nodup_cons.1 hd
  show(updF f l (T.set x.toNat (f x (T.getD x.toNat 0)))).getD n 0=_
  rw[o3d f l _ hd'.2 (fun y hy=>h0 y (List.mem_cons_of_mem _ hy)) (by rw[List.length_set];exact hn),x3w _ _ hn]
  have hx:=h0 x List.mem_cons_self
  by_cases e:x.toNat=n
  ·have e2:(n:Int)=x:=by omega
   rw[df (by rw[e2];exact hd'.1),dt e,dt (by rw[e2];exact List.mem_cons_self),e,e2];rfl
  ·have e2:decide ((n:Int)∈x::l)=decide ((n:Int)∈l):=by
    rw[Bool.eq_iff_iff,decide_eq_true_eq,decide_eq_true_eq,List.mem_cons]
    exact⟨fun q=>q.elim (fun q=>absurd q (by omega)) id,.inr⟩
   rw[df e,e2];rfl
abbrev bM (b c:LP)(r:LR):List (Ty.den TMr):=h3p c r (NL (tabB b r)) r.length
abbrev bU (b:LP):List Int:=k3a b b.length
theorem q3f (b c:LP)(r:LR):(bM b c r).length=r.length:=i3w ..
theorem bU_at (b:LP){i:Nat}(h:i<b.length):(bU b).getD i 0=N (s1o 0#64 (ptS b (i:Int))):=by
 unfold bU k3a ptS
 rw[List.getD_eq_getElem?_getD,List.getElem?_map,List.getElem?_range h,Int.toNat_natCast];rfl
theorem bU_wf (b:LP):WfU (bU b):=by
 intro v hv
 unfold bU k3a at hv
 rw[List.mem_map]at hv
 obtain⟨i,-,rfl⟩:=hv
 unfold N
 have:=(s1o 0#64 (Prod.snd (b.getD i (Ty.dflt TPt)))).isLt
 omega
section
variable {a:LS} {b c:LP} {r:LR}
theorem row1 {i:Nat}(h:i<r.length):(Prod.fst ((bM b c r).getD i (Ty.dflt TMr)):Int)=N (fT r i):=congrArg (fun x:Ty.den TMr=>(Prod.fst x:Int)) (k3e b c r h)
theorem row2 {i:Nat}(h:i<r.length):(Prod.fst (Prod.snd ((bM b c r).getD i (Ty.dflt TMr))):Int)=N (s1o 0#64 (p0 (rN r i))):=congrArg (fun x:Ty.den TMr=>(Prod.fst (Prod.snd x):Int)) (k3e b c r h)
theorem row3 {i:Nat}(h:i<r.length):(Prod.fst (Prod.snd (Prod.snd ((bM b c r).getD i (Ty.dflt TMr)))):Int)=N (s1o 0#64 (ptS c (eN (rN r i)))):=congrArg (fun x:Ty.den TMr=>(Prod.fst (Prod.snd (Prod.snd x)):Int)) (k3e b c r h)
theorem row4 {i:Nat}(h:i<r.length):(Prod.fst (Prod.snd (Prod.snd (Prod.snd ((bM b c r).getD i (Ty.dflt TMr))))):Int)=N (f32 r false i):=congrArg (fun x:Ty.den TMr=>(Prod.fst (Prod.snd (Prod.snd (Prod.snd x))):Int)) (k3e b c r h)
theorem row5 {i:Nat}(h:i<r.length):(Prod.fst (Prod.snd (Prod.snd (Prod.snd (Prod.snd ((bM b c r).getD i (Ty.dflt TMr)))))):Int)=N (f32 r true i):=congrArg (fun x:Ty.den TMr=>(Prod.fst (Prod.snd (Prod.snd (Prod.snd (Prod.snd x)))):Int)) (k3e b c r h)
theorem row6 {i:Nat}(h:i<r.length):(Prod.snd (Prod.snd (Prod.snd (Prod.snd (Prod.snd ((bM b c r).getD i (Ty.dflt TMr)))))):Int)=N (fC b r i):=congrArg (fun x:Ty.den TMr=>(Prod.snd (Prod.snd (Prod.snd (Prod.snd (Prod.snd x)))):Int)) (k3e b c r h)
end
theorem any_lie {b:LP}(hb:b.length≤32)(X:B64):k3u [.l TU (bU b),.n (N X)]=some (0,[.n (N (liB b X))]):=by
 rw[el28 (bU_wf b) X]
 have hl:(bU b).length=b.length:=m3c ..
 have:anyB (bU b) X=liB b X:=by
  apply BitVec.eq_of_getLsbD_eq
  intro j hj
  unfold anyB
  rw[x3n,BitVec.getLsbD_zero,Bool.false_or,Bool.eq_iff_iff,List.any_eq_true,v3f hj]
  have gw: ∀n,n<b.length→gB (bU b) n=s1o 0#64 (ptS b (n:Int)):=fun n hn=>N_inj ((gB_N (bU_wf b) n).trans (bU_at b hn))
  constructor
  ·rintro⟨n,h1,h2⟩
   rw[List.mem_filter,List.mem_filter,decide_eq_true_eq,hl]at h1
   rw[gw n h1.2,k3q _ hj,decide_eq_true_eq]at h2
   exact⟨n,h1.2,h1.1.2,h2.symm⟩
  ·rintro⟨n,h1,h2,h3⟩
   refine⟨n,?_,?_⟩
   ·rw[List.mem_filter,List.mem_filter,decide_eq_true_eq,hl,List.mem_range]
    exact⟨⟨by omega,h2⟩,h1⟩
   ·rw[gw n h1,k3q _ hj];exact dt h3.symm
 rw[this]
theorem h4s {f:Nat→Bool}{k:Nat}(h:f k=true):selM f (k+1)=s1o (selM f k) (k:Int):=by
 show(bif f k then _ else _)=_
 rw[h];rfl
theorem h4x {f:Nat→Bool}{k:Nat}(h:f k=false):selM f (k+1)=selM f k:=by
 show(bif f k then _ else _)=_
 rw[h];rfl
theorem new15 (a:LS)(b c:LP)(r:LR)(hs:okS a b c r):m3h [.l TS a,.l TPt b,.l TPt c,.l TRt r]=some (if(ckA a b c r).1=0 then(0,[.n 0,.l TMr (bM b c r),.l TU (bU b),.n (N (firB r.length)),.n (N ((firB b.length).setWidth 32)),.n (N (firB a.length))])else(1,[.n (ckA a b c r).1])):=by
 have e:=o28i a b c r hs
 unfold mkA at e
 by_cases h:(ckA a b c r).1=0
 ·rw[if_pos h]at e⊢
  have w:=wf_of h
  rw[Nat.min_eq_left w.lr,Nat.min_eq_left w.la,Nat.min_eq_left (show b.length≤64 by have:=w.lb;omega),n3i]at e
  exact e4w e rfl
 ·rw[if_neg h]at e⊢
  exact b4v e h
theorem due45 (s:SQ)(h:s.T.length=64):x3i [.l TB s.T]=some (0,[.n (N (dueB s))]):=by
 refine c4p ?_
 rw[v3s]
 have g1:((64:Nat):Int)=((List.length (α:=Ty.den TB) s.T:Nat):Int):=by rw[show List.length (α:=Ty.den TB) s.T=64 from h]
 rw[←g1]
 refine b0a (st:=j3c) (fun i=>[.k 0,.n (N (selM (fun n=>decide (s.T.getD n 0=0)) i)),.l TB s.T,.n ((64:Nat):Int),.n (i:Int)]) 64 (0,[.n (N (dueB s))]) (fun i hi=> ?_) (t3r (by omega) g1 (Int.lt_irrefl _)) FU (b1w (by omega))
 show _=some (Step.go [.k 0,.n (N (selM (fun n=>decide (s.T.getD n 0=0)) (i+1))),.l TB s.T,.n ((64:Nat):Int),.n ((i+1:Nat):Int)])
 rw[←w1n i (by omega)]
 by_cases q:s.T.getD i 0=0
 ·rw[h4s (f:=fun n=>decide (s.T.getD n 0=0)) (dt q)]
  exact u3w (by omega) g1 (Int.ofNat_lt.2 hi) q (k3x _ _)
 ·rw[h4x (f:=fun n=>decide (s.T.getD n 0=0)) (df q)]
  exact t3s (by omega) g1 (Int.ofNat_lt.2 hi) q
theorem h4d (X:B64)(i:Nat):s1o X (i:Int)=bif decide (i<64)then putB X i true else X:=by
 apply BitVec.eq_of_getLsbD_eq
 intro j hj
 rw[i3e _ _ hj]
 by_cases q:i<64
 ·rw[dt q,cond_true,h3v _ _ _ hj]
  by_cases e:j=i
  ·subst e;rw[dt rfl,dt rfl,Bool.or_true];rfl
  ·rw[df e,df (show¬(j:Int)=(i:Int) by omega),Bool.or_false];rfl
 ·rw[df q,cond_false,df (show¬(j:Int)=(i:Int) by omega),Bool.or_false]
theorem hasN {X:B64}{n:Int}(h:hasB X n=true): ∃i:Nat,n=i∧i<64∧X.getLsbD i=true:=by
 unfold hasB inN at h
 rw[Bool.and_eq_true,Bool.and_eq_true,decide_eq_true_eq,decide_eq_true_eq]at h
 exact⟨n.toNat,by omega,by omega,h.2⟩
theorem imin8 (n:Nat):imin (n:Int) 8=((min n 8:Nat):Int):=by
 unfold imin
 by_cases h:(8:Int)<(n:Int)
 ·rw[if_pos h,Nat.min_eq_right (by omega)];rfl
 ·rw[if_neg h,Nat.min_eq_left (by omega)]
section
variable {a:LS} {b c:LP} {r:LR} (w:WH a b c r) (O:B64)
include w
theorem tz22:x3k [.l TMr (bM b c r),.n (N (occB a O))]=some (0,[.n (N (h3u r O)),.n (N (occB a O))]):=by
 have lr:=w.g.w.lr
 have g1:((r.length:Nat):Int)=((List.length (α:=Ty.den TMr) (bM b c r):Nat):Int):=by rw[show List.length (α:=Ty.den TMr) (bM b c r)=r.length from q3f ..]
 refine a4t ?_
 rw[←g1,u3t]
 refine b0a (st:=j3h) (fun i=>[.k 0,.n (N (selM (h3t r O) i)),.l TMr (bM b c r),.n (r.length:Int),.n (i:Int),.n (N (occB a O))]) r.length (0,[.n (N (h3u r O)),.n (N (occB a O))]) (fun i hi=> ?_) (u3v (by omega) g1 (Int.lt_irrefl _)) FU (b1w (by omega))
 show _=some (Step.go [.k 0,.n (N (selM (h3t r O) (i+1))),.l TMr (bM b c r),.n (r.length:Int),.n ((i+1:Nat):Int),.n (N (occB a O))])
 rw[←w1n i (by omega)]
 cases q:((h3t r O)) i with
 |true=>
  rw[h4s (f:=(h3t r O)) q]
  exact u3k (by omega) g1 (Int.ofNat_lt.2 hi) (by rw[Int.toNat_natCast];erw[row1 hi];rw[u1v,N0];exact(free0 w O hi).2 q) (k3x _ _)
 |false=>
  rw[h4x (f:=(h3t r O)) q]
  exact u3s (by omega) g1 (Int.ofNat_lt.2 hi) (by rw[Int.toNat_natCast];erw[row1 hi];rw[u1v,N0,free0 w O hi,q];simp)
theorem tz23:w3u [.l TMr (bM b c r),.n (N (occB a O))]=some (0,[.n (N (entM r O)),.n (N (occB a O))]):=by
 have lr:=w.g.w.lr
 have g1:((r.length:Nat):Int)=((List.length (α:=Ty.den TMr) (bM b c r):Nat):Int):=by rw[show List.length (α:=Ty.den TMr) (bM b c r)=r.length from q3f ..]
 refine e4g ?_
 rw[←g1,t3w]
 refine b0a (st:=j3j) (fun i=>[.k 0,.n (N (selM (fun i=> !clr O (p0 (rN r i))) i)),.l TMr (bM b c r),.n (r.length:Int),.n (i:Int),.n (N (occB a O))]) r.length (0,[.n (N (entM r O)),.n (N (occB a O))]) (fun i hi=> ?_) (u3n (by omega) g1 (Int.lt_irrefl _)) FU (b1w (by omega))
 show _=some (Step.go [.k 0,.n (N (selM (fun i=> !clr O (p0 (rN r i))) (i+1))),.l TMr (bM b c r),.n (r.length:Int),.n ((i+1:Nat):Int),.n (N (occB a O))])
 rw[←w1n i (by omega)]
 cases q:((fun i=> !clr O (p0 (rN r i)))) i with
 |true=>
  rw[h4s (f:=(fun i=> !clr O (p0 (rN r i)))) q]
  exact s3r (by omega) g1 (Int.ofNat_lt.2 hi) (by rw[Int.toNat_natCast];erw[row2 hi];rw[u1v,N0,ent0 w O hi,m3r q];simp) (k3x _ _)
 |false=>
  rw[h4x (f:=(fun i=> !clr O (p0 (rN r i)))) q]
  exact u3g (by omega) g1 (Int.ofNat_lt.2 hi) (by rw[Int.toNat_natCast];erw[row2 hi];rw[u1v,N0];exact(ent0 w O hi).2 (r3l q))
theorem tz48 (nm rv:P32):x3e [.l TMr (bM b c r),.n (N (nm&&& ~~~rv)),.n (N (rv&&& ~~~nm))]=some (0,[.n (N (detM r nm rv)),.n (N (nm&&& ~~~rv)),.n (N (rv&&& ~~~nm))]):=by
 have lr:=w.g.w.lr
 have g1:((r.length:Nat):Int)=((List.length (α:=Ty.den TMr) (bM b c r):Nat):Int):=by rw[show List.length (α:=Ty.den TMr) (bM b c r)=r.length from q3f ..]
 refine z3q ?_
 rw[←g1,t3p]
 refine b0a (st:=i3l) (fun i=>[.k 0,.n (N (selM (fun i=> !(ndsE (rN r i)).any (i3r nm rv)) i)),.l TMr (bM b c r),.n (r.length:Int),.n (i:Int),.n (N (nm&&& ~~~rv)),.n (N (rv&&& ~~~nm))]) r.length (0,[.n (N (detM r nm rv)),.n (N (nm&&& ~~~rv)),.n (N (rv&&& ~~~nm))]) (fun i hi=> ?_) (u3e (by omega) g1 (Int.lt_irrefl _)) FU (b1w (by omega))
 show _=some (Step.go [.k 0,.n (N (selM (fun i=> !(ndsE (rN r i)).any (i3r nm rv)) (i+1))),.l TMr (bM b c r),.n (r.length:Int),.n ((i+1:Nat):Int),.n (N (nm&&& ~~~rv)),.n (N (rv&&& ~~~nm))])
 rw[←w1n i (by omega)]
 cases q:((fun i=> !(ndsE (rN r i)).any (i3r nm rv))) i with
 |true=>
  rw[h4s (f:=(fun i=> !(ndsE (rN r i)).any (i3r nm rv))) q]
  have d:=(det0 w nm rv hi).2 (m3r q)
  exact s3p (by omega) g1 (Int.ofNat_lt.2 hi) (by rw[Int.toNat_natCast];erw[row4 hi];rw[s1h,N0];exact d.1) (by rw[Int.toNat_natCast];erw[row5 hi];rw[s1h,N0];exact d.2) (k3x _ _)
 |false=>
  rw[h4x (f:=(fun i=> !(ndsE (rN r i)).any (i3r nm rv))) q]
  by_cases d1:f32 r false i&&& ~~~(nm&&& ~~~rv)=0#32
  ·have d2: ¬f32 r true i&&& ~~~(rv&&& ~~~nm)=0#32:=fun d2=>by
    have:=(det0 w nm rv hi).1 ⟨d1,d2⟩
    rw[r3l q]at this;cases this
   exact s3o (by omega) g1 (Int.ofNat_lt.2 hi) (by rw[Int.toNat_natCast];erw[row4 hi];rw[s1h,N0];exact d1) (by rw[Int.toNat_natCast];erw[row5 hi];rw[s1h,N0];exact d2)
  ·exact t3z (by omega) g1 (Int.ofNat_lt.2 hi) (by rw[Int.toNat_natCast];erw[row4 hi];rw[s1h,N0];exact d1)
theorem b10 (s:SQ):j3l [.n (N s.L),.n (N s.U),.n (N s.C),.l TB s.T,.n (N s.P),.l TMr (bM b c r),.l TU (bU b),.n (N (firB r.length)),.n (N ((firB b.length).setWidth 32)),.n (N (firB a.length))]=some (0,[.n (N (s.L&&&firB r.length)),.n (N ((s.L&&&s.U)&&&firB r.length)),.n (N ((s.L&&&s.C)&&&firB r.length)),.l TB (tmL (s.L&&&s.C) s.T r.length),.n (N (s.P&&&(firB b.length).setWidth 32)),.l TMr (bM b c r),.l TU (bU b),.n (N (firB r.length)),.n (N ((firB b.length).setWidth 32)),.n (N (firB a.length))]):=by
 have lr:=w.g.w.lr
 have e1:=el19 ((s.L&&&s.C)&&&firB r.length)
 have hl:=g4c ((s.L&&&s.C)&&&firB r.length) 64
 generalize hL:LB ((s.L&&&s.C)&&&firB r.length) 64=l at e1 hl
 have hin: ∀x∈l,0≤x∧x<64:=fun x hx=>LB_in (by rw[hL];exact hx)
 let f:Int→Int→Int:=fun x _=>imin (s.T.getD x.toNat 0) 20
 have hT:updF f l (List.replicate 64 0)=tmL (s.L&&&s.C) s.T r.length:=by
  refine y3q (by rw[k3j,List.length_replicate]) (i3t ..) fun n hn=> ?_
  rw[o3d f l _ (by rw[←hL];exact o3q _) (fun x hx=>(hin x hx).1) (by rw[List.length_replicate];exact hn),m3m _ _ _ hn]
  have e:decide ((n:Int)∈l)=(decide (n<r.length)&&(s.L&&&s.C).getLsbD n):=by
   rw[Bool.eq_iff_iff,decide_eq_true_eq,←hL,c4h _ hn,BitVec.getLsbD_and,y0i lr,Bool.and_comm]
  rw[e,j0x (List.replicate 64 (0:Int)) 0 (by rw[List.length_replicate];exact hn),List.getElem_replicate]
  show(bif _ then imin (s.T.getD (Int.toNat (n:Int)) 0) 20 else 0)=_
  rw[Int.toNat_natCast]
 have e2:o3k [.k 0,.n (l.length:Int),.n 0,.l TMr (bM b c r),.l TU (bU b),.n (N (firB r.length)),.n (N ((firB b.length).setWidth 32)),.n (N (firB a.length)),.n (N s.L),.n (N s.U),.n (N s.C),.l TB s.T,.n (N s.P),.n (0:Int),.n (0:Int),.n (0:Int),.l TB (List.replicate 64 (0:Int)),.n (0:Int),.n (N (s.L&&&firB r.length)),.n (N ((s.L&&&s.U)&&&firB r.length)),.n (N ((s.L&&&s.C)&&&firB r.length)),.l TB (List.replicate 64 (0:Int)),.n (N (s.P&&&(firB b.length).setWidth 32)),.l TI l]=some (0,[.l TMr (bM b c r),.l TU (bU b),.n (N (firB r.length)),.n (N ((firB b.length).setWidth 32)),.n (N (firB a.length)),.n (0:Int),.n (0:Int),.n (0:Int),.l TB (List.replicate 64 (0:Int)),.n (0:Int),.n (N (s.L&&&firB r.length)),.n (N ((s.L&&&s.U)&&&firB r.length)),.n (N ((s.L&&&s.C)&&&firB r.length)),.l TB (tmL (s.L&&&s.C) s.T r.length),.n (N (s.P&&&(firB b.length).setWidth 32))]):=by
  rw[t3h,←hT]
  refine b0a (st:=k3h) (fun i=>[.k 0,.n (l.length:Int),.n (i:Int),.l TMr (bM b c r),.l TU (bU b),.n (N (firB r.length)),.n (N ((firB b.length).setWidth 32)),.n (N (firB a.length)),.n (N s.L),.n (N s.U),.n (N s.C),.l TB s.T,.n (N s.P),.n (0:Int),.n (0:Int),.n (0:Int),.l TB (List.replicate 64 (0:Int)),.n (0:Int),.n (N (s.L&&&firB r.length)),.n (N ((s.L&&&s.U)&&&firB r.length)),.n (N ((s.L&&&s.C)&&&firB r.length)),.l TB (updF f (l.take i) (List.replicate 64 (0:Int))),.n (N (s.P&&&(firB b.length).setWidth 32)),.l TI l]) l.length (0,[.l TMr (bM b c r),.l TU (bU b),.n (N (firB r.length)),.n (N ((firB b.length).setWidth 32)),.n (N (firB a.length)),.n (0:Int),.n (0:Int),.n (0:Int),.l TB (List.replicate 64 (0:Int)),.n (0:Int),.n (N (s.L&&&firB r.length)),.n (N ((s.L&&&s.U)&&&firB r.length)),.n (N ((s.L&&&s.C)&&&firB r.length)),.l TB (updF f l (List.replicate 64 (0:Int))),.n (N (s.P&&&(firB b.length).setWidth 32))]) (fun i hi=> ?_) ?_ FU (b1w (by omega))
  ·show _=some (Step.go [.k 0,.n (l.length:Int),.n ((i+1:Nat):Int),.l TMr (bM b c r),.l TU (bU b),.n (N (firB r.length)),.n (N ((firB b.length).setWidth 32)),.n (N (firB a.length)),.n (N s.L),.n (N s.U),.n (N s.C),.l TB s.T,.n (N s.P),.n (0:Int),.n (0:Int),.n (0:Int),.l TB (List.replicate 64 (0:Int)),.n (0:Int),.n (N (s.L&&&firB r.length)),.n (N ((s.L&&&s.U)&&&firB r.length)),.n (N ((s.L&&&s.C)&&&firB r.length)),.l TB (updF f (l.take (i+1)) (List.replicate 64 (0:Int))),.n (N (s.P&&&(firB b.length).setWidth 32)),.l TI l])
   obtain⟨q1,q2⟩:=hin _ (sAtG l (0:Int) hi)
   rw[←w1n i (by omega),m3k f l _ hi]
   exact v3r (by omega) rfl (Int.ofNat_lt.2 hi) (h1s q1 q2)
  ·have t:=s3t (n1:=(l.length:Int)) (l2:=bM b c r) (l3:=bU b) (n4:=N (firB r.length)) (n5:=N ((firB b.length).setWidth 32)) (n6:=N (firB a.length)) (n7:=N s.L) (n8:=N s.U) (n9:=N s.C) (l10:=s.T) (n11:=N s.P) (n12:=0) (n13:=0) (n14:=0) (l15:=List.replicate 64 (0:Int)) (n16:=0) (n17:=N (s.L&&&firB r.length)) (n18:=N ((s.L&&&s.U)&&&firB r.length)) (n19:=N ((s.L&&&s.C)&&&firB r.length)) (l20:=updF f (l.take l.length) (List.replicate 64 (0:Int))) (n21:=N (s.P&&&(firB b.length).setWidth 32)) (l22:=l) (by omega) rfl (Int.lt_irrefl (l.length:Int))
   rw[show l.take l.length=l from List.take_length]at t⊢
   exact t
 have t:j3l [.n (N s.L),.n (N s.U),.n (N s.C),.l TB s.T,.n (N s.P),.l TMr (bM b c r),.l TU (bU b),.n (N (firB r.length)),.n (N ((firB b.length).setWidth 32)),.n (N (firB a.length))]=some (0,[.n (N (s.L&&&firB r.length)),.n (N ((s.L&&&s.U)&&&firB r.length)),.n (N ((s.L&&&s.C)&&&firB r.length)),.l TB (tmL (s.L&&&s.C) s.T r.length),.n (N (s.P&&&(firB b.length).setWidth 32)),.l TMr (bM b c r),.l TU (bU b),.n (N (firB r.length)),.n (N ((firB b.length).setWidth 32)),.n (N (firB a.length))]):=by
  refine c4x (l10:=l) (n16:=0) (n17:=0) (n18:=0) (l19:=List.replicate 64 (0:Int)) (n20:=0) ?_ ?_
  ·rw[u1v,u1v,andf];exact e1
  ·rw[u1v,u1v,u1v,r2g,andf,andf];exact e2
 exact t
theorem b12 (s:SQ):l3t [.n (N s.L),.n (N s.U),.n (N s.C),.l TB s.T,.n (N s.P),.l TMr (bM b c r),.l TU (bU b),.n (N (firB r.length)),.n (N ((firB b.length).setWidth 32)),.n (N (firB a.length))]=some (0,[.b (rgtJ b r s),.l TMr (bM b c r),.l TU (bU b),.n (N (firB r.length)),.n (N ((firB b.length).setWidth 32)),.n (N (firB a.length))]):=by
 have lr:=w.g.w.lr
 have e1:=b10 w s
 unfold rgtJ
 cases h:eqS s (j3k r.length b.length s)with
 |false=>exact e4r e1 h
 |true=>
  have hs:=g4d _ _|>.1 h
  have hL: ∀j,j<64→s.L.getLsbD j=true→j<r.length:=fun j hj hl=>by
   rw[show s.L=s.L&&&firB r.length from congrArg SQ.L hs,BitVec.getLsbD_and,Bool.and_eq_true,y0i lr,decide_eq_true_eq]at hl
   exact hl.2
  have e2:j3m [.l TMr (bM b c r),.l TU (bU b),.n (N (firB r.length)),.n (N ((firB b.length).setWidth 32)),.n (N (firB a.length)),.n (N s.L)]=some (0,[.n (N (acc s.L (f32 r false) r.length)),.n (N (acc s.L (f32 r true) r.length))]):=q3p (om58a b c r s.L lr) (om58b b c r s.L lr)
  have e3:m3t [.l TMr (bM b c r),.l TU (bU b),.n (N (firB r.length)),.n (N ((firB b.length).setWidth 32)),.n (N (firB a.length)),.n (N s.L)]=some (0,[.n (N (acc s.L (fC b r) r.length))]):=a4e (om61 b c r s.L lr)
  have hr:=right0 w hL
  rw[Bool.true_and]
  by_cases c1:acc s.L (fC b r) r.length&&&s.L=0#64
  ·by_cases c2:acc s.L (f32 r false) r.length&&&s.P=0#32
   ·have t:=a4i e1 h e2 e3 (by rw[u1v,N0];exact c1) (by rw[r2g,N0];exact c2)
    have ev:(b0l IntKind.u32 (N (acc s.L (f32 r true) r.length)) (N s.P)==0)=(List.range' 0 r.length).all (okJ b r s):=by
     rw[Bool.eq_iff_iff,hr,beq_iff_eq,s1h,N0]
     exact⟨fun q=>⟨c1,c2,q⟩,fun q=>q.2.2⟩
    rw[ev]at t
    exact t
   ·have t:=f4e e1 h e2 e3 (by rw[u1v,N0];exact c1) (by rw[r2g,N0];exact c2)
    rw[show(List.range' 0 r.length).all (okJ b r s)=false from by
     cases q:(List.range' 0 r.length).all (okJ b r s)with
     |false=>rfl
     |true=>exact absurd (hr.1 q).2.1 c2]
    exact t
  ·have t:=a4n e1 h e2 e3 (by rw[u1v,N0];exact c1)
   rw[show(List.range' 0 r.length).all (okJ b r s)=false from by
    cases q:(List.range' 0 r.length).all (okJ b r s)with
    |false=>rfl
    |true=>exact absurd (hr.1 q).1 c1]
   exact t
theorem b41 {s:SQ}(hL: ∀j,j<64→s.L.getLsbD j=true→j<r.length)(n:Int):m3f [.n (N s.L),.n (N s.U),.n (N s.C),.l TB s.T,.n (N s.P),.n (N (occB a O)),.n n,.l TMr (bM b c r),.l TU (bU b),.n (N (firB r.length)),.n (N ((firB b.length).setWidth 32)),.n (N (firB a.length))]=some (0,[.n (N (setC b r O s n).L),.n (N (setC b r O s n).U),.n (N (setC b r O s n).C),.l TB (setC b r O s n).T,.n (N (setC b r O s n).P),.l TMr (bM b c r),.l TU (bU b),.n (N (firB r.length)),.n (N ((firB b.length).setWidth 32)),.n (N (firB a.length))]):=by
 have lr:=w.g.w.lr
 have lb:=w.g.w.lb
 have e0:=y3u (firB r.length&&& ~~~s.L) n
 rw[←q1y]at e0
 cases h:hasB (firB r.length&&& ~~~s.L) n with
 |false=>
  have es:setC b r O s n=s:=by
   unfold setC
   refine h3f (p:=fun y=>y=s) (fun hn=> ?_) fun _=>rfl
   rw[Bool.and_eq_true,decide_eq_true_eq,decide_eq_true_eq]at hn
   obtain⟨i,rfl⟩: ∃i:Nat,n=i:=⟨_,(Int.toNat_of_nonneg hn.1).symm⟩
   have hi:i<r.length:=by omega
   rw[i3o _ (show i<64 by omega),BitVec.getLsbD_and,BitVec.getLsbD_not,y0i lr,dt hi,dt (show i<64 by omega)]at h
   unfold setI j3s
   rw[Int.toNat_natCast,show s.L.getLsbD i=true by simpa using h];rfl
  rw[es]
  exact d4d e0 h
 |true=>
  obtain⟨i,rfl,hi64,hb⟩:=hasN h
  rw[BitVec.getLsbD_and,BitVec.getLsbD_not,y0i lr,dt hi64,Bool.true_and,Bool.and_eq_true,decide_eq_true_eq,Bool.not_eq_true']at hb
  obtain⟨hi,hl⟩:=hb
  have es:setC b r O s (i:Int)=setI b r O s i:=by unfold setC;rw[in_t (by omega) (by omega)];rfl
  rw[es]
  have hr:inR (i:Int) (List.length (α:=Ty.den TMr) (bM b c r))=true:=h1s (by omega) (by rw[show List.length (α:=Ty.den TMr) (bM b c r)=r.length from q3f ..];omega)
  have em:ior IntKind.u32 (iand IntKind.u32 (Prod.fst (Prod.snd (Prod.snd (Prod.snd ((bM b c r).getD (Int.toNat (i:Int)) (Ty.dflt TMr)))))) (N s.P)) (b0l IntKind.u32 (Prod.fst (Prod.snd (Prod.snd (Prod.snd (Prod.snd ((bM b c r).getD (Int.toNat (i:Int)) (Ty.dflt TMr))))))) (N s.P))=N (movB r s.P i):=by
   rw[Int.toNat_natCast];erw[row4 hi,row5 hi];rw[r2g,s1h,m3p];rfl
  have e3:=any_lie lb ((movB r s.P i).setWidth 64)
  rw[←n3m,←em]at e3
  have hm:=may0 w O hL hi hl
  unfold setI
  by_cases c1:fC b r i&&&s.L=0#64
  ·by_cases c2:(fT r i|||liB b ((movB r s.P i).setWidth 64))&&&occB a O=0#64
   ·rw[hm.2 ⟨c1,c2⟩]
    have t:=a4p (l8:=bU b) (n10:=N ((firB b.length).setWidth 32)) (n11:=N (firB a.length)) (n1:=N s.U) (n2:=N s.C) (l3:=s.T) e0 h hr e3 (by rw[Int.toNat_natCast];erw[row6 hi];rw[u1v,N0];exact c1) (by rw[Int.toNat_natCast];erw[row1 hi];rw[h3r,u1v,N0];exact c2) (k3x s.L (i:Int))
    erw[em]at t;rw[q2n,←setP_x w s.P hi]at t
    have ew:s1o s.L (i:Int)=putB s.L i true:=by
     apply BitVec.eq_of_getLsbD_eq
     intro j hj
     rw[i3e _ _ hj,h3v _ _ _ hj]
     by_cases q:j=i
     ·subst q;rw[dt rfl,dt rfl,Bool.or_true];rfl
     ·rw[df q,df (show¬(j:Int)=(i:Int) by omega),Bool.or_false];rfl
    rw[ew]at t
    exact t
   ·rw[show j3s b r O s i=false from by
     cases q:j3s b r O s i with
     |false=>rfl
     |true=>exact absurd (hm.1 q).2 c2]
    exact a4f e0 h hr e3 (by rw[Int.toNat_natCast];erw[row6 hi];rw[u1v,N0];exact c1) (by rw[Int.toNat_natCast];erw[row1 hi];rw[h3r,u1v,N0];exact c2)
  ·rw[show j3s b r O s i=false from by
    cases q:j3s b r O s i with
    |false=>rfl
    |true=>exact absurd (hm.1 q).1 c1]
   exact g4f e0 h hr e3 (by rw[Int.toNat_natCast];erw[row6 hi];rw[u1v,N0];exact c1)
theorem b42 {s:SQ}(hL: ∀j,j<64→s.L.getLsbD j=true→j<r.length)(n:Int):m3x [.n (N s.L),.n (N s.U),.n (N s.C),.l TB s.T,.n (N s.P),.n (N (occB a O)),.n n,.l TMr (bM b c r),.l TU (bU b),.n (N (firB r.length)),.n (N ((firB b.length).setWidth 32)),.n (N (firB a.length))]=some (0,[.n (N (canC c r O s n).L),.n (N (canC c r O s n).U),.n (N (canC c r O s n).C),.l TB (canC c r O s n).T,.n (N (canC c r O s n).P),.l TMr (bM b c r),.l TU (bU b),.n (N (firB r.length)),.n (N ((firB b.length).setWidth 32)),.n (N (firB a.length))]):=by
 have lr:=w.g.w.lr
 have e0:=y3u ((s.L&&& ~~~s.U)&&& ~~~s.C) n
 rw[v3t]at e0
 cases h:hasB ((s.L&&& ~~~s.U)&&& ~~~s.C) n with
 |false=>
  have es:canC c r O s n=s:=by
   unfold canC
   refine h3f (p:=fun y=>y=s) (fun hn=> ?_) fun _=>rfl
   rw[Bool.and_eq_true,decide_eq_true_eq,decide_eq_true_eq]at hn
   obtain⟨i,rfl⟩: ∃i:Nat,n=i:=⟨_,(Int.toNat_of_nonneg hn.1).symm⟩
   rw[i3o _ (show i<64 by omega)]at h
   unfold canI wtgI
   rw[Int.toNat_natCast,h];rfl
  rw[es]
  exact g4a e0 h
 |true=>
  obtain⟨i,rfl,hi64,hb⟩:=hasN h
  have hi:i<r.length:=hL i hi64 (by rw[BitVec.getLsbD_and,BitVec.getLsbD_and,Bool.and_eq_true,Bool.and_eq_true]at hb;exact hb.1.1)
  have es:canC c r O s (i:Int)=canI c r O s i:=by unfold canC;rw[in_t (by omega) (by omega)];rfl
  rw[es]
  have hr:inR (i:Int) (List.length (α:=Ty.den TMr) (bM b c r))=true:=h1s (by omega) (by rw[show List.length (α:=Ty.den TMr) (bM b c r)=r.length from q3f ..];omega)
  have e2:=k3x s.C (i:Int)
  rw[h4d,dt hi64,cond_true]at e2
  unfold canI wtgI
  rw[hb,cond_true]
  cases q:clr O (ptS c (eN (rN r i)))with
  |true=>exact b4j e0 h e2 (h1s (by omega) (by omega)) hr (by rw[Int.toNat_natCast];erw[row3 hi];rw[u1v,N0];exact(ahead0 w O hi).2 q)
  |false=>exact e4e e0 h e2 (h1s (by omega) (by omega)) hr (by rw[Int.toNat_natCast];erw[row3 hi];rw[u1v,N0,ahead0 w O hi,q];simp)
theorem b43 (s:SQ)(n:Int):m3w [.n (N s.L),.n (N s.U),.n (N s.C),.l TB s.T,.n (N s.P),.n (N (occB a O)),.n n,.l TMr (bM b c r),.l TU (bU b),.n (N (firB r.length)),.n (N ((firB b.length).setWidth 32)),.n (N (firB a.length))]=some (0,[.n (N (movC b r O s n).L),.n (N (movC b r O s n).U),.n (N (movC b r O s n).C),.l TB (movC b r O s n).T,.n (N (movC b r O s n).P),.l TMr (bM b c r),.l TU (bU b),.n (N (firB r.length)),.n (N ((firB b.length).setWidth 32)),.n (N (firB a.length))]):=by
 have lr:=w.g.w.lr
 have lb:=w.g.w.lb
 have e2:j3m [.l TMr (bM b c r),.l TU (bU b),.n (N (firB r.length)),.n (N ((firB b.length).setWidth 32)),.n (N (firB a.length)),.n (N s.L)]=some (0,[.n (N (acc s.L (f32 r false) r.length)),.n (N (acc s.L (f32 r true) r.length))]):=q3p (om58a b c r s.L lr) (om58b b c r s.L lr)
 have e1:=y3u (((firB b.length).setWidth 32&&& ~~~(acc s.L (f32 r false) r.length|||acc s.L (f32 r true) r.length)).setWidth 64) n
 have bit: ∀k,k<64→(((firB b.length).setWidth 32&&& ~~~(acc s.L (f32 r false) r.length|||acc s.L (f32 r true) r.length)).setWidth 64).getLsbD k=(decide (k<b.length)&& !r3d r s.L (k:Int)):=fun k hk=>by
  rw[BitVec.getLsbD_setWidth,dt hk,Bool.true_and,BitVec.getLsbD_and,BitVec.getLsbD_setWidth,y0i (by omega)]
  by_cases q:k<b.length
  ·rw[dt q,dt (show k<32 by omega),Bool.true_and,Bool.true_and,BitVec.getLsbD_not,dt (show k<32 by omega),Bool.true_and,needd0 k (by omega)];rfl
  ·rw[df q,Bool.and_false,Bool.false_and,Bool.false_and]
 rw[←n3m,←s1h,←m3p]at e1
 cases h:hasB (((firB b.length).setWidth 32&&& ~~~(acc s.L (f32 r false) r.length|||acc s.L (f32 r true) r.length)).setWidth 64) n with
 |false=>
  have es:movC b r O s n=s:=by
   unfold movC
   refine h3f (p:=fun y=>y=s) (fun hn=> ?_) fun _=>rfl
   rw[Bool.and_eq_true,decide_eq_true_eq,decide_eq_true_eq]at hn
   obtain⟨i,rfl⟩: ∃i:Nat,n=i:=⟨_,(Int.toNat_of_nonneg hn.1).symm⟩
   rw[i3o _ (show i<64 by omega),bit i (by omega),dt (show i<b.length by omega),Bool.true_and]at h
   rw[h,Bool.and_false];rfl
  rw[es]
  exact a4l e2 e1 h
 |true=>
  obtain⟨i,rfl,hi64,hb⟩:=hasN h
  rw[bit i hi64,Bool.and_eq_true,decide_eq_true_eq]at hb
  obtain⟨hi,hn⟩:=hb
  have hr:inR (i:Int) (List.length (α:=Ty.den TU) (bU b))=true:=h1s (by omega) (by rw[show List.length (α:=Ty.den TU) (bU b)=b.length from m3c ..];omega)
  unfold movC
  rw[in_t (by omega) (by omega),cond_true,hn,Bool.and_true]
  cases q:clr O (ptS b (i:Int))with
  |true=>
   have t:=f4v (l7:=bM b c r) (n1:=N s.U) (n2:=N s.C) (l3:=s.T) (n4:=N s.P) e2 e1 h hr (by rw[Int.toNat_natCast,bU_at b hi,u1v,N0];exact(lies0 w O hi).2 q)
   rw[show(1:Int)=N 1#32 from rfl,n3x,q2n]at t
   exact t
  |false=>exact b4m e2 e1 h hr (by rw[Int.toNat_natCast,bU_at b hi,u1v,N0,lies0 w O hi,q];simp)
theorem b20 {s:SQ}(hL: ∀j,j<64→s.L.getLsbD j=true→j<r.length)(x:Ty.den TCmd):m3a [.n (N s.L),.n (N s.U),.n (N s.C),.l TB s.T,.n (N s.P),.n (N (occB a O)),.n (Prod.fst x),.n (Prod.snd x),.l TMr (bM b c r),.l TU (bU b),.n (N (firB r.length)),.n (N ((firB b.length).setWidth 32)),.n (N (firB a.length))]=some (0,[.n (N (cmdC b c r O s x).L),.n (N (cmdC b c r O s x).U),.n (N (cmdC b c r O s x).C),.l TB (cmdC b c r O s x).T,.n (N (cmdC b c r O s x).P),.l TMr (bM b c r),.l TU (bU b),.n (N (firB r.length)),.n (N ((firB b.length).setWidth 32)),.n (N (firB a.length))]):=by
 unfold cmdC
 by_cases k1:(Prod.fst x:Int)=1
 ·rw[dt k1,cond_true]
  exact f4m k1 (b41 w O hL _)
 rw[df k1,cond_false]
 by_cases k2:(Prod.fst x:Int)=2
 ·rw[dt k2,cond_true]
  exact d4r k1 k2 (b42 w O hL _)
 rw[df k2,cond_false]
 by_cases k3:(Prod.fst x:Int)=3
 ·rw[dt k3,cond_true]
  exact g4b k1 k2 k3 (b43 w O s _)
 rw[df k3,cond_false]
 exact e4t k1 k2 k3
end
section
variable {a:LS} {b c:LP} {r:LR}
theorem l24_4 (u e R:B64)(s:SQ)(T l:List Int)(hin: ∀x∈l,0≤x∧x<64)(hl:l.length≤64):n3w [.k 0,.n (N u),.n (N e),.n (N R),.n (l.length:Int),.n 0,.l TMr (bM b c r),.l TU (bU b),.n (N (firB r.length)),.n (N ((firB b.length).setWidth 32)),.n (N (firB a.length)),.n (N s.L),.n (N s.U),.n (N s.C),.l TB T,.n (N s.P),.n (0:Int),.n (0:Int),.n (0:Int),.l TB (List.replicate 64 (0:Int)),.n (0:Int),.l TI l]=some (0,[.n (N u),.n (N e),.n (N R),.l TMr (bM b c r),.l TU (bU b),.n (N (firB r.length)),.n (N ((firB b.length).setWidth 32)),.n (N (firB a.length)),.n (N s.L),.n (N s.U),.n (N s.C),.l TB (updF (fun _ v=>IntKind.wrap .u8 (v-1)) l T),.n (N s.P),.n (0:Int),.n (0:Int),.n (0:Int),.l TB (List.replicate 64 (0:Int)),.n (0:Int)]):=by
 rw[r3y]
 refine b0a (st:=k3c) (fun i=>[.k 0,.n (N u),.n (N e),.n (N R),.n (l.length:Int),.n (i:Int),.l TMr (bM b c r),.l TU (bU b),.n (N (firB r.length)),.n (N ((firB b.length).setWidth 32)),.n (N (firB a.length)),.n (N s.L),.n (N s.U),.n (N s.C),.l TB (updF (fun _ v=>IntKind.wrap .u8 (v-1)) (l.take i) T),.n (N s.P),.n (0:Int),.n (0:Int),.n (0:Int),.l TB (List.replicate 64 (0:Int)),.n (0:Int),.l TI l]) l.length (0,[.n (N u),.n (N e),.n (N R),.l TMr (bM b c r),.l TU (bU b),.n (N (firB r.length)),.n (N ((firB b.length).setWidth 32)),.n (N (firB a.length)),.n (N s.L),.n (N s.U),.n (N s.C),.l TB (updF (fun _ v=>IntKind.wrap .u8 (v-1)) l T),.n (N s.P),.n (0:Int),.n (0:Int),.n (0:Int),.l TB (List.replicate 64 (0:Int)),.n (0:Int)]) (fun i hi=> ?_) ?_ FU (b1w (by omega))
 ·show _=some (Step.go [.k 0,.n (N u),.n (N e),.n (N R),.n (l.length:Int),.n ((i+1:Nat):Int),.l TMr (bM b c r),.l TU (bU b),.n (N (firB r.length)),.n (N ((firB b.length).setWidth 32)),.n (N (firB a.length)),.n (N s.L),.n (N s.U),.n (N s.C),.l TB (updF (fun _ v=>IntKind.wrap .u8 (v-1)) (l.take (i+1)) T),.n (N s.P),.n (0:Int),.n (0:Int),.n (0:Int),.l TB (List.replicate 64 (0:Int)),.n (0:Int),.l TI l])
  obtain⟨q1,q2⟩:=hin _ (sAtG l (0:Int) hi)
  rw[←w1n i (by omega),m3k (fun _ v=>IntKind.wrap .u8 (v-1)) l T hi]
  exact r3w (by omega) rfl (Int.ofNat_lt.2 hi) (h1s q1 q2)
 ·have t:=u3p (n0:=N u) (n1:=N e) (n2:=N R) (n4:=(l.length:Int)) (l5:=bM b c r) (l6:=bU b) (n7:=N (firB r.length)) (n8:=N ((firB b.length).setWidth 32)) (n9:=N (firB a.length)) (n10:=N s.L) (n11:=N s.U) (n12:=N s.C) (l13:=updF (fun _ v=>IntKind.wrap .u8 (v-1)) (l.take l.length) T) (n14:=N s.P) (n15:=0) (n16:=0) (n17:=0) (l18:=List.replicate 64 (0:Int)) (n19:=0) (l20:=l) (by omega) rfl (Int.lt_irrefl (l.length:Int))
  rw[show l.take l.length=l from List.take_length]at t⊢
  exact t
theorem l24_9 (u e R:B64)(s:SQ)(T l:List Int)(hin: ∀x∈l,0≤x∧x<64)(hl:l.length≤64):o3s [.k 0,.n (N u),.n (N e),.n (N R),.n (l.length:Int),.n 0,.l TMr (bM b c r),.l TU (bU b),.n (N (firB r.length)),.n (N ((firB b.length).setWidth 32)),.n (N (firB a.length)),.n (N s.L),.n (N s.U),.n (N s.C),.l TB T,.n (N s.P),.n (0:Int),.n (0:Int),.n (0:Int),.l TB (List.replicate 64 (0:Int)),.n (0:Int),.l TI l]=some (0,[.n (N u),.n (N e),.n (N R),.l TMr (bM b c r),.l TU (bU b),.n (N (firB r.length)),.n (N ((firB b.length).setWidth 32)),.n (N (firB a.length)),.n (N s.L),.n (N s.U),.n (N s.C),.l TB (updF (fun _ _=>0) l T),.n (N s.P),.n (0:Int),.n (0:Int),.n (0:Int),.l TB (List.replicate 64 (0:Int)),.n (0:Int)]):=by
 rw[t3k]
 refine b0a (st:=j3u) (fun i=>[.k 0,.n (N u),.n (N e),.n (N R),.n (l.length:Int),.n (i:Int),.l TMr (bM b c r),.l TU (bU b),.n (N (firB r.length)),.n (N ((firB b.length).setWidth 32)),.n (N (firB a.length)),.n (N s.L),.n (N s.U),.n (N s.C),.l TB (updF (fun _ _=>0) (l.take i) T),.n (N s.P),.n (0:Int),.n (0:Int),.n (0:Int),.l TB (List.replicate 64 (0:Int)),.n (0:Int),.l TI l]) l.length (0,[.n (N u),.n (N e),.n (N R),.l TMr (bM b c r),.l TU (bU b),.n (N (firB r.length)),.n (N ((firB b.length).setWidth 32)),.n (N (firB a.length)),.n (N s.L),.n (N s.U),.n (N s.C),.l TB (updF (fun _ _=>0) l T),.n (N s.P),.n (0:Int),.n (0:Int),.n (0:Int),.l TB (List.replicate 64 (0:Int)),.n (0:Int)]) (fun i hi=> ?_) ?_ FU (b1w (by omega))
 ·show _=some (Step.go [.k 0,.n (N u),.n (N e),.n (N R),.n (l.length:Int),.n ((i+1:Nat):Int),.l TMr (bM b c r),.l TU (bU b),.n (N (firB r.length)),.n (N ((firB b.length).setWidth 32)),.n (N (firB a.length)),.n (N s.L),.n (N s.U),.n (N s.C),.l TB (updF (fun _ _=>0) (l.take (i+1)) T),.n (N s.P),.n (0:Int),.n (0:Int),.n (0:Int),.l TB (List.replicate 64 (0:Int)),.n (0:Int),.l TI l])
  obtain⟨q1,q2⟩:=hin _ (sAtG l (0:Int) hi)
  rw[←w1n i (by omega),m3k (fun _ _=>0) l T hi]
  exact s3h (by omega) rfl (Int.ofNat_lt.2 hi) (h1s q1 q2)
 ·have t:=t3j (n0:=N u) (n1:=N e) (n2:=N R) (n4:=(l.length:Int)) (l5:=bM b c r) (l6:=bU b) (n7:=N (firB r.length)) (n8:=N ((firB b.length).setWidth 32)) (n9:=N (firB a.length)) (n10:=N s.L) (n11:=N s.U) (n12:=N s.C) (l13:=updF (fun _ _=>0) (l.take l.length) T) (n14:=N s.P) (n15:=0) (n16:=0) (n17:=0) (l18:=List.replicate 64 (0:Int)) (n19:=0) (l20:=l) (by omega) rfl (Int.lt_irrefl (l.length:Int))
  rw[show l.take l.length=l from List.take_length]at t⊢
  exact t
theorem b24 (u f e:B64)(s:SQ)(h:s.T.length=64):w3s [.n (N s.L),.n (N s.U),.n (N s.C),.l TB s.T,.n (N s.P),.n (N u),.n (N f),.n (N e),.l TMr (bM b c r),.l TU (bU b),.n (N (firB r.length)),.n (N ((firB b.length).setWidth 32)),.n (N (firB a.length))]=some (0,[.n (N (goB u f e s).L),.n (N (goB u f e s).U),.n (N (goB u f e s).C),.l TB (goB u f e s).T,.n (N (goB u f e s).P),.l TMr (bM b c r),.l TU (bU b),.n (N (firB r.length)),.n (N ((firB b.length).setWidth 32)),.n (N (firB a.length))]):=by
 have e0:=due45 s h
 have e1:=el19 (decB u e (dueB s) s.C)
 have e3:=el19 (relB u f e (dueB s) s.C)
 have n1:=g4c (decB u e (dueB s) s.C) 64
 have n3:=g4c (relB u f e (dueB s) s.C) 64
 have i1: ∀x∈LB (decB u e (dueB s) s.C) 64,0≤x∧x<64:=fun x hx=>LB_in hx
 have i3: ∀x∈LB (relB u f e (dueB s) s.C) 64,0≤x∧x<64:=fun x hx=>LB_in hx
 have hT:updF (fun _ _=>0) (LB (relB u f e (dueB s) s.C) 64) (updF (fun _ v=>IntKind.wrap .u8 (v-1)) (LB (decB u e (dueB s) s.C) 64) s.T)=timB (relB u f e (dueB s) s.C) (decB u e (dueB s) s.C) s.T:=by
  refine y3q (by rw[k3j,k3j];exact h) (x3m ..) fun n hn=> ?_
  rw[o3d _ _ _ (o3q _) (fun x hx=>(i3 x hx).1) (by rw[k3j,h];exact hn),o3d _ _ _ (o3q _) (fun x hx=>(i1 x hx).1) (by rw[h];exact hn),b4i _ _ _ hn]
  have d3:decide ((n:Int)∈LB (relB u f e (dueB s) s.C) 64)=(relB u f e (dueB s) s.C).getLsbD n:=by rw[Bool.eq_iff_iff,decide_eq_true_eq,c4h _ hn]
  have d1:decide ((n:Int)∈LB (decB u e (dueB s) s.C) 64)=(decB u e (dueB s) s.C).getLsbD n:=by rw[Bool.eq_iff_iff,decide_eq_true_eq,c4h _ hn]
  rw[d3,d1]
 have e2:=l24_4 (a:=a) (b:=b) (c:=c) (r:=r) u e (relB u f e (dueB s) s.C) s s.T _ i1 n1
 have e4:=l24_9 (a:=a) (b:=b) (c:=c) (r:=r) u e (relB u f e (dueB s) s.C) s (updF (fun _ v=>IntKind.wrap .u8 (v-1)) (LB (decB u e (dueB s) s.C) 64) s.T) _ i3 n3
 rw[hT]at e4
 unfold decB at e1
 rw[←q1y,←h3r,←h3r]at e1
 have rE:N (relB u f e (dueB s) s.C)=ior IntKind.u64 (iand IntKind.u64 (N u) (N f)) (b0l IntKind.u64 (iand IntKind.u64 (iand IntKind.u64 (N s.C) (N (dueB s))) (N f)) (ior IntKind.u64 (N u) (N e))):=by
  rw[u1v,u1v,u1v,h3r,q1y,h3r];rfl
 have t:=f4i e0 e1 (by rw[←rE];exact e2) e3 e4
 rw[q1y,q1y,h3r,u1v]at t
 exact t
end
section
variable {a:LS} {b c:LP} {r:LR} (w:WH a b c r) (O:B64) (nm rv:P32) (cm:LC)
include w
theorem b25 (t:SQ)(f:B64):x3f [.n (N t.L),.n (N t.U),.n (N t.C),.l TB t.T,.n (N t.P),.n (N O),.n (N nm),.n (N rv),.l TCmd cm,.n (N f),.l TMr (bM b c r),.l TU (bU b),.n (N (firB r.length)),.n (N ((firB b.length).setWidth 32)),.n (N (firB a.length))]=some (0,[.n (N (((t.L&&&f)&&&detM r nm rv)&&& ~~~(t.U|||t.C))),.n (N t.P),.l TMr (bM b c r),.l TU (bU b),.n (N (firB r.length)),.n (N ((firB b.length).setWidth 32)),.n (N (firB a.length))]):=by
 have e:=tz48 w nm rv
 rw[←s1h,←s1h]at e
 have q:=c4y (n0:=N t.L) (n1:=N t.U) (n2:=N t.C) (l3:=t.T) (n4:=N t.P) (n5:=N O) (l8:=cm) (n9:=N f) (l11:=bU b) (n12:=N (firB r.length)) (n13:=N ((firB b.length).setWidth 32)) (n14:=N (firB a.length)) e
 rw[u1v,u1v,h3r,q1y]at q
 exact q
theorem b8_7 (u:B64){s:SQ}(hv:IV r u s)(l:LC)(hl:l.length≤8):v3c [.k 0,.n (N u),.l TCmd l,.n (l.length:Int),.n 0,.l TMr (bM b c r),.l TU (bU b),.n (N (firB r.length)),.n (N ((firB b.length).setWidth 32)),.n (N (firB a.length)),.n (N s.L),.n (N s.U),.n (N s.C),.l TB s.T,.n (N s.P),.n (N O),.n (N nm),.n (N rv),.l TCmd cm,.n (0:Int),.n (0:Int),.n (0:Int),.l TB (List.replicate 64 (0:Int)),.n (0:Int),.n (0:Int),.n (0:Int),.n (N (occB a O))]=some (0,[.n (N u),.l TMr (bM b c r),.l TU (bU b),.n (N (firB r.length)),.n (N ((firB b.length).setWidth 32)),.n (N (firB a.length)),.n (N (h3h b c r O s l).L),.n (N (h3h b c r O s l).U),.n (N (h3h b c r O s l).C),.l TB (h3h b c r O s l).T,.n (N (h3h b c r O s l).P),.n (N O),.n (N nm),.n (N rv),.l TCmd cm,.n (0:Int),.n (0:Int),.n (0:Int),.l TB (List.replicate 64 (0:Int)),.n (0:Int),.n (0:Int),.n (0:Int),.n (N (occB a O))]):=by
 rw[y3r]
 refine b0a (st:=l3u) (fun i=>[.k 0,.n (N u),.l TCmd l,.n (l.length:Int),.n (i:Int),.l TMr (bM b c r),.l TU (bU b),.n (N (firB r.length)),.n (N ((firB b.length).setWidth 32)),.n (N (firB a.length)),.n (N (h3h b c r O s (l.take i)).L),.n (N (h3h b c r O s (l.take i)).U),.n (N (h3h b c r O s (l.take i)).C),.l TB (h3h b c r O s (l.take i)).T,.n (N (h3h b c r O s (l.take i)).P),.n (N O),.n (N nm),.n (N rv),.l TCmd cm,.n (0:Int),.n (0:Int),.n (0:Int),.l TB (List.replicate 64 (0:Int)),.n (0:Int),.n (0:Int),.n (0:Int),.n (N (occB a O))]) l.length (0,[.n (N u),.l TMr (bM b c r),.l TU (bU b),.n (N (firB r.length)),.n (N ((firB b.length).setWidth 32)),.n (N (firB a.length)),.n (N (h3h b c r O s l).L),.n (N (h3h b c r O s l).U),.n (N (h3h b c r O s l).C),.l TB (h3h b c r O s l).T,.n (N (h3h b c r O s l).P),.n (N O),.n (N nm),.n (N rv),.l TCmd cm,.n (0:Int),.n (0:Int),.n (0:Int),.l TB (List.replicate 64 (0:Int)),.n (0:Int),.n (0:Int),.n (0:Int),.n (N (occB a O))]) (fun i hi=> ?_) ?_ FU (b1w (by omega))
 ·show _=some (Step.go [.k 0,.n (N u),.l TCmd l,.n (l.length:Int),.n ((i+1:Nat):Int),.l TMr (bM b c r),.l TU (bU b),.n (N (firB r.length)),.n (N ((firB b.length).setWidth 32)),.n (N (firB a.length)),.n (N (h3h b c r O s (l.take (i+1))).L),.n (N (h3h b c r O s (l.take (i+1))).U),.n (N (h3h b c r O s (l.take (i+1))).C),.l TB (h3h b c r O s (l.take (i+1))).T,.n (N (h3h b c r O s (l.take (i+1))).P),.n (N O),.n (N nm),.n (N rv),.l TCmd cm,.n (0:Int),.n (0:Int),.n (0:Int),.l TB (List.replicate 64 (0:Int)),.n (0:Int),.n (0:Int),.n (0:Int),.n (N (occB a O))])
  have step:h3h b c r O s (l.take (i+1))=cmdC b c r O (h3h b c r O s (l.take i)) (l.getD i (Ty.dflt TCmd)):=by
   unfold h3h
   rw[h1i l (Ty.dflt TCmd) hi,List.foldl_append];rfl
  rw[←w1n i (by omega),step]
  exact y3t (by omega) rfl (Int.ofNat_lt.2 hi) (b20 w O (s3j w.g.w.lr O (l.take i) hv).L _)
 ·have e:l.take l.length=l:=List.take_length
  rw[e]
  exact y3v (by omega) rfl (Int.lt_irrefl (l.length:Int))
theorem b8 {s:SQ}(hT: ∀n,n<64→0≤s.T.getD n 0):i4n [.n (N s.L),.n (N s.U),.n (N s.C),.l TB s.T,.n (N s.P),.n (N O),.n (N nm),.n (N rv),.l TCmd cm,.l TMr (bM b c r),.l TU (bU b),.n (N (firB r.length)),.n (N ((firB b.length).setWidth 32)),.n (N (firB a.length))]=some (0,[.n (N (j3a b c r O cm s).L),.n (N (j3a b c r O cm s).U),.n (N (j3a b c r O cm s).C),.l TB (j3a b c r O cm s).T,.n (N (j3a b c r O cm s).P),.n (N (outN r O nm rv (j3a b c r O cm s) r.length)),.n (N (j3a b c r O cm s).P),.l TMr (bM b c r),.l TU (bU b),.n (N (firB r.length)),.n (N ((firB b.length).setWidth 32)),.n (N (firB a.length))]):=by
 have lr:=w.g.w.lr
 have hv:=j4e lr b.length hT
 have e0:=b10 w s
 have im:=imin8 cm.length
 have e3:=b8_7 w O nm rv cm (j3k r.length b.length s).U hv (cm.take 8) (by rw[List.length_take];omega)
 have ht:List.take (Int.toNat (imin ((List.length (α:=Ty.den TCmd) cm:Nat):Int) 8)) cm=cm.take 8:=by
  rw[im,Int.toNat_natCast]
  rcases Nat.lt_or_ge cm.length 8 with h|h
  ·rw[Nat.min_eq_left (by omega),List.take_length,List.take_of_length_le (by omega)]
  ·rw[Nat.min_eq_right h]
 have hv2:=s3j (b:=b) (c:=c) lr O (cm.take 8) hv
 have e4:=tz22 w O
 have e5:=tz23 w O
 have e6:=b24 (a:=a) (b:=b) (c:=c) (r:=r) (j3k r.length b.length s).U (h3u r O) (entM r O) (h3h b c r O (j3k r.length b.length s) (cm.take 8)) hv2.len
 rw[go_same lr O hv2]at e6
 have e7:=b25 w O nm rv cm (j3a b c r O cm s) (h3u r O)
 rw[i4j lr O nm rv]at e7
 have eo:N (occB a O)=iand IntKind.u64 (N O) (N (firB a.length)):=by rw[u1v];rfl
 refine h4v (n39:=0) (n40:=0) (n41:=0) (l42:=List.replicate 64 (0:Int)) (n43:=0) (n44:=0) (n45:=0) e0 ?_ ?_ ?_ e4 e5 e6 e7
 ·rw[im,Bool.and_eq_true,decide_eq_true_eq,decide_eq_true_eq]
  exact⟨by omega,Int.ofNat_le.2 (Nat.min_le_left ..)⟩
 ·rw[im,Bool.true_and,decide_eq_true_eq];omega
 ·rw[ht,←eo];exact e3
end
theorem okCm_wf {cm:LC}(h:wfD (.sl TCmd) cm=true):okCm cm:=by
 refine⟨?_,fun x hx=> ?_⟩
 ·have h2:decide (List.length (α:=Ty.den TCmd) cm≤9223372036854775807)=true:=(Bool.and_eq_true_iff.1 (show(decide _&&_)=true from h)).1
  exact of_decide_eq_true h2
 ·have h2:=wfi (p0a (y1u h x hx)).1
  simp[IntKind.min,IntKind.max,IntKind.bits,IntKind.signed]at h2
  exact⟨h2.1,Int.lt_of_le_of_lt h2.2 (show(255:Int)<256 by omega)⟩
abbrev LI7:=List (Ty.den TInp)
def ocI (x:Ty.den TInp):B64:=BitVec.ofInt 64 (Prod.fst x)
def nmI (x:Ty.den TInp):P32:=BitVec.ofInt 32 (Prod.fst (Prod.snd x))
def rvI (x:Ty.den TInp):P32:=BitVec.ofInt 32 (Prod.fst (Prod.snd (Prod.snd x)))
def cmI (x:Ty.den TInp):LC:=Prod.snd (Prod.snd (Prod.snd x))
def okI7 (x:Ty.den TInp):Prop:=(Prod.fst x:Int)=N (ocI x)∧(Prod.fst (Prod.snd x):Int)=N (nmI x)∧(Prod.fst (Prod.snd (Prod.snd x)):Int)=N (rvI x)∧okCm (cmI x)
def runS (b c:LP)(r:LR)(ins:LI7):Nat→SQ
 |0=>zst
 |k+1=>j3a b c r (ocI (ins.getD k (Ty.dflt TInp))) (cmI (ins.getD k (Ty.dflt TInp))) (runS b c r ins k)
theorem rgt_0 (b:LP)(r:LR):Rgt b r zst:=by
 refine⟨fun j _ h=> ?_,fun j _ h=> ?_,fun j _ h=> ?_,List.length_replicate,fun n hn=> ?_,fun j _ h=> ?_,fun i _ h=> ?_,fun i _ h=> ?_⟩
 ·simp at h
 ·simp at h
 ·simp at h
 ·have:(List.replicate 64 (0:Int)).getD n 0=0:=by rw[j0x _ _ (by rw[List.length_replicate];exact hn),List.getElem_replicate]
  show(List.replicate 64 (0:Int)).getD n 0≤20∧_
  rw[this]
  exact⟨by omega,fun _=>rfl⟩
 ·simp at h
 ·simp at h
 ·simp at h
section
variable {a:LS} {b c:LP} {r:LR} (g:WG a b c r) (ins:LI7)
include g
theorem j4a: ∀k,Rgt b r (runS b c r ins k)
 |0=>rgt_0 b r
 |k+1=>j4t g _ _ (j4a k)
end
theorem okI7_wf {x:Ty.den TInp}(h:wfD TInp x=true):okI7 x:=by
 have h2:=(p0a h).2
 have h3:=(p0a h2).2
 refine⟨?_,?_,?_,okCm_wf (p0a h3).2⟩
 ·have q:=wfi (p0a h).1
  simp[IntKind.min,IntKind.max,IntKind.bits,IntKind.signed]at q
  exact(N_of q.1 (Int.lt_of_le_of_lt q.2 (by decide))).symm
 ·have q:=wfi (p0a h2).1
  simp[IntKind.min,IntKind.max,IntKind.bits,IntKind.signed]at q
  exact(N_of q.1 (Int.lt_of_le_of_lt q.2 (by decide))).symm
 ·have q:=wfi (p0a h3).1
  simp[IntKind.min,IntKind.max,IntKind.bits,IntKind.signed]at q
  exact(N_of q.1 (Int.lt_of_le_of_lt q.2 (by decide))).symm
theorem x3d (s:SQ):(N s.L==N s.L&&(N s.U==N s.U&&(N s.C==N s.C&&(eqL TB s.T s.T&&(N s.P==N s.P&&true)))))=true:=(g4d s s).2 rfl
theorem g4x (x y:Int):(x==x&&(y==y&&true))=true:=by simp
theorem go_T0 (r:LR)(O u:B64){s:SQ}(hl:s.T.length=64)(h: ∀n,n<64→0≤s.T.getD n 0)(h2: ∀n,n<64→s.T.getD n 0≤20): ∀n,n<64→0≤(goN r O u s r.length).T.getD n 0∨64<r.length:=by
 intro n hn
 rcases Nat.lt_or_ge 64 r.length with q|q
 ·exact .inr q
 ·left
  obtain⟨k1,k2,k3⟩:=j4g r O u s hl r.length q
  rcases Nat.lt_or_ge n r.length with z|z
  ·rw[((k3 n hn).1 z).2.2.2,(d4x r O u s hn hl).2.2.2]
   cases relA r O u s n with
   |true=>exact Int.le_refl _
   |false=>
    cases hd:decA r O u s n with
    |false=>exact h n hn
    |true=>
     have hp:s.T.getD n 0>0:=by
      unfold decA at hd
      simp only[Bool.and_eq_true,decide_eq_true_eq]at hd
      exact hd.2.2.2.2
     have:=h2 n hn
     show 0≤IntKind.wrap .u8 _
     rw[wu8 (by omega) (by omega)];omega
  ·rw[((k3 n hn).2 z).2.2.2];exact h n hn
section
variable {a:LS} {b c:LP} {r:LR} (w:WH a b c r) (ins:LI7) (hin: ∀x∈ins,okI7 x)
include w
theorem run_T0: ∀k,∀n,n<64→0≤(runS b c r ins k).T.getD n 0
 |0,n,hn=>by
  show 0≤(List.replicate 64 (0:Int)).getD n 0
  rw[j0x _ _ (by rw[List.length_replicate];exact hn),List.getElem_replicate];exact Int.le_refl _
 |k+1,n,hn=>by
  have hq:=j4a w.g ins k
  have hv:=s3j (b:=b) (c:=c) w.g.w.lr (ocI (ins.getD k (Ty.dflt TInp))) ((cmI (ins.getD k (Ty.dflt TInp))).take 8) (j4e w.g.w.lr b.length (run_T0 k))
  have hr:=i4x w.g (ocI (ins.getD k (Ty.dflt TInp))) ((cmI (ins.getD k (Ty.dflt TInp))).take 8) (s:=j3k r.length b.length (runS b c r ins k)) (by rw[j4c w.g.w hq];exact hq)
  rcases go_T0 r (ocI (ins.getD k (Ty.dflt TInp))) (j3k r.length b.length (runS b c r ins k)).U hv.len hv.T (fun m hm=>(hr.T m hm).1) n hn with q|q
  ·exact q
  ·exact absurd q (by have:=w.g.w.lr;omega)
include hin
theorem q4_9 (hl:ins.length≤60):i4y [.k 0,.l TInp ins,.n 0,.l TMr (bM b c r),.l TU (bU b),.n (N (firB r.length)),.n (N ((firB b.length).setWidth 32)),.n (N (firB a.length)),.l TI (lie b b.length),.l TQr (h3d b c r r.length),.n (N zst.L),.n (N zst.U),.n (N zst.C),.l TB zst.T,.n (N zst.P),.n (N zst.L),.n (N zst.U),.n (N zst.C),.l TB zst.T,.n (N zst.P)]=some (0,[])∨i4y [.k 0,.l TInp ins,.n 0,.l TMr (bM b c r),.l TU (bU b),.n (N (firB r.length)),.n (N ((firB b.length).setWidth 32)),.n (N (firB a.length)),.l TI (lie b b.length),.l TQr (h3d b c r r.length),.n (N zst.L),.n (N zst.U),.n (N zst.C),.l TB zst.T,.n (N zst.P),.n (N zst.L),.n (N zst.U),.n (N zst.C),.l TB zst.T,.n (N zst.P)]=some (1,[.b true]):=by
 have e:=d0j (st:=i4v) (fun i=>[.k 0,.l TInp ins,.n (i:Int),.l TMr (bM b c r),.l TU (bU b),.n (N (firB r.length)),.n (N ((firB b.length).setWidth 32)),.n (N (firB a.length)),.l TI (lie b b.length),.l TQr (h3d b c r r.length),.n (N (runS b c r ins i).L),.n (N (runS b c r ins i).U),.n (N (runS b c r ins i).C),.l TB (runS b c r ins i).T,.n (N (runS b c r ins i).P),.n (N (runS b c r ins i).L),.n (N (runS b c r ins i).U),.n (N (runS b c r ins i).C),.l TB (runS b c r ins i).T,.n (N (runS b c r ins i).P)]) ins.length (fun i=>decide ((cmI (ins.getD i (Ty.dflt TInp))).length≤100)) (0,[]) (1,[.b true]) (fun i hi h=> ?_) (fun i hi h=> ?_) (j4k (by omega) (Int.lt_irrefl _)) FU (b1w (by omega))
 ·rw[←j4i]at e
  cases q:(List.range' 0 ins.length).all (fun i=>decide ((cmI (ins.getD i (Ty.dflt TInp))).length≤100))with
  |true=>rw[q]at e;exact .inl e
  |false=>rw[q]at e;exact .inr e
 ·obtain⟨x1,x2,x3,x4⟩:=hin _ (sAtG ins (Ty.dflt TInp) hi)
  show _=some (Step.go [.k 0,.l TInp ins,.n ((i+1:Nat):Int),.l TMr (bM b c r),.l TU (bU b),.n (N (firB r.length)),.n (N ((firB b.length).setWidth 32)),.n (N (firB a.length)),.l TI (lie b b.length),.l TQr (h3d b c r r.length),.n (N (runS b c r ins (i+1)).L),.n (N (runS b c r ins (i+1)).U),.n (N (runS b c r ins (i+1)).C),.l TB (runS b c r ins (i+1)).T,.n (N (runS b c r ins (i+1)).P),.n (N (runS b c r ins (i+1)).L),.n (N (runS b c r ins (i+1)).U),.n (N (runS b c r ins (i+1)).C),.l TB (runS b c r ins (i+1)).T,.n (N (runS b c r ins (i+1)).P)])
  rw[←w1n i (by omega)]
  have e2:=b8 w (ocI (ins.getD i (Ty.dflt TInp))) (nmI (ins.getD i (Ty.dflt TInp))) (rvI (ins.getD i (Ty.dflt TInp))) (cmI (ins.getD i (Ty.dflt TInp))) (run_T0 w ins i)
  have e3:=n13 w.g (ocI (ins.getD i (Ty.dflt TInp))) (nmI (ins.getD i (Ty.dflt TInp))) (rvI (ins.getD i (Ty.dflt TInp))) (cmI (ins.getD i (Ty.dflt TInp))) (runS b c r ins i) x4
  have e6:=b12 w (runS b c r ins (i+1))
  have hq:=j4a w.g ins (i+1)
  rw[←x1,←x2,←x3]at e2 e3
  have h:=of_decide_eq_true h
  exact j4m (by omega) (Int.ofNat_lt.2 hi) (show¬((cmI (ins.getD i (Ty.dflt TInp))).length:Int)>100 by omega) e2 e3 (x3d (runS b c r ins (i+1))) (g4x _ _) e6 ((j4j w.g.w).2 hq)
 ·have h:=of_decide_eq_false h
  exact j4n (by omega) (Int.ofNat_lt.2 hi) (show((cmI (ins.getD i (Ty.dflt TInp))).length:Int)>100 by omega) rfl
end
theorem W4_true (a:LS)(b c:LP)(r:LR)(ins:LI7)(hs:okS a b c r)(hin: ∀x∈ins,okI7 x):(i4z [.l TS a,.l TPt b,.l TPt c,.l TRt r,.l TInp ins]).sel=some true:=by
 obtain⟨m,e1⟩:=o15 a b c r 400 hs
 by_cases h:m>400
 ·exact j4s e1 h rfl
 have e2:=new15 a b c r hs
 by_cases hk:(ckA a b c r).1=0
 ·rw[if_pos hk]at e2
  have w:=wh_of hk
  by_cases hl:((ins.length:Int)>60)
  ·exact j4v e1 h e2 rfl hl rfl
  ·have e5:=o11i a b c r hs
   unfold newA at e5
   rw[if_pos hk]at e5
   rcases q4_9 w ins hin (by omega)with e|e
   ·exact j4o e1 h e2 rfl hl e5 rfl e rfl
   ·exact j4q e1 h e2 rfl hl e5 rfl e
 ·rw[if_neg hk]at e2
  exact j4p e1 h e2 hk rfl
end Go.Proofs.YtcbhgaeiokfcdaaGreat.Vx
end
