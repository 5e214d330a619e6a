import Derived.Test.YtocadgemjhpojaaZ06j
import Derived.Test.YtocadgemjhpojaaProg
import Derived.KernelRfl
import Derived.Test.YtocadgemjhpojaaVxAsk
import Derived.Test.YtocadgemjhpojaaVxBits
import Derived.Test.YtocadgemjhpojaaVxAid
import Derived.Test.YtocadgemjhpojaaVxLaw
noncomputable section
namespace Go.Proofs.Ytocadgemjhpojaa.Vx
open Go Go.RowKit
set_option linter.unusedVariables false
set_option linter.unusedSimpArgs false
set_option maxRecDepth 100000
set_option maxHeartbeats 0
theorem hmix:Try.prog.follows .mixedOrders=true:=by kernel_rfl
theorem v0d:CsOk Try.prog h0b:=d1h _
def op_w7:List Dat→Option (Nat×List Dat):=fun _=>some (0,[.b true])
def Bw7:FBox:=(mkF [] [] [] [(.bool 0,[])] op_w7)
def cs_w7:FuncId→Option a0q:=e1c 7 [Bw7] h0b
theorem v3j (env:List Dat)(y:Nat×List Dat)(h:op_w7 env=some y):(boxC true Try.prog h0b 7 ls0 (mkF [] [] [] [(.bool 0,[])] fun _=>none) env).sel=some y:=by
 cases h
 kernel_rfl
theorem Bw7_ok:a0v Try.prog 7 (a0j Bw7):=a0p (op:=op_w7) v0d hmix true (LsOk.none _ _ _) v3j
theorem v3a:CsOk Try.prog cs_w7:=h0a v0d fun B hB=>by
 cases List.mem_singleton.1 hB
 exact Bw7_ok
abbrev TB:Ty:=.int .u8
abbrev TS:Ty:=.str
abbrev TBk:Ty:=.arr 256 (.int .u8)
abbrev TWr:Ty:=.pair (.int .i64) (.arr 256 (.int .u8))
abbrev TOp:Ty:=.pair (.int .i64) .str
abbrev t0c:Ty:=.pair (.int .u8) (.pair (.int .i64) (.pair (.sl (.int .u8)) (.sl (.int .u8))))
def fnV0 (f:Nat):PV:=.fn (.func f) [] []
def fnC (f:Nat)(cs:List PV):PV:=.fn (.func f) [] cs
def dkB (a c h:Nat):PB:=.cells [.own a,.own c,.int .i64 h,.bool (h+1),.int .i64 (h+2),.bool (h+3)]
def faB (h:Nat):PB:=.cells [.imm TB h]
def o3i (l:List (Ty.den TBk)):Bool:=decide ((0+l.length)*256≤140737488355328)
def m3d:OpA:=i3r TBk o3i
def Bc26:FBox:=mkF [.imm TBk 0] [] [] [(.own 0,[.arr TBk 0])] m3d
def cs_c26:FuncId→Option a0q:=a0s 26 ((BSh.of Bc26).k m3d) cs_w7
theorem Bc26_ok:a0v Try.prog 26 (a0j Bc26):=
 p3l (P:=Try.prog) (cl:=clMd true Try.prog h0b) (c1t (d1h _) k3c true) k3c (T:=50) (e:=60) (n:=400) (fn:=Try.f26) (by kernel_rfl) (by kernel_rfl) (by kernel_rfl) (by kernel_rfl) TBk o3i
  (fun l=>[.imm TBk l,.undef,.nilsl,.undef,.undef,.undef,.undef,.undef]) (fun l=>[.imm TBk l,.undef,.nilsl,.imm TBk l,.bool true,.undef,.undef,.undef])
  (fun l=>[.imm TBk l,.undef,.own 0 1,.imm TBk l,.bool false,.own 0 0,.imm TBk l,.own 0 1]) (fun l=>⟨[.arr TBk 1 l],[0]⟩) (fun l=>.own 0 1)
  (fun l=>by kernel_rfl) (fun l=>rfl) (fun l=>rfl) (fun l=>by kernel_rfl) (fun l=>by kernel_rfl) (fun l=>by kernel_rfl) (fun l=>by kernel_rfl) (fun l=>by kernel_rfl) (fun l=>by kernel_rfl) (by kernel_rfl)
theorem u3d:CsOk Try.prog cs_c26:=csA v3a Bc26_ok
def m3n (l:List (Ty.den TWr)):Bool:=decide ((0+l.length)*264≤140737488355328)
def m3h:OpA:=i3r TWr m3n
def Bc27:FBox:=mkF [.imm TWr 0] [] [] [(.own 0,[.arr TWr 0])] m3h
def t3j:FuncId→Option a0q:=a0s 27 ((BSh.of Bc27).k m3h) cs_c26
theorem Bc27_ok:a0v Try.prog 27 (a0j Bc27):=
 p3l (P:=Try.prog) (cl:=clMd true Try.prog h0b) (c1t (d1h _) k3c true) k3c (T:=51) (e:=63) (n:=400) (fn:=Try.f27) (by kernel_rfl) (by kernel_rfl) (by kernel_rfl) (by kernel_rfl) TWr m3n
  (fun l=>[.imm TWr l,.undef,.nilsl,.undef,.undef,.undef,.undef,.undef]) (fun l=>[.imm TWr l,.undef,.nilsl,.imm TWr l,.bool true,.undef,.undef,.undef])
  (fun l=>[.imm TWr l,.undef,.own 0 1,.imm TWr l,.bool false,.own 0 0,.imm TWr l,.own 0 1]) (fun l=>⟨[.arr TWr 1 l],[0]⟩) (fun l=>.own 0 1)
  (fun l=>by kernel_rfl) (fun l=>rfl) (fun l=>rfl) (fun l=>by kernel_rfl) (fun l=>by kernel_rfl) (fun l=>by kernel_rfl) (fun l=>by kernel_rfl) (fun l=>by kernel_rfl) (fun l=>by kernel_rfl) (by kernel_rfl)
theorem m3g:CsOk Try.prog t3j:=csA u3d Bc27_ok
def S_d8:BSh:={args:=[.int .i64 0],blks:=[],log:=[],outs:=[(.ptr 0 0,[dkB 1 2 0,.arr TBk 4,.arr TWr 5])]}
def ev_d8:List Dat→Tree (Nat×List Dat):=evFV [(none,1,.own TWr)] t3j 8 ls0 S_d8
theorem e_d8: ∃op,IsF ev_d8 8 S_d8 op:=bxFV m3g (LsOk.none _ _ _)
def k3b:OpA:=opF e_d8
theorem p3b {n0:Int}(h0:((decide ((0:Int)≤imin (imax n0 (0:Int)) (4096:Int))&&decide (imin (imax n0 (0:Int)) (4096:Int)≤imin (imax n0 (0:Int)) (4096:Int))&&decide (imin (imax n0 (0:Int)) (4096:Int)*(256:Int)≤(281474976710656:Int)))=true)):k3b [.n n0]=some ((0,[.n (0:Int),.b false,.n (0:Int),.b false,.l TBk (repC (Int.toNat (imin (imax n0 (0:Int)) (4096:Int))) (Ty.dflt TBk)),.l TWr []])):=s1c e_d8 (sT h0<|sP [1]<|sL)
def m3w:FuncId→Option a0q:=e1c 8 [S_d8.k k3b] t3j
theorem i3a:CsOk Try.prog m3w:=csA1 m3g e_d8
def s3k:LSh:={K:=3,log:=[1],ins:=[(sh 48 [(0,.ptr 0 0),(1,fnV0 44),(10,.own 2),(11,.int .i64 0),(12,.int .i64 1)],[dkB 1 2 2,.arr TBk 6,.arr TWr 7])],nils:=[],outs:=[(.exit 0,sh 48 [(0,.ptr 0 0)],[dkB 1 2 0,.arr TBk 4,.arr TWr 5])],cv:=[]}
def i3p:List Dat→Tree Step:=evL m3w 40 1 ls0 s3k
theorem l3f: ∃op,IsL i3p 40 1 s3k op:=bxL i3a (LsOk.none _ _ _)
def k3n:OpA:=opL l3f
theorem n3q (env:List Dat):k3n env=a0b i3p FU env:=h3g l3f env
abbrev v3h:MBox:=boxL l3f
theorem m3x {n0 n1 n2:Int}{b3:Bool}{n4:Int}{b5:Bool}{l6:List (Ty.den TBk)}{l7:List (Ty.den TWr)}(g0:0≤n1)(g1:n0=(l7.length:Int))(h0:(n1<n0))(h1:(inR (Prod.fst (List.getD l7 (Int.toNat n1) (Ty.dflt TWr))) (List.length l6)=true)):(i3p [.k 0,.n n0,.n n1,.n n2,.b b3,.n n4,.b b5,.l TBk l6,.l TWr l7]).sel=some (Step.go [.k 0,.n n0,.n (IntKind.wrap .i64 (n1+(1:Int))),.n n2,.b b3,.n n4,.b b5,.l TBk (List.set l6 (Int.toNat (Prod.fst (List.getD l7 (Int.toNat n1) (Ty.dflt TWr)))) (Prod.snd (List.getD l7 (Int.toNat n1) (Ty.dflt TWr)))),.l TWr l7]):=sP [1]<|sT (dt h0)<|sTo (c:=(inR n1 (List.length l7)))<|sP [1,1,1]<|sT h1<|sP [1,1]<|sL
theorem n3b {n0 n1 n2:Int}{b3:Bool}{n4:Int}{b5:Bool}{l6:List (Ty.den TBk)}{l7:List (Ty.den TWr)}(g0:0≤n1)(g1:n0=(l7.length:Int))(h0:(¬n1<n0)):(i3p [.k 0,.n n0,.n n1,.n n2,.b b3,.n n4,.b b5,.l TBk l6,.l TWr l7]).sel=some (Step.stop 0 [.n n2,.b b3,.n n4,.b b5,.l TBk l6,.l TWr l7]):=sP [1]<|sF (df h0)<|sP [1]<|sL
def S_d44:BSh:={args:=[.ptr 0 0,fnV0 44],blks:=[dkB 1 2 0,.arr TBk 4,.arr TWr 5],log:=[0,1],outs:=[(.tup [],[dkB 1 3 0,.arr TBk 4,.gone,.arr TWr 5])]}
def ev_d44:List Dat→Tree (Nat×List Dat):=evFV [(some 0,1,.own TWr)] m3w 40 (lsM [(1,v3h)] 3) S_d44
theorem e_d44: ∃op,IsF ev_d44 40 S_d44 op:=bxFV i3a (lsE (lsC (h3d l3f) (atF) lsZ))
def m3b:OpA:=opF e_d44
theorem s3q {n0:Int}{b1:Bool}{n2:Int}{b3:Bool}{l4:List (Ty.den TBk)}{l5:List (Ty.den TWr)}{n6:Int}{b7:Bool}{n8:Int}{b9:Bool}{l10:List (Ty.den TBk)}{l11:List (Ty.den TWr)}(h0:(k3n [.k 0,.n (↑(List.length l5):Int),.n (0:Int),.n n0,.b b1,.n n2,.b b3,.l TBk l4,.l TWr l5])=(some (0,[.n n6,.b b7,.n n8,.b b9,.l TBk l10,.l TWr l11]))):m3b [.n n0,.b b1,.n n2,.b b3,.l TBk l4,.l TWr l5]=some ((0,[.n n6,.b b7,.n n8,.b b9,.l TBk l10,.l TWr []])):=s1c e_d44 (sA h0<|sP [1,1]<|sL)
def t3l:LSh:={K:=4,log:=[2],ins:=[(sh 48 [(0,.ptr 0 0),(1,fnC 41 [.ptr 1 0]),(10,.own 3),(11,.int .i64 0),(12,.int .i64 1)],[dkB 2 3 2,faB 6,.arr TBk 7,.arr TWr 8])],nils:=[],outs:=[(.exit 0,sh 48 [(0,.ptr 0 0)],[dkB 2 3 0,faB 4,.arr TBk 5,.arr TWr 6])],cv:=[]}
def h3s:List Dat→Tree Step:=evL m3w 40 1 ls0 t3l
theorem k3r: ∃op,IsL h3s 40 1 t3l op:=bxL i3a (LsOk.none _ _ _)
def k3k:OpA:=opL k3r
theorem n3g (env:List Dat):k3k env=a0b h3s FU env:=h3g k3r env
abbrev v3u:MBox:=boxL k3r
theorem o3b {n0 n1 n2:Int}{b3:Bool}{n4:Int}{b5:Bool}{l6:List (Ty.den TB)}{l7:List (Ty.den TBk)}{l8:List (Ty.den TWr)}(g0:0≤n1)(g1:n0=(l8.length:Int))(h0:(n1<n0))(h1:(n1<(↑(List.length l6):Int)))(h2:(List.getD l6 (Int.toNat n1) (0:Int)=(255:Int)))(h3:(inR (Prod.fst (List.getD l8 (Int.toNat n1) (Ty.dflt TWr))) (List.length l7)=true)):(h3s [.k 0,.n n0,.n n1,.n n2,.b b3,.n n4,.b b5,.l TB l6,.l TBk l7,.l TWr l8]).sel=some (Step.go [.k 0,.n n0,.n (IntKind.wrap .i64 (n1+(1:Int))),.n n2,.b b3,.n n4,.b b5,.l TB l6,.l TBk (List.set l7 (Int.toNat (Prod.fst (List.getD l8 (Int.toNat n1) (Ty.dflt TWr)))) (Prod.snd (List.getD l8 (Int.toNat n1) (Ty.dflt TWr)))),.l TWr l8]):=sP [1]<|sT (dt h0)<|sTo (c:=(inR n1 (List.length l8)))<|sP [1]<|sT (dt h1)<|sTo (c:=(inR n1 (List.length l6)))<|sP [1]<|sT (bt h2)<|sT h3<|sP [1,1]<|sL
theorem n3j {n0 n1 n2:Int}{b3:Bool}{n4:Int}{b5:Bool}{l6:List (Ty.den TB)}{l7:List (Ty.den TBk)}{l8:List (Ty.den TWr)}(g0:0≤n1)(g1:n0=(l8.length:Int))(h0:(n1<n0))(h1:(n1<(↑(List.length l6):Int)))(h2:(¬List.getD l6 (Int.toNat n1) (0:Int)=(255:Int)))(h3:(inR (Prod.fst (List.getD l8 (Int.toNat n1) (Ty.dflt TWr))) (List.length l7)=true))(h4:((decide ((0:Int)≤(List.getD l6 (Int.toNat n1) (0:Int):Int))&&decide ((List.getD l6 (Int.toNat n1) (0:Int):Int)≤(256:Int)))=true)):(h3s [.k 0,.n n0,.n n1,.n n2,.b b3,.n n4,.b b5,.l TB l6,.l TBk l7,.l TWr l8]).sel=some (Step.go [.k 0,.n n0,.n (IntKind.wrap .i64 (n1+(1:Int))),.n n2,.b b3,.n n4,.b b5,.l TB l6,.l TBk (List.set l7 (Int.toNat (Prod.fst (List.getD l8 (Int.toNat n1) (Ty.dflt TWr)))) (List.take (Int.toNat (List.getD l6 (Int.toNat n1) (0:Int))) (List.take (Int.toNat (List.getD l6 (Int.toNat n1) (0:Int))) (Prod.snd (List.getD l8 (Int.toNat n1) (Ty.dflt TWr))))++List.drop (min (List.length (List.take (Int.toNat (List.getD l6 (Int.toNat n1) (0:Int))) (Prod.snd (List.getD l8 (Int.toNat n1) (Ty.dflt TWr))))) (Int.toNat (List.getD l6 (Int.toNat n1) (0:Int)))) (List.getD l7 (Int.toNat (Prod.fst (List.getD l8 (Int.toNat n1) (Ty.dflt TWr)))) (Ty.dflt TBk)))),.l TWr l8]):=sP [1]<|sT (dt h0)<|sTo (c:=(inR n1 (List.length l8)))<|sP [1]<|sT (dt h1)<|sTo (c:=(inR n1 (List.length l6)))<|sP [1]<|sF (bf h2)<|sT h3<|sP [1]<|sT h4<|sP [1]<|sT h4<|sP [1,1]<|sL
theorem m3u {n0 n1 n2:Int}{b3:Bool}{n4:Int}{b5:Bool}{l6:List (Ty.den TB)}{l7:List (Ty.den TBk)}{l8:List (Ty.den TWr)}(g0:0≤n1)(g1:n0=(l8.length:Int))(h0:(n1<n0))(h1:(¬n1<(↑(List.length l6):Int)))(h2:(inR (Prod.fst (List.getD l8 (Int.toNat n1) (Ty.dflt TWr))) (List.length l7)=true)):(h3s [.k 0,.n n0,.n n1,.n n2,.b b3,.n n4,.b b5,.l TB l6,.l TBk l7,.l TWr l8]).sel=some (Step.go [.k 0,.n n0,.n (IntKind.wrap .i64 (n1+(1:Int))),.n n2,.b b3,.n n4,.b b5,.l TB l6,.l TBk (List.set l7 (Int.toNat (Prod.fst (List.getD l8 (Int.toNat n1) (Ty.dflt TWr)))) ([]++List.drop 0 (List.getD l7 (Int.toNat (Prod.fst (List.getD l8 (Int.toNat n1) (Ty.dflt TWr)))) (Ty.dflt TBk)))),.l TWr l8]):=sP [1]<|sT (dt h0)<|sTo (c:=(inR n1 (List.length l8)))<|sP [1]<|sF (df h1)<|sP [1,0]<|sT h2<|sP [1,1,1,1,1,1]<|sL
theorem o3l {n0 n1 n2:Int}{b3:Bool}{n4:Int}{b5:Bool}{l6:List (Ty.den TB)}{l7:List (Ty.den TBk)}{l8:List (Ty.den TWr)}(g0:0≤n1)(g1:n0=(l8.length:Int))(h0:(¬n1<n0)):(h3s [.k 0,.n n0,.n n1,.n n2,.b b3,.n n4,.b b5,.l TB l6,.l TBk l7,.l TWr l8]).sel=some (Step.stop 0 [.n n2,.b b3,.n n4,.b b5,.l TB l6,.l TBk l7,.l TWr l8]):=sP [1]<|sF (df h0)<|sP [1]<|sL
def S_d41:BSh:={args:=[.ptr 0 0,fnC 41 [.ptr 1 0]],blks:=[dkB 2 3 0,faB 4,.arr TBk 5,.arr TWr 6],log:=[0,2],outs:=[(.tup [],[dkB 2 4 0,faB 4,.arr TBk 5,.gone,.arr TWr 6])]}
def ev_d41:List Dat→Tree (Nat×List Dat):=evFV [(some 0,1,.own TWr)] m3w 40 (lsM [(1,v3u)] 4) S_d41
theorem e_d41: ∃op,IsF ev_d41 40 S_d41 op:=bxFV i3a (lsE (lsC (h3d k3r) (atF) lsZ))
def m3c:OpA:=opF e_d41
theorem t3o {n0:Int}{b1:Bool}{n2:Int}{b3:Bool}{l4:List (Ty.den TB)}{l5:List (Ty.den TBk)}{l6:List (Ty.den TWr)}{n7:Int}{b8:Bool}{n9:Int}{b10:Bool}{l11:List (Ty.den TB)}{l12:List (Ty.den TBk)}{l13:List (Ty.den TWr)}(h0:(k3k [.k 0,.n (↑(List.length l6):Int),.n (0:Int),.n n0,.b b1,.n n2,.b b3,.l TB l4,.l TBk l5,.l TWr l6])=(some (0,[.n n7,.b b8,.n n9,.b b10,.l TB l11,.l TBk l12,.l TWr l13]))):m3c [.n n0,.b b1,.n n2,.b b3,.l TB l4,.l TBk l5,.l TWr l6]=some ((0,[.n n7,.b b8,.n n9,.b b10,.l TB l11,.l TBk l12,.l TWr []])):=s1c e_d41 (sA h0<|sP [1,1]<|sL)
def o3t:FuncId→Option a0q:=e1c 40 [S_d44.k m3b,S_d41.k m3c] m3w
theorem j3g:CsOk Try.prog o3t:=h0a i3a fun B hB=>by
 simp only[List.mem_cons,List.not_mem_nil,or_false]at hB
 rcases hB with rfl|rfl
 ·exact k3d e_d44
 ·exact k3d e_d41
def S_d17:BSh:={args:=[.ptr 0 0,.int .i64 0,.imm TB 1],blks:=[dkB 1 2 2,.arr TBk 6,.arr TWr 7],log:=[0,2],outs:=[(.int .i64 0,[dkB 1 2 1,.arr TBk 5,.arr TWr 6])]}
def ev_d17:List Dat→Tree (Nat×List Dat):=evF o3t 17 ls0 S_d17
theorem l3e: ∃op,IsF ev_d17 17 S_d17 op:=bxF j3g (LsOk.none _ _ _)
def h3n:OpA:=opF l3e
theorem r3t {n0:Int}{l1:List (Ty.den TB)}{n2:Int}{b3:Bool}{n4:Int}{b5:Bool}{l6:List (Ty.den TBk)}{l7:List (Ty.den TWr)}(h0:(b5=true)):h3n [.n n0,.l TB l1,.n n2,.b b3,.n n4,.b b5,.l TBk l6,.l TWr l7]=some ((0,[.n (140:Int),.n n2,.b b3,.n n4,.b b5,.l TBk l6,.l TWr l7])):=s1c l3e (sP [1,0]<|sT h0<|sP [1,1,1]<|sL)
theorem u3h {n0:Int}{l1:List (Ty.den TB)}{n2:Int}{b3:Bool}{n4:Int}{b5:Bool}{l6:List (Ty.den TBk)}{l7:List (Ty.den TWr)}(h0:(b5=false))(h1:(n0≥(0:Int)))(h2:(¬n0<(↑(List.length l6):Int))):h3n [.n n0,.l TB l1,.n n2,.b b3,.n n4,.b b5,.l TBk l6,.l TWr l7]=some ((0,[.n (2:Int),.n n2,.b b3,.n n4,.b b5,.l TBk l6,.l TWr l7])):=s1c l3e (sP [1,0]<|sF h0<|sP [1,0,1]<|sT (dt h1)<|sP [1]<|sT (nf (df h2))<|sP [1]<|sL)
theorem t3y {n0:Int}{l1:List (Ty.den TB)}{n2:Int}{b3:Bool}{n4:Int}{b5:Bool}{l6:List (Ty.den TBk)}{l7:List (Ty.den TWr)}(h0:(b5=false))(h1:(n0≥(0:Int)))(h2:(n0<(↑(List.length l6):Int)))(h3:((↑(List.length l1):Int)>(256:Int))):h3n [.n n0,.l TB l1,.n n2,.b b3,.n n4,.b b5,.l TBk l6,.l TWr l7]=some ((0,[.n (3:Int),.n n2,.b b3,.n n4,.b b5,.l TBk l6,.l TWr l7])):=s1c l3e (sP [1,0]<|sF h0<|sP [1,0,1]<|sT (dt h1)<|sP [1]<|sF (nt (dt h2))<|sT (dt h3)<|sP [1]<|sL)
theorem s3w {n0:Int}{l1:List (Ty.den TB)}{n2:Int}{b3:Bool}{n4:Int}{b5:Bool}{l6:List (Ty.den TBk)}{l7:List (Ty.den TWr)}(h0:(b5=false))(h1:(n0≥(0:Int)))(h2:(n0<(↑(List.length l6):Int)))(h3:(¬(↑(List.length l1):Int)>(256:Int)))(h4:((List.length l7+1)*264≤140737488355328))(h5:(b3=true))(h6:(n4=(0:Int))):h3n [.n n0,.l TB l1,.n n2,.b b3,.n n4,.b b5,.l TBk l6,.l TWr l7]=some ((0,[.n (140:Int),.n (IntKind.wrap .i64 (n2+(1:Int))),.b false,.n n4,.b true,.l TBk l6,.l TWr (apL l7 [(n0,List.take 256 l1++List.drop (List.length l1) (List.replicate 256 (0:Int)))])])):=s1c l3e (sP [1,0]<|sF h0<|sP [1,0,1]<|sT (dt h1)<|sP [1]<|sF (nt (dt h2))<|sF (df h3)<|sP [1,1,1]<|sT (dt h4)<|sP [1,1]<|sT h5<|sT (bt h6)<|sP [1,1,1,1,1]<|sL)
theorem t3e {n0:Int}{l1:List (Ty.den TB)}{n2:Int}{b3:Bool}{n4:Int}{b5:Bool}{l6:List (Ty.den TBk)}{l7:List (Ty.den TWr)}(h0:(b5=false))(h1:(n0≥(0:Int)))(h2:(n0<(↑(List.length l6):Int)))(h3:(¬(↑(List.length l1):Int)>(256:Int)))(h4:((List.length l7+1)*264≤140737488355328))(h5:(b3=true))(h6:(¬n4=(0:Int))):h3n [.n n0,.l TB l1,.n n2,.b b3,.n n4,.b b5,.l TBk l6,.l TWr l7]=some ((0,[.n (0:Int),.n (IntKind.wrap .i64 (n2+(1:Int))),.b b3,.n (IntKind.wrap .i64 (n4-(1:Int))),.b b5,.l TBk l6,.l TWr (apL l7 [(n0,List.take 256 l1++List.drop (List.length l1) (List.replicate 256 (0:Int)))])])):=s1c l3e (sP [1,0]<|sF h0<|sP [1,0,1]<|sT (dt h1)<|sP [1]<|sF (nt (dt h2))<|sF (df h3)<|sP [1,1,1]<|sT (dt h4)<|sP [1,1]<|sT h5<|sF (bf h6)<|sT h5<|sP [1,1,1,1]<|sL)
theorem s3v {n0:Int}{l1:List (Ty.den TB)}{n2:Int}{b3:Bool}{n4:Int}{b5:Bool}{l6:List (Ty.den TBk)}{l7:List (Ty.den TWr)}(h0:(b5=false))(h1:(n0≥(0:Int)))(h2:(n0<(↑(List.length l6):Int)))(h3:(¬(↑(List.length l1):Int)>(256:Int)))(h4:((List.length l7+1)*264≤140737488355328))(h5:(b3=false)):h3n [.n n0,.l TB l1,.n n2,.b b3,.n n4,.b b5,.l TBk l6,.l TWr l7]=some ((0,[.n (0:Int),.n (IntKind.wrap .i64 (n2+(1:Int))),.b b3,.n n4,.b b5,.l TBk l6,.l TWr (apL l7 [(n0,List.take 256 l1++List.drop (List.length l1) (List.replicate 256 (0:Int)))])])):=s1c l3e (sP [1,0]<|sF h0<|sP [1,0,1]<|sT (dt h1)<|sP [1]<|sF (nt (dt h2))<|sF (df h3)<|sP [1,1,1]<|sT (dt h4)<|sP [1,1]<|sF h5<|sP [0,0]<|sF h5<|sP [1,1,1,1]<|sL)
theorem s3b {n0:Int}{l1:List (Ty.den TB)}{n2:Int}{b3:Bool}{n4:Int}{b5:Bool}{l6:List (Ty.den TBk)}{l7:List (Ty.den TWr)}(h0:(b5=false))(h1:(¬n0≥(0:Int))):h3n [.n n0,.l TB l1,.n n2,.b b3,.n n4,.b b5,.l TBk l6,.l TWr l7]=some ((0,[.n (2:Int),.n n2,.b b3,.n n4,.b b5,.l TBk l6,.l TWr l7])):=s1c l3e (sP [1,0]<|sF h0<|sP [1,0,1]<|sF (df h1)<|sP [0,1,1,1]<|sL)
def t3z:BSh:={args:=[.ptr 0 0,.int .i64 0,.own 1],blks:=[dkB 2 3 1,.arr TB 5,.arr TBk 6,.arr TWr 7],log:=[0,3],outs:=[(.int .i64 0,[dkB 2 3 1,.arr TB 5,.arr TBk 6,.arr TWr 7])]}
def ev_d17o:List Dat→Tree (Nat×List Dat):=evF o3t 17 ls0 t3z
theorem i3m: ∃op,IsF ev_d17o 17 t3z op:=bxF j3g (LsOk.none _ _ _)
def h3l:OpA:=opF i3m
theorem q3x {n0 n1:Int}{b2:Bool}{n3:Int}{b4:Bool}{l5:List (Ty.den TB)}{l6:List (Ty.den TBk)}{l7:List (Ty.den TWr)}(h0:(b4=true)):h3l [.n n0,.n n1,.b b2,.n n3,.b b4,.l TB l5,.l TBk l6,.l TWr l7]=some ((0,[.n (140:Int),.n n1,.b b2,.n n3,.b b4,.l TB l5,.l TBk l6,.l TWr l7])):=s1c i3m (sP [1,0]<|sT h0<|sP [1,1,1]<|sL)
theorem q3a {n0 n1:Int}{b2:Bool}{n3:Int}{b4:Bool}{l5:List (Ty.den TB)}{l6:List (Ty.den TBk)}{l7:List (Ty.den TWr)}(h0:(b4=false))(h1:(n0≥(0:Int)))(h2:(¬n0<(↑(List.length l6):Int))):h3l [.n n0,.n n1,.b b2,.n n3,.b b4,.l TB l5,.l TBk l6,.l TWr l7]=some ((0,[.n (2:Int),.n n1,.b b2,.n n3,.b b4,.l TB l5,.l TBk l6,.l TWr l7])):=s1c i3m (sP [1,0]<|sF h0<|sP [1,0,1]<|sT (dt h1)<|sP [1]<|sT (nf (df h2))<|sP [1]<|sL)
theorem q3c {n0 n1:Int}{b2:Bool}{n3:Int}{b4:Bool}{l5:List (Ty.den TB)}{l6:List (Ty.den TBk)}{l7:List (Ty.den TWr)}(h0:(b4=false))(h1:(n0≥(0:Int)))(h2:(n0<(↑(List.length l6):Int)))(h3:((↑(List.length l5):Int)>(256:Int))):h3l [.n n0,.n n1,.b b2,.n n3,.b b4,.l TB l5,.l TBk l6,.l TWr l7]=some ((0,[.n (3:Int),.n n1,.b b2,.n n3,.b b4,.l TB l5,.l TBk l6,.l TWr l7])):=s1c i3m (sP [1,0]<|sF h0<|sP [1,0,1]<|sT (dt h1)<|sP [1]<|sF (nt (dt h2))<|sT (dt h3)<|sP [1]<|sL)
theorem p3y {n0 n1:Int}{b2:Bool}{n3:Int}{b4:Bool}{l5:List (Ty.den TB)}{l6:List (Ty.den TBk)}{l7:List (Ty.den TWr)}(h0:(b4=false))(h1:(n0≥(0:Int)))(h2:(n0<(↑(List.length l6):Int)))(h3:(¬(↑(List.length l5):Int)>(256:Int)))(h4:((List.length l7+1)*264≤140737488355328))(h5:(b2=true))(h6:(n3=(0:Int))):h3l [.n n0,.n n1,.b b2,.n n3,.b b4,.l TB l5,.l TBk l6,.l TWr l7]=some ((0,[.n (140:Int),.n (IntKind.wrap .i64 (n1+(1:Int))),.b false,.n n3,.b true,.l TB l5,.l TBk l6,.l TWr (apL l7 [(n0,List.take 256 l5++List.drop (List.length l5) (List.replicate 256 (0:Int)))])])):=s1c i3m (sP [1,0]<|sF h0<|sP [1,0,1]<|sT (dt h1)<|sP [1]<|sF (nt (dt h2))<|sF (df h3)<|sP [1,1,1]<|sT (dt h4)<|sP [1,1]<|sT h5<|sT (bt h6)<|sP [1,1,1,1,1]<|sL)
theorem r3i {n0 n1:Int}{b2:Bool}{n3:Int}{b4:Bool}{l5:List (Ty.den TB)}{l6:List (Ty.den TBk)}{l7:List (Ty.den TWr)}(h0:(b4=false))(h1:(n0≥(0:Int)))(h2:(n0<(↑(List.length l6):Int)))(h3:(¬(↑(List.length l5):Int)>(256:Int)))(h4:((List.length l7+1)*264≤140737488355328))(h5:(b2=true))(h6:(¬n3=(0:Int))):h3l [.n n0,.n n1,.b b2,.n n3,.b b4,.l TB l5,.l TBk l6,.l TWr l7]=some ((0,[.n (0:Int),.n (IntKind.wrap .i64 (n1+(1:Int))),.b b2,.n (IntKind.wrap .i64 (n3-(1:Int))),.b b4,.l TB l5,.l TBk l6,.l TWr (apL l7 [(n0,List.take 256 l5++List.drop (List.length l5) (List.replicate 256 (0:Int)))])])):=s1c i3m (sP [1,0]<|sF h0<|sP [1,0,1]<|sT (dt h1)<|sP [1]<|sF (nt (dt h2))<|sF (df h3)<|sP [1,1,1]<|sT (dt h4)<|sP [1,1]<|sT h5<|sF (bf h6)<|sT h5<|sP [1,1,1,1]<|sL)
theorem q3q {n0 n1:Int}{b2:Bool}{n3:Int}{b4:Bool}{l5:List (Ty.den TB)}{l6:List (Ty.den TBk)}{l7:List (Ty.den TWr)}(h0:(b4=false))(h1:(n0≥(0:Int)))(h2:(n0<(↑(List.length l6):Int)))(h3:(¬(↑(List.length l5):Int)>(256:Int)))(h4:((List.length l7+1)*264≤140737488355328))(h5:(b2=false)):h3l [.n n0,.n n1,.b b2,.n n3,.b b4,.l TB l5,.l TBk l6,.l TWr l7]=some ((0,[.n (0:Int),.n (IntKind.wrap .i64 (n1+(1:Int))),.b b2,.n n3,.b b4,.l TB l5,.l TBk l6,.l TWr (apL l7 [(n0,List.take 256 l5++List.drop (List.length l5) (List.replicate 256 (0:Int)))])])):=s1c i3m (sP [1,0]<|sF h0<|sP [1,0,1]<|sT (dt h1)<|sP [1]<|sF (nt (dt h2))<|sF (df h3)<|sP [1,1,1]<|sT (dt h4)<|sP [1,1]<|sF h5<|sP [0,0]<|sF h5<|sP [1,1,1,1]<|sL)
theorem p3r {n0 n1:Int}{b2:Bool}{n3:Int}{b4:Bool}{l5:List (Ty.den TB)}{l6:List (Ty.den TBk)}{l7:List (Ty.den TWr)}(h0:(b4=false))(h1:(¬n0≥(0:Int))):h3l [.n n0,.n n1,.b b2,.n n3,.b b4,.l TB l5,.l TBk l6,.l TWr l7]=some ((0,[.n (2:Int),.n n1,.b b2,.n n3,.b b4,.l TB l5,.l TBk l6,.l TWr l7])):=s1c i3m (sP [1,0]<|sF h0<|sP [1,0,1]<|sF (df h1)<|sP [0,1,1,1]<|sL)
def o3h:FuncId→Option a0q:=e1c 17 [S_d17.k h3n,t3z.k h3l] o3t
theorem k3e:CsOk Try.prog o3h:=h0a j3g fun B hB=>by
 simp only[List.mem_cons,List.not_mem_nil,or_false]at hB
 rcases hB with rfl|rfl
 ·exact k3d l3e
 ·exact k3d i3m
def S_d16:BSh:={args:=[.ptr 0 0],blks:=[dkB 1 2 0,.arr TBk 4,.arr TWr 5],log:=[0,1],outs:=[(.int .i64 0,[dkB 1 2 1,.arr TBk 5,.arr TWr 6]),(.int .i64 0,[dkB 1 3 1,.arr TBk 5,.gone,.arr TWr 6])]}
def ev_d16:List Dat→Tree (Nat×List Dat):=evFV [(some 0,1,.own TWr)] o3h 16 ls0 S_d16
theorem q3i: ∃op,IsF ev_d16 16 S_d16 op:=bxFV k3e (LsOk.none _ _ _)
def h3o:OpA:=opF q3i
theorem s3s {n0:Int}{b1:Bool}{n2:Int}{b3:Bool}{l4:List (Ty.den TBk)}{l5:List (Ty.den TWr)}(h0:(b3=true)):h3o [.n n0,.b b1,.n n2,.b b3,.l TBk l4,.l TWr l5]=some ((0,[.n (140:Int),.n n0,.b b1,.n n2,.b b3,.l TBk l4,.l TWr l5])):=s1c q3i (sP [1,0]<|sT h0<|sP [1,1,1]<|sL)
theorem s3c {n0:Int}{b1:Bool}{n2:Int}{b3:Bool}{l4:List (Ty.den TBk)}{l5:List (Ty.den TWr)}(h0:(b3=false))(h1:(b1=true))(h2:(n2=(0:Int))):h3o [.n n0,.b b1,.n n2,.b b3,.l TBk l4,.l TWr l5]=some ((0,[.n (140:Int),.n (IntKind.wrap .i64 (n0+(1:Int))),.b false,.n n2,.b true,.l TBk l4,.l TWr l5])):=s1c q3i (sP [1,0]<|sF h0<|sP [1,0,1,1,1]<|sT h1<|sT (bt h2)<|sP [1,1,1,1,1]<|sL)
theorem t3f {n0:Int}{b1:Bool}{n2:Int}{b3:Bool}{l4:List (Ty.den TBk)}{l5:List (Ty.den TWr)}{n6:Int}{b7:Bool}{n8:Int}{b9:Bool}{l10:List (Ty.den TBk)}{l11:List (Ty.den TWr)}(h0:(b3=false))(h1:(b1=true))(h2:(¬n2=(0:Int)))(h3:(m3b [.n (IntKind.wrap .i64 (n0+(1:Int))),.b b1,.n (IntKind.wrap .i64 (n2-(1:Int))),.b b3,.l TBk l4,.l TWr l5])=(some (0,[.n n6,.b b7,.n n8,.b b9,.l TBk l10,.l TWr l11]))):h3o [.n n0,.b b1,.n n2,.b b3,.l TBk l4,.l TWr l5]=some ((1,[.n (0:Int),.n n6,.b b7,.n n8,.b b9,.l TBk l10,.l TWr l11])):=s1c q3i (sP [1,0]<|sF h0<|sP [1,0,1,1,1]<|sT h1<|sF (bf h2)<|sT h1<|sP [1,1]<|sA h3<|sP [1,1,1,1,1]<|sL)
theorem t3t {n0:Int}{b1:Bool}{n2:Int}{b3:Bool}{l4:List (Ty.den TBk)}{l5:List (Ty.den TWr)}{n6:Int}{b7:Bool}{n8:Int}{b9:Bool}{l10:List (Ty.den TBk)}{l11:List (Ty.den TWr)}(h0:(b3=false))(h1:(b1=false))(h2:(m3b [.n (IntKind.wrap .i64 (n0+(1:Int))),.b b1,.n n2,.b b3,.l TBk l4,.l TWr l5])=(some (0,[.n n6,.b b7,.n n8,.b b9,.l TBk l10,.l TWr l11]))):h3o [.n n0,.b b1,.n n2,.b b3,.l TBk l4,.l TWr l5]=some ((1,[.n (0:Int),.n n6,.b b7,.n n8,.b b9,.l TBk l10,.l TWr l11])):=s1c q3i (sP [1,0]<|sF h0<|sP [1,0,1,1,1]<|sF h1<|sP [0,0]<|sF h1<|sP [1,1]<|sA h2<|sP [1,1,1,1,1]<|sL)
def u3v:FuncId→Option a0q:=e1c 16 [S_d16.k h3o] o3h
theorem l3q:CsOk Try.prog u3v:=csA1 k3e q3i
def S_d19:BSh:={args:=[.ptr 0 0,.imm TB 0],blks:=[dkB 1 2 1,.arr TBk 5,.arr TWr 6],log:=[0,1],outs:=[(.tup [],[dkB 1 2 0,.arr TBk 4,.arr TWr 5]),(.tup [],[dkB 1 3 0,.arr TBk 4,.gone,.arr TWr 5])]}
def ev_d19:List Dat→Tree (Nat×List Dat):=evFV [(some 0,1,.own TWr)] u3v 19 ls0 S_d19
theorem v3o: ∃op,IsF ev_d19 19 S_d19 op:=bxFV l3q (LsOk.none _ _ _)
def k3h:OpA:=opF v3o
theorem r3r {l0:List (Ty.den TB)}{n1:Int}{b2:Bool}{n3:Int}{b4:Bool}{l5:List (Ty.den TBk)}{l6:List (Ty.den TWr)}{n7:Int}{b8:Bool}{n9:Int}{b10:Bool}{l11:List (Ty.den TB)}{l12:List (Ty.den TBk)}{l13:List (Ty.den TWr)}(h0:(b4=true))(h1:(m3c [.n n1,.b b2,.n n3,.b b4,.l TB l0,.l TBk l5,.l TWr l6])=(some (0,[.n n7,.b b8,.n n9,.b b10,.l TB l11,.l TBk l12,.l TWr l13]))):k3h [.l TB l0,.n n1,.b b2,.n n3,.b b4,.l TBk l5,.l TWr l6]=some ((1,[.n n7,.b false,.n n9,.b false,.l TBk l12,.l TWr l13])):=s1c v3o (sP [0]<|sT h0<|sP [1]<|sA h1<|sP [1,1,1]<|sL)
theorem s3e {l0:List (Ty.den TB)}{n1:Int}{b2:Bool}{n3:Int}{b4:Bool}{l5:List (Ty.den TBk)}{l6:List (Ty.den TWr)}(h0:(b4=false)):k3h [.l TB l0,.n n1,.b b2,.n n3,.b b4,.l TBk l5,.l TWr l6]=some ((0,[.n n1,.b false,.n n3,.b false,.l TBk l5,.l TWr l6])):=s1c v3o (sP [0]<|sF h0<|sP [1]<|sL)
def p3d:FuncId→Option a0q:=e1c 19 [S_d19.k k3h] u3v
theorem j3h:CsOk Try.prog p3d:=csA1 l3q v3o
def s3n:LSh:={K:=3,log:=[],ins:=[(sh 43 [(1,.int .i64 0),(7,.ptr 3 0),(29,.own 2),(30,.int .i64 1),(31,.int .i64 2)],[dkB 1 2 3,.arr TBk 7,.arr TWr 8,.cells [.arrd TB 256 9]])],nils:=[],outs:=[(.exit 0,sh 43 [(7,.ptr 3 0)],[dkB 1 2 0,.arr TBk 4,.arr TWr 5,.cells [.arrd TB 256 6]])],cv:=[]}
def i3c:List Dat→Tree Step:=evL p3d 20 8 ls0 s3n
theorem l3a: ∃op,IsL i3c 20 8 s3n op:=bxL j3h (LsOk.none _ _ _)
def k3t:OpA:=opL l3a
theorem n3y (env:List Dat):k3t env=a0b i3c FU env:=h3g l3a env
abbrev v3d:MBox:=boxL l3a
theorem n3i {n0 n1 n2 n3:Int}{b4:Bool}{n5:Int}{b6:Bool}{l7:List (Ty.den TBk)}{l8:List (Ty.den TWr)}{l9:List (Ty.den TB)}(g0:0≤n2)(g1:n1=(l8.length:Int))(h0:(n2<n1))(h1:((Prod.fst (List.getD l8 (Int.toNat n2) (Ty.dflt TWr)):Int)=n0)):(i3c [.k 0,.n n0,.n n1,.n n2,.n n3,.b b4,.n n5,.b b6,.l TBk l7,.l TWr l8,.l TB l9]).sel=some (Step.go [.k 0,.n n0,.n n1,.n (IntKind.wrap .i64 (n2+(1:Int))),.n n3,.b b4,.n n5,.b b6,.l TBk l7,.l TWr l8,.l TB (Prod.snd (List.getD l8 (Int.toNat n2) (Ty.dflt TWr)))]):=sP [1]<|sT (dt h0)<|sTo (c:=(inR n2 (List.length l8)))<|sT (bt h1)<|sP [1]<|sL
theorem o3d {n0 n1 n2 n3:Int}{b4:Bool}{n5:Int}{b6:Bool}{l7:List (Ty.den TBk)}{l8:List (Ty.den TWr)}{l9:List (Ty.den TB)}(g0:0≤n2)(g1:n1=(l8.length:Int))(h0:(n2<n1))(h1:(¬(Prod.fst (List.getD l8 (Int.toNat n2) (Ty.dflt TWr)):Int)=n0)):(i3c [.k 0,.n n0,.n n1,.n n2,.n n3,.b b4,.n n5,.b b6,.l TBk l7,.l TWr l8,.l TB l9]).sel=some (Step.go [.k 0,.n n0,.n n1,.n (IntKind.wrap .i64 (n2+(1:Int))),.n n3,.b b4,.n n5,.b b6,.l TBk l7,.l TWr l8,.l TB l9]):=sP [1]<|sT (dt h0)<|sTo (c:=(inR n2 (List.length l8)))<|sF (bf h1)<|sP [1]<|sL
theorem o3a {n0 n1 n2 n3:Int}{b4:Bool}{n5:Int}{b6:Bool}{l7:List (Ty.den TBk)}{l8:List (Ty.den TWr)}{l9:List (Ty.den TB)}(g0:0≤n2)(g1:n1=(l8.length:Int))(h0:(¬n2<n1)):(i3c [.k 0,.n n0,.n n1,.n n2,.n n3,.b b4,.n n5,.b b6,.l TBk l7,.l TWr l8,.l TB l9]).sel=some (Step.stop 0 [.n n3,.b b4,.n n5,.b b6,.l TBk l7,.l TWr l8,.l TB l9]):=sP [1]<|sF (df h0)<|sP [1]<|sL
def S_d20:BSh:={args:=[.ptr 0 0,.int .i64 0],blks:=[dkB 1 2 1,.arr TBk 5,.arr TWr 6],log:=[],outs:=[(.tup [.nilsl,.int .i64 0],[dkB 1 2 1,.arr TBk 5,.arr TWr 6]),(.tup [.asl 3 0 256,.int .i64 0],[dkB 1 2 1,.arr TBk 5,.arr TWr 6,.cells [.arrd TB 256 7]])]}
def ev_d20:List Dat→Tree (Nat×List Dat):=evF p3d 20 (lsM [(8,v3d)] 3) S_d20
theorem p3w: ∃op,IsF ev_d20 20 S_d20 op:=bxF j3h (lsE (lsC (h3d l3a) (atF) lsZ))
def h3w:OpA:=opF p3w
theorem r3k {n0 n1:Int}{b2:Bool}{n3:Int}{b4:Bool}{l5:List (Ty.den TBk)}{l6:List (Ty.den TWr)}(h0:(b4=true)):h3w [.n n0,.n n1,.b b2,.n n3,.b b4,.l TBk l5,.l TWr l6]=some ((0,[.n (140:Int),.n n1,.b b2,.n n3,.b b4,.l TBk l5,.l TWr l6])):=s1c p3w (sP [1,0]<|sT h0<|sP [1,1,1]<|sL)
theorem t3s {n0 n1:Int}{b2:Bool}{n3:Int}{b4:Bool}{l5:List (Ty.den TBk)}{l6:List (Ty.den TWr)}(h0:(b4=false))(h1:(n0≥(0:Int)))(h2:(¬n0<(↑(List.length l5):Int))):h3w [.n n0,.n n1,.b b2,.n n3,.b b4,.l TBk l5,.l TWr l6]=some ((0,[.n (2:Int),.n n1,.b b2,.n n3,.b b4,.l TBk l5,.l TWr l6])):=s1c p3w (sP [1,0]<|sF h0<|sP [1,0,1]<|sT (dt h1)<|sP [1]<|sT (nf (df h2))<|sP [1]<|sL)
theorem u3i {n0 n1:Int}{b2:Bool}{n3:Int}{b4:Bool}{l5:List (Ty.den TBk)}{l6:List (Ty.den TWr)}{n7:Int}{b8:Bool}{n9:Int}{b10:Bool}{l11:List (Ty.den TBk)}{l12:List (Ty.den TWr)}{l13:List (Ty.den TB)}(h0:(b4=false))(h1:(n0≥(0:Int)))(h2:(n0<(↑(List.length l5):Int)))(h3:(k3t [.k 0,.n n0,.n (↑(List.length l6):Int),.n (0:Int),.n n1,.b b2,.n n3,.b b4,.l TBk l5,.l TWr l6,.l TB (List.getD l5 (Int.toNat n0) (Ty.dflt TBk))])=(some (0,[.n n7,.b b8,.n n9,.b b10,.l TBk l11,.l TWr l12,.l TB l13]))):h3w [.n n0,.n n1,.b b2,.n n3,.b b4,.l TBk l5,.l TWr l6]=some ((1,[.n (0:Int),.n n7,.b b8,.n n9,.b b10,.l TBk l11,.l TWr l12,.l TB l13])):=s1c p3w (sP [1,0]<|sF h0<|sP [1,0,1]<|sT (dt h1)<|sP [1]<|sF (nt (dt h2))<|sTo (c:=(inR n0 (List.length l5)))<|sA h3<|sP [1,1,1]<|sL)
theorem s3d {n0 n1:Int}{b2:Bool}{n3:Int}{b4:Bool}{l5:List (Ty.den TBk)}{l6:List (Ty.den TWr)}(h0:(b4=false))(h1:(¬n0≥(0:Int))):h3w [.n n0,.n n1,.b b2,.n n3,.b b4,.l TBk l5,.l TWr l6]=some ((0,[.n (2:Int),.n n1,.b b2,.n n3,.b b4,.l TBk l5,.l TWr l6])):=s1c p3w (sP [1,0]<|sF h0<|sP [1,0,1]<|sF (df h1)<|sP [0,1,1,1]<|sL)
def t3d:FuncId→Option a0q:=e1c 20 [S_d20.k h3w] p3d
theorem l3z:CsOk Try.prog t3d:=csA1 j3h p3w
def S_d11:BSh:={args:=[.ptr 0 0],blks:=[dkB 1 2 0,.arr TBk 4,.arr TWr 5],log:=[],outs:=[(.ptr 3 0,[dkB 1 2 0,.arr TBk 4,.arr TWr 5,dkB 4 5 6,.arr TBk 10,.arr TWr 11])]}
def ev_d11:List Dat→Tree (Nat×List Dat):=evF t3d 11 ls0 S_d11
theorem e_d11: ∃op,IsF ev_d11 11 S_d11 op:=bxF l3z (LsOk.none _ _ _)
def m3f:OpA:=opF e_d11
theorem u3r {n0:Int}{b1:Bool}{n2:Int}{b3:Bool}{l4:List (Ty.den TBk)}{l5:List (Ty.den TWr)}{l6:List (Ty.den TBk)}{l7:List (Ty.den TWr)}(h0:(m3d [.l TBk l4])=(some (0,[.l TBk l6])))(h1:(m3h [.l TWr l5])=(some (0,[.l TWr l7]))):m3f [.n n0,.b b1,.n n2,.b b3,.l TBk l4,.l TWr l5]=some ((0,[.n n0,.b b1,.n n2,.b b3,.l TBk l4,.l TWr l5,.n n0,.b b1,.n n2,.b b3,.l TBk l6,.l TWr l7])):=s1c e_d11 (sP [0]<|sA h0<|sP [1,1]<|sA h1<|sP [1,1,1,1]<|sL)
def o3u:FuncId→Option a0q:=e1c 11 [S_d11.k m3f] t3d
theorem j3o:CsOk Try.prog o3u:=csA1 l3z e_d11
def mkN (a h:Nat):PB:=.cells [.own a,.nilsl,.int .i64 h,.bool (h+1),.int .i64 (h+2),.bool (h+3)]
def t3r:LSh:={K:=0,log:=[],ins:=[(sh 15 [(3,.own 0)],[.arr TB 0])],nils:=[],outs:=[(.exit 0,sh 15 [(3,.own 0)],[.arr TB 0])],cv:=[]}
def i3o:List Dat→Tree Step:=evL o3u 25 3 ls0 t3r
theorem k3m: ∃op,IsL i3o 25 3 t3r op:=bxL j3o (LsOk.none _ _ _)
def o3o:OpA:=opL k3m
theorem m3j (env:List Dat):o3o env=a0b i3o FU env:=h3g k3m env
abbrev w3j:MBox:=boxL k3m
theorem m3p {l0:List (Ty.den TB)}(h0:((↑(List.length l0):Int)<(256:Int))):(i3o [.k 0,.l TB l0]).sel=some (Step.go [.k 0,.l TB (l0++[(0:Int)])]):=sP [1]<|sT (dt h0)<|sTo (c:=(decide ((List.length l0+1)*1≤140737488355328)))<|sP [1]<|sL
theorem m3l {l0:List (Ty.den TB)}(h0:(¬(↑(List.length l0):Int)<(256:Int))):(i3o [.k 0,.l TB l0]).sel=some (Step.stop 0 [.l TB l0]):=sP [1]<|sF (df h0)<|sP [1]<|sL
def S_m25:BSh:={args:=[.str 0],blks:=[],log:=[],outs:=[(.str 0,[])]}
def ev_m25:List Dat→Tree (Nat×List Dat):=evF o3u 25 (lsM [(3,w3j)] 0) S_m25
theorem e_m25: ∃op,IsF ev_m25 25 S_m25 op:=bxF j3o (lsE (lsC (h3d k3m) (atF) lsZ))
def j3n:OpA:=opF e_m25
theorem s3i {s0:ByteArray}{l1:List (Ty.den TB)}(h0:(List.length (c0b s0)*1≤140737488355328))(h1:(o3o [.k 0,.l TB (c0b s0)])=(some (0,[.l TB l1]))):j3n [.s s0]=some ((0,[.s (r2b l1)])):=s1c e_m25 (sT (dt h0)<|sA h1<|sP [1,1]<|sL)
def o3w:FuncId→Option a0q:=a0s 25 (S_m25.k j3n) o3u
theorem j3z:CsOk Try.prog o3w:=csL1 j3o e_m25
def R_m9_3:LSh:={K:=0,log:=[],ins:=[(sh 27 [(0,.int .i64 0),(3,.ptr 0 0),(4,.int .i64 1)],[mkN 1 2,.arr TS 6])],nils:=[],outs:=[(.exit 0,sh 27 [(3,.ptr 0 0)],[mkN 1 0,.arr TS 4])],cv:=[(3,[],0,.own TS)]}
def j3j:List Dat→Tree Step:=evL o3w 9 3 ls0 R_m9_3
theorem o3x: ∃op,IsL j3j 9 3 R_m9_3 op:=bxL j3z (LsOk.none _ _ _)
def t3q:OpA:=opL o3x
theorem r3j (env:List Dat):t3q env=a0b j3j FU env:=h3g o3x env
abbrev Bx_m9_3:MBox:=boxL o3x
theorem r3b {n0 n1:Int}{l2:List (Ty.den TS)}{s3:ByteArray}(g0:0≤n1)(h0:(n1<n0))(h1:(n1<(4096:Int)))(h2:(j3n [.s {data:={toList:=[]}}])=(some (0,[.s s3])))(h3:((List.length l2+1)*16≤140737488355328)):(j3j [.k 0,.n n0,.n n1,.n 0,.b false,.n 0,.b false,.l TS l2]).sel=some (Step.go [.k 0,.n n0,.n (IntKind.wrap .i64 (n1+(1:Int))),.n (0:Int),.b false,.n (0:Int),.b false,.l TS (l2++[s3])]):=sP [1]<|sT (dt h0)<|sT (dt h1)<|sA h2<|sP [1,1]<|sT (dt h3)<|sP [1,1]<|sL
theorem p3z {n0 n1:Int}{l2:List (Ty.den TS)}(g0:0≤n1)(h0:(¬n1<n0)):(j3j [.k 0,.n n0,.n n1,.n 0,.b false,.n 0,.b false,.l TS l2]).sel=some (Step.stop 0 [.n (0:Int),.b false,.n (0:Int),.b false,.l TS l2]):=sP [1]<|sF (df h0)<|sP [0,0,1]<|sL
def S_m9:BSh:={args:=[.int .i64 0],blks:=[],log:=[],outs:=[(.ptr 0 0,[dkB 1 2 0,.arr TS 4,.arr TOp 5])]}
def ev_m9:List Dat→Tree (Nat×List Dat):=evFV [(none,0,.own TS),(none,1,.own TOp)] o3w 9 (lsM [(3,Bx_m9_3)] 0) S_m9
theorem e_m9: ∃op,IsF ev_m9 9 S_m9 op:=bxFV j3z (lsE (lsC (h3d o3x) (atF) lsZ))
def v3k:OpA:=opF e_m9
theorem v3i {n0 n1:Int}{b2:Bool}{n3:Int}{b4:Bool}{l5:List (Ty.den TS)}(h0:(t3q [.k 0,.n n0,.n (0:Int),.n (0:Int),.b false,.n (0:Int),.b false,.l TS []])=(some (0,[.n n1,.b b2,.n n3,.b b4,.l TS l5]))):v3k [.n n0]=some ((0,[.n n1,.b b2,.n n3,.b b4,.l TS l5,.l TOp []])):=s1c e_m9 (sA h0<|sP [1,1]<|sL)
def v3c:FuncId→Option a0q:=e1c 9 [S_m9.k v3k] o3w
theorem k3z:CsOk Try.prog v3c:=csA1 j3z e_m9
def t3b:LSh:={K:=3,log:=[1],ins:=[(sh 45 [(0,.ptr 0 0),(3,.int .i64 0)],[dkB 1 2 1,.arr TS 5,.arr TOp 6])],nils:=[],outs:=[(.exit 0,sh 45 [(0,.ptr 0 0)],[dkB 1 2 0,.arr TS 4,.arr TOp 5])],cv:=[]}
def i3i:List Dat→Tree Step:=evL v3c 28 4 ls0 t3b
theorem k3v: ∃op,IsL i3i 28 4 t3b op:=bxL k3z (LsOk.none _ _ _)
def j3c:OpA:=opL k3v
theorem o3f (env:List Dat):j3c env=a0b i3i FU env:=h3g k3v env
abbrev v3x:MBox:=boxL k3v
theorem o3k {n0 n1:Int}{b2:Bool}{n3:Int}{b4:Bool}{l5:List (Ty.den TS)}{l6:List (Ty.den TOp)}(g0:0≤n0)(h0:(n0<(↑(List.length l6):Int)))(h1:(inR (Prod.fst (List.getD l6 (Int.toNat n0) (Ty.dflt TOp))) (List.length l5)=true)):(i3i [.k 0,.n n0,.n n1,.b b2,.n n3,.b b4,.l TS l5,.l TOp l6]).sel=some (Step.go [.k 0,.n (IntKind.wrap .i64 (n0+(1:Int))),.n n1,.b b2,.n n3,.b b4,.l TS (List.set l5 (Int.toNat (Prod.fst (List.getD l6 (Int.toNat n0) (Ty.dflt TOp)))) (Prod.snd (List.getD l6 (Int.toNat n0) (Ty.dflt TOp)))),.l TOp l6]):=sP [1]<|sT (dt h0)<|sTo (c:=(inR n0 (List.length l6)))<|sTo (c:=(inR n0 (List.length l6)))<|sT h1<|sP [1,1]<|sL
theorem n3a {n0 n1:Int}{b2:Bool}{n3:Int}{b4:Bool}{l5:List (Ty.den TS)}{l6:List (Ty.den TOp)}(g0:0≤n0)(h0:(¬n0<(↑(List.length l6):Int))):(i3i [.k 0,.n n0,.n n1,.b b2,.n n3,.b b4,.l TS l5,.l TOp l6]).sel=some (Step.stop 0 [.n n1,.b b2,.n n3,.b b4,.l TS l5,.l TOp l6]):=sP [1]<|sF (df h0)<|sP [1]<|sL
def S_m28:BSh:={args:=[.ptr 0 0],blks:=[dkB 1 2 0,.arr TS 4,.arr TOp 5],log:=[0,1],outs:=[(.int .i64 0,[dkB 1 2 1,.arr TS 5,.arr TOp 6]),(.int .i64 0,[dkB 1 3 1,.arr TS 5,.gone,.arr TOp 6])]}
def ev_m28:List Dat→Tree (Nat×List Dat):=evFV [(some 0,1,.own TOp)] v3c 28 (lsM [(4,v3x)] 3) S_m28
theorem q3n: ∃op,IsF ev_m28 28 S_m28 op:=bxFV k3z (lsE (lsC (h3d k3v) (atF) lsZ))
def i3y:OpA:=opF q3n
theorem s3p {n0:Int}{b1:Bool}{n2:Int}{b3:Bool}{l4:List (Ty.den TS)}{l5:List (Ty.den TOp)}(h0:(b3=true)):i3y [.n n0,.b b1,.n n2,.b b3,.l TS l4,.l TOp l5]=some ((0,[.n (140:Int),.n n0,.b b1,.n n2,.b b3,.l TS l4,.l TOp l5])):=s1c q3n (sT h0<|sP [1,1,1]<|sL)
theorem s3f {n0:Int}{b1:Bool}{n2:Int}{b3:Bool}{l4:List (Ty.den TS)}{l5:List (Ty.den TOp)}{n6:Int}{b7:Bool}{n8:Int}{b9:Bool}{l10:List (Ty.den TS)}{l11:List (Ty.den TOp)}(h0:(b3=false))(h1:(b1=false))(h2:(j3c [.k 0,.n (0:Int),.n (IntKind.wrap .i64 (n0+(1:Int))),.b b1,.n n2,.b b3,.l TS l4,.l TOp l5])=(some (0,[.n n6,.b b7,.n n8,.b b9,.l TS l10,.l TOp l11]))):i3y [.n n0,.b b1,.n n2,.b b3,.l TS l4,.l TOp l5]=some ((1,[.n (0:Int),.n n6,.b b7,.n n8,.b b9,.l TS l10,.l TOp []])):=s1c q3n (sF h0<|sP [1]<|sT (nf h1)<|sP [1,0]<|sA h2<|sP [1,1]<|sL)
theorem u3t {n0:Int}{b1:Bool}{n2:Int}{b3:Bool}{l4:List (Ty.den TS)}{l5:List (Ty.den TOp)}{n6:Int}{b7:Bool}{n8:Int}{b9:Bool}{l10:List (Ty.den TS)}{l11:List (Ty.den TOp)}(h0:(b3=false))(h1:(b1=true))(h2:(n2>(0:Int)))(h3:(j3c [.k 0,.n (0:Int),.n (IntKind.wrap .i64 (n0+(1:Int))),.b b1,.n (IntKind.wrap .i64 (n2-(1:Int))),.b b3,.l TS l4,.l TOp l5])=(some (0,[.n n6,.b b7,.n n8,.b b9,.l TS l10,.l TOp l11]))):i3y [.n n0,.b b1,.n n2,.b b3,.l TS l4,.l TOp l5]=some ((1,[.n (0:Int),.n n6,.b b7,.n n8,.b b9,.l TS l10,.l TOp []])):=s1c q3n (sF h0<|sP [1]<|sF (nt h1)<|sT (dt h2)<|sP [1,0]<|sA h3<|sP [1,1]<|sL)
theorem s3r {n0:Int}{b1:Bool}{n2:Int}{b3:Bool}{l4:List (Ty.den TS)}{l5:List (Ty.den TOp)}(h0:(b3=false))(h1:(b1=true))(h2:(¬n2>(0:Int))):i3y [.n n0,.b b1,.n n2,.b b3,.l TS l4,.l TOp l5]=some ((0,[.n (140:Int),.n (IntKind.wrap .i64 (n0+(1:Int))),.b false,.n n2,.b true,.l TS l4,.l TOp l5])):=s1c q3n (sF h0<|sP [1]<|sF (nt h1)<|sF (df h2)<|sP [1,1,1]<|sL)
def p3g:FuncId→Option a0q:=e1c 28 [S_m28.k i3y] v3c
theorem j3l:CsOk Try.prog p3g:=csA1 k3z q3n
def r3w:LSh:={K:=3,log:=[],ins:=[(sh 49 [(0,.ptr 0 0),(1,.int .i64 0),(7,.int .i64 1)],[dkB 1 2 2,.arr TS 6,.arr TOp 7])],nils:=[],outs:=[(.exit 0,sh 49 [(0,.ptr 0 0),(1,.int .i64 0)],[dkB 1 2 1,.arr TS 5,.arr TOp 6]),(.ret,sh 49 [(4,.str 0),(5,.int .i64 1)],[dkB 1 2 2,.arr TS 6,.arr TOp 7])],cv:=[]}
def i3d:List Dat→Tree Step:=evL p3g 29 5 ls0 r3w
theorem k3x: ∃op,IsL i3d 29 5 r3w op:=bxL j3l (LsOk.none _ _ _)
def k3q:OpA:=opL k3x
theorem n3u (env:List Dat):k3q env=a0b i3d FU env:=h3g k3x env
abbrev v3q:MBox:=boxL k3x
theorem m3v {n0 n1 n2:Int}{b3:Bool}{n4:Int}{b5:Bool}{l6:List (Ty.den TS)}{l7:List (Ty.den TOp)}(h0:(n1≥(0:Int)))(h1:(inR n1 (List.length l7)=true))(h2:((Prod.fst (List.getD l7 (Int.toNat n1) (Ty.dflt TOp)):Int)=n0)):(i3d [.k 0,.n n0,.n n1,.n n2,.b b3,.n n4,.b b5,.l TS l6,.l TOp l7]).sel=some (Step.stop 1 [.s (Prod.snd (List.getD l7 (Int.toNat n1) (Ty.dflt TOp))),.n (0:Int),.n n2,.b b3,.n n4,.b b5,.l TS l6,.l TOp l7]):=sP [1]<|sT (dt h0)<|sT h1<|sT (bt h2)<|sT h1<|sP [1]<|sL
theorem o3c {n0 n1 n2:Int}{b3:Bool}{n4:Int}{b5:Bool}{l6:List (Ty.den TS)}{l7:List (Ty.den TOp)}(h0:(n1≥(0:Int)))(h1:(inR n1 (List.length l7)=true))(h2:(¬(Prod.fst (List.getD l7 (Int.toNat n1) (Ty.dflt TOp)):Int)=n0)):(i3d [.k 0,.n n0,.n n1,.n n2,.b b3,.n n4,.b b5,.l TS l6,.l TOp l7]).sel=some (Step.go [.k 0,.n n0,.n (IntKind.wrap .i64 (n1-(1:Int))),.n n2,.b b3,.n n4,.b b5,.l TS l6,.l TOp l7]):=sP [1]<|sT (dt h0)<|sT h1<|sF (bf h2)<|sP [1]<|sL
theorem n3v {n0 n1 n2:Int}{b3:Bool}{n4:Int}{b5:Bool}{l6:List (Ty.den TS)}{l7:List (Ty.den TOp)}(h0:(¬n1≥(0:Int))):(i3d [.k 0,.n n0,.n n1,.n n2,.b b3,.n n4,.b b5,.l TS l6,.l TOp l7]).sel=some (Step.stop 0 [.n n0,.n n2,.b b3,.n n4,.b b5,.l TS l6,.l TOp l7]):=sP [1]<|sF (df h0)<|sP [1]<|sL
def S_m29:BSh:={args:=[.ptr 0 0,.int .i64 0],blks:=[dkB 1 2 1,.arr TS 5,.arr TOp 6],log:=[],outs:=[(.tup [.str 0,.int .i64 1],[dkB 1 2 2,.arr TS 6,.arr TOp 7])]}
def ev_m29:List Dat→Tree (Nat×List Dat):=evF p3g 29 (lsM [(5,v3q)] 3) S_m29
theorem m3y: ∃op,IsF ev_m29 29 S_m29 op:=bxF j3l (lsE (lsC (h3d k3x) (atF) lsZ))
def h3z:OpA:=opF m3y
theorem u3u {n0 n1:Int}{b2:Bool}{n3:Int}{b4:Bool}{l5:List (Ty.den TS)}{l6:List (Ty.den TOp)}(h0:(b4=true)):h3z [.n n0,.n n1,.b b2,.n n3,.b b4,.l TS l5,.l TOp l6]=some ((0,[.s {data:={toList:=[]}},.n (140:Int),.n n1,.b b2,.n n3,.b b4,.l TS l5,.l TOp l6])):=s1c m3y (sP [1]<|sT h0<|sP [1,1,1]<|sL)
theorem u3o {n0 n1:Int}{b2:Bool}{n3:Int}{b4:Bool}{l5:List (Ty.den TS)}{l6:List (Ty.den TOp)}(h0:(b4=false))(h1:(n0<(0:Int))):h3z [.n n0,.n n1,.b b2,.n n3,.b b4,.l TS l5,.l TOp l6]=some ((0,[.s {data:={toList:=[]}},.n (2:Int),.n n1,.b b2,.n n3,.b b4,.l TS l5,.l TOp l6])):=s1c m3y (sP [1]<|sF h0<|sT (dt h1)<|sP [1,1,1,1,1]<|sL)
theorem u3k {n0 n1:Int}{b2:Bool}{n3:Int}{b4:Bool}{l5:List (Ty.den TS)}{l6:List (Ty.den TOp)}(h0:(b4=false))(h1:(¬n0<(0:Int)))(h2:(n0≥(↑(List.length l5):Int))):h3z [.n n0,.n n1,.b b2,.n n3,.b b4,.l TS l5,.l TOp l6]=some ((0,[.s {data:={toList:=[]}},.n (2:Int),.n n1,.b b2,.n n3,.b b4,.l TS l5,.l TOp l6])):=s1c m3y (sP [1]<|sF h0<|sF (df h1)<|sT (dt h2)<|sP [1,1,1]<|sL)
theorem t3p {n0 n1:Int}{b2:Bool}{n3:Int}{b4:Bool}{l5:List (Ty.den TS)}{l6:List (Ty.den TOp)}{n7 n8:Int}{b9:Bool}{n10:Int}{b11:Bool}{l12:List (Ty.den TS)}{l13:List (Ty.den TOp)}(h0:(b4=false))(h1:(¬n0<(0:Int)))(h2:(¬n0≥(↑(List.length l5):Int)))(h3:(k3q [.k 0,.n n0,.n (IntKind.wrap .i64 ((↑(List.length l6):Int)-(1:Int))),.n n1,.b b2,.n n3,.b b4,.l TS l5,.l TOp l6])=(some (0,[.n n7,.n n8,.b b9,.n n10,.b b11,.l TS l12,.l TOp l13])))(h4:(inR n7 (List.length l12)=true)):h3z [.n n0,.n n1,.b b2,.n n3,.b b4,.l TS l5,.l TOp l6]=some ((0,[.s (List.getD l12 (Int.toNat n7) (Ty.dflt TS)),.n (0:Int),.n n8,.b b9,.n n10,.b b11,.l TS l12,.l TOp l13])):=s1c m3y (sP [1]<|sF h0<|sF (df h1)<|sF (df h2)<|sP [1,0]<|sA h3<|sP [1]<|sT h4<|sP [1]<|sL)
theorem r3z {n0 n1:Int}{b2:Bool}{n3:Int}{b4:Bool}{l5:List (Ty.den TS)}{l6:List (Ty.den TOp)}{s7:ByteArray}{n8 n9:Int}{b10:Bool}{n11:Int}{b12:Bool}{l13:List (Ty.den TS)}{l14:List (Ty.den TOp)}(h0:(b4=false))(h1:(¬n0<(0:Int)))(h2:(¬n0≥(↑(List.length l5):Int)))(h3:(k3q [.k 0,.n n0,.n (IntKind.wrap .i64 ((↑(List.length l6):Int)-(1:Int))),.n n1,.b b2,.n n3,.b b4,.l TS l5,.l TOp l6])=(some (1,[.s s7,.n n8,.n n9,.b b10,.n n11,.b b12,.l TS l13,.l TOp l14]))):h3z [.n n0,.n n1,.b b2,.n n3,.b b4,.l TS l5,.l TOp l6]=some ((0,[.s s7,.n n8,.n n9,.b b10,.n n11,.b b12,.l TS l13,.l TOp l14])):=s1c m3y (sP [1]<|sF h0<|sF (df h1)<|sF (df h2)<|sP [1,0]<|sA h3<|sP [0,1,1]<|sL)
def p3i:FuncId→Option a0q:=e1c 29 [S_m29.k h3z] p3g
theorem j3w:CsOk Try.prog p3i:=csA1 j3l m3y
def s3z:LSh:={K:=3,log:=[1],ins:=[(sh 70 [(0,.ptr 0 0),(1,.imm TB 0),(4,.int .i64 1)],[dkB 1 2 2,.arr TS 6,.arr TOp 7])],nils:=[],outs:=[(.exit 0,sh 70 [(0,.ptr 0 0)],[dkB 1 2 0,.arr TS 4,.arr TOp 5])],cv:=[]}
def h3v:List Dat→Tree Step:=evL p3i 32 4 ls0 s3z
theorem l3k: ∃op,IsL h3v 32 4 s3z op:=bxL j3w (LsOk.none _ _ _)
def l3i:OpA:=opL l3k
theorem n3m (env:List Dat):l3i env=a0b h3v FU env:=h3g l3k env
abbrev v3v:MBox:=boxL l3k
theorem n3w {l0:List (Ty.den TB)}{n1 n2:Int}{b3:Bool}{n4:Int}{b5:Bool}{l6:List (Ty.den TS)}{l7:List (Ty.den TOp)}(g0:0≤n1)(h0:(n1<(↑(List.length l7):Int)))(h1:(n1<(↑(List.length l0):Int)))(h2:(IntKind.wrap .i64 (List.getD l0 (Int.toNat n1) (0:Int))=(255:Int)))(h3:((true&&decide ((256:Int)≤(↑(ByteArray.size (Prod.snd (List.getD l7 (Int.toNat n1) (Ty.dflt TOp)))):Int)))=true))(h4:(inR (Prod.fst (List.getD l7 (Int.toNat n1) (Ty.dflt TOp))) (List.length l6)=true))(h5:((true&&decide ((256:Int)≤(↑(ByteArray.size (List.getD l6 (Int.toNat (Prod.fst (List.getD l7 (Int.toNat n1) (Ty.dflt TOp)))) (Ty.dflt TS))):Int)))=true))(h6:(ByteArray.size (ByteArray.extract (Prod.snd (List.getD l7 (Int.toNat n1) (Ty.dflt TOp))) 0 256)+ByteArray.size (ByteArray.extract (List.getD l6 (Int.toNat (Prod.fst (List.getD l7 (Int.toNat n1) (Ty.dflt TOp)))) (Ty.dflt TS)) 256 (Int.toNat (↑(ByteArray.size (List.getD l6 (Int.toNat (Prod.fst (List.getD l7 (Int.toNat n1) (Ty.dflt TOp)))) (Ty.dflt TS))):Int)))≤9223372036854775807)):(h3v [.k 0,.l TB l0,.n n1,.n n2,.b b3,.n n4,.b b5,.l TS l6,.l TOp l7]).sel=some (Step.go [.k 0,.l TB l0,.n (IntKind.wrap .i64 (n1+(1:Int))),.n n2,.b b3,.n n4,.b b5,.l TS (List.set l6 (Int.toNat (Prod.fst (List.getD l7 (Int.toNat n1) (Ty.dflt TOp)))) (ByteArray.extract (Prod.snd (List.getD l7 (Int.toNat n1) (Ty.dflt TOp))) 0 256++ByteArray.extract (List.getD l6 (Int.toNat (Prod.fst (List.getD l7 (Int.toNat n1) (Ty.dflt TOp)))) (Ty.dflt TS)) 256 (Int.toNat (↑(ByteArray.size (List.getD l6 (Int.toNat (Prod.fst (List.getD l7 (Int.toNat n1) (Ty.dflt TOp)))) (Ty.dflt TS))):Int)))),.l TOp l7]):=sP [1]<|sT (dt h0)<|sTo (c:=(inR n1 (List.length l7)))<|sT (dt h1)<|sTo (c:=(inR n1 (List.length l0)))<|sT (bt h2)<|sT h3<|sP [1]<|sT h4<|sTs (c:=(true&&decide ((↑(ByteArray.size (List.getD l6 (Int.toNat (Prod.fst (List.getD l7 (Int.toNat n1) (Ty.dflt TOp)))) (Ty.dflt TS))):Int)≤(↑(ByteArray.size (List.getD l6 (Int.toNat (Prod.fst (List.getD l7 (Int.toNat n1) (Ty.dflt TOp)))) (Ty.dflt TS))):Int))))<|sT h5<|sT (dt h6)<|sT h4<|sP [1,1]<|sL
theorem n3e {l0:List (Ty.den TB)}{n1 n2:Int}{b3:Bool}{n4:Int}{b5:Bool}{l6:List (Ty.den TS)}{l7:List (Ty.den TOp)}(g0:0≤n1)(h0:(n1<(↑(List.length l7):Int)))(h1:(n1<(↑(List.length l0):Int)))(h2:(¬IntKind.wrap .i64 (List.getD l0 (Int.toNat n1) (0:Int))=(255:Int)))(h3:((decide ((0:Int)≤IntKind.wrap .i64 (List.getD l0 (Int.toNat n1) (0:Int)))&&decide (IntKind.wrap .i64 (List.getD l0 (Int.toNat n1) (0:Int))≤(↑(ByteArray.size (Prod.snd (List.getD l7 (Int.toNat n1) (Ty.dflt TOp)))):Int)))=true))(h4:((true&&decide ((0:Int)≤IntKind.wrap .i64 (List.getD l0 (Int.toNat n1) (0:Int))))=true))(h5:(inR (Prod.fst (List.getD l7 (Int.toNat n1) (Ty.dflt TOp))) (List.length l6)=true))(h6:((decide ((0:Int)≤IntKind.wrap .i64 (List.getD l0 (Int.toNat n1) (0:Int)))&&decide (IntKind.wrap .i64 (List.getD l0 (Int.toNat n1) (0:Int))≤(↑(ByteArray.size (List.getD l6 (Int.toNat (Prod.fst (List.getD l7 (Int.toNat n1) (Ty.dflt TOp)))) (Ty.dflt TS))):Int)))=true))(h7:(ByteArray.size (ByteArray.extract (Prod.snd (List.getD l7 (Int.toNat n1) (Ty.dflt TOp))) 0 (Int.toNat (IntKind.wrap .i64 (List.getD l0 (Int.toNat n1) (0:Int)))))+ByteArray.size (ByteArray.extract (List.getD l6 (Int.toNat (Prod.fst (List.getD l7 (Int.toNat n1) (Ty.dflt TOp)))) (Ty.dflt TS)) (Int.toNat (IntKind.wrap .i64 (List.getD l0 (Int.toNat n1) (0:Int)))) (Int.toNat (↑(ByteArray.size (List.getD l6 (Int.toNat (Prod.fst (List.getD l7 (Int.toNat n1) (Ty.dflt TOp)))) (Ty.dflt TS))):Int)))≤9223372036854775807)):(h3v [.k 0,.l TB l0,.n n1,.n n2,.b b3,.n n4,.b b5,.l TS l6,.l TOp l7]).sel=some (Step.go [.k 0,.l TB l0,.n (IntKind.wrap .i64 (n1+(1:Int))),.n n2,.b b3,.n n4,.b b5,.l TS (List.set l6 (Int.toNat (Prod.fst (List.getD l7 (Int.toNat n1) (Ty.dflt TOp)))) (ByteArray.extract (Prod.snd (List.getD l7 (Int.toNat n1) (Ty.dflt TOp))) 0 (Int.toNat (IntKind.wrap .i64 (List.getD l0 (Int.toNat n1) (0:Int))))++ByteArray.extract (List.getD l6 (Int.toNat (Prod.fst (List.getD l7 (Int.toNat n1) (Ty.dflt TOp)))) (Ty.dflt TS)) (Int.toNat (IntKind.wrap .i64 (List.getD l0 (Int.toNat n1) (0:Int)))) (Int.toNat (↑(ByteArray.size (List.getD l6 (Int.toNat (Prod.fst (List.getD l7 (Int.toNat n1) (Ty.dflt TOp)))) (Ty.dflt TS))):Int)))),.l TOp l7]):=sP [1]<|sT (dt h0)<|sTo (c:=(inR n1 (List.length l7)))<|sT (dt h1)<|sTo (c:=(inR n1 (List.length l0)))<|sF (bf h2)<|sT h3<|sT h4<|sT h5<|sTs (c:=(true&&decide ((↑(ByteArray.size (List.getD l6 (Int.toNat (Prod.fst (List.getD l7 (Int.toNat n1) (Ty.dflt TOp)))) (Ty.dflt TS))):Int)≤(↑(ByteArray.size (List.getD l6 (Int.toNat (Prod.fst (List.getD l7 (Int.toNat n1) (Ty.dflt TOp)))) (Ty.dflt TS))):Int))))<|sT h6<|sT (dt h7)<|sT h5<|sP [1,1]<|sL
theorem n3f {l0:List (Ty.den TB)}{n1 n2:Int}{b3:Bool}{n4:Int}{b5:Bool}{l6:List (Ty.den TS)}{l7:List (Ty.den TOp)}(g0:0≤n1)(h0:(n1<(↑(List.length l7):Int)))(h1:(¬n1<(↑(List.length l0):Int)))(h2:(inR (Prod.fst (List.getD l7 (Int.toNat n1) (Ty.dflt TOp))) (List.length l6)=true))(h3:(ByteArray.size (ByteArray.extract (Prod.snd (List.getD l7 (Int.toNat n1) (Ty.dflt TOp))) 0 0)+ByteArray.size (ByteArray.extract (List.getD l6 (Int.toNat (Prod.fst (List.getD l7 (Int.toNat n1) (Ty.dflt TOp)))) (Ty.dflt TS)) 0 (Int.toNat (↑(ByteArray.size (List.getD l6 (Int.toNat (Prod.fst (List.getD l7 (Int.toNat n1) (Ty.dflt TOp)))) (Ty.dflt TS))):Int)))≤9223372036854775807)):(h3v [.k 0,.l TB l0,.n n1,.n n2,.b b3,.n n4,.b b5,.l TS l6,.l TOp l7]).sel=some (Step.go [.k 0,.l TB l0,.n (IntKind.wrap .i64 (n1+(1:Int))),.n n2,.b b3,.n n4,.b b5,.l TS (List.set l6 (Int.toNat (Prod.fst (List.getD l7 (Int.toNat n1) (Ty.dflt TOp)))) (ByteArray.extract (Prod.snd (List.getD l7 (Int.toNat n1) (Ty.dflt TOp))) 0 0++ByteArray.extract (List.getD l6 (Int.toNat (Prod.fst (List.getD l7 (Int.toNat n1) (Ty.dflt TOp)))) (Ty.dflt TS)) 0 (Int.toNat (↑(ByteArray.size (List.getD l6 (Int.toNat (Prod.fst (List.getD l7 (Int.toNat n1) (Ty.dflt TOp)))) (Ty.dflt TS))):Int)))),.l TOp l7]):=sP [1]<|sT (dt h0)<|sTo (c:=(inR n1 (List.length l7)))<|sF (df h1)<|sP [0,1,1]<|sT h2<|sTs (c:=(true&&decide ((↑(ByteArray.size (List.getD l6 (Int.toNat (Prod.fst (List.getD l7 (Int.toNat n1) (Ty.dflt TOp)))) (Ty.dflt TS))):Int)≤(↑(ByteArray.size (List.getD l6 (Int.toNat (Prod.fst (List.getD l7 (Int.toNat n1) (Ty.dflt TOp)))) (Ty.dflt TS))):Int))))<|sP [1]<|sT (dt h3)<|sT h2<|sP [1,1]<|sL
theorem m3k {l0:List (Ty.den TB)}{n1 n2:Int}{b3:Bool}{n4:Int}{b5:Bool}{l6:List (Ty.den TS)}{l7:List (Ty.den TOp)}(g0:0≤n1)(h0:(¬n1<(↑(List.length l7):Int))):(h3v [.k 0,.l TB l0,.n n1,.n n2,.b b3,.n n4,.b b5,.l TS l6,.l TOp l7]).sel=some (Step.stop 0 [.n n2,.b b3,.n n4,.b b5,.l TS l6,.l TOp l7]):=sP [1]<|sF (df h0)<|sP [1]<|sL
def S_m32:BSh:={args:=[.ptr 0 0,.imm TB 0],blks:=[dkB 1 2 1,.arr TS 5,.arr TOp 6],log:=[0,1],outs:=[(.tup [],[dkB 1 2 0,.arr TS 4,.arr TOp 5]),(.tup [],[dkB 1 3 0,.arr TS 4,.gone,.arr TOp 5])]}
def ev_m32:List Dat→Tree (Nat×List Dat):=evFV [(some 0,1,.own TOp)] p3i 32 (lsM [(4,v3v)] 3) S_m32
theorem v3t: ∃op,IsF ev_m32 32 S_m32 op:=bxFV j3w (lsE (lsC (h3d l3k) (atF) lsZ))
def k3g:OpA:=opF v3t
theorem r3p {l0:List (Ty.den TB)}{n1:Int}{b2:Bool}{n3:Int}{b4:Bool}{l5:List (Ty.den TS)}{l6:List (Ty.den TOp)}(h0:(b4=false)):k3g [.l TB l0,.n n1,.b b2,.n n3,.b b4,.l TS l5,.l TOp l6]=some ((0,[.n n1,.b false,.n n3,.b b4,.l TS l5,.l TOp l6])):=s1c v3t (sT (nf h0)<|sP [1]<|sL)
theorem u3g {l0:List (Ty.den TB)}{n1:Int}{b2:Bool}{n3:Int}{b4:Bool}{l5:List (Ty.den TS)}{l6:List (Ty.den TOp)}{n7:Int}{b8:Bool}{n9:Int}{b10:Bool}{l11:List (Ty.den TS)}{l12:List (Ty.den TOp)}(h0:(b4=true))(h1:(l3i [.k 0,.l TB l0,.n (0:Int),.n n1,.b false,.n n3,.b false,.l TS l5,.l TOp l6])=(some (0,[.n n7,.b b8,.n n9,.b b10,.l TS l11,.l TOp l12]))):k3g [.l TB l0,.n n1,.b b2,.n n3,.b b4,.l TS l5,.l TOp l6]=some ((1,[.n n7,.b b8,.n n9,.b b10,.l TS l11,.l TOp []])):=s1c v3t (sF (nt h0)<|sA h1<|sP [1,1]<|sL)
def u3s:FuncId→Option a0q:=e1c 32 [S_m32.k k3g] p3i
theorem l3t:CsOk Try.prog u3s:=csA1 j3w v3t
def S_m33:BSh:={args:=[.ptr 0 0,.int .i64 0,.str 1],blks:=[dkB 1 2 2,.arr TS 6,.arr TOp 7],log:=[0,2],outs:=[(.int .i64 0,[dkB 1 2 1,.arr TS 5,.arr TOp 6])]}
def ev_m33:List Dat→Tree (Nat×List Dat):=evF u3s 33 ls0 S_m33
theorem l3o: ∃op,IsF ev_m33 33 S_m33 op:=bxF l3t (LsOk.none _ _ _)
def i3f:OpA:=opF l3o
theorem r3u {n0:Int}{s1:ByteArray}{n2:Int}{b3:Bool}{n4:Int}{b5:Bool}{l6:List (Ty.den TS)}{l7:List (Ty.den TOp)}(h0:(b5=true)):i3f [.n n0,.s s1,.n n2,.b b3,.n n4,.b b5,.l TS l6,.l TOp l7]=some ((0,[.n (140:Int),.n n2,.b b3,.n n4,.b b5,.l TS l6,.l TOp l7])):=s1c l3o (sP [1]<|sT h0<|sP [1,1,1]<|sL)
theorem r3y {n0:Int}{s1:ByteArray}{n2:Int}{b3:Bool}{n4:Int}{b5:Bool}{l6:List (Ty.den TS)}{l7:List (Ty.den TOp)}(h0:(b5=false))(h1:(n0<(0:Int))):i3f [.n n0,.s s1,.n n2,.b b3,.n n4,.b b5,.l TS l6,.l TOp l7]=some ((0,[.n (2:Int),.n n2,.b b3,.n n4,.b b5,.l TS l6,.l TOp l7])):=s1c l3o (sP [1]<|sF h0<|sT (dt h1)<|sP [1,1,1,1,1]<|sL)
theorem r3s {n0:Int}{s1:ByteArray}{n2:Int}{b3:Bool}{n4:Int}{b5:Bool}{l6:List (Ty.den TS)}{l7:List (Ty.den TOp)}(h0:(b5=false))(h1:(¬n0<(0:Int)))(h2:(n0≥(↑(List.length l6):Int))):i3f [.n n0,.s s1,.n n2,.b b3,.n n4,.b b5,.l TS l6,.l TOp l7]=some ((0,[.n (2:Int),.n n2,.b b3,.n n4,.b b5,.l TS l6,.l TOp l7])):=s1c l3o (sP [1]<|sF h0<|sF (df h1)<|sT (dt h2)<|sP [1,1,1]<|sL)
theorem s3j {n0:Int}{s1:ByteArray}{n2:Int}{b3:Bool}{n4:Int}{b5:Bool}{l6:List (Ty.den TS)}{l7:List (Ty.den TOp)}(h0:(b5=false))(h1:(¬n0<(0:Int)))(h2:(¬n0≥(↑(List.length l6):Int)))(h3:((↑(ByteArray.size s1):Int)>(256:Int))):i3f [.n n0,.s s1,.n n2,.b b3,.n n4,.b b5,.l TS l6,.l TOp l7]=some ((0,[.n (3:Int),.n n2,.b b3,.n n4,.b b5,.l TS l6,.l TOp l7])):=s1c l3o (sP [1]<|sF h0<|sF (df h1)<|sF (df h2)<|sP [1,0]<|sT (dt h3)<|sP [1]<|sL)
theorem r3l {n0:Int}{s1:ByteArray}{n2:Int}{b3:Bool}{n4:Int}{b5:Bool}{l6:List (Ty.den TS)}{l7:List (Ty.den TOp)}{s8:ByteArray}(h0:(b5=false))(h1:(¬n0<(0:Int)))(h2:(¬n0≥(↑(List.length l6):Int)))(h3:(¬(↑(ByteArray.size s1):Int)>(256:Int)))(h4:(j3n [.s s1])=(some (0,[.s s8])))(h5:((List.length l7+1)*24≤140737488355328))(h6:(b3=false)):i3f [.n n0,.s s1,.n n2,.b b3,.n n4,.b b5,.l TS l6,.l TOp l7]=some ((0,[.n (0:Int),.n (IntKind.wrap .i64 (n2+(1:Int))),.b b3,.n n4,.b b5,.l TS l6,.l TOp (apL l7 [(n0,s8)])])):=s1c l3o (sP [1]<|sF h0<|sF (df h1)<|sF (df h2)<|sP [1,0]<|sF (df h3)<|sA h4<|sP [1,1]<|sT (dt h5)<|sP [1,1]<|sT (nf h6)<|sP [1,0,1]<|sL)
theorem u3q {n0:Int}{s1:ByteArray}{n2:Int}{b3:Bool}{n4:Int}{b5:Bool}{l6:List (Ty.den TS)}{l7:List (Ty.den TOp)}{s8:ByteArray}(h0:(b5=false))(h1:(¬n0<(0:Int)))(h2:(¬n0≥(↑(List.length l6):Int)))(h3:(¬(↑(ByteArray.size s1):Int)>(256:Int)))(h4:(j3n [.s s1])=(some (0,[.s s8])))(h5:((List.length l7+1)*24≤140737488355328))(h6:(b3=true))(h7:(n4>(0:Int))):i3f [.n n0,.s s1,.n n2,.b b3,.n n4,.b b5,.l TS l6,.l TOp l7]=some ((0,[.n (0:Int),.n (IntKind.wrap .i64 (n2+(1:Int))),.b b3,.n (IntKind.wrap .i64 (n4-(1:Int))),.b b5,.l TS l6,.l TOp (apL l7 [(n0,s8)])])):=s1c l3o (sP [1]<|sF h0<|sF (df h1)<|sF (df h2)<|sP [1,0]<|sF (df h3)<|sA h4<|sP [1,1]<|sT (dt h5)<|sP [1,1]<|sF (nt h6)<|sT (dt h7)<|sP [1,0,1]<|sL)
theorem u3j {n0:Int}{s1:ByteArray}{n2:Int}{b3:Bool}{n4:Int}{b5:Bool}{l6:List (Ty.den TS)}{l7:List (Ty.den TOp)}{s8:ByteArray}(h0:(b5=false))(h1:(¬n0<(0:Int)))(h2:(¬n0≥(↑(List.length l6):Int)))(h3:(¬(↑(ByteArray.size s1):Int)>(256:Int)))(h4:(j3n [.s s1])=(some (0,[.s s8])))(h5:((List.length l7+1)*24≤140737488355328))(h6:(b3=true))(h7:(¬n4>(0:Int))):i3f [.n n0,.s s1,.n n2,.b b3,.n n4,.b b5,.l TS l6,.l TOp l7]=some ((0,[.n (140:Int),.n (IntKind.wrap .i64 (n2+(1:Int))),.b false,.n n4,.b true,.l TS l6,.l TOp (apL l7 [(n0,s8)])])):=s1c l3o (sP [1]<|sF h0<|sF (df h1)<|sF (df h2)<|sP [1,0]<|sF (df h3)<|sA h4<|sP [1,1]<|sT (dt h5)<|sP [1,1]<|sF (nt h6)<|sF (df h7)<|sP [1,1,1]<|sL)
def t3m:FuncId→Option a0q:=e1c 33 [S_m33.k i3f] u3s
theorem m3e:CsOk Try.prog t3m:=csA1 l3t l3o
def S_m10:BSh:={args:=[.ptr 0 0],blks:=[dkB 1 2 0,.arr TS 4,.arr TOp 5],log:=[],outs:=[(.ptr 3 0,[dkB 1 2 0,.arr TS 4,.arr TOp 5,dkB 4 5 6,.arr TS 10,.arr TOp 11])]}
def ev_m10:List Dat→Tree (Nat×List Dat):=evF t3m 10 ls0 S_m10
theorem e_m10: ∃op,IsF ev_m10 10 S_m10 op:=bxF m3e (LsOk.none _ _ _)
def l3p:OpA:=opF e_m10
theorem t3g {n0:Int}{b1:Bool}{n2:Int}{b3:Bool}{l4:List (Ty.den TS)}{l5:List (Ty.den TOp)}(h0:((0+List.length l4)*16≤140737488355328))(h1:((0+List.length l5)*24≤140737488355328)):l3p [.n n0,.b b1,.n n2,.b b3,.l TS l4,.l TOp l5]=some ((0,[.n n0,.b b1,.n n2,.b b3,.l TS l4,.l TOp l5,.n n0,.b b1,.n n2,.b b3,.l TS ([]++l4),.l TOp (apL [] l5)])):=s1c e_m10 (sT (dt h0)<|sT (dt h1)<|sP [1]<|sL)
def p3c:FuncId→Option a0q:=e1c 10 [S_m10.k l3p] t3m
theorem j3i:CsOk Try.prog p3c:=csA1 m3e e_m10
def cxV (h:Nat):PV:=.agg [.int .u8 h,.int .i64 (h+1),.imm TB (h+2),.imn TB (h+3)]
def R_l6_5:LSh:={K:=0,log:=[],ins:=[(sh 51 [(0,.imm t0c 0),(3,.int .i64 1),(4,.int .i64 2)],[])],nils:=[],outs:=[(.exit 0,sh 51 [(3,.int .i64 0)],[]),(.ret,sh 51 [(2,.bool 0)],[])],cv:=[]}
def h3p:List Dat→Tree Step:=evL p3c 6 5 ls0 R_l6_5
theorem o3p: ∃op,IsL h3p 6 5 R_l6_5 op:=bxL j3i (LsOk.none _ _ _)
def n3r:OpA:=opL o3p
theorem k3f (env:List Dat):n3r env=a0b h3p FU env:=h3g o3p env
abbrev Bx_l6_5:MBox:=boxL o3p
theorem q3v {l0:List (Ty.den t0c)}{n1 n2:Int}(g0:0≤n2)(h0:(n2<(↑(List.length l0):Int)))(h1:((↑(List.length (Prod.fst (Prod.snd (Prod.snd (List.getD l0 (Int.toNat n2) (Ty.dflt t0c)))))):Int)>IntKind.wrap .i64 ((6000:Int)-n1))):(h3p [.k 0,.l t0c l0,.n n1,.n n2]).sel=some (Step.stop 1 [.b true]):=sP [1]<|sT (dt h0)<|sTo (c:=(inR n2 (List.length l0)))<|sT (dt h1)<|sP [1,1,1]<|sL
theorem q3d {l0:List (Ty.den t0c)}{n1 n2:Int}(g0:0≤n2)(h0:(n2<(↑(List.length l0):Int)))(h1:(¬(↑(List.length (Prod.fst (Prod.snd (Prod.snd (List.getD l0 (Int.toNat n2) (Ty.dflt t0c)))))):Int)>IntKind.wrap .i64 ((6000:Int)-n1)))(h2:((↑(List.length (Prod.snd (Prod.snd (Prod.snd (List.getD l0 (Int.toNat n2) (Ty.dflt t0c)))))):Int)>IntKind.wrap .i64 ((6000:Int)-n1))):(h3p [.k 0,.l t0c l0,.n n1,.n n2]).sel=some (Step.stop 1 [.b true]):=sP [1]<|sT (dt h0)<|sTo (c:=(inR n2 (List.length l0)))<|sF (df h1)<|sTo (c:=(inR n2 (List.length l0)))<|sT (dt h2)<|sP [1]<|sL
theorem r3e {l0:List (Ty.den t0c)}{n1 n2:Int}(g0:0≤n2)(h0:(n2<(↑(List.length l0):Int)))(h1:(¬(↑(List.length (Prod.fst (Prod.snd (Prod.snd (List.getD l0 (Int.toNat n2) (Ty.dflt t0c)))))):Int)>IntKind.wrap .i64 ((6000:Int)-n1)))(h2:(¬(↑(List.length (Prod.snd (Prod.snd (Prod.snd (List.getD l0 (Int.toNat n2) (Ty.dflt t0c)))))):Int)>IntKind.wrap .i64 ((6000:Int)-n1))):(h3p [.k 0,.l t0c l0,.n n1,.n n2]).sel=some (Step.go [.k 0,.l t0c l0,.n (IntKind.wrap .i64 (IntKind.wrap .i64 (n1+(↑(List.length (Prod.fst (Prod.snd (Prod.snd (List.getD l0 (Int.toNat n2) (Ty.dflt t0c)))))):Int))+(↑(List.length (Prod.snd (Prod.snd (Prod.snd (List.getD l0 (Int.toNat n2) (Ty.dflt t0c)))))):Int))),.n (IntKind.wrap .i64 (n2+(1:Int)))]):=sP [1]<|sT (dt h0)<|sTo (c:=(inR n2 (List.length l0)))<|sF (df h1)<|sTo (c:=(inR n2 (List.length l0)))<|sF (df h2)<|sTo (c:=(inR n2 (List.length l0)))<|sTo (c:=(inR n2 (List.length l0)))<|sP [1,1]<|sL
theorem r3a {l0:List (Ty.den t0c)}{n1 n2:Int}(g0:0≤n2)(h0:(¬n2<(↑(List.length l0):Int))):(h3p [.k 0,.l t0c l0,.n n1,.n n2]).sel=some (Step.stop 0 [.n n1]):=sP [1]<|sF (df h0)<|sP [1]<|sL
def S_l6:BSh:={args:=[.imm t0c 0],blks:=[],log:=[],outs:=[(.bool 0,[])]}
def ev_l6:List Dat→Tree (Nat×List Dat):=evF p3c 6 (lsM [(5,Bx_l6_5)] 0) S_l6
theorem e_l6: ∃op,IsF ev_l6 6 S_l6 op:=bxF j3i (lsE (lsC (h3d o3p) (atF) lsZ))
def j3b:OpA:=opF e_l6
theorem w3k {l0:List (Ty.den t0c)}(h0:((↑(List.length l0):Int)>(80:Int))):j3b [.l t0c l0]=some ((0,[.b true])):=s1c e_l6 (sT (dt h0)<|sP [1]<|sL)
theorem u3y {l0:List (Ty.den t0c)}{n1:Int}(h0:(¬(↑(List.length l0):Int)>(80:Int)))(h1:(n3r [.k 0,.l t0c l0,.n (0:Int),.n (0:Int)])=(some (0,[.n n1]))):j3b [.l t0c l0]=some ((0,[.b (decide (n1>(6000:Int)))])):=s1c e_l6 (sF (df h0)<|sA h1<|sP [1,1]<|sL)
theorem w3a {l0:List (Ty.den t0c)}{b1:Bool}(h0:(¬(↑(List.length l0):Int)>(80:Int)))(h1:(n3r [.k 0,.l t0c l0,.n (0:Int),.n (0:Int)])=(some (1,[.b b1]))):j3b [.l t0c l0]=some ((0,[.b b1])):=s1c e_l6 (sF (df h0)<|sA h1<|sP [0,1,1]<|sL)
def u3e:FuncId→Option a0q:=a0s 6 (S_l6.k j3b) p3c
theorem j3f:CsOk Try.prog u3e:=csL1 j3i e_l6
def p3f:LSh:={K:=6,log:=[],ins:=[(sh 91 [(0,.ptr 0 0),(1,.ptr 1 0),(5,.int .i64 0),(6,.asl 6 0 256),(10,.int .i64 1)],[dkB 2 3 2,dkB 4 5 6,.arr TBk 10,.arr TWr 11,.arr TS 12,.arr TOp 13,.cells [.arrd TB 256 14]]),(sh 91 [(0,.ptr 0 0),(1,.ptr 1 0),(5,.int .i64 0),(6,.nilsl),(10,.int .i64 1)],[dkB 2 3 2,dkB 4 5 6,.arr TBk 10,.arr TWr 11,.arr TS 12,.arr TOp 13])],nils:=[],outs:=[(.exit 2,sh 91 [(0,.ptr 0 0),(1,.ptr 1 0),(5,.int .i64 0)],[dkB 2 3 1,dkB 4 5 5,.arr TBk 9,.arr TWr 10,.arr TS 11,.arr TOp 12])],cv:=[]}
def h3r:List Dat→Tree Step:=evL u3e 13 11 ls0 p3f
theorem j3d: ∃op,IsL h3r 13 11 p3f op:=bxL j3f (LsOk.none _ _ _)
def h3y:OpA:=opL j3d
theorem i3x (env:List Dat):h3y env=a0b h3r FU env:=h3g j3d env
abbrev t3i:MBox:=boxL j3d
theorem m3a {n0 n1 n2:Int}{b3:Bool}{n4:Int}{b5:Bool}{n6:Int}{b7:Bool}{n8:Int}{b9:Bool}{l10:List (Ty.den TBk)}{l11:List (Ty.den TWr)}{l12:List (Ty.den TS)}{l13:List (Ty.den TOp)}{l14:List (Ty.den TB)}(g0:0≤n1)(h0:(n1<(256:Int))):(h3r [.k 0,.n n0,.n n1,.n n2,.b b3,.n n4,.b b5,.n n6,.b b7,.n n8,.b b9,.l TBk l10,.l TWr l11,.l TS l12,.l TOp l13,.l TB l14]).sel=some (Step.go [.k 0,.n n0,.n (IntKind.wrap .i64 (n1+(1:Int))),.n n2,.b b3,.n n4,.b b5,.n n6,.b b7,.n n8,.b b9,.l TBk l10,.l TWr l11,.l TS l12,.l TOp l13,.l TB (List.set l14 (Int.toNat n1) (IntKind.wrap .u8 ((List.getD l14 (Int.toNat n1) (0:Int):Int)+(1:Int))))]):=sP [1]<|sT (dt h0)<|sTo (c:=(inR n1 256))<|sTo (c:=(inR n1 256))<|sP [1]<|sL
theorem l3v {n0 n1 n2:Int}{b3:Bool}{n4:Int}{b5:Bool}{n6:Int}{b7:Bool}{n8:Int}{b9:Bool}{l10:List (Ty.den TBk)}{l11:List (Ty.den TWr)}{l12:List (Ty.den TS)}{l13:List (Ty.den TOp)}{l14:List (Ty.den TB)}(g0:0≤n1)(h0:(¬n1<(256:Int))):(h3r [.k 0,.n n0,.n n1,.n n2,.b b3,.n n4,.b b5,.n n6,.b b7,.n n8,.b b9,.l TBk l10,.l TWr l11,.l TS l12,.l TOp l13,.l TB l14]).sel=some (Step.stop 0 [.n n0,.n n2,.b b3,.n n4,.b b5,.n n6,.b b7,.n n8,.b b9,.l TBk l10,.l TWr l11,.l TS l12,.l TOp l13]):=sP [1]<|sF (df h0)<|sP [1]<|sL
theorem l3w {n0 n1 n2:Int}{b3:Bool}{n4:Int}{b5:Bool}{n6:Int}{b7:Bool}{n8:Int}{b9:Bool}{l10:List (Ty.den TBk)}{l11:List (Ty.den TWr)}{l12:List (Ty.den TS)}{l13:List (Ty.den TOp)}(g0:0≤n1):(h3r [.k 1,.n n0,.n n1,.n n2,.b b3,.n n4,.b b5,.n n6,.b b7,.n n8,.b b9,.l TBk l10,.l TWr l11,.l TS l12,.l TOp l13]).sel=some (Step.stop 0 [.n n0,.n n2,.b b3,.n n4,.b b5,.n n6,.b b7,.n n8,.b b9,.l TBk l10,.l TWr l11,.l TS l12,.l TOp l13]):=sP [1]<|sFs (c:=(decide (n1<(0:Int))))<|sP [1]<|sL
def s3m:LSh:={K:=6,log:=[],ins:=[(sh 91 [(0,.ptr 0 0),(1,.ptr 1 0),(5,.int .i64 0)],[dkB 2 3 1,dkB 4 5 5,.arr TBk 9,.arr TWr 10,.arr TS 11,.arr TOp 12])],nils:=[],outs:=[(.exit 0,sh 91 [],[dkB 2 3 0,dkB 4 5 4,.arr TBk 8,.arr TWr 9,.arr TS 10,.arr TOp 11]),(.ret,sh 91 [(4,.bool 0)],[dkB 2 3 1,dkB 4 5 5,.arr TBk 9,.arr TWr 10,.arr TS 11,.arr TOp 12])],cv:=[]}
def i3e:List Dat→Tree Step:=evL u3e 13 4 (lsM [(11,t3i)] 6) s3m
theorem l3m: ∃op,IsL i3e 13 4 s3m op:=bxL j3f (lsE (lsC (h3d j3d) (by kernel_rfl) lsZ))
def l3h:OpA:=opL l3m
theorem o3j (env:List Dat):l3h env=a0b i3e FU env:=h3g l3m env
abbrev u3z:MBox:=boxL l3m
theorem n3s {n0 n1:Int}{b2:Bool}{n3:Int}{b4:Bool}{n5:Int}{b6:Bool}{n7:Int}{b8:Bool}{l9:List (Ty.den TBk)}{l10:List (Ty.den TWr)}{l11:List (Ty.den TS)}{l12:List (Ty.den TOp)}{n13 n14:Int}{b15:Bool}{n16:Int}{b17:Bool}{l18:List (Ty.den TBk)}{l19:List (Ty.den TWr)}{s20:ByteArray}{n21 n22:Int}{b23:Bool}{n24:Int}{b25:Bool}{l26:List (Ty.den TS)}{l27:List (Ty.den TOp)}{n28 n29:Int}{b30:Bool}{n31:Int}{b32:Bool}{n33:Int}{b34:Bool}{n35:Int}{b36:Bool}{l37:List (Ty.den TBk)}{l38:List (Ty.den TWr)}{l39:List (Ty.den TS)}{l40:List (Ty.den TOp)}(g0: -1≤n0)(h0:(n0≤(↑(List.length l11):Int)))(h1:(h3w [.n n0,.n n1,.b b2,.n n3,.b b4,.l TBk l9,.l TWr l10])=(some (0,[.n n13,.n n14,.b b15,.n n16,.b b17,.l TBk l18,.l TWr l19])))(h2:(h3z [.n n0,.n n5,.b b6,.n n7,.b b8,.l TS l11,.l TOp l12])=(some (0,[.s s20,.n n21,.n n22,.b b23,.n n24,.b b25,.l TS l26,.l TOp l27])))(h3:(n13=n21))(h4:(f0b (r2b []) s20=true))(h5:(h3y [.k 1,.n n0,.n (0:Int),.n n1,.b b2,.n n3,.b b4,.n n5,.b b6,.n n7,.b b8,.l TBk l9,.l TWr l10,.l TS l11,.l TOp l12])=(some (0,[.n n28,.n n29,.b b30,.n n31,.b b32,.n n33,.b b34,.n n35,.b b36,.l TBk l37,.l TWr l38,.l TS l39,.l TOp l40]))):(i3e [.k 0,.n n0,.n n1,.b b2,.n n3,.b b4,.n n5,.b b6,.n n7,.b b8,.l TBk l9,.l TWr l10,.l TS l11,.l TOp l12]).sel=some (Step.go [.k 0,.n (IntKind.wrap .i64 (n28+(1:Int))),.n n29,.b b30,.n n31,.b b32,.n n33,.b b34,.n n35,.b b36,.l TBk l37,.l TWr l38,.l TS l39,.l TOp l40]):=sP [1]<|sT (dt h0)<|sP [1]<|sA h1<|sP [1,1,1]<|sA h2<|sP [1,1]<|sF (bnf h3)<|sF (nt h4)<|sA h5<|sP [1,1]<|sL
theorem m3i {n0 n1:Int}{b2:Bool}{n3:Int}{b4:Bool}{n5:Int}{b6:Bool}{n7:Int}{b8:Bool}{l9:List (Ty.den TBk)}{l10:List (Ty.den TWr)}{l11:List (Ty.den TS)}{l12:List (Ty.den TOp)}{n13 n14:Int}{b15:Bool}{n16:Int}{b17:Bool}{l18:List (Ty.den TBk)}{l19:List (Ty.den TWr)}{l20:List (Ty.den TB)}{s21:ByteArray}{n22 n23:Int}{b24:Bool}{n25:Int}{b26:Bool}{l27:List (Ty.den TS)}{l28:List (Ty.den TOp)}{n29 n30:Int}{b31:Bool}{n32:Int}{b33:Bool}{n34:Int}{b35:Bool}{n36:Int}{b37:Bool}{l38:List (Ty.den TBk)}{l39:List (Ty.den TWr)}{l40:List (Ty.den TS)}{l41:List (Ty.den TOp)}(g0: -1≤n0)(h0:(n0≤(↑(List.length l11):Int)))(h1:(h3w [.n n0,.n n1,.b b2,.n n3,.b b4,.l TBk l9,.l TWr l10])=(some (1,[.n n13,.n n14,.b b15,.n n16,.b b17,.l TBk l18,.l TWr l19,.l TB l20])))(h2:(h3z [.n n0,.n n5,.b b6,.n n7,.b b8,.l TS l11,.l TOp l12])=(some (0,[.s s21,.n n22,.n n23,.b b24,.n n25,.b b26,.l TS l27,.l TOp l28])))(h3:(n13=n22))(h4:(f0b (r2b l20) s21=true))(h5:(h3y [.k 0,.n n0,.n (0:Int),.n n1,.b b2,.n n3,.b b4,.n n5,.b b6,.n n7,.b b8,.l TBk l9,.l TWr l10,.l TS l11,.l TOp l12,.l TB l20])=(some (0,[.n n29,.n n30,.b b31,.n n32,.b b33,.n n34,.b b35,.n n36,.b b37,.l TBk l38,.l TWr l39,.l TS l40,.l TOp l41]))):(i3e [.k 0,.n n0,.n n1,.b b2,.n n3,.b b4,.n n5,.b b6,.n n7,.b b8,.l TBk l9,.l TWr l10,.l TS l11,.l TOp l12]).sel=some (Step.go [.k 0,.n (IntKind.wrap .i64 (n29+(1:Int))),.n n30,.b b31,.n n32,.b b33,.n n34,.b b35,.n n36,.b b37,.l TBk l38,.l TWr l39,.l TS l40,.l TOp l41]):=sP [1]<|sT (dt h0)<|sP [1]<|sA h1<|sP [0,1,1,1]<|sA h2<|sP [1,1]<|sF (bnf h3)<|sF (nt h4)<|sA h5<|sP [1,1]<|sL
theorem n3p {n0 n1:Int}{b2:Bool}{n3:Int}{b4:Bool}{n5:Int}{b6:Bool}{n7:Int}{b8:Bool}{l9:List (Ty.den TBk)}{l10:List (Ty.den TWr)}{l11:List (Ty.den TS)}{l12:List (Ty.den TOp)}(g0: -1≤n0)(h0:(¬n0≤(↑(List.length l11):Int))):(i3e [.k 0,.n n0,.n n1,.b b2,.n n3,.b b4,.n n5,.b b6,.n n7,.b b8,.l TBk l9,.l TWr l10,.l TS l11,.l TOp l12]).sel=some (Step.stop 0 [.n n1,.b b2,.n n3,.b b4,.n n5,.b b6,.n n7,.b b8,.l TBk l9,.l TWr l10,.l TS l11,.l TOp l12]):=sP [1]<|sF (df h0)<|sP [1]<|sL
def S_t13:BSh:={args:=[.ptr 0 0,.ptr 1 0],blks:=[dkB 2 3 0,dkB 4 5 4,.arr TBk 8,.arr TWr 9,.arr TS 10,.arr TOp 11],log:=[],outs:=[(.bool 0,[dkB 2 3 1,dkB 4 5 5,.arr TBk 9,.arr TWr 10,.arr TS 11,.arr TOp 12])]}
def ev_t13:List Dat→Tree (Nat×List Dat):=evF u3e 13 (lsM [(4,u3z)] 6) S_t13
theorem e_t13: ∃op,IsF ev_t13 13 S_t13 op:=bxF j3f (lsE (lsC (h3d l3m) (atF) lsZ))
def k3a:OpA:=opF e_t13
theorem s3h {n0:Int}{b1:Bool}{n2:Int}{b3:Bool}{n4:Int}{b5:Bool}{n6:Int}{b7:Bool}{l8:List (Ty.den TBk)}{l9:List (Ty.den TWr)}{l10:List (Ty.den TS)}{l11:List (Ty.den TOp)}{n12:Int}{b13:Bool}{n14:Int}{b15:Bool}{n16:Int}{b17:Bool}{n18:Int}{b19:Bool}{l20:List (Ty.den TBk)}{l21:List (Ty.den TWr)}{l22:List (Ty.den TS)}{l23:List (Ty.den TOp)}(h0:((↑(List.length l8):Int)=(↑(List.length l10):Int)))(h1:(n0=n4))(h2:((b3==b7)=true))(h3:((↑(List.length l9):Int)=(↑(List.length l11):Int)))(h4:(l3h [.k 0,.n (-1:Int),.n n0,.b b1,.n n2,.b b3,.n n4,.b b5,.n n6,.b b7,.l TBk l8,.l TWr l9,.l TS l10,.l TOp l11])=(some (0,[.n n12,.b b13,.n n14,.b b15,.n n16,.b b17,.n n18,.b b19,.l TBk l20,.l TWr l21,.l TS l22,.l TOp l23]))):k3a [.n n0,.b b1,.n n2,.b b3,.n n4,.b b5,.n n6,.b b7,.l TBk l8,.l TWr l9,.l TS l10,.l TOp l11]=some ((0,[.b true,.n n12,.b b13,.n n14,.b b15,.n n16,.b b17,.n n18,.b b19,.l TBk l20,.l TWr l21,.l TS l22,.l TOp l23])):=s1c e_t13 (sP [1,0,1]<|sF (bnf h0)<|sP [1,0,1]<|sF (bnf h1)<|sP [1,0,1]<|sF (nt h2)<|sP [1,0,1,1]<|sF (bnf h3)<|sA h4<|sP [1,1]<|sL)
def o3r:FuncId→Option a0q:=e1c 13 [S_t13.k k3a] u3e
theorem j3r:CsOk Try.prog o3r:=csA1 j3f e_t13
def p3j:LSh:={K:=6,log:=[],ins:=[(sh 116 [(7,.own 6),(8,.bool 0),(13,.int .i64 1)],[dkB 2 3 2,dkB 4 5 6,.arr TBk 10,.arr TWr 11,.arr TS 12,.arr TOp 13,.arr TB 14]),(sh 116 [(7,.own 6),(8,.bool 0),(13,.int .i64 1)],[dkB 2 7 2,dkB 4 8 6,.arr TBk 10,.gone,.arr TS 11,.gone,.arr TB 12,.arr TWr 13,.arr TOp 14]),(sh 116 [(7,.own 6),(8,.bool 0),(13,.int .i64 1)],[dkB 2 7 2,dkB 4 5 6,.arr TBk 10,.gone,.arr TS 11,.arr TOp 12,.arr TB 13,.arr TWr 14]),(sh 116 [(7,.own 6),(8,.bool 0),(13,.int .i64 1)],[dkB 2 3 2,dkB 4 7 6,.arr TBk 10,.arr TWr 11,.arr TS 12,.gone,.arr TB 13,.arr TOp 14])],nils:=[],outs:=[(.exit 1,sh 116 [(8,.bool 0)],[dkB 2 3 1,dkB 4 5 5,.arr TBk 9,.arr TWr 10,.arr TS 11,.arr TOp 12]),(.exit 1,sh 116 [(8,.bool 0)],[dkB 2 6 1,dkB 4 7 5,.arr TBk 9,.gone,.arr TS 10,.gone,.arr TWr 11,.arr TOp 12]),(.exit 1,sh 116 [(8,.bool 0)],[dkB 2 6 1,dkB 4 5 5,.arr TBk 9,.gone,.arr TS 10,.arr TOp 11,.arr TWr 12]),(.exit 1,sh 116 [(8,.bool 0)],[dkB 2 3 1,dkB 4 6 5,.arr TBk 9,.arr TWr 10,.arr TS 11,.gone,.arr TOp 12])],cv:=[]}
def h3i:List Dat→Tree Step:=evL o3r 12 22 ls0 p3j
theorem j3e: ∃op,IsL h3i 12 22 p3j op:=bxL j3r (LsOk.none _ _ _)
def h3c:OpA:=opL j3e
theorem i3z (env:List Dat):h3c env=a0b h3i FU env:=h3g j3e env
abbrev s3o:MBox:=boxL j3e
theorem l3n {b0:Bool}{n1 n2:Int}{b3:Bool}{n4:Int}{b5:Bool}{n6:Int}{b7:Bool}{n8:Int}{b9:Bool}{l10:List (Ty.den TBk)}{l11:List (Ty.den TWr)}{l12:List (Ty.den TS)}{l13:List (Ty.den TOp)}{l14:List (Ty.den TB)}(g0:0≤n1)(h0:(n1<(↑(List.length l14):Int))):(h3i [.k 0,.b b0,.n n1,.n n2,.b b3,.n n4,.b b5,.n n6,.b b7,.n n8,.b b9,.l TBk l10,.l TWr l11,.l TS l12,.l TOp l13,.l TB l14]).sel=some (Step.go [.k 0,.b b0,.n (IntKind.wrap .i64 (n1+(1:Int))),.n n2,.b b3,.n n4,.b b5,.n n6,.b b7,.n n8,.b b9,.l TBk l10,.l TWr l11,.l TS l12,.l TOp l13,.l TB (List.set l14 (Int.toNat n1) (IntKind.wrap .u8 ((List.getD l14 (Int.toNat n1) (0:Int):Int)+(1:Int))))]):=sP [1]<|sT (dt h0)<|sTo (c:=(inR n1 (List.length l14)))<|sTo (c:=(inR n1 (List.length l14)))<|sP [1]<|sL
theorem l3b {b0:Bool}{n1 n2:Int}{b3:Bool}{n4:Int}{b5:Bool}{n6:Int}{b7:Bool}{n8:Int}{b9:Bool}{l10:List (Ty.den TBk)}{l11:List (Ty.den TWr)}{l12:List (Ty.den TS)}{l13:List (Ty.den TOp)}{l14:List (Ty.den TB)}(g0:0≤n1)(h0:(¬n1<(↑(List.length l14):Int))):(h3i [.k 0,.b b0,.n n1,.n n2,.b b3,.n n4,.b b5,.n n6,.b b7,.n n8,.b b9,.l TBk l10,.l TWr l11,.l TS l12,.l TOp l13,.l TB l14]).sel=some (Step.stop 0 [.b b0,.n n2,.b b3,.n n4,.b b5,.n n6,.b b7,.n n8,.b b9,.l TBk l10,.l TWr l11,.l TS l12,.l TOp l13]):=sP [1]<|sF (df h0)<|sP [1]<|sL
theorem l3g {b0:Bool}{n1 n2:Int}{b3:Bool}{n4:Int}{b5:Bool}{n6:Int}{b7:Bool}{n8:Int}{b9:Bool}{l10:List (Ty.den TBk)}{l11:List (Ty.den TS)}{l12:List (Ty.den TB)}{l13:List (Ty.den TWr)}{l14:List (Ty.den TOp)}(g0:0≤n1)(h0:(n1<(↑(List.length l12):Int))):(h3i [.k 1,.b b0,.n n1,.n n2,.b b3,.n n4,.b b5,.n n6,.b b7,.n n8,.b b9,.l TBk l10,.l TS l11,.l TB l12,.l TWr l13,.l TOp l14]).sel=some (Step.go [.k 1,.b b0,.n (IntKind.wrap .i64 (n1+(1:Int))),.n n2,.b b3,.n n4,.b b5,.n n6,.b b7,.n n8,.b b9,.l TBk l10,.l TS l11,.l TB (List.set l12 (Int.toNat n1) (IntKind.wrap .u8 ((List.getD l12 (Int.toNat n1) (0:Int):Int)+(1:Int)))),.l TWr l13,.l TOp l14]):=sP [1]<|sT (dt h0)<|sTo (c:=(inR n1 (List.length l12)))<|sTo (c:=(inR n1 (List.length l12)))<|sP [1]<|sL
theorem k3j {b0:Bool}{n1 n2:Int}{b3:Bool}{n4:Int}{b5:Bool}{n6:Int}{b7:Bool}{n8:Int}{b9:Bool}{l10:List (Ty.den TBk)}{l11:List (Ty.den TS)}{l12:List (Ty.den TB)}{l13:List (Ty.den TWr)}{l14:List (Ty.den TOp)}(g0:0≤n1)(h0:(¬n1<(↑(List.length l12):Int))):(h3i [.k 1,.b b0,.n n1,.n n2,.b b3,.n n4,.b b5,.n n6,.b b7,.n n8,.b b9,.l TBk l10,.l TS l11,.l TB l12,.l TWr l13,.l TOp l14]).sel=some (Step.stop 1 [.b b0,.n n2,.b b3,.n n4,.b b5,.n n6,.b b7,.n n8,.b b9,.l TBk l10,.l TS l11,.l TWr l13,.l TOp l14]):=sP [1]<|sF (df h0)<|sP [1]<|sL
def S_d12:BSh:={args:=[.ptr 0 0,.ptr 1 0,cxV 0],blks:=[dkB 2 3 4,dkB 4 5 8,.arr TBk 12,.arr TWr 13,.arr TS 14,.arr TOp 15],log:=[0,1,2,3,4,5],outs:=[(.bool 0,[dkB 2 3 1,dkB 4 5 5,.arr TBk 9,.arr TWr 10,.arr TS 11,.arr TOp 12]),(.bool 0,[dkB 2 6 1,dkB 4 7 5,.arr TBk 9,.gone,.arr TS 10,.gone,.arr TWr 11,.arr TOp 12]),(.bool 0,[dkB 2 6 1,dkB 4 5 5,.arr TBk 9,.gone,.arr TS 10,.arr TOp 11,.arr TWr 12]),(.bool 0,[dkB 2 3 1,dkB 4 6 5,.arr TBk 9,.arr TWr 10,.arr TS 11,.gone,.arr TOp 12])]}
def ev_d12:List Dat→Tree (Nat×List Dat):=evF o3r 12 (lsM [(22,s3o)] 6) S_d12
theorem j3m: ∃op,IsF ev_d12 12 S_d12 op:=bxF j3r (lsE (lsC (h3d j3e) (atF) lsZ))
def h3m:OpA:=opF j3m
theorem s3y {n0 n1:Int}{l2 l3:List (Ty.den TB)}{n4:Int}{b5:Bool}{n6:Int}{b7:Bool}{n8:Int}{b9:Bool}{n10:Int}{b11:Bool}{l12:List (Ty.den TBk)}{l13:List (Ty.den TWr)}{l14:List (Ty.den TS)}{l15:List (Ty.den TOp)}{n16 n17:Int}{b18:Bool}{n19:Int}{b20:Bool}{l21:List (Ty.den TBk)}{l22:List (Ty.den TWr)}{n23 n24:Int}{b25:Bool}{n26:Int}{b27:Bool}{l28:List (Ty.den TS)}{l29:List (Ty.den TOp)}{b30:Bool}{n31:Int}{b32:Bool}{n33:Int}{b34:Bool}{n35:Int}{b36:Bool}{n37:Int}{b38:Bool}{l39:List (Ty.den TBk)}{l40:List (Ty.den TWr)}{l41:List (Ty.den TS)}{l42:List (Ty.den TOp)}(g0:0≤n0)(h0:(Int.tmod n0 (9:Int)=(3:Int)))(h1:(h3o [.n n4,.b b5,.n n6,.b b7,.l TBk l12,.l TWr l13])=(some (0,[.n n16,.n n17,.b b18,.n n19,.b b20,.l TBk l21,.l TWr l22])))(h2:(i3y [.n n8,.b b9,.n n10,.b b11,.l TS l14,.l TOp l15])=(some (0,[.n n23,.n n24,.b b25,.n n26,.b b27,.l TS l28,.l TOp l29])))(h3:(n16=n23))(h4:(h3c [.k 0,.b (f0b (r2b (c0b (r2b l2))) (r2b l2)),.n (0:Int),.n n17,.b b18,.n n19,.b b20,.n n24,.b b25,.n n26,.b b27,.l TBk l21,.l TWr l13,.l TS l28,.l TOp l15,.l TB (c0b (r2b l2))])=(some (0,[.b b30,.n n31,.b b32,.n n33,.b b34,.n n35,.b b36,.n n37,.b b38,.l TBk l39,.l TWr l40,.l TS l41,.l TOp l42]))):h3m [.n n0,.n n1,.l TB l2,.l TB l3,.n n4,.b b5,.n n6,.b b7,.n n8,.b b9,.n n10,.b b11,.l TBk l12,.l TWr l13,.l TS l14,.l TOp l15]=some ((0,[.b b30,.n n31,.b b32,.n n33,.b b34,.n n35,.b b36,.n n37,.b b38,.l TBk l39,.l TWr l40,.l TS l41,.l TOp l42])):=s1c j3m (sP [1]<|sT (bt h0)<|sP [1]<|sA h1<|sP [1,1,1]<|sA h2<|sP [1,1]<|sT (bt h3)<|sA h4<|sP [1,1]<|sL)
theorem r3g {n0 n1:Int}{l2 l3:List (Ty.den TB)}{n4:Int}{b5:Bool}{n6:Int}{b7:Bool}{n8:Int}{b9:Bool}{n10:Int}{b11:Bool}{l12:List (Ty.den TBk)}{l13:List (Ty.den TWr)}{l14:List (Ty.den TS)}{l15:List (Ty.den TOp)}{n16 n17:Int}{b18:Bool}{n19:Int}{b20:Bool}{l21:List (Ty.den TBk)}{l22:List (Ty.den TWr)}{n23 n24:Int}{b25:Bool}{n26:Int}{b27:Bool}{l28:List (Ty.den TS)}{l29:List (Ty.den TOp)}{b30:Bool}{n31:Int}{b32:Bool}{n33:Int}{b34:Bool}{n35:Int}{b36:Bool}{n37:Int}{b38:Bool}{l39:List (Ty.den TBk)}{l40:List (Ty.den TS)}{l41:List (Ty.den TWr)}{l42:List (Ty.den TOp)}(g0:0≤n0)(h0:(Int.tmod n0 (9:Int)=(3:Int)))(h1:(h3o [.n n4,.b b5,.n n6,.b b7,.l TBk l12,.l TWr l13])=(some (1,[.n n16,.n n17,.b b18,.n n19,.b b20,.l TBk l21,.l TWr l22])))(h2:(i3y [.n n8,.b b9,.n n10,.b b11,.l TS l14,.l TOp l15])=(some (1,[.n n23,.n n24,.b b25,.n n26,.b b27,.l TS l28,.l TOp l29])))(h3:(n16=n23))(h4:(h3c [.k 1,.b (f0b (r2b (c0b (r2b l2))) (r2b l2)),.n (0:Int),.n n17,.b b18,.n n19,.b b20,.n n24,.b b25,.n n26,.b b27,.l TBk l21,.l TS l28,.l TB (c0b (r2b l2)),.l TWr l22,.l TOp l29])=(some (1,[.b b30,.n n31,.b b32,.n n33,.b b34,.n n35,.b b36,.n n37,.b b38,.l TBk l39,.l TS l40,.l TWr l41,.l TOp l42]))):h3m [.n n0,.n n1,.l TB l2,.l TB l3,.n n4,.b b5,.n n6,.b b7,.n n8,.b b9,.n n10,.b b11,.l TBk l12,.l TWr l13,.l TS l14,.l TOp l15]=some ((1,[.b b30,.n n31,.b b32,.n n33,.b b34,.n n35,.b b36,.n n37,.b b38,.l TBk l39,.l TS l40,.l TWr l41,.l TOp l42])):=s1c j3m (sP [1]<|sT (bt h0)<|sP [1]<|sA h1<|sP [0,1,1,1]<|sA h2<|sP [0,1,1]<|sT (bt h3)<|sA h4<|sP [0,1,1]<|sL)
theorem q3g {n0 n1:Int}{l2 l3:List (Ty.den TB)}{n4:Int}{b5:Bool}{n6:Int}{b7:Bool}{n8:Int}{b9:Bool}{n10:Int}{b11:Bool}{l12:List (Ty.den TBk)}{l13:List (Ty.den TWr)}{l14:List (Ty.den TS)}{l15:List (Ty.den TOp)}{n16 n17:Int}{b18:Bool}{n19:Int}{b20:Bool}{l21:List (Ty.den TBk)}{l22:List (Ty.den TWr)}{s23:ByteArray}{n24 n25:Int}{b26:Bool}{n27:Int}{b28:Bool}{l29:List (Ty.den TS)}{l30:List (Ty.den TOp)}{b31:Bool}{n32:Int}{b33:Bool}{n34:Int}{b35:Bool}{n36:Int}{b37:Bool}{n38:Int}{b39:Bool}{l40:List (Ty.den TBk)}{l41:List (Ty.den TWr)}{l42:List (Ty.den TS)}{l43:List (Ty.den TOp)}(g0:0≤n0)(h0:(¬Int.tmod n0 (9:Int)=(3:Int)))(h1:(Int.tmod n0 (9:Int)=(4:Int)))(h2:(h3w [.n n1,.n n4,.b b5,.n n6,.b b7,.l TBk l12,.l TWr l13])=(some (0,[.n n16,.n n17,.b b18,.n n19,.b b20,.l TBk l21,.l TWr l22])))(h3:(h3z [.n n1,.n n8,.b b9,.n n10,.b b11,.l TS l14,.l TOp l15])=(some (0,[.s s23,.n n24,.n n25,.b b26,.n n27,.b b28,.l TS l29,.l TOp l30])))(h4:(n16=n24))(h5:(f0b (r2b []) s23=true))(h6:(h3c [.k 0,.b (f0b (r2b (c0b (r2b l2))) (r2b l2)),.n (0:Int),.n n4,.b b5,.n n6,.b b7,.n n8,.b b9,.n n10,.b b11,.l TBk l12,.l TWr l13,.l TS l14,.l TOp l15,.l TB (c0b (r2b l2))])=(some (0,[.b b31,.n n32,.b b33,.n n34,.b b35,.n n36,.b b37,.n n38,.b b39,.l TBk l40,.l TWr l41,.l TS l42,.l TOp l43]))):h3m [.n n0,.n n1,.l TB l2,.l TB l3,.n n4,.b b5,.n n6,.b b7,.n n8,.b b9,.n n10,.b b11,.l TBk l12,.l TWr l13,.l TS l14,.l TOp l15]=some ((0,[.b b31,.n n32,.b b33,.n n34,.b b35,.n n36,.b b37,.n n38,.b b39,.l TBk l40,.l TWr l41,.l TS l42,.l TOp l43])):=s1c j3m (sP [1]<|sF (bf h0)<|sT (bt h1)<|sP [1]<|sA h2<|sP [1,1,1]<|sA h3<|sP [1,1]<|sT (bt h4)<|sT h5<|sA h6<|sP [1,1]<|sL)
theorem q3p {n0 n1:Int}{l2 l3:List (Ty.den TB)}{n4:Int}{b5:Bool}{n6:Int}{b7:Bool}{n8:Int}{b9:Bool}{n10:Int}{b11:Bool}{l12:List (Ty.den TBk)}{l13:List (Ty.den TWr)}{l14:List (Ty.den TS)}{l15:List (Ty.den TOp)}{n16 n17:Int}{b18:Bool}{n19:Int}{b20:Bool}{l21:List (Ty.den TBk)}{l22:List (Ty.den TWr)}{l23:List (Ty.den TB)}{s24:ByteArray}{n25 n26:Int}{b27:Bool}{n28:Int}{b29:Bool}{l30:List (Ty.den TS)}{l31:List (Ty.den TOp)}{b32:Bool}{n33:Int}{b34:Bool}{n35:Int}{b36:Bool}{n37:Int}{b38:Bool}{n39:Int}{b40:Bool}{l41:List (Ty.den TBk)}{l42:List (Ty.den TWr)}{l43:List (Ty.den TS)}{l44:List (Ty.den TOp)}(g0:0≤n0)(h0:(¬Int.tmod n0 (9:Int)=(3:Int)))(h1:(Int.tmod n0 (9:Int)=(4:Int)))(h2:(h3w [.n n1,.n n4,.b b5,.n n6,.b b7,.l TBk l12,.l TWr l13])=(some (1,[.n n16,.n n17,.b b18,.n n19,.b b20,.l TBk l21,.l TWr l22,.l TB l23])))(h3:(h3z [.n n1,.n n8,.b b9,.n n10,.b b11,.l TS l14,.l TOp l15])=(some (0,[.s s24,.n n25,.n n26,.b b27,.n n28,.b b29,.l TS l30,.l TOp l31])))(h4:(n16=n25))(h5:(f0b (r2b l23) s24=true))(h6:(h3c [.k 0,.b (f0b (r2b (c0b (r2b l2))) (r2b l2)),.n (0:Int),.n n4,.b b5,.n n6,.b b7,.n n8,.b b9,.n n10,.b b11,.l TBk l12,.l TWr l13,.l TS l14,.l TOp l15,.l TB (c0b (r2b l2))])=(some (0,[.b b32,.n n33,.b b34,.n n35,.b b36,.n n37,.b b38,.n n39,.b b40,.l TBk l41,.l TWr l42,.l TS l43,.l TOp l44]))):h3m [.n n0,.n n1,.l TB l2,.l TB l3,.n n4,.b b5,.n n6,.b b7,.n n8,.b b9,.n n10,.b b11,.l TBk l12,.l TWr l13,.l TS l14,.l TOp l15]=some ((0,[.b b32,.n n33,.b b34,.n n35,.b b36,.n n37,.b b38,.n n39,.b b40,.l TBk l41,.l TWr l42,.l TS l43,.l TOp l44])):=s1c j3m (sP [1]<|sF (bf h0)<|sT (bt h1)<|sP [1]<|sA h2<|sP [0,1,1,1]<|sA h3<|sP [1,1]<|sT (bt h4)<|sT h5<|sA h6<|sP [1,1]<|sL)
theorem p3o {n0 n1:Int}{l2 l3:List (Ty.den TB)}{n4:Int}{b5:Bool}{n6:Int}{b7:Bool}{n8:Int}{b9:Bool}{n10:Int}{b11:Bool}{l12:List (Ty.den TBk)}{l13:List (Ty.den TWr)}{l14:List (Ty.den TS)}{l15:List (Ty.den TOp)}{b16:Bool}{n17:Int}{b18:Bool}{n19:Int}{b20:Bool}{n21:Int}{b22:Bool}{n23:Int}{b24:Bool}{l25:List (Ty.den TBk)}{l26:List (Ty.den TWr)}{l27:List (Ty.den TS)}{l28:List (Ty.den TOp)}(g0:0≤n0)(h0:(¬Int.tmod n0 (9:Int)=(3:Int)))(h1:(¬Int.tmod n0 (9:Int)=(4:Int)))(h2:(Int.tmod n0 (9:Int)=(5:Int)))(h3:(h3c [.k 0,.b (f0b (r2b (c0b (r2b l2))) (r2b l2)),.n (0:Int),.n n4,.b (decide (n1≥(0:Int))),.n n1,.b b7,.n n8,.b (decide (n1≥(0:Int))),.n n1,.b b11,.l TBk l12,.l TWr l13,.l TS l14,.l TOp l15,.l TB (c0b (r2b l2))])=(some (0,[.b b16,.n n17,.b b18,.n n19,.b b20,.n n21,.b b22,.n n23,.b b24,.l TBk l25,.l TWr l26,.l TS l27,.l TOp l28]))):h3m [.n n0,.n n1,.l TB l2,.l TB l3,.n n4,.b b5,.n n6,.b b7,.n n8,.b b9,.n n10,.b b11,.l TBk l12,.l TWr l13,.l TS l14,.l TOp l15]=some ((0,[.b b16,.n n17,.b b18,.n n19,.b b20,.n n21,.b b22,.n n23,.b b24,.l TBk l25,.l TWr l26,.l TS l27,.l TOp l28])):=s1c j3m (sP [1]<|sF (bf h0)<|sF (bf h1)<|sT (bt h2)<|sP [1,1,1,1,1,1]<|sA h3<|sP [1,1]<|sL)
theorem q3u {n0 n1:Int}{l2 l3:List (Ty.den TB)}{n4:Int}{b5:Bool}{n6:Int}{b7:Bool}{n8:Int}{b9:Bool}{n10:Int}{b11:Bool}{l12:List (Ty.den TBk)}{l13:List (Ty.den TWr)}{l14:List (Ty.den TS)}{l15:List (Ty.den TOp)}{b16:Bool}{n17:Int}{b18:Bool}{n19:Int}{b20:Bool}{n21:Int}{b22:Bool}{n23:Int}{b24:Bool}{l25:List (Ty.den TBk)}{l26:List (Ty.den TWr)}{l27:List (Ty.den TS)}{l28:List (Ty.den TOp)}(g0:0≤n0)(h0:(¬Int.tmod n0 (9:Int)=(3:Int)))(h1:(¬Int.tmod n0 (9:Int)=(4:Int)))(h2:(¬Int.tmod n0 (9:Int)=(5:Int)))(h3:(Int.tmod n0 (9:Int)=(6:Int)))(h4:(h3c [.k 0,.b (f0b (r2b (c0b (r2b l2))) (r2b l2)),.n (0:Int),.n n4,.b false,.n n6,.b true,.n n8,.b false,.n n10,.b true,.l TBk l12,.l TWr l13,.l TS l14,.l TOp l15,.l TB (c0b (r2b l2))])=(some (0,[.b b16,.n n17,.b b18,.n n19,.b b20,.n n21,.b b22,.n n23,.b b24,.l TBk l25,.l TWr l26,.l TS l27,.l TOp l28]))):h3m [.n n0,.n n1,.l TB l2,.l TB l3,.n n4,.b b5,.n n6,.b b7,.n n8,.b b9,.n n10,.b b11,.l TBk l12,.l TWr l13,.l TS l14,.l TOp l15]=some ((0,[.b b16,.n n17,.b b18,.n n19,.b b20,.n n21,.b b22,.n n23,.b b24,.l TBk l25,.l TWr l26,.l TS l27,.l TOp l28])):=s1c j3m (sP [1]<|sF (bf h0)<|sF (bf h1)<|sF (bf h2)<|sT (bt h3)<|sP [1,1,1,1,1,1]<|sA h4<|sP [1,1]<|sL)
theorem r3h {n0 n1:Int}{l2 l3:List (Ty.den TB)}{n4:Int}{b5:Bool}{n6:Int}{b7:Bool}{n8:Int}{b9:Bool}{n10:Int}{b11:Bool}{l12:List (Ty.den TBk)}{l13:List (Ty.den TWr)}{l14:List (Ty.den TS)}{l15:List (Ty.den TOp)}{n16:Int}{b17:Bool}{n18:Int}{b19:Bool}{l20:List (Ty.den TBk)}{l21:List (Ty.den TWr)}{n22:Int}{b23:Bool}{n24:Int}{b25:Bool}{l26:List (Ty.den TS)}{l27:List (Ty.den TOp)}{b28:Bool}{n29:Int}{b30:Bool}{n31:Int}{b32:Bool}{n33:Int}{b34:Bool}{n35:Int}{b36:Bool}{l37:List (Ty.den TBk)}{l38:List (Ty.den TWr)}{l39:List (Ty.den TS)}{l40:List (Ty.den TOp)}(g0:0≤n0)(h0:(¬Int.tmod n0 (9:Int)=(3:Int)))(h1:(¬Int.tmod n0 (9:Int)=(4:Int)))(h2:(¬Int.tmod n0 (9:Int)=(5:Int)))(h3:(¬Int.tmod n0 (9:Int)=(6:Int)))(h4:(Int.tmod n0 (9:Int)=(7:Int)))(h5:(k3h [.l TB l3,.n n4,.b b5,.n n6,.b b7,.l TBk l12,.l TWr l13])=(some (0,[.n n16,.b b17,.n n18,.b b19,.l TBk l20,.l TWr l21])))(h6:(k3g [.l TB l3,.n n8,.b b9,.n n10,.b b11,.l TS l14,.l TOp l15])=(some (0,[.n n22,.b b23,.n n24,.b b25,.l TS l26,.l TOp l27])))(h7:(h3c [.k 0,.b (f0b (r2b (c0b (r2b l2))) (r2b l2)),.n (0:Int),.n n16,.b b17,.n n18,.b b19,.n n22,.b b23,.n n24,.b b25,.l TBk l20,.l TWr l13,.l TS l26,.l TOp l15,.l TB (c0b (r2b l2))])=(some (0,[.b b28,.n n29,.b b30,.n n31,.b b32,.n n33,.b b34,.n n35,.b b36,.l TBk l37,.l TWr l38,.l TS l39,.l TOp l40]))):h3m [.n n0,.n n1,.l TB l2,.l TB l3,.n n4,.b b5,.n n6,.b b7,.n n8,.b b9,.n n10,.b b11,.l TBk l12,.l TWr l13,.l TS l14,.l TOp l15]=some ((0,[.b b28,.n n29,.b b30,.n n31,.b b32,.n n33,.b b34,.n n35,.b b36,.l TBk l37,.l TWr l38,.l TS l39,.l TOp l40])):=s1c j3m (sP [1]<|sF (bf h0)<|sF (bf h1)<|sF (bf h2)<|sF (bf h3)<|sT (bt h4)<|sP [1]<|sA h5<|sP [1,1,1]<|sA h6<|sP [1,1,1]<|sA h7<|sP [1,1]<|sL)
theorem r3d {n0 n1:Int}{l2 l3:List (Ty.den TB)}{n4:Int}{b5:Bool}{n6:Int}{b7:Bool}{n8:Int}{b9:Bool}{n10:Int}{b11:Bool}{l12:List (Ty.den TBk)}{l13:List (Ty.den TWr)}{l14:List (Ty.den TS)}{l15:List (Ty.den TOp)}{n16:Int}{b17:Bool}{n18:Int}{b19:Bool}{l20:List (Ty.den TBk)}{l21:List (Ty.den TWr)}{n22:Int}{b23:Bool}{n24:Int}{b25:Bool}{l26:List (Ty.den TS)}{l27:List (Ty.den TOp)}{b28:Bool}{n29:Int}{b30:Bool}{n31:Int}{b32:Bool}{n33:Int}{b34:Bool}{n35:Int}{b36:Bool}{l37:List (Ty.den TBk)}{l38:List (Ty.den TS)}{l39:List (Ty.den TWr)}{l40:List (Ty.den TOp)}(g0:0≤n0)(h0:(¬Int.tmod n0 (9:Int)=(3:Int)))(h1:(¬Int.tmod n0 (9:Int)=(4:Int)))(h2:(¬Int.tmod n0 (9:Int)=(5:Int)))(h3:(¬Int.tmod n0 (9:Int)=(6:Int)))(h4:(Int.tmod n0 (9:Int)=(7:Int)))(h5:(k3h [.l TB l3,.n n4,.b b5,.n n6,.b b7,.l TBk l12,.l TWr l13])=(some (1,[.n n16,.b b17,.n n18,.b b19,.l TBk l20,.l TWr l21])))(h6:(k3g [.l TB l3,.n n8,.b b9,.n n10,.b b11,.l TS l14,.l TOp l15])=(some (1,[.n n22,.b b23,.n n24,.b b25,.l TS l26,.l TOp l27])))(h7:(h3c [.k 1,.b (f0b (r2b (c0b (r2b l2))) (r2b l2)),.n (0:Int),.n n16,.b b17,.n n18,.b b19,.n n22,.b b23,.n n24,.b b25,.l TBk l20,.l TS l26,.l TB (c0b (r2b l2)),.l TWr l21,.l TOp l27])=(some (1,[.b b28,.n n29,.b b30,.n n31,.b b32,.n n33,.b b34,.n n35,.b b36,.l TBk l37,.l TS l38,.l TWr l39,.l TOp l40]))):h3m [.n n0,.n n1,.l TB l2,.l TB l3,.n n4,.b b5,.n n6,.b b7,.n n8,.b b9,.n n10,.b b11,.l TBk l12,.l TWr l13,.l TS l14,.l TOp l15]=some ((1,[.b b28,.n n29,.b b30,.n n31,.b b32,.n n33,.b b34,.n n35,.b b36,.l TBk l37,.l TS l38,.l TWr l39,.l TOp l40])):=s1c j3m (sP [1]<|sF (bf h0)<|sF (bf h1)<|sF (bf h2)<|sF (bf h3)<|sT (bt h4)<|sP [1]<|sA h5<|sP [0,1,1,1]<|sA h6<|sP [0,1,1,1]<|sA h7<|sP [0,1,1]<|sL)
theorem q3t {n0 n1:Int}{l2 l3:List (Ty.den TB)}{n4:Int}{b5:Bool}{n6:Int}{b7:Bool}{n8:Int}{b9:Bool}{n10:Int}{b11:Bool}{l12:List (Ty.den TBk)}{l13:List (Ty.den TWr)}{l14:List (Ty.den TS)}{l15:List (Ty.den TOp)}{n16 n17:Int}{b18:Bool}{n19:Int}{b20:Bool}{l21:List (Ty.den TB)}{l22:List (Ty.den TBk)}{l23:List (Ty.den TWr)}{n24 n25:Int}{b26:Bool}{n27:Int}{b28:Bool}{l29:List (Ty.den TS)}{l30:List (Ty.den TOp)}{b31:Bool}{n32:Int}{b33:Bool}{n34:Int}{b35:Bool}{n36:Int}{b37:Bool}{n38:Int}{b39:Bool}{l40:List (Ty.den TBk)}{l41:List (Ty.den TWr)}{l42:List (Ty.den TS)}{l43:List (Ty.den TOp)}(g0:0≤n0)(h0:(¬Int.tmod n0 (9:Int)=(3:Int)))(h1:(¬Int.tmod n0 (9:Int)=(4:Int)))(h2:(¬Int.tmod n0 (9:Int)=(5:Int)))(h3:(¬Int.tmod n0 (9:Int)=(6:Int)))(h4:(¬Int.tmod n0 (9:Int)=(7:Int)))(h5:(h3l [.n n1,.n n4,.b b5,.n n6,.b b7,.l TB (c0b (r2b l2)),.l TBk l12,.l TWr l13])=(some (0,[.n n16,.n n17,.b b18,.n n19,.b b20,.l TB l21,.l TBk l22,.l TWr l23])))(h6:(i3f [.n n1,.s (r2b l2),.n n8,.b b9,.n n10,.b b11,.l TS l14,.l TOp l15])=(some (0,[.n n24,.n n25,.b b26,.n n27,.b b28,.l TS l29,.l TOp l30])))(h7:(n16=n24))(h8:(h3c [.k 0,.b (f0b (r2b (c0b (r2b l2))) (r2b l2)),.n (0:Int),.n n17,.b b18,.n n19,.b b20,.n n25,.b b26,.n n27,.b b28,.l TBk l12,.l TWr l23,.l TS l14,.l TOp l30,.l TB (c0b (r2b l2))])=(some (0,[.b b31,.n n32,.b b33,.n n34,.b b35,.n n36,.b b37,.n n38,.b b39,.l TBk l40,.l TWr l41,.l TS l42,.l TOp l43]))):h3m [.n n0,.n n1,.l TB l2,.l TB l3,.n n4,.b b5,.n n6,.b b7,.n n8,.b b9,.n n10,.b b11,.l TBk l12,.l TWr l13,.l TS l14,.l TOp l15]=some ((0,[.b b31,.n n32,.b b33,.n n34,.b b35,.n n36,.b b37,.n n38,.b b39,.l TBk l40,.l TWr l41,.l TS l42,.l TOp l43])):=s1c j3m (sP [1]<|sF (bf h0)<|sF (bf h1)<|sF (bf h2)<|sF (bf h3)<|sF (bf h4)<|sP [1]<|sA h5<|sP [1,1,1]<|sA h6<|sP [1,1,1]<|sT (bt h7)<|sA h8<|sP [1,1]<|sL)
def l3s:FuncId→Option a0q:=e1c 12 [S_d12.k h3m] o3r
theorem i3h:CsOk Try.prog l3s:=csA1 j3r j3m
def R_3_5:LSh:={K:=0,log:=[],ins:=[(sh 81 [(1,.imm t0c 0),(5,.ptr 0 0),(6,.ptr 1 0),(7,.int .i64 1)],[dkB 2 3 2,dkB 4 5 6,.arr TBk 10,.arr TWr 11,.arr TS 12,.arr TOp 13])],nils:=[],outs:=[(.exit 0,sh 81 [],[]),(.ret,sh 81 [(4,.bool 0)],[])],cv:=[]}
def j3a:List Dat→Tree Step:=evL l3s 3 5 ls0 R_3_5
theorem v3m: ∃op,IsL j3a 3 5 R_3_5 op:=bxL i3h (LsOk.none _ _ _)
def op_3_5:OpA:=opL v3m
theorem r3o (env:List Dat):op_3_5 env=a0b j3a FU env:=h3g v3m env
abbrev Bx_3_5:MBox:=boxL v3m
theorem r3q {l0:List (Ty.den t0c)}{n1 n2:Int}{b3:Bool}{n4:Int}{b5:Bool}{n6:Int}{b7:Bool}{n8:Int}{b9:Bool}{l10:List (Ty.den TBk)}{l11:List (Ty.den TWr)}{l12:List (Ty.den TS)}{l13:List (Ty.den TOp)}{n14:Int}{b15:Bool}{n16:Int}{b17:Bool}{l18:List (Ty.den TS)}{l19:List (Ty.den TOp)}{n20:Int}{b21:Bool}{n22:Int}{b23:Bool}{l24:List (Ty.den TS)}{l25:List (Ty.den TOp)}{n26:Int}{b27:Bool}{n28:Int}{b29:Bool}{l30:List (Ty.den TBk)}{l31:List (Ty.den TWr)}{n32:Int}{b33:Bool}{n34:Int}{b35:Bool}{l36:List (Ty.den TBk)}{l37:List (Ty.den TWr)}{b38:Bool}{n39:Int}{b40:Bool}{n41:Int}{b42:Bool}{n43:Int}{b44:Bool}{n45:Int}{b46:Bool}{l47:List (Ty.den TBk)}{l48:List (Ty.den TWr)}{l49:List (Ty.den TS)}{l50:List (Ty.den TOp)}{b51:Bool}{n52:Int}{b53:Bool}{n54:Int}{b55:Bool}{n56:Int}{b57:Bool}{n58:Int}{b59:Bool}{l60:List (Ty.den TBk)}{l61:List (Ty.den TWr)}{l62:List (Ty.den TS)}{l63:List (Ty.den TOp)}(g0:0≤n1)(h0:(n1<(↑(List.length l0):Int)))(h1:(Int.tmod (Prod.fst (List.getD l0 (Int.toNat n1) (Ty.dflt t0c))) (9:Int)=(8:Int)))(h2:(l3p [.n n6,.b b7,.n n8,.b b9,.l TS l12,.l TOp l13])=(some (0,[.n n14,.b b15,.n n16,.b b17,.l TS l18,.l TOp l19,.n n20,.b b21,.n n22,.b b23,.l TS l24,.l TOp l25])))(h3:(m3f [.n n2,.b b3,.n n4,.b b5,.l TBk l10,.l TWr l11])=(some (0,[.n n26,.b b27,.n n28,.b b29,.l TBk l30,.l TWr l31,.n n32,.b b33,.n n34,.b b35,.l TBk l36,.l TWr l37])))(h4:(h3m [.n (IntKind.wrap .u8 (Int.tdiv (Prod.fst (List.getD l0 (Int.toNat n1) (Ty.dflt t0c))) (9:Int))),.n (Prod.fst (Prod.snd (List.getD l0 (Int.toNat n1) (Ty.dflt t0c)))),.l TB (Prod.fst (Prod.snd (Prod.snd (List.getD l0 (Int.toNat n1) (Ty.dflt t0c))))),.l TB [],.n n32,.b b33,.n n34,.b b35,.n n6,.b b7,.n n8,.b b9,.l TBk l36,.l TWr l37,.l TS l12,.l TOp l13])=(some (0,[.b b38,.n n39,.b b40,.n n41,.b b42,.n n43,.b b44,.n n45,.b b46,.l TBk l47,.l TWr l48,.l TS l49,.l TOp l50])))(h5:(b38=true))(h6:(k3a [.n n2,.b b3,.n n4,.b b5,.n n20,.b b21,.n n22,.b b23,.l TBk l10,.l TWr l11,.l TS l24,.l TOp l25])=(some (0,[.b b51,.n n52,.b b53,.n n54,.b b55,.n n56,.b b57,.n n58,.b b59,.l TBk l60,.l TWr l61,.l TS l62,.l TOp l63])))(h7:(b51=true)):(j3a [.k 0,.l t0c l0,.n n1,.n n2,.b b3,.n n4,.b b5,.n n6,.b b7,.n n8,.b b9,.l TBk l10,.l TWr l11,.l TS l12,.l TOp l13]).sel=some (Step.go [.k 0,.l t0c l0,.n (IntKind.wrap .i64 (n1+(1:Int))),.n n39,.b b40,.n n41,.b b42,.n n43,.b b44,.n n45,.b b46,.l TBk l47,.l TWr l48,.l TS l49,.l TOp l50]):=sP [1]<|sT (dt h0)<|sTo (c:=(inR n1 (List.length l0)))<|sP [1]<|sT (bt h1)<|sP [1]<|sA h2<|sP [1,1,1]<|sA h3<|sP [1,1]<|sTo (c:=(inR n1 (List.length l0)))<|sP [1]<|sTo (c:=(inR n1 (List.length l0)))<|sTo (c:=(inR n1 (List.length l0)))<|sP [1]<|sA h4<|sP [1,1]<|sF (nt h5)<|sP [1]<|sA h6<|sP [1,1,1]<|sF (nt h7)<|sP [1]<|sL
theorem t3x {l0:List (Ty.den t0c)}{n1 n2:Int}{b3:Bool}{n4:Int}{b5:Bool}{n6:Int}{b7:Bool}{n8:Int}{b9:Bool}{l10:List (Ty.den TBk)}{l11:List (Ty.den TWr)}{l12:List (Ty.den TS)}{l13:List (Ty.den TOp)}{n14:Int}{b15:Bool}{n16:Int}{b17:Bool}{l18:List (Ty.den TS)}{l19:List (Ty.den TOp)}{n20:Int}{b21:Bool}{n22:Int}{b23:Bool}{l24:List (Ty.den TS)}{l25:List (Ty.den TOp)}{n26:Int}{b27:Bool}{n28:Int}{b29:Bool}{l30:List (Ty.den TBk)}{l31:List (Ty.den TWr)}{n32:Int}{b33:Bool}{n34:Int}{b35:Bool}{l36:List (Ty.den TBk)}{l37:List (Ty.den TWr)}{b38:Bool}{n39:Int}{b40:Bool}{n41:Int}{b42:Bool}{n43:Int}{b44:Bool}{n45:Int}{b46:Bool}{l47:List (Ty.den TBk)}{l48:List (Ty.den TS)}{l49:List (Ty.den TWr)}{l50:List (Ty.den TOp)}{b51:Bool}{n52:Int}{b53:Bool}{n54:Int}{b55:Bool}{n56:Int}{b57:Bool}{n58:Int}{b59:Bool}{l60:List (Ty.den TBk)}{l61:List (Ty.den TWr)}{l62:List (Ty.den TS)}{l63:List (Ty.den TOp)}(g0:0≤n1)(h0:(n1<(↑(List.length l0):Int)))(h1:(Int.tmod (Prod.fst (List.getD l0 (Int.toNat n1) (Ty.dflt t0c))) (9:Int)=(8:Int)))(h2:(l3p [.n n6,.b b7,.n n8,.b b9,.l TS l12,.l TOp l13])=(some (0,[.n n14,.b b15,.n n16,.b b17,.l TS l18,.l TOp l19,.n n20,.b b21,.n n22,.b b23,.l TS l24,.l TOp l25])))(h3:(m3f [.n n2,.b b3,.n n4,.b b5,.l TBk l10,.l TWr l11])=(some (0,[.n n26,.b b27,.n n28,.b b29,.l TBk l30,.l TWr l31,.n n32,.b b33,.n n34,.b b35,.l TBk l36,.l TWr l37])))(h4:(h3m [.n (IntKind.wrap .u8 (Int.tdiv (Prod.fst (List.getD l0 (Int.toNat n1) (Ty.dflt t0c))) (9:Int))),.n (Prod.fst (Prod.snd (List.getD l0 (Int.toNat n1) (Ty.dflt t0c)))),.l TB (Prod.fst (Prod.snd (Prod.snd (List.getD l0 (Int.toNat n1) (Ty.dflt t0c))))),.l TB [],.n n32,.b b33,.n n34,.b b35,.n n6,.b b7,.n n8,.b b9,.l TBk l36,.l TWr l37,.l TS l12,.l TOp l13])=(some (1,[.b b38,.n n39,.b b40,.n n41,.b b42,.n n43,.b b44,.n n45,.b b46,.l TBk l47,.l TS l48,.l TWr l49,.l TOp l50])))(h5:(b38=true))(h6:(k3a [.n n2,.b b3,.n n4,.b b5,.n n20,.b b21,.n n22,.b b23,.l TBk l10,.l TWr l11,.l TS l24,.l TOp l25])=(some (0,[.b b51,.n n52,.b b53,.n n54,.b b55,.n n56,.b b57,.n n58,.b b59,.l TBk l60,.l TWr l61,.l TS l62,.l TOp l63])))(h7:(b51=true)):(j3a [.k 0,.l t0c l0,.n n1,.n n2,.b b3,.n n4,.b b5,.n n6,.b b7,.n n8,.b b9,.l TBk l10,.l TWr l11,.l TS l12,.l TOp l13]).sel=some (Step.go [.k 0,.l t0c l0,.n (IntKind.wrap .i64 (n1+(1:Int))),.n n39,.b b40,.n n41,.b b42,.n n43,.b b44,.n n45,.b b46,.l TBk l47,.l TWr l49,.l TS l48,.l TOp l50]):=sP [1]<|sT (dt h0)<|sTo (c:=(inR n1 (List.length l0)))<|sP [1]<|sT (bt h1)<|sP [1]<|sA h2<|sP [1,1,1]<|sA h3<|sP [1,1]<|sTo (c:=(inR n1 (List.length l0)))<|sP [1]<|sTo (c:=(inR n1 (List.length l0)))<|sTo (c:=(inR n1 (List.length l0)))<|sP [1]<|sA h4<|sP [0,1,1]<|sF (nt h5)<|sP [1]<|sA h6<|sP [1,1,1]<|sF (nt h7)<|sP [1]<|sL
theorem p3p {l0:List (Ty.den t0c)}{n1 n2:Int}{b3:Bool}{n4:Int}{b5:Bool}{n6:Int}{b7:Bool}{n8:Int}{b9:Bool}{l10:List (Ty.den TBk)}{l11:List (Ty.den TWr)}{l12:List (Ty.den TS)}{l13:List (Ty.den TOp)}{b14:Bool}{n15:Int}{b16:Bool}{n17:Int}{b18:Bool}{n19:Int}{b20:Bool}{n21:Int}{b22:Bool}{l23:List (Ty.den TBk)}{l24:List (Ty.den TWr)}{l25:List (Ty.den TS)}{l26:List (Ty.den TOp)}{b27:Bool}{n28:Int}{b29:Bool}{n30:Int}{b31:Bool}{n32:Int}{b33:Bool}{n34:Int}{b35:Bool}{l36:List (Ty.den TBk)}{l37:List (Ty.den TWr)}{l38:List (Ty.den TS)}{l39:List (Ty.den TOp)}(g0:0≤n1)(h0:(n1<(↑(List.length l0):Int)))(h1:(¬Int.tmod (Prod.fst (List.getD l0 (Int.toNat n1) (Ty.dflt t0c))) (9:Int)=(8:Int)))(h2:(h3m [.n (Prod.fst (List.getD l0 (Int.toNat n1) (Ty.dflt t0c))),.n (Prod.fst (Prod.snd (List.getD l0 (Int.toNat n1) (Ty.dflt t0c)))),.l TB (Prod.fst (Prod.snd (Prod.snd (List.getD l0 (Int.toNat n1) (Ty.dflt t0c))))),.l TB (Prod.snd (Prod.snd (Prod.snd (List.getD l0 (Int.toNat n1) (Ty.dflt t0c))))),.n n2,.b b3,.n n4,.b b5,.n n6,.b b7,.n n8,.b b9,.l TBk l10,.l TWr l11,.l TS l12,.l TOp l13])=(some (0,[.b b14,.n n15,.b b16,.n n17,.b b18,.n n19,.b b20,.n n21,.b b22,.l TBk l23,.l TWr l24,.l TS l25,.l TOp l26])))(h3:(b14=true))(h4:(k3a [.n n15,.b b16,.n n17,.b b18,.n n19,.b b20,.n n21,.b b22,.l TBk l23,.l TWr l24,.l TS l25,.l TOp l26])=(some (0,[.b b27,.n n28,.b b29,.n n30,.b b31,.n n32,.b b33,.n n34,.b b35,.l TBk l36,.l TWr l37,.l TS l38,.l TOp l39])))(h5:(b27=true)):(j3a [.k 0,.l t0c l0,.n n1,.n n2,.b b3,.n n4,.b b5,.n n6,.b b7,.n n8,.b b9,.l TBk l10,.l TWr l11,.l TS l12,.l TOp l13]).sel=some (Step.go [.k 0,.l t0c l0,.n (IntKind.wrap .i64 (n1+(1:Int))),.n n15,.b b16,.n n17,.b b18,.n n19,.b b20,.n n21,.b b22,.l TBk l23,.l TWr l24,.l TS l25,.l TOp l26]):=sP [1]<|sT (dt h0)<|sTo (c:=(inR n1 (List.length l0)))<|sP [1]<|sF (bf h1)<|sTo (c:=(inR n1 (List.length l0)))<|sP [1]<|sA h2<|sP [1,1]<|sF (nt h3)<|sP [1]<|sA h4<|sP [1,1]<|sF (nt h5)<|sP [1]<|sL
theorem q3k {l0:List (Ty.den t0c)}{n1 n2:Int}{b3:Bool}{n4:Int}{b5:Bool}{n6:Int}{b7:Bool}{n8:Int}{b9:Bool}{l10:List (Ty.den TBk)}{l11:List (Ty.den TWr)}{l12:List (Ty.den TS)}{l13:List (Ty.den TOp)}{b14:Bool}{n15:Int}{b16:Bool}{n17:Int}{b18:Bool}{n19:Int}{b20:Bool}{n21:Int}{b22:Bool}{l23:List (Ty.den TBk)}{l24:List (Ty.den TS)}{l25:List (Ty.den TWr)}{l26:List (Ty.den TOp)}{b27:Bool}{n28:Int}{b29:Bool}{n30:Int}{b31:Bool}{n32:Int}{b33:Bool}{n34:Int}{b35:Bool}{l36:List (Ty.den TBk)}{l37:List (Ty.den TWr)}{l38:List (Ty.den TS)}{l39:List (Ty.den TOp)}(g0:0≤n1)(h0:(n1<(↑(List.length l0):Int)))(h1:(¬Int.tmod (Prod.fst (List.getD l0 (Int.toNat n1) (Ty.dflt t0c))) (9:Int)=(8:Int)))(h2:(h3m [.n (Prod.fst (List.getD l0 (Int.toNat n1) (Ty.dflt t0c))),.n (Prod.fst (Prod.snd (List.getD l0 (Int.toNat n1) (Ty.dflt t0c)))),.l TB (Prod.fst (Prod.snd (Prod.snd (List.getD l0 (Int.toNat n1) (Ty.dflt t0c))))),.l TB (Prod.snd (Prod.snd (Prod.snd (List.getD l0 (Int.toNat n1) (Ty.dflt t0c))))),.n n2,.b b3,.n n4,.b b5,.n n6,.b b7,.n n8,.b b9,.l TBk l10,.l TWr l11,.l TS l12,.l TOp l13])=(some (1,[.b b14,.n n15,.b b16,.n n17,.b b18,.n n19,.b b20,.n n21,.b b22,.l TBk l23,.l TS l24,.l TWr l25,.l TOp l26])))(h3:(b14=true))(h4:(k3a [.n n15,.b b16,.n n17,.b b18,.n n19,.b b20,.n n21,.b b22,.l TBk l23,.l TWr l25,.l TS l24,.l TOp l26])=(some (0,[.b b27,.n n28,.b b29,.n n30,.b b31,.n n32,.b b33,.n n34,.b b35,.l TBk l36,.l TWr l37,.l TS l38,.l TOp l39])))(h5:(b27=true)):(j3a [.k 0,.l t0c l0,.n n1,.n n2,.b b3,.n n4,.b b5,.n n6,.b b7,.n n8,.b b9,.l TBk l10,.l TWr l11,.l TS l12,.l TOp l13]).sel=some (Step.go [.k 0,.l t0c l0,.n (IntKind.wrap .i64 (n1+(1:Int))),.n n15,.b b16,.n n17,.b b18,.n n19,.b b20,.n n21,.b b22,.l TBk l23,.l TWr l25,.l TS l24,.l TOp l26]):=sP [1]<|sT (dt h0)<|sTo (c:=(inR n1 (List.length l0)))<|sP [1]<|sF (bf h1)<|sTo (c:=(inR n1 (List.length l0)))<|sP [1]<|sA h2<|sP [0,1,1]<|sF (nt h3)<|sP [1]<|sA h4<|sP [1,1]<|sF (nt h5)<|sP [1]<|sL
theorem q3l {l0:List (Ty.den t0c)}{n1 n2:Int}{b3:Bool}{n4:Int}{b5:Bool}{n6:Int}{b7:Bool}{n8:Int}{b9:Bool}{l10:List (Ty.den TBk)}{l11:List (Ty.den TWr)}{l12:List (Ty.den TS)}{l13:List (Ty.den TOp)}(g0:0≤n1)(h0:(¬n1<(↑(List.length l0):Int))):(j3a [.k 0,.l t0c l0,.n n1,.n n2,.b b3,.n n4,.b b5,.n n6,.b b7,.n n8,.b b9,.l TBk l10,.l TWr l11,.l TS l12,.l TOp l13]).sel=some (Step.stop 0 []):=sP [1]<|sF (df h0)<|sP [1]<|sL
def v3p:List Dat→Tree Bool:=evW l3s 3 (lsM [(5,Bx_3_5)] 0) [.int .i64 0,.imm t0c 1]
theorem v3l {n0:Int}{l1:List (Ty.den t0c)}{b2:Bool}(h0:(j3b [.l t0c l1])=(some (0,[.b b2])))(h1:(b2=true)):(v3p [.n n0,.l t0c l1]).sel=some (true):=sA h0<|sP [1,1]<|sT h1<|sP [1,1,1,1,1]<|sL
theorem v3r {n0:Int}{l1:List (Ty.den t0c)}{b2:Bool}(h0:(j3b [.l t0c l1])=(some (0,[.b b2])))(h1:(b2=false))(h2:(n0>(40:Int))):(v3p [.n n0,.l t0c l1]).sel=some (true):=sA h0<|sP [1,1]<|sF h1<|sT (dt h2)<|sP [1,1,1]<|sL
theorem v3w {n0:Int}{l1:List (Ty.den t0c)}{b2:Bool}{n3:Int}{b4:Bool}{n5:Int}{b6:Bool}{l7:List (Ty.den TBk)}{l8:List (Ty.den TWr)}{n9:Int}{b10:Bool}{n11:Int}{b12:Bool}{l13:List (Ty.den TS)}{l14:List (Ty.den TOp)}(h0:(j3b [.l t0c l1])=(some (0,[.b b2])))(h1:(b2=false))(h2:(¬n0>(40:Int)))(h3:(k3b [.n n0])=(some (0,[.n n3,.b b4,.n n5,.b b6,.l TBk l7,.l TWr l8])))(h4:(v3k [.n n0])=(some (0,[.n n9,.b b10,.n n11,.b b12,.l TS l13,.l TOp l14])))(h5:(op_3_5 [.k 0,.l t0c l1,.n (0:Int),.n n3,.b b4,.n n5,.b b6,.n n9,.b b10,.n n11,.b b12,.l TBk l7,.l TWr l8,.l TS l13,.l TOp l14])=(some (0,[]))):(v3p [.n n0,.l t0c l1]).sel=some (true):=sA h0<|sP [1,1]<|sF h1<|sF (df h2)<|sP [1]<|sA h3<|sP [1,1,1]<|sA h4<|sP [1,1]<|sA h5<|sP [1,1,1,1]<|sL
abbrev TBo:Ty:=.bool
def r3v:BSh:={args:=[.ptr 0 0,.imn TB 0],blks:=[dkB 1 2 1,.arr TBk 5,.arr TWr 6],log:=[0,1],outs:=[(.tup [],[dkB 1 2 0,.arr TBk 4,.arr TWr 5]),(.tup [],[dkB 1 3 0,.arr TBk 4,.gone,.arr TWr 5])]}
def ev_d19n:List Dat→Tree (Nat×List Dat):=evFV [(some 0,1,.own TWr)] l3s 19 ls0 r3v
theorem u3m: ∃op,IsF ev_d19n 19 r3v op:=bxFV i3h (LsOk.none _ _ _)
def j3y:OpA:=opF u3m
theorem r3f {l0:List (Ty.den TB)}{n1:Int}{b2:Bool}{n3:Int}{b4:Bool}{l5:List (Ty.den TBk)}{l6:List (Ty.den TWr)}{n7:Int}{b8:Bool}{n9:Int}{b10:Bool}{l11:List (Ty.den TB)}{l12:List (Ty.den TBk)}{l13:List (Ty.den TWr)}(h0:(b4=true))(h1:(m3c [.n n1,.b b2,.n n3,.b b4,.l TB l0,.l TBk l5,.l TWr l6])=(some (0,[.n n7,.b b8,.n n9,.b b10,.l TB l11,.l TBk l12,.l TWr l13]))):j3y [.l TB l0,.n n1,.b b2,.n n3,.b b4,.l TBk l5,.l TWr l6]=some ((1,[.n n7,.b false,.n n9,.b false,.l TBk l12,.l TWr l13])):=s1c u3m (sP [0]<|sT h0<|sP [1]<|sA h1<|sP [1,1,1]<|sL)
def k3s:FuncId→Option a0q:=e1c 19 [r3v.k j3y] l3s
theorem i3s:CsOk Try.prog k3s:=csA1 i3h u3m
def u3p:LSh:={K:=0,log:=[],ins:=[(sh 23 [(0,.str 0),(1,.str 1),(2,.str 2),(7,.int .i64 3)],[])],nils:=[],outs:=[(.exit 0,sh 23 [],[]),(.ret,sh 23 [(6,.bool 0)],[])],cv:=[]}
def i3l:List Dat→Tree Step:=evL k3s 21 2 ls0 u3p
theorem k3p: ∃op,IsL i3l 21 2 u3p op:=bxL i3s (LsOk.none _ _ _)
def o3z:OpA:=opL k3p
theorem n3d (env:List Dat):o3z env=a0b i3l FU env:=h3g k3p env
abbrev v3b:MBox:=boxL k3p
theorem n3z {s0 s1 s2:ByteArray}{n3:Int}(g0:0≤n3)(h0:(n3≤(↑(ByteArray.size s0):Int)))(h1:((decide ((0:Int)≤n3)&&decide (n3≤(↑(ByteArray.size s2):Int)))=true))(h2:((decide ((0:Int)≤n3)&&decide (n3≤(↑(ByteArray.size s1):Int)))=true))(h3:(ByteArray.size (ByteArray.extract s2 0 (Int.toNat n3))+ByteArray.size (ByteArray.extract s1 (Int.toNat n3) (Int.toNat (↑(ByteArray.size s1):Int)))≤9223372036854775807))(h4:(f0b s0 (ByteArray.extract s2 0 (Int.toNat n3)++ByteArray.extract s1 (Int.toNat n3) (Int.toNat (↑(ByteArray.size s1):Int)))=true)):(i3l [.k 0,.s s0,.s s1,.s s2,.n n3]).sel=some (Step.stop 1 [.b true]):=sP [1]<|sT (dt h0)<|sT h1<|sTs (c:=(true&&decide ((0:Int)≤n3)))<|sTs (c:=(true&&decide ((↑(ByteArray.size s1):Int)≤(↑(ByteArray.size s1):Int))))<|sT h2<|sT (dt h3)<|sP [1]<|sT h4<|sP [1]<|sL
theorem m3s {s0 s1 s2:ByteArray}{n3:Int}(g0:0≤n3)(h0:(n3≤(↑(ByteArray.size s0):Int)))(h1:((decide ((0:Int)≤n3)&&decide (n3≤(↑(ByteArray.size s2):Int)))=true))(h2:((decide ((0:Int)≤n3)&&decide (n3≤(↑(ByteArray.size s1):Int)))=true))(h3:(ByteArray.size (ByteArray.extract s2 0 (Int.toNat n3))+ByteArray.size (ByteArray.extract s1 (Int.toNat n3) (Int.toNat (↑(ByteArray.size s1):Int)))≤9223372036854775807))(h4:(f0b s0 (ByteArray.extract s2 0 (Int.toNat n3)++ByteArray.extract s1 (Int.toNat n3) (Int.toNat (↑(ByteArray.size s1):Int)))=false)):(i3l [.k 0,.s s0,.s s1,.s s2,.n n3]).sel=some (Step.go [.k 0,.s s0,.s s1,.s s2,.n (IntKind.wrap .i64 (n3+(1:Int)))]):=sP [1]<|sT (dt h0)<|sT h1<|sTs (c:=(true&&decide ((0:Int)≤n3)))<|sTs (c:=(true&&decide ((↑(ByteArray.size s1):Int)≤(↑(ByteArray.size s1):Int))))<|sT h2<|sT (dt h3)<|sP [1]<|sF h4<|sP [1]<|sL
def S_t21:BSh:={args:=[.str 0,.str 1,.str 2],blks:=[],log:=[],outs:=[(.bool 0,[])]}
def ev_t21:List Dat→Tree (Nat×List Dat):=evF k3s 21 (lsM [(2,v3b)] 0) S_t21
theorem e_t21: ∃op,IsF ev_t21 21 S_t21 op:=bxF i3s (lsE (lsC (h3d k3p) (atF) lsZ))
def k3i:OpA:=opF e_t21
theorem t3c {s0 s1 s2:ByteArray}{b3:Bool}(h0:(o3z [.k 0,.s s0,.s s1,.s s2,.n (0:Int)])=(some (1,[.b b3]))):k3i [.s s0,.s s1,.s s2]=some ((0,[.b b3])):=s1c e_t21 (sA h0<|sP [0,1,1]<|sL)
def j3v:FuncId→Option a0q:=a0s 21 (S_t21.k k3i) k3s
theorem h3q:CsOk Try.prog j3v:=csL1 i3s e_t21
def R_4_7:LSh:={K:=0,log:=[],ins:=[(sh 199 [(0,.imm t0c 0),(5,.ptr 0 0),(6,.own 1),(7,.own 2),(8,.int .i64 1)],[dkB 3 4 2,.arr TS 6,.arr TS 7,.arr TBk 8,.arr TWr 9])],nils:=[],outs:=[(.exit 0,sh 199 [(0,.imm t0c 0),(5,.ptr 0 0),(6,.own 1),(7,.own 2)],[dkB 3 4 1,.arr TS 5,.arr TS 6,.arr TBk 7,.arr TWr 8])],cv:=[]}
def l3r:List Dat→Tree Step:=evL j3v 4 7 ls0 R_4_7
theorem u3w: ∃op,IsL l3r 4 7 R_4_7 op:=bxL h3q (LsOk.none _ _ _)
def o3s:OpA:=opL u3w
theorem t3a (env:List Dat):o3s env=a0b l3r FU env:=h3g u3w env
abbrev Bx_4_7:MBox:=boxL u3w
theorem r3x {l0:List (Ty.den t0c)}{n1 n2:Int}{b3:Bool}{n4:Int}{b5:Bool}{l6 l7:List (Ty.den TS)}{l8:List (Ty.den TBk)}{l9:List (Ty.den TWr)}(g0:0≤n1)(h0:(n1<(8:Int)))(h1:(inR n1 (List.length l6)=true))(h2:(inR n1 (List.length (List.set l6 (Int.toNat n1) (r2b (List.replicate 256 (0:Int)))))=true))(h3:(inR n1 (List.length l7)=true)):(l3r [.k 0,.l t0c l0,.n n1,.n n2,.b b3,.n n4,.b b5,.l TS l6,.l TS l7,.l TBk l8,.l TWr l9]).sel=some (Step.go [.k 0,.l t0c l0,.n (IntKind.wrap .i64 (n1+(1:Int))),.n n2,.b b3,.n n4,.b b5,.l TS (List.set l6 (Int.toNat n1) (r2b (List.replicate 256 (0:Int)))),.l TS (List.set l7 (Int.toNat n1) (List.getD (List.set l6 (Int.toNat n1) (r2b (List.replicate 256 (0:Int)))) (Int.toNat n1) (Ty.dflt TS))),.l TBk l8,.l TWr l9]):=sP [1]<|sT (dt h0)<|sP [1]<|sT h1<|sT h2<|sT h3<|sP [1]<|sL
theorem u3c {l0:List (Ty.den t0c)}{n1 n2:Int}{b3:Bool}{n4:Int}{b5:Bool}{l6 l7:List (Ty.den TS)}{l8:List (Ty.den TBk)}{l9:List (Ty.den TWr)}(g0:0≤n1)(h0:(¬n1<(8:Int))):(l3r [.k 0,.l t0c l0,.n n1,.n n2,.b b3,.n n4,.b b5,.l TS l6,.l TS l7,.l TBk l8,.l TWr l9]).sel=some (Step.stop 0 [.l t0c l0,.n n2,.b b3,.n n4,.b b5,.l TS l6,.l TS l7,.l TBk l8,.l TWr l9]):=sP [1]<|sF (df h0)<|sP [1]<|sL
def R_4_19:LSh:={K:=0,log:=[],ins:=[(sh 199 [(0,.imm t0c 0),(5,.ptr 0 0),(6,.own 1),(7,.own 2),(10,.int .i64 1),(11,.int .i64 2),(12,.int .i64 3)],[dkB 3 4 4,.arr TS 8,.arr TS 9,.arr TBk 10,.arr TWr 11])],nils:=[],outs:=[(.exit 4,sh 199 [(0,.imm t0c 0),(5,.ptr 0 0),(6,.own 1),(7,.own 2),(10,.int .i64 1),(11,.int .i64 2)],[dkB 3 4 3,.arr TS 7,.arr TS 8,.arr TBk 9,.arr TWr 10])],cv:=[]}
def j3x:List Dat→Tree Step:=evL j3v 4 19 ls0 R_4_19
theorem p3a: ∃op,IsL j3x 4 19 R_4_19 op:=bxL h3q (LsOk.none _ _ _)
def i3q:OpA:=opL p3a
theorem q3f (env:List Dat):i3q env=a0b j3x FU env:=h3g p3a env
abbrev Bx_4_19:MBox:=boxL p3a
theorem q3h {l0:List (Ty.den t0c)}{n1 n2 n3 n4:Int}{b5:Bool}{n6:Int}{b7:Bool}{l8 l9:List (Ty.den TS)}{l10:List (Ty.den TBk)}{l11:List (Ty.den TWr)}(g0:0≤n3)(h0:(n3<(8:Int)))(h1:(inR n3 (List.length l9)=true))(h2:(inR n3 (List.length l8)=true)):(j3x [.k 0,.l t0c l0,.n n1,.n n2,.n n3,.n n4,.b b5,.n n6,.b b7,.l TS l8,.l TS l9,.l TBk l10,.l TWr l11]).sel=some (Step.go [.k 0,.l t0c l0,.n n1,.n n2,.n (IntKind.wrap .i64 (n3+(1:Int))),.n n4,.b b5,.n n6,.b b7,.l TS (List.set l8 (Int.toNat n3) (List.getD l9 (Int.toNat n3) (Ty.dflt TS))),.l TS l9,.l TBk l10,.l TWr l11]):=sP [1]<|sT (dt h0)<|sT h1<|sT h2<|sP [1]<|sL
theorem r3c {l0:List (Ty.den t0c)}{n1 n2 n3 n4:Int}{b5:Bool}{n6:Int}{b7:Bool}{l8 l9:List (Ty.den TS)}{l10:List (Ty.den TBk)}{l11:List (Ty.den TWr)}(g0:0≤n3)(h0:(¬n3<(8:Int))):(j3x [.k 0,.l t0c l0,.n n1,.n n2,.n n3,.n n4,.b b5,.n n6,.b b7,.l TS l8,.l TS l9,.l TBk l10,.l TWr l11]).sel=some (Step.stop 0 [.l t0c l0,.n n1,.n n2,.n n4,.b b5,.n n6,.b b7,.l TS l8,.l TS l9,.l TBk l10,.l TWr l11]):=sP [1]<|sF (df h0)<|sP [1]<|sL
def R_4_27:LSh:={K:=0,log:=[],ins:=[(sh 199 [(0,.imm t0c 0),(5,.ptr 0 0),(6,.own 1),(7,.own 2),(9,.own 3),(10,.int .i64 1),(11,.int .i64 2),(13,.own 4),(14,.int .i64 3)],[dkB 5 6 4,.arr TS 8,.arr TS 9,.arr TBo 10,.arr TB 11,.arr TBk 12,.arr TWr 13])],nils:=[],outs:=[(.exit 6,sh 199 [(0,.imm t0c 0),(5,.ptr 0 0),(6,.own 1),(7,.own 2),(9,.own 3),(10,.int .i64 1),(11,.int .i64 2),(13,.own 4)],[dkB 5 6 3,.arr TS 7,.arr TS 8,.arr TBo 9,.arr TB 10,.arr TBk 11,.arr TWr 12])],cv:=[]}
def j3p:List Dat→Tree Step:=evL j3v 4 27 ls0 R_4_27
theorem o3y: ∃op,IsL j3p 4 27 R_4_27 op:=bxL h3q (LsOk.none _ _ _)
def i3v:OpA:=opL o3y
theorem p3x (env:List Dat):i3v env=a0b j3p FU env:=h3g o3y env
abbrev Bx_4_27:MBox:=boxL o3y
theorem q3e {l0:List (Ty.den t0c)}{n1 n2 n3 n4:Int}{b5:Bool}{n6:Int}{b7:Bool}{l8 l9:List (Ty.den TS)}{l10:List (Ty.den TBo)}{l11:List (Ty.den TB)}{l12:List (Ty.den TBk)}{l13:List (Ty.den TWr)}(g0:0≤n3)(h0:(inR n1 (List.length l0)=true))(h1:(n3<(↑(List.length (Prod.fst (Prod.snd (Prod.snd (List.getD l0 (Int.toNat n1) (Ty.dflt t0c)))))):Int)))(h2:(inR n3 (List.length l11)=true)):(j3p [.k 0,.l t0c l0,.n n1,.n n2,.n n3,.n n4,.b b5,.n n6,.b b7,.l TS l8,.l TS l9,.l TBo l10,.l TB l11,.l TBk l12,.l TWr l13]).sel=some (Step.go [.k 0,.l t0c l0,.n n1,.n n2,.n (IntKind.wrap .i64 (n3+(1:Int))),.n n4,.b b5,.n n6,.b b7,.l TS l8,.l TS l9,.l TBo l10,.l TB (List.set l11 (Int.toNat n3) (List.getD (Prod.fst (Prod.snd (Prod.snd (List.getD l0 (Int.toNat n1) (Ty.dflt t0c))))) (Int.toNat n3) (0:Int))),.l TBk l12,.l TWr l13]):=sP [1]<|sT h0<|sT (dt h1)<|sT h0<|sTo (c:=(inR n3 (List.length (Prod.fst (Prod.snd (Prod.snd (List.getD l0 (Int.toNat n1) (Ty.dflt t0c))))))))<|sT h2<|sP [1]<|sL
theorem q3j {l0:List (Ty.den t0c)}{n1 n2 n3 n4:Int}{b5:Bool}{n6:Int}{b7:Bool}{l8 l9:List (Ty.den TS)}{l10:List (Ty.den TBo)}{l11:List (Ty.den TB)}{l12:List (Ty.den TBk)}{l13:List (Ty.den TWr)}(g0:0≤n3)(h0:(inR n1 (List.length l0)=true))(h1:(¬n3<(↑(List.length (Prod.fst (Prod.snd (Prod.snd (List.getD l0 (Int.toNat n1) (Ty.dflt t0c)))))):Int))):(j3p [.k 0,.l t0c l0,.n n1,.n n2,.n n3,.n n4,.b b5,.n n6,.b b7,.l TS l8,.l TS l9,.l TBo l10,.l TB l11,.l TBk l12,.l TWr l13]).sel=some (Step.stop 0 [.l t0c l0,.n n1,.n n2,.n n4,.b b5,.n n6,.b b7,.l TS l8,.l TS l9,.l TBo l10,.l TB l11,.l TBk l12,.l TWr l13]):=sP [1]<|sT h0<|sF (df h1)<|sP [1]<|sL
def R_4_13:LSh:={K:=0,log:=[],ins:=[(sh 199 [(0,.imm t0c 0),(5,.ptr 0 0),(6,.own 1),(7,.own 2),(9,.own 3),(10,.int .i64 1)],[dkB 4 5 2,.arr TS 6,.arr TS 7,.arr TBo 8,.arr TBk 9,.arr TWr 10])],nils:=[],outs:=[(.exit 2,sh 199 [(0,.imm t0c 0),(5,.ptr 0 0),(6,.own 1),(7,.own 2),(9,.own 3)],[dkB 4 5 1,.arr TS 5,.arr TS 6,.arr TBo 7,.arr TBk 8,.arr TWr 9])],cv:=[]}
def h3f:List Dat→Tree Step:=evL j3v 4 13 (lsM [(19,Bx_4_19),(27,Bx_4_27)] 0) R_4_13
theorem o3n: ∃op,IsL h3f 4 13 R_4_13 op:=bxL h3q (lsE (lsC (h3d p3a) (by kernel_rfl) (lsC (h3d o3y) (by kernel_rfl) lsZ)))
def k3u:OpA:=opL o3n
theorem q3m (env:List Dat):k3u env=a0b h3f FU env:=h3g o3n env
abbrev s3l:MBox:=boxL o3n
theorem q3s {l0:List (Ty.den t0c)}{n1 n2:Int}{b3:Bool}{n4:Int}{b5:Bool}{l6 l7:List (Ty.den TS)}{l8:List (Ty.den TBo)}{l9:List (Ty.den TBk)}{l10:List (Ty.den TWr)}{n11 n12:Int}{b13:Bool}{n14:Int}{b15:Bool}{l16:List (Ty.den TBk)}{l17:List (Ty.den TWr)}(g0:0≤n1)(h0:(n1<(↑(List.length l0):Int)))(h1:(b5=false))(h2:(inR (iand IntKind.i64 (Prod.fst (Prod.snd (List.getD l0 (Int.toNat n1) (Ty.dflt t0c)))) (7:Int)) (List.length l8)=true))(h3:(List.getD l8 (Int.toNat (iand IntKind.i64 (Prod.fst (Prod.snd (List.getD l0 (Int.toNat n1) (Ty.dflt t0c)))) (7:Int))) false=true))(h4:(h3o [.n n2,.b b3,.n n4,.b b5,.l TBk l9,.l TWr l10])=(some (0,[.n n11,.n n12,.b b13,.n n14,.b b15,.l TBk l16,.l TWr l17])))(h5:(¬n11=(0:Int)))(h6:(b15=true)):(h3f [.k 0,.l t0c l0,.n n1,.n n2,.b b3,.n n4,.b b5,.l TS l6,.l TS l7,.l TBo l8,.l TBk l9,.l TWr l10]).sel=some (Step.go [.k 0,.l t0c l0,.n (IntKind.wrap .i64 (n1+(1:Int))),.n n12,.b b13,.n n14,.b b15,.l TS l6,.l TS l7,.l TBo l8,.l TBk l16,.l TWr l10]):=sP [1]<|sT (dt h0)<|sP [1,0,1]<|sT (nf h1)<|sTo (c:=(inR n1 (List.length l0)))<|sT h2<|sT h3<|sP [1,1,1]<|sA h4<|sP [1,1]<|sF (bf h5)<|sP [1,0,1]<|sT h6<|sP [1,1,1]<|sL
theorem q3z {l0:List (Ty.den t0c)}{n1 n2:Int}{b3:Bool}{n4:Int}{b5:Bool}{l6 l7:List (Ty.den TS)}{l8:List (Ty.den TBo)}{l9:List (Ty.den TBk)}{l10:List (Ty.den TWr)}{n11 n12:Int}{b13:Bool}{n14:Int}{b15:Bool}{l16:List (Ty.den TBk)}{l17:List (Ty.den TWr)}{l18:List (Ty.den t0c)}{n19 n20 n21:Int}{b22:Bool}{n23:Int}{b24:Bool}{l25 l26:List (Ty.den TS)}{l27:List (Ty.den TBk)}{l28:List (Ty.den TWr)}(g0:0≤n1)(h0:(n1<(↑(List.length l0):Int)))(h1:(b5=false))(h2:(inR (iand IntKind.i64 (Prod.fst (Prod.snd (List.getD l0 (Int.toNat n1) (Ty.dflt t0c)))) (7:Int)) (List.length l8)=true))(h3:(List.getD l8 (Int.toNat (iand IntKind.i64 (Prod.fst (Prod.snd (List.getD l0 (Int.toNat n1) (Ty.dflt t0c)))) (7:Int))) false=true))(h4:(h3o [.n n2,.b b3,.n n4,.b b5,.l TBk l9,.l TWr l10])=(some (1,[.n n11,.n n12,.b b13,.n n14,.b b15,.l TBk l16,.l TWr l17])))(h5:(n11=(0:Int)))(h6:(i3q [.k 0,.l t0c l0,.n n1,.n (iand IntKind.i64 (Prod.fst (Prod.snd (List.getD l0 (Int.toNat n1) (Ty.dflt t0c)))) (7:Int)),.n (0:Int),.n n12,.b b13,.n n14,.b b15,.l TS l6,.l TS l7,.l TBk l16,.l TWr l17])=(some (0,[.l t0c l18,.n n19,.n n20,.n n21,.b b22,.n n23,.b b24,.l TS l25,.l TS l26,.l TBk l27,.l TWr l28])))(h7:(b24=false))(h8:(inR n19 (List.length l18)=true))(h9:((↑(List.length (Prod.fst (Prod.snd (Prod.snd (List.getD l18 (Int.toNat n19) (Ty.dflt t0c)))))):Int)>(256:Int))):(h3f [.k 0,.l t0c l0,.n n1,.n n2,.b b3,.n n4,.b b5,.l TS l6,.l TS l7,.l TBo l8,.l TBk l9,.l TWr l10]).sel=some (Step.go [.k 0,.l t0c l18,.n (IntKind.wrap .i64 (n19+(1:Int))),.n n21,.b b22,.n n23,.b b24,.l TS l25,.l TS l26,.l TBo [false,false,false,false,false,false,false,false],.l TBk l27,.l TWr l28]):=sP [1]<|sT (dt h0)<|sP [1,0,1]<|sT (nf h1)<|sTo (c:=(inR n1 (List.length l0)))<|sT h2<|sT h3<|sP [1,1,1]<|sA h4<|sP [0,1,1]<|sT (bt h5)<|sA h6<|sP [1,1,1,0,1]<|sF h7<|sT h8<|sT (dt h9)<|sP [1]<|sL
theorem p3u {l0:List (Ty.den t0c)}{n1 n2:Int}{b3:Bool}{n4:Int}{b5:Bool}{l6 l7:List (Ty.den TS)}{l8:List (Ty.den TBo)}{l9:List (Ty.den TBk)}{l10:List (Ty.den TWr)}{n11 n12:Int}{b13:Bool}{n14:Int}{b15:Bool}{l16:List (Ty.den TBk)}{l17:List (Ty.den TWr)}{l18:List (Ty.den t0c)}{n19 n20 n21:Int}{b22:Bool}{n23:Int}{b24:Bool}{l25 l26:List (Ty.den TS)}{l27:List (Ty.den TBk)}{l28:List (Ty.den TWr)}{n29 n30:Int}{b31:Bool}{n32:Int}{b33:Bool}{l34:List (Ty.den TBk)}{l35:List (Ty.den TWr)}{l36:List (Ty.den t0c)}{n37 n38 n39:Int}{b40:Bool}{n41:Int}{b42:Bool}{l43 l44:List (Ty.den TS)}{l45:List (Ty.den TBo)}{l46:List (Ty.den TB)}{l47:List (Ty.den TBk)}{l48:List (Ty.den TWr)}(g0:0≤n1)(h0:(n1<(↑(List.length l0):Int)))(h1:(b5=false))(h2:(inR (iand IntKind.i64 (Prod.fst (Prod.snd (List.getD l0 (Int.toNat n1) (Ty.dflt t0c)))) (7:Int)) (List.length l8)=true))(h3:(List.getD l8 (Int.toNat (iand IntKind.i64 (Prod.fst (Prod.snd (List.getD l0 (Int.toNat n1) (Ty.dflt t0c)))) (7:Int))) false=true))(h4:(h3o [.n n2,.b b3,.n n4,.b b5,.l TBk l9,.l TWr l10])=(some (1,[.n n11,.n n12,.b b13,.n n14,.b b15,.l TBk l16,.l TWr l17])))(h5:(n11=(0:Int)))(h6:(i3q [.k 0,.l t0c l0,.n n1,.n (iand IntKind.i64 (Prod.fst (Prod.snd (List.getD l0 (Int.toNat n1) (Ty.dflt t0c)))) (7:Int)),.n (0:Int),.n n12,.b b13,.n n14,.b b15,.l TS l6,.l TS l7,.l TBk l16,.l TWr l17])=(some (0,[.l t0c l18,.n n19,.n n20,.n n21,.b b22,.n n23,.b b24,.l TS l25,.l TS l26,.l TBk l27,.l TWr l28])))(h7:(b24=false))(h8:(inR n19 (List.length l18)=true))(h9:(¬(↑(List.length (Prod.fst (Prod.snd (Prod.snd (List.getD l18 (Int.toNat n19) (Ty.dflt t0c)))))):Int)>(256:Int)))(h10:(h3n [.n n20,.l TB (Prod.fst (Prod.snd (Prod.snd (List.getD l18 (Int.toNat n19) (Ty.dflt t0c))))),.n n21,.b b22,.n n23,.b b24,.l TBk l27,.l TWr l28])=(some (0,[.n n29,.n n30,.b b31,.n n32,.b b33,.l TBk l34,.l TWr l35])))(h11:(i3v [.k 0,.l t0c l18,.n n19,.n n20,.n (0:Int),.n n30,.b b31,.n n32,.b b33,.l TS l25,.l TS l26,.l TBo [false,false,false,false,false,false,false,false],.l TB (List.replicate 256 (0:Int)),.l TBk l27,.l TWr l35])=(some (0,[.l t0c l36,.n n37,.n n38,.n n39,.b b40,.n n41,.b b42,.l TS l43,.l TS l44,.l TBo l45,.l TB l46,.l TBk l47,.l TWr l48])))(h12:(inR n38 (List.length l44)=true))(h13:(inR n38 (List.length l45)=true)):(h3f [.k 0,.l t0c l0,.n n1,.n n2,.b b3,.n n4,.b b5,.l TS l6,.l TS l7,.l TBo l8,.l TBk l9,.l TWr l10]).sel=some (Step.go [.k 0,.l t0c l36,.n (IntKind.wrap .i64 (n37+(1:Int))),.n n39,.b b40,.n n41,.b b42,.l TS l43,.l TS (List.set l44 (Int.toNat n38) (r2b l46)),.l TBo (List.set l45 (Int.toNat n38) true),.l TBk l47,.l TWr l48]):=sP [1]<|sT (dt h0)<|sP [1,0,1]<|sT (nf h1)<|sTo (c:=(inR n1 (List.length l0)))<|sT h2<|sT h3<|sP [1,1,1]<|sA h4<|sP [0,1,1]<|sT (bt h5)<|sA h6<|sP [1,1,1,0,1]<|sF h7<|sT h8<|sF (df h9)<|sT h8<|sP [1]<|sA h10<|sP [1,1,1]<|sA h11<|sP [1]<|sT h12<|sT h13<|sP [1]<|sL
theorem m3o {l0:List (Ty.den t0c)}{n1 n2:Int}{b3:Bool}{n4:Int}{b5:Bool}{l6 l7:List (Ty.den TS)}{l8:List (Ty.den TBo)}{l9:List (Ty.den TBk)}{l10:List (Ty.den TWr)}{n11 n12:Int}{b13:Bool}{n14:Int}{b15:Bool}{l16:List (Ty.den TBk)}{l17:List (Ty.den TWr)}(g0:0≤n1)(h0:(n1<(↑(List.length l0):Int)))(h1:(b5=false))(h2:(inR (iand IntKind.i64 (Prod.fst (Prod.snd (List.getD l0 (Int.toNat n1) (Ty.dflt t0c)))) (7:Int)) (List.length l8)=true))(h3:(List.getD l8 (Int.toNat (iand IntKind.i64 (Prod.fst (Prod.snd (List.getD l0 (Int.toNat n1) (Ty.dflt t0c)))) (7:Int))) false=false))(h4:(Int.tmod (Prod.fst (List.getD l0 (Int.toNat n1) (Ty.dflt t0c))) (4:Int)=(0:Int)))(h5:(h3o [.n n2,.b b3,.n n4,.b b5,.l TBk l9,.l TWr l10])=(some (0,[.n n11,.n n12,.b b13,.n n14,.b b15,.l TBk l16,.l TWr l17])))(h6:(¬n11=(0:Int)))(h7:(b15=true)):(h3f [.k 0,.l t0c l0,.n n1,.n n2,.b b3,.n n4,.b b5,.l TS l6,.l TS l7,.l TBo l8,.l TBk l9,.l TWr l10]).sel=some (Step.go [.k 0,.l t0c l0,.n (IntKind.wrap .i64 (n1+(1:Int))),.n n12,.b b13,.n n14,.b b15,.l TS l6,.l TS l7,.l TBo l8,.l TBk l16,.l TWr l10]):=sP [1]<|sT (dt h0)<|sP [1,0,1]<|sT (nf h1)<|sTo (c:=(inR n1 (List.length l0)))<|sT h2<|sF h3<|sTo (c:=(inR n1 (List.length l0)))<|sP [1]<|sT (bt h4)<|sP [1]<|sA h5<|sP [1,1]<|sF (bf h6)<|sP [1,0,1]<|sT h7<|sP [1,1,1]<|sL
theorem n3k {l0:List (Ty.den t0c)}{n1 n2:Int}{b3:Bool}{n4:Int}{b5:Bool}{l6 l7:List (Ty.den TS)}{l8:List (Ty.den TBo)}{l9:List (Ty.den TBk)}{l10:List (Ty.den TWr)}{n11 n12:Int}{b13:Bool}{n14:Int}{b15:Bool}{l16:List (Ty.den TBk)}{l17:List (Ty.den TWr)}{l18:List (Ty.den t0c)}{n19 n20 n21:Int}{b22:Bool}{n23:Int}{b24:Bool}{l25 l26:List (Ty.den TS)}{l27:List (Ty.den TBk)}{l28:List (Ty.den TWr)}(g0:0≤n1)(h0:(n1<(↑(List.length l0):Int)))(h1:(b5=false))(h2:(inR (iand IntKind.i64 (Prod.fst (Prod.snd (List.getD l0 (Int.toNat n1) (Ty.dflt t0c)))) (7:Int)) (List.length l8)=true))(h3:(List.getD l8 (Int.toNat (iand IntKind.i64 (Prod.fst (Prod.snd (List.getD l0 (Int.toNat n1) (Ty.dflt t0c)))) (7:Int))) false=false))(h4:(Int.tmod (Prod.fst (List.getD l0 (Int.toNat n1) (Ty.dflt t0c))) (4:Int)=(0:Int)))(h5:(h3o [.n n2,.b b3,.n n4,.b b5,.l TBk l9,.l TWr l10])=(some (1,[.n n11,.n n12,.b b13,.n n14,.b b15,.l TBk l16,.l TWr l17])))(h6:(n11=(0:Int)))(h7:(i3q [.k 0,.l t0c l0,.n n1,.n (iand IntKind.i64 (Prod.fst (Prod.snd (List.getD l0 (Int.toNat n1) (Ty.dflt t0c)))) (7:Int)),.n (0:Int),.n n12,.b b13,.n n14,.b b15,.l TS l6,.l TS l7,.l TBk l16,.l TWr l17])=(some (0,[.l t0c l18,.n n19,.n n20,.n n21,.b b22,.n n23,.b b24,.l TS l25,.l TS l26,.l TBk l27,.l TWr l28])))(h8:(b24=false))(h9:(inR n19 (List.length l18)=true))(h10:((↑(List.length (Prod.fst (Prod.snd (Prod.snd (List.getD l18 (Int.toNat n19) (Ty.dflt t0c)))))):Int)>(256:Int))):(h3f [.k 0,.l t0c l0,.n n1,.n n2,.b b3,.n n4,.b b5,.l TS l6,.l TS l7,.l TBo l8,.l TBk l9,.l TWr l10]).sel=some (Step.go [.k 0,.l t0c l18,.n (IntKind.wrap .i64 (n19+(1:Int))),.n n21,.b b22,.n n23,.b b24,.l TS l25,.l TS l26,.l TBo [false,false,false,false,false,false,false,false],.l TBk l27,.l TWr l28]):=sP [1]<|sT (dt h0)<|sP [1,0,1]<|sT (nf h1)<|sTo (c:=(inR n1 (List.length l0)))<|sT h2<|sF h3<|sTo (c:=(inR n1 (List.length l0)))<|sP [1]<|sT (bt h4)<|sP [1]<|sA h5<|sP [0,1,1]<|sT (bt h6)<|sA h7<|sP [1,1,1,0,1]<|sF h8<|sT h9<|sT (dt h10)<|sP [1]<|sL
theorem o3e {l0:List (Ty.den t0c)}{n1 n2:Int}{b3:Bool}{n4:Int}{b5:Bool}{l6 l7:List (Ty.den TS)}{l8:List (Ty.den TBo)}{l9:List (Ty.den TBk)}{l10:List (Ty.den TWr)}{n11 n12:Int}{b13:Bool}{n14:Int}{b15:Bool}{l16:List (Ty.den TBk)}{l17:List (Ty.den TWr)}{l18:List (Ty.den t0c)}{n19 n20 n21:Int}{b22:Bool}{n23:Int}{b24:Bool}{l25 l26:List (Ty.den TS)}{l27:List (Ty.den TBk)}{l28:List (Ty.den TWr)}{n29 n30:Int}{b31:Bool}{n32:Int}{b33:Bool}{l34:List (Ty.den TBk)}{l35:List (Ty.den TWr)}{l36:List (Ty.den t0c)}{n37 n38 n39:Int}{b40:Bool}{n41:Int}{b42:Bool}{l43 l44:List (Ty.den TS)}{l45:List (Ty.den TBo)}{l46:List (Ty.den TB)}{l47:List (Ty.den TBk)}{l48:List (Ty.den TWr)}(g0:0≤n1)(h0:(n1<(↑(List.length l0):Int)))(h1:(b5=false))(h2:(inR (iand IntKind.i64 (Prod.fst (Prod.snd (List.getD l0 (Int.toNat n1) (Ty.dflt t0c)))) (7:Int)) (List.length l8)=true))(h3:(List.getD l8 (Int.toNat (iand IntKind.i64 (Prod.fst (Prod.snd (List.getD l0 (Int.toNat n1) (Ty.dflt t0c)))) (7:Int))) false=false))(h4:(Int.tmod (Prod.fst (List.getD l0 (Int.toNat n1) (Ty.dflt t0c))) (4:Int)=(0:Int)))(h5:(h3o [.n n2,.b b3,.n n4,.b b5,.l TBk l9,.l TWr l10])=(some (1,[.n n11,.n n12,.b b13,.n n14,.b b15,.l TBk l16,.l TWr l17])))(h6:(n11=(0:Int)))(h7:(i3q [.k 0,.l t0c l0,.n n1,.n (iand IntKind.i64 (Prod.fst (Prod.snd (List.getD l0 (Int.toNat n1) (Ty.dflt t0c)))) (7:Int)),.n (0:Int),.n n12,.b b13,.n n14,.b b15,.l TS l6,.l TS l7,.l TBk l16,.l TWr l17])=(some (0,[.l t0c l18,.n n19,.n n20,.n n21,.b b22,.n n23,.b b24,.l TS l25,.l TS l26,.l TBk l27,.l TWr l28])))(h8:(b24=false))(h9:(inR n19 (List.length l18)=true))(h10:(¬(↑(List.length (Prod.fst (Prod.snd (Prod.snd (List.getD l18 (Int.toNat n19) (Ty.dflt t0c)))))):Int)>(256:Int)))(h11:(h3n [.n n20,.l TB (Prod.fst (Prod.snd (Prod.snd (List.getD l18 (Int.toNat n19) (Ty.dflt t0c))))),.n n21,.b b22,.n n23,.b b24,.l TBk l27,.l TWr l28])=(some (0,[.n n29,.n n30,.b b31,.n n32,.b b33,.l TBk l34,.l TWr l35])))(h12:(i3v [.k 0,.l t0c l18,.n n19,.n n20,.n (0:Int),.n n30,.b b31,.n n32,.b b33,.l TS l25,.l TS l26,.l TBo [false,false,false,false,false,false,false,false],.l TB (List.replicate 256 (0:Int)),.l TBk l27,.l TWr l35])=(some (0,[.l t0c l36,.n n37,.n n38,.n n39,.b b40,.n n41,.b b42,.l TS l43,.l TS l44,.l TBo l45,.l TB l46,.l TBk l47,.l TWr l48])))(h13:(inR n38 (List.length l44)=true))(h14:(inR n38 (List.length l45)=true)):(h3f [.k 0,.l t0c l0,.n n1,.n n2,.b b3,.n n4,.b b5,.l TS l6,.l TS l7,.l TBo l8,.l TBk l9,.l TWr l10]).sel=some (Step.go [.k 0,.l t0c l36,.n (IntKind.wrap .i64 (n37+(1:Int))),.n n39,.b b40,.n n41,.b b42,.l TS l43,.l TS (List.set l44 (Int.toNat n38) (r2b l46)),.l TBo (List.set l45 (Int.toNat n38) true),.l TBk l47,.l TWr l48]):=sP [1]<|sT (dt h0)<|sP [1,0,1]<|sT (nf h1)<|sTo (c:=(inR n1 (List.length l0)))<|sT h2<|sF h3<|sTo (c:=(inR n1 (List.length l0)))<|sP [1]<|sT (bt h4)<|sP [1]<|sA h5<|sP [0,1,1]<|sT (bt h6)<|sA h7<|sP [1,1,1,0,1]<|sF h8<|sT h9<|sF (df h10)<|sT h9<|sP [1]<|sA h11<|sP [1,1,1]<|sA h12<|sP [1]<|sT h13<|sT h14<|sP [1]<|sL
theorem n3t {l0:List (Ty.den t0c)}{n1 n2:Int}{b3:Bool}{n4:Int}{b5:Bool}{l6 l7:List (Ty.den TS)}{l8:List (Ty.den TBo)}{l9:List (Ty.den TBk)}{l10:List (Ty.den TWr)}(g0:0≤n1)(h0:(n1<(↑(List.length l0):Int)))(h1:(b5=false))(h2:(inR (iand IntKind.i64 (Prod.fst (Prod.snd (List.getD l0 (Int.toNat n1) (Ty.dflt t0c)))) (7:Int)) (List.length l8)=true))(h3:(List.getD l8 (Int.toNat (iand IntKind.i64 (Prod.fst (Prod.snd (List.getD l0 (Int.toNat n1) (Ty.dflt t0c)))) (7:Int))) false=false))(h4:(¬Int.tmod (Prod.fst (List.getD l0 (Int.toNat n1) (Ty.dflt t0c))) (4:Int)=(0:Int)))(h5:((↑(List.length (Prod.fst (Prod.snd (Prod.snd (List.getD l0 (Int.toNat n1) (Ty.dflt t0c)))))):Int)>(256:Int))):(h3f [.k 0,.l t0c l0,.n n1,.n n2,.b b3,.n n4,.b b5,.l TS l6,.l TS l7,.l TBo l8,.l TBk l9,.l TWr l10]).sel=some (Step.go [.k 0,.l t0c l0,.n (IntKind.wrap .i64 (n1+(1:Int))),.n n2,.b b3,.n n4,.b b5,.l TS l6,.l TS l7,.l TBo l8,.l TBk l9,.l TWr l10]):=sP [1]<|sT (dt h0)<|sP [1,0,1]<|sT (nf h1)<|sTo (c:=(inR n1 (List.length l0)))<|sT h2<|sF h3<|sTo (c:=(inR n1 (List.length l0)))<|sP [1]<|sF (bf h4)<|sP [1,0,1]<|sFs (c:=(b5))<|sTo (c:=(inR n1 (List.length l0)))<|sT (dt h5)<|sP [1]<|sL
theorem m3q {l0:List (Ty.den t0c)}{n1 n2:Int}{b3:Bool}{n4:Int}{b5:Bool}{l6 l7:List (Ty.den TS)}{l8:List (Ty.den TBo)}{l9:List (Ty.den TBk)}{l10:List (Ty.den TWr)}{n11 n12:Int}{b13:Bool}{n14:Int}{b15:Bool}{l16:List (Ty.den TBk)}{l17:List (Ty.den TWr)}{l18:List (Ty.den t0c)}{n19 n20 n21:Int}{b22:Bool}{n23:Int}{b24:Bool}{l25 l26:List (Ty.den TS)}{l27:List (Ty.den TBo)}{l28:List (Ty.den TB)}{l29:List (Ty.den TBk)}{l30:List (Ty.den TWr)}(g0:0≤n1)(h0:(n1<(↑(List.length l0):Int)))(h1:(b5=false))(h2:(inR (iand IntKind.i64 (Prod.fst (Prod.snd (List.getD l0 (Int.toNat n1) (Ty.dflt t0c)))) (7:Int)) (List.length l8)=true))(h3:(List.getD l8 (Int.toNat (iand IntKind.i64 (Prod.fst (Prod.snd (List.getD l0 (Int.toNat n1) (Ty.dflt t0c)))) (7:Int))) false=false))(h4:(¬Int.tmod (Prod.fst (List.getD l0 (Int.toNat n1) (Ty.dflt t0c))) (4:Int)=(0:Int)))(h5:(¬(↑(List.length (Prod.fst (Prod.snd (Prod.snd (List.getD l0 (Int.toNat n1) (Ty.dflt t0c)))))):Int)>(256:Int)))(h6:(h3n [.n (iand IntKind.i64 (Prod.fst (Prod.snd (List.getD l0 (Int.toNat n1) (Ty.dflt t0c)))) (7:Int)),.l TB (Prod.fst (Prod.snd (Prod.snd (List.getD l0 (Int.toNat n1) (Ty.dflt t0c))))),.n n2,.b b3,.n n4,.b b5,.l TBk l9,.l TWr l10])=(some (0,[.n n11,.n n12,.b b13,.n n14,.b b15,.l TBk l16,.l TWr l17])))(h7:(i3v [.k 0,.l t0c l0,.n n1,.n (iand IntKind.i64 (Prod.fst (Prod.snd (List.getD l0 (Int.toNat n1) (Ty.dflt t0c)))) (7:Int)),.n (0:Int),.n n12,.b b13,.n n14,.b b15,.l TS l6,.l TS l7,.l TBo l8,.l TB (List.replicate 256 (0:Int)),.l TBk l9,.l TWr l17])=(some (0,[.l t0c l18,.n n19,.n n20,.n n21,.b b22,.n n23,.b b24,.l TS l25,.l TS l26,.l TBo l27,.l TB l28,.l TBk l29,.l TWr l30])))(h8:(inR n20 (List.length l26)=true))(h9:(inR n20 (List.length l27)=true)):(h3f [.k 0,.l t0c l0,.n n1,.n n2,.b b3,.n n4,.b b5,.l TS l6,.l TS l7,.l TBo l8,.l TBk l9,.l TWr l10]).sel=some (Step.go [.k 0,.l t0c l18,.n (IntKind.wrap .i64 (n19+(1:Int))),.n n21,.b b22,.n n23,.b b24,.l TS l25,.l TS (List.set l26 (Int.toNat n20) (r2b l28)),.l TBo (List.set l27 (Int.toNat n20) true),.l TBk l29,.l TWr l30]):=sP [1]<|sT (dt h0)<|sP [1,0,1]<|sT (nf h1)<|sTo (c:=(inR n1 (List.length l0)))<|sT h2<|sF h3<|sTo (c:=(inR n1 (List.length l0)))<|sP [1]<|sF (bf h4)<|sP [1,0,1]<|sFs (c:=(b5))<|sTo (c:=(inR n1 (List.length l0)))<|sF (df h5)<|sTo (c:=(inR n1 (List.length l0)))<|sP [1]<|sA h6<|sP [1,1,1]<|sA h7<|sP [1]<|sT h8<|sT h9<|sP [1]<|sL
theorem m3z {l0:List (Ty.den t0c)}{n1 n2:Int}{b3:Bool}{n4:Int}{b5:Bool}{l6 l7:List (Ty.den TS)}{l8:List (Ty.den TBo)}{l9:List (Ty.den TBk)}{l10:List (Ty.den TWr)}(g0:0≤n1)(h0:(n1<(↑(List.length l0):Int)))(h1:(b5=true)):(h3f [.k 0,.l t0c l0,.n n1,.n n2,.b b3,.n n4,.b b5,.l TS l6,.l TS l7,.l TBo l8,.l TBk l9,.l TWr l10]).sel=some (Step.stop 0 [.l t0c l0,.n n2,.b b3,.n n4,.b b5,.l TS l6,.l TS l7,.l TBo l8,.l TBk l9,.l TWr l10]):=sP [1]<|sT (dt h0)<|sP [1,0,1]<|sF (nt h1)<|sP [1]<|sL
theorem n3n {l0:List (Ty.den t0c)}{n1 n2:Int}{b3:Bool}{n4:Int}{b5:Bool}{l6 l7:List (Ty.den TS)}{l8:List (Ty.den TBo)}{l9:List (Ty.den TBk)}{l10:List (Ty.den TWr)}(g0:0≤n1)(h0:(¬n1<(↑(List.length l0):Int))):(h3f [.k 0,.l t0c l0,.n n1,.n n2,.b b3,.n n4,.b b5,.l TS l6,.l TS l7,.l TBo l8,.l TBk l9,.l TWr l10]).sel=some (Step.stop 0 [.l t0c l0,.n n2,.b b3,.n n4,.b b5,.l TS l6,.l TS l7,.l TBo l8,.l TBk l9,.l TWr l10]):=sP [1]<|sF (df h0)<|sP [0,0,1]<|sL
def R_4_38:LSh:={K:=0,log:=[],ins:=[(sh 199 [(5,.ptr 0 0),(6,.own 1),(7,.own 2),(9,.own 3),(16,.int .i64 0)],[dkB 4 5 1,.arr TS 5,.arr TS 6,.arr TBo 7,.arr TBk 8,.arr TWr 9])],nils:=[],outs:=[(.exit 8,sh 199 [],[]),(.ret,sh 199 [(4,.bool 0)],[])],cv:=[]}
def i3w:List Dat→Tree Step:=evL j3v 4 38 ls0 R_4_38
theorem p3e: ∃op,IsL i3w 4 38 R_4_38 op:=bxL h3q (LsOk.none _ _ _)
def k3y:OpA:=opL p3e
theorem q3r (env:List Dat):k3y env=a0b i3w FU env:=h3g p3e env
abbrev u3n:MBox:=boxL p3e
theorem p3q {n0 n1:Int}{b2:Bool}{n3:Int}{b4:Bool}{l5 l6:List (Ty.den TS)}{l7:List (Ty.den TBo)}{l8:List (Ty.den TBk)}{l9:List (Ty.den TWr)}{n10 n11:Int}{b12:Bool}{n13:Int}{b14:Bool}{l15:List (Ty.den TBk)}{l16:List (Ty.den TWr)}{l17:List (Ty.den TB)}{b18:Bool}(g0:0≤n0)(h0:(n0<(8:Int)))(h1:(h3w [.n n0,.n n1,.b b2,.n n3,.b b4,.l TBk l8,.l TWr l9])=(some (1,[.n n10,.n n11,.b b12,.n n13,.b b14,.l TBk l15,.l TWr l16,.l TB l17])))(h2:(n10=(0:Int)))(h3:(inR n0 (List.length l5)=true))(h4:(inR n0 (List.length l6)=true))(h5:(k3i [.s (r2b l17),.s (List.getD l5 (Int.toNat n0) (Ty.dflt TS)),.s (List.getD l6 (Int.toNat n0) (Ty.dflt TS))])=(some (0,[.b b18])))(h6:(b18=true))(h7:(inR n0 (List.length l7)=true))(h8:(List.getD l7 (Int.toNat n0) false=false))(h9:(f0b (r2b l17) (List.getD l5 (Int.toNat n0) (Ty.dflt TS))=true)):(i3w [.k 0,.n n0,.n n1,.b b2,.n n3,.b b4,.l TS l5,.l TS l6,.l TBo l7,.l TBk l8,.l TWr l9]).sel=some (Step.go [.k 0,.n (IntKind.wrap .i64 (n0+(1:Int))),.n n1,.b b2,.n n3,.b b4,.l TS l5,.l TS l6,.l TBo l7,.l TBk l8,.l TWr l9]):=sP [1]<|sT (dt h0)<|sP [1]<|sA h1<|sP [0,1,1]<|sF (bnf h2)<|sT h3<|sT h4<|sA h5<|sP [1,1]<|sF (nt h6)<|sT h7<|sT (nf h8)<|sT h3<|sP [1]<|sF (nt h9)<|sP [1]<|sL
theorem q3w {n0 n1:Int}{b2:Bool}{n3:Int}{b4:Bool}{l5 l6:List (Ty.den TS)}{l7:List (Ty.den TBo)}{l8:List (Ty.den TBk)}{l9:List (Ty.den TWr)}{n10 n11:Int}{b12:Bool}{n13:Int}{b14:Bool}{l15:List (Ty.den TBk)}{l16:List (Ty.den TWr)}{l17:List (Ty.den TB)}{b18:Bool}(g0:0≤n0)(h0:(n0<(8:Int)))(h1:(h3w [.n n0,.n n1,.b b2,.n n3,.b b4,.l TBk l8,.l TWr l9])=(some (1,[.n n10,.n n11,.b b12,.n n13,.b b14,.l TBk l15,.l TWr l16,.l TB l17])))(h2:(n10=(0:Int)))(h3:(inR n0 (List.length l5)=true))(h4:(inR n0 (List.length l6)=true))(h5:(k3i [.s (r2b l17),.s (List.getD l5 (Int.toNat n0) (Ty.dflt TS)),.s (List.getD l6 (Int.toNat n0) (Ty.dflt TS))])=(some (0,[.b b18])))(h6:(b18=true))(h7:(inR n0 (List.length l7)=true))(h8:(List.getD l7 (Int.toNat n0) false=true)):(i3w [.k 0,.n n0,.n n1,.b b2,.n n3,.b b4,.l TS l5,.l TS l6,.l TBo l7,.l TBk l8,.l TWr l9]).sel=some (Step.go [.k 0,.n (IntKind.wrap .i64 (n0+(1:Int))),.n n1,.b b2,.n n3,.b b4,.l TS l5,.l TS l6,.l TBo l7,.l TBk l8,.l TWr l9]):=sP [1]<|sT (dt h0)<|sP [1]<|sA h1<|sP [0,1,1]<|sF (bnf h2)<|sT h3<|sT h4<|sA h5<|sP [1,1]<|sF (nt h6)<|sT h7<|sF (nt h8)<|sP [0,1,0,1]<|sL
theorem m3r {n0 n1:Int}{b2:Bool}{n3:Int}{b4:Bool}{l5 l6:List (Ty.den TS)}{l7:List (Ty.den TBo)}{l8:List (Ty.den TBk)}{l9:List (Ty.den TWr)}(g0:0≤n0)(h0:(¬n0<(8:Int))):(i3w [.k 0,.n n0,.n n1,.b b2,.n n3,.b b4,.l TS l5,.l TS l6,.l TBo l7,.l TBk l8,.l TWr l9]).sel=some (Step.stop 0 []):=sP [1]<|sF (df h0)<|sP [1]<|sL
def s3a:List Dat→Tree Bool:=evW j3v 4 (lsM [(7,Bx_4_7),(13,s3l),(38,u3n)] 0) [.imm t0c 0,.int .i64 1]
theorem v3s {l0:List (Ty.den t0c)}{n1:Int}{b2:Bool}(h0:(j3b [.l t0c l0])=(some (0,[.b b2])))(h1:(b2=true)):(s3a [.l t0c l0,.n n1]).sel=some (true):=sA h0<|sP [1,1]<|sT h1<|sP [1,1,1,1,1]<|sL
theorem w3g {l0:List (Ty.den t0c)}{n1:Int}{b2:Bool}(h0:(j3b [.l t0c l0])=(some (0,[.b b2])))(h1:(b2=false))(h2:((↑(List.length l0):Int)>(40:Int))):(s3a [.l t0c l0,.n n1]).sel=some (true):=sA h0<|sP [1,1]<|sF h1<|sT (dt h2)<|sP [1,1,1]<|sL
theorem w3b {l0:List (Ty.den t0c)}{n1:Int}{b2:Bool}{n3:Int}{b4:Bool}{n5:Int}{b6:Bool}{l7:List (Ty.den TBk)}{l8:List (Ty.den TWr)}{l9:List (Ty.den t0c)}{n10:Int}{b11:Bool}{n12:Int}{b13:Bool}{l14 l15:List (Ty.den TS)}{l16:List (Ty.den TBk)}{l17:List (Ty.den TWr)}{l18:List (Ty.den t0c)}{n19:Int}{b20:Bool}{n21:Int}{b22:Bool}{l23 l24:List (Ty.den TS)}{l25:List (Ty.den TBo)}{l26:List (Ty.den TBk)}{l27:List (Ty.den TWr)}{n28:Int}{b29:Bool}{n30:Int}{b31:Bool}{l32:List (Ty.den TBk)}{l33:List (Ty.den TWr)}(h0:(j3b [.l t0c l0])=(some (0,[.b b2])))(h1:(b2=false))(h2:(¬(↑(List.length l0):Int)>(40:Int)))(h3:(k3b [.n (8:Int)])=(some (0,[.n n3,.b b4,.n n5,.b b6,.l TBk l7,.l TWr l8])))(h4:(o3s [.k 0,.l t0c l0,.n (0:Int),.n n3,.b (decide (n1≥(0:Int))),.n n1,.b b6,.l TS [Ty.dflt TS,Ty.dflt TS,Ty.dflt TS,Ty.dflt TS,Ty.dflt TS,Ty.dflt TS,Ty.dflt TS,Ty.dflt TS],.l TS [Ty.dflt TS,Ty.dflt TS,Ty.dflt TS,Ty.dflt TS,Ty.dflt TS,Ty.dflt TS,Ty.dflt TS,Ty.dflt TS],.l TBk l7,.l TWr l8])=(some (0,[.l t0c l9,.n n10,.b b11,.n n12,.b b13,.l TS l14,.l TS l15,.l TBk l16,.l TWr l17])))(h5:(k3u [.k 0,.l t0c l9,.n (0:Int),.n n10,.b b11,.n n12,.b b13,.l TS l14,.l TS l15,.l TBo [false,false,false,false,false,false,false,false],.l TBk l16,.l TWr l17])=(some (0,[.l t0c l18,.n n19,.b b20,.n n21,.b b22,.l TS l23,.l TS l24,.l TBo l25,.l TBk l26,.l TWr l27])))(h6:((↑(List.length l18):Int)>(0:Int)))(h7:(j3y [.l TB (Prod.snd (Prod.snd (Prod.snd (List.getD l18 0 (Ty.dflt t0c))))),.n n19,.b false,.n n21,.b true,.l TBk l26,.l TWr l27])=(some (1,[.n n28,.b b29,.n n30,.b b31,.l TBk l32,.l TWr l33])))(h8:(k3y [.k 0,.n (0:Int),.n n28,.b b29,.n n30,.b b31,.l TS l23,.l TS l24,.l TBo l25,.l TBk l32,.l TWr l33])=(some (0,[]))):(s3a [.l t0c l0,.n n1]).sel=some (true):=sA h0<|sP [1,1]<|sF h1<|sF (df h2)<|sP [1]<|sA h3<|sP [1,1,1,1,1,1,1,1]<|sA h4<|sP [1,1]<|sA h5<|sP [1]<|sT (dt h6)<|sTo (c:=(inR (0:Int) (List.length l18)))<|sP [1,1,1,1]<|sA h7<|sP [0,1,1]<|sA h8<|sP [1,1,1,1]<|sL
theorem v3y {l0:List (Ty.den t0c)}{n1:Int}{b2:Bool}{n3:Int}{b4:Bool}{n5:Int}{b6:Bool}{l7:List (Ty.den TBk)}{l8:List (Ty.den TWr)}{l9:List (Ty.den t0c)}{n10:Int}{b11:Bool}{n12:Int}{b13:Bool}{l14 l15:List (Ty.den TS)}{l16:List (Ty.den TBk)}{l17:List (Ty.den TWr)}{l18:List (Ty.den t0c)}{n19:Int}{b20:Bool}{n21:Int}{b22:Bool}{l23 l24:List (Ty.den TS)}{l25:List (Ty.den TBo)}{l26:List (Ty.den TBk)}{l27:List (Ty.den TWr)}{n28:Int}{b29:Bool}{n30:Int}{b31:Bool}{l32:List (Ty.den TBk)}{l33:List (Ty.den TWr)}(h0:(j3b [.l t0c l0])=(some (0,[.b b2])))(h1:(b2=false))(h2:(¬(↑(List.length l0):Int)>(40:Int)))(h3:(k3b [.n (8:Int)])=(some (0,[.n n3,.b b4,.n n5,.b b6,.l TBk l7,.l TWr l8])))(h4:(o3s [.k 0,.l t0c l0,.n (0:Int),.n n3,.b (decide (n1≥(0:Int))),.n n1,.b b6,.l TS [Ty.dflt TS,Ty.dflt TS,Ty.dflt TS,Ty.dflt TS,Ty.dflt TS,Ty.dflt TS,Ty.dflt TS,Ty.dflt TS],.l TS [Ty.dflt TS,Ty.dflt TS,Ty.dflt TS,Ty.dflt TS,Ty.dflt TS,Ty.dflt TS,Ty.dflt TS,Ty.dflt TS],.l TBk l7,.l TWr l8])=(some (0,[.l t0c l9,.n n10,.b b11,.n n12,.b b13,.l TS l14,.l TS l15,.l TBk l16,.l TWr l17])))(h5:(k3u [.k 0,.l t0c l9,.n (0:Int),.n n10,.b b11,.n n12,.b b13,.l TS l14,.l TS l15,.l TBo [false,false,false,false,false,false,false,false],.l TBk l16,.l TWr l17])=(some (0,[.l t0c l18,.n n19,.b b20,.n n21,.b b22,.l TS l23,.l TS l24,.l TBo l25,.l TBk l26,.l TWr l27])))(h6:(¬(↑(List.length l18):Int)>(0:Int)))(h7:(j3y [.l TB [],.n n19,.b false,.n n21,.b true,.l TBk l26,.l TWr l27])=(some (1,[.n n28,.b b29,.n n30,.b b31,.l TBk l32,.l TWr l33])))(h8:(k3y [.k 0,.n (0:Int),.n n28,.b b29,.n n30,.b b31,.l TS l23,.l TS l24,.l TBo l25,.l TBk l32,.l TWr l33])=(some (0,[]))):(s3a [.l t0c l0,.n n1]).sel=some (true):=sA h0<|sP [1,1]<|sF h1<|sF (df h2)<|sP [1]<|sA h3<|sP [1,1,1,1,1,1,1,1]<|sA h4<|sP [1,1]<|sA h5<|sP [1]<|sF (df h6)<|sP [1,1,1,1]<|sA h7<|sP [0,1,1]<|sA h8<|sP [1,1,1,1]<|sL
abbrev LB:=List (Ty.den TB)
abbrev LKs:=List (Ty.den TBk)
abbrev LW:=List (Ty.den TWr)
abbrev LT:=List (Ty.den TS)
abbrev LO:=List (Ty.den TOp)
def Wb (l:List Int):Prop:= ∀x∈l,0≤x∧x<256
theorem y2e (a:ByteArray):f0b a a=true:=by unfold f0b;simp
theorem ba_ext {a b:ByteArray}(h:a.data.toList=b.data.toList):a=b:=by
 cases a;cases b;congr 1;exact Array.toList_inj.1 h
theorem h3j (a:List Int):ByteArray.size (r2b a)=a.length:=by
 show(a.map _).toArray.size=a.length
 simp
theorem str_app (a b:List Int):r2b a++r2b b=r2b (a++b):=by
 apply ba_ext
 have e:(r2b a++r2b b).data=(r2b a).data++(r2b b).data:=ByteArray.data_append
 rw[e]
 show((a.map _).toArray++(b.map _).toArray).toList=((a++b).map _).toArray.toList
 simp
theorem k3l (a:List Int)(i j:Nat):(r2b a).extract i j=r2b ((a.take j).drop i):=by
 apply ba_ext
 have e:((r2b a).extract i j).data=(r2b a).data.extract i j:=ByteArray.data_extract
 rw[e]
 show((a.map _).toArray.extract i j).toList=(((a.take j).drop i).map _).toArray.toList
 simp only[Array.toList_extract,List.extract_eq_take_drop,List.map_drop,List.map_take]
 rw[List.drop_take]
theorem i3u {l:List Int}(h:Wb l):c0b (r2b l)=l:=by
 unfold c0b r2b
 rw[List.map_map]
 refine(List.map_congr_left fun x hx=> ?_).trans (List.map_id l)
 obtain⟨h0,h1⟩:=h x hx
 show(((UInt8.ofNat x.toNat).toNat:Nat):Int)=x
 rw[UInt8.toNat_ofNat']
 omega
def wI (w:Ty.den TWr):Int:=Prod.fst w
def wB (w:Ty.den TWr):List Int:=Prod.snd w
def oI (w:Ty.den TOp):Int:=Prod.fst w
def oS (w:Ty.den TOp):ByteArray:=Prod.snd w
def rB (b:Ty.den TBk):List Int:=b
def ofB (b:List Int):Ty.den TBk:=b
def fk (F:LB)(i:Nat):Int:=List.getD (α:=Int) F i 0
structure DS where
 n:Int
 A:Bool
 h:Int
 o:Bool
 K:LKs
 W:LW
def strB (b:Ty.den TBk):Ty.den TS:=r2b (rB b)
def strO (w:Ty.den TWr):Ty.den TOp:=(wI w,r2b (wB w))
def strK (K:LKs):LT:=K.map strB
def strW (W:LW):LO:=W.map strO
theorem h3u (K:LKs):(strK K).length=K.length:=List.length_map ..
theorem h3k (W:LW):(strW W).length=W.length:=List.length_map ..
abbrev kAt (K:LKs)(i:Nat):Ty.den TBk:=K.getD i (Ty.dflt TBk)
abbrev wAt (W:LW)(i:Nat):Ty.den TWr:=W.getD i (Ty.dflt TWr)
abbrev oAt (W:LO)(i:Nat):Ty.den TOp:=W.getD i (Ty.dflt TOp)
abbrev tAt (K:LT)(i:Nat):Ty.den TS:=K.getD i (Ty.dflt TS)
structure DOk (s:DS):Prop where
 kb: ∀b∈s.K,Wb (rB b)∧(rB b).length=256
 wp: ∀w∈s.W,(0:Int)≤wI w∧wI w<(s.K.length:Int)
 wb: ∀w∈s.W,Wb (wB w)∧(wB w).length=256
 ar:s.A=true→0≤s.h
 kl:s.K.length≤4096
theorem t2c {α:Type}{l:List α}{d:α}{i:Nat}(h:i<l.length):l.getD i d∈l:=by
 rw[List.getD_eq_getElem?_getD,List.getElem?_eq_getElem h];exact List.getElem_mem h
theorem w3c {α:Type}{l:List α}{d:α}{i:Nat}(h:l.length≤i):l.getD i d=d:=by
 rw[List.getD_eq_getElem?_getD,List.getElem?_eq_none h];rfl
theorem l3l {α β:Type}(f:α→β): ∀(l:List α) {i:Nat} (d:α) (e:β),i<l.length→(l.map f).getD i e=f (l.getD i d)
 |[],_,_,_,h=>absurd h (Nat.not_lt_zero _)
 |a::l,0,_,_,_=>rfl
 |a::l,i+1,d,e,h=>l3l f l (i:=i) d e (Nat.lt_of_succ_lt_succ h)
theorem s3u (K:LKs){i:Nat}(h:i<K.length):tAt (strK K) i=strB (kAt K i):=l3l strB K _ _ h
theorem k3o (W:LW){i:Nat}(h:i<W.length):oAt (strW W) i=strO (wAt W i):=l3l strO W _ _ h
theorem p3m (K:LKs)(i:Nat)(b:Ty.den TBk):strK (K.set i b)=(strK K).set i (strB b):=by
 unfold strK;rw[List.map_set]
theorem s2t {i:Int}{n:Nat}(h0:0≤i)(h1:i<(n:Int)):inR i n=true:=by
 unfold inR;rw[decide_eq_true h0,decide_eq_true h1];rfl
theorem w1n (i:Nat)(h:i<1000000000):IntKind.wrap .i64 ((i:Int)+1)=((i+1:Nat):Int):=by rw[w64 (by omega) (by omega)];rfl
def put1 (K:LKs)(w:Ty.den TWr):LKs:=K.set (wI w).toNat (ofB (wB w))
theorem w3h (K:LKs)(w:Ty.den TWr):(put1 K w).length=K.length:=List.length_set ..
def putN (W:LW)(K:LKs):Nat→LKs
 |0=>K
 |i+1=>put1 (putN W K i) (wAt W i)
theorem h3t (W:LW)(K:LKs): ∀i,(putN W K i).length=K.length
 |0=>rfl
 |i+1=>(w3h _ _).trans (h3t W K i)
theorem t3n {α:Type}{l:List α}{i:Nat}{a x:α}(h:x∈l.set i a):x∈l∨x=a:=List.mem_or_eq_of_mem_set h
section
variable (s:DS) (hs:DOk s) (hw:s.W.length≤100000)
include hs
theorem wpos {i:Nat}(hi:i<s.W.length):inR (wI (wAt s.W i)) s.K.length=true:=by
 obtain⟨h0,h1⟩:=hs.wp _ (t2c (d:=Ty.dflt TWr) hi)
 exact s2t h0 h1
theorem t3v: ∀i,i≤s.W.length→ ∀b∈putN s.W s.K i,Wb (rB b)∧(rB b).length=256
 |0,_,b,hb=>hs.kb b hb
 |i+1,hi,b,hb=>by
  rcases t3n hb with h|rfl
  ·exact t3v i (by omega) b h
  ·exact hs.wb _ (t2c (d:=Ty.dflt TWr) (by omega))
include hw
theorem d44l (n:Int)(a:Bool)(h:Int)(o:Bool):k3n [.k 0,.n (s.W.length:Int),.n 0,.n n,.b a,.n h,.b o,.l TBk s.K,.l TWr s.W]=some (0,[.n n,.b a,.n h,.b o,.l TBk (putN s.W s.K s.W.length),.l TWr s.W]):=by
 rw[n3q]
 refine b0a (st:=i3p) (fun i=>[.k 0,.n (s.W.length:Int),.n (i:Int),.n n,.b a,.n h,.b o,.l TBk (putN s.W s.K i),.l TWr s.W]) s.W.length (0,[.n n,.b a,.n h,.b o,.l TBk (putN s.W s.K s.W.length),.l TWr s.W]) (fun i hi=> ?_) (n3b (by omega) rfl (Int.lt_irrefl _)) FU (b1w (by omega))
 show _=some (Step.go [.k 0,.n (s.W.length:Int),.n ((i+1:Nat):Int),.n n,.b a,.n h,.b o,.l TBk (putN s.W s.K (i+1)),.l TWr s.W])
 rw[←w1n i (by omega)]
 have hR:=wpos s hs hi
 rw[←h3t s.W s.K i]at hR
 exact m3x (by omega) rfl (Int.ofNat_lt.2 hi) hR
theorem d44 (n:Int)(a:Bool)(h:Int)(o:Bool):m3b [.n n,.b a,.n h,.b o,.l TBk s.K,.l TWr s.W]=some (0,[.n n,.b a,.n h,.b o,.l TBk (putN s.W s.K s.W.length),.l TWr []]):=s3q (d44l s hs hw n a h o)
theorem m28l (n:Int)(a:Bool)(h:Int)(o:Bool):j3c [.k 0,.n 0,.n n,.b a,.n h,.b o,.l TS (strK s.K),.l TOp (strW s.W)]=some (0,[.n n,.b a,.n h,.b o,.l TS (strK (putN s.W s.K s.W.length)),.l TOp (strW s.W)]):=by
 rw[o3f]
 refine b0a (st:=i3i) (fun i=>[.k 0,.n (i:Int),.n n,.b a,.n h,.b o,.l TS (strK (putN s.W s.K i)),.l TOp (strW s.W)]) s.W.length (0,[.n n,.b a,.n h,.b o,.l TS (strK (putN s.W s.K s.W.length)),.l TOp (strW s.W)]) (fun i hi=> ?_) (n3a (by omega) (by rw[h3k];exact Int.lt_irrefl _)) FU (b1w (by omega))
 show _=some (Step.go [.k 0,.n ((i+1:Nat):Int),.n n,.b a,.n h,.b o,.l TS (strK (putN s.W s.K (i+1))),.l TOp (strW s.W)])
 rw[←w1n i (by omega)]
 have e:strK (putN s.W s.K (i+1))=(strK (putN s.W s.K i)).set (oI (oAt (strW s.W) i)).toNat (oS (oAt (strW s.W) i)):=by
  rw[k3o _ hi];exact p3m ..
 have hRm:inR (oI (oAt (strW s.W) i)) (strK (putN s.W s.K i)).length=true:=by rw[h3u,h3t,k3o _ hi];exact wpos s hs hi
 rw[e]
 exact o3k (by omega) (by rw[h3k];exact Int.ofNat_lt.2 hi) hRm
end
def putK (k:Int)(b old:List Int):List Int:=if k=255 then b else b.take k.toNat++old.drop k.toNat
def put2 (F:LB)(i:Nat)(K:LKs)(w:Ty.den TWr):LKs:=K.set (wI w).toNat (ofB (putK (fk F i) (wB w) (rB (kAt K (wI w).toNat))))
theorem w3i (F:LB)(i:Nat)(K:LKs)(w:Ty.den TWr):(put2 F i K w).length=K.length:=List.length_set ..
def putF (F:LB)(W:LW)(K:LKs):Nat→LKs
 |0=>K
 |i+1=>put2 F i (putF F W K i) (wAt W i)
theorem h3h (F:LB)(W:LW)(K:LKs): ∀i,(putF F W K i).length=K.length
 |0=>rfl
 |i+1=>(w3i ..).trans (h3h F W K i)
theorem putK_ok {k:Int}{b old:List Int}(h0:0≤k)(h1:k<256)(hb:Wb b∧b.length=256)(ho:Wb old∧old.length=256):Wb (putK k b old)∧(putK k b old).length=256:=by
 unfold putK
 split
 ·exact hb
 ·refine⟨fun x hx=> ?_,?_⟩
  ·rcases List.mem_append.1 hx with h|h
   ·exact hb.1 x (List.mem_of_mem_take h)
   ·exact ho.1 x (List.mem_of_mem_drop h)
  ·rw[List.length_append,List.length_take,List.length_drop];omega
theorem fk_ge {F:LB}{i:Nat}(h:F.length≤i):fk F i=0:=by
 exact w3c (α:=Int) h
theorem l3d {F:LB}(hF:Wb F)(i:Nat):0≤fk F i∧fk F i<256:=by
 rcases Nat.lt_or_ge i F.length with h|h
 ·exact hF _ (t2c (α:=Int) h)
 ·rw[fk_ge h];omega
theorem ext2 (b old:List Int)(k:Nat):(r2b b).extract 0 k++(r2b old).extract k (Int.toNat ((r2b old).size:Int))=r2b (b.take k++old.drop k):=by
 rw[k3l,k3l,str_app,h3j,Int.toNat_natCast,List.take_length,List.drop_zero]
theorem l3x (b old:List Int)(k:Nat)(hb:b.length=256)(ho:old.length=256):((r2b b).extract 0 k).size+((r2b old).extract k (Int.toNat ((r2b old).size:Int))).size≤9223372036854775807:=by
 rw[k3l,k3l,h3j,h3j,List.length_drop,List.length_drop,List.length_take,List.length_take];omega
section
variable (s:DS) (hs:DOk s) (hw:s.W.length≤100000) (F:LB) (hF:Wb F)
include hs hF
theorem j3q: ∀i,i≤s.W.length→ ∀b∈putF F s.W s.K i,Wb (rB b)∧(rB b).length=256
 |0,_,b,hb=>hs.kb b hb
 |i+1,hi,b,hb=>by
  rcases t3n hb with h|rfl
  ·exact j3q i (by omega) b h
  ·obtain⟨p0,p1⟩:=hs.wp (wAt s.W i) (t2c (show i<s.W.length by omega))
   obtain⟨f0,f1⟩:=l3d hF i
   exact putK_ok f0 f1 (hs.wb _ (t2c (by omega))) (j3q i (by omega) _ (t2c (by rw[h3h];omega)))
include hw
theorem d41l (n:Int)(a:Bool)(h:Int)(o:Bool):k3k [.k 0,.n (s.W.length:Int),.n 0,.n n,.b a,.n h,.b o,.l TB F,.l TBk s.K,.l TWr s.W]=some (0,[.n n,.b a,.n h,.b o,.l TB F,.l TBk (putF F s.W s.K s.W.length),.l TWr s.W]):=by
 rw[n3g]
 refine b0a (st:=h3s) (fun i=>[.k 0,.n (s.W.length:Int),.n (i:Int),.n n,.b a,.n h,.b o,.l TB F,.l TBk (putF F s.W s.K i),.l TWr s.W]) s.W.length (0,[.n n,.b a,.n h,.b o,.l TB F,.l TBk (putF F s.W s.K s.W.length),.l TWr s.W]) (fun i hi=> ?_) (o3l (by omega) rfl (Int.lt_irrefl _)) FU (b1w (by omega))
 show _=some (Step.go [.k 0,.n (s.W.length:Int),.n ((i+1:Nat):Int),.n n,.b a,.n h,.b o,.l TB F,.l TBk (putF F s.W s.K (i+1)),.l TWr s.W])
 rw[←w1n i (by omega)]
 have hR:=wpos s hs hi
 rw[←h3h F s.W s.K i]at hR
 obtain⟨f0,f1⟩:=l3d hF i
 have hb:=hs.wb _ (t2c (d:=Ty.dflt TWr) hi)
 have e0:putF F s.W s.K (i+1)=put2 F i (putF F s.W s.K i) (wAt s.W i):=rfl
 rcases Nat.lt_or_ge i F.length with q|q
 ·by_cases k:fk F i=255
  ·have e:putF F s.W s.K (i+1)=List.set (putF F s.W s.K i) (wI (wAt s.W i)).toNat (ofB (wB (wAt s.W i))):=by
    rw[e0];unfold put2 putK;rw[if_pos k]
   rw[e]
   exact o3b (by omega) rfl (Int.ofNat_lt.2 hi) (Int.ofNat_lt.2 q) k hR
  ·have e:putF F s.W s.K (i+1)=List.set (putF F s.W s.K i) (wI (wAt s.W i)).toNat (ofB (List.take (fk F i).toNat (List.take (fk F i).toNat (wB (wAt s.W i)))++List.drop (min (List.length (List.take (fk F i).toNat (wB (wAt s.W i)))) (fk F i).toNat) (rB (kAt (putF F s.W s.K i) (wI (wAt s.W i)).toNat)))):=by
    rw[e0];unfold put2 putK;rw[if_neg k,List.take_take,Nat.min_self]
    have:min (List.length (List.take (fk F i).toNat (wB (wAt s.W i)))) (fk F i).toNat=(fk F i).toNat:=by
     rw[List.length_take,hb.2]
     omega
    rw[this]
   rw[e]
   exact n3j (by omega) rfl (Int.ofNat_lt.2 hi) (Int.ofNat_lt.2 q) k hR (by
    show(decide (0≤fk F i)&&decide (fk F i≤256))=true
    rw[dt f0,dt (show fk F i≤256 by omega)];rfl)
 ·have e:putF F s.W s.K (i+1)=List.set (putF F s.W s.K i) (wI (wAt s.W i)).toNat (ofB ([]++List.drop 0 (rB (kAt (putF F s.W s.K i) (wI (wAt s.W i)).toNat)))):=by
   rw[e0];unfold put2 putK;rw[fk_ge q,if_neg (by omega)];rfl
  rw[e]
  exact m3u (by omega) rfl (Int.ofNat_lt.2 hi) (by omega) hR
theorem d41 (n:Int)(a:Bool)(h:Int)(o:Bool):m3c [.n n,.b a,.n h,.b o,.l TB F,.l TBk s.K,.l TWr s.W]=some (0,[.n n,.b a,.n h,.b o,.l TB F,.l TBk (putF F s.W s.K s.W.length),.l TWr []]):=t3o (d41l s hs hw F hF n a h o)
theorem m32l (n:Int)(a:Bool)(h:Int)(o:Bool):l3i [.k 0,.l TB F,.n 0,.n n,.b a,.n h,.b o,.l TS (strK s.K),.l TOp (strW s.W)]=some (0,[.n n,.b a,.n h,.b o,.l TS (strK (putF F s.W s.K s.W.length)),.l TOp (strW s.W)]):=by
 rw[n3m]
 refine b0a (st:=h3v) (fun i=>[.k 0,.l TB F,.n (i:Int),.n n,.b a,.n h,.b o,.l TS (strK (putF F s.W s.K i)),.l TOp (strW s.W)]) s.W.length (0,[.n n,.b a,.n h,.b o,.l TS (strK (putF F s.W s.K s.W.length)),.l TOp (strW s.W)]) (fun i hi=> ?_) (m3k (by omega) (by rw[h3k];exact Int.lt_irrefl _)) FU (b1w (by omega))
 show _=some (Step.go [.k 0,.l TB F,.n ((i+1:Nat):Int),.n n,.b a,.n h,.b o,.l TS (strK (putF F s.W s.K (i+1))),.l TOp (strW s.W)])
 rw[←w1n i (by omega)]
 have hR:=wpos s hs hi
 obtain⟨p0,p1⟩:=hs.wp (wAt s.W i) (t2c hi)
 obtain⟨f0,f1⟩:=l3d hF i
 have hb:=hs.wb _ (t2c (d:=Ty.dflt TWr) hi)
 have hlt:(wI (wAt s.W i)).toNat<(putF F s.W s.K i).length:=by rw[h3h];omega
 have ho:=j3q s hs F hF i (by omega) _ (t2c (d:=Ty.dflt TBk) hlt)
 have ew:=k3o s.W hi
 have hRm:inR (oI (oAt (strW s.W) i)) (strK (putF F s.W s.K i)).length=true:=by rw[h3u,h3h,ew];exact hR
 have hi2:(i:Int)<((strW s.W).length:Int):=by rw[h3k];exact Int.ofNat_lt.2 hi
 have eb:oS (oAt (strW s.W) i)=r2b (wB (wAt s.W i)):=by rw[ew];rfl
 have eo:tAt (strK (putF F s.W s.K i)) (oI (oAt (strW s.W) i)).toNat=r2b (rB (kAt (putF F s.W s.K i) (wI (wAt s.W i)).toNat)):=by
  rw[ew];exact s3u _ hlt
 generalize hX:oS (oAt (strW s.W) i)=X at eb
 generalize hO:tAt (strK (putF F s.W s.K i)) (oI (oAt (strW s.W) i)).toNat=Z at eo
 have key: ∀k:Nat,putK (fk F i) (wB (wAt s.W i)) (rB (kAt (putF F s.W s.K i) (wI (wAt s.W i)).toNat))=(wB (wAt s.W i)).take k++(rB (kAt (putF F s.W s.K i) (wI (wAt s.W i)).toNat)).drop k→
   strK (putF F s.W s.K (i+1))=List.set (strK (putF F s.W s.K i)) (oI (oAt (strW s.W) i)).toNat (ByteArray.extract (oS (oAt (strW s.W) i)) 0 k++ByteArray.extract (tAt (strK (putF F s.W s.K i)) (oI (oAt (strW s.W) i)).toNat) k (Int.toNat ((ByteArray.size (tAt (strK (putF F s.W s.K i)) (oI (oAt (strW s.W) i)).toNat):Nat):Int))):=by
  intro k hk
  rw[hX,hO,eb,eo,ext2,←hk,ew]
  exact p3m ..
 have sz: ∀k:Nat,ByteArray.size (ByteArray.extract (oS (oAt (strW s.W) i)) 0 k)+ByteArray.size (ByteArray.extract (tAt (strK (putF F s.W s.K i)) (oI (oAt (strW s.W) i)).toNat) k (Int.toNat ((ByteArray.size (tAt (strK (putF F s.W s.K i)) (oI (oAt (strW s.W) i)).toNat):Nat):Int)))≤9223372036854775807:=by
  intro k
  rw[hX,hO,eb,eo]
  exact l3x _ _ k hb.2 ho.2
 have s1:ByteArray.size (oS (oAt (strW s.W) i))=256:=by rw[hX,eb,h3j];exact hb.2
 have s2:ByteArray.size (tAt (strK (putF F s.W s.K i)) (oI (oAt (strW s.W) i)).toNat)=256:=by rw[hO,eo,h3j];exact ho.2
 have cc: ∀z:Nat,z=256→(true&&decide ((256:Int)≤(z:Int)))=true:=fun z hz=>by rw[hz];rfl
 rcases Nat.lt_or_ge i F.length with q|q
 ·have hwr:IntKind.wrap .i64 (fk F i)=fk F i:=w64 (by omega) (by omega)
  by_cases k:fk F i=255
  ·rw[key 256 (by
    unfold putK;rw[if_pos k,List.take_of_length_le (Nat.le_of_eq hb.2),List.drop_eq_nil_of_le (Nat.le_of_eq ho.2)];simp)]
   exact n3w (by omega) hi2 (Int.ofNat_lt.2 q) (hwr.trans k) (cc _ s1) hRm (cc _ s2) (sz 256)
  ·rw[key (Int.toNat (IntKind.wrap .i64 (fk F i))) (by rw[hwr];unfold putK;rw[if_neg k])]
   have kk: ∀z:Nat,z=256→(decide (0≤IntKind.wrap .i64 (fk F i))&&decide (IntKind.wrap .i64 (fk F i)≤(z:Int)))=true:=fun z hz=>by
    rw[hwr,hz,dt f0,dt (by omega)];rfl
   have k0:(true&&decide (0≤IntKind.wrap .i64 (fk F i)))=true:=by rw[hwr,dt f0];rfl
   exact n3e (by omega) hi2 (Int.ofNat_lt.2 q) (fun e=>k (hwr.symm.trans e)) (kk _ s1) k0 hRm (kk _ s2) (sz _)
 ·rw[key 0 (by unfold putK;rw[fk_ge q,if_neg (by omega)];rfl)]
  exact n3f (by omega) hi2 (by omega) hRm (sz 0)
end
theorem wmin {h:Int}(h0:0≤h)(h1:h≤9223372036854775807)(h2: ¬h=0):IntKind.wrap .i64 (h-1)=h-1:=w64 (by omega) (by omega)
structure DH (s:DS):Prop extends DOk s where
 hb:s.h≤9223372036854775807
def pad (b:List Int):List Int:=b++List.replicate (256-b.length) 0
def mkW (i:Int)(b:List Int):Ty.den TWr:=(i,b)
theorem pad_len {b:List Int}(h:b.length≤256):(pad b).length=256:=by
 unfold pad;rw[List.length_append,List.length_replicate];omega
theorem pad_wb {b:List Int}(h:Wb b):Wb (pad b):=fun x hx=>by
 rcases List.mem_append.1 hx with q|q
 ·exact h x q
 ·have:=List.eq_of_mem_replicate q;omega
theorem pad_eq {b:List Int}(h:b.length≤256):List.take 256 b++List.drop b.length (List.replicate 256 (0:Int))=pad b:=by
 unfold pad
 rw[List.take_of_length_le h,List.drop_replicate]
theorem m25 {b:List Int}(hb:Wb b)(h:b.length≤256):j3n [.s (r2b b)]=some (0,[.s (r2b (pad b))]):=by
 refine s3i (by rw[i3u hb];omega) ?_
 rw[i3u hb,m3j]
 have hl: ∀i,(b++List.replicate i (0:Int)).length=b.length+i:=fun i=>by rw[List.length_append,List.length_replicate]
 have e0:([.k 0,.l TB b]:List Dat)=[.k 0,.l TB (b++List.replicate 0 (0:Int))]:=by rw[List.replicate_zero,List.append_nil]
 rw[e0]
 refine b0a (st:=i3o) (fun i=>[.k 0,.l TB (b++List.replicate i (0:Int))]) (256-b.length) (0,[.l TB (pad b)]) (fun i hi=> ?_) (m3l (by have:=hl (256-b.length);show¬((List.length (b++List.replicate (256-b.length) (0:Int)):Nat):Int)<256;omega)) FU (b1w (by omega))
 show _=some (Step.go [.k 0,.l TB (b++List.replicate (i+1) (0:Int))])
 rw[List.replicate_succ',←List.append_assoc]
 exact m3p (by have:=hl i;show((List.length (b++List.replicate i (0:Int)):Nat):Int)<256;omega)
def t1c (s:DS)(i:Int)(b:List Int):DS×Int:=
 if s.o=true then(s,140)else if 0≤i∧i<(s.K.length:Int)then
  if 256<b.length then(s,3)else
  if s.A=true then
   if s.h=0 then(⟨IntKind.wrap .i64 (s.n+1),false,s.h,true,s.K,s.W++[mkW i (pad b)]⟩,140)
   else(⟨IntKind.wrap .i64 (s.n+1),s.A,IntKind.wrap .i64 (s.h-1),s.o,s.K,s.W++[mkW i (pad b)]⟩,0)
  else(⟨IntKind.wrap .i64 (s.n+1),s.A,s.h,s.o,s.K,s.W++[mkW i (pad b)]⟩,0)
 else(s,2)
theorem v3n (W:LW)(i:Int)(b:List Int):strW (W++[mkW i b])=strW W++[strO (mkW i b)]:=by
 unfold strW;rw[List.map_append];rfl
section
variable (s:DS) (hw:s.W.length≤100000) (i:Int) (b:List Int)
include hw
theorem d17o:h3l [.n i,.n s.n,.b s.A,.n s.h,.b s.o,.l TB b,.l TBk s.K,.l TWr s.W]=some (0,[.n (t1c s i b).2,.n (t1c s i b).1.n,.b (t1c s i b).1.A,.n (t1c s i b).1.h,.b (t1c s i b).1.o,.l TB b,.l TBk (t1c s i b).1.K,.l TWr (t1c s i b).1.W]):=by
 unfold t1c
 cases h1:s.o with
 |true=>rw[if_pos rfl];have:=q3x (n0:=i) (n1:=s.n) (b2:=s.A) (n3:=s.h) (l5:=b) (l6:=s.K) (l7:=s.W) h1;rw[h1]at this;rw[h1];exact this
 |false=>
  rw[if_neg (by decide)]
  by_cases h2:0≤i∧i<(s.K.length:Int)
  ·rw[if_pos h2]
   by_cases h3:256<b.length
   ·rw[if_pos h3,←h1];exact q3c h1 h2.1 h2.2 (by show(b.length:Int)>256;omega)
   rw[if_neg h3]
   have h3': ¬(b.length:Int)>256:=by omega
   have h4:(s.W.length+1)*264≤140737488355328:=by omega
   rw[←pad_eq (show b.length≤256 by omega)]
   cases h5:s.A with
   |true=>
    rw[if_pos rfl]
    by_cases h6:s.h=0
    ·rw[if_pos h6];exact p3y rfl h2.1 h2.2 h3' h4 rfl h6
    ·rw[if_neg h6];exact r3i rfl h2.1 h2.2 h3' h4 rfl h6
   |false=>rw[if_neg (by decide)];exact q3q rfl h2.1 h2.2 h3' h4 rfl
  ·rw[if_neg h2,←h1]
   by_cases h0:0≤i
   ·exact q3a h1 h0 (fun q=>h2 ⟨h0,q⟩)
   ·exact p3r h1 h0
end
section
variable (s:DS) (hs:DH s) (hw:s.W.length≤100000) (i:Int) (b:List Int) (hb:Wb b)
include hs
theorem l3y (hb:Wb b):DH (t1c s i b).1∧(t1c s i b).1.W.length≤s.W.length+1∧(t1c s i b).1.K.length=s.K.length:=by
 have app:0≤i∧i<(s.K.length:Int)→ ¬256<b.length→ ∀n A h o,(A=true→0≤h)→h≤9223372036854775807→DH ⟨n,A,h,o,s.K,s.W++[mkW i (pad b)]⟩:=by
  intro hi hl n A h o ha hh
  refine⟨⟨hs.kb,fun w hw=> ?_,fun w hw=> ?_,ha,hs.kl⟩,hh⟩
  ·rcases List.mem_append.1 hw with q|q
   ·exact hs.wp w q
   ·rw[List.mem_singleton.1 q];exact hi
  ·rcases List.mem_append.1 hw with q|q
   ·exact hs.wb w q
   ·rw[List.mem_singleton.1 q];exact⟨pad_wb hb,pad_len (by omega)⟩
 have l1:(s.W++[mkW i (pad b)]).length≤s.W.length+1:=by rw[List.length_append];exact Nat.le_refl _
 unfold t1c
 by_cases h1:s.o=true
 ·rw[if_pos h1];exact⟨hs,by show s.W.length≤_;omega,rfl⟩
 rw[if_neg h1]
 by_cases h2:0≤i∧i<(s.K.length:Int)
 ·rw[if_pos h2]
  by_cases h3:256<b.length
  ·rw[if_pos h3];exact⟨hs,by show s.W.length≤_;omega,rfl⟩
  rw[if_neg h3]
  by_cases h4:s.A=true
  ·rw[if_pos h4]
   have ha:=hs.ar h4
   have hh:=hs.hb
   by_cases h5:s.h=0
   ·rw[if_pos h5];exact⟨app h2 h3 _ _ _ _ (fun q=>by cases q) hs.hb,l1,rfl⟩
   ·rw[if_neg h5,wmin ha hs.hb h5];exact⟨app h2 h3 _ _ _ _ (fun _=>by omega) (by omega),l1,rfl⟩
  ·rw[if_neg h4];exact⟨app h2 h3 _ _ _ _ hs.ar hs.hb,l1,rfl⟩
 ·rw[if_neg h2];exact⟨hs,by show s.W.length≤_;omega,rfl⟩
include hw
theorem m33 (hb:Wb b):i3f [.n i,.s (r2b b),.n s.n,.b s.A,.n s.h,.b s.o,.l TS (strK s.K),.l TOp (strW s.W)]=some (0,[.n (t1c s i b).2,.n (t1c s i b).1.n,.b (t1c s i b).1.A,.n (t1c s i b).1.h,.b (t1c s i b).1.o,.l TS (strK (t1c s i b).1.K),.l TOp (strW (t1c s i b).1.W)]):=by
 have hz:((ByteArray.size (r2b b):Nat):Int)=(b.length:Int):=by rw[h3j]
 have hkl:((strK s.K).length:Int)=(s.K.length:Int):=by rw[h3u]
 unfold t1c
 cases h1:s.o with
 |true=>rw[if_pos rfl,←h1];exact r3u h1
 |false=>
  rw[if_neg (by decide)]
  by_cases h2:0≤i∧i<(s.K.length:Int)
  ·have g1: ¬i<0:=by omega
   have g2: ¬i≥((strK s.K).length:Int):=by omega
   rw[if_pos h2]
   by_cases h3:256<b.length
   ·rw[if_pos h3,←h1];exact s3j h1 g1 g2 (by omega)
   rw[if_neg h3]
   have h3': ¬((ByteArray.size (r2b b):Nat):Int)>256:=by omega
   have h4:((strW s.W).length+1)*24≤140737488355328:=by rw[h3k];omega
   have em:=m25 hb (show b.length≤256 by omega)
   have eW:=v3n s.W i (pad b)
   cases h5:s.A with
   |true=>
    rw[if_pos rfl]
    have ha:=hs.ar h5
    by_cases h6:s.h=0
    ·rw[if_pos h6]
     show _=some (0,[_,_,_,_,_,_,Dat.l TOp (strW (s.W++[mkW i (pad b)]))])
     rw[eW];exact u3j rfl g1 g2 h3' em h4 rfl (by omega)
    ·rw[if_neg h6]
     show _=some (0,[_,_,_,_,_,_,Dat.l TOp (strW (s.W++[mkW i (pad b)]))])
     rw[eW];exact u3q rfl g1 g2 h3' em h4 rfl (by omega)
   |false=>
    rw[if_neg (by decide)]
    show _=some (0,[_,_,_,_,_,_,Dat.l TOp (strW (s.W++[mkW i (pad b)]))])
    rw[eW];exact r3l rfl g1 g2 h3' em h4 rfl
  ·rw[if_neg h2,←h1]
   by_cases h0:i<0
   ·exact r3y h1 h0
   ·exact r3s h1 h0 (by omega)
end
def h3e (s:DS):DS×Int×Nat:=
 if s.o=true then(s,140,0)else
 if s.A=true then
  if s.h=0 then(⟨IntKind.wrap .i64 (s.n+1),false,s.h,true,s.K,s.W⟩,140,0)
  else(⟨IntKind.wrap .i64 (s.n+1),s.A,IntKind.wrap .i64 (s.h-1),s.o,putN s.W s.K s.W.length,[]⟩,0,1)
 else(⟨IntKind.wrap .i64 (s.n+1),s.A,s.h,s.o,putN s.W s.K s.W.length,[]⟩,0,1)
def sOn (s:DS)(F:LB):DS×Nat:=
 if s.o=true then(⟨s.n,false,s.h,false,putF F s.W s.K s.W.length,[]⟩,1)
 else(⟨s.n,false,s.h,s.o,s.K,s.W⟩,0)
def fnd (W:LW)(i:Int):Nat→Option (List Int)
 |0=>none
 |j+1=>if wI (wAt W j)=i then some (wB (wAt W j))else fnd W i j
def j3k (s:DS)(i:Int):Option (List Int)×Int:=
 if s.o=true then(none,140)else if 0≤i∧i<(s.K.length:Int)then(some ((fnd s.W i s.W.length).getD (rB (kAt s.K i.toNat))),0)else(none,2)
section
variable (s:DS) (hs:DH s) (hw:s.W.length≤100000)
include hs
theorem i3n:DH (h3e s).1∧(h3e s).1.W.length≤s.W.length∧(h3e s).1.K.length=s.K.length:=by
 have put: ∀n A h o,(A=true→0≤h)→h≤9223372036854775807→DH ⟨n,A,h,o,putN s.W s.K s.W.length,[]⟩:=fun n A h o ha hh=>
  ⟨⟨t3v s hs.toDOk _ (Nat.le_refl _),(fun w hw=>by cases hw),(fun w hw=>by cases hw),ha,by show(putN s.W s.K s.W.length).length≤4096;rw[h3t];exact hs.kl⟩,hh⟩
 unfold h3e
 by_cases h1:s.o=true
 ·rw[if_pos h1];exact⟨hs,Nat.le_refl _,rfl⟩
 rw[if_neg h1]
 by_cases h2:s.A=true
 ·have ha:=hs.ar h2
  have hh:=hs.hb
  rw[if_pos h2]
  by_cases h3:s.h=0
  ·rw[if_pos h3];exact⟨⟨⟨hs.kb,hs.wp,hs.wb,(fun q=>by cases q),hs.kl⟩,hs.hb⟩,Nat.le_refl _,rfl⟩
  ·rw[if_neg h3,wmin ha hs.hb h3];exact⟨put _ _ _ _ (fun _=>by omega) (by omega),Nat.zero_le _,h3t ..⟩
 ·rw[if_neg h2];exact⟨put _ _ _ _ hs.ar hs.hb,Nat.zero_le _,h3t ..⟩
theorem sOn_ok (F:LB)(hF:Wb F):DH (sOn s F).1∧(sOn s F).1.W.length≤s.W.length∧(sOn s F).1.K.length=s.K.length:=by
 unfold sOn
 by_cases h1:s.o=true
 ·rw[if_pos h1]
  exact⟨⟨⟨j3q s hs.toDOk F hF _ (Nat.le_refl _),(fun w hw=>by cases hw),(fun w hw=>by cases hw),(fun q=>by cases q),by show(putF F s.W s.K s.W.length).length≤4096;rw[h3h];exact hs.kl⟩,hs.hb⟩,Nat.zero_le _,h3h ..⟩
 ·rw[if_neg h1]
  exact⟨⟨⟨hs.kb,hs.wp,hs.wb,(fun q=>by cases q),hs.kl⟩,hs.hb⟩,Nat.le_refl _,rfl⟩
include hw
theorem d16:h3o [.n s.n,.b s.A,.n s.h,.b s.o,.l TBk s.K,.l TWr s.W]=some ((h3e s).2.2,[.n (h3e s).2.1,.n (h3e s).1.n,.b (h3e s).1.A,.n (h3e s).1.h,.b (h3e s).1.o,.l TBk (h3e s).1.K,.l TWr (h3e s).1.W]):=by
 unfold h3e
 cases h1:s.o with
 |true=>rw[if_pos rfl,←h1];exact s3s h1
 |false=>
  rw[if_neg (by decide)]
  cases h5:s.A with
  |true=>
   rw[if_pos rfl]
   by_cases h6:s.h=0
   ·rw[if_pos h6];exact s3c rfl rfl h6
   ·rw[if_neg h6];exact t3f rfl rfl h6 (d44 s hs.toDOk hw _ _ _ _)
  |false=>rw[if_neg (by decide)];exact t3t rfl rfl (d44 s hs.toDOk hw _ _ _ _)
theorem m28:i3y [.n s.n,.b s.A,.n s.h,.b s.o,.l TS (strK s.K),.l TOp (strW s.W)]=some ((h3e s).2.2,[.n (h3e s).2.1,.n (h3e s).1.n,.b (h3e s).1.A,.n (h3e s).1.h,.b (h3e s).1.o,.l TS (strK (h3e s).1.K),.l TOp (strW (h3e s).1.W)]):=by
 unfold h3e
 cases h1:s.o with
 |true=>rw[if_pos rfl,←h1];exact s3p h1
 |false=>
  rw[if_neg (by decide)]
  cases h5:s.A with
  |true=>
   have ha:=hs.ar h5
   rw[if_pos rfl]
   by_cases h6:s.h=0
   ·rw[if_pos h6];exact s3r rfl rfl (by omega)
   ·rw[if_neg h6];exact u3t rfl rfl (by omega) (m28l s hs.toDOk hw _ _ _ _)
  |false=>rw[if_neg (by decide)];exact s3f rfl rfl (m28l s hs.toDOk hw _ _ _ _)
theorem d19 (F:LB)(hF:Wb F):k3h [.l TB F,.n s.n,.b s.A,.n s.h,.b s.o,.l TBk s.K,.l TWr s.W]=some ((sOn s F).2,[.n (sOn s F).1.n,.b (sOn s F).1.A,.n (sOn s F).1.h,.b (sOn s F).1.o,.l TBk (sOn s F).1.K,.l TWr (sOn s F).1.W]):=by
 unfold sOn
 cases h1:s.o with
 |true=>rw[if_pos rfl];exact r3r rfl (d41 s hs.toDOk hw F hF _ _ _ _)
 |false=>rw[if_neg (by decide)];exact s3e rfl
theorem m32 (F:LB)(hF:Wb F):k3g [.l TB F,.n s.n,.b s.A,.n s.h,.b s.o,.l TS (strK s.K),.l TOp (strW s.W)]=some ((sOn s F).2,[.n (sOn s F).1.n,.b (sOn s F).1.A,.n (sOn s F).1.h,.b (sOn s F).1.o,.l TS (strK (sOn s F).1.K),.l TOp (strW (sOn s F).1.W)]):=by
 unfold sOn
 cases h1:s.o with
 |true=>rw[if_pos rfl];exact u3g rfl (m32l s hs.toDOk hw F hF _ _ _ _)
 |false=>rw[if_neg (by decide)];exact r3p rfl
end
section
variable (s:DS) (hw:s.W.length≤100000)
include hw
theorem d20l (i n:Int)(a:Bool)(h:Int)(o:Bool)(b0:List Int):k3t [.k 0,.n i,.n (s.W.length:Int),.n 0,.n n,.b a,.n h,.b o,.l TBk s.K,.l TWr s.W,.l TB b0]=some (0,[.n n,.b a,.n h,.b o,.l TBk s.K,.l TWr s.W,.l TB ((fnd s.W i s.W.length).getD b0)]):=by
 rw[n3y]
 refine b0a (st:=i3c) (fun j=>[.k 0,.n i,.n (s.W.length:Int),.n (j:Int),.n n,.b a,.n h,.b o,.l TBk s.K,.l TWr s.W,.l TB ((fnd s.W i j).getD b0)]) s.W.length (0,[.n n,.b a,.n h,.b o,.l TBk s.K,.l TWr s.W,.l TB ((fnd s.W i s.W.length).getD b0)]) (fun j hj=> ?_) (o3a (by omega) rfl (Int.lt_irrefl _)) FU (b1w (by omega))
 show _=some (Step.go [.k 0,.n i,.n (s.W.length:Int),.n ((j+1:Nat):Int),.n n,.b a,.n h,.b o,.l TBk s.K,.l TWr s.W,.l TB ((fnd s.W i (j+1)).getD b0)])
 rw[←w1n j (by omega)]
 by_cases q:wI (wAt s.W j)=i
 ·have e:(fnd s.W i (j+1)).getD b0=wB (wAt s.W j):=by unfold fnd;rw[if_pos q];rfl
  rw[e];exact n3i (by omega) rfl (Int.ofNat_lt.2 hj) q
 ·have e:fnd s.W i (j+1)=fnd s.W i j:=by show(if _ then _ else _)=_;rw[if_neg q]
  rw[e];exact o3d (by omega) rfl (Int.ofNat_lt.2 hj) q
theorem d20 (i:Int):h3w [.n i,.n s.n,.b s.A,.n s.h,.b s.o,.l TBk s.K,.l TWr s.W]=some (match(j3k s i).1 with
  |none=>(0,[.n (j3k s i).2,.n s.n,.b s.A,.n s.h,.b s.o,.l TBk s.K,.l TWr s.W])
  |some b=>(1,[.n (j3k s i).2,.n s.n,.b s.A,.n s.h,.b s.o,.l TBk s.K,.l TWr s.W,.l TB b])):=by
 unfold j3k
 cases h1:s.o with
 |true=>rw[if_pos rfl];exact r3k rfl
 |false=>
  rw[if_neg (by decide)]
  by_cases h2:0≤i∧i<(s.K.length:Int)
  ·rw[if_pos h2];exact u3i rfl h2.1 h2.2 (d20l s hw _ _ _ _ _ _)
  ·rw[if_neg h2]
   by_cases h0:0≤i
   ·exact t3s rfl h0 (fun q=>h2 ⟨h0,q⟩)
   ·exact s3d rfl h0
theorem m29l (i n:Int)(a:Bool)(h:Int)(o:Bool): ∀j,j≤s.W.length→ ∀m,j<m→a0b i3d m [.k 0,.n i,.n ((j:Int)-1),.n n,.b a,.n h,.b o,.l TS (strK s.K),.l TOp (strW s.W)]=some (match fnd s.W i j with
  |some b=>(1,[.s (r2b b),.n 0,.n n,.b a,.n h,.b o,.l TS (strK s.K),.l TOp (strW s.W)])
  |none=>(0,[.n i,.n n,.b a,.n h,.b o,.l TS (strK s.K),.l TOp (strW s.W)]))
 |0,_,m,hm=>by
  obtain⟨m,rfl⟩: ∃q,m=q+1:=⟨m-1,by omega⟩
  exact c0a (n3v (by omega))
 |j+1,hj,m,hm=>by
  obtain⟨m,rfl⟩: ∃q,m=q+1:=⟨m-1,by omega⟩
  have e1:(((j+1:Nat):Int)-1)=(j:Int):=by omega
  rw[e1]
  have ew:=k3o s.W (show j<s.W.length by omega)
  have hR:inR (j:Int) (strW s.W).length=true:=s2t (by omega) (by rw[h3k];omega)
  by_cases q:wI (wAt s.W j)=i
  ·have e:fnd s.W i (j+1)=some (wB (wAt s.W j)):=by show(if _ then _ else _)=_;rw[if_pos q]
   rw[e]
   have eS:r2b (wB (wAt s.W j))=oS (oAt (strW s.W) j):=by rw[ew];rfl
   show _=some (1,[Dat.s (r2b (wB (wAt s.W j))),_,_,_,_,_,_,_])
   rw[eS]
   exact c0a (m3v (by omega) hR (by show oI (oAt (strW s.W) j)=i;rw[ew];exact q))
  ·have e:fnd s.W i (j+1)=fnd s.W i j:=by show(if _ then _ else _)=_;rw[if_neg q]
   rw[e]
   refine(v0e (o3c (by omega) hR (by show¬oI (oAt (strW s.W) j)=i;rw[ew];exact q))).trans ?_
   rw[show IntKind.wrap .i64 ((j:Int)-1)=(j:Int)-1 from w64 (by omega) (by omega)]
   exact m29l i n a h o j (by omega) m (by omega)
theorem m29 (i:Int):h3z [.n i,.n s.n,.b s.A,.n s.h,.b s.o,.l TS (strK s.K),.l TOp (strW s.W)]=some (0,[.s (match(j3k s i).1 with|none=>r2b []|some b=>r2b b),.n (j3k s i).2,.n s.n,.b s.A,.n s.h,.b s.o,.l TS (strK s.K),.l TOp (strW s.W)]):=by
 have hkl:((strK s.K).length:Int)=(s.K.length:Int):=by rw[h3u]
 unfold j3k
 cases h1:s.o with
 |true=>rw[if_pos rfl];exact u3u rfl
 |false=>
  rw[if_neg (by decide)]
  by_cases h2:0≤i∧i<(s.K.length:Int)
  ·rw[if_pos h2]
   have hl:=m29l s hw i s.n s.A s.h false s.W.length (Nat.le_refl _) FU (b1w (by omega))
   rw[←n3u]at hl
   have e0:IntKind.wrap .i64 (((strW s.W).length:Int)-1)=(s.W.length:Int)-1:=by rw[h3k];exact w64 (by omega) (by omega)
   rw[←e0]at hl
   cases hf:fnd s.W i s.W.length with
   |none=>
    rw[hf]at hl
    have e:r2b (rB (kAt s.K i.toNat))=tAt (strK s.K) i.toNat:=(s3u s.K (by omega)).symm
    show _=some (0,[Dat.s (r2b (rB (kAt s.K i.toNat))),_,_,_,_,_,_,_])
    rw[e]
    exact t3p rfl (by omega) (by omega) hl (s2t h2.1 (by omega))
   |some b=>rw[hf]at hl;exact r3z rfl (by omega) (by omega) hl
  ·rw[if_neg h2]
   by_cases h0:i<0
   ·exact u3o rfl h0
   ·exact u3k rfl h0 (by omega)
end
def z256:Ty.den TBk:=Ty.dflt TBk
theorem z256_ok:Wb (rB z256)∧(rB z256).length=256:=by
 have e:rB z256=List.replicate 256 (0:Int):=rfl
 rw[e]
 exact⟨fun x hx=>by have:=List.eq_of_mem_replicate hx;omega,List.length_replicate⟩
def sNew (n:Int):DS:=⟨0,false,0,false,List.replicate n.toNat z256,[]⟩
theorem t3h {n:Int}(h:n≤40):DH (sNew n):=
 ⟨⟨fun b hb=>by rw[List.eq_of_mem_replicate hb];exact z256_ok,(fun w hw=>by cases hw),(fun w hw=>by cases hw),(fun q=>by cases q),by show(List.replicate n.toNat z256).length≤4096;rw[List.length_replicate];omega⟩,by show(0:Int)≤_;omega⟩
theorem d8 {n:Int}(h:n≤40):k3b [.n n]=some (0,[.n (sNew n).n,.b (sNew n).A,.n (sNew n).h,.b (sNew n).o,.l TBk (sNew n).K,.l TWr (sNew n).W]):=by
 have e:imin (imax n 0) 4096=((n.toNat:Nat):Int):=by unfold imin imax;split<;>split<;>omega
 have k:(sNew n).K=repC (Int.toNat (imin (imax n 0) 4096)) (Ty.dflt TBk):=by rw[e,l2h];rfl
 rw[k]
 exact p3b (by
  rw[e,dt (show(0:Int)≤((n.toNat:Nat):Int) by omega),dt (Int.le_refl _),dt (show((n.toNat:Nat):Int)*256≤281474976710656 by omega)];rfl)
def zS:Ty.den TS:=r2b (pad [])
theorem w3d (m:Nat):strK (List.replicate m z256)=List.replicate m zS:=by
 unfold strK;rw[List.map_replicate];rfl
theorem m9 {n:Int}(h:n≤40):v3k [.n n]=some (0,[.n (sNew n).n,.b (sNew n).A,.n (sNew n).h,.b (sNew n).o,.l TS (strK (sNew n).K),.l TOp (strW (sNew n).W)]):=by
 refine v3i ?_
 rw[r3j]
 show _=some (0,[Dat.n 0,.b false,.n 0,.b false,.l TS (strK (List.replicate n.toNat z256))])
 rw[w3d]
 refine b0a (st:=j3j) (fun i=>[.k 0,.n n,.n (i:Int),.n 0,.b false,.n 0,.b false,.l TS (List.replicate i zS)]) n.toNat (0,[.n 0,.b false,.n 0,.b false,.l TS (List.replicate n.toNat zS)]) (fun i hi=> ?_) (p3z (by omega) (by omega)) FU (b1w (by omega))
 show _=some (Step.go [.k 0,.n n,.n ((i+1:Nat):Int),.n 0,.b false,.n 0,.b false,.l TS (List.replicate (i+1) zS)])
 rw[←w1n i (by omega),List.replicate_succ']
 exact r3b (by omega) (by omega) (by omega) (m25 (b:=[]) (fun x hx=>by cases hx) (by decide)) (by
  show((List.replicate i zS).length+1)*16≤_
  rw[List.length_replicate];omega)
theorem c26 {K:LKs}(h:K.length≤100000):m3d [.l TBk K]=some (0,[.l TBk K]):=by
 unfold m3d i3r o3i
 simp only[d0b]
 rw[dt (by omega)];rfl
theorem c27 {W:LW}(h:W.length≤100000):m3h [.l TWr W]=some (0,[.l TWr W]):=by
 unfold m3h i3r m3n
 simp only[d0b]
 rw[dt (by omega)];rfl
section
variable (s:DS) (hw:s.W.length≤100000) (hk:s.K.length≤4096)
include hw hk
theorem d11:m3f [.n s.n,.b s.A,.n s.h,.b s.o,.l TBk s.K,.l TWr s.W]=some (0,[.n s.n,.b s.A,.n s.h,.b s.o,.l TBk s.K,.l TWr s.W,.n s.n,.b s.A,.n s.h,.b s.o,.l TBk s.K,.l TWr s.W]):=u3r (c26 (by omega)) (c27 hw)
theorem m10:l3p [.n s.n,.b s.A,.n s.h,.b s.o,.l TS (strK s.K),.l TOp (strW s.W)]=some (0,[.n s.n,.b s.A,.n s.h,.b s.o,.l TS (strK s.K),.l TOp (strW s.W),.n s.n,.b s.A,.n s.h,.b s.o,.l TS (strK s.K),.l TOp (strW s.W)]):=t3g (by rw[h3u];omega) (by rw[h3k];omega)
end
section
variable (s:DS) (hs:DH s) (hw:s.W.length≤100000)
theorem t11z (i:Int):h3y [.k 1,.n i,.n 0,.n s.n,.b s.A,.n s.h,.b s.o,.n s.n,.b s.A,.n s.h,.b s.o,.l TBk s.K,.l TWr s.W,.l TS (strK s.K),.l TOp (strW s.W)]=some (0,[.n i,.n s.n,.b s.A,.n s.h,.b s.o,.n s.n,.b s.A,.n s.h,.b s.o,.l TBk s.K,.l TWr s.W,.l TS (strK s.K),.l TOp (strW s.W)]):=by
 rw[i3x]
 exact c0a (n:=18446744073709551615) (l3w (Int.le_refl _))
theorem t11 (i:Int)(b:LB):h3y [.k 0,.n i,.n 0,.n s.n,.b s.A,.n s.h,.b s.o,.n s.n,.b s.A,.n s.h,.b s.o,.l TBk s.K,.l TWr s.W,.l TS (strK s.K),.l TOp (strW s.W),.l TB b]=some (0,[.n i,.n s.n,.b s.A,.n s.h,.b s.o,.n s.n,.b s.A,.n s.h,.b s.o,.l TBk s.K,.l TWr s.W,.l TS (strK s.K),.l TOp (strW s.W)]):=by
 rw[i3x]
 have go: ∀k m:Nat,k≤256→256-k<m→ ∀b:LB,a0b h3r m [.k 0,.n i,.n (k:Int),.n s.n,.b s.A,.n s.h,.b s.o,.n s.n,.b s.A,.n s.h,.b s.o,.l TBk s.K,.l TWr s.W,.l TS (strK s.K),.l TOp (strW s.W),.l TB b]=some (0,[.n i,.n s.n,.b s.A,.n s.h,.b s.o,.n s.n,.b s.A,.n s.h,.b s.o,.l TBk s.K,.l TWr s.W,.l TS (strK s.K),.l TOp (strW s.W)]):=by
  intro k m hk hm
  induction m generalizing k with
  |zero=>omega
  |succ m ih=>
   intro b
   by_cases q:k<256
   ·refine(v0e (m3a (by omega) (by omega))).trans ?_
    rw[w1n k (by omega)]
    exact ih (k+1) (by omega) (by omega) _
   ·exact c0a (l3v (by omega) (by omega))
 exact go 0 FU (by omega) (b1w (by omega)) b
include hs hw
theorem t4:l3h [.k 0,.n (-1),.n s.n,.b s.A,.n s.h,.b s.o,.n s.n,.b s.A,.n s.h,.b s.o,.l TBk s.K,.l TWr s.W,.l TS (strK s.K),.l TOp (strW s.W)]=some (0,[.n s.n,.b s.A,.n s.h,.b s.o,.n s.n,.b s.A,.n s.h,.b s.o,.l TBk s.K,.l TWr s.W,.l TS (strK s.K),.l TOp (strW s.W)]):=by
 have hkl:((strK s.K).length:Int)=(s.K.length:Int):=by rw[h3u]
 have hk:=hs.kl
 rw[o3j]
 refine b0a (st:=i3e) (fun i=>[.k 0,.n ((i:Int)-1),.n s.n,.b s.A,.n s.h,.b s.o,.n s.n,.b s.A,.n s.h,.b s.o,.l TBk s.K,.l TWr s.W,.l TS (strK s.K),.l TOp (strW s.W)]) (s.K.length+2) (0,[.n s.n,.b s.A,.n s.h,.b s.o,.n s.n,.b s.A,.n s.h,.b s.o,.l TBk s.K,.l TWr s.W,.l TS (strK s.K),.l TOp (strW s.W)]) (fun i hi=> ?_) (n3p (by omega) (by omega)) FU (b1w (by omega))
 show _=some (Step.go [.k 0,.n (((i+1:Nat):Int)-1),.n s.n,.b s.A,.n s.h,.b s.o,.n s.n,.b s.A,.n s.h,.b s.o,.l TBk s.K,.l TWr s.W,.l TS (strK s.K),.l TOp (strW s.W)])
 have ew:((i+1:Nat):Int)-1=IntKind.wrap .i64 (((i:Int)-1)+1):=by rw[w64 (by omega) (by omega)];omega
 rw[ew]
 have e1:=d20 s hw ((i:Int)-1)
 have e2:=m29 s hw ((i:Int)-1)
 cases hr:(j3k s ((i:Int)-1)).1 with
 |none=>
  rw[hr]at e1 e2
  exact n3s (by omega) (by omega) e1 e2 rfl (y2e _) (t11z s _)
 |some b=>
  rw[hr]at e1 e2
  exact m3i (by omega) (by omega) e1 e2 rfl (y2e _) (t11 s _ _)
theorem t13:k3a [.n s.n,.b s.A,.n s.h,.b s.o,.n s.n,.b s.A,.n s.h,.b s.o,.l TBk s.K,.l TWr s.W,.l TS (strK s.K),.l TOp (strW s.W)]=some (0,[.b true,.n s.n,.b s.A,.n s.h,.b s.o,.n s.n,.b s.A,.n s.h,.b s.o,.l TBk s.K,.l TWr s.W,.l TS (strK s.K),.l TOp (strW s.W)]):=
 s3h (by rw[h3u]) rfl (by simp) (by rw[h3k]) (t4 s hs hw)
end
theorem t3k (s:DS):((h3e s).2.2=0∧(h3e s).1.W=s.W)∨(h3e s).2.2=1:=by
 unfold h3e
 by_cases h1:s.o=true
 ·rw[if_pos h1];exact .inl ⟨rfl,rfl⟩
 rw[if_neg h1]
 by_cases h2:s.A=true
 ·rw[if_pos h2]
  by_cases h3:s.h=0
  ·rw[if_pos h3];exact .inl ⟨rfl,rfl⟩
  ·rw[if_neg h3];exact .inr rfl
 ·rw[if_neg h2];exact .inr rfl
theorem sOn_k (s:DS)(F:LB):((sOn s F).2=0∧(sOn s F).1.W=s.W)∨(sOn s F).2=1:=by
 unfold sOn
 by_cases h1:s.o=true
 ·rw[if_pos h1];exact .inr rfl
 ·rw[if_neg h1];exact .inl ⟨rfl,rfl⟩
theorem l3j (s:DS)(i:Int)(b:List Int):(t1c s i b).1.K=s.K:=by
 unfold t1c
 split
 ·rfl
 split
 ·split
  ·rfl
  split
  ·split<;>rfl
  ·rfl
 ·rfl
theorem lenset (b:LB)(i:Nat)(v:Ty.den TB):(List.set b i v).length=b.length:=List.length_set ..
theorem dl0 (s:DS)(x:Bool)(b:LB)(hb:b.length≤100000):h3c [.k 0,.b x,.n 0,.n s.n,.b s.A,.n s.h,.b s.o,.n s.n,.b s.A,.n s.h,.b s.o,.l TBk s.K,.l TWr s.W,.l TS (strK s.K),.l TOp (strW s.W),.l TB b]=some (0,[.b x,.n s.n,.b s.A,.n s.h,.b s.o,.n s.n,.b s.A,.n s.h,.b s.o,.l TBk s.K,.l TWr s.W,.l TS (strK s.K),.l TOp (strW s.W)]):=by
 rw[i3z]
 have go: ∀n m k:Nat,∀b:LB,b.length=n→n≤100000→k≤n→n-k<m→a0b h3i m [.k 0,.b x,.n (k:Int),.n s.n,.b s.A,.n s.h,.b s.o,.n s.n,.b s.A,.n s.h,.b s.o,.l TBk s.K,.l TWr s.W,.l TS (strK s.K),.l TOp (strW s.W),.l TB b]=some (0,[.b x,.n s.n,.b s.A,.n s.h,.b s.o,.n s.n,.b s.A,.n s.h,.b s.o,.l TBk s.K,.l TWr s.W,.l TS (strK s.K),.l TOp (strW s.W)]):=by
  intro n m
  induction m with
  |zero=>intro k b _ _ _ hm;omega
  |succ m ih=>
   intro k b hb h5 hk hm
   by_cases q:k<b.length
   ·refine(v0e (l3n (by omega) (Int.ofNat_lt.2 q))).trans ?_
    rw[w1n k (by omega)]
    exact ih (k+1) _ ((lenset _ _ _).trans hb) h5 (by omega) (by omega)
   ·exact c0a (l3b (by omega) (by omega))
 exact go b.length FU 0 b rfl hb (Nat.zero_le _) (b1w (by omega))
theorem dl1 (s:DS)(x:Bool)(b:LB)(hb:b.length≤100000):h3c [.k 1,.b x,.n 0,.n s.n,.b s.A,.n s.h,.b s.o,.n s.n,.b s.A,.n s.h,.b s.o,.l TBk s.K,.l TS (strK s.K),.l TB b,.l TWr s.W,.l TOp (strW s.W)]=some (1,[.b x,.n s.n,.b s.A,.n s.h,.b s.o,.n s.n,.b s.A,.n s.h,.b s.o,.l TBk s.K,.l TS (strK s.K),.l TWr s.W,.l TOp (strW s.W)]):=by
 rw[i3z]
 have go: ∀n m k:Nat,∀b:LB,b.length=n→n≤100000→k≤n→n-k<m→a0b h3i m [.k 1,.b x,.n (k:Int),.n s.n,.b s.A,.n s.h,.b s.o,.n s.n,.b s.A,.n s.h,.b s.o,.l TBk s.K,.l TS (strK s.K),.l TB b,.l TWr s.W,.l TOp (strW s.W)]=some (1,[.b x,.n s.n,.b s.A,.n s.h,.b s.o,.n s.n,.b s.A,.n s.h,.b s.o,.l TBk s.K,.l TS (strK s.K),.l TWr s.W,.l TOp (strW s.W)]):=by
  intro n m
  induction m with
  |zero=>intro k b _ _ _ hm;omega
  |succ m ih=>
   intro k b hb h5 hk hm
   by_cases q:k<b.length
   ·refine(v0e (l3g (by omega) (Int.ofNat_lt.2 q))).trans ?_
    rw[w1n k (by omega)]
    exact ih (k+1) _ ((lenset _ _ _).trans hb) h5 (by omega) (by omega)
   ·exact c0a (k3j (by omega) (by omega))
 exact go b.length FU 0 b rfl hb (Nat.zero_le _) (b1w (by omega))
def sFail (s:DS)(i:Int):DS:=⟨s.n,decide (i≥0),i,s.o,s.K,s.W⟩
def sCrash (s:DS):DS:=⟨s.n,false,s.h,true,s.K,s.W⟩
def sDo (s:DS)(k i:Int)(B F:LB):DS×Nat:=
 if Int.tmod k 9=3 then((h3e s).1,(h3e s).2.2)else
 if Int.tmod k 9=4 then(s,0)else
 if Int.tmod k 9=5 then(sFail s i,0)else
 if Int.tmod k 9=6 then(sCrash s,0)else
 if Int.tmod k 9=7 then sOn s F else((t1c s i B).1,0)
def dEnv (s:DS)(v:Nat):List Dat:=[.n s.n,.b s.A,.n s.h,.b s.o,.n s.n,.b s.A,.n s.h,.b s.o]++
 (if v=0 then[.l TBk s.K,.l TWr s.W,.l TS (strK s.K),.l TOp (strW s.W)]else[.l TBk s.K,.l TS (strK s.K),.l TWr s.W,.l TOp (strW s.W)])
section
variable (s:DS) (hs:DH s) (hw:s.W.length≤100000) (k i:Int) (hk:0≤k) (B F:LB) (hB:Wb B) (hF:Wb F) (hl:B.length≤100000)
include hs hB hF
theorem sDo_ok (hi:i≤9223372036854775807):DH (sDo s k i B F).1∧(sDo s k i B F).1.W.length≤s.W.length+1∧(sDo s k i B F).1.K.length=s.K.length:=by
 unfold sDo
 split
 ·obtain⟨a,b,c⟩:=i3n s hs;exact⟨a,Nat.le_succ_of_le b,c⟩
 split
 ·exact⟨hs,Nat.le_succ _,rfl⟩
 split
 ·exact⟨⟨⟨hs.kb,hs.wp,hs.wb,(fun q=>of_decide_eq_true q),hs.kl⟩,hi⟩,Nat.le_succ _,rfl⟩
 split
 ·exact⟨⟨⟨hs.kb,hs.wp,hs.wb,(fun q=>by cases q),hs.kl⟩,hs.hb⟩,Nat.le_succ _,rfl⟩
 split
 ·obtain⟨a,b,c⟩:=sOn_ok s hs F hF;exact⟨a,Nat.le_succ_of_le b,c⟩
 ·exact l3y s hs i B hB
include hw hk hl
theorem d12:h3m ([.n k,.n i,.l TB B,.l TB F]++dEnv s 0)=some ((sDo s k i B F).2,.b true::dEnv (sDo s k i B F).1 (sDo s k i B F).2):=by
 have bb:c0b (r2b B)=B:=i3u hB
 have tt:f0b (r2b (c0b (r2b B))) (r2b B)=true:=by rw[bb];exact y2e _
 have hbl:List.length (α:=Ty.den TB) (c0b (r2b B))≤100000:=by rw[bb];exact hl
 have L0: ∀s:DS,h3c [.k 0,.b (f0b (r2b (c0b (r2b B))) (r2b B)),.n 0,.n s.n,.b s.A,.n s.h,.b s.o,.n s.n,.b s.A,.n s.h,.b s.o,.l TBk s.K,.l TWr s.W,.l TS (strK s.K),.l TOp (strW s.W),.l TB (c0b (r2b B))]=some (0,[.b true,.n s.n,.b s.A,.n s.h,.b s.o,.n s.n,.b s.A,.n s.h,.b s.o,.l TBk s.K,.l TWr s.W,.l TS (strK s.K),.l TOp (strW s.W)]):=fun s=>by rw[tt];exact dl0 s true _ hbl
 have L1: ∀s:DS,h3c [.k 1,.b (f0b (r2b (c0b (r2b B))) (r2b B)),.n 0,.n s.n,.b s.A,.n s.h,.b s.o,.n s.n,.b s.A,.n s.h,.b s.o,.l TBk s.K,.l TS (strK s.K),.l TB (c0b (r2b B)),.l TWr s.W,.l TOp (strW s.W)]=some (1,[.b true,.n s.n,.b s.A,.n s.h,.b s.o,.n s.n,.b s.A,.n s.h,.b s.o,.l TBk s.K,.l TS (strK s.K),.l TWr s.W,.l TOp (strW s.W)]):=fun s=>by rw[tt];exact dl1 s true _ hbl
 unfold sDo
 by_cases h3:Int.tmod k 9=3
 ·rw[if_pos h3]
  have e1:=d16 s hs hw
  have e2:=m28 s hs hw
  rcases t3k s with⟨q,qW⟩|q
  ·rw[q]at e1 e2⊢
   have:=L0 (h3e s).1
   rw[qW]at this
   refine(s3y hk h3 e1 e2 rfl this).trans ?_
   rw[←qW];rfl
  ·rw[q]at e1 e2⊢
   exact r3g hk h3 e1 e2 rfl (L1 (h3e s).1)
 rw[if_neg h3]
 by_cases h4:Int.tmod k 9=4
 ·rw[if_pos h4]
  have e1:=d20 s hw i
  have e2:=m29 s hw i
  cases hr:(j3k s i).1 with
  |none=>rw[hr]at e1 e2;exact q3g hk h3 h4 e1 e2 rfl (y2e _) (L0 s)
  |some b=>rw[hr]at e1 e2;exact q3p hk h3 h4 e1 e2 rfl (y2e _) (L0 s)
 rw[if_neg h4]
 by_cases h5:Int.tmod k 9=5
 ·rw[if_pos h5];exact p3o hk h3 h4 h5 (L0 (sFail s i))
 rw[if_neg h5]
 by_cases h6:Int.tmod k 9=6
 ·rw[if_pos h6];exact q3u hk h3 h4 h5 h6 (L0 (sCrash s))
 rw[if_neg h6]
 by_cases h7:Int.tmod k 9=7
 ·rw[if_pos h7]
  have e1:=d19 s hs hw F hF
  have e2:=m32 s hs hw F hF
  rcases sOn_k s F with⟨q,qW⟩|q
  ·rw[q]at e1 e2⊢
   have:=L0 (sOn s F).1
   rw[qW]at this
   refine(r3h hk h3 h4 h5 h6 h7 e1 e2 this).trans ?_
   rw[←qW];rfl
  ·rw[q]at e1 e2⊢
   exact r3d hk h3 h4 h5 h6 h7 e1 e2 (L1 (sOn s F).1)
 rw[if_neg h7]
 have e1: ∀b':LB,b'=B→h3l [.n i,.n s.n,.b s.A,.n s.h,.b s.o,.l TB b',.l TBk s.K,.l TWr s.W]=some (0,[.n (t1c s i B).2,.n (t1c s i B).1.n,.b (t1c s i B).1.A,.n (t1c s i B).1.h,.b (t1c s i B).1.o,.l TB b',.l TBk (t1c s i B).1.K,.l TWr (t1c s i B).1.W]):=fun b' h=>by
  rw[h];exact d17o s hw i B
 have e1:=e1 (c0b (r2b B)) bb
 have e2:=m33 s hs hw i B hB
 have eK:=l3j s i B
 generalize t1c s i B=R at e1 e2 eK⊢
 obtain⟨⟨n',A',h',o',K',W'⟩,e'⟩:=R
 have eK:K'=s.K:=eK
 subst eK
 exact q3t hk h3 h4 h5 h6 h7 e1 e2 rfl (L0 ⟨n',A',h',o',s.K,W'⟩)
end
abbrev LC:=List (Ty.den t0c)
def cK (c:Ty.den t0c):Int:=Prod.fst c
def cI (c:Ty.den t0c):Int:=Prod.fst (Prod.snd c)
def cB (c:Ty.den t0c):LB:=Prod.fst (Prod.snd (Prod.snd c))
def cF (c:Ty.den t0c):LB:=Prod.snd (Prod.snd (Prod.snd c))
abbrev caAt (l:LC)(i:Nat):Ty.den t0c:=l.getD i (Ty.dflt t0c)
structure okC (c:Ty.den t0c):Prop where
 k0:0≤cK c
 k1:cK c≤255
 i1:cI c≤9223372036854775807
 wb:Wb (cB c)
 wf:Wb (cF c)
theorem l6l (l:LC)(hl:l.length≤80): ∀m k:Nat,∀n:Int,k≤l.length→l.length-k<m→0≤n→n≤12000→
  (∃n',a0b h3p m [.k 0,.l t0c l,.n n,.n (k:Int)]=some (0,[.n n'])∧ ∀i,k≤i→i<l.length→(cB (caAt l i)).length≤6000)∨a0b h3p m [.k 0,.l t0c l,.n n,.n (k:Int)]=some (1,[.b true]):=by
 intro m
 induction m with
 |zero=>intro k n _ hm;omega
 |succ m ih=>
  intro k n hk hm h0 h1
  by_cases q:k<l.length
  ·have hw6:IntKind.wrap .i64 ((6000:Int)-n)=6000-n:=w64 (by omega) (by omega)
   by_cases a:((cB (caAt l k)).length:Int)>6000-n
   ·have a':((cB (caAt l k)).length:Int)>IntKind.wrap .i64 ((6000:Int)-n):=by rw[hw6];exact a
    exact .inr (c0a (q3v (by omega) (Int.ofNat_lt.2 q) a'))
   have a': ¬((cB (caAt l k)).length:Int)>IntKind.wrap .i64 ((6000:Int)-n):=by rw[hw6];exact a
   by_cases b:((cF (caAt l k)).length:Int)>6000-n
   ·have b':((cF (caAt l k)).length:Int)>IntKind.wrap .i64 ((6000:Int)-n):=by rw[hw6];exact b
    exact .inr (c0a (q3d (by omega) (Int.ofNat_lt.2 q) a' b'))
   have b': ¬((cF (caAt l k)).length:Int)>IntKind.wrap .i64 ((6000:Int)-n):=by rw[hw6];exact b
   have e:a0b h3p (m+1) [.k 0,.l t0c l,.n n,.n (k:Int)]=a0b h3p m [.k 0,.l t0c l,.n (IntKind.wrap .i64 (IntKind.wrap .i64 (n+((cB (caAt l k)).length:Int))+((cF (caAt l k)).length:Int))),.n (IntKind.wrap .i64 ((k:Int)+1))]:=v0e (r3e (by omega) (Int.ofNat_lt.2 q) a' b')
   have ew:IntKind.wrap .i64 (IntKind.wrap .i64 (n+((cB (caAt l k)).length:Int))+((cF (caAt l k)).length:Int))=n+((cB (caAt l k)).length:Int)+((cF (caAt l k)).length:Int):=by
    rw[show IntKind.wrap .i64 (n+((cB (caAt l k)).length:Int))=n+((cB (caAt l k)).length:Int)from w64 (by omega) (by omega)]
    exact w64 (by omega) (by omega)
   rw[ew,w1n k (by omega)]at e
   rcases ih (k+1) (n+((cB (caAt l k)).length:Int)+((cF (caAt l k)).length:Int)) (by omega) (by omega) (by omega) (by omega)with⟨n',h,hs⟩|h
   ·refine .inl ⟨n',e.trans h,fun i hi hil=> ?_⟩
    rcases Nat.eq_or_lt_of_le hi with rfl|hi
    ·omega
    ·exact hs i hi hil
   ·exact .inr (e.trans h)
  ·exact .inl ⟨n,c0a (r3a (by omega) (by omega)),fun i hi hil=>by omega⟩
theorem l6x (l:LC): ∃x,j3b [.l t0c l]=some (0,[.b x])∧(x=false→l.length≤80∧ ∀i,i<l.length→(cB (caAt l i)).length≤6000):=by
 by_cases hl:(l.length:Int)>80
 ·exact⟨true,w3k hl,fun h=>by cases h⟩
 have hl':l.length≤80:=by omega
 rcases l6l l hl' FU 0 0 (by omega) (b1w (by omega)) (by omega) (by omega)with⟨n',h,hs⟩|h
 ·rw[←k3f]at h
  exact⟨_,u3y hl h,fun _=>⟨hl',fun i hi=>hs i (Nat.zero_le _) hi⟩⟩
 ·rw[←k3f]at h
  exact⟨true,w3a hl h,fun h=>by cases h⟩
theorem wu8 {n:Int}(h:0≤n):0≤IntKind.wrap .u8 n:=by
 unfold IntKind.wrap
 simp[IntKind.bits,IntKind.signed]
 omega
theorem sDo_v (s:DS)(k i:Int)(B F:LB):(sDo s k i B F).2=0∨(sDo s k i B F).2=1:=by
 unfold sDo
 split
 ·exact(t3k s).imp (fun h=>h.1) id
 split
 ·exact .inl rfl
 split
 ·exact .inl rfl
 split
 ·exact .inl rfl
 split
 ·exact(sOn_k s F).imp (fun h=>h.1) id
 ·exact .inl rfl
theorem y1u {t:Ty}{l:List t.den}(h:wfD (.sl t) l=true): ∀x∈l,wfD t x=true:=by
 have h:(decide (l.length≤maxLen)&&wfL (wfD t) l)=true:=h
 rw[Bool.and_eq_true]at h
 exact o2j.1 h.2
theorem wb_wf {b:LB}(h:wfD (.sl TB) b=true):Wb b:=fun x hx=>by
 have q:=wfi (y1u h x hx)
 simp[IntKind.min,IntKind.max,IntKind.bits,IntKind.signed]at q
 exact⟨q.1,Int.lt_of_le_of_lt q.2 (by decide)⟩
theorem okC_wf {c:Ty.den t0c}(h:wfD t0c c=true):okC c:=by
 have h1:=p0a h
 have h2:=p0a h1.2
 have h3:=p0a h2.2
 have k:=wfi h1.1
 have i:=wfi h2.1
 simp[IntKind.min,IntKind.max,IntKind.bits,IntKind.signed]at k i
 exact⟨k.1,k.2,i.2,wb_wf h3.1,wb_wf h3.2⟩
section
variable (l:LC) (hl:l.length≤80) (hc: ∀c∈l,okC c) (hb: ∀i,i<l.length→(cB (caAt l i)).length≤6000)
include hl hc hb
theorem l35: ∀m k:Nat,∀s:DS,DH s→s.W.length≤k→k≤l.length→l.length-k<m→a0b j3a m ([.k 0,.l t0c l,.n (k:Int)]++dEnv s 0)=some (0,[]):=by
 intro m
 induction m with
 |zero=>intro k s _ _ _ hm;omega
 |succ m ih=>
  intro k s hs hw hk hm
  by_cases q:k<l.length
  ·have ok:=hc _ (t2c (d:=Ty.dflt t0c) q)
   have hbl:=hb k q
   by_cases h8:Int.tmod (cK (caAt l k)) 9=8
   ·have k0:0≤IntKind.wrap .u8 (Int.tdiv (cK (caAt l k)) 9):=wu8 (Int.tdiv_nonneg ok.k0 (by decide))
    have wn:Wb ([]:List Int):=fun x hx=>by cases hx
    obtain⟨g1,g2,g3⟩:=sDo_ok s hs (IntKind.wrap .u8 (Int.tdiv (cK (caAt l k)) 9)) (cI (caAt l k)) (cB (caAt l k)) [] ok.wb wn ok.i1
    have e:=d12 s hs (by omega) (IntKind.wrap .u8 (Int.tdiv (cK (caAt l k)) 9)) (cI (caAt l k)) k0 (cB (caAt l k)) [] ok.wb wn (by omega)
    have ec:=d11 s (by omega) hs.kl
    have em:=m10 s (by omega) hs.kl
    have et:=t13 s hs (by omega)
    have nx:=ih (k+1) _ g1 (by omega) (by omega) (by omega)
    rw[←w1n k (by omega)]at nx
    rcases sDo_v s (IntKind.wrap .u8 (Int.tdiv (cK (caAt l k)) 9)) (cI (caAt l k)) (cB (caAt l k)) []with v|v
    ·rw[v]at e
     exact(v0e (r3q (by omega) (Int.ofNat_lt.2 q) h8 em ec e rfl et rfl)).trans nx
    ·rw[v]at e
     exact(v0e (t3x (by omega) (Int.ofNat_lt.2 q) h8 em ec e rfl et rfl)).trans nx
   ·obtain⟨g1,g2,g3⟩:=sDo_ok s hs (cK (caAt l k)) (cI (caAt l k)) (cB (caAt l k)) (cF (caAt l k)) ok.wb ok.wf ok.i1
    have e:=d12 s hs (by omega) (cK (caAt l k)) (cI (caAt l k)) ok.k0 (cB (caAt l k)) (cF (caAt l k)) ok.wb ok.wf (by omega)
    have et:=t13 (sDo s (cK (caAt l k)) (cI (caAt l k)) (cB (caAt l k)) (cF (caAt l k))).1 g1 (by omega)
    have nx:=ih (k+1) _ g1 (by omega) (by omega) (by omega)
    rw[←w1n k (by omega)]at nx
    rcases sDo_v s (cK (caAt l k)) (cI (caAt l k)) (cB (caAt l k)) (cF (caAt l k))with v|v
    ·rw[v]at e
     exact(v0e (p3p (by omega) (Int.ofNat_lt.2 q) h8 e rfl et rfl)).trans nx
    ·rw[v]at e
     exact(v0e (q3k (by omega) (Int.ofNat_lt.2 q) h8 e rfl et rfl)).trans nx
  ·exact c0a (q3l (by omega) (by omega))
end
theorem W3_all (n:Int)(l:LC)(hl:wfD (.sl t0c) l=true):(v3p [.n n,.l t0c l]).sel=some true:=by
 obtain⟨x,e,hx⟩:=l6x l
 cases x with
 |true=>exact v3l e rfl
 |false=>
  by_cases h:n>40
  ·exact v3r e rfl h
  ·obtain⟨h1,h2⟩:=hx rfl
   have e3:=l35 l h1 (fun c q=>okC_wf (y1u hl c q)) h2 FU 0 (sNew n) (t3h (by omega)) (Nat.zero_le _) (Nat.zero_le _) (b1w (by omega))
   exact v3w e rfl h (d8 (by omega)) (m9 (by omega)) ((r3o _).trans e3)
theorem u3f (K:LKs)(i j:Nat)(b:Ty.den TBk)(hi:i<K.length):kAt (K.set i b) j=if i=j then b else kAt K j:=by
 show(K.set i b).getD j _=_
 rw[List.getD_eq_getElem?_getD,List.getElem?_set]
 by_cases h:i=j
 ·subst h;rw[if_pos rfl,if_pos rfl,if_pos hi];rfl
 ·rw[if_neg h,if_neg h,←List.getD_eq_getElem?_getD]
section
variable (s:DS) (hs:DOk s)
include hs
theorem wIn {n:Nat}(h:n<s.W.length):(wI (wAt s.W n)).toNat<s.K.length:=by
 obtain⟨p0,p1⟩:=hs.wp (wAt s.W n) (t2c h)
 omega
theorem s3g (j:Nat): ∀n,n≤s.W.length→rB (kAt (putN s.W s.K n) j)=(fnd s.W (j:Int) n).getD (rB (kAt s.K j))
 |0,_=>rfl
 |n+1,h=>by
  have hl:=wIn s hs (show n<s.W.length by omega)
  obtain⟨p0,p1⟩:=hs.wp (wAt s.W n) (t2c (by omega))
  have ih:=s3g j n (by omega)
  have e:kAt (putN s.W s.K (n+1)) j=if(wI (wAt s.W n)).toNat=j then ofB (wB (wAt s.W n))else kAt (putN s.W s.K n) j:=u3f _ _ _ _ (by rw[h3t];exact hl)
  rw[e]
  by_cases q:wI (wAt s.W n)=(j:Int)
  ·rw[if_pos (by omega)]
   have:fnd s.W (j:Int) (n+1)=some (wB (wAt s.W n)):=by show(if _ then _ else _)=_;rw[if_pos q]
   rw[this];rfl
  ·rw[if_neg (by omega)]
   have:fnd s.W (j:Int) (n+1)=fnd s.W (j:Int) n:=by show(if _ then _ else _)=_;rw[if_neg q]
   rw[this];exact ih
def OneW (s:DS):Prop:= ∀n,n<s.W.length→fnd s.W (wI (wAt s.W n)) n=none
theorem r3m (ho:OneW s)(F:LB)(hF:Wb F)(j:Nat): ∀n,n≤s.W.length→match fnd s.W (j:Int) n with
  |none=>kAt (putF F s.W s.K n) j=kAt s.K j
  |some b=> ∃f:Int,0≤f∧f<256∧rB (kAt (putF F s.W s.K n) j)=putK f b (rB (kAt s.K j))
 |0,_=>rfl
 |n+1,h=>by
  have hl:=wIn s hs (show n<s.W.length by omega)
  obtain⟨p0,p1⟩:=hs.wp (wAt s.W n) (t2c (by omega))
  have ih:=r3m ho F hF j n (by omega)
  have e:kAt (putF F s.W s.K (n+1)) j=if(wI (wAt s.W n)).toNat=j then ofB (putK (fk F n) (wB (wAt s.W n)) (rB (kAt (putF F s.W s.K n) (wI (wAt s.W n)).toNat)))else kAt (putF F s.W s.K n) j:=u3f _ _ _ _ (by rw[h3h];exact hl)
  by_cases q:wI (wAt s.W n)=(j:Int)
  ·have h0:=ho n (by omega)
   rw[q]at h0
   rw[h0]at ih
   have e2:fnd s.W (j:Int) (n+1)=some (wB (wAt s.W n)):=by show(if _ then _ else _)=_;rw[if_pos q]
   rw[e2]
   obtain⟨f0,f1⟩:=l3d hF n
   refine⟨fk F n,f0,f1,?_⟩
   rw[e,if_pos (by omega),show(wI (wAt s.W n)).toNat=j by omega,ih];rfl
  ·have e2:fnd s.W (j:Int) (n+1)=fnd s.W (j:Int) n:=by show(if _ then _ else _)=_;rw[if_neg q]
   rw[e2,e,if_neg (by omega)];exact ih
end
theorem l3c (W:LW)(w:Ty.den TWr)(j:Int): ∀n,n≤W.length→fnd (W++[w]) j n=fnd W j n
 |0,_=>rfl
 |n+1,h=>by
  have e:wAt (W++[w]) n=wAt W n:=by
   show(W++[w]).getD n _=W.getD n _
   rw[List.getD_eq_getElem?_getD,List.getD_eq_getElem?_getD,List.getElem?_append_left (by omega)]
  show(if wI (wAt (W++[w]) n)=j then some (wB (wAt (W++[w]) n))else fnd (W++[w]) j n)=(if wI (wAt W n)=j then some (wB (wAt W n))else fnd W j n)
  rw[e,l3c W w j n (by omega)]
theorem v3e (W:LW)(w:Ty.den TWr)(j:Int):fnd (W++[w]) j (W.length+1)=if wI w=j then some (wB w)else fnd W j W.length:=by
 have e:wAt (W++[w]) W.length=w:=by
  show(W++[w]).getD W.length _=w
  rw[List.getD_eq_getElem?_getD,List.getElem?_append_right (Nat.le_refl _),Nat.sub_self];rfl
 show(if wI (wAt (W++[w]) W.length)=j then some (wB (wAt (W++[w]) W.length))else fnd (W++[w]) j W.length)=_
 rw[e,l3c W w j _ (Nat.le_refl _)]
theorem t21 {b was now:List Int}(hb:b.length=256)(hw:was.length=256)(hn:now.length=256){k0:Nat}(hk:k0≤256)(he:b=now.take k0++was.drop k0):k3i [.s (r2b b),.s (r2b was),.s (r2b now)]=some (0,[.b true]):=by
 refine t3c ?_
 rw[n3d]
 have zb:ByteArray.size (r2b b)=256:=by rw[h3j,hb]
 have zw:ByteArray.size (r2b was)=256:=by rw[h3j,hw]
 have zn:ByteArray.size (r2b now)=256:=by rw[h3j,hn]
 have go: ∀m n:Nat,n≤k0→k0-n<m→a0b i3l m [.k 0,.s (r2b b),.s (r2b was),.s (r2b now),.n (n:Int)]=some (1,[.b true]):=by
  intro m
  induction m with
  |zero=>intro n _ hm;omega
  |succ m ih=>
   intro n hn1 hm
   have g0:(0:Int)≤(n:Int):=by omega
   have g1:(n:Int)≤((ByteArray.size (r2b b):Nat):Int):=by omega
   have gg: ∀z:Nat,z=256→(decide ((0:Int)≤(n:Int))&&decide ((n:Int)≤(z:Int)))=true:=fun z hz=>by rw[hz,dt g0,dt (by omega)];rfl
   have g3:=l3x now was n hn hw
   cases h:f0b (r2b b) ((r2b now).extract 0 n++(r2b was).extract n (Int.toNat ((ByteArray.size (r2b was):Nat):Int)))with
   |true=>exact c0a (n3z g0 g1 (gg _ zn) (gg _ zw) g3 h)
   |false=>
    have hne:n≠k0:=fun e=>by
     rw[ext2,e,←he,y2e]at h;cases h
    refine(v0e (m3s g0 g1 (gg _ zn) (gg _ zw) g3 h)).trans ?_
    rw[w1n n (by omega)]
    exact ih (n+1) (by omega) (by omega)
 exact go FU 0 (Nat.zero_le _) (b1w (by omega))
theorem iand7 (x:Int): ∃j:Nat,j<8∧iand .i64 x 7=(j:Int):=by
 have h:(BitVec.ofInt 64 x&&&BitVec.ofInt 64 7).toNat≤7:=by
  rw[BitVec.toNat_and]
  exact Nat.le_trans Nat.and_le_right (by decide)
 refine⟨(BitVec.ofInt 64 x&&&BitVec.ofInt 64 7).toNat,by omega,?_⟩
 show IntKind.wrap .i64 (((BitVec.ofInt 64 x&&&BitVec.ofInt 64 7).toNat:Nat):Int)=_
 exact w64 (by omega) (by omega)
def r8 {β:Type}(f:Nat→β):List β:=(List.range 8).map f
theorem o3m {β:Type}(f:Nat→β):(r8 f).length=8:=by unfold r8;rw[List.length_map,List.length_range]
theorem q3o {β:Type}(f:Nat→β)(d:β){j:Nat}(h:j<8):(r8 f).getD j d=f j:=by
 unfold r8;rw[List.getD_eq_getElem?_getD,List.getElem?_map,List.getElem?_range h];rfl
theorem i3t {β:Type}{f g:Nat→β}(h: ∀j,j<8→f j=g j):r8 f=r8 g:=List.map_congr_left fun j hj=>h j (List.mem_range.1 hj)
theorem p3k {β:Type}(f:Nat→β)(i:Nat)(v:β):(r8 f).set i v=r8 fun j=>if j=i then v else f j:=by
 apply List.ext_getElem?
 intro j
 rw[List.getElem?_set]
 unfold r8
 rw[List.getElem?_map,List.getElem?_map,List.length_map,List.length_range]
 by_cases h:j<8
 ·rw[List.getElem?_range h]
  by_cases e:i=j
  ·subst e;rw[if_pos rfl,if_pos h];show some v=some (if i=i then v else f i);rw[if_pos rfl]
  ·rw[if_neg e];show some (f j)=some (if j=i then v else f j);rw[if_neg (Ne.symm e)]
 ·rw[List.getElem?_eq_none (by rw[List.length_range];omega)]
  by_cases e:i=j
  ·subst e;rw[if_pos rfl,if_neg h];rfl
  ·rw[if_neg e];rfl
def tx (b:List Int):Ty.den TS:=r2b b
def nwB (s:DS)(j:Nat):List Int:=(fnd s.W (j:Int) s.W.length).getD (rB (kAt s.K j))
def suOf (s:DS):LT:=r8 fun j=>tx (rB (kAt s.K j))
def nwOf (s:DS):LT:=r8 fun j=>tx (nwB s j)
def bT:Ty.den TBo:=true
def isB (o:Option (List Int)):Ty.den TBo:=o.isSome
def frOf (s:DS):List (Ty.den TBo):=r8 fun j=>isB (fnd s.W (j:Int) s.W.length)
theorem inR8 {β:Type}(f:Nat→β){j:Nat}(h:j<8):inR (j:Int) (r8 f).length=true:=s2t (by omega) (by rw[o3m];omega)
section
variable (s:DS) (l:LC)
theorem lp7:o3s [.k 0,.l t0c l,.n 0,.n s.n,.b s.A,.n s.h,.b s.o,.l TS (r8 fun _=>Ty.dflt TS),.l TS (r8 fun _=>Ty.dflt TS),.l TBk s.K,.l TWr s.W]=some (0,[.l t0c l,.n s.n,.b s.A,.n s.h,.b s.o,.l TS (r8 fun _=>tx (List.replicate 256 0)),.l TS (r8 fun _=>tx (List.replicate 256 0)),.l TBk s.K,.l TWr s.W]):=by
 rw[t3a]
 have e0:(r8 fun _=>Ty.dflt TS)=r8 fun j=>if j<0 then tx (List.replicate 256 0)else Ty.dflt TS:=i3t fun j _=>by rw[if_neg (by omega)]
 have e8:(r8 fun _=>tx (List.replicate 256 0))=r8 fun j=>if j<8 then tx (List.replicate 256 0)else Ty.dflt TS:=i3t fun j h=>by rw[if_pos h]
 rw[e0,e8]
 refine b0a (st:=l3r) (fun i=>[.k 0,.l t0c l,.n (i:Int),.n s.n,.b s.A,.n s.h,.b s.o,.l TS (r8 fun j=>if j<i then tx (List.replicate 256 0)else Ty.dflt TS),.l TS (r8 fun j=>if j<i then tx (List.replicate 256 0)else Ty.dflt TS),.l TBk s.K,.l TWr s.W]) 8 (0,[.l t0c l,.n s.n,.b s.A,.n s.h,.b s.o,.l TS (r8 fun j=>if j<8 then tx (List.replicate 256 0)else Ty.dflt TS),.l TS (r8 fun j=>if j<8 then tx (List.replicate 256 0)else Ty.dflt TS),.l TBk s.K,.l TWr s.W]) (fun i hi=> ?_) (u3c (by omega) (by omega)) FU (b1w (by omega))
 have es:((r8 fun j=>if j<i then tx (List.replicate 256 0)else Ty.dflt TS)).set i (tx (List.replicate 256 0))=r8 fun j=>if j<i+1 then tx (List.replicate 256 0)else Ty.dflt TS:=by
  rw[p3k]
  refine i3t fun j _=> ?_
  by_cases e:j=i
  ·rw[if_pos e,if_pos (by omega)]
  ·rw[if_neg e]
   by_cases h:j<i
   ·rw[if_pos h,if_pos (by omega)]
   ·rw[if_neg h,if_neg (by omega)]
 have h2:inR (i:Int) (((r8 fun j=>if j<i then tx (List.replicate 256 0)else Ty.dflt TS)).set i (tx (List.replicate 256 0))).length=true:=by rw[es];exact inR8 _ hi
 have eg:(((r8 fun j=>if j<i then tx (List.replicate 256 0)else Ty.dflt TS)).set i (tx (List.replicate 256 0))).getD i (Ty.dflt TS)=tx (List.replicate 256 0):=by
  rw[es,q3o _ _ hi,if_pos (Nat.lt_succ_self _)]
 have:=r3x (l0:=l) (n1:=(i:Int)) (n2:=s.n) (b3:=s.A) (n4:=s.h) (b5:=s.o) (l6:=r8 fun j=>if j<i then tx (List.replicate 256 0)else Ty.dflt TS) (l7:=r8 fun j=>if j<i then tx (List.replicate 256 0)else Ty.dflt TS) (l8:=s.K) (l9:=s.W) (by omega) (by omega) (inR8 _ hi) h2 (inR8 _ hi)
 refine this.trans ?_
 show some (Step.go [.k 0,.l t0c l,.n (IntKind.wrap .i64 ((i:Int)+1)),.n s.n,.b s.A,.n s.h,.b s.o,.l TS (((r8 fun j=>if j<i then tx (List.replicate 256 0)else Ty.dflt TS)).set i (tx (List.replicate 256 0))),.l TS (((r8 fun j=>if j<i then tx (List.replicate 256 0)else Ty.dflt TS)).set i ((((r8 fun j=>if j<i then tx (List.replicate 256 0)else Ty.dflt TS)).set i (tx (List.replicate 256 0))).getD i (Ty.dflt TS))),.l TBk s.K,.l TWr s.W])=_
 rw[eg,es,w1n i (by omega)]
theorem lp19 (n1 n2:Int)(su nw:Nat→Ty.den TS):i3q [.k 0,.l t0c l,.n n1,.n n2,.n 0,.n s.n,.b s.A,.n s.h,.b s.o,.l TS (r8 su),.l TS (r8 nw),.l TBk s.K,.l TWr s.W]=some (0,[.l t0c l,.n n1,.n n2,.n s.n,.b s.A,.n s.h,.b s.o,.l TS (r8 nw),.l TS (r8 nw),.l TBk s.K,.l TWr s.W]):=by
 rw[q3f]
 have e0:r8 su=r8 fun j=>if j<0 then nw j else su j:=i3t fun j _=>by rw[if_neg (by omega)]
 have e8:(r8 fun j=>if j<8 then nw j else su j)=r8 nw:=i3t fun j h=>by rw[if_pos h]
 rw[e0]
 refine(b0a (st:=j3x) (fun i=>[.k 0,.l t0c l,.n n1,.n n2,.n (i:Int),.n s.n,.b s.A,.n s.h,.b s.o,.l TS (r8 fun j=>if j<i then nw j else su j),.l TS (r8 nw),.l TBk s.K,.l TWr s.W]) 8 (0,[.l t0c l,.n n1,.n n2,.n s.n,.b s.A,.n s.h,.b s.o,.l TS (r8 fun j=>if j<8 then nw j else su j),.l TS (r8 nw),.l TBk s.K,.l TWr s.W]) (fun i hi=> ?_) (r3c (by omega) (by omega)) FU (b1w (by omega))).trans (by rw[e8])
 have es:((r8 fun j=>if j<i then nw j else su j)).set i ((r8 nw).getD i (Ty.dflt TS))=r8 fun j=>if j<i+1 then nw j else su j:=by
  rw[q3o _ _ hi,p3k]
  refine i3t fun j _=> ?_
  by_cases e:j=i
  ·rw[if_pos e,if_pos (by omega),e]
  ·rw[if_neg e]
   by_cases h:j<i
   ·rw[if_pos h,if_pos (by omega)]
   ·rw[if_neg h,if_neg (by omega)]
 have:=q3h (l0:=l) (n1:=n1) (n2:=n2) (n3:=(i:Int)) (n4:=s.n) (b5:=s.A) (n6:=s.h) (b7:=s.o) (l8:=r8 fun j=>if j<i then nw j else su j) (l9:=r8 nw) (l10:=s.K) (l11:=s.W) (by omega) (by omega) (inR8 _ hi) (inR8 _ hi)
 refine this.trans ?_
 show some (Step.go [.k 0,.l t0c l,.n n1,.n n2,.n (IntKind.wrap .i64 ((i:Int)+1)),.n s.n,.b s.A,.n s.h,.b s.o,.l TS (((r8 fun j=>if j<i then nw j else su j)).set i ((r8 nw).getD i (Ty.dflt TS))),.l TS (r8 nw),.l TBk s.K,.l TWr s.W])=_
 rw[es,w1n i (by omega)]
end
theorem d17 (s:DS)(hw:s.W.length≤100000)(i:Int)(b:List Int):h3n [.n i,.l TB b,.n s.n,.b s.A,.n s.h,.b s.o,.l TBk s.K,.l TWr s.W]=some (0,[.n (t1c s i b).2,.n (t1c s i b).1.n,.b (t1c s i b).1.A,.n (t1c s i b).1.h,.b (t1c s i b).1.o,.l TBk (t1c s i b).1.K,.l TWr (t1c s i b).1.W]):=by
 unfold t1c
 cases h1:s.o with
 |true=>rw[if_pos rfl,←h1];exact r3t h1
 |false=>
  rw[if_neg (by decide)]
  by_cases h2:0≤i∧i<(s.K.length:Int)
  ·rw[if_pos h2]
   by_cases h3:256<b.length
   ·rw[if_pos h3,←h1];exact t3y h1 h2.1 h2.2 (by show(b.length:Int)>256;omega)
   rw[if_neg h3]
   have h3': ¬(b.length:Int)>256:=by omega
   have h4:(s.W.length+1)*264≤140737488355328:=by omega
   rw[←pad_eq (show b.length≤256 by omega)]
   cases h5:s.A with
   |true=>
    rw[if_pos rfl]
    by_cases h6:s.h=0
    ·rw[if_pos h6];exact s3w rfl h2.1 h2.2 h3' h4 rfl h6
    ·rw[if_neg h6];exact t3e rfl h2.1 h2.2 h3' h4 rfl h6
   |false=>rw[if_neg (by decide)];exact s3v rfl h2.1 h2.2 h3' h4 rfl
  ·rw[if_neg h2,←h1]
   by_cases h0:0≤i
   ·exact u3h h1 h0 (fun q=>h2 ⟨h0,q⟩)
   ·exact s3b h1 h0
theorem v3g (s:DS)(j:Nat)(b:List Int)(ho:s.o=false)(hj:j<s.K.length)(hb:b.length≤256):(t1c s (j:Int) b).1.W=s.W++[mkW (j:Int) (pad b)]:=by
 unfold t1c
 rw[ho,if_neg (by decide),if_pos ⟨by omega,by omega⟩,if_neg (by omega)]
 split
 ·split<;>rfl
 ·rfl
theorem d19n (s:DS)(hs:DH s)(hw:s.W.length≤100000)(F:LB)(hF:Wb F)(n:Int)(a:Bool)(h:Int):j3y [.l TB F,.n n,.b a,.n h,.b true,.l TBk s.K,.l TWr s.W]=some (1,[.n n,.b false,.n h,.b false,.l TBk (putF F s.W s.K s.W.length),.l TWr []]):=r3f rfl (d41 s hs.toDOk hw F hF _ _ _ _)
def pd (B:List Int)(i:Nat):List Int:=B.take i++List.replicate (256-i) 0
theorem u3l (B:List Int)(hB:B.length≤256)(i:Nat)(hi:i≤B.length):(pd B i).length=256:=by
 unfold pd;rw[List.length_append,List.length_take,List.length_replicate];omega
theorem pd_set (B:List Int)(hB:B.length≤256)(i:Nat)(hi:i<B.length):(pd B i).set i (B.getD i 0)=pd B (i+1):=by
 apply List.ext_getElem?
 intro j
 have hl:=u3l B hB i (by omega)
 have hl2:=u3l B hB (i+1) (by omega)
 have ht:(B.take i).length=i:=by rw[List.length_take];omega
 have ht2:(B.take (i+1)).length=i+1:=by rw[List.length_take];omega
 have eb:B.getD i 0=B[i]:=by rw[List.getD_eq_getElem?_getD,List.getElem?_eq_getElem hi];rfl
 rw[List.getElem?_set]
 unfold pd at*
 rcases Nat.lt_trichotomy j i with h|h|h
 ·rw[if_neg (by omega),List.getElem?_append_left (by omega),List.getElem?_append_left (by omega),List.getElem?_take_of_lt h,List.getElem?_take_of_lt (by omega)]
 ·subst h
  rw[if_pos rfl,if_pos (by omega),List.getElem?_append_left (by omega),List.getElem?_take_of_lt (by omega),List.getElem?_eq_getElem hi,eb]
 ·rw[if_neg (by omega),List.getElem?_append_right (by omega),List.getElem?_append_right (by omega),ht,ht2,List.getElem?_replicate,List.getElem?_replicate]
  by_cases q:j<256
  ·rw[if_pos (by omega),if_pos (by omega)]
  ·rw[if_neg (by omega),if_neg (by omega)]
theorem pd_pad (B:List Int):pd B B.length=pad B:=by unfold pd pad;rw[List.take_length]
section
variable (s:DS) (l:LC)
theorem lp27 (k:Nat)(hk:k<l.length)(B:List Int)(eB:B=cB (caAt l k))(hB':B.length≤256)(n2:Int)(su nw:LT)(fr:List (Ty.den TBo)):i3v [.k 0,.l t0c l,.n (k:Int),.n n2,.n 0,.n s.n,.b s.A,.n s.h,.b s.o,.l TS su,.l TS nw,.l TBo fr,.l TB (List.replicate 256 (0:Int)),.l TBk s.K,.l TWr s.W]=some (0,[.l t0c l,.n (k:Int),.n n2,.n s.n,.b s.A,.n s.h,.b s.o,.l TS su,.l TS nw,.l TBo fr,.l TB (pd B B.length),.l TBk s.K,.l TWr s.W]):=by
 rw[p3x]
 have hR:inR (k:Int) l.length=true:=s2t (by omega) (Int.ofNat_lt.2 hk)
 refine b0a (st:=j3p) (fun i=>[.k 0,.l t0c l,.n (k:Int),.n n2,.n (i:Int),.n s.n,.b s.A,.n s.h,.b s.o,.l TS su,.l TS nw,.l TBo fr,.l TB (pd B i),.l TBk s.K,.l TWr s.W]) B.length (0,[.l t0c l,.n (k:Int),.n n2,.n s.n,.b s.A,.n s.h,.b s.o,.l TS su,.l TS nw,.l TBo fr,.l TB (pd B B.length),.l TBk s.K,.l TWr s.W]) (fun i hi=> ?_) (q3j (by omega) hR (by show¬((B.length:Nat):Int)<((List.length (cB (caAt l k)):Nat):Int);rw[←eB];exact Int.lt_irrefl _)) FU (b1w (by omega))
 have hl:inR (i:Int) (List.length (α:=Ty.den TB) (pd B i))=true:=s2t (by omega) (by have:=u3l B hB' i (by omega);show(i:Int)<(((pd B i).length:Nat):Int);omega)
 have hi2:(i:Int)<((List.length (cB (caAt l k)):Nat):Int):=by rw[←eB];exact Int.ofNat_lt.2 hi
 have:=q3e (l0:=l) (n1:=(k:Int)) (n2:=n2) (n3:=(i:Int)) (n4:=s.n) (b5:=s.A) (n6:=s.h) (b7:=s.o) (l8:=su) (l9:=nw) (l10:=fr) (l11:=pd B i) (l12:=s.K) (l13:=s.W) (by omega) hR hi2 hl
 refine this.trans ?_
 show some (Step.go [.k 0,.l t0c l,.n (k:Int),.n n2,.n (IntKind.wrap .i64 ((i:Int)+1)),.n s.n,.b s.A,.n s.h,.b s.o,.l TS su,.l TS nw,.l TBo fr,.l TB ((pd B i).set i (List.getD (α:=Int) (cB (caAt l k)) i 0)),.l TBk s.K,.l TWr s.W])=_
 have ep:(pd B i).set i (List.getD (α:=Int) (cB (caAt l k)) i 0)=pd B (i+1):=by rw[←eB];exact pd_set B hB' i hi
 rw[ep,w1n i (by omega)]
end
theorem j3u (s:DS)(ho:s.o=false):(∃s1,h3e s=(s1,140,0)∧s1.o=true∧s1.K=s.K∧s1.W=s.W)∨(∃s1,h3e s=(s1,0,1)∧s1.o=false∧s1.K=putN s.W s.K s.W.length∧s1.W=[]):=by
 unfold h3e
 rw[ho,if_neg (by decide)]
 by_cases h2:s.A=true
 ·rw[if_pos h2]
  by_cases h3:s.h=0
  ·rw[if_pos h3];exact .inl ⟨_,rfl,rfl,rfl,rfl⟩
  ·rw[if_neg h3];exact .inr ⟨_,rfl,rfl,rfl,rfl⟩
 ·rw[if_neg h2];exact .inr ⟨_,rfl,rfl,rfl,rfl⟩
theorem of_KW {s t:DS}(hK:s.K=t.K)(hW:s.W=t.W):suOf s=suOf t∧nwOf s=nwOf t∧frOf s=frOf t:=by
 unfold suOf nwOf frOf nwB
 rw[hK,hW];exact⟨rfl,rfl,rfl⟩
theorem s3x {s t:DS}(hW:s.W=t.W)(h:OneW t):OneW s:=by
 unfold OneW at*;rw[hW];exact h
theorem wAt_app (W:LW)(w:Ty.den TWr){n:Nat}(h:n<W.length):wAt (W++[w]) n=wAt W n:=by
 show(W++[w]).getD n _=W.getD n _
 rw[List.getD_eq_getElem?_getD,List.getD_eq_getElem?_getD,List.getElem?_append_left h]
theorem w3f (W:LW)(w:Ty.den TWr):wAt (W++[w]) W.length=w:=by
 show(W++[w]).getD W.length _=w
 rw[List.getD_eq_getElem?_getD,List.getElem?_append_right (Nat.le_refl _),Nat.sub_self];rfl
theorem wr_of (s:DS)(h1:OneW s)(j:Nat)(b:List Int)(ho:s.o=false)(hj:j<s.K.length)(hb:b.length≤256)(hn:fnd s.W (j:Int) s.W.length=none):
  suOf (t1c s (j:Int) b).1=suOf s∧nwOf (t1c s (j:Int) b).1=(nwOf s).set j (tx (pad b))∧frOf (t1c s (j:Int) b).1=(frOf s).set j bT∧OneW (t1c s (j:Int) b).1:=by
 have eK:=l3j s (j:Int) b
 have eW:=v3g s j b ho hj hb
 generalize (t1c s (j:Int) b).1=t at eK eW
 have eL:t.W.length=s.W.length+1:=by rw[eW,List.length_append];rfl
 have ef: ∀i:Nat,fnd t.W (i:Int) t.W.length=if i=j then some (pad b)else fnd s.W (i:Int) s.W.length:=fun i=>by
  rw[eL,eW,v3e]
  by_cases e:i=j
  ·rw[if_pos e,if_pos (show wI (mkW (j:Int) (pad b))=(i:Int)from by show(j:Int)=(i:Int);omega)];rfl
  ·rw[if_neg e,if_neg (show¬wI (mkW (j:Int) (pad b))=(i:Int)from by show¬(j:Int)=(i:Int);omega)]
 refine⟨by unfold suOf;rw[eK],?_,?_,fun n hn1=> ?_⟩
 ·unfold nwOf;rw[p3k]
  refine i3t fun i _=> ?_
  unfold nwB;rw[ef,eK]
  by_cases e:i=j
  ·rw[if_pos e,if_pos e];rfl
  ·rw[if_neg e,if_neg e]
 ·unfold frOf;rw[p3k]
  refine i3t fun i _=> ?_
  rw[ef]
  by_cases e:i=j
  ·rw[if_pos e,if_pos e];rfl
  ·rw[if_neg e,if_neg e]
 ·rw[eW]
  rw[eL]at hn1
  rcases Nat.lt_or_ge n s.W.length with q|q
  ·rw[wAt_app _ _ q,l3c _ _ _ _ (by omega)];exact h1 n q
  ·have:n=s.W.length:=by omega
   subst this
   rw[w3f,l3c _ _ _ _ (Nat.le_refl _)];exact hn
theorem r3n (s:DS)(hs:DOk s){t:DS}(hK:t.K=putN s.W s.K s.W.length)(hW:t.W=[]):suOf t=nwOf s∧nwOf t=nwOf s∧frOf t=[false,false,false,false,false,false,false,false]∧OneW t:=by
 have e: ∀j,rB (kAt t.K j)=nwB s j:=fun j=>by rw[hK];exact s3g s hs j _ (Nat.le_refl _)
 have e0: ∀j:Nat,fnd t.W (j:Int) t.W.length=none:=fun j=>by rw[hW];rfl
 refine⟨i3t fun j _=>by rw[e],i3t fun j _=>by unfold nwB at*;rw[e0,←e];rfl,?_,fun n h=>by rw[hW]at h;cases h⟩
 unfold frOf
 rw[i3t (g:=fun _=>isB none) fun j _=>by rw[e0]]
 rfl
abbrev kEnv (s:DS):List Dat:=[.n s.n,.b s.A,.n s.h,.b s.o,.l TS (suOf s),.l TS (nwOf s),.l TBo (frOf s),.l TBk s.K,.l TWr s.W]
structure WrR (l:LC)(k:Nat)(p t:DS)(I:Int)(su:LT)(e:Int)(L:LB):Prop where
 ok:DH t
 one:OneW t
 len:t.W.length≤p.W.length+1
 k8:t.K.length=p.K.length
 e17:h3n [.n I,.l TB (cB (caAt l k)),.n p.n,.b p.A,.n p.h,.b p.o,.l TBk p.K,.l TWr p.W]=some (0,[.n e,.n t.n,.b t.A,.n t.h,.b t.o,.l TBk t.K,.l TWr t.W])
 e27:i3v [.k 0,.l t0c l,.n (k:Int),.n I,.n 0,.n t.n,.b t.A,.n t.h,.b t.o,.l TS su,.l TS (nwOf p),.l TBo (frOf p),.l TB (List.replicate 256 (0:Int)),.l TBk p.K,.l TWr t.W]=some (0,[.l t0c l,.n (k:Int),.n I,.n t.n,.b t.A,.n t.h,.b t.o,.l TS su,.l TS (nwOf p),.l TBo (frOf p),.l TB L,.l TBk p.K,.l TWr t.W])
 su':suOf t=suOf p
 nw:nwOf t=(nwOf p).set I.toNat (tx L)
 fr:frOf t=(frOf p).set I.toNat bT
 K:t.K=p.K
theorem wrR (l:LC)(k:Nat)(hk:k<l.length)(ok:okC (caAt l k))(p:DS)(hp:DH p)(h1:OneW p)(hw:p.W.length≤1000)(h8:p.K.length=8)(ho:p.o=false)(j:Nat)(hj:j<8)(hn:fnd p.W (j:Int) p.W.length=none)(hB:(cB (caAt l k)).length≤256)(su:LT)(I:Int)(hI:I=(j:Int)):
  ∃t e L,WrR l k p t I su e L:=by
 subst hI
 obtain⟨B,eB⟩: ∃B:List Int,B=cB (caAt l k):=⟨_,rfl⟩
 have hB':B.length≤256:=by rw[eB];exact hB
 obtain⟨a1,a2,a3⟩:=l3y p hp (j:Int) B (by rw[eB];exact ok.wb)
 obtain⟨b1,b2,b3,b4⟩:=wr_of p h1 j B ho (by omega) hB' hn
 have c1:=d17 p (by omega) (j:Int) B
 have eK:=l3j p (j:Int) B
 generalize t1c p (j:Int) B=R at*
 obtain⟨t,e⟩:=R
 refine⟨t,e,pd B B.length,a1,b4,a2,a3,?_,?_,b1,?_,b3,eK⟩
 ·have: ∀b':LB,b'=B→h3n [.n (j:Int),.l TB b',.n p.n,.b p.A,.n p.h,.b p.o,.l TBk p.K,.l TWr p.W]=some (0,[.n e,.n t.n,.b t.A,.n t.h,.b t.o,.l TBk t.K,.l TWr t.W]):=fun b' h=>by subst h;exact c1
  exact this _ eB.symm
 ·have eK:t.K=p.K:=eK
  have:=lp27 t l k hk B eB hB' (j:Int) su (nwOf p) (frOf p)
  rw[eK]at this
  exact this
 ·rw[pd_pad];exact b2
section
variable (l:LC) (hl:l.length≤80) (hc: ∀c∈l,okC c)
include hl hc
theorem l13: ∀m k:Nat,∀s:DS,DH s→OneW s→s.K.length=8→s.W.length≤k→k≤l.length→l.length-k<m→ ∃t:DS,DH t∧OneW t∧t.K.length=8∧t.W.length≤80∧
  a0b h3f m ([.k 0,.l t0c l,.n (k:Int)]++kEnv s)=some (0,.l t0c l::kEnv t):=by
 intro m
 induction m with
 |zero=>intro k s _ _ _ _ _ hm;omega
 |succ m ih=>
  intro k s hs h1 h8 hw hk hm
  by_cases q:k<l.length
  ·cases ho:s.o with
   |true=>exact⟨s,hs,h1,h8,by omega,c0a (m3z (by omega) (Int.ofNat_lt.2 q) ho)⟩
   |false=>
    have ok:=hc _ (t2c (d:=Ty.dflt t0c) q)
    obtain⟨j,hj,ej⟩:=iand7 (cI (caAt l k))
    obtain⟨I,eI⟩: ∃I:Int,I=iand .i64 (cI (caAt l k)) 7:=⟨_,rfl⟩
    have eJ:I=(j:Int):=eI.trans ej
    have hR:inR (iand .i64 (cI (caAt l k)) 7) (frOf s).length=true:=by rw[ej];exact inR8 _ hj
    have hg:(frOf s).getD (Int.toNat (iand .i64 (cI (caAt l k)) 7)) false=(fnd s.W (j:Int) s.W.length).isSome:=by rw[ej];exact q3o _ _ hj
    have q0:=Int.ofNat_lt.2 q
    have k0:(0:Int)≤(k:Int):=by omega
    have hkR:inR (k:Int) l.length=true:=s2t k0 q0
    have ew:=w1n k (by omega)
    have fin: ∀(p t:DS) (e:Int) (L:LB),WrR l k p t (iand .i64 (cI (caAt l k)) 7) (suOf p) e L→p.K.length=8→p.W.length≤k→ ∃u:DS,DH u∧OneW u∧u.K.length=8∧u.W.length≤80∧
      a0b h3f m [.k 0,.l t0c l,.n (IntKind.wrap .i64 ((k:Int)+1)),.n t.n,.b t.A,.n t.h,.b t.o,.l TS (suOf p),.l TS (List.set (nwOf p) (Int.toNat (iand .i64 (cI (caAt l k)) 7)) (tx L)),.l TBo (List.set (frOf p) (Int.toNat (iand .i64 (cI (caAt l k)) 7)) bT),.l TBk p.K,.l TWr t.W]=some (0,.l t0c l::kEnv u):=by
     intro p t e L w p8 pw
     obtain⟨u,a1,a2,a3,a4,nx⟩:=ih (k+1) t w.ok w.one (w.k8.trans p8) (by have:=w.len;omega) (by omega) (by omega)
     refine⟨u,a1,a2,a3,a4,?_⟩
     rw[ew,←w.su',←w.nw,←w.fr,←w.K];exact nx
    have syn: ∀(s1:DS),DH s1→OneW s1→s1.K.length=8→s1.W.length≤k→ ∀e',a0b h3f m [.k 0,.l t0c l,.n (IntKind.wrap .i64 ((k:Int)+1)),.n s1.n,.b s1.A,.n s1.h,.b s1.o,.l TS (suOf s1),.l TS (nwOf s1),.l TBo (frOf s1),.l TBk s1.K,.l TWr s1.W]=e'→ ∃u:DS,DH u∧OneW u∧u.K.length=8∧u.W.length≤80∧e'=some (0,.l t0c l::kEnv u):=by
     intro s1 b1 b2 b3 b4 e' he
     obtain⟨u,a1,a2,a3,a4,nx⟩:=ih (k+1) s1 b1 b2 b3 (by omega) (by omega) (by omega)
     refine⟨u,a1,a2,a3,a4,?_⟩
     rw[←he,ew];exact nx
    cases hf:(fnd s.W (j:Int) s.W.length).isSome with
    |true=>
     rw[hf]at hg
     rcases j3u s ho with⟨s1,e,o1,K1,W1⟩|⟨s1,e,o1,K1,W1⟩
     ·have ed:=d16 s hs (by omega)
      have okS:=i3n s hs
      rw[e]at ed okS
      obtain⟨f1,f2,f3⟩:=of_KW K1 W1
      obtain⟨u,a1,a2,a3,a4,nx⟩:=syn s1 okS.1 (s3x W1 h1) (okS.2.2.trans h8) (by rw[W1];exact hw) _ rfl
      rw[f1,f2,f3,W1]at nx
      exact⟨u,a1,a2,a3,a4,(v0e (q3s k0 q0 ho hR hg ed (show¬(140:Int)=0 by decide) o1)).trans nx⟩
     ·have ed:=d16 s hs (by omega)
      have okS:=i3n s hs
      rw[e]at ed okS
      have w0:s1.W.length≤k:=by rw[W1];exact Nat.zero_le _
      have k8:s1.K.length=8:=okS.2.2.trans h8
      obtain⟨g1,g2,g3,g4⟩:=r3n s hs.toDOk K1 W1
      have e19:=lp19 s1 l (k:Int) (iand .i64 (cI (caAt l k)) 7) (fun j=>tx (rB (kAt s.K j))) (fun j=>tx (nwB s j))
      by_cases hB:(cB (caAt l k)).length≤256
      ·obtain⟨t,e2,L,w⟩:=wrR l k q ok s1 okS.1 g4 (by omega) k8 o1 j hj (by rw[W1];rfl) hB (suOf s1) _ ej
       obtain⟨u,a1,a2,a3,a4,nx⟩:=fin s1 t e2 L w k8 w0
       have e17:=w.e17
       have e27:=w.e27
       rw[g1,g2,g3]at e27 nx
       have hB': ¬((cB (caAt l k)).length:Int)>256:=by omega
       exact⟨u,a1,a2,a3,a4,(v0e (p3u k0 q0 ho hR hg ed rfl e19 o1 hkR hB' e17 e27 (s2t (by rw[ej];omega) (by rw[ej];unfold nwOf;rw[o3m];omega)) (s2t (by rw[ej];omega) (by rw[ej];show(j:Int)<8;omega)))).trans nx⟩
      ·obtain⟨u,a1,a2,a3,a4,nx⟩:=syn s1 okS.1 g4 k8 w0 _ rfl
       rw[g1,g2,g3]at nx
       exact⟨u,a1,a2,a3,a4,(v0e (q3z k0 q0 ho hR hg ed rfl e19 o1 hkR (by show((cB (caAt l k)).length:Int)>256;omega))).trans nx⟩
    |false=>
     rw[hf]at hg
     have hn:fnd s.W (j:Int) s.W.length=none:=by cases h:fnd s.W (j:Int) s.W.length with|none=>rfl|some b=>rw[h]at hf;cases hf
     by_cases h4:Int.tmod (cK (caAt l k)) 4=0
     ·skip
      rcases j3u s ho with⟨s1,e,o1,K1,W1⟩|⟨s1,e,o1,K1,W1⟩
      ·have ed:=d16 s hs (by omega)
       have okS:=i3n s hs
       rw[e]at ed okS
       obtain⟨f1,f2,f3⟩:=of_KW K1 W1
       obtain⟨u,a1,a2,a3,a4,nx⟩:=syn s1 okS.1 (s3x W1 h1) (okS.2.2.trans h8) (by rw[W1];exact hw) _ rfl
       rw[f1,f2,f3,W1]at nx
       exact⟨u,a1,a2,a3,a4,(v0e (m3o k0 q0 ho hR hg h4 ed (show¬(140:Int)=0 by decide) o1)).trans nx⟩
      ·have ed:=d16 s hs (by omega)
       have okS:=i3n s hs
       rw[e]at ed okS
       have w0:s1.W.length≤k:=by rw[W1];exact Nat.zero_le _
       have k8:s1.K.length=8:=okS.2.2.trans h8
       obtain⟨g1,g2,g3,g4⟩:=r3n s hs.toDOk K1 W1
       have e19:=lp19 s1 l (k:Int) (iand .i64 (cI (caAt l k)) 7) (fun j=>tx (rB (kAt s.K j))) (fun j=>tx (nwB s j))
       by_cases hB:(cB (caAt l k)).length≤256
       ·obtain⟨t,e2,L,w⟩:=wrR l k q ok s1 okS.1 g4 (by omega) k8 o1 j hj (by rw[W1];rfl) hB (suOf s1) _ ej
        obtain⟨u,a1,a2,a3,a4,nx⟩:=fin s1 t e2 L w k8 w0
        have e17:=w.e17
        have e27:=w.e27
        rw[g1,g2,g3]at e27 nx
        have hB': ¬((cB (caAt l k)).length:Int)>256:=by omega
        exact⟨u,a1,a2,a3,a4,(v0e (o3e k0 q0 ho hR hg h4 ed rfl e19 o1 hkR hB' e17 e27 (s2t (by rw[ej];omega) (by rw[ej];unfold nwOf;rw[o3m];omega)) (s2t (by rw[ej];omega) (by rw[ej];show(j:Int)<8;omega)))).trans nx⟩
       ·obtain⟨u,a1,a2,a3,a4,nx⟩:=syn s1 okS.1 g4 k8 w0 _ rfl
        rw[g1,g2,g3]at nx
        exact⟨u,a1,a2,a3,a4,(v0e (n3k k0 q0 ho hR hg h4 ed rfl e19 o1 hkR (by show((cB (caAt l k)).length:Int)>256;omega))).trans nx⟩
     ·by_cases hB:(cB (caAt l k)).length≤256
      ·obtain⟨t,e,L,w⟩:=wrR l k q ok s hs h1 (by omega) h8 ho j hj hn hB (suOf s) _ ej
       obtain⟨u,a1,a2,a3,a4,nx⟩:=fin s t e L w h8 hw
       have hB': ¬((cB (caAt l k)).length:Int)>256:=by omega
       have e17:=w.e17
       exact⟨u,a1,a2,a3,a4,(v0e (m3q k0 q0 ho hR hg h4 hB' e17 w.e27 (s2t (by rw[ej];omega) (by rw[ej];unfold nwOf;rw[o3m];omega)) hR)).trans nx⟩
      ·obtain⟨u,a1,a2,a3,a4,nx⟩:=syn s hs h1 h8 hw _ rfl
       exact⟨u,a1,a2,a3,a4,(v0e (n3t k0 q0 ho hR hg h4 (by show((cB (caAt l k)).length:Int)>256;omega))).trans nx⟩
  ·exact⟨s,hs,h1,h8,by omega,c0a (n3n (by omega) (by omega))⟩
end
theorem torn_of (s:DS)(hs:DOk s)(h1:OneW s)(F:LB)(hF:Wb F)(i:Nat)(hi:i<s.K.length): ∃k0,k0≤256∧rB (kAt (putF F s.W s.K s.W.length) i)=(nwB s i).take k0++(rB (kAt s.K i)).drop k0∧(nwB s i).length=256∧(rB (kAt s.K i)).length=256∧(rB (kAt (putF F s.W s.K s.W.length) i)).length=256∧
  (fnd s.W (i:Int) s.W.length=none→rB (kAt (putF F s.W s.K s.W.length) i)=rB (kAt s.K i)):=by
 have p:=r3m s hs h1 F hF i s.W.length (Nat.le_refl _)
 have lk:(rB (kAt s.K i)).length=256:=(hs.kb _ (t2c (d:=Ty.dflt TBk) hi)).2
 have l':(rB (kAt (putF F s.W s.K s.W.length) i)).length=256:=(j3q s hs F hF s.W.length (Nat.le_refl _) _ (t2c (d:=Ty.dflt TBk) (i:=i) (by rw[h3h];exact hi))).2
 unfold nwB
 cases hf:fnd s.W (i:Int) s.W.length with
 |none=>
  rw[hf]at p
  have p:kAt (putF F s.W s.K s.W.length) i=kAt s.K i:=p
  exact⟨0,by omega,by rw[p];rfl,lk,lk,l',fun _=>by rw[p]⟩
 |some x=>
  rw[hf]at p
  obtain⟨f,f0,f1,e⟩:=p
  have lx:x.length=256:=by
   have: ∀n,n≤s.W.length→ ∀b,fnd s.W (i:Int) n=some b→b.length=256:=by
    intro n
    induction n with
    |zero=>intro _ b h;cases h
    |succ n ih=>
     intro hn b h
     have h:(if wI (wAt s.W n)=(i:Int)then some (wB (wAt s.W n))else fnd s.W (i:Int) n)=some b:=h
     split at h
     ·cases h;exact(hs.wb _ (t2c (by omega))).2
     ·exact ih (by omega) b h
   exact this _ (Nat.le_refl _) _ hf
  by_cases q:f=255
  ·refine⟨256,by omega,?_,lx,lk,l',fun h=>by cases h⟩
   rw[e];unfold putK;rw[if_pos q]
   show x=x.take 256++(rB (kAt s.K i)).drop 256
   rw[List.take_of_length_le (by omega),List.drop_eq_nil_of_le (by omega),List.append_nil]
  ·refine⟨f.toNat,by omega,?_,lx,lk,l',fun h=>by cases h⟩
   rw[e];unfold putK;rw[if_neg q];rfl
theorem l38 (s:DS)(hs:DH s)(h1:OneW s)(h8:s.K.length=8)(F:LB)(hF:Wb F)(n:Int)(h:Int):k3y [.k 0,.n 0,.n n,.b false,.n h,.b false,.l TS (suOf s),.l TS (nwOf s),.l TBo (frOf s),.l TBk (putF F s.W s.K s.W.length),.l TWr []]=some (0,[]):=by
 rw[q3r]
 refine b0a (st:=i3w) (fun i=>[.k 0,.n (i:Int),.n n,.b false,.n h,.b false,.l TS (suOf s),.l TS (nwOf s),.l TBo (frOf s),.l TBk (putF F s.W s.K s.W.length),.l TWr []]) 8 (0,[]) (fun i hi=> ?_) (m3r (by omega) (by omega)) FU (b1w (by omega))
 show _=some (Step.go [.k 0,.n ((i+1:Nat):Int),.n n,.b false,.n h,.b false,.l TS (suOf s),.l TS (nwOf s),.l TBo (frOf s),.l TBk (putF F s.W s.K s.W.length),.l TWr []])
 rw[←w1n i (by omega)]
 have e20:=d20 ⟨n,false,h,false,putF F s.W s.K s.W.length,[]⟩ (Nat.zero_le _) (i:Int)
 have er:j3k ⟨n,false,h,false,putF F s.W s.K s.W.length,[]⟩ (i:Int)=(some (rB (kAt (putF F s.W s.K s.W.length) i)),0):=by
  unfold j3k
  rw[if_neg (show¬(false=true) by decide),if_pos ⟨by omega,by show(i:Int)<(((putF F s.W s.K s.W.length).length:Nat):Int);rw[h3h];omega⟩]
  rfl
 rw[er]at e20
 obtain⟨k0,hk0,et,ln,lw,lb,hno⟩:=torn_of s hs.toDOk h1 F hF i (by omega)
 have e21:=t21 lb lw ln hk0 et
 have gs:(suOf s).getD i (Ty.dflt TS)=tx (rB (kAt s.K i)):=q3o _ _ hi
 have gn':(nwOf s).getD i (Ty.dflt TS)=tx (nwB s i):=q3o _ _ hi
 have gf:(frOf s).getD i false=isB (fnd s.W (i:Int) s.W.length):=q3o _ _ hi
 have e21':k3i [.s (r2b (rB (kAt (putF F s.W s.K s.W.length) i))),.s ((suOf s).getD i (Ty.dflt TS)),.s ((nwOf s).getD i (Ty.dflt TS))]=some (0,[.b true]):=by rw[gs,gn'];exact e21
 cases hf:fnd s.W (i:Int) s.W.length with
 |none=>
  rw[hf]at gf
  have es:f0b (r2b (rB (kAt (putF F s.W s.K s.W.length) i))) ((suOf s).getD i (Ty.dflt TS))=true:=by rw[gs,hno hf];exact y2e _
  exact p3q (by omega) (by omega) e20 rfl (inR8 _ hi) (inR8 _ hi) e21' rfl (inR8 _ hi) gf es
 |some x=>
  rw[hf]at gf
  exact q3w (by omega) (by omega) e20 rfl (inR8 _ hi) (inR8 _ hi) e21' rfl (inR8 _ hi) gf
theorem W4_all (l:LC)(n:Int)(hw:wfD (.sl t0c) l=true)(hn:wfD (.int .i64) n=true):(s3a [.l t0c l,.n n]).sel=some true:=by
 have hi:=wfi hn
 simp[IntKind.min,IntKind.max,IntKind.bits,IntKind.signed]at hi
 obtain⟨x,e,hx⟩:=l6x l
 cases x with
 |true=>exact v3s e rfl
 |false=>
  by_cases h:(l.length:Int)>40
  ·exact w3g e rfl h
  ·have hc: ∀c∈l,okC c:=fun c q=>okC_wf (y1u hw c q)
   have hN:=t3h (n:=8) (by omega)
   have hl40:l.length≤80:=by omega
   obtain⟨s,es⟩: ∃s:DS,s=⟨0,decide (n≥0),n,false,(sNew 8).K,[]⟩:=⟨_,rfl⟩
   have k8:s.K.length=8:=by rw[es];exact List.length_replicate
   have hs:DH s:=by rw[es];exact⟨⟨hN.kb,(fun w hw=>by cases hw),(fun w hw=>by cases hw),(fun q=>of_decide_eq_true q),hN.kl⟩,by show n≤9223372036854775807;omega⟩
   have h1:OneW s:=fun i hi=>by rw[es]at hi;cases hi
   have ek: ∀j,j<8→rB (kAt s.K j)=List.replicate 256 0:=fun j hj=>by
    have:kAt s.K j=z256:=by
     rw[es]
     show(List.replicate 8 z256).getD j _=z256
     rw[List.getD_eq_getElem?_getD,List.getElem?_replicate,if_pos hj];rfl
    rw[this];rfl
   have esu:suOf s=r8 fun _=>tx (List.replicate 256 0):=i3t fun j hj=>by rw[ek j hj]
   have enw:nwOf s=r8 fun _=>tx (List.replicate 256 0):=i3t fun j hj=>by
    unfold nwB
    have:fnd s.W (j:Int) s.W.length=none:=by rw[es];rfl
    rw[this];show tx (rB (kAt s.K j))=_;rw[ek j hj]
   have efr:frOf s=[false,false,false,false,false,false,false,false]:=by rw[es];rfl
   have e8:=d8 (n:=8) (by omega)
   have e7:=lp7 s l
   obtain⟨t,b1,b2,b3,b4,e13⟩:=l13 l hl40 hc FU 0 s hs h1 k8 (by rw[es];exact Nat.zero_le _) (Nat.zero_le _) (b1w (by omega))
   rw[←q3m]at e13
   have e13:k3u [.k 0,.l t0c l,.n 0,.n s.n,.b s.A,.n s.h,.b s.o,.l TS (suOf s),.l TS (nwOf s),.l TBo (frOf s),.l TBk s.K,.l TWr s.W]=some (0,.l t0c l::kEnv t):=e13
   rw[esu,enw,efr]at e13
   rw[es]at e7 e13
   by_cases h0:(l.length:Int)>0
   ·have okc:=hc _ (t2c (d:=Ty.dflt t0c) (i:=0) (by omega))
    have hF:Wb (cF (caAt l 0)):=okc.wf
    exact w3b e rfl h e8 e7 e13 h0 (d19n t b1 (by omega) (cF (caAt l 0)) hF t.n false t.h) (l38 t b1 b2 b3 (cF (caAt l 0)) hF t.n t.h)
   ·have hF:Wb ([]:List Int):=fun x hx=>by cases hx
    exact v3y e rfl h e8 e7 e13 h0 (d19n t b1 (by omega) [] hF t.n false t.h) (l38 t b1 b2 b3 [] hF t.n t.h)
def p3v (d:List Dat):Bool:=wfD (.sl t0c) (gl t0c d 1)
def p4v (d:List Dat):Bool:=wfD (.sl t0c) (gl t0c d 0)&&wfD (.int .i64) (gn d 1)
def S_k3:BSh:={args:=[.int .i64 0,.imm t0c 1],outs:=[(.bool 0,[])]}
def v3z:OpA:=p3n [.n,.l t0c] (p3v)
def cs_k3:FuncId→Option a0q:=a0s 3 (S_k3.k v3z) m3w
theorem g3o:CsOk Try.prog cs_k3:=csA i3a (l3u (op:=v3z) (args:=[.int .i64 0,.imm t0c 1]) i3h k3c false (ls:=(lsM [(5,Bx_3_5)] 0)) (lsE (lsC (h3d v3m) (atF) lsZ)) fun env x he=>by
 obtain⟨rfl,h,hp⟩:=j3s he
 refine⟨rfl,?_⟩
 obtain⟨x0,_,rfl,h0⟩:=fits_n h
 obtain⟨x1,_,rfl,h1⟩:=fits_l h0
 cases o3v h1
 rw[←lawB_lk];exact W3_all _ _ hp)
def S_k4:BSh:={args:=[.imm t0c 0,.int .i64 1],outs:=[(.bool 0,[])]}
def op_k4:OpA:=p3n [.l t0c,.n] (p4v)
def cs_k4:FuncId→Option a0q:=a0s 4 (S_k4.k op_k4) cs_k3
theorem g3l:CsOk Try.prog cs_k4:=csA g3o (l3u (op:=op_k4) (args:=[.imm t0c 0,.int .i64 1]) h3q k3c false (ls:=(lsM [(7,Bx_4_7),(13,s3l),(38,u3n)] 0)) (lsE (lsC (h3d u3w) (atF) (lsC (h3d o3n) (atF) (lsC (h3d p3e) (atF) lsZ)))) fun env x he=>by
 obtain⟨rfl,h,hp⟩:=j3s he
 refine⟨rfl,?_⟩
 obtain⟨x0,_,rfl,h0⟩:=fits_l h
 obtain⟨x1,_,rfl,h1⟩:=fits_n h0
 cases o3v h1
 obtain⟨q1,q2⟩:=Bool.and_eq_true_iff.1 hp
 rw[←lawB_lk];exact W4_all _ _ q1 q2)
def ev_W5:List Dat→Tree Bool:=evW cs_k4 5 ls0 []
theorem W5_law (env:List Dat)(h:(ev_W5 env).sel=some true){w:World}{aa:Array Value}(ha:LRel R0 (b0k w) (instL [] env) aa):
  Calls Try.prog 5 aa w fun e w'=>e=.returned (.bool true)∧Below w.heap.size w w':=evW_law g3l (LsOk.none _ _ _) env h ha
theorem u3x {n0:Int}{b1:Bool}{n2:Int}{b3:Bool}{l4:List (Ty.den TBk)}{l5:List (Ty.den TWr)}{n6:Int}{b7:Bool}{n8:Int}{b9:Bool}{l10:List (Ty.den TBk)}{l11:List (Ty.den TWr)}{n12:Int}{b13:Bool}{n14:Int}{b15:Bool}{l16:List (Ty.den TBk)}{l17:List (Ty.den TWr)}{b18 b19 b20:Bool}(h0:(k3b [.n (5000:Int)])=(some (0,[.n n0,.b b1,.n n2,.b b3,.l TBk l4,.l TWr l5])))(h1:((↑(List.length l4):Int)=(4096:Int)))(h2:(k3b [.n (-1:Int)])=(some (0,[.n n6,.b b7,.n n8,.b b9,.l TBk l10,.l TWr l11])))(h3:((↑(List.length l10):Int)=(0:Int)))(h4:(k3b [.n (0:Int)])=(some (0,[.n n12,.b b13,.n n14,.b b15,.l TBk l16,.l TWr l17])))(h5:(b15=false))(h6:(¬(0:Int)<(↑(List.length l16):Int)))(h7:(v3z [.n (3:Int),.l t0c (List.set (List.set (List.set (List.set (List.set (List.set (List.set (List.set (List.set (List.set (List.set (List.set (List.set (List.set (List.set (List.set (List.set (List.set (List.set (List.set (List.set (List.set (List.set (List.set (List.replicate 24 (Ty.dflt t0c)) 0 ((0:Int),(0:Int),[(97:Int),(98:Int)],[])) 1 ((1:Int),(1:Int),List.replicate 257 (0:Int),[])) 2 ((2:Int),(1:Int),List.take 256 (List.drop 1 (List.replicate 257 (0:Int))),[])) 3 ((0:Int),(-1:Int),[],[])) 4 ((0:Int),(3:Int),[],[])) 5 ((3:Int),(0:Int),[],[])) 6 ((0:Int),(0:Int),[(120:Int),(121:Int),(122:Int)],[])) 7 ((0:Int),(0:Int),[(112:Int),(113:Int)],[])) 8 ((0:Int),(2:Int),[(114:Int)],[])) 9 ((5:Int),(1:Int),[],[])) 10 ((0:Int),(2:Int),[(115:Int)],[])) 11 ((3:Int),(0:Int),[],[])) 12 ((0:Int),(0:Int),[],[])) 13 ((7:Int),(0:Int),[],[(255:Int),(1:Int),(0:Int),(254:Int)])) 14 ((5:Int),(0:Int),[],[])) 15 ((0:Int),(1:Int),[(116:Int)],[])) 16 ((7:Int),(0:Int),[],[(255:Int)])) 17 ((7:Int),(0:Int),[],[])) 18 ((8:Int),(1:Int),[(117:Int)],[])) 19 ((5:Int),(3:Int),[],[])) 20 ((5:Int),(-1:Int),[],[])) 21 ((3:Int),(0:Int),[],[])) 22 ((6:Int),(0:Int),[],[])) 23 ((8:Int),(0:Int),[],[]))])=(some (0,[.b b18])))(h8:(b18=true))(h9:(v3z [.n (0:Int),.l t0c (List.set (List.set (List.set (List.set (List.set (List.set (List.set (List.set (List.set (List.set (List.set (List.set (List.set (List.set (List.set (List.set (List.set (List.set (List.set (List.set (List.set (List.set (List.set (List.set (List.replicate 24 (Ty.dflt t0c)) 0 ((0:Int),(0:Int),[(97:Int),(98:Int)],[])) 1 ((1:Int),(1:Int),List.replicate 257 (0:Int),[])) 2 ((2:Int),(1:Int),List.take 256 (List.drop 1 (List.replicate 257 (0:Int))),[])) 3 ((0:Int),(-1:Int),[],[])) 4 ((0:Int),(3:Int),[],[])) 5 ((3:Int),(0:Int),[],[])) 6 ((0:Int),(0:Int),[(120:Int),(121:Int),(122:Int)],[])) 7 ((0:Int),(0:Int),[(112:Int),(113:Int)],[])) 8 ((0:Int),(2:Int),[(114:Int)],[])) 9 ((5:Int),(1:Int),[],[])) 10 ((0:Int),(2:Int),[(115:Int)],[])) 11 ((3:Int),(0:Int),[],[])) 12 ((0:Int),(0:Int),[],[])) 13 ((7:Int),(0:Int),[],[(255:Int),(1:Int),(0:Int),(254:Int)])) 14 ((5:Int),(0:Int),[],[])) 15 ((0:Int),(1:Int),[(116:Int)],[])) 16 ((7:Int),(0:Int),[],[(255:Int)])) 17 ((7:Int),(0:Int),[],[])) 18 ((8:Int),(1:Int),[(117:Int)],[])) 19 ((5:Int),(3:Int),[],[])) 20 ((5:Int),(-1:Int),[],[])) 21 ((3:Int),(0:Int),[],[])) 22 ((6:Int),(0:Int),[],[])) 23 ((8:Int),(0:Int),[],[]))])=(some (0,[.b b19])))(h10:(b19=true))(h11:(op_k4 [.l t0c [((1:Int),(1:Int),[(97:Int)],[(3:Int)]),((1:Int),(1:Int),[(98:Int)],[]),((0:Int),(2:Int),[(99:Int)],[])],.n (3:Int)])=(some (0,[.b b20])))(h12:(b20=true)):(ev_W5 []).sel=some (true):=sP (1::0::1::1::0::1::1::1::1::1::1::1::1::1::1::1::1::1::1::1::1::1::1::1::1::1::1::1::1::1::1::1::1::1::1::1::1::1::1::1::1::1::1::1::1::1::1::1::1::1::1::[])<|sA h0<|sP [1,1,1,0,1]<|sT (bt h1)<|sP [1]<|sA h2<|sP [1,1,1,0,1]<|sT (bt h3)<|sP [1]<|sA h4<|sP [1,1,1,1,0]<|sF h5<|sP [1,0,1,1,1]<|sT (nf (df h6))<|sP [1,1,1,1,1,1]<|sA h7<|sP [1,1]<|sT h8<|sA h9<|sP [1,1]<|sT h10<|sA h11<|sP [1,1]<|sT h12<|sP [1,1,1]<|sL
theorem d8g (n:Int)(m:Nat)(e:imin (imax n 0) 4096=((m:Nat):Int))(hm:m≤4096):k3b [.n n]=some (0,[.n 0,.b false,.n 0,.b false,.l TBk (repC m (Ty.dflt TBk)),.l TWr ([]:List (Ty.den TWr))]):=by
 have k:repC m (Ty.dflt TBk)=repC (Int.toNat (imin (imax n 0) 4096)) (Ty.dflt TBk):=by rw[e];rfl
 rw[k]
 exact p3b (by
  rw[e,dt (show(0:Int)≤((m:Nat):Int) by omega),dt (Int.le_refl _),dt (show((m:Nat):Int)*256≤281474976710656 by omega)];rfl)
theorem k3w (m:Nat):((repC m (Ty.dflt TBk)).length:Int)=(m:Int):=by rw[l2h,List.length_replicate]
theorem W5_true:(ev_W5 []).sel=some true:=
 u3x (b18:=true) (b19:=true) (b20:=true) (d8g 5000 4096 (by decide) (by omega)) (k3w 4096) (d8g (-1) 0 (by decide) (by omega)) (k3w 0) (d8g 0 0 (by decide) (by omega)) rfl (by have:=k3w 0;omega)
  (by kernel_rfl) rfl (by kernel_rfl) rfl (by kernel_rfl) rfl
end Go.Proofs.Ytocadgemjhpojaa.Vx
end
