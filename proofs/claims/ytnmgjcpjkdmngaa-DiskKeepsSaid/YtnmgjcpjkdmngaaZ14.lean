import Derived.Test.YtnmgjcpjkdmngaaZ06j
import Derived.Test.YtnmgjcpjkdmngaaProg
import Derived.KernelRfl
import Derived.Test.YtnmgjcpjkdmngaaVxAsk
import Derived.Test.YtnmgjcpjkdmngaaVxBits
import Derived.Test.YtnmgjcpjkdmngaaVxAid
noncomputable section
namespace Go.Proofs.Ytnmgjcpjkdmngaa.Vx
open Go Go.RowKit
set_option linter.unusedVariables false
set_option linter.unusedSimpArgs false
set_option maxRecDepth 100000
set_option maxHeartbeats 0
theorem hmix:Try.prog.follows .mixedOrders=true:=by kernel_rfl
theorem o0k:CsOk Try.prog n0y:=l0r _
def op_w7:List Dat→Option (Nat×List Dat):=fun _=>some (0,[.b true])
def Bw7:FBox:=(mkF [] [] [] [(.bool 0,[])] op_w7)
def cs_w7:FuncId→Option a0i:=f0e 7 [Bw7] n0y
theorem h1k (env:List Dat)(y:Nat×List Dat)(h:op_w7 env=some y):(boxC true Try.prog n0y 7 ls0 (mkF [] [] [] [(.bool 0,[])] fun _=>none) env).sel=some y:=by
 cases h
 kernel_rfl
theorem Bw7_ok:e0f Try.prog 7 (b0g Bw7):=mkF_ok (op:=op_w7) o0k hmix true (LsOk.none _ _ _) h1k
theorem g1r:CsOk Try.prog cs_w7:=k0l o0k fun B hB=>by
 cases List.mem_singleton.1 hB
 exact Bw7_ok
abbrev TB:Ty:=.int .u8
abbrev TS:Ty:=.str
abbrev TBk:Ty:=.arr 256 (.int .u8)
abbrev TWr:Ty:=.pair (.int .i64) (.arr 256 (.int .u8))
abbrev TOp:Ty:=.pair (.int .i64) .str
abbrev a0f:Ty:=.pair (.int .u8) (.pair (.int .i64) (.pair (.sl (.int .u8)) (.sl (.int .u8))))
def fnV0 (f:Nat):PV:=.fn (.func f) [] []
def fnC (f:Nat)(cs:List PV):PV:=.fn (.func f) [] cs
def dkB (a c h:Nat):PB:=.cells [.own a,.own c,.int .i64 h,.bool (h+1),.int .i64 (h+2),.bool (h+3)]
def faB (h:Nat):PB:=.cells [.imm TB h]
def t0y (l:List (Ty.den TBk)):Bool:=decide ((0+l.length)*256≤140737488355328)
def op_c26:OpA:=j0l TBk t0y
def Bc26:FBox:=mkF [.imm TBk 0] [] [] [(.own 0,[.arr TBk 0])] op_c26
def cs_c26:FuncId→Option a0i:=j0z 26 ((BSh.of Bc26).k op_c26) cs_w7
theorem Bc26_ok:e0f Try.prog 26 (b0g Bc26):=
 x0a (P:=Try.prog) (cl:=clMd true Try.prog n0y) (j0d (l0r _) t0c true) t0c (T:=50) (e:=60) (n:=400) (fn:=Try.f26) (by kernel_rfl) (by kernel_rfl) (by kernel_rfl) (by kernel_rfl) TBk t0y
  (fun l=>[.imm TBk l,.undef,.nilsl,.undef,.undef,.undef,.undef,.undef]) (fun l=>[.imm TBk l,.undef,.nilsl,.imm TBk l,.bool true,.undef,.undef,.undef])
  (fun l=>[.imm TBk l,.undef,.own 0 1,.imm TBk l,.bool false,.own 0 0,.imm TBk l,.own 0 1]) (fun l=>⟨[.arr TBk 1 l],[0]⟩) (fun l=>.own 0 1)
  (fun l=>by kernel_rfl) (fun l=>rfl) (fun l=>rfl) (fun l=>by kernel_rfl) (fun l=>by kernel_rfl) (fun l=>by kernel_rfl) (fun l=>by kernel_rfl) (fun l=>by kernel_rfl) (fun l=>by kernel_rfl) (by kernel_rfl)
theorem f1i:CsOk Try.prog cs_c26:=csA g1r Bc26_ok
def t0w (l:List (Ty.den TWr)):Bool:=decide ((0+l.length)*264≤140737488355328)
def op_c27:OpA:=j0l TWr t0w
def Bc27:FBox:=mkF [.imm TWr 0] [] [] [(.own 0,[.arr TWr 0])] op_c27
def c1t:FuncId→Option a0i:=j0z 27 ((BSh.of Bc27).k op_c27) cs_c26
theorem Bc27_ok:e0f Try.prog 27 (b0g Bc27):=
 x0a (P:=Try.prog) (cl:=clMd true Try.prog n0y) (j0d (l0r _) t0c true) t0c (T:=51) (e:=63) (n:=400) (fn:=Try.f27) (by kernel_rfl) (by kernel_rfl) (by kernel_rfl) (by kernel_rfl) TWr t0w
  (fun l=>[.imm TWr l,.undef,.nilsl,.undef,.undef,.undef,.undef,.undef]) (fun l=>[.imm TWr l,.undef,.nilsl,.imm TWr l,.bool true,.undef,.undef,.undef])
  (fun l=>[.imm TWr l,.undef,.own 0 1,.imm TWr l,.bool false,.own 0 0,.imm TWr l,.own 0 1]) (fun l=>⟨[.arr TWr 1 l],[0]⟩) (fun l=>.own 0 1)
  (fun l=>by kernel_rfl) (fun l=>rfl) (fun l=>rfl) (fun l=>by kernel_rfl) (fun l=>by kernel_rfl) (fun l=>by kernel_rfl) (fun l=>by kernel_rfl) (fun l=>by kernel_rfl) (fun l=>by kernel_rfl) (by kernel_rfl)
theorem s0k:CsOk Try.prog c1t:=csA f1i Bc27_ok
def S_d8:BSh:={args:=[.int .i64 0],blks:=[],log:=[],outs:=[(.ptr 0 0,[dkB 1 2 0,.arr TBk 4,.arr TWr 5])]}
def ev_d8:List Dat→Tree (Nat×List Dat):=evFV [(none,1,.own TWr)] c1t 8 ls0 S_d8
theorem e_d8: ∃op,IsF ev_d8 8 S_d8 op:=bxFV s0k (LsOk.none _ _ _)
def i1k:OpA:=opF e_d8
theorem h1p {n0:Int}(h0:((decide ((0:Int)≤imin (imax n0 (0:Int)) (4096:Int))&&decide (imin (imax n0 (0:Int)) (4096:Int)≤imin (imax n0 (0:Int)) (4096:Int))&&decide (imin (imax n0 (0:Int)) (4096:Int)*(256:Int)≤(281474976710656:Int)))=true)):i1k [.n n0]=some ((0,[.n (0:Int),.b false,.n (0:Int),.b false,.l TBk (repC (Int.toNat (imin (imax n0 (0:Int)) (4096:Int))) (Ty.dflt TBk)),.l TWr []])):=a0h e_d8 (sT h0<|sP [1]<|sL)
def y0w:FuncId→Option a0i:=f0e 8 [S_d8.k i1k] c1t
theorem i0p:CsOk Try.prog y0w:=csA1 s0k e_d8
def a1y:LSh:={K:=3,log:=[1],ins:=[(sh 48 [(0,.ptr 0 0),(1,fnV0 44),(10,.own 2),(11,.int .i64 0),(12,.int .i64 1)],[dkB 1 2 2,.arr TBk 6,.arr TWr 7])],nils:=[],outs:=[(.exit 0,sh 48 [(0,.ptr 0 0)],[dkB 1 2 0,.arr TBk 4,.arr TWr 5])],cv:=[]}
def i0g:List Dat→Tree Step:=evL y0w 40 1 ls0 a1y
theorem o0t: ∃op,IsL i0g 40 1 a1y op:=bxL i0p (LsOk.none _ _ _)
def p0e:OpA:=opL o0t
theorem t0q (env:List Dat):p0e env=b0n i0g FU env:=e0v o0t env
abbrev g1m:MBox:=boxL o0t
theorem v0m {n0 n1 n2:Int}{b3:Bool}{n4:Int}{b5:Bool}{l6:List (Ty.den TBk)}{l7:List (Ty.den TWr)}(g0:0≤n1)(g1:n0=(l7.length:Int))(h0:(n1<n0))(h1:(inR (Prod.fst (List.getD l7 (Int.toNat n1) (Ty.dflt TWr))) (List.length l6)=true)):(i0g [.k 0,.n n0,.n n1,.n n2,.b b3,.n n4,.b b5,.l TBk l6,.l TWr l7]).sel=some (Step.go [.k 0,.n n0,.n (IntKind.wrap .i64 (n1+(1:Int))),.n n2,.b b3,.n n4,.b b5,.l TBk (List.set l6 (Int.toNat (Prod.fst (List.getD l7 (Int.toNat n1) (Ty.dflt TWr)))) (Prod.snd (List.getD l7 (Int.toNat n1) (Ty.dflt TWr)))),.l TWr l7]):=sP [1]<|sT (dt h0)<|sTo (c:=(inR n1 (List.length l7)))<|sP [1,1,1]<|sT h1<|sP [1,1]<|sL
theorem u0a {n0 n1 n2:Int}{b3:Bool}{n4:Int}{b5:Bool}{l6:List (Ty.den TBk)}{l7:List (Ty.den TWr)}(g0:0≤n1)(g1:n0=(l7.length:Int))(h0:(¬n1<n0)):(i0g [.k 0,.n n0,.n n1,.n n2,.b b3,.n n4,.b b5,.l TBk l6,.l TWr l7]).sel=some (Step.stop 0 [.n n2,.b b3,.n n4,.b b5,.l TBk l6,.l TWr l7]):=sP [1]<|sF (df h0)<|sP [1]<|sL
def S_d44:BSh:={args:=[.ptr 0 0,fnV0 44],blks:=[dkB 1 2 0,.arr TBk 4,.arr TWr 5],log:=[0,1],outs:=[(.tup [],[dkB 1 3 0,.arr TBk 4,.gone,.arr TWr 5])]}
def ev_d44:List Dat→Tree (Nat×List Dat):=evFV [(some 0,1,.own TWr)] y0w 40 (lsM [(1,g1m)] 3) S_d44
theorem e_d44: ∃op,IsF ev_d44 40 S_d44 op:=bxFV i0p (lsE (lsC (d0a o0t) (atF) lsZ))
def t0b:OpA:=opF e_d44
theorem a1k {n0:Int}{b1:Bool}{n2:Int}{b3:Bool}{l4:List (Ty.den TBk)}{l5:List (Ty.den TWr)}{n6:Int}{b7:Bool}{n8:Int}{b9:Bool}{l10:List (Ty.den TBk)}{l11:List (Ty.den TWr)}(h0:(p0e [.k 0,.n (↑(List.length l5):Int),.n (0:Int),.n n0,.b b1,.n n2,.b b3,.l TBk l4,.l TWr l5])=(some (0,[.n n6,.b b7,.n n8,.b b9,.l TBk l10,.l TWr l11]))):t0b [.n n0,.b b1,.n n2,.b b3,.l TBk l4,.l TWr l5]=some ((0,[.n n6,.b b7,.n n8,.b b9,.l TBk l10,.l TWr []])):=a0h e_d44 (sA h0<|sP [1,1]<|sL)
def a1x:LSh:={K:=4,log:=[2],ins:=[(sh 48 [(0,.ptr 0 0),(1,fnC 41 [.ptr 1 0]),(10,.own 3),(11,.int .i64 0),(12,.int .i64 1)],[dkB 2 3 2,faB 6,.arr TBk 7,.arr TWr 8])],nils:=[],outs:=[(.exit 0,sh 48 [(0,.ptr 0 0)],[dkB 2 3 0,faB 4,.arr TBk 5,.arr TWr 6])],cv:=[]}
def f0j:List Dat→Tree Step:=evL y0w 40 1 ls0 a1x
theorem p0w: ∃op,IsL f0j 40 1 a1x op:=bxL i0p (LsOk.none _ _ _)
def p0x:OpA:=opL p0w
theorem u0w (env:List Dat):p0x env=b0n f0j FU env:=e0v p0w env
abbrev g1d:MBox:=boxL p0w
theorem v0r {n0 n1 n2:Int}{b3:Bool}{n4:Int}{b5:Bool}{l6:List (Ty.den TB)}{l7:List (Ty.den TBk)}{l8:List (Ty.den TWr)}(g0:0≤n1)(g1:n0=(l8.length:Int))(h0:(n1<n0))(h1:(n1<(↑(List.length l6):Int)))(h2:(List.getD l6 (Int.toNat n1) (0:Int)=(255:Int)))(h3:(inR (Prod.fst (List.getD l8 (Int.toNat n1) (Ty.dflt TWr))) (List.length l7)=true)):(f0j [.k 0,.n n0,.n n1,.n n2,.b b3,.n n4,.b b5,.l TB l6,.l TBk l7,.l TWr l8]).sel=some (Step.go [.k 0,.n n0,.n (IntKind.wrap .i64 (n1+(1:Int))),.n n2,.b b3,.n n4,.b b5,.l TB l6,.l TBk (List.set l7 (Int.toNat (Prod.fst (List.getD l8 (Int.toNat n1) (Ty.dflt TWr)))) (Prod.snd (List.getD l8 (Int.toNat n1) (Ty.dflt TWr)))),.l TWr l8]):=sP [1]<|sT (dt h0)<|sTo (c:=(inR n1 (List.length l8)))<|sP [1]<|sT (dt h1)<|sTo (c:=(inR n1 (List.length l6)))<|sP [1]<|sT (bt h2)<|sT h3<|sP [1,1]<|sL
theorem v0u {n0 n1 n2:Int}{b3:Bool}{n4:Int}{b5:Bool}{l6:List (Ty.den TB)}{l7:List (Ty.den TBk)}{l8:List (Ty.den TWr)}(g0:0≤n1)(g1:n0=(l8.length:Int))(h0:(n1<n0))(h1:(n1<(↑(List.length l6):Int)))(h2:(¬List.getD l6 (Int.toNat n1) (0:Int)=(255:Int)))(h3:(inR (Prod.fst (List.getD l8 (Int.toNat n1) (Ty.dflt TWr))) (List.length l7)=true))(h4:((decide ((0:Int)≤(List.getD l6 (Int.toNat n1) (0:Int):Int))&&decide ((List.getD l6 (Int.toNat n1) (0:Int):Int)≤(256:Int)))=true)):(f0j [.k 0,.n n0,.n n1,.n n2,.b b3,.n n4,.b b5,.l TB l6,.l TBk l7,.l TWr l8]).sel=some (Step.go [.k 0,.n n0,.n (IntKind.wrap .i64 (n1+(1:Int))),.n n2,.b b3,.n n4,.b b5,.l TB l6,.l TBk (List.set l7 (Int.toNat (Prod.fst (List.getD l8 (Int.toNat n1) (Ty.dflt TWr)))) (List.take (Int.toNat (List.getD l6 (Int.toNat n1) (0:Int))) (List.take (Int.toNat (List.getD l6 (Int.toNat n1) (0:Int))) (Prod.snd (List.getD l8 (Int.toNat n1) (Ty.dflt TWr))))++List.drop (min (List.length (List.take (Int.toNat (List.getD l6 (Int.toNat n1) (0:Int))) (Prod.snd (List.getD l8 (Int.toNat n1) (Ty.dflt TWr))))) (Int.toNat (List.getD l6 (Int.toNat n1) (0:Int)))) (List.getD l7 (Int.toNat (Prod.fst (List.getD l8 (Int.toNat n1) (Ty.dflt TWr)))) (Ty.dflt TBk)))),.l TWr l8]):=sP [1]<|sT (dt h0)<|sTo (c:=(inR n1 (List.length l8)))<|sP [1]<|sT (dt h1)<|sTo (c:=(inR n1 (List.length l6)))<|sP [1]<|sF (bf h2)<|sT h3<|sP [1]<|sT h4<|sP [1]<|sT h4<|sP [1,1]<|sL
theorem u0l {n0 n1 n2:Int}{b3:Bool}{n4:Int}{b5:Bool}{l6:List (Ty.den TB)}{l7:List (Ty.den TBk)}{l8:List (Ty.den TWr)}(g0:0≤n1)(g1:n0=(l8.length:Int))(h0:(n1<n0))(h1:(¬n1<(↑(List.length l6):Int)))(h2:(inR (Prod.fst (List.getD l8 (Int.toNat n1) (Ty.dflt TWr))) (List.length l7)=true)):(f0j [.k 0,.n n0,.n n1,.n n2,.b b3,.n n4,.b b5,.l TB l6,.l TBk l7,.l TWr l8]).sel=some (Step.go [.k 0,.n n0,.n (IntKind.wrap .i64 (n1+(1:Int))),.n n2,.b b3,.n n4,.b b5,.l TB l6,.l TBk (List.set l7 (Int.toNat (Prod.fst (List.getD l8 (Int.toNat n1) (Ty.dflt TWr)))) ([]++List.drop 0 (List.getD l7 (Int.toNat (Prod.fst (List.getD l8 (Int.toNat n1) (Ty.dflt TWr)))) (Ty.dflt TBk)))),.l TWr l8]):=sP [1]<|sT (dt h0)<|sTo (c:=(inR n1 (List.length l8)))<|sP [1]<|sF (df h1)<|sP [1,0]<|sT h2<|sP [1,1,1,1,1,1]<|sL
theorem v0v {n0 n1 n2:Int}{b3:Bool}{n4:Int}{b5:Bool}{l6:List (Ty.den TB)}{l7:List (Ty.den TBk)}{l8:List (Ty.den TWr)}(g0:0≤n1)(g1:n0=(l8.length:Int))(h0:(¬n1<n0)):(f0j [.k 0,.n n0,.n n1,.n n2,.b b3,.n n4,.b b5,.l TB l6,.l TBk l7,.l TWr l8]).sel=some (Step.stop 0 [.n n2,.b b3,.n n4,.b b5,.l TB l6,.l TBk l7,.l TWr l8]):=sP [1]<|sF (df h0)<|sP [1]<|sL
def S_d41:BSh:={args:=[.ptr 0 0,fnC 41 [.ptr 1 0]],blks:=[dkB 2 3 0,faB 4,.arr TBk 5,.arr TWr 6],log:=[0,2],outs:=[(.tup [],[dkB 2 4 0,faB 4,.arr TBk 5,.gone,.arr TWr 6])]}
def ev_d41:List Dat→Tree (Nat×List Dat):=evFV [(some 0,1,.own TWr)] y0w 40 (lsM [(1,g1d)] 4) S_d41
theorem e_d41: ∃op,IsF ev_d41 40 S_d41 op:=bxFV i0p (lsE (lsC (d0a p0w) (atF) lsZ))
def w0t:OpA:=opF e_d41
theorem c1w {n0:Int}{b1:Bool}{n2:Int}{b3:Bool}{l4:List (Ty.den TB)}{l5:List (Ty.den TBk)}{l6:List (Ty.den TWr)}{n7:Int}{b8:Bool}{n9:Int}{b10:Bool}{l11:List (Ty.den TB)}{l12:List (Ty.den TBk)}{l13:List (Ty.den TWr)}(h0:(p0x [.k 0,.n (↑(List.length l6):Int),.n (0:Int),.n n0,.b b1,.n n2,.b b3,.l TB l4,.l TBk l5,.l TWr l6])=(some (0,[.n n7,.b b8,.n n9,.b b10,.l TB l11,.l TBk l12,.l TWr l13]))):w0t [.n n0,.b b1,.n n2,.b b3,.l TB l4,.l TBk l5,.l TWr l6]=some ((0,[.n n7,.b b8,.n n9,.b b10,.l TB l11,.l TBk l12,.l TWr []])):=a0h e_d41 (sA h0<|sP [1,1]<|sL)
def x0b:FuncId→Option a0i:=f0e 40 [S_d44.k t0b,S_d41.k w0t] y0w
theorem l0i:CsOk Try.prog x0b:=k0l i0p fun B hB=>by
 simp only[List.mem_cons,List.not_mem_nil,or_false]at hB
 rcases hB with rfl|rfl
 ·exact n0n e_d44
 ·exact n0n e_d41
def S_d17:BSh:={args:=[.ptr 0 0,.int .i64 0,.imm TB 1],blks:=[dkB 1 2 2,.arr TBk 6,.arr TWr 7],log:=[0,2],outs:=[(.int .i64 0,[dkB 1 2 1,.arr TBk 5,.arr TWr 6])]}
def ev_d17:List Dat→Tree (Nat×List Dat):=evF x0b 17 ls0 S_d17
theorem j1g: ∃op,IsF ev_d17 17 S_d17 op:=bxF l0i (LsOk.none _ _ _)
def i1m:OpA:=opF j1g
theorem k1y {n0:Int}{l1:List (Ty.den TB)}{n2:Int}{b3:Bool}{n4:Int}{b5:Bool}{l6:List (Ty.den TBk)}{l7:List (Ty.den TWr)}(h0:(b5=true)):i1m [.n n0,.l TB l1,.n n2,.b b3,.n n4,.b b5,.l TBk l6,.l TWr l7]=some ((0,[.n (140:Int),.n n2,.b b3,.n n4,.b b5,.l TBk l6,.l TWr l7])):=a0h j1g (sP [1,0]<|sT h0<|sP [1,1,1]<|sL)
theorem l1d {n0:Int}{l1:List (Ty.den TB)}{n2:Int}{b3:Bool}{n4:Int}{b5:Bool}{l6:List (Ty.den TBk)}{l7:List (Ty.den TWr)}(h0:(b5=false))(h1:(n0≥(0:Int)))(h2:(¬n0<(↑(List.length l6):Int))):i1m [.n n0,.l TB l1,.n n2,.b b3,.n n4,.b b5,.l TBk l6,.l TWr l7]=some ((0,[.n (2:Int),.n n2,.b b3,.n n4,.b b5,.l TBk l6,.l TWr l7])):=a0h j1g (sP [1,0]<|sF h0<|sP [1,0,1]<|sT (dt h1)<|sP [1]<|sT (nf (df h2))<|sP [1]<|sL)
theorem k1v {n0:Int}{l1:List (Ty.den TB)}{n2:Int}{b3:Bool}{n4:Int}{b5:Bool}{l6:List (Ty.den TBk)}{l7:List (Ty.den TWr)}(h0:(b5=false))(h1:(n0≥(0:Int)))(h2:(n0<(↑(List.length l6):Int)))(h3:((↑(List.length l1):Int)>(256:Int))):i1m [.n n0,.l TB l1,.n n2,.b b3,.n n4,.b b5,.l TBk l6,.l TWr l7]=some ((0,[.n (3:Int),.n n2,.b b3,.n n4,.b b5,.l TBk l6,.l TWr l7])):=a0h j1g (sP [1,0]<|sF h0<|sP [1,0,1]<|sT (dt h1)<|sP [1]<|sF (nt (dt h2))<|sT (dt h3)<|sP [1]<|sL)
theorem l1a {n0:Int}{l1:List (Ty.den TB)}{n2:Int}{b3:Bool}{n4:Int}{b5:Bool}{l6:List (Ty.den TBk)}{l7:List (Ty.den TWr)}(h0:(b5=false))(h1:(n0≥(0:Int)))(h2:(n0<(↑(List.length l6):Int)))(h3:(¬(↑(List.length l1):Int)>(256:Int)))(h4:((List.length l7+1)*264≤140737488355328))(h5:(b3=true))(h6:(n4=(0:Int))):i1m [.n n0,.l TB l1,.n n2,.b b3,.n n4,.b b5,.l TBk l6,.l TWr l7]=some ((0,[.n (140:Int),.n (IntKind.wrap .i64 (n2+(1:Int))),.b false,.n n4,.b true,.l TBk l6,.l TWr (apL l7 [(n0,List.take 256 l1++List.drop (List.length l1) (List.replicate 256 (0:Int)))])])):=a0h j1g (sP [1,0]<|sF h0<|sP [1,0,1]<|sT (dt h1)<|sP [1]<|sF (nt (dt h2))<|sF (df h3)<|sP [1,1,1]<|sT (dt h4)<|sP [1,1]<|sT h5<|sT (bt h6)<|sP [1,1,1,1,1]<|sL)
theorem l1b {n0:Int}{l1:List (Ty.den TB)}{n2:Int}{b3:Bool}{n4:Int}{b5:Bool}{l6:List (Ty.den TBk)}{l7:List (Ty.den TWr)}(h0:(b5=false))(h1:(n0≥(0:Int)))(h2:(n0<(↑(List.length l6):Int)))(h3:(¬(↑(List.length l1):Int)>(256:Int)))(h4:((List.length l7+1)*264≤140737488355328))(h5:(b3=true))(h6:(¬n4=(0:Int))):i1m [.n n0,.l TB l1,.n n2,.b b3,.n n4,.b b5,.l TBk l6,.l TWr l7]=some ((0,[.n (0:Int),.n (IntKind.wrap .i64 (n2+(1:Int))),.b b3,.n (IntKind.wrap .i64 (n4-(1:Int))),.b b5,.l TBk l6,.l TWr (apL l7 [(n0,List.take 256 l1++List.drop (List.length l1) (List.replicate 256 (0:Int)))])])):=a0h j1g (sP [1,0]<|sF h0<|sP [1,0,1]<|sT (dt h1)<|sP [1]<|sF (nt (dt h2))<|sF (df h3)<|sP [1,1,1]<|sT (dt h4)<|sP [1,1]<|sT h5<|sF (bf h6)<|sT h5<|sP [1,1,1,1]<|sL)
theorem k1w {n0:Int}{l1:List (Ty.den TB)}{n2:Int}{b3:Bool}{n4:Int}{b5:Bool}{l6:List (Ty.den TBk)}{l7:List (Ty.den TWr)}(h0:(b5=false))(h1:(n0≥(0:Int)))(h2:(n0<(↑(List.length l6):Int)))(h3:(¬(↑(List.length l1):Int)>(256:Int)))(h4:((List.length l7+1)*264≤140737488355328))(h5:(b3=false)):i1m [.n n0,.l TB l1,.n n2,.b b3,.n n4,.b b5,.l TBk l6,.l TWr l7]=some ((0,[.n (0:Int),.n (IntKind.wrap .i64 (n2+(1:Int))),.b b3,.n n4,.b b5,.l TBk l6,.l TWr (apL l7 [(n0,List.take 256 l1++List.drop (List.length l1) (List.replicate 256 (0:Int)))])])):=a0h j1g (sP [1,0]<|sF h0<|sP [1,0,1]<|sT (dt h1)<|sP [1]<|sF (nt (dt h2))<|sF (df h3)<|sP [1,1,1]<|sT (dt h4)<|sP [1,1]<|sF h5<|sP [0,0]<|sF h5<|sP [1,1,1,1]<|sL)
theorem l1c {n0:Int}{l1:List (Ty.den TB)}{n2:Int}{b3:Bool}{n4:Int}{b5:Bool}{l6:List (Ty.den TBk)}{l7:List (Ty.den TWr)}(h0:(b5=false))(h1:(¬n0≥(0:Int))):i1m [.n n0,.l TB l1,.n n2,.b b3,.n n4,.b b5,.l TBk l6,.l TWr l7]=some ((0,[.n (2:Int),.n n2,.b b3,.n n4,.b b5,.l TBk l6,.l TWr l7])):=a0h j1g (sP [1,0]<|sF h0<|sP [1,0,1]<|sF (df h1)<|sP [0,1,1,1]<|sL)
def c1r:BSh:={args:=[.ptr 0 0,.int .i64 0,.own 1],blks:=[dkB 2 3 1,.arr TB 5,.arr TBk 6,.arr TWr 7],log:=[0,3],outs:=[(.int .i64 0,[dkB 2 3 1,.arr TB 5,.arr TBk 6,.arr TWr 7])]}
def ev_d17o:List Dat→Tree (Nat×List Dat):=evF x0b 17 ls0 c1r
theorem e_d17o: ∃op,IsF ev_d17o 17 c1r op:=bxF l0i (LsOk.none _ _ _)
def op_d17o:OpA:=opF e_d17o
def w0a:FuncId→Option a0i:=f0e 17 [S_d17.k i1m,c1r.k op_d17o] x0b
theorem n0m:CsOk Try.prog w0a:=k0l l0i fun B hB=>by
 simp only[List.mem_cons,List.not_mem_nil,or_false]at hB
 rcases hB with rfl|rfl
 ·exact n0n j1g
 ·exact n0n e_d17o
def S_d16:BSh:={args:=[.ptr 0 0],blks:=[dkB 1 2 0,.arr TBk 4,.arr TWr 5],log:=[0,1],outs:=[(.int .i64 0,[dkB 1 2 1,.arr TBk 5,.arr TWr 6]),(.int .i64 0,[dkB 1 3 1,.arr TBk 5,.gone,.arr TWr 6])]}
def ev_d16:List Dat→Tree (Nat×List Dat):=evFV [(some 0,1,.own TWr)] w0a 16 ls0 S_d16
theorem y0v: ∃op,IsF ev_d16 16 S_d16 op:=bxFV n0m (LsOk.none _ _ _)
def k0e:OpA:=opF y0v
theorem b1g {n0:Int}{b1:Bool}{n2:Int}{b3:Bool}{l4:List (Ty.den TBk)}{l5:List (Ty.den TWr)}(h0:(b3=true)):k0e [.n n0,.b b1,.n n2,.b b3,.l TBk l4,.l TWr l5]=some ((0,[.n (140:Int),.n n0,.b b1,.n n2,.b b3,.l TBk l4,.l TWr l5])):=a0h y0v (sP [1,0]<|sT h0<|sP [1,1,1]<|sL)
theorem d1w {n0:Int}{b1:Bool}{n2:Int}{b3:Bool}{l4:List (Ty.den TBk)}{l5:List (Ty.den TWr)}(h0:(b3=false))(h1:(b1=true))(h2:(n2=(0:Int))):k0e [.n n0,.b b1,.n n2,.b b3,.l TBk l4,.l TWr l5]=some ((0,[.n (140:Int),.n (IntKind.wrap .i64 (n0+(1:Int))),.b false,.n n2,.b true,.l TBk l4,.l TWr l5])):=a0h y0v (sP [1,0]<|sF h0<|sP [1,0,1,1,1]<|sT h1<|sT (bt h2)<|sP [1,1,1,1,1]<|sL)
theorem e1c {n0:Int}{b1:Bool}{n2:Int}{b3:Bool}{l4:List (Ty.den TBk)}{l5:List (Ty.den TWr)}{n6:Int}{b7:Bool}{n8:Int}{b9:Bool}{l10:List (Ty.den TBk)}{l11:List (Ty.den TWr)}(h0:(b3=false))(h1:(b1=true))(h2:(¬n2=(0:Int)))(h3:(t0b [.n (IntKind.wrap .i64 (n0+(1:Int))),.b b1,.n (IntKind.wrap .i64 (n2-(1:Int))),.b b3,.l TBk l4,.l TWr l5])=(some (0,[.n n6,.b b7,.n n8,.b b9,.l TBk l10,.l TWr l11]))):k0e [.n n0,.b b1,.n n2,.b b3,.l TBk l4,.l TWr l5]=some ((1,[.n (0:Int),.n n6,.b b7,.n n8,.b b9,.l TBk l10,.l TWr l11])):=a0h y0v (sP [1,0]<|sF h0<|sP [1,0,1,1,1]<|sT h1<|sF (bf h2)<|sT h1<|sP [1,1]<|sA h3<|sP [1,1,1,1,1]<|sL)
theorem e1m {n0:Int}{b1:Bool}{n2:Int}{b3:Bool}{l4:List (Ty.den TBk)}{l5:List (Ty.den TWr)}{n6:Int}{b7:Bool}{n8:Int}{b9:Bool}{l10:List (Ty.den TBk)}{l11:List (Ty.den TWr)}(h0:(b3=false))(h1:(b1=false))(h2:(t0b [.n (IntKind.wrap .i64 (n0+(1:Int))),.b b1,.n n2,.b b3,.l TBk l4,.l TWr l5])=(some (0,[.n n6,.b b7,.n n8,.b b9,.l TBk l10,.l TWr l11]))):k0e [.n n0,.b b1,.n n2,.b b3,.l TBk l4,.l TWr l5]=some ((1,[.n (0:Int),.n n6,.b b7,.n n8,.b b9,.l TBk l10,.l TWr l11])):=a0h y0v (sP [1,0]<|sF h0<|sP [1,0,1,1,1]<|sF h1<|sP [0,0]<|sF h1<|sP [1,1]<|sA h2<|sP [1,1,1,1,1]<|sL)
def e1u:FuncId→Option a0i:=f0e 16 [S_d16.k k0e] w0a
theorem r0w:CsOk Try.prog e1u:=csA1 n0m y0v
def S_d19:BSh:={args:=[.ptr 0 0,.imm TB 0],blks:=[dkB 1 2 1,.arr TBk 5,.arr TWr 6],log:=[0,1],outs:=[(.tup [],[dkB 1 2 0,.arr TBk 4,.arr TWr 5]),(.tup [],[dkB 1 3 0,.arr TBk 4,.gone,.arr TWr 5])]}
def ev_d19:List Dat→Tree (Nat×List Dat):=evFV [(some 0,1,.own TWr)] e1u 19 ls0 S_d19
theorem e_d19: ∃op,IsF ev_d19 19 S_d19 op:=bxFV r0w (LsOk.none _ _ _)
def op_d19:OpA:=opF e_d19
def x0g:FuncId→Option a0i:=f0e 19 [S_d19.k op_d19] e1u
theorem l0g:CsOk Try.prog x0g:=csA1 r0w e_d19
def e1y:LSh:={K:=3,log:=[],ins:=[(sh 43 [(1,.int .i64 0),(7,.ptr 3 0),(29,.own 2),(30,.int .i64 1),(31,.int .i64 2)],[dkB 1 2 3,.arr TBk 7,.arr TWr 8,.cells [.arrd TB 256 9]])],nils:=[],outs:=[(.exit 0,sh 43 [(7,.ptr 3 0)],[dkB 1 2 0,.arr TBk 4,.arr TWr 5,.cells [.arrd TB 256 6]])],cv:=[]}
def h0a:List Dat→Tree Step:=evL x0g 20 8 ls0 e1y
theorem p0u: ∃op,IsL h0a 20 8 e1y op:=bxL l0g (LsOk.none _ _ _)
def o0y:OpA:=opL p0u
theorem u0q (env:List Dat):o0y env=b0n h0a FU env:=e0v p0u env
abbrev g1h:MBox:=boxL p0u
theorem v0t {n0 n1 n2 n3:Int}{b4:Bool}{n5:Int}{b6:Bool}{l7:List (Ty.den TBk)}{l8:List (Ty.den TWr)}{l9:List (Ty.den TB)}(g0:0≤n2)(g1:n1=(l8.length:Int))(h0:(n2<n1))(h1:((Prod.fst (List.getD l8 (Int.toNat n2) (Ty.dflt TWr)):Int)=n0)):(h0a [.k 0,.n n0,.n n1,.n n2,.n n3,.b b4,.n n5,.b b6,.l TBk l7,.l TWr l8,.l TB l9]).sel=some (Step.go [.k 0,.n n0,.n n1,.n (IntKind.wrap .i64 (n2+(1:Int))),.n n3,.b b4,.n n5,.b b6,.l TBk l7,.l TWr l8,.l TB (Prod.snd (List.getD l8 (Int.toNat n2) (Ty.dflt TWr)))]):=sP [1]<|sT (dt h0)<|sTo (c:=(inR n2 (List.length l8)))<|sT (bt h1)<|sP [1]<|sL
theorem t0v {n0 n1 n2 n3:Int}{b4:Bool}{n5:Int}{b6:Bool}{l7:List (Ty.den TBk)}{l8:List (Ty.den TWr)}{l9:List (Ty.den TB)}(g0:0≤n2)(g1:n1=(l8.length:Int))(h0:(n2<n1))(h1:(¬(Prod.fst (List.getD l8 (Int.toNat n2) (Ty.dflt TWr)):Int)=n0)):(h0a [.k 0,.n n0,.n n1,.n n2,.n n3,.b b4,.n n5,.b b6,.l TBk l7,.l TWr l8,.l TB l9]).sel=some (Step.go [.k 0,.n n0,.n n1,.n (IntKind.wrap .i64 (n2+(1:Int))),.n n3,.b b4,.n n5,.b b6,.l TBk l7,.l TWr l8,.l TB l9]):=sP [1]<|sT (dt h0)<|sTo (c:=(inR n2 (List.length l8)))<|sF (bf h1)<|sP [1]<|sL
theorem u0x {n0 n1 n2 n3:Int}{b4:Bool}{n5:Int}{b6:Bool}{l7:List (Ty.den TBk)}{l8:List (Ty.den TWr)}{l9:List (Ty.den TB)}(g0:0≤n2)(g1:n1=(l8.length:Int))(h0:(¬n2<n1)):(h0a [.k 0,.n n0,.n n1,.n n2,.n n3,.b b4,.n n5,.b b6,.l TBk l7,.l TWr l8,.l TB l9]).sel=some (Step.stop 0 [.n n3,.b b4,.n n5,.b b6,.l TBk l7,.l TWr l8,.l TB l9]):=sP [1]<|sF (df h0)<|sP [1]<|sL
def S_d20:BSh:={args:=[.ptr 0 0,.int .i64 0],blks:=[dkB 1 2 1,.arr TBk 5,.arr TWr 6],log:=[],outs:=[(.tup [.nilsl,.int .i64 0],[dkB 1 2 1,.arr TBk 5,.arr TWr 6]),(.tup [.asl 3 0 256,.int .i64 0],[dkB 1 2 1,.arr TBk 5,.arr TWr 6,.cells [.arrd TB 256 7]])]}
def ev_d20:List Dat→Tree (Nat×List Dat):=evF x0g 20 (lsM [(8,g1h)] 3) S_d20
theorem a1a: ∃op,IsF ev_d20 20 S_d20 op:=bxF l0g (lsE (lsC (d0a p0u) (atF) lsZ))
def h0k:OpA:=opF a1a
theorem f1r {n0 n1:Int}{b2:Bool}{n3:Int}{b4:Bool}{l5:List (Ty.den TBk)}{l6:List (Ty.den TWr)}(h0:(b4=true)):h0k [.n n0,.n n1,.b b2,.n n3,.b b4,.l TBk l5,.l TWr l6]=some ((0,[.n (140:Int),.n n1,.b b2,.n n3,.b b4,.l TBk l5,.l TWr l6])):=a0h a1a (sP [1,0]<|sT h0<|sP [1,1,1]<|sL)
theorem d1e {n0 n1:Int}{b2:Bool}{n3:Int}{b4:Bool}{l5:List (Ty.den TBk)}{l6:List (Ty.den TWr)}(h0:(b4=false))(h1:(n0≥(0:Int)))(h2:(¬n0<(↑(List.length l5):Int))):h0k [.n n0,.n n1,.b b2,.n n3,.b b4,.l TBk l5,.l TWr l6]=some ((0,[.n (2:Int),.n n1,.b b2,.n n3,.b b4,.l TBk l5,.l TWr l6])):=a0h a1a (sP [1,0]<|sF h0<|sP [1,0,1]<|sT (dt h1)<|sP [1]<|sT (nf (df h2))<|sP [1]<|sL)
theorem e1a {n0 n1:Int}{b2:Bool}{n3:Int}{b4:Bool}{l5:List (Ty.den TBk)}{l6:List (Ty.den TWr)}{n7:Int}{b8:Bool}{n9:Int}{b10:Bool}{l11:List (Ty.den TBk)}{l12:List (Ty.den TWr)}{l13:List (Ty.den TB)}(h0:(b4=false))(h1:(n0≥(0:Int)))(h2:(n0<(↑(List.length l5):Int)))(h3:(o0y [.k 0,.n n0,.n (↑(List.length l6):Int),.n (0:Int),.n n1,.b b2,.n n3,.b b4,.l TBk l5,.l TWr l6,.l TB (List.getD l5 (Int.toNat n0) (Ty.dflt TBk))])=(some (0,[.n n7,.b b8,.n n9,.b b10,.l TBk l11,.l TWr l12,.l TB l13]))):h0k [.n n0,.n n1,.b b2,.n n3,.b b4,.l TBk l5,.l TWr l6]=some ((1,[.n (0:Int),.n n7,.b b8,.n n9,.b b10,.l TBk l11,.l TWr l12,.l TB l13])):=a0h a1a (sP [1,0]<|sF h0<|sP [1,0,1]<|sT (dt h1)<|sP [1]<|sF (nt (dt h2))<|sTo (c:=(inR n0 (List.length l5)))<|sA h3<|sP [1,1,1]<|sL)
theorem d1y {n0 n1:Int}{b2:Bool}{n3:Int}{b4:Bool}{l5:List (Ty.den TBk)}{l6:List (Ty.den TWr)}(h0:(b4=false))(h1:(¬n0≥(0:Int))):h0k [.n n0,.n n1,.b b2,.n n3,.b b4,.l TBk l5,.l TWr l6]=some ((0,[.n (2:Int),.n n1,.b b2,.n n3,.b b4,.l TBk l5,.l TWr l6])):=a0h a1a (sP [1,0]<|sF h0<|sP [1,0,1]<|sF (df h1)<|sP [0,1,1,1]<|sL)
def c1b:FuncId→Option a0i:=f0e 20 [S_d20.k h0k] x0g
theorem r0y:CsOk Try.prog c1b:=csA1 l0g a1a
def S_d11:BSh:={args:=[.ptr 0 0],blks:=[dkB 1 2 0,.arr TBk 4,.arr TWr 5],log:=[],outs:=[(.ptr 3 0,[dkB 1 2 0,.arr TBk 4,.arr TWr 5,dkB 4 5 6,.arr TBk 10,.arr TWr 11])]}
def ev_d11:List Dat→Tree (Nat×List Dat):=evF c1b 11 ls0 S_d11
theorem e_d11: ∃op,IsF ev_d11 11 S_d11 op:=bxF r0y (LsOk.none _ _ _)
def op_d11:OpA:=opF e_d11
def w0o:FuncId→Option a0i:=f0e 11 [S_d11.k op_d11] c1b
theorem m0h:CsOk Try.prog w0o:=csA1 r0y e_d11
def mkN (a h:Nat):PB:=.cells [.own a,.nilsl,.int .i64 h,.bool (h+1),.int .i64 (h+2),.bool (h+3)]
def c1e:LSh:={K:=0,log:=[],ins:=[(sh 15 [(3,.own 0)],[.arr TB 0])],nils:=[],outs:=[(.exit 0,sh 15 [(3,.own 0)],[.arr TB 0])],cv:=[]}
def h0y:List Dat→Tree Step:=evL w0o 25 3 ls0 c1e
theorem p0a: ∃op,IsL h0y 25 3 c1e op:=bxL m0h (LsOk.none _ _ _)
abbrev h1c:MBox:=boxL p0a
def S_m25:BSh:={args:=[.str 0],blks:=[],log:=[],outs:=[(.str 0,[])]}
def ev_m25:List Dat→Tree (Nat×List Dat):=evF w0o 25 (lsM [(3,h1c)] 0) S_m25
theorem e_m25: ∃op,IsF ev_m25 25 S_m25 op:=bxF m0h (lsE (lsC (d0a p0a) (atF) lsZ))
def op_m25:OpA:=opF e_m25
def x0h:FuncId→Option a0i:=j0z 25 (S_m25.k op_m25) w0o
theorem l0x:CsOk Try.prog x0h:=csL1 m0h e_m25
def R_m9_3:LSh:={K:=0,log:=[],ins:=[(sh 27 [(0,.int .i64 0),(3,.ptr 0 0),(4,.int .i64 1)],[mkN 1 2,.arr TS 6])],nils:=[],outs:=[(.exit 0,sh 27 [(3,.ptr 0 0)],[mkN 1 0,.arr TS 4])],cv:=[(3,[],0,.own TS)]}
def st_m9_3:List Dat→Tree Step:=evL x0h 9 3 ls0 R_m9_3
theorem e_m9_3: ∃op,IsL st_m9_3 9 3 R_m9_3 op:=bxL l0x (LsOk.none _ _ _)
abbrev Bx_m9_3:MBox:=boxL e_m9_3
def S_m9:BSh:={args:=[.int .i64 0],blks:=[],log:=[],outs:=[(.ptr 0 0,[dkB 1 2 0,.arr TS 4,.arr TOp 5])]}
def ev_m9:List Dat→Tree (Nat×List Dat):=evFV [(none,0,.own TS),(none,1,.own TOp)] x0h 9 (lsM [(3,Bx_m9_3)] 0) S_m9
theorem e_m9: ∃op,IsF ev_m9 9 S_m9 op:=bxFV l0x (lsE (lsC (d0a e_m9_3) (atF) lsZ))
def op_m9:OpA:=opF e_m9
def g1c:FuncId→Option a0i:=f0e 9 [S_m9.k op_m9] x0h
theorem q0a:CsOk Try.prog g1c:=csA1 l0x e_m9
def d1l:LSh:={K:=3,log:=[1],ins:=[(sh 45 [(0,.ptr 0 0),(3,.int .i64 0)],[dkB 1 2 1,.arr TS 5,.arr TOp 6])],nils:=[],outs:=[(.exit 0,sh 45 [(0,.ptr 0 0)],[dkB 1 2 0,.arr TS 4,.arr TOp 5])],cv:=[]}
def i0y:List Dat→Tree Step:=evL g1c 28 4 ls0 d1l
theorem p0d: ∃op,IsL i0y 28 4 d1l op:=bxL q0a (LsOk.none _ _ _)
abbrev h1u:MBox:=boxL p0d
def S_m28:BSh:={args:=[.ptr 0 0],blks:=[dkB 1 2 0,.arr TS 4,.arr TOp 5],log:=[0,1],outs:=[(.int .i64 0,[dkB 1 2 1,.arr TS 5,.arr TOp 6]),(.int .i64 0,[dkB 1 3 1,.arr TS 5,.gone,.arr TOp 6])]}
def ev_m28:List Dat→Tree (Nat×List Dat):=evFV [(some 0,1,.own TOp)] g1c 28 (lsM [(4,h1u)] 3) S_m28
theorem e_m28: ∃op,IsF ev_m28 28 S_m28 op:=bxFV q0a (lsE (lsC (d0a p0d) (atF) lsZ))
def op_m28:OpA:=opF e_m28
def w0d:FuncId→Option a0i:=f0e 28 [S_m28.k op_m28] g1c
theorem m0d:CsOk Try.prog w0d:=csA1 q0a e_m28
def e1g:LSh:={K:=3,log:=[],ins:=[(sh 49 [(0,.ptr 0 0),(1,.int .i64 0),(7,.int .i64 1)],[dkB 1 2 2,.arr TS 6,.arr TOp 7])],nils:=[],outs:=[(.exit 0,sh 49 [(0,.ptr 0 0),(1,.int .i64 0)],[dkB 1 2 1,.arr TS 5,.arr TOp 6]),(.ret,sh 49 [(4,.str 0),(5,.int .i64 1)],[dkB 1 2 2,.arr TS 6,.arr TOp 7])],cv:=[]}
def g0y:List Dat→Tree Step:=evL w0d 29 5 ls0 e1g
theorem p0r: ∃op,IsL g0y 29 5 e1g op:=bxL m0d (LsOk.none _ _ _)
abbrev h1i:MBox:=boxL p0r
def S_m29:BSh:={args:=[.ptr 0 0,.int .i64 0],blks:=[dkB 1 2 1,.arr TS 5,.arr TOp 6],log:=[],outs:=[(.tup [.str 0,.int .i64 1],[dkB 1 2 2,.arr TS 6,.arr TOp 7])]}
def ev_m29:List Dat→Tree (Nat×List Dat):=evF w0d 29 (lsM [(5,h1i)] 3) S_m29
theorem e_m29: ∃op,IsF ev_m29 29 S_m29 op:=bxF m0d (lsE (lsC (d0a p0r) (atF) lsZ))
def op_m29:OpA:=opF e_m29
def x0j:FuncId→Option a0i:=f0e 29 [S_m29.k op_m29] w0d
theorem m0f:CsOk Try.prog x0j:=csA1 m0d e_m29
def f1e:LSh:={K:=3,log:=[1],ins:=[(sh 70 [(0,.ptr 0 0),(1,.imm TB 0),(4,.int .i64 1)],[dkB 1 2 2,.arr TS 6,.arr TOp 7])],nils:=[],outs:=[(.exit 0,sh 70 [(0,.ptr 0 0)],[dkB 1 2 0,.arr TS 4,.arr TOp 5])],cv:=[]}
def f0b:List Dat→Tree Step:=evL x0j 32 4 ls0 f1e
theorem p0y: ∃op,IsL f0b 32 4 f1e op:=bxL m0f (LsOk.none _ _ _)
abbrev h1n:MBox:=boxL p0y
def S_m32:BSh:={args:=[.ptr 0 0,.imm TB 0],blks:=[dkB 1 2 1,.arr TS 5,.arr TOp 6],log:=[0,1],outs:=[(.tup [],[dkB 1 2 0,.arr TS 4,.arr TOp 5]),(.tup [],[dkB 1 3 0,.arr TS 4,.gone,.arr TOp 5])]}
def ev_m32:List Dat→Tree (Nat×List Dat):=evFV [(some 0,1,.own TOp)] x0j 32 (lsM [(4,h1n)] 3) S_m32
theorem e_m32: ∃op,IsF ev_m32 32 S_m32 op:=bxFV m0f (lsE (lsC (d0a p0y) (atF) lsZ))
def op_m32:OpA:=opF e_m32
def d1h:FuncId→Option a0i:=f0e 32 [S_m32.k op_m32] x0j
theorem r0z:CsOk Try.prog d1h:=csA1 m0f e_m32
def S_m33:BSh:={args:=[.ptr 0 0,.int .i64 0,.str 1],blks:=[dkB 1 2 2,.arr TS 6,.arr TOp 7],log:=[0,2],outs:=[(.int .i64 0,[dkB 1 2 1,.arr TS 5,.arr TOp 6])]}
def ev_m33:List Dat→Tree (Nat×List Dat):=evF d1h 33 ls0 S_m33
theorem e_m33: ∃op,IsF ev_m33 33 S_m33 op:=bxF r0z (LsOk.none _ _ _)
def op_m33:OpA:=opF e_m33
def c1l:FuncId→Option a0i:=f0e 33 [S_m33.k op_m33] d1h
theorem s0b:CsOk Try.prog c1l:=csA1 r0z e_m33
def S_m10:BSh:={args:=[.ptr 0 0],blks:=[dkB 1 2 0,.arr TS 4,.arr TOp 5],log:=[],outs:=[(.ptr 3 0,[dkB 1 2 0,.arr TS 4,.arr TOp 5,dkB 4 5 6,.arr TS 10,.arr TOp 11])]}
def ev_m10:List Dat→Tree (Nat×List Dat):=evF c1l 10 ls0 S_m10
theorem e_m10: ∃op,IsF ev_m10 10 S_m10 op:=bxF s0b (LsOk.none _ _ _)
def op_m10:OpA:=opF e_m10
def x0o:FuncId→Option a0i:=f0e 10 [S_m10.k op_m10] c1l
theorem m0l:CsOk Try.prog x0o:=csA1 s0b e_m10
def cxV (h:Nat):PV:=.agg [.int .u8 h,.int .i64 (h+1),.imm TB (h+2),.imn TB (h+3)]
def R_l6_5:LSh:={K:=0,log:=[],ins:=[(sh 51 [(0,.imm a0f 0),(3,.int .i64 1),(4,.int .i64 2)],[])],nils:=[],outs:=[(.exit 0,sh 51 [(3,.int .i64 0)],[]),(.ret,sh 51 [(2,.bool 0)],[])],cv:=[]}
def e0m:List Dat→Tree Step:=evL x0o 6 5 ls0 R_l6_5
theorem w0p: ∃op,IsL e0m 6 5 R_l6_5 op:=bxL m0l (LsOk.none _ _ _)
def v0g:OpA:=opL w0p
theorem n0z (env:List Dat):v0g env=b0n e0m FU env:=e0v w0p env
abbrev Bx_l6_5:MBox:=boxL w0p
theorem z0t {l0:List (Ty.den a0f)}{n1 n2:Int}(g0:0≤n2)(h0:(n2<(↑(List.length l0):Int)))(h1:((↑(List.length (Prod.fst (Prod.snd (Prod.snd (List.getD l0 (Int.toNat n2) (Ty.dflt a0f)))))):Int)>IntKind.wrap .i64 ((6000:Int)-n1))):(e0m [.k 0,.l a0f l0,.n n1,.n n2]).sel=some (Step.stop 1 [.b true]):=sP [1]<|sT (dt h0)<|sTo (c:=(inR n2 (List.length l0)))<|sT (dt h1)<|sP [1,1,1]<|sL
theorem y0a {l0:List (Ty.den a0f)}{n1 n2:Int}(g0:0≤n2)(h0:(n2<(↑(List.length l0):Int)))(h1:(¬(↑(List.length (Prod.fst (Prod.snd (Prod.snd (List.getD l0 (Int.toNat n2) (Ty.dflt a0f)))))):Int)>IntKind.wrap .i64 ((6000:Int)-n1)))(h2:((↑(List.length (Prod.snd (Prod.snd (Prod.snd (List.getD l0 (Int.toNat n2) (Ty.dflt a0f)))))):Int)>IntKind.wrap .i64 ((6000:Int)-n1))):(e0m [.k 0,.l a0f l0,.n n1,.n n2]).sel=some (Step.stop 1 [.b true]):=sP [1]<|sT (dt h0)<|sTo (c:=(inR n2 (List.length l0)))<|sF (df h1)<|sTo (c:=(inR n2 (List.length l0)))<|sT (dt h2)<|sP [1]<|sL
theorem y0f {l0:List (Ty.den a0f)}{n1 n2:Int}(g0:0≤n2)(h0:(n2<(↑(List.length l0):Int)))(h1:(¬(↑(List.length (Prod.fst (Prod.snd (Prod.snd (List.getD l0 (Int.toNat n2) (Ty.dflt a0f)))))):Int)>IntKind.wrap .i64 ((6000:Int)-n1)))(h2:(¬(↑(List.length (Prod.snd (Prod.snd (Prod.snd (List.getD l0 (Int.toNat n2) (Ty.dflt a0f)))))):Int)>IntKind.wrap .i64 ((6000:Int)-n1))):(e0m [.k 0,.l a0f l0,.n n1,.n n2]).sel=some (Step.go [.k 0,.l a0f l0,.n (IntKind.wrap .i64 (IntKind.wrap .i64 (n1+(↑(List.length (Prod.fst (Prod.snd (Prod.snd (List.getD l0 (Int.toNat n2) (Ty.dflt a0f)))))):Int))+(↑(List.length (Prod.snd (Prod.snd (Prod.snd (List.getD l0 (Int.toNat n2) (Ty.dflt a0f)))))):Int))),.n (IntKind.wrap .i64 (n2+(1:Int)))]):=sP [1]<|sT (dt h0)<|sTo (c:=(inR n2 (List.length l0)))<|sF (df h1)<|sTo (c:=(inR n2 (List.length l0)))<|sF (df h2)<|sTo (c:=(inR n2 (List.length l0)))<|sTo (c:=(inR n2 (List.length l0)))<|sP [1,1]<|sL
theorem z0p {l0:List (Ty.den a0f)}{n1 n2:Int}(g0:0≤n2)(h0:(¬n2<(↑(List.length l0):Int))):(e0m [.k 0,.l a0f l0,.n n1,.n n2]).sel=some (Step.stop 0 [.n n1]):=sP [1]<|sF (df h0)<|sP [1]<|sL
def S_l6:BSh:={args:=[.imm a0f 0],blks:=[],log:=[],outs:=[(.bool 0,[])]}
def ev_l6:List Dat→Tree (Nat×List Dat):=evF x0o 6 (lsM [(5,Bx_l6_5)] 0) S_l6
theorem e_l6: ∃op,IsF ev_l6 6 S_l6 op:=bxF m0l (lsE (lsC (d0a w0p) (atF) lsZ))
def t0k:OpA:=opF e_l6
theorem h1j {l0:List (Ty.den a0f)}(h0:((↑(List.length l0):Int)>(80:Int))):t0k [.l a0f l0]=some ((0,[.b true])):=a0h e_l6 (sT (dt h0)<|sP [1]<|sL)
theorem g1s {l0:List (Ty.den a0f)}{n1:Int}(h0:(¬(↑(List.length l0):Int)>(80:Int)))(h1:(v0g [.k 0,.l a0f l0,.n (0:Int),.n (0:Int)])=(some (0,[.n n1]))):t0k [.l a0f l0]=some ((0,[.b (decide (n1>(6000:Int)))])):=a0h e_l6 (sF (df h0)<|sA h1<|sP [1,1]<|sL)
theorem f1z {l0:List (Ty.den a0f)}{b1:Bool}(h0:(¬(↑(List.length l0):Int)>(80:Int)))(h1:(v0g [.k 0,.l a0f l0,.n (0:Int),.n (0:Int)])=(some (1,[.b b1]))):t0k [.l a0f l0]=some ((0,[.b b1])):=a0h e_l6 (sF (df h0)<|sA h1<|sP [0,1,1]<|sL)
def f1f:FuncId→Option a0i:=j0z 6 (S_l6.k t0k) x0o
theorem k0t:CsOk Try.prog f1f:=csL1 m0l e_l6
def x0e:LSh:={K:=6,log:=[],ins:=[(sh 91 [(0,.ptr 0 0),(1,.ptr 1 0),(5,.int .i64 0),(6,.asl 6 0 256),(10,.int .i64 1)],[dkB 2 3 2,dkB 4 5 6,.arr TBk 10,.arr TWr 11,.arr TS 12,.arr TOp 13,.cells [.arrd TB 256 14]]),(sh 91 [(0,.ptr 0 0),(1,.ptr 1 0),(5,.int .i64 0),(6,.nilsl),(10,.int .i64 1)],[dkB 2 3 2,dkB 4 5 6,.arr TBk 10,.arr TWr 11,.arr TS 12,.arr TOp 13])],nils:=[],outs:=[(.exit 2,sh 91 [(0,.ptr 0 0),(1,.ptr 1 0),(5,.int .i64 0)],[dkB 2 3 1,dkB 4 5 5,.arr TBk 9,.arr TWr 10,.arr TS 11,.arr TOp 12])],cv:=[]}
def e0q:List Dat→Tree Step:=evL f1f 13 11 ls0 x0e
theorem k0v: ∃op,IsL e0q 13 11 x0e op:=bxL k0t (LsOk.none _ _ _)
abbrev b1j:MBox:=boxL k0v
def f1n:LSh:={K:=6,log:=[],ins:=[(sh 91 [(0,.ptr 0 0),(1,.ptr 1 0),(5,.int .i64 0)],[dkB 2 3 1,dkB 4 5 5,.arr TBk 9,.arr TWr 10,.arr TS 11,.arr TOp 12])],nils:=[],outs:=[(.exit 0,sh 91 [],[dkB 2 3 0,dkB 4 5 4,.arr TBk 8,.arr TWr 9,.arr TS 10,.arr TOp 11]),(.ret,sh 91 [(4,.bool 0)],[dkB 2 3 1,dkB 4 5 5,.arr TBk 9,.arr TWr 10,.arr TS 11,.arr TOp 12])],cv:=[]}
def g0u:List Dat→Tree Step:=evL f1f 13 4 (lsM [(11,b1j)] 6) f1n
theorem q0h: ∃op,IsL g0u 13 4 f1n op:=bxL k0t (lsE (lsC (d0a k0v) (by kernel_rfl) lsZ))
abbrev g1b:MBox:=boxL q0h
def S_t13:BSh:={args:=[.ptr 0 0,.ptr 1 0],blks:=[dkB 2 3 0,dkB 4 5 4,.arr TBk 8,.arr TWr 9,.arr TS 10,.arr TOp 11],log:=[],outs:=[(.bool 0,[dkB 2 3 1,dkB 4 5 5,.arr TBk 9,.arr TWr 10,.arr TS 11,.arr TOp 12])]}
def ev_t13:List Dat→Tree (Nat×List Dat):=evF f1f 13 (lsM [(4,g1b)] 6) S_t13
theorem e_t13: ∃op,IsF ev_t13 13 S_t13 op:=bxF k0t (lsE (lsC (d0a q0h) (atF) lsZ))
def op_t13:OpA:=opF e_t13
def w0e:FuncId→Option a0i:=f0e 13 [S_t13.k op_t13] f1f
theorem m0y:CsOk Try.prog w0e:=csA1 k0t e_t13
def x0c:LSh:={K:=6,log:=[],ins:=[(sh 116 [(7,.own 6),(8,.bool 0),(13,.int .i64 1)],[dkB 2 3 2,dkB 4 5 6,.arr TBk 10,.arr TWr 11,.arr TS 12,.arr TOp 13,.arr TB 14]),(sh 116 [(7,.own 6),(8,.bool 0),(13,.int .i64 1)],[dkB 2 7 2,dkB 4 8 6,.arr TBk 10,.gone,.arr TS 11,.gone,.arr TB 12,.arr TWr 13,.arr TOp 14]),(sh 116 [(7,.own 6),(8,.bool 0),(13,.int .i64 1)],[dkB 2 7 2,dkB 4 5 6,.arr TBk 10,.gone,.arr TS 11,.arr TOp 12,.arr TB 13,.arr TWr 14]),(sh 116 [(7,.own 6),(8,.bool 0),(13,.int .i64 1)],[dkB 2 3 2,dkB 4 7 6,.arr TBk 10,.arr TWr 11,.arr TS 12,.gone,.arr TB 13,.arr TOp 14])],nils:=[],outs:=[(.exit 1,sh 116 [(8,.bool 0)],[dkB 2 3 1,dkB 4 5 5,.arr TBk 9,.arr TWr 10,.arr TS 11,.arr TOp 12]),(.exit 1,sh 116 [(8,.bool 0)],[dkB 2 6 1,dkB 4 7 5,.arr TBk 9,.gone,.arr TS 10,.gone,.arr TWr 11,.arr TOp 12]),(.exit 1,sh 116 [(8,.bool 0)],[dkB 2 6 1,dkB 4 5 5,.arr TBk 9,.gone,.arr TS 10,.arr TOp 11,.arr TWr 12]),(.exit 1,sh 116 [(8,.bool 0)],[dkB 2 3 1,dkB 4 6 5,.arr TBk 9,.arr TWr 10,.arr TS 11,.gone,.arr TOp 12])],cv:=[]}
def d0d:List Dat→Tree Step:=evL w0e 12 22 ls0 x0c
theorem k0o: ∃op,IsL d0d 12 22 x0c op:=bxL m0y (LsOk.none _ _ _)
abbrev f1j:MBox:=boxL k0o
def S_d12:BSh:={args:=[.ptr 0 0,.ptr 1 0,cxV 0],blks:=[dkB 2 3 4,dkB 4 5 8,.arr TBk 12,.arr TWr 13,.arr TS 14,.arr TOp 15],log:=[0,1,2,3,4,5],outs:=[(.bool 0,[dkB 2 3 1,dkB 4 5 5,.arr TBk 9,.arr TWr 10,.arr TS 11,.arr TOp 12]),(.bool 0,[dkB 2 6 1,dkB 4 7 5,.arr TBk 9,.gone,.arr TS 10,.gone,.arr TWr 11,.arr TOp 12]),(.bool 0,[dkB 2 6 1,dkB 4 5 5,.arr TBk 9,.gone,.arr TS 10,.arr TOp 11,.arr TWr 12]),(.bool 0,[dkB 2 3 1,dkB 4 6 5,.arr TBk 9,.arr TWr 10,.arr TS 11,.gone,.arr TOp 12])]}
def ev_d12:List Dat→Tree (Nat×List Dat):=evF w0e 12 (lsM [(22,f1j)] 6) S_d12
theorem e_d12: ∃op,IsF ev_d12 12 S_d12 op:=bxF m0y (lsE (lsC (d0a k0o) (atF) lsZ))
def op_d12:OpA:=opF e_d12
def b1a:FuncId→Option a0i:=f0e 12 [S_d12.k op_d12] w0e
theorem s0t:CsOk Try.prog b1a:=csA1 m0y e_d12
abbrev TBo:Ty:=.bool
def k1u:BSh:={args:=[.ptr 0 0,.imn TB 0],blks:=[dkB 1 2 1,.arr TBk 5,.arr TWr 6],log:=[0,1],outs:=[(.tup [],[dkB 1 2 0,.arr TBk 4,.arr TWr 5]),(.tup [],[dkB 1 3 0,.arr TBk 4,.gone,.arr TWr 5])]}
def ev_d19n:List Dat→Tree (Nat×List Dat):=evFV [(some 0,1,.own TWr)] b1a 19 ls0 k1u
theorem l1h: ∃op,IsF ev_d19n 19 k1u op:=bxFV s0t (LsOk.none _ _ _)
def i1y:OpA:=opF l1h
theorem k1c {l0:List (Ty.den TB)}{n1:Int}{b2:Bool}{n3:Int}{b4:Bool}{l5:List (Ty.den TBk)}{l6:List (Ty.den TWr)}{n7:Int}{b8:Bool}{n9:Int}{b10:Bool}{l11:List (Ty.den TB)}{l12:List (Ty.den TBk)}{l13:List (Ty.den TWr)}(h0:(b4=true))(h1:(w0t [.n n1,.b b2,.n n3,.b b4,.l TB l0,.l TBk l5,.l TWr l6])=(some (0,[.n n7,.b b8,.n n9,.b b10,.l TB l11,.l TBk l12,.l TWr l13]))):i1y [.l TB l0,.n n1,.b b2,.n n3,.b b4,.l TBk l5,.l TWr l6]=some ((1,[.n n7,.b false,.n n9,.b false,.l TBk l12,.l TWr l13])):=a0h l1h (sP [0]<|sT h0<|sP [1]<|sA h1<|sP [1,1,1]<|sL)
def j1f:FuncId→Option a0i:=f0e 19 [k1u.k i1y] b1a
theorem i1p:CsOk Try.prog j1f:=csA1 s0t l1h
def l1e:LSh:={K:=0,log:=[],ins:=[(sh 23 [(0,.str 0),(1,.str 1),(2,.str 2),(7,.int .i64 3)],[])],nils:=[],outs:=[(.exit 0,sh 23 [],[]),(.ret,sh 23 [(6,.bool 0)],[])],cv:=[]}
def i1o:List Dat→Tree Step:=evL j1f 21 2 ls0 l1e
theorem j1b: ∃op,IsL i1o 21 2 l1e op:=bxL i1p (LsOk.none _ _ _)
def k1a:OpA:=opL j1b
theorem j1l (env:List Dat):k1a env=b0n i1o FU env:=e0v j1b env
abbrev l1m:MBox:=boxL j1b
theorem j1k {s0 s1 s2:ByteArray}{n3:Int}(g0:0≤n3)(h0:(n3≤(↑(ByteArray.size s0):Int)))(h1:((decide ((0:Int)≤n3)&&decide (n3≤(↑(ByteArray.size s2):Int)))=true))(h2:((decide ((0:Int)≤n3)&&decide (n3≤(↑(ByteArray.size s1):Int)))=true))(h3:(ByteArray.size (ByteArray.extract s2 0 (Int.toNat n3))+ByteArray.size (ByteArray.extract s1 (Int.toNat n3) (Int.toNat (↑(ByteArray.size s1):Int)))≤9223372036854775807))(h4:(b0y s0 (ByteArray.extract s2 0 (Int.toNat n3)++ByteArray.extract s1 (Int.toNat n3) (Int.toNat (↑(ByteArray.size s1):Int)))=true)):(i1o [.k 0,.s s0,.s s1,.s s2,.n n3]).sel=some (Step.stop 1 [.b true]):=sP [1]<|sT (dt h0)<|sT h1<|sTs (c:=(true&&decide ((0:Int)≤n3)))<|sTs (c:=(true&&decide ((↑(ByteArray.size s1):Int)≤(↑(ByteArray.size s1):Int))))<|sT h2<|sT (dt h3)<|sP [1]<|sT h4<|sP [1]<|sL
theorem j1i {s0 s1 s2:ByteArray}{n3:Int}(g0:0≤n3)(h0:(n3≤(↑(ByteArray.size s0):Int)))(h1:((decide ((0:Int)≤n3)&&decide (n3≤(↑(ByteArray.size s2):Int)))=true))(h2:((decide ((0:Int)≤n3)&&decide (n3≤(↑(ByteArray.size s1):Int)))=true))(h3:(ByteArray.size (ByteArray.extract s2 0 (Int.toNat n3))+ByteArray.size (ByteArray.extract s1 (Int.toNat n3) (Int.toNat (↑(ByteArray.size s1):Int)))≤9223372036854775807))(h4:(b0y s0 (ByteArray.extract s2 0 (Int.toNat n3)++ByteArray.extract s1 (Int.toNat n3) (Int.toNat (↑(ByteArray.size s1):Int)))=false)):(i1o [.k 0,.s s0,.s s1,.s s2,.n n3]).sel=some (Step.go [.k 0,.s s0,.s s1,.s s2,.n (IntKind.wrap .i64 (n3+(1:Int)))]):=sP [1]<|sT (dt h0)<|sT h1<|sTs (c:=(true&&decide ((0:Int)≤n3)))<|sTs (c:=(true&&decide ((↑(ByteArray.size s1):Int)≤(↑(ByteArray.size s1):Int))))<|sT h2<|sT (dt h3)<|sP [1]<|sF h4<|sP [1]<|sL
def S_t21:BSh:={args:=[.str 0,.str 1,.str 2],blks:=[],log:=[],outs:=[(.bool 0,[])]}
def ev_t21:List Dat→Tree (Nat×List Dat):=evF j1f 21 (lsM [(2,l1m)] 0) S_t21
theorem e_t21: ∃op,IsF ev_t21 21 S_t21 op:=bxF i1p (lsE (lsC (d0a j1b) (atF) lsZ))
def j1a:OpA:=opF e_t21
theorem k1z {s0 s1 s2:ByteArray}{b3:Bool}(h0:(k1a [.k 0,.s s0,.s s1,.s s2,.n (0:Int)])=(some (1,[.b b3]))):j1a [.s s0,.s s1,.s s2]=some ((0,[.b b3])):=a0h e_t21 (sA h0<|sP [0,1,1]<|sL)
def i1w:FuncId→Option a0i:=j0z 21 (S_t21.k j1a) j1f
theorem i1n:CsOk Try.prog i1w:=csL1 i1p e_t21
def R_4_7:LSh:={K:=0,log:=[],ins:=[(sh 199 [(0,.imm a0f 0),(5,.ptr 0 0),(6,.own 1),(7,.own 2),(8,.int .i64 1)],[dkB 3 4 2,.arr TS 6,.arr TS 7,.arr TBk 8,.arr TWr 9])],nils:=[],outs:=[(.exit 0,sh 199 [(0,.imm a0f 0),(5,.ptr 0 0),(6,.own 1),(7,.own 2)],[dkB 3 4 1,.arr TS 5,.arr TS 6,.arr TBk 7,.arr TWr 8])],cv:=[]}
def j1h:List Dat→Tree Step:=evL i1w 4 7 ls0 R_4_7
theorem l1s: ∃op,IsL j1h 4 7 R_4_7 op:=bxL i1n (LsOk.none _ _ _)
def j1z:OpA:=opL l1s
theorem l1k (env:List Dat):j1z env=b0n j1h FU env:=e0v l1s env
abbrev Bx_4_7:MBox:=boxL l1s
theorem l1f {l0:List (Ty.den a0f)}{n1 n2:Int}{b3:Bool}{n4:Int}{b5:Bool}{l6 l7:List (Ty.den TS)}{l8:List (Ty.den TBk)}{l9:List (Ty.den TWr)}(g0:0≤n1)(h0:(n1<(8:Int)))(h1:(inR n1 (List.length l6)=true))(h2:(inR n1 (List.length (List.set l6 (Int.toNat n1) (a0e (List.replicate 256 (0:Int)))))=true))(h3:(inR n1 (List.length l7)=true)):(j1h [.k 0,.l a0f l0,.n n1,.n n2,.b b3,.n n4,.b b5,.l TS l6,.l TS l7,.l TBk l8,.l TWr l9]).sel=some (Step.go [.k 0,.l a0f l0,.n (IntKind.wrap .i64 (n1+(1:Int))),.n n2,.b b3,.n n4,.b b5,.l TS (List.set l6 (Int.toNat n1) (a0e (List.replicate 256 (0:Int)))),.l TS (List.set l7 (Int.toNat n1) (List.getD (List.set l6 (Int.toNat n1) (a0e (List.replicate 256 (0:Int)))) (Int.toNat n1) (Ty.dflt TS))),.l TBk l8,.l TWr l9]):=sP [1]<|sT (dt h0)<|sP [1]<|sT h1<|sT h2<|sT h3<|sP [1]<|sL
theorem l1j {l0:List (Ty.den a0f)}{n1 n2:Int}{b3:Bool}{n4:Int}{b5:Bool}{l6 l7:List (Ty.den TS)}{l8:List (Ty.den TBk)}{l9:List (Ty.den TWr)}(g0:0≤n1)(h0:(¬n1<(8:Int))):(j1h [.k 0,.l a0f l0,.n n1,.n n2,.b b3,.n n4,.b b5,.l TS l6,.l TS l7,.l TBk l8,.l TWr l9]).sel=some (Step.stop 0 [.l a0f l0,.n n2,.b b3,.n n4,.b b5,.l TS l6,.l TS l7,.l TBk l8,.l TWr l9]):=sP [1]<|sF (df h0)<|sP [1]<|sL
def R_4_19:LSh:={K:=0,log:=[],ins:=[(sh 199 [(0,.imm a0f 0),(5,.ptr 0 0),(6,.own 1),(7,.own 2),(10,.int .i64 1),(11,.int .i64 2),(12,.int .i64 3)],[dkB 3 4 4,.arr TS 8,.arr TS 9,.arr TBk 10,.arr TWr 11])],nils:=[],outs:=[(.exit 4,sh 199 [(0,.imm a0f 0),(5,.ptr 0 0),(6,.own 1),(7,.own 2),(10,.int .i64 1),(11,.int .i64 2)],[dkB 3 4 3,.arr TS 7,.arr TS 8,.arr TBk 9,.arr TWr 10])],cv:=[]}
def i1x:List Dat→Tree Step:=evL i1w 4 19 ls0 R_4_19
theorem j1t: ∃op,IsL i1x 4 19 R_4_19 op:=bxL i1n (LsOk.none _ _ _)
def i1t:OpA:=opL j1t
theorem k1l (env:List Dat):i1t env=b0n i1x FU env:=e0v j1t env
abbrev Bx_4_19:MBox:=boxL j1t
theorem k1o {l0:List (Ty.den a0f)}{n1 n2 n3 n4:Int}{b5:Bool}{n6:Int}{b7:Bool}{l8 l9:List (Ty.den TS)}{l10:List (Ty.den TBk)}{l11:List (Ty.den TWr)}(g0:0≤n3)(h0:(n3<(8:Int)))(h1:(inR n3 (List.length l9)=true))(h2:(inR n3 (List.length l8)=true)):(i1x [.k 0,.l a0f l0,.n n1,.n n2,.n n3,.n n4,.b b5,.n n6,.b b7,.l TS l8,.l TS l9,.l TBk l10,.l TWr l11]).sel=some (Step.go [.k 0,.l a0f l0,.n n1,.n n2,.n (IntKind.wrap .i64 (n3+(1:Int))),.n n4,.b b5,.n n6,.b b7,.l TS (List.set l8 (Int.toNat n3) (List.getD l9 (Int.toNat n3) (Ty.dflt TS))),.l TS l9,.l TBk l10,.l TWr l11]):=sP [1]<|sT (dt h0)<|sT h1<|sT h2<|sP [1]<|sL
theorem k1j {l0:List (Ty.den a0f)}{n1 n2 n3 n4:Int}{b5:Bool}{n6:Int}{b7:Bool}{l8 l9:List (Ty.den TS)}{l10:List (Ty.den TBk)}{l11:List (Ty.den TWr)}(g0:0≤n3)(h0:(¬n3<(8:Int))):(i1x [.k 0,.l a0f l0,.n n1,.n n2,.n n3,.n n4,.b b5,.n n6,.b b7,.l TS l8,.l TS l9,.l TBk l10,.l TWr l11]).sel=some (Step.stop 0 [.l a0f l0,.n n1,.n n2,.n n4,.b b5,.n n6,.b b7,.l TS l8,.l TS l9,.l TBk l10,.l TWr l11]):=sP [1]<|sF (df h0)<|sP [1]<|sL
def R_4_27:LSh:={K:=0,log:=[],ins:=[(sh 199 [(0,.imm a0f 0),(5,.ptr 0 0),(6,.own 1),(7,.own 2),(9,.own 3),(10,.int .i64 1),(11,.int .i64 2),(13,.own 4),(14,.int .i64 3)],[dkB 5 6 4,.arr TS 8,.arr TS 9,.arr TBo 10,.arr TB 11,.arr TBk 12,.arr TWr 13])],nils:=[],outs:=[(.exit 6,sh 199 [(0,.imm a0f 0),(5,.ptr 0 0),(6,.own 1),(7,.own 2),(9,.own 3),(10,.int .i64 1),(11,.int .i64 2),(13,.own 4)],[dkB 5 6 3,.arr TS 7,.arr TS 8,.arr TBo 9,.arr TB 10,.arr TBk 11,.arr TWr 12])],cv:=[]}
def i1v:List Dat→Tree Step:=evL i1w 4 27 ls0 R_4_27
theorem j1y: ∃op,IsL i1v 4 27 R_4_27 op:=bxL i1n (LsOk.none _ _ _)
def i1q:OpA:=opL j1y
theorem k1d (env:List Dat):i1q env=b0n i1v FU env:=e0v j1y env
abbrev Bx_4_27:MBox:=boxL j1y
theorem k1p {l0:List (Ty.den a0f)}{n1 n2 n3 n4:Int}{b5:Bool}{n6:Int}{b7:Bool}{l8 l9:List (Ty.den TS)}{l10:List (Ty.den TBo)}{l11:List (Ty.den TB)}{l12:List (Ty.den TBk)}{l13:List (Ty.den TWr)}(g0:0≤n3)(h0:(inR n1 (List.length l0)=true))(h1:(n3<(↑(List.length (Prod.fst (Prod.snd (Prod.snd (List.getD l0 (Int.toNat n1) (Ty.dflt a0f)))))):Int)))(h2:(inR n3 (List.length l11)=true)):(i1v [.k 0,.l a0f l0,.n n1,.n n2,.n n3,.n n4,.b b5,.n n6,.b b7,.l TS l8,.l TS l9,.l TBo l10,.l TB l11,.l TBk l12,.l TWr l13]).sel=some (Step.go [.k 0,.l a0f l0,.n n1,.n n2,.n (IntKind.wrap .i64 (n3+(1:Int))),.n n4,.b b5,.n n6,.b b7,.l TS l8,.l TS l9,.l TBo l10,.l TB (List.set l11 (Int.toNat n3) (List.getD (Prod.fst (Prod.snd (Prod.snd (List.getD l0 (Int.toNat n1) (Ty.dflt a0f))))) (Int.toNat n3) (0:Int))),.l TBk l12,.l TWr l13]):=sP [1]<|sT h0<|sT (dt h1)<|sT h0<|sTo (c:=(inR n3 (List.length (Prod.fst (Prod.snd (Prod.snd (List.getD l0 (Int.toNat n1) (Ty.dflt a0f))))))))<|sT h2<|sP [1]<|sL
theorem k1b {l0:List (Ty.den a0f)}{n1 n2 n3 n4:Int}{b5:Bool}{n6:Int}{b7:Bool}{l8 l9:List (Ty.den TS)}{l10:List (Ty.den TBo)}{l11:List (Ty.den TB)}{l12:List (Ty.den TBk)}{l13:List (Ty.den TWr)}(g0:0≤n3)(h0:(inR n1 (List.length l0)=true))(h1:(¬n3<(↑(List.length (Prod.fst (Prod.snd (Prod.snd (List.getD l0 (Int.toNat n1) (Ty.dflt a0f)))))):Int))):(i1v [.k 0,.l a0f l0,.n n1,.n n2,.n n3,.n n4,.b b5,.n n6,.b b7,.l TS l8,.l TS l9,.l TBo l10,.l TB l11,.l TBk l12,.l TWr l13]).sel=some (Step.stop 0 [.l a0f l0,.n n1,.n n2,.n n4,.b b5,.n n6,.b b7,.l TS l8,.l TS l9,.l TBo l10,.l TB l11,.l TBk l12,.l TWr l13]):=sP [1]<|sT h0<|sF (df h1)<|sP [1]<|sL
def R_4_13:LSh:={K:=0,log:=[],ins:=[(sh 199 [(0,.imm a0f 0),(5,.ptr 0 0),(6,.own 1),(7,.own 2),(9,.own 3),(10,.int .i64 1)],[dkB 4 5 2,.arr TS 6,.arr TS 7,.arr TBo 8,.arr TBk 9,.arr TWr 10])],nils:=[],outs:=[(.exit 2,sh 199 [(0,.imm a0f 0),(5,.ptr 0 0),(6,.own 1),(7,.own 2),(9,.own 3)],[dkB 4 5 1,.arr TS 5,.arr TS 6,.arr TBo 7,.arr TBk 8,.arr TWr 9])],cv:=[]}
def i1l:List Dat→Tree Step:=evL i1w 4 13 (lsM [(19,Bx_4_19),(27,Bx_4_27)] 0) R_4_13
theorem j1x: ∃op,IsL i1l 4 13 R_4_13 op:=bxL i1n (lsE (lsC (d0a j1t) (by kernel_rfl) (lsC (d0a j1y) (by kernel_rfl) lsZ)))
def j1c:OpA:=opL j1x
theorem k1m (env:List Dat):j1c env=b0n i1l FU env:=e0v j1x env
abbrev Bx_4_13:MBox:=boxL j1x
theorem k1q {l0:List (Ty.den a0f)}{n1 n2:Int}{b3:Bool}{n4:Int}{b5:Bool}{l6 l7:List (Ty.den TS)}{l8:List (Ty.den TBo)}{l9:List (Ty.den TBk)}{l10:List (Ty.den TWr)}{n11 n12:Int}{b13:Bool}{n14:Int}{b15:Bool}{l16:List (Ty.den TBk)}{l17:List (Ty.den TWr)}(g0:0≤n1)(h0:(n1<(↑(List.length l0):Int)))(h1:(b5=false))(h2:(inR (iand IntKind.i64 (Prod.fst (Prod.snd (List.getD l0 (Int.toNat n1) (Ty.dflt a0f)))) (7:Int)) (List.length l8)=true))(h3:(List.getD l8 (Int.toNat (iand IntKind.i64 (Prod.fst (Prod.snd (List.getD l0 (Int.toNat n1) (Ty.dflt a0f)))) (7:Int))) false=true))(h4:(k0e [.n n2,.b b3,.n n4,.b b5,.l TBk l9,.l TWr l10])=(some (0,[.n n11,.n n12,.b b13,.n n14,.b b15,.l TBk l16,.l TWr l17])))(h5:(¬n11=(0:Int)))(h6:(b15=true)):(i1l [.k 0,.l a0f l0,.n n1,.n n2,.b b3,.n n4,.b b5,.l TS l6,.l TS l7,.l TBo l8,.l TBk l9,.l TWr l10]).sel=some (Step.go [.k 0,.l a0f l0,.n (IntKind.wrap .i64 (n1+(1:Int))),.n n12,.b b13,.n n14,.b b15,.l TS l6,.l TS l7,.l TBo l8,.l TBk l16,.l TWr l10]):=sP [1]<|sT (dt h0)<|sP [1,0,1]<|sT (nf h1)<|sTo (c:=(inR n1 (List.length l0)))<|sT h2<|sT h3<|sP [1,1,1]<|sA h4<|sP [1,1]<|sF (bf h5)<|sP [1,0,1]<|sT h6<|sP [1,1,1]<|sL
theorem k1n {l0:List (Ty.den a0f)}{n1 n2:Int}{b3:Bool}{n4:Int}{b5:Bool}{l6 l7:List (Ty.den TS)}{l8:List (Ty.den TBo)}{l9:List (Ty.den TBk)}{l10:List (Ty.den TWr)}{n11 n12:Int}{b13:Bool}{n14:Int}{b15:Bool}{l16:List (Ty.den TBk)}{l17:List (Ty.den TWr)}{l18:List (Ty.den a0f)}{n19 n20 n21:Int}{b22:Bool}{n23:Int}{b24:Bool}{l25 l26:List (Ty.den TS)}{l27:List (Ty.den TBk)}{l28:List (Ty.den TWr)}(g0:0≤n1)(h0:(n1<(↑(List.length l0):Int)))(h1:(b5=false))(h2:(inR (iand IntKind.i64 (Prod.fst (Prod.snd (List.getD l0 (Int.toNat n1) (Ty.dflt a0f)))) (7:Int)) (List.length l8)=true))(h3:(List.getD l8 (Int.toNat (iand IntKind.i64 (Prod.fst (Prod.snd (List.getD l0 (Int.toNat n1) (Ty.dflt a0f)))) (7:Int))) false=true))(h4:(k0e [.n n2,.b b3,.n n4,.b b5,.l TBk l9,.l TWr l10])=(some (1,[.n n11,.n n12,.b b13,.n n14,.b b15,.l TBk l16,.l TWr l17])))(h5:(n11=(0:Int)))(h6:(i1t [.k 0,.l a0f l0,.n n1,.n (iand IntKind.i64 (Prod.fst (Prod.snd (List.getD l0 (Int.toNat n1) (Ty.dflt a0f)))) (7:Int)),.n (0:Int),.n n12,.b b13,.n n14,.b b15,.l TS l6,.l TS l7,.l TBk l16,.l TWr l17])=(some (0,[.l a0f l18,.n n19,.n n20,.n n21,.b b22,.n n23,.b b24,.l TS l25,.l TS l26,.l TBk l27,.l TWr l28])))(h7:(b24=false))(h8:(inR n19 (List.length l18)=true))(h9:((↑(List.length (Prod.fst (Prod.snd (Prod.snd (List.getD l18 (Int.toNat n19) (Ty.dflt a0f)))))):Int)>(256:Int))):(i1l [.k 0,.l a0f l0,.n n1,.n n2,.b b3,.n n4,.b b5,.l TS l6,.l TS l7,.l TBo l8,.l TBk l9,.l TWr l10]).sel=some (Step.go [.k 0,.l a0f l18,.n (IntKind.wrap .i64 (n19+(1:Int))),.n n21,.b b22,.n n23,.b b24,.l TS l25,.l TS l26,.l TBo [false,false,false,false,false,false,false,false],.l TBk l27,.l TWr l28]):=sP [1]<|sT (dt h0)<|sP [1,0,1]<|sT (nf h1)<|sTo (c:=(inR n1 (List.length l0)))<|sT h2<|sT h3<|sP [1,1,1]<|sA h4<|sP [0,1,1]<|sT (bt h5)<|sA h6<|sP [1,1,1,0,1]<|sF h7<|sT h8<|sT (dt h9)<|sP [1]<|sL
theorem k1e {l0:List (Ty.den a0f)}{n1 n2:Int}{b3:Bool}{n4:Int}{b5:Bool}{l6 l7:List (Ty.den TS)}{l8:List (Ty.den TBo)}{l9:List (Ty.den TBk)}{l10:List (Ty.den TWr)}{n11 n12:Int}{b13:Bool}{n14:Int}{b15:Bool}{l16:List (Ty.den TBk)}{l17:List (Ty.den TWr)}{l18:List (Ty.den a0f)}{n19 n20 n21:Int}{b22:Bool}{n23:Int}{b24:Bool}{l25 l26:List (Ty.den TS)}{l27:List (Ty.den TBk)}{l28:List (Ty.den TWr)}{n29 n30:Int}{b31:Bool}{n32:Int}{b33:Bool}{l34:List (Ty.den TBk)}{l35:List (Ty.den TWr)}{l36:List (Ty.den a0f)}{n37 n38 n39:Int}{b40:Bool}{n41:Int}{b42:Bool}{l43 l44:List (Ty.den TS)}{l45:List (Ty.den TBo)}{l46:List (Ty.den TB)}{l47:List (Ty.den TBk)}{l48:List (Ty.den TWr)}(g0:0≤n1)(h0:(n1<(↑(List.length l0):Int)))(h1:(b5=false))(h2:(inR (iand IntKind.i64 (Prod.fst (Prod.snd (List.getD l0 (Int.toNat n1) (Ty.dflt a0f)))) (7:Int)) (List.length l8)=true))(h3:(List.getD l8 (Int.toNat (iand IntKind.i64 (Prod.fst (Prod.snd (List.getD l0 (Int.toNat n1) (Ty.dflt a0f)))) (7:Int))) false=true))(h4:(k0e [.n n2,.b b3,.n n4,.b b5,.l TBk l9,.l TWr l10])=(some (1,[.n n11,.n n12,.b b13,.n n14,.b b15,.l TBk l16,.l TWr l17])))(h5:(n11=(0:Int)))(h6:(i1t [.k 0,.l a0f l0,.n n1,.n (iand IntKind.i64 (Prod.fst (Prod.snd (List.getD l0 (Int.toNat n1) (Ty.dflt a0f)))) (7:Int)),.n (0:Int),.n n12,.b b13,.n n14,.b b15,.l TS l6,.l TS l7,.l TBk l16,.l TWr l17])=(some (0,[.l a0f l18,.n n19,.n n20,.n n21,.b b22,.n n23,.b b24,.l TS l25,.l TS l26,.l TBk l27,.l TWr l28])))(h7:(b24=false))(h8:(inR n19 (List.length l18)=true))(h9:(¬(↑(List.length (Prod.fst (Prod.snd (Prod.snd (List.getD l18 (Int.toNat n19) (Ty.dflt a0f)))))):Int)>(256:Int)))(h10:(i1m [.n n20,.l TB (Prod.fst (Prod.snd (Prod.snd (List.getD l18 (Int.toNat n19) (Ty.dflt a0f))))),.n n21,.b b22,.n n23,.b b24,.l TBk l27,.l TWr l28])=(some (0,[.n n29,.n n30,.b b31,.n n32,.b b33,.l TBk l34,.l TWr l35])))(h11:(i1q [.k 0,.l a0f l18,.n n19,.n n20,.n (0:Int),.n n30,.b b31,.n n32,.b b33,.l TS l25,.l TS l26,.l TBo [false,false,false,false,false,false,false,false],.l TB (List.replicate 256 (0:Int)),.l TBk l27,.l TWr l35])=(some (0,[.l a0f l36,.n n37,.n n38,.n n39,.b b40,.n n41,.b b42,.l TS l43,.l TS l44,.l TBo l45,.l TB l46,.l TBk l47,.l TWr l48])))(h12:(inR n38 (List.length l44)=true))(h13:(inR n38 (List.length l45)=true)):(i1l [.k 0,.l a0f l0,.n n1,.n n2,.b b3,.n n4,.b b5,.l TS l6,.l TS l7,.l TBo l8,.l TBk l9,.l TWr l10]).sel=some (Step.go [.k 0,.l a0f l36,.n (IntKind.wrap .i64 (n37+(1:Int))),.n n39,.b b40,.n n41,.b b42,.l TS l43,.l TS (List.set l44 (Int.toNat n38) (a0e l46)),.l TBo (List.set l45 (Int.toNat n38) true),.l TBk l47,.l TWr l48]):=sP [1]<|sT (dt h0)<|sP [1,0,1]<|sT (nf h1)<|sTo (c:=(inR n1 (List.length l0)))<|sT h2<|sT h3<|sP [1,1,1]<|sA h4<|sP [0,1,1]<|sT (bt h5)<|sA h6<|sP [1,1,1,0,1]<|sF h7<|sT h8<|sF (df h9)<|sT h8<|sP [1]<|sA h10<|sP [1,1,1]<|sA h11<|sP [1]<|sT h12<|sT h13<|sP [1]<|sL
theorem j1q {l0:List (Ty.den a0f)}{n1 n2:Int}{b3:Bool}{n4:Int}{b5:Bool}{l6 l7:List (Ty.den TS)}{l8:List (Ty.den TBo)}{l9:List (Ty.den TBk)}{l10:List (Ty.den TWr)}{n11 n12:Int}{b13:Bool}{n14:Int}{b15:Bool}{l16:List (Ty.den TBk)}{l17:List (Ty.den TWr)}(g0:0≤n1)(h0:(n1<(↑(List.length l0):Int)))(h1:(b5=false))(h2:(inR (iand IntKind.i64 (Prod.fst (Prod.snd (List.getD l0 (Int.toNat n1) (Ty.dflt a0f)))) (7:Int)) (List.length l8)=true))(h3:(List.getD l8 (Int.toNat (iand IntKind.i64 (Prod.fst (Prod.snd (List.getD l0 (Int.toNat n1) (Ty.dflt a0f)))) (7:Int))) false=false))(h4:(Int.tmod (Prod.fst (List.getD l0 (Int.toNat n1) (Ty.dflt a0f))) (4:Int)=(0:Int)))(h5:(k0e [.n n2,.b b3,.n n4,.b b5,.l TBk l9,.l TWr l10])=(some (0,[.n n11,.n n12,.b b13,.n n14,.b b15,.l TBk l16,.l TWr l17])))(h6:(¬n11=(0:Int)))(h7:(b15=true)):(i1l [.k 0,.l a0f l0,.n n1,.n n2,.b b3,.n n4,.b b5,.l TS l6,.l TS l7,.l TBo l8,.l TBk l9,.l TWr l10]).sel=some (Step.go [.k 0,.l a0f l0,.n (IntKind.wrap .i64 (n1+(1:Int))),.n n12,.b b13,.n n14,.b b15,.l TS l6,.l TS l7,.l TBo l8,.l TBk l16,.l TWr l10]):=sP [1]<|sT (dt h0)<|sP [1,0,1]<|sT (nf h1)<|sTo (c:=(inR n1 (List.length l0)))<|sT h2<|sF h3<|sTo (c:=(inR n1 (List.length l0)))<|sP [1]<|sT (bt h4)<|sP [1]<|sA h5<|sP [1,1]<|sF (bf h6)<|sP [1,0,1]<|sT h7<|sP [1,1,1]<|sL
theorem j1j {l0:List (Ty.den a0f)}{n1 n2:Int}{b3:Bool}{n4:Int}{b5:Bool}{l6 l7:List (Ty.den TS)}{l8:List (Ty.den TBo)}{l9:List (Ty.den TBk)}{l10:List (Ty.den TWr)}{n11 n12:Int}{b13:Bool}{n14:Int}{b15:Bool}{l16:List (Ty.den TBk)}{l17:List (Ty.den TWr)}{l18:List (Ty.den a0f)}{n19 n20 n21:Int}{b22:Bool}{n23:Int}{b24:Bool}{l25 l26:List (Ty.den TS)}{l27:List (Ty.den TBk)}{l28:List (Ty.den TWr)}(g0:0≤n1)(h0:(n1<(↑(List.length l0):Int)))(h1:(b5=false))(h2:(inR (iand IntKind.i64 (Prod.fst (Prod.snd (List.getD l0 (Int.toNat n1) (Ty.dflt a0f)))) (7:Int)) (List.length l8)=true))(h3:(List.getD l8 (Int.toNat (iand IntKind.i64 (Prod.fst (Prod.snd (List.getD l0 (Int.toNat n1) (Ty.dflt a0f)))) (7:Int))) false=false))(h4:(Int.tmod (Prod.fst (List.getD l0 (Int.toNat n1) (Ty.dflt a0f))) (4:Int)=(0:Int)))(h5:(k0e [.n n2,.b b3,.n n4,.b b5,.l TBk l9,.l TWr l10])=(some (1,[.n n11,.n n12,.b b13,.n n14,.b b15,.l TBk l16,.l TWr l17])))(h6:(n11=(0:Int)))(h7:(i1t [.k 0,.l a0f l0,.n n1,.n (iand IntKind.i64 (Prod.fst (Prod.snd (List.getD l0 (Int.toNat n1) (Ty.dflt a0f)))) (7:Int)),.n (0:Int),.n n12,.b b13,.n n14,.b b15,.l TS l6,.l TS l7,.l TBk l16,.l TWr l17])=(some (0,[.l a0f l18,.n n19,.n n20,.n n21,.b b22,.n n23,.b b24,.l TS l25,.l TS l26,.l TBk l27,.l TWr l28])))(h8:(b24=false))(h9:(inR n19 (List.length l18)=true))(h10:((↑(List.length (Prod.fst (Prod.snd (Prod.snd (List.getD l18 (Int.toNat n19) (Ty.dflt a0f)))))):Int)>(256:Int))):(i1l [.k 0,.l a0f l0,.n n1,.n n2,.b b3,.n n4,.b b5,.l TS l6,.l TS l7,.l TBo l8,.l TBk l9,.l TWr l10]).sel=some (Step.go [.k 0,.l a0f l18,.n (IntKind.wrap .i64 (n19+(1:Int))),.n n21,.b b22,.n n23,.b b24,.l TS l25,.l TS l26,.l TBo [false,false,false,false,false,false,false,false],.l TBk l27,.l TWr l28]):=sP [1]<|sT (dt h0)<|sP [1,0,1]<|sT (nf h1)<|sTo (c:=(inR n1 (List.length l0)))<|sT h2<|sF h3<|sTo (c:=(inR n1 (List.length l0)))<|sP [1]<|sT (bt h4)<|sP [1]<|sA h5<|sP [0,1,1]<|sT (bt h6)<|sA h7<|sP [1,1,1,0,1]<|sF h8<|sT h9<|sT (dt h10)<|sP [1]<|sL
theorem j1p {l0:List (Ty.den a0f)}{n1 n2:Int}{b3:Bool}{n4:Int}{b5:Bool}{l6 l7:List (Ty.den TS)}{l8:List (Ty.den TBo)}{l9:List (Ty.den TBk)}{l10:List (Ty.den TWr)}{n11 n12:Int}{b13:Bool}{n14:Int}{b15:Bool}{l16:List (Ty.den TBk)}{l17:List (Ty.den TWr)}{l18:List (Ty.den a0f)}{n19 n20 n21:Int}{b22:Bool}{n23:Int}{b24:Bool}{l25 l26:List (Ty.den TS)}{l27:List (Ty.den TBk)}{l28:List (Ty.den TWr)}{n29 n30:Int}{b31:Bool}{n32:Int}{b33:Bool}{l34:List (Ty.den TBk)}{l35:List (Ty.den TWr)}{l36:List (Ty.den a0f)}{n37 n38 n39:Int}{b40:Bool}{n41:Int}{b42:Bool}{l43 l44:List (Ty.den TS)}{l45:List (Ty.den TBo)}{l46:List (Ty.den TB)}{l47:List (Ty.den TBk)}{l48:List (Ty.den TWr)}(g0:0≤n1)(h0:(n1<(↑(List.length l0):Int)))(h1:(b5=false))(h2:(inR (iand IntKind.i64 (Prod.fst (Prod.snd (List.getD l0 (Int.toNat n1) (Ty.dflt a0f)))) (7:Int)) (List.length l8)=true))(h3:(List.getD l8 (Int.toNat (iand IntKind.i64 (Prod.fst (Prod.snd (List.getD l0 (Int.toNat n1) (Ty.dflt a0f)))) (7:Int))) false=false))(h4:(Int.tmod (Prod.fst (List.getD l0 (Int.toNat n1) (Ty.dflt a0f))) (4:Int)=(0:Int)))(h5:(k0e [.n n2,.b b3,.n n4,.b b5,.l TBk l9,.l TWr l10])=(some (1,[.n n11,.n n12,.b b13,.n n14,.b b15,.l TBk l16,.l TWr l17])))(h6:(n11=(0:Int)))(h7:(i1t [.k 0,.l a0f l0,.n n1,.n (iand IntKind.i64 (Prod.fst (Prod.snd (List.getD l0 (Int.toNat n1) (Ty.dflt a0f)))) (7:Int)),.n (0:Int),.n n12,.b b13,.n n14,.b b15,.l TS l6,.l TS l7,.l TBk l16,.l TWr l17])=(some (0,[.l a0f l18,.n n19,.n n20,.n n21,.b b22,.n n23,.b b24,.l TS l25,.l TS l26,.l TBk l27,.l TWr l28])))(h8:(b24=false))(h9:(inR n19 (List.length l18)=true))(h10:(¬(↑(List.length (Prod.fst (Prod.snd (Prod.snd (List.getD l18 (Int.toNat n19) (Ty.dflt a0f)))))):Int)>(256:Int)))(h11:(i1m [.n n20,.l TB (Prod.fst (Prod.snd (Prod.snd (List.getD l18 (Int.toNat n19) (Ty.dflt a0f))))),.n n21,.b b22,.n n23,.b b24,.l TBk l27,.l TWr l28])=(some (0,[.n n29,.n n30,.b b31,.n n32,.b b33,.l TBk l34,.l TWr l35])))(h12:(i1q [.k 0,.l a0f l18,.n n19,.n n20,.n (0:Int),.n n30,.b b31,.n n32,.b b33,.l TS l25,.l TS l26,.l TBo [false,false,false,false,false,false,false,false],.l TB (List.replicate 256 (0:Int)),.l TBk l27,.l TWr l35])=(some (0,[.l a0f l36,.n n37,.n n38,.n n39,.b b40,.n n41,.b b42,.l TS l43,.l TS l44,.l TBo l45,.l TB l46,.l TBk l47,.l TWr l48])))(h13:(inR n38 (List.length l44)=true))(h14:(inR n38 (List.length l45)=true)):(i1l [.k 0,.l a0f l0,.n n1,.n n2,.b b3,.n n4,.b b5,.l TS l6,.l TS l7,.l TBo l8,.l TBk l9,.l TWr l10]).sel=some (Step.go [.k 0,.l a0f l36,.n (IntKind.wrap .i64 (n37+(1:Int))),.n n39,.b b40,.n n41,.b b42,.l TS l43,.l TS (List.set l44 (Int.toNat n38) (a0e l46)),.l TBo (List.set l45 (Int.toNat n38) true),.l TBk l47,.l TWr l48]):=sP [1]<|sT (dt h0)<|sP [1,0,1]<|sT (nf h1)<|sTo (c:=(inR n1 (List.length l0)))<|sT h2<|sF h3<|sTo (c:=(inR n1 (List.length l0)))<|sP [1]<|sT (bt h4)<|sP [1]<|sA h5<|sP [0,1,1]<|sT (bt h6)<|sA h7<|sP [1,1,1,0,1]<|sF h8<|sT h9<|sF (df h10)<|sT h9<|sP [1]<|sA h11<|sP [1,1,1]<|sA h12<|sP [1]<|sT h13<|sT h14<|sP [1]<|sL
theorem j1s {l0:List (Ty.den a0f)}{n1 n2:Int}{b3:Bool}{n4:Int}{b5:Bool}{l6 l7:List (Ty.den TS)}{l8:List (Ty.den TBo)}{l9:List (Ty.den TBk)}{l10:List (Ty.den TWr)}(g0:0≤n1)(h0:(n1<(↑(List.length l0):Int)))(h1:(b5=false))(h2:(inR (iand IntKind.i64 (Prod.fst (Prod.snd (List.getD l0 (Int.toNat n1) (Ty.dflt a0f)))) (7:Int)) (List.length l8)=true))(h3:(List.getD l8 (Int.toNat (iand IntKind.i64 (Prod.fst (Prod.snd (List.getD l0 (Int.toNat n1) (Ty.dflt a0f)))) (7:Int))) false=false))(h4:(¬Int.tmod (Prod.fst (List.getD l0 (Int.toNat n1) (Ty.dflt a0f))) (4:Int)=(0:Int)))(h5:((↑(List.length (Prod.fst (Prod.snd (Prod.snd (List.getD l0 (Int.toNat n1) (Ty.dflt a0f)))))):Int)>(256:Int))):(i1l [.k 0,.l a0f l0,.n n1,.n n2,.b b3,.n n4,.b b5,.l TS l6,.l TS l7,.l TBo l8,.l TBk l9,.l TWr l10]).sel=some (Step.go [.k 0,.l a0f l0,.n (IntKind.wrap .i64 (n1+(1:Int))),.n n2,.b b3,.n n4,.b b5,.l TS l6,.l TS l7,.l TBo l8,.l TBk l9,.l TWr l10]):=sP [1]<|sT (dt h0)<|sP [1,0,1]<|sT (nf h1)<|sTo (c:=(inR n1 (List.length l0)))<|sT h2<|sF h3<|sTo (c:=(inR n1 (List.length l0)))<|sP [1]<|sF (bf h4)<|sP [1,0,1]<|sFs (c:=(b5))<|sTo (c:=(inR n1 (List.length l0)))<|sT (dt h5)<|sP [1]<|sL
theorem j1r {l0:List (Ty.den a0f)}{n1 n2:Int}{b3:Bool}{n4:Int}{b5:Bool}{l6 l7:List (Ty.den TS)}{l8:List (Ty.den TBo)}{l9:List (Ty.den TBk)}{l10:List (Ty.den TWr)}{n11 n12:Int}{b13:Bool}{n14:Int}{b15:Bool}{l16:List (Ty.den TBk)}{l17:List (Ty.den TWr)}{l18:List (Ty.den a0f)}{n19 n20 n21:Int}{b22:Bool}{n23:Int}{b24:Bool}{l25 l26:List (Ty.den TS)}{l27:List (Ty.den TBo)}{l28:List (Ty.den TB)}{l29:List (Ty.den TBk)}{l30:List (Ty.den TWr)}(g0:0≤n1)(h0:(n1<(↑(List.length l0):Int)))(h1:(b5=false))(h2:(inR (iand IntKind.i64 (Prod.fst (Prod.snd (List.getD l0 (Int.toNat n1) (Ty.dflt a0f)))) (7:Int)) (List.length l8)=true))(h3:(List.getD l8 (Int.toNat (iand IntKind.i64 (Prod.fst (Prod.snd (List.getD l0 (Int.toNat n1) (Ty.dflt a0f)))) (7:Int))) false=false))(h4:(¬Int.tmod (Prod.fst (List.getD l0 (Int.toNat n1) (Ty.dflt a0f))) (4:Int)=(0:Int)))(h5:(¬(↑(List.length (Prod.fst (Prod.snd (Prod.snd (List.getD l0 (Int.toNat n1) (Ty.dflt a0f)))))):Int)>(256:Int)))(h6:(i1m [.n (iand IntKind.i64 (Prod.fst (Prod.snd (List.getD l0 (Int.toNat n1) (Ty.dflt a0f)))) (7:Int)),.l TB (Prod.fst (Prod.snd (Prod.snd (List.getD l0 (Int.toNat n1) (Ty.dflt a0f))))),.n n2,.b b3,.n n4,.b b5,.l TBk l9,.l TWr l10])=(some (0,[.n n11,.n n12,.b b13,.n n14,.b b15,.l TBk l16,.l TWr l17])))(h7:(i1q [.k 0,.l a0f l0,.n n1,.n (iand IntKind.i64 (Prod.fst (Prod.snd (List.getD l0 (Int.toNat n1) (Ty.dflt a0f)))) (7:Int)),.n (0:Int),.n n12,.b b13,.n n14,.b b15,.l TS l6,.l TS l7,.l TBo l8,.l TB (List.replicate 256 (0:Int)),.l TBk l9,.l TWr l17])=(some (0,[.l a0f l18,.n n19,.n n20,.n n21,.b b22,.n n23,.b b24,.l TS l25,.l TS l26,.l TBo l27,.l TB l28,.l TBk l29,.l TWr l30])))(h8:(inR n20 (List.length l26)=true))(h9:(inR n20 (List.length l27)=true)):(i1l [.k 0,.l a0f l0,.n n1,.n n2,.b b3,.n n4,.b b5,.l TS l6,.l TS l7,.l TBo l8,.l TBk l9,.l TWr l10]).sel=some (Step.go [.k 0,.l a0f l18,.n (IntKind.wrap .i64 (n19+(1:Int))),.n n21,.b b22,.n n23,.b b24,.l TS l25,.l TS (List.set l26 (Int.toNat n20) (a0e l28)),.l TBo (List.set l27 (Int.toNat n20) true),.l TBk l29,.l TWr l30]):=sP [1]<|sT (dt h0)<|sP [1,0,1]<|sT (nf h1)<|sTo (c:=(inR n1 (List.length l0)))<|sT h2<|sF h3<|sTo (c:=(inR n1 (List.length l0)))<|sP [1]<|sF (bf h4)<|sP [1,0,1]<|sFs (c:=(b5))<|sTo (c:=(inR n1 (List.length l0)))<|sF (df h5)<|sTo (c:=(inR n1 (List.length l0)))<|sP [1]<|sA h6<|sP [1,1,1]<|sA h7<|sP [1]<|sT h8<|sT h9<|sP [1]<|sL
theorem j1n {l0:List (Ty.den a0f)}{n1 n2:Int}{b3:Bool}{n4:Int}{b5:Bool}{l6 l7:List (Ty.den TS)}{l8:List (Ty.den TBo)}{l9:List (Ty.den TBk)}{l10:List (Ty.den TWr)}(g0:0≤n1)(h0:(n1<(↑(List.length l0):Int)))(h1:(b5=true)):(i1l [.k 0,.l a0f l0,.n n1,.n n2,.b b3,.n n4,.b b5,.l TS l6,.l TS l7,.l TBo l8,.l TBk l9,.l TWr l10]).sel=some (Step.stop 0 [.l a0f l0,.n n2,.b b3,.n n4,.b b5,.l TS l6,.l TS l7,.l TBo l8,.l TBk l9,.l TWr l10]):=sP [1]<|sT (dt h0)<|sP [1,0,1]<|sF (nt h1)<|sP [1]<|sL
theorem j1o {l0:List (Ty.den a0f)}{n1 n2:Int}{b3:Bool}{n4:Int}{b5:Bool}{l6 l7:List (Ty.den TS)}{l8:List (Ty.den TBo)}{l9:List (Ty.den TBk)}{l10:List (Ty.den TWr)}(g0:0≤n1)(h0:(¬n1<(↑(List.length l0):Int))):(i1l [.k 0,.l a0f l0,.n n1,.n n2,.b b3,.n n4,.b b5,.l TS l6,.l TS l7,.l TBo l8,.l TBk l9,.l TWr l10]).sel=some (Step.stop 0 [.l a0f l0,.n n2,.b b3,.n n4,.b b5,.l TS l6,.l TS l7,.l TBo l8,.l TBk l9,.l TWr l10]):=sP [1]<|sF (df h0)<|sP [0,0,1]<|sL
def R_4_38:LSh:={K:=0,log:=[],ins:=[(sh 199 [(5,.ptr 0 0),(6,.own 1),(7,.own 2),(9,.own 3),(16,.int .i64 0)],[dkB 4 5 1,.arr TS 5,.arr TS 6,.arr TBo 7,.arr TBk 8,.arr TWr 9])],nils:=[],outs:=[(.exit 8,sh 199 [],[]),(.ret,sh 199 [(4,.bool 0)],[])],cv:=[]}
def i1s:List Dat→Tree Step:=evL i1w 4 38 ls0 R_4_38
theorem j1v: ∃op,IsL i1s 4 38 R_4_38 op:=bxL i1n (LsOk.none _ _ _)
def j1e:OpA:=opL j1v
theorem k1g (env:List Dat):j1e env=b0n i1s FU env:=e0v j1v env
abbrev Bx_4_38:MBox:=boxL j1v
theorem k1k {n0 n1:Int}{b2:Bool}{n3:Int}{b4:Bool}{l5 l6:List (Ty.den TS)}{l7:List (Ty.den TBo)}{l8:List (Ty.den TBk)}{l9:List (Ty.den TWr)}{n10 n11:Int}{b12:Bool}{n13:Int}{b14:Bool}{l15:List (Ty.den TBk)}{l16:List (Ty.den TWr)}{l17:List (Ty.den TB)}{b18:Bool}(g0:0≤n0)(h0:(n0<(8:Int)))(h1:(h0k [.n n0,.n n1,.b b2,.n n3,.b b4,.l TBk l8,.l TWr l9])=(some (1,[.n n10,.n n11,.b b12,.n n13,.b b14,.l TBk l15,.l TWr l16,.l TB l17])))(h2:(n10=(0:Int)))(h3:(inR n0 (List.length l5)=true))(h4:(inR n0 (List.length l6)=true))(h5:(j1a [.s (a0e l17),.s (List.getD l5 (Int.toNat n0) (Ty.dflt TS)),.s (List.getD l6 (Int.toNat n0) (Ty.dflt TS))])=(some (0,[.b b18])))(h6:(b18=true))(h7:(inR n0 (List.length l7)=true))(h8:(List.getD l7 (Int.toNat n0) false=false))(h9:(b0y (a0e l17) (List.getD l5 (Int.toNat n0) (Ty.dflt TS))=true)):(i1s [.k 0,.n n0,.n n1,.b b2,.n n3,.b b4,.l TS l5,.l TS l6,.l TBo l7,.l TBk l8,.l TWr l9]).sel=some (Step.go [.k 0,.n (IntKind.wrap .i64 (n0+(1:Int))),.n n1,.b b2,.n n3,.b b4,.l TS l5,.l TS l6,.l TBo l7,.l TBk l8,.l TWr l9]):=sP [1]<|sT (dt h0)<|sP [1]<|sA h1<|sP [0,1,1]<|sF (bnf h2)<|sT h3<|sT h4<|sA h5<|sP [1,1]<|sF (nt h6)<|sT h7<|sT (nf h8)<|sT h3<|sP [1]<|sF (nt h9)<|sP [1]<|sL
theorem k1h {n0 n1:Int}{b2:Bool}{n3:Int}{b4:Bool}{l5 l6:List (Ty.den TS)}{l7:List (Ty.den TBo)}{l8:List (Ty.den TBk)}{l9:List (Ty.den TWr)}{n10 n11:Int}{b12:Bool}{n13:Int}{b14:Bool}{l15:List (Ty.den TBk)}{l16:List (Ty.den TWr)}{l17:List (Ty.den TB)}{b18:Bool}(g0:0≤n0)(h0:(n0<(8:Int)))(h1:(h0k [.n n0,.n n1,.b b2,.n n3,.b b4,.l TBk l8,.l TWr l9])=(some (1,[.n n10,.n n11,.b b12,.n n13,.b b14,.l TBk l15,.l TWr l16,.l TB l17])))(h2:(n10=(0:Int)))(h3:(inR n0 (List.length l5)=true))(h4:(inR n0 (List.length l6)=true))(h5:(j1a [.s (a0e l17),.s (List.getD l5 (Int.toNat n0) (Ty.dflt TS)),.s (List.getD l6 (Int.toNat n0) (Ty.dflt TS))])=(some (0,[.b b18])))(h6:(b18=true))(h7:(inR n0 (List.length l7)=true))(h8:(List.getD l7 (Int.toNat n0) false=true)):(i1s [.k 0,.n n0,.n n1,.b b2,.n n3,.b b4,.l TS l5,.l TS l6,.l TBo l7,.l TBk l8,.l TWr l9]).sel=some (Step.go [.k 0,.n (IntKind.wrap .i64 (n0+(1:Int))),.n n1,.b b2,.n n3,.b b4,.l TS l5,.l TS l6,.l TBo l7,.l TBk l8,.l TWr l9]):=sP [1]<|sT (dt h0)<|sP [1]<|sA h1<|sP [0,1,1]<|sF (bnf h2)<|sT h3<|sT h4<|sA h5<|sP [1,1]<|sF (nt h6)<|sT h7<|sF (nt h8)<|sP [0,1,0,1]<|sL
theorem j1m {n0 n1:Int}{b2:Bool}{n3:Int}{b4:Bool}{l5 l6:List (Ty.den TS)}{l7:List (Ty.den TBo)}{l8:List (Ty.den TBk)}{l9:List (Ty.den TWr)}(g0:0≤n0)(h0:(¬n0<(8:Int))):(i1s [.k 0,.n n0,.n n1,.b b2,.n n3,.b b4,.l TS l5,.l TS l6,.l TBo l7,.l TBk l8,.l TWr l9]).sel=some (Step.stop 0 []):=sP [1]<|sF (df h0)<|sP [1]<|sL
def k1i:List Dat→Tree Bool:=evW i1w 4 (lsM [(7,Bx_4_7),(13,Bx_4_13),(38,Bx_4_38)] 0) [.imm a0f 0,.int .i64 1]
theorem W4_law (env:List Dat)(h:(k1i env).sel=some true){w:World}{aa:Array Value}(ha:LRel R0 (a0r w) (instL [.imm a0f 0,.int .i64 1] env) aa):
  Calls Try.prog 4 aa w fun e w'=>e=.returned (.bool true)∧Below w.heap.size w w':=evW_law i1n (lsE (lsC (d0a l1s) (atF) (lsC (d0a j1x) (atF) (lsC (d0a j1v) (atF) lsZ)))) env h ha
theorem l1q {l0:List (Ty.den a0f)}{n1:Int}{b2:Bool}(h0:(t0k [.l a0f l0])=(some (0,[.b b2])))(h1:(b2=true)):(k1i [.l a0f l0,.n n1]).sel=some (true):=sA h0<|sP [1,1]<|sT h1<|sP [1,1,1,1,1]<|sL
theorem l1t {l0:List (Ty.den a0f)}{n1:Int}{b2:Bool}(h0:(t0k [.l a0f l0])=(some (0,[.b b2])))(h1:(b2=false))(h2:((↑(List.length l0):Int)>(40:Int))):(k1i [.l a0f l0,.n n1]).sel=some (true):=sA h0<|sP [1,1]<|sF h1<|sT (dt h2)<|sP [1,1,1]<|sL
theorem l1l {l0:List (Ty.den a0f)}{n1:Int}{b2:Bool}{n3:Int}{b4:Bool}{n5:Int}{b6:Bool}{l7:List (Ty.den TBk)}{l8:List (Ty.den TWr)}{l9:List (Ty.den a0f)}{n10:Int}{b11:Bool}{n12:Int}{b13:Bool}{l14 l15:List (Ty.den TS)}{l16:List (Ty.den TBk)}{l17:List (Ty.den TWr)}{l18:List (Ty.den a0f)}{n19:Int}{b20:Bool}{n21:Int}{b22:Bool}{l23 l24:List (Ty.den TS)}{l25:List (Ty.den TBo)}{l26:List (Ty.den TBk)}{l27:List (Ty.den TWr)}{n28:Int}{b29:Bool}{n30:Int}{b31:Bool}{l32:List (Ty.den TBk)}{l33:List (Ty.den TWr)}(h0:(t0k [.l a0f l0])=(some (0,[.b b2])))(h1:(b2=false))(h2:(¬(↑(List.length l0):Int)>(40:Int)))(h3:(i1k [.n (8:Int)])=(some (0,[.n n3,.b b4,.n n5,.b b6,.l TBk l7,.l TWr l8])))(h4:(j1z [.k 0,.l a0f l0,.n (0:Int),.n n3,.b (decide (n1≥(0:Int))),.n n1,.b b6,.l TS [Ty.dflt TS,Ty.dflt TS,Ty.dflt TS,Ty.dflt TS,Ty.dflt TS,Ty.dflt TS,Ty.dflt TS,Ty.dflt TS],.l TS [Ty.dflt TS,Ty.dflt TS,Ty.dflt TS,Ty.dflt TS,Ty.dflt TS,Ty.dflt TS,Ty.dflt TS,Ty.dflt TS],.l TBk l7,.l TWr l8])=(some (0,[.l a0f l9,.n n10,.b b11,.n n12,.b b13,.l TS l14,.l TS l15,.l TBk l16,.l TWr l17])))(h5:(j1c [.k 0,.l a0f l9,.n (0:Int),.n n10,.b b11,.n n12,.b b13,.l TS l14,.l TS l15,.l TBo [false,false,false,false,false,false,false,false],.l TBk l16,.l TWr l17])=(some (0,[.l a0f l18,.n n19,.b b20,.n n21,.b b22,.l TS l23,.l TS l24,.l TBo l25,.l TBk l26,.l TWr l27])))(h6:((↑(List.length l18):Int)>(0:Int)))(h7:(i1y [.l TB (Prod.snd (Prod.snd (Prod.snd (List.getD l18 0 (Ty.dflt a0f))))),.n n19,.b false,.n n21,.b true,.l TBk l26,.l TWr l27])=(some (1,[.n n28,.b b29,.n n30,.b b31,.l TBk l32,.l TWr l33])))(h8:(j1e [.k 0,.n (0:Int),.n n28,.b b29,.n n30,.b b31,.l TS l23,.l TS l24,.l TBo l25,.l TBk l32,.l TWr l33])=(some (0,[]))):(k1i [.l a0f l0,.n n1]).sel=some (true):=sA h0<|sP [1,1]<|sF h1<|sF (df h2)<|sP [1]<|sA h3<|sP [1,1,1,1,1,1,1,1]<|sA h4<|sP [1,1]<|sA h5<|sP [1]<|sT (dt h6)<|sTo (c:=(inR (0:Int) (List.length l18)))<|sP [1,1,1,1]<|sA h7<|sP [0,1,1]<|sA h8<|sP [1,1,1,1]<|sL
theorem l1o {l0:List (Ty.den a0f)}{n1:Int}{b2:Bool}{n3:Int}{b4:Bool}{n5:Int}{b6:Bool}{l7:List (Ty.den TBk)}{l8:List (Ty.den TWr)}{l9:List (Ty.den a0f)}{n10:Int}{b11:Bool}{n12:Int}{b13:Bool}{l14 l15:List (Ty.den TS)}{l16:List (Ty.den TBk)}{l17:List (Ty.den TWr)}{l18:List (Ty.den a0f)}{n19:Int}{b20:Bool}{n21:Int}{b22:Bool}{l23 l24:List (Ty.den TS)}{l25:List (Ty.den TBo)}{l26:List (Ty.den TBk)}{l27:List (Ty.den TWr)}{n28:Int}{b29:Bool}{n30:Int}{b31:Bool}{l32:List (Ty.den TBk)}{l33:List (Ty.den TWr)}(h0:(t0k [.l a0f l0])=(some (0,[.b b2])))(h1:(b2=false))(h2:(¬(↑(List.length l0):Int)>(40:Int)))(h3:(i1k [.n (8:Int)])=(some (0,[.n n3,.b b4,.n n5,.b b6,.l TBk l7,.l TWr l8])))(h4:(j1z [.k 0,.l a0f l0,.n (0:Int),.n n3,.b (decide (n1≥(0:Int))),.n n1,.b b6,.l TS [Ty.dflt TS,Ty.dflt TS,Ty.dflt TS,Ty.dflt TS,Ty.dflt TS,Ty.dflt TS,Ty.dflt TS,Ty.dflt TS],.l TS [Ty.dflt TS,Ty.dflt TS,Ty.dflt TS,Ty.dflt TS,Ty.dflt TS,Ty.dflt TS,Ty.dflt TS,Ty.dflt TS],.l TBk l7,.l TWr l8])=(some (0,[.l a0f l9,.n n10,.b b11,.n n12,.b b13,.l TS l14,.l TS l15,.l TBk l16,.l TWr l17])))(h5:(j1c [.k 0,.l a0f l9,.n (0:Int),.n n10,.b b11,.n n12,.b b13,.l TS l14,.l TS l15,.l TBo [false,false,false,false,false,false,false,false],.l TBk l16,.l TWr l17])=(some (0,[.l a0f l18,.n n19,.b b20,.n n21,.b b22,.l TS l23,.l TS l24,.l TBo l25,.l TBk l26,.l TWr l27])))(h6:(¬(↑(List.length l18):Int)>(0:Int)))(h7:(i1y [.l TB [],.n n19,.b false,.n n21,.b true,.l TBk l26,.l TWr l27])=(some (1,[.n n28,.b b29,.n n30,.b b31,.l TBk l32,.l TWr l33])))(h8:(j1e [.k 0,.n (0:Int),.n n28,.b b29,.n n30,.b b31,.l TS l23,.l TS l24,.l TBo l25,.l TBk l32,.l TWr l33])=(some (0,[]))):(k1i [.l a0f l0,.n n1]).sel=some (true):=sA h0<|sP [1,1]<|sF h1<|sF (df h2)<|sP [1]<|sA h3<|sP [1,1,1,1,1,1,1,1]<|sA h4<|sP [1,1]<|sA h5<|sP [1]<|sF (df h6)<|sP [1,1,1,1]<|sA h7<|sP [0,1,1]<|sA h8<|sP [1,1,1,1]<|sL
abbrev LB:=List (Ty.den TB)
abbrev LKs:=List (Ty.den TBk)
abbrev LW:=List (Ty.den TWr)
abbrev LT:=List (Ty.den TS)
def Wb (l:List Int):Prop:= ∀x∈l,0≤x∧x<256
theorem e0y (a:ByteArray):b0y a a=true:=by unfold b0y;simp
theorem ba_ext {a b:ByteArray}(h:a.data.toList=b.data.toList):a=b:=by
 cases a;cases b;congr 1;exact Array.toList_inj.1 h
theorem g0o (a:List Int):ByteArray.size (a0e a)=a.length:=by
 show(a.map _).toArray.size=a.length
 simp
theorem str_app (a b:List Int):a0e a++a0e b=a0e (a++b):=by
 apply ba_ext
 have e:(a0e a++a0e b).data=(a0e a).data++(a0e b).data:=ByteArray.data_append
 rw[e]
 show((a.map _).toArray++(b.map _).toArray).toList=((a++b).map _).toArray.toList
 simp
theorem o0w (a:List Int)(i j:Nat):(a0e a).extract i j=a0e ((a.take j).drop i):=by
 apply ba_ext
 have e:((a0e a).extract i j).data=(a0e a).data.extract i j:=ByteArray.data_extract
 rw[e]
 show((a.map _).toArray.extract i j).toList=(((a.take j).drop i).map _).toArray.toList
 simp only[Array.toList_extract,List.extract_eq_take_drop,List.map_drop,List.map_take]
 rw[List.drop_take]
def wI (w:Ty.den TWr):Int:=Prod.fst w
def wB (w:Ty.den TWr):List Int:=Prod.snd w
def rB (b:Ty.den TBk):List Int:=b
def ofB (b:List Int):Ty.den TBk:=b
def fk (F:LB)(i:Nat):Int:=List.getD (α:=Int) F i 0
structure DS where
 n:Int
 A:Bool
 h:Int
 o:Bool
 K:LKs
 W:LW
abbrev kAt (K:LKs)(i:Nat):Ty.den TBk:=K.getD i (Ty.dflt TBk)
abbrev wAt (W:LW)(i:Nat):Ty.den TWr:=W.getD i (Ty.dflt TWr)
structure DOk (s:DS):Prop where
 kb: ∀b∈s.K,Wb (rB b)∧(rB b).length=256
 wp: ∀w∈s.W,(0:Int)≤wI w∧wI w<(s.K.length:Int)
 wb: ∀w∈s.W,Wb (wB w)∧(wB w).length=256
 ar:s.A=true→0≤s.h
 kl:s.K.length≤4096
theorem b0q {α:Type}{l:List α}{d:α}{i:Nat}(h:i<l.length):l.getD i d∈l:=by
 rw[List.getD_eq_getElem?_getD,List.getElem?_eq_getElem h];exact List.getElem_mem h
theorem g1j {α:Type}{l:List α}{d:α}{i:Nat}(h:l.length≤i):l.getD i d=d:=by
 rw[List.getD_eq_getElem?_getD,List.getElem?_eq_none h];rfl
theorem i1z {i:Int}{n:Nat}(h0:0≤i)(h1:i<(n:Int)):inR i n=true:=by
 unfold inR;rw[decide_eq_true h0,decide_eq_true h1];rfl
theorem w1n (i:Nat)(h:i<1000000000):IntKind.wrap .i64 ((i:Int)+1)=((i+1:Nat):Int):=by rw[w64 (by omega) (by omega)];rfl
def put1 (K:LKs)(w:Ty.den TWr):LKs:=K.set (wI w).toNat (ofB (wB w))
theorem h1h (K:LKs)(w:Ty.den TWr):(put1 K w).length=K.length:=List.length_set ..
def putN (W:LW)(K:LKs):Nat→LKs
 |0=>K
 |i+1=>put1 (putN W K i) (wAt W i)
theorem g0p (W:LW)(K:LKs): ∀i,(putN W K i).length=K.length
 |0=>rfl
 |i+1=>(h1h _ _).trans (g0p W K i)
theorem a1e {α:Type}{l:List α}{i:Nat}{a x:α}(h:x∈l.set i a):x∈l∨x=a:=List.mem_or_eq_of_mem_set h
section
variable (s:DS) (hs:DOk s) (hw:s.W.length≤100000)
include hs
theorem wpos {i:Nat}(hi:i<s.W.length):inR (wI (wAt s.W i)) s.K.length=true:=by
 obtain⟨h0,h1⟩:=hs.wp _ (b0q (d:=Ty.dflt TWr) hi)
 exact i1z h0 h1
theorem f1p: ∀i,i≤s.W.length→ ∀b∈putN s.W s.K i,Wb (rB b)∧(rB b).length=256
 |0,_,b,hb=>hs.kb b hb
 |i+1,hi,b,hb=>by
  rcases a1e hb with h|rfl
  ·exact f1p i (by omega) b h
  ·exact hs.wb _ (b0q (d:=Ty.dflt TWr) (by omega))
include hw
theorem d44l (n:Int)(a:Bool)(h:Int)(o:Bool):p0e [.k 0,.n (s.W.length:Int),.n 0,.n n,.b a,.n h,.b o,.l TBk s.K,.l TWr s.W]=some (0,[.n n,.b a,.n h,.b o,.l TBk (putN s.W s.K s.W.length),.l TWr s.W]):=by
 rw[t0q]
 refine c0k (st:=i0g) (fun i=>[.k 0,.n (s.W.length:Int),.n (i:Int),.n n,.b a,.n h,.b o,.l TBk (putN s.W s.K i),.l TWr s.W]) s.W.length (0,[.n n,.b a,.n h,.b o,.l TBk (putN s.W s.K s.W.length),.l TWr s.W]) (fun i hi=> ?_) (u0a (by omega) rfl (Int.lt_irrefl _)) FU (h0r (by omega))
 show _=some (Step.go [.k 0,.n (s.W.length:Int),.n ((i+1:Nat):Int),.n n,.b a,.n h,.b o,.l TBk (putN s.W s.K (i+1)),.l TWr s.W])
 rw[←w1n i (by omega)]
 have hR:=wpos s hs hi
 rw[←g0p s.W s.K i]at hR
 exact v0m (by omega) rfl (Int.ofNat_lt.2 hi) hR
theorem d44 (n:Int)(a:Bool)(h:Int)(o:Bool):t0b [.n n,.b a,.n h,.b o,.l TBk s.K,.l TWr s.W]=some (0,[.n n,.b a,.n h,.b o,.l TBk (putN s.W s.K s.W.length),.l TWr []]):=a1k (d44l s hs hw n a h o)
end
def putK (k:Int)(b old:List Int):List Int:=if k=255 then b else b.take k.toNat++old.drop k.toNat
def put2 (F:LB)(i:Nat)(K:LKs)(w:Ty.den TWr):LKs:=K.set (wI w).toNat (ofB (putK (fk F i) (wB w) (rB (kAt K (wI w).toNat))))
theorem h1m (F:LB)(i:Nat)(K:LKs)(w:Ty.den TWr):(put2 F i K w).length=K.length:=List.length_set ..
def putF (F:LB)(W:LW)(K:LKs):Nat→LKs
 |0=>K
 |i+1=>put2 F i (putF F W K i) (wAt W i)
theorem f0r (F:LB)(W:LW)(K:LKs): ∀i,(putF F W K i).length=K.length
 |0=>rfl
 |i+1=>(h1m ..).trans (f0r F W K i)
theorem putK_ok {k:Int}{b old:List Int}(h0:0≤k)(h1:k<256)(hb:Wb b∧b.length=256)(ho:Wb old∧old.length=256):Wb (putK k b old)∧(putK k b old).length=256:=by
 unfold putK
 split
 ·exact hb
 ·refine⟨fun x hx=> ?_,?_⟩
  ·rcases List.mem_append.1 hx with h|h
   ·exact hb.1 x (List.mem_of_mem_take h)
   ·exact ho.1 x (List.mem_of_mem_drop h)
  ·rw[List.length_append,List.length_take,List.length_drop];omega
theorem fk_ge {F:LB}{i:Nat}(h:F.length≤i):fk F i=0:=by
 exact g1j (α:=Int) h
theorem v0p {F:LB}(hF:Wb F)(i:Nat):0≤fk F i∧fk F i<256:=by
 rcases Nat.lt_or_ge i F.length with h|h
 ·exact hF _ (b0q (α:=Int) h)
 ·rw[fk_ge h];omega
theorem ext2 (b old:List Int)(k:Nat):(a0e b).extract 0 k++(a0e old).extract k (Int.toNat ((a0e old).size:Int))=a0e (b.take k++old.drop k):=by
 rw[o0w,o0w,str_app,g0o,Int.toNat_natCast,List.take_length,List.drop_zero]
theorem d1s (b old:List Int)(k:Nat)(hb:b.length=256)(ho:old.length=256):((a0e b).extract 0 k).size+((a0e old).extract k (Int.toNat ((a0e old).size:Int))).size≤9223372036854775807:=by
 rw[o0w,o0w,g0o,g0o,List.length_drop,List.length_drop,List.length_take,List.length_take];omega
section
variable (s:DS) (hs:DOk s) (hw:s.W.length≤100000) (F:LB) (hF:Wb F)
include hs hF
theorem q0c: ∀i,i≤s.W.length→ ∀b∈putF F s.W s.K i,Wb (rB b)∧(rB b).length=256
 |0,_,b,hb=>hs.kb b hb
 |i+1,hi,b,hb=>by
  rcases a1e hb with h|rfl
  ·exact q0c i (by omega) b h
  ·obtain⟨p0,p1⟩:=hs.wp (wAt s.W i) (b0q (show i<s.W.length by omega))
   obtain⟨f0,f1⟩:=v0p hF i
   exact putK_ok f0 f1 (hs.wb _ (b0q (by omega))) (q0c i (by omega) _ (b0q (by rw[f0r];omega)))
include hw
theorem d41l (n:Int)(a:Bool)(h:Int)(o:Bool):p0x [.k 0,.n (s.W.length:Int),.n 0,.n n,.b a,.n h,.b o,.l TB F,.l TBk s.K,.l TWr s.W]=some (0,[.n n,.b a,.n h,.b o,.l TB F,.l TBk (putF F s.W s.K s.W.length),.l TWr s.W]):=by
 rw[u0w]
 refine c0k (st:=f0j) (fun i=>[.k 0,.n (s.W.length:Int),.n (i:Int),.n n,.b a,.n h,.b o,.l TB F,.l TBk (putF F s.W s.K i),.l TWr s.W]) s.W.length (0,[.n n,.b a,.n h,.b o,.l TB F,.l TBk (putF F s.W s.K s.W.length),.l TWr s.W]) (fun i hi=> ?_) (v0v (by omega) rfl (Int.lt_irrefl _)) FU (h0r (by omega))
 show _=some (Step.go [.k 0,.n (s.W.length:Int),.n ((i+1:Nat):Int),.n n,.b a,.n h,.b o,.l TB F,.l TBk (putF F s.W s.K (i+1)),.l TWr s.W])
 rw[←w1n i (by omega)]
 have hR:=wpos s hs hi
 rw[←f0r F s.W s.K i]at hR
 obtain⟨f0,f1⟩:=v0p hF i
 have hb:=hs.wb _ (b0q (d:=Ty.dflt TWr) hi)
 have e0:putF F s.W s.K (i+1)=put2 F i (putF F s.W s.K i) (wAt s.W i):=rfl
 rcases Nat.lt_or_ge i F.length with q|q
 ·by_cases k:fk F i=255
  ·have e:putF F s.W s.K (i+1)=List.set (putF F s.W s.K i) (wI (wAt s.W i)).toNat (ofB (wB (wAt s.W i))):=by
    rw[e0];unfold put2 putK;rw[if_pos k]
   rw[e]
   exact v0r (by omega) rfl (Int.ofNat_lt.2 hi) (Int.ofNat_lt.2 q) k hR
  ·have e:putF F s.W s.K (i+1)=List.set (putF F s.W s.K i) (wI (wAt s.W i)).toNat (ofB (List.take (fk F i).toNat (List.take (fk F i).toNat (wB (wAt s.W i)))++List.drop (min (List.length (List.take (fk F i).toNat (wB (wAt s.W i)))) (fk F i).toNat) (rB (kAt (putF F s.W s.K i) (wI (wAt s.W i)).toNat)))):=by
    rw[e0];unfold put2 putK;rw[if_neg k,List.take_take,Nat.min_self]
    have:min (List.length (List.take (fk F i).toNat (wB (wAt s.W i)))) (fk F i).toNat=(fk F i).toNat:=by
     rw[List.length_take,hb.2]
     omega
    rw[this]
   rw[e]
   exact v0u (by omega) rfl (Int.ofNat_lt.2 hi) (Int.ofNat_lt.2 q) k hR (by
    show(decide (0≤fk F i)&&decide (fk F i≤256))=true
    rw[dt f0,dt (show fk F i≤256 by omega)];rfl)
 ·have e:putF F s.W s.K (i+1)=List.set (putF F s.W s.K i) (wI (wAt s.W i)).toNat (ofB ([]++List.drop 0 (rB (kAt (putF F s.W s.K i) (wI (wAt s.W i)).toNat)))):=by
   rw[e0];unfold put2 putK;rw[fk_ge q,if_neg (by omega)];rfl
  rw[e]
  exact u0l (by omega) rfl (Int.ofNat_lt.2 hi) (by omega) hR
theorem d41 (n:Int)(a:Bool)(h:Int)(o:Bool):w0t [.n n,.b a,.n h,.b o,.l TB F,.l TBk s.K,.l TWr s.W]=some (0,[.n n,.b a,.n h,.b o,.l TB F,.l TBk (putF F s.W s.K s.W.length),.l TWr []]):=c1w (d41l s hs hw F hF n a h o)
end
theorem wmin {h:Int}(h0:0≤h)(h1:h≤9223372036854775807)(h2: ¬h=0):IntKind.wrap .i64 (h-1)=h-1:=w64 (by omega) (by omega)
structure DH (s:DS):Prop extends DOk s where
 hb:s.h≤9223372036854775807
def pad (b:List Int):List Int:=b++List.replicate (256-b.length) 0
def mkW (i:Int)(b:List Int):Ty.den TWr:=(i,b)
theorem pad_len {b:List Int}(h:b.length≤256):(pad b).length=256:=by
 unfold pad;rw[List.length_append,List.length_replicate];omega
theorem pad_wb {b:List Int}(h:Wb b):Wb (pad b):=fun x hx=>by
 rcases List.mem_append.1 hx with q|q
 ·exact h x q
 ·have:=List.eq_of_mem_replicate q;omega
theorem pad_eq {b:List Int}(h:b.length≤256):List.take 256 b++List.drop b.length (List.replicate 256 (0:Int))=pad b:=by
 unfold pad
 rw[List.take_of_length_le h,List.drop_replicate]
def b0a (s:DS)(i:Int)(b:List Int):DS×Int:=
 if s.o=true then(s,140)else if 0≤i∧i<(s.K.length:Int)then
  if 256<b.length then(s,3)else
  if s.A=true then
   if s.h=0 then(⟨IntKind.wrap .i64 (s.n+1),false,s.h,true,s.K,s.W++[mkW i (pad b)]⟩,140)
   else(⟨IntKind.wrap .i64 (s.n+1),s.A,IntKind.wrap .i64 (s.h-1),s.o,s.K,s.W++[mkW i (pad b)]⟩,0)
  else(⟨IntKind.wrap .i64 (s.n+1),s.A,s.h,s.o,s.K,s.W++[mkW i (pad b)]⟩,0)
 else(s,2)
section
variable (s:DS) (hw:s.W.length≤100000) (i:Int) (b:List Int)
include hw
end
section
variable (s:DS) (hs:DH s) (hw:s.W.length≤100000) (i:Int) (b:List Int) (hb:Wb b)
include hs
theorem b1p (hb:Wb b):DH (b0a s i b).1∧(b0a s i b).1.W.length≤s.W.length+1∧(b0a s i b).1.K.length=s.K.length:=by
 have app:0≤i∧i<(s.K.length:Int)→ ¬256<b.length→ ∀n A h o,(A=true→0≤h)→h≤9223372036854775807→DH ⟨n,A,h,o,s.K,s.W++[mkW i (pad b)]⟩:=by
  intro hi hl n A h o ha hh
  refine⟨⟨hs.kb,fun w hw=> ?_,fun w hw=> ?_,ha,hs.kl⟩,hh⟩
  ·rcases List.mem_append.1 hw with q|q
   ·exact hs.wp w q
   ·rw[List.mem_singleton.1 q];exact hi
  ·rcases List.mem_append.1 hw with q|q
   ·exact hs.wb w q
   ·rw[List.mem_singleton.1 q];exact⟨pad_wb hb,pad_len (by omega)⟩
 have l1:(s.W++[mkW i (pad b)]).length≤s.W.length+1:=by rw[List.length_append];exact Nat.le_refl _
 unfold b0a
 by_cases h1:s.o=true
 ·rw[if_pos h1];exact⟨hs,by show s.W.length≤_;omega,rfl⟩
 rw[if_neg h1]
 by_cases h2:0≤i∧i<(s.K.length:Int)
 ·rw[if_pos h2]
  by_cases h3:256<b.length
  ·rw[if_pos h3];exact⟨hs,by show s.W.length≤_;omega,rfl⟩
  rw[if_neg h3]
  by_cases h4:s.A=true
  ·rw[if_pos h4]
   have ha:=hs.ar h4
   have hh:=hs.hb
   by_cases h5:s.h=0
   ·rw[if_pos h5];exact⟨app h2 h3 _ _ _ _ (fun q=>by cases q) hs.hb,l1,rfl⟩
   ·rw[if_neg h5,wmin ha hs.hb h5];exact⟨app h2 h3 _ _ _ _ (fun _=>by omega) (by omega),l1,rfl⟩
  ·rw[if_neg h4];exact⟨app h2 h3 _ _ _ _ hs.ar hs.hb,l1,rfl⟩
 ·rw[if_neg h2];exact⟨hs,by show s.W.length≤_;omega,rfl⟩
include hw
end
def c0p (s:DS):DS×Int×Nat:=
 if s.o=true then(s,140,0)else
 if s.A=true then
  if s.h=0 then(⟨IntKind.wrap .i64 (s.n+1),false,s.h,true,s.K,s.W⟩,140,0)
  else(⟨IntKind.wrap .i64 (s.n+1),s.A,IntKind.wrap .i64 (s.h-1),s.o,putN s.W s.K s.W.length,[]⟩,0,1)
 else(⟨IntKind.wrap .i64 (s.n+1),s.A,s.h,s.o,putN s.W s.K s.W.length,[]⟩,0,1)
def fnd (W:LW)(i:Int):Nat→Option (List Int)
 |0=>none
 |j+1=>if wI (wAt W j)=i then some (wB (wAt W j))else fnd W i j
def p0h (s:DS)(i:Int):Option (List Int)×Int:=
 if s.o=true then(none,140)else if 0≤i∧i<(s.K.length:Int)then(some ((fnd s.W i s.W.length).getD (rB (kAt s.K i.toNat))),0)else(none,2)
section
variable (s:DS) (hs:DH s) (hw:s.W.length≤100000)
include hs
theorem f1y:DH (c0p s).1∧(c0p s).1.W.length≤s.W.length∧(c0p s).1.K.length=s.K.length:=by
 have put: ∀n A h o,(A=true→0≤h)→h≤9223372036854775807→DH ⟨n,A,h,o,putN s.W s.K s.W.length,[]⟩:=fun n A h o ha hh=>
  ⟨⟨f1p s hs.toDOk _ (Nat.le_refl _),(fun w hw=>by cases hw),(fun w hw=>by cases hw),ha,by show(putN s.W s.K s.W.length).length≤4096;rw[g0p];exact hs.kl⟩,hh⟩
 unfold c0p
 by_cases h1:s.o=true
 ·rw[if_pos h1];exact⟨hs,Nat.le_refl _,rfl⟩
 rw[if_neg h1]
 by_cases h2:s.A=true
 ·have ha:=hs.ar h2
  have hh:=hs.hb
  rw[if_pos h2]
  by_cases h3:s.h=0
  ·rw[if_pos h3];exact⟨⟨⟨hs.kb,hs.wp,hs.wb,(fun q=>by cases q),hs.kl⟩,hs.hb⟩,Nat.le_refl _,rfl⟩
  ·rw[if_neg h3,wmin ha hs.hb h3];exact⟨put _ _ _ _ (fun _=>by omega) (by omega),Nat.zero_le _,g0p ..⟩
 ·rw[if_neg h2];exact⟨put _ _ _ _ hs.ar hs.hb,Nat.zero_le _,g0p ..⟩
include hw
theorem d16:k0e [.n s.n,.b s.A,.n s.h,.b s.o,.l TBk s.K,.l TWr s.W]=some ((c0p s).2.2,[.n (c0p s).2.1,.n (c0p s).1.n,.b (c0p s).1.A,.n (c0p s).1.h,.b (c0p s).1.o,.l TBk (c0p s).1.K,.l TWr (c0p s).1.W]):=by
 unfold c0p
 cases h1:s.o with
 |true=>rw[if_pos rfl,←h1];exact b1g h1
 |false=>
  rw[if_neg (by decide)]
  cases h5:s.A with
  |true=>
   rw[if_pos rfl]
   by_cases h6:s.h=0
   ·rw[if_pos h6];exact d1w rfl rfl h6
   ·rw[if_neg h6];exact e1c rfl rfl h6 (d44 s hs.toDOk hw _ _ _ _)
  |false=>rw[if_neg (by decide)];exact e1m rfl rfl (d44 s hs.toDOk hw _ _ _ _)
end
section
variable (s:DS) (hw:s.W.length≤100000)
include hw
theorem d20l (i n:Int)(a:Bool)(h:Int)(o:Bool)(b0:List Int):o0y [.k 0,.n i,.n (s.W.length:Int),.n 0,.n n,.b a,.n h,.b o,.l TBk s.K,.l TWr s.W,.l TB b0]=some (0,[.n n,.b a,.n h,.b o,.l TBk s.K,.l TWr s.W,.l TB ((fnd s.W i s.W.length).getD b0)]):=by
 rw[u0q]
 refine c0k (st:=h0a) (fun j=>[.k 0,.n i,.n (s.W.length:Int),.n (j:Int),.n n,.b a,.n h,.b o,.l TBk s.K,.l TWr s.W,.l TB ((fnd s.W i j).getD b0)]) s.W.length (0,[.n n,.b a,.n h,.b o,.l TBk s.K,.l TWr s.W,.l TB ((fnd s.W i s.W.length).getD b0)]) (fun j hj=> ?_) (u0x (by omega) rfl (Int.lt_irrefl _)) FU (h0r (by omega))
 show _=some (Step.go [.k 0,.n i,.n (s.W.length:Int),.n ((j+1:Nat):Int),.n n,.b a,.n h,.b o,.l TBk s.K,.l TWr s.W,.l TB ((fnd s.W i (j+1)).getD b0)])
 rw[←w1n j (by omega)]
 by_cases q:wI (wAt s.W j)=i
 ·have e:(fnd s.W i (j+1)).getD b0=wB (wAt s.W j):=by unfold fnd;rw[if_pos q];rfl
  rw[e];exact v0t (by omega) rfl (Int.ofNat_lt.2 hj) q
 ·have e:fnd s.W i (j+1)=fnd s.W i j:=by show(if _ then _ else _)=_;rw[if_neg q]
  rw[e];exact t0v (by omega) rfl (Int.ofNat_lt.2 hj) q
theorem d20 (i:Int):h0k [.n i,.n s.n,.b s.A,.n s.h,.b s.o,.l TBk s.K,.l TWr s.W]=some (match(p0h s i).1 with
  |none=>(0,[.n (p0h s i).2,.n s.n,.b s.A,.n s.h,.b s.o,.l TBk s.K,.l TWr s.W])
  |some b=>(1,[.n (p0h s i).2,.n s.n,.b s.A,.n s.h,.b s.o,.l TBk s.K,.l TWr s.W,.l TB b])):=by
 unfold p0h
 cases h1:s.o with
 |true=>rw[if_pos rfl];exact f1r rfl
 |false=>
  rw[if_neg (by decide)]
  by_cases h2:0≤i∧i<(s.K.length:Int)
  ·rw[if_pos h2];exact e1a rfl h2.1 h2.2 (d20l s hw _ _ _ _ _ _)
  ·rw[if_neg h2]
   by_cases h0:0≤i
   ·exact d1e rfl h0 (fun q=>h2 ⟨h0,q⟩)
   ·exact d1y rfl h0
end
def z256:Ty.den TBk:=Ty.dflt TBk
theorem z256_ok:Wb (rB z256)∧(rB z256).length=256:=by
 have e:rB z256=List.replicate 256 (0:Int):=rfl
 rw[e]
 exact⟨fun x hx=>by have:=List.eq_of_mem_replicate hx;omega,List.length_replicate⟩
def sNew (n:Int):DS:=⟨0,false,0,false,List.replicate n.toNat z256,[]⟩
theorem sNew_ok {n:Int}(h:n≤40):DH (sNew n):=
 ⟨⟨fun b hb=>by rw[List.eq_of_mem_replicate hb];exact z256_ok,(fun w hw=>by cases hw),(fun w hw=>by cases hw),(fun q=>by cases q),by show(List.replicate n.toNat z256).length≤4096;rw[List.length_replicate];omega⟩,by show(0:Int)≤_;omega⟩
theorem d8 {n:Int}(h:n≤40):i1k [.n n]=some (0,[.n (sNew n).n,.b (sNew n).A,.n (sNew n).h,.b (sNew n).o,.l TBk (sNew n).K,.l TWr (sNew n).W]):=by
 have e:imin (imax n 0) 4096=((n.toNat:Nat):Int):=by unfold imin imax;split<;>split<;>omega
 have k:(sNew n).K=repC (Int.toNat (imin (imax n 0) 4096)) (Ty.dflt TBk):=by rw[e,a1d];rfl
 rw[k]
 exact h1p (by
  rw[e,dt (show(0:Int)≤((n.toNat:Nat):Int) by omega),dt (Int.le_refl _),dt (show((n.toNat:Nat):Int)*256≤281474976710656 by omega)];rfl)
section
variable (s:DS) (hw:s.W.length≤100000) (hk:s.K.length≤4096)
include hw hk
end
section
variable (s:DS) (hs:DH s) (hw:s.W.length≤100000)
include hs hw
end
theorem g1a (s:DS)(i:Int)(b:List Int):(b0a s i b).1.K=s.K:=by
 unfold b0a
 split
 ·rfl
 split
 ·split
  ·rfl
  split
  ·split<;>rfl
  ·rfl
 ·rfl
section
variable (s:DS) (hs:DH s) (hw:s.W.length≤100000) (k i:Int) (hk:0≤k) (B F:LB) (hB:Wb B) (hF:Wb F) (hl:B.length≤100000)
include hs hB hF
include hw hk hl
end
abbrev LC:=List (Ty.den a0f)
def cK (c:Ty.den a0f):Int:=Prod.fst c
def cI (c:Ty.den a0f):Int:=Prod.fst (Prod.snd c)
def cB (c:Ty.den a0f):LB:=Prod.fst (Prod.snd (Prod.snd c))
def cF (c:Ty.den a0f):LB:=Prod.snd (Prod.snd (Prod.snd c))
abbrev caAt (l:LC)(i:Nat):Ty.den a0f:=l.getD i (Ty.dflt a0f)
structure okC (c:Ty.den a0f):Prop where
 k0:0≤cK c
 k1:cK c≤255
 i1:cI c≤9223372036854775807
 wb:Wb (cB c)
 wf:Wb (cF c)
theorem l6l (l:LC)(hl:l.length≤80): ∀m k:Nat,∀n:Int,k≤l.length→l.length-k<m→0≤n→n≤12000→
  (∃n',b0n e0m m [.k 0,.l a0f l,.n n,.n (k:Int)]=some (0,[.n n'])∧ ∀i,k≤i→i<l.length→(cB (caAt l i)).length≤6000)∨b0n e0m m [.k 0,.l a0f l,.n n,.n (k:Int)]=some (1,[.b true]):=by
 intro m
 induction m with
 |zero=>intro k n _ hm;omega
 |succ m ih=>
  intro k n hk hm h0 h1
  by_cases q:k<l.length
  ·have hw6:IntKind.wrap .i64 ((6000:Int)-n)=6000-n:=w64 (by omega) (by omega)
   by_cases a:((cB (caAt l k)).length:Int)>6000-n
   ·have a':((cB (caAt l k)).length:Int)>IntKind.wrap .i64 ((6000:Int)-n):=by rw[hw6];exact a
    exact .inr (b0r (z0t (by omega) (Int.ofNat_lt.2 q) a'))
   have a': ¬((cB (caAt l k)).length:Int)>IntKind.wrap .i64 ((6000:Int)-n):=by rw[hw6];exact a
   by_cases b:((cF (caAt l k)).length:Int)>6000-n
   ·have b':((cF (caAt l k)).length:Int)>IntKind.wrap .i64 ((6000:Int)-n):=by rw[hw6];exact b
    exact .inr (b0r (y0a (by omega) (Int.ofNat_lt.2 q) a' b'))
   have b': ¬((cF (caAt l k)).length:Int)>IntKind.wrap .i64 ((6000:Int)-n):=by rw[hw6];exact b
   have e:b0n e0m (m+1) [.k 0,.l a0f l,.n n,.n (k:Int)]=b0n e0m m [.k 0,.l a0f l,.n (IntKind.wrap .i64 (IntKind.wrap .i64 (n+((cB (caAt l k)).length:Int))+((cF (caAt l k)).length:Int))),.n (IntKind.wrap .i64 ((k:Int)+1))]:=e0l (y0f (by omega) (Int.ofNat_lt.2 q) a' b')
   have ew:IntKind.wrap .i64 (IntKind.wrap .i64 (n+((cB (caAt l k)).length:Int))+((cF (caAt l k)).length:Int))=n+((cB (caAt l k)).length:Int)+((cF (caAt l k)).length:Int):=by
    rw[show IntKind.wrap .i64 (n+((cB (caAt l k)).length:Int))=n+((cB (caAt l k)).length:Int)from w64 (by omega) (by omega)]
    exact w64 (by omega) (by omega)
   rw[ew,w1n k (by omega)]at e
   rcases ih (k+1) (n+((cB (caAt l k)).length:Int)+((cF (caAt l k)).length:Int)) (by omega) (by omega) (by omega) (by omega)with⟨n',h,hs⟩|h
   ·refine .inl ⟨n',e.trans h,fun i hi hil=> ?_⟩
    rcases Nat.eq_or_lt_of_le hi with rfl|hi
    ·omega
    ·exact hs i hi hil
   ·exact .inr (e.trans h)
  ·exact .inl ⟨n,b0r (z0p (by omega) (by omega)),fun i hi hil=>by omega⟩
theorem l6x (l:LC): ∃x,t0k [.l a0f l]=some (0,[.b x])∧(x=false→l.length≤80∧ ∀i,i<l.length→(cB (caAt l i)).length≤6000):=by
 by_cases hl:(l.length:Int)>80
 ·exact⟨true,h1j hl,fun h=>by cases h⟩
 have hl':l.length≤80:=by omega
 rcases l6l l hl' FU 0 0 (by omega) (h0r (by omega)) (by omega) (by omega)with⟨n',h,hs⟩|h
 ·rw[←n0z]at h
  exact⟨_,g1s hl h,fun _=>⟨hl',fun i hi=>hs i (Nat.zero_le _) hi⟩⟩
 ·rw[←n0z]at h
  exact⟨true,f1z hl h,fun h=>by cases h⟩
theorem wf_all {t:Ty}{l:List t.den}(h:wfD (.sl t) l=true): ∀x∈l,wfD t x=true:=by
 have h:(decide (l.length≤maxLen)&&wfL (wfD t) l)=true:=h
 rw[Bool.and_eq_true]at h
 exact v0q.1 h.2
theorem wb_wf {b:LB}(h:wfD (.sl TB) b=true):Wb b:=fun x hx=>by
 have q:=wfi (wf_all h x hx)
 simp[IntKind.min,IntKind.max,IntKind.bits,IntKind.signed]at q
 exact⟨q.1,Int.lt_of_le_of_lt q.2 (by decide)⟩
theorem okC_wf {c:Ty.den a0f}(h:wfD a0f c=true):okC c:=by
 have h1:=w0w h
 have h2:=w0w h1.2
 have h3:=w0w h2.2
 have k:=wfi h1.1
 have i:=wfi h2.1
 simp[IntKind.min,IntKind.max,IntKind.bits,IntKind.signed]at k i
 exact⟨k.1,k.2,i.2,wb_wf h3.1,wb_wf h3.2⟩
section
variable (l:LC) (hl:l.length≤80) (hc: ∀c∈l,okC c) (hb: ∀i,i<l.length→(cB (caAt l i)).length≤6000)
include hl hc hb
end
theorem k1x (K:LKs)(i j:Nat)(b:Ty.den TBk)(hi:i<K.length):kAt (K.set i b) j=if i=j then b else kAt K j:=by
 show(K.set i b).getD j _=_
 rw[List.getD_eq_getElem?_getD,List.getElem?_set]
 by_cases h:i=j
 ·subst h;rw[if_pos rfl,if_pos rfl,if_pos hi];rfl
 ·rw[if_neg h,if_neg h,←List.getD_eq_getElem?_getD]
section
variable (s:DS) (hs:DOk s)
include hs
theorem wIn {n:Nat}(h:n<s.W.length):(wI (wAt s.W n)).toNat<s.K.length:=by
 obtain⟨p0,p1⟩:=hs.wp (wAt s.W n) (b0q h)
 omega
theorem k1t (j:Nat): ∀n,n≤s.W.length→rB (kAt (putN s.W s.K n) j)=(fnd s.W (j:Int) n).getD (rB (kAt s.K j))
 |0,_=>rfl
 |n+1,h=>by
  have hl:=wIn s hs (show n<s.W.length by omega)
  obtain⟨p0,p1⟩:=hs.wp (wAt s.W n) (b0q (by omega))
  have ih:=k1t j n (by omega)
  have e:kAt (putN s.W s.K (n+1)) j=if(wI (wAt s.W n)).toNat=j then ofB (wB (wAt s.W n))else kAt (putN s.W s.K n) j:=k1x _ _ _ _ (by rw[g0p];exact hl)
  rw[e]
  by_cases q:wI (wAt s.W n)=(j:Int)
  ·rw[if_pos (by omega)]
   have:fnd s.W (j:Int) (n+1)=some (wB (wAt s.W n)):=by show(if _ then _ else _)=_;rw[if_pos q]
   rw[this];rfl
  ·rw[if_neg (by omega)]
   have:fnd s.W (j:Int) (n+1)=fnd s.W (j:Int) n:=by show(if _ then _ else _)=_;rw[if_neg q]
   rw[this];exact ih
def OneW (s:DS):Prop:= ∀n,n<s.W.length→fnd s.W (wI (wAt s.W n)) n=none
theorem k1s (ho:OneW s)(F:LB)(hF:Wb F)(j:Nat): ∀n,n≤s.W.length→match fnd s.W (j:Int) n with
  |none=>kAt (putF F s.W s.K n) j=kAt s.K j
  |some b=> ∃f:Int,0≤f∧f<256∧rB (kAt (putF F s.W s.K n) j)=putK f b (rB (kAt s.K j))
 |0,_=>rfl
 |n+1,h=>by
  have hl:=wIn s hs (show n<s.W.length by omega)
  obtain⟨p0,p1⟩:=hs.wp (wAt s.W n) (b0q (by omega))
  have ih:=k1s ho F hF j n (by omega)
  have e:kAt (putF F s.W s.K (n+1)) j=if(wI (wAt s.W n)).toNat=j then ofB (putK (fk F n) (wB (wAt s.W n)) (rB (kAt (putF F s.W s.K n) (wI (wAt s.W n)).toNat)))else kAt (putF F s.W s.K n) j:=k1x _ _ _ _ (by rw[f0r];exact hl)
  by_cases q:wI (wAt s.W n)=(j:Int)
  ·have h0:=ho n (by omega)
   rw[q]at h0
   rw[h0]at ih
   have e2:fnd s.W (j:Int) (n+1)=some (wB (wAt s.W n)):=by show(if _ then _ else _)=_;rw[if_pos q]
   rw[e2]
   obtain⟨f0,f1⟩:=v0p hF n
   refine⟨fk F n,f0,f1,?_⟩
   rw[e,if_pos (by omega),show(wI (wAt s.W n)).toNat=j by omega,ih];rfl
  ·have e2:fnd s.W (j:Int) (n+1)=fnd s.W (j:Int) n:=by show(if _ then _ else _)=_;rw[if_neg q]
   rw[e2,e,if_neg (by omega)];exact ih
end
theorem j1d (W:LW)(w:Ty.den TWr)(j:Int): ∀n,n≤W.length→fnd (W++[w]) j n=fnd W j n
 |0,_=>rfl
 |n+1,h=>by
  have e:wAt (W++[w]) n=wAt W n:=by
   show(W++[w]).getD n _=W.getD n _
   rw[List.getD_eq_getElem?_getD,List.getD_eq_getElem?_getD,List.getElem?_append_left (by omega)]
  show(if wI (wAt (W++[w]) n)=j then some (wB (wAt (W++[w]) n))else fnd (W++[w]) j n)=(if wI (wAt W n)=j then some (wB (wAt W n))else fnd W j n)
  rw[e,j1d W w j n (by omega)]
theorem l1p (W:LW)(w:Ty.den TWr)(j:Int):fnd (W++[w]) j (W.length+1)=if wI w=j then some (wB w)else fnd W j W.length:=by
 have e:wAt (W++[w]) W.length=w:=by
  show(W++[w]).getD W.length _=w
  rw[List.getD_eq_getElem?_getD,List.getElem?_append_right (Nat.le_refl _),Nat.sub_self];rfl
 show(if wI (wAt (W++[w]) W.length)=j then some (wB (wAt (W++[w]) W.length))else fnd (W++[w]) j W.length)=_
 rw[e,j1d W w j _ (Nat.le_refl _)]
theorem t21 {b was now:List Int}(hb:b.length=256)(hw:was.length=256)(hn:now.length=256){k0:Nat}(hk:k0≤256)(he:b=now.take k0++was.drop k0):j1a [.s (a0e b),.s (a0e was),.s (a0e now)]=some (0,[.b true]):=by
 refine k1z ?_
 rw[j1l]
 have zb:ByteArray.size (a0e b)=256:=by rw[g0o,hb]
 have zw:ByteArray.size (a0e was)=256:=by rw[g0o,hw]
 have zn:ByteArray.size (a0e now)=256:=by rw[g0o,hn]
 have go: ∀m n:Nat,n≤k0→k0-n<m→b0n i1o m [.k 0,.s (a0e b),.s (a0e was),.s (a0e now),.n (n:Int)]=some (1,[.b true]):=by
  intro m
  induction m with
  |zero=>intro n _ hm;omega
  |succ m ih=>
   intro n hn1 hm
   have g0:(0:Int)≤(n:Int):=by omega
   have g1:(n:Int)≤((ByteArray.size (a0e b):Nat):Int):=by omega
   have gg: ∀z:Nat,z=256→(decide ((0:Int)≤(n:Int))&&decide ((n:Int)≤(z:Int)))=true:=fun z hz=>by rw[hz,dt g0,dt (by omega)];rfl
   have g3:=d1s now was n hn hw
   cases h:b0y (a0e b) ((a0e now).extract 0 n++(a0e was).extract n (Int.toNat ((ByteArray.size (a0e was):Nat):Int)))with
   |true=>exact b0r (j1k g0 g1 (gg _ zn) (gg _ zw) g3 h)
   |false=>
    have hne:n≠k0:=fun e=>by
     rw[ext2,e,←he,e0y]at h;cases h
    refine(e0l (j1i g0 g1 (gg _ zn) (gg _ zw) g3 h)).trans ?_
    rw[w1n n (by omega)]
    exact ih (n+1) (by omega) (by omega)
 exact go FU 0 (Nat.zero_le _) (h0r (by omega))
theorem iand7 (x:Int): ∃j:Nat,j<8∧iand .i64 x 7=(j:Int):=by
 have h:(BitVec.ofInt 64 x&&&BitVec.ofInt 64 7).toNat≤7:=by
  rw[BitVec.toNat_and]
  exact Nat.le_trans Nat.and_le_right (by decide)
 refine⟨(BitVec.ofInt 64 x&&&BitVec.ofInt 64 7).toNat,by omega,?_⟩
 show IntKind.wrap .i64 (((BitVec.ofInt 64 x&&&BitVec.ofInt 64 7).toNat:Nat):Int)=_
 exact w64 (by omega) (by omega)
def r8 {β:Type}(f:Nat→β):List β:=(List.range 8).map f
theorem j1w {β:Type}(f:Nat→β):(r8 f).length=8:=by unfold r8;rw[List.length_map,List.length_range]
theorem k1f {β:Type}(f:Nat→β)(d:β){j:Nat}(h:j<8):(r8 f).getD j d=f j:=by
 unfold r8;rw[List.getD_eq_getElem?_getD,List.getElem?_map,List.getElem?_range h];rfl
theorem i1r {β:Type}{f g:Nat→β}(h: ∀j,j<8→f j=g j):r8 f=r8 g:=List.map_congr_left fun j hj=>h j (List.mem_range.1 hj)
theorem j1u {β:Type}(f:Nat→β)(i:Nat)(v:β):(r8 f).set i v=r8 fun j=>if j=i then v else f j:=by
 apply List.ext_getElem?
 intro j
 rw[List.getElem?_set]
 unfold r8
 rw[List.getElem?_map,List.getElem?_map,List.length_map,List.length_range]
 by_cases h:j<8
 ·rw[List.getElem?_range h]
  by_cases e:i=j
  ·subst e;rw[if_pos rfl,if_pos h];show some v=some (if i=i then v else f i);rw[if_pos rfl]
  ·rw[if_neg e];show some (f j)=some (if j=i then v else f j);rw[if_neg (Ne.symm e)]
 ·rw[List.getElem?_eq_none (by rw[List.length_range];omega)]
  by_cases e:i=j
  ·subst e;rw[if_pos rfl,if_neg h];rfl
  ·rw[if_neg e];rfl
def tx (b:List Int):Ty.den TS:=a0e b
def nwB (s:DS)(j:Nat):List Int:=(fnd s.W (j:Int) s.W.length).getD (rB (kAt s.K j))
def suOf (s:DS):LT:=r8 fun j=>tx (rB (kAt s.K j))
def nwOf (s:DS):LT:=r8 fun j=>tx (nwB s j)
def bT:Ty.den TBo:=true
def isB (o:Option (List Int)):Ty.den TBo:=o.isSome
def frOf (s:DS):List (Ty.den TBo):=r8 fun j=>isB (fnd s.W (j:Int) s.W.length)
theorem inR8 {β:Type}(f:Nat→β){j:Nat}(h:j<8):inR (j:Int) (r8 f).length=true:=i1z (by omega) (by rw[j1w];omega)
section
variable (s:DS) (l:LC)
theorem lp7:j1z [.k 0,.l a0f l,.n 0,.n s.n,.b s.A,.n s.h,.b s.o,.l TS (r8 fun _=>Ty.dflt TS),.l TS (r8 fun _=>Ty.dflt TS),.l TBk s.K,.l TWr s.W]=some (0,[.l a0f l,.n s.n,.b s.A,.n s.h,.b s.o,.l TS (r8 fun _=>tx (List.replicate 256 0)),.l TS (r8 fun _=>tx (List.replicate 256 0)),.l TBk s.K,.l TWr s.W]):=by
 rw[l1k]
 have e0:(r8 fun _=>Ty.dflt TS)=r8 fun j=>if j<0 then tx (List.replicate 256 0)else Ty.dflt TS:=i1r fun j _=>by rw[if_neg (by omega)]
 have e8:(r8 fun _=>tx (List.replicate 256 0))=r8 fun j=>if j<8 then tx (List.replicate 256 0)else Ty.dflt TS:=i1r fun j h=>by rw[if_pos h]
 rw[e0,e8]
 refine c0k (st:=j1h) (fun i=>[.k 0,.l a0f l,.n (i:Int),.n s.n,.b s.A,.n s.h,.b s.o,.l TS (r8 fun j=>if j<i then tx (List.replicate 256 0)else Ty.dflt TS),.l TS (r8 fun j=>if j<i then tx (List.replicate 256 0)else Ty.dflt TS),.l TBk s.K,.l TWr s.W]) 8 (0,[.l a0f l,.n s.n,.b s.A,.n s.h,.b s.o,.l TS (r8 fun j=>if j<8 then tx (List.replicate 256 0)else Ty.dflt TS),.l TS (r8 fun j=>if j<8 then tx (List.replicate 256 0)else Ty.dflt TS),.l TBk s.K,.l TWr s.W]) (fun i hi=> ?_) (l1j (by omega) (by omega)) FU (h0r (by omega))
 have es:((r8 fun j=>if j<i then tx (List.replicate 256 0)else Ty.dflt TS)).set i (tx (List.replicate 256 0))=r8 fun j=>if j<i+1 then tx (List.replicate 256 0)else Ty.dflt TS:=by
  rw[j1u]
  refine i1r fun j _=> ?_
  by_cases e:j=i
  ·rw[if_pos e,if_pos (by omega)]
  ·rw[if_neg e]
   by_cases h:j<i
   ·rw[if_pos h,if_pos (by omega)]
   ·rw[if_neg h,if_neg (by omega)]
 have h2:inR (i:Int) (((r8 fun j=>if j<i then tx (List.replicate 256 0)else Ty.dflt TS)).set i (tx (List.replicate 256 0))).length=true:=by rw[es];exact inR8 _ hi
 have eg:(((r8 fun j=>if j<i then tx (List.replicate 256 0)else Ty.dflt TS)).set i (tx (List.replicate 256 0))).getD i (Ty.dflt TS)=tx (List.replicate 256 0):=by
  rw[es,k1f _ _ hi,if_pos (Nat.lt_succ_self _)]
 have:=l1f (l0:=l) (n1:=(i:Int)) (n2:=s.n) (b3:=s.A) (n4:=s.h) (b5:=s.o) (l6:=r8 fun j=>if j<i then tx (List.replicate 256 0)else Ty.dflt TS) (l7:=r8 fun j=>if j<i then tx (List.replicate 256 0)else Ty.dflt TS) (l8:=s.K) (l9:=s.W) (by omega) (by omega) (inR8 _ hi) h2 (inR8 _ hi)
 refine this.trans ?_
 show some (Step.go [.k 0,.l a0f l,.n (IntKind.wrap .i64 ((i:Int)+1)),.n s.n,.b s.A,.n s.h,.b s.o,.l TS (((r8 fun j=>if j<i then tx (List.replicate 256 0)else Ty.dflt TS)).set i (tx (List.replicate 256 0))),.l TS (((r8 fun j=>if j<i then tx (List.replicate 256 0)else Ty.dflt TS)).set i ((((r8 fun j=>if j<i then tx (List.replicate 256 0)else Ty.dflt TS)).set i (tx (List.replicate 256 0))).getD i (Ty.dflt TS))),.l TBk s.K,.l TWr s.W])=_
 rw[eg,es,w1n i (by omega)]
theorem lp19 (n1 n2:Int)(su nw:Nat→Ty.den TS):i1t [.k 0,.l a0f l,.n n1,.n n2,.n 0,.n s.n,.b s.A,.n s.h,.b s.o,.l TS (r8 su),.l TS (r8 nw),.l TBk s.K,.l TWr s.W]=some (0,[.l a0f l,.n n1,.n n2,.n s.n,.b s.A,.n s.h,.b s.o,.l TS (r8 nw),.l TS (r8 nw),.l TBk s.K,.l TWr s.W]):=by
 rw[k1l]
 have e0:r8 su=r8 fun j=>if j<0 then nw j else su j:=i1r fun j _=>by rw[if_neg (by omega)]
 have e8:(r8 fun j=>if j<8 then nw j else su j)=r8 nw:=i1r fun j h=>by rw[if_pos h]
 rw[e0]
 refine(c0k (st:=i1x) (fun i=>[.k 0,.l a0f l,.n n1,.n n2,.n (i:Int),.n s.n,.b s.A,.n s.h,.b s.o,.l TS (r8 fun j=>if j<i then nw j else su j),.l TS (r8 nw),.l TBk s.K,.l TWr s.W]) 8 (0,[.l a0f l,.n n1,.n n2,.n s.n,.b s.A,.n s.h,.b s.o,.l TS (r8 fun j=>if j<8 then nw j else su j),.l TS (r8 nw),.l TBk s.K,.l TWr s.W]) (fun i hi=> ?_) (k1j (by omega) (by omega)) FU (h0r (by omega))).trans (by rw[e8])
 have es:((r8 fun j=>if j<i then nw j else su j)).set i ((r8 nw).getD i (Ty.dflt TS))=r8 fun j=>if j<i+1 then nw j else su j:=by
  rw[k1f _ _ hi,j1u]
  refine i1r fun j _=> ?_
  by_cases e:j=i
  ·rw[if_pos e,if_pos (by omega),e]
  ·rw[if_neg e]
   by_cases h:j<i
   ·rw[if_pos h,if_pos (by omega)]
   ·rw[if_neg h,if_neg (by omega)]
 have:=k1o (l0:=l) (n1:=n1) (n2:=n2) (n3:=(i:Int)) (n4:=s.n) (b5:=s.A) (n6:=s.h) (b7:=s.o) (l8:=r8 fun j=>if j<i then nw j else su j) (l9:=r8 nw) (l10:=s.K) (l11:=s.W) (by omega) (by omega) (inR8 _ hi) (inR8 _ hi)
 refine this.trans ?_
 show some (Step.go [.k 0,.l a0f l,.n n1,.n n2,.n (IntKind.wrap .i64 ((i:Int)+1)),.n s.n,.b s.A,.n s.h,.b s.o,.l TS (((r8 fun j=>if j<i then nw j else su j)).set i ((r8 nw).getD i (Ty.dflt TS))),.l TS (r8 nw),.l TBk s.K,.l TWr s.W])=_
 rw[es,w1n i (by omega)]
end
theorem d17 (s:DS)(hw:s.W.length≤100000)(i:Int)(b:List Int):i1m [.n i,.l TB b,.n s.n,.b s.A,.n s.h,.b s.o,.l TBk s.K,.l TWr s.W]=some (0,[.n (b0a s i b).2,.n (b0a s i b).1.n,.b (b0a s i b).1.A,.n (b0a s i b).1.h,.b (b0a s i b).1.o,.l TBk (b0a s i b).1.K,.l TWr (b0a s i b).1.W]):=by
 unfold b0a
 cases h1:s.o with
 |true=>rw[if_pos rfl,←h1];exact k1y h1
 |false=>
  rw[if_neg (by decide)]
  by_cases h2:0≤i∧i<(s.K.length:Int)
  ·rw[if_pos h2]
   by_cases h3:256<b.length
   ·rw[if_pos h3,←h1];exact k1v h1 h2.1 h2.2 (by show(b.length:Int)>256;omega)
   rw[if_neg h3]
   have h3': ¬(b.length:Int)>256:=by omega
   have h4:(s.W.length+1)*264≤140737488355328:=by omega
   rw[←pad_eq (show b.length≤256 by omega)]
   cases h5:s.A with
   |true=>
    rw[if_pos rfl]
    by_cases h6:s.h=0
    ·rw[if_pos h6];exact l1a rfl h2.1 h2.2 h3' h4 rfl h6
    ·rw[if_neg h6];exact l1b rfl h2.1 h2.2 h3' h4 rfl h6
   |false=>rw[if_neg (by decide)];exact k1w rfl h2.1 h2.2 h3' h4 rfl
  ·rw[if_neg h2,←h1]
   by_cases h0:0≤i
   ·exact l1d h1 h0 (fun q=>h2 ⟨h0,q⟩)
   ·exact l1c h1 h0
theorem l1n (s:DS)(j:Nat)(b:List Int)(ho:s.o=false)(hj:j<s.K.length)(hb:b.length≤256):(b0a s (j:Int) b).1.W=s.W++[mkW (j:Int) (pad b)]:=by
 unfold b0a
 rw[ho,if_neg (by decide),if_pos ⟨by omega,by omega⟩,if_neg (by omega)]
 split
 ·split<;>rfl
 ·rfl
theorem d19n (s:DS)(hs:DH s)(hw:s.W.length≤100000)(F:LB)(hF:Wb F)(n:Int)(a:Bool)(h:Int):i1y [.l TB F,.n n,.b a,.n h,.b true,.l TBk s.K,.l TWr s.W]=some (1,[.n n,.b false,.n h,.b false,.l TBk (putF F s.W s.K s.W.length),.l TWr []]):=k1c rfl (d41 s hs.toDOk hw F hF _ _ _ _)
def pd (B:List Int)(i:Nat):List Int:=B.take i++List.replicate (256-i) 0
theorem l1g (B:List Int)(hB:B.length≤256)(i:Nat)(hi:i≤B.length):(pd B i).length=256:=by
 unfold pd;rw[List.length_append,List.length_take,List.length_replicate];omega
theorem pd_set (B:List Int)(hB:B.length≤256)(i:Nat)(hi:i<B.length):(pd B i).set i (B.getD i 0)=pd B (i+1):=by
 apply List.ext_getElem?
 intro j
 have hl:=l1g B hB i (by omega)
 have hl2:=l1g B hB (i+1) (by omega)
 have ht:(B.take i).length=i:=by rw[List.length_take];omega
 have ht2:(B.take (i+1)).length=i+1:=by rw[List.length_take];omega
 have eb:B.getD i 0=B[i]:=by rw[List.getD_eq_getElem?_getD,List.getElem?_eq_getElem hi];rfl
 rw[List.getElem?_set]
 unfold pd at*
 rcases Nat.lt_trichotomy j i with h|h|h
 ·rw[if_neg (by omega),List.getElem?_append_left (by omega),List.getElem?_append_left (by omega),List.getElem?_take_of_lt h,List.getElem?_take_of_lt (by omega)]
 ·subst h
  rw[if_pos rfl,if_pos (by omega),List.getElem?_append_left (by omega),List.getElem?_take_of_lt (by omega),List.getElem?_eq_getElem hi,eb]
 ·rw[if_neg (by omega),List.getElem?_append_right (by omega),List.getElem?_append_right (by omega),ht,ht2,List.getElem?_replicate,List.getElem?_replicate]
  by_cases q:j<256
  ·rw[if_pos (by omega),if_pos (by omega)]
  ·rw[if_neg (by omega),if_neg (by omega)]
theorem pd_pad (B:List Int):pd B B.length=pad B:=by unfold pd pad;rw[List.take_length]
section
variable (s:DS) (l:LC)
theorem lp27 (k:Nat)(hk:k<l.length)(B:List Int)(eB:B=cB (caAt l k))(hB':B.length≤256)(n2:Int)(su nw:LT)(fr:List (Ty.den TBo)):i1q [.k 0,.l a0f l,.n (k:Int),.n n2,.n 0,.n s.n,.b s.A,.n s.h,.b s.o,.l TS su,.l TS nw,.l TBo fr,.l TB (List.replicate 256 (0:Int)),.l TBk s.K,.l TWr s.W]=some (0,[.l a0f l,.n (k:Int),.n n2,.n s.n,.b s.A,.n s.h,.b s.o,.l TS su,.l TS nw,.l TBo fr,.l TB (pd B B.length),.l TBk s.K,.l TWr s.W]):=by
 rw[k1d]
 have hR:inR (k:Int) l.length=true:=i1z (by omega) (Int.ofNat_lt.2 hk)
 refine c0k (st:=i1v) (fun i=>[.k 0,.l a0f l,.n (k:Int),.n n2,.n (i:Int),.n s.n,.b s.A,.n s.h,.b s.o,.l TS su,.l TS nw,.l TBo fr,.l TB (pd B i),.l TBk s.K,.l TWr s.W]) B.length (0,[.l a0f l,.n (k:Int),.n n2,.n s.n,.b s.A,.n s.h,.b s.o,.l TS su,.l TS nw,.l TBo fr,.l TB (pd B B.length),.l TBk s.K,.l TWr s.W]) (fun i hi=> ?_) (k1b (by omega) hR (by show¬((B.length:Nat):Int)<((List.length (cB (caAt l k)):Nat):Int);rw[←eB];exact Int.lt_irrefl _)) FU (h0r (by omega))
 have hl:inR (i:Int) (List.length (α:=Ty.den TB) (pd B i))=true:=i1z (by omega) (by have:=l1g B hB' i (by omega);show(i:Int)<(((pd B i).length:Nat):Int);omega)
 have hi2:(i:Int)<((List.length (cB (caAt l k)):Nat):Int):=by rw[←eB];exact Int.ofNat_lt.2 hi
 have:=k1p (l0:=l) (n1:=(k:Int)) (n2:=n2) (n3:=(i:Int)) (n4:=s.n) (b5:=s.A) (n6:=s.h) (b7:=s.o) (l8:=su) (l9:=nw) (l10:=fr) (l11:=pd B i) (l12:=s.K) (l13:=s.W) (by omega) hR hi2 hl
 refine this.trans ?_
 show some (Step.go [.k 0,.l a0f l,.n (k:Int),.n n2,.n (IntKind.wrap .i64 ((i:Int)+1)),.n s.n,.b s.A,.n s.h,.b s.o,.l TS su,.l TS nw,.l TBo fr,.l TB ((pd B i).set i (List.getD (α:=Int) (cB (caAt l k)) i 0)),.l TBk s.K,.l TWr s.W])=_
 have ep:(pd B i).set i (List.getD (α:=Int) (cB (caAt l k)) i 0)=pd B (i+1):=by rw[←eB];exact pd_set B hB' i hi
 rw[ep,w1n i (by omega)]
end
theorem i1u (s:DS)(ho:s.o=false):(∃s1,c0p s=(s1,140,0)∧s1.o=true∧s1.K=s.K∧s1.W=s.W)∨(∃s1,c0p s=(s1,0,1)∧s1.o=false∧s1.K=putN s.W s.K s.W.length∧s1.W=[]):=by
 unfold c0p
 rw[ho,if_neg (by decide)]
 by_cases h2:s.A=true
 ·rw[if_pos h2]
  by_cases h3:s.h=0
  ·rw[if_pos h3];exact .inl ⟨_,rfl,rfl,rfl,rfl⟩
  ·rw[if_neg h3];exact .inr ⟨_,rfl,rfl,rfl,rfl⟩
 ·rw[if_neg h2];exact .inr ⟨_,rfl,rfl,rfl,rfl⟩
theorem of_KW {s t:DS}(hK:s.K=t.K)(hW:s.W=t.W):suOf s=suOf t∧nwOf s=nwOf t∧frOf s=frOf t:=by
 unfold suOf nwOf frOf nwB
 rw[hK,hW];exact⟨rfl,rfl,rfl⟩
theorem k1r {s t:DS}(hW:s.W=t.W)(h:OneW t):OneW s:=by
 unfold OneW at*;rw[hW];exact h
theorem wAt_app (W:LW)(w:Ty.den TWr){n:Nat}(h:n<W.length):wAt (W++[w]) n=wAt W n:=by
 show(W++[w]).getD n _=W.getD n _
 rw[List.getD_eq_getElem?_getD,List.getD_eq_getElem?_getD,List.getElem?_append_left h]
theorem l1r (W:LW)(w:Ty.den TWr):wAt (W++[w]) W.length=w:=by
 show(W++[w]).getD W.length _=w
 rw[List.getD_eq_getElem?_getD,List.getElem?_append_right (Nat.le_refl _),Nat.sub_self];rfl
theorem wr_of (s:DS)(h1:OneW s)(j:Nat)(b:List Int)(ho:s.o=false)(hj:j<s.K.length)(hb:b.length≤256)(hn:fnd s.W (j:Int) s.W.length=none):
  suOf (b0a s (j:Int) b).1=suOf s∧nwOf (b0a s (j:Int) b).1=(nwOf s).set j (tx (pad b))∧frOf (b0a s (j:Int) b).1=(frOf s).set j bT∧OneW (b0a s (j:Int) b).1:=by
 have eK:=g1a s (j:Int) b
 have eW:=l1n s j b ho hj hb
 generalize (b0a s (j:Int) b).1=t at eK eW
 have eL:t.W.length=s.W.length+1:=by rw[eW,List.length_append];rfl
 have ef: ∀i:Nat,fnd t.W (i:Int) t.W.length=if i=j then some (pad b)else fnd s.W (i:Int) s.W.length:=fun i=>by
  rw[eL,eW,l1p]
  by_cases e:i=j
  ·rw[if_pos e,if_pos (show wI (mkW (j:Int) (pad b))=(i:Int)from by show(j:Int)=(i:Int);omega)];rfl
  ·rw[if_neg e,if_neg (show¬wI (mkW (j:Int) (pad b))=(i:Int)from by show¬(j:Int)=(i:Int);omega)]
 refine⟨by unfold suOf;rw[eK],?_,?_,fun n hn1=> ?_⟩
 ·unfold nwOf;rw[j1u]
  refine i1r fun i _=> ?_
  unfold nwB;rw[ef,eK]
  by_cases e:i=j
  ·rw[if_pos e,if_pos e];rfl
  ·rw[if_neg e,if_neg e]
 ·unfold frOf;rw[j1u]
  refine i1r fun i _=> ?_
  rw[ef]
  by_cases e:i=j
  ·rw[if_pos e,if_pos e];rfl
  ·rw[if_neg e,if_neg e]
 ·rw[eW]
  rw[eL]at hn1
  rcases Nat.lt_or_ge n s.W.length with q|q
  ·rw[wAt_app _ _ q,j1d _ _ _ _ (by omega)];exact h1 n q
  ·have:n=s.W.length:=by omega
   subst this
   rw[l1r,j1d _ _ _ _ (Nat.le_refl _)];exact hn
theorem l1i (s:DS)(hs:DOk s){t:DS}(hK:t.K=putN s.W s.K s.W.length)(hW:t.W=[]):suOf t=nwOf s∧nwOf t=nwOf s∧frOf t=[false,false,false,false,false,false,false,false]∧OneW t:=by
 have e: ∀j,rB (kAt t.K j)=nwB s j:=fun j=>by rw[hK];exact k1t s hs j _ (Nat.le_refl _)
 have e0: ∀j:Nat,fnd t.W (j:Int) t.W.length=none:=fun j=>by rw[hW];rfl
 refine⟨i1r fun j _=>by rw[e],i1r fun j _=>by unfold nwB at*;rw[e0,←e];rfl,?_,fun n h=>by rw[hW]at h;cases h⟩
 unfold frOf
 rw[i1r (g:=fun _=>isB none) fun j _=>by rw[e0]]
 rfl
abbrev kEnv (s:DS):List Dat:=[.n s.n,.b s.A,.n s.h,.b s.o,.l TS (suOf s),.l TS (nwOf s),.l TBo (frOf s),.l TBk s.K,.l TWr s.W]
structure WrR (l:LC)(k:Nat)(p t:DS)(I:Int)(su:LT)(e:Int)(L:LB):Prop where
 ok:DH t
 one:OneW t
 len:t.W.length≤p.W.length+1
 k8:t.K.length=p.K.length
 e17:i1m [.n I,.l TB (cB (caAt l k)),.n p.n,.b p.A,.n p.h,.b p.o,.l TBk p.K,.l TWr p.W]=some (0,[.n e,.n t.n,.b t.A,.n t.h,.b t.o,.l TBk t.K,.l TWr t.W])
 e27:i1q [.k 0,.l a0f l,.n (k:Int),.n I,.n 0,.n t.n,.b t.A,.n t.h,.b t.o,.l TS su,.l TS (nwOf p),.l TBo (frOf p),.l TB (List.replicate 256 (0:Int)),.l TBk p.K,.l TWr t.W]=some (0,[.l a0f l,.n (k:Int),.n I,.n t.n,.b t.A,.n t.h,.b t.o,.l TS su,.l TS (nwOf p),.l TBo (frOf p),.l TB L,.l TBk p.K,.l TWr t.W])
 su':suOf t=suOf p
 nw:nwOf t=(nwOf p).set I.toNat (tx L)
 fr:frOf t=(frOf p).set I.toNat bT
 K:t.K=p.K
theorem wrR (l:LC)(k:Nat)(hk:k<l.length)(ok:okC (caAt l k))(p:DS)(hp:DH p)(h1:OneW p)(hw:p.W.length≤1000)(h8:p.K.length=8)(ho:p.o=false)(j:Nat)(hj:j<8)(hn:fnd p.W (j:Int) p.W.length=none)(hB:(cB (caAt l k)).length≤256)(su:LT)(I:Int)(hI:I=(j:Int)):
  ∃t e L,WrR l k p t I su e L:=by
 subst hI
 obtain⟨B,eB⟩: ∃B:List Int,B=cB (caAt l k):=⟨_,rfl⟩
 have hB':B.length≤256:=by rw[eB];exact hB
 obtain⟨a1,a2,a3⟩:=b1p p hp (j:Int) B (by rw[eB];exact ok.wb)
 obtain⟨b1,b2,b3,b4⟩:=wr_of p h1 j B ho (by omega) hB' hn
 have c1:=d17 p (by omega) (j:Int) B
 have eK:=g1a p (j:Int) B
 generalize b0a p (j:Int) B=R at*
 obtain⟨t,e⟩:=R
 refine⟨t,e,pd B B.length,a1,b4,a2,a3,?_,?_,b1,?_,b3,eK⟩
 ·have: ∀b':LB,b'=B→i1m [.n (j:Int),.l TB b',.n p.n,.b p.A,.n p.h,.b p.o,.l TBk p.K,.l TWr p.W]=some (0,[.n e,.n t.n,.b t.A,.n t.h,.b t.o,.l TBk t.K,.l TWr t.W]):=fun b' h=>by subst h;exact c1
  exact this _ eB.symm
 ·have eK:t.K=p.K:=eK
  have:=lp27 t l k hk B eB hB' (j:Int) su (nwOf p) (frOf p)
  rw[eK]at this
  exact this
 ·rw[pd_pad];exact b2
section
variable (l:LC) (hl:l.length≤80) (hc: ∀c∈l,okC c)
include hl hc
theorem l13: ∀m k:Nat,∀s:DS,DH s→OneW s→s.K.length=8→s.W.length≤k→k≤l.length→l.length-k<m→ ∃t:DS,DH t∧OneW t∧t.K.length=8∧t.W.length≤80∧
  b0n i1l m ([.k 0,.l a0f l,.n (k:Int)]++kEnv s)=some (0,.l a0f l::kEnv t):=by
 intro m
 induction m with
 |zero=>intro k s _ _ _ _ _ hm;omega
 |succ m ih=>
  intro k s hs h1 h8 hw hk hm
  by_cases q:k<l.length
  ·cases ho:s.o with
   |true=>exact⟨s,hs,h1,h8,by omega,b0r (j1n (by omega) (Int.ofNat_lt.2 q) ho)⟩
   |false=>
    have ok:=hc _ (b0q (d:=Ty.dflt a0f) q)
    obtain⟨j,hj,ej⟩:=iand7 (cI (caAt l k))
    obtain⟨I,eI⟩: ∃I:Int,I=iand .i64 (cI (caAt l k)) 7:=⟨_,rfl⟩
    have eJ:I=(j:Int):=eI.trans ej
    have hR:inR (iand .i64 (cI (caAt l k)) 7) (frOf s).length=true:=by rw[ej];exact inR8 _ hj
    have hg:(frOf s).getD (Int.toNat (iand .i64 (cI (caAt l k)) 7)) false=(fnd s.W (j:Int) s.W.length).isSome:=by rw[ej];exact k1f _ _ hj
    have q0:=Int.ofNat_lt.2 q
    have k0:(0:Int)≤(k:Int):=by omega
    have hkR:inR (k:Int) l.length=true:=i1z k0 q0
    have ew:=w1n k (by omega)
    have fin: ∀(p t:DS) (e:Int) (L:LB),WrR l k p t (iand .i64 (cI (caAt l k)) 7) (suOf p) e L→p.K.length=8→p.W.length≤k→ ∃u:DS,DH u∧OneW u∧u.K.length=8∧u.W.length≤80∧
      b0n i1l m [.k 0,.l a0f l,.n (IntKind.wrap .i64 ((k:Int)+1)),.n t.n,.b t.A,.n t.h,.b t.o,.l TS (suOf p),.l TS (List.set (nwOf p) (Int.toNat (iand .i64 (cI (caAt l k)) 7)) (tx L)),.l TBo (List.set (frOf p) (Int.toNat (iand .i64 (cI (caAt l k)) 7)) bT),.l TBk p.K,.l TWr t.W]=some (0,.l a0f l::kEnv u):=by
     intro p t e L w p8 pw
     obtain⟨u,a1,a2,a3,a4,nx⟩:=ih (k+1) t w.ok w.one (w.k8.trans p8) (by have:=w.len;omega) (by omega) (by omega)
     refine⟨u,a1,a2,a3,a4,?_⟩
     rw[ew,←w.su',←w.nw,←w.fr,←w.K];exact nx
    have syn: ∀(s1:DS),DH s1→OneW s1→s1.K.length=8→s1.W.length≤k→ ∀e',b0n i1l m [.k 0,.l a0f l,.n (IntKind.wrap .i64 ((k:Int)+1)),.n s1.n,.b s1.A,.n s1.h,.b s1.o,.l TS (suOf s1),.l TS (nwOf s1),.l TBo (frOf s1),.l TBk s1.K,.l TWr s1.W]=e'→ ∃u:DS,DH u∧OneW u∧u.K.length=8∧u.W.length≤80∧e'=some (0,.l a0f l::kEnv u):=by
     intro s1 b1 b2 b3 b4 e' he
     obtain⟨u,a1,a2,a3,a4,nx⟩:=ih (k+1) s1 b1 b2 b3 (by omega) (by omega) (by omega)
     refine⟨u,a1,a2,a3,a4,?_⟩
     rw[←he,ew];exact nx
    cases hf:(fnd s.W (j:Int) s.W.length).isSome with
    |true=>
     rw[hf]at hg
     rcases i1u s ho with⟨s1,e,o1,K1,W1⟩|⟨s1,e,o1,K1,W1⟩
     ·have ed:=d16 s hs (by omega)
      have okS:=f1y s hs
      rw[e]at ed okS
      obtain⟨f1,f2,f3⟩:=of_KW K1 W1
      obtain⟨u,a1,a2,a3,a4,nx⟩:=syn s1 okS.1 (k1r W1 h1) (okS.2.2.trans h8) (by rw[W1];exact hw) _ rfl
      rw[f1,f2,f3,W1]at nx
      exact⟨u,a1,a2,a3,a4,(e0l (k1q k0 q0 ho hR hg ed (show¬(140:Int)=0 by decide) o1)).trans nx⟩
     ·have ed:=d16 s hs (by omega)
      have okS:=f1y s hs
      rw[e]at ed okS
      have w0:s1.W.length≤k:=by rw[W1];exact Nat.zero_le _
      have k8:s1.K.length=8:=okS.2.2.trans h8
      obtain⟨g1,g2,g3,g4⟩:=l1i s hs.toDOk K1 W1
      have e19:=lp19 s1 l (k:Int) (iand .i64 (cI (caAt l k)) 7) (fun j=>tx (rB (kAt s.K j))) (fun j=>tx (nwB s j))
      by_cases hB:(cB (caAt l k)).length≤256
      ·obtain⟨t,e2,L,w⟩:=wrR l k q ok s1 okS.1 g4 (by omega) k8 o1 j hj (by rw[W1];rfl) hB (suOf s1) _ ej
       obtain⟨u,a1,a2,a3,a4,nx⟩:=fin s1 t e2 L w k8 w0
       have e17:=w.e17
       have e27:=w.e27
       rw[g1,g2,g3]at e27 nx
       have hB': ¬((cB (caAt l k)).length:Int)>256:=by omega
       exact⟨u,a1,a2,a3,a4,(e0l (k1e k0 q0 ho hR hg ed rfl e19 o1 hkR hB' e17 e27 (i1z (by rw[ej];omega) (by rw[ej];unfold nwOf;rw[j1w];omega)) (i1z (by rw[ej];omega) (by rw[ej];show(j:Int)<8;omega)))).trans nx⟩
      ·obtain⟨u,a1,a2,a3,a4,nx⟩:=syn s1 okS.1 g4 k8 w0 _ rfl
       rw[g1,g2,g3]at nx
       exact⟨u,a1,a2,a3,a4,(e0l (k1n k0 q0 ho hR hg ed rfl e19 o1 hkR (by show((cB (caAt l k)).length:Int)>256;omega))).trans nx⟩
    |false=>
     rw[hf]at hg
     have hn:fnd s.W (j:Int) s.W.length=none:=by cases h:fnd s.W (j:Int) s.W.length with|none=>rfl|some b=>rw[h]at hf;cases hf
     by_cases h4:Int.tmod (cK (caAt l k)) 4=0
     ·skip
      rcases i1u s ho with⟨s1,e,o1,K1,W1⟩|⟨s1,e,o1,K1,W1⟩
      ·have ed:=d16 s hs (by omega)
       have okS:=f1y s hs
       rw[e]at ed okS
       obtain⟨f1,f2,f3⟩:=of_KW K1 W1
       obtain⟨u,a1,a2,a3,a4,nx⟩:=syn s1 okS.1 (k1r W1 h1) (okS.2.2.trans h8) (by rw[W1];exact hw) _ rfl
       rw[f1,f2,f3,W1]at nx
       exact⟨u,a1,a2,a3,a4,(e0l (j1q k0 q0 ho hR hg h4 ed (show¬(140:Int)=0 by decide) o1)).trans nx⟩
      ·have ed:=d16 s hs (by omega)
       have okS:=f1y s hs
       rw[e]at ed okS
       have w0:s1.W.length≤k:=by rw[W1];exact Nat.zero_le _
       have k8:s1.K.length=8:=okS.2.2.trans h8
       obtain⟨g1,g2,g3,g4⟩:=l1i s hs.toDOk K1 W1
       have e19:=lp19 s1 l (k:Int) (iand .i64 (cI (caAt l k)) 7) (fun j=>tx (rB (kAt s.K j))) (fun j=>tx (nwB s j))
       by_cases hB:(cB (caAt l k)).length≤256
       ·obtain⟨t,e2,L,w⟩:=wrR l k q ok s1 okS.1 g4 (by omega) k8 o1 j hj (by rw[W1];rfl) hB (suOf s1) _ ej
        obtain⟨u,a1,a2,a3,a4,nx⟩:=fin s1 t e2 L w k8 w0
        have e17:=w.e17
        have e27:=w.e27
        rw[g1,g2,g3]at e27 nx
        have hB': ¬((cB (caAt l k)).length:Int)>256:=by omega
        exact⟨u,a1,a2,a3,a4,(e0l (j1p k0 q0 ho hR hg h4 ed rfl e19 o1 hkR hB' e17 e27 (i1z (by rw[ej];omega) (by rw[ej];unfold nwOf;rw[j1w];omega)) (i1z (by rw[ej];omega) (by rw[ej];show(j:Int)<8;omega)))).trans nx⟩
       ·obtain⟨u,a1,a2,a3,a4,nx⟩:=syn s1 okS.1 g4 k8 w0 _ rfl
        rw[g1,g2,g3]at nx
        exact⟨u,a1,a2,a3,a4,(e0l (j1j k0 q0 ho hR hg h4 ed rfl e19 o1 hkR (by show((cB (caAt l k)).length:Int)>256;omega))).trans nx⟩
     ·by_cases hB:(cB (caAt l k)).length≤256
      ·obtain⟨t,e,L,w⟩:=wrR l k q ok s hs h1 (by omega) h8 ho j hj hn hB (suOf s) _ ej
       obtain⟨u,a1,a2,a3,a4,nx⟩:=fin s t e L w h8 hw
       have hB': ¬((cB (caAt l k)).length:Int)>256:=by omega
       have e17:=w.e17
       exact⟨u,a1,a2,a3,a4,(e0l (j1r k0 q0 ho hR hg h4 hB' e17 w.e27 (i1z (by rw[ej];omega) (by rw[ej];unfold nwOf;rw[j1w];omega)) hR)).trans nx⟩
      ·obtain⟨u,a1,a2,a3,a4,nx⟩:=syn s hs h1 h8 hw _ rfl
       exact⟨u,a1,a2,a3,a4,(e0l (j1s k0 q0 ho hR hg h4 (by show((cB (caAt l k)).length:Int)>256;omega))).trans nx⟩
  ·exact⟨s,hs,h1,h8,by omega,b0r (j1o (by omega) (by omega))⟩
end
theorem torn_of (s:DS)(hs:DOk s)(h1:OneW s)(F:LB)(hF:Wb F)(i:Nat)(hi:i<s.K.length): ∃k0,k0≤256∧rB (kAt (putF F s.W s.K s.W.length) i)=(nwB s i).take k0++(rB (kAt s.K i)).drop k0∧(nwB s i).length=256∧(rB (kAt s.K i)).length=256∧(rB (kAt (putF F s.W s.K s.W.length) i)).length=256∧
  (fnd s.W (i:Int) s.W.length=none→rB (kAt (putF F s.W s.K s.W.length) i)=rB (kAt s.K i)):=by
 have p:=k1s s hs h1 F hF i s.W.length (Nat.le_refl _)
 have lk:(rB (kAt s.K i)).length=256:=(hs.kb _ (b0q (d:=Ty.dflt TBk) hi)).2
 have l':(rB (kAt (putF F s.W s.K s.W.length) i)).length=256:=(q0c s hs F hF s.W.length (Nat.le_refl _) _ (b0q (d:=Ty.dflt TBk) (i:=i) (by rw[f0r];exact hi))).2
 unfold nwB
 cases hf:fnd s.W (i:Int) s.W.length with
 |none=>
  rw[hf]at p
  have p:kAt (putF F s.W s.K s.W.length) i=kAt s.K i:=p
  exact⟨0,by omega,by rw[p];rfl,lk,lk,l',fun _=>by rw[p]⟩
 |some x=>
  rw[hf]at p
  obtain⟨f,f0,f1,e⟩:=p
  have lx:x.length=256:=by
   have: ∀n,n≤s.W.length→ ∀b,fnd s.W (i:Int) n=some b→b.length=256:=by
    intro n
    induction n with
    |zero=>intro _ b h;cases h
    |succ n ih=>
     intro hn b h
     have h:(if wI (wAt s.W n)=(i:Int)then some (wB (wAt s.W n))else fnd s.W (i:Int) n)=some b:=h
     split at h
     ·cases h;exact(hs.wb _ (b0q (by omega))).2
     ·exact ih (by omega) b h
   exact this _ (Nat.le_refl _) _ hf
  by_cases q:f=255
  ·refine⟨256,by omega,?_,lx,lk,l',fun h=>by cases h⟩
   rw[e];unfold putK;rw[if_pos q]
   show x=x.take 256++(rB (kAt s.K i)).drop 256
   rw[List.take_of_length_le (by omega),List.drop_eq_nil_of_le (by omega),List.append_nil]
  ·refine⟨f.toNat,by omega,?_,lx,lk,l',fun h=>by cases h⟩
   rw[e];unfold putK;rw[if_neg q];rfl
theorem l38 (s:DS)(hs:DH s)(h1:OneW s)(h8:s.K.length=8)(F:LB)(hF:Wb F)(n:Int)(h:Int):j1e [.k 0,.n 0,.n n,.b false,.n h,.b false,.l TS (suOf s),.l TS (nwOf s),.l TBo (frOf s),.l TBk (putF F s.W s.K s.W.length),.l TWr []]=some (0,[]):=by
 rw[k1g]
 refine c0k (st:=i1s) (fun i=>[.k 0,.n (i:Int),.n n,.b false,.n h,.b false,.l TS (suOf s),.l TS (nwOf s),.l TBo (frOf s),.l TBk (putF F s.W s.K s.W.length),.l TWr []]) 8 (0,[]) (fun i hi=> ?_) (j1m (by omega) (by omega)) FU (h0r (by omega))
 show _=some (Step.go [.k 0,.n ((i+1:Nat):Int),.n n,.b false,.n h,.b false,.l TS (suOf s),.l TS (nwOf s),.l TBo (frOf s),.l TBk (putF F s.W s.K s.W.length),.l TWr []])
 rw[←w1n i (by omega)]
 have e20:=d20 ⟨n,false,h,false,putF F s.W s.K s.W.length,[]⟩ (Nat.zero_le _) (i:Int)
 have er:p0h ⟨n,false,h,false,putF F s.W s.K s.W.length,[]⟩ (i:Int)=(some (rB (kAt (putF F s.W s.K s.W.length) i)),0):=by
  unfold p0h
  rw[if_neg (show¬(false=true) by decide),if_pos ⟨by omega,by show(i:Int)<(((putF F s.W s.K s.W.length).length:Nat):Int);rw[f0r];omega⟩]
  rfl
 rw[er]at e20
 obtain⟨k0,hk0,et,ln,lw,lb,hno⟩:=torn_of s hs.toDOk h1 F hF i (by omega)
 have e21:=t21 lb lw ln hk0 et
 have gs:(suOf s).getD i (Ty.dflt TS)=tx (rB (kAt s.K i)):=k1f _ _ hi
 have gn':(nwOf s).getD i (Ty.dflt TS)=tx (nwB s i):=k1f _ _ hi
 have gf:(frOf s).getD i false=isB (fnd s.W (i:Int) s.W.length):=k1f _ _ hi
 have e21':j1a [.s (a0e (rB (kAt (putF F s.W s.K s.W.length) i))),.s ((suOf s).getD i (Ty.dflt TS)),.s ((nwOf s).getD i (Ty.dflt TS))]=some (0,[.b true]):=by rw[gs,gn'];exact e21
 cases hf:fnd s.W (i:Int) s.W.length with
 |none=>
  rw[hf]at gf
  have es:b0y (a0e (rB (kAt (putF F s.W s.K s.W.length) i))) ((suOf s).getD i (Ty.dflt TS))=true:=by rw[gs,hno hf];exact e0y _
  exact k1k (by omega) (by omega) e20 rfl (inR8 _ hi) (inR8 _ hi) e21' rfl (inR8 _ hi) gf es
 |some x=>
  rw[hf]at gf
  exact k1h (by omega) (by omega) e20 rfl (inR8 _ hi) (inR8 _ hi) e21' rfl (inR8 _ hi) gf
theorem W4_all (l:LC)(n:Int)(hw:wfD (.sl a0f) l=true)(hn:wfD (.int .i64) n=true):(k1i [.l a0f l,.n n]).sel=some true:=by
 have hi:=wfi hn
 simp[IntKind.min,IntKind.max,IntKind.bits,IntKind.signed]at hi
 obtain⟨x,e,hx⟩:=l6x l
 cases x with
 |true=>exact l1q e rfl
 |false=>
  by_cases h:(l.length:Int)>40
  ·exact l1t e rfl h
  ·have hc: ∀c∈l,okC c:=fun c q=>okC_wf (wf_all hw c q)
   have hN:=sNew_ok (n:=8) (by omega)
   have hl40:l.length≤80:=by omega
   obtain⟨s,es⟩: ∃s:DS,s=⟨0,decide (n≥0),n,false,(sNew 8).K,[]⟩:=⟨_,rfl⟩
   have k8:s.K.length=8:=by rw[es];exact List.length_replicate
   have hs:DH s:=by rw[es];exact⟨⟨hN.kb,(fun w hw=>by cases hw),(fun w hw=>by cases hw),(fun q=>of_decide_eq_true q),hN.kl⟩,by show n≤9223372036854775807;omega⟩
   have h1:OneW s:=fun i hi=>by rw[es]at hi;cases hi
   have ek: ∀j,j<8→rB (kAt s.K j)=List.replicate 256 0:=fun j hj=>by
    have:kAt s.K j=z256:=by
     rw[es]
     show(List.replicate 8 z256).getD j _=z256
     rw[List.getD_eq_getElem?_getD,List.getElem?_replicate,if_pos hj];rfl
    rw[this];rfl
   have esu:suOf s=r8 fun _=>tx (List.replicate 256 0):=i1r fun j hj=>by rw[ek j hj]
   have enw:nwOf s=r8 fun _=>tx (List.replicate 256 0):=i1r fun j hj=>by
    unfold nwB
    have:fnd s.W (j:Int) s.W.length=none:=by rw[es];rfl
    rw[this];show tx (rB (kAt s.K j))=_;rw[ek j hj]
   have efr:frOf s=[false,false,false,false,false,false,false,false]:=by rw[es];rfl
   have e8:=d8 (n:=8) (by omega)
   have e7:=lp7 s l
   obtain⟨t,b1,b2,b3,b4,e13⟩:=l13 l hl40 hc FU 0 s hs h1 k8 (by rw[es];exact Nat.zero_le _) (Nat.zero_le _) (h0r (by omega))
   rw[←k1m]at e13
   have e13:j1c [.k 0,.l a0f l,.n 0,.n s.n,.b s.A,.n s.h,.b s.o,.l TS (suOf s),.l TS (nwOf s),.l TBo (frOf s),.l TBk s.K,.l TWr s.W]=some (0,.l a0f l::kEnv t):=e13
   rw[esu,enw,efr]at e13
   rw[es]at e7 e13
   by_cases h0:(l.length:Int)>0
   ·have okc:=hc _ (b0q (d:=Ty.dflt a0f) (i:=0) (by omega))
    have hF:Wb (cF (caAt l 0)):=okc.wf
    exact l1l e rfl h e8 e7 e13 h0 (d19n t b1 (by omega) (cF (caAt l 0)) hF t.n false t.h) (l38 t b1 b2 b3 (cF (caAt l 0)) hF t.n t.h)
   ·have hF:Wb ([]:List Int):=fun x hx=>by cases hx
    exact l1o e rfl h e8 e7 e13 h0 (d19n t b1 (by omega) [] hF t.n false t.h) (l38 t b1 b2 b3 [] hF t.n t.h)
end Go.Proofs.Ytnmgjcpjkdmngaa.Vx
end
