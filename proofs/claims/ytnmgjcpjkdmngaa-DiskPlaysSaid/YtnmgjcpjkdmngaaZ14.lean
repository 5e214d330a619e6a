import Derived.Test.YtnmgjcpjkdmngaaZ06j
import Derived.Test.YtnmgjcpjkdmngaaProg
import Derived.KernelRfl
import Derived.Test.YtnmgjcpjkdmngaaVxAsk
import Derived.Test.YtnmgjcpjkdmngaaVxBits
import Derived.Test.YtnmgjcpjkdmngaaVxAid
noncomputable section
namespace Go.Proofs.Ytnmgjcpjkdmngaa.Vx
open Go Go.RowKit
set_option linter.unusedVariables false
set_option linter.unusedSimpArgs false
set_option maxRecDepth 100000
set_option maxHeartbeats 0
theorem hmix:Try.prog.follows .mixedOrders=true:=by kernel_rfl
theorem o0k:CsOk Try.prog n0y:=l0r _
def op_w7:List Dat→Option (Nat×List Dat):=fun _=>some (0,[.b true])
def Bw7:FBox:=(mkF [] [] [] [(.bool 0,[])] op_w7)
def cs_w7:FuncId→Option a0i:=f0e 7 [Bw7] n0y
theorem h1k (env:List Dat)(y:Nat×List Dat)(h:op_w7 env=some y):(boxC true Try.prog n0y 7 ls0 (mkF [] [] [] [(.bool 0,[])] fun _=>none) env).sel=some y:=by
 cases h
 kernel_rfl
theorem Bw7_ok:e0f Try.prog 7 (b0g Bw7):=mkF_ok (op:=op_w7) o0k hmix true (LsOk.none _ _ _) h1k
theorem g1r:CsOk Try.prog cs_w7:=k0l o0k fun B hB=>by
 cases List.mem_singleton.1 hB
 exact Bw7_ok
abbrev TB:Ty:=.int .u8
abbrev TS:Ty:=.str
abbrev TBk:Ty:=.arr 256 (.int .u8)
abbrev TWr:Ty:=.pair (.int .i64) (.arr 256 (.int .u8))
abbrev TOp:Ty:=.pair (.int .i64) .str
abbrev a0f:Ty:=.pair (.int .u8) (.pair (.int .i64) (.pair (.sl (.int .u8)) (.sl (.int .u8))))
def fnV0 (f:Nat):PV:=.fn (.func f) [] []
def fnC (f:Nat)(cs:List PV):PV:=.fn (.func f) [] cs
def dkB (a c h:Nat):PB:=.cells [.own a,.own c,.int .i64 h,.bool (h+1),.int .i64 (h+2),.bool (h+3)]
def faB (h:Nat):PB:=.cells [.imm TB h]
def t0y (l:List (Ty.den TBk)):Bool:=decide ((0+l.length)*256≤140737488355328)
def s0u:OpA:=j0l TBk t0y
def Bc26:FBox:=mkF [.imm TBk 0] [] [] [(.own 0,[.arr TBk 0])] s0u
def cs_c26:FuncId→Option a0i:=j0z 26 ((BSh.of Bc26).k s0u) cs_w7
theorem Bc26_ok:e0f Try.prog 26 (b0g Bc26):=
 x0a (P:=Try.prog) (cl:=clMd true Try.prog n0y) (j0d (l0r _) t0c true) t0c (T:=50) (e:=60) (n:=400) (fn:=Try.f26) (by kernel_rfl) (by kernel_rfl) (by kernel_rfl) (by kernel_rfl) TBk t0y
  (fun l=>[.imm TBk l,.undef,.nilsl,.undef,.undef,.undef,.undef,.undef]) (fun l=>[.imm TBk l,.undef,.nilsl,.imm TBk l,.bool true,.undef,.undef,.undef])
  (fun l=>[.imm TBk l,.undef,.own 0 1,.imm TBk l,.bool false,.own 0 0,.imm TBk l,.own 0 1]) (fun l=>⟨[.arr TBk 1 l],[0]⟩) (fun l=>.own 0 1)
  (fun l=>by kernel_rfl) (fun l=>rfl) (fun l=>rfl) (fun l=>by kernel_rfl) (fun l=>by kernel_rfl) (fun l=>by kernel_rfl) (fun l=>by kernel_rfl) (fun l=>by kernel_rfl) (fun l=>by kernel_rfl) (by kernel_rfl)
theorem f1i:CsOk Try.prog cs_c26:=csA g1r Bc26_ok
def t0w (l:List (Ty.den TWr)):Bool:=decide ((0+l.length)*264≤140737488355328)
def t0h:OpA:=j0l TWr t0w
def Bc27:FBox:=mkF [.imm TWr 0] [] [] [(.own 0,[.arr TWr 0])] t0h
def c1t:FuncId→Option a0i:=j0z 27 ((BSh.of Bc27).k t0h) cs_c26
theorem Bc27_ok:e0f Try.prog 27 (b0g Bc27):=
 x0a (P:=Try.prog) (cl:=clMd true Try.prog n0y) (j0d (l0r _) t0c true) t0c (T:=51) (e:=63) (n:=400) (fn:=Try.f27) (by kernel_rfl) (by kernel_rfl) (by kernel_rfl) (by kernel_rfl) TWr t0w
  (fun l=>[.imm TWr l,.undef,.nilsl,.undef,.undef,.undef,.undef,.undef]) (fun l=>[.imm TWr l,.undef,.nilsl,.imm TWr l,.bool true,.undef,.undef,.undef])
  (fun l=>[.imm TWr l,.undef,.own 0 1,.imm TWr l,.bool false,.own 0 0,.imm TWr l,.own 0 1]) (fun l=>⟨[.arr TWr 1 l],[0]⟩) (fun l=>.own 0 1)
  (fun l=>by kernel_rfl) (fun l=>rfl) (fun l=>rfl) (fun l=>by kernel_rfl) (fun l=>by kernel_rfl) (fun l=>by kernel_rfl) (fun l=>by kernel_rfl) (fun l=>by kernel_rfl) (fun l=>by kernel_rfl) (by kernel_rfl)
theorem s0k:CsOk Try.prog c1t:=csA f1i Bc27_ok
def S_d8:BSh:={args:=[.int .i64 0],blks:=[],log:=[],outs:=[(.ptr 0 0,[dkB 1 2 0,.arr TBk 4,.arr TWr 5])]}
def ev_d8:List Dat→Tree (Nat×List Dat):=evFV [(none,1,.own TWr)] c1t 8 ls0 S_d8
theorem e_d8: ∃op,IsF ev_d8 8 S_d8 op:=bxFV s0k (LsOk.none _ _ _)
def i1k:OpA:=opF e_d8
theorem h1p {n0:Int}(h0:((decide ((0:Int)≤imin (imax n0 (0:Int)) (4096:Int))&&decide (imin (imax n0 (0:Int)) (4096:Int)≤imin (imax n0 (0:Int)) (4096:Int))&&decide (imin (imax n0 (0:Int)) (4096:Int)*(256:Int)≤(281474976710656:Int)))=true)):i1k [.n n0]=some ((0,[.n (0:Int),.b false,.n (0:Int),.b false,.l TBk (repC (Int.toNat (imin (imax n0 (0:Int)) (4096:Int))) (Ty.dflt TBk)),.l TWr []])):=a0h e_d8 (sT h0<|sP [1]<|sL)
def y0w:FuncId→Option a0i:=f0e 8 [S_d8.k i1k] c1t
theorem i0p:CsOk Try.prog y0w:=csA1 s0k e_d8
def a1y:LSh:={K:=3,log:=[1],ins:=[(sh 48 [(0,.ptr 0 0),(1,fnV0 44),(10,.own 2),(11,.int .i64 0),(12,.int .i64 1)],[dkB 1 2 2,.arr TBk 6,.arr TWr 7])],nils:=[],outs:=[(.exit 0,sh 48 [(0,.ptr 0 0)],[dkB 1 2 0,.arr TBk 4,.arr TWr 5])],cv:=[]}
def i0g:List Dat→Tree Step:=evL y0w 40 1 ls0 a1y
theorem o0t: ∃op,IsL i0g 40 1 a1y op:=bxL i0p (LsOk.none _ _ _)
def p0e:OpA:=opL o0t
theorem t0q (env:List Dat):p0e env=b0n i0g FU env:=e0v o0t env
abbrev g1m:MBox:=boxL o0t
theorem v0m {n0 n1 n2:Int}{b3:Bool}{n4:Int}{b5:Bool}{l6:List (Ty.den TBk)}{l7:List (Ty.den TWr)}(g0:0≤n1)(g1:n0=(l7.length:Int))(h0:(n1<n0))(h1:(inR (Prod.fst (List.getD l7 (Int.toNat n1) (Ty.dflt TWr))) (List.length l6)=true)):(i0g [.k 0,.n n0,.n n1,.n n2,.b b3,.n n4,.b b5,.l TBk l6,.l TWr l7]).sel=some (Step.go [.k 0,.n n0,.n (IntKind.wrap .i64 (n1+(1:Int))),.n n2,.b b3,.n n4,.b b5,.l TBk (List.set l6 (Int.toNat (Prod.fst (List.getD l7 (Int.toNat n1) (Ty.dflt TWr)))) (Prod.snd (List.getD l7 (Int.toNat n1) (Ty.dflt TWr)))),.l TWr l7]):=sP [1]<|sT (dt h0)<|sTo (c:=(inR n1 (List.length l7)))<|sP [1,1,1]<|sT h1<|sP [1,1]<|sL
theorem u0a {n0 n1 n2:Int}{b3:Bool}{n4:Int}{b5:Bool}{l6:List (Ty.den TBk)}{l7:List (Ty.den TWr)}(g0:0≤n1)(g1:n0=(l7.length:Int))(h0:(¬n1<n0)):(i0g [.k 0,.n n0,.n n1,.n n2,.b b3,.n n4,.b b5,.l TBk l6,.l TWr l7]).sel=some (Step.stop 0 [.n n2,.b b3,.n n4,.b b5,.l TBk l6,.l TWr l7]):=sP [1]<|sF (df h0)<|sP [1]<|sL
def S_d44:BSh:={args:=[.ptr 0 0,fnV0 44],blks:=[dkB 1 2 0,.arr TBk 4,.arr TWr 5],log:=[0,1],outs:=[(.tup [],[dkB 1 3 0,.arr TBk 4,.gone,.arr TWr 5])]}
def ev_d44:List Dat→Tree (Nat×List Dat):=evFV [(some 0,1,.own TWr)] y0w 40 (lsM [(1,g1m)] 3) S_d44
theorem e_d44: ∃op,IsF ev_d44 40 S_d44 op:=bxFV i0p (lsE (lsC (d0a o0t) (atF) lsZ))
def t0b:OpA:=opF e_d44
theorem a1k {n0:Int}{b1:Bool}{n2:Int}{b3:Bool}{l4:List (Ty.den TBk)}{l5:List (Ty.den TWr)}{n6:Int}{b7:Bool}{n8:Int}{b9:Bool}{l10:List (Ty.den TBk)}{l11:List (Ty.den TWr)}(h0:(p0e [.k 0,.n (↑(List.length l5):Int),.n (0:Int),.n n0,.b b1,.n n2,.b b3,.l TBk l4,.l TWr l5])=(some (0,[.n n6,.b b7,.n n8,.b b9,.l TBk l10,.l TWr l11]))):t0b [.n n0,.b b1,.n n2,.b b3,.l TBk l4,.l TWr l5]=some ((0,[.n n6,.b b7,.n n8,.b b9,.l TBk l10,.l TWr []])):=a0h e_d44 (sA h0<|sP [1,1]<|sL)
def a1x:LSh:={K:=4,log:=[2],ins:=[(sh 48 [(0,.ptr 0 0),(1,fnC 41 [.ptr 1 0]),(10,.own 3),(11,.int .i64 0),(12,.int .i64 1)],[dkB 2 3 2,faB 6,.arr TBk 7,.arr TWr 8])],nils:=[],outs:=[(.exit 0,sh 48 [(0,.ptr 0 0)],[dkB 2 3 0,faB 4,.arr TBk 5,.arr TWr 6])],cv:=[]}
def f0j:List Dat→Tree Step:=evL y0w 40 1 ls0 a1x
theorem p0w: ∃op,IsL f0j 40 1 a1x op:=bxL i0p (LsOk.none _ _ _)
def p0x:OpA:=opL p0w
theorem u0w (env:List Dat):p0x env=b0n f0j FU env:=e0v p0w env
abbrev g1d:MBox:=boxL p0w
theorem v0r {n0 n1 n2:Int}{b3:Bool}{n4:Int}{b5:Bool}{l6:List (Ty.den TB)}{l7:List (Ty.den TBk)}{l8:List (Ty.den TWr)}(g0:0≤n1)(g1:n0=(l8.length:Int))(h0:(n1<n0))(h1:(n1<(↑(List.length l6):Int)))(h2:(List.getD l6 (Int.toNat n1) (0:Int)=(255:Int)))(h3:(inR (Prod.fst (List.getD l8 (Int.toNat n1) (Ty.dflt TWr))) (List.length l7)=true)):(f0j [.k 0,.n n0,.n n1,.n n2,.b b3,.n n4,.b b5,.l TB l6,.l TBk l7,.l TWr l8]).sel=some (Step.go [.k 0,.n n0,.n (IntKind.wrap .i64 (n1+(1:Int))),.n n2,.b b3,.n n4,.b b5,.l TB l6,.l TBk (List.set l7 (Int.toNat (Prod.fst (List.getD l8 (Int.toNat n1) (Ty.dflt TWr)))) (Prod.snd (List.getD l8 (Int.toNat n1) (Ty.dflt TWr)))),.l TWr l8]):=sP [1]<|sT (dt h0)<|sTo (c:=(inR n1 (List.length l8)))<|sP [1]<|sT (dt h1)<|sTo (c:=(inR n1 (List.length l6)))<|sP [1]<|sT (bt h2)<|sT h3<|sP [1,1]<|sL
theorem v0u {n0 n1 n2:Int}{b3:Bool}{n4:Int}{b5:Bool}{l6:List (Ty.den TB)}{l7:List (Ty.den TBk)}{l8:List (Ty.den TWr)}(g0:0≤n1)(g1:n0=(l8.length:Int))(h0:(n1<n0))(h1:(n1<(↑(List.length l6):Int)))(h2:(¬List.getD l6 (Int.toNat n1) (0:Int)=(255:Int)))(h3:(inR (Prod.fst (List.getD l8 (Int.toNat n1) (Ty.dflt TWr))) (List.length l7)=true))(h4:((decide ((0:Int)≤(List.getD l6 (Int.toNat n1) (0:Int):Int))&&decide ((List.getD l6 (Int.toNat n1) (0:Int):Int)≤(256:Int)))=true)):(f0j [.k 0,.n n0,.n n1,.n n2,.b b3,.n n4,.b b5,.l TB l6,.l TBk l7,.l TWr l8]).sel=some (Step.go [.k 0,.n n0,.n (IntKind.wrap .i64 (n1+(1:Int))),.n n2,.b b3,.n n4,.b b5,.l TB l6,.l TBk (List.set l7 (Int.toNat (Prod.fst (List.getD l8 (Int.toNat n1) (Ty.dflt TWr)))) (List.take (Int.toNat (List.getD l6 (Int.toNat n1) (0:Int))) (List.take (Int.toNat (List.getD l6 (Int.toNat n1) (0:Int))) (Prod.snd (List.getD l8 (Int.toNat n1) (Ty.dflt TWr))))++List.drop (min (List.length (List.take (Int.toNat (List.getD l6 (Int.toNat n1) (0:Int))) (Prod.snd (List.getD l8 (Int.toNat n1) (Ty.dflt TWr))))) (Int.toNat (List.getD l6 (Int.toNat n1) (0:Int)))) (List.getD l7 (Int.toNat (Prod.fst (List.getD l8 (Int.toNat n1) (Ty.dflt TWr)))) (Ty.dflt TBk)))),.l TWr l8]):=sP [1]<|sT (dt h0)<|sTo (c:=(inR n1 (List.length l8)))<|sP [1]<|sT (dt h1)<|sTo (c:=(inR n1 (List.length l6)))<|sP [1]<|sF (bf h2)<|sT h3<|sP [1]<|sT h4<|sP [1]<|sT h4<|sP [1,1]<|sL
theorem u0l {n0 n1 n2:Int}{b3:Bool}{n4:Int}{b5:Bool}{l6:List (Ty.den TB)}{l7:List (Ty.den TBk)}{l8:List (Ty.den TWr)}(g0:0≤n1)(g1:n0=(l8.length:Int))(h0:(n1<n0))(h1:(¬n1<(↑(List.length l6):Int)))(h2:(inR (Prod.fst (List.getD l8 (Int.toNat n1) (Ty.dflt TWr))) (List.length l7)=true)):(f0j [.k 0,.n n0,.n n1,.n n2,.b b3,.n n4,.b b5,.l TB l6,.l TBk l7,.l TWr l8]).sel=some (Step.go [.k 0,.n n0,.n (IntKind.wrap .i64 (n1+(1:Int))),.n n2,.b b3,.n n4,.b b5,.l TB l6,.l TBk (List.set l7 (Int.toNat (Prod.fst (List.getD l8 (Int.toNat n1) (Ty.dflt TWr)))) ([]++List.drop 0 (List.getD l7 (Int.toNat (Prod.fst (List.getD l8 (Int.toNat n1) (Ty.dflt TWr)))) (Ty.dflt TBk)))),.l TWr l8]):=sP [1]<|sT (dt h0)<|sTo (c:=(inR n1 (List.length l8)))<|sP [1]<|sF (df h1)<|sP [1,0]<|sT h2<|sP [1,1,1,1,1,1]<|sL
theorem v0v {n0 n1 n2:Int}{b3:Bool}{n4:Int}{b5:Bool}{l6:List (Ty.den TB)}{l7:List (Ty.den TBk)}{l8:List (Ty.den TWr)}(g0:0≤n1)(g1:n0=(l8.length:Int))(h0:(¬n1<n0)):(f0j [.k 0,.n n0,.n n1,.n n2,.b b3,.n n4,.b b5,.l TB l6,.l TBk l7,.l TWr l8]).sel=some (Step.stop 0 [.n n2,.b b3,.n n4,.b b5,.l TB l6,.l TBk l7,.l TWr l8]):=sP [1]<|sF (df h0)<|sP [1]<|sL
def S_d41:BSh:={args:=[.ptr 0 0,fnC 41 [.ptr 1 0]],blks:=[dkB 2 3 0,faB 4,.arr TBk 5,.arr TWr 6],log:=[0,2],outs:=[(.tup [],[dkB 2 4 0,faB 4,.arr TBk 5,.gone,.arr TWr 6])]}
def ev_d41:List Dat→Tree (Nat×List Dat):=evFV [(some 0,1,.own TWr)] y0w 40 (lsM [(1,g1d)] 4) S_d41
theorem e_d41: ∃op,IsF ev_d41 40 S_d41 op:=bxFV i0p (lsE (lsC (d0a p0w) (atF) lsZ))
def w0t:OpA:=opF e_d41
theorem c1w {n0:Int}{b1:Bool}{n2:Int}{b3:Bool}{l4:List (Ty.den TB)}{l5:List (Ty.den TBk)}{l6:List (Ty.den TWr)}{n7:Int}{b8:Bool}{n9:Int}{b10:Bool}{l11:List (Ty.den TB)}{l12:List (Ty.den TBk)}{l13:List (Ty.den TWr)}(h0:(p0x [.k 0,.n (↑(List.length l6):Int),.n (0:Int),.n n0,.b b1,.n n2,.b b3,.l TB l4,.l TBk l5,.l TWr l6])=(some (0,[.n n7,.b b8,.n n9,.b b10,.l TB l11,.l TBk l12,.l TWr l13]))):w0t [.n n0,.b b1,.n n2,.b b3,.l TB l4,.l TBk l5,.l TWr l6]=some ((0,[.n n7,.b b8,.n n9,.b b10,.l TB l11,.l TBk l12,.l TWr []])):=a0h e_d41 (sA h0<|sP [1,1]<|sL)
def x0b:FuncId→Option a0i:=f0e 40 [S_d44.k t0b,S_d41.k w0t] y0w
theorem l0i:CsOk Try.prog x0b:=k0l i0p fun B hB=>by
 simp only[List.mem_cons,List.not_mem_nil,or_false]at hB
 rcases hB with rfl|rfl
 ·exact n0n e_d44
 ·exact n0n e_d41
def S_d17:BSh:={args:=[.ptr 0 0,.int .i64 0,.imm TB 1],blks:=[dkB 1 2 2,.arr TBk 6,.arr TWr 7],log:=[0,2],outs:=[(.int .i64 0,[dkB 1 2 1,.arr TBk 5,.arr TWr 6])]}
def ev_d17:List Dat→Tree (Nat×List Dat):=evF x0b 17 ls0 S_d17
theorem e_d17: ∃op,IsF ev_d17 17 S_d17 op:=bxF l0i (LsOk.none _ _ _)
def op_d17:OpA:=opF e_d17
def c1r:BSh:={args:=[.ptr 0 0,.int .i64 0,.own 1],blks:=[dkB 2 3 1,.arr TB 5,.arr TBk 6,.arr TWr 7],log:=[0,3],outs:=[(.int .i64 0,[dkB 2 3 1,.arr TB 5,.arr TBk 6,.arr TWr 7])]}
def ev_d17o:List Dat→Tree (Nat×List Dat):=evF x0b 17 ls0 c1r
theorem i0n: ∃op,IsF ev_d17o 17 c1r op:=bxF l0i (LsOk.none _ _ _)
def d0z:OpA:=opF i0n
theorem y0l {n0 n1:Int}{b2:Bool}{n3:Int}{b4:Bool}{l5:List (Ty.den TB)}{l6:List (Ty.den TBk)}{l7:List (Ty.den TWr)}(h0:(b4=true)):d0z [.n n0,.n n1,.b b2,.n n3,.b b4,.l TB l5,.l TBk l6,.l TWr l7]=some ((0,[.n (140:Int),.n n1,.b b2,.n n3,.b b4,.l TB l5,.l TBk l6,.l TWr l7])):=a0h i0n (sP [1,0]<|sT h0<|sP [1,1,1]<|sL)
theorem y0z {n0 n1:Int}{b2:Bool}{n3:Int}{b4:Bool}{l5:List (Ty.den TB)}{l6:List (Ty.den TBk)}{l7:List (Ty.den TWr)}(h0:(b4=false))(h1:(n0≥(0:Int)))(h2:(¬n0<(↑(List.length l6):Int))):d0z [.n n0,.n n1,.b b2,.n n3,.b b4,.l TB l5,.l TBk l6,.l TWr l7]=some ((0,[.n (2:Int),.n n1,.b b2,.n n3,.b b4,.l TB l5,.l TBk l6,.l TWr l7])):=a0h i0n (sP [1,0]<|sF h0<|sP [1,0,1]<|sT (dt h1)<|sP [1]<|sT (nf (df h2))<|sP [1]<|sL)
theorem z0b {n0 n1:Int}{b2:Bool}{n3:Int}{b4:Bool}{l5:List (Ty.den TB)}{l6:List (Ty.den TBk)}{l7:List (Ty.den TWr)}(h0:(b4=false))(h1:(n0≥(0:Int)))(h2:(n0<(↑(List.length l6):Int)))(h3:((↑(List.length l5):Int)>(256:Int))):d0z [.n n0,.n n1,.b b2,.n n3,.b b4,.l TB l5,.l TBk l6,.l TWr l7]=some ((0,[.n (3:Int),.n n1,.b b2,.n n3,.b b4,.l TB l5,.l TBk l6,.l TWr l7])):=a0h i0n (sP [1,0]<|sF h0<|sP [1,0,1]<|sT (dt h1)<|sP [1]<|sF (nt (dt h2))<|sT (dt h3)<|sP [1]<|sL)
theorem a1b {n0 n1:Int}{b2:Bool}{n3:Int}{b4:Bool}{l5:List (Ty.den TB)}{l6:List (Ty.den TBk)}{l7:List (Ty.den TWr)}(h0:(b4=false))(h1:(n0≥(0:Int)))(h2:(n0<(↑(List.length l6):Int)))(h3:(¬(↑(List.length l5):Int)>(256:Int)))(h4:((List.length l7+1)*264≤140737488355328))(h5:(b2=true))(h6:(n3=(0:Int))):d0z [.n n0,.n n1,.b b2,.n n3,.b b4,.l TB l5,.l TBk l6,.l TWr l7]=some ((0,[.n (140:Int),.n (IntKind.wrap .i64 (n1+(1:Int))),.b false,.n n3,.b true,.l TB l5,.l TBk l6,.l TWr (apL l7 [(n0,List.take 256 l5++List.drop (List.length l5) (List.replicate 256 (0:Int)))])])):=a0h i0n (sP [1,0]<|sF h0<|sP [1,0,1]<|sT (dt h1)<|sP [1]<|sF (nt (dt h2))<|sF (df h3)<|sP [1,1,1]<|sT (dt h4)<|sP [1,1]<|sT h5<|sT (bt h6)<|sP [1,1,1,1,1]<|sL)
theorem z0o {n0 n1:Int}{b2:Bool}{n3:Int}{b4:Bool}{l5:List (Ty.den TB)}{l6:List (Ty.den TBk)}{l7:List (Ty.den TWr)}(h0:(b4=false))(h1:(n0≥(0:Int)))(h2:(n0<(↑(List.length l6):Int)))(h3:(¬(↑(List.length l5):Int)>(256:Int)))(h4:((List.length l7+1)*264≤140737488355328))(h5:(b2=true))(h6:(¬n3=(0:Int))):d0z [.n n0,.n n1,.b b2,.n n3,.b b4,.l TB l5,.l TBk l6,.l TWr l7]=some ((0,[.n (0:Int),.n (IntKind.wrap .i64 (n1+(1:Int))),.b b2,.n (IntKind.wrap .i64 (n3-(1:Int))),.b b4,.l TB l5,.l TBk l6,.l TWr (apL l7 [(n0,List.take 256 l5++List.drop (List.length l5) (List.replicate 256 (0:Int)))])])):=a0h i0n (sP [1,0]<|sF h0<|sP [1,0,1]<|sT (dt h1)<|sP [1]<|sF (nt (dt h2))<|sF (df h3)<|sP [1,1,1]<|sT (dt h4)<|sP [1,1]<|sT h5<|sF (bf h6)<|sT h5<|sP [1,1,1,1]<|sL)
theorem z0i {n0 n1:Int}{b2:Bool}{n3:Int}{b4:Bool}{l5:List (Ty.den TB)}{l6:List (Ty.den TBk)}{l7:List (Ty.den TWr)}(h0:(b4=false))(h1:(n0≥(0:Int)))(h2:(n0<(↑(List.length l6):Int)))(h3:(¬(↑(List.length l5):Int)>(256:Int)))(h4:((List.length l7+1)*264≤140737488355328))(h5:(b2=false)):d0z [.n n0,.n n1,.b b2,.n n3,.b b4,.l TB l5,.l TBk l6,.l TWr l7]=some ((0,[.n (0:Int),.n (IntKind.wrap .i64 (n1+(1:Int))),.b b2,.n n3,.b b4,.l TB l5,.l TBk l6,.l TWr (apL l7 [(n0,List.take 256 l5++List.drop (List.length l5) (List.replicate 256 (0:Int)))])])):=a0h i0n (sP [1,0]<|sF h0<|sP [1,0,1]<|sT (dt h1)<|sP [1]<|sF (nt (dt h2))<|sF (df h3)<|sP [1,1,1]<|sT (dt h4)<|sP [1,1]<|sF h5<|sP [0,0]<|sF h5<|sP [1,1,1,1]<|sL)
theorem z0h {n0 n1:Int}{b2:Bool}{n3:Int}{b4:Bool}{l5:List (Ty.den TB)}{l6:List (Ty.den TBk)}{l7:List (Ty.den TWr)}(h0:(b4=false))(h1:(¬n0≥(0:Int))):d0z [.n n0,.n n1,.b b2,.n n3,.b b4,.l TB l5,.l TBk l6,.l TWr l7]=some ((0,[.n (2:Int),.n n1,.b b2,.n n3,.b b4,.l TB l5,.l TBk l6,.l TWr l7])):=a0h i0n (sP [1,0]<|sF h0<|sP [1,0,1]<|sF (df h1)<|sP [0,1,1,1]<|sL)
def w0a:FuncId→Option a0i:=f0e 17 [S_d17.k op_d17,c1r.k d0z] x0b
theorem n0m:CsOk Try.prog w0a:=k0l l0i fun B hB=>by
 simp only[List.mem_cons,List.not_mem_nil,or_false]at hB
 rcases hB with rfl|rfl
 ·exact n0n e_d17
 ·exact n0n i0n
def S_d16:BSh:={args:=[.ptr 0 0],blks:=[dkB 1 2 0,.arr TBk 4,.arr TWr 5],log:=[0,1],outs:=[(.int .i64 0,[dkB 1 2 1,.arr TBk 5,.arr TWr 6]),(.int .i64 0,[dkB 1 3 1,.arr TBk 5,.gone,.arr TWr 6])]}
def ev_d16:List Dat→Tree (Nat×List Dat):=evFV [(some 0,1,.own TWr)] w0a 16 ls0 S_d16
theorem y0v: ∃op,IsF ev_d16 16 S_d16 op:=bxFV n0m (LsOk.none _ _ _)
def k0e:OpA:=opF y0v
theorem b1g {n0:Int}{b1:Bool}{n2:Int}{b3:Bool}{l4:List (Ty.den TBk)}{l5:List (Ty.den TWr)}(h0:(b3=true)):k0e [.n n0,.b b1,.n n2,.b b3,.l TBk l4,.l TWr l5]=some ((0,[.n (140:Int),.n n0,.b b1,.n n2,.b b3,.l TBk l4,.l TWr l5])):=a0h y0v (sP [1,0]<|sT h0<|sP [1,1,1]<|sL)
theorem d1w {n0:Int}{b1:Bool}{n2:Int}{b3:Bool}{l4:List (Ty.den TBk)}{l5:List (Ty.den TWr)}(h0:(b3=false))(h1:(b1=true))(h2:(n2=(0:Int))):k0e [.n n0,.b b1,.n n2,.b b3,.l TBk l4,.l TWr l5]=some ((0,[.n (140:Int),.n (IntKind.wrap .i64 (n0+(1:Int))),.b false,.n n2,.b true,.l TBk l4,.l TWr l5])):=a0h y0v (sP [1,0]<|sF h0<|sP [1,0,1,1,1]<|sT h1<|sT (bt h2)<|sP [1,1,1,1,1]<|sL)
theorem e1c {n0:Int}{b1:Bool}{n2:Int}{b3:Bool}{l4:List (Ty.den TBk)}{l5:List (Ty.den TWr)}{n6:Int}{b7:Bool}{n8:Int}{b9:Bool}{l10:List (Ty.den TBk)}{l11:List (Ty.den TWr)}(h0:(b3=false))(h1:(b1=true))(h2:(¬n2=(0:Int)))(h3:(t0b [.n (IntKind.wrap .i64 (n0+(1:Int))),.b b1,.n (IntKind.wrap .i64 (n2-(1:Int))),.b b3,.l TBk l4,.l TWr l5])=(some (0,[.n n6,.b b7,.n n8,.b b9,.l TBk l10,.l TWr l11]))):k0e [.n n0,.b b1,.n n2,.b b3,.l TBk l4,.l TWr l5]=some ((1,[.n (0:Int),.n n6,.b b7,.n n8,.b b9,.l TBk l10,.l TWr l11])):=a0h y0v (sP [1,0]<|sF h0<|sP [1,0,1,1,1]<|sT h1<|sF (bf h2)<|sT h1<|sP [1,1]<|sA h3<|sP [1,1,1,1,1]<|sL)
theorem e1m {n0:Int}{b1:Bool}{n2:Int}{b3:Bool}{l4:List (Ty.den TBk)}{l5:List (Ty.den TWr)}{n6:Int}{b7:Bool}{n8:Int}{b9:Bool}{l10:List (Ty.den TBk)}{l11:List (Ty.den TWr)}(h0:(b3=false))(h1:(b1=false))(h2:(t0b [.n (IntKind.wrap .i64 (n0+(1:Int))),.b b1,.n n2,.b b3,.l TBk l4,.l TWr l5])=(some (0,[.n n6,.b b7,.n n8,.b b9,.l TBk l10,.l TWr l11]))):k0e [.n n0,.b b1,.n n2,.b b3,.l TBk l4,.l TWr l5]=some ((1,[.n (0:Int),.n n6,.b b7,.n n8,.b b9,.l TBk l10,.l TWr l11])):=a0h y0v (sP [1,0]<|sF h0<|sP [1,0,1,1,1]<|sF h1<|sP [0,0]<|sF h1<|sP [1,1]<|sA h2<|sP [1,1,1,1,1]<|sL)
def e1u:FuncId→Option a0i:=f0e 16 [S_d16.k k0e] w0a
theorem r0w:CsOk Try.prog e1u:=csA1 n0m y0v
def S_d19:BSh:={args:=[.ptr 0 0,.imm TB 0],blks:=[dkB 1 2 1,.arr TBk 5,.arr TWr 6],log:=[0,1],outs:=[(.tup [],[dkB 1 2 0,.arr TBk 4,.arr TWr 5]),(.tup [],[dkB 1 3 0,.arr TBk 4,.gone,.arr TWr 5])]}
def ev_d19:List Dat→Tree (Nat×List Dat):=evFV [(some 0,1,.own TWr)] e1u 19 ls0 S_d19
theorem h1r: ∃op,IsF ev_d19 19 S_d19 op:=bxFV r0w (LsOk.none _ _ _)
def n0o:OpA:=opF h1r
theorem a1i {l0:List (Ty.den TB)}{n1:Int}{b2:Bool}{n3:Int}{b4:Bool}{l5:List (Ty.den TBk)}{l6:List (Ty.den TWr)}{n7:Int}{b8:Bool}{n9:Int}{b10:Bool}{l11:List (Ty.den TB)}{l12:List (Ty.den TBk)}{l13:List (Ty.den TWr)}(h0:(b4=true))(h1:(w0t [.n n1,.b b2,.n n3,.b b4,.l TB l0,.l TBk l5,.l TWr l6])=(some (0,[.n n7,.b b8,.n n9,.b b10,.l TB l11,.l TBk l12,.l TWr l13]))):n0o [.l TB l0,.n n1,.b b2,.n n3,.b b4,.l TBk l5,.l TWr l6]=some ((1,[.n n7,.b false,.n n9,.b false,.l TBk l12,.l TWr l13])):=a0h h1r (sP [0]<|sT h0<|sP [1]<|sA h1<|sP [1,1,1]<|sL)
theorem d1j {l0:List (Ty.den TB)}{n1:Int}{b2:Bool}{n3:Int}{b4:Bool}{l5:List (Ty.den TBk)}{l6:List (Ty.den TWr)}(h0:(b4=false)):n0o [.l TB l0,.n n1,.b b2,.n n3,.b b4,.l TBk l5,.l TWr l6]=some ((0,[.n n1,.b false,.n n3,.b false,.l TBk l5,.l TWr l6])):=a0h h1r (sP [0]<|sF h0<|sP [1]<|sL)
def x0g:FuncId→Option a0i:=f0e 19 [S_d19.k n0o] e1u
theorem l0g:CsOk Try.prog x0g:=csA1 r0w h1r
def e1y:LSh:={K:=3,log:=[],ins:=[(sh 43 [(1,.int .i64 0),(7,.ptr 3 0),(29,.own 2),(30,.int .i64 1),(31,.int .i64 2)],[dkB 1 2 3,.arr TBk 7,.arr TWr 8,.cells [.arrd TB 256 9]])],nils:=[],outs:=[(.exit 0,sh 43 [(7,.ptr 3 0)],[dkB 1 2 0,.arr TBk 4,.arr TWr 5,.cells [.arrd TB 256 6]])],cv:=[]}
def h0a:List Dat→Tree Step:=evL x0g 20 8 ls0 e1y
theorem p0u: ∃op,IsL h0a 20 8 e1y op:=bxL l0g (LsOk.none _ _ _)
def o0y:OpA:=opL p0u
theorem u0q (env:List Dat):o0y env=b0n h0a FU env:=e0v p0u env
abbrev g1h:MBox:=boxL p0u
theorem v0t {n0 n1 n2 n3:Int}{b4:Bool}{n5:Int}{b6:Bool}{l7:List (Ty.den TBk)}{l8:List (Ty.den TWr)}{l9:List (Ty.den TB)}(g0:0≤n2)(g1:n1=(l8.length:Int))(h0:(n2<n1))(h1:((Prod.fst (List.getD l8 (Int.toNat n2) (Ty.dflt TWr)):Int)=n0)):(h0a [.k 0,.n n0,.n n1,.n n2,.n n3,.b b4,.n n5,.b b6,.l TBk l7,.l TWr l8,.l TB l9]).sel=some (Step.go [.k 0,.n n0,.n n1,.n (IntKind.wrap .i64 (n2+(1:Int))),.n n3,.b b4,.n n5,.b b6,.l TBk l7,.l TWr l8,.l TB (Prod.snd (List.getD l8 (Int.toNat n2) (Ty.dflt TWr)))]):=sP [1]<|sT (dt h0)<|sTo (c:=(inR n2 (List.length l8)))<|sT (bt h1)<|sP [1]<|sL
theorem t0v {n0 n1 n2 n3:Int}{b4:Bool}{n5:Int}{b6:Bool}{l7:List (Ty.den TBk)}{l8:List (Ty.den TWr)}{l9:List (Ty.den TB)}(g0:0≤n2)(g1:n1=(l8.length:Int))(h0:(n2<n1))(h1:(¬(Prod.fst (List.getD l8 (Int.toNat n2) (Ty.dflt TWr)):Int)=n0)):(h0a [.k 0,.n n0,.n n1,.n n2,.n n3,.b b4,.n n5,.b b6,.l TBk l7,.l TWr l8,.l TB l9]).sel=some (Step.go [.k 0,.n n0,.n n1,.n (IntKind.wrap .i64 (n2+(1:Int))),.n n3,.b b4,.n n5,.b b6,.l TBk l7,.l TWr l8,.l TB l9]):=sP [1]<|sT (dt h0)<|sTo (c:=(inR n2 (List.length l8)))<|sF (bf h1)<|sP [1]<|sL
theorem u0x {n0 n1 n2 n3:Int}{b4:Bool}{n5:Int}{b6:Bool}{l7:List (Ty.den TBk)}{l8:List (Ty.den TWr)}{l9:List (Ty.den TB)}(g0:0≤n2)(g1:n1=(l8.length:Int))(h0:(¬n2<n1)):(h0a [.k 0,.n n0,.n n1,.n n2,.n n3,.b b4,.n n5,.b b6,.l TBk l7,.l TWr l8,.l TB l9]).sel=some (Step.stop 0 [.n n3,.b b4,.n n5,.b b6,.l TBk l7,.l TWr l8,.l TB l9]):=sP [1]<|sF (df h0)<|sP [1]<|sL
def S_d20:BSh:={args:=[.ptr 0 0,.int .i64 0],blks:=[dkB 1 2 1,.arr TBk 5,.arr TWr 6],log:=[],outs:=[(.tup [.nilsl,.int .i64 0],[dkB 1 2 1,.arr TBk 5,.arr TWr 6]),(.tup [.asl 3 0 256,.int .i64 0],[dkB 1 2 1,.arr TBk 5,.arr TWr 6,.cells [.arrd TB 256 7]])]}
def ev_d20:List Dat→Tree (Nat×List Dat):=evF x0g 20 (lsM [(8,g1h)] 3) S_d20
theorem a1a: ∃op,IsF ev_d20 20 S_d20 op:=bxF l0g (lsE (lsC (d0a p0u) (atF) lsZ))
def h0k:OpA:=opF a1a
theorem f1r {n0 n1:Int}{b2:Bool}{n3:Int}{b4:Bool}{l5:List (Ty.den TBk)}{l6:List (Ty.den TWr)}(h0:(b4=true)):h0k [.n n0,.n n1,.b b2,.n n3,.b b4,.l TBk l5,.l TWr l6]=some ((0,[.n (140:Int),.n n1,.b b2,.n n3,.b b4,.l TBk l5,.l TWr l6])):=a0h a1a (sP [1,0]<|sT h0<|sP [1,1,1]<|sL)
theorem d1e {n0 n1:Int}{b2:Bool}{n3:Int}{b4:Bool}{l5:List (Ty.den TBk)}{l6:List (Ty.den TWr)}(h0:(b4=false))(h1:(n0≥(0:Int)))(h2:(¬n0<(↑(List.length l5):Int))):h0k [.n n0,.n n1,.b b2,.n n3,.b b4,.l TBk l5,.l TWr l6]=some ((0,[.n (2:Int),.n n1,.b b2,.n n3,.b b4,.l TBk l5,.l TWr l6])):=a0h a1a (sP [1,0]<|sF h0<|sP [1,0,1]<|sT (dt h1)<|sP [1]<|sT (nf (df h2))<|sP [1]<|sL)
theorem e1a {n0 n1:Int}{b2:Bool}{n3:Int}{b4:Bool}{l5:List (Ty.den TBk)}{l6:List (Ty.den TWr)}{n7:Int}{b8:Bool}{n9:Int}{b10:Bool}{l11:List (Ty.den TBk)}{l12:List (Ty.den TWr)}{l13:List (Ty.den TB)}(h0:(b4=false))(h1:(n0≥(0:Int)))(h2:(n0<(↑(List.length l5):Int)))(h3:(o0y [.k 0,.n n0,.n (↑(List.length l6):Int),.n (0:Int),.n n1,.b b2,.n n3,.b b4,.l TBk l5,.l TWr l6,.l TB (List.getD l5 (Int.toNat n0) (Ty.dflt TBk))])=(some (0,[.n n7,.b b8,.n n9,.b b10,.l TBk l11,.l TWr l12,.l TB l13]))):h0k [.n n0,.n n1,.b b2,.n n3,.b b4,.l TBk l5,.l TWr l6]=some ((1,[.n (0:Int),.n n7,.b b8,.n n9,.b b10,.l TBk l11,.l TWr l12,.l TB l13])):=a0h a1a (sP [1,0]<|sF h0<|sP [1,0,1]<|sT (dt h1)<|sP [1]<|sF (nt (dt h2))<|sTo (c:=(inR n0 (List.length l5)))<|sA h3<|sP [1,1,1]<|sL)
theorem d1y {n0 n1:Int}{b2:Bool}{n3:Int}{b4:Bool}{l5:List (Ty.den TBk)}{l6:List (Ty.den TWr)}(h0:(b4=false))(h1:(¬n0≥(0:Int))):h0k [.n n0,.n n1,.b b2,.n n3,.b b4,.l TBk l5,.l TWr l6]=some ((0,[.n (2:Int),.n n1,.b b2,.n n3,.b b4,.l TBk l5,.l TWr l6])):=a0h a1a (sP [1,0]<|sF h0<|sP [1,0,1]<|sF (df h1)<|sP [0,1,1,1]<|sL)
def c1b:FuncId→Option a0i:=f0e 20 [S_d20.k h0k] x0g
theorem r0y:CsOk Try.prog c1b:=csA1 l0g a1a
def S_d11:BSh:={args:=[.ptr 0 0],blks:=[dkB 1 2 0,.arr TBk 4,.arr TWr 5],log:=[],outs:=[(.ptr 3 0,[dkB 1 2 0,.arr TBk 4,.arr TWr 5,dkB 4 5 6,.arr TBk 10,.arr TWr 11])]}
def ev_d11:List Dat→Tree (Nat×List Dat):=evF c1b 11 ls0 S_d11
theorem e_d11: ∃op,IsF ev_d11 11 S_d11 op:=bxF r0y (LsOk.none _ _ _)
def s0h:OpA:=opF e_d11
theorem c1a {n0:Int}{b1:Bool}{n2:Int}{b3:Bool}{l4:List (Ty.den TBk)}{l5:List (Ty.den TWr)}{l6:List (Ty.den TBk)}{l7:List (Ty.den TWr)}(h0:(s0u [.l TBk l4])=(some (0,[.l TBk l6])))(h1:(t0h [.l TWr l5])=(some (0,[.l TWr l7]))):s0h [.n n0,.b b1,.n n2,.b b3,.l TBk l4,.l TWr l5]=some ((0,[.n n0,.b b1,.n n2,.b b3,.l TBk l4,.l TWr l5,.n n0,.b b1,.n n2,.b b3,.l TBk l6,.l TWr l7])):=a0h e_d11 (sP [0]<|sA h0<|sP [1,1]<|sA h1<|sP [1,1,1,1]<|sL)
def w0o:FuncId→Option a0i:=f0e 11 [S_d11.k s0h] c1b
theorem m0h:CsOk Try.prog w0o:=csA1 r0y e_d11
def mkN (a h:Nat):PB:=.cells [.own a,.nilsl,.int .i64 h,.bool (h+1),.int .i64 (h+2),.bool (h+3)]
def c1e:LSh:={K:=0,log:=[],ins:=[(sh 15 [(3,.own 0)],[.arr TB 0])],nils:=[],outs:=[(.exit 0,sh 15 [(3,.own 0)],[.arr TB 0])],cv:=[]}
def h0y:List Dat→Tree Step:=evL w0o 25 3 ls0 c1e
theorem p0a: ∃op,IsL h0y 25 3 c1e op:=bxL m0h (LsOk.none _ _ _)
def w0y:OpA:=opL p0a
theorem v0x (env:List Dat):w0y env=b0n h0y FU env:=e0v p0a env
abbrev h1c:MBox:=boxL p0a
theorem u0m {l0:List (Ty.den TB)}(h0:((↑(List.length l0):Int)<(256:Int))):(h0y [.k 0,.l TB l0]).sel=some (Step.go [.k 0,.l TB (l0++[(0:Int)])]):=sP [1]<|sT (dt h0)<|sTo (c:=(decide ((List.length l0+1)*1≤140737488355328)))<|sP [1]<|sL
theorem t0z {l0:List (Ty.den TB)}(h0:(¬(↑(List.length l0):Int)<(256:Int))):(h0y [.k 0,.l TB l0]).sel=some (Step.stop 0 [.l TB l0]):=sP [1]<|sF (df h0)<|sP [1]<|sL
def S_m25:BSh:={args:=[.str 0],blks:=[],log:=[],outs:=[(.str 0,[])]}
def ev_m25:List Dat→Tree (Nat×List Dat):=evF w0o 25 (lsM [(3,h1c)] 0) S_m25
theorem e_m25: ∃op,IsF ev_m25 25 S_m25 op:=bxF m0h (lsE (lsC (d0a p0a) (atF) lsZ))
def m0v:OpA:=opF e_m25
theorem f1a {s0:ByteArray}{l1:List (Ty.den TB)}(h0:(List.length (a0d s0)*1≤140737488355328))(h1:(w0y [.k 0,.l TB (a0d s0)])=(some (0,[.l TB l1]))):m0v [.s s0]=some ((0,[.s (a0e l1)])):=a0h e_m25 (sT (dt h0)<|sA h1<|sP [1,1]<|sL)
def x0h:FuncId→Option a0i:=j0z 25 (S_m25.k m0v) w0o
theorem l0x:CsOk Try.prog x0h:=csL1 m0h e_m25
def R_m9_3:LSh:={K:=0,log:=[],ins:=[(sh 27 [(0,.int .i64 0),(3,.ptr 0 0),(4,.int .i64 1)],[mkN 1 2,.arr TS 6])],nils:=[],outs:=[(.exit 0,sh 27 [(3,.ptr 0 0)],[mkN 1 0,.arr TS 4])],cv:=[(3,[],0,.own TS)]}
def l0e:List Dat→Tree Step:=evL x0h 9 3 ls0 R_m9_3
theorem w0x: ∃op,IsL l0e 9 3 R_m9_3 op:=bxL l0x (LsOk.none _ _ _)
def b1c:OpA:=opL w0x
theorem z0e (env:List Dat):b1c env=b0n l0e FU env:=e0v w0x env
abbrev Bx_m9_3:MBox:=boxL w0x
theorem z0d {n0 n1:Int}{l2:List (Ty.den TS)}{s3:ByteArray}(g0:0≤n1)(h0:(n1<n0))(h1:(n1<(4096:Int)))(h2:(m0v [.s {data:={toList:=[]}}])=(some (0,[.s s3])))(h3:((List.length l2+1)*16≤140737488355328)):(l0e [.k 0,.n n0,.n n1,.n 0,.b false,.n 0,.b false,.l TS l2]).sel=some (Step.go [.k 0,.n n0,.n (IntKind.wrap .i64 (n1+(1:Int))),.n (0:Int),.b false,.n (0:Int),.b false,.l TS (l2++[s3])]):=sP [1]<|sT (dt h0)<|sT (dt h1)<|sA h2<|sP [1,1]<|sT (dt h3)<|sP [1,1]<|sL
theorem z0a {n0 n1:Int}{l2:List (Ty.den TS)}(g0:0≤n1)(h0:(¬n1<n0)):(l0e [.k 0,.n n0,.n n1,.n 0,.b false,.n 0,.b false,.l TS l2]).sel=some (Step.stop 0 [.n (0:Int),.b false,.n (0:Int),.b false,.l TS l2]):=sP [1]<|sF (df h0)<|sP [0,0,1]<|sL
def S_m9:BSh:={args:=[.int .i64 0],blks:=[],log:=[],outs:=[(.ptr 0 0,[dkB 1 2 0,.arr TS 4,.arr TOp 5])]}
def ev_m9:List Dat→Tree (Nat×List Dat):=evFV [(none,0,.own TS),(none,1,.own TOp)] x0h 9 (lsM [(3,Bx_m9_3)] 0) S_m9
theorem e_m9: ∃op,IsF ev_m9 9 S_m9 op:=bxFV l0x (lsE (lsC (d0a w0x) (atF) lsZ))
def g1z:OpA:=opF e_m9
theorem g1n {n0 n1:Int}{b2:Bool}{n3:Int}{b4:Bool}{l5:List (Ty.den TS)}(h0:(b1c [.k 0,.n n0,.n (0:Int),.n (0:Int),.b false,.n (0:Int),.b false,.l TS []])=(some (0,[.n n1,.b b2,.n n3,.b b4,.l TS l5]))):g1z [.n n0]=some ((0,[.n n1,.b b2,.n n3,.b b4,.l TS l5,.l TOp []])):=a0h e_m9 (sA h0<|sP [1,1]<|sL)
def g1c:FuncId→Option a0i:=f0e 9 [S_m9.k g1z] x0h
theorem q0a:CsOk Try.prog g1c:=csA1 l0x e_m9
def d1l:LSh:={K:=3,log:=[1],ins:=[(sh 45 [(0,.ptr 0 0),(3,.int .i64 0)],[dkB 1 2 1,.arr TS 5,.arr TOp 6])],nils:=[],outs:=[(.exit 0,sh 45 [(0,.ptr 0 0)],[dkB 1 2 0,.arr TS 4,.arr TOp 5])],cv:=[]}
def i0y:List Dat→Tree Step:=evL g1c 28 4 ls0 d1l
theorem p0d: ∃op,IsL i0y 28 4 d1l op:=bxL q0a (LsOk.none _ _ _)
def k0p:OpA:=opL p0d
theorem v0i (env:List Dat):k0p env=b0n i0y FU env:=e0v p0d env
abbrev h1u:MBox:=boxL p0d
theorem v0j {n0 n1:Int}{b2:Bool}{n3:Int}{b4:Bool}{l5:List (Ty.den TS)}{l6:List (Ty.den TOp)}(g0:0≤n0)(h0:(n0<(↑(List.length l6):Int)))(h1:(inR (Prod.fst (List.getD l6 (Int.toNat n0) (Ty.dflt TOp))) (List.length l5)=true)):(i0y [.k 0,.n n0,.n n1,.b b2,.n n3,.b b4,.l TS l5,.l TOp l6]).sel=some (Step.go [.k 0,.n (IntKind.wrap .i64 (n0+(1:Int))),.n n1,.b b2,.n n3,.b b4,.l TS (List.set l5 (Int.toNat (Prod.fst (List.getD l6 (Int.toNat n0) (Ty.dflt TOp)))) (Prod.snd (List.getD l6 (Int.toNat n0) (Ty.dflt TOp)))),.l TOp l6]):=sP [1]<|sT (dt h0)<|sTo (c:=(inR n0 (List.length l6)))<|sTo (c:=(inR n0 (List.length l6)))<|sT h1<|sP [1,1]<|sL
theorem t0r {n0 n1:Int}{b2:Bool}{n3:Int}{b4:Bool}{l5:List (Ty.den TS)}{l6:List (Ty.den TOp)}(g0:0≤n0)(h0:(¬n0<(↑(List.length l6):Int))):(i0y [.k 0,.n n0,.n n1,.b b2,.n n3,.b b4,.l TS l5,.l TOp l6]).sel=some (Step.stop 0 [.n n1,.b b2,.n n3,.b b4,.l TS l5,.l TOp l6]):=sP [1]<|sF (df h0)<|sP [1]<|sL
def S_m28:BSh:={args:=[.ptr 0 0],blks:=[dkB 1 2 0,.arr TS 4,.arr TOp 5],log:=[0,1],outs:=[(.int .i64 0,[dkB 1 2 1,.arr TS 5,.arr TOp 6]),(.int .i64 0,[dkB 1 3 1,.arr TS 5,.gone,.arr TOp 6])]}
def ev_m28:List Dat→Tree (Nat×List Dat):=evFV [(some 0,1,.own TOp)] g1c 28 (lsM [(4,h1u)] 3) S_m28
theorem x0v: ∃op,IsF ev_m28 28 S_m28 op:=bxFV q0a (lsE (lsC (d0a p0d) (atF) lsZ))
def k0h:OpA:=opF x0v
theorem f1w {n0:Int}{b1:Bool}{n2:Int}{b3:Bool}{l4:List (Ty.den TS)}{l5:List (Ty.den TOp)}(h0:(b3=true)):k0h [.n n0,.b b1,.n n2,.b b3,.l TS l4,.l TOp l5]=some ((0,[.n (140:Int),.n n0,.b b1,.n n2,.b b3,.l TS l4,.l TOp l5])):=a0h x0v (sT h0<|sP [1,1,1]<|sL)
theorem b1m {n0:Int}{b1:Bool}{n2:Int}{b3:Bool}{l4:List (Ty.den TS)}{l5:List (Ty.den TOp)}{n6:Int}{b7:Bool}{n8:Int}{b9:Bool}{l10:List (Ty.den TS)}{l11:List (Ty.den TOp)}(h0:(b3=false))(h1:(b1=false))(h2:(k0p [.k 0,.n (0:Int),.n (IntKind.wrap .i64 (n0+(1:Int))),.b b1,.n n2,.b b3,.l TS l4,.l TOp l5])=(some (0,[.n n6,.b b7,.n n8,.b b9,.l TS l10,.l TOp l11]))):k0h [.n n0,.b b1,.n n2,.b b3,.l TS l4,.l TOp l5]=some ((1,[.n (0:Int),.n n6,.b b7,.n n8,.b b9,.l TS l10,.l TOp []])):=a0h x0v (sF h0<|sP [1]<|sT (nf h1)<|sP [1,0]<|sA h2<|sP [1,1]<|sL)
theorem c1u {n0:Int}{b1:Bool}{n2:Int}{b3:Bool}{l4:List (Ty.den TS)}{l5:List (Ty.den TOp)}{n6:Int}{b7:Bool}{n8:Int}{b9:Bool}{l10:List (Ty.den TS)}{l11:List (Ty.den TOp)}(h0:(b3=false))(h1:(b1=true))(h2:(n2>(0:Int)))(h3:(k0p [.k 0,.n (0:Int),.n (IntKind.wrap .i64 (n0+(1:Int))),.b b1,.n (IntKind.wrap .i64 (n2-(1:Int))),.b b3,.l TS l4,.l TOp l5])=(some (0,[.n n6,.b b7,.n n8,.b b9,.l TS l10,.l TOp l11]))):k0h [.n n0,.b b1,.n n2,.b b3,.l TS l4,.l TOp l5]=some ((1,[.n (0:Int),.n n6,.b b7,.n n8,.b b9,.l TS l10,.l TOp []])):=a0h x0v (sF h0<|sP [1]<|sF (nt h1)<|sT (dt h2)<|sP [1,0]<|sA h3<|sP [1,1]<|sL)
theorem e1n {n0:Int}{b1:Bool}{n2:Int}{b3:Bool}{l4:List (Ty.den TS)}{l5:List (Ty.den TOp)}(h0:(b3=false))(h1:(b1=true))(h2:(¬n2>(0:Int))):k0h [.n n0,.b b1,.n n2,.b b3,.l TS l4,.l TOp l5]=some ((0,[.n (140:Int),.n (IntKind.wrap .i64 (n0+(1:Int))),.b false,.n n2,.b true,.l TS l4,.l TOp l5])):=a0h x0v (sF h0<|sP [1]<|sF (nt h1)<|sF (df h2)<|sP [1,1,1]<|sL)
def w0d:FuncId→Option a0i:=f0e 28 [S_m28.k k0h] g1c
theorem m0d:CsOk Try.prog w0d:=csA1 q0a x0v
def e1g:LSh:={K:=3,log:=[],ins:=[(sh 49 [(0,.ptr 0 0),(1,.int .i64 0),(7,.int .i64 1)],[dkB 1 2 2,.arr TS 6,.arr TOp 7])],nils:=[],outs:=[(.exit 0,sh 49 [(0,.ptr 0 0),(1,.int .i64 0)],[dkB 1 2 1,.arr TS 5,.arr TOp 6]),(.ret,sh 49 [(4,.str 0),(5,.int .i64 1)],[dkB 1 2 2,.arr TS 6,.arr TOp 7])],cv:=[]}
def g0y:List Dat→Tree Step:=evL w0d 29 5 ls0 e1g
theorem p0r: ∃op,IsL g0y 29 5 e1g op:=bxL m0d (LsOk.none _ _ _)
def p0j:OpA:=opL p0r
theorem u0g (env:List Dat):p0j env=b0n g0y FU env:=e0v p0r env
abbrev h1i:MBox:=boxL p0r
theorem u0i {n0 n1 n2:Int}{b3:Bool}{n4:Int}{b5:Bool}{l6:List (Ty.den TS)}{l7:List (Ty.den TOp)}(h0:(n1≥(0:Int)))(h1:(inR n1 (List.length l7)=true))(h2:((Prod.fst (List.getD l7 (Int.toNat n1) (Ty.dflt TOp)):Int)=n0)):(g0y [.k 0,.n n0,.n n1,.n n2,.b b3,.n n4,.b b5,.l TS l6,.l TOp l7]).sel=some (Step.stop 1 [.s (Prod.snd (List.getD l7 (Int.toNat n1) (Ty.dflt TOp))),.n (0:Int),.n n2,.b b3,.n n4,.b b5,.l TS l6,.l TOp l7]):=sP [1]<|sT (dt h0)<|sT h1<|sT (bt h2)<|sT h1<|sP [1]<|sL
theorem v0l {n0 n1 n2:Int}{b3:Bool}{n4:Int}{b5:Bool}{l6:List (Ty.den TS)}{l7:List (Ty.den TOp)}(h0:(n1≥(0:Int)))(h1:(inR n1 (List.length l7)=true))(h2:(¬(Prod.fst (List.getD l7 (Int.toNat n1) (Ty.dflt TOp)):Int)=n0)):(g0y [.k 0,.n n0,.n n1,.n n2,.b b3,.n n4,.b b5,.l TS l6,.l TOp l7]).sel=some (Step.go [.k 0,.n n0,.n (IntKind.wrap .i64 (n1-(1:Int))),.n n2,.b b3,.n n4,.b b5,.l TS l6,.l TOp l7]):=sP [1]<|sT (dt h0)<|sT h1<|sF (bf h2)<|sP [1]<|sL
theorem u0z {n0 n1 n2:Int}{b3:Bool}{n4:Int}{b5:Bool}{l6:List (Ty.den TS)}{l7:List (Ty.den TOp)}(h0:(¬n1≥(0:Int))):(g0y [.k 0,.n n0,.n n1,.n n2,.b b3,.n n4,.b b5,.l TS l6,.l TOp l7]).sel=some (Step.stop 0 [.n n0,.n n2,.b b3,.n n4,.b b5,.l TS l6,.l TOp l7]):=sP [1]<|sF (df h0)<|sP [1]<|sL
def S_m29:BSh:={args:=[.ptr 0 0,.int .i64 0],blks:=[dkB 1 2 1,.arr TS 5,.arr TOp 6],log:=[],outs:=[(.tup [.str 0,.int .i64 1],[dkB 1 2 2,.arr TS 6,.arr TOp 7])]}
def ev_m29:List Dat→Tree (Nat×List Dat):=evF w0d 29 (lsM [(5,h1i)] 3) S_m29
theorem u0h: ∃op,IsF ev_m29 29 S_m29 op:=bxF m0d (lsE (lsC (d0a p0r) (atF) lsZ))
def f0y:OpA:=opF u0h
theorem f1c {n0 n1:Int}{b2:Bool}{n3:Int}{b4:Bool}{l5:List (Ty.den TS)}{l6:List (Ty.den TOp)}(h0:(b4=true)):f0y [.n n0,.n n1,.b b2,.n n3,.b b4,.l TS l5,.l TOp l6]=some ((0,[.s {data:={toList:=[]}},.n (140:Int),.n n1,.b b2,.n n3,.b b4,.l TS l5,.l TOp l6])):=a0h u0h (sP [1]<|sT h0<|sP [1,1,1]<|sL)
theorem e1z {n0 n1:Int}{b2:Bool}{n3:Int}{b4:Bool}{l5:List (Ty.den TS)}{l6:List (Ty.den TOp)}(h0:(b4=false))(h1:(n0<(0:Int))):f0y [.n n0,.n n1,.b b2,.n n3,.b b4,.l TS l5,.l TOp l6]=some ((0,[.s {data:={toList:=[]}},.n (2:Int),.n n1,.b b2,.n n3,.b b4,.l TS l5,.l TOp l6])):=a0h u0h (sP [1]<|sF h0<|sT (dt h1)<|sP [1,1,1,1,1]<|sL)
theorem c1y {n0 n1:Int}{b2:Bool}{n3:Int}{b4:Bool}{l5:List (Ty.den TS)}{l6:List (Ty.den TOp)}(h0:(b4=false))(h1:(¬n0<(0:Int)))(h2:(n0≥(↑(List.length l5):Int))):f0y [.n n0,.n n1,.b b2,.n n3,.b b4,.l TS l5,.l TOp l6]=some ((0,[.s {data:={toList:=[]}},.n (2:Int),.n n1,.b b2,.n n3,.b b4,.l TS l5,.l TOp l6])):=a0h u0h (sP [1]<|sF h0<|sF (df h1)<|sT (dt h2)<|sP [1,1,1]<|sL)
theorem f1b {n0 n1:Int}{b2:Bool}{n3:Int}{b4:Bool}{l5:List (Ty.den TS)}{l6:List (Ty.den TOp)}{n7 n8:Int}{b9:Bool}{n10:Int}{b11:Bool}{l12:List (Ty.den TS)}{l13:List (Ty.den TOp)}(h0:(b4=false))(h1:(¬n0<(0:Int)))(h2:(¬n0≥(↑(List.length l5):Int)))(h3:(p0j [.k 0,.n n0,.n (IntKind.wrap .i64 ((↑(List.length l6):Int)-(1:Int))),.n n1,.b b2,.n n3,.b b4,.l TS l5,.l TOp l6])=(some (0,[.n n7,.n n8,.b b9,.n n10,.b b11,.l TS l12,.l TOp l13])))(h4:(inR n7 (List.length l12)=true)):f0y [.n n0,.n n1,.b b2,.n n3,.b b4,.l TS l5,.l TOp l6]=some ((0,[.s (List.getD l12 (Int.toNat n7) (Ty.dflt TS)),.n (0:Int),.n n8,.b b9,.n n10,.b b11,.l TS l12,.l TOp l13])):=a0h u0h (sP [1]<|sF h0<|sF (df h1)<|sF (df h2)<|sP [1,0]<|sA h3<|sP [1]<|sT h4<|sP [1]<|sL)
theorem b1u {n0 n1:Int}{b2:Bool}{n3:Int}{b4:Bool}{l5:List (Ty.den TS)}{l6:List (Ty.den TOp)}{s7:ByteArray}{n8 n9:Int}{b10:Bool}{n11:Int}{b12:Bool}{l13:List (Ty.den TS)}{l14:List (Ty.den TOp)}(h0:(b4=false))(h1:(¬n0<(0:Int)))(h2:(¬n0≥(↑(List.length l5):Int)))(h3:(p0j [.k 0,.n n0,.n (IntKind.wrap .i64 ((↑(List.length l6):Int)-(1:Int))),.n n1,.b b2,.n n3,.b b4,.l TS l5,.l TOp l6])=(some (1,[.s s7,.n n8,.n n9,.b b10,.n n11,.b b12,.l TS l13,.l TOp l14]))):f0y [.n n0,.n n1,.b b2,.n n3,.b b4,.l TS l5,.l TOp l6]=some ((0,[.s s7,.n n8,.n n9,.b b10,.n n11,.b b12,.l TS l13,.l TOp l14])):=a0h u0h (sP [1]<|sF h0<|sF (df h1)<|sF (df h2)<|sP [1,0]<|sA h3<|sP [0,1,1]<|sL)
def x0j:FuncId→Option a0i:=f0e 29 [S_m29.k f0y] w0d
theorem m0f:CsOk Try.prog x0j:=csA1 m0d u0h
def f1e:LSh:={K:=3,log:=[1],ins:=[(sh 70 [(0,.ptr 0 0),(1,.imm TB 0),(4,.int .i64 1)],[dkB 1 2 2,.arr TS 6,.arr TOp 7])],nils:=[],outs:=[(.exit 0,sh 70 [(0,.ptr 0 0)],[dkB 1 2 0,.arr TS 4,.arr TOp 5])],cv:=[]}
def f0b:List Dat→Tree Step:=evL x0j 32 4 ls0 f1e
theorem p0y: ∃op,IsL f0b 32 4 f1e op:=bxL m0f (LsOk.none _ _ _)
def p0c:OpA:=opL p0y
theorem u0k (env:List Dat):p0c env=b0n f0b FU env:=e0v p0y env
abbrev h1n:MBox:=boxL p0y
theorem v0h {l0:List (Ty.den TB)}{n1 n2:Int}{b3:Bool}{n4:Int}{b5:Bool}{l6:List (Ty.den TS)}{l7:List (Ty.den TOp)}(g0:0≤n1)(h0:(n1<(↑(List.length l7):Int)))(h1:(n1<(↑(List.length l0):Int)))(h2:(IntKind.wrap .i64 (List.getD l0 (Int.toNat n1) (0:Int))=(255:Int)))(h3:((true&&decide ((256:Int)≤(↑(ByteArray.size (Prod.snd (List.getD l7 (Int.toNat n1) (Ty.dflt TOp)))):Int)))=true))(h4:(inR (Prod.fst (List.getD l7 (Int.toNat n1) (Ty.dflt TOp))) (List.length l6)=true))(h5:((true&&decide ((256:Int)≤(↑(ByteArray.size (List.getD l6 (Int.toNat (Prod.fst (List.getD l7 (Int.toNat n1) (Ty.dflt TOp)))) (Ty.dflt TS))):Int)))=true))(h6:(ByteArray.size (ByteArray.extract (Prod.snd (List.getD l7 (Int.toNat n1) (Ty.dflt TOp))) 0 256)+ByteArray.size (ByteArray.extract (List.getD l6 (Int.toNat (Prod.fst (List.getD l7 (Int.toNat n1) (Ty.dflt TOp)))) (Ty.dflt TS)) 256 (Int.toNat (↑(ByteArray.size (List.getD l6 (Int.toNat (Prod.fst (List.getD l7 (Int.toNat n1) (Ty.dflt TOp)))) (Ty.dflt TS))):Int)))≤9223372036854775807)):(f0b [.k 0,.l TB l0,.n n1,.n n2,.b b3,.n n4,.b b5,.l TS l6,.l TOp l7]).sel=some (Step.go [.k 0,.l TB l0,.n (IntKind.wrap .i64 (n1+(1:Int))),.n n2,.b b3,.n n4,.b b5,.l TS (List.set l6 (Int.toNat (Prod.fst (List.getD l7 (Int.toNat n1) (Ty.dflt TOp)))) (ByteArray.extract (Prod.snd (List.getD l7 (Int.toNat n1) (Ty.dflt TOp))) 0 256++ByteArray.extract (List.getD l6 (Int.toNat (Prod.fst (List.getD l7 (Int.toNat n1) (Ty.dflt TOp)))) (Ty.dflt TS)) 256 (Int.toNat (↑(ByteArray.size (List.getD l6 (Int.toNat (Prod.fst (List.getD l7 (Int.toNat n1) (Ty.dflt TOp)))) (Ty.dflt TS))):Int)))),.l TOp l7]):=sP [1]<|sT (dt h0)<|sTo (c:=(inR n1 (List.length l7)))<|sT (dt h1)<|sTo (c:=(inR n1 (List.length l0)))<|sT (bt h2)<|sT h3<|sP [1]<|sT h4<|sTs (c:=(true&&decide ((↑(ByteArray.size (List.getD l6 (Int.toNat (Prod.fst (List.getD l7 (Int.toNat n1) (Ty.dflt TOp)))) (Ty.dflt TS))):Int)≤(↑(ByteArray.size (List.getD l6 (Int.toNat (Prod.fst (List.getD l7 (Int.toNat n1) (Ty.dflt TOp)))) (Ty.dflt TS))):Int))))<|sT h5<|sT (dt h6)<|sT h4<|sP [1,1]<|sL
theorem v0c {l0:List (Ty.den TB)}{n1 n2:Int}{b3:Bool}{n4:Int}{b5:Bool}{l6:List (Ty.den TS)}{l7:List (Ty.den TOp)}(g0:0≤n1)(h0:(n1<(↑(List.length l7):Int)))(h1:(n1<(↑(List.length l0):Int)))(h2:(¬IntKind.wrap .i64 (List.getD l0 (Int.toNat n1) (0:Int))=(255:Int)))(h3:((decide ((0:Int)≤IntKind.wrap .i64 (List.getD l0 (Int.toNat n1) (0:Int)))&&decide (IntKind.wrap .i64 (List.getD l0 (Int.toNat n1) (0:Int))≤(↑(ByteArray.size (Prod.snd (List.getD l7 (Int.toNat n1) (Ty.dflt TOp)))):Int)))=true))(h4:((true&&decide ((0:Int)≤IntKind.wrap .i64 (List.getD l0 (Int.toNat n1) (0:Int))))=true))(h5:(inR (Prod.fst (List.getD l7 (Int.toNat n1) (Ty.dflt TOp))) (List.length l6)=true))(h6:((decide ((0:Int)≤IntKind.wrap .i64 (List.getD l0 (Int.toNat n1) (0:Int)))&&decide (IntKind.wrap .i64 (List.getD l0 (Int.toNat n1) (0:Int))≤(↑(ByteArray.size (List.getD l6 (Int.toNat (Prod.fst (List.getD l7 (Int.toNat n1) (Ty.dflt TOp)))) (Ty.dflt TS))):Int)))=true))(h7:(ByteArray.size (ByteArray.extract (Prod.snd (List.getD l7 (Int.toNat n1) (Ty.dflt TOp))) 0 (Int.toNat (IntKind.wrap .i64 (List.getD l0 (Int.toNat n1) (0:Int)))))+ByteArray.size (ByteArray.extract (List.getD l6 (Int.toNat (Prod.fst (List.getD l7 (Int.toNat n1) (Ty.dflt TOp)))) (Ty.dflt TS)) (Int.toNat (IntKind.wrap .i64 (List.getD l0 (Int.toNat n1) (0:Int)))) (Int.toNat (↑(ByteArray.size (List.getD l6 (Int.toNat (Prod.fst (List.getD l7 (Int.toNat n1) (Ty.dflt TOp)))) (Ty.dflt TS))):Int)))≤9223372036854775807)):(f0b [.k 0,.l TB l0,.n n1,.n n2,.b b3,.n n4,.b b5,.l TS l6,.l TOp l7]).sel=some (Step.go [.k 0,.l TB l0,.n (IntKind.wrap .i64 (n1+(1:Int))),.n n2,.b b3,.n n4,.b b5,.l TS (List.set l6 (Int.toNat (Prod.fst (List.getD l7 (Int.toNat n1) (Ty.dflt TOp)))) (ByteArray.extract (Prod.snd (List.getD l7 (Int.toNat n1) (Ty.dflt TOp))) 0 (Int.toNat (IntKind.wrap .i64 (List.getD l0 (Int.toNat n1) (0:Int))))++ByteArray.extract (List.getD l6 (Int.toNat (Prod.fst (List.getD l7 (Int.toNat n1) (Ty.dflt TOp)))) (Ty.dflt TS)) (Int.toNat (IntKind.wrap .i64 (List.getD l0 (Int.toNat n1) (0:Int)))) (Int.toNat (↑(ByteArray.size (List.getD l6 (Int.toNat (Prod.fst (List.getD l7 (Int.toNat n1) (Ty.dflt TOp)))) (Ty.dflt TS))):Int)))),.l TOp l7]):=sP [1]<|sT (dt h0)<|sTo (c:=(inR n1 (List.length l7)))<|sT (dt h1)<|sTo (c:=(inR n1 (List.length l0)))<|sF (bf h2)<|sT h3<|sT h4<|sT h5<|sTs (c:=(true&&decide ((↑(ByteArray.size (List.getD l6 (Int.toNat (Prod.fst (List.getD l7 (Int.toNat n1) (Ty.dflt TOp)))) (Ty.dflt TS))):Int)≤(↑(ByteArray.size (List.getD l6 (Int.toNat (Prod.fst (List.getD l7 (Int.toNat n1) (Ty.dflt TOp)))) (Ty.dflt TS))):Int))))<|sT h6<|sT (dt h7)<|sT h5<|sP [1,1]<|sL
theorem w0c {l0:List (Ty.den TB)}{n1 n2:Int}{b3:Bool}{n4:Int}{b5:Bool}{l6:List (Ty.den TS)}{l7:List (Ty.den TOp)}(g0:0≤n1)(h0:(n1<(↑(List.length l7):Int)))(h1:(¬n1<(↑(List.length l0):Int)))(h2:(inR (Prod.fst (List.getD l7 (Int.toNat n1) (Ty.dflt TOp))) (List.length l6)=true))(h3:(ByteArray.size (ByteArray.extract (Prod.snd (List.getD l7 (Int.toNat n1) (Ty.dflt TOp))) 0 0)+ByteArray.size (ByteArray.extract (List.getD l6 (Int.toNat (Prod.fst (List.getD l7 (Int.toNat n1) (Ty.dflt TOp)))) (Ty.dflt TS)) 0 (Int.toNat (↑(ByteArray.size (List.getD l6 (Int.toNat (Prod.fst (List.getD l7 (Int.toNat n1) (Ty.dflt TOp)))) (Ty.dflt TS))):Int)))≤9223372036854775807)):(f0b [.k 0,.l TB l0,.n n1,.n n2,.b b3,.n n4,.b b5,.l TS l6,.l TOp l7]).sel=some (Step.go [.k 0,.l TB l0,.n (IntKind.wrap .i64 (n1+(1:Int))),.n n2,.b b3,.n n4,.b b5,.l TS (List.set l6 (Int.toNat (Prod.fst (List.getD l7 (Int.toNat n1) (Ty.dflt TOp)))) (ByteArray.extract (Prod.snd (List.getD l7 (Int.toNat n1) (Ty.dflt TOp))) 0 0++ByteArray.extract (List.getD l6 (Int.toNat (Prod.fst (List.getD l7 (Int.toNat n1) (Ty.dflt TOp)))) (Ty.dflt TS)) 0 (Int.toNat (↑(ByteArray.size (List.getD l6 (Int.toNat (Prod.fst (List.getD l7 (Int.toNat n1) (Ty.dflt TOp)))) (Ty.dflt TS))):Int)))),.l TOp l7]):=sP [1]<|sT (dt h0)<|sTo (c:=(inR n1 (List.length l7)))<|sF (df h1)<|sP [0,1,1]<|sT h2<|sTs (c:=(true&&decide ((↑(ByteArray.size (List.getD l6 (Int.toNat (Prod.fst (List.getD l7 (Int.toNat n1) (Ty.dflt TOp)))) (Ty.dflt TS))):Int)≤(↑(ByteArray.size (List.getD l6 (Int.toNat (Prod.fst (List.getD l7 (Int.toNat n1) (Ty.dflt TOp)))) (Ty.dflt TS))):Int))))<|sP [1]<|sT (dt h3)<|sT h2<|sP [1,1]<|sL
theorem u0u {l0:List (Ty.den TB)}{n1 n2:Int}{b3:Bool}{n4:Int}{b5:Bool}{l6:List (Ty.den TS)}{l7:List (Ty.den TOp)}(g0:0≤n1)(h0:(¬n1<(↑(List.length l7):Int))):(f0b [.k 0,.l TB l0,.n n1,.n n2,.b b3,.n n4,.b b5,.l TS l6,.l TOp l7]).sel=some (Step.stop 0 [.n n2,.b b3,.n n4,.b b5,.l TS l6,.l TOp l7]):=sP [1]<|sF (df h0)<|sP [1]<|sL
def S_m32:BSh:={args:=[.ptr 0 0,.imm TB 0],blks:=[dkB 1 2 1,.arr TS 5,.arr TOp 6],log:=[0,1],outs:=[(.tup [],[dkB 1 2 0,.arr TS 4,.arr TOp 5]),(.tup [],[dkB 1 3 0,.arr TS 4,.gone,.arr TOp 5])]}
def ev_m32:List Dat→Tree (Nat×List Dat):=evFV [(some 0,1,.own TOp)] x0j 32 (lsM [(4,h1n)] 3) S_m32
theorem i1f: ∃op,IsF ev_m32 32 S_m32 op:=bxFV m0f (lsE (lsC (d0a p0y) (atF) lsZ))
def o0p:OpA:=opF i1f
theorem d1z {l0:List (Ty.den TB)}{n1:Int}{b2:Bool}{n3:Int}{b4:Bool}{l5:List (Ty.den TS)}{l6:List (Ty.den TOp)}(h0:(b4=false)):o0p [.l TB l0,.n n1,.b b2,.n n3,.b b4,.l TS l5,.l TOp l6]=some ((0,[.n n1,.b false,.n n3,.b b4,.l TS l5,.l TOp l6])):=a0h i1f (sT (nf h0)<|sP [1]<|sL)
theorem b1l {l0:List (Ty.den TB)}{n1:Int}{b2:Bool}{n3:Int}{b4:Bool}{l5:List (Ty.den TS)}{l6:List (Ty.den TOp)}{n7:Int}{b8:Bool}{n9:Int}{b10:Bool}{l11:List (Ty.den TS)}{l12:List (Ty.den TOp)}(h0:(b4=true))(h1:(p0c [.k 0,.l TB l0,.n (0:Int),.n n1,.b false,.n n3,.b false,.l TS l5,.l TOp l6])=(some (0,[.n n7,.b b8,.n n9,.b b10,.l TS l11,.l TOp l12]))):o0p [.l TB l0,.n n1,.b b2,.n n3,.b b4,.l TS l5,.l TOp l6]=some ((1,[.n n7,.b b8,.n n9,.b b10,.l TS l11,.l TOp []])):=a0h i1f (sF (nt h0)<|sA h1<|sP [1,1]<|sL)
def d1h:FuncId→Option a0i:=f0e 32 [S_m32.k o0p] x0j
theorem r0z:CsOk Try.prog d1h:=csA1 m0f i1f
def S_m33:BSh:={args:=[.ptr 0 0,.int .i64 0,.str 1],blks:=[dkB 1 2 2,.arr TS 6,.arr TOp 7],log:=[0,2],outs:=[(.int .i64 0,[dkB 1 2 1,.arr TS 5,.arr TOp 6])]}
def ev_m33:List Dat→Tree (Nat×List Dat):=evF d1h 33 ls0 S_m33
theorem p0k: ∃op,IsF ev_m33 33 S_m33 op:=bxF r0z (LsOk.none _ _ _)
def h0j:OpA:=opF p0k
theorem a1s {n0:Int}{s1:ByteArray}{n2:Int}{b3:Bool}{n4:Int}{b5:Bool}{l6:List (Ty.den TS)}{l7:List (Ty.den TOp)}(h0:(b5=true)):h0j [.n n0,.s s1,.n n2,.b b3,.n n4,.b b5,.l TS l6,.l TOp l7]=some ((0,[.n (140:Int),.n n2,.b b3,.n n4,.b b5,.l TS l6,.l TOp l7])):=a0h p0k (sP [1]<|sT h0<|sP [1,1,1]<|sL)
theorem f1t {n0:Int}{s1:ByteArray}{n2:Int}{b3:Bool}{n4:Int}{b5:Bool}{l6:List (Ty.den TS)}{l7:List (Ty.den TOp)}(h0:(b5=false))(h1:(n0<(0:Int))):h0j [.n n0,.s s1,.n n2,.b b3,.n n4,.b b5,.l TS l6,.l TOp l7]=some ((0,[.n (2:Int),.n n2,.b b3,.n n4,.b b5,.l TS l6,.l TOp l7])):=a0h p0k (sP [1]<|sF h0<|sT (dt h1)<|sP [1,1,1,1,1]<|sL)
theorem b1n {n0:Int}{s1:ByteArray}{n2:Int}{b3:Bool}{n4:Int}{b5:Bool}{l6:List (Ty.den TS)}{l7:List (Ty.den TOp)}(h0:(b5=false))(h1:(¬n0<(0:Int)))(h2:(n0≥(↑(List.length l6):Int))):h0j [.n n0,.s s1,.n n2,.b b3,.n n4,.b b5,.l TS l6,.l TOp l7]=some ((0,[.n (2:Int),.n n2,.b b3,.n n4,.b b5,.l TS l6,.l TOp l7])):=a0h p0k (sP [1]<|sF h0<|sF (df h1)<|sT (dt h2)<|sP [1,1,1]<|sL)
theorem c1g {n0:Int}{s1:ByteArray}{n2:Int}{b3:Bool}{n4:Int}{b5:Bool}{l6:List (Ty.den TS)}{l7:List (Ty.den TOp)}(h0:(b5=false))(h1:(¬n0<(0:Int)))(h2:(¬n0≥(↑(List.length l6):Int)))(h3:((↑(ByteArray.size s1):Int)>(256:Int))):h0j [.n n0,.s s1,.n n2,.b b3,.n n4,.b b5,.l TS l6,.l TOp l7]=some ((0,[.n (3:Int),.n n2,.b b3,.n n4,.b b5,.l TS l6,.l TOp l7])):=a0h p0k (sP [1]<|sF h0<|sF (df h1)<|sF (df h2)<|sP [1,0]<|sT (dt h3)<|sP [1]<|sL)
theorem b1o {n0:Int}{s1:ByteArray}{n2:Int}{b3:Bool}{n4:Int}{b5:Bool}{l6:List (Ty.den TS)}{l7:List (Ty.den TOp)}{s8:ByteArray}(h0:(b5=false))(h1:(¬n0<(0:Int)))(h2:(¬n0≥(↑(List.length l6):Int)))(h3:(¬(↑(ByteArray.size s1):Int)>(256:Int)))(h4:(m0v [.s s1])=(some (0,[.s s8])))(h5:((List.length l7+1)*24≤140737488355328))(h6:(b3=false)):h0j [.n n0,.s s1,.n n2,.b b3,.n n4,.b b5,.l TS l6,.l TOp l7]=some ((0,[.n (0:Int),.n (IntKind.wrap .i64 (n2+(1:Int))),.b b3,.n n4,.b b5,.l TS l6,.l TOp (apL l7 [(n0,s8)])])):=a0h p0k (sP [1]<|sF h0<|sF (df h1)<|sF (df h2)<|sP [1,0]<|sF (df h3)<|sA h4<|sP [1,1]<|sT (dt h5)<|sP [1,1]<|sT (nf h6)<|sP [1,0,1]<|sL)
theorem a1j {n0:Int}{s1:ByteArray}{n2:Int}{b3:Bool}{n4:Int}{b5:Bool}{l6:List (Ty.den TS)}{l7:List (Ty.den TOp)}{s8:ByteArray}(h0:(b5=false))(h1:(¬n0<(0:Int)))(h2:(¬n0≥(↑(List.length l6):Int)))(h3:(¬(↑(ByteArray.size s1):Int)>(256:Int)))(h4:(m0v [.s s1])=(some (0,[.s s8])))(h5:((List.length l7+1)*24≤140737488355328))(h6:(b3=true))(h7:(n4>(0:Int))):h0j [.n n0,.s s1,.n n2,.b b3,.n n4,.b b5,.l TS l6,.l TOp l7]=some ((0,[.n (0:Int),.n (IntKind.wrap .i64 (n2+(1:Int))),.b b3,.n (IntKind.wrap .i64 (n4-(1:Int))),.b b5,.l TS l6,.l TOp (apL l7 [(n0,s8)])])):=a0h p0k (sP [1]<|sF h0<|sF (df h1)<|sF (df h2)<|sP [1,0]<|sF (df h3)<|sA h4<|sP [1,1]<|sT (dt h5)<|sP [1,1]<|sF (nt h6)<|sT (dt h7)<|sP [1,0,1]<|sL)
theorem d1q {n0:Int}{s1:ByteArray}{n2:Int}{b3:Bool}{n4:Int}{b5:Bool}{l6:List (Ty.den TS)}{l7:List (Ty.den TOp)}{s8:ByteArray}(h0:(b5=false))(h1:(¬n0<(0:Int)))(h2:(¬n0≥(↑(List.length l6):Int)))(h3:(¬(↑(ByteArray.size s1):Int)>(256:Int)))(h4:(m0v [.s s1])=(some (0,[.s s8])))(h5:((List.length l7+1)*24≤140737488355328))(h6:(b3=true))(h7:(¬n4>(0:Int))):h0j [.n n0,.s s1,.n n2,.b b3,.n n4,.b b5,.l TS l6,.l TOp l7]=some ((0,[.n (140:Int),.n (IntKind.wrap .i64 (n2+(1:Int))),.b false,.n n4,.b true,.l TS l6,.l TOp (apL l7 [(n0,s8)])])):=a0h p0k (sP [1]<|sF h0<|sF (df h1)<|sF (df h2)<|sP [1,0]<|sF (df h3)<|sA h4<|sP [1,1]<|sT (dt h5)<|sP [1,1]<|sF (nt h6)<|sF (df h7)<|sP [1,1,1]<|sL)
def c1l:FuncId→Option a0i:=f0e 33 [S_m33.k h0j] d1h
theorem s0b:CsOk Try.prog c1l:=csA1 r0z p0k
def S_m10:BSh:={args:=[.ptr 0 0],blks:=[dkB 1 2 0,.arr TS 4,.arr TOp 5],log:=[],outs:=[(.ptr 3 0,[dkB 1 2 0,.arr TS 4,.arr TOp 5,dkB 4 5 6,.arr TS 10,.arr TOp 11])]}
def ev_m10:List Dat→Tree (Nat×List Dat):=evF c1l 10 ls0 S_m10
theorem e_m10: ∃op,IsF ev_m10 10 S_m10 op:=bxF s0b (LsOk.none _ _ _)
def r0a:OpA:=opF e_m10
theorem c1m {n0:Int}{b1:Bool}{n2:Int}{b3:Bool}{l4:List (Ty.den TS)}{l5:List (Ty.den TOp)}(h0:((0+List.length l4)*16≤140737488355328))(h1:((0+List.length l5)*24≤140737488355328)):r0a [.n n0,.b b1,.n n2,.b b3,.l TS l4,.l TOp l5]=some ((0,[.n n0,.b b1,.n n2,.b b3,.l TS l4,.l TOp l5,.n n0,.b b1,.n n2,.b b3,.l TS ([]++l4),.l TOp (apL [] l5)])):=a0h e_m10 (sT (dt h0)<|sT (dt h1)<|sP [1]<|sL)
def x0o:FuncId→Option a0i:=f0e 10 [S_m10.k r0a] c1l
theorem m0l:CsOk Try.prog x0o:=csA1 s0b e_m10
def cxV (h:Nat):PV:=.agg [.int .u8 h,.int .i64 (h+1),.imm TB (h+2),.imn TB (h+3)]
def R_l6_5:LSh:={K:=0,log:=[],ins:=[(sh 51 [(0,.imm a0f 0),(3,.int .i64 1),(4,.int .i64 2)],[])],nils:=[],outs:=[(.exit 0,sh 51 [(3,.int .i64 0)],[]),(.ret,sh 51 [(2,.bool 0)],[])],cv:=[]}
def e0m:List Dat→Tree Step:=evL x0o 6 5 ls0 R_l6_5
theorem w0p: ∃op,IsL e0m 6 5 R_l6_5 op:=bxL m0l (LsOk.none _ _ _)
def v0g:OpA:=opL w0p
theorem n0z (env:List Dat):v0g env=b0n e0m FU env:=e0v w0p env
abbrev Bx_l6_5:MBox:=boxL w0p
theorem z0t {l0:List (Ty.den a0f)}{n1 n2:Int}(g0:0≤n2)(h0:(n2<(↑(List.length l0):Int)))(h1:((↑(List.length (Prod.fst (Prod.snd (Prod.snd (List.getD l0 (Int.toNat n2) (Ty.dflt a0f)))))):Int)>IntKind.wrap .i64 ((6000:Int)-n1))):(e0m [.k 0,.l a0f l0,.n n1,.n n2]).sel=some (Step.stop 1 [.b true]):=sP [1]<|sT (dt h0)<|sTo (c:=(inR n2 (List.length l0)))<|sT (dt h1)<|sP [1,1,1]<|sL
theorem y0a {l0:List (Ty.den a0f)}{n1 n2:Int}(g0:0≤n2)(h0:(n2<(↑(List.length l0):Int)))(h1:(¬(↑(List.length (Prod.fst (Prod.snd (Prod.snd (List.getD l0 (Int.toNat n2) (Ty.dflt a0f)))))):Int)>IntKind.wrap .i64 ((6000:Int)-n1)))(h2:((↑(List.length (Prod.snd (Prod.snd (Prod.snd (List.getD l0 (Int.toNat n2) (Ty.dflt a0f)))))):Int)>IntKind.wrap .i64 ((6000:Int)-n1))):(e0m [.k 0,.l a0f l0,.n n1,.n n2]).sel=some (Step.stop 1 [.b true]):=sP [1]<|sT (dt h0)<|sTo (c:=(inR n2 (List.length l0)))<|sF (df h1)<|sTo (c:=(inR n2 (List.length l0)))<|sT (dt h2)<|sP [1]<|sL
theorem y0f {l0:List (Ty.den a0f)}{n1 n2:Int}(g0:0≤n2)(h0:(n2<(↑(List.length l0):Int)))(h1:(¬(↑(List.length (Prod.fst (Prod.snd (Prod.snd (List.getD l0 (Int.toNat n2) (Ty.dflt a0f)))))):Int)>IntKind.wrap .i64 ((6000:Int)-n1)))(h2:(¬(↑(List.length (Prod.snd (Prod.snd (Prod.snd (List.getD l0 (Int.toNat n2) (Ty.dflt a0f)))))):Int)>IntKind.wrap .i64 ((6000:Int)-n1))):(e0m [.k 0,.l a0f l0,.n n1,.n n2]).sel=some (Step.go [.k 0,.l a0f l0,.n (IntKind.wrap .i64 (IntKind.wrap .i64 (n1+(↑(List.length (Prod.fst (Prod.snd (Prod.snd (List.getD l0 (Int.toNat n2) (Ty.dflt a0f)))))):Int))+(↑(List.length (Prod.snd (Prod.snd (Prod.snd (List.getD l0 (Int.toNat n2) (Ty.dflt a0f)))))):Int))),.n (IntKind.wrap .i64 (n2+(1:Int)))]):=sP [1]<|sT (dt h0)<|sTo (c:=(inR n2 (List.length l0)))<|sF (df h1)<|sTo (c:=(inR n2 (List.length l0)))<|sF (df h2)<|sTo (c:=(inR n2 (List.length l0)))<|sTo (c:=(inR n2 (List.length l0)))<|sP [1,1]<|sL
theorem z0p {l0:List (Ty.den a0f)}{n1 n2:Int}(g0:0≤n2)(h0:(¬n2<(↑(List.length l0):Int))):(e0m [.k 0,.l a0f l0,.n n1,.n n2]).sel=some (Step.stop 0 [.n n1]):=sP [1]<|sF (df h0)<|sP [1]<|sL
def S_l6:BSh:={args:=[.imm a0f 0],blks:=[],log:=[],outs:=[(.bool 0,[])]}
def ev_l6:List Dat→Tree (Nat×List Dat):=evF x0o 6 (lsM [(5,Bx_l6_5)] 0) S_l6
theorem e_l6: ∃op,IsF ev_l6 6 S_l6 op:=bxF m0l (lsE (lsC (d0a w0p) (atF) lsZ))
def t0k:OpA:=opF e_l6
theorem h1j {l0:List (Ty.den a0f)}(h0:((↑(List.length l0):Int)>(80:Int))):t0k [.l a0f l0]=some ((0,[.b true])):=a0h e_l6 (sT (dt h0)<|sP [1]<|sL)
theorem g1s {l0:List (Ty.den a0f)}{n1:Int}(h0:(¬(↑(List.length l0):Int)>(80:Int)))(h1:(v0g [.k 0,.l a0f l0,.n (0:Int),.n (0:Int)])=(some (0,[.n n1]))):t0k [.l a0f l0]=some ((0,[.b (decide (n1>(6000:Int)))])):=a0h e_l6 (sF (df h0)<|sA h1<|sP [1,1]<|sL)
theorem f1z {l0:List (Ty.den a0f)}{b1:Bool}(h0:(¬(↑(List.length l0):Int)>(80:Int)))(h1:(v0g [.k 0,.l a0f l0,.n (0:Int),.n (0:Int)])=(some (1,[.b b1]))):t0k [.l a0f l0]=some ((0,[.b b1])):=a0h e_l6 (sF (df h0)<|sA h1<|sP [0,1,1]<|sL)
def f1f:FuncId→Option a0i:=j0z 6 (S_l6.k t0k) x0o
theorem k0t:CsOk Try.prog f1f:=csL1 m0l e_l6
def x0e:LSh:={K:=6,log:=[],ins:=[(sh 91 [(0,.ptr 0 0),(1,.ptr 1 0),(5,.int .i64 0),(6,.asl 6 0 256),(10,.int .i64 1)],[dkB 2 3 2,dkB 4 5 6,.arr TBk 10,.arr TWr 11,.arr TS 12,.arr TOp 13,.cells [.arrd TB 256 14]]),(sh 91 [(0,.ptr 0 0),(1,.ptr 1 0),(5,.int .i64 0),(6,.nilsl),(10,.int .i64 1)],[dkB 2 3 2,dkB 4 5 6,.arr TBk 10,.arr TWr 11,.arr TS 12,.arr TOp 13])],nils:=[],outs:=[(.exit 2,sh 91 [(0,.ptr 0 0),(1,.ptr 1 0),(5,.int .i64 0)],[dkB 2 3 1,dkB 4 5 5,.arr TBk 9,.arr TWr 10,.arr TS 11,.arr TOp 12])],cv:=[]}
def e0q:List Dat→Tree Step:=evL f1f 13 11 ls0 x0e
theorem k0v: ∃op,IsL e0q 13 11 x0e op:=bxL k0t (LsOk.none _ _ _)
def g0h:OpA:=opL k0v
theorem k0i (env:List Dat):g0h env=b0n e0q FU env:=e0v k0v env
abbrev b1j:MBox:=boxL k0v
theorem q0u {n0 n1 n2:Int}{b3:Bool}{n4:Int}{b5:Bool}{n6:Int}{b7:Bool}{n8:Int}{b9:Bool}{l10:List (Ty.den TBk)}{l11:List (Ty.den TWr)}{l12:List (Ty.den TS)}{l13:List (Ty.den TOp)}{l14:List (Ty.den TB)}(g0:0≤n1)(h0:(n1<(256:Int))):(e0q [.k 0,.n n0,.n n1,.n n2,.b b3,.n n4,.b b5,.n n6,.b b7,.n n8,.b b9,.l TBk l10,.l TWr l11,.l TS l12,.l TOp l13,.l TB l14]).sel=some (Step.go [.k 0,.n n0,.n (IntKind.wrap .i64 (n1+(1:Int))),.n n2,.b b3,.n n4,.b b5,.n n6,.b b7,.n n8,.b b9,.l TBk l10,.l TWr l11,.l TS l12,.l TOp l13,.l TB (List.set l14 (Int.toNat n1) (IntKind.wrap .u8 ((List.getD l14 (Int.toNat n1) (0:Int):Int)+(1:Int))))]):=sP [1]<|sT (dt h0)<|sTo (c:=(inR n1 256))<|sTo (c:=(inR n1 256))<|sP [1]<|sL
theorem s0f {n0 n1 n2:Int}{b3:Bool}{n4:Int}{b5:Bool}{n6:Int}{b7:Bool}{n8:Int}{b9:Bool}{l10:List (Ty.den TBk)}{l11:List (Ty.den TWr)}{l12:List (Ty.den TS)}{l13:List (Ty.den TOp)}{l14:List (Ty.den TB)}(g0:0≤n1)(h0:(¬n1<(256:Int))):(e0q [.k 0,.n n0,.n n1,.n n2,.b b3,.n n4,.b b5,.n n6,.b b7,.n n8,.b b9,.l TBk l10,.l TWr l11,.l TS l12,.l TOp l13,.l TB l14]).sel=some (Step.stop 0 [.n n0,.n n2,.b b3,.n n4,.b b5,.n n6,.b b7,.n n8,.b b9,.l TBk l10,.l TWr l11,.l TS l12,.l TOp l13]):=sP [1]<|sF (df h0)<|sP [1]<|sL
theorem q0t {n0 n1 n2:Int}{b3:Bool}{n4:Int}{b5:Bool}{n6:Int}{b7:Bool}{n8:Int}{b9:Bool}{l10:List (Ty.den TBk)}{l11:List (Ty.den TWr)}{l12:List (Ty.den TS)}{l13:List (Ty.den TOp)}(g0:0≤n1):(e0q [.k 1,.n n0,.n n1,.n n2,.b b3,.n n4,.b b5,.n n6,.b b7,.n n8,.b b9,.l TBk l10,.l TWr l11,.l TS l12,.l TOp l13]).sel=some (Step.stop 0 [.n n0,.n n2,.b b3,.n n4,.b b5,.n n6,.b b7,.n n8,.b b9,.l TBk l10,.l TWr l11,.l TS l12,.l TOp l13]):=sP [1]<|sFs (c:=(decide (n1<(0:Int))))<|sP [1]<|sL
def f1n:LSh:={K:=6,log:=[],ins:=[(sh 91 [(0,.ptr 0 0),(1,.ptr 1 0),(5,.int .i64 0)],[dkB 2 3 1,dkB 4 5 5,.arr TBk 9,.arr TWr 10,.arr TS 11,.arr TOp 12])],nils:=[],outs:=[(.exit 0,sh 91 [],[dkB 2 3 0,dkB 4 5 4,.arr TBk 8,.arr TWr 9,.arr TS 10,.arr TOp 11]),(.ret,sh 91 [(4,.bool 0)],[dkB 2 3 1,dkB 4 5 5,.arr TBk 9,.arr TWr 10,.arr TS 11,.arr TOp 12])],cv:=[]}
def g0u:List Dat→Tree Step:=evL f1f 13 4 (lsM [(11,b1j)] 6) f1n
theorem q0h: ∃op,IsL g0u 13 4 f1n op:=bxL k0t (lsE (lsC (d0a k0v) (by kernel_rfl) lsZ))
def q0b:OpA:=opL q0h
theorem v0w (env:List Dat):q0b env=b0n g0u FU env:=e0v q0h env
abbrev g1b:MBox:=boxL q0h
theorem t0x {n0 n1:Int}{b2:Bool}{n3:Int}{b4:Bool}{n5:Int}{b6:Bool}{n7:Int}{b8:Bool}{l9:List (Ty.den TBk)}{l10:List (Ty.den TWr)}{l11:List (Ty.den TS)}{l12:List (Ty.den TOp)}{n13 n14:Int}{b15:Bool}{n16:Int}{b17:Bool}{l18:List (Ty.den TBk)}{l19:List (Ty.den TWr)}{s20:ByteArray}{n21 n22:Int}{b23:Bool}{n24:Int}{b25:Bool}{l26:List (Ty.den TS)}{l27:List (Ty.den TOp)}{n28 n29:Int}{b30:Bool}{n31:Int}{b32:Bool}{n33:Int}{b34:Bool}{n35:Int}{b36:Bool}{l37:List (Ty.den TBk)}{l38:List (Ty.den TWr)}{l39:List (Ty.den TS)}{l40:List (Ty.den TOp)}(g0: -1≤n0)(h0:(n0≤(↑(List.length l11):Int)))(h1:(h0k [.n n0,.n n1,.b b2,.n n3,.b b4,.l TBk l9,.l TWr l10])=(some (0,[.n n13,.n n14,.b b15,.n n16,.b b17,.l TBk l18,.l TWr l19])))(h2:(f0y [.n n0,.n n5,.b b6,.n n7,.b b8,.l TS l11,.l TOp l12])=(some (0,[.s s20,.n n21,.n n22,.b b23,.n n24,.b b25,.l TS l26,.l TOp l27])))(h3:(n13=n21))(h4:(b0y (a0e []) s20=true))(h5:(g0h [.k 1,.n n0,.n (0:Int),.n n1,.b b2,.n n3,.b b4,.n n5,.b b6,.n n7,.b b8,.l TBk l9,.l TWr l10,.l TS l11,.l TOp l12])=(some (0,[.n n28,.n n29,.b b30,.n n31,.b b32,.n n33,.b b34,.n n35,.b b36,.l TBk l37,.l TWr l38,.l TS l39,.l TOp l40]))):(g0u [.k 0,.n n0,.n n1,.b b2,.n n3,.b b4,.n n5,.b b6,.n n7,.b b8,.l TBk l9,.l TWr l10,.l TS l11,.l TOp l12]).sel=some (Step.go [.k 0,.n (IntKind.wrap .i64 (n28+(1:Int))),.n n29,.b b30,.n n31,.b b32,.n n33,.b b34,.n n35,.b b36,.l TBk l37,.l TWr l38,.l TS l39,.l TOp l40]):=sP [1]<|sT (dt h0)<|sP [1]<|sA h1<|sP [1,1,1]<|sA h2<|sP [1,1]<|sF (bnf h3)<|sF (nt h4)<|sA h5<|sP [1,1]<|sL
theorem v0o {n0 n1:Int}{b2:Bool}{n3:Int}{b4:Bool}{n5:Int}{b6:Bool}{n7:Int}{b8:Bool}{l9:List (Ty.den TBk)}{l10:List (Ty.den TWr)}{l11:List (Ty.den TS)}{l12:List (Ty.den TOp)}{n13 n14:Int}{b15:Bool}{n16:Int}{b17:Bool}{l18:List (Ty.den TBk)}{l19:List (Ty.den TWr)}{l20:List (Ty.den TB)}{s21:ByteArray}{n22 n23:Int}{b24:Bool}{n25:Int}{b26:Bool}{l27:List (Ty.den TS)}{l28:List (Ty.den TOp)}{n29 n30:Int}{b31:Bool}{n32:Int}{b33:Bool}{n34:Int}{b35:Bool}{n36:Int}{b37:Bool}{l38:List (Ty.den TBk)}{l39:List (Ty.den TWr)}{l40:List (Ty.den TS)}{l41:List (Ty.den TOp)}(g0: -1≤n0)(h0:(n0≤(↑(List.length l11):Int)))(h1:(h0k [.n n0,.n n1,.b b2,.n n3,.b b4,.l TBk l9,.l TWr l10])=(some (1,[.n n13,.n n14,.b b15,.n n16,.b b17,.l TBk l18,.l TWr l19,.l TB l20])))(h2:(f0y [.n n0,.n n5,.b b6,.n n7,.b b8,.l TS l11,.l TOp l12])=(some (0,[.s s21,.n n22,.n n23,.b b24,.n n25,.b b26,.l TS l27,.l TOp l28])))(h3:(n13=n22))(h4:(b0y (a0e l20) s21=true))(h5:(g0h [.k 0,.n n0,.n (0:Int),.n n1,.b b2,.n n3,.b b4,.n n5,.b b6,.n n7,.b b8,.l TBk l9,.l TWr l10,.l TS l11,.l TOp l12,.l TB l20])=(some (0,[.n n29,.n n30,.b b31,.n n32,.b b33,.n n34,.b b35,.n n36,.b b37,.l TBk l38,.l TWr l39,.l TS l40,.l TOp l41]))):(g0u [.k 0,.n n0,.n n1,.b b2,.n n3,.b b4,.n n5,.b b6,.n n7,.b b8,.l TBk l9,.l TWr l10,.l TS l11,.l TOp l12]).sel=some (Step.go [.k 0,.n (IntKind.wrap .i64 (n29+(1:Int))),.n n30,.b b31,.n n32,.b b33,.n n34,.b b35,.n n36,.b b37,.l TBk l38,.l TWr l39,.l TS l40,.l TOp l41]):=sP [1]<|sT (dt h0)<|sP [1]<|sA h1<|sP [0,1,1,1]<|sA h2<|sP [1,1]<|sF (bnf h3)<|sF (nt h4)<|sA h5<|sP [1,1]<|sL
theorem u0s {n0 n1:Int}{b2:Bool}{n3:Int}{b4:Bool}{n5:Int}{b6:Bool}{n7:Int}{b8:Bool}{l9:List (Ty.den TBk)}{l10:List (Ty.den TWr)}{l11:List (Ty.den TS)}{l12:List (Ty.den TOp)}(g0: -1≤n0)(h0:(¬n0≤(↑(List.length l11):Int))):(g0u [.k 0,.n n0,.n n1,.b b2,.n n3,.b b4,.n n5,.b b6,.n n7,.b b8,.l TBk l9,.l TWr l10,.l TS l11,.l TOp l12]).sel=some (Step.stop 0 [.n n1,.b b2,.n n3,.b b4,.n n5,.b b6,.n n7,.b b8,.l TBk l9,.l TWr l10,.l TS l11,.l TOp l12]):=sP [1]<|sF (df h0)<|sP [1]<|sL
def S_t13:BSh:={args:=[.ptr 0 0,.ptr 1 0],blks:=[dkB 2 3 0,dkB 4 5 4,.arr TBk 8,.arr TWr 9,.arr TS 10,.arr TOp 11],log:=[],outs:=[(.bool 0,[dkB 2 3 1,dkB 4 5 5,.arr TBk 9,.arr TWr 10,.arr TS 11,.arr TOp 12])]}
def ev_t13:List Dat→Tree (Nat×List Dat):=evF f1f 13 (lsM [(4,g1b)] 6) S_t13
theorem e_t13: ∃op,IsF ev_t13 13 S_t13 op:=bxF k0t (lsE (lsC (d0a q0h) (atF) lsZ))
def m0u:OpA:=opF e_t13
theorem c1j {n0:Int}{b1:Bool}{n2:Int}{b3:Bool}{n4:Int}{b5:Bool}{n6:Int}{b7:Bool}{l8:List (Ty.den TBk)}{l9:List (Ty.den TWr)}{l10:List (Ty.den TS)}{l11:List (Ty.den TOp)}{n12:Int}{b13:Bool}{n14:Int}{b15:Bool}{n16:Int}{b17:Bool}{n18:Int}{b19:Bool}{l20:List (Ty.den TBk)}{l21:List (Ty.den TWr)}{l22:List (Ty.den TS)}{l23:List (Ty.den TOp)}(h0:((↑(List.length l8):Int)=(↑(List.length l10):Int)))(h1:(n0=n4))(h2:((b3==b7)=true))(h3:((↑(List.length l9):Int)=(↑(List.length l11):Int)))(h4:(q0b [.k 0,.n (-1:Int),.n n0,.b b1,.n n2,.b b3,.n n4,.b b5,.n n6,.b b7,.l TBk l8,.l TWr l9,.l TS l10,.l TOp l11])=(some (0,[.n n12,.b b13,.n n14,.b b15,.n n16,.b b17,.n n18,.b b19,.l TBk l20,.l TWr l21,.l TS l22,.l TOp l23]))):m0u [.n n0,.b b1,.n n2,.b b3,.n n4,.b b5,.n n6,.b b7,.l TBk l8,.l TWr l9,.l TS l10,.l TOp l11]=some ((0,[.b true,.n n12,.b b13,.n n14,.b b15,.n n16,.b b17,.n n18,.b b19,.l TBk l20,.l TWr l21,.l TS l22,.l TOp l23])):=a0h e_t13 (sP [1,0,1]<|sF (bnf h0)<|sP [1,0,1]<|sF (bnf h1)<|sP [1,0,1]<|sF (nt h2)<|sP [1,0,1,1]<|sF (bnf h3)<|sA h4<|sP [1,1]<|sL)
def w0e:FuncId→Option a0i:=f0e 13 [S_t13.k m0u] f1f
theorem m0y:CsOk Try.prog w0e:=csA1 k0t e_t13
def x0c:LSh:={K:=6,log:=[],ins:=[(sh 116 [(7,.own 6),(8,.bool 0),(13,.int .i64 1)],[dkB 2 3 2,dkB 4 5 6,.arr TBk 10,.arr TWr 11,.arr TS 12,.arr TOp 13,.arr TB 14]),(sh 116 [(7,.own 6),(8,.bool 0),(13,.int .i64 1)],[dkB 2 7 2,dkB 4 8 6,.arr TBk 10,.gone,.arr TS 11,.gone,.arr TB 12,.arr TWr 13,.arr TOp 14]),(sh 116 [(7,.own 6),(8,.bool 0),(13,.int .i64 1)],[dkB 2 7 2,dkB 4 5 6,.arr TBk 10,.gone,.arr TS 11,.arr TOp 12,.arr TB 13,.arr TWr 14]),(sh 116 [(7,.own 6),(8,.bool 0),(13,.int .i64 1)],[dkB 2 3 2,dkB 4 7 6,.arr TBk 10,.arr TWr 11,.arr TS 12,.gone,.arr TB 13,.arr TOp 14])],nils:=[],outs:=[(.exit 1,sh 116 [(8,.bool 0)],[dkB 2 3 1,dkB 4 5 5,.arr TBk 9,.arr TWr 10,.arr TS 11,.arr TOp 12]),(.exit 1,sh 116 [(8,.bool 0)],[dkB 2 6 1,dkB 4 7 5,.arr TBk 9,.gone,.arr TS 10,.gone,.arr TWr 11,.arr TOp 12]),(.exit 1,sh 116 [(8,.bool 0)],[dkB 2 6 1,dkB 4 5 5,.arr TBk 9,.gone,.arr TS 10,.arr TOp 11,.arr TWr 12]),(.exit 1,sh 116 [(8,.bool 0)],[dkB 2 3 1,dkB 4 6 5,.arr TBk 9,.arr TWr 10,.arr TS 11,.gone,.arr TOp 12])],cv:=[]}
def d0d:List Dat→Tree Step:=evL w0e 12 22 ls0 x0c
theorem k0o: ∃op,IsL d0d 12 22 x0c op:=bxL m0y (LsOk.none _ _ _)
def b0d:OpA:=opL k0o
theorem k0f (env:List Dat):b0d env=b0n d0d FU env:=e0v k0o env
abbrev f1j:MBox:=boxL k0o
theorem p0v {b0:Bool}{n1 n2:Int}{b3:Bool}{n4:Int}{b5:Bool}{n6:Int}{b7:Bool}{n8:Int}{b9:Bool}{l10:List (Ty.den TBk)}{l11:List (Ty.den TWr)}{l12:List (Ty.den TS)}{l13:List (Ty.den TOp)}{l14:List (Ty.den TB)}(g0:0≤n1)(h0:(n1<(↑(List.length l14):Int))):(d0d [.k 0,.b b0,.n n1,.n n2,.b b3,.n n4,.b b5,.n n6,.b b7,.n n8,.b b9,.l TBk l10,.l TWr l11,.l TS l12,.l TOp l13,.l TB l14]).sel=some (Step.go [.k 0,.b b0,.n (IntKind.wrap .i64 (n1+(1:Int))),.n n2,.b b3,.n n4,.b b5,.n n6,.b b7,.n n8,.b b9,.l TBk l10,.l TWr l11,.l TS l12,.l TOp l13,.l TB (List.set l14 (Int.toNat n1) (IntKind.wrap .u8 ((List.getD l14 (Int.toNat n1) (0:Int):Int)+(1:Int))))]):=sP [1]<|sT (dt h0)<|sTo (c:=(inR n1 (List.length l14)))<|sTo (c:=(inR n1 (List.length l14)))<|sP [1]<|sL
theorem q0d {b0:Bool}{n1 n2:Int}{b3:Bool}{n4:Int}{b5:Bool}{n6:Int}{b7:Bool}{n8:Int}{b9:Bool}{l10:List (Ty.den TBk)}{l11:List (Ty.den TWr)}{l12:List (Ty.den TS)}{l13:List (Ty.den TOp)}{l14:List (Ty.den TB)}(g0:0≤n1)(h0:(¬n1<(↑(List.length l14):Int))):(d0d [.k 0,.b b0,.n n1,.n n2,.b b3,.n n4,.b b5,.n n6,.b b7,.n n8,.b b9,.l TBk l10,.l TWr l11,.l TS l12,.l TOp l13,.l TB l14]).sel=some (Step.stop 0 [.b b0,.n n2,.b b3,.n n4,.b b5,.n n6,.b b7,.n n8,.b b9,.l TBk l10,.l TWr l11,.l TS l12,.l TOp l13]):=sP [1]<|sF (df h0)<|sP [1]<|sL
theorem q0o {b0:Bool}{n1 n2:Int}{b3:Bool}{n4:Int}{b5:Bool}{n6:Int}{b7:Bool}{n8:Int}{b9:Bool}{l10:List (Ty.den TBk)}{l11:List (Ty.den TS)}{l12:List (Ty.den TB)}{l13:List (Ty.den TWr)}{l14:List (Ty.den TOp)}(g0:0≤n1)(h0:(n1<(↑(List.length l12):Int))):(d0d [.k 1,.b b0,.n n1,.n n2,.b b3,.n n4,.b b5,.n n6,.b b7,.n n8,.b b9,.l TBk l10,.l TS l11,.l TB l12,.l TWr l13,.l TOp l14]).sel=some (Step.go [.k 1,.b b0,.n (IntKind.wrap .i64 (n1+(1:Int))),.n n2,.b b3,.n n4,.b b5,.n n6,.b b7,.n n8,.b b9,.l TBk l10,.l TS l11,.l TB (List.set l12 (Int.toNat n1) (IntKind.wrap .u8 ((List.getD l12 (Int.toNat n1) (0:Int):Int)+(1:Int)))),.l TWr l13,.l TOp l14]):=sP [1]<|sT (dt h0)<|sTo (c:=(inR n1 (List.length l12)))<|sTo (c:=(inR n1 (List.length l12)))<|sP [1]<|sL
theorem o0z {b0:Bool}{n1 n2:Int}{b3:Bool}{n4:Int}{b5:Bool}{n6:Int}{b7:Bool}{n8:Int}{b9:Bool}{l10:List (Ty.den TBk)}{l11:List (Ty.den TS)}{l12:List (Ty.den TB)}{l13:List (Ty.den TWr)}{l14:List (Ty.den TOp)}(g0:0≤n1)(h0:(¬n1<(↑(List.length l12):Int))):(d0d [.k 1,.b b0,.n n1,.n n2,.b b3,.n n4,.b b5,.n n6,.b b7,.n n8,.b b9,.l TBk l10,.l TS l11,.l TB l12,.l TWr l13,.l TOp l14]).sel=some (Step.stop 1 [.b b0,.n n2,.b b3,.n n4,.b b5,.n n6,.b b7,.n n8,.b b9,.l TBk l10,.l TS l11,.l TWr l13,.l TOp l14]):=sP [1]<|sF (df h0)<|sP [1]<|sL
def S_d12:BSh:={args:=[.ptr 0 0,.ptr 1 0,cxV 0],blks:=[dkB 2 3 4,dkB 4 5 8,.arr TBk 12,.arr TWr 13,.arr TS 14,.arr TOp 15],log:=[0,1,2,3,4,5],outs:=[(.bool 0,[dkB 2 3 1,dkB 4 5 5,.arr TBk 9,.arr TWr 10,.arr TS 11,.arr TOp 12]),(.bool 0,[dkB 2 6 1,dkB 4 7 5,.arr TBk 9,.gone,.arr TS 10,.gone,.arr TWr 11,.arr TOp 12]),(.bool 0,[dkB 2 6 1,dkB 4 5 5,.arr TBk 9,.gone,.arr TS 10,.arr TOp 11,.arr TWr 12]),(.bool 0,[dkB 2 3 1,dkB 4 6 5,.arr TBk 9,.arr TWr 10,.arr TS 11,.gone,.arr TOp 12])]}
def ev_d12:List Dat→Tree (Nat×List Dat):=evF w0e 12 (lsM [(22,f1j)] 6) S_d12
theorem l0w: ∃op,IsF ev_d12 12 S_d12 op:=bxF m0y (lsE (lsC (d0a k0o) (atF) lsZ))
def d0r:OpA:=opF l0w
theorem c1i {n0 n1:Int}{l2 l3:List (Ty.den TB)}{n4:Int}{b5:Bool}{n6:Int}{b7:Bool}{n8:Int}{b9:Bool}{n10:Int}{b11:Bool}{l12:List (Ty.den TBk)}{l13:List (Ty.den TWr)}{l14:List (Ty.den TS)}{l15:List (Ty.den TOp)}{n16 n17:Int}{b18:Bool}{n19:Int}{b20:Bool}{l21:List (Ty.den TBk)}{l22:List (Ty.den TWr)}{n23 n24:Int}{b25:Bool}{n26:Int}{b27:Bool}{l28:List (Ty.den TS)}{l29:List (Ty.den TOp)}{b30:Bool}{n31:Int}{b32:Bool}{n33:Int}{b34:Bool}{n35:Int}{b36:Bool}{n37:Int}{b38:Bool}{l39:List (Ty.den TBk)}{l40:List (Ty.den TWr)}{l41:List (Ty.den TS)}{l42:List (Ty.den TOp)}(g0:0≤n0)(h0:(Int.tmod n0 (9:Int)=(3:Int)))(h1:(k0e [.n n4,.b b5,.n n6,.b b7,.l TBk l12,.l TWr l13])=(some (0,[.n n16,.n n17,.b b18,.n n19,.b b20,.l TBk l21,.l TWr l22])))(h2:(k0h [.n n8,.b b9,.n n10,.b b11,.l TS l14,.l TOp l15])=(some (0,[.n n23,.n n24,.b b25,.n n26,.b b27,.l TS l28,.l TOp l29])))(h3:(n16=n23))(h4:(b0d [.k 0,.b (b0y (a0e (a0d (a0e l2))) (a0e l2)),.n (0:Int),.n n17,.b b18,.n n19,.b b20,.n n24,.b b25,.n n26,.b b27,.l TBk l21,.l TWr l13,.l TS l28,.l TOp l15,.l TB (a0d (a0e l2))])=(some (0,[.b b30,.n n31,.b b32,.n n33,.b b34,.n n35,.b b36,.n n37,.b b38,.l TBk l39,.l TWr l40,.l TS l41,.l TOp l42]))):d0r [.n n0,.n n1,.l TB l2,.l TB l3,.n n4,.b b5,.n n6,.b b7,.n n8,.b b9,.n n10,.b b11,.l TBk l12,.l TWr l13,.l TS l14,.l TOp l15]=some ((0,[.b b30,.n n31,.b b32,.n n33,.b b34,.n n35,.b b36,.n n37,.b b38,.l TBk l39,.l TWr l40,.l TS l41,.l TOp l42])):=a0h l0w (sP [1]<|sT (bt h0)<|sP [1]<|sA h1<|sP [1,1,1]<|sA h2<|sP [1,1]<|sT (bt h3)<|sA h4<|sP [1,1]<|sL)
theorem y0p {n0 n1:Int}{l2 l3:List (Ty.den TB)}{n4:Int}{b5:Bool}{n6:Int}{b7:Bool}{n8:Int}{b9:Bool}{n10:Int}{b11:Bool}{l12:List (Ty.den TBk)}{l13:List (Ty.den TWr)}{l14:List (Ty.den TS)}{l15:List (Ty.den TOp)}{n16 n17:Int}{b18:Bool}{n19:Int}{b20:Bool}{l21:List (Ty.den TBk)}{l22:List (Ty.den TWr)}{n23 n24:Int}{b25:Bool}{n26:Int}{b27:Bool}{l28:List (Ty.den TS)}{l29:List (Ty.den TOp)}{b30:Bool}{n31:Int}{b32:Bool}{n33:Int}{b34:Bool}{n35:Int}{b36:Bool}{n37:Int}{b38:Bool}{l39:List (Ty.den TBk)}{l40:List (Ty.den TS)}{l41:List (Ty.den TWr)}{l42:List (Ty.den TOp)}(g0:0≤n0)(h0:(Int.tmod n0 (9:Int)=(3:Int)))(h1:(k0e [.n n4,.b b5,.n n6,.b b7,.l TBk l12,.l TWr l13])=(some (1,[.n n16,.n n17,.b b18,.n n19,.b b20,.l TBk l21,.l TWr l22])))(h2:(k0h [.n n8,.b b9,.n n10,.b b11,.l TS l14,.l TOp l15])=(some (1,[.n n23,.n n24,.b b25,.n n26,.b b27,.l TS l28,.l TOp l29])))(h3:(n16=n23))(h4:(b0d [.k 1,.b (b0y (a0e (a0d (a0e l2))) (a0e l2)),.n (0:Int),.n n17,.b b18,.n n19,.b b20,.n n24,.b b25,.n n26,.b b27,.l TBk l21,.l TS l28,.l TB (a0d (a0e l2)),.l TWr l22,.l TOp l29])=(some (1,[.b b30,.n n31,.b b32,.n n33,.b b34,.n n35,.b b36,.n n37,.b b38,.l TBk l39,.l TS l40,.l TWr l41,.l TOp l42]))):d0r [.n n0,.n n1,.l TB l2,.l TB l3,.n n4,.b b5,.n n6,.b b7,.n n8,.b b9,.n n10,.b b11,.l TBk l12,.l TWr l13,.l TS l14,.l TOp l15]=some ((1,[.b b30,.n n31,.b b32,.n n33,.b b34,.n n35,.b b36,.n n37,.b b38,.l TBk l39,.l TS l40,.l TWr l41,.l TOp l42])):=a0h l0w (sP [1]<|sT (bt h0)<|sP [1]<|sA h1<|sP [0,1,1,1]<|sA h2<|sP [0,1,1]<|sT (bt h3)<|sA h4<|sP [0,1,1]<|sL)
theorem x0z {n0 n1:Int}{l2 l3:List (Ty.den TB)}{n4:Int}{b5:Bool}{n6:Int}{b7:Bool}{n8:Int}{b9:Bool}{n10:Int}{b11:Bool}{l12:List (Ty.den TBk)}{l13:List (Ty.den TWr)}{l14:List (Ty.den TS)}{l15:List (Ty.den TOp)}{n16 n17:Int}{b18:Bool}{n19:Int}{b20:Bool}{l21:List (Ty.den TBk)}{l22:List (Ty.den TWr)}{s23:ByteArray}{n24 n25:Int}{b26:Bool}{n27:Int}{b28:Bool}{l29:List (Ty.den TS)}{l30:List (Ty.den TOp)}{b31:Bool}{n32:Int}{b33:Bool}{n34:Int}{b35:Bool}{n36:Int}{b37:Bool}{n38:Int}{b39:Bool}{l40:List (Ty.den TBk)}{l41:List (Ty.den TWr)}{l42:List (Ty.den TS)}{l43:List (Ty.den TOp)}(g0:0≤n0)(h0:(¬Int.tmod n0 (9:Int)=(3:Int)))(h1:(Int.tmod n0 (9:Int)=(4:Int)))(h2:(h0k [.n n1,.n n4,.b b5,.n n6,.b b7,.l TBk l12,.l TWr l13])=(some (0,[.n n16,.n n17,.b b18,.n n19,.b b20,.l TBk l21,.l TWr l22])))(h3:(f0y [.n n1,.n n8,.b b9,.n n10,.b b11,.l TS l14,.l TOp l15])=(some (0,[.s s23,.n n24,.n n25,.b b26,.n n27,.b b28,.l TS l29,.l TOp l30])))(h4:(n16=n24))(h5:(b0y (a0e []) s23=true))(h6:(b0d [.k 0,.b (b0y (a0e (a0d (a0e l2))) (a0e l2)),.n (0:Int),.n n4,.b b5,.n n6,.b b7,.n n8,.b b9,.n n10,.b b11,.l TBk l12,.l TWr l13,.l TS l14,.l TOp l15,.l TB (a0d (a0e l2))])=(some (0,[.b b31,.n n32,.b b33,.n n34,.b b35,.n n36,.b b37,.n n38,.b b39,.l TBk l40,.l TWr l41,.l TS l42,.l TOp l43]))):d0r [.n n0,.n n1,.l TB l2,.l TB l3,.n n4,.b b5,.n n6,.b b7,.n n8,.b b9,.n n10,.b b11,.l TBk l12,.l TWr l13,.l TS l14,.l TOp l15]=some ((0,[.b b31,.n n32,.b b33,.n n34,.b b35,.n n36,.b b37,.n n38,.b b39,.l TBk l40,.l TWr l41,.l TS l42,.l TOp l43])):=a0h l0w (sP [1]<|sF (bf h0)<|sT (bt h1)<|sP [1]<|sA h2<|sP [1,1,1]<|sA h3<|sP [1,1]<|sT (bt h4)<|sT h5<|sA h6<|sP [1,1]<|sL)
theorem z0q {n0 n1:Int}{l2 l3:List (Ty.den TB)}{n4:Int}{b5:Bool}{n6:Int}{b7:Bool}{n8:Int}{b9:Bool}{n10:Int}{b11:Bool}{l12:List (Ty.den TBk)}{l13:List (Ty.den TWr)}{l14:List (Ty.den TS)}{l15:List (Ty.den TOp)}{n16 n17:Int}{b18:Bool}{n19:Int}{b20:Bool}{l21:List (Ty.den TBk)}{l22:List (Ty.den TWr)}{l23:List (Ty.den TB)}{s24:ByteArray}{n25 n26:Int}{b27:Bool}{n28:Int}{b29:Bool}{l30:List (Ty.den TS)}{l31:List (Ty.den TOp)}{b32:Bool}{n33:Int}{b34:Bool}{n35:Int}{b36:Bool}{n37:Int}{b38:Bool}{n39:Int}{b40:Bool}{l41:List (Ty.den TBk)}{l42:List (Ty.den TWr)}{l43:List (Ty.den TS)}{l44:List (Ty.den TOp)}(g0:0≤n0)(h0:(¬Int.tmod n0 (9:Int)=(3:Int)))(h1:(Int.tmod n0 (9:Int)=(4:Int)))(h2:(h0k [.n n1,.n n4,.b b5,.n n6,.b b7,.l TBk l12,.l TWr l13])=(some (1,[.n n16,.n n17,.b b18,.n n19,.b b20,.l TBk l21,.l TWr l22,.l TB l23])))(h3:(f0y [.n n1,.n n8,.b b9,.n n10,.b b11,.l TS l14,.l TOp l15])=(some (0,[.s s24,.n n25,.n n26,.b b27,.n n28,.b b29,.l TS l30,.l TOp l31])))(h4:(n16=n25))(h5:(b0y (a0e l23) s24=true))(h6:(b0d [.k 0,.b (b0y (a0e (a0d (a0e l2))) (a0e l2)),.n (0:Int),.n n4,.b b5,.n n6,.b b7,.n n8,.b b9,.n n10,.b b11,.l TBk l12,.l TWr l13,.l TS l14,.l TOp l15,.l TB (a0d (a0e l2))])=(some (0,[.b b32,.n n33,.b b34,.n n35,.b b36,.n n37,.b b38,.n n39,.b b40,.l TBk l41,.l TWr l42,.l TS l43,.l TOp l44]))):d0r [.n n0,.n n1,.l TB l2,.l TB l3,.n n4,.b b5,.n n6,.b b7,.n n8,.b b9,.n n10,.b b11,.l TBk l12,.l TWr l13,.l TS l14,.l TOp l15]=some ((0,[.b b32,.n n33,.b b34,.n n35,.b b36,.n n37,.b b38,.n n39,.b b40,.l TBk l41,.l TWr l42,.l TS l43,.l TOp l44])):=a0h l0w (sP [1]<|sF (bf h0)<|sT (bt h1)<|sP [1]<|sA h2<|sP [0,1,1,1]<|sA h3<|sP [1,1]<|sT (bt h4)<|sT h5<|sA h6<|sP [1,1]<|sL)
theorem z0c {n0 n1:Int}{l2 l3:List (Ty.den TB)}{n4:Int}{b5:Bool}{n6:Int}{b7:Bool}{n8:Int}{b9:Bool}{n10:Int}{b11:Bool}{l12:List (Ty.den TBk)}{l13:List (Ty.den TWr)}{l14:List (Ty.den TS)}{l15:List (Ty.den TOp)}{b16:Bool}{n17:Int}{b18:Bool}{n19:Int}{b20:Bool}{n21:Int}{b22:Bool}{n23:Int}{b24:Bool}{l25:List (Ty.den TBk)}{l26:List (Ty.den TWr)}{l27:List (Ty.den TS)}{l28:List (Ty.den TOp)}(g0:0≤n0)(h0:(¬Int.tmod n0 (9:Int)=(3:Int)))(h1:(¬Int.tmod n0 (9:Int)=(4:Int)))(h2:(Int.tmod n0 (9:Int)=(5:Int)))(h3:(b0d [.k 0,.b (b0y (a0e (a0d (a0e l2))) (a0e l2)),.n (0:Int),.n n4,.b (decide (n1≥(0:Int))),.n n1,.b b7,.n n8,.b (decide (n1≥(0:Int))),.n n1,.b b11,.l TBk l12,.l TWr l13,.l TS l14,.l TOp l15,.l TB (a0d (a0e l2))])=(some (0,[.b b16,.n n17,.b b18,.n n19,.b b20,.n n21,.b b22,.n n23,.b b24,.l TBk l25,.l TWr l26,.l TS l27,.l TOp l28]))):d0r [.n n0,.n n1,.l TB l2,.l TB l3,.n n4,.b b5,.n n6,.b b7,.n n8,.b b9,.n n10,.b b11,.l TBk l12,.l TWr l13,.l TS l14,.l TOp l15]=some ((0,[.b b16,.n n17,.b b18,.n n19,.b b20,.n n21,.b b22,.n n23,.b b24,.l TBk l25,.l TWr l26,.l TS l27,.l TOp l28])):=a0h l0w (sP [1]<|sF (bf h0)<|sF (bf h1)<|sT (bt h2)<|sP [1,1,1,1,1,1]<|sA h3<|sP [1,1]<|sL)
theorem y0u {n0 n1:Int}{l2 l3:List (Ty.den TB)}{n4:Int}{b5:Bool}{n6:Int}{b7:Bool}{n8:Int}{b9:Bool}{n10:Int}{b11:Bool}{l12:List (Ty.den TBk)}{l13:List (Ty.den TWr)}{l14:List (Ty.den TS)}{l15:List (Ty.den TOp)}{b16:Bool}{n17:Int}{b18:Bool}{n19:Int}{b20:Bool}{n21:Int}{b22:Bool}{n23:Int}{b24:Bool}{l25:List (Ty.den TBk)}{l26:List (Ty.den TWr)}{l27:List (Ty.den TS)}{l28:List (Ty.den TOp)}(g0:0≤n0)(h0:(¬Int.tmod n0 (9:Int)=(3:Int)))(h1:(¬Int.tmod n0 (9:Int)=(4:Int)))(h2:(¬Int.tmod n0 (9:Int)=(5:Int)))(h3:(Int.tmod n0 (9:Int)=(6:Int)))(h4:(b0d [.k 0,.b (b0y (a0e (a0d (a0e l2))) (a0e l2)),.n (0:Int),.n n4,.b false,.n n6,.b true,.n n8,.b false,.n n10,.b true,.l TBk l12,.l TWr l13,.l TS l14,.l TOp l15,.l TB (a0d (a0e l2))])=(some (0,[.b b16,.n n17,.b b18,.n n19,.b b20,.n n21,.b b22,.n n23,.b b24,.l TBk l25,.l TWr l26,.l TS l27,.l TOp l28]))):d0r [.n n0,.n n1,.l TB l2,.l TB l3,.n n4,.b b5,.n n6,.b b7,.n n8,.b b9,.n n10,.b b11,.l TBk l12,.l TWr l13,.l TS l14,.l TOp l15]=some ((0,[.b b16,.n n17,.b b18,.n n19,.b b20,.n n21,.b b22,.n n23,.b b24,.l TBk l25,.l TWr l26,.l TS l27,.l TOp l28])):=a0h l0w (sP [1]<|sF (bf h0)<|sF (bf h1)<|sF (bf h2)<|sT (bt h3)<|sP [1,1,1,1,1,1]<|sA h4<|sP [1,1]<|sL)
theorem x0t {n0 n1:Int}{l2 l3:List (Ty.den TB)}{n4:Int}{b5:Bool}{n6:Int}{b7:Bool}{n8:Int}{b9:Bool}{n10:Int}{b11:Bool}{l12:List (Ty.den TBk)}{l13:List (Ty.den TWr)}{l14:List (Ty.den TS)}{l15:List (Ty.den TOp)}{n16:Int}{b17:Bool}{n18:Int}{b19:Bool}{l20:List (Ty.den TBk)}{l21:List (Ty.den TWr)}{n22:Int}{b23:Bool}{n24:Int}{b25:Bool}{l26:List (Ty.den TS)}{l27:List (Ty.den TOp)}{b28:Bool}{n29:Int}{b30:Bool}{n31:Int}{b32:Bool}{n33:Int}{b34:Bool}{n35:Int}{b36:Bool}{l37:List (Ty.den TBk)}{l38:List (Ty.den TWr)}{l39:List (Ty.den TS)}{l40:List (Ty.den TOp)}(g0:0≤n0)(h0:(¬Int.tmod n0 (9:Int)=(3:Int)))(h1:(¬Int.tmod n0 (9:Int)=(4:Int)))(h2:(¬Int.tmod n0 (9:Int)=(5:Int)))(h3:(¬Int.tmod n0 (9:Int)=(6:Int)))(h4:(Int.tmod n0 (9:Int)=(7:Int)))(h5:(n0o [.l TB l3,.n n4,.b b5,.n n6,.b b7,.l TBk l12,.l TWr l13])=(some (0,[.n n16,.b b17,.n n18,.b b19,.l TBk l20,.l TWr l21])))(h6:(o0p [.l TB l3,.n n8,.b b9,.n n10,.b b11,.l TS l14,.l TOp l15])=(some (0,[.n n22,.b b23,.n n24,.b b25,.l TS l26,.l TOp l27])))(h7:(b0d [.k 0,.b (b0y (a0e (a0d (a0e l2))) (a0e l2)),.n (0:Int),.n n16,.b b17,.n n18,.b b19,.n n22,.b b23,.n n24,.b b25,.l TBk l20,.l TWr l13,.l TS l26,.l TOp l15,.l TB (a0d (a0e l2))])=(some (0,[.b b28,.n n29,.b b30,.n n31,.b b32,.n n33,.b b34,.n n35,.b b36,.l TBk l37,.l TWr l38,.l TS l39,.l TOp l40]))):d0r [.n n0,.n n1,.l TB l2,.l TB l3,.n n4,.b b5,.n n6,.b b7,.n n8,.b b9,.n n10,.b b11,.l TBk l12,.l TWr l13,.l TS l14,.l TOp l15]=some ((0,[.b b28,.n n29,.b b30,.n n31,.b b32,.n n33,.b b34,.n n35,.b b36,.l TBk l37,.l TWr l38,.l TS l39,.l TOp l40])):=a0h l0w (sP [1]<|sF (bf h0)<|sF (bf h1)<|sF (bf h2)<|sF (bf h3)<|sT (bt h4)<|sP [1]<|sA h5<|sP [1,1,1]<|sA h6<|sP [1,1,1]<|sA h7<|sP [1,1]<|sL)
theorem y0q {n0 n1:Int}{l2 l3:List (Ty.den TB)}{n4:Int}{b5:Bool}{n6:Int}{b7:Bool}{n8:Int}{b9:Bool}{n10:Int}{b11:Bool}{l12:List (Ty.den TBk)}{l13:List (Ty.den TWr)}{l14:List (Ty.den TS)}{l15:List (Ty.den TOp)}{n16:Int}{b17:Bool}{n18:Int}{b19:Bool}{l20:List (Ty.den TBk)}{l21:List (Ty.den TWr)}{n22:Int}{b23:Bool}{n24:Int}{b25:Bool}{l26:List (Ty.den TS)}{l27:List (Ty.den TOp)}{b28:Bool}{n29:Int}{b30:Bool}{n31:Int}{b32:Bool}{n33:Int}{b34:Bool}{n35:Int}{b36:Bool}{l37:List (Ty.den TBk)}{l38:List (Ty.den TS)}{l39:List (Ty.den TWr)}{l40:List (Ty.den TOp)}(g0:0≤n0)(h0:(¬Int.tmod n0 (9:Int)=(3:Int)))(h1:(¬Int.tmod n0 (9:Int)=(4:Int)))(h2:(¬Int.tmod n0 (9:Int)=(5:Int)))(h3:(¬Int.tmod n0 (9:Int)=(6:Int)))(h4:(Int.tmod n0 (9:Int)=(7:Int)))(h5:(n0o [.l TB l3,.n n4,.b b5,.n n6,.b b7,.l TBk l12,.l TWr l13])=(some (1,[.n n16,.b b17,.n n18,.b b19,.l TBk l20,.l TWr l21])))(h6:(o0p [.l TB l3,.n n8,.b b9,.n n10,.b b11,.l TS l14,.l TOp l15])=(some (1,[.n n22,.b b23,.n n24,.b b25,.l TS l26,.l TOp l27])))(h7:(b0d [.k 1,.b (b0y (a0e (a0d (a0e l2))) (a0e l2)),.n (0:Int),.n n16,.b b17,.n n18,.b b19,.n n22,.b b23,.n n24,.b b25,.l TBk l20,.l TS l26,.l TB (a0d (a0e l2)),.l TWr l21,.l TOp l27])=(some (1,[.b b28,.n n29,.b b30,.n n31,.b b32,.n n33,.b b34,.n n35,.b b36,.l TBk l37,.l TS l38,.l TWr l39,.l TOp l40]))):d0r [.n n0,.n n1,.l TB l2,.l TB l3,.n n4,.b b5,.n n6,.b b7,.n n8,.b b9,.n n10,.b b11,.l TBk l12,.l TWr l13,.l TS l14,.l TOp l15]=some ((1,[.b b28,.n n29,.b b30,.n n31,.b b32,.n n33,.b b34,.n n35,.b b36,.l TBk l37,.l TS l38,.l TWr l39,.l TOp l40])):=a0h l0w (sP [1]<|sF (bf h0)<|sF (bf h1)<|sF (bf h2)<|sF (bf h3)<|sT (bt h4)<|sP [1]<|sA h5<|sP [0,1,1,1]<|sA h6<|sP [0,1,1,1]<|sA h7<|sP [0,1,1]<|sL)
theorem z0k {n0 n1:Int}{l2 l3:List (Ty.den TB)}{n4:Int}{b5:Bool}{n6:Int}{b7:Bool}{n8:Int}{b9:Bool}{n10:Int}{b11:Bool}{l12:List (Ty.den TBk)}{l13:List (Ty.den TWr)}{l14:List (Ty.den TS)}{l15:List (Ty.den TOp)}{n16 n17:Int}{b18:Bool}{n19:Int}{b20:Bool}{l21:List (Ty.den TB)}{l22:List (Ty.den TBk)}{l23:List (Ty.den TWr)}{n24 n25:Int}{b26:Bool}{n27:Int}{b28:Bool}{l29:List (Ty.den TS)}{l30:List (Ty.den TOp)}{b31:Bool}{n32:Int}{b33:Bool}{n34:Int}{b35:Bool}{n36:Int}{b37:Bool}{n38:Int}{b39:Bool}{l40:List (Ty.den TBk)}{l41:List (Ty.den TWr)}{l42:List (Ty.den TS)}{l43:List (Ty.den TOp)}(g0:0≤n0)(h0:(¬Int.tmod n0 (9:Int)=(3:Int)))(h1:(¬Int.tmod n0 (9:Int)=(4:Int)))(h2:(¬Int.tmod n0 (9:Int)=(5:Int)))(h3:(¬Int.tmod n0 (9:Int)=(6:Int)))(h4:(¬Int.tmod n0 (9:Int)=(7:Int)))(h5:(d0z [.n n1,.n n4,.b b5,.n n6,.b b7,.l TB (a0d (a0e l2)),.l TBk l12,.l TWr l13])=(some (0,[.n n16,.n n17,.b b18,.n n19,.b b20,.l TB l21,.l TBk l22,.l TWr l23])))(h6:(h0j [.n n1,.s (a0e l2),.n n8,.b b9,.n n10,.b b11,.l TS l14,.l TOp l15])=(some (0,[.n n24,.n n25,.b b26,.n n27,.b b28,.l TS l29,.l TOp l30])))(h7:(n16=n24))(h8:(b0d [.k 0,.b (b0y (a0e (a0d (a0e l2))) (a0e l2)),.n (0:Int),.n n17,.b b18,.n n19,.b b20,.n n25,.b b26,.n n27,.b b28,.l TBk l12,.l TWr l23,.l TS l14,.l TOp l30,.l TB (a0d (a0e l2))])=(some (0,[.b b31,.n n32,.b b33,.n n34,.b b35,.n n36,.b b37,.n n38,.b b39,.l TBk l40,.l TWr l41,.l TS l42,.l TOp l43]))):d0r [.n n0,.n n1,.l TB l2,.l TB l3,.n n4,.b b5,.n n6,.b b7,.n n8,.b b9,.n n10,.b b11,.l TBk l12,.l TWr l13,.l TS l14,.l TOp l15]=some ((0,[.b b31,.n n32,.b b33,.n n34,.b b35,.n n36,.b b37,.n n38,.b b39,.l TBk l40,.l TWr l41,.l TS l42,.l TOp l43])):=a0h l0w (sP [1]<|sF (bf h0)<|sF (bf h1)<|sF (bf h2)<|sF (bf h3)<|sF (bf h4)<|sP [1]<|sA h5<|sP [1,1,1]<|sA h6<|sP [1,1,1]<|sT (bt h7)<|sA h8<|sP [1,1]<|sL)
def b1a:FuncId→Option a0i:=f0e 12 [S_d12.k d0r] w0e
theorem s0t:CsOk Try.prog b1a:=csA1 m0y l0w
def R_3_5:LSh:={K:=0,log:=[],ins:=[(sh 81 [(1,.imm a0f 0),(5,.ptr 0 0),(6,.ptr 1 0),(7,.int .i64 1)],[dkB 2 3 2,dkB 4 5 6,.arr TBk 10,.arr TWr 11,.arr TS 12,.arr TOp 13])],nils:=[],outs:=[(.exit 0,sh 81 [],[]),(.ret,sh 81 [(4,.bool 0)],[])],cv:=[]}
def j0u:List Dat→Tree Step:=evL b1a 3 5 ls0 R_3_5
theorem h1w: ∃op,IsL j0u 3 5 R_3_5 op:=bxL s0t (LsOk.none _ _ _)
def op_3_5:OpA:=opL h1w
theorem f1v (env:List Dat):op_3_5 env=b0n j0u FU env:=e0v h1w env
abbrev Bx_3_5:MBox:=boxL h1w
theorem b1x {l0:List (Ty.den a0f)}{n1 n2:Int}{b3:Bool}{n4:Int}{b5:Bool}{n6:Int}{b7:Bool}{n8:Int}{b9:Bool}{l10:List (Ty.den TBk)}{l11:List (Ty.den TWr)}{l12:List (Ty.den TS)}{l13:List (Ty.den TOp)}{n14:Int}{b15:Bool}{n16:Int}{b17:Bool}{l18:List (Ty.den TS)}{l19:List (Ty.den TOp)}{n20:Int}{b21:Bool}{n22:Int}{b23:Bool}{l24:List (Ty.den TS)}{l25:List (Ty.den TOp)}{n26:Int}{b27:Bool}{n28:Int}{b29:Bool}{l30:List (Ty.den TBk)}{l31:List (Ty.den TWr)}{n32:Int}{b33:Bool}{n34:Int}{b35:Bool}{l36:List (Ty.den TBk)}{l37:List (Ty.den TWr)}{b38:Bool}{n39:Int}{b40:Bool}{n41:Int}{b42:Bool}{n43:Int}{b44:Bool}{n45:Int}{b46:Bool}{l47:List (Ty.den TBk)}{l48:List (Ty.den TWr)}{l49:List (Ty.den TS)}{l50:List (Ty.den TOp)}{b51:Bool}{n52:Int}{b53:Bool}{n54:Int}{b55:Bool}{n56:Int}{b57:Bool}{n58:Int}{b59:Bool}{l60:List (Ty.den TBk)}{l61:List (Ty.den TWr)}{l62:List (Ty.den TS)}{l63:List (Ty.den TOp)}(g0:0≤n1)(h0:(n1<(↑(List.length l0):Int)))(h1:(Int.tmod (Prod.fst (List.getD l0 (Int.toNat n1) (Ty.dflt a0f))) (9:Int)=(8:Int)))(h2:(r0a [.n n6,.b b7,.n n8,.b b9,.l TS l12,.l TOp l13])=(some (0,[.n n14,.b b15,.n n16,.b b17,.l TS l18,.l TOp l19,.n n20,.b b21,.n n22,.b b23,.l TS l24,.l TOp l25])))(h3:(s0h [.n n2,.b b3,.n n4,.b b5,.l TBk l10,.l TWr l11])=(some (0,[.n n26,.b b27,.n n28,.b b29,.l TBk l30,.l TWr l31,.n n32,.b b33,.n n34,.b b35,.l TBk l36,.l TWr l37])))(h4:(d0r [.n (IntKind.wrap .u8 (Int.tdiv (Prod.fst (List.getD l0 (Int.toNat n1) (Ty.dflt a0f))) (9:Int))),.n (Prod.fst (Prod.snd (List.getD l0 (Int.toNat n1) (Ty.dflt a0f)))),.l TB (Prod.fst (Prod.snd (Prod.snd (List.getD l0 (Int.toNat n1) (Ty.dflt a0f))))),.l TB [],.n n32,.b b33,.n n34,.b b35,.n n6,.b b7,.n n8,.b b9,.l TBk l36,.l TWr l37,.l TS l12,.l TOp l13])=(some (0,[.b b38,.n n39,.b b40,.n n41,.b b42,.n n43,.b b44,.n n45,.b b46,.l TBk l47,.l TWr l48,.l TS l49,.l TOp l50])))(h5:(b38=true))(h6:(m0u [.n n2,.b b3,.n n4,.b b5,.n n20,.b b21,.n n22,.b b23,.l TBk l10,.l TWr l11,.l TS l24,.l TOp l25])=(some (0,[.b b51,.n n52,.b b53,.n n54,.b b55,.n n56,.b b57,.n n58,.b b59,.l TBk l60,.l TWr l61,.l TS l62,.l TOp l63])))(h7:(b51=true)):(j0u [.k 0,.l a0f l0,.n n1,.n n2,.b b3,.n n4,.b b5,.n n6,.b b7,.n n8,.b b9,.l TBk l10,.l TWr l11,.l TS l12,.l TOp l13]).sel=some (Step.go [.k 0,.l a0f l0,.n (IntKind.wrap .i64 (n1+(1:Int))),.n n39,.b b40,.n n41,.b b42,.n n43,.b b44,.n n45,.b b46,.l TBk l47,.l TWr l48,.l TS l49,.l TOp l50]):=sP [1]<|sT (dt h0)<|sTo (c:=(inR n1 (List.length l0)))<|sP [1]<|sT (bt h1)<|sP [1]<|sA h2<|sP [1,1,1]<|sA h3<|sP [1,1]<|sTo (c:=(inR n1 (List.length l0)))<|sP [1]<|sTo (c:=(inR n1 (List.length l0)))<|sTo (c:=(inR n1 (List.length l0)))<|sP [1]<|sA h4<|sP [1,1]<|sF (nt h5)<|sP [1]<|sA h6<|sP [1,1,1]<|sF (nt h7)<|sP [1]<|sL
theorem a1m {l0:List (Ty.den a0f)}{n1 n2:Int}{b3:Bool}{n4:Int}{b5:Bool}{n6:Int}{b7:Bool}{n8:Int}{b9:Bool}{l10:List (Ty.den TBk)}{l11:List (Ty.den TWr)}{l12:List (Ty.den TS)}{l13:List (Ty.den TOp)}{n14:Int}{b15:Bool}{n16:Int}{b17:Bool}{l18:List (Ty.den TS)}{l19:List (Ty.den TOp)}{n20:Int}{b21:Bool}{n22:Int}{b23:Bool}{l24:List (Ty.den TS)}{l25:List (Ty.den TOp)}{n26:Int}{b27:Bool}{n28:Int}{b29:Bool}{l30:List (Ty.den TBk)}{l31:List (Ty.den TWr)}{n32:Int}{b33:Bool}{n34:Int}{b35:Bool}{l36:List (Ty.den TBk)}{l37:List (Ty.den TWr)}{b38:Bool}{n39:Int}{b40:Bool}{n41:Int}{b42:Bool}{n43:Int}{b44:Bool}{n45:Int}{b46:Bool}{l47:List (Ty.den TBk)}{l48:List (Ty.den TS)}{l49:List (Ty.den TWr)}{l50:List (Ty.den TOp)}{b51:Bool}{n52:Int}{b53:Bool}{n54:Int}{b55:Bool}{n56:Int}{b57:Bool}{n58:Int}{b59:Bool}{l60:List (Ty.den TBk)}{l61:List (Ty.den TWr)}{l62:List (Ty.den TS)}{l63:List (Ty.den TOp)}(g0:0≤n1)(h0:(n1<(↑(List.length l0):Int)))(h1:(Int.tmod (Prod.fst (List.getD l0 (Int.toNat n1) (Ty.dflt a0f))) (9:Int)=(8:Int)))(h2:(r0a [.n n6,.b b7,.n n8,.b b9,.l TS l12,.l TOp l13])=(some (0,[.n n14,.b b15,.n n16,.b b17,.l TS l18,.l TOp l19,.n n20,.b b21,.n n22,.b b23,.l TS l24,.l TOp l25])))(h3:(s0h [.n n2,.b b3,.n n4,.b b5,.l TBk l10,.l TWr l11])=(some (0,[.n n26,.b b27,.n n28,.b b29,.l TBk l30,.l TWr l31,.n n32,.b b33,.n n34,.b b35,.l TBk l36,.l TWr l37])))(h4:(d0r [.n (IntKind.wrap .u8 (Int.tdiv (Prod.fst (List.getD l0 (Int.toNat n1) (Ty.dflt a0f))) (9:Int))),.n (Prod.fst (Prod.snd (List.getD l0 (Int.toNat n1) (Ty.dflt a0f)))),.l TB (Prod.fst (Prod.snd (Prod.snd (List.getD l0 (Int.toNat n1) (Ty.dflt a0f))))),.l TB [],.n n32,.b b33,.n n34,.b b35,.n n6,.b b7,.n n8,.b b9,.l TBk l36,.l TWr l37,.l TS l12,.l TOp l13])=(some (1,[.b b38,.n n39,.b b40,.n n41,.b b42,.n n43,.b b44,.n n45,.b b46,.l TBk l47,.l TS l48,.l TWr l49,.l TOp l50])))(h5:(b38=true))(h6:(m0u [.n n2,.b b3,.n n4,.b b5,.n n20,.b b21,.n n22,.b b23,.l TBk l10,.l TWr l11,.l TS l24,.l TOp l25])=(some (0,[.b b51,.n n52,.b b53,.n n54,.b b55,.n n56,.b b57,.n n58,.b b59,.l TBk l60,.l TWr l61,.l TS l62,.l TOp l63])))(h7:(b51=true)):(j0u [.k 0,.l a0f l0,.n n1,.n n2,.b b3,.n n4,.b b5,.n n6,.b b7,.n n8,.b b9,.l TBk l10,.l TWr l11,.l TS l12,.l TOp l13]).sel=some (Step.go [.k 0,.l a0f l0,.n (IntKind.wrap .i64 (n1+(1:Int))),.n n39,.b b40,.n n41,.b b42,.n n43,.b b44,.n n45,.b b46,.l TBk l47,.l TWr l49,.l TS l48,.l TOp l50]):=sP [1]<|sT (dt h0)<|sTo (c:=(inR n1 (List.length l0)))<|sP [1]<|sT (bt h1)<|sP [1]<|sA h2<|sP [1,1,1]<|sA h3<|sP [1,1]<|sTo (c:=(inR n1 (List.length l0)))<|sP [1]<|sTo (c:=(inR n1 (List.length l0)))<|sTo (c:=(inR n1 (List.length l0)))<|sP [1]<|sA h4<|sP [0,1,1]<|sF (nt h5)<|sP [1]<|sA h6<|sP [1,1,1]<|sF (nt h7)<|sP [1]<|sL
theorem y0k {l0:List (Ty.den a0f)}{n1 n2:Int}{b3:Bool}{n4:Int}{b5:Bool}{n6:Int}{b7:Bool}{n8:Int}{b9:Bool}{l10:List (Ty.den TBk)}{l11:List (Ty.den TWr)}{l12:List (Ty.den TS)}{l13:List (Ty.den TOp)}{b14:Bool}{n15:Int}{b16:Bool}{n17:Int}{b18:Bool}{n19:Int}{b20:Bool}{n21:Int}{b22:Bool}{l23:List (Ty.den TBk)}{l24:List (Ty.den TWr)}{l25:List (Ty.den TS)}{l26:List (Ty.den TOp)}{b27:Bool}{n28:Int}{b29:Bool}{n30:Int}{b31:Bool}{n32:Int}{b33:Bool}{n34:Int}{b35:Bool}{l36:List (Ty.den TBk)}{l37:List (Ty.den TWr)}{l38:List (Ty.den TS)}{l39:List (Ty.den TOp)}(g0:0≤n1)(h0:(n1<(↑(List.length l0):Int)))(h1:(¬Int.tmod (Prod.fst (List.getD l0 (Int.toNat n1) (Ty.dflt a0f))) (9:Int)=(8:Int)))(h2:(d0r [.n (Prod.fst (List.getD l0 (Int.toNat n1) (Ty.dflt a0f))),.n (Prod.fst (Prod.snd (List.getD l0 (Int.toNat n1) (Ty.dflt a0f)))),.l TB (Prod.fst (Prod.snd (Prod.snd (List.getD l0 (Int.toNat n1) (Ty.dflt a0f))))),.l TB (Prod.snd (Prod.snd (Prod.snd (List.getD l0 (Int.toNat n1) (Ty.dflt a0f))))),.n n2,.b b3,.n n4,.b b5,.n n6,.b b7,.n n8,.b b9,.l TBk l10,.l TWr l11,.l TS l12,.l TOp l13])=(some (0,[.b b14,.n n15,.b b16,.n n17,.b b18,.n n19,.b b20,.n n21,.b b22,.l TBk l23,.l TWr l24,.l TS l25,.l TOp l26])))(h3:(b14=true))(h4:(m0u [.n n15,.b b16,.n n17,.b b18,.n n19,.b b20,.n n21,.b b22,.l TBk l23,.l TWr l24,.l TS l25,.l TOp l26])=(some (0,[.b b27,.n n28,.b b29,.n n30,.b b31,.n n32,.b b33,.n n34,.b b35,.l TBk l36,.l TWr l37,.l TS l38,.l TOp l39])))(h5:(b27=true)):(j0u [.k 0,.l a0f l0,.n n1,.n n2,.b b3,.n n4,.b b5,.n n6,.b b7,.n n8,.b b9,.l TBk l10,.l TWr l11,.l TS l12,.l TOp l13]).sel=some (Step.go [.k 0,.l a0f l0,.n (IntKind.wrap .i64 (n1+(1:Int))),.n n15,.b b16,.n n17,.b b18,.n n19,.b b20,.n n21,.b b22,.l TBk l23,.l TWr l24,.l TS l25,.l TOp l26]):=sP [1]<|sT (dt h0)<|sTo (c:=(inR n1 (List.length l0)))<|sP [1]<|sF (bf h1)<|sTo (c:=(inR n1 (List.length l0)))<|sP [1]<|sA h2<|sP [1,1]<|sF (nt h3)<|sP [1]<|sA h4<|sP [1,1]<|sF (nt h5)<|sP [1]<|sL
theorem x0w {l0:List (Ty.den a0f)}{n1 n2:Int}{b3:Bool}{n4:Int}{b5:Bool}{n6:Int}{b7:Bool}{n8:Int}{b9:Bool}{l10:List (Ty.den TBk)}{l11:List (Ty.den TWr)}{l12:List (Ty.den TS)}{l13:List (Ty.den TOp)}{b14:Bool}{n15:Int}{b16:Bool}{n17:Int}{b18:Bool}{n19:Int}{b20:Bool}{n21:Int}{b22:Bool}{l23:List (Ty.den TBk)}{l24:List (Ty.den TS)}{l25:List (Ty.den TWr)}{l26:List (Ty.den TOp)}{b27:Bool}{n28:Int}{b29:Bool}{n30:Int}{b31:Bool}{n32:Int}{b33:Bool}{n34:Int}{b35:Bool}{l36:List (Ty.den TBk)}{l37:List (Ty.den TWr)}{l38:List (Ty.den TS)}{l39:List (Ty.den TOp)}(g0:0≤n1)(h0:(n1<(↑(List.length l0):Int)))(h1:(¬Int.tmod (Prod.fst (List.getD l0 (Int.toNat n1) (Ty.dflt a0f))) (9:Int)=(8:Int)))(h2:(d0r [.n (Prod.fst (List.getD l0 (Int.toNat n1) (Ty.dflt a0f))),.n (Prod.fst (Prod.snd (List.getD l0 (Int.toNat n1) (Ty.dflt a0f)))),.l TB (Prod.fst (Prod.snd (Prod.snd (List.getD l0 (Int.toNat n1) (Ty.dflt a0f))))),.l TB (Prod.snd (Prod.snd (Prod.snd (List.getD l0 (Int.toNat n1) (Ty.dflt a0f))))),.n n2,.b b3,.n n4,.b b5,.n n6,.b b7,.n n8,.b b9,.l TBk l10,.l TWr l11,.l TS l12,.l TOp l13])=(some (1,[.b b14,.n n15,.b b16,.n n17,.b b18,.n n19,.b b20,.n n21,.b b22,.l TBk l23,.l TS l24,.l TWr l25,.l TOp l26])))(h3:(b14=true))(h4:(m0u [.n n15,.b b16,.n n17,.b b18,.n n19,.b b20,.n n21,.b b22,.l TBk l23,.l TWr l25,.l TS l24,.l TOp l26])=(some (0,[.b b27,.n n28,.b b29,.n n30,.b b31,.n n32,.b b33,.n n34,.b b35,.l TBk l36,.l TWr l37,.l TS l38,.l TOp l39])))(h5:(b27=true)):(j0u [.k 0,.l a0f l0,.n n1,.n n2,.b b3,.n n4,.b b5,.n n6,.b b7,.n n8,.b b9,.l TBk l10,.l TWr l11,.l TS l12,.l TOp l13]).sel=some (Step.go [.k 0,.l a0f l0,.n (IntKind.wrap .i64 (n1+(1:Int))),.n n15,.b b16,.n n17,.b b18,.n n19,.b b20,.n n21,.b b22,.l TBk l23,.l TWr l25,.l TS l24,.l TOp l26]):=sP [1]<|sT (dt h0)<|sTo (c:=(inR n1 (List.length l0)))<|sP [1]<|sF (bf h1)<|sTo (c:=(inR n1 (List.length l0)))<|sP [1]<|sA h2<|sP [0,1,1]<|sF (nt h3)<|sP [1]<|sA h4<|sP [1,1]<|sF (nt h5)<|sP [1]<|sL
theorem y0j {l0:List (Ty.den a0f)}{n1 n2:Int}{b3:Bool}{n4:Int}{b5:Bool}{n6:Int}{b7:Bool}{n8:Int}{b9:Bool}{l10:List (Ty.den TBk)}{l11:List (Ty.den TWr)}{l12:List (Ty.den TS)}{l13:List (Ty.den TOp)}(g0:0≤n1)(h0:(¬n1<(↑(List.length l0):Int))):(j0u [.k 0,.l a0f l0,.n n1,.n n2,.b b3,.n n4,.b b5,.n n6,.b b7,.n n8,.b b9,.l TBk l10,.l TWr l11,.l TS l12,.l TOp l13]).sel=some (Step.stop 0 []):=sP [1]<|sF (df h0)<|sP [1]<|sL
def e1e:List Dat→Tree Bool:=evW b1a 3 (lsM [(5,Bx_3_5)] 0) [.int .i64 0,.imm a0f 1]
theorem W3_law (env:List Dat)(h:(e1e env).sel=some true){w:World}{aa:Array Value}(ha:LRel R0 (a0r w) (instL [.int .i64 0,.imm a0f 1] env) aa):
  Calls Try.prog 3 aa w fun e w'=>e=.returned (.bool true)∧Below w.heap.size w w':=evW_law s0t (lsE (lsC (d0a h1w) (atF) lsZ)) env h ha
theorem g1p {n0:Int}{l1:List (Ty.den a0f)}{b2:Bool}(h0:(t0k [.l a0f l1])=(some (0,[.b b2])))(h1:(b2=true)):(e1e [.n n0,.l a0f l1]).sel=some (true):=sA h0<|sP [1,1]<|sT h1<|sP [1,1,1,1,1]<|sL
theorem h1b {n0:Int}{l1:List (Ty.den a0f)}{b2:Bool}(h0:(t0k [.l a0f l1])=(some (0,[.b b2])))(h1:(b2=false))(h2:(n0>(40:Int))):(e1e [.n n0,.l a0f l1]).sel=some (true):=sA h0<|sP [1,1]<|sF h1<|sT (dt h2)<|sP [1,1,1]<|sL
theorem g1u {n0:Int}{l1:List (Ty.den a0f)}{b2:Bool}{n3:Int}{b4:Bool}{n5:Int}{b6:Bool}{l7:List (Ty.den TBk)}{l8:List (Ty.den TWr)}{n9:Int}{b10:Bool}{n11:Int}{b12:Bool}{l13:List (Ty.den TS)}{l14:List (Ty.den TOp)}(h0:(t0k [.l a0f l1])=(some (0,[.b b2])))(h1:(b2=false))(h2:(¬n0>(40:Int)))(h3:(i1k [.n n0])=(some (0,[.n n3,.b b4,.n n5,.b b6,.l TBk l7,.l TWr l8])))(h4:(g1z [.n n0])=(some (0,[.n n9,.b b10,.n n11,.b b12,.l TS l13,.l TOp l14])))(h5:(op_3_5 [.k 0,.l a0f l1,.n (0:Int),.n n3,.b b4,.n n5,.b b6,.n n9,.b b10,.n n11,.b b12,.l TBk l7,.l TWr l8,.l TS l13,.l TOp l14])=(some (0,[]))):(e1e [.n n0,.l a0f l1]).sel=some (true):=sA h0<|sP [1,1]<|sF h1<|sF (df h2)<|sP [1]<|sA h3<|sP [1,1,1]<|sA h4<|sP [1,1]<|sA h5<|sP [1,1,1,1]<|sL
abbrev LB:=List (Ty.den TB)
abbrev LKs:=List (Ty.den TBk)
abbrev LW:=List (Ty.den TWr)
abbrev LT:=List (Ty.den TS)
abbrev LO:=List (Ty.den TOp)
def Wb (l:List Int):Prop:= ∀x∈l,0≤x∧x<256
theorem e0y (a:ByteArray):b0y a a=true:=by unfold b0y;simp
theorem ba_ext {a b:ByteArray}(h:a.data.toList=b.data.toList):a=b:=by
 cases a;cases b;congr 1;exact Array.toList_inj.1 h
theorem g0o (a:List Int):ByteArray.size (a0e a)=a.length:=by
 show(a.map _).toArray.size=a.length
 simp
theorem str_app (a b:List Int):a0e a++a0e b=a0e (a++b):=by
 apply ba_ext
 have e:(a0e a++a0e b).data=(a0e a).data++(a0e b).data:=ByteArray.data_append
 rw[e]
 show((a.map _).toArray++(b.map _).toArray).toList=((a++b).map _).toArray.toList
 simp
theorem o0w (a:List Int)(i j:Nat):(a0e a).extract i j=a0e ((a.take j).drop i):=by
 apply ba_ext
 have e:((a0e a).extract i j).data=(a0e a).data.extract i j:=ByteArray.data_extract
 rw[e]
 show((a.map _).toArray.extract i j).toList=(((a.take j).drop i).map _).toArray.toList
 simp only[Array.toList_extract,List.extract_eq_take_drop,List.map_drop,List.map_take]
 rw[List.drop_take]
theorem j0p {l:List Int}(h:Wb l):a0d (a0e l)=l:=by
 unfold a0d a0e
 rw[List.map_map]
 refine(List.map_congr_left fun x hx=> ?_).trans (List.map_id l)
 obtain⟨h0,h1⟩:=h x hx
 show(((UInt8.ofNat x.toNat).toNat:Nat):Int)=x
 rw[UInt8.toNat_ofNat']
 omega
def wI (w:Ty.den TWr):Int:=Prod.fst w
def wB (w:Ty.den TWr):List Int:=Prod.snd w
def oI (w:Ty.den TOp):Int:=Prod.fst w
def oS (w:Ty.den TOp):ByteArray:=Prod.snd w
def rB (b:Ty.den TBk):List Int:=b
def ofB (b:List Int):Ty.den TBk:=b
def fk (F:LB)(i:Nat):Int:=List.getD (α:=Int) F i 0
structure DS where
 n:Int
 A:Bool
 h:Int
 o:Bool
 K:LKs
 W:LW
def strB (b:Ty.den TBk):Ty.den TS:=a0e (rB b)
def strO (w:Ty.den TWr):Ty.den TOp:=(wI w,a0e (wB w))
def strK (K:LKs):LT:=K.map strB
def strW (W:LW):LO:=W.map strO
theorem f0n (K:LKs):(strK K).length=K.length:=List.length_map ..
theorem d0n (W:LW):(strW W).length=W.length:=List.length_map ..
abbrev kAt (K:LKs)(i:Nat):Ty.den TBk:=K.getD i (Ty.dflt TBk)
abbrev wAt (W:LW)(i:Nat):Ty.den TWr:=W.getD i (Ty.dflt TWr)
abbrev oAt (W:LO)(i:Nat):Ty.den TOp:=W.getD i (Ty.dflt TOp)
abbrev tAt (K:LT)(i:Nat):Ty.den TS:=K.getD i (Ty.dflt TS)
structure DOk (s:DS):Prop where
 kb: ∀b∈s.K,Wb (rB b)∧(rB b).length=256
 wp: ∀w∈s.W,(0:Int)≤wI w∧wI w<(s.K.length:Int)
 wb: ∀w∈s.W,Wb (wB w)∧(wB w).length=256
 ar:s.A=true→0≤s.h
 kl:s.K.length≤4096
theorem b0q {α:Type}{l:List α}{d:α}{i:Nat}(h:i<l.length):l.getD i d∈l:=by
 rw[List.getD_eq_getElem?_getD,List.getElem?_eq_getElem h];exact List.getElem_mem h
theorem g1j {α:Type}{l:List α}{d:α}{i:Nat}(h:l.length≤i):l.getD i d=d:=by
 rw[List.getD_eq_getElem?_getD,List.getElem?_eq_none h];rfl
theorem o0s {α β:Type}(f:α→β): ∀(l:List α) {i:Nat} (d:α) (e:β),i<l.length→(l.map f).getD i e=f (l.getD i d)
 |[],_,_,_,h=>absurd h (Nat.not_lt_zero _)
 |a::l,0,_,_,_=>rfl
 |a::l,i+1,d,e,h=>o0s f l (i:=i) d e (Nat.lt_of_succ_lt_succ h)
theorem e1k (K:LKs){i:Nat}(h:i<K.length):tAt (strK K) i=strB (kAt K i):=o0s strB K _ _ h
theorem p0i (W:LW){i:Nat}(h:i<W.length):oAt (strW W) i=strO (wAt W i):=o0s strO W _ _ h
theorem w0r (K:LKs)(i:Nat)(b:Ty.den TBk):strK (K.set i b)=(strK K).set i (strB b):=by
 unfold strK;rw[List.map_set]
theorem inR_t {i:Int}{n:Nat}(h0:0≤i)(h1:i<(n:Int)):inR i n=true:=by
 unfold inR;rw[decide_eq_true h0,decide_eq_true h1];rfl
theorem w1n (i:Nat)(h:i<1000000000):IntKind.wrap .i64 ((i:Int)+1)=((i+1:Nat):Int):=by rw[w64 (by omega) (by omega)];rfl
def put1 (K:LKs)(w:Ty.den TWr):LKs:=K.set (wI w).toNat (ofB (wB w))
theorem h1h (K:LKs)(w:Ty.den TWr):(put1 K w).length=K.length:=List.length_set ..
def putN (W:LW)(K:LKs):Nat→LKs
 |0=>K
 |i+1=>put1 (putN W K i) (wAt W i)
theorem g0p (W:LW)(K:LKs): ∀i,(putN W K i).length=K.length
 |0=>rfl
 |i+1=>(h1h _ _).trans (g0p W K i)
theorem a1e {α:Type}{l:List α}{i:Nat}{a x:α}(h:x∈l.set i a):x∈l∨x=a:=List.mem_or_eq_of_mem_set h
section
variable (s:DS) (hs:DOk s) (hw:s.W.length≤100000)
include hs
theorem wpos {i:Nat}(hi:i<s.W.length):inR (wI (wAt s.W i)) s.K.length=true:=by
 obtain⟨h0,h1⟩:=hs.wp _ (b0q (d:=Ty.dflt TWr) hi)
 exact inR_t h0 h1
theorem f1p: ∀i,i≤s.W.length→ ∀b∈putN s.W s.K i,Wb (rB b)∧(rB b).length=256
 |0,_,b,hb=>hs.kb b hb
 |i+1,hi,b,hb=>by
  rcases a1e hb with h|rfl
  ·exact f1p i (by omega) b h
  ·exact hs.wb _ (b0q (d:=Ty.dflt TWr) (by omega))
include hw
theorem d44l (n:Int)(a:Bool)(h:Int)(o:Bool):p0e [.k 0,.n (s.W.length:Int),.n 0,.n n,.b a,.n h,.b o,.l TBk s.K,.l TWr s.W]=some (0,[.n n,.b a,.n h,.b o,.l TBk (putN s.W s.K s.W.length),.l TWr s.W]):=by
 rw[t0q]
 refine c0k (st:=i0g) (fun i=>[.k 0,.n (s.W.length:Int),.n (i:Int),.n n,.b a,.n h,.b o,.l TBk (putN s.W s.K i),.l TWr s.W]) s.W.length (0,[.n n,.b a,.n h,.b o,.l TBk (putN s.W s.K s.W.length),.l TWr s.W]) (fun i hi=> ?_) (u0a (by omega) rfl (Int.lt_irrefl _)) FU (h0r (by omega))
 show _=some (Step.go [.k 0,.n (s.W.length:Int),.n ((i+1:Nat):Int),.n n,.b a,.n h,.b o,.l TBk (putN s.W s.K (i+1)),.l TWr s.W])
 rw[←w1n i (by omega)]
 have hR:=wpos s hs hi
 rw[←g0p s.W s.K i]at hR
 exact v0m (by omega) rfl (Int.ofNat_lt.2 hi) hR
theorem d44 (n:Int)(a:Bool)(h:Int)(o:Bool):t0b [.n n,.b a,.n h,.b o,.l TBk s.K,.l TWr s.W]=some (0,[.n n,.b a,.n h,.b o,.l TBk (putN s.W s.K s.W.length),.l TWr []]):=a1k (d44l s hs hw n a h o)
theorem m28l (n:Int)(a:Bool)(h:Int)(o:Bool):k0p [.k 0,.n 0,.n n,.b a,.n h,.b o,.l TS (strK s.K),.l TOp (strW s.W)]=some (0,[.n n,.b a,.n h,.b o,.l TS (strK (putN s.W s.K s.W.length)),.l TOp (strW s.W)]):=by
 rw[v0i]
 refine c0k (st:=i0y) (fun i=>[.k 0,.n (i:Int),.n n,.b a,.n h,.b o,.l TS (strK (putN s.W s.K i)),.l TOp (strW s.W)]) s.W.length (0,[.n n,.b a,.n h,.b o,.l TS (strK (putN s.W s.K s.W.length)),.l TOp (strW s.W)]) (fun i hi=> ?_) (t0r (by omega) (by rw[d0n];exact Int.lt_irrefl _)) FU (h0r (by omega))
 show _=some (Step.go [.k 0,.n ((i+1:Nat):Int),.n n,.b a,.n h,.b o,.l TS (strK (putN s.W s.K (i+1))),.l TOp (strW s.W)])
 rw[←w1n i (by omega)]
 have e:strK (putN s.W s.K (i+1))=(strK (putN s.W s.K i)).set (oI (oAt (strW s.W) i)).toNat (oS (oAt (strW s.W) i)):=by
  rw[p0i _ hi];exact w0r ..
 have hRm:inR (oI (oAt (strW s.W) i)) (strK (putN s.W s.K i)).length=true:=by rw[f0n,g0p,p0i _ hi];exact wpos s hs hi
 rw[e]
 exact v0j (by omega) (by rw[d0n];exact Int.ofNat_lt.2 hi) hRm
end
def putK (k:Int)(b old:List Int):List Int:=if k=255 then b else b.take k.toNat++old.drop k.toNat
def put2 (F:LB)(i:Nat)(K:LKs)(w:Ty.den TWr):LKs:=K.set (wI w).toNat (ofB (putK (fk F i) (wB w) (rB (kAt K (wI w).toNat))))
theorem h1m (F:LB)(i:Nat)(K:LKs)(w:Ty.den TWr):(put2 F i K w).length=K.length:=List.length_set ..
def putF (F:LB)(W:LW)(K:LKs):Nat→LKs
 |0=>K
 |i+1=>put2 F i (putF F W K i) (wAt W i)
theorem f0r (F:LB)(W:LW)(K:LKs): ∀i,(putF F W K i).length=K.length
 |0=>rfl
 |i+1=>(h1m ..).trans (f0r F W K i)
theorem putK_ok {k:Int}{b old:List Int}(h0:0≤k)(h1:k<256)(hb:Wb b∧b.length=256)(ho:Wb old∧old.length=256):Wb (putK k b old)∧(putK k b old).length=256:=by
 unfold putK
 split
 ·exact hb
 ·refine⟨fun x hx=> ?_,?_⟩
  ·rcases List.mem_append.1 hx with h|h
   ·exact hb.1 x (List.mem_of_mem_take h)
   ·exact ho.1 x (List.mem_of_mem_drop h)
  ·rw[List.length_append,List.length_take,List.length_drop];omega
theorem fk_ge {F:LB}{i:Nat}(h:F.length≤i):fk F i=0:=by
 exact g1j (α:=Int) h
theorem v0p {F:LB}(hF:Wb F)(i:Nat):0≤fk F i∧fk F i<256:=by
 rcases Nat.lt_or_ge i F.length with h|h
 ·exact hF _ (b0q (α:=Int) h)
 ·rw[fk_ge h];omega
theorem ext2 (b old:List Int)(k:Nat):(a0e b).extract 0 k++(a0e old).extract k (Int.toNat ((a0e old).size:Int))=a0e (b.take k++old.drop k):=by
 rw[o0w,o0w,str_app,g0o,Int.toNat_natCast,List.take_length,List.drop_zero]
theorem d1s (b old:List Int)(k:Nat)(hb:b.length=256)(ho:old.length=256):((a0e b).extract 0 k).size+((a0e old).extract k (Int.toNat ((a0e old).size:Int))).size≤9223372036854775807:=by
 rw[o0w,o0w,g0o,g0o,List.length_drop,List.length_drop,List.length_take,List.length_take];omega
section
variable (s:DS) (hs:DOk s) (hw:s.W.length≤100000) (F:LB) (hF:Wb F)
include hs hF
theorem q0c: ∀i,i≤s.W.length→ ∀b∈putF F s.W s.K i,Wb (rB b)∧(rB b).length=256
 |0,_,b,hb=>hs.kb b hb
 |i+1,hi,b,hb=>by
  rcases a1e hb with h|rfl
  ·exact q0c i (by omega) b h
  ·obtain⟨p0,p1⟩:=hs.wp (wAt s.W i) (b0q (show i<s.W.length by omega))
   obtain⟨f0,f1⟩:=v0p hF i
   exact putK_ok f0 f1 (hs.wb _ (b0q (by omega))) (q0c i (by omega) _ (b0q (by rw[f0r];omega)))
include hw
theorem d41l (n:Int)(a:Bool)(h:Int)(o:Bool):p0x [.k 0,.n (s.W.length:Int),.n 0,.n n,.b a,.n h,.b o,.l TB F,.l TBk s.K,.l TWr s.W]=some (0,[.n n,.b a,.n h,.b o,.l TB F,.l TBk (putF F s.W s.K s.W.length),.l TWr s.W]):=by
 rw[u0w]
 refine c0k (st:=f0j) (fun i=>[.k 0,.n (s.W.length:Int),.n (i:Int),.n n,.b a,.n h,.b o,.l TB F,.l TBk (putF F s.W s.K i),.l TWr s.W]) s.W.length (0,[.n n,.b a,.n h,.b o,.l TB F,.l TBk (putF F s.W s.K s.W.length),.l TWr s.W]) (fun i hi=> ?_) (v0v (by omega) rfl (Int.lt_irrefl _)) FU (h0r (by omega))
 show _=some (Step.go [.k 0,.n (s.W.length:Int),.n ((i+1:Nat):Int),.n n,.b a,.n h,.b o,.l TB F,.l TBk (putF F s.W s.K (i+1)),.l TWr s.W])
 rw[←w1n i (by omega)]
 have hR:=wpos s hs hi
 rw[←f0r F s.W s.K i]at hR
 obtain⟨f0,f1⟩:=v0p hF i
 have hb:=hs.wb _ (b0q (d:=Ty.dflt TWr) hi)
 have e0:putF F s.W s.K (i+1)=put2 F i (putF F s.W s.K i) (wAt s.W i):=rfl
 rcases Nat.lt_or_ge i F.length with q|q
 ·by_cases k:fk F i=255
  ·have e:putF F s.W s.K (i+1)=List.set (putF F s.W s.K i) (wI (wAt s.W i)).toNat (ofB (wB (wAt s.W i))):=by
    rw[e0];unfold put2 putK;rw[if_pos k]
   rw[e]
   exact v0r (by omega) rfl (Int.ofNat_lt.2 hi) (Int.ofNat_lt.2 q) k hR
  ·have e:putF F s.W s.K (i+1)=List.set (putF F s.W s.K i) (wI (wAt s.W i)).toNat (ofB (List.take (fk F i).toNat (List.take (fk F i).toNat (wB (wAt s.W i)))++List.drop (min (List.length (List.take (fk F i).toNat (wB (wAt s.W i)))) (fk F i).toNat) (rB (kAt (putF F s.W s.K i) (wI (wAt s.W i)).toNat)))):=by
    rw[e0];unfold put2 putK;rw[if_neg k,List.take_take,Nat.min_self]
    have:min (List.length (List.take (fk F i).toNat (wB (wAt s.W i)))) (fk F i).toNat=(fk F i).toNat:=by
     rw[List.length_take,hb.2]
     omega
    rw[this]
   rw[e]
   exact v0u (by omega) rfl (Int.ofNat_lt.2 hi) (Int.ofNat_lt.2 q) k hR (by
    show(decide (0≤fk F i)&&decide (fk F i≤256))=true
    rw[dt f0,dt (show fk F i≤256 by omega)];rfl)
 ·have e:putF F s.W s.K (i+1)=List.set (putF F s.W s.K i) (wI (wAt s.W i)).toNat (ofB ([]++List.drop 0 (rB (kAt (putF F s.W s.K i) (wI (wAt s.W i)).toNat)))):=by
   rw[e0];unfold put2 putK;rw[fk_ge q,if_neg (by omega)];rfl
  rw[e]
  exact u0l (by omega) rfl (Int.ofNat_lt.2 hi) (by omega) hR
theorem d41 (n:Int)(a:Bool)(h:Int)(o:Bool):w0t [.n n,.b a,.n h,.b o,.l TB F,.l TBk s.K,.l TWr s.W]=some (0,[.n n,.b a,.n h,.b o,.l TB F,.l TBk (putF F s.W s.K s.W.length),.l TWr []]):=c1w (d41l s hs hw F hF n a h o)
theorem m32l (n:Int)(a:Bool)(h:Int)(o:Bool):p0c [.k 0,.l TB F,.n 0,.n n,.b a,.n h,.b o,.l TS (strK s.K),.l TOp (strW s.W)]=some (0,[.n n,.b a,.n h,.b o,.l TS (strK (putF F s.W s.K s.W.length)),.l TOp (strW s.W)]):=by
 rw[u0k]
 refine c0k (st:=f0b) (fun i=>[.k 0,.l TB F,.n (i:Int),.n n,.b a,.n h,.b o,.l TS (strK (putF F s.W s.K i)),.l TOp (strW s.W)]) s.W.length (0,[.n n,.b a,.n h,.b o,.l TS (strK (putF F s.W s.K s.W.length)),.l TOp (strW s.W)]) (fun i hi=> ?_) (u0u (by omega) (by rw[d0n];exact Int.lt_irrefl _)) FU (h0r (by omega))
 show _=some (Step.go [.k 0,.l TB F,.n ((i+1:Nat):Int),.n n,.b a,.n h,.b o,.l TS (strK (putF F s.W s.K (i+1))),.l TOp (strW s.W)])
 rw[←w1n i (by omega)]
 have hR:=wpos s hs hi
 obtain⟨p0,p1⟩:=hs.wp (wAt s.W i) (b0q hi)
 obtain⟨f0,f1⟩:=v0p hF i
 have hb:=hs.wb _ (b0q (d:=Ty.dflt TWr) hi)
 have hlt:(wI (wAt s.W i)).toNat<(putF F s.W s.K i).length:=by rw[f0r];omega
 have ho:=q0c s hs F hF i (by omega) _ (b0q (d:=Ty.dflt TBk) hlt)
 have ew:=p0i s.W hi
 have hRm:inR (oI (oAt (strW s.W) i)) (strK (putF F s.W s.K i)).length=true:=by rw[f0n,f0r,ew];exact hR
 have hi2:(i:Int)<((strW s.W).length:Int):=by rw[d0n];exact Int.ofNat_lt.2 hi
 have eb:oS (oAt (strW s.W) i)=a0e (wB (wAt s.W i)):=by rw[ew];rfl
 have eo:tAt (strK (putF F s.W s.K i)) (oI (oAt (strW s.W) i)).toNat=a0e (rB (kAt (putF F s.W s.K i) (wI (wAt s.W i)).toNat)):=by
  rw[ew];exact e1k _ hlt
 generalize hX:oS (oAt (strW s.W) i)=X at eb
 generalize hO:tAt (strK (putF F s.W s.K i)) (oI (oAt (strW s.W) i)).toNat=Z at eo
 have key: ∀k:Nat,putK (fk F i) (wB (wAt s.W i)) (rB (kAt (putF F s.W s.K i) (wI (wAt s.W i)).toNat))=(wB (wAt s.W i)).take k++(rB (kAt (putF F s.W s.K i) (wI (wAt s.W i)).toNat)).drop k→
   strK (putF F s.W s.K (i+1))=List.set (strK (putF F s.W s.K i)) (oI (oAt (strW s.W) i)).toNat (ByteArray.extract (oS (oAt (strW s.W) i)) 0 k++ByteArray.extract (tAt (strK (putF F s.W s.K i)) (oI (oAt (strW s.W) i)).toNat) k (Int.toNat ((ByteArray.size (tAt (strK (putF F s.W s.K i)) (oI (oAt (strW s.W) i)).toNat):Nat):Int))):=by
  intro k hk
  rw[hX,hO,eb,eo,ext2,←hk,ew]
  exact w0r ..
 have sz: ∀k:Nat,ByteArray.size (ByteArray.extract (oS (oAt (strW s.W) i)) 0 k)+ByteArray.size (ByteArray.extract (tAt (strK (putF F s.W s.K i)) (oI (oAt (strW s.W) i)).toNat) k (Int.toNat ((ByteArray.size (tAt (strK (putF F s.W s.K i)) (oI (oAt (strW s.W) i)).toNat):Nat):Int)))≤9223372036854775807:=by
  intro k
  rw[hX,hO,eb,eo]
  exact d1s _ _ k hb.2 ho.2
 have s1:ByteArray.size (oS (oAt (strW s.W) i))=256:=by rw[hX,eb,g0o];exact hb.2
 have s2:ByteArray.size (tAt (strK (putF F s.W s.K i)) (oI (oAt (strW s.W) i)).toNat)=256:=by rw[hO,eo,g0o];exact ho.2
 have cc: ∀z:Nat,z=256→(true&&decide ((256:Int)≤(z:Int)))=true:=fun z hz=>by rw[hz];rfl
 rcases Nat.lt_or_ge i F.length with q|q
 ·have hwr:IntKind.wrap .i64 (fk F i)=fk F i:=w64 (by omega) (by omega)
  by_cases k:fk F i=255
  ·rw[key 256 (by
    unfold putK;rw[if_pos k,List.take_of_length_le (Nat.le_of_eq hb.2),List.drop_eq_nil_of_le (Nat.le_of_eq ho.2)];simp)]
   exact v0h (by omega) hi2 (Int.ofNat_lt.2 q) (hwr.trans k) (cc _ s1) hRm (cc _ s2) (sz 256)
  ·rw[key (Int.toNat (IntKind.wrap .i64 (fk F i))) (by rw[hwr];unfold putK;rw[if_neg k])]
   have kk: ∀z:Nat,z=256→(decide (0≤IntKind.wrap .i64 (fk F i))&&decide (IntKind.wrap .i64 (fk F i)≤(z:Int)))=true:=fun z hz=>by
    rw[hwr,hz,dt f0,dt (by omega)];rfl
   have k0:(true&&decide (0≤IntKind.wrap .i64 (fk F i)))=true:=by rw[hwr,dt f0];rfl
   exact v0c (by omega) hi2 (Int.ofNat_lt.2 q) (fun e=>k (hwr.symm.trans e)) (kk _ s1) k0 hRm (kk _ s2) (sz _)
 ·rw[key 0 (by unfold putK;rw[fk_ge q,if_neg (by omega)];rfl)]
  exact w0c (by omega) hi2 (by omega) hRm (sz 0)
end
theorem wmin {h:Int}(h0:0≤h)(h1:h≤9223372036854775807)(h2: ¬h=0):IntKind.wrap .i64 (h-1)=h-1:=w64 (by omega) (by omega)
structure DH (s:DS):Prop extends DOk s where
 hb:s.h≤9223372036854775807
def pad (b:List Int):List Int:=b++List.replicate (256-b.length) 0
def mkW (i:Int)(b:List Int):Ty.den TWr:=(i,b)
theorem pad_len {b:List Int}(h:b.length≤256):(pad b).length=256:=by
 unfold pad;rw[List.length_append,List.length_replicate];omega
theorem pad_wb {b:List Int}(h:Wb b):Wb (pad b):=fun x hx=>by
 rcases List.mem_append.1 hx with q|q
 ·exact h x q
 ·have:=List.eq_of_mem_replicate q;omega
theorem pad_eq {b:List Int}(h:b.length≤256):List.take 256 b++List.drop b.length (List.replicate 256 (0:Int))=pad b:=by
 unfold pad
 rw[List.take_of_length_le h,List.drop_replicate]
theorem m25 {b:List Int}(hb:Wb b)(h:b.length≤256):m0v [.s (a0e b)]=some (0,[.s (a0e (pad b))]):=by
 refine f1a (by rw[j0p hb];omega) ?_
 rw[j0p hb,v0x]
 have hl: ∀i,(b++List.replicate i (0:Int)).length=b.length+i:=fun i=>by rw[List.length_append,List.length_replicate]
 have e0:([.k 0,.l TB b]:List Dat)=[.k 0,.l TB (b++List.replicate 0 (0:Int))]:=by rw[List.replicate_zero,List.append_nil]
 rw[e0]
 refine c0k (st:=h0y) (fun i=>[.k 0,.l TB (b++List.replicate i (0:Int))]) (256-b.length) (0,[.l TB (pad b)]) (fun i hi=> ?_) (t0z (by have:=hl (256-b.length);show¬((List.length (b++List.replicate (256-b.length) (0:Int)):Nat):Int)<256;omega)) FU (h0r (by omega))
 show _=some (Step.go [.k 0,.l TB (b++List.replicate (i+1) (0:Int))])
 rw[List.replicate_succ',←List.append_assoc]
 exact u0m (by have:=hl i;show((List.length (b++List.replicate i (0:Int)):Nat):Int)<256;omega)
def b0a (s:DS)(i:Int)(b:List Int):DS×Int:=
 if s.o=true then(s,140)else if 0≤i∧i<(s.K.length:Int)then
  if 256<b.length then(s,3)else
  if s.A=true then
   if s.h=0 then(⟨IntKind.wrap .i64 (s.n+1),false,s.h,true,s.K,s.W++[mkW i (pad b)]⟩,140)
   else(⟨IntKind.wrap .i64 (s.n+1),s.A,IntKind.wrap .i64 (s.h-1),s.o,s.K,s.W++[mkW i (pad b)]⟩,0)
  else(⟨IntKind.wrap .i64 (s.n+1),s.A,s.h,s.o,s.K,s.W++[mkW i (pad b)]⟩,0)
 else(s,2)
theorem i1h (W:LW)(i:Int)(b:List Int):strW (W++[mkW i b])=strW W++[strO (mkW i b)]:=by
 unfold strW;rw[List.map_append];rfl
section
variable (s:DS) (hw:s.W.length≤100000) (i:Int) (b:List Int)
include hw
theorem d17o:d0z [.n i,.n s.n,.b s.A,.n s.h,.b s.o,.l TB b,.l TBk s.K,.l TWr s.W]=some (0,[.n (b0a s i b).2,.n (b0a s i b).1.n,.b (b0a s i b).1.A,.n (b0a s i b).1.h,.b (b0a s i b).1.o,.l TB b,.l TBk (b0a s i b).1.K,.l TWr (b0a s i b).1.W]):=by
 unfold b0a
 cases h1:s.o with
 |true=>rw[if_pos rfl];have:=y0l (n0:=i) (n1:=s.n) (b2:=s.A) (n3:=s.h) (l5:=b) (l6:=s.K) (l7:=s.W) h1;rw[h1]at this;rw[h1];exact this
 |false=>
  rw[if_neg (by decide)]
  by_cases h2:0≤i∧i<(s.K.length:Int)
  ·rw[if_pos h2]
   by_cases h3:256<b.length
   ·rw[if_pos h3,←h1];exact z0b h1 h2.1 h2.2 (by show(b.length:Int)>256;omega)
   rw[if_neg h3]
   have h3': ¬(b.length:Int)>256:=by omega
   have h4:(s.W.length+1)*264≤140737488355328:=by omega
   rw[←pad_eq (show b.length≤256 by omega)]
   cases h5:s.A with
   |true=>
    rw[if_pos rfl]
    by_cases h6:s.h=0
    ·rw[if_pos h6];exact a1b rfl h2.1 h2.2 h3' h4 rfl h6
    ·rw[if_neg h6];exact z0o rfl h2.1 h2.2 h3' h4 rfl h6
   |false=>rw[if_neg (by decide)];exact z0i rfl h2.1 h2.2 h3' h4 rfl
  ·rw[if_neg h2,←h1]
   by_cases h0:0≤i
   ·exact y0z h1 h0 (fun q=>h2 ⟨h0,q⟩)
   ·exact z0h h1 h0
end
section
variable (s:DS) (hs:DH s) (hw:s.W.length≤100000) (i:Int) (b:List Int) (hb:Wb b)
include hs
theorem b1p (hb:Wb b):DH (b0a s i b).1∧(b0a s i b).1.W.length≤s.W.length+1∧(b0a s i b).1.K.length=s.K.length:=by
 have app:0≤i∧i<(s.K.length:Int)→ ¬256<b.length→ ∀n A h o,(A=true→0≤h)→h≤9223372036854775807→DH ⟨n,A,h,o,s.K,s.W++[mkW i (pad b)]⟩:=by
  intro hi hl n A h o ha hh
  refine⟨⟨hs.kb,fun w hw=> ?_,fun w hw=> ?_,ha,hs.kl⟩,hh⟩
  ·rcases List.mem_append.1 hw with q|q
   ·exact hs.wp w q
   ·rw[List.mem_singleton.1 q];exact hi
  ·rcases List.mem_append.1 hw with q|q
   ·exact hs.wb w q
   ·rw[List.mem_singleton.1 q];exact⟨pad_wb hb,pad_len (by omega)⟩
 have l1:(s.W++[mkW i (pad b)]).length≤s.W.length+1:=by rw[List.length_append];exact Nat.le_refl _
 unfold b0a
 by_cases h1:s.o=true
 ·rw[if_pos h1];exact⟨hs,by show s.W.length≤_;omega,rfl⟩
 rw[if_neg h1]
 by_cases h2:0≤i∧i<(s.K.length:Int)
 ·rw[if_pos h2]
  by_cases h3:256<b.length
  ·rw[if_pos h3];exact⟨hs,by show s.W.length≤_;omega,rfl⟩
  rw[if_neg h3]
  by_cases h4:s.A=true
  ·rw[if_pos h4]
   have ha:=hs.ar h4
   have hh:=hs.hb
   by_cases h5:s.h=0
   ·rw[if_pos h5];exact⟨app h2 h3 _ _ _ _ (fun q=>by cases q) hs.hb,l1,rfl⟩
   ·rw[if_neg h5,wmin ha hs.hb h5];exact⟨app h2 h3 _ _ _ _ (fun _=>by omega) (by omega),l1,rfl⟩
  ·rw[if_neg h4];exact⟨app h2 h3 _ _ _ _ hs.ar hs.hb,l1,rfl⟩
 ·rw[if_neg h2];exact⟨hs,by show s.W.length≤_;omega,rfl⟩
include hw
theorem m33 (hb:Wb b):h0j [.n i,.s (a0e b),.n s.n,.b s.A,.n s.h,.b s.o,.l TS (strK s.K),.l TOp (strW s.W)]=some (0,[.n (b0a s i b).2,.n (b0a s i b).1.n,.b (b0a s i b).1.A,.n (b0a s i b).1.h,.b (b0a s i b).1.o,.l TS (strK (b0a s i b).1.K),.l TOp (strW (b0a s i b).1.W)]):=by
 have hz:((ByteArray.size (a0e b):Nat):Int)=(b.length:Int):=by rw[g0o]
 have hkl:((strK s.K).length:Int)=(s.K.length:Int):=by rw[f0n]
 unfold b0a
 cases h1:s.o with
 |true=>rw[if_pos rfl,←h1];exact a1s h1
 |false=>
  rw[if_neg (by decide)]
  by_cases h2:0≤i∧i<(s.K.length:Int)
  ·have g1: ¬i<0:=by omega
   have g2: ¬i≥((strK s.K).length:Int):=by omega
   rw[if_pos h2]
   by_cases h3:256<b.length
   ·rw[if_pos h3,←h1];exact c1g h1 g1 g2 (by omega)
   rw[if_neg h3]
   have h3': ¬((ByteArray.size (a0e b):Nat):Int)>256:=by omega
   have h4:((strW s.W).length+1)*24≤140737488355328:=by rw[d0n];omega
   have em:=m25 hb (show b.length≤256 by omega)
   have eW:=i1h s.W i (pad b)
   cases h5:s.A with
   |true=>
    rw[if_pos rfl]
    have ha:=hs.ar h5
    by_cases h6:s.h=0
    ·rw[if_pos h6]
     show _=some (0,[_,_,_,_,_,_,Dat.l TOp (strW (s.W++[mkW i (pad b)]))])
     rw[eW];exact d1q rfl g1 g2 h3' em h4 rfl (by omega)
    ·rw[if_neg h6]
     show _=some (0,[_,_,_,_,_,_,Dat.l TOp (strW (s.W++[mkW i (pad b)]))])
     rw[eW];exact a1j rfl g1 g2 h3' em h4 rfl (by omega)
   |false=>
    rw[if_neg (by decide)]
    show _=some (0,[_,_,_,_,_,_,Dat.l TOp (strW (s.W++[mkW i (pad b)]))])
    rw[eW];exact b1o rfl g1 g2 h3' em h4 rfl
  ·rw[if_neg h2,←h1]
   by_cases h0:i<0
   ·exact f1t h1 h0
   ·exact b1n h1 h0 (by omega)
end
def c0p (s:DS):DS×Int×Nat:=
 if s.o=true then(s,140,0)else
 if s.A=true then
  if s.h=0 then(⟨IntKind.wrap .i64 (s.n+1),false,s.h,true,s.K,s.W⟩,140,0)
  else(⟨IntKind.wrap .i64 (s.n+1),s.A,IntKind.wrap .i64 (s.h-1),s.o,putN s.W s.K s.W.length,[]⟩,0,1)
 else(⟨IntKind.wrap .i64 (s.n+1),s.A,s.h,s.o,putN s.W s.K s.W.length,[]⟩,0,1)
def sOn (s:DS)(F:LB):DS×Nat:=
 if s.o=true then(⟨s.n,false,s.h,false,putF F s.W s.K s.W.length,[]⟩,1)
 else(⟨s.n,false,s.h,s.o,s.K,s.W⟩,0)
def fnd (W:LW)(i:Int):Nat→Option (List Int)
 |0=>none
 |j+1=>if wI (wAt W j)=i then some (wB (wAt W j))else fnd W i j
def p0h (s:DS)(i:Int):Option (List Int)×Int:=
 if s.o=true then(none,140)else if 0≤i∧i<(s.K.length:Int)then(some ((fnd s.W i s.W.length).getD (rB (kAt s.K i.toNat))),0)else(none,2)
section
variable (s:DS) (hs:DH s) (hw:s.W.length≤100000)
include hs
theorem f1y:DH (c0p s).1∧(c0p s).1.W.length≤s.W.length∧(c0p s).1.K.length=s.K.length:=by
 have put: ∀n A h o,(A=true→0≤h)→h≤9223372036854775807→DH ⟨n,A,h,o,putN s.W s.K s.W.length,[]⟩:=fun n A h o ha hh=>
  ⟨⟨f1p s hs.toDOk _ (Nat.le_refl _),(fun w hw=>by cases hw),(fun w hw=>by cases hw),ha,by show(putN s.W s.K s.W.length).length≤4096;rw[g0p];exact hs.kl⟩,hh⟩
 unfold c0p
 by_cases h1:s.o=true
 ·rw[if_pos h1];exact⟨hs,Nat.le_refl _,rfl⟩
 rw[if_neg h1]
 by_cases h2:s.A=true
 ·have ha:=hs.ar h2
  have hh:=hs.hb
  rw[if_pos h2]
  by_cases h3:s.h=0
  ·rw[if_pos h3];exact⟨⟨⟨hs.kb,hs.wp,hs.wb,(fun q=>by cases q),hs.kl⟩,hs.hb⟩,Nat.le_refl _,rfl⟩
  ·rw[if_neg h3,wmin ha hs.hb h3];exact⟨put _ _ _ _ (fun _=>by omega) (by omega),Nat.zero_le _,g0p ..⟩
 ·rw[if_neg h2];exact⟨put _ _ _ _ hs.ar hs.hb,Nat.zero_le _,g0p ..⟩
theorem sOn_ok (F:LB)(hF:Wb F):DH (sOn s F).1∧(sOn s F).1.W.length≤s.W.length∧(sOn s F).1.K.length=s.K.length:=by
 unfold sOn
 by_cases h1:s.o=true
 ·rw[if_pos h1]
  exact⟨⟨⟨q0c s hs.toDOk F hF _ (Nat.le_refl _),(fun w hw=>by cases hw),(fun w hw=>by cases hw),(fun q=>by cases q),by show(putF F s.W s.K s.W.length).length≤4096;rw[f0r];exact hs.kl⟩,hs.hb⟩,Nat.zero_le _,f0r ..⟩
 ·rw[if_neg h1]
  exact⟨⟨⟨hs.kb,hs.wp,hs.wb,(fun q=>by cases q),hs.kl⟩,hs.hb⟩,Nat.le_refl _,rfl⟩
include hw
theorem d16:k0e [.n s.n,.b s.A,.n s.h,.b s.o,.l TBk s.K,.l TWr s.W]=some ((c0p s).2.2,[.n (c0p s).2.1,.n (c0p s).1.n,.b (c0p s).1.A,.n (c0p s).1.h,.b (c0p s).1.o,.l TBk (c0p s).1.K,.l TWr (c0p s).1.W]):=by
 unfold c0p
 cases h1:s.o with
 |true=>rw[if_pos rfl,←h1];exact b1g h1
 |false=>
  rw[if_neg (by decide)]
  cases h5:s.A with
  |true=>
   rw[if_pos rfl]
   by_cases h6:s.h=0
   ·rw[if_pos h6];exact d1w rfl rfl h6
   ·rw[if_neg h6];exact e1c rfl rfl h6 (d44 s hs.toDOk hw _ _ _ _)
  |false=>rw[if_neg (by decide)];exact e1m rfl rfl (d44 s hs.toDOk hw _ _ _ _)
theorem m28:k0h [.n s.n,.b s.A,.n s.h,.b s.o,.l TS (strK s.K),.l TOp (strW s.W)]=some ((c0p s).2.2,[.n (c0p s).2.1,.n (c0p s).1.n,.b (c0p s).1.A,.n (c0p s).1.h,.b (c0p s).1.o,.l TS (strK (c0p s).1.K),.l TOp (strW (c0p s).1.W)]):=by
 unfold c0p
 cases h1:s.o with
 |true=>rw[if_pos rfl,←h1];exact f1w h1
 |false=>
  rw[if_neg (by decide)]
  cases h5:s.A with
  |true=>
   have ha:=hs.ar h5
   rw[if_pos rfl]
   by_cases h6:s.h=0
   ·rw[if_pos h6];exact e1n rfl rfl (by omega)
   ·rw[if_neg h6];exact c1u rfl rfl (by omega) (m28l s hs.toDOk hw _ _ _ _)
  |false=>rw[if_neg (by decide)];exact b1m rfl rfl (m28l s hs.toDOk hw _ _ _ _)
theorem d19 (F:LB)(hF:Wb F):n0o [.l TB F,.n s.n,.b s.A,.n s.h,.b s.o,.l TBk s.K,.l TWr s.W]=some ((sOn s F).2,[.n (sOn s F).1.n,.b (sOn s F).1.A,.n (sOn s F).1.h,.b (sOn s F).1.o,.l TBk (sOn s F).1.K,.l TWr (sOn s F).1.W]):=by
 unfold sOn
 cases h1:s.o with
 |true=>rw[if_pos rfl];exact a1i rfl (d41 s hs.toDOk hw F hF _ _ _ _)
 |false=>rw[if_neg (by decide)];exact d1j rfl
theorem m32 (F:LB)(hF:Wb F):o0p [.l TB F,.n s.n,.b s.A,.n s.h,.b s.o,.l TS (strK s.K),.l TOp (strW s.W)]=some ((sOn s F).2,[.n (sOn s F).1.n,.b (sOn s F).1.A,.n (sOn s F).1.h,.b (sOn s F).1.o,.l TS (strK (sOn s F).1.K),.l TOp (strW (sOn s F).1.W)]):=by
 unfold sOn
 cases h1:s.o with
 |true=>rw[if_pos rfl];exact b1l rfl (m32l s hs.toDOk hw F hF _ _ _ _)
 |false=>rw[if_neg (by decide)];exact d1z rfl
end
section
variable (s:DS) (hw:s.W.length≤100000)
include hw
theorem d20l (i n:Int)(a:Bool)(h:Int)(o:Bool)(b0:List Int):o0y [.k 0,.n i,.n (s.W.length:Int),.n 0,.n n,.b a,.n h,.b o,.l TBk s.K,.l TWr s.W,.l TB b0]=some (0,[.n n,.b a,.n h,.b o,.l TBk s.K,.l TWr s.W,.l TB ((fnd s.W i s.W.length).getD b0)]):=by
 rw[u0q]
 refine c0k (st:=h0a) (fun j=>[.k 0,.n i,.n (s.W.length:Int),.n (j:Int),.n n,.b a,.n h,.b o,.l TBk s.K,.l TWr s.W,.l TB ((fnd s.W i j).getD b0)]) s.W.length (0,[.n n,.b a,.n h,.b o,.l TBk s.K,.l TWr s.W,.l TB ((fnd s.W i s.W.length).getD b0)]) (fun j hj=> ?_) (u0x (by omega) rfl (Int.lt_irrefl _)) FU (h0r (by omega))
 show _=some (Step.go [.k 0,.n i,.n (s.W.length:Int),.n ((j+1:Nat):Int),.n n,.b a,.n h,.b o,.l TBk s.K,.l TWr s.W,.l TB ((fnd s.W i (j+1)).getD b0)])
 rw[←w1n j (by omega)]
 by_cases q:wI (wAt s.W j)=i
 ·have e:(fnd s.W i (j+1)).getD b0=wB (wAt s.W j):=by unfold fnd;rw[if_pos q];rfl
  rw[e];exact v0t (by omega) rfl (Int.ofNat_lt.2 hj) q
 ·have e:fnd s.W i (j+1)=fnd s.W i j:=by show(if _ then _ else _)=_;rw[if_neg q]
  rw[e];exact t0v (by omega) rfl (Int.ofNat_lt.2 hj) q
theorem d20 (i:Int):h0k [.n i,.n s.n,.b s.A,.n s.h,.b s.o,.l TBk s.K,.l TWr s.W]=some (match(p0h s i).1 with
  |none=>(0,[.n (p0h s i).2,.n s.n,.b s.A,.n s.h,.b s.o,.l TBk s.K,.l TWr s.W])
  |some b=>(1,[.n (p0h s i).2,.n s.n,.b s.A,.n s.h,.b s.o,.l TBk s.K,.l TWr s.W,.l TB b])):=by
 unfold p0h
 cases h1:s.o with
 |true=>rw[if_pos rfl];exact f1r rfl
 |false=>
  rw[if_neg (by decide)]
  by_cases h2:0≤i∧i<(s.K.length:Int)
  ·rw[if_pos h2];exact e1a rfl h2.1 h2.2 (d20l s hw _ _ _ _ _ _)
  ·rw[if_neg h2]
   by_cases h0:0≤i
   ·exact d1e rfl h0 (fun q=>h2 ⟨h0,q⟩)
   ·exact d1y rfl h0
theorem m29l (i n:Int)(a:Bool)(h:Int)(o:Bool): ∀j,j≤s.W.length→ ∀m,j<m→b0n g0y m [.k 0,.n i,.n ((j:Int)-1),.n n,.b a,.n h,.b o,.l TS (strK s.K),.l TOp (strW s.W)]=some (match fnd s.W i j with
  |some b=>(1,[.s (a0e b),.n 0,.n n,.b a,.n h,.b o,.l TS (strK s.K),.l TOp (strW s.W)])
  |none=>(0,[.n i,.n n,.b a,.n h,.b o,.l TS (strK s.K),.l TOp (strW s.W)]))
 |0,_,m,hm=>by
  obtain⟨m,rfl⟩: ∃q,m=q+1:=⟨m-1,by omega⟩
  exact b0r (u0z (by omega))
 |j+1,hj,m,hm=>by
  obtain⟨m,rfl⟩: ∃q,m=q+1:=⟨m-1,by omega⟩
  have e1:(((j+1:Nat):Int)-1)=(j:Int):=by omega
  rw[e1]
  have ew:=p0i s.W (show j<s.W.length by omega)
  have hR:inR (j:Int) (strW s.W).length=true:=inR_t (by omega) (by rw[d0n];omega)
  by_cases q:wI (wAt s.W j)=i
  ·have e:fnd s.W i (j+1)=some (wB (wAt s.W j)):=by show(if _ then _ else _)=_;rw[if_pos q]
   rw[e]
   have eS:a0e (wB (wAt s.W j))=oS (oAt (strW s.W) j):=by rw[ew];rfl
   show _=some (1,[Dat.s (a0e (wB (wAt s.W j))),_,_,_,_,_,_,_])
   rw[eS]
   exact b0r (u0i (by omega) hR (by show oI (oAt (strW s.W) j)=i;rw[ew];exact q))
  ·have e:fnd s.W i (j+1)=fnd s.W i j:=by show(if _ then _ else _)=_;rw[if_neg q]
   rw[e]
   refine(e0l (v0l (by omega) hR (by show¬oI (oAt (strW s.W) j)=i;rw[ew];exact q))).trans ?_
   rw[show IntKind.wrap .i64 ((j:Int)-1)=(j:Int)-1 from w64 (by omega) (by omega)]
   exact m29l i n a h o j (by omega) m (by omega)
theorem m29 (i:Int):f0y [.n i,.n s.n,.b s.A,.n s.h,.b s.o,.l TS (strK s.K),.l TOp (strW s.W)]=some (0,[.s (match(p0h s i).1 with|none=>a0e []|some b=>a0e b),.n (p0h s i).2,.n s.n,.b s.A,.n s.h,.b s.o,.l TS (strK s.K),.l TOp (strW s.W)]):=by
 have hkl:((strK s.K).length:Int)=(s.K.length:Int):=by rw[f0n]
 unfold p0h
 cases h1:s.o with
 |true=>rw[if_pos rfl];exact f1c rfl
 |false=>
  rw[if_neg (by decide)]
  by_cases h2:0≤i∧i<(s.K.length:Int)
  ·rw[if_pos h2]
   have hl:=m29l s hw i s.n s.A s.h false s.W.length (Nat.le_refl _) FU (h0r (by omega))
   rw[←u0g]at hl
   have e0:IntKind.wrap .i64 (((strW s.W).length:Int)-1)=(s.W.length:Int)-1:=by rw[d0n];exact w64 (by omega) (by omega)
   rw[←e0]at hl
   cases hf:fnd s.W i s.W.length with
   |none=>
    rw[hf]at hl
    have e:a0e (rB (kAt s.K i.toNat))=tAt (strK s.K) i.toNat:=(e1k s.K (by omega)).symm
    show _=some (0,[Dat.s (a0e (rB (kAt s.K i.toNat))),_,_,_,_,_,_,_])
    rw[e]
    exact f1b rfl (by omega) (by omega) hl (inR_t h2.1 (by omega))
   |some b=>rw[hf]at hl;exact b1u rfl (by omega) (by omega) hl
  ·rw[if_neg h2]
   by_cases h0:i<0
   ·exact e1z rfl h0
   ·exact c1y rfl h0 (by omega)
end
def z256:Ty.den TBk:=Ty.dflt TBk
theorem z256_ok:Wb (rB z256)∧(rB z256).length=256:=by
 have e:rB z256=List.replicate 256 (0:Int):=rfl
 rw[e]
 exact⟨fun x hx=>by have:=List.eq_of_mem_replicate hx;omega,List.length_replicate⟩
def sNew (n:Int):DS:=⟨0,false,0,false,List.replicate n.toNat z256,[]⟩
theorem sNew_ok {n:Int}(h:n≤40):DH (sNew n):=
 ⟨⟨fun b hb=>by rw[List.eq_of_mem_replicate hb];exact z256_ok,(fun w hw=>by cases hw),(fun w hw=>by cases hw),(fun q=>by cases q),by show(List.replicate n.toNat z256).length≤4096;rw[List.length_replicate];omega⟩,by show(0:Int)≤_;omega⟩
theorem d8 {n:Int}(h:n≤40):i1k [.n n]=some (0,[.n (sNew n).n,.b (sNew n).A,.n (sNew n).h,.b (sNew n).o,.l TBk (sNew n).K,.l TWr (sNew n).W]):=by
 have e:imin (imax n 0) 4096=((n.toNat:Nat):Int):=by unfold imin imax;split<;>split<;>omega
 have k:(sNew n).K=repC (Int.toNat (imin (imax n 0) 4096)) (Ty.dflt TBk):=by rw[e,a1d];rfl
 rw[k]
 exact h1p (by
  rw[e,dt (show(0:Int)≤((n.toNat:Nat):Int) by omega),dt (Int.le_refl _),dt (show((n.toNat:Nat):Int)*256≤281474976710656 by omega)];rfl)
def zS:Ty.den TS:=a0e (pad [])
theorem h1o (m:Nat):strK (List.replicate m z256)=List.replicate m zS:=by
 unfold strK;rw[List.map_replicate];rfl
theorem m9 {n:Int}(h:n≤40):g1z [.n n]=some (0,[.n (sNew n).n,.b (sNew n).A,.n (sNew n).h,.b (sNew n).o,.l TS (strK (sNew n).K),.l TOp (strW (sNew n).W)]):=by
 refine g1n ?_
 rw[z0e]
 show _=some (0,[Dat.n 0,.b false,.n 0,.b false,.l TS (strK (List.replicate n.toNat z256))])
 rw[h1o]
 refine c0k (st:=l0e) (fun i=>[.k 0,.n n,.n (i:Int),.n 0,.b false,.n 0,.b false,.l TS (List.replicate i zS)]) n.toNat (0,[.n 0,.b false,.n 0,.b false,.l TS (List.replicate n.toNat zS)]) (fun i hi=> ?_) (z0a (by omega) (by omega)) FU (h0r (by omega))
 show _=some (Step.go [.k 0,.n n,.n ((i+1:Nat):Int),.n 0,.b false,.n 0,.b false,.l TS (List.replicate (i+1) zS)])
 rw[←w1n i (by omega),List.replicate_succ']
 exact z0d (by omega) (by omega) (by omega) (m25 (b:=[]) (fun x hx=>by cases hx) (by decide)) (by
  show((List.replicate i zS).length+1)*16≤_
  rw[List.length_replicate];omega)
theorem c26 {K:LKs}(h:K.length≤100000):s0u [.l TBk K]=some (0,[.l TBk K]):=by
 unfold s0u j0l t0y
 simp only[e0r]
 rw[dt (by omega)];rfl
theorem c27 {W:LW}(h:W.length≤100000):t0h [.l TWr W]=some (0,[.l TWr W]):=by
 unfold t0h j0l t0w
 simp only[e0r]
 rw[dt (by omega)];rfl
section
variable (s:DS) (hw:s.W.length≤100000) (hk:s.K.length≤4096)
include hw hk
theorem d11:s0h [.n s.n,.b s.A,.n s.h,.b s.o,.l TBk s.K,.l TWr s.W]=some (0,[.n s.n,.b s.A,.n s.h,.b s.o,.l TBk s.K,.l TWr s.W,.n s.n,.b s.A,.n s.h,.b s.o,.l TBk s.K,.l TWr s.W]):=c1a (c26 (by omega)) (c27 hw)
theorem m10:r0a [.n s.n,.b s.A,.n s.h,.b s.o,.l TS (strK s.K),.l TOp (strW s.W)]=some (0,[.n s.n,.b s.A,.n s.h,.b s.o,.l TS (strK s.K),.l TOp (strW s.W),.n s.n,.b s.A,.n s.h,.b s.o,.l TS (strK s.K),.l TOp (strW s.W)]):=c1m (by rw[f0n];omega) (by rw[d0n];omega)
end
section
variable (s:DS) (hs:DH s) (hw:s.W.length≤100000)
theorem t11z (i:Int):g0h [.k 1,.n i,.n 0,.n s.n,.b s.A,.n s.h,.b s.o,.n s.n,.b s.A,.n s.h,.b s.o,.l TBk s.K,.l TWr s.W,.l TS (strK s.K),.l TOp (strW s.W)]=some (0,[.n i,.n s.n,.b s.A,.n s.h,.b s.o,.n s.n,.b s.A,.n s.h,.b s.o,.l TBk s.K,.l TWr s.W,.l TS (strK s.K),.l TOp (strW s.W)]):=by
 rw[k0i]
 exact b0r (n:=18446744073709551615) (q0t (Int.le_refl _))
theorem t11 (i:Int)(b:LB):g0h [.k 0,.n i,.n 0,.n s.n,.b s.A,.n s.h,.b s.o,.n s.n,.b s.A,.n s.h,.b s.o,.l TBk s.K,.l TWr s.W,.l TS (strK s.K),.l TOp (strW s.W),.l TB b]=some (0,[.n i,.n s.n,.b s.A,.n s.h,.b s.o,.n s.n,.b s.A,.n s.h,.b s.o,.l TBk s.K,.l TWr s.W,.l TS (strK s.K),.l TOp (strW s.W)]):=by
 rw[k0i]
 have go: ∀k m:Nat,k≤256→256-k<m→ ∀b:LB,b0n e0q m [.k 0,.n i,.n (k:Int),.n s.n,.b s.A,.n s.h,.b s.o,.n s.n,.b s.A,.n s.h,.b s.o,.l TBk s.K,.l TWr s.W,.l TS (strK s.K),.l TOp (strW s.W),.l TB b]=some (0,[.n i,.n s.n,.b s.A,.n s.h,.b s.o,.n s.n,.b s.A,.n s.h,.b s.o,.l TBk s.K,.l TWr s.W,.l TS (strK s.K),.l TOp (strW s.W)]):=by
  intro k m hk hm
  induction m generalizing k with
  |zero=>omega
  |succ m ih=>
   intro b
   by_cases q:k<256
   ·refine(e0l (q0u (by omega) (by omega))).trans ?_
    rw[w1n k (by omega)]
    exact ih (k+1) (by omega) (by omega) _
   ·exact b0r (s0f (by omega) (by omega))
 exact go 0 FU (by omega) (h0r (by omega)) b
include hs hw
theorem t4:q0b [.k 0,.n (-1),.n s.n,.b s.A,.n s.h,.b s.o,.n s.n,.b s.A,.n s.h,.b s.o,.l TBk s.K,.l TWr s.W,.l TS (strK s.K),.l TOp (strW s.W)]=some (0,[.n s.n,.b s.A,.n s.h,.b s.o,.n s.n,.b s.A,.n s.h,.b s.o,.l TBk s.K,.l TWr s.W,.l TS (strK s.K),.l TOp (strW s.W)]):=by
 have hkl:((strK s.K).length:Int)=(s.K.length:Int):=by rw[f0n]
 have hk:=hs.kl
 rw[v0w]
 refine c0k (st:=g0u) (fun i=>[.k 0,.n ((i:Int)-1),.n s.n,.b s.A,.n s.h,.b s.o,.n s.n,.b s.A,.n s.h,.b s.o,.l TBk s.K,.l TWr s.W,.l TS (strK s.K),.l TOp (strW s.W)]) (s.K.length+2) (0,[.n s.n,.b s.A,.n s.h,.b s.o,.n s.n,.b s.A,.n s.h,.b s.o,.l TBk s.K,.l TWr s.W,.l TS (strK s.K),.l TOp (strW s.W)]) (fun i hi=> ?_) (u0s (by omega) (by omega)) FU (h0r (by omega))
 show _=some (Step.go [.k 0,.n (((i+1:Nat):Int)-1),.n s.n,.b s.A,.n s.h,.b s.o,.n s.n,.b s.A,.n s.h,.b s.o,.l TBk s.K,.l TWr s.W,.l TS (strK s.K),.l TOp (strW s.W)])
 have ew:((i+1:Nat):Int)-1=IntKind.wrap .i64 (((i:Int)-1)+1):=by rw[w64 (by omega) (by omega)];omega
 rw[ew]
 have e1:=d20 s hw ((i:Int)-1)
 have e2:=m29 s hw ((i:Int)-1)
 cases hr:(p0h s ((i:Int)-1)).1 with
 |none=>
  rw[hr]at e1 e2
  exact t0x (by omega) (by omega) e1 e2 rfl (e0y _) (t11z s _)
 |some b=>
  rw[hr]at e1 e2
  exact v0o (by omega) (by omega) e1 e2 rfl (e0y _) (t11 s _ _)
theorem t13:m0u [.n s.n,.b s.A,.n s.h,.b s.o,.n s.n,.b s.A,.n s.h,.b s.o,.l TBk s.K,.l TWr s.W,.l TS (strK s.K),.l TOp (strW s.W)]=some (0,[.b true,.n s.n,.b s.A,.n s.h,.b s.o,.n s.n,.b s.A,.n s.h,.b s.o,.l TBk s.K,.l TWr s.W,.l TS (strK s.K),.l TOp (strW s.W)]):=
 c1j (by rw[f0n]) rfl (by simp) (by rw[d0n]) (t4 s hs hw)
end
theorem b1z (s:DS):((c0p s).2.2=0∧(c0p s).1.W=s.W)∨(c0p s).2.2=1:=by
 unfold c0p
 by_cases h1:s.o=true
 ·rw[if_pos h1];exact .inl ⟨rfl,rfl⟩
 rw[if_neg h1]
 by_cases h2:s.A=true
 ·rw[if_pos h2]
  by_cases h3:s.h=0
  ·rw[if_pos h3];exact .inl ⟨rfl,rfl⟩
  ·rw[if_neg h3];exact .inr rfl
 ·rw[if_neg h2];exact .inr rfl
theorem sOn_k (s:DS)(F:LB):((sOn s F).2=0∧(sOn s F).1.W=s.W)∨(sOn s F).2=1:=by
 unfold sOn
 by_cases h1:s.o=true
 ·rw[if_pos h1];exact .inr rfl
 ·rw[if_neg h1];exact .inl ⟨rfl,rfl⟩
theorem g1a (s:DS)(i:Int)(b:List Int):(b0a s i b).1.K=s.K:=by
 unfold b0a
 split
 ·rfl
 split
 ·split
  ·rfl
  split
  ·split<;>rfl
  ·rfl
 ·rfl
theorem lenset (b:LB)(i:Nat)(v:Ty.den TB):(List.set b i v).length=b.length:=List.length_set ..
theorem dl0 (s:DS)(x:Bool)(b:LB)(hb:b.length≤100000):b0d [.k 0,.b x,.n 0,.n s.n,.b s.A,.n s.h,.b s.o,.n s.n,.b s.A,.n s.h,.b s.o,.l TBk s.K,.l TWr s.W,.l TS (strK s.K),.l TOp (strW s.W),.l TB b]=some (0,[.b x,.n s.n,.b s.A,.n s.h,.b s.o,.n s.n,.b s.A,.n s.h,.b s.o,.l TBk s.K,.l TWr s.W,.l TS (strK s.K),.l TOp (strW s.W)]):=by
 rw[k0f]
 have go: ∀n m k:Nat,∀b:LB,b.length=n→n≤100000→k≤n→n-k<m→b0n d0d m [.k 0,.b x,.n (k:Int),.n s.n,.b s.A,.n s.h,.b s.o,.n s.n,.b s.A,.n s.h,.b s.o,.l TBk s.K,.l TWr s.W,.l TS (strK s.K),.l TOp (strW s.W),.l TB b]=some (0,[.b x,.n s.n,.b s.A,.n s.h,.b s.o,.n s.n,.b s.A,.n s.h,.b s.o,.l TBk s.K,.l TWr s.W,.l TS (strK s.K),.l TOp (strW s.W)]):=by
  intro n m
  induction m with
  |zero=>intro k b _ _ _ hm;omega
  |succ m ih=>
   intro k b hb h5 hk hm
   by_cases q:k<b.length
   ·refine(e0l (p0v (by omega) (Int.ofNat_lt.2 q))).trans ?_
    rw[w1n k (by omega)]
    exact ih (k+1) _ ((lenset _ _ _).trans hb) h5 (by omega) (by omega)
   ·exact b0r (q0d (by omega) (by omega))
 exact go b.length FU 0 b rfl hb (Nat.zero_le _) (h0r (by omega))
theorem dl1 (s:DS)(x:Bool)(b:LB)(hb:b.length≤100000):b0d [.k 1,.b x,.n 0,.n s.n,.b s.A,.n s.h,.b s.o,.n s.n,.b s.A,.n s.h,.b s.o,.l TBk s.K,.l TS (strK s.K),.l TB b,.l TWr s.W,.l TOp (strW s.W)]=some (1,[.b x,.n s.n,.b s.A,.n s.h,.b s.o,.n s.n,.b s.A,.n s.h,.b s.o,.l TBk s.K,.l TS (strK s.K),.l TWr s.W,.l TOp (strW s.W)]):=by
 rw[k0f]
 have go: ∀n m k:Nat,∀b:LB,b.length=n→n≤100000→k≤n→n-k<m→b0n d0d m [.k 1,.b x,.n (k:Int),.n s.n,.b s.A,.n s.h,.b s.o,.n s.n,.b s.A,.n s.h,.b s.o,.l TBk s.K,.l TS (strK s.K),.l TB b,.l TWr s.W,.l TOp (strW s.W)]=some (1,[.b x,.n s.n,.b s.A,.n s.h,.b s.o,.n s.n,.b s.A,.n s.h,.b s.o,.l TBk s.K,.l TS (strK s.K),.l TWr s.W,.l TOp (strW s.W)]):=by
  intro n m
  induction m with
  |zero=>intro k b _ _ _ hm;omega
  |succ m ih=>
   intro k b hb h5 hk hm
   by_cases q:k<b.length
   ·refine(e0l (q0o (by omega) (Int.ofNat_lt.2 q))).trans ?_
    rw[w1n k (by omega)]
    exact ih (k+1) _ ((lenset _ _ _).trans hb) h5 (by omega) (by omega)
   ·exact b0r (o0z (by omega) (by omega))
 exact go b.length FU 0 b rfl hb (Nat.zero_le _) (h0r (by omega))
def sFail (s:DS)(i:Int):DS:=⟨s.n,decide (i≥0),i,s.o,s.K,s.W⟩
def sCrash (s:DS):DS:=⟨s.n,false,s.h,true,s.K,s.W⟩
def sDo (s:DS)(k i:Int)(B F:LB):DS×Nat:=
 if Int.tmod k 9=3 then((c0p s).1,(c0p s).2.2)else
 if Int.tmod k 9=4 then(s,0)else
 if Int.tmod k 9=5 then(sFail s i,0)else
 if Int.tmod k 9=6 then(sCrash s,0)else
 if Int.tmod k 9=7 then sOn s F else((b0a s i B).1,0)
def dEnv (s:DS)(v:Nat):List Dat:=[.n s.n,.b s.A,.n s.h,.b s.o,.n s.n,.b s.A,.n s.h,.b s.o]++
 (if v=0 then[.l TBk s.K,.l TWr s.W,.l TS (strK s.K),.l TOp (strW s.W)]else[.l TBk s.K,.l TS (strK s.K),.l TWr s.W,.l TOp (strW s.W)])
section
variable (s:DS) (hs:DH s) (hw:s.W.length≤100000) (k i:Int) (hk:0≤k) (B F:LB) (hB:Wb B) (hF:Wb F) (hl:B.length≤100000)
include hs hB hF
theorem sDo_ok (hi:i≤9223372036854775807):DH (sDo s k i B F).1∧(sDo s k i B F).1.W.length≤s.W.length+1∧(sDo s k i B F).1.K.length=s.K.length:=by
 unfold sDo
 split
 ·obtain⟨a,b,c⟩:=f1y s hs;exact⟨a,Nat.le_succ_of_le b,c⟩
 split
 ·exact⟨hs,Nat.le_succ _,rfl⟩
 split
 ·exact⟨⟨⟨hs.kb,hs.wp,hs.wb,(fun q=>of_decide_eq_true q),hs.kl⟩,hi⟩,Nat.le_succ _,rfl⟩
 split
 ·exact⟨⟨⟨hs.kb,hs.wp,hs.wb,(fun q=>by cases q),hs.kl⟩,hs.hb⟩,Nat.le_succ _,rfl⟩
 split
 ·obtain⟨a,b,c⟩:=sOn_ok s hs F hF;exact⟨a,Nat.le_succ_of_le b,c⟩
 ·exact b1p s hs i B hB
include hw hk hl
theorem d12:d0r ([.n k,.n i,.l TB B,.l TB F]++dEnv s 0)=some ((sDo s k i B F).2,.b true::dEnv (sDo s k i B F).1 (sDo s k i B F).2):=by
 have bb:a0d (a0e B)=B:=j0p hB
 have tt:b0y (a0e (a0d (a0e B))) (a0e B)=true:=by rw[bb];exact e0y _
 have hbl:List.length (α:=Ty.den TB) (a0d (a0e B))≤100000:=by rw[bb];exact hl
 have L0: ∀s:DS,b0d [.k 0,.b (b0y (a0e (a0d (a0e B))) (a0e B)),.n 0,.n s.n,.b s.A,.n s.h,.b s.o,.n s.n,.b s.A,.n s.h,.b s.o,.l TBk s.K,.l TWr s.W,.l TS (strK s.K),.l TOp (strW s.W),.l TB (a0d (a0e B))]=some (0,[.b true,.n s.n,.b s.A,.n s.h,.b s.o,.n s.n,.b s.A,.n s.h,.b s.o,.l TBk s.K,.l TWr s.W,.l TS (strK s.K),.l TOp (strW s.W)]):=fun s=>by rw[tt];exact dl0 s true _ hbl
 have L1: ∀s:DS,b0d [.k 1,.b (b0y (a0e (a0d (a0e B))) (a0e B)),.n 0,.n s.n,.b s.A,.n s.h,.b s.o,.n s.n,.b s.A,.n s.h,.b s.o,.l TBk s.K,.l TS (strK s.K),.l TB (a0d (a0e B)),.l TWr s.W,.l TOp (strW s.W)]=some (1,[.b true,.n s.n,.b s.A,.n s.h,.b s.o,.n s.n,.b s.A,.n s.h,.b s.o,.l TBk s.K,.l TS (strK s.K),.l TWr s.W,.l TOp (strW s.W)]):=fun s=>by rw[tt];exact dl1 s true _ hbl
 unfold sDo
 by_cases h3:Int.tmod k 9=3
 ·rw[if_pos h3]
  have e1:=d16 s hs hw
  have e2:=m28 s hs hw
  rcases b1z s with⟨q,qW⟩|q
  ·rw[q]at e1 e2⊢
   have:=L0 (c0p s).1
   rw[qW]at this
   refine(c1i hk h3 e1 e2 rfl this).trans ?_
   rw[←qW];rfl
  ·rw[q]at e1 e2⊢
   exact y0p hk h3 e1 e2 rfl (L1 (c0p s).1)
 rw[if_neg h3]
 by_cases h4:Int.tmod k 9=4
 ·rw[if_pos h4]
  have e1:=d20 s hw i
  have e2:=m29 s hw i
  cases hr:(p0h s i).1 with
  |none=>rw[hr]at e1 e2;exact x0z hk h3 h4 e1 e2 rfl (e0y _) (L0 s)
  |some b=>rw[hr]at e1 e2;exact z0q hk h3 h4 e1 e2 rfl (e0y _) (L0 s)
 rw[if_neg h4]
 by_cases h5:Int.tmod k 9=5
 ·rw[if_pos h5];exact z0c hk h3 h4 h5 (L0 (sFail s i))
 rw[if_neg h5]
 by_cases h6:Int.tmod k 9=6
 ·rw[if_pos h6];exact y0u hk h3 h4 h5 h6 (L0 (sCrash s))
 rw[if_neg h6]
 by_cases h7:Int.tmod k 9=7
 ·rw[if_pos h7]
  have e1:=d19 s hs hw F hF
  have e2:=m32 s hs hw F hF
  rcases sOn_k s F with⟨q,qW⟩|q
  ·rw[q]at e1 e2⊢
   have:=L0 (sOn s F).1
   rw[qW]at this
   refine(x0t hk h3 h4 h5 h6 h7 e1 e2 this).trans ?_
   rw[←qW];rfl
  ·rw[q]at e1 e2⊢
   exact y0q hk h3 h4 h5 h6 h7 e1 e2 (L1 (sOn s F).1)
 rw[if_neg h7]
 have e1: ∀b':LB,b'=B→d0z [.n i,.n s.n,.b s.A,.n s.h,.b s.o,.l TB b',.l TBk s.K,.l TWr s.W]=some (0,[.n (b0a s i B).2,.n (b0a s i B).1.n,.b (b0a s i B).1.A,.n (b0a s i B).1.h,.b (b0a s i B).1.o,.l TB b',.l TBk (b0a s i B).1.K,.l TWr (b0a s i B).1.W]):=fun b' h=>by
  rw[h];exact d17o s hw i B
 have e1:=e1 (a0d (a0e B)) bb
 have e2:=m33 s hs hw i B hB
 have eK:=g1a s i B
 generalize b0a s i B=R at e1 e2 eK⊢
 obtain⟨⟨n',A',h',o',K',W'⟩,e'⟩:=R
 have eK:K'=s.K:=eK
 subst eK
 exact z0k hk h3 h4 h5 h6 h7 e1 e2 rfl (L0 ⟨n',A',h',o',s.K,W'⟩)
end
abbrev LC:=List (Ty.den a0f)
def cK (c:Ty.den a0f):Int:=Prod.fst c
def cI (c:Ty.den a0f):Int:=Prod.fst (Prod.snd c)
def cB (c:Ty.den a0f):LB:=Prod.fst (Prod.snd (Prod.snd c))
def cF (c:Ty.den a0f):LB:=Prod.snd (Prod.snd (Prod.snd c))
abbrev caAt (l:LC)(i:Nat):Ty.den a0f:=l.getD i (Ty.dflt a0f)
structure okC (c:Ty.den a0f):Prop where
 k0:0≤cK c
 k1:cK c≤255
 i1:cI c≤9223372036854775807
 wb:Wb (cB c)
 wf:Wb (cF c)
theorem l6l (l:LC)(hl:l.length≤80): ∀m k:Nat,∀n:Int,k≤l.length→l.length-k<m→0≤n→n≤12000→
  (∃n',b0n e0m m [.k 0,.l a0f l,.n n,.n (k:Int)]=some (0,[.n n'])∧ ∀i,k≤i→i<l.length→(cB (caAt l i)).length≤6000)∨b0n e0m m [.k 0,.l a0f l,.n n,.n (k:Int)]=some (1,[.b true]):=by
 intro m
 induction m with
 |zero=>intro k n _ hm;omega
 |succ m ih=>
  intro k n hk hm h0 h1
  by_cases q:k<l.length
  ·have hw6:IntKind.wrap .i64 ((6000:Int)-n)=6000-n:=w64 (by omega) (by omega)
   by_cases a:((cB (caAt l k)).length:Int)>6000-n
   ·have a':((cB (caAt l k)).length:Int)>IntKind.wrap .i64 ((6000:Int)-n):=by rw[hw6];exact a
    exact .inr (b0r (z0t (by omega) (Int.ofNat_lt.2 q) a'))
   have a': ¬((cB (caAt l k)).length:Int)>IntKind.wrap .i64 ((6000:Int)-n):=by rw[hw6];exact a
   by_cases b:((cF (caAt l k)).length:Int)>6000-n
   ·have b':((cF (caAt l k)).length:Int)>IntKind.wrap .i64 ((6000:Int)-n):=by rw[hw6];exact b
    exact .inr (b0r (y0a (by omega) (Int.ofNat_lt.2 q) a' b'))
   have b': ¬((cF (caAt l k)).length:Int)>IntKind.wrap .i64 ((6000:Int)-n):=by rw[hw6];exact b
   have e:b0n e0m (m+1) [.k 0,.l a0f l,.n n,.n (k:Int)]=b0n e0m m [.k 0,.l a0f l,.n (IntKind.wrap .i64 (IntKind.wrap .i64 (n+((cB (caAt l k)).length:Int))+((cF (caAt l k)).length:Int))),.n (IntKind.wrap .i64 ((k:Int)+1))]:=e0l (y0f (by omega) (Int.ofNat_lt.2 q) a' b')
   have ew:IntKind.wrap .i64 (IntKind.wrap .i64 (n+((cB (caAt l k)).length:Int))+((cF (caAt l k)).length:Int))=n+((cB (caAt l k)).length:Int)+((cF (caAt l k)).length:Int):=by
    rw[show IntKind.wrap .i64 (n+((cB (caAt l k)).length:Int))=n+((cB (caAt l k)).length:Int)from w64 (by omega) (by omega)]
    exact w64 (by omega) (by omega)
   rw[ew,w1n k (by omega)]at e
   rcases ih (k+1) (n+((cB (caAt l k)).length:Int)+((cF (caAt l k)).length:Int)) (by omega) (by omega) (by omega) (by omega)with⟨n',h,hs⟩|h
   ·refine .inl ⟨n',e.trans h,fun i hi hil=> ?_⟩
    rcases Nat.eq_or_lt_of_le hi with rfl|hi
    ·omega
    ·exact hs i hi hil
   ·exact .inr (e.trans h)
  ·exact .inl ⟨n,b0r (z0p (by omega) (by omega)),fun i hi hil=>by omega⟩
theorem l6x (l:LC): ∃x,t0k [.l a0f l]=some (0,[.b x])∧(x=false→l.length≤80∧ ∀i,i<l.length→(cB (caAt l i)).length≤6000):=by
 by_cases hl:(l.length:Int)>80
 ·exact⟨true,h1j hl,fun h=>by cases h⟩
 have hl':l.length≤80:=by omega
 rcases l6l l hl' FU 0 0 (by omega) (h0r (by omega)) (by omega) (by omega)with⟨n',h,hs⟩|h
 ·rw[←n0z]at h
  exact⟨_,g1s hl h,fun _=>⟨hl',fun i hi=>hs i (Nat.zero_le _) hi⟩⟩
 ·rw[←n0z]at h
  exact⟨true,f1z hl h,fun h=>by cases h⟩
theorem wu8 {n:Int}(h:0≤n):0≤IntKind.wrap .u8 n:=by
 unfold IntKind.wrap
 simp[IntKind.bits,IntKind.signed]
 omega
theorem sDo_v (s:DS)(k i:Int)(B F:LB):(sDo s k i B F).2=0∨(sDo s k i B F).2=1:=by
 unfold sDo
 split
 ·exact(b1z s).imp (fun h=>h.1) id
 split
 ·exact .inl rfl
 split
 ·exact .inl rfl
 split
 ·exact .inl rfl
 split
 ·exact(sOn_k s F).imp (fun h=>h.1) id
 ·exact .inl rfl
theorem wf_all {t:Ty}{l:List t.den}(h:wfD (.sl t) l=true): ∀x∈l,wfD t x=true:=by
 have h:(decide (l.length≤maxLen)&&wfL (wfD t) l)=true:=h
 rw[Bool.and_eq_true]at h
 exact v0q.1 h.2
theorem wb_wf {b:LB}(h:wfD (.sl TB) b=true):Wb b:=fun x hx=>by
 have q:=wfi (wf_all h x hx)
 simp[IntKind.min,IntKind.max,IntKind.bits,IntKind.signed]at q
 exact⟨q.1,Int.lt_of_le_of_lt q.2 (by decide)⟩
theorem okC_wf {c:Ty.den a0f}(h:wfD a0f c=true):okC c:=by
 have h1:=w0w h
 have h2:=w0w h1.2
 have h3:=w0w h2.2
 have k:=wfi h1.1
 have i:=wfi h2.1
 simp[IntKind.min,IntKind.max,IntKind.bits,IntKind.signed]at k i
 exact⟨k.1,k.2,i.2,wb_wf h3.1,wb_wf h3.2⟩
section
variable (l:LC) (hl:l.length≤80) (hc: ∀c∈l,okC c) (hb: ∀i,i<l.length→(cB (caAt l i)).length≤6000)
include hl hc hb
theorem l35: ∀m k:Nat,∀s:DS,DH s→s.W.length≤k→k≤l.length→l.length-k<m→b0n j0u m ([.k 0,.l a0f l,.n (k:Int)]++dEnv s 0)=some (0,[]):=by
 intro m
 induction m with
 |zero=>intro k s _ _ _ hm;omega
 |succ m ih=>
  intro k s hs hw hk hm
  by_cases q:k<l.length
  ·have ok:=hc _ (b0q (d:=Ty.dflt a0f) q)
   have hbl:=hb k q
   by_cases h8:Int.tmod (cK (caAt l k)) 9=8
   ·have k0:0≤IntKind.wrap .u8 (Int.tdiv (cK (caAt l k)) 9):=wu8 (Int.tdiv_nonneg ok.k0 (by decide))
    have wn:Wb ([]:List Int):=fun x hx=>by cases hx
    obtain⟨g1,g2,g3⟩:=sDo_ok s hs (IntKind.wrap .u8 (Int.tdiv (cK (caAt l k)) 9)) (cI (caAt l k)) (cB (caAt l k)) [] ok.wb wn ok.i1
    have e:=d12 s hs (by omega) (IntKind.wrap .u8 (Int.tdiv (cK (caAt l k)) 9)) (cI (caAt l k)) k0 (cB (caAt l k)) [] ok.wb wn (by omega)
    have ec:=d11 s (by omega) hs.kl
    have em:=m10 s (by omega) hs.kl
    have et:=t13 s hs (by omega)
    have nx:=ih (k+1) _ g1 (by omega) (by omega) (by omega)
    rw[←w1n k (by omega)]at nx
    rcases sDo_v s (IntKind.wrap .u8 (Int.tdiv (cK (caAt l k)) 9)) (cI (caAt l k)) (cB (caAt l k)) []with v|v
    ·rw[v]at e
     exact(e0l (b1x (by omega) (Int.ofNat_lt.2 q) h8 em ec e rfl et rfl)).trans nx
    ·rw[v]at e
     exact(e0l (a1m (by omega) (Int.ofNat_lt.2 q) h8 em ec e rfl et rfl)).trans nx
   ·obtain⟨g1,g2,g3⟩:=sDo_ok s hs (cK (caAt l k)) (cI (caAt l k)) (cB (caAt l k)) (cF (caAt l k)) ok.wb ok.wf ok.i1
    have e:=d12 s hs (by omega) (cK (caAt l k)) (cI (caAt l k)) ok.k0 (cB (caAt l k)) (cF (caAt l k)) ok.wb ok.wf (by omega)
    have et:=t13 (sDo s (cK (caAt l k)) (cI (caAt l k)) (cB (caAt l k)) (cF (caAt l k))).1 g1 (by omega)
    have nx:=ih (k+1) _ g1 (by omega) (by omega) (by omega)
    rw[←w1n k (by omega)]at nx
    rcases sDo_v s (cK (caAt l k)) (cI (caAt l k)) (cB (caAt l k)) (cF (caAt l k))with v|v
    ·rw[v]at e
     exact(e0l (y0k (by omega) (Int.ofNat_lt.2 q) h8 e rfl et rfl)).trans nx
    ·rw[v]at e
     exact(e0l (x0w (by omega) (Int.ofNat_lt.2 q) h8 e rfl et rfl)).trans nx
  ·exact b0r (y0j (by omega) (by omega))
end
theorem W3_all (n:Int)(l:LC)(hl:wfD (.sl a0f) l=true):(e1e [.n n,.l a0f l]).sel=some true:=by
 obtain⟨x,e,hx⟩:=l6x l
 cases x with
 |true=>exact g1p e rfl
 |false=>
  by_cases h:n>40
  ·exact h1b e rfl h
  ·obtain⟨h1,h2⟩:=hx rfl
   have e3:=l35 l h1 (fun c q=>okC_wf (wf_all hl c q)) h2 FU 0 (sNew n) (sNew_ok (by omega)) (Nat.zero_le _) (Nat.zero_le _) (h0r (by omega))
   exact g1u e rfl h (d8 (by omega)) (m9 (by omega)) ((f1v _).trans e3)
end Go.Proofs.Ytnmgjcpjkdmngaa.Vx
end
