import Derived.Test.YthkdhfejnbineaaVxAsk
import Derived.Test.YthkdhfejnbineaaZ13
import Derived.KernelRfl
import Derived.Test.YthkdhfejnbineaaVxAid
noncomputable section
namespace Go.Proofs.Ythkdhfejnbineaa.Vx
open Go Go.RowKit
set_option linter.unusedVariables false
set_option linter.unusedSimpArgs false
set_option maxRecDepth 100000
set_option maxHeartbeats 0
abbrev t0c:Ty:=.pair (.int .u8) (.pair (.sl (.int .u8)) (.pair (.int .u8) (.pair (.int .u8) (.pair (.int .i64) (.pair (.int .i64) (.pair (.sl (.int .u8)) (.int .i64)))))))
def enB (h:Nat):PB:=.cells [.int .u8 h,.int .u8 (h+1),.int .i64 (h+2),.int .i64 (h+3),.nilsl,.int .i64 (h+4),.int .i64 (h+5)]
def mnB (h:Nat):PB:=.cells [.int .u8 h,.int .u8 (h+1),.int .i64 (h+2),.int .i64 (h+3),.int .i64 (h+4),.int .i64 (h+5)]
def cs_9A:FuncId→Option a0q:=e1c 8 [(BSh.of B9).k op_9] cs_33g
theorem y3u:CsOk Try.prog cs_9A:=csB u3m B9_ok
def v3d:FuncId→Option a0q:=a0s 13 ((BSh.of B13p).k j3c) cs_9A
theorem t3s:CsOk Try.prog v3d:=csA y3u y3i
def u3g:FuncId→Option a0q:=a0s 27 ((BSh.of B21p).k j3q) v3d
theorem s3m:CsOk Try.prog u3g:=csA t3s y3d
def y3p:FuncId→Option a0q:=a0s 29 ((BSh.of B32r).k h3q) u3g
theorem s3x:CsOk Try.prog y3p:=csA s3m y3k
def p3p:FuncId→Option a0q:=a0s 30 ((BSh.of B33g).k h3o) y3p
theorem l3k:CsOk Try.prog p3p:=csA s3x v3u
def S_e11:BSh:={args:=[.ptr 0 0,.own 1],blks:=[enB 0,.arr TB 6],log:=[0],outs:=[(.tup [.nilsl,.int .i64 0],[enB 1,.arr TB 7]),(.tup [.own 2,.int .i64 0],[enB 1,.arr TB 7,.arr TB 8])]}
def ev_e11:List Dat→Tree (Nat×List Dat):=evF p3p 11 ls0 S_e11
theorem u3w: ∃op,IsF ev_e11 11 S_e11 op:=bxF l3k (LsOk.none _ _ _)
def h3m:OpA:=opF u3w
theorem x3u {n0 n1 n2 n3 n4 n5:Int}{l6:List (Ty.den TB)}(h0:((↑(List.length l6):Int)>(2048:Int))):h3m [.n n0,.n n1,.n n2,.n n3,.n n4,.n n5,.l TB l6]=some ((0,[.n (3:Int),.n n0,.n n1,.n n2,.n n3,.n n4,.n n5,.l TB l6])):=t2c u3w (sP [0]<|sT (dt h0)<|sP [1,1,1]<|sL)
theorem x3s {n0 n1 n2 n3 n4 n5:Int}{l6:List (Ty.den TB)}(h0:(¬(↑(List.length l6):Int)>(2048:Int)))(h1:(n2>(4611686018427387904:Int))):h3m [.n n0,.n n1,.n n2,.n n3,.n n4,.n n5,.l TB l6]=some ((0,[.n (3:Int),.n n0,.n n1,.n n2,.n n3,.n n4,.n n5,.l TB l6])):=t2c u3w (sP [0]<|sF (df h0)<|sT (dt h1)<|sP [1]<|sL)
theorem w3v {n0 n1 n2 n3 n4 n5:Int}{l6 l7:List (Ty.den TB)}(h0:(¬(↑(List.length l6):Int)>(2048:Int)))(h1:(¬n2>(4611686018427387904:Int)))(h2:(j3c [.n n0,.n n1,.n n2,.n n3,.l TB l6])=(some (0,[.l TB l7]))):h3m [.n n0,.n n1,.n n2,.n n3,.n n4,.n n5,.l TB l6]=some ((1,[.n (0:Int),.n n0,.n n1,.n (IntKind.wrap .i64 (n2+(1:Int))),.n n3,.n n4,.n n5,.l TB l6,.l TB l7])):=t2c u3w (sP [0]<|sF (df h0)<|sF (df h1)<|sA h2<|sP [1,1,1]<|sL)
def v3t:FuncId→Option a0q:=e1c 11 [S_e11.k h3m] p3p
theorem o3c:CsOk Try.prog v3t:=csA1 l3k u3w
def S_m12:BSh:={args:=[.ptr 0 0,.str 0],blks:=[mnB 1],log:=[0],outs:=[(.tup [.nilsl,.int .i64 0],[mnB 1]),(.tup [.own 1,.int .i64 0],[mnB 1,.arr TB 7])]}
def ev_m12:List Dat→Tree (Nat×List Dat):=evF v3t 12 ls0 S_m12
theorem t3x: ∃op,IsF ev_m12 12 S_m12 op:=bxF o3c (LsOk.none _ _ _)
def h3l:OpA:=opF t3x
theorem u3z {s0:ByteArray}{n1 n2 n3 n4 n5 n6:Int}(h0:((↑(ByteArray.size s0):Int)>(2048:Int))):h3l [.s s0,.n n1,.n n2,.n n3,.n n4,.n n5,.n n6]=some ((0,[.n (3:Int),.n n1,.n n2,.n n3,.n n4,.n n5,.n n6])):=t2c t3x (sT (dt h0)<|sP [1,1,1]<|sL)
theorem x3a {s0:ByteArray}{n1 n2 n3 n4 n5 n6:Int}(h0:(¬(↑(ByteArray.size s0):Int)>(2048:Int)))(h1:(n3≥(4611686018427387904:Int))):h3l [.s s0,.n n1,.n n2,.n n3,.n n4,.n n5,.n n6]=some ((0,[.n (3:Int),.n n1,.n n2,.n n3,.n n4,.n n5,.n n6])):=t2c t3x (sF (df h0)<|sT (dt h1)<|sP [1]<|sL)
theorem t3v {s0:ByteArray}{n1 n2 n3 n4 n5 n6:Int}{l7:List (Ty.den TB)}(h0:(¬(↑(ByteArray.size s0):Int)>(2048:Int)))(h1:(¬n3≥(4611686018427387904:Int)))(h2:(j3q [.n n1,.n n2,.n (IntKind.wrap .i64 (n3+(1:Int))),.n n4,.s s0])=(some (0,[.l TB l7]))):h3l [.s s0,.n n1,.n n2,.n n3,.n n4,.n n5,.n n6]=some ((1,[.n (0:Int),.n n1,.n n2,.n (IntKind.wrap .i64 (n3+(1:Int))),.n n4,.n n5,.n n6,.l TB l7])):=t2c t3x (sF (df h0)<|sF (df h1)<|sA h2<|sP [1,1,1,1]<|sL)
def v3v:FuncId→Option a0q:=e1c 12 [S_m12.k h3l] v3t
theorem n3k:CsOk Try.prog v3v:=csA1 o3c t3x
def S_e14:BSh:={args:=[.ptr 0 0,.own 1],blks:=[enB 0,.arr TB 6],log:=[0],outs:=[(.tup [.nilsl,.int .i64 0],[enB 1,.arr TB 7]),(.tup [.own 2,.int .i64 0],[enB 1,.arr TB 7,.arr TB 8])]}
def ev_e14:List Dat→Tree (Nat×List Dat):=evF v3v 14 ls0 S_e14
theorem j3u: ∃op,IsF ev_e14 14 S_e14 op:=bxF n3k (LsOk.none _ _ _)
def h3e:OpA:=opF j3u
theorem u3o {n0 n1 n2 n3 n4 n5:Int}{l6:List (Ty.den TB)}{n7 n8 n9 n10 n11:Int}{l12:List (Ty.den TB)}(h0:(h3q [.l TB l6])=(some (0,[.n n7,.n n8,.n n9,.n n10,.n n11,.l TB l12])))(h1:(n11=(0:Int)))(h2:(¬n7=n1)):h3e [.n n0,.n n1,.n n2,.n n3,.n n4,.n n5,.l TB l6]=some ((0,[.n (2:Int),.n n0,.n n1,.n n2,.n n3,.n n4,.n n5,.l TB l6])):=t2c j3u (sP [0]<|sA h0<|sP [1,1]<|sF (bnf h1)<|sT (bnt h2)<|sP [1,1,1,1]<|sL)
theorem v3j {n0 n1 n2 n3 n4 n5:Int}{l6:List (Ty.den TB)}{n7 n8 n9 n10 n11:Int}{l12:List (Ty.den TB)}(h0:(h3q [.l TB l6])=(some (0,[.n n7,.n n8,.n n9,.n n10,.n n11,.l TB l12])))(h1:(n11=(0:Int)))(h2:(n7=n1))(h3:(¬n8=n0)):h3e [.n n0,.n n1,.n n2,.n n3,.n n4,.n n5,.l TB l6]=some ((0,[.n (2:Int),.n n0,.n n1,.n n2,.n n3,.n n4,.n n5,.l TB l6])):=t2c j3u (sP [0]<|sA h0<|sP [1,1]<|sF (bnf h1)<|sF (bnf h2)<|sP [1]<|sT (bnt h3)<|sP [1]<|sL)
theorem w3n {n0 n1 n2 n3 n4 n5:Int}{l6:List (Ty.den TB)}{n7 n8 n9 n10 n11:Int}{l12:List (Ty.den TB)}(h0:(h3q [.l TB l6])=(some (0,[.n n7,.n n8,.n n9,.n n10,.n n11,.l TB l12])))(h1:(n11=(0:Int)))(h2:(n7=n1))(h3:(n8=n0))(h4:(n9≤n3)):h3e [.n n0,.n n1,.n n2,.n n3,.n n4,.n n5,.l TB l6]=some ((0,[.n (180:Int),.n n0,.n n1,.n n2,.n n3,.n n4,.n n5,.l TB l6])):=t2c j3u (sP [0]<|sA h0<|sP [1,1]<|sF (bnf h1)<|sF (bnf h2)<|sP [1]<|sF (bnf h3)<|sP [1,0,1]<|sT (dt h4)<|sP [1]<|sL)
theorem w3q {n0 n1 n2 n3 n4 n5:Int}{l6:List (Ty.den TB)}{n7 n8 n9 n10 n11:Int}{l12:List (Ty.den TB)}(h0:(h3q [.l TB l6])=(some (0,[.n n7,.n n8,.n n9,.n n10,.n n11,.l TB l12])))(h1:(n11=(0:Int)))(h2:(n7=n1))(h3:(n8=n0))(h4:(¬n9≤n3))(h5:(n3>(0:Int)))(h6:(n10>n4))(h7:(n10≤IntKind.wrap .i64 (n2-(1:Int)))):h3e [.n n0,.n n1,.n n2,.n n3,.n n4,.n n5,.l TB l6]=some ((1,[.n (0:Int),.n n0,.n n1,.n n2,.n n9,.n n10,.n (IntKind.wrap .i64 (n5+IntKind.wrap .i64 (IntKind.wrap .i64 (n9-n3)-(1:Int)))),.l TB l6,.l TB l12])):=t2c j3u (sP [0]<|sA h0<|sP [1,1]<|sF (bnf h1)<|sF (bnf h2)<|sP [1]<|sF (bnf h3)<|sP [1,0,1]<|sF (df h4)<|sT (dt h5)<|sP [1]<|sT (dt h6)<|sP [1,0,1,1]<|sT (dt h7)<|sP [1]<|sL)
theorem x3h {n0 n1 n2 n3 n4 n5:Int}{l6:List (Ty.den TB)}{n7 n8 n9 n10 n11:Int}{l12:List (Ty.den TB)}(h0:(h3q [.l TB l6])=(some (0,[.n n7,.n n8,.n n9,.n n10,.n n11,.l TB l12])))(h1:(n11=(0:Int)))(h2:(n7=n1))(h3:(n8=n0))(h4:(¬n9≤n3))(h5:(n3>(0:Int)))(h6:(n10>n4))(h7:(¬n10≤IntKind.wrap .i64 (n2-(1:Int)))):h3e [.n n0,.n n1,.n n2,.n n3,.n n4,.n n5,.l TB l6]=some ((1,[.n (0:Int),.n n0,.n n1,.n n2,.n n9,.n n4,.n (IntKind.wrap .i64 (n5+IntKind.wrap .i64 (IntKind.wrap .i64 (n9-n3)-(1:Int)))),.l TB l6,.l TB l12])):=t2c j3u (sP [0]<|sA h0<|sP [1,1]<|sF (bnf h1)<|sF (bnf h2)<|sP [1]<|sF (bnf h3)<|sP [1,0,1]<|sF (df h4)<|sT (dt h5)<|sP [1]<|sT (dt h6)<|sP [1,0,1,1]<|sF (df h7)<|sP [1]<|sL)
theorem u3b {n0 n1 n2 n3 n4 n5:Int}{l6:List (Ty.den TB)}{n7 n8 n9 n10 n11:Int}{l12:List (Ty.den TB)}(h0:(h3q [.l TB l6])=(some (0,[.n n7,.n n8,.n n9,.n n10,.n n11,.l TB l12])))(h1:(n11=(0:Int)))(h2:(n7=n1))(h3:(n8=n0))(h4:(¬n9≤n3))(h5:(n3>(0:Int)))(h6:(¬n10>n4)):h3e [.n n0,.n n1,.n n2,.n n3,.n n4,.n n5,.l TB l6]=some ((1,[.n (0:Int),.n n0,.n n1,.n n2,.n n9,.n n4,.n (IntKind.wrap .i64 (n5+IntKind.wrap .i64 (IntKind.wrap .i64 (n9-n3)-(1:Int)))),.l TB l6,.l TB l12])):=t2c j3u (sP [0]<|sA h0<|sP [1,1]<|sF (bnf h1)<|sF (bnf h2)<|sP [1]<|sF (bnf h3)<|sP [1,0,1]<|sF (df h4)<|sT (dt h5)<|sP [1]<|sF (df h6)<|sP [0,1,0,1]<|sL)
theorem x3k {n0 n1 n2 n3 n4 n5:Int}{l6:List (Ty.den TB)}{n7 n8 n9 n10 n11:Int}{l12:List (Ty.den TB)}(h0:(h3q [.l TB l6])=(some (0,[.n n7,.n n8,.n n9,.n n10,.n n11,.l TB l12])))(h1:(n11=(0:Int)))(h2:(n7=n1))(h3:(n8=n0))(h4:(¬n9≤n3))(h5:(¬n3>(0:Int)))(h6:(n10>n4))(h7:(n10≤IntKind.wrap .i64 (n2-(1:Int)))):h3e [.n n0,.n n1,.n n2,.n n3,.n n4,.n n5,.l TB l6]=some ((1,[.n (0:Int),.n n0,.n n1,.n n2,.n n9,.n n10,.n n5,.l TB l6,.l TB l12])):=t2c j3u (sP [0]<|sA h0<|sP [1,1]<|sF (bnf h1)<|sF (bnf h2)<|sP [1]<|sF (bnf h3)<|sP [1,0,1]<|sF (df h4)<|sF (df h5)<|sT (dt h6)<|sP [1,0,1,1]<|sT (dt h7)<|sP [1]<|sL)
theorem u3a {n0 n1 n2 n3 n4 n5:Int}{l6:List (Ty.den TB)}{n7 n8 n9 n10 n11:Int}{l12:List (Ty.den TB)}(h0:(h3q [.l TB l6])=(some (0,[.n n7,.n n8,.n n9,.n n10,.n n11,.l TB l12])))(h1:(n11=(0:Int)))(h2:(n7=n1))(h3:(n8=n0))(h4:(¬n9≤n3))(h5:(¬n3>(0:Int)))(h6:(n10>n4))(h7:(¬n10≤IntKind.wrap .i64 (n2-(1:Int)))):h3e [.n n0,.n n1,.n n2,.n n3,.n n4,.n n5,.l TB l6]=some ((1,[.n (0:Int),.n n0,.n n1,.n n2,.n n9,.n n4,.n n5,.l TB l6,.l TB l12])):=t2c j3u (sP [0]<|sA h0<|sP [1,1]<|sF (bnf h1)<|sF (bnf h2)<|sP [1]<|sF (bnf h3)<|sP [1,0,1]<|sF (df h4)<|sF (df h5)<|sT (dt h6)<|sP [1,0,1,1]<|sF (df h7)<|sP [1]<|sL)
theorem x3y {n0 n1 n2 n3 n4 n5:Int}{l6:List (Ty.den TB)}{n7 n8 n9 n10 n11:Int}{l12:List (Ty.den TB)}(h0:(h3q [.l TB l6])=(some (0,[.n n7,.n n8,.n n9,.n n10,.n n11,.l TB l12])))(h1:(n11=(0:Int)))(h2:(n7=n1))(h3:(n8=n0))(h4:(¬n9≤n3))(h5:(¬n3>(0:Int)))(h6:(¬n10>n4)):h3e [.n n0,.n n1,.n n2,.n n3,.n n4,.n n5,.l TB l6]=some ((1,[.n (0:Int),.n n0,.n n1,.n n2,.n n9,.n n4,.n n5,.l TB l6,.l TB l12])):=t2c j3u (sP [0]<|sA h0<|sP [1,1]<|sF (bnf h1)<|sF (bnf h2)<|sP [1]<|sF (bnf h3)<|sP [1,0,1]<|sF (df h4)<|sF (df h5)<|sF (df h6)<|sP [0,1,0,1]<|sL)
theorem t3p {n0 n1 n2 n3 n4 n5:Int}{l6:List (Ty.den TB)}{n7 n8 n9 n10 n11:Int}(h0:(h3q [.l TB l6])=(some (1,[.n n7,.n n8,.n n9,.n n10,.n n11])))(h1:(¬n11=(0:Int))):h3e [.n n0,.n n1,.n n2,.n n3,.n n4,.n n5,.l TB l6]=some ((0,[.n n11,.n n0,.n n1,.n n2,.n n3,.n n4,.n n5,.l TB l6])):=t2c j3u (sP [0]<|sA h0<|sP [0,1,1]<|sT (bnt h1)<|sP [1]<|sL)
def t3w:FuncId→Option a0q:=e1c 14 [S_e14.k h3e] v3v
theorem o3s:CsOk Try.prog t3w:=csA1 n3k j3u
def S_m15:BSh:={args:=[.ptr 0 0,.own 1],blks:=[mnB 0,.arr TB 6],log:=[0],outs:=[(.tup [.str 0,.int .i64 1],[mnB 2,.arr TB 8])]}
def ev_m15:List Dat→Tree (Nat×List Dat):=evF t3w 15 ls0 S_m15
theorem j3v: ∃op,IsF ev_m15 15 S_m15 op:=bxF o3s (LsOk.none _ _ _)
def h3d:OpA:=opF j3v
theorem v3l {n0 n1 n2 n3 n4 n5:Int}{l6:List (Ty.den TB)}{n7 n8 n9 n10:Int}{s11:ByteArray}{b12:Bool}(h0:(h3o [.l TB l6])=(some (0,[.n n7,.n n8,.n n9,.n n10,.s s11,.b b12])))(h1:(b12=false)):h3d [.n n0,.n n1,.n n2,.n n3,.n n4,.n n5,.l TB l6]=some ((0,[.s {data:={toList:=[]}},.n (130:Int),.n n0,.n n1,.n n2,.n n3,.n n4,.n n5,.l TB l6])):=t2c j3v (sA h0<|sP [1,1]<|sT (nf h1)<|sP [1]<|sL)
theorem v3e {n0 n1 n2 n3 n4 n5:Int}{l6:List (Ty.den TB)}{n7 n8 n9 n10:Int}{s11:ByteArray}{b12:Bool}(h0:(h3o [.l TB l6])=(some (0,[.n n7,.n n8,.n n9,.n n10,.s s11,.b b12])))(h1:(b12=true))(h2:(¬n7=n1)):h3d [.n n0,.n n1,.n n2,.n n3,.n n4,.n n5,.l TB l6]=some ((0,[.s {data:={toList:=[]}},.n (2:Int),.n n0,.n n1,.n n2,.n n3,.n n4,.n n5,.l TB l6])):=t2c j3v (sA h0<|sP [1,1]<|sF (nt h1)<|sT (bnt h2)<|sP [1,1,1,1]<|sL)
theorem y3a {n0 n1 n2 n3 n4 n5:Int}{l6:List (Ty.den TB)}{n7 n8 n9 n10:Int}{s11:ByteArray}{b12:Bool}(h0:(h3o [.l TB l6])=(some (0,[.n n7,.n n8,.n n9,.n n10,.s s11,.b b12])))(h1:(b12=true))(h2:(n7=n1))(h3:(¬n8=n0)):h3d [.n n0,.n n1,.n n2,.n n3,.n n4,.n n5,.l TB l6]=some ((0,[.s {data:={toList:=[]}},.n (2:Int),.n n0,.n n1,.n n2,.n n3,.n n4,.n n5,.l TB l6])):=t2c j3v (sA h0<|sP [1,1]<|sF (nt h1)<|sF (bnf h2)<|sP [1]<|sT (bnt h3)<|sP [1]<|sL)
theorem v3a {n0 n1 n2 n3 n4 n5:Int}{l6:List (Ty.den TB)}{n7 n8 n9 n10:Int}{s11:ByteArray}{b12:Bool}(h0:(h3o [.l TB l6])=(some (0,[.n n7,.n n8,.n n9,.n n10,.s s11,.b b12])))(h1:(b12=true))(h2:(n7=n1))(h3:(n8=n0))(h4:(n9≤n3)):h3d [.n n0,.n n1,.n n2,.n n3,.n n4,.n n5,.l TB l6]=some ((0,[.s {data:={toList:=[]}},.n (180:Int),.n n0,.n n1,.n n2,.n n3,.n n4,.n n5,.l TB l6])):=t2c j3v (sA h0<|sP [1,1]<|sF (nt h1)<|sF (bnf h2)<|sP [1]<|sF (bnf h3)<|sP [1]<|sT (dt h4)<|sP [1]<|sL)
theorem u3p {n0 n1 n2 n3 n4 n5:Int}{l6:List (Ty.den TB)}{n7 n8 n9 n10:Int}{s11:ByteArray}{b12:Bool}(h0:(h3o [.l TB l6])=(some (0,[.n n7,.n n8,.n n9,.n n10,.s s11,.b b12])))(h1:(b12=true))(h2:(n7=n1))(h3:(n8=n0))(h4:(¬n9≤n3))(h5:(n3>(0:Int)))(h6:(n10>n4))(h7:(n10≤n2)):h3d [.n n0,.n n1,.n n2,.n n3,.n n4,.n n5,.l TB l6]=some ((0,[.s s11,.n (0:Int),.n n0,.n n1,.n n2,.n n9,.n n10,.n (IntKind.wrap .i64 (IntKind.wrap .i64 (IntKind.wrap .i64 (n5+n9)-n3)-(1:Int))),.l TB l6])):=t2c j3v (sA h0<|sP [1,1]<|sF (nt h1)<|sF (bnf h2)<|sP [1]<|sF (bnf h3)<|sP [1]<|sF (df h4)<|sT (dt h5)<|sP [1]<|sT (dt h6)<|sP [1]<|sT (dt h7)<|sP [1]<|sL)
theorem x3f {n0 n1 n2 n3 n4 n5:Int}{l6:List (Ty.den TB)}{n7 n8 n9 n10:Int}{s11:ByteArray}{b12:Bool}(h0:(h3o [.l TB l6])=(some (0,[.n n7,.n n8,.n n9,.n n10,.s s11,.b b12])))(h1:(b12=true))(h2:(n7=n1))(h3:(n8=n0))(h4:(¬n9≤n3))(h5:(n3>(0:Int)))(h6:(n10>n4))(h7:(¬n10≤n2)):h3d [.n n0,.n n1,.n n2,.n n3,.n n4,.n n5,.l TB l6]=some ((0,[.s s11,.n (0:Int),.n n0,.n n1,.n n2,.n n9,.n n4,.n (IntKind.wrap .i64 (IntKind.wrap .i64 (IntKind.wrap .i64 (n5+n9)-n3)-(1:Int))),.l TB l6])):=t2c j3v (sA h0<|sP [1,1]<|sF (nt h1)<|sF (bnf h2)<|sP [1]<|sF (bnf h3)<|sP [1]<|sF (df h4)<|sT (dt h5)<|sP [1]<|sT (dt h6)<|sP [1]<|sF (df h7)<|sP [1]<|sL)
theorem x3g {n0 n1 n2 n3 n4 n5:Int}{l6:List (Ty.den TB)}{n7 n8 n9 n10:Int}{s11:ByteArray}{b12:Bool}(h0:(h3o [.l TB l6])=(some (0,[.n n7,.n n8,.n n9,.n n10,.s s11,.b b12])))(h1:(b12=true))(h2:(n7=n1))(h3:(n8=n0))(h4:(¬n9≤n3))(h5:(n3>(0:Int)))(h6:(¬n10>n4)):h3d [.n n0,.n n1,.n n2,.n n3,.n n4,.n n5,.l TB l6]=some ((0,[.s s11,.n (0:Int),.n n0,.n n1,.n n2,.n n9,.n n4,.n (IntKind.wrap .i64 (IntKind.wrap .i64 (IntKind.wrap .i64 (n5+n9)-n3)-(1:Int))),.l TB l6])):=t2c j3v (sA h0<|sP [1,1]<|sF (nt h1)<|sF (bnf h2)<|sP [1]<|sF (bnf h3)<|sP [1]<|sF (df h4)<|sT (dt h5)<|sP [1]<|sF (df h6)<|sP [0,1,0,1]<|sL)
theorem x3z {n0 n1 n2 n3 n4 n5:Int}{l6:List (Ty.den TB)}{n7 n8 n9 n10:Int}{s11:ByteArray}{b12:Bool}(h0:(h3o [.l TB l6])=(some (0,[.n n7,.n n8,.n n9,.n n10,.s s11,.b b12])))(h1:(b12=true))(h2:(n7=n1))(h3:(n8=n0))(h4:(¬n9≤n3))(h5:(¬n3>(0:Int)))(h6:(n10>n4))(h7:(n10≤n2)):h3d [.n n0,.n n1,.n n2,.n n3,.n n4,.n n5,.l TB l6]=some ((0,[.s s11,.n (0:Int),.n n0,.n n1,.n n2,.n n9,.n n10,.n n5,.l TB l6])):=t2c j3v (sA h0<|sP [1,1]<|sF (nt h1)<|sF (bnf h2)<|sP [1]<|sF (bnf h3)<|sP [1]<|sF (df h4)<|sF (df h5)<|sT (dt h6)<|sP [1]<|sT (dt h7)<|sP [1]<|sL)
theorem y3b {n0 n1 n2 n3 n4 n5:Int}{l6:List (Ty.den TB)}{n7 n8 n9 n10:Int}{s11:ByteArray}{b12:Bool}(h0:(h3o [.l TB l6])=(some (0,[.n n7,.n n8,.n n9,.n n10,.s s11,.b b12])))(h1:(b12=true))(h2:(n7=n1))(h3:(n8=n0))(h4:(¬n9≤n3))(h5:(¬n3>(0:Int)))(h6:(n10>n4))(h7:(¬n10≤n2)):h3d [.n n0,.n n1,.n n2,.n n3,.n n4,.n n5,.l TB l6]=some ((0,[.s s11,.n (0:Int),.n n0,.n n1,.n n2,.n n9,.n n4,.n n5,.l TB l6])):=t2c j3v (sA h0<|sP [1,1]<|sF (nt h1)<|sF (bnf h2)<|sP [1]<|sF (bnf h3)<|sP [1]<|sF (df h4)<|sF (df h5)<|sT (dt h6)<|sP [1]<|sF (df h7)<|sP [1]<|sL)
theorem t3z {n0 n1 n2 n3 n4 n5:Int}{l6:List (Ty.den TB)}{n7 n8 n9 n10:Int}{s11:ByteArray}{b12:Bool}(h0:(h3o [.l TB l6])=(some (0,[.n n7,.n n8,.n n9,.n n10,.s s11,.b b12])))(h1:(b12=true))(h2:(n7=n1))(h3:(n8=n0))(h4:(¬n9≤n3))(h5:(¬n3>(0:Int)))(h6:(¬n10>n4)):h3d [.n n0,.n n1,.n n2,.n n3,.n n4,.n n5,.l TB l6]=some ((0,[.s s11,.n (0:Int),.n n0,.n n1,.n n2,.n n9,.n n4,.n n5,.l TB l6])):=t2c j3v (sA h0<|sP [1,1]<|sF (nt h1)<|sF (bnf h2)<|sP [1]<|sF (bnf h3)<|sP [1]<|sF (df h4)<|sF (df h5)<|sF (df h6)<|sP [0,1,0,1]<|sL)
def r3q:FuncId→Option a0q:=e1c 15 [S_m15.k h3d] t3w
theorem l3d:CsOk Try.prog r3q:=csA1 o3s j3v
def R_l7_5:LSh:={K:=0,log:=[],ins:=[(sh 53 [(0,.imm t0c 0),(3,.int .i64 1),(4,.int .i64 2)],[])],nils:=[],outs:=[(.exit 0,sh 53 [(3,.int .i64 0)],[]),(.ret,sh 53 [(2,.bool 0)],[])],cv:=[]}
def i3a:List Dat→Tree Step:=evL r3q 7 5 ls0 R_l7_5
theorem r3e: ∃op,IsL i3a 7 5 R_l7_5 op:=bxL l3d (LsOk.none _ _ _)
def p3o:OpA:=opL r3e
theorem l3n (env:List Dat):p3o env=a0b i3a FU env:=x3n r3e env
abbrev Bx_l7_5:MBox:=boxL r3e
theorem s3z {l0:List (Ty.den t0c)}{n1 n2:Int}(g0:0≤n2)(h0:(n2<(↑(List.length l0):Int)))(h1:((↑(List.length (Prod.fst (Prod.snd (List.getD l0 (Int.toNat n2) (Ty.dflt t0c))))):Int)>IntKind.wrap .i64 ((6000:Int)-n1))):(i3a [.k 0,.l t0c l0,.n n1,.n n2]).sel=some (Step.stop 1 [.b true]):=sP [1]<|sT (dt h0)<|sTo (c:=(inR n2 (List.length l0)))<|sT (dt h1)<|sP [1,1,1]<|sL
theorem s3r {l0:List (Ty.den t0c)}{n1 n2:Int}(g0:0≤n2)(h0:(n2<(↑(List.length l0):Int)))(h1:(¬(↑(List.length (Prod.fst (Prod.snd (List.getD l0 (Int.toNat n2) (Ty.dflt t0c))))):Int)>IntKind.wrap .i64 ((6000:Int)-n1)))(h2:((↑(List.length (Prod.fst (Prod.snd (Prod.snd (Prod.snd (Prod.snd (Prod.snd (Prod.snd (List.getD l0 (Int.toNat n2) (Ty.dflt t0c)))))))))):Int)>IntKind.wrap .i64 ((6000:Int)-n1))):(i3a [.k 0,.l t0c l0,.n n1,.n n2]).sel=some (Step.stop 1 [.b true]):=sP [1]<|sT (dt h0)<|sTo (c:=(inR n2 (List.length l0)))<|sF (df h1)<|sTo (c:=(inR n2 (List.length l0)))<|sT (dt h2)<|sP [1]<|sL
theorem t3n {l0:List (Ty.den t0c)}{n1 n2:Int}(g0:0≤n2)(h0:(n2<(↑(List.length l0):Int)))(h1:(¬(↑(List.length (Prod.fst (Prod.snd (List.getD l0 (Int.toNat n2) (Ty.dflt t0c))))):Int)>IntKind.wrap .i64 ((6000:Int)-n1)))(h2:(¬(↑(List.length (Prod.fst (Prod.snd (Prod.snd (Prod.snd (Prod.snd (Prod.snd (Prod.snd (List.getD l0 (Int.toNat n2) (Ty.dflt t0c)))))))))):Int)>IntKind.wrap .i64 ((6000:Int)-n1))):(i3a [.k 0,.l t0c l0,.n n1,.n n2]).sel=some (Step.go [.k 0,.l t0c l0,.n (IntKind.wrap .i64 (IntKind.wrap .i64 (n1+(↑(List.length (Prod.fst (Prod.snd (List.getD l0 (Int.toNat n2) (Ty.dflt t0c))))):Int))+(↑(List.length (Prod.fst (Prod.snd (Prod.snd (Prod.snd (Prod.snd (Prod.snd (Prod.snd (List.getD l0 (Int.toNat n2) (Ty.dflt t0c)))))))))):Int))),.n (IntKind.wrap .i64 (n2+(1:Int)))]):=sP [1]<|sT (dt h0)<|sTo (c:=(inR n2 (List.length l0)))<|sF (df h1)<|sTo (c:=(inR n2 (List.length l0)))<|sF (df h2)<|sTo (c:=(inR n2 (List.length l0)))<|sTo (c:=(inR n2 (List.length l0)))<|sP [1,1]<|sL
theorem s3w {l0:List (Ty.den t0c)}{n1 n2:Int}(g0:0≤n2)(h0:(¬n2<(↑(List.length l0):Int))):(i3a [.k 0,.l t0c l0,.n n1,.n n2]).sel=some (Step.stop 0 [.n n1]):=sP [1]<|sF (df h0)<|sP [1]<|sL
def S_l7:BSh:={args:=[.imm t0c 0],blks:=[],log:=[],outs:=[(.bool 0,[])]}
def ev_l7:List Dat→Tree (Nat×List Dat):=evF r3q 7 (lsM [(5,Bx_l7_5)] 0) S_l7
theorem e_l7: ∃op,IsF ev_l7 7 S_l7 op:=bxF l3d (lsE (lsC (q3c r3e) (atF) lsZ))
def l3j:OpA:=opF e_l7
theorem y3w {l0:List (Ty.den t0c)}(h0:((↑(List.length l0):Int)>(200:Int))):l3j [.l t0c l0]=some ((0,[.b true])):=t2c e_l7 (sT (dt h0)<|sP [1]<|sL)
theorem z3g {l0:List (Ty.den t0c)}{n1:Int}(h0:(¬(↑(List.length l0):Int)>(200:Int)))(h1:(p3o [.k 0,.l t0c l0,.n (0:Int),.n (0:Int)])=(some (0,[.n n1]))):l3j [.l t0c l0]=some ((0,[.b (decide (n1>(6000:Int)))])):=t2c e_l7 (sF (df h0)<|sA h1<|sP [1,1]<|sL)
theorem y3r {l0:List (Ty.den t0c)}{b1:Bool}(h0:(¬(↑(List.length l0):Int)>(200:Int)))(h1:(p3o [.k 0,.l t0c l0,.n (0:Int),.n (0:Int)])=(some (1,[.b b1]))):l3j [.l t0c l0]=some ((0,[.b b1])):=t2c e_l7 (sF (df h0)<|sA h1<|sP [0,1,1]<|sL)
def z3c:FuncId→Option a0q:=a0s 7 (S_l7.k l3j) r3q
theorem m3c:CsOk Try.prog z3c:=csL1 l3d e_l7
def R_3_23:LSh:={K:=0,log:=[],ins:=[(sh 189 [(3,.imm t0c 0),(9,.ptr 0 0),(11,.ptr 1 0),(12,.int .i64 1),(14,.own 2),(19,.str 2),(20,.own 3),(24,.int .i64 3)],[enB 4,mnB 10,.arr TB 16,.arr TB 17]),(sh 189 [(3,.imm t0c 0),(9,.ptr 0 0),(11,.ptr 1 0),(12,.int .i64 1),(14,.own 2),(19,.str 2),(20,.nilsl),(24,.int .i64 3)],[enB 4,mnB 10,.arr TB 16])],nils:=[],outs:=[(.exit 3,sh 189 [(3,.imm t0c 0),(9,.ptr 0 0),(11,.ptr 1 0),(12,.int .i64 1),(14,.own 2),(19,.str 2)],[enB 3,mnB 9,.arr TB 15])],cv:=[]}
def j3i:List Dat→Tree Step:=evL z3c 3 23 ls0 R_3_23
theorem r3p: ∃op,IsL j3i 3 23 R_3_23 op:=bxL m3c (LsOk.none _ _ _)
def i3d:OpA:=opL r3p
theorem l3r (env:List Dat):i3d env=a0b j3i FU env:=x3n r3p env
abbrev Bx_3_23:MBox:=boxL r3p
theorem t3f {l0:List (Ty.den t0c)}{n1:Int}{s2:ByteArray}{n3 n4 n5 n6 n7 n8 n9 n10 n11 n12 n13 n14 n15:Int}{l16 l17:List (Ty.den TB)}(g0:0≤n3)(h0:(n3<(↑(List.length l17):Int))):(j3i [.k 0,.l t0c l0,.n n1,.s s2,.n n3,.n n4,.n n5,.n n6,.n n7,.n n8,.n n9,.n n10,.n n11,.n n12,.n n13,.n n14,.n n15,.l TB l16,.l TB l17]).sel=some (Step.go [.k 0,.l t0c l0,.n n1,.s s2,.n (IntKind.wrap .i64 (n3+(1:Int))),.n n4,.n n5,.n n6,.n n7,.n n8,.n n9,.n n10,.n n11,.n n12,.n n13,.n n14,.n n15,.l TB l16,.l TB (List.set l17 (Int.toNat n3) (IntKind.wrap .u8 ((List.getD l17 (Int.toNat n3) (0:Int):Int)+(1:Int))))]):=sP [1]<|sT (dt h0)<|sTo (c:=(inR n3 (List.length l17)))<|sTo (c:=(inR n3 (List.length l17)))<|sP [1]<|sL
theorem t3t {l0:List (Ty.den t0c)}{n1:Int}{s2:ByteArray}{n3 n4 n5 n6 n7 n8 n9 n10 n11 n12 n13 n14 n15:Int}{l16 l17:List (Ty.den TB)}(g0:0≤n3)(h0:(¬n3<(↑(List.length l17):Int))):(j3i [.k 0,.l t0c l0,.n n1,.s s2,.n n3,.n n4,.n n5,.n n6,.n n7,.n n8,.n n9,.n n10,.n n11,.n n12,.n n13,.n n14,.n n15,.l TB l16,.l TB l17]).sel=some (Step.stop 0 [.l t0c l0,.n n1,.s s2,.n n4,.n n5,.n n6,.n n7,.n n8,.n n9,.n n10,.n n11,.n n12,.n n13,.n n14,.n n15,.l TB l16]):=sP [1]<|sF (df h0)<|sP [1]<|sL
theorem s3k {l0:List (Ty.den t0c)}{n1:Int}{s2:ByteArray}{n3 n4 n5 n6 n7 n8 n9 n10 n11 n12 n13 n14 n15:Int}{l16:List (Ty.den TB)}(g0:0≤n3):(j3i [.k 1,.l t0c l0,.n n1,.s s2,.n n3,.n n4,.n n5,.n n6,.n n7,.n n8,.n n9,.n n10,.n n11,.n n12,.n n13,.n n14,.n n15,.l TB l16]).sel=some (Step.stop 0 [.l t0c l0,.n n1,.s s2,.n n4,.n n5,.n n6,.n n7,.n n8,.n n9,.n n10,.n n11,.n n12,.n n13,.n n14,.n n15,.l TB l16]):=sP [1]<|sFs (c:=(decide (n3<(0:Int))))<|sP [1]<|sL
def R_3_10:LSh:={K:=0,log:=[],ins:=[(sh 189 [(3,.imm t0c 0),(9,.ptr 0 0),(11,.ptr 1 0),(12,.int .i64 1)],[enB 2,mnB 8])],nils:=[],outs:=[(.exit 0,sh 189 [],[]),(.ret,sh 189 [(8,.bool 0)],[])],cv:=[]}
def t1c:List Dat→Tree Step:=evL z3c 3 10 (lsM [(23,Bx_3_23)] 0) R_3_10
theorem r3n: ∃op,IsL t1c 3 10 R_3_10 op:=bxL m3c (lsE (lsC (q3c r3p) (by kernel_rfl) lsZ))
def y3j:OpA:=opL r3n
theorem t3h (env:List Dat):y3j env=a0b t1c FU env:=x3n r3n env
abbrev Bx_3_10:MBox:=boxL r3n
theorem n3r {l0:List (Ty.den t0c)}{n1 n2 n3 n4 n5 n6 n7 n8:Int}{l9:List (Ty.den TB)}(g0:0≤n1)(g1:n1<(l0.length:Int))(g2:Int.tmod (Prod.fst (List.getD l0 (Int.toNat n1) (Ty.dflt t0c))) 8=0)(g3:h3m [.n n2,.n n3,.n n4,.n n5,.n n6,.n n7,.l TB (c0b (r2b (Prod.fst (Prod.snd (List.getD l0 (Int.toNat n1) (Ty.dflt t0c))))))]=some (0,[.n 3,.n n2,.n n3,.n n4,.n n5,.n n6,.n n7,.l TB l9]))(g4:h3l [.s (r2b (Prod.fst (Prod.snd (List.getD l0 (Int.toNat n1) (Ty.dflt t0c))))),.n n2,.n n3,.n n8,.n n5,.n n6,.n n7]=some (0,[.n 3,.n n2,.n n3,.n n8,.n n5,.n n6,.n n7]))(g5:IntKind.wrap .i64 (n4-(1:Int))=n8):(t1c [.k 0,.l t0c l0,.n n1,.n n2,.n n3,.n n4,.n n5,.n n6,.n n7,.n n2,.n n3,.n n8,.n n5,.n n6,.n n7]).sel=some (Step.go [.k 0,.l t0c l0,.n (IntKind.wrap .i64 (n1+(1:Int))),.n n2,.n n3,.n n4,.n n5,.n n6,.n n7,.n n2,.n n3,.n n8,.n n5,.n n6,.n n7]):=sP [1]<|sTs (c:=(decide (n1<(↑(List.length l0):Int))))<|sTo (c:=(inR n1 (List.length l0)))<|sP [1]<|sTs (c:=(Int.tmod (Prod.fst (List.getD l0 (Int.toNat n1) (Ty.dflt t0c))) (8:Int)==(0:Int)))<|sTs (c:=(Int.tmod (Prod.fst (List.getD l0 (Int.toNat n1) (Ty.dflt t0c))) (8:Int)==(0:Int)))<|sP [1]<|sA g3<|sP [1,1,1]<|sA g4<|sP [1,1,0,0,1,0,1]<|sFs (c:=(IntKind.wrap .i64 (n4-(1:Int)) !=n8))<|sP [1,0,1]<|sF (bnf (a:=(n5)) rfl)<|sP [1,0,1]<|sF (bnf (a:=(n6)) rfl)<|sP [1,0,1,1]<|sF (bnf (a:=(n7)) rfl)<|sP [1]<|sL
theorem p3b {l0:List (Ty.den t0c)}{n1 n2 n3 n4 n5 n6 n7 n8 n9:Int}{l10:List (Ty.den TB)}{n11:Int}{l12:List (Ty.den TB)}(g0:0≤n1)(g1:n1<(l0.length:Int))(g2:Int.tmod (Prod.fst (List.getD l0 (Int.toNat n1) (Ty.dflt t0c))) 8=0)(g3:h3m [.n n2,.n n3,.n n4,.n n5,.n n6,.n n7,.l TB (c0b (r2b (Prod.fst (Prod.snd (List.getD l0 (Int.toNat n1) (Ty.dflt t0c))))))]=some (1,[.n 0,.n n2,.n n3,.n n9,.n n5,.n n6,.n n7,.l TB l10,.l TB l12]))(g4:h3l [.s (r2b (Prod.fst (Prod.snd (List.getD l0 (Int.toNat n1) (Ty.dflt t0c))))),.n n2,.n n3,.n n8,.n n5,.n n6,.n n7]=some (1,[.n 0,.n n2,.n n3,.n n11,.n n5,.n n6,.n n7,.l TB l12]))(g5:f0b (r2b l12) (r2b l12)=true)(g6:IntKind.wrap .i64 (n9-(1:Int))=n11):(t1c [.k 0,.l t0c l0,.n n1,.n n2,.n n3,.n n4,.n n5,.n n6,.n n7,.n n2,.n n3,.n n8,.n n5,.n n6,.n n7]).sel=some (Step.go [.k 0,.l t0c l0,.n (IntKind.wrap .i64 (n1+(1:Int))),.n n2,.n n3,.n n9,.n n5,.n n6,.n n7,.n n2,.n n3,.n n11,.n n5,.n n6,.n n7]):=sP [1]<|sTs (c:=(decide (n1<(↑(List.length l0):Int))))<|sTo (c:=(inR n1 (List.length l0)))<|sP [1]<|sTs (c:=(Int.tmod (Prod.fst (List.getD l0 (Int.toNat n1) (Ty.dflt t0c))) (8:Int)==(0:Int)))<|sTs (c:=(Int.tmod (Prod.fst (List.getD l0 (Int.toNat n1) (Ty.dflt t0c))) (8:Int)==(0:Int)))<|sP [1]<|sA g3<|sP [0,1,1,1]<|sA g4<|sP [0,1,1,0]<|sFs (c:=(!f0b (r2b l12) (r2b l12)))<|sP [1,0,1]<|sFs (c:=(IntKind.wrap .i64 (n9-(1:Int)) !=n11))<|sP [1,0,1]<|sF (bnf (a:=(n5)) rfl)<|sP [1,0,1]<|sF (bnf (a:=(n6)) rfl)<|sP [1,0,1,1]<|sF (bnf (a:=(n7)) rfl)<|sP [1]<|sL
theorem n3q {l0:List (Ty.den t0c)}{n1 n2 n3 n4 n5 n6 n7 n8:Int}{l9:List (Ty.den TB)}(g0:0≤n1)(g1:n1<(l0.length:Int))(g2:Int.tmod (Prod.fst (List.getD l0 (Int.toNat n1) (Ty.dflt t0c))) 8=1)(g3:h3m [.n n2,.n n3,.n n4,.n n5,.n n6,.n n7,.l TB (c0b (r2b (Prod.fst (Prod.snd (List.getD l0 (Int.toNat n1) (Ty.dflt t0c))))))]=some (0,[.n 3,.n n2,.n n3,.n n4,.n n5,.n n6,.n n7,.l TB l9]))(g4:h3l [.s (r2b (Prod.fst (Prod.snd (List.getD l0 (Int.toNat n1) (Ty.dflt t0c))))),.n n2,.n n3,.n n8,.n n5,.n n6,.n n7]=some (0,[.n 3,.n n2,.n n3,.n n8,.n n5,.n n6,.n n7]))(g5:IntKind.wrap .i64 (n4-(1:Int))=n8):(t1c [.k 0,.l t0c l0,.n n1,.n n2,.n n3,.n n4,.n n5,.n n6,.n n7,.n n2,.n n3,.n n8,.n n5,.n n6,.n n7]).sel=some (Step.go [.k 0,.l t0c l0,.n (IntKind.wrap .i64 (n1+(1:Int))),.n n2,.n n3,.n n4,.n n5,.n n6,.n n7,.n n2,.n n3,.n n8,.n n5,.n n6,.n n7]):=sP [1]<|sTs (c:=(decide (n1<(↑(List.length l0):Int))))<|sTo (c:=(inR n1 (List.length l0)))<|sP [1]<|sFs (c:=(Int.tmod (Prod.fst (List.getD l0 (Int.toNat n1) (Ty.dflt t0c))) (8:Int)==(0:Int)))<|sTs (c:=(Int.tmod (Prod.fst (List.getD l0 (Int.toNat n1) (Ty.dflt t0c))) (8:Int)==(1:Int)))<|sTs (c:=(Int.tmod (Prod.fst (List.getD l0 (Int.toNat n1) (Ty.dflt t0c))) (8:Int)==(1:Int)))<|sP [1]<|sA g3<|sP [1,1,1]<|sA g4<|sP [1,1,0,0,1,0,1]<|sFs (c:=(IntKind.wrap .i64 (n4-(1:Int)) !=n8))<|sP [1,0,1]<|sF (bnf (a:=(n5)) rfl)<|sP [1,0,1]<|sF (bnf (a:=(n6)) rfl)<|sP [1,0,1,1]<|sF (bnf (a:=(n7)) rfl)<|sP [1]<|sL
theorem m3k {l0:List (Ty.den t0c)}{n1 n2 n3 n4 n5 n6 n7 n8 n9:Int}{l10:List (Ty.den TB)}{n11:Int}{l12:List (Ty.den TB)}(g0:0≤n1)(g1:n1<(l0.length:Int))(g2:Int.tmod (Prod.fst (List.getD l0 (Int.toNat n1) (Ty.dflt t0c))) 8=1)(g3:h3m [.n n2,.n n3,.n n4,.n n5,.n n6,.n n7,.l TB (c0b (r2b (Prod.fst (Prod.snd (List.getD l0 (Int.toNat n1) (Ty.dflt t0c))))))]=some (1,[.n 0,.n n2,.n n3,.n n9,.n n5,.n n6,.n n7,.l TB l10,.l TB l12]))(g4:h3l [.s (r2b (Prod.fst (Prod.snd (List.getD l0 (Int.toNat n1) (Ty.dflt t0c))))),.n n2,.n n3,.n n8,.n n5,.n n6,.n n7]=some (1,[.n 0,.n n2,.n n3,.n n11,.n n5,.n n6,.n n7,.l TB l12]))(g5:f0b (r2b l12) (r2b l12)=true)(g6:IntKind.wrap .i64 (n9-(1:Int))=n11):(t1c [.k 0,.l t0c l0,.n n1,.n n2,.n n3,.n n4,.n n5,.n n6,.n n7,.n n2,.n n3,.n n8,.n n5,.n n6,.n n7]).sel=some (Step.go [.k 0,.l t0c l0,.n (IntKind.wrap .i64 (n1+(1:Int))),.n n2,.n n3,.n n9,.n n5,.n n6,.n n7,.n n2,.n n3,.n n11,.n n5,.n n6,.n n7]):=sP [1]<|sTs (c:=(decide (n1<(↑(List.length l0):Int))))<|sTo (c:=(inR n1 (List.length l0)))<|sP [1]<|sFs (c:=(Int.tmod (Prod.fst (List.getD l0 (Int.toNat n1) (Ty.dflt t0c))) (8:Int)==(0:Int)))<|sTs (c:=(Int.tmod (Prod.fst (List.getD l0 (Int.toNat n1) (Ty.dflt t0c))) (8:Int)==(1:Int)))<|sTs (c:=(Int.tmod (Prod.fst (List.getD l0 (Int.toNat n1) (Ty.dflt t0c))) (8:Int)==(1:Int)))<|sP [1]<|sA g3<|sP [0,1,1,1]<|sA g4<|sP [0,1,1,0]<|sFs (c:=(!f0b (r2b l12) (r2b l12)))<|sP [1,0,1]<|sFs (c:=(IntKind.wrap .i64 (n9-(1:Int)) !=n11))<|sP [1,0,1]<|sF (bnf (a:=(n5)) rfl)<|sP [1,0,1]<|sF (bnf (a:=(n6)) rfl)<|sP [1,0,1,1]<|sF (bnf (a:=(n7)) rfl)<|sP [1]<|sL
theorem o3o {l0:List (Ty.den t0c)}{n1 n2 n3 n4 n5 n6 n7 n8:Int}{l9:List (Ty.den TB)}(g0:0≤n1)(g1:n1<(l0.length:Int))(g2:Int.tmod (Prod.fst (List.getD l0 (Int.toNat n1) (Ty.dflt t0c))) 8=5)(g3:h3m [.n n2,.n n3,.n n4,.n n5,.n n6,.n n7,.l TB (c0b (r2b (Prod.fst (Prod.snd (List.getD l0 (Int.toNat n1) (Ty.dflt t0c))))))]=some (0,[.n 3,.n n2,.n n3,.n n4,.n n5,.n n6,.n n7,.l TB l9]))(g4:h3l [.s (r2b (Prod.fst (Prod.snd (List.getD l0 (Int.toNat n1) (Ty.dflt t0c))))),.n n2,.n n3,.n n8,.n n5,.n n6,.n n7]=some (0,[.n 3,.n n2,.n n3,.n n8,.n n5,.n n6,.n n7]))(g5:IntKind.wrap .i64 (n4-(1:Int))=n8):(t1c [.k 0,.l t0c l0,.n n1,.n n2,.n n3,.n n4,.n n5,.n n6,.n n7,.n n2,.n n3,.n n8,.n n5,.n n6,.n n7]).sel=some (Step.go [.k 0,.l t0c l0,.n (IntKind.wrap .i64 (n1+(1:Int))),.n n2,.n n3,.n n4,.n n5,.n n6,.n n7,.n n2,.n n3,.n n8,.n n5,.n n6,.n n7]):=sP [1]<|sTs (c:=(decide (n1<(↑(List.length l0):Int))))<|sTo (c:=(inR n1 (List.length l0)))<|sP [1]<|sFs (c:=(Int.tmod (Prod.fst (List.getD l0 (Int.toNat n1) (Ty.dflt t0c))) (8:Int)==(0:Int)))<|sFs (c:=(Int.tmod (Prod.fst (List.getD l0 (Int.toNat n1) (Ty.dflt t0c))) (8:Int)==(1:Int)))<|sTs (c:=(Int.tmod (Prod.fst (List.getD l0 (Int.toNat n1) (Ty.dflt t0c))) (8:Int)==(5:Int)))<|sTs (c:=(Int.tmod (Prod.fst (List.getD l0 (Int.toNat n1) (Ty.dflt t0c))) (8:Int)==(5:Int)))<|sP [1]<|sA g3<|sP [1,1,1]<|sA g4<|sP [1,1,0,0,1,0,1]<|sFs (c:=(IntKind.wrap .i64 (n4-(1:Int)) !=n8))<|sP [1,0,1]<|sF (bnf (a:=(n5)) rfl)<|sP [1,0,1]<|sF (bnf (a:=(n6)) rfl)<|sP [1,0,1,1]<|sF (bnf (a:=(n7)) rfl)<|sP [1]<|sL
theorem o3g {l0:List (Ty.den t0c)}{n1 n2 n3 n4 n5 n6 n7 n8 n9:Int}{l10:List (Ty.den TB)}{n11:Int}{l12:List (Ty.den TB)}(g0:0≤n1)(g1:n1<(l0.length:Int))(g2:Int.tmod (Prod.fst (List.getD l0 (Int.toNat n1) (Ty.dflt t0c))) 8=5)(g3:h3m [.n n2,.n n3,.n n4,.n n5,.n n6,.n n7,.l TB (c0b (r2b (Prod.fst (Prod.snd (List.getD l0 (Int.toNat n1) (Ty.dflt t0c))))))]=some (1,[.n 0,.n n2,.n n3,.n n9,.n n5,.n n6,.n n7,.l TB l10,.l TB l12]))(g4:h3l [.s (r2b (Prod.fst (Prod.snd (List.getD l0 (Int.toNat n1) (Ty.dflt t0c))))),.n n2,.n n3,.n n8,.n n5,.n n6,.n n7]=some (1,[.n 0,.n n2,.n n3,.n n11,.n n5,.n n6,.n n7,.l TB l12]))(g5:f0b (r2b l12) (r2b l12)=true)(g6:IntKind.wrap .i64 (n9-(1:Int))=n11):(t1c [.k 0,.l t0c l0,.n n1,.n n2,.n n3,.n n4,.n n5,.n n6,.n n7,.n n2,.n n3,.n n8,.n n5,.n n6,.n n7]).sel=some (Step.go [.k 0,.l t0c l0,.n (IntKind.wrap .i64 (n1+(1:Int))),.n n2,.n n3,.n n9,.n n5,.n n6,.n n7,.n n2,.n n3,.n n11,.n n5,.n n6,.n n7]):=sP [1]<|sTs (c:=(decide (n1<(↑(List.length l0):Int))))<|sTo (c:=(inR n1 (List.length l0)))<|sP [1]<|sFs (c:=(Int.tmod (Prod.fst (List.getD l0 (Int.toNat n1) (Ty.dflt t0c))) (8:Int)==(0:Int)))<|sFs (c:=(Int.tmod (Prod.fst (List.getD l0 (Int.toNat n1) (Ty.dflt t0c))) (8:Int)==(1:Int)))<|sTs (c:=(Int.tmod (Prod.fst (List.getD l0 (Int.toNat n1) (Ty.dflt t0c))) (8:Int)==(5:Int)))<|sTs (c:=(Int.tmod (Prod.fst (List.getD l0 (Int.toNat n1) (Ty.dflt t0c))) (8:Int)==(5:Int)))<|sP [1]<|sA g3<|sP [0,1,1,1]<|sA g4<|sP [0,1,1,0]<|sFs (c:=(!f0b (r2b l12) (r2b l12)))<|sP [1,0,1]<|sFs (c:=(IntKind.wrap .i64 (n9-(1:Int)) !=n11))<|sP [1,0,1]<|sF (bnf (a:=(n5)) rfl)<|sP [1,0,1]<|sF (bnf (a:=(n6)) rfl)<|sP [1,0,1,1]<|sF (bnf (a:=(n7)) rfl)<|sP [1]<|sL
theorem n3m {l0:List (Ty.den t0c)}{n1 n2 n3 n4 n5 n6 n7 n8:Int}{l9:List (Ty.den TB)}(g0:0≤n1)(g1:n1<(l0.length:Int))(g2:Int.tmod (Prod.fst (List.getD l0 (Int.toNat n1) (Ty.dflt t0c))) 8=6)(g3:h3m [.n n2,.n n3,.n n4,.n n5,.n n6,.n n7,.l TB (c0b (r2b (Prod.fst (Prod.snd (List.getD l0 (Int.toNat n1) (Ty.dflt t0c))))))]=some (0,[.n 3,.n n2,.n n3,.n n4,.n n5,.n n6,.n n7,.l TB l9]))(g4:h3l [.s (r2b (Prod.fst (Prod.snd (List.getD l0 (Int.toNat n1) (Ty.dflt t0c))))),.n n2,.n n3,.n n8,.n n5,.n n6,.n n7]=some (0,[.n 3,.n n2,.n n3,.n n8,.n n5,.n n6,.n n7]))(g5:IntKind.wrap .i64 (n4-(1:Int))=n8):(t1c [.k 0,.l t0c l0,.n n1,.n n2,.n n3,.n n4,.n n5,.n n6,.n n7,.n n2,.n n3,.n n8,.n n5,.n n6,.n n7]).sel=some (Step.go [.k 0,.l t0c l0,.n (IntKind.wrap .i64 (n1+(1:Int))),.n n2,.n n3,.n n4,.n n5,.n n6,.n n7,.n n2,.n n3,.n n8,.n n5,.n n6,.n n7]):=sP [1]<|sTs (c:=(decide (n1<(↑(List.length l0):Int))))<|sTo (c:=(inR n1 (List.length l0)))<|sP [1]<|sFs (c:=(Int.tmod (Prod.fst (List.getD l0 (Int.toNat n1) (Ty.dflt t0c))) (8:Int)==(0:Int)))<|sFs (c:=(Int.tmod (Prod.fst (List.getD l0 (Int.toNat n1) (Ty.dflt t0c))) (8:Int)==(1:Int)))<|sFs (c:=(Int.tmod (Prod.fst (List.getD l0 (Int.toNat n1) (Ty.dflt t0c))) (8:Int)==(5:Int)))<|sTs (c:=(Int.tmod (Prod.fst (List.getD l0 (Int.toNat n1) (Ty.dflt t0c))) (8:Int)==(6:Int)))<|sTs (c:=(Int.tmod (Prod.fst (List.getD l0 (Int.toNat n1) (Ty.dflt t0c))) (8:Int)==(6:Int)))<|sP [1]<|sA g3<|sP [1,1,1]<|sA g4<|sP [1,1,0,0,1,0,1]<|sFs (c:=(IntKind.wrap .i64 (n4-(1:Int)) !=n8))<|sP [1,0,1]<|sF (bnf (a:=(n5)) rfl)<|sP [1,0,1]<|sF (bnf (a:=(n6)) rfl)<|sP [1,0,1,1]<|sF (bnf (a:=(n7)) rfl)<|sP [1]<|sL
theorem m3y {l0:List (Ty.den t0c)}{n1 n2 n3 n4 n5 n6 n7 n8 n9:Int}{l10:List (Ty.den TB)}{n11:Int}{l12:List (Ty.den TB)}(g0:0≤n1)(g1:n1<(l0.length:Int))(g2:Int.tmod (Prod.fst (List.getD l0 (Int.toNat n1) (Ty.dflt t0c))) 8=6)(g3:h3m [.n n2,.n n3,.n n4,.n n5,.n n6,.n n7,.l TB (c0b (r2b (Prod.fst (Prod.snd (List.getD l0 (Int.toNat n1) (Ty.dflt t0c))))))]=some (1,[.n 0,.n n2,.n n3,.n n9,.n n5,.n n6,.n n7,.l TB l10,.l TB l12]))(g4:h3l [.s (r2b (Prod.fst (Prod.snd (List.getD l0 (Int.toNat n1) (Ty.dflt t0c))))),.n n2,.n n3,.n n8,.n n5,.n n6,.n n7]=some (1,[.n 0,.n n2,.n n3,.n n11,.n n5,.n n6,.n n7,.l TB l12]))(g5:f0b (r2b l12) (r2b l12)=true)(g6:IntKind.wrap .i64 (n9-(1:Int))=n11):(t1c [.k 0,.l t0c l0,.n n1,.n n2,.n n3,.n n4,.n n5,.n n6,.n n7,.n n2,.n n3,.n n8,.n n5,.n n6,.n n7]).sel=some (Step.go [.k 0,.l t0c l0,.n (IntKind.wrap .i64 (n1+(1:Int))),.n n2,.n n3,.n n9,.n n5,.n n6,.n n7,.n n2,.n n3,.n n11,.n n5,.n n6,.n n7]):=sP [1]<|sTs (c:=(decide (n1<(↑(List.length l0):Int))))<|sTo (c:=(inR n1 (List.length l0)))<|sP [1]<|sFs (c:=(Int.tmod (Prod.fst (List.getD l0 (Int.toNat n1) (Ty.dflt t0c))) (8:Int)==(0:Int)))<|sFs (c:=(Int.tmod (Prod.fst (List.getD l0 (Int.toNat n1) (Ty.dflt t0c))) (8:Int)==(1:Int)))<|sFs (c:=(Int.tmod (Prod.fst (List.getD l0 (Int.toNat n1) (Ty.dflt t0c))) (8:Int)==(5:Int)))<|sTs (c:=(Int.tmod (Prod.fst (List.getD l0 (Int.toNat n1) (Ty.dflt t0c))) (8:Int)==(6:Int)))<|sTs (c:=(Int.tmod (Prod.fst (List.getD l0 (Int.toNat n1) (Ty.dflt t0c))) (8:Int)==(6:Int)))<|sP [1]<|sA g3<|sP [0,1,1,1]<|sA g4<|sP [0,1,1,0]<|sFs (c:=(!f0b (r2b l12) (r2b l12)))<|sP [1,0,1]<|sFs (c:=(IntKind.wrap .i64 (n9-(1:Int)) !=n11))<|sP [1,0,1]<|sF (bnf (a:=(n5)) rfl)<|sP [1,0,1]<|sF (bnf (a:=(n6)) rfl)<|sP [1,0,1,1]<|sF (bnf (a:=(n7)) rfl)<|sP [1]<|sL
theorem o3q {l0:List (Ty.den t0c)}{n1 n2 n3 n4 n5 n6 n7 n8:Int}{l9:List (Ty.den TB)}(g0:0≤n1)(g1:n1<(l0.length:Int))(g2:Int.tmod (Prod.fst (List.getD l0 (Int.toNat n1) (Ty.dflt t0c))) 8=7)(g3:h3m [.n n2,.n n3,.n n4,.n n5,.n n6,.n n7,.l TB (c0b (r2b (Prod.fst (Prod.snd (List.getD l0 (Int.toNat n1) (Ty.dflt t0c))))))]=some (0,[.n 3,.n n2,.n n3,.n n4,.n n5,.n n6,.n n7,.l TB l9]))(g4:h3l [.s (r2b (Prod.fst (Prod.snd (List.getD l0 (Int.toNat n1) (Ty.dflt t0c))))),.n n2,.n n3,.n n8,.n n5,.n n6,.n n7]=some (0,[.n 3,.n n2,.n n3,.n n8,.n n5,.n n6,.n n7]))(g5:IntKind.wrap .i64 (n4-(1:Int))=n8):(t1c [.k 0,.l t0c l0,.n n1,.n n2,.n n3,.n n4,.n n5,.n n6,.n n7,.n n2,.n n3,.n n8,.n n5,.n n6,.n n7]).sel=some (Step.go [.k 0,.l t0c l0,.n (IntKind.wrap .i64 (n1+(1:Int))),.n n2,.n n3,.n n4,.n n5,.n n6,.n n7,.n n2,.n n3,.n n8,.n n5,.n n6,.n n7]):=sP [1]<|sTs (c:=(decide (n1<(↑(List.length l0):Int))))<|sTo (c:=(inR n1 (List.length l0)))<|sP [1]<|sFs (c:=(Int.tmod (Prod.fst (List.getD l0 (Int.toNat n1) (Ty.dflt t0c))) (8:Int)==(0:Int)))<|sFs (c:=(Int.tmod (Prod.fst (List.getD l0 (Int.toNat n1) (Ty.dflt t0c))) (8:Int)==(1:Int)))<|sFs (c:=(Int.tmod (Prod.fst (List.getD l0 (Int.toNat n1) (Ty.dflt t0c))) (8:Int)==(5:Int)))<|sFs (c:=(Int.tmod (Prod.fst (List.getD l0 (Int.toNat n1) (Ty.dflt t0c))) (8:Int)==(6:Int)))<|sTs (c:=(Int.tmod (Prod.fst (List.getD l0 (Int.toNat n1) (Ty.dflt t0c))) (8:Int)==(7:Int)))<|sP [1]<|sA g3<|sP [1,1,1]<|sA g4<|sP [1,1,0,0,1,0,1]<|sFs (c:=(IntKind.wrap .i64 (n4-(1:Int)) !=n8))<|sP [1,0,1]<|sF (bnf (a:=(n5)) rfl)<|sP [1,0,1]<|sF (bnf (a:=(n6)) rfl)<|sP [1,0,1,1]<|sF (bnf (a:=(n7)) rfl)<|sP [1]<|sL
theorem n3e {l0:List (Ty.den t0c)}{n1 n2 n3 n4 n5 n6 n7 n8 n9:Int}{l10:List (Ty.den TB)}{n11:Int}{l12:List (Ty.den TB)}(g0:0≤n1)(g1:n1<(l0.length:Int))(g2:Int.tmod (Prod.fst (List.getD l0 (Int.toNat n1) (Ty.dflt t0c))) 8=7)(g3:h3m [.n n2,.n n3,.n n4,.n n5,.n n6,.n n7,.l TB (c0b (r2b (Prod.fst (Prod.snd (List.getD l0 (Int.toNat n1) (Ty.dflt t0c))))))]=some (1,[.n 0,.n n2,.n n3,.n n9,.n n5,.n n6,.n n7,.l TB l10,.l TB l12]))(g4:h3l [.s (r2b (Prod.fst (Prod.snd (List.getD l0 (Int.toNat n1) (Ty.dflt t0c))))),.n n2,.n n3,.n n8,.n n5,.n n6,.n n7]=some (1,[.n 0,.n n2,.n n3,.n n11,.n n5,.n n6,.n n7,.l TB l12]))(g5:f0b (r2b l12) (r2b l12)=true)(g6:IntKind.wrap .i64 (n9-(1:Int))=n11):(t1c [.k 0,.l t0c l0,.n n1,.n n2,.n n3,.n n4,.n n5,.n n6,.n n7,.n n2,.n n3,.n n8,.n n5,.n n6,.n n7]).sel=some (Step.go [.k 0,.l t0c l0,.n (IntKind.wrap .i64 (n1+(1:Int))),.n n2,.n n3,.n n9,.n n5,.n n6,.n n7,.n n2,.n n3,.n n11,.n n5,.n n6,.n n7]):=sP [1]<|sTs (c:=(decide (n1<(↑(List.length l0):Int))))<|sTo (c:=(inR n1 (List.length l0)))<|sP [1]<|sFs (c:=(Int.tmod (Prod.fst (List.getD l0 (Int.toNat n1) (Ty.dflt t0c))) (8:Int)==(0:Int)))<|sFs (c:=(Int.tmod (Prod.fst (List.getD l0 (Int.toNat n1) (Ty.dflt t0c))) (8:Int)==(1:Int)))<|sFs (c:=(Int.tmod (Prod.fst (List.getD l0 (Int.toNat n1) (Ty.dflt t0c))) (8:Int)==(5:Int)))<|sFs (c:=(Int.tmod (Prod.fst (List.getD l0 (Int.toNat n1) (Ty.dflt t0c))) (8:Int)==(6:Int)))<|sTs (c:=(Int.tmod (Prod.fst (List.getD l0 (Int.toNat n1) (Ty.dflt t0c))) (8:Int)==(7:Int)))<|sP [1]<|sA g3<|sP [0,1,1,1]<|sA g4<|sP [0,1,1,0]<|sFs (c:=(!f0b (r2b l12) (r2b l12)))<|sP [1,0,1]<|sFs (c:=(IntKind.wrap .i64 (n9-(1:Int)) !=n11))<|sP [1,0,1]<|sF (bnf (a:=(n5)) rfl)<|sP [1,0,1]<|sF (bnf (a:=(n6)) rfl)<|sP [1,0,1,1]<|sF (bnf (a:=(n7)) rfl)<|sP [1]<|sL
theorem n3x {l0:List (Ty.den t0c)}{n1 n2 n3 n4 n5 n6 n7 n8:Int}{l9:List (Ty.den TB)}{n10:Int}{s11:ByteArray}(g0:0≤n1)(g1:n1<(l0.length:Int))(g2:Int.tmod (Prod.fst (List.getD l0 (Int.toNat n1) (Ty.dflt t0c))) 8=2)(g3:j3c [.n (Prod.fst (Prod.snd (Prod.snd (List.getD l0 (Int.toNat n1) (Ty.dflt t0c))))),.n (Prod.fst (Prod.snd (Prod.snd (Prod.snd (List.getD l0 (Int.toNat n1) (Ty.dflt t0c)))))),.n (Prod.fst (Prod.snd (Prod.snd (Prod.snd (Prod.snd (List.getD l0 (Int.toNat n1) (Ty.dflt t0c))))))),.n (Prod.fst (Prod.snd (Prod.snd (Prod.snd (Prod.snd (Prod.snd (List.getD l0 (Int.toNat n1) (Ty.dflt t0c)))))))),.l TB (Prod.fst (Prod.snd (Prod.snd (Prod.snd (Prod.snd (Prod.snd (Prod.snd (List.getD l0 (Int.toNat n1) (Ty.dflt t0c)))))))))]=some (0,[.l TB l9]))(g4:f0b (r2b l9) (r2b l9)=true)(g5:h3e [.n n2,.n n3,.n n4,.n n5,.n n6,.n n7,.l TB l9]=some (0,[.n n10,.n n2,.n n3,.n n4,.n n5,.n n6,.n n7,.l TB l9]))(g6:h3d [.n n2,.n n3,.n n8,.n n5,.n n6,.n n7,.l TB (c0b (r2b l9))]=some (0,[.s s11,.n n10,.n n2,.n n3,.n n8,.n n5,.n n6,.n n7,.l TB (c0b (r2b l9))]))(g7:f0b (r2b ([]:List Int)) s11=true)(g8:i3d [.k 1,.l t0c l0,.n n1,.s (r2b l9),.n 0,.n n2,.n n3,.n n4,.n n5,.n n6,.n n7,.n n2,.n n3,.n n8,.n n5,.n n6,.n n7,.l TB l9]=some (0,[.l t0c l0,.n n1,.s (r2b l9),.n n2,.n n3,.n n4,.n n5,.n n6,.n n7,.n n2,.n n3,.n n8,.n n5,.n n6,.n n7,.l TB l9]))(g9:IntKind.wrap .i64 (n4-(1:Int))=n8)(h0:(f0b (r2b []) s11=true)):(t1c [.k 0,.l t0c l0,.n n1,.n n2,.n n3,.n n4,.n n5,.n n6,.n n7,.n n2,.n n3,.n n8,.n n5,.n n6,.n n7]).sel=some (Step.go [.k 0,.l t0c l0,.n (IntKind.wrap .i64 (n1+(1:Int))),.n n2,.n n3,.n n4,.n n5,.n n6,.n n7,.n n2,.n n3,.n n8,.n n5,.n n6,.n n7]):=sP [1]<|sTs (c:=(decide (n1<(↑(List.length l0):Int))))<|sTo (c:=(inR n1 (List.length l0)))<|sP [1]<|sFs (c:=(Int.tmod (Prod.fst (List.getD l0 (Int.toNat n1) (Ty.dflt t0c))) (8:Int)==(0:Int)))<|sFs (c:=(Int.tmod (Prod.fst (List.getD l0 (Int.toNat n1) (Ty.dflt t0c))) (8:Int)==(1:Int)))<|sFs (c:=(Int.tmod (Prod.fst (List.getD l0 (Int.toNat n1) (Ty.dflt t0c))) (8:Int)==(5:Int)))<|sFs (c:=(Int.tmod (Prod.fst (List.getD l0 (Int.toNat n1) (Ty.dflt t0c))) (8:Int)==(6:Int)))<|sFs (c:=(Int.tmod (Prod.fst (List.getD l0 (Int.toNat n1) (Ty.dflt t0c))) (8:Int)==(7:Int)))<|sP [1]<|sTs (c:=(Int.tmod (Prod.fst (List.getD l0 (Int.toNat n1) (Ty.dflt t0c))) (8:Int)==(2:Int)))<|sA g3<|sP [1,1,1]<|sA g5<|sP [1,1,1]<|sA g6<|sP [1,1]<|sF (bnf (a:=(n10)) rfl)<|sF (nt h0)<|sFs (c:=(!f0b (r2b l9) (r2b l9)))<|sA g8<|sP [1]<|sFs (c:=(!f0b (r2b l9) (r2b l9)))<|sP [1,0,1]<|sFs (c:=(IntKind.wrap .i64 (n4-(1:Int)) !=n8))<|sP [1,0,1]<|sF (bnf (a:=(n5)) rfl)<|sP [1,0,1]<|sF (bnf (a:=(n6)) rfl)<|sP [1,0,1,1]<|sF (bnf (a:=(n7)) rfl)<|sP [1]<|sL
theorem n3z {l0:List (Ty.den t0c)}{n1 n2 n3 n4 n5 n6 n7 n8:Int}{l9 l10:List (Ty.den TB)}{s11:ByteArray}{n12 n13 n14:Int}(g0:0≤n1)(g1:n1<(l0.length:Int))(g2:Int.tmod (Prod.fst (List.getD l0 (Int.toNat n1) (Ty.dflt t0c))) 8=2)(g3:j3c [.n (Prod.fst (Prod.snd (Prod.snd (List.getD l0 (Int.toNat n1) (Ty.dflt t0c))))),.n (Prod.fst (Prod.snd (Prod.snd (Prod.snd (List.getD l0 (Int.toNat n1) (Ty.dflt t0c)))))),.n (Prod.fst (Prod.snd (Prod.snd (Prod.snd (Prod.snd (List.getD l0 (Int.toNat n1) (Ty.dflt t0c))))))),.n (Prod.fst (Prod.snd (Prod.snd (Prod.snd (Prod.snd (Prod.snd (List.getD l0 (Int.toNat n1) (Ty.dflt t0c)))))))),.l TB (Prod.fst (Prod.snd (Prod.snd (Prod.snd (Prod.snd (Prod.snd (Prod.snd (List.getD l0 (Int.toNat n1) (Ty.dflt t0c)))))))))]=some (0,[.l TB l9]))(g4:f0b (r2b l9) (r2b l9)=true)(g5:h3e [.n n2,.n n3,.n n4,.n n5,.n n6,.n n7,.l TB l9]=some (1,[.n 0,.n n2,.n n3,.n n4,.n n12,.n n13,.n n14,.l TB l9,.l TB l10]))(g6:h3d [.n n2,.n n3,.n n8,.n n5,.n n6,.n n7,.l TB (c0b (r2b l9))]=some (0,[.s s11,.n 0,.n n2,.n n3,.n n8,.n n12,.n n13,.n n14,.l TB (c0b (r2b l9))]))(g7:f0b (r2b l10) s11=true)(g8:i3d [.k 0,.l t0c l0,.n n1,.s (r2b l9),.n 0,.n n2,.n n3,.n n4,.n n12,.n n13,.n n14,.n n2,.n n3,.n n8,.n n12,.n n13,.n n14,.l TB l9,.l TB l10]=some (0,[.l t0c l0,.n n1,.s (r2b l9),.n n2,.n n3,.n n4,.n n12,.n n13,.n n14,.n n2,.n n3,.n n8,.n n12,.n n13,.n n14,.l TB l9]))(g9:IntKind.wrap .i64 (n4-(1:Int))=n8):(t1c [.k 0,.l t0c l0,.n n1,.n n2,.n n3,.n n4,.n n5,.n n6,.n n7,.n n2,.n n3,.n n8,.n n5,.n n6,.n n7]).sel=some (Step.go [.k 0,.l t0c l0,.n (IntKind.wrap .i64 (n1+(1:Int))),.n n2,.n n3,.n n4,.n n12,.n n13,.n n14,.n n2,.n n3,.n n8,.n n12,.n n13,.n n14]):=sP [1]<|sTs (c:=(decide (n1<(↑(List.length l0):Int))))<|sTo (c:=(inR n1 (List.length l0)))<|sP [1]<|sFs (c:=(Int.tmod (Prod.fst (List.getD l0 (Int.toNat n1) (Ty.dflt t0c))) (8:Int)==(0:Int)))<|sFs (c:=(Int.tmod (Prod.fst (List.getD l0 (Int.toNat n1) (Ty.dflt t0c))) (8:Int)==(1:Int)))<|sFs (c:=(Int.tmod (Prod.fst (List.getD l0 (Int.toNat n1) (Ty.dflt t0c))) (8:Int)==(5:Int)))<|sFs (c:=(Int.tmod (Prod.fst (List.getD l0 (Int.toNat n1) (Ty.dflt t0c))) (8:Int)==(6:Int)))<|sFs (c:=(Int.tmod (Prod.fst (List.getD l0 (Int.toNat n1) (Ty.dflt t0c))) (8:Int)==(7:Int)))<|sP [1]<|sTs (c:=(Int.tmod (Prod.fst (List.getD l0 (Int.toNat n1) (Ty.dflt t0c))) (8:Int)==(2:Int)))<|sA g3<|sP [1,1,1]<|sA g5<|sP [0,1,1,1]<|sA g6<|sP [1,1,0]<|sFs (c:=(!f0b (r2b l10) s11))<|sFs (c:=(!f0b (r2b l9) (r2b l9)))<|sA g8<|sP [1]<|sFs (c:=(!f0b (r2b l9) (r2b l9)))<|sP [1,0,1]<|sFs (c:=(IntKind.wrap .i64 (n4-(1:Int)) !=n8))<|sP [1,0,1]<|sF (bnf (a:=(n12)) rfl)<|sP [1,0,1]<|sF (bnf (a:=(n13)) rfl)<|sP [1,0,1,1]<|sF (bnf (a:=(n14)) rfl)<|sP [1]<|sL
theorem n3b {l0:List (Ty.den t0c)}{n1 n2 n3 n4 n5 n6 n7 n8:Int}{l9:List (Ty.den TB)}{n10:Int}{s11:ByteArray}(g0:0≤n1)(g1:n1<(l0.length:Int))(g2:Int.tmod (Prod.fst (List.getD l0 (Int.toNat n1) (Ty.dflt t0c))) 8=3)(g3:f0b (r2b (c0b (r2b (Prod.fst (Prod.snd (List.getD l0 (Int.toNat n1) (Ty.dflt t0c))))))) (r2b (c0b (r2b (Prod.fst (Prod.snd (List.getD l0 (Int.toNat n1) (Ty.dflt t0c)))))))=true)(g4:h3e [.n n2,.n n3,.n n4,.n n5,.n n6,.n n7,.l TB (c0b (r2b (Prod.fst (Prod.snd (List.getD l0 (Int.toNat n1) (Ty.dflt t0c))))))]=some (0,[.n n10,.n n2,.n n3,.n n4,.n n5,.n n6,.n n7,.l TB (c0b (r2b (Prod.fst (Prod.snd (List.getD l0 (Int.toNat n1) (Ty.dflt t0c))))))]))(g5:h3d [.n n2,.n n3,.n n8,.n n5,.n n6,.n n7,.l TB (c0b (r2b (c0b (r2b (Prod.fst (Prod.snd (List.getD l0 (Int.toNat n1) (Ty.dflt t0c))))))))]=some (0,[.s s11,.n n10,.n n2,.n n3,.n n8,.n n5,.n n6,.n n7,.l TB (c0b (r2b (c0b (r2b (Prod.fst (Prod.snd (List.getD l0 (Int.toNat n1) (Ty.dflt t0c))))))))]))(g6:f0b (r2b ([]:List Int)) s11=true)(g7:i3d [.k 1,.l t0c l0,.n n1,.s (r2b (c0b (r2b (Prod.fst (Prod.snd (List.getD l0 (Int.toNat n1) (Ty.dflt t0c))))))),.n 0,.n n2,.n n3,.n n4,.n n5,.n n6,.n n7,.n n2,.n n3,.n n8,.n n5,.n n6,.n n7,.l TB (c0b (r2b (Prod.fst (Prod.snd (List.getD l0 (Int.toNat n1) (Ty.dflt t0c))))))]=some (0,[.l t0c l0,.n n1,.s (r2b (c0b (r2b (Prod.fst (Prod.snd (List.getD l0 (Int.toNat n1) (Ty.dflt t0c))))))),.n n2,.n n3,.n n4,.n n5,.n n6,.n n7,.n n2,.n n3,.n n8,.n n5,.n n6,.n n7,.l TB (c0b (r2b (Prod.fst (Prod.snd (List.getD l0 (Int.toNat n1) (Ty.dflt t0c))))))]))(g8:IntKind.wrap .i64 (n4-(1:Int))=n8)(h0:(f0b (r2b []) s11=true)):(t1c [.k 0,.l t0c l0,.n n1,.n n2,.n n3,.n n4,.n n5,.n n6,.n n7,.n n2,.n n3,.n n8,.n n5,.n n6,.n n7]).sel=some (Step.go [.k 0,.l t0c l0,.n (IntKind.wrap .i64 (n1+(1:Int))),.n n2,.n n3,.n n4,.n n5,.n n6,.n n7,.n n2,.n n3,.n n8,.n n5,.n n6,.n n7]):=sP [1]<|sTs (c:=(decide (n1<(↑(List.length l0):Int))))<|sTo (c:=(inR n1 (List.length l0)))<|sP [1]<|sFs (c:=(Int.tmod (Prod.fst (List.getD l0 (Int.toNat n1) (Ty.dflt t0c))) (8:Int)==(0:Int)))<|sFs (c:=(Int.tmod (Prod.fst (List.getD l0 (Int.toNat n1) (Ty.dflt t0c))) (8:Int)==(1:Int)))<|sFs (c:=(Int.tmod (Prod.fst (List.getD l0 (Int.toNat n1) (Ty.dflt t0c))) (8:Int)==(5:Int)))<|sFs (c:=(Int.tmod (Prod.fst (List.getD l0 (Int.toNat n1) (Ty.dflt t0c))) (8:Int)==(6:Int)))<|sFs (c:=(Int.tmod (Prod.fst (List.getD l0 (Int.toNat n1) (Ty.dflt t0c))) (8:Int)==(7:Int)))<|sP [1]<|sFs (c:=(Int.tmod (Prod.fst (List.getD l0 (Int.toNat n1) (Ty.dflt t0c))) (8:Int)==(2:Int)))<|sP [1]<|sA g4<|sP [1,1,1]<|sA g5<|sP [1,1]<|sF (bnf (a:=(n10)) rfl)<|sF (nt h0)<|sFs (c:=(!f0b (r2b (c0b (r2b (Prod.fst (Prod.snd (List.getD l0 (Int.toNat n1) (Ty.dflt t0c))))))) (r2b (c0b (r2b (Prod.fst (Prod.snd (List.getD l0 (Int.toNat n1) (Ty.dflt t0c)))))))))<|sA g7<|sP [1]<|sFs (c:=(!f0b (r2b (c0b (r2b (Prod.fst (Prod.snd (List.getD l0 (Int.toNat n1) (Ty.dflt t0c))))))) (r2b (c0b (r2b (Prod.fst (Prod.snd (List.getD l0 (Int.toNat n1) (Ty.dflt t0c)))))))))<|sP [1,0,1]<|sFs (c:=(IntKind.wrap .i64 (n4-(1:Int)) !=n8))<|sP [1,0,1]<|sF (bnf (a:=(n5)) rfl)<|sP [1,0,1]<|sF (bnf (a:=(n6)) rfl)<|sP [1,0,1,1]<|sF (bnf (a:=(n7)) rfl)<|sP [1]<|sL
theorem n3w {l0:List (Ty.den t0c)}{n1 n2 n3 n4 n5 n6 n7 n8:Int}{l9 l10:List (Ty.den TB)}{s11:ByteArray}{n12 n13 n14:Int}(g0:0≤n1)(g1:n1<(l0.length:Int))(g2:Int.tmod (Prod.fst (List.getD l0 (Int.toNat n1) (Ty.dflt t0c))) 8=3)(g3:f0b (r2b (c0b (r2b (Prod.fst (Prod.snd (List.getD l0 (Int.toNat n1) (Ty.dflt t0c))))))) (r2b (c0b (r2b (Prod.fst (Prod.snd (List.getD l0 (Int.toNat n1) (Ty.dflt t0c)))))))=true)(g4:h3e [.n n2,.n n3,.n n4,.n n5,.n n6,.n n7,.l TB (c0b (r2b (Prod.fst (Prod.snd (List.getD l0 (Int.toNat n1) (Ty.dflt t0c))))))]=some (1,[.n 0,.n n2,.n n3,.n n4,.n n12,.n n13,.n n14,.l TB (c0b (r2b (Prod.fst (Prod.snd (List.getD l0 (Int.toNat n1) (Ty.dflt t0c)))))),.l TB l10]))(g5:h3d [.n n2,.n n3,.n n8,.n n5,.n n6,.n n7,.l TB (c0b (r2b (c0b (r2b (Prod.fst (Prod.snd (List.getD l0 (Int.toNat n1) (Ty.dflt t0c))))))))]=some (0,[.s s11,.n 0,.n n2,.n n3,.n n8,.n n12,.n n13,.n n14,.l TB (c0b (r2b (c0b (r2b (Prod.fst (Prod.snd (List.getD l0 (Int.toNat n1) (Ty.dflt t0c))))))))]))(g6:f0b (r2b l10) s11=true)(g7:i3d [.k 0,.l t0c l0,.n n1,.s (r2b (c0b (r2b (Prod.fst (Prod.snd (List.getD l0 (Int.toNat n1) (Ty.dflt t0c))))))),.n 0,.n n2,.n n3,.n n4,.n n12,.n n13,.n n14,.n n2,.n n3,.n n8,.n n12,.n n13,.n n14,.l TB (c0b (r2b (Prod.fst (Prod.snd (List.getD l0 (Int.toNat n1) (Ty.dflt t0c)))))),.l TB l10]=some (0,[.l t0c l0,.n n1,.s (r2b (c0b (r2b (Prod.fst (Prod.snd (List.getD l0 (Int.toNat n1) (Ty.dflt t0c))))))),.n n2,.n n3,.n n4,.n n12,.n n13,.n n14,.n n2,.n n3,.n n8,.n n12,.n n13,.n n14,.l TB (c0b (r2b (Prod.fst (Prod.snd (List.getD l0 (Int.toNat n1) (Ty.dflt t0c))))))]))(g8:IntKind.wrap .i64 (n4-(1:Int))=n8):(t1c [.k 0,.l t0c l0,.n n1,.n n2,.n n3,.n n4,.n n5,.n n6,.n n7,.n n2,.n n3,.n n8,.n n5,.n n6,.n n7]).sel=some (Step.go [.k 0,.l t0c l0,.n (IntKind.wrap .i64 (n1+(1:Int))),.n n2,.n n3,.n n4,.n n12,.n n13,.n n14,.n n2,.n n3,.n n8,.n n12,.n n13,.n n14]):=sP [1]<|sTs (c:=(decide (n1<(↑(List.length l0):Int))))<|sTo (c:=(inR n1 (List.length l0)))<|sP [1]<|sFs (c:=(Int.tmod (Prod.fst (List.getD l0 (Int.toNat n1) (Ty.dflt t0c))) (8:Int)==(0:Int)))<|sFs (c:=(Int.tmod (Prod.fst (List.getD l0 (Int.toNat n1) (Ty.dflt t0c))) (8:Int)==(1:Int)))<|sFs (c:=(Int.tmod (Prod.fst (List.getD l0 (Int.toNat n1) (Ty.dflt t0c))) (8:Int)==(5:Int)))<|sFs (c:=(Int.tmod (Prod.fst (List.getD l0 (Int.toNat n1) (Ty.dflt t0c))) (8:Int)==(6:Int)))<|sFs (c:=(Int.tmod (Prod.fst (List.getD l0 (Int.toNat n1) (Ty.dflt t0c))) (8:Int)==(7:Int)))<|sP [1]<|sFs (c:=(Int.tmod (Prod.fst (List.getD l0 (Int.toNat n1) (Ty.dflt t0c))) (8:Int)==(2:Int)))<|sP [1]<|sA g4<|sP [0,1,1,1]<|sA g5<|sP [1,1,0]<|sFs (c:=(!f0b (r2b l10) s11))<|sFs (c:=(!f0b (r2b (c0b (r2b (Prod.fst (Prod.snd (List.getD l0 (Int.toNat n1) (Ty.dflt t0c))))))) (r2b (c0b (r2b (Prod.fst (Prod.snd (List.getD l0 (Int.toNat n1) (Ty.dflt t0c)))))))))<|sA g7<|sP [1]<|sFs (c:=(!f0b (r2b (c0b (r2b (Prod.fst (Prod.snd (List.getD l0 (Int.toNat n1) (Ty.dflt t0c))))))) (r2b (c0b (r2b (Prod.fst (Prod.snd (List.getD l0 (Int.toNat n1) (Ty.dflt t0c)))))))))<|sP [1,0,1]<|sFs (c:=(IntKind.wrap .i64 (n4-(1:Int)) !=n8))<|sP [1,0,1]<|sF (bnf (a:=(n12)) rfl)<|sP [1,0,1]<|sF (bnf (a:=(n13)) rfl)<|sP [1,0,1,1]<|sF (bnf (a:=(n14)) rfl)<|sP [1]<|sL
theorem n3h {l0:List (Ty.den t0c)}{n1 n2 n3 n4 n5 n6 n7 n8:Int}{l9:List (Ty.den TB)}{n10:Int}{s11:ByteArray}(g0:0≤n1)(g1:n1<(l0.length:Int))(g2:Int.tmod (Prod.fst (List.getD l0 (Int.toNat n1) (Ty.dflt t0c))) 8=4)(g3:f0b (r2b (c0b (r2b (Prod.fst (Prod.snd (List.getD l0 (Int.toNat n1) (Ty.dflt t0c))))))) (r2b (c0b (r2b (Prod.fst (Prod.snd (List.getD l0 (Int.toNat n1) (Ty.dflt t0c)))))))=true)(g4:h3e [.n n2,.n n3,.n n4,.n n5,.n n6,.n n7,.l TB (c0b (r2b (Prod.fst (Prod.snd (List.getD l0 (Int.toNat n1) (Ty.dflt t0c))))))]=some (0,[.n n10,.n n2,.n n3,.n n4,.n n5,.n n6,.n n7,.l TB (c0b (r2b (Prod.fst (Prod.snd (List.getD l0 (Int.toNat n1) (Ty.dflt t0c))))))]))(g5:h3d [.n n2,.n n3,.n n8,.n n5,.n n6,.n n7,.l TB (c0b (r2b (c0b (r2b (Prod.fst (Prod.snd (List.getD l0 (Int.toNat n1) (Ty.dflt t0c))))))))]=some (0,[.s s11,.n n10,.n n2,.n n3,.n n8,.n n5,.n n6,.n n7,.l TB (c0b (r2b (c0b (r2b (Prod.fst (Prod.snd (List.getD l0 (Int.toNat n1) (Ty.dflt t0c))))))))]))(g6:f0b (r2b ([]:List Int)) s11=true)(g7:i3d [.k 1,.l t0c l0,.n n1,.s (r2b (c0b (r2b (Prod.fst (Prod.snd (List.getD l0 (Int.toNat n1) (Ty.dflt t0c))))))),.n 0,.n n2,.n n3,.n n4,.n n5,.n n6,.n n7,.n n2,.n n3,.n n8,.n n5,.n n6,.n n7,.l TB (c0b (r2b (Prod.fst (Prod.snd (List.getD l0 (Int.toNat n1) (Ty.dflt t0c))))))]=some (0,[.l t0c l0,.n n1,.s (r2b (c0b (r2b (Prod.fst (Prod.snd (List.getD l0 (Int.toNat n1) (Ty.dflt t0c))))))),.n n2,.n n3,.n n4,.n n5,.n n6,.n n7,.n n2,.n n3,.n n8,.n n5,.n n6,.n n7,.l TB (c0b (r2b (Prod.fst (Prod.snd (List.getD l0 (Int.toNat n1) (Ty.dflt t0c))))))]))(g8:IntKind.wrap .i64 (n4-(1:Int))=n8)(h0:(f0b (r2b []) s11=true)):(t1c [.k 0,.l t0c l0,.n n1,.n n2,.n n3,.n n4,.n n5,.n n6,.n n7,.n n2,.n n3,.n n8,.n n5,.n n6,.n n7]).sel=some (Step.go [.k 0,.l t0c l0,.n (IntKind.wrap .i64 (n1+(1:Int))),.n n2,.n n3,.n n4,.n n5,.n n6,.n n7,.n n2,.n n3,.n n8,.n n5,.n n6,.n n7]):=sP [1]<|sTs (c:=(decide (n1<(↑(List.length l0):Int))))<|sTo (c:=(inR n1 (List.length l0)))<|sP [1]<|sFs (c:=(Int.tmod (Prod.fst (List.getD l0 (Int.toNat n1) (Ty.dflt t0c))) (8:Int)==(0:Int)))<|sFs (c:=(Int.tmod (Prod.fst (List.getD l0 (Int.toNat n1) (Ty.dflt t0c))) (8:Int)==(1:Int)))<|sFs (c:=(Int.tmod (Prod.fst (List.getD l0 (Int.toNat n1) (Ty.dflt t0c))) (8:Int)==(5:Int)))<|sFs (c:=(Int.tmod (Prod.fst (List.getD l0 (Int.toNat n1) (Ty.dflt t0c))) (8:Int)==(6:Int)))<|sFs (c:=(Int.tmod (Prod.fst (List.getD l0 (Int.toNat n1) (Ty.dflt t0c))) (8:Int)==(7:Int)))<|sP [1]<|sFs (c:=(Int.tmod (Prod.fst (List.getD l0 (Int.toNat n1) (Ty.dflt t0c))) (8:Int)==(2:Int)))<|sP [1]<|sA g4<|sP [1,1,1]<|sA g5<|sP [1,1]<|sF (bnf (a:=(n10)) rfl)<|sF (nt h0)<|sFs (c:=(!f0b (r2b (c0b (r2b (Prod.fst (Prod.snd (List.getD l0 (Int.toNat n1) (Ty.dflt t0c))))))) (r2b (c0b (r2b (Prod.fst (Prod.snd (List.getD l0 (Int.toNat n1) (Ty.dflt t0c)))))))))<|sA g7<|sP [1]<|sFs (c:=(!f0b (r2b (c0b (r2b (Prod.fst (Prod.snd (List.getD l0 (Int.toNat n1) (Ty.dflt t0c))))))) (r2b (c0b (r2b (Prod.fst (Prod.snd (List.getD l0 (Int.toNat n1) (Ty.dflt t0c)))))))))<|sP [1,0,1]<|sFs (c:=(IntKind.wrap .i64 (n4-(1:Int)) !=n8))<|sP [1,0,1]<|sF (bnf (a:=(n5)) rfl)<|sP [1,0,1]<|sF (bnf (a:=(n6)) rfl)<|sP [1,0,1,1]<|sF (bnf (a:=(n7)) rfl)<|sP [1]<|sL
theorem m3t {l0:List (Ty.den t0c)}{n1 n2 n3 n4 n5 n6 n7 n8:Int}{l9 l10:List (Ty.den TB)}{s11:ByteArray}{n12 n13 n14:Int}(g0:0≤n1)(g1:n1<(l0.length:Int))(g2:Int.tmod (Prod.fst (List.getD l0 (Int.toNat n1) (Ty.dflt t0c))) 8=4)(g3:f0b (r2b (c0b (r2b (Prod.fst (Prod.snd (List.getD l0 (Int.toNat n1) (Ty.dflt t0c))))))) (r2b (c0b (r2b (Prod.fst (Prod.snd (List.getD l0 (Int.toNat n1) (Ty.dflt t0c)))))))=true)(g4:h3e [.n n2,.n n3,.n n4,.n n5,.n n6,.n n7,.l TB (c0b (r2b (Prod.fst (Prod.snd (List.getD l0 (Int.toNat n1) (Ty.dflt t0c))))))]=some (1,[.n 0,.n n2,.n n3,.n n4,.n n12,.n n13,.n n14,.l TB (c0b (r2b (Prod.fst (Prod.snd (List.getD l0 (Int.toNat n1) (Ty.dflt t0c)))))),.l TB l10]))(g5:h3d [.n n2,.n n3,.n n8,.n n5,.n n6,.n n7,.l TB (c0b (r2b (c0b (r2b (Prod.fst (Prod.snd (List.getD l0 (Int.toNat n1) (Ty.dflt t0c))))))))]=some (0,[.s s11,.n 0,.n n2,.n n3,.n n8,.n n12,.n n13,.n n14,.l TB (c0b (r2b (c0b (r2b (Prod.fst (Prod.snd (List.getD l0 (Int.toNat n1) (Ty.dflt t0c))))))))]))(g6:f0b (r2b l10) s11=true)(g7:i3d [.k 0,.l t0c l0,.n n1,.s (r2b (c0b (r2b (Prod.fst (Prod.snd (List.getD l0 (Int.toNat n1) (Ty.dflt t0c))))))),.n 0,.n n2,.n n3,.n n4,.n n12,.n n13,.n n14,.n n2,.n n3,.n n8,.n n12,.n n13,.n n14,.l TB (c0b (r2b (Prod.fst (Prod.snd (List.getD l0 (Int.toNat n1) (Ty.dflt t0c)))))),.l TB l10]=some (0,[.l t0c l0,.n n1,.s (r2b (c0b (r2b (Prod.fst (Prod.snd (List.getD l0 (Int.toNat n1) (Ty.dflt t0c))))))),.n n2,.n n3,.n n4,.n n12,.n n13,.n n14,.n n2,.n n3,.n n8,.n n12,.n n13,.n n14,.l TB (c0b (r2b (Prod.fst (Prod.snd (List.getD l0 (Int.toNat n1) (Ty.dflt t0c))))))]))(g8:IntKind.wrap .i64 (n4-(1:Int))=n8):(t1c [.k 0,.l t0c l0,.n n1,.n n2,.n n3,.n n4,.n n5,.n n6,.n n7,.n n2,.n n3,.n n8,.n n5,.n n6,.n n7]).sel=some (Step.go [.k 0,.l t0c l0,.n (IntKind.wrap .i64 (n1+(1:Int))),.n n2,.n n3,.n n4,.n n12,.n n13,.n n14,.n n2,.n n3,.n n8,.n n12,.n n13,.n n14]):=sP [1]<|sTs (c:=(decide (n1<(↑(List.length l0):Int))))<|sTo (c:=(inR n1 (List.length l0)))<|sP [1]<|sFs (c:=(Int.tmod (Prod.fst (List.getD l0 (Int.toNat n1) (Ty.dflt t0c))) (8:Int)==(0:Int)))<|sFs (c:=(Int.tmod (Prod.fst (List.getD l0 (Int.toNat n1) (Ty.dflt t0c))) (8:Int)==(1:Int)))<|sFs (c:=(Int.tmod (Prod.fst (List.getD l0 (Int.toNat n1) (Ty.dflt t0c))) (8:Int)==(5:Int)))<|sFs (c:=(Int.tmod (Prod.fst (List.getD l0 (Int.toNat n1) (Ty.dflt t0c))) (8:Int)==(6:Int)))<|sFs (c:=(Int.tmod (Prod.fst (List.getD l0 (Int.toNat n1) (Ty.dflt t0c))) (8:Int)==(7:Int)))<|sP [1]<|sFs (c:=(Int.tmod (Prod.fst (List.getD l0 (Int.toNat n1) (Ty.dflt t0c))) (8:Int)==(2:Int)))<|sP [1]<|sA g4<|sP [0,1,1,1]<|sA g5<|sP [1,1,0]<|sFs (c:=(!f0b (r2b l10) s11))<|sFs (c:=(!f0b (r2b (c0b (r2b (Prod.fst (Prod.snd (List.getD l0 (Int.toNat n1) (Ty.dflt t0c))))))) (r2b (c0b (r2b (Prod.fst (Prod.snd (List.getD l0 (Int.toNat n1) (Ty.dflt t0c)))))))))<|sA g7<|sP [1]<|sFs (c:=(!f0b (r2b (c0b (r2b (Prod.fst (Prod.snd (List.getD l0 (Int.toNat n1) (Ty.dflt t0c))))))) (r2b (c0b (r2b (Prod.fst (Prod.snd (List.getD l0 (Int.toNat n1) (Ty.dflt t0c)))))))))<|sP [1,0,1]<|sFs (c:=(IntKind.wrap .i64 (n4-(1:Int)) !=n8))<|sP [1,0,1]<|sF (bnf (a:=(n12)) rfl)<|sP [1,0,1]<|sF (bnf (a:=(n13)) rfl)<|sP [1,0,1,1]<|sF (bnf (a:=(n14)) rfl)<|sP [1]<|sL
theorem s3o {l0:List (Ty.den t0c)}{n1 n2 n3 n4 n5 n6 n7 n8:Int}(g0:0≤n1)(g1:n1=(l0.length:Int)):(t1c [.k 0,.l t0c l0,.n n1,.n n2,.n n3,.n n4,.n n5,.n n6,.n n7,.n n2,.n n3,.n n8,.n n5,.n n6,.n n7]).sel=some (Step.stop 0 []):=sP [1]<|sFs (c:=(decide (n1<(↑(List.length l0):Int))))<|sP [1]<|sL
def p3r:List Dat→Tree Bool:=evW z3c 3 (lsM [(10,Bx_3_10)] 0) [.int .u8 0,.int .u8 1,.int .i64 2,.imm t0c 3]
theorem W3_law (env:List Dat)(h:(p3r env).sel=some true){w:World}{aa:Array Value}(ha:LRel R0 (b0k w) (instL [.int .u8 0,.int .u8 1,.int .i64 2,.imm t0c 3] env) aa):
  Calls Try.prog 3 aa w fun e w'=>e=.returned (.bool true)∧Below w.heap.size w w':=evW_law m3c (lsE (lsC (q3c r3n) (atF) lsZ)) env h ha
theorem z3r {n0 n1 n2:Int}{l3:List (Ty.den t0c)}{b4 b5:Bool}(h0:(l3j [.l t0c l3])=(some (0,[.b b4])))(h1:(b4=true))(h2:(op_9 [])=(some (0,[.b b5]))):(p3r [.n n0,.n n1,.n n2,.l t0c l3]).sel=some (b5):=sA h0<|sP [1,1]<|sT h1<|sP [1]<|sA h2<|sP [1,1]<|sL
theorem z3j {n0 n1 n2:Int}{l3:List (Ty.den t0c)}{b4 b5:Bool}(h0:(l3j [.l t0c l3])=(some (0,[.b b4])))(h1:(b4=false))(h2:(n0=n1))(h3:(op_9 [])=(some (0,[.b b5]))):(p3r [.n n0,.n n1,.n n2,.l t0c l3]).sel=some (b5):=sA h0<|sP [1,1]<|sF h1<|sP [1]<|sT (bt h2)<|sP [1,1,1,1,1,1]<|sT (bt h2)<|sP [1,1,1,1,1,1,1,1,1]<|sA h3<|sP [1,1]<|sL
theorem a4a {n0 n1 n2:Int}{l3:List (Ty.den t0c)}{b4 b5:Bool}(h0:(l3j [.l t0c l3])=(some (0,[.b b4])))(h1:(b4=false))(h2:(¬n0=n1))(h3:(n2<(1:Int)))(h4:(op_9 [])=(some (0,[.b b5]))):(p3r [.n n0,.n n1,.n n2,.l t0c l3]).sel=some (b5):=sA h0<|sP [1,1]<|sF h1<|sP [1]<|sF (bf h2)<|sT (dt h3)<|sP [1,1,1,1]<|sF (bf h2)<|sT (dt h3)<|sP [1,1,1,1,1,1,1]<|sA h4<|sP [1,1]<|sL
theorem a4h {n0 n1 n2:Int}{l3:List (Ty.den t0c)}{b4 b5:Bool}(h0:(l3j [.l t0c l3])=(some (0,[.b b4])))(h1:(b4=false))(h2:(¬n0=n1))(h3:(¬n2<(1:Int)))(h4:(n2>(2305843009213693952:Int)))(h5:(op_9 [])=(some (0,[.b b5]))):(p3r [.n n0,.n n1,.n n2,.l t0c l3]).sel=some (b5):=sA h0<|sP [1,1]<|sF h1<|sP [1]<|sF (bf h2)<|sF (df h3)<|sT (dt h4)<|sP [1,1]<|sF (bf h2)<|sF (df h3)<|sT (dt h4)<|sP [1,1,1,1,1]<|sA h5<|sP [1,1]<|sL
theorem z3o {n0 n1 n2:Int}{l3:List (Ty.den t0c)}{b4 b5:Bool}(h0:(l3j [.l t0c l3])=(some (0,[.b b4])))(h1:(b4=false))(h2:(¬n0=n1))(h3:(¬n2<(1:Int)))(h4:(¬n2>(2305843009213693952:Int)))(h5:(y3j [.k 0,.l t0c l3,.n (0:Int),.n n0,.n n1,.n n2,.n (0:Int),.n (0:Int),.n (0:Int),.n n0,.n n1,.n (IntKind.wrap .i64 (n2-(1:Int))),.n (0:Int),.n (0:Int),.n (0:Int)])=(some (0,[])))(h6:(op_9 [])=(some (0,[.b b5]))):(p3r [.n n0,.n n1,.n n2,.l t0c l3]).sel=some (b5):=sA h0<|sP [1,1]<|sF h1<|sP [1]<|sF (bf h2)<|sF (df h3)<|sF (df h4)<|sP [1,1]<|sF (bf h2)<|sF (df h3)<|sF (df h4)<|sP [1,0,0]<|sA h5<|sP [1,1]<|sA h6<|sP [1,1]<|sL
theorem w1n (i:Nat)(h:i<1000000000):IntKind.wrap .i64 ((i:Int)+1)=((i+1:Nat):Int):=by rw[w64s (by omega) (by omega)];rfl
theorem memS {α:Type}{l:List α}{d:α}{i:Nat}(h:i<l.length):l.getD i d∈l:=by
 rw[List.getD_eq_getElem?_getD,List.getElem?_eq_getElem h];exact List.getElem_mem h
theorem wfAll {t:Ty}{l:List t.den}(h:wfD (.sl t) l=true): ∀x∈l,wfD t x=true:=by
 have h:(decide (l.length≤maxLen)&&wfL (wfD t) l)=true:=h
 rw[Bool.and_eq_true]at h
 exact o2j.1 h.2
theorem wbWf {b:List (Ty.den TB)}(h:wfD (.sl TB) b=true):Wb b:=fun x hx=>by
 have:=wfi (wfAll h x hx)
 simp[IntKind.min,IntKind.max,IntKind.bits,IntKind.signed]at this
 omega
theorem u8Wf {n:Int}(h:wfD (.int .u8) n=true):0≤n∧n<256:=by
 have:=wfi h
 simp[IntKind.min,IntKind.max,IntKind.bits,IntKind.signed]at this
 omega
theorem szOf' (l:List Int):(ByteArray.size (r2b l):Int)=(l.length:Int):=by
 show(((l.map fun n=>UInt8.ofNat n.toNat).toArray.size:Nat):Int)=_
 simp
abbrev LC:=List (Ty.den t0c)
abbrev LB:=List (Ty.den TB)
abbrev caAt (l:LC)(i:Nat):Ty.den t0c:=l.getD i (Ty.dflt t0c)
abbrev cK (c:Ty.den t0c):Int:=Prod.fst c
abbrev cB (c:Ty.den t0c):LB:=Prod.fst (Prod.snd c)
abbrev cF (c:Ty.den t0c):Int:=Prod.fst (Prod.snd (Prod.snd c))
abbrev cT (c:Ty.den t0c):Int:=Prod.fst (Prod.snd (Prod.snd (Prod.snd c)))
abbrev cS (c:Ty.den t0c):Int:=Prod.fst (Prod.snd (Prod.snd (Prod.snd (Prod.snd c))))
abbrev cA (c:Ty.den t0c):Int:=Prod.fst (Prod.snd (Prod.snd (Prod.snd (Prod.snd (Prod.snd c)))))
abbrev cL (c:Ty.den t0c):LB:=Prod.fst (Prod.snd (Prod.snd (Prod.snd (Prod.snd (Prod.snd (Prod.snd c))))))
structure okC (c:Ty.den t0c):Prop where
 k0:0≤cK c∧cK c<256
 wb:Wb (cB c)
 f:0≤cF c∧cF c<256
 t:0≤cT c∧cT c<256
 wl:Wb (cL c)
theorem okC_wf {c:Ty.den t0c}(h:wfD t0c c=true):okC c:=by
 have h1:=p0a h
 have h2:=p0a h1.2
 have h3:=p0a h2.2
 have h4:=p0a h3.2
 have h5:=p0a h4.2
 have h6:=p0a h5.2
 have h7:=p0a h6.2
 exact⟨u8Wf h1.1,wbWf h2.1,u8Wf h3.1,u8Wf h4.1,wbWf h7.1⟩
theorem l7l (l:LC)(hl:l.length≤200): ∀m k:Nat,∀n:Int,k≤l.length→l.length-k<m→0≤n→n≤12000→
  (∃n',a0b i3a m [.k 0,.l t0c l,.n n,.n (k:Int)]=some (0,[.n n'])∧ ∀i,k≤i→i<l.length→(cB (caAt l i)).length≤6000∧(cL (caAt l i)).length≤6000)∨a0b i3a m [.k 0,.l t0c l,.n n,.n (k:Int)]=some (1,[.b true]):=by
 intro m
 induction m with
 |zero=>intro k n _ hm;omega
 |succ m ih=>
  intro k n hk hm h0 h1
  by_cases q:k<l.length
  ·have hw6:IntKind.wrap .i64 ((6000:Int)-n)=6000-n:=w64s (by omega) (by omega)
   by_cases a:((cB (caAt l k)).length:Int)>6000-n
   ·have a':((cB (caAt l k)).length:Int)>IntKind.wrap .i64 ((6000:Int)-n):=by rw[hw6];exact a
    exact .inr (c0a (s3z (by omega) (Int.ofNat_lt.2 q) a'))
   have a': ¬((cB (caAt l k)).length:Int)>IntKind.wrap .i64 ((6000:Int)-n):=by rw[hw6];exact a
   by_cases b:((cL (caAt l k)).length:Int)>6000-n
   ·have b':((cL (caAt l k)).length:Int)>IntKind.wrap .i64 ((6000:Int)-n):=by rw[hw6];exact b
    exact .inr (c0a (s3r (by omega) (Int.ofNat_lt.2 q) a' b'))
   have b': ¬((cL (caAt l k)).length:Int)>IntKind.wrap .i64 ((6000:Int)-n):=by rw[hw6];exact b
   have e:a0b i3a (m+1) [.k 0,.l t0c l,.n n,.n (k:Int)]=a0b i3a m [.k 0,.l t0c l,.n (IntKind.wrap .i64 (IntKind.wrap .i64 (n+((cB (caAt l k)).length:Int))+((cL (caAt l k)).length:Int))),.n (IntKind.wrap .i64 ((k:Int)+1))]:=v0e (t3n (by omega) (Int.ofNat_lt.2 q) a' b')
   have ew:IntKind.wrap .i64 (IntKind.wrap .i64 (n+((cB (caAt l k)).length:Int))+((cL (caAt l k)).length:Int))=n+((cB (caAt l k)).length:Int)+((cL (caAt l k)).length:Int):=by
    rw[show IntKind.wrap .i64 (n+((cB (caAt l k)).length:Int))=n+((cB (caAt l k)).length:Int)from w64s (by omega) (by omega)]
    exact w64s (by omega) (by omega)
   rw[ew,w1n k (by omega)]at e
   rcases ih (k+1) (n+((cB (caAt l k)).length:Int)+((cL (caAt l k)).length:Int)) (by omega) (by omega) (by omega) (by omega)with⟨n',h,hs⟩|h
   ·refine .inl ⟨n',e.trans h,fun i hi hil=> ?_⟩
    rcases Nat.eq_or_lt_of_le hi with rfl|hi
    ·exact⟨by omega,by omega⟩
    ·exact hs i hi hil
   ·exact .inr (e.trans h)
  ·exact .inl ⟨n,c0a (s3w (by omega) (by omega)),fun i hi hil=>by omega⟩
theorem l7x (l:LC): ∃x,l3j [.l t0c l]=some (0,[.b x])∧(x=false→l.length≤200∧ ∀i,i<l.length→(cB (caAt l i)).length≤6000∧(cL (caAt l i)).length≤6000):=by
 by_cases hl:(l.length:Int)>200
 ·exact⟨true,y3w hl,fun h=>by cases h⟩
 have hl':l.length≤200:=by omega
 rcases l7l l hl' FU 0 0 (by omega) (b1w (by omega)) (by omega) (by omega)with⟨n',h,hs⟩|h
 ·rw[←l3n]at h
  exact⟨_,z3g hl h,fun _=>⟨hl',fun i hi=>hs i (Nat.zero_le _) hi⟩⟩
 ·rw[←l3n]at h
  exact⟨true,y3r hl h,fun h=>by cases h⟩
structure OE (f t s h a l:Int):Prop where
 pf:0≤f∧f<256
 pt:0≤t∧t<256
 ps:0≤s∧s≤4611686018427387904
 ph:0≤h∧h≤4611686018427387904
 pl:0≤l∧l≤h
section
variable {f t s h a l:Int}
theorem sendNo {B:List Int}(hn:(B.length:Int)>2048∨s≥4611686018427387904):h3m [.n f,.n t,.n (s+1),.n h,.n a,.n l,.l TB B]=some (0,[.n 3,.n f,.n t,.n (s+1),.n h,.n a,.n l,.l TB B])∧
  h3l [.s (r2b B),.n f,.n t,.n s,.n h,.n a,.n l]=some (0,[.n 3,.n f,.n t,.n s,.n h,.n a,.n l]):=by
 have hz:=szOf' B
 by_cases h1:(B.length:Int)>2048
 ·exact⟨x3u h1,u3z (by omega)⟩
 ·have h2:s≥4611686018427387904:=hn.resolve_left h1
  exact⟨x3s h1 (by omega),x3a (by omega) h2⟩
theorem sendOk (he:OE f t s h a l){B:List Int}(hB:Wb B)(h1: ¬(B.length:Int)>2048)(h2: ¬s≥4611686018427387904):h3m [.n f,.n t,.n (s+1),.n h,.n a,.n l,.l TB B]=some (1,[.n 0,.n f,.n t,.n (s+1+1),.n h,.n a,.n l,.l TB B,.l TB (chk (liL f t (s+1) h B))])∧
  h3l [.s (r2b B),.n f,.n t,.n s,.n h,.n a,.n l]=some (1,[.n 0,.n f,.n t,.n (s+1),.n h,.n a,.n l,.l TB (chk (liL f t (s+1) h B))]):=by
 have hs:=he.ps;have hh:=he.ph
 have hz:=szOf' B
 have hw:(win 4611686018427387904 [s+1,h]&&decide ((B.length:Int)≤2048))=true:=by rw[win2_t (by omega),dt (show(B.length:Int)≤2048 by omega)];rfl
 have e1:=p13 f t (s+1) h B he.pf he.pt
 have e2:=m21 f t (s+1) h (r2b B) he.pf he.pt (by rw[h3i hB];exact hB)
 rw[h3i hB]at e2
 rw[hw]at e1 e2
 have w1:IntKind.wrap .i64 (s+1+1)=s+1+1:=w64s (by omega) (by omega)
 have w2:IntKind.wrap .i64 (s+1)=s+1:=w64s (by omega) (by omega)
 refine⟨?_,?_⟩
 ·have:=w3v (n0:=f) (n1:=t) (n2:=s+1) (n3:=h) (n4:=a) (n5:=l) (l6:=B) h1 (by omega) e1
  rw[w1]at this;exact this
 ·have:=t3v (s0:=r2b B) (n1:=f) (n2:=t) (n3:=s) (n4:=h) (n5:=a) (n6:=l) (by omega) h2 (by rw[w2];exact e2)
  rw[w2]at this;exact this
theorem hearBad {w:List Int}(hw:Wb w)(hl:w.length≤100000)(hn: ∀x y s k l,OKL x y s k l→w≠chk (liL x y s k l)):h3e [.n f,.n t,.n (s+1),.n h,.n a,.n l,.l TB w]=some (0,[.n 130,.n f,.n t,.n (s+1),.n h,.n a,.n l,.l TB w])∧
  h3d [.n f,.n t,.n s,.n h,.n a,.n l,.l TB w]=some (0,[.s (r2b []),.n 130,.n f,.n t,.n s,.n h,.n a,.n l,.l TB w]):=
 ⟨t3p (FL hw hl hn) (by omega),v3l (F33 hw hl hn) rfl⟩
theorem v3q {x y q k:Int}{p:List Int}(ho:OKL x y q k p)(hn: ¬(x=t∧y=f)):h3e [.n f,.n t,.n (s+1),.n h,.n a,.n l,.l TB (chk (liL x y q k p))]=some (0,[.n 2,.n f,.n t,.n (s+1),.n h,.n a,.n l,.l TB (chk (liL x y q k p))])∧
  h3d [.n f,.n t,.n s,.n h,.n a,.n l,.l TB (chk (liL x y q k p))]=some (0,[.s (r2b []),.n 2,.n f,.n t,.n s,.n h,.n a,.n l,.l TB (chk (liL x y q k p))]):=by
 by_cases h1:x=t
 ·have h2: ¬y=f:=fun e=>hn ⟨h1,e⟩
  exact⟨v3j (GL ho) rfl h1 h2,y3a (G33 ho) rfl h1 h2⟩
 ·exact⟨u3o (GL ho) rfl h1,v3e (G33 ho) rfl h1⟩
theorem hearOld {q k:Int}{p:List Int}(ho:OKL t f q k p)(hn:q≤h):h3e [.n f,.n t,.n (s+1),.n h,.n a,.n l,.l TB (chk (liL t f q k p))]=some (0,[.n 180,.n f,.n t,.n (s+1),.n h,.n a,.n l,.l TB (chk (liL t f q k p))])∧
  h3d [.n f,.n t,.n s,.n h,.n a,.n l,.l TB (chk (liL t f q k p))]=some (0,[.s (r2b []),.n 180,.n f,.n t,.n s,.n h,.n a,.n l,.l TB (chk (liL t f q k p))]):=
 ⟨w3n (GL ho) rfl rfl rfl hn,v3a (G33 ho) rfl rfl rfl hn⟩
def hA (a s k:Int):Int:=if k>a∧k≤s then k else a
def hL (l h q:Int):Int:=if h>0 then l+q-h-1 else l
theorem hearOk (he:OE f t s h a l){q k:Int}{p:List Int}(ho:OKL t f q k p)(hn: ¬q≤h):h3e [.n f,.n t,.n (s+1),.n h,.n a,.n l,.l TB (chk (liL t f q k p))]=some (1,[.n 0,.n f,.n t,.n (s+1),.n q,.n (hA a s k),.n (hL l h q),.l TB (chk (liL t f q k p)),.l TB p])∧
  h3d [.n f,.n t,.n s,.n h,.n a,.n l,.l TB (chk (liL t f q k p))]=some (0,[.s (r2b p),.n 0,.n f,.n t,.n s,.n q,.n (hA a s k),.n (hL l h q),.l TB (chk (liL t f q k p))])∧OE f t s q (hA a s k) (hL l h q):=by
 have hs:=he.ps;have hh:=he.ph;have hl:=he.pl
 have hq:q≤4611686018427387904:=by
  have h1:=ho.2.2.1
  rw[Bool.and_eq_true]at h1
  exact(win2 h1.1).2.1
 have ws:IntKind.wrap .i64 (s+1-1)=s:=by rw[w64s (by omega) (by omega)];omega
 have wl1:IntKind.wrap .i64 (l+IntKind.wrap .i64 (IntKind.wrap .i64 (q-h)-(1:Int)))=l+q-h-1:=by
  rw[show IntKind.wrap .i64 (q-h)=q-h from w64s (by omega) (by omega),show IntKind.wrap .i64 (q-h-1)=q-h-1 from w64s (by omega) (by omega),w64s (by omega) (by omega)];omega
 have wl2:IntKind.wrap .i64 (IntKind.wrap .i64 (IntKind.wrap .i64 (l+q)-h)-(1:Int))=l+q-h-1:=by
  rw[show IntKind.wrap .i64 (l+q)=l+q from w64s (by omega) (by omega),show IntKind.wrap .i64 (l+q-h)=l+q-h from w64s (by omega) (by omega)]
  exact w64s (by omega) (by omega)
 have e1:=GL ho
 have e2:=G33 ho
 by_cases h0:h>0
 ·have hL1:hL l h q=l+q-h-1:=if_pos h0
  refine⟨?_,?_,⟨he.pf,he.pt,he.ps,by omega,by rw[hL1];omega⟩⟩
  ·rw[hL1,←wl1]
   by_cases h1:k>a
   ·by_cases h2:k≤s
    ·rw[show hA a s k=k from if_pos ⟨h1,h2⟩];exact w3q e1 rfl rfl rfl hn h0 h1 (by rw[ws];exact h2)
    ·rw[show hA a s k=a from if_neg fun q=>h2 q.2];exact x3h e1 rfl rfl rfl hn h0 h1 (by rw[ws];exact h2)
   ·rw[show hA a s k=a from if_neg fun q=>h1 q.1];exact u3b e1 rfl rfl rfl hn h0 h1
  ·rw[hL1,←wl2]
   by_cases h1:k>a
   ·by_cases h2:k≤s
    ·rw[show hA a s k=k from if_pos ⟨h1,h2⟩];exact u3p e2 rfl rfl rfl hn h0 h1 h2
    ·rw[show hA a s k=a from if_neg fun q=>h2 q.2];exact x3f e2 rfl rfl rfl hn h0 h1 h2
   ·rw[show hA a s k=a from if_neg fun q=>h1 q.1];exact x3g e2 rfl rfl rfl hn h0 h1
 ·have hL1:hL l h q=l:=if_neg h0
  refine⟨?_,?_,⟨he.pf,he.pt,he.ps,by omega,by rw[hL1];omega⟩⟩
  ·rw[hL1]
   by_cases h1:k>a
   ·by_cases h2:k≤s
    ·rw[show hA a s k=k from if_pos ⟨h1,h2⟩];exact x3k e1 rfl rfl rfl hn h0 h1 (by rw[ws];exact h2)
    ·rw[show hA a s k=a from if_neg fun q=>h2 q.2];exact u3a e1 rfl rfl rfl hn h0 h1 (by rw[ws];exact h2)
   ·rw[show hA a s k=a from if_neg fun q=>h1 q.1];exact x3y e1 rfl rfl rfl hn h0 h1
  ·rw[hL1]
   by_cases h1:k>a
   ·by_cases h2:k≤s
    ·rw[show hA a s k=k from if_pos ⟨h1,h2⟩];exact x3z e2 rfl rfl rfl hn h0 h1 h2
    ·rw[show hA a s k=a from if_neg fun q=>h2 q.2];exact y3b e2 rfl rfl rfl hn h0 h1 h2
   ·rw[show hA a s k=a from if_neg fun q=>h1 q.1];exact t3z e2 rfl rfl rfl hn h0 h1
theorem hearC (he:OE f t s h a l){w:List Int}(hw:Wb w)(hl:w.length≤100000):
  (∃c:Int,h3e [.n f,.n t,.n (s+1),.n h,.n a,.n l,.l TB w]=some (0,[.n c,.n f,.n t,.n (s+1),.n h,.n a,.n l,.l TB w])∧h3d [.n f,.n t,.n s,.n h,.n a,.n l,.l TB w]=some (0,[.s (r2b []),.n c,.n f,.n t,.n s,.n h,.n a,.n l,.l TB w]))∨
  (∃(h' a' l':Int) (p:List Int),h3e [.n f,.n t,.n (s+1),.n h,.n a,.n l,.l TB w]=some (1,[.n 0,.n f,.n t,.n (s+1),.n h',.n a',.n l',.l TB w,.l TB p])∧h3d [.n f,.n t,.n s,.n h,.n a,.n l,.l TB w]=some (0,[.s (r2b p),.n 0,.n f,.n t,.n s,.n h',.n a',.n l',.l TB w])∧OE f t s h' a' l'∧p.length≤2048):=by
 by_cases hf: ∃x y q k p,OKL x y q k p∧w=chk (liL x y q k p)
 ·obtain⟨x,y,q,k,p,ho,rfl⟩:=hf
  by_cases h1:x=t∧y=f
  ·obtain⟨rfl,rfl⟩:=h1
   by_cases h2:q≤h
   ·exact .inl ⟨180,hearOld ho h2⟩
   ·obtain⟨k1,k2,k3⟩:=hearOk he ho h2
    refine .inr ⟨_,_,_,_,k1,k2,k3,?_⟩
    have h1:=ho.2.2.1
    rw[Bool.and_eq_true]at h1
    have:=of_decide_eq_true h1.2
    omega
  ·exact .inl ⟨2,v3q ho h1⟩
 ·exact .inl ⟨130,hearBad hw hl fun x y s k l ho e=>hf ⟨x,y,s,k,l,ho,e⟩⟩
end
theorem sp23z (L:LC)(i:Int)(z:ByteArray)(x0 x1 x2 x3 x4 x5 y0 y1 y2 y3 y4 y5:Int)(w:LB):i3d [.k 1,.l t0c L,.n i,.s z,.n 0,.n x0,.n x1,.n x2,.n x3,.n x4,.n x5,.n y0,.n y1,.n y2,.n y3,.n y4,.n y5,.l TB w]=some (0,[.l t0c L,.n i,.s z,.n x0,.n x1,.n x2,.n x3,.n x4,.n x5,.n y0,.n y1,.n y2,.n y3,.n y4,.n y5,.l TB w]):=by
 rw[l3r]
 exact c0a (n:=18446744073709551615) (s3k (Int.le_refl _))
theorem sp23 (L:LC)(i:Int)(z:ByteArray)(x0 x1 x2 x3 x4 x5 y0 y1 y2 y3 y4 y5:Int)(w p:LB)(hp:p.length≤100000):i3d [.k 0,.l t0c L,.n i,.s z,.n 0,.n x0,.n x1,.n x2,.n x3,.n x4,.n x5,.n y0,.n y1,.n y2,.n y3,.n y4,.n y5,.l TB w,.l TB p]=some (0,[.l t0c L,.n i,.s z,.n x0,.n x1,.n x2,.n x3,.n x4,.n x5,.n y0,.n y1,.n y2,.n y3,.n y4,.n y5,.l TB w]):=by
 rw[l3r]
 have go: ∀(n:Nat),n≤100000→ ∀k m:Nat,k≤n→n-k<m→ ∀p:LB,p.length=n→a0b j3i m [.k 0,.l t0c L,.n i,.s z,.n (k:Int),.n x0,.n x1,.n x2,.n x3,.n x4,.n x5,.n y0,.n y1,.n y2,.n y3,.n y4,.n y5,.l TB w,.l TB p]=some (0,[.l t0c L,.n i,.s z,.n x0,.n x1,.n x2,.n x3,.n x4,.n x5,.n y0,.n y1,.n y2,.n y3,.n y4,.n y5,.l TB w]):=by
  intro n hn k m hk hm
  induction m generalizing k with
  |zero=>omega
  |succ m ih=>
   intro p hp
   by_cases q:k<n
   ·refine(v0e (t3f (by omega) (by omega))).trans ?_
    rw[w1n k (by omega)]
    exact ih (k+1) (by omega) (by omega) _ ((List.length_set ..).trans hp)
   ·exact c0a (t3t (by omega) (by omega))
 exact go p.length hp 0 FU (by omega) (b1w (by omega)) p rfl
theorem z3b (x y s k:Int)(l:List Int):(liL x y s k l).length=19+2+l.length:=by
 unfold liL
 simp only[List.length_append,h3g,List.length_cons,List.length_nil]
theorem bifLen {n:Nat}{l:List Int}(c:Bool)(h:l.length≤n):(bif c then l else[]).length≤n:=by
 cases c
 ·exact Nat.zero_le _
 ·exact h
section
variable (L:LC) (hl:L.length≤200) (hc: ∀c∈L,okC c) (hb: ∀i,i<L.length→(cB (caAt L i)).length≤6000∧(cL (caAt L i)).length≤6000)
include hl hc hb
theorem l310: ∀m k:Nat,∀f t s h a l:Int,OE f t s h a l→k≤L.length→L.length-k<m→a0b t1c m [.k 0,.l t0c L,.n (k:Int),.n f,.n t,.n (s+1),.n h,.n a,.n l,.n f,.n t,.n s,.n h,.n a,.n l]=some (0,[]):=by
 intro m
 induction m with
 |zero=>intro k f t s h a l _ _ hm;omega
 |succ m ih=>
  intro k f t s h a l he hk hm
  by_cases q:k<L.length
  ·have hin:caAt L k∈L:=memS q
   have ok:=hc _ hin
   obtain⟨b1,b2⟩:=hb k q
   have g1:(k:Int)<(L.length:Int):=Int.ofNat_lt.2 q
   have hs:=he.ps
   have ws:IntKind.wrap .i64 (s+1-(1:Int))=s:=by rw[w64s (by omega) (by omega)];omega
   have ws2:IntKind.wrap .i64 (s+1+1-(1:Int))=s+1:=by rw[w64s (by omega) (by omega)];omega
   have fin: ∀{f t s h a l:Int},OE f t s h a l→a0b t1c m [.k 0,.l t0c L,.n (IntKind.wrap .i64 ((k:Int)+(1:Int))),.n f,.n t,.n (s+1),.n h,.n a,.n l,.n f,.n t,.n s,.n h,.n a,.n l]=some (0,[]):=fun{f t s h a l} he=>by
    rw[w1n k (by omega)];exact ih (k+1) f t s h a l he (by omega) (by omega)
   have ebb:c0b (r2b (cB (caAt L k)))=cB (caAt L k):=h3i ok.wb
   have hk8:0≤Int.tmod (cK (caAt L k)) 8∧Int.tmod (cK (caAt L k)) 8<8:=by
    have:=ok.k0;rw[Int.tmod_eq_emod_of_nonneg this.1];omega
   have key: ∀v:Int,Int.tmod (Prod.fst (List.getD L (Int.toNat (k:Int)) (Ty.dflt t0c))) 8=v→Int.tmod (cK (caAt L k)) 8=v:=fun v h=>h
   obtain⟨v,hv⟩: ∃v,Int.tmod (cK (caAt L k)) 8=v:=⟨_,rfl⟩
   rw[hv]at hk8
   have sendS: ∀(no:h3m [.n f,.n t,.n (s+1),.n h,.n a,.n l,.l TB (c0b (r2b (cB (caAt L k))))]=some (0,[.n 3,.n f,.n t,.n (s+1),.n h,.n a,.n l,.l TB (cB (caAt L k))])→h3l [.s (r2b (cB (caAt L k))),.n f,.n t,.n s,.n h,.n a,.n l]=some (0,[.n 3,.n f,.n t,.n s,.n h,.n a,.n l])→(t1c [.k 0,.l t0c L,.n (k:Int),.n f,.n t,.n (s+1),.n h,.n a,.n l,.n f,.n t,.n s,.n h,.n a,.n l]).sel=some (Step.go [.k 0,.l t0c L,.n (IntKind.wrap .i64 ((k:Int)+(1:Int))),.n f,.n t,.n (s+1),.n h,.n a,.n l,.n f,.n t,.n s,.n h,.n a,.n l]))
     (yes: ∀F:List Int,h3m [.n f,.n t,.n (s+1),.n h,.n a,.n l,.l TB (c0b (r2b (cB (caAt L k))))]=some (1,[.n 0,.n f,.n t,.n (s+1+1),.n h,.n a,.n l,.l TB (cB (caAt L k)),.l TB F])→h3l [.s (r2b (cB (caAt L k))),.n f,.n t,.n s,.n h,.n a,.n l]=some (1,[.n 0,.n f,.n t,.n (s+1),.n h,.n a,.n l,.l TB F])→(t1c [.k 0,.l t0c L,.n (k:Int),.n f,.n t,.n (s+1),.n h,.n a,.n l,.n f,.n t,.n s,.n h,.n a,.n l]).sel=some (Step.go [.k 0,.l t0c L,.n (IntKind.wrap .i64 ((k:Int)+(1:Int))),.n f,.n t,.n (s+1+1),.n h,.n a,.n l,.n f,.n t,.n (s+1),.n h,.n a,.n l])),
     a0b t1c (m+1) [.k 0,.l t0c L,.n (k:Int),.n f,.n t,.n (s+1),.n h,.n a,.n l,.n f,.n t,.n s,.n h,.n a,.n l]=some (0,[]):=by
    intro no yes
    by_cases hn:((cB (caAt L k)).length:Int)>2048∨s≥4611686018427387904
    ·obtain⟨e1,e2⟩:=sendNo (B:=cB (caAt L k)) hn
     exact(v0e (no (by rw[ebb];exact e1) e2)).trans (fin he)
    ·have n1: ¬((cB (caAt L k)).length:Int)>2048:=fun e=>hn (.inl e)
     have n2: ¬s≥4611686018427387904:=fun e=>hn (.inr e)
     obtain⟨e1,e2⟩:=sendOk he (B:=cB (caAt L k)) ok.wb n1 n2
     exact(v0e (yes _ (by rw[ebb];exact e1) e2)).trans (fin ⟨he.pf,he.pt,by omega,he.ph,he.pl⟩)
   have seL: ∀x:List Int,f0b (r2b x) (r2b x)=true:=fun x=>h3v _
   have hearS: ∀w:List Int,Wb w→w.length≤100000→(∀(c:Int) (z:ByteArray),h3e [.n f,.n t,.n (s+1),.n h,.n a,.n l,.l TB w]=some (0,[.n c,.n f,.n t,.n (s+1),.n h,.n a,.n l,.l TB w])→h3d [.n f,.n t,.n s,.n h,.n a,.n l,.l TB (c0b (r2b w))]=some (0,[.s z,.n c,.n f,.n t,.n s,.n h,.n a,.n l,.l TB (c0b (r2b w))])→f0b (r2b ([]:List Int)) z=true→(t1c [.k 0,.l t0c L,.n (k:Int),.n f,.n t,.n (s+1),.n h,.n a,.n l,.n f,.n t,.n s,.n h,.n a,.n l]).sel=some (Step.go [.k 0,.l t0c L,.n (IntKind.wrap .i64 ((k:Int)+(1:Int))),.n f,.n t,.n (s+1),.n h,.n a,.n l,.n f,.n t,.n s,.n h,.n a,.n l]))→
     (∀(h' a' l':Int) (p:List Int) (z:ByteArray),p.length≤100000→h3e [.n f,.n t,.n (s+1),.n h,.n a,.n l,.l TB w]=some (1,[.n 0,.n f,.n t,.n (s+1),.n h',.n a',.n l',.l TB w,.l TB p])→h3d [.n f,.n t,.n s,.n h,.n a,.n l,.l TB (c0b (r2b w))]=some (0,[.s z,.n 0,.n f,.n t,.n s,.n h',.n a',.n l',.l TB (c0b (r2b w))])→f0b (r2b p) z=true→(t1c [.k 0,.l t0c L,.n (k:Int),.n f,.n t,.n (s+1),.n h,.n a,.n l,.n f,.n t,.n s,.n h,.n a,.n l]).sel=some (Step.go [.k 0,.l t0c L,.n (IntKind.wrap .i64 ((k:Int)+(1:Int))),.n f,.n t,.n (s+1),.n h',.n a',.n l',.n f,.n t,.n s,.n h',.n a',.n l']))→
     a0b t1c (m+1) [.k 0,.l t0c L,.n (k:Int),.n f,.n t,.n (s+1),.n h,.n a,.n l,.n f,.n t,.n s,.n h,.n a,.n l]=some (0,[]):=by
    intro w hw hwl no yes
    have eb:=h3i hw
    rcases hearC he hw hwl with⟨c,e1,e2⟩|⟨h',a',l',p,e1,e2,e3,e4⟩
    ·exact(v0e (no c _ e1 (by rw[eb];exact e2) (h3v _))).trans (fin he)
    ·exact(v0e (yes h' a' l' p _ (by omega) e1 (by rw[eb];exact e2) (h3v _))).trans (fin e3)
   have hv8:v=0∨v=1∨v=2∨v=3∨v=4∨v=5∨v=6∨v=7:=by omega
   rcases hv8 with rfl|rfl|rfl|rfl|rfl|rfl|rfl|rfl
   ·exact sendS (fun e1 e2=>n3r (by omega) g1 hv e1 e2 ws) (fun F e1 e2=>p3b (by omega) g1 hv e1 e2 (h3v _) ws2)
   ·exact sendS (fun e1 e2=>n3q (by omega) g1 hv e1 e2 ws) (fun F e1 e2=>m3k (by omega) g1 hv e1 e2 (h3v _) ws2)
   ·have e13:=p13 (cF (caAt L k)) (cT (caAt L k)) (cS (caAt L k)) (cA (caAt L k)) (cL (caAt L k)) ok.f ok.t
    obtain⟨w,e13,hwb,hwl⟩: ∃w:List Int,j3c [.n (cF (caAt L k)),.n (cT (caAt L k)),.n (cS (caAt L k)),.n (cA (caAt L k)),.l TB (cL (caAt L k))]=some (0,[.l TB w])∧Wb w∧w.length≤100000:=by
     refine⟨_,e13,bif_wb (v3h (r3c ok.f ok.t ok.wl)),?_⟩
     refine bifLen _ ?_
     rw[k3r]
     have e:=z3b (cF (caAt L k)) (cT (caAt L k)) (cS (caAt L k)) (cA (caAt L k)) (cL (caAt L k))
     have b3:List.length (α:=Int) (cL (caAt L k))≤6000:=b2
     rw[e]
     omega
    refine hearS w hwb hwl (fun c z e1 e2 e3=> ?_) (fun h' a' l' p z hp e1 e2 e3=> ?_)
    ·exact n3x (by omega) g1 hv e13 (h3v _) e1 e2 e3 (sp23z _ _ _ _ _ _ _ _ _ _ _ _ _ _ _ _) ws e3
    ·exact n3z (by omega) g1 hv e13 (h3v _) e1 e2 e3 (sp23 _ _ _ _ _ _ _ _ _ _ _ _ _ _ _ _ _ hp) ws
   ·refine hearS (c0b (r2b (cB (caAt L k)))) (by rw[ebb];exact ok.wb) (by rw[ebb];exact Nat.le_trans b1 (by omega)) (fun c z e1 e2 e3=> ?_) (fun h' a' l' p z hp e1 e2 e3=> ?_)
    ·exact n3b (l9:=[]) (by omega) g1 hv (h3v _) e1 e2 e3 (sp23z _ _ _ _ _ _ _ _ _ _ _ _ _ _ _ _) ws e3
    ·exact n3w (l9:=[]) (by omega) g1 hv (h3v _) e1 e2 e3 (sp23 _ _ _ _ _ _ _ _ _ _ _ _ _ _ _ _ _ hp) ws
   ·refine hearS (c0b (r2b (cB (caAt L k)))) (by rw[ebb];exact ok.wb) (by rw[ebb];exact Nat.le_trans b1 (by omega)) (fun c z e1 e2 e3=> ?_) (fun h' a' l' p z hp e1 e2 e3=> ?_)
    ·exact n3h (l9:=[]) (by omega) g1 hv (h3v _) e1 e2 e3 (sp23z _ _ _ _ _ _ _ _ _ _ _ _ _ _ _ _) ws e3
    ·exact m3t (l9:=[]) (by omega) g1 hv (h3v _) e1 e2 e3 (sp23 _ _ _ _ _ _ _ _ _ _ _ _ _ _ _ _ _ hp) ws
   ·exact sendS (fun e1 e2=>o3o (by omega) g1 hv e1 e2 ws) (fun F e1 e2=>o3g (by omega) g1 hv e1 e2 (h3v _) ws2)
   ·exact sendS (fun e1 e2=>n3m (by omega) g1 hv e1 e2 ws) (fun F e1 e2=>m3y (by omega) g1 hv e1 e2 (h3v _) ws2)
   ·exact sendS (fun e1 e2=>o3q (by omega) g1 hv e1 e2 ws) (fun F e1 e2=>n3e (by omega) g1 hv e1 e2 (h3v _) ws2)
  ·exact c0a (s3o (n2:=f) (n3:=t) (n4:=s+1) (n5:=h) (n6:=a) (n7:=l) (n8:=s) (by omega) (by omega))
end
theorem W3_all (f t n:Int)(L:LC)(hf:wfD (.int .u8) f=true)(ht:wfD (.int .u8) t=true)(hl:wfD (.sl t0c) L=true):(p3r [.n f,.n t,.n n,.l t0c L]).sel=some true:=by
 have e9:op_9 []=some (0,[.b true]):=rfl
 obtain⟨x,e,hx⟩:=l7x L
 cases x with
 |true=>exact z3r e rfl e9
 |false=>
  obtain⟨h1,h2⟩:=hx rfl
  by_cases q1:f=t
  ·exact z3j e rfl q1 e9
  by_cases q2:n<1
  ·exact a4a e rfl q1 q2 e9
  by_cases q3:n>2305843009213693952
  ·exact a4h e rfl q1 q2 q3 e9
  have wn:IntKind.wrap .i64 (n-(1:Int))=n-1:=w64s (by omega) (by omega)
  have hh:=l310 L h1 (fun c q=>okC_wf (wfAll hl c q)) h2 FU 0 f t (n-1) 0 0 0 ⟨u8Wf hf,u8Wf ht,by omega,by omega,by omega⟩ (Nat.zero_le _) (b1w (by omega))
  rw[show n-1+1=n by omega,←t3h]at hh
  exact z3o e rfl q1 q2 q3 (by rw[wn];exact hh) e9
end Go.Proofs.Ythkdhfejnbineaa.Vx
end
