import Derived.Test.YtoehlcomhpnjgaaVxAsk
import Derived.Test.YtoehlcomhpnjgaaZ15a
import Derived.KernelRfl
noncomputable section
namespace Go.Proofs.Ytoehlcomhpnjgaa.Vx
open Go Go.RowKit
set_option linter.unusedVariables false
set_option linter.unusedSimpArgs false
set_option maxRecDepth 100000
set_option maxHeartbeats 0
def mlB (h d:Nat)(r:PV):PB:=.cells [.ptr d 0,.int .i64 h,.int .i64 (h+1),r,.int .i64 (h+2)]
def g4m:FuncId→Option a0q:=a0s 41 (s4f.k h3l) m3b
theorem b4m:CsOk Try.prog g4m:=csL1 i3h w3o
def k4l:FuncId→Option a0q:=a0s 47 (v4h.k i3l) g4m
theorem b4h:CsOk Try.prog k4l:=csL1 b4m x3v
def h4z:FuncId→Option a0q:=a0s 42 (S_m42.k i3t) k4l
theorem b4k:CsOk Try.prog h4z:=csL1 b4h u4a
def a4t:FuncId→Option a0q:=a0s 32 (a4c.k i3n) h4z
theorem v3g:CsOk Try.prog a4t:=csL1 b4k z3s
def q3r:FuncId→Option a0q:=a0s 33 (a4q.k k3h) a4t
theorem n3p:CsOk Try.prog q3r:=csL1 v3g z3f
def S_mw:BSh:={args:=[.ptr 0 0,.int .i64 0,.str 1],blks:=[mlB 2 1 (.own 2),dkB 3 4 5,.arr TS 9,.arr TS 10,.arr TOp 11],log:=[0,1,3,4],outs:=[(.int .i64 0,[mlB 1 1 (.own 2),dkB 3 4 4,.arr TS 8,.arr TS 9,.arr TOp 10]),(.int .i64 0,[mlB 1 1 (.own 2),dkB 3 5 4,.arr TS 8,.arr TS 9,.gone,.arr TOp 10])]}
def ev_mw:List Dat→Tree (Nat×List Dat):=evFV [(some 1,1,.own TOp)] q3r 75 ls0 S_mw
theorem e_mw: ∃op,IsF ev_mw 75 S_mw op:=bxFV n3p (LsOk.none _ _ _)
def o3d:OpA:=opF e_mw
theorem u4g {n0:Int}{s1:ByteArray}{n2 n3 n4 n5:Int}{b6:Bool}{n7:Int}{b8:Bool}{l9 l10:List (Ty.den TS)}{l11:List (Ty.den TOp)}{n12 n13:Int}{b14:Bool}{n15:Int}{b16:Bool}{l17:List (Ty.den TS)}{l18:List (Ty.den TOp)}{n19 n20:Int}{b21:Bool}{n22:Int}{b23:Bool}{l24:List (Ty.den TS)}{l25:List (Ty.den TOp)}(h0:(h3r [.n n0,.s s1,.n n5,.b b6,.n n7,.b b8,.l TS l10,.l TOp l11])=(some (0,[.n n12,.n n13,.b b14,.n n15,.b b16,.l TS l17,.l TOp l18])))(h1:(n12=(0:Int)))(h2:(k3i [.n n13,.b b14,.n n15,.b b16,.l TS l10,.l TOp l18])=(some (0,[.n n19,.n n20,.b b21,.n n22,.b b23,.l TS l24,.l TOp l25]))):o3d [.n n0,.s s1,.n n2,.n n3,.n n4,.n n5,.b b6,.n n7,.b b8,.l TS l9,.l TS l10,.l TOp l11]=some ((0,[.n n19,.n n2,.n n3,.n n19,.n n20,.b b21,.n n22,.b b23,.l TS l9,.l TS l24,.l TOp l18])):=t0c e_mw (sP [1]<|sA h0<|sP [1,1]<|sT (bt h1)<|sP [1]<|sA h2<|sP [1,1,1]<|sL)
theorem r4h {n0:Int}{s1:ByteArray}{n2 n3 n4 n5:Int}{b6:Bool}{n7:Int}{b8:Bool}{l9 l10:List (Ty.den TS)}{l11:List (Ty.den TOp)}{n12 n13:Int}{b14:Bool}{n15:Int}{b16:Bool}{l17:List (Ty.den TS)}{l18:List (Ty.den TOp)}{n19 n20:Int}{b21:Bool}{n22:Int}{b23:Bool}{l24:List (Ty.den TS)}{l25:List (Ty.den TOp)}(h0:(h3r [.n n0,.s s1,.n n5,.b b6,.n n7,.b b8,.l TS l10,.l TOp l11])=(some (0,[.n n12,.n n13,.b b14,.n n15,.b b16,.l TS l17,.l TOp l18])))(h1:(n12=(0:Int)))(h2:(k3i [.n n13,.b b14,.n n15,.b b16,.l TS l10,.l TOp l18])=(some (1,[.n n19,.n n20,.b b21,.n n22,.b b23,.l TS l24,.l TOp l25]))):o3d [.n n0,.s s1,.n n2,.n n3,.n n4,.n n5,.b b6,.n n7,.b b8,.l TS l9,.l TS l10,.l TOp l11]=some ((1,[.n n19,.n n2,.n n3,.n n19,.n n20,.b b21,.n n22,.b b23,.l TS l9,.l TS l24,.l TOp l25])):=t0c e_mw (sP [1]<|sA h0<|sP [1,1]<|sT (bt h1)<|sP [1]<|sA h2<|sP [0,1,1,1]<|sL)
theorem u4m {n0:Int}{s1:ByteArray}{n2 n3 n4 n5:Int}{b6:Bool}{n7:Int}{b8:Bool}{l9 l10:List (Ty.den TS)}{l11:List (Ty.den TOp)}{n12 n13:Int}{b14:Bool}{n15:Int}{b16:Bool}{l17:List (Ty.den TS)}{l18:List (Ty.den TOp)}(h0:(h3r [.n n0,.s s1,.n n5,.b b6,.n n7,.b b8,.l TS l10,.l TOp l11])=(some (0,[.n n12,.n n13,.b b14,.n n15,.b b16,.l TS l17,.l TOp l18])))(h1:(¬n12=(0:Int))):o3d [.n n0,.s s1,.n n2,.n n3,.n n4,.n n5,.b b6,.n n7,.b b8,.l TS l9,.l TS l10,.l TOp l11]=some ((0,[.n n12,.n n2,.n n3,.n n12,.n n13,.b b14,.n n15,.b b16,.l TS l9,.l TS l10,.l TOp l18])):=t0c e_mw (sP [1]<|sA h0<|sP [1,1]<|sF (bf h1)<|sP [1]<|sL)
def cs_mw:FuncId→Option a0q:=e1c 75 [S_mw.k o3d] q3r
theorem z3p:CsOk Try.prog cs_mw:=csA1 n3p e_mw
def S_ma:BSh:={args:=[.ptr 0 0,.str 0],blks:=[mlB 1 1 (.own 2),dkB 3 4 4,.arr TS 8,.arr TS 9,.arr TOp 10],log:=[0,1,2,3,4],outs:=[(.int .i64 0,[mlB 1 1 (.own 2),dkB 3 4 4,.arr TS 8,.arr TS 9,.arr TOp 10]),(.int .i64 0,[mlB 1 1 (.own 2),dkB 3 5 4,.arr TS 8,.arr TS 9,.gone,.arr TOp 10])]}
def ev_ma:List Dat→Tree (Nat×List Dat):=evFV [(some 1,1,.own TOp)] cs_mw 61 ls0 S_ma
theorem e_ma: ∃op,IsF ev_ma 61 S_ma op:=bxFV z3p (LsOk.none _ _ _)
def p3k:OpA:=opF e_ma
theorem v4b {s0:ByteArray}{n1 n2 n3 n4:Int}{b5:Bool}{n6:Int}{b7:Bool}{l8 l9:List (Ty.den TS)}{l10:List (Ty.den TOp)}(h0:(¬n3=(0:Int))):p3k [.s s0,.n n1,.n n2,.n n3,.n n4,.b b5,.n n6,.b b7,.l TS l8,.l TS l9,.l TOp l10]=some ((0,[.n n3,.n n1,.n n2,.n n3,.n n4,.b b5,.n n6,.b b7,.l TS l8,.l TS l9,.l TOp l10])):=t0c e_ma (sT (bnt h0)<|sP [1]<|sL)
theorem t4t {s0:ByteArray}{n1 n2 n3 n4:Int}{b5:Bool}{n6:Int}{b7:Bool}{l8 l9:List (Ty.den TS)}{l10:List (Ty.den TOp)}(h0:(n3=(0:Int)))(h1:((↑(ByteArray.size s0):Int)>(232:Int))):p3k [.s s0,.n n1,.n n2,.n n3,.n n4,.b b5,.n n6,.b b7,.l TS l8,.l TS l9,.l TOp l10]=some ((0,[.n (3:Int),.n n1,.n n2,.n n3,.n n4,.b b5,.n n6,.b b7,.l TS l8,.l TS l9,.l TOp l10])):=t0c e_ma (sF (bnf h0)<|sT (dt h1)<|sP [1]<|sL)
theorem t4h {s0:ByteArray}{n1 n2 n3 n4:Int}{b5:Bool}{n6:Int}{b7:Bool}{l8 l9:List (Ty.den TS)}{l10:List (Ty.den TOp)}(h0:(n3=(0:Int)))(h1:(¬(↑(ByteArray.size s0):Int)>(232:Int)))(h2:((↑(List.length l8):Int)≥IntKind.wrap .i64 ((↑(List.length l9):Int)-(2:Int)))):p3k [.s s0,.n n1,.n n2,.n n3,.n n4,.b b5,.n n6,.b b7,.l TS l8,.l TS l9,.l TOp l10]=some ((0,[.n (150:Int),.n n1,.n n2,.n n3,.n n4,.b b5,.n n6,.b b7,.l TS l8,.l TS l9,.l TOp l10])):=t0c e_ma (sF (bnf h0)<|sF (df h1)<|sP [1,1,1]<|sT (dt h2)<|sP [1]<|sL)
theorem u4s {s0:ByteArray}{n1 n2 n3 n4:Int}{b5:Bool}{n6:Int}{b7:Bool}{l8 l9:List (Ty.den TS)}{l10:List (Ty.den TOp)}{s11:ByteArray}{n12 n13 n14 n15 n16:Int}{b17:Bool}{n18:Int}{b19:Bool}{l20 l21:List (Ty.den TS)}{l22:List (Ty.den TOp)}(h0:(n3=(0:Int)))(h1:(¬(↑(ByteArray.size s0):Int)>(232:Int)))(h2:(¬(↑(List.length l8):Int)≥IntKind.wrap .i64 ((↑(List.length l9):Int)-(2:Int))))(h3:(k3h [.n (IntKind.wrap .i64 (n2+(↑(List.length l8):Int))),.s s0])=(some (0,[.s s11])))(h4:(o3d [.n (IntKind.wrap .i64 ((2:Int)+Int.tmod (IntKind.wrap .i64 (IntKind.wrap .i64 (n2+(↑(List.length l8):Int))-(1:Int))) (IntKind.wrap .i64 ((↑(List.length l9):Int)-(2:Int))))),.s s11,.n n1,.n n2,.n n3,.n n4,.b b5,.n n6,.b b7,.l TS l8,.l TS l9,.l TOp l10])=(some (0,[.n n12,.n n13,.n n14,.n n15,.n n16,.b b17,.n n18,.b b19,.l TS l20,.l TS l21,.l TOp l22])))(h5:(¬n12=(0:Int))):p3k [.s s0,.n n1,.n n2,.n n3,.n n4,.b b5,.n n6,.b b7,.l TS l8,.l TS l9,.l TOp l10]=some ((0,[.n n12,.n n13,.n n14,.n n15,.n n16,.b b17,.n n18,.b b19,.l TS l8,.l TS l21,.l TOp l22])):=t0c e_ma (sF (bnf h0)<|sF (df h1)<|sP [1,1,1]<|sF (df h2)<|sP [1,1,1,1,1,1]<|sTo (c:=(!decide (IntKind.wrap .i64 ((↑(List.length l9):Int)-(2:Int))=(0:Int))))<|sP [1,1,1,1]<|sA h3<|sP [1,1,1]<|sA h4<|sP [1,1]<|sF (bf h5)<|sP [1]<|sL)
theorem u4n {s0:ByteArray}{n1 n2 n3 n4:Int}{b5:Bool}{n6:Int}{b7:Bool}{l8 l9:List (Ty.den TS)}{l10:List (Ty.den TOp)}{s11:ByteArray}{n12 n13 n14 n15 n16:Int}{b17:Bool}{n18:Int}{b19:Bool}{l20 l21:List (Ty.den TS)}{l22:List (Ty.den TOp)}(h0:(n3=(0:Int)))(h1:(¬(↑(ByteArray.size s0):Int)>(232:Int)))(h2:(¬(↑(List.length l8):Int)≥IntKind.wrap .i64 ((↑(List.length l9):Int)-(2:Int))))(h3:(k3h [.n (IntKind.wrap .i64 (n2+(↑(List.length l8):Int))),.s s0])=(some (0,[.s s11])))(h4:(o3d [.n (IntKind.wrap .i64 ((2:Int)+Int.tmod (IntKind.wrap .i64 (IntKind.wrap .i64 (n2+(↑(List.length l8):Int))-(1:Int))) (IntKind.wrap .i64 ((↑(List.length l9):Int)-(2:Int))))),.s s11,.n n1,.n n2,.n n3,.n n4,.b b5,.n n6,.b b7,.l TS l8,.l TS l9,.l TOp l10])=(some (1,[.n n12,.n n13,.n n14,.n n15,.n n16,.b b17,.n n18,.b b19,.l TS l20,.l TS l21,.l TOp l22])))(h5:(n12=(0:Int)))(h6:((List.length l8+1)*16≤140737488355328)):p3k [.s s0,.n n1,.n n2,.n n3,.n n4,.b b5,.n n6,.b b7,.l TS l8,.l TS l9,.l TOp l10]=some ((1,[.n n12,.n n13,.n n14,.n n15,.n n16,.b b17,.n n18,.b b19,.l TS (l8++[s0]),.l TS l21,.l TOp l22])):=t0c e_ma (sF (bnf h0)<|sF (df h1)<|sP [1,1,1]<|sF (df h2)<|sP [1,1,1,1,1,1]<|sTo (c:=(!decide (IntKind.wrap .i64 ((↑(List.length l9):Int)-(2:Int))=(0:Int))))<|sP [1,1,1,1]<|sA h3<|sP [1,1,1]<|sA h4<|sP [0,1,1]<|sT (bt h5)<|sT (dt h6)<|sP [1]<|sL)
def cs_ma:FuncId→Option a0q:=e1c 61 [S_ma.k p3k] cs_mw
theorem y3n:CsOk Try.prog cs_ma:=csA1 z3p e_ma
def S_mt:BSh:={args:=[.ptr 0 0,.int .i64 0],blks:=[mlB 1 1 (.own 2),dkB 3 4 4,.arr TS 8,.arr TS 9,.arr TOp 10],log:=[0,1,2,3,4],outs:=[(.int .i64 0,[mlB 1 1 (.own 2),dkB 3 4 4,.arr TS 8,.arr TS 9,.arr TOp 10]),(.int .i64 0,[mlB 1 1 (.own 2),dkB 3 5 4,.arr TS 8,.arr TS 9,.gone,.arr TOp 10]),(.int .i64 0,[mlB 1 1 (.own 5),dkB 3 4 4,.gone,.arr TS 8,.arr TOp 9,.arr TS 10]),(.int .i64 0,[mlB 1 1 (.own 6),dkB 3 5 4,.gone,.arr TS 8,.gone,.arr TOp 9,.arr TS 10]),(.int .i64 0,[mlB 1 1 (.own 5),dkB 3 6 4,.gone,.arr TS 8,.gone,.arr TS 9,.arr TOp 10])]}
def ev_mt:List Dat→Tree (Nat×List Dat):=evFV [(some 1,1,.own TOp)] cs_ma 60 ls0 S_mt
theorem e_mt: ∃op,IsF ev_mt 60 S_mt op:=bxFV y3n (LsOk.none _ _ _)
def p3j:OpA:=opF e_mt
theorem t4q {n0 n1 n2 n3 n4:Int}{b5:Bool}{n6:Int}{b7:Bool}{l8 l9:List (Ty.den TS)}{l10:List (Ty.den TOp)}(h0:(¬n3=(0:Int))):p3j [.n n0,.n n1,.n n2,.n n3,.n n4,.b b5,.n n6,.b b7,.l TS l8,.l TS l9,.l TOp l10]=some ((0,[.n n3,.n n1,.n n2,.n n3,.n n4,.b b5,.n n6,.b b7,.l TS l8,.l TS l9,.l TOp l10])):=t0c e_mt (sT (bnt h0)<|sP [1]<|sL)
theorem r4j {n0 n1 n2 n3 n4:Int}{b5:Bool}{n6:Int}{b7:Bool}{l8 l9:List (Ty.den TS)}{l10:List (Ty.den TOp)}(h0:(n3=(0:Int)))(h1:(n0<n2)):p3j [.n n0,.n n1,.n n2,.n n3,.n n4,.b b5,.n n6,.b b7,.l TS l8,.l TS l9,.l TOp l10]=some ((0,[.n (2:Int),.n n1,.n n2,.n n3,.n n4,.b b5,.n n6,.b b7,.l TS l8,.l TS l9,.l TOp l10])):=t0c e_mt (sF (bnf h0)<|sT (dt h1)<|sP [1,1,1]<|sL)
theorem t4k {n0 n1 n2 n3 n4:Int}{b5:Bool}{n6:Int}{b7:Bool}{l8 l9:List (Ty.den TS)}{l10:List (Ty.den TOp)}(h0:(n3=(0:Int)))(h1:(¬n0<n2))(h2:(n0>IntKind.wrap .i64 (n2+(↑(List.length l8):Int)))):p3j [.n n0,.n n1,.n n2,.n n3,.n n4,.b b5,.n n6,.b b7,.l TS l8,.l TS l9,.l TOp l10]=some ((0,[.n (2:Int),.n n1,.n n2,.n n3,.n n4,.b b5,.n n6,.b b7,.l TS l8,.l TS l9,.l TOp l10])):=t0c e_mt (sF (bnf h0)<|sF (df h1)<|sP [1,1,1]<|sT (dt h2)<|sP [1]<|sL)
theorem t4m {n0 n1 n2 n3 n4:Int}{b5:Bool}{n6:Int}{b7:Bool}{l8 l9:List (Ty.den TS)}{l10:List (Ty.den TOp)}{s11:ByteArray}{n12 n13 n14 n15 n16:Int}{b17:Bool}{n18:Int}{b19:Bool}{l20 l21:List (Ty.den TS)}{l22:List (Ty.den TOp)}(h0:(n3=(0:Int)))(h1:(¬n0<n2))(h2:(¬n0>IntKind.wrap .i64 (n2+(↑(List.length l8):Int))))(h3:(i3n [.n (IntKind.wrap .i64 (n1+(1:Int))),.n n0])=(some (0,[.s s11])))(h4:(o3d [.n (Int.tmod (IntKind.wrap .i64 (n1+(1:Int))) (2:Int)),.s s11,.n n1,.n n2,.n n3,.n n4,.b b5,.n n6,.b b7,.l TS l8,.l TS l9,.l TOp l10])=(some (0,[.n n12,.n n13,.n n14,.n n15,.n n16,.b b17,.n n18,.b b19,.l TS l20,.l TS l21,.l TOp l22])))(h5:(¬n12=(0:Int))):p3j [.n n0,.n n1,.n n2,.n n3,.n n4,.b b5,.n n6,.b b7,.l TS l8,.l TS l9,.l TOp l10]=some ((0,[.n n12,.n n13,.n n14,.n n15,.n n16,.b b17,.n n18,.b b19,.l TS l8,.l TS l21,.l TOp l22])):=t0c e_mt (sF (bnf h0)<|sF (df h1)<|sP [1,1,1]<|sF (df h2)<|sP [1]<|sA h3<|sP [1,1,1]<|sA h4<|sP [1,1,1]<|sF (bf h5)<|sP [1]<|sL)
theorem v4g {n0 n1 n2 n3 n4:Int}{b5:Bool}{n6:Int}{b7:Bool}{l8 l9:List (Ty.den TS)}{l10:List (Ty.den TOp)}{s11:ByteArray}{n12 n13 n14 n15 n16:Int}{b17:Bool}{n18:Int}{b19:Bool}{l20 l21:List (Ty.den TS)}{l22:List (Ty.den TOp)}(h0:(n3=(0:Int)))(h1:(¬n0<n2))(h2:(¬n0>IntKind.wrap .i64 (n2+(↑(List.length l8):Int))))(h3:(i3n [.n (IntKind.wrap .i64 (n1+(1:Int))),.n n0])=(some (0,[.s s11])))(h4:(o3d [.n (Int.tmod (IntKind.wrap .i64 (n1+(1:Int))) (2:Int)),.s s11,.n n1,.n n2,.n n3,.n n4,.b b5,.n n6,.b b7,.l TS l8,.l TS l9,.l TOp l10])=(some (1,[.n n12,.n n13,.n n14,.n n15,.n n16,.b b17,.n n18,.b b19,.l TS l20,.l TS l21,.l TOp l22])))(h5:(n12=(0:Int)))(h6:((decide ((0:Int)≤IntKind.wrap .i64 (n0-n14))&&decide (IntKind.wrap .i64 (n0-n14)≤(↑(List.length l8):Int)))=true))(h7:((0+List.length (List.take (Int.toNat (↑(List.length l8):Int)-Int.toNat (IntKind.wrap .i64 (n0-n14))) (List.drop (Int.toNat (IntKind.wrap .i64 (n0-n14))) l8)))*16≤140737488355328)):p3j [.n n0,.n n1,.n n2,.n n3,.n n4,.b b5,.n n6,.b b7,.l TS l8,.l TS l9,.l TOp l10]=some ((4,[.n n12,.n (IntKind.wrap .i64 (n13+(1:Int))),.n n0,.n n15,.n n16,.b b17,.n n18,.b b19,.l TS l21,.l TS ([]++List.take (Int.toNat (↑(List.length l8):Int)-Int.toNat (IntKind.wrap .i64 (n0-n14))) (List.drop (Int.toNat (IntKind.wrap .i64 (n0-n14))) l8)),.l TOp l22])):=t0c e_mt (sF (bnf h0)<|sF (df h1)<|sP [1,1,1]<|sF (df h2)<|sP [1]<|sA h3<|sP [1,1,1]<|sA h4<|sP [0,1,1,1]<|sT (bt h5)<|sTs (c:=(true&&decide ((↑(List.length l8):Int)≤(↑(List.length l8):Int))))<|sT h6<|sT (dt h7)<|sP [1,1]<|sL)
def u4k:FuncId→Option a0q:=e1c 60 [S_mt.k p3j] cs_ma
theorem r3g:CsOk Try.prog u4k:=csA1 y3n e_mt
def f4s:LSh:={K:=3,log:=[],ins:=[(sh 159 [(0,.ptr 0 0),(12,.ptr 3 0)],[dkB 1 2 0,.arr TS 4,.arr TOp 5,mlB 6 0 (.own 4),.arr TS 9]),(sh 159 [(0,.ptr 0 0),(12,.ptr 3 0)],[dkB 1 4 0,.arr TS 4,.gone,mlB 5 0 (.own 5),.arr TOp 8,.arr TS 9])],nils:=[],outs:=[(.exit 0,sh 159 [(0,.ptr 0 0),(12,.ptr 3 0)],[dkB 1 2 0,.arr TS 4,.arr TOp 5,mlB 6 0 (.own 4),.arr TS 9]),(.exit 0,sh 159 [(0,.ptr 0 0),(12,.ptr 3 0)],[dkB 1 4 0,.arr TS 4,.gone,mlB 5 0 (.own 5),.arr TOp 8,.arr TS 9])],cv:=[(12,[],3,.own TS),(0,[],1,.own TOp)]}
def i3g:List Dat→Tree Step:=evL u4k 11 23 ls0 f4s
theorem q3k: ∃op,IsL i3g 11 23 f4s op:=bxL r3g (LsOk.none _ _ _)
def i3p:OpA:=opL q3k
theorem n3z (env:List Dat):i3p env=a0b i3g FU env:=h3y q3k env
abbrev v4k:MBox:=boxL q3k
theorem p3d {n0:Int}{b1:Bool}{n2:Int}{b3:Bool}{l4:List (Ty.den TS)}{l5:List (Ty.den TOp)}{n6 n7 n8:Int}{l9:List (Ty.den TS)}{s10:ByteArray}{n11 n12:Int}{b13:Bool}{n14:Int}{b15:Bool}{l16:List (Ty.den TS)}{l17:List (Ty.den TOp)}{n18:Int}{s19:ByteArray}(h0:((↑(List.length l9):Int)<IntKind.wrap .i64 ((↑(List.length l4):Int)-(2:Int))))(h1:(h3d [.n (IntKind.wrap .i64 ((2:Int)+Int.tmod (IntKind.wrap .i64 (IntKind.wrap .i64 (n7+(↑(List.length l9):Int))-(1:Int))) (IntKind.wrap .i64 ((↑(List.length l4):Int)-(2:Int))))),.n n0,.b b1,.n n2,.b b3,.l TS l4,.l TOp l5])=(some (0,[.s s10,.n n11,.n n12,.b b13,.n n14,.b b15,.l TS l16,.l TOp l17])))(h2:(i3l [.s s10])=(some (0,[.n n18,.s s19])))(h3:(¬n18=IntKind.wrap .i64 (n7+(↑(List.length l9):Int)))):(i3g [.k 0,.n n0,.b b1,.n n2,.b b3,.l TS l4,.l TOp l5,.n n6,.n n7,.n n8,.l TS l9]).sel=some (Step.stop 0 [.n n0,.b b1,.n n2,.b b3,.l TS l4,.l TOp l5,.n n6,.n n7,.n n8,.l TS l9]):=sP [1,1,1,1]<|sT (dt h0)<|sP [1,1,1,1,1,1]<|sTo (c:=(!decide (IntKind.wrap .i64 ((↑(List.length l4):Int)-(2:Int))=(0:Int))))<|sP [1,1]<|sA h1<|sP [1,1]<|sA h2<|sP [1,1,1,1,1]<|sT (bnt h3)<|sP [1]<|sL
theorem w3a {n0:Int}{b1:Bool}{n2:Int}{b3:Bool}{l4:List (Ty.den TS)}{l5:List (Ty.den TOp)}{n6 n7 n8:Int}{l9:List (Ty.den TS)}{s10:ByteArray}{n11 n12:Int}{b13:Bool}{n14:Int}{b15:Bool}{l16:List (Ty.den TS)}{l17:List (Ty.den TOp)}{n18:Int}{s19:ByteArray}(h0:((↑(List.length l9):Int)<IntKind.wrap .i64 ((↑(List.length l4):Int)-(2:Int))))(h1:(h3d [.n (IntKind.wrap .i64 ((2:Int)+Int.tmod (IntKind.wrap .i64 (IntKind.wrap .i64 (n7+(↑(List.length l9):Int))-(1:Int))) (IntKind.wrap .i64 ((↑(List.length l4):Int)-(2:Int))))),.n n0,.b b1,.n n2,.b b3,.l TS l4,.l TOp l5])=(some (0,[.s s10,.n n11,.n n12,.b b13,.n n14,.b b15,.l TS l16,.l TOp l17])))(h2:(i3l [.s s10])=(some (0,[.n n18,.s s19])))(h3:(n18=IntKind.wrap .i64 (n7+(↑(List.length l9):Int))))(h4:((List.length l9+1)*16≤140737488355328)):(i3g [.k 0,.n n0,.b b1,.n n2,.b b3,.l TS l4,.l TOp l5,.n n6,.n n7,.n n8,.l TS l9]).sel=some (Step.go [.k 0,.n n0,.b b1,.n n2,.b b3,.l TS l4,.l TOp l5,.n n6,.n n7,.n n8,.l TS (l9++[s19])]):=sP [1,1,1,1]<|sT (dt h0)<|sP [1,1,1,1,1,1]<|sTo (c:=(!decide (IntKind.wrap .i64 ((↑(List.length l4):Int)-(2:Int))=(0:Int))))<|sP [1,1]<|sA h1<|sP [1,1]<|sA h2<|sP [1,1,1,1,1]<|sF (bnf h3)<|sT (dt h4)<|sP [1]<|sL
theorem u3r {n0:Int}{b1:Bool}{n2:Int}{b3:Bool}{l4:List (Ty.den TS)}{l5:List (Ty.den TOp)}{n6 n7 n8:Int}{l9:List (Ty.den TS)}(h0:(¬(↑(List.length l9):Int)<IntKind.wrap .i64 ((↑(List.length l4):Int)-(2:Int)))):(i3g [.k 0,.n n0,.b b1,.n n2,.b b3,.l TS l4,.l TOp l5,.n n6,.n n7,.n n8,.l TS l9]).sel=some (Step.stop 0 [.n n0,.b b1,.n n2,.b b3,.l TS l4,.l TOp l5,.n n6,.n n7,.n n8,.l TS l9]):=sP [1,1,1,1]<|sF (df h0)<|sP [1]<|sL
theorem n3n {n0:Int}{b1:Bool}{n2:Int}{b3:Bool}{l4:List (Ty.den TS)}{n5 n6 n7:Int}{l8:List (Ty.den TOp)}{l9:List (Ty.den TS)}{s10:ByteArray}{n11 n12:Int}{b13:Bool}{n14:Int}{b15:Bool}{l16:List (Ty.den TS)}{l17:List (Ty.den TOp)}{n18:Int}{s19:ByteArray}(h0:((↑(List.length l9):Int)<IntKind.wrap .i64 ((↑(List.length l4):Int)-(2:Int))))(h1:(h3d [.n (IntKind.wrap .i64 ((2:Int)+Int.tmod (IntKind.wrap .i64 (IntKind.wrap .i64 (n6+(↑(List.length l9):Int))-(1:Int))) (IntKind.wrap .i64 ((↑(List.length l4):Int)-(2:Int))))),.n n0,.b b1,.n n2,.b b3,.l TS l4,.l TOp l8])=(some (0,[.s s10,.n n11,.n n12,.b b13,.n n14,.b b15,.l TS l16,.l TOp l17])))(h2:(i3l [.s s10])=(some (0,[.n n18,.s s19])))(h3:(¬n18=IntKind.wrap .i64 (n6+(↑(List.length l9):Int)))):(i3g [.k 1,.n n0,.b b1,.n n2,.b b3,.l TS l4,.n n5,.n n6,.n n7,.l TOp l8,.l TS l9]).sel=some (Step.stop 1 [.n n0,.b b1,.n n2,.b b3,.l TS l4,.n n5,.n n6,.n n7,.l TOp l8,.l TS l9]):=sP [1,1,1,1]<|sT (dt h0)<|sP [1,1,1,1,1,1]<|sTo (c:=(!decide (IntKind.wrap .i64 ((↑(List.length l4):Int)-(2:Int))=(0:Int))))<|sP [1,1]<|sA h1<|sP [1,1]<|sA h2<|sP [1,1,1,1,1]<|sT (bnt h3)<|sP [1]<|sL
theorem y3l {n0:Int}{b1:Bool}{n2:Int}{b3:Bool}{l4:List (Ty.den TS)}{n5 n6 n7:Int}{l8:List (Ty.den TOp)}{l9:List (Ty.den TS)}{s10:ByteArray}{n11 n12:Int}{b13:Bool}{n14:Int}{b15:Bool}{l16:List (Ty.den TS)}{l17:List (Ty.den TOp)}{n18:Int}{s19:ByteArray}(h0:((↑(List.length l9):Int)<IntKind.wrap .i64 ((↑(List.length l4):Int)-(2:Int))))(h1:(h3d [.n (IntKind.wrap .i64 ((2:Int)+Int.tmod (IntKind.wrap .i64 (IntKind.wrap .i64 (n6+(↑(List.length l9):Int))-(1:Int))) (IntKind.wrap .i64 ((↑(List.length l4):Int)-(2:Int))))),.n n0,.b b1,.n n2,.b b3,.l TS l4,.l TOp l8])=(some (0,[.s s10,.n n11,.n n12,.b b13,.n n14,.b b15,.l TS l16,.l TOp l17])))(h2:(i3l [.s s10])=(some (0,[.n n18,.s s19])))(h3:(n18=IntKind.wrap .i64 (n6+(↑(List.length l9):Int))))(h4:((List.length l9+1)*16≤140737488355328)):(i3g [.k 1,.n n0,.b b1,.n n2,.b b3,.l TS l4,.n n5,.n n6,.n n7,.l TOp l8,.l TS l9]).sel=some (Step.go [.k 1,.n n0,.b b1,.n n2,.b b3,.l TS l4,.n n5,.n n6,.n n7,.l TOp l8,.l TS (l9++[s19])]):=sP [1,1,1,1]<|sT (dt h0)<|sP [1,1,1,1,1,1]<|sTo (c:=(!decide (IntKind.wrap .i64 ((↑(List.length l4):Int)-(2:Int))=(0:Int))))<|sP [1,1]<|sA h1<|sP [1,1]<|sA h2<|sP [1,1,1,1,1]<|sF (bnf h3)<|sT (dt h4)<|sP [1]<|sL
theorem x3y {n0:Int}{b1:Bool}{n2:Int}{b3:Bool}{l4:List (Ty.den TS)}{n5 n6 n7:Int}{l8:List (Ty.den TOp)}{l9:List (Ty.den TS)}(h0:(¬(↑(List.length l9):Int)<IntKind.wrap .i64 ((↑(List.length l4):Int)-(2:Int)))):(i3g [.k 1,.n n0,.b b1,.n n2,.b b3,.l TS l4,.n n5,.n n6,.n n7,.l TOp l8,.l TS l9]).sel=some (Step.stop 1 [.n n0,.b b1,.n n2,.b b3,.l TS l4,.n n5,.n n6,.n n7,.l TOp l8,.l TS l9]):=sP [1,1,1,1]<|sF (df h0)<|sP [1]<|sL
def p4q:LSh:={K:=3,log:=[],ins:=[(sh 159 [(0,.ptr 0 0),(12,.ptr 3 0),(18,.int .i64 0)],[dkB 1 2 1,.arr TS 5,.arr TOp 6,mlB 7 0 (.own 4),.arr TS 10]),(sh 159 [(0,.ptr 0 0),(12,.ptr 3 0),(18,.int .i64 0)],[dkB 1 4 1,.arr TS 5,.gone,mlB 6 0 (.own 5),.arr TOp 9,.arr TS 10])],nils:=[],outs:=[(.exit 2,sh 159 [(0,.ptr 0 0),(12,.ptr 3 0)],[dkB 1 2 0,.arr TS 4,.arr TOp 5,mlB 6 0 (.own 4),.arr TS 9]),(.exit 2,sh 159 [(0,.ptr 0 0),(12,.ptr 3 0)],[dkB 1 4 0,.arr TS 4,.gone,mlB 5 0 (.own 5),.arr TOp 8,.arr TS 9]),(.ret,sh 159 [(2,.nilptr),(3,.int .i64 0)],[dkB 1 2 1,.arr TS 5,.arr TOp 6]),(.ret,sh 159 [(2,.nilptr),(3,.int .i64 0)],[dkB 1 3 1,.arr TS 5,.gone,.arr TOp 6])],cv:=[]}
def h3w:List Dat→Tree Step:=evL u4k 11 29 ls0 p4q
theorem q3b: ∃op,IsL h3w 11 29 p4q op:=bxL r3g (LsOk.none _ _ _)
def i3o:OpA:=opL q3b
theorem o3s (env:List Dat):i3o env=a0b h3w FU env:=h3y q3b env
abbrev v4c:MBox:=boxL q3b
theorem v3z {n0 n1:Int}{b2:Bool}{n3:Int}{b4:Bool}{l5:List (Ty.den TS)}{l6:List (Ty.den TOp)}{n7 n8 n9:Int}{l10:List (Ty.den TS)}{s11:ByteArray}{n12 n13:Int}{b14:Bool}{n15:Int}{b16:Bool}{l17:List (Ty.den TS)}{l18:List (Ty.den TOp)}{n19:Int}{s20:ByteArray}(g0:2≤n0)(h0:(n0<(↑(List.length l5):Int)))(h1:(h3d [.n n0,.n n1,.b b2,.n n3,.b b4,.l TS l5,.l TOp l6])=(some (0,[.s s11,.n n12,.n n13,.b b14,.n n15,.b b16,.l TS l17,.l TOp l18])))(h2:(i3l [.s s11])=(some (0,[.n n19,.s s20])))(h3:(n19>IntKind.wrap .i64 (n8+(↑(List.length l10):Int)))):(h3w [.k 0,.n n0,.n n1,.b b2,.n n3,.b b4,.l TS l5,.l TOp l6,.n n7,.n n8,.n n9,.l TS l10]).sel=some (Step.stop 2 [.n (151:Int),.n n1,.b b2,.n n3,.b b4,.l TS l5,.l TOp l6]):=sP [1]<|sT (dt h0)<|sP [1]<|sA h1<|sP [1,1]<|sA h2<|sP [1,1,1,1,1]<|sT (dt h3)<|sP [1]<|sL
theorem u3w {n0 n1:Int}{b2:Bool}{n3:Int}{b4:Bool}{l5:List (Ty.den TS)}{l6:List (Ty.den TOp)}{n7 n8 n9:Int}{l10:List (Ty.den TS)}{s11:ByteArray}{n12 n13:Int}{b14:Bool}{n15:Int}{b16:Bool}{l17:List (Ty.den TS)}{l18:List (Ty.den TOp)}{n19:Int}{s20:ByteArray}(g0:2≤n0)(h0:(n0<(↑(List.length l5):Int)))(h1:(h3d [.n n0,.n n1,.b b2,.n n3,.b b4,.l TS l5,.l TOp l6])=(some (0,[.s s11,.n n12,.n n13,.b b14,.n n15,.b b16,.l TS l17,.l TOp l18])))(h2:(i3l [.s s11])=(some (0,[.n n19,.s s20])))(h3:(¬n19>IntKind.wrap .i64 (n8+(↑(List.length l10):Int)))):(h3w [.k 0,.n n0,.n n1,.b b2,.n n3,.b b4,.l TS l5,.l TOp l6,.n n7,.n n8,.n n9,.l TS l10]).sel=some (Step.go [.k 0,.n (IntKind.wrap .i64 (n0+(1:Int))),.n n1,.b b2,.n n3,.b b4,.l TS l5,.l TOp l6,.n n7,.n n8,.n n9,.l TS l10]):=sP [1]<|sT (dt h0)<|sP [1]<|sA h1<|sP [1,1]<|sA h2<|sP [1,1,1,1,1]<|sF (df h3)<|sP [1]<|sL
theorem w3j {n0 n1:Int}{b2:Bool}{n3:Int}{b4:Bool}{l5:List (Ty.den TS)}{l6:List (Ty.den TOp)}{n7 n8 n9:Int}{l10:List (Ty.den TS)}(g0:2≤n0)(h0:(¬n0<(↑(List.length l5):Int))):(h3w [.k 0,.n n0,.n n1,.b b2,.n n3,.b b4,.l TS l5,.l TOp l6,.n n7,.n n8,.n n9,.l TS l10]).sel=some (Step.stop 0 [.n n1,.b b2,.n n3,.b b4,.l TS l5,.l TOp l6,.n n7,.n n8,.n n9,.l TS l10]):=sP [1]<|sF (df h0)<|sP [1]<|sL
theorem x3d {n0 n1:Int}{b2:Bool}{n3:Int}{b4:Bool}{l5:List (Ty.den TS)}{n6 n7 n8:Int}{l9:List (Ty.den TOp)}{l10:List (Ty.den TS)}{s11:ByteArray}{n12 n13:Int}{b14:Bool}{n15:Int}{b16:Bool}{l17:List (Ty.den TS)}{l18:List (Ty.den TOp)}{n19:Int}{s20:ByteArray}(g0:2≤n0)(h0:(n0<(↑(List.length l5):Int)))(h1:(h3d [.n n0,.n n1,.b b2,.n n3,.b b4,.l TS l5,.l TOp l9])=(some (0,[.s s11,.n n12,.n n13,.b b14,.n n15,.b b16,.l TS l17,.l TOp l18])))(h2:(i3l [.s s11])=(some (0,[.n n19,.s s20])))(h3:(n19>IntKind.wrap .i64 (n7+(↑(List.length l10):Int)))):(h3w [.k 1,.n n0,.n n1,.b b2,.n n3,.b b4,.l TS l5,.n n6,.n n7,.n n8,.l TOp l9,.l TS l10]).sel=some (Step.stop 3 [.n (151:Int),.n n1,.b b2,.n n3,.b b4,.l TS l5,.l TOp l9]):=sP [1]<|sT (dt h0)<|sP [1]<|sA h1<|sP [1,1]<|sA h2<|sP [1,1,1,1,1]<|sT (dt h3)<|sP [1]<|sL
theorem u3q {n0 n1:Int}{b2:Bool}{n3:Int}{b4:Bool}{l5:List (Ty.den TS)}{n6 n7 n8:Int}{l9:List (Ty.den TOp)}{l10:List (Ty.den TS)}{s11:ByteArray}{n12 n13:Int}{b14:Bool}{n15:Int}{b16:Bool}{l17:List (Ty.den TS)}{l18:List (Ty.den TOp)}{n19:Int}{s20:ByteArray}(g0:2≤n0)(h0:(n0<(↑(List.length l5):Int)))(h1:(h3d [.n n0,.n n1,.b b2,.n n3,.b b4,.l TS l5,.l TOp l9])=(some (0,[.s s11,.n n12,.n n13,.b b14,.n n15,.b b16,.l TS l17,.l TOp l18])))(h2:(i3l [.s s11])=(some (0,[.n n19,.s s20])))(h3:(¬n19>IntKind.wrap .i64 (n7+(↑(List.length l10):Int)))):(h3w [.k 1,.n n0,.n n1,.b b2,.n n3,.b b4,.l TS l5,.n n6,.n n7,.n n8,.l TOp l9,.l TS l10]).sel=some (Step.go [.k 1,.n (IntKind.wrap .i64 (n0+(1:Int))),.n n1,.b b2,.n n3,.b b4,.l TS l5,.n n6,.n n7,.n n8,.l TOp l9,.l TS l10]):=sP [1]<|sT (dt h0)<|sP [1]<|sA h1<|sP [1,1]<|sA h2<|sP [1,1,1,1,1]<|sF (df h3)<|sP [1]<|sL
theorem w3i {n0 n1:Int}{b2:Bool}{n3:Int}{b4:Bool}{l5:List (Ty.den TS)}{n6 n7 n8:Int}{l9:List (Ty.den TOp)}{l10:List (Ty.den TS)}(g0:2≤n0)(h0:(¬n0<(↑(List.length l5):Int))):(h3w [.k 1,.n n0,.n n1,.b b2,.n n3,.b b4,.l TS l5,.n n6,.n n7,.n n8,.l TOp l9,.l TS l10]).sel=some (Step.stop 1 [.n n1,.b b2,.n n3,.b b4,.l TS l5,.n n6,.n n7,.n n8,.l TOp l9,.l TS l10]):=sP [1]<|sF (df h0)<|sP [1]<|sL
def S_mo:BSh:={args:=[.ptr 0 0],blks:=[dkB 1 2 0,.arr TS 4,.arr TOp 5],log:=[0,1,2],outs:=[(.tup [.nilptr,.int .i64 0],[dkB 1 2 1,.arr TS 5,.arr TOp 6]),(.tup [.nilptr,.int .i64 0],[dkB 1 3 1,.arr TS 5,.gone,.arr TOp 6]),(.tup [.ptr 3 0,.int .i64 0],[dkB 1 2 1,.arr TS 5,.arr TOp 6,mlB 7 0 (.own 4),.arr TS 10]),(.tup [.ptr 3 0,.int .i64 0],[dkB 1 4 1,.arr TS 5,.gone,mlB 6 0 (.own 5),.arr TOp 9,.arr TS 10])]}
def ev_mo:List Dat→Tree (Nat×List Dat):=evFV [(some 0,1,.own TOp)] u4k 11 (lsM [(23,v4k),(29,v4c)] 3) S_mo
theorem e_mo: ∃op,IsF ev_mo 11 S_mo op:=bxFV r3g (lsE (lsC (h3n q3k) (atF) (lsC (h3n q3b) (atF) lsZ)))
def h3e:OpA:=opF e_mo
theorem q4i {n0:Int}{b1:Bool}{n2:Int}{b3:Bool}{l4:List (Ty.den TS)}{l5:List (Ty.den TOp)}(h0:((↑(List.length l4):Int)<(3:Int))):h3e [.n n0,.b b1,.n n2,.b b3,.l TS l4,.l TOp l5]=some ((0,[.n (2:Int),.n n0,.b b1,.n n2,.b b3,.l TS l4,.l TOp l5])):=t0c e_mo (sT (dt h0)<|sP [1]<|sL)
theorem s4j {n0:Int}{b1:Bool}{n2:Int}{b3:Bool}{l4:List (Ty.den TS)}{l5:List (Ty.den TOp)}(h0:(¬(↑(List.length l4):Int)<(3:Int)))(h1:(b3=true)):h3e [.n n0,.b b1,.n n2,.b b3,.l TS l4,.l TOp l5]=some ((0,[.n (140:Int),.n n0,.b b1,.n n2,.b b3,.l TS l4,.l TOp l5])):=t0c e_mo (sF (df h0)<|sT h1<|sP [1]<|sL)
theorem n4b {n0:Int}{b1:Bool}{n2:Int}{b3:Bool}{l4:List (Ty.den TS)}{l5:List (Ty.den TOp)}{s6:ByteArray}{n7 n8:Int}{b9:Bool}{n10:Int}{b11:Bool}{l12:List (Ty.den TS)}{l13:List (Ty.den TOp)}{s14:ByteArray}{n15 n16:Int}{b17:Bool}{n18:Int}{b19:Bool}{l20:List (Ty.den TS)}{l21:List (Ty.den TOp)}{n22 n23 n24 n25 n26:Int}{b27:Bool}{n28:Int}{b29:Bool}{l30:List (Ty.den TS)}{l31:List (Ty.den TOp)}{n32 n33 n34:Int}{l35:List (Ty.den TS)}{n36:Int}{b37:Bool}{n38:Int}{b39:Bool}{l40:List (Ty.den TS)}{l41:List (Ty.den TOp)}{n42 n43 n44:Int}{l45:List (Ty.den TS)}(h0:(¬(↑(List.length l4):Int)<(3:Int)))(h1:(b3=false))(h2:(h3d [.n (0:Int),.n n0,.b b1,.n n2,.b b3,.l TS l4,.l TOp l5])=(some (0,[.s s6,.n n7,.n n8,.b b9,.n n10,.b b11,.l TS l12,.l TOp l13])))(h3:(h3d [.n (1:Int),.n n0,.b b1,.n n2,.b b3,.l TS l4,.l TOp l5])=(some (0,[.s s14,.n n15,.n n16,.b b17,.n n18,.b b19,.l TS l20,.l TOp l21])))(h4:(h3l [.s s6])=(some (0,[.n n22,.n n23])))(h5:(h3l [.s s14])=(some (0,[.n n24,.n n25])))(h6:(n24>n22))(h7:(¬n24=(0:Int)))(h8:(i3p [.k 0,.n n0,.b b1,.n n2,.b b3,.l TS l4,.l TOp l5,.n n24,.n n25,.n (0:Int),.l TS []])=(some (0,[.n n26,.b b27,.n n28,.b b29,.l TS l30,.l TOp l31,.n n32,.n n33,.n n34,.l TS l35])))(h9:(i3o [.k 0,.n (2:Int),.n n26,.b b27,.n n28,.b b29,.l TS l30,.l TOp l31,.n n32,.n n33,.n n34,.l TS l35])=(some (0,[.n n36,.b b37,.n n38,.b b39,.l TS l40,.l TOp l41,.n n42,.n n43,.n n44,.l TS l45]))):h3e [.n n0,.b b1,.n n2,.b b3,.l TS l4,.l TOp l5]=some ((2,[.n (0:Int),.n n36,.b b37,.n n38,.b b39,.l TS l40,.l TOp l41,.n n42,.n n43,.n n44,.l TS l45])):=t0c e_mo (sF (df h0)<|sF h1<|sP [1]<|sA h2<|sP [1,1,1]<|sA h3<|sP [1,1]<|sA h4<|sP [1,1]<|sA h5<|sP [1,1]<|sT (dt h6)<|sF (bf h7)<|sA h8<|sP [1]<|sA h9<|sP [1,1]<|sL)
theorem j4n {n0:Int}{b1:Bool}{n2:Int}{b3:Bool}{l4:List (Ty.den TS)}{l5:List (Ty.den TOp)}{s6:ByteArray}{n7 n8:Int}{b9:Bool}{n10:Int}{b11:Bool}{l12:List (Ty.den TS)}{l13:List (Ty.den TOp)}{s14:ByteArray}{n15 n16:Int}{b17:Bool}{n18:Int}{b19:Bool}{l20:List (Ty.den TS)}{l21:List (Ty.den TOp)}{n22 n23 n24 n25 n26:Int}{b27:Bool}{n28:Int}{b29:Bool}{l30:List (Ty.den TS)}{l31:List (Ty.den TOp)}{n32 n33 n34:Int}{l35:List (Ty.den TS)}{n36 n37:Int}{b38:Bool}{n39:Int}{b40:Bool}{l41:List (Ty.den TS)}{l42:List (Ty.den TOp)}(h0:(¬(↑(List.length l4):Int)<(3:Int)))(h1:(b3=false))(h2:(h3d [.n (0:Int),.n n0,.b b1,.n n2,.b b3,.l TS l4,.l TOp l5])=(some (0,[.s s6,.n n7,.n n8,.b b9,.n n10,.b b11,.l TS l12,.l TOp l13])))(h3:(h3d [.n (1:Int),.n n0,.b b1,.n n2,.b b3,.l TS l4,.l TOp l5])=(some (0,[.s s14,.n n15,.n n16,.b b17,.n n18,.b b19,.l TS l20,.l TOp l21])))(h4:(h3l [.s s6])=(some (0,[.n n22,.n n23])))(h5:(h3l [.s s14])=(some (0,[.n n24,.n n25])))(h6:(n24>n22))(h7:(¬n24=(0:Int)))(h8:(i3p [.k 0,.n n0,.b b1,.n n2,.b b3,.l TS l4,.l TOp l5,.n n24,.n n25,.n (0:Int),.l TS []])=(some (0,[.n n26,.b b27,.n n28,.b b29,.l TS l30,.l TOp l31,.n n32,.n n33,.n n34,.l TS l35])))(h9:(i3o [.k 0,.n (2:Int),.n n26,.b b27,.n n28,.b b29,.l TS l30,.l TOp l31,.n n32,.n n33,.n n34,.l TS l35])=(some (2,[.n n36,.n n37,.b b38,.n n39,.b b40,.l TS l41,.l TOp l42]))):h3e [.n n0,.b b1,.n n2,.b b3,.l TS l4,.l TOp l5]=some ((0,[.n n36,.n n37,.b b38,.n n39,.b b40,.l TS l41,.l TOp l42])):=t0c e_mo (sF (df h0)<|sF h1<|sP [1]<|sA h2<|sP [1,1,1]<|sA h3<|sP [1,1]<|sA h4<|sP [1,1]<|sA h5<|sP [1,1]<|sT (dt h6)<|sF (bf h7)<|sA h8<|sP [1]<|sA h9<|sP [0,0,1,1]<|sL)
theorem h4a {n0:Int}{b1:Bool}{n2:Int}{b3:Bool}{l4:List (Ty.den TS)}{l5:List (Ty.den TOp)}{s6:ByteArray}{n7 n8:Int}{b9:Bool}{n10:Int}{b11:Bool}{l12:List (Ty.den TS)}{l13:List (Ty.den TOp)}{s14:ByteArray}{n15 n16:Int}{b17:Bool}{n18:Int}{b19:Bool}{l20:List (Ty.den TS)}{l21:List (Ty.den TOp)}{n22 n23 n24 n25:Int}{b26:Bool}(h0:(¬(↑(List.length l4):Int)<(3:Int)))(h1:(b3=false))(h2:(h3d [.n (0:Int),.n n0,.b b1,.n n2,.b b3,.l TS l4,.l TOp l5])=(some (0,[.s s6,.n n7,.n n8,.b b9,.n n10,.b b11,.l TS l12,.l TOp l13])))(h3:(h3d [.n (1:Int),.n n0,.b b1,.n n2,.b b3,.l TS l4,.l TOp l5])=(some (0,[.s s14,.n n15,.n n16,.b b17,.n n18,.b b19,.l TS l20,.l TOp l21])))(h4:(h3l [.s s6])=(some (0,[.n n22,.n n23])))(h5:(h3l [.s s14])=(some (0,[.n n24,.n n25])))(h6:(¬n24>n22))(h7:(n22=(0:Int)))(h8:(i3t [.s s6])=(some (0,[.b b26])))(h9:(b26=false)):h3e [.n n0,.b b1,.n n2,.b b3,.l TS l4,.l TOp l5]=some ((0,[.n (151:Int),.n n0,.b b1,.n n2,.b b3,.l TS l4,.l TOp l5])):=t0c e_mo (sF (df h0)<|sF h1<|sP [1]<|sA h2<|sP [1,1,1]<|sA h3<|sP [1,1]<|sA h4<|sP [1,1]<|sA h5<|sP [1,1]<|sF (df h6)<|sT (bt h7)<|sA h8<|sP [1,1]<|sT (nf h9)<|sP [1,1,1]<|sL)
theorem k4y {n0:Int}{b1:Bool}{n2:Int}{b3:Bool}{l4:List (Ty.den TS)}{l5:List (Ty.den TOp)}{s6:ByteArray}{n7 n8:Int}{b9:Bool}{n10:Int}{b11:Bool}{l12:List (Ty.den TS)}{l13:List (Ty.den TOp)}{s14:ByteArray}{n15 n16:Int}{b17:Bool}{n18:Int}{b19:Bool}{l20:List (Ty.den TS)}{l21:List (Ty.den TOp)}{n22 n23 n24 n25:Int}{b26 b27:Bool}(h0:(¬(↑(List.length l4):Int)<(3:Int)))(h1:(b3=false))(h2:(h3d [.n (0:Int),.n n0,.b b1,.n n2,.b b3,.l TS l4,.l TOp l5])=(some (0,[.s s6,.n n7,.n n8,.b b9,.n n10,.b b11,.l TS l12,.l TOp l13])))(h3:(h3d [.n (1:Int),.n n0,.b b1,.n n2,.b b3,.l TS l4,.l TOp l5])=(some (0,[.s s14,.n n15,.n n16,.b b17,.n n18,.b b19,.l TS l20,.l TOp l21])))(h4:(h3l [.s s6])=(some (0,[.n n22,.n n23])))(h5:(h3l [.s s14])=(some (0,[.n n24,.n n25])))(h6:(¬n24>n22))(h7:(n22=(0:Int)))(h8:(i3t [.s s6])=(some (0,[.b b26])))(h9:(b26=true))(h10:(i3t [.s s14])=(some (0,[.b b27])))(h11:(b27=false)):h3e [.n n0,.b b1,.n n2,.b b3,.l TS l4,.l TOp l5]=some ((0,[.n (151:Int),.n n0,.b b1,.n n2,.b b3,.l TS l4,.l TOp l5])):=t0c e_mo (sF (df h0)<|sF h1<|sP [1]<|sA h2<|sP [1,1,1]<|sA h3<|sP [1,1]<|sA h4<|sP [1,1]<|sA h5<|sP [1,1]<|sF (df h6)<|sT (bt h7)<|sA h8<|sP [1,1]<|sF (nt h9)<|sA h10<|sP [1,1]<|sT (nf h11)<|sP [1]<|sL)
theorem m4x {n0:Int}{b1:Bool}{n2:Int}{b3:Bool}{l4:List (Ty.den TS)}{l5:List (Ty.den TOp)}{s6:ByteArray}{n7 n8:Int}{b9:Bool}{n10:Int}{b11:Bool}{l12:List (Ty.den TS)}{l13:List (Ty.den TOp)}{s14:ByteArray}{n15 n16:Int}{b17:Bool}{n18:Int}{b19:Bool}{l20:List (Ty.den TS)}{l21:List (Ty.den TOp)}{n22 n23 n24 n25:Int}{b26 b27:Bool}{s28:ByteArray}{n29 n30:Int}{b31:Bool}{n32:Int}{b33:Bool}{l34:List (Ty.den TS)}{l35:List (Ty.den TOp)}{n36 n37:Int}{b38:Bool}{n39:Int}{b40:Bool}{l41:List (Ty.den TS)}{l42:List (Ty.den TOp)}(h0:(¬(↑(List.length l4):Int)<(3:Int)))(h1:(b3=false))(h2:(h3d [.n (0:Int),.n n0,.b b1,.n n2,.b b3,.l TS l4,.l TOp l5])=(some (0,[.s s6,.n n7,.n n8,.b b9,.n n10,.b b11,.l TS l12,.l TOp l13])))(h3:(h3d [.n (1:Int),.n n0,.b b1,.n n2,.b b3,.l TS l4,.l TOp l5])=(some (0,[.s s14,.n n15,.n n16,.b b17,.n n18,.b b19,.l TS l20,.l TOp l21])))(h4:(h3l [.s s6])=(some (0,[.n n22,.n n23])))(h5:(h3l [.s s14])=(some (0,[.n n24,.n n25])))(h6:(¬n24>n22))(h7:(n22=(0:Int)))(h8:(i3t [.s s6])=(some (0,[.b b26])))(h9:(b26=true))(h10:(i3t [.s s14])=(some (0,[.b b27])))(h11:(b27=true))(h12:(i3n [.n (1:Int),.n (1:Int)])=(some (0,[.s s28])))(h13:(h3r [.n (1:Int),.s s28,.n n0,.b b1,.n n2,.b b3,.l TS l4,.l TOp l5])=(some (0,[.n n29,.n n30,.b b31,.n n32,.b b33,.l TS l34,.l TOp l35])))(h14:(n29=(0:Int)))(h15:(k3i [.n n30,.b b31,.n n32,.b b33,.l TS l4,.l TOp l35])=(some (0,[.n n36,.n n37,.b b38,.n n39,.b b40,.l TS l41,.l TOp l42])))(h16:(¬n36=(0:Int))):h3e [.n n0,.b b1,.n n2,.b b3,.l TS l4,.l TOp l5]=some ((0,[.n n36,.n n37,.b b38,.n n39,.b b40,.l TS l41,.l TOp l35])):=t0c e_mo (sF (df h0)<|sF h1<|sP [1]<|sA h2<|sP [1,1,1]<|sA h3<|sP [1,1]<|sA h4<|sP [1,1]<|sA h5<|sP [1,1]<|sF (df h6)<|sT (bt h7)<|sA h8<|sP [1,1]<|sF (nt h9)<|sA h10<|sP [1,1]<|sF (nt h11)<|sA h12<|sP [1,1,1]<|sA h13<|sP [1,1]<|sT (bt h14)<|sP [1]<|sA h15<|sP [1,1]<|sT (bnt h16)<|sP [1]<|sL)
theorem n4r {n0:Int}{b1:Bool}{n2:Int}{b3:Bool}{l4:List (Ty.den TS)}{l5:List (Ty.den TOp)}{s6:ByteArray}{n7 n8:Int}{b9:Bool}{n10:Int}{b11:Bool}{l12:List (Ty.den TS)}{l13:List (Ty.den TOp)}{s14:ByteArray}{n15 n16:Int}{b17:Bool}{n18:Int}{b19:Bool}{l20:List (Ty.den TS)}{l21:List (Ty.den TOp)}{n22 n23 n24 n25:Int}{b26 b27:Bool}{s28:ByteArray}{n29 n30:Int}{b31:Bool}{n32:Int}{b33:Bool}{l34:List (Ty.den TS)}{l35:List (Ty.den TOp)}{n36 n37:Int}{b38:Bool}{n39:Int}{b40:Bool}{l41:List (Ty.den TS)}{l42:List (Ty.den TOp)}{n43:Int}{b44:Bool}{n45:Int}{b46:Bool}{l47:List (Ty.den TS)}{n48 n49 n50:Int}{l51:List (Ty.den TOp)}{l52:List (Ty.den TS)}{n53:Int}{b54:Bool}{n55:Int}{b56:Bool}{l57:List (Ty.den TS)}{n58 n59 n60:Int}{l61:List (Ty.den TOp)}{l62:List (Ty.den TS)}(h0:(¬(↑(List.length l4):Int)<(3:Int)))(h1:(b3=false))(h2:(h3d [.n (0:Int),.n n0,.b b1,.n n2,.b b3,.l TS l4,.l TOp l5])=(some (0,[.s s6,.n n7,.n n8,.b b9,.n n10,.b b11,.l TS l12,.l TOp l13])))(h3:(h3d [.n (1:Int),.n n0,.b b1,.n n2,.b b3,.l TS l4,.l TOp l5])=(some (0,[.s s14,.n n15,.n n16,.b b17,.n n18,.b b19,.l TS l20,.l TOp l21])))(h4:(h3l [.s s6])=(some (0,[.n n22,.n n23])))(h5:(h3l [.s s14])=(some (0,[.n n24,.n n25])))(h6:(¬n24>n22))(h7:(n22=(0:Int)))(h8:(i3t [.s s6])=(some (0,[.b b26])))(h9:(b26=true))(h10:(i3t [.s s14])=(some (0,[.b b27])))(h11:(b27=true))(h12:(i3n [.n (1:Int),.n (1:Int)])=(some (0,[.s s28])))(h13:(h3r [.n (1:Int),.s s28,.n n0,.b b1,.n n2,.b b3,.l TS l4,.l TOp l5])=(some (0,[.n n29,.n n30,.b b31,.n n32,.b b33,.l TS l34,.l TOp l35])))(h14:(n29=(0:Int)))(h15:(k3i [.n n30,.b b31,.n n32,.b b33,.l TS l4,.l TOp l35])=(some (1,[.n n36,.n n37,.b b38,.n n39,.b b40,.l TS l41,.l TOp l42])))(h16:(n36=(0:Int)))(h17:(i3p [.k 1,.n n37,.b b38,.n n39,.b b40,.l TS l41,.n (1:Int),.n (1:Int),.n (0:Int),.l TOp l42,.l TS []])=(some (1,[.n n43,.b b44,.n n45,.b b46,.l TS l47,.n n48,.n n49,.n n50,.l TOp l51,.l TS l52])))(h18:(i3o [.k 1,.n (2:Int),.n n43,.b b44,.n n45,.b b46,.l TS l47,.n n48,.n n49,.n n50,.l TOp l51,.l TS l52])=(some (1,[.n n53,.b b54,.n n55,.b b56,.l TS l57,.n n58,.n n59,.n n60,.l TOp l61,.l TS l62]))):h3e [.n n0,.b b1,.n n2,.b b3,.l TS l4,.l TOp l5]=some ((3,[.n (0:Int),.n n53,.b b54,.n n55,.b b56,.l TS l57,.n n58,.n n59,.n n60,.l TOp l61,.l TS l62])):=t0c e_mo (sF (df h0)<|sF h1<|sP [1]<|sA h2<|sP [1,1,1]<|sA h3<|sP [1,1]<|sA h4<|sP [1,1]<|sA h5<|sP [1,1]<|sF (df h6)<|sT (bt h7)<|sA h8<|sP [1,1]<|sF (nt h9)<|sA h10<|sP [1,1]<|sF (nt h11)<|sA h12<|sP [1,1,1]<|sA h13<|sP [1,1]<|sT (bt h14)<|sP [1]<|sA h15<|sP [0,1,1]<|sF (bnf h16)<|sA h17<|sP [0,1]<|sA h18<|sP [0,1,1]<|sL)
theorem f4m {n0:Int}{b1:Bool}{n2:Int}{b3:Bool}{l4:List (Ty.den TS)}{l5:List (Ty.den TOp)}{s6:ByteArray}{n7 n8:Int}{b9:Bool}{n10:Int}{b11:Bool}{l12:List (Ty.den TS)}{l13:List (Ty.den TOp)}{s14:ByteArray}{n15 n16:Int}{b17:Bool}{n18:Int}{b19:Bool}{l20:List (Ty.den TS)}{l21:List (Ty.den TOp)}{n22 n23 n24 n25:Int}{b26 b27:Bool}{s28:ByteArray}{n29 n30:Int}{b31:Bool}{n32:Int}{b33:Bool}{l34:List (Ty.den TS)}{l35:List (Ty.den TOp)}{n36 n37:Int}{b38:Bool}{n39:Int}{b40:Bool}{l41:List (Ty.den TS)}{l42:List (Ty.den TOp)}{n43:Int}{b44:Bool}{n45:Int}{b46:Bool}{l47:List (Ty.den TS)}{n48 n49 n50:Int}{l51:List (Ty.den TOp)}{l52:List (Ty.den TS)}{n53 n54:Int}{b55:Bool}{n56:Int}{b57:Bool}{l58:List (Ty.den TS)}{l59:List (Ty.den TOp)}(h0:(¬(↑(List.length l4):Int)<(3:Int)))(h1:(b3=false))(h2:(h3d [.n (0:Int),.n n0,.b b1,.n n2,.b b3,.l TS l4,.l TOp l5])=(some (0,[.s s6,.n n7,.n n8,.b b9,.n n10,.b b11,.l TS l12,.l TOp l13])))(h3:(h3d [.n (1:Int),.n n0,.b b1,.n n2,.b b3,.l TS l4,.l TOp l5])=(some (0,[.s s14,.n n15,.n n16,.b b17,.n n18,.b b19,.l TS l20,.l TOp l21])))(h4:(h3l [.s s6])=(some (0,[.n n22,.n n23])))(h5:(h3l [.s s14])=(some (0,[.n n24,.n n25])))(h6:(¬n24>n22))(h7:(n22=(0:Int)))(h8:(i3t [.s s6])=(some (0,[.b b26])))(h9:(b26=true))(h10:(i3t [.s s14])=(some (0,[.b b27])))(h11:(b27=true))(h12:(i3n [.n (1:Int),.n (1:Int)])=(some (0,[.s s28])))(h13:(h3r [.n (1:Int),.s s28,.n n0,.b b1,.n n2,.b b3,.l TS l4,.l TOp l5])=(some (0,[.n n29,.n n30,.b b31,.n n32,.b b33,.l TS l34,.l TOp l35])))(h14:(n29=(0:Int)))(h15:(k3i [.n n30,.b b31,.n n32,.b b33,.l TS l4,.l TOp l35])=(some (1,[.n n36,.n n37,.b b38,.n n39,.b b40,.l TS l41,.l TOp l42])))(h16:(n36=(0:Int)))(h17:(i3p [.k 1,.n n37,.b b38,.n n39,.b b40,.l TS l41,.n (1:Int),.n (1:Int),.n (0:Int),.l TOp l42,.l TS []])=(some (1,[.n n43,.b b44,.n n45,.b b46,.l TS l47,.n n48,.n n49,.n n50,.l TOp l51,.l TS l52])))(h18:(i3o [.k 1,.n (2:Int),.n n43,.b b44,.n n45,.b b46,.l TS l47,.n n48,.n n49,.n n50,.l TOp l51,.l TS l52])=(some (3,[.n n53,.n n54,.b b55,.n n56,.b b57,.l TS l58,.l TOp l59]))):h3e [.n n0,.b b1,.n n2,.b b3,.l TS l4,.l TOp l5]=some ((1,[.n n53,.n n54,.b b55,.n n56,.b b57,.l TS l58,.l TOp l59])):=t0c e_mo (sF (df h0)<|sF h1<|sP [1]<|sA h2<|sP [1,1,1]<|sA h3<|sP [1,1]<|sA h4<|sP [1,1]<|sA h5<|sP [1,1]<|sF (df h6)<|sT (bt h7)<|sA h8<|sP [1,1]<|sF (nt h9)<|sA h10<|sP [1,1]<|sF (nt h11)<|sA h12<|sP [1,1,1]<|sA h13<|sP [1,1]<|sT (bt h14)<|sP [1]<|sA h15<|sP [0,1,1]<|sF (bnf h16)<|sA h17<|sP [0,1]<|sA h18<|sP [0,0,0,1,1]<|sL)
theorem j4y {n0:Int}{b1:Bool}{n2:Int}{b3:Bool}{l4:List (Ty.den TS)}{l5:List (Ty.den TOp)}{s6:ByteArray}{n7 n8:Int}{b9:Bool}{n10:Int}{b11:Bool}{l12:List (Ty.den TS)}{l13:List (Ty.den TOp)}{s14:ByteArray}{n15 n16:Int}{b17:Bool}{n18:Int}{b19:Bool}{l20:List (Ty.den TS)}{l21:List (Ty.den TOp)}{n22 n23 n24 n25:Int}{b26 b27:Bool}{s28:ByteArray}{n29 n30:Int}{b31:Bool}{n32:Int}{b33:Bool}{l34:List (Ty.den TS)}{l35:List (Ty.den TOp)}(h0:(¬(↑(List.length l4):Int)<(3:Int)))(h1:(b3=false))(h2:(h3d [.n (0:Int),.n n0,.b b1,.n n2,.b b3,.l TS l4,.l TOp l5])=(some (0,[.s s6,.n n7,.n n8,.b b9,.n n10,.b b11,.l TS l12,.l TOp l13])))(h3:(h3d [.n (1:Int),.n n0,.b b1,.n n2,.b b3,.l TS l4,.l TOp l5])=(some (0,[.s s14,.n n15,.n n16,.b b17,.n n18,.b b19,.l TS l20,.l TOp l21])))(h4:(h3l [.s s6])=(some (0,[.n n22,.n n23])))(h5:(h3l [.s s14])=(some (0,[.n n24,.n n25])))(h6:(¬n24>n22))(h7:(n22=(0:Int)))(h8:(i3t [.s s6])=(some (0,[.b b26])))(h9:(b26=true))(h10:(i3t [.s s14])=(some (0,[.b b27])))(h11:(b27=true))(h12:(i3n [.n (1:Int),.n (1:Int)])=(some (0,[.s s28])))(h13:(h3r [.n (1:Int),.s s28,.n n0,.b b1,.n n2,.b b3,.l TS l4,.l TOp l5])=(some (0,[.n n29,.n n30,.b b31,.n n32,.b b33,.l TS l34,.l TOp l35])))(h14:(¬n29=(0:Int))):h3e [.n n0,.b b1,.n n2,.b b3,.l TS l4,.l TOp l5]=some ((0,[.n n29,.n n30,.b b31,.n n32,.b b33,.l TS l4,.l TOp l35])):=t0c e_mo (sF (df h0)<|sF h1<|sP [1]<|sA h2<|sP [1,1,1]<|sA h3<|sP [1,1]<|sA h4<|sP [1,1]<|sA h5<|sP [1,1]<|sF (df h6)<|sT (bt h7)<|sA h8<|sP [1,1]<|sF (nt h9)<|sA h10<|sP [1,1]<|sF (nt h11)<|sA h12<|sP [1,1,1]<|sA h13<|sP [1,1]<|sF (bf h14)<|sTs (c:=(n29 !=(0:Int)))<|sP [1]<|sL)
theorem m4f {n0:Int}{b1:Bool}{n2:Int}{b3:Bool}{l4:List (Ty.den TS)}{l5:List (Ty.den TOp)}{s6:ByteArray}{n7 n8:Int}{b9:Bool}{n10:Int}{b11:Bool}{l12:List (Ty.den TS)}{l13:List (Ty.den TOp)}{s14:ByteArray}{n15 n16:Int}{b17:Bool}{n18:Int}{b19:Bool}{l20:List (Ty.den TS)}{l21:List (Ty.den TOp)}{n22 n23 n24 n25 n26:Int}{b27:Bool}{n28:Int}{b29:Bool}{l30:List (Ty.den TS)}{l31:List (Ty.den TOp)}{n32 n33 n34:Int}{l35:List (Ty.den TS)}{n36:Int}{b37:Bool}{n38:Int}{b39:Bool}{l40:List (Ty.den TS)}{l41:List (Ty.den TOp)}{n42 n43 n44:Int}{l45:List (Ty.den TS)}(h0:(¬(↑(List.length l4):Int)<(3:Int)))(h1:(b3=false))(h2:(h3d [.n (0:Int),.n n0,.b b1,.n n2,.b b3,.l TS l4,.l TOp l5])=(some (0,[.s s6,.n n7,.n n8,.b b9,.n n10,.b b11,.l TS l12,.l TOp l13])))(h3:(h3d [.n (1:Int),.n n0,.b b1,.n n2,.b b3,.l TS l4,.l TOp l5])=(some (0,[.s s14,.n n15,.n n16,.b b17,.n n18,.b b19,.l TS l20,.l TOp l21])))(h4:(h3l [.s s6])=(some (0,[.n n22,.n n23])))(h5:(h3l [.s s14])=(some (0,[.n n24,.n n25])))(h6:(¬n24>n22))(h7:(¬n22=(0:Int)))(h8:(i3p [.k 0,.n n0,.b b1,.n n2,.b b3,.l TS l4,.l TOp l5,.n n22,.n n23,.n (0:Int),.l TS []])=(some (0,[.n n26,.b b27,.n n28,.b b29,.l TS l30,.l TOp l31,.n n32,.n n33,.n n34,.l TS l35])))(h9:(i3o [.k 0,.n (2:Int),.n n26,.b b27,.n n28,.b b29,.l TS l30,.l TOp l31,.n n32,.n n33,.n n34,.l TS l35])=(some (0,[.n n36,.b b37,.n n38,.b b39,.l TS l40,.l TOp l41,.n n42,.n n43,.n n44,.l TS l45]))):h3e [.n n0,.b b1,.n n2,.b b3,.l TS l4,.l TOp l5]=some ((2,[.n (0:Int),.n n36,.b b37,.n n38,.b b39,.l TS l40,.l TOp l41,.n n42,.n n43,.n n44,.l TS l45])):=t0c e_mo (sF (df h0)<|sF h1<|sP [1]<|sA h2<|sP [1,1,1]<|sA h3<|sP [1,1]<|sA h4<|sP [1,1]<|sA h5<|sP [1,1]<|sF (df h6)<|sF (bf h7)<|sA h8<|sP [1]<|sA h9<|sP [1,1]<|sL)
theorem f4x {n0:Int}{b1:Bool}{n2:Int}{b3:Bool}{l4:List (Ty.den TS)}{l5:List (Ty.den TOp)}{s6:ByteArray}{n7 n8:Int}{b9:Bool}{n10:Int}{b11:Bool}{l12:List (Ty.den TS)}{l13:List (Ty.den TOp)}{s14:ByteArray}{n15 n16:Int}{b17:Bool}{n18:Int}{b19:Bool}{l20:List (Ty.den TS)}{l21:List (Ty.den TOp)}{n22 n23 n24 n25 n26:Int}{b27:Bool}{n28:Int}{b29:Bool}{l30:List (Ty.den TS)}{l31:List (Ty.den TOp)}{n32 n33 n34:Int}{l35:List (Ty.den TS)}{n36 n37:Int}{b38:Bool}{n39:Int}{b40:Bool}{l41:List (Ty.den TS)}{l42:List (Ty.den TOp)}(h0:(¬(↑(List.length l4):Int)<(3:Int)))(h1:(b3=false))(h2:(h3d [.n (0:Int),.n n0,.b b1,.n n2,.b b3,.l TS l4,.l TOp l5])=(some (0,[.s s6,.n n7,.n n8,.b b9,.n n10,.b b11,.l TS l12,.l TOp l13])))(h3:(h3d [.n (1:Int),.n n0,.b b1,.n n2,.b b3,.l TS l4,.l TOp l5])=(some (0,[.s s14,.n n15,.n n16,.b b17,.n n18,.b b19,.l TS l20,.l TOp l21])))(h4:(h3l [.s s6])=(some (0,[.n n22,.n n23])))(h5:(h3l [.s s14])=(some (0,[.n n24,.n n25])))(h6:(¬n24>n22))(h7:(¬n22=(0:Int)))(h8:(i3p [.k 0,.n n0,.b b1,.n n2,.b b3,.l TS l4,.l TOp l5,.n n22,.n n23,.n (0:Int),.l TS []])=(some (0,[.n n26,.b b27,.n n28,.b b29,.l TS l30,.l TOp l31,.n n32,.n n33,.n n34,.l TS l35])))(h9:(i3o [.k 0,.n (2:Int),.n n26,.b b27,.n n28,.b b29,.l TS l30,.l TOp l31,.n n32,.n n33,.n n34,.l TS l35])=(some (2,[.n n36,.n n37,.b b38,.n n39,.b b40,.l TS l41,.l TOp l42]))):h3e [.n n0,.b b1,.n n2,.b b3,.l TS l4,.l TOp l5]=some ((0,[.n n36,.n n37,.b b38,.n n39,.b b40,.l TS l41,.l TOp l42])):=t0c e_mo (sF (df h0)<|sF h1<|sP [1]<|sA h2<|sP [1,1,1]<|sA h3<|sP [1,1]<|sA h4<|sP [1,1]<|sA h5<|sP [1,1]<|sF (df h6)<|sF (bf h7)<|sA h8<|sP [1]<|sA h9<|sP [0,0,1,1]<|sL)
def R_l6_5:LSh:={K:=0,log:=[],ins:=[(sh 51 [(0,.imm TCl 0),(3,.int .i64 1),(4,.int .i64 2)],[])],nils:=[],outs:=[(.exit 0,sh 51 [(3,.int .i64 0)],[]),(.ret,sh 51 [(2,.bool 0)],[])],cv:=[]}
def j3h:List Dat→Tree Step:=evL m3b 6 5 ls0 R_l6_5
theorem y3w: ∃op,IsL j3h 6 5 R_l6_5 op:=bxL i3h (LsOk.none _ _ _)
def u3u:OpA:=opL y3w
theorem p3p (env:List Dat):u3u env=a0b j3h FU env:=h3y y3w env
abbrev Bx_l6_5:MBox:=boxL y3w
theorem b4i {l0:List (Ty.den TCl)}{n1 n2:Int}(g0:0≤n2)(h0:(n2<(↑(List.length l0):Int)))(h1:((↑(List.length (Prod.fst (Prod.snd (List.getD l0 (Int.toNat n2) (Ty.dflt TCl))))):Int)>IntKind.wrap .i64 ((6000:Int)-n1))):(j3h [.k 0,.l TCl l0,.n n1,.n n2]).sel=some (Step.stop 1 [.b true]):=sP [1]<|sT (dt h0)<|sTo (c:=(inR n2 (List.length l0)))<|sT (dt h1)<|sP [1,1,1]<|sL
theorem f4b {l0:List (Ty.den TCl)}{n1 n2:Int}(g0:0≤n2)(h0:(n2<(↑(List.length l0):Int)))(h1:(¬(↑(List.length (Prod.fst (Prod.snd (List.getD l0 (Int.toNat n2) (Ty.dflt TCl))))):Int)>IntKind.wrap .i64 ((6000:Int)-n1)))(h2:((↑(List.length (Prod.snd (Prod.snd (Prod.snd (List.getD l0 (Int.toNat n2) (Ty.dflt TCl)))))):Int)>IntKind.wrap .i64 ((6000:Int)-n1))):(j3h [.k 0,.l TCl l0,.n n1,.n n2]).sel=some (Step.stop 1 [.b true]):=sP [1]<|sT (dt h0)<|sTo (c:=(inR n2 (List.length l0)))<|sF (df h1)<|sTo (c:=(inR n2 (List.length l0)))<|sT (dt h2)<|sP [1]<|sL
theorem b4n {l0:List (Ty.den TCl)}{n1 n2:Int}(g0:0≤n2)(h0:(n2<(↑(List.length l0):Int)))(h1:(¬(↑(List.length (Prod.fst (Prod.snd (List.getD l0 (Int.toNat n2) (Ty.dflt TCl))))):Int)>IntKind.wrap .i64 ((6000:Int)-n1)))(h2:(¬(↑(List.length (Prod.snd (Prod.snd (Prod.snd (List.getD l0 (Int.toNat n2) (Ty.dflt TCl)))))):Int)>IntKind.wrap .i64 ((6000:Int)-n1))):(j3h [.k 0,.l TCl l0,.n n1,.n n2]).sel=some (Step.go [.k 0,.l TCl l0,.n (IntKind.wrap .i64 (IntKind.wrap .i64 (n1+(↑(List.length (Prod.fst (Prod.snd (List.getD l0 (Int.toNat n2) (Ty.dflt TCl))))):Int))+(↑(List.length (Prod.snd (Prod.snd (Prod.snd (List.getD l0 (Int.toNat n2) (Ty.dflt TCl)))))):Int))),.n (IntKind.wrap .i64 (n2+(1:Int)))]):=sP [1]<|sT (dt h0)<|sTo (c:=(inR n2 (List.length l0)))<|sF (df h1)<|sTo (c:=(inR n2 (List.length l0)))<|sF (df h2)<|sTo (c:=(inR n2 (List.length l0)))<|sTo (c:=(inR n2 (List.length l0)))<|sP [1,1]<|sL
theorem e4q {l0:List (Ty.den TCl)}{n1 n2:Int}(g0:0≤n2)(h0:(¬n2<(↑(List.length l0):Int))):(j3h [.k 0,.l TCl l0,.n n1,.n n2]).sel=some (Step.stop 0 [.n n1]):=sP [1]<|sF (df h0)<|sP [1]<|sL
def S_l6:BSh:={args:=[.imm TCl 0],blks:=[],log:=[],outs:=[(.bool 0,[])]}
def ev_l6:List Dat→Tree (Nat×List Dat):=evF m3b 6 (lsM [(5,Bx_l6_5)] 0) S_l6
theorem e_l6: ∃op,IsF ev_l6 6 S_l6 op:=bxF i3h (lsE (lsC (h3n y3w) (atF) lsZ))
def l3i:OpA:=opF e_l6
theorem u4v {l0:List (Ty.den TCl)}(h0:((↑(List.length l0):Int)>(60:Int))):l3i [.l TCl l0]=some ((0,[.b true])):=t0c e_l6 (sT (dt h0)<|sP [1]<|sL)
theorem r4d {l0:List (Ty.den TCl)}{n1:Int}(h0:(¬(↑(List.length l0):Int)>(60:Int)))(h1:(u3u [.k 0,.l TCl l0,.n (0:Int),.n (0:Int)])=(some (0,[.n n1]))):l3i [.l TCl l0]=some ((0,[.b (decide (n1>(6000:Int)))])):=t0c e_l6 (sF (df h0)<|sA h1<|sP [1,1]<|sL)
theorem r4a {l0:List (Ty.den TCl)}{b1:Bool}(h0:(¬(↑(List.length l0):Int)>(60:Int)))(h1:(u3u [.k 0,.l TCl l0,.n (0:Int),.n (0:Int)])=(some (1,[.b b1]))):l3i [.l TCl l0]=some ((0,[.b b1])):=t0c e_l6 (sF (df h0)<|sA h1<|sP [0,1,1]<|sL)
def cs_l6:FuncId→Option a0q:=a0s 6 (S_l6.k l3i) m3b
theorem y3s:CsOk Try.prog cs_l6:=csL1 i3h e_l6
def S_nr:BSh:={args:=[.ptr 0 0,.int .i64 0],blks:=[mlB 1 1 (.own 2),dkB 3 4 4,.arr TS 8,.arr TS 9,.arr TOp 10],log:=[],outs:=[(.int .i64 0,[mlB 1 1 (.own 2),dkB 3 4 4,.arr TS 8,.arr TS 9,.arr TOp 10])]}
def ev_nr:List Dat→Tree (Nat×List Dat):=evF cs_l6 59 ls0 S_nr
theorem e_nr: ∃op,IsF ev_nr 59 S_nr op:=bxF y3s (LsOk.none _ _ _)
def s3r:OpA:=opF e_nr
theorem s4l {n0 n1 n2 n3 n4:Int}{b5:Bool}{n6:Int}{b7:Bool}{l8 l9:List (Ty.den TS)}{l10:List (Ty.den TOp)}(h0:(n0≥(-50:Int)))(h1:(n0≤(50:Int))):s3r [.n n0,.n n1,.n n2,.n n3,.n n4,.b b5,.n n6,.b b7,.l TS l8,.l TS l9,.l TOp l10]=some ((0,[.n (IntKind.wrap .i64 (n2+n0)),.n n1,.n n2,.n n3,.n n4,.b b5,.n n6,.b b7,.l TS l8,.l TS l9,.l TOp l10])):=t0c e_nr (sT (dt h0)<|sT (dt h1)<|sP [1]<|sL)
theorem s4z {n0 n1 n2 n3 n4:Int}{b5:Bool}{n6:Int}{b7:Bool}{l8 l9:List (Ty.den TS)}{l10:List (Ty.den TOp)}(h0:(n0≥(-50:Int)))(h1:(¬n0≤(50:Int))):s3r [.n n0,.n n1,.n n2,.n n3,.n n4,.b b5,.n n6,.b b7,.l TS l8,.l TS l9,.l TOp l10]=some ((0,[.n n0,.n n1,.n n2,.n n3,.n n4,.b b5,.n n6,.b b7,.l TS l8,.l TS l9,.l TOp l10])):=t0c e_nr (sT (dt h0)<|sF (df h1)<|sP [1]<|sL)
theorem t4g {n0 n1 n2 n3 n4:Int}{b5:Bool}{n6:Int}{b7:Bool}{l8 l9:List (Ty.den TS)}{l10:List (Ty.den TOp)}(h0:(¬n0≥(-50:Int))):s3r [.n n0,.n n1,.n n2,.n n3,.n n4,.b b5,.n n6,.b b7,.l TS l8,.l TS l9,.l TOp l10]=some ((0,[.n n0,.n n1,.n n2,.n n3,.n n4,.b b5,.n n6,.b b7,.l TS l8,.l TS l9,.l TOp l10])):=t0c e_nr (sF (df h0)<|sP [0,0,1]<|sL)
def t4a:FuncId→Option a0q:=e1c 59 [S_nr.k s3r] cs_l6
theorem r3t:CsOk Try.prog t4a:=csA1 y3s e_nr
def j4k:LSh:={K:=6,log:=[],ins:=[(sh 66 [(0,.ptr 0 0),(1,.ptr 1 0),(5,.int .i64 0)],[dkB 2 3 1,dkB 4 5 5,.arr TBk 9,.arr TWr 10,.arr TS 11,.arr TOp 12])],nils:=[],outs:=[(.exit 0,sh 66 [],[dkB 2 3 0,dkB 4 5 4,.arr TBk 8,.arr TWr 9,.arr TS 10,.arr TOp 11]),(.ret,sh 66 [(4,.bool 0)],[dkB 2 3 1,dkB 4 5 5,.arr TBk 9,.arr TWr 10,.arr TS 11,.arr TOp 12])],cv:=[]}
def k3m:List Dat→Tree Step:=evL t4a 12 4 ls0 j4k
theorem q3z: ∃op,IsL k3m 12 4 j4k op:=bxL r3t (LsOk.none _ _ _)
def y3q:OpA:=opL q3z
theorem x3g (env:List Dat):y3q env=a0b k3m FU env:=h3y q3z env
abbrev p4z:MBox:=boxL q3z
theorem u3x {n0 n1:Int}{b2:Bool}{n3:Int}{b4:Bool}{n5:Int}{b6:Bool}{n7:Int}{b8:Bool}{l9:List (Ty.den TBk)}{l10:List (Ty.den TWr)}{l11:List (Ty.den TS)}{l12:List (Ty.den TOp)}{n13 n14:Int}{b15:Bool}{n16:Int}{b17:Bool}{l18:List (Ty.den TBk)}{l19:List (Ty.den TWr)}{s20:ByteArray}{n21 n22:Int}{b23:Bool}{n24:Int}{b25:Bool}{l26:List (Ty.den TS)}{l27:List (Ty.den TOp)}(g0:0≤n0)(h0:(n0<(↑(List.length l11):Int)))(h1:(i3b [.n n0,.n n1,.b b2,.n n3,.b b4,.l TBk l9,.l TWr l10])=(some (0,[.n n13,.n n14,.b b15,.n n16,.b b17,.l TBk l18,.l TWr l19])))(h2:(h3d [.n n0,.n n5,.b b6,.n n7,.b b8,.l TS l11,.l TOp l12])=(some (0,[.s s20,.n n21,.n n22,.b b23,.n n24,.b b25,.l TS l26,.l TOp l27])))(h3:(n13=n21))(h4:(f0b (r2b []) s20=true)):(k3m [.k 0,.n n0,.n n1,.b b2,.n n3,.b b4,.n n5,.b b6,.n n7,.b b8,.l TBk l9,.l TWr l10,.l TS l11,.l TOp l12]).sel=some (Step.go [.k 0,.n (IntKind.wrap .i64 (n0+(1:Int))),.n n1,.b b2,.n n3,.b b4,.n n5,.b b6,.n n7,.b b8,.l TBk l9,.l TWr l10,.l TS l11,.l TOp l12]):=sP [1]<|sT (dt h0)<|sP [1]<|sA h1<|sP [1,1,1]<|sA h2<|sP [1,1]<|sF (bnf h3)<|sF (nt h4)<|sP [1]<|sL
theorem x3u {n0 n1:Int}{b2:Bool}{n3:Int}{b4:Bool}{n5:Int}{b6:Bool}{n7:Int}{b8:Bool}{l9:List (Ty.den TBk)}{l10:List (Ty.den TWr)}{l11:List (Ty.den TS)}{l12:List (Ty.den TOp)}{n13 n14:Int}{b15:Bool}{n16:Int}{b17:Bool}{l18:List (Ty.den TBk)}{l19:List (Ty.den TWr)}{l20:List (Ty.den TB)}{s21:ByteArray}{n22 n23:Int}{b24:Bool}{n25:Int}{b26:Bool}{l27:List (Ty.den TS)}{l28:List (Ty.den TOp)}(g0:0≤n0)(h0:(n0<(↑(List.length l11):Int)))(h1:(i3b [.n n0,.n n1,.b b2,.n n3,.b b4,.l TBk l9,.l TWr l10])=(some (1,[.n n13,.n n14,.b b15,.n n16,.b b17,.l TBk l18,.l TWr l19,.l TB l20])))(h2:(h3d [.n n0,.n n5,.b b6,.n n7,.b b8,.l TS l11,.l TOp l12])=(some (0,[.s s21,.n n22,.n n23,.b b24,.n n25,.b b26,.l TS l27,.l TOp l28])))(h3:(n13=n22))(h4:(f0b (r2b l20) s21=true)):(k3m [.k 0,.n n0,.n n1,.b b2,.n n3,.b b4,.n n5,.b b6,.n n7,.b b8,.l TBk l9,.l TWr l10,.l TS l11,.l TOp l12]).sel=some (Step.go [.k 0,.n (IntKind.wrap .i64 (n0+(1:Int))),.n n1,.b b2,.n n3,.b b4,.n n5,.b b6,.n n7,.b b8,.l TBk l9,.l TWr l10,.l TS l11,.l TOp l12]):=sP [1]<|sT (dt h0)<|sP [1]<|sA h1<|sP [0,1,1,1]<|sA h2<|sP [1,1]<|sF (bnf h3)<|sF (nt h4)<|sP [1]<|sL
theorem v3j {n0 n1:Int}{b2:Bool}{n3:Int}{b4:Bool}{n5:Int}{b6:Bool}{n7:Int}{b8:Bool}{l9:List (Ty.den TBk)}{l10:List (Ty.den TWr)}{l11:List (Ty.den TS)}{l12:List (Ty.den TOp)}(g0:0≤n0)(h0:(¬n0<(↑(List.length l11):Int))):(k3m [.k 0,.n n0,.n n1,.b b2,.n n3,.b b4,.n n5,.b b6,.n n7,.b b8,.l TBk l9,.l TWr l10,.l TS l11,.l TOp l12]).sel=some (Step.stop 0 [.n n1,.b b2,.n n3,.b b4,.n n5,.b b6,.n n7,.b b8,.l TBk l9,.l TWr l10,.l TS l11,.l TOp l12]):=sP [1]<|sF (df h0)<|sP [1]<|sL
def S_t12:BSh:={args:=[.ptr 0 0,.ptr 1 0],blks:=[dkB 2 3 0,dkB 4 5 4,.arr TBk 8,.arr TWr 9,.arr TS 10,.arr TOp 11],log:=[],outs:=[(.bool 0,[dkB 2 3 1,dkB 4 5 5,.arr TBk 9,.arr TWr 10,.arr TS 11,.arr TOp 12])]}
def ev_t12:List Dat→Tree (Nat×List Dat):=evF t4a 12 (lsM [(4,p4z)] 6) S_t12
theorem e_t12: ∃op,IsF ev_t12 12 S_t12 op:=bxF r3t (lsE (lsC (h3n q3z) (atF) lsZ))
def t2c:OpA:=opF e_t12
theorem m4g {n0:Int}{b1:Bool}{n2:Int}{b3:Bool}{n4:Int}{b5:Bool}{n6:Int}{b7:Bool}{l8:List (Ty.den TBk)}{l9:List (Ty.den TWr)}{l10:List (Ty.den TS)}{l11:List (Ty.den TOp)}{n12:Int}{b13:Bool}{n14:Int}{b15:Bool}{n16:Int}{b17:Bool}{n18:Int}{b19:Bool}{l20:List (Ty.den TBk)}{l21:List (Ty.den TWr)}{l22:List (Ty.den TS)}{l23:List (Ty.den TOp)}(h0:(n0=n4))(h1:((b3==b7)=true))(h2:((↑(List.length l9):Int)=(↑(List.length l11):Int)))(h3:(y3q [.k 0,.n (0:Int),.n n0,.b b1,.n n2,.b b3,.n n4,.b b5,.n n6,.b b7,.l TBk l8,.l TWr l9,.l TS l10,.l TOp l11])=(some (0,[.n n12,.b b13,.n n14,.b b15,.n n16,.b b17,.n n18,.b b19,.l TBk l20,.l TWr l21,.l TS l22,.l TOp l23]))):t2c [.n n0,.b b1,.n n2,.b b3,.n n4,.b b5,.n n6,.b b7,.l TBk l8,.l TWr l9,.l TS l10,.l TOp l11]=some ((0,[.b true,.n n12,.b b13,.n n14,.b b15,.n n16,.b b17,.n n18,.b b19,.l TBk l20,.l TWr l21,.l TS l22,.l TOp l23])):=t0c e_t12 (sP [1,0,1]<|sF (bnf h0)<|sP [1,0,1]<|sF (nt h1)<|sP [1,0,1,1]<|sF (bnf h2)<|sA h3<|sP [1,1]<|sL)
def cs_t12:FuncId→Option a0q:=e1c 12 [S_t12.k t2c] t4a
theorem k4z:CsOk Try.prog cs_t12:=csA1 r3t e_t12
def u3j:FuncId→Option a0q:=e1c 27 [S_rc.k o3t] cs_t12
theorem l3n:CsOk Try.prog u3j:=csA1 k4z e_rc
def a4f:LSh:={K:=10,log:=[],ins:=[(sh 115 [(0,.ptr 0 0),(1,.ptr 1 0),(5,.int .i64 0),(6,.own 10),(9,.int .i64 1)],[logB 2 2 (.own 3),mlB 5 4 (.own 5),dkB 6 7 8,.arr TBs 12,dkB 8 9 13,.arr TS 17,.arr TBk 18,.arr TWr 19,.arr TS 20,.arr TOp 21,.arr TB 22]),(sh 115 [(0,.ptr 0 0),(1,.ptr 1 0),(5,.int .i64 0),(6,.nilsl),(9,.int .i64 1)],[logB 2 2 (.own 3),mlB 5 4 (.own 5),dkB 6 7 8,.arr TBs 12,dkB 8 9 13,.arr TS 17,.arr TBk 18,.arr TWr 19,.arr TS 20,.arr TOp 21])],nils:=[],outs:=[(.exit 2,sh 115 [(0,.ptr 0 0),(1,.ptr 1 0),(5,.int .i64 0)],[logB 1 2 (.own 3),mlB 4 4 (.own 5),dkB 6 7 7,.arr TBs 11,dkB 8 9 12,.arr TS 16,.arr TBk 17,.arr TWr 18,.arr TS 19,.arr TOp 20])],cv:=[]}
def i3x:List Dat→Tree Step:=evL u3j 13 11 ls0 a4f
theorem n3f: ∃op,IsL i3x 13 11 a4f op:=bxL l3n (LsOk.none _ _ _)
def j3l:OpA:=opL n3f
theorem m3w (env:List Dat):j3l env=a0b i3x FU env:=h3y n3f env
abbrev h4j:MBox:=boxL n3f
theorem u3f {n0 n1 n2 n3 n4 n5 n6 n7 n8:Int}{b9:Bool}{n10:Int}{b11:Bool}{l12:List (Ty.den TBs)}{n13:Int}{b14:Bool}{n15:Int}{b16:Bool}{l17:List (Ty.den TS)}{l18:List (Ty.den TBk)}{l19:List (Ty.den TWr)}{l20:List (Ty.den TS)}{l21:List (Ty.den TOp)}{l22:List (Ty.den TB)}(g0:0≤n1)(h0:(n1<(↑(List.length l22):Int))):(i3x [.k 0,.n n0,.n n1,.n n2,.n n3,.n n4,.n n5,.n n6,.n n7,.n n8,.b b9,.n n10,.b b11,.l TBs l12,.n n13,.b b14,.n n15,.b b16,.l TS l17,.l TBk l18,.l TWr l19,.l TS l20,.l TOp l21,.l TB l22]).sel=some (Step.go [.k 0,.n n0,.n (IntKind.wrap .i64 (n1+(1:Int))),.n n2,.n n3,.n n4,.n n5,.n n6,.n n7,.n n8,.b b9,.n n10,.b b11,.l TBs l12,.n n13,.b b14,.n n15,.b b16,.l TS l17,.l TBk l18,.l TWr l19,.l TS l20,.l TOp l21,.l TB (List.set l22 (Int.toNat n1) (IntKind.wrap .u8 ((List.getD l22 (Int.toNat n1) (0:Int):Int)+(1:Int))))]):=sP [1]<|sT (dt h0)<|sTo (c:=(inR n1 (List.length l22)))<|sTo (c:=(inR n1 (List.length l22)))<|sP [1]<|sL
theorem t3n {n0 n1 n2 n3 n4 n5 n6 n7 n8:Int}{b9:Bool}{n10:Int}{b11:Bool}{l12:List (Ty.den TBs)}{n13:Int}{b14:Bool}{n15:Int}{b16:Bool}{l17:List (Ty.den TS)}{l18:List (Ty.den TBk)}{l19:List (Ty.den TWr)}{l20:List (Ty.den TS)}{l21:List (Ty.den TOp)}{l22:List (Ty.den TB)}(g0:0≤n1)(h0:(¬n1<(↑(List.length l22):Int))):(i3x [.k 0,.n n0,.n n1,.n n2,.n n3,.n n4,.n n5,.n n6,.n n7,.n n8,.b b9,.n n10,.b b11,.l TBs l12,.n n13,.b b14,.n n15,.b b16,.l TS l17,.l TBk l18,.l TWr l19,.l TS l20,.l TOp l21,.l TB l22]).sel=some (Step.stop 0 [.n n0,.n n2,.n n3,.n n4,.n n5,.n n6,.n n7,.n n8,.b b9,.n n10,.b b11,.l TBs l12,.n n13,.b b14,.n n15,.b b16,.l TS l17,.l TBk l18,.l TWr l19,.l TS l20,.l TOp l21]):=sP [1]<|sF (df h0)<|sP [1]<|sL
theorem t3g {n0 n1 n2 n3 n4 n5 n6 n7 n8:Int}{b9:Bool}{n10:Int}{b11:Bool}{l12:List (Ty.den TBs)}{n13:Int}{b14:Bool}{n15:Int}{b16:Bool}{l17:List (Ty.den TS)}{l18:List (Ty.den TBk)}{l19:List (Ty.den TWr)}{l20:List (Ty.den TS)}{l21:List (Ty.den TOp)}(g0:0≤n1):(i3x [.k 1,.n n0,.n n1,.n n2,.n n3,.n n4,.n n5,.n n6,.n n7,.n n8,.b b9,.n n10,.b b11,.l TBs l12,.n n13,.b b14,.n n15,.b b16,.l TS l17,.l TBk l18,.l TWr l19,.l TS l20,.l TOp l21]).sel=some (Step.stop 0 [.n n0,.n n2,.n n3,.n n4,.n n5,.n n6,.n n7,.n n8,.b b9,.n n10,.b b11,.l TBs l12,.n n13,.b b14,.n n15,.b b16,.l TS l17,.l TBk l18,.l TWr l19,.l TS l20,.l TOp l21]):=sP [1]<|sFs (c:=(decide (n1<(0:Int))))<|sP [1]<|sL
def o4s:LSh:={K:=10,log:=[],ins:=[(sh 115 [(0,.ptr 0 0),(1,.ptr 1 0),(5,.int .i64 0)],[logB 1 2 (.own 3),mlB 4 4 (.own 5),dkB 6 7 7,.arr TBs 11,dkB 8 9 12,.arr TS 16,.arr TBk 17,.arr TWr 18,.arr TS 19,.arr TOp 20])],nils:=[],outs:=[(.exit 0,sh 115 [],[logB 0 2 (.own 3),mlB 3 4 (.own 5),dkB 6 7 6,.arr TBs 10,dkB 8 9 11,.arr TS 15,.arr TBk 16,.arr TWr 17,.arr TS 18,.arr TOp 19]),(.ret,sh 115 [(4,.bool 0)],[logB 1 2 (.own 3),mlB 4 4 (.own 5),dkB 6 7 7,.arr TBs 11,dkB 8 9 12,.arr TS 16,.arr TBk 17,.arr TWr 18,.arr TS 19,.arr TOp 20])],cv:=[]}
def j3s:List Dat→Tree Step:=evL u3j 13 4 (lsM [(11,h4j)] 10) o4s
theorem q3g: ∃op,IsL j3s 13 4 o4s op:=bxL l3n (lsE (lsC (h3n n3f) (by kernel_rfl) lsZ))
def z3d:OpA:=opL q3g
theorem w3x (env:List Dat):z3d env=a0b j3s FU env:=h3y q3g env
abbrev v4a:MBox:=boxL q3g
theorem y3f {n0 n1 n2 n3 n4 n5 n6 n7:Int}{b8:Bool}{n9:Int}{b10:Bool}{l11:List (Ty.den TBs)}{n12:Int}{b13:Bool}{n14:Int}{b15:Bool}{l16:List (Ty.den TS)}{l17:List (Ty.den TBk)}{l18:List (Ty.den TWr)}{l19:List (Ty.den TS)}{l20:List (Ty.den TOp)}{b21:Bool}{n22 n23 n24 n25:Int}{b26:Bool}{n27:Int}{b28:Bool}{l29:List (Ty.den TBs)}{l30:List (Ty.den TBk)}{l31:List (Ty.den TWr)}{n32 n33 n34 n35 n36 n37 n38 n39:Int}{b40:Bool}{n41:Int}{b42:Bool}{l43:List (Ty.den TBs)}{n44:Int}{b45:Bool}{n46:Int}{b47:Bool}{l48:List (Ty.den TS)}{l49:List (Ty.den TBk)}{l50:List (Ty.den TWr)}{l51:List (Ty.den TS)}{l52:List (Ty.den TOp)}(h0:(n0≤IntKind.wrap .i64 (n5+(↑(List.length l16):Int))))(h1:(o3t [.n n0,.n n1,.n n2,.n n3,.n n7,.b b8,.n n9,.b b10,.l TBs l11,.l TBk l17,.l TWr l18])=(some (0,[.b b21,.n n22,.n n23,.n n24,.n n25,.b b26,.n n27,.b b28,.l TBs l29,.l TBk l30,.l TWr l31])))(h2:(n0≥n5))(h3:((b21==decide (n0<IntKind.wrap .i64 (n5+(↑(List.length l16):Int))))=true))(h4:(¬n0<IntKind.wrap .i64 (n5+(↑(List.length l16):Int))))(h5:(j3l [.k 1,.n n0,.n (0:Int),.n n1,.n n2,.n n3,.n n4,.n n5,.n n6,.n n7,.b b8,.n n9,.b b10,.l TBs l11,.n n12,.b b13,.n n14,.b b15,.l TS l16,.l TBk l17,.l TWr l18,.l TS l19,.l TOp l20])=(some (0,[.n n32,.n n33,.n n34,.n n35,.n n36,.n n37,.n n38,.n n39,.b b40,.n n41,.b b42,.l TBs l43,.n n44,.b b45,.n n46,.b b47,.l TS l48,.l TBk l49,.l TWr l50,.l TS l51,.l TOp l52]))):(j3s [.k 0,.n n0,.n n1,.n n2,.n n3,.n n4,.n n5,.n n6,.n n7,.b b8,.n n9,.b b10,.l TBs l11,.n n12,.b b13,.n n14,.b b15,.l TS l16,.l TBk l17,.l TWr l18,.l TS l19,.l TOp l20]).sel=some (Step.go [.k 0,.n (IntKind.wrap .i64 (n32+(1:Int))),.n n33,.n n34,.n n35,.n n36,.n n37,.n n38,.n n39,.b b40,.n n41,.b b42,.l TBs l43,.n n44,.b b45,.n n46,.b b47,.l TS l48,.l TBk l49,.l TWr l50,.l TS l51,.l TOp l52]):=sP [1,1,1,1]<|sT (dt h0)<|sP [1]<|sA h1<|sP [1,1]<|sT (dt h2)<|sP [1,1,1]<|sF (nt h3)<|sF (df h4)<|sP [0,0]<|sTs (c:=(!decide (n0<IntKind.wrap .i64 (n5+(↑(List.length l16):Int)))))<|sP [1,0]<|sA h5<|sP [1,1]<|sL
theorem w3u {n0 n1 n2 n3 n4 n5 n6 n7:Int}{b8:Bool}{n9:Int}{b10:Bool}{l11:List (Ty.den TBs)}{n12:Int}{b13:Bool}{n14:Int}{b15:Bool}{l16:List (Ty.den TS)}{l17:List (Ty.den TBk)}{l18:List (Ty.den TWr)}{l19:List (Ty.den TS)}{l20:List (Ty.den TOp)}{b21:Bool}{n22 n23 n24 n25:Int}{b26:Bool}{n27:Int}{b28:Bool}{l29:List (Ty.den TBs)}{l30:List (Ty.den TBk)}{l31:List (Ty.den TWr)}{n32 n33 n34 n35 n36 n37 n38 n39:Int}{b40:Bool}{n41:Int}{b42:Bool}{l43:List (Ty.den TBs)}{n44:Int}{b45:Bool}{n46:Int}{b47:Bool}{l48:List (Ty.den TS)}{l49:List (Ty.den TBk)}{l50:List (Ty.den TWr)}{l51:List (Ty.den TS)}{l52:List (Ty.den TOp)}(h0:(n0≤IntKind.wrap .i64 (n5+(↑(List.length l16):Int))))(h1:(o3t [.n n0,.n n1,.n n2,.n n3,.n n7,.b b8,.n n9,.b b10,.l TBs l11,.l TBk l17,.l TWr l18])=(some (0,[.b b21,.n n22,.n n23,.n n24,.n n25,.b b26,.n n27,.b b28,.l TBs l29,.l TBk l30,.l TWr l31])))(h2:(¬n0≥n5))(h3:((b21==false)=true))(h4:(j3l [.k 1,.n n0,.n (0:Int),.n n1,.n n2,.n n3,.n n4,.n n5,.n n6,.n n7,.b b8,.n n9,.b b10,.l TBs l11,.n n12,.b b13,.n n14,.b b15,.l TS l16,.l TBk l17,.l TWr l18,.l TS l19,.l TOp l20])=(some (0,[.n n32,.n n33,.n n34,.n n35,.n n36,.n n37,.n n38,.n n39,.b b40,.n n41,.b b42,.l TBs l43,.n n44,.b b45,.n n46,.b b47,.l TS l48,.l TBk l49,.l TWr l50,.l TS l51,.l TOp l52]))):(j3s [.k 0,.n n0,.n n1,.n n2,.n n3,.n n4,.n n5,.n n6,.n n7,.b b8,.n n9,.b b10,.l TBs l11,.n n12,.b b13,.n n14,.b b15,.l TS l16,.l TBk l17,.l TWr l18,.l TS l19,.l TOp l20]).sel=some (Step.go [.k 0,.n (IntKind.wrap .i64 (n32+(1:Int))),.n n33,.n n34,.n n35,.n n36,.n n37,.n n38,.n n39,.b b40,.n n41,.b b42,.l TBs l43,.n n44,.b b45,.n n46,.b b47,.l TS l48,.l TBk l49,.l TWr l50,.l TS l51,.l TOp l52]):=sP [1,1,1,1]<|sT (dt h0)<|sP [1]<|sA h1<|sP [1,1]<|sF (df h2)<|sP [0]<|sF (nt h3)<|sP [0,0,0,1,1,0]<|sA h4<|sP [1,1]<|sL
theorem w3z {n0 n1 n2 n3 n4 n5 n6 n7:Int}{b8:Bool}{n9:Int}{b10:Bool}{l11:List (Ty.den TBs)}{n12:Int}{b13:Bool}{n14:Int}{b15:Bool}{l16:List (Ty.den TS)}{l17:List (Ty.den TBk)}{l18:List (Ty.den TWr)}{l19:List (Ty.den TS)}{l20:List (Ty.den TOp)}{b21:Bool}{n22 n23 n24 n25:Int}{b26:Bool}{n27:Int}{b28:Bool}{l29:List (Ty.den TBs)}{l30:List (Ty.den TBk)}{l31:List (Ty.den TWr)}{l32:List (Ty.den TB)}{n33 n34 n35 n36 n37 n38 n39 n40:Int}{b41:Bool}{n42:Int}{b43:Bool}{l44:List (Ty.den TBs)}{n45:Int}{b46:Bool}{n47:Int}{b48:Bool}{l49:List (Ty.den TS)}{l50:List (Ty.den TBk)}{l51:List (Ty.den TWr)}{l52:List (Ty.den TS)}{l53:List (Ty.den TOp)}(h0:(n0≤IntKind.wrap .i64 (n5+(↑(List.length l16):Int))))(h1:(o3t [.n n0,.n n1,.n n2,.n n3,.n n7,.b b8,.n n9,.b b10,.l TBs l11,.l TBk l17,.l TWr l18])=(some (1,[.b b21,.n n22,.n n23,.n n24,.n n25,.b b26,.n n27,.b b28,.l TBs l29,.l TBk l30,.l TWr l31,.l TB l32])))(h2:(n0≥n5))(h3:((b21==decide (n0<IntKind.wrap .i64 (n5+(↑(List.length l16):Int))))=true))(h4:(n0<IntKind.wrap .i64 (n5+(↑(List.length l16):Int))))(h5:(inR (IntKind.wrap .i64 (n0-n5)) (List.length l16)=true))(h6:(f0b (r2b l32) (List.getD l16 (Int.toNat (IntKind.wrap .i64 (n0-n5))) (Ty.dflt TS))=true))(h7:(j3l [.k 0,.n n0,.n (0:Int),.n n1,.n n2,.n n3,.n n4,.n n5,.n n6,.n n7,.b b8,.n n9,.b b10,.l TBs l11,.n n12,.b b13,.n n14,.b b15,.l TS l16,.l TBk l17,.l TWr l18,.l TS l19,.l TOp l20,.l TB l32])=(some (0,[.n n33,.n n34,.n n35,.n n36,.n n37,.n n38,.n n39,.n n40,.b b41,.n n42,.b b43,.l TBs l44,.n n45,.b b46,.n n47,.b b48,.l TS l49,.l TBk l50,.l TWr l51,.l TS l52,.l TOp l53]))):(j3s [.k 0,.n n0,.n n1,.n n2,.n n3,.n n4,.n n5,.n n6,.n n7,.b b8,.n n9,.b b10,.l TBs l11,.n n12,.b b13,.n n14,.b b15,.l TS l16,.l TBk l17,.l TWr l18,.l TS l19,.l TOp l20]).sel=some (Step.go [.k 0,.n (IntKind.wrap .i64 (n33+(1:Int))),.n n34,.n n35,.n n36,.n n37,.n n38,.n n39,.n n40,.b b41,.n n42,.b b43,.l TBs l44,.n n45,.b b46,.n n47,.b b48,.l TS l49,.l TBk l50,.l TWr l51,.l TS l52,.l TOp l53]):=sP [1,1,1,1]<|sT (dt h0)<|sP [1]<|sA h1<|sP [0,1,1]<|sT (dt h2)<|sP [1,1,1]<|sF (nt h3)<|sT (dt h4)<|sT h5<|sF (nt h6)<|sFs (c:=(!decide (n0<IntKind.wrap .i64 (n5+(↑(List.length l16):Int)))))<|sP [0,1,0]<|sA h7<|sP [1,1]<|sL
theorem t3a {n0 n1 n2 n3 n4 n5 n6 n7:Int}{b8:Bool}{n9:Int}{b10:Bool}{l11:List (Ty.den TBs)}{n12:Int}{b13:Bool}{n14:Int}{b15:Bool}{l16:List (Ty.den TS)}{l17:List (Ty.den TBk)}{l18:List (Ty.den TWr)}{l19:List (Ty.den TS)}{l20:List (Ty.den TOp)}(h0:(¬n0≤IntKind.wrap .i64 (n5+(↑(List.length l16):Int)))):(j3s [.k 0,.n n0,.n n1,.n n2,.n n3,.n n4,.n n5,.n n6,.n n7,.b b8,.n n9,.b b10,.l TBs l11,.n n12,.b b13,.n n14,.b b15,.l TS l16,.l TBk l17,.l TWr l18,.l TS l19,.l TOp l20]).sel=some (Step.stop 0 [.n n1,.n n2,.n n3,.n n4,.n n5,.n n6,.n n7,.b b8,.n n9,.b b10,.l TBs l11,.n n12,.b b13,.n n14,.b b15,.l TS l16,.l TBk l17,.l TWr l18,.l TS l19,.l TOp l20]):=sP [1,1,1,1]<|sF (df h0)<|sP [1]<|sL
def S_t13:BSh:={args:=[.ptr 0 0,.ptr 1 0],blks:=[logB 0 2 (.own 3),mlB 3 4 (.own 5),dkB 6 7 6,.arr TBs 10,dkB 8 9 11,.arr TS 15,.arr TBk 16,.arr TWr 17,.arr TS 18,.arr TOp 19],log:=[],outs:=[(.bool 0,[logB 1 2 (.own 3),mlB 4 4 (.own 5),dkB 6 7 7,.arr TBs 11,dkB 8 9 12,.arr TS 16,.arr TBk 17,.arr TWr 18,.arr TS 19,.arr TOp 20])]}
def ev_t13:List Dat→Tree (Nat×List Dat):=evF u3j 13 (lsM [(4,v4a)] 10) S_t13
theorem e_t13: ∃op,IsF ev_t13 13 S_t13 op:=bxF l3n (lsE (lsC (h3n q3g) (atF) lsZ))
def h3s:OpA:=opF e_t13
theorem l4l {n0 n1 n2 n3 n4 n5 n6:Int}{b7:Bool}{n8:Int}{b9:Bool}{l10:List (Ty.den TBs)}{n11:Int}{b12:Bool}{n13:Int}{b14:Bool}{l15:List (Ty.den TS)}{l16:List (Ty.den TBk)}{l17:List (Ty.den TWr)}{l18:List (Ty.den TS)}{l19:List (Ty.den TOp)}{n20 n21 n22 n23 n24 n25 n26:Int}{b27:Bool}{n28:Int}{b29:Bool}{l30:List (Ty.den TBs)}{n31:Int}{b32:Bool}{n33:Int}{b34:Bool}{l35:List (Ty.den TS)}{l36:List (Ty.den TBk)}{l37:List (Ty.den TWr)}{l38:List (Ty.den TS)}{l39:List (Ty.den TOp)}(h0:(n1=n4))(h1:(IntKind.wrap .i64 (n1+(↑(List.length l10):Int))=IntKind.wrap .i64 (n4+(↑(List.length l15):Int))))(h2:(imax (IntKind.wrap .i64 ((↑(List.length l16):Int)-(2:Int))) (0:Int)=IntKind.wrap .i64 ((↑(List.length l18):Int)-(2:Int))))(h3:(n2=n5))(h4:(z3d [.k 0,.n (IntKind.wrap .i64 (n4-(1:Int))),.n n0,.n n1,.n n2,.n n3,.n n4,.n n5,.n n6,.b b7,.n n8,.b b9,.l TBs l10,.n n11,.b b12,.n n13,.b b14,.l TS l15,.l TBk l16,.l TWr l17,.l TS l18,.l TOp l19])=(some (0,[.n n20,.n n21,.n n22,.n n23,.n n24,.n n25,.n n26,.b b27,.n n28,.b b29,.l TBs l30,.n n31,.b b32,.n n33,.b b34,.l TS l35,.l TBk l36,.l TWr l37,.l TS l38,.l TOp l39]))):h3s [.n n0,.n n1,.n n2,.n n3,.n n4,.n n5,.n n6,.b b7,.n n8,.b b9,.l TBs l10,.n n11,.b b12,.n n13,.b b14,.l TS l15,.l TBk l16,.l TWr l17,.l TS l18,.l TOp l19]=some ((0,[.b true,.n n20,.n n21,.n n22,.n n23,.n n24,.n n25,.n n26,.b b27,.n n28,.b b29,.l TBs l30,.n n31,.b b32,.n n33,.b b34,.l TS l35,.l TBk l36,.l TWr l37,.l TS l38,.l TOp l39])):=t0c e_t13 (sP [1,0,1]<|sF (bnf h0)<|sP [1,0,1,1,1,1,1]<|sF (bnf h1)<|sP [1,0,1,0,1,1,1,1]<|sF (bnf h2)<|sP [1,0,1,1]<|sF (bnf h3)<|sA h4<|sP [1,1]<|sL)
def cs_t13:FuncId→Option a0q:=e1c 13 [S_t13.k h3s] u3j
theorem h4b:CsOk Try.prog cs_t13:=csA1 l3n e_t13
def czV (h:Nat):PV:=.agg [.int .u8 h,.imm TB (h+1),.int .i64 (h+2),.imm TB (h+3)]
def cs_nrg:FuncId→Option a0q:=e1c 59 [S_nr.k s3r] cs_t13
theorem f4p:CsOk Try.prog cs_nrg:=csA1 h4b e_nr
def cs_apg:FuncId→Option a0q:=e1c 23 [S_ap.k k3s,S_ai.k u3d] cs_nrg
theorem f4z:CsOk Try.prog cs_apg:=h0a f4p fun B hB=>by
 simp only[List.mem_cons,List.not_mem_nil,or_false]at hB
 rcases hB with rfl|rfl
 ·exact h3x e_ap
 ·exact h3x e_ai
def cs_trg:FuncId→Option a0q:=e1c 31 [S_tr.k p3f] cs_apg
theorem h4k:CsOk Try.prog cs_trg:=csA1 f4z e_tr
def cs_mag:FuncId→Option a0q:=e1c 61 [S_ma.k p3k] cs_trg
theorem m4r:CsOk Try.prog cs_mag:=csA1 h4k e_ma
def z3z:FuncId→Option a0q:=e1c 60 [S_mt.k p3j] cs_mag
theorem n3o:CsOk Try.prog z3z:=csA1 m4r e_mt
def g4q:LSh:={K:=10,log:=[],ins:=[(sh 64 [(1,.ptr 1 0),(5,.ptr 10 0),(8,.own 11),(9,.int .i64 0),(10,.bool 1),(11,.int .i64 2)],[logB 3 2 (.own 3),mlB 6 4 (.own 5),dkB 6 7 9,.arr TBs 13,dkB 8 9 14,.arr TS 18,.arr TBk 19,.arr TWr 20,.arr TS 21,.arr TOp 22,.cells [.int .u8 23,.imm TB 24,.int .i64 25,.imm TB 26],.arr TB 27]),(sh 64 [(1,.ptr 1 0),(5,.ptr 10 0),(8,.own 11),(9,.int .i64 0),(10,.bool 1),(11,.int .i64 2)],[logB 3 2 (.own 3),mlB 6 4 (.own 5),dkB 6 12 9,.arr TBs 13,dkB 8 9 14,.arr TS 18,.arr TBk 19,.gone,.arr TS 20,.arr TOp 21,.cells [.int .u8 22,.imm TB 23,.int .i64 24,.imm TB 25],.arr TB 26,.arr TWr 27])],nils:=[],outs:=[(.exit 0,sh 64 [(1,.ptr 1 0),(5,.ptr 10 0),(9,.int .i64 0),(10,.bool 1)],[logB 2 2 (.own 3),mlB 5 4 (.own 5),dkB 6 7 8,.arr TBs 12,dkB 8 9 13,.arr TS 17,.arr TBk 18,.arr TWr 19,.arr TS 20,.arr TOp 21,.cells [.int .u8 22,.imm TB 23,.int .i64 24,.imm TB 25]]),(.exit 0,sh 64 [(1,.ptr 1 0),(5,.ptr 10 0),(9,.int .i64 0),(10,.bool 1)],[logB 2 2 (.own 3),mlB 5 4 (.own 5),dkB 6 11 8,.arr TBs 12,dkB 8 9 13,.arr TS 17,.arr TBk 18,.gone,.arr TS 19,.arr TOp 20,.cells [.int .u8 21,.imm TB 22,.int .i64 23,.imm TB 24],.arr TWr 25])],cv:=[]}
def j3b:List Dat→Tree Step:=evL z3z 22 8 ls0 g4q
theorem r3b: ∃op,IsL j3b 22 8 g4q op:=bxL n3o (LsOk.none _ _ _)
def l3w:OpA:=opL r3b
theorem o3r (env:List Dat):l3w env=a0b j3b FU env:=h3y r3b env
abbrev t4d:MBox:=boxL r3b
theorem t3o {n0:Int}{b1:Bool}{n2 n3 n4 n5 n6 n7 n8 n9:Int}{b10:Bool}{n11:Int}{b12:Bool}{l13:List (Ty.den TBs)}{n14:Int}{b15:Bool}{n16:Int}{b17:Bool}{l18:List (Ty.den TS)}{l19:List (Ty.den TBk)}{l20:List (Ty.den TWr)}{l21:List (Ty.den TS)}{l22:List (Ty.den TOp)}{n23:Int}{l24:List (Ty.den TB)}{n25:Int}{l26 l27:List (Ty.den TB)}(g0:0≤n2)(h0:(n2<(↑(List.length l27):Int))):(j3b [.k 0,.n n0,.b b1,.n n2,.n n3,.n n4,.n n5,.n n6,.n n7,.n n8,.n n9,.b b10,.n n11,.b b12,.l TBs l13,.n n14,.b b15,.n n16,.b b17,.l TS l18,.l TBk l19,.l TWr l20,.l TS l21,.l TOp l22,.n n23,.l TB l24,.n n25,.l TB l26,.l TB l27]).sel=some (Step.go [.k 0,.n n0,.b b1,.n (IntKind.wrap .i64 (n2+(1:Int))),.n n3,.n n4,.n n5,.n n6,.n n7,.n n8,.n n9,.b b10,.n n11,.b b12,.l TBs l13,.n n14,.b b15,.n n16,.b b17,.l TS l18,.l TBk l19,.l TWr l20,.l TS l21,.l TOp l22,.n n23,.l TB l24,.n n25,.l TB l26,.l TB (List.set l27 (Int.toNat n2) (IntKind.wrap .u8 ((List.getD l27 (Int.toNat n2) (0:Int):Int)+(1:Int))))]):=sP [1]<|sT (dt h0)<|sTo (c:=(inR n2 (List.length l27)))<|sTo (c:=(inR n2 (List.length l27)))<|sP [1]<|sL
theorem s3m {n0:Int}{b1:Bool}{n2 n3 n4 n5 n6 n7 n8 n9:Int}{b10:Bool}{n11:Int}{b12:Bool}{l13:List (Ty.den TBs)}{n14:Int}{b15:Bool}{n16:Int}{b17:Bool}{l18:List (Ty.den TS)}{l19:List (Ty.den TBk)}{l20:List (Ty.den TWr)}{l21:List (Ty.den TS)}{l22:List (Ty.den TOp)}{n23:Int}{l24:List (Ty.den TB)}{n25:Int}{l26 l27:List (Ty.den TB)}(g0:0≤n2)(h0:(¬n2<(↑(List.length l27):Int))):(j3b [.k 0,.n n0,.b b1,.n n2,.n n3,.n n4,.n n5,.n n6,.n n7,.n n8,.n n9,.b b10,.n n11,.b b12,.l TBs l13,.n n14,.b b15,.n n16,.b b17,.l TS l18,.l TBk l19,.l TWr l20,.l TS l21,.l TOp l22,.n n23,.l TB l24,.n n25,.l TB l26,.l TB l27]).sel=some (Step.stop 0 [.n n0,.b b1,.n n3,.n n4,.n n5,.n n6,.n n7,.n n8,.n n9,.b b10,.n n11,.b b12,.l TBs l13,.n n14,.b b15,.n n16,.b b17,.l TS l18,.l TBk l19,.l TWr l20,.l TS l21,.l TOp l22,.n n23,.l TB l24,.n n25,.l TB l26]):=sP [1]<|sF (df h0)<|sP [1]<|sL
theorem s3f {n0:Int}{b1:Bool}{n2 n3 n4 n5 n6 n7 n8 n9:Int}{b10:Bool}{n11:Int}{b12:Bool}{l13:List (Ty.den TBs)}{n14:Int}{b15:Bool}{n16:Int}{b17:Bool}{l18:List (Ty.den TS)}{l19:List (Ty.den TBk)}{l20:List (Ty.den TS)}{l21:List (Ty.den TOp)}{n22:Int}{l23:List (Ty.den TB)}{n24:Int}{l25 l26:List (Ty.den TB)}{l27:List (Ty.den TWr)}(g0:0≤n2)(h0:(n2<(↑(List.length l26):Int))):(j3b [.k 1,.n n0,.b b1,.n n2,.n n3,.n n4,.n n5,.n n6,.n n7,.n n8,.n n9,.b b10,.n n11,.b b12,.l TBs l13,.n n14,.b b15,.n n16,.b b17,.l TS l18,.l TBk l19,.l TS l20,.l TOp l21,.n n22,.l TB l23,.n n24,.l TB l25,.l TB l26,.l TWr l27]).sel=some (Step.go [.k 1,.n n0,.b b1,.n (IntKind.wrap .i64 (n2+(1:Int))),.n n3,.n n4,.n n5,.n n6,.n n7,.n n8,.n n9,.b b10,.n n11,.b b12,.l TBs l13,.n n14,.b b15,.n n16,.b b17,.l TS l18,.l TBk l19,.l TS l20,.l TOp l21,.n n22,.l TB l23,.n n24,.l TB l25,.l TB (List.set l26 (Int.toNat n2) (IntKind.wrap .u8 ((List.getD l26 (Int.toNat n2) (0:Int):Int)+(1:Int)))),.l TWr l27]):=sP [1]<|sT (dt h0)<|sTo (c:=(inR n2 (List.length l26)))<|sTo (c:=(inR n2 (List.length l26)))<|sP [1]<|sL
theorem s3x {n0:Int}{b1:Bool}{n2 n3 n4 n5 n6 n7 n8 n9:Int}{b10:Bool}{n11:Int}{b12:Bool}{l13:List (Ty.den TBs)}{n14:Int}{b15:Bool}{n16:Int}{b17:Bool}{l18:List (Ty.den TS)}{l19:List (Ty.den TBk)}{l20:List (Ty.den TS)}{l21:List (Ty.den TOp)}{n22:Int}{l23:List (Ty.den TB)}{n24:Int}{l25 l26:List (Ty.den TB)}{l27:List (Ty.den TWr)}(g0:0≤n2)(h0:(¬n2<(↑(List.length l26):Int))):(j3b [.k 1,.n n0,.b b1,.n n2,.n n3,.n n4,.n n5,.n n6,.n n7,.n n8,.n n9,.b b10,.n n11,.b b12,.l TBs l13,.n n14,.b b15,.n n16,.b b17,.l TS l18,.l TBk l19,.l TS l20,.l TOp l21,.n n22,.l TB l23,.n n24,.l TB l25,.l TB l26,.l TWr l27]).sel=some (Step.stop 1 [.n n0,.b b1,.n n3,.n n4,.n n5,.n n6,.n n7,.n n8,.n n9,.b b10,.n n11,.b b12,.l TBs l13,.n n14,.b b15,.n n16,.b b17,.l TS l18,.l TBk l19,.l TS l20,.l TOp l21,.n n22,.l TB l23,.n n24,.l TB l25,.l TWr l27]):=sP [1]<|sF (df h0)<|sP [1]<|sL
def S_d22:BSh:={args:=[.ptr 0 0,.ptr 1 0,czV 0],blks:=[logB 4 2 (.own 3),mlB 7 4 (.own 5),dkB 6 7 10,.arr TBs 14,dkB 8 9 15,.arr TS 19,.arr TBk 20,.arr TWr 21,.arr TS 22,.arr TOp 23],log:=[0,1,2,3,4,5,6,7,8,9],outs:=[(.bool 0,[logB 1 2 (.own 3),mlB 4 4 (.own 5),dkB 6 7 7,.arr TBs 11,dkB 8 9 12,.arr TS 16,.arr TBk 17,.arr TWr 18,.arr TS 19,.arr TOp 20]),(.bool 0,[logB 1 2 (.own 3),mlB 4 4 (.own 5),dkB 6 10 7,.arr TBs 11,dkB 8 11 12,.arr TS 16,.arr TBk 17,.gone,.arr TS 18,.gone,.arr TWr 19,.arr TOp 20]),(.bool 0,[logB 1 2 (.own 10),mlB 4 4 (.own 11),dkB 6 12 7,.gone,dkB 8 13 11,.gone,.arr TBk 15,.gone,.arr TS 16,.gone,.arr TBs 17,.arr TS 18,.arr TWr 19,.arr TOp 20])]}
def ev_d22:List Dat→Tree (Nat×List Dat):=evFV [(some 2,1,.own TWr),(some 4,1,.own TOp)] z3z 22 (lsM [(8,t4d)] 10) S_d22
theorem e4c: ∃op,IsF ev_d22 22 S_d22 op:=bxFV n3o (lsE (lsC (h3n r3b) (atF) lsZ))
def l3q:OpA:=opF e4c
theorem m4a {n0:Int}{l1:List (Ty.den TB)}{n2:Int}{l3:List (Ty.den TB)}{n4 n5 n6 n7 n8 n9 n10:Int}{b11:Bool}{n12:Int}{b13:Bool}{l14:List (Ty.den TBs)}{n15:Int}{b16:Bool}{n17:Int}{b18:Bool}{l19:List (Ty.den TS)}{l20:List (Ty.den TBk)}{l21:List (Ty.den TWr)}{l22:List (Ty.den TS)}{l23:List (Ty.den TOp)}{n24 n25 n26 n27 n28:Int}{b29:Bool}{n30:Int}{b31:Bool}{l32 l33:List (Ty.den TS)}{l34:List (Ty.den TOp)}{n35 n36 n37 n38 n39:Int}{b40:Bool}{n41:Int}{b42:Bool}{l43:List (Ty.den TBs)}{l44:List (Ty.den TBk)}{l45:List (Ty.den TWr)}{n46 n47 n48 n49 n50:Int}{b51:Bool}{n52:Int}{b53:Bool}{l54 l55:List (Ty.den TS)}{l56:List (Ty.den TOp)}(g0:0≤n0)(h0:(Int.tmod n0 (9:Int)=(4:Int)))(h1:(s3r [.n n2,.n n7,.n n8,.n n9,.n n15,.b b16,.n n17,.b b18,.l TS l19,.l TS l22,.l TOp l23])=(some (0,[.n n24,.n n25,.n n26,.n n27,.n n28,.b b29,.n n30,.b b31,.l TS l32,.l TS l33,.l TOp l34])))(h2:(p3f [.n n24,.n n4,.n n5,.n n6,.n n10,.b b11,.n n12,.b b13,.l TBs l14,.l TBk l20,.l TWr l21])=(some (0,[.n n35,.n n36,.n n37,.n n38,.n n39,.b b40,.n n41,.b b42,.l TBs l43,.l TBk l44,.l TWr l45])))(h3:(p3j [.n n24,.n n7,.n n8,.n n9,.n n15,.b b16,.n n17,.b b18,.l TS l19,.l TS l22,.l TOp l23])=(some (0,[.n n46,.n n47,.n n48,.n n49,.n n50,.b b51,.n n52,.b b53,.l TS l54,.l TS l55,.l TOp l56]))):l3q [.n n0,.l TB l1,.n n2,.l TB l3,.n n4,.n n5,.n n6,.n n7,.n n8,.n n9,.n n10,.b b11,.n n12,.b b13,.l TBs l14,.n n15,.b b16,.n n17,.b b18,.l TS l19,.l TBk l20,.l TWr l21,.l TS l22,.l TOp l23]=some ((0,[.b (n35==n46),.n n36,.n n37,.n n38,.n n47,.n n48,.n n49,.n n39,.b b40,.n n41,.b b42,.l TBs l43,.n n50,.b b51,.n n52,.b b53,.l TS l54,.l TBk l44,.l TWr l45,.l TS l55,.l TOp l56])):=t0c e4c (sP [1]<|sT (bt h0)<|sP [1]<|sA h1<|sP [1,1,1]<|sA h2<|sP [1,1,1]<|sA h3<|sP [1,1,1]<|sL)
theorem i4n {n0:Int}{l1:List (Ty.den TB)}{n2:Int}{l3:List (Ty.den TB)}{n4 n5 n6 n7 n8 n9 n10:Int}{b11:Bool}{n12:Int}{b13:Bool}{l14:List (Ty.den TBs)}{n15:Int}{b16:Bool}{n17:Int}{b18:Bool}{l19:List (Ty.den TS)}{l20:List (Ty.den TBk)}{l21:List (Ty.den TWr)}{l22:List (Ty.den TS)}{l23:List (Ty.den TOp)}{n24 n25 n26 n27 n28:Int}{b29:Bool}{n30:Int}{b31:Bool}{l32 l33:List (Ty.den TS)}{l34:List (Ty.den TOp)}{n35 n36 n37 n38 n39:Int}{b40:Bool}{n41:Int}{b42:Bool}{l43:List (Ty.den TBk)}{l44:List (Ty.den TBs)}{l45:List (Ty.den TWr)}{n46 n47 n48 n49 n50:Int}{b51:Bool}{n52:Int}{b53:Bool}{l54 l55:List (Ty.den TS)}{l56:List (Ty.den TOp)}(g0:0≤n0)(h0:(Int.tmod n0 (9:Int)=(4:Int)))(h1:(s3r [.n n2,.n n7,.n n8,.n n9,.n n15,.b b16,.n n17,.b b18,.l TS l19,.l TS l22,.l TOp l23])=(some (0,[.n n24,.n n25,.n n26,.n n27,.n n28,.b b29,.n n30,.b b31,.l TS l32,.l TS l33,.l TOp l34])))(h2:(p3f [.n n24,.n n4,.n n5,.n n6,.n n10,.b b11,.n n12,.b b13,.l TBs l14,.l TBk l20,.l TWr l21])=(some (3,[.n n35,.n n36,.n n37,.n n38,.n n39,.b b40,.n n41,.b b42,.l TBk l43,.l TBs l44,.l TWr l45])))(h3:(p3j [.n n24,.n n7,.n n8,.n n9,.n n15,.b b16,.n n17,.b b18,.l TS l19,.l TS l22,.l TOp l23])=(some (4,[.n n46,.n n47,.n n48,.n n49,.n n50,.b b51,.n n52,.b b53,.l TS l54,.l TS l55,.l TOp l56]))):l3q [.n n0,.l TB l1,.n n2,.l TB l3,.n n4,.n n5,.n n6,.n n7,.n n8,.n n9,.n n10,.b b11,.n n12,.b b13,.l TBs l14,.n n15,.b b16,.n n17,.b b18,.l TS l19,.l TBk l20,.l TWr l21,.l TS l22,.l TOp l23]=some ((2,[.b (n35==n46),.n n36,.n n37,.n n38,.n n47,.n n48,.n n49,.n n39,.b b40,.n n41,.b b42,.n n50,.b b51,.n n52,.b b53,.l TBk l43,.l TS l54,.l TBs l44,.l TS l55,.l TWr l45,.l TOp l56])):=t0c e4c (sP [1]<|sT (bt h0)<|sP [1]<|sA h1<|sP [1,1,1]<|sA h2<|sP [0,0,0,1,1,1]<|sA h3<|sP [0,0,0,0,1,1,1]<|sL)
theorem g4g {n0:Int}{l1:List (Ty.den TB)}{n2:Int}{l3:List (Ty.den TB)}{n4 n5 n6 n7 n8 n9 n10:Int}{b11:Bool}{n12:Int}{b13:Bool}{l14:List (Ty.den TBs)}{n15:Int}{b16:Bool}{n17:Int}{b18:Bool}{l19:List (Ty.den TS)}{l20:List (Ty.den TBk)}{l21:List (Ty.den TWr)}{l22:List (Ty.den TS)}{l23:List (Ty.den TOp)}{n24 n25 n26 n27:Int}{l28:List (Ty.den TB)}{n29:Int}{b30:Bool}{n31:Int}{b32:Bool}{l33:List (Ty.den TBs)}{l34:List (Ty.den TBk)}{l35:List (Ty.den TWr)}{n36:Int}{b37:Bool}{n38 n39 n40 n41 n42 n43 n44:Int}{b45:Bool}{n46:Int}{b47:Bool}{l48:List (Ty.den TBs)}{n49:Int}{b50:Bool}{n51:Int}{b52:Bool}{l53:List (Ty.den TS)}{l54:List (Ty.den TBk)}{l55:List (Ty.den TWr)}{l56:List (Ty.den TS)}{l57:List (Ty.den TOp)}{n58:Int}{l59:List (Ty.den TB)}{n60:Int}{l61:List (Ty.den TB)}{n62 n63 n64 n65 n66:Int}{b67:Bool}{n68:Int}{b69:Bool}{l70 l71:List (Ty.den TS)}{l72:List (Ty.den TOp)}(g0:0≤n0)(h0:(¬Int.tmod n0 (9:Int)=(4:Int)))(h1:(k3s [.n n4,.n n5,.n n6,.l TB (c0b (r2b l1)),.n n10,.b b11,.n n12,.b b13,.l TBs l14,.l TBk l20,.l TWr l21])=(some (0,[.n n24,.n n25,.n n26,.n n27,.l TB l28,.n n29,.b b30,.n n31,.b b32,.l TBs l33,.l TBk l34,.l TWr l35])))(h2:(l3w [.k 0,.n n24,.b (f0b (r2b (c0b (r2b l1))) (r2b l1)),.n (0:Int),.n n25,.n n26,.n n27,.n n7,.n n8,.n n9,.n n29,.b b30,.n n31,.b b32,.l TBs l33,.n n15,.b b16,.n n17,.b b18,.l TS l19,.l TBk l34,.l TWr l35,.l TS l22,.l TOp l23,.n n0,.l TB l1,.n n2,.l TB l3,.l TB (c0b (r2b l1))])=(some (0,[.n n36,.b b37,.n n38,.n n39,.n n40,.n n41,.n n42,.n n43,.n n44,.b b45,.n n46,.b b47,.l TBs l48,.n n49,.b b50,.n n51,.b b52,.l TS l53,.l TBk l54,.l TWr l55,.l TS l56,.l TOp l57,.n n58,.l TB l59,.n n60,.l TB l61])))(h3:(b37=true))(h4:(p3k [.s (r2b l59),.n n41,.n n42,.n n43,.n n49,.b b50,.n n51,.b b52,.l TS l53,.l TS l56,.l TOp l57])=(some (0,[.n n62,.n n63,.n n64,.n n65,.n n66,.b b67,.n n68,.b b69,.l TS l70,.l TS l71,.l TOp l72]))):l3q [.n n0,.l TB l1,.n n2,.l TB l3,.n n4,.n n5,.n n6,.n n7,.n n8,.n n9,.n n10,.b b11,.n n12,.b b13,.l TBs l14,.n n15,.b b16,.n n17,.b b18,.l TS l19,.l TBk l20,.l TWr l21,.l TS l22,.l TOp l23]=some ((0,[.b (n36==n62),.n n38,.n n39,.n n40,.n n63,.n n64,.n n65,.n n44,.b b45,.n n46,.b b47,.l TBs l48,.n n66,.b b67,.n n68,.b b69,.l TS l70,.l TBk l54,.l TWr l55,.l TS l71,.l TOp l72])):=t0c e4c (sP [1]<|sF (bf h0)<|sP [1]<|sA h1<|sP [1,1]<|sA h2<|sP [1]<|sT h3<|sP [1]<|sA h4<|sP [1,1,1]<|sL)
theorem j4w {n0:Int}{l1:List (Ty.den TB)}{n2:Int}{l3:List (Ty.den TB)}{n4 n5 n6 n7 n8 n9 n10:Int}{b11:Bool}{n12:Int}{b13:Bool}{l14:List (Ty.den TBs)}{n15:Int}{b16:Bool}{n17:Int}{b18:Bool}{l19:List (Ty.den TS)}{l20:List (Ty.den TBk)}{l21:List (Ty.den TWr)}{l22:List (Ty.den TS)}{l23:List (Ty.den TOp)}{n24 n25 n26 n27:Int}{l28:List (Ty.den TB)}{n29:Int}{b30:Bool}{n31:Int}{b32:Bool}{l33:List (Ty.den TBs)}{l34:List (Ty.den TBk)}{l35:List (Ty.den TWr)}{n36:Int}{b37:Bool}{n38 n39 n40 n41 n42 n43 n44:Int}{b45:Bool}{n46:Int}{b47:Bool}{l48:List (Ty.den TBs)}{n49:Int}{b50:Bool}{n51:Int}{b52:Bool}{l53:List (Ty.den TS)}{l54:List (Ty.den TBk)}{l55:List (Ty.den TS)}{l56:List (Ty.den TOp)}{n57:Int}{l58:List (Ty.den TB)}{n59:Int}{l60:List (Ty.den TB)}{l61:List (Ty.den TWr)}{n62 n63 n64 n65 n66:Int}{b67:Bool}{n68:Int}{b69:Bool}{l70 l71:List (Ty.den TS)}{l72:List (Ty.den TOp)}(g0:0≤n0)(h0:(¬Int.tmod n0 (9:Int)=(4:Int)))(h1:(k3s [.n n4,.n n5,.n n6,.l TB (c0b (r2b l1)),.n n10,.b b11,.n n12,.b b13,.l TBs l14,.l TBk l20,.l TWr l21])=(some (1,[.n n24,.n n25,.n n26,.n n27,.l TB l28,.n n29,.b b30,.n n31,.b b32,.l TBs l33,.l TBk l34,.l TWr l35])))(h2:(l3w [.k 1,.n n24,.b (f0b (r2b (c0b (r2b l1))) (r2b l1)),.n (0:Int),.n n25,.n n26,.n n27,.n n7,.n n8,.n n9,.n n29,.b b30,.n n31,.b b32,.l TBs l33,.n n15,.b b16,.n n17,.b b18,.l TS l19,.l TBk l34,.l TS l22,.l TOp l23,.n n0,.l TB l1,.n n2,.l TB l3,.l TB (c0b (r2b l1)),.l TWr l35])=(some (1,[.n n36,.b b37,.n n38,.n n39,.n n40,.n n41,.n n42,.n n43,.n n44,.b b45,.n n46,.b b47,.l TBs l48,.n n49,.b b50,.n n51,.b b52,.l TS l53,.l TBk l54,.l TS l55,.l TOp l56,.n n57,.l TB l58,.n n59,.l TB l60,.l TWr l61])))(h3:(b37=true))(h4:(p3k [.s (r2b l58),.n n41,.n n42,.n n43,.n n49,.b b50,.n n51,.b b52,.l TS l53,.l TS l55,.l TOp l56])=(some (1,[.n n62,.n n63,.n n64,.n n65,.n n66,.b b67,.n n68,.b b69,.l TS l70,.l TS l71,.l TOp l72]))):l3q [.n n0,.l TB l1,.n n2,.l TB l3,.n n4,.n n5,.n n6,.n n7,.n n8,.n n9,.n n10,.b b11,.n n12,.b b13,.l TBs l14,.n n15,.b b16,.n n17,.b b18,.l TS l19,.l TBk l20,.l TWr l21,.l TS l22,.l TOp l23]=some ((1,[.b (n36==n62),.n n38,.n n39,.n n40,.n n63,.n n64,.n n65,.n n44,.b b45,.n n46,.b b47,.l TBs l48,.n n66,.b b67,.n n68,.b b69,.l TS l70,.l TBk l54,.l TS l71,.l TWr l61,.l TOp l72])):=t0c e4c (sP [1]<|sF (bf h0)<|sP [1]<|sA h1<|sP [0,1,1]<|sA h2<|sP [0,1]<|sT h3<|sP [1]<|sA h4<|sP [0,1,1,1]<|sL)
def m4h:FuncId→Option a0q:=e1c 22 [S_d22.k l3q] z3z
theorem s3q:CsOk Try.prog m4h:=csA1 n3o e4c
def S_an:BSh:={args:=[.ptr 0 0,.nilsl],blks:=[logB 0 1 (.own 2),dkB 3 4 3,.arr TBs 7,.arr TBk 8,.arr TWr 9],log:=[],outs:=[(.int .i64 0,[logB 1 1 (.own 2),dkB 3 4 4,.arr TBs 8,.arr TBk 9,.arr TWr 10])]}
def ev_an:List Dat→Tree (Nat×List Dat):=evF m4h 23 ls0 S_an
theorem e_an: ∃op,IsF ev_an 23 S_an op:=bxF s3q (LsOk.none _ _ _)
def op_an:OpA:=opF e_an
theorem r4s {n0 n1 n2 n3:Int}{b4:Bool}{n5:Int}{b6:Bool}{l7:List (Ty.den TBs)}{l8:List (Ty.den TBk)}{l9:List (Ty.den TWr)}(g0:n2=0)(g1:(↑(List.length l7):Int)≥imax (IntKind.wrap .i64 ((↑(List.length l8):Int)-(2:Int))) (0:Int)):op_an [.n n0,.n n1,.n n2,.n n3,.b b4,.n n5,.b b6,.l TBs l7,.l TBk l8,.l TWr l9]=some ((0,[.n (150:Int),.n n0,.n n1,.n n2,.n n3,.b b4,.n n5,.b b6,.l TBs l7,.l TBk l8,.l TWr l9])):=t0c e_an (sP [1,0,1]<|sFs (c:=(n2 !=(0:Int)))<|sP [0,1,0,1,0,1,1,1]<|sTs (c:=(decide ((↑(List.length l7):Int)≥imax (IntKind.wrap .i64 ((↑(List.length l8):Int)-(2:Int))) (0:Int))))<|sP [1]<|sL)
def cs_apw:FuncId→Option a0q:=e1c 23 [S_ap.k k3s,S_an.k op_an] m4h
theorem p4p:CsOk Try.prog cs_apw:=h0a s3q fun B hB=>by
 simp only[List.mem_cons,List.not_mem_nil,or_false]at hB
 rcases hB with rfl|rfl
 ·exact h3x e_ap
 ·exact h3x e_an
def cs_rcw:FuncId→Option a0q:=e1c 27 [S_rc.k o3t] cs_apw
theorem l4i:CsOk Try.prog cs_rcw:=csA1 p4p e_rc
def m4p:FuncId→Option a0q:=e1c 10 [S_wo.k h3i] cs_rcw
theorem u3h:CsOk Try.prog m4p:=csA1 l4i e_wo
def S_w7:BSh:={args:=[],blks:=[],log:=[],outs:=[(.bool 0,[])]}
def ev_w7:List Dat→Tree (Nat×List Dat):=evF m4p 7 ls0 S_w7
theorem e_w7: ∃op,IsF ev_w7 7 S_w7 op:=bxF u3h (LsOk.none _ _ _)
def m3p:OpA:=opF e_w7
theorem s4r {n0:Int}{b1:Bool}{n2:Int}{b3:Bool}{l4:List (Ty.den TBk)}{l5:List (Ty.den TWr)}{n6:Int}{b7:Bool}{n8:Int}{b9:Bool}{l10:List (Ty.den TBk)}{n11 n12 n13:Int}{l14:List (Ty.den TWr)}{l15:List (Ty.den TBs)}{n16 n17 n18 n19:Int}{b20:Bool}{n21:Int}{b22:Bool}{l23:List (Ty.den TBs)}{l24:List (Ty.den TBk)}{l25:List (Ty.den TWr)}{n26 n27 n28 n29:Int}{b30:Bool}{n31:Int}{b32:Bool}{l33:List (Ty.den TBs)}{l34:List (Ty.den TBk)}{l35:List (Ty.den TWr)}{n36 n37 n38 n39:Int}{b40:Bool}{n41:Int}{b42:Bool}{l43:List (Ty.den TBs)}{l44:List (Ty.den TBk)}{l45:List (Ty.den TWr)}{n46 n47 n48 n49:Int}{b50:Bool}{n51:Int}{b52:Bool}{l53:List (Ty.den TBk)}{l54:List (Ty.den TBs)}{l55:List (Ty.den TWr)}{n56 n57 n58 n59:Int}{b60:Bool}{n61:Int}{b62:Bool}{l63:List (Ty.den TBs)}{l64:List (Ty.den TBk)}{l65:List (Ty.den TWr)}(g0:n3c [.n 5]=some (0,[.n n0,.b b1,.n n2,.b b3,.l TBk l4,.l TWr l5]))(g1:h3i [.n n0,.b b1,.n n2,.b b3,.l TBk l4,.l TWr l5]=some (3,[.n 0,.n n6,.b b7,.n n8,.b b9,.l TBk l10,.n n11,.n n12,.n n13,.l TWr l14,.l TBs l15]))(g2:imax (IntKind.wrap .i64 ((↑(List.length l10):Int)-(2:Int))) (0:Int)=(3:Int))(g3:k3s [.n n11,.n n12,.n n13,.l TB (@List.cons Int (0:Int) (@List.nil Int)),.n n6,.b b7,.n n8,.b b9,.l TBs l15,.l TBk l10,.l TWr l14]=some (1,[.n 0,.n n16,.n n17,.n n18,.l TB (@List.cons Int (0:Int) (@List.nil Int)),.n n19,.b b20,.n n21,.b b22,.l TBs l23,.l TBk l24,.l TWr l25]))(g4:k3s [.n n16,.n n17,.n n18,.l TB (@List.cons Int (1:Int) (@List.nil Int)),.n n19,.b b20,.n n21,.b b22,.l TBs l23,.l TBk l24,.l TWr l25]=some (1,[.n 0,.n n26,.n n27,.n n28,.l TB (@List.cons Int (1:Int) (@List.nil Int)),.n n29,.b b30,.n n31,.b b32,.l TBs l33,.l TBk l34,.l TWr l35]))(g5:k3s [.n n26,.n n27,.n n28,.l TB (@List.cons Int (2:Int) (@List.nil Int)),.n n29,.b b30,.n n31,.b b32,.l TBs l33,.l TBk l34,.l TWr l35]=some (1,[.n 0,.n n36,.n n37,.n n38,.l TB (@List.cons Int (2:Int) (@List.nil Int)),.n n39,.b b40,.n n41,.b b42,.l TBs l43,.l TBk l44,.l TWr l45]))(g6:op_an [.n n36,.n n37,.n n38,.n n39,.b b40,.n n41,.b b42,.l TBs l43,.l TBk l44,.l TWr l45]=some (0,[.n 150,.n n36,.n n37,.n n38,.n n39,.b b40,.n n41,.b b42,.l TBs l43,.l TBk l44,.l TWr l45]))(g7:p3f [.n 3,.n n36,.n n37,.n n38,.n n39,.b b40,.n n41,.b b42,.l TBs l43,.l TBk l44,.l TWr l45]=some (3,[.n 0,.n n46,.n n47,.n n48,.n n49,.b b50,.n n51,.b b52,.l TBk l53,.l TBs l54,.l TWr l55]))(g8:k3s [.n n46,.n n47,.n n48,.l TB (@List.cons Int (100:Int) (@List.nil Int)),.n n49,.b b50,.n n51,.b b52,.l TBs l54,.l TBk l53,.l TWr l55]=some (1,[.n 0,.n n56,.n n57,.n n58,.l TB (@List.cons Int (100:Int) (@List.nil Int)),.n n59,.b b60,.n n61,.b b62,.l TBs l63,.l TBk l64,.l TWr l65]))(g9:n57=(3:Int))(g10:IntKind.wrap .i64 (n57+(↑(List.length l63):Int))=(5:Int))(g11:o3t [.n 4,.n n56,.n n57,.n n58,.n n59,.b b60,.n n61,.b b62,.l TBs l63,.l TBk l64,.l TWr l65]=some (1,[.b true,.n n56,.n n57,.n n58,.n n59,.b b60,.n n61,.b b62,.l TBs l63,.l TBk l64,.l TWr l65,.l TB [(100:Int)]])):m3p []=some ((0,[.b true])):=t0c e_w7 (sP [1]<|sA g0<|sP [1,1,1]<|sA g1<|sP [0,0,0,1,1,0,1,0,1,0,1,1]<|sFs (c:=(imax (IntKind.wrap .i64 ((↑(List.length l10):Int)-(2:Int))) (0:Int) !=(3:Int)))<|sP [1,1]<|sA g3<|sP [0,1,1,0,1,1]<|sA g4<|sP [0,1,1,0,1,1]<|sA g5<|sP [0,1,1,0,0,1]<|sA g6<|sP [1,1,1]<|sA g7<|sP [0,0,0,1,1,1]<|sA g8<|sP [0,1,1,1]<|sA g11<|sP [0,1,1,1,1,1,1,0,1]<|sTs (c:=(n57==(3:Int)))<|sP [1,0,1,1]<|sTo (c:=(IntKind.wrap .i64 (n57+(↑(List.length l63):Int))==(5:Int)))<|sP [1,1]<|sL)
def cs_w7:FuncId→Option a0q:=a0s 7 (S_w7.k m3p) m4p
theorem p4y:CsOk Try.prog cs_w7:=csL1 u3h e_w7
def sPut (s:DS)(i:Int)(b:List Int):DS×Int×Nat:=if(s1c s i b).2=0 then h3o (s1c s i b).1 else((s1c s i b).1,(s1c s i b).2,0)
theorem j3e (s:DS)(i:Int)(b:List Int):(s1c s i b).1.K=s.K:=by
 unfold s1c
 split
 ·rfl
 split
 ·split
  ·rfl
  split
  ·split<;>rfl
  ·rfl
 ·rfl
theorem q3u {s:DS}(h:(h3o s).2.2=0):(h3o s).1.W=s.W∧(h3o s).1.K=s.K∧(h3o s).2.1≠0:=by
 unfold h3o at h⊢
 by_cases h1:s.o=true
 ·rw[if_pos h1];exact⟨rfl,rfl,(show(140:Int)≠0 by decide)⟩
 rw[if_neg h1]at h⊢
 by_cases h2:s.A=true
 ·rw[if_pos h2]at h⊢
  by_cases h3:s.h=0
  ·rw[if_pos h3];exact⟨rfl,rfl,(show(140:Int)≠0 by decide)⟩
  ·rw[if_neg h3]at h;cases h
 ·rw[if_neg h2]at h;cases h
theorem r3a {s:DS}(h:(h3o s).2.2≠0):(h3o s).2.2=1∧(h3o s).2.1=0∧(h3o s).1.o=false∧(h3o s).1.W=[]:=by
 unfold h3o at h⊢
 by_cases h1:s.o=true
 ·rw[if_pos h1]at h;exact absurd rfl h
 rw[if_neg h1]at h⊢
 have h1':s.o=false:=by simpa using h1
 by_cases h2:s.A=true
 ·rw[if_pos h2]at h⊢
  by_cases h3:s.h=0
  ·rw[if_pos h3]at h;exact absurd rfl h
  ·rw[if_neg h3];exact⟨rfl,rfl,h1',rfl⟩
 ·rw[if_neg h2];exact⟨rfl,rfl,h1',rfl⟩
theorem l4j (s:DS):(h3o s).2.2=0∨(h3o s).2.2=1:=by
 by_cases h:(h3o s).2.2=0
 ·exact .inl h
 ·exact .inr (r3a h).1
theorem o3z {s:DS}(hs:DH s)(i:Int){b:List Int}(hb:Wb b):DH (sPut s i b).1∧(sPut s i b).1.W.length≤s.W.length+1∧(sPut s i b).1.K.length=s.K.length:=by
 have h1:=j3o s hs i b hb
 unfold sPut
 split
 ·have h2:=q4h _ h1.1
  exact⟨h2.1,by omega,by omega⟩
 ·exact h1
theorem o3e (s:DS)(i:Int)(b:List Int):((sPut s i b).2.1=0∧(sPut s i b).2.2=1∧(sPut s i b).1.o=false)∨((sPut s i b).2.1≠0∧(sPut s i b).2.2=0):=by
 unfold sPut
 split
 ·by_cases h:(h3o (s1c s i b).1).2.2=0
  ·exact .inr ⟨(q3u h).2.2,h⟩
  ·exact .inl ⟨(r3a h).2.1,(r3a h).1,(r3a h).2.2.1⟩
 ·rename_i h;exact .inr ⟨h,rfl⟩
section
variable {s:DS} (hs:DH s) (hw:s.W.length≤90000) {R:LBs} {t f br:Int}
include hs hw
theorem h4t {P:Int→Int→Bool→Int→Bool→LKs→LW→Nat→Prop}{i:Int}{b:List Int}(hb:Wb b)
  (k0: ∀(n15:Int) (b16:Bool) (n17:Int) (b18:Bool) (l19:List (Ty.den TB)) (l20:LKs) (l21:LW) (n22 n23:Int) (b24:Bool) (n25:Int) (b26:Bool) (l27:LKs) (l28:LW),h3k [.n i,.n s.n,.b s.A,.n s.h,.b s.o,.l TB b,.l TBk s.K,.l TWr s.W]=some (0,[.n 0,.n n15,.b b16,.n n17,.b b18,.l TB l19,.l TBk l20,.l TWr l21])→j3c [.n n15,.b b16,.n n17,.b b18,.l TBk s.K,.l TWr l21]=some (0,[.n n22,.n n23,.b b24,.n n25,.b b26,.l TBk l27,.l TWr l28])→P n22 n23 b24 n25 b26 l27 l21 0)
  (k1: ∀(n15:Int) (b16:Bool) (n17:Int) (b18:Bool) (l19:List (Ty.den TB)) (l20:LKs) (l21:LW) (n22 n23:Int) (b24:Bool) (n25:Int) (b26:Bool) (l27:LKs) (l28:LW),h3k [.n i,.n s.n,.b s.A,.n s.h,.b s.o,.l TB b,.l TBk s.K,.l TWr s.W]=some (0,[.n 0,.n n15,.b b16,.n n17,.b b18,.l TB l19,.l TBk l20,.l TWr l21])→j3c [.n n15,.b b16,.n n17,.b b18,.l TBk s.K,.l TWr l21]=some (1,[.n n22,.n n23,.b b24,.n n25,.b b26,.l TBk l27,.l TWr l28])→P n22 n23 b24 n25 b26 l27 l28 1)
  (k2: ∀(n14 n15:Int) (b16:Bool) (n17:Int) (b18:Bool) (l19:List (Ty.den TB)) (l20:LKs) (l21:LW),h3k [.n i,.n s.n,.b s.A,.n s.h,.b s.o,.l TB b,.l TBk s.K,.l TWr s.W]=some (0,[.n n14,.n n15,.b b16,.n n17,.b b18,.l TB l19,.l TBk l20,.l TWr l21])→ ¬n14=0→P n14 n15 b16 n17 b18 s.K l21 0):
  P (sPut s i b).2.1 (sPut s i b).1.n (sPut s i b).1.A (sPut s i b).1.h (sPut s i b).1.o (sPut s i b).1.K (sPut s i b).1.W (sPut s i b).2.2:=by
 have h1:=d17o s (by omega) i b
 have w1:=j3o s hs i b hb
 unfold sPut
 by_cases e:(s1c s i b).2=0
 ·rw[if_pos e]
  rw[e]at h1
  have h2:=d16 (s1c s i b).1 w1.1 (by omega)
  rw[j3e]at h2
  rcases l4j (s1c s i b).1 with q|q
  ·rw[q]at h2⊢
   have:=k0 _ _ _ _ _ _ _ _ _ _ _ _ _ _ h1 h2
   rw[(q3u q).1];exact this
  ·rw[q]at h2⊢
   exact k1 _ _ _ _ _ _ _ _ _ _ _ _ _ _ h1 h2
 ·rw[if_neg e]
  have:=k2 _ _ _ _ _ _ _ _ h1 e
  rw[←j3e s i b]at this;exact this
theorem wh (i t' f':Int):p3m [.n i,.n t',.n f',.n t,.n f,.n br,.n s.n,.b s.A,.n s.h,.b s.o,.l TBs R,.l TBk s.K,.l TWr s.W]=some ((sPut s i (hdB t' f')).2.2,[.n (sPut s i (hdB t' f')).2.1,.n t,.n f,.n (sPut s i (hdB t' f')).2.1,.n (sPut s i (hdB t' f')).1.n,.b (sPut s i (hdB t' f')).1.A,.n (sPut s i (hdB t' f')).1.h,.b (sPut s i (hdB t' f')).1.o,.l TBs R,.l TBk (sPut s i (hdB t' f')).1.K,.l TWr (sPut s i (hdB t' f')).1.W]):=
 h4t hs hw (P:=fun e n A h o K W k=>p3m [.n i,.n t',.n f',.n t,.n f,.n br,.n s.n,.b s.A,.n s.h,.b s.o,.l TBs R,.l TBk s.K,.l TWr s.W]=some (k,[.n e,.n t,.n f,.n e,.n n,.b A,.n h,.b o,.l TBs R,.l TBk K,.l TWr W])) (i:=i) (k3d t' f')
  (fun _ _ _ _ _ _ _ _ _ _ _ _ _ _ h1 h2=>s4h (bh t' f') h1 rfl h2) (fun _ _ _ _ _ _ _ _ _ _ _ _ _ _ h1 h2=>r4v (bh t' f') h1 rfl h2) (fun _ _ _ _ _ _ _ _ h1 h2=>u4h (bh t' f') h1 h2)
end
theorem vI {a l:List Int}(h:l.length+a.length≤900000):o4u [.l TB a,.l TB l]=some (0,[.l TB (l++a)]):=v4n (l0:=a) (l1:=l) (show(List.length l+List.length a)*1≤140737488355328 by omega)
theorem bi (k:Int){s:List Int}(hs:s.length≤232):b4r [.n k,.l TB s]=some (0,[.l TB (rcB k s)]):=by
 have hl:(rcP k s).length=11+s.length:=r3n k s
 have hc:=m3o (rcP k s)
 have e1:=vB (c:=82) rfl
 have e2:=vL (IntKind.wrap .u64 k) (l:=[82]) (by decide)
 have e3:=vS (IntKind.wrap .u16 (s.length:Int)) (l:=[82]++bes (IntKind.wrap .u64 k) 8) (by rw[List.length_append,h3v];decide)
 rw[be2 hs]at e3
 have e3b:o4u [.l TB s,.l TB ([82]++bes (IntKind.wrap .u64 k) 8++bes (IntKind.wrap .u64 (s.length:Int)) 2)]=some (0,[.l TB (rcP k s)]):=vI (a:=s) (l:=[82]++bes (IntKind.wrap .u64 k) 8++bes (IntKind.wrap .u64 (s.length:Int)) 2) (by simp only[List.length_append,h3v,List.length_cons,List.length_nil];omega)
 have e4:=vO (l:=rcP k s) (by omega)
 have e5:=q12 (rcP k s) (by omega)
 have e6:=vW (N (Sm (rcP k s))) (l:=rcP k s) (by omega)
 have e7:=vO (l:=chk (rcP k s)) (by omega)
 have es:=seaB (b:=rcP k s) (by omega)
 have e8:=vR (a:=List.replicate (248-(chk (rcP k s)).length) 0) (l:=chk (rcP k s)) (by rw[List.length_replicate];omega)
 have e9:=vL (IntKind.wrap .u64 k) (l:=chk (rcP k s)++List.replicate (248-(chk (rcP k s)).length) 0) (by rw[List.length_append,List.length_replicate];omega)
 have e10:=vO (l:=rcB k s) (by rw[h4o k hs];decide)
 refine s4s (l12:=List.replicate (248-(chk (rcP k s)).length) (0:Int)) e1 e2 e3 e3b e4 e5 e6 e7 ?_ ?_ e9 e10
 ·rw[show(List.length (α:=Ty.den TB) (chk (rcP k s)):Int)=((chk (rcP k s)).length:Int)from rfl,es]
  have:(248-(chk (rcP k s)).length:Nat)≤248:=by omega
  generalize (248-(chk (rcP k s)).length:Nat)=m at this
  simp only[Bool.and_eq_true,decide_eq_true_eq]
  omega
 ·rw[show(List.length (α:=Ty.den TB) (chk (rcP k s)):Int)=((chk (rcP k s)).length:Int)from rfl,es,Int.toNat_natCast,r3c]
  exact e8
section
variable {s:DS} (hs:DH s) (hw:s.W.length≤90000) {t f br:Int}
include hs hw
theorem wi {R:LBs}(i k:Int){x:List Int}(hx:Wb x)(hl:x.length≤232):p3l [.n i,.n k,.l TB x,.n t,.n f,.n br,.n s.n,.b s.A,.n s.h,.b s.o,.l TBs R,.l TBk s.K,.l TWr s.W]=some ((sPut s i (rcB k x)).2.2,[.n (sPut s i (rcB k x)).2.1,.n t,.n f,.n (sPut s i (rcB k x)).2.1,.n (sPut s i (rcB k x)).1.n,.b (sPut s i (rcB k x)).1.A,.n (sPut s i (rcB k x)).1.h,.b (sPut s i (rcB k x)).1.o,.l TBs R,.l TBk (sPut s i (rcB k x)).1.K,.l TWr (sPut s i (rcB k x)).1.W]):=
 h4t hs hw (P:=fun e n A h o K W kd=>p3l [.n i,.n k,.l TB x,.n t,.n f,.n br,.n s.n,.b s.A,.n s.h,.b s.o,.l TBs R,.l TBk s.K,.l TWr s.W]=some (kd,[.n e,.n t,.n f,.n e,.n n,.b A,.n h,.b o,.l TBs R,.l TBk K,.l TWr W])) (i:=i) (p3z k hx)
  (fun _ _ _ _ _ _ _ _ _ _ _ _ _ _ h1 h2=>s4u (bi k hl) h1 rfl h2) (fun _ _ _ _ _ _ _ _ _ _ _ _ _ _ h1 h2=>r4q (bi k hl) h1 rfl h2) (fun _ _ _ _ _ _ _ _ h1 h2=>s4y (bi k hl) h1 h2)
theorem mw {L:LT}(i:Int){b:List Int}(hb:Wb b):o3d [.n i,.s (r2b b),.n t,.n f,.n br,.n s.n,.b s.A,.n s.h,.b s.o,.l TS L,.l TS (strK s.K),.l TOp (strW s.W)]=some ((sPut s i b).2.2,[.n (sPut s i b).2.1,.n t,.n f,.n (sPut s i b).2.1,.n (sPut s i b).1.n,.b (sPut s i b).1.A,.n (sPut s i b).1.h,.b (sPut s i b).1.o,.l TS L,.l TS (strK (sPut s i b).1.K),.l TOp (strW (sPut s i b).1.W)]):=by
 have h1:=m33 s hs (by omega) i b hb
 have w1:=j3o s hs i b hb
 unfold sPut
 by_cases e:(s1c s i b).2=0
 ·rw[if_pos e]
  rw[e]at h1
  have h2:=m28 (s1c s i b).1 w1.1 (by omega)
  rw[j3e]at h2
  rcases l4j (s1c s i b).1 with q|q
  ·rw[q]at h2⊢
   rw[(q3u q).1];exact u4g h1 rfl h2
  ·rw[q]at h2⊢
   exact r4h h1 rfl h2
 ·rw[if_neg e]
  have:=u4m (n2:=t) (n3:=f) (n4:=br) (l9:=L) h1 e
  rw[j3e s i b];exact this
end
structure LS where
 t:Int
 f:Int
 b:Int
 R:LBs
 s:DS
def strR (R:LBs):LT:=R.map fun(x:List Int)=>r2b x
theorem i3f (R:LBs):(strR R).length=R.length:=List.length_map ..
theorem r3y (R:LBs)(x:List Int):strR (apL R [x])=strR R++[r2b x]:=List.map_append (f:=fun(x:List Int)=>r2b x) (l₁:=R) (l₂:=[x])
def LS.p (l:LS):List Dat:=[.n l.t,.n l.f,.n l.b,.n l.s.n,.b l.s.A,.n l.s.h,.b l.s.o,.l TBs l.R,.l TBk l.s.K,.l TWr l.s.W]
def LS.m (l:LS):List Dat:=[.n l.t,.n l.f,.n l.b,.n l.s.n,.b l.s.A,.n l.s.h,.b l.s.o,.l TS (strR l.R),.l TS (strK l.s.K),.l TOp (strW l.s.W)]
structure LOk (N:Nat)(l:LS):Prop where
 h:DH l.s
 t0:0≤l.t
 t1:l.t≤4611686018427387904+N
 f0:1≤l.f
 f1:l.f+l.R.length≤4611686018427392000+N
 k:3≤l.s.K.length
 r:l.R.length≤room l.s
 w: ∀x∈l.R,Wb x∧List.length (α:=Int) x≤232
def sApp (l:LS)(x:List Int):LS×Int×Nat:=
 if l.b≠0 then(l,l.b,0)else if 232<x.length then(l,3,0)else if room l.s≤l.R.length then(l,150,0)else
  if(sPut l.s ((2+plc l.s (l.f+l.R.length):Nat):Int) (rcB (l.f+l.R.length) x)).2.1=0 then(⟨l.t,l.f,0,apL l.R [x],(sPut l.s ((2+plc l.s (l.f+l.R.length):Nat):Int) (rcB (l.f+l.R.length) x)).1⟩,0,1)
  else(⟨l.t,l.f,(sPut l.s ((2+plc l.s (l.f+l.R.length):Nat):Int) (rcB (l.f+l.R.length) x)).2.1,l.R,(sPut l.s ((2+plc l.s (l.f+l.R.length):Nat):Int) (rcB (l.f+l.R.length) x)).1⟩,(sPut l.s ((2+plc l.s (l.f+l.R.length):Nat):Int) (rcB (l.f+l.R.length) x)).2.1,0)
theorem z3l {s:DS}(h:0<room s)(k:Int):plc s k<room s:=by
 unfold plc
 have h1:=Int.emod_nonneg (k-1) (show(room s:Int)≠0 by omega)
 have h2:=Int.emod_lt_of_pos (k-1) (show 0<(room s:Int) by omega)
 omega
theorem k4g {s:DS}(h:0<room s){k:Int}(hk:1≤k):Int.tmod (k-1) (room s:Int)=(plc s k:Int):=by
 unfold plc
 rw[Int.tmod_eq_emod_of_nonneg (by omega)]
 have h1:=Int.emod_nonneg (k-1) (show(room s:Int)≠0 by omega)
 omega
section
variable {N:Nat} (hN:N≤1000) {l:LS} (hl:LOk N l) (hw:l.s.W.length≤90000)
include hN hl
theorem LOk.nx:IntKind.wrap .i64 (l.f+(↑(List.length l.R):Int))=l.f+(↑(List.length l.R):Int):=w64 (by have:=hl.f0;omega) (by have:=hl.f1;omega)
theorem LOk.place (hr:l.R.length<room l.s):IntKind.wrap .i64 ((2:Int)+Int.tmod (IntKind.wrap .i64 (IntKind.wrap .i64 (l.f+(↑(List.length l.R):Int))-(1:Int))) (room l.s:Int))=((2+plc l.s (l.f+l.R.length):Nat):Int):=by
 have h0:=hl.f0
 have h1:=hl.f1
 have hk:l.s.K.length≤4096:=hl.h.kl
 have hp:=z3l (s:=l.s) (by omega) (l.f+l.R.length)
 have hrm:room l.s≤4096:=by unfold room;omega
 have e1:IntKind.wrap .i64 (l.f+(↑(List.length l.R):Int)-1)=l.f+(↑(List.length l.R):Int)-1:=w64 (by omega) (by omega)
 rw[hl.nx hN,e1,k4g (by omega) (by omega),w64 (by omega) (by omega)]
 omega
include hw
theorem o4r {x:List Int}(hx:Wb x)(hx2:x.length≤100000):u3d (.l TB x::l.p)=some ((sApp l x).2.2,.n (sApp l x).2.1::(sApp l x).1.p)∧k3s [.n l.t,.n l.f,.n l.b,.l TB x,.n l.s.n,.b l.s.A,.n l.s.h,.b l.s.o,.l TBs l.R,.l TBk l.s.K,.l TWr l.s.W]=some ((sApp l x).2.2,[.n (sApp l x).2.1,.n (sApp l x).1.t,.n (sApp l x).1.f,.n (sApp l x).1.b,.l TB x,.n (sApp l x).1.s.n,.b (sApp l x).1.s.A,.n (sApp l x).1.s.h,.b (sApp l x).1.s.o,.l TBs (sApp l x).1.R,.l TBk (sApp l x).1.s.K,.l TWr (sApp l x).1.s.W]):=by
 have hrm:=k3l hl.h
 have hk:l.s.K.length≤4096:=hl.h.kl
 have hr4:room l.s≤4096:=by unfold room;omega
 have hlr:=hl.r
 unfold sApp
 by_cases h1:l.b=0
 ·rw[if_neg (by omega)]
  by_cases h2:232<x.length
  ·rw[if_pos h2]
   exact⟨q4c h1 (show((x.length:Nat):Int)>232 by omega),r4p h1 (show((x.length:Nat):Int)>232 by omega)⟩
  ·rw[if_neg h2]
   have h2': ¬((x.length:Nat):Int)>232:=by omega
   by_cases h3:room l.s≤l.R.length
   ·rw[if_pos h3]
    have h3':(↑(List.length l.R):Int)≥imax (IntKind.wrap .i64 ((↑(List.length l.s.K):Int)-(2:Int))) (0:Int):=by rw[hrm];omega
    exact⟨p4u h1 h2' h3',q4j h1 h2' h3'⟩
   ·rw[if_neg h3]
    have h3': ¬(↑(List.length l.R):Int)≥imax (IntKind.wrap .i64 ((↑(List.length l.s.K):Int)-(2:Int))) (0:Int):=by rw[hrm];omega
    have e1:i2m [.l TB x]=some (0,[.l TB x]):=t31 (by omega)
    have e2:=wi hl.h hw (t:=l.t) (f:=l.f) (br:=l.b) (R:=l.R) (((2+plc l.s (l.f+l.R.length):Nat):Int)) (l.f+l.R.length) hx (by omega)
    have ep:=hl.place hN (by omega)
    rw[←hrm]at ep
    have en:=hl.nx hN
    rcases o3e l.s (((2+plc l.s (l.f+l.R.length):Nat):Int)) (rcB (l.f+l.R.length) x)with⟨q1,q2,q3⟩|⟨q1,q2⟩
    ·rw[if_pos q1]
     rw[q2,q1]at e2
     exact⟨q4e h1 h2' h3' e1 (by rw[ep,en];exact e2) rfl (by omega),t4n h1 h2' h3' e1 (by rw[ep,en];exact e2) rfl (by omega)⟩
    ·rw[if_neg q1]
     rw[q2]at e2
     exact⟨v4d h1 h2' h3' e1 (by rw[ep,en];exact e2) q1,q4k h1 h2' h3' e1 (by rw[ep,en];exact e2) q1⟩
 ·rw[if_pos h1]
  exact⟨s4x h1,t4p h1⟩
theorem app_m {x:List Int}(hx:Wb x)(hx2:x.length≤100000):p3k (.s (r2b x)::l.m)=some ((sApp l x).2.2,.n (sApp l x).2.1::(sApp l x).1.m):=by
 have hk:l.s.K.length≤4096:=hl.h.kl
 have hk3:=hl.k
 have hr4:room l.s≤4096:=by unfold room;omega
 have hlr:=hl.r
 have hrm:IntKind.wrap .i64 ((↑(List.length (strK l.s.K)):Int)-(2:Int))=(room l.s:Int):=by rw[h3j,w64 (by omega) (by omega)];unfold room;omega
 have hsr:(strR l.R).length=l.R.length:=i3f _
 unfold sApp
 by_cases h1:l.b=0
 ·rw[if_neg (by omega)]
  by_cases h2:232<x.length
  ·rw[if_pos h2]
   exact t4t h1 (by rw[i3a];omega)
  ·rw[if_neg h2]
   have h2': ¬(↑(ByteArray.size (r2b x)):Int)>232:=by rw[i3a];omega
   by_cases h3:room l.s≤l.R.length
   ·rw[if_pos h3]
    have h3':(↑(List.length (strR l.R)):Int)≥IntKind.wrap .i64 ((↑(List.length (strK l.s.K)):Int)-(2:Int)):=by rw[hrm,hsr];omega
    exact t4h h1 h2' h3'
   ·rw[if_neg h3]
    have h3': ¬(↑(List.length (strR l.R)):Int)≥IntKind.wrap .i64 ((↑(List.length (strK l.s.K)):Int)-(2:Int)):=by rw[hrm,hsr];omega
    have e1:=m33r (l.f+l.R.length) hx (by omega)
    have e2:=mw hl.h hw (t:=l.t) (f:=l.f) (br:=l.b) (L:=strR l.R) (((2+plc l.s (l.f+l.R.length):Nat):Int)) (p3z (l.f+l.R.length) hx)
    have ep:=hl.place hN (by omega)
    rw[←hrm,←hsr]at ep
    have en:=hl.nx hN
    rw[←hsr]at en
    rcases o3e l.s (((2+plc l.s (l.f+l.R.length):Nat):Int)) (rcB (l.f+l.R.length) x)with⟨q1,q2,q3⟩|⟨q1,q2⟩
    ·rw[if_pos q1]
     rw[q2,q1]at e2
     rw[show(⟨l.t,l.f,0,apL l.R [x],(sPut l.s ((2+plc l.s (l.f+l.R.length):Nat):Int) (rcB (l.f+l.R.length) x)).1⟩:LS).m=[.n l.t,.n l.f,.n 0,.n (sPut l.s ((2+plc l.s (l.f+l.R.length):Nat):Int) (rcB (l.f+l.R.length) x)).1.n,.b (sPut l.s ((2+plc l.s (l.f+l.R.length):Nat):Int) (rcB (l.f+l.R.length) x)).1.A,.n (sPut l.s ((2+plc l.s (l.f+l.R.length):Nat):Int) (rcB (l.f+l.R.length) x)).1.h,.b (sPut l.s ((2+plc l.s (l.f+l.R.length):Nat):Int) (rcB (l.f+l.R.length) x)).1.o,.l TS (strR l.R++[r2b x]),.l TS (strK (sPut l.s ((2+plc l.s (l.f+l.R.length):Nat):Int) (rcB (l.f+l.R.length) x)).1.K),.l TOp (strW (sPut l.s ((2+plc l.s (l.f+l.R.length):Nat):Int) (rcB (l.f+l.R.length) x)).1.W)] by rw[←r3y];rfl]
     exact u4n h1 h2' h3' (by rw[en,hsr];exact e1) (by rw[ep,hsr];exact e2) rfl (by rw[hsr];omega)
    ·rw[if_neg q1]
     rw[q2]at e2
     exact u4s h1 h2' h3' (by rw[en,hsr];exact e1) (by rw[ep,hsr];exact e2) q1
 ·rw[if_pos h1]
  exact v4b h1
end
theorem c66 {R:LBs}(h:R.length≤100000):p3u [.l TBs R]=some (0,[.l TBs R]):=by
 unfold p3u n3u x3r
 simp only[d0b]
 rw[dt (by omega)];rfl
def sTru (l:LS)(k:Int):LS×Int×Nat:=
 if l.b≠0 then(l,l.b,0)else if k<l.f∨k>l.f+l.R.length then(l,2,0)else
  if(sPut l.s ((l.t+1)%2) (hdB (l.t+1) k)).2.1=0 then(⟨l.t+1,k,0,l.R.drop (k-l.f).toNat,(sPut l.s ((l.t+1)%2) (hdB (l.t+1) k)).1⟩,0,1)
  else(⟨l.t,l.f,(sPut l.s ((l.t+1)%2) (hdB (l.t+1) k)).2.1,l.R,(sPut l.s ((l.t+1)%2) (hdB (l.t+1) k)).1⟩,(sPut l.s ((l.t+1)%2) (hdB (l.t+1) k)).2.1,0)
theorem b4d {α:Type}(l:List α)(d:Nat)(hd:d≤l.length):List.take (l.length-d) (List.drop d l)=l.drop d:=List.take_of_length_le (by rw[List.length_drop];omega)
def LS.p3 (l:LS):List Dat:=[.n l.t,.n l.f,.n l.b,.n l.s.n,.b l.s.A,.n l.s.h,.b l.s.o,.l TBk l.s.K,.l TBs l.R,.l TWr l.s.W]
def LS.m4 (l:LS):List Dat:=[.n l.t,.n l.f,.n l.b,.n l.s.n,.b l.s.A,.n l.s.h,.b l.s.o,.l TS (strK l.s.K),.l TS (strR l.R),.l TOp (strW l.s.W)]
def kTr (k:Nat):Nat:=if k=0 then 0 else 3
def kMt (k:Nat):Nat:=if k=0 then 0 else 4
theorem p4l (R:LBs)(d:Nat):strR (R.drop d)=(strR R).drop d:=List.map_drop ..
section
variable {N:Nat} (hN:N≤1000) {l:LS} (hl:LOk N l) (hw:l.s.W.length≤90000)
include hN hl hw
theorem tru_p (k:Int):p3f (.n k::l.p)=some (kTr (sTru l k).2.2,.n (sTru l k).2.1::if(sTru l k).2.2=0 then(sTru l k).1.p else(sTru l k).1.p3):=by
 have h0:=hl.f0
 have h1':=hl.f1
 have ht0:=hl.t0
 have ht1:=hl.t1
 have en:=hl.nx hN
 have hk:l.s.K.length≤4096:=hl.h.kl
 have hr4:room l.s≤4096:=by unfold room;omega
 have hlr:=hl.r
 unfold sTru
 by_cases h1:l.b=0
 ·rw[if_neg (by omega)]
  by_cases h2:k<l.f∨k>l.f+l.R.length
  ·rw[if_pos h2]
   by_cases h3:k<l.f
   ·exact r4n h1 h3
   ·exact s4c h1 h3 (by rw[en];omega)
  ·rw[if_neg h2]
   have h3: ¬k<l.f:=fun q=>h2 (.inl q)
   have h4: ¬k>IntKind.wrap .i64 (l.f+(↑(List.length l.R):Int)):=by rw[en];exact fun q=>h2 (.inr q)
   have h4':k≤l.f+(↑(List.length l.R):Int):=by rw[en]at h4;omega
   have et:IntKind.wrap .i64 (l.t+1)=l.t+1:=w64 (by omega) (by omega)
   have em:Int.tmod (IntKind.wrap .i64 (l.t+1)) 2=(l.t+1)%2:=by rw[et,Int.tmod_eq_emod_of_nonneg (by omega)]
   have e2:=wh hl.h hw (t:=l.t) (f:=l.f) (br:=l.b) (R:=l.R) ((l.t+1)%2) (l.t+1) k
   have e3:=(show(fun(a b:Int)=>p3m [.n a,.n b,.n k,.n l.t,.n l.f,.n l.b,.n l.s.n,.b l.s.A,.n l.s.h,.b l.s.o,.l TBs l.R,.l TBk l.s.K,.l TWr l.s.W]) (Int.tmod (IntKind.wrap .i64 (l.t+1)) 2) (IntKind.wrap .i64 (l.t+1))=(fun(a b:Int)=>p3m [.n a,.n b,.n k,.n l.t,.n l.f,.n l.b,.n l.s.n,.b l.s.A,.n l.s.h,.b l.s.o,.l TBs l.R,.l TBk l.s.K,.l TWr l.s.W]) ((l.t+1)%2) (l.t+1) by rw[em,et]).trans e2
   rcases o3e l.s ((l.t+1)%2) (hdB (l.t+1) k)with⟨q1,q2,q3⟩|⟨q1,q2⟩
   ·rw[if_pos q1]
    rw[q2,q1]at e3
    have ed:IntKind.wrap .i64 (k-l.f)=k-l.f:=w64 (by omega) (by omega)
    have hdl:(k-l.f).toNat≤l.R.length:=by omega
    have e5:(decide ((0:Int)≤IntKind.wrap .i64 (k-l.f))&&decide (IntKind.wrap .i64 (k-l.f)≤(↑(List.length l.R):Int)))=true:=by rw[ed];simp;omega
    have e6:p3u [.l TBs (List.take (Int.toNat (↑(List.length l.R):Int)-Int.toNat (IntKind.wrap .i64 (k-l.f))) (List.drop (Int.toNat (IntKind.wrap .i64 (k-l.f))) l.R))]=some (0,[.l TBs (l.R.drop (k-l.f).toNat)]):=by
     rw[ed,Int.toNat_natCast,b4d l.R _ hdl]
     exact c66 (by rw[List.length_drop];omega)
    have:=r4w h1 h3 h4 e3 rfl e5 e6
    rw[et]at this
    exact this
   ·rw[if_neg q1]
    rw[q2]at e3
    exact q4z h1 h3 h4 e3 q1
 ·rw[if_pos h1]
  exact q4q h1
theorem tru_m (k:Int):p3j (.n k::l.m)=some (kMt (sTru l k).2.2,.n (sTru l k).2.1::if(sTru l k).2.2=0 then(sTru l k).1.m else(sTru l k).1.m4):=by
 have h0:=hl.f0
 have h1':=hl.f1
 have ht0:=hl.t0
 have ht1:=hl.t1
 have en:=hl.nx hN
 have hsr:(strR l.R).length=l.R.length:=i3f _
 rw[←hsr]at en
 have hk:l.s.K.length≤4096:=hl.h.kl
 have hr4:room l.s≤4096:=by unfold room;omega
 have hlr:=hl.r
 unfold sTru
 by_cases h1:l.b=0
 ·rw[if_neg (by omega)]
  by_cases h2:k<l.f∨k>l.f+l.R.length
  ·rw[if_pos h2]
   by_cases h3:k<l.f
   ·exact r4j h1 h3
   ·exact t4k h1 h3 (by rw[en,hsr];omega)
  ·rw[if_neg h2]
   have h3: ¬k<l.f:=fun q=>h2 (.inl q)
   have h4':k≤l.f+(↑(List.length l.R):Int):=by omega
   have h4: ¬k>IntKind.wrap .i64 (l.f+(↑(List.length (strR l.R)):Int)):=by rw[en,hsr];omega
   have et:IntKind.wrap .i64 (l.t+1)=l.t+1:=w64 (by omega) (by omega)
   have em:Int.tmod (IntKind.wrap .i64 (l.t+1)) 2=(l.t+1)%2:=by rw[et,Int.tmod_eq_emod_of_nonneg (by omega)]
   have e1:=m32h (IntKind.wrap .i64 (l.t+1)) k
   have e2:=mw hl.h hw (t:=l.t) (f:=l.f) (br:=l.b) (L:=strR l.R) ((l.t+1)%2) (k3d (l.t+1) k)
   have e3:=(show(fun(a b:Int)=>o3d [.n a,.s (r2b (hdB b k)),.n l.t,.n l.f,.n l.b,.n l.s.n,.b l.s.A,.n l.s.h,.b l.s.o,.l TS (strR l.R),.l TS (strK l.s.K),.l TOp (strW l.s.W)]) (Int.tmod (IntKind.wrap .i64 (l.t+1)) 2) (IntKind.wrap .i64 (l.t+1))=(fun(a b:Int)=>o3d [.n a,.s (r2b (hdB b k)),.n l.t,.n l.f,.n l.b,.n l.s.n,.b l.s.A,.n l.s.h,.b l.s.o,.l TS (strR l.R),.l TS (strK l.s.K),.l TOp (strW l.s.W)]) ((l.t+1)%2) (l.t+1) by rw[em,et]).trans e2
   rcases o3e l.s ((l.t+1)%2) (hdB (l.t+1) k)with⟨q1,q2,q3⟩|⟨q1,q2⟩
   ·rw[if_pos q1]
    rw[q2,q1]at e3
    have ed:IntKind.wrap .i64 (k-l.f)=k-l.f:=w64 (by omega) (by omega)
    have hdl:(k-l.f).toNat≤(strR l.R).length:=by omega
    have e5:(decide ((0:Int)≤IntKind.wrap .i64 (k-l.f))&&decide (IntKind.wrap .i64 (k-l.f)≤(↑(List.length (strR l.R)):Int)))=true:=by rw[ed];simp;omega
    have e7:List.take (Int.toNat (↑(List.length (strR l.R)):Int)-Int.toNat (IntKind.wrap .i64 (k-l.f))) (List.drop (Int.toNat (IntKind.wrap .i64 (k-l.f))) (strR l.R))=strR (l.R.drop (k-l.f).toNat):=by
     rw[ed,Int.toNat_natCast,b4d (strR l.R) _ hdl,p4l]
    have:=v4g h1 h3 h4 e1 e3 rfl e5 (by rw[e7,i3f,List.length_drop];omega)
    rw[et,e7]at this
    exact this
   ·rw[if_neg q1]
    rw[q2]at e3
    exact t4m h1 h3 h4 e1 e3 q1
 ·rw[if_pos h1]
  exact t4q h1
theorem rec_p (k:Int):o3t (.n k::l.p)=some (if l.f≤k∧k<l.f+l.R.length then(1,.b true::l.p++[.l TB (l.R.getD (k-l.f).toNat (Ty.dflt TBs))])else(0,.b false::l.p)):=by
 have h0:=hl.f0
 have h1':=hl.f1
 have en:=hl.nx hN
 have hlr:=hl.r
 have hk:l.s.K.length≤4096:=hl.h.kl
 have hr4:room l.s≤4096:=by unfold room;omega
 by_cases h1:k<l.f
 ·rw[if_neg (by omega)];exact u4j h1
 ·by_cases h2:k≥l.f+l.R.length
  ·rw[if_neg (by omega)];exact s4n h1 (by rw[en];exact h2)
  ·rw[if_pos (by omega)]
   have ed:IntKind.wrap .i64 (k-l.f)=k-l.f:=w64 (by omega) (by omega)
   have hm:l.R.getD (k-l.f).toNat (Ty.dflt TBs)∈l.R:=h3g (by omega)
   have e3:i2m [.l TB (l.R.getD (k-l.f).toNat (Ty.dflt TBs))]=some (0,[.l TB (l.R.getD (k-l.f).toNat (Ty.dflt TBs))]):=t31 (by have:=(hl.w _ hm).2;omega)
   have:=s4k (n0:=k) (n1:=l.t) (n2:=l.f) (n3:=l.b) (n4:=l.s.n) (b5:=l.s.A) (n6:=l.s.h) (b7:=l.s.o) (l8:=l.R) (l9:=l.s.K) (l10:=l.s.W) h1 (by rw[en];exact h2) (by rw[ed];exact s2t (by omega) (by omega)) (by rw[ed];exact e3)
   exact this
end
def r3m:List Int:=List.replicate 256 0
theorem p4v:Wb r3m:=wb_rep 256
def hd0 (b:List Int):Int×Int:=(tH b).getD (0,0)
def hSel (s:DS):Int×Int:=if(hd0 (bkOf s 1)).1>(hd0 (bkOf s 0)).1 then hd0 (bkOf s 1)else hd0 (bkOf s 0)
def allZ (s:DS):Bool:=decide (bkOf s 0=r3m)&&decide (bkOf s 1=r3m)
theorem f4o (b:List Int):(hd0 b=(0,0))∨rtn (hd0 b).1∧rtn (hd0 b).2:=by
 unfold hd0
 cases h:tH b with
 |none=>exact .inl rfl
 |some x=>have:=tH_eq h;exact .inr ⟨this.1,this.2.1⟩
theorem x3h (s:DS):(hSel s=(0,0))∨rtn (hSel s).1∧rtn (hSel s).2:=by
 unfold hSel;split<;>exact f4o _
section
variable {s:DS} (hs:DH s) (hw:s.W.length≤90000) (ho:s.o=false) (hk:3≤s.K.length)
include hs hw ho hk
theorem rd_p {i:Nat}(hi:i<s.K.length):i3b [.n (i:Int),.n s.n,.b s.A,.n s.h,.b s.o,.l TBk s.K,.l TWr s.W]=some (1,[.n 0,.n s.n,.b s.A,.n s.h,.b s.o,.l TBk s.K,.l TWr s.W,.l TB (bkOf s i)]):=by
 have e:=d20 s (by omega) (i:Int)
 rw[(h3t hs ho hi).1]at e
 exact e
theorem rd_m {i:Nat}(hi:i<s.K.length):h3d [.n (i:Int),.n s.n,.b s.A,.n s.h,.b s.o,.l TS (strK s.K),.l TOp (strW s.W)]=some (0,[.s (r2b (bkOf s i)),.n 0,.n s.n,.b s.A,.n s.h,.b s.o,.l TS (strK s.K),.l TOp (strW s.W)]):=by
 have e:=m29 s (by omega) (i:Int)
 rw[(h3t hs ho hi).1]at e
 exact e
theorem z3v (i:Nat)(hi:i<2)(e:Bool)(t f br:Int)(ht:0≤t):(i3e [.k 0,.b e,.n (i:Int),.n t,.n f,.n br,.n s.n,.b s.A,.n s.h,.b s.o,.l TBk s.K,.l TWr s.W]).sel=some (Step.go [.k 0,.b (e&&decide (bkOf s i=r3m)),.n ((i+1:Nat):Int),.n (if(hd0 (bkOf s i)).1>t then hd0 (bkOf s i)else(t,f)).1,.n (if(hd0 (bkOf s i)).1>t then hd0 (bkOf s i)else(t,f)).2,.n br,.n s.n,.b s.A,.n s.h,.b s.o,.l TBk s.K,.l TWr s.W]):=by
 have hi':i<s.K.length:=by omega
 obtain⟨_,hb,hl⟩:=h3t hs ho hi'
 have h1:=rd_p hs hw ho hk hi'
 have et:=told hb hl
 have ee:=e70 hb p4v
 have ew:IntKind.wrap .i64 ((i:Int)+1)=((i+1:Nat):Int):=w1n i (by omega)
 rw[←ew]
 have g0:0≤(i:Int):=by omega
 have g1:(i:Int)<2:=by omega
 unfold hd0
 cases hH:tH (bkOf s i)with
 |some x=>
  rw[show i3s (bkOf s i)=(1,[.n x.1,.n x.2,.l TB (bkOf s i)]) by unfold i3s;rw[hH]]at et
  show _=some (Step.go [.k 0,.b (e&&decide (bkOf s i=r3m)),.n (IntKind.wrap .i64 ((i:Int)+1)),.n (if x.1>t then x else(t,f)).1,.n (if x.1>t then x else(t,f)).2,.n br,.n s.n,.b s.A,.n s.h,.b s.o,.l TBk s.K,.l TWr s.W])
  by_cases q:x.1>t
  ·rw[if_pos q]
   cases e with
   |true=>exact d4w g0 g1 h1 rfl ee et q
   |false=>exact e4i g0 g1 h1 rfl et q
  ·rw[if_neg q]
   cases e with
   |true=>exact c4u g0 g1 h1 rfl ee et q
   |false=>exact c4p g0 g1 h1 rfl et q
 |none=>
  show _=some (Step.go [.k 0,.b (e&&decide (bkOf s i=r3m)),.n (IntKind.wrap .i64 ((i:Int)+1)),.n (if(0:Int)>t then((0:Int),(0:Int))else(t,f)).1,.n (if(0:Int)>t then((0:Int),(0:Int))else(t,f)).2,.n br,.n s.n,.b s.A,.n s.h,.b s.o,.l TBk s.K,.l TWr s.W])
  rw[if_neg (by omega)]
  cases hR:tR (bkOf s i)with
  |none=>
   rw[show i3s (bkOf s i)=(0,[.l TB (bkOf s i)]) by unfold i3s;rw[hH,hR]]at et
   cases e with
   |true=>exact c4a g0 g1 h1 rfl ee et
   |false=>exact b4t g0 g1 h1 rfl et
  |some y=>
   rw[show i3s (bkOf s i)=(2,[.n y.1,.l TB (bkOf s i),.l TB y.2]) by unfold i3s;rw[hH,hR]]at et
   cases e with
   |true=>exact c4e g0 g1 h1 rfl ee et
   |false=>exact b4z g0 g1 h1 rfl et
theorem x3l (b:List Int):0≤(hd0 b).1:=by
 rcases f4o b with h|h
 ·rw[h];exact Int.le_refl _
 ·have:=h.1.1;omega
theorem fh_3 (br:Int):l3d [.k 0,.b true,.n 0,.n 0,.n 0,.n br,.n s.n,.b s.A,.n s.h,.b s.o,.l TBk s.K,.l TWr s.W]=some (0,[.b (allZ s),.n (hSel s).1,.n (hSel s).2,.n br,.n s.n,.b s.A,.n s.h,.b s.o,.l TBk s.K,.l TWr s.W]):=by
 have hp0:=x3l hs hw ho hk (bkOf s 0)
 have e0:(if(hd0 (bkOf s 0)).1>0 then hd0 (bkOf s 0)else((0:Int),(0:Int)))=hd0 (bkOf s 0):=by
  split
  ·rfl
  ·rename_i q
   rcases f4o (bkOf s 0)with h|h
   ·exact h.symm
   ·have:=h.1.1;omega
 have r0:=z3v hs hw ho hk 0 (by decide) true 0 0 br (Int.le_refl _)
 rw[e0]at r0
 have r1:=z3v hs hw ho hk 1 (by decide) (true&&decide (bkOf s 0=r3m)) (hd0 (bkOf s 0)).1 (hd0 (bkOf s 0)).2 br hp0
 rw[b4j]
 show a0b i3e (18446744073709551613+1+1+1) _=_
 refine(v0e r0).trans ((v0e r1).trans ((c0a (c4v (by decide) (by decide))).trans ?_))
 rfl
omit hs hw ho hk in
theorem l4s {p:Nat}{x:Int×List Int}(h:tR (bkOf s (2+p))=some x):x.1≤(fndN s (p+1)).2:=by
 rw[k3f h]
 show _≤imax (fndN s p).2 x.1
 unfold imax;split<;>omega
omit hs hw ho hk in
theorem fndN_up (p:Nat):(fndN s p).2≤(fndN s (p+1)).2:=by
 cases h:tR (bkOf s (2+p))with
 |none=>rw[l3l h];exact Int.le_refl _
 |some x=>rw[k3f h];show _≤imax (fndN s p).2 x.1;unfold imax;split<;>omega
omit hs hw ho hk in
theorem u3n (s:DS){p q:Nat}(h:p≤q):(fndN s p).2≤(fndN s q).2:=by
  induction q with
  |zero=>have:p=0:=by omega
         subst this;exact Int.le_refl _
  |succ q ih=>
   by_cases e:p=q+1
   · subst e;exact Int.le_refl _
   · exact Int.le_trans (ih (by omega)) (fndN_up q)
omit hw ho in
theorem rm_m:IntKind.wrap .i64 ((↑(List.length (strK s.K)):Int)-(2:Int))=(room s:Int):=by
 have hK:s.K.length≤4096:=hs.kl
 rw[h3j,w64 (by omega) (by omega)];unfold room;omega
theorem o4p {t f br:Int}(hf:1≤f)(hf2:f≤4611686018427387904): ∀(n:Nat) (R:LBs) (fuel:Nat),n+R.length=room s→n<fuel→a0b i3g fuel [.k 0,.n s.n,.b s.A,.n s.h,.b s.o,.l TS (strK s.K),.l TOp (strW s.W),.n t,.n f,.n br,.l TS (strR R)]=some (0,[.n s.n,.b s.A,.n s.h,.b s.o,.l TS (strK s.K),.l TOp (strW s.W),.n t,.n f,.n br,.l TS (strR (recN s f n R))])
 |_,_,0,_,h=>by omega
 |0,R,fuel+1,h,_=>by
  refine c0a (u3r ?_)
  rw[rm_m hs hk,i3f];omega
 |n+1,R,fuel+1,h,hu=>by
  have hK:s.K.length≤4096:=hs.kl
  have hrm:room s≤4096:=by unfold room;omega
  have hR:(strR R).length=R.length:=i3f R
  have e1:IntKind.wrap .i64 (f+(↑(List.length (strR R)):Int))=f+(↑(List.length R):Int):=by rw[hR];exact w64 (by omega) (by omega)
  have e2:IntKind.wrap .i64 (f+(↑(List.length R):Int)-1)=f+(↑(List.length R):Int)-1:=w64 (by omega) (by omega)
  have hm:=rm_m hs hk
  have hpl:=z3l (s:=s) (by omega) (f+R.length)
  have hlt:2+plc s (f+R.length)<s.K.length:=by unfold room at hpl;omega
  have e3:IntKind.wrap .i64 ((2:Int)+Int.tmod (IntKind.wrap .i64 (IntKind.wrap .i64 (f+(↑(List.length (strR R)):Int))-(1:Int))) (IntKind.wrap .i64 ((↑(List.length (strK s.K)):Int)-(2:Int))))=((2+plc s (f+R.length):Nat):Int):=by
   rw[e1,e2,hm,k4g (by omega) (by omega),w64 (by omega) (by omega)];omega
  have g0:(↑(List.length (strR R)):Int)<IntKind.wrap .i64 ((↑(List.length (strK s.K)):Int)-(2:Int)):=by rw[hm,hR];omega
  have g1:=rd_m hs hw ho hk hlt
  rw[←e3]at g1
  obtain⟨_,hb,hl⟩:=h3t hs ho hlt
  have g2:=m47 hb hl
  cases hx:tR (bkOf s (2+plc s (f+R.length)))with
  |none=>
   rw[hx]at g2
   rw[i3u fun x h1=>by rw[hx]at h1;cases h1]
   exact c0a (p3d g0 g1 g2 (by rw[e1];omega))
  |some x=>
   rw[hx]at g2
   by_cases q:x.1=f+R.length
   ·rw[o3p hx q]
    have:=w3a (n6:=t) (n8:=br) g0 g1 g2 (by rw[e1];exact q) (by rw[hR];omega)
    rw[v0e this,←r3y]
    exact o4p hf hf2 n (apL R [x.2]) fuel (by have:List.length (apL R [x.2])=List.length R+1:=apL1 R x.2;omega) (by omega)
   ·rw[i3u fun y h1 h2=>by rw[hx]at h1;cases h1;exact q h2]
    exact c0a (p3d g0 g1 g2 (by rw[e1];exact q))
theorem mo_23_0 {t f br:Int}(hf:1≤f)(hf2:f≤4611686018427387904):i3p [.k 0,.n s.n,.b s.A,.n s.h,.b s.o,.l TS (strK s.K),.l TOp (strW s.W),.n t,.n f,.n br,.l TS []]=some (0,[.n s.n,.b s.A,.n s.h,.b s.o,.l TS (strK s.K),.l TOp (strW s.W),.n t,.n f,.n br,.l TS (strR (recS s f))]):=by
 have hK:s.K.length≤4096:=hs.kl
 rw[n3z]
 exact o4p hs hw ho hk hf hf2 (room s) [] FU rfl (b1w (by unfold room;omega))
theorem m4s {t f br:Int}(hf:1≤f)(hf2:f≤4611686018427387904): ∀(n:Nat) (R:LBs) (fuel:Nat),n+R.length=room s→n<fuel→a0b i3g fuel [.k 1,.n s.n,.b s.A,.n s.h,.b s.o,.l TS (strK s.K),.n t,.n f,.n br,.l TOp (strW s.W),.l TS (strR R)]=some (1,[.n s.n,.b s.A,.n s.h,.b s.o,.l TS (strK s.K),.n t,.n f,.n br,.l TOp (strW s.W),.l TS (strR (recN s f n R))])
 |_,_,0,_,h=>by omega
 |0,R,fuel+1,h,_=>by
  refine c0a (x3y ?_)
  rw[rm_m hs hk,i3f];omega
 |n+1,R,fuel+1,h,hu=>by
  have hK:s.K.length≤4096:=hs.kl
  have hrm:room s≤4096:=by unfold room;omega
  have hR:(strR R).length=R.length:=i3f R
  have e1:IntKind.wrap .i64 (f+(↑(List.length (strR R)):Int))=f+(↑(List.length R):Int):=by rw[hR];exact w64 (by omega) (by omega)
  have e2:IntKind.wrap .i64 (f+(↑(List.length R):Int)-1)=f+(↑(List.length R):Int)-1:=w64 (by omega) (by omega)
  have hm:=rm_m hs hk
  have hpl:=z3l (s:=s) (by omega) (f+R.length)
  have hlt:2+plc s (f+R.length)<s.K.length:=by unfold room at hpl;omega
  have e3:IntKind.wrap .i64 ((2:Int)+Int.tmod (IntKind.wrap .i64 (IntKind.wrap .i64 (f+(↑(List.length (strR R)):Int))-(1:Int))) (IntKind.wrap .i64 ((↑(List.length (strK s.K)):Int)-(2:Int))))=((2+plc s (f+R.length):Nat):Int):=by
   rw[e1,e2,hm,k4g (by omega) (by omega),w64 (by omega) (by omega)];omega
  have g0:(↑(List.length (strR R)):Int)<IntKind.wrap .i64 ((↑(List.length (strK s.K)):Int)-(2:Int)):=by rw[hm,hR];omega
  have g1:=rd_m hs hw ho hk hlt
  rw[←e3]at g1
  obtain⟨_,hb,hl⟩:=h3t hs ho hlt
  have g2:=m47 hb hl
  cases hx:tR (bkOf s (2+plc s (f+R.length)))with
  |none=>
   rw[hx]at g2
   rw[i3u fun x h1=>by rw[hx]at h1;cases h1]
   exact c0a (n3n g0 g1 g2 (by rw[e1];omega))
  |some x=>
   rw[hx]at g2
   by_cases q:x.1=f+R.length
   ·rw[o3p hx q]
    have:=y3l (n5:=t) (n7:=br) g0 g1 g2 (by rw[e1];exact q) (by rw[hR];omega)
    rw[v0e this,←r3y]
    exact m4s hf hf2 n (apL R [x.2]) fuel (by have:List.length (apL R [x.2])=List.length R+1:=apL1 R x.2;omega) (by omega)
   ·rw[i3u fun y h1 h2=>by rw[hx]at h1;cases h1;exact q h2]
    exact c0a (n3n g0 g1 g2 (by rw[e1];exact q))
theorem mo_23_1 {t f br:Int}(hf:1≤f)(hf2:f≤4611686018427387904):i3p [.k 1,.n s.n,.b s.A,.n s.h,.b s.o,.l TS (strK s.K),.n t,.n f,.n br,.l TOp (strW s.W),.l TS []]=some (1,[.n s.n,.b s.A,.n s.h,.b s.o,.l TS (strK s.K),.n t,.n f,.n br,.l TOp (strW s.W),.l TS (strR (recS s f))]):=by
 have hK:s.K.length≤4096:=hs.kl
 rw[n3z]
 exact m4s hs hw ho hk hf hf2 (room s) [] FU rfl (b1w (by unfold room;omega))
theorem f4j {t f br:Int}{R:LBs}(hf:1≤f)(hf2:f≤4611686018427387904)(hR:R.length≤room s): ∀(n p:Nat) (fuel:Nat),n+p=room s→n<fuel→(fndN s p).2≤f+R.length→a0b h3w fuel [.k 0,.n ((2+p:Nat):Int),.n s.n,.b s.A,.n s.h,.b s.o,.l TS (strK s.K),.l TOp (strW s.W),.n t,.n f,.n br,.l TS (strR R)]=if k3r s>f+R.length then some (2,[.n 151,.n s.n,.b s.A,.n s.h,.b s.o,.l TS (strK s.K),.l TOp (strW s.W)])else some (0,[.n s.n,.b s.A,.n s.h,.b s.o,.l TS (strK s.K),.l TOp (strW s.W),.n t,.n f,.n br,.l TS (strR R)])
 |_,_,0,_,h,_=>by omega
 |0,p,fuel+1,h,_,hle=>by
  have hK:s.K.length≤4096:=hs.kl
  have:p=room s:=by omega
  subst this
  rw[if_neg (by unfold k3r;omega)]
  exact c0a (w3j (by omega) (by rw[h3j];unfold room;omega))
 |n+1,p,fuel+1,h,hu,hle=>by
  have hK:s.K.length≤4096:=hs.kl
  have hrm:room s≤4096:=by unfold room;omega
  have hlt:2+p<s.K.length:=by unfold room at h;omega
  have g1:=rd_m hs hw ho hk hlt
  obtain⟨_,hb,hl⟩:=h3t hs ho hlt
  have g2:=m47 hb hl
  have e1:IntKind.wrap .i64 (f+(↑(List.length (strR R)):Int))=f+(↑(List.length R):Int):=by rw[i3f];exact w64 (by omega) (by omega)
  have ew:IntKind.wrap .i64 (((2+p:Nat):Int)+1)=((2+(p+1):Nat):Int):=w1n (2+p) (by omega)
  have go: ∀(k:Int) (z:ByteArray),i3l [.s (r2b (bkOf s (2+p)))]=some (0,[.n k,.s z])→ ¬k>f+R.length→(fndN s (p+1)).2≤f+R.length→a0b h3w (fuel+1) [.k 0,.n ((2+p:Nat):Int),.n s.n,.b s.A,.n s.h,.b s.o,.l TS (strK s.K),.l TOp (strW s.W),.n t,.n f,.n br,.l TS (strR R)]=if k3r s>f+R.length then some (2,[.n 151,.n s.n,.b s.A,.n s.h,.b s.o,.l TS (strK s.K),.l TOp (strW s.W)])else some (0,[.n s.n,.b s.A,.n s.h,.b s.o,.l TS (strK s.K),.l TOp (strW s.W),.n t,.n f,.n br,.l TS (strR R)]):=by
   intro k z e hk2 hle2
   have:=u3w (n7:=t) (n9:=br) (by omega) (by rw[h3j];omega) g1 e (by rw[e1];exact hk2)
   rw[v0e this,ew]
   exact f4j hf hf2 hR n (p+1) fuel (by omega) (by omega) hle2
  cases hx:tR (bkOf s (2+p))with
  |none=>
   rw[hx]at g2
   exact go _ _ g2 (by omega) (by rw[l3l hx];exact hle)
  |some x=>
   rw[hx]at g2
   by_cases q:x.1>f+R.length
   ·have hlast:k3r s>f+R.length:=by
     have h1:=l4s hx
     have h2:=u3n s (show p+1≤room s by omega)
     unfold k3r;omega
    rw[if_pos hlast]
    exact c0a (v3z (by omega) (by rw[h3j];omega) g1 g2 (by rw[e1];exact q))
   ·refine go _ _ g2 q ?_
    rw[k3f hx]
    show imax (fndN s p).2 x.1≤_
    unfold imax;split<;>omega
theorem mo_29_0 {t f br:Int}{R:LBs}(hf:1≤f)(hf2:f≤4611686018427387904)(hR:R.length≤room s):i3o [.k 0,.n 2,.n s.n,.b s.A,.n s.h,.b s.o,.l TS (strK s.K),.l TOp (strW s.W),.n t,.n f,.n br,.l TS (strR R)]=if k3r s>f+R.length then some (2,[.n 151,.n s.n,.b s.A,.n s.h,.b s.o,.l TS (strK s.K),.l TOp (strW s.W)])else some (0,[.n s.n,.b s.A,.n s.h,.b s.o,.l TS (strK s.K),.l TOp (strW s.W),.n t,.n f,.n br,.l TS (strR R)]):=by
 have hK:s.K.length≤4096:=hs.kl
 rw[o3s]
 exact f4j hs hw ho hk hf hf2 hR (room s) 0 FU rfl (b1w (by unfold room;omega)) (by show(0:Int)≤_;omega)
theorem g4a {t f br:Int}{R:LBs}(hf:1≤f)(hf2:f≤4611686018427387904)(hR:R.length≤room s): ∀(n p:Nat) (fuel:Nat),n+p=room s→n<fuel→(fndN s p).2≤f+R.length→a0b h3w fuel [.k 1,.n ((2+p:Nat):Int),.n s.n,.b s.A,.n s.h,.b s.o,.l TS (strK s.K),.n t,.n f,.n br,.l TOp (strW s.W),.l TS (strR R)]=if k3r s>f+R.length then some (3,[.n 151,.n s.n,.b s.A,.n s.h,.b s.o,.l TS (strK s.K),.l TOp (strW s.W)])else some (1,[.n s.n,.b s.A,.n s.h,.b s.o,.l TS (strK s.K),.n t,.n f,.n br,.l TOp (strW s.W),.l TS (strR R)])
 |_,_,0,_,h,_=>by omega
 |0,p,fuel+1,h,_,hle=>by
  have hK:s.K.length≤4096:=hs.kl
  have:p=room s:=by omega
  subst this
  rw[if_neg (by unfold k3r;omega)]
  exact c0a (w3i (by omega) (by rw[h3j];unfold room;omega))
 |n+1,p,fuel+1,h,hu,hle=>by
  have hK:s.K.length≤4096:=hs.kl
  have hrm:room s≤4096:=by unfold room;omega
  have hlt:2+p<s.K.length:=by unfold room at h;omega
  have g1:=rd_m hs hw ho hk hlt
  obtain⟨_,hb,hl⟩:=h3t hs ho hlt
  have g2:=m47 hb hl
  have e1:IntKind.wrap .i64 (f+(↑(List.length (strR R)):Int))=f+(↑(List.length R):Int):=by rw[i3f];exact w64 (by omega) (by omega)
  have ew:IntKind.wrap .i64 (((2+p:Nat):Int)+1)=((2+(p+1):Nat):Int):=w1n (2+p) (by omega)
  have go: ∀(k:Int) (z:ByteArray),i3l [.s (r2b (bkOf s (2+p)))]=some (0,[.n k,.s z])→ ¬k>f+R.length→(fndN s (p+1)).2≤f+R.length→a0b h3w (fuel+1) [.k 1,.n ((2+p:Nat):Int),.n s.n,.b s.A,.n s.h,.b s.o,.l TS (strK s.K),.n t,.n f,.n br,.l TOp (strW s.W),.l TS (strR R)]=if k3r s>f+R.length then some (3,[.n 151,.n s.n,.b s.A,.n s.h,.b s.o,.l TS (strK s.K),.l TOp (strW s.W)])else some (1,[.n s.n,.b s.A,.n s.h,.b s.o,.l TS (strK s.K),.n t,.n f,.n br,.l TOp (strW s.W),.l TS (strR R)]):=by
   intro k z e hk2 hle2
   have:=u3q (n6:=t) (n8:=br) (by omega) (by rw[h3j];omega) g1 e (by rw[e1];exact hk2)
   rw[v0e this,ew]
   exact g4a hf hf2 hR n (p+1) fuel (by omega) (by omega) hle2
  cases hx:tR (bkOf s (2+p))with
  |none=>
   rw[hx]at g2
   exact go _ _ g2 (by omega) (by rw[l3l hx];exact hle)
  |some x=>
   rw[hx]at g2
   by_cases q:x.1>f+R.length
   ·have hlast:k3r s>f+R.length:=by
     have h1:=l4s hx
     have h2:=u3n s (show p+1≤room s by omega)
     unfold k3r;omega
    rw[if_pos hlast]
    exact c0a (x3d (by omega) (by rw[h3j];omega) g1 g2 (by rw[e1];exact q))
   ·refine go _ _ g2 q ?_
    rw[k3f hx]
    show imax (fndN s p).2 x.1≤_
    unfold imax;split<;>omega
theorem mo_29_1 {t f br:Int}{R:LBs}(hf:1≤f)(hf2:f≤4611686018427387904)(hR:R.length≤room s):i3o [.k 1,.n 2,.n s.n,.b s.A,.n s.h,.b s.o,.l TS (strK s.K),.n t,.n f,.n br,.l TOp (strW s.W),.l TS (strR R)]=if k3r s>f+R.length then some (3,[.n 151,.n s.n,.b s.A,.n s.h,.b s.o,.l TS (strK s.K),.l TOp (strW s.W)])else some (1,[.n s.n,.b s.A,.n s.h,.b s.o,.l TS (strK s.K),.n t,.n f,.n br,.l TOp (strW s.W),.l TS (strR R)]):=by
 have hK:s.K.length≤4096:=hs.kl
 rw[o3s]
 exact g4a hs hw ho hk hf hf2 hR (room s) 0 FU rfl (b1w (by unfold room;omega)) (by show(0:Int)≤_;omega)
end
def e4e (s:DS):LS:=⟨0,0,0,[],s⟩
def t1c (s:DS):Nat×Int×LS:=
 if s.K.length<3 then(0,2,e4e s)else if s.o=true then(0,140,e4e s)else
 if(hSel s).1>0 then(if frE s (hSel s).2≠0 then(0,151,e4e s)else(2,0,⟨(hSel s).1,(hSel s).2,0,recS s (hSel s).2,s⟩))else
 if allZ s=false then(0,151,e4e s)else
 if(sPut s 1 (hdB 1 1)).2.1≠0 then(0,(sPut s 1 (hdB 1 1)).2.1,e4e (sPut s 1 (hdB 1 1)).1)else
 if frE (sPut s 1 (hdB 1 1)).1 1≠0 then(1,151,e4e (sPut s 1 (hdB 1 1)).1)else(3,0,⟨1,1,0,recS (sPut s 1 (hdB 1 1)).1 1,(sPut s 1 (hdB 1 1)).1⟩)
def LS.w0 (l:LS)(e:Int):List Dat:=[.n e,.n l.s.n,.b l.s.A,.n l.s.h,.b l.s.o,.l TBk l.s.K,.l TWr l.s.W]
def LS.w2 (l:LS):List Dat:=[.n 0,.n l.s.n,.b l.s.A,.n l.s.h,.b l.s.o,.l TBk l.s.K,.l TWr l.s.W,.n l.t,.n l.f,.n l.b,.l TBs l.R]
def LS.w3 (l:LS):List Dat:=[.n 0,.n l.s.n,.b l.s.A,.n l.s.h,.b l.s.o,.l TBk l.s.K,.n l.t,.n l.f,.n l.b,.l TWr l.s.W,.l TBs l.R]
def LS.o0 (l:LS)(e:Int):List Dat:=[.n e,.n l.s.n,.b l.s.A,.n l.s.h,.b l.s.o,.l TS (strK l.s.K),.l TOp (strW l.s.W)]
def LS.o2 (l:LS):List Dat:=[.n 0,.n l.s.n,.b l.s.A,.n l.s.h,.b l.s.o,.l TS (strK l.s.K),.l TOp (strW l.s.W),.n l.t,.n l.f,.n l.b,.l TS (strR l.R)]
def LS.o3 (l:LS):List Dat:=[.n 0,.n l.s.n,.b l.s.A,.n l.s.h,.b l.s.o,.l TS (strK l.s.K),.n l.t,.n l.f,.n l.b,.l TOp (strW l.s.W),.l TS (strR l.R)]
def wOut (z:Nat×Int×LS):Nat×List Dat:=(z.1,if z.1<2 then z.2.2.w0 z.2.1 else if z.1=2 then z.2.2.w2 else z.2.2.w3)
def mOut (z:Nat×Int×LS):Nat×List Dat:=(z.1,if z.1<2 then z.2.2.o0 z.2.1 else if z.1=2 then z.2.2.o2 else z.2.2.o3)
theorem p3w {s:DS}{f:Int}:frE s f≠0↔k3r s>f+(recS s f).length:=by
 unfold frE;split<;>simp_all
theorem frE_is {s:DS}{f:Int}(h:frE s f≠0):frE s f=151:=by
 unfold frE at h⊢;split<;>simp_all
theorem fr_q {s:DS}(hs:DH s)(hw:s.W.length≤90000){t f:Int}(ho:s.o=false)(hf:1≤f)(hf2:f≤4611686018427387904):s3y [.n t,.n f,.n 0,.n s.n,.b s.A,.n s.h,.b s.o,.l TBk s.K,.l TWr s.W]=some (0,[.n (frE s f),.n t,.n f,.n 0,.n s.n,.b s.A,.n s.h,.b s.o,.l TBk s.K,.l TWr s.W,.l TBs (recS s f)]):=
 s4t (q:=⟨t,f,0,s⟩) ⟨hs,ho,by show s.W.length≤100000;omega,hf,hf2⟩
section
variable {s:DS} (hs:DH s) (hw:s.W.length≤80000)
include hs hw
theorem fh_a (ho:s.o=false)(hk:3≤s.K.length)(h:(hSel s).1>0):k3q [.n 0,.n 0,.n 0,.n s.n,.b s.A,.n s.h,.b s.o,.l TBk s.K,.l TWr s.W]=some (0,[.n 0,.n (hSel s).1,.n (hSel s).2,.n 0,.n s.n,.b s.A,.n s.h,.b s.o,.l TBk s.K,.l TWr s.W]):=
 u4d rfl (fh_3 hs (by omega) ho hk 0) h
theorem fh_b (ho:s.o=false)(hk:3≤s.K.length)(h: ¬(hSel s).1>0)(hz:allZ s=false):k3q [.n 0,.n 0,.n 0,.n s.n,.b s.A,.n s.h,.b s.o,.l TBk s.K,.l TWr s.W]=some (0,[.n 151,.n (hSel s).1,.n (hSel s).2,.n 0,.n s.n,.b s.A,.n s.h,.b s.o,.l TBk s.K,.l TWr s.W]):=
 q4s rfl (fh_3 hs (by omega) ho hk 0) h hz
theorem fh_c (ho:s.o=false)(hk:3≤s.K.length)(h: ¬(hSel s).1>0)(hz:allZ s=true):k3q [.n 0,.n 0,.n 0,.n s.n,.b s.A,.n s.h,.b s.o,.l TBk s.K,.l TWr s.W]=some ((sPut s 1 (hdB 1 1)).2.2,[.n (sPut s 1 (hdB 1 1)).2.1,.n 1,.n 1,.n (sPut s 1 (hdB 1 1)).2.1,.n (sPut s 1 (hdB 1 1)).1.n,.b (sPut s 1 (hdB 1 1)).1.A,.n (sPut s 1 (hdB 1 1)).1.h,.b (sPut s 1 (hdB 1 1)).1.o,.l TBk (sPut s 1 (hdB 1 1)).1.K,.l TWr (sPut s 1 (hdB 1 1)).1.W]):=by
 have e:=fh_3 hs (by omega) ho hk 0
 exact h4t hs (by omega) (P:=fun e n A h o K W k=>k3q [.n 0,.n 0,.n 0,.n s.n,.b s.A,.n s.h,.b s.o,.l TBk s.K,.l TWr s.W]=some (k,[.n e,.n 1,.n 1,.n e,.n n,.b A,.n h,.b o,.l TBk K,.l TWr W])) (i:=1) (k3d 1 1)
  (fun _ _ _ _ _ _ _ _ _ _ _ _ _ _ h1 h2=>u4e rfl e h hz (bh 1 1) h1 rfl h2) (fun _ _ _ _ _ _ _ _ _ _ _ _ _ _ h1 h2=>v4e rfl e h hz (bh 1 1) h1 rfl h2) (fun _ _ _ _ _ _ _ _ h1 h2=>r4z rfl e h hz (bh 1 1) h1 h2)
theorem i4f:h3i [.n s.n,.b s.A,.n s.h,.b s.o,.l TBk s.K,.l TWr s.W]=some (wOut (t1c s)):=by
 unfold t1c
 by_cases hk:s.K.length<3
 ·rw[if_pos hk];exact t4s (by omega)
 rw[if_neg hk]
 have hk': ¬(↑(List.length s.K):Int)<3:=by omega
 by_cases ho:s.o=true
 ·rw[if_pos ho];exact q4a hk' ho
 rw[if_neg ho]
 have ho':s.o=false:=by simpa using ho
 by_cases h1:(hSel s).1>0
 ·rw[if_pos h1]
  have e1:=fh_a hs hw ho' (by omega) h1
  have hr:=(x3h s).resolve_left fun q=>by rw[q]at h1;exact absurd h1 (by decide)
  have e2:=fr_q hs (by omega) (t:=(hSel s).1) ho' hr.2.1 hr.2.2
  by_cases h2:frE s (hSel s).2≠0
  ·rw[if_pos h2]
   have:=p4x hk' ho' e1 rfl e2 h2
   rw[frE_is h2]at this
   exact this
  ·rw[if_neg h2]
   exact q4n hk' ho' e1 rfl e2 (by simpa using h2)
 rw[if_neg h1]
 cases hz:allZ s with
 |false=>
  rw[if_pos rfl]
  exact a4l hk' ho' (fh_b hs hw ho' (by omega) h1 hz) (show¬(151:Int)=0 by decide)
 |true=>
  rw[if_neg (by decide)]
  have e1:=fh_c hs hw ho' (by omega) h1 hz
  have hp:=o3z hs 1 (k3d 1 1)
  rcases o3e s 1 (hdB 1 1)with⟨q1,q2,q3⟩|⟨q1,q2⟩
  ·rw[if_neg (by simpa using q1)]
   rw[q2,q1]at e1
   have e2:=fr_q hp.1 (by omega) (t:=1) q3 (Int.le_refl 1) (by decide)
   by_cases h2:frE (sPut s 1 (hdB 1 1)).1 1≠0
   ·rw[if_pos h2]
    have:=q4v hk' ho' e1 rfl e2 h2
    rw[frE_is h2]at this
    exact this
   ·rw[if_neg h2]
    exact p4w hk' ho' e1 rfl e2 (by simpa using h2)
  ·rw[if_pos q1]
   rw[q2]at e1
   exact a4l hk' ho' e1 q1
theorem m41' {b:List Int}(hb:Wb b)(hl:b.length=256):h3l [.s (r2b b)]=some (0,[.n (hd0 b).1,.n (hd0 b).2]):=by
 rw[m41 hb hl];unfold hd0
 cases tH b<;>rfl
theorem open_m:h3e [.n s.n,.b s.A,.n s.h,.b s.o,.l TS (strK s.K),.l TOp (strW s.W)]=some (mOut (t1c s)):=by
 unfold t1c
 by_cases hk:s.K.length<3
 ·rw[if_pos hk];exact q4i (by rw[h3j];omega)
 rw[if_neg hk]
 have hk': ¬(↑(List.length (strK s.K)):Int)<3:=by rw[h3j];omega
 have hk3:3≤s.K.length:=by omega
 by_cases ho:s.o=true
 ·rw[if_pos ho];exact s4j hk' ho
 rw[if_neg ho]
 have ho':s.o=false:=by simpa using ho
 have r0:=rd_m hs (by omega) ho' hk3 (i:=0) (by omega)
 have r1:=rd_m hs (by omega) ho' hk3 (i:=1) (by omega)
 obtain⟨_,hb0,hl0⟩:=h3t hs ho' (i:=0) (by omega)
 obtain⟨_,hb1,hl1⟩:=h3t hs ho' (i:=1) (by omega)
 have m0:=m41' hs hw hb0 hl0
 have m1:=m41' hs hw hb1 hl1
 have p0:=x3l hs (by omega) ho' hk3 (bkOf s 0)
 have p1:=x3l hs (by omega) ho' hk3 (bkOf s 1)
 have len: ∀(s':DS) (f:Int),(recS s' f).length≤room s':=fun s' f=>lenN s' f (room s') []
 by_cases h1:(hSel s).1>0
 ·rw[if_pos h1]
  have hr:=(x3h s).resolve_left fun q=>by rw[q]at h1;exact absurd h1 (by decide)
  have e1:=mo_23_0 hs (by omega) ho' hk3 (t:=(hSel s).1) (br:=0) hr.2.1 hr.2.2
  have e2:=mo_29_0 hs (by omega) ho' hk3 (t:=(hSel s).1) (br:=0) hr.2.1 hr.2.2 (len s (hSel s).2)
  by_cases h3:(hd0 (bkOf s 1)).1>(hd0 (bkOf s 0)).1
  ·have hS:hSel s=hd0 (bkOf s 1):=by unfold hSel;rw[if_pos h3]
   by_cases h2:frE s (hSel s).2≠0
   ·rw[if_pos h2]
    rw[if_pos (p3w.1 h2)]at e2
    rw[hS]at e1 e2
    exact j4n hk' ho' r0 r1 m0 m1 h3 (by omega) e1 e2
   ·rw[if_neg h2]
    rw[if_neg (fun q=>h2 (p3w.2 q))]at e2
    rw[hS]at e1 e2⊢
    exact n4b hk' ho' r0 r1 m0 m1 h3 (by omega) e1 e2
  ·have hS:hSel s=hd0 (bkOf s 0):=by unfold hSel;rw[if_neg h3]
   have hne: ¬(hd0 (bkOf s 0)).1=0:=by rw[hS]at h1;omega
   by_cases h2:frE s (hSel s).2≠0
   ·rw[if_pos h2]
    rw[if_pos (p3w.1 h2)]at e2
    rw[hS]at e1 e2
    exact f4x hk' ho' r0 r1 m0 m1 h3 hne e1 e2
   ·rw[if_neg h2]
    rw[if_neg (fun q=>h2 (p3w.2 q))]at e2
    rw[hS]at e1 e2⊢
    exact m4f hk' ho' r0 r1 m0 m1 h3 hne e1 e2
 rw[if_neg h1]
 have h3: ¬(hd0 (bkOf s 1)).1>(hd0 (bkOf s 0)).1:=fun q=>by
  unfold hSel at h1;rw[if_pos q]at h1;omega
 have h4:(hd0 (bkOf s 0)).1=0:=by
  unfold hSel at h1;rw[if_neg h3]at h1;omega
 have z0:=m42 hb0 hl0
 have z1:=m42 hb1 hl1
 cases hz:allZ s with
 |false=>
  rw[if_pos rfl]
  unfold allZ at hz
  by_cases q0:bkOf s 0=r3m
  ·have q1: ¬bkOf s 1=r3m:=fun q=>by rw[decide_eq_true q0,decide_eq_true q]at hz;cases hz
   exact k4y hk' ho' r0 r1 m0 m1 h3 h4 z0 (decide_eq_true q0) z1 (decide_eq_false q1)
  ·exact h4a hk' ho' r0 r1 m0 m1 h3 h4 z0 (decide_eq_false q0)
 |true=>
  rw[if_neg (by decide)]
  unfold allZ at hz
  obtain⟨q0,q1⟩:=Bool.and_eq_true_iff.1 hz
  have hp:=o3z hs 1 (k3d 1 1)
  have w1:=j3o s hs 1 (hdB 1 1) (k3d 1 1)
  have a1:=m33 s hs (by omega) 1 (hdB 1 1) (k3d 1 1)
  by_cases he:(s1c s 1 (hdB 1 1)).2=0
  ·have hP:sPut s 1 (hdB 1 1)=h3o (s1c s 1 (hdB 1 1)).1:=by unfold sPut;rw[if_pos he]
   rw[he]at a1
   have a2:=m28 (s1c s 1 (hdB 1 1)).1 w1.1 (by omega)
   rw[j3e]at a2
   rw[←hP]at a2
   rcases o3e s 1 (hdB 1 1)with⟨k1,k2,k3⟩|⟨k1,k2⟩
   ·rw[if_neg (by simpa using k1)]
    rw[k2,k1]at a2
    have e1:=mo_23_1 hp.1 (by omega) k3 (by omega) (t:=1) (br:=0) (Int.le_refl 1) (by decide)
    have e2:=mo_29_1 hp.1 (by omega) k3 (by omega) (t:=1) (br:=0) (Int.le_refl 1) (by decide) (len (sPut s 1 (hdB 1 1)).1 1)
    by_cases h2:frE (sPut s 1 (hdB 1 1)).1 1≠0
    ·rw[if_pos h2]
     rw[if_pos (p3w.1 h2)]at e2
     exact f4m hk' ho' r0 r1 m0 m1 h3 h4 z0 q0 z1 q1 (m32h 1 1) a1 rfl a2 rfl e1 e2
    ·rw[if_neg h2]
     rw[if_neg (fun q=>h2 (p3w.2 q))]at e2
     exact n4r hk' ho' r0 r1 m0 m1 h3 h4 z0 q0 z1 q1 (m32h 1 1) a1 rfl a2 rfl e1 e2
   ·rw[if_pos k1]
    rw[k2]at a2
    have hW:(sPut s 1 (hdB 1 1)).1.W=(s1c s 1 (hdB 1 1)).1.W:=by rw[hP];exact(q3u (by rw[←hP];exact k2)).1
    have:=m4x hk' ho' r0 r1 m0 m1 h3 h4 z0 q0 z1 q1 (m32h 1 1) a1 rfl a2 k1
    rw[←hW]at this
    exact this
  ·have hP:sPut s 1 (hdB 1 1)=((s1c s 1 (hdB 1 1)).1,(s1c s 1 (hdB 1 1)).2,0):=by unfold sPut;rw[if_neg he]
   rw[hP,if_pos he]
   have key: ∀K':LKs,K'=s.K→h3e [.n s.n,.b s.A,.n s.h,.b s.o,.l TS (strK s.K),.l TOp (strW s.W)]=some (0,[.n (s1c s 1 (hdB 1 1)).2,.n (s1c s 1 (hdB 1 1)).1.n,.b (s1c s 1 (hdB 1 1)).1.A,.n (s1c s 1 (hdB 1 1)).1.h,.b (s1c s 1 (hdB 1 1)).1.o,.l TS (strK K'),.l TOp (strW (s1c s 1 (hdB 1 1)).1.W)]):=fun K' h=>by
    subst h;exact j4y hk' ho' r0 r1 m0 m1 h3 h4 z0 q0 z1 q1 (m32h 1 1) a1 he
   exact key _ (j3e s 1 (hdB 1 1))
end
end Go.Proofs.Ytoehlcomhpnjgaa.Vx
end
