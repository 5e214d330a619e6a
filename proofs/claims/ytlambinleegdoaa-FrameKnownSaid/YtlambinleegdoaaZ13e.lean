import Derived.Test.YtlambinleegdoaaVxAsk
import Derived.Test.YtlambinleegdoaaZ13d
import Derived.KernelRfl
import Derived.Test.YtlambinleegdoaaZ13c
noncomputable section
namespace Go.Proofs.Ytlambinleegdoaa.Vx
open Go Go.RowKit
set_option linter.unusedVariables false
set_option linter.unusedSimpArgs false
set_option maxRecDepth 100000
set_option maxHeartbeats 0
def cs_9A:FuncId→Option a0q:=e1c 8 [(BSh.of B9).k op_9] h0b
theorem n4s:CsOk Try.prog cs_9A:=csB (d1h _) B9_ok
def cs_9pA:FuncId→Option a0q:=a0s 9 ((BSh.of B9p).k k3m) cs_9A
theorem m4g:CsOk Try.prog cs_9pA:=csA n4s i4t
def h4g:FuncId→Option a0q:=a0s 10 ((BSh.of B10p).k i3w) cs_9pA
theorem e4r:CsOk Try.prog h4g:=csA m4g a4o
def l4s:FuncId→Option a0q:=a0s 11 ((BSh.of B11p).k j3d) h4g
theorem f4f:CsOk Try.prog l4s:=csA e4r z3o
def i4c:FuncId→Option a0q:=a0s 12 ((BSh.of B12p).k i3t) l4s
theorem e4n:CsOk Try.prog i4c:=csA f4f a4z
def k4v:FuncId→Option a0q:=a0s 13 ((BSh.of B13p).k i3u) i4c
theorem e4l:CsOk Try.prog k4v:=csA e4n a4t
def l4b:FuncId→Option a0q:=a0s 23 ((BSh.of B23r).k h3e) k4v
theorem e4s:CsOk Try.prog l4b:=csA e4l k4e
def h4h:FuncId→Option a0q:=a0s 26 ((BSh.of B26r).k h3k) l4b
theorem f4n:CsOk Try.prog h4h:=csA e4s l4j
def k4m:FuncId→Option a0q:=a0s 28 ((BSh.of B28r).k h3n) h4h
theorem f4j:CsOk Try.prog k4m:=csA f4n k4a
def l4v:FuncId→Option a0q:=a0s 30 ((BSh.of B30r).k h3f) k4m
theorem f4k:CsOk Try.prog l4v:=csA f4j z3w
def j4s:FuncId→Option a0q:=a0s 32 ((BSh.of B32r).k h3j) l4v
theorem f4w:CsOk Try.prog j4s:=csA f4k a4y
def h4l:FuncId→Option a0q:=a0s 25 ((BSh.of B25r).k j3m) j4s
theorem f4e:CsOk Try.prog h4l:=csA f4w i4s
def y3z:FuncId→Option a0q:=a0s 35 ((BSh.of B35r).k t2c) h4l
theorem r3a:CsOk Try.prog y3z:=csA f4e z3b
def S_37k:BSh:={args:=[.imm TB 0],blks:=[],log:=[],outs:=[(.bool 0,[])]}
def ev_37k:List Dat→Tree (Nat×List Dat):=evF y3z 37 ls0 S_37k
theorem e_37k: ∃op,IsF ev_37k 37 S_37k op:=bxF r3a (LsOk.none _ _ _)
def n3r:OpA:=opF e_37k
theorem k4u {l0 l1 l2:List (Ty.den TB)}(g0:h3e [.l TB l0]=some (1,[.n 0,.n 0,.n 0,.n 0,.n 0,.n 130]))(g1:h3k [.l TB l0]=some (0,[.n 0,.n 0,.n 0,.n 0,.n 0,.n 130]))(g2:h3n [.l TB l0]=some (0,[.n 0,.n 0,.n 0,.l TB l1,.n 0,.n 130]))(g3:h3f [.l TB l0]=some (0,[.n 0,.n 0,.n 0,.n 0,.n 0,.l TB l2,.n 0,.n 130]))(g4:h3j [.l TB l0]=some (1,[.n 0,.n 0,.n 0,.n 0,.n 130]))(g5:t2c [.l TB l0]=some (0,[.n 0])):n3r [.l TB l0]=some ((0,[.b true])):=opF_eq e_37k (sA g0<|sP [0,1,1]<|sA g1<|sP [1,1]<|sA g2<|sP [1,1]<|sA g3<|sP [1,1]<|sA g4<|sP [0,1,1]<|sA g5<|sP [1,1,1,1]<|sL)
def j4o:FuncId→Option a0q:=a0s 37 (S_37k.k n3r) y3z
theorem y3d:CsOk Try.prog j4o:=csL1 r3a e_37k
def q3p:List Dat→Tree Bool:=evW j4o 5 ls0 [inV 0,ouV 6,stV 11,loV 16,liV 23,.imm TB 28]
theorem s3p {n0 n1 n2 n3 n4:Int}{l5:List (Ty.den TC)}{n6 n7 n8 n9 n10 n11 n12 n13:Int}{l14:List (Ty.den TB)}{n15 n16 n17 n18 n19 n20:Int}{l21:List (Ty.den TB)}{n22 n23 n24 n25 n26:Int}{l27 l28 l29 l30 l31 l32 l33:List (Ty.den TB)}{b34:Bool}(g0:(l5.length:Int)≤1000)(g1:(l27.length:Int)≤5000)(g2:(l28.length:Int)≤3000)(g3:eqL TB l14 l14=true)(g4:eqL TB l21 l21=true)(g5:k3m [.n n0,.n n1,.n n2,.n n3,.n n4,.l TC l5]=some (0,[.l TB l29]))(g6:0<l29.length)(g7:h3e [.l TB l29]=some (0,[.n n0,.n n1,.n n2,.n n3,.n n4,.n 0,.l TC l5]))(g8:j3m [.n n0,.n n1,.n n2,.n n3,.n n4,.l TC l5,.n n0,.n n1,.n n2,.n n3,.n n4,.l TC l5]=some (0,[.b true]))(g9:t2c [.l TB l29]=some (0,[.n 1]))(g10:i3w [.n n6,.n n7,.n n8,.n n9,.n n10]=some (0,[.l TB l30]))(g11:0<l30.length)(g12:h3k [.l TB l30]=some (0,[.n n6,.n n7,.n n8,.n n9,.n n10,.n 0]))(g13:t2c [.l TB l30]=some (0,[.n 2]))(g14:j3d [.n n11,.n n12,.n n13,.l TB l14,.n n15]=some (0,[.l TB l31]))(g15:0<l31.length)(g16:h3n [.l TB l31]=some (0,[.n n11,.n n12,.n n13,.l TB l14,.n n15,.n 0]))(g17:t2c [.l TB l31]=some (0,[.n 3]))(g18:i3t [.n n16,.n n17,.n n18,.n n19,.n n20,.l TB l21,.n n22]=some (0,[.l TB l32]))(g19:0<l32.length)(g20:h3f [.l TB l32]=some (0,[.n n16,.n n17,.n n18,.n n19,.n n20,.l TB l21,.n n22,.n 0]))(g21:t2c [.l TB l32]=some (0,[.n 4]))(g22:i3u [.n n23,.n n24,.n n25,.n n26,.l TB l27]=some (0,[.l TB l33]))(g23:0<l33.length)(g24:f0b (r2b l27) (r2b l27)=true)(g25:h3j [.l TB l33]=some (0,[.n n23,.n n24,.n n25,.n n26,.n 0,.l TB l27]))(g26:t2c [.l TB l33]=some (0,[.n 5]))(g27:n3r [.l TB l28]=some (0,[.b true]))(g28:l14.length=64)(g29:l21.length=64)(h0:(op_9 [])=(some (0,[.b b34]))):(q3p [.n n0,.n n1,.n n2,.n n3,.n n4,.l TC l5,.n n6,.n n7,.n n8,.n n9,.n n10,.n n11,.n n12,.n n13,.l TB l14,.n n15,.n n16,.n n17,.n n18,.n n19,.n n20,.l TB l21,.n n22,.n n23,.n n24,.n n25,.n n26,.l TB l27,.l TB l28]).sel=some (b34):=sP [1]<|sTs (c:=(decide ((↑(List.length l5):Int)≤(1000:Int))))<|sP [1]<|sFs (c:=(!decide ((↑(List.length l27):Int)≤(5000:Int))))<|sFs (c:=(decide ((↑(List.length l28):Int)>(3000:Int))))<|sA g5<|sP [1,1]<|sA g7<|sP [1,1]<|sTs (c:=(decide ((↑(List.length l29):Int)>(0:Int))))<|sP [0,1,1,1,1]<|sA g8<|sP [1,1,0]<|sA g9<|sP [1,1,1,0]<|sA g10<|sP [1,1]<|sA g12<|sP [1,1]<|sTs (c:=(decide ((↑(List.length l30):Int)>(0:Int))))<|sP [0]<|sFs (c:=(!(n6==n6&&(n7==n7&&(n8==n8&&(n9==n9&&(n10==n10&&true)&&true))))))<|sA g13<|sP [1,1,0]<|sA g14<|sP [1,1]<|sA g16<|sP [1,1,0]<|sFs (c:=(!(n11==n11&&(n12==n12&&(n13==n13&&(eqL TB l14 l14&&(n15==n15&&true)))))))<|sA g17<|sP [1,1,0]<|sA g18<|sP [1,1]<|sA g20<|sP [1,1]<|sTs (c:=(decide ((↑(List.length l32):Int)>(0:Int))))<|sP [0]<|sFs (c:=(!(n16==n16&&(n17==n17&&(n18==n18&&(n19==n19&&(n20==n20&&(eqL TB l21 l21&&(n22==n22&&true))))&&true)))))<|sA g21<|sP [1,1,0]<|sA g22<|sP [1,1]<|sA g25<|sP [1,1]<|sTs (c:=(decide ((↑(List.length l33):Int)>(0:Int))))<|sP [0,1,1,1,1]<|sFs (c:=(!(n23==n23&&(n24==n24&&(n25==n25&&(n26==n26&&(f0b (r2b l27) (r2b l27)&&true)))))))<|sA g26<|sP [1,1,1,0]<|sA g27<|sP [1,1,1,1]<|sA h0<|sP [1,1]<|sL
theorem u3y {n0 n1 n2 n3 n4:Int}{l5:List (Ty.den TC)}{n6 n7 n8 n9 n10 n11 n12 n13:Int}{l14:List (Ty.den TB)}{n15 n16 n17 n18 n19 n20:Int}{l21:List (Ty.den TB)}{n22 n23 n24 n25 n26:Int}{l27 l28 l29 l30 l31 l32:List (Ty.den TB)}{b33:Bool}(g0:(l5.length:Int)≤1000)(g1:(l27.length:Int)≤5000)(g2:(l28.length:Int)≤3000)(g3:eqL TB l14 l14=true)(g4:eqL TB l21 l21=true)(g5:k3m [.n n0,.n n1,.n n2,.n n3,.n n4,.l TC l5]=some (0,[.l TB ([]:List (Ty.den TB))]))(g6:h3e [.l TB ([]:List (Ty.den TB))]=some (1,[.n 0,.n 0,.n 0,.n 0,.n 0,.n 130]))(g7:i3w [.n n6,.n n7,.n n8,.n n9,.n n10]=some (0,[.l TB l29]))(g8:0<l29.length)(g9:h3k [.l TB l29]=some (0,[.n n6,.n n7,.n n8,.n n9,.n n10,.n 0]))(g10:t2c [.l TB l29]=some (0,[.n 2]))(g11:j3d [.n n11,.n n12,.n n13,.l TB l14,.n n15]=some (0,[.l TB l30]))(g12:0<l30.length)(g13:h3n [.l TB l30]=some (0,[.n n11,.n n12,.n n13,.l TB l14,.n n15,.n 0]))(g14:t2c [.l TB l30]=some (0,[.n 3]))(g15:i3t [.n n16,.n n17,.n n18,.n n19,.n n20,.l TB l21,.n n22]=some (0,[.l TB l31]))(g16:0<l31.length)(g17:h3f [.l TB l31]=some (0,[.n n16,.n n17,.n n18,.n n19,.n n20,.l TB l21,.n n22,.n 0]))(g18:t2c [.l TB l31]=some (0,[.n 4]))(g19:i3u [.n n23,.n n24,.n n25,.n n26,.l TB l27]=some (0,[.l TB l32]))(g20:0<l32.length)(g21:f0b (r2b l27) (r2b l27)=true)(g22:h3j [.l TB l32]=some (0,[.n n23,.n n24,.n n25,.n n26,.n 0,.l TB l27]))(g23:t2c [.l TB l32]=some (0,[.n 5]))(g24:n3r [.l TB l28]=some (0,[.b true]))(g25:l14.length=64)(g26:l21.length=64)(h0:(op_9 [])=(some (0,[.b b33]))):(q3p [.n n0,.n n1,.n n2,.n n3,.n n4,.l TC l5,.n n6,.n n7,.n n8,.n n9,.n n10,.n n11,.n n12,.n n13,.l TB l14,.n n15,.n n16,.n n17,.n n18,.n n19,.n n20,.l TB l21,.n n22,.n n23,.n n24,.n n25,.n n26,.l TB l27,.l TB l28]).sel=some (b33):=sP [1]<|sTs (c:=(decide ((↑(List.length l5):Int)≤(1000:Int))))<|sP [1]<|sFs (c:=(!decide ((↑(List.length l27):Int)≤(5000:Int))))<|sFs (c:=(decide ((↑(List.length l28):Int)>(3000:Int))))<|sA g5<|sP [1,1]<|sA g6<|sP [0,1,1,0,0,1,0]<|sA g7<|sP [1,1]<|sA g9<|sP [1,1]<|sTs (c:=(decide ((↑(List.length l29):Int)>(0:Int))))<|sP [0]<|sFs (c:=(!(n6==n6&&(n7==n7&&(n8==n8&&(n9==n9&&(n10==n10&&true)&&true))))))<|sA g10<|sP [1,1,0]<|sA g11<|sP [1,1]<|sA g13<|sP [1,1,0]<|sFs (c:=(!(n11==n11&&(n12==n12&&(n13==n13&&(eqL TB l14 l14&&(n15==n15&&true)))))))<|sA g14<|sP [1,1,0]<|sA g15<|sP [1,1]<|sA g17<|sP [1,1]<|sTs (c:=(decide ((↑(List.length l31):Int)>(0:Int))))<|sP [0]<|sFs (c:=(!(n16==n16&&(n17==n17&&(n18==n18&&(n19==n19&&(n20==n20&&(eqL TB l21 l21&&(n22==n22&&true))))&&true)))))<|sA g18<|sP [1,1,0]<|sA g19<|sP [1,1]<|sA g22<|sP [1,1]<|sTs (c:=(decide ((↑(List.length l32):Int)>(0:Int))))<|sP [0,1,1,1,1]<|sFs (c:=(!(n23==n23&&(n24==n24&&(n25==n25&&(n26==n26&&(f0b (r2b l27) (r2b l27)&&true)))))))<|sA g23<|sP [1,1,1,0]<|sA g24<|sP [1,1,1,1]<|sA h0<|sP [1,1]<|sL
theorem t3y {n0 n1 n2 n3 n4:Int}{l5:List (Ty.den TC)}{n6 n7 n8 n9 n10 n11 n12 n13:Int}{l14:List (Ty.den TB)}{n15 n16 n17 n18 n19 n20:Int}{l21:List (Ty.den TB)}{n22 n23 n24 n25 n26:Int}{l27 l28 l29 l30 l31 l32:List (Ty.den TB)}{b33:Bool}(g0:(l5.length:Int)≤1000)(g1:(l27.length:Int)≤5000)(g2:(l28.length:Int)≤3000)(g3:eqL TB l14 l14=true)(g4:eqL TB l21 l21=true)(g5:k3m [.n n0,.n n1,.n n2,.n n3,.n n4,.l TC l5]=some (0,[.l TB l29]))(g6:0<l29.length)(g7:h3e [.l TB l29]=some (0,[.n n0,.n n1,.n n2,.n n3,.n n4,.n 0,.l TC l5]))(g8:j3m [.n n0,.n n1,.n n2,.n n3,.n n4,.l TC l5,.n n0,.n n1,.n n2,.n n3,.n n4,.l TC l5]=some (0,[.b true]))(g9:t2c [.l TB l29]=some (0,[.n 1]))(g10:i3w [.n n6,.n n7,.n n8,.n n9,.n n10]=some (0,[.l TB ([]:List (Ty.den TB))]))(g11:h3k [.l TB ([]:List (Ty.den TB))]=some (0,[.n 0,.n 0,.n 0,.n 0,.n 0,.n 130]))(g12:j3d [.n n11,.n n12,.n n13,.l TB l14,.n n15]=some (0,[.l TB l30]))(g13:0<l30.length)(g14:h3n [.l TB l30]=some (0,[.n n11,.n n12,.n n13,.l TB l14,.n n15,.n 0]))(g15:t2c [.l TB l30]=some (0,[.n 3]))(g16:i3t [.n n16,.n n17,.n n18,.n n19,.n n20,.l TB l21,.n n22]=some (0,[.l TB l31]))(g17:0<l31.length)(g18:h3f [.l TB l31]=some (0,[.n n16,.n n17,.n n18,.n n19,.n n20,.l TB l21,.n n22,.n 0]))(g19:t2c [.l TB l31]=some (0,[.n 4]))(g20:i3u [.n n23,.n n24,.n n25,.n n26,.l TB l27]=some (0,[.l TB l32]))(g21:0<l32.length)(g22:f0b (r2b l27) (r2b l27)=true)(g23:h3j [.l TB l32]=some (0,[.n n23,.n n24,.n n25,.n n26,.n 0,.l TB l27]))(g24:t2c [.l TB l32]=some (0,[.n 5]))(g25:n3r [.l TB l28]=some (0,[.b true]))(g26:l14.length=64)(g27:l21.length=64)(h0:(op_9 [])=(some (0,[.b b33]))):(q3p [.n n0,.n n1,.n n2,.n n3,.n n4,.l TC l5,.n n6,.n n7,.n n8,.n n9,.n n10,.n n11,.n n12,.n n13,.l TB l14,.n n15,.n n16,.n n17,.n n18,.n n19,.n n20,.l TB l21,.n n22,.n n23,.n n24,.n n25,.n n26,.l TB l27,.l TB l28]).sel=some (b33):=sP [1]<|sTs (c:=(decide ((↑(List.length l5):Int)≤(1000:Int))))<|sP [1]<|sFs (c:=(!decide ((↑(List.length l27):Int)≤(5000:Int))))<|sFs (c:=(decide ((↑(List.length l28):Int)>(3000:Int))))<|sA g5<|sP [1,1]<|sA g7<|sP [1,1]<|sTs (c:=(decide ((↑(List.length l29):Int)>(0:Int))))<|sP [0,1,1,1,1]<|sA g8<|sP [1,1,0]<|sA g9<|sP [1,1,1,0]<|sA g10<|sP [1,1]<|sA g11<|sP [1,1,0,0,0]<|sA g12<|sP [1,1]<|sA g14<|sP [1,1,0]<|sFs (c:=(!(n11==n11&&(n12==n12&&(n13==n13&&(eqL TB l14 l14&&(n15==n15&&true)))))))<|sA g15<|sP [1,1,0]<|sA g16<|sP [1,1]<|sA g18<|sP [1,1]<|sTs (c:=(decide ((↑(List.length l31):Int)>(0:Int))))<|sP [0]<|sFs (c:=(!(n16==n16&&(n17==n17&&(n18==n18&&(n19==n19&&(n20==n20&&(eqL TB l21 l21&&(n22==n22&&true))))&&true)))))<|sA g19<|sP [1,1,0]<|sA g20<|sP [1,1]<|sA g23<|sP [1,1]<|sTs (c:=(decide ((↑(List.length l32):Int)>(0:Int))))<|sP [0,1,1,1,1]<|sFs (c:=(!(n23==n23&&(n24==n24&&(n25==n25&&(n26==n26&&(f0b (r2b l27) (r2b l27)&&true)))))))<|sA g24<|sP [1,1,1,0]<|sA g25<|sP [1,1,1,1]<|sA h0<|sP [1,1]<|sL
theorem t3c {n0 n1 n2 n3 n4:Int}{l5:List (Ty.den TC)}{n6 n7 n8 n9 n10 n11 n12 n13:Int}{l14:List (Ty.den TB)}{n15 n16 n17 n18 n19 n20:Int}{l21:List (Ty.den TB)}{n22 n23 n24 n25 n26:Int}{l27 l28 l29 l30 l31 l32 l33:List (Ty.den TB)}{b34:Bool}(g0:(l5.length:Int)≤1000)(g1:(l27.length:Int)≤5000)(g2:(l28.length:Int)≤3000)(g3:eqL TB l14 l14=true)(g4:eqL TB l21 l21=true)(g5:k3m [.n n0,.n n1,.n n2,.n n3,.n n4,.l TC l5]=some (0,[.l TB l29]))(g6:0<l29.length)(g7:h3e [.l TB l29]=some (0,[.n n0,.n n1,.n n2,.n n3,.n n4,.n 0,.l TC l5]))(g8:j3m [.n n0,.n n1,.n n2,.n n3,.n n4,.l TC l5,.n n0,.n n1,.n n2,.n n3,.n n4,.l TC l5]=some (0,[.b true]))(g9:t2c [.l TB l29]=some (0,[.n 1]))(g10:i3w [.n n6,.n n7,.n n8,.n n9,.n n10]=some (0,[.l TB l30]))(g11:0<l30.length)(g12:h3k [.l TB l30]=some (0,[.n n6,.n n7,.n n8,.n n9,.n n10,.n 0]))(g13:t2c [.l TB l30]=some (0,[.n 2]))(g14:j3d [.n n11,.n n12,.n n13,.l TB l14,.n n15]=some (0,[.l TB l31]))(g15:0<l31.length)(g16:h3n [.l TB l31]=some (0,[.n n11,.n n12,.n n13,.l TB l14,.n n15,.n 0]))(g17:t2c [.l TB l31]=some (0,[.n 3]))(g18:i3t [.n n16,.n n17,.n n18,.n n19,.n n20,.l TB l21,.n n22]=some (0,[.l TB ([]:List (Ty.den TB))]))(g19:h3f [.l TB ([]:List (Ty.den TB))]=some (0,[.n 0,.n 0,.n 0,.n 0,.n 0,.l TB l32,.n 0,.n 130]))(g20:i3u [.n n23,.n n24,.n n25,.n n26,.l TB l27]=some (0,[.l TB l33]))(g21:0<l33.length)(g22:f0b (r2b l27) (r2b l27)=true)(g23:h3j [.l TB l33]=some (0,[.n n23,.n n24,.n n25,.n n26,.n 0,.l TB l27]))(g24:t2c [.l TB l33]=some (0,[.n 5]))(g25:n3r [.l TB l28]=some (0,[.b true]))(g26:l14.length=64)(g27:l21.length=64)(h0:(op_9 [])=(some (0,[.b b34]))):(q3p [.n n0,.n n1,.n n2,.n n3,.n n4,.l TC l5,.n n6,.n n7,.n n8,.n n9,.n n10,.n n11,.n n12,.n n13,.l TB l14,.n n15,.n n16,.n n17,.n n18,.n n19,.n n20,.l TB l21,.n n22,.n n23,.n n24,.n n25,.n n26,.l TB l27,.l TB l28]).sel=some (b34):=sP [1]<|sTs (c:=(decide ((↑(List.length l5):Int)≤(1000:Int))))<|sP [1]<|sFs (c:=(!decide ((↑(List.length l27):Int)≤(5000:Int))))<|sFs (c:=(decide ((↑(List.length l28):Int)>(3000:Int))))<|sA g5<|sP [1,1]<|sA g7<|sP [1,1]<|sTs (c:=(decide ((↑(List.length l29):Int)>(0:Int))))<|sP [0,1,1,1,1]<|sA g8<|sP [1,1,0]<|sA g9<|sP [1,1,1,0]<|sA g10<|sP [1,1]<|sA g12<|sP [1,1]<|sTs (c:=(decide ((↑(List.length l30):Int)>(0:Int))))<|sP [0]<|sFs (c:=(!(n6==n6&&(n7==n7&&(n8==n8&&(n9==n9&&(n10==n10&&true)&&true))))))<|sA g13<|sP [1,1,0]<|sA g14<|sP [1,1]<|sA g16<|sP [1,1,0]<|sFs (c:=(!(n11==n11&&(n12==n12&&(n13==n13&&(eqL TB l14 l14&&(n15==n15&&true)))))))<|sA g17<|sP [1,1,0]<|sA g18<|sP [1,1]<|sA g19<|sP [1,1,0,0,0]<|sA g20<|sP [1,1]<|sA g23<|sP [1,1]<|sTs (c:=(decide ((↑(List.length l33):Int)>(0:Int))))<|sP [0,1,1,1,1]<|sFs (c:=(!(n23==n23&&(n24==n24&&(n25==n25&&(n26==n26&&(f0b (r2b l27) (r2b l27)&&true)))))))<|sA g24<|sP [1,1,1,0]<|sA g25<|sP [1,1,1,1]<|sA h0<|sP [1,1]<|sL
theorem t3e {n0 n1 n2 n3 n4:Int}{l5:List (Ty.den TC)}{n6 n7 n8 n9 n10 n11 n12 n13:Int}{l14:List (Ty.den TB)}{n15 n16 n17 n18 n19 n20:Int}{l21:List (Ty.den TB)}{n22 n23 n24 n25 n26:Int}{l27 l28 l29 l30 l31 l32:List (Ty.den TB)}{b33:Bool}(g0:(l5.length:Int)≤1000)(g1:(l27.length:Int)≤5000)(g2:(l28.length:Int)≤3000)(g3:eqL TB l14 l14=true)(g4:eqL TB l21 l21=true)(g5:k3m [.n n0,.n n1,.n n2,.n n3,.n n4,.l TC l5]=some (0,[.l TB l29]))(g6:0<l29.length)(g7:h3e [.l TB l29]=some (0,[.n n0,.n n1,.n n2,.n n3,.n n4,.n 0,.l TC l5]))(g8:j3m [.n n0,.n n1,.n n2,.n n3,.n n4,.l TC l5,.n n0,.n n1,.n n2,.n n3,.n n4,.l TC l5]=some (0,[.b true]))(g9:t2c [.l TB l29]=some (0,[.n 1]))(g10:i3w [.n n6,.n n7,.n n8,.n n9,.n n10]=some (0,[.l TB l30]))(g11:0<l30.length)(g12:h3k [.l TB l30]=some (0,[.n n6,.n n7,.n n8,.n n9,.n n10,.n 0]))(g13:t2c [.l TB l30]=some (0,[.n 2]))(g14:j3d [.n n11,.n n12,.n n13,.l TB l14,.n n15]=some (0,[.l TB l31]))(g15:0<l31.length)(g16:h3n [.l TB l31]=some (0,[.n n11,.n n12,.n n13,.l TB l14,.n n15,.n 0]))(g17:t2c [.l TB l31]=some (0,[.n 3]))(g18:i3t [.n n16,.n n17,.n n18,.n n19,.n n20,.l TB l21,.n n22]=some (0,[.l TB l32]))(g19:0<l32.length)(g20:h3f [.l TB l32]=some (0,[.n n16,.n n17,.n n18,.n n19,.n n20,.l TB l21,.n n22,.n 0]))(g21:t2c [.l TB l32]=some (0,[.n 4]))(g22:i3u [.n n23,.n n24,.n n25,.n n26,.l TB l27]=some (0,[.l TB ([]:List (Ty.den TB))]))(g23:h3j [.l TB ([]:List (Ty.den TB))]=some (1,[.n 0,.n 0,.n 0,.n 0,.n 130]))(g24:n3r [.l TB l28]=some (0,[.b true]))(g25:l14.length=64)(g26:l21.length=64)(h0:(op_9 [])=(some (0,[.b b33]))):(q3p [.n n0,.n n1,.n n2,.n n3,.n n4,.l TC l5,.n n6,.n n7,.n n8,.n n9,.n n10,.n n11,.n n12,.n n13,.l TB l14,.n n15,.n n16,.n n17,.n n18,.n n19,.n n20,.l TB l21,.n n22,.n n23,.n n24,.n n25,.n n26,.l TB l27,.l TB l28]).sel=some (b33):=sP [1]<|sTs (c:=(decide ((↑(List.length l5):Int)≤(1000:Int))))<|sP [1]<|sFs (c:=(!decide ((↑(List.length l27):Int)≤(5000:Int))))<|sFs (c:=(decide ((↑(List.length l28):Int)>(3000:Int))))<|sA g5<|sP [1,1]<|sA g7<|sP [1,1]<|sTs (c:=(decide ((↑(List.length l29):Int)>(0:Int))))<|sP [0,1,1,1,1]<|sA g8<|sP [1,1,0]<|sA g9<|sP [1,1,1,0]<|sA g10<|sP [1,1]<|sA g12<|sP [1,1]<|sTs (c:=(decide ((↑(List.length l30):Int)>(0:Int))))<|sP [0]<|sFs (c:=(!(n6==n6&&(n7==n7&&(n8==n8&&(n9==n9&&(n10==n10&&true)&&true))))))<|sA g13<|sP [1,1,0]<|sA g14<|sP [1,1]<|sA g16<|sP [1,1,0]<|sFs (c:=(!(n11==n11&&(n12==n12&&(n13==n13&&(eqL TB l14 l14&&(n15==n15&&true)))))))<|sA g17<|sP [1,1,0]<|sA g18<|sP [1,1]<|sA g20<|sP [1,1]<|sTs (c:=(decide ((↑(List.length l32):Int)>(0:Int))))<|sP [0]<|sFs (c:=(!(n16==n16&&(n17==n17&&(n18==n18&&(n19==n19&&(n20==n20&&(eqL TB l21 l21&&(n22==n22&&true))))&&true)))))<|sA g21<|sP [1,1,0]<|sA g22<|sP [1,1]<|sA g23<|sP [0,1,1,0,0,1,0]<|sA g24<|sP [1,1,1,1]<|sA h0<|sP [1,1]<|sL
theorem c4c {l:List Int}:[]≠chk l:=by intro h;have:=congrArg List.length h;rw[w1n]at this;simp at this
theorem okI {c y q a b:Int}{l:List Cmd}(h:OKI c y q a b l)(hn:l.length≤1000): ∃L:List Int,k3m [.n c,.n y,.n q,.n a,.n b,.l TC l]=some (0,[.l TB L])∧0<L.length∧h3e [.l TB L]=some (0,[.n c,.n y,.n q,.n a,.n b,.n 0,.l TC l])∧j3m [.n c,.n y,.n q,.n a,.n b,.l TC l,.n c,.n y,.n q,.n a,.n b,.l TC l]=some (0,[.b true])∧t2c [.l TB L]=some (0,[.n 1]):=by
 have e1:=GI h
 have e2:=k35I h
 obtain⟨hc,hq,ha,hb,hm⟩:=h
 have ep:=p9 c y q a b l hc.1 hc.2 hn
 rw[hm]at ep
 exact⟨chk (inL c y q a b l),ep,by rw[w1n];omega,e1,t25 c y q a b l (by omega),e2⟩
theorem noI {c y q a b:Int}{l:List Cmd}(hc:0≤c∧c<256)(hm:(l.all h3w&&(win 1099511627776 [y]&&decide ((l.length:Int)≤8)))=false)(hn:l.length≤1000):k3m [.n c,.n y,.n q,.n a,.n b,.l TC l]=some (0,[.l TB ([]:List Int)])∧h3e [.l TB ([]:List Int)]=some (1,[.n 0,.n 0,.n 0,.n 0,.n 0,.n 130]):=by
 have ep:=p9 c y q a b l hc.1 hc.2 hn
 rw[hm]at ep
 exact⟨ep,FI Wb.nil (by simp) (fun _ _ _ _ _ _ _=>c4c)⟩
theorem okO {c y e q u:Int}(h:OKO c y e q u): ∃L:List Int,i3w [.n c,.n y,.n e,.n q,.n u]=some (0,[.l TB L])∧0<L.length∧h3k [.l TB L]=some (0,[.n c,.n y,.n e,.n q,.n u,.n 0])∧t2c [.l TB L]=some (0,[.n 2]):=by
 have e1:=G26 h
 have e2:=k35O h
 obtain⟨hc,hq,hu,hm⟩:=h
 have ep:=p10 c y e q u hc.1 hc.2
 rw[hm]at ep
 exact⟨chk (outB c y e q u),ep,by rw[w1n];omega,e1,e2⟩
theorem noO {c y e q u:Int}(hc:0≤c∧c<256)(hm:win 1099511627776 [y,e]=false):i3w [.n c,.n y,.n e,.n q,.n u]=some (0,[.l TB ([]:List Int)])∧h3k [.l TB ([]:List Int)]=some (0,[.n 0,.n 0,.n 0,.n 0,.n 0,.n 130]):=by
 have ep:=p10 c y e q u hc.1 hc.2
 rw[hm]at ep
 exact⟨ep,F26 Wb.nil (by simp) (fun _ _ _ _ _ _=>c4c)⟩
theorem okS {a b c:Int}{t:List Int}{u:Int}(h:OKS a b c t u): ∃L:List Int,j3d [.n a,.n b,.n c,.l TB t,.n u]=some (0,[.l TB L])∧0<L.length∧h3n [.l TB L]=some (0,[.n a,.n b,.n c,.l TB t,.n u,.n 0])∧t2c [.l TB L]=some (0,[.n 3]):=by
 have e1:=G28 h
 have e2:=k35S h
 obtain⟨ha,hb,hc,ht,hu⟩:=h
 exact⟨_,p11 a b c t u ht.2,by rw[w1n];omega,e1,e2⟩
theorem okG {e y a b c:Int}{t:List Int}{u:Int}(h:OKG e y a b c t u): ∃L:List Int,i3t [.n e,.n y,.n a,.n b,.n c,.l TB t,.n u]=some (0,[.l TB L])∧0<L.length∧h3f [.l TB L]=some (0,[.n e,.n y,.n a,.n b,.n c,.l TB t,.n u,.n 0])∧t2c [.l TB L]=some (0,[.n 4]):=by
 have e1:=G30 h
 have e2:=k35G h
 obtain⟨ha,hb,hc,ht,hu,hm⟩:=h
 have ep:=p12 e y a b c t u ht.2
 rw[hm]at ep
 exact⟨chk (logL e y a b c t u),ep,by rw[w1n];omega,e1,e2⟩
theorem noG {e y a b c:Int}{t:List Int}{u:Int}(ht:t.length=64)(hm:win 1099511627776 [e,y]=false):i3t [.n e,.n y,.n a,.n b,.n c,.l TB t,.n u]=some (0,[.l TB ([]:List Int)])∧h3f [.l TB ([]:List Int)]=some (0,[.n 0,.n 0,.n 0,.n 0,.n 0,.l TB (List.replicate 64 (0:Int)),.n 0,.n 130]):=by
 have ep:=p12 e y a b c t u ht
 rw[hm]at ep
 exact⟨ep,F30 Wb.nil (by simp) (fun _ _ _ _ _ _ _ _=>c4c)⟩
theorem okL {x y s k:Int}{l:List Int}(h:OKL x y s k l): ∃L:List Int,i3u [.n x,.n y,.n s,.n k,.l TB l]=some (0,[.l TB L])∧0<L.length∧h3j [.l TB L]=some (0,[.n x,.n y,.n s,.n k,.n 0,.l TB l])∧t2c [.l TB L]=some (0,[.n 5]):=by
 have e1:=GL h
 have e2:=k35L h
 obtain⟨hx,hy,hm,hwl⟩:=h
 have ep:=p13 x y s k l hx hy
 rw[hm]at ep
 exact⟨chk (liL x y s k l),ep,by rw[w1n];omega,e1,e2⟩
theorem noL {x y s k:Int}{l:List Int}(hx:0≤x∧x<256)(hy:0≤y∧y<256)(hm:(win 4611686018427387904 [s,k]&&decide ((l.length:Int)≤2048))=false):i3u [.n x,.n y,.n s,.n k,.l TB l]=some (0,[.l TB ([]:List Int)])∧h3j [.l TB ([]:List Int)]=some (1,[.n 0,.n 0,.n 0,.n 0,.n 130]):=by
 have ep:=p13 x y s k l hx hy
 rw[hm]at ep
 exact⟨ep,FL Wb.nil (by simp) (fun _ _ _ _ _ _=>c4c)⟩
def NoFr (b:List Int):Prop:=Wb b∧b.length≤3000∧ ∀l,b≠chk l
def r8 (n:Int):Bool:=decide (0≤n)&&decide (n<256)
def rN (m n:Int):Bool:=decide (0≤n)&&decide (n<m)
def nfb (b:List Int):Bool:=b.all r8&&decide (b.length≤3000)&&(decide (b.length<4)|| !(b==chk (b.take (b.length-4))))
theorem m3k {m n:Int}(h:rN m n=true):0≤n∧n<m:=by
 unfold rN at h
 rw[Bool.and_eq_true,decide_eq_true_eq,decide_eq_true_eq]at h
 exact h
theorem l3s {n:Int}(h:r8 n=true):0≤n∧n<256:=by
 unfold r8 at h
 rw[Bool.and_eq_true,decide_eq_true_eq,decide_eq_true_eq]at h
 exact h
theorem m3a {l:List Int}(h:l.all r8=true):Wb l:=fun b hb=>l3s (List.all_eq_true.1 h b hb)
theorem u3e {b:List Int}(h:nfb b=true):NoFr b:=by
 unfold nfb at h
 rw[Bool.and_eq_true,Bool.and_eq_true,decide_eq_true_eq]at h
 refine⟨m3a h.1.1,h.1.2,fun l e=> ?_⟩
 have h2:=h.2
 have hl:b.length=l.length+4:=by rw[e,w1n]
 have ht:b.take (b.length-4)=l:=by
  have e':b.length-4=l.length:=by omega
  rw[e',e]
  unfold chk
  rw[List.take_left]
 rw[ht,←e]at h2
 have h3:decide (b.length<4)=false:=decide_eq_false (by omega)
 rw[h3]at h2
 simp at h2
theorem t37k {b:List Int}(h:NoFr b):n3r [.l TB b]=some (0,[.b true]):=by
 obtain⟨hw,hl,hn⟩:=h
 exact k4u (FI hw (by omega) fun _ _ _ _ _ _ _=>hn _) (F26 hw (by omega) fun _ _ _ _ _ _=>hn _) (F28 hw (by omega) fun _ _ _ _ _ _=>hn _) (F30 hw (by omega) fun _ _ _ _ _ _ _ _=>hn _) (FL hw (by omega) fun _ _ _ _ _ _=>hn _)
  (w4_0 hw hl (fun _ _ _ _ _ _ _=>hn _) (fun _ _ _ _ _ _=>hn _) (fun _ _ _ _ _ _=>hn _) (fun _ _ _ _ _ _ _ _=>hn _) (fun _ _ _ _ _ _=>hn _)).1
def most:Bool→Bool→Bool→Bool→Bool
 |true,true,true,_=>true
 |true,true,false,true=>true
 |true,false,true,true=>true
 |false,true,true,true=>true
 |_,_,_,_=>false
theorem t5k (v0:Int)(v1:Int)(v2:Int)(v3:Int)(v4:Int)(v5:List Cmd)(v6:Int)(v7:Int)(v8:Int)(v9:Int)(v10:Int)(v11:Int)(v12:Int)(v13:Int)(v14:List Int)(v15:Int)(v16:Int)(v17:Int)(v18:Int)(v19:Int)(v20:Int)(v21:List Int)(v22:Int)(v23:Int)(v24:Int)(v25:Int)(v26:Int)(v27:List Int)(w:List Int)(g0:0≤v0∧v0<256)(g6:0≤v6∧v6<256)(g23:0≤v23∧v23<256)(g24:0≤v24∧v24<256)(g2:0≤v2∧v2<18446744073709551616)(g9:0≤v9∧v9<18446744073709551616)(g11:0≤v11∧v11<18446744073709551616)(g12:0≤v12∧v12<18446744073709551616)(g13:0≤v13∧v13<18446744073709551616)(g18:0≤v18∧v18<18446744073709551616)(g19:0≤v19∧v19<18446744073709551616)(g20:0≤v20∧v20<18446744073709551616)(g3:0≤v3∧v3<4294967296)(g4:0≤v4∧v4<4294967296)(g10:0≤v10∧v10<4294967296)(g15:0≤v15∧v15<4294967296)(g22:0≤v22∧v22<4294967296)(t14:Wb v14∧v14.length=64)(t21:Wb v21∧v21.length=64)(w27:Wb v27)(n5:v5.length≤1000)(n27:v27.length≤5000)(nw:NoFr w)(hc:most (v5.all h3w&&(win 1099511627776 [v1]&&decide ((v5.length:Int)≤8))) (win 1099511627776 [v7,v8]) (win 1099511627776 [v16,v17]) (win 4611686018427387904 [v25,v26]&&decide ((v27.length:Int)≤2048))=true):(q3p [.n v0,.n v1,.n v2,.n v3,.n v4,.l TC v5,.n v6,.n v7,.n v8,.n v9,.n v10,.n v11,.n v12,.n v13,.l TB v14,.n v15,.n v16,.n v17,.n v18,.n v19,.n v20,.l TB v21,.n v22,.n v23,.n v24,.n v25,.n v26,.l TB v27,.l TB w]).sel=some true:=by
 have n5':(v5.length:Int)≤1000:=by omega
 have n27':(v27.length:Int)≤5000:=by omega
 have nw':(w.length:Int)≤3000:=by have:=nw.2.1;omega
 have ew:=t37k nw
 obtain⟨L3,s1,s2,s3,s4⟩:=okS (a:=v11) (b:=v12) (c:=v13) (t:=v14) (u:=v15) ⟨g11,g12,g13,t14,g15⟩
 cases hi:(v5.all h3w&&(win 1099511627776 [v1]&&decide ((v5.length:Int)≤8)))with
 |true=>
  obtain⟨L1,i1,i2,i3,i4,i5⟩:=okI (c:=v0) (y:=v1) (q:=v2) (a:=v3) (b:=v4) (l:=v5) ⟨g0,g2,g3,g4,hi⟩ (by omega)
  cases ho:(win 1099511627776 [v7,v8])with
  |true=>
   obtain⟨L2,o1,o2,o3,o4⟩:=okO (c:=v6) (y:=v7) (e:=v8) (q:=v9) (u:=v10) ⟨g6,g9,g10,ho⟩
   cases hg:(win 1099511627776 [v16,v17])with
   |true=>
    obtain⟨L4,r1,r2,r3,r4⟩:=okG (e:=v16) (y:=v17) (a:=v18) (b:=v19) (c:=v20) (t:=v21) (u:=v22) ⟨g18,g19,g20,t21,g22,hg⟩
    cases hl:(win 4611686018427387904 [v25,v26]&&decide ((v27.length:Int)≤2048))with
    |true=>
     obtain⟨L5,l1,l2,l3,l4⟩:=okL (x:=v23) (y:=v24) (s:=v25) (k:=v26) (l:=v27) ⟨g23,g24,hl,w27⟩
     exact s3p n5' n27' nw' (h3z _) (h3z _) i1 i2 i3 i4 i5 o1 o2 o3 o4 s1 s2 s3 s4 r1 r2 r3 r4 l1 l2 (q3t _) l3 l4 ew t14.2 t21.2 rfl
    |false=>
     obtain⟨l1,l3⟩:=noL (x:=v23) (y:=v24) (s:=v25) (k:=v26) (l:=v27) g23 g24 hl
     exact t3e n5' n27' nw' (h3z _) (h3z _) i1 i2 i3 i4 i5 o1 o2 o3 o4 s1 s2 s3 s4 r1 r2 r3 r4 l1 l3 ew t14.2 t21.2 rfl
   |false=>
    obtain⟨r1,r3⟩:=noG (e:=v16) (y:=v17) (a:=v18) (b:=v19) (c:=v20) (t:=v21) (u:=v22) t21.2 hg
    cases hl:(win 4611686018427387904 [v25,v26]&&decide ((v27.length:Int)≤2048))with
    |true=>
     obtain⟨L5,l1,l2,l3,l4⟩:=okL (x:=v23) (y:=v24) (s:=v25) (k:=v26) (l:=v27) ⟨g23,g24,hl,w27⟩
     exact t3c n5' n27' nw' (h3z _) (h3z _) i1 i2 i3 i4 i5 o1 o2 o3 o4 s1 s2 s3 s4 r1 r3 l1 l2 (q3t _) l3 l4 ew t14.2 t21.2 rfl
    |false=>
     exact absurd hc (by rw[hi,ho,hg,hl];decide)
  |false=>
   obtain⟨o1,o3⟩:=noO (c:=v6) (y:=v7) (e:=v8) (q:=v9) (u:=v10) g6 ho
   cases hg:(win 1099511627776 [v16,v17])with
   |true=>
    obtain⟨L4,r1,r2,r3,r4⟩:=okG (e:=v16) (y:=v17) (a:=v18) (b:=v19) (c:=v20) (t:=v21) (u:=v22) ⟨g18,g19,g20,t21,g22,hg⟩
    cases hl:(win 4611686018427387904 [v25,v26]&&decide ((v27.length:Int)≤2048))with
    |true=>
     obtain⟨L5,l1,l2,l3,l4⟩:=okL (x:=v23) (y:=v24) (s:=v25) (k:=v26) (l:=v27) ⟨g23,g24,hl,w27⟩
     exact t3y n5' n27' nw' (h3z _) (h3z _) i1 i2 i3 i4 i5 o1 o3 s1 s2 s3 s4 r1 r2 r3 r4 l1 l2 (q3t _) l3 l4 ew t14.2 t21.2 rfl
    |false=>
     exact absurd hc (by rw[hi,ho,hg,hl];decide)
   |false=>
    exact absurd hc (by rw[hi,ho,hg];generalize (win 4611686018427387904 [v25,v26]&&decide ((v27.length:Int)≤2048))=z0;cases z0<;>decide)
 |false=>
  obtain⟨i1,i3⟩:=noI (c:=v0) (y:=v1) (q:=v2) (a:=v3) (b:=v4) (l:=v5) g0 hi (by omega)
  cases ho:(win 1099511627776 [v7,v8])with
  |true=>
   obtain⟨L2,o1,o2,o3,o4⟩:=okO (c:=v6) (y:=v7) (e:=v8) (q:=v9) (u:=v10) ⟨g6,g9,g10,ho⟩
   cases hg:(win 1099511627776 [v16,v17])with
   |true=>
    obtain⟨L4,r1,r2,r3,r4⟩:=okG (e:=v16) (y:=v17) (a:=v18) (b:=v19) (c:=v20) (t:=v21) (u:=v22) ⟨g18,g19,g20,t21,g22,hg⟩
    cases hl:(win 4611686018427387904 [v25,v26]&&decide ((v27.length:Int)≤2048))with
    |true=>
     obtain⟨L5,l1,l2,l3,l4⟩:=okL (x:=v23) (y:=v24) (s:=v25) (k:=v26) (l:=v27) ⟨g23,g24,hl,w27⟩
     exact u3y n5' n27' nw' (h3z _) (h3z _) i1 i3 o1 o2 o3 o4 s1 s2 s3 s4 r1 r2 r3 r4 l1 l2 (q3t _) l3 l4 ew t14.2 t21.2 rfl
    |false=>
     exact absurd hc (by rw[hi,ho,hg,hl];decide)
   |false=>
    exact absurd hc (by rw[hi,ho,hg];generalize (win 4611686018427387904 [v25,v26]&&decide ((v27.length:Int)≤2048))=z0;cases z0<;>decide)
  |false=>
   exact absurd hc (by rw[hi,ho];generalize (win 1099511627776 [v16,v17])=z0;generalize (win 4611686018427387904 [v25,v26]&&decide ((v27.length:Int)≤2048))=z1;cases z0<;>cases z1<;>decide)
def pq3 (v0:Int)(v1:Int)(v2:Int)(v3:Int)(v4:Int)(v5:List Cmd)(v6:Int)(v7:Int)(v8:Int)(v9:Int)(v10:Int)(v11:Int)(v12:Int)(v13:Int)(v14:List Int)(v15:Int)(v16:Int)(v17:Int)(v18:Int)(v19:Int)(v20:Int)(v21:List Int)(v22:Int)(v23:Int)(v24:Int)(v25:Int)(v26:Int)(v27:List Int):Bool:=r8 v0&&r8 v6&&r8 v23&&r8 v24&&decide (v14.length=64)&&decide (v21.length=64)&&v14.all r8&&v21.all r8&&v27.all r8
def q3 (d:List Dat):Bool:=pq3 (gn d 0) (gn d 1) (gn d 2) (gn d 3) (gn d 4) (gl TC d 5) (gn d 6) (gn d 7) (gn d 8) (gn d 9) (gn d 10) (gn d 11) (gn d 12) (gn d 13) (gl TB d 14) (gn d 15) (gn d 16) (gn d 17) (gn d 18) (gn d 19) (gn d 20) (gl TB d 21) (gn d 22) (gn d 23) (gn d 24) (gn d 25) (gn d 26) (gl TB d 27)
def pq5 (v0:Int)(v1:Int)(v2:Int)(v3:Int)(v4:Int)(v5:List Cmd)(v6:Int)(v7:Int)(v8:Int)(v9:Int)(v10:Int)(v11:Int)(v12:Int)(v13:Int)(v14:List Int)(v15:Int)(v16:Int)(v17:Int)(v18:Int)(v19:Int)(v20:Int)(v21:List Int)(v22:Int)(v23:Int)(v24:Int)(v25:Int)(v26:Int)(v27:List Int)(w:List Int):Bool:=r8 v0&&r8 v6&&r8 v23&&r8 v24&&rN 18446744073709551616 v2&&rN 18446744073709551616 v9&&rN 18446744073709551616 v11&&rN 18446744073709551616 v12&&rN 18446744073709551616 v13&&rN 18446744073709551616 v18&&rN 18446744073709551616 v19&&rN 18446744073709551616 v20&&rN 4294967296 v3&&rN 4294967296 v4&&rN 4294967296 v10&&rN 4294967296 v15&&rN 4294967296 v22&&v14.all r8&&decide (v14.length=64)&&v21.all r8&&decide (v21.length=64)&&v27.all r8&&decide (v5.length≤1000)&&decide (v27.length≤5000)&&nfb w&&most (v5.all h3w&&(win 1099511627776 [v1]&&decide ((v5.length:Int)≤8))) (win 1099511627776 [v7,v8]) (win 1099511627776 [v16,v17]) (win 4611686018427387904 [v25,v26]&&decide ((v27.length:Int)≤2048))
def q5 (d:List Dat):Bool:=pq5 (gn d 0) (gn d 1) (gn d 2) (gn d 3) (gn d 4) (gl TC d 5) (gn d 6) (gn d 7) (gn d 8) (gn d 9) (gn d 10) (gn d 11) (gn d 12) (gn d 13) (gl TB d 14) (gn d 15) (gn d 16) (gn d 17) (gn d 18) (gn d 19) (gn d 20) (gl TB d 21) (gn d 22) (gn d 23) (gn d 24) (gn d 25) (gn d 26) (gl TB d 27) (gl TB d 28)
def q4 (d:List Dat):Bool:=nfb (gl TB d 0)
theorem q3_ok {v0:Int}{v1:Int}{v2:Int}{v3:Int}{v4:Int}{v5:List Cmd}{v6:Int}{v7:Int}{v8:Int}{v9:Int}{v10:Int}{v11:Int}{v12:Int}{v13:Int}{v14:List Int}{v15:Int}{v16:Int}{v17:Int}{v18:Int}{v19:Int}{v20:Int}{v21:List Int}{v22:Int}{v23:Int}{v24:Int}{v25:Int}{v26:Int}{v27:List Int}(h:q3 [.n v0,.n v1,.n v2,.n v3,.n v4,.l TC v5,.n v6,.n v7,.n v8,.n v9,.n v10,.n v11,.n v12,.n v13,.l TB v14,.n v15,.n v16,.n v17,.n v18,.n v19,.n v20,.l TB v21,.n v22,.n v23,.n v24,.n v25,.n v26,.l TB v27]=true):(ev_W3 [.n v0,.n v1,.n v2,.n v3,.n v4,.l TC v5,.n v6,.n v7,.n v8,.n v9,.n v10,.n v11,.n v12,.n v13,.l TB v14,.n v15,.n v16,.n v17,.n v18,.n v19,.n v20,.l TB v21,.n v22,.n v23,.n v24,.n v25,.n v26,.l TB v27]).sel=some true:=by
 have h:pq3 v0 v1 v2 v3 v4 v5 v6 v7 v8 v9 v10 v11 v12 v13 v14 v15 v16 v17 v18 v19 v20 v21 v22 v23 v24 v25 v26 v27=true:=h
 unfold pq3 at h
 simp only[Bool.and_eq_true,decide_eq_true_eq]at h
 obtain⟨⟨⟨⟨⟨⟨⟨⟨h0,h1⟩,h2⟩,h3⟩,h4⟩,h5⟩,h6⟩,h7⟩,h8⟩:=h
 exact t3 v0 v1 v2 v3 v4 v5 v6 v7 v8 v9 v10 v11 v12 v13 v14 v15 v16 v17 v18 v19 v20 v21 v22 v23 v24 v25 v26 v27 (l3s h0) (l3s h1) (l3s h2) (l3s h3) h4 h5 (m3a h6) (m3a h7) (m3a h8)
theorem q5_ok {v0:Int}{v1:Int}{v2:Int}{v3:Int}{v4:Int}{v5:List Cmd}{v6:Int}{v7:Int}{v8:Int}{v9:Int}{v10:Int}{v11:Int}{v12:Int}{v13:Int}{v14:List Int}{v15:Int}{v16:Int}{v17:Int}{v18:Int}{v19:Int}{v20:Int}{v21:List Int}{v22:Int}{v23:Int}{v24:Int}{v25:Int}{v26:Int}{v27:List Int}{w:List Int}(h:q5 [.n v0,.n v1,.n v2,.n v3,.n v4,.l TC v5,.n v6,.n v7,.n v8,.n v9,.n v10,.n v11,.n v12,.n v13,.l TB v14,.n v15,.n v16,.n v17,.n v18,.n v19,.n v20,.l TB v21,.n v22,.n v23,.n v24,.n v25,.n v26,.l TB v27,.l TB w]=true):(q3p [.n v0,.n v1,.n v2,.n v3,.n v4,.l TC v5,.n v6,.n v7,.n v8,.n v9,.n v10,.n v11,.n v12,.n v13,.l TB v14,.n v15,.n v16,.n v17,.n v18,.n v19,.n v20,.l TB v21,.n v22,.n v23,.n v24,.n v25,.n v26,.l TB v27,.l TB w]).sel=some true:=by
 have h:pq5 v0 v1 v2 v3 v4 v5 v6 v7 v8 v9 v10 v11 v12 v13 v14 v15 v16 v17 v18 v19 v20 v21 v22 v23 v24 v25 v26 v27 w=true:=h
 unfold pq5 at h
 simp only[Bool.and_eq_true,decide_eq_true_eq]at h
 obtain⟨⟨⟨⟨⟨⟨⟨⟨⟨⟨⟨⟨⟨⟨⟨⟨⟨⟨⟨⟨⟨⟨⟨⟨⟨h0,h1⟩,h2⟩,h3⟩,h4⟩,h5⟩,h6⟩,h7⟩,h8⟩,h9⟩,h10⟩,h11⟩,h12⟩,h13⟩,h14⟩,h15⟩,h16⟩,h17⟩,h18⟩,h19⟩,h20⟩,h21⟩,h22⟩,h23⟩,h24⟩,h25⟩:=h
 exact t5k v0 v1 v2 v3 v4 v5 v6 v7 v8 v9 v10 v11 v12 v13 v14 v15 v16 v17 v18 v19 v20 v21 v22 v23 v24 v25 v26 v27 w (l3s h0) (l3s h1) (l3s h2) (l3s h3) (m3k h4) (m3k h5) (m3k h6) (m3k h7) (m3k h8) (m3k h9) (m3k h10) (m3k h11) (m3k h12) (m3k h13) (m3k h14) (m3k h15) (m3k h16) ⟨m3a h17,h18⟩ ⟨m3a h19,h20⟩ (m3a h21) h22 h23 (u3e h24) h25
theorem q4_ok {b:List Int}(h:q4 [.l TB b]=true):(k4f [.l TB b]).sel=some true:=by
 obtain⟨hw,hl,hn⟩:=u3e (b:=b) h
 exact(w4_0 hw hl (fun _ _ _ _ _ _ _=>hn _) (fun _ _ _ _ _ _=>hn _) (fun _ _ _ _ _ _=>hn _) (fun _ _ _ _ _ _ _ _=>hn _) (fun _ _ _ _ _ _=>hn _)).2
def inCo (h b:Nat):PB:=.cells [.int .u8 h,.int .i64 (h+1),.int .u64 (h+2),.int .u32 (h+3),.int .u32 (h+4),.own b]
def liCo (h b:Nat):PB:=.cells [.int .u8 h,.int .u8 (h+1),.int .i64 (h+2),.int .i64 (h+3),.own b]
def S_k3:BSh:={args:=[inV 0,ouV 6,stV 11,loV 16,liV 23],outs:=[(.bool 0,[])]}
def k3l:OpA:=r3c [.n,.n,.n,.n,.n,.l TC,.n,.n,.n,.n,.n,.n,.n,.n,.l TB,.n,.n,.n,.n,.n,.n,.l TB,.n,.n,.n,.n,.n,.l TB] (q3)
def cs_k3:FuncId→Option a0q:=a0s 3 (S_k3.k k3l) j4o
theorem g3o:CsOk Try.prog cs_k3:=csA y3d (m3r (op:=k3l) (args:=[inV 0,ouV 6,stV 11,loV 16,liV 23]) j3f a4e false (ls:=(lsM [(4,L3_4)] (0))) ls_3_ok fun env x he=>by
 obtain⟨rfl,h,hp⟩:=j3v he
 refine⟨rfl,?_⟩
 obtain⟨x0,_,rfl,h0⟩:=t0c h
 obtain⟨x1,_,rfl,h1⟩:=t0c h0
 obtain⟨x2,_,rfl,h2⟩:=t0c h1
 obtain⟨x3,_,rfl,h3⟩:=t0c h2
 obtain⟨x4,_,rfl,h4⟩:=t0c h3
 obtain⟨x5,_,rfl,h5⟩:=t1c h4
 obtain⟨x6,_,rfl,h6⟩:=t0c h5
 obtain⟨x7,_,rfl,h7⟩:=t0c h6
 obtain⟨x8,_,rfl,h8⟩:=t0c h7
 obtain⟨x9,_,rfl,h9⟩:=t0c h8
 obtain⟨x10,_,rfl,h10⟩:=t0c h9
 obtain⟨x11,_,rfl,h11⟩:=t0c h10
 obtain⟨x12,_,rfl,h12⟩:=t0c h11
 obtain⟨x13,_,rfl,h13⟩:=t0c h12
 obtain⟨x14,_,rfl,h14⟩:=t1c h13
 obtain⟨x15,_,rfl,h15⟩:=t0c h14
 obtain⟨x16,_,rfl,h16⟩:=t0c h15
 obtain⟨x17,_,rfl,h17⟩:=t0c h16
 obtain⟨x18,_,rfl,h18⟩:=t0c h17
 obtain⟨x19,_,rfl,h19⟩:=t0c h18
 obtain⟨x20,_,rfl,h20⟩:=t0c h19
 obtain⟨x21,_,rfl,h21⟩:=t1c h20
 obtain⟨x22,_,rfl,h22⟩:=t0c h21
 obtain⟨x23,_,rfl,h23⟩:=t0c h22
 obtain⟨x24,_,rfl,h24⟩:=t0c h23
 obtain⟨x25,_,rfl,h25⟩:=t0c h24
 obtain⟨x26,_,rfl,h26⟩:=t0c h25
 obtain⟨x27,_,rfl,h27⟩:=t1c h26
 cases h3p h27
 rw[←lawB_lk];exact q3_ok hp)
def S_k4:BSh:={args:=[.imm TB 0],outs:=[(.bool 0,[])]}
def n3b:OpA:=r3c [.l TB] (q4)
def cs_k4:FuncId→Option a0q:=a0s 4 (S_k4.k n3b) cs_k3
theorem g3l:CsOk Try.prog cs_k4:=csA g3o (m3r (op:=n3b) (args:=[.imm TB 0]) g4t a4e false (ls:=ls0) (LsOk.none _ _ _) fun env x he=>by
 obtain⟨rfl,h,hp⟩:=j3v he
 refine⟨rfl,?_⟩
 obtain⟨x0,_,rfl,h0⟩:=t1c h
 cases h3p h0
 rw[←lawB_lk];exact q4_ok hp)
def S_k5:BSh:={args:=[inV 0,ouV 6,stV 11,loV 16,liV 23,.imm TB 28],outs:=[(.bool 0,[])]}
def j3g:OpA:=r3c [.n,.n,.n,.n,.n,.l TC,.n,.n,.n,.n,.n,.n,.n,.n,.l TB,.n,.n,.n,.n,.n,.n,.l TB,.n,.n,.n,.n,.n,.l TB,.l TB] (q5)
def j4m:FuncId→Option a0q:=a0s 5 (S_k5.k j3g) cs_k4
theorem d3i:CsOk Try.prog j4m:=csA g3l (m3r (op:=j3g) (args:=[inV 0,ouV 6,stV 11,loV 16,liV 23,.imm TB 28]) y3d a4e false (ls:=ls0) (LsOk.none _ _ _) fun env x he=>by
 obtain⟨rfl,h,hp⟩:=j3v he
 refine⟨rfl,?_⟩
 obtain⟨x0,_,rfl,h0⟩:=t0c h
 obtain⟨x1,_,rfl,h1⟩:=t0c h0
 obtain⟨x2,_,rfl,h2⟩:=t0c h1
 obtain⟨x3,_,rfl,h3⟩:=t0c h2
 obtain⟨x4,_,rfl,h4⟩:=t0c h3
 obtain⟨x5,_,rfl,h5⟩:=t1c h4
 obtain⟨x6,_,rfl,h6⟩:=t0c h5
 obtain⟨x7,_,rfl,h7⟩:=t0c h6
 obtain⟨x8,_,rfl,h8⟩:=t0c h7
 obtain⟨x9,_,rfl,h9⟩:=t0c h8
 obtain⟨x10,_,rfl,h10⟩:=t0c h9
 obtain⟨x11,_,rfl,h11⟩:=t0c h10
 obtain⟨x12,_,rfl,h12⟩:=t0c h11
 obtain⟨x13,_,rfl,h13⟩:=t0c h12
 obtain⟨x14,_,rfl,h14⟩:=t1c h13
 obtain⟨x15,_,rfl,h15⟩:=t0c h14
 obtain⟨x16,_,rfl,h16⟩:=t0c h15
 obtain⟨x17,_,rfl,h17⟩:=t0c h16
 obtain⟨x18,_,rfl,h18⟩:=t0c h17
 obtain⟨x19,_,rfl,h19⟩:=t0c h18
 obtain⟨x20,_,rfl,h20⟩:=t0c h19
 obtain⟨x21,_,rfl,h21⟩:=t1c h20
 obtain⟨x22,_,rfl,h22⟩:=t0c h21
 obtain⟨x23,_,rfl,h23⟩:=t0c h22
 obtain⟨x24,_,rfl,h24⟩:=t0c h23
 obtain⟨x25,_,rfl,h25⟩:=t0c h24
 obtain⟨x26,_,rfl,h26⟩:=t0c h25
 obtain⟨x27,_,rfl,h27⟩:=t1c h26
 obtain⟨x28,_,rfl,h28⟩:=t1c h27
 cases h3p h28
 rw[←lawB_lk];exact q5_ok hp)
def g4z:LSh:={K:=0,log:=[],ins:=[(sh 219 [(1,.ptr 0 0),(2,.ptr 1 0),(3,.ptr 2 0),(4,.ptr 3 0),(5,.ptr 4 0),(6,.own 5),(7,.own 6),(8,.int .i64 0),(9,.int .i64 1)],[inCo 2 7,ouB 7,stB 12,loB 17,liCo 24 8,.vec [.own 9,.own 10,.own 11,.own 12,.own 13],.arr TI 28,.arr TC 29,.arr TB 30,.arr TB 31,.arr TB 32,.arr TB 33,.arr TB 34,.arr TB 35])],nils:=[],outs:=[(.exit 2,sh 219 [(1,.ptr 0 0),(2,.ptr 1 0),(3,.ptr 2 0),(4,.ptr 3 0),(5,.ptr 4 0),(6,.own 5),(7,.own 6),(8,.int .i64 0)],[inCo 1 7,ouB 6,stB 11,loB 16,liCo 23 8,.vec [.own 9,.own 10,.own 11,.own 12,.own 13],.arr TI 27,.arr TC 28,.arr TB 29,.arr TB 30,.arr TB 31,.arr TB 32,.arr TB 33,.arr TB 34]),(.ret,sh 219 [(0,.bool 0)],[])],cv:=[]}
def h3x:List Dat→Tree Step:=evL j4m 6 15 ls0 g4z
theorem j4b: ∃op,IsL h3x 6 15 g4z op:=bxL d3i (LsOk.none _ _ _)
def l3m:OpA:=opL j4b
theorem j3s (env:List Dat):l3m env=a0b h3x FU env:=j4w j4b env
theorem z3z {n0 n1 n2 n3 n4 n5 n6 n7 n8 n9 n10 n11 n12 n13 n14:Int}{l15:List (Ty.den TB)}{n16 n17 n18 n19 n20 n21:Int}{l22:List (Ty.den TB)}{n23 n24 n25 n26 n27:Int}{l28:List (Ty.den TI)}{l29:List (Ty.den TC)}{l30 l31 l32 l33 l34 l35:List (Ty.den TB)}{b36 b37 b38:Bool}(g0:0≤n1)(g1:c0b (r2b l31)=l31)(g2:l15.length=64)(g3:l22.length=64)(h0:(n1<(↑(List.length l31):Int)))(h1:(inR n1 (List.length (c0b (r2b l31)))=true))(h2:(n3b [.l TB (List.set (c0b (r2b l31)) (Int.toNat n1) (ixor IntKind.u8 (List.getD (c0b (r2b l31)) (Int.toNat n1) (0:Int)) (64:Int)))])=(some (0,[.b b36])))(h3:(b36=true))(h4:(n3b [.l TB (List.take (Int.toNat n1-0) (List.drop 0 l31))])=(some (0,[.b b37])))(h5:(b37=true))(h6:(j3g [.n n2,.n n3,.n n4,.n n5,.n n6,.l TC l29,.n n7,.n n8,.n n9,.n n10,.n n11,.n n12,.n n13,.n n14,.l TB l15,.n n16,.n n17,.n n18,.n n19,.n n20,.n n21,.l TB l22,.n n23,.n n24,.n n25,.n n26,.n n27,.l TB l30,.l TB (List.set (c0b (r2b l31)) (Int.toNat n1) (ixor IntKind.u8 (List.getD (c0b (r2b l31)) (Int.toNat n1) (0:Int)) (64:Int)))])=(some (0,[.b b38])))(h7:(b38=true)):(h3x (.k 0::.n 0::.n n1::.n n2::.n n3::.n n4::.n n5::.n n6::.n n7::.n n8::.n n9::.n n10::.n n11::.n n12::.n n13::.n n14::.l TB l15::.n n16::.n n17::.n n18::.n n19::.n n20::.n n21::.l TB l22::.n n23::.n n24::.n n25::.n n26::.n n27::.l TI l28::.l TC l29::.l TB l30::.l TB l31::.l TB l32::.l TB l33::.l TB l34::.l TB l35::[])).sel=some (Step.go (.k 0::.n (0:Int)::.n (IntKind.wrap .i64 (n1+(1:Int)))::.n n2::.n n3::.n n4::.n n5::.n n6::.n n7::.n n8::.n n9::.n n10::.n n11::.n n12::.n n13::.n n14::.l TB l15::.n n16::.n n17::.n n18::.n n19::.n n20::.n n21::.l TB l22::.n n23::.n n24::.n n25::.n n26::.n n27::.l TI l28::.l TC l29::.l TB l30::.l TB l31::.l TB l32::.l TB l33::.l TB l34::.l TB l35::[])):=sP [1,1]<|sT (dt h0)<|sP [1]<|sT h1<|sT h1<|sA h2<|sP [1,1]<|sF (nt h3)<|sP [1]<|sTo (c:=(decide ((0:Int)≤n1)&&decide (n1≤(↑(List.length l31):Int))))<|sTs (c:=(true&&decide ((0:Int)≤n1)))<|sA h4<|sP [1,1]<|sF (nt h5)<|sA h6<|sP [1,1]<|sF (nt h7)<|sP [1]<|sL
theorem a4l {n0 n1 n2 n3 n4 n5 n6 n7 n8 n9 n10 n11 n12 n13 n14:Int}{l15:List (Ty.den TB)}{n16 n17 n18 n19 n20 n21:Int}{l22:List (Ty.den TB)}{n23 n24 n25 n26 n27:Int}{l28:List (Ty.den TI)}{l29:List (Ty.den TC)}{l30 l31 l32 l33 l34 l35:List (Ty.den TB)}(g0:0≤n1)(g1:c0b (r2b l31)=l31)(g2:l15.length=64)(g3:l22.length=64)(h0:(¬n1<(↑(List.length l31):Int))):(h3x (.k 0::.n 0::.n n1::.n n2::.n n3::.n n4::.n n5::.n n6::.n n7::.n n8::.n n9::.n n10::.n n11::.n n12::.n n13::.n n14::.l TB l15::.n n16::.n n17::.n n18::.n n19::.n n20::.n n21::.l TB l22::.n n23::.n n24::.n n25::.n n26::.n n27::.l TI l28::.l TC l29::.l TB l30::.l TB l31::.l TB l32::.l TB l33::.l TB l34::.l TB l35::[])).sel=some (Step.stop 0 (.n (0:Int)::.n n2::.n n3::.n n4::.n n5::.n n6::.n n7::.n n8::.n n9::.n n10::.n n11::.n n12::.n n13::.n n14::.l TB l15::.n n16::.n n17::.n n18::.n n19::.n n20::.n n21::.l TB l22::.n n23::.n n24::.n n25::.n n26::.n n27::.l TI l28::.l TC l29::.l TB l30::.l TB l31::.l TB l32::.l TB l33::.l TB l34::.l TB l35::[])):=sP [1,1]<|sF (df h0)<|sP [1]<|sL
theorem a4k {n0 n1 n2 n3 n4 n5 n6 n7 n8 n9 n10 n11 n12 n13 n14:Int}{l15:List (Ty.den TB)}{n16 n17 n18 n19 n20 n21:Int}{l22:List (Ty.den TB)}{n23 n24 n25 n26 n27:Int}{l28:List (Ty.den TI)}{l29:List (Ty.den TC)}{l30 l31 l32 l33 l34 l35:List (Ty.den TB)}{b36 b37 b38:Bool}(g0:0≤n1)(g1:c0b (r2b l32)=l32)(g2:l15.length=64)(g3:l22.length=64)(h0:(n1<(↑(List.length l32):Int)))(h1:(inR n1 (List.length (c0b (r2b l32)))=true))(h2:(n3b [.l TB (List.set (c0b (r2b l32)) (Int.toNat n1) (ixor IntKind.u8 (List.getD (c0b (r2b l32)) (Int.toNat n1) (0:Int)) (64:Int)))])=(some (0,[.b b36])))(h3:(b36=true))(h4:(n3b [.l TB (List.take (Int.toNat n1-0) (List.drop 0 l32))])=(some (0,[.b b37])))(h5:(b37=true))(h6:(j3g [.n n2,.n n3,.n n4,.n n5,.n n6,.l TC l29,.n n7,.n n8,.n n9,.n n10,.n n11,.n n12,.n n13,.n n14,.l TB l15,.n n16,.n n17,.n n18,.n n19,.n n20,.n n21,.l TB l22,.n n23,.n n24,.n n25,.n n26,.n n27,.l TB l30,.l TB (List.set (c0b (r2b l32)) (Int.toNat n1) (ixor IntKind.u8 (List.getD (c0b (r2b l32)) (Int.toNat n1) (0:Int)) (64:Int)))])=(some (0,[.b b38])))(h7:(b38=true)):(h3x (.k 0::.n 1::.n n1::.n n2::.n n3::.n n4::.n n5::.n n6::.n n7::.n n8::.n n9::.n n10::.n n11::.n n12::.n n13::.n n14::.l TB l15::.n n16::.n n17::.n n18::.n n19::.n n20::.n n21::.l TB l22::.n n23::.n n24::.n n25::.n n26::.n n27::.l TI l28::.l TC l29::.l TB l30::.l TB l31::.l TB l32::.l TB l33::.l TB l34::.l TB l35::[])).sel=some (Step.go (.k 0::.n (1:Int)::.n (IntKind.wrap .i64 (n1+(1:Int)))::.n n2::.n n3::.n n4::.n n5::.n n6::.n n7::.n n8::.n n9::.n n10::.n n11::.n n12::.n n13::.n n14::.l TB l15::.n n16::.n n17::.n n18::.n n19::.n n20::.n n21::.l TB l22::.n n23::.n n24::.n n25::.n n26::.n n27::.l TI l28::.l TC l29::.l TB l30::.l TB l31::.l TB l32::.l TB l33::.l TB l34::.l TB l35::[])):=sP [1,0,1]<|sT (dt h0)<|sP [0,1]<|sT h1<|sT h1<|sA h2<|sP [1,1]<|sF (nt h3)<|sP [0,1]<|sTo (c:=(decide ((0:Int)≤n1)&&decide (n1≤(↑(List.length l32):Int))))<|sTs (c:=(true&&decide ((0:Int)≤n1)))<|sA h4<|sP [1,1]<|sF (nt h5)<|sA h6<|sP [1,1]<|sF (nt h7)<|sP [1]<|sL
theorem b4d {n0 n1 n2 n3 n4 n5 n6 n7 n8 n9 n10 n11 n12 n13 n14:Int}{l15:List (Ty.den TB)}{n16 n17 n18 n19 n20 n21:Int}{l22:List (Ty.den TB)}{n23 n24 n25 n26 n27:Int}{l28:List (Ty.den TI)}{l29:List (Ty.den TC)}{l30 l31 l32 l33 l34 l35:List (Ty.den TB)}(g0:0≤n1)(g1:c0b (r2b l32)=l32)(g2:l15.length=64)(g3:l22.length=64)(h0:(¬n1<(↑(List.length l32):Int))):(h3x (.k 0::.n 1::.n n1::.n n2::.n n3::.n n4::.n n5::.n n6::.n n7::.n n8::.n n9::.n n10::.n n11::.n n12::.n n13::.n n14::.l TB l15::.n n16::.n n17::.n n18::.n n19::.n n20::.n n21::.l TB l22::.n n23::.n n24::.n n25::.n n26::.n n27::.l TI l28::.l TC l29::.l TB l30::.l TB l31::.l TB l32::.l TB l33::.l TB l34::.l TB l35::[])).sel=some (Step.stop 0 (.n (1:Int)::.n n2::.n n3::.n n4::.n n5::.n n6::.n n7::.n n8::.n n9::.n n10::.n n11::.n n12::.n n13::.n n14::.l TB l15::.n n16::.n n17::.n n18::.n n19::.n n20::.n n21::.l TB l22::.n n23::.n n24::.n n25::.n n26::.n n27::.l TI l28::.l TC l29::.l TB l30::.l TB l31::.l TB l32::.l TB l33::.l TB l34::.l TB l35::[])):=sP [1,0,1]<|sF (df h0)<|sP [1]<|sL
theorem b4e {n0 n1 n2 n3 n4 n5 n6 n7 n8 n9 n10 n11 n12 n13 n14:Int}{l15:List (Ty.den TB)}{n16 n17 n18 n19 n20 n21:Int}{l22:List (Ty.den TB)}{n23 n24 n25 n26 n27:Int}{l28:List (Ty.den TI)}{l29:List (Ty.den TC)}{l30 l31 l32 l33 l34 l35:List (Ty.den TB)}{b36 b37 b38:Bool}(g0:0≤n1)(g1:c0b (r2b l33)=l33)(g2:l15.length=64)(g3:l22.length=64)(h0:(n1<(↑(List.length l33):Int)))(h1:(inR n1 (List.length (c0b (r2b l33)))=true))(h2:(n3b [.l TB (List.set (c0b (r2b l33)) (Int.toNat n1) (ixor IntKind.u8 (List.getD (c0b (r2b l33)) (Int.toNat n1) (0:Int)) (64:Int)))])=(some (0,[.b b36])))(h3:(b36=true))(h4:(n3b [.l TB (List.take (Int.toNat n1-0) (List.drop 0 l33))])=(some (0,[.b b37])))(h5:(b37=true))(h6:(j3g [.n n2,.n n3,.n n4,.n n5,.n n6,.l TC l29,.n n7,.n n8,.n n9,.n n10,.n n11,.n n12,.n n13,.n n14,.l TB l15,.n n16,.n n17,.n n18,.n n19,.n n20,.n n21,.l TB l22,.n n23,.n n24,.n n25,.n n26,.n n27,.l TB l30,.l TB (List.set (c0b (r2b l33)) (Int.toNat n1) (ixor IntKind.u8 (List.getD (c0b (r2b l33)) (Int.toNat n1) (0:Int)) (64:Int)))])=(some (0,[.b b38])))(h7:(b38=true)):(h3x (.k 0::.n 2::.n n1::.n n2::.n n3::.n n4::.n n5::.n n6::.n n7::.n n8::.n n9::.n n10::.n n11::.n n12::.n n13::.n n14::.l TB l15::.n n16::.n n17::.n n18::.n n19::.n n20::.n n21::.l TB l22::.n n23::.n n24::.n n25::.n n26::.n n27::.l TI l28::.l TC l29::.l TB l30::.l TB l31::.l TB l32::.l TB l33::.l TB l34::.l TB l35::[])).sel=some (Step.go (.k 0::.n (2:Int)::.n (IntKind.wrap .i64 (n1+(1:Int)))::.n n2::.n n3::.n n4::.n n5::.n n6::.n n7::.n n8::.n n9::.n n10::.n n11::.n n12::.n n13::.n n14::.l TB l15::.n n16::.n n17::.n n18::.n n19::.n n20::.n n21::.l TB l22::.n n23::.n n24::.n n25::.n n26::.n n27::.l TI l28::.l TC l29::.l TB l30::.l TB l31::.l TB l32::.l TB l33::.l TB l34::.l TB l35::[])):=sP [1,0,0,1]<|sT (dt h0)<|sP [0,0,1]<|sT h1<|sT h1<|sA h2<|sP [1,1]<|sF (nt h3)<|sP [0,0,1]<|sTo (c:=(decide ((0:Int)≤n1)&&decide (n1≤(↑(List.length l33):Int))))<|sTs (c:=(true&&decide ((0:Int)≤n1)))<|sA h4<|sP [1,1]<|sF (nt h5)<|sA h6<|sP [1,1]<|sF (nt h7)<|sP [1]<|sL
theorem z3p {n0 n1 n2 n3 n4 n5 n6 n7 n8 n9 n10 n11 n12 n13 n14:Int}{l15:List (Ty.den TB)}{n16 n17 n18 n19 n20 n21:Int}{l22:List (Ty.den TB)}{n23 n24 n25 n26 n27:Int}{l28:List (Ty.den TI)}{l29:List (Ty.den TC)}{l30 l31 l32 l33 l34 l35:List (Ty.den TB)}(g0:0≤n1)(g1:c0b (r2b l33)=l33)(g2:l15.length=64)(g3:l22.length=64)(h0:(¬n1<(↑(List.length l33):Int))):(h3x (.k 0::.n 2::.n n1::.n n2::.n n3::.n n4::.n n5::.n n6::.n n7::.n n8::.n n9::.n n10::.n n11::.n n12::.n n13::.n n14::.l TB l15::.n n16::.n n17::.n n18::.n n19::.n n20::.n n21::.l TB l22::.n n23::.n n24::.n n25::.n n26::.n n27::.l TI l28::.l TC l29::.l TB l30::.l TB l31::.l TB l32::.l TB l33::.l TB l34::.l TB l35::[])).sel=some (Step.stop 0 (.n (2:Int)::.n n2::.n n3::.n n4::.n n5::.n n6::.n n7::.n n8::.n n9::.n n10::.n n11::.n n12::.n n13::.n n14::.l TB l15::.n n16::.n n17::.n n18::.n n19::.n n20::.n n21::.l TB l22::.n n23::.n n24::.n n25::.n n26::.n n27::.l TI l28::.l TC l29::.l TB l30::.l TB l31::.l TB l32::.l TB l33::.l TB l34::.l TB l35::[])):=sP [1,0,0,1]<|sF (df h0)<|sP [1]<|sL
theorem y3x {n0 n1 n2 n3 n4 n5 n6 n7 n8 n9 n10 n11 n12 n13 n14:Int}{l15:List (Ty.den TB)}{n16 n17 n18 n19 n20 n21:Int}{l22:List (Ty.den TB)}{n23 n24 n25 n26 n27:Int}{l28:List (Ty.den TI)}{l29:List (Ty.den TC)}{l30 l31 l32 l33 l34 l35:List (Ty.den TB)}{b36 b37 b38:Bool}(g0:0≤n1)(g1:c0b (r2b l34)=l34)(g2:l15.length=64)(g3:l22.length=64)(h0:(n1<(↑(List.length l34):Int)))(h1:(inR n1 (List.length (c0b (r2b l34)))=true))(h2:(n3b [.l TB (List.set (c0b (r2b l34)) (Int.toNat n1) (ixor IntKind.u8 (List.getD (c0b (r2b l34)) (Int.toNat n1) (0:Int)) (64:Int)))])=(some (0,[.b b36])))(h3:(b36=true))(h4:(n3b [.l TB (List.take (Int.toNat n1-0) (List.drop 0 l34))])=(some (0,[.b b37])))(h5:(b37=true))(h6:(j3g [.n n2,.n n3,.n n4,.n n5,.n n6,.l TC l29,.n n7,.n n8,.n n9,.n n10,.n n11,.n n12,.n n13,.n n14,.l TB l15,.n n16,.n n17,.n n18,.n n19,.n n20,.n n21,.l TB l22,.n n23,.n n24,.n n25,.n n26,.n n27,.l TB l30,.l TB (List.set (c0b (r2b l34)) (Int.toNat n1) (ixor IntKind.u8 (List.getD (c0b (r2b l34)) (Int.toNat n1) (0:Int)) (64:Int)))])=(some (0,[.b b38])))(h7:(b38=true)):(h3x (.k 0::.n 3::.n n1::.n n2::.n n3::.n n4::.n n5::.n n6::.n n7::.n n8::.n n9::.n n10::.n n11::.n n12::.n n13::.n n14::.l TB l15::.n n16::.n n17::.n n18::.n n19::.n n20::.n n21::.l TB l22::.n n23::.n n24::.n n25::.n n26::.n n27::.l TI l28::.l TC l29::.l TB l30::.l TB l31::.l TB l32::.l TB l33::.l TB l34::.l TB l35::[])).sel=some (Step.go (.k 0::.n (3:Int)::.n (IntKind.wrap .i64 (n1+(1:Int)))::.n n2::.n n3::.n n4::.n n5::.n n6::.n n7::.n n8::.n n9::.n n10::.n n11::.n n12::.n n13::.n n14::.l TB l15::.n n16::.n n17::.n n18::.n n19::.n n20::.n n21::.l TB l22::.n n23::.n n24::.n n25::.n n26::.n n27::.l TI l28::.l TC l29::.l TB l30::.l TB l31::.l TB l32::.l TB l33::.l TB l34::.l TB l35::[])):=sP [1,0,0,0,1]<|sT (dt h0)<|sP [0,0,0,1]<|sT h1<|sT h1<|sA h2<|sP [1,1]<|sF (nt h3)<|sP [0,0,0,1]<|sTo (c:=(decide ((0:Int)≤n1)&&decide (n1≤(↑(List.length l34):Int))))<|sTs (c:=(true&&decide ((0:Int)≤n1)))<|sA h4<|sP [1,1]<|sF (nt h5)<|sA h6<|sP [1,1]<|sF (nt h7)<|sP [1]<|sL
theorem b4a {n0 n1 n2 n3 n4 n5 n6 n7 n8 n9 n10 n11 n12 n13 n14:Int}{l15:List (Ty.den TB)}{n16 n17 n18 n19 n20 n21:Int}{l22:List (Ty.den TB)}{n23 n24 n25 n26 n27:Int}{l28:List (Ty.den TI)}{l29:List (Ty.den TC)}{l30 l31 l32 l33 l34 l35:List (Ty.den TB)}(g0:0≤n1)(g1:c0b (r2b l34)=l34)(g2:l15.length=64)(g3:l22.length=64)(h0:(¬n1<(↑(List.length l34):Int))):(h3x (.k 0::.n 3::.n n1::.n n2::.n n3::.n n4::.n n5::.n n6::.n n7::.n n8::.n n9::.n n10::.n n11::.n n12::.n n13::.n n14::.l TB l15::.n n16::.n n17::.n n18::.n n19::.n n20::.n n21::.l TB l22::.n n23::.n n24::.n n25::.n n26::.n n27::.l TI l28::.l TC l29::.l TB l30::.l TB l31::.l TB l32::.l TB l33::.l TB l34::.l TB l35::[])).sel=some (Step.stop 0 (.n (3:Int)::.n n2::.n n3::.n n4::.n n5::.n n6::.n n7::.n n8::.n n9::.n n10::.n n11::.n n12::.n n13::.n n14::.l TB l15::.n n16::.n n17::.n n18::.n n19::.n n20::.n n21::.l TB l22::.n n23::.n n24::.n n25::.n n26::.n n27::.l TI l28::.l TC l29::.l TB l30::.l TB l31::.l TB l32::.l TB l33::.l TB l34::.l TB l35::[])):=sP [1,0,0,0,1]<|sF (df h0)<|sP [1]<|sL
theorem z3d {n0 n1 n2 n3 n4 n5 n6 n7 n8 n9 n10 n11 n12 n13 n14:Int}{l15:List (Ty.den TB)}{n16 n17 n18 n19 n20 n21:Int}{l22:List (Ty.den TB)}{n23 n24 n25 n26 n27:Int}{l28:List (Ty.den TI)}{l29:List (Ty.den TC)}{l30 l31 l32 l33 l34 l35:List (Ty.den TB)}{b36 b37 b38:Bool}(g0:0≤n1)(g1:c0b (r2b l35)=l35)(g2:l15.length=64)(g3:l22.length=64)(h0:(n1<(↑(List.length l35):Int)))(h1:(inR n1 (List.length (c0b (r2b l35)))=true))(h2:(n3b [.l TB (List.set (c0b (r2b l35)) (Int.toNat n1) (ixor IntKind.u8 (List.getD (c0b (r2b l35)) (Int.toNat n1) (0:Int)) (64:Int)))])=(some (0,[.b b36])))(h3:(b36=true))(h4:(n3b [.l TB (List.take (Int.toNat n1-0) (List.drop 0 l35))])=(some (0,[.b b37])))(h5:(b37=true))(h6:(j3g [.n n2,.n n3,.n n4,.n n5,.n n6,.l TC l29,.n n7,.n n8,.n n9,.n n10,.n n11,.n n12,.n n13,.n n14,.l TB l15,.n n16,.n n17,.n n18,.n n19,.n n20,.n n21,.l TB l22,.n n23,.n n24,.n n25,.n n26,.n n27,.l TB l30,.l TB (List.set (c0b (r2b l35)) (Int.toNat n1) (ixor IntKind.u8 (List.getD (c0b (r2b l35)) (Int.toNat n1) (0:Int)) (64:Int)))])=(some (0,[.b b38])))(h7:(b38=true)):(h3x (.k 0::.n 4::.n n1::.n n2::.n n3::.n n4::.n n5::.n n6::.n n7::.n n8::.n n9::.n n10::.n n11::.n n12::.n n13::.n n14::.l TB l15::.n n16::.n n17::.n n18::.n n19::.n n20::.n n21::.l TB l22::.n n23::.n n24::.n n25::.n n26::.n n27::.l TI l28::.l TC l29::.l TB l30::.l TB l31::.l TB l32::.l TB l33::.l TB l34::.l TB l35::[])).sel=some (Step.go (.k 0::.n (4:Int)::.n (IntKind.wrap .i64 (n1+(1:Int)))::.n n2::.n n3::.n n4::.n n5::.n n6::.n n7::.n n8::.n n9::.n n10::.n n11::.n n12::.n n13::.n n14::.l TB l15::.n n16::.n n17::.n n18::.n n19::.n n20::.n n21::.l TB l22::.n n23::.n n24::.n n25::.n n26::.n n27::.l TI l28::.l TC l29::.l TB l30::.l TB l31::.l TB l32::.l TB l33::.l TB l34::.l TB l35::[])):=sP [1,0,0,0,0,1]<|sT (dt h0)<|sP [0,0,0,0,1]<|sT h1<|sT h1<|sA h2<|sP [1,1]<|sF (nt h3)<|sP [0,0,0,0,1]<|sTo (c:=(decide ((0:Int)≤n1)&&decide (n1≤(↑(List.length l35):Int))))<|sTs (c:=(true&&decide ((0:Int)≤n1)))<|sA h4<|sP [1,1]<|sF (nt h5)<|sA h6<|sP [1,1]<|sF (nt h7)<|sP [1]<|sL
theorem a4h {n0 n1 n2 n3 n4 n5 n6 n7 n8 n9 n10 n11 n12 n13 n14:Int}{l15:List (Ty.den TB)}{n16 n17 n18 n19 n20 n21:Int}{l22:List (Ty.den TB)}{n23 n24 n25 n26 n27:Int}{l28:List (Ty.den TI)}{l29:List (Ty.den TC)}{l30 l31 l32 l33 l34 l35:List (Ty.den TB)}(g0:0≤n1)(g1:c0b (r2b l35)=l35)(g2:l15.length=64)(g3:l22.length=64)(h0:(¬n1<(↑(List.length l35):Int))):(h3x (.k 0::.n 4::.n n1::.n n2::.n n3::.n n4::.n n5::.n n6::.n n7::.n n8::.n n9::.n n10::.n n11::.n n12::.n n13::.n n14::.l TB l15::.n n16::.n n17::.n n18::.n n19::.n n20::.n n21::.l TB l22::.n n23::.n n24::.n n25::.n n26::.n n27::.l TI l28::.l TC l29::.l TB l30::.l TB l31::.l TB l32::.l TB l33::.l TB l34::.l TB l35::[])).sel=some (Step.stop 0 (.n (4:Int)::.n n2::.n n3::.n n4::.n n5::.n n6::.n n7::.n n8::.n n9::.n n10::.n n11::.n n12::.n n13::.n n14::.l TB l15::.n n16::.n n17::.n n18::.n n19::.n n20::.n n21::.l TB l22::.n n23::.n n24::.n n25::.n n26::.n n27::.l TI l28::.l TC l29::.l TB l30::.l TB l31::.l TB l32::.l TB l33::.l TB l34::.l TB l35::[])):=sP [1,0,0,0,0,1]<|sF (df h0)<|sP [1]<|sL
def a4s:LSh:={K:=0,log:=[],ins:=[(sh 145 [(2,.imm TB 0),(3,.int .u16 1),(4,.int .u16 2),(5,.int .u32 3),(6,.ptr 0 0),(7,.ptr 1 0),(13,.own 2),(14,.int .i64 4),(15,.own 3),(16,.int .i64 5),(17,.own 4),(18,.int .i64 6),(19,.bool 7),(20,.int .i64 8)],[loB 9,liB 16,.vec [.own 3,.own 5],.arr TB 21,.arr TB 22,.arr TB 23]),(sh 145 [(2,.imm TB 0),(3,.int .u16 1),(4,.int .u16 2),(5,.int .u32 3),(6,.ptr 0 0),(7,.ptr 1 0),(13,.own 2),(14,.int .i64 4),(15,.own 3),(16,.int .i64 5),(17,.own 4),(18,.int .i64 6),(19,.bool 7),(20,.int .i64 8)],[loB 9,liB 16,.vec [.dead,.own 3],.arr TB 21,.arr TB 22,.gone]),(sh 145 [(2,.imm TB 0),(3,.int .u16 1),(4,.int .u16 2),(5,.int .u32 3),(6,.ptr 0 0),(7,.ptr 1 0),(13,.own 2),(14,.int .i64 4),(15,.own 3),(16,.int .i64 5),(17,.own 4),(18,.int .i64 6),(19,.bool 7),(20,.int .i64 8)],[loB 9,liB 16,.vec [.dead,.own 3],.arr TB 21,.arr TB 22])],nils:=[],outs:=[(.exit 2,sh 145 [(2,.imm TB 0),(3,.int .u16 1),(4,.int .u16 2),(5,.int .u32 3),(6,.ptr 0 0),(7,.ptr 1 0),(13,.own 2),(14,.int .i64 4),(15,.own 3),(16,.int .i64 5),(17,.own 4),(18,.int .i64 6),(19,.bool 7)],[loB 8,liB 15,.vec [.own 3,.own 5],.arr TB 20,.arr TB 21,.arr TB 22]),(.exit 2,sh 145 [(2,.imm TB 0),(3,.int .u16 1),(4,.int .u16 2),(5,.int .u32 3),(6,.ptr 0 0),(7,.ptr 1 0),(13,.own 2),(14,.int .i64 4),(15,.own 3),(16,.int .i64 5),(17,.own 4),(18,.int .i64 6),(19,.bool 7)],[loB 8,liB 15,.vec [.dead,.own 3],.arr TB 20,.arr TB 21])],cv:=[]}
def h3h:List Dat→Tree Step:=evL j4m 38 16 ls0 a4s
theorem a4u: ∃op,IsL h3h 38 16 a4s op:=bxL d3i (LsOk.none _ _ _)
def d4v:OpA:=opL a4u
theorem l3n (env:List Dat):d4v env=a0b h3h FU env:=j4w a4u env
theorem w3u {l0:List (Ty.den TB)}{n1 n2 n3 n4 n5 n6:Int}{b7:Bool}{n8 n9 n10 n11 n12 n13:Int}{l14:List (Ty.den TB)}{n15 n16 n17 n18 n19:Int}{l20 l21 l22 l23:List (Ty.den TB)}(g0:0≤n8)(g1:n8≤32)(g2:0≤n5)(g3:0≤n6)(g4:0≤n3)(g5:l14.length=64)(h0:(n8<(32:Int)))(h1:(iand IntKind.u32 (ishr IntKind.u32 n3 n8) (1:Int)=(1:Int)))(h2:(n5≥n6))(h3:(inR (IntKind.wrap .i64 (Int.tdiv (IntKind.wrap .i64 (n5+n8)) (8:Int))) (List.length l22)=true))(h4:(¬Int.tmod (IntKind.wrap .i64 (n5+n8)) (8:Int)<(0:Int))):(h3h [.k 0,.l TB l0,.n n1,.n n2,.n n3,.n n4,.n n5,.n n6,.b b7,.n n8,.n n9,.n n10,.n n11,.n n12,.n n13,.l TB l14,.n n15,.n n16,.n n17,.n n18,.n n19,.l TB l20,.l TB l21,.l TB l22,.l TB l23]).sel=some (Step.go [.k 0,.l TB l0,.n n1,.n n2,.n n3,.n n4,.n n5,.n n6,.b true,.n (IntKind.wrap .i64 (n8+(1:Int))),.n n9,.n n10,.n n11,.n n12,.n n13,.l TB l14,.n n15,.n n16,.n n17,.n n18,.n n19,.l TB l20,.l TB l21,.l TB (List.set l22 (Int.toNat (IntKind.wrap .i64 (Int.tdiv (IntKind.wrap .i64 (n5+n8)) (8:Int)))) (ixor IntKind.u8 (List.getD l22 (Int.toNat (IntKind.wrap .i64 (Int.tdiv (IntKind.wrap .i64 (n5+n8)) (8:Int)))) (0:Int)) (ishl IntKind.u8 (1:Int) (Int.tmod (IntKind.wrap .i64 (n5+n8)) (8:Int))))),.l TB l23]):=sP [1]<|sT (dt h0)<|sTs (c:=(!decide (n8<(0:Int))))<|sT (bt h1)<|sT (dt h2)<|sP [1,1,1,1]<|sT h3<|sP [1]<|sT (nf (df h4))<|sT h3<|sP [1,1]<|sL
theorem x3a {l0:List (Ty.den TB)}{n1 n2 n3 n4 n5 n6:Int}{b7:Bool}{n8 n9 n10 n11 n12 n13:Int}{l14:List (Ty.den TB)}{n15 n16 n17 n18 n19:Int}{l20 l21 l22 l23:List (Ty.den TB)}(g0:0≤n8)(g1:n8≤32)(g2:0≤n5)(g3:0≤n6)(g4:0≤n3)(g5:l14.length=64)(h0:(n8<(32:Int)))(h1:(iand IntKind.u32 (ishr IntKind.u32 n3 n8) (1:Int)=(1:Int)))(h2:(¬n5≥n6))(h3:(IntKind.wrap .i64 (n5+n8)<n6))(h4:(inR (IntKind.wrap .i64 (Int.tdiv (IntKind.wrap .i64 (n5+n8)) (8:Int))) (List.length l22)=true))(h5:(¬Int.tmod (IntKind.wrap .i64 (n5+n8)) (8:Int)<(0:Int))):(h3h [.k 0,.l TB l0,.n n1,.n n2,.n n3,.n n4,.n n5,.n n6,.b b7,.n n8,.n n9,.n n10,.n n11,.n n12,.n n13,.l TB l14,.n n15,.n n16,.n n17,.n n18,.n n19,.l TB l20,.l TB l21,.l TB l22,.l TB l23]).sel=some (Step.go [.k 0,.l TB l0,.n n1,.n n2,.n n3,.n n4,.n n5,.n n6,.b true,.n (IntKind.wrap .i64 (n8+(1:Int))),.n n9,.n n10,.n n11,.n n12,.n n13,.l TB l14,.n n15,.n n16,.n n17,.n n18,.n n19,.l TB l20,.l TB l21,.l TB (List.set l22 (Int.toNat (IntKind.wrap .i64 (Int.tdiv (IntKind.wrap .i64 (n5+n8)) (8:Int)))) (ixor IntKind.u8 (List.getD l22 (Int.toNat (IntKind.wrap .i64 (Int.tdiv (IntKind.wrap .i64 (n5+n8)) (8:Int)))) (0:Int)) (ishl IntKind.u8 (1:Int) (Int.tmod (IntKind.wrap .i64 (n5+n8)) (8:Int))))),.l TB l23]):=sP [1]<|sT (dt h0)<|sTs (c:=(!decide (n8<(0:Int))))<|sT (bt h1)<|sF (df h2)<|sT (dt h3)<|sP [1,1]<|sT h4<|sP [1]<|sT (nf (df h5))<|sT h4<|sP [1,1]<|sL
theorem v3q {l0:List (Ty.den TB)}{n1 n2 n3 n4 n5 n6:Int}{b7:Bool}{n8 n9 n10 n11 n12 n13:Int}{l14:List (Ty.den TB)}{n15 n16 n17 n18 n19:Int}{l20 l21 l22 l23:List (Ty.den TB)}(g0:0≤n8)(g1:n8≤32)(g2:0≤n5)(g3:0≤n6)(g4:0≤n3)(g5:l14.length=64)(h0:(n8<(32:Int)))(h1:(iand IntKind.u32 (ishr IntKind.u32 n3 n8) (1:Int)=(1:Int)))(h2:(¬n5≥n6))(h3:(¬IntKind.wrap .i64 (n5+n8)<n6)):(h3h [.k 0,.l TB l0,.n n1,.n n2,.n n3,.n n4,.n n5,.n n6,.b b7,.n n8,.n n9,.n n10,.n n11,.n n12,.n n13,.l TB l14,.n n15,.n n16,.n n17,.n n18,.n n19,.l TB l20,.l TB l21,.l TB l22,.l TB l23]).sel=some (Step.go [.k 0,.l TB l0,.n n1,.n n2,.n n3,.n n4,.n n5,.n n6,.b b7,.n (IntKind.wrap .i64 (n8+(1:Int))),.n n9,.n n10,.n n11,.n n12,.n n13,.l TB l14,.n n15,.n n16,.n n17,.n n18,.n n19,.l TB l20,.l TB l21,.l TB l22,.l TB l23]):=sP [1]<|sT (dt h0)<|sTs (c:=(!decide (n8<(0:Int))))<|sT (bt h1)<|sF (df h2)<|sF (df h3)<|sP [1]<|sL
theorem v3k {l0:List (Ty.den TB)}{n1 n2 n3 n4 n5 n6:Int}{b7:Bool}{n8 n9 n10 n11 n12 n13:Int}{l14:List (Ty.den TB)}{n15 n16 n17 n18 n19:Int}{l20 l21 l22 l23:List (Ty.den TB)}(g0:0≤n8)(g1:n8≤32)(g2:0≤n5)(g3:0≤n6)(g4:0≤n3)(g5:l14.length=64)(h0:(n8<(32:Int)))(h1:(¬iand IntKind.u32 (ishr IntKind.u32 n3 n8) (1:Int)=(1:Int))):(h3h [.k 0,.l TB l0,.n n1,.n n2,.n n3,.n n4,.n n5,.n n6,.b b7,.n n8,.n n9,.n n10,.n n11,.n n12,.n n13,.l TB l14,.n n15,.n n16,.n n17,.n n18,.n n19,.l TB l20,.l TB l21,.l TB l22,.l TB l23]).sel=some (Step.go [.k 0,.l TB l0,.n n1,.n n2,.n n3,.n n4,.n n5,.n n6,.b b7,.n (IntKind.wrap .i64 (n8+(1:Int))),.n n9,.n n10,.n n11,.n n12,.n n13,.l TB l14,.n n15,.n n16,.n n17,.n n18,.n n19,.l TB l20,.l TB l21,.l TB l22,.l TB l23]):=sP [1]<|sT (dt h0)<|sTs (c:=(!decide (n8<(0:Int))))<|sF (bf h1)<|sP [0,0,1]<|sL
theorem u3j {l0:List (Ty.den TB)}{n1 n2 n3 n4 n5 n6:Int}{b7:Bool}{n8 n9 n10 n11 n12 n13:Int}{l14:List (Ty.den TB)}{n15 n16 n17 n18 n19:Int}{l20 l21 l22 l23:List (Ty.den TB)}(g0:0≤n8)(g1:n8≤32)(g2:0≤n5)(g3:0≤n6)(g4:0≤n3)(g5:l14.length=64)(h0:(¬n8<(32:Int))):(h3h [.k 0,.l TB l0,.n n1,.n n2,.n n3,.n n4,.n n5,.n n6,.b b7,.n n8,.n n9,.n n10,.n n11,.n n12,.n n13,.l TB l14,.n n15,.n n16,.n n17,.n n18,.n n19,.l TB l20,.l TB l21,.l TB l22,.l TB l23]).sel=some (Step.stop 0 [.l TB l0,.n n1,.n n2,.n n3,.n n4,.n n5,.n n6,.b b7,.n n9,.n n10,.n n11,.n n12,.n n13,.l TB l14,.n n15,.n n16,.n n17,.n n18,.n n19,.l TB l20,.l TB l21,.l TB l22,.l TB l23]):=sP [1]<|sF (df h0)<|sP [1]<|sL
theorem w3n {l0:List (Ty.den TB)}{n1 n2 n3 n4 n5 n6:Int}{b7:Bool}{n8 n9 n10 n11 n12 n13:Int}{l14:List (Ty.den TB)}{n15 n16 n17 n18 n19:Int}{l20 l21 l22:List (Ty.den TB)}(g0:0≤n8)(g1:n8≤32)(g2:0≤n5)(g3:0≤n6)(g4:0≤n3)(g5:l14.length=64)(h0:(n8<(32:Int)))(h1:(iand IntKind.u32 (ishr IntKind.u32 n3 n8) (1:Int)=(1:Int)))(h2:(n5≥n6))(h3:(inR (IntKind.wrap .i64 (Int.tdiv (IntKind.wrap .i64 (n5+n8)) (8:Int))) (List.length l22)=true))(h4:(¬Int.tmod (IntKind.wrap .i64 (n5+n8)) (8:Int)<(0:Int))):(h3h [.k 1,.l TB l0,.n n1,.n n2,.n n3,.n n4,.n n5,.n n6,.b b7,.n n8,.n n9,.n n10,.n n11,.n n12,.n n13,.l TB l14,.n n15,.n n16,.n n17,.n n18,.n n19,.l TB l20,.l TB l21,.l TB l22]).sel=some (Step.go [.k 2,.l TB l0,.n n1,.n n2,.n n3,.n n4,.n n5,.n n6,.b true,.n (IntKind.wrap .i64 (n8+(1:Int))),.n n9,.n n10,.n n11,.n n12,.n n13,.l TB l14,.n n15,.n n16,.n n17,.n n18,.n n19,.l TB l20,.l TB l21,.l TB (List.set l22 (Int.toNat (IntKind.wrap .i64 (Int.tdiv (IntKind.wrap .i64 (n5+n8)) (8:Int)))) (ixor IntKind.u8 (List.getD l22 (Int.toNat (IntKind.wrap .i64 (Int.tdiv (IntKind.wrap .i64 (n5+n8)) (8:Int)))) (0:Int)) (ishl IntKind.u8 (1:Int) (Int.tmod (IntKind.wrap .i64 (n5+n8)) (8:Int)))))]):=sP [1]<|sT (dt h0)<|sTs (c:=(!decide (n8<(0:Int))))<|sT (bt h1)<|sT (dt h2)<|sP [1,1,1,1]<|sT h3<|sP [1]<|sT (nf (df h4))<|sT h3<|sP [1,1]<|sL
theorem w3s {l0:List (Ty.den TB)}{n1 n2 n3 n4 n5 n6:Int}{b7:Bool}{n8 n9 n10 n11 n12 n13:Int}{l14:List (Ty.den TB)}{n15 n16 n17 n18 n19:Int}{l20 l21 l22:List (Ty.den TB)}(g0:0≤n8)(g1:n8≤32)(g2:0≤n5)(g3:0≤n6)(g4:0≤n3)(g5:l14.length=64)(h0:(n8<(32:Int)))(h1:(iand IntKind.u32 (ishr IntKind.u32 n3 n8) (1:Int)=(1:Int)))(h2:(¬n5≥n6))(h3:(IntKind.wrap .i64 (n5+n8)<n6))(h4:(inR (IntKind.wrap .i64 (Int.tdiv (IntKind.wrap .i64 (n5+n8)) (8:Int))) (List.length l22)=true))(h5:(¬Int.tmod (IntKind.wrap .i64 (n5+n8)) (8:Int)<(0:Int))):(h3h [.k 1,.l TB l0,.n n1,.n n2,.n n3,.n n4,.n n5,.n n6,.b b7,.n n8,.n n9,.n n10,.n n11,.n n12,.n n13,.l TB l14,.n n15,.n n16,.n n17,.n n18,.n n19,.l TB l20,.l TB l21,.l TB l22]).sel=some (Step.go [.k 2,.l TB l0,.n n1,.n n2,.n n3,.n n4,.n n5,.n n6,.b true,.n (IntKind.wrap .i64 (n8+(1:Int))),.n n9,.n n10,.n n11,.n n12,.n n13,.l TB l14,.n n15,.n n16,.n n17,.n n18,.n n19,.l TB l20,.l TB l21,.l TB (List.set l22 (Int.toNat (IntKind.wrap .i64 (Int.tdiv (IntKind.wrap .i64 (n5+n8)) (8:Int)))) (ixor IntKind.u8 (List.getD l22 (Int.toNat (IntKind.wrap .i64 (Int.tdiv (IntKind.wrap .i64 (n5+n8)) (8:Int)))) (0:Int)) (ishl IntKind.u8 (1:Int) (Int.tmod (IntKind.wrap .i64 (n5+n8)) (8:Int)))))]):=sP [1]<|sT (dt h0)<|sTs (c:=(!decide (n8<(0:Int))))<|sT (bt h1)<|sF (df h2)<|sT (dt h3)<|sP [1,1]<|sT h4<|sP [1]<|sT (nf (df h5))<|sT h4<|sP [1,1]<|sL
theorem t3g {l0:List (Ty.den TB)}{n1 n2 n3 n4 n5 n6:Int}{b7:Bool}{n8 n9 n10 n11 n12 n13:Int}{l14:List (Ty.den TB)}{n15 n16 n17 n18 n19:Int}{l20 l21 l22:List (Ty.den TB)}(g0:0≤n8)(g1:n8≤32)(g2:0≤n5)(g3:0≤n6)(g4:0≤n3)(g5:l14.length=64)(h0:(n8<(32:Int)))(h1:(iand IntKind.u32 (ishr IntKind.u32 n3 n8) (1:Int)=(1:Int)))(h2:(¬n5≥n6))(h3:(¬IntKind.wrap .i64 (n5+n8)<n6)):(h3h [.k 1,.l TB l0,.n n1,.n n2,.n n3,.n n4,.n n5,.n n6,.b b7,.n n8,.n n9,.n n10,.n n11,.n n12,.n n13,.l TB l14,.n n15,.n n16,.n n17,.n n18,.n n19,.l TB l20,.l TB l21,.l TB l22]).sel=some (Step.go [.k 2,.l TB l0,.n n1,.n n2,.n n3,.n n4,.n n5,.n n6,.b b7,.n (IntKind.wrap .i64 (n8+(1:Int))),.n n9,.n n10,.n n11,.n n12,.n n13,.l TB l14,.n n15,.n n16,.n n17,.n n18,.n n19,.l TB l20,.l TB l21,.l TB l22]):=sP [1]<|sT (dt h0)<|sTs (c:=(!decide (n8<(0:Int))))<|sT (bt h1)<|sF (df h2)<|sF (df h3)<|sP [1]<|sL
theorem y3g {l0:List (Ty.den TB)}{n1 n2 n3 n4 n5 n6:Int}{b7:Bool}{n8 n9 n10 n11 n12 n13:Int}{l14:List (Ty.den TB)}{n15 n16 n17 n18 n19:Int}{l20 l21 l22:List (Ty.den TB)}(g0:0≤n8)(g1:n8≤32)(g2:0≤n5)(g3:0≤n6)(g4:0≤n3)(g5:l14.length=64)(h0:(n8<(32:Int)))(h1:(¬iand IntKind.u32 (ishr IntKind.u32 n3 n8) (1:Int)=(1:Int))):(h3h [.k 1,.l TB l0,.n n1,.n n2,.n n3,.n n4,.n n5,.n n6,.b b7,.n n8,.n n9,.n n10,.n n11,.n n12,.n n13,.l TB l14,.n n15,.n n16,.n n17,.n n18,.n n19,.l TB l20,.l TB l21,.l TB l22]).sel=some (Step.go [.k 2,.l TB l0,.n n1,.n n2,.n n3,.n n4,.n n5,.n n6,.b b7,.n (IntKind.wrap .i64 (n8+(1:Int))),.n n9,.n n10,.n n11,.n n12,.n n13,.l TB l14,.n n15,.n n16,.n n17,.n n18,.n n19,.l TB l20,.l TB l21,.l TB l22]):=sP [1]<|sT (dt h0)<|sTs (c:=(!decide (n8<(0:Int))))<|sF (bf h1)<|sP [0,0,1]<|sL
theorem v3i {l0:List (Ty.den TB)}{n1 n2 n3 n4 n5 n6:Int}{b7:Bool}{n8 n9 n10 n11 n12 n13:Int}{l14:List (Ty.den TB)}{n15 n16 n17 n18 n19:Int}{l20 l21 l22:List (Ty.den TB)}(g0:0≤n8)(g1:n8≤32)(g2:0≤n5)(g3:0≤n6)(g4:0≤n3)(g5:l14.length=64)(h0:(¬n8<(32:Int))):(h3h [.k 1,.l TB l0,.n n1,.n n2,.n n3,.n n4,.n n5,.n n6,.b b7,.n n8,.n n9,.n n10,.n n11,.n n12,.n n13,.l TB l14,.n n15,.n n16,.n n17,.n n18,.n n19,.l TB l20,.l TB l21,.l TB l22]).sel=some (Step.stop 1 [.l TB l0,.n n1,.n n2,.n n3,.n n4,.n n5,.n n6,.b b7,.n n9,.n n10,.n n11,.n n12,.n n13,.l TB l14,.n n15,.n n16,.n n17,.n n18,.n n19,.l TB l20,.l TB l21,.l TB l22]):=sP [1]<|sF (df h0)<|sP [1]<|sL
theorem v3f {l0:List (Ty.den TB)}{n1 n2 n3 n4 n5 n6:Int}{b7:Bool}{n8 n9 n10 n11 n12 n13:Int}{l14:List (Ty.den TB)}{n15 n16 n17 n18 n19:Int}{l20 l21 l22:List (Ty.den TB)}(g0:0≤n8)(g1:n8≤32)(g2:0≤n5)(g3:0≤n6)(g4:0≤n3)(g5:l14.length=64)(h0:(n8<(32:Int)))(h1:(iand IntKind.u32 (ishr IntKind.u32 n3 n8) (1:Int)=(1:Int)))(h2:(n5≥n6))(h3:(inR (IntKind.wrap .i64 (Int.tdiv (IntKind.wrap .i64 (n5+n8)) (8:Int))) (List.length l22)=true))(h4:(¬Int.tmod (IntKind.wrap .i64 (n5+n8)) (8:Int)<(0:Int))):(h3h [.k 2,.l TB l0,.n n1,.n n2,.n n3,.n n4,.n n5,.n n6,.b b7,.n n8,.n n9,.n n10,.n n11,.n n12,.n n13,.l TB l14,.n n15,.n n16,.n n17,.n n18,.n n19,.l TB l20,.l TB l21,.l TB l22]).sel=some (Step.go [.k 2,.l TB l0,.n n1,.n n2,.n n3,.n n4,.n n5,.n n6,.b true,.n (IntKind.wrap .i64 (n8+(1:Int))),.n n9,.n n10,.n n11,.n n12,.n n13,.l TB l14,.n n15,.n n16,.n n17,.n n18,.n n19,.l TB l20,.l TB l21,.l TB (List.set l22 (Int.toNat (IntKind.wrap .i64 (Int.tdiv (IntKind.wrap .i64 (n5+n8)) (8:Int)))) (ixor IntKind.u8 (List.getD l22 (Int.toNat (IntKind.wrap .i64 (Int.tdiv (IntKind.wrap .i64 (n5+n8)) (8:Int)))) (0:Int)) (ishl IntKind.u8 (1:Int) (Int.tmod (IntKind.wrap .i64 (n5+n8)) (8:Int)))))]):=sP [1]<|sT (dt h0)<|sTs (c:=(!decide (n8<(0:Int))))<|sT (bt h1)<|sT (dt h2)<|sP [1,1,1,1]<|sT h3<|sP [1]<|sT (nf (df h4))<|sT h3<|sP [1,1]<|sL
theorem x3g {l0:List (Ty.den TB)}{n1 n2 n3 n4 n5 n6:Int}{b7:Bool}{n8 n9 n10 n11 n12 n13:Int}{l14:List (Ty.den TB)}{n15 n16 n17 n18 n19:Int}{l20 l21 l22:List (Ty.den TB)}(g0:0≤n8)(g1:n8≤32)(g2:0≤n5)(g3:0≤n6)(g4:0≤n3)(g5:l14.length=64)(h0:(n8<(32:Int)))(h1:(iand IntKind.u32 (ishr IntKind.u32 n3 n8) (1:Int)=(1:Int)))(h2:(¬n5≥n6))(h3:(IntKind.wrap .i64 (n5+n8)<n6))(h4:(inR (IntKind.wrap .i64 (Int.tdiv (IntKind.wrap .i64 (n5+n8)) (8:Int))) (List.length l22)=true))(h5:(¬Int.tmod (IntKind.wrap .i64 (n5+n8)) (8:Int)<(0:Int))):(h3h [.k 2,.l TB l0,.n n1,.n n2,.n n3,.n n4,.n n5,.n n6,.b b7,.n n8,.n n9,.n n10,.n n11,.n n12,.n n13,.l TB l14,.n n15,.n n16,.n n17,.n n18,.n n19,.l TB l20,.l TB l21,.l TB l22]).sel=some (Step.go [.k 2,.l TB l0,.n n1,.n n2,.n n3,.n n4,.n n5,.n n6,.b true,.n (IntKind.wrap .i64 (n8+(1:Int))),.n n9,.n n10,.n n11,.n n12,.n n13,.l TB l14,.n n15,.n n16,.n n17,.n n18,.n n19,.l TB l20,.l TB l21,.l TB (List.set l22 (Int.toNat (IntKind.wrap .i64 (Int.tdiv (IntKind.wrap .i64 (n5+n8)) (8:Int)))) (ixor IntKind.u8 (List.getD l22 (Int.toNat (IntKind.wrap .i64 (Int.tdiv (IntKind.wrap .i64 (n5+n8)) (8:Int)))) (0:Int)) (ishl IntKind.u8 (1:Int) (Int.tmod (IntKind.wrap .i64 (n5+n8)) (8:Int)))))]):=sP [1]<|sT (dt h0)<|sTs (c:=(!decide (n8<(0:Int))))<|sT (bt h1)<|sF (df h2)<|sT (dt h3)<|sP [1,1]<|sT h4<|sP [1]<|sT (nf (df h5))<|sT h4<|sP [1,1]<|sL
theorem x3w {l0:List (Ty.den TB)}{n1 n2 n3 n4 n5 n6:Int}{b7:Bool}{n8 n9 n10 n11 n12 n13:Int}{l14:List (Ty.den TB)}{n15 n16 n17 n18 n19:Int}{l20 l21 l22:List (Ty.den TB)}(g0:0≤n8)(g1:n8≤32)(g2:0≤n5)(g3:0≤n6)(g4:0≤n3)(g5:l14.length=64)(h0:(n8<(32:Int)))(h1:(iand IntKind.u32 (ishr IntKind.u32 n3 n8) (1:Int)=(1:Int)))(h2:(¬n5≥n6))(h3:(¬IntKind.wrap .i64 (n5+n8)<n6)):(h3h [.k 2,.l TB l0,.n n1,.n n2,.n n3,.n n4,.n n5,.n n6,.b b7,.n n8,.n n9,.n n10,.n n11,.n n12,.n n13,.l TB l14,.n n15,.n n16,.n n17,.n n18,.n n19,.l TB l20,.l TB l21,.l TB l22]).sel=some (Step.go [.k 2,.l TB l0,.n n1,.n n2,.n n3,.n n4,.n n5,.n n6,.b b7,.n (IntKind.wrap .i64 (n8+(1:Int))),.n n9,.n n10,.n n11,.n n12,.n n13,.l TB l14,.n n15,.n n16,.n n17,.n n18,.n n19,.l TB l20,.l TB l21,.l TB l22]):=sP [1]<|sT (dt h0)<|sTs (c:=(!decide (n8<(0:Int))))<|sT (bt h1)<|sF (df h2)<|sF (df h3)<|sP [1]<|sL
theorem x3e {l0:List (Ty.den TB)}{n1 n2 n3 n4 n5 n6:Int}{b7:Bool}{n8 n9 n10 n11 n12 n13:Int}{l14:List (Ty.den TB)}{n15 n16 n17 n18 n19:Int}{l20 l21 l22:List (Ty.den TB)}(g0:0≤n8)(g1:n8≤32)(g2:0≤n5)(g3:0≤n6)(g4:0≤n3)(g5:l14.length=64)(h0:(n8<(32:Int)))(h1:(¬iand IntKind.u32 (ishr IntKind.u32 n3 n8) (1:Int)=(1:Int))):(h3h [.k 2,.l TB l0,.n n1,.n n2,.n n3,.n n4,.n n5,.n n6,.b b7,.n n8,.n n9,.n n10,.n n11,.n n12,.n n13,.l TB l14,.n n15,.n n16,.n n17,.n n18,.n n19,.l TB l20,.l TB l21,.l TB l22]).sel=some (Step.go [.k 2,.l TB l0,.n n1,.n n2,.n n3,.n n4,.n n5,.n n6,.b b7,.n (IntKind.wrap .i64 (n8+(1:Int))),.n n9,.n n10,.n n11,.n n12,.n n13,.l TB l14,.n n15,.n n16,.n n17,.n n18,.n n19,.l TB l20,.l TB l21,.l TB l22]):=sP [1]<|sT (dt h0)<|sTs (c:=(!decide (n8<(0:Int))))<|sF (bf h1)<|sP [0,0,1]<|sL
theorem w3d {l0:List (Ty.den TB)}{n1 n2 n3 n4 n5 n6:Int}{b7:Bool}{n8 n9 n10 n11 n12 n13:Int}{l14:List (Ty.den TB)}{n15 n16 n17 n18 n19:Int}{l20 l21 l22:List (Ty.den TB)}(g0:0≤n8)(g1:n8≤32)(g2:0≤n5)(g3:0≤n6)(g4:0≤n3)(g5:l14.length=64)(h0:(¬n8<(32:Int))):(h3h [.k 2,.l TB l0,.n n1,.n n2,.n n3,.n n4,.n n5,.n n6,.b b7,.n n8,.n n9,.n n10,.n n11,.n n12,.n n13,.l TB l14,.n n15,.n n16,.n n17,.n n18,.n n19,.l TB l20,.l TB l21,.l TB l22]).sel=some (Step.stop 1 [.l TB l0,.n n1,.n n2,.n n3,.n n4,.n n5,.n n6,.b b7,.n n9,.n n10,.n n11,.n n12,.n n13,.l TB l14,.n n15,.n n16,.n n17,.n n18,.n n19,.l TB l20,.l TB l21,.l TB l22]):=sP [1]<|sF (df h0)<|sP [1]<|sL
def ch (l:List Int)(i:Nat):List Int:=List.set l i (ixor IntKind.u8 (List.getD l i (0:Int)) (64:Int))
theorem q3u {b:List Int}(h:nfb b=true):n3b [.l TB b]=some (0,[.b true]):=by
 show(bif true&&nfb b then some (0,[Dat.b true])else none)=_
 rw[h];rfl
theorem g4o {n2:Int}{n3:Int}{n4:Int}{n5:Int}{n6:Int}{l29:List Cmd}{n7:Int}{n8:Int}{n9:Int}{n10:Int}{n11:Int}{n12:Int}{n13:Int}{n14:Int}{l15:List Int}{n16:Int}{n17:Int}{n18:Int}{n19:Int}{n20:Int}{n21:Int}{l22:List Int}{n23:Int}{n24:Int}{n25:Int}{n26:Int}{n27:Int}{l30:List Int}{w:List Int}(h:pq5 n2 n3 n4 n5 n6 l29 n7 n8 n9 n10 n11 n12 n13 n14 l15 n16 n17 n18 n19 n20 n21 l22 n23 n24 n25 n26 n27 l30 w=true):j3g [.n n2,.n n3,.n n4,.n n5,.n n6,.l TC l29,.n n7,.n n8,.n n9,.n n10,.n n11,.n n12,.n n13,.n n14,.l TB l15,.n n16,.n n17,.n n18,.n n19,.n n20,.n n21,.l TB l22,.n n23,.n n24,.n n25,.n n26,.n n27,.l TB l30,.l TB w]=some (0,[.b true]):=by
 show(bif true&&pq5 n2 n3 n4 n5 n6 l29 n7 n8 n9 n10 n11 n12 n13 n14 l15 n16 n17 n18 n19 n20 n21 l22 n23 n24 n25 n26 n27 l30 w then some (0,[Dat.b true])else none)=_
 rw[h];rfl
def jOK (n2:Int)(n3:Int)(n4:Int)(n5:Int)(n6:Int)(l29:List Cmd)(n7:Int)(n8:Int)(n9:Int)(n10:Int)(n11:Int)(n12:Int)(n13:Int)(n14:Int)(l15:List Int)(n16:Int)(n17:Int)(n18:Int)(n19:Int)(n20:Int)(n21:Int)(l22:List Int)(n23:Int)(n24:Int)(n25:Int)(n26:Int)(n27:Int)(l30:List Int)(l:List Int):Bool:=l.all r8&&decide (l.length≤3000)&&decide (l15.length=64)&&decide (l22.length=64)&&(List.range l.length).all fun i=>nfb (ch l i)&&nfb (l.take i)&&pq5 n2 n3 n4 n5 n6 l29 n7 n8 n9 n10 n11 n12 n13 n14 l15 n16 n17 n18 n19 n20 n21 l22 n23 n24 n25 n26 n27 l30 (ch l i)
theorem y3h {n2:Int}{n3:Int}{n4:Int}{n5:Int}{n6:Int}{l29:List Cmd}{n7:Int}{n8:Int}{n9:Int}{n10:Int}{n11:Int}{n12:Int}{n13:Int}{n14:Int}{l15:List Int}{n16:Int}{n17:Int}{n18:Int}{n19:Int}{n20:Int}{n21:Int}{l22:List Int}{n23:Int}{n24:Int}{n25:Int}{n26:Int}{n27:Int}{l30:List Int}{l:List Int}(h:jOK n2 n3 n4 n5 n6 l29 n7 n8 n9 n10 n11 n12 n13 n14 l15 n16 n17 n18 n19 n20 n21 l22 n23 n24 n25 n26 n27 l30 l=true):Wb l∧l.length≤3000∧l15.length=64∧l22.length=64∧ ∀i,i<l.length→nfb (ch l i)=true∧nfb (l.take i)=true∧pq5 n2 n3 n4 n5 n6 l29 n7 n8 n9 n10 n11 n12 n13 n14 l15 n16 n17 n18 n19 n20 n21 l22 n23 n24 n25 n26 n27 l30 (ch l i)=true:=by
 unfold jOK at h
 simp only[Bool.and_eq_true,decide_eq_true_eq]at h
 obtain⟨⟨⟨⟨h1,h2⟩,h3⟩,h4⟩,h5⟩:=h
 refine⟨m3a h1,h2,h3,h4,fun i hi=> ?_⟩
 have:=List.all_eq_true.1 h5 i (List.mem_range.2 hi)
 simp only[Bool.and_eq_true]at this
 exact⟨this.1.1,this.1.2,this.2⟩
theorem jl0 {n2:Int}{n3:Int}{n4:Int}{n5:Int}{n6:Int}{n7:Int}{n8:Int}{n9:Int}{n10:Int}{n11:Int}{n12:Int}{n13:Int}{n14:Int}{l15:List Int}{n16:Int}{n17:Int}{n18:Int}{n19:Int}{n20:Int}{n21:Int}{l22:List Int}{n23:Int}{n24:Int}{n25:Int}{n26:Int}{n27:Int}{l28:List Int}{l29:List Cmd}{l30:List Int}{l31:List Int}{l32:List Int}{l33:List Int}{l34:List Int}{l35:List Int}(h:jOK n2 n3 n4 n5 n6 l29 n7 n8 n9 n10 n11 n12 n13 n14 l15 n16 n17 n18 n19 n20 n21 l22 n23 n24 n25 n26 n27 l30 l31=true):l3m (.k 0::.n 0::.n 0::.n n2::.n n3::.n n4::.n n5::.n n6::.n n7::.n n8::.n n9::.n n10::.n n11::.n n12::.n n13::.n n14::.l TB l15::.n n16::.n n17::.n n18::.n n19::.n n20::.n n21::.l TB l22::.n n23::.n n24::.n n25::.n n26::.n n27::.l TI l28::.l TC l29::.l TB l30::.l TB l31::.l TB l32::.l TB l33::.l TB l34::.l TB l35::[])=some (0,.n 0::.n n2::.n n3::.n n4::.n n5::.n n6::.n n7::.n n8::.n n9::.n n10::.n n11::.n n12::.n n13::.n n14::.l TB l15::.n n16::.n n17::.n n18::.n n19::.n n20::.n n21::.l TB l22::.n n23::.n n24::.n n25::.n n26::.n n27::.l TI l28::.l TC l29::.l TB l30::.l TB l31::.l TB l32::.l TB l33::.l TB l34::.l TB l35::[]):=by
 obtain⟨hw,hl,a15,a22,H⟩:=y3h h
 have eb:c0b (r2b l31)=l31:=h3i hw
 rw[j3s]
 refine b0a (st:=h3x) (fun i=>.k 0::.n 0::.n (i:Int)::.n n2::.n n3::.n n4::.n n5::.n n6::.n n7::.n n8::.n n9::.n n10::.n n11::.n n12::.n n13::.n n14::.l TB l15::.n n16::.n n17::.n n18::.n n19::.n n20::.n n21::.l TB l22::.n n23::.n n24::.n n25::.n n26::.n n27::.l TI l28::.l TC l29::.l TB l30::.l TB l31::.l TB l32::.l TB l33::.l TB l34::.l TB l35::[]) l31.length (0,.n 0::.n n2::.n n3::.n n4::.n n5::.n n6::.n n7::.n n8::.n n9::.n n10::.n n11::.n n12::.n n13::.n n14::.l TB l15::.n n16::.n n17::.n n18::.n n19::.n n20::.n n21::.l TB l22::.n n23::.n n24::.n n25::.n n26::.n n27::.l TI l28::.l TC l29::.l TB l30::.l TB l31::.l TB l32::.l TB l33::.l TB l34::.l TB l35::[]) ?_ ?_ FU (b1w (by omega))
 ·intro i hi
  obtain⟨q1,q2,q3⟩:=H i hi
  have q0:((i:Nat):Int)<((l31.length:Nat):Int):=by omega
  have e:=z3z (n0:=0) (n1:=(i:Int)) (l28:=l28) (l31:=l31) (l32:=l32) (l33:=l33) (l34:=l34) (l35:=l35) (by omega) eb a15 a22 q0 (by rw[eb];exact h1s (by omega) (by omega)) (by rw[eb];exact q3u q1) rfl (q3u q2) rfl (by rw[eb];exact g4o q3) rfl
  rw[o3z hi (by omega)]at e
  exact e
 ·have q9: ¬((l31.length:Nat):Int)<((l31.length:Nat):Int):=by omega
  exact a4l (n0:=0) (by omega) eb a15 a22 q9
theorem jl1 {n2:Int}{n3:Int}{n4:Int}{n5:Int}{n6:Int}{n7:Int}{n8:Int}{n9:Int}{n10:Int}{n11:Int}{n12:Int}{n13:Int}{n14:Int}{l15:List Int}{n16:Int}{n17:Int}{n18:Int}{n19:Int}{n20:Int}{n21:Int}{l22:List Int}{n23:Int}{n24:Int}{n25:Int}{n26:Int}{n27:Int}{l28:List Int}{l29:List Cmd}{l30:List Int}{l31:List Int}{l32:List Int}{l33:List Int}{l34:List Int}{l35:List Int}(h:jOK n2 n3 n4 n5 n6 l29 n7 n8 n9 n10 n11 n12 n13 n14 l15 n16 n17 n18 n19 n20 n21 l22 n23 n24 n25 n26 n27 l30 l32=true):l3m (.k 0::.n 1::.n 0::.n n2::.n n3::.n n4::.n n5::.n n6::.n n7::.n n8::.n n9::.n n10::.n n11::.n n12::.n n13::.n n14::.l TB l15::.n n16::.n n17::.n n18::.n n19::.n n20::.n n21::.l TB l22::.n n23::.n n24::.n n25::.n n26::.n n27::.l TI l28::.l TC l29::.l TB l30::.l TB l31::.l TB l32::.l TB l33::.l TB l34::.l TB l35::[])=some (0,.n 1::.n n2::.n n3::.n n4::.n n5::.n n6::.n n7::.n n8::.n n9::.n n10::.n n11::.n n12::.n n13::.n n14::.l TB l15::.n n16::.n n17::.n n18::.n n19::.n n20::.n n21::.l TB l22::.n n23::.n n24::.n n25::.n n26::.n n27::.l TI l28::.l TC l29::.l TB l30::.l TB l31::.l TB l32::.l TB l33::.l TB l34::.l TB l35::[]):=by
 obtain⟨hw,hl,a15,a22,H⟩:=y3h h
 have eb:c0b (r2b l32)=l32:=h3i hw
 rw[j3s]
 refine b0a (st:=h3x) (fun i=>.k 0::.n 1::.n (i:Int)::.n n2::.n n3::.n n4::.n n5::.n n6::.n n7::.n n8::.n n9::.n n10::.n n11::.n n12::.n n13::.n n14::.l TB l15::.n n16::.n n17::.n n18::.n n19::.n n20::.n n21::.l TB l22::.n n23::.n n24::.n n25::.n n26::.n n27::.l TI l28::.l TC l29::.l TB l30::.l TB l31::.l TB l32::.l TB l33::.l TB l34::.l TB l35::[]) l32.length (0,.n 1::.n n2::.n n3::.n n4::.n n5::.n n6::.n n7::.n n8::.n n9::.n n10::.n n11::.n n12::.n n13::.n n14::.l TB l15::.n n16::.n n17::.n n18::.n n19::.n n20::.n n21::.l TB l22::.n n23::.n n24::.n n25::.n n26::.n n27::.l TI l28::.l TC l29::.l TB l30::.l TB l31::.l TB l32::.l TB l33::.l TB l34::.l TB l35::[]) ?_ ?_ FU (b1w (by omega))
 ·intro i hi
  obtain⟨q1,q2,q3⟩:=H i hi
  have q0:((i:Nat):Int)<((l32.length:Nat):Int):=by omega
  have e:=a4k (n0:=0) (n1:=(i:Int)) (l28:=l28) (l31:=l31) (l32:=l32) (l33:=l33) (l34:=l34) (l35:=l35) (by omega) eb a15 a22 q0 (by rw[eb];exact h1s (by omega) (by omega)) (by rw[eb];exact q3u q1) rfl (q3u q2) rfl (by rw[eb];exact g4o q3) rfl
  rw[o3z hi (by omega)]at e
  exact e
 ·have q9: ¬((l32.length:Nat):Int)<((l32.length:Nat):Int):=by omega
  exact b4d (n0:=0) (by omega) eb a15 a22 q9
theorem jl2 {n2:Int}{n3:Int}{n4:Int}{n5:Int}{n6:Int}{n7:Int}{n8:Int}{n9:Int}{n10:Int}{n11:Int}{n12:Int}{n13:Int}{n14:Int}{l15:List Int}{n16:Int}{n17:Int}{n18:Int}{n19:Int}{n20:Int}{n21:Int}{l22:List Int}{n23:Int}{n24:Int}{n25:Int}{n26:Int}{n27:Int}{l28:List Int}{l29:List Cmd}{l30:List Int}{l31:List Int}{l32:List Int}{l33:List Int}{l34:List Int}{l35:List Int}(h:jOK n2 n3 n4 n5 n6 l29 n7 n8 n9 n10 n11 n12 n13 n14 l15 n16 n17 n18 n19 n20 n21 l22 n23 n24 n25 n26 n27 l30 l33=true):l3m (.k 0::.n 2::.n 0::.n n2::.n n3::.n n4::.n n5::.n n6::.n n7::.n n8::.n n9::.n n10::.n n11::.n n12::.n n13::.n n14::.l TB l15::.n n16::.n n17::.n n18::.n n19::.n n20::.n n21::.l TB l22::.n n23::.n n24::.n n25::.n n26::.n n27::.l TI l28::.l TC l29::.l TB l30::.l TB l31::.l TB l32::.l TB l33::.l TB l34::.l TB l35::[])=some (0,.n 2::.n n2::.n n3::.n n4::.n n5::.n n6::.n n7::.n n8::.n n9::.n n10::.n n11::.n n12::.n n13::.n n14::.l TB l15::.n n16::.n n17::.n n18::.n n19::.n n20::.n n21::.l TB l22::.n n23::.n n24::.n n25::.n n26::.n n27::.l TI l28::.l TC l29::.l TB l30::.l TB l31::.l TB l32::.l TB l33::.l TB l34::.l TB l35::[]):=by
 obtain⟨hw,hl,a15,a22,H⟩:=y3h h
 have eb:c0b (r2b l33)=l33:=h3i hw
 rw[j3s]
 refine b0a (st:=h3x) (fun i=>.k 0::.n 2::.n (i:Int)::.n n2::.n n3::.n n4::.n n5::.n n6::.n n7::.n n8::.n n9::.n n10::.n n11::.n n12::.n n13::.n n14::.l TB l15::.n n16::.n n17::.n n18::.n n19::.n n20::.n n21::.l TB l22::.n n23::.n n24::.n n25::.n n26::.n n27::.l TI l28::.l TC l29::.l TB l30::.l TB l31::.l TB l32::.l TB l33::.l TB l34::.l TB l35::[]) l33.length (0,.n 2::.n n2::.n n3::.n n4::.n n5::.n n6::.n n7::.n n8::.n n9::.n n10::.n n11::.n n12::.n n13::.n n14::.l TB l15::.n n16::.n n17::.n n18::.n n19::.n n20::.n n21::.l TB l22::.n n23::.n n24::.n n25::.n n26::.n n27::.l TI l28::.l TC l29::.l TB l30::.l TB l31::.l TB l32::.l TB l33::.l TB l34::.l TB l35::[]) ?_ ?_ FU (b1w (by omega))
 ·intro i hi
  obtain⟨q1,q2,q3⟩:=H i hi
  have q0:((i:Nat):Int)<((l33.length:Nat):Int):=by omega
  have e:=b4e (n0:=0) (n1:=(i:Int)) (l28:=l28) (l31:=l31) (l32:=l32) (l33:=l33) (l34:=l34) (l35:=l35) (by omega) eb a15 a22 q0 (by rw[eb];exact h1s (by omega) (by omega)) (by rw[eb];exact q3u q1) rfl (q3u q2) rfl (by rw[eb];exact g4o q3) rfl
  rw[o3z hi (by omega)]at e
  exact e
 ·have q9: ¬((l33.length:Nat):Int)<((l33.length:Nat):Int):=by omega
  exact z3p (n0:=0) (by omega) eb a15 a22 q9
theorem jl3 {n2:Int}{n3:Int}{n4:Int}{n5:Int}{n6:Int}{n7:Int}{n8:Int}{n9:Int}{n10:Int}{n11:Int}{n12:Int}{n13:Int}{n14:Int}{l15:List Int}{n16:Int}{n17:Int}{n18:Int}{n19:Int}{n20:Int}{n21:Int}{l22:List Int}{n23:Int}{n24:Int}{n25:Int}{n26:Int}{n27:Int}{l28:List Int}{l29:List Cmd}{l30:List Int}{l31:List Int}{l32:List Int}{l33:List Int}{l34:List Int}{l35:List Int}(h:jOK n2 n3 n4 n5 n6 l29 n7 n8 n9 n10 n11 n12 n13 n14 l15 n16 n17 n18 n19 n20 n21 l22 n23 n24 n25 n26 n27 l30 l34=true):l3m (.k 0::.n 3::.n 0::.n n2::.n n3::.n n4::.n n5::.n n6::.n n7::.n n8::.n n9::.n n10::.n n11::.n n12::.n n13::.n n14::.l TB l15::.n n16::.n n17::.n n18::.n n19::.n n20::.n n21::.l TB l22::.n n23::.n n24::.n n25::.n n26::.n n27::.l TI l28::.l TC l29::.l TB l30::.l TB l31::.l TB l32::.l TB l33::.l TB l34::.l TB l35::[])=some (0,.n 3::.n n2::.n n3::.n n4::.n n5::.n n6::.n n7::.n n8::.n n9::.n n10::.n n11::.n n12::.n n13::.n n14::.l TB l15::.n n16::.n n17::.n n18::.n n19::.n n20::.n n21::.l TB l22::.n n23::.n n24::.n n25::.n n26::.n n27::.l TI l28::.l TC l29::.l TB l30::.l TB l31::.l TB l32::.l TB l33::.l TB l34::.l TB l35::[]):=by
 obtain⟨hw,hl,a15,a22,H⟩:=y3h h
 have eb:c0b (r2b l34)=l34:=h3i hw
 rw[j3s]
 refine b0a (st:=h3x) (fun i=>.k 0::.n 3::.n (i:Int)::.n n2::.n n3::.n n4::.n n5::.n n6::.n n7::.n n8::.n n9::.n n10::.n n11::.n n12::.n n13::.n n14::.l TB l15::.n n16::.n n17::.n n18::.n n19::.n n20::.n n21::.l TB l22::.n n23::.n n24::.n n25::.n n26::.n n27::.l TI l28::.l TC l29::.l TB l30::.l TB l31::.l TB l32::.l TB l33::.l TB l34::.l TB l35::[]) l34.length (0,.n 3::.n n2::.n n3::.n n4::.n n5::.n n6::.n n7::.n n8::.n n9::.n n10::.n n11::.n n12::.n n13::.n n14::.l TB l15::.n n16::.n n17::.n n18::.n n19::.n n20::.n n21::.l TB l22::.n n23::.n n24::.n n25::.n n26::.n n27::.l TI l28::.l TC l29::.l TB l30::.l TB l31::.l TB l32::.l TB l33::.l TB l34::.l TB l35::[]) ?_ ?_ FU (b1w (by omega))
 ·intro i hi
  obtain⟨q1,q2,q3⟩:=H i hi
  have q0:((i:Nat):Int)<((l34.length:Nat):Int):=by omega
  have e:=y3x (n0:=0) (n1:=(i:Int)) (l28:=l28) (l31:=l31) (l32:=l32) (l33:=l33) (l34:=l34) (l35:=l35) (by omega) eb a15 a22 q0 (by rw[eb];exact h1s (by omega) (by omega)) (by rw[eb];exact q3u q1) rfl (q3u q2) rfl (by rw[eb];exact g4o q3) rfl
  rw[o3z hi (by omega)]at e
  exact e
 ·have q9: ¬((l34.length:Nat):Int)<((l34.length:Nat):Int):=by omega
  exact b4a (n0:=0) (by omega) eb a15 a22 q9
theorem jl4 {n2:Int}{n3:Int}{n4:Int}{n5:Int}{n6:Int}{n7:Int}{n8:Int}{n9:Int}{n10:Int}{n11:Int}{n12:Int}{n13:Int}{n14:Int}{l15:List Int}{n16:Int}{n17:Int}{n18:Int}{n19:Int}{n20:Int}{n21:Int}{l22:List Int}{n23:Int}{n24:Int}{n25:Int}{n26:Int}{n27:Int}{l28:List Int}{l29:List Cmd}{l30:List Int}{l31:List Int}{l32:List Int}{l33:List Int}{l34:List Int}{l35:List Int}(h:jOK n2 n3 n4 n5 n6 l29 n7 n8 n9 n10 n11 n12 n13 n14 l15 n16 n17 n18 n19 n20 n21 l22 n23 n24 n25 n26 n27 l30 l35=true):l3m (.k 0::.n 4::.n 0::.n n2::.n n3::.n n4::.n n5::.n n6::.n n7::.n n8::.n n9::.n n10::.n n11::.n n12::.n n13::.n n14::.l TB l15::.n n16::.n n17::.n n18::.n n19::.n n20::.n n21::.l TB l22::.n n23::.n n24::.n n25::.n n26::.n n27::.l TI l28::.l TC l29::.l TB l30::.l TB l31::.l TB l32::.l TB l33::.l TB l34::.l TB l35::[])=some (0,.n 4::.n n2::.n n3::.n n4::.n n5::.n n6::.n n7::.n n8::.n n9::.n n10::.n n11::.n n12::.n n13::.n n14::.l TB l15::.n n16::.n n17::.n n18::.n n19::.n n20::.n n21::.l TB l22::.n n23::.n n24::.n n25::.n n26::.n n27::.l TI l28::.l TC l29::.l TB l30::.l TB l31::.l TB l32::.l TB l33::.l TB l34::.l TB l35::[]):=by
 obtain⟨hw,hl,a15,a22,H⟩:=y3h h
 have eb:c0b (r2b l35)=l35:=h3i hw
 rw[j3s]
 refine b0a (st:=h3x) (fun i=>.k 0::.n 4::.n (i:Int)::.n n2::.n n3::.n n4::.n n5::.n n6::.n n7::.n n8::.n n9::.n n10::.n n11::.n n12::.n n13::.n n14::.l TB l15::.n n16::.n n17::.n n18::.n n19::.n n20::.n n21::.l TB l22::.n n23::.n n24::.n n25::.n n26::.n n27::.l TI l28::.l TC l29::.l TB l30::.l TB l31::.l TB l32::.l TB l33::.l TB l34::.l TB l35::[]) l35.length (0,.n 4::.n n2::.n n3::.n n4::.n n5::.n n6::.n n7::.n n8::.n n9::.n n10::.n n11::.n n12::.n n13::.n n14::.l TB l15::.n n16::.n n17::.n n18::.n n19::.n n20::.n n21::.l TB l22::.n n23::.n n24::.n n25::.n n26::.n n27::.l TI l28::.l TC l29::.l TB l30::.l TB l31::.l TB l32::.l TB l33::.l TB l34::.l TB l35::[]) ?_ ?_ FU (b1w (by omega))
 ·intro i hi
  obtain⟨q1,q2,q3⟩:=H i hi
  have q0:((i:Nat):Int)<((l35.length:Nat):Int):=by omega
  have e:=z3d (n0:=0) (n1:=(i:Int)) (l28:=l28) (l31:=l31) (l32:=l32) (l33:=l33) (l34:=l34) (l35:=l35) (by omega) eb a15 a22 q0 (by rw[eb];exact h1s (by omega) (by omega)) (by rw[eb];exact q3u q1) rfl (q3u q2) rfl (by rw[eb];exact g4o q3) rfl
  rw[o3z hi (by omega)]at e
  exact e
 ·have q9: ¬((l35.length:Nat):Int)<((l35.length:Nat):Int):=by omega
  exact a4h (n0:=0) (by omega) eb a15 a22 q9
end Go.Proofs.Ytlambinleegdoaa.Vx
end
