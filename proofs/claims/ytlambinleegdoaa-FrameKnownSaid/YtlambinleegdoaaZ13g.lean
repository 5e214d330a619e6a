import Derived.Test.YtlambinleegdoaaVxAsk
import Derived.Test.YtlambinleegdoaaZ13e
import Derived.KernelRfl
import Derived.Test.YtlambinleegdoaaZ13f
noncomputable section
namespace Go.Proofs.Ytlambinleegdoaa.Vx
open Go Go.RowKit
set_option linter.unusedVariables false
set_option linter.unusedSimpArgs false
set_option maxRecDepth 100000
set_option maxHeartbeats 0
def a4w:LSh:={K:=0,log:=[],ins:=[(sh 219 [(1,.ptr 0 0),(2,.ptr 1 0),(3,.ptr 2 0),(4,.ptr 3 0),(5,.ptr 4 0),(11,.int .i64 0)],[inCo 1 5,ouB 6,stB 11,loB 16,liCo 23 6,.arr TC 27,.arr TB 28])],nils:=[],outs:=[(.exit 4,sh 219 [(1,.ptr 0 0),(2,.ptr 1 0),(3,.ptr 2 0),(4,.ptr 3 0),(5,.ptr 4 0)],[inCo 0 5,ouB 5,stB 10,loB 15,liCo 22 6,.arr TC 26,.arr TB 27]),(.ret,sh 219 [(0,.bool 0)],[])],cv:=[]}
def h3l:List Dat→Tree Step:=evL j4m 6 22 ls0 a4w
theorem y3s: ∃op,IsL h3l 6 22 a4w op:=bxL d3i (LsOk.none _ _ _)
def s3t:OpA:=opL y3s
theorem y3u (env:List Dat):s3t env=a0b h3l FU env:=j4w y3s env
theorem s3z {n0 n1 n2 n3 n4 n5 n6 n7 n8 n9 n10 n11 n12 n13:Int}{l14:List (Ty.den TB)}{n15 n16 n17 n18 n19 n20:Int}{l21:List (Ty.den TB)}{n22 n23 n24 n25 n26:Int}{l27:List (Ty.den TC)}{l28:List (Ty.den TB)}{b29 b30:Bool}(g0:l14.length=64)(g1:l21.length=64)(h0:(k3l [.n n1,.n (-1:Int),.n n3,.n n4,.n n5,.l TC l27,.n n6,.n n7,.n n8,.n n9,.n n10,.n n11,.n n12,.n n13,.l TB l14,.n n15,.n n16,.n n17,.n n18,.n n19,.n n20,.l TB l21,.n n22,.n n23,.n n24,.n n25,.n n26,.l TB l28])=(some (0,[.b b29])))(h1:(b29=true))(h2:(j3g [.n n1,.n (-1:Int),.n n3,.n n4,.n n5,.l TC l27,.n n6,.n n7,.n n8,.n n9,.n n10,.n n11,.n n12,.n n13,.l TB l14,.n n15,.n n16,.n n17,.n n18,.n n19,.n n20,.l TB l21,.n n22,.n n23,.n n24,.n n25,.n n26,.l TB l28,.l TB []])=(some (0,[.b b30])))(h3:(b30=true)):(h3l [.k 0,.n 0,.n n1,.n n2,.n n3,.n n4,.n n5,.n n6,.n n7,.n n8,.n n9,.n n10,.n n11,.n n12,.n n13,.l TB l14,.n n15,.n n16,.n n17,.n n18,.n n19,.n n20,.l TB l21,.n n22,.n n23,.n n24,.n n25,.n n26,.l TC l27,.l TB l28]).sel=some (Step.go [.k 0,.n (1:Int),.n n1,.n n2,.n n3,.n n4,.n n5,.n n6,.n n7,.n n8,.n n9,.n n10,.n n11,.n n12,.n n13,.l TB l14,.n n15,.n n16,.n n17,.n n18,.n n19,.n n20,.l TB l21,.n n22,.n n23,.n n24,.n n25,.n n26,.l TC l27,.l TB l28]):=sP [1,1,1,1]<|sA h0<|sP [1,1]<|sF (nt h1)<|sA h2<|sP [1,1]<|sF (nt h3)<|sP [1]<|sL
theorem t3s {n0 n1 n2 n3 n4 n5 n6 n7 n8 n9 n10 n11 n12 n13:Int}{l14:List (Ty.den TB)}{n15 n16 n17 n18 n19 n20:Int}{l21:List (Ty.den TB)}{n22 n23 n24 n25 n26:Int}{l27:List (Ty.den TC)}{l28:List (Ty.den TB)}{b29 b30:Bool}(g0:l14.length=64)(g1:l21.length=64)(h0:(k3l [.n n1,.n (1099511627777:Int),.n n3,.n n4,.n n5,.l TC l27,.n n6,.n n7,.n n8,.n n9,.n n10,.n n11,.n n12,.n n13,.l TB l14,.n n15,.n n16,.n n17,.n n18,.n n19,.n n20,.l TB l21,.n n22,.n n23,.n n24,.n n25,.n n26,.l TB l28])=(some (0,[.b b29])))(h1:(b29=true))(h2:(j3g [.n n1,.n (1099511627777:Int),.n n3,.n n4,.n n5,.l TC l27,.n n6,.n n7,.n n8,.n n9,.n n10,.n n11,.n n12,.n n13,.l TB l14,.n n15,.n n16,.n n17,.n n18,.n n19,.n n20,.l TB l21,.n n22,.n n23,.n n24,.n n25,.n n26,.l TB l28,.l TB []])=(some (0,[.b b30])))(h3:(b30=true)):(h3l [.k 0,.n 1,.n n1,.n n2,.n n3,.n n4,.n n5,.n n6,.n n7,.n n8,.n n9,.n n10,.n n11,.n n12,.n n13,.l TB l14,.n n15,.n n16,.n n17,.n n18,.n n19,.n n20,.l TB l21,.n n22,.n n23,.n n24,.n n25,.n n26,.l TC l27,.l TB l28]).sel=some (Step.go [.k 0,.n (2:Int),.n n1,.n n2,.n n3,.n n4,.n n5,.n n6,.n n7,.n n8,.n n9,.n n10,.n n11,.n n12,.n n13,.l TB l14,.n n15,.n n16,.n n17,.n n18,.n n19,.n n20,.l TB l21,.n n22,.n n23,.n n24,.n n25,.n n26,.l TC l27,.l TB l28]):=sP [1,1,1,0,1]<|sA h0<|sP [1,1]<|sF (nt h1)<|sA h2<|sP [1,1]<|sF (nt h3)<|sP [1]<|sL
theorem w3e {n0 n1 n2 n3 n4 n5 n6 n7 n8 n9 n10 n11 n12 n13:Int}{l14:List (Ty.den TB)}{n15 n16 n17 n18 n19 n20:Int}{l21:List (Ty.den TB)}{n22 n23 n24 n25 n26:Int}{l27:List (Ty.den TC)}{l28:List (Ty.den TB)}{b29 b30:Bool}(g0:l14.length=64)(g1:l21.length=64)(h0:(k3l [.n n1,.n n2,.n n3,.n n4,.n n5,.l TC [Ty.dflt TC,Ty.dflt TC,Ty.dflt TC,Ty.dflt TC,Ty.dflt TC,Ty.dflt TC,Ty.dflt TC,Ty.dflt TC,Ty.dflt TC],.n n6,.n n7,.n n8,.n n9,.n n10,.n n11,.n n12,.n n13,.l TB l14,.n n15,.n n16,.n n17,.n n18,.n n19,.n n20,.l TB l21,.n n22,.n n23,.n n24,.n n25,.n n26,.l TB l28])=(some (0,[.b b29])))(h1:(b29=true))(h2:(j3g [.n n1,.n n2,.n n3,.n n4,.n n5,.l TC [Ty.dflt TC,Ty.dflt TC,Ty.dflt TC,Ty.dflt TC,Ty.dflt TC,Ty.dflt TC,Ty.dflt TC,Ty.dflt TC,Ty.dflt TC],.n n6,.n n7,.n n8,.n n9,.n n10,.n n11,.n n12,.n n13,.l TB l14,.n n15,.n n16,.n n17,.n n18,.n n19,.n n20,.l TB l21,.n n22,.n n23,.n n24,.n n25,.n n26,.l TB l28,.l TB []])=(some (0,[.b b30])))(h3:(b30=true)):(h3l [.k 0,.n 2,.n n1,.n n2,.n n3,.n n4,.n n5,.n n6,.n n7,.n n8,.n n9,.n n10,.n n11,.n n12,.n n13,.l TB l14,.n n15,.n n16,.n n17,.n n18,.n n19,.n n20,.l TB l21,.n n22,.n n23,.n n24,.n n25,.n n26,.l TC l27,.l TB l28]).sel=some (Step.go [.k 0,.n (3:Int),.n n1,.n n2,.n n3,.n n4,.n n5,.n n6,.n n7,.n n8,.n n9,.n n10,.n n11,.n n12,.n n13,.l TB l14,.n n15,.n n16,.n n17,.n n18,.n n19,.n n20,.l TB l21,.n n22,.n n23,.n n24,.n n25,.n n26,.l TC l27,.l TB l28]):=sP [1,1,1,0,0,1,1]<|sA h0<|sP [1,1]<|sF (nt h1)<|sA h2<|sP [1,1]<|sF (nt h3)<|sP [1]<|sL
theorem t3h {n0 n1 n2 n3 n4 n5 n6 n7 n8 n9 n10 n11 n12 n13:Int}{l14:List (Ty.den TB)}{n15 n16 n17 n18 n19 n20:Int}{l21:List (Ty.den TB)}{n22 n23 n24 n25 n26:Int}{l27:List (Ty.den TC)}{l28:List (Ty.den TB)}{b29 b30:Bool}(g0:l14.length=64)(g1:l21.length=64)(h0:(k3l [.n n1,.n n2,.n n3,.n n4,.n n5,.l TC [((4:Int),(0:Int))],.n n6,.n n7,.n n8,.n n9,.n n10,.n n11,.n n12,.n n13,.l TB l14,.n n15,.n n16,.n n17,.n n18,.n n19,.n n20,.l TB l21,.n n22,.n n23,.n n24,.n n25,.n n26,.l TB l28])=(some (0,[.b b29])))(h1:(b29=true))(h2:(j3g [.n n1,.n n2,.n n3,.n n4,.n n5,.l TC [((4:Int),(0:Int))],.n n6,.n n7,.n n8,.n n9,.n n10,.n n11,.n n12,.n n13,.l TB l14,.n n15,.n n16,.n n17,.n n18,.n n19,.n n20,.l TB l21,.n n22,.n n23,.n n24,.n n25,.n n26,.l TB l28,.l TB []])=(some (0,[.b b30])))(h3:(b30=true)):(h3l [.k 0,.n 3,.n n1,.n n2,.n n3,.n n4,.n n5,.n n6,.n n7,.n n8,.n n9,.n n10,.n n11,.n n12,.n n13,.l TB l14,.n n15,.n n16,.n n17,.n n18,.n n19,.n n20,.l TB l21,.n n22,.n n23,.n n24,.n n25,.n n26,.l TC l27,.l TB l28]).sel=some (Step.go [.k 0,.n (4:Int),.n n1,.n n2,.n n3,.n n4,.n n5,.n n6,.n n7,.n n8,.n n9,.n n10,.n n11,.n n12,.n n13,.l TB l14,.n n15,.n n16,.n n17,.n n18,.n n19,.n n20,.l TB l21,.n n22,.n n23,.n n24,.n n25,.n n26,.l TC l27,.l TB l28]):=sP [1,1,1,0,0,0,1]<|sA h0<|sP [1,1]<|sF (nt h1)<|sA h2<|sP [1,1]<|sF (nt h3)<|sP [1]<|sL
theorem u3h {n0 n1 n2 n3 n4 n5 n6 n7 n8 n9 n10 n11 n12 n13:Int}{l14:List (Ty.den TB)}{n15 n16 n17 n18 n19 n20:Int}{l21:List (Ty.den TB)}{n22 n23 n24 n25 n26:Int}{l27:List (Ty.den TC)}{l28:List (Ty.den TB)}{b29 b30:Bool}(g0:l14.length=64)(g1:l21.length=64)(h0:(k3l [.n n1,.n n2,.n n3,.n n4,.n n5,.l TC [((1:Int),(64:Int))],.n n6,.n n7,.n n8,.n n9,.n n10,.n n11,.n n12,.n n13,.l TB l14,.n n15,.n n16,.n n17,.n n18,.n n19,.n n20,.l TB l21,.n n22,.n n23,.n n24,.n n25,.n n26,.l TB l28])=(some (0,[.b b29])))(h1:(b29=true))(h2:(j3g [.n n1,.n n2,.n n3,.n n4,.n n5,.l TC [((1:Int),(64:Int))],.n n6,.n n7,.n n8,.n n9,.n n10,.n n11,.n n12,.n n13,.l TB l14,.n n15,.n n16,.n n17,.n n18,.n n19,.n n20,.l TB l21,.n n22,.n n23,.n n24,.n n25,.n n26,.l TB l28,.l TB []])=(some (0,[.b b30])))(h3:(b30=true)):(h3l [.k 0,.n 4,.n n1,.n n2,.n n3,.n n4,.n n5,.n n6,.n n7,.n n8,.n n9,.n n10,.n n11,.n n12,.n n13,.l TB l14,.n n15,.n n16,.n n17,.n n18,.n n19,.n n20,.l TB l21,.n n22,.n n23,.n n24,.n n25,.n n26,.l TC l27,.l TB l28]).sel=some (Step.go [.k 0,.n (5:Int),.n n1,.n n2,.n n3,.n n4,.n n5,.n n6,.n n7,.n n8,.n n9,.n n10,.n n11,.n n12,.n n13,.l TB l14,.n n15,.n n16,.n n17,.n n18,.n n19,.n n20,.l TB l21,.n n22,.n n23,.n n24,.n n25,.n n26,.l TC l27,.l TB l28]):=sP [1,1,1,0,0,0,0,1]<|sA h0<|sP [1,1]<|sF (nt h1)<|sA h2<|sP [1,1]<|sF (nt h3)<|sP [1]<|sL
theorem y3a {n0 n1 n2 n3 n4 n5 n6 n7 n8 n9 n10 n11 n12 n13:Int}{l14:List (Ty.den TB)}{n15 n16 n17 n18 n19 n20:Int}{l21:List (Ty.den TB)}{n22 n23 n24 n25 n26:Int}{l27:List (Ty.den TC)}{l28:List (Ty.den TB)}{b29 b30:Bool}(g0:l14.length=64)(g1:l21.length=64)(h0:(k3l [.n n1,.n n2,.n n3,.n n4,.n n5,.l TC [((1:Int),(-1:Int))],.n n6,.n n7,.n n8,.n n9,.n n10,.n n11,.n n12,.n n13,.l TB l14,.n n15,.n n16,.n n17,.n n18,.n n19,.n n20,.l TB l21,.n n22,.n n23,.n n24,.n n25,.n n26,.l TB l28])=(some (0,[.b b29])))(h1:(b29=true))(h2:(j3g [.n n1,.n n2,.n n3,.n n4,.n n5,.l TC [((1:Int),(-1:Int))],.n n6,.n n7,.n n8,.n n9,.n n10,.n n11,.n n12,.n n13,.l TB l14,.n n15,.n n16,.n n17,.n n18,.n n19,.n n20,.l TB l21,.n n22,.n n23,.n n24,.n n25,.n n26,.l TB l28,.l TB []])=(some (0,[.b b30])))(h3:(b30=true)):(h3l [.k 0,.n 5,.n n1,.n n2,.n n3,.n n4,.n n5,.n n6,.n n7,.n n8,.n n9,.n n10,.n n11,.n n12,.n n13,.l TB l14,.n n15,.n n16,.n n17,.n n18,.n n19,.n n20,.l TB l21,.n n22,.n n23,.n n24,.n n25,.n n26,.l TC l27,.l TB l28]).sel=some (Step.go [.k 0,.n (6:Int),.n n1,.n n2,.n n3,.n n4,.n n5,.n n6,.n n7,.n n8,.n n9,.n n10,.n n11,.n n12,.n n13,.l TB l14,.n n15,.n n16,.n n17,.n n18,.n n19,.n n20,.l TB l21,.n n22,.n n23,.n n24,.n n25,.n n26,.l TC l27,.l TB l28]):=sP [1,1,1,0,0,0,0,0,1]<|sA h0<|sP [1,1]<|sF (nt h1)<|sA h2<|sP [1,1]<|sF (nt h3)<|sP [1]<|sL
theorem x3u {n0 n1 n2 n3 n4 n5 n6 n7 n8 n9 n10 n11 n12 n13:Int}{l14:List (Ty.den TB)}{n15 n16 n17 n18 n19 n20:Int}{l21:List (Ty.den TB)}{n22 n23 n24 n25 n26:Int}{l27:List (Ty.den TC)}{l28:List (Ty.den TB)}{b29 b30:Bool}(g0:l14.length=64)(g1:l21.length=64)(h0:(k3l [.n n1,.n n2,.n n3,.n n4,.n n5,.l TC l27,.n n6,.n n7,.n (-1:Int),.n n9,.n n10,.n n11,.n n12,.n n13,.l TB l14,.n n15,.n n16,.n n17,.n n18,.n n19,.n n20,.l TB l21,.n n22,.n n23,.n n24,.n n25,.n n26,.l TB l28])=(some (0,[.b b29])))(h1:(b29=true))(h2:(j3g [.n n1,.n n2,.n n3,.n n4,.n n5,.l TC l27,.n n6,.n n7,.n (-1:Int),.n n9,.n n10,.n n11,.n n12,.n n13,.l TB l14,.n n15,.n n16,.n n17,.n n18,.n n19,.n n20,.l TB l21,.n n22,.n n23,.n n24,.n n25,.n n26,.l TB l28,.l TB []])=(some (0,[.b b30])))(h3:(b30=true)):(h3l [.k 0,.n 6,.n n1,.n n2,.n n3,.n n4,.n n5,.n n6,.n n7,.n n8,.n n9,.n n10,.n n11,.n n12,.n n13,.l TB l14,.n n15,.n n16,.n n17,.n n18,.n n19,.n n20,.l TB l21,.n n22,.n n23,.n n24,.n n25,.n n26,.l TC l27,.l TB l28]).sel=some (Step.go [.k 0,.n (7:Int),.n n1,.n n2,.n n3,.n n4,.n n5,.n n6,.n n7,.n n8,.n n9,.n n10,.n n11,.n n12,.n n13,.l TB l14,.n n15,.n n16,.n n17,.n n18,.n n19,.n n20,.l TB l21,.n n22,.n n23,.n n24,.n n25,.n n26,.l TC l27,.l TB l28]):=sP [1,1,1,0,0,0,0,0,0,1]<|sA h0<|sP [1,1]<|sF (nt h1)<|sA h2<|sP [1,1]<|sF (nt h3)<|sP [1]<|sL
theorem x3b {n0 n1 n2 n3 n4 n5 n6 n7 n8 n9 n10 n11 n12 n13:Int}{l14:List (Ty.den TB)}{n15 n16 n17 n18 n19 n20:Int}{l21:List (Ty.den TB)}{n22 n23 n24 n25 n26:Int}{l27:List (Ty.den TC)}{l28:List (Ty.den TB)}{b29 b30:Bool}(g0:l14.length=64)(g1:l21.length=64)(h0:(k3l [.n n1,.n n2,.n n3,.n n4,.n n5,.l TC l27,.n n6,.n (-1:Int),.n n8,.n n9,.n n10,.n n11,.n n12,.n n13,.l TB l14,.n n15,.n n16,.n n17,.n n18,.n n19,.n n20,.l TB l21,.n n22,.n n23,.n n24,.n n25,.n n26,.l TB l28])=(some (0,[.b b29])))(h1:(b29=true))(h2:(j3g [.n n1,.n n2,.n n3,.n n4,.n n5,.l TC l27,.n n6,.n (-1:Int),.n n8,.n n9,.n n10,.n n11,.n n12,.n n13,.l TB l14,.n n15,.n n16,.n n17,.n n18,.n n19,.n n20,.l TB l21,.n n22,.n n23,.n n24,.n n25,.n n26,.l TB l28,.l TB []])=(some (0,[.b b30])))(h3:(b30=true)):(h3l [.k 0,.n 7,.n n1,.n n2,.n n3,.n n4,.n n5,.n n6,.n n7,.n n8,.n n9,.n n10,.n n11,.n n12,.n n13,.l TB l14,.n n15,.n n16,.n n17,.n n18,.n n19,.n n20,.l TB l21,.n n22,.n n23,.n n24,.n n25,.n n26,.l TC l27,.l TB l28]).sel=some (Step.go [.k 0,.n (8:Int),.n n1,.n n2,.n n3,.n n4,.n n5,.n n6,.n n7,.n n8,.n n9,.n n10,.n n11,.n n12,.n n13,.l TB l14,.n n15,.n n16,.n n17,.n n18,.n n19,.n n20,.l TB l21,.n n22,.n n23,.n n24,.n n25,.n n26,.l TC l27,.l TB l28]):=sP [1,1,1,0,0,0,0,0,0,0,1]<|sA h0<|sP [1,1]<|sF (nt h1)<|sA h2<|sP [1,1]<|sF (nt h3)<|sP [1]<|sL
theorem t3u {n0 n1 n2 n3 n4 n5 n6 n7 n8 n9 n10 n11 n12 n13:Int}{l14:List (Ty.den TB)}{n15 n16 n17 n18 n19 n20:Int}{l21:List (Ty.den TB)}{n22 n23 n24 n25 n26:Int}{l27:List (Ty.den TC)}{l28:List (Ty.den TB)}{b29 b30:Bool}(g0:l14.length=64)(g1:l21.length=64)(h0:(k3l [.n n1,.n n2,.n n3,.n n4,.n n5,.l TC l27,.n n6,.n n7,.n n8,.n n9,.n n10,.n n11,.n n12,.n n13,.l TB l14,.n n15,.n (1099511627777:Int),.n n17,.n n18,.n n19,.n n20,.l TB l21,.n n22,.n n23,.n n24,.n n25,.n n26,.l TB l28])=(some (0,[.b b29])))(h1:(b29=true))(h2:(j3g [.n n1,.n n2,.n n3,.n n4,.n n5,.l TC l27,.n n6,.n n7,.n n8,.n n9,.n n10,.n n11,.n n12,.n n13,.l TB l14,.n n15,.n (1099511627777:Int),.n n17,.n n18,.n n19,.n n20,.l TB l21,.n n22,.n n23,.n n24,.n n25,.n n26,.l TB l28,.l TB []])=(some (0,[.b b30])))(h3:(b30=true)):(h3l [.k 0,.n 8,.n n1,.n n2,.n n3,.n n4,.n n5,.n n6,.n n7,.n n8,.n n9,.n n10,.n n11,.n n12,.n n13,.l TB l14,.n n15,.n n16,.n n17,.n n18,.n n19,.n n20,.l TB l21,.n n22,.n n23,.n n24,.n n25,.n n26,.l TC l27,.l TB l28]).sel=some (Step.go [.k 0,.n (9:Int),.n n1,.n n2,.n n3,.n n4,.n n5,.n n6,.n n7,.n n8,.n n9,.n n10,.n n11,.n n12,.n n13,.l TB l14,.n n15,.n n16,.n n17,.n n18,.n n19,.n n20,.l TB l21,.n n22,.n n23,.n n24,.n n25,.n n26,.l TC l27,.l TB l28]):=sP [1,1,1,0,0,0,0,0,0,0,0,1]<|sA h0<|sP [1,1]<|sF (nt h1)<|sA h2<|sP [1,1]<|sF (nt h3)<|sP [1]<|sL
theorem y3m {n0 n1 n2 n3 n4 n5 n6 n7 n8 n9 n10 n11 n12 n13:Int}{l14:List (Ty.den TB)}{n15 n16 n17 n18 n19 n20:Int}{l21:List (Ty.den TB)}{n22 n23 n24 n25 n26:Int}{l27:List (Ty.den TC)}{l28:List (Ty.den TB)}{b29 b30:Bool}(g0:l14.length=64)(g1:l21.length=64)(h0:(k3l [.n n1,.n n2,.n n3,.n n4,.n n5,.l TC l27,.n n6,.n n7,.n n8,.n n9,.n n10,.n n11,.n n12,.n n13,.l TB l14,.n n15,.n n16,.n (-1:Int),.n n18,.n n19,.n n20,.l TB l21,.n n22,.n n23,.n n24,.n n25,.n n26,.l TB l28])=(some (0,[.b b29])))(h1:(b29=true))(h2:(j3g [.n n1,.n n2,.n n3,.n n4,.n n5,.l TC l27,.n n6,.n n7,.n n8,.n n9,.n n10,.n n11,.n n12,.n n13,.l TB l14,.n n15,.n n16,.n (-1:Int),.n n18,.n n19,.n n20,.l TB l21,.n n22,.n n23,.n n24,.n n25,.n n26,.l TB l28,.l TB []])=(some (0,[.b b30])))(h3:(b30=true)):(h3l [.k 0,.n 9,.n n1,.n n2,.n n3,.n n4,.n n5,.n n6,.n n7,.n n8,.n n9,.n n10,.n n11,.n n12,.n n13,.l TB l14,.n n15,.n n16,.n n17,.n n18,.n n19,.n n20,.l TB l21,.n n22,.n n23,.n n24,.n n25,.n n26,.l TC l27,.l TB l28]).sel=some (Step.go [.k 0,.n (10:Int),.n n1,.n n2,.n n3,.n n4,.n n5,.n n6,.n n7,.n n8,.n n9,.n n10,.n n11,.n n12,.n n13,.l TB l14,.n n15,.n n16,.n n17,.n n18,.n n19,.n n20,.l TB l21,.n n22,.n n23,.n n24,.n n25,.n n26,.l TC l27,.l TB l28]):=sP [1,1,1,0,0,0,0,0,0,0,0,0,1]<|sA h0<|sP [1,1]<|sF (nt h1)<|sA h2<|sP [1,1]<|sF (nt h3)<|sP [1]<|sL
theorem s3e {n0 n1 n2 n3 n4 n5 n6 n7 n8 n9 n10 n11 n12 n13:Int}{l14:List (Ty.den TB)}{n15 n16 n17 n18 n19 n20:Int}{l21:List (Ty.den TB)}{n22 n23 n24 n25 n26:Int}{l27:List (Ty.den TC)}{l28:List (Ty.den TB)}{b29 b30:Bool}(g0:l14.length=64)(g1:l21.length=64)(h0:(k3l [.n n1,.n n2,.n n3,.n n4,.n n5,.l TC l27,.n n6,.n n7,.n n8,.n n9,.n n10,.n n11,.n n12,.n n13,.l TB l14,.n n15,.n n16,.n n17,.n n18,.n n19,.n n20,.l TB l21,.n n22,.n n23,.n n24,.n (-1:Int),.n n26,.l TB l28])=(some (0,[.b b29])))(h1:(b29=true))(h2:(j3g [.n n1,.n n2,.n n3,.n n4,.n n5,.l TC l27,.n n6,.n n7,.n n8,.n n9,.n n10,.n n11,.n n12,.n n13,.l TB l14,.n n15,.n n16,.n n17,.n n18,.n n19,.n n20,.l TB l21,.n n22,.n n23,.n n24,.n (-1:Int),.n n26,.l TB l28,.l TB []])=(some (0,[.b b30])))(h3:(b30=true)):(h3l [.k 0,.n 10,.n n1,.n n2,.n n3,.n n4,.n n5,.n n6,.n n7,.n n8,.n n9,.n n10,.n n11,.n n12,.n n13,.l TB l14,.n n15,.n n16,.n n17,.n n18,.n n19,.n n20,.l TB l21,.n n22,.n n23,.n n24,.n n25,.n n26,.l TC l27,.l TB l28]).sel=some (Step.go [.k 0,.n (11:Int),.n n1,.n n2,.n n3,.n n4,.n n5,.n n6,.n n7,.n n8,.n n9,.n n10,.n n11,.n n12,.n n13,.l TB l14,.n n15,.n n16,.n n17,.n n18,.n n19,.n n20,.l TB l21,.n n22,.n n23,.n n24,.n n25,.n n26,.l TC l27,.l TB l28]):=sP [1,1,1,0,0,0,0,0,0,0,0,0,0,1]<|sA h0<|sP [1,1]<|sF (nt h1)<|sA h2<|sP [1,1]<|sF (nt h3)<|sP [1]<|sL
theorem s3g {n0 n1 n2 n3 n4 n5 n6 n7 n8 n9 n10 n11 n12 n13:Int}{l14:List (Ty.den TB)}{n15 n16 n17 n18 n19 n20:Int}{l21:List (Ty.den TB)}{n22 n23 n24 n25 n26:Int}{l27:List (Ty.den TC)}{l28:List (Ty.den TB)}{b29 b30:Bool}(g0:l14.length=64)(g1:l21.length=64)(h0:(k3l [.n n1,.n n2,.n n3,.n n4,.n n5,.l TC l27,.n n6,.n n7,.n n8,.n n9,.n n10,.n n11,.n n12,.n n13,.l TB l14,.n n15,.n n16,.n n17,.n n18,.n n19,.n n20,.l TB l21,.n n22,.n n23,.n n24,.n n25,.n (4611686018427387905:Int),.l TB l28])=(some (0,[.b b29])))(h1:(b29=true))(h2:(j3g [.n n1,.n n2,.n n3,.n n4,.n n5,.l TC l27,.n n6,.n n7,.n n8,.n n9,.n n10,.n n11,.n n12,.n n13,.l TB l14,.n n15,.n n16,.n n17,.n n18,.n n19,.n n20,.l TB l21,.n n22,.n n23,.n n24,.n n25,.n (4611686018427387905:Int),.l TB l28,.l TB []])=(some (0,[.b b30])))(h3:(b30=true)):(h3l [.k 0,.n 11,.n n1,.n n2,.n n3,.n n4,.n n5,.n n6,.n n7,.n n8,.n n9,.n n10,.n n11,.n n12,.n n13,.l TB l14,.n n15,.n n16,.n n17,.n n18,.n n19,.n n20,.l TB l21,.n n22,.n n23,.n n24,.n n25,.n n26,.l TC l27,.l TB l28]).sel=some (Step.go [.k 0,.n (12:Int),.n n1,.n n2,.n n3,.n n4,.n n5,.n n6,.n n7,.n n8,.n n9,.n n10,.n n11,.n n12,.n n13,.l TB l14,.n n15,.n n16,.n n17,.n n18,.n n19,.n n20,.l TB l21,.n n22,.n n23,.n n24,.n n25,.n n26,.l TC l27,.l TB l28]):=sP [1,1,1,0,0,0,0,0,0,0,0,0,0,0,1]<|sA h0<|sP [1,1]<|sF (nt h1)<|sA h2<|sP [1,1]<|sF (nt h3)<|sP [1]<|sL
theorem s3k {n0 n1 n2 n3 n4 n5 n6 n7 n8 n9 n10 n11 n12 n13:Int}{l14:List (Ty.den TB)}{n15 n16 n17 n18 n19 n20:Int}{l21:List (Ty.den TB)}{n22 n23 n24 n25 n26:Int}{l27:List (Ty.den TC)}{l28:List (Ty.den TB)}{b29 b30:Bool}(g0:l14.length=64)(g1:l21.length=64)(h0:(k3l [.n n1,.n n2,.n n3,.n n4,.n n5,.l TC l27,.n n6,.n n7,.n n8,.n n9,.n n10,.n n11,.n n12,.n n13,.l TB l14,.n n15,.n n16,.n n17,.n n18,.n n19,.n n20,.l TB l21,.n n22,.n n23,.n n24,.n n25,.n n26,.l TB (List.replicate 2049 (0:Int))])=(some (0,[.b b29])))(h1:(b29=true))(h2:(j3g [.n n1,.n n2,.n n3,.n n4,.n n5,.l TC l27,.n n6,.n n7,.n n8,.n n9,.n n10,.n n11,.n n12,.n n13,.l TB l14,.n n15,.n n16,.n n17,.n n18,.n n19,.n n20,.l TB l21,.n n22,.n n23,.n n24,.n n25,.n n26,.l TB (List.replicate 2049 (0:Int)),.l TB []])=(some (0,[.b b30])))(h3:(b30=true)):(h3l [.k 0,.n 12,.n n1,.n n2,.n n3,.n n4,.n n5,.n n6,.n n7,.n n8,.n n9,.n n10,.n n11,.n n12,.n n13,.l TB l14,.n n15,.n n16,.n n17,.n n18,.n n19,.n n20,.l TB l21,.n n22,.n n23,.n n24,.n n25,.n n26,.l TC l27,.l TB l28]).sel=some (Step.go [.k 0,.n (13:Int),.n n1,.n n2,.n n3,.n n4,.n n5,.n n6,.n n7,.n n8,.n n9,.n n10,.n n11,.n n12,.n n13,.l TB l14,.n n15,.n n16,.n n17,.n n18,.n n19,.n n20,.l TB l21,.n n22,.n n23,.n n24,.n n25,.n n26,.l TC l27,.l TB l28]):=sP [1,1,1,0,0,0,0,0,0,0,0,0,0,0,0,1,1]<|sA h0<|sP [1,1]<|sF (nt h1)<|sA h2<|sP [1,1]<|sF (nt h3)<|sP [1]<|sL
theorem s3m {n0 n1 n2 n3 n4 n5 n6 n7 n8 n9 n10 n11 n12 n13:Int}{l14:List (Ty.den TB)}{n15 n16 n17 n18 n19 n20:Int}{l21:List (Ty.den TB)}{n22 n23 n24 n25 n26:Int}{l27:List (Ty.den TC)}{l28:List (Ty.den TB)}{b29 b30:Bool}(g0:l14.length=64)(g1:l21.length=64)(h0:(k3l [.n n1,.n n2,.n n3,.n n4,.n n5,.l TC l27,.n n6,.n n7,.n n8,.n n9,.n n10,.n n11,.n n12,.n n13,.l TB l14,.n n15,.n n16,.n n17,.n n18,.n n19,.n n20,.l TB l21,.n n22,.n n23,.n n24,.n n25,.n n26,.l TB (List.replicate 2048 (0:Int))])=(some (0,[.b b29])))(h1:(b29=true))(h2:(j3g [.n n1,.n n2,.n n3,.n n4,.n n5,.l TC l27,.n n6,.n n7,.n n8,.n n9,.n n10,.n n11,.n n12,.n n13,.l TB l14,.n n15,.n n16,.n n17,.n n18,.n n19,.n n20,.l TB l21,.n n22,.n n23,.n n24,.n n25,.n n26,.l TB (List.replicate 2048 (0:Int)),.l TB []])=(some (0,[.b b30])))(h3:(b30=true)):(h3l [.k 0,.n 13,.n n1,.n n2,.n n3,.n n4,.n n5,.n n6,.n n7,.n n8,.n n9,.n n10,.n n11,.n n12,.n n13,.l TB l14,.n n15,.n n16,.n n17,.n n18,.n n19,.n n20,.l TB l21,.n n22,.n n23,.n n24,.n n25,.n n26,.l TC l27,.l TB l28]).sel=some (Step.go [.k 0,.n (14:Int),.n n1,.n n2,.n n3,.n n4,.n n5,.n n6,.n n7,.n n8,.n n9,.n n10,.n n11,.n n12,.n n13,.l TB l14,.n n15,.n n16,.n n17,.n n18,.n n19,.n n20,.l TB l21,.n n22,.n n23,.n n24,.n n25,.n n26,.l TC l27,.l TB l28]):=sP [1,1,1,0,0,0,0,0,0,0,0,0,0,0,0,0,1,1]<|sA h0<|sP [1,1]<|sF (nt h1)<|sA h2<|sP [1,1]<|sF (nt h3)<|sP [1]<|sL
theorem s3d {n0 n1 n2 n3 n4 n5 n6 n7 n8 n9 n10 n11 n12 n13:Int}{l14:List (Ty.den TB)}{n15 n16 n17 n18 n19 n20:Int}{l21:List (Ty.den TB)}{n22 n23 n24 n25 n26:Int}{l27:List (Ty.den TC)}{l28:List (Ty.den TB)}(g0:l14.length=64)(g1:l21.length=64):(h3l [.k 0,.n 14,.n n1,.n n2,.n n3,.n n4,.n n5,.n n6,.n n7,.n n8,.n n9,.n n10,.n n11,.n n12,.n n13,.l TB l14,.n n15,.n n16,.n n17,.n n18,.n n19,.n n20,.l TB l21,.n n22,.n n23,.n n24,.n n25,.n n26,.l TC l27,.l TB l28]).sel=some (Step.stop 0 [.n n1,.n n2,.n n3,.n n4,.n n5,.n n6,.n n7,.n n8,.n n9,.n n10,.n n11,.n n12,.n n13,.l TB l14,.n n15,.n n16,.n n17,.n n18,.n n19,.n n20,.l TB l21,.n n22,.n n23,.n n24,.n n25,.n n26,.l TC l27,.l TB l28]):=sP [1,0,1]<|sL
def frD:List Dat:=.n (1:Int)::.n (5:Int)::.n (3:Int)::.n (4:Int)::.n (5:Int)::.n (2:Int)::.n (1099511627776:Int)::.n (1:Int)::.n (0:Int)::.n (0:Int)::.n (1:Int)::.n (2:Int)::.n (3:Int)::.l TB ((List.replicate 63 0++[9]):List Int)::.n (4:Int)::.n (3:Int)::.n (4:Int)::.n (1:Int)::.n (2:Int)::.n (3:Int)::.l TB ((List.replicate 63 0++[9]):List Int)::.n (4:Int)::.n (1:Int)::.n (2:Int)::.n (3:Int)::.n (4611686018427387904:Int)::.l TC (c0L:List (Int×Int))::.l TB ([97,98]:List Int)::[]
theorem n_run:s3t (.k 0::.n 0::frD)=some (0,frD):=by
 rw[y3u]
 have a:((List.replicate 63 0++[9]):List Int).length=64:=by decide+kernel
 refine b0a (st:=h3l) (fun i=>.k 0::.n (i:Int)::frD) 14 (0,frD) ?_ ?_ FU (b1w (by omega))
 ·intro i hi
  match i,hi with
  |0,_=>exact s3z (n0:=0) (b29:=true) (b30:=true) a a (by kernel_rfl) rfl (by kernel_rfl) rfl
  |1,_=>exact t3s (n0:=0) (b29:=true) (b30:=true) a a (by kernel_rfl) rfl (by kernel_rfl) rfl
  |2,_=>exact w3e (n0:=0) (b29:=true) (b30:=true) a a (by kernel_rfl) rfl (by kernel_rfl) rfl
  |3,_=>exact t3h (n0:=0) (b29:=true) (b30:=true) a a (by kernel_rfl) rfl (by kernel_rfl) rfl
  |4,_=>exact u3h (n0:=0) (b29:=true) (b30:=true) a a (by kernel_rfl) rfl (by kernel_rfl) rfl
  |5,_=>exact y3a (n0:=0) (b29:=true) (b30:=true) a a (by kernel_rfl) rfl (by kernel_rfl) rfl
  |6,_=>exact x3u (n0:=0) (b29:=true) (b30:=true) a a (by kernel_rfl) rfl (by kernel_rfl) rfl
  |7,_=>exact x3b (n0:=0) (b29:=true) (b30:=true) a a (by kernel_rfl) rfl (by kernel_rfl) rfl
  |8,_=>exact t3u (n0:=0) (b29:=true) (b30:=true) a a (by kernel_rfl) rfl (by kernel_rfl) rfl
  |9,_=>exact y3m (n0:=0) (b29:=true) (b30:=true) a a (by kernel_rfl) rfl (by kernel_rfl) rfl
  |10,_=>exact s3e (n0:=0) (b29:=true) (b30:=true) a a (by kernel_rfl) rfl (by kernel_rfl) rfl
  |11,_=>exact s3g (n0:=0) (b29:=true) (b30:=true) a a (by kernel_rfl) rfl (by kernel_rfl) rfl
  |12,_=>exact s3k (n0:=0) (b29:=true) (b30:=true) a a (by kernel_rfl) rfl (by kernel_rfl) rfl
  |13,_=>exact s3m (n0:=0) (b29:=true) (b30:=true) a a (by kernel_rfl) rfl (by kernel_rfl) rfl
  |n+14,h=>omega
 ·exact s3d (n0:=0) a a
def pN (n0:Int)(n1:Int)(n2:Int)(n3:Int)(n4:Int)(n5:Int)(n6:Int)(n7:Int)(n8:Int)(n9:Int)(n10:Int)(n11:Int)(n12:Int)(n13:Int)(l14:List Int)(n15:Int)(n16:Int)(n17:Int)(n18:Int)(n19:Int)(n20:Int)(l21:List Int)(n22:Int)(n23:Int)(n24:Int)(n25:Int)(n26:Int)(l27:List (Int×Int))(l28:List Int):Bool:=(n0==0)&&(n1==(1:Int))&&(n2==(5:Int))&&(n3==(3:Int))&&(n4==(4:Int))&&(n5==(5:Int))&&(n6==(2:Int))&&(n7==(1099511627776:Int))&&(n8==(1:Int))&&(n9==(0:Int))&&(n10==(0:Int))&&(n11==(1:Int))&&(n12==(2:Int))&&(n13==(3:Int))&&eqLi l14 ((List.replicate 63 0++[9]):List Int)&&(n15==(4:Int))&&(n16==(3:Int))&&(n17==(4:Int))&&(n18==(1:Int))&&(n19==(2:Int))&&(n20==(3:Int))&&eqLi l21 ((List.replicate 63 0++[9]):List Int)&&(n22==(4:Int))&&(n23==(1:Int))&&(n24==(2:Int))&&(n25==(3:Int))&&(n26==(4611686018427387904:Int))&&eqLc l27 (c0L:List (Int×Int))&&eqLi l28 ([97,98]:List Int)
def tN:OpA
 |.k 0::d=>bif h1z [.n,.n,.n,.n,.n,.n,.n,.n,.n,.n,.n,.n,.n,.n,.l TB,.n,.n,.n,.n,.n,.n,.l TB,.n,.n,.n,.n,.n,.l TC,.l TB] d&&pN (gn d 0) (gn d 1) (gn d 2) (gn d 3) (gn d 4) (gn d 5) (gn d 6) (gn d 7) (gn d 8) (gn d 9) (gn d 10) (gn d 11) (gn d 12) (gn d 13) (gl TB d 14) (gn d 15) (gn d 16) (gn d 17) (gn d 18) (gn d 19) (gn d 20) (gl TB d 21) (gn d 22) (gn d 23) (gn d 24) (gn d 25) (gn d 26) (gl TC d 27) (gl TB d 28)then some (0,frD)else none
 |_=>none
theorem tN_ok (env:List Dat)(y:Nat×List Dat)(h:tN env=some y):s3t env=some y:=by
 unfold tN at h
 split at h
 ·rename_i d
  obtain⟨hc,rfl⟩:=bifS h
  rw[Bool.and_eq_true]at hc
  obtain⟨hk,h1⟩:=hc
  obtain⟨x0,_,rfl,fk0⟩:=t0c hk
  obtain⟨x1,_,rfl,fk1⟩:=t0c fk0
  obtain⟨x2,_,rfl,fk2⟩:=t0c fk1
  obtain⟨x3,_,rfl,fk3⟩:=t0c fk2
  obtain⟨x4,_,rfl,fk4⟩:=t0c fk3
  obtain⟨x5,_,rfl,fk5⟩:=t0c fk4
  obtain⟨x6,_,rfl,fk6⟩:=t0c fk5
  obtain⟨x7,_,rfl,fk7⟩:=t0c fk6
  obtain⟨x8,_,rfl,fk8⟩:=t0c fk7
  obtain⟨x9,_,rfl,fk9⟩:=t0c fk8
  obtain⟨x10,_,rfl,fk10⟩:=t0c fk9
  obtain⟨x11,_,rfl,fk11⟩:=t0c fk10
  obtain⟨x12,_,rfl,fk12⟩:=t0c fk11
  obtain⟨x13,_,rfl,fk13⟩:=t0c fk12
  obtain⟨x14,_,rfl,fk14⟩:=t1c fk13
  obtain⟨x15,_,rfl,fk15⟩:=t0c fk14
  obtain⟨x16,_,rfl,fk16⟩:=t0c fk15
  obtain⟨x17,_,rfl,fk17⟩:=t0c fk16
  obtain⟨x18,_,rfl,fk18⟩:=t0c fk17
  obtain⟨x19,_,rfl,fk19⟩:=t0c fk18
  obtain⟨x20,_,rfl,fk20⟩:=t0c fk19
  obtain⟨x21,_,rfl,fk21⟩:=t1c fk20
  obtain⟨x22,_,rfl,fk22⟩:=t0c fk21
  obtain⟨x23,_,rfl,fk23⟩:=t0c fk22
  obtain⟨x24,_,rfl,fk24⟩:=t0c fk23
  obtain⟨x25,_,rfl,fk25⟩:=t0c fk24
  obtain⟨x26,_,rfl,fk26⟩:=t0c fk25
  obtain⟨x27,_,rfl,fk27⟩:=t1c fk26
  obtain⟨x28,_,rfl,fk28⟩:=t1c fk27
  cases h3p fk28
  have hp:pN x0 x1 x2 x3 x4 x5 x6 x7 x8 x9 x10 x11 x12 x13 x14 x15 x16 x17 x18 x19 x20 x21 x22 x23 x24 x25 x26 x27 x28=true:=h1
  clear h1
  unfold pN at hp
  simp only[Bool.and_eq_true]at hp
  obtain⟨⟨⟨⟨⟨⟨⟨⟨⟨⟨⟨⟨⟨⟨⟨⟨⟨⟨⟨⟨⟨⟨⟨⟨⟨⟨⟨⟨e0,e1⟩,e2⟩,e3⟩,e4⟩,e5⟩,e6⟩,e7⟩,e8⟩,e9⟩,e10⟩,e11⟩,e12⟩,e13⟩,e14⟩,e15⟩,e16⟩,e17⟩,e18⟩,e19⟩,e20⟩,e21⟩,e22⟩,e23⟩,e24⟩,e25⟩,e26⟩,e27⟩,e28⟩:=hp
  obtain rfl:x0=0:=eq_of_beq e0
  obtain rfl:x1=(1:Int):=eq_of_beq e1
  obtain rfl:x2=(5:Int):=eq_of_beq e2
  obtain rfl:x3=(3:Int):=eq_of_beq e3
  obtain rfl:x4=(4:Int):=eq_of_beq e4
  obtain rfl:x5=(5:Int):=eq_of_beq e5
  obtain rfl:x6=(2:Int):=eq_of_beq e6
  obtain rfl:x7=(1099511627776:Int):=eq_of_beq e7
  obtain rfl:x8=(1:Int):=eq_of_beq e8
  obtain rfl:x9=(0:Int):=eq_of_beq e9
  obtain rfl:x10=(0:Int):=eq_of_beq e10
  obtain rfl:x11=(1:Int):=eq_of_beq e11
  obtain rfl:x12=(2:Int):=eq_of_beq e12
  obtain rfl:x13=(3:Int):=eq_of_beq e13
  obtain rfl:x14=((List.replicate 63 0++[9]):List Int):=h3g e14
  obtain rfl:x15=(4:Int):=eq_of_beq e15
  obtain rfl:x16=(3:Int):=eq_of_beq e16
  obtain rfl:x17=(4:Int):=eq_of_beq e17
  obtain rfl:x18=(1:Int):=eq_of_beq e18
  obtain rfl:x19=(2:Int):=eq_of_beq e19
  obtain rfl:x20=(3:Int):=eq_of_beq e20
  obtain rfl:x21=((List.replicate 63 0++[9]):List Int):=h3g e21
  obtain rfl:x22=(4:Int):=eq_of_beq e22
  obtain rfl:x23=(1:Int):=eq_of_beq e23
  obtain rfl:x24=(2:Int):=eq_of_beq e24
  obtain rfl:x25=(3:Int):=eq_of_beq e25
  obtain rfl:x26=(4611686018427387904:Int):=eq_of_beq e26
  obtain rfl:x27=(c0L:List (Int×Int)):=k4y e27
  obtain rfl:x28=([97,98]:List Int):=h3g e28
  exact n_run
 ·cases h
def lsKn:b0u:=lsM [(15,mkMA g4z tJ),(22,mkMA a4w tN)] 0
theorem lsKn_ok:LsOk Try.prog 0 lsKn (a0r Try.prog 6):=lsE (lsC (s3h tJ_ok (z3n j4b)) (atF) (lsC (s3h tN_ok (z3n y3s)) (atF) lsZ))
theorem known:(Lk.lawB true LK csK 6 lsKn (instL [] [])).sel=some true:=by kernel_rfl
theorem WK_law (env:List Dat)(h:True){w:World}{aa:Array Value}(ha:LRel R0 (b0k w) (instL [] env) aa):
  Calls Try.prog 6 aa w fun e w'=>e=.returned (.bool true)∧Below w.heap.size w w':=
 lawB_ok csK_ok a4e true (ls:=lsKn) lsKn_ok (by rw[←lawB_lk];exact known) ha
end Go.Proofs.Ytlambinleegdoaa.Vx
end
