import Derived.Test.YtmgeoaenkmoaiaaVxAsk
import Derived.Test.YtmgeoaenkmoaiaaZ25
import Derived.KernelRfl
import Derived.Test.YtmgeoaenkmoaiaaVxBits
import Derived.Test.YtmgeoaenkmoaiaaVxLoop
import Derived.Test.YtmgeoaenkmoaiaaVxAid
noncomputable section
namespace Go.Proofs.Ytmgeoaenkmoaiaa.Vx
open Go Go.RowKit
set_option linter.unusedVariables false
set_option linter.unusedSimpArgs false
set_option maxRecDepth 100000
set_option maxHeartbeats 0
def S_te:BSh:={args:=[.ptr 0 0,.ptr 1 0,.ptr 2 0,.ptr 3 0],blks:=[seB 4 0,reB 1,seB 5 9,reB 10,.arr TLog 18,.arr TLog 19],log:=[],outs:=[(.bool 0,[seB 4 1,reB 2,seB 5 10,reB 11,.arr TLog 19,.arr TLog 20])]}
def ev_te:List Dat→Tree (Nat×List Dat):=evF n4t 11 ls0 S_te
theorem e_te: ∃op,IsF ev_te 11 S_te op:=bxF i4b (LsOk.none _ _ _)
def k4o:OpA:=opF e_te
theorem o4u {n0 n1 n2 n3 n4 n5:Int}{l6:List (Ty.den TB)}{n7:Int}{b8:Bool}{n9:Int}{l10:List (Ty.den TLog)}(g0:0≤n0)(g1:n0≤(l10.length:Int))(g2:l10.length≤8)(g3:IntKind.wrap .i64 (n0-(1:Int))=n9)(g4:eqL TB l6 l6=true)(h0:(n0=(0:Int)))(h1:((false==decide (n9≥(0:Int)))=true)):k4o [.n n0,.n n1,.n n2,.n n3,.n n4,.n n5,.l TB l6,.n n7,.b b8,.n n9,.n n1,.n n2,.n n3,.n n4,.n n5,.l TB l6,.n n7,.b b8,.l TLog l10,.l TLog l10]=some ((0,[.b (b8==b8),.n n0,.n n1,.n n2,.n n3,.n n4,.n n5,.l TB l6,.n n7,.b b8,.n n9,.n n1,.n n2,.n n3,.n n4,.n n5,.l TB l6,.n n7,.b b8,.l TLog l10,.l TLog l10])):=t2c e_te (sP [1,0]<|sT (bt h0)<|sP [1,1,0,1,1]<|sFo (c:=(decide (n9≥(0:Int))))<|sP [1,1,1]<|sT h1<|sP [1,1]<|sTs (c:=(n1==n1&&(n2==n2&&(n3==n3&&(n4==n4&&(n5==n5&&(eqL TB l6 l6&&(n7==n7&&true))))&&true))))<|sP [1,1]<|sL)
theorem r4f {n0 n1 n2 n3 n4 n5:Int}{l6:List (Ty.den TB)}{n7:Int}{b8:Bool}{n9:Int}{l10:List (Ty.den TLog)}(g0:0≤n0)(g1:n0≤(l10.length:Int))(g2:l10.length≤8)(g3:IntKind.wrap .i64 (n0-(1:Int))=n9)(g4:eqL TB l6 l6=true)(h0:(¬n0=(0:Int)))(h1:((Prod.fst (List.getD l10 (Int.toNat (IntKind.wrap .i64 (n0-(1:Int)))) (Ty.dflt TLog))==Prod.fst (List.getD l10 (Int.toNat n9) (Ty.dflt TLog))&&(Prod.fst (Prod.snd (List.getD l10 (Int.toNat (IntKind.wrap .i64 (n0-(1:Int)))) (Ty.dflt TLog)))==Prod.fst (Prod.snd (List.getD l10 (Int.toNat n9) (Ty.dflt TLog)))&&(Prod.fst (Prod.snd (Prod.snd (List.getD l10 (Int.toNat (IntKind.wrap .i64 (n0-(1:Int)))) (Ty.dflt TLog))))==Prod.fst (Prod.snd (Prod.snd (List.getD l10 (Int.toNat n9) (Ty.dflt TLog))))&&(Prod.fst (Prod.snd (Prod.snd (Prod.snd (List.getD l10 (Int.toNat (IntKind.wrap .i64 (n0-(1:Int)))) (Ty.dflt TLog)))))==Prod.fst (Prod.snd (Prod.snd (Prod.snd (List.getD l10 (Int.toNat n9) (Ty.dflt TLog)))))&&(Prod.fst (Prod.snd (Prod.snd (Prod.snd (Prod.snd (List.getD l10 (Int.toNat (IntKind.wrap .i64 (n0-(1:Int)))) (Ty.dflt TLog))))))==Prod.fst (Prod.snd (Prod.snd (Prod.snd (Prod.snd (List.getD l10 (Int.toNat n9) (Ty.dflt TLog))))))&&(eqL TB (Prod.fst (Prod.snd (Prod.snd (Prod.snd (Prod.snd (Prod.snd (List.getD l10 (Int.toNat (IntKind.wrap .i64 (n0-(1:Int)))) (Ty.dflt TLog)))))))) (Prod.fst (Prod.snd (Prod.snd (Prod.snd (Prod.snd (Prod.snd (List.getD l10 (Int.toNat n9) (Ty.dflt TLog))))))))&&(Prod.snd (Prod.snd (Prod.snd (Prod.snd (Prod.snd (Prod.snd (List.getD l10 (Int.toNat (IntKind.wrap .i64 (n0-(1:Int)))) (Ty.dflt TLog)))))))==Prod.snd (Prod.snd (Prod.snd (Prod.snd (Prod.snd (Prod.snd (List.getD l10 (Int.toNat n9) (Ty.dflt TLog)))))))&&true))))&&true)))=true))(h2:((true==decide (n9≥(0:Int)))=true)):k4o [.n n0,.n n1,.n n2,.n n3,.n n4,.n n5,.l TB l6,.n n7,.b b8,.n n9,.n n1,.n n2,.n n3,.n n4,.n n5,.l TB l6,.n n7,.b b8,.l TLog l10,.l TLog l10]=some ((0,[.b (b8==b8),.n n0,.n n1,.n n2,.n n3,.n n4,.n n5,.l TB l6,.n n7,.b b8,.n n9,.n n1,.n n2,.n n3,.n n4,.n n5,.l TB l6,.n n7,.b b8,.l TLog l10,.l TLog l10])):=t2c e_te (sP [1,0]<|sF (bf h0)<|sTo (c:=(inR (IntKind.wrap .i64 (n0-(1:Int))) (List.length l10)))<|sP [1,1,1,0,1,1]<|sTo (c:=(decide (n9≥(0:Int))))<|sTo (c:=(inR n9 (List.length l10)))<|sP [1,1,1]<|sT h1<|sT h2<|sP [1,1]<|sTs (c:=(n1==n1&&(n2==n2&&(n3==n3&&(n4==n4&&(n5==n5&&(eqL TB l6 l6&&(n7==n7&&true))))&&true))))<|sP [1,1]<|sL)
def cs_te:FuncId→Option a0q:=e1c 11 [S_te.k k4o] n4t
theorem k4a:CsOk Try.prog cs_te:=csA1 i4b e_te
def S_do:BSh:={args:=[.ptr 0 0,.ptr 1 0,.ptr 2 0,.ptr 3 0,caV 0],blks:=[seB 4 23,reB 24,seB 5 32,reB 33,.arr TLog 41,.arr TLog 42],log:=[0,1,2,3,4,5],outs:=[(.bool 0,[seB 4 1,reB 2,seB 5 10,reB 11,.arr TLog 19,.arr TLog 20]),(.bool 0,[seB 4 1,reB 2,seB 6 10,reB 11,.arr TLog 19,.gone,.arr TLog 20])]}
def ev_do:List Dat→Tree (Nat×List Dat):=evF cs_te 10 ls0 S_do
theorem e_do: ∃op,IsF ev_do 10 S_do op:=bxF k4a (LsOk.none _ _ _)
def d4z:OpA:=opF e_do
theorem o4f {n0 n1 n2 n3 n4 n5:Int}{l6:List (Ty.den TB)}{n7 n8 n9 n10 n11 n12 n13 n14 n15:Int}{l16:List (Ty.den TB)}{n17 n18 n19 n20 n21:Int}{l22:List (Ty.den TTm)}{n23 n24 n25 n26 n27 n28:Int}{l29:List (Ty.den TB)}{n30:Int}{b31:Bool}{n32:Int}{l33:List (Ty.den TLog)}{n34 n35:Int}{l36:List (Ty.den TLog)}{n37 n38:Int}{l39:List (Ty.den TLog)}(g0:0≤n0)(g1:0≤n23)(g2:n23≤(l33.length:Int))(g3:l33.length≤8)(g4:IntKind.wrap .i64 (n23-(1:Int))=n32)(g5:Int.tmod n0 8=0)(h0:(f4r [.n n1,.n n2,.n n3,.n n4,.n n5,.l TB l6,.n n7,.n n23,.l TLog l33])=(some (0,[.n n34,.n n35,.l TLog l36])))(h1:(f4f [.n n1,.n n2,.n n3,.n n4,.n n5,.l TB l6,.n n7,.n n32,.l TLog l33])=(some (0,[.n n37,.n n38,.l TLog l39]))):d4z (.n n0::.n n1::.n n2::.n n3::.n n4::.n n5::.l TB l6::.n n7::.n n8::.n n9::.n n10::.n n11::.n n12::.n n13::.n n14::.n n15::.l TB l16::.n n17::.n n18::.n n19::.n n20::.n n21::.l TTm l22::.n n23::.n n24::.n n25::.n n26::.n n27::.n n28::.l TB l29::.n n30::.b b31::.n n32::.n n24::.n n25::.n n26::.n n27::.n n28::.l TB l29::.n n30::.b b31::.l TLog l33::.l TLog l33::[])=some ((0,[.b (n34==n37),.n n35,.n n24,.n n25,.n n26,.n n27,.n n28,.l TB l29,.n n30,.b b31,.n n38,.n n24,.n n25,.n n26,.n n27,.n n28,.l TB l29,.n n30,.b b31,.l TLog l36,.l TLog l39])):=t2c e_do (sP [1]<|sTs (c:=(Int.tmod n0 (8:Int)==(0:Int)))<|sTs (c:=(Int.tmod n0 (8:Int)==(0:Int)))<|sP [1]<|sA h0<|sP [1,1,1,1,1]<|sA h1<|sP [1,1,1,1]<|sL)
theorem m4k {n0 n1 n2 n3 n4 n5:Int}{l6:List (Ty.den TB)}{n7 n8 n9 n10 n11 n12 n13 n14 n15:Int}{l16:List (Ty.den TB)}{n17 n18 n19 n20 n21:Int}{l22:List (Ty.den TTm)}{n23 n24 n25 n26 n27 n28:Int}{l29:List (Ty.den TB)}{n30:Int}{b31:Bool}{n32:Int}{l33:List (Ty.den TLog)}{n34 n35:Int}{l36:List (Ty.den TLog)}{n37 n38:Int}{l39:List (Ty.den TLog)}(g0:0≤n0)(g1:0≤n23)(g2:n23≤(l33.length:Int))(g3:l33.length≤8)(g4:IntKind.wrap .i64 (n23-(1:Int))=n32)(g5:Int.tmod n0 8=0)(h0:(f4r [.n n1,.n n2,.n n3,.n n4,.n n5,.l TB l6,.n n7,.n n23,.l TLog l33])=(some (0,[.n n34,.n n35,.l TLog l36])))(h1:(f4f [.n n1,.n n2,.n n3,.n n4,.n n5,.l TB l6,.n n7,.n n32,.l TLog l33])=(some (1,[.n n37,.n n38,.l TLog l39]))):d4z (.n n0::.n n1::.n n2::.n n3::.n n4::.n n5::.l TB l6::.n n7::.n n8::.n n9::.n n10::.n n11::.n n12::.n n13::.n n14::.n n15::.l TB l16::.n n17::.n n18::.n n19::.n n20::.n n21::.l TTm l22::.n n23::.n n24::.n n25::.n n26::.n n27::.n n28::.l TB l29::.n n30::.b b31::.n n32::.n n24::.n n25::.n n26::.n n27::.n n28::.l TB l29::.n n30::.b b31::.l TLog l33::.l TLog l33::[])=some ((1,[.b (n34==n37),.n n35,.n n24,.n n25,.n n26,.n n27,.n n28,.l TB l29,.n n30,.b b31,.n n38,.n n24,.n n25,.n n26,.n n27,.n n28,.l TB l29,.n n30,.b b31,.l TLog l36,.l TLog l39])):=t2c e_do (sP [1]<|sTs (c:=(Int.tmod n0 (8:Int)==(0:Int)))<|sTs (c:=(Int.tmod n0 (8:Int)==(0:Int)))<|sP [1]<|sA h0<|sP [1,1,1,1,1]<|sA h1<|sP [0,1,1,1,1]<|sL)
theorem n4n {n0 n1 n2 n3 n4 n5:Int}{l6:List (Ty.den TB)}{n7 n8 n9 n10 n11 n12 n13 n14 n15:Int}{l16:List (Ty.den TB)}{n17 n18 n19 n20 n21:Int}{l22:List (Ty.den TTm)}{n23 n24 n25 n26 n27 n28:Int}{l29:List (Ty.den TB)}{n30:Int}{b31:Bool}{n32:Int}{l33:List (Ty.den TLog)}{n34 n35:Int}{l36:List (Ty.den TLog)}{n37 n38:Int}{l39:List (Ty.den TLog)}(g0:0≤n0)(g1:0≤n23)(g2:n23≤(l33.length:Int))(g3:l33.length≤8)(g4:IntKind.wrap .i64 (n23-(1:Int))=n32)(g5:Int.tmod n0 8=1)(h0:(f4r [.n n1,.n n2,.n n3,.n n4,.n n5,.l TB l6,.n n7,.n n23,.l TLog l33])=(some (0,[.n n34,.n n35,.l TLog l36])))(h1:(f4f [.n n1,.n n2,.n n3,.n n4,.n n5,.l TB l6,.n n7,.n n32,.l TLog l33])=(some (0,[.n n37,.n n38,.l TLog l39]))):d4z (.n n0::.n n1::.n n2::.n n3::.n n4::.n n5::.l TB l6::.n n7::.n n8::.n n9::.n n10::.n n11::.n n12::.n n13::.n n14::.n n15::.l TB l16::.n n17::.n n18::.n n19::.n n20::.n n21::.l TTm l22::.n n23::.n n24::.n n25::.n n26::.n n27::.n n28::.l TB l29::.n n30::.b b31::.n n32::.n n24::.n n25::.n n26::.n n27::.n n28::.l TB l29::.n n30::.b b31::.l TLog l33::.l TLog l33::[])=some ((0,[.b (n34==n37),.n n35,.n n24,.n n25,.n n26,.n n27,.n n28,.l TB l29,.n n30,.b b31,.n n38,.n n24,.n n25,.n n26,.n n27,.n n28,.l TB l29,.n n30,.b b31,.l TLog l36,.l TLog l39])):=t2c e_do (sP [1]<|sFs (c:=(Int.tmod n0 (8:Int)==(0:Int)))<|sTs (c:=(Int.tmod n0 (8:Int)==(1:Int)))<|sP [1]<|sA h0<|sP [1,1,1,1,1]<|sA h1<|sP [1,1,1,1]<|sL)
theorem l4w {n0 n1 n2 n3 n4 n5:Int}{l6:List (Ty.den TB)}{n7 n8 n9 n10 n11 n12 n13 n14 n15:Int}{l16:List (Ty.den TB)}{n17 n18 n19 n20 n21:Int}{l22:List (Ty.den TTm)}{n23 n24 n25 n26 n27 n28:Int}{l29:List (Ty.den TB)}{n30:Int}{b31:Bool}{n32:Int}{l33:List (Ty.den TLog)}{n34 n35:Int}{l36:List (Ty.den TLog)}{n37 n38:Int}{l39:List (Ty.den TLog)}(g0:0≤n0)(g1:0≤n23)(g2:n23≤(l33.length:Int))(g3:l33.length≤8)(g4:IntKind.wrap .i64 (n23-(1:Int))=n32)(g5:Int.tmod n0 8=1)(h0:(f4r [.n n1,.n n2,.n n3,.n n4,.n n5,.l TB l6,.n n7,.n n23,.l TLog l33])=(some (0,[.n n34,.n n35,.l TLog l36])))(h1:(f4f [.n n1,.n n2,.n n3,.n n4,.n n5,.l TB l6,.n n7,.n n32,.l TLog l33])=(some (1,[.n n37,.n n38,.l TLog l39]))):d4z (.n n0::.n n1::.n n2::.n n3::.n n4::.n n5::.l TB l6::.n n7::.n n8::.n n9::.n n10::.n n11::.n n12::.n n13::.n n14::.n n15::.l TB l16::.n n17::.n n18::.n n19::.n n20::.n n21::.l TTm l22::.n n23::.n n24::.n n25::.n n26::.n n27::.n n28::.l TB l29::.n n30::.b b31::.n n32::.n n24::.n n25::.n n26::.n n27::.n n28::.l TB l29::.n n30::.b b31::.l TLog l33::.l TLog l33::[])=some ((1,[.b (n34==n37),.n n35,.n n24,.n n25,.n n26,.n n27,.n n28,.l TB l29,.n n30,.b b31,.n n38,.n n24,.n n25,.n n26,.n n27,.n n28,.l TB l29,.n n30,.b b31,.l TLog l36,.l TLog l39])):=t2c e_do (sP [1]<|sFs (c:=(Int.tmod n0 (8:Int)==(0:Int)))<|sTs (c:=(Int.tmod n0 (8:Int)==(1:Int)))<|sP [1]<|sA h0<|sP [1,1,1,1,1]<|sA h1<|sP [0,1,1,1,1]<|sL)
theorem l4q {n0 n1 n2 n3 n4 n5:Int}{l6:List (Ty.den TB)}{n7 n8 n9 n10 n11 n12 n13 n14 n15:Int}{l16:List (Ty.den TB)}{n17 n18 n19 n20 n21:Int}{l22:List (Ty.den TTm)}{n23 n24 n25 n26 n27 n28:Int}{l29:List (Ty.den TB)}{n30:Int}{b31:Bool}{n32:Int}{l33:List (Ty.den TLog)}{n34 n35 n36 n37 n38 n39 n40 n41:Int}{l42:List (Ty.den TB)}{n43 n44 n45 n46 n47:Int}{b48:Bool}{n49:Int}{l50:List (Ty.den TLog)}{n51 n52 n53 n54 n55 n56 n57 n58:Int}{l59:List (Ty.den TB)}{n60 n61 n62 n63 n64:Int}{b65:Bool}{n66:Int}{l67:List (Ty.den TLog)}{n68 n69 n70 n71 n72 n73 n74 n75:Int}{l76:List (Ty.den TB)}{n77 n78 n79 n80 n81:Int}{l82:List (Ty.den TTm)}{b83:Bool}(g0:0≤n0)(g1:0≤n23)(g2:n23≤(l33.length:Int))(g3:l33.length≤8)(g4:IntKind.wrap .i64 (n23-(1:Int))=n32)(g5:Int.tmod n0 8=2)(h0:(f4p [.n n23,.l TLog l33])=(some (0,[.n n34,.n n35,.n n36,.n n37,.n n38,.n n39,.n n40,.n n41,.l TB l42,.n n43,.n n44,.n n45,.n n46,.n n47,.b b48,.n n49,.l TLog l50])))(h1:(f4q [.n n32,.l TLog l33])=(some (0,[.n n51,.n n52,.n n53,.n n54,.n n55,.n n56,.n n57,.n n58,.l TB l59,.n n60,.n n61,.n n62,.n n63,.n n64,.b b65,.n n66,.l TLog l67])))(h2:(e4h [.n n34,.n n35,.n n36,.n n37,.n n38,.n n39,.n n40,.n n41,.l TB l42,.n n43,.n n44,.n n45,.n n46,.n n47,.l TTm []])=(some (0,[.n n68,.n n69,.n n70,.n n71,.n n72,.n n73,.n n74,.n n75,.l TB l76,.n n77,.n n78,.n n79,.n n80,.n n81,.l TTm l82])))(h3:(e4u [.n n68,.n n69,.n n70,.n n71,.n n72,.n n73,.n n74,.n n75,.l TB l76,.n n77,.n n78,.n n79,.n n80,.n n81,.l TTm l82,.n n51,.n n52,.n n53,.n n54,.n n55,.n n56,.n n57,.n n58,.l TB l59,.n n60,.n n61,.n n62,.n n63,.n n64,.l TTm []])=(some (0,[.b b83])))(h4:(b83=true))(h5:((b48==b65)=true))(h6:(h4x [.n n34,.n n35,.n n36,.n n37,.n n38,.n n39,.n n40,.n n41,.l TB l42,.n n43,.n n44,.n n45,.n n46,.n n47])=(some (0,[]))):d4z (.n n0::.n n1::.n n2::.n n3::.n n4::.n n5::.l TB l6::.n n7::.n n8::.n n9::.n n10::.n n11::.n n12::.n n13::.n n14::.n n15::.l TB l16::.n n17::.n n18::.n n19::.n n20::.n n21::.l TTm l22::.n n23::.n n24::.n n25::.n n26::.n n27::.n n28::.l TB l29::.n n30::.b b31::.n n32::.n n24::.n n25::.n n26::.n n27::.n n28::.l TB l29::.n n30::.b b31::.l TLog l33::.l TLog l33::[])=some ((0,[.b true,.n n23,.n n24,.n n25,.n n26,.n n27,.n n28,.l TB l29,.n n30,.b b31,.n n32,.n n24,.n n25,.n n26,.n n27,.n n28,.l TB l29,.n n30,.b b31,.l TLog l33,.l TLog l33])):=t2c e_do (sP [1]<|sFs (c:=(Int.tmod n0 (8:Int)==(0:Int)))<|sFs (c:=(Int.tmod n0 (8:Int)==(1:Int)))<|sFs (c:=(Int.tmod n0 (8:Int)==(3:Int)))<|sFs (c:=(Int.tmod n0 (8:Int)==(4:Int)))<|sFs (c:=(Int.tmod n0 (8:Int)==(5:Int)))<|sFs (c:=(Int.tmod n0 (8:Int)==(6:Int)))<|sP [1]<|sA h0<|sP [1,1,1]<|sA h1<|sP [1,1]<|sA h2<|sP [1,1]<|sA h3<|sP [1,1]<|sF (nt h4)<|sP [1]<|sF (nt h5)<|sP [1]<|sFs (c:=(Int.tmod n0 (8:Int)==(7:Int)))<|sP [0,0,1]<|sA h6<|sP [1,1,1]<|sL)
theorem l4g {n0 n1 n2 n3 n4 n5:Int}{l6:List (Ty.den TB)}{n7 n8 n9 n10 n11 n12 n13 n14 n15:Int}{l16:List (Ty.den TB)}{n17 n18 n19 n20 n21:Int}{l22:List (Ty.den TTm)}{n23 n24 n25 n26 n27 n28:Int}{l29:List (Ty.den TB)}{n30:Int}{b31:Bool}{n32:Int}{l33:List (Ty.den TLog)}{n34 n35 n36 n37 n38 n39 n40 n41:Int}{l42:List (Ty.den TB)}{n43 n44 n45 n46 n47:Int}{b48:Bool}{n49:Int}{l50:List (Ty.den TLog)}{l51:List (Ty.den TTm)}{n52 n53 n54 n55 n56 n57 n58 n59:Int}{l60:List (Ty.den TB)}{n61 n62 n63 n64 n65:Int}{b66:Bool}{n67:Int}{l68:List (Ty.den TLog)}{l69:List (Ty.den TTm)}{n70 n71 n72 n73 n74 n75 n76 n77:Int}{l78:List (Ty.den TB)}{n79 n80 n81 n82 n83:Int}{l84:List (Ty.den TTm)}{b85:Bool}{l86:List (Ty.den TTm)}(g0:0≤n0)(g1:0≤n23)(g2:n23≤(l33.length:Int))(g3:l33.length≤8)(g4:IntKind.wrap .i64 (n23-(1:Int))=n32)(g5:Int.tmod n0 8=2)(h0:(f4p [.n n23,.l TLog l33])=(some (1,[.n n34,.n n35,.n n36,.n n37,.n n38,.n n39,.n n40,.n n41,.l TB l42,.n n43,.n n44,.n n45,.n n46,.n n47,.b b48,.n n49,.l TLog l50,.l TTm l51])))(h1:(f4q [.n n32,.l TLog l33])=(some (1,[.n n52,.n n53,.n n54,.n n55,.n n56,.n n57,.n n58,.n n59,.l TB l60,.n n61,.n n62,.n n63,.n n64,.n n65,.b b66,.n n67,.l TLog l68,.l TTm l69])))(h2:(e4h [.n n34,.n n35,.n n36,.n n37,.n n38,.n n39,.n n40,.n n41,.l TB l42,.n n43,.n n44,.n n45,.n n46,.n n47,.l TTm l51])=(some (0,[.n n70,.n n71,.n n72,.n n73,.n n74,.n n75,.n n76,.n n77,.l TB l78,.n n79,.n n80,.n n81,.n n82,.n n83,.l TTm l84])))(h3:(e4u [.n n70,.n n71,.n n72,.n n73,.n n74,.n n75,.n n76,.n n77,.l TB l78,.n n79,.n n80,.n n81,.n n82,.n n83,.l TTm l84,.n n52,.n n53,.n n54,.n n55,.n n56,.n n57,.n n58,.n n59,.l TB l60,.n n61,.n n62,.n n63,.n n64,.n n65,.l TTm l69])=(some (0,[.b b85])))(h4:(b85=true))(h5:((b48==b66)=true))(h6:(k4s [.n n34,.n n35,.n n36,.n n37,.n n38,.n n39,.n n40,.n n41,.l TB l42,.n n43,.n n44,.n n45,.n n46,.n n47,.l TTm l51])=(some (0,[.l TTm l86]))):d4z (.n n0::.n n1::.n n2::.n n3::.n n4::.n n5::.l TB l6::.n n7::.n n8::.n n9::.n n10::.n n11::.n n12::.n n13::.n n14::.n n15::.l TB l16::.n n17::.n n18::.n n19::.n n20::.n n21::.l TTm l22::.n n23::.n n24::.n n25::.n n26::.n n27::.n n28::.l TB l29::.n n30::.b b31::.n n32::.n n24::.n n25::.n n26::.n n27::.n n28::.l TB l29::.n n30::.b b31::.l TLog l33::.l TLog l33::[])=some ((0,[.b true,.n n23,.n n24,.n n25,.n n26,.n n27,.n n28,.l TB l29,.n n30,.b b31,.n n32,.n n24,.n n25,.n n26,.n n27,.n n28,.l TB l29,.n n30,.b b31,.l TLog l33,.l TLog l33])):=t2c e_do (sP [1]<|sFs (c:=(Int.tmod n0 (8:Int)==(0:Int)))<|sFs (c:=(Int.tmod n0 (8:Int)==(1:Int)))<|sFs (c:=(Int.tmod n0 (8:Int)==(3:Int)))<|sFs (c:=(Int.tmod n0 (8:Int)==(4:Int)))<|sFs (c:=(Int.tmod n0 (8:Int)==(5:Int)))<|sFs (c:=(Int.tmod n0 (8:Int)==(6:Int)))<|sP [1]<|sA h0<|sP [0,1,1,1]<|sA h1<|sP [0,1,1]<|sA h2<|sP [1,1]<|sA h3<|sP [1,1]<|sF (nt h4)<|sP [1]<|sF (nt h5)<|sP [1]<|sFs (c:=(Int.tmod n0 (8:Int)==(7:Int)))<|sP [0,0,1]<|sA h6<|sP [1,1,1]<|sL)
theorem o4c {n0 n1 n2 n3 n4 n5:Int}{l6:List (Ty.den TB)}{n7 n8 n9 n10 n11 n12 n13 n14 n15:Int}{l16:List (Ty.den TB)}{n17 n18 n19 n20 n21:Int}{l22:List (Ty.den TTm)}{n23 n24 n25 n26 n27 n28:Int}{l29:List (Ty.den TB)}{n30:Int}{b31:Bool}{n32:Int}{l33:List (Ty.den TLog)}{n34 n35:Int}{l36:List (Ty.den TLog)}{n37 n38 n39 n40 n41 n42 n43 n44:Int}{l45:List (Ty.den TB)}{n46 n47 n48 n49 n50:Int}{l51:List (Ty.den TTm)}{n52 n53:Int}{l54:List (Ty.den TTm)}{l55:List (Ty.den TLog)}(g0:0≤n0)(g1:0≤n23)(g2:n23≤(l33.length:Int))(g3:l33.length≤8)(g4:IntKind.wrap .i64 (n23-(1:Int))=n32)(g5:Int.tmod n0 8=3)(h0:(h4c [.n n8,.n n9,.n n10,.n n11,.n n12,.n n13,.n n14,.n n15,.l TB l16,.n n17,.n n18,.n n19,.n n20,.n n21,.l TTm l22,.n n23,.l TLog l33])=(some (0,[.n n34,.n n35,.l TLog l36])))(h1:(e4h [.n n8,.n n9,.n n10,.n n11,.n n12,.n n13,.n n14,.n n15,.l TB l16,.n n17,.n n18,.n n19,.n n20,.n n21,.l TTm l22])=(some (0,[.n n37,.n n38,.n n39,.n n40,.n n41,.n n42,.n n43,.n n44,.l TB l45,.n n46,.n n47,.n n48,.n n49,.n n50,.l TTm l51])))(h2:(g4j [.n n37,.n n38,.n n39,.n n40,.n n41,.n n42,.n n43,.n n44,.l TB l45,.n n46,.n n47,.n n48,.n n49,.n n50,.n n32,.l TTm l51,.l TLog l33])=(some (0,[.n n52,.n n53,.l TTm l54,.l TLog l55]))):d4z (.n n0::.n n1::.n n2::.n n3::.n n4::.n n5::.l TB l6::.n n7::.n n8::.n n9::.n n10::.n n11::.n n12::.n n13::.n n14::.n n15::.l TB l16::.n n17::.n n18::.n n19::.n n20::.n n21::.l TTm l22::.n n23::.n n24::.n n25::.n n26::.n n27::.n n28::.l TB l29::.n n30::.b b31::.n n32::.n n24::.n n25::.n n26::.n n27::.n n28::.l TB l29::.n n30::.b b31::.l TLog l33::.l TLog l33::[])=some ((0,[.b (n34==n52),.n n35,.n n24,.n n25,.n n26,.n n27,.n n28,.l TB l29,.n n30,.b b31,.n n53,.n n24,.n n25,.n n26,.n n27,.n n28,.l TB l29,.n n30,.b b31,.l TLog l33,.l TLog l33])):=t2c e_do (sP [1]<|sFs (c:=(Int.tmod n0 (8:Int)==(0:Int)))<|sFs (c:=(Int.tmod n0 (8:Int)==(1:Int)))<|sTs (c:=(Int.tmod n0 (8:Int)==(3:Int)))<|sP [1]<|sA h0<|sP [1,1]<|sA h1<|sP [1,1,1]<|sA h2<|sP [1,1,1,1]<|sL)
theorem n4e {n0 n1 n2 n3 n4 n5:Int}{l6:List (Ty.den TB)}{n7 n8 n9 n10 n11 n12 n13 n14 n15:Int}{l16:List (Ty.den TB)}{n17 n18 n19 n20 n21:Int}{l22:List (Ty.den TTm)}{n23 n24 n25 n26 n27 n28:Int}{l29:List (Ty.den TB)}{n30:Int}{b31:Bool}{n32:Int}{l33:List (Ty.den TLog)}{n34 n35 n36 n37 n38 n39 n40 n41:Int}{l42:List (Ty.den TB)}{n43 n44 n45 n46 n47:Int}{b48:Bool}{n49 n50 n51 n52 n53 n54:Int}{l55:List (Ty.den TB)}{n56:Int}{b57:Bool}{n58 n59 n60 n61 n62 n63 n64 n65:Int}{l66:List (Ty.den TB)}{n67 n68 n69 n70 n71:Int}{l72:List (Ty.den TTm)}{n73 n74 n75 n76 n77 n78 n79 n80:Int}{l81:List (Ty.den TB)}{n82 n83 n84 n85 n86:Int}{b87:Bool}{n88 n89 n90 n91 n92 n93:Int}{l94:List (Ty.den TB)}{n95:Int}{b96:Bool}{l97:List (Ty.den TTm)}{n98 n99 n100 n101 n102 n103 n104 n105:Int}{l106:List (Ty.den TB)}{n107 n108 n109 n110 n111:Int}{l112:List (Ty.den TTm)}{b113:Bool}(g0:0≤n0)(g1:0≤n23)(g2:n23≤(l33.length:Int))(g3:l33.length≤8)(g4:IntKind.wrap .i64 (n23-(1:Int))=n32)(g5:Int.tmod n0 8=4)(h0:(e4w [.n n8,.n n9,.n n10,.n n11,.n n12,.n n13,.n n14,.n n15,.l TB l16,.n n17,.n n18,.n n19,.n n20,.n n21,.l TTm l22,.n n24,.n n25,.n n26,.n n27,.n n28,.l TB l29,.n n30,.b b31])=(some (0,[.n n34,.n n35,.n n36,.n n37,.n n38,.n n39,.n n40,.n n41,.l TB l42,.n n43,.n n44,.n n45,.n n46,.n n47,.b b48,.n n49,.n n50,.n n51,.n n52,.n n53,.n n54,.l TB l55,.n n56,.b b57])))(h1:(e4h [.n n8,.n n9,.n n10,.n n11,.n n12,.n n13,.n n14,.n n15,.l TB l16,.n n17,.n n18,.n n19,.n n20,.n n21,.l TTm l22])=(some (0,[.n n58,.n n59,.n n60,.n n61,.n n62,.n n63,.n n64,.n n65,.l TB l66,.n n67,.n n68,.n n69,.n n70,.n n71,.l TTm l72])))(h2:(e4a [.n n58,.n n59,.n n60,.n n61,.n n62,.n n63,.n n64,.n n65,.l TB l66,.n n67,.n n68,.n n69,.n n70,.n n71,.n n24,.n n25,.n n26,.n n27,.n n28,.l TB l29,.n n30,.b b31,.l TTm l72])=(some (0,[.n n73,.n n74,.n n75,.n n76,.n n77,.n n78,.n n79,.n n80,.l TB l81,.n n82,.n n83,.n n84,.n n85,.n n86,.b b87,.n n88,.n n89,.n n90,.n n91,.n n92,.n n93,.l TB l94,.n n95,.b b96,.l TTm l97])))(h3:(e4h [.n n34,.n n35,.n n36,.n n37,.n n38,.n n39,.n n40,.n n41,.l TB l42,.n n43,.n n44,.n n45,.n n46,.n n47,.l TTm []])=(some (0,[.n n98,.n n99,.n n100,.n n101,.n n102,.n n103,.n n104,.n n105,.l TB l106,.n n107,.n n108,.n n109,.n n110,.n n111,.l TTm l112])))(h4:(e4u [.n n98,.n n99,.n n100,.n n101,.n n102,.n n103,.n n104,.n n105,.l TB l106,.n n107,.n n108,.n n109,.n n110,.n n111,.l TTm l112,.n n73,.n n74,.n n75,.n n76,.n n77,.n n78,.n n79,.n n80,.l TB l81,.n n82,.n n83,.n n84,.n n85,.n n86,.l TTm []])=(some (0,[.b b113])))(h5:(b113=true))(h6:((b48==b87)=true)):d4z (.n n0::.n n1::.n n2::.n n3::.n n4::.n n5::.l TB l6::.n n7::.n n8::.n n9::.n n10::.n n11::.n n12::.n n13::.n n14::.n n15::.l TB l16::.n n17::.n n18::.n n19::.n n20::.n n21::.l TTm l22::.n n23::.n n24::.n n25::.n n26::.n n27::.n n28::.l TB l29::.n n30::.b b31::.n n32::.n n24::.n n25::.n n26::.n n27::.n n28::.l TB l29::.n n30::.b b31::.l TLog l33::.l TLog l33::[])=some ((0,[.b (n49==n88),.n n23,.n n50,.n n51,.n n52,.n n53,.n n54,.l TB l55,.n n56,.b b57,.n n32,.n n89,.n n90,.n n91,.n n92,.n n93,.l TB l94,.n n95,.b b96,.l TLog l33,.l TLog l33])):=t2c e_do (sP [1]<|sFs (c:=(Int.tmod n0 (8:Int)==(0:Int)))<|sFs (c:=(Int.tmod n0 (8:Int)==(1:Int)))<|sFs (c:=(Int.tmod n0 (8:Int)==(3:Int)))<|sTs (c:=(Int.tmod n0 (8:Int)==(4:Int)))<|sTs (c:=(Int.tmod n0 (8:Int)==(4:Int)))<|sP [1]<|sA h0<|sP [1,1]<|sA h1<|sP [1,1,1]<|sA h2<|sP [1,1]<|sA h3<|sP [1,1]<|sA h4<|sP [1,1]<|sT h5<|sT h6<|sP [1,1]<|sL)
theorem o4g {n0 n1 n2 n3 n4 n5:Int}{l6:List (Ty.den TB)}{n7 n8 n9 n10 n11 n12 n13 n14 n15:Int}{l16:List (Ty.den TB)}{n17 n18 n19 n20 n21:Int}{l22:List (Ty.den TTm)}{n23 n24 n25 n26 n27 n28:Int}{l29:List (Ty.den TB)}{n30:Int}{b31:Bool}{n32:Int}{l33:List (Ty.den TLog)}{n34 n35 n36 n37 n38 n39 n40 n41:Int}{l42:List (Ty.den TB)}{n43 n44 n45 n46 n47:Int}{b48:Bool}{n49 n50 n51 n52 n53 n54:Int}{l55:List (Ty.den TB)}{n56:Int}{b57:Bool}{n58 n59 n60 n61 n62 n63 n64 n65:Int}{l66:List (Ty.den TB)}{n67 n68 n69 n70 n71:Int}{l72:List (Ty.den TTm)}{n73 n74 n75 n76 n77 n78 n79 n80:Int}{l81:List (Ty.den TB)}{n82 n83 n84 n85 n86:Int}{b87:Bool}{n88 n89 n90 n91 n92 n93:Int}{l94:List (Ty.den TB)}{n95:Int}{b96:Bool}{l97:List (Ty.den TTm)}{n98 n99 n100 n101 n102 n103 n104 n105:Int}{l106:List (Ty.den TB)}{n107 n108 n109 n110 n111:Int}{l112:List (Ty.den TTm)}{b113:Bool}(g0:0≤n0)(g1:0≤n23)(g2:n23≤(l33.length:Int))(g3:l33.length≤8)(g4:IntKind.wrap .i64 (n23-(1:Int))=n32)(g5:Int.tmod n0 8=5)(h0:(e4w [.n n8,.n n9,.n n10,.n n11,.n n12,.n n13,.n n14,.n n15,.l TB l16,.n n17,.n n18,.n n19,.n n20,.n n21,.l TTm l22,.n n24,.n n25,.n n26,.n n27,.n n28,.l TB l29,.n n30,.b b31])=(some (0,[.n n34,.n n35,.n n36,.n n37,.n n38,.n n39,.n n40,.n n41,.l TB l42,.n n43,.n n44,.n n45,.n n46,.n n47,.b b48,.n n49,.n n50,.n n51,.n n52,.n n53,.n n54,.l TB l55,.n n56,.b b57])))(h1:(e4h [.n n8,.n n9,.n n10,.n n11,.n n12,.n n13,.n n14,.n n15,.l TB l16,.n n17,.n n18,.n n19,.n n20,.n n21,.l TTm l22])=(some (0,[.n n58,.n n59,.n n60,.n n61,.n n62,.n n63,.n n64,.n n65,.l TB l66,.n n67,.n n68,.n n69,.n n70,.n n71,.l TTm l72])))(h2:(e4a [.n n58,.n n59,.n n60,.n n61,.n n62,.n n63,.n n64,.n n65,.l TB l66,.n n67,.n n68,.n n69,.n n70,.n n71,.n n24,.n n25,.n n26,.n n27,.n n28,.l TB l29,.n n30,.b b31,.l TTm l72])=(some (0,[.n n73,.n n74,.n n75,.n n76,.n n77,.n n78,.n n79,.n n80,.l TB l81,.n n82,.n n83,.n n84,.n n85,.n n86,.b b87,.n n88,.n n89,.n n90,.n n91,.n n92,.n n93,.l TB l94,.n n95,.b b96,.l TTm l97])))(h3:(e4h [.n n34,.n n35,.n n36,.n n37,.n n38,.n n39,.n n40,.n n41,.l TB l42,.n n43,.n n44,.n n45,.n n46,.n n47,.l TTm []])=(some (0,[.n n98,.n n99,.n n100,.n n101,.n n102,.n n103,.n n104,.n n105,.l TB l106,.n n107,.n n108,.n n109,.n n110,.n n111,.l TTm l112])))(h4:(e4u [.n n98,.n n99,.n n100,.n n101,.n n102,.n n103,.n n104,.n n105,.l TB l106,.n n107,.n n108,.n n109,.n n110,.n n111,.l TTm l112,.n n73,.n n74,.n n75,.n n76,.n n77,.n n78,.n n79,.n n80,.l TB l81,.n n82,.n n83,.n n84,.n n85,.n n86,.l TTm []])=(some (0,[.b b113])))(h5:(b113=true))(h6:((b48==b87)=true)):d4z (.n n0::.n n1::.n n2::.n n3::.n n4::.n n5::.l TB l6::.n n7::.n n8::.n n9::.n n10::.n n11::.n n12::.n n13::.n n14::.n n15::.l TB l16::.n n17::.n n18::.n n19::.n n20::.n n21::.l TTm l22::.n n23::.n n24::.n n25::.n n26::.n n27::.n n28::.l TB l29::.n n30::.b b31::.n n32::.n n24::.n n25::.n n26::.n n27::.n n28::.l TB l29::.n n30::.b b31::.l TLog l33::.l TLog l33::[])=some ((0,[.b (n49==n88),.n n23,.n n50,.n n51,.n n52,.n n53,.n n54,.l TB l55,.n n56,.b b57,.n n32,.n n89,.n n90,.n n91,.n n92,.n n93,.l TB l94,.n n95,.b b96,.l TLog l33,.l TLog l33])):=t2c e_do (sP [1]<|sFs (c:=(Int.tmod n0 (8:Int)==(0:Int)))<|sFs (c:=(Int.tmod n0 (8:Int)==(1:Int)))<|sFs (c:=(Int.tmod n0 (8:Int)==(3:Int)))<|sFs (c:=(Int.tmod n0 (8:Int)==(4:Int)))<|sTs (c:=(Int.tmod n0 (8:Int)==(5:Int)))<|sP [1]<|sA h0<|sP [1,1]<|sA h1<|sP [1,1,1]<|sA h2<|sP [1,1]<|sA h3<|sP [1,1]<|sA h4<|sP [1,1]<|sT h5<|sT h6<|sP [1,1]<|sL)
theorem m4i {n0 n1 n2 n3 n4 n5:Int}{l6:List (Ty.den TB)}{n7 n8 n9 n10 n11 n12 n13 n14 n15:Int}{l16:List (Ty.den TB)}{n17 n18 n19 n20 n21:Int}{l22:List (Ty.den TTm)}{n23 n24 n25 n26 n27 n28:Int}{l29:List (Ty.den TB)}{n30:Int}{b31:Bool}{n32:Int}{l33:List (Ty.den TLog)}{b34:Bool}(g0:0≤n0)(g1:0≤n23)(g2:n23≤(l33.length:Int))(g3:l33.length≤8)(g4:IntKind.wrap .i64 (n23-(1:Int))=n32)(g5:Int.tmod n0 8=6)(h0:(e4j [.l TI [n1,n2]])=(some (0,[.b b34])))(h1:(b34=false))(h2:(n1≥(0:Int)))(h3:(¬n1≤(1099511627776:Int))):d4z (.n n0::.n n1::.n n2::.n n3::.n n4::.n n5::.l TB l6::.n n7::.n n8::.n n9::.n n10::.n n11::.n n12::.n n13::.n n14::.n n15::.l TB l16::.n n17::.n n18::.n n19::.n n20::.n n21::.l TTm l22::.n n23::.n n24::.n n25::.n n26::.n n27::.n n28::.l TB l29::.n n30::.b b31::.n n32::.n n24::.n n25::.n n26::.n n27::.n n28::.l TB l29::.n n30::.b b31::.l TLog l33::.l TLog l33::[])=some ((0,[.b true,.n n23,.n n24,.n n25,.n n26,.n n27,.n n28,.l TB l29,.n n30,.b b31,.n n32,.n n24,.n n25,.n n26,.n n27,.n n28,.l TB l29,.n n30,.b b31,.l TLog l33,.l TLog l33])):=t2c e_do (sP [1]<|sFs (c:=(Int.tmod n0 (8:Int)==(0:Int)))<|sFs (c:=(Int.tmod n0 (8:Int)==(1:Int)))<|sFs (c:=(Int.tmod n0 (8:Int)==(3:Int)))<|sFs (c:=(Int.tmod n0 (8:Int)==(4:Int)))<|sFs (c:=(Int.tmod n0 (8:Int)==(5:Int)))<|sTs (c:=(Int.tmod n0 (8:Int)==(6:Int)))<|sP [1,0]<|sA h0<|sP [1,1]<|sT (nf h1)<|sP [1,1,1,1,1]<|sT (dt h2)<|sP [1]<|sT (nf (df h3))<|sP [1,1,1,1,1]<|sL)
theorem n4y {n0 n1 n2 n3 n4 n5:Int}{l6:List (Ty.den TB)}{n7 n8 n9 n10 n11 n12 n13 n14 n15:Int}{l16:List (Ty.den TB)}{n17 n18 n19 n20 n21:Int}{l22:List (Ty.den TTm)}{n23 n24 n25 n26 n27 n28:Int}{l29:List (Ty.den TB)}{n30:Int}{b31:Bool}{n32:Int}{l33:List (Ty.den TLog)}{b34:Bool}(g0:0≤n0)(g1:0≤n23)(g2:n23≤(l33.length:Int))(g3:l33.length≤8)(g4:IntKind.wrap .i64 (n23-(1:Int))=n32)(g5:Int.tmod n0 8=6)(h0:(e4j [.l TI [n1,n2]])=(some (0,[.b b34])))(h1:(b34=false))(h2:(n1≥(0:Int)))(h3:(n1≤(1099511627776:Int)))(h4:(n2≥(0:Int)))(h5:(¬n2≤(1099511627776:Int))):d4z (.n n0::.n n1::.n n2::.n n3::.n n4::.n n5::.l TB l6::.n n7::.n n8::.n n9::.n n10::.n n11::.n n12::.n n13::.n n14::.n n15::.l TB l16::.n n17::.n n18::.n n19::.n n20::.n n21::.l TTm l22::.n n23::.n n24::.n n25::.n n26::.n n27::.n n28::.l TB l29::.n n30::.b b31::.n n32::.n n24::.n n25::.n n26::.n n27::.n n28::.l TB l29::.n n30::.b b31::.l TLog l33::.l TLog l33::[])=some ((0,[.b true,.n n23,.n n24,.n n25,.n n26,.n n27,.n n28,.l TB l29,.n n30,.b b31,.n n32,.n n24,.n n25,.n n26,.n n27,.n n28,.l TB l29,.n n30,.b b31,.l TLog l33,.l TLog l33])):=t2c e_do (sP [1]<|sFs (c:=(Int.tmod n0 (8:Int)==(0:Int)))<|sFs (c:=(Int.tmod n0 (8:Int)==(1:Int)))<|sFs (c:=(Int.tmod n0 (8:Int)==(3:Int)))<|sFs (c:=(Int.tmod n0 (8:Int)==(4:Int)))<|sFs (c:=(Int.tmod n0 (8:Int)==(5:Int)))<|sTs (c:=(Int.tmod n0 (8:Int)==(6:Int)))<|sP [1,0]<|sA h0<|sP [1,1]<|sT (nf h1)<|sP [1,1,1,1,1]<|sT (dt h2)<|sP [1]<|sF (nt (dt h3))<|sP [1]<|sT (dt h4)<|sP [1]<|sT (nf (df h5))<|sP [1,1,1]<|sL)
theorem n4h {n0 n1 n2 n3 n4 n5:Int}{l6:List (Ty.den TB)}{n7 n8 n9 n10 n11 n12 n13 n14 n15:Int}{l16:List (Ty.den TB)}{n17 n18 n19 n20 n21:Int}{l22:List (Ty.den TTm)}{n23 n24 n25 n26 n27 n28:Int}{l29:List (Ty.den TB)}{n30:Int}{b31:Bool}{n32:Int}{l33:List (Ty.den TLog)}{b34:Bool}(g0:0≤n0)(g1:0≤n23)(g2:n23≤(l33.length:Int))(g3:l33.length≤8)(g4:IntKind.wrap .i64 (n23-(1:Int))=n32)(g5:Int.tmod n0 8=6)(h0:(e4j [.l TI [n1,n2]])=(some (0,[.b b34])))(h1:(b34=false))(h2:(n1≥(0:Int)))(h3:(n1≤(1099511627776:Int)))(h4:(¬n2≥(0:Int))):d4z (.n n0::.n n1::.n n2::.n n3::.n n4::.n n5::.l TB l6::.n n7::.n n8::.n n9::.n n10::.n n11::.n n12::.n n13::.n n14::.n n15::.l TB l16::.n n17::.n n18::.n n19::.n n20::.n n21::.l TTm l22::.n n23::.n n24::.n n25::.n n26::.n n27::.n n28::.l TB l29::.n n30::.b b31::.n n32::.n n24::.n n25::.n n26::.n n27::.n n28::.l TB l29::.n n30::.b b31::.l TLog l33::.l TLog l33::[])=some ((0,[.b true,.n n23,.n n24,.n n25,.n n26,.n n27,.n n28,.l TB l29,.n n30,.b b31,.n n32,.n n24,.n n25,.n n26,.n n27,.n n28,.l TB l29,.n n30,.b b31,.l TLog l33,.l TLog l33])):=t2c e_do (sP [1]<|sFs (c:=(Int.tmod n0 (8:Int)==(0:Int)))<|sFs (c:=(Int.tmod n0 (8:Int)==(1:Int)))<|sFs (c:=(Int.tmod n0 (8:Int)==(3:Int)))<|sFs (c:=(Int.tmod n0 (8:Int)==(4:Int)))<|sFs (c:=(Int.tmod n0 (8:Int)==(5:Int)))<|sTs (c:=(Int.tmod n0 (8:Int)==(6:Int)))<|sP [1,0]<|sA h0<|sP [1,1]<|sT (nf h1)<|sP [1,1,1,1,1]<|sT (dt h2)<|sP [1]<|sF (nt (dt h3))<|sP [1]<|sF (df h4)<|sP [0,1,1,1,1,1]<|sL)
theorem m4t {n0 n1 n2 n3 n4 n5:Int}{l6:List (Ty.den TB)}{n7 n8 n9 n10 n11 n12 n13 n14 n15:Int}{l16:List (Ty.den TB)}{n17 n18 n19 n20 n21:Int}{l22:List (Ty.den TTm)}{n23 n24 n25 n26 n27 n28:Int}{l29:List (Ty.den TB)}{n30:Int}{b31:Bool}{n32:Int}{l33:List (Ty.den TLog)}{b34:Bool}(g0:0≤n0)(g1:0≤n23)(g2:n23≤(l33.length:Int))(g3:l33.length≤8)(g4:IntKind.wrap .i64 (n23-(1:Int))=n32)(g5:Int.tmod n0 8=6)(h0:(e4j [.l TI [n1,n2]])=(some (0,[.b b34])))(h1:(b34=false))(h2:(¬n1≥(0:Int))):d4z (.n n0::.n n1::.n n2::.n n3::.n n4::.n n5::.l TB l6::.n n7::.n n8::.n n9::.n n10::.n n11::.n n12::.n n13::.n n14::.n n15::.l TB l16::.n n17::.n n18::.n n19::.n n20::.n n21::.l TTm l22::.n n23::.n n24::.n n25::.n n26::.n n27::.n n28::.l TB l29::.n n30::.b b31::.n n32::.n n24::.n n25::.n n26::.n n27::.n n28::.l TB l29::.n n30::.b b31::.l TLog l33::.l TLog l33::[])=some ((0,[.b true,.n n23,.n n24,.n n25,.n n26,.n n27,.n n28,.l TB l29,.n n30,.b b31,.n n32,.n n24,.n n25,.n n26,.n n27,.n n28,.l TB l29,.n n30,.b b31,.l TLog l33,.l TLog l33])):=t2c e_do (sP [1]<|sFs (c:=(Int.tmod n0 (8:Int)==(0:Int)))<|sFs (c:=(Int.tmod n0 (8:Int)==(1:Int)))<|sFs (c:=(Int.tmod n0 (8:Int)==(3:Int)))<|sFs (c:=(Int.tmod n0 (8:Int)==(4:Int)))<|sFs (c:=(Int.tmod n0 (8:Int)==(5:Int)))<|sTs (c:=(Int.tmod n0 (8:Int)==(6:Int)))<|sP [1,0]<|sA h0<|sP [1,1]<|sT (nf h1)<|sP [1,1,1,1,1]<|sF (df h2)<|sP [0,1,1,1,1,1,1,1]<|sL)
theorem l4t {n0 n1 n2 n3 n4 n5:Int}{l6:List (Ty.den TB)}{n7 n8 n9 n10 n11 n12 n13 n14 n15:Int}{l16:List (Ty.den TB)}{n17 n18 n19 n20 n21:Int}{l22:List (Ty.den TTm)}{n23 n24 n25 n26 n27 n28:Int}{l29:List (Ty.den TB)}{n30:Int}{b31:Bool}{n32:Int}{l33:List (Ty.den TLog)}{b34:Bool}(g0:0≤n0)(g1:0≤n23)(g2:n23≤(l33.length:Int))(g3:l33.length≤8)(g4:IntKind.wrap .i64 (n23-(1:Int))=n32)(g5:Int.tmod n0 8=6)(h0:(e4j [.l TI [n1,n2]])=(some (0,[.b b34])))(h1:(b34=true))(h2:(n1≥(0:Int)))(h3:(n1≤(1099511627776:Int)))(h4:(n2≥(0:Int)))(h5:(n2≤(1099511627776:Int))):d4z (.n n0::.n n1::.n n2::.n n3::.n n4::.n n5::.l TB l6::.n n7::.n n8::.n n9::.n n10::.n n11::.n n12::.n n13::.n n14::.n n15::.l TB l16::.n n17::.n n18::.n n19::.n n20::.n n21::.l TTm l22::.n n23::.n n24::.n n25::.n n26::.n n27::.n n28::.l TB l29::.n n30::.b b31::.n n32::.n n24::.n n25::.n n26::.n n27::.n n28::.l TB l29::.n n30::.b b31::.l TLog l33::.l TLog l33::[])=some ((0,[.b true,.n n23,.n n1,.n n2,.n n3,.n n4,.n n5,.l TB l6,.n n7,.b true,.n n32,.n n1,.n n2,.n n3,.n n4,.n n5,.l TB l6,.n n7,.b true,.l TLog l33,.l TLog l33])):=t2c e_do (sP [1]<|sFs (c:=(Int.tmod n0 (8:Int)==(0:Int)))<|sFs (c:=(Int.tmod n0 (8:Int)==(1:Int)))<|sFs (c:=(Int.tmod n0 (8:Int)==(3:Int)))<|sFs (c:=(Int.tmod n0 (8:Int)==(4:Int)))<|sFs (c:=(Int.tmod n0 (8:Int)==(5:Int)))<|sTs (c:=(Int.tmod n0 (8:Int)==(6:Int)))<|sP [1,0]<|sA h0<|sP [1,1]<|sF (nt h1)<|sP [1,1,1,1,1]<|sT (dt h2)<|sP [1]<|sF (nt (dt h3))<|sP [1]<|sT (dt h4)<|sP [1]<|sF (nt (dt h5))<|sP [1,1,1]<|sL)
theorem n4w {n0 n1 n2 n3 n4 n5:Int}{l6:List (Ty.den TB)}{n7 n8 n9 n10 n11 n12 n13 n14 n15:Int}{l16:List (Ty.den TB)}{n17 n18 n19 n20 n21:Int}{l22:List (Ty.den TTm)}{n23 n24 n25 n26 n27 n28:Int}{l29:List (Ty.den TB)}{n30:Int}{b31:Bool}{n32:Int}{l33:List (Ty.den TLog)}{n34 n35 n36 n37 n38 n39 n40 n41:Int}{l42:List (Ty.den TB)}{n43 n44 n45 n46 n47:Int}{b48:Bool}{n49:Int}{l50:List (Ty.den TLog)}{n51 n52 n53 n54 n55 n56 n57 n58:Int}{l59:List (Ty.den TB)}{n60 n61 n62 n63 n64:Int}{b65:Bool}{n66:Int}{l67:List (Ty.den TLog)}{n68 n69 n70 n71 n72 n73 n74 n75:Int}{l76:List (Ty.den TB)}{n77 n78 n79 n80 n81:Int}{l82:List (Ty.den TTm)}{b83:Bool}{n84 n85 n86 n87 n88 n89 n90 n91:Int}{l92:List (Ty.den TB)}{n93 n94 n95 n96 n97:Int}{b98:Bool}{n99 n100 n101 n102 n103 n104:Int}{l105:List (Ty.den TB)}{n106:Int}{b107:Bool}{n108 n109 n110 n111 n112 n113 n114 n115:Int}{l116:List (Ty.den TB)}{n117 n118 n119 n120 n121:Int}{b122:Bool}{n123 n124 n125 n126 n127 n128:Int}{l129:List (Ty.den TB)}{n130:Int}{b131:Bool}{n132 n133 n134 n135 n136 n137 n138 n139:Int}{l140:List (Ty.den TB)}{n141 n142 n143 n144 n145:Int}{l146:List (Ty.den TTm)}{b147:Bool}{n148 n149:Int}{l150:List (Ty.den TLog)}{n151 n152:Int}{l153:List (Ty.den TLog)}(g0:0≤n0)(g1:0≤n23)(g2:n23≤(l33.length:Int))(g3:l33.length≤8)(g4:IntKind.wrap .i64 (n23-(1:Int))=n32)(g5:Int.tmod n0 8=7)(h0:(f4p [.n n23,.l TLog l33])=(some (0,[.n n34,.n n35,.n n36,.n n37,.n n38,.n n39,.n n40,.n n41,.l TB l42,.n n43,.n n44,.n n45,.n n46,.n n47,.b b48,.n n49,.l TLog l50])))(h1:(f4q [.n n32,.l TLog l33])=(some (0,[.n n51,.n n52,.n n53,.n n54,.n n55,.n n56,.n n57,.n n58,.l TB l59,.n n60,.n n61,.n n62,.n n63,.n n64,.b b65,.n n66,.l TLog l67])))(h2:(e4h [.n n34,.n n35,.n n36,.n n37,.n n38,.n n39,.n n40,.n n41,.l TB l42,.n n43,.n n44,.n n45,.n n46,.n n47,.l TTm []])=(some (0,[.n n68,.n n69,.n n70,.n n71,.n n72,.n n73,.n n74,.n n75,.l TB l76,.n n77,.n n78,.n n79,.n n80,.n n81,.l TTm l82])))(h3:(e4u [.n n68,.n n69,.n n70,.n n71,.n n72,.n n73,.n n74,.n n75,.l TB l76,.n n77,.n n78,.n n79,.n n80,.n n81,.l TTm l82,.n n51,.n n52,.n n53,.n n54,.n n55,.n n56,.n n57,.n n58,.l TB l59,.n n60,.n n61,.n n62,.n n63,.n n64,.l TTm []])=(some (0,[.b b83])))(h4:(b83=true))(h5:((b48==b65)=true))(h6:(b48=true))(h7:(e4w [.n n34,.n n35,.n n36,.n n37,.n n38,.n n39,.n n40,.n n41,.l TB l42,.n n43,.n n44,.n n45,.n n46,.n n47,.l TTm [],.n n24,.n n25,.n n26,.n n27,.n n28,.l TB l29,.n n30,.b b31])=(some (0,[.n n84,.n n85,.n n86,.n n87,.n n88,.n n89,.n n90,.n n91,.l TB l92,.n n93,.n n94,.n n95,.n n96,.n n97,.b b98,.n n99,.n n100,.n n101,.n n102,.n n103,.n n104,.l TB l105,.n n106,.b b107])))(h8:(f4s [.n n51,.n n52,.n n53,.n n54,.n n55,.n n56,.n n57,.n n58,.l TB l59,.n n60,.n n61,.n n62,.n n63,.n n64,.l TTm [],.n n24,.n n25,.n n26,.n n27,.n n28,.l TB l29,.n n30,.b b31])=(some (0,[.n n108,.n n109,.n n110,.n n111,.n n112,.n n113,.n n114,.n n115,.l TB l116,.n n117,.n n118,.n n119,.n n120,.n n121,.b b122,.n n123,.n n124,.n n125,.n n126,.n n127,.n n128,.l TB l129,.n n130,.b b131])))(h9:(e4h [.n n84,.n n85,.n n86,.n n87,.n n88,.n n89,.n n90,.n n91,.l TB l92,.n n93,.n n94,.n n95,.n n96,.n n97,.l TTm []])=(some (0,[.n n132,.n n133,.n n134,.n n135,.n n136,.n n137,.n n138,.n n139,.l TB l140,.n n141,.n n142,.n n143,.n n144,.n n145,.l TTm l146])))(h10:(e4u [.n n132,.n n133,.n n134,.n n135,.n n136,.n n137,.n n138,.n n139,.l TB l140,.n n141,.n n142,.n n143,.n n144,.n n145,.l TTm l146,.n n108,.n n109,.n n110,.n n111,.n n112,.n n113,.n n114,.n n115,.l TB l116,.n n117,.n n118,.n n119,.n n120,.n n121,.l TTm []])=(some (0,[.b b147])))(h11:(b147=true))(h12:((b98==b122)=true))(h13:(n99=n123))(h14:(h4c [.n n84,.n n85,.n n86,.n n87,.n n88,.n n89,.n n90,.n n91,.l TB l92,.n n93,.n n94,.n n95,.n n96,.n n97,.l TTm [],.n n23,.l TLog l33])=(some (0,[.n n148,.n n149,.l TLog l150])))(h15:(h4y [.n n108,.n n109,.n n110,.n n111,.n n112,.n n113,.n n114,.n n115,.l TB l116,.n n117,.n n118,.n n119,.n n120,.n n121,.l TTm [],.n n32,.l TLog l33])=(some (0,[.n n151,.n n152,.l TLog l153])))(h16:(n148=n151))(h17:(h4x [.n n34,.n n35,.n n36,.n n37,.n n38,.n n39,.n n40,.n n41,.l TB l42,.n n43,.n n44,.n n45,.n n46,.n n47])=(some (0,[]))):d4z (.n n0::.n n1::.n n2::.n n3::.n n4::.n n5::.l TB l6::.n n7::.n n8::.n n9::.n n10::.n n11::.n n12::.n n13::.n n14::.n n15::.l TB l16::.n n17::.n n18::.n n19::.n n20::.n n21::.l TTm l22::.n n23::.n n24::.n n25::.n n26::.n n27::.n n28::.l TB l29::.n n30::.b b31::.n n32::.n n24::.n n25::.n n26::.n n27::.n n28::.l TB l29::.n n30::.b b31::.l TLog l33::.l TLog l33::[])=some ((0,[.b true,.n n149,.n n100,.n n101,.n n102,.n n103,.n n104,.l TB l105,.n n106,.b b107,.n n152,.n n124,.n n125,.n n126,.n n127,.n n128,.l TB l129,.n n130,.b b131,.l TLog l33,.l TLog l33])):=t2c e_do (sP [1]<|sFs (c:=(Int.tmod n0 (8:Int)==(0:Int)))<|sFs (c:=(Int.tmod n0 (8:Int)==(1:Int)))<|sFs (c:=(Int.tmod n0 (8:Int)==(3:Int)))<|sFs (c:=(Int.tmod n0 (8:Int)==(4:Int)))<|sFs (c:=(Int.tmod n0 (8:Int)==(5:Int)))<|sFs (c:=(Int.tmod n0 (8:Int)==(6:Int)))<|sP [1]<|sA h0<|sP [1,1,1]<|sA h1<|sP [1,1]<|sA h2<|sP [1,1]<|sA h3<|sP [1,1]<|sF (nt h4)<|sP [1]<|sF (nt h5)<|sP [1]<|sTs (c:=(Int.tmod n0 (8:Int)==(7:Int)))<|sT h6<|sP [1]<|sA h7<|sP [1,1,1]<|sA h8<|sP [1,1]<|sA h9<|sP [1,1]<|sA h10<|sP [1,1]<|sF (nt h11)<|sF (nt h12)<|sF (bnf h13)<|sP [1]<|sA h14<|sP [1,1,1]<|sA h15<|sP [1,1,1]<|sF (bnf h16)<|sP [1]<|sA h17<|sP [1,1,1]<|sL)
theorem n4d {n0 n1 n2 n3 n4 n5:Int}{l6:List (Ty.den TB)}{n7 n8 n9 n10 n11 n12 n13 n14 n15:Int}{l16:List (Ty.den TB)}{n17 n18 n19 n20 n21:Int}{l22:List (Ty.den TTm)}{n23 n24 n25 n26 n27 n28:Int}{l29:List (Ty.den TB)}{n30:Int}{b31:Bool}{n32:Int}{l33:List (Ty.den TLog)}{n34 n35 n36 n37 n38 n39 n40 n41:Int}{l42:List (Ty.den TB)}{n43 n44 n45 n46 n47:Int}{b48:Bool}{n49:Int}{l50:List (Ty.den TLog)}{n51 n52 n53 n54 n55 n56 n57 n58:Int}{l59:List (Ty.den TB)}{n60 n61 n62 n63 n64:Int}{b65:Bool}{n66:Int}{l67:List (Ty.den TLog)}{n68 n69 n70 n71 n72 n73 n74 n75:Int}{l76:List (Ty.den TB)}{n77 n78 n79 n80 n81:Int}{l82:List (Ty.den TTm)}{b83:Bool}(g0:0≤n0)(g1:0≤n23)(g2:n23≤(l33.length:Int))(g3:l33.length≤8)(g4:IntKind.wrap .i64 (n23-(1:Int))=n32)(g5:Int.tmod n0 8=7)(h0:(f4p [.n n23,.l TLog l33])=(some (0,[.n n34,.n n35,.n n36,.n n37,.n n38,.n n39,.n n40,.n n41,.l TB l42,.n n43,.n n44,.n n45,.n n46,.n n47,.b b48,.n n49,.l TLog l50])))(h1:(f4q [.n n32,.l TLog l33])=(some (0,[.n n51,.n n52,.n n53,.n n54,.n n55,.n n56,.n n57,.n n58,.l TB l59,.n n60,.n n61,.n n62,.n n63,.n n64,.b b65,.n n66,.l TLog l67])))(h2:(e4h [.n n34,.n n35,.n n36,.n n37,.n n38,.n n39,.n n40,.n n41,.l TB l42,.n n43,.n n44,.n n45,.n n46,.n n47,.l TTm []])=(some (0,[.n n68,.n n69,.n n70,.n n71,.n n72,.n n73,.n n74,.n n75,.l TB l76,.n n77,.n n78,.n n79,.n n80,.n n81,.l TTm l82])))(h3:(e4u [.n n68,.n n69,.n n70,.n n71,.n n72,.n n73,.n n74,.n n75,.l TB l76,.n n77,.n n78,.n n79,.n n80,.n n81,.l TTm l82,.n n51,.n n52,.n n53,.n n54,.n n55,.n n56,.n n57,.n n58,.l TB l59,.n n60,.n n61,.n n62,.n n63,.n n64,.l TTm []])=(some (0,[.b b83])))(h4:(b83=true))(h5:((b48==b65)=true))(h6:(b48=false))(h7:(h4x [.n n34,.n n35,.n n36,.n n37,.n n38,.n n39,.n n40,.n n41,.l TB l42,.n n43,.n n44,.n n45,.n n46,.n n47])=(some (0,[]))):d4z (.n n0::.n n1::.n n2::.n n3::.n n4::.n n5::.l TB l6::.n n7::.n n8::.n n9::.n n10::.n n11::.n n12::.n n13::.n n14::.n n15::.l TB l16::.n n17::.n n18::.n n19::.n n20::.n n21::.l TTm l22::.n n23::.n n24::.n n25::.n n26::.n n27::.n n28::.l TB l29::.n n30::.b b31::.n n32::.n n24::.n n25::.n n26::.n n27::.n n28::.l TB l29::.n n30::.b b31::.l TLog l33::.l TLog l33::[])=some ((0,[.b true,.n n23,.n n24,.n n25,.n n26,.n n27,.n n28,.l TB l29,.n n30,.b b31,.n n32,.n n24,.n n25,.n n26,.n n27,.n n28,.l TB l29,.n n30,.b b31,.l TLog l33,.l TLog l33])):=t2c e_do (sP [1]<|sFs (c:=(Int.tmod n0 (8:Int)==(0:Int)))<|sFs (c:=(Int.tmod n0 (8:Int)==(1:Int)))<|sFs (c:=(Int.tmod n0 (8:Int)==(3:Int)))<|sFs (c:=(Int.tmod n0 (8:Int)==(4:Int)))<|sFs (c:=(Int.tmod n0 (8:Int)==(5:Int)))<|sFs (c:=(Int.tmod n0 (8:Int)==(6:Int)))<|sP [1]<|sA h0<|sP [1,1,1]<|sA h1<|sP [1,1]<|sA h2<|sP [1,1]<|sA h3<|sP [1,1]<|sF (nt h4)<|sP [1]<|sF (nt h5)<|sP [1]<|sTs (c:=(Int.tmod n0 (8:Int)==(7:Int)))<|sF h6<|sP [1]<|sA h7<|sP [1,1,1]<|sL)
theorem k4u {n0 n1 n2 n3 n4 n5:Int}{l6:List (Ty.den TB)}{n7 n8 n9 n10 n11 n12 n13 n14 n15:Int}{l16:List (Ty.den TB)}{n17 n18 n19 n20 n21:Int}{l22:List (Ty.den TTm)}{n23 n24 n25 n26 n27 n28:Int}{l29:List (Ty.den TB)}{n30:Int}{b31:Bool}{n32:Int}{l33:List (Ty.den TLog)}{n34 n35 n36 n37 n38 n39 n40 n41:Int}{l42:List (Ty.den TB)}{n43 n44 n45 n46 n47:Int}{b48:Bool}{n49:Int}{l50:List (Ty.den TLog)}{l51:List (Ty.den TTm)}{n52 n53 n54 n55 n56 n57 n58 n59:Int}{l60:List (Ty.den TB)}{n61 n62 n63 n64 n65:Int}{b66:Bool}{n67:Int}{l68:List (Ty.den TLog)}{l69:List (Ty.den TTm)}{n70 n71 n72 n73 n74 n75 n76 n77:Int}{l78:List (Ty.den TB)}{n79 n80 n81 n82 n83:Int}{l84:List (Ty.den TTm)}{b85:Bool}{n86 n87 n88 n89 n90 n91 n92 n93:Int}{l94:List (Ty.den TB)}{n95 n96 n97 n98 n99:Int}{b100:Bool}{n101 n102 n103 n104 n105 n106:Int}{l107:List (Ty.den TB)}{n108:Int}{b109:Bool}{l110:List (Ty.den TTm)}{n111 n112 n113 n114 n115 n116 n117 n118:Int}{l119:List (Ty.den TB)}{n120 n121 n122 n123 n124:Int}{b125:Bool}{n126 n127 n128 n129 n130 n131:Int}{l132:List (Ty.den TB)}{n133:Int}{b134:Bool}{l135:List (Ty.den TTm)}{n136 n137 n138 n139 n140 n141 n142 n143:Int}{l144:List (Ty.den TB)}{n145 n146 n147 n148 n149:Int}{l150:List (Ty.den TTm)}{b151:Bool}{n152 n153:Int}{l154:List (Ty.den TLog)}{n155 n156:Int}{l157:List (Ty.den TLog)}{l158:List (Ty.den TTm)}(g0:0≤n0)(g1:0≤n23)(g2:n23≤(l33.length:Int))(g3:l33.length≤8)(g4:IntKind.wrap .i64 (n23-(1:Int))=n32)(g5:Int.tmod n0 8=7)(h0:(f4p [.n n23,.l TLog l33])=(some (1,[.n n34,.n n35,.n n36,.n n37,.n n38,.n n39,.n n40,.n n41,.l TB l42,.n n43,.n n44,.n n45,.n n46,.n n47,.b b48,.n n49,.l TLog l50,.l TTm l51])))(h1:(f4q [.n n32,.l TLog l33])=(some (1,[.n n52,.n n53,.n n54,.n n55,.n n56,.n n57,.n n58,.n n59,.l TB l60,.n n61,.n n62,.n n63,.n n64,.n n65,.b b66,.n n67,.l TLog l68,.l TTm l69])))(h2:(e4h [.n n34,.n n35,.n n36,.n n37,.n n38,.n n39,.n n40,.n n41,.l TB l42,.n n43,.n n44,.n n45,.n n46,.n n47,.l TTm l51])=(some (0,[.n n70,.n n71,.n n72,.n n73,.n n74,.n n75,.n n76,.n n77,.l TB l78,.n n79,.n n80,.n n81,.n n82,.n n83,.l TTm l84])))(h3:(e4u [.n n70,.n n71,.n n72,.n n73,.n n74,.n n75,.n n76,.n n77,.l TB l78,.n n79,.n n80,.n n81,.n n82,.n n83,.l TTm l84,.n n52,.n n53,.n n54,.n n55,.n n56,.n n57,.n n58,.n n59,.l TB l60,.n n61,.n n62,.n n63,.n n64,.n n65,.l TTm l69])=(some (0,[.b b85])))(h4:(b85=true))(h5:((b48==b66)=true))(h6:(b48=true))(h7:(e4b [.n n34,.n n35,.n n36,.n n37,.n n38,.n n39,.n n40,.n n41,.l TB l42,.n n43,.n n44,.n n45,.n n46,.n n47,.n n24,.n n25,.n n26,.n n27,.n n28,.l TB l29,.n n30,.b b31,.l TTm l51])=(some (0,[.n n86,.n n87,.n n88,.n n89,.n n90,.n n91,.n n92,.n n93,.l TB l94,.n n95,.n n96,.n n97,.n n98,.n n99,.b b100,.n n101,.n n102,.n n103,.n n104,.n n105,.n n106,.l TB l107,.n n108,.b b109,.l TTm l110])))(h8:(e4a [.n n52,.n n53,.n n54,.n n55,.n n56,.n n57,.n n58,.n n59,.l TB l60,.n n61,.n n62,.n n63,.n n64,.n n65,.n n24,.n n25,.n n26,.n n27,.n n28,.l TB l29,.n n30,.b b31,.l TTm l69])=(some (0,[.n n111,.n n112,.n n113,.n n114,.n n115,.n n116,.n n117,.n n118,.l TB l119,.n n120,.n n121,.n n122,.n n123,.n n124,.b b125,.n n126,.n n127,.n n128,.n n129,.n n130,.n n131,.l TB l132,.n n133,.b b134,.l TTm l135])))(h9:(e4h [.n n86,.n n87,.n n88,.n n89,.n n90,.n n91,.n n92,.n n93,.l TB l94,.n n95,.n n96,.n n97,.n n98,.n n99,.l TTm []])=(some (0,[.n n136,.n n137,.n n138,.n n139,.n n140,.n n141,.n n142,.n n143,.l TB l144,.n n145,.n n146,.n n147,.n n148,.n n149,.l TTm l150])))(h10:(e4u [.n n136,.n n137,.n n138,.n n139,.n n140,.n n141,.n n142,.n n143,.l TB l144,.n n145,.n n146,.n n147,.n n148,.n n149,.l TTm l150,.n n111,.n n112,.n n113,.n n114,.n n115,.n n116,.n n117,.n n118,.l TB l119,.n n120,.n n121,.n n122,.n n123,.n n124,.l TTm []])=(some (0,[.b b151])))(h11:(b151=true))(h12:((b100==b125)=true))(h13:(n101=n126))(h14:(h4c [.n n86,.n n87,.n n88,.n n89,.n n90,.n n91,.n n92,.n n93,.l TB l94,.n n95,.n n96,.n n97,.n n98,.n n99,.l TTm [],.n n23,.l TLog l33])=(some (0,[.n n152,.n n153,.l TLog l154])))(h15:(h4y [.n n111,.n n112,.n n113,.n n114,.n n115,.n n116,.n n117,.n n118,.l TB l119,.n n120,.n n121,.n n122,.n n123,.n n124,.l TTm [],.n n32,.l TLog l33])=(some (0,[.n n155,.n n156,.l TLog l157])))(h16:(n152=n155))(h17:(k4s [.n n34,.n n35,.n n36,.n n37,.n n38,.n n39,.n n40,.n n41,.l TB l42,.n n43,.n n44,.n n45,.n n46,.n n47,.l TTm l51])=(some (0,[.l TTm l158]))):d4z (.n n0::.n n1::.n n2::.n n3::.n n4::.n n5::.l TB l6::.n n7::.n n8::.n n9::.n n10::.n n11::.n n12::.n n13::.n n14::.n n15::.l TB l16::.n n17::.n n18::.n n19::.n n20::.n n21::.l TTm l22::.n n23::.n n24::.n n25::.n n26::.n n27::.n n28::.l TB l29::.n n30::.b b31::.n n32::.n n24::.n n25::.n n26::.n n27::.n n28::.l TB l29::.n n30::.b b31::.l TLog l33::.l TLog l33::[])=some ((0,[.b true,.n n153,.n n102,.n n103,.n n104,.n n105,.n n106,.l TB l107,.n n108,.b b109,.n n156,.n n127,.n n128,.n n129,.n n130,.n n131,.l TB l132,.n n133,.b b134,.l TLog l33,.l TLog l33])):=t2c e_do (sP [1]<|sFs (c:=(Int.tmod n0 (8:Int)==(0:Int)))<|sFs (c:=(Int.tmod n0 (8:Int)==(1:Int)))<|sFs (c:=(Int.tmod n0 (8:Int)==(3:Int)))<|sFs (c:=(Int.tmod n0 (8:Int)==(4:Int)))<|sFs (c:=(Int.tmod n0 (8:Int)==(5:Int)))<|sFs (c:=(Int.tmod n0 (8:Int)==(6:Int)))<|sP [1]<|sA h0<|sP [0,1,1,1]<|sA h1<|sP [0,1,1]<|sA h2<|sP [1,1]<|sA h3<|sP [1,1]<|sF (nt h4)<|sP [1]<|sF (nt h5)<|sP [1]<|sTs (c:=(Int.tmod n0 (8:Int)==(7:Int)))<|sT h6<|sP [1]<|sA h7<|sP [1,1,1]<|sA h8<|sP [1,1]<|sA h9<|sP [1,1]<|sA h10<|sP [1,1]<|sF (nt h11)<|sF (nt h12)<|sF (bnf h13)<|sP [1]<|sA h14<|sP [1,1,1]<|sA h15<|sP [1,1,1]<|sF (bnf h16)<|sP [1]<|sA h17<|sP [1,1,1]<|sL)
theorem k4f {n0 n1 n2 n3 n4 n5:Int}{l6:List (Ty.den TB)}{n7 n8 n9 n10 n11 n12 n13 n14 n15:Int}{l16:List (Ty.den TB)}{n17 n18 n19 n20 n21:Int}{l22:List (Ty.den TTm)}{n23 n24 n25 n26 n27 n28:Int}{l29:List (Ty.den TB)}{n30:Int}{b31:Bool}{n32:Int}{l33:List (Ty.den TLog)}{n34 n35 n36 n37 n38 n39 n40 n41:Int}{l42:List (Ty.den TB)}{n43 n44 n45 n46 n47:Int}{b48:Bool}{n49:Int}{l50:List (Ty.den TLog)}{l51:List (Ty.den TTm)}{n52 n53 n54 n55 n56 n57 n58 n59:Int}{l60:List (Ty.den TB)}{n61 n62 n63 n64 n65:Int}{b66:Bool}{n67:Int}{l68:List (Ty.den TLog)}{l69:List (Ty.den TTm)}{n70 n71 n72 n73 n74 n75 n76 n77:Int}{l78:List (Ty.den TB)}{n79 n80 n81 n82 n83:Int}{l84:List (Ty.den TTm)}{b85:Bool}{l86:List (Ty.den TTm)}(g0:0≤n0)(g1:0≤n23)(g2:n23≤(l33.length:Int))(g3:l33.length≤8)(g4:IntKind.wrap .i64 (n23-(1:Int))=n32)(g5:Int.tmod n0 8=7)(h0:(f4p [.n n23,.l TLog l33])=(some (1,[.n n34,.n n35,.n n36,.n n37,.n n38,.n n39,.n n40,.n n41,.l TB l42,.n n43,.n n44,.n n45,.n n46,.n n47,.b b48,.n n49,.l TLog l50,.l TTm l51])))(h1:(f4q [.n n32,.l TLog l33])=(some (1,[.n n52,.n n53,.n n54,.n n55,.n n56,.n n57,.n n58,.n n59,.l TB l60,.n n61,.n n62,.n n63,.n n64,.n n65,.b b66,.n n67,.l TLog l68,.l TTm l69])))(h2:(e4h [.n n34,.n n35,.n n36,.n n37,.n n38,.n n39,.n n40,.n n41,.l TB l42,.n n43,.n n44,.n n45,.n n46,.n n47,.l TTm l51])=(some (0,[.n n70,.n n71,.n n72,.n n73,.n n74,.n n75,.n n76,.n n77,.l TB l78,.n n79,.n n80,.n n81,.n n82,.n n83,.l TTm l84])))(h3:(e4u [.n n70,.n n71,.n n72,.n n73,.n n74,.n n75,.n n76,.n n77,.l TB l78,.n n79,.n n80,.n n81,.n n82,.n n83,.l TTm l84,.n n52,.n n53,.n n54,.n n55,.n n56,.n n57,.n n58,.n n59,.l TB l60,.n n61,.n n62,.n n63,.n n64,.n n65,.l TTm l69])=(some (0,[.b b85])))(h4:(b85=true))(h5:((b48==b66)=true))(h6:(b48=false))(h7:(k4s [.n n34,.n n35,.n n36,.n n37,.n n38,.n n39,.n n40,.n n41,.l TB l42,.n n43,.n n44,.n n45,.n n46,.n n47,.l TTm l51])=(some (0,[.l TTm l86]))):d4z (.n n0::.n n1::.n n2::.n n3::.n n4::.n n5::.l TB l6::.n n7::.n n8::.n n9::.n n10::.n n11::.n n12::.n n13::.n n14::.n n15::.l TB l16::.n n17::.n n18::.n n19::.n n20::.n n21::.l TTm l22::.n n23::.n n24::.n n25::.n n26::.n n27::.n n28::.l TB l29::.n n30::.b b31::.n n32::.n n24::.n n25::.n n26::.n n27::.n n28::.l TB l29::.n n30::.b b31::.l TLog l33::.l TLog l33::[])=some ((0,[.b true,.n n23,.n n24,.n n25,.n n26,.n n27,.n n28,.l TB l29,.n n30,.b b31,.n n32,.n n24,.n n25,.n n26,.n n27,.n n28,.l TB l29,.n n30,.b b31,.l TLog l33,.l TLog l33])):=t2c e_do (sP [1]<|sFs (c:=(Int.tmod n0 (8:Int)==(0:Int)))<|sFs (c:=(Int.tmod n0 (8:Int)==(1:Int)))<|sFs (c:=(Int.tmod n0 (8:Int)==(3:Int)))<|sFs (c:=(Int.tmod n0 (8:Int)==(4:Int)))<|sFs (c:=(Int.tmod n0 (8:Int)==(5:Int)))<|sFs (c:=(Int.tmod n0 (8:Int)==(6:Int)))<|sP [1]<|sA h0<|sP [0,1,1,1]<|sA h1<|sP [0,1,1]<|sA h2<|sP [1,1]<|sA h3<|sP [1,1]<|sF (nt h4)<|sP [1]<|sF (nt h5)<|sP [1]<|sTs (c:=(Int.tmod n0 (8:Int)==(7:Int)))<|sF h6<|sP [1]<|sA h7<|sP [1,1,1]<|sL)
def cs_do:FuncId→Option a0q:=e1c 10 [S_do.k d4z] cs_te
theorem j4b:CsOk Try.prog cs_do:=csA1 k4a e_do
def R_3_7:LSh:={K:=0,log:=[],ins:=[(sh 36 [(0,.imm t0c 0),(3,.ptr 0 0),(4,.ptr 1 0),(5,.ptr 2 0),(6,.ptr 3 0),(7,.int .i64 1)],[seB 4 2,reB 3,seB 5 11,reB 12,.arr TLog 20,.arr TLog 21])],nils:=[],outs:=[(.exit 0,sh 36 [],[]),(.ret,sh 36 [(2,.bool 0)],[])],cv:=[(3,[],0,.own TLog),(5,[],0,.own TLog)]}
def h4d:List Dat→Tree Step:=evL cs_do 3 7 ls0 R_3_7
theorem s4y: ∃op,IsL h4d 3 7 R_3_7 op:=bxL j4b (LsOk.none _ _ _)
def op_3_7:OpA:=opL s4y
theorem n4r (env:List Dat):op_3_7 env=a0b h4d FU env:=x3n s4y env
abbrev Bx_3_7:MBox:=boxL s4y
theorem m4c {l0:List (Ty.den t0c)}{n1 n2 n3 n4 n5 n6 n7:Int}{l8:List (Ty.den TB)}{n9:Int}{b10:Bool}{n11 n12 n13 n14 n15 n16:Int}{l17:List (Ty.den TB)}{n18:Int}{b19:Bool}{l20 l21:List (Ty.den TLog)}{b22:Bool}{n23 n24 n25 n26 n27 n28:Int}{l29:List (Ty.den TB)}{n30:Int}{b31:Bool}{n32 n33 n34 n35 n36 n37:Int}{l38:List (Ty.den TB)}{n39:Int}{b40:Bool}{l41 l42:List (Ty.den TLog)}{b43:Bool}{n44 n45 n46 n47 n48 n49:Int}{l50:List (Ty.den TB)}{n51:Int}{b52:Bool}{n53 n54 n55 n56 n57 n58:Int}{l59:List (Ty.den TB)}{n60:Int}{b61:Bool}{l62 l63:List (Ty.den TLog)}(g0:0≤n1)(h0:(n1<(↑(List.length l0):Int)))(h1:(d4z (.n (Prod.fst (List.getD l0 (Int.toNat n1) (Ty.dflt t0c)))::.n (Prod.fst (Prod.snd (List.getD l0 (Int.toNat n1) (Ty.dflt t0c))))::.n (Prod.fst (Prod.snd (Prod.snd (List.getD l0 (Int.toNat n1) (Ty.dflt t0c)))))::.n (Prod.fst (Prod.snd (Prod.snd (Prod.snd (List.getD l0 (Int.toNat n1) (Ty.dflt t0c))))))::.n (Prod.fst (Prod.snd (Prod.snd (Prod.snd (Prod.snd (List.getD l0 (Int.toNat n1) (Ty.dflt t0c)))))))::.n (Prod.fst (Prod.snd (Prod.snd (Prod.snd (Prod.snd (Prod.snd (List.getD l0 (Int.toNat n1) (Ty.dflt t0c))))))))::.l TB (Prod.fst (Prod.snd (Prod.snd (Prod.snd (Prod.snd (Prod.snd (Prod.snd (List.getD l0 (Int.toNat n1) (Ty.dflt t0c)))))))))::.n (Prod.fst (Prod.snd (Prod.snd (Prod.snd (Prod.snd (Prod.snd (Prod.snd (Prod.snd (List.getD l0 (Int.toNat n1) (Ty.dflt t0c))))))))))::.n (Prod.fst (Prod.snd (Prod.snd (Prod.snd (Prod.snd (Prod.snd (Prod.snd (Prod.snd (Prod.snd (List.getD l0 (Int.toNat n1) (Ty.dflt t0c)))))))))))::.n (Prod.fst (Prod.snd (Prod.snd (Prod.snd (Prod.snd (Prod.snd (Prod.snd (Prod.snd (Prod.snd (Prod.snd (List.getD l0 (Int.toNat n1) (Ty.dflt t0c))))))))))))::.n (Prod.fst (Prod.snd (Prod.snd (Prod.snd (Prod.snd (Prod.snd (Prod.snd (Prod.snd (Prod.snd (Prod.snd (Prod.snd (List.getD l0 (Int.toNat n1) (Ty.dflt t0c)))))))))))))::.n (Prod.fst (Prod.snd (Prod.snd (Prod.snd (Prod.snd (Prod.snd (Prod.snd (Prod.snd (Prod.snd (Prod.snd (Prod.snd (Prod.snd (List.getD l0 (Int.toNat n1) (Ty.dflt t0c))))))))))))))::.n (Prod.fst (Prod.snd (Prod.snd (Prod.snd (Prod.snd (Prod.snd (Prod.snd (Prod.snd (Prod.snd (Prod.snd (Prod.snd (Prod.snd (Prod.snd (List.getD l0 (Int.toNat n1) (Ty.dflt t0c)))))))))))))))::.n (Prod.fst (Prod.snd (Prod.snd (Prod.snd (Prod.snd (Prod.snd (Prod.snd (Prod.snd (Prod.snd (Prod.snd (Prod.snd (Prod.snd (Prod.snd (Prod.snd (List.getD l0 (Int.toNat n1) (Ty.dflt t0c))))))))))))))))::.n (Prod.fst (Prod.snd (Prod.snd (Prod.snd (Prod.snd (Prod.snd (Prod.snd (Prod.snd (Prod.snd (Prod.snd (Prod.snd (Prod.snd (Prod.snd (Prod.snd (Prod.snd (List.getD l0 (Int.toNat n1) (Ty.dflt t0c)))))))))))))))))::.n (Prod.fst (Prod.snd (Prod.snd (Prod.snd (Prod.snd (Prod.snd (Prod.snd (Prod.snd (Prod.snd (Prod.snd (Prod.snd (Prod.snd (Prod.snd (Prod.snd (Prod.snd (Prod.snd (List.getD l0 (Int.toNat n1) (Ty.dflt t0c))))))))))))))))))::.l TB (Prod.fst (Prod.snd (Prod.snd (Prod.snd (Prod.snd (Prod.snd (Prod.snd (Prod.snd (Prod.snd (Prod.snd (Prod.snd (Prod.snd (Prod.snd (Prod.snd (Prod.snd (Prod.snd (Prod.snd (List.getD l0 (Int.toNat n1) (Ty.dflt t0c)))))))))))))))))))::.n (Prod.fst (Prod.snd (Prod.snd (Prod.snd (Prod.snd (Prod.snd (Prod.snd (Prod.snd (Prod.snd (Prod.snd (Prod.snd (Prod.snd (Prod.snd (Prod.snd (Prod.snd (Prod.snd (Prod.snd (Prod.snd (List.getD l0 (Int.toNat n1) (Ty.dflt t0c))))))))))))))))))))::.n (Prod.fst (Prod.snd (Prod.snd (Prod.snd (Prod.snd (Prod.snd (Prod.snd (Prod.snd (Prod.snd (Prod.snd (Prod.snd (Prod.snd (Prod.snd (Prod.snd (Prod.snd (Prod.snd (Prod.snd (Prod.snd (Prod.snd (List.getD l0 (Int.toNat n1) (Ty.dflt t0c)))))))))))))))))))))::.n (Prod.fst (Prod.snd (Prod.snd (Prod.snd (Prod.snd (Prod.snd (Prod.snd (Prod.snd (Prod.snd (Prod.snd (Prod.snd (Prod.snd (Prod.snd (Prod.snd (Prod.snd (Prod.snd (Prod.snd (Prod.snd (Prod.snd (Prod.snd (List.getD l0 (Int.toNat n1) (Ty.dflt t0c))))))))))))))))))))))::.n (Prod.fst (Prod.snd (Prod.snd (Prod.snd (Prod.snd (Prod.snd (Prod.snd (Prod.snd (Prod.snd (Prod.snd (Prod.snd (Prod.snd (Prod.snd (Prod.snd (Prod.snd (Prod.snd (Prod.snd (Prod.snd (Prod.snd (Prod.snd (Prod.snd (List.getD l0 (Int.toNat n1) (Ty.dflt t0c)))))))))))))))))))))))::.n (Prod.fst (Prod.snd (Prod.snd (Prod.snd (Prod.snd (Prod.snd (Prod.snd (Prod.snd (Prod.snd (Prod.snd (Prod.snd (Prod.snd (Prod.snd (Prod.snd (Prod.snd (Prod.snd (Prod.snd (Prod.snd (Prod.snd (Prod.snd (Prod.snd (Prod.snd (List.getD l0 (Int.toNat n1) (Ty.dflt t0c))))))))))))))))))))))))::.l TTm (Prod.snd (Prod.snd (Prod.snd (Prod.snd (Prod.snd (Prod.snd (Prod.snd (Prod.snd (Prod.snd (Prod.snd (Prod.snd (Prod.snd (Prod.snd (Prod.snd (Prod.snd (Prod.snd (Prod.snd (Prod.snd (Prod.snd (Prod.snd (Prod.snd (Prod.snd (List.getD l0 (Int.toNat n1) (Ty.dflt t0c))))))))))))))))))))))))::.n n2::.n n3::.n n4::.n n5::.n n6::.n n7::.l TB l8::.n n9::.b b10::.n n11::.n n12::.n n13::.n n14::.n n15::.n n16::.l TB l17::.n n18::.b b19::.l TLog l20::.l TLog l21::[]))=(some (0,[.b b22,.n n23,.n n24,.n n25,.n n26,.n n27,.n n28,.l TB l29,.n n30,.b b31,.n n32,.n n33,.n n34,.n n35,.n n36,.n n37,.l TB l38,.n n39,.b b40,.l TLog l41,.l TLog l42])))(h2:(b22=true))(h3:(k4o [.n n23,.n n24,.n n25,.n n26,.n n27,.n n28,.l TB l29,.n n30,.b b31,.n n32,.n n33,.n n34,.n n35,.n n36,.n n37,.l TB l38,.n n39,.b b40,.l TLog l41,.l TLog l42])=(some (0,[.b b43,.n n44,.n n45,.n n46,.n n47,.n n48,.n n49,.l TB l50,.n n51,.b b52,.n n53,.n n54,.n n55,.n n56,.n n57,.n n58,.l TB l59,.n n60,.b b61,.l TLog l62,.l TLog l63])))(h4:(b43=true)):(h4d [.k 0,.l t0c l0,.n n1,.n n2,.n n3,.n n4,.n n5,.n n6,.n n7,.l TB l8,.n n9,.b b10,.n n11,.n n12,.n n13,.n n14,.n n15,.n n16,.l TB l17,.n n18,.b b19,.l TLog l20,.l TLog l21]).sel=some (Step.go [.k 0,.l t0c l0,.n (IntKind.wrap .i64 (n1+(1:Int))),.n n23,.n n24,.n n25,.n n26,.n n27,.n n28,.l TB l29,.n n30,.b b31,.n n32,.n n33,.n n34,.n n35,.n n36,.n n37,.l TB l38,.n n39,.b b40,.l TLog l41,.l TLog l42]):=sP [1]<|sT (dt h0)<|sTo (c:=(inR n1 (List.length l0)))<|sP [1]<|sA h1<|sP [1,1]<|sF (nt h2)<|sP [1]<|sA h3<|sP [1,1]<|sF (nt h4)<|sP [1]<|sL
theorem n4b {l0:List (Ty.den t0c)}{n1 n2 n3 n4 n5 n6 n7:Int}{l8:List (Ty.den TB)}{n9:Int}{b10:Bool}{n11 n12 n13 n14 n15 n16:Int}{l17:List (Ty.den TB)}{n18:Int}{b19:Bool}{l20 l21:List (Ty.den TLog)}{b22:Bool}{n23 n24 n25 n26 n27 n28:Int}{l29:List (Ty.den TB)}{n30:Int}{b31:Bool}{n32 n33 n34 n35 n36 n37:Int}{l38:List (Ty.den TB)}{n39:Int}{b40:Bool}{l41 l42:List (Ty.den TLog)}{b43:Bool}{n44 n45 n46 n47 n48 n49:Int}{l50:List (Ty.den TB)}{n51:Int}{b52:Bool}{n53 n54 n55 n56 n57 n58:Int}{l59:List (Ty.den TB)}{n60:Int}{b61:Bool}{l62 l63:List (Ty.den TLog)}(g0:0≤n1)(h0:(n1<(↑(List.length l0):Int)))(h1:(d4z (.n (Prod.fst (List.getD l0 (Int.toNat n1) (Ty.dflt t0c)))::.n (Prod.fst (Prod.snd (List.getD l0 (Int.toNat n1) (Ty.dflt t0c))))::.n (Prod.fst (Prod.snd (Prod.snd (List.getD l0 (Int.toNat n1) (Ty.dflt t0c)))))::.n (Prod.fst (Prod.snd (Prod.snd (Prod.snd (List.getD l0 (Int.toNat n1) (Ty.dflt t0c))))))::.n (Prod.fst (Prod.snd (Prod.snd (Prod.snd (Prod.snd (List.getD l0 (Int.toNat n1) (Ty.dflt t0c)))))))::.n (Prod.fst (Prod.snd (Prod.snd (Prod.snd (Prod.snd (Prod.snd (List.getD l0 (Int.toNat n1) (Ty.dflt t0c))))))))::.l TB (Prod.fst (Prod.snd (Prod.snd (Prod.snd (Prod.snd (Prod.snd (Prod.snd (List.getD l0 (Int.toNat n1) (Ty.dflt t0c)))))))))::.n (Prod.fst (Prod.snd (Prod.snd (Prod.snd (Prod.snd (Prod.snd (Prod.snd (Prod.snd (List.getD l0 (Int.toNat n1) (Ty.dflt t0c))))))))))::.n (Prod.fst (Prod.snd (Prod.snd (Prod.snd (Prod.snd (Prod.snd (Prod.snd (Prod.snd (Prod.snd (List.getD l0 (Int.toNat n1) (Ty.dflt t0c)))))))))))::.n (Prod.fst (Prod.snd (Prod.snd (Prod.snd (Prod.snd (Prod.snd (Prod.snd (Prod.snd (Prod.snd (Prod.snd (List.getD l0 (Int.toNat n1) (Ty.dflt t0c))))))))))))::.n (Prod.fst (Prod.snd (Prod.snd (Prod.snd (Prod.snd (Prod.snd (Prod.snd (Prod.snd (Prod.snd (Prod.snd (Prod.snd (List.getD l0 (Int.toNat n1) (Ty.dflt t0c)))))))))))))::.n (Prod.fst (Prod.snd (Prod.snd (Prod.snd (Prod.snd (Prod.snd (Prod.snd (Prod.snd (Prod.snd (Prod.snd (Prod.snd (Prod.snd (List.getD l0 (Int.toNat n1) (Ty.dflt t0c))))))))))))))::.n (Prod.fst (Prod.snd (Prod.snd (Prod.snd (Prod.snd (Prod.snd (Prod.snd (Prod.snd (Prod.snd (Prod.snd (Prod.snd (Prod.snd (Prod.snd (List.getD l0 (Int.toNat n1) (Ty.dflt t0c)))))))))))))))::.n (Prod.fst (Prod.snd (Prod.snd (Prod.snd (Prod.snd (Prod.snd (Prod.snd (Prod.snd (Prod.snd (Prod.snd (Prod.snd (Prod.snd (Prod.snd (Prod.snd (List.getD l0 (Int.toNat n1) (Ty.dflt t0c))))))))))))))))::.n (Prod.fst (Prod.snd (Prod.snd (Prod.snd (Prod.snd (Prod.snd (Prod.snd (Prod.snd (Prod.snd (Prod.snd (Prod.snd (Prod.snd (Prod.snd (Prod.snd (Prod.snd (List.getD l0 (Int.toNat n1) (Ty.dflt t0c)))))))))))))))))::.n (Prod.fst (Prod.snd (Prod.snd (Prod.snd (Prod.snd (Prod.snd (Prod.snd (Prod.snd (Prod.snd (Prod.snd (Prod.snd (Prod.snd (Prod.snd (Prod.snd (Prod.snd (Prod.snd (List.getD l0 (Int.toNat n1) (Ty.dflt t0c))))))))))))))))))::.l TB (Prod.fst (Prod.snd (Prod.snd (Prod.snd (Prod.snd (Prod.snd (Prod.snd (Prod.snd (Prod.snd (Prod.snd (Prod.snd (Prod.snd (Prod.snd (Prod.snd (Prod.snd (Prod.snd (Prod.snd (List.getD l0 (Int.toNat n1) (Ty.dflt t0c)))))))))))))))))))::.n (Prod.fst (Prod.snd (Prod.snd (Prod.snd (Prod.snd (Prod.snd (Prod.snd (Prod.snd (Prod.snd (Prod.snd (Prod.snd (Prod.snd (Prod.snd (Prod.snd (Prod.snd (Prod.snd (Prod.snd (Prod.snd (List.getD l0 (Int.toNat n1) (Ty.dflt t0c))))))))))))))))))))::.n (Prod.fst (Prod.snd (Prod.snd (Prod.snd (Prod.snd (Prod.snd (Prod.snd (Prod.snd (Prod.snd (Prod.snd (Prod.snd (Prod.snd (Prod.snd (Prod.snd (Prod.snd (Prod.snd (Prod.snd (Prod.snd (Prod.snd (List.getD l0 (Int.toNat n1) (Ty.dflt t0c)))))))))))))))))))))::.n (Prod.fst (Prod.snd (Prod.snd (Prod.snd (Prod.snd (Prod.snd (Prod.snd (Prod.snd (Prod.snd (Prod.snd (Prod.snd (Prod.snd (Prod.snd (Prod.snd (Prod.snd (Prod.snd (Prod.snd (Prod.snd (Prod.snd (Prod.snd (List.getD l0 (Int.toNat n1) (Ty.dflt t0c))))))))))))))))))))))::.n (Prod.fst (Prod.snd (Prod.snd (Prod.snd (Prod.snd (Prod.snd (Prod.snd (Prod.snd (Prod.snd (Prod.snd (Prod.snd (Prod.snd (Prod.snd (Prod.snd (Prod.snd (Prod.snd (Prod.snd (Prod.snd (Prod.snd (Prod.snd (Prod.snd (List.getD l0 (Int.toNat n1) (Ty.dflt t0c)))))))))))))))))))))))::.n (Prod.fst (Prod.snd (Prod.snd (Prod.snd (Prod.snd (Prod.snd (Prod.snd (Prod.snd (Prod.snd (Prod.snd (Prod.snd (Prod.snd (Prod.snd (Prod.snd (Prod.snd (Prod.snd (Prod.snd (Prod.snd (Prod.snd (Prod.snd (Prod.snd (Prod.snd (List.getD l0 (Int.toNat n1) (Ty.dflt t0c))))))))))))))))))))))))::.l TTm (Prod.snd (Prod.snd (Prod.snd (Prod.snd (Prod.snd (Prod.snd (Prod.snd (Prod.snd (Prod.snd (Prod.snd (Prod.snd (Prod.snd (Prod.snd (Prod.snd (Prod.snd (Prod.snd (Prod.snd (Prod.snd (Prod.snd (Prod.snd (Prod.snd (Prod.snd (List.getD l0 (Int.toNat n1) (Ty.dflt t0c))))))))))))))))))))))))::.n n2::.n n3::.n n4::.n n5::.n n6::.n n7::.l TB l8::.n n9::.b b10::.n n11::.n n12::.n n13::.n n14::.n n15::.n n16::.l TB l17::.n n18::.b b19::.l TLog l20::.l TLog l21::[]))=(some (1,[.b b22,.n n23,.n n24,.n n25,.n n26,.n n27,.n n28,.l TB l29,.n n30,.b b31,.n n32,.n n33,.n n34,.n n35,.n n36,.n n37,.l TB l38,.n n39,.b b40,.l TLog l41,.l TLog l42])))(h2:(b22=true))(h3:(k4o [.n n23,.n n24,.n n25,.n n26,.n n27,.n n28,.l TB l29,.n n30,.b b31,.n n32,.n n33,.n n34,.n n35,.n n36,.n n37,.l TB l38,.n n39,.b b40,.l TLog l41,.l TLog l42])=(some (0,[.b b43,.n n44,.n n45,.n n46,.n n47,.n n48,.n n49,.l TB l50,.n n51,.b b52,.n n53,.n n54,.n n55,.n n56,.n n57,.n n58,.l TB l59,.n n60,.b b61,.l TLog l62,.l TLog l63])))(h4:(b43=true)):(h4d [.k 0,.l t0c l0,.n n1,.n n2,.n n3,.n n4,.n n5,.n n6,.n n7,.l TB l8,.n n9,.b b10,.n n11,.n n12,.n n13,.n n14,.n n15,.n n16,.l TB l17,.n n18,.b b19,.l TLog l20,.l TLog l21]).sel=some (Step.go [.k 0,.l t0c l0,.n (IntKind.wrap .i64 (n1+(1:Int))),.n n23,.n n24,.n n25,.n n26,.n n27,.n n28,.l TB l29,.n n30,.b b31,.n n32,.n n33,.n n34,.n n35,.n n36,.n n37,.l TB l38,.n n39,.b b40,.l TLog l41,.l TLog l42]):=sP [1]<|sT (dt h0)<|sTo (c:=(inR n1 (List.length l0)))<|sP [1]<|sA h1<|sP [0,1,1]<|sF (nt h2)<|sP [1]<|sA h3<|sP [1,1]<|sF (nt h4)<|sP [1]<|sL
theorem n4f {l0:List (Ty.den t0c)}{n1 n2 n3 n4 n5 n6 n7:Int}{l8:List (Ty.den TB)}{n9:Int}{b10:Bool}{n11 n12 n13 n14 n15 n16:Int}{l17:List (Ty.den TB)}{n18:Int}{b19:Bool}{l20 l21:List (Ty.den TLog)}(g0:0≤n1)(h0:(¬n1<(↑(List.length l0):Int))):(h4d [.k 0,.l t0c l0,.n n1,.n n2,.n n3,.n n4,.n n5,.n n6,.n n7,.l TB l8,.n n9,.b b10,.n n11,.n n12,.n n13,.n n14,.n n15,.n n16,.l TB l17,.n n18,.b b19,.l TLog l20,.l TLog l21]).sel=some (Step.stop 0 []):=sP [1]<|sF (df h0)<|sP [1]<|sL
def p3r:List Dat→Tree Bool:=evW cs_do 3 (lsM [(7,Bx_3_7)] 0) [.imm t0c 0]
theorem W3_law (env:List Dat)(h:(p3r env).sel=some true){w:World}{aa:Array Value}(ha:LRel R0 (b0k w) (instL [.imm t0c 0] env) aa):
  Calls Try.prog 3 aa w fun e w'=>e=.returned (.bool true)∧Below w.heap.size w w':=evW_law j4b (lsE (lsC (q3c s4y) (atF) lsZ)) env h ha
theorem z3r {l0:List (Ty.den t0c)}{b1 b2:Bool}(h0:(i4e [.l t0c l0])=(some (0,[.b b1])))(h1:(b1=false))(h2:(u3k [])=(some (0,[.b b2]))):(p3r [.l t0c l0]).sel=some (b2):=sA h0<|sP [1,1]<|sT (nf h1)<|sP [1]<|sA h2<|sP [1,1]<|sL
theorem z3j {l0:List (Ty.den t0c)}{b1 b2:Bool}(h0:(i4e [.l t0c l0])=(some (0,[.b b1])))(h1:(b1=true))(h2:(op_3_7 [.k 0,.l t0c l0,.n (0:Int),.n (0:Int),.n (0:Int),.n (0:Int),.n (0:Int),.n (0:Int),.n (0:Int),.l TB (List.replicate 64 (0:Int)),.n (0:Int),.b false,.n (-1:Int),.n (0:Int),.n (0:Int),.n (0:Int),.n (0:Int),.n (0:Int),.l TB (List.replicate 64 (0:Int)),.n (0:Int),.b false,.l TLog [],.l TLog []])=(some (0,[])))(h3:(u3k [])=(some (0,[.b b2]))):(p3r [.l t0c l0]).sel=some (b2):=sA h0<|sP [1,1]<|sF (nt h1)<|sP [1,1]<|sA h2<|sP [1,1]<|sA h3<|sP [1,1]<|sL
abbrev LT:=List (Ty.den TTm)
abbrev L8:=List (Ty.den TB)
theorem w64x {x:Int}(h0: -9223372036854775808≤x)(h1:x<9223372036854775808):IntKind.wrap .i64 x=x:=w64 h0 (by omega)
theorem w1 (i:Nat)(h:i<9223372036854775807):IntKind.wrap .i64 ((i:Int)+1)=((i+1:Nat):Int):=by rw[w64x (by omega) (by omega)];rfl
def byT (l:L8)(i:Nat):Int:=List.getD (l:List Int) i 0
def dfT (a b:L8):Nat→LT
 |0=>[]
 |k+1=>dfT a b k++(bif byT a k==byT b k then[]else([((k:Int),byT b k)]:List (Ty.den TTm)))
theorem h4r (a b:L8): ∀k,(dfT a b k).length≤k
 |0=>Nat.le_refl _
 |k+1=>by
  have:=h4r a b k
  unfold dfT
  rw[List.length_append]
  cases(byT a k==byT b k)with
  |true=>show(dfT a b k).length+0≤k+1;omega
  |false=>show(dfT a b k).length+1≤k+1;omega
theorem tk (l:LT)(i:Nat)(h:i<l.length):List.take (i+1) l=List.take i l++([(tm_1 l (i:Int),tm_2 l (i:Int))]:List (Ty.den TTm)):=by
 rw[List.take_add_one,List.getElem?_eq_getElem h]
 have e:List.getD l (Int.toNat (i:Int)) (Ty.dflt TTm)=l[i]:=by
  show List.getD l i (Ty.dflt TTm)=l[i]
  rw[List.getD_eq_getElem?_getD,List.getElem?_eq_getElem h];rfl
 have e2:((tm_1 l (i:Int),tm_2 l (i:Int)):Ty.den TTm)=l[i]:=e
 exact congrArg (fun(x:Ty.den TTm)=>List.take i l++[x]) e2.symm
theorem s4v (n1:Int)(n2:Int)(n3:Int)(n4:Int)(n5:Int)(n6:Int)(n7:Int)(n8:Int)(l9:List (Ty.den TB))(n10:Int)(n11:Int)(n12:Int)(n13:Int)(n14:Int)(l15:List (Ty.den TTm))(n16:Int)(n17:Int)(n18:Int)(n19:Int)(n20:Int)(n21:Int)(n22:Int)(n23:Int)(l24:List (Ty.den TB))(n25:Int)(n26:Int)(n27:Int)(n28:Int)(n29:Int)(n30:Int)(n31:Int)(n32:Int)(n33:Int)(n34:Int)(n35:Int)(n36:Int)(n37:Int)(l38:List (Ty.den TB))(n39:Int)(n40:Int)(n41:Int)(n42:Int)(n43:Int)(hl:l15.length≤1000):f4y (.k 0::.n (0:Int)::.n n1::.n n2::.n n3::.n n4::.n n5::.n n6::.n n7::.n n8::.l TB l9::.n n10::.n n11::.n n12::.n n13::.n n14::.l TTm l15::.n n16::.n n17::.n n18::.n n19::.n n20::.n n21::.n n22::.n n23::.l TB l24::.n n25::.n n26::.n n27::.n n28::.n n29::.n n30::.n n31::.n n32::.n n33::.n n34::.n n35::.n n36::.n n37::.l TB l38::.n n39::.n n40::.n n41::.n n42::.n n43::.l TTm (List.take 0 l15)::[])=some (0,[.n n16,.n n17,.n n18,.n n19,.n n20,.n n21,.n n22,.n n23,.l TB l24,.n n25,.n n26,.n n27,.n n28,.n n29,.n n30,.n n31,.n n32,.n n33,.n n34,.n n35,.n n36,.n n37,.l TB l38,.n n39,.n n40,.n n41,.n n42,.n n43,.l TTm (List.take l15.length l15)]):=by
 rw[h4b]
 refine b0a (fun i=>(.k 0::.n (i:Int)::.n n1::.n n2::.n n3::.n n4::.n n5::.n n6::.n n7::.n n8::.l TB l9::.n n10::.n n11::.n n12::.n n13::.n n14::.l TTm l15::.n n16::.n n17::.n n18::.n n19::.n n20::.n n21::.n n22::.n n23::.l TB l24::.n n25::.n n26::.n n27::.n n28::.n n29::.n n30::.n n31::.n n32::.n n33::.n n34::.n n35::.n n36::.n n37::.l TB l38::.n n39::.n n40::.n n41::.n n42::.n n43::.l TTm (List.take i l15)::[])) (l15.length) (0,[.n n16,.n n17,.n n18,.n n19,.n n20,.n n21,.n n22,.n n23,.l TB l24,.n n25,.n n26,.n n27,.n n28,.n n29,.n n30,.n n31,.n n32,.n n33,.n n34,.n n35,.n n36,.n n37,.l TB l38,.n n39,.n n40,.n n41,.n n42,.n n43,.l TTm (List.take l15.length l15)]) (fun i hi=> ?_) ?_ FU (b1w (by omega))
 ·refine e4z _ _ _ _ _ _ _ _ _ _ _ _ _ _ _ _ _ _ _ _ _ _ _ _ _ _ _ _ _ _ _ _ _ _ _ _ _ _ _ _ _ _ _ _ _ (by omega) _ ?_
  unfold f4i
  have hcap:decide ((List.length (List.take i l15)+1)*16≤140737488355328)=true:=decide_eq_true (by rw[List.length_take];omega)
  refine a0a (decide_eq_true (show(i:Int)<(l15.length:Int) by omega)) (a0a hcap ?_)
  rw[w1 i (by omega),tk l15 i hi];rfl
 ·refine e4z _ _ _ _ _ _ _ _ _ _ _ _ _ _ _ _ _ _ _ _ _ _ _ _ _ _ _ _ _ _ _ _ _ _ _ _ _ _ _ _ _ _ _ _ _ (by omega) _ ?_
  unfold f4i
  exact a0c (decide_eq_false (show¬((l15.length:Nat):Int)<(l15.length:Int) by omega)) rfl
theorem o4v (n1:Int)(n2:Int)(n3:Int)(n4:Int)(n5:Int)(n6:Int)(n7:Int)(n8:Int)(l9:List (Ty.den TB))(n10:Int)(n11:Int)(n12:Int)(n13:Int)(n14:Int)(l15:List (Ty.den TTm))(n16:Int)(n17:Int)(n18:Int)(n19:Int)(n20:Int)(n21:Int)(n22:Int)(n23:Int)(l24:List (Ty.den TB))(n25:Int)(n26:Int)(n27:Int)(n28:Int)(n29:Int)(l30:List (Ty.den TTm))(hl:l15.length≤1000)(h:l15=l30):f4x (.k 0::.n (0:Int)::.n n1::.n n2::.n n3::.n n4::.n n5::.n n6::.n n7::.n n8::.l TB l9::.n n10::.n n11::.n n12::.n n13::.n n14::.l TTm l15::.n n16::.n n17::.n n18::.n n19::.n n20::.n n21::.n n22::.n n23::.l TB l24::.n n25::.n n26::.n n27::.n n28::.n n29::.l TTm l30::[])=some (0,[]):=by
 rw[g4y]
 refine b0a (fun i=>(.k 0::.n (i:Int)::.n n1::.n n2::.n n3::.n n4::.n n5::.n n6::.n n7::.n n8::.l TB l9::.n n10::.n n11::.n n12::.n n13::.n n14::.l TTm l15::.n n16::.n n17::.n n18::.n n19::.n n20::.n n21::.n n22::.n n23::.l TB l24::.n n25::.n n26::.n n27::.n n28::.n n29::.l TTm l30::[])) (l15.length) (0,[]) (fun i hi=> ?_) ?_ FU (b1w (by omega))
 ·refine f4e _ _ _ _ _ _ _ _ _ _ _ _ _ _ _ _ _ _ _ _ _ _ _ _ _ _ _ _ _ _ _ (by omega) (by rw[h]) _ ?_
  unfold f4l
  refine a0a (decide_eq_true (show(i:Int)<(l15.length:Int) by omega)) (a0c (by rw[←h];simp) ?_)
  rw[w1 i (by omega)];rfl
 ·refine f4e _ _ _ _ _ _ _ _ _ _ _ _ _ _ _ _ _ _ _ _ _ _ _ _ _ _ _ _ _ _ _ (by omega) (by rw[h]) _ ?_
  unfold f4l
  exact a0c (decide_eq_false (show¬((l15.length:Nat):Int)<(l15.length:Int) by omega)) rfl
theorem p4q (l0:List (Ty.den TB))(n2:Int)(n3:Int)(n4:Int)(l5:List (Ty.den TB))(n6:Int)(n7:Int)(n8:Int)(n9:Int)(n10:Int)(n11:Int)(n12:Int)(n13:Int)(n14:Int):f4u (.k 0::.l TB l0::.n (0:Int)::.n n2::.n n3::.n n4::.l TB l5::.n n6::.n n7::.n n8::.n n9::.n n10::.n n11::.n n12::.n n13::.n n14::.l TTm (dfT l5 l0 0)::[])=some (0,[.n n7,.n n8,.n n9,.n n10,.n n11,.n n12,.n n13,.n n14,.l TTm (dfT l5 l0 64)]):=by
 rw[g4f]
 refine b0a (fun i=>(.k 0::.l TB l0::.n (i:Int)::.n n2::.n n3::.n n4::.l TB l5::.n n6::.n n7::.n n8::.n n9::.n n10::.n n11::.n n12::.n n13::.n n14::.l TTm (dfT l5 l0 i)::[])) (64) (0,[.n n7,.n n8,.n n9,.n n10,.n n11,.n n12,.n n13,.n n14,.l TTm (dfT l5 l0 64)]) (fun i hi=> ?_) ?_ FU (b1w (by omega))
 ·refine f4a _ _ _ _ _ _ _ _ _ _ _ _ _ _ _ _ (by omega) _ ?_
  unfold f4m
  have hcap:decide ((List.length (dfT l5 l0 i)+1)*16≤140737488355328)=true:=decide_eq_true (by have:=h4r l5 l0 i;omega)
  refine a0a (decide_eq_true (show(i:Int)<64 by omega)) ?_
  rw[w1 i (by omega)]
  cases hb:(byT l5 i==byT l0 i)with
  |true=>
   refine a0c (show(byT l5 i !=byT l0 i)=false by simp only[bne,hb];rfl) ?_
   have e:dfT l5 l0 (i+1)=dfT l5 l0 i:=by show dfT l5 l0 i++(bif byT l5 i==byT l0 i then[]else _)=_;rw[hb];simp
   rw[e];rfl
  |false=>
   refine a0a (show(byT l5 i !=byT l0 i)=true by simp only[bne,hb];rfl) (a0a hcap ?_)
   have e:dfT l5 l0 (i+1)=dfT l5 l0 i++([((i:Int),byT l0 i)]:List (Ty.den TTm)):=by show dfT l5 l0 i++(bif byT l5 i==byT l0 i then[]else _)=_;rw[hb];rfl
   rw[e];rfl
 ·refine f4a _ _ _ _ _ _ _ _ _ _ _ _ _ _ _ _ (by omega) _ ?_
  unfold f4m
  exact a0c (by simp) rfl
theorem s4m (n1:Int)(n2:Int)(n3:Int)(n4:Int)(n5:Int)(n6:Int)(n7:Int)(n8:Int)(l9:List (Ty.den TB))(n10:Int)(n11:Int)(n12:Int)(n13:Int)(n14:Int)(n15:Int)(n16:Int)(n17:Int)(l18:List (Ty.den TB))(n19:Int)(n20:Int)(n21:Int)(n22:Int)(l23:List (Ty.den TB))(n24:Int)(n25:Int)(n26:Int)(n27:Int)(n28:Int)(n29:Int)(n30:Int)(n31:Int)(n32:Int)(l33:List (Ty.den TB))(n34:Int)(n35:Int)(n36:Int)(n37:Int)(n38:Int):f4v (.k 0::.n (0:Int)::.n n1::.n n2::.n n3::.n n4::.n n5::.n n6::.n n7::.n n8::.l TB l9::.n n10::.n n11::.n n12::.n n13::.n n14::.n n15::.n n16::.n n17::.l TB l18::.n n19::.n n20::.n n21::.n n22::.l TB l23::.n n24::.n n25::.n n26::.n n27::.n n28::.n n29::.n n30::.n n31::.n n32::.l TB l33::.n n34::.n n35::.n n36::.n n37::.n n38::.l TTm (dfT l18 l23 0)::[])=some (0,[.n n1,.n n2,.n n3,.n n4,.n n5,.n n6,.n n7,.n n8,.l TB l9,.n n10,.n n11,.n n12,.n n13,.n n14,.n n25,.n n26,.n n27,.n n28,.n n29,.n n30,.n n31,.n n32,.l TB l33,.n n34,.n n35,.n n36,.n n37,.n n38,.l TTm (dfT l18 l23 64)]):=by
 rw[g4u]
 refine b0a (fun i=>(.k 0::.n (i:Int)::.n n1::.n n2::.n n3::.n n4::.n n5::.n n6::.n n7::.n n8::.l TB l9::.n n10::.n n11::.n n12::.n n13::.n n14::.n n15::.n n16::.n n17::.l TB l18::.n n19::.n n20::.n n21::.n n22::.l TB l23::.n n24::.n n25::.n n26::.n n27::.n n28::.n n29::.n n30::.n n31::.n n32::.l TB l33::.n n34::.n n35::.n n36::.n n37::.n n38::.l TTm (dfT l18 l23 i)::[])) (64) (0,[.n n1,.n n2,.n n3,.n n4,.n n5,.n n6,.n n7,.n n8,.l TB l9,.n n10,.n n11,.n n12,.n n13,.n n14,.n n25,.n n26,.n n27,.n n28,.n n29,.n n30,.n n31,.n n32,.l TB l33,.n n34,.n n35,.n n36,.n n37,.n n38,.l TTm (dfT l18 l23 64)]) (fun i hi=> ?_) ?_ FU (b1w (by omega))
 ·refine e4y _ _ _ _ _ _ _ _ _ _ _ _ _ _ _ _ _ _ _ _ _ _ _ _ _ _ _ _ _ _ _ _ _ _ _ _ _ _ _ _ (by omega) _ ?_
  unfold f4n
  have hcap:decide ((List.length (dfT l18 l23 i)+1)*16≤140737488355328)=true:=decide_eq_true (by have:=h4r l18 l23 i;omega)
  refine a0a (decide_eq_true (show(i:Int)<64 by omega)) ?_
  rw[w1 i (by omega)]
  cases hb:(byT l18 i==byT l23 i)with
  |true=>
   refine a0c (show(byT l18 i !=byT l23 i)=false by simp only[bne,hb];rfl) ?_
   have e:dfT l18 l23 (i+1)=dfT l18 l23 i:=by show dfT l18 l23 i++(bif byT l18 i==byT l23 i then[]else _)=_;rw[hb];simp
   rw[e];rfl
  |false=>
   refine a0a (show(byT l18 i !=byT l23 i)=true by simp only[bne,hb];rfl) (a0a hcap ?_)
   have e:dfT l18 l23 (i+1)=dfT l18 l23 i++([((i:Int),byT l23 i)]:List (Ty.den TTm)):=by show dfT l18 l23 i++(bif byT l18 i==byT l23 i then[]else _)=_;rw[hb];rfl
   rw[e];rfl
 ·refine e4y _ _ _ _ _ _ _ _ _ _ _ _ _ _ _ _ _ _ _ _ _ _ _ _ _ _ _ _ _ _ _ _ _ _ _ _ _ _ _ _ (by omega) _ ?_
  unfold f4n
  exact a0c (by simp) rfl
def r1 (l:LT)(i:Nat):Int:=tm_1 l (i:Int)
def h86 (l:LT)(i:Nat):Bool:=decide (r1 l i≤(if i=0 then -1 else r1 l (i-1)))||decide (r1 l i≥64)
def h87 (l:LT)(i:Nat):Bool:=decide (r1 l i<0)||(decide (r1 l i≥64)||(decide (0<i)&&decide (r1 l i≤r1 l (i-1))))
def f4g (l:LT):Bool:=(b0i (h86 l) l.length).isNone
theorem h4i {l:LT}:f4g l=true↔ ∀i,i<l.length→h86 l i=false:=by
 unfold f4g
 cases h:b0i (h86 l) l.length with
 |none=>simp only[Option.isNone_none,true_iff];exact b0r h
 |some k=>
  obtain⟨h1,h2,_⟩:=b0x h
  simp only[Option.isNone_some,Bool.false_eq_true,false_iff]
  intro hh;rw[hh k h1]at h2;cases h2
theorem i4h {l:LT}(h: ∀i,i<l.length→h86 l i=false): ∀i,i<l.length→0≤r1 l i∧r1 l i<64
 |0,hi=>by have:=h 0 hi;unfold h86 at this;simp at this;omega
 |i+1,hi=>by
  have:=h (i+1) hi
  have ih:=i4h h i (by omega)
  unfold h86 at this;simp at this;omega
theorem l4r {l:LT}:(∀i,i<l.length→h86 l i=false)↔ ∀i,i<l.length→h87 l i=false:=by
 constructor
 ·intro h i hi
  have h1:=i4h h i hi
  have h2:=h i hi
  unfold h86 at h2;unfold h87
  by_cases h0:i=0
  ·subst h0;simp;omega
  ·simp[h0]at h2⊢;omega
 ·intro h i hi
  have h2:=h i hi
  unfold h87 at h2;unfold h86
  by_cases h0:i=0
  ·subst h0;simp at h2⊢;omega
  ·simp[h0]at h2⊢
   have:=h2.2.2 (by omega)
   omega
theorem rise_87 (l:LT):(b0i (h87 l) l.length).isNone=f4g l:=by
 rw[Bool.eq_iff_iff,h4i,l4r]
 cases h:b0i (h87 l) l.length with
 |none=>simp only[Option.isNone_none,true_iff];exact b0r h
 |some k=>
  obtain⟨h1,h2,_⟩:=b0x h
  simp only[Option.isNone_some,Bool.false_eq_true,false_iff]
  intro hh;rw[hh k h1]at h2;cases h2
theorem e86 (l:LT)(hl:l.length≤1000):i4k [.l TTm l]=some (0,[.b (f4g l)]):=by
 have h1:g4a [.k 0,.n (-1:Int),.l TTm l,.n (l.length:Int),.n (0:Int)]=some (match b0i (h86 l) l.length with|some k=>(1,[.b false])|none=>(0,[])):=by
  rw[g4x]
  refine f0f (fun i=>[.k 0,.n (if i=0 then -1 else r1 l (i-1)),.l TTm l,.n (l.length:Int),.n (i:Int)]) l.length (h86 l) (fun _=>(1,[.b false])) (0,[]) (fun i hi hh=> ?_) (fun i hi hh=> ?_) ?_ FU (b1w (by omega))
  ·refine e4g _ _ _ _ (by omega) rfl _ ?_
   unfold e4n
   unfold h86 at hh
   rw[Bool.or_eq_false_iff]at hh
   refine a0a (decide_eq_true (show(i:Int)<(l.length:Int) by omega)) (a0c hh.1 (a0c hh.2 ?_))
   rw[w1 i (by omega)];rfl
  ·refine e4g _ _ _ _ (by omega) rfl _ ?_
   unfold e4n
   unfold h86 at hh
   refine a0a (decide_eq_true (show(i:Int)<(l.length:Int) by omega)) ?_
   cases hc:decide (r1 l i≤(if i=0 then -1 else r1 l (i-1)))with
   |true=>exact a0a hc rfl
   |false=>rw[hc,Bool.false_or]at hh;exact a0c hc (a0a hh rfl)
  ·refine e4g _ _ _ _ (by omega) rfl _ ?_
   unfold e4n
   exact a0c (decide_eq_false (show¬((l.length:Nat):Int)<(l.length:Int) by omega)) rfl
 rw[j4g]
 refine k4y _ _ ?_
 unfold o4i
 dsimp only
 erw[h1]
 unfold f4g
 cases b0i (h86 l) l.length with
 |none=>exact a0a rfl rfl
 |some k=>exact a0c rfl (a0a rfl rfl)
theorem e87 (l:LT)(hl:l.length≤1000):i4c [.l TTm l]=some (0,[.b (f4g l)]):=by
 have h1:g4c [.k 0,.l TTm l,.n (0:Int)]=some (match b0i (h87 l) l.length with|some k=>(1,[.b false])|none=>(0,[])):=by
  rw[g4g]
  have prev: ∀i:Nat,0<i→i<1001→tm_1 l (IntKind.wrap .i64 ((i:Int)-1))=r1 l (i-1):=fun i h0 h2=>by
   rw[w64x (by omega) (by omega)];unfold r1;congr 1;omega
  have inr: ∀i:Nat,0<i→i<l.length→inR (IntKind.wrap .i64 ((i:Int)-1)) (List.length l)=true:=fun i h0 h2=>by
   rw[w64x (by omega) (by omega)];unfold inR
   rw[decide_eq_true (show(0:Int)≤(i:Int)-1 by omega),decide_eq_true (show(i:Int)-1<((List.length l:Nat):Int) by omega)];rfl
  refine f0f (fun i=>[.k 0,.l TTm l,.n (i:Int)]) l.length (h87 l) (fun _=>(1,[.b false])) (0,[]) (fun i hi hh=> ?_) (fun i hi hh=> ?_) ?_ FU (b1w (by omega))
  ·refine e4f _ _ (by omega) _ ?_
   unfold e4l
   unfold h87 at hh
   rw[Bool.or_eq_false_iff,Bool.or_eq_false_iff]at hh
   refine a0a (decide_eq_true (show(i:Int)<(l.length:Int) by omega)) (a0c hh.1 (a0c hh.2.1 ?_))
   rw[w1 i (by omega)]
   by_cases h0:0<i
   ·rw[prev i h0 (by omega)]
    refine a0a (decide_eq_true (by omega)) (a0a (inr i h0 hi) (a0c ?_ rfl))
    have:=hh.2.2
    rw[decide_eq_true h0,Bool.true_and]at this;exact this
   ·exact a0c (decide_eq_false (by omega)) rfl
  ·refine e4f _ _ (by omega) _ ?_
   unfold e4l
   unfold h87 at hh
   refine a0a (decide_eq_true (show(i:Int)<(l.length:Int) by omega)) ?_
   cases hc:decide (r1 l i<0)with
   |true=>exact a0a hc rfl
   |false=>
    refine a0c hc ?_
    rw[hc,Bool.false_or]at hh
    cases hd:decide (r1 l i≥64)with
    |true=>exact a0a hd rfl
    |false=>
     refine a0c hd ?_
     rw[hd,Bool.false_or,Bool.and_eq_true]at hh
     have h0:0<i:=of_decide_eq_true hh.1
     rw[prev i h0 (by omega)]
     exact a0a (decide_eq_true (by omega)) (a0a (inr i h0 hi) (a0a hh.2 rfl))
  ·refine e4f _ _ (by omega) _ ?_
   unfold e4l
   exact a0c (decide_eq_false (show¬((l.length:Nat):Int)<(l.length:Int) by omega)) rfl
 rw[j4v]
 refine l4i _ _ ?_
 unfold m4l
 dsimp only
 erw[h1]
 rw[←rise_87]
 cases b0i (h87 l) l.length with
 |none=>exact a0a rfl rfl
 |some k=>exact a0c rfl (a0a rfl rfl)
def paN (a:L8)(l:LT):Nat→L8
 |0=>a
 |i+1=>List.set (paN a l i) (Int.toNat (tm_1 l (i:Int))) (tm_2 l (i:Int))
theorem inR64 {l:LT}(h: ∀i,i<l.length→h86 l i=false){i:Nat}(hi:i<l.length):inR (tm_1 l (i:Int)) 64=true:=by
 have:=i4h h i hi
 unfold inR
 rw[decide_eq_true (show 0≤tm_1 l (i:Int)from this.1),decide_eq_true (show tm_1 l (i:Int)<((64:Nat):Int)from this.2)];rfl
theorem p4u (l0:List (Ty.den TTm))(n1:Int)(n3:Int)(n4:Int)(n5:Int)(n7:Int)(n8:Int)(n9:Int)(n10:Int)(l11:List (Ty.den TB))(n12:Int)(a:L8)(hl:l0.length≤1000)(hn:n1=(l0.length:Int))(hr: ∀i,i<l0.length→h86 l0 i=false):f4w (.k 0::.l TTm l0::.n n1::.n (0:Int)::.n n3::.n n4::.n n5::.l TB (paN a l0 0)::.n n7::.n n8::.n n9::.n n10::.l TB l11::.n n12::[])=some (0,[.n n3,.n n4,.n n5,.l TB (paN a l0 l0.length),.n n7,.n n8,.n n9,.n n10,.l TB l11,.n n12]):=by
 rw[g4p]
 refine b0a (fun i=>(.k 0::.l TTm l0::.n n1::.n (i:Int)::.n n3::.n n4::.n n5::.l TB (paN a l0 i)::.n n7::.n n8::.n n9::.n n10::.l TB l11::.n n12::[])) (l0.length) (0,[.n n3,.n n4,.n n5,.l TB (paN a l0 l0.length),.n n7,.n n8,.n n9,.n n10,.l TB l11,.n n12]) (fun i hi=> ?_) ?_ FU (b1w (by omega))
 ·refine f4d _ _ _ _ _ _ _ _ _ _ _ _ _ (by omega) hn _ ?_
  unfold f4h
  refine a0a (decide_eq_true (show(i:Int)<n1 by omega)) (a0a (inR64 hr hi) ?_)
  rw[w1 i (by omega)];rfl
 ·refine f4d _ _ _ _ _ _ _ _ _ _ _ _ _ (by omega) hn _ ?_
  unfold f4h
  exact a0c (decide_eq_false (by omega)) rfl
theorem s4f (n1:Int)(n2:Int)(n3:Int)(n5:Int)(n6:Int)(n7:Int)(n8:Int)(n9:Int)(n10:Int)(n11:Int)(n12:Int)(n13:Int)(l14:List (Ty.den TB))(n15:Int)(n16:Int)(n17:Int)(n18:Int)(n19:Int)(l20:List (Ty.den TTm))(n21:Int)(n22:Int)(n23:Int)(l24:List (Ty.den TB))(n25:Int)(a:L8)(hl:l20.length≤1000)(hr: ∀i,i<l20.length→h86 l20 i=false):g4b (.k 0::.n (0:Int)::.n n1::.n n2::.n n3::.l TB (paN a l20 0)::.n n5::.n n6::.n n7::.n n8::.n n9::.n n10::.n n11::.n n12::.n n13::.l TB l14::.n n15::.n n16::.n n17::.n n18::.n n19::.l TTm l20::.n n21::.n n22::.n n23::.l TB l24::.n n25::[])=some (0,[.n n1,.n n2,.n n3,.l TB (paN a l20 l20.length),.n n5,.n n21,.n n22,.n n23,.l TB l24,.n n25]):=by
 rw[g4r]
 refine b0a (fun i=>(.k 0::.n (i:Int)::.n n1::.n n2::.n n3::.l TB (paN a l20 i)::.n n5::.n n6::.n n7::.n n8::.n n9::.n n10::.n n11::.n n12::.n n13::.l TB l14::.n n15::.n n16::.n n17::.n n18::.n n19::.l TTm l20::.n n21::.n n22::.n n23::.l TB l24::.n n25::[])) (l20.length) (0,[.n n1,.n n2,.n n3,.l TB (paN a l20 l20.length),.n n5,.n n21,.n n22,.n n23,.l TB l24,.n n25]) (fun i hi=> ?_) ?_ FU (b1w (by omega))
 ·refine f4b _ _ _ _ _ _ _ _ _ _ _ _ _ _ _ _ _ _ _ _ _ _ _ _ _ _ (by omega) _ ?_
  unfold f4j
  refine a0a (decide_eq_true (show(i:Int)<(l20.length:Int) by omega)) (a0a (inR64 hr hi) ?_)
  rw[w1 i (by omega)];rfl
 ·refine f4b _ _ _ _ _ _ _ _ _ _ _ _ _ _ _ _ _ _ _ _ _ _ _ _ _ _ (by omega) _ ?_
  unfold f4j
  exact a0c (decide_eq_false (show¬((l20.length:Nat):Int)<(l20.length:Int) by omega)) rfl
theorem e21 (n0:Int)(n1:Int)(n2:Int)(l3:L8)(n4:Int)(n5:Int)(n6:Int)(n7:Int)(l8:L8)(n9:Int):k4m [.n n0,.n n1,.n n2,.l TB l3,.n n4,.n n5,.n n6,.n n7,.l TB l8,.n n9]=some (0,[.n (ixor IntKind.u64 n0 n5),.n (ixor IntKind.u64 n1 n6),.n (ixor IntKind.u64 n2 n7),.n (ixor IntKind.u32 n4 n9),.l TTm (dfT l3 l8 64)]):=by
 rw[j4u]
 refine k4l _ _ _ _ _ _ _ _ _ _ _ ?_
 unfold m4w
 dsimp only
 erw[p4q l8 n0 n1 n2 l3 n4 (0:Int) (0:Int) (0:Int) (0:Int) (ixor IntKind.u64 n0 n5) (ixor IntKind.u64 n1 n6) (ixor IntKind.u64 n2 n7) (ixor IntKind.u32 n4 n9)]
 exact a0a rfl rfl
theorem e24 (n0:Int)(n1:Int)(n2:Int)(n3:Int)(n4:Int)(n5:Int)(n6:Int)(n7:Int)(l8:L8)(n9:Int)(n10:Int)(n11:Int)(n12:Int)(n13:Int)(l14:LT)(hl:l14.length≤1000):e4h [.n n0,.n n1,.n n2,.n n3,.n n4,.n n5,.n n6,.n n7,.l TB l8,.n n9,.n n10,.n n11,.n n12,.n n13,.l TTm l14]=some (0,[.n n0,.n n1,.n n2,.n n3,.n n4,.n n5,.n n6,.n n7,.l TB l8,.n n9,.n n10,.n n11,.n n12,.n n13,.l TTm l14]):=by
 rw[i4u]
 refine k4i _ _ _ _ _ _ _ _ _ _ _ _ _ _ _ _ ?_
 unfold n4x
 dsimp only
 erw[s4v n0 n1 n2 n3 n4 n5 n6 n7 l8 n9 n10 n11 n12 n13 l14 (0:Int) (0:Int) (0:Int) (0:Int) (0:Int) (0:Int) (0:Int) (0:Int) (List.replicate 64 (0:Int)) (0:Int) (0:Int) (0:Int) (0:Int) (0:Int) n0 n1 n2 n3 n4 n5 n6 n7 l8 n9 n10 n11 n12 n13 hl]
 refine a0a rfl ?_
 show some (0,[_,_,_,_,_,_,_,_,_,_,_,_,_,_,Dat.l TTm (List.take l14.length l14)])=_
 rw[List.take_length];rfl
theorem e26 (n0:Int)(n1:Int)(n2:Int)(n3:Int)(n4:Int)(n5:Int)(n6:Int)(n7:Int)(l8:L8)(n9:Int)(n10:Int)(n11:Int)(n12:Int)(n13:Int)(n14:Int)(n15:Int)(n16:Int)(l17:L8)(n18:Int)(n19:Int)(n20:Int)(n21:Int)(l22:L8)(n23:Int):g2g [.n n0,.n n1,.n n2,.n n3,.n n4,.n n5,.n n6,.n n7,.l TB l8,.n n9,.n n10,.n n11,.n n12,.n n13,.n n14,.n n15,.n n16,.l TB l17,.n n18,.n n19,.n n20,.n n21,.l TB l22,.n n23]=some (0,[.n n0,.n n1,.n n2,.n n3,.n n4,.n n5,.n n6,.n n7,.l TB l8,.n n9,.n (ixor IntKind.u64 n14 n19),.n (ixor IntKind.u64 n15 n20),.n (ixor IntKind.u64 n16 n21),.n (ixor IntKind.u32 n18 n23),.l TTm (dfT l17 l22 64)]):=by
 rw[v1e]
 refine e2b _ _ _ _ _ _ _ _ _ _ _ _ _ _ _ _ _ _ _ _ _ _ _ _ _ ?_
 unfold h2t
 dsimp only
 erw[s4m n0 n1 n2 n3 n4 n5 n6 n7 l8 n9 (ixor IntKind.u64 n14 n19) (ixor IntKind.u64 n15 n20) (ixor IntKind.u64 n16 n21) (ixor IntKind.u32 n18 n23) n14 n15 n16 l17 n18 n19 n20 n21 l22 n23 (0:Int) (0:Int) (0:Int) (0:Int) (0:Int) (0:Int) (0:Int) (0:Int) (List.replicate 64 (0:Int)) (0:Int) (0:Int) (0:Int) (0:Int) (0:Int)]
 exact a0a rfl rfl
theorem e22 (n0:Int)(n1:Int)(n2:Int)(l3:L8)(n4:Int)(n5:Int)(n6:Int)(n7:Int)(n8:Int)(l9:LT)(hl:l9.length≤1000):i4j [.n n0,.n n1,.n n2,.l TB l3,.n n4,.n n5,.n n6,.n n7,.n n8,.l TTm l9]=some (0,bif f4g l9 then[.n (ixor IntKind.u64 n0 n5),.n (ixor IntKind.u64 n1 n6),.n (ixor IntKind.u64 n2 n7),.l TB (paN l3 l9 l9.length),.n (ixor IntKind.u32 n4 n8),.n (0:Int)]else[.n (0:Int),.n (0:Int),.n (0:Int),.l TB (List.replicate 64 (0:Int)),.n (0:Int),.n (2:Int)]):=by
 rw[i4t]
 refine l4d _ _ _ _ _ _ _ _ _ _ _ ?_
 unfold m4o
 dsimp only
 rw[e86 _ hl]
 refine a0a rfl ?_
 cases hr:f4g l9 with
 |false=>exact a0a rfl rfl
 |true=>
  refine a0c rfl ?_
  erw[p4u l9 (↑(List.length l9):Int) (ixor IntKind.u64 n0 n5) (ixor IntKind.u64 n1 n6) (ixor IntKind.u64 n2 n7) (ixor IntKind.u32 n4 n8) (0:Int) (0:Int) (0:Int) (List.replicate 64 (0:Int)) (0:Int) l3 hl rfl (h4i.1 hr)]
  exact a0a rfl rfl
theorem e23 (n0:Int)(n1:Int)(n2:Int)(l3:L8)(n4:Int)(n5:Int)(n6:Int)(n7:Int)(n8:Int)(n9:Int)(n10:Int)(n11:Int)(n12:Int)(l13:L8)(n14:Int)(n15:Int)(n16:Int)(n17:Int)(n18:Int)(l19:LT)(hl:l19.length≤1000):i4l [.n n0,.n n1,.n n2,.l TB l3,.n n4,.n n5,.n n6,.n n7,.n n8,.n n9,.n n10,.n n11,.n n12,.l TB l13,.n n14,.n n15,.n n16,.n n17,.n n18,.l TTm l19]=some (0,bif f4g l19 then[.n (ixor IntKind.u64 n0 n15),.n (ixor IntKind.u64 n1 n16),.n (ixor IntKind.u64 n2 n17),.l TB (paN l3 l19 l19.length),.n (ixor IntKind.u32 n4 n18),.n (0:Int)]else[.n (0:Int),.n (0:Int),.n (0:Int),.l TB (List.replicate 64 (0:Int)),.n (0:Int),.n (2:Int)]):=by
 rw[j4r]
 refine k4h _ _ _ _ _ _ _ _ _ _ _ _ _ _ _ _ _ _ _ _ _ ?_
 unfold n4o
 dsimp only
 rw[e87 _ hl]
 refine a0a rfl ?_
 cases hr:f4g l19 with
 |false=>exact a0a rfl rfl
 |true=>
  refine a0c rfl ?_
  erw[s4f (ixor IntKind.u64 n0 n15) (ixor IntKind.u64 n1 n16) (ixor IntKind.u64 n2 n17) (ixor IntKind.u32 n4 n18) n5 n6 n7 n8 n9 n10 n11 n12 l13 n14 n15 n16 n17 n18 l19 (0:Int) (0:Int) (0:Int) (List.replicate 64 (0:Int)) (0:Int) l3 hl (h4i.1 hr)]
  exact a0a rfl rfl
theorem f4z (l:L8):eqL TB l l=true:=by
 induction l with
 |nil=>rfl
 |cons y l ih=>
  show(eqD TB y y&&eqL TB l l)=true
  rw[ih]
  rw[Bool.and_true]
  exact beq_self_eq_true (α:=Int) y
theorem st_self (a b c d:Int)(l:L8):(a==a&&(b==b&&(c==c&&(eqL TB l l&&(d==d&&true)))))=true:=by rw[f4z];simp
theorem e25 (n0:Int)(n1:Int)(n2:Int)(n3:Int)(n4:Int)(n5:Int)(n6:Int)(n7:Int)(l8:L8)(n9:Int)(n10:Int)(n11:Int)(n12:Int)(n13:Int)(l14:LT)(hl:l14.length≤1000):e4u [.n n0,.n n1,.n n2,.n n3,.n n4,.n n5,.n n6,.n n7,.l TB l8,.n n9,.n n10,.n n11,.n n12,.n n13,.l TTm l14,.n n0,.n n1,.n n2,.n n3,.n n4,.n n5,.n n6,.n n7,.l TB l8,.n n9,.n n10,.n n11,.n n12,.n n13,.l TTm l14]=some (0,[.b true]):=by
 rw[j4o]
 refine l4f _ _ _ _ _ _ _ _ _ _ _ _ _ _ _ _ _ _ _ _ _ _ _ _ _ _ _ _ _ _ _ ?_
 unfold n4l
 dsimp only
 refine a0c (by simp) (a0c (by simp) (a0c (by simp) (a0c (by simp) (a0c (by simp) (a0c (by rw[st_self];rfl) (a0c (by simp) (a0c (by simp) (a0c (by simp) (a0c (by simp) (a0c (by simp) ?_))))))))))
 erw[o4v n0 n1 n2 n3 n4 n5 n6 n7 l8 n9 n10 n11 n12 n13 l14 n0 n1 n2 n3 n4 n5 n6 n7 l8 n9 n10 n11 n12 n13 l14 hl rfl]
 exact a0a rfl rfl
abbrev LG:=List (Ty.den TLog)
theorem w1n (i:Nat)(h:i<1000000000):IntKind.wrap .i64 ((i:Int)+1)=((i+1:Nat):Int):=by rw[w64s (by omega) (by omega)];rfl
def inB (x:Int):Bool:=decide (0≤x)&&decide (x≤1099511627776)
theorem d4x {x:Int}:inB x=true↔0≤x∧x≤1099511627776:=by unfold inB;rw[Bool.and_eq_true,decide_eq_true_eq,decide_eq_true_eq]
theorem eWi (l:List Int)(hl:l.length≤100):e4j [.l TI l]=some (0,[.b (l.all inB)]):=by
 have h1:h4t [.k 0,.l TI l,.n (l.length:Int),.n (0:Int)]=some (match b0i (fun i=> !inB (l.getD i 0)) l.length with|some k=>(1,[.b false])|none=>(0,[])):=by
  rw[l4j]
  refine f0f (fun i=>[.k 0,.l TI l,.n (l.length:Int),.n (i:Int)]) l.length (fun i=> !inB (l.getD i 0)) (fun _=>(1,[.b false])) (0,[]) (fun i hi hh=> ?_) (fun i hi hh=> ?_) ?_ FU (b1w (by omega))
  ·have h:inB (l.getD i 0)=true:=by simpa using hh
   obtain⟨a,b⟩:=d4x.1 h
   have:=k4j (l0:=l) (n1:=(l.length:Int)) (n2:=(i:Int)) (by omega) rfl (by omega) (show¬(l.getD i 0:Int)<0 by omega) (show¬(l.getD i 0:Int)>1099511627776 by omega)
   rw[w1n i (by omega)]at this;exact this
  ·have h: ¬(0≤l.getD i 0∧l.getD i 0≤1099511627776):=fun q=>by rw[d4x.2 q]at hh;cases hh
   by_cases a:l.getD i 0<0
   ·exact l4c (l0:=l) (by omega) rfl (by omega) a
   ·exact k4g (l0:=l) (by omega) rfl (by omega) a (show l.getD i 0>1099511627776 by omega)
  ·exact l4n (by omega) rfl (by omega)
 cases hq:b0i (fun i=> !inB (l.getD i 0)) l.length with
 |none=>
  rw[hq]at h1
  have e:l.all inB=true:=List.all_eq_true.2 fun x hx=>by
   obtain⟨i,hi,rfl⟩:=List.getElem_of_mem hx
   have:=b0r hq i hi
   simpa [List.getD_eq_getElem?_getD,List.getElem?_eq_getElem hi]using this
  rw[e];exact p4o h1
 |some k=>
  rw[hq]at h1
  obtain⟨a,b,_⟩:=b0x hq
  have e:l.all inB=false:=by
   rw[Bool.eq_false_iff]
   intro h
   have:=List.all_eq_true.1 h (l.getD k 0) (h0f a)
   simp only[this]at b;cases b
  rw[e];exact r4y h1
def odI (e c f d:Int):Int:=if e=f then(if c<d then -1 else if c>d then 1 else 0)else if e<f then -1 else 1
def lt2 (e c f d:Int):Prop:=e<f∨(e=f∧c<d)
theorem od_neg {e c f d:Int}:odI e c f d<0↔lt2 e c f d:=by unfold odI lt2;split<;>split<;>(try split)<;>omega
theorem od_pos {e c f d:Int}: ¬odI e c f d≤0↔lt2 f d e c:=by unfold odI lt2;split<;>split<;>(try split)<;>omega
theorem m4r {e c f d:Int}:odI e c f d=0↔e=f∧c=d:=by unfold odI;split<;>split<;>(try split)<;>omega
theorem g4s {a b c d e f:Int}(h:lt2 a b c d)(k:lt2 c d e f):lt2 a b e f:=by unfold lt2 at*;omega
theorem h4l {a b:Int}: ¬lt2 a b a b:=by unfold lt2;omega
section
variable (n0 n1 n2 n3 n4 n6 n7 n8 n9 n10 n11 n13:Int) (l5 l12:L8)
theorem eOd:d4y [.n n0,.n n1,.n n2,.n n3,.n n4,.l TB l5,.n n6,.n n7,.n n8,.n n9,.n n10,.n n11,.l TB l12,.n n13]=some (0,[.n (odI n0 n1 n7 n8)]):=by
 unfold odI
 by_cases h:n0=n7
 ·rw[if_pos h]
  by_cases h1:n1<n8
  ·rw[if_pos h1];exact q4t h h1
  ·rw[if_neg h1]
   by_cases h2:n1>n8
   ·rw[if_pos h2];exact s4o h h1 h2
   ·rw[if_neg h2];exact o4s h h1 h2
 ·rw[if_neg h]
  by_cases h1:n0<n7
  ·rw[if_pos h1];exact t4g h h1
  ·rw[if_neg h1];exact r4d h h1
theorem eLa:e4i [.n n0,.n n1,.n n2,.n n3,.n n4,.l TB l5,.n n6,.n n7,.n n8,.n n9,.n n10,.n n11,.l TB l12,.n n13]=some (0,[.b (decide (¬odI n0 n1 n7 n8≤0))]):=by
 rw[show decide (¬odI n0 n1 n7 n8≤0)=decide (n7<n0∨(n7=n0∧n8<n1))from decide_eq_decide.2 od_pos]
 by_cases h:n0>n7
 ·rw[dt (show n7<n0∨(n7=n0∧n8<n1) by omega)];exact p4i h
 ·by_cases h1:n0=n7
  ·rw[show decide (n7<n0∨(n7=n0∧n8<n1))=decide (n1>n8)from decide_eq_decide.2 (by omega)];exact t4i h h1
  ·rw[df (show¬(n7<n0∨(n7=n0∧n8<n1)) by omega)];exact t4e h h1
end
structure Ms where
 k:Int
 e:Int
 c:Int
 be:Int
 bb:Int
 u5:Int
 u6:Int
 u7:Int
 l:L8
 v9:Int
 v10:Int
 v11:Int
 v12:Int
 v13:Int
structure Rc where
 e:Int
 c:Int
 a:Int
 b:Int
 d:Int
 t:L8
 u:Int
 h:Bool
def mayB (m:Ms)(tm:LT):Bool:=decide (1≤m.k∧m.k≤4∧0≤m.e∧m.e≤1099511627776∧0≤m.c∧m.c≤1099511627776∧0≤m.be∧m.be≤1099511627776∧0≤m.bb∧m.bb≤1099511627776)&&f4g tm
theorem g4e {m:Ms}{tm:LT}:mayB m tm=true↔(1≤m.k∧m.k≤4∧0≤m.e∧m.e≤1099511627776∧0≤m.c∧m.c≤1099511627776∧0≤m.be∧m.be≤1099511627776∧0≤m.bb∧m.bb≤1099511627776)∧f4g tm=true:=by
 unfold mayB;rw[Bool.and_eq_true,decide_eq_true_eq]
theorem e4c {m:Ms}{tm:LT}(h: ¬(1≤m.k∧m.k≤4∧0≤m.e∧m.e≤1099511627776∧0≤m.c∧m.c≤1099511627776∧0≤m.be∧m.be≤1099511627776∧0≤m.bb∧m.bb≤1099511627776)):mayB m tm=false:=by
 rw[Bool.eq_false_iff];exact fun q=>h (g4e.1 q).1
theorem o4k {m:Ms}{tm:LT}(h:1≤m.k∧m.k≤4∧0≤m.e∧m.e≤1099511627776∧0≤m.c∧m.c≤1099511627776∧0≤m.be∧m.be≤1099511627776∧0≤m.bb∧m.bb≤1099511627776):mayB m tm=f4g tm:=
 Bool.eq_iff_iff.2 ⟨fun q=>(g4e.1 q).2,fun q=>g4e.2 ⟨h,q⟩⟩
theorem eMa (m:Ms)(tm:LT)(ht:tm.length≤1000):d4w [.n m.k,.n m.e,.n m.c,.n m.be,.n m.bb,.n m.u5,.n m.u6,.n m.u7,.l TB m.l,.n m.v9,.n m.v10,.n m.v11,.n m.v12,.n m.v13,.l TTm tm]=some (0,[.b (mayB m tm)]):=by
 have e:=eWi [m.e,m.c,m.be,m.bb] (by simp)
 by_cases h0:m.k≥1
 ·by_cases h1:m.k≤4
  ·cases hq:[m.e,m.c,m.be,m.bb].all inB with
   |true=>
    rw[hq]at e
    have hx: ∀x∈[m.e,m.c,m.be,m.bb],inB x=true:=List.all_eq_true.1 hq
    have a1:=d4x.1 (hx m.e (by simp))
    have a2:=d4x.1 (hx m.c (by simp))
    have a3:=d4x.1 (hx m.be (by simp))
    have a4:=d4x.1 (hx m.bb (by simp))
    rw[o4k (by omega)]
    exact q4n h0 h1 e rfl (e86 tm ht)
   |false=>
    rw[hq]at e
    rw[e4c fun q=> ?_]
    ·exact s4x h0 h1 e rfl
    ·have:[m.e,m.c,m.be,m.bb].all inB=true:=by
      simp only[List.all_cons,List.all_nil,Bool.and_true,Bool.and_eq_true,d4x];omega
     rw[hq]at this;cases this
  ·rw[e4c (by omega)];exact s4j h0 h1
 ·rw[e4c (by omega)];exact r4j h0
theorem eMr (m:Ms)(tm:LT)(ht:tm.length≤1000):d4v [.n m.k,.n m.e,.n m.c,.n m.be,.n m.bb,.n m.u5,.n m.u6,.n m.u7,.l TB m.l,.n m.v9,.n m.v10,.n m.v11,.n m.v12,.n m.v13,.l TTm tm]=some (0,[.b (mayB m tm)]):=by
 by_cases h0:m.k≥1
 ·by_cases h1:m.k≤4
  ·by_cases a1:m.e≥0
   ·by_cases b1:m.e≤1099511627776
    ·by_cases a2:m.c≥0
     ·by_cases b2:m.c≤1099511627776
      ·by_cases a3:m.be≥0
       ·by_cases b3:m.be≤1099511627776
        ·by_cases a4:m.bb≥0
         ·by_cases b4:m.bb≤1099511627776
          ·rw[o4k (by omega)];exact p4t h0 h1 a1 b1 a2 b2 a3 b3 a4 b4 (e87 tm ht)
          ·rw[e4c (by omega)];exact q4u h0 h1 a1 b1 a2 b2 a3 b3 a4 b4
         ·rw[e4c (by omega)];exact r4i h0 h1 a1 b1 a2 b2 a3 b3 a4
        ·rw[e4c (by omega)];exact q4o h0 h1 a1 b1 a2 b2 a3 b3
       ·rw[e4c (by omega)];exact q4s h0 h1 a1 b1 a2 b2 a3
      ·rw[e4c (by omega)];exact q4b h0 h1 a1 b1 a2 b2
     ·rw[e4c (by omega)];exact r4v h0 h1 a1 b1 a2
    ·rw[e4c (by omega)];exact o4z h0 h1 a1 b1
   ·rw[e4c (by omega)];exact t4h h0 h1 a1
  ·rw[e4c (by omega)];exact s4h h0 h1
 ·rw[e4c (by omega)];exact n4s h0
abbrev z64:L8:=List.replicate 64 (0:Int)
def zM:Ms:=⟨0,0,0,0,0,0,0,0,z64,0,0,0,0,0⟩
def aM (e c:Int):Ms:=⟨3,e,c,0,0,0,0,0,z64,0,0,0,0,0⟩
def fM:Ms:=⟨4,0,0,0,0,0,0,0,z64,0,0,0,0,0⟩
theorem t4b (m:Ms)(tm:LT)(ht:tm.length≤1000)(r:Rc): ∃(a:Ms) (ok:Bool) (er:Int) (r':Rc),e4w [.n m.k,.n m.e,.n m.c,.n m.be,.n m.bb,.n m.u5,.n m.u6,.n m.u7,.l TB m.l,.n m.v9,.n m.v10,.n m.v11,.n m.v12,.n m.v13,.l TTm tm,.n r.e,.n r.c,.n r.a,.n r.b,.n r.d,.l TB r.t,.n r.u,.b r.h]=some (0,[.n a.k,.n a.e,.n a.c,.n a.be,.n a.bb,.n a.u5,.n a.u6,.n a.u7,.l TB a.l,.n a.v9,.n a.v10,.n a.v11,.n a.v12,.n a.v13,.b ok,.n er,.n r'.e,.n r'.c,.n r'.a,.n r'.b,.n r'.d,.l TB r'.t,.n r'.u,.b r'.h])∧
  e4b [.n m.k,.n m.e,.n m.c,.n m.be,.n m.bb,.n m.u5,.n m.u6,.n m.u7,.l TB m.l,.n m.v9,.n m.v10,.n m.v11,.n m.v12,.n m.v13,.n r.e,.n r.c,.n r.a,.n r.b,.n r.d,.l TB r.t,.n r.u,.b r.h,.l TTm tm]=some (0,[.n a.k,.n a.e,.n a.c,.n a.be,.n a.bb,.n a.u5,.n a.u6,.n a.u7,.l TB a.l,.n a.v9,.n a.v10,.n a.v11,.n a.v12,.n a.v13,.b ok,.n er,.n r'.e,.n r'.c,.n r'.a,.n r'.b,.n r'.d,.l TB r'.t,.n r'.u,.b r'.h,.l TTm tm])∧
  f4s [.n m.k,.n m.e,.n m.c,.n m.be,.n m.bb,.n m.u5,.n m.u6,.n m.u7,.l TB m.l,.n m.v9,.n m.v10,.n m.v11,.n m.v12,.n m.v13,.l TTm tm,.n r.e,.n r.c,.n r.a,.n r.b,.n r.d,.l TB r.t,.n r.u,.b r.h]=some (0,[.n a.k,.n a.e,.n a.c,.n a.be,.n a.bb,.n a.u5,.n a.u6,.n a.u7,.l TB a.l,.n a.v9,.n a.v10,.n a.v11,.n a.v12,.n a.v13,.b ok,.n er,.n r'.e,.n r'.c,.n r'.a,.n r'.b,.n r'.d,.l TB r'.t,.n r'.u,.b r'.h])∧
  e4a [.n m.k,.n m.e,.n m.c,.n m.be,.n m.bb,.n m.u5,.n m.u6,.n m.u7,.l TB m.l,.n m.v9,.n m.v10,.n m.v11,.n m.v12,.n m.v13,.n r.e,.n r.c,.n r.a,.n r.b,.n r.d,.l TB r.t,.n r.u,.b r.h,.l TTm tm]=some (0,[.n a.k,.n a.e,.n a.c,.n a.be,.n a.bb,.n a.u5,.n a.u6,.n a.u7,.l TB a.l,.n a.v9,.n a.v10,.n a.v11,.n a.v12,.n a.v13,.b ok,.n er,.n r'.e,.n r'.c,.n r'.a,.n r'.b,.n r'.d,.l TB r'.t,.n r'.u,.b r'.h,.l TTm tm]):=by
 have e1:=eMa m tm ht
 have e2:=eMr m tm ht
 cases hv:mayB m tm with
 |false=>
  rw[hv]at e1 e2
  exact⟨zM,false,2,r,r4k e1 rfl,n4m e1 rfl,r4x e2 rfl,o4e e2 rfl⟩
 |true=>
  rw[hv]at e1 e2
  obtain⟨hk,hr⟩:=g4e.1 hv
  have f1:=eOd m.e m.c m.u5 m.u6 m.u7 m.v9 r.e r.c r.a r.b r.d r.u m.l r.t
  have f2:=eLa m.e m.c m.u5 m.u6 m.u7 m.v9 r.e r.c r.a r.b r.d r.u m.l r.t
  have f3:=e22 r.a r.b r.d r.t r.u m.v10 m.v11 m.v12 m.v13 tm ht
  have f4:=e23 r.a r.b r.d r.t r.u m.k m.e m.c m.be m.bb m.u5 m.u6 m.u7 m.l m.v9 m.v10 m.v11 m.v12 m.v13 tm ht
  rw[hr,cond_true]at f3 f4
  by_cases k1:m.k=1
  ·have g1: ¬m.k>2:=by omega
   have g2: ¬m.k=2:=by omega
   cases hh:r.h with
   |true=>
    by_cases o:odI m.e m.c r.e r.c≤0
    ·rw[df (show¬ ¬odI m.e m.c r.e r.c≤0 by omega)]at f2
     refine⟨aM r.e r.c,false,0,r,?_⟩
     rw[hh]
     exact⟨q4f e1 rfl k1 rfl f1 o,l4s e1 rfl k1 rfl f1 o,j4w e2 rfl g1 rfl f2 rfl,h4z e2 rfl g1 rfl f2 rfl⟩
    ·rw[dt o]at f2
     exact⟨aM m.e m.c,true,0,⟨m.e,m.c,m.u5,m.u6,m.u7,m.l,m.v9,true⟩,s4a e1 rfl k1 rfl f1 o,o4r e1 rfl k1 rfl f1 o,p4c e2 rfl g1 rfl f2 rfl g2,m4z e2 rfl g1 rfl f2 rfl g2⟩
   |false=>
    exact⟨aM m.e m.c,true,0,⟨m.e,m.c,m.u5,m.u6,m.u7,m.l,m.v9,true⟩,t4d e1 rfl k1 rfl,o4q e1 rfl k1 rfl,r4q e2 rfl g1 rfl g2,m4n e2 rfl g1 rfl g2⟩
  ·by_cases k2:m.k=2
   ·have g1: ¬m.k>2:=by omega
    cases hh:r.h with
    |true=>
     by_cases o:odI m.e m.c r.e r.c≤0
     ·rw[df (show¬ ¬odI m.e m.c r.e r.c≤0 by omega)]at f2
      refine⟨aM r.e r.c,false,0,r,?_⟩
      rw[hh]
      exact⟨p4l e1 rfl k1 k2 rfl f1 o,m4a e1 rfl k1 k2 rfl f1 o,j4w e2 rfl g1 rfl f2 rfl,h4z e2 rfl g1 rfl f2 rfl⟩
     ·rw[dt o]at f2
      by_cases b1:m.be=r.e
      ·by_cases b2:m.bb=r.c
       ·exact⟨aM m.e m.c,true,0,⟨m.e,m.c,_,_,_,_,_,true⟩,s4q e1 rfl k1 k2 rfl f1 o b1 b2 f3,m4b e1 rfl k1 k2 rfl f1 o b1 b2 f3,q4h e2 rfl g1 rfl f2 rfl k2 b1 b2 f4,n4j e2 rfl g1 rfl f2 rfl k2 b1 b2 f4⟩
       ·refine⟨fM,false,0,r,?_⟩
        rw[hh]
        exact⟨r4t e1 rfl k1 k2 rfl f1 o b1 b2,o4j e1 rfl k1 k2 rfl f1 o b1 b2,q4r e2 rfl g1 rfl f2 rfl k2 b1 b2,m4d e2 rfl g1 rfl f2 rfl k2 b1 b2⟩
      ·refine⟨fM,false,0,r,?_⟩
       rw[hh]
       exact⟨r4z e1 rfl k1 k2 rfl f1 o b1,o4o e1 rfl k1 k2 rfl f1 o b1,s4e e2 rfl g1 rfl f2 rfl k2 b1,l4y e2 rfl g1 rfl f2 rfl k2 b1⟩
    |false=>
     refine⟨fM,false,0,r,?_⟩
     rw[hh]
     exact⟨r4g e1 rfl k1 k2 rfl,n4c e1 rfl k1 k2 rfl,s4p e2 rfl g1 rfl k2,m4u e2 rfl g1 rfl k2⟩
   ·exact⟨zM,false,2,r,p4d e1 rfl k1 k2,o4n e1 rfl k1 k2,s4l e2 rfl (by omega),m4v e2 rfl (by omega)⟩
abbrev rE (R:LG)(i:Nat):Int:=Prod.fst (List.getD R i (Ty.dflt TLog))
abbrev rC (R:LG)(i:Nat):Int:=Prod.fst (Prod.snd (List.getD R i (Ty.dflt TLog)))
abbrev rA (R:LG)(i:Nat):Int:=Prod.fst (Prod.snd (Prod.snd (List.getD R i (Ty.dflt TLog))))
abbrev rB (R:LG)(i:Nat):Int:=Prod.fst (Prod.snd (Prod.snd (Prod.snd (List.getD R i (Ty.dflt TLog)))))
abbrev rD (R:LG)(i:Nat):Int:=Prod.fst (Prod.snd (Prod.snd (Prod.snd (Prod.snd (List.getD R i (Ty.dflt TLog))))))
abbrev rT (R:LG)(i:Nat):L8:=Prod.fst (Prod.snd (Prod.snd (Prod.snd (Prod.snd (Prod.snd (List.getD R i (Ty.dflt TLog)))))))
abbrev rU (R:LG)(i:Nat):Int:=Prod.snd (Prod.snd (Prod.snd (Prod.snd (Prod.snd (Prod.snd (List.getD R i (Ty.dflt TLog)))))))
structure InvR (R:LG)(b:Int):Prop where
 l8:R.length≤8
 b0:0≤b
 bl:b≤(R.length:Int)
 ris: ∀i j,i<j→j<R.length→lt2 (rE R i) (rC R i) (rE R j) (rC R j)
theorem h4w {α:Type}{l:List α}{x d:α}{i:Nat}(h:i<l.length):(l++[x]).getD i d=l.getD i d:=by
 rw[List.getD_eq_getElem?_getD,List.getD_eq_getElem?_getD,List.getElem?_append_left h]
theorem n4g {α:Type}{l:List α}{x d:α}:(l++[x]).getD l.length d=x:=by
 rw[List.getD_eq_getElem?_getD,List.getElem?_append_right (Nat.le_refl _)];simp
theorem h4e {α:Type}{l:List α}{d:α}{i:Nat}:(l.drop 1).getD i d=l.getD (i+1) d:=by
 rw[List.getD_eq_getElem?_getD,List.getD_eq_getElem?_getD,List.getElem?_drop,Nat.add_comm]
theorem i4y {α:Type}{l:List α}{x:α}:(l++[x]).length=l.length+1:=by simp
theorem h4n {a b c d a' b' c' d':Int}(h1:a=a')(h2:b=b')(h3:c=c')(h4:d=d')(h:lt2 a' b' c' d'):lt2 a b c d:=by subst h1 h2 h3 h4;exact h
theorem pE {x y:Ty.den TLog}(h:x=y):(Prod.fst x:Int)=Prod.fst y:=congrArg (fun(x:Ty.den TLog)=>(Prod.fst x:Int)) h
theorem pC {x y:Ty.den TLog}(h:x=y):(Prod.fst (Prod.snd x):Int)=Prod.fst (Prod.snd y):=congrArg (fun(x:Ty.den TLog)=>(Prod.fst (Prod.snd x):Int)) h
theorem o4d {R:LG}{x:Ty.den TLog}(h: ∀i j,i<j→j<R.length→lt2 (rE R i) (rC R i) (rE R j) (rC R j))(hx:0<R.length→lt2 (rE R (R.length-1)) (rC R (R.length-1)) (Prod.fst x) (Prod.fst (Prod.snd x))):
  ∀i j,i<j→j<List.length (apL R [x])→lt2 (rE (apL R [x]) i) (rC (apL R [x]) i) (rE (apL R [x]) j) (rC (apL R [x]) j):=by
 intro i j hij hj
 have hj':j<R.length+1:=by rw[←i4y (l:=R) (x:=x)];exact hj
 have ei:List.getD (apL R [x]) i (Ty.dflt TLog)=List.getD R i (Ty.dflt TLog):=h4w (by omega)
 by_cases q:j<R.length
 ·have ej:List.getD (apL R [x]) j (Ty.dflt TLog)=List.getD R j (Ty.dflt TLog):=h4w q
  exact h4n (pE ei) (pC ei) (pE ej) (pC ej) (h i j hij q)
 ·have:j=R.length:=by omega
  subst this
  have ej:List.getD (apL R [x]) R.length (Ty.dflt TLog)=x:=n4g
  have hl:=hx (by omega)
  refine h4n (pE ei) (pC ei) (pE ej) (pC ej) ?_
  by_cases p:i=R.length-1
  ·subst p;exact hl
  ·exact g4s (h i (R.length-1) (by omega) (by omega)) hl
theorem r4c {R:LG}(h: ∀i j,i<j→j<R.length→lt2 (rE R i) (rC R i) (rE R j) (rC R j)):
  ∀i j,i<j→j<List.length (List.drop 1 R)→lt2 (rE (List.drop 1 R) i) (rC (List.drop 1 R) i) (rE (List.drop 1 R) j) (rC (List.drop 1 R) j):=by
 intro i j hij hj
 have hj':j+1<R.length:=by have:=List.length_drop (i:=1) (l:=R);omega
 have ei:List.getD (List.drop 1 R) i (Ty.dflt TLog)=List.getD R (i+1) (Ty.dflt TLog):=h4e
 have ej:List.getD (List.drop 1 R) j (Ty.dflt TLog)=List.getD R (j+1) (Ty.dflt TLog):=h4e
 exact h4n (pE ei) (pC ei) (pE ej) (pC ej) (h (i+1) (j+1) (by omega) hj')
theorem lastI {R:LG}(h0:0<R.length)(h:R.length≤100):Int.toNat (IntKind.wrap .i64 ((R.length:Int)-(1:Int)))=R.length-1:=by
 rw[w64s (by omega) (by omega)];omega
theorem offer {R:LG}{b:Int}(hI:InvR R b)(n0 n1 n2 n3 n4 n6:Int)(l5:L8): ∃(er b':Int) (R':LG) (k:Nat),InvR R' b'∧(k=0∨k=1)∧
  f4r [.n n0,.n n1,.n n2,.n n3,.n n4,.l TB l5,.n n6,.n b,.l TLog R]=some (0,[.n er,.n b',.l TLog R'])∧
  f4f [.n n0,.n n1,.n n2,.n n3,.n n4,.l TB l5,.n n6,.n (b-1),.l TLog R]=some (k,[.n er,.n (b'-1),.l TLog R']):=by
 have hl:=hI.l8;have hb0:=hI.b0;have hbl:=hI.bl
 have e:=eWi [n0,n1] (by simp)
 have hl100:R.length≤100:=by omega
 cases hq:[n0,n1].all inB with
 |false=>
  rw[hq]at e
  refine⟨2,b,R,0,hI,.inl rfl,?_,?_⟩
  ·by_cases h0:(R.length:Int)=0
   ·exact r4n hl100 h0 e rfl
   ·exact q4k hl100 h0 e rfl
  ·by_cases a1:n0≥0
   ·by_cases b1:n0≤1099511627776
    ·by_cases a2:n1≥0
     ·by_cases b2:n1≤1099511627776
      ·have:[n0,n1].all inB=true:=by
        simp only[List.all_cons,List.all_nil,Bool.and_true,Bool.and_eq_true,d4x];omega
       rw[hq]at this;cases this
      ·exact p4s hl100 a1 b1 a2 b2
     ·exact t4a hl100 a1 b1 a2
    ·exact p4w hl100 a1 b1
   ·exact o4x hl100 a1
 |true=>
  rw[hq]at e
  have hx: ∀x∈[n0,n1],inB x=true:=List.all_eq_true.1 hq
  obtain⟨a1,b1⟩:=d4x.1 (hx n0 (by simp))
  obtain⟨a2,b2⟩:=d4x.1 (hx n1 (by simp))
  have hla:List.length (apL R [((n0,n1,n2,n3,n4,l5,n6):Ty.den TLog)])=R.length+1:=i4y
  by_cases h0:(R.length:Int)=0
  ·refine⟨0,b,apL R [(n0,n1,n2,n3,n4,l5,n6)],0,⟨by omega,hb0,by omega,o4d hI.ris (fun h=>by omega)⟩,.inl rfl,?_,?_⟩
   ·exact s4s hl100 h0 e rfl (by omega)
   ·exact r4s hl100 a1 b1 a2 b2 (by omega) (by omega)
  ·have hp:0<R.length:=by omega
   have li:=lastI hp hl100
   obtain⟨j,hj⟩: ∃j,j=Int.toNat (IntKind.wrap .i64 ((R.length:Int)-(1:Int))):=⟨_,rfl⟩
   have f1:=eOd n0 n1 n2 n3 n4 n6 (rE R j) (rC R j) (rA R j) (rB R j) (rD R j) (rU R j) l5 (rT R j)
   have f2:=eLa n0 n1 n2 n3 n4 n6 (rE R j) (rC R j) (rA R j) (rB R j) (rD R j) (rU R j) l5 (rT R j)
   have jl:j=R.length-1:=by rw[hj,li]
   by_cases o:odI n0 n1 (rE R j) (rC R j)≤0
   ·rw[df (show¬ ¬odI n0 n1 (rE R j) (rC R j)≤0 by omega)]at f2
    refine⟨2,b,R,0,hI,.inl rfl,?_,?_⟩
    ·subst hj;exact q4a hl100 h0 e rfl f1 o
    ·subst hj;exact q4j hl100 a1 b1 a2 b2 (by omega) f2 rfl
   ·rw[dt o]at f2
    have hr: ∀i j,i<j→j<List.length (apL R [((n0,n1,n2,n3,n4,l5,n6):Ty.den TLog)])→lt2 (rE (apL R [(n0,n1,n2,n3,n4,l5,n6)]) i) (rC (apL R [(n0,n1,n2,n3,n4,l5,n6)]) i) (rE (apL R [(n0,n1,n2,n3,n4,l5,n6)]) j) (rC (apL R [(n0,n1,n2,n3,n4,l5,n6)]) j):=
     o4d hI.ris (fun _=>by rw[←jl];exact od_pos.1 o)
    by_cases q:R.length+1≤8
    ·refine⟨0,b,apL R [(n0,n1,n2,n3,n4,l5,n6)],0,⟨by omega,hb0,by omega,hr⟩,.inl rfl,?_,?_⟩
     ·subst hj;exact r4p hl100 h0 e rfl f1 o (by omega)
     ·subst hj;exact s4z hl100 a1 b1 a2 b2 (by omega) f2 rfl (by omega)
    ·have w1:imax (IntKind.wrap .i64 (b-(1:Int))) (0:Int)=imax (b-1) 0:=by rw[w64s (by omega) (by omega)]
     have w2:imax (-1:Int) (IntKind.wrap .i64 (b-1-(1:Int)))=imax (b-1) 0-1:=by
      rw[w64s (by omega) (by omega)];unfold imax;split<;>split<;>omega
     have w3:0≤imax (b-1) 0∧imax (b-1) 0≤8:=by unfold imax;split<;>omega
     have hd:List.length (List.drop 1 (apL R [((n0,n1,n2,n3,n4,l5,n6):Ty.den TLog)]))=8:=by
      have:=List.length_drop (i:=1) (l:=apL R [((n0,n1,n2,n3,n4,l5,n6):Ty.den TLog)]);omega
     have ed:c4q [.n (0:Int),.n (1:Int),.l TLog (apL R [(n0,n1,n2,n3,n4,l5,n6)])]=some (0,[.l TLog (List.drop 1 (apL R [(n0,n1,n2,n3,n4,l5,n6)]))]):=by
      rw[b4y]
      exact d4a (by omega) (by omega) (by omega)
     have et:List.take (Int.toNat (List.length (apL R [((n0,n1,n2,n3,n4,l5,n6):Ty.den TLog)]):Int)-1) (List.drop 1 (apL R [((n0,n1,n2,n3,n4,l5,n6):Ty.den TLog)]))=List.drop 1 (apL R [((n0,n1,n2,n3,n4,l5,n6):Ty.den TLog)]):=
      List.take_of_length_le (by rw[hd];omega)
     refine⟨0,imax (b-1) 0,List.drop 1 (apL R [(n0,n1,n2,n3,n4,l5,n6)]),1,⟨by omega,w3.1,by omega,r4c hr⟩,.inr rfl,?_,?_⟩
     ·have:=o4w (n7:=b) hl100 h0 e rfl (by rw[←hj];exact f1) o (by omega) ed
      rw[w1]at this;exact this
     ·have:=p4m (n7:=b-1) (l8:=R) hl100 a1 b1 a2 b2 (by omega) (by rw[←hj];exact f2) rfl (by omega) (by rw[hla];simp;omega) (by rw[et,hd];omega)
      rw[w2,et]at this;exact this
theorem send {R:LG}{b:Int}(hI:InvR R b):(∃(m:Ms) (ok:Bool),f4p [.n b,.l TLog R]=some (0,[.n m.k,.n m.e,.n m.c,.n m.be,.n m.bb,.n m.u5,.n m.u6,.n m.u7,.l TB m.l,.n m.v9,.n m.v10,.n m.v11,.n m.v12,.n m.v13,.b ok,.n b,.l TLog R])∧f4q [.n (b-1),.l TLog R]=some (0,[.n m.k,.n m.e,.n m.c,.n m.be,.n m.bb,.n m.u5,.n m.u6,.n m.u7,.l TB m.l,.n m.v9,.n m.v10,.n m.v11,.n m.v12,.n m.v13,.b ok,.n (b-1),.l TLog R]))∨
  (∃(m:Ms) (ok:Bool) (tm:LT),tm.length≤1000∧f4p [.n b,.l TLog R]=some (1,[.n m.k,.n m.e,.n m.c,.n m.be,.n m.bb,.n m.u5,.n m.u6,.n m.u7,.l TB m.l,.n m.v9,.n m.v10,.n m.v11,.n m.v12,.n m.v13,.b ok,.n b,.l TLog R,.l TTm tm])∧f4q [.n (b-1),.l TLog R]=some (1,[.n m.k,.n m.e,.n m.c,.n m.be,.n m.bb,.n m.u5,.n m.u6,.n m.u7,.l TB m.l,.n m.v9,.n m.v10,.n m.v11,.n m.v12,.n m.v13,.b ok,.n (b-1),.l TLog R,.l TTm tm])):=by
 have hl:=hI.l8;have hb0:=hI.b0;have hbl:=hI.bl
 have hl100:R.length≤100:=by omega
 have wl:IntKind.wrap .i64 ((R.length:Int)-(1:Int))=(R.length:Int)-1:=w64s (by omega) (by omega)
 have wb:IntKind.wrap .i64 (b-(1:Int))=b-1:=w64s (by omega) (by omega)
 by_cases h0:(R.length:Int)=0
 ·exact .inl ⟨zM,false,r4h hb0 hbl hl100 h0,q4l (by omega) (by omega) hl100 h0⟩
 by_cases h1:b=(R.length:Int)
 ·exact .inl ⟨zM,false,q4m hb0 hbl hl100 h0 h1,s4g (by omega) (by omega) hl100 h0 (by rw[wl,h1])⟩
 have h1': ¬b-1=IntKind.wrap .i64 ((R.length:Int)-(1:Int)):=by rw[wl];omega
 obtain⟨j,hj⟩: ∃j,j=Int.toNat (IntKind.wrap .i64 ((R.length:Int)-(1:Int))):=⟨_,rfl⟩
 by_cases h2:b=0
 ·refine .inl ⟨⟨1,rE R j,rC R j,0,0,rA R j,rB R j,rD R j,rT R j,rU R j,0,0,0,0⟩,true,?_,?_⟩
  ·subst hj;exact p4h hb0 hbl hl100 h0 h1 h2
  ·subst hj;exact s4w (by omega) (by omega) hl100 h0 h1' (by omega)
 ·obtain⟨i,hi⟩: ∃i,i=Int.toNat (b-1):=⟨_,rfl⟩
  have f1:=e21 (rA R i) (rB R i) (rD R i) (rT R i) (rU R i) (rA R j) (rB R j) (rD R j) (rT R j) (rU R j)
  have f2:=e26 2 (rE R j) (rC R j) (rE R i) (rC R i) 0 0 0 z64 0 0 0 0 0 (rA R i) (rB R i) (rD R i) (rT R i) (rU R i) (rA R j) (rB R j) (rD R j) (rT R j) (rU R j)
  refine .inr ⟨⟨2,rE R j,rC R j,rE R i,rC R i,0,0,0,z64,0,ixor IntKind.u64 (rA R i) (rA R j),ixor IntKind.u64 (rB R i) (rB R j),ixor IntKind.u64 (rD R i) (rD R j),ixor IntKind.u32 (rU R i) (rU R j)⟩,true,dfT (rT R i) (rT R j) 64,?_,?_,?_⟩
  ·have:=h4r (rT R i) (rT R j) 64;omega
  ·subst hi;subst hj
   have:=s4d hb0 hbl hl100 h0 h1 h2 (by rw[wb];exact f1)
   rw[wb]at this;exact this
  ·subst hi;subst hj
   exact p4y (by omega) (by omega) hl100 h0 h1' (by omega) f2
theorem shr2 (x:Nat)(h:x≤1000):IntKind.wrap .i64 (ishr IntKind.u64 (IntKind.wrap .u64 (IntKind.wrap .i64 (x:Int))) (1:Int))=((x/2:Nat):Int):=by
 have e1:IntKind.wrap .i64 (x:Int)=x:=w64s (by omega) (by omega)
 have e2:IntKind.wrap .u64 (x:Int)=x:=by
  unfold IntKind.wrap
  simp[IntKind.bits,IntKind.signed]
  omega
 have e3:ishr IntKind.u64 (x:Int) (1:Int)=((x/2:Nat):Int):=by
  have:ishr IntKind.u64 (x:Int) (1:Int)=(x:Int).fdiv 2:=rfl
  rw[this,Int.fdiv_eq_ediv_of_nonneg _ (by omega)];omega
 rw[e1,e2,e3];exact w64s (by omega) (by omega)
def Bs (R:LG)(e c:Int)(lo hi:Nat):Prop:=(∀j,j<lo→lt2 (rE R j) (rC R j) e c)∧(∀j,hi≤j→j<R.length→ ¬lt2 (rE R j) (rC R j) e c)
theorem bsL {R:LG}(hR:R.length≤100)(hs: ∀i j,i<j→j<R.length→lt2 (rE R i) (rC R i) (rE R j) (rC R j))(e c a b d u:Int)(t:L8): ∀m lo hi:Nat,lo≤hi→hi≤R.length→hi-lo<m→Bs R e c lo hi→
  ∃i:Nat,i≤R.length∧Bs R e c i i∧a0b f4k m [.k 0,.l TLog R,.n (R.length:Int),.n (lo:Int),.n (hi:Int),.n e,.n c,.n a,.n b,.n d,.l TB t,.n u]=some (0,[.l TLog R,.n (R.length:Int),.n (i:Int),.n e,.n c,.n a,.n b,.n d,.l TB t,.n u]):=by
 intro m
 induction m with
 |zero=>intro lo hi _ _ hm;omega
 |succ m ih=>
  intro lo hi h1 h2 hm hB
  by_cases q:lo<hi
  ·have hw:IntKind.wrap .i64 (ishr IntKind.u64 (IntKind.wrap .u64 (IntKind.wrap .i64 ((lo:Int)+(hi:Int)))) (1:Int))=(((lo+hi)/2:Nat):Int):=by
    rw[show(lo:Int)+(hi:Int)=((lo+hi:Nat):Int) by omega];exact shr2 (lo+hi) (by omega)
   obtain⟨md,hmd⟩: ∃md,md=(lo+hi)/2:=⟨_,rfl⟩
   rw[←hmd]at hw
   obtain⟨j,hj⟩: ∃j,j=Int.toNat (IntKind.wrap .i64 (ishr IntKind.u64 (IntKind.wrap .u64 (IntKind.wrap .i64 ((lo:Int)+(hi:Int)))) (1:Int))):=⟨_,rfl⟩
   have jm:j=md:=by rw[hj,hw];rfl
   have f1:=eOd (rE R j) (rC R j) (rA R j) (rB R j) (rD R j) (rU R j) e c a b d u (rT R j) t
   have hin:inR (IntKind.wrap .i64 (ishr IntKind.u64 (IntKind.wrap .u64 (IntKind.wrap .i64 ((lo:Int)+(hi:Int)))) (1:Int))) (List.length R)=true:=by rw[hw];exact h1s (by omega) (by omega)
   by_cases o:odI (rE R j) (rC R j) e c<0
   ·have st:=l4m (l0:=R) (n1:=(R.length:Int)) (n2:=(lo:Int)) (n3:=(hi:Int)) (by omega) (by omega) rfl (by omega) (by omega) hin (by rw[←hj];exact f1) o
    rw[hw,w1n md (by omega)]at st
    obtain⟨i,k1,k2,k3⟩:=ih (md+1) hi (by omega) h2 (by omega) ⟨fun x hx=>by
     have hl:=od_neg.1 o
     rw[jm]at hl
     by_cases p:x=md
     ·subst p;exact hl
     ·exact g4s (hs x md (by omega) (by omega)) hl,hB.2⟩
    exact⟨i,k1,k2,(v0e st).trans k3⟩
   ·have st:=l4a (l0:=R) (n1:=(R.length:Int)) (n2:=(lo:Int)) (n3:=(hi:Int)) (by omega) (by omega) rfl (by omega) (by omega) hin (by rw[←hj];exact f1) o
    rw[hw]at st
    obtain⟨i,k1,k2,k3⟩:=ih lo md (by omega) (by omega) (by omega) ⟨hB.1,fun x hx hxl hc=>by
     refine o (od_neg.2 ?_)
     rw[jm]
     by_cases p:x=md
     ·subst p;exact hc
     ·exact g4s (hs md x (by omega) hxl) hc⟩
    exact⟨i,k1,k2,(v0e st).trans k3⟩
  ·have:lo=hi:=by omega
   subst this
   exact⟨lo,h2,hB,c0a (k4p (by omega) (by omega) rfl (by omega) (by omega))⟩
theorem eBs {R:LG}(hR:R.length≤100)(hs: ∀i j,i<j→j<R.length→lt2 (rE R i) (rC R i) (rE R j) (rC R j))(e c a b d u:Int)(t:L8): ∃(i:Nat) (f:Bool),k4v [.l TLog R,.n e,.n c,.n a,.n b,.n d,.l TB t,.n u]=some (0,[.n (i:Int),.b f])∧
  (f=true→i<R.length∧rE R i=e∧rC R i=c)∧(f=false→ ∀j,j<R.length→ ¬(rE R j=e∧rC R j=c)):=by
 obtain⟨i,h1,h2,h3⟩:=bsL hR hs e c a b d u t FU 0 R.length (by omega) (by omega) (b1w (by omega)) ⟨fun j hj=>by omega,fun j hj hl=>by omega⟩
 rw[←k4c]at h3
 by_cases q:i<R.length
 ·have f1:=eOd (rE R i) (rC R i) (rA R i) (rB R i) (rD R i) (rU R i) e c a b d u (rT R i) t
  refine⟨i,_,p4f h3 (by omega) (h1s (by omega) (by omega)) f1,fun hf=>⟨q,m4r.1 (eq_of_beq hf)⟩,fun hf j hj hc=> ?_⟩
  rcases Nat.lt_trichotomy j i with p|p|p
  ·have:=h2.1 j p
   rw[hc.1,hc.2]at this;exact h4l this
  ·subst p
   have:odI (rE R j) (rC R j) e c=0:=m4r.2 hc
   rw[this]at hf;cases hf
  ·have h4:=hs i j p hj
   rw[hc.1,hc.2]at h4
   exact h2.2 i (Nat.le_refl _) q h4
 ·refine⟨i,false,s4r h3 (by omega),(fun hf=>by cases hf),fun _ j hj hc=> ?_⟩
  have:=h2.1 j (by omega)
  rw[hc.1,hc.2]at this;exact h4l this
theorem o4m {st:List Dat→Tree Step}(s:Nat→Int→List Dat)(n:Nat)(hit:Nat→Prop)(y:Int→Nat×List Dat)
  (go1: ∀k cur,k<n→hit k→(k:Int)>cur→(st (s k cur)).sel=some (.go (s (k+1) k)))
  (go0: ∀k cur,k<n→ ¬(hit k∧(k:Int)>cur)→(st (s k cur)).sel=some (.go (s (k+1) cur)))
  (stop: ∀cur,(st (s n cur)).sel=some (.stop (y cur).1 (y cur).2)):
  ∀d k cur f,k+d=n→d<f→ ∃r,a0b st f (s k cur)=some (y r)∧((r=cur∧ ∀j,k≤j→j<n→hit j→(j:Int)≤cur)∨(∃j:Nat,k≤j∧j<n∧hit j∧r=j∧cur<r)):=by
 intro d
 induction d with
 |zero=>
  intro k cur f hk hf
  obtain⟨f,rfl⟩: ∃g,f=g+1:=⟨f-1,by omega⟩
  have:k=n:=by omega
  subst this
  exact⟨cur,c0a (stop cur),.inl ⟨rfl,fun j h1 h2=>by omega⟩⟩
 |succ d ih=>
  intro k cur f hk hf
  obtain⟨f,rfl⟩: ∃g,f=g+1:=⟨f-1,by omega⟩
  by_cases h:hit k∧(k:Int)>cur
  ·obtain⟨r,h1,h2⟩:=ih (k+1) k f (by omega) (by omega)
   refine⟨r,(v0e (go1 k cur (by omega) h.1 h.2)).trans h1,.inr ?_⟩
   rcases h2 with⟨h2,_⟩|⟨j,a,b,c,e,g⟩
   ·exact⟨k,Nat.le_refl _,by omega,h.1,h2,by omega⟩
   ·exact⟨j,by omega,b,c,e,by omega⟩
  ·obtain⟨r,h1,h2⟩:=ih (k+1) cur f (by omega) (by omega)
   refine⟨r,(v0e (go0 k cur (by omega) h)).trans h1,?_⟩
   rcases h2 with⟨h2,h3⟩|⟨j,a,b,c,e,g⟩
   ·refine .inl ⟨h2,fun j a b c=> ?_⟩
    by_cases p:j=k
    ·subst p;exact Int.not_lt.1 fun q=>h ⟨c,q⟩
    ·exact h3 j (by omega) b c
   ·exact .inr ⟨j,by omega,b,c,e,g⟩
abbrev hitR (R:LG)(e c:Int)(j:Nat):Prop:=rE R j=e∧rC R j=c
theorem eHr7 (R:LG)(hR:R.length≤100)(m:Ms)(tm:LT)(b:Int): ∃r,i4n [.k 0,.n (0:Int),.n b,.l TLog R,.n m.k,.n m.e,.n m.c,.n m.be,.n m.bb,.n m.u5,.n m.u6,.n m.u7,.l TB m.l,.n m.v9,.n m.v10,.n m.v11,.n m.v12,.n m.v13,.l TTm tm]=some (0,[.n r,.l TLog R])∧
  ((r=b∧ ∀j,0≤j→j<R.length→hitR R m.e m.c j→(j:Int)≤b)∨(∃j:Nat,0≤j∧j<R.length∧hitR R m.e m.c j∧r=j∧b<r)):=by
 rw[k4d]
 refine o4m (fun k cur=>[.k 0,.n (k:Int),.n cur,.l TLog R,.n m.k,.n m.e,.n m.c,.n m.be,.n m.bb,.n m.u5,.n m.u6,.n m.u7,.l TB m.l,.n m.v9,.n m.v10,.n m.v11,.n m.v12,.n m.v13,.l TTm tm]) R.length (hitR R m.e m.c) (fun r=>(0,[.n r,.l TLog R])) (fun k cur hk hh hc=> ?_) (fun k cur hk hn=> ?_) (fun cur=> ?_) R.length 0 b FU (by omega) (b1w (by omega))
 ·have:=k4k (l2:=R) (n0:=(k:Int)) (n1:=cur) (n3:=m.k) (n6:=m.be) (n7:=m.bb) (n8:=m.u5) (n9:=m.u6) (n10:=m.u7) (l11:=m.l) (n12:=m.v9) (n13:=m.v10) (n14:=m.v11) (n15:=m.v12) (n16:=m.v13) (l17:=tm) (by omega) (by omega) hc hh.1 hh.2
  rw[w1n k (by omega)]at this;exact this
 ·by_cases h1:(k:Int)>cur
  ·by_cases h2:rE R k=m.e
   ·have h3: ¬rC R k=m.c:=fun q=>hn ⟨⟨h2,q⟩,h1⟩
    have:=k4r (l2:=R) (n0:=(k:Int)) (n1:=cur) (n3:=m.k) (n6:=m.be) (n7:=m.bb) (n8:=m.u5) (n9:=m.u6) (n10:=m.u7) (l11:=m.l) (n12:=m.v9) (n13:=m.v10) (n14:=m.v11) (n15:=m.v12) (n16:=m.v13) (l17:=tm) (by omega) (by omega) h1 h2 h3
    rw[w1n k (by omega)]at this;exact this
   ·have:=l4h (l2:=R) (n0:=(k:Int)) (n1:=cur) (n3:=m.k) (n5:=m.c) (n6:=m.be) (n7:=m.bb) (n8:=m.u5) (n9:=m.u6) (n10:=m.u7) (l11:=m.l) (n12:=m.v9) (n13:=m.v10) (n14:=m.v11) (n15:=m.v12) (n16:=m.v13) (l17:=tm) (by omega) (by omega) h1 h2
    rw[w1n k (by omega)]at this;exact this
  ·have:=k4z (l2:=R) (n0:=(k:Int)) (n1:=cur) (n3:=m.k) (n4:=m.e) (n5:=m.c) (n6:=m.be) (n7:=m.bb) (n8:=m.u5) (n9:=m.u6) (n10:=m.u7) (l11:=m.l) (n12:=m.v9) (n13:=m.v10) (n14:=m.v11) (n15:=m.v12) (n16:=m.v13) (l17:=tm) (by omega) (by omega) h1
   rw[w1n k (by omega)]at this;exact this
 ·exact l4l (by omega) (by omega)
theorem eHro7 (R:LG)(hR:R.length≤100)(m:Ms)(tm:LT)(b:Int): ∃r,h4k [.k 0,.n (0:Int),.n b,.l TTm tm,.l TLog R,.n m.k,.n m.e,.n m.c,.n m.be,.n m.bb,.n m.u5,.n m.u6,.n m.u7,.l TB m.l,.n m.v9,.n m.v10,.n m.v11,.n m.v12,.n m.v13]=some (0,[.n r,.l TTm tm,.l TLog R])∧
  ((r=b∧ ∀j,0≤j→j<R.length→hitR R m.e m.c j→(j:Int)≤b)∨(∃j:Nat,0≤j∧j<R.length∧hitR R m.e m.c j∧r=j∧b<r)):=by
 rw[i4p]
 refine o4m (fun k cur=>[.k 0,.n (k:Int),.n cur,.l TTm tm,.l TLog R,.n m.k,.n m.e,.n m.c,.n m.be,.n m.bb,.n m.u5,.n m.u6,.n m.u7,.l TB m.l,.n m.v9,.n m.v10,.n m.v11,.n m.v12,.n m.v13]) R.length (hitR R m.e m.c) (fun r=>(0,[.n r,.l TTm tm,.l TLog R])) (fun k cur hk hh hc=> ?_) (fun k cur hk hn=> ?_) (fun cur=> ?_) R.length 0 b FU (by omega) (b1w (by omega))
 ·have:=i4q (l3:=R) (l2:=tm) (n0:=(k:Int)) (n1:=cur) (n4:=m.k) (n7:=m.be) (n8:=m.bb) (n9:=m.u5) (n10:=m.u6) (n11:=m.u7) (l12:=m.l) (n13:=m.v9) (n14:=m.v10) (n15:=m.v11) (n16:=m.v12) (n17:=m.v13) (by omega) (by omega) hc hh.1 hh.2
  rw[w1n k (by omega)]at this;exact this
 ·by_cases h1:(k:Int)>cur
  ·by_cases h2:rE R k=m.e
   ·have h3: ¬rC R k=m.c:=fun q=>hn ⟨⟨h2,q⟩,h1⟩
    have:=i4f (l3:=R) (l2:=tm) (n0:=(k:Int)) (n1:=cur) (n4:=m.k) (n7:=m.be) (n8:=m.bb) (n9:=m.u5) (n10:=m.u6) (n11:=m.u7) (l12:=m.l) (n13:=m.v9) (n14:=m.v10) (n15:=m.v11) (n16:=m.v12) (n17:=m.v13) (by omega) (by omega) h1 h2 h3
    rw[w1n k (by omega)]at this;exact this
   ·have:=i4g (l3:=R) (l2:=tm) (n0:=(k:Int)) (n1:=cur) (n4:=m.k) (n6:=m.c) (n7:=m.be) (n8:=m.bb) (n9:=m.u5) (n10:=m.u6) (n11:=m.u7) (l12:=m.l) (n13:=m.v9) (n14:=m.v10) (n15:=m.v11) (n16:=m.v12) (n17:=m.v13) (by omega) (by omega) h1 h2
    rw[w1n k (by omega)]at this;exact this
  ·have:=i4d (l3:=R) (l2:=tm) (n0:=(k:Int)) (n1:=cur) (n4:=m.k) (n5:=m.e) (n6:=m.c) (n7:=m.be) (n8:=m.bb) (n9:=m.u5) (n10:=m.u6) (n11:=m.u7) (l12:=m.l) (n13:=m.v9) (n14:=m.v10) (n15:=m.v11) (n16:=m.v12) (n17:=m.v13) (by omega) (by omega) h1
   rw[w1n k (by omega)]at this;exact this
 ·exact i4o (by omega) (by omega)
theorem hear {R:LG}{b:Int}(hI:InvR R b)(m:Ms)(tm:LT)(ht:tm.length≤1000): ∃er b',InvR R b'∧h4c [.n m.k,.n m.e,.n m.c,.n m.be,.n m.bb,.n m.u5,.n m.u6,.n m.u7,.l TB m.l,.n m.v9,.n m.v10,.n m.v11,.n m.v12,.n m.v13,.l TTm tm,.n b,.l TLog R]=some (0,[.n er,.n b',.l TLog R])∧
  h4y [.n m.k,.n m.e,.n m.c,.n m.be,.n m.bb,.n m.u5,.n m.u6,.n m.u7,.l TB m.l,.n m.v9,.n m.v10,.n m.v11,.n m.v12,.n m.v13,.l TTm tm,.n (b-1),.l TLog R]=some (0,[.n er,.n (b'-1),.l TLog R])∧g4j [.n m.k,.n m.e,.n m.c,.n m.be,.n m.bb,.n m.u5,.n m.u6,.n m.u7,.l TB m.l,.n m.v9,.n m.v10,.n m.v11,.n m.v12,.n m.v13,.n (b-1),.l TTm tm,.l TLog R]=some (0,[.n er,.n (b'-1),.l TTm tm,.l TLog R]):=by
 have e1:=eMa m tm ht
 have e2:=eMr m tm ht
 have hl:=hI.l8;have hb0:=hI.b0;have hbl:=hI.bl
 have hl100:R.length≤100:=by omega
 cases hv:mayB m tm with
 |false=>
  rw[hv]at e1 e2
  exact⟨2,b,hI,p4v e1 rfl,r4l e2 rfl,o4a e2 rfl⟩
 |true=>
  rw[hv]at e1 e2
  obtain⟨hk,_⟩:=g4e.1 hv
  by_cases k3:m.k=3
  ·obtain⟨i,f,g1,g2,g3⟩:=eBs hl100 hI.ris m.e m.c 0 0 0 0 z64
   obtain⟨r,r1,r2⟩:=eHr7 R hl100 m tm (b-1)
   obtain⟨q,q1,q2⟩:=eHro7 R hl100 m tm (b-1)
   have uniq: ∀x y:Nat,x<R.length→y<R.length→hitR R m.e m.c x→hitR R m.e m.c y→x=y:=fun x y hx hy h k=>by
    rcases Nat.lt_trichotomy x y with p|p|p
    ·have:=hI.ris x y p hy
     rw[h.1,h.2,k.1,k.2]at this;exact(h4l this).elim
    ·exact p
    ·have:=hI.ris y x p hx
     rw[h.1,h.2,k.1,k.2]at this;exact(h4l this).elim
   cases f with
   |true=>
    obtain⟨a1,a2,a3⟩:=g2 rfl
    have wi:IntKind.wrap .i64 ((i:Int)+(1:Int))=(i:Int)+1:=w64s (by omega) (by omega)
    have key: ∀r:Int,((r=b-1∧ ∀j,0≤j→j<R.length→hitR R m.e m.c j→(j:Int)≤b-1)∨(∃j:Nat,0≤j∧j<R.length∧hitR R m.e m.c j∧r=j∧b-1<r))→r=imax b ((i:Int)+1)-1:=by
     intro r h
     unfold imax
     rcases h with⟨h1,h2⟩|⟨j,_,h2,h3,h4,h5⟩
     ·have:=h2 i (Nat.zero_le _) a1 ⟨a2,a3⟩
      split<;>omega
     ·have:=uniq j i h2 a1 h3 ⟨a2,a3⟩
      subst this
      split<;>omega
    rw[key r r2]at r1
    rw[key q q2]at q1
    have s1:=p4g (n15:=b) e1 rfl k3 g1 rfl
    rw[wi]at s1
    refine⟨0,imax b ((i:Int)+1),⟨hl,?_,?_,hI.ris⟩,s1,k4b e2 rfl (by omega) (by omega) r1,h4v e2 rfl (by omega) (by omega) q1⟩<;>unfold imax<;>split<;>omega
   |false=>
    have key: ∀r:Int,((r=b-1∧ ∀j,0≤j→j<R.length→hitR R m.e m.c j→(j:Int)≤b-1)∨(∃j:Nat,0≤j∧j<R.length∧hitR R m.e m.c j∧r=j∧b-1<r))→r=b-1:=by
     intro r h
     rcases h with⟨h1,_⟩|⟨j,_,h2,h3,_⟩
     ·exact h1
     ·exact(g3 rfl j h2 h3).elim
    rw[key r r2]at r1
    rw[key q q2]at q1
    exact⟨0,b,hI,t4f e1 rfl k3 g1 rfl,k4b e2 rfl (by omega) (by omega) r1,h4v e2 rfl (by omega) (by omega) q1⟩
  ·by_cases k4:m.k=4
   ·exact⟨0,0,⟨hl,by omega,by omega,hI.ris⟩,r4r e1 rfl k3 k4,q4d e2 rfl (by omega) k4,l4o e2 rfl (by omega) k4⟩
   ·exact⟨2,b,hI,p4z e1 rfl k3 k4,s4b e2 rfl (by omega),o4h e2 rfl (by omega)⟩
theorem eSp (m:Ms)(tm:LT)(ht:tm.length≤1000): ∃tm':LT,k4s [.n m.k,.n m.e,.n m.c,.n m.be,.n m.bb,.n m.u5,.n m.u6,.n m.u7,.l TB m.l,.n m.v9,.n m.v10,.n m.v11,.n m.v12,.n m.v13,.l TTm tm]=some (0,[.l TTm tm']):=by
 have go: ∀(k m:Nat) (l:LT),l.length=tm.length→k≤l.length→l.length-k<m→ ∃l':LT,a0b g4o m [.k 0,.n (k:Int),.l TTm l]=some (0,[.l TTm l']):=by
  intro k m
  induction m generalizing k with
  |zero=>intro l _ _ h;omega
  |succ m ih=>
   intro l hl hk hm
   by_cases q:k<l.length
   ·have st:=l4k (n0:=(k:Int)) (l1:=l) (by omega) (by omega)
    rw[w1n k (by omega)]at st
    have hs:List.length (List.set l (Int.toNat (k:Int)) ((99:Int),(0:Int)))=l.length:=List.length_set
    obtain⟨l',e⟩:=ih (k+1) (List.set l (Int.toNat (k:Int)) ((99:Int),(0:Int))) (hs.trans hl) (by omega) (by omega)
    exact⟨l',(v0e st).trans e⟩
   ·exact⟨l,c0a (k4w (by omega) (by omega))⟩
 obtain⟨l',e⟩:=go 0 FU tm rfl (Nat.zero_le _) (b1w (by omega))
 exact⟨l',r4a (by rw[l4e];exact e)⟩
section
variable {R:LG} {b n0:Int} (hI:InvR R b) (h0:0≤n0) (x:Rc) (m:Ms) (tm:LT) (ht:tm.length≤1000) (r:Rc)
include hI h0 ht
theorem doAll: ∃(k:Nat) (b':Int) (R':LG) (r':Rc),InvR R' b'∧(k=0∨k=1)∧d4z (.n n0::.n x.e::.n x.c::.n x.a::.n x.b::.n x.d::.l TB x.t::.n x.u::.n m.k::.n m.e::.n m.c::.n m.be::.n m.bb::.n m.u5::.n m.u6::.n m.u7::.l TB m.l::.n m.v9::.n m.v10::.n m.v11::.n m.v12::.n m.v13::.l TTm tm::.n b::.n r.e::.n r.c::.n r.a::.n r.b::.n r.d::.l TB r.t::.n r.u::.b r.h::.n (b-1)::.n r.e::.n r.c::.n r.a::.n r.b::.n r.d::.l TB r.t::.n r.u::.b r.h::.l TLog R::.l TLog R::[])=some (k,[.b true,.n b',.n r'.e,.n r'.c,.n r'.a,.n r'.b,.n r'.d,.l TB r'.t,.n r'.u,.b r'.h,.n (b'-1),.n r'.e,.n r'.c,.n r'.a,.n r'.b,.n r'.d,.l TB r'.t,.n r'.u,.b r'.h,.l TLog R',.l TLog R']):=by
 have hl:=hI.l8;have hb0:=hI.b0;have hbl:=hI.bl
 have wb:IntKind.wrap .i64 (b-(1:Int))=b-1:=w64s (by omega) (by omega)
 have hm8:0≤Int.tmod n0 8∧Int.tmod n0 8<8:=by rw[Int.tmod_eq_emod_of_nonneg h0];omega
 obtain⟨v,hv⟩: ∃v,Int.tmod n0 8=v:=⟨_,rfl⟩
 rw[hv]at hm8
 have hz:([]:LT).length≤1000:=Nat.zero_le _
 have p24: ∀(q:Ms) (t:LT),t.length≤1000→e4h [.n q.k,.n q.e,.n q.c,.n q.be,.n q.bb,.n q.u5,.n q.u6,.n q.u7,.l TB q.l,.n q.v9,.n q.v10,.n q.v11,.n q.v12,.n q.v13,.l TTm t]=some (0,[.n q.k,.n q.e,.n q.c,.n q.be,.n q.bb,.n q.u5,.n q.u6,.n q.u7,.l TB q.l,.n q.v9,.n q.v10,.n q.v11,.n q.v12,.n q.v13,.l TTm t]):=fun q t h=>e24 q.k q.e q.c q.be q.bb q.u5 q.u6 q.u7 q.l q.v9 q.v10 q.v11 q.v12 q.v13 t h
 have p25: ∀(q:Ms) (t:LT),t.length≤1000→e4u [.n q.k,.n q.e,.n q.c,.n q.be,.n q.bb,.n q.u5,.n q.u6,.n q.u7,.l TB q.l,.n q.v9,.n q.v10,.n q.v11,.n q.v12,.n q.v13,.l TTm t,.n q.k,.n q.e,.n q.c,.n q.be,.n q.bb,.n q.u5,.n q.u6,.n q.u7,.l TB q.l,.n q.v9,.n q.v10,.n q.v11,.n q.v12,.n q.v13,.l TTm t]=some (0,[.b true]):=fun q t h=>e25 q.k q.e q.c q.be q.bb q.u5 q.u6 q.u7 q.l q.v9 q.v10 q.v11 q.v12 q.v13 t h
 have pof:=offer hI x.e x.c x.a x.b x.d x.u x.t
 have bb: ∀y:Bool,(y==y)=true:=fun y=>by cases y<;>rfl
 have nn: ∀y:Int,(y==y)=true:=fun y=>beq_self_eq_true y
 have hv8:v=0∨v=1∨v=2∨v=3∨v=4∨v=5∨v=6∨v=7:=by omega
 rcases hv8 with rfl|rfl|rfl|rfl|rfl|rfl|rfl|rfl
 ·obtain⟨er,b',R',k,g1,g2,g3,g4⟩:=pof
  refine⟨k,b',R',r,g1,g2,?_⟩
  rw[←nn er]
  rcases g2 with rfl|rfl
  ·exact o4f h0 hb0 hbl hl wb hv g3 g4
  ·exact m4k h0 hb0 hbl hl wb hv g3 g4
 ·obtain⟨er,b',R',k,g1,g2,g3,g4⟩:=pof
  refine⟨k,b',R',r,g1,g2,?_⟩
  rw[←nn er]
  rcases g2 with rfl|rfl
  ·exact n4n h0 hb0 hbl hl wb hv g3 g4
  ·exact l4w h0 hb0 hbl hl wb hv g3 g4
 ·refine⟨0,b,R,r,hI,.inl rfl,?_⟩
  rcases send hI with⟨q,ok,g1,g2⟩|⟨q,ok,t,gt,g1,g2⟩
  ·exact l4q h0 hb0 hbl hl wb hv g1 g2 (p24 q [] hz) (p25 q [] hz) rfl (bb ok) g4v
  ·obtain⟨t',e⟩:=eSp q t gt
   exact l4g h0 hb0 hbl hl wb hv g1 g2 (p24 q t gt) (p25 q t gt) rfl (bb ok) e
 ·obtain⟨er,b',g1,g2,g3,g4⟩:=hear hI m tm ht
  refine⟨0,b',R,r,g1,.inl rfl,?_⟩
  rw[←nn er]
  exact o4c h0 hb0 hbl hl wb hv g2 (p24 m tm ht) g4
 ·obtain⟨a,ok,er,r',g1,g2,g3,g4⟩:=t4b m tm ht r
  refine⟨0,b,R,r',hI,.inl rfl,?_⟩
  rw[←nn er]
  exact n4e h0 hb0 hbl hl wb hv g1 (p24 m tm ht) g4 (p24 a [] hz) (p25 a [] hz) rfl (bb ok)
 ·obtain⟨a,ok,er,r',g1,g2,g3,g4⟩:=t4b m tm ht r
  refine⟨0,b,R,r',hI,.inl rfl,?_⟩
  rw[←nn er]
  exact o4g h0 hb0 hbl hl wb hv g1 (p24 m tm ht) g4 (p24 a [] hz) (p25 a [] hz) rfl (bb ok)
 ·have e:=eWi [x.e,x.c] (by simp)
  cases hq:[x.e,x.c].all inB with
  |true=>
   rw[hq]at e
   have hx: ∀y∈[x.e,x.c],inB y=true:=List.all_eq_true.1 hq
   obtain⟨a1,b1⟩:=d4x.1 (hx x.e (by simp))
   obtain⟨a2,b2⟩:=d4x.1 (hx x.c (by simp))
   exact⟨0,b,R,⟨x.e,x.c,x.a,x.b,x.d,x.t,x.u,true⟩,hI,.inl rfl,l4t h0 hb0 hbl hl wb hv e rfl a1 b1 a2 b2⟩
  |false=>
   rw[hq]at e
   refine⟨0,b,R,r,hI,.inl rfl,?_⟩
   by_cases a1:x.e≥0
   ·by_cases b1:x.e≤1099511627776
    ·by_cases a2:x.c≥0
     ·by_cases b2:x.c≤1099511627776
      ·have:[x.e,x.c].all inB=true:=by
        simp only[List.all_cons,List.all_nil,Bool.and_true,Bool.and_eq_true,d4x];omega
       rw[hq]at this;cases this
      ·exact n4y h0 hb0 hbl hl wb hv e rfl a1 b1 a2 b2
     ·exact n4h h0 hb0 hbl hl wb hv e rfl a1 b1 a2
    ·exact m4i h0 hb0 hbl hl wb hv e rfl a1 b1
   ·exact m4t h0 hb0 hbl hl wb hv e rfl a1
 ·rcases send hI with⟨q,ok,g1,g2⟩|⟨q,ok,t,gt,g1,g2⟩
  ·cases ok with
   |false=>exact⟨0,b,R,r,hI,.inl rfl,n4d h0 hb0 hbl hl wb hv g1 g2 (p24 q [] hz) (p25 q [] hz) rfl rfl rfl g4v⟩
   |true=>
    obtain⟨a,ok',er,r',c1,c2,c3,c4⟩:=t4b q [] hz r
    obtain⟨er2,b',d1,d2,d3,d4⟩:=hear hI a [] hz
    exact⟨0,b',R,r',d1,.inl rfl,n4w h0 hb0 hbl hl wb hv g1 g2 (p24 q [] hz) (p25 q [] hz) rfl rfl rfl c1 c3 (p24 a [] hz) (p25 a [] hz) rfl (bb ok') rfl d2 d3 rfl g4v⟩
  ·obtain⟨t',e⟩:=eSp q t gt
   cases ok with
   |false=>exact⟨0,b,R,r,hI,.inl rfl,k4f h0 hb0 hbl hl wb hv g1 g2 (p24 q t gt) (p25 q t gt) rfl rfl rfl e⟩
   |true=>
    obtain⟨a,ok',er,r',c1,c2,c3,c4⟩:=t4b q t gt r
    obtain⟨er2,b',d1,d2,d3,d4⟩:=hear hI a [] hz
    exact⟨0,b',R,r',d1,.inl rfl,k4u h0 hb0 hbl hl wb hv g1 g2 (p24 q t gt) (p25 q t gt) rfl rfl rfl c2 c4 (p24 a [] hz) (p25 a [] hz) rfl (bb ok') rfl d2 d3 rfl e⟩
end
abbrev LC:=List (Ty.den t0c)
abbrev caAt (l:LC)(i:Nat):Ty.den t0c:=l.getD i (Ty.dflt t0c)
abbrev cK (c:Ty.den t0c):Int:=Prod.fst c
abbrev cT (c:Ty.den t0c):LT:=Prod.snd (Prod.snd (Prod.snd (Prod.snd (Prod.snd (Prod.snd (Prod.snd (Prod.snd (Prod.snd (Prod.snd (Prod.snd (Prod.snd (Prod.snd (Prod.snd (Prod.snd (Prod.snd (Prod.snd (Prod.snd (Prod.snd (Prod.snd (Prod.snd (Prod.snd c)))))))))))))))))))))
def cX (c:Ty.den t0c):Rc:=⟨Prod.fst (Prod.snd c),Prod.fst (Prod.snd (Prod.snd c)),Prod.fst (Prod.snd (Prod.snd (Prod.snd c))),Prod.fst (Prod.snd (Prod.snd (Prod.snd (Prod.snd c)))),Prod.fst (Prod.snd (Prod.snd (Prod.snd (Prod.snd (Prod.snd c))))),Prod.fst (Prod.snd (Prod.snd (Prod.snd (Prod.snd (Prod.snd (Prod.snd c)))))),Prod.fst (Prod.snd (Prod.snd (Prod.snd (Prod.snd (Prod.snd (Prod.snd (Prod.snd c))))))),false⟩
def cM (c:Ty.den t0c):Ms:=⟨Prod.fst (Prod.snd (Prod.snd (Prod.snd (Prod.snd (Prod.snd (Prod.snd (Prod.snd (Prod.snd c)))))))),Prod.fst (Prod.snd (Prod.snd (Prod.snd (Prod.snd (Prod.snd (Prod.snd (Prod.snd (Prod.snd (Prod.snd c))))))))),Prod.fst (Prod.snd (Prod.snd (Prod.snd (Prod.snd (Prod.snd (Prod.snd (Prod.snd (Prod.snd (Prod.snd (Prod.snd c)))))))))),Prod.fst (Prod.snd (Prod.snd (Prod.snd (Prod.snd (Prod.snd (Prod.snd (Prod.snd (Prod.snd (Prod.snd (Prod.snd (Prod.snd c))))))))))),Prod.fst (Prod.snd (Prod.snd (Prod.snd (Prod.snd (Prod.snd (Prod.snd (Prod.snd (Prod.snd (Prod.snd (Prod.snd (Prod.snd (Prod.snd c)))))))))))),Prod.fst (Prod.snd (Prod.snd (Prod.snd (Prod.snd (Prod.snd (Prod.snd (Prod.snd (Prod.snd (Prod.snd (Prod.snd (Prod.snd (Prod.snd (Prod.snd c))))))))))))),Prod.fst (Prod.snd (Prod.snd (Prod.snd (Prod.snd (Prod.snd (Prod.snd (Prod.snd (Prod.snd (Prod.snd (Prod.snd (Prod.snd (Prod.snd (Prod.snd (Prod.snd c)))))))))))))),Prod.fst (Prod.snd (Prod.snd (Prod.snd (Prod.snd (Prod.snd (Prod.snd (Prod.snd (Prod.snd (Prod.snd (Prod.snd (Prod.snd (Prod.snd (Prod.snd (Prod.snd (Prod.snd c))))))))))))))),Prod.fst (Prod.snd (Prod.snd (Prod.snd (Prod.snd (Prod.snd (Prod.snd (Prod.snd (Prod.snd (Prod.snd (Prod.snd (Prod.snd (Prod.snd (Prod.snd (Prod.snd (Prod.snd (Prod.snd c)))))))))))))))),Prod.fst (Prod.snd (Prod.snd (Prod.snd (Prod.snd (Prod.snd (Prod.snd (Prod.snd (Prod.snd (Prod.snd (Prod.snd (Prod.snd (Prod.snd (Prod.snd (Prod.snd (Prod.snd (Prod.snd (Prod.snd c))))))))))))))))),Prod.fst (Prod.snd (Prod.snd (Prod.snd (Prod.snd (Prod.snd (Prod.snd (Prod.snd (Prod.snd (Prod.snd (Prod.snd (Prod.snd (Prod.snd (Prod.snd (Prod.snd (Prod.snd (Prod.snd (Prod.snd (Prod.snd c)))))))))))))))))),Prod.fst (Prod.snd (Prod.snd (Prod.snd (Prod.snd (Prod.snd (Prod.snd (Prod.snd (Prod.snd (Prod.snd (Prod.snd (Prod.snd (Prod.snd (Prod.snd (Prod.snd (Prod.snd (Prod.snd (Prod.snd (Prod.snd (Prod.snd c))))))))))))))))))),Prod.fst (Prod.snd (Prod.snd (Prod.snd (Prod.snd (Prod.snd (Prod.snd (Prod.snd (Prod.snd (Prod.snd (Prod.snd (Prod.snd (Prod.snd (Prod.snd (Prod.snd (Prod.snd (Prod.snd (Prod.snd (Prod.snd (Prod.snd (Prod.snd c)))))))))))))))))))),Prod.fst (Prod.snd (Prod.snd (Prod.snd (Prod.snd (Prod.snd (Prod.snd (Prod.snd (Prod.snd (Prod.snd (Prod.snd (Prod.snd (Prod.snd (Prod.snd (Prod.snd (Prod.snd (Prod.snd (Prod.snd (Prod.snd (Prod.snd (Prod.snd (Prod.snd c)))))))))))))))))))))⟩
theorem memS {α:Type}{l:List α}{d:α}{i:Nat}(h:i<l.length):l.getD i d∈l:=by
 rw[List.getD_eq_getElem?_getD,List.getElem?_eq_getElem h];exact List.getElem_mem h
theorem wfAll {t:Ty}{l:List t.den}(h:wfD (.sl t) l=true): ∀x∈l,wfD t x=true:=by
 have h:(decide (l.length≤maxLen)&&wfL (wfD t) l)=true:=h
 rw[Bool.and_eq_true]at h
 exact o2j.1 h.2
theorem cK0 {c:Ty.den t0c}(h:wfD t0c c=true):0≤cK c:=by
 have:=wfi (wf_get h).1
 simp[IntKind.min,IntKind.max,IntKind.bits,IntKind.signed]at this
 exact this.1
theorem f5 (l:LC)(hl:l.length≤100): ∀m k:Nat,∀n:Int,k≤l.length→l.length-k<m→0≤n→n≤1000→
  (a0b e4d m [.k 0,.l t0c l,.n n,.n (k:Int)]=some (0,[])∧ ∀i,k≤i→i<l.length→(cT (caAt l i)).length≤1000)∨a0b e4d m [.k 0,.l t0c l,.n n,.n (k:Int)]=some (1,[.b false]):=by
 intro m
 induction m with
 |zero=>intro k n _ hm;omega
 |succ m ih=>
  intro k n hk hm h0 h1
  by_cases q:k<l.length
  ·have hw:IntKind.wrap .i64 ((1000:Int)-n)=1000-n:=w64s (by omega) (by omega)
   by_cases a:((cT (caAt l k)).length:Int)>1000-n
   ·have a':((cT (caAt l k)).length:Int)>IntKind.wrap .i64 ((1000:Int)-n):=by rw[hw];exact a
    exact .inr (c0a (k4x (by omega) (Int.ofNat_lt.2 q) a'))
   have a': ¬((cT (caAt l k)).length:Int)>IntKind.wrap .i64 ((1000:Int)-n):=by rw[hw];exact a
   have e:a0b e4d (m+1) [.k 0,.l t0c l,.n n,.n (k:Int)]=a0b e4d m [.k 0,.l t0c l,.n (IntKind.wrap .i64 (n+((cT (caAt l k)).length:Int))),.n (IntKind.wrap .i64 ((k:Int)+1))]:=v0e (k4e (by omega) (Int.ofNat_lt.2 q) a')
   rw[show IntKind.wrap .i64 (n+((cT (caAt l k)).length:Int))=n+((cT (caAt l k)).length:Int)from w64s (by omega) (by omega),w1n k (by omega)]at e
   rcases ih (k+1) (n+((cT (caAt l k)).length:Int)) (by omega) (by omega) (by omega) (by omega)with⟨h,hs⟩|h
   ·refine .inl ⟨e.trans h,fun i hi hil=> ?_⟩
    rcases Nat.eq_or_lt_of_le hi with rfl|hi
    ·omega
    ·exact hs i hi hil
   ·exact .inr (e.trans h)
  ·exact .inl ⟨c0a (l4b (by omega) (by omega)),fun i hi hil=>by omega⟩
theorem fwx (l:LC): ∃x,i4e [.l t0c l]=some (0,[.b x])∧(x=true→l.length≤100∧ ∀i,i<l.length→(cT (caAt l i)).length≤1000):=by
 by_cases hl:(l.length:Int)>100
 ·exact⟨false,r4e hl,fun h=>by cases h⟩
 have hl':l.length≤100:=by omega
 rcases f5 l hl' FU 0 0 (by omega) (b1w (by omega)) (by omega) (by omega)with⟨h,hs⟩|h
 ·rw[←h4f]at h
  exact⟨_,p4n hl h,fun _=>⟨hl',fun i hi=>hs i (Nat.zero_le _) hi⟩⟩
 ·rw[←h4f]at h
  exact⟨false,p4x hl h,fun h=>by cases h⟩
theorem rowSelf (x:Ty.den TLog):((Prod.fst x:Int)==Prod.fst x&&((Prod.fst (Prod.snd x):Int)==Prod.fst (Prod.snd x)&&((Prod.fst (Prod.snd (Prod.snd x)):Int)==Prod.fst (Prod.snd (Prod.snd x))&&((Prod.fst (Prod.snd (Prod.snd (Prod.snd x))):Int)==Prod.fst (Prod.snd (Prod.snd (Prod.snd x)))&&((Prod.fst (Prod.snd (Prod.snd (Prod.snd (Prod.snd x)))):Int)==Prod.fst (Prod.snd (Prod.snd (Prod.snd (Prod.snd x))))&&(eqL TB (Prod.fst (Prod.snd (Prod.snd (Prod.snd (Prod.snd (Prod.snd x)))))) (Prod.fst (Prod.snd (Prod.snd (Prod.snd (Prod.snd (Prod.snd x))))))&&((Prod.snd (Prod.snd (Prod.snd (Prod.snd (Prod.snd (Prod.snd x))))):Int)==Prod.snd (Prod.snd (Prod.snd (Prod.snd (Prod.snd (Prod.snd x)))))&&true))))&&true)))=true:=by
 have h: ∀a:Int,(a==a)=true:=fun a=>beq_self_eq_true a
 rw[h,h,h,h,h,f4z,h];rfl
theorem teAll {R:LG}{b:Int}(hI:InvR R b)(r:Rc):k4o [.n b,.n r.e,.n r.c,.n r.a,.n r.b,.n r.d,.l TB r.t,.n r.u,.b r.h,.n (b-1),.n r.e,.n r.c,.n r.a,.n r.b,.n r.d,.l TB r.t,.n r.u,.b r.h,.l TLog R,.l TLog R]=some (0,[.b true,.n b,.n r.e,.n r.c,.n r.a,.n r.b,.n r.d,.l TB r.t,.n r.u,.b r.h,.n (b-1),.n r.e,.n r.c,.n r.a,.n r.b,.n r.d,.l TB r.t,.n r.u,.b r.h,.l TLog R,.l TLog R]):=by
 have hl:=hI.l8;have hb0:=hI.b0;have hbl:=hI.bl
 have wb:IntKind.wrap .i64 (b-(1:Int))=b-1:=w64s (by omega) (by omega)
 have hh: ∀y:Bool,(y==y)=true:=fun y=>by cases y<;>rfl
 rw[←hh r.h]
 by_cases q:b=0
 ·exact o4u hb0 hbl hl wb (f4z _) q (by rw[df (show¬b-1≥0 by omega)];rfl)
 ·refine r4f hb0 hbl hl wb (f4z _) q ?_ (by rw[dt (show b-1≥0 by omega)];rfl)
  rw[wb]
  exact rowSelf _
section
variable (L:LC) (hl:L.length≤100) (hc: ∀c∈L,wfD t0c c=true) (ht: ∀i,i<L.length→(cT (caAt L i)).length≤1000)
include hl hc ht
theorem l37: ∀m k:Nat,∀(b:Int) (R:LG) (r:Rc),InvR R b→k≤L.length→L.length-k<m→a0b h4d m [.k 0,.l t0c L,.n (k:Int),.n b,.n r.e,.n r.c,.n r.a,.n r.b,.n r.d,.l TB r.t,.n r.u,.b r.h,.n (b-1),.n r.e,.n r.c,.n r.a,.n r.b,.n r.d,.l TB r.t,.n r.u,.b r.h,.l TLog R,.l TLog R]=some (0,[]):=by
 intro m
 induction m with
 |zero=>intro k b R r _ _ hm;omega
 |succ m ih=>
  intro k b R r hI hk hm
  by_cases q:k<L.length
  ·obtain⟨j,b',R',r',hI',hj,e⟩:=doAll (n0:=cK (caAt L k)) hI (cK0 (hc _ (memS q))) (cX (caAt L k)) (cM (caAt L k)) (cT (caAt L k)) (ht k q) r
   have e2:=teAll hI' r'
   have e3:=ih (k+1) b' R' r' hI' (by omega) (by omega)
   rw[←w1n k (by omega)]at e3
   rcases hj with rfl|rfl
   ·exact(v0e (m4c (by omega) (Int.ofNat_lt.2 q) e rfl e2 rfl)).trans e3
   ·exact(v0e (n4b (by omega) (Int.ofNat_lt.2 q) e rfl e2 rfl)).trans e3
  ·exact c0a (n4f (by omega) (by omega))
end
theorem W3_all (L:LC)(h:wfD (.sl t0c) L=true):(p3r [.l t0c L]).sel=some true:=by
 have e20:u3k []=some (0,[.b true]):=rfl
 obtain⟨x,e,hx⟩:=fwx L
 cases x with
 |false=>exact z3r e rfl e20
 |true=>
  obtain⟨h1,h2⟩:=hx rfl
  have hh:=l37 L h1 (fun c q=>wfAll h c q) h2 FU 0 0 [] ⟨0,0,0,0,0,z64,0,false⟩ ⟨by simp,by omega,by simp,fun i j _ hj=>absurd hj (Nat.not_lt_zero j)⟩ (Nat.zero_le _) (b1w (by omega))
  exact z3j e rfl (by rw[n4r];exact hh) e20
end Go.Proofs.Ytmgeoaenkmoaiaa.Vx
end
