import Derived.Test.YtlambinleegdoaaVxIm
import Derived.Test.YtlambinleegdoaaVxLk
import Derived.Test.YtlambinleegdoaaVxLaw
import Derived.Test.YtlambinleegdoaaZ13b
import Derived.KernelRfl
noncomputable section
namespace Go.Proofs.Ytlambinleegdoaa.Vx
open Go Go.RowKit
set_option linter.unusedVariables false
set_option linter.unusedSimpArgs false
set_option maxRecDepth 100000
set_option maxHeartbeats 0
def h3c (env:List Dat):Tree Step:=Lk.stepMC false LK n3w 3 15 ls0 (mkM 0 [] [(sh 85 [(5,.ptr 0 0),(6,.ptr 1 0),(7,.ptr 2 0),(8,.ptr 3 0),(9,.ptr 4 0),(11,.int .i64 0),(12,.own 5),(13,.own 6),(14,.int .i64 1),(15,.own 7),(16,.int .i64 2)],[inB 3,ouB 9,stB 14,loB 19,liB 26,.vec [.own 7,.own 8,.own 9,.own 10,.own 11],.vec [.own 12,.own 13,.own 14,.own 15,.own 16],.arr TB 31,.arr TB 32,.arr TB 33,.arr TB 34,.arr TB 35,.arr TB 36,.arr TB 37,.arr TB 38,.arr TB 39,.arr TB 40]),(sh 85 [(5,.ptr 0 0),(6,.ptr 1 0),(7,.ptr 2 0),(8,.ptr 3 0),(9,.ptr 4 0),(11,.int .i64 0),(12,.own 5),(13,.own 6),(14,.int .i64 1),(15,.own 7),(16,.int .i64 2)],[inB 3,ouB 9,stB 14,loB 19,liB 26,.vec [.own 8,.own 7,.own 9,.own 10,.own 11],.vec [.own 12,.own 13,.own 14,.own 15,.own 16],.arr TB 31,.arr TB 32,.arr TB 33,.arr TB 34,.arr TB 35,.arr TB 36,.arr TB 37,.arr TB 38,.arr TB 39,.arr TB 40]),(sh 85 [(5,.ptr 0 0),(6,.ptr 1 0),(7,.ptr 2 0),(8,.ptr 3 0),(9,.ptr 4 0),(11,.int .i64 0),(12,.own 5),(13,.own 6),(14,.int .i64 1),(15,.own 7),(16,.int .i64 2)],[inB 3,ouB 9,stB 14,loB 19,liB 26,.vec [.own 8,.own 9,.own 7,.own 10,.own 11],.vec [.own 12,.own 13,.own 14,.own 15,.own 16],.arr TB 31,.arr TB 32,.arr TB 33,.arr TB 34,.arr TB 35,.arr TB 36,.arr TB 37,.arr TB 38,.arr TB 39,.arr TB 40]),(sh 85 [(5,.ptr 0 0),(6,.ptr 1 0),(7,.ptr 2 0),(8,.ptr 3 0),(9,.ptr 4 0),(11,.int .i64 0),(12,.own 5),(13,.own 6),(14,.int .i64 1),(15,.own 7),(16,.int .i64 2)],[inB 3,ouB 9,stB 14,loB 19,liB 26,.vec [.own 8,.own 9,.own 10,.own 7,.own 11],.vec [.own 12,.own 13,.own 14,.own 15,.own 16],.arr TB 31,.arr TB 32,.arr TB 33,.arr TB 34,.arr TB 35,.arr TB 36,.arr TB 37,.arr TB 38,.arr TB 39,.arr TB 40]),(sh 85 [(5,.ptr 0 0),(6,.ptr 1 0),(7,.ptr 2 0),(8,.ptr 3 0),(9,.ptr 4 0),(11,.int .i64 0),(12,.own 5),(13,.own 6),(14,.int .i64 1),(15,.own 7),(16,.int .i64 2)],[inB 3,ouB 9,stB 14,loB 19,liB 26,.vec [.own 8,.own 9,.own 10,.own 11,.own 7],.vec [.own 12,.own 13,.own 14,.own 15,.own 16],.arr TB 31,.arr TB 32,.arr TB 33,.arr TB 34,.arr TB 35,.arr TB 36,.arr TB 37,.arr TB 38,.arr TB 39,.arr TB 40])] [] [(.exit 4,sh 85 [(5,.ptr 0 0),(6,.ptr 1 0),(7,.ptr 2 0),(8,.ptr 3 0),(9,.ptr 4 0),(11,.int .i64 0),(12,.own 5),(13,.own 6),(14,.int .i64 1)],[inB 2,ouB 8,stB 13,loB 18,liB 25,.vec [.own 7,.own 8,.own 9,.own 10,.own 11],.vec [.own 12,.own 13,.own 14,.own 15,.own 16],.arr TB 30,.arr TB 31,.arr TB 32,.arr TB 33,.arr TB 34,.arr TB 35,.arr TB 36,.arr TB 37,.arr TB 38,.arr TB 39])] fun _=>none) env
theorem p3k: ∃f:List Dat→Option (Nat×List Dat),∀env,f env=a0b h3c FU env:=⟨a0b h3c FU,fun _=>rfl⟩
def i3f:List Dat→Option (Nat×List Dat):=Classical.choose p3k
theorem i3m (env:List Dat):i3f env=a0b h3c FU env:=Classical.choose_spec p3k env
def m4u:MBox:=mkM 0 [] [(sh 85 [(5,.ptr 0 0),(6,.ptr 1 0),(7,.ptr 2 0),(8,.ptr 3 0),(9,.ptr 4 0),(11,.int .i64 0),(12,.own 5),(13,.own 6),(14,.int .i64 1),(15,.own 7),(16,.int .i64 2)],[inB 3,ouB 9,stB 14,loB 19,liB 26,.vec [.own 7,.own 8,.own 9,.own 10,.own 11],.vec [.own 12,.own 13,.own 14,.own 15,.own 16],.arr TB 31,.arr TB 32,.arr TB 33,.arr TB 34,.arr TB 35,.arr TB 36,.arr TB 37,.arr TB 38,.arr TB 39,.arr TB 40]),(sh 85 [(5,.ptr 0 0),(6,.ptr 1 0),(7,.ptr 2 0),(8,.ptr 3 0),(9,.ptr 4 0),(11,.int .i64 0),(12,.own 5),(13,.own 6),(14,.int .i64 1),(15,.own 7),(16,.int .i64 2)],[inB 3,ouB 9,stB 14,loB 19,liB 26,.vec [.own 8,.own 7,.own 9,.own 10,.own 11],.vec [.own 12,.own 13,.own 14,.own 15,.own 16],.arr TB 31,.arr TB 32,.arr TB 33,.arr TB 34,.arr TB 35,.arr TB 36,.arr TB 37,.arr TB 38,.arr TB 39,.arr TB 40]),(sh 85 [(5,.ptr 0 0),(6,.ptr 1 0),(7,.ptr 2 0),(8,.ptr 3 0),(9,.ptr 4 0),(11,.int .i64 0),(12,.own 5),(13,.own 6),(14,.int .i64 1),(15,.own 7),(16,.int .i64 2)],[inB 3,ouB 9,stB 14,loB 19,liB 26,.vec [.own 8,.own 9,.own 7,.own 10,.own 11],.vec [.own 12,.own 13,.own 14,.own 15,.own 16],.arr TB 31,.arr TB 32,.arr TB 33,.arr TB 34,.arr TB 35,.arr TB 36,.arr TB 37,.arr TB 38,.arr TB 39,.arr TB 40]),(sh 85 [(5,.ptr 0 0),(6,.ptr 1 0),(7,.ptr 2 0),(8,.ptr 3 0),(9,.ptr 4 0),(11,.int .i64 0),(12,.own 5),(13,.own 6),(14,.int .i64 1),(15,.own 7),(16,.int .i64 2)],[inB 3,ouB 9,stB 14,loB 19,liB 26,.vec [.own 8,.own 9,.own 10,.own 7,.own 11],.vec [.own 12,.own 13,.own 14,.own 15,.own 16],.arr TB 31,.arr TB 32,.arr TB 33,.arr TB 34,.arr TB 35,.arr TB 36,.arr TB 37,.arr TB 38,.arr TB 39,.arr TB 40]),(sh 85 [(5,.ptr 0 0),(6,.ptr 1 0),(7,.ptr 2 0),(8,.ptr 3 0),(9,.ptr 4 0),(11,.int .i64 0),(12,.own 5),(13,.own 6),(14,.int .i64 1),(15,.own 7),(16,.int .i64 2)],[inB 3,ouB 9,stB 14,loB 19,liB 26,.vec [.own 8,.own 9,.own 10,.own 11,.own 7],.vec [.own 12,.own 13,.own 14,.own 15,.own 16],.arr TB 31,.arr TB 32,.arr TB 33,.arr TB 34,.arr TB 35,.arr TB 36,.arr TB 37,.arr TB 38,.arr TB 39,.arr TB 40])] [] [(.exit 4,sh 85 [(5,.ptr 0 0),(6,.ptr 1 0),(7,.ptr 2 0),(8,.ptr 3 0),(9,.ptr 4 0),(11,.int .i64 0),(12,.own 5),(13,.own 6),(14,.int .i64 1)],[inB 2,ouB 8,stB 13,loB 18,liB 25,.vec [.own 7,.own 8,.own 9,.own 10,.own 11],.vec [.own 12,.own 13,.own 14,.own 15,.own 16],.arr TB 30,.arr TB 31,.arr TB 32,.arr TB 33,.arr TB 34,.arr TB 35,.arr TB 36,.arr TB 37,.arr TB 38,.arr TB 39])] i3f
theorem h4r:m4u=mkM 0 [] [(sh 85 [(5,.ptr 0 0),(6,.ptr 1 0),(7,.ptr 2 0),(8,.ptr 3 0),(9,.ptr 4 0),(11,.int .i64 0),(12,.own 5),(13,.own 6),(14,.int .i64 1),(15,.own 7),(16,.int .i64 2)],[inB 3,ouB 9,stB 14,loB 19,liB 26,.vec [.own 7,.own 8,.own 9,.own 10,.own 11],.vec [.own 12,.own 13,.own 14,.own 15,.own 16],.arr TB 31,.arr TB 32,.arr TB 33,.arr TB 34,.arr TB 35,.arr TB 36,.arr TB 37,.arr TB 38,.arr TB 39,.arr TB 40]),(sh 85 [(5,.ptr 0 0),(6,.ptr 1 0),(7,.ptr 2 0),(8,.ptr 3 0),(9,.ptr 4 0),(11,.int .i64 0),(12,.own 5),(13,.own 6),(14,.int .i64 1),(15,.own 7),(16,.int .i64 2)],[inB 3,ouB 9,stB 14,loB 19,liB 26,.vec [.own 8,.own 7,.own 9,.own 10,.own 11],.vec [.own 12,.own 13,.own 14,.own 15,.own 16],.arr TB 31,.arr TB 32,.arr TB 33,.arr TB 34,.arr TB 35,.arr TB 36,.arr TB 37,.arr TB 38,.arr TB 39,.arr TB 40]),(sh 85 [(5,.ptr 0 0),(6,.ptr 1 0),(7,.ptr 2 0),(8,.ptr 3 0),(9,.ptr 4 0),(11,.int .i64 0),(12,.own 5),(13,.own 6),(14,.int .i64 1),(15,.own 7),(16,.int .i64 2)],[inB 3,ouB 9,stB 14,loB 19,liB 26,.vec [.own 8,.own 9,.own 7,.own 10,.own 11],.vec [.own 12,.own 13,.own 14,.own 15,.own 16],.arr TB 31,.arr TB 32,.arr TB 33,.arr TB 34,.arr TB 35,.arr TB 36,.arr TB 37,.arr TB 38,.arr TB 39,.arr TB 40]),(sh 85 [(5,.ptr 0 0),(6,.ptr 1 0),(7,.ptr 2 0),(8,.ptr 3 0),(9,.ptr 4 0),(11,.int .i64 0),(12,.own 5),(13,.own 6),(14,.int .i64 1),(15,.own 7),(16,.int .i64 2)],[inB 3,ouB 9,stB 14,loB 19,liB 26,.vec [.own 8,.own 9,.own 10,.own 7,.own 11],.vec [.own 12,.own 13,.own 14,.own 15,.own 16],.arr TB 31,.arr TB 32,.arr TB 33,.arr TB 34,.arr TB 35,.arr TB 36,.arr TB 37,.arr TB 38,.arr TB 39,.arr TB 40]),(sh 85 [(5,.ptr 0 0),(6,.ptr 1 0),(7,.ptr 2 0),(8,.ptr 3 0),(9,.ptr 4 0),(11,.int .i64 0),(12,.own 5),(13,.own 6),(14,.int .i64 1),(15,.own 7),(16,.int .i64 2)],[inB 3,ouB 9,stB 14,loB 19,liB 26,.vec [.own 8,.own 9,.own 10,.own 11,.own 7],.vec [.own 12,.own 13,.own 14,.own 15,.own 16],.arr TB 31,.arr TB 32,.arr TB 33,.arr TB 34,.arr TB 35,.arr TB 36,.arr TB 37,.arr TB 38,.arr TB 39,.arr TB 40])] [] [(.exit 4,sh 85 [(5,.ptr 0 0),(6,.ptr 1 0),(7,.ptr 2 0),(8,.ptr 3 0),(9,.ptr 4 0),(11,.int .i64 0),(12,.own 5),(13,.own 6),(14,.int .i64 1)],[inB 2,ouB 8,stB 13,loB 18,liB 25,.vec [.own 7,.own 8,.own 9,.own 10,.own 11],.vec [.own 12,.own 13,.own 14,.own 15,.own 16],.arr TB 30,.arr TB 31,.arr TB 32,.arr TB 33,.arr TB 34,.arr TB 35,.arr TB 36,.arr TB 37,.arr TB 38,.arr TB 39])] (a0b h3c FU):=congrArg (fun f=>mkM 0 [] [(sh 85 [(5,.ptr 0 0),(6,.ptr 1 0),(7,.ptr 2 0),(8,.ptr 3 0),(9,.ptr 4 0),(11,.int .i64 0),(12,.own 5),(13,.own 6),(14,.int .i64 1),(15,.own 7),(16,.int .i64 2)],[inB 3,ouB 9,stB 14,loB 19,liB 26,.vec [.own 7,.own 8,.own 9,.own 10,.own 11],.vec [.own 12,.own 13,.own 14,.own 15,.own 16],.arr TB 31,.arr TB 32,.arr TB 33,.arr TB 34,.arr TB 35,.arr TB 36,.arr TB 37,.arr TB 38,.arr TB 39,.arr TB 40]),(sh 85 [(5,.ptr 0 0),(6,.ptr 1 0),(7,.ptr 2 0),(8,.ptr 3 0),(9,.ptr 4 0),(11,.int .i64 0),(12,.own 5),(13,.own 6),(14,.int .i64 1),(15,.own 7),(16,.int .i64 2)],[inB 3,ouB 9,stB 14,loB 19,liB 26,.vec [.own 8,.own 7,.own 9,.own 10,.own 11],.vec [.own 12,.own 13,.own 14,.own 15,.own 16],.arr TB 31,.arr TB 32,.arr TB 33,.arr TB 34,.arr TB 35,.arr TB 36,.arr TB 37,.arr TB 38,.arr TB 39,.arr TB 40]),(sh 85 [(5,.ptr 0 0),(6,.ptr 1 0),(7,.ptr 2 0),(8,.ptr 3 0),(9,.ptr 4 0),(11,.int .i64 0),(12,.own 5),(13,.own 6),(14,.int .i64 1),(15,.own 7),(16,.int .i64 2)],[inB 3,ouB 9,stB 14,loB 19,liB 26,.vec [.own 8,.own 9,.own 7,.own 10,.own 11],.vec [.own 12,.own 13,.own 14,.own 15,.own 16],.arr TB 31,.arr TB 32,.arr TB 33,.arr TB 34,.arr TB 35,.arr TB 36,.arr TB 37,.arr TB 38,.arr TB 39,.arr TB 40]),(sh 85 [(5,.ptr 0 0),(6,.ptr 1 0),(7,.ptr 2 0),(8,.ptr 3 0),(9,.ptr 4 0),(11,.int .i64 0),(12,.own 5),(13,.own 6),(14,.int .i64 1),(15,.own 7),(16,.int .i64 2)],[inB 3,ouB 9,stB 14,loB 19,liB 26,.vec [.own 8,.own 9,.own 10,.own 7,.own 11],.vec [.own 12,.own 13,.own 14,.own 15,.own 16],.arr TB 31,.arr TB 32,.arr TB 33,.arr TB 34,.arr TB 35,.arr TB 36,.arr TB 37,.arr TB 38,.arr TB 39,.arr TB 40]),(sh 85 [(5,.ptr 0 0),(6,.ptr 1 0),(7,.ptr 2 0),(8,.ptr 3 0),(9,.ptr 4 0),(11,.int .i64 0),(12,.own 5),(13,.own 6),(14,.int .i64 1),(15,.own 7),(16,.int .i64 2)],[inB 3,ouB 9,stB 14,loB 19,liB 26,.vec [.own 8,.own 9,.own 10,.own 11,.own 7],.vec [.own 12,.own 13,.own 14,.own 15,.own 16],.arr TB 31,.arr TB 32,.arr TB 33,.arr TB 34,.arr TB 35,.arr TB 36,.arr TB 37,.arr TB 38,.arr TB 39,.arr TB 40])] [] [(.exit 4,sh 85 [(5,.ptr 0 0),(6,.ptr 1 0),(7,.ptr 2 0),(8,.ptr 3 0),(9,.ptr 4 0),(11,.int .i64 0),(12,.own 5),(13,.own 6),(14,.int .i64 1)],[inB 2,ouB 8,stB 13,loB 18,liB 25,.vec [.own 7,.own 8,.own 9,.own 10,.own 11],.vec [.own 12,.own 13,.own 14,.own 15,.own 16],.arr TB 30,.arr TB 31,.arr TB 32,.arr TB 33,.arr TB 34,.arr TB 35,.arr TB 36,.arr TB 37,.arr TB 38,.arr TB 39])] f) (funext i3m)
theorem h4q: ∀t s x,(a0h m4u t s).sel=some x→a0k Try.prog 0 (.loop (cAt Try.prog 3 15)) t s x:=by
 rw[h4r]
 exact a0o (st:=h3c) (m:=FU) j3f hmix false (LsOk.none _ _ _) (by kernel_rfl) (fun env y h=>by rw[←stepMC_lk];exact h)
def l3r:List Dat→Tree Step
 |(.n n0::.n n1::.n n2::.n n3::.n n4::.n n5::.n n6::.n n7::.l (Ty.pair (Ty.int IntKind.u8) (Ty.int IntKind.i64)) l8::.n n9::.n n10::.n n11::.n n12::.n n13::.n n14::.n n15::.n n16::.l (Ty.int IntKind.u8) l17::.n n18::.n n19::.n n20::.n n21::.n n22::.n n23::.l (Ty.int IntKind.u8) l24::.n n25::.n n26::.n n27::.n n28::.n n29::.l (Ty.int IntKind.u8) l30::.l (Ty.int IntKind.u8) l31::.l (Ty.int IntKind.u8) l32::.l (Ty.int IntKind.u8) l33::.l (Ty.int IntKind.u8) l34::.l (Ty.int IntKind.u8) l35::.l (Ty.int IntKind.u8) l36::.l (Ty.int IntKind.u8) l37::.l (Ty.int IntKind.u8) l38::.l (Ty.int IntKind.u8) l39::.l (Ty.int IntKind.u8) l40::[])=>
  (.node (decide (n2<(↑(List.length l31):Int)))
   (.leaf (Step.go (.k 0::.n n0::.n n1::.n (IntKind.wrap .i64 (n2+(1:Int)))::.n n3::.n n4::.n n5::.n n6::.n n7::.l (Ty.pair (Ty.int IntKind.u8) (Ty.int IntKind.i64)) l8::.n n9::.n n10::.n n11::.n n12::.n n13::.n n14::.n n15::.n n16::.l (Ty.int IntKind.u8) l17::.n n18::.n n19::.n n20::.n n21::.n n22::.n n23::.l (Ty.int IntKind.u8) l24::.n n25::.n n26::.n n27::.n n28::.n n29::.l (Ty.int IntKind.u8) l30::.l (Ty.int IntKind.u8) (List.set l31 (Int.toNat n2) (IntKind.wrap .u8 ((List.getD l31 (Int.toNat n2) (0:Int):Int)+(1:Int))))::.l (Ty.int IntKind.u8) l32::.l (Ty.int IntKind.u8) l33::.l (Ty.int IntKind.u8) l34::.l (Ty.int IntKind.u8) l35::.l (Ty.int IntKind.u8) l36::.l (Ty.int IntKind.u8) l37::.l (Ty.int IntKind.u8) l38::.l (Ty.int IntKind.u8) l39::.l (Ty.int IntKind.u8) l40::[])))
   (.leaf (Step.stop 0 (.n n0::.n n1::.n n3::.n n4::.n n5::.n n6::.n n7::.l (Ty.pair (Ty.int IntKind.u8) (Ty.int IntKind.i64)) l8::.n n9::.n n10::.n n11::.n n12::.n n13::.n n14::.n n15::.n n16::.l (Ty.int IntKind.u8) l17::.n n18::.n n19::.n n20::.n n21::.n n22::.n n23::.l (Ty.int IntKind.u8) l24::.n n25::.n n26::.n n27::.n n28::.n n29::.l (Ty.int IntKind.u8) l30::.l (Ty.int IntKind.u8) l31::.l (Ty.int IntKind.u8) l32::.l (Ty.int IntKind.u8) l33::.l (Ty.int IntKind.u8) l34::.l (Ty.int IntKind.u8) l35::.l (Ty.int IntKind.u8) l36::.l (Ty.int IntKind.u8) l37::.l (Ty.int IntKind.u8) l38::.l (Ty.int IntKind.u8) l39::.l (Ty.int IntKind.u8) l40::[]))))
 |_=>.bad 0
theorem k3q (n0:Int)(n1:Int)(n2:Int)(n3:Int)(n4:Int)(n5:Int)(n6:Int)(n7:Int)(l8:List (Ty.den (Ty.pair (Ty.int IntKind.u8) (Ty.int IntKind.i64))))(n9:Int)(n10:Int)(n11:Int)(n12:Int)(n13:Int)(n14:Int)(n15:Int)(n16:Int)(l17:List (Ty.den (Ty.int IntKind.u8)))(n18:Int)(n19:Int)(n20:Int)(n21:Int)(n22:Int)(n23:Int)(l24:List (Ty.den (Ty.int IntKind.u8)))(n25:Int)(n26:Int)(n27:Int)(n28:Int)(n29:Int)(l30:List (Ty.den (Ty.int IntKind.u8)))(l31:List (Ty.den (Ty.int IntKind.u8)))(l32:List (Ty.den (Ty.int IntKind.u8)))(l33:List (Ty.den (Ty.int IntKind.u8)))(l34:List (Ty.den (Ty.int IntKind.u8)))(l35:List (Ty.den (Ty.int IntKind.u8)))(l36:List (Ty.den (Ty.int IntKind.u8)))(l37:List (Ty.den (Ty.int IntKind.u8)))(l38:List (Ty.den (Ty.int IntKind.u8)))(l39:List (Ty.den (Ty.int IntKind.u8)))(l40:List (Ty.den (Ty.int IntKind.u8)))(g0:0≤n2):Imp (l3r (.n n0::.n n1::.n n2::.n n3::.n n4::.n n5::.n n6::.n n7::.l (Ty.pair (Ty.int IntKind.u8) (Ty.int IntKind.i64)) l8::.n n9::.n n10::.n n11::.n n12::.n n13::.n n14::.n n15::.n n16::.l (Ty.int IntKind.u8) l17::.n n18::.n n19::.n n20::.n n21::.n n22::.n n23::.l (Ty.int IntKind.u8) l24::.n n25::.n n26::.n n27::.n n28::.n n29::.l (Ty.int IntKind.u8) l30::.l (Ty.int IntKind.u8) l31::.l (Ty.int IntKind.u8) l32::.l (Ty.int IntKind.u8) l33::.l (Ty.int IntKind.u8) l34::.l (Ty.int IntKind.u8) l35::.l (Ty.int IntKind.u8) l36::.l (Ty.int IntKind.u8) l37::.l (Ty.int IntKind.u8) l38::.l (Ty.int IntKind.u8) l39::.l (Ty.int IntKind.u8) l40::[])) (h3c [.k 0,.n n0,.n n1,.n n2,.n n3,.n n4,.n n5,.n n6,.n n7,.l TC l8,.n n9,.n n10,.n n11,.n n12,.n n13,.n n14,.n n15,.n n16,.l TB l17,.n n18,.n n19,.n n20,.n n21,.n n22,.n n23,.l TB l24,.n n25,.n n26,.n n27,.n n28,.n n29,.l TB l30,.l TB l31,.l TB l32,.l TB l33,.l TB l34,.l TB l35,.l TB l36,.l TB l37,.l TB l38,.l TB l39,.l TB l40]):=
(.path [1] (by kernel_rfl)
(.node (by kernel_rfl) (by kernel_rfl) (fun h0=>
(.pt (c:=(inR n2 (List.length l31))) (by kernel_rfl) (by kernel_rfl) (by(simp only[w64d,decide_eq_true_eq,decide_eq_false_iff_not,beq_iff_eq,beq_eq_false_iff_ne,bne_iff_ne,ne_eq,inR,Bool.and_eq_true,Bool.and_eq_false_iff,Bool.not_eq_true',Bool.not_eq_false',Bool.not_eq_eq_eq_not,Bool.not_true,Bool.not_false]at*;omega))
(.pt (c:=(inR n2 (List.length l31))) (by kernel_rfl) (by kernel_rfl) (by(simp only[w64d,decide_eq_true_eq,decide_eq_false_iff_not,beq_iff_eq,beq_eq_false_iff_ne,bne_iff_ne,ne_eq,inR,Bool.and_eq_true,Bool.and_eq_false_iff,Bool.not_eq_true',Bool.not_eq_false',Bool.not_eq_eq_eq_not,Bool.not_true,Bool.not_false]at*;omega))
(.path [1] (by kernel_rfl)
(.leaf (by kernel_rfl)))))) (fun h0=>
(.path [1] (by kernel_rfl)
(.leaf (by kernel_rfl))))))
def l3l:List Dat→Tree Step
 |(.n n0::.n n1::.n n2::.n n3::.n n4::.n n5::.n n6::.n n7::.l (Ty.pair (Ty.int IntKind.u8) (Ty.int IntKind.i64)) l8::.n n9::.n n10::.n n11::.n n12::.n n13::.n n14::.n n15::.n n16::.l (Ty.int IntKind.u8) l17::.n n18::.n n19::.n n20::.n n21::.n n22::.n n23::.l (Ty.int IntKind.u8) l24::.n n25::.n n26::.n n27::.n n28::.n n29::.l (Ty.int IntKind.u8) l30::.l (Ty.int IntKind.u8) l31::.l (Ty.int IntKind.u8) l32::.l (Ty.int IntKind.u8) l33::.l (Ty.int IntKind.u8) l34::.l (Ty.int IntKind.u8) l35::.l (Ty.int IntKind.u8) l36::.l (Ty.int IntKind.u8) l37::.l (Ty.int IntKind.u8) l38::.l (Ty.int IntKind.u8) l39::.l (Ty.int IntKind.u8) l40::[])=>
  (.node (decide (n2<(↑(List.length l31):Int)))
   (.leaf (Step.go (.k 1::.n n0::.n n1::.n (IntKind.wrap .i64 (n2+(1:Int)))::.n n3::.n n4::.n n5::.n n6::.n n7::.l (Ty.pair (Ty.int IntKind.u8) (Ty.int IntKind.i64)) l8::.n n9::.n n10::.n n11::.n n12::.n n13::.n n14::.n n15::.n n16::.l (Ty.int IntKind.u8) l17::.n n18::.n n19::.n n20::.n n21::.n n22::.n n23::.l (Ty.int IntKind.u8) l24::.n n25::.n n26::.n n27::.n n28::.n n29::.l (Ty.int IntKind.u8) l30::.l (Ty.int IntKind.u8) (List.set l31 (Int.toNat n2) (IntKind.wrap .u8 ((List.getD l31 (Int.toNat n2) (0:Int):Int)+(1:Int))))::.l (Ty.int IntKind.u8) l32::.l (Ty.int IntKind.u8) l33::.l (Ty.int IntKind.u8) l34::.l (Ty.int IntKind.u8) l35::.l (Ty.int IntKind.u8) l36::.l (Ty.int IntKind.u8) l37::.l (Ty.int IntKind.u8) l38::.l (Ty.int IntKind.u8) l39::.l (Ty.int IntKind.u8) l40::[])))
   (.leaf (Step.stop 0 (.n n0::.n n1::.n n3::.n n4::.n n5::.n n6::.n n7::.l (Ty.pair (Ty.int IntKind.u8) (Ty.int IntKind.i64)) l8::.n n9::.n n10::.n n11::.n n12::.n n13::.n n14::.n n15::.n n16::.l (Ty.int IntKind.u8) l17::.n n18::.n n19::.n n20::.n n21::.n n22::.n n23::.l (Ty.int IntKind.u8) l24::.n n25::.n n26::.n n27::.n n28::.n n29::.l (Ty.int IntKind.u8) l30::.l (Ty.int IntKind.u8) l32::.l (Ty.int IntKind.u8) l31::.l (Ty.int IntKind.u8) l33::.l (Ty.int IntKind.u8) l34::.l (Ty.int IntKind.u8) l35::.l (Ty.int IntKind.u8) l36::.l (Ty.int IntKind.u8) l37::.l (Ty.int IntKind.u8) l38::.l (Ty.int IntKind.u8) l39::.l (Ty.int IntKind.u8) l40::[]))))
 |_=>.bad 0
theorem k3t (n0:Int)(n1:Int)(n2:Int)(n3:Int)(n4:Int)(n5:Int)(n6:Int)(n7:Int)(l8:List (Ty.den (Ty.pair (Ty.int IntKind.u8) (Ty.int IntKind.i64))))(n9:Int)(n10:Int)(n11:Int)(n12:Int)(n13:Int)(n14:Int)(n15:Int)(n16:Int)(l17:List (Ty.den (Ty.int IntKind.u8)))(n18:Int)(n19:Int)(n20:Int)(n21:Int)(n22:Int)(n23:Int)(l24:List (Ty.den (Ty.int IntKind.u8)))(n25:Int)(n26:Int)(n27:Int)(n28:Int)(n29:Int)(l30:List (Ty.den (Ty.int IntKind.u8)))(l31:List (Ty.den (Ty.int IntKind.u8)))(l32:List (Ty.den (Ty.int IntKind.u8)))(l33:List (Ty.den (Ty.int IntKind.u8)))(l34:List (Ty.den (Ty.int IntKind.u8)))(l35:List (Ty.den (Ty.int IntKind.u8)))(l36:List (Ty.den (Ty.int IntKind.u8)))(l37:List (Ty.den (Ty.int IntKind.u8)))(l38:List (Ty.den (Ty.int IntKind.u8)))(l39:List (Ty.den (Ty.int IntKind.u8)))(l40:List (Ty.den (Ty.int IntKind.u8)))(g0:0≤n2):Imp (l3l (.n n0::.n n1::.n n2::.n n3::.n n4::.n n5::.n n6::.n n7::.l (Ty.pair (Ty.int IntKind.u8) (Ty.int IntKind.i64)) l8::.n n9::.n n10::.n n11::.n n12::.n n13::.n n14::.n n15::.n n16::.l (Ty.int IntKind.u8) l17::.n n18::.n n19::.n n20::.n n21::.n n22::.n n23::.l (Ty.int IntKind.u8) l24::.n n25::.n n26::.n n27::.n n28::.n n29::.l (Ty.int IntKind.u8) l30::.l (Ty.int IntKind.u8) l31::.l (Ty.int IntKind.u8) l32::.l (Ty.int IntKind.u8) l33::.l (Ty.int IntKind.u8) l34::.l (Ty.int IntKind.u8) l35::.l (Ty.int IntKind.u8) l36::.l (Ty.int IntKind.u8) l37::.l (Ty.int IntKind.u8) l38::.l (Ty.int IntKind.u8) l39::.l (Ty.int IntKind.u8) l40::[])) (h3c [.k 1,.n n0,.n n1,.n n2,.n n3,.n n4,.n n5,.n n6,.n n7,.l TC l8,.n n9,.n n10,.n n11,.n n12,.n n13,.n n14,.n n15,.n n16,.l TB l17,.n n18,.n n19,.n n20,.n n21,.n n22,.n n23,.l TB l24,.n n25,.n n26,.n n27,.n n28,.n n29,.l TB l30,.l TB l31,.l TB l32,.l TB l33,.l TB l34,.l TB l35,.l TB l36,.l TB l37,.l TB l38,.l TB l39,.l TB l40]):=
(.path [1] (by kernel_rfl)
(.node (by kernel_rfl) (by kernel_rfl) (fun h0=>
(.pt (c:=(inR n2 (List.length l31))) (by kernel_rfl) (by kernel_rfl) (by(simp only[w64d,decide_eq_true_eq,decide_eq_false_iff_not,beq_iff_eq,beq_eq_false_iff_ne,bne_iff_ne,ne_eq,inR,Bool.and_eq_true,Bool.and_eq_false_iff,Bool.not_eq_true',Bool.not_eq_false',Bool.not_eq_eq_eq_not,Bool.not_true,Bool.not_false]at*;omega))
(.pt (c:=(inR n2 (List.length l31))) (by kernel_rfl) (by kernel_rfl) (by(simp only[w64d,decide_eq_true_eq,decide_eq_false_iff_not,beq_iff_eq,beq_eq_false_iff_ne,bne_iff_ne,ne_eq,inR,Bool.and_eq_true,Bool.and_eq_false_iff,Bool.not_eq_true',Bool.not_eq_false',Bool.not_eq_eq_eq_not,Bool.not_true,Bool.not_false]at*;omega))
(.path [1] (by kernel_rfl)
(.leaf (by kernel_rfl)))))) (fun h0=>
(.path [1] (by kernel_rfl)
(.leaf (by kernel_rfl))))))
def l3h:List Dat→Tree Step
 |(.n n0::.n n1::.n n2::.n n3::.n n4::.n n5::.n n6::.n n7::.l (Ty.pair (Ty.int IntKind.u8) (Ty.int IntKind.i64)) l8::.n n9::.n n10::.n n11::.n n12::.n n13::.n n14::.n n15::.n n16::.l (Ty.int IntKind.u8) l17::.n n18::.n n19::.n n20::.n n21::.n n22::.n n23::.l (Ty.int IntKind.u8) l24::.n n25::.n n26::.n n27::.n n28::.n n29::.l (Ty.int IntKind.u8) l30::.l (Ty.int IntKind.u8) l31::.l (Ty.int IntKind.u8) l32::.l (Ty.int IntKind.u8) l33::.l (Ty.int IntKind.u8) l34::.l (Ty.int IntKind.u8) l35::.l (Ty.int IntKind.u8) l36::.l (Ty.int IntKind.u8) l37::.l (Ty.int IntKind.u8) l38::.l (Ty.int IntKind.u8) l39::.l (Ty.int IntKind.u8) l40::[])=>
  (.node (decide (n2<(↑(List.length l31):Int)))
   (.leaf (Step.go (.k 2::.n n0::.n n1::.n (IntKind.wrap .i64 (n2+(1:Int)))::.n n3::.n n4::.n n5::.n n6::.n n7::.l (Ty.pair (Ty.int IntKind.u8) (Ty.int IntKind.i64)) l8::.n n9::.n n10::.n n11::.n n12::.n n13::.n n14::.n n15::.n n16::.l (Ty.int IntKind.u8) l17::.n n18::.n n19::.n n20::.n n21::.n n22::.n n23::.l (Ty.int IntKind.u8) l24::.n n25::.n n26::.n n27::.n n28::.n n29::.l (Ty.int IntKind.u8) l30::.l (Ty.int IntKind.u8) (List.set l31 (Int.toNat n2) (IntKind.wrap .u8 ((List.getD l31 (Int.toNat n2) (0:Int):Int)+(1:Int))))::.l (Ty.int IntKind.u8) l32::.l (Ty.int IntKind.u8) l33::.l (Ty.int IntKind.u8) l34::.l (Ty.int IntKind.u8) l35::.l (Ty.int IntKind.u8) l36::.l (Ty.int IntKind.u8) l37::.l (Ty.int IntKind.u8) l38::.l (Ty.int IntKind.u8) l39::.l (Ty.int IntKind.u8) l40::[])))
   (.leaf (Step.stop 0 (.n n0::.n n1::.n n3::.n n4::.n n5::.n n6::.n n7::.l (Ty.pair (Ty.int IntKind.u8) (Ty.int IntKind.i64)) l8::.n n9::.n n10::.n n11::.n n12::.n n13::.n n14::.n n15::.n n16::.l (Ty.int IntKind.u8) l17::.n n18::.n n19::.n n20::.n n21::.n n22::.n n23::.l (Ty.int IntKind.u8) l24::.n n25::.n n26::.n n27::.n n28::.n n29::.l (Ty.int IntKind.u8) l30::.l (Ty.int IntKind.u8) l32::.l (Ty.int IntKind.u8) l33::.l (Ty.int IntKind.u8) l31::.l (Ty.int IntKind.u8) l34::.l (Ty.int IntKind.u8) l35::.l (Ty.int IntKind.u8) l36::.l (Ty.int IntKind.u8) l37::.l (Ty.int IntKind.u8) l38::.l (Ty.int IntKind.u8) l39::.l (Ty.int IntKind.u8) l40::[]))))
 |_=>.bad 0
theorem k3w (n0:Int)(n1:Int)(n2:Int)(n3:Int)(n4:Int)(n5:Int)(n6:Int)(n7:Int)(l8:List (Ty.den (Ty.pair (Ty.int IntKind.u8) (Ty.int IntKind.i64))))(n9:Int)(n10:Int)(n11:Int)(n12:Int)(n13:Int)(n14:Int)(n15:Int)(n16:Int)(l17:List (Ty.den (Ty.int IntKind.u8)))(n18:Int)(n19:Int)(n20:Int)(n21:Int)(n22:Int)(n23:Int)(l24:List (Ty.den (Ty.int IntKind.u8)))(n25:Int)(n26:Int)(n27:Int)(n28:Int)(n29:Int)(l30:List (Ty.den (Ty.int IntKind.u8)))(l31:List (Ty.den (Ty.int IntKind.u8)))(l32:List (Ty.den (Ty.int IntKind.u8)))(l33:List (Ty.den (Ty.int IntKind.u8)))(l34:List (Ty.den (Ty.int IntKind.u8)))(l35:List (Ty.den (Ty.int IntKind.u8)))(l36:List (Ty.den (Ty.int IntKind.u8)))(l37:List (Ty.den (Ty.int IntKind.u8)))(l38:List (Ty.den (Ty.int IntKind.u8)))(l39:List (Ty.den (Ty.int IntKind.u8)))(l40:List (Ty.den (Ty.int IntKind.u8)))(g0:0≤n2):Imp (l3h (.n n0::.n n1::.n n2::.n n3::.n n4::.n n5::.n n6::.n n7::.l (Ty.pair (Ty.int IntKind.u8) (Ty.int IntKind.i64)) l8::.n n9::.n n10::.n n11::.n n12::.n n13::.n n14::.n n15::.n n16::.l (Ty.int IntKind.u8) l17::.n n18::.n n19::.n n20::.n n21::.n n22::.n n23::.l (Ty.int IntKind.u8) l24::.n n25::.n n26::.n n27::.n n28::.n n29::.l (Ty.int IntKind.u8) l30::.l (Ty.int IntKind.u8) l31::.l (Ty.int IntKind.u8) l32::.l (Ty.int IntKind.u8) l33::.l (Ty.int IntKind.u8) l34::.l (Ty.int IntKind.u8) l35::.l (Ty.int IntKind.u8) l36::.l (Ty.int IntKind.u8) l37::.l (Ty.int IntKind.u8) l38::.l (Ty.int IntKind.u8) l39::.l (Ty.int IntKind.u8) l40::[])) (h3c [.k 2,.n n0,.n n1,.n n2,.n n3,.n n4,.n n5,.n n6,.n n7,.l TC l8,.n n9,.n n10,.n n11,.n n12,.n n13,.n n14,.n n15,.n n16,.l TB l17,.n n18,.n n19,.n n20,.n n21,.n n22,.n n23,.l TB l24,.n n25,.n n26,.n n27,.n n28,.n n29,.l TB l30,.l TB l31,.l TB l32,.l TB l33,.l TB l34,.l TB l35,.l TB l36,.l TB l37,.l TB l38,.l TB l39,.l TB l40]):=
(.path [1] (by kernel_rfl)
(.node (by kernel_rfl) (by kernel_rfl) (fun h0=>
(.pt (c:=(inR n2 (List.length l31))) (by kernel_rfl) (by kernel_rfl) (by(simp only[w64d,decide_eq_true_eq,decide_eq_false_iff_not,beq_iff_eq,beq_eq_false_iff_ne,bne_iff_ne,ne_eq,inR,Bool.and_eq_true,Bool.and_eq_false_iff,Bool.not_eq_true',Bool.not_eq_false',Bool.not_eq_eq_eq_not,Bool.not_true,Bool.not_false]at*;omega))
(.pt (c:=(inR n2 (List.length l31))) (by kernel_rfl) (by kernel_rfl) (by(simp only[w64d,decide_eq_true_eq,decide_eq_false_iff_not,beq_iff_eq,beq_eq_false_iff_ne,bne_iff_ne,ne_eq,inR,Bool.and_eq_true,Bool.and_eq_false_iff,Bool.not_eq_true',Bool.not_eq_false',Bool.not_eq_eq_eq_not,Bool.not_true,Bool.not_false]at*;omega))
(.path [1] (by kernel_rfl)
(.leaf (by kernel_rfl)))))) (fun h0=>
(.path [1] (by kernel_rfl)
(.leaf (by kernel_rfl))))))
def l3j:List Dat→Tree Step
 |(.n n0::.n n1::.n n2::.n n3::.n n4::.n n5::.n n6::.n n7::.l (Ty.pair (Ty.int IntKind.u8) (Ty.int IntKind.i64)) l8::.n n9::.n n10::.n n11::.n n12::.n n13::.n n14::.n n15::.n n16::.l (Ty.int IntKind.u8) l17::.n n18::.n n19::.n n20::.n n21::.n n22::.n n23::.l (Ty.int IntKind.u8) l24::.n n25::.n n26::.n n27::.n n28::.n n29::.l (Ty.int IntKind.u8) l30::.l (Ty.int IntKind.u8) l31::.l (Ty.int IntKind.u8) l32::.l (Ty.int IntKind.u8) l33::.l (Ty.int IntKind.u8) l34::.l (Ty.int IntKind.u8) l35::.l (Ty.int IntKind.u8) l36::.l (Ty.int IntKind.u8) l37::.l (Ty.int IntKind.u8) l38::.l (Ty.int IntKind.u8) l39::.l (Ty.int IntKind.u8) l40::[])=>
  (.node (decide (n2<(↑(List.length l31):Int)))
   (.leaf (Step.go (.k 3::.n n0::.n n1::.n (IntKind.wrap .i64 (n2+(1:Int)))::.n n3::.n n4::.n n5::.n n6::.n n7::.l (Ty.pair (Ty.int IntKind.u8) (Ty.int IntKind.i64)) l8::.n n9::.n n10::.n n11::.n n12::.n n13::.n n14::.n n15::.n n16::.l (Ty.int IntKind.u8) l17::.n n18::.n n19::.n n20::.n n21::.n n22::.n n23::.l (Ty.int IntKind.u8) l24::.n n25::.n n26::.n n27::.n n28::.n n29::.l (Ty.int IntKind.u8) l30::.l (Ty.int IntKind.u8) (List.set l31 (Int.toNat n2) (IntKind.wrap .u8 ((List.getD l31 (Int.toNat n2) (0:Int):Int)+(1:Int))))::.l (Ty.int IntKind.u8) l32::.l (Ty.int IntKind.u8) l33::.l (Ty.int IntKind.u8) l34::.l (Ty.int IntKind.u8) l35::.l (Ty.int IntKind.u8) l36::.l (Ty.int IntKind.u8) l37::.l (Ty.int IntKind.u8) l38::.l (Ty.int IntKind.u8) l39::.l (Ty.int IntKind.u8) l40::[])))
   (.leaf (Step.stop 0 (.n n0::.n n1::.n n3::.n n4::.n n5::.n n6::.n n7::.l (Ty.pair (Ty.int IntKind.u8) (Ty.int IntKind.i64)) l8::.n n9::.n n10::.n n11::.n n12::.n n13::.n n14::.n n15::.n n16::.l (Ty.int IntKind.u8) l17::.n n18::.n n19::.n n20::.n n21::.n n22::.n n23::.l (Ty.int IntKind.u8) l24::.n n25::.n n26::.n n27::.n n28::.n n29::.l (Ty.int IntKind.u8) l30::.l (Ty.int IntKind.u8) l32::.l (Ty.int IntKind.u8) l33::.l (Ty.int IntKind.u8) l34::.l (Ty.int IntKind.u8) l31::.l (Ty.int IntKind.u8) l35::.l (Ty.int IntKind.u8) l36::.l (Ty.int IntKind.u8) l37::.l (Ty.int IntKind.u8) l38::.l (Ty.int IntKind.u8) l39::.l (Ty.int IntKind.u8) l40::[]))))
 |_=>.bad 0
theorem k3z (n0:Int)(n1:Int)(n2:Int)(n3:Int)(n4:Int)(n5:Int)(n6:Int)(n7:Int)(l8:List (Ty.den (Ty.pair (Ty.int IntKind.u8) (Ty.int IntKind.i64))))(n9:Int)(n10:Int)(n11:Int)(n12:Int)(n13:Int)(n14:Int)(n15:Int)(n16:Int)(l17:List (Ty.den (Ty.int IntKind.u8)))(n18:Int)(n19:Int)(n20:Int)(n21:Int)(n22:Int)(n23:Int)(l24:List (Ty.den (Ty.int IntKind.u8)))(n25:Int)(n26:Int)(n27:Int)(n28:Int)(n29:Int)(l30:List (Ty.den (Ty.int IntKind.u8)))(l31:List (Ty.den (Ty.int IntKind.u8)))(l32:List (Ty.den (Ty.int IntKind.u8)))(l33:List (Ty.den (Ty.int IntKind.u8)))(l34:List (Ty.den (Ty.int IntKind.u8)))(l35:List (Ty.den (Ty.int IntKind.u8)))(l36:List (Ty.den (Ty.int IntKind.u8)))(l37:List (Ty.den (Ty.int IntKind.u8)))(l38:List (Ty.den (Ty.int IntKind.u8)))(l39:List (Ty.den (Ty.int IntKind.u8)))(l40:List (Ty.den (Ty.int IntKind.u8)))(g0:0≤n2):Imp (l3j (.n n0::.n n1::.n n2::.n n3::.n n4::.n n5::.n n6::.n n7::.l (Ty.pair (Ty.int IntKind.u8) (Ty.int IntKind.i64)) l8::.n n9::.n n10::.n n11::.n n12::.n n13::.n n14::.n n15::.n n16::.l (Ty.int IntKind.u8) l17::.n n18::.n n19::.n n20::.n n21::.n n22::.n n23::.l (Ty.int IntKind.u8) l24::.n n25::.n n26::.n n27::.n n28::.n n29::.l (Ty.int IntKind.u8) l30::.l (Ty.int IntKind.u8) l31::.l (Ty.int IntKind.u8) l32::.l (Ty.int IntKind.u8) l33::.l (Ty.int IntKind.u8) l34::.l (Ty.int IntKind.u8) l35::.l (Ty.int IntKind.u8) l36::.l (Ty.int IntKind.u8) l37::.l (Ty.int IntKind.u8) l38::.l (Ty.int IntKind.u8) l39::.l (Ty.int IntKind.u8) l40::[])) (h3c [.k 3,.n n0,.n n1,.n n2,.n n3,.n n4,.n n5,.n n6,.n n7,.l TC l8,.n n9,.n n10,.n n11,.n n12,.n n13,.n n14,.n n15,.n n16,.l TB l17,.n n18,.n n19,.n n20,.n n21,.n n22,.n n23,.l TB l24,.n n25,.n n26,.n n27,.n n28,.n n29,.l TB l30,.l TB l31,.l TB l32,.l TB l33,.l TB l34,.l TB l35,.l TB l36,.l TB l37,.l TB l38,.l TB l39,.l TB l40]):=
(.path [1] (by kernel_rfl)
(.node (by kernel_rfl) (by kernel_rfl) (fun h0=>
(.pt (c:=(inR n2 (List.length l31))) (by kernel_rfl) (by kernel_rfl) (by(simp only[w64d,decide_eq_true_eq,decide_eq_false_iff_not,beq_iff_eq,beq_eq_false_iff_ne,bne_iff_ne,ne_eq,inR,Bool.and_eq_true,Bool.and_eq_false_iff,Bool.not_eq_true',Bool.not_eq_false',Bool.not_eq_eq_eq_not,Bool.not_true,Bool.not_false]at*;omega))
(.pt (c:=(inR n2 (List.length l31))) (by kernel_rfl) (by kernel_rfl) (by(simp only[w64d,decide_eq_true_eq,decide_eq_false_iff_not,beq_iff_eq,beq_eq_false_iff_ne,bne_iff_ne,ne_eq,inR,Bool.and_eq_true,Bool.and_eq_false_iff,Bool.not_eq_true',Bool.not_eq_false',Bool.not_eq_eq_eq_not,Bool.not_true,Bool.not_false]at*;omega))
(.path [1] (by kernel_rfl)
(.leaf (by kernel_rfl)))))) (fun h0=>
(.path [1] (by kernel_rfl)
(.leaf (by kernel_rfl))))))
def l3p:List Dat→Tree Step
 |(.n n0::.n n1::.n n2::.n n3::.n n4::.n n5::.n n6::.n n7::.l (Ty.pair (Ty.int IntKind.u8) (Ty.int IntKind.i64)) l8::.n n9::.n n10::.n n11::.n n12::.n n13::.n n14::.n n15::.n n16::.l (Ty.int IntKind.u8) l17::.n n18::.n n19::.n n20::.n n21::.n n22::.n n23::.l (Ty.int IntKind.u8) l24::.n n25::.n n26::.n n27::.n n28::.n n29::.l (Ty.int IntKind.u8) l30::.l (Ty.int IntKind.u8) l31::.l (Ty.int IntKind.u8) l32::.l (Ty.int IntKind.u8) l33::.l (Ty.int IntKind.u8) l34::.l (Ty.int IntKind.u8) l35::.l (Ty.int IntKind.u8) l36::.l (Ty.int IntKind.u8) l37::.l (Ty.int IntKind.u8) l38::.l (Ty.int IntKind.u8) l39::.l (Ty.int IntKind.u8) l40::[])=>
  (.node (decide (n2<(↑(List.length l31):Int)))
   (.leaf (Step.go (.k 4::.n n0::.n n1::.n (IntKind.wrap .i64 (n2+(1:Int)))::.n n3::.n n4::.n n5::.n n6::.n n7::.l (Ty.pair (Ty.int IntKind.u8) (Ty.int IntKind.i64)) l8::.n n9::.n n10::.n n11::.n n12::.n n13::.n n14::.n n15::.n n16::.l (Ty.int IntKind.u8) l17::.n n18::.n n19::.n n20::.n n21::.n n22::.n n23::.l (Ty.int IntKind.u8) l24::.n n25::.n n26::.n n27::.n n28::.n n29::.l (Ty.int IntKind.u8) l30::.l (Ty.int IntKind.u8) (List.set l31 (Int.toNat n2) (IntKind.wrap .u8 ((List.getD l31 (Int.toNat n2) (0:Int):Int)+(1:Int))))::.l (Ty.int IntKind.u8) l32::.l (Ty.int IntKind.u8) l33::.l (Ty.int IntKind.u8) l34::.l (Ty.int IntKind.u8) l35::.l (Ty.int IntKind.u8) l36::.l (Ty.int IntKind.u8) l37::.l (Ty.int IntKind.u8) l38::.l (Ty.int IntKind.u8) l39::.l (Ty.int IntKind.u8) l40::[])))
   (.leaf (Step.stop 0 (.n n0::.n n1::.n n3::.n n4::.n n5::.n n6::.n n7::.l (Ty.pair (Ty.int IntKind.u8) (Ty.int IntKind.i64)) l8::.n n9::.n n10::.n n11::.n n12::.n n13::.n n14::.n n15::.n n16::.l (Ty.int IntKind.u8) l17::.n n18::.n n19::.n n20::.n n21::.n n22::.n n23::.l (Ty.int IntKind.u8) l24::.n n25::.n n26::.n n27::.n n28::.n n29::.l (Ty.int IntKind.u8) l30::.l (Ty.int IntKind.u8) l32::.l (Ty.int IntKind.u8) l33::.l (Ty.int IntKind.u8) l34::.l (Ty.int IntKind.u8) l35::.l (Ty.int IntKind.u8) l31::.l (Ty.int IntKind.u8) l36::.l (Ty.int IntKind.u8) l37::.l (Ty.int IntKind.u8) l38::.l (Ty.int IntKind.u8) l39::.l (Ty.int IntKind.u8) l40::[]))))
 |_=>.bad 0
theorem k3y (n0:Int)(n1:Int)(n2:Int)(n3:Int)(n4:Int)(n5:Int)(n6:Int)(n7:Int)(l8:List (Ty.den (Ty.pair (Ty.int IntKind.u8) (Ty.int IntKind.i64))))(n9:Int)(n10:Int)(n11:Int)(n12:Int)(n13:Int)(n14:Int)(n15:Int)(n16:Int)(l17:List (Ty.den (Ty.int IntKind.u8)))(n18:Int)(n19:Int)(n20:Int)(n21:Int)(n22:Int)(n23:Int)(l24:List (Ty.den (Ty.int IntKind.u8)))(n25:Int)(n26:Int)(n27:Int)(n28:Int)(n29:Int)(l30:List (Ty.den (Ty.int IntKind.u8)))(l31:List (Ty.den (Ty.int IntKind.u8)))(l32:List (Ty.den (Ty.int IntKind.u8)))(l33:List (Ty.den (Ty.int IntKind.u8)))(l34:List (Ty.den (Ty.int IntKind.u8)))(l35:List (Ty.den (Ty.int IntKind.u8)))(l36:List (Ty.den (Ty.int IntKind.u8)))(l37:List (Ty.den (Ty.int IntKind.u8)))(l38:List (Ty.den (Ty.int IntKind.u8)))(l39:List (Ty.den (Ty.int IntKind.u8)))(l40:List (Ty.den (Ty.int IntKind.u8)))(g0:0≤n2):Imp (l3p (.n n0::.n n1::.n n2::.n n3::.n n4::.n n5::.n n6::.n n7::.l (Ty.pair (Ty.int IntKind.u8) (Ty.int IntKind.i64)) l8::.n n9::.n n10::.n n11::.n n12::.n n13::.n n14::.n n15::.n n16::.l (Ty.int IntKind.u8) l17::.n n18::.n n19::.n n20::.n n21::.n n22::.n n23::.l (Ty.int IntKind.u8) l24::.n n25::.n n26::.n n27::.n n28::.n n29::.l (Ty.int IntKind.u8) l30::.l (Ty.int IntKind.u8) l31::.l (Ty.int IntKind.u8) l32::.l (Ty.int IntKind.u8) l33::.l (Ty.int IntKind.u8) l34::.l (Ty.int IntKind.u8) l35::.l (Ty.int IntKind.u8) l36::.l (Ty.int IntKind.u8) l37::.l (Ty.int IntKind.u8) l38::.l (Ty.int IntKind.u8) l39::.l (Ty.int IntKind.u8) l40::[])) (h3c [.k 4,.n n0,.n n1,.n n2,.n n3,.n n4,.n n5,.n n6,.n n7,.l TC l8,.n n9,.n n10,.n n11,.n n12,.n n13,.n n14,.n n15,.n n16,.l TB l17,.n n18,.n n19,.n n20,.n n21,.n n22,.n n23,.l TB l24,.n n25,.n n26,.n n27,.n n28,.n n29,.l TB l30,.l TB l31,.l TB l32,.l TB l33,.l TB l34,.l TB l35,.l TB l36,.l TB l37,.l TB l38,.l TB l39,.l TB l40]):=
(.path [1] (by kernel_rfl)
(.node (by kernel_rfl) (by kernel_rfl) (fun h0=>
(.pt (c:=(inR n2 (List.length l31))) (by kernel_rfl) (by kernel_rfl) (by(simp only[w64d,decide_eq_true_eq,decide_eq_false_iff_not,beq_iff_eq,beq_eq_false_iff_ne,bne_iff_ne,ne_eq,inR,Bool.and_eq_true,Bool.and_eq_false_iff,Bool.not_eq_true',Bool.not_eq_false',Bool.not_eq_eq_eq_not,Bool.not_true,Bool.not_false]at*;omega))
(.pt (c:=(inR n2 (List.length l31))) (by kernel_rfl) (by kernel_rfl) (by(simp only[w64d,decide_eq_true_eq,decide_eq_false_iff_not,beq_iff_eq,beq_eq_false_iff_ne,bne_iff_ne,ne_eq,inR,Bool.and_eq_true,Bool.and_eq_false_iff,Bool.not_eq_true',Bool.not_eq_false',Bool.not_eq_eq_eq_not,Bool.not_true,Bool.not_false]at*;omega))
(.path [1] (by kernel_rfl)
(.leaf (by kernel_rfl)))))) (fun h0=>
(.path [1] (by kernel_rfl)
(.leaf (by kernel_rfl))))))
def x2k (env:List Dat):Tree Step:=Lk.stepMC false LK n3w 3 9 (lsM [(15,m4u)] 0) (mkM 0 [] [(sh 85 [(5,.ptr 0 0),(6,.ptr 1 0),(7,.ptr 2 0),(8,.ptr 3 0),(9,.ptr 4 0),(11,.int .i64 0),(12,.own 5),(13,.own 6),(14,.int .i64 1)],[inB 2,ouB 8,stB 13,loB 18,liB 25,.vec [.own 7,.own 8,.own 9,.own 10,.own 11],.vec [.own 12,.own 13,.own 14,.own 15,.own 16],.arr TB 30,.arr TB 31,.arr TB 32,.arr TB 33,.arr TB 34,.arr TB 35,.arr TB 36,.arr TB 37,.arr TB 38,.arr TB 39])] [] [(.exit 2,sh 85 [(5,.ptr 0 0),(6,.ptr 1 0),(7,.ptr 2 0),(8,.ptr 3 0),(9,.ptr 4 0),(11,.int .i64 0)],[inB 1,ouB 7,stB 12,loB 17,liB 24]),(.ret,sh 85 [(10,.bool 0)],[])] fun _=>none) env
theorem r3g: ∃f:List Dat→Option (Nat×List Dat),∀env,f env=a0b x2k FU env:=⟨a0b x2k FU,fun _=>rfl⟩
def x2h:List Dat→Option (Nat×List Dat):=Classical.choose r3g
theorem z2z (env:List Dat):x2h env=a0b x2k FU env:=Classical.choose_spec r3g env
def L3_9:MBox:=mkM 0 [] [(sh 85 [(5,.ptr 0 0),(6,.ptr 1 0),(7,.ptr 2 0),(8,.ptr 3 0),(9,.ptr 4 0),(11,.int .i64 0),(12,.own 5),(13,.own 6),(14,.int .i64 1)],[inB 2,ouB 8,stB 13,loB 18,liB 25,.vec [.own 7,.own 8,.own 9,.own 10,.own 11],.vec [.own 12,.own 13,.own 14,.own 15,.own 16],.arr TB 30,.arr TB 31,.arr TB 32,.arr TB 33,.arr TB 34,.arr TB 35,.arr TB 36,.arr TB 37,.arr TB 38,.arr TB 39])] [] [(.exit 2,sh 85 [(5,.ptr 0 0),(6,.ptr 1 0),(7,.ptr 2 0),(8,.ptr 3 0),(9,.ptr 4 0),(11,.int .i64 0)],[inB 1,ouB 7,stB 12,loB 17,liB 24]),(.ret,sh 85 [(10,.bool 0)],[])] x2h
theorem g3n:L3_9=mkM 0 [] [(sh 85 [(5,.ptr 0 0),(6,.ptr 1 0),(7,.ptr 2 0),(8,.ptr 3 0),(9,.ptr 4 0),(11,.int .i64 0),(12,.own 5),(13,.own 6),(14,.int .i64 1)],[inB 2,ouB 8,stB 13,loB 18,liB 25,.vec [.own 7,.own 8,.own 9,.own 10,.own 11],.vec [.own 12,.own 13,.own 14,.own 15,.own 16],.arr TB 30,.arr TB 31,.arr TB 32,.arr TB 33,.arr TB 34,.arr TB 35,.arr TB 36,.arr TB 37,.arr TB 38,.arr TB 39])] [] [(.exit 2,sh 85 [(5,.ptr 0 0),(6,.ptr 1 0),(7,.ptr 2 0),(8,.ptr 3 0),(9,.ptr 4 0),(11,.int .i64 0)],[inB 1,ouB 7,stB 12,loB 17,liB 24]),(.ret,sh 85 [(10,.bool 0)],[])] (a0b x2k FU):=congrArg (fun f=>mkM 0 [] [(sh 85 [(5,.ptr 0 0),(6,.ptr 1 0),(7,.ptr 2 0),(8,.ptr 3 0),(9,.ptr 4 0),(11,.int .i64 0),(12,.own 5),(13,.own 6),(14,.int .i64 1)],[inB 2,ouB 8,stB 13,loB 18,liB 25,.vec [.own 7,.own 8,.own 9,.own 10,.own 11],.vec [.own 12,.own 13,.own 14,.own 15,.own 16],.arr TB 30,.arr TB 31,.arr TB 32,.arr TB 33,.arr TB 34,.arr TB 35,.arr TB 36,.arr TB 37,.arr TB 38,.arr TB 39])] [] [(.exit 2,sh 85 [(5,.ptr 0 0),(6,.ptr 1 0),(7,.ptr 2 0),(8,.ptr 3 0),(9,.ptr 4 0),(11,.int .i64 0)],[inB 1,ouB 7,stB 12,loB 17,liB 24]),(.ret,sh 85 [(10,.bool 0)],[])] f) (funext z2z)
theorem L3_9_in:LsOk Try.prog 0 (lsM [(15,m4u)] 0) (cAt Try.prog 3 9):=LsOk.many fun j B hB hk c hc hi=>by
 simp only[b0d]at hB
 split at hB
 ·rename_i e;have:=Nat.eq_of_beq_eq_true e;subst this;cases hB
  have e1:v0m (cAt Try.prog 3 9) 15=[cAt Try.prog 3 15]:=by kernel_rfl
  have e2:=a0d hc hi
  rw[e1]at e2;cases List.mem_singleton.1 e2;exact h4q
 cases hB
theorem g3p: ∀t s x,(a0h L3_9 t s).sel=some x→a0k Try.prog 0 (.loop (cAt Try.prog 3 9)) t s x:=by
 rw[g3n]
 exact a0o (st:=x2k) (m:=FU) j3f hmix false (L3_9_in) (by kernel_rfl) (fun env y h=>by rw[←stepMC_lk];exact h)
def r3f:List Dat→Tree Step
 |(.n n0::.n n1::.n n2::.n n3::.n n4::.n n5::.l (Ty.pair (Ty.int IntKind.u8) (Ty.int IntKind.i64)) l6::.n n7::.n n8::.n n9::.n n10::.n n11::.n n12::.n n13::.n n14::.l (Ty.int IntKind.u8) l15::.n n16::.n n17::.n n18::.n n19::.n n20::.n n21::.l (Ty.int IntKind.u8) l22::.n n23::.n n24::.n n25::.n n26::.n n27::.l (Ty.int IntKind.u8) l28::.l (Ty.int IntKind.u8) l29::.l (Ty.int IntKind.u8) l30::.l (Ty.int IntKind.u8) l31::.l (Ty.int IntKind.u8) l32::.l (Ty.int IntKind.u8) l33::.l (Ty.int IntKind.u8) l34::.l (Ty.int IntKind.u8) l35::.l (Ty.int IntKind.u8) l36::.l (Ty.int IntKind.u8) l37::.l (Ty.int IntKind.u8) l38::[])=>
  (.node (!f0b (r2b l29) (r2b l34))
   (.leaf (Step.stop 1 [.b false]))
   (let r1:Option (Nat×List Dat):=(i3f (.k 0::.n n0::.n (0:Int)::.n (0:Int)::.n n1::.n n2::.n n3::.n n4::.n n5::.l (Ty.pair (Ty.int IntKind.u8) (Ty.int IntKind.i64)) l6::.n n7::.n n8::.n n9::.n n10::.n n11::.n n12::.n n13::.n n14::.l (Ty.int IntKind.u8) l15::.n n16::.n n17::.n n18::.n n19::.n n20::.n n21::.l (Ty.int IntKind.u8) l22::.n n23::.n n24::.n n25::.n n26::.n n27::.l (Ty.int IntKind.u8) l28::.l (Ty.int IntKind.u8) l29::.l (Ty.int IntKind.u8) l30::.l (Ty.int IntKind.u8) l31::.l (Ty.int IntKind.u8) l32::.l (Ty.int IntKind.u8) l33::.l (Ty.int IntKind.u8) l34::.l (Ty.int IntKind.u8) l35::.l (Ty.int IntKind.u8) l36::.l (Ty.int IntKind.u8) l37::.l (Ty.int IntKind.u8) l38::[]));
   (.node (isK 0 (HK.n::HK.n::HK.n::HK.n::HK.n::HK.n::HK.n::HK.l (Ty.pair (Ty.int IntKind.u8) (Ty.int IntKind.i64))::HK.n::HK.n::HK.n::HK.n::HK.n::HK.n::HK.n::HK.n::HK.l (Ty.int IntKind.u8)::HK.n::HK.n::HK.n::HK.n::HK.n::HK.n::HK.l (Ty.int IntKind.u8)::HK.n::HK.n::HK.n::HK.n::HK.n::HK.l (Ty.int IntKind.u8)::HK.l (Ty.int IntKind.u8)::HK.l (Ty.int IntKind.u8)::HK.l (Ty.int IntKind.u8)::HK.l (Ty.int IntKind.u8)::HK.l (Ty.int IntKind.u8)::HK.l (Ty.int IntKind.u8)::HK.l (Ty.int IntKind.u8)::HK.l (Ty.int IntKind.u8)::HK.l (Ty.int IntKind.u8)::HK.l (Ty.int IntKind.u8)::[]) r1)
    (.leaf (Step.go (.k 0::.n (gn (dOf r1) 0)::.n (IntKind.wrap .i64 (gn (dOf r1) 1+(1:Int)))::.n (gn (dOf r1) 2)::.n (gn (dOf r1) 3)::.n (gn (dOf r1) 4)::.n (gn (dOf r1) 5)::.n (gn (dOf r1) 6)::.l (Ty.pair (Ty.int IntKind.u8) (Ty.int IntKind.i64)) (gl (Ty.pair (Ty.int IntKind.u8) (Ty.int IntKind.i64)) (dOf r1) 7)::.n (gn (dOf r1) 8)::.n (gn (dOf r1) 9)::.n (gn (dOf r1) 10)::.n (gn (dOf r1) 11)::.n (gn (dOf r1) 12)::.n (gn (dOf r1) 13)::.n (gn (dOf r1) 14)::.n (gn (dOf r1) 15)::.l (Ty.int IntKind.u8) (gl (Ty.int IntKind.u8) (dOf r1) 16)::.n (gn (dOf r1) 17)::.n (gn (dOf r1) 18)::.n (gn (dOf r1) 19)::.n (gn (dOf r1) 20)::.n (gn (dOf r1) 21)::.n (gn (dOf r1) 22)::.l (Ty.int IntKind.u8) (gl (Ty.int IntKind.u8) (dOf r1) 23)::.n (gn (dOf r1) 24)::.n (gn (dOf r1) 25)::.n (gn (dOf r1) 26)::.n (gn (dOf r1) 27)::.n (gn (dOf r1) 28)::.l (Ty.int IntKind.u8) (gl (Ty.int IntKind.u8) (dOf r1) 29)::.l (Ty.int IntKind.u8) (gl (Ty.int IntKind.u8) (dOf r1) 30)::.l (Ty.int IntKind.u8) (gl (Ty.int IntKind.u8) (dOf r1) 31)::.l (Ty.int IntKind.u8) (gl (Ty.int IntKind.u8) (dOf r1) 32)::.l (Ty.int IntKind.u8) (gl (Ty.int IntKind.u8) (dOf r1) 33)::.l (Ty.int IntKind.u8) (gl (Ty.int IntKind.u8) (dOf r1) 34)::.l (Ty.int IntKind.u8) (gl (Ty.int IntKind.u8) (dOf r1) 35)::.l (Ty.int IntKind.u8) (gl (Ty.int IntKind.u8) (dOf r1) 36)::.l (Ty.int IntKind.u8) (gl (Ty.int IntKind.u8) (dOf r1) 37)::.l (Ty.int IntKind.u8) (gl (Ty.int IntKind.u8) (dOf r1) 38)::.l (Ty.int IntKind.u8) (gl (Ty.int IntKind.u8) (dOf r1) 39)::[])))
    (.bad 351))))
 |_=>.bad 0
theorem s3r (n0:Int)(n1:Int)(n2:Int)(n3:Int)(n4:Int)(n5:Int)(l6:List (Ty.den (Ty.pair (Ty.int IntKind.u8) (Ty.int IntKind.i64))))(n7:Int)(n8:Int)(n9:Int)(n10:Int)(n11:Int)(n12:Int)(n13:Int)(n14:Int)(l15:List (Ty.den (Ty.int IntKind.u8)))(n16:Int)(n17:Int)(n18:Int)(n19:Int)(n20:Int)(n21:Int)(l22:List (Ty.den (Ty.int IntKind.u8)))(n23:Int)(n24:Int)(n25:Int)(n26:Int)(n27:Int)(l28:List (Ty.den (Ty.int IntKind.u8)))(l29:List (Ty.den (Ty.int IntKind.u8)))(l30:List (Ty.den (Ty.int IntKind.u8)))(l31:List (Ty.den (Ty.int IntKind.u8)))(l32:List (Ty.den (Ty.int IntKind.u8)))(l33:List (Ty.den (Ty.int IntKind.u8)))(l34:List (Ty.den (Ty.int IntKind.u8)))(l35:List (Ty.den (Ty.int IntKind.u8)))(l36:List (Ty.den (Ty.int IntKind.u8)))(l37:List (Ty.den (Ty.int IntKind.u8)))(l38:List (Ty.den (Ty.int IntKind.u8))):Imp (r3f (.n n0::.n n1::.n n2::.n n3::.n n4::.n n5::.l (Ty.pair (Ty.int IntKind.u8) (Ty.int IntKind.i64)) l6::.n n7::.n n8::.n n9::.n n10::.n n11::.n n12::.n n13::.n n14::.l (Ty.int IntKind.u8) l15::.n n16::.n n17::.n n18::.n n19::.n n20::.n n21::.l (Ty.int IntKind.u8) l22::.n n23::.n n24::.n n25::.n n26::.n n27::.l (Ty.int IntKind.u8) l28::.l (Ty.int IntKind.u8) l29::.l (Ty.int IntKind.u8) l30::.l (Ty.int IntKind.u8) l31::.l (Ty.int IntKind.u8) l32::.l (Ty.int IntKind.u8) l33::.l (Ty.int IntKind.u8) l34::.l (Ty.int IntKind.u8) l35::.l (Ty.int IntKind.u8) l36::.l (Ty.int IntKind.u8) l37::.l (Ty.int IntKind.u8) l38::[])) (x2k [.k 0,.n n0,.n 0,.n n1,.n n2,.n n3,.n n4,.n n5,.l TC l6,.n n7,.n n8,.n n9,.n n10,.n n11,.n n12,.n n13,.n n14,.l TB l15,.n n16,.n n17,.n n18,.n n19,.n n20,.n n21,.l TB l22,.n n23,.n n24,.n n25,.n n26,.n n27,.l TB l28,.l TB l29,.l TB l30,.l TB l31,.l TB l32,.l TB l33,.l TB l34,.l TB l35,.l TB l36,.l TB l37,.l TB l38]):=
(.path [1,1,1,1,1] (by kernel_rfl)
(.node (by kernel_rfl) (by kernel_rfl) (fun h0=>
(.path [1] (by kernel_rfl)
(.leaf (by kernel_rfl)))) (fun h0=>
(.node (by kernel_rfl) (by kernel_rfl) (fun h1=>
(.path [1] (by kernel_rfl)
(.leaf (by kernel_rfl)))) (fun h1=>
.none)))))
def q3y:List Dat→Tree Step
 |(.n n0::.n n1::.n n2::.n n3::.n n4::.n n5::.l (Ty.pair (Ty.int IntKind.u8) (Ty.int IntKind.i64)) l6::.n n7::.n n8::.n n9::.n n10::.n n11::.n n12::.n n13::.n n14::.l (Ty.int IntKind.u8) l15::.n n16::.n n17::.n n18::.n n19::.n n20::.n n21::.l (Ty.int IntKind.u8) l22::.n n23::.n n24::.n n25::.n n26::.n n27::.l (Ty.int IntKind.u8) l28::.l (Ty.int IntKind.u8) l29::.l (Ty.int IntKind.u8) l30::.l (Ty.int IntKind.u8) l31::.l (Ty.int IntKind.u8) l32::.l (Ty.int IntKind.u8) l33::.l (Ty.int IntKind.u8) l34::.l (Ty.int IntKind.u8) l35::.l (Ty.int IntKind.u8) l36::.l (Ty.int IntKind.u8) l37::.l (Ty.int IntKind.u8) l38::[])=>
  (.node (!f0b (r2b l30) (r2b l35))
   (.leaf (Step.stop 1 [.b false]))
   (let r1:Option (Nat×List Dat):=(i3f (.k 1::.n n0::.n (1:Int)::.n (0:Int)::.n n1::.n n2::.n n3::.n n4::.n n5::.l (Ty.pair (Ty.int IntKind.u8) (Ty.int IntKind.i64)) l6::.n n7::.n n8::.n n9::.n n10::.n n11::.n n12::.n n13::.n n14::.l (Ty.int IntKind.u8) l15::.n n16::.n n17::.n n18::.n n19::.n n20::.n n21::.l (Ty.int IntKind.u8) l22::.n n23::.n n24::.n n25::.n n26::.n n27::.l (Ty.int IntKind.u8) l28::.l (Ty.int IntKind.u8) l30::.l (Ty.int IntKind.u8) l29::.l (Ty.int IntKind.u8) l31::.l (Ty.int IntKind.u8) l32::.l (Ty.int IntKind.u8) l33::.l (Ty.int IntKind.u8) l34::.l (Ty.int IntKind.u8) l35::.l (Ty.int IntKind.u8) l36::.l (Ty.int IntKind.u8) l37::.l (Ty.int IntKind.u8) l38::[]));
   (.node (isK 0 (HK.n::HK.n::HK.n::HK.n::HK.n::HK.n::HK.n::HK.l (Ty.pair (Ty.int IntKind.u8) (Ty.int IntKind.i64))::HK.n::HK.n::HK.n::HK.n::HK.n::HK.n::HK.n::HK.n::HK.l (Ty.int IntKind.u8)::HK.n::HK.n::HK.n::HK.n::HK.n::HK.n::HK.l (Ty.int IntKind.u8)::HK.n::HK.n::HK.n::HK.n::HK.n::HK.l (Ty.int IntKind.u8)::HK.l (Ty.int IntKind.u8)::HK.l (Ty.int IntKind.u8)::HK.l (Ty.int IntKind.u8)::HK.l (Ty.int IntKind.u8)::HK.l (Ty.int IntKind.u8)::HK.l (Ty.int IntKind.u8)::HK.l (Ty.int IntKind.u8)::HK.l (Ty.int IntKind.u8)::HK.l (Ty.int IntKind.u8)::HK.l (Ty.int IntKind.u8)::[]) r1)
    (.leaf (Step.go (.k 0::.n (gn (dOf r1) 0)::.n (IntKind.wrap .i64 (gn (dOf r1) 1+(1:Int)))::.n (gn (dOf r1) 2)::.n (gn (dOf r1) 3)::.n (gn (dOf r1) 4)::.n (gn (dOf r1) 5)::.n (gn (dOf r1) 6)::.l (Ty.pair (Ty.int IntKind.u8) (Ty.int IntKind.i64)) (gl (Ty.pair (Ty.int IntKind.u8) (Ty.int IntKind.i64)) (dOf r1) 7)::.n (gn (dOf r1) 8)::.n (gn (dOf r1) 9)::.n (gn (dOf r1) 10)::.n (gn (dOf r1) 11)::.n (gn (dOf r1) 12)::.n (gn (dOf r1) 13)::.n (gn (dOf r1) 14)::.n (gn (dOf r1) 15)::.l (Ty.int IntKind.u8) (gl (Ty.int IntKind.u8) (dOf r1) 16)::.n (gn (dOf r1) 17)::.n (gn (dOf r1) 18)::.n (gn (dOf r1) 19)::.n (gn (dOf r1) 20)::.n (gn (dOf r1) 21)::.n (gn (dOf r1) 22)::.l (Ty.int IntKind.u8) (gl (Ty.int IntKind.u8) (dOf r1) 23)::.n (gn (dOf r1) 24)::.n (gn (dOf r1) 25)::.n (gn (dOf r1) 26)::.n (gn (dOf r1) 27)::.n (gn (dOf r1) 28)::.l (Ty.int IntKind.u8) (gl (Ty.int IntKind.u8) (dOf r1) 29)::.l (Ty.int IntKind.u8) (gl (Ty.int IntKind.u8) (dOf r1) 30)::.l (Ty.int IntKind.u8) (gl (Ty.int IntKind.u8) (dOf r1) 31)::.l (Ty.int IntKind.u8) (gl (Ty.int IntKind.u8) (dOf r1) 32)::.l (Ty.int IntKind.u8) (gl (Ty.int IntKind.u8) (dOf r1) 33)::.l (Ty.int IntKind.u8) (gl (Ty.int IntKind.u8) (dOf r1) 34)::.l (Ty.int IntKind.u8) (gl (Ty.int IntKind.u8) (dOf r1) 35)::.l (Ty.int IntKind.u8) (gl (Ty.int IntKind.u8) (dOf r1) 36)::.l (Ty.int IntKind.u8) (gl (Ty.int IntKind.u8) (dOf r1) 37)::.l (Ty.int IntKind.u8) (gl (Ty.int IntKind.u8) (dOf r1) 38)::.l (Ty.int IntKind.u8) (gl (Ty.int IntKind.u8) (dOf r1) 39)::[])))
    (.bad 351))))
 |_=>.bad 0
theorem s3v (n0:Int)(n1:Int)(n2:Int)(n3:Int)(n4:Int)(n5:Int)(l6:List (Ty.den (Ty.pair (Ty.int IntKind.u8) (Ty.int IntKind.i64))))(n7:Int)(n8:Int)(n9:Int)(n10:Int)(n11:Int)(n12:Int)(n13:Int)(n14:Int)(l15:List (Ty.den (Ty.int IntKind.u8)))(n16:Int)(n17:Int)(n18:Int)(n19:Int)(n20:Int)(n21:Int)(l22:List (Ty.den (Ty.int IntKind.u8)))(n23:Int)(n24:Int)(n25:Int)(n26:Int)(n27:Int)(l28:List (Ty.den (Ty.int IntKind.u8)))(l29:List (Ty.den (Ty.int IntKind.u8)))(l30:List (Ty.den (Ty.int IntKind.u8)))(l31:List (Ty.den (Ty.int IntKind.u8)))(l32:List (Ty.den (Ty.int IntKind.u8)))(l33:List (Ty.den (Ty.int IntKind.u8)))(l34:List (Ty.den (Ty.int IntKind.u8)))(l35:List (Ty.den (Ty.int IntKind.u8)))(l36:List (Ty.den (Ty.int IntKind.u8)))(l37:List (Ty.den (Ty.int IntKind.u8)))(l38:List (Ty.den (Ty.int IntKind.u8))):Imp (q3y (.n n0::.n n1::.n n2::.n n3::.n n4::.n n5::.l (Ty.pair (Ty.int IntKind.u8) (Ty.int IntKind.i64)) l6::.n n7::.n n8::.n n9::.n n10::.n n11::.n n12::.n n13::.n n14::.l (Ty.int IntKind.u8) l15::.n n16::.n n17::.n n18::.n n19::.n n20::.n n21::.l (Ty.int IntKind.u8) l22::.n n23::.n n24::.n n25::.n n26::.n n27::.l (Ty.int IntKind.u8) l28::.l (Ty.int IntKind.u8) l29::.l (Ty.int IntKind.u8) l30::.l (Ty.int IntKind.u8) l31::.l (Ty.int IntKind.u8) l32::.l (Ty.int IntKind.u8) l33::.l (Ty.int IntKind.u8) l34::.l (Ty.int IntKind.u8) l35::.l (Ty.int IntKind.u8) l36::.l (Ty.int IntKind.u8) l37::.l (Ty.int IntKind.u8) l38::[])) (x2k [.k 0,.n n0,.n 1,.n n1,.n n2,.n n3,.n n4,.n n5,.l TC l6,.n n7,.n n8,.n n9,.n n10,.n n11,.n n12,.n n13,.n n14,.l TB l15,.n n16,.n n17,.n n18,.n n19,.n n20,.n n21,.l TB l22,.n n23,.n n24,.n n25,.n n26,.n n27,.l TB l28,.l TB l29,.l TB l30,.l TB l31,.l TB l32,.l TB l33,.l TB l34,.l TB l35,.l TB l36,.l TB l37,.l TB l38]):=
(.path [1,1,0,1,0,1,1] (by kernel_rfl)
(.node (by kernel_rfl) (by kernel_rfl) (fun h0=>
(.path [1] (by kernel_rfl)
(.leaf (by kernel_rfl)))) (fun h0=>
(.node (by kernel_rfl) (by kernel_rfl) (fun h1=>
(.path [1] (by kernel_rfl)
(.leaf (by kernel_rfl)))) (fun h1=>
.none)))))
def r3e:List Dat→Tree Step
 |(.n n0::.n n1::.n n2::.n n3::.n n4::.n n5::.l (Ty.pair (Ty.int IntKind.u8) (Ty.int IntKind.i64)) l6::.n n7::.n n8::.n n9::.n n10::.n n11::.n n12::.n n13::.n n14::.l (Ty.int IntKind.u8) l15::.n n16::.n n17::.n n18::.n n19::.n n20::.n n21::.l (Ty.int IntKind.u8) l22::.n n23::.n n24::.n n25::.n n26::.n n27::.l (Ty.int IntKind.u8) l28::.l (Ty.int IntKind.u8) l29::.l (Ty.int IntKind.u8) l30::.l (Ty.int IntKind.u8) l31::.l (Ty.int IntKind.u8) l32::.l (Ty.int IntKind.u8) l33::.l (Ty.int IntKind.u8) l34::.l (Ty.int IntKind.u8) l35::.l (Ty.int IntKind.u8) l36::.l (Ty.int IntKind.u8) l37::.l (Ty.int IntKind.u8) l38::[])=>
  (.node (!f0b (r2b l31) (r2b l36))
   (.leaf (Step.stop 1 [.b false]))
   (let r1:Option (Nat×List Dat):=(i3f (.k 2::.n n0::.n (2:Int)::.n (0:Int)::.n n1::.n n2::.n n3::.n n4::.n n5::.l (Ty.pair (Ty.int IntKind.u8) (Ty.int IntKind.i64)) l6::.n n7::.n n8::.n n9::.n n10::.n n11::.n n12::.n n13::.n n14::.l (Ty.int IntKind.u8) l15::.n n16::.n n17::.n n18::.n n19::.n n20::.n n21::.l (Ty.int IntKind.u8) l22::.n n23::.n n24::.n n25::.n n26::.n n27::.l (Ty.int IntKind.u8) l28::.l (Ty.int IntKind.u8) l31::.l (Ty.int IntKind.u8) l29::.l (Ty.int IntKind.u8) l30::.l (Ty.int IntKind.u8) l32::.l (Ty.int IntKind.u8) l33::.l (Ty.int IntKind.u8) l34::.l (Ty.int IntKind.u8) l35::.l (Ty.int IntKind.u8) l36::.l (Ty.int IntKind.u8) l37::.l (Ty.int IntKind.u8) l38::[]));
   (.node (isK 0 (HK.n::HK.n::HK.n::HK.n::HK.n::HK.n::HK.n::HK.l (Ty.pair (Ty.int IntKind.u8) (Ty.int IntKind.i64))::HK.n::HK.n::HK.n::HK.n::HK.n::HK.n::HK.n::HK.n::HK.l (Ty.int IntKind.u8)::HK.n::HK.n::HK.n::HK.n::HK.n::HK.n::HK.l (Ty.int IntKind.u8)::HK.n::HK.n::HK.n::HK.n::HK.n::HK.l (Ty.int IntKind.u8)::HK.l (Ty.int IntKind.u8)::HK.l (Ty.int IntKind.u8)::HK.l (Ty.int IntKind.u8)::HK.l (Ty.int IntKind.u8)::HK.l (Ty.int IntKind.u8)::HK.l (Ty.int IntKind.u8)::HK.l (Ty.int IntKind.u8)::HK.l (Ty.int IntKind.u8)::HK.l (Ty.int IntKind.u8)::HK.l (Ty.int IntKind.u8)::[]) r1)
    (.leaf (Step.go (.k 0::.n (gn (dOf r1) 0)::.n (IntKind.wrap .i64 (gn (dOf r1) 1+(1:Int)))::.n (gn (dOf r1) 2)::.n (gn (dOf r1) 3)::.n (gn (dOf r1) 4)::.n (gn (dOf r1) 5)::.n (gn (dOf r1) 6)::.l (Ty.pair (Ty.int IntKind.u8) (Ty.int IntKind.i64)) (gl (Ty.pair (Ty.int IntKind.u8) (Ty.int IntKind.i64)) (dOf r1) 7)::.n (gn (dOf r1) 8)::.n (gn (dOf r1) 9)::.n (gn (dOf r1) 10)::.n (gn (dOf r1) 11)::.n (gn (dOf r1) 12)::.n (gn (dOf r1) 13)::.n (gn (dOf r1) 14)::.n (gn (dOf r1) 15)::.l (Ty.int IntKind.u8) (gl (Ty.int IntKind.u8) (dOf r1) 16)::.n (gn (dOf r1) 17)::.n (gn (dOf r1) 18)::.n (gn (dOf r1) 19)::.n (gn (dOf r1) 20)::.n (gn (dOf r1) 21)::.n (gn (dOf r1) 22)::.l (Ty.int IntKind.u8) (gl (Ty.int IntKind.u8) (dOf r1) 23)::.n (gn (dOf r1) 24)::.n (gn (dOf r1) 25)::.n (gn (dOf r1) 26)::.n (gn (dOf r1) 27)::.n (gn (dOf r1) 28)::.l (Ty.int IntKind.u8) (gl (Ty.int IntKind.u8) (dOf r1) 29)::.l (Ty.int IntKind.u8) (gl (Ty.int IntKind.u8) (dOf r1) 30)::.l (Ty.int IntKind.u8) (gl (Ty.int IntKind.u8) (dOf r1) 31)::.l (Ty.int IntKind.u8) (gl (Ty.int IntKind.u8) (dOf r1) 32)::.l (Ty.int IntKind.u8) (gl (Ty.int IntKind.u8) (dOf r1) 33)::.l (Ty.int IntKind.u8) (gl (Ty.int IntKind.u8) (dOf r1) 34)::.l (Ty.int IntKind.u8) (gl (Ty.int IntKind.u8) (dOf r1) 35)::.l (Ty.int IntKind.u8) (gl (Ty.int IntKind.u8) (dOf r1) 36)::.l (Ty.int IntKind.u8) (gl (Ty.int IntKind.u8) (dOf r1) 37)::.l (Ty.int IntKind.u8) (gl (Ty.int IntKind.u8) (dOf r1) 38)::.l (Ty.int IntKind.u8) (gl (Ty.int IntKind.u8) (dOf r1) 39)::[])))
    (.bad 351))))
 |_=>.bad 0
theorem r3q (n0:Int)(n1:Int)(n2:Int)(n3:Int)(n4:Int)(n5:Int)(l6:List (Ty.den (Ty.pair (Ty.int IntKind.u8) (Ty.int IntKind.i64))))(n7:Int)(n8:Int)(n9:Int)(n10:Int)(n11:Int)(n12:Int)(n13:Int)(n14:Int)(l15:List (Ty.den (Ty.int IntKind.u8)))(n16:Int)(n17:Int)(n18:Int)(n19:Int)(n20:Int)(n21:Int)(l22:List (Ty.den (Ty.int IntKind.u8)))(n23:Int)(n24:Int)(n25:Int)(n26:Int)(n27:Int)(l28:List (Ty.den (Ty.int IntKind.u8)))(l29:List (Ty.den (Ty.int IntKind.u8)))(l30:List (Ty.den (Ty.int IntKind.u8)))(l31:List (Ty.den (Ty.int IntKind.u8)))(l32:List (Ty.den (Ty.int IntKind.u8)))(l33:List (Ty.den (Ty.int IntKind.u8)))(l34:List (Ty.den (Ty.int IntKind.u8)))(l35:List (Ty.den (Ty.int IntKind.u8)))(l36:List (Ty.den (Ty.int IntKind.u8)))(l37:List (Ty.den (Ty.int IntKind.u8)))(l38:List (Ty.den (Ty.int IntKind.u8))):Imp (r3e (.n n0::.n n1::.n n2::.n n3::.n n4::.n n5::.l (Ty.pair (Ty.int IntKind.u8) (Ty.int IntKind.i64)) l6::.n n7::.n n8::.n n9::.n n10::.n n11::.n n12::.n n13::.n n14::.l (Ty.int IntKind.u8) l15::.n n16::.n n17::.n n18::.n n19::.n n20::.n n21::.l (Ty.int IntKind.u8) l22::.n n23::.n n24::.n n25::.n n26::.n n27::.l (Ty.int IntKind.u8) l28::.l (Ty.int IntKind.u8) l29::.l (Ty.int IntKind.u8) l30::.l (Ty.int IntKind.u8) l31::.l (Ty.int IntKind.u8) l32::.l (Ty.int IntKind.u8) l33::.l (Ty.int IntKind.u8) l34::.l (Ty.int IntKind.u8) l35::.l (Ty.int IntKind.u8) l36::.l (Ty.int IntKind.u8) l37::.l (Ty.int IntKind.u8) l38::[])) (x2k [.k 0,.n n0,.n 2,.n n1,.n n2,.n n3,.n n4,.n n5,.l TC l6,.n n7,.n n8,.n n9,.n n10,.n n11,.n n12,.n n13,.n n14,.l TB l15,.n n16,.n n17,.n n18,.n n19,.n n20,.n n21,.l TB l22,.n n23,.n n24,.n n25,.n n26,.n n27,.l TB l28,.l TB l29,.l TB l30,.l TB l31,.l TB l32,.l TB l33,.l TB l34,.l TB l35,.l TB l36,.l TB l37,.l TB l38]):=
(.path [1,1,0,0,1,0,0,1,1] (by kernel_rfl)
(.node (by kernel_rfl) (by kernel_rfl) (fun h0=>
(.path [1] (by kernel_rfl)
(.leaf (by kernel_rfl)))) (fun h0=>
(.node (by kernel_rfl) (by kernel_rfl) (fun h1=>
(.path [1] (by kernel_rfl)
(.leaf (by kernel_rfl)))) (fun h1=>
.none)))))
def r3j:List Dat→Tree Step
 |(.n n0::.n n1::.n n2::.n n3::.n n4::.n n5::.l (Ty.pair (Ty.int IntKind.u8) (Ty.int IntKind.i64)) l6::.n n7::.n n8::.n n9::.n n10::.n n11::.n n12::.n n13::.n n14::.l (Ty.int IntKind.u8) l15::.n n16::.n n17::.n n18::.n n19::.n n20::.n n21::.l (Ty.int IntKind.u8) l22::.n n23::.n n24::.n n25::.n n26::.n n27::.l (Ty.int IntKind.u8) l28::.l (Ty.int IntKind.u8) l29::.l (Ty.int IntKind.u8) l30::.l (Ty.int IntKind.u8) l31::.l (Ty.int IntKind.u8) l32::.l (Ty.int IntKind.u8) l33::.l (Ty.int IntKind.u8) l34::.l (Ty.int IntKind.u8) l35::.l (Ty.int IntKind.u8) l36::.l (Ty.int IntKind.u8) l37::.l (Ty.int IntKind.u8) l38::[])=>
  (.node (!f0b (r2b l32) (r2b l37))
   (.leaf (Step.stop 1 [.b false]))
   (let r1:Option (Nat×List Dat):=(i3f (.k 3::.n n0::.n (3:Int)::.n (0:Int)::.n n1::.n n2::.n n3::.n n4::.n n5::.l (Ty.pair (Ty.int IntKind.u8) (Ty.int IntKind.i64)) l6::.n n7::.n n8::.n n9::.n n10::.n n11::.n n12::.n n13::.n n14::.l (Ty.int IntKind.u8) l15::.n n16::.n n17::.n n18::.n n19::.n n20::.n n21::.l (Ty.int IntKind.u8) l22::.n n23::.n n24::.n n25::.n n26::.n n27::.l (Ty.int IntKind.u8) l28::.l (Ty.int IntKind.u8) l32::.l (Ty.int IntKind.u8) l29::.l (Ty.int IntKind.u8) l30::.l (Ty.int IntKind.u8) l31::.l (Ty.int IntKind.u8) l33::.l (Ty.int IntKind.u8) l34::.l (Ty.int IntKind.u8) l35::.l (Ty.int IntKind.u8) l36::.l (Ty.int IntKind.u8) l37::.l (Ty.int IntKind.u8) l38::[]));
   (.node (isK 0 (HK.n::HK.n::HK.n::HK.n::HK.n::HK.n::HK.n::HK.l (Ty.pair (Ty.int IntKind.u8) (Ty.int IntKind.i64))::HK.n::HK.n::HK.n::HK.n::HK.n::HK.n::HK.n::HK.n::HK.l (Ty.int IntKind.u8)::HK.n::HK.n::HK.n::HK.n::HK.n::HK.n::HK.l (Ty.int IntKind.u8)::HK.n::HK.n::HK.n::HK.n::HK.n::HK.l (Ty.int IntKind.u8)::HK.l (Ty.int IntKind.u8)::HK.l (Ty.int IntKind.u8)::HK.l (Ty.int IntKind.u8)::HK.l (Ty.int IntKind.u8)::HK.l (Ty.int IntKind.u8)::HK.l (Ty.int IntKind.u8)::HK.l (Ty.int IntKind.u8)::HK.l (Ty.int IntKind.u8)::HK.l (Ty.int IntKind.u8)::HK.l (Ty.int IntKind.u8)::[]) r1)
    (.leaf (Step.go (.k 0::.n (gn (dOf r1) 0)::.n (IntKind.wrap .i64 (gn (dOf r1) 1+(1:Int)))::.n (gn (dOf r1) 2)::.n (gn (dOf r1) 3)::.n (gn (dOf r1) 4)::.n (gn (dOf r1) 5)::.n (gn (dOf r1) 6)::.l (Ty.pair (Ty.int IntKind.u8) (Ty.int IntKind.i64)) (gl (Ty.pair (Ty.int IntKind.u8) (Ty.int IntKind.i64)) (dOf r1) 7)::.n (gn (dOf r1) 8)::.n (gn (dOf r1) 9)::.n (gn (dOf r1) 10)::.n (gn (dOf r1) 11)::.n (gn (dOf r1) 12)::.n (gn (dOf r1) 13)::.n (gn (dOf r1) 14)::.n (gn (dOf r1) 15)::.l (Ty.int IntKind.u8) (gl (Ty.int IntKind.u8) (dOf r1) 16)::.n (gn (dOf r1) 17)::.n (gn (dOf r1) 18)::.n (gn (dOf r1) 19)::.n (gn (dOf r1) 20)::.n (gn (dOf r1) 21)::.n (gn (dOf r1) 22)::.l (Ty.int IntKind.u8) (gl (Ty.int IntKind.u8) (dOf r1) 23)::.n (gn (dOf r1) 24)::.n (gn (dOf r1) 25)::.n (gn (dOf r1) 26)::.n (gn (dOf r1) 27)::.n (gn (dOf r1) 28)::.l (Ty.int IntKind.u8) (gl (Ty.int IntKind.u8) (dOf r1) 29)::.l (Ty.int IntKind.u8) (gl (Ty.int IntKind.u8) (dOf r1) 30)::.l (Ty.int IntKind.u8) (gl (Ty.int IntKind.u8) (dOf r1) 31)::.l (Ty.int IntKind.u8) (gl (Ty.int IntKind.u8) (dOf r1) 32)::.l (Ty.int IntKind.u8) (gl (Ty.int IntKind.u8) (dOf r1) 33)::.l (Ty.int IntKind.u8) (gl (Ty.int IntKind.u8) (dOf r1) 34)::.l (Ty.int IntKind.u8) (gl (Ty.int IntKind.u8) (dOf r1) 35)::.l (Ty.int IntKind.u8) (gl (Ty.int IntKind.u8) (dOf r1) 36)::.l (Ty.int IntKind.u8) (gl (Ty.int IntKind.u8) (dOf r1) 37)::.l (Ty.int IntKind.u8) (gl (Ty.int IntKind.u8) (dOf r1) 38)::.l (Ty.int IntKind.u8) (gl (Ty.int IntKind.u8) (dOf r1) 39)::[])))
    (.bad 351))))
 |_=>.bad 0
theorem s3n (n0:Int)(n1:Int)(n2:Int)(n3:Int)(n4:Int)(n5:Int)(l6:List (Ty.den (Ty.pair (Ty.int IntKind.u8) (Ty.int IntKind.i64))))(n7:Int)(n8:Int)(n9:Int)(n10:Int)(n11:Int)(n12:Int)(n13:Int)(n14:Int)(l15:List (Ty.den (Ty.int IntKind.u8)))(n16:Int)(n17:Int)(n18:Int)(n19:Int)(n20:Int)(n21:Int)(l22:List (Ty.den (Ty.int IntKind.u8)))(n23:Int)(n24:Int)(n25:Int)(n26:Int)(n27:Int)(l28:List (Ty.den (Ty.int IntKind.u8)))(l29:List (Ty.den (Ty.int IntKind.u8)))(l30:List (Ty.den (Ty.int IntKind.u8)))(l31:List (Ty.den (Ty.int IntKind.u8)))(l32:List (Ty.den (Ty.int IntKind.u8)))(l33:List (Ty.den (Ty.int IntKind.u8)))(l34:List (Ty.den (Ty.int IntKind.u8)))(l35:List (Ty.den (Ty.int IntKind.u8)))(l36:List (Ty.den (Ty.int IntKind.u8)))(l37:List (Ty.den (Ty.int IntKind.u8)))(l38:List (Ty.den (Ty.int IntKind.u8))):Imp (r3j (.n n0::.n n1::.n n2::.n n3::.n n4::.n n5::.l (Ty.pair (Ty.int IntKind.u8) (Ty.int IntKind.i64)) l6::.n n7::.n n8::.n n9::.n n10::.n n11::.n n12::.n n13::.n n14::.l (Ty.int IntKind.u8) l15::.n n16::.n n17::.n n18::.n n19::.n n20::.n n21::.l (Ty.int IntKind.u8) l22::.n n23::.n n24::.n n25::.n n26::.n n27::.l (Ty.int IntKind.u8) l28::.l (Ty.int IntKind.u8) l29::.l (Ty.int IntKind.u8) l30::.l (Ty.int IntKind.u8) l31::.l (Ty.int IntKind.u8) l32::.l (Ty.int IntKind.u8) l33::.l (Ty.int IntKind.u8) l34::.l (Ty.int IntKind.u8) l35::.l (Ty.int IntKind.u8) l36::.l (Ty.int IntKind.u8) l37::.l (Ty.int IntKind.u8) l38::[])) (x2k [.k 0,.n n0,.n 3,.n n1,.n n2,.n n3,.n n4,.n n5,.l TC l6,.n n7,.n n8,.n n9,.n n10,.n n11,.n n12,.n n13,.n n14,.l TB l15,.n n16,.n n17,.n n18,.n n19,.n n20,.n n21,.l TB l22,.n n23,.n n24,.n n25,.n n26,.n n27,.l TB l28,.l TB l29,.l TB l30,.l TB l31,.l TB l32,.l TB l33,.l TB l34,.l TB l35,.l TB l36,.l TB l37,.l TB l38]):=
(.path [1,1,0,0,0,1,0,0,0,1,1] (by kernel_rfl)
(.node (by kernel_rfl) (by kernel_rfl) (fun h0=>
(.path [1] (by kernel_rfl)
(.leaf (by kernel_rfl)))) (fun h0=>
(.node (by kernel_rfl) (by kernel_rfl) (fun h1=>
(.path [1] (by kernel_rfl)
(.leaf (by kernel_rfl)))) (fun h1=>
.none)))))
def r3m:List Dat→Tree Step
 |(.n n0::.n n1::.n n2::.n n3::.n n4::.n n5::.l (Ty.pair (Ty.int IntKind.u8) (Ty.int IntKind.i64)) l6::.n n7::.n n8::.n n9::.n n10::.n n11::.n n12::.n n13::.n n14::.l (Ty.int IntKind.u8) l15::.n n16::.n n17::.n n18::.n n19::.n n20::.n n21::.l (Ty.int IntKind.u8) l22::.n n23::.n n24::.n n25::.n n26::.n n27::.l (Ty.int IntKind.u8) l28::.l (Ty.int IntKind.u8) l29::.l (Ty.int IntKind.u8) l30::.l (Ty.int IntKind.u8) l31::.l (Ty.int IntKind.u8) l32::.l (Ty.int IntKind.u8) l33::.l (Ty.int IntKind.u8) l34::.l (Ty.int IntKind.u8) l35::.l (Ty.int IntKind.u8) l36::.l (Ty.int IntKind.u8) l37::.l (Ty.int IntKind.u8) l38::[])=>
  (.node (!f0b (r2b l33) (r2b l38))
   (.leaf (Step.stop 1 [.b false]))
   (let r1:Option (Nat×List Dat):=(i3f (.k 4::.n n0::.n (4:Int)::.n (0:Int)::.n n1::.n n2::.n n3::.n n4::.n n5::.l (Ty.pair (Ty.int IntKind.u8) (Ty.int IntKind.i64)) l6::.n n7::.n n8::.n n9::.n n10::.n n11::.n n12::.n n13::.n n14::.l (Ty.int IntKind.u8) l15::.n n16::.n n17::.n n18::.n n19::.n n20::.n n21::.l (Ty.int IntKind.u8) l22::.n n23::.n n24::.n n25::.n n26::.n n27::.l (Ty.int IntKind.u8) l28::.l (Ty.int IntKind.u8) l33::.l (Ty.int IntKind.u8) l29::.l (Ty.int IntKind.u8) l30::.l (Ty.int IntKind.u8) l31::.l (Ty.int IntKind.u8) l32::.l (Ty.int IntKind.u8) l34::.l (Ty.int IntKind.u8) l35::.l (Ty.int IntKind.u8) l36::.l (Ty.int IntKind.u8) l37::.l (Ty.int IntKind.u8) l38::[]));
   (.node (isK 0 (HK.n::HK.n::HK.n::HK.n::HK.n::HK.n::HK.n::HK.l (Ty.pair (Ty.int IntKind.u8) (Ty.int IntKind.i64))::HK.n::HK.n::HK.n::HK.n::HK.n::HK.n::HK.n::HK.n::HK.l (Ty.int IntKind.u8)::HK.n::HK.n::HK.n::HK.n::HK.n::HK.n::HK.l (Ty.int IntKind.u8)::HK.n::HK.n::HK.n::HK.n::HK.n::HK.l (Ty.int IntKind.u8)::HK.l (Ty.int IntKind.u8)::HK.l (Ty.int IntKind.u8)::HK.l (Ty.int IntKind.u8)::HK.l (Ty.int IntKind.u8)::HK.l (Ty.int IntKind.u8)::HK.l (Ty.int IntKind.u8)::HK.l (Ty.int IntKind.u8)::HK.l (Ty.int IntKind.u8)::HK.l (Ty.int IntKind.u8)::HK.l (Ty.int IntKind.u8)::[]) r1)
    (.leaf (Step.go (.k 0::.n (gn (dOf r1) 0)::.n (IntKind.wrap .i64 (gn (dOf r1) 1+(1:Int)))::.n (gn (dOf r1) 2)::.n (gn (dOf r1) 3)::.n (gn (dOf r1) 4)::.n (gn (dOf r1) 5)::.n (gn (dOf r1) 6)::.l (Ty.pair (Ty.int IntKind.u8) (Ty.int IntKind.i64)) (gl (Ty.pair (Ty.int IntKind.u8) (Ty.int IntKind.i64)) (dOf r1) 7)::.n (gn (dOf r1) 8)::.n (gn (dOf r1) 9)::.n (gn (dOf r1) 10)::.n (gn (dOf r1) 11)::.n (gn (dOf r1) 12)::.n (gn (dOf r1) 13)::.n (gn (dOf r1) 14)::.n (gn (dOf r1) 15)::.l (Ty.int IntKind.u8) (gl (Ty.int IntKind.u8) (dOf r1) 16)::.n (gn (dOf r1) 17)::.n (gn (dOf r1) 18)::.n (gn (dOf r1) 19)::.n (gn (dOf r1) 20)::.n (gn (dOf r1) 21)::.n (gn (dOf r1) 22)::.l (Ty.int IntKind.u8) (gl (Ty.int IntKind.u8) (dOf r1) 23)::.n (gn (dOf r1) 24)::.n (gn (dOf r1) 25)::.n (gn (dOf r1) 26)::.n (gn (dOf r1) 27)::.n (gn (dOf r1) 28)::.l (Ty.int IntKind.u8) (gl (Ty.int IntKind.u8) (dOf r1) 29)::.l (Ty.int IntKind.u8) (gl (Ty.int IntKind.u8) (dOf r1) 30)::.l (Ty.int IntKind.u8) (gl (Ty.int IntKind.u8) (dOf r1) 31)::.l (Ty.int IntKind.u8) (gl (Ty.int IntKind.u8) (dOf r1) 32)::.l (Ty.int IntKind.u8) (gl (Ty.int IntKind.u8) (dOf r1) 33)::.l (Ty.int IntKind.u8) (gl (Ty.int IntKind.u8) (dOf r1) 34)::.l (Ty.int IntKind.u8) (gl (Ty.int IntKind.u8) (dOf r1) 35)::.l (Ty.int IntKind.u8) (gl (Ty.int IntKind.u8) (dOf r1) 36)::.l (Ty.int IntKind.u8) (gl (Ty.int IntKind.u8) (dOf r1) 37)::.l (Ty.int IntKind.u8) (gl (Ty.int IntKind.u8) (dOf r1) 38)::.l (Ty.int IntKind.u8) (gl (Ty.int IntKind.u8) (dOf r1) 39)::[])))
    (.bad 351))))
 |_=>.bad 0
theorem r3o (n0:Int)(n1:Int)(n2:Int)(n3:Int)(n4:Int)(n5:Int)(l6:List (Ty.den (Ty.pair (Ty.int IntKind.u8) (Ty.int IntKind.i64))))(n7:Int)(n8:Int)(n9:Int)(n10:Int)(n11:Int)(n12:Int)(n13:Int)(n14:Int)(l15:List (Ty.den (Ty.int IntKind.u8)))(n16:Int)(n17:Int)(n18:Int)(n19:Int)(n20:Int)(n21:Int)(l22:List (Ty.den (Ty.int IntKind.u8)))(n23:Int)(n24:Int)(n25:Int)(n26:Int)(n27:Int)(l28:List (Ty.den (Ty.int IntKind.u8)))(l29:List (Ty.den (Ty.int IntKind.u8)))(l30:List (Ty.den (Ty.int IntKind.u8)))(l31:List (Ty.den (Ty.int IntKind.u8)))(l32:List (Ty.den (Ty.int IntKind.u8)))(l33:List (Ty.den (Ty.int IntKind.u8)))(l34:List (Ty.den (Ty.int IntKind.u8)))(l35:List (Ty.den (Ty.int IntKind.u8)))(l36:List (Ty.den (Ty.int IntKind.u8)))(l37:List (Ty.den (Ty.int IntKind.u8)))(l38:List (Ty.den (Ty.int IntKind.u8))):Imp (r3m (.n n0::.n n1::.n n2::.n n3::.n n4::.n n5::.l (Ty.pair (Ty.int IntKind.u8) (Ty.int IntKind.i64)) l6::.n n7::.n n8::.n n9::.n n10::.n n11::.n n12::.n n13::.n n14::.l (Ty.int IntKind.u8) l15::.n n16::.n n17::.n n18::.n n19::.n n20::.n n21::.l (Ty.int IntKind.u8) l22::.n n23::.n n24::.n n25::.n n26::.n n27::.l (Ty.int IntKind.u8) l28::.l (Ty.int IntKind.u8) l29::.l (Ty.int IntKind.u8) l30::.l (Ty.int IntKind.u8) l31::.l (Ty.int IntKind.u8) l32::.l (Ty.int IntKind.u8) l33::.l (Ty.int IntKind.u8) l34::.l (Ty.int IntKind.u8) l35::.l (Ty.int IntKind.u8) l36::.l (Ty.int IntKind.u8) l37::.l (Ty.int IntKind.u8) l38::[])) (x2k [.k 0,.n n0,.n 4,.n n1,.n n2,.n n3,.n n4,.n n5,.l TC l6,.n n7,.n n8,.n n9,.n n10,.n n11,.n n12,.n n13,.n n14,.l TB l15,.n n16,.n n17,.n n18,.n n19,.n n20,.n n21,.l TB l22,.n n23,.n n24,.n n25,.n n26,.n n27,.l TB l28,.l TB l29,.l TB l30,.l TB l31,.l TB l32,.l TB l33,.l TB l34,.l TB l35,.l TB l36,.l TB l37,.l TB l38]):=
(.path [1,1,0,0,0,0,1,0,0,0,0,1,1] (by kernel_rfl)
(.node (by kernel_rfl) (by kernel_rfl) (fun h0=>
(.path [1] (by kernel_rfl)
(.leaf (by kernel_rfl)))) (fun h0=>
(.node (by kernel_rfl) (by kernel_rfl) (fun h1=>
(.path [1] (by kernel_rfl)
(.leaf (by kernel_rfl)))) (fun h1=>
.none)))))
def r3b:List Dat→Tree Step
 |(.n n0::.n n1::.n n2::.n n3::.n n4::.n n5::.l (Ty.pair (Ty.int IntKind.u8) (Ty.int IntKind.i64)) l6::.n n7::.n n8::.n n9::.n n10::.n n11::.n n12::.n n13::.n n14::.l (Ty.int IntKind.u8) l15::.n n16::.n n17::.n n18::.n n19::.n n20::.n n21::.l (Ty.int IntKind.u8) l22::.n n23::.n n24::.n n25::.n n26::.n n27::.l (Ty.int IntKind.u8) l28::.l (Ty.int IntKind.u8) l29::.l (Ty.int IntKind.u8) l30::.l (Ty.int IntKind.u8) l31::.l (Ty.int IntKind.u8) l32::.l (Ty.int IntKind.u8) l33::.l (Ty.int IntKind.u8) l34::.l (Ty.int IntKind.u8) l35::.l (Ty.int IntKind.u8) l36::.l (Ty.int IntKind.u8) l37::.l (Ty.int IntKind.u8) l38::[])=>
  (.leaf (Step.stop 0 [.n n0,.n n1,.n n2,.n n3,.n n4,.n n5,.l (Ty.pair (Ty.int IntKind.u8) (Ty.int IntKind.i64)) l6,.n n7,.n n8,.n n9,.n n10,.n n11,.n n12,.n n13,.n n14,.l (Ty.int IntKind.u8) l15,.n n16,.n n17,.n n18,.n n19,.n n20,.n n21,.l (Ty.int IntKind.u8) l22,.n n23,.n n24,.n n25,.n n26,.n n27,.l (Ty.int IntKind.u8) l28]))
 |_=>.bad 0
theorem s3q (n0:Int)(n1:Int)(n2:Int)(n3:Int)(n4:Int)(n5:Int)(l6:List (Ty.den (Ty.pair (Ty.int IntKind.u8) (Ty.int IntKind.i64))))(n7:Int)(n8:Int)(n9:Int)(n10:Int)(n11:Int)(n12:Int)(n13:Int)(n14:Int)(l15:List (Ty.den (Ty.int IntKind.u8)))(n16:Int)(n17:Int)(n18:Int)(n19:Int)(n20:Int)(n21:Int)(l22:List (Ty.den (Ty.int IntKind.u8)))(n23:Int)(n24:Int)(n25:Int)(n26:Int)(n27:Int)(l28:List (Ty.den (Ty.int IntKind.u8)))(l29:List (Ty.den (Ty.int IntKind.u8)))(l30:List (Ty.den (Ty.int IntKind.u8)))(l31:List (Ty.den (Ty.int IntKind.u8)))(l32:List (Ty.den (Ty.int IntKind.u8)))(l33:List (Ty.den (Ty.int IntKind.u8)))(l34:List (Ty.den (Ty.int IntKind.u8)))(l35:List (Ty.den (Ty.int IntKind.u8)))(l36:List (Ty.den (Ty.int IntKind.u8)))(l37:List (Ty.den (Ty.int IntKind.u8)))(l38:List (Ty.den (Ty.int IntKind.u8))):Imp (r3b (.n n0::.n n1::.n n2::.n n3::.n n4::.n n5::.l (Ty.pair (Ty.int IntKind.u8) (Ty.int IntKind.i64)) l6::.n n7::.n n8::.n n9::.n n10::.n n11::.n n12::.n n13::.n n14::.l (Ty.int IntKind.u8) l15::.n n16::.n n17::.n n18::.n n19::.n n20::.n n21::.l (Ty.int IntKind.u8) l22::.n n23::.n n24::.n n25::.n n26::.n n27::.l (Ty.int IntKind.u8) l28::.l (Ty.int IntKind.u8) l29::.l (Ty.int IntKind.u8) l30::.l (Ty.int IntKind.u8) l31::.l (Ty.int IntKind.u8) l32::.l (Ty.int IntKind.u8) l33::.l (Ty.int IntKind.u8) l34::.l (Ty.int IntKind.u8) l35::.l (Ty.int IntKind.u8) l36::.l (Ty.int IntKind.u8) l37::.l (Ty.int IntKind.u8) l38::[])) (x2k [.k 0,.n n0,.n 5,.n n1,.n n2,.n n3,.n n4,.n n5,.l TC l6,.n n7,.n n8,.n n9,.n n10,.n n11,.n n12,.n n13,.n n14,.l TB l15,.n n16,.n n17,.n n18,.n n19,.n n20,.n n21,.l TB l22,.n n23,.n n24,.n n25,.n n26,.n n27,.l TB l28,.l TB l29,.l TB l30,.l TB l31,.l TB l32,.l TB l33,.l TB l34,.l TB l35,.l TB l36,.l TB l37,.l TB l38]):=
(.path [1,0,1] (by kernel_rfl)
(.leaf (by kernel_rfl)))
def j3o (env:List Dat):Tree Step:=Lk.stepMC false LK n3w 3 4 (lsM [(9,L3_9)] 0) (mkM 0 [] [(sh 85 [(5,.ptr 0 0),(6,.ptr 1 0),(7,.ptr 2 0),(8,.ptr 3 0),(9,.ptr 4 0),(11,.int .i64 0)],[inB 1,ouB 7,stB 12,loB 17,liB 24])] [] [(.exit 0,sh 85 [],[]),(.ret,sh 85 [(10,.bool 0)],[])] fun _=>none) env
theorem r3l: ∃f:List Dat→Option (Nat×List Dat),∀env,f env=a0b j3o FU env:=⟨a0b j3o FU,fun _=>rfl⟩
def s3x:List Dat→Option (Nat×List Dat):=Classical.choose r3l
theorem r3k (env:List Dat):s3x env=a0b j3o FU env:=Classical.choose_spec r3l env
def L3_4:MBox:=mkM 0 [] [(sh 85 [(5,.ptr 0 0),(6,.ptr 1 0),(7,.ptr 2 0),(8,.ptr 3 0),(9,.ptr 4 0),(11,.int .i64 0)],[inB 1,ouB 7,stB 12,loB 17,liB 24])] [] [(.exit 0,sh 85 [],[]),(.ret,sh 85 [(10,.bool 0)],[])] s3x
theorem m4t:L3_4=mkM 0 [] [(sh 85 [(5,.ptr 0 0),(6,.ptr 1 0),(7,.ptr 2 0),(8,.ptr 3 0),(9,.ptr 4 0),(11,.int .i64 0)],[inB 1,ouB 7,stB 12,loB 17,liB 24])] [] [(.exit 0,sh 85 [],[]),(.ret,sh 85 [(10,.bool 0)],[])] (a0b j3o FU):=congrArg (fun f=>mkM 0 [] [(sh 85 [(5,.ptr 0 0),(6,.ptr 1 0),(7,.ptr 2 0),(8,.ptr 3 0),(9,.ptr 4 0),(11,.int .i64 0)],[inB 1,ouB 7,stB 12,loB 17,liB 24])] [] [(.exit 0,sh 85 [],[]),(.ret,sh 85 [(10,.bool 0)],[])] f) (funext r3k)
theorem L3_4_in:LsOk Try.prog 0 (lsM [(9,L3_9)] 0) (cAt Try.prog 3 4):=LsOk.many fun j B hB hk c hc hi=>by
 simp only[b0d]at hB
 split at hB
 ·rename_i e;have:=Nat.eq_of_beq_eq_true e;subst this;cases hB
  have e1:v0m (cAt Try.prog 3 4) 9=[cAt Try.prog 3 9]:=by kernel_rfl
  have e2:=a0d hc hi
  rw[e1]at e2;cases List.mem_singleton.1 e2;exact g3p
 cases hB
theorem n4i: ∀t s x,(a0h L3_4 t s).sel=some x→a0k Try.prog 0 (.loop (cAt Try.prog 3 4)) t s x:=by
 rw[m4t]
 exact a0o (st:=j3o) (m:=FU) j3f hmix false (L3_4_in) (by kernel_rfl) (fun env y h=>by rw[←stepMC_lk];exact h)
def m3c:List Dat→Tree Step
 |[.n n0,.n n1,.n n2,.n n3,.n n4,.n n5,.l (Ty.pair (Ty.int IntKind.u8) (Ty.int IntKind.i64)) l6,.n n7,.n n8,.n n9,.n n10,.n n11,.n n12,.n n13,.n n14,.l (Ty.int IntKind.u8) l15,.n n16,.n n17,.n n18,.n n19,.n n20,.n n21,.l (Ty.int IntKind.u8) l22,.n n23,.n n24,.n n25,.n n26,.n n27,.l (Ty.int IntKind.u8) l28]=>
  (.node (decide (n0<(2:Int)))
   (let r1:Option (Nat×List Dat):=(k3m [.n n1,.n n2,.n n3,.n n4,.n n5,.l (Ty.pair (Ty.int IntKind.u8) (Ty.int IntKind.i64)) l6]);
   (.node (isK 0 [HK.l (Ty.int IntKind.u8)] r1)
    (let r2:Option (Nat×List Dat):=(i3w [.n n7,.n n8,.n n9,.n n10,.n n11]);
    (.node (isK 0 [HK.l (Ty.int IntKind.u8)] r2)
     (let r3:Option (Nat×List Dat):=(j3d [.n n12,.n n13,.n n14,.l (Ty.int IntKind.u8) l15,.n n16]);
     (.node (isK 0 [HK.l (Ty.int IntKind.u8)] r3)
      (let r4:Option (Nat×List Dat):=(i3t [.n n17,.n n18,.n n19,.n n20,.n n21,.l (Ty.int IntKind.u8) l22,.n n23]);
      (.node (isK 0 [HK.l (Ty.int IntKind.u8)] r4)
       (let r5:Option (Nat×List Dat):=(i3u [.n n24,.n n25,.n n26,.n n27,.l (Ty.int IntKind.u8) l28]);
       (.node (isK 0 [HK.l (Ty.int IntKind.u8)] r5)
        (let r6:Option (Nat×List Dat):=(m3p [.n n1,.n n2,.n n3,.n n4,.n n5,.l (Ty.pair (Ty.int IntKind.u8) (Ty.int IntKind.i64)) l6]);
        (.node (isK 0 [HK.l (Ty.int IntKind.u8)] r6)
         (let r7:Option (Nat×List Dat):=(m3m [.n n7,.n n8,.n n9,.n n10,.n n11]);
         (.node (isK 0 [HK.l (Ty.int IntKind.u8)] r7)
          (let r8:Option (Nat×List Dat):=(l3z [.n n12,.n n13,.n n14,.l (Ty.int IntKind.u8) l15,.n n16]);
          (.node (isK 0 [HK.l (Ty.int IntKind.u8)] r8)
           (let r9:Option (Nat×List Dat):=(l3x [.n n17,.n n18,.n n19,.n n20,.n n21,.l (Ty.int IntKind.u8) l22,.n n23]);
           (.node (isK 0 [HK.l (Ty.int IntKind.u8)] r9)
            (let r10:Option (Nat×List Dat):=(m3y [.n n24,.n n25,.n n26,.n n27,.s (r2b l28)]);
            (.node (isK 0 [HK.l (Ty.int IntKind.u8)] r10)
             (let r11:Option (Nat×List Dat):=(x2h (.k 0::.n n0::.n (0:Int)::.n n1::.n n2::.n n3::.n n4::.n n5::.l (Ty.pair (Ty.int IntKind.u8) (Ty.int IntKind.i64)) l6::.n n7::.n n8::.n n9::.n n10::.n n11::.n n12::.n n13::.n n14::.l (Ty.int IntKind.u8) l15::.n n16::.n n17::.n n18::.n n19::.n n20::.n n21::.l (Ty.int IntKind.u8) l22::.n n23::.n n24::.n n25::.n n26::.n n27::.l (Ty.int IntKind.u8) l28::.l (Ty.int IntKind.u8) (gl (Ty.int IntKind.u8) (dOf r1) 0)::.l (Ty.int IntKind.u8) (gl (Ty.int IntKind.u8) (dOf r2) 0)::.l (Ty.int IntKind.u8) (gl (Ty.int IntKind.u8) (dOf r3) 0)::.l (Ty.int IntKind.u8) (gl (Ty.int IntKind.u8) (dOf r4) 0)::.l (Ty.int IntKind.u8) (gl (Ty.int IntKind.u8) (dOf r5) 0)::.l (Ty.int IntKind.u8) (gl (Ty.int IntKind.u8) (dOf r6) 0)::.l (Ty.int IntKind.u8) (gl (Ty.int IntKind.u8) (dOf r7) 0)::.l (Ty.int IntKind.u8) (gl (Ty.int IntKind.u8) (dOf r8) 0)::.l (Ty.int IntKind.u8) (gl (Ty.int IntKind.u8) (dOf r9) 0)::.l (Ty.int IntKind.u8) (gl (Ty.int IntKind.u8) (dOf r10) 0)::[]));
             (.node (isK 0 [HK.n,HK.n,HK.n,HK.n,HK.n,HK.n,HK.l (Ty.pair (Ty.int IntKind.u8) (Ty.int IntKind.i64)),HK.n,HK.n,HK.n,HK.n,HK.n,HK.n,HK.n,HK.n,HK.l (Ty.int IntKind.u8),HK.n,HK.n,HK.n,HK.n,HK.n,HK.n,HK.l (Ty.int IntKind.u8),HK.n,HK.n,HK.n,HK.n,HK.n,HK.l (Ty.int IntKind.u8)] r11)
              (.leaf (Step.go [.k 0,.n (IntKind.wrap .i64 (gn (dOf r11) 0+(1:Int))),.n (gn (dOf r11) 1),.n (gn (dOf r11) 2),.n (gn (dOf r11) 3),.n (gn (dOf r11) 4),.n (gn (dOf r11) 5),.l (Ty.pair (Ty.int IntKind.u8) (Ty.int IntKind.i64)) (gl (Ty.pair (Ty.int IntKind.u8) (Ty.int IntKind.i64)) (dOf r11) 6),.n (gn (dOf r11) 7),.n (gn (dOf r11) 8),.n (gn (dOf r11) 9),.n (gn (dOf r11) 10),.n (gn (dOf r11) 11),.n (gn (dOf r11) 12),.n (gn (dOf r11) 13),.n (gn (dOf r11) 14),.l (Ty.int IntKind.u8) (gl (Ty.int IntKind.u8) (dOf r11) 15),.n (gn (dOf r11) 16),.n (gn (dOf r11) 17),.n (gn (dOf r11) 18),.n (gn (dOf r11) 19),.n (gn (dOf r11) 20),.n (gn (dOf r11) 21),.l (Ty.int IntKind.u8) (gl (Ty.int IntKind.u8) (dOf r11) 22),.n (gn (dOf r11) 23),.n (gn (dOf r11) 24),.n (gn (dOf r11) 25),.n (gn (dOf r11) 26),.n (gn (dOf r11) 27),.l (Ty.int IntKind.u8) (gl (Ty.int IntKind.u8) (dOf r11) 28)]))
              (.node (isK 1 [HK.b] r11)
              (.leaf (Step.stop 1 [.b (gb (dOf r11) 0)]))
              (.bad 351))))
             (.bad 351)))
            (.bad 351)))
           (.bad 351)))
          (.bad 351)))
         (.bad 351)))
        (.bad 351)))
       (.bad 351)))
      (.bad 351)))
     (.bad 351)))
    (.bad 351)))
   (.leaf (Step.stop 0 [])))
 |_=>.bad 0
theorem k3d (n0:Int)(n1:Int)(n2:Int)(n3:Int)(n4:Int)(n5:Int)(l6:List (Ty.den (Ty.pair (Ty.int IntKind.u8) (Ty.int IntKind.i64))))(n7:Int)(n8:Int)(n9:Int)(n10:Int)(n11:Int)(n12:Int)(n13:Int)(n14:Int)(l15:List (Ty.den (Ty.int IntKind.u8)))(n16:Int)(n17:Int)(n18:Int)(n19:Int)(n20:Int)(n21:Int)(l22:List (Ty.den (Ty.int IntKind.u8)))(n23:Int)(n24:Int)(n25:Int)(n26:Int)(n27:Int)(l28:List (Ty.den (Ty.int IntKind.u8)))(g0:0≤n0)(g1:l15.length=64)(g2:l22.length=64):Imp (m3c [.n n0,.n n1,.n n2,.n n3,.n n4,.n n5,.l (Ty.pair (Ty.int IntKind.u8) (Ty.int IntKind.i64)) l6,.n n7,.n n8,.n n9,.n n10,.n n11,.n n12,.n n13,.n n14,.l (Ty.int IntKind.u8) l15,.n n16,.n n17,.n n18,.n n19,.n n20,.n n21,.l (Ty.int IntKind.u8) l22,.n n23,.n n24,.n n25,.n n26,.n n27,.l (Ty.int IntKind.u8) l28]) (j3o [.k 0,.n n0,.n n1,.n n2,.n n3,.n n4,.n n5,.l TC l6,.n n7,.n n8,.n n9,.n n10,.n n11,.n n12,.n n13,.n n14,.l TB l15,.n n16,.n n17,.n n18,.n n19,.n n20,.n n21,.l TB l22,.n n23,.n n24,.n n25,.n n26,.n n27,.l TB l28]):=
(.path [1] (by kernel_rfl)
(.node (by kernel_rfl) (by kernel_rfl) (fun h0=>
(.node (by kernel_rfl) (by kernel_rfl) (fun h1=>
(.path [1] (by kernel_rfl)
(.node (by kernel_rfl) (by kernel_rfl) (fun h2=>
(.path [1] (by kernel_rfl)
(.node (by kernel_rfl) (by kernel_rfl) (fun h3=>
(.path [1] (by kernel_rfl)
(.node (by kernel_rfl) (by kernel_rfl) (fun h4=>
(.path [1] (by kernel_rfl)
(.node (by kernel_rfl) (by kernel_rfl) (fun h5=>
(.path [1,1,1,1] (by kernel_rfl)
(.node (by kernel_rfl) (by kernel_rfl) (fun h6=>
(.path [1,1,1] (by kernel_rfl)
(.node (by kernel_rfl) (by kernel_rfl) (fun h7=>
(.path [1] (by kernel_rfl)
(.node (by kernel_rfl) (by kernel_rfl) (fun h8=>
(.path [1,1,1] (by kernel_rfl)
(.node (by kernel_rfl) (by kernel_rfl) (fun h9=>
(.path [1,1,1] (by kernel_rfl)
(.node (by kernel_rfl) (by kernel_rfl) (fun h10=>
(.path [1,1] (by kernel_rfl)
(.node (by kernel_rfl) (by kernel_rfl) (fun h11=>
(.path [1] (by kernel_rfl)
(.leaf (by kernel_rfl)))) (fun h11=>
(.node (by kernel_rfl) (by kernel_rfl) (fun h12=>
(.path [1] (by kernel_rfl)
(.leaf (by kernel_rfl)))) (fun h12=>
.none)))))) (fun h10=>
.none)))) (fun h9=>
.none)))) (fun h8=>
.none)))) (fun h7=>
.none)))) (fun h6=>
.none)))) (fun h5=>
.none)))) (fun h4=>
.none)))) (fun h3=>
.none)))) (fun h2=>
.none)))) (fun h1=>
.none))) (fun h0=>
(.path [1] (by kernel_rfl)
(.leaf (by kernel_rfl))))))
theorem ls_3_ok:LsOk Try.prog (0) (lsM [(4,L3_4)] (0)) (a0r Try.prog 3):=LsOk.many fun j B hB hk c hc hi=>by
 simp only[b0d]at hB
 split at hB
 ·rename_i e;have:=Nat.eq_of_beq_eq_true e;subst this;cases hB
  have e1:p0c Try.prog 3 4=[cAt Try.prog 3 4]:=a0e (by kernel_rfl)
  have e2:c∈p0c Try.prog 3 4:=a0d hc hi
  rw[e1]at e2;cases List.mem_singleton.1 e2;exact n4i
 cases hB
def ev_W3 (env:List Dat):Tree Bool:=Lk.lawB false LK n3w 3 (lsM [(4,L3_4)] (0)) (instL [inV 0,ouV 6,stV 11,loV 16,liV 23] env)
def f3v:List Dat→Tree Bool
 |[.n n0,.n n1,.n n2,.n n3,.n n4,.l (Ty.pair (Ty.int IntKind.u8) (Ty.int IntKind.i64)) l5,.n n6,.n n7,.n n8,.n n9,.n n10,.n n11,.n n12,.n n13,.l (Ty.int IntKind.u8) l14,.n n15,.n n16,.n n17,.n n18,.n n19,.n n20,.l (Ty.int IntKind.u8) l21,.n n22,.n n23,.n n24,.n n25,.n n26,.l (Ty.int IntKind.u8) l27]=>
  (.node (decide ((↑(List.length l5):Int)≤(1000:Int)))
   (.node (!decide ((↑(List.length l27):Int)≤(5000:Int)))
   (.leaf (true))
   (let r1:Option (Nat×List Dat):=(s3x [.k 0,.n (0:Int),.n n0,.n n1,.n n2,.n n3,.n n4,.l (Ty.pair (Ty.int IntKind.u8) (Ty.int IntKind.i64)) l5,.n n6,.n n7,.n n8,.n n9,.n n10,.n n11,.n n12,.n n13,.l (Ty.int IntKind.u8) l14,.n n15,.n n16,.n n17,.n n18,.n n19,.n n20,.l (Ty.int IntKind.u8) l21,.n n22,.n n23,.n n24,.n n25,.n n26,.l (Ty.int IntKind.u8) l27]);
    (.node (isK 0 [] r1)
    (.leaf (true))
    (.node (isK 1 [HK.b] r1)
     (.leaf (gb (dOf r1) 0))
     (.bad 351)))))
   (.leaf (true)))
 |_=>.bad 0
theorem e3f (n0:Int)(n1:Int)(n2:Int)(n3:Int)(n4:Int)(l5:List (Ty.den (Ty.pair (Ty.int IntKind.u8) (Ty.int IntKind.i64))))(n6:Int)(n7:Int)(n8:Int)(n9:Int)(n10:Int)(n11:Int)(n12:Int)(n13:Int)(l14:List (Ty.den (Ty.int IntKind.u8)))(n15:Int)(n16:Int)(n17:Int)(n18:Int)(n19:Int)(n20:Int)(l21:List (Ty.den (Ty.int IntKind.u8)))(n22:Int)(n23:Int)(n24:Int)(n25:Int)(n26:Int)(l27:List (Ty.den (Ty.int IntKind.u8)))(g0:l14.length=64)(g1:l21.length=64):Imp (f3v [.n n0,.n n1,.n n2,.n n3,.n n4,.l (Ty.pair (Ty.int IntKind.u8) (Ty.int IntKind.i64)) l5,.n n6,.n n7,.n n8,.n n9,.n n10,.n n11,.n n12,.n n13,.l (Ty.int IntKind.u8) l14,.n n15,.n n16,.n n17,.n n18,.n n19,.n n20,.l (Ty.int IntKind.u8) l21,.n n22,.n n23,.n n24,.n n25,.n n26,.l (Ty.int IntKind.u8) l27]) (ev_W3 [.n n0,.n n1,.n n2,.n n3,.n n4,.l TC l5,.n n6,.n n7,.n n8,.n n9,.n n10,.n n11,.n n12,.n n13,.l TB l14,.n n15,.n n16,.n n17,.n n18,.n n19,.n n20,.l TB l21,.n n22,.n n23,.n n24,.n n25,.n n26,.l TB l27]):=
(.path [1] (by kernel_rfl)
(.node (by kernel_rfl) (by kernel_rfl) (fun h0=>
(.path [1] (by kernel_rfl)
(.node (by kernel_rfl) (by kernel_rfl) (fun h1=>
(.path [1,1,1] (by kernel_rfl)
(.leaf (by kernel_rfl)))) (fun h1=>
(.node (by kernel_rfl) (by kernel_rfl) (fun h2=>
(.path [1,1,1] (by kernel_rfl)
(.leaf (by kernel_rfl)))) (fun h2=>
(.node (by kernel_rfl) (by kernel_rfl) (fun h3=>
(.leaf (by kernel_rfl))) (fun h3=>
.none)))))))) (fun h0=>
(.path [0,1,1,1,1,1] (by kernel_rfl)
(.leaf (by kernel_rfl))))))
theorem m3g (a:ByteArray):f0b a a=true:=by unfold f0b;simp
theorem o3c {st:List Dat→Tree Step}{f:Nat}{e e':List Dat}{y:Option (Nat×List Dat)}(h:(st e).sel=some (.go e'))(k:a0b st f e'=y):a0b st (f+1) e=y:=by
 unfold a0b;rw[h];exact k
theorem l3t {st:List Dat→Tree Step}{f n:Nat}{e d:List Dat}(h:(st e).sel=some (.stop n d)):a0b st (f+1) e=some (n,d):=by
 unfold a0b;rw[h]
theorem lpj0 (t q:Int)(v0:Int)(v1:Int)(v2:Int)(v3:Int)(v4:Int)(v5:List Cmd)(v6:Int)(v7:Int)(v8:Int)(v9:Int)(v10:Int)(v11:Int)(v12:Int)(v13:Int)(v14:List Int)(v15:Int)(v16:Int)(v17:Int)(v18:Int)(v19:Int)(v20:Int)(v21:List Int)(v22:Int)(v23:Int)(v24:Int)(v25:Int)(v26:Int)(v27:List Int)(a1 a2 a3 a4 b0 b1 b2 b3 b4:List Int): ∀(m i:Nat) (x:List Int) (f:Nat),i+m=x.length→x.length≤1000000→m<f→ ∃x':List Int,a0b h3c f [.k 0,.n t,.n q,.n (i:Int),.n v0,.n v1,.n v2,.n v3,.n v4,.l TC v5,.n v6,.n v7,.n v8,.n v9,.n v10,.n v11,.n v12,.n v13,.l TB v14,.n v15,.n v16,.n v17,.n v18,.n v19,.n v20,.l TB v21,.n v22,.n v23,.n v24,.n v25,.n v26,.l TB v27,.l TB x,.l TB a1,.l TB a2,.l TB a3,.l TB a4,.l TB b0,.l TB b1,.l TB b2,.l TB b3,.l TB b4]=some (0,[.n t,.n q,.n v0,.n v1,.n v2,.n v3,.n v4,.l TC v5,.n v6,.n v7,.n v8,.n v9,.n v10,.n v11,.n v12,.n v13,.l TB v14,.n v15,.n v16,.n v17,.n v18,.n v19,.n v20,.l TB v21,.n v22,.n v23,.n v24,.n v25,.n v26,.l TB v27,.l TB x',.l TB a1,.l TB a2,.l TB a3,.l TB a4,.l TB b0,.l TB b1,.l TB b2,.l TB b3,.l TB b4])
 |_,_,_,0,_,_,h=>by omega
 |0,i,x,f+1,hi,hx,hf=>by
  have e:(h3c [.k 0,.n t,.n q,.n (i:Int),.n v0,.n v1,.n v2,.n v3,.n v4,.l TC v5,.n v6,.n v7,.n v8,.n v9,.n v10,.n v11,.n v12,.n v13,.l TB v14,.n v15,.n v16,.n v17,.n v18,.n v19,.n v20,.l TB v21,.n v22,.n v23,.n v24,.n v25,.n v26,.l TB v27,.l TB x,.l TB a1,.l TB a2,.l TB a3,.l TB a4,.l TB b0,.l TB b1,.l TB b2,.l TB b3,.l TB b4]).sel=some (.stop 0 [.n t,.n q,.n v0,.n v1,.n v2,.n v3,.n v4,.l TC v5,.n v6,.n v7,.n v8,.n v9,.n v10,.n v11,.n v12,.n v13,.l TB v14,.n v15,.n v16,.n v17,.n v18,.n v19,.n v20,.l TB v21,.n v22,.n v23,.n v24,.n v25,.n v26,.l TB v27,.l TB x,.l TB a1,.l TB a2,.l TB a3,.l TB a4,.l TB b0,.l TB b1,.l TB b2,.l TB b3,.l TB b4]):=by
   refine k3q _ _ _ _ _ _ _ _ _ _ _ _ _ _ _ _ _ _ _ _ _ _ _ _ _ _ _ _ _ _ _ _ _ _ _ _ _ _ _ _ _ (by omega) _ ?_
   unfold l3r
   exact a0c (decide_eq_false (show¬((i:Int)<(x.length:Int)) by omega)) rfl
  exact⟨x,l3t e⟩
 |m+1,i,x,f+1,hi,hx,hf=>by
  have w:IntKind.wrap .i64 ((i:Int)+1)=((i+1:Nat):Int):=by rw[w64d];omega
  have hl:(x.set i (IntKind.wrap .u8 (x.getD i 0+1))).length=x.length:=List.length_set
  have e:(h3c [.k 0,.n t,.n q,.n (i:Int),.n v0,.n v1,.n v2,.n v3,.n v4,.l TC v5,.n v6,.n v7,.n v8,.n v9,.n v10,.n v11,.n v12,.n v13,.l TB v14,.n v15,.n v16,.n v17,.n v18,.n v19,.n v20,.l TB v21,.n v22,.n v23,.n v24,.n v25,.n v26,.l TB v27,.l TB x,.l TB a1,.l TB a2,.l TB a3,.l TB a4,.l TB b0,.l TB b1,.l TB b2,.l TB b3,.l TB b4]).sel=some (.go [.k 0,.n t,.n q,.n ((i+1:Nat):Int),.n v0,.n v1,.n v2,.n v3,.n v4,.l TC v5,.n v6,.n v7,.n v8,.n v9,.n v10,.n v11,.n v12,.n v13,.l TB v14,.n v15,.n v16,.n v17,.n v18,.n v19,.n v20,.l TB v21,.n v22,.n v23,.n v24,.n v25,.n v26,.l TB v27,.l TB (x.set i (IntKind.wrap .u8 (x.getD i 0+1))),.l TB a1,.l TB a2,.l TB a3,.l TB a4,.l TB b0,.l TB b1,.l TB b2,.l TB b3,.l TB b4]):=by
   refine k3q _ _ _ _ _ _ _ _ _ _ _ _ _ _ _ _ _ _ _ _ _ _ _ _ _ _ _ _ _ _ _ _ _ _ _ _ _ _ _ _ _ (by omega) _ ?_
   unfold l3r
   refine a0a (decide_eq_true (show(i:Int)<(x.length:Int) by omega)) ?_
   rw[w]
   rfl
  obtain⟨x',ih⟩:=lpj0 t q v0 v1 v2 v3 v4 v5 v6 v7 v8 v9 v10 v11 v12 v13 v14 v15 v16 v17 v18 v19 v20 v21 v22 v23 v24 v25 v26 v27 a1 a2 a3 a4 b0 b1 b2 b3 b4 m (i+1) _ f (by rw[hl];omega) (by rw[hl];exact hx) (by omega)
  exact⟨x',o3c e ih⟩
theorem lpj1 (t q:Int)(v0:Int)(v1:Int)(v2:Int)(v3:Int)(v4:Int)(v5:List Cmd)(v6:Int)(v7:Int)(v8:Int)(v9:Int)(v10:Int)(v11:Int)(v12:Int)(v13:Int)(v14:List Int)(v15:Int)(v16:Int)(v17:Int)(v18:Int)(v19:Int)(v20:Int)(v21:List Int)(v22:Int)(v23:Int)(v24:Int)(v25:Int)(v26:Int)(v27:List Int)(a0 a2 a3 a4 b0 b1 b2 b3 b4:List Int): ∀(m i:Nat) (x:List Int) (f:Nat),i+m=x.length→x.length≤1000000→m<f→ ∃x':List Int,a0b h3c f [.k 1,.n t,.n q,.n (i:Int),.n v0,.n v1,.n v2,.n v3,.n v4,.l TC v5,.n v6,.n v7,.n v8,.n v9,.n v10,.n v11,.n v12,.n v13,.l TB v14,.n v15,.n v16,.n v17,.n v18,.n v19,.n v20,.l TB v21,.n v22,.n v23,.n v24,.n v25,.n v26,.l TB v27,.l TB x,.l TB a0,.l TB a2,.l TB a3,.l TB a4,.l TB b0,.l TB b1,.l TB b2,.l TB b3,.l TB b4]=some (0,[.n t,.n q,.n v0,.n v1,.n v2,.n v3,.n v4,.l TC v5,.n v6,.n v7,.n v8,.n v9,.n v10,.n v11,.n v12,.n v13,.l TB v14,.n v15,.n v16,.n v17,.n v18,.n v19,.n v20,.l TB v21,.n v22,.n v23,.n v24,.n v25,.n v26,.l TB v27,.l TB a0,.l TB x',.l TB a2,.l TB a3,.l TB a4,.l TB b0,.l TB b1,.l TB b2,.l TB b3,.l TB b4])
 |_,_,_,0,_,_,h=>by omega
 |0,i,x,f+1,hi,hx,hf=>by
  have e:(h3c [.k 1,.n t,.n q,.n (i:Int),.n v0,.n v1,.n v2,.n v3,.n v4,.l TC v5,.n v6,.n v7,.n v8,.n v9,.n v10,.n v11,.n v12,.n v13,.l TB v14,.n v15,.n v16,.n v17,.n v18,.n v19,.n v20,.l TB v21,.n v22,.n v23,.n v24,.n v25,.n v26,.l TB v27,.l TB x,.l TB a0,.l TB a2,.l TB a3,.l TB a4,.l TB b0,.l TB b1,.l TB b2,.l TB b3,.l TB b4]).sel=some (.stop 0 [.n t,.n q,.n v0,.n v1,.n v2,.n v3,.n v4,.l TC v5,.n v6,.n v7,.n v8,.n v9,.n v10,.n v11,.n v12,.n v13,.l TB v14,.n v15,.n v16,.n v17,.n v18,.n v19,.n v20,.l TB v21,.n v22,.n v23,.n v24,.n v25,.n v26,.l TB v27,.l TB a0,.l TB x,.l TB a2,.l TB a3,.l TB a4,.l TB b0,.l TB b1,.l TB b2,.l TB b3,.l TB b4]):=by
   refine k3t _ _ _ _ _ _ _ _ _ _ _ _ _ _ _ _ _ _ _ _ _ _ _ _ _ _ _ _ _ _ _ _ _ _ _ _ _ _ _ _ _ (by omega) _ ?_
   unfold l3l
   exact a0c (decide_eq_false (show¬((i:Int)<(x.length:Int)) by omega)) rfl
  exact⟨x,l3t e⟩
 |m+1,i,x,f+1,hi,hx,hf=>by
  have w:IntKind.wrap .i64 ((i:Int)+1)=((i+1:Nat):Int):=by rw[w64d];omega
  have hl:(x.set i (IntKind.wrap .u8 (x.getD i 0+1))).length=x.length:=List.length_set
  have e:(h3c [.k 1,.n t,.n q,.n (i:Int),.n v0,.n v1,.n v2,.n v3,.n v4,.l TC v5,.n v6,.n v7,.n v8,.n v9,.n v10,.n v11,.n v12,.n v13,.l TB v14,.n v15,.n v16,.n v17,.n v18,.n v19,.n v20,.l TB v21,.n v22,.n v23,.n v24,.n v25,.n v26,.l TB v27,.l TB x,.l TB a0,.l TB a2,.l TB a3,.l TB a4,.l TB b0,.l TB b1,.l TB b2,.l TB b3,.l TB b4]).sel=some (.go [.k 1,.n t,.n q,.n ((i+1:Nat):Int),.n v0,.n v1,.n v2,.n v3,.n v4,.l TC v5,.n v6,.n v7,.n v8,.n v9,.n v10,.n v11,.n v12,.n v13,.l TB v14,.n v15,.n v16,.n v17,.n v18,.n v19,.n v20,.l TB v21,.n v22,.n v23,.n v24,.n v25,.n v26,.l TB v27,.l TB (x.set i (IntKind.wrap .u8 (x.getD i 0+1))),.l TB a0,.l TB a2,.l TB a3,.l TB a4,.l TB b0,.l TB b1,.l TB b2,.l TB b3,.l TB b4]):=by
   refine k3t _ _ _ _ _ _ _ _ _ _ _ _ _ _ _ _ _ _ _ _ _ _ _ _ _ _ _ _ _ _ _ _ _ _ _ _ _ _ _ _ _ (by omega) _ ?_
   unfold l3l
   refine a0a (decide_eq_true (show(i:Int)<(x.length:Int) by omega)) ?_
   rw[w]
   rfl
  obtain⟨x',ih⟩:=lpj1 t q v0 v1 v2 v3 v4 v5 v6 v7 v8 v9 v10 v11 v12 v13 v14 v15 v16 v17 v18 v19 v20 v21 v22 v23 v24 v25 v26 v27 a0 a2 a3 a4 b0 b1 b2 b3 b4 m (i+1) _ f (by rw[hl];omega) (by rw[hl];exact hx) (by omega)
  exact⟨x',o3c e ih⟩
theorem lpj2 (t q:Int)(v0:Int)(v1:Int)(v2:Int)(v3:Int)(v4:Int)(v5:List Cmd)(v6:Int)(v7:Int)(v8:Int)(v9:Int)(v10:Int)(v11:Int)(v12:Int)(v13:Int)(v14:List Int)(v15:Int)(v16:Int)(v17:Int)(v18:Int)(v19:Int)(v20:Int)(v21:List Int)(v22:Int)(v23:Int)(v24:Int)(v25:Int)(v26:Int)(v27:List Int)(a0 a1 a3 a4 b0 b1 b2 b3 b4:List Int): ∀(m i:Nat) (x:List Int) (f:Nat),i+m=x.length→x.length≤1000000→m<f→ ∃x':List Int,a0b h3c f [.k 2,.n t,.n q,.n (i:Int),.n v0,.n v1,.n v2,.n v3,.n v4,.l TC v5,.n v6,.n v7,.n v8,.n v9,.n v10,.n v11,.n v12,.n v13,.l TB v14,.n v15,.n v16,.n v17,.n v18,.n v19,.n v20,.l TB v21,.n v22,.n v23,.n v24,.n v25,.n v26,.l TB v27,.l TB x,.l TB a0,.l TB a1,.l TB a3,.l TB a4,.l TB b0,.l TB b1,.l TB b2,.l TB b3,.l TB b4]=some (0,[.n t,.n q,.n v0,.n v1,.n v2,.n v3,.n v4,.l TC v5,.n v6,.n v7,.n v8,.n v9,.n v10,.n v11,.n v12,.n v13,.l TB v14,.n v15,.n v16,.n v17,.n v18,.n v19,.n v20,.l TB v21,.n v22,.n v23,.n v24,.n v25,.n v26,.l TB v27,.l TB a0,.l TB a1,.l TB x',.l TB a3,.l TB a4,.l TB b0,.l TB b1,.l TB b2,.l TB b3,.l TB b4])
 |_,_,_,0,_,_,h=>by omega
 |0,i,x,f+1,hi,hx,hf=>by
  have e:(h3c [.k 2,.n t,.n q,.n (i:Int),.n v0,.n v1,.n v2,.n v3,.n v4,.l TC v5,.n v6,.n v7,.n v8,.n v9,.n v10,.n v11,.n v12,.n v13,.l TB v14,.n v15,.n v16,.n v17,.n v18,.n v19,.n v20,.l TB v21,.n v22,.n v23,.n v24,.n v25,.n v26,.l TB v27,.l TB x,.l TB a0,.l TB a1,.l TB a3,.l TB a4,.l TB b0,.l TB b1,.l TB b2,.l TB b3,.l TB b4]).sel=some (.stop 0 [.n t,.n q,.n v0,.n v1,.n v2,.n v3,.n v4,.l TC v5,.n v6,.n v7,.n v8,.n v9,.n v10,.n v11,.n v12,.n v13,.l TB v14,.n v15,.n v16,.n v17,.n v18,.n v19,.n v20,.l TB v21,.n v22,.n v23,.n v24,.n v25,.n v26,.l TB v27,.l TB a0,.l TB a1,.l TB x,.l TB a3,.l TB a4,.l TB b0,.l TB b1,.l TB b2,.l TB b3,.l TB b4]):=by
   refine k3w _ _ _ _ _ _ _ _ _ _ _ _ _ _ _ _ _ _ _ _ _ _ _ _ _ _ _ _ _ _ _ _ _ _ _ _ _ _ _ _ _ (by omega) _ ?_
   unfold l3h
   exact a0c (decide_eq_false (show¬((i:Int)<(x.length:Int)) by omega)) rfl
  exact⟨x,l3t e⟩
 |m+1,i,x,f+1,hi,hx,hf=>by
  have w:IntKind.wrap .i64 ((i:Int)+1)=((i+1:Nat):Int):=by rw[w64d];omega
  have hl:(x.set i (IntKind.wrap .u8 (x.getD i 0+1))).length=x.length:=List.length_set
  have e:(h3c [.k 2,.n t,.n q,.n (i:Int),.n v0,.n v1,.n v2,.n v3,.n v4,.l TC v5,.n v6,.n v7,.n v8,.n v9,.n v10,.n v11,.n v12,.n v13,.l TB v14,.n v15,.n v16,.n v17,.n v18,.n v19,.n v20,.l TB v21,.n v22,.n v23,.n v24,.n v25,.n v26,.l TB v27,.l TB x,.l TB a0,.l TB a1,.l TB a3,.l TB a4,.l TB b0,.l TB b1,.l TB b2,.l TB b3,.l TB b4]).sel=some (.go [.k 2,.n t,.n q,.n ((i+1:Nat):Int),.n v0,.n v1,.n v2,.n v3,.n v4,.l TC v5,.n v6,.n v7,.n v8,.n v9,.n v10,.n v11,.n v12,.n v13,.l TB v14,.n v15,.n v16,.n v17,.n v18,.n v19,.n v20,.l TB v21,.n v22,.n v23,.n v24,.n v25,.n v26,.l TB v27,.l TB (x.set i (IntKind.wrap .u8 (x.getD i 0+1))),.l TB a0,.l TB a1,.l TB a3,.l TB a4,.l TB b0,.l TB b1,.l TB b2,.l TB b3,.l TB b4]):=by
   refine k3w _ _ _ _ _ _ _ _ _ _ _ _ _ _ _ _ _ _ _ _ _ _ _ _ _ _ _ _ _ _ _ _ _ _ _ _ _ _ _ _ _ (by omega) _ ?_
   unfold l3h
   refine a0a (decide_eq_true (show(i:Int)<(x.length:Int) by omega)) ?_
   rw[w]
   rfl
  obtain⟨x',ih⟩:=lpj2 t q v0 v1 v2 v3 v4 v5 v6 v7 v8 v9 v10 v11 v12 v13 v14 v15 v16 v17 v18 v19 v20 v21 v22 v23 v24 v25 v26 v27 a0 a1 a3 a4 b0 b1 b2 b3 b4 m (i+1) _ f (by rw[hl];omega) (by rw[hl];exact hx) (by omega)
  exact⟨x',o3c e ih⟩
theorem lpj3 (t q:Int)(v0:Int)(v1:Int)(v2:Int)(v3:Int)(v4:Int)(v5:List Cmd)(v6:Int)(v7:Int)(v8:Int)(v9:Int)(v10:Int)(v11:Int)(v12:Int)(v13:Int)(v14:List Int)(v15:Int)(v16:Int)(v17:Int)(v18:Int)(v19:Int)(v20:Int)(v21:List Int)(v22:Int)(v23:Int)(v24:Int)(v25:Int)(v26:Int)(v27:List Int)(a0 a1 a2 a4 b0 b1 b2 b3 b4:List Int): ∀(m i:Nat) (x:List Int) (f:Nat),i+m=x.length→x.length≤1000000→m<f→ ∃x':List Int,a0b h3c f [.k 3,.n t,.n q,.n (i:Int),.n v0,.n v1,.n v2,.n v3,.n v4,.l TC v5,.n v6,.n v7,.n v8,.n v9,.n v10,.n v11,.n v12,.n v13,.l TB v14,.n v15,.n v16,.n v17,.n v18,.n v19,.n v20,.l TB v21,.n v22,.n v23,.n v24,.n v25,.n v26,.l TB v27,.l TB x,.l TB a0,.l TB a1,.l TB a2,.l TB a4,.l TB b0,.l TB b1,.l TB b2,.l TB b3,.l TB b4]=some (0,[.n t,.n q,.n v0,.n v1,.n v2,.n v3,.n v4,.l TC v5,.n v6,.n v7,.n v8,.n v9,.n v10,.n v11,.n v12,.n v13,.l TB v14,.n v15,.n v16,.n v17,.n v18,.n v19,.n v20,.l TB v21,.n v22,.n v23,.n v24,.n v25,.n v26,.l TB v27,.l TB a0,.l TB a1,.l TB a2,.l TB x',.l TB a4,.l TB b0,.l TB b1,.l TB b2,.l TB b3,.l TB b4])
 |_,_,_,0,_,_,h=>by omega
 |0,i,x,f+1,hi,hx,hf=>by
  have e:(h3c [.k 3,.n t,.n q,.n (i:Int),.n v0,.n v1,.n v2,.n v3,.n v4,.l TC v5,.n v6,.n v7,.n v8,.n v9,.n v10,.n v11,.n v12,.n v13,.l TB v14,.n v15,.n v16,.n v17,.n v18,.n v19,.n v20,.l TB v21,.n v22,.n v23,.n v24,.n v25,.n v26,.l TB v27,.l TB x,.l TB a0,.l TB a1,.l TB a2,.l TB a4,.l TB b0,.l TB b1,.l TB b2,.l TB b3,.l TB b4]).sel=some (.stop 0 [.n t,.n q,.n v0,.n v1,.n v2,.n v3,.n v4,.l TC v5,.n v6,.n v7,.n v8,.n v9,.n v10,.n v11,.n v12,.n v13,.l TB v14,.n v15,.n v16,.n v17,.n v18,.n v19,.n v20,.l TB v21,.n v22,.n v23,.n v24,.n v25,.n v26,.l TB v27,.l TB a0,.l TB a1,.l TB a2,.l TB x,.l TB a4,.l TB b0,.l TB b1,.l TB b2,.l TB b3,.l TB b4]):=by
   refine k3z _ _ _ _ _ _ _ _ _ _ _ _ _ _ _ _ _ _ _ _ _ _ _ _ _ _ _ _ _ _ _ _ _ _ _ _ _ _ _ _ _ (by omega) _ ?_
   unfold l3j
   exact a0c (decide_eq_false (show¬((i:Int)<(x.length:Int)) by omega)) rfl
  exact⟨x,l3t e⟩
 |m+1,i,x,f+1,hi,hx,hf=>by
  have w:IntKind.wrap .i64 ((i:Int)+1)=((i+1:Nat):Int):=by rw[w64d];omega
  have hl:(x.set i (IntKind.wrap .u8 (x.getD i 0+1))).length=x.length:=List.length_set
  have e:(h3c [.k 3,.n t,.n q,.n (i:Int),.n v0,.n v1,.n v2,.n v3,.n v4,.l TC v5,.n v6,.n v7,.n v8,.n v9,.n v10,.n v11,.n v12,.n v13,.l TB v14,.n v15,.n v16,.n v17,.n v18,.n v19,.n v20,.l TB v21,.n v22,.n v23,.n v24,.n v25,.n v26,.l TB v27,.l TB x,.l TB a0,.l TB a1,.l TB a2,.l TB a4,.l TB b0,.l TB b1,.l TB b2,.l TB b3,.l TB b4]).sel=some (.go [.k 3,.n t,.n q,.n ((i+1:Nat):Int),.n v0,.n v1,.n v2,.n v3,.n v4,.l TC v5,.n v6,.n v7,.n v8,.n v9,.n v10,.n v11,.n v12,.n v13,.l TB v14,.n v15,.n v16,.n v17,.n v18,.n v19,.n v20,.l TB v21,.n v22,.n v23,.n v24,.n v25,.n v26,.l TB v27,.l TB (x.set i (IntKind.wrap .u8 (x.getD i 0+1))),.l TB a0,.l TB a1,.l TB a2,.l TB a4,.l TB b0,.l TB b1,.l TB b2,.l TB b3,.l TB b4]):=by
   refine k3z _ _ _ _ _ _ _ _ _ _ _ _ _ _ _ _ _ _ _ _ _ _ _ _ _ _ _ _ _ _ _ _ _ _ _ _ _ _ _ _ _ (by omega) _ ?_
   unfold l3j
   refine a0a (decide_eq_true (show(i:Int)<(x.length:Int) by omega)) ?_
   rw[w]
   rfl
  obtain⟨x',ih⟩:=lpj3 t q v0 v1 v2 v3 v4 v5 v6 v7 v8 v9 v10 v11 v12 v13 v14 v15 v16 v17 v18 v19 v20 v21 v22 v23 v24 v25 v26 v27 a0 a1 a2 a4 b0 b1 b2 b3 b4 m (i+1) _ f (by rw[hl];omega) (by rw[hl];exact hx) (by omega)
  exact⟨x',o3c e ih⟩
theorem lpj4 (t q:Int)(v0:Int)(v1:Int)(v2:Int)(v3:Int)(v4:Int)(v5:List Cmd)(v6:Int)(v7:Int)(v8:Int)(v9:Int)(v10:Int)(v11:Int)(v12:Int)(v13:Int)(v14:List Int)(v15:Int)(v16:Int)(v17:Int)(v18:Int)(v19:Int)(v20:Int)(v21:List Int)(v22:Int)(v23:Int)(v24:Int)(v25:Int)(v26:Int)(v27:List Int)(a0 a1 a2 a3 b0 b1 b2 b3 b4:List Int): ∀(m i:Nat) (x:List Int) (f:Nat),i+m=x.length→x.length≤1000000→m<f→ ∃x':List Int,a0b h3c f [.k 4,.n t,.n q,.n (i:Int),.n v0,.n v1,.n v2,.n v3,.n v4,.l TC v5,.n v6,.n v7,.n v8,.n v9,.n v10,.n v11,.n v12,.n v13,.l TB v14,.n v15,.n v16,.n v17,.n v18,.n v19,.n v20,.l TB v21,.n v22,.n v23,.n v24,.n v25,.n v26,.l TB v27,.l TB x,.l TB a0,.l TB a1,.l TB a2,.l TB a3,.l TB b0,.l TB b1,.l TB b2,.l TB b3,.l TB b4]=some (0,[.n t,.n q,.n v0,.n v1,.n v2,.n v3,.n v4,.l TC v5,.n v6,.n v7,.n v8,.n v9,.n v10,.n v11,.n v12,.n v13,.l TB v14,.n v15,.n v16,.n v17,.n v18,.n v19,.n v20,.l TB v21,.n v22,.n v23,.n v24,.n v25,.n v26,.l TB v27,.l TB a0,.l TB a1,.l TB a2,.l TB a3,.l TB x',.l TB b0,.l TB b1,.l TB b2,.l TB b3,.l TB b4])
 |_,_,_,0,_,_,h=>by omega
 |0,i,x,f+1,hi,hx,hf=>by
  have e:(h3c [.k 4,.n t,.n q,.n (i:Int),.n v0,.n v1,.n v2,.n v3,.n v4,.l TC v5,.n v6,.n v7,.n v8,.n v9,.n v10,.n v11,.n v12,.n v13,.l TB v14,.n v15,.n v16,.n v17,.n v18,.n v19,.n v20,.l TB v21,.n v22,.n v23,.n v24,.n v25,.n v26,.l TB v27,.l TB x,.l TB a0,.l TB a1,.l TB a2,.l TB a3,.l TB b0,.l TB b1,.l TB b2,.l TB b3,.l TB b4]).sel=some (.stop 0 [.n t,.n q,.n v0,.n v1,.n v2,.n v3,.n v4,.l TC v5,.n v6,.n v7,.n v8,.n v9,.n v10,.n v11,.n v12,.n v13,.l TB v14,.n v15,.n v16,.n v17,.n v18,.n v19,.n v20,.l TB v21,.n v22,.n v23,.n v24,.n v25,.n v26,.l TB v27,.l TB a0,.l TB a1,.l TB a2,.l TB a3,.l TB x,.l TB b0,.l TB b1,.l TB b2,.l TB b3,.l TB b4]):=by
   refine k3y _ _ _ _ _ _ _ _ _ _ _ _ _ _ _ _ _ _ _ _ _ _ _ _ _ _ _ _ _ _ _ _ _ _ _ _ _ _ _ _ _ (by omega) _ ?_
   unfold l3p
   exact a0c (decide_eq_false (show¬((i:Int)<(x.length:Int)) by omega)) rfl
  exact⟨x,l3t e⟩
 |m+1,i,x,f+1,hi,hx,hf=>by
  have w:IntKind.wrap .i64 ((i:Int)+1)=((i+1:Nat):Int):=by rw[w64d];omega
  have hl:(x.set i (IntKind.wrap .u8 (x.getD i 0+1))).length=x.length:=List.length_set
  have e:(h3c [.k 4,.n t,.n q,.n (i:Int),.n v0,.n v1,.n v2,.n v3,.n v4,.l TC v5,.n v6,.n v7,.n v8,.n v9,.n v10,.n v11,.n v12,.n v13,.l TB v14,.n v15,.n v16,.n v17,.n v18,.n v19,.n v20,.l TB v21,.n v22,.n v23,.n v24,.n v25,.n v26,.l TB v27,.l TB x,.l TB a0,.l TB a1,.l TB a2,.l TB a3,.l TB b0,.l TB b1,.l TB b2,.l TB b3,.l TB b4]).sel=some (.go [.k 4,.n t,.n q,.n ((i+1:Nat):Int),.n v0,.n v1,.n v2,.n v3,.n v4,.l TC v5,.n v6,.n v7,.n v8,.n v9,.n v10,.n v11,.n v12,.n v13,.l TB v14,.n v15,.n v16,.n v17,.n v18,.n v19,.n v20,.l TB v21,.n v22,.n v23,.n v24,.n v25,.n v26,.l TB v27,.l TB (x.set i (IntKind.wrap .u8 (x.getD i 0+1))),.l TB a0,.l TB a1,.l TB a2,.l TB a3,.l TB b0,.l TB b1,.l TB b2,.l TB b3,.l TB b4]):=by
   refine k3y _ _ _ _ _ _ _ _ _ _ _ _ _ _ _ _ _ _ _ _ _ _ _ _ _ _ _ _ _ _ _ _ _ _ _ _ _ _ _ _ _ (by omega) _ ?_
   unfold l3p
   refine a0a (decide_eq_true (show(i:Int)<(x.length:Int) by omega)) ?_
   rw[w]
   rfl
  obtain⟨x',ih⟩:=lpj4 t q v0 v1 v2 v3 v4 v5 v6 v7 v8 v9 v10 v11 v12 v13 v14 v15 v16 v17 v18 v19 v20 v21 v22 v23 v24 v25 v26 v27 a0 a1 a2 a3 b0 b1 b2 b3 b4 m (i+1) _ f (by rw[hl];omega) (by rw[hl];exact hx) (by omega)
  exact⟨x',o3c e ih⟩
theorem t9k (t:Int)(v0:Int)(v1:Int)(v2:Int)(v3:Int)(v4:Int)(v5:List Cmd)(v6:Int)(v7:Int)(v8:Int)(v9:Int)(v10:Int)(v11:Int)(v12:Int)(v13:Int)(v14:List Int)(v15:Int)(v16:Int)(v17:Int)(v18:Int)(v19:Int)(v20:Int)(v21:List Int)(v22:Int)(v23:Int)(v24:Int)(v25:Int)(v26:Int)(v27:List Int)(a0 a1 a2 a3 a4:List Int)(h0:a0.length≤1000000)(h1:a1.length≤1000000)(h2:a2.length≤1000000)(h3:a3.length≤1000000)(h4:a4.length≤1000000):x2h [.k 0,.n t,.n 0,.n v0,.n v1,.n v2,.n v3,.n v4,.l TC v5,.n v6,.n v7,.n v8,.n v9,.n v10,.n v11,.n v12,.n v13,.l TB v14,.n v15,.n v16,.n v17,.n v18,.n v19,.n v20,.l TB v21,.n v22,.n v23,.n v24,.n v25,.n v26,.l TB v27,.l TB a0,.l TB a1,.l TB a2,.l TB a3,.l TB a4,.l TB a0,.l TB a1,.l TB a2,.l TB a3,.l TB a4]=some (0,[.n t,.n v0,.n v1,.n v2,.n v3,.n v4,.l TC v5,.n v6,.n v7,.n v8,.n v9,.n v10,.n v11,.n v12,.n v13,.l TB v14,.n v15,.n v16,.n v17,.n v18,.n v19,.n v20,.l TB v21,.n v22,.n v23,.n v24,.n v25,.n v26,.l TB v27]):=by
 obtain⟨x0,j0⟩: ∃x':List Int,i3f [.k 0,.n t,.n 0,.n 0,.n v0,.n v1,.n v2,.n v3,.n v4,.l TC v5,.n v6,.n v7,.n v8,.n v9,.n v10,.n v11,.n v12,.n v13,.l TB v14,.n v15,.n v16,.n v17,.n v18,.n v19,.n v20,.l TB v21,.n v22,.n v23,.n v24,.n v25,.n v26,.l TB v27,.l TB a0,.l TB a1,.l TB a2,.l TB a3,.l TB a4,.l TB a0,.l TB a1,.l TB a2,.l TB a3,.l TB a4]=some (0,[.n t,.n 0,.n v0,.n v1,.n v2,.n v3,.n v4,.l TC v5,.n v6,.n v7,.n v8,.n v9,.n v10,.n v11,.n v12,.n v13,.l TB v14,.n v15,.n v16,.n v17,.n v18,.n v19,.n v20,.l TB v21,.n v22,.n v23,.n v24,.n v25,.n v26,.l TB v27,.l TB x',.l TB a1,.l TB a2,.l TB a3,.l TB a4,.l TB a0,.l TB a1,.l TB a2,.l TB a3,.l TB a4]):=by
  rw[i3m]
  exact lpj0 t 0 v0 v1 v2 v3 v4 v5 v6 v7 v8 v9 v10 v11 v12 v13 v14 v15 v16 v17 v18 v19 v20 v21 v22 v23 v24 v25 v26 v27 a1 a2 a3 a4 a0 a1 a2 a3 a4 a0.length 0 a0 FU (by omega) h0 (by unfold FU;omega)
 have s0:(x2k [.k 0,.n t,.n 0,.n v0,.n v1,.n v2,.n v3,.n v4,.l TC v5,.n v6,.n v7,.n v8,.n v9,.n v10,.n v11,.n v12,.n v13,.l TB v14,.n v15,.n v16,.n v17,.n v18,.n v19,.n v20,.l TB v21,.n v22,.n v23,.n v24,.n v25,.n v26,.l TB v27,.l TB a0,.l TB a1,.l TB a2,.l TB a3,.l TB a4,.l TB a0,.l TB a1,.l TB a2,.l TB a3,.l TB a4]).sel=some (.go [.k 0,.n t,.n 1,.n v0,.n v1,.n v2,.n v3,.n v4,.l TC v5,.n v6,.n v7,.n v8,.n v9,.n v10,.n v11,.n v12,.n v13,.l TB v14,.n v15,.n v16,.n v17,.n v18,.n v19,.n v20,.l TB v21,.n v22,.n v23,.n v24,.n v25,.n v26,.l TB v27,.l TB x0,.l TB a1,.l TB a2,.l TB a3,.l TB a4,.l TB a0,.l TB a1,.l TB a2,.l TB a3,.l TB a4]):=by
  refine s3r _ _ _ _ _ _ _ _ _ _ _ _ _ _ _ _ _ _ _ _ _ _ _ _ _ _ _ _ _ _ _ _ _ _ _ _ _ _ _ _ ?_
  unfold r3f
  dsimp only
  refine a0c (show(!f0b (r2b a0) (r2b a0))=false by rw[m3g];rfl) ?_
  erw[j0]
  rfl
 obtain⟨x1,j1⟩: ∃x':List Int,i3f [.k 1,.n t,.n 1,.n 0,.n v0,.n v1,.n v2,.n v3,.n v4,.l TC v5,.n v6,.n v7,.n v8,.n v9,.n v10,.n v11,.n v12,.n v13,.l TB v14,.n v15,.n v16,.n v17,.n v18,.n v19,.n v20,.l TB v21,.n v22,.n v23,.n v24,.n v25,.n v26,.l TB v27,.l TB a1,.l TB x0,.l TB a2,.l TB a3,.l TB a4,.l TB a0,.l TB a1,.l TB a2,.l TB a3,.l TB a4]=some (0,[.n t,.n 1,.n v0,.n v1,.n v2,.n v3,.n v4,.l TC v5,.n v6,.n v7,.n v8,.n v9,.n v10,.n v11,.n v12,.n v13,.l TB v14,.n v15,.n v16,.n v17,.n v18,.n v19,.n v20,.l TB v21,.n v22,.n v23,.n v24,.n v25,.n v26,.l TB v27,.l TB x0,.l TB x',.l TB a2,.l TB a3,.l TB a4,.l TB a0,.l TB a1,.l TB a2,.l TB a3,.l TB a4]):=by
  rw[i3m]
  exact lpj1 t 1 v0 v1 v2 v3 v4 v5 v6 v7 v8 v9 v10 v11 v12 v13 v14 v15 v16 v17 v18 v19 v20 v21 v22 v23 v24 v25 v26 v27 x0 a2 a3 a4 a0 a1 a2 a3 a4 a1.length 0 a1 FU (by omega) h1 (by unfold FU;omega)
 have s1:(x2k [.k 0,.n t,.n 1,.n v0,.n v1,.n v2,.n v3,.n v4,.l TC v5,.n v6,.n v7,.n v8,.n v9,.n v10,.n v11,.n v12,.n v13,.l TB v14,.n v15,.n v16,.n v17,.n v18,.n v19,.n v20,.l TB v21,.n v22,.n v23,.n v24,.n v25,.n v26,.l TB v27,.l TB x0,.l TB a1,.l TB a2,.l TB a3,.l TB a4,.l TB a0,.l TB a1,.l TB a2,.l TB a3,.l TB a4]).sel=some (.go [.k 0,.n t,.n 2,.n v0,.n v1,.n v2,.n v3,.n v4,.l TC v5,.n v6,.n v7,.n v8,.n v9,.n v10,.n v11,.n v12,.n v13,.l TB v14,.n v15,.n v16,.n v17,.n v18,.n v19,.n v20,.l TB v21,.n v22,.n v23,.n v24,.n v25,.n v26,.l TB v27,.l TB x0,.l TB x1,.l TB a2,.l TB a3,.l TB a4,.l TB a0,.l TB a1,.l TB a2,.l TB a3,.l TB a4]):=by
  refine s3v _ _ _ _ _ _ _ _ _ _ _ _ _ _ _ _ _ _ _ _ _ _ _ _ _ _ _ _ _ _ _ _ _ _ _ _ _ _ _ _ ?_
  unfold q3y
  dsimp only
  refine a0c (show(!f0b (r2b a1) (r2b a1))=false by rw[m3g];rfl) ?_
  erw[j1]
  rfl
 obtain⟨x2,j2⟩: ∃x':List Int,i3f [.k 2,.n t,.n 2,.n 0,.n v0,.n v1,.n v2,.n v3,.n v4,.l TC v5,.n v6,.n v7,.n v8,.n v9,.n v10,.n v11,.n v12,.n v13,.l TB v14,.n v15,.n v16,.n v17,.n v18,.n v19,.n v20,.l TB v21,.n v22,.n v23,.n v24,.n v25,.n v26,.l TB v27,.l TB a2,.l TB x0,.l TB x1,.l TB a3,.l TB a4,.l TB a0,.l TB a1,.l TB a2,.l TB a3,.l TB a4]=some (0,[.n t,.n 2,.n v0,.n v1,.n v2,.n v3,.n v4,.l TC v5,.n v6,.n v7,.n v8,.n v9,.n v10,.n v11,.n v12,.n v13,.l TB v14,.n v15,.n v16,.n v17,.n v18,.n v19,.n v20,.l TB v21,.n v22,.n v23,.n v24,.n v25,.n v26,.l TB v27,.l TB x0,.l TB x1,.l TB x',.l TB a3,.l TB a4,.l TB a0,.l TB a1,.l TB a2,.l TB a3,.l TB a4]):=by
  rw[i3m]
  exact lpj2 t 2 v0 v1 v2 v3 v4 v5 v6 v7 v8 v9 v10 v11 v12 v13 v14 v15 v16 v17 v18 v19 v20 v21 v22 v23 v24 v25 v26 v27 x0 x1 a3 a4 a0 a1 a2 a3 a4 a2.length 0 a2 FU (by omega) h2 (by unfold FU;omega)
 have s2:(x2k [.k 0,.n t,.n 2,.n v0,.n v1,.n v2,.n v3,.n v4,.l TC v5,.n v6,.n v7,.n v8,.n v9,.n v10,.n v11,.n v12,.n v13,.l TB v14,.n v15,.n v16,.n v17,.n v18,.n v19,.n v20,.l TB v21,.n v22,.n v23,.n v24,.n v25,.n v26,.l TB v27,.l TB x0,.l TB x1,.l TB a2,.l TB a3,.l TB a4,.l TB a0,.l TB a1,.l TB a2,.l TB a3,.l TB a4]).sel=some (.go [.k 0,.n t,.n 3,.n v0,.n v1,.n v2,.n v3,.n v4,.l TC v5,.n v6,.n v7,.n v8,.n v9,.n v10,.n v11,.n v12,.n v13,.l TB v14,.n v15,.n v16,.n v17,.n v18,.n v19,.n v20,.l TB v21,.n v22,.n v23,.n v24,.n v25,.n v26,.l TB v27,.l TB x0,.l TB x1,.l TB x2,.l TB a3,.l TB a4,.l TB a0,.l TB a1,.l TB a2,.l TB a3,.l TB a4]):=by
  refine r3q _ _ _ _ _ _ _ _ _ _ _ _ _ _ _ _ _ _ _ _ _ _ _ _ _ _ _ _ _ _ _ _ _ _ _ _ _ _ _ _ ?_
  unfold r3e
  dsimp only
  refine a0c (show(!f0b (r2b a2) (r2b a2))=false by rw[m3g];rfl) ?_
  erw[j2]
  rfl
 obtain⟨x3,j3⟩: ∃x':List Int,i3f [.k 3,.n t,.n 3,.n 0,.n v0,.n v1,.n v2,.n v3,.n v4,.l TC v5,.n v6,.n v7,.n v8,.n v9,.n v10,.n v11,.n v12,.n v13,.l TB v14,.n v15,.n v16,.n v17,.n v18,.n v19,.n v20,.l TB v21,.n v22,.n v23,.n v24,.n v25,.n v26,.l TB v27,.l TB a3,.l TB x0,.l TB x1,.l TB x2,.l TB a4,.l TB a0,.l TB a1,.l TB a2,.l TB a3,.l TB a4]=some (0,[.n t,.n 3,.n v0,.n v1,.n v2,.n v3,.n v4,.l TC v5,.n v6,.n v7,.n v8,.n v9,.n v10,.n v11,.n v12,.n v13,.l TB v14,.n v15,.n v16,.n v17,.n v18,.n v19,.n v20,.l TB v21,.n v22,.n v23,.n v24,.n v25,.n v26,.l TB v27,.l TB x0,.l TB x1,.l TB x2,.l TB x',.l TB a4,.l TB a0,.l TB a1,.l TB a2,.l TB a3,.l TB a4]):=by
  rw[i3m]
  exact lpj3 t 3 v0 v1 v2 v3 v4 v5 v6 v7 v8 v9 v10 v11 v12 v13 v14 v15 v16 v17 v18 v19 v20 v21 v22 v23 v24 v25 v26 v27 x0 x1 x2 a4 a0 a1 a2 a3 a4 a3.length 0 a3 FU (by omega) h3 (by unfold FU;omega)
 have s3:(x2k [.k 0,.n t,.n 3,.n v0,.n v1,.n v2,.n v3,.n v4,.l TC v5,.n v6,.n v7,.n v8,.n v9,.n v10,.n v11,.n v12,.n v13,.l TB v14,.n v15,.n v16,.n v17,.n v18,.n v19,.n v20,.l TB v21,.n v22,.n v23,.n v24,.n v25,.n v26,.l TB v27,.l TB x0,.l TB x1,.l TB x2,.l TB a3,.l TB a4,.l TB a0,.l TB a1,.l TB a2,.l TB a3,.l TB a4]).sel=some (.go [.k 0,.n t,.n 4,.n v0,.n v1,.n v2,.n v3,.n v4,.l TC v5,.n v6,.n v7,.n v8,.n v9,.n v10,.n v11,.n v12,.n v13,.l TB v14,.n v15,.n v16,.n v17,.n v18,.n v19,.n v20,.l TB v21,.n v22,.n v23,.n v24,.n v25,.n v26,.l TB v27,.l TB x0,.l TB x1,.l TB x2,.l TB x3,.l TB a4,.l TB a0,.l TB a1,.l TB a2,.l TB a3,.l TB a4]):=by
  refine s3n _ _ _ _ _ _ _ _ _ _ _ _ _ _ _ _ _ _ _ _ _ _ _ _ _ _ _ _ _ _ _ _ _ _ _ _ _ _ _ _ ?_
  unfold r3j
  dsimp only
  refine a0c (show(!f0b (r2b a3) (r2b a3))=false by rw[m3g];rfl) ?_
  erw[j3]
  rfl
 obtain⟨x4,j4⟩: ∃x':List Int,i3f [.k 4,.n t,.n 4,.n 0,.n v0,.n v1,.n v2,.n v3,.n v4,.l TC v5,.n v6,.n v7,.n v8,.n v9,.n v10,.n v11,.n v12,.n v13,.l TB v14,.n v15,.n v16,.n v17,.n v18,.n v19,.n v20,.l TB v21,.n v22,.n v23,.n v24,.n v25,.n v26,.l TB v27,.l TB a4,.l TB x0,.l TB x1,.l TB x2,.l TB x3,.l TB a0,.l TB a1,.l TB a2,.l TB a3,.l TB a4]=some (0,[.n t,.n 4,.n v0,.n v1,.n v2,.n v3,.n v4,.l TC v5,.n v6,.n v7,.n v8,.n v9,.n v10,.n v11,.n v12,.n v13,.l TB v14,.n v15,.n v16,.n v17,.n v18,.n v19,.n v20,.l TB v21,.n v22,.n v23,.n v24,.n v25,.n v26,.l TB v27,.l TB x0,.l TB x1,.l TB x2,.l TB x3,.l TB x',.l TB a0,.l TB a1,.l TB a2,.l TB a3,.l TB a4]):=by
  rw[i3m]
  exact lpj4 t 4 v0 v1 v2 v3 v4 v5 v6 v7 v8 v9 v10 v11 v12 v13 v14 v15 v16 v17 v18 v19 v20 v21 v22 v23 v24 v25 v26 v27 x0 x1 x2 x3 a0 a1 a2 a3 a4 a4.length 0 a4 FU (by omega) h4 (by unfold FU;omega)
 have s4:(x2k [.k 0,.n t,.n 4,.n v0,.n v1,.n v2,.n v3,.n v4,.l TC v5,.n v6,.n v7,.n v8,.n v9,.n v10,.n v11,.n v12,.n v13,.l TB v14,.n v15,.n v16,.n v17,.n v18,.n v19,.n v20,.l TB v21,.n v22,.n v23,.n v24,.n v25,.n v26,.l TB v27,.l TB x0,.l TB x1,.l TB x2,.l TB x3,.l TB a4,.l TB a0,.l TB a1,.l TB a2,.l TB a3,.l TB a4]).sel=some (.go [.k 0,.n t,.n 5,.n v0,.n v1,.n v2,.n v3,.n v4,.l TC v5,.n v6,.n v7,.n v8,.n v9,.n v10,.n v11,.n v12,.n v13,.l TB v14,.n v15,.n v16,.n v17,.n v18,.n v19,.n v20,.l TB v21,.n v22,.n v23,.n v24,.n v25,.n v26,.l TB v27,.l TB x0,.l TB x1,.l TB x2,.l TB x3,.l TB x4,.l TB a0,.l TB a1,.l TB a2,.l TB a3,.l TB a4]):=by
  refine r3o _ _ _ _ _ _ _ _ _ _ _ _ _ _ _ _ _ _ _ _ _ _ _ _ _ _ _ _ _ _ _ _ _ _ _ _ _ _ _ _ ?_
  unfold r3m
  dsimp only
  refine a0c (show(!f0b (r2b a4) (r2b a4))=false by rw[m3g];rfl) ?_
  erw[j4]
  rfl
 have s5:(x2k [.k 0,.n t,.n 5,.n v0,.n v1,.n v2,.n v3,.n v4,.l TC v5,.n v6,.n v7,.n v8,.n v9,.n v10,.n v11,.n v12,.n v13,.l TB v14,.n v15,.n v16,.n v17,.n v18,.n v19,.n v20,.l TB v21,.n v22,.n v23,.n v24,.n v25,.n v26,.l TB v27,.l TB x0,.l TB x1,.l TB x2,.l TB x3,.l TB x4,.l TB a0,.l TB a1,.l TB a2,.l TB a3,.l TB a4]).sel=some (.stop 0 [.n t,.n v0,.n v1,.n v2,.n v3,.n v4,.l TC v5,.n v6,.n v7,.n v8,.n v9,.n v10,.n v11,.n v12,.n v13,.l TB v14,.n v15,.n v16,.n v17,.n v18,.n v19,.n v20,.l TB v21,.n v22,.n v23,.n v24,.n v25,.n v26,.l TB v27]):=by
  refine s3q _ _ _ _ _ _ _ _ _ _ _ _ _ _ _ _ _ _ _ _ _ _ _ _ _ _ _ _ _ _ _ _ _ _ _ _ _ _ _ _ ?_
  unfold r3b
  rfl
 rw[z2z]
 show a0b x2k (18446744073709551610+1+1+1+1+1+1) _=_
 exact o3c s0 (o3c s1 (o3c s2 (o3c s3 (o3c s4 (l3t s5)))))
theorem rd0 (v0:Int)(v1:Int)(v2:Int)(v3:Int)(v4:Int)(v5:List Cmd)(v6:Int)(v7:Int)(v8:Int)(v9:Int)(v10:Int)(v11:Int)(v12:Int)(v13:Int)(v14:List Int)(v15:Int)(v16:Int)(v17:Int)(v18:Int)(v19:Int)(v20:Int)(v21:List Int)(v22:Int)(v23:Int)(v24:Int)(v25:Int)(v26:Int)(v27:List Int)(g0:0≤v0∧v0<256)(g6:0≤v6∧v6<256)(g23:0≤v23∧v23<256)(g24:0≤v24∧v24<256)(l14:v14.length=64)(l21:v21.length=64)(w14:Wb v14)(w21:Wb v21)(w27:Wb v27)(n5:v5.length≤1000)(n27:v27.length≤5000):(j3o [.k 0,.n 0,.n v0,.n v1,.n v2,.n v3,.n v4,.l TC v5,.n v6,.n v7,.n v8,.n v9,.n v10,.n v11,.n v12,.n v13,.l TB v14,.n v15,.n v16,.n v17,.n v18,.n v19,.n v20,.l TB v21,.n v22,.n v23,.n v24,.n v25,.n v26,.l TB v27]).sel=some (.go [.k 0,.n 1,.n v0,.n v1,.n v2,.n v3,.n v4,.l TC v5,.n v6,.n v7,.n v8,.n v9,.n v10,.n v11,.n v12,.n v13,.l TB v14,.n v15,.n v16,.n v17,.n v18,.n v19,.n v20,.l TB v21,.n v22,.n v23,.n v24,.n v25,.n v26,.l TB v27]):=by
 obtain⟨f1,hf1⟩: ∃f:List Int,f=(bif v5.all h3w&&(win 1099511627776 [v1]&&decide ((v5.length:Int)≤8))then chk (inL v0 v1 v2 v3 v4 v5)else[]):=⟨_,rfl⟩
 obtain⟨f2,hf2⟩: ∃f:List Int,f=(bif win 1099511627776 [v7,v8]then chk (outB v6 v7 v8 v9 v10)else[]):=⟨_,rfl⟩
 obtain⟨f3,hf3⟩: ∃f:List Int,f=(chk (3::stL v11 v12 v13 v14 v15)):=⟨_,rfl⟩
 obtain⟨f4,hf4⟩: ∃f:List Int,f=(bif win 1099511627776 [v16,v17]then chk (logL v16 v17 v18 v19 v20 v21 v22)else[]):=⟨_,rfl⟩
 obtain⟨f5,hf5⟩: ∃f:List Int,f=(bif win 4611686018427387904 [v25,v26]&&decide ((v27.length:Int)≤2048)then chk (liL v23 v24 v25 v26 v27)else[]):=⟨_,rfl⟩
 have m1:f1.length≤1000000:=by
  rw[hf1]
  exact k3g _ (by rw[w1n,r3r];omega)
 have m2:f2.length≤1000000:=by
  rw[hf2]
  exact k3g _ (by rw[w1n,o3f];omega)
 have m3:f3.length≤1000000:=by
  rw[hf3]
  rw[w1n,List.length_cons,n3g _ _ _ _ _ l14]
  omega
 have m4:f4.length≤1000000:=by
  rw[hf4]
  exact k3g _ (by rw[w1n,o3n _ _ _ _ _ _ _ l21];omega)
 have m5:f5.length≤1000000:=by
  rw[hf5]
  exact k3g _ (by rw[w1n,s3j];omega)
 have e1:k3m [.n v0,.n v1,.n v2,.n v3,.n v4,.l TC v5]=some (0,[.l TB f1]):=by
  rw[hf1]
  exact p9 v0 v1 v2 v3 v4 v5 g0.1 g0.2 n5
 have e2:i3w [.n v6,.n v7,.n v8,.n v9,.n v10]=some (0,[.l TB f2]):=by
  rw[hf2]
  exact p10 v6 v7 v8 v9 v10 g6.1 g6.2
 have e3:j3d [.n v11,.n v12,.n v13,.l TB v14,.n v15]=some (0,[.l TB f3]):=by
  rw[hf3]
  exact p11 v11 v12 v13 v14 v15 l14
 have e4:i3t [.n v16,.n v17,.n v18,.n v19,.n v20,.l TB v21,.n v22]=some (0,[.l TB f4]):=by
  rw[hf4]
  exact p12 v16 v17 v18 v19 v20 v21 v22 l21
 have e5:i3u [.n v23,.n v24,.n v25,.n v26,.l TB v27]=some (0,[.l TB f5]):=by
  rw[hf5]
  exact p13 v23 v24 v25 v26 v27 g23 g24
 have e6:m3p [.n v0,.n v1,.n v2,.n v3,.n v4,.l TC v5]=some (0,[.l TB f1]):=by
  rw[hf1]
  exact m14 v0 v1 v2 v3 v4 v5 g0.1 g0.2
 have e7:m3m [.n v6,.n v7,.n v8,.n v9,.n v10]=some (0,[.l TB f2]):=by
  rw[hf2]
  exact m16 v6 v7 v8 v9 v10 g6.1 g6.2
 have e8:l3z [.n v11,.n v12,.n v13,.l TB v14,.n v15]=some (0,[.l TB f3]):=by
  rw[hf3]
  exact m18 v11 v12 v13 v14 v15 l14 w14
 have e9:l3x [.n v16,.n v17,.n v18,.n v19,.n v20,.l TB v21,.n v22]=some (0,[.l TB f4]):=by
  rw[hf4]
  exact m19 v16 v17 v18 v19 v20 v21 v22 l21 w21
 have e10:m3y [.n v23,.n v24,.n v25,.n v26,.s (r2b v27)]=some (0,[.l TB f5]):=by
  rw[hf5]
  have q:=m21 v23 v24 v25 v26 (r2b v27) g23 g24 (by rw[h3i w27];exact w27)
  rw[h3i w27]at q
  exact q
 clear hf1 hf2 hf3 hf4 hf5
 have e11:=t9k 0 v0 v1 v2 v3 v4 v5 v6 v7 v8 v9 v10 v11 v12 v13 v14 v15 v16 v17 v18 v19 v20 v21 v22 v23 v24 v25 v26 v27 f1 f2 f3 f4 f5 m1 m2 m3 m4 m5
 refine k3d _ _ _ _ _ _ _ _ _ _ _ _ _ _ _ _ _ _ _ _ _ _ _ _ _ _ _ _ _ (by omega) l14 l21 _ ?_
 unfold m3c
 dsimp only
 refine a0a (decide_eq_true (show(0:Int)<2 by omega)) ?_
 erw[e1]
 refine a0a rfl ?_
 erw[e2]
 refine a0a rfl ?_
 erw[e3]
 refine a0a rfl ?_
 erw[e4]
 refine a0a rfl ?_
 erw[e5]
 refine a0a rfl ?_
 erw[e6]
 refine a0a rfl ?_
 erw[e7]
 refine a0a rfl ?_
 erw[e8]
 refine a0a rfl ?_
 erw[e9]
 refine a0a rfl ?_
 erw[e10]
 refine a0a rfl ?_
 erw[e11]
 refine a0a rfl ?_
 rfl
theorem rd1 (v0:Int)(v1:Int)(v2:Int)(v3:Int)(v4:Int)(v5:List Cmd)(v6:Int)(v7:Int)(v8:Int)(v9:Int)(v10:Int)(v11:Int)(v12:Int)(v13:Int)(v14:List Int)(v15:Int)(v16:Int)(v17:Int)(v18:Int)(v19:Int)(v20:Int)(v21:List Int)(v22:Int)(v23:Int)(v24:Int)(v25:Int)(v26:Int)(v27:List Int)(g0:0≤v0∧v0<256)(g6:0≤v6∧v6<256)(g23:0≤v23∧v23<256)(g24:0≤v24∧v24<256)(l14:v14.length=64)(l21:v21.length=64)(w14:Wb v14)(w21:Wb v21)(w27:Wb v27)(n5:v5.length≤1000)(n27:v27.length≤5000):(j3o [.k 0,.n 1,.n v0,.n v1,.n v2,.n v3,.n v4,.l TC v5,.n v6,.n v7,.n v8,.n v9,.n v10,.n v11,.n v12,.n v13,.l TB v14,.n v15,.n v16,.n v17,.n v18,.n v19,.n v20,.l TB v21,.n v22,.n v23,.n v24,.n v25,.n v26,.l TB v27]).sel=some (.go [.k 0,.n 2,.n v0,.n v1,.n v2,.n v3,.n v4,.l TC v5,.n v6,.n v7,.n v8,.n v9,.n v10,.n v11,.n v12,.n v13,.l TB v14,.n v15,.n v16,.n v17,.n v18,.n v19,.n v20,.l TB v21,.n v22,.n v23,.n v24,.n v25,.n v26,.l TB v27]):=by
 obtain⟨f1,hf1⟩: ∃f:List Int,f=(bif v5.all h3w&&(win 1099511627776 [v1]&&decide ((v5.length:Int)≤8))then chk (inL v0 v1 v2 v3 v4 v5)else[]):=⟨_,rfl⟩
 obtain⟨f2,hf2⟩: ∃f:List Int,f=(bif win 1099511627776 [v7,v8]then chk (outB v6 v7 v8 v9 v10)else[]):=⟨_,rfl⟩
 obtain⟨f3,hf3⟩: ∃f:List Int,f=(chk (3::stL v11 v12 v13 v14 v15)):=⟨_,rfl⟩
 obtain⟨f4,hf4⟩: ∃f:List Int,f=(bif win 1099511627776 [v16,v17]then chk (logL v16 v17 v18 v19 v20 v21 v22)else[]):=⟨_,rfl⟩
 obtain⟨f5,hf5⟩: ∃f:List Int,f=(bif win 4611686018427387904 [v25,v26]&&decide ((v27.length:Int)≤2048)then chk (liL v23 v24 v25 v26 v27)else[]):=⟨_,rfl⟩
 have m1:f1.length≤1000000:=by
  rw[hf1]
  exact k3g _ (by rw[w1n,r3r];omega)
 have m2:f2.length≤1000000:=by
  rw[hf2]
  exact k3g _ (by rw[w1n,o3f];omega)
 have m3:f3.length≤1000000:=by
  rw[hf3]
  rw[w1n,List.length_cons,n3g _ _ _ _ _ l14]
  omega
 have m4:f4.length≤1000000:=by
  rw[hf4]
  exact k3g _ (by rw[w1n,o3n _ _ _ _ _ _ _ l21];omega)
 have m5:f5.length≤1000000:=by
  rw[hf5]
  exact k3g _ (by rw[w1n,s3j];omega)
 have e1:k3m [.n v0,.n v1,.n v2,.n v3,.n v4,.l TC v5]=some (0,[.l TB f1]):=by
  rw[hf1]
  exact p9 v0 v1 v2 v3 v4 v5 g0.1 g0.2 n5
 have e2:i3w [.n v6,.n v7,.n v8,.n v9,.n v10]=some (0,[.l TB f2]):=by
  rw[hf2]
  exact p10 v6 v7 v8 v9 v10 g6.1 g6.2
 have e3:j3d [.n v11,.n v12,.n v13,.l TB v14,.n v15]=some (0,[.l TB f3]):=by
  rw[hf3]
  exact p11 v11 v12 v13 v14 v15 l14
 have e4:i3t [.n v16,.n v17,.n v18,.n v19,.n v20,.l TB v21,.n v22]=some (0,[.l TB f4]):=by
  rw[hf4]
  exact p12 v16 v17 v18 v19 v20 v21 v22 l21
 have e5:i3u [.n v23,.n v24,.n v25,.n v26,.l TB v27]=some (0,[.l TB f5]):=by
  rw[hf5]
  exact p13 v23 v24 v25 v26 v27 g23 g24
 have e6:m3p [.n v0,.n v1,.n v2,.n v3,.n v4,.l TC v5]=some (0,[.l TB f1]):=by
  rw[hf1]
  exact m14 v0 v1 v2 v3 v4 v5 g0.1 g0.2
 have e7:m3m [.n v6,.n v7,.n v8,.n v9,.n v10]=some (0,[.l TB f2]):=by
  rw[hf2]
  exact m16 v6 v7 v8 v9 v10 g6.1 g6.2
 have e8:l3z [.n v11,.n v12,.n v13,.l TB v14,.n v15]=some (0,[.l TB f3]):=by
  rw[hf3]
  exact m18 v11 v12 v13 v14 v15 l14 w14
 have e9:l3x [.n v16,.n v17,.n v18,.n v19,.n v20,.l TB v21,.n v22]=some (0,[.l TB f4]):=by
  rw[hf4]
  exact m19 v16 v17 v18 v19 v20 v21 v22 l21 w21
 have e10:m3y [.n v23,.n v24,.n v25,.n v26,.s (r2b v27)]=some (0,[.l TB f5]):=by
  rw[hf5]
  have q:=m21 v23 v24 v25 v26 (r2b v27) g23 g24 (by rw[h3i w27];exact w27)
  rw[h3i w27]at q
  exact q
 clear hf1 hf2 hf3 hf4 hf5
 have e11:=t9k 1 v0 v1 v2 v3 v4 v5 v6 v7 v8 v9 v10 v11 v12 v13 v14 v15 v16 v17 v18 v19 v20 v21 v22 v23 v24 v25 v26 v27 f1 f2 f3 f4 f5 m1 m2 m3 m4 m5
 refine k3d _ _ _ _ _ _ _ _ _ _ _ _ _ _ _ _ _ _ _ _ _ _ _ _ _ _ _ _ _ (by omega) l14 l21 _ ?_
 unfold m3c
 dsimp only
 refine a0a (decide_eq_true (show(1:Int)<2 by omega)) ?_
 erw[e1]
 refine a0a rfl ?_
 erw[e2]
 refine a0a rfl ?_
 erw[e3]
 refine a0a rfl ?_
 erw[e4]
 refine a0a rfl ?_
 erw[e5]
 refine a0a rfl ?_
 erw[e6]
 refine a0a rfl ?_
 erw[e7]
 refine a0a rfl ?_
 erw[e8]
 refine a0a rfl ?_
 erw[e9]
 refine a0a rfl ?_
 erw[e10]
 refine a0a rfl ?_
 erw[e11]
 refine a0a rfl ?_
 rfl
theorem t3L (v0:Int)(v1:Int)(v2:Int)(v3:Int)(v4:Int)(v5:List Cmd)(v6:Int)(v7:Int)(v8:Int)(v9:Int)(v10:Int)(v11:Int)(v12:Int)(v13:Int)(v14:List Int)(v15:Int)(v16:Int)(v17:Int)(v18:Int)(v19:Int)(v20:Int)(v21:List Int)(v22:Int)(v23:Int)(v24:Int)(v25:Int)(v26:Int)(v27:List Int)(g0:0≤v0∧v0<256)(g6:0≤v6∧v6<256)(g23:0≤v23∧v23<256)(g24:0≤v24∧v24<256)(l14:v14.length=64)(l21:v21.length=64)(w14:Wb v14)(w21:Wb v21)(w27:Wb v27)(n5:v5.length≤1000)(n27:v27.length≤5000):s3x [.k 0,.n 0,.n v0,.n v1,.n v2,.n v3,.n v4,.l TC v5,.n v6,.n v7,.n v8,.n v9,.n v10,.n v11,.n v12,.n v13,.l TB v14,.n v15,.n v16,.n v17,.n v18,.n v19,.n v20,.l TB v21,.n v22,.n v23,.n v24,.n v25,.n v26,.l TB v27]=some (0,[]):=by
 have s2:(j3o [.k 0,.n 2,.n v0,.n v1,.n v2,.n v3,.n v4,.l TC v5,.n v6,.n v7,.n v8,.n v9,.n v10,.n v11,.n v12,.n v13,.l TB v14,.n v15,.n v16,.n v17,.n v18,.n v19,.n v20,.l TB v21,.n v22,.n v23,.n v24,.n v25,.n v26,.l TB v27]).sel=some (.stop 0 []):=by
  refine k3d _ _ _ _ _ _ _ _ _ _ _ _ _ _ _ _ _ _ _ _ _ _ _ _ _ _ _ _ _ (by omega) l14 l21 _ ?_
  unfold m3c
  exact a0c (decide_eq_false (show¬((2:Int)<2) by omega)) rfl
 rw[r3k]
 show a0b j3o (18446744073709551613+1+1+1) _=_
 exact o3c (rd0 v0 v1 v2 v3 v4 v5 v6 v7 v8 v9 v10 v11 v12 v13 v14 v15 v16 v17 v18 v19 v20 v21 v22 v23 v24 v25 v26 v27 g0 g6 g23 g24 l14 l21 w14 w21 w27 n5 n27) (o3c (rd1 v0 v1 v2 v3 v4 v5 v6 v7 v8 v9 v10 v11 v12 v13 v14 v15 v16 v17 v18 v19 v20 v21 v22 v23 v24 v25 v26 v27 g0 g6 g23 g24 l14 l21 w14 w21 w27 n5 n27) (l3t s2))
theorem t3 (v0:Int)(v1:Int)(v2:Int)(v3:Int)(v4:Int)(v5:List Cmd)(v6:Int)(v7:Int)(v8:Int)(v9:Int)(v10:Int)(v11:Int)(v12:Int)(v13:Int)(v14:List Int)(v15:Int)(v16:Int)(v17:Int)(v18:Int)(v19:Int)(v20:Int)(v21:List Int)(v22:Int)(v23:Int)(v24:Int)(v25:Int)(v26:Int)(v27:List Int)(g0:0≤v0∧v0<256)(g6:0≤v6∧v6<256)(g23:0≤v23∧v23<256)(g24:0≤v24∧v24<256)(l14:v14.length=64)(l21:v21.length=64)(w14:Wb v14)(w21:Wb v21)(w27:Wb v27):(ev_W3 [.n v0,.n v1,.n v2,.n v3,.n v4,.l TC v5,.n v6,.n v7,.n v8,.n v9,.n v10,.n v11,.n v12,.n v13,.l TB v14,.n v15,.n v16,.n v17,.n v18,.n v19,.n v20,.l TB v21,.n v22,.n v23,.n v24,.n v25,.n v26,.l TB v27]).sel=some true:=by
 refine e3f _ _ _ _ _ _ _ _ _ _ _ _ _ _ _ _ _ _ _ _ _ _ _ _ _ _ _ _ l14 l21 _ ?_
 unfold f3v
 dsimp only
 by_cases c5:(v5.length:Int)≤1000
 ·refine a0a (decide_eq_true c5) ?_
  by_cases c27:(v27.length:Int)≤5000
  ·refine a0c (ndt c27) ?_
   have e:=t3L v0 v1 v2 v3 v4 v5 v6 v7 v8 v9 v10 v11 v12 v13 v14 v15 v16 v17 v18 v19 v20 v21 v22 v23 v24 v25 v26 v27 g0 g6 g23 g24 l14 l21 w14 w21 w27 (by omega) (by omega)
   erw[e]
   rfl
  ·exact a0a (ndf c27) rfl
 ·exact a0c (decide_eq_false c5) rfl
end Go.Proofs.Ytlambinleegdoaa.Vx
end
