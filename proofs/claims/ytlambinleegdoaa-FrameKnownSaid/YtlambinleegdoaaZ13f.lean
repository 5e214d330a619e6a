import Derived.Test.YtlambinleegdoaaY13q
import Derived.KernelRfl
noncomputable section
namespace Go.Proofs.Ytlambinleegdoaa.Vx
open Go Go.RowKit
set_option linter.unusedVariables false
set_option linter.unusedSimpArgs false
set_option maxRecDepth 100000
set_option maxHeartbeats 0
def wI (n5 n8:Int):Int:=IntKind.wrap .i64 (Int.tdiv (IntKind.wrap .i64 (n5+n8)) (8:Int))
def wM (n5 n8:Int):Int:=Int.tmod (IntKind.wrap .i64 (n5+n8)) (8:Int)
def wY (n5 n8:Int)(y:List Int):List Int:=List.set y (Int.toNat (wI n5 n8)) (ixor IntKind.u8 (List.getD y (Int.toNat (wI n5 n8)) (0:Int)) (ishl IntKind.u8 (1:Int) (wM n5 n8)))
def wB (n3 n8:Int):Bool:=decide (iand IntKind.u32 (ishr IntKind.u32 n3 n8) (1:Int)=(1:Int))
def wF (n5 n6 n8:Int):Bool:=decide (n5≥n6)||decide (IntKind.wrap .i64 (n5+n8)<n6)
def wG (n5 n8:Int)(y:List Int):Bool:=inR (wI n5 n8) (List.length y)&& !decide (wM n5 n8<0)
def wL (n3 n5 n6:Int):Nat→Int→Bool→List Int→Option (Bool×List Int)
 |0,n8,b,y=>bif decide (n8=32)then some (b,y)else none
 |m+1,n8,b,y=>bif decide (0≤n8)&&decide (n8<32)then(bif wB n3 n8&&wF n5 n6 n8 then(bif wG n5 n8 y then wL n3 n5 n6 m (IntKind.wrap .i64 (n8+1)) true (wY n5 n8 y)else none)else wL n3 n5 n6 m (IntKind.wrap .i64 (n8+1)) b y)else none
theorem wl0 {l0:List Int}{n1:Int}{n2:Int}{n3:Int}{n4:Int}{n5:Int}{n6:Int}{n9:Int}{n10:Int}{n11:Int}{n12:Int}{n13:Int}{l14:List Int}{n15:Int}{n16:Int}{n17:Int}{n18:Int}{n19:Int}{l20:List Int}{l21:List Int}{l23:List Int}(a14:l14.length=64)(p5:0≤n5)(p6:0≤n6)(p3:0≤n3): ∀(m:Nat) (n8:Int) (b7:Bool) (l22:List Int) (b:Bool) (y:List Int) (f:Nat),wL n3 n5 n6 m n8 b7 l22=some (b,y)→m<f→a0b h3h f (.k 0::[.l TB l0,.n n1,.n n2,.n n3,.n n4,.n n5,.n n6,.b b7,.n n8,.n n9,.n n10,.n n11,.n n12,.n n13,.l TB l14,.n n15,.n n16,.n n17,.n n18,.n n19,.l TB l20,.l TB l21,.l TB l22,.l TB l23])=some (0,[.l TB l0,.n n1,.n n2,.n n3,.n n4,.n n5,.n n6,.b b,.n n9,.n n10,.n n11,.n n12,.n n13,.l TB l14,.n n15,.n n16,.n n17,.n n18,.n n19,.l TB l20,.l TB l21,.l TB y,.l TB l23])
 |_,_,_,_,_,_,0,_,hf=>by omega
 |0,n8,b7,l22,b,y,f+1,h,_=>by
  unfold wL at h
  by_cases e:n8=32
  ·subst e
   cases h
   exact c0a (u3j (by omega) (by omega) p5 p6 p3 a14 (by omega))
  ·rw[decide_eq_false e]at h;cases h
 |m+1,n8,b7,l22,b,y,f+1,h,hf=>by
  unfold wL at h
  by_cases e0:0≤n8
  ·by_cases e1:n8<32
   ·rw[decide_eq_true e0,decide_eq_true e1]at h
    cases eb:wB n3 n8 with
    |false=>
     rw[eb]at h
     exact(v0e (v3k (b7:=b7) (l22:=l22) e0 (by omega) p5 p6 p3 a14 e1 (of_decide_eq_false eb))).trans (wl0 a14 p5 p6 p3 m _ _ _ _ _ f h (by omega))
    |true=>
     rw[eb]at h
     have hb:=of_decide_eq_true eb
     by_cases e5:n5≥n6
     ·have ew:wF n5 n6 n8=true:=by unfold wF;rw[decide_eq_true e5];rfl
      rw[ew]at h
      cases eg:wG n5 n8 l22 with
      |false=>rw[eg]at h;cases h
      |true=>
       rw[eg]at h
       unfold wG at eg
       rw[Bool.and_eq_true,Bool.not_eq_true',decide_eq_false_iff_not]at eg
       exact(v0e (w3u (b7:=b7) (l22:=l22) e0 (by omega) p5 p6 p3 a14 e1 hb e5 eg.1 eg.2)).trans (wl0 a14 p5 p6 p3 m _ _ _ _ _ f h (by omega))
     ·by_cases e6:IntKind.wrap .i64 (n5+n8)<n6
      ·have ew:wF n5 n6 n8=true:=by unfold wF;rw[decide_eq_true e6,Bool.or_true]
       rw[ew]at h
       cases eg:wG n5 n8 l22 with
       |false=>rw[eg]at h;cases h
       |true=>
        rw[eg]at h
        unfold wG at eg
        rw[Bool.and_eq_true,Bool.not_eq_true',decide_eq_false_iff_not]at eg
        exact(v0e (x3a (b7:=b7) (l22:=l22) e0 (by omega) p5 p6 p3 a14 e1 hb e5 e6 eg.1 eg.2)).trans (wl0 a14 p5 p6 p3 m _ _ _ _ _ f h (by omega))
      ·have ew:wF n5 n6 n8=false:=by unfold wF;rw[decide_eq_false e5,decide_eq_false e6];rfl
       rw[ew]at h
       exact(v0e (v3q (b7:=b7) (l22:=l22) e0 (by omega) p5 p6 p3 a14 e1 hb e5 e6)).trans (wl0 a14 p5 p6 p3 m _ _ _ _ _ f h (by omega))
   ·rw[decide_eq_false e1,Bool.and_false]at h;cases h
  ·rw[decide_eq_false e0]at h;cases h
theorem wl2 {l0:List Int}{n1:Int}{n2:Int}{n3:Int}{n4:Int}{n5:Int}{n6:Int}{n9:Int}{n10:Int}{n11:Int}{n12:Int}{n13:Int}{l14:List Int}{n15:Int}{n16:Int}{n17:Int}{n18:Int}{n19:Int}{l20:List Int}{l21:List Int}(a14:l14.length=64)(p5:0≤n5)(p6:0≤n6)(p3:0≤n3): ∀(m:Nat) (n8:Int) (b7:Bool) (l22:List Int) (b:Bool) (y:List Int) (f:Nat),wL n3 n5 n6 m n8 b7 l22=some (b,y)→m<f→a0b h3h f (.k 2::[.l TB l0,.n n1,.n n2,.n n3,.n n4,.n n5,.n n6,.b b7,.n n8,.n n9,.n n10,.n n11,.n n12,.n n13,.l TB l14,.n n15,.n n16,.n n17,.n n18,.n n19,.l TB l20,.l TB l21,.l TB l22])=some (1,[.l TB l0,.n n1,.n n2,.n n3,.n n4,.n n5,.n n6,.b b,.n n9,.n n10,.n n11,.n n12,.n n13,.l TB l14,.n n15,.n n16,.n n17,.n n18,.n n19,.l TB l20,.l TB l21,.l TB y])
 |_,_,_,_,_,_,0,_,hf=>by omega
 |0,n8,b7,l22,b,y,f+1,h,_=>by
  unfold wL at h
  by_cases e:n8=32
  ·subst e
   cases h
   exact c0a (w3d (by omega) (by omega) p5 p6 p3 a14 (by omega))
  ·rw[decide_eq_false e]at h;cases h
 |m+1,n8,b7,l22,b,y,f+1,h,hf=>by
  unfold wL at h
  by_cases e0:0≤n8
  ·by_cases e1:n8<32
   ·rw[decide_eq_true e0,decide_eq_true e1]at h
    cases eb:wB n3 n8 with
    |false=>
     rw[eb]at h
     exact(v0e (x3e (b7:=b7) (l22:=l22) e0 (by omega) p5 p6 p3 a14 e1 (of_decide_eq_false eb))).trans (wl2 a14 p5 p6 p3 m _ _ _ _ _ f h (by omega))
    |true=>
     rw[eb]at h
     have hb:=of_decide_eq_true eb
     by_cases e5:n5≥n6
     ·have ew:wF n5 n6 n8=true:=by unfold wF;rw[decide_eq_true e5];rfl
      rw[ew]at h
      cases eg:wG n5 n8 l22 with
      |false=>rw[eg]at h;cases h
      |true=>
       rw[eg]at h
       unfold wG at eg
       rw[Bool.and_eq_true,Bool.not_eq_true',decide_eq_false_iff_not]at eg
       exact(v0e (v3f (b7:=b7) (l22:=l22) e0 (by omega) p5 p6 p3 a14 e1 hb e5 eg.1 eg.2)).trans (wl2 a14 p5 p6 p3 m _ _ _ _ _ f h (by omega))
     ·by_cases e6:IntKind.wrap .i64 (n5+n8)<n6
      ·have ew:wF n5 n6 n8=true:=by unfold wF;rw[decide_eq_true e6,Bool.or_true]
       rw[ew]at h
       cases eg:wG n5 n8 l22 with
       |false=>rw[eg]at h;cases h
       |true=>
        rw[eg]at h
        unfold wG at eg
        rw[Bool.and_eq_true,Bool.not_eq_true',decide_eq_false_iff_not]at eg
        exact(v0e (x3g (b7:=b7) (l22:=l22) e0 (by omega) p5 p6 p3 a14 e1 hb e5 e6 eg.1 eg.2)).trans (wl2 a14 p5 p6 p3 m _ _ _ _ _ f h (by omega))
      ·have ew:wF n5 n6 n8=false:=by unfold wF;rw[decide_eq_false e5,decide_eq_false e6];rfl
       rw[ew]at h
       exact(v0e (x3w (b7:=b7) (l22:=l22) e0 (by omega) p5 p6 p3 a14 e1 hb e5 e6)).trans (wl2 a14 p5 p6 p3 m _ _ _ _ _ f h (by omega))
   ·rw[decide_eq_false e1,Bool.and_false]at h;cases h
  ·rw[decide_eq_false e0]at h;cases h
theorem wl1 {l0:List Int}{n1:Int}{n2:Int}{n3:Int}{n4:Int}{n5:Int}{n6:Int}{n9:Int}{n10:Int}{n11:Int}{n12:Int}{n13:Int}{l14:List Int}{n15:Int}{n16:Int}{n17:Int}{n18:Int}{n19:Int}{l20:List Int}{l21:List Int}(a14:l14.length=64)(p5:0≤n5)(p6:0≤n6)(p3:0≤n3): ∀(m:Nat) (n8:Int) (b7:Bool) (l22:List Int) (b:Bool) (y:List Int) (f:Nat),wL n3 n5 n6 m n8 b7 l22=some (b,y)→m<f→a0b h3h f (.k 1::[.l TB l0,.n n1,.n n2,.n n3,.n n4,.n n5,.n n6,.b b7,.n n8,.n n9,.n n10,.n n11,.n n12,.n n13,.l TB l14,.n n15,.n n16,.n n17,.n n18,.n n19,.l TB l20,.l TB l21,.l TB l22])=some (1,[.l TB l0,.n n1,.n n2,.n n3,.n n4,.n n5,.n n6,.b b,.n n9,.n n10,.n n11,.n n12,.n n13,.l TB l14,.n n15,.n n16,.n n17,.n n18,.n n19,.l TB l20,.l TB l21,.l TB y])
 |_,_,_,_,_,_,0,_,hf=>by omega
 |0,n8,b7,l22,b,y,f+1,h,_=>by
  unfold wL at h
  by_cases e:n8=32
  ·subst e
   cases h
   exact c0a (v3i (by omega) (by omega) p5 p6 p3 a14 (by omega))
  ·rw[decide_eq_false e]at h;cases h
 |m+1,n8,b7,l22,b,y,f+1,h,hf=>by
  unfold wL at h
  by_cases e0:0≤n8
  ·by_cases e1:n8<32
   ·rw[decide_eq_true e0,decide_eq_true e1]at h
    cases eb:wB n3 n8 with
    |false=>
     rw[eb]at h
     exact(v0e (y3g (b7:=b7) (l22:=l22) e0 (by omega) p5 p6 p3 a14 e1 (of_decide_eq_false eb))).trans (wl2 a14 p5 p6 p3 m _ _ _ _ _ f h (by omega))
    |true=>
     rw[eb]at h
     have hb:=of_decide_eq_true eb
     by_cases e5:n5≥n6
     ·have ew:wF n5 n6 n8=true:=by unfold wF;rw[decide_eq_true e5];rfl
      rw[ew]at h
      cases eg:wG n5 n8 l22 with
      |false=>rw[eg]at h;cases h
      |true=>
       rw[eg]at h
       unfold wG at eg
       rw[Bool.and_eq_true,Bool.not_eq_true',decide_eq_false_iff_not]at eg
       exact(v0e (w3n (b7:=b7) (l22:=l22) e0 (by omega) p5 p6 p3 a14 e1 hb e5 eg.1 eg.2)).trans (wl2 a14 p5 p6 p3 m _ _ _ _ _ f h (by omega))
     ·by_cases e6:IntKind.wrap .i64 (n5+n8)<n6
      ·have ew:wF n5 n6 n8=true:=by unfold wF;rw[decide_eq_true e6,Bool.or_true]
       rw[ew]at h
       cases eg:wG n5 n8 l22 with
       |false=>rw[eg]at h;cases h
       |true=>
        rw[eg]at h
        unfold wG at eg
        rw[Bool.and_eq_true,Bool.not_eq_true',decide_eq_false_iff_not]at eg
        exact(v0e (w3s (b7:=b7) (l22:=l22) e0 (by omega) p5 p6 p3 a14 e1 hb e5 e6 eg.1 eg.2)).trans (wl2 a14 p5 p6 p3 m _ _ _ _ _ f h (by omega))
      ·have ew:wF n5 n6 n8=false:=by unfold wF;rw[decide_eq_false e5,decide_eq_false e6];rfl
       rw[ew]at h
       exact(v0e (t3g (b7:=b7) (l22:=l22) e0 (by omega) p5 p6 p3 a14 e1 hb e5 e6)).trans (wl2 a14 p5 p6 p3 m _ _ _ _ _ f h (by omega))
   ·rw[decide_eq_false e1,Bool.and_false]at h;cases h
  ·rw[decide_eq_false e0]at h;cases h
def tW:OpA
 |.k 0::d=>bif h1z [.l TB,.n,.n,.n,.n,.n,.n,.b,.n,.n,.n,.n,.n,.n,.l TB,.n,.n,.n,.n,.n,.l TB,.l TB,.l TB,.l TB] d&&(decide ((gl TB d 14).length=64)&&decide (0≤gn d 5)&&decide (0≤gn d 6)&&decide (0≤gn d 3))then(wL (gn d 3) (gn d 5) (gn d 6) 32 (gn d 8) (gb d 7) (gl TB d 22)).map fun r=>(0,[.l TB (gl TB d 0),.n (gn d 1),.n (gn d 2),.n (gn d 3),.n (gn d 4),.n (gn d 5),.n (gn d 6),.b r.1,.n (gn d 9),.n (gn d 10),.n (gn d 11),.n (gn d 12),.n (gn d 13),.l TB (gl TB d 14),.n (gn d 15),.n (gn d 16),.n (gn d 17),.n (gn d 18),.n (gn d 19),.l TB (gl TB d 20),.l TB (gl TB d 21),.l TB r.2,.l TB (gl TB d 23)])else none
 |.k 1::d=>bif h1z [.l TB,.n,.n,.n,.n,.n,.n,.b,.n,.n,.n,.n,.n,.n,.l TB,.n,.n,.n,.n,.n,.l TB,.l TB,.l TB] d&&(decide ((gl TB d 14).length=64)&&decide (0≤gn d 5)&&decide (0≤gn d 6)&&decide (0≤gn d 3))then(wL (gn d 3) (gn d 5) (gn d 6) 32 (gn d 8) (gb d 7) (gl TB d 22)).map fun r=>(1,[.l TB (gl TB d 0),.n (gn d 1),.n (gn d 2),.n (gn d 3),.n (gn d 4),.n (gn d 5),.n (gn d 6),.b r.1,.n (gn d 9),.n (gn d 10),.n (gn d 11),.n (gn d 12),.n (gn d 13),.l TB (gl TB d 14),.n (gn d 15),.n (gn d 16),.n (gn d 17),.n (gn d 18),.n (gn d 19),.l TB (gl TB d 20),.l TB (gl TB d 21),.l TB r.2])else none
 |.k 2::d=>bif h1z [.l TB,.n,.n,.n,.n,.n,.n,.b,.n,.n,.n,.n,.n,.n,.l TB,.n,.n,.n,.n,.n,.l TB,.l TB,.l TB] d&&(decide ((gl TB d 14).length=64)&&decide (0≤gn d 5)&&decide (0≤gn d 6)&&decide (0≤gn d 3))then(wL (gn d 3) (gn d 5) (gn d 6) 32 (gn d 8) (gb d 7) (gl TB d 22)).map fun r=>(1,[.l TB (gl TB d 0),.n (gn d 1),.n (gn d 2),.n (gn d 3),.n (gn d 4),.n (gn d 5),.n (gn d 6),.b r.1,.n (gn d 9),.n (gn d 10),.n (gn d 11),.n (gn d 12),.n (gn d 13),.l TB (gl TB d 14),.n (gn d 15),.n (gn d 16),.n (gn d 17),.n (gn d 18),.n (gn d 19),.l TB (gl TB d 20),.l TB (gl TB d 21),.l TB r.2])else none
 |_=>none
theorem tW_ok (env:List Dat)(y:Nat×List Dat)(h:tW env=some y):d4v env=some y:=by
 unfold tW at h
 split at h
 ·rename_i d
  cases hc:(h1z [.l TB,.n,.n,.n,.n,.n,.n,.b,.n,.n,.n,.n,.n,.n,.l TB,.n,.n,.n,.n,.n,.l TB,.l TB,.l TB,.l TB] d&&(decide ((gl TB d 14).length=64)&&decide (0≤gn d 5)&&decide (0≤gn d 6)&&decide (0≤gn d 3)))with
  |false=>rw[hc]at h;cases h
  |true=>
   rw[hc]at h
   simp only[Bool.and_eq_true,decide_eq_true_eq]at hc
   obtain⟨hk,⟨⟨hp14,hp5⟩,hp6⟩,hp3⟩:=hc
   obtain⟨x0,_,rfl,fk0⟩:=t1c hk
   obtain⟨x1,_,rfl,fk1⟩:=t0c fk0
   obtain⟨x2,_,rfl,fk2⟩:=t0c fk1
   obtain⟨x3,_,rfl,fk3⟩:=t0c fk2
   obtain⟨x4,_,rfl,fk4⟩:=t0c fk3
   obtain⟨x5,_,rfl,fk5⟩:=t0c fk4
   obtain⟨x6,_,rfl,fk6⟩:=t0c fk5
   obtain⟨x7,_,rfl,fk7⟩:=h4v fk6
   obtain⟨x8,_,rfl,fk8⟩:=t0c fk7
   obtain⟨x9,_,rfl,fk9⟩:=t0c fk8
   obtain⟨x10,_,rfl,fk10⟩:=t0c fk9
   obtain⟨x11,_,rfl,fk11⟩:=t0c fk10
   obtain⟨x12,_,rfl,fk12⟩:=t0c fk11
   obtain⟨x13,_,rfl,fk13⟩:=t0c fk12
   obtain⟨x14,_,rfl,fk14⟩:=t1c fk13
   obtain⟨x15,_,rfl,fk15⟩:=t0c fk14
   obtain⟨x16,_,rfl,fk16⟩:=t0c fk15
   obtain⟨x17,_,rfl,fk17⟩:=t0c fk16
   obtain⟨x18,_,rfl,fk18⟩:=t0c fk17
   obtain⟨x19,_,rfl,fk19⟩:=t0c fk18
   obtain⟨x20,_,rfl,fk20⟩:=t1c fk19
   obtain⟨x21,_,rfl,fk21⟩:=t1c fk20
   obtain⟨x22,_,rfl,fk22⟩:=t1c fk21
   obtain⟨x23,_,rfl,fk23⟩:=t1c fk22
   cases h3p fk23
   rw[l3n]
   have h:(wL x3 x5 x6 32 x8 x7 x22).map (fun r=>((0:Nat),[.l TB x0,.n x1,.n x2,.n x3,.n x4,.n x5,.n x6,.b r.1,.n x9,.n x10,.n x11,.n x12,.n x13,.l TB x14,.n x15,.n x16,.n x17,.n x18,.n x19,.l TB x20,.l TB x21,.l TB r.2,.l TB x23]))=some y:=h
   cases e:wL x3 x5 x6 32 x8 x7 x22 with
   |none=>rw[e]at h;cases h
   |some r=>
    rw[e]at h
    cases h
    exact wl0 hp14 hp5 hp6 hp3 32 _ _ _ _ _ FU e (b1w (by omega))
 ·rename_i d
  cases hc:(h1z [.l TB,.n,.n,.n,.n,.n,.n,.b,.n,.n,.n,.n,.n,.n,.l TB,.n,.n,.n,.n,.n,.l TB,.l TB,.l TB] d&&(decide ((gl TB d 14).length=64)&&decide (0≤gn d 5)&&decide (0≤gn d 6)&&decide (0≤gn d 3)))with
  |false=>rw[hc]at h;cases h
  |true=>
   rw[hc]at h
   simp only[Bool.and_eq_true,decide_eq_true_eq]at hc
   obtain⟨hk,⟨⟨hp14,hp5⟩,hp6⟩,hp3⟩:=hc
   obtain⟨x0,_,rfl,fk0⟩:=t1c hk
   obtain⟨x1,_,rfl,fk1⟩:=t0c fk0
   obtain⟨x2,_,rfl,fk2⟩:=t0c fk1
   obtain⟨x3,_,rfl,fk3⟩:=t0c fk2
   obtain⟨x4,_,rfl,fk4⟩:=t0c fk3
   obtain⟨x5,_,rfl,fk5⟩:=t0c fk4
   obtain⟨x6,_,rfl,fk6⟩:=t0c fk5
   obtain⟨x7,_,rfl,fk7⟩:=h4v fk6
   obtain⟨x8,_,rfl,fk8⟩:=t0c fk7
   obtain⟨x9,_,rfl,fk9⟩:=t0c fk8
   obtain⟨x10,_,rfl,fk10⟩:=t0c fk9
   obtain⟨x11,_,rfl,fk11⟩:=t0c fk10
   obtain⟨x12,_,rfl,fk12⟩:=t0c fk11
   obtain⟨x13,_,rfl,fk13⟩:=t0c fk12
   obtain⟨x14,_,rfl,fk14⟩:=t1c fk13
   obtain⟨x15,_,rfl,fk15⟩:=t0c fk14
   obtain⟨x16,_,rfl,fk16⟩:=t0c fk15
   obtain⟨x17,_,rfl,fk17⟩:=t0c fk16
   obtain⟨x18,_,rfl,fk18⟩:=t0c fk17
   obtain⟨x19,_,rfl,fk19⟩:=t0c fk18
   obtain⟨x20,_,rfl,fk20⟩:=t1c fk19
   obtain⟨x21,_,rfl,fk21⟩:=t1c fk20
   obtain⟨x22,_,rfl,fk22⟩:=t1c fk21
   cases h3p fk22
   rw[l3n]
   have h:(wL x3 x5 x6 32 x8 x7 x22).map (fun r=>((1:Nat),[.l TB x0,.n x1,.n x2,.n x3,.n x4,.n x5,.n x6,.b r.1,.n x9,.n x10,.n x11,.n x12,.n x13,.l TB x14,.n x15,.n x16,.n x17,.n x18,.n x19,.l TB x20,.l TB x21,.l TB r.2]))=some y:=h
   cases e:wL x3 x5 x6 32 x8 x7 x22 with
   |none=>rw[e]at h;cases h
   |some r=>
    rw[e]at h
    cases h
    exact wl1 hp14 hp5 hp6 hp3 32 _ _ _ _ _ FU e (b1w (by omega))
 ·rename_i d
  cases hc:(h1z [.l TB,.n,.n,.n,.n,.n,.n,.b,.n,.n,.n,.n,.n,.n,.l TB,.n,.n,.n,.n,.n,.l TB,.l TB,.l TB] d&&(decide ((gl TB d 14).length=64)&&decide (0≤gn d 5)&&decide (0≤gn d 6)&&decide (0≤gn d 3)))with
  |false=>rw[hc]at h;cases h
  |true=>
   rw[hc]at h
   simp only[Bool.and_eq_true,decide_eq_true_eq]at hc
   obtain⟨hk,⟨⟨hp14,hp5⟩,hp6⟩,hp3⟩:=hc
   obtain⟨x0,_,rfl,fk0⟩:=t1c hk
   obtain⟨x1,_,rfl,fk1⟩:=t0c fk0
   obtain⟨x2,_,rfl,fk2⟩:=t0c fk1
   obtain⟨x3,_,rfl,fk3⟩:=t0c fk2
   obtain⟨x4,_,rfl,fk4⟩:=t0c fk3
   obtain⟨x5,_,rfl,fk5⟩:=t0c fk4
   obtain⟨x6,_,rfl,fk6⟩:=t0c fk5
   obtain⟨x7,_,rfl,fk7⟩:=h4v fk6
   obtain⟨x8,_,rfl,fk8⟩:=t0c fk7
   obtain⟨x9,_,rfl,fk9⟩:=t0c fk8
   obtain⟨x10,_,rfl,fk10⟩:=t0c fk9
   obtain⟨x11,_,rfl,fk11⟩:=t0c fk10
   obtain⟨x12,_,rfl,fk12⟩:=t0c fk11
   obtain⟨x13,_,rfl,fk13⟩:=t0c fk12
   obtain⟨x14,_,rfl,fk14⟩:=t1c fk13
   obtain⟨x15,_,rfl,fk15⟩:=t0c fk14
   obtain⟨x16,_,rfl,fk16⟩:=t0c fk15
   obtain⟨x17,_,rfl,fk17⟩:=t0c fk16
   obtain⟨x18,_,rfl,fk18⟩:=t0c fk17
   obtain⟨x19,_,rfl,fk19⟩:=t0c fk18
   obtain⟨x20,_,rfl,fk20⟩:=t1c fk19
   obtain⟨x21,_,rfl,fk21⟩:=t1c fk20
   obtain⟨x22,_,rfl,fk22⟩:=t1c fk21
   cases h3p fk22
   rw[l3n]
   have h:(wL x3 x5 x6 32 x8 x7 x22).map (fun r=>((1:Nat),[.l TB x0,.n x1,.n x2,.n x3,.n x4,.n x5,.n x6,.b r.1,.n x9,.n x10,.n x11,.n x12,.n x13,.l TB x14,.n x15,.n x16,.n x17,.n x18,.n x19,.l TB x20,.l TB x21,.l TB r.2]))=some y:=h
   cases e:wL x3 x5 x6 32 x8 x7 x22 with
   |none=>rw[e]at h;cases h
   |some r=>
    rw[e]at h
    cases h
    exact wl2 hp14 hp5 hp6 hp3 32 _ _ _ _ _ FU e (b1w (by omega))
 ·cases h
def lsW:b0u:=lsM [(16,mkMA a4s tW)] 0
theorem lsW_ok:LsOk Try.prog 0 lsW (a0r Try.prog 38):=lsE (lsC (s3h tW_ok (z3n a4u)) (atF) lsZ)
def aW:List PV:=[loV 0,liV 7,.imm TB 12,.int .u16 13,.int .u16 14,.int .u32 15]
theorem whA:(Lk.lawB true LK csT 38 lsW (instL aW [.n (0:Int),.n (0:Int),.n (0:Int),.n (0:Int),.n (0:Int),.l TB ((List.replicate 64 0):List Int),.n (0:Int),.n (0:Int),.n (0:Int),.n (0:Int),.n (0:Int),.l TB ([7]:List Int),.l TB ([]:List Int),.n (0:Int),.n (175:Int),.n (1091006939:Int)])).sel=some true:=by kernel_rfl
theorem whB:(Lk.lawB true LK csT 38 lsW (instL aW [.n (0:Int),.n (0:Int),.n (0:Int),.n (0:Int),.n (0:Int),.l TB ((List.replicate 64 0):List Int),.n (0:Int),.n (0:Int),.n (0:Int),.n ((-1):Int),.n (0:Int),.l TB ([]:List Int),.l TB ([]:List Int),.n (0:Int),.n (871:Int),.n (1091006939:Int)])).sel=some true:=by kernel_rfl
theorem whC:(Lk.lawB true LK csT 38 lsW (instL aW [.n (3:Int),.n (4:Int),.n (1:Int),.n (2:Int),.n (3:Int),.l TB ((List.replicate 63 0++[9]):List Int),.n (4:Int),.n (1:Int),.n (2:Int),.n (3:Int),.n (4611686018427387904:Int),.l TB ([97,98]:List Int),.l TB ([0]:List Int),.n (3:Int),.n (872:Int),.n (4294967295:Int)])).sel=some true:=by kernel_rfl
def pFA (n0:Int)(n1:Int)(n2:Int)(n3:Int)(n4:Int)(l5:List Int)(n6:Int)(n7:Int)(n8:Int)(n9:Int)(n10:Int)(l11:List Int)(l12:List Int)(n13:Int)(n14:Int)(n15:Int):Bool:=(n0==0)&&(n1==0)&&(n2==0)&&(n3==0)&&(n4==0)&&eqLi l5 (List.replicate 64 0)&&(n6==0)&&(n7==0)&&(n8==0)&&(n9==0)&&(n10==0)&&eqLi l11 [7]&&eqLi l12 []&&(n13==0)&&(n14==175)&&(n15==1091006939)
def pFB (n0:Int)(n1:Int)(n2:Int)(n3:Int)(n4:Int)(l5:List Int)(n6:Int)(n7:Int)(n8:Int)(n9:Int)(n10:Int)(l11:List Int)(l12:List Int)(n13:Int)(n14:Int)(n15:Int):Bool:=(n0==0)&&(n1==0)&&(n2==0)&&(n3==0)&&(n4==0)&&eqLi l5 (List.replicate 64 0)&&(n6==0)&&(n7==0)&&(n8==0)&&(n9==(-1))&&(n10==0)&&eqLi l11 []&&eqLi l12 []&&(n13==0)&&(n14==871)&&(n15==1091006939)
def pFC (n0:Int)(n1:Int)(n2:Int)(n3:Int)(n4:Int)(l5:List Int)(n6:Int)(n7:Int)(n8:Int)(n9:Int)(n10:Int)(l11:List Int)(l12:List Int)(n13:Int)(n14:Int)(n15:Int):Bool:=(n0==3)&&(n1==4)&&(n2==1)&&(n3==2)&&(n4==3)&&eqLi l5 (List.replicate 63 0++[9])&&(n6==4)&&(n7==1)&&(n8==2)&&(n9==3)&&(n10==4611686018427387904)&&eqLi l11 [97,98]&&eqLi l12 [0]&&(n13==3)&&(n14==872)&&(n15==4294967295)
def pF (d:List Dat):Bool:=pFA (gn d 0) (gn d 1) (gn d 2) (gn d 3) (gn d 4) (gl TB d 5) (gn d 6) (gn d 7) (gn d 8) (gn d 9) (gn d 10) (gl TB d 11) (gl TB d 12) (gn d 13) (gn d 14) (gn d 15)||(pFB (gn d 0) (gn d 1) (gn d 2) (gn d 3) (gn d 4) (gl TB d 5) (gn d 6) (gn d 7) (gn d 8) (gn d 9) (gn d 10) (gl TB d 11) (gl TB d 12) (gn d 13) (gn d 14) (gn d 15)||pFC (gn d 0) (gn d 1) (gn d 2) (gn d 3) (gn d 4) (gl TB d 5) (gn d 6) (gn d 7) (gn d 8) (gn d 9) (gn d 10) (gl TB d 11) (gl TB d 12) (gn d 13) (gn d 14) (gn d 15))
def S_fw:BSh:={args:=aW,outs:=[(.bool 0,[])]}
def op_fw:OpA:=r3c [.n,.n,.n,.n,.n,.l TB,.n,.n,.n,.n,.n,.l TB,.l TB,.n,.n,.n] pF
theorem fw_ok:a0v Try.prog 38 (a0j (mkF S_fw.args S_fw.blks S_fw.log S_fw.outs op_fw)):=m3r (op:=op_fw) (args:=aW) csT_ok a4e true (ls:=lsW) lsW_ok fun env x he=>by
 obtain⟨rfl,hk,hp⟩:=j3v he
 refine⟨rfl,?_⟩
 obtain⟨x0,_,rfl,fk0⟩:=t0c hk
 obtain⟨x1,_,rfl,fk1⟩:=t0c fk0
 obtain⟨x2,_,rfl,fk2⟩:=t0c fk1
 obtain⟨x3,_,rfl,fk3⟩:=t0c fk2
 obtain⟨x4,_,rfl,fk4⟩:=t0c fk3
 obtain⟨x5,_,rfl,fk5⟩:=t1c fk4
 obtain⟨x6,_,rfl,fk6⟩:=t0c fk5
 obtain⟨x7,_,rfl,fk7⟩:=t0c fk6
 obtain⟨x8,_,rfl,fk8⟩:=t0c fk7
 obtain⟨x9,_,rfl,fk9⟩:=t0c fk8
 obtain⟨x10,_,rfl,fk10⟩:=t0c fk9
 obtain⟨x11,_,rfl,fk11⟩:=t1c fk10
 obtain⟨x12,_,rfl,fk12⟩:=t1c fk11
 obtain⟨x13,_,rfl,fk13⟩:=t0c fk12
 obtain⟨x14,_,rfl,fk14⟩:=t0c fk13
 obtain⟨x15,_,rfl,fk15⟩:=t0c fk14
 cases h3p fk15
 rw[←lawB_lk]
 have hp:(pFA x0 x1 x2 x3 x4 x5 x6 x7 x8 x9 x10 x11 x12 x13 x14 x15||(pFB x0 x1 x2 x3 x4 x5 x6 x7 x8 x9 x10 x11 x12 x13 x14 x15||pFC x0 x1 x2 x3 x4 x5 x6 x7 x8 x9 x10 x11 x12 x13 x14 x15))=true:=hp
 rw[Bool.or_eq_true,Bool.or_eq_true]at hp
 rcases hp with hp|hp|hp
 ·unfold pFA at hp
  simp only[Bool.and_eq_true]at hp
  obtain⟨⟨⟨⟨⟨⟨⟨⟨⟨⟨⟨⟨⟨⟨⟨e0,e1⟩,e2⟩,e3⟩,e4⟩,e5⟩,e6⟩,e7⟩,e8⟩,e9⟩,e10⟩,e11⟩,e12⟩,e13⟩,e14⟩,e15⟩:=hp
  obtain rfl:x0=(0:Int):=eq_of_beq e0
  obtain rfl:x1=(0:Int):=eq_of_beq e1
  obtain rfl:x2=(0:Int):=eq_of_beq e2
  obtain rfl:x3=(0:Int):=eq_of_beq e3
  obtain rfl:x4=(0:Int):=eq_of_beq e4
  obtain rfl:x5=((List.replicate 64 0):List Int):=h3g e5
  obtain rfl:x6=(0:Int):=eq_of_beq e6
  obtain rfl:x7=(0:Int):=eq_of_beq e7
  obtain rfl:x8=(0:Int):=eq_of_beq e8
  obtain rfl:x9=(0:Int):=eq_of_beq e9
  obtain rfl:x10=(0:Int):=eq_of_beq e10
  obtain rfl:x11=([7]:List Int):=h3g e11
  obtain rfl:x12=([]:List Int):=h3g e12
  obtain rfl:x13=(0:Int):=eq_of_beq e13
  obtain rfl:x14=(175:Int):=eq_of_beq e14
  obtain rfl:x15=(1091006939:Int):=eq_of_beq e15
  exact whA
 ·unfold pFB at hp
  simp only[Bool.and_eq_true]at hp
  obtain⟨⟨⟨⟨⟨⟨⟨⟨⟨⟨⟨⟨⟨⟨⟨e0,e1⟩,e2⟩,e3⟩,e4⟩,e5⟩,e6⟩,e7⟩,e8⟩,e9⟩,e10⟩,e11⟩,e12⟩,e13⟩,e14⟩,e15⟩:=hp
  obtain rfl:x0=(0:Int):=eq_of_beq e0
  obtain rfl:x1=(0:Int):=eq_of_beq e1
  obtain rfl:x2=(0:Int):=eq_of_beq e2
  obtain rfl:x3=(0:Int):=eq_of_beq e3
  obtain rfl:x4=(0:Int):=eq_of_beq e4
  obtain rfl:x5=((List.replicate 64 0):List Int):=h3g e5
  obtain rfl:x6=(0:Int):=eq_of_beq e6
  obtain rfl:x7=(0:Int):=eq_of_beq e7
  obtain rfl:x8=(0:Int):=eq_of_beq e8
  obtain rfl:x9=((-1):Int):=eq_of_beq e9
  obtain rfl:x10=(0:Int):=eq_of_beq e10
  obtain rfl:x11=([]:List Int):=h3g e11
  obtain rfl:x12=([]:List Int):=h3g e12
  obtain rfl:x13=(0:Int):=eq_of_beq e13
  obtain rfl:x14=(871:Int):=eq_of_beq e14
  obtain rfl:x15=(1091006939:Int):=eq_of_beq e15
  exact whB
 ·unfold pFC at hp
  simp only[Bool.and_eq_true]at hp
  obtain⟨⟨⟨⟨⟨⟨⟨⟨⟨⟨⟨⟨⟨⟨⟨e0,e1⟩,e2⟩,e3⟩,e4⟩,e5⟩,e6⟩,e7⟩,e8⟩,e9⟩,e10⟩,e11⟩,e12⟩,e13⟩,e14⟩,e15⟩:=hp
  obtain rfl:x0=(3:Int):=eq_of_beq e0
  obtain rfl:x1=(4:Int):=eq_of_beq e1
  obtain rfl:x2=(1:Int):=eq_of_beq e2
  obtain rfl:x3=(2:Int):=eq_of_beq e3
  obtain rfl:x4=(3:Int):=eq_of_beq e4
  obtain rfl:x5=((List.replicate 63 0++[9]):List Int):=h3g e5
  obtain rfl:x6=(4:Int):=eq_of_beq e6
  obtain rfl:x7=(1:Int):=eq_of_beq e7
  obtain rfl:x8=(2:Int):=eq_of_beq e8
  obtain rfl:x9=(3:Int):=eq_of_beq e9
  obtain rfl:x10=(4611686018427387904:Int):=eq_of_beq e10
  obtain rfl:x11=([97,98]:List Int):=h3g e11
  obtain rfl:x12=([0]:List Int):=h3g e12
  obtain rfl:x13=(3:Int):=eq_of_beq e13
  obtain rfl:x14=(872:Int):=eq_of_beq e14
  obtain rfl:x15=(4294967295:Int):=eq_of_beq e15
  exact whC
def csK:FuncId→Option a0q:=a0s 38 (S_fw.k op_fw) csT
theorem csK_ok:CsOk Try.prog csK:=csA csT_ok fw_ok
end Go.Proofs.Ytlambinleegdoaa.Vx
end
