import Derived.Test.YtmgeoaenkmoaiaaVxAsk
import Derived.Test.YtmgeoaenkmoaiaaZ25
import Derived.KernelRfl
import Derived.Test.YtmgeoaenkmoaiaaVxBits
import Derived.Test.YtmgeoaenkmoaiaaVxLoop
import Derived.Test.YtmgeoaenkmoaiaaVxAid
noncomputable section
namespace Go.Proofs.Ytmgeoaenkmoaiaa.Vx
open Go Go.RowKit
set_option linter.unusedVariables false
set_option linter.unusedSimpArgs false
set_option maxRecDepth 100000
set_option maxHeartbeats 0
abbrev LT:=List (Ty.den TTm)
abbrev L8:=List (Ty.den TB)
theorem w64x {x:Int}(h0: -9223372036854775808≤x)(h1:x<9223372036854775808):IntKind.wrap .i64 x=x:=w64 h0 (by omega)
theorem w1 (i:Nat)(h:i<9223372036854775807):IntKind.wrap .i64 ((i:Int)+1)=((i+1:Nat):Int):=by rw[w64x (by omega) (by omega)];rfl
def byT (l:L8)(i:Nat):Int:=List.getD (l:List Int) i 0
def dfT (a b:L8):Nat→LT
 |0=>[]
 |k+1=>dfT a b k++(bif byT a k==byT b k then[]else([((k:Int),byT b k)]:List (Ty.den TTm)))
theorem h4r (a b:L8): ∀k,(dfT a b k).length≤k
 |0=>Nat.le_refl _
 |k+1=>by
  have:=h4r a b k
  unfold dfT
  rw[List.length_append]
  cases(byT a k==byT b k)with
  |true=>show(dfT a b k).length+0≤k+1;omega
  |false=>show(dfT a b k).length+1≤k+1;omega
theorem p4q (l0:List (Ty.den TB))(n2:Int)(n3:Int)(n4:Int)(l5:List (Ty.den TB))(n6:Int)(n7:Int)(n8:Int)(n9:Int)(n10:Int)(n11:Int)(n12:Int)(n13:Int)(n14:Int):f4u (.k 0::.l TB l0::.n (0:Int)::.n n2::.n n3::.n n4::.l TB l5::.n n6::.n n7::.n n8::.n n9::.n n10::.n n11::.n n12::.n n13::.n n14::.l TTm (dfT l5 l0 0)::[])=some (0,[.n n7,.n n8,.n n9,.n n10,.n n11,.n n12,.n n13,.n n14,.l TTm (dfT l5 l0 64)]):=by
 rw[g4f]
 refine b0a (fun i=>(.k 0::.l TB l0::.n (i:Int)::.n n2::.n n3::.n n4::.l TB l5::.n n6::.n n7::.n n8::.n n9::.n n10::.n n11::.n n12::.n n13::.n n14::.l TTm (dfT l5 l0 i)::[])) (64) (0,[.n n7,.n n8,.n n9,.n n10,.n n11,.n n12,.n n13,.n n14,.l TTm (dfT l5 l0 64)]) (fun i hi=> ?_) ?_ FU (b1w (by omega))
 ·refine f4a _ _ _ _ _ _ _ _ _ _ _ _ _ _ _ _ (by omega) _ ?_
  unfold f4m
  have hcap:decide ((List.length (dfT l5 l0 i)+1)*16≤140737488355328)=true:=decide_eq_true (by have:=h4r l5 l0 i;omega)
  refine a0a (decide_eq_true (show(i:Int)<64 by omega)) ?_
  rw[w1 i (by omega)]
  cases hb:(byT l5 i==byT l0 i)with
  |true=>
   refine a0c (show(byT l5 i !=byT l0 i)=false by simp only[bne,hb];rfl) ?_
   have e:dfT l5 l0 (i+1)=dfT l5 l0 i:=by show dfT l5 l0 i++(bif byT l5 i==byT l0 i then[]else _)=_;rw[hb];simp
   rw[e];rfl
  |false=>
   refine a0a (show(byT l5 i !=byT l0 i)=true by simp only[bne,hb];rfl) (a0a hcap ?_)
   have e:dfT l5 l0 (i+1)=dfT l5 l0 i++([((i:Int),byT l0 i)]:List (Ty.den TTm)):=by show dfT l5 l0 i++(bif byT l5 i==byT l0 i then[]else _)=_;rw[hb];rfl
   rw[e];rfl
 ·refine f4a _ _ _ _ _ _ _ _ _ _ _ _ _ _ _ _ (by omega) _ ?_
  unfold f4m
  exact a0c (by simp) rfl
def r1 (l:LT)(i:Nat):Int:=tm_1 l (i:Int)
def h86 (l:LT)(i:Nat):Bool:=decide (r1 l i≤(if i=0 then -1 else r1 l (i-1)))||decide (r1 l i≥64)
def f4g (l:LT):Bool:=(b0i (h86 l) l.length).isNone
theorem h4i {l:LT}:f4g l=true↔ ∀i,i<l.length→h86 l i=false:=by
 unfold f4g
 cases h:b0i (h86 l) l.length with
 |none=>simp only[Option.isNone_none,true_iff];exact b0r h
 |some k=>
  obtain⟨h1,h2,_⟩:=b0x h
  simp only[Option.isNone_some,Bool.false_eq_true,false_iff]
  intro hh;rw[hh k h1]at h2;cases h2
theorem i4h {l:LT}(h: ∀i,i<l.length→h86 l i=false): ∀i,i<l.length→0≤r1 l i∧r1 l i<64
 |0,hi=>by have:=h 0 hi;unfold h86 at this;simp at this;omega
 |i+1,hi=>by
  have:=h (i+1) hi
  have ih:=i4h h i (by omega)
  unfold h86 at this;simp at this;omega
theorem e86 (l:LT)(hl:l.length≤1000):i4k [.l TTm l]=some (0,[.b (f4g l)]):=by
 have h1:g4a [.k 0,.n (-1:Int),.l TTm l,.n (l.length:Int),.n (0:Int)]=some (match b0i (h86 l) l.length with|some k=>(1,[.b false])|none=>(0,[])):=by
  rw[g4x]
  refine f0f (fun i=>[.k 0,.n (if i=0 then -1 else r1 l (i-1)),.l TTm l,.n (l.length:Int),.n (i:Int)]) l.length (h86 l) (fun _=>(1,[.b false])) (0,[]) (fun i hi hh=> ?_) (fun i hi hh=> ?_) ?_ FU (b1w (by omega))
  ·refine e4g _ _ _ _ (by omega) rfl _ ?_
   unfold e4n
   unfold h86 at hh
   rw[Bool.or_eq_false_iff]at hh
   refine a0a (decide_eq_true (show(i:Int)<(l.length:Int) by omega)) (a0c hh.1 (a0c hh.2 ?_))
   rw[w1 i (by omega)];rfl
  ·refine e4g _ _ _ _ (by omega) rfl _ ?_
   unfold e4n
   unfold h86 at hh
   refine a0a (decide_eq_true (show(i:Int)<(l.length:Int) by omega)) ?_
   cases hc:decide (r1 l i≤(if i=0 then -1 else r1 l (i-1)))with
   |true=>exact a0a hc rfl
   |false=>rw[hc,Bool.false_or]at hh;exact a0c hc (a0a hh rfl)
  ·refine e4g _ _ _ _ (by omega) rfl _ ?_
   unfold e4n
   exact a0c (decide_eq_false (show¬((l.length:Nat):Int)<(l.length:Int) by omega)) rfl
 rw[j4g]
 refine k4y _ _ ?_
 unfold o4i
 dsimp only
 erw[h1]
 unfold f4g
 cases b0i (h86 l) l.length with
 |none=>exact a0a rfl rfl
 |some k=>exact a0c rfl (a0a rfl rfl)
def paN (a:L8)(l:LT):Nat→L8
 |0=>a
 |i+1=>List.set (paN a l i) (Int.toNat (tm_1 l (i:Int))) (tm_2 l (i:Int))
theorem inR64 {l:LT}(h: ∀i,i<l.length→h86 l i=false){i:Nat}(hi:i<l.length):inR (tm_1 l (i:Int)) 64=true:=by
 have:=i4h h i hi
 unfold inR
 rw[decide_eq_true (show 0≤tm_1 l (i:Int)from this.1),decide_eq_true (show tm_1 l (i:Int)<((64:Nat):Int)from this.2)];rfl
theorem p4u (l0:List (Ty.den TTm))(n1:Int)(n3:Int)(n4:Int)(n5:Int)(n7:Int)(n8:Int)(n9:Int)(n10:Int)(l11:List (Ty.den TB))(n12:Int)(a:L8)(hl:l0.length≤1000)(hn:n1=(l0.length:Int))(hr: ∀i,i<l0.length→h86 l0 i=false):f4w (.k 0::.l TTm l0::.n n1::.n (0:Int)::.n n3::.n n4::.n n5::.l TB (paN a l0 0)::.n n7::.n n8::.n n9::.n n10::.l TB l11::.n n12::[])=some (0,[.n n3,.n n4,.n n5,.l TB (paN a l0 l0.length),.n n7,.n n8,.n n9,.n n10,.l TB l11,.n n12]):=by
 rw[g4p]
 refine b0a (fun i=>(.k 0::.l TTm l0::.n n1::.n (i:Int)::.n n3::.n n4::.n n5::.l TB (paN a l0 i)::.n n7::.n n8::.n n9::.n n10::.l TB l11::.n n12::[])) (l0.length) (0,[.n n3,.n n4,.n n5,.l TB (paN a l0 l0.length),.n n7,.n n8,.n n9,.n n10,.l TB l11,.n n12]) (fun i hi=> ?_) ?_ FU (b1w (by omega))
 ·refine f4d _ _ _ _ _ _ _ _ _ _ _ _ _ (by omega) hn _ ?_
  unfold f4h
  refine a0a (decide_eq_true (show(i:Int)<n1 by omega)) (a0a (inR64 hr hi) ?_)
  rw[w1 i (by omega)];rfl
 ·refine f4d _ _ _ _ _ _ _ _ _ _ _ _ _ (by omega) hn _ ?_
  unfold f4h
  exact a0c (decide_eq_false (by omega)) rfl
theorem e21 (n0:Int)(n1:Int)(n2:Int)(l3:L8)(n4:Int)(n5:Int)(n6:Int)(n7:Int)(l8:L8)(n9:Int):k4m [.n n0,.n n1,.n n2,.l TB l3,.n n4,.n n5,.n n6,.n n7,.l TB l8,.n n9]=some (0,[.n (ixor IntKind.u64 n0 n5),.n (ixor IntKind.u64 n1 n6),.n (ixor IntKind.u64 n2 n7),.n (ixor IntKind.u32 n4 n9),.l TTm (dfT l3 l8 64)]):=by
 rw[j4u]
 refine k4l _ _ _ _ _ _ _ _ _ _ _ ?_
 unfold m4w
 dsimp only
 erw[p4q l8 n0 n1 n2 l3 n4 (0:Int) (0:Int) (0:Int) (0:Int) (ixor IntKind.u64 n0 n5) (ixor IntKind.u64 n1 n6) (ixor IntKind.u64 n2 n7) (ixor IntKind.u32 n4 n9)]
 exact a0a rfl rfl
theorem e22 (n0:Int)(n1:Int)(n2:Int)(l3:L8)(n4:Int)(n5:Int)(n6:Int)(n7:Int)(n8:Int)(l9:LT)(hl:l9.length≤1000):i4j [.n n0,.n n1,.n n2,.l TB l3,.n n4,.n n5,.n n6,.n n7,.n n8,.l TTm l9]=some (0,bif f4g l9 then[.n (ixor IntKind.u64 n0 n5),.n (ixor IntKind.u64 n1 n6),.n (ixor IntKind.u64 n2 n7),.l TB (paN l3 l9 l9.length),.n (ixor IntKind.u32 n4 n8),.n (0:Int)]else[.n (0:Int),.n (0:Int),.n (0:Int),.l TB (List.replicate 64 (0:Int)),.n (0:Int),.n (2:Int)]):=by
 rw[i4t]
 refine l4d _ _ _ _ _ _ _ _ _ _ _ ?_
 unfold m4o
 dsimp only
 rw[e86 _ hl]
 refine a0a rfl ?_
 cases hr:f4g l9 with
 |false=>exact a0a rfl rfl
 |true=>
  refine a0c rfl ?_
  erw[p4u l9 (↑(List.length l9):Int) (ixor IntKind.u64 n0 n5) (ixor IntKind.u64 n1 n6) (ixor IntKind.u64 n2 n7) (ixor IntKind.u32 n4 n8) (0:Int) (0:Int) (0:Int) (List.replicate 64 (0:Int)) (0:Int) l3 hl rfl (h4i.1 hr)]
  exact a0a rfl rfl
theorem f4z (l:L8):eqL TB l l=true:=by
 induction l with
 |nil=>rfl
 |cons y l ih=>
  show(eqD TB y y&&eqL TB l l)=true
  rw[ih]
  rw[Bool.and_true]
  exact beq_self_eq_true (α:=Int) y
abbrev LG:=List (Ty.den TLog)
theorem w1n (i:Nat)(h:i<1000000000):IntKind.wrap .i64 ((i:Int)+1)=((i+1:Nat):Int):=by rw[w64s (by omega) (by omega)];rfl
def inB (x:Int):Bool:=decide (0≤x)&&decide (x≤1099511627776)
theorem d4x {x:Int}:inB x=true↔0≤x∧x≤1099511627776:=by unfold inB;rw[Bool.and_eq_true,decide_eq_true_eq,decide_eq_true_eq]
theorem eWi (l:List Int)(hl:l.length≤100):e4j [.l TI l]=some (0,[.b (l.all inB)]):=by
 have h1:h4t [.k 0,.l TI l,.n (l.length:Int),.n (0:Int)]=some (match b0i (fun i=> !inB (l.getD i 0)) l.length with|some k=>(1,[.b false])|none=>(0,[])):=by
  rw[l4j]
  refine f0f (fun i=>[.k 0,.l TI l,.n (l.length:Int),.n (i:Int)]) l.length (fun i=> !inB (l.getD i 0)) (fun _=>(1,[.b false])) (0,[]) (fun i hi hh=> ?_) (fun i hi hh=> ?_) ?_ FU (b1w (by omega))
  ·have h:inB (l.getD i 0)=true:=by simpa using hh
   obtain⟨a,b⟩:=d4x.1 h
   have:=k4j (l0:=l) (n1:=(l.length:Int)) (n2:=(i:Int)) (by omega) rfl (by omega) (show¬(l.getD i 0:Int)<0 by omega) (show¬(l.getD i 0:Int)>1099511627776 by omega)
   rw[w1n i (by omega)]at this;exact this
  ·have h: ¬(0≤l.getD i 0∧l.getD i 0≤1099511627776):=fun q=>by rw[d4x.2 q]at hh;cases hh
   by_cases a:l.getD i 0<0
   ·exact l4c (l0:=l) (by omega) rfl (by omega) a
   ·exact k4g (l0:=l) (by omega) rfl (by omega) a (show l.getD i 0>1099511627776 by omega)
  ·exact l4n (by omega) rfl (by omega)
 cases hq:b0i (fun i=> !inB (l.getD i 0)) l.length with
 |none=>
  rw[hq]at h1
  have e:l.all inB=true:=List.all_eq_true.2 fun x hx=>by
   obtain⟨i,hi,rfl⟩:=List.getElem_of_mem hx
   have:=b0r hq i hi
   simpa [List.getD_eq_getElem?_getD,List.getElem?_eq_getElem hi]using this
  rw[e];exact p4o h1
 |some k=>
  rw[hq]at h1
  obtain⟨a,b,_⟩:=b0x hq
  have e:l.all inB=false:=by
   rw[Bool.eq_false_iff]
   intro h
   have:=List.all_eq_true.1 h (l.getD k 0) (h0f a)
   simp only[this]at b;cases b
  rw[e];exact r4y h1
def odI (e c f d:Int):Int:=if e=f then(if c<d then -1 else if c>d then 1 else 0)else if e<f then -1 else 1
def lt2 (e c f d:Int):Prop:=e<f∨(e=f∧c<d)
theorem w4r {e c f d:Int}:odI e c f d<0↔lt2 e c f d:=by unfold odI lt2;split<;>split<;>(try split)<;>omega
theorem w4w {e c f d:Int}: ¬odI e c f d≤0↔lt2 f d e c:=by unfold odI lt2;split<;>split<;>(try split)<;>omega
theorem m4r {e c f d:Int}:odI e c f d=0↔e=f∧c=d:=by unfold odI;split<;>split<;>(try split)<;>omega
theorem g4s {a b c d e f:Int}(h:lt2 a b c d)(k:lt2 c d e f):lt2 a b e f:=by unfold lt2 at*;omega
theorem h4l {a b:Int}: ¬lt2 a b a b:=by unfold lt2;omega
section
variable (n0 n1 n2 n3 n4 n6 n7 n8 n9 n10 n11 n13:Int) (l5 l12:L8)
theorem eOd:d4y [.n n0,.n n1,.n n2,.n n3,.n n4,.l TB l5,.n n6,.n n7,.n n8,.n n9,.n n10,.n n11,.l TB l12,.n n13]=some (0,[.n (odI n0 n1 n7 n8)]):=by
 unfold odI
 by_cases h:n0=n7
 ·rw[if_pos h]
  by_cases h1:n1<n8
  ·rw[if_pos h1];exact q4t h h1
  ·rw[if_neg h1]
   by_cases h2:n1>n8
   ·rw[if_pos h2];exact s4o h h1 h2
   ·rw[if_neg h2];exact o4s h h1 h2
 ·rw[if_neg h]
  by_cases h1:n0<n7
  ·rw[if_pos h1];exact t4g h h1
  ·rw[if_neg h1];exact r4d h h1
end
structure Ms where
 k:Int
 e:Int
 c:Int
 be:Int
 bb:Int
 u5:Int
 u6:Int
 u7:Int
 l:L8
 v9:Int
 v10:Int
 v11:Int
 v12:Int
 v13:Int
structure Rc where
 e:Int
 c:Int
 a:Int
 b:Int
 d:Int
 t:L8
 u:Int
 h:Bool
def mayB (m:Ms)(tm:LT):Bool:=decide (1≤m.k∧m.k≤4∧0≤m.e∧m.e≤1099511627776∧0≤m.c∧m.c≤1099511627776∧0≤m.be∧m.be≤1099511627776∧0≤m.bb∧m.bb≤1099511627776)&&f4g tm
theorem g4e {m:Ms}{tm:LT}:mayB m tm=true↔(1≤m.k∧m.k≤4∧0≤m.e∧m.e≤1099511627776∧0≤m.c∧m.c≤1099511627776∧0≤m.be∧m.be≤1099511627776∧0≤m.bb∧m.bb≤1099511627776)∧f4g tm=true:=by
 unfold mayB;rw[Bool.and_eq_true,decide_eq_true_eq]
theorem e4c {m:Ms}{tm:LT}(h: ¬(1≤m.k∧m.k≤4∧0≤m.e∧m.e≤1099511627776∧0≤m.c∧m.c≤1099511627776∧0≤m.be∧m.be≤1099511627776∧0≤m.bb∧m.bb≤1099511627776)):mayB m tm=false:=by
 rw[Bool.eq_false_iff];exact fun q=>h (g4e.1 q).1
theorem may_yes {m:Ms}{tm:LT}(h:1≤m.k∧m.k≤4∧0≤m.e∧m.e≤1099511627776∧0≤m.c∧m.c≤1099511627776∧0≤m.be∧m.be≤1099511627776∧0≤m.bb∧m.bb≤1099511627776):mayB m tm=f4g tm:=
 Bool.eq_iff_iff.2 ⟨fun q=>(g4e.1 q).2,fun q=>g4e.2 ⟨h,q⟩⟩
theorem eMa (m:Ms)(tm:LT)(ht:tm.length≤1000):d4w [.n m.k,.n m.e,.n m.c,.n m.be,.n m.bb,.n m.u5,.n m.u6,.n m.u7,.l TB m.l,.n m.v9,.n m.v10,.n m.v11,.n m.v12,.n m.v13,.l TTm tm]=some (0,[.b (mayB m tm)]):=by
 have e:=eWi [m.e,m.c,m.be,m.bb] (by simp)
 by_cases h0:m.k≥1
 ·by_cases h1:m.k≤4
  ·cases hq:[m.e,m.c,m.be,m.bb].all inB with
   |true=>
    rw[hq]at e
    have hx: ∀x∈[m.e,m.c,m.be,m.bb],inB x=true:=List.all_eq_true.1 hq
    have a1:=d4x.1 (hx m.e (by simp))
    have a2:=d4x.1 (hx m.c (by simp))
    have a3:=d4x.1 (hx m.be (by simp))
    have a4:=d4x.1 (hx m.bb (by simp))
    rw[may_yes (by omega)]
    exact q4n h0 h1 e rfl (e86 tm ht)
   |false=>
    rw[hq]at e
    rw[e4c fun q=> ?_]
    ·exact s4x h0 h1 e rfl
    ·have:[m.e,m.c,m.be,m.bb].all inB=true:=by
      simp only[List.all_cons,List.all_nil,Bool.and_true,Bool.and_eq_true,d4x];omega
     rw[hq]at this;cases this
  ·rw[e4c (by omega)];exact s4j h0 h1
 ·rw[e4c (by omega)];exact r4j h0
abbrev z64:L8:=List.replicate 64 (0:Int)
def zM:Ms:=⟨0,0,0,0,0,0,0,0,z64,0,0,0,0,0⟩
def aM (e c:Int):Ms:=⟨3,e,c,0,0,0,0,0,z64,0,0,0,0,0⟩
def fM:Ms:=⟨4,0,0,0,0,0,0,0,z64,0,0,0,0,0⟩
abbrev rE (R:LG)(i:Nat):Int:=Prod.fst (List.getD R i (Ty.dflt TLog))
abbrev rC (R:LG)(i:Nat):Int:=Prod.fst (Prod.snd (List.getD R i (Ty.dflt TLog)))
abbrev rA (R:LG)(i:Nat):Int:=Prod.fst (Prod.snd (Prod.snd (List.getD R i (Ty.dflt TLog))))
abbrev rB (R:LG)(i:Nat):Int:=Prod.fst (Prod.snd (Prod.snd (Prod.snd (List.getD R i (Ty.dflt TLog)))))
abbrev rD (R:LG)(i:Nat):Int:=Prod.fst (Prod.snd (Prod.snd (Prod.snd (Prod.snd (List.getD R i (Ty.dflt TLog))))))
abbrev rT (R:LG)(i:Nat):L8:=Prod.fst (Prod.snd (Prod.snd (Prod.snd (Prod.snd (Prod.snd (List.getD R i (Ty.dflt TLog)))))))
abbrev rU (R:LG)(i:Nat):Int:=Prod.snd (Prod.snd (Prod.snd (Prod.snd (Prod.snd (Prod.snd (List.getD R i (Ty.dflt TLog)))))))
structure InvR (R:LG)(b:Int):Prop where
 l8:R.length≤8
 b0:0≤b
 bl:b≤(R.length:Int)
 ris: ∀i j,i<j→j<R.length→lt2 (rE R i) (rC R i) (rE R j) (rC R j)
theorem h4w {α:Type}{l:List α}{x d:α}{i:Nat}(h:i<l.length):(l++[x]).getD i d=l.getD i d:=by
 rw[List.getD_eq_getElem?_getD,List.getD_eq_getElem?_getD,List.getElem?_append_left h]
theorem n4g {α:Type}{l:List α}{x d:α}:(l++[x]).getD l.length d=x:=by
 rw[List.getD_eq_getElem?_getD,List.getElem?_append_right (Nat.le_refl _)];simp
theorem i4y {α:Type}{l:List α}{x:α}:(l++[x]).length=l.length+1:=by simp
theorem h4n {a b c d a' b' c' d':Int}(h1:a=a')(h2:b=b')(h3:c=c')(h4:d=d')(h:lt2 a' b' c' d'):lt2 a b c d:=by subst h1 h2 h3 h4;exact h
theorem pE {x y:Ty.den TLog}(h:x=y):(Prod.fst x:Int)=Prod.fst y:=congrArg (fun(x:Ty.den TLog)=>(Prod.fst x:Int)) h
theorem pC {x y:Ty.den TLog}(h:x=y):(Prod.fst (Prod.snd x):Int)=Prod.fst (Prod.snd y):=congrArg (fun(x:Ty.den TLog)=>(Prod.fst (Prod.snd x):Int)) h
theorem lastI {R:LG}(h0:0<R.length)(h:R.length≤100):Int.toNat (IntKind.wrap .i64 ((R.length:Int)-(1:Int)))=R.length-1:=by
 rw[w64s (by omega) (by omega)];omega
theorem shr2 (x:Nat)(h:x≤1000):IntKind.wrap .i64 (ishr IntKind.u64 (IntKind.wrap .u64 (IntKind.wrap .i64 (x:Int))) (1:Int))=((x/2:Nat):Int):=by
 have e1:IntKind.wrap .i64 (x:Int)=x:=w64s (by omega) (by omega)
 have e2:IntKind.wrap .u64 (x:Int)=x:=by
  unfold IntKind.wrap
  simp[IntKind.bits,IntKind.signed]
  omega
 have e3:ishr IntKind.u64 (x:Int) (1:Int)=((x/2:Nat):Int):=by
  have:ishr IntKind.u64 (x:Int) (1:Int)=(x:Int).fdiv 2:=rfl
  rw[this,Int.fdiv_eq_ediv_of_nonneg _ (by omega)];omega
 rw[e1,e2,e3];exact w64s (by omega) (by omega)
def Bs (R:LG)(e c:Int)(lo hi:Nat):Prop:=(∀j,j<lo→lt2 (rE R j) (rC R j) e c)∧(∀j,hi≤j→j<R.length→ ¬lt2 (rE R j) (rC R j) e c)
theorem bsL {R:LG}(hR:R.length≤100)(hs: ∀i j,i<j→j<R.length→lt2 (rE R i) (rC R i) (rE R j) (rC R j))(e c a b d u:Int)(t:L8): ∀m lo hi:Nat,lo≤hi→hi≤R.length→hi-lo<m→Bs R e c lo hi→
  ∃i:Nat,i≤R.length∧Bs R e c i i∧a0b f4k m [.k 0,.l TLog R,.n (R.length:Int),.n (lo:Int),.n (hi:Int),.n e,.n c,.n a,.n b,.n d,.l TB t,.n u]=some (0,[.l TLog R,.n (R.length:Int),.n (i:Int),.n e,.n c,.n a,.n b,.n d,.l TB t,.n u]):=by
 intro m
 induction m with
 |zero=>intro lo hi _ _ hm;omega
 |succ m ih=>
  intro lo hi h1 h2 hm hB
  by_cases q:lo<hi
  ·have hw:IntKind.wrap .i64 (ishr IntKind.u64 (IntKind.wrap .u64 (IntKind.wrap .i64 ((lo:Int)+(hi:Int)))) (1:Int))=(((lo+hi)/2:Nat):Int):=by
    rw[show(lo:Int)+(hi:Int)=((lo+hi:Nat):Int) by omega];exact shr2 (lo+hi) (by omega)
   obtain⟨md,hmd⟩: ∃md,md=(lo+hi)/2:=⟨_,rfl⟩
   rw[←hmd]at hw
   obtain⟨j,hj⟩: ∃j,j=Int.toNat (IntKind.wrap .i64 (ishr IntKind.u64 (IntKind.wrap .u64 (IntKind.wrap .i64 ((lo:Int)+(hi:Int)))) (1:Int))):=⟨_,rfl⟩
   have jm:j=md:=by rw[hj,hw];rfl
   have f1:=eOd (rE R j) (rC R j) (rA R j) (rB R j) (rD R j) (rU R j) e c a b d u (rT R j) t
   have hin:inR (IntKind.wrap .i64 (ishr IntKind.u64 (IntKind.wrap .u64 (IntKind.wrap .i64 ((lo:Int)+(hi:Int)))) (1:Int))) (List.length R)=true:=by rw[hw];exact h1s (by omega) (by omega)
   by_cases o:odI (rE R j) (rC R j) e c<0
   ·have st:=l4m (l0:=R) (n1:=(R.length:Int)) (n2:=(lo:Int)) (n3:=(hi:Int)) (by omega) (by omega) rfl (by omega) (by omega) hin (by rw[←hj];exact f1) o
    rw[hw,w1n md (by omega)]at st
    obtain⟨i,k1,k2,k3⟩:=ih (md+1) hi (by omega) h2 (by omega) ⟨fun x hx=>by
     have hl:=w4r.1 o
     rw[jm]at hl
     by_cases p:x=md
     ·subst p;exact hl
     ·exact g4s (hs x md (by omega) (by omega)) hl,hB.2⟩
    exact⟨i,k1,k2,(v0e st).trans k3⟩
   ·have st:=l4a (l0:=R) (n1:=(R.length:Int)) (n2:=(lo:Int)) (n3:=(hi:Int)) (by omega) (by omega) rfl (by omega) (by omega) hin (by rw[←hj];exact f1) o
    rw[hw]at st
    obtain⟨i,k1,k2,k3⟩:=ih lo md (by omega) (by omega) (by omega) ⟨hB.1,fun x hx hxl hc=>by
     refine o (w4r.2 ?_)
     rw[jm]
     by_cases p:x=md
     ·subst p;exact hc
     ·exact g4s (hs md x (by omega) hxl) hc⟩
    exact⟨i,k1,k2,(v0e st).trans k3⟩
  ·have:lo=hi:=by omega
   subst this
   exact⟨lo,h2,hB,c0a (k4p (by omega) (by omega) rfl (by omega) (by omega))⟩
theorem eBs {R:LG}(hR:R.length≤100)(hs: ∀i j,i<j→j<R.length→lt2 (rE R i) (rC R i) (rE R j) (rC R j))(e c a b d u:Int)(t:L8): ∃(i:Nat) (f:Bool),k4v [.l TLog R,.n e,.n c,.n a,.n b,.n d,.l TB t,.n u]=some (0,[.n (i:Int),.b f])∧
  (f=true→i<R.length∧rE R i=e∧rC R i=c)∧(f=false→ ∀j,j<R.length→ ¬(rE R j=e∧rC R j=c)):=by
 obtain⟨i,h1,h2,h3⟩:=bsL hR hs e c a b d u t FU 0 R.length (by omega) (by omega) (b1w (by omega)) ⟨fun j hj=>by omega,fun j hj hl=>by omega⟩
 rw[←k4c]at h3
 by_cases q:i<R.length
 ·have f1:=eOd (rE R i) (rC R i) (rA R i) (rB R i) (rD R i) (rU R i) e c a b d u (rT R i) t
  refine⟨i,_,p4f h3 (by omega) (h1s (by omega) (by omega)) f1,fun hf=>⟨q,m4r.1 (eq_of_beq hf)⟩,fun hf j hj hc=> ?_⟩
  rcases Nat.lt_trichotomy j i with p|p|p
  ·have:=h2.1 j p
   rw[hc.1,hc.2]at this;exact h4l this
  ·subst p
   have:odI (rE R j) (rC R j) e c=0:=m4r.2 hc
   rw[this]at hf;cases hf
  ·have h4:=hs i j p hj
   rw[hc.1,hc.2]at h4
   exact h2.2 i (Nat.le_refl _) q h4
 ·refine⟨i,false,s4r h3 (by omega),(fun hf=>by cases hf),fun _ j hj hc=> ?_⟩
  have:=h2.1 j (by omega)
  rw[hc.1,hc.2]at this;exact h4l this
section
variable {R:LG} {b n0:Int} (hI:InvR R b) (h0:0≤n0) (x:Rc) (m:Ms) (tm:LT) (ht:tm.length≤1000) (r:Rc)
include hI h0 ht
end
abbrev PI:=Int×Int
def dfI (a b:List Int):Nat→List PI
 |0=>[]
 |k+1=>dfI a b k++(bif a.getD k 0==b.getD k 0 then[]else[((k:Int),b.getD k 0)])
def dfS (a b:List Int)(k:Nat)(l:List PI):List PI:=l++(bif a.getD k 0==b.getD k 0 then[]else[((k:Int),b.getD k 0)])
theorem w4u (a b:L8): ∀k,dfT a b k=dfI a b k
 |0=>rfl
 |k+1=>congrArg (dfS a b k) (w4u a b k)
theorem w4o (a b:List Int): ∀k,∀x∈dfI a b k,0≤x.1∧x.1<(k:Int)
 |0,x,h=>by cases h
 |k+1,x,h=>by
  unfold dfI at h
  rcases List.mem_append.1 h with h|h
  ·have:=w4o a b k x h;omega
  ·cases hc:(a.getD k 0==b.getD k 0)with
   |true=>rw[hc]at h;cases h
   |false=>rw[hc]at h;cases List.mem_singleton.1 h;simp;omega
theorem t4y (a b:List Int): ∀k,(dfI a b k).Pairwise (fun x y=>x.1<y.1)
 |0=>List.Pairwise.nil
 |k+1=>by
  unfold dfI
  rw[List.pairwise_append]
  refine⟨t4y a b k,?_,fun x hx y hy=> ?_⟩
  ·cases(a.getD k 0==b.getD k 0)<;>simp
  ·have:=w4o a b k x hx
   cases hc:(a.getD k 0==b.getD k 0)with
   |true=>rw[hc]at hy;cases hy
   |false=>rw[hc]at hy;cases List.mem_singleton.1 hy;exact this.2
theorem w4m (l:LT){i:Nat}(h:i<l.length):tm_1 l (i:Int)=Prod.fst (l[i]:PI)∧tm_2 l (i:Int)=Prod.snd (l[i]:PI):=by
 have e:List.getD l i (Ty.dflt TTm)=l[i]:=by rw[List.getD_eq_getElem?_getD,List.getElem?_eq_getElem h];rfl
 exact⟨congrArg (fun(p:PI)=>p.1) e,congrArg (fun(p:PI)=>p.2) e⟩
theorem rise_df (a b:L8):f4g (dfT a b 64)=true:=by
 rw[h4i]
 intro i hi
 have hs:(dfI a b 64).Pairwise (fun x y=>x.1<y.1):=t4y a b 64
 rw[w4u]at hi⊢
 have hi':i<(dfI a b 64).length:=hi
 have e1:r1 (dfI a b 64) i=((dfI a b 64)[i]).1:=(w4m (dfI a b 64) hi).1
 have hin:=w4o a b 64 _ (List.getElem_mem hi')
 unfold h86
 rw[e1]
 by_cases h0:i=0
 ·subst h0
  rw[if_pos rfl,decide_eq_false (by omega),decide_eq_false (by omega)];rfl
 ·have e2:r1 (dfI a b 64) (i-1)=((dfI a b 64)[i-1]'(by omega)).1:=(w4m (dfI a b 64) (show i-1<List.length (dfI a b 64) by omega)).1
  have:=List.pairwise_iff_getElem.1 hs (i-1) i (by omega) hi' (by omega)
  rw[if_neg h0,e2,decide_eq_false (by omega),decide_eq_false (by omega)];rfl
def pf (a:List Int)(l:List PI):List Int:=l.foldl (fun a x=>a.set x.1.toNat x.2) a
theorem pf_take (a:List Int)(l:List PI){i:Nat}(hi:i<l.length):pf a (l.take (i+1))=(pf a (l.take i)).set (l[i]).1.toNat (l[i]).2:=by
 rw[List.take_add_one,List.getElem?_eq_getElem hi]
 unfold pf
 rw[List.foldl_append];rfl
theorem paN_pf (a:L8)(l:LT): ∀i,i≤l.length→paN a l i=pf a (List.take i (l:List PI))
 |0,_=>rfl
 |i+1,h=>by
  obtain⟨e1,e2⟩:=w4m l (i:=i) h
  show List.set (paN a l i) (Int.toNat (tm_1 l (i:Int))) (tm_2 l (i:Int))=_
  rw[paN_pf a l i (by omega),e1,e2]
  exact(pf_take a l h).symm
theorem pf_len (l:List PI): ∀(a:List Int),(pf a l).length=a.length:=by
 induction l with
 |nil=>intro a;rfl
 |cons x l ih=>intro a;show(pf (a.set x.1.toNat x.2) l).length=_;rw[ih,List.length_set]
theorem pf_df (a b:List Int)(hab:a.length=b.length): ∀k,k≤a.length→ ∀j,(pf a (dfI a b k)).getD j 0=if j<k then b.getD j 0 else a.getD j 0
 |0,_,j=>by simp[dfI,pf]
 |k+1,hk,j=>by
  have ih:=pf_df a b hab k (by omega)
  unfold dfI
  cases hc:(a.getD k 0==b.getD k 0)with
  |true=>
   rw[cond_true,List.append_nil,ih j]
   have:a.getD k 0=b.getD k 0:=eq_of_beq hc
   by_cases h:j=k
   ·subst h;rw[if_neg (by omega),if_pos (by omega)];exact this
   ·by_cases h2:j<k
    ·rw[if_pos h2,if_pos (by omega)]
    ·rw[if_neg h2,if_neg (by omega)]
  |false=>
   rw[cond_false]
   have e:pf a (dfI a b k++[((k:Int),b.getD k 0)])=(pf a (dfI a b k)).set k (b.getD k 0):=by
    unfold pf;rw[List.foldl_append];rfl
   rw[e]
   have hl:=pf_len (dfI a b k) a
   by_cases h:j=k
   ·subst h
    rw[if_pos (by omega)]
    simp only[List.getD_eq_getElem?_getD,List.getElem?_set,if_true]
    rw[if_pos (by omega)];rfl
   ·have:((pf a (dfI a b k)).set k (b.getD k 0)).getD j 0=(pf a (dfI a b k)).getD j 0:=by
     simp only[List.getD_eq_getElem?_getD]
     rw[List.getElem?_set_ne (by omega)]
    rw[this,ih j]
    by_cases h2:j<k
    ·rw[if_pos h2,if_pos (by omega)]
    ·rw[if_neg h2,if_neg (by omega)]
theorem w4j (a b:List Int)(ha:a.length=64)(hb:b.length=64):paN (a:L8) (dfT a b 64) (dfT a b 64).length=b:=by
 refine(paN_pf a (dfT a b 64) _ (Nat.le_refl _)).trans ?_
 have e0:(dfT a b 64:List PI)=dfI a b 64:=w4u a b 64
 have e:List.take (List.length (dfT a b 64)) (dfT a b 64:List PI)=dfI a b 64:=(List.take_length (l:=(dfT a b 64:List PI))).trans e0
 refine(congrArg (pf a) e).trans ?_
 apply List.ext_getElem
 ·rw[pf_len];omega
 ·intro j h1 h2
  have:=pf_df a b (by omega) 64 (by omega) j
  rw[if_pos (by omega)]at this
  simpa [List.getD_eq_getElem?_getD,List.getElem?_eq_getElem h1,List.getElem?_eq_getElem h2]using this
theorem u64_of {n:Int}(h0:0≤n)(h1:n≤18446744073709551615): ∃X:BitVec 64,n=N X:=⟨BitVec.ofInt 64 n,(N_of (by omega) (by exact Int.lt_of_le_of_lt h1 (by decide))).symm⟩
theorem u32_of {n:Int}(h0:0≤n)(h1:n≤4294967295): ∃X:BitVec 32,n=N X:=⟨BitVec.ofInt 32 n,(N_of (by omega) (by exact Int.lt_of_le_of_lt h1 (by decide))).symm⟩
theorem xx64 {a b:Int}(ha:0≤a∧a≤18446744073709551615)(hb:0≤b∧b≤18446744073709551615):ixor IntKind.u64 a (ixor IntKind.u64 a b)=b:=by
 obtain⟨A,rfl⟩:=u64_of ha.1 ha.2
 obtain⟨B,rfl⟩:=u64_of hb.1 hb.2
 rw[w4h,w4h,←BitVec.xor_assoc,BitVec.xor_self,BitVec.zero_xor]
theorem xx32 {a b:Int}(ha:0≤a∧a≤4294967295)(hb:0≤b∧b≤4294967295):ixor IntKind.u32 a (ixor IntKind.u32 a b)=b:=by
 obtain⟨A,rfl⟩:=u32_of ha.1 ha.2
 obtain⟨B,rfl⟩:=u32_of hb.1 hb.2
 rw[q2n,q2n,←BitVec.xor_assoc,BitVec.xor_self,BitVec.zero_xor]
abbrev U64 (n:Int):Prop:=0≤n∧n≤18446744073709551615
abbrev U32 (n:Int):Prop:=0≤n∧n≤4294967295
theorem wf64 {n:Int}(h:wfD (.int .u64) n=true):U64 n:=by
 have a':(decide (IntKind.min .u64≤n)&&decide (n≤IntKind.max .u64))=true:=h
 rw[Bool.and_eq_true,decide_eq_true_eq,decide_eq_true_eq]at a'
 exact a'
theorem wf32 {n:Int}(h:wfD (.int .u32) n=true):U32 n:=by
 have a':(decide (IntKind.min .u32≤n)&&decide (n≤IntKind.max .u32))=true:=h
 rw[Bool.and_eq_true,decide_eq_true_eq,decide_eq_true_eq]at a'
 exact a'
theorem wf_arr {l:L8}(h:wfD (.arr 64 TB) l=true):l.length=64:=by
 have h':(decide (l.length=64)&&wfL (wfD TB) l)=true:=h
 rw[Bool.and_eq_true,decide_eq_true_eq]at h'
 exact h'.1
abbrev TSt:Ty:=.pair (.int .u64) (.pair (.int .u64) (.pair (.int .u64) (.pair (.arr 64 TB) (.int .u32))))
theorem wf_st {x:Ty.den TSt}(h:wfD TSt x=true):U64 x.1∧U64 x.2.1∧U64 x.2.2.1∧List.length x.2.2.2.1=64∧U32 x.2.2.2.2:=by
 have h':(wfD (.int .u64) x.1&&(wfD (.int .u64) x.2.1&&(wfD (.int .u64) x.2.2.1&&(wfD (.arr 64 TB) x.2.2.2.1&&wfD (.int .u32) x.2.2.2.2))))=true:=h
 rw[Bool.and_eq_true,Bool.and_eq_true,Bool.and_eq_true,Bool.and_eq_true]at h'
 exact⟨wf64 h'.1,wf64 h'.2.1,wf64 h'.2.2.1,wf_arr h'.2.2.2.1,wf32 h'.2.2.2.2⟩
abbrev LC:=List (Ty.den t0c)
abbrev caAt (l:LC)(i:Nat):Ty.den t0c:=l.getD i (Ty.dflt t0c)
abbrev cT (c:Ty.den t0c):LT:=Prod.snd (Prod.snd (Prod.snd (Prod.snd (Prod.snd (Prod.snd (Prod.snd (Prod.snd (Prod.snd (Prod.snd (Prod.snd (Prod.snd (Prod.snd (Prod.snd (Prod.snd (Prod.snd (Prod.snd (Prod.snd (Prod.snd (Prod.snd (Prod.snd (Prod.snd c)))))))))))))))))))))
theorem memS {α:Type}{l:List α}{d:α}{i:Nat}(h:i<l.length):l.getD i d∈l:=by
 rw[List.getD_eq_getElem?_getD,List.getElem?_eq_getElem h];exact List.getElem_mem h
theorem wfAll {t:Ty}{l:List t.den}(h:wfD (.sl t) l=true): ∀x∈l,wfD t x=true:=by
 have h:(decide (l.length≤maxLen)&&wfL (wfD t) l)=true:=h
 rw[Bool.and_eq_true]at h
 exact o2j.1 h.2
theorem w4x (x:Ty.den TLog):((Prod.fst x:Int)==Prod.fst x&&((Prod.fst (Prod.snd x):Int)==Prod.fst (Prod.snd x)&&((Prod.fst (Prod.snd (Prod.snd x)):Int)==Prod.fst (Prod.snd (Prod.snd x))&&((Prod.fst (Prod.snd (Prod.snd (Prod.snd x))):Int)==Prod.fst (Prod.snd (Prod.snd (Prod.snd x)))&&((Prod.fst (Prod.snd (Prod.snd (Prod.snd (Prod.snd x)))):Int)==Prod.fst (Prod.snd (Prod.snd (Prod.snd (Prod.snd x))))&&(eqL TB (Prod.fst (Prod.snd (Prod.snd (Prod.snd (Prod.snd (Prod.snd x)))))) (Prod.fst (Prod.snd (Prod.snd (Prod.snd (Prod.snd (Prod.snd x))))))&&((Prod.snd (Prod.snd (Prod.snd (Prod.snd (Prod.snd (Prod.snd x))))):Int)==Prod.snd (Prod.snd (Prod.snd (Prod.snd (Prod.snd (Prod.snd x)))))&&true))))&&true)))=true:=by
 have h: ∀a:Int,(a==a)=true:=fun a=>beq_self_eq_true a
 rw[h,h,h,h,h,f4z,h];rfl
section
variable (L:LC) (hl:L.length≤100) (hc: ∀c∈L,wfD t0c c=true) (ht: ∀i,i<L.length→(cT (caAt L i)).length≤1000)
include hl hc ht
end
end Go.Proofs.Ytmgeoaenkmoaiaa.Vx
end
