import Derived.Test.YtmgeoaenkmoaiaaZ26
import Derived.Test.YtmgeoaenkmoaiaaZ27
import Derived.Test.YtmgeoaenkmoaiaaVxAid
noncomputable section
namespace Go.Proofs.Ytmgeoaenkmoaiaa.Vx
open Go Go.RowKit
set_option linter.unusedVariables false
set_option linter.unusedSimpArgs false
set_option maxRecDepth 100000
set_option maxHeartbeats 0
abbrev TD:=Ty.den TLog
abbrev gO (O:LG)(p:Nat):TD:=List.getD O p (Ty.dflt TLog)
abbrev xE (t:TD):Int:=Prod.fst t
abbrev xC (t:TD):Int:=Prod.fst (Prod.snd t)
abbrev xA (t:TD):Int:=Prod.fst (Prod.snd (Prod.snd t))
abbrev xB (t:TD):Int:=Prod.fst (Prod.snd (Prod.snd (Prod.snd t)))
abbrev xD (t:TD):Int:=Prod.fst (Prod.snd (Prod.snd (Prod.snd (Prod.snd t))))
abbrev xT (t:TD):L8:=Prod.fst (Prod.snd (Prod.snd (Prod.snd (Prod.snd (Prod.snd t)))))
abbrev xU (t:TD):Int:=Prod.snd (Prod.snd (Prod.snd (Prod.snd (Prod.snd (Prod.snd t)))))
def recO (t:TD):Rc:=⟨xE t,xC t,xA t,xB t,xD t,xT t,xU t,true⟩
def t4l (t:TD):Ms:=⟨1,xE t,xC t,0,0,xA t,xB t,xD t,xT t,xU t,0,0,0,0⟩
def t4n (s t:TD):Ms:=⟨2,xE t,xC t,xE s,xC s,0,0,0,z64,0,ixor IntKind.u64 (xA s) (xA t),ixor IntKind.u64 (xB s) (xB t),ixor IntKind.u64 (xD s) (xD t),ixor IntKind.u32 (xU s) (xU t)⟩
@[irreducible] def t4p (s t:TD):LT:=dfT (xT s) (xT t) 64
structure Ok (t:TD):Prop where
 ee:0≤xE t∧xE t≤1099511627776
 cc:0≤xC t∧xC t≤1099511627776
 aa:U64 (xA t)
 ab:U64 (xB t)
 ad:U64 (xD t)
 at':List.length (α:=Int) (xT t)=64
 au:U32 (xU t)
structure Off (O:LG):Prop where
 ok: ∀p,p<O.length→Ok (gO O p)
 ris: ∀i j,i<j→j<O.length→lt2 (xE (gO O i)) (xC (gO O i)) (xE (gO O j)) (xC (gO O j))
theorem Off.le {O:LG}(h:Off O){p q:Nat}(hp:p<O.length)(hq:q<O.length):odI (xE (gO O p)) (xC (gO O p)) (xE (gO O q)) (xC (gO O q))≤0↔p≤q:=by
 constructor
 ·intro k
  rcases Nat.lt_or_ge q p with w|w
  ·exact((w4w.2 (h.ris q p w hp)) k).elim
  ·exact w
 ·intro k
  by_cases w:p=q
  ·subst w;exact Int.le_of_eq (m4r.2 ⟨rfl,rfl⟩)
  ·exact Int.le_of_lt (w4r.2 (h.ris p q (by omega) hq))
theorem Off.uniq {O:LG}(h:Off O){p q:Nat}(hp:p<O.length)(hq:q<O.length)(h1:xE (gO O p)=xE (gO O q))(h2:xC (gO O p)=xC (gO O q)):p=q:=by
 have a:=(h.le hp hq).1 (Int.le_of_eq (m4r.2 ⟨h1,h2⟩))
 have b:=(h.le hq hp).1 (Int.le_of_eq (m4r.2 ⟨h1.symm,h2.symm⟩))
 omega
def t4q (O:LG)(q:Nat)(r:Rc):Prop:=q≤O.length∧((q=0∧r.h=false)∨(0<q∧r=recO (gO O (q-1))))
def MsgT (O:LG)(m:Ms)(tm:LT):Prop:=(∃p,p<O.length∧m=t4l (gO O p)∧tm=[])∨(∃s p,s<O.length∧p<O.length∧m=t4n (gO O s) (gO O p)∧tm=t4p (gO O s) (gO O p))
def MsgB (O:LG)(q:Nat)(m:Ms):Prop:=m=fM∨ ∃p,p<q∧m=aM (xE (gO O p)) (xC (gO O p))
theorem u4i:f4g ([]:LT)=true:=rfl
theorem rhW {O:LG}(hO:Off O){q:Nat}{r:Rc}(hr:t4q O q r){p:Nat}(hp:p<O.length): ∃(ok:Bool) (r':Rc) (q':Nat),e4w [.n (t4l (gO O p)).k,.n (t4l (gO O p)).e,.n (t4l (gO O p)).c,.n (t4l (gO O p)).be,.n (t4l (gO O p)).bb,.n (t4l (gO O p)).u5,.n (t4l (gO O p)).u6,.n (t4l (gO O p)).u7,.l TB (t4l (gO O p)).l,.n (t4l (gO O p)).v9,.n (t4l (gO O p)).v10,.n (t4l (gO O p)).v11,.n (t4l (gO O p)).v12,.n (t4l (gO O p)).v13,.l TTm [],.n r.e,.n r.c,.n r.a,.n r.b,.n r.d,.l TB r.t,.n r.u,.b r.h]=some (0,[.n (aM (xE (gO O (q'-1))) (xC (gO O (q'-1)))).k,.n (aM (xE (gO O (q'-1))) (xC (gO O (q'-1)))).e,.n (aM (xE (gO O (q'-1))) (xC (gO O (q'-1)))).c,.n (aM (xE (gO O (q'-1))) (xC (gO O (q'-1)))).be,.n (aM (xE (gO O (q'-1))) (xC (gO O (q'-1)))).bb,.n (aM (xE (gO O (q'-1))) (xC (gO O (q'-1)))).u5,.n (aM (xE (gO O (q'-1))) (xC (gO O (q'-1)))).u6,.n (aM (xE (gO O (q'-1))) (xC (gO O (q'-1)))).u7,.l TB (aM (xE (gO O (q'-1))) (xC (gO O (q'-1)))).l,.n (aM (xE (gO O (q'-1))) (xC (gO O (q'-1)))).v9,.n (aM (xE (gO O (q'-1))) (xC (gO O (q'-1)))).v10,.n (aM (xE (gO O (q'-1))) (xC (gO O (q'-1)))).v11,.n (aM (xE (gO O (q'-1))) (xC (gO O (q'-1)))).v12,.n (aM (xE (gO O (q'-1))) (xC (gO O (q'-1)))).v13,.b ok,.n 0,.n r'.e,.n r'.c,.n r'.a,.n r'.b,.n r'.d,.l TB r'.t,.n r'.u,.b r'.h])∧t4q O q' r'∧q≤q'∧p<q':=by
 have hk:=hO.ok p hp
 have e1:=eMa (t4l (gO O p)) [] (Nat.zero_le _)
 have hv:mayB (t4l (gO O p)) []=true:=g4e.2 ⟨⟨(by decide:(1:Int)≤1),(by decide:(1:Int)≤4),hk.ee.1,hk.ee.2,hk.cc.1,hk.cc.2,(by decide:(0:Int)≤0),(by decide:(0:Int)≤1099511627776),(by decide:(0:Int)≤0),(by decide:(0:Int)≤1099511627776)⟩,u4i⟩
 rw[hv]at e1
 rcases hr.2 with⟨h1,h2⟩|⟨h1,h2⟩
 ·refine⟨true,recO (gO O p),p+1,?_,⟨by omega,.inr ⟨by omega,rfl⟩⟩,by omega,by omega⟩
  exact t4d e1 rfl rfl h2
 ·subst h2
  have hq:q-1<O.length:=by have:=hr.1;omega
  have f1:=eOd (xE (gO O p)) (xC (gO O p)) (xA (gO O p)) (xB (gO O p)) (xD (gO O p)) (xU (gO O p)) (xE (gO O (q-1))) (xC (gO O (q-1))) (xA (gO O (q-1))) (xB (gO O (q-1))) (xD (gO O (q-1))) (xU (gO O (q-1))) (xT (gO O p)) (xT (gO O (q-1)))
  by_cases o:p<q
  ·refine⟨false,_,q,?_,hr,Nat.le_refl _,o⟩
   exact q4f e1 rfl rfl rfl f1 ((hO.le hp hq).2 (by omega))
  ·refine⟨true,recO (gO O p),p+1,?_,⟨by omega,.inr ⟨by omega,rfl⟩⟩,by omega,by omega⟩
   exact s4a e1 rfl rfl rfl f1 (fun k=>o (by have:=(hO.le hp hq).1 k;omega))
theorem rhP {O:LG}(hO:Off O){q:Nat}{r:Rc}(hr:t4q O q r){s p:Nat}(hs:s<O.length)(hp:p<O.length): ∃(a:Ms) (ok:Bool) (r':Rc) (q':Nat),e4w [.n (t4n (gO O s) (gO O p)).k,.n (t4n (gO O s) (gO O p)).e,.n (t4n (gO O s) (gO O p)).c,.n (t4n (gO O s) (gO O p)).be,.n (t4n (gO O s) (gO O p)).bb,.n (t4n (gO O s) (gO O p)).u5,.n (t4n (gO O s) (gO O p)).u6,.n (t4n (gO O s) (gO O p)).u7,.l TB (t4n (gO O s) (gO O p)).l,.n (t4n (gO O s) (gO O p)).v9,.n (t4n (gO O s) (gO O p)).v10,.n (t4n (gO O s) (gO O p)).v11,.n (t4n (gO O s) (gO O p)).v12,.n (t4n (gO O s) (gO O p)).v13,.l TTm (t4p (gO O s) (gO O p)),.n r.e,.n r.c,.n r.a,.n r.b,.n r.d,.l TB r.t,.n r.u,.b r.h]=some (0,[.n a.k,.n a.e,.n a.c,.n a.be,.n a.bb,.n a.u5,.n a.u6,.n a.u7,.l TB a.l,.n a.v9,.n a.v10,.n a.v11,.n a.v12,.n a.v13,.b ok,.n 0,.n r'.e,.n r'.c,.n r'.a,.n r'.b,.n r'.d,.l TB r'.t,.n r'.u,.b r'.h])∧t4q O q' r'∧q≤q'∧(a=fM∨(a=aM (xE (gO O (q'-1))) (xC (gO O (q'-1)))∧p<q')):=by
 have hk:=hO.ok p hp
 have hks:=hO.ok s hs
 have ht:(t4p (gO O s) (gO O p)).length≤1000:=by have:=h4r (xT (gO O s)) (xT (gO O p)) 64;unfold t4p;omega
 have e1:=eMa (t4n (gO O s) (gO O p)) (t4p (gO O s) (gO O p)) ht
 have hri:f4g (t4p (gO O s) (gO O p))=true:=by unfold t4p;exact rise_df _ _
 have hv:mayB (t4n (gO O s) (gO O p)) (t4p (gO O s) (gO O p))=true:=g4e.2 ⟨⟨(by decide:(1:Int)≤2),(by decide:(2:Int)≤4),hk.ee.1,hk.ee.2,hk.cc.1,hk.cc.2,hks.ee.1,hks.ee.2,hks.cc.1,hks.cc.2⟩,hri⟩
 rw[hv]at e1
 have n1: ¬(2:Int)=1:=by decide
 rcases hr.2 with⟨h1,h2⟩|⟨h1,h2⟩
 ·refine⟨fM,false,r,q,?_,hr,Nat.le_refl _,.inl rfl⟩
  rw[h2]
  exact r4g e1 rfl n1 rfl rfl
 ·subst h2
  have hq:q-1<O.length:=by have:=hr.1;omega
  have f1:=eOd (xE (gO O p)) (xC (gO O p)) 0 0 0 0 (xE (gO O (q-1))) (xC (gO O (q-1))) (xA (gO O (q-1))) (xB (gO O (q-1))) (xD (gO O (q-1))) (xU (gO O (q-1))) z64 (xT (gO O (q-1)))
  by_cases o:p<q
  ·refine⟨_,false,_,q,?_,hr,Nat.le_refl _,.inr ⟨rfl,o⟩⟩
   exact p4l e1 rfl n1 rfl rfl f1 ((hO.le hp hq).2 (by omega))
  ·have o': ¬odI (xE (gO O p)) (xC (gO O p)) (xE (gO O (q-1))) (xC (gO O (q-1)))≤0:=fun k=>o (by have:=(hO.le hp hq).1 k;omega)
   by_cases b1:xE (gO O s)=xE (gO O (q-1))
   ·by_cases b2:xC (gO O s)=xC (gO O (q-1))
    ·have hsq:s=q-1:=hO.uniq hs hq b1 b2
     subst hsq
     refine⟨aM (xE (gO O p)) (xC (gO O p)),true,recO (gO O p),p+1,?_,⟨by omega,.inr ⟨by omega,rfl⟩⟩,by omega,.inr ⟨rfl,by omega⟩⟩
     have f3:=e22 (xA (gO O (q-1))) (xB (gO O (q-1))) (xD (gO O (q-1))) (xT (gO O (q-1))) (xU (gO O (q-1))) (ixor IntKind.u64 (xA (gO O (q-1))) (xA (gO O p))) (ixor IntKind.u64 (xB (gO O (q-1))) (xB (gO O p))) (ixor IntKind.u64 (xD (gO O (q-1))) (xD (gO O p))) (ixor IntKind.u32 (xU (gO O (q-1))) (xU (gO O p))) (t4p (gO O (q-1)) (gO O p)) ht
     rw[hri,cond_true,xx64 hks.aa hk.aa,xx64 hks.ab hk.ab,xx64 hks.ad hk.ad,xx32 hks.au hk.au]at f3
     have pd:paN (xT (gO O (q-1))) (t4p (gO O (q-1)) (gO O p)) (t4p (gO O (q-1)) (gO O p)).length=xT (gO O p):=by unfold t4p;exact w4j _ _ hks.at' hk.at'
     rw[pd]at f3
     exact s4q e1 rfl n1 rfl rfl f1 o' rfl rfl f3
    ·refine⟨fM,false,_,q,?_,hr,Nat.le_refl _,.inl rfl⟩
     exact r4t e1 rfl n1 rfl rfl f1 o' b1 b2
   ·refine⟨fM,false,_,q,?_,hr,Nat.le_refl _,.inl rfl⟩
    exact r4z e1 rfl n1 rfl rfl f1 o' b1
theorem rhT {O:LG}(hO:Off O){q:Nat}{r:Rc}(hr:t4q O q r){m:Ms}{tm:LT}(hm:MsgT O m tm): ∃(a:Ms) (ok:Bool) (r':Rc) (q':Nat),e4w [.n m.k,.n m.e,.n m.c,.n m.be,.n m.bb,.n m.u5,.n m.u6,.n m.u7,.l TB m.l,.n m.v9,.n m.v10,.n m.v11,.n m.v12,.n m.v13,.l TTm tm,.n r.e,.n r.c,.n r.a,.n r.b,.n r.d,.l TB r.t,.n r.u,.b r.h]=some (0,[.n a.k,.n a.e,.n a.c,.n a.be,.n a.bb,.n a.u5,.n a.u6,.n a.u7,.l TB a.l,.n a.v9,.n a.v10,.n a.v11,.n a.v12,.n a.v13,.b ok,.n 0,.n r'.e,.n r'.c,.n r'.a,.n r'.b,.n r'.d,.l TB r'.t,.n r'.u,.b r'.h])∧t4q O q' r'∧q≤q'∧MsgB O q' a:=by
 rcases hm with⟨p,hp,rfl,rfl⟩|⟨s,p,hs,hp,rfl,rfl⟩
 ·obtain⟨ok,r',q',h1,h2,h3,h4⟩:=rhW hO hr hp
  exact⟨aM (xE (gO O (q'-1))) (xC (gO O (q'-1))),ok,r',q',h1,h2,h3,.inr ⟨q'-1,by omega,rfl⟩⟩
 ·obtain⟨a,ok,r',q',h1,h2,h3,h4⟩:=rhP hO hr hs hp
  refine⟨a,ok,r',q',h1,h2,h3,?_⟩
  rcases h4 with rfl|⟨rfl,h4⟩
  ·exact .inl rfl
  ·exact .inr ⟨q'-1,by omega,rfl⟩
abbrev kO (O:LG):Nat:=O.length-min 8 O.length
abbrev sR (O:LG):LG:=List.drop (kO O) O
theorem v4c (O:LG):(sR O).length=min 8 O.length:=(List.length_drop (i:=kO O) (l:=O)).trans (by show O.length-(O.length-min 8 O.length)=_;omega)
theorem t4w (O:LG)(i:Nat):gO (sR O) i=gO O (kO O+i):=by
 show List.getD (List.drop (kO O) O) i _=_
 rw[List.getD_eq_getElem?_getD,List.getElem?_drop,←List.getD_eq_getElem?_getD]
structure SnOk (O:LG)(q:Nat)(b:Int):Prop where
 b0:0≤b
 bl:b≤(min 8 O.length:Nat)
 bq:0<b→(kO O:Int)+b≤(q:Int)
theorem SnOk.inv {O:LG}(hO:Off O){q:Nat}{b:Int}(h:SnOk O q b):InvR (sR O) b:=by
 have hl:=v4c O
 have hk:kO O=O.length-min 8 O.length:=rfl
 refine⟨by omega,h.b0,by have:=h.bl;omega,fun i j hij hj=> ?_⟩
 have e1:=t4w O i
 have e2:=t4w O j
 exact h4n (pE e1) (pC e1) (pE e2) (pC e2) (hO.ris (kO O+i) (kO O+j) (by omega) (by omega))
theorem heB {O:LG}(hO:Off O){q:Nat}(hq:q≤O.length){b:Int}(hb:SnOk O q b){m:Ms}(hm:MsgB O q m): ∃b',h4c [.n m.k,.n m.e,.n m.c,.n m.be,.n m.bb,.n m.u5,.n m.u6,.n m.u7,.l TB m.l,.n m.v9,.n m.v10,.n m.v11,.n m.v12,.n m.v13,.l TTm [],.n b,.l TLog (sR O)]=some (0,[.n 0,.n b',.l TLog (sR O)])∧SnOk O q b'∧(m=fM→b'=0):=by
 have hI:=hb.inv hO
 have hl8:=hI.l8
 have hkk:kO O=O.length-min 8 O.length:=rfl
 have e1:=eMa m [] (Nat.zero_le _)
 rcases hm with rfl|⟨p,hp,rfl⟩
 ·have hv:mayB fM []=true:=g4e.2 ⟨⟨(by decide:(1:Int)≤4),(by decide:(4:Int)≤4),(by decide:(0:Int)≤0),(by decide:(0:Int)≤1099511627776),(by decide:(0:Int)≤0),(by decide:(0:Int)≤1099511627776),(by decide:(0:Int)≤0),(by decide:(0:Int)≤1099511627776),(by decide:(0:Int)≤0),(by decide:(0:Int)≤1099511627776)⟩,u4i⟩
  rw[hv]at e1
  exact⟨0,r4r e1 rfl (by decide) rfl,⟨by omega,by omega,fun h=>by omega⟩,fun _=>rfl⟩
 ·have hk:=hO.ok p (by omega)
  have hv:mayB (aM (xE (gO O p)) (xC (gO O p))) []=true:=g4e.2 ⟨⟨(by decide:(1:Int)≤3),(by decide:(3:Int)≤4),hk.ee.1,hk.ee.2,hk.cc.1,hk.cc.2,(by decide:(0:Int)≤0),(by decide:(0:Int)≤1099511627776),(by decide:(0:Int)≤0),(by decide:(0:Int)≤1099511627776)⟩,u4i⟩
  rw[hv]at e1
  have nf: ¬aM (xE (gO O p)) (xC (gO O p))=fM:=fun h=>by
   have:(3:Int)=4:=congrArg Ms.k h
   exact absurd this (by decide)
  obtain⟨i,f,g1,g2,g3⟩:=eBs (R:=sR O) (by omega) hI.ris (xE (gO O p)) (xC (gO O p)) 0 0 0 0 z64
  cases f with
  |true=>
   obtain⟨a1,a2,a3⟩:=g2 rfl
   have hll:=v4c O
   have eg:=t4w O i
   have a2':xE (gO O (kO O+i))=xE (gO O p):=(pE eg).symm.trans a2
   have a3':xC (gO O (kO O+i))=xC (gO O p):=(pC eg).symm.trans a3
   have hip:kO O+i=p:=hO.uniq (by omega) (by omega) a2' a3'
   have wi:IntKind.wrap .i64 ((i:Int)+(1:Int))=(i:Int)+1:=w64s (by omega) (by omega)
   have s1:=p4g (n15:=b) e1 rfl rfl g1 rfl
   rw[wi]at s1
   have b0:=hb.b0;have bl:=hb.bl;have bq:=hb.bq
   refine⟨imax b ((i:Int)+1),s1,?_,fun h=>(nf h).elim⟩
   unfold imax
   split
   ·exact⟨by omega,by omega,fun _=>by omega⟩
   ·exact hb
  |false=>exact⟨b,t4f e1 rfl rfl g1 rfl,hb,fun h=>(nf h).elim⟩
theorem off_app {O:LG}(hO:Off O){t:TD}(ht:Ok t)(hl: ∀p,p<O.length→lt2 (xE (gO O p)) (xC (gO O p)) (xE t) (xC t)):Off (apL O [t]):=by
 have e1: ∀p,p<O.length→gO (apL O [t]) p=gO O p:=fun p hp=>h4w hp
 have e2:gO (apL O [t]) O.length=t:=n4g
 have el:List.length (apL O [t])=O.length+1:=i4y
 refine⟨fun p hp=> ?_,fun i j hij hj=> ?_⟩
 ·by_cases q:p<O.length
  ·rw[e1 p q];exact hO.ok p q
  ·rw[show p=O.length by omega,e2];exact ht
 ·have hi:=e1 i (by omega)
  by_cases q:j<O.length
  ·exact h4n (pE hi) (pC hi) (pE (e1 j q)) (pC (e1 j q)) (hO.ris i j hij q)
  ·have:j=O.length:=by omega
   subst this
   exact h4n (pE hi) (pC hi) (pE e2) (pC e2) (hl i hij)
theorem sR_app {O:LG}{t:TD}:sR (apL O [t])=if O.length<8 then apL (sR O) [t]else List.drop 1 (apL (sR O) [t]):=by
 have el:List.length (apL O [t])=O.length+1:=i4y
 have k1:kO (apL O [t])=O.length+1-min 8 (O.length+1):=by unfold kO;rw[el]
 have k2:kO O=O.length-min 8 O.length:=rfl
 have ed:List.drop (kO O) (apL O [t])=apL (sR O) [t]:=List.drop_append_of_le_length (by omega)
 split
 ·show List.drop (kO (apL O [t])) (apL O [t])=_
  rw[←ed];congr 1;omega
 ·rw[←ed,List.drop_drop]
  show List.drop (kO (apL O [t])) (apL O [t])=_
  congr 1;omega
theorem offerO {O:LG}(hO:Off O){q:Nat}(hq:q≤O.length){b:Int}(hb:SnOk O q b){t:TD}(ht:Ok t)(hl: ∀p,p<O.length→lt2 (xE (gO O p)) (xC (gO O p)) (xE t) (xC t)):
  ∃b',f4r [.n (xE t),.n (xC t),.n (xA t),.n (xB t),.n (xD t),.l TB (xT t),.n (xU t),.n b,.l TLog (sR O)]=some (0,[.n 0,.n b',.l TLog (sR (apL O [t]))])∧SnOk (apL O [t]) q b':=by
 have hI:=hb.inv hO
 have hl8:=hI.l8
 have hll:=v4c O
 have hkk:kO O=O.length-min 8 O.length:=rfl
 have el:List.length (apL O [t])=O.length+1:=i4y
 have k1:kO (apL O [t])=O.length+1-min 8 (O.length+1):=by unfold kO;rw[el]
 have e:=eWi [xE t,xC t] (by simp)
 have hq2:[xE t,xC t].all inB=true:=by
  have:=ht.ee;have:=ht.cc
  simp only[List.all_cons,List.all_nil,Bool.and_true,Bool.and_eq_true,d4x];omega
 rw[hq2]at e
 have b0:=hb.b0;have bl:=hb.bl;have bq:=hb.bq
 have hl100:(sR O).length≤100:=by omega
 have hla:List.length (apL (sR O) [t])=(sR O).length+1:=i4y
 have es:=sR_app (O:=O) (t:=t)
 by_cases h8:O.length<8
 ·rw[if_pos h8]at es
  rw[es]
  refine⟨b,?_,⟨b0,by rw[el];omega,fun h=>by have:=bq h;omega⟩⟩
  by_cases h0:((sR O).length:Int)=0
  ·exact s4s hl100 h0 e rfl (show¬((List.length (apL (sR O) [t]):Int)>8) by omega)
  ·obtain⟨j,hj⟩: ∃j,j=Int.toNat (IntKind.wrap .i64 (((sR O).length:Int)-(1:Int))):=⟨_,rfl⟩
   have jl:j=(sR O).length-1:=by rw[hj];exact lastI (by omega) hl100
   have f1:=eOd (xE t) (xC t) (xA t) (xB t) (xD t) (xU t) (rE (sR O) j) (rC (sR O) j) (rA (sR O) j) (rB (sR O) j) (rD (sR O) j) (rU (sR O) j) (xT t) (rT (sR O) j)
   have eg:=t4w O j
   have o: ¬odI (xE t) (xC t) (rE (sR O) j) (rC (sR O) j)≤0:=w4w.2 (h4n (pE eg) (pC eg) rfl rfl (hl (kO O+j) (by omega)))
   subst hj
   exact r4p hl100 h0 e rfl f1 o (show¬((List.length (apL (sR O) [t]):Int)>8) by omega)
 ·rw[if_neg h8]at es
  rw[es]
  have h0: ¬((sR O).length:Int)=0:=by omega
  obtain⟨j,hj⟩: ∃j,j=Int.toNat (IntKind.wrap .i64 (((sR O).length:Int)-(1:Int))):=⟨_,rfl⟩
  have jl:j=(sR O).length-1:=by rw[hj];exact lastI (by omega) hl100
  have f1:=eOd (xE t) (xC t) (xA t) (xB t) (xD t) (xU t) (rE (sR O) j) (rC (sR O) j) (rA (sR O) j) (rB (sR O) j) (rD (sR O) j) (rU (sR O) j) (xT t) (rT (sR O) j)
  have eg:=t4w O j
  have o: ¬odI (xE t) (xC t) (rE (sR O) j) (rC (sR O) j)≤0:=w4w.2 (h4n (pE eg) (pC eg) rfl rfl (hl (kO O+j) (by omega)))
  have ed:c4q [.n (0:Int),.n (1:Int),.l TLog (apL (sR O) [t])]=some (0,[.l TLog (List.drop 1 (apL (sR O) [t]))]):=by
   rw[b4y]
   exact d4a (by omega) (by omega) (by omega)
  have w1:imax (IntKind.wrap .i64 (b-(1:Int))) (0:Int)=imax (b-1) 0:=by rw[w64s (by omega) (by omega)]
  subst hj
  have:=o4w (n7:=b) hl100 h0 e rfl f1 o (show((List.length (apL (sR O) [t]):Int)>8) by omega) ed
  rw[w1]at this
  refine⟨imax (b-1) 0,this,?_⟩
  unfold imax
  split
  ·exact⟨by omega,by omega,fun h=>by omega⟩
  ·exact⟨by omega,by rw[el];omega,fun h=>by have:=bq (by omega);omega⟩
theorem x4k (s t:TD):t4p s t=dfT (xT s) (xT t) 64:=by unfold t4p;rfl
def wA (b:Int)(R:LG)(t:TD):Option (Nat×List Dat):=some (0,[.n (t4l t).k,.n (t4l t).e,.n (t4l t).c,.n (t4l t).be,.n (t4l t).bb,.n (t4l t).u5,.n (t4l t).u6,.n (t4l t).u7,.l TB (t4l t).l,.n (t4l t).v9,.n (t4l t).v10,.n (t4l t).v11,.n (t4l t).v12,.n (t4l t).v13,.b true,.n b,.l TLog R])
def pA (b:Int)(R:LG)(s t:TD):Option (Nat×List Dat):=some (1,[.n (t4n s t).k,.n (t4n s t).e,.n (t4n s t).c,.n (t4n s t).be,.n (t4n s t).bb,.n (t4n s t).u5,.n (t4n s t).u6,.n (t4n s t).u7,.l TB (t4n s t).l,.n (t4n s t).v9,.n (t4n s t).v10,.n (t4n s t).v11,.n (t4n s t).v12,.n (t4n s t).v13,.b true,.n b,.l TLog R,.l TTm (dfT (xT s) (xT t) 64)])
theorem sendO {O:LG}(hO:Off O){q:Nat}{b:Int}(hb:SnOk O q b):
  ((O.length=0∨b=(min 8 O.length:Nat))∧f4p [.n b,.l TLog (sR O)]=some (0,[.n zM.k,.n zM.e,.n zM.c,.n zM.be,.n zM.bb,.n zM.u5,.n zM.u6,.n zM.u7,.l TB zM.l,.n zM.v9,.n zM.v10,.n zM.v11,.n zM.v12,.n zM.v13,.b false,.n b,.l TLog (sR O)]))∨
  (b=0∧0<O.length∧f4p [.n b,.l TLog (sR O)]=some (0,[.n (t4l (gO O (O.length-1))).k,.n (t4l (gO O (O.length-1))).e,.n (t4l (gO O (O.length-1))).c,.n (t4l (gO O (O.length-1))).be,.n (t4l (gO O (O.length-1))).bb,.n (t4l (gO O (O.length-1))).u5,.n (t4l (gO O (O.length-1))).u6,.n (t4l (gO O (O.length-1))).u7,.l TB (t4l (gO O (O.length-1))).l,.n (t4l (gO O (O.length-1))).v9,.n (t4l (gO O (O.length-1))).v10,.n (t4l (gO O (O.length-1))).v11,.n (t4l (gO O (O.length-1))).v12,.n (t4l (gO O (O.length-1))).v13,.b true,.n b,.l TLog (sR O)]))∨
  (∃s,s<O.length∧0<O.length∧f4p [.n b,.l TLog (sR O)]=some (1,[.n (t4n (gO O s) (gO O (O.length-1))).k,.n (t4n (gO O s) (gO O (O.length-1))).e,.n (t4n (gO O s) (gO O (O.length-1))).c,.n (t4n (gO O s) (gO O (O.length-1))).be,.n (t4n (gO O s) (gO O (O.length-1))).bb,.n (t4n (gO O s) (gO O (O.length-1))).u5,.n (t4n (gO O s) (gO O (O.length-1))).u6,.n (t4n (gO O s) (gO O (O.length-1))).u7,.l TB (t4n (gO O s) (gO O (O.length-1))).l,.n (t4n (gO O s) (gO O (O.length-1))).v9,.n (t4n (gO O s) (gO O (O.length-1))).v10,.n (t4n (gO O s) (gO O (O.length-1))).v11,.n (t4n (gO O s) (gO O (O.length-1))).v12,.n (t4n (gO O s) (gO O (O.length-1))).v13,.b true,.n b,.l TLog (sR O),.l TTm (t4p (gO O s) (gO O (O.length-1)))])):=by
 have hI:=hb.inv hO
 have hl8:=hI.l8;have hb0:=hI.b0;have hbl:=hI.bl
 have hll:=v4c O
 have hkk:kO O=O.length-min 8 O.length:=rfl
 have hl100:(sR O).length≤100:=by omega
 by_cases h0:((sR O).length:Int)=0
 ·exact .inl ⟨.inl (by omega),r4h hb0 hbl hl100 h0⟩
 by_cases h1:b=((sR O).length:Int)
 ·exact .inl ⟨.inr (by omega),q4m hb0 hbl hl100 h0 h1⟩
 obtain⟨j,hj⟩: ∃j,j=Int.toNat (IntKind.wrap .i64 (((sR O).length:Int)-(1:Int))):=⟨_,rfl⟩
 have jl:j=(sR O).length-1:=by rw[hj];exact lastI (by omega) hl100
 have ej:gO (sR O) j=gO O (O.length-1):=(t4w O j).trans (congrArg (gO O) (by omega))
 by_cases h2:b=0
 ·refine .inr (.inl ⟨h2,by omega,?_⟩)
  refine Eq.trans ?_ (congrArg (wA b (sR O)) ej)
  subst hj
  exact p4h hb0 hbl hl100 h0 h1 h2
 ·refine .inr (.inr ⟨kO O+Int.toNat (b-1),by omega,by omega,?_⟩)
  have wb:IntKind.wrap .i64 (b-(1:Int))=b-1:=w64s (by omega) (by omega)
  obtain⟨i,hi⟩: ∃i,i=Int.toNat (b-1):=⟨_,rfl⟩
  rw[←hi]
  have ei:gO (sR O) i=gO O (kO O+i):=t4w O i
  rw[x4k]
  refine Eq.trans ?_ (congrArg (fun s=>pA b (sR O) s (gO O (O.length-1))) ei)
  refine Eq.trans ?_ (congrArg (pA b (sR O) (gO (sR O) i)) ej)
  have f1:=e21 (rA (sR O) i) (rB (sR O) i) (rD (sR O) i) (rT (sR O) i) (rU (sR O) i) (rA (sR O) j) (rB (sR O) j) (rD (sR O) j) (rT (sR O) j) (rU (sR O) j)
  subst hi;subst hj
  have:=s4d hb0 hbl hl100 h0 h1 h2 (by rw[wb];exact f1)
  rw[wb]at this;exact this
abbrev LM:=List (Ty.den TMsg)
def mOf (d:Ty.den TMsg):Ms:=⟨Prod.fst d,Prod.fst (Prod.snd d),Prod.fst (Prod.snd (Prod.snd d)),Prod.fst (Prod.snd (Prod.snd (Prod.snd d))),Prod.fst (Prod.snd (Prod.snd (Prod.snd (Prod.snd d)))),Prod.fst (Prod.snd (Prod.snd (Prod.snd (Prod.snd (Prod.snd d))))),Prod.fst (Prod.snd (Prod.snd (Prod.snd (Prod.snd (Prod.snd (Prod.snd d)))))),Prod.fst (Prod.snd (Prod.snd (Prod.snd (Prod.snd (Prod.snd (Prod.snd (Prod.snd d))))))),Prod.fst (Prod.snd (Prod.snd (Prod.snd (Prod.snd (Prod.snd (Prod.snd (Prod.snd (Prod.snd d)))))))),Prod.fst (Prod.snd (Prod.snd (Prod.snd (Prod.snd (Prod.snd (Prod.snd (Prod.snd (Prod.snd (Prod.snd d))))))))),Prod.fst (Prod.snd (Prod.snd (Prod.snd (Prod.snd (Prod.snd (Prod.snd (Prod.snd (Prod.snd (Prod.snd (Prod.snd d)))))))))),Prod.fst (Prod.snd (Prod.snd (Prod.snd (Prod.snd (Prod.snd (Prod.snd (Prod.snd (Prod.snd (Prod.snd (Prod.snd (Prod.snd d))))))))))),Prod.fst (Prod.snd (Prod.snd (Prod.snd (Prod.snd (Prod.snd (Prod.snd (Prod.snd (Prod.snd (Prod.snd (Prod.snd (Prod.snd (Prod.snd d)))))))))))),Prod.fst (Prod.snd (Prod.snd (Prod.snd (Prod.snd (Prod.snd (Prod.snd (Prod.snd (Prod.snd (Prod.snd (Prod.snd (Prod.snd (Prod.snd (Prod.snd d)))))))))))))⟩
abbrev tOf (d:Ty.den TMsg):LT:=Prod.snd (Prod.snd (Prod.snd (Prod.snd (Prod.snd (Prod.snd (Prod.snd (Prod.snd (Prod.snd (Prod.snd (Prod.snd (Prod.snd (Prod.snd (Prod.snd d)))))))))))))
def dOfM (m:Ms)(t:LT):Ty.den TMsg:=(m.k,m.e,m.c,m.be,m.bb,m.u5,m.u6,m.u7,m.l,m.v9,m.v10,m.v11,m.v12,m.v13,t)
theorem drE {M:LM}(hM:M.length≤100){i:Nat}(hi:i<M.length): ∃M':LM,t4u [.n (i:Int),.l TMsg M]=some (0,[.l TMsg M,.l TMsg M'])∧M'.length≤M.length∧ ∀m∈M',m∈M:=by
 have w:IntKind.wrap .i64 ((i:Int)+(1:Int))=((i+1:Nat):Int):=w1n i (by omega)
 have e1:List.length (List.take (Int.toNat (i:Int)-0) (List.drop 0 M))≤i:=by rw[List.length_take];omega
 have e2:List.length (List.take (Int.toNat (M.length:Int)-Int.toNat ((i+1:Nat):Int)) (List.drop (Int.toNat ((i+1:Nat):Int)) M))≤M.length-(i+1):=by rw[List.length_take];omega
 have:=x4j (n0:=(i:Int)) (l1:=M) (by omega) (by omega) hM (by omega) (by rw[w];omega)
 rw[w]at this
 refine⟨_,this,Nat.le_trans (Nat.le_of_eq List.length_append) (by omega),?_⟩
 ·intro m hm
  rcases List.mem_append.1 hm with h|h
  ·exact List.mem_of_mem_drop (List.mem_of_mem_take h)
  ·exact List.mem_of_mem_drop (List.mem_of_mem_take h)
structure FSt (i:Nat)(O:LG)(q:Nat)(b h:Int)(r:Rc)(th bk:LM)(x:Rc):Prop where
 off:Off O
 ol:O.length≤i
 rec':t4q O q r
 sn:SnOk O q b
 h0: -1≤h
 hq:h+1≤(q:Int)
 th': ∀m∈th,MsgT O (mOf m) (tOf m)
 thl:th.length≤50
 bk': ∀m∈bk,MsgB O q (mOf m)∧tOf m=[]
 bkl:bk.length≤50
 xe:1≤x.e∧x.e≤(i:Int)+1
 xc:0≤x.c∧x.c≤(i:Int)
 xo: ∀p,p<O.length→ ¬lt2 x.e x.c (xE (gO O p)) (xC (gO O p))
def eqB (t:TD)(r:Rc):Bool:=(xE t==r.e&&(xC t==r.c&&(xA t==r.a&&(xB t==r.b&&(xD t==r.d&&(eqL TB (xT t) r.t&&(xU t==r.u&&true))))&&true)))
theorem x4h (t:TD):eqB t (recO t)=true:=w4x t
theorem in52 {O:LG}(hO:O.length≤1000)(L:List (Ty.den t4j))(i b:Int)(r:Rc)(th bk:LM)(x:Rc)(R:LG){q:Nat}(hq:q<O.length)(hr:r=recO (gO O q)): ∀d k f:Nat,k+d=q→d<f→
  ∃k':Nat,k'≤q∧a0b t4r f (.k 0::.l t4j L::.n i::.n (k:Int)::[.n b,.n r.e,.n r.c,.n r.a,.n r.b,.n r.d,.l TB r.t,.n r.u,.b r.h,.l TLog O,.l TMsg th,.l TMsg bk,.n x.e,.n x.c,.n x.a,.n x.b,.n x.d,.l TB x.t,.n x.u,.n r.e,.n r.c,.n r.a,.n r.b,.n r.d,.l TB r.t,.n r.u,.l TLog R])=some (0,[.l t4j L,.n i,.n (k':Int),.n b,.n r.e,.n r.c,.n r.a,.n r.b,.n r.d,.l TB r.t,.n r.u,.b r.h,.l TLog O,.l TMsg th,.l TMsg bk,.n x.e,.n x.c,.n x.a,.n x.b,.n x.d,.l TB x.t,.n x.u,.l TLog R]):=by
 intro d
 induction d with
 |zero=>
  intro k f hk hf
  obtain⟨f,rfl⟩: ∃g,f=g+1:=⟨f-1,by omega⟩
  have:k=q:=by omega
  subst this
  have h1:eqB (gO O k) r=true:=by rw[hr];exact x4h _
  exact⟨k,Nat.le_refl _,c0a (t4x (by omega) (by omega) h1)⟩
 |succ d ih=>
  intro k f hk hf
  obtain⟨f,rfl⟩: ∃g,f=g+1:=⟨f-1,by omega⟩
  cases h1:eqB (gO O k) r with
  |true=>exact⟨k,by omega,c0a (t4x (by omega) (by omega) h1)⟩
  |false=>
   obtain⟨k',a,e⟩:=ih (k+1) f (by omega) (by omega)
   rw[←w1n k (by omega)]at e
   refine⟨k',a,Eq.trans (v0e ?_) e⟩
   exact w4g (by omega) (by omega) h1
theorem tail {i:Nat}{O:LG}{q:Nat}{b h:Int}{r:Rc}{th bk:LM}{x:Rc}(hi:i≤300)(hS:FSt i O q b h r th bk x)(hr:r.h=true)(L:List (Ty.den t4j))(n:Int): ∃k,FSt i O q b k r th bk x∧ ¬k=(O.length:Int)∧
  t4m (.k 0::.l t4j L::.n n::.n (imax (0:Int) h)::[.n b,.n r.e,.n r.c,.n r.a,.n r.b,.n r.d,.l TB r.t,.n r.u,.b r.h,.l TLog O,.l TMsg th,.l TMsg bk,.n x.e,.n x.c,.n x.a,.n x.b,.n x.d,.l TB x.t,.n x.u,.n r.e,.n r.c,.n r.a,.n r.b,.n r.d,.l TB r.t,.n r.u,.l TLog (sR O)])=some (0,[.l t4j L,.n n,.n k,.n b,.n r.e,.n r.c,.n r.a,.n r.b,.n r.d,.l TB r.t,.n r.u,.b r.h,.l TLog O,.l TMsg th,.l TMsg bk,.n x.e,.n x.c,.n x.a,.n x.b,.n x.d,.l TB x.t,.n x.u,.l TLog (sR O)]):=by
 have hol:=hS.ol
 rcases hS.rec' with⟨hq,⟨h1,h2⟩|⟨h1,h2⟩⟩
 ·rw[hr]at h2;cases h2
 ·have h0:=hS.h0;have hq2:=hS.hq
  obtain⟨k0,hk0⟩: ∃k0:Nat,(k0:Int)=imax 0 h:=⟨Int.toNat (imax 0 h),by unfold imax;split<;>omega⟩
  have hk1:k0≤q-1:=by unfold imax at hk0;split at hk0<;>omega
  obtain⟨k',a,e⟩:=in52 (O:=O) (by omega) L n b r th bk x (sR O) (q:=q-1) (by omega) h2 (q-1-k0) k0 FU (by omega) (b1w (by omega))
  rw[hk0]at e
  refine⟨(k':Int),?_,by omega,by rw[w4e];exact e⟩
  exact⟨hS.off,hS.ol,hS.rec',hS.sn,by omega,by omega,hS.th',hS.thl,hS.bk',hS.bkl,hS.xe,hS.xc,hS.xo⟩
abbrev LS:=List (Ty.den t4j)
abbrev sAt (L:LS)(i:Nat):Ty.den t4j:=List.getD L (Int.toNat (i:Int)) (Ty.dflt t4j)
abbrev sK (s:Ty.den t4j):Int:=Prod.fst s
abbrev sN (s:Ty.den t4j):Int:=Prod.fst (Prod.snd s)
abbrev sSt (s:Ty.den t4j):Ty.den TSt:=Prod.snd (Prod.snd s)
def mkD (e c:Int)(s:Ty.den t4j):TD:=(e,c,(sSt s).1,(sSt s).2.1,(sSt s).2.2.1,(sSt s).2.2.2.1,(sSt s).2.2.2.2)
def mkR (e c:Int)(s:Ty.den t4j):Rc:=⟨e,c,(sSt s).1,(sSt s).2.1,(sSt s).2.2.1,(sSt s).2.2.2.1,(sSt s).2.2.2.2,true⟩
structure OkS (s:Ty.den t4j):Prop where
 k:0≤sK s
 n:0≤sN s∧sN s<256
 st:U64 (sSt s).1∧U64 (sSt s).2.1∧U64 (sSt s).2.2.1∧List.length (α:=Int) (sSt s).2.2.2.1=64∧U32 (sSt s).2.2.2.2
theorem u8W {n:Int}(h:wfD (.int .u8) n=true):0≤n∧n<256:=by
 have:=wfi h
 simp[IntKind.min,IntKind.max,IntKind.bits,IntKind.signed]at this
 omega
theorem okS {s:Ty.den t4j}(h:wfD t4j s=true):OkS s:=by
 have h1:=p0a h
 have h2:=p0a h1.2
 exact⟨(u8W h1.1).1,u8W h2.1,wf_st h2.2⟩
theorem x4l {O:LG}{t:TD}{m:Ms}{tm:LT}(h:MsgT O m tm):MsgT (apL O [t]) m tm:=by
 have e1: ∀p,p<O.length→gO (apL O [t]) p=gO O p:=fun p hp=>h4w hp
 have el:List.length (apL O [t])=O.length+1:=i4y
 rcases h with⟨p,hp,h1,h2⟩|⟨s,p,hs,hp,h1,h2⟩
 ·exact .inl ⟨p,by omega,by rw[e1 p hp];exact h1,h2⟩
 ·exact .inr ⟨s,p,by omega,by omega,by rw[e1 p hp,e1 s hs];exact h1,by rw[e1 p hp,e1 s hs];exact h2⟩
theorem x4m {O:LG}{t:TD}{m:Ms}{q:Nat}(hq:q≤O.length)(h:MsgB O q m):MsgB (apL O [t]) q m:=by
 have e1: ∀p,p<O.length→gO (apL O [t]) p=gO O p:=fun p hp=>h4w hp
 rcases h with h|⟨p,hp,h1⟩
 ·exact .inl h
 ·exact .inr ⟨p,hp,by rw[e1 p (by omega)];exact h1⟩
theorem MsgB_le {O:LG}{m:Ms}{q q':Nat}(hq:q≤q')(h:MsgB O q m):MsgB O q' m:=by
 rcases h with h|⟨p,hp,h1⟩
 ·exact .inl h
 ·exact .inr ⟨p,by omega,h1⟩
theorem w4z {O:LG}{t:TD}{q:Nat}{r:Rc}(h:t4q O q r):t4q (apL O [t]) q r:=by
 have e1: ∀p,p<O.length→gO (apL O [t]) p=gO O p:=fun p hp=>h4w hp
 have el:List.length (apL O [t])=O.length+1:=i4y
 obtain⟨h1,h2⟩:=h
 refine⟨by omega,?_⟩
 rcases h2 with h2|⟨h2,h3⟩
 ·exact .inl h2
 ·exact .inr ⟨h2,by rw[e1 (q-1) (by omega)];exact h3⟩
theorem u4f {O:LG}{q q':Nat}{b:Int}(hq:q≤q')(h:SnOk O q b):SnOk O q' b:=⟨h.b0,h.bl,fun k=>by have:=h.bq k;omega⟩
section
variable {i:Nat} {O:LG} {q:Nat} {b h:Int} {r:Rc} {th bk:LM} {x:Rc}
theorem u4g (hS:FSt i O q b h r th bk x){e c:Int}{s:Ty.den t4j}(hs:OkS s)(he:1≤e∧e≤(i:Int)+2)(hc:0≤c∧c≤(i:Int)+1)(hi:i≤300)(hx:lt2 x.e x.c e c):
  ∃b',f4r [.n e,.n c,.n (sSt s).1,.n (sSt s).2.1,.n (sSt s).2.2.1,.l TB (sSt s).2.2.2.1,.n (sSt s).2.2.2.2,.n b,.l TLog (sR O)]=some (0,[.n 0,.n b',.l TLog (sR (apL O [mkD e c s]))])∧FSt (i+1) (apL O [mkD e c s]) q b' h r th bk (mkR e c s):=by
 have hq:=hS.rec'.1
 have hok:Ok (mkD e c s):=⟨⟨by show 0≤e;omega,by show e≤_;omega⟩,⟨by show 0≤c;omega,by show c≤_;omega⟩,hs.st.1,hs.st.2.1,hs.st.2.2.1,hs.st.2.2.2.1,hs.st.2.2.2.2⟩
 have hlt: ∀p,p<O.length→lt2 (xE (gO O p)) (xC (gO O p)) (xE (mkD e c s)) (xC (mkD e c s)):=fun p hp=>by
  have h1:=hS.xo p hp
  show lt2 _ _ e c
  unfold lt2 at h1 hx⊢;omega
 obtain⟨b',e1,e2⟩:=offerO hS.off hq hS.sn hok hlt
 have el:List.length (apL O [mkD e c s])=O.length+1:=i4y
 have eo: ∀p,p<O.length→gO (apL O [mkD e c s]) p=gO O p:=fun p hp=>h4w hp
 have eo2:gO (apL O [mkD e c s]) O.length=mkD e c s:=n4g
 refine⟨b',e1,⟨off_app hS.off hok hlt,by have:=hS.ol;omega,w4z hS.rec',e2,hS.h0,hS.hq,fun m hm=>x4l (hS.th' m hm),hS.thl,fun m hm=>⟨x4m hq (hS.bk' m hm).1,(hS.bk' m hm).2⟩,hS.bkl,⟨he.1,by show e≤_;omega⟩,⟨hc.1,by show c≤_;omega⟩,fun p hp=> ?_⟩⟩
 by_cases w:p<O.length
 ·have h1:=hlt p w
  have h3:lt2 (xE (gO (apL O [mkD e c s]) p)) (xC (gO (apL O [mkD e c s]) p)) e c:=by rw[eo p w];exact h1
  intro h2
  exact h4l (g4s h2 h3)
 ·have:p=O.length:=by omega
  subst this
  rw[eo2]
  exact h4l
theorem u4a (hS:FSt i O q b h r th bk x):FSt (i+1) O q b h r th bk x:=
 ⟨hS.off,by have:=hS.ol;omega,hS.rec',hS.sn,hS.h0,hS.hq,hS.th',hS.thl,hS.bk',hS.bkl,⟨hS.xe.1,by have:=hS.xe.2;omega⟩,⟨hS.xc.1,by have:=hS.xc.2;omega⟩,hS.xo⟩
theorem w4n (hS:FSt i O q b h r th bk x){m:Ms}{tm:LT}(hm:MsgT O m tm)(hl:(th.length:Int)<50):FSt i O q b h r (apL th [dOfM m tm]) bk x:=by
 refine⟨hS.off,hS.ol,hS.rec',hS.sn,hS.h0,hS.hq,fun d hd=> ?_,?_,hS.bk',hS.bkl,hS.xe,hS.xc,hS.xo⟩
 ·rcases List.mem_append.1 hd with h|h
  ·exact hS.th' d h
  ·cases List.mem_singleton.1 h;exact hm
 ·have:List.length (apL th [dOfM m tm])=th.length+1:=i4y
  omega
theorem stBack (hS:FSt i O q b h r th bk x){m:Ms}(hm:MsgB O q m)(hl:(bk.length:Int)<50):FSt i O q b h r th (apL bk [dOfM m []]) x:=by
 refine⟨hS.off,hS.ol,hS.rec',hS.sn,hS.h0,hS.hq,hS.th',hS.thl,fun d hd=> ?_,?_,hS.xe,hS.xc,hS.xo⟩
 ·rcases List.mem_append.1 hd with h|h
  ·exact hS.bk' d h
  ·cases List.mem_singleton.1 h;exact⟨hm,rfl⟩
 ·have:List.length (apL bk [dOfM m []])=bk.length+1:=i4y
  omega
theorem x4a (hS:FSt i O q b h r th bk x){th2:LM}(h1:th2.length≤th.length)(h2: ∀m∈th2,m∈th):FSt i O q b h r th2 bk x:=
 ⟨hS.off,hS.ol,hS.rec',hS.sn,hS.h0,hS.hq,fun d hd=>hS.th' d (h2 d hd),by have:=hS.thl;omega,hS.bk',hS.bkl,hS.xe,hS.xc,hS.xo⟩
theorem stDropB (hS:FSt i O q b h r th bk x){bk2:LM}(h1:bk2.length≤bk.length)(h2: ∀m∈bk2,m∈bk):FSt i O q b h r th bk2 x:=
 ⟨hS.off,hS.ol,hS.rec',hS.sn,hS.h0,hS.hq,hS.th',hS.thl,fun d hd=>hS.bk' d (h2 d hd),by have:=hS.bkl;omega,hS.xe,hS.xc,hS.xo⟩
theorem stRec (hS:FSt i O q b h r th bk x){r2:Rc}{q2:Nat}(h1:t4q O q2 r2)(h2:q≤q2):FSt i O q2 b h r2 th bk x:=
 ⟨hS.off,hS.ol,h1,u4f h2 hS.sn,hS.h0,by have:=hS.hq;omega,hS.th',hS.thl,fun d hd=>⟨MsgB_le h2 (hS.bk' d hd).1,(hS.bk' d hd).2⟩,hS.bkl,hS.xe,hS.xc,hS.xo⟩
theorem stBase (hS:FSt i O q b h r th bk x){b2:Int}(h1:SnOk O q b2):FSt i O q b2 h r th bk x:=
 ⟨hS.off,hS.ol,hS.rec',h1,hS.h0,hS.hq,hS.th',hS.thl,hS.bk',hS.bkl,hS.xe,hS.xc,hS.xo⟩
variable (L:LS) (hL:L.length≤300) (hi:i<L.length) (hc:OkS (sAt L i)) (hS:FSt i O q b h r th bk x)
abbrev GoS (L:LS)(i:Nat)(O:LG)(b h:Int)(r:Rc)(th bk:LM)(x:Rc):Prop:= ∃(O':LG) (q':Nat) (b' h':Int) (r':Rc) (th' bk':LM) (x':Rc),FSt (i+1) O' q' b' h' r' th' bk' x'∧
 (t4k [.k 0,.l t4j L,.n h,.n (i:Int),.n b,.n r.e,.n r.c,.n r.a,.n r.b,.n r.d,.l TB r.t,.n r.u,.b r.h,.l TLog O,.l TMsg th,.l TMsg bk,.n x.e,.n x.c,.n x.a,.n x.b,.n x.d,.l TB x.t,.n x.u,.l TLog (sR O)]).sel=some (.go [.k 0,.l t4j L,.n h',.n (IntKind.wrap .i64 ((i:Int)+(1:Int))),.n b',.n r'.e,.n r'.c,.n r'.a,.n r'.b,.n r'.d,.l TB r'.t,.n r'.u,.b r'.h,.l TLog O',.l TMsg th',.l TMsg bk',.n x'.e,.n x'.c,.n x'.a,.n x'.b,.n x'.d,.l TB x'.t,.n x'.u,.l TLog (sR O')])
include hL hi hc hS
theorem step0 (hv:Int.tmod (sK (sAt L i)) 8=0):GoS L i O b h r th bk x:=by
 have gi0:(0:Int)≤(i:Int):=by omega
 have gi1:(i:Int)<(L.length:Int):=by omega
 have gO':O.length≤1000:=by have:=hS.ol;omega
 have gth:th.length≤100:=by have:=hS.thl;omega
 have gbk:bk.length≤100:=by have:=hS.bkl;omega
 have hI:=hS.sn.inv hS.off
 have g6:=hI.b0;have g7:=hI.bl;have g8:=hI.l8
 have hxe:=hS.xe;have hxc:=hS.xc
 have w1:IntKind.wrap .i64 (x.e+(1:Int))=x.e+1:=w64s (by omega) (by omega)
 have w2:IntKind.wrap .i64 (x.c+(1:Int))=x.c+1:=w64s (by omega) (by omega)
 by_cases hn:IntKind.wrap .i64 (sN (sAt L i))=(0:Int)
 ·obtain⟨b',e1,hS2⟩:=u4g hS hc (e:=x.e+1) (c:=0) (by omega) (by omega) (by omega) (.inl (by omega))
  rw[←w1]at e1 hS2
  have e1':f4r [.n (IntKind.wrap .i64 (x.e+(1:Int))),.n (0:Int),.n (sSt (sAt L i)).1,.n (sSt (sAt L i)).2.1,.n (sSt (sAt L i)).2.2.1,.l TB (sSt (sAt L i)).2.2.2.1,.n (sSt (sAt L i)).2.2.2.2,.n b,.l TLog (sR O)]=some (0,[.n 0,.n b',.l TLog (sR (apL O [mkD (IntKind.wrap .i64 (x.e+(1:Int))) 0 (sAt L i)]))]):=e1
  cases hr:r.h with
  |false=>exact⟨apL O [mkD (IntKind.wrap .i64 (x.e+(1:Int))) 0 (sAt L i)],q,b',h,r,th,bk,mkR (IntKind.wrap .i64 (x.e+(1:Int))) 0 (sAt L i),hS2,u4m gi0 gi1 hL gO' gth gbk g6 g7 g8 hv hn e1 rfl hr⟩
  |true=>
   obtain⟨k2,t1,t2,t3⟩:=tail (by omega) hS2 hr L (i:Int)
   exact⟨apL O [mkD (IntKind.wrap .i64 (x.e+(1:Int))) 0 (sAt L i)],q,b',k2,r,th,bk,mkR (IntKind.wrap .i64 (x.e+(1:Int))) 0 (sAt L i),t1,v4a gi0 gi1 hL gO' gth gbk g6 g7 g8 hv hn e1 rfl hr t3 t2⟩
 ·obtain⟨b',e1,hS2⟩:=u4g hS hc (e:=x.e) (c:=x.c+1) (by omega) (by omega) (by omega) (.inr (by omega))
  rw[←w2]at e1 hS2
  cases hr:r.h with
  |false=>exact⟨apL O [mkD x.e (IntKind.wrap .i64 (x.c+(1:Int))) (sAt L i)],q,b',h,r,th,bk,mkR x.e (IntKind.wrap .i64 (x.c+(1:Int))) (sAt L i),hS2,v4i gi0 gi1 hL gO' gth gbk g6 g7 g8 hv hn e1 rfl hr⟩
  |true=>
   obtain⟨k2,t1,t2,t3⟩:=tail (by omega) hS2 hr L (i:Int)
   exact⟨apL O [mkD x.e (IntKind.wrap .i64 (x.c+(1:Int))) (sAt L i)],q,b',k2,r,th,bk,mkR x.e (IntKind.wrap .i64 (x.c+(1:Int))) (sAt L i),t1,v4l gi0 gi1 hL gO' gth gbk g6 g7 g8 hv hn e1 rfl hr t3 t2⟩
theorem step1 (hv:Int.tmod (sK (sAt L i)) 8=1):GoS L i O b h r th bk x:=by
 have gi0:(0:Int)≤(i:Int):=by omega
 have gi1:(i:Int)<(L.length:Int):=by omega
 have gO':O.length≤1000:=by have:=hS.ol;omega
 have gth:th.length≤100:=by have:=hS.thl;omega
 have gbk:bk.length≤100:=by have:=hS.bkl;omega
 have hI:=hS.sn.inv hS.off
 have g6:=hI.b0;have g7:=hI.bl;have g8:=hI.l8
 have hxe:=hS.xe;have hxc:=hS.xc
 have w1:IntKind.wrap .i64 (x.e+(1:Int))=x.e+1:=w64s (by omega) (by omega)
 have w2:IntKind.wrap .i64 (x.c+(1:Int))=x.c+1:=w64s (by omega) (by omega)
 by_cases hn:IntKind.wrap .i64 (sN (sAt L i))=(0:Int)
 ·obtain⟨b',e1,hS2⟩:=u4g hS hc (e:=x.e+1) (c:=0) (by omega) (by omega) (by omega) (.inl (by omega))
  rw[←w1]at e1 hS2
  have e1':f4r [.n (IntKind.wrap .i64 (x.e+(1:Int))),.n (0:Int),.n (sSt (sAt L i)).1,.n (sSt (sAt L i)).2.1,.n (sSt (sAt L i)).2.2.1,.l TB (sSt (sAt L i)).2.2.2.1,.n (sSt (sAt L i)).2.2.2.2,.n b,.l TLog (sR O)]=some (0,[.n 0,.n b',.l TLog (sR (apL O [mkD (IntKind.wrap .i64 (x.e+(1:Int))) 0 (sAt L i)]))]):=e1
  cases hr:r.h with
  |false=>exact⟨apL O [mkD (IntKind.wrap .i64 (x.e+(1:Int))) 0 (sAt L i)],q,b',h,r,th,bk,mkR (IntKind.wrap .i64 (x.e+(1:Int))) 0 (sAt L i),hS2,v4b gi0 gi1 hL gO' gth gbk g6 g7 g8 hv hn e1 rfl hr⟩
  |true=>
   obtain⟨k2,t1,t2,t3⟩:=tail (by omega) hS2 hr L (i:Int)
   exact⟨apL O [mkD (IntKind.wrap .i64 (x.e+(1:Int))) 0 (sAt L i)],q,b',k2,r,th,bk,mkR (IntKind.wrap .i64 (x.e+(1:Int))) 0 (sAt L i),t1,v4o gi0 gi1 hL gO' gth gbk g6 g7 g8 hv hn e1 rfl hr t3 t2⟩
 ·obtain⟨b',e1,hS2⟩:=u4g hS hc (e:=x.e) (c:=x.c+1) (by omega) (by omega) (by omega) (.inr (by omega))
  rw[←w2]at e1 hS2
  cases hr:r.h with
  |false=>exact⟨apL O [mkD x.e (IntKind.wrap .i64 (x.c+(1:Int))) (sAt L i)],q,b',h,r,th,bk,mkR x.e (IntKind.wrap .i64 (x.c+(1:Int))) (sAt L i),hS2,v4g gi0 gi1 hL gO' gth gbk g6 g7 g8 hv hn e1 rfl hr⟩
  |true=>
   obtain⟨k2,t1,t2,t3⟩:=tail (by omega) hS2 hr L (i:Int)
   exact⟨apL O [mkD x.e (IntKind.wrap .i64 (x.c+(1:Int))) (sAt L i)],q,b',k2,r,th,bk,mkR x.e (IntKind.wrap .i64 (x.c+(1:Int))) (sAt L i),t1,u4l gi0 gi1 hL gO' gth gbk g6 g7 g8 hv hn e1 rfl hr t3 t2⟩
theorem step2 (hv:Int.tmod (sK (sAt L i)) 8=2):GoS L i O b h r th bk x:=by
 have gi0:(0:Int)≤(i:Int):=by omega
 have gi1:(i:Int)<(L.length:Int):=by omega
 have gO':O.length≤1000:=by have:=hS.ol;omega
 have gth:th.length≤100:=by have:=hS.thl;omega
 have gbk:bk.length≤100:=by have:=hS.bkl;omega
 have hI:=hS.sn.inv hS.off
 have g6:=hI.b0;have g7:=hI.bl;have g8:=hI.l8
 have hk0:=hc.k
 have hS1:=u4a hS
 rcases sendO hS.off hS.sn with⟨_,e⟩|⟨_,hp,e⟩|⟨s,hs,hp,e⟩
 ·have hS2:=hS1
  cases hr:r.h with
  |false=>exact⟨O,q,b,h,r,th,bk,x,hS2,u4t gi0 gi1 hL gO' gth gbk g6 g7 g8 hv e rfl hr⟩
  |true=>
   obtain⟨k2,t1,t2,t3⟩:=tail (by omega) hS2 hr L (i:Int)
   exact⟨O,q,b,k2,r,th,bk,x,t1,u4r gi0 gi1 hL gO' gth gbk g6 g7 g8 hv e rfl hr t3 t2⟩
 ·by_cases h50:(th.length:Int)<50
  ·have hS2:=w4n hS1 (m:=t4l (gO O (O.length-1))) (tm:=[]) (.inl ⟨O.length-1,by omega,rfl,rfl⟩) h50
   cases hr:r.h with
   |false=>exact⟨O,q,b,h,r,apL th [dOfM (t4l (gO O (O.length-1))) []],bk,x,hS2,v4t gi0 gi1 hL gO' gth gbk g6 g7 g8 hv e rfl h50 hr⟩
   |true=>
    obtain⟨k2,t1,t2,t3⟩:=tail (by omega) hS2 hr L (i:Int)
    exact⟨O,q,b,k2,r,apL th [dOfM (t4l (gO O (O.length-1))) []],bk,x,t1,u4s gi0 gi1 hL gO' gth gbk g6 g7 g8 hv e rfl h50 hr t3 t2⟩
  ·have hS2:=hS1
   cases hr:r.h with
   |false=>exact⟨O,q,b,h,r,th,bk,x,hS2,v4n gi0 gi1 hL gO' gth gbk g6 g7 g8 hv e rfl h50 hr⟩
   |true=>
    obtain⟨k2,t1,t2,t3⟩:=tail (by omega) hS2 hr L (i:Int)
    exact⟨O,q,b,k2,r,th,bk,x,t1,u4u gi0 gi1 hL gO' gth gbk g6 g7 g8 hv e rfl h50 hr t3 t2⟩
 ·by_cases h50:(th.length:Int)<50
  ·have hS2:=w4n hS1 (m:=t4n (gO O s) (gO O (O.length-1))) (tm:=t4p (gO O s) (gO O (O.length-1))) (.inr ⟨s,O.length-1,hs,by omega,rfl,rfl⟩) h50
   cases hr:r.h with
   |false=>exact⟨O,q,b,h,r,apL th [dOfM (t4n (gO O s) (gO O (O.length-1))) (t4p (gO O s) (gO O (O.length-1)))],bk,x,hS2,v4m gi0 gi1 hL gO' gth gbk g6 g7 g8 hv e rfl h50 hr⟩
   |true=>
    obtain⟨k2,t1,t2,t3⟩:=tail (by omega) hS2 hr L (i:Int)
    exact⟨O,q,b,k2,r,apL th [dOfM (t4n (gO O s) (gO O (O.length-1))) (t4p (gO O s) (gO O (O.length-1)))],bk,x,t1,u4c gi0 gi1 hL gO' gth gbk g6 g7 g8 hv e rfl h50 hr t3 t2⟩
  ·have hS2:=hS1
   cases hr:r.h with
   |false=>exact⟨O,q,b,h,r,th,bk,x,hS2,u4k gi0 gi1 hL gO' gth gbk g6 g7 g8 hv e rfl h50 hr⟩
   |true=>
    obtain⟨k2,t1,t2,t3⟩:=tail (by omega) hS2 hr L (i:Int)
    exact⟨O,q,b,k2,r,th,bk,x,t1,u4j gi0 gi1 hL gO' gth gbk g6 g7 g8 hv e rfl h50 hr t3 t2⟩
theorem step3 (hv:Int.tmod (sK (sAt L i)) 8=3):GoS L i O b h r th bk x:=by
 have gi0:(0:Int)≤(i:Int):=by omega
 have gi1:(i:Int)<(L.length:Int):=by omega
 have gO':O.length≤1000:=by have:=hS.ol;omega
 have gth:th.length≤100:=by have:=hS.thl;omega
 have gbk:bk.length≤100:=by have:=hS.bkl;omega
 have hI:=hS.sn.inv hS.off
 have g6:=hI.b0;have g7:=hI.bl;have g8:=hI.l8
 have hS1:=u4a hS
 by_cases hz:(th.length:Int)=0
 ·exact⟨O,q,b,h,r,th,bk,x,hS1,v4h gi0 gi1 hL gO' gth gbk g6 g7 g8 hv hz⟩
 have hN:IntKind.wrap .i64 (sN (sAt L i))=sN (sAt L i):=w64s (by have:=hc.n;omega) (by have:=hc.n;omega)
 obtain⟨y,hy⟩: ∃y,y=Int.tmod (IntKind.wrap .i64 (sN (sAt L i))) (th.length:Int):=⟨_,rfl⟩
 have hyr:0≤y∧y<(th.length:Int):=by
  have:=hc.n
  rw[hy,hN,Int.tmod_eq_emod_of_nonneg this.1]
  exact⟨Int.emod_nonneg _ (by omega),Int.emod_lt_of_pos _ (by omega)⟩
 have hin:inR y th.length=true:=h1s hyr.1 hyr.2
 have hmem:List.getD th (Int.toNat y) (Ty.dflt TMsg)∈th:=memS (by omega)
 obtain⟨a,ok,r2,q2,e,g1,g2,g3⟩:=rhT hS.off hS.rec' (hS.th' _ hmem)
 have hS3:=stRec hS1 g1 g2
 obtain⟨th2,ed,d1,d2⟩:=drE (M:=th) gth (i:=Int.toNat y) (by omega)
 rw[show((Int.toNat y:Nat):Int)=y by omega]at ed
 have hS4:=x4a hS3 d1 d2
 subst hy
 by_cases h50:(bk.length:Int)<50
 ·have hS2:=stBack hS4 g3 h50
  cases hr:r2.h with
  |false=>exact⟨O,q2,b,h,r2,th2,apL bk [dOfM a []],x,hS2,u4y gi0 gi1 hL gO' gth gbk g6 g7 g8 hv hz hin e rfl ed h50 hr⟩
  |true=>
   obtain⟨k2,t1,t2,t3⟩:=tail (by omega) hS2 hr L (i:Int)
   exact⟨O,q2,b,k2,r2,th2,apL bk [dOfM a []],x,t1,v4f gi0 gi1 hL gO' gth gbk g6 g7 g8 hv hz hin e rfl ed h50 hr t3 t2⟩
 ·have hS2:=hS4
  cases hr:r2.h with
  |false=>exact⟨O,q2,b,h,r2,th2,bk,x,hS2,u4w gi0 gi1 hL gO' gth gbk g6 g7 g8 hv hz hin e rfl ed h50 hr⟩
  |true=>
   obtain⟨k2,t1,t2,t3⟩:=tail (by omega) hS2 hr L (i:Int)
   exact⟨O,q2,b,k2,r2,th2,bk,x,t1,v4r gi0 gi1 hL gO' gth gbk g6 g7 g8 hv hz hin e rfl ed h50 hr t3 t2⟩
theorem step4 (hv:Int.tmod (sK (sAt L i)) 8=4):GoS L i O b h r th bk x:=by
 have gi0:(0:Int)≤(i:Int):=by omega
 have gi1:(i:Int)<(L.length:Int):=by omega
 have gO':O.length≤1000:=by have:=hS.ol;omega
 have gth:th.length≤100:=by have:=hS.thl;omega
 have gbk:bk.length≤100:=by have:=hS.bkl;omega
 have hI:=hS.sn.inv hS.off
 have g6:=hI.b0;have g7:=hI.bl;have g8:=hI.l8
 have hS1:=u4a hS
 by_cases hz:(th.length:Int)=0
 ·exact⟨O,q,b,h,r,th,bk,x,hS1,v4w gi0 gi1 hL gO' gth gbk g6 g7 g8 hv hz⟩
 have hN:IntKind.wrap .i64 (sN (sAt L i))=sN (sAt L i):=w64s (by have:=hc.n;omega) (by have:=hc.n;omega)
 obtain⟨y,hy⟩: ∃y,y=Int.tmod (IntKind.wrap .i64 (sN (sAt L i))) (th.length:Int):=⟨_,rfl⟩
 have hyr:0≤y∧y<(th.length:Int):=by
  have:=hc.n
  rw[hy,hN,Int.tmod_eq_emod_of_nonneg this.1]
  exact⟨Int.emod_nonneg _ (by omega),Int.emod_lt_of_pos _ (by omega)⟩
 have hin:inR y th.length=true:=h1s hyr.1 hyr.2
 have hmem:List.getD th (Int.toNat y) (Ty.dflt TMsg)∈th:=memS (by omega)
 obtain⟨a,ok,r2,q2,e,g1,g2,g3⟩:=rhT hS.off hS.rec' (hS.th' _ hmem)
 have hS3:=stRec hS1 g1 g2
 subst hy
 by_cases h50:(bk.length:Int)<50
 ·have hS2:=stBack hS3 g3 h50
  cases hr:r2.h with
  |false=>exact⟨O,q2,b,h,r2,th,apL bk [dOfM a []],x,hS2,v4v gi0 gi1 hL gO' gth gbk g6 g7 g8 hv hz hin e rfl h50 hr⟩
  |true=>
   obtain⟨k2,t1,t2,t3⟩:=tail (by omega) hS2 hr L (i:Int)
   exact⟨O,q2,b,k2,r2,th,apL bk [dOfM a []],x,t1,u4o gi0 gi1 hL gO' gth gbk g6 g7 g8 hv hz hin e rfl h50 hr t3 t2⟩
 ·have hS2:=hS3
  cases hr:r2.h with
  |false=>exact⟨O,q2,b,h,r2,th,bk,x,hS2,u4z gi0 gi1 hL gO' gth gbk g6 g7 g8 hv hz hin e rfl h50 hr⟩
  |true=>
   obtain⟨k2,t1,t2,t3⟩:=tail (by omega) hS2 hr L (i:Int)
   exact⟨O,q2,b,k2,r2,th,bk,x,t1,u4p gi0 gi1 hL gO' gth gbk g6 g7 g8 hv hz hin e rfl h50 hr t3 t2⟩
theorem step5 (hv:Int.tmod (sK (sAt L i)) 8=5):GoS L i O b h r th bk x:=by
 have gi0:(0:Int)≤(i:Int):=by omega
 have gi1:(i:Int)<(L.length:Int):=by omega
 have gO':O.length≤1000:=by have:=hS.ol;omega
 have gth:th.length≤100:=by have:=hS.thl;omega
 have gbk:bk.length≤100:=by have:=hS.bkl;omega
 have hI:=hS.sn.inv hS.off
 have g6:=hI.b0;have g7:=hI.bl;have g8:=hI.l8
 have hS1:=u4a hS
 by_cases hz:(bk.length:Int)=0
 ·exact⟨O,q,b,h,r,th,bk,x,hS1,u4n gi0 gi1 hL gO' gth gbk g6 g7 g8 hv hz⟩
 have hN:IntKind.wrap .i64 (sN (sAt L i))=sN (sAt L i):=w64s (by have:=hc.n;omega) (by have:=hc.n;omega)
 obtain⟨y,hy⟩: ∃y,y=Int.tmod (IntKind.wrap .i64 (sN (sAt L i))) (bk.length:Int):=⟨_,rfl⟩
 have hyr:0≤y∧y<(bk.length:Int):=by
  have:=hc.n
  rw[hy,hN,Int.tmod_eq_emod_of_nonneg this.1]
  exact⟨Int.emod_nonneg _ (by omega),Int.emod_lt_of_pos _ (by omega)⟩
 have hin:inR y bk.length=true:=h1s hyr.1 hyr.2
 have hmem:List.getD bk (Int.toNat y) (Ty.dflt TMsg)∈bk:=memS (by omega)
 obtain⟨hmb,hmt⟩:=hS.bk' _ hmem
 obtain⟨b2,e,g1,_⟩:=heB hS.off hS.rec'.1 hS.sn hmb
 rw[←hmt]at e
 have hS3:=stBase hS1 g1
 obtain⟨bk2,ed,d1,d2⟩:=drE (M:=bk) gbk (i:=Int.toNat y) (by omega)
 rw[show((Int.toNat y:Nat):Int)=y by omega]at ed
 have hS2:=stDropB hS3 d1 d2
 subst hy
 cases hr:r.h with
 |false=>exact⟨O,q,b2,h,r,th,bk2,x,hS2,u4x gi0 gi1 hL gO' gth gbk g6 g7 g8 hv hz hin e rfl ed hr⟩
 |true=>
  obtain⟨k2,t1,t2,t3⟩:=tail (by omega) hS2 hr L (i:Int)
  exact⟨O,q,b2,k2,r,th,bk2,x,t1,v4u gi0 gi1 hL gO' gth gbk g6 g7 g8 hv hz hin e rfl ed hr t3 t2⟩
theorem step6 (hv:Int.tmod (sK (sAt L i)) 8=6):GoS L i O b h r th bk x:=by
 have gi0:(0:Int)≤(i:Int):=by omega
 have gi1:(i:Int)<(L.length:Int):=by omega
 have gO':O.length≤1000:=by have:=hS.ol;omega
 have gth:th.length≤100:=by have:=hS.thl;omega
 have gbk:bk.length≤100:=by have:=hS.bkl;omega
 have hI:=hS.sn.inv hS.off
 have g6:=hI.b0;have g7:=hI.bl;have g8:=hI.l8
 have hS1:=u4a hS
 by_cases hz:(bk.length:Int)=0
 ·exact⟨O,q,b,h,r,th,bk,x,hS1,u4q gi0 gi1 hL gO' gth gbk g6 g7 g8 hv hz⟩
 have hN:IntKind.wrap .i64 (sN (sAt L i))=sN (sAt L i):=w64s (by have:=hc.n;omega) (by have:=hc.n;omega)
 obtain⟨y,hy⟩: ∃y,y=Int.tmod (IntKind.wrap .i64 (sN (sAt L i))) (bk.length:Int):=⟨_,rfl⟩
 have hyr:0≤y∧y<(bk.length:Int):=by
  have:=hc.n
  rw[hy,hN,Int.tmod_eq_emod_of_nonneg this.1]
  exact⟨Int.emod_nonneg _ (by omega),Int.emod_lt_of_pos _ (by omega)⟩
 have hin:inR y bk.length=true:=h1s hyr.1 hyr.2
 have hmem:List.getD bk (Int.toNat y) (Ty.dflt TMsg)∈bk:=memS (by omega)
 obtain⟨hmb,hmt⟩:=hS.bk' _ hmem
 obtain⟨b2,e,g1,_⟩:=heB hS.off hS.rec'.1 hS.sn hmb
 rw[←hmt]at e
 have hS3:=stBase hS1 g1
 have hS2:=hS3
 subst hy
 cases hr:r.h with
 |false=>exact⟨O,q,b2,h,r,th,bk,x,hS2,v4e gi0 gi1 hL gO' gth gbk g6 g7 g8 hv hz hin e rfl hr⟩
 |true=>
  obtain⟨k2,t1,t2,t3⟩:=tail (by omega) hS2 hr L (i:Int)
  exact⟨O,q,b2,k2,r,th,bk,x,t1,u4v gi0 gi1 hL gO' gth gbk g6 g7 g8 hv hz hin e rfl hr t3 t2⟩
theorem step7 (hv:Int.tmod (sK (sAt L i)) 8=7):GoS L i O b h r th bk x:=by
 have gi0:(0:Int)≤(i:Int):=by omega
 have gi1:(i:Int)<(L.length:Int):=by omega
 have gO':O.length≤1000:=by have:=hS.ol;omega
 have gth:th.length≤100:=by have:=hS.thl;omega
 have gbk:bk.length≤100:=by have:=hS.bkl;omega
 have hI:=hS.sn.inv hS.off
 have g6:=hI.b0;have g7:=hI.bl;have g8:=hI.l8
 have hS1:=u4a hS
 by_cases hz0:(th.length:Int)>0
 ·have hz: ¬(th.length:Int)=0:=by omega
  have hN:IntKind.wrap .i64 (sN (sAt L i))=sN (sAt L i):=w64s (by have:=hc.n;omega) (by have:=hc.n;omega)
  obtain⟨y,hy⟩: ∃y,y=Int.tmod (IntKind.wrap .i64 (sN (sAt L i))) (th.length:Int):=⟨_,rfl⟩
  have hyr:0≤y∧y<(th.length:Int):=by
   have:=hc.n
   rw[hy,hN,Int.tmod_eq_emod_of_nonneg this.1]
   exact⟨Int.emod_nonneg _ (by omega),Int.emod_lt_of_pos _ (by omega)⟩
  have hin:inR y th.length=true:=h1s hyr.1 hyr.2
  have hmem:List.getD th (Int.toNat y) (Ty.dflt TMsg)∈th:=memS (by omega)
  obtain⟨th2,ed,d1,d2⟩:=drE (M:=th) gth (i:=Int.toNat y) (by omega)
  rw[show((Int.toNat y:Nat):Int)=y by omega]at ed
  have hS2:=x4a hS1 d1 d2
  subst hy
  cases hr:r.h with
  |false=>exact⟨O,q,b,h,r,th2,bk,x,hS2,v4q gi0 gi1 hL gO' gth gbk g6 g7 g8 hv hz0 ed hr⟩
  |true=>
   obtain⟨k2,t1,t2,t3⟩:=tail (by omega) hS2 hr L (i:Int)
   exact⟨O,q,b,k2,r,th2,bk,x,t1,v4p gi0 gi1 hL gO' gth gbk g6 g7 g8 hv hz0 ed hr t3 t2⟩
 ·have hS2:=hS1
  cases hr:r.h with
  |false=>exact⟨O,q,b,h,r,th,bk,x,hS2,v4k gi0 gi1 hL gO' gth gbk g6 g7 g8 hv hz0 hr⟩
  |true=>
   obtain⟨k2,t1,t2,t3⟩:=tail (by omega) hS2 hr L (i:Int)
   exact⟨O,q,b,k2,r,th,bk,x,t1,v4j gi0 gi1 hL gO' gth gbk g6 g7 g8 hv hz0 hr t3 t2⟩
end
section
variable (L:LS) (hL:L.length≤300) (hc: ∀s∈L,wfD t4j s=true)
include hL hc
theorem l4f10: ∀(m i:Nat) (O:LG) (q:Nat) (b h:Int) (r:Rc) (th bk:LM) (x:Rc),FSt i O q b h r th bk x→i≤L.length→L.length-i<m→
  ∃(O':LG) (q':Nat) (b' h':Int) (r':Rc) (th' bk':LM) (x':Rc),FSt L.length O' q' b' h' r' th' bk' x'∧a0b t4k m [.k 0,.l t4j L,.n h,.n (i:Int),.n b,.n r.e,.n r.c,.n r.a,.n r.b,.n r.d,.l TB r.t,.n r.u,.b r.h,.l TLog O,.l TMsg th,.l TMsg bk,.n x.e,.n x.c,.n x.a,.n x.b,.n x.d,.l TB x.t,.n x.u,.l TLog (sR O)]=some (0,[.n b',.n r'.e,.n r'.c,.n r'.a,.n r'.b,.n r'.d,.l TB r'.t,.n r'.u,.b r'.h,.l TLog O',.l TLog (sR O')]):=by
 intro m
 induction m with
 |zero=>intro i O q b h r th bk x _ _ hm;omega
 |succ m ih=>
  intro i O q b h r th bk x hS hi hm
  by_cases w:i<L.length
  ·have hk:OkS (sAt L i):=okS (hc _ (memS w))
   have h8:0≤Int.tmod (sK (sAt L i)) 8∧Int.tmod (sK (sAt L i)) 8<8:=by rw[Int.tmod_eq_emod_of_nonneg hk.k];omega
   have go:GoS L i O b h r th bk x:=by
    obtain⟨v,hv⟩: ∃v,Int.tmod (sK (sAt L i)) 8=v:=⟨_,rfl⟩
    rw[hv]at h8
    have hv8:v=0∨v=1∨v=2∨v=3∨v=4∨v=5∨v=6∨v=7:=by omega
    rcases hv8 with rfl|rfl|rfl|rfl|rfl|rfl|rfl|rfl
    ·exact step0 L hL w hk hS hv
    ·exact step1 L hL w hk hS hv
    ·exact step2 L hL w hk hS hv
    ·exact step3 L hL w hk hS hv
    ·exact step4 L hL w hk hS hv
    ·exact step5 L hL w hk hS hv
    ·exact step6 L hL w hk hS hv
    ·exact step7 L hL w hk hS hv
   obtain⟨O1,q1,b1,h1,r1,th1,bk1,x1,g1,g2⟩:=go
   rw[w1n i (by omega)]at g2
   obtain⟨O2,q2,b2,h2,r2,th2,bk2,x2,g3,g4⟩:=ih (i+1) O1 q1 b1 h1 r1 th1 bk1 x1 g1 (by omega) (by omega)
   exact⟨O2,q2,b2,h2,r2,th2,bk2,x2,g3,(v0e g2).trans g4⟩
  ·have e:i=L.length:=by omega
   subst e
   exact⟨O,q,b,h,r,th,bk,x,hS,c0a (w4a (by omega) rfl)⟩
end
theorem round {O:LG}(hO:Off O){q:Nat}{r:Rc}(hr:t4q O q r){b:Int}(hb:SnOk O q b){n:Int}(h0:0≤n)(h2:n<2):
  ((t4o [.k 0,.n n,.n b,.n r.e,.n r.c,.n r.a,.n r.b,.n r.d,.l TB r.t,.n r.u,.b r.h,.l TLog O,.l TLog (sR O)]).sel=some (.stop 0 [.n r.e,.n r.c,.n r.a,.n r.b,.n r.d,.l TB r.t,.n r.u,.b r.h,.l TLog O])∧q=O.length)∨
  (∃(q':Nat) (r':Rc) (b':Int),t4q O q' r'∧SnOk O q' b'∧q≤q'∧(q'=O.length∨(b'=0∧b≠0))∧(t4o [.k 0,.n n,.n b,.n r.e,.n r.c,.n r.a,.n r.b,.n r.d,.l TB r.t,.n r.u,.b r.h,.l TLog O,.l TLog (sR O)]).sel=some (.go [.k 0,.n (IntKind.wrap .i64 (n+(1:Int))),.n b',.n r'.e,.n r'.c,.n r'.a,.n r'.b,.n r'.d,.l TB r'.t,.n r'.u,.b r'.h,.l TLog O,.l TLog (sR O)])):=by
 have hI:=hb.inv hO
 have hkk:kO O=O.length-min 8 O.length:=rfl
 have hq:=hr.1
 have b0:=hI.b0;have bl:=hI.bl;have l8:=hI.l8
 rcases sendO hO hb with⟨hd,e⟩|⟨hz,hp,e⟩|⟨s,hs,hp,e⟩
 ·refine .inl ⟨w4b h0 b0 bl l8 h2 e rfl,?_⟩
  rcases hd with hd|hd
  ·omega
  ·by_cases hO0:O.length=0
   ·omega
   ·have:=hb.bq (by omega);omega
 ·obtain⟨ok,r',q',e1,g1,g2,g3⟩:=rhW hO hr (p:=O.length-1) (by omega)
  have hq':=g1.1
  have hqe:q'=O.length:=by omega
  obtain⟨b',e2,g4,_⟩:=heB hO g1.1 (u4f g2 hb) (m:=aM (xE (gO O (q'-1))) (xC (gO O (q'-1)))) (.inr ⟨q'-1,by omega,rfl⟩)
  exact .inr ⟨q',r',b',g1,g4,g2,.inl hqe,w4f h0 b0 bl l8 h2 e rfl e1 rfl e2 rfl⟩
 ·obtain⟨a,ok,r',q',e1,g1,g2,g3⟩:=rhP hO hr hs (p:=O.length-1) (by omega)
  have hq':=g1.1
  by_cases hbz:b=0
  ·exfalso
   have hll:=v4c O
   subst hbz
   have e5:=p4h b0 bl (by omega) (show¬((sR O).length:Int)=0 by omega) (show¬(0:Int)=((sR O).length:Int) by omega) rfl
   rw[e]at e5
   exact absurd (congrArg (fun o:Option (Nat×List Dat)=>o.map Prod.fst) e5) (by simp)
  ·rcases g3 with rfl|⟨rfl,g3⟩
   ·obtain⟨b',e2,g4,g5⟩:=heB hO g1.1 (u4f g2 hb) (m:=fM) (.inl rfl)
    exact .inr ⟨q',r',b',g1,g4,g2,.inr ⟨g5 rfl,hbz⟩,t4v h0 b0 bl l8 h2 e rfl e1 rfl e2 rfl⟩
   ·obtain⟨b',e2,g4,_⟩:=heB hO g1.1 (u4f g2 hb) (m:=aM (xE (gO O (q'-1))) (xC (gO O (q'-1)))) (.inr ⟨q'-1,by omega,rfl⟩)
    exact .inr ⟨q',r',b',g1,g4,g2,.inl (by omega),t4v h0 b0 bl l8 h2 e rfl e1 rfl e2 rfl⟩
theorem l4f58 {O:LG}(hO:Off O){q:Nat}{r:Rc}(hr:t4q O q r){b:Int}(hb:SnOk O q b): ∃r',t4q O O.length r'∧t4s [.k 0,.n (0:Int),.n b,.n r.e,.n r.c,.n r.a,.n r.b,.n r.d,.l TB r.t,.n r.u,.b r.h,.l TLog O,.l TLog (sR O)]=some (0,[.n r'.e,.n r'.c,.n r'.a,.n r'.b,.n r'.d,.l TB r'.t,.n r'.u,.b r'.h,.l TLog O]):=by
 rw[w4c]
 obtain⟨f,hf⟩: ∃f,FU=f+1+1+1:=⟨FU-3,by have:=b1w (m:=100) (by omega);omega⟩
 rw[hf]
 have stop: ∀{q:Nat} {r:Rc} {b:Int},SnOk O q b→(t4o [.k 0,.n (2:Int),.n b,.n r.e,.n r.c,.n r.a,.n r.b,.n r.d,.l TB r.t,.n r.u,.b r.h,.l TLog O,.l TLog (sR O)]).sel=some (.stop 0 [.n r.e,.n r.c,.n r.a,.n r.b,.n r.d,.l TB r.t,.n r.u,.b r.h,.l TLog O]):=fun hb=>by
  have hI:=hb.inv hO
  exact v4x (by decide) hI.b0 hI.bl hI.l8 (by decide)
 rcases round hO hr hb (n:=0) (by decide) (by decide)with⟨e,hq⟩|⟨q1,r1,b1,g1,g2,g3,g4,e⟩
 ·subst hq;exact⟨r,hr,c0a e⟩
 ·have e':(t4o [.k 0,.n (0:Int),.n b,.n r.e,.n r.c,.n r.a,.n r.b,.n r.d,.l TB r.t,.n r.u,.b r.h,.l TLog O,.l TLog (sR O)]).sel=some (.go [.k 0,.n (1:Int),.n b1,.n r1.e,.n r1.c,.n r1.a,.n r1.b,.n r1.d,.l TB r1.t,.n r1.u,.b r1.h,.l TLog O,.l TLog (sR O)]):=e
  rcases round hO g1 g2 (n:=1) (by decide) (by decide)with⟨e2,hq⟩|⟨q2,r2,b2,k1,k2,k3,k4,e2⟩
  ·subst hq;exact⟨r1,g1,(v0e e').trans (c0a e2)⟩
  ·have e2':(t4o [.k 0,.n (1:Int),.n b1,.n r1.e,.n r1.c,.n r1.a,.n r1.b,.n r1.d,.l TB r1.t,.n r1.u,.b r1.h,.l TLog O,.l TLog (sR O)]).sel=some (.go [.k 0,.n (2:Int),.n b2,.n r2.e,.n r2.c,.n r2.a,.n r2.b,.n r2.d,.l TB r2.t,.n r2.u,.b r2.h,.l TLog O,.l TLog (sR O)]):=e2
   have hq2:q2=O.length:=by
    have:=k1.1
    rcases k4 with k4|⟨_,k4⟩
    ·exact k4
    ·rcases g4 with g4|⟨g4,_⟩
     ·omega
     ·exact(k4 g4).elim
   subst hq2
   exact⟨r2,k1,(v0e e').trans ((v0e e2').trans (c0a (stop k2)))⟩
theorem eqB_rev (t:TD):((recO t).e==xE t&&((recO t).c==xC t&&((recO t).a==xA t&&((recO t).b==xB t&&((recO t).d==xD t&&(eqL TB (recO t).t (xT t)&&((recO t).u==xU t&&true))))&&true)))=true:=w4x t
theorem W4f_all (L:LS)(hw:wfD (.sl t4j) L=true):(v4d [.l t4j L]).sel=some true:=by
 have e20:u3k []=some (0,[.b true]):=rfl
 by_cases hl:(L.length:Int)>300
 ·exact w4v hl e20
 have hr0:t4q [] 0 ⟨0,0,0,0,0,z64,0,false⟩:=⟨Nat.le_refl _,.inl ⟨rfl,rfl⟩⟩
 have hS0:FSt 0 [] 0 0 (-1) ⟨0,0,0,0,0,z64,0,false⟩ [] [] ⟨1,0,0,0,0,z64,0,false⟩:=
  ⟨⟨fun p hp=>absurd hp (Nat.not_lt_zero p),fun i j _ hj=>absurd hj (Nat.not_lt_zero j)⟩,Nat.le_refl _,hr0,⟨by decide,by decide,fun h=>absurd h (by decide)⟩,by decide,by decide,
   fun m hm=>(List.not_mem_nil hm).elim,by decide,fun m hm=>(List.not_mem_nil hm).elim,by decide,⟨by decide,by decide⟩,⟨by decide,by decide⟩,fun p hp=>absurd hp (Nat.not_lt_zero p)⟩
 obtain⟨O,q,b,h,r,th,bk,x,hS,e1⟩:=l4f10 L (by omega) (fun s hs=>wfAll hw s hs) FU 0 [] 0 0 (-1) _ [] [] _ hS0 (Nat.zero_le _) (b1w (by omega))
 rw[←v4y]at e1
 obtain⟨r',hr',e2⟩:=l4f58 hS.off hS.rec' hS.sn
 rcases hr'.2 with⟨a1,a2⟩|⟨a1,a2⟩
 ·exact w4q hl e1 e2 (by rw[a2,df (show¬((O.length:Int)>0) by omega)];rfl) a2 e20
 ·have hol:=hS.ol
  have wl:IntKind.wrap .i64 ((O.length:Int)-(1:Int))=(O.length:Int)-1:=w64s (by omega) (by omega)
  obtain⟨j,hj⟩: ∃j,j=Int.toNat (IntKind.wrap .i64 ((O.length:Int)-(1:Int))):=⟨_,rfl⟩
  have jl:O.length-1=j:=by rw[hj,wl];omega
  rw[jl]at a2
  subst a2
  subst hj
  exact w4t hl e1 e2 (by rw[dt (show((O.length:Int)>0) by omega)];rfl) rfl (by rw[wl];exact h1s (by omega) (by omega)) (eqB_rev _) e20
end Go.Proofs.Ytmgeoaenkmoaiaa.Vx
end
