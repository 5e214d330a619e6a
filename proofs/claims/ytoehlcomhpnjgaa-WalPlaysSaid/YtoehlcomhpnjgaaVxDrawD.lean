import Derived.Test.YtoehlcomhpnjgaaVxDrawC
noncomputable section
namespace Go.Proofs.Ytoehlcomhpnjgaa.Vx
open Go Go.RowKit
set_option linter.unusedVariables false
variable {ds:List Deferred}
section
variable {P:Program} {ops:Array Oper}
def SX (s0:SW)(L:List St)(X:Nat→Bool)(N:Nat):SW:=⟨(List.range N).map fun b=>(h0t s0 L X b).getD .gone,[]⟩
theorem p1v (s0:SW)(L:List St)(X:Nat→Bool)(N:Nat):(SX s0 L X N).len=N:=by simp[SX,SW.len]
theorem p2l {s0:SW}{L:List St}{X:Nat→Bool}{N b:Nat}(h:b<N):(SX s0 L X N).blk b=some ((h0t s0 L X b).getD .gone):=by
 simp only[SX,SW.blk,List.getElem?_map,List.getElem?_range h,Option.map_some]
theorem t1b {s0:SW}{L:List St}{X:Nat→Bool}{N b:Nat}{x:Blk}(h:(SX s0 L X N).blk b=some x)(hx:x≠.gone):h0t s0 L X b=some x:=by
 have hb:b<N:=by have:=(List.getElem?_eq_some_iff.1 h).1;simpa [SX]using this
 rw[p2l hb]at h
 cases e:h0t s0 L X b with
 |none=>rw[e]at h;simp only[Option.getD_none,Option.some.injEq]at h;exact absurd h.symm hx
 |some y=>rw[e]at h;simpa using h
theorem SX_of {s0:SW}{L:List St}{X:Nat→Bool}{N b:Nat}{x:Blk}(hb:b<N)(h:h0t s0 L X b=some x):(SX s0 L X N).blk b=some x:=by rw[p2l hb,h];rfl
structure Inv (r0:RM)(σ0:Snap)(s0:SW)(w0:World)(t0:List SV)(L:List St)(sN:SW)(X:Nat→Bool)(t':Array Value)(w:World)(r:RM)(σ:Snap):Prop where
 le:r0.le r
 ls:σ0.le σ
 rel:Rel r σ (SX s0 L X sN.len) w
 fr:Frame s0.len sN.log r0 r σ0 σ w0 w
 sz:t0.length=t'.size
 tm: ∀d v v',d<t0.length→b2z t0 L X d=some v→t'[d]? =some v'→VRel r σ v v'∧ ∀b,Names v b→b<limT s0 L X d
 cl: ∀b es j m,h0t s0 L X b=some (.cells es)→r.cel b=some (j,m)→ ∀x∈es,∀c,Names x c→c<limB s0 L X b
 clv: ∀b g es x,h0t s0 L X b=some (.vec g es)→r.arr b g=some x→ ∀y∈es,∀c,Names y c→c<limB s0 L X b
 clf: ∀b kt ks es j,h0t s0 L X b=some (.fmap kt ks es)→r.mp b=some j→ ∀y∈es,∀c,Names y c→c<limB s0 L X b
 un: ∀b,s0.len≤b→(∀e∈L,X e.i=true→ ¬(e.n≤b∧b<e.m))→r.cel b=none∧(∀g,r.arr b g=none)∧r.mp b=none
theorem Chain.after {t0:List SV}{s0:SW}{M:List St}: ∀{A:List St} {t:List SV} {s:SW},Chain P ops t0 s0 (A++M) t s→(∀st∈A++M,st.n≤st.m)→ ∀a∈A,∀e∈M,e.m≤a.n
 |[],t,s,h,hf=>by simp
 |x::A,t,s,h,hf=>by
  intro a ha e he
  cases h with
  |cons _ s1 h k=>
   rcases List.mem_cons.1 ha with rfl|ha
   ·have:=(h.lens fun st hs=>hf st (List.mem_cons_of_mem _ hs)).2.2.1 e (List.mem_append_right _ he)
    rw[k.n];exact this
   ·exact Chain.after h (fun st hs=>hf st (List.mem_cons_of_mem _ hs)) a ha e he
theorem p2o {ps:List Nat}{r0:RM}{σ0:Snap}{s0 sN:SW}{w0:World}{t0 tN:List SV}{A B:List St}{st:St}(hch:Chain P ops t0 s0 (A++st::B) tN sN)(hp:k0t ps (A++st::B)=true)
  (hA: ∀a∈A,a.i≠st.i) (hB: ∀e∈B,e.i≠st.i) {X X':Nat→Bool} (hX0:X st.i=false) (hX1:X' st.i=true) (hX2: ∀i,i≠st.i→X' i=X i)
  (hdown: ∀e∈A++st::B,(X e.i=true∨e.i=st.i)→ ∀j,Nat.testBit (ps.getD e.i 0) j=true→X j=true) {t':Array Value} {w:World} {r:RM} {σ:Snap} (h:Inv r0 σ0 s0 w0 t0 (A++st::B) sN X t' w r σ)
  {K:Act→World→Prop} {Q:Exit→Act→World→Prop} (hK: ∀t'' w' r' σ',Inv r0 σ0 s0 w0 t0 (A++st::B) sN X' t'' w' r' σ'→K ⟨t'',ds⟩ w'):wpOp P ops Q st.i K ⟨t',ds⟩ w:=by
 obtain⟨ts,ss,s1,hcB,k⟩:=hch.split
 have hfine:=h0g hp
 have hf: ∀e∈A++st::B,e.n≤e.m:=fun e he=>(hfine e he).1
 obtain⟨oA,oB,_⟩:=r0w hp
 have hst:st∈A++st::B:=by simp
 have memA: ∀{a},a∈A→a∈A++st::B:=fun h=>List.mem_append_left _ h
 have memB: ∀{a},a∈B→a∈A++st::B:=fun h=>List.mem_append_right _ (List.mem_cons_of_mem _ h)
 obtain⟨b1,b2,b3,b4,b5,b6⟩:=hcB.lens fun e he=>hf e (memB he)
 obtain⟨c1,c2,c3,c4,c5,c6⟩:=hch.lens hf
 have hm:=j1d (s1:=s1) (by rw[←k.n,←k.m];exact hf st hst)
 rw[←k.mg]at hm
 have kn:=k.n;have km:=k.m;have kW:=k.W
 have stm:=c3 st hst
 have nm:=hf st hst
 have FA: ∀a∈A,X a.i=true→Apart st a:=fun a ha hx=>f1l (oA a ha) (by
  cases e:Nat.testBit (ps.getD a.i 0) st.i with
  |false=>rfl
  |true=>have:=hdown a (memA ha) (.inl hx) _ e;rw[hX0]at this;cases this)
 have FB: ∀e∈B,X e.i=true∨Apart e st:=fun e he=>by
  cases q:Nat.testBit (ps.getD st.i 0) e.i with
  |true=>exact .inl (hdown st hst (.inr rfl) _ q)
  |false=>exact .inr (f1l (oB e he) q)
 have view: ∀{α:Type} {hit:St→Bool} {f:St→α} {a0:α},(∀a∈A,X a.i=true→Apart st a→hit a=false)→(∀e∈B,Apart e st→hit e=false)→b0v hit f a0 (A++st::B) X=b0v hit f a0 B allX:=by
  intro α hit f a0 q1 q2
  rw[v0k fun a ha hh=> ?_]
  ·simp only[b0v,hX0,Bool.false_and,cond_false]
   refine k0w fun e he hh=> ?_
   rcases FB e he with u|u
   ·rw[u];rfl
   ·rw[q2 e he u]at hh;cases hh
  ·cases e:X a.i with
   |false=>rfl
   |true=>rw[q1 a ha e (FA a ha e)]at hh;cases hh
 have viewB: ∀{α:Type} {f:St→α} {a0:α} {b:Nat},Nat.testBit st.F b=true→b0v (St.wr · b) f a0 (A++st::B) X=b0v (St.wr · b) f a0 B allX:=by
  intro α f a0 b hb
  refine view (fun a _ _ ap=> ?_) fun e _ ap=> ?_
  ·cases q:a.wr b with
   |false=>rfl
   |true=>have:=(ap.w1 b q).1;rw[hb]at this;cases this
  ·cases q:e.wr b with
   |false=>rfl
   |true=>have:=ap.w2 b q;rw[hb]at this;cases this
 have viewT: ∀{α:Type} {f:St→α} {a0:α} {d:Nat},Nat.testBit st.rd d=true→b0v (hitT d) f a0 (A++st::B) X=b0v (hitT d) f a0 B allX:=by
  intro α f a0 d hd
  refine view (fun a _ _ ap=> ?_) fun e _ ap=> ?_
  ·cases q:hitT d a with
   |false=>rfl
   |true=>have:=ap.t2 d (of_decide_eq_true q);rw[hd]at this;cases this
  ·cases q:hitT d e with
   |false=>rfl
   |true=>have:=(ap.t1 d (of_decide_eq_true q)).1;rw[hd]at this;cases this
 obtain⟨txB,txT⟩:=hcB.text fun e he=>hf e (memB he)
 have seenB: ∀{b x},(c0v st.F ss).blk b=some x→x≠.gone→Nat.testBit st.F b=true∧ss.blk b=some x:=by
  intro b x e hx
  rw[o2e]at e
  cases q:ss.blk b with
  |none=>rw[q]at e;cases e
  |some y=>
   rw[q]at e
   cases u:Nat.testBit st.F b with
   |true=>rw[u]at e;exact⟨rfl,by simpa using e⟩
   |false=>rw[u]at e;simp only[Option.map_some,cond_false,Option.some.injEq]at e;exact absurd e.symm hx
 have fl:(c0v st.F ss).len=ss.len:=i2k _ _
 have rel0:Rel (r.upto ss.len) σ (c0v st.F ss) w:=by
  have:=h.rel.less (s':=c0v st.F ss) (fun b x e hx=> ?_) (fun b es j m e hr x hx c hc=> ?_) (fun b g es x e hr y hy c hc=> ?_) (fun b kt ks es j e hr y hy c hc=> ?_)
  ·rw[fl]at this;exact this
  ·obtain⟨u1,u2⟩:=seenB e hx
   have:b<ss.len:=(List.getElem?_eq_some_iff.1 u2).1
   refine SX_of (by omega) ?_
   show b0v _ _ _ _ _=_
   rw[viewB u1,←u2];exact(txB b).symm
  ·obtain⟨u1,u2⟩:=seenB e (by simp)
   have hc1:h0t s0 (A++st::B) X b=some (.cells es):=by
    show b0v _ _ _ _ _=_
    rw[viewB u1,←u2];exact(txB b).symm
   have:=h.cl b es j m hc1 hr x hx c hc
   have h2:limB s0 (A++st::B) X b≤ss.len:=by
    show b0v _ _ _ _ _≤_
    rw[viewB u1];exact t0n b2 b3
   rw[fl];omega
  ·obtain⟨u1,u2⟩:=seenB e (by simp)
   have hc1:h0t s0 (A++st::B) X b=some (.vec g es):=by
    show b0v _ _ _ _ _=_
    rw[viewB u1,←u2];exact(txB b).symm
   have:=h.clv b g es x hc1 hr y hy c hc
   have h2:limB s0 (A++st::B) X b≤ss.len:=by
    show b0v _ _ _ _ _≤_
    rw[viewB u1];exact t0n b2 b3
   rw[fl];omega
  ·obtain⟨u1,u2⟩:=seenB e (by simp)
   have hc1:h0t s0 (A++st::B) X b=some (.fmap kt ks es):=by
    show b0v _ _ _ _ _=_
    rw[viewB u1,←u2];exact(txB b).symm
   have:=h.clf b kt ks es j hc1 hr y hy c hc
   have h2:limB s0 (A++st::B) X b≤ss.len:=by
    show b0v _ _ _ _ _≤_
    rw[viewB u1];exact t0n b2 b3
   rw[fl];omega
 have lrel0:LRel (r.upto ss.len) σ (b0m st.rd 0 ts) t':=by
  refine⟨by rw[t0i,b1,h.sz],fun d v v' hv hv'=> ?_⟩
  rw[w0b,Nat.zero_add]at hv
  cases q:ts[d]? with
  |none=>rw[q]at hv;cases hv
  |some y=>
   rw[q]at hv
   simp only[Option.map_some,Option.some.injEq]at hv
   cases u:Nat.testBit st.rd d with
   |false=>rw[u]at hv;simp only[cond_false]at hv;subst hv;exact .dead _
   |true=>
    rw[u]at hv
    simp only[cond_true]at hv
    subst hv
    have hd:d<t0.length:=by rw[←b1];exact(List.getElem?_eq_some_iff.1 q).1
    have hc1:b2z t0 (A++st::B) X d=some y:=by
     show b0v _ _ _ _ _=_
     rw[viewT u,←q];exact(txT d hd).symm
    obtain⟨p1,p2⟩:=h.tm d y v' hd hc1 hv'
    refine p1.same fun b hb=>RM.upto_eq ?_
    have h2:limT s0 (A++st::B) X d≤ss.len:=by
     show b0v _ _ _ _ _≤_
     rw[viewT u];exact t0n b2 b3
    have:=p2 b hb;omega
 refine k.run ds _ σ w t' K Q rel0 lrel0 fun v' w' haf=> ?_
 obtain⟨r1,σ1,a1,a2,a3,a4,a5,a6,a7⟩:=haf
 rw[fl]at a4
 have after: ∀{α:Type} {hit:St→Bool} {f:St→α} {a0:α},(∀a∈A,Apart st a→hit st=true→hit a=false)→
   (hit st=true→b0v hit f a0 (A++st::B) X'=f st)∧(hit st=false→b0v hit f a0 (A++st::B) X'=b0v hit f a0 (A++st::B) X):=by
  intro α hit f a0 q
  refine⟨fun e=> ?_,fun e=>k0w fun x hx hh=> ?_⟩
  ·rw[v0k fun a ha hh=> ?_]
   ·simp only[b0v,hX1,e,Bool.true_and,cond_true]
   ·rw[hX2 _ (hA a ha)]
    cases u:X a.i with
    |false=>rfl
    |true=>rw[q a ha (FA a ha u) e]at hh;cases hh
  ·refine hX2 _ fun u=> ?_
   rcases List.mem_append.1 hx with hx|hx
   ·exact hA x hx u
   ·rcases List.mem_cons.1 hx with rfl|hx
    ·rw[e]at hh;cases hh
    ·exact hB x hx u
 have afterB: ∀{α:Type} {f:St→α} {a0:α} (b:Nat),(st.wr b=true→b0v (St.wr · b) f a0 (A++st::B) X'=f st)∧(st.wr b=false→b0v (St.wr · b) f a0 (A++st::B) X'=b0v (St.wr · b) f a0 (A++st::B) X):=by
  intro α f a0 b
  refine after (hit:=(St.wr · b)) fun a _ ap e=> ?_
  cases q:a.wr b with
  |false=>rfl
  |true=>have:=(ap.w1 b q).2;rw[e]at this;cases this
 have afterT: ∀{α:Type} {f:St→α} {a0:α} (d:Nat),(hitT d st=true→b0v (hitT d) f a0 (A++st::B) X'=f st)∧(hitT d st=false→b0v (hitT d) f a0 (A++st::B) X'=b0v (hitT d) f a0 (A++st::B) X):=by
  intro α f a0 d
  refine after (hit:=hitT d) fun a _ ap e=> ?_
  cases q:hitT d a with
  |false=>rfl
  |true=>exact absurd (of_decide_eq_true q) (ap.t1 d (of_decide_eq_true e)).2
 have hwr: ∀b,st.wr b=true↔b∈s1.log∨(ss.len≤b∧b<s1.len):=fun b=>by rw[St.wr_iff,kW,b0h,kn,km]
 have newB: ∀{b},st.wr b=true→st.s.blk b=s1.blk b:=fun{b} e=>by
  rcases(hwr b).1 e with u|u
  ·exact hm.new b (.inl ((b0h _ _).2 u))
  ·exact hm.new b (.inr u.1)
 have logN: ∀b,b∈s1.log→b∈sN.log:=fun b hb=>c6 st hst b (by rw[kW];exact(b0h _ _).2 hb)
 have mx:Mixed r r1 (r.mix r1 st.wr) σ σ1 (SX s0 (A++st::B) X sN.len) (SX s0 (A++st::B) X' sN.len) w w':=by
  refine h.rel.mix a3 a4 a2 a1 (f:=st.wr) hwr (fun b q1 q2=>h.un b (by omega) fun e he hx hh=> ?_) (fun b hb=> ?_) (fun b x e hs hx=> ?_) (fun b x e hs hx=> ?_) (by rw[p1v,p1v];exact Nat.le_refl _) (by rw[p1v];omega) (by omega)
  ·rcases List.mem_append.1 he with he|he
   ·have:=hch.after hf e he st (by simp);omega
   ·rcases List.mem_cons.1 he with rfl|he
    ·rw[hX0]at hx;cases hx
    ·have:=b3 e he;omega
  ·have:=((hfine st hst).2 b (by rw[kW];exact(b0h _ _).2 hb)).1
   omega
  ·have:=t1b hs hx
   rw[←newB e,←this]
   exact((afterB (f:=fun x=>x.s.blk b) (a0:=s0.blk b) b).1 e).symm
  ·have h1:=t1b hs hx
   have hb:b<sN.len:=by have:=(List.getElem?_eq_some_iff.1 hs).1;simpa [SX]using this
   refine SX_of hb ?_
   rw[←h1]
   exact((afterB b).2 e).symm
 have eqt: ∀{b},st.wr b=true→r1.eqAt (r.mix r1 st.wr) b:=fun e=>RM.mix_t e
 have eqf: ∀{b},st.wr b=false→r.eqAt (r.mix r1 st.wr) b:=fun e=>RM.mix_f e
 rw[k1r]
 refine hK _ w' (r.mix r1 st.wr) σ1 ⟨RM.le_trans h.le mx.le,Snap.le_trans h.ls a2,mx.rel,?_,?_,?_,?_,?_,?_,?_⟩
 ·refine h.fr.trans (n':=s0.len) (log':=sN.log) ⟨a4.os,a4.tape,a4.output,a4.size,fun b j hj=> ?_,fun j hj hn=> ?_,fun b hb hn=> ?_,fun j c hj=> ?_⟩ (fun _ h=>h) (Nat.le_refl _)
  ·cases e:st.wr b with
   |false=>exact .inl (((eqf e).at j).1 hj)
   |true=>exact(a4.fresh b j (((eqt e).at j).1 hj)).imp (fun q=>(RM.upto_at q).1) id
  ·exact a4.keep j hj fun b hb hat=>hn b (logN b hb) (RM.upto_at hat).1
  ·have e:st.wr b=false:=by
    cases e:st.wr b with
    |false=>rfl
    |true=>
     rcases(hwr b).1 e with u|u
     ·exact absurd (logN b u) hn
     ·omega
   exact eqf e
  ·rcases a4.stay j c hj with q|q|⟨b,q1,q2⟩
   ·exact .inl q
   ·exact .inr (.inl q)
   ·exact .inr (.inr ⟨b,logN b q1,(RM.upto_at q2).1⟩)
 ·rw[h.sz];cases st.d<;>simp[Act.put]
 ·intro d v u hd hv hu
  cases e:hitT d st with
  |true=>
   have hv:some st.v=some v:=((afterT d).1 e).symm.trans hv
   cases hv
   have e':=of_decide_eq_true e
   rw[e']at hu
   simp only[Act.put,Array.getElem?_setIfInBounds]at hu
   simp only[if_true]at hu
   rw[if_pos (by rw[←h.sz];exact hd)]at hu
   cases hu
   refine⟨a5.mono mx.le1 (Snap.le_refl _),fun b hb=> ?_⟩
   have h1:=a3.has_lt (a5.has b hb)
   have h2:limT s0 (A++st::B) X' d=st.m:=(afterT d).1 e
   omega
  |false=>
   have hv:b2z t0 (A++st::B) X d=some v:=((afterT d).2 e).symm.trans hv
   have hu:t'[d]? =some u:=by
    cases hsd:st.d with
    |none=>rw[hsd]at hu;exact hu
    |some d'=>
     rw[hsd]at hu
     simp only[Act.put,Array.getElem?_setIfInBounds]at hu
     rw[if_neg (fun q=>by subst q;simp[hitT,hsd]at e)]at hu
     exact hu
   obtain⟨p1,p2⟩:=h.tm d v u hd hv hu
   refine⟨p1.mono mx.le a2,fun b hb=> ?_⟩
   have h2:limT s0 (A++st::B) X' d=limT s0 (A++st::B) X d:=(afterT d).2 e
   rw[h2];exact p2 b hb
 ·intro b es j m hb hr x hx c hc
  cases e:st.wr b with
  |true=>
   have hb:st.s.blk b=some (.cells es):=((afterB b).1 e).symm.trans hb
   rw[newB e]at hb
   rw[(eqt e).1]at hr
   obtain⟨_,_,_,_,_,_,q⟩:=a3.cel b es j m hb hr
   have h1:=a3.has_lt (q.has x hx c hc)
   have h2:limB s0 (A++st::B) X' b=st.m:=(afterB b).1 e
   omega
  |false=>
   have hb:h0t s0 (A++st::B) X b=some (.cells es):=((afterB b).2 e).symm.trans hb
   rw[(eqf e).1]at hr
   have h2:limB s0 (A++st::B) X' b=limB s0 (A++st::B) X b:=(afterB b).2 e
   rw[h2];exact h.cl b es j m hb hr x hx c hc
 ·intro b g es x hb hr y hy c hc
  cases e:st.wr b with
  |true=>
   have hb:st.s.blk b=some (.vec g es):=((afterB b).1 e).symm.trans hb
   rw[newB e]at hb
   rw[(eqt e).2.1]at hr
   have q:=a3.vec b g es x hb hr
   have h1:=a3.has_lt (q.names y hy c hc)
   have h2:limB s0 (A++st::B) X' b=st.m:=(afterB b).1 e
   omega
  |false=>
   have hb:h0t s0 (A++st::B) X b=some (.vec g es):=((afterB b).2 e).symm.trans hb
   rw[(eqf e).2.1]at hr
   have h2:limB s0 (A++st::B) X' b=limB s0 (A++st::B) X b:=(afterB b).2 e
   rw[h2];exact h.clv b g es x hb hr y hy c hc
 ·intro b kt ks es j hb hr y hy c hc
  cases e:st.wr b with
  |true=>
   have hb:st.s.blk b=some (.fmap kt ks es):=((afterB b).1 e).symm.trans hb
   rw[newB e]at hb
   rw[(eqt e).2.2]at hr
   obtain⟨ms,_,q⟩:=a3.fmap b kt ks es j hb hr
   have h1:=a3.has_lt (q.names y hy c hc)
   have h2:limB s0 (A++st::B) X' b=st.m:=(afterB b).1 e
   omega
  |false=>
   have hb:h0t s0 (A++st::B) X b=some (.fmap kt ks es):=((afterB b).2 e).symm.trans hb
   rw[(eqf e).2.2]at hr
   have h2:limB s0 (A++st::B) X' b=limB s0 (A++st::B) X b:=(afterB b).2 e
   rw[h2];exact h.clf b kt ks es j hb hr y hy c hc
 ·intro b hb hn
  have hX: ∀e∈A++st::B,X e.i=true→ ¬(e.n≤b∧b<e.m):=fun e he hx=>hn e he (by
   by_cases q:e.i=st.i
   ·rw[q];exact hX1
   ·rw[hX2 _ q];exact hx)
  have e:st.wr b=false:=by
   cases e:st.wr b with
   |false=>rfl
   |true=>
    exfalso
    have hns:=hn st hst hX1
    rcases St.wr_iff.1 e with u|u
    ·obtain⟨v1,v2⟩:=(hfine st hst).2 b u
     rcases v2 with v2|v2
     ·obtain⟨x,x1,x2⟩:=b4 b hb (by omega)
      rcases FB x x1 with y|y
      ·exact hX x (memB x1) y x2
      ·have:=y.w2 b (St.wr_iff.2 (.inr x2));rw[v2]at this;cases this
     ·exact hns v2
    ·exact hns u
  have:=h.un b hb hX
  obtain⟨g1,g2,g3⟩:=eqf e
  exact⟨g1.trans this.1,fun g=>(g2 g).trans (this.2.1 g),g3.trans this.2.2⟩
end
end Go.Proofs.Ytoehlcomhpnjgaa.Vx
