import Derived.Test.YtoehlcomhpnjgaaVxDrawD
noncomputable section
namespace Go.Proofs.Ytoehlcomhpnjgaa.Vx
open Go Go.RowKit
set_option linter.unusedVariables false
variable {ds:List Deferred}
section
variable {P:Program} {ops:Array Oper}
theorem Rel.pad {r:RM}{σ:Snap}{S s':SW}{w:World}(h:Rel r σ S w)(hs: ∀b x,s'.blk b=some x→x≠.gone→S.blk b=some x)(hl:S.len≤s'.len):Rel r σ s' w:=by
 refine⟨h.snap,fun b x k=>Nat.lt_of_lt_of_le (h.dcel b x k) hl,fun b g x k=>Nat.lt_of_lt_of_le (h.darr b g x k) hl,fun b x k=>Nat.lt_of_lt_of_le (h.dmp b x k) hl,h.inb,?_,?_,?_,h.uniq,?_,?_,?_,?_,?_,?_,?_⟩
 ·exact fun b es j m e k=>h.cel b es j m (hs b _ e (by simp)) k
 ·exact fun b t g l x e k=>h.arr b t g l x (hs b _ e (by simp)) k
 ·exact fun b t g l x e k=>h.frz b t g l x (hs b _ e (by simp)) k
 ·intro b j k
  obtain⟨y,e,hy⟩:=RM.live_some k
  refine h.free b j ?_
  rw[hs b y e hy,←e];exact k
 ·exact fun b t g l g' e hg=>h.gen b t g l g' (hs b _ e (by simp)) hg
 ·exact fun b t p j e hj=>h.itr b t p j (hs b _ e (by simp)) hj
 ·exact fun b g es x e k=>h.vec b g es x (hs b _ e (by simp)) k
 ·exact fun b g es g' e hg=>h.vgen b g es g' (hs b _ e (by simp)) hg
 ·exact fun b kt vt l j e hj=>h.map b kt vt l j (hs b _ e (by simp)) hj
 ·exact fun b kt ks es j e hj=>h.fmap b kt ks es j (hs b _ e (by simp)) hj
theorem c0u {α:Type}{hit:St→Bool}{f:St→α}{a0:α}{X:Nat→Bool}: ∀{L:List St},(∀e∈L,X e.i=false)→b0v hit f a0 L X=a0
 |[],_=>rfl
 |e::L,h=>by simp only[b0v,h e List.mem_cons_self,Bool.false_and,cond_false];exact c0u fun e he=>h e (List.mem_cons_of_mem _ he)
theorem Rel.none_ge {r:RM}{σ:Snap}{s:SW}{w:World}(h:Rel r σ s w){b:Nat}(hb:s.len≤b):r.cel b=none∧(∀g,r.arr b g=none)∧r.mp b=none:=by
 refine⟨?_,fun g=> ?_,?_⟩
 ·cases e:r.cel b with
  |none=>rfl
  |some x=>have:=h.dcel b x e;omega
 ·cases e:r.arr b g with
  |none=>rfl
  |some x=>have:=h.darr b g x e;omega
 ·cases e:r.mp b with
  |none=>rfl
  |some x=>have:=h.dmp b x e;omega
theorem Inv.start {r0:RM}{σ0:Snap}{s0 sN:SW}{w0:World}{t0:List SV}{t':Array Value}{L:List St}{X:Nat→Bool}(h:Rel r0 σ0 s0 w0)(ht:LRel r0 σ0 t0 t')(hX: ∀e∈L,X e.i=false)(hl:s0.len≤sN.len):
  Inv r0 σ0 s0 w0 t0 L sN X t' {w0 with drawn:=w0.drawn+1} r0 σ0:=by
 refine⟨RM.le_refl _,Snap.le_refl _,Rel.drew (h.pad (fun b x e hx=> ?_) (by rw[p1v];exact hl)),Frame.drew ..,ht.size,fun d v v' hd e hv=> ?_,fun b es j m e hr x hx c hc=> ?_,fun b g es x e hr y hy c hc=> ?_,fun b kt ks es j e hr y hy c hc=> ?_,fun b hb _=>h.none_ge hb⟩
 ·have:=t1b e hx
  rwa [show h0t s0 L X b=s0.blk b from c0u hX]at this
 ·rw[show b2z t0 L X d=t0[d]? from c0u hX]at e
  have:=ht.at_ d v v' e hv
  refine⟨this,fun b hb=> ?_⟩
  rw[show limT s0 L X d=s0.len from c0u hX]
  exact h.has_lt (this.has b hb)
 ·rw[show h0t s0 L X b=s0.blk b from c0u hX]at e
  rw[show limB s0 L X b=s0.len from c0u hX]
  obtain⟨_,_,_,_,_,_,q⟩:=h.cel b es j m e hr
  exact h.has_lt (q.has x hx c hc)
 ·rw[show h0t s0 L X b=s0.blk b from c0u hX]at e
  rw[show limB s0 L X b=s0.len from c0u hX]
  exact h.has_lt ((h.vec b g es x e hr).names y hy c hc)
 ·rw[show h0t s0 L X b=s0.blk b from c0u hX]at e
  rw[show limB s0 L X b=s0.len from c0u hX]
  obtain⟨ms,_,q⟩:=h.fmap b kt ks es j e hr
  exact h.has_lt (q.names y hy c hc)
theorem Inv.done {r0:RM}{σ0:Snap}{s0 sN:SW}{w0 w:World}{t0 tN:List SV}{t':Array Value}{L:List St}{X:Nat→Bool}{r:RM}{σ:Snap}(hch:Chain P ops t0 s0 L tN sN)(hf: ∀e∈L,e.n≤e.m)
  (h:Inv r0 σ0 s0 w0 t0 L sN X t' w r σ) (hX: ∀e∈L,X e.i=true):Then r0 σ0 s0 w0 tN sN t' w:=by
 obtain⟨c1,c2,c3,c4,c5,c6⟩:=hch.lens hf
 obtain⟨x1,x2⟩:=hch.text hf
 have eqX: ∀{α:Type} {hit:St→Bool} {f:St→α} {a0:α},b0v hit f a0 L X=b0v hit f a0 L allX:=k0w fun e he _=>by rw[hX e he];rfl
 refine⟨r,σ,h.le,h.ls,h.rel.log ?_,h.fr,⟨by rw[c1,h.sz],fun d v v' hv hv'=> ?_⟩,c5,c2⟩
 ·apply List.ext_getElem?
  intro b
  rcases Nat.lt_or_ge b sN.len with q|q
  ·have e1:=p2l (s0:=s0) (L:=L) (X:=X) q
   have e2:h0t s0 L X b=sN.blk b:=by rw[x1 b];exact eqX
   rw[e2]at e1
   simp only[SW.blk,SW.len]at*
   rw[e1,List.getElem?_eq_getElem q];rfl
  ·have e1:(SX s0 L X sN.len).len≤b:=by rw[p1v];exact q
   simp only[SW.len]at*
   rw[List.getElem?_eq_none q,List.getElem?_eq_none e1]
 ·have hd:d<t0.length:=by rw[←c1];exact(List.getElem?_eq_some_iff.1 hv).1
  refine(h.tm d v v' hd ?_ hv').1
  rw[←hv,x2 d hd];exact eqX
theorem m1f {listed:Array Bool}{i:Nat}(h:i∈Region.ready .any ops listed):i<ops.size∧listed.getD i true=false∧ ∀o,ops[i]? =some o→ ∀e∈o.after,Region.binds .any e=true→listed.getD e.on false=true:=by
 unfold Region.ready at h
 rw[List.mem_filter,List.mem_range,Bool.and_eq_true]at h
 obtain⟨h1,h2,h3⟩:=h
 refine⟨h1,by simpa using h2,fun o ho e he hb=> ?_⟩
 rw[ho]at h3
 simp only[Option.map_some,Option.getD_some,Array.all_eq_true_iff_forall_mem]at h3
 have:=h3 e he
 rw[hb]at this;simpa using this
theorem j2i {ps:List Nat}(hp:PredOk ops ps)(hps:ps.length=ops.size){listed:Array Bool}(hl:listed.size=ops.size)(h:Region.ready .any ops listed=[]): ∀n i,i≤n→i<ops.size→listed.getD i false=true:=by
 intro n
 induction n using Nat.strongRecOn with
 |ind n ih=>
  intro i hin hi
  cases e:listed.getD i true with
  |true=>
   have:i<listed.size:=by omega
   simp only[Array.getD_eq_getD_getElem?,Array.getElem?_eq_getElem this,Option.getD_some]at*;exact e
  |false=>
   exfalso
   have:i∈Region.ready .any ops listed:=by
    unfold Region.ready
    rw[List.mem_filter,List.mem_range,Bool.and_eq_true]
    refine⟨hi,by rw[e];rfl,?_⟩
    rw[Array.getElem?_eq_getElem hi]
    simp only[Option.map_some,Option.getD_some,Array.all_eq_true_iff_forall_mem]
    intro x hx
    cases hb:Region.binds .any x with
    |false=>rfl
    |true=>
     have hlt:=hp.back i ops[i] x (by omega) (Array.getElem?_eq_getElem hi) hx hb
     have:=ih x.on (by omega) x.on (Nat.le_refl _) (by omega)
     simp[this]
   rw[h]at this;cases this
theorem r0g {l:Array Bool}{i k:Nat}(hi:i<l.size):(l.setIfInBounds i true).getD k false=if k=i then true else l.getD k false:=by
 simp only[Array.getD_eq_getD_getElem?,Array.getElem?_setIfInBounds]
 by_cases e:i=k
 ·subst e;simp[hi]
 ·rw[if_neg e,if_neg (Ne.symm e)]
theorem l2d {l:Array Bool}{i:Nat}(h:l.getD i true=false):l.getD i false=false:=by
 simp only[Array.getD_eq_getD_getElem?]at*
 cases e:l[i]? with
 |none=>rfl
 |some x=>rw[e]at h;simpa using h
theorem r2s {ps:List Nat}(hps:d1x ops=some ps){r0:RM}{σ0:Snap}{s0 sN:SW}{w0:World}{t0 tN:List SV}{L:List St}(hch:Chain P ops t0 s0 L tN sN)(hp:k0t ps L=true)
  (hidx:L.map St.i=(List.range ops.size).reverse) {Q:Exit→Act→World→Prop} (hQ: ∀t' w',Then r0 σ0 s0 w0 tN sN t' w'→Q .normal ⟨t',ds⟩ w'):
  ∀(fuel:Nat) (listed:Array Bool) (t':Array Value) (w:World) (r:RM) (σ:Snap),listed.size=ops.size→Down ops (fun i=>listed.getD i false)→listed.toList.count false≤fuel→
   Inv r0 σ0 s0 w0 t0 L sN (fun i=>listed.getD i false) t' w r σ→wpAny P .any ops Q fuel listed ⟨t',ds⟩ w:=by
 obtain⟨hpo,hpl⟩:=g2d hps
 have hf: ∀e∈L,e.n≤e.m:=fun e he=>(h0g hp e he).1
 have idx: ∀e∈L,e.i<ops.size:=fun e he=>by
  have:e.i∈L.map St.i:=List.mem_map.2 ⟨e,he,rfl⟩
  rw[hidx]at this;simpa using this
 have fin: ∀(listed:Array Bool) (t':Array Value) (w:World) (r:RM) (σ:Snap),listed.size=ops.size→Inv r0 σ0 s0 w0 t0 L sN (fun i=>listed.getD i false) t' w r σ→Region.ready .any ops listed=[]→Q .normal ⟨t',ds⟩ w:=by
  intro listed t' w r σ hl hi hr
  exact hQ t' w (hi.done hch hf fun e he=>j2i hpo hpl hl hr e.i e.i (Nat.le_refl _) (idx e he))
 intro fuel
 induction fuel with
 |zero=>
  intro listed t' w r σ hl hd hc hi
  have hr:Region.ready .any ops listed=[]:=by
   apply List.eq_nil_iff_forall_not_mem.2
   intro i hm
   obtain⟨h1,h2,_⟩:=m1f hm
   have:listed.toList.count false=0:=by omega
   rw[List.count_eq_zero]at this
   apply this
   have hlt:i<listed.size:=by omega
   simp only[Array.getD_eq_getD_getElem?,Array.getElem?_eq_getElem hlt,Option.getD_some]at h2
   rw[←h2]
   simp
  exact⟨hr,fin listed t' w r σ hl hi hr⟩
 |succ fuel ih=>
  intro listed t' w r σ hl hd hc hi
  refine⟨fin listed t' w r σ hl hi,fun i hm=> ?_⟩
  obtain⟨h1,h2,h3⟩:=m1f hm
  have hlt:i<listed.size:=by omega
  have hmem:i∈L.map St.i:=by rw[hidx];simpa using h1
  obtain⟨st,hst,rfl⟩:=List.mem_map.1 hmem
  obtain⟨A,B,rfl⟩:=List.append_of_mem hst
  have hnd:((A++st::B).map St.i).Nodup:=by rw[hidx];exact(List.reverse_perm _).nodup_iff.2 List.nodup_range
  rw[List.map_append,List.map_cons,List.nodup_append]at hnd
  obtain⟨n1,n2,n3⟩:=hnd
  rw[List.nodup_cons]at n2
  have hX0:=l2d h2
  have hdn:Down ops (fun k=>(listed.setIfInBounds st.i true).getD k false):=by
   intro k o e ho hk he hb
   simp only[r0g hlt]at hk⊢
   by_cases q:k=st.i
   ·subst q;rw[h3 o ho e he hb];simp
   ·rw[if_neg q]at hk
    have:=hd k o e ho hk he hb
    simp only at this
    rw[this];simp
  refine p2o hch hp (fun a ha q=> ?_) (fun e he q=> ?_) (X:=fun k=>listed.getD k false) (X':=fun k=>(listed.setIfInBounds st.i true).getD k false) hX0 ?_ ?_ ?_ hi fun t'' w' r' σ' hi'=> ?_
  ·exact n3 a.i (List.mem_map.2 ⟨a,ha,rfl⟩) st.i List.mem_cons_self q
  ·exact n2.1 (List.mem_map.2 ⟨e,he,q⟩)
  ·simp only[r0g hlt,if_true]
  ·intro k hk;simp only[r0g hlt,if_neg hk]
  ·intro e he hx j hj
   have hlen:e.i<ps.length:=by rw[hpl];exact idx e he
   have hps':ps[e.i]? =some (ps.getD e.i 0):=by rw[List.getD_eq_getElem?_getD,List.getElem?_eq_getElem hlen];rfl
   rcases hx with hx|hx
   ·exact hpo.down _ hd e.i _ hps' hx j hj
   ·have hlt':=hpo.lt e.i _ hps' j hj
    have:=hpo.down _ hdn e.i _ hps' (by simp only[r0g hlt,hx,if_true]) j hj
    simp only[r0g hlt]at this
    rwa [if_neg (by omega)]at this
  ·refine ih _ t'' w' r' σ' (by simp[hl]) hdn ?_ hi'
   rw[Array.toList_setIfInBounds,List.count_set (by simpa using hlt)]
   have hb:listed.toList[st.i]'(by simpa using hlt)=false:=by
    simp only[Array.getD_eq_getD_getElem?,Array.getElem?_eq_getElem hlt,Option.getD_some]at h2
    simpa using h2
   rw[hb]
   have hpos:0<listed.toList.count false:=by
    rw[List.count_pos_iff];rw[←hb];exact List.getElem_mem _
   simp only[beq_self_eq_true,if_true]
   simp only[show(true==false)=false from rfl,if_false,Bool.false_eq_true]
   omega
end
end Go.Proofs.Ytoehlcomhpnjgaa.Vx
