import Derived.Test.YtoehlcomhpnjgaaVxEmbed
noncomputable section
namespace Go.Proofs.Ytoehlcomhpnjgaa.Vx
open Go Go.RowKit
set_option linter.unusedVariables false
theorem n1u {b:Nat}: ∀{m:List Nat} {k:Nat},b∈m→ ∃i,s1b b m k=some i
 |[],k,h=>by simp at h
 |x::m,k,h=>by
  unfold s1b
  cases e:Nat.beq x b with
  |true=>exact⟨k,rfl⟩
  |false=>
   rcases List.mem_cons.1 h with rfl|h
   ·simp at e
   ·simp only[cond_false];exact n1u h
theorem idx_mem {b:Nat}{m:List Nat}(h:b∈m): ∃i,idx m b=some i:=n1u h
theorem q1e (m:List Nat)(n3:Nat): ∀(k b q:Nat),q<k→(d1z m n3 b k)[q]? =some (match idx m (b+q)with|some i=>i|none=>n3)
 |0,b,q,h=>by omega
 |k+1,b,0,h=>by simp only[d1z,List.getElem?_cons_zero,Nat.add_zero];rfl
 |k+1,b,q+1,h=>by
  simp only[d1z,List.getElem?_cons_succ]
  rw[q1e m n3 k (b+1) q (by omega),show b+1+q=b+(q+1) by omega]
theorem g0z (m:List Nat)(n3:Nat): ∀(k b:Nat),(d1z m n3 b k).length=k
 |0,b=>rfl
 |k+1,b=>by simp[d1z,g0z m n3 k]
section
variable {P:Program}
def a0v (P:Program)(f:FuncId)(run:a0q):Prop:= ∀(args:List SV) (s:SW) (v:SV) (s1:SW),(run args s).sel=some (v,s1)→s.log=[]→
 ∀(r:RM) (σ:Snap) (w:World) (args':Array Value),Rel r σ s w→LRel r σ args args'→Calls P f args' w fun e w'=> ∃v',e=.returned v'∧y1d s.len r σ s w v s1 v' w'
theorem r2z {r:RM}{σ:Snap}{s s3:SW}{w w':World}{m:List Nat}{v v1:SV}{v':Value}{s1:SW}(hr:Rel r σ s w)(hm:injB s.len m=true)(h:y1d m.length (r.view m g0 s) σ (view m g0 s) w v s3 v' w')
  (he:(embed m s s3 v).sel=some (v1,s1)):h2a r σ s w v1 s1 v' w':=by
 obtain⟨r3,σ3,a1,a2,a3,a4,a5⟩:=h
 unfold embed at he
 obtain⟨g1,g2⟩:=Tree.guard_some he
 rw[Bool.and_eq_true,List.all_eq_true]at g1
 obtain⟨hinj,hkind⟩:=g1
 cases g2
 generalize hN:e1q m.length s3 v=N at hinj⊢
 have hNK: ∀i∈N,m.length≤i:=fun i hi=>by
  rw[←hN]at hi
  unfold e1q at hi
  exact Nat.le_of_ble_eq_true (List.mem_filter.1 hi).2
 generalize hsrc:d1z m s3.len 0 s.len++N=src at hinj⊢
 have hlen:src.length=s.len+N.length:=by rw[←hsrc,List.length_append,g0z]
 have src_lt: ∀{b},b<s.len→src[b]? =some (match idx m b with|some i=>i|none=>s3.len):=fun{b} hb=>by
  rw[←hsrc,List.getElem?_append_left (by rw[g0z];exact hb),q1e _ _ _ _ _ hb,Nat.zero_add]
 have src_ge: ∀{b i},s.len≤b→src[b]? =some i→m.length≤i:=fun{b i} hb e=>by
  rw[←hsrc,List.getElem?_append_right (by rw[g0z];exact hb)]at e
  exact hNK i (List.mem_of_getElem? e)
 have midx: ∀{i b},m[i]? =some b→b<s.len→idx m b=some i:=fun{i b} e hb=>by
  obtain⟨i',h'⟩:=idx_mem (List.mem_of_getElem? e)
  rw[g1m hm i i' b e (d0i h') hb];exact h'
 let f:Nat→Bool:=fun b=>bif Nat.blt b s.len then e0w m s3 b else true
 have f_lt: ∀{b},b<s.len→f b=e0w m s3 b:=fun{b} hb=>by
  show(bif Nat.blt b s.len then _ else _)=_
  rw[show Nat.blt b s.len=true from Nat.ble_eq_true_of_le hb];rfl
 have f_ge: ∀{b},s.len≤b→f b=true:=fun{b} hb=>by
  show(bif Nat.blt b s.len then _ else _)=_
  rw[show Nat.blt b s.len=false by cases e:Nat.blt b s.len with|false=>rfl|true=>have:=Nat.le_of_ble_eq_true e;omega];rfl
 have f_idx: ∀{b},b<s.len→f b=true→ ∃i,idx m b=some i∧i∈s3.log∧m[i]? =some b∧i<m.length:=fun{b} hb e=>by
  rw[f_lt hb]at e
  unfold e0w at e
  split at e
  ·rename_i i hi
   exact⟨i,hi,by simpa using e,d0i hi,(List.getElem?_eq_some_iff.1 (d0i hi)).1⟩
  ·cases e
 have gt_lt: ∀{b},b<s.len→gtOf m s s3 b=if f b=true then g0e s b+1 else g0e s b:=fun{b} hb=>by
  rw[f_lt hb]
  unfold gtOf
  rw[show Nat.blt b s.len=true from Nat.ble_eq_true_of_le hb]
  cases e0w m s3 b<;>rfl
 have hup: ∀b,b∈v0i m s3↔b∈m∧e0w m s3 b=true:=fun b=>by unfold v0i;rw[List.mem_filter]
 have kind: ∀{b i},b<s.len→idx m b=some i→f b=true→x1f (s.blk b) (s3.blk i)=true:=fun{b i} hb e hf=>by
  rw[f_lt hb]at hf
  have:=hkind b ((hup b).2 ⟨List.mem_of_getElem? (d0i e),hf⟩)
  rw[e]at this;exact this
 have none2: ∀{i j},m.length≤i→ ¬(r.view m g0 s).at i j:=fun{i j} hi hat=>by
  obtain⟨b,e,_⟩:=RM.view_at hat
  have:=(List.getElem?_eq_some_iff.1 e).1;omega
 have rel3:=a1.view (m:=src) (gt:=gtOf m s s3) hinj
 have vlen:(view src (gtOf m s s3) s3).len=src.length:=z0d _ _ _
 generalize hS':l2a m N src s s3=S'
 have hcase:(S'=s∧v0i m s3=[]∧N=[])∨S'=⟨i0u (e0h (v0i m s3)) 0 s.blks (view src (gtOf m s s3) s3).blks,m0j (v0i m s3) s.log⟩:=by
  rw[←hS']
  unfold l2a
  cases hl:v0i m s3 with
  |nil=>
   cases hn:N with
   |nil=>exact .inl ⟨rfl,rfl,rfl⟩
   |cons=>exact .inr rfl
  |cons=>exact .inr rfl
 have blkS: ∀b,S'.blk b=if f b=true then(if b<src.length then(view src (gtOf m s s3) s3).blk b else none)else s.blk b:=by
  intro b
  have big:(⟨i0u (e0h (v0i m s3)) 0 s.blks (view src (gtOf m s s3) s3).blks,m0j (v0i m s3) s.log⟩:SW).blk b=if f b=true then(if b<src.length then(view src (gtOf m s s3) s3).blk b else none)else s.blk b:=by
   have hl:s.blks.length≤(view src (gtOf m s s3) s3).blks.length:=by show s.len≤(view src (gtOf m s s3) s3).len;rw[vlen];omega
   show(i0u _ _ _ _)[b]? =_
   rw[o0o _ _ _ _ _ hl,Nat.zero_add]
   have vb:(if b<src.length then(view src (gtOf m s s3) s3).blk b else none)=(view src (gtOf m s s3) s3).blks[b]? :=by
    split
    ·rfl
    ·rename_i q
     rw[List.getElem?_eq_none]
     show(view src (gtOf m s s3) s3).len≤b
     rw[vlen];omega
   rw[vb]
   rcases Nat.lt_or_ge b s.len with q|q
   ·rw[if_pos (show b<s.blks.length from q)]
    cases e:f b with
    |true=>
     obtain⟨i,e1,e2,e3,e4⟩:=f_idx q e
     rw[f_lt q]at e
     rw[if_pos ((b0h _ _).2 ((hup b).2 ⟨List.mem_of_getElem? e3,e⟩)),if_pos rfl]
    |false=>
     rw[f_lt q]at e
     rw[if_neg (fun u=>by have:=((hup b).1 ((b0h _ _).1 u)).2;rw[e]at this;cases this),if_neg (by simp)]
     rfl
   ·rw[if_neg (show¬b<s.blks.length from by show¬b<s.len;omega),f_ge q,if_pos rfl]
  rcases hcase with⟨e0,e1,e2⟩|e0
  ·rw[e0]
   rcases Nat.lt_or_ge b s.len with q|q
   ·have: ¬f b=true:=fun e=>by
     obtain⟨i,_,_,e3,_⟩:=f_idx q e
     rw[f_lt q]at e
     have:=(hup b).2 ⟨List.mem_of_getElem? e3,e⟩
     rw[e1]at this;cases this
    rw[if_neg this]
   ·rw[f_ge q,if_pos rfl,if_neg (by rw[hlen,e2];simp;omega)]
    exact List.getElem?_eq_none q
  ·rw[e0];exact big
 have lenS:S'.len=src.length:=by
  rcases hcase with⟨e0,e1,e2⟩|e0
  ·rw[e0,hlen,e2];simp
  ·rw[e0]
   show(i0u _ _ _ _).length=_
   rw[l0i _ _ _ _ (by show s.len≤(view src (gtOf m s s3) s3).len;rw[vlen];omega)]
   exact vlen
 have logS: ∀b,b∈S'.log↔b∈v0i m s3∨b∈s.log:=by
  intro b
  rcases hcase with⟨e0,e1,e2⟩|e0
  ·rw[e0,e1];simp
  ·rw[e0];exact e0n _ _ _
 have rowk: ∀{b i},b<s.len→idx m b=some i→f b=true→o0q (s3.blk i)=true→ ∀g',g0e s b<g'→r.arr b g'=none:=fun{b i} hb e hf hrow g' hg=>by
  have:=kind hb e hf
  cases u:s3.blk i with
  |none=>rw[u]at hrow;cases hrow
  |some y=>
   rw[u]at this hrow
   cases q:s.blk b with
   |none=>rw[q]at this;cases y<;>simp[o0q,x1f]at hrow this
   |some z=>
    rw[q]at this
    cases z with
    |arr t g l=>exact hr.gen b t g l g' q (by rw[c1p q]at hg;exact hg)
    |vec g es=>exact hr.vgen b g es g' q (by rw[a1f q]at hg;exact hg)
    |_=>cases y<;>simp[o0q,x1f]at hrow this
 have fresh3: ∀b j,(r3.view src (gtOf m s s3) s3).at b j→r.at b j∨w.heap.size≤j:=by
  intro b j hat
  obtain⟨i,e1,e2⟩:=RM.view_at hat
  rcases a2.fresh i j e2 with⟨q1,q2⟩|⟨_,i',q1,q2⟩|q
  ·obtain⟨b0,u1,u2⟩:=RM.view_at q2
   rcases Nat.lt_or_ge b s.len with v|v
   ·have e1':=src_lt v
    rw[e1]at e1'
    simp only[Option.some.injEq]at e1'
    cases hx:idx m b with
    |none=>rw[hx]at e1';simp only at e1';omega
    |some i2=>
     rw[hx]at e1';simp only at e1';subst e1'
     have:=d0i hx
     rw[u1]at this;cases this
     exact .inl u2
   ·have:=src_ge v e1;omega
  ·exact(none2 q1 q2).elim
  ·exact .inr q
 have nf: ∀j,(∀b,f b=true→ ¬r.at b j)→ ∀i,i∈s3.log∨m.length≤i→ ¬(r.view m g0 s).at i j:=by
  intro j hn i hi hat
  obtain⟨b,u1,u2⟩:=RM.view_at hat
  have hb:=hr.has_lt (RM.at_has u2)
  have hlt:=(List.getElem?_eq_some_iff.1 u1).1
  refine hn b ?_ u2
  rw[f_lt hb]
  unfold e0w
  rw[midx u1 hb]
  rcases hi with hi|hi
  ·simpa using hi
  ·omega
 have H:Joins r (r3.view src (gtOf m s s3) s3) σ σ3 s (view src (gtOf m s s3) s3) S' w w' f:=by
  refine⟨a2.size,a2.ls,fun b j _=>fresh3 b j,fun j hj hn=>a2.keep j hj (nf j hn),fun j c hj=> ?_,fun b x hf e=> ?_,fun b x hf e=> ?_,fun b g x y hf e1 e2=> ?_,fun b t g l x hf e1 e2=> ?_,fun b t g l g' hf e hg=> ?_,fun b g es x hf e1 e2=> ?_,fun b g es g' hf e hg=> ?_,fun b hf=> ?_,fun b x hf e hx=> ?_,fun b x hf e hx=> ?_,by rw[lenS,hlen];omega,by rw[lenS,vlen];exact Nat.le_refl _⟩
  ·rcases a2.stay j c hj with q|q|⟨i,q1,q2⟩
   ·exact .inl q
   ·exact .inr (.inl q)
   ·obtain⟨b,u1,u2⟩:=RM.view_at q2
    have hb:=hr.has_lt (RM.at_has u2)
    have hlt:=(List.getElem?_eq_some_iff.1 u1).1
    refine .inr (.inr ⟨b,?_,u2⟩)
    rw[f_lt hb];unfold e0w;rw[midx u1 hb]
    rcases q1 with q1|q1
    ·simpa using q1
    ·omega
  ·have hb:=hr.dcel b x e
   obtain⟨i,u1,u2,u3,u4⟩:=f_idx hb hf
   have h2:(r.view m g0 s).cel i=some x:=by simp only[RM.view,u3,Option.bind_some];exact e
   have h3:=a2.cel i x u4 h2
   simp only[RM.view,src_lt hb,u1,Option.bind_some]
   exact h3
  ·have hb:=hr.dmp b x e
   obtain⟨i,u1,u2,u3,u4⟩:=f_idx hb hf
   have h2:(r.view m g0 s).mp i=some x:=by simp only[RM.view,u3,Option.bind_some];exact e
   have h3:=a2.mp i x u4 h2
   simp only[RM.view,src_lt hb,u1,Option.bind_some]
   exact h3
  ·have hb:=hr.darr b g x e1
   obtain⟨i,u1,u2,u3,u4⟩:=f_idx hb hf
   obtain⟨i',v1,v2,v3,v4⟩:=RM.view_arr_some e2
   rw[src_lt hb,u1]at v2
   simp only[Option.some.injEq]at v2;subst v2
   rw[gt_lt hb,if_pos hf]at v1
   have:=rowk hb u1 hf v3 g (by rw[v1];omega)
   rw[this]at e1;cases e1
  ·have hb:=hr.darr b g x e2
   obtain⟨i,u1,u2,u3,u4⟩:=f_idx hb hf
   have key: ∃y,(view src (gtOf m s s3) s3).blk b=some y∧(y=.arr t g l∨y=.frz t g l):=by
    rw[blkS,if_pos hf]at e1
    split at e1
    ·rcases e1 with e1|e1
     ·exact⟨_,e1,.inl rfl⟩
     ·exact⟨_,e1,.inr rfl⟩
    ·rcases e1 with e1|e1<;>cases e1
   obtain⟨y,y1,y2⟩:=key
   rw[r0p,src_lt hb,u1]at y1
   simp only[Option.map_some,Option.some.injEq]at y1
   have hrow:o0q (s3.blk i)=true∧g=gtOf m s s3 b:=by
    cases q:s3.blk i with
    |none=>rw[q]at y1;subst y1;rcases y2 with y2|y2<;>cases y2
    |some z=>
     rw[q]at y1
     cases z<;>simp only[renB]at y1<;>subst y1<;>rcases y2 with y2|y2<;>cases y2<;>exact⟨rfl,rfl⟩
   have:=rowk hb u1 hf hrow.1 g (by rw[hrow.2,gt_lt hb,if_pos hf];omega)
   rw[this]at e2;cases e2
  ·rcases Nat.lt_or_ge b s.len with hb|hb
   ·obtain⟨i,u1,u2,u3,u4⟩:=f_idx hb hf
    rw[blkS,if_pos hf,if_pos (by rw[hlen];omega),r0p,src_lt hb,u1]at e
    simp only[Option.map_some,Option.some.injEq]at e
    have hrow:o0q (s3.blk i)=true∧g=gtOf m s s3 b:=by
     cases q:s3.blk i with
     |none=>rw[q]at e;cases e
     |some z=>rw[q]at e;cases z<;>simp only[renB]at e<;>cases e;exact⟨rfl,rfl⟩
    exact rowk hb u1 hf hrow.1 g' (by rw[hrow.2,gt_lt hb,if_pos hf]at hg;omega)
   ·exact(hr.none_ge hb).2.1 g'
  ·have hb:=hr.darr b g x e2
   obtain⟨i,u1,u2,u3,u4⟩:=f_idx hb hf
   rw[blkS,if_pos hf,if_pos (by rw[hlen];omega),r0p,src_lt hb,u1]at e1
   simp only[Option.map_some,Option.some.injEq]at e1
   have hrow:o0q (s3.blk i)=true∧g=gtOf m s s3 b:=by
    cases q:s3.blk i with
    |none=>rw[q]at e1;cases e1
    |some z=>rw[q]at e1;cases z<;>simp only[renB]at e1<;>cases e1;exact⟨rfl,rfl⟩
   have:=rowk hb u1 hf hrow.1 g (by rw[hrow.2,gt_lt hb,if_pos hf];omega)
   rw[this]at e2;cases e2
  ·rcases Nat.lt_or_ge b s.len with hb|hb
   ·obtain⟨i,u1,u2,u3,u4⟩:=f_idx hb hf
    rw[blkS,if_pos hf,if_pos (by rw[hlen];omega),r0p,src_lt hb,u1]at e
    simp only[Option.map_some,Option.some.injEq]at e
    have hrow:o0q (s3.blk i)=true∧g=gtOf m s s3 b:=by
     cases q:s3.blk i with
     |none=>rw[q]at e;cases e
     |some z=>rw[q]at e;cases z<;>simp only[renB]at e<;>cases e;exact⟨rfl,rfl⟩
    exact rowk hb u1 hf hrow.1 g' (by rw[hrow.2,gt_lt hb,if_pos hf]at hg;omega)
   ·exact(hr.none_ge hb).2.1 g'
  ·rcases Nat.lt_or_ge b s.len with hb|hb
   ·cases u:idx m b with
    |none=>
     have hs3:=a1.none_ge (Nat.le_refl s3.len)
     refine RM.leAt_none ?_
     refine⟨?_,fun g=> ?_,?_⟩
     ·simp only[RM.view,src_lt hb,u,Option.bind_some];exact hs3.1
     ·cases q:(r3.view src (gtOf m s s3) s3).arr b g with
      |none=>rfl
      |some x=>
       obtain⟨i',_,v2,_,v4⟩:=RM.view_arr_some q
       rw[src_lt hb,u]at v2
       simp only[Option.some.injEq]at v2;subst v2
       rw[hs3.2.1]at v4;cases v4
     ·simp only[RM.view,src_lt hb,u,Option.bind_some];exact hs3.2.2
    |some i=>
     have hmi:=d0i u
     have hik:=(List.getElem?_eq_some_iff.1 hmi).1
     have hnl: ¬i∈s3.log:=fun e=>by
      rw[f_lt hb]at hf;unfold e0w at hf;rw[u]at hf
      simp only[List.contains_eq_mem,decide_eq_false_iff_not]at hf
      exact hf e
     obtain⟨s1',s2',s3'⟩:=a2.same i hik hnl
     refine⟨fun x e=> ?_,fun g x e=> ?_,fun x e=> ?_⟩
     ·simp only[RM.view,src_lt hb,u,Option.bind_some]at e
      have e:=s1' x e
      simp only[RM.view,hmi,Option.bind_some]at e
      exact e
     ·obtain⟨i',v1,v2,v3,v4⟩:=RM.view_arr_some e
      rw[src_lt hb,u]at v2
      simp only[Option.some.injEq]at v2;subst v2
      have v4:=s2' _ x v4
      obtain⟨b',z1,z2,z3,z4⟩:=RM.view_arr_some v4
      rw[hmi]at z2;cases z2
      rw[v1,gt_lt hb,if_neg (by rw[hf];simp)]
      exact z4
     ·simp only[RM.view,src_lt hb,u,Option.bind_some]at e
      have e:=s3' x e
      simp only[RM.view,hmi,Option.bind_some]at e
      exact e
   ·rw[f_ge hb]at hf;cases hf
  ·rw[blkS,if_pos hf]at e
   split at e
   ·exact e
   ·cases e
  ·rw[blkS,if_neg (by rw[hf];simp)]at e;exact e
 have mx:=hr.join rel3 H
 have lf: ∀{b},b<s.len→f b=true→b∈S'.log:=fun{b} hb e=>by
  obtain⟨i,_,_,e3,_⟩:=f_idx hb e
  rw[f_lt hb]at e
  exact(logS b).2 (.inl ((hup b).2 ⟨List.mem_of_getElem? e3,e⟩))
 have nn: ∀j,(∀b,b∈S'.log→ ¬r.at b j)→ ∀b,f b=true→ ¬r.at b j:=fun j hn b hf hat=>hn b (lf (hr.has_lt (RM.at_has hat)) hf) hat
 refine⟨_,σ3,mx.le,a2.ls,mx.rel,⟨a2.os,a2.tape,a2.output,a2.size,fun b j hat=> ?_,fun j hj hn=>H.keep j hj (nn j hn),fun b hb hn=> ?_,fun j c hj=> ?_⟩,(n2l a3 RF).mono mx.le1 (Snap.le_refl _),fun x hx=>(logS x).2 (.inr hx),by rw[lenS,hlen];omega⟩
 ·cases e:f b with
  |true=>
   rcases RM.join_at e hat with q|q
   ·exact fresh3 b j q
   ·exact .inl q
  |false=>exact .inl (((RM.join_f e).at j).1 hat)
 ·have e:f b=false:=by
   cases e:f b with
   |false=>rfl
   |true=>exact absurd (lf hb e) hn
  exact RM.join_f e
 ·rcases H.stay j c hj with q|q|⟨b,q1,q2⟩
  ·exact .inl q
  ·exact .inr (.inl q)
  ·exact .inr (.inr ⟨b,lf (hr.has_lt (RM.at_has q2)) q1,q2⟩)
theorem f1s {f:FuncId}{run:a0q}(h:a0v P f run):c1x P f (u0v run):=by
 intro args s v s1 he r σ w args' hr ha
 unfold u0v at he
 obtain⟨hm,he⟩:=Tree.guard_some he
 obtain⟨⟨v3,s3⟩,h1,h2⟩:=Tree.bind_some he
 have rel:=hr.view (gt:=g0) hm
 refine(h _ _ v3 s3 h1 rfl _ σ w args' rel (ha.ren RF)).mono ?_
 rintro e w' ⟨v',rfl,haf⟩
 rw[z0d]at haf
 exact⟨v',rfl,r2z hr hm haf h2⟩
end
end Go.Proofs.Ytoehlcomhpnjgaa.Vx
