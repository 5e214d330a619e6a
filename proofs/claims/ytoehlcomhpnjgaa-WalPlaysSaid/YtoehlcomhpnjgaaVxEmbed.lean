import Derived.Test.YtoehlcomhpnjgaaVxView
noncomputable section
namespace Go.Proofs.Ytoehlcomhpnjgaa.Vx
open Go Go.RowKit
set_option linter.unusedVariables false
def m0h:Nat→SV→List Nat
 |0,_=>[]
 |n+1,v=>match v with
  |.own b _=>[b]
  |.part b _ _ _=>[b]
  |.ptr b _=>[b]
  |.eptr b _ _ _=>[b]
  |.aptr b _ _ _ _ _=>[b]
  |.asl b _ _=>[b]
  |.optr _ b _=>[b]
  |.asp b _ _ _=>[b]
  |.esp b _ _ _ _=>[b]
  |.mapv b=>[b]
  |.itr b=>[b]
  |.iface _ v=>m0h n v
  |.agg es=>es.flatMap (m0h n)
  |.tup es=>es.flatMap (m0h n)
  |.fn _ fs cs=>(fs++cs).flatMap (m0h n)
  |_=>[]
def n2t:Option Blk→List Nat
 |some (.cells es)=>es.flatMap (m0h 9)
 |some (.vec _ es)=>es.flatMap (m0h 9)
 |some (.fmap _ _ es)=>es.flatMap (m0h 9)
 |_=>[]
def e1j:List Nat→List Nat→List Nat
 |m,[]=>m
 |m,b::bs=>bif m.contains b then e1j m bs else e1j (m++[b]) bs
def bfs (s:SW):Nat→List Nat→Nat→List Nat
 |0,m,_=>m
 |n+1,m,i=>match m[i]? with
  |some b=>bfs s n (e1j m (n2t (s.blk b))) (i+1)
  |none=>m
def w0w (keep:Nat)(roots:List SV)(s:SW):List Nat:=bfs s 999 (e1j (List.range keep) (roots.flatMap (m0h 9))) 0
def g0:Nat→Nat:=fun _=>0
def x1f:Option Blk→Option Blk→Bool
 |some (.arr _ _ _),some (.cells _)=>false
 |some (.arr _ _ _),_=>true
 |some (.vec _ _),some (.cells _)=>false
 |some (.vec _ _),_=>true
 |some (.map _ _ _),some (.map _ _ _)=>true
 |some (.fmap _ _ _),some (.fmap _ _ _)=>true
 |some (.cells _),some (.cells _)=>true
 |_,none=>true
 |_,some .gone=>true
 |_,_=>false
def e0w (m:List Nat)(s3:SW)(b:Nat):Bool:=match idx m b with
 |some i=>s3.log.contains i
 |none=>false
def d1z (m:List Nat)(n3:Nat):Nat→Nat→List Nat
 |_,0=>[]
 |b,k+1=>(match idx m b with
  |some i=>i
  |none=>n3)::d1z m n3 (b+1) k
def e1q (K:Nat)(s3:SW)(v:SV):List Nat:=(bfs s3 999 (e1j [] (m0h 9 v++s3.log.filter (fun i=>Nat.blt i K))) 0).filter (fun i=>Nat.ble K i)
def gtOf (m:List Nat)(s s3:SW)(b:Nat):Nat:=match Nat.blt b s.len with
 |true=>bif e0w m s3 b then g0e s b+1 else g0e s b
 |false=>0
def v0i (m:List Nat)(s3:SW):List Nat:=m.filter (e0w m s3)
def l2a (m N src:List Nat)(s s3:SW):SW:=match v0i m s3,N with
 |[],[]=>s
 |_,_=>⟨i0u (e0h (v0i m s3)) 0 s.blks (view src (gtOf m s s3) s3).blks,m0j (v0i m s3) s.log⟩
def embed (m:List Nat)(s s3:SW)(v:SV):Tree (SV×SW):=
 Tree.guard (injB s3.len (d1z m s3.len 0 s.len++e1q m.length s3 v)&&(v0i m s3).all fun b=>match idx m b with
  |some i=>x1f (s.blk b) (s3.blk i)
  |none=>false) 310
  (.leaf (ren (d1z m s3.len 0 s.len++e1q m.length s3 v) (gtOf m s s3) s3 RF v,
   l2a m (e1q m.length s3 v) (d1z m s3.len 0 s.len++e1q m.length s3 v) s s3))
def u0v (run:List SV→SW→Tree (SV×SW))(args:List SV)(s:SW):Tree (SV×SW):=
 Tree.guard (injB s.len (w0w 0 args s)) 311
  ((run (args.map (ren (w0w 0 args s) g0 s RF)) (view (w0w 0 args s) g0 s)).bind fun x=>embed (w0w 0 args s) s x.2 x.1)
def RM.join (r r1:RM)(f:Nat→Bool):RM:=⟨fun b=>if f b=true then r1.cel b else r.cel b,fun b g=>if f b=true then(r1.arr b g).or (r.arr b g)else r.arr b g,fun b=>if f b=true then r1.mp b else r.mp b⟩
section
variable {r r1:RM} {σ σ1:Snap} {S s1 S':SW} {w w1:World}
theorem RM.join_f {f:Nat→Bool}{b:Nat}(h:f b=false):r.eqAt (r.join r1 f) b:=by
 have h': ¬f b=true:=by rw[h];simp
 exact⟨if_neg h',fun g=>if_neg h',if_neg h'⟩
theorem RM.join_at {f:Nat→Bool}{b j:Nat}(h:f b=true)(k:(r.join r1 f).at b j):r1.at b j∨r.at b j:=by
 rcases k with⟨n,k⟩|⟨g,x,o,k1,k2⟩|k
 ·simp only[RM.join,h,if_true]at k;exact .inl (.inl ⟨n,k⟩)
 ·simp only[RM.join,h,if_true,Option.or_eq_some_iff]at k1
  rcases k1 with k1|⟨_,k1⟩
  ·exact .inl (.inr (.inl ⟨g,x,o,k1,k2⟩))
  ·exact .inr (.inr (.inl ⟨g,x,o,k1,k2⟩))
 ·simp only[RM.join,h,if_true]at k;exact .inl (.inr (.inr k))
structure Joins (r r1:RM)(σ σ1:Snap)(S s1 S':SW)(w w1:World)(f:Nat→Bool):Prop where
 size:w.heap.size≤w1.heap.size
 ls:σ.le σ1
 fresh: ∀b j,f b=true→r1.at b j→r.at b j∨w.heap.size≤j
 keep: ∀j,j<w.heap.size→(∀b,f b=true→ ¬r.at b j)→w1.heap[j]? =w.heap[j]?
 stay: ∀j c,σ1 j=some c→σ j=some c∨w.heap.size≤j∨ ∃b,f b=true∧r.at b j
 cel: ∀b x,f b=true→r.cel b=some x→r1.cel b=some x
 mp: ∀b x,f b=true→r.mp b=some x→r1.mp b=some x
 arr: ∀b g x y,f b=true→r.arr b g=some x→r1.arr b g=some y→False
 cur: ∀b t g l x,f b=true→(S'.blk b=some (.arr t g l)∨S'.blk b=some (.frz t g l))→r.arr b g=some x→False
 gen: ∀b t g l g',f b=true→S'.blk b=some (.arr t g l)→g<g'→r.arr b g'=none
 curv: ∀b g es x,f b=true→S'.blk b=some (.vec g es)→r.arr b g=some x→False
 genv: ∀b g es g',f b=true→S'.blk b=some (.vec g es)→g<g'→r.arr b g'=none
 eq: ∀b,f b=false→r1.leAt r b
 S1: ∀b x,f b=true→S'.blk b=some x→x≠.gone→s1.blk b=some x
 S0: ∀b x,f b=false→S'.blk b=some x→x≠.gone→S.blk b=some x
 l0:S.len≤S'.len
 l1:s1.len≤S'.len
theorem Rel.join {f:Nat→Bool}(h:Rel r σ S w)(k:Rel r1 σ1 s1 w1)(H:Joins r r1 σ σ1 S s1 S' w w1 f):Mixed r r1 (r.join r1 f) σ σ1 S S' w w1:=by
 have eqf: ∀{b},f b=false→r.eqAt (r.join r1 f) b:=fun e=>RM.join_f e
 have celt: ∀{b},f b=true→(r.join r1 f).cel b=r1.cel b:=fun e=>if_pos e
 have mpt: ∀{b},f b=true→(r.join r1 f).mp b=r1.mp b:=fun e=>if_pos e
 have arrt: ∀{b g},f b=true→(r.join r1 f).arr b g=(r1.arr b g).or (r.arr b g):=fun e=>if_pos e
 have le:r.le (r.join r1 f):=by
  refine RM.le_of fun b=> ?_
  cases e:f b with
  |false=>exact(eqf e).leAt
  |true=>
   refine⟨fun x q=>by rw[celt e];exact H.cel b x e q,fun g x q=> ?_,fun x q=>by rw[mpt e];exact H.mp b x e q⟩
   rw[arrt e]
   cases u:r1.arr b g with
   |none=>simpa using q
   |some y=>exact(H.arr b g x y e q u).elim
 have le1:r1.le (r.join r1 f):=by
  refine RM.le_of fun b=> ?_
  cases e:f b with
  |false=>exact(H.eq b e).trans (eqf e).leAt
  |true=>exact⟨fun x q=>by rw[celt e];exact q,fun g x q=>by rw[arrt e,q];rfl,fun x q=>by rw[mpt e];exact q⟩
 have stays: ∀{b j},f b=false→r.at b j→w1.heap[j]? =w.heap[j]? :=fun{b j} e hj=>by
  refine H.keep j (h.inb b j hj) fun b' hb' hat=> ?_
  have:=h.uniq b b' j hj hat
  subst this
  rw[hb']at e;cases e
 have split: ∀{b j},(r.join r1 f).at b j→r.at b j∨(f b=true∧r1.at b j):=fun{b j} e=>by
  cases u:f b with
  |true=>exact(RM.join_at u e).elim (fun q=>.inr ⟨rfl,q⟩) .inl
  |false=>exact .inl (((eqf u).at j).1 e)
 refine⟨⟨k.snap,fun b x e=> ?_,fun b g x e=> ?_,fun b x e=> ?_,fun b j e=> ?_,?_,?_,?_,?_,?_,?_,?_,?_,?_,?_,?_⟩,le,le1⟩
 ·cases u:f b with
  |true=>rw[celt u]at e;have:=k.dcel b x e;have:=H.l1;omega
  |false=>rw[(eqf u).1]at e;have:=h.dcel b x e;have:=H.l0;omega
 ·cases u:f b with
  |true=>
   rw[arrt u,Option.or_eq_some_iff]at e
   rcases e with e|⟨_,e⟩
   ·have:=k.darr b g x e;have:=H.l1;omega
   ·have:=h.darr b g x e;have:=H.l0;omega
  |false=>rw[(eqf u).2.1]at e;have:=h.darr b g x e;have:=H.l0;omega
 ·cases u:f b with
  |true=>rw[mpt u]at e;have:=k.dmp b x e;have:=H.l1;omega
  |false=>rw[(eqf u).2.2]at e;have:=h.dmp b x e;have:=H.l0;omega
 ·rcases split e with q|⟨_,q⟩
  ·have:=h.inb b j q;have:=H.size;omega
  ·exact k.inb b j q
 ·intro b es j m e hr
  cases u:f b with
  |true=>
   rw[celt u]at hr
   obtain⟨c,T,g,h1,h2,h3,h4⟩:=k.cel b es j m (H.S1 b _ u e (by simp)) hr
   exact⟨c,T,g,h1,h2,h3,h4.mono le1 (Snap.le_refl _)⟩
  |false=>
   rw[(eqf u).1]at hr
   obtain⟨c,T,g,h1,h2,h3,h4⟩:=h.cel b es j m (H.S0 b _ u e (by simp)) hr
   exact⟨c,T,g,by rw[stays u (.inl ⟨m,hr⟩)];exact h1,h2,h3,h4.mono le H.ls⟩
 ·intro b t g l x e hr
  cases u:f b with
  |true=>
   rw[arrt u,Option.or_eq_some_iff]at hr
   rcases hr with hr|⟨_,hr⟩
   ·exact k.arr b t g l x (H.S1 b _ u e (by simp)) hr
   ·exact(H.cur b t g l x u (.inl e) hr).elim
  |false=>
   rw[(eqf u).2.1]at hr
   exact(h.arr b t g l x (H.S0 b _ u e (by simp)) hr).mono H.ls fun j o hj=>stays u (.inr (.inl ⟨g,x,o,hr,hj⟩))
 ·intro b t g l x e hr
  cases u:f b with
  |true=>
   rw[arrt u,Option.or_eq_some_iff]at hr
   rcases hr with hr|⟨_,hr⟩
   ·exact k.frz b t g l x (H.S1 b _ u e (by simp)) hr
   ·exact(H.cur b t g l x u (.inr e) hr).elim
  |false=>
   rw[(eqf u).2.1]at hr
   obtain⟨h1,h2,h3,h0,h4⟩:=h.frz b t g l x (H.S0 b _ u e (by simp)) hr
   refine⟨h1,h2,h3,h0,fun i hi=> ?_⟩
   obtain⟨j,o,c,q1,q2,q3⟩:=h4 i hi
   exact⟨j,o,c,q1,H.ls _ _ q2,q3.mono' H.ls⟩
 ·intro b b' j e e'
  have cross: ∀{b b'},r.at b j→f b'=true∧r1.at b' j→b=b':=fun{b b'} q q'=>by
   rcases H.fresh b' j q'.1 q'.2 with v|v
   ·exact h.uniq _ _ _ q v
   ·have:=h.inb _ _ q;omega
  rcases split e with q|q<;>rcases split e' with q'|q'
  ·exact h.uniq _ _ _ q q'
  ·exact cross q q'
  ·exact(cross q' q).symm
  ·exact k.uniq _ _ _ q.2 q'.2
 ·intro b j e
  obtain⟨y,ey,hy⟩:=RM.live_some e
  cases u:f b with
  |true=>
   refine k.free b j ?_
   rw[H.S1 b y u ey hy]
   rw[ey]at e
   cases y with
   |cells es=>obtain⟨m,hm⟩:=e;rw[celt u]at hm;exact⟨m,hm⟩
   |arr t g l=>
    obtain⟨x,o,hx,ho⟩:=e
    rw[arrt u,Option.or_eq_some_iff]at hx
    rcases hx with hx|⟨_,hx⟩
    ·exact⟨x,o,hx,ho⟩
    ·exact(H.cur b t g l x u (.inl ey) hx).elim
   |iter t p=>
    have e:(r.join r1 f).mp b=some j:=e
    rw[mpt u]at e;exact e
   |vec g es=>
    obtain⟨x,o,hx,ho⟩:=e
    rw[arrt u,Option.or_eq_some_iff]at hx
    rcases hx with hx|⟨_,hx⟩
    ·exact⟨x,o,hx,ho⟩
    ·exact(H.curv b g es x u ey hx).elim
   |map kt vt l=>
    have e:(r.join r1 f).mp b=some j:=e
    rw[mpt u]at e;exact e
   |fmap kt ks es=>
    have e:(r.join r1 f).mp b=some j:=e
    rw[mpt u]at e;exact e
   |_=>exact e.elim
  |false=>
   have hlive:r.live (S.blk b) b j:=by
    rw[H.S0 b y u ey hy,←ey]
    exact((eqf u).live _ _).1 e
   cases hc:σ1 j with
   |none=>rfl
   |some c=>
    exfalso
    rcases H.stay j c hc with q|q|⟨b',q1,q2⟩
    ·have:=h.free b j hlive;rw[this]at q;cases q
    ·have:=h.inb _ _ (RM.live_at hlive);omega
    ·have:=h.uniq _ _ _ (RM.live_at hlive) q2
     subst this
     rw[q1]at u;cases u
 ·intro b t g l g' e hg
  cases u:f b with
  |true=>
   rw[arrt u,k.gen b t g l g' (H.S1 b _ u e (by simp)) hg,H.gen b t g l g' u e hg];rfl
  |false=>rw[(eqf u).2.1];exact h.gen b t g l g' (H.S0 b _ u e (by simp)) hg
 ·intro b t p j e hj
  cases u:f b with
  |true=>
   rw[mpt u]at hj
   exact k.itr b t p j (H.S1 b _ u e (by simp)) hj
  |false=>
   rw[(eqf u).2.2]at hj
   obtain⟨h1,h2⟩:=h.itr b t p j (H.S0 b _ u e (by simp)) hj
   exact⟨h1,by rw[stays u (.inr (.inr hj))];exact h2⟩
 ·intro b g es x e hr
  cases u:f b with
  |true=>
   rw[arrt u,Option.or_eq_some_iff]at hr
   rcases hr with hr|⟨_,hr⟩
   ·exact(k.vec b g es x (H.S1 b _ u e (by simp)) hr).mono le1 (Snap.le_refl _) fun _ _ _=>rfl
   ·exact(H.curv b g es x u e hr).elim
  |false=>
   rw[(eqf u).2.1]at hr
   exact(h.vec b g es x (H.S0 b _ u e (by simp)) hr).mono le H.ls fun j o hj=>stays u (.inr (.inl ⟨g,x,o,hr,hj⟩))
 ·intro b g es g' e hg
  cases u:f b with
  |true=>
   rw[arrt u,k.vgen b g es g' (H.S1 b _ u e (by simp)) hg,H.genv b g es g' u e hg];rfl
  |false=>rw[(eqf u).2.1];exact h.vgen b g es g' (H.S0 b _ u e (by simp)) hg
 ·intro b kt vt l j e hj
  cases u:f b with
  |true=>
   rw[mpt u]at hj
   exact k.map b kt vt l j (H.S1 b _ u e (by simp)) hj
  |false=>
   rw[(eqf u).2.2]at hj
   obtain⟨es,h1,h2⟩:=h.map b kt vt l j (H.S0 b _ u e (by simp)) hj
   exact⟨es,by rw[stays u (.inr (.inr hj))];exact h1,h2.mono H.ls⟩
 ·intro b kt ks es j e hj
  cases u:f b with
  |true=>
   rw[mpt u]at hj
   obtain⟨ms,h1,h2⟩:=k.fmap b kt ks es j (H.S1 b _ u e (by simp)) hj
   exact⟨ms,h1,h2.mono le1 (Snap.le_refl _)⟩
  |false=>
   rw[(eqf u).2.2]at hj
   obtain⟨ms,h1,h2⟩:=h.fmap b kt ks es j (H.S0 b _ u e (by simp)) hj
   exact⟨ms,by rw[stays u (.inr (.inr hj))];exact h1,h2.mono le H.ls⟩
end
end Go.Proofs.Ytoehlcomhpnjgaa.Vx
