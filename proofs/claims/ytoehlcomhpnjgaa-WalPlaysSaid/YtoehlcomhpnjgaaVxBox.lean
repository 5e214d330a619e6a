import Derived.Test.YtoehlcomhpnjgaaVxShape
noncomputable section
namespace Go.Proofs.Ytoehlcomhpnjgaa.Vx
open Go Go.RowKit
set_option linter.unusedVariables false
def i1n:List PV→List SV→List SV
 |.dead::ps,v::t=>(match v.isArr with
  |true=>v
  |false=>.dead)::i1n ps t
 |_::ps,v::t=>v::i1n ps t
 |[],t=>t
 |_,[]=>[]
def o2s (K:Nat)(s:SW):Bool:=(List.range K).all fun b=>Nat.beq (g0e s b) 0||s.log.contains b
def p2r (K:Nat)(log l:List Nat):Bool:=l.all fun b=>Nat.ble K b||log.contains b
def h2y (m:List Nat)(K:Nat)(ps:List PV)(bs:List PB)(t:List SV)(s:SW):Option (List Dat):=match injB s.len m&&o2s K s with
 |true=>fitS ps bs (t.map (ren m g0 s RF)) (view m g0 s)
 |false=>none
def n1n (K:Nat)(ps:List PV)(bs:List PB)(t:List SV)(s:SW):Option (List Dat):=h2y (w0w K (i1n ps t) s) K ps bs (i1n ps t) s
def nilT:List (Nat×Ty)→List SV→SW→List SV×SW
 |[],t,s=>(t,s)
 |(k,ty)::hs,t,s=>match t[k]? with
  |some .nilsl=>nilT hs (t.set k (.own s.len 0)) (s.push (.arr ty 0 []))
  |_=>nilT hs t s
theorem u0m: ∀(bs m:List Nat),∃e,e1j m bs=m++e
 |[],m=>⟨[],by simp[e1j]⟩
 |b::bs,m=>by
  unfold e1j
  cases m.contains b with
  |true=>exact u0m bs m
  |false=>
   obtain⟨e,h⟩:=u0m bs (m++[b])
   exact⟨b::e,by simp only[cond_false];rw[h,List.append_assoc];rfl⟩
theorem m2l (s:SW): ∀(n:Nat) (m:List Nat) (i:Nat),∃e,bfs s n m i=m++e
 |0,m,i=>⟨[],by simp[bfs]⟩
 |n+1,m,i=>by
  unfold bfs
  split
  ·rename_i b hb
   obtain⟨e1,h1⟩:=u0m (n2t (s.blk b)) m
   obtain⟨e2,h2⟩:=m2l s n (e1j m (n2t (s.blk b))) (i+1)
   exact⟨e1++e2,by rw[h2,h1,List.append_assoc]⟩
  ·exact⟨[],by simp⟩
theorem f2j (K:Nat)(roots:List SV)(s:SW): ∃e,w0w K roots s=List.range K++e:=by
 unfold w0w
 obtain⟨e1,h1⟩:=u0m (roots.flatMap (m0h 9)) (List.range K)
 obtain⟨e2,h2⟩:=m2l s 999 (e1j (List.range K) (roots.flatMap (m0h 9))) 0
 exact⟨e1++e2,by rw[h2,h1,List.append_assoc]⟩
section
variable {r:RM} {σ:Snap} {s:SW} {w:World}
theorem b2u {K:Nat}{m log:List Nat}(hr:Rel r σ s w)(hK:K≤s.len)(hm:injB s.len m=true)(hid: ∀i,i<K→m[i]? =some i)(hg: ∀b,b<K→g0e s b=0∨b∈log):FrameK K log r (r.view m g0 s) σ σ w w:=by
 refine⟨rfl,rfl,rfl,Nat.le_refl _,Snap.le_refl _,fun i j hat=> ?_,fun _ _ _=>rfl,fun b hb hn=> ?_,fun b x hb e=> ?_,fun b x hb e=> ?_,fun _ _ h=>.inl h⟩
 ·obtain⟨b,e1,e2⟩:=RM.view_at hat
  rcases Nat.lt_or_ge i K with q|q
  ·rw[hid i q]at e1;cases e1;exact .inl ⟨q,e2⟩
  ·refine .inr (.inl ⟨q,b,?_,e2⟩)
   rcases Nat.lt_or_ge b K with u|u
   ·have:=g1m hm i b b e1 (hid b u) (hr.has_lt (RM.at_has e2));omega
   ·exact u
 ·refine⟨fun x e=> ?_,fun g x e=> ?_,fun x e=> ?_⟩
  ·simp only[RM.view,hid b hb,Option.bind_some]at e;exact e
  ·obtain⟨b',e1,e2,e3,e4⟩:=RM.view_arr_some e
   rw[hid b hb]at e2;cases e2
   rcases hg b hb with q|q
   ·rw[q]at e4;simp only[g0]at e1;rw[e1];exact e4
   ·exact absurd q hn
  ·simp only[RM.view,hid b hb,Option.bind_some]at e;exact e
 ·simp only[RM.view,hid b hb,Option.bind_some];exact e
 ·simp only[RM.view,hid b hb,Option.bind_some];exact e
theorem i2a: ∀{ps:List PV} {t:List SV} {t':Array Value},LRel r σ t t'→LRel r σ (i1n ps t) t':=by
 have key: ∀(ps:List PV) (t:List SV),(i1n ps t).length=t.length∧ ∀(i:Nat) v,(i1n ps t)[i]? =some v→v=.dead∨t[i]? =some v:=by
  intro ps
  induction ps with
  |nil=>intro t;exact⟨rfl,fun i v h=>.inr h⟩
  |cons p ps ih=>
   intro t
   cases t with
   |nil=>cases p<;>exact⟨rfl,fun i v h=>.inr h⟩
   |cons u t=>
    obtain⟨h1,h2⟩:=ih t
    have one: ∀x:SV,(x=.dead∨x=u)→(x::i1n ps t).length=(u::t).length∧ ∀(i:Nat) v,(x::i1n ps t)[i]? =some v→v=.dead∨(u::t)[i]? =some v:=by
     intro x hx
     refine⟨by simp[h1],fun i v h=> ?_⟩
     cases i with
     |zero=>
      simp only[List.getElem?_cons_zero,Option.some.injEq]at h⊢
      subst h
      exact hx.imp id Eq.symm
     |succ i=>exact h2 i v (by simpa using h)
    cases p<;>first|exact one u (.inr rfl)|skip
    refine one _ ?_
    cases u.isArr
    ·exact .inl rfl
    ·exact .inr rfl
 intro ps t t' h
 obtain⟨h1,h2⟩:=key ps t
 refine⟨by rw[h1];exact h.size,fun i v v' hv hv'=> ?_⟩
 rcases h2 i v hv with q|q
 ·subst q;exact .dead _
 ·exact h.at_ i v v' q hv'
theorem Rel.weak (h:Rel r σ s w){s':SW}(hl:s'.len=s.len)(hw: ∀b x',s'.blk b=some x'→x'=.gone∨s.blk b=some x'∨(∃es es',((s.blk b=some (.cells es)∧x'=.cells es')∨ ∃g,s.blk b=some (.vec g es)∧x'=.vec g es')∧esW es'=esW es∧ ∀get o,ERel r σ es get o→ERel r σ es' get o)∨ ∃kt ks es es',s.blk b=some (.fmap kt ks es)∧x'=.fmap kt ks es'∧ ∀a,LRel r σ es a→LRel r σ es' a):Rel r σ s' w:=by
 refine⟨h.snap,fun b x e=>by rw[hl];exact h.dcel b x e,fun b g x e=>by rw[hl];exact h.darr b g x e,fun b x e=>by rw[hl];exact h.dmp b x e,h.inb,?_,?_,?_,h.uniq,?_,?_,?_,?_,?_,?_,?_⟩
 ·intro b es j n e hr
  rcases hw b _ e with q|q|⟨es0,es',⟨q1,q2⟩|⟨g,q1,q2⟩,q3,q4⟩|⟨kt1,ks1,es0,es',q1,q2,q3⟩
  ·cases q
  ·exact h.cel b es j n q hr
  ·cases q2
   obtain⟨c,T,f,h1,h2,h3,h4⟩:=h.cel b es0 j n q1 hr
   exact⟨c,T,f,h1,h2,by rw[q3];exact h3,q4 _ _ h4⟩
  ·cases q2
  ·cases q2
 ·intro b t g l x e hr
  rcases hw b _ e with q|q|⟨es0,es',⟨q1,q2⟩|⟨g,q1,q2⟩,q3,q4⟩|⟨kt1,ks1,es0,es',q1,q2,q3⟩
  ·cases q
  ·exact h.arr b t g l x q hr
  ·cases q2
  ·cases q2
  ·cases q2
 ·intro b t g l x e hr
  rcases hw b _ e with q|q|⟨es0,es',⟨q1,q2⟩|⟨g,q1,q2⟩,q3,q4⟩|⟨kt1,ks1,es0,es',q1,q2,q3⟩
  ·cases q
  ·exact h.frz b t g l x q hr
  ·cases q2
  ·cases q2
  ·cases q2
 ·intro b j e
  obtain⟨y,ey,hy⟩:=RM.live_some e
  refine h.free b j ?_
  rcases hw b y ey with q|q|⟨es0,es',⟨q1,q2⟩|⟨g,q1,q2⟩,q3,q4⟩|⟨kt1,ks1,es0,es',q1,q2,q3⟩
  ·exact(hy q).elim
  ·rw[q,←ey];exact e
  ·rw[ey,q2]at e;rw[q1];exact e
  ·rw[ey,q2]at e;rw[q1];exact e
  ·rw[ey,q2]at e;rw[q1];exact e
 ·intro b t g l g' e hg
  rcases hw b _ e with q|q|⟨es0,es',⟨q1,q2⟩|⟨g,q1,q2⟩,q3,q4⟩|⟨kt1,ks1,es0,es',q1,q2,q3⟩
  ·cases q
  ·exact h.gen b t g l g' q hg
  ·cases q2
  ·cases q2
  ·cases q2
 ·intro b t p j e hj
  rcases hw b _ e with q|q|⟨es0,es',⟨q1,q2⟩|⟨g,q1,q2⟩,q3,q4⟩|⟨kt1,ks1,es0,es',q1,q2,q3⟩
  ·cases q
  ·exact h.itr b t p j q hj
  ·cases q2
  ·cases q2
  ·cases q2
 ·intro b g es x e hr
  rcases hw b _ e with q|q|⟨es0,es',⟨q1,q2⟩|⟨g,q1,q2⟩,q3,q4⟩|⟨kt1,ks1,es0,es',q1,q2,q3⟩
  ·cases q
  ·exact h.vec b g es x q hr
  ·cases q2
  ·cases q2
   have hv:=h.vec b _ es0 x q1 hr
   refine⟨hv.wd,by rw[q3];exact hv.len,hv.cap,hv.nil,fun j o hj=> ?_⟩
   obtain⟨c,T,f,h1,h2,h3,h4⟩:=hv.row j o hj
   exact⟨c,T,f,h1,h2,h3,q4 _ _ h4⟩
  ·cases q2
 ·intro b g es g' e hg
  rcases hw b _ e with q|q|⟨es0,es',⟨q1,q2⟩|⟨g,q1,q2⟩,q3,q4⟩|⟨kt1,ks1,es0,es',q1,q2,q3⟩
  ·cases q
  ·exact h.vgen b g es g' q hg
  ·cases q2
  ·cases q2;exact h.vgen b _ es0 g' q1 hg
  ·cases q2
 ·intro b kt vt l j e hj
  rcases hw b _ e with q|q|⟨es0,es',⟨q1,q2⟩|⟨g,q1,q2⟩,q3,q4⟩|⟨kt1,ks1,es0,es',q1,q2,q3⟩
  ·cases q
  ·exact h.map b kt vt l j q hj
  ·cases q2
  ·cases q2
  ·cases q2
 ·intro b kt ks es j e hj
  rcases hw b _ e with q|q|⟨es0,es',⟨q1,q2⟩|⟨g,q1,q2⟩,q3,q4⟩|⟨kt1,ks1,es0,es',q1,q2,q3⟩
  ·cases q
  ·exact h.fmap b kt ks es j q hj
  ·cases q2
  ·cases q2
  ·cases q2
   obtain⟨ms,h1,h2⟩:=h.fmap b _ _ es0 j q1 hj
   exact⟨ms,h1,h2.size,q3 _ h2.vals,h2.ent⟩
theorem fitB_ok {p:PB}{x:Blk}{acc acc':List Dat}(h:fitB p x acc=some acc'):(∃e,acc'=acc++e)∧ ∀ext,instB p (acc'++ext)=.gone∨instB p (acc'++ext)=x∨
  (∃es es',((x=.cells es∧instB p (acc'++ext)=.cells es')∨ ∃g,x=.vec g es∧instB p (acc'++ext)=.vec g es')∧esW es'=esW es∧ ∀r σ get o,ERel r σ es get o→ERel r σ es' get o)∨
  ∃kt ks es es',x=.fmap kt ks es∧instB p (acc'++ext)=.fmap kt ks es'∧ ∀r σ a,LRel r σ es a→LRel r σ es' a:=by
 cases p with
 |gone=>simp only[fitB,Option.some.injEq]at h;subst h;exact⟨⟨[],by simp⟩,fun ext=>.inl rfl⟩
 |cells ps=>
  cases x<;>simp only[fitB]at h<;>try cases h
  have k:=j0n h
  exact⟨k.ext,fun ext=>.inr (.inr (.inl ⟨_,_,.inl ⟨rfl,rfl⟩,k.w _,fun r σ get o he=>k.erel ext r σ get o he⟩))⟩
 |arr t q=>
  cases x<;>simp only[fitB]at h<;>try cases h
  split at h
  ·rename_i l hg hl
   obtain⟨e,rfl⟩:=a0w hl
   subst e
   have:=Nat.eq_of_beq_eq_true hg
   subst this
   obtain⟨rfl,rfl⟩:=d0z h
   exact⟨⟨_,rfl⟩,fun ext=>.inr (.inl (by simp only[instB,f1i]))⟩
  ·cases h
 |frz t q=>
  cases x<;>simp only[fitB]at h<;>try cases h
  split at h
  ·rename_i l hg hl
   obtain⟨e,rfl⟩:=a0w hl
   subst e
   have:=Nat.eq_of_beq_eq_true hg
   subst this
   obtain⟨rfl,rfl⟩:=d0z h
   exact⟨⟨_,rfl⟩,fun ext=>.inr (.inl (by simp only[instB,f1i]))⟩
  ·cases h
 |iter a q=>
  cases x<;>simp only[fitB]at h<;>try cases h
  split at h
  ·rename_i t p0 _ acc1 h1
   obtain⟨rfl,rfl⟩:=d0z h1
   obtain⟨rfl,rfl⟩:=d0z h
   refine⟨⟨[.s t,.n p0],by simp⟩,fun ext=>.inr (.inl ?_)⟩
   have e1:gs ((acc++[.s t])++[.n p0]++ext) acc.length=t:=by
    unfold gs
    rw[List.append_assoc,List.append_assoc,List.getElem?_append_right (Nat.le_refl _)];simp
   have e2:gn ((acc++[.s t])++[.n p0]++ext) (acc++[Dat.s t]).length=p0:=by
    unfold gn
    rw[List.append_assoc,List.getElem?_append_right (Nat.le_refl _)];simp
   show Blk.iter (gs _ acc.length) (gn _ (acc++[Dat.s t]).length)=_
   rw[e1,e2]
  ·cases h
 |vec ps=>
  cases x<;>simp only[fitB]at h<;>try cases h
  split at h
  ·rename_i hg
   obtain rfl:=a0n hg
   have k:=j0n h
   exact⟨k.ext,fun ext=>.inr (.inr (.inl ⟨_,_,.inr ⟨_,rfl,rfl⟩,k.w _,fun r σ get o he=>k.erel ext r σ get o he⟩))⟩
  ·cases h
 |map kt vt q=>
  cases x<;>simp only[fitB]at h<;>try cases h
  split at h
  ·rename_i l hl
   obtain⟨e,rfl⟩:=a0w hl
   cases e
   obtain⟨rfl,rfl⟩:=d0z h
   exact⟨⟨_,rfl⟩,fun ext=>.inr (.inl (by simp only[instB,f1i]))⟩
  ·cases h
 |fmap kt q ps=>
  cases x<;>simp only[fitB]at h<;>try cases h
  split at h
  ·rename_i l hl
   obtain⟨e,rfl⟩:=a0w hl
   cases e
   split at h
   ·rename_i a ha
    obtain⟨rfl,rfl⟩:=d0z ha
    have k:=j0n h
    obtain⟨e1,he1⟩:=k.ext
    refine⟨⟨_,by rw[he1,List.append_assoc]⟩,fun ext=>.inr (.inr (.inr ⟨_,_,_,_,rfl,?_,fun r σ a ha=>k.rel ext r σ a ha⟩))⟩
    simp only[instB]
    congr 1
    rw[he1,List.append_assoc,f1i]
   ·cases h
  ·cases h
theorem y1e: ∀{bs:List PB} {xs:List Blk} {acc acc':List Dat},q1s bs xs acc=some acc'→(∃e,acc'=acc++e)∧bs.length=xs.length∧ ∀(ext:List Dat) (b:Nat) x',(instBs bs (acc'++ext))[b]? =some x'→ ∃x,xs[b]? =some x∧(x'=.gone∨x'=x∨
  (∃es es',((x=.cells es∧x'=.cells es')∨ ∃g,x=.vec g es∧x'=.vec g es')∧esW es'=esW es∧ ∀r σ get o,ERel r σ es get o→ERel r σ es' get o)∨
  ∃kt ks es es',x=.fmap kt ks es∧x'=.fmap kt ks es'∧ ∀r σ a,LRel r σ es a→LRel r σ es' a)
 |[],xs,acc,acc',h=>by
  cases xs with
  |nil=>simp only[q1s,Option.some.injEq]at h;subst h;exact⟨⟨[],by simp⟩,rfl,fun ext b x' e=>by simp[instBs]at e⟩
  |cons=>simp[q1s]at h
 |p::bs,xs,acc,acc',h=>by
  cases xs with
  |nil=>simp[q1s]at h
  |cons x xs=>
   simp only[q1s]at h
   split at h
   ·rename_i a ha
    obtain⟨⟨e1,rfl⟩,k1⟩:=fitB_ok ha
    obtain⟨⟨e2,rfl⟩,k2,k3⟩:=y1e h
    refine⟨⟨e1++e2,by rw[List.append_assoc]⟩,by simp[k2],fun ext b x' e=> ?_⟩
    cases b with
    |zero=>
     simp only[instBs,List.map_cons,List.getElem?_cons_zero,Option.some.injEq]at e
     have:=k1 (e2++ext)
     rw[←List.append_assoc,e]at this
     exact⟨x,rfl,this⟩
    |succ b=>exact k3 ext b x' (by simpa [instBs]using e)
   ·cases h
theorem c1f {ps:List PV}{bs:List PB}{t:List SV}{env:List Dat}(h:fitS ps bs t s=some env)(hr:Rel r σ s w){t':Array Value}(ht:LRel r σ t t')(lg:List Nat):Rel r σ ⟨instBs bs env,lg⟩ w∧LRel r σ (instL ps env) t'∧bs.length=s.len:=by
 unfold fitS at h
 split at h
 ·rename_i a ha
  have k:=j0n ha
  obtain⟨⟨e,rfl⟩,k2,k3⟩:=y1e h
  have kk:=k3 []
  rw[List.append_nil]at kk
  refine⟨hr.weak (by simp[SW.len,instBs,k2]) fun b x' e'=> ?_,k.rel e r σ t' ht,k2⟩
  obtain⟨x,q1,q2⟩:=kk b x' e'
  rcases q2 with q2|q2|⟨es,es',⟨u1,u2⟩|⟨g,u1,u2⟩,u3,u4⟩|⟨kt,ks,es,es',u1,u2,u3⟩
  ·exact .inl q2
  ·subst q2;exact .inr (.inl q1)
  ·subst u1;exact .inr (.inr (.inl ⟨es,es',.inl ⟨q1,u2⟩,u3,u4 r σ⟩))
  ·subst u1;exact .inr (.inr (.inl ⟨es,es',.inr ⟨g,q1,u2⟩,u3,u4 r σ⟩))
  ·subst u1;exact .inr (.inr (.inr ⟨kt,ks,es,es',q1,u2,u3 r σ⟩))
 ·cases h
theorem e2r {K:Nat}(h:o2s K s=true): ∀b,b<K→g0e s b=0∨b∈s.log:=by
 intro b hb
 unfold o2s at h
 rw[List.all_eq_true]at h
 have:=h b (List.mem_range.2 hb)
 rw[Bool.or_eq_true]at this
 rcases this with q|q
 ·exact .inl (Nat.eq_of_beq_eq_true q)
 ·exact .inr (List.contains_iff_mem.1 q)
theorem p2p {K:Nat}{m:List Nat}(hid: ∀i,i<K→m[i]? =some i){ps:List PV}{bs:List PB}{t:List SV}{env:List Dat}(h:h2y m K ps bs t s=some env)(hK:K≤s.len)(hr:Rel r σ s w){t':Array Value}(ht:LRel r σ t t'):
  ∃r2,(∀lg,Rel r2 σ ⟨instBs bs env,lg⟩ w)∧LRel r2 σ (instL ps env) t'∧FrameK K s.log r r2 σ σ w w∧K≤bs.length:=by
 unfold h2y at h
 split at h
 ·rename_i hg
  rw[Bool.and_eq_true]at hg
  have rel:=hr.view (gt:=g0) hg.1
  have rt:=ht.ren (m:=m) (gt:=g0) (s:=s) RF
  have hlen:K≤m.length:=by
   rcases Nat.eq_zero_or_pos K with q|q
   ·omega
   ·have:=(List.getElem?_eq_some_iff.1 (hid (K-1) (by omega))).1;omega
  refine⟨_,fun lg=>(c1f h rel rt lg).1,(c1f h rel rt []).2.1,b2u hr hK hg.1 hid (e2r hg.2),?_⟩
  have:=(c1f h rel rt []).2.2
  rw[z0d]at this;omega
 ·cases h
theorem o2h (K:Nat)(roots:List SV)(s:SW): ∀i,i<K→(w0w K roots s)[i]? =some i:=by
 intro i hi
 obtain⟨e,h⟩:=f2j K roots s
 rw[h,List.getElem?_append_left (by simpa using hi),List.getElem?_range hi]
theorem k1i {K:Nat}{ps:List PV}{bs:List PB}{t:List SV}{env:List Dat}(h:n1n K ps bs t s=some env)(hK:K≤s.len)(hr:Rel r σ s w){t':Array Value}(ht:LRel r σ t t'):
  ∃r2,(∀lg,Rel r2 σ ⟨instBs bs env,lg⟩ w)∧LRel r2 σ (instL ps env) t'∧FrameK K s.log r r2 σ σ w w∧K≤bs.length:=
 p2p (o2h K _ s) h hK hr (i2a ht)
theorem h1l {K:Nat}: ∀(hs:List (Nat×Ty)) {t:List SV} {s:SW} {r:RM} {t':Array Value},Rel r σ s w→LRel r σ t t'→K≤s.len→
  ∃r2,Rel r2 σ (nilT hs t s).2 w∧LRel r2 σ (nilT hs t s).1 t'∧(∀log,FrameK K log r r2 σ σ w w)∧K≤(nilT hs t s).2.len∧(nilT hs t s).2.log=s.log∧ ∀b,b<K→(nilT hs t s).2.blk b=s.blk b
 |[],t,s,r,t',hr,ht,hK=>⟨r,hr,ht,fun log=>FrameK.refl ..,hK,rfl,fun _ _=>rfl⟩
 |(k,ty)::hs,t,s,r,t',hr,ht,hK=>by
  unfold nilT
  split
  ·rename_i hk
   obtain⟨h1,h2,h3⟩:=hr.newNil ty
   obtain⟨v',q1,q2⟩:=ht.get hk
   cases q2
   have ht2:LRel (r.setArr s.len 0 (l0y ty.width)) σ (t.set k (.own s.len 0)) t':=by
    have:=(ht.mono h2 (Snap.le_refl _)).set k (v:=.own s.len 0) (v':=.slice none 0 0) (.own s.len 0 (l0y ty.width) (by simp[RM.setArr]))
    have e:t'.setIfInBounds k (.slice none 0 0)=t':=by
     apply Array.ext_getElem?
     intro i
     rw[Array.getElem?_setIfInBounds]
     by_cases e:k=i
     ·subst e;rw[if_pos rfl,if_pos (Array.getElem?_eq_some_iff.1 q1).1,q1]
     ·rw[if_neg e]
    rwa [e]at this
   obtain⟨r2,a1,a2,a3,a4,a5,a6⟩:=h1l (K:=K) hs h1 ht2 (by rw[SW.len_push];omega)
   refine⟨r2,a1,a2,fun log=>(Frame.toK (n:=s.len) ⟨rfl,rfl,rfl,Nat.le_refl _,h3.fresh,fun _ _ _=>rfl,fun b hb _=>c0l (by omega),.refl⟩ h2 (Snap.le_refl _) hK).trans (a3 log) fun _ h _=>h,a4,a5,fun b hb=>by rw[a6 b hb,SW.blk_push_ne _ _ (by omega)]⟩
  ·exact h1l hs hr ht hK
end
end Go.Proofs.Ytoehlcomhpnjgaa.Vx
