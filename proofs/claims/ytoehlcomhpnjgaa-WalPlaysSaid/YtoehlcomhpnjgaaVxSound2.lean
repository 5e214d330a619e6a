import Derived.Test.YtoehlcomhpnjgaaVxSound1
namespace Go.Proofs.Ytoehlcomhpnjgaa.Vx
open Go Go.RowKit
set_option linter.unusedVariables false
theorem a0w {a b:Ty}{l:List a.den}{l':List b.den}(h:c0r a b l=some l'): ∃e:a=b,l'=e▸l:=by
 unfold c0r at h
 split at h
 ·rename_i e _;cases h;exact⟨e,rfl⟩
 ·cases h
theorem f1k: ∀{es:List SV} {o k:Nat},o≤k→k<o+esW es→ ∃q e,(q,e)∈offs es o∧q≤k∧k<q+e.w
 |[],o,k,h1,h2=>by simp[esW]at h2;omega
 |e::es,o,k,h1,h2=>by
  rcases Nat.lt_or_ge k (o+e.w)with hk|hk
  ·exact⟨o,e,by simp[offs],h1,hk⟩
  ·simp only[esW]at h2
   obtain⟨q,e',a,b,c⟩:=f1k (es:=es) hk (by omega)
   exact⟨q,e',by simp only[offs];exact List.mem_cons_of_mem _ a,b,c⟩
theorem h0d {es:List SV}{o q:Nat}{e:SV}(h:(q,e)∈offs es o):e∈es:=by
 induction es generalizing o with
 |nil=>simp[offs]at h
 |cons x es ih=>
  simp only[offs,List.mem_cons,Prod.mk.injEq]at h
  rcases h with⟨_,rfl⟩|h
  ·exact List.mem_cons_self
  ·exact List.mem_cons_of_mem _ (ih h)
section
variable {P:Program} {r:RM} {σ:Snap} {s:SW} {w:World}
def q1x (σ:Snap)(w:World)(a:Option Addr)(t:Ty)(l:List t.den):Prop:=
 ∀i (h:i<l.length),∃j o c T f,a=some ⟨j,o,none⟩∧w.heap[j]? =some (.cells c T f)∧RD σ t (fun k=>c[k]?) (o+i*t.width) l[i]
theorem c1k (hr:Rel r σ s w){v:SV}{v':Value}(hv:VRel r σ v v'){d:DL}(h:b0c v s=some d):
  ∃a cap,v'=.slice a d.l.length cap∧d.l.length≤cap∧q1x σ w a d.t d.l:=by
 unfold b0c at h
 split at h
 ·rename_i t l
  cases h
  cases hv with
  |imm _ _ _ h=>
   rw[x0x]at h
   obtain⟨a,len,cap,h1,h2,h3,h4⟩:=h
   cases h1
   subst h2
   refine⟨a,cap,rfl,h3,fun i hi=> ?_⟩
   obtain⟨p,c,k1,k2,k3,k4⟩:=h4 i hi
   obtain⟨T,f,hw⟩:=hr.snap _ _ k3
   obtain⟨pb,po,ps⟩:=p
   simp only at k2;subst k2
   exact⟨pb,po,c,T,f,k1,hw,k4⟩
 ·rename_i b g
  split at h
  ·rename_i t g' l hb
   split at h
   ·rename_i hg
    cases h
    obtain rfl:=a0n hg
    cases hv with
    |own _ _ x hx=>
     have ha:=hr.arr b t g l x hb hx
     simp only
     refine⟨x.addr,x.cap,by rw[ha.len],by rw[ha.len];exact ha.cap,fun i hi=> ?_⟩
     cases hxa:x.a with
     |none=>have:=ha.nil hxa;have:=ha.cap;have:=ha.len;omega
     |some jo=>
      obtain⟨j,o⟩:=jo
      obtain⟨c,T,f,h1,h2,h3,h4⟩:=ha.row j o hxa
      exact⟨j,o,c,T,f,by simp[ALoc.addr,hxa],h1,h4 i hi⟩
   ·cases h
  ·rename_i t g' l hb
   split at h
   ·rename_i hg
    cases h
    obtain rfl:=a0n hg
    cases hv with
    |own _ _ x hx=>
     obtain⟨h1,h2,h3,h0,h4⟩:=hr.frz b t g l x hb hx
     simp only
     refine⟨x.addr,x.cap,by rw[h2],by rw[h2];exact h3,fun i hi=> ?_⟩
     obtain⟨j,o,c,q1,q2,q3⟩:=h4 i hi
     obtain⟨T,f,hw⟩:=hr.snap _ _ q2
     exact⟨j,o,c,T,f,by simp[ALoc.addr,q1],hw,q3⟩
   ·cases h
  ·cases h
 ·rename_i b g lo n
  split at h
  ·rename_i t g' l hb
   split at h
   ·rename_i hg
    cases h
    obtain rfl:=a0n hg
    cases hv with
    |part _ _ _ _ x a cap hx h1 h2 h3 h4 h5=>
     have ha:=hr.arr b t g l x hb hx
     have hlen:((l.drop lo).take n).length=n:=by simp;have:=ha.len;omega
     simp only[hlen]
     refine⟨a,cap,rfl,h2,fun i hi=> ?_⟩
     rw[hlen]at hi
     obtain⟨j,o,q1,q2⟩:=h4 (by omega)
     obtain⟨c,T,f,u1,u2,u3,u4⟩:=ha.row j o q1
     have hil:lo+i<l.length:=by have:=ha.len;omega
     refine⟨j,o+lo*x.wd,c,T,f,q2,u1,?_⟩
     have:=u4 (lo+i) hil
     rw[ha.wd]
     simp only[List.getElem_take,List.getElem_drop]
     rwa [Nat.add_assoc,←Nat.add_mul]
   ·cases h
  ·rename_i t g' l hb
   split at h
   ·rename_i hg
    cases h
    obtain rfl:=a0n hg
    cases hv with
    |part _ _ _ _ x a cap hx h1 h2 h3 h4 h5=>
     obtain⟨k1,k2,k3,k0,k4⟩:=hr.frz b t g l x hb hx
     have hlen:((l.drop lo).take n).length=n:=by simp;omega
     simp only[hlen]
     refine⟨a,cap,rfl,h2,fun i hi=> ?_⟩
     rw[hlen]at hi
     obtain⟨j,o,q1,q2⟩:=h4 (by omega)
     have hil:lo+i<l.length:=by omega
     obtain⟨j',o',c,u1,u2,u3⟩:=k4 (lo+i) hil
     rw[q1]at u1;cases u1
     obtain⟨T,f,hw⟩:=hr.snap _ _ u2
     refine⟨j,o+lo*x.wd,c,T,f,q2,hw,?_⟩
     rw[k1]
     simp only[List.getElem_take,List.getElem_drop]
     rwa [Nat.add_assoc,←Nat.add_mul]
   ·cases h
  ·cases h
 ·cases h
theorem l1a (hr:Rel r σ s w){v:SV}{v':Value}(hv:VRel r σ v v'){t:Ty}{l:List t.den}(h:c0h t v s=some l):
  ∃a cap,v'=.slice a l.length cap∧l.length≤cap∧q1x σ w a t l:=by
 unfold c0h at h
 split at h
 ·cases h
  cases hv
  exact⟨none,0,rfl,Nat.le_refl _,fun i hi=>by simp at hi⟩
 ·split at h
  ·rename_i d hd
   obtain⟨e,rfl⟩:=a0w h
   obtain⟨t',l'⟩:=d
   simp only at e
   subst e
   exact c1k hr hv hd
  ·cases h
theorem l1c (hr:Rel r σ s w){v:SV}{v':Value}(hv:VRel r σ v v'){t:Ty}{l:List t.den}(h:p0p t v s=some l):
  ∃a cap,v'=.slice a l.length cap∧l.length≤cap∧q1x σ w a t l:=by
 unfold p0p at h
 split at h
 ·rename_i b o n
  split at h
  ·rename_i es hb
   split at h
   ·rename_i t' n' l0 he
    split at h
    ·rename_i hn
     obtain⟨e,rfl⟩:=a0w h
     subst e
     obtain rfl:=a0n hn
     cases hv with
     |asl _ _ _ j p hj=>
      obtain⟨c,T,f,h1,h2,h3,h4⟩:=hr.cel _ _ _ _ hb hj
      obtain⟨k1,k2⟩:=h4.arr _ _ _ _ (v0p he)
      have k1:l0.length=n:=k1
      refine⟨some ⟨j,p+o,none⟩,n,?_,?_,fun i hi=>⟨j,p+o,c,T,f,rfl,h1,k2 i hi⟩⟩
      ·show Value.slice _ n n=Value.slice _ l0.length n
       rw[k1]
      ·show l0.length≤n
       rw[k1];exact Nat.le_refl _
    ·cases h
   ·cases h
  ·cases h
 ·rename_i b o n m
  split at h
  ·rename_i es hb
   split at h
   ·rename_i t' n' l0 he
    split at h
    ·rename_i hn
     split at h
     ·rename_i l1 hl1
      obtain⟨e,rfl⟩:=a0w hl1
      subst e
      cases h
      obtain rfl:=a0n hn
      cases hv with
      |asp _ _ _ _ j p hj h1=>
       obtain⟨c,T,f,e1,e2,e3,e4⟩:=hr.cel _ _ _ _ hb hj
       obtain⟨k1,k2⟩:=e4.arr _ _ _ _ (v0p he)
       have k1:l0.length=m:=k1
       have kl:(l0.take n).length=n:=by rw[List.length_take,k1,Nat.min_eq_left h1]
       refine⟨some ⟨j,p+o,none⟩,m,?_,by rw[kl];exact h1,fun i hi=>⟨j,p+o,c,T,f,rfl,e1,?_⟩⟩
       ·rw[kl]
       ·rw[List.getElem_take]
        exact k2 i (by rw[kl]at hi;omega)
     ·cases h
    ·cases h
   ·cases h
  ·cases h
 ·exact l1a hr hv h
theorem g1b (hr:Rel r σ s w)(b:Nat): ∃σ',σ.le σ'∧Rel r σ' (b0s s b) w∧(∀b',b'≠b→(b0s s b).blk b'=s.blk b')∧((b0s s b).blk b=s.blk b∨ ∃t g l,(b0s s b).blk b=some (.frz t g l))∧
  (b0s s b).len=s.len∧(∀x,x∈s.log→x∈(b0s s b).log)∧
  (∀t g l x,s.blk b=some (.arr t g l)→r.arr b g=some x→(b0s s b).blk b=some (.frz t g l))∧Stay r (b0s s b).log σ σ' w:=by
 unfold b0s
 cases hb:s.blk b with
 |none=>exact⟨σ,Snap.le_refl _,hr,fun _ _=>rfl,.inl hb,rfl,fun _ h=>h,(fun t g l x e=>by cases e),.refl⟩
 |some y=>
  cases y with
  |arr t g l=>
   have hbl:b<s.len:=(List.getElem?_eq_some_iff.1 hb).1
   simp only
   have hself:((s.note b).setBlk b (.frz t g l)).blk b=some (.frz t g l):=SW.set_blk _ _ _ (by rw[SW.note_len];exact hbl)
   have hne: ∀b',b'≠b→((s.note b).setBlk b (.frz t g l)).blk b'=s.blk b':=fun b' e'=>by rw[SW.set_ne _ _ _ e',SW.note_blk]
   have hlen:((s.note b).setBlk b (.frz t g l)).len=s.len:=by rw[SW.set_len,SW.note_len]
   have hlog: ∀x,x∈s.log→x∈((s.note b).setBlk b (.frz t g l)).log:=fun x hx=>SW.note_sub s b x hx
   have main: ∃σ',σ.le σ'∧Rel r σ' ((s.note b).setBlk b (.frz t g l)) w∧Stay r ((s.note b).setBlk b (.frz t g l)).log σ σ' w:=by
    cases hx:r.arr b g with
    |none=>
     refine⟨σ,Snap.le_refl _,hr.change (b:=b) (x:=.frz t g l) ?_ hself hne (by rw[hlen];exact Nat.le_refl _),.refl⟩
     refine⟨RM.le_refl _,Snap.le_refl _,fun _ _ _ k=>k,fun _ _ _ _ k=>k,fun _ _ _ k=>k,Nat.le_refl _,fun _ _ _=>rfl,fun j hj=>hr.inb _ _ hj,fun j hj=>hj.elim,fun j hj=>.inl hj,fun j c hj=>.inl hj,(fun _ _ _ e=>by cases e),(fun _ _ _ _ e=>by cases e),?_,(fun _ _ _ _ e=>by cases e)⟩
     intro t' g' l' p e hp;cases e;rw[hx]at hp;cases hp
    |some x=>
     have ha:=hr.arr b t g l x hb hx
     cases hxa:x.a with
     |none=>
      refine⟨σ,Snap.le_refl _,hr.change (b:=b) (x:=.frz t g l) ?_ hself hne (by rw[hlen];exact Nat.le_refl _),.refl⟩
      refine⟨RM.le_refl _,Snap.le_refl _,fun _ _ _ k=>k,fun _ _ _ _ k=>k,fun _ _ _ k=>k,Nat.le_refl _,fun _ _ _=>rfl,fun j hj=>hr.inb _ _ hj,fun j hj=>hj.elim,fun j hj=>.inl hj,fun j c hj=>.inl hj,(fun _ _ _ e=>by cases e),(fun _ _ _ _ e=>by cases e),?_,(fun _ _ _ _ e=>by cases e)⟩
      intro t' g' l' p e hp;cases e;rw[hx]at hp;cases hp
      refine⟨ha.wd,ha.len,ha.cap,ha.nil,fun i hi=> ?_⟩
      have:=ha.nil hxa;have:=ha.cap;have:=ha.len;omega
     |some jo=>
      obtain⟨j,o⟩:=jo
      obtain⟨c,T,f,h1,h2,h3,h4⟩:=ha.row j o hxa
      have hlive:r.live (s.blk b) b j:=by rw[hb];exact⟨x,o,hx,hxa⟩
      have hfree:=hr.free b j hlive
      have hle:σ.le (fun j'=>if j'=j then some c else σ j'):=fun j' c' hj'=>by
       show(if j'=j then some c else σ j')=some c'
       split
       ·rename_i e;subst e;rw[hfree]at hj';cases hj'
       ·exact hj'
      refine⟨fun j'=>if j'=j then some c else σ j',hle,hr.change (b:=b) (x:=.frz t g l) ?_ hself hne (by rw[hlen];exact Nat.le_refl _),fun j' c' hj'=>by
       by_cases e:j'=j
       ·subst e;exact .inr (.inr ⟨b,SW.note_mem s b,RM.live_at hlive⟩)
       ·simp only[e,if_false]at hj';exact .inl hj'⟩
      refine⟨RM.le_refl _,hle,fun _ _ _ k=>k,fun _ _ _ _ k=>k,fun _ _ _ k=>k,Nat.le_refl _,fun _ _ _=>rfl,fun j hj=>hr.inb _ _ hj,fun j hj=>hj.elim,fun j hj=>.inl hj,fun j' c' hj=> ?_,(fun _ _ _ e=>by cases e),(fun _ _ _ _ e=>by cases e),?_,(fun _ _ _ _ e=>by cases e)⟩
      ·skip
       split at hj
       ·rename_i e;subst e;cases hj;exact .inr ⟨.inl hlive,fun h=>h.elim,T,f,h1⟩
       ·exact .inl hj
      ·intro t' g' l' p e hp;cases e;rw[hx]at hp;cases hp
       exact⟨ha.wd,ha.len,ha.cap,ha.nil,fun i hi=>⟨j,o,c,hxa,by simp,(h4 i hi).mono' hle⟩⟩
   obtain⟨σ',m1,m2,m3⟩:=main
   exact⟨σ',m1,m2,hne,.inr ⟨t,g,l,hself⟩,hlen,hlog,(fun t' g' l' x e _=>by cases e;exact hself),m3⟩
  |_=>exact⟨σ,Snap.le_refl _,hr,fun _ _=>rfl,.inl hb,rfl,fun _ h=>h,(fun t g l x e=>by cases e),.refl⟩
structure Kept (r:RM)(σ σ':Snap)(w:World)(s s1:SW):Prop where
 blk: ∀b,s1.blk b=s.blk b∨ ∃t g l,s1.blk b=some (.frz t g l)
 len:s1.len=s.len
 log: ∀x,x∈s.log→x∈s1.log
 stay:Stay r s1.log σ σ' w
theorem Kept.refl (s:SW):Kept r σ σ w s s:=⟨fun _=>.inl rfl,rfl,fun _ h=>h,.refl⟩
theorem Kept.trans {σ1 σ2:Snap}{a b c:SW}(h:Kept r σ σ1 w a b)(k:Kept r σ1 σ2 w b c):Kept r σ σ2 w a c:=by
 refine⟨fun x=> ?_,k.len.trans h.len,fun x hx=>k.log x (h.log x hx),h.stay.trans k.stay k.log⟩
 rcases k.blk x with e|e
 ·rw[e];exact h.blk x
 ·exact .inr e
theorem Kept.cells {σ':Snap}{s s1:SW}(h:Kept r σ σ' w s s1){b:Nat}{es:List SV}(e:s1.blk b=some (.cells es)):s.blk b=some (.cells es):=by
 rcases h.blk b with k|⟨t,g,l,k⟩
 ·rw[←k];exact e
 ·rw[k]at e;cases e
theorem Kept.arr {σ':Snap}{s s1:SW}(h:Kept r σ σ' w s s1){b:Nat}{t:Ty}{g:Nat}{l:List t.den}(e:s1.blk b=some (.arr t g l)):s.blk b=some (.arr t g l):=by
 rcases h.blk b with k|⟨t,g,l,k⟩
 ·rw[←k];exact e
 ·rw[k]at e;cases e
theorem f1r (hr:Rel r σ s w){v:SV}{v':Value}(hv:VRel r σ v v'){t:Ty}{l:List t.den}(h:c0h t v s=some l):
  ∃σ',σ.le σ'∧Rel r σ' (f0k v s) w∧Kept r σ σ' w s (f0k v s)∧ ∀σ2 v2,σ'.le σ2→VRel r σ2 v v2→RD σ2 (.sl t) (fun _=>some v2) 0 l:=by
 have kept: ∀b σ',(∀b',b'≠b→(b0s s b).blk b'=s.blk b')→((b0s s b).blk b=s.blk b∨ ∃t g l,(b0s s b).blk b=some (.frz t g l))→(b0s s b).len=s.len→(∀x,x∈s.log→x∈(b0s s b).log)→Stay r (b0s s b).log σ σ' w→Kept r σ σ' w s (b0s s b):=by
  intro b σ' m3 m4 m5 m6 m8
  refine⟨fun b'=> ?_,m5,m6,m8⟩
  by_cases e:b'=b
  ·subst e;exact m4
  ·exact .inl (m3 b' e)
 have blkcase: ∀b g,(∀v2,VRel r σ v v2→ ∃x,r.arr b g=some x)→f0k v s=b0s s b→
   (∀s':SW,(∀t' g' l',s.blk b=some (.arr t' g' l')→g=g'→s'.blk b=some (.frz t' g' l'))→(∀t' g' l',s.blk b=some (.frz t' g' l')→s'.blk b=some (.frz t' g' l'))→c0h t v s'=some l)→
   (∀(σ':Snap) (s':SW),Rel r σ' s' w→c0h t v s'=some l→(∀t' g' l',s'.blk b≠some (.arr t' g' l'))→ ∀σ2 v2,VRel r σ2 v v2→RD σ' (.sl t) (fun _=>some v2) 0 l)→
   ∃σ',σ.le σ'∧Rel r σ' (f0k v s) w∧Kept r σ σ' w s (f0k v s)∧ ∀σ2 v2,σ'.le σ2→VRel r σ2 v v2→RD σ2 (.sl t) (fun _=>some v2) 0 l:=by
  intro b g hx hf hc hrd
  obtain⟨σ',m1,m2,m3,m4,m5,m6,m7,m8⟩:=g1b hr b
  obtain⟨x,hx0⟩:=hx v' hv
  rw[hf]
  refine⟨σ',m1,m2,kept b σ' m3 m4 m5 m6 m8,fun σ2 v2 hle2 hv2=>(hrd σ' _ m2 (hc _ (fun t' g' l' e e'=>by subst e';exact m7 t' _ l' x e hx0) (fun t' g' l' e=> ?_)) (fun t' g' l' e=> ?_) σ2 v2 hv2).mono' hle2⟩
  ·rcases m4 with q|⟨t2,g2,l2,q⟩
   ·rw[q];exact e
   ·have:b0s s b=s:=by unfold b0s;rw[e]
    rw[this];exact e
  ·rcases m4 with q|⟨t2,g2,l2,q⟩
   ·rw[q]at e
    have:(b0s s b).blk b=some (.frz t' g' l'):=by
     unfold b0s
     rw[e]
     exact SW.set_blk _ _ _ (by rw[SW.note_len];exact(List.getElem?_eq_some_iff.1 e).1)
    rw[q,e]at this;cases this
   ·rw[q]at e;cases e
 cases v with
 |nilsl=>
  simp only[c0h,Option.some.injEq]at h
  subst h
  refine⟨σ,Snap.le_refl _,hr,Kept.refl _,fun σ2 v2 _ hv2=> ?_⟩
  cases hv2
  rw[x0x]
  exact⟨none,0,0,rfl,rfl,Nat.le_refl _,fun i hi=>by simp at hi⟩
 |imm t' l'=>
  simp only[c0h,b0c]at h
  obtain⟨e,rfl⟩:=a0w h
  subst e
  exact⟨σ,Snap.le_refl _,hr,Kept.refl _,fun σ2 v2 _ hv2=>by cases hv2 with|imm _ _ _ h=>exact h⟩
 |own b g=>
  refine blkcase b g (fun v2 hv2=>by cases hv2 with|own _ _ x hx=>exact⟨x,hx⟩) rfl ?_ ?_
  ·intro s' h1 h2
   simp only[c0h,b0c]at h⊢
   cases hb:s.blk b with
   |none=>simp[hb]at h
   |some y=>
    cases y with
    |arr t' g' l'=>
     simp only[hb]at h
     cases hg:Nat.beq g g' with
     |false=>simp[hg]at h
     |true=>rw[h1 t' g' l' hb (a0n hg)];simpa [hg]using h
    |frz t' g' l'=>simp only[hb]at h;rw[h2 t' g' l' hb];exact h
    |_=>simp[hb]at h
  ·intro σ' s' hr' hc hn σ2 v2 hv2
   simp only[c0h,b0c]at hc
   cases hb:s'.blk b with
   |none=>simp[hb]at hc
   |some y=>
    cases y with
    |arr t' g' l'=>exact absurd hb (hn _ _ _)
    |frz t' g' l'=>
     simp only[hb]at hc
     cases hg:Nat.beq g g' with
     |false=>simp[hg]at hc
     |true=>
      simp only[hg]at hc
      obtain⟨e,rfl⟩:=a0w hc
      subst e
      obtain rfl:=a0n hg
      cases hv2 with
      |own _ _ x hx=>
       obtain⟨k1,k2,k3,k0,k4⟩:=hr'.frz b _ g l' x hb hx
       rw[x0x]
       refine⟨_,_,_,rfl,k2.symm,k3,fun i hi=> ?_⟩
       obtain⟨j,o,c,q1,q2,q3⟩:=k4 i hi
       exact⟨⟨j,o,none⟩,c,by simp[ALoc.addr,q1],rfl,q2,q3⟩
    |_=>simp[hb]at hc
 |part b g lo n=>
  refine blkcase b g (fun v2 hv2=>by cases hv2 with|part _ _ _ _ x _ _ hx=>exact⟨x,hx⟩) rfl ?_ ?_
  ·intro s' h1 h2
   simp only[c0h,b0c]at h⊢
   cases hb:s.blk b with
   |none=>simp[hb]at h
   |some y=>
    cases y with
    |arr t' g' l'=>
     simp only[hb]at h
     cases hg:Nat.beq g g' with
     |false=>simp[hg]at h
     |true=>rw[h1 t' g' l' hb (a0n hg)];simpa [hg]using h
    |frz t' g' l'=>simp only[hb]at h;rw[h2 t' g' l' hb];exact h
    |_=>simp[hb]at h
  ·intro σ' s' hr' hc hn σ2 v2 hv2
   simp only[c0h,b0c]at hc
   cases hb:s'.blk b with
   |none=>simp[hb]at hc
   |some y=>
    cases y with
    |arr t' g' l'=>exact absurd hb (hn _ _ _)
    |frz t' g' l'=>
     simp only[hb]at hc
     cases hg:Nat.beq g g' with
     |false=>simp[hg]at hc
     |true=>
      simp only[hg]at hc
      obtain⟨e,rfl⟩:=a0w hc
      subst e
      obtain rfl:=a0n hg
      cases hv2 with
      |part _ _ _ _ x a cap hx h1 h2 h3 h4 h5=>
       obtain⟨k1,k2,k3,k0,k4⟩:=hr'.frz b _ g l' x hb hx
       have hlen:((l'.drop lo).take n).length=n:=by simp;omega
       rw[x0x]
       refine⟨_,_,_,rfl,hlen.symm,h2,fun i hi=> ?_⟩
       rw[hlen]at hi
       obtain⟨j,o,q1,q2⟩:=h4 (by omega)
       have hil:lo+i<l'.length:=by omega
       obtain⟨j',o',c,u1,u2,u3⟩:=k4 (lo+i) hil
       rw[q1]at u1;cases u1
       refine⟨_,c,q2,rfl,u2,?_⟩
       rw[k1]
       simp only[List.getElem_take,List.getElem_drop]
       rwa [Nat.add_assoc,←Nat.add_mul]
    |_=>simp[hb]at hc
 |_=>simp[c0h,b0c]at h
end
end Go.Proofs.Ytoehlcomhpnjgaa.Vx
