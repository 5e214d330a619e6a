import Derived.Test.YtoehlcomhpnjgaaVxBox
import Derived.Test.YtoehlcomhpnjgaaVxPure
noncomputable section
namespace Go.Proofs.Ytoehlcomhpnjgaa.Vx
open Go Go.RowKit
set_option linter.unusedVariables false
inductive CK where
 |imm (t:Ty)
 |own (t:Ty)
 |opt (es:List SV)
 |sub (p:Nat) (k:CK)
def cvE (k:CK)(e:SV)(s:SW):Option (SV×SW):=match k,e with
 |.imm _,.imm _ _=>none
 |.imm t,e=>match c0h t e s with
  |some l=>some (.imm t l,f0k e s)
  |none=>none
 |.own t,.nilsl=>some (.own s.len 0,s.push (.arr t 0 []))
 |.own _,_=>none
 |.opt d,.nilptr=>some (.optr false s.len 0,s.push (.cells d))
 |.opt _,.ptr b o=>some (.optr true b o,s)
 |.opt _,_=>none
 |.sub _ _,_=>none
def cvB0 (b i:Nat)(k:CK)(s:SW):SW:=match s.blk b with
 |some (.cells es)=>match es[i]? with
  |some e=>match cvE k e s with
   |some (e',s1)=>match s1.blk b with
    |some (.cells es1)=>(s1.note b).setBlk b (.cells (es1.set i e'))
    |_=>s
   |none=>s
  |none=>s
 |_=>s
def cvB (b i:Nat):CK→SW→SW
 |.sub p k,s=>match s.blk b with
  |some (.cells es)=>match es[i]? with
   |some (.ptr b' _)=>cvB b' p k s
   |some (.optr _ b' _)=>cvB b' p k s
   |_=>s
  |_=>s
 |k,s=>cvB0 b i k s
def k2t:List Nat→SV→SW→Option Nat
 |[],.ptr b _,_=>some b
 |p::ps,.ptr b _,s=>match s.blk b with
  |some (.cells es)=>match es[p]? with
   |some e=>k2t ps e s
   |none=>none
  |_=>none
 |p::ps,.own b _,s=>match s.blk b with
  |some (.vec _ es)=>match es[p]? with
   |some e=>k2t ps e s
   |none=>none
  |_=>none
 |[],.optr _ b _,_=>some b
 |p::ps,.optr _ b _,s=>match s.blk b with
  |some (.cells es)=>match es[p]? with
   |some e=>k2t ps e s
   |none=>none
  |_=>none
 |_,_,_=>none
def cvT:List (Nat×List Nat×Nat×CK)→List SV→SW→SW
 |[],_,s=>s
 |(q,ps,i,k)::r,t,s=>match t[q]? with
  |some v=>match k2t ps v s with
   |some b=>cvT r t (cvB b i k s)
   |none=>cvT r t s
  |none=>cvT r t s
theorem k2r: ∀{es:List SV} {i:Nat} {e e':SV},es[i]? =some e→e'.w=e.w→esW (es.set i e')=esW es
 |[],i,e,e',h,_=>by simp at h
 |x::es,0,e,e',h,hw=>by simp at h;subst h;simp[esW,hw]
 |x::es,i+1,e,e',h,hw=>by
  simp only[List.getElem?_cons_succ]at h
  simp only[List.set_cons_succ,esW,k2r h hw]
theorem h1p: ∀{es:List SV} {i:Nat} {e e':SV} {o:Nat},es[i]? =some e→e'.w=e.w→ ∀k x,(k,x)∈offs (es.set i e') o→(k,x)∈offs es o∨(x=e'∧(k,e)∈offs es o)
 |[],i,e,e',o,h,_=>by simp at h
 |y::es,0,e,e',o,h,hw=>by
  simp at h;subst h
  intro k x hx
  simp only[List.set_cons_zero,offs,List.mem_cons,Prod.mk.injEq,hw]at hx⊢
  rcases hx with⟨rfl,rfl⟩|hx
  ·exact .inr ⟨rfl,by simp⟩
  ·exact .inl (.inr hx)
 |y::es,i+1,e,e',o,h,hw=>by
  simp only[List.getElem?_cons_succ]at h
  intro k x hx
  simp only[List.set_cons_succ,offs,List.mem_cons,Prod.mk.injEq]at hx⊢
  rcases hx with hx|hx
  ·exact .inl (.inl hx)
  ·rcases h1p h hw k x hx with q|⟨q1,q2⟩
   ·exact .inl (.inr q)
   ·exact .inr ⟨q1,.inr q2⟩
section
variable {P:Program} {r:RM} {σ:Snap} {w:World}
theorem ERel.set {es:List SV}{i:Nat}{e e':SV}{get:Nat→Option Value}{o:Nat}(h:ERel r σ es get o)(hi:es[i]? =some e)(hw:e'.w=e.w)(ha:e.isArr=false)(ha':e'.isArr=false)(hv: ∀v,VRel r σ e v→VRel r σ e' v):ERel r σ (es.set i e') get o:=by
 refine⟨fun k x hx hn=> ?_,fun k t n l hx=> ?_⟩
 ·rcases h1p hi hw k x hx with q|⟨rfl,q⟩
  ·exact h.one k x q hn
  ·obtain⟨v,h1,h2⟩:=h.one k e q ha
   exact⟨v,h1,hv v h2⟩
 ·rcases h1p hi hw k _ hx with q|⟨q,_⟩
  ·exact h.arr k t n l q
  ·rw[←q]at ha';cases ha'
theorem freezeE {s:SW}(hr:Rel r σ s w){e:SV}{t:Ty}{l:List t.den}(he: ∀t l,e≠.imm t l)(h:c0h t e s=some l):
  ∃σ',σ.le σ'∧Rel r σ' (f0k e s) w∧Kept r σ σ' w s (f0k e s)∧ ∀v2,VRel r σ' e v2→RD σ' (.sl t) (fun _=>some v2) 0 l:=by
 by_cases hx: ∃v',VRel r σ e v'
 ·obtain⟨v',hv⟩:=hx
  obtain⟨σ',h1,h2,h3,h4⟩:=f1r hr hv h
  exact⟨σ',h1,h2,h3,fun v2=>h4 σ' v2 (Snap.le_refl _)⟩
 ·have go: ∀b,f0k e s=b0s s b→(∀σ' v2,VRel r σ' e v2→VRel r σ e v2)→ ∃σ',σ.le σ'∧Rel r σ' (f0k e s) w∧Kept r σ σ' w s (f0k e s)∧ ∀v2,VRel r σ' e v2→RD σ' (.sl t) (fun _=>some v2) 0 l:=by
   intro b hf hb
   obtain⟨σ',m1,m2,m3,m4,m5,m6,m7,m8⟩:=g1b hr b
   rw[hf]
   refine⟨σ',m1,m2,⟨fun b'=> ?_,m5,m6,m8⟩,fun v2 hv=>absurd ⟨v2,hb σ' v2 hv⟩ hx⟩
   by_cases q:b'=b
   ·subst q;exact m4
   ·exact .inl (m3 b' q)
  cases e with
  |nilsl=>exact absurd ⟨_,.nilsl⟩ hx
  |imm t l=>exact absurd rfl (he t l)
  |own b g=>exact go b rfl fun σ' v2 hv=>by cases hv with|own _ _ x hx=>exact .own _ _ x hx
  |part b g lo n=>exact go b rfl fun σ' v2 hv=>by cases hv with|part _ _ _ _ x a cap h h1 h2 h3 h4 h5=>exact .part _ _ _ _ x a cap h h1 h2 h3 h4 h5
  |_=>simp[c0h,b0c]at h
theorem cont_w {t:Ty}{e:SV}{s:SW}{l:List t.den}(h:c0h t e s=some l):e.w=1∧e.isArr=false:=by
 cases e<;>first|exact⟨rfl,rfl⟩|(simp[c0h,b0c]at h)
theorem Rel.newGhost {s:SW}(hr:Rel r σ s w)(d:List SV):Rel r σ (s.push (.cells d)) w∧Frame s.len s.log r r σ σ w w:=by
 have hc: ∀j n,r.cel s.len=some (j,n)→False:=fun j n h=>by have:=hr.dcel _ _ h;omega
 have ha: ∀g x,r.arr s.len g=some x→False:=fun g x h=>by have:=hr.darr _ _ _ h;omega
 have hm: ∀x,r.mp s.len=some x→False:=fun x h=>by have:=hr.dmp _ _ h;omega
 have old: ∀b x,(s.push (.cells d)).blk b=some x→b≠s.len→s.blk b=some x:=fun b x h e=>by rw[SW.blk_push_ne _ _ e]at h;exact h
 refine⟨⟨hr.snap,fun b x h=>by have:=hr.dcel b x h;rw[SW.len_push];omega,fun b g x h=>by have:=hr.darr b g x h;rw[SW.len_push];omega,fun b x h=>by have:=hr.dmp b x h;rw[SW.len_push];omega,hr.inb,?_,?_,?_,hr.uniq,?_,?_,?_,?_,?_,?_,?_⟩,.refl ..⟩
 ·intro b es j n h1 h2
  by_cases e:b=s.len
  ·subst e;exact(hc _ _ h2).elim
  ·exact hr.cel b es j n (old _ _ h1 e) h2
 ·intro b t g l x h1 h2
  by_cases e:b=s.len
  ·subst e;exact(ha _ _ h2).elim
  ·exact hr.arr b t g l x (old _ _ h1 e) h2
 ·intro b t g l x h1 h2
  by_cases e:b=s.len
  ·subst e;exact(ha _ _ h2).elim
  ·exact hr.frz b t g l x (old _ _ h1 e) h2
 ·intro b j h
  by_cases e:b=s.len
  ·subst e
   rw[SW.blk_push]at h
   obtain⟨n,h⟩:=h
   exact(hc _ _ h).elim
  ·rw[SW.blk_push_ne _ _ e]at h;exact hr.free b j h
 ·intro b t g l g' h1 h2
  by_cases e:b=s.len
  ·subst e;cases q:r.arr s.len g' with|none=>rfl|some x=>exact(ha _ _ q).elim
  ·exact hr.gen b t g l g' (old _ _ h1 e) h2
 ·intro b t p j h1 h2
  by_cases e:b=s.len
  ·subst e;exact(hm _ h2).elim
  ·exact hr.itr b t p j (old _ _ h1 e) h2
 ·intro b g es x h1 h2
  by_cases e:b=s.len
  ·subst e;exact(ha _ _ h2).elim
  ·exact hr.vec b g es x (old _ _ h1 e) h2
 ·intro b g es g' h1 h2
  by_cases e:b=s.len
  ·subst e;cases q:r.arr s.len g' with|none=>rfl|some x=>exact(ha _ _ q).elim
  ·exact hr.vgen b g es g' (old _ _ h1 e) h2
 ·intro b kt vt l j h1 h2
  by_cases e:b=s.len
  ·subst e;exact(hm _ h2).elim
  ·exact hr.map b kt vt l j (old _ _ h1 e) h2
 ·intro b kt ks es j h1 h2
  by_cases e:b=s.len
  ·subst e;exact(hm _ h2).elim
  ·exact hr.fmap b kt ks es j (old _ _ h1 e) h2
theorem cvB0_ok {K:Nat}{s:SW}(b i:Nat)(k:CK)(hr:Rel r σ s w)(hK:K≤s.len):
  ∃r2 σ2,r.le r2∧σ.le σ2∧Rel r2 σ2 (cvB0 b i k s) w∧FrameK K (cvB0 b i k s).log r r2 σ σ2 w w∧K≤(cvB0 b i k s).len∧ ∀x,x∈s.log→x∈(cvB0 b i k s).log:=by
 have same: ∃r2 σ2,r.le r2∧σ.le σ2∧Rel r2 σ2 s w∧FrameK K s.log r r2 σ σ2 w w∧K≤s.len∧ ∀x,x∈s.log→x∈s.log:=⟨r,σ,RM.le_refl _,Snap.le_refl _,hr,FrameK.refl ..,hK,fun _ h=>h⟩
 have put: ∀{s1:SW} {σ2:Snap} {r2:RM} {es:List SV} {e e':SV},Rel r2 σ2 s1 w→s1.blk b=some (.cells es)→es[i]? =some e→e'.w=e.w→e.isArr=false→e'.isArr=false→(∀v,VRel r2 σ2 e v→VRel r2 σ2 e' v)→Rel r2 σ2 ((s1.note b).setBlk b (.cells (es.set i e'))) w:=by
  intro s1 σ2 r2 es e e' h1 hb hi hw ha ha' hv
  have hlt:b<s1.len:=(List.getElem?_eq_some_iff.1 hb).1
  have h1':Rel r2 σ2 (s1.note b) w:=h1.log (by unfold SW.note;split<;>rfl)
  refine h1'.weak (SW.set_len _ _ _) fun b' x' hx=> ?_
  by_cases q:b'=b
  ·subst q
   rw[SW.set_blk _ _ _ (by rw[SW.note_len];exact hlt)]at hx
   cases hx
   exact .inr (.inr (.inl ⟨es,_,.inl ⟨by rw[SW.note_blk];exact hb,rfl⟩,k2r hi hw,fun get o he=>he.set hi hw ha ha' hv⟩))
  ·rw[SW.set_ne _ _ _ q]at hx
   exact .inr (.inl hx)
 unfold cvB0
 cases hb:s.blk b with
 |none=>exact same
 |some blk=>
  cases blk with
  |cells es=>
   simp only
   cases hi:es[i]? with
   |none=>exact same
   |some e=>
    simp only
    cases hc:cvE k e s with
    |none=>exact same
    |some x=>
     obtain⟨e',s1⟩:=x
     simp only
     cases hb1:s1.blk b with
     |none=>exact same
     |some blk1=>
      cases blk1 with
      |cells es1=>
       simp only
       have lg: ∀x,x∈s1.log→x∈((s1.note b).setBlk b (.cells (es1.set i e'))).log:=fun x hx=>SW.note_sub _ _ x hx
       have ln:((s1.note b).setBlk b (.cells (es1.set i e'))).len=s1.len:=by rw[SW.set_len,SW.note_len]
       unfold cvE at hc
       split at hc
       ·cases hc
       ·rename_i t ne
        split at hc
        ·rename_i l hl
         cases hc
         obtain⟨σ2,f1,f2,f3,f4⟩:=freezeE hr (fun t l q=>by subst q;exact ne _ _ rfl) hl
         have:=f3.cells hb1
         rw[hb]at this
         cases this
         obtain⟨cw1,cw2⟩:=cont_w hl
         refine⟨r,σ2,RM.le_refl _,f1,put f2 hb1 hi cw1.symm cw2 rfl (fun v hv=>.imm t l v (f4 v hv)),?_,by rw[ln,f3.len];exact hK,fun x hx=>lg x (f3.log x hx)⟩
         exact(Frame.still s.len (f3.stay.more lg)).toK (RM.le_refl _) f1 hK
        ·cases hc
       ·rename_i t
        cases hc
        obtain⟨h1,h2,h3⟩:=hr.newNil t
        have hlt:b<s.len:=(List.getElem?_eq_some_iff.1 hb).1
        rw[SW.blk_push_ne _ _ (by omega),hb]at hb1
        cases hb1
        refine⟨_,σ,h2,Snap.le_refl _,put h1 (by rw[SW.blk_push_ne _ _ (by omega)];exact hb) hi rfl rfl rfl (fun v hv=> ?_),?_,by rw[ln,SW.len_push];omega,fun x hx=>lg x hx⟩
        ·cases hv
         exact .own s.len 0 (l0y t.width) (by simp[RM.setArr])
        ·exact(h3.more lg).toK h2 (Snap.le_refl _) hK
       ·cases hc
       ·rename_i d
        cases hc
        obtain⟨h1,h2⟩:=hr.newGhost d
        have hlt:b<s.len:=(List.getElem?_eq_some_iff.1 hb).1
        rw[SW.blk_push_ne _ _ (by omega),hb]at hb1
        cases hb1
        refine⟨r,σ,RM.le_refl _,Snap.le_refl _,put h1 (by rw[SW.blk_push_ne _ _ (by omega)];exact hb) hi rfl rfl rfl (fun v hv=> ?_),?_,by rw[ln,SW.len_push];omega,fun x hx=>lg x hx⟩
        ·cases hv;exact .optrF _ _
        ·exact(h2.more lg).toK (RM.le_refl _) (Snap.le_refl _) hK
       ·rename_i d b1 o1
        cases hc
        rw[hb]at hb1
        cases hb1
        refine⟨r,σ,RM.le_refl _,Snap.le_refl _,put hr hb hi rfl rfl rfl (fun v hv=> ?_),?_,by rw[ln];exact hK,lg⟩
        ·cases hv with|ptr _ _ j n q=>exact .optrT _ _ j n q
        ·exact((Frame.refl s.len s.log r σ w).more lg).toK (RM.le_refl _) (Snap.le_refl _) hK
       ·cases hc
       ·cases hc
      |_=>exact same
  |_=>exact same
theorem g4r {K:Nat}{s:SW}(b i:Nat)(k:CK)(hr:Rel r σ s w)(hK:K≤s.len):
  ∃r2 σ2,r.le r2∧σ.le σ2∧Rel r2 σ2 (cvB b i k s) w∧FrameK K (cvB b i k s).log r r2 σ σ2 w w∧K≤(cvB b i k s).len∧ ∀x,x∈s.log→x∈(cvB b i k s).log:=by
 have same: ∃r2 σ2,r.le r2∧σ.le σ2∧Rel r2 σ2 s w∧FrameK K s.log r r2 σ σ2 w w∧K≤s.len∧ ∀x,x∈s.log→x∈s.log:=⟨r,σ,RM.le_refl _,Snap.le_refl _,hr,FrameK.refl ..,hK,fun _ h=>h⟩
 induction k generalizing b i with
 |sub p k ih=>
  unfold cvB
  split
  ·split
   ·exact ih _ _
   ·exact ih _ _
   ·exact same
  ·exact same
 |_=>exact cvB0_ok b i _ hr hK
theorem l1h {K:Nat}: ∀(cv:List (Nat×List Nat×Nat×CK)) (t:List SV) {r:RM} {σ:Snap} {s:SW},Rel r σ s w→K≤s.len→
  ∃r2 σ2,r.le r2∧σ.le σ2∧Rel r2 σ2 (cvT cv t s) w∧FrameK K (cvT cv t s).log r r2 σ σ2 w w∧K≤(cvT cv t s).len∧ ∀x,x∈s.log→x∈(cvT cv t s).log
 |[],t,r,σ,s,hr,hK=>⟨r,σ,RM.le_refl _,Snap.le_refl _,hr,FrameK.refl ..,hK,fun _ h=>h⟩
 |(q,ps,i,k)::cv,t,r,σ,s,hr,hK=>by
  unfold cvT
  split
  ·split
   ·rename_i b hb
    obtain⟨r1,σ1,a1,a2,a3,a4,a5,a6⟩:=g4r b i k hr hK
    obtain⟨r2,σ2,b1,b2,b3,b4,b5,b6⟩:=l1h cv t a3 a5
    exact⟨r2,σ2,RM.le_trans a1 b1,Snap.le_trans a2 b2,b3,a4.trans b4 fun x hx _=>b6 x hx,b5,fun x hx=>b6 x (a6 x hx)⟩
   ·exact l1h cv t hr hK
  ·exact l1h cv t hr hK
end
end Go.Proofs.Ytoehlcomhpnjgaa.Vx
noncomputable section
namespace Go.Proofs.Ytoehlcomhpnjgaa.Vx
open Go Go.RowKit
set_option linter.unusedVariables false
variable {ds:List Deferred}
structure MBox where
 K:Nat
 log:List Nat
 ins:List (List PV×List PB)
 nils:List (Nat×Ty)
 outs:List (Exit×List PV×List PB)
 fn:List Dat→Tree (Nat×List Dat)
 cv:List (Nat×List Nat×Nat×CK):=[]
def insT (ins:List (List PV×List PB)):List Dat→List SV
 |.k j::d=>match ins[j]? with
  |some o=>instL o.1 d
  |none=>[]
 |_=>[]
def insB (ins:List (List PV×List PB)):List Dat→List Blk
 |.k j::d=>match ins[j]? with
  |some o=>instBs o.2 d
  |none=>[]
 |_=>[]
def w0v (K:Nat)(t:List SV)(s:SW):List (List PV×List PB)→Nat→Option (List Dat)
 |[],_=>none
 |o::os,k=>match n1n K o.1 o.2 t s with
  |some env=>some (.k k::env)
  |none=>w0v K t s os (k+1)
def a0h (B:MBox)(t:List SV)(s:SW):Tree Res:=match w0v B.K (nilT B.nils t (cvT B.cv t s)).1 (nilT B.nils t (cvT B.cv t s)).2 B.ins 0 with
 |some env=>(B.fn env).bind fun x=>match B.outs[x.1]? with
  |some o=>.leaf (o.1,instL o.2.1 x.2,⟨instBs o.2.2 x.2,m0j B.log (cvT B.cv t s).log⟩)
  |none=>.bad 331
 |none=>.bad 330
def k2j (ins:List (List PV×List PB)):List Dat→Bool
 |.k j::_=>Nat.blt j ins.length
 |_=>false
def stepM (md:Bool)(P:Program)(cl:b0p)(ls:b0u)(n:Nat)(c:Code)(B:MBox)(env:List Dat):Tree Step:=
 .guard (k2j B.ins env) 335 (fVs md (insT B.ins env) fun t=>fSW md ⟨insB B.ins env,[]⟩ fun s=>(evCodeF md P cl ls n c t s).bind fun x=>.guard (p2r B.K B.log (cvT B.cv x.2.1 x.2.2).log) 333 (match x.1 with
  |.normal=>match w0v B.K (nilT B.nils x.2.1 (cvT B.cv x.2.1 x.2.2)).1 (nilT B.nils x.2.1 (cvT B.cv x.2.1 x.2.2)).2 B.ins 0 with
   |some env=>.leaf (.go env)
   |none=>.bad 334
  |e=>(l0j B.K e x.2.1 (cvT B.cv x.2.1 x.2.2) B.outs 0).bind fun y=>.leaf (.stop y.1 y.2)))
section
variable {P:Program}
theorem o1c {K:Nat}{t:List SV}{s:SW}: ∀{ins:List (List PV×List PB)} {k0:Nat} {env:List Dat},w0v K t s ins k0=some env→ ∃j d o,env=.k j::d∧k0≤j∧ins[j-k0]? =some o∧n1n K o.1 o.2 t s=some d
 |[],k0,env,h=>by simp[w0v]at h
 |o::os,k0,env,h=>by
  unfold w0v at h
  split at h
  ·rename_i e he
   cases h
   exact⟨k0,e,o,rfl,Nat.le_refl _,by simp,he⟩
  ·obtain⟨j,d,o',h1,h2,h3,h4⟩:=o1c h
   refine⟨j,d,o',h1,by omega,?_,h4⟩
   rw[show j-k0=(j-(k0+1))+1 by omega,List.getElem?_cons_succ];exact h3
theorem g1a {r:RM}{σ:Snap}{s:SW}{w:World}{K:Nat}{ins:List (List PV×List PB)}{t:List SV}{env:List Dat}(h:w0v K t s ins 0=some env)(hK:K≤s.len)(hr:Rel r σ s w){t':Array Value}(ht:LRel r σ t t'):
  ∃r2,(∀lg,Rel r2 σ ⟨insB ins env,lg⟩ w)∧LRel r2 σ (insT ins env) t'∧FrameK K s.log r r2 σ σ w w∧k2j ins env=true:=by
 obtain⟨j,d,o,rfl,_,h3,h4⟩:=o1c h
 rw[Nat.sub_zero]at h3
 obtain⟨r2,a1,a2,a3,a4⟩:=k1i h4 hK hr ht
 refine⟨r2,?_,?_,a3,?_⟩
 ·intro lg;unfold insB;simp only[h3];exact a1 lg
 ·unfold insT;simp only[h3];exact a2
 ·exact Nat.ble_eq_true_of_le (List.getElem?_eq_some_iff.1 h3).1
theorem v2f {ins:List (List PV×List PB)}{K:Nat}(hK:(ins.all fun o=>Nat.ble K o.2.length)=true){env:List Dat}(h:k2j ins env=true):K≤(insB ins env).length:=by
 unfold k2j at h
 split at h
 ·rename_i j d
  have hj:j<ins.length:=Nat.le_of_ble_eq_true h
  unfold insB
  simp only[List.getElem?_eq_getElem hj,instBs,List.length_map]
  exact Nat.le_of_ble_eq_true (List.all_eq_true.1 hK _ (List.getElem_mem hj))
 ·cases h
theorem p1t {cl:b0p}(hcl:ClOk P cl)(hm:P.follows .mixedOrders=true){md:Bool}{ls:b0u}{n:Nat}{c:Code}{B:MBox}(hls:LsOk P B.K ls c)(hK:(B.ins.all fun o=>Nat.ble B.K o.2.length)=true){m:Nat}{env:List Dat}{x:Nat×List Dat}(hg:GoesN (stepM md P cl ls n c B) m env x)
  {o:Exit×List PV×List PB} (ho:B.outs[x.1]? =some o): ∀(r:RM) (σ:Snap) (w:World) (t':Array Value) (Q:Exit→Act→World→Prop),(∀lg,Rel r σ ⟨insB B.ins env,lg⟩ w)→LRel r σ (insT B.ins env) t'→
   (∀t1' w' r' σ',(∀lg,Rel r' σ' ⟨instBs o.2.2 x.2,lg⟩ w')→FrameK B.K B.log r r' σ σ' w w'→LRel r' σ' (instL o.2.1 x.2) t1'→B.K≤o.2.2.length→Q o.1 ⟨t1',ds⟩ w')→Code.rounds P c Q m ⟨t',ds⟩ w:=by
 have one: ∀(env:List Dat) (y:Step),(stepM md P cl ls n c B env).sel=some y→ ∀(r:RM) (σ:Snap) (w:World) (t':Array Value) (Q:Exit→Act→World→Prop),(∀lg,Rel r σ ⟨insB B.ins env,lg⟩ w)→LRel r σ (insT B.ins env) t'→
   (match y with
    |.go env'=> ∀t1' w' r' σ',(∀lg,Rel r' σ' ⟨insB B.ins env',lg⟩ w')→FrameK B.K B.log r r' σ σ' w w'→LRel r' σ' (insT B.ins env') t1'→Q .normal ⟨t1',ds⟩ w'
    |.stop k d=> ∀o,B.outs[k]? =some o→ ∀t1' w' r' σ',(∀lg,Rel r' σ' ⟨instBs o.2.2 d,lg⟩ w')→FrameK B.K B.log r r' σ σ' w w'→LRel r' σ' (instL o.2.1 d) t1'→B.K≤o.2.2.length→o.1≠.normal→Q o.1 ⟨t1',ds⟩ w')→c.wp P Q ⟨t',ds⟩ w:=by
  intro env y h r σ w t' Q hr ht hQ
  unfold stepM at h
  obtain⟨h0,h⟩:=Tree.guard_some h
  rw[j2y,o1m,w0a]at h
  obtain⟨⟨e,t1,s1⟩,h1,h2⟩:=Tree.bind_some h
  obtain⟨h3,h4⟩:=Tree.guard_some h2
  have lg:=o1x h3
  refine m0n hcl hm n c _ _ _ hls h1 (v2f hK h0) ds r σ w t' Q (hr []) ht fun t1' w' hth=> ?_
  obtain⟨r1,σ1,a1,a2,a3,a4,a5⟩:=hth
  obtain⟨rc,σc,c1,c2,c3,c4,c5,c6⟩:=l1h (K:=B.K) B.cv t1 a1 a5
  have a2':=(a2.more fun b hb hk=>lg b (c6 b hb) hk).trans (c4.more fun b hb hk=>lg b hb hk) fun _ h _=>h
  have a3':=a3.mono c1 c2
  have ex: ∀e':Exit,e'=e→e'≠.normal→((l0j B.K e' t1 (cvT B.cv t1 s1) B.outs 0).bind fun y=>Tree.leaf (Step.stop y.1 y.2)).sel=some y→Q e' ⟨t1',ds⟩ w':=by
   intro e' he hne h4
   obtain⟨⟨k,d⟩,h5,h6⟩:=Tree.bind_some h4
   cases h6
   obtain⟨o,q1,q2,q3,q4⟩:=a1g h5
   rw[Nat.sub_zero]at q2
   obtain⟨r2,b1,b2,b3,b4⟩:=k1i q4 c5 c3 a3'
   have:=hQ o q2 t1' w' r2 σc b1 (a2'.trans (b3.more fun b hb hk=>lg b hb hk) fun _ h _=>h) b2 b4 (by rw[q3];exact hne)
   rw[q3]at this;exact this
  cases e with
  |normal=>
   simp only at h4
   obtain⟨r2,b1,b2,b3,b4,b5,b6⟩:=h1l (K:=B.K) B.nils c3 a3' c5
   split at h4
   ·rename_i env' he
    cases h4
    obtain⟨r3,d1,d2,d3,d4⟩:=g1a he b4 b1 b2
    rw[b5]at d3
    exact hQ t1' w' r3 σc d1 ((a2'.trans (b3 B.log) fun _ h _=>h).trans (d3.more fun b hb hk=>lg b hb hk) fun _ h _=>h) d2
   ·simp[Tree.sel]at h4
  |exit i=>exact ex _ rfl (by simp) h4
  |ret=>exact ex _ rfl (by simp) h4
  |goto l=>exact ex _ rfl (by simp) h4
  |panic l=>exact ex _ rfl (by simp) h4
  |outgrown=>exact ex _ rfl (by simp) h4
 induction hg with
 |stop env k d h=>
  intro r σ w t' Q hr ht hQ
  rw[rounds_succ]
  refine one env _ h r σ w t' _ hr ht ?_
  intro o' ho' t1' w' r' σ' k1 k2 k3 k4 k5
  simp only at ho
  rw[ho]at ho';cases ho'
  have:=hQ t1' w' r' σ' k1 k2 k3 k4
  generalize o.1=e at this k5⊢
  cases e<;>first|exact this|exact absurd rfl k5
 |go m env env' x h k ih=>
  intro r σ w t' Q hr ht hQ
  rw[rounds_succ]
  refine one env _ h r σ w t' _ hr ht ?_
  intro t1' w' r' σ' k1 k2 k3
  exact ih ho r' σ' w' t1' Q k1 k3 fun t2' w2 r2 σ2 q1 q2 q3 q4=>hQ t2' w2 r2 σ2 q1 (k2.trans q2 fun _ h _=>h) q3 q4
theorem b2x {cl:b0p}(hcl:ClOk P cl)(hm:P.follows .mixedOrders=true){md:Bool}{ls:b0u}{n:Nat}{c:Code}{B:MBox}(hls:LsOk P B.K ls c)(hK:(B.ins.all fun o=>Nat.ble B.K o.2.length)=true)
  (hB: ∀env x,(B.fn env).sel=some x→j1v (stepM md P cl ls n c B) env x) {t:List SV} {s:SW} {x:Res} (h:(a0h B t s).sel=some x):a0k P B.K (.loop c) t s x:=by
 intro hKs ds r σ w t' Q hr ht hQ
 unfold a0h at h
 obtain⟨rc,σc,c1,c2,c3,c4,c5,c6⟩:=l1h (K:=B.K) B.cv t hr hKs
 obtain⟨r2,b1,b2,b3,b4,b5,b6⟩:=h1l (K:=B.K) B.nils c3 (ht.mono c1 c2) c5
 split at h
 ·rename_i env he
  obtain⟨⟨k,e⟩,h1,h2⟩:=Tree.bind_some h
  split at h2
  ·rename_i o ho
   cases h2
   obtain⟨r3,d1,d2,d3,d4⟩:=g1a he b4 b1 b2
   obtain⟨m,hg⟩:=hB env _ h1
   have fr:=(b3 (cvT B.cv t s).log).trans d3 fun _ h _=>by rw[b5];exact h
   rw[b5]at fr
   have fr:=c4.trans fr fun _ h _=>h
   refine wp_loop_rounds m (p1t hcl hm hls hK hg ho r3 σc w t' Q d1 d2 fun t1' w' r' σ' k1 k2 k3 k4=>hQ t1' w' ⟨r',σ',k1 _,?_,k3,fun x hx _=>(e0n _ _ _).2 (.inr (c6 x hx)),?_⟩)
   ·exact(fr.more fun b hb _=>(e0n _ _ _).2 (.inr hb)).trans (k2.more fun b hb _=>(e0n _ _ _).2 (.inl hb)) fun _ h _=>h
   ·show B.K≤(instBs o.2.2 e).length
    rw[instBs,List.length_map];exact k4
  ·simp[Tree.sel]at h2
 ·simp[Tree.sel]at h
def b0d:List (Nat×MBox)→Nat→Option MBox
 |[],_=>none
 |(i,B)::l,k=>match Nat.beq i k with
  |true=>some B
  |false=>b0d l k
def lsM (tab:List (Nat×MBox))(K:Nat):b0u:=fun c t s=>match g0l c with
 |some i=>match b0d tab i with
  |some B=>match Nat.beq B.K K with
   |true=>some (a0h B t s)
   |false=>none
  |none=>none
 |none=>none
theorem LsOk.many {c0:Code}{K:Nat}{tab:List (Nat×MBox)}(h: ∀i B,b0d tab i=some B→B.K=K→ ∀c∈d0w c0,g0l c=some i→ ∀t s x,(a0h B t s).sel=some x→a0k P B.K (.loop c) t s x):LsOk P K (lsM tab K) c0:=by
 intro c hc t s T x hT hx
 unfold lsM at hT
 split at hT
 ·rename_i i hi
  split at hT
  ·rename_i B hB
   split at hT
   ·rename_i hk
    have:=Nat.eq_of_beq_eq_true hk
    cases hT
    subst this
    exact h i B hB rfl c hc hi t s x hx
   ·cases hT
  ·cases hT
 ·cases hT
def v0m (c0:Code)(i:Nat):List Code:=(d0w c0).filter fun c=>match g0l c with
 |some k=>Nat.beq k i
 |none=>false
theorem a0d {c0 c:Code}{i:Nat}(h:c∈d0w c0)(hi:g0l c=some i):c∈v0m c0 i:=by
 unfold v0m
 rw[List.mem_filter]
 exact⟨h,by rw[hi];simp⟩
def stepMC (md:Bool)(P:Program)(cs:FuncId→Option a0q)(f i:Nat)(ls:b0u)(B:MBox)(env:List Dat):Tree Step:=stepM md P (clMd md P cs) ls 4000 (cAt P f i) B env
def mkM (K:Nat)(log:List Nat)(ins:List (List PV×List PB))(nils:List (Nat×Ty))(outs:List (Exit×List PV×List PB))(op:List Dat→Option (Nat×List Dat))(cv:List (Nat×List Nat×Nat×CK):=[]):MBox:=
 ⟨K,log,ins,nils,outs,fun env=>outT (outs.map fun o=>t3k o.2.1 o.2.2) 0 (op env),cv⟩
theorem a0o {cs:FuncId→Option a0q}(hcs:CsOk P cs)(hm:P.follows .mixedOrders=true)(md:Bool){f i:Nat}{k:Nat}{log:List Nat}{ins:List (List PV×List PB)}{nils:List (Nat×Ty)}{outs:List (Exit×List PV×List PB)}{cv:List (Nat×List Nat×Nat×CK)}{st:List Dat→Tree Step}{m:Nat}
  {ls:b0u} (hls:LsOk P k ls (cAt P f i)) (hK:(ins.all fun o=>Nat.ble k o.2.length)=true)
  (h: ∀env y,(st env).sel=some y→(stepMC md P cs f i ls (mkM k log ins nils outs (fun _=>none) cv) env).sel=some y): ∀t' s x,(a0h (mkM k log ins nils outs (a0b st m) cv) t' s).sel=some x→a0k P k (.loop (cAt P f i)) t' s x:=
 fun t' s x hx=>b2x (B:=mkM k log ins nils outs (a0b st m) cv) (c1t hcs hm md) hm hls hK (n:=4000) (md:=md) (fun env x he=>f1v h m env x (i0g he)) hx
end
end Go.Proofs.Ytoehlcomhpnjgaa.Vx
noncomputable section
namespace Go.Proofs.Ytoehlcomhpnjgaa.Vx
open Go Go.RowKit
set_option linter.unusedVariables false
instance (k:IntKind):HAppend (List (Ty.den (.int k))) (List Int) (List (Ty.den (.int k))):=⟨fun a b=>List.append a b⟩
instance:HAppend (List (Ty.den .bool)) (List Bool) (List (Ty.den .bool)):=⟨fun a b=>List.append a b⟩
instance:HAppend (List (Ty.den .str)) (List ByteArray) (List (Ty.den .str)):=⟨fun a b=>List.append a b⟩
mutual
def x0w:PV→SV→SW→Option SV
 |.imm t _,v,s=>match p0p t v s with
  |some l=>some (.imm t l)
  |none=>none
 |.agg ps,.agg es,s=>match q0z ps es s with
  |some r=>some (.agg r)
  |none=>none
 |.bool _,.bool b,_=>some (.bool b)
 |.int _ _,.int k n,_=>some (.int k n)
 |.str _,.str x,_=>some (.str x)
 |.arrd _ _ _,.arrd t n l,_=>some (.arrd t n l)
 |.nilsl,.nilsl,_=>some .nilsl
 |.nilptr,.nilptr,_=>some .nilptr
 |.nilif,.nilif,_=>some .nilif
 |.fn f [] [],.fn f' [] [],_=>some (.fn f' [] [])
 |_,_,_=>none
def q0z:List PV→List SV→SW→Option (List SV)
 |[],[],_=>some []
 |p::ps,v::vs,s=>match x0w p v s,q0z ps vs s with
  |some x,some r=>some (x::r)
  |_,_=>none
 |_,_,_=>none
end
def d1s:Ty→Bool
 |.bool=>true
 |.int _=>true
 |.str=>true
 |.sl _=>false
 |.arr _ t=>d1s t
 |.pair a b=>d1s a&&d1s b
 |.unit=>true
theorem c1c {σ σ':Snap}: ∀{t:Ty},d1s t=true→ ∀{get:Nat→Option Value} {o:Nat} {d:t.den},RD σ t get o d→RD σ' t get o d
 |.bool,_,_,_,_,h=>h
 |.int _,_,_,_,_,h=>h
 |.str,_,_,_,_,h=>h
 |.sl _,e,_,_,_,_=>by cases e
 |.arr n t,e,_,_,_,h=>by
  unfold RD at*
  exact⟨h.1,fun i hi=>c1c (t:=t) e (h.2 i hi)⟩
 |.pair a b,e,_,_,_,h=>by
  have e:(d1s a&&d1s b)=true:=e
  rw[Bool.and_eq_true]at e
  unfold RD at*
  exact⟨c1c e.1 h.1,c1c e.2 h.2⟩
 |.unit,_,_,_,_,h=>h
def isOwn (b g:Nat):Option (Nat×Nat)→Bool
 |some (b',g')=>Nat.beq b b'&&Nat.beq g g'
 |none=>false
mutual
def b1b (ow:Option (Nat×Nat)):SV→Bool
 |.undef=>true
 |.bool _=>true
 |.int _ _=>true
 |.str _=>true
 |.nilsl=>true
 |.nilptr=>true
 |.nilif=>true
 |.own b g=>isOwn b g ow
 |.arrd t _ _=>d1s t
 |.agg es=>c1r ow es
 |.tup es=>c1r ow es
 |_=>false
def c1r (ow:Option (Nat×Nat)):List SV→Bool
 |[]=>true
 |v::l=>b1b ow v&&c1r ow l
end
mutual
def subV (n:Nat):SV→SV
 |.own _ _=>.own n 0
 |.agg es=>.agg (subL n es)
 |.tup es=>.tup (subL n es)
 |v=>v
def subL (n:Nat):List SV→List SV
 |[]=>[]
 |v::l=>subV n v::subL n l
end
mutual
def n2v:SV→Option (Nat×Nat)
 |.own b g=>some (b,g)
 |.agg es=>c1i es
 |.tup es=>c1i es
 |_=>none
def c1i:List SV→Option (Nat×Nat)
 |[]=>none
 |v::l=>match n2v v with
  |some x=>some x
  |none=>c1i l
end
def i1k (v:SV)(s1 s:SW):Tree (SV×SW):=match n2v v with
 |none=>.guard (b1b none v) 350 (.leaf (subV 0 v,s))
 |some (b,g)=>match s1.blk b with
  |some (.arr t g' l)=>.guard (Nat.beq g g'&&(d1s t&&b1b (some (b,g)) v)) 351 (.leaf (subV s.len v,s.push (.arr t 0 l)))
  |_=>.bad 352
def f0h (B:FBox):a0q:=fun args s=>match q0z B.args args s with
 |some args0=>(a0j B args0 ⟨[],[]⟩).bind fun x=>i1k x.1 x.2 s
 |none=>.bad 353
section
variable {P:Program}
theorem i2b {r:RM}{σ:Snap}{s:SW}{w:World}(hr:Rel r σ s w):σ.le (b0k w):=by
 intro j c h
 obtain⟨T,f,e⟩:=hr.snap j c h
 unfold b0k
 rw[e]
mutual
theorem t1u {r:RM}{σ:Snap}{s:SW}{w:World}(hr:Rel r σ s w): ∀{p:PV} {v:SV} {v':Value} {u:SV},VRel r σ v v'→x0w p v s=some u→VRel R0 (b0k w) u v'∧u.w=v.w∧u.isArr=v.isArr
 |.imm t h,v,v',u,hv,hl=>by
  have hl:(match p0p t v s with|some l=>some (SV.imm t l)|none=>none)=some u:=hl
  split at hl
  ·rename_i l hc
   cases hl
   have hv1:v.w=1∧v.isArr=false:=by cases v<;>first|exact⟨rfl,rfl⟩|(simp[p0p,c0h,b0c]at hc)
   obtain⟨a,cap,rfl,h1,h2⟩:=l1c hr hv hc
   refine⟨.imm t l _ ?_,hv1.1.symm,hv1.2.symm⟩
   rw[x0x]
   refine⟨a,l.length,cap,rfl,rfl,h1,fun i hi=> ?_⟩
   obtain⟨j,o,c,T,f,e1,e2,e3⟩:=h2 i hi
   refine⟨⟨j,o,none⟩,c,e1,rfl,?_,e3.mono' (i2b hr)⟩
   unfold b0k
   simp only[e2]
  ·cases hl
 |.agg ps,v,v',u,hv,hl=>by
  cases v with
  |agg es=>
   have hl:(match q0z ps es s with|some r=>some (SV.agg r)|none=>none)=some u:=hl
   split at hl
   ·rename_i us hus
    cases hl
    cases hv with
    |agg _ c hw hs ha=>
     have hE:ERel r σ es (fun k=>c[k]?) 0:=by
      refine⟨fun k e he hn=> ?_,fun k t n l he=>by rw[Nat.zero_add];exact ha k t n l he⟩
      have hk:=f0g he
      rw[o0s hn,hw]at hk
      refine⟨c[k],by rw[Nat.zero_add,Array.getElem?_eq_getElem (by omega)],hs k e he hn _ (Array.getElem?_eq_getElem (by omega))⟩
     obtain⟨h1,h2⟩:=x1a hr hE hus
     refine⟨.agg us c (by rw[h2,hw]) (fun k e he hn v hv=> ?_) (fun k t n l he=> ?_),rfl,rfl⟩
     ·obtain⟨v1,q1,q2⟩:=h1.one k e he hn
      rw[Nat.zero_add,hv]at q1
      cases q1;exact q2
     ·have:=h1.arr k t n l he
      rwa [Nat.zero_add]at this
   ·cases hl
  |_=>cases hl
 |.bool _,v,v',u,hv,hl=>by
  cases v with
  |bool b=>cases hl;cases hv;exact⟨.bool _,rfl,rfl⟩
  |_=>cases hl
 |.int _ _,v,v',u,hv,hl=>by
  cases v with
  |int k n=>cases hl;cases hv;exact⟨.int _ _,rfl,rfl⟩
  |_=>cases hl
 |.str _,v,v',u,hv,hl=>by
  cases v with
  |str x=>cases hl;cases hv;exact⟨.str _,rfl,rfl⟩
  |_=>cases hl
 |.arrd _ _ _,v,v',u,hv,hl=>by
  cases v with
  |arrd t n l=>cases hv
  |_=>cases hl
 |.nilsl,v,v',u,hv,hl=>by
  cases v with
  |nilsl=>cases hl;cases hv;exact⟨.nilsl,rfl,rfl⟩
  |_=>cases hl
 |.nilptr,v,v',u,hv,hl=>by
  cases v with
  |nilptr=>cases hl;cases hv;exact⟨.nilptr,rfl,rfl⟩
  |_=>cases hl
 |.nilif,v,v',u,hv,hl=>by
  cases v with
  |nilif=>cases hl;cases hv;exact⟨.nilif,rfl,rfl⟩
  |_=>cases hl
 |.fn f [] [],v,v',u,hv,hl=>by
  cases v with
  |fn f' fs cs=>
   cases fs with
   |nil=>cases cs with
    |nil=>
     cases hl
     cases hv with
     |fn _ _ _ fs' cs' h1 h2 h3 h4=>
      exact⟨.fn _ _ _ fs' cs' h1 (fun i v v' a=>by cases i<;>cases a) h3 (fun i v v' a=>by cases i<;>cases a),rfl,rfl⟩
    |cons _ _=>cases hl
   |cons _ _=>cases hl
  |_=>cases hl
 |.fn f (_::_) _,v,v',u,hv,hl=>by cases v<;>cases hl
 |.fn f [] (_::_),v,v',u,hv,hl=>by cases v<;>cases hl
 |.dead,v,v',u,hv,hl=>by cases v<;>cases hl
 |.own _,v,v',u,hv,hl=>by cases v<;>cases hl
 |.ptr _ _,v,v',u,hv,hl=>by cases v<;>cases hl
 |.mapv _,v,v',u,hv,hl=>by cases v<;>cases hl
 |.itr _,v,v',u,hv,hl=>by cases v<;>cases hl
 |.asl _ _ _,v,v',u,hv,hl=>by cases v<;>cases hl
 |.optr _ _ _,v,v',u,hv,hl=>by cases v<;>cases hl
 |.imn _ _,v,v',u,hv,hl=>by cases v<;>cases hl
 |.nilmap,v,v',u,hv,hl=>by cases v<;>cases hl
 |.nilfn,v,v',u,hv,hl=>by cases v<;>cases hl
 |.iface _ _,v,v',u,hv,hl=>by cases v<;>cases hl
 |.tup _,v,v',u,hv,hl=>by cases v<;>cases hl
theorem x1a {r:RM}{σ:Snap}{s:SW}{w:World}(hr:Rel r σ s w): ∀{ps:List PV} {es us:List SV} {get:Nat→Option Value} {o:Nat},ERel r σ es get o→q0z ps es s=some us→ERel R0 (b0k w) us get o∧esW us=esW es
 |[],[],us,get,o,h,hl=>by cases hl;exact⟨.nil,rfl⟩
 |[],_::_,us,get,o,h,hl=>by cases hl
 |_::_,[],us,get,o,h,hl=>by cases hl
 |p::ps,e::es,us,get,o,h,hl=>by
  have hl:(match x0w p e s,q0z ps es s with|some x,some r=>some (x::r)|_,_=>none)=some us:=hl
  split at hl
  ·rename_i x rest hx hrest
   cases hl
   have h0:ERel r σ ([e]++es) get o:=h
   have hhd:=h0.left
   have htl:=h0.right
   have hw1:esW [e]=e.w:=by simp[esW]
   rw[hw1]at htl
   obtain⟨k1,k2⟩:=x1a hr htl hrest
   cases ha:e.isArr with
   |false=>
    obtain⟨v,g1,g2⟩:=hhd.head ha
    obtain⟨j1,j2,j3⟩:=t1u hr g2 hx
    refine⟨?_,by simp only[esW,j2,k2]⟩
    show ERel R0 (b0k w) ([x]++rest) get o
    refine(ERel.single (by rw[j3];exact ha) g1 j1).append ?_
    have:esW [x]=e.w:=by simp[esW,j2]
    rw[this];exact k1
   |true=>
    cases e with
    |arrd t n l=>
     have hx':x=.arrd t n l:=by
      cases p with
      |arrd _ _ _=>cases hx;rfl
      |imm _ _=>simp[x0w,p0p,c0h,b0c]at hx
      |fn f fs cs=>cases fs<;>first|cases hx|(cases cs<;>cases hx)
      |_=>cases hx
     subst hx'
     refine⟨?_,by simp only[esW,k2]⟩
     show ERel R0 (b0k w) ([.arrd t n l]++rest) get o
     refine ERel.append ⟨fun k e he hn=> ?_,fun k t' n' l' he=> ?_⟩ ?_
     ·simp only[offs,List.mem_singleton,Prod.mk.injEq]at he
      obtain⟨rfl,rfl⟩:=he
      simp[SV.isArr]at hn
     ·exact(hhd.arr k t' n' l' he).mono' (i2b hr)
     ·rw[hw1];exact k1
    |_=>simp[SV.isArr]at ha
  ·cases hl
end
theorem y1w {r:RM}{σ:Snap}{s:SW}{w:World}(hr:Rel r σ s w): ∀{ps:List PV} {es us:List SV} {vs:List Value},LRel r σ es vs.toArray→q0z ps es s=some us→LRel R0 (b0k w) us vs.toArray
 |[],[],us,vs,h,hl=>by cases hl;exact⟨h.1,fun i v v' a=>by cases i<;>cases a⟩
 |[],_::_,us,vs,h,hl=>by cases hl
 |_::_,[],us,vs,h,hl=>by cases hl
 |p::ps,e::es,us,vs,h,hl=>by
  have hl:(match x0w p e s,q0z ps es s with|some x,some r=>some (x::r)|_,_=>none)=some us:=hl
  split at hl
  ·rename_i x rest hx hrest
   cases hl
   cases vs with
   |nil=>have:=h.1;simp at this
   |cons v vs=>
    refine .cons (t1u hr (h.2 0 e v rfl rfl) hx).1 (y1w hr ⟨by have:=h.1;simpa using this,fun i a b ha hb=>h.2 (i+1) a b (by simpa using ha) (by simpa using hb)⟩ hrest)
  ·cases hl
theorem i1x (n:Nat)(hw: ∀v:SV,(subV n v).w=v.w): ∀(es:List SV) (o k:Nat) (u:SV),(k,u)∈offs (subL n es) o→ ∃e,(k,e)∈offs es o∧u=subV n e
 |[],o,k,u,h=>by simp[subL,offs]at h
 |e::es,o,k,u,h=>by
  simp only[subL,offs,List.mem_cons,Prod.mk.injEq]at h⊢
  rcases h with⟨rfl,rfl⟩|h
  ·exact⟨e,.inl ⟨rfl,rfl⟩,rfl⟩
  ·rw[hw]at h
   obtain⟨e',h1,h2⟩:=i1x n hw es _ k u h
   exact⟨e',.inr h1,h2⟩
theorem k2p (n:Nat)(v:SV):(subV n v).w=v.w:=by cases v<;>rfl
theorem t2y (n:Nat)(v:SV):(subV n v).isArr=v.isArr:=by cases v<;>rfl
theorem subL_w (n:Nat): ∀es:List SV,esW (subL n es)=esW es
 |[]=>rfl
 |e::es=>by simp only[subL,esW,k2p,subL_w n es]
theorem n0c {ow:Option (Nat×Nat)}: ∀{es:List SV},c1r ow es=true→ ∀e∈es,b1b ow e=true
 |[],_,e,h=>by simp at h
 |x::es,hp,e,h=>by
  have hp:(b1b ow x&&c1r ow es)=true:=hp
  rw[Bool.and_eq_true]at hp
  rcases List.mem_cons.1 h with rfl|h
  ·exact hp.1
  ·exact n0c hp.2 e h
theorem v1g (n:Nat): ∀(es:List SV) (i:Nat) (u:SV),(subL n es)[i]? =some u→ ∃e,es[i]? =some e∧u=subV n e
 |[],i,u,h=>by simp[subL]at h
 |e::es,0,u,h=>by simp[subL]at h;exact⟨e,rfl,h.symm⟩
 |e::es,i+1,u,h=>by simp[subL]at h;obtain⟨e',h1,h2⟩:=v1g n es i u h;exact⟨e',by simpa using h1,h2⟩
theorem u1s (n:Nat): ∀es:List SV,(subL n es).length=es.length
 |[]=>rfl
 |e::es=>by simp[subL,u1s n es]
theorem m2e {r r':RM}{σ σ':Snap}{ow:Option (Nat×Nat)}{n:Nat}(ho: ∀b g x,isOwn b g ow=true→r'.arr b g=some x→r.arr n 0=some x){v:SV}{v':Value}(h:VRel r' σ' v v'):b1b ow v=true→VRel r σ (subV n v) v':=by
 induction h with
 |undef=>intro _;exact .undef
 |bool b=>intro _;exact .bool b
 |int k n=>intro _;exact .int k n
 |str s=>intro _;exact .str s
 |nilsl=>intro _;exact .nilsl
 |nilptr=>intro _;exact .nilptr
 |nilif=>intro _;exact .nilif
 |own b g x h=>intro hp;exact .own n 0 x (ho b g x hp h)
 |agg es c hw h1 ha ih=>
  intro hp
  have hp:c1r ow es=true:=hp
  refine .agg _ c (by rw[subL_w,hw]) (fun k e he hn v hv=> ?_) (fun k t m l he=> ?_)
  ·obtain⟨e',q1,rfl⟩:=i1x n (k2p n) _ _ _ _ he
   rw[t2y]at hn
   exact ih k e' q1 hn v hv (n0c hp _ (h0d q1))
  ·obtain⟨e',q1,q2⟩:=i1x n (k2p n) _ _ _ _ he
   have q3:=n0c hp _ (h0d q1)
   cases e' with
   |arrd t' m' l'=>
    cases q2
    have:=ha k _ _ _ q1
    exact c1c (t:=.arr _ _) q3 this
   |_=>cases q2
 |tup es c h1 h2 ih=>
  intro hp
  have hp:c1r ow es=true:=hp
  refine .tup _ c (by rw[u1s,h1]) fun i v v' a b=> ?_
  obtain⟨e',q1,rfl⟩:=v1g n _ _ _ a
  exact ih i e' v' q1 b (n0c hp _ (List.mem_of_getElem? q1))
 |_=>intro hp;cases hp
theorem t2o {r r':RM}{σ σ':Snap}{s s1:SW}{w w':World}(hr:Rel r σ s w)(hr':Rel r' σ' s1 w')(fr:FrameK 0 s1.log R0 r' (b0k w) σ' w w'){b g:Nat}{t:Ty}{l:List t.den}(hb:s1.blk b=some (.arr t g l))(ht:d1s t=true){x:ALoc}(hx:r'.arr b g=some x):
  Rel (r.setArr s.len 0 x) σ (s.push (.arr t 0 l)) w'∧r.le (r.setArr s.len 0 x)∧Frame s.len s.log r (r.setArr s.len 0 x) σ σ w w':=by
 have hle:r.le (r.setArr s.len 0 x):=f0d (hr.arr_len 0) _
 have keep: ∀j,j<w.heap.size→w'.heap[j]? =w.heap[j]? :=fun j hj=>fr.keep j hj fun b _ hat=>r1m b j hat
 have new: ∀j o,x.a=some (j,o)→w.heap.size≤j∧j<w'.heap.size:=by
  intro j o e
  have hat:r'.at b j:=.inr (.inl ⟨g,x,o,hx,e⟩)
  refine⟨?_,hr'.inb b j hat⟩
  rcases fr.fresh b j hat with⟨_,q⟩|⟨_,b',_,q⟩|q
  ·exact(r1m _ _ q).elim
  ·exact(r1m _ _ q).elim
  ·exact q
 have hat: ∀b' j,(r.setArr s.len 0 x).at b' j→r.at b' j∨(w.heap.size≤j∧j<w'.heap.size):=fun b' j k=>by
  rcases c0t k with q|⟨_,o,q⟩
  ·exact .inl q
  ·exact .inr (new j o q)
 have hrow:=hr'.arr b t g l x hb hx
 refine⟨hr.change (b:=s.len) (x:=.arr t 0 l) ?_ (SW.blk_push _ _) (fun b' e=>SW.blk_push_ne _ _ e) (by rw[SW.len_push];omega),hle,?_⟩
 ·refine⟨hle,Snap.le_refl _,fun _ _ _ k=>k,fun b' g p e k=> ?_,fun _ _ _ k=>k,fr.size,fun j hj _=>keep j hj,fun j hj=> ?_,?_,fun j hj=>(hat _ _ hj).imp id (fun q=>q.1),fun j c' hj=>.inl hj,?_,?_,?_,?_⟩
  ·simpa [RM.setArr,e]using k
  ·rcases hat _ _ hj with q|q
   ·have:=hr.inb _ _ q;have:=fr.size;omega
   ·exact q.2
  ·rintro j ⟨y,o,hy,hj⟩
   simp only[RM.setArr,and_self,if_true]at hy
   cases hy
   exact .inr (new j o hj).1
  ·intro es' j n e;cases e
  ·intro t' g' l' p e hp
   cases e
   simp only[RM.setArr,and_self,if_true]at hp
   cases hp
   refine⟨hrow.wd,hrow.len,hrow.cap,hrow.nil,fun j o e=> ?_⟩
   obtain⟨c,T,f,h1,h2,h3,h4⟩:=hrow.row j o e
   exact⟨c,T,f,h1,h2,h3,fun i hi=>c1c ht (h4 i hi)⟩
  ·intro t g l p e;cases e
  ·intro t' g' l' g'' e hg
   cases e
   simp only[RM.setArr]
   rw[if_neg (by omega)]
   exact hr.arr_len _
 ·refine⟨fr.os,fr.tape,fr.output,fr.size,fun b' j k=>(hat b' j k).imp id fun q=>q.1,fun j hj _=>keep j hj,fun b' hb' _=>c0l (by omega),.refl⟩
mutual
theorem g2l {r:RM}{σ:Snap}: ∀{v:SV} {v':Value} {b g:Nat},VRel r σ v v'→n2v v=some (b,g)→ ∃x,r.arr b g=some x
 |.own b g,v',b',g',hv,h=>by cases h;cases hv with|own _ _ x h=>exact⟨x,h⟩
 |.agg es,v',b,g,hv,h=>by
  cases hv with
  |agg _ c hw hs ha=>exact o2x (Q:=fun k e=>e.isArr=true∨ ∃v,VRel r σ e v) (fun k e he=>by
   cases hn:e.isArr with
   |true=>exact .inl rfl
   |false=>
    have hk:=f0g he
    rw[o0s hn,hw]at hk
    exact .inr ⟨_,hs k e he hn _ (Array.getElem?_eq_getElem (by omega))⟩) (fun _ _ q=>q) h
 |.tup es,v',b,g,hv,h=>by
  cases hv with
  |tup _ c h1 h2=>exact o2w (es:=es) (fun i e he=>by
   have hi:i<c.size:=by rw[←h1];exact(List.getElem?_eq_some_iff.1 he).1
   exact⟨_,h2 i e _ he (Array.getElem?_eq_getElem hi)⟩) h
 |.dead,_,_,_,_,h=>by cases h
 |.undef,_,_,_,_,h=>by cases h
 |.bool _,_,_,_,_,h=>by cases h
 |.int _ _,_,_,_,_,h=>by cases h
 |.str _,_,_,_,_,h=>by cases h
 |.imm _ _,_,_,_,_,h=>by cases h
 |.arrd _ _ _,_,_,_,_,h=>by cases h
 |.nilsl,_,_,_,_,h=>by cases h
 |.part _ _ _ _,_,_,_,_,h=>by cases h
 |.ptr _ _,_,_,_,_,h=>by cases h
 |.eptr _ _ _ _,_,_,_,_,h=>by cases h
 |.aptr _ _ _ _ _ _,_,_,_,_,h=>by cases h
 |.asl _ _ _,_,_,_,_,h=>by cases h
 |.optr _ _ _,_,_,_,_,h=>by cases h
 |.asp _ _ _ _,_,_,_,_,h=>by cases h
 |.esp _ _ _ _ _,_,_,_,_,h=>by cases h
 |.iptr _ _,_,_,_,_,h=>by cases h
 |.nilptr,_,_,_,_,h=>by cases h
 |.mapv _,_,_,_,_,h=>by cases h
 |.itr _,_,_,_,_,h=>by cases h
 |.nilmap,_,_,_,_,h=>by cases h
 |.fn _ _ _,_,_,_,_,h=>by cases h
 |.nilfn,_,_,_,_,h=>by cases h
 |.iface _ _,_,_,_,_,h=>by cases h
 |.nilif,_,_,_,_,h=>by cases h
theorem o2x {r:RM}{σ:Snap}{Q:Nat→SV→Prop}: ∀{es:List SV} {o:Nat} {b g:Nat},(∀k e,(k,e)∈offs es o→Q k e)→(∀k e,Q k e→e.isArr=true∨ ∃v,VRel r σ e v)→c1i es=some (b,g)→ ∃x,r.arr b g=some x
 |[],o,b,g,_,_,h=>by cases h
 |e::es,o,b,g,hQ,hq,h=>by
  have h:(match n2v e with|some x=>some x|none=>c1i es)=some (b,g):=h
  split at h
  ·rename_i x hx
   cases h
   rcases hq o e (hQ o e List.mem_cons_self)with q|⟨v,q⟩
   ·cases e with
    |arrd t n l=>cases hx
    |_=>cases q
   ·exact g2l q hx
  ·exact o2x (fun k e he=>hQ k e (List.mem_cons_of_mem _ he)) hq h
theorem o2w {r:RM}{σ:Snap}: ∀{es:List SV} {b g:Nat},(∀(i:Nat) (e:SV),es[i]? =some e→ ∃v,VRel r σ e v)→c1i es=some (b,g)→ ∃x,r.arr b g=some x
 |[],b,g,_,h=>by cases h
 |e::es,b,g,hQ,h=>by
  have h:(match n2v e with|some x=>some x|none=>c1i es)=some (b,g):=h
  split at h
  ·rename_i x hx
   cases h
   obtain⟨v,q⟩:=hQ 0 e rfl
   exact g2l q hx
  ·exact o2w (fun i e he=>hQ (i+1) e (by simpa using he)) h
end
theorem b2v {f:FuncId}{B:FBox}(hB:a0v P f (a0j B)):c1x P f (f0h B):=by
 intro args s v s1 h r σ w args' hr ha
 unfold f0h at h
 split at h
 ·rename_i args0 h0
  obtain⟨⟨v0,s0⟩,h1,h2⟩:=Tree.bind_some h
  have ha0:LRel R0 (b0k w) args0 args':=by
   have:=y1w hr (vs:=args'.toList) (by simpa using ha) h0
   simpa using this
  refine(hB args0 ⟨[],[]⟩ v0 s0 h1 rfl R0 (b0k w) w args' (rel0 w) ha0).mono ?_
  rintro e w' ⟨v',rfl,r',σ',a3,a4',a5,a6,a7⟩
  refine⟨v',rfl,?_⟩
  have keep: ∀j,j<w.heap.size→w'.heap[j]? =w.heap[j]? :=fun j hj=>a4'.keep j hj fun b _ hat=>r1m b j hat
  unfold i1k at h2
  split at h2
  ·obtain⟨h3,h4⟩:=Tree.guard_some h2
   cases h4
   exact⟨r,σ,RM.le_refl _,Snap.le_refl _,hr.later a4'.size keep,⟨a4'.os,a4'.tape,a4'.output,a4'.size,fun _ _ h=>.inl h,fun j hj _=>keep j hj,fun _ _ _=>⟨rfl,fun _=>rfl,rfl⟩,.refl⟩,m2e (fun b g x h=>by cases h) a5 h3,fun _ h=>h,Nat.le_refl _⟩
  ·rename_i b g hbg
   split at h2
   ·rename_i t g' l hbl
    obtain⟨h3,h4⟩:=Tree.guard_some h2
    cases h4
    rw[Bool.and_eq_true,Bool.and_eq_true]at h3
    obtain⟨q1,q2,q3⟩:=h3
    have:=Nat.eq_of_beq_eq_true q1
    subst this
    have hx: ∃x,r'.arr b g=some x:=by
     have:=g2l a5 hbg
     exact this
    obtain⟨x,hx⟩:=hx
    obtain⟨k1,k2,k3⟩:=t2o hr a3 a4' hbl q2 hx
    refine⟨_,σ,k2,Snap.le_refl _,k1,k3,m2e (fun b' g' y hy hy'=> ?_) a5 q3,fun _ h=>h,by rw[SW.len_push];omega⟩
    have hy:(Nat.beq b' b&&Nat.beq g' g)=true:=hy
    rw[Bool.and_eq_true]at hy
    have e1:=Nat.eq_of_beq_eq_true hy.1
    have e2:=Nat.eq_of_beq_eq_true hy.2
    subst e1 e2
    rw[hx]at hy'
    cases hy'
    simp[RM.setArr]
   ·simp[Tree.sel]at h2
 ·simp[Tree.sel]at h
def a0s (f:FuncId)(B:FBox)(cs:FuncId→Option a0q):FuncId→Option a0q:=fun g=>match Nat.beq g f with
 |true=>some (f0h B)
 |false=>cs g
theorem a0g {f:FuncId}{B:FBox}{cs:FuncId→Option a0q}(hcs:CsOk P cs)(hB:a0v P f (a0j B)):CsOk P (a0s f B cs):=by
 intro g s h
 unfold a0s at h
 split at h
 ·rename_i e
  cases h
  have:=Nat.eq_of_beq_eq_true e
  subst this
  exact b2v hB
 ·exact hcs g s h
end
end Go.Proofs.Ytoehlcomhpnjgaa.Vx
noncomputable section
namespace Go.Proofs.Ytoehlcomhpnjgaa.Vx
open Go Go.RowKit
set_option linter.unusedVariables false
def W0:SW:=⟨[],[]⟩
def n3u (t:Ty)(ok:List t.den→Bool):List Dat→Option (Nat×List Dat)
 |[.l t' x]=>match c0r t' t x with
  |some l=>bif ok l then some (0,[.l t l])else none
  |none=>none
 |_=>none
def k3o (t:Ty)(ok:List t.den→Bool):FBox:=mkF [.imm t 0] [] [] [(.own 0,[.arr t 0])] (n3u t ok)
def clA (P:Program)(f:FuncId):Code:=match a0r P f with
 |.seq a _=>a
 |_=>.skip
def clO (P:Program)(f:FuncId):Array Oper:=match a0r P f with
 |.seq _ (.seq (.seq (.region _ o _) _) _)=>o
 |_=> #[]
def clI (P:Program)(f:FuncId):Nat:=match a0r P f with
 |.seq _ (.seq (.seq (.region i _ _) _) _)=>i
 |_=>0
def clC (P:Program)(f:FuncId):Code:=match a0r P f with
 |.seq _ (.seq (.seq _ c) _)=>c
 |_=>.skip
def clD (P:Program)(f:FuncId):Code:=match a0r P f with
 |.seq _ (.seq _ d)=>d
 |_=>.skip
def y3k (P:Program)(f:FuncId)(T:TypeId):Bool:=match a0r P f with
 |.seq _ (.seq (.seq (.region _ o false) _) _)=>match o.toList with
  |[⟨some 3,.move (.tmp 0),_,_,_,none⟩,⟨some 4,.binOp .eql T' (.tmp 3) (.const (.slice none 0 0)) _,_,_,_,none⟩]=>Nat.beq T T'
  |_=>false
 |_=>false
section
variable {P:Program}
theorem o4c {T e:TypeId}(hT:P.underlying T=some (.slice e))(a:Option Addr)(n c:Nat)(w:World):(Op.equalIn Op.maxDepth T (.slice a n c) (.slice none 0 0)).run P w=.ok a.isNone w:=by
 show(Op.equalIn (9999+1) T (.slice a n c) (.slice none 0 0)).run P w=_
 unfold Op.equalIn
 cases a with
 |none=>simp[run_underlying hT]
 |some p=>simp[run_underlying hT]
theorem v3e {f:FuncId}{T:TypeId}(h:y3k P f T=true): ∃T2 a1 a2 a3 b1 b2 b3,clO P f= #[⟨some 3,.move (.tmp 0),a1,a2,a3,none⟩,⟨some 4,.binOp .eql T (.tmp 3) (.const (.slice none 0 0)) T2,b1,b2,b3,none⟩]:=by
 unfold y3k at h
 unfold clO
 split at h
 ·rename_i i o c d hb
  rw[hb]
  split at h
  ·rename_i a1 a2 a3 T' T2 b1 b2 b3 ho
   have:=Nat.eq_of_beq_eq_true h
   subst this
   exact⟨T2,a1,a2,a3,b1,b2,b3,by cases o;simp at ho;simp[ho]⟩
  ·cases h
 ·cases h
theorem wp_two {o0 o1:Oper}{d0 d1:Nat}{t':Array Value}{w:World}{v0 v1:Value}{Q:Exit→Act→World→Prop}(g0:o0.guard=none)(g1:o1.guard=none)(e0:o0.dst=some d0)(e1:o1.dst=some d1)
  (r0:(execOp (Act.mk t' []).eval o0).run P w=.ok (.value v0) w) (r1:(execOp (Act.mk (t'.setIfInBounds d0 v0) []).eval o1).run P w=.ok (.value v1) w)
  (h:Q .normal ⟨(t'.setIfInBounds d0 v0).setIfInBounds d1 v1,[]⟩ w):wpOps P #[o0,o1] Q [0,1] ⟨t',[]⟩ w:=by
 show(if Region.wanted o0 (yielded #[o0,o1] t')=true then o0.wp P ⟨t',[]⟩ w (wpOps P #[o0,o1] Q [1]) Q∨_ else _)
 rw[if_pos (by simp[Region.wanted,g0])]
 refine .inl ?_
 unfold Oper.wp
 rw[r0,Oper.upon_value]
 have p0:(Act.mk t' []).put o0.dst v0=⟨t'.setIfInBounds d0 v0,[]⟩:=by rw[e0];rfl
 rw[p0]
 show(if Region.wanted o1 (yielded #[o0,o1] (t'.setIfInBounds d0 v0))=true then o1.wp P ⟨t'.setIfInBounds d0 v0,[]⟩ w (wpOps P #[o0,o1] Q []) Q∨_ else _)
 rw[if_pos (by simp[Region.wanted,g1])]
 refine .inl ?_
 unfold Oper.wp
 rw[r1,Oper.upon_value]
 have p1:(Act.mk (t'.setIfInBounds d0 v0) []).put o1.dst v1=⟨(t'.setIfInBounds d0 v0).setIfInBounds d1 v1,[]⟩:=by rw[e1];rfl
 rw[p1]
 exact h
theorem z3k {cl:b0p}(hcl:ClOk P cl)(hm:P.follows .mixedOrders=true){f:FuncId}{T e:TypeId}{n:Nat}(hform:y3k P f T=true)(hT:P.underlying T=some (.slice e)){fn:Func}(hf:P.funcs[f]? =some fn)
  (hbody:fn.body=some (.seq (clA P f) (.seq (.seq (.region (clI P f) (clO P f) false) (clC P f)) (clD P f))))
  (t:Ty) (ok:List t.den→Bool) (K0 KN KS:List t.den→List SV) (SS:List t.den→SW) (VS:List t.den→SV)
  (F0: ∀l,(e0i P cl ls0 n (clA P f) (.imm t l::List.replicate (fn.ntmps-1) .undef) W0).sel=some (.normal,K0 l,W0))
  (G0: ∀l,(K0 l)[0]? =some (.imm t l)) (L0: ∀l,Nat.ble 5 (K0 l).length=true)
  (FN: ∀l,(e0i P cl ls0 n (clC P f) (((K0 l).set 3 (.imm t l)).set 4 (.bool true)) W0).sel=some (.ret,KN l,W0)) (RN: ∀l,resV P fn (KN l) W0=some .nilsl)
  (FS: ∀l,(e0i P cl ls0 n (clC P f) (((K0 l).set 3 (.imm t l)).set 4 (.bool false)) W0).sel=some (.normal,((K0 l).set 3 (.imm t l)).set 4 (.bool false),W0))
  (FD: ∀l,(e0i P cl ls0 n (clD P f) (((K0 l).set 3 (.imm t l)).set 4 (.bool false)) W0).sel=bif ok l then some (.ret,KS l,SS l)else none) (RS: ∀l,resV P fn (KS l) (SS l)=some (VS l))
  (FF: ∀l,(o2a 0 [] [(.own 0,[.arr t 0])] (VS l) (SS l)).sel=some (0,[.l t l])) (hnt:Nat.ble 1 fn.ntmps=true):a0v P f (a0j (k3o t ok)):=by
 intro args s v s1 h hlog r σ w args' hr ha
 unfold a0j at h
 split at h
 ·rename_i env henv
  obtain⟨⟨k,e0⟩,h1,h2⟩:=Tree.bind_some h
  have h1':=i0g h1
  obtain⟨f1,f2,f3⟩:=c1f henv hr ha []
  have hop: ∃l,env=[.l t l]∧ok l=true∧k=0∧e0=[.l t l]:=by
   unfold n3u at h1'
   split at h1'
   ·rename_i t' x
    split at h1'
    ·rename_i l hl
     obtain⟨e1,rfl⟩:=a0w hl
     subst e1
     cases hok:ok x with
     |false=>rw[hok]at h1';cases h1'
     |true=>rw[hok]at h1';cases h1';exact⟨x,rfl,hok,rfl,rfl⟩
    ·cases h1'
   ·cases h1'
  obtain⟨l,rfl,hok,rfl,rfl⟩:=hop
  have hgl:gl t [.l t l] 0=l:=by simp[gl,d0b]
  have hargs:instL (k3o t ok).args [.l t l]=[.imm t l]:=by show[SV.imm t (gl t [.l t l] 0)]=_;rw[hgl]
  rw[hargs]at f2
  have hblks:(⟨instBs (k3o t ok).blks [.l t l],[]⟩:SW)=W0:=rfl
  rw[hblks]at f1
  have hlen0:s.len=0:=f3.symm
  have h2':instV (.own 0) [.l t l]=v∧(⟨instBs [.arr t 0] [.l t l],[]⟩:SW)=s1:=by
   have:(match(k3o t ok).outs[0]? with|some o=>Tree.leaf (instV o.1 [Dat.l t l],(⟨instBs o.2 [Dat.l t l],(k3o t ok).log⟩:SW))|none=>.bad 321).sel=some (v,s1):=h2
   simp only[k3o,mkF,List.getElem?_cons_zero,Tree.sel,Option.some.injEq,Prod.mk.injEq]at this
   exact this
  obtain⟨rfl,rfl⟩:=h2'
  have hinst:(⟨instBs [.arr t 0] [.l t l],[]⟩:SW)=⟨[.arr t 0 l],[]⟩:=by show(⟨[Blk.arr t 0 (gl t [.l t l] 0)],[]⟩:SW)=_;rw[hgl]
  rw[hinst]
  show Calls P f args' w fun e w'=> ∃v',e=.returned v'∧y1d s.len r σ s w (.own 0 0) ⟨[.arr t 0 l],[]⟩ v' w'
  rw[hlen0]
  have hsl: ∀x,x∈s.log→x<0→x∈([]:List Nat):=fun x hx _=>by omega
  refine calls_of_wp hf hbody ?_
  have hsz:=f2.size
  simp only[List.length_cons,List.length_nil]at hsz
  have ht0:LRel r σ (.imm t l::List.replicate (fn.ntmps-1) .undef) (args'++Array.replicate (fn.ntmps-args'.size) undef):=by
   rw[←hsz]
   exact f2.append (LRel.undefs r σ _)
  refine wp_seq (m0n hcl hm (K:=0) n _ _ _ _ (LsOk.none _ _ _) (F0 l) (Nat.zero_le _) [] r σ w _ _ f1 ht0 fun t1' w1 hth=> ?_)
  obtain⟨r1,σ1,q1,q2,q3,q4,q5⟩:=hth
  refine wp_seq (wp_seq (wp_region ?_))
  obtain⟨T2,a1,a2,a3,b1,b2,b3,hO⟩:=v3e hform
  rw[hO]
  obtain⟨v',g1,g2⟩:=q3.get (G0 l)
  have hv':=g2
  cases hv' with
  |imm _ _ _ himm=>
   rw[x0x]at himm
   obtain⟨a,len,cap,k1,k2,k3,k4⟩:=himm
   simp only[Option.some.injEq]at k1
   subst k1
   have ht3:LRel r1 σ1 (((K0 l).set 3 (.imm t l)).set 4 (.bool a.isNone)) ((((t1'.setIfInBounds 3 (.slice a len cap)).setIfInBounds 4 (.bool a.isNone)))):=(q3.set 3 g2).set 4 (.bool _)
   have hev:(Act.mk t1' []).eval (.tmp 0)=.slice a len cap:=by
    show t1'.getD 0 undef=_
    rw[Array.getD_eq_getD_getElem?,g1];rfl
   have hsz1:5≤t1'.size:=by
    have:(K0 l).length=t1'.size:=q3.size
    have:=Nat.le_of_ble_eq_true (L0 l)
    omega
   have run0:(execOp (Act.mk t1' []).eval ⟨some 3,.move (.tmp 0),a1,a2,a3,none⟩).run P w1=.ok (.value (.slice a len cap)) w1:=by
    show((pure (.value ((Act.mk t1' []).eval (.tmp 0))):Sem Next)).run P w1=_
    rw[hev];rfl
   have run1:(execOp (Act.mk (t1'.setIfInBounds 3 (.slice a len cap)) []).eval ⟨some 4,.binOp .eql T (.tmp 3) (.const (.slice none 0 0)) T2,b1,b2,b3,none⟩).run P w1=.ok (.value (.bool a.isNone)) w1:=by
    have hev3:(Act.mk (t1'.setIfInBounds 3 (.slice a len cap)) []).eval (.tmp 3)=.slice a len cap:=by
     show(t1'.setIfInBounds 3 (.slice a len cap)).getD 3 undef=_
     rw[Array.getD_eq_getD_getElem?,Array.getElem?_setIfInBounds]
     rw[if_pos rfl,if_pos (by omega)];rfl
    show(do pure (.value (←(do eqGuard .eql T (.tmp 3) (.const (.slice none 0 0)) ((Act.mk (t1'.setIfInBounds 3 (.slice a len cap)) []).eval (.tmp 3)) (.slice none 0 0);binOp .eql T ((Act.mk (t1'.setIfInBounds 3 (.slice a len cap)) []).eval (.tmp 3)) (.slice none 0 0):Sem Value))):Sem Next).run P w1=_
    rw[hev3]
    have g:=m0o (P:=P) (w:=w1) (op:=.eql) (t:=T) (xo:=.tmp 3) (yo:=.const (.slice none 0 0)) (x:=.slice a len cap) (y:=.slice none 0 0) (fun xs ys e=>by cases e) (fun e=>by cases e)
    have q:=t0t (P:=P) (w:=w1) (t:=T) (x:=.slice a len cap) (y:=.slice none 0 0) rfl (o4c hT a len cap w1)
    simp only[Sem.run_bind,g,q,Result.andThen_ok]
    rfl
   refine wp_two rfl rfl rfl rfl run0 run1 ?_
   show(clC P f).wp P _ ⟨(t1'.setIfInBounds 3 (.slice a len cap)).setIfInBounds 4 (.bool a.isNone),[]⟩ w1
   cases a with
   |none=>
    have hl:l=[]:=by
     cases l with
     |nil=>rfl
     |cons x l=>obtain⟨p,c,e1,_⟩:=k4 0 (by simp);cases e1
    subst hl
    refine m0n hcl hm (K:=0) n _ _ _ _ (LsOk.none _ _ _) (FN []) (Nat.zero_le _) [] r1 σ1 w1 _ _ q1 ht3 fun t2' w2 hth2=> ?_
    obtain⟨r2,σ2,p1,p2,p3,p4,p5⟩:=hth2
    obtain⟨v2,u1,u2⟩:=o3c p1 p3 (RN [])
    refine⟨rfl,v2,u1,v2,rfl,?_⟩
    cases u2
    obtain⟨m1,m2,m3⟩:=p1.newNil t
    exact⟨_,σ2,m1,(q2.trans p2 fun _ h _=>h).trans (m3.toK m2 (Snap.le_refl _) (Nat.zero_le _)) fun _ h _=>h,.own 0 0 (l0y t.width) (by simp[RM.setArr,W0,SW.len]),hsl,Nat.zero_le _⟩
   |some p=>
    refine m0n hcl hm (K:=0) n _ _ _ _ (LsOk.none _ _ _) (FS l) (Nat.zero_le _) [] r1 σ1 w1 _ _ q1 ht3 fun t2' w2 hth2=> ?_
    obtain⟨r2,σ2,p1,p2,p3,p4,p5⟩:=hth2
    have hFD:=FD l
    rw[hok]at hFD
    refine m0n hcl hm (K:=0) n _ _ _ _ (LsOk.none _ _ _) hFD (Nat.zero_le _) [] r2 σ2 w2 _ _ p1 p3 fun t3' w3 hth3=> ?_
    obtain⟨r3,σ3,o1,o2,o3,o4,o5⟩:=hth3
    obtain⟨v2,u1,u2⟩:=o3c o1 o3 (RS l)
    refine⟨rfl,v2,u1,v2,rfl,?_⟩
    obtain⟨z1,z2⟩:=Tree.guard_some (FF l)
    obtain⟨o',y1,y2,y3⟩:=e1t z2
    simp only[Nat.sub_self,List.getElem?_cons_zero,Option.some.injEq]at y2
    subst y2
    obtain⟨r4,x1,x2,x3,x4⟩:=k1i y3 (Nat.zero_le _) o1 (LRel.one u2)
    refine⟨r4,σ3,?_,?_,?_,hsl,Nat.zero_le _⟩
    ·have:=x1 []
     rwa [hinst]at this
    ·have f4:FrameK 0 (SS l).log r r4 σ σ3 w w3:=(((q2.trans p2 fun _ h _=>h).more fun _ h=>by cases h).trans o2 fun _ h _=>h).trans x3 fun _ h _=>h
     exact f4.more fun b hb hk=>by omega
    ·exact x2.at_ 0 (instV (.own 0) [.l t l]) v2 rfl rfl
 ·simp[Tree.sel]at h
end
end Go.Proofs.Ytoehlcomhpnjgaa.Vx
noncomputable section
namespace Go.Proofs.Ytoehlcomhpnjgaa.Vx
open Go Go.RowKit
set_option linter.unusedVariables false
section
variable {P:Program} {r:RM} {σ:Snap} {w:World}
end
end Go.Proofs.Ytoehlcomhpnjgaa.Vx
noncomputable section
namespace Go.Proofs.Ytoehlcomhpnjgaa.Vx
open Go Go.RowKit
set_option linter.unusedVariables false
def ptrOf:SV→Option Nat
 |.ptr b _=>some b
 |.tup (.ptr b _::_)=>some b
 |_=>none
def cvS:List (Option Nat×Nat×CK)→SV→SW→SW
 |[],_,s=>s
 |(some b,i,k)::r,v,s=>cvS r v (cvB b i k s)
 |(none,i,k)::r,v,s=>match ptrOf v with
  |some b=>cvS r v (cvB b i k s)
  |none=>cvS r v s
def boxEvV (cv:List (Option Nat×Nat×CK))(md:Bool)(P:Program)(cl:b0p)(ls:b0u)(n:Nat)(f:FuncId)(B:FBox)(env:List Dat):Tree (Nat×List Dat):=
 (evBodyF md P cl ls n f (instL B.args env) ⟨instBs B.blks env,[]⟩).bind fun x=>o2a B.blks.length B.log B.outs x.1 (cvS cv x.1 x.2)
def boxCV (cv:List (Option Nat×Nat×CK))(md:Bool)(P:Program)(cs:FuncId→Option a0q)(f:Nat)(ls:b0u)(B:FBox)(env:List Dat):Tree (Nat×List Dat):=boxEvV cv md P (clMd md P cs) ls 4000 f B env
section
variable {P:Program} {r:RM} {σ:Snap} {w:World}
theorem a4j {K:Nat}: ∀(cv:List (Option Nat×Nat×CK)) (v:SV) {r:RM} {σ:Snap} {s:SW},Rel r σ s w→K≤s.len→
  ∃r2 σ2,r.le r2∧σ.le σ2∧Rel r2 σ2 (cvS cv v s) w∧FrameK K (cvS cv v s).log r r2 σ σ2 w w∧K≤(cvS cv v s).len∧ ∀x,x∈s.log→x∈(cvS cv v s).log
 |[],v,r,σ,s,hr,hK=>⟨r,σ,RM.le_refl _,Snap.le_refl _,hr,FrameK.refl ..,hK,fun _ h=>h⟩
 |(some b,i,k)::cv,v,r,σ,s,hr,hK=>by
  obtain⟨r1,σ1,a1,a2,a3,a4,a5,a6⟩:=g4r b i k hr hK
  obtain⟨r2,σ2,b1,b2,b3,b4,b5,b6⟩:=a4j cv v a3 a5
  exact⟨r2,σ2,RM.le_trans a1 b1,Snap.le_trans a2 b2,b3,a4.trans b4 fun x hx _=>b6 x hx,b5,fun x hx=>b6 x (a6 x hx)⟩
 |(none,i,k)::cv,v,r,σ,s,hr,hK=>by
  unfold cvS
  cases ptrOf v with
  |none=>exact a4j cv v hr hK
  |some b=>
   obtain⟨r1,σ1,a1,a2,a3,a4,a5,a6⟩:=g4r b i k hr hK
   obtain⟨r2,σ2,b1,b2,b3,b4,b5,b6⟩:=a4j cv v a3 a5
   exact⟨r2,σ2,RM.le_trans a1 b1,Snap.le_trans a2 b2,b3,a4.trans b4 fun x hx _=>b6 x hx,b5,fun x hx=>b6 x (a6 x hx)⟩
theorem d4z {cl:b0p}(hcl:ClOk P cl)(hm:P.follows .mixedOrders=true){ls:b0u}{n:Nat}{f:FuncId}{B:FBox}{cv:List (Option Nat×Nat×CK)}{md:Bool}(hls:LsOk P B.blks.length ls (a0r P f))
  (hB: ∀env x,(B.fn env).sel=some x→(boxEvV cv md P cl ls n f B env).sel=some x):a0v P f (a0j B):=by
 intro args s v s1 h hlog r σ w args' hr ha
 unfold a0j at h
 split at h
 ·rename_i env henv
  obtain⟨⟨k,e⟩,h1,h2⟩:=Tree.bind_some h
  split at h2
  ·rename_i o ho
   cases h2
   obtain⟨f1,f2,f3⟩:=c1f henv hr ha []
   have hE:=hB env _ h1
   unfold boxEvV at hE
   obtain⟨⟨v1,s2⟩,h3,h4⟩:=Tree.bind_some hE
   rw[v0b]at h3
   have hlen:(⟨instBs B.blks env,[]⟩:SW).len=B.blks.length:=by simp[SW.len,instBs]
   refine(t0k hcl hm hls h3 (by rw[hlen];exact Nat.le_refl _) f1 f2).mono ?_
   rintro e' w' ⟨v',rfl,r',σ',a1,a2,a3,a4,a5⟩
   obtain⟨g1,g2⟩:=Tree.guard_some h4
   obtain⟨o',q1,q2,q3⟩:=e1t g2
   rw[Nat.sub_zero,ho]at q2
   cases q2
   obtain⟨r1,σ1,n0,n1,n2,n3,n4,n5⟩:=a4j (K:=B.blks.length) cv v1 a1 a5
   obtain⟨r2,b1,b2,b3,b4⟩:=k1i q3 n4 n2 (LRel.one (a3.mono n0 n1))
   have lg:=o1x g1
   refine⟨v',rfl,r2,σ1,b1 B.log,?_,?_,(fun x hx _=>by rw[hlog]at hx;cases hx),?_⟩
   ·rw[←f3];exact((a2.trans n3 fun b hb _=>n5 b hb).trans b3 fun _ h _=>h).more fun b hb hk=>lg b hb hk
   ·exact b2.at_ 0 (instV o.1 e) v' rfl rfl
   ·rw[←f3];show _≤(instBs o.2 e).length;rw[instBs,List.length_map];exact b4
  ·simp[Tree.sel]at h2
 ·simp[Tree.sel]at h
theorem x3p {cs:FuncId→Option a0q}(hcs:CsOk P cs)(hm:P.follows .mixedOrders=true)(md:Bool){ls:b0u}{f:FuncId}{args:List PV}{blks:List PB}{log:List Nat}{outs:List (PV×List PB)}{op:List Dat→Option (Nat×List Dat)}{cv:List (Option Nat×Nat×CK)}
  (hls:LsOk P blks.length ls (a0r P f)) (h: ∀env x,op env=some x→(boxCV cv md P cs f ls (mkF args blks log outs fun _=>none) env).sel=some x):a0v P f (a0j (mkF args blks log outs op)):=
 d4z (cv:=cv) (md:=md) (c1t hcs hm md) hm hls fun env x hx=>h env x (i0g hx)
end
end Go.Proofs.Ytoehlcomhpnjgaa.Vx
