import Derived.Test.YtoehlcomhpnjgaaVxSound4
namespace Go.Proofs.Ytoehlcomhpnjgaa.Vx
open Go Go.RowKit
set_option linter.unusedVariables false
section
variable {P:Program} {r:RM} {σ:Snap} {s:SW} {w:World}
inductive ORel (r:RM)(σ:Snap):Option SV→Option Value→Prop
 |none:ORel r σ none none
 |some (v:SV) (v':Value) (h:VRel r σ v v'):ORel r σ (some v) (some v')
theorem b0g {k:IntKind}{n:Int}{y:Nat}{code:BoundsCode}(h:0≤n∧n≤y)(w:World):(Instr.sliceBound (.int k n) y code).run P w=.ok n.toNat w:=by
 simp[Instr.sliceBound,asIntOf,h.1,h.2]
theorem f1q {b:Bool}{len cap:Nat}{lo hi:Option SV}{lo' hi':Option Value}{l h:Int}(hlo:ORel r σ lo lo')(hhi:ORel r σ hi hi')(el:c0e 0 lo=some l)(eh:c0e len hi=some h)
  (h1:0≤h∧h≤len) (h2:0≤l∧l≤h) (hc:len≤cap) (w:World):(Instr.sliceBounds b len cap lo' hi' none).run P w=.ok (l.toNat,h.toNat,cap) w:=by
 have bnd: ∀{x:Option SV} {x':Option Value} {d:Nat} {n:Int},ORel r σ x x'→c0e d x=some n→(x'=none∧n=d)∨ ∃k,x'=some (.int k n):=by
  intro x x' d n hx e
  cases hx with
  |none=>simp only[c0e,Option.some.injEq]at e;exact .inl ⟨rfl,e.symm⟩
  |some v v' hv=>
   cases v<;>simp[c0e]at e
   subst e
   cases hv
   exact .inr ⟨_,rfl⟩
 unfold Instr.sliceBounds
 rcases bnd hhi eh with⟨rfl,rfl⟩|⟨kh,rfl⟩<;>rcases bnd hlo el with⟨rfl,rfl⟩|⟨kl,rfl⟩
 ·simp
 ·simp[b0g (P:=P) (k:=kl) (n:=l) (y:=len) (by omega)]
 ·simp[b0g (P:=P) (k:=kh) (n:=h) (y:=cap) (by omega)]
 ·simp[b0g (P:=P) (k:=kh) (n:=h) (y:=cap) (by omega),b0g (P:=P) (k:=kl) (n:=l) (y:=h.toNat) (by omega)]
theorem f0x (hr:Rel r σ s w){x:SV}{x':Value}(hx:VRel r σ x x'){n:Nat}(h:f0u x s=some n):
  (∃t,x=.str t∧x'=.string t∧n=t.size)∨((∀t,x≠.str t)∧ ∃a cap,x'=.slice a n cap∧n≤cap):=by
 unfold f0u at h
 split at h
 ·cases h;cases hx;exact .inr ⟨(fun t e=>by cases e),none,0,rfl,Nat.le_refl _⟩
 ·cases h;cases hx;exact .inl ⟨_,rfl,rfl,rfl⟩
 ·cases h;cases hx;exact .inr ⟨(fun t e=>by cases e),_,_,rfl,Nat.le_refl _⟩
 ·split at h
  ·cases h
   cases hx with
   |part _ _ _ _ x a cap hx p1 p2 p3 p4 p5=>exact .inr ⟨(fun t e=>by cases e),a,cap,rfl,p2⟩
  ·cases h
 ·split at h
  ·rename_i d hd
   cases h
   obtain⟨a,cap,e1,e2,e3⟩:=c1k hr hx hd
   refine .inr ⟨fun t e=> ?_,a,cap,e1,e2⟩
   subst e;simp[b0c]at hd
  ·cases h
theorem h2m (hr:Rel r σ s w){b g:Nat}{d:DL}(hd:b0c (.own b g) s=some d){x:ALoc}(hx:r.arr b g=some x):x.wd=d.t.width∧x.L=d.l.length∧(x.a=none→x.cap=0)∧x.L≤x.cap:=by
 simp only[b0c]at hd
 split at hd
 ·rename_i t g' l hb
  split at hd
  ·rename_i hg;obtain rfl:=a0n hg;cases hd
   have:=hr.arr _ _ _ _ _ hb hx
   exact⟨this.wd,this.len.symm,this.nil,this.cap⟩
  ·cases hd
 ·rename_i t g' l hb
  split at hd
  ·rename_i hg;obtain rfl:=a0n hg;cases hd
   obtain⟨k1,k2,k3,k4,k5⟩:=hr.frz _ _ _ _ _ hb hx
   exact⟨k1,k2.symm,k4,k3⟩
  ·cases hd
 ·cases hd
theorem t1m (hr:Rel r σ s w){b g lo n:Nat}{d:DL}(hd:b0c (.part b g lo n) s=some d){x:ALoc}(hx:r.arr b g=some x):x.wd=d.t.width:=by
 simp only[b0c]at hd
 split at hd
 ·rename_i t g' l hb
  split at hd
  ·rename_i hg;obtain rfl:=a0n hg;cases hd;exact(hr.arr _ _ _ _ _ hb hx).wd
  ·cases hd
 ·rename_i t g' l hb
  split at hd
  ·rename_i hg;obtain rfl:=a0n hg;cases hd;exact(hr.frz _ _ _ _ _ hb hx).1
  ·cases hd
 ·cases hd
theorem n1s {t:Ty}{l:List t.den}{a:Option Addr}{len cap:Nat}(h:RD σ (.sl t) (fun _=>some (.slice a len cap)) 0 l){p q m:Nat}(hq:q≤l.length)(hp:p≤q)(hm:q≤m){l':List t.den}(hl:l'=(l.take q).drop p):
  RD σ (.sl t) (fun _=>some (.slice (if m=p then a else a.map (·.add (p*t.width))) (q-p) (m-p))) 0 l':=by
 rw[x0x]at h⊢
 obtain⟨a',len',cap',e,h2,h3,h4⟩:=h
 cases e
 have hlen:l'.length=q-p:=by subst hl;simp;omega
 refine⟨_,_,_,rfl,hlen.symm,by omega,fun i hi=> ?_⟩
 rw[hlen]at hi
 have hil:p+i<l.length:=by omega
 obtain⟨z,c,u1,u2,u3,u4⟩:=h4 (p+i) hil
 obtain⟨zb,zo,zs⟩:=z
 simp only at u2 u3 u4
 subst u2;subst u1
 refine⟨⟨zb,zo+p*t.width,none⟩,c,?_,rfl,u3,?_⟩
 ·rw[if_neg (by omega)]
  simp[b0o]
 ·subst hl
  simp only[List.getElem_drop,List.getElem_take]
  rwa [Nat.add_assoc,←Nat.add_mul]
theorem u2v {t:Ty}{l:List t.den}{a:Option Addr}{len cap:Nat}(h:RD σ (.sl t) (fun _=>some (.slice a len cap)) 0 l){p q:Nat}(hq:q≤l.length)(hp:p≤q){l':List t.den}(hl:l'=(l.take q).drop p):
  RD σ (.sl t) (fun _=>some (.slice (if cap=p then a else a.map (·.add (p*t.width))) (q-p) (cap-p))) 0 l':=by
 refine n1s h hq hp ?_ hl
 rw[x0x]at h
 obtain⟨a',len',cap',e,h2,h3,h4⟩:=h
 cases e
 omega
theorem q1t (hr:Rel r σ s w){x:SV}{x':Value}(hx:VRel r σ x x'){lo hi:Option SV}{lo' hi':Option Value}{mv:SV}{mv':Value}(hlo:ORel r σ lo lo')(hhi:ORel r σ hi hi')(hmx:VRel r σ mv mv')
  {T:TypeId} {v:SV} (h:(r0n P T x lo hi mv s).sel=some v): ∃v',VRel r σ v v'∧(Instr.sliceAt T x' lo' hi' (some mv')).run P w=.ok v' w:=by
 unfold r0n at h
 split at h
 ·rename_i l k h0 k2 m n el hn
  obtain⟨g0,hA⟩:=Tree.guard_some h
  obtain⟨g1,hB⟩:=Tree.guard_some hA
  obtain⟨g2,hC⟩:=Tree.guard_some hB
  clear h hA hB
  have h:=hC;clear hC
  simp only[Bool.and_eq_true,decide_eq_true_eq]at g0 g1 g2
  subst g0
  cases hmx
  cases hhi with
  |some _ _ hv=>
   cases hv
   have bl:(lo'=none∧l=0)∨ ∃kl,lo'=some (.int kl l):=by
    cases hlo with
    |none=>simp only[c0e,Option.some.injEq]at el;exact .inl ⟨rfl,el.symm⟩
    |some v v' hv=>
     cases v<;>simp[c0e]at el
     subst el
     cases hv
     exact .inr ⟨_,rfl⟩
   have runsl: ∀{e:TypeId} {wd:Nat} {a:Option Addr} {cap:Nat},P.underlying T=some (.slice e)→szOf P e=some wd→n≤cap→
     (Instr.sliceAt T (.slice a n cap) lo' (some (.int k m)) (some (.int k2 m))).run P w=.ok (.slice (if m.toNat=l.toNat then a else a.map (·.add (l.toNat*wd))) (m.toNat-l.toNat) (m.toNat-l.toNat)) w:=by
    intro e wd a cap hu hm hc
    have rb:(Instr.sliceBounds true n cap lo' (some (.int k m)) (some (.int k2 m))).run P w=.ok (l.toNat,m.toNat,m.toNat) w:=by
     unfold Instr.sliceBounds
     rcases bl with⟨rfl,rfl⟩|⟨kl,rfl⟩
     ·simp[b0g (P:=P) (k:=k2) (n:=m) (y:=cap) (by omega),b0g (P:=P) (k:=k) (n:=m) (y:=m.toNat) (by omega)]
     ·simp[b0g (P:=P) (k:=k2) (n:=m) (y:=cap) (by omega),b0g (P:=P) (k:=k) (n:=m) (y:=m.toNat) (by omega),b0g (P:=P) (k:=kl) (n:=l) (y:=m.toNat) (by omega)]
    unfold Instr.sliceAt
    simp only[Sem.run_bind,run_underlying hu,Result.andThen_ok,Instr.slice,rb,b0z hm,Sem.run_pure]
   split at h
   ·rename_i e t c hu
    split at h
    ·rename_i wd hm
     split at h
     ·rename_i hw
      obtain rfl:=a0n hw
      cases h
      have hx0:=hx
      rcases f0x hr hx hn with⟨t',q,_⟩|⟨_,a,cap,rfl,hc⟩
      ·cases q
      ·cases hx0 with
       |imm _ _ _ hl=>
        have hlen:n=c.length:=by simp[f0u,b0c]at hn;exact hn.symm
        refine⟨_,.imm t _ _ (n1s hl (by omega) (by omega) (Nat.le_refl _) ?_),runsl hu hm hc⟩
        split
        ·simp only[c0e,Option.some.injEq]at el;subst el;simp
        ·rfl
     ·cases h
    ·cases h
   ·rename_i e b g hu
    split at h
    ·rename_i d wd hd hm
     split at h
     ·rename_i hw
      obtain rfl:=a0n hw
      rcases f0x hr hx hn with⟨t',q,_⟩|⟨_,a,cap,rfl,hc⟩
      ·cases q
      ·generalize hv':Value.slice a n cap=v' at hx
       cases hx with
       |own _ _ x hx=>
        simp only[Value.slice.injEq]at hv'
        obtain⟨rfl,rfl,rfl⟩:=hv'
        obtain⟨o1,o2,o3,o4⟩:=h2m hr hd hx
        cases h
        refine⟨_,?_,runsl hu hm hc⟩
        refine .part b g _ _ x _ _ hx (by omega) (by omega) (by omega) (fun hpos=> ?_) ?_
        ·cases hxa:x.a with
         |none=>have:=o3 hxa;omega
         |some jo=>
          obtain⟨j,o⟩:=jo
          refine⟨j,o,rfl,?_⟩
          rw[if_neg (by omega)]
          simp[ALoc.addr,hxa,b0o,o1]
        ·cases hxa:x.a with
         |none=>left;split<;>simp[ALoc.addr,hxa]
         |some jo=>
          obtain⟨j,o⟩:=jo
          right
          split
          ·exact⟨j,o,0,rfl,by simp[ALoc.addr,hxa],Nat.zero_le _⟩
          ·exact⟨j,o,l.toNat,rfl,by simp[ALoc.addr,hxa,b0o,o1],by omega⟩
     ·cases h
    ·cases h
   ·rename_i e b g lo0 n0 hu
    split at h
    ·rename_i d wd hd hm
     split at h
     ·rename_i hw
      obtain rfl:=a0n hw
      rcases f0x hr hx hn with⟨t',q,_⟩|⟨_,a,cap,rfl,hc⟩
      ·cases q
      ·cases hx with
       |part _ _ _ _ x a cap hx p1 p2 p3 p4 p5=>
        have o1:=t1m hr hd hx
        cases h
        refine⟨_,?_,runsl hu hm hc⟩
        refine .part b g _ _ x _ _ hx (by omega) (by omega) (by omega) (fun hpos=> ?_) ?_
        ·obtain⟨j,o,q1,q2⟩:=p4 (by omega)
         refine⟨j,o,q1,?_⟩
         rw[if_neg (by omega),q2]
         simp only[Option.map_some,b0o,o1,Nat.add_mul,Nat.add_assoc]
        ·split
         ·exact p5
         ·rename_i hne
          obtain⟨j,o,q1,q2⟩:=p4 (by omega)
          right
          exact⟨j,o,lo0+l.toNat,q1,by rw[q2];simp only[Option.map_some,b0o,o1,Nat.add_mul,Nat.add_assoc],by omega⟩
     ·cases h
    ·cases h
   ·cases h
 ·cases h
theorem c2g (hr:Rel r σ s w){x:SV}{x':Value}(hx:VRel r σ x x'){lo hi mx:Option SV}{lo' hi' mx':Option Value}(hlo:ORel r σ lo lo')(hhi:ORel r σ hi hi')(hmx:ORel r σ mx mx')
  {T:TypeId} {v:SV} (h:(d1f P T x lo hi mx s).sel=some v): ∃v',VRel r σ v v'∧(Instr.sliceAt T x' lo' hi' mx').run P w=.ok v' w:=by
 unfold d1f at h
 split at h
 ·cases hmx with
  |some _ _ hmv=>exact q1t hr hx hlo hhi hmv h
 ·cases hmx
  split at h
  ·cases h
  ·rename_i n hn
   split at h
   ·rename_i l h0 el eh
    obtain⟨g1,hA⟩:=Tree.guard_some h
    obtain⟨g2,hB⟩:=Tree.guard_some hA
    clear h hA
    have h:=hB;clear hB
    simp only[Bool.and_eq_true,decide_eq_true_eq]at g1 g2
    have runsl: ∀{e:TypeId} {m:Nat} {a:Option Addr} {cap:Nat},P.underlying T=some (.slice e)→szOf P e=some m→n≤cap→
      (Instr.sliceAt T (.slice a n cap) lo' hi' none).run P w=.ok (.slice (if cap=l.toNat then a else a.map (·.add (l.toNat*m))) (h0.toNat-l.toNat) (cap-l.toNat)) w:=by
     intro e m a cap hu hm hc
     unfold Instr.sliceAt
     simp only[Sem.run_bind,run_underlying hu,Result.andThen_ok,Instr.slice,f1q hlo hhi el eh g1 g2 hc,b0z hm,Sem.run_pure]
    split at h
    ·rename_i t hu
     cases h
     cases hx
     have hn':n=t.size:=by simp[f0u]at hn;exact hn.symm
     subst hn'
     refine⟨_,.str _,?_⟩
     unfold Instr.sliceAt
     simp[run_underlying hu,Instr.slice,f1q hlo hhi el eh g1 g2 (Nat.le_refl _)]
    ·rename_i e t c hu
     split at h
     ·rename_i m hm
      split at h
      ·rename_i hw
       obtain rfl:=a0n hw
       cases h
       have hx0:=hx
       rcases f0x hr hx hn with⟨t',q,_⟩|⟨_,a,cap,rfl,hc⟩
       ·cases q
       ·cases hx0 with
        |imm _ _ _ hl=>
         have hlen:n=c.length:=by simp[f0u,b0c]at hn;exact hn.symm
         refine⟨_,?_,runsl hu hm hc⟩
         refine .imm t _ _ (u2v hl (by omega) (by omega) ?_)
         have e1: ∀k,c0e 0 lo=some k→lo=none→k=0:=by intro k e1 e2;subst e2;simp[c0e]at e1;exact e1.symm
         have e2: ∀k,c0e n hi=some k→hi=none→k=n:=by intro k e1 e2;subst e2;simp[c0e]at e1;exact e1.symm
         split
         ·rw[e1 _ el rfl,e2 _ eh rfl];simp[hlen]
         ·rw[e1 _ el rfl];simp
         ·rw[e2 _ eh rfl];simp[hlen]
         ·rfl
      ·cases h
     ·cases h
    ·rename_i e b g hu
     split at h
     ·rename_i d m hd hm
      split at h
      ·rename_i hw
       obtain rfl:=a0n hw
       rcases f0x hr hx hn with⟨t',q,_⟩|⟨_,a,cap,rfl,hc⟩
       ·cases q
       ·have hxx:=hx
        generalize hv':Value.slice a n cap=v' at hx
        cases hx with
        |own _ _ x hx=>
         simp only[Value.slice.injEq]at hv'
         obtain⟨rfl,rfl,rfl⟩:=hv'
         obtain⟨o1,o2,o3,o4⟩:=h2m hr hd hx
         cases h
         refine⟨_,?_,runsl hu hm hc⟩
         have pc:VRel r σ (.part b g l.toNat (h0.toNat-l.toNat)) (.slice (if x.cap=l.toNat then x.addr else x.addr.map (·.add (l.toNat*d.t.width))) (h0.toNat-l.toNat) (x.cap-l.toNat)):=by
          refine .part b g _ _ x _ _ hx (by omega) (by omega) (by omega) (fun hpos=> ?_) ?_
          ·cases hxa:x.a with
           |none=>have:=o3 hxa;omega
           |some jo=>
            obtain⟨j,o⟩:=jo
            refine⟨j,o,rfl,?_⟩
            rw[if_neg (by omega)]
            simp[ALoc.addr,hxa,b0o,o1]
          ·cases hxa:x.a with
           |none=>left;split<;>simp[ALoc.addr,hxa]
           |some jo=>
            obtain⟨j,o⟩:=jo
            right
            split
            ·exact⟨j,o,0,rfl,by simp[ALoc.addr,hxa],Nat.zero_le _⟩
            ·exact⟨j,o,l.toNat,rfl,by simp[ALoc.addr,hxa,b0o,o1],by omega⟩
         split
         ·have el':l=0:=by simp[c0e]at el;exact el.symm
          have eh':h0=x.L:=by simp[c0e]at eh;exact eh.symm
          subst el';subst eh'
          have:=VRel.own (r:=r) (σ:=σ) b g x hx
          cases hxa:x.a with
          |none=>
           have:=o3 hxa
           simp[this]
           have hL:x.L=0:=by omega
           have q:=VRel.own (r:=r) (σ:=σ) b g x hx
           simpa [hL,this]using q
          |some jo=>
           obtain⟨j,o⟩:=jo
           have hadr:x.addr=some ⟨j,o,none⟩:=by simp[ALoc.addr,hxa]
           rw[hadr]at this⊢
           simpa [b0o]using this
         ·exact pc
      ·cases h
     ·cases h
    ·rename_i e b g lo0 n0 hu
     split at h
     ·rename_i d m hd hm
      split at h
      ·rename_i hw
       obtain rfl:=a0n hw
       rcases f0x hr hx hn with⟨t',q,_⟩|⟨_,a,cap,rfl,hc⟩
       ·cases q
       ·cases hx with
        |part _ _ _ _ x a cap hx p1 p2 p3 p4 p5=>
         have o1:=t1m hr hd hx
         cases h
         refine⟨_,?_,runsl hu hm hc⟩
         refine .part b g _ _ x _ _ hx (by omega) (by omega) (by omega) (fun hpos=> ?_) ?_
         ·obtain⟨j,o,q1,q2⟩:=p4 (by omega)
          refine⟨j,o,q1,?_⟩
          rw[if_neg (by omega),q2]
          simp only[Option.map_some,b0o,o1,Nat.add_mul,Nat.add_assoc]
         ·split
          ·exact p5
          ·rename_i hne
           obtain⟨j,o,q1,q2⟩:=p4 (by omega)
           right
           exact⟨j,o,lo0+l.toNat,q1,by rw[q2];simp only[Option.map_some,b0o,o1,Nat.add_mul,Nat.add_assoc],by omega⟩
      ·cases h
     ·cases h
    ·rename_i e hu
     split at h
     ·rename_i m hm
      cases h
      cases hx
      have hn0:n=0:=by simp[f0u]at hn;exact hn.symm
      subst hn0
      have e1:h0=0:=by omega
      have e2:l=0:=by omega
      subst e1;subst e2
      exact⟨_,.nilsl,by have:=runsl (a:=none) (cap:=0) hu hm (Nat.le_refl _);simpa using this⟩
     ·cases h
    ·cases h
   ·cases h
theorem r1l {b o:Nat}{x':Value}(hx:VRel r σ (.ptr b o) x'){T:TypeId}{v:SV}(h:(r0a P T b o s).sel=some v):
  ∃v',VRel r σ v v'∧(Instr.sliceAt T x' none none none).run P w=.ok v' w:=by
 unfold r0a at h
 split at h
 ·rename_i n e hu
  split at h
  ·rename_i m es hm hb
   split at h
   ·rename_i t n' l he
    obtain⟨g1,h⟩:=Tree.guard_some h
    cases h
    cases hx with
    |ptr _ _ j p hj=>
     refine⟨_,.asl b o n j p hj,?_⟩
     unfold Instr.sliceAt
     simp only[Sem.run_bind,run_underlying hu,Result.andThen_ok,Instr.sureAddr,Instr.sliceBounds,b0z hm,Sem.run_pure]
     simp[b0o]
   ·cases h
  ·cases h
 ·cases h
theorem w3s {b o:Nat}{x':Value}(hx:VRel r σ (.ptr b o) x'){T:TypeId}{kd:IntKind}{q:Int}{v:SV}(h:(l3z P T b o q s).sel=some v):
  ∃v',VRel r σ v v'∧(Instr.sliceAt T x' none (some (.int kd q)) none).run P w=.ok v' w:=by
 unfold l3z at h
 split at h
 ·rename_i n e hu
  split at h
  ·rename_i m es hm hb
   split at h
   ·rename_i t n' l he
    obtain⟨g1,h⟩:=Tree.guard_some h
    obtain⟨g2,h⟩:=Tree.guard_some h
    cases h
    simp only[Bool.and_eq_true,decide_eq_true_eq]at g2
    cases hx with
    |ptr _ _ j p hj=>
     refine⟨_,.asp b o q.toNat n j p hj (by omega),?_⟩
     unfold Instr.sliceAt
     simp only[Sem.run_bind,run_underlying hu,Result.andThen_ok,Instr.sureAddr,Instr.sliceBounds,b0z hm,Sem.run_pure,b0g g2]
     simp[b0o]
   ·cases h
  ·cases h
 ·cases h
theorem x3c {b g i:Nat}{x':Value}(hx:VRel r σ (.eptr b g i 0) x'){T:TypeId}{kd:IntKind}{q:Int}{v:SV}(h:(l3r P T b g i q s).sel=some v):
  ∃v',VRel r σ v v'∧(Instr.sliceAt T x' none (some (.int kd q)) none).run P w=.ok v' w:=by
 unfold l3r at h
 split at h
 ·rename_i n e hu
  split at h
  ·rename_i m n' t g' l hm hb
   obtain⟨g1,h⟩:=Tree.guard_some h
   obtain⟨g2,h⟩:=Tree.guard_some h
   cases h
   simp only[Bool.and_eq_true,decide_eq_true_eq]at g2
   cases hx with
   |eptr _ _ _ _ x j p hj h1 h2=>
    refine⟨_,.esp b g i q.toNat n x j p hj h1 h2 (by omega),?_⟩
    unfold Instr.sliceAt
    simp only[Sem.run_bind,run_underlying hu,Result.andThen_ok,Instr.sureAddr,Instr.sliceBounds,b0z hm,Sem.run_pure,b0g g2]
    simp[b0o]
  ·cases h
 ·cases h
theorem x3x {b o n:Nat}{x':Value}(hx:VRel r σ (.asl b o n) x'){T:TypeId}{kd:IntKind}{q:Int}{v:SV}(h:(l3s P T b o n q).sel=some v):
  ∃v',VRel r σ v v'∧(Instr.sliceAt T x' none (some (.int kd q)) none).run P w=.ok v' w:=by
 unfold l3s at h
 split at h
 ·rename_i e hu
  split at h
  ·rename_i m hm
   obtain⟨g2,h⟩:=Tree.guard_some h
   cases h
   simp only[Bool.and_eq_true,decide_eq_true_eq]at g2
   cases hx with
   |asl _ _ _ j p hj=>
    refine⟨_,.asp b o q.toNat n j p hj (by omega),?_⟩
    unfold Instr.sliceAt
    simp only[Sem.run_bind,run_underlying hu,Result.andThen_ok,Instr.slice,Instr.sliceBounds,b0z hm,Sem.run_pure,b0g g2]
    simp[b0o]
  ·cases h
 ·cases h
theorem q1f (hr:Rel r σ s w){x:SV}{x':Value}(hx:VRel r σ x x'){lo hi mx:Option SV}{lo' hi' mx':Option Value}(hlo:ORel r σ lo lo')(hhi:ORel r σ hi hi')(hmx:ORel r σ mx mx')
  {T:TypeId} {v:SV} (h:(o0g P T x lo hi mx s).sel=some v): ∃v',VRel r σ v v'∧(Instr.sliceAt T x' lo' hi' mx').run P w=.ok v' w:=by
 unfold o0g at h
 split at h
 ·cases hlo;cases hhi;cases hmx
  exact r1l hx h
 ·cases hlo;cases hmx
  cases hhi with
  |some _ _ hv=>cases hv;exact w3s hx h
 ·cases hlo;cases hmx
  cases hhi with
  |some _ _ hv=>cases hv;exact x3c hx h
 ·cases hlo;cases hmx
  cases hhi with
  |some _ _ hv=>cases hv;exact x3x hx h
 ·exact c2g hr hx hlo hhi hmx h
end
end Go.Proofs.Ytoehlcomhpnjgaa.Vx
