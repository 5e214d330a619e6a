import Derived.Test.YtoehlcomhpnjgaaVxSoundA
namespace Go.Proofs.Ytoehlcomhpnjgaa.Vx
open Go Go.RowKit
set_option linter.unusedVariables false
section
variable {P:Program} {r:RM} {σ:Snap} {s:SW} {w:World}
theorem n0h {v:SV}{es:List SV}(h:e1g v s=some es): ∃b g,v=.own b g∧s.blk b=some (.vec g es):=by
 unfold e1g at h
 split at h
 ·rename_i b g
  split at h
  ·rename_i g' es' hb
   split at h
   ·rename_i hg;obtain rfl:=a0n hg;cases h;exact⟨b,g,rfl,hb⟩
   ·cases h
  ·cases h
 ·cases h
theorem b1x (hr:Rel r σ s w){x i:SV}{x' i':Value}(hx:VRel r σ x x')(hi:VRel r σ i i'){T:TypeId}{v:SV}(h:(d0q P T x i s).sel=some v):
  ∃v',VRel r σ v v'∧(Instr.indexAt T x' i').run P w=.ok v' w:=by
 unfold d0q at h
 split at h
 ·rename_i b g es hv
  obtain⟨b',g',e,hb⟩:=n0h hv
  cases e
  split at h
  ·rename_i k i e hu
   split at h
   ·rename_i hn
    obtain⟨q,q1,q2,q3,q4⟩:=i0q h
    cases q4
    cases hi
    cases hx with
    |own _ _ x hx=>
     have hv:=hr.vec b g es x hb hx
     have hlen:=hv.len
     have hcap:=hv.cap
     cases hxa:x.a with
     |none=>have:=hv.nil hxa;omega
     |some jo=>
      obtain⟨j,o⟩:=jo
      refine⟨.pointer (some ⟨j,o+i.toNat*1,none⟩),?_,?_⟩
      ·have:=VRel.eptr (r:=r) (σ:=σ) b g q 0 x j o hx (by omega) hxa
       rw[hv.wd]at this
       rw[show i.toNat=q by omega]
       exact this
      ·simp only[ALoc.addr,hxa]
       exact e0y hu hn ⟨by omega,by omega⟩ w
   ·cases h
  ·cases h
 ·exact e1f hr hx hi h
theorem e2h (hr:Rel r σ s w){p:SV}{p':Value}(hp:VRel r σ p p'){T:TypeId}{v:SV}(h:v0g P T p s=some v): ∃v',VRel r σ v v'∧(Instr.loadAt T p').run P w=.ok v' w:=by
 unfold v0g at h
 split at h
 ·rename_i b g i o
  split at h
  ·rename_i g' es hb
   split at h
   ·rename_i n a hg hn ha
    obtain rfl:=a0n hg
    split at h
    ·rename_i x hx
     cases hp with
     |eptr _ _ _ _ y j m hy hi hj=>
      have hv:=hr.vec b g es y hb hy
      obtain⟨c,T',f,h1,h2,h3,h4⟩:=hv.row j m hj
      obtain⟨e1,e2,rfl,e3,rfl⟩:=e0u hx
      have hl:=hv.len
      have hc:=hv.cap
      simp only[a0t]at hl
      rw[hv.wd]
      have e3':=h4.sub
      rw[e3]at e3'
      obtain⟨v',q1,q2⟩:=e1x (T:=T) h1 e3' rfl (by
       rcases Nat.eq_zero_or_pos (esW x)with e|e
       ·exact .inl e
       ·right;omega) h ha hn
      rw[show m+i*1+o=m+(i+o) by omega]
      exact⟨v',q1,by simpa [Instr.loadAt,Instr.sureAddr]using q2⟩
    ·cases h
   ·cases h
  ·exact a1y hr hp h
 ·exact a1y hr hp h
theorem s1k (hr:Rel r σ s w){p v:SV}{p' v':Value}(hp:VRel r σ p p')(hv:VRel r σ v v'){T:TypeId}{s1:SW}(h:l0h P T p v s=some s1):
  ∃σ1 w1,σ.le σ1∧Rel r σ1 s1 w1∧Frame s.len s1.log r r σ σ1 w w1∧(Instr.storeAt T p' v').run P w=.ok () w1∧s1.len=s.len∧ ∀x,x∈s.log→x∈s1.log:=by
 unfold l0h at h
 split at h
 ·rename_i b g i o
  split at h
  ·rename_i g' es hb
   split at h
   ·rename_i n hn hst
    split at h
    ·rename_i hw
     rw[Bool.and_eq_true]at hw
     have hwn:=a0n hw.1
     obtain rfl:=a0n hw.2
     obtain⟨e1,e2,e3⟩:=p0z hv hst
     have hcs:v'.cells.size=n:=by rw[←e2,hwn]
     have hlen:v'.cells.toList.length=n:=by simpa using hcs
     have e1':ERel r σ v.ents (fun k=>v'.cells.toList[k]?) 0:=by simpa using e1
     split at h
     ·rename_i es' hes
      cases h
      obtain⟨a,x,e,rfl,rfl,hao,hx⟩:=d0k hes
      cases hp with
      |eptr _ _ _ _ y j m hy hi hj=>
       have hvr:=hr.vec b g _ y hb hy
       obtain⟨k1,k2,c,T',f,k3,k4,k5⟩:=hr.setVec hb hy hj (y:=v.ents) (l:=v'.cells.toList) (by rw[hwn,hx]) (by rw[hlen,hx]) e1'
       refine⟨σ,_,Snap.le_refl _,k1,k2,?_,by rw[SW.set_len,SW.note_len],fun x hx=>SW.note_sub _ _ _ hx⟩
       have:=e0v (P:=P) k3 k4 (o:=m+esW a) (l:=v'.cells.toList) k5 e3
       rw[hvr.wd,show m+i*1+o=m+esW a by omega]
       simp[Instr.storeAt,Instr.sureAddr,storeVar,b0z hn,hcs,this]
     ·cases h
    ·cases h
   ·cases h
  ·exact f1t hr hp hv h
 ·exact f1t hr hp hv h
theorem x0y (hr:Rel r σ s w){ps:List (Nat×SV)}{ps':Array (Nat×Value)}(hp:PRel r σ ps ps'.toList){T:TypeId}{n:Nat}{v1:SV}{s1:SW}(h:d0c P T n ps s=some (v1,s1)):
  Goes P r σ s w (Instr.buildSlice T n ps') v1 s1:=by
 unfold d0c at h
 split at h
 ·rename_i e he
  have hu:=j0b he
  split at h
  ·split at h
   ·rename_i i hi
    split at h
    ·rename_i z hz
     split at h
     ·rename_i es hc hb
      cases h
      simp only[Bool.and_eq_true]at hc
      have h1:=a0n hc.1
      have h2:=a0n hc.2.1
      have h3:=Nat.le_of_ble_eq_true hc.2.2.1
      have h4:=Nat.le_of_ble_eq_true hc.2.2.2
      have hwn: ∀n:Nat,esW (List.replicate n SV.dead)=n:=by
       intro n
       induction n with
       |zero=>rfl
       |succ n ih=>rw[List.replicate_succ,esW,ih];show 1+n=n+1;omega
      have hdead: ∀(n:Nat) (c:Array Value),n≤c.size→ERel r σ (List.replicate n SV.dead) (fun k=>c[k]?) 0:=by
       intro n c hn
       refine⟨fun k e hk ha=> ?_,fun k t q l hk=> ?_⟩
       ·have hm:=h0d hk
        obtain rfl:=(List.mem_replicate.1 hm).2
        have hlt:=f0g hk
        rw[hwn]at hlt
        have:k<c.size:=by simp only[SV.w]at hlt;omega
        exact⟨c[k],by rw[Nat.zero_add];exact Array.getElem?_eq_getElem this,.dead _⟩
       ·have hm:=h0d hk
        have:=(List.mem_replicate.1 hm).2
        cases this
      obtain⟨c',q1,q2,q3⟩:=a1c (m:=1) (c:=(Array.range (n*i.size)).map (z.cells[· %z.cells.size]!)) hp hb (hdead n _ (by simp[h1])) (by rw[hwn];simp[h1])
      have hsz:c'.size=n:=by
       have: ∀{ps:List (Nat×SV)} {es es':List SV},l0z 1 ps es=some es'→esW es'=esW es:=by
        intro ps
        induction ps with
        |nil=>intro es es' h;simp only[l0z,Option.some.injEq]at h;rw[h]
        |cons p ps ih=>
         intro es es' h
         obtain⟨i,v⟩:=p
         simp only[l0z]at h
         split at h
         ·rename_i hst hwn
          have hwn:=a0n hwn
          split at h
          ·rename_i es1 hes
           obtain⟨a,x,b,rfl,rfl,_,u2⟩:=d0k hes
           rw[ih h]
           simp only[a0t];omega
          ·cases h
         ·cases h
       have:=this hb
       rw[hwn]at this;omega
      have hrun:(Instr.buildSlice T n ps').run P w=.ok (.slice (some ⟨w.heap.size,0,none⟩) n n) (w.alloc (.cells c' e)):=by
       refine run_buildSlice w T e n ps' c' i z hu hi hz (by rw[h1];omega) (by rw[h1];omega) ?_
       have:(fun i_1:Nat=>some (i_1*i.size,i.size))=fun i_1:Nat=>some (i_1*1,1):=by rw[h1]
       rw[this]
       exact q1
      obtain⟨k1,k2,k3⟩:=hr.newVec (es:=es) (c:=c') e (0,0) n (.inl rfl) (by omega) (by omega) q2 (w':=w.alloc (.cells c' e)) rfl rfl rfl rfl
      refine⟨_,σ,_,_,k2,Snap.le_refl _,k1,k3,hrun,?_,fun x hx=>hx,by rw[SW.len_push];omega⟩
      have:=VRel.own (r:=r.setArr s.len 0 ⟨some (w.heap.size,0),esW es,n,1⟩) (σ:=σ) s.len 0 ⟨some (w.heap.size,0),esW es,n,1⟩ (by simp only[RM.setArr,and_self,if_true])
      have e:esW es=n:=by omega
      simp only[ALoc.addr,e]at this⊢
      exact this
     ·cases h
    ·cases h
   ·cases h
  ·exact m0t hr hp h
 ·exact m0t hr hp h
theorem VRow.news {es:List SV}{x:ALoc}(h:VRow r σ es x w.heap)(hk:b0j es=true)(hp:1≤esW es): ∃(p:Addr) (news:List Value),x.addr=some p∧news.length=esW es∧ERel r σ es (fun k=>news[k]?) 0∧(∀u∈news,u.oneCell'=true)∧
  ∀k u,news[k]? =some u→w.cell? (p.add k)=some u:=by
 have hl:=h.len
 have hc:=h.cap
 cases hx:x.a with
 |none=>have:=h.nil hx;omega
 |some jo=>
  obtain⟨j,o⟩:=jo
  obtain⟨c,T,f,h1,h2,h3,h4⟩:=h.row j o hx
  have hv:=VRel.agg_mk (q:=o) (c:=c) h4 rfl (.inr (by omega))
  obtain⟨e1,e2,e3⟩:=p0z hv hk
  have hg: ∀k,(c.extract o (o+esW es)).toList[k]? =(c.extract o (o+esW es))[k]? :=fun k=>by rw[Array.getElem?_toList]
  refine⟨⟨j,o,none⟩,(c.extract o (o+esW es)).toList,by simp only[ALoc.addr,hx],by rw[Array.length_toList,Array.size_extract];omega,?_,?_,fun k u hk=> ?_⟩
  ·simp only[hg];exact e1
  ·exact e3
  ·rw[b0o,l0e h1]
   rw[hg,Array.getElem?_extract]at hk
   split at hk
   ·exact hk
   ·cases hk
theorem n2o (hr:Rel r σ s w){x:SV}{x':Value}(hx:VRel r σ x x'){T:TypeId}{es:List SV}(h:p1b P T x s=some es):1≤esW es∧ ∃news:List Value,Src P 1 T x' (esW es) news w∧ERel r σ es (fun k=>news[k]?) 0:=by
 unfold p1b at h
 split at h
 ·rename_i e hu
  split at h
  ·rename_i es' hv
   split at h
   ·rename_i hc
    cases h
    rw[Bool.and_eq_true]at hc
    have hp:=Nat.le_of_ble_eq_true hc.2
    obtain⟨b,g,rfl,hb⟩:=n0h hv
    cases hx with
    |own _ _ y hy=>
     have hvr:=hr.vec b g es y hb hy
     obtain⟨p,news,q1,q2,q3,q4,q5⟩:=hvr.news hc.1 hp
     refine⟨hp,news,?_,q3⟩
     rw[q1,←hvr.len]
     exact Src.ofSlice w hu p _ _ news (by rw[q2,Nat.mul_one]) q5 q4
   ·cases h
  ·cases h
 ·cases h
theorem w0m {T T2 e:TypeId}{i:TypeInfo}{z:Value}(hu:P.underlying T=some (.slice e))(hi:P.info? e=some i)(hz:i.zero=some z)(hw:i.size=1)(hzw:z.cells.size=1)
  {es0 es:List SV} {x':Value} {news:List Value} (hs:Src P 1 T2 x' (esW es) news w) (hse:ERel r σ es (fun k=>news[k]?) 0) {a:Option (Nat×Nat)} {cap:Nat} (hcap:esW es0≤cap) (hb:(esW es0+esW es)*max i.bytes 1≤140737488355328)
  (h0:a=none→es0=[]∧cap=0) (hpos:1≤esW es) (ty:TypeId)
  (hrow: ∀j o,a=some (j,o)→ ∃c T' f,w.heap[j]? =some (.cells c T' f)∧d0f c f∧o+cap≤c.size∧ERel r σ es0 (fun k=>c[k]?) o):
  ∃(x:ALoc) (w':World),(Builtin.append_ #[T,T2] ty #[.slice (a.map fun(j,o)=>⟨j,o,none⟩) (esW es0) cap,x']).run P w=.ok (.slice x.addr x.L x.cap) w'∧
   VRow r σ (es0++es) x w'.heap∧w.heap.size≤w'.heap.size∧w'.os=w.os∧w'.tape=w.tape∧w'.output=w.output∧
   (∀j o,x.a=some (j,o)→j<w'.heap.size∧(a=some (j,o)∨w.heap.size≤j))∧(∀j,j<w.heap.size→(∀o,a≠some (j,o))→w'.heap[j]? =w.heap[j]?):=by
 have hneed:(esW es0+esW es)*i.bytes≤140737488355328:=Nat.le_trans (Nat.mul_le_mul_left _ (Nat.le_max_left _ _)) hb
 have hn63:esW es0+esW es≤140737488355328:=Nat.le_trans (by have:=Nat.mul_le_mul_left (esW es0+esW es) (Nat.le_max_right i.bytes 1);omega) hb
 have hnl:news.length=esW es:=by have:=hs.newsLen;omega
 rcases Nat.lt_or_ge cap (esW es0+esW es)with hg|hg
 ·
  have hold: ∃olds:List Value,olds.length=esW es0∧ERel r σ es0 (fun k=>olds[k]?) 0∧(Builtin.firstCells i.size (esW es0) (.slice (a.map fun(j,o)=>(⟨j,o,none⟩:Addr)) (esW es0) cap)).run P w.drew=.ok olds.toArray w.drew:=by
   cases a with
   |none=>
    obtain⟨rfl,rfl⟩:=h0 rfl
    refine⟨[],rfl,⟨fun k e he hn=>by simp[offs]at he,fun k t n l he=>by simp[offs]at he⟩,?_⟩
    exact run_firstCells_none w.drew i.size _ _ 0
   |some jo=>
    obtain⟨j,o⟩:=jo
    obtain⟨c,T',f,h1,h2,h3,h4⟩:=hrow j o rfl
    have hgt: ∀k,k<esW es0→(c.extract o (o+esW es0)).toList[k]? =c[o+k]? :=fun k hk=>by rw[Array.getElem?_toList,Array.getElem?_extract,if_pos (by omega)]
    have hlen:(c.extract o (o+esW es0)).toList.length=esW es0:=by rw[Array.length_toList,Array.size_extract];omega
    refine⟨(c.extract o (o+esW es0)).toList,hlen,h4.congr fun k hk=>by rw[Nat.zero_add,hgt k hk],?_⟩
    refine run_firstCells_some w.drew i.size (esW es0) _ _ cap _ (by rw[hlen,hw,Nat.mul_one]) fun k u hk=> ?_
    rw[b0o]
    have hlt:k<esW es0:=by have:=(List.getElem?_eq_some_iff.1 hk).1;omega
    rw[hgt k hlt]at hk
    have hd:w.drew.heap[j]? =some (.cells c T' f):=h1
    rw[l0e hd];exact hk
  obtain⟨olds,o1,o2,hold⟩:=hold
  have hrun:=run_append_grow_src (P:=P) w T T2 ty e i z hu hi hz (a.map fun(j,o)=>(⟨j,o,none⟩:Addr)) (esW es0) cap olds hold x' (esW es) news (by rw[hw];exact hs) hg (by omega) (growslice_fits hg hneed)
  have hge:=g1i w (need:=esW es0+esW es) (old:=cap) e
  refine⟨⟨some (w.heap.size,0),esW es0+esW es,grownCap w (esW es0+esW es) cap e,1⟩,_,hrun,?_,by rw[d0v];omega,rfl,rfl,rfl,?_,?_⟩
  ·refine⟨rfl,by rw[a0t],hge,(fun h=>by cases h),fun j o h=> ?_⟩
   cases h
   refine⟨_,e,(0,0),p0t w _ e,.inl rfl,?_,?_⟩
   ·simp only[Array.size_append,List.size_toArray,List.length_append,o0z,o1,hnl,hzw,Nat.zero_add]
    omega
   ·refine ERel.append (o2.congr fun k hk=> ?_) (hse.congr fun k hk=> ?_)
    ·rw[Nat.zero_add,Array.getElem?_append_left (by simp;omega)]
     simp only[List.getElem?_toArray]
     rw[List.getElem?_append_left (by omega)]
    ·rw[Nat.zero_add,Array.getElem?_append_left (by simp;omega)]
     simp only[List.getElem?_toArray]
     rw[List.getElem?_append_right (by omega),o1,show esW es0+k-esW es0=k by omega,Nat.zero_add]
  ·intro j o h
   cases h
   exact⟨by rw[d0v];omega,.inr (Nat.le_refl _)⟩
  ·intro j hj _
   exact Below.heap_alloc w.drew _ _ hj
 ·
  cases a with
  |none=>obtain⟨_,hc⟩:=h0 rfl;omega
  |some jo=>
   obtain⟨j,o⟩:=jo
   obtain⟨c,T',f,h1,h2,h3,h4⟩:=hrow j o rfl
   have hroom:o+esW es0+news.length≤c.size:=by omega
   have hrun:=run_append_room_src (P:=P) w T T2 ty e i hu hi j o (esW es0) cap x' (esW es) news (by rw[hw];exact hs) hg
    (fun k hk=>by rw[l0e h1,hw];simp;omega) (fun k hk=>by rw[r0d h1,hw];exact h2.no _ (by omega))
   rw[hw,Nat.mul_one]at hrun
   obtain⟨a1,a2,a3,a4,a5,a6⟩:=d0d h1 (o+esW es0) news
   refine⟨⟨some (j,o),esW es0+esW es,cap,1⟩,_,hrun,?_,by rw[a3];exact Nat.le_refl _,a4,a5,a6,?_,?_⟩
   ·refine⟨rfl,by rw[a0t],hg,(fun h=>by cases h),fun j' o' h=> ?_⟩
    cases h
    refine⟨_,T',f,a1,h2.patch,by rw[a0z];exact h3,?_⟩
    refine ERel.append (h4.congr fun k hk=>b0b (.inl (by omega))) (hse.congr fun k hk=> ?_)
    rw[b0t hroom (by omega),Nat.zero_add]
   ·intro j' o' h
    cases h
    exact⟨by rw[a3];exact(Array.getElem?_eq_some_iff.1 h1).1,.inl rfl⟩
   ·intro j' hj' hn
    exact a2 j' fun e'=>hn o (by rw[e'])
theorem n1g (hr:Rel r σ s w){v x:SV}{v' x':Value}(hv:VRel r σ v v')(hx:VRel r σ x x'){T T2:TypeId}{v1:SV}{s1:SW}(h:(m0f P T T2 v x s).sel=some (v1,s1))(ty:TypeId):
  Goes P r σ s w (Builtin.append_ #[T,T2] ty #[v',x']) v1 s1:=by
 unfold m0f at h
 split at h
 ·exact r1d hr hv hx h ty
 ·rename_i es hsrc
  obtain⟨hpos,news,hs,hse⟩:=n2o hr hx hsrc
  split at h
  ·rename_i e he
   have hu:=j0b he
   split at h
   ·rename_i i hi
    split at h
    ·rename_i z hz
     split at h
     ·rename_i hc
      rw[Bool.and_eq_true]at hc
      have hw1:=a0n hc.1
      have hw2:=a0n hc.2
      split at h
      ·obtain⟨g1,g2⟩:=Tree.guard_some h
       cases g2
       cases hv
       have g1:=of_decide_eq_true g1
       obtain⟨xl,w',q2,q3,q4,q5,q6,q7,q8,q9⟩:=w0m (P:=P) (es0:=[]) hu hi hz hw1 hw2 hs hse (a:=none) (cap:=0) (Nat.le_refl _) (by simpa [esW]using g1) (fun _=>⟨rfl,rfl⟩) hpos ty (fun j o h=>by cases h)
       simp only[List.nil_append]at q3
       have q9': ∀j,j<w.heap.size→w'.heap[j]? =w.heap[j]? :=fun j hj=>q9 j hj fun o h=>by cases h
       have hle:r.le (r.setArr s.len 0 xl):=f0d (hr.arr_len 0) _
       have hat: ∀b j,(r.setArr s.len 0 xl).at b j→r.at b j∨w.heap.size≤j:=fun b j k=>by
        rcases c0t k with u|⟨_,o,u⟩
        ·exact .inl u
        ·rcases(q8 j o u).2 with k|k
         ·cases k
         ·exact .inr k
       refine⟨_,σ,w',_,hle,Snap.le_refl _,hr.change (b:=s.len) (x:=.vec 0 es) ?_ (SW.blk_push _ _) (fun b' e=>SW.blk_push_ne _ _ e) (by rw[SW.len_push];omega) (by intro t p j e;cases e) ?_,⟨q5,q6,q7,q4,hat,fun j hj _=>q9' j hj,fun b hb _=>c0l (by omega),.refl⟩,q2,.own _ _ xl (by simp[RM.setArr]),fun _ h=>h,by rw[SW.len_push];omega⟩
       ·refine⟨hle,Snap.le_refl _,fun _ _ _ k=>k,fun b' g p e k=> ?_,fun _ _ _ k=>k,q4,fun j hj _=>q9' j hj,fun j hj=> ?_,?_,fun j hj=>hat _ _ hj,fun j c' hj=>.inl hj,?_,?_,?_,?_⟩
        ·simpa [RM.setArr,e]using k
        ·rcases c0t hj with u|⟨_,o,u⟩
         ·have:=hr.inb _ _ u;omega
         ·exact(q8 _ _ u).1
        ·rintro j ⟨p,o,hp,hj⟩
         simp only[RM.setArr,and_self,if_true]at hp
         cases hp
         rcases(q8 _ _ hj).2 with k|k
         ·cases k
         ·exact .inr k
        ·intro es' j n e;cases e
        ·intro t g l p e;cases e
        ·intro t g l p e;cases e
        ·intro t g l g' e;cases e
       ·intro g es' e
        cases e
        refine⟨fun p hp=> ?_,fun g' hg=> ?_⟩
        ·simp only[RM.setArr,and_self,if_true]at hp
         cases hp
         exact q3.mono hle (Snap.le_refl _) fun _ _ _=>rfl
        ·simp only[RM.setArr]
         rw[if_neg (by omega)]
         exact hr.arr_len _
      ·split at h
       ·rename_i b g es0 hnn hv0
        obtain⟨b',g',e',hb⟩:=n0h hv0
        cases e'
        obtain⟨g0,h⟩:=Tree.guard_some h
        have g0:=Nat.le_of_ble_eq_true g0
        obtain⟨g1,g2⟩:=Tree.guard_some h
        cases g2
        have g1:=of_decide_eq_true g1
        cases hv with
        |own _ _ x0 hx0=>
         have ha:=hr.vec b g es0 x0 hb hx0
         have hnn:x0.a≠none:=fun e=>by have:=ha.nil e;have:=ha.cap;have:=ha.len;omega
         obtain⟨xl,w',q2,q3,q4,q5,q6,q7,q8,q9⟩:=w0m (P:=P) (es0:=es0) hu hi hz hw1 hw2 hs hse (a:=x0.a) (cap:=x0.cap) (by rw[ha.len];exact ha.cap) g1 (fun e=>absurd e hnn) hpos ty
          (fun j o h=>by obtain⟨c,T',f,k1,k2,k3,k4⟩:=ha.row j o h;exact⟨c,T',f,k1,k2,k3,k4⟩)
         obtain⟨k1,k2,k3⟩:=hr.growVec hb hx0 q3 q4 (fun j o h=>⟨(q8 j o h).1,(q8 j o h).2.imp (fun k=>⟨o,k⟩) id⟩) q9 q5 q6 q7
         refine⟨_,σ,w',_,k2,Snap.le_refl _,k1,k3,?_,.own _ _ xl (by simp[RM.setArr]),fun x hx=>SW.note_sub _ _ _ hx,by rw[SW.set_len,SW.note_len];exact Nat.le_refl _⟩
         rw[←q2,ha.len]
         have:x0.addr=x0.a.map fun(j,o)=>(⟨j,o,none⟩:Addr):=by
          unfold ALoc.addr;cases x0.a<;>rfl
         rw[this]
       ·cases h
     ·cases h
    ·cases h
   ·cases h
  ·cases h
def RM.setMp (r:RM)(b:Nat)(j:Nat):RM:={r with mp:=fun b'=>if b'=b then some j else r.mp b'}
theorem j1f {b:Nat}(h:r.mp b=none)(j:Nat):r.le (r.setMp b j):=by
 refine⟨fun _ _ h=>h,fun _ _ _ h=>h,fun b' y hb=> ?_⟩
 simp only[RM.setMp]
 rw[if_neg]
 ·exact hb
 ·rintro rfl;rw[h]at hb;cases hb
theorem h1g {b0 j0:Nat}{b j:Nat}(k:(r.setMp b0 j0).at b j):r.at b j∨(b=b0∧j=j0):=by
 rcases k with⟨n,k⟩|⟨g,x,o,k1,k2⟩|k
 ·exact .inl (.inl ⟨n,k⟩)
 ·exact .inl (.inr (.inl ⟨g,x,o,k1,k2⟩))
 ·simp only[RM.setMp]at k
  split at k
  ·rename_i e;cases k;exact .inr ⟨e,rfl⟩
  ·exact .inl (.inr (.inr k))
end
end Go.Proofs.Ytoehlcomhpnjgaa.Vx
