import Derived.Test.YtoehlcomhpnjgaaVxSound2
namespace Go.Proofs.Ytoehlcomhpnjgaa.Vx
open Go Go.RowKit
set_option linter.unusedVariables false
section
variable {P:Program} {r:RM} {w:World}
theorem s0u: ∀{t:Ty} {es:List SV} {σ:Snap} {s:SW} {d:t.den} {rest:List SV} {s1:SW},Rel r σ s w→f0o t es s=some (d,rest,s1)→(∃get o,ERel r σ es get o)→
  ∃σ',σ.le σ'∧Rel r σ' s1 w∧Kept r σ σ' w s s1∧(∀σ2 get o,σ'.le σ2→ERel r σ2 es get o→RD σ2 t get o d)∧ ∃pre,es=pre++rest∧esW pre=t.width
 |.bool,es,σ,s,d,rest,s1,hr,h,he=>by
  cases es with
  |nil=>simp[f0o]at h
  |cons v es=>
   cases v with
   |bool b=>
    simp only[f0o]at h
    cases h
    refine⟨σ,Snap.le_refl _,hr,Kept.refl _,fun σ2 get o hle he=> ?_,[.bool d],rfl,rfl⟩
    obtain⟨v',h1,h2⟩:=(ERel.left (a:=[SV.bool d]) he).head rfl
    cases h2;exact h1
   |_=>simp[f0o]at h
 |.int k,es,σ,s,d,rest,s1,hr,h,he=>by
  cases es with
  |nil=>simp[f0o]at h
  |cons v es=>
   cases v with
   |int k' n=>
    simp only[f0o]at h
    split at h
    ·rename_i hk
     obtain rfl:=of_decide_eq_true hk
     cases h
     refine⟨σ,Snap.le_refl _,hr,Kept.refl _,fun σ2 get o hle he=> ?_,[.int k d],rfl,rfl⟩
     obtain⟨v',h1,h2⟩:=(ERel.left (a:=[SV.int k d]) he).head rfl
     cases h2;exact h1
    ·cases h
   |_=>simp[f0o]at h
 |.str,es,σ,s,d,rest,s1,hr,h,he=>by
  cases es with
  |nil=>simp[f0o]at h
  |cons v es=>
   cases v with
   |str b=>
    simp only[f0o]at h
    cases h
    refine⟨σ,Snap.le_refl _,hr,Kept.refl _,fun σ2 get o hle he=> ?_,[.str d],rfl,rfl⟩
    obtain⟨v',h1,h2⟩:=(ERel.left (a:=[SV.str d]) he).head rfl
    cases h2;exact h1
   |_=>simp[f0o]at h
 |.sl t,es,σ,s,d,rest,s1,hr,h,he=>by
  cases es with
  |nil=>simp[f0o]at h
  |cons v es=>
   simp only[f0o]at h
   split at h
   ·rename_i l hl
    cases h
    have hn:v.isArr=false:=by cases v<;>first|rfl|(simp[c0h,b0c]at hl)
    obtain⟨get,o,he⟩:=he
    obtain⟨v',h1,h2⟩:=(ERel.left (a:=[v]) he).head hn
    obtain⟨σ',m1,m2,m3,m4⟩:=f1r hr h2 hl
    refine⟨σ',m1,m2,m3,fun σ2 get o hle he=> ?_,[v],rfl,by rw[esW,esW,o0s hn];rfl⟩
    obtain⟨v2,q1,q2⟩:=(ERel.left (a:=[v]) he).head hn
    have:=m4 σ2 v2 hle q2
    unfold RD at this⊢
    obtain⟨a,len,cap,u1,u2⟩:=this
    cases u1
    exact⟨a,len,cap,q1,u2⟩
   ·cases h
 |.arr n t,es,σ,s,d,rest,s1,hr,h,he=>by
  cases es with
  |nil=>simp[f0o]at h
  |cons v es=>
   cases v with
   |arrd t' n' l=>
    simp only[f0o]at h
    split at h
    ·rename_i x hn hc
     obtain rfl:=a0n hn
     obtain⟨e,rfl⟩:=a0w hc
     subst e
     cases h
     refine⟨σ,Snap.le_refl _,hr,Kept.refl _,fun σ2 get o hle he=> ?_,[.arrd _ n l],rfl,rfl⟩
     have:=he.arr 0 _ n l (by simp[offs])
     simpa using this
    ·cases h
   |_=>simp[f0o]at h
 |.pair a b,es,σ,s,d,rest,s1,hr,h,he=>by
  unfold f0o at h
  split at h
  ·rename_i x r1 s2 ha
   split at h
   ·rename_i y r2 s3 hb
    cases h
    obtain⟨σ1,m1,m2,m3,m4,pre,rfl,m6⟩:=s0u hr ha he
    obtain⟨get,o,he⟩:=he
    obtain⟨σ2,n1,n2,n3,n4,pre2,rfl,n6⟩:=s0u m2 hb ⟨get,_,(he.mono (RM.le_refl _) m1).right⟩
    refine⟨σ2,Snap.le_trans m1 n1,n2,m3.trans n3,fun σ3 get o hle he=> ?_,pre++pre2,by rw[List.append_assoc],by rw[a0t,m6,n6];rfl⟩
    have e2:=he.right
    rw[m6]at e2
    exact⟨m4 σ3 get o (Snap.le_trans n1 hle) he,n4 σ3 get _ hle e2⟩
   ·cases h
  ·cases h
 |.unit,es,σ,s,d,rest,s1,hr,h,he=>by
  unfold f0o at h
  cases h
  exact⟨σ,Snap.le_refl _,hr,Kept.refl _,fun σ2 get o hle he=>trivial,[],rfl,rfl⟩
variable {σ:Snap} {s:SW}
theorem u1g {e:SV}{v:Value}(h:VRel r σ e v)(ha:e.isArr=false)(hk:e.cellOk=true):v.oneCell'=true:=by
 cases h with
 |imm t l v h=>
  rw[x0x]at h
  obtain⟨a,len,cap,h1,_⟩:=h
  cases h1;rfl
 |_=>first|rfl|(simp[SV.cellOk]at hk)
theorem p0z {v:SV}{v':Value}(h:VRel r σ v v')(hk:b0j v.ents=true):ERel r σ v.ents (fun k=>v'.cells[k]?) 0∧esW v.ents=v'.cells.size∧ ∀x∈v'.cells.toList,x.oneCell'=true:=by
 have single: ∀{e:SV} {x:Value},VRel r σ e x→e.ents=[e]→b0j e.ents=true→(∀es,e≠.agg es)→e.isArr=false→ERel r σ e.ents (fun k=>x.cells[k]?) 0∧esW e.ents=x.cells.size∧ ∀y∈x.cells.toList,y.oneCell'=true:=by
  intro e x hx he hk ha hn
  have hone:x.oneCell'=true:=by
   rw[he]at hk
   simp only[b0j,List.all_cons,List.all_nil,Bool.and_true]at hk
   exact u1g hx hn hk
  have hc:x.cells= #[x]:=by
   cases x<;>first|rfl|(simp[Value.oneCell']at hone)
  rw[he,hc]
  refine⟨.single hn rfl hx,by rw[esW,esW,o0s hn];rfl,fun y hy=> ?_⟩
  simp at hy;subst hy;exact hone
 cases v with
 |agg es=>
  obtain⟨c,rfl,h1,h2⟩:=h.agg_of
  refine⟨h2,h1,fun x hx=> ?_⟩
  obtain⟨k,hk1,hk2⟩:=List.getElem_of_mem hx
  have hkc:k<c.size:=by simpa [Value.cells]using hk1
  obtain⟨q,e,q1,q2,q3⟩:=f1k (es:=es) (o:=0) (k:=k) (Nat.zero_le _) (by omega)
  simp only[Value.cells,Array.getElem_toList]at hk2
  cases e with
  |arrd t n l=>
   have:=h2.arr q t n l q1
   simp only[SV.w]at q3
   obtain⟨v,u1,u2⟩:=g1o this (k-q) (by simp only[Ty.width];omega)
   rw[show 0+q+(k-q)=k by omega,Array.getElem?_eq_getElem hkc,hk2]at u1
   cases u1;exact u2
  |_=>
   have hn:=h2.one q _ q1 rfl
   simp only[SV.w]at q3
   obtain⟨v,u1,u2⟩:=hn
   rw[show 0+q=k by omega,Array.getElem?_eq_getElem hkc,hk2]at u1
   cases u1
   refine u1g u2 rfl ?_
   simp only[b0j,List.all_eq_true,SV.ents]at hk
   exact hk _ (h0d q1)
 |arrd=>cases h
 |_=>exact single h rfl hk (fun es e=>by cases e) rfl
theorem u3t {t:Ty}{v:SV}{v':Value}{d:t.den}{s1:SW}(hr:Rel r σ s w)(hv:VRel r σ v v')(hk:b0j v.ents=true)(h:ofSV t v s=some (d,s1)):
  ∃σ',σ.le σ'∧Rel r σ' s1 w∧Kept r σ σ' w s s1∧RD σ' t (fun k=>v'.cells[k]?) 0 d∧v'.cells.size=t.width:=by
 unfold ofSV at h
 split at h
 ·rename_i d' s2 h1
  cases h
  obtain⟨e1,e2,e3⟩:=p0z hv hk
  obtain⟨σ',m1,m2,m3,m4,pre,m5,m6⟩:=s0u hr h1 ⟨_,_,e1⟩
  simp only[List.append_nil]at m5
  exact⟨σ',m1,m2,m3,m4 _ _ _ (Snap.le_refl _) (e1.mono (RM.le_refl _) m1),by rw[←e2,m5,m6]⟩
 ·cases h
theorem d1c {a y e xs:List SV}{c0 c2:Array Value}{base:Nat}{vs:List Value}(e0:ERel r σ (a++(y++e)) (fun k=>c0[k]?) base)(e1:ERel r σ xs (fun k=>vs[k]?) 0)(hw:esW xs=esW y∧vs.length=esW y)
  (hin: ∀q,q<esW y→c2[base+esW a+q]? =vs[q]?) (hout: ∀q,q<base+esW a∨base+esW a+esW y≤q→c2[q]? =c0[q]?):ERel r σ (a++(xs++e)) (fun k=>c2[k]?) base:=by
 refine ERel.append (e0.left.congr fun k hk=>hout _ (.inl (by omega))) (ERel.append (e1.congr fun k hk=> ?_) ?_)
 ·rw[hin k (by omega),Nat.zero_add]
 ·rw[hw.1]
  exact e0.right.right.congr fun k hk=>hout _ (.inr (by omega))
theorem f1t (hr:Rel r σ s w){p v:SV}{p' v':Value}(hp:VRel r σ p p')(hv:VRel r σ v v'){T:TypeId}{s1:SW}(h:q0m P T p v s=some s1):
  ∃σ1 w1,σ.le σ1∧Rel r σ1 s1 w1∧Frame s.len s1.log r r σ σ1 w w1∧(Instr.storeAt T p' v').run P w=.ok () w1∧s1.len=s.len∧ ∀x,x∈s.log→x∈s1.log:=by
 unfold q0m at h
 split at h
 ·rename_i n hn hst
  split at h
  ·rename_i hw
   have hw:=a0n hw
   obtain⟨e1,e2,e3⟩:=p0z hv hst
   have hcs:v'.cells.size=n:=by rw[←e2,hw]
   have hlen:v'.cells.toList.length=n:=by simpa using hcs
   have e1':ERel r σ v.ents (fun k=>v'.cells.toList[k]?) 0:=by simpa using e1
   have run: ∀{j q:Nat} {c:Array Value} {T':TypeId} {f:Nat×Nat},w.heap[j]? =some (.cells c T' f)→d0f c f→q+n≤c.size→
     (Instr.storeAt T (.pointer (some ⟨j,q,none⟩)) v').run P w=.ok () (w.setCells j q v'.cells.toList):=by
    intro j q c T' f h1 h2 h3
    have:=e0v (P:=P) h1 h2 (o:=q) (l:=v'.cells.toList) (by rw[hlen];exact h3) e3
    simp[Instr.storeAt,Instr.sureAddr,storeVar,b0z hn,hcs,this]
   split at h
   ·rename_i b o
    split at h
    ·rename_i es hb
     split at h
     ·rename_i es' hes
      cases h
      obtain⟨a,x,e,rfl,rfl,rfl,hx⟩:=d0k hes
      cases hp with
      |ptr _ _ j m hc=>
       obtain⟨k1,k2,c,T',f,k3,k4,k5⟩:=hr.setCells hb hc (y:=v.ents) (l:=v'.cells.toList) (by rw[hw,hx]) (by rw[hlen,hx]) e1'
       refine⟨σ,_,Snap.le_refl _,k1,?_,run k3 k4 (by omega),by rw[SW.set_len,SW.note_len],fun x hx=>SW.note_sub _ _ _ hx⟩
       exact k2
     ·cases h
    ·cases h
   ·rename_i b g i o
    split at h
    ·rename_i t g' l hb
     split at h
     ·rename_i hg
      obtain rfl:=a0n hg
      split at h
      ·rename_i es' hes
       split at h
       ·rename_i d s2 hd
        split at h
        ·rename_i t1 g1 l1 hb2
         cases h
         cases hp with
         |eptr _ _ _ _ x j m hx hi hj=>
          obtain⟨a,y,e,hte,rfl,rfl,hy⟩:=d0k hes
          have ha:=hr.arr b t g l x hb hx
          have hil:i<l.length:=by rw[ha.len];exact hi
          rw[g0s hil]at hte
          obtain⟨c,T',f,h1,h2,h3,h4⟩:=ha.row j m hj
          have hwy:esW a+(esW y+esW e)=t.width:=by have:=l0k t l[i];rw[hte]at this;simpa only[a0t]using this
          have hpre: ∃get o,ERel r σ (a++(v.ents++e)) get o:=by
           have e0:ERel r σ (d0l t l[i]) (fun k=>c[k]?) (m+i*t.width):=c0x t (h4 i hil)
           rw[hte]at e0
           refine⟨_,_,d1c (c2:=b0q c (m+i*t.width+esW a) v'.cells.toList) e0 e1' (by omega) (fun q hq=>b0t ?_ (by omega)) (fun q hq=>b0b (by omega))⟩
           have:(i+1)*t.width≤x.cap*x.wd:=by rw[ha.wd];exact Nat.mul_le_mul_right _ (by have:=ha.cap;omega)
           rw[Nat.add_mul]at this;omega
          obtain⟨σ1,m1,m2,m3,m4,pre,m5,m6⟩:=s0u hr hd hpre
          have hb2':=m3.arr hb2
          rw[hb]at hb2';cases hb2'
          have hsz:i*x.wd+esW a+v'.cells.toList.length≤x.cap*x.wd:=by
           have:(i+1)*t.width≤x.cap*x.wd:=by rw[ha.wd];exact Nat.mul_le_mul_right _ (by have:=ha.cap;omega)
           rw[Nat.add_mul]at this;rw[ha.wd]at this⊢;omega
          obtain⟨k1,k2,c',T2,f2,k3,k4,k5⟩:=m2.setArr (l':=l.set i d) hb2 hx hj (by simp) (k:=i*x.wd+esW a) (vs:=v'.cells.toList) hsz (by
           intro c2 hc2 i2 hi2 c0 hc0 hold
           rw[ha.wd]at hc2 hc0
           by_cases hii:i=i2
           ·subst hii
            simp only[List.getElem_set_self]
            have e0:ERel r σ1 (d0l t l[i]) (fun k=>c0[k]?) (m+i*t.width):=c0x t (hold i hil)
            rw[hte]at e0
            have:=d1c (c2:=c2) e0 (e1'.mono (RM.le_refl _) m1) (by omega) (fun q hq=>by rw[←hc2 q (by omega)];congr 1;omega) (fun q hq=>hc0 q (by omega))
            exact m4 _ _ _ (Snap.le_refl _) this
           ·rw[List.getElem_set_ne hii]
            refine(hold i2 hi2).mono (Snap.le_refl _) fun k hk=>hc0 _ ?_
            rcases Nat.lt_or_ge i i2 with q|q
            ·have:(i+1)*t.width≤i2*t.width:=Nat.mul_le_mul_right _ q
             rw[Nat.add_mul]at this;omega
            ·have:(i2+1)*t.width≤i*t.width:=Nat.mul_le_mul_right _ (by omega)
             rw[Nat.add_mul]at this;omega)
          refine⟨σ1,_,m1,k1,(Frame.still s.len m3.stay).trans k2 (fun x hx=>SW.note_sub _ _ _ hx) (by rw[m3.len];exact Nat.le_refl _),?_,by rw[SW.set_len,SW.note_len,m3.len],fun x hx=>SW.note_sub _ _ _ (m3.log x hx)⟩
          rw[show m+i*x.wd+esW a=m+(i*x.wd+esW a) by omega]
          rw[h1]at k3;cases k3
          exact run h1 k4 (by omega)
        ·cases h
       ·cases h
      ·cases h
     ·cases h
    ·cases h
   ·rename_i b o wd m i k
    split at h
    ·rename_i es hb
     split at h
     ·rename_i a t m' l e hsp
      split at h
      ·rename_i hg
       simp only[Bool.and_eq_true]at hg
       obtain⟨hg1,hg2⟩:=hg
       obtain rfl:=a0n hg1
       obtain rfl:=a0n hg2
       split at h
       ·rename_i es' hes
        split at h
        ·rename_i d s2 hd
         split at h
         ·rename_i es2 hb2
          cases h
          obtain⟨rfl,hao⟩:=d0m hsp
          cases hp with
          |aptr _ _ _ _ _ _ j n0 hc hi=>
           obtain⟨a',y,e',hte,rfl,rfl,hy⟩:=d0k hes
           obtain⟨c,T',f,h1,h2,h3,h4⟩:=hr.cel b _ j n0 hb hc
           have hrow: ∀{σ':Snap} {c0:Array Value},ERel r σ' (a++(SV.arrd t m l::e)) (fun k=>c0[k]?) n0→l.length=m∧ ∀q (hq:q<l.length),RD σ' t (fun k=>c0[k]?) (n0+o+q*t.width) l[q]:=by
            intro σ' c0 he
            have:=he.arr o t m l (by rw[c0z];exact List.mem_append_right _ (by simp[offs,hao]))
            rwa [p0f]at this
           have hil:i<l.length:=by rw[(hrow h4).1];exact hi
           rw[g0s hil]at hte
           have hwy:esW a'+(esW y+esW e')=t.width:=by have:=l0k t l[i];rw[hte]at this;simpa only[a0t]using this
           have hsz:i*t.width+t.width≤m*t.width:=by
            have:(i+1)*t.width≤m*t.width:=Nat.mul_le_mul_right _ (by rw[←(hrow h4).1];exact hil)
            rwa [Nat.add_mul,Nat.one_mul]at this
           have hesW:esW (a++(SV.arrd t m l::e))=o+(m*t.width+esW e):=by simp only[a0t,esW,SV.w,hao]
           have elem: ∀{σ':Snap} {c2 c0:Array Value},σ.le σ'→ERel r σ' (a++(SV.arrd t m l::e)) (fun k=>c0[k]?) n0→(∀q,q<v'.cells.toList.length→c2[n0+(o+i*t.width+esW a')+q]? =v'.cells.toList[q]?)→
             (∀q,q<n0+(o+i*t.width+esW a')∨n0+(o+i*t.width+esW a')+v'.cells.toList.length≤q→c2[q]? =c0[q]?)→ERel r σ' (a'++(v.ents++e')) (fun k=>c2[k]?) (n0+o+i*t.width):=by
            intro σ' c2 c0 hle he hc2 hc0
            have e0:ERel r σ' (d0l t l[i]) (fun k=>c0[k]?) (n0+o+i*t.width):=c0x t ((hrow he).2 i hil)
            rw[hte]at e0
            exact d1c (c2:=c2) e0 (e1'.mono (RM.le_refl _) hle) (by omega) (fun q hq=>by rw[←hc2 q (by omega)];congr 1;omega) (fun q hq=>hc0 q (by omega))
           have hpre: ∃get o,ERel r σ (a'++(v.ents++e')) get o:=
            ⟨_,_,elem (c2:=b0q c (n0+(o+i*t.width+esW a')) v'.cells.toList) (Snap.le_refl _) h4 (fun q hq=>b0t (by omega) hq) (fun q hq=>b0b (by omega))⟩
           obtain⟨σ1,m1,m2,m3,m4,pre,m5,m6⟩:=s0u hr hd hpre
           have hb2':=m3.cells hb2
           rw[hb]at hb2';cases hb2'
           obtain⟨k1,k2,c',T2,f2,k3,k4,k5⟩:=m2.putCells (es':=a++(SV.arrd t m (l.set i d)::e)) hb2 hc (q:=o+i*t.width+esW a') (l:=v'.cells.toList) (by rw[hesW];omega) (by simp only[a0t,esW,SV.w]) (by
            intro c2 c0 hc2 hc0 he
            have hel:=elem m1 he hc2 hc0
            have hd':=m4 _ _ _ (Snap.le_refl _) hel
            have hout: ∀k,k<n0+(o+i*t.width+esW a')∨n0+(o+i*t.width+esW a')+v'.cells.toList.length≤k→c2[k]? =c0[k]? :=hc0
            refine ERel.append (he.left.congr fun q hq=>hout _ (.inl (by omega))) ?_
            rw[hao]
            refine ERel.append (a:=[SV.arrd t m (l.set i d)]) ⟨fun q x hx hn=> ?_,fun q t' n' l' hx=> ?_⟩ ?_
            ·simp only[offs,List.mem_singleton,Prod.mk.injEq]at hx
             obtain⟨rfl,rfl⟩:=hx
             simp[SV.isArr]at hn
            ·simp only[offs,List.mem_singleton,Prod.mk.injEq]at hx
             obtain⟨rfl,hx⟩:=hx
             cases hx
             rw[p0f]
             refine⟨by simp;exact(hrow he).1,fun i2 hi2=> ?_⟩
             rw[Nat.add_zero]
             by_cases hii:i=i2
             ·subst hii
              simp only[List.getElem_set_self]
              exact hd'
             ·rw[List.getElem_set_ne hii]
              refine((hrow he).2 i2 (by simpa using hi2)).mono (Snap.le_refl _) fun k hk=>hout _ ?_
              rcases Nat.lt_or_ge i i2 with u|u
              ·have:(i+1)*t.width≤i2*t.width:=Nat.mul_le_mul_right _ u
               rw[Nat.add_mul]at this;omega
              ·have:(i2+1)*t.width≤i*t.width:=Nat.mul_le_mul_right _ (by omega)
               rw[Nat.add_mul]at this;omega
            ·have:=(he.right).right (a:=[SV.arrd t m l])
             simp only[esW,SV.w,Nat.add_zero,hao]at this⊢
             exact this.congr fun q hq=>hout _ (.inr (by omega)))
           refine⟨σ1,_,m1,k1,(Frame.still s.len m3.stay).trans k2 (fun x hx=>SW.note_sub _ _ _ hx) (by rw[m3.len];exact Nat.le_refl _),?_,by rw[SW.set_len,SW.note_len,m3.len],fun x hx=>SW.note_sub _ _ _ (m3.log x hx)⟩
           rw[show n0+(o+i*t.width+esW a')=n0+(o+i*t.width+esW a')from rfl]
           exact run h1 h2 (by omega)
         ·cases h
        ·cases h
       ·cases h
      ·cases h
     ·cases h
    ·cases h
   ·cases h
  ·cases h
 ·cases h
end
end Go.Proofs.Ytoehlcomhpnjgaa.Vx
