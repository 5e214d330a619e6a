import Derived.Test.YtoehlcomhpnjgaaVxSound6
namespace Go.Proofs.Ytoehlcomhpnjgaa.Vx
open Go Go.RowKit
set_option linter.unusedVariables false
section
variable {P:Program} {r:RM} {σ:Snap} {s:SW} {w:World}
theorem setSame {b:Nat}{x:Blk}(hb:s.blk b=some x):((s.note b).setBlk b x).blks=s.blks:=by
 have:(s.note b).blks=s.blks:=by unfold SW.note;split<;>rfl
 simp only[SW.setBlk,this]
 simp only[SW.blk]at hb
 apply List.ext_getElem?
 intro k
 by_cases e:b=k
 ·subst e
  rw[List.getElem?_set_self (List.getElem?_eq_some_iff.1 hb).1,hb]
 ·rw[List.getElem?_set_ne e]
theorem l1t (hr:Rel r σ s w){T T2 e:TypeId}(hu:P.underlying T=some (.slice e)){t:Ty}(hsz:szOf P e=some t.width){b g:Nat}{l0:List t.den}(hb:s.blk b=some (.arr t g l0)){x0:ALoc}(hx0:r.arr b g=some x0)
  {lo n:Nat} (hlo:lo+n≤l0.length) {a:Option Addr} {cap:Nat} (ha:0<n→ ∃j o,x0.a=some (j,o)∧a=some ⟨j,o+lo*x0.wd,none⟩) {l:List t.den} {x':Value} {news:List Value} (hs:SrcR P σ t T2 l x' w news) (ty:TypeId):
  ∃w',(Builtin.copy_ #[T,T2] ty #[.slice a n cap,x']).run P w=.ok (.int .i64 (min l.length n:Nat)) w'∧
   Rel r σ ((s.note b).setBlk b (.arr t g (l0.take lo++(l.take n++(l0.drop lo).drop (min l.length n))))) w'∧Frame s.len (s.note b).log r r σ σ w w':=by
 have hlen0:(l0.take lo).length=lo:=by simp;omega
 have hk:min l.length n≤l.length:=Nat.min_le_left _ _
 have hcells:=hs.take (min l.length n) hk
 have hlenof:=hs.src.len w
 rcases Nat.eq_zero_or_pos (min l.length n)with hz|hz
 ·
  have hcont:l0.take lo++(l.take n++(l0.drop lo).drop (min l.length n))=l0:=by
   have:l.take n=[]:=by
    rcases Nat.eq_zero_or_pos n with q|q
    ·rw[q];simp
    ·have:l.length=0:=by omega
     rw[List.length_eq_zero_iff.1 this];simp
   rw[this,hz];simp
  rw[hcont]
  refine⟨w,?_,hr.log (setSame hb),(Frame.refl _ _ _ _ _)⟩
  rw[hz,Nat.zero_mul]at hcells
  simp only[List.take_zero]at hcells
  have hz':Nat.min l.length n=0:=hz
  cases a with
  |none=>simp[Builtin.copy_,run_underlying hu,b0z hsz,hlenof,hz',hcells,goInt]
  |some p=>
   have:(storeCells p []).run P w=.ok () w:=rfl
   simp[Builtin.copy_,run_underlying hu,b0z hsz,hlenof,hz',hcells,goInt,this]
 ·obtain⟨j,o,u1,u2⟩:=ha (by omega)
  subst u2
  have hrw:=hr.arr b t g l0 x0 hb hx0
  have hvs:(news.take (min l.length n*t.width)).length=min l.length n*t.width:=by
   rw[List.length_take,hs.row.len,Nat.min_eq_left (Nat.mul_le_mul_right _ hk)]
  have hin:lo*x0.wd+(news.take (min l.length n*t.width)).length≤x0.cap*x0.wd:=by
   rw[hvs,hrw.wd,←Nat.add_mul]
   exact Nat.mul_le_mul_right _ (by have:=hrw.cap;have:=hrw.len;omega)
  have hlen:(l0.take lo++(l.take n++(l0.drop lo).drop (min l.length n))).length=l0.length:=by
   simp only[List.length_append,List.length_take,List.length_drop];omega
  obtain⟨k1,k2,c,T',f,k3,k4,k5⟩:=hr.setArr (l':=l0.take lo++(l.take n++(l0.drop lo).drop (min l.length n))) hb hx0 u1 hlen (k:=lo*x0.wd) (vs:=news.take (min l.length n*t.width)) hin (by
   intro c2 hc2 i hi c0 hc0 hold
   rw[hrw.wd,hvs]at hc0
   rw[hrw.wd]at hc2
   have keep: ∀i2 (h2:i2<l0.length),(i2<lo∨lo+min l.length n≤i2)→RD σ t (fun k=>c2[k]?) (o+i2*t.width) l0[i2]:=by
    intro i2 h2 hor
    refine(hold i2 h2).mono (Snap.le_refl _) fun k hk=>hc0 _ ?_
    rcases hor with q|q
    ·have:(i2+1)*t.width≤lo*t.width:=Nat.mul_le_mul_right _ q
     rw[Nat.add_mul]at this;omega
    ·have:(lo+min l.length n)*t.width≤i2*t.width:=Nat.mul_le_mul_right _ q
     rw[Nat.add_mul]at this;omega
   rcases Nat.lt_or_ge i lo with q|q
   ·rw[List.getElem_append_left (by omega),List.getElem_take]
    exact keep i hi (.inl q)
   ·rw[List.getElem_append_right (by omega)]
    simp only[hlen0]
    rcases Nat.lt_or_ge i (lo+min l.length n)with q2|q2
    ·rw[List.getElem_append_left (by simp;omega),List.getElem_take]
     have hrt:=hs.row.take hk
     have hi2:i-lo<(l.take (min l.length n)).length:=by simp;omega
     have:=y0q hrt (c:=c2) (o:=o+lo*t.width) (fun k u hk=>by
      rw[hc2 k (List.getElem?_eq_some_iff.1 hk).1];exact hk) _ hi2
     rw[List.getElem_take,Nat.add_assoc,←Nat.add_mul,show lo+(i-lo)=i by omega]at this
     exact this
    ·rw[List.getElem_append_right (by simp;omega)]
     simp only[List.getElem_drop,List.length_take]
     have e:lo+(min l.length n+(i-lo-min n l.length))=i:=by omega
     have:=keep i hi (.inr q2)
     simpa only[e]using this)
  refine⟨_,?_,k1,k2⟩
  rw[hvs]at k5
  have hst:=e0v (P:=P) k3 k4 (o:=o+lo*x0.wd) (l:=news.take (min l.length n*t.width)) (by rw[hvs];omega) (fun v hv=>hs.row.one v (List.mem_of_mem_take hv))
  have hmin:Nat.min l.length n=min l.length n:=rfl
  simp[Builtin.copy_,run_underlying hu,b0z hsz,hlenof,hmin,hcells,hst,goInt]
theorem b2i (hr:Rel r σ s w){T T2 e:TypeId}(hu:P.underlying T=some (.slice e)){t:Ty}(hsz:szOf P e=some t.width){b n:Nat}{a e':List SV}{l0:List t.den}
  (hb:s.blk b=some (.cells (a++(.arrd t n l0::e')))) {j p:Nat} (hj:r.cel b=some (j,p)) {l:List t.den} {x':Value} {news:List Value} (hs:SrcR P σ t T2 l x' w news) (ty:TypeId):
  ∃w',(Builtin.copy_ #[T,T2] ty #[.slice (some ⟨j,p+esW a,none⟩) n n,x']).run P w=.ok (.int .i64 (min l.length n:Nat)) w'∧
   Rel r σ ((s.note b).setBlk b (.cells (a++(.arrd t n (l.take n++l0.drop l.length)::e')))) w'∧Frame s.len (s.note b).log r r σ σ w w':=by
 have hk:min l.length n≤l.length:=Nat.min_le_left _ _
 have hcells:=hs.take (min l.length n) hk
 have hlenof:=hs.src.len w
 have hvs:(news.take (min l.length n*t.width)).length=min l.length n*t.width:=by
  rw[List.length_take,hs.row.len,Nat.min_eq_left (Nat.mul_le_mul_right _ hk)]
 have hmn:min l.length n*t.width≤n*t.width:=Nat.mul_le_mul_right _ (Nat.min_le_right _ _)
 have hrow: ∀{c0:Array Value},ERel r σ (a++(SV.arrd t n l0::e')) (fun k=>c0[k]?) p→l0.length=n∧ ∀q (hq:q<l0.length),RD σ t (fun k=>c0[k]?) (p+esW a+q*t.width) l0[q]:=by
  intro c0 he
  have:=he.arr (esW a) t n l0 (by rw[c0z];exact List.mem_append_right _ (by simp[offs]))
  rwa [p0f]at this
 have hesW:esW (a++(SV.arrd t n l0::e'))=esW a+(n*t.width+esW e'):=by simp only[a0t,esW,SV.w]
 obtain⟨k1,k2,c,T',f,k3,k4,k5⟩:=hr.putCells (es':=a++(.arrd t n (l.take n++l0.drop l.length)::e')) hb hj (q:=esW a) (l:=news.take (min l.length n*t.width)) (by rw[hesW,hvs];omega) (by simp only[a0t,esW,SV.w]) (by
  intro c2 c0 hc2 hc0 he
  obtain⟨hl0,hold⟩:=hrow he
  refine ERel.append (he.left.congr fun q hq=>hc0 _ (.inl (by omega))) ?_
  refine ERel.append (a:=[SV.arrd t n (l.take n++l0.drop l.length)]) ⟨fun q x hx hn=> ?_,fun q t' n' l' hx=> ?_⟩ ?_
  ·simp only[offs,List.mem_singleton,Prod.mk.injEq]at hx
   obtain⟨rfl,rfl⟩:=hx
   simp[SV.isArr]at hn
  ·simp only[offs,List.mem_singleton,Prod.mk.injEq]at hx
   obtain⟨rfl,hx⟩:=hx
   cases hx
   rw[p0f]
   have hlen:(l.take n++l0.drop l.length).length=n:=by simp only[List.length_append,List.length_take,List.length_drop];omega
   refine⟨hlen,fun i hi=> ?_⟩
   rw[Nat.add_zero]
   rcases Nat.lt_or_ge i (min l.length n)with q|q
   ·rw[List.getElem_append_left (by simp;omega),List.getElem_take]
    have hrt:=hs.row.take hk
    have hi2:i<(l.take (min l.length n)).length:=by simp;omega
    have:=y0q hrt (c:=c2) (o:=p+esW a) (fun k u hk=>by
     rw[hc2 k (List.getElem?_eq_some_iff.1 hk).1];exact hk) _ hi2
    rw[List.getElem_take]at this
    exact this
   ·rw[List.getElem_append_right (by simp;omega)]
    simp only[List.getElem_drop,List.length_take]
    have hi3:i<n:=by rw[←hlen];exact hi
    have e:l.length+(i-min n l.length)=i:=by omega
    have:=(hold i (by omega)).mono (Snap.le_refl _) (get':=fun k=>c2[k]?) (o':=p+esW a+i*t.width) fun k hk=>hc0 _ (.inr (by
     have:min l.length n*t.width≤i*t.width:=Nat.mul_le_mul_right _ q
     rw[hvs];omega))
    simpa only[e]using this
  ·have:=(he.right).right (a:=[SV.arrd t n l0])
   simp only[esW,SV.w,Nat.add_zero]at this⊢
   exact this.congr fun q hq=>hc0 _ (.inr (by rw[hvs];omega)))
 refine⟨_,?_,k1,k2⟩
 have hst:=e0v (P:=P) k3 k4 (o:=p+esW a) (l:=news.take (min l.length n*t.width)) (by omega) (fun v hv=>hs.row.one v (List.mem_of_mem_take hv))
 have hmin:Nat.min l.length n=min l.length n:=rfl
 simp[Builtin.copy_,run_underlying hu,b0z hsz,hlenof,hmin,hcells,hst,goInt]
theorem d4p {α:Type}{m n:Nat}{l e:List α}(he:e.length=m)(hn:n≤m):(k3c n l e).length=m:=by
 unfold k3c
 simp only[List.length_append,List.length_take,List.length_drop]
 omega
theorem l4w {α:Type}{n:Nat}{l e:List α}{z:Nat}(hz:z<min l.length n):(k3c n l e)[z]? =l[z]? :=by
 unfold k3c
 rw[List.getElem?_append_left (by simp;omega),List.getElem?_take_of_lt (by omega)]
theorem l4z {α:Type}{n:Nat}{l e:List α}{z:Nat}(hz:min l.length n≤z):(k3c n l e)[z]? =e[z]? :=by
 unfold k3c
 rw[List.getElem?_append_right (by simp;omega),List.getElem?_drop]
 congr 1
 simp only[List.length_take];omega
theorem d4c (hr:Rel r σ s w){T T2 e:TypeId}(hu:P.underlying T=some (.slice e)){t:Ty}(hsz:szOf P e=some t.width){b g i n m:Nat}{l0:List (Ty.den (.arr m t))}
  (hb:s.blk b=some (.arr (.arr m t) g l0)) {x0:ALoc} (hx0:r.arr b g=some x0) (hi0:i<x0.L) {j p:Nat} (hj:x0.a=some (j,p)) (hn:n≤m) {l:List t.den} {x':Value} {news:List Value} (hs:SrcR P σ t T2 l x' w news) (ty:TypeId):
  ∃w',(Builtin.copy_ #[T,T2] ty #[.slice (some ⟨j,p+i*x0.wd,none⟩) n m,x']).run P w=.ok (.int .i64 (min l.length n:Nat)) w'∧
   Rel r σ ((s.note b).setBlk b (.arr (.arr m t) g (l0.set i (k3c (α:=t.den) n l (l0.getD i (Ty.dflt (.arr m t))))))) w'∧Frame s.len (s.note b).log r r σ σ w w':=by
 have hk:min l.length n≤l.length:=Nat.min_le_left _ _
 have hcells:=hs.take (min l.length n) hk
 have hlenof:=hs.src.len w
 have hrw:=hr.arr b _ g l0 x0 hb hx0
 have hL:=hrw.len
 have hwd:x0.wd=m*t.width:=hrw.wd
 have hvs:(news.take (min l.length n*t.width)).length=min l.length n*t.width:=by
  rw[List.length_take,hs.row.len,Nat.min_eq_left (Nat.mul_le_mul_right _ hk)]
 have hmn:min l.length n*t.width≤m*t.width:=Nat.mul_le_mul_right _ (Nat.le_trans (Nat.min_le_right _ _) hn)
 have hcap:(i+1)*x0.wd≤x0.cap*x0.wd:=Nat.mul_le_mul_right _ (by have:=hrw.cap;omega)
 rw[Nat.add_mul,Nat.one_mul]at hcap
 obtain⟨E',hE'⟩: ∃E':Ty.den (.arr m t),E'=k3c (α:=t.den) n l (l0.getD i (Ty.dflt (.arr m t))):=⟨_,rfl⟩
 rw[←hE']
 have hwe:Ty.width (.arr m t)=x0.wd:=hrw.wd.symm
 obtain⟨k1,k2,c,T',f,k3,k4,k5⟩:=hr.setArr (l':=l0.set i E') hb hx0 hj (List.length_set ..) (k:=i*x0.wd) (vs:=news.take (min l.length n*t.width)) (by rw[hvs];omega) (by
  intro c2 hc2 q hq c0 hc0 hold
  rw[hvs]at hc0 hc2
  rcases Nat.lt_trichotomy q i with d|d|d
  ·rw[List.getElem_set_ne (by omega)]
   refine(hold q hq).mono (Snap.le_refl _) fun k hk=>hc0 _ (.inl ?_)
   have:(q+1)*x0.wd≤i*x0.wd:=Nat.mul_le_mul_right _ d
   rw[Nat.add_mul,Nat.one_mul]at this
   rw[hwe]at hk⊢
   omega
  ·subst d
   rw[List.getElem_set_self]
   have hgd:l0.getD q (Ty.dflt (.arr m t))=l0[q]:=by rw[List.getD_eq_getElem?_getD,List.getElem?_eq_getElem hq];rfl
   obtain⟨A,hA⟩: ∃A:List t.den,A=l0[q]:=⟨_,rfl⟩
   have ho:RD σ (.arr m t) (fun k=>c0[k]?) (p+q*Ty.width (.arr m t)) A:=by rw[hA];exact hold q hq
   obtain⟨E,hEE⟩: ∃E:List t.den,E=E':=⟨E',rfl⟩
   have hE:E=k3c n l A:=by rw[hgd,←hA]at hE';exact hEE.trans hE'
   rw[←hEE]
   rw[p0f]at ho
   obtain⟨ho1,ho2⟩:=ho
   have hlen:E.length=m:=by rw[hE];exact d4p ho1 hn
   show E.length=m∧ ∀z (hz:z<E.length),RD σ t (fun k=>c2[k]?) (p+q*Ty.width (.arr m t)+z*t.width) E[z]
   refine⟨hlen,fun z hz=> ?_⟩
   have hz3:z<m:=by rw[←hlen];exact hz
   rw[hwe]
   rcases Nat.lt_or_ge z (min l.length n)with u|u
   ·have hrt:=hs.row.take hk
    have hi2:z<(l.take (min l.length n)).length:=by simp;omega
    have:=y0q hrt (c:=c2) (o:=p+q*x0.wd) (fun k u hk=>by
     rw[hc2 k (by have:=(List.getElem?_eq_some_iff.1 hk).1;rwa [hvs]at this)];exact hk) _ hi2
    rw[List.getElem_take]at this
    have e1:E[z]? =l[z]? :=by rw[hE];exact l4w u
    rw[List.getElem?_eq_getElem hz,List.getElem?_eq_getElem (by omega)]at e1
    rw[Option.some.inj e1]
    exact this
   ·have e1:E[z]? =A[z]? :=by rw[hE];exact l4z u
    have hzA:z<A.length:=by omega
    rw[List.getElem?_eq_getElem hz,List.getElem?_eq_getElem hzA]at e1
    rw[Option.some.inj e1]
    exact(ho2 z hzA).mono (Snap.le_refl _) (get':=fun k=>c2[k]?) (o':=p+q*x0.wd+z*t.width) fun k hk=>by
     rw[hwe]
     refine hc0 _ (.inr ?_)
     have:min l.length n*t.width≤z*t.width:=Nat.mul_le_mul_right _ u
     omega
  ·rw[List.getElem_set_ne (by omega)]
   refine(hold q hq).mono (Snap.le_refl _) fun k hk=>hc0 _ (.inr ?_)
   have:(i+1)*x0.wd≤q*x0.wd:=Nat.mul_le_mul_right _ d
   rw[Nat.add_mul,Nat.one_mul]at this
   rw[hwe]
   omega)
 refine⟨_,?_,k1,k2⟩
 have hst:=e0v (P:=P) k3 k4 (o:=p+i*x0.wd) (l:=news.take (min l.length n*t.width)) (by omega) (fun v hv=>hs.row.one v (List.mem_of_mem_take hv))
 have hmin:Nat.min l.length n=min l.length n:=rfl
 simp[Builtin.copy_,run_underlying hu,b0z hsz,hlenof,hmin,hcells,hst,goInt]
theorem l2y (hr:Rel r σ s w){v x:SV}{v' x':Value}(hv:VRel r σ v v')(hx:VRel r σ x x'){T T2:TypeId}{v1:SV}{s1:SW}(h:o1q P T T2 v x s=some (v1,s1))(ty:TypeId):
  Goes P r σ s w (Builtin.copy_ #[T,T2] ty #[v',x']) v1 s1:=by
 unfold o1q at h
 split at h
 ·rename_i e he
  have hu:=j0b he
  split at h
  ·rename_i m hm
   split at h
   ·rename_i b g
    split at h
    ·rename_i t g' l0 hb
     split at h
     ·rename_i l hw hl
      cases h
      simp only[Bool.and_eq_true]at hw
      obtain rfl:=a0n hw.1
      obtain rfl:=a0n hw.2
      obtain⟨news,hs⟩:=n0f hr hx hl
      cases hv with
      |own _ _ x0 hx0=>
       have ha:=hr.arr b t g l0 x0 hb hx0
       obtain⟨w',q1,q2,q3⟩:=l1t (P:=P) hr hu hm hb hx0 (lo:=0) (n:=x0.L) (by rw[ha.len];omega) (a:=x0.addr) (cap:=x0.cap) (fun hp=>by
        cases hxa:x0.a with
        |none=>have:=ha.nil hxa;have:=ha.cap;omega
        |some jo=>obtain⟨j,o⟩:=jo;exact⟨j,o,rfl,by simp[ALoc.addr,hxa]⟩) hs ty
       have e1:l0.take 0++(l.take x0.L++(l0.drop 0).drop (min l.length x0.L))=l.take l0.length++l0.drop l.length:=by
        simp only[List.take_zero,List.nil_append,List.drop_zero]
        rw[←ha.len]
        congr 1
        rcases Nat.lt_or_ge l.length l0.length with q|q
        ·rw[Nat.min_eq_left (by omega)]
        ·rw[Nat.min_eq_right q,List.drop_length,List.drop_eq_nil_of_le q]
       rw[e1]at q2
       refine⟨r,σ,w',_,RM.le_refl _,Snap.le_refl _,q2,q3,q1,?_,fun x hx=>SW.note_sub _ _ _ hx,by rw[SW.set_len,SW.note_len];exact Nat.le_refl _⟩
       rw[ha.len];exact .int _ _
     ·cases h
    ·cases h
   ·rename_i b g lo n
    split at h
    ·rename_i t g' l0 hb
     split at h
     ·rename_i l hw hl
      cases h
      simp only[Bool.and_eq_true]at hw
      obtain rfl:=a0n hw.1
      obtain rfl:=a0n hw.2
      obtain⟨news,hs⟩:=n0f hr hx hl
      cases hv with
      |part _ _ _ _ x0 a cap hx0 p1 p2 p3 p4 p5=>
       have ha:=hr.arr b t g l0 x0 hb hx0
       obtain⟨w',q1,q2,q3⟩:=l1t (P:=P) hr hu hm hb hx0 (lo:=lo) (n:=n) (by rw[ha.len];omega) (a:=a) (cap:=cap) (fun hp=>p4 (by omega)) hs ty
       exact⟨r,σ,w',_,RM.le_refl _,Snap.le_refl _,q2,q3,q1,.int _ _,fun x hx=>SW.note_sub _ _ _ hx,by rw[SW.set_len,SW.note_len];exact Nat.le_refl _⟩
     ·cases h
    ·cases h
   ·rename_i b o n
    split at h
    ·rename_i es hb
     split at h
     ·rename_i a t n' l0 e' hsp
      split at h
      ·rename_i l hw hl
       cases h
       simp only[Bool.and_eq_true]at hw
       obtain rfl:=a0n hw.1
       obtain rfl:=a0n hw.2
       obtain⟨news,hs⟩:=n0f hr hx hl
       obtain⟨rfl,rfl⟩:=d0m hsp
       cases hv with
       |asl _ _ _ j p hj=>
        obtain⟨w',q1,q2,q3⟩:=b2i (P:=P) hr hu hm hb hj hs ty
        exact⟨r,σ,w',_,RM.le_refl _,Snap.le_refl _,q2,q3,q1,.int _ _,fun x hx=>SW.note_sub _ _ _ hx,by rw[SW.set_len,SW.note_len];exact Nat.le_refl _⟩
      ·cases h
     ·cases h
    ·cases h
   ·rename_i b g i n k
    split at h
    ·rename_i k' t g' l0 hb
     split at h
     ·rename_i l hw hl
      cases h
      simp only[Bool.and_eq_true]at hw
      obtain rfl:=a0n hw.1.1
      obtain rfl:=a0n hw.1.2
      obtain rfl:=a0n hw.2
      obtain⟨news,hs⟩:=n0f hr hx hl
      cases hv with
      |esp _ _ _ _ _ x0 j p hx0 h1 h2 h3=>
       obtain⟨w',q1,q2,q3⟩:=d4c (P:=P) hr hu hm hb hx0 h1 h2 h3 hs ty
       exact⟨r,σ,w',_,RM.le_refl _,Snap.le_refl _,q2,q3,q1,.int _ _,fun x hx=>SW.note_sub _ _ _ hx,by rw[SW.set_len,SW.note_len];exact Nat.le_refl _⟩
     ·cases h
    ·cases h
   ·cases h
  ·cases h
 ·cases h
theorem m1p {T:TypeId}{t:Ty}(h:a1n P T t=true): ∃i z,P.info? T=some i∧i.zero=some z∧i.size=t.width∧z.cells.size=t.width∧RD σ t (fun k=>z.cells[k]?) 0 t.dflt:=by
 unfold a1n at h
 split at h
 ·rename_i i hi
  split at h
  ·rename_i z hz
   split at h
   ·rename_i hc
    obtain⟨pre,e1,e2,e3⟩:=m0q (σ:=σ) hc
    simp only[List.append_nil]at e1
    subst e1
    exact⟨i,z,hi,hz,a0n h,by simpa using e2,by simpa using e3⟩
   ·cases h
  ·cases h
 ·cases h
theorem k2n {z:Array Value}{n k:Nat}(hk:k<n):((Array.range n).map (z[· %z.size]!))[k]? =some z[k%z.size]! :=by
 rw[Array.getElem?_map,Array.getElem?_range,if_pos hk];rfl
theorem o1t {t:Ty}{z:Array Value}{m:Nat}(hz:z.size=t.width)(hd:RD σ t (fun k=>z[k]?) 0 t.dflt){n:Nat}(hn:m*t.width≤n): ∀i,i<m→RD σ t (fun k=>((Array.range n).map (z[· %z.size]!))[k]?) (i*t.width) t.dflt:=by
 intro i hi
 refine hd.mono (Snap.le_refl _) fun k hk=> ?_
 have:(i+1)*t.width≤m*t.width:=Nat.mul_le_mul_right _ hi
 rw[Nat.add_mul]at this
 rw[k2n (by omega),hz,Nat.zero_add,Nat.add_comm,Nat.add_mul_mod_self_right,Nat.mod_eq_of_lt hk]
 rw[Array.getElem?_eq_getElem (by omega)]
 simp[hz,hk]
theorem e1k (hr:Rel r σ s w){n c:SV}{n' c':Value}(hn:VRel r σ n n')(hc:VRel r σ c c'){T:TypeId}{v1:SV}{s1:SW}(h:(e0q P T n c s).sel=some (v1,s1)):Goes P r σ s w (Instr.makeSlice T n' c') v1 s1:=by
 unfold e0q at h
 split at h
 ·rename_i kn n kc c e he
  have hu:=j0b he
  split at h
  ·rename_i t by_ ht hby
   split at h
   ·rename_i hz
    rw[l2h]at h
    obtain⟨g1,g2⟩:=Tree.guard_some h
    cases g2
    simp only[Bool.and_eq_true,decide_eq_true_eq]at g1
    obtain⟨i,z,hi,hz0,hsz,hzs,hd⟩:=m1p (σ:=σ) hz
    obtain⟨i1,hi1,rfl⟩:=t0z hby
    rw[hi]at hi1;cases hi1
    cases hn;cases hc
    have hb1:(c.toNat*(max i.bytes 1):Nat)≤281474976710656:=by
     have:((c.toNat*(max i.bytes 1):Nat):Int)≤281474976710656:=by
      rw[Int.natCast_mul,Int.toNat_of_nonneg (by omega)];exact g1.2
     omega
    have hc1:c.toNat*1≤c.toNat*max i.bytes 1:=Nat.mul_le_mul_left _ (Nat.le_max_right _ _)
    have hc2:c.toNat*i.bytes≤c.toNat*max i.bytes 1:=Nat.mul_le_mul_left _ (Nat.le_max_left _ _)
    have hbytes:(i.bytes:Int)*c≤281474976710656:=by
     have:(i.bytes:Int)*c=((c.toNat*i.bytes:Nat):Int):=by rw[Int.natCast_mul,Int.toNat_of_nonneg (by omega),Int.mul_comm]
     rw[this];omega
    have hrun:=run_make (P:=P) w T e i z hu hi hz0 kn kc n c g1.1.1 g1.1.2 hbytes (by omega)
    have hmade:madeCells z.cells (c.toNat*i.size)=(Array.range (c.toNat*i.size)).map (z.cells[· %z.cells.size]!):=rfl
    rw[hmade,hsz]at hrun
    have hlen:(List.replicate n.toNat t.dflt).length=n.toNat:=by simp
    obtain⟨k1,k2,k3⟩:=hr.newArr (t:=t) (l:=List.replicate n.toNat t.dflt) (c:=(Array.range (c.toNat*t.width)).map (z.cells[· %z.cells.size]!)) e (0,0) c.toNat (.inl rfl) (by rw[hlen];omega) (by simp)
     (fun q hq=>by
      rw[List.getElem_replicate]
      exact o1t hzs hd (Nat.le_refl _) q (by rw[hlen]at hq;omega)) (w':=w.alloc (.cells ((Array.range (c.toNat*t.width)).map (z.cells[· %z.cells.size]!)) e)) rfl rfl rfl rfl
    refine⟨_,σ,_,_,k2,Snap.le_refl _,k1,k3,hrun,?_,fun _ h=>h,by rw[SW.len_push];omega⟩
    have:=VRel.own (r:=r.setArr s.len 0 ⟨some (w.heap.size,0),(List.replicate n.toNat t.dflt).length,c.toNat,t.width⟩) (σ:=σ) s.len 0 ⟨some (w.heap.size,0),(List.replicate n.toNat t.dflt).length,c.toNat,t.width⟩ (by simp only[RM.setArr,and_self,if_true])
    simp only[ALoc.addr,hlen]at this⊢
    exact this
   ·cases h
  ·cases h
 ·cases h
theorem f2e (v:List Value): ∀(c:Array Value) (off q:Nat),(v.zipIdx q).foldl (fun cs (x:Value×Nat)=>cs.setIfInBounds (off+x.2) x.1) c=b0q c (off+q) v:=by
 induction v with
 |nil=>intro c off q;rfl
 |cons x v ih=>
  intro c off q
  simp only[List.zipIdx_cons,List.foldl_cons,b0q]
  rw[ih,Nat.add_assoc]
theorem b1s {place:Nat→Option (Nat×Nat)}{c:Array Value}{i:Nat}{v:Value}{rest:List (Nat×Value)}{off size:Nat}(hp:place i=some (off,size))(hs:v.cells.size=size)(ho:off+v.cells.size≤c.size):
  Instr.fill place c ((i,v)::rest)=Instr.fill place (b0q c off v.cells.toList) rest:=by
 simp only[Instr.fill,hp]
 rw[if_neg (by simp[hs];omega)]
 congr 1
 rw[←Array.foldl_toList,Array.toList_zipIdx]
 have:=f2e v.cells.toList c off 0
 simpa using this
inductive PRel (r:RM)(σ:Snap):List (Nat×SV)→List (Nat×Value)→Prop
 |nil:PRel r σ [] []
 |cons (i:Nat) (v:SV) (v':Value) (ps ps') (h:VRel r σ v v') (k:PRel r σ ps ps'):PRel r σ ((i,v)::ps) ((i,v')::ps')
theorem PRel.mono {σ':Snap}(hs:σ.le σ'){ps:List (Nat×SV)}{ps':List (Nat×Value)}(h:PRel r σ ps ps'):PRel r σ' ps ps':=by
 induction h with
 |nil=>exact .nil
 |cons i v v' ps ps' h k ih=>exact .cons i v v' ps ps' (h.mono (RM.le_refl _) hs) ih
theorem m1o {fs:Array Field}{place:Nat→Option (Nat×Nat)}(hpl: ∀i f n,fs[i]? =some f→szOf P f.type=some n→place i=some (f.offset,n)):
  ∀{ps:List (Nat×SV)} {ps':List (Nat×Value)} {es es':List SV} {c:Array Value},PRel r σ ps ps'→buildF P fs ps es=some es'→ERel r σ es (fun k=>c[k]?) 0→esW es=c.size→
   ∃c',Instr.fill place c ps'=some c'∧ERel r σ es' (fun k=>c'[k]?) 0∧esW es'=c'.size
 |_,_,es,es',c,.nil,h,he,hw=>by simp only[buildF,Option.some.injEq]at h;subst h;exact⟨c,rfl,he,hw⟩
 |_,_,es,es',c,.cons i v v' ps ps' hv k,h,he,hw=>by
  simp only[buildF]at h
  split at h
  ·rename_i f hf
   split at h
   ·rename_i n hn hst
    split at h
    ·rename_i hwn
     have hwn:=a0n hwn
     split at h
     ·rename_i es1 hes
      obtain⟨a,x,b,rfl,rfl,q1,q2⟩:=d0k hes
      obtain⟨e1,e2,e3⟩:=p0z hv hst
      simp only[a0t]at hw
      rw[b1s (hpl i f n hf hn) (by omega) (by omega)]
      refine m1o hpl k h ?_ (by rw[a0z];simp only[a0t];omega)
      refine d1c (vs:=v'.cells.toList) he (by simpa using e1) ⟨by omega,by simp;omega⟩ (fun q hq=> ?_) (fun q hq=>b0b (by simp;omega))
      rw[Nat.zero_add,q1]
      exact b0t (by simp;omega) (by simp;omega)
     ·cases h
    ·cases h
   ·cases h
  ·cases h
theorem a1c {m:Nat}: ∀{ps:List (Nat×SV)} {ps':List (Nat×Value)} {es es':List SV} {c:Array Value},PRel r σ ps ps'→l0z m ps es=some es'→ERel r σ es (fun k=>c[k]?) 0→esW es=c.size→
      ∃c',Instr.fill (fun i=>some (i*m,m)) c ps'=some c'∧ERel r σ es' (fun k=>c'[k]?) 0∧esW es'=c'.size
  |_,_,es,es',c,.nil,h,he,hw=>by simp only[l0z,Option.some.injEq]at h;subst h;exact⟨c,rfl,he,hw⟩
  |_,_,es,es',c,.cons i v v' ps ps' hv k,h,he,hw=>by
   simp only[l0z]at h
   split at h
   · rename_i hst hwn
     have hwn:=a0n hwn
     split at h
     · rename_i es1 hes
       obtain⟨a,x,b,rfl,rfl,q1,q2⟩:=d0k hes
       obtain⟨e1,e2,e3⟩:=p0z hv hst
       simp only[a0t]at hw
       rw[b1s rfl (by omega) (by omega)]
       refine a1c k h ?_ (by rw[a0z];simp only[a0t];omega)
       refine d1c (vs:=v'.cells.toList) he (by simpa using e1) ⟨by omega,by simp;omega⟩ (fun q hq=> ?_) (fun q hq=>b0b (by simp;omega))
       rw[Nat.zero_add,q1]
       exact b0t (by simp;omega) (by simp;omega)
     · cases h
   · cases h
def RowA (σ:Snap)(t:Ty)(l:List t.den)(c:Array Value):Prop:=l.length*t.width≤c.size∧ ∀i (h:i<l.length),RD σ t (fun k=>c[k]?) (i*t.width) l[i]
theorem b1j {t:Ty}: ∀{ps:List (Nat×SV)} {ps':List (Nat×Value)} {σ:Snap} {s s1:SW} {l l1:List t.den} {c:Array Value},Rel r σ s w→PRel r σ ps ps'→(ps.all fun p=>b0j p.2.ents)=true→w0j t ps l s=some (l1,s1)→RowA σ t l c→
      ∃σ' c',σ.le σ'∧Rel r σ' s1 w∧Kept r σ σ' w s s1∧Instr.fill (fun i=>some (i*t.width,t.width)) c ps'=some c'∧RowA σ' t l1 c'∧l1.length=l.length∧c'.size=c.size
  |_,_,σ,s,s1,l,l1,c,hr,.nil,hst,h,hc=>by simp only[w0j,Option.some.injEq,Prod.mk.injEq]at h;obtain⟨rfl,rfl⟩:=h;exact⟨σ,c,Snap.le_refl _,hr,Kept.refl _,rfl,hc,rfl,rfl⟩
  |_,_,σ,s,s1,l,l1,c,hr,.cons i v v' ps ps' hv k,hst,h,hc=>by
   simp only[w0j]at h
   split at h
   · rename_i d s2 hd hlt
     have hlt:i<l.length:=Nat.le_of_ble_eq_true hlt
     simp only[List.all_cons,Bool.and_eq_true]at hst
     obtain⟨σ1,m1,m2,m3,m4,m5⟩:=u3t hr hv hst.1 hd
     have hbd:i*t.width+t.width≤l.length*t.width:=by
       have:(i+1)*t.width≤l.length*t.width:=Nat.mul_le_mul_right _ hlt
       rwa [Nat.add_mul,Nat.one_mul]at this
     have hbc:=hc.1
     have hvl:v'.cells.toList.length=t.width:=by simpa using m5
     have hrow:RowA σ1 t (l.set i d) (b0q c (i*t.width) v'.cells.toList):=by
       refine⟨by rw[a0z];simpa using hbc,fun i2 hi2=> ?_⟩
       have hi2':i2<l.length:=by simpa using hi2
       by_cases e:i=i2
       · subst e
         simp only[List.getElem_set_self]
         refine m4.mono (Snap.le_refl _) fun q hq=> ?_
         rw[b0t (by omega) (by omega),Nat.zero_add]
         simp
       · rw[List.getElem_set_ne e]
         refine(hc.2 i2 hi2').mono m1 fun q hq=>b0b ?_
         rcases Nat.lt_or_ge i i2 with u|u
         · have:(i+1)*t.width≤i2*t.width:=Nat.mul_le_mul_right _ u
           rw[Nat.add_mul]at this;omega
         · have:(i2+1)*t.width≤i*t.width:=Nat.mul_le_mul_right _ (by omega)
           rw[Nat.add_mul]at this;omega
     obtain⟨σ2,c',n1,n2,n3,n4,n5,n6,n7⟩:=b1j m2 (k.mono m1) hst.2 h hrow
     refine⟨σ2,c',Snap.le_trans m1 n1,n2,m3.trans n3,?_,n5,by rw[n6];simp,by rw[n7,a0z]⟩
     rw[b1s rfl m5 (by omega)]
     exact n4
   · cases h
theorem m0t (hr:Rel r σ s w){ps:List (Nat×SV)}{ps':Array (Nat×Value)}(hp:PRel r σ ps ps'.toList){T:TypeId}{n:Nat}{v1:SV}{s1:SW}(h:c0y P T n ps s=some (v1,s1)):
  Goes P r σ s w (Instr.buildSlice T n ps') v1 s1:=by
 unfold c0y at h
 split at h
 ·rename_i e he
  have hu:=j0b he
  split at h
  ·rename_i t ht
   split at h
   ·rename_i hz hsm hst
    have hsm:=Nat.le_of_ble_eq_true hsm
    split at h
    ·rename_i l s2 hl
     cases h
     obtain⟨i,z,hi,hz0,hsz,hzs,hd⟩:=m1p (σ:=σ) hz
     have hrow0:RowA σ t (List.replicate n t.dflt) ((Array.range (n*t.width)).map (z.cells[· %z.cells.size]!)):=
      ⟨by simp,fun q hq=>by rw[List.getElem_replicate];exact o1t hzs hd (Nat.le_refl _) q (by simpa using hq)⟩
     obtain⟨σ1,c',m1,m2,m3,m4,m5,m6,m7⟩:=b1j hr hp hst hl hrow0
     have hlen:l.length=n:=by rw[m6];simp
     have hrun:(Instr.buildSlice T n ps').run P w=.ok (.slice (some ⟨w.heap.size,0,none⟩) n n) (w.alloc (.cells c' e)):=by
      by_cases hpos:n*i.size=0
      ·have hpos':n*t.width=0:=by rw[←hsz];exact hpos
       rw[hpos']at m4
       have hr0:((Array.range 0).map (z.cells[· %z.cells.size]!))= #[]:=by simp
       rw[hr0]at m4
       have hz3:n=0∨t.width=0:=Nat.mul_eq_zero.1 hpos'
       have hr2: ∀f:Nat→Value,Array.map f (Array.range 0)= #[]:=fun f=>by apply Array.eq_empty_of_size_eq_zero;simp
       simp[Instr.buildSlice,run_underlying hu,sizeOf,typeInfo,hi,hsz,hpos',newRow]
       rw[hr2,m4]
       simp
      ·have h2: ¬n*i.size>2^24:=by rw[hsz];omega
       refine run_buildSlice w T e n ps' c' i z hu hi hz0 h2 hpos ?_
       rw[hsz];exact m4
     obtain⟨k1,k2,k3⟩:=m2.newArr (t:=t) (l:=l) (c:=c') e (0,0) n (.inl rfl) (by omega) (by rw[m7];simp) m5.2 (w':=w.alloc (.cells c' e)) rfl rfl rfl rfl
     refine⟨_,σ1,_,_,k2,m1,k1,?_,hrun,?_,fun x hx=>m3.log x hx,by rw[SW.len_push,m3.len];omega⟩
     ·exact(Frame.still s.len m3.stay).trans k3 (fun x hx=>hx) (by rw[m3.len];exact Nat.le_refl _)
     ·have:=VRel.own (r:=r.setArr s2.len 0 ⟨some (w.heap.size,0),l.length,n,t.width⟩) (σ:=σ1) s2.len 0 ⟨some (w.heap.size,0),l.length,n,t.width⟩ (by simp only[RM.setArr,and_self,if_true])
      simp only[ALoc.addr,hlen]at this⊢
      exact this
    ·cases h
   ·cases h
  ·cases h
 ·cases h
theorem b2j (hr:Rel r σ s w){ps:List (Nat×SV)}{ps':Array (Nat×Value)}(hp:PRel r σ ps ps'.toList){T:TypeId}{v1:SV}{s1:SW}(h:evBuild P T ps s=some (v1,s1)):
  ∃σ1,σ.le σ1∧Rel r σ1 s1 w∧Kept r σ σ1 w s s1∧ ∃v',VRel r σ1 v1 v'∧(Instr.build T ps').run P w=.ok v' w:=by
 unfold evBuild at h
 split at h
 ·rename_i z hz
  obtain⟨i,zv,hi,hz0,hw0,he0⟩:=m1u (r:=r) (σ:=σ) hz
  have fin: ∀{es':List SV} {σ1:Snap} {c':Array Value},ERel r σ1 es' (fun k=>c'[k]?) 0→esW es'=c'.size→VRel r σ1 (.agg es') (.agg c'):=by
   intro es' σ1 c' h1 h2
   have:=VRel.agg_mk (q:=0) (c:=c') h1 h2 (.inr (by omega))
   simpa using this
  split at h
  ·rename_i fs hu
   split at h
   ·rename_i es hall hbf
    cases h
    have hplaces: ∃places,fs.toList.mapM (fun f=>(P.info? f.type).map fun i=>(f.offset,i.size))=some places∧ ∀(i:Nat) (f:Field) (n:Nat),fs[i]? =some f→szOf P f.type=some n→places.toArray[i]? =some (f.offset,n):=by
     have aux: ∀(l:List Field),l.all (fun f=>(szOf P f.type).isSome)=true→ ∃places,l.mapM (fun f=>(P.info? f.type).map fun i=>(f.offset,i.size))=some places∧ ∀(i:Nat) (f:Field) (n:Nat),l[i]? =some f→szOf P f.type=some n→places[i]? =some (f.offset,n):=by
      intro l
      induction l with
      |nil=>intro _;exact⟨[],rfl,fun i f n h=>by simp at h⟩
      |cons f l ih=>
       intro ha
       simp only[List.all_cons,Bool.and_eq_true]at ha
       obtain⟨pl,p1,p2⟩:=ih ha.2
       obtain⟨n,hn⟩:=Option.isSome_iff_exists.1 ha.1
       obtain⟨fi,hfi,rfl⟩:=r0m hn
       refine⟨(f.offset,fi.size)::pl,by simp[List.mapM_cons,hfi,p1],fun i f2 n2 hi hn2=> ?_⟩
       cases i with
       |zero=>simp at hi;subst hi;rw[hn]at hn2;cases hn2;rfl
       |succ i=>simp at hi;exact p2 i f2 n2 hi hn2
     obtain⟨pl,p1,p2⟩:=aux fs.toList hall
     exact⟨pl,p1,fun i f n hf hn=>by simpa using p2 i f n (by simpa using hf) hn⟩
    obtain⟨pl,p1,p2⟩:=hplaces
    obtain⟨c',q1,q2,q3⟩:=m1o (P:=P) (place:=(pl.toArray[·]?)) p2 hp hbf he0 hw0
    refine⟨σ,Snap.le_refl _,hr,Kept.refl _,_,fin q2 q3,run_build w T ps' c' ?_⟩
    simp only[Program.built,hi,hu,hz0,p1,q1]
   ·cases h
  ·rename_i n e hu
   split at h
   ·rename_i m hm
    obtain⟨ie,hie,rfl⟩:=r0m hm
    split at h
    ·rename_i t n' l
     split at h
     ·rename_i hmw hst
      have hmw:=a0n hmw
      split at h
      ·rename_i l' s2 hl
       cases h
       have har:=he0.arr 0 t n' l (by simp[offs])
       rw[p0f]at har
       have hwz:n'*t.width=zv.cells.size:=by simpa [esW,SV.w]using hw0
       have hrow:RowA σ t l zv.cells:=⟨by rw[har.1];omega,fun i hi=>by simpa using har.2 i hi⟩
       obtain⟨σ1,c',m1,m2,m3,m4,m5,m6,m7⟩:=b1j hr hp hst hl hrow
       refine⟨σ1,m1,m2,m3,.agg c',fin ⟨fun k e he hn=> ?_,fun k t' n2 l2 he=> ?_⟩ ?_,run_build w T ps' c' ?_⟩
       ·simp only[offs,List.mem_singleton,Prod.mk.injEq]at he
        obtain⟨rfl,rfl⟩:=he
        simp[SV.isArr]at hn
       ·simp only[offs,List.mem_singleton,Prod.mk.injEq]at he
        obtain⟨rfl,he⟩:=he
        cases he
        rw[p0f]
        exact⟨by rw[m6];exact har.1,fun i hi=>by simpa using m5.2 i hi⟩
       ·simp only[esW,SV.w,Nat.add_zero];omega
       ·simp only[Program.built,hi,hu,hz0,hie,hmw,m4]
      ·cases h
     ·cases h
    ·split at h
     ·rename_i es hba
      cases h
      obtain⟨c',q1,q2,q3⟩:=a1c hp hba he0 hw0
      refine⟨σ,Snap.le_refl _,hr,Kept.refl _,_,fin q2 q3,run_build w T ps' c' ?_⟩
      simp only[Program.built,hi,hu,hz0,hie,q1]
     ·cases h
   ·cases h
  ·cases h
 ·cases h
end
end Go.Proofs.Ytoehlcomhpnjgaa.Vx
