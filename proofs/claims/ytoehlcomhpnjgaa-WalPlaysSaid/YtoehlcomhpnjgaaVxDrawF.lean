import Derived.Test.YtoehlcomhpnjgaaVxDrawE
noncomputable section
namespace Go.Proofs.Ytoehlcomhpnjgaa.Vx
open Go Go.RowKit
set_option linter.unusedVariables false
variable {ds:List Deferred}
section
variable {P:Program} {ops:Array Oper}
theorem d1d (s:SW):h0s s (c0v 0 s)=s:=by
 simp[h0s,c0v,e0h,k0g]
theorem t1g {F:Nat}{t:List SV}{d:Nat}{b:Bool}(h:(b0m F 0 t)[d]? =some (.bool b)):t[d]? =some (.bool b):=by
 rw[w0b]at h
 cases e:t[d]? with
 |none=>rw[e]at h;cases h
 |some x=>
  rw[e]at h
  simp only[Option.map_some,Option.some.injEq]at h
  cases q:Nat.testBit F (0+d)with
  |true=>rw[q]at h;simp only[cond_true]at h;rw[h]
  |false=>rw[q]at h;cases h
theorem q2x {cl:b0p}(hcl:ClOk P cl){i:Nat}{o:Oper}(ho:ops[i]? =some o){t:List SV}{s s1:SW}{v:SV}{rd F:Nat}(h:(runOp P cl o (b0m rd 0 t) (c0v F s)).sel=some (v,s1))
  (hw: ∀(r:RM) (σ:Snap) (t':Array Value),LRel r σ (b0m rd 0 t) t'→Region.wanted o (yielded ops t')=true):StepOk P ops (stOf i rd F s s1 o.dst v) t s s1:=by
 refine⟨rfl,rfl,rfl,rfl,fun ds r σ w t' K Q hr ht hK=> ?_⟩
 unfold wpOp
 simp only[stOf,ho]
 rw[if_pos (hw r σ t' ht)]
 exact .inl (z1g hcl hr ht h hK)
theorem p2a {i:Nat}{o:Oper}(ho:ops[i]? =some o){t:List SV}{s:SW}{rd:Nat}
  (hw: ∀(r:RM) (σ:Snap) (t':Array Value),LRel r σ (b0m rd 0 t) t'→Region.wanted o (yielded ops t')=false):StepOk P ops (stOf i rd 0 s (c0v 0 s) o.dst .undef) t s (c0v 0 s):=by
 refine⟨rfl,rfl,rfl,rfl,fun ds r σ w t' K Q hr ht hK=> ?_⟩
 unfold wpOp
 simp only[stOf,ho]
 rw[if_neg (by rw[hw r σ t' ht];simp)]
 exact hK _ w ⟨r,σ,RM.le_refl _,Snap.le_refl _,hr,Frame.refl _ _ _ _ _,.undef,fun _ h=>h,Nat.le_refl _⟩
theorem x0j {cl:b0p}(hcl:ClOk P cl){t0:List SV}{s0:SW}: ∀(l seen:List Nat) (t:List SV) (s:SW) (L L1:List St) (t1:List SV) (s1:SW),(f0l P cl ops l seen t s L).sel=some (L1,t1,s1)→
  Chain P ops t0 s0 L t s→Chain P ops t0 s0 L1 t1 s1∧L1.map St.i=l.reverse++L.map St.i
 |[],seen,t,s,L,L1,t1,s1,h,hc=>by
  simp only[f0l]at h;cases h
  exact⟨hc,by simp⟩
 |i::rest,seen,t,s,L,L1,t1,s1,h,hc=>by
  have ih:=x0j hcl (t0:=t0) (s0:=s0) rest
  unfold f0l at h
  cases hi:ops[i]? with
  |none=>simp[hi,Tree.sel]at h
  |some o=>
   simp only[hi]at h
   have run: ∀(seen:List Nat) (F:Nat),((runOp P cl o (b0m (a0l ops o) 0 t) (c0v F s)).bind fun x=>f0l P cl ops rest seen (put t o.dst x.1) (h0s s x.2) (stOf i (a0l ops o) F s x.2 o.dst x.1::L)).sel=some (L1,t1,s1)→
     (∀(r:RM) (σ:Snap) (t':Array Value),LRel r σ (b0m (a0l ops o) 0 t) t'→Region.wanted o (yielded ops t')=true)→Chain P ops t0 s0 L1 t1 s1∧L1.map St.i=(i::rest).reverse++L.map St.i:=by
    intro seen F h hw
    obtain⟨⟨v,s2⟩,h1,h2⟩:=Tree.bind_some h
    have:=ih seen _ _ _ L1 t1 s1 h2 (.cons _ s2 hc (q2x hcl hi h1 hw))
    exact⟨this.1,by rw[this.2];simp[stOf]⟩
   have pass: ∀(seen:List Nat),(f0l P cl ops rest seen (put t o.dst .undef) s (stOf i (a0l ops o) 0 s (c0v 0 s) o.dst .undef::L)).sel=some (L1,t1,s1)→
     (∀(r:RM) (σ:Snap) (t':Array Value),LRel r σ (b0m (a0l ops o) 0 t) t'→Region.wanted o (yielded ops t')=false)→Chain P ops t0 s0 L1 t1 s1∧L1.map St.i=(i::rest).reverse++L.map St.i:=by
    intro seen h hw
    have c:=Chain.cons _ _ hc (p2a (P:=P) (s:=s) hi hw)
    have e:(stOf i (a0l ops o) 0 s (c0v 0 s) o.dst .undef).s=s:=d1d s
    rw[e]at c
    have:=ih seen _ _ _ L1 t1 s1 h c
    exact⟨this.1,by rw[this.2];simp[stOf]⟩
   cases hg:o.guard with
   |none=>
    simp only[hg]at h
    exact run seen _ h fun r σ t' _=>by simp[Region.wanted,hg]
   |some jw=>
    obtain⟨j,want⟩:=jw
    simp only[hg]at h
    cases hga:e0r ops (b0m (a0l ops o) 0 t) j with
    |bad=>simp[hga,Tree.sel]at h
    |no=>
     simp only[hga]at h
     exact pass seen h fun r σ t' ht=>by simp[Region.wanted,hg,e1w ht hga]
    |yes d b=>
     simp only[hga]at h
     have htd:t[d]? =some (.bool b):=by
      refine t1g (F:=a0l ops o) ?_
      unfold e0r at hga
      split at hga
      ·split at hga
       ·split at hga
        ·rename_i hb;cases hga;exact hb
        ·cases hga
        ·cases hga
       ·cases hga
      ·cases hga
     have hw: ∀(r:RM) (σ:Snap) (t':Array Value),LRel r σ (b0m (a0l ops o) 0 t) t'→Region.wanted o (yielded ops t')=(b==want):=by
      intro r σ t' ht
      simp only[Region.wanted,hg,(b1h ht hga).1];cases b<;>cases want<;>rfl
     cases hs:seen.contains j with
     |true=>
      simp only[hs]at h
      cases hbw:b==want with
      |true=>simp only[hbw]at h;exact run seen _ h fun r σ t' ht=>by rw[hw r σ t' ht,hbw]
      |false=>simp only[hbw]at h;exact pass seen h fun r σ t' ht=>by rw[hw r σ t' ht,hbw]
     |false=>
      simp only[hs,Tree.sel]at h
      cases b with
      |true=>
       simp only[cond_true,y0r htd]at h
       cases want with
       |true=>exact run _ _ h fun r σ t' ht=>by rw[hw r σ t' ht];rfl
       |false=>exact pass _ h fun r σ t' ht=>by rw[hw r σ t' ht];rfl
      |false=>
       simp only[cond_false,y0r htd]at h
       cases want with
       |true=>exact pass _ h fun r σ t' ht=>by rw[hw r σ t' ht];rfl
       |false=>exact run _ _ h fun r σ t' ht=>by rw[hw r σ t' ht];rfl
theorem s1d {cl:b0p}(hcl:ClOk P cl)(hm:P.follows .mixedOrders=true){id:Nat}{draws:Bool}{t t1:List SV}{s s1:SW}(h:(s0a P cl ops draws t s).sel=some (t1,s1))
  {r:RM} {σ:Snap} {w:World} {t':Array Value} {Q:Exit→Act→World→Prop} (hr:Rel r σ s w) (ht:LRel r σ t t') (hQ: ∀t1' w',Then r σ s w t1 s1 t1' w'→Q .normal ⟨t1',ds⟩ w'):(Code.region id ops draws).wp P Q ⟨t',ds⟩ w:=by
 unfold s0a at h
 cases draws with
 |false=>
  simp only at h
  exact wp_region (v1m hcl _ _ _ _ _ _ h r σ w t' Q hr ht hQ)
 |true=>
  simp only at h
  obtain⟨⟨L,t2,s2⟩,h1,h2⟩:=Tree.bind_some h
  obtain⟨h3,h4⟩:=Tree.guard_some h2
  cases h4
  obtain⟨hc,hi⟩:=x0j hcl _ _ _ _ _ _ _ _ h1 .nil
  unfold x1n at h3
  cases hps:d1x ops with
  |none=>simp[hps]at h3
  |some ps=>
   simp only[hps]at h3
   refine wp_region_any hm (r2s hps hc h3 (by simpa using hi) hQ ops.size _ t' _ r σ (by simp) ?_ ?_ (Inv.start hr ht (fun e he=> ?_) (hc.lens fun e he=>(h0g h3 e he).1).2.1))
   ·intro i o e ho hi
    simp[Array.getD_eq_getD_getElem?,Array.getElem?_replicate]at hi
    split at hi<;>simp at hi
   ·simp
   ·simp only[Array.getD_eq_getD_getElem?,Array.getElem?_replicate]
    split<;>rfl
end
end Go.Proofs.Ytoehlcomhpnjgaa.Vx
