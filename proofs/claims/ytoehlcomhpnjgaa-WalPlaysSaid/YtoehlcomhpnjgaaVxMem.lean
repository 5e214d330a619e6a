import Derived.Test.YtoehlcomhpnjgaaVxRel
import Derived.Laws.IdiomCopy
namespace Go.Proofs.Ytoehlcomhpnjgaa.Vx
open Go Go.RowKit
set_option linter.unusedVariables false
theorem a0t (a b:List SV):esW (a++b)=esW a+esW b:=by
 induction a with
 |nil=>simp[esW]
 |cons e a ih=>simp only[List.cons_append,esW,ih];omega
theorem c0z (a b:List SV)(o:Nat):offs (a++b) o=offs a o++offs b (o+esW a):=by
 induction a generalizing o with
 |nil=>simp[offs,esW]
 |cons e a ih=>simp only[List.cons_append,offs,esW,ih];rw[show o+e.w+esW a=o+(e.w+esW a) by omega]
theorem f1d {es:List SV}{o k:Nat}{e:SV}(d:Nat)(h:(k,e)∈offs es o):(k+d,e)∈offs es (o+d):=by
 induction es generalizing o with
 |nil=>simp[offs]at h
 |cons x es ih=>
  simp only[offs,List.mem_cons,Prod.mk.injEq]at h⊢
  rcases h with⟨rfl,rfl⟩|h
  ·exact .inl ⟨rfl,rfl⟩
  ·right;have:=ih h;rwa [show o+x.w+d=o+d+x.w by omega]at this
theorem p1n {es:List SV}{o k:Nat}{e:SV}(h:(k,e)∈offs es o):o≤k∧(k-o,e)∈offs es 0:=by
 induction es generalizing o k with
 |nil=>simp[offs]at h
 |cons x es ih=>
  simp only[offs,List.mem_cons,Prod.mk.injEq]at h⊢
  rcases h with⟨rfl,rfl⟩|h
  ·exact⟨Nat.le_refl _,.inl ⟨by omega,rfl⟩⟩
  ·obtain⟨h1,h2⟩:=ih h
   refine⟨by omega,.inr ?_⟩
   have:=f1d x.w h2
   simpa [show k-(o+x.w)+x.w=k-o by omega]using this
theorem f0g {es:List SV}{k:Nat}{e:SV}(h:(k,e)∈offs es 0):k+e.w≤esW es:=by
 have aux: ∀(es:List SV) (o k:Nat),(k,e)∈offs es o→k+e.w≤o+esW es:=by
  intro es
  induction es with
  |nil=>intro o k h;simp[offs]at h
  |cons x es ih=>
   intro o k h
   simp only[offs,List.mem_cons,Prod.mk.injEq,esW]at h⊢
   rcases h with⟨rfl,rfl⟩|h
   ·omega
   ·have:=ih _ _ h;omega
 simpa using aux es 0 k h
theorem o0s {e:SV}(h:e.isArr=false):e.w=1:=by cases e<;>simp[SV.isArr,SV.w]at*
theorem d0m {es:List SV}{n:Nat}{a b:List SV}(h:f0w es n=some (a,b)):es=a++b∧esW a=n:=by
 induction es generalizing n a b with
 |nil=>
  cases n with
  |zero=>simp[f0w]at h;obtain⟨rfl,rfl⟩:=h;exact⟨rfl,rfl⟩
  |succ n=>simp[f0w]at h
 |cons e es ih=>
  cases n with
  |zero=>simp[f0w]at h;obtain⟨rfl,rfl⟩:=h;exact⟨rfl,rfl⟩
  |succ n=>
   simp only[f0w]at h
   split at h
   ·rename_i hle
    have hle:=Nat.le_of_ble_eq_true hle
    split at h
    ·rename_i x y hs
     cases h
     obtain⟨h1,h2⟩:=ih hs
     exact⟨by rw[h1];rfl,by simp only[esW,h2];omega⟩
    ·cases h
   ·cases h
theorem e0u {es:List SV}{o n:Nat}{x:List SV}(h:h0h es o n=some x): ∃a b,es=a++(x++b)∧esW a=o∧esW x=n:=by
 unfold h0h at h
 split at h
 ·rename_i a r h1
  split at h
  ·rename_i y b h2
   cases h
   obtain⟨rfl,e1⟩:=d0m h1
   obtain⟨rfl,e2⟩:=d0m h2
   exact⟨a,b,rfl,e1,e2⟩
  ·cases h
 ·cases h
theorem d0k {es:List SV}{o n:Nat}{xs y:List SV}(h:i0p es o n xs=some y): ∃a x b,es=a++(x++b)∧y=a++(xs++b)∧esW a=o∧esW x=n:=by
 unfold i0p at h
 split at h
 ·rename_i a r h1
  split at h
  ·rename_i x b h2
   cases h
   obtain⟨rfl,e1⟩:=d0m h1
   obtain⟨rfl,e2⟩:=d0m h2
   exact⟨a,x,b,rfl,rfl,e1,e2⟩
  ·cases h
 ·cases h
section
variable {r:RM} {σ:Snap}
theorem ERel.left {a b:List SV}{get:Nat→Option Value}{o:Nat}(h:ERel r σ (a++b) get o):ERel r σ a get o:=
 ⟨fun k e he hn=>h.one k e (by rw[c0z];exact List.mem_append_left _ he) hn,fun k t n l he=>h.arr k t n l (by rw[c0z];exact List.mem_append_left _ he)⟩
theorem ERel.right {a b:List SV}{get:Nat→Option Value}{o:Nat}(h:ERel r σ (a++b) get o):ERel r σ b get (o+esW a):=by
 have up: ∀{k:Nat} {e:SV},(k,e)∈offs b 0→(esW a+k,e)∈offs (a++b) 0:=by
  intro k e he
  rw[c0z]
  refine List.mem_append_right _ ?_
  have:=f1d (esW a) he
  rw[Nat.add_comm k]at this
  exact this
 refine⟨fun k e he hn=> ?_,fun k t n l he=> ?_⟩
 ·have:=h.one _ e (up he) hn;rwa [←Nat.add_assoc]at this
 ·have:=h.arr _ t n l (up he);rwa [←Nat.add_assoc]at this
theorem ERel.append {a b:List SV}{get:Nat→Option Value}{o:Nat}(h:ERel r σ a get o)(k:ERel r σ b get (o+esW a)):ERel r σ (a++b) get o:=by
 have dn: ∀{q:Nat} {e:SV},(q,e)∈offs b (0+esW a)→esW a≤q∧(q-esW a,e)∈offs b 0:=by
  intro q e he;have:=p1n he;simpa using this
 refine⟨fun q e he hn=> ?_,fun q t n l he=> ?_⟩
 ·rw[c0z]at he
  rcases List.mem_append.1 he with he|he
  ·exact h.one q e he hn
  ·obtain⟨h1,h2⟩:=dn he
   have:=k.one _ e h2 hn
   rwa [show o+esW a+(q-esW a)=o+q by omega]at this
 ·rw[c0z]at he
  rcases List.mem_append.1 he with he|he
  ·exact h.arr q t n l he
  ·obtain⟨h1,h2⟩:=dn he
   have:=k.arr _ t n l h2
   rwa [show o+esW a+(q-esW a)=o+q by omega]at this
theorem ERel.nil {get:Nat→Option Value}{o:Nat}:ERel r σ [] get o:=⟨fun k e h=>by simp[offs]at h,fun k t n l h=>by simp[offs]at h⟩
theorem ERel.single {e:SV}{get:Nat→Option Value}{o:Nat}{v:Value}(hn:e.isArr=false)(hg:get o=some v)(hv:VRel r σ e v):ERel r σ [e] get o:=by
 refine⟨fun k e' he _=> ?_,fun k t n l he=> ?_⟩
 ·simp only[offs,List.mem_singleton,Prod.mk.injEq]at he
  obtain⟨rfl,rfl⟩:=he
  exact⟨v,hg,hv⟩
 ·simp only[offs,List.mem_singleton,Prod.mk.injEq]at he
  obtain⟨rfl,rfl⟩:=he
  simp[SV.isArr]at hn
theorem ERel.head {e:SV}{get:Nat→Option Value}{o:Nat}(h:ERel r σ [e] get o)(hn:e.isArr=false): ∃v,get o=some v∧VRel r σ e v:=by
 have:=h.one 0 e (by simp[offs]) hn
 simpa using this
theorem ERel.congr {es:List SV}{get get':Nat→Option Value}{o o':Nat}(h:ERel r σ es get o)(e: ∀k,k<esW es→get' (o'+k)=get (o+k)):ERel r σ es get' o':=by
 refine⟨fun k x hx hn=> ?_,fun k t n l hx=> ?_⟩
 ·obtain⟨v,h1,h2⟩:=h.one k x hx hn
  have:=f0g hx
  rw[o0s hn]at this
  exact⟨v,by rw[e k (by omega)];exact h1,h2⟩
 ·refine(h.arr k t n l hx).mono (Snap.le_refl _) fun q hq=> ?_
  have:=f0g hx
  simp only[SV.w,Ty.width]at this hq
  rw[Nat.add_assoc,Nat.add_assoc]
  exact e _ (by omega)
theorem ERel.sub {a x b:List SV}{get:Nat→Option Value}{o:Nat}(h:ERel r σ (a++(x++b)) get o):ERel r σ x get (o+esW a):=h.right.left
theorem l0k: ∀(t:Ty) (d:t.den),esW (d0l t d)=t.width
 |.bool,_=>rfl
 |.int _,_=>rfl
 |.str,_=>rfl
 |.sl _,_=>rfl
 |.arr n t,d=>by simp[d0l,esW,SV.w,Ty.width]
 |.pair a b,d=>by simp only[d0l,a0t,l0k a,l0k b,Ty.width]
 |.unit,_=>rfl
theorem c0x: ∀(t:Ty) {d:t.den} {get:Nat→Option Value} {o:Nat},RD σ t get o d→ERel r σ (d0l t d) get o
 |.bool,d,get,o,h=>.single rfl h (.bool _)
 |.int _,d,get,o,h=>.single rfl h (.int _ _)
 |.str,d,get,o,h=>.single rfl h (.str _)
 |.sl t,d,get,o,h=>by
  have h0:=h
  unfold RD at h
  obtain⟨a,len,cap,h1,h2⟩:=h
  refine .single rfl h1 (.imm t d _ ?_)
  unfold RD
  exact⟨a,len,cap,rfl,h2⟩
 |.arr n t,d,get,o,h=>by
  refine⟨fun k e he hn=> ?_,fun k t' n' l he=> ?_⟩
  ·simp only[d0l,offs,List.mem_singleton,Prod.mk.injEq]at he
   obtain⟨rfl,rfl⟩:=he
   simp[SV.isArr]at hn
  ·simp only[d0l,offs,List.mem_singleton,Prod.mk.injEq]at he
   obtain⟨rfl,he⟩:=he
   cases he
   exact h
 |.pair a b,d,get,o,h=>by
  unfold RD at h
  exact(c0x a h.1).append (by rw[l0k];exact c0x b h.2)
 |.unit,d,get,o,h=>.nil
end
theorem b0o (j o k:Nat):(⟨j,o,none⟩:Addr).add k=⟨j,o+k,none⟩:=by
 unfold Addr.add;split<;>simp_all
theorem l0e {w:World}{j:Nat}{c:Array Value}{T:TypeId}{f:Nat×Nat}(h:w.heap[j]? =some (.cells c T f))(o:Nat):w.cell? ⟨j,o,none⟩=c[o]? :=by
 simp only[World.cell?,h];rfl
theorem r0d {w:World}{j:Nat}{c:Array Value}{T:TypeId}{f:Nat×Nat}(h:w.heap[j]? =some (.cells c T f))(o:Nat):w.frozen? ⟨j,o,none⟩=(decide (f.1≤o)&&decide (o<f.2)):=by
 simp only[World.frozen?,h]
theorem l0n {P:Program}{w:World}{j:Nat}{c:Array Value}{T:TypeId}{f:Nat×Nat}(h:w.heap[j]? =some (.cells c T f)){o n:Nat}(hn:o+n≤c.size):
  (loadCells ⟨j,o,none⟩ n).run P w=.ok (c.extract o (o+n)) w:=by
 have hl:(c.extract o (o+n)).toList.length=n:=by simp;omega
 have:=run_loadCells_list (P:=P) w ⟨j,o,none⟩ (c.extract o (o+n)).toList (fun k v hk=>by
  rw[b0o,l0e h]
  rw[Array.getElem?_toList,Array.getElem?_extract]at hk
  split at hk
  ·exact hk
  ·cases hk)
 rw[hl]at this
 rw[this]
theorem y1g {P:Program}{w:World}{j:Nat}{c:Array Value}{T:TypeId}{f:Nat×Nat}(h:w.heap[j]? =some (.cells c T f)){o:Nat}{v:Value}(hv:c[o]? =some v):
  (load ⟨j,o,none⟩).run P w=.ok v w:=by
 simp only[load,Sem.run,l0e h,hv]
def b0q (c:Array Value)(o:Nat):List Value→Array Value
 |[]=>c
 |v::r=>b0q (c.setIfInBounds o v) (o+1) r
theorem a0z (c:Array Value)(o:Nat)(l:List Value):(b0q c o l).size=c.size:=by
 induction l generalizing c o with
 |nil=>rfl
 |cons v l ih=>simp[b0q,ih]
theorem d0f.patch {c:Array Value}{f:Nat×Nat}(h:d0f c f){o:Nat}{l:List Value}:d0f (b0q c o l) f:=by
 rcases h with q|q
 ·exact .inl q
 ·exact .inr (by rwa [a0z])
theorem b0t {c:Array Value}{o:Nat}{l:List Value}(h:o+l.length≤c.size){k:Nat}(hk:k<l.length):(b0q c o l)[o+k]? =l[k]? :=by
 have out: ∀(l:List Value) (c:Array Value) (o q:Nat),q<o→(b0q c o l)[q]? =c[q]? :=by
  intro l
  induction l with
  |nil=>intro c o q hq;rfl
  |cons v l ih=>intro c o q hq;simp only[b0q];rw[ih _ _ _ (by omega),Array.getElem?_setIfInBounds,if_neg (by omega)]
 induction l generalizing c o k with
 |nil=>simp at hk
 |cons v l ih=>
  simp only[b0q,List.length_cons]at*
  cases k with
  |zero=>rw[out _ _ _ _ (by omega),Nat.add_zero,Array.getElem?_setIfInBounds,if_pos rfl,if_pos (by omega)];rfl
  |succ k=>
   have:=ih (c:=c.setIfInBounds o v) (o:=o+1) (k:=k) (by simp;omega) (by omega)
   rw[show o+(k+1)=o+1+k by omega,this];rfl
theorem b0b {c:Array Value}{o:Nat}{l:List Value}{k:Nat}(hk:k<o∨o+l.length≤k):(b0q c o l)[k]? =c[k]? :=by
 induction l generalizing c o with
 |nil=>rfl
 |cons v l ih=>
  simp only[b0q,List.length_cons]at*
  rw[ih (by omega),Array.getElem?_setIfInBounds,if_neg (by omega)]
theorem d0d {w:World}{j:Nat}{c:Array Value}{T:TypeId}{f:Nat×Nat}(h:w.heap[j]? =some (.cells c T f))(o:Nat)(l:List Value):
  (w.setCells j o l).heap[j]? =some (.cells (b0q c o l) T f)∧(∀k,k≠j→(w.setCells j o l).heap[k]? =w.heap[k]?)∧(w.setCells j o l).heap.size=w.heap.size∧
  (w.setCells j o l).os=w.os∧(w.setCells j o l).tape=w.tape∧(w.setCells j o l).output=w.output:=by
 induction l generalizing w c o with
 |nil=>exact⟨h,fun _ _=>rfl,rfl,rfl,rfl,rfl⟩
 |cons v l ih=>
  have h1:(w.setCell ⟨j,o,none⟩ v).heap[j]? =some (.cells (c.setIfInBounds o v) T f):=by
   simp[World.setCell,Array.getElem?_modify,h]
  obtain⟨a1,a2,a3,a4,a5,a6⟩:=ih h1 (o+1)
  simp only[World.setCells,b0q]
  refine⟨a1,fun k hk=> ?_,by rw[a3];simp[World.setCell],a4,a5,a6⟩
  rw[a2 k hk]
  simp only[World.setCell,Array.getElem?_modify]
  rw[if_neg (by omega)]
theorem e0v {P:Program}{w:World}{j:Nat}{c:Array Value}{T:TypeId}{f:Nat×Nat}(h:w.heap[j]? =some (.cells c T f))(ht:d0f c f){o:Nat}{l:List Value}(hl:o+l.length≤c.size)
  (h1: ∀v∈l,v.oneCell'=true):(storeCells ⟨j,o,none⟩ l).run P w=.ok () (w.setCells j o l):=by
 have:=run_storeCells_cells (P:=P) j o l 0 w (fun k hk=>by rw[l0e h];simp;omega) (fun k hk=>by rw[r0d h];exact ht.no _ (by omega)) h1
 simpa using this
end Go.Proofs.Ytoehlcomhpnjgaa.Vx
