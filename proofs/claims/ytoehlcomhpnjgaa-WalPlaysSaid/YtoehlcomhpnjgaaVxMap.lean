import Derived.Test.YtoehlcomhpnjgaaVxVec
import Derived.MapKept
namespace Go.Proofs.Ytoehlcomhpnjgaa.Vx
open Go Go.RowKit
set_option linter.unusedVariables false
section
variable {P:Program} {r:RM} {σ:Snap} {s:SW} {w:World}
def valD:(t:Ty)→t.den→Value
 |.bool,(b:Bool)=>.bool b
 |.int k,(n:Int)=>.int k n
 |.str,(x:ByteArray)=>.string x
 |_,_=>Go.undef
theorem u0c {t:Ty}(ht:scal t=true){d:t.den}{v:Value}:RD σ t (fun _=>some v) 0 d↔v=valD t d:=by
 cases t<;>simp only[scal,Bool.false_eq_true]at ht<;>(unfold RD valD;simp)
theorem g0p {t:Ty}{x:SV}{d:t.den}(h:keyD t x=some d):scal t=true∧x=svD t d:=by
 unfold keyD at h
 split at h
 ·cases h;exact⟨rfl,rfl⟩
 ·rename_i k k' n
  split at h
  ·rename_i hk;have:=of_decide_eq_true hk;subst this;cases h;exact⟨rfl,rfl⟩
  ·cases h
 ·cases h;exact⟨rfl,rfl⟩
 ·cases h
theorem h0q {t:Ty}(ht:scal t=true){d:t.den}{v:Value}:VRel r σ (svD t d) v↔v=valD t d:=by
 cases t<;>simp only[scal,Bool.false_eq_true]at ht
 ·exact⟨fun h=>by cases h;rfl,fun h=>by subst h;exact .bool _⟩
 ·exact⟨fun h=>by cases h;rfl,fun h=>by subst h;exact .int _ _⟩
 ·exact⟨fun h=>by cases h;rfl,fun h=>by subst h;exact .str _⟩
theorem m0l {t:TypeId}{k:Ty}(h:keyT P t k=true):scal k=true∧ ∃d,P.underlying t=some d∧(∀a:k.den,MapKept.IsKey d (valD k a))∧ ∀a b:k.den,Instr.sameNow d (valD k a) (valD k b)=some (eqD k a b):=by
 unfold keyT at h
 split at h
 ·rename_i hu;exact⟨rfl,_,hu,fun a=>trivial,fun a b=>rfl⟩
 ·rename_i a b hu
  have:=of_decide_eq_true h;subst this
  exact⟨rfl,_,hu,fun a=>rfl,fun a b=>by simp[Instr.sameNow,valD,eqD]⟩
 ·rename_i hu
  refine⟨rfl,_,hu,fun a=>trivial,fun a b=> ?_⟩
  show some (_==_)=some (f0b a b)
  congr 1
  have h1:=MapKept.bytes_beq a b
  by_cases e:a=b
  ·rw[h1.2 e];unfold f0b;rw[e];simp
  ·have:(BEq.beq (α:=ByteArray) a b)=false:=by
    cases q:(BEq.beq (α:=ByteArray) a b)with
    |false=>rfl
    |true=>exact absurd (h1.1 q) e
   rw[this]
   unfold f0b
   refine(decide_eq_false fun q=>e ?_).symm
   cases a;cases b
   simp only at q
   exact congrArg ByteArray.mk (Array.ext' q)
 ·cases h
theorem g1f {t:TypeId}{v:Ty}(h:g1u P t v=true): ∃i,P.info? t=some i∧i.zero=some (valD v v.dflt):=by
 unfold g1u at h
 split at h
 ·rename_i i hi
  refine⟨i,hi,?_⟩
  split at h
  ·rename_i hz;exact hz
  ·rename_i k n k' hz
   rw[Bool.and_eq_true]at h
   have h1:=of_decide_eq_true h.1
   have h2:=of_decide_eq_true h.2
   subst h1;subst h2;exact hz
  ·rename_i x hz
   have h0:=Nat.eq_of_beq_eq_true h
   have:x=ByteArray.empty:=by
    cases x with
    |mk d=>
     have:d.size=0:=h0
     have:d= #[]:=Array.eq_empty_of_size_eq_zero this
     subst this;rfl
   rw[hz,this];rfl
  ·cases h
 ·cases h
theorem p1e {d:TypeDesc}{kt vt:Ty}(hs: ∀a b:kt.den,Instr.sameNow d (valD kt a) (valD kt b)=some (eqD kt a b))(k:kt.den): ∀(l:List (Ty.den (.pair kt vt))) (es:List MapEntry) (i:Nat),es.length=l.length→
  (∀(q:Nat) (x:Ty.den (.pair kt vt)) (e:MapEntry),l[q]? =some x→es[q]? =some e→e.key=valD kt (fsE kt vt x))→
  (c0w kt vt k l=l.length∧Instr.findNow d (valD kt k) es i=some none)∨(c0w kt vt k l<l.length∧ ∃e,es[c0w kt vt k l]? =some e∧e.key=valD kt k∧Instr.findNow d (valD kt k) es i=some (some (i+c0w kt vt k l,e.val)))
 |[],es,i,hl,hk=>by
  have:es=[]:=List.length_eq_zero_iff.1 hl
  subst this;exact .inl ⟨rfl,rfl⟩
 |x::l,[],i,hl,hk=>by simp at hl
 |x::l,e::es,i,hl,hk=>by
  have h0:=hk 0 x e rfl rfl
  have hsn:=hs k (fsE kt vt x)
  rw[←h0]at hsn
  cases q:eqD kt k (fsE kt vt x)with
  |true=>
   right
   have e1:c0w kt vt k (x::l)=0:=by unfold c0w;rw[q];rfl
   rw[q]at hsn
   have hkey:e.key=valD kt k:=by
    rw[h0]
    congr 1
    cases kt with
    |bool=>unfold eqD at q;exact(beq_iff_eq.1 q).symm
    |int kk=>unfold eqD at q;exact(beq_iff_eq.1 q).symm
    |str=>
     have q:f0b k x.1=true:=q
     unfold f0b at q
     have:=of_decide_eq_true q
     exact(congrArg ByteArray.mk (Array.ext' this)).symm
    |_=>cases q
   rw[e1]
   refine⟨by simp,e,rfl,hkey,?_⟩
   simp[Instr.findNow,hsn]
  |false=>
   rw[q]at hsn
   have e1:c0w kt vt k (x::l)=c0w kt vt k l+1:=by
    have:c0w kt vt k (x::l)=bif eqD kt k (fsE kt vt x)then 0 else c0w kt vt k l+1:=rfl
    rw[this,q];rfl
   rw[e1]
   rcases p1e hs k l es (i+1) (by simpa using hl) (fun q y f a b=>hk (q+1) y f (by simpa using a) (by simpa using b))with⟨a,b⟩|⟨a,f,b,c,g⟩
   ·exact .inl ⟨by simp[a],by simp[Instr.findNow,hsn,b]⟩
   ·refine .inr ⟨by simpa using a,f,by simpa using b,c,?_⟩
    simp[Instr.findNow,hsn,g];omega
theorem Rel.newMap (h:Rel r σ s w)(kt vt:Ty):Rel (r.setMp s.len w.heap.size) σ (s.push (.map kt vt [])) (w.alloc (.map #[] 0))∧r.le (r.setMp s.len w.heap.size)∧
  Frame s.len s.log r (r.setMp s.len w.heap.size) σ σ w (w.alloc (.map #[] 0)):=by
 have hle:r.le (r.setMp s.len w.heap.size):=j1f h.mp_len _
 have hat: ∀b j,(r.setMp s.len w.heap.size).at b j→r.at b j∨j=w.heap.size:=fun b j k=>by
  rcases h1g k with q|⟨_,q⟩
  ·exact .inl q
  ·exact .inr q
 have hold: ∀j,j<w.heap.size→(w.alloc (.map #[] 0)).heap[j]? =w.heap[j]? :=fun j hj=>Below.heap_alloc _ _ _ hj
 have hsz:(w.alloc (.map #[] 0)).heap.size=w.heap.size+1:=by show(w.heap.push _).size=_;simp
 have hnew:(w.alloc (.map #[] 0)).heap[w.heap.size]? =some (.map #[] 0):=by show(w.heap.push _)[w.heap.size]? =_;simp
 refine⟨h.change (b:=s.len) (x:=.map kt vt []) ?_ (SW.blk_push _ _) (fun b' e=>SW.blk_push_ne _ _ e) (by rw[SW.len_push];omega) (by intro t p j e;cases e) (by intro g es e;cases e) ?_,hle,?_⟩
 ·refine⟨hle,Snap.le_refl _,fun _ _ _ k=>k,fun _ _ _ _ k=>k,fun b' p e k=> ?_,by rw[hsz];omega,fun j hj _=>hold j hj,fun j hj=> ?_,fun j hj=> ?_,fun j hj=>(hat _ _ hj).imp id (by rintro rfl;exact Nat.le_refl _),fun j c' hj=>.inl hj,?_,?_,?_,?_⟩
  ·simpa [RM.setMp,e]using k
  ·rcases hat _ _ hj with q|rfl
   ·have:=h.inb _ _ q;rw[hsz];omega
   ·rw[hsz];omega
  ·have:(r.setMp s.len w.heap.size).mp s.len=some j:=hj
   simp only[RM.setMp,if_true,Option.some.injEq]at this
   exact .inr (by omega)
  ·intro es' j n e;cases e
  ·intro t g l p e;cases e
  ·intro t g l p e;cases e
  ·intro t g l g' e;cases e
 ·intro kt' vt' l j e hj
  cases e
  simp only[RM.setMp,if_true,Option.some.injEq]at hj
  subst hj
  exact⟨#[],hnew,⟨rfl,fun i d e h=>by simp at h⟩⟩
 ·refine⟨rfl,rfl,rfl,by rw[hsz];omega,fun b j k=> ?_,fun j hj _=>hold j hj,fun b hb _=>⟨rfl,fun _=>rfl,by simp[RM.setMp];omega⟩,.refl⟩
  rcases hat b j k with q|rfl
  ·exact .inl q
  ·exact .inr (Nat.le_refl _)
theorem Rel.setMap (h:Rel r σ s w){b j:Nat}{kt vt:Ty}{l l':List (Ty.den (.pair kt vt))}(hb:s.blk b=some (.map kt vt l))(hj:r.mp b=some j){es':Array MapEntry}(he:MEnt σ kt vt l' es'):
  Rel r σ ((s.note b).setBlk b (.map kt vt l')) {w with heap:=w.heap.setIfInBounds j (.map es' es'.size)}∧Frame s.len (s.note b).log r r σ σ w {w with heap:=w.heap.setIfInBounds j (.map es' es'.size)}:=by
 have hbl:b<s.len:=(List.getElem?_eq_some_iff.1 hb).1
 obtain⟨es,h1,h2⟩:=h.map b kt vt l j hb hj
 have hjl:j<w.heap.size:=(Array.getElem?_eq_some_iff.1 h1).1
 have live: ∀j',r.live (s.blk b) b j'↔j'=j:=by
  intro j'
  rw[hb]
  simp only[RM.live,hj,Option.some.injEq]
  exact eq_comm
 have hne: ∀j',j'≠j→(w.heap.setIfInBounds j (.map es' es'.size))[j']? =w.heap[j']? :=fun j' e=>by rw[Array.getElem?_setIfInBounds,if_neg (Ne.symm e)]
 refine⟨h.change (b:=b) (x:=.map kt vt l') ?_ (SW.set_blk _ _ _ (by rw[SW.note_len];exact hbl)) (fun b' e'=>by rw[SW.set_ne _ _ _ e',SW.note_blk]) (by rw[SW.set_len,SW.note_len];exact Nat.le_refl _) (by intro t p j e;cases e) (by intro g es e;cases e) ?_,?_⟩
 ·refine⟨RM.le_refl _,Snap.le_refl _,fun _ _ _ k=>k,fun _ _ _ _ k=>k,fun _ _ _ k=>k,by simp,fun j' hj' hn=>hne j' fun e=>hn ((live j').2 e),fun j' hj'=>by simpa using h.inb _ _ hj',fun j' hj'=>.inl ?_,fun j' hj'=>.inl hj',fun j' c' hj'=>.inl hj',?_,?_,?_,?_⟩
  ·rw[hb];exact hj'
  ·intro es' j n e;cases e
  ·intro t g l p e;cases e
  ·intro t g l p e;cases e
  ·intro t g l g' e;cases e
 ·intro kt2 vt2 l2 j' e hj'
  cases e
  rw[hj]at hj';cases hj'
  exact⟨es',by simp[hjl],he⟩
 ·refine⟨rfl,rfl,rfl,by simp,fun _ _ h=>.inl h,fun j' hj' hn=>hne j' fun e'=> ?_,fun _ _ _=>⟨rfl,fun _=>rfl,rfl⟩,.refl⟩
  subst e'
  exact hn b (SW.note_mem _ _) (.inr (.inr hj))
theorem n1e (es:Array MapEntry)(i:Nat)(f:MapEntry→MapEntry):(es.modify i f).size=es.size:=by simp
theorem Rel.newFmap (h:Rel r σ s w)(kt:Ty):Rel (r.setMp s.len w.heap.size) σ (s.push (.fmap kt [] [])) (w.alloc (.map #[] 0))∧r.le (r.setMp s.len w.heap.size)∧
  Frame s.len s.log r (r.setMp s.len w.heap.size) σ σ w (w.alloc (.map #[] 0)):=by
 have hle:r.le (r.setMp s.len w.heap.size):=j1f h.mp_len _
 have hat: ∀b j,(r.setMp s.len w.heap.size).at b j→r.at b j∨j=w.heap.size:=fun b j k=>by
  rcases h1g k with q|⟨_,q⟩
  ·exact .inl q
  ·exact .inr q
 have hold: ∀j,j<w.heap.size→(w.alloc (.map #[] 0)).heap[j]? =w.heap[j]? :=fun j hj=>Below.heap_alloc _ _ _ hj
 have hsz:(w.alloc (.map #[] 0)).heap.size=w.heap.size+1:=by show(w.heap.push _).size=_;simp
 have hnew:(w.alloc (.map #[] 0)).heap[w.heap.size]? =some (.map #[] 0):=by show(w.heap.push _)[w.heap.size]? =_;simp
 refine⟨h.change (b:=s.len) (x:=.fmap kt [] []) ?_ (SW.blk_push _ _) (fun b' e=>SW.blk_push_ne _ _ e) (by rw[SW.len_push];omega) (by intro t p j e;cases e) (by intro g es e;cases e) (by intro kt vt l j e;cases e) ?_,hle,?_⟩
 ·refine⟨hle,Snap.le_refl _,fun _ _ _ k=>k,fun _ _ _ _ k=>k,fun b' p e k=> ?_,by rw[hsz];omega,fun j hj _=>hold j hj,fun j hj=> ?_,fun j hj=> ?_,fun j hj=>(hat _ _ hj).imp id (by rintro rfl;exact Nat.le_refl _),fun j c' hj=>.inl hj,?_,?_,?_,?_⟩
  ·simpa [RM.setMp,e]using k
  ·rcases hat _ _ hj with q|rfl
   ·have:=h.inb _ _ q;rw[hsz];omega
   ·rw[hsz];omega
  ·have:(r.setMp s.len w.heap.size).mp s.len=some j:=hj
   simp only[RM.setMp,if_true,Option.some.injEq]at this
   exact .inr (by omega)
  ·intro es' j n e;cases e
  ·intro t g l p e;cases e
  ·intro t g l p e;cases e
  ·intro t g l g' e;cases e
 ·intro kt' ks es j e hj
  cases e
  simp only[RM.setMp,if_true,Option.some.injEq]at hj
  subst hj
  exact⟨#[],hnew,⟨rfl,by simpa using LRel.nil _ _,fun i d e h=>by simp at h⟩⟩
 ·refine⟨rfl,rfl,rfl,by rw[hsz];omega,fun b j k=> ?_,fun j hj _=>hold j hj,fun b hb _=>⟨rfl,fun _=>rfl,by simp[RM.setMp];omega⟩,.refl⟩
  rcases hat b j k with q|rfl
  ·exact .inl q
  ·exact .inr (Nat.le_refl _)
theorem l1g (hr:Rel r σ s w){T:TypeId}{h0:Option SV}{h0':Option Value}(hh:ORel r σ h0 h0'){v:SV}{s1:SW}(h:(i0r P T h0 s).sel=some (v,s1)):Goes P r σ s w (Instr.makeMap T h0') v s1:=by
 unfold i0r at h
 split at h
 ·rename_i kt et hu
  have run:b1o h0=true→(Instr.makeMap T h0').run P w=.ok (.map (some w.heap.size)) (w.alloc (.map #[] 0)):=fun hc=>by
   cases hh with
   |none=>simp[Instr.makeMap,newObj,Sem.run]
   |some x x' hx=>
    cases x<;>simp[b1o]at hc
    cases hx
    simp[Instr.makeMap,run_underlying hu,asInt,asIntOf,newObj,Sem.run]
  have fm: ∀k:Ty,b1o h0=true→(.mapv s.len,s.push (.fmap k [] []))=(v,s1)→Goes P r σ s w (Instr.makeMap T h0') v s1:=fun k hc e=>by
   cases e
   obtain⟨h1,h2,h3⟩:=hr.newFmap k
   exact⟨_,σ,_,_,h2,Snap.le_refl _,h1,h3,run hc,.mapv s.len w.heap.size (by simp[RM.setMp]),fun _ h=>h,by rw[SW.len_push];omega⟩
  split at h
  ·rename_i k vt hk hv
   split at h
   ·rename_i hc
    rw[Bool.and_eq_true]at hc
    split at h
    ·cases h
     obtain⟨h1,h2,h3⟩:=hr.newMap k vt
     exact⟨_,σ,_,_,h2,Snap.le_refl _,h1,h3,run hc.2,.mapv s.len w.heap.size (by simp[RM.setMp]),fun _ h=>h,by rw[SW.len_push];omega⟩
    ·exact fm k hc.2 (Option.some.inj h)
   ·cases h
  ·rename_i k hk hv
   split at h
   ·rename_i hc
    rw[Bool.and_eq_true]at hc
    exact fm k hc.2 (Option.some.inj h)
   ·cases h
  ·cases h
 ·cases h
theorem o1y {d:TypeDesc}{kt:Ty}(hs: ∀a b:kt.den,Instr.sameNow d (valD kt a) (valD kt b)=some (eqD kt a b))(k:kt.den): ∀(ks:List kt.den) (es:List MapEntry) (i q:Nat),es.length=ks.length→
  (∀(p:Nat) (x:kt.den) (e:MapEntry),ks[p]? =some x→es[p]? =some e→e.key=valD kt x)→(idxF kt k ks i).sel=some q→
  (q=i+ks.length∧Instr.findNow d (valD kt k) es i=some none)∨ ∃p,q=i+p∧p<ks.length∧ ∃e,es[p]? =some e∧e.key=valD kt k∧Instr.findNow d (valD kt k) es i=some (some (q,e.val))
 |[],es,i,q,hl,hk,h=>by
  have:es=[]:=List.length_eq_zero_iff.1 hl
  subst this;cases h;exact .inl ⟨rfl,rfl⟩
 |x::ks,[],i,q,hl,hk,h=>by simp at hl
 |x::ks,e::es,i,q,hl,hk,h=>by
  have h0:=hk 0 x e rfl rfl
  have hsn:=hs k x
  rw[←h0]at hsn
  simp only[idxF,Tree.sel]at h
  cases c:eqD kt k x with
  |true=>
   right
   rw[c]at hsn h
   simp only[cond_true,Option.some.injEq]at h
   subst h
   have hkey:e.key=valD kt k:=by
    rw[h0]
    congr 1
    cases kt with
    |bool=>unfold eqD at c;exact(beq_iff_eq.1 c).symm
    |int kk=>unfold eqD at c;exact(beq_iff_eq.1 c).symm
    |str=>
     have c:f0b k x=true:=c
     unfold f0b at c
     have:=of_decide_eq_true c
     exact(congrArg ByteArray.mk (Array.ext' this)).symm
    |_=>cases c
   exact⟨0,rfl,by simp,e,rfl,hkey,by simp[Instr.findNow,hsn]⟩
  |false=>
   rw[c]at hsn h
   simp only[cond_false]at h
   rcases o1y hs k ks es (i+1) q (by simpa using hl) (fun p y f a b=>hk (p+1) y f (by simpa using a) (by simpa using b)) h with⟨a,b⟩|⟨p,a,a',f,b,c',g⟩
   ·exact .inl ⟨by rw[a];simp;omega,by simp[Instr.findNow,hsn,b]⟩
   ·exact .inr ⟨p+1,by omega,by simpa using a',f,by simpa using b,c',by simp[Instr.findNow,hsn,g]⟩
theorem FEnt.find {kt:Ty}{ks:List kt.den}{es:List SV}{ms:Array MapEntry}(h:FEnt r σ kt ks es ms)(hk:scal kt=true){d:TypeDesc}(hs: ∀a b:kt.den,Instr.sameNow d (valD kt a) (valD kt b)=some (eqD kt a b))(k:kt.den){q:Nat}(hq:(idxF kt k ks 0).sel=some q):
  (q=ks.length∧Instr.findNow d (valD kt k) ms.toList 0=some none)∨(q<ks.length∧ ∃e,ms[q]? =some e∧e.key=valD kt k∧Instr.findNow d (valD kt k) ms.toList 0=some (some (q,e.val))):=by
 rcases o1y hs k ks ms.toList 0 q (by simpa using h.size) (fun p x e hx he=>(u0c hk).1 (h.ent p x e hx (by simpa using he)).1) hq with⟨a,b⟩|⟨p,a,a',e,b,c,g⟩
 ·exact .inl ⟨by omega,b⟩
 ·have:q=p:=by omega
  subst this
  exact .inr ⟨a',e,by simpa using b,c,g⟩
theorem FEnt.len {kt:Ty}{ks:List kt.den}{es:List SV}{ms:Array MapEntry}(h:FEnt r σ kt ks es ms):es.length=ks.length:=by rw[h.vals.size];simp[h.size]
theorem Rel.setFmap (h:Rel r σ s w){b j:Nat}{kt:Ty}{ks ks':List kt.den}{es es':List SV}(hb:s.blk b=some (.fmap kt ks es))(hj:r.mp b=some j){ms':Array MapEntry}(he:FEnt r σ kt ks' es' ms'):
  Rel r σ ((s.note b).setBlk b (.fmap kt ks' es')) {w with heap:=w.heap.setIfInBounds j (.map ms' ms'.size)}∧Frame s.len (s.note b).log r r σ σ w {w with heap:=w.heap.setIfInBounds j (.map ms' ms'.size)}:=by
 have hbl:b<s.len:=(List.getElem?_eq_some_iff.1 hb).1
 obtain⟨ms,h1,h2⟩:=h.fmap b kt ks es j hb hj
 have hjl:j<w.heap.size:=(Array.getElem?_eq_some_iff.1 h1).1
 have live: ∀j',r.live (s.blk b) b j'↔j'=j:=by
  intro j'
  rw[hb]
  simp only[RM.live,hj,Option.some.injEq]
  exact eq_comm
 have hne: ∀j',j'≠j→(w.heap.setIfInBounds j (.map ms' ms'.size))[j']? =w.heap[j']? :=fun j' e=>by rw[Array.getElem?_setIfInBounds,if_neg (Ne.symm e)]
 refine⟨h.change (b:=b) (x:=.fmap kt ks' es') ?_ (SW.set_blk _ _ _ (by rw[SW.note_len];exact hbl)) (fun b' e'=>by rw[SW.set_ne _ _ _ e',SW.note_blk]) (by rw[SW.set_len,SW.note_len];exact Nat.le_refl _) (by intro t p j e;cases e) (by intro g es e;cases e) (by intro kt vt l j e;cases e) ?_,?_⟩
 ·refine⟨RM.le_refl _,Snap.le_refl _,fun _ _ _ k=>k,fun _ _ _ _ k=>k,fun _ _ _ k=>k,by simp,fun j' hj' hn=>hne j' fun e=>hn ((live j').2 e),fun j' hj'=>by simpa using h.inb _ _ hj',fun j' hj'=>.inl ?_,fun j' hj'=>.inl hj',fun j' c' hj'=>.inl hj',?_,?_,?_,?_⟩
  ·rw[hb];exact hj'
  ·intro es' j n e;cases e
  ·intro t g l p e;cases e
  ·intro t g l p e;cases e
  ·intro t g l g' e;cases e
 ·intro kt2 ks2 es2 j' e hj'
  cases e
  rw[hj]at hj';cases hj'
  exact⟨ms',by simp[hjl],he⟩
 ·refine⟨rfl,rfl,rfl,by simp,fun _ _ h=>.inl h,fun j' hj' hn=>hne j' fun e'=> ?_,fun _ _ _=>⟨rfl,fun _=>rfl,rfl⟩,.refl⟩
  subst e'
  exact hn b (SW.note_mem _ _) (.inr (.inr hj))
theorem n2m {ok:Bool}{v:SV}{v':Value}(h:VRel r σ v v')(b:Bool):VRel r σ (okV ok v b) (if ok=true then .tuple #[v',.bool b]else v'):=by
 cases ok with
 |false=>exact h
 |true=>
  rw[if_pos rfl]
  refine .tup _ _ rfl fun i u u' a b'=> ?_
  match i,a,b' with
  |0,a,b'=>cases a;cases b';exact h
  |1,a,b'=>cases a;cases b';exact .bool _
theorem d2s (hr:Rel r σ s w){T kt et:TypeId}(hu:P.underlying T=some (.map kt et)){b:Nat}{k:Ty}{ks:List k.den}{es:List SV}(hb:s.blk b=some (.fmap k ks es))(hc:keyT P kt k=true){kd:k.den}{x':Value}(hx:VRel r σ (.mapv b) x'){ok:Bool}{v:SV}
  (h:(evLookF P et k kd ks es ok).sel=some v): ∃v',VRel r σ v v'∧(Instr.lookup T x' (valD k kd) ok).run P w=.ok v' w:=by
 obtain⟨q1,d,q2,q3,q4⟩:=m0l hc
 unfold evLookF at h
 obtain⟨q,hq,h⟩:=Tree.bind_some h
 cases hx with
 |mapv _ j hj=>
  obtain⟨ms,h1,h2⟩:=hr.fmap b k ks es j hb hj
  have hlen:=h2.len
  rcases h2.find q1 q4 kd hq with⟨f1,f2⟩|⟨f1,e,f2,f3,f4⟩
  ·rw[List.getElem?_eq_none (by omega)]at h
   simp only at h
   split at h
   ·rename_i z hz
    cases h
    obtain⟨zv,hv,hzv⟩:=i1j (r:=r) (σ:=σ) hz w
    refine⟨_,n2m hv false,?_⟩
    cases ok<;>simp[Instr.lookup,run_underlying hu,MapKept.run_getObj_map h1,MapKept.run_checkKey q2 (q3 kd),MapKept.run_findKey q2 f2,hzv]
   ·cases h
  ·have hlt:q<es.length:=by omega
   rw[List.getElem?_eq_getElem hlt]at h
   cases h
   have hv:VRel r σ es[q] e.val:=h2.vals.at_ q _ _ (List.getElem?_eq_getElem hlt) (by rw[Array.getElem?_map,f2];rfl)
   refine⟨_,n2m hv true,?_⟩
   cases ok<;>simp[Instr.lookup,run_underlying hu,MapKept.run_getObj_map h1,MapKept.run_checkKey q2 (q3 kd),MapKept.run_findKey q2 f4]
theorem m2k (hr:Rel r σ s w){T kt et:TypeId}(hu:P.underlying T=some (.map kt et)){b:Nat}{k:Ty}{ks:List k.den}{es:List SV}(hb:s.blk b=some (.fmap k ks es))(hc:keyT P kt k=true){kd:k.den}{x':Value}(hx:VRel r σ (.mapv b) x'){a:SV}{a':Value}(ha:VRel r σ a a')
  {v:SV} {s1:SW} (h:(z1s b k kd a ks es s).sel=some (v,s1)):
  v=.undef∧ ∃w1,Rel r σ s1 w1∧Frame s.len s1.log r r σ σ w w1∧(Instr.mapUpdate T x' (valD k kd) a').run P w=.ok () w1∧s1.len=s.len∧ ∀x,x∈s.log→x∈s1.log:=by
 obtain⟨q1,d,q2,q3,q4⟩:=m0l hc
 unfold z1s at h
 obtain⟨q,hq,h⟩:=Tree.bind_some h
 cases hx with
 |mapv _ j hj=>
  obtain⟨ms,h1,h2⟩:=hr.fmap b k ks es j hb hj
  have hlen:=h2.len
  have hsz:=h2.size
  rcases h2.find q1 q4 kd hq with⟨f1,f2⟩|⟨f1,e,f2,f3,f4⟩
  ·rw[show Nat.blt q ks.length=false by cases c:Nat.blt q ks.length with|false=>rfl|true=>have:=Nat.le_of_ble_eq_true c;omega]at h
   cases h
   refine⟨rfl,?_⟩
   have hm:FEnt r σ k (ks++[kd]) (es++[a]) (ms.push {key:=valD k kd,val:=a',born:=ms.size}):=by
    refine⟨by simp[hsz],?_,fun i x y hx hy=> ?_⟩
    ·rw[Array.map_push]
     have:=h2.vals.append (LRel.cons ha (LRel.nil r σ))
     simpa using this
    ·rw[Array.getElem?_push]at hy
     by_cases c:i=ms.size
     ·rw[if_pos c]at hy;cases hy
      rw[List.getElem?_append_right (by omega),c,hsz,Nat.sub_self]at hx
      cases hx
      exact⟨(u0c q1).2 rfl,c.symm⟩
     ·rw[if_neg c]at hy
      have hlt:i<ms.size:=(Array.getElem?_eq_some_iff.1 hy).1
      rw[List.getElem?_append_left (by omega)]at hx
      exact h2.ent i x y hx hy
   obtain⟨k1,k2⟩:=hr.setFmap hb hj hm
   refine⟨_,k1,k2,?_,by rw[SW.set_len,SW.note_len],fun x hx=>SW.note_sub s b x hx⟩
   have hsz2:(ms.push {key:=valD k kd,val:=a',born:=ms.size}).size=ms.size+1:=by simp
   rw[hsz2]
   simp[Instr.mapUpdate,run_underlying hu,MapKept.run_getObj_map h1,MapKept.run_checkKey q2 (q3 kd),MapKept.run_findKey q2 f2,MapKept.run_setObj_map _ h1]
  ·rw[show Nat.blt q ks.length=true from Nat.ble_eq_true_of_le f1]at h
   cases h
   refine⟨rfl,?_⟩
   have hm:FEnt r σ k ks (es.set q a) (ms.modify q fun e=>{e with key:=valD k kd,val:=a'}):=by
    refine⟨by simp[hsz],?_,fun i x y hx hy=> ?_⟩
    ·refine⟨by simp[hlen,hsz],fun i u u' hu hu'=> ?_⟩
     rw[Array.getElem?_map,Array.getElem?_modify]at hu'
     rw[List.getElem?_set]at hu
     by_cases c:q=i
     ·subst c
      rw[if_pos rfl]at hu hu'
      rw[f2]at hu'
      split at hu
      ·cases hu;cases hu';exact ha
      ·cases hu
     ·rw[if_neg c]at hu hu'
      exact h2.vals.at_ i u u' hu (by rw[Array.getElem?_map];exact hu')
    ·rw[Array.getElem?_modify]at hy
     by_cases c:q=i
     ·subst c
      rw[if_pos rfl,f2]at hy;cases hy
      have:=h2.ent q x e hx f2
      exact⟨by simp only[←f3];exact this.1,this.2⟩
     ·rw[if_neg c]at hy;exact h2.ent i x y hx hy
   obtain⟨k1,k2⟩:=hr.setFmap hb hj hm
   refine⟨_,k1,k2,?_,by rw[SW.set_len,SW.note_len],fun x hx=>SW.note_sub s b x hx⟩
   rw[n1e]
   have hkt:(Instr.keyThatStays e.key (valD k kd)).run P w=.ok (valD k kd) w:=by rw[f3];exact MapKept.run_keyThatStays (q3 kd)
   simp[Instr.mapUpdate,run_underlying hu,MapKept.run_getObj_map h1,MapKept.run_checkKey q2 (q3 kd),MapKept.run_findKey q2 f4,f2,hkt,MapKept.run_setObj_map _ h1]
theorem MEnt.find {kt vt:Ty}{l:List (Ty.den (.pair kt vt))}{es:Array MapEntry}(h:MEnt σ kt vt l es)(hk:scal kt=true){d:TypeDesc}(hs: ∀a b:kt.den,Instr.sameNow d (valD kt a) (valD kt b)=some (eqD kt a b))(k:kt.den):
  (c0w kt vt k l=l.length∧Instr.findNow d (valD kt k) es.toList 0=some none)∨(c0w kt vt k l<l.length∧ ∃e,es[c0w kt vt k l]? =some e∧e.key=valD kt k∧Instr.findNow d (valD kt k) es.toList 0=some (some (c0w kt vt k l,e.val))):=by
 have:=p1e hs k l es.toList 0 (by simpa using h.size) fun q x e hx he=>(u0c hk).1 (h.ent q x e hx (by simpa using he)).1
 simpa using this
theorem t1o {kt vt:Ty}{l:List (Ty.den (.pair kt vt))}{es:Array MapEntry}(h:MEnt σ kt vt l es)(hv:scal vt=true){i:Nat}(hi:i<l.length){e:MapEntry}(he:es[i]? =some e):e.val=valD vt (snE kt vt (l.getD i (Ty.dflt (.pair kt vt)))):=by
 have hd:l.getD i (Ty.dflt (.pair kt vt))=l[i]:=g0s hi _
 rw[hd]
 exact(u0c hv).1 (h.ent i l[i] e (List.getElem?_eq_getElem hi) he).2.1
theorem r1h (hr:Rel r σ s w){T:TypeId}{x i:SV}{x' i':Value}(hx:VRel r σ x x')(hi:VRel r σ i i'){ok:Bool}{v:SV}(h:(evLookup P T x i ok s).sel=some v): ∃v',VRel r σ v v'∧(Instr.lookup T x' i' ok).run P w=.ok v' w:=by
 unfold evLookup at h
 split at h
 ·rename_i kt et b hu
  split at h
  ·rename_i k vt l hb
   split at h
   ·rename_i kd hc hkd
    rw[Bool.and_eq_true]at hc
    obtain⟨q1,rfl⟩:=g0p hkd
    obtain⟨_,d,q2,q3,q4⟩:=m0l hc.1
    obtain⟨inf,q5,q6⟩:=g1f hc.2
    have hi:=(h0q q1).1 hi
    subst hi
    cases hx with
    |mapv _ j hj=>
     obtain⟨es,h1,h2⟩:=hr.map b k vt l j hb hj
     have hvs:scal vt=true:=by
      have:=hc.2
      unfold g1u at this
      split at this
      ·split at this<;>first|rfl|cases this
      ·cases this
     have key: ∃ok',(∃v',v'=valD vt (mget k vt kd l)∧ok'=mhas k vt kd l∧(Instr.lookup T (.map (some j)) (valD k kd) ok).run P w=.ok (if ok=true then .tuple #[v',.bool ok']else v') w):=by
      refine⟨_,_,rfl,rfl,?_⟩
      rcases h2.find q1 q4 kd with⟨f1,f2⟩|⟨f1,e,f2,f3,f4⟩
      ·have hz:mget k vt kd l=vt.dflt:=by
        unfold mget
        rw[f1,List.getD_eq_getElem?_getD,List.getElem?_eq_none (Nat.le_refl _)];rfl
       have hh:mhas k vt kd l=false:=decide_eq_false (by omega)
       rw[hz,hh]
       cases ok<;>simp[Instr.lookup,run_underlying hu,MapKept.run_getObj_map h1,MapKept.run_checkKey q2 (q3 kd),MapKept.run_findKey q2 f2,zeroValue,typeInfo,q5,q6]
      ·have hz:e.val=valD vt (mget k vt kd l):=t1o h2 hvs f1 f2
       have hh:mhas k vt kd l=true:=decide_eq_true f1
       rw[←hz,hh]
       cases ok<;>simp[Instr.lookup,run_underlying hu,MapKept.run_getObj_map h1,MapKept.run_checkKey q2 (q3 kd),MapKept.run_findKey q2 f4]
     obtain⟨ok',v',e1,e2,e3⟩:=key
     cases ok with
     |true=>
      cases h
      refine⟨_,?_,e3⟩
      rw[if_pos rfl]
      refine .tup _ _ rfl fun i u u' a b'=> ?_
      match i,a,b' with
      |0,a,b'=>cases a;cases b';exact(h0q hvs).2 e1
      |1,a,b'=>cases a;cases b';rw[e2];exact .bool _
     |false=>
      cases h
      exact⟨_,(h0q hvs).2 e1,e3⟩
   ·cases h
  ·rename_i k ks es hb
   split at h
   ·rename_i kd hc hkd
    obtain⟨q1,rfl⟩:=g0p hkd
    have hi:=(h0q q1).1 hi
    subst hi
    exact d2s hr hu hb hc hx h
   ·cases h
  ·cases h
 ·cases h
theorem MEnt.push {kt vt:Ty}{l:List (Ty.den (.pair kt vt))}{es:Array MapEntry}(h:MEnt σ kt vt l es)(hk:scal kt=true)(hv:scal vt=true)(k:kt.den)(v:vt.den):
  MEnt σ kt vt (l++[mkE kt vt k v]) (es.push {key:=valD kt k,val:=valD vt v,born:=es.size}):=by
 refine⟨by simp[h.size],fun i d e hd he=> ?_⟩
 rw[Array.getElem?_push]at he
 by_cases q:i=es.size
 ·rw[if_pos q]at he
  cases he
  rw[List.getElem?_append_right (by rw[←h.size];omega),←h.size,q,Nat.sub_self]at hd
  cases hd
  exact⟨(u0c hk).2 rfl,(u0c hv).2 rfl,q.symm⟩
 ·rw[if_neg q]at he
  have hlt:i<es.size:=(Array.getElem?_eq_some_iff.1 he).1
  rw[List.getElem?_append_left (by rw[←h.size];exact hlt)]at hd
  exact h.ent i d e hd he
theorem MEnt.modify {kt vt:Ty}{l:List (Ty.den (.pair kt vt))}{es:Array MapEntry}(h:MEnt σ kt vt l es)(i:Nat)(f:MapEntry→MapEntry)(d:Ty.den (.pair kt vt))
  (hf: ∀e,es[i]? =some e→RD σ kt (fun _=>some (f e).key) 0 (fsE kt vt d)∧RD σ vt (fun _=>some (f e).val) 0 (snE kt vt d)∧(f e).born=e.born):MEnt σ kt vt (l.set i d) (es.modify i f):=by
 refine⟨by simp[h.size],fun q x e hx he=> ?_⟩
 rw[Array.getElem?_modify]at he
 rw[List.getElem?_set]at hx
 by_cases c:i=q
 ·subst c
  rw[if_pos rfl]at he hx
  split at hx
  ·rename_i hlt
   cases hx
   cases g:es[i]? with
   |none=>rw[g]at he;cases he
   |some e0=>
    rw[g]at he;cases he
    obtain⟨a,b,c⟩:=hf e0 g
    exact⟨a,b,by rw[c];exact(h.ent i l[i] e0 (List.getElem?_eq_getElem hlt) g).2.2⟩
  ·cases hx
 ·rw[if_neg c]at he hx
  exact h.ent q x e hx he
theorem p0x (es:Array MapEntry)(i:Nat)(f:MapEntry→MapEntry):(es.modify i f).size=es.size:=by simp
theorem h1v (hr:Rel r σ s w){T:TypeId}{x i:SV}{x' i':Value}(hx:VRel r σ x x')(hi:VRel r σ i i'){v:SV}{s1:SW}(h:(f0s P T x i s).sel=some (v,s1)):Goes P r σ s w (Instr.mapEntry T x' i') v s1:=by
 unfold f0s at h
 split at h
 ·rename_i kt et b hu
  split at h
  ·rename_i k vt l hb
   split at h
   ·rename_i kd hc hkd
    rw[Bool.and_eq_true]at hc
    obtain⟨q1,rfl⟩:=g0p hkd
    obtain⟨_,d,q2,q3,q4⟩:=m0l hc.1
    obtain⟨inf,q5,q6⟩:=g1f hc.2
    have hi:=(h0q q1).1 hi
    subst hi
    have hvs:scal vt=true:=by
     have:=hc.2
     unfold g1u at this
     split at this
     ·split at this<;>first|rfl|cases this
     ·cases this
    cases h
    cases hx with
    |mapv _ j hj=>
     obtain⟨es,h1,h2⟩:=hr.map b k vt l j hb hj
     have tup: ∀(a:Value) (n:Nat),a=valD vt (mget k vt kd l)→n=c0w k vt kd l→VRel r σ (.tup [svD vt (mget k vt kd l),.int .i64 (c0w k vt kd l:Int)]) (.tuple #[a,goInt n]):=fun a n ha hn=>by
      refine .tup _ _ rfl fun i u u' p q=> ?_
      match i,p,q with
      |0,p,q=>cases p;cases q;exact(h0q hvs).2 ha
      |1,p,q=>cases p;cases q;rw[hn];exact .int _ _
     rcases h2.find q1 q4 kd with⟨f1,f2⟩|⟨f1,e,f2,f3,f4⟩
     ·have hz:mget k vt kd l=vt.dflt:=by
       unfold mget
       rw[f1,List.getD_eq_getElem?_getD,List.getElem?_eq_none (Nat.le_refl _)];rfl
      have ht:f1m k vt kd l=l++[mkE k vt kd vt.dflt]:=by
       unfold f1m
       rw[show mhas k vt kd l=false from decide_eq_false (by omega)];rfl
      have hm:=h2.push q1 hvs kd vt.dflt
      obtain⟨k1,k2⟩:=hr.setMap hb hj hm
      rw[ht]
      refine⟨r,σ,_,_,RM.le_refl _,Snap.le_refl _,k1,k2,?_,tup (valD vt vt.dflt) es.size (by rw[hz]) (by rw[f1,h2.size]),fun x hx=>SW.note_sub s b x hx,by rw[SW.set_len,SW.note_len];exact Nat.le_refl _⟩
      have hsz:(es.push {key:=valD k kd,val:=valD vt vt.dflt,born:=es.size}).size=es.size+1:=by simp
      rw[hsz]
      simp[Instr.mapEntry,run_underlying hu,MapKept.run_getObj_map h1,MapKept.run_checkKey q2 (q3 kd),MapKept.run_findKey q2 f2,zeroValue,typeInfo,q5,q6,MapKept.run_setObj_map _ h1]
     ·have hz:e.val=valD vt (mget k vt kd l):=t1o h2 hvs f1 f2
      have ht:f1m k vt kd l=l:=by
       unfold f1m
       rw[show mhas k vt kd l=true from decide_eq_true f1];rfl
      have hsame:l=l.set (c0w k vt kd l) l[c0w k vt kd l]:=by rw[List.set_getElem_self]
      have hent:=h2.ent _ l[c0w k vt kd l] e (List.getElem?_eq_getElem f1) f2
      have hm:=h2.modify (c0w k vt kd l) (fun e=>{e with key:=valD k kd}) l[c0w k vt kd l] (fun e0 he0=>by
       rw[f2]at he0;cases he0
       exact⟨by simp only[←f3];exact hent.1,hent.2.1,rfl⟩)
      rw[←hsame]at hm
      obtain⟨k1,k2⟩:=hr.setMap hb hj hm
      rw[ht]
      refine⟨r,σ,_,_,RM.le_refl _,Snap.le_refl _,k1,k2,?_,tup e.val e.born hz hent.2.2,fun x hx=>SW.note_sub s b x hx,by rw[SW.set_len,SW.note_len];exact Nat.le_refl _⟩
      rw[p0x]
      have f2':es.toList[c0w k vt kd l]? =some e:=by simpa using f2
      have hkt:(Instr.keyThatStays e.key (valD k kd)).run P w=.ok (valD k kd) w:=by rw[f3];exact MapKept.run_keyThatStays (q3 kd)
      simp[Instr.mapEntry,run_underlying hu,MapKept.run_getObj_map h1,MapKept.run_checkKey q2 (q3 kd),MapKept.run_findKey q2 f4,f2,hkt,MapKept.run_setObj_map _ h1]
   ·cases h
  ·cases h
 ·cases h
theorem p0q (hr:Rel r σ s w){T:TypeId}{x i a:SV}{x' i' a':Value}(hx:VRel r σ x x')(hi:VRel r σ i i')(ha:VRel r σ a a'){v:SV}{s1:SW}(h:(c0q P T x i a s).sel=some (v,s1)):
  v=.undef∧ ∃w1,Rel r σ s1 w1∧Frame s.len s1.log r r σ σ w w1∧(Instr.mapUpdate T x' i' a').run P w=.ok () w1∧s1.len=s.len∧ ∀x,x∈s.log→x∈s1.log:=by
 unfold c0q at h
 split at h
 ·rename_i kt et b hu
  split at h
  ·rename_i k vt l hb
   split at h
   ·rename_i kd ad hc hkd had
    obtain⟨q1,rfl⟩:=g0p hkd
    obtain⟨hvs,rfl⟩:=g0p had
    obtain⟨_,d,q2,q3,q4⟩:=m0l hc
    have hi:=(h0q q1).1 hi
    subst hi
    have ha:=(h0q hvs).1 ha
    subst ha
    cases h
    refine⟨rfl,?_⟩
    cases hx with
    |mapv _ j hj=>
     obtain⟨es,h1,h2⟩:=hr.map b k vt l j hb hj
     rcases h2.find q1 q4 kd with⟨f1,f2⟩|⟨f1,e,f2,f3,f4⟩
     ·have ht:mput k vt kd ad l=l++[mkE k vt kd ad]:=by
       unfold mput
       rw[show mhas k vt kd l=false from decide_eq_false (by omega)];rfl
      obtain⟨k1,k2⟩:=hr.setMap hb hj (h2.push q1 hvs kd ad)
      rw[ht]
      refine⟨_,k1,k2,?_,by rw[SW.set_len,SW.note_len],fun x hx=>SW.note_sub s b x hx⟩
      have hsz:(es.push {key:=valD k kd,val:=valD vt ad,born:=es.size}).size=es.size+1:=by simp
      rw[hsz]
      simp[Instr.mapUpdate,run_underlying hu,MapKept.run_getObj_map h1,MapKept.run_checkKey q2 (q3 kd),MapKept.run_findKey q2 f2,MapKept.run_setObj_map _ h1]
     ·have ht:mput k vt kd ad l=l.set (c0w k vt kd l) (mkE k vt kd ad):=by
       unfold mput
       rw[show mhas k vt kd l=true from decide_eq_true f1];rfl
      obtain⟨k1,k2⟩:=hr.setMap hb hj (h2.modify (c0w k vt kd l) (fun e=>{e with key:=valD k kd,val:=valD vt ad}) (mkE k vt kd ad) (fun e0 he0=>⟨(u0c q1).2 rfl,(u0c hvs).2 rfl,rfl⟩))
      rw[ht]
      refine⟨_,k1,k2,?_,by rw[SW.set_len,SW.note_len],fun x hx=>SW.note_sub s b x hx⟩
      rw[p0x]
      have hkt:(Instr.keyThatStays e.key (valD k kd)).run P w=.ok (valD k kd) w:=by rw[f3];exact MapKept.run_keyThatStays (q3 kd)
      simp[Instr.mapUpdate,run_underlying hu,MapKept.run_getObj_map h1,MapKept.run_checkKey q2 (q3 kd),MapKept.run_findKey q2 f4,f2,hkt,MapKept.run_setObj_map _ h1]
   ·cases h
  ·rename_i k ks es hb
   split at h
   ·rename_i kd hc hkd
    obtain⟨q1,rfl⟩:=g0p hkd
    have hi:=(h0q q1).1 hi
    subst hi
    exact m2k hr hu hb hc hx ha h
   ·cases h
  ·cases h
 ·cases h
theorem d1b (hr:Rel r σ s w){T:TypeId}{x n a:SV}{x' n' a':Value}(hx:VRel r σ x x')(hn:VRel r σ n n')(ha:VRel r σ a a'){v:SV}{s1:SW}(h:(f0e x n a s).sel=some (v,s1)):
  v=.undef∧ ∃w1,Rel r σ s1 w1∧Frame s.len s1.log r r σ σ w w1∧(Instr.entryStore T x' n' a').run P w=.ok () w1∧s1.len=s.len∧ ∀x,x∈s.log→x∈s1.log:=by
 unfold f0e at h
 split at h
 ·rename_i b kn n
  split at h
  ·rename_i kt vt l hb
   split at h
   ·rename_i ad had
    obtain⟨hvs,rfl⟩:=g0p had
    obtain⟨hg,h⟩:=Tree.guard_some h
    cases h
    refine⟨rfl,?_⟩
    obtain⟨g1,g2,g3⟩:=h0e hg
    have ha:=(h0q hvs).1 ha
    subst ha
    cases hn
    cases hx with
    |mapv _ j hj=>
     obtain⟨es,h1,h2⟩:=hr.map b kt vt l j hb hj
     have hlt:n.toNat<es.size:=by rw[h2.size];exact g3
     have hborn: ∀(q:Nat) (e:MapEntry),es[q]? =some e→e.born=q:=fun q e he=>by
      have hq:q<l.length:=by rw[←h2.size];exact(Array.getElem?_eq_some_iff.1 he).1
      exact(h2.ent q l[q] e (List.getElem?_eq_getElem hq) he).2.2
     have hfind:es.findIdx? (fun e=>(e.born:Int)==n)=some n.toNat:=by
      rw[Array.findIdx?_eq_some_iff_getElem]
      refine⟨hlt,?_,fun q hq=> ?_⟩
      ·have:=hborn n.toNat es[n.toNat] (Array.getElem?_eq_getElem hlt)
       rw[this];simp;omega
      ·have:=hborn q es[q] (Array.getElem?_eq_getElem (by omega))
       rw[this];simp;omega
     have hent:=h2.ent n.toNat l[n.toNat] es[n.toNat] (List.getElem?_eq_getElem g3) (Array.getElem?_eq_getElem hlt)
     have hm:=h2.modify n.toNat (fun e=>{e with val:=valD vt ad}) (mkE kt vt (fsE kt vt (l.getD n.toNat (Ty.dflt (.pair kt vt)))) ad) (fun e0 he0=>by
      rw[Array.getElem?_eq_getElem hlt]at he0;cases he0
      have hd:l.getD n.toNat (Ty.dflt (.pair kt vt))=l[n.toNat]:=g0s g3 _
      rw[hd]
      exact⟨hent.1,(u0c hvs).2 rfl,rfl⟩)
     obtain⟨k1,k2⟩:=hr.setMap hb hj hm
     refine⟨_,k1,k2,?_,by rw[SW.set_len,SW.note_len],fun x hx=>SW.note_sub s b x hx⟩
     rw[p0x]
     simp[Instr.entryStore,MapKept.run_getObj_map h1,asInt,asIntOf,hfind,MapKept.run_setObj_map _ h1]
   ·cases h
  ·cases h
 ·cases h
end
end Go.Proofs.Ytoehlcomhpnjgaa.Vx
