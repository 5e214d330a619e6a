import Derived.Test.YtoehlcomhpnjgaaVxMem
namespace Go.Proofs.Ytoehlcomhpnjgaa.Vx
open Go Go.RowKit
set_option linter.unusedVariables false
def RM.setCel (r:RM)(b:Nat)(x:Nat×Nat):RM:={r with cel:=fun b'=>if b'=b then some x else r.cel b'}
def RM.setArr (r:RM)(b g:Nat)(x:ALoc):RM:={r with arr:=fun b' g'=>if b'=b∧g'=g then some x else r.arr b' g'}
def l0y (wd:Nat):ALoc:=⟨none,0,0,wd⟩
theorem SW.blk_push (s:SW)(x:Blk):(s.push x).blk s.len=some x:=by simp[SW.blk,SW.push,SW.len]
theorem SW.blk_push_ne (s:SW)(x:Blk){b:Nat}(h:b≠s.len):(s.push x).blk b=s.blk b:=by
 simp only[SW.blk,SW.push,SW.len]at*
 rcases Nat.lt_or_ge b s.blks.length with k|k
 ·rw[List.getElem?_append_left k]
 ·rw[List.getElem?_append_right k,List.getElem?_eq_none (by simp;omega),List.getElem?_eq_none (by omega)]
theorem SW.len_push (s:SW)(x:Blk):(s.push x).len=s.len+1:=by simp[SW.push,SW.len]
theorem SW.note_blk (s:SW)(b b':Nat):(s.note b).blk b'=s.blk b':=by unfold SW.note;split<;>rfl
theorem SW.note_len (s:SW)(b:Nat):(s.note b).len=s.len:=by unfold SW.note;split<;>rfl
theorem SW.note_mem (s:SW)(b:Nat):b∈(s.note b).log:=by
 unfold SW.note
 split
 ·rename_i h;exact List.contains_iff_mem.1 h
 ·exact List.mem_cons_self
theorem SW.note_sub (s:SW)(b:Nat): ∀x,x∈s.log→x∈(s.note b).log:=by
 intro x h
 unfold SW.note
 split
 ·exact h
 ·exact List.mem_cons_of_mem _ h
theorem SW.set_blk (s:SW)(b:Nat)(x:Blk)(h:b<s.len):(s.setBlk b x).blk b=some x:=by
 simp only[SW.blk,SW.setBlk,SW.len]at*;rw[List.getElem?_set_self h]
theorem SW.set_ne (s:SW)(b:Nat)(x:Blk){b':Nat}(h:b'≠b):(s.setBlk b x).blk b'=s.blk b':=by
 simp only[SW.blk,SW.setBlk];rw[List.getElem?_set_ne (Ne.symm h)]
theorem SW.set_len (s:SW)(b:Nat)(x:Blk):(s.setBlk b x).len=s.len:=by simp[SW.len,SW.setBlk]
section
variable {r:RM} {σ:Snap} {s:SW} {w:World}
theorem Rel.cel_len (h:Rel r σ s w):r.cel s.len=none:=by
 cases e:r.cel s.len with
 |none=>rfl
 |some x=>have:=h.dcel _ _ e;omega
theorem Rel.arr_len (h:Rel r σ s w)(g:Nat):r.arr s.len g=none:=by
 cases e:r.arr s.len g with
 |none=>rfl
 |some x=>have:=h.darr _ _ _ e;omega
theorem Rel.mp_len (h:Rel r σ s w):r.mp s.len=none:=by
 cases e:r.mp s.len with
 |none=>rfl
 |some x=>have:=h.dmp _ _ e;omega
theorem Rel.snap_lt (h:Rel r σ s w){j:Nat}{c:Array Value}(hj:σ j=some c):j<w.heap.size:=by
 obtain⟨T,f,e⟩:=h.snap j c hj;exact(Array.getElem?_eq_some_iff.1 e).1
theorem Rel.log (h:Rel r σ s w){s':SW}(hb:s'.blks=s.blks):Rel r σ s' w:=by
 obtain⟨bl,lg⟩:=s
 obtain⟨bl',lg'⟩:=s'
 simp only at hb;subst hb
 exact⟨h.snap,h.dcel,h.darr,h.dmp,h.inb,h.cel,h.arr,h.frz,h.uniq,h.free,h.gen,h.itr,h.vec,h.vgen,h.map,h.fmap⟩
theorem Rel.drew (h:Rel r σ s w):Rel r σ s {w with drawn:=w.drawn+1}:=
 ⟨h.snap,h.dcel,h.darr,h.dmp,h.inb,h.cel,h.arr,h.frz,h.uniq,h.free,h.gen,h.itr,h.vec,h.vgen,h.map,h.fmap⟩
theorem Rel.later (h:Rel r σ s w){w':World}(hs:w.heap.size≤w'.heap.size)(hk: ∀j,j<w.heap.size→w'.heap[j]? =w.heap[j]?):Rel r σ s w':=by
 refine⟨fun j c hj=> ?_,h.dcel,h.darr,h.dmp,fun b j hj=>Nat.lt_of_lt_of_le (h.inb b j hj) hs,?_,?_,h.frz,h.uniq,h.free,h.gen,?_,?_,h.vgen,?_,?_⟩
 ·obtain⟨T,f,e⟩:=h.snap j c hj;exact⟨T,f,by rw[hk j (h.snap_lt hj)];exact e⟩
 ·intro b es j n he hr
  obtain⟨c,T,f,h1,h2⟩:=h.cel b es j n he hr
  exact⟨c,T,f,by rw[hk j (Array.getElem?_eq_some_iff.1 h1).1];exact h1,h2⟩
 ·intro b t g l x he hr
  refine(h.arr b t g l x he hr).mono (Snap.le_refl _) fun j o hj=>hk j ?_
  exact h.inb b j (.inr (.inl ⟨g,x,o,hr,hj⟩))
 ·intro b t p j he hj
  obtain⟨h1,h2⟩:=h.itr b t p j he hj
  exact⟨h1,by rw[hk j (h.inb b j (.inr (.inr hj)))];exact h2⟩
 ·intro b g es x he hr
  exact(h.vec b g es x he hr).mono (RM.le_refl _) (Snap.le_refl _) fun j o hj=>hk j (h.inb b j (.inr (.inl ⟨g,x,o,hr,hj⟩)))
 ·intro b kt vt l j he hj
  obtain⟨es,h1,h2⟩:=h.map b kt vt l j he hj
  exact⟨es,by rw[hk j (h.inb b j (.inr (.inr hj)))];exact h1,h2⟩
 ·intro b kt ks es j he hj
  obtain⟨ms,h1,h2⟩:=h.fmap b kt ks es j he hj
  exact⟨ms,by rw[hk j (h.inb b j (.inr (.inr hj)))];exact h1,h2⟩
theorem l2z (h:Rel r σ s w)(x:Nat×Nat):r.le (r.setCel s.len x):=by
 refine⟨fun b y hb=> ?_,fun _ _ _ h=>h,fun _ _ h=>h⟩
 simp only[RM.setCel]
 rw[if_neg]
 ·exact hb
 ·rintro rfl;rw[h.cel_len]at hb;cases hb
theorem f0d {b g:Nat}(h:r.arr b g=none)(x:ALoc):r.le (r.setArr b g x):=by
 refine⟨fun _ _ h=>h,fun b' g' y hb=> ?_,fun _ _ h=>h⟩
 simp only[RM.setArr]
 rw[if_neg]
 ·exact hb
 ·rintro⟨rfl,rfl⟩;rw[h]at hb;cases hb
theorem h2e (h:Rel r σ s w){j0 n0:Nat}{b j:Nat}(k:(r.setCel s.len (j0,n0)).at b j):r.at b j∨j=j0:=by
 rcases k with⟨n,k⟩|⟨g,x,o,k1,k2⟩|k
 ·simp only[RM.setCel]at k
  split at k
  ·cases k;exact .inr rfl
  ·exact .inl (.inl ⟨n,k⟩)
 ·exact .inl (.inr (.inl ⟨g,x,o,k1,k2⟩))
 ·exact .inl (.inr (.inr k))
theorem c0t {b0 g0:Nat}{x0:ALoc}{b j:Nat}(k:(r.setArr b0 g0 x0).at b j):r.at b j∨(b=b0∧ ∃o,x0.a=some (j,o)):=by
 rcases k with⟨n,k⟩|⟨g,x,o,k1,k2⟩|k
 ·exact .inl (.inl ⟨n,k⟩)
 ·simp only[RM.setArr]at k1
  split at k1
  ·rename_i e;cases k1;exact .inr ⟨e.1,o,k2⟩
  ·exact .inl (.inr (.inl ⟨g,x,o,k1,k2⟩))
 ·exact .inl (.inr (.inr k))
theorem s1n {b0:Nat}{x0:Nat×Nat}{b:Nat}(h:b≠b0):(r.setCel b0 x0).cel b=r.cel b∧(∀g,(r.setCel b0 x0).arr b g=r.arr b g)∧(r.setCel b0 x0).mp b=r.mp b:=
 ⟨if_neg h,fun _=>rfl,rfl⟩
theorem c0l {b0 g0:Nat}{x0:ALoc}{b:Nat}(h:b≠b0):(r.setArr b0 g0 x0).cel b=r.cel b∧(∀g,(r.setArr b0 g0 x0).arr b g=r.arr b g)∧(r.setArr b0 g0 x0).mp b=r.mp b:=
 ⟨rfl,fun g=>if_neg fun e=>h e.1,rfl⟩
theorem Rel.newCells (h:Rel r σ s w){es:List SV}{c:Array Value}(T:TypeId)(hw:esW es=c.size)(he:ERel r σ es (fun k=>c[k]?) 0):
  Rel (r.setCel s.len (w.heap.size,0)) σ (s.push (.cells es)) (w.alloc (.cells c T))∧r.le (r.setCel s.len (w.heap.size,0))∧
  Frame s.len s.log r (r.setCel s.len (w.heap.size,0)) σ σ w (w.alloc (.cells c T)):=by
 have hle:=l2z h (w.heap.size,0)
 have hat: ∀b j,(r.setCel s.len (w.heap.size,0)).at b j→r.at b j∨j=w.heap.size:=fun b j k=>h2e h k
 refine⟨h.change (b:=s.len) (x:=.cells es) ?_ (SW.blk_push _ _) (fun b' e=>SW.blk_push_ne _ _ e) (by rw[SW.len_push];omega),hle,?_⟩
 ·refine⟨hle,Snap.le_refl _,fun b' p e k=> ?_,fun _ _ _ _ k=>k,fun _ _ _ k=>k,by simp,fun j hj _=> ?_,fun j hj=> ?_,?_,fun j hj=>(hat _ _ hj).imp id (by rintro rfl;exact Nat.le_refl _),fun j c' hj=>.inl hj,?_,?_,?_,?_⟩
  ·simpa [RM.setCel,e]using k
  ·exact Below.heap_alloc _ _ _ hj
  ·rcases hat _ _ hj with q|rfl
   ·have:=h.inb _ _ q;simp;omega
   ·simp
  ·rintro j ⟨n,hn⟩
   simp only[RM.setCel,if_true]at hn
   cases hn;exact .inr (Nat.le_refl _)
  ·intro es' j n e hn
   cases e
   simp only[RM.setCel,if_true]at hn
   cases hn
   refine⟨c,T,(0,0),by show(w.heap.push _)[w.heap.size]? =_;simp,.inl rfl,by omega,he.mono hle (Snap.le_refl _)⟩
  ·intro t g l p e;cases e
  ·intro t g l p e;cases e
  ·intro t g l g' e;cases e
 ·refine⟨rfl,rfl,rfl,by simp,fun b j k=> ?_,fun j hj _=>Below.heap_alloc _ _ _ hj,fun b hb _=>s1n (by omega),.refl⟩
  rcases hat b j k with q|rfl
  ·exact .inl q
  ·exact .inr (Nat.le_refl _)
theorem Rel.newArr (h:Rel r σ s w){t:Ty}{l:List t.den}{c:Array Value}(T:TypeId)(f:Nat×Nat)(cap:Nat)(hf:d0f c f)(hcap:l.length≤cap)(hc:cap*t.width≤c.size)
  (hr: ∀i (hi:i<l.length),RD σ t (fun k=>c[k]?) (i*t.width) l[i]) {w':World} (hw:w'.heap=w.heap.push (.cells c T f)) (e1:w'.os=w.os) (e2:w'.tape=w.tape) (e3:w'.output=w.output):
  Rel (r.setArr s.len 0 ⟨some (w.heap.size,0),l.length,cap,t.width⟩) σ (s.push (.arr t 0 l)) w'∧r.le (r.setArr s.len 0 ⟨some (w.heap.size,0),l.length,cap,t.width⟩)∧
  Frame s.len s.log r (r.setArr s.len 0 ⟨some (w.heap.size,0),l.length,cap,t.width⟩) σ σ w w':=by
 have hle:r.le (r.setArr s.len 0 ⟨some (w.heap.size,0),l.length,cap,t.width⟩):=f0d (h.arr_len 0) _
 have hat: ∀b j,(r.setArr s.len 0 ⟨some (w.heap.size,0),l.length,cap,t.width⟩).at b j→r.at b j∨j=w.heap.size:=fun b j k=>by
  rcases c0t k with q|⟨_,o,q⟩
  ·exact .inl q
  ·cases q;exact .inr rfl
 have hold: ∀j,j<w.heap.size→w'.heap[j]? =w.heap[j]? :=fun j hj=>by rw[hw,Array.getElem?_push,if_neg (by omega)]
 refine⟨h.change (b:=s.len) (x:=.arr t 0 l) ?_ (SW.blk_push _ _) (fun b' e=>SW.blk_push_ne _ _ e) (by rw[SW.len_push];omega),hle,?_⟩
 ·refine⟨hle,Snap.le_refl _,fun _ _ _ k=>k,fun b' g p e k=> ?_,fun _ _ _ k=>k,by rw[hw];simp,fun j hj _=>hold j hj,fun j hj=> ?_,?_,fun j hj=>(hat _ _ hj).imp id (by rintro rfl;exact Nat.le_refl _),fun j c' hj=>.inl hj,?_,?_,?_,?_⟩
  ·simpa [RM.setArr,e]using k
  ·rcases hat _ _ hj with q|rfl
   ·have:=h.inb _ _ q;rw[hw];simp;omega
   ·rw[hw];simp
  ·rintro j ⟨x,o,hx,hj⟩
   simp only[RM.setArr,and_self,if_true]at hx
   cases hx;cases hj;exact .inr (Nat.le_refl _)
  ·intro es' j n e;cases e
  ·intro t' g l' p e hp
   cases e
   simp only[RM.setArr,and_self,if_true]at hp
   cases hp
   refine⟨rfl,rfl,hcap,(fun e=>by cases e),fun j o e=> ?_⟩
   cases e
   exact⟨c,T,f,by rw[hw];simp,hf,by simpa using hc,fun i hi=>by simpa using hr i hi⟩
  ·intro t g l p e;cases e
  ·intro t' g l' g' e hg
   cases e
   simp only[RM.setArr]
   rw[if_neg (by omega)]
   exact h.arr_len _
 ·refine⟨e1,e2,e3,by rw[hw];simp,fun b j k=> ?_,fun j hj _=>hold j hj,fun b hb _=>c0l (by omega),.refl⟩
  rcases hat b j k with q|rfl
  ·exact .inl q
  ·exact .inr (Nat.le_refl _)
theorem Rel.newNil (h:Rel r σ s w)(t:Ty):Rel (r.setArr s.len 0 (l0y t.width)) σ (s.push (.arr t 0 [])) w∧r.le (r.setArr s.len 0 (l0y t.width))∧Frame s.len s.log r (r.setArr s.len 0 (l0y t.width)) σ σ w w:=by
 have hle:r.le (r.setArr s.len 0 (l0y t.width)):=f0d (h.arr_len 0) _
 have hat: ∀b j,(r.setArr s.len 0 (l0y t.width)).at b j→r.at b j:=fun b j k=>by
  rcases c0t k with q|⟨_,o,q⟩
  ·exact q
  ·cases q
 refine⟨h.change (b:=s.len) (x:=.arr t 0 []) ?_ (SW.blk_push _ _) (fun b' e=>SW.blk_push_ne _ _ e) (by rw[SW.len_push];omega),hle,?_⟩
 ·refine⟨hle,Snap.le_refl _,fun _ _ _ k=>k,fun b' g p e k=> ?_,fun _ _ _ k=>k,Nat.le_refl _,fun j hj _=>rfl,fun j hj=>h.inb _ _ (hat _ _ hj),?_,fun j hj=>.inl (hat _ _ hj),fun j c' hj=>.inl hj,?_,?_,?_,?_⟩
  ·simpa [RM.setArr,e]using k
  ·rintro j ⟨x,o,hx,hj⟩
   simp only[RM.setArr,and_self,if_true]at hx
   cases hx;cases hj
  ·intro es' j n e;cases e
  ·intro t' g l' p e hp
   cases e
   simp only[RM.setArr,and_self,if_true]at hp
   cases hp
   exact⟨rfl,rfl,Nat.le_refl _,fun _=>rfl,fun j o e=>by cases e⟩
  ·intro t g l p e;cases e
  ·intro t' g l' g' e hg
   cases e
   simp only[RM.setArr]
   rw[if_neg (by omega)]
   exact h.arr_len _
 ·exact⟨rfl,rfl,rfl,Nat.le_refl _,fun b j k=>.inl (hat b j k),fun _ _ _=>rfl,fun b hb _=>c0l (by omega),.refl⟩
theorem Rel.setCells (h:Rel r σ s w){b j n:Nat}{a x e:List SV}(hb:s.blk b=some (.cells (a++(x++e))))(hr:r.cel b=some (j,n)){y:List SV}{l:List Value}(hy:esW y=esW x)
  (hl:l.length=esW x) (he:ERel r σ y (fun k=>l[k]?) 0):
  Rel r σ ((s.note b).setBlk b (.cells (a++(y++e)))) (w.setCells j (n+esW a) l)∧Frame s.len (s.note b).log r r σ σ w (w.setCells j (n+esW a) l)∧
  ∃c T f,w.heap[j]? =some (.cells c T f)∧d0f c f∧n+esW a+l.length≤c.size:=by
 obtain⟨c,T,f,h1,h2,h3,h4⟩:=h.cel b _ j n hb hr
 simp only[a0t]at h3
 obtain⟨a1,a2,a3,a4,a5,a6⟩:=d0d h1 (n+esW a) l
 have hbl:b<s.len:=(List.getElem?_eq_some_iff.1 hb).1
 refine⟨?_,?_,c,T,f,h1,h2,by omega⟩
 ·refine h.change (b:=b) (x:=.cells (a++(y++e))) ?_ (by rw[SW.set_blk _ _ _ (by rw[SW.note_len];exact hbl)]) (fun b' e'=>by rw[SW.set_ne _ _ _ e',SW.note_blk]) (by rw[SW.set_len,SW.note_len];exact Nat.le_refl _)
  have live: ∀j',r.live (s.blk b) b j'↔j'=j:=by
   intro j'
   rw[hb]
   simp only[RM.live,hr,Option.some.injEq,Prod.mk.injEq]
   exact⟨fun⟨n',e',_⟩=>e'.symm,fun e'=>⟨n,e'.symm,rfl⟩⟩
  refine⟨RM.le_refl _,Snap.le_refl _,fun _ _ _ k=>k,fun _ _ _ _ k=>k,fun _ _ _ k=>k,by rw[a3];exact Nat.le_refl _,fun j' hj hn=>a2 j' fun e'=>hn ((live j').2 e'),fun j' hj=>by rw[a3];exact h.inb _ _ hj,fun j' hj=>.inl ?_,fun j' hj=>.inl hj,fun j' c' hj=>.inl hj,?_,?_,?_,?_⟩
  ·rw[hb];exact hj
  ·intro es j' n' e' hn
   cases e'
   rw[hr]at hn;cases hn
   refine⟨_,T,f,a1,h2.patch,by rw[a0z,a0t,a0t];omega,?_⟩
   refine ERel.append (h4.left.congr fun k hk=>b0b (.inl (by omega))) (ERel.append (he.congr fun k hk=> ?_) ?_)
   ·rw[b0t (by omega) (by omega),Nat.zero_add]
   ·rw[hy]
    exact h4.right.right.congr fun k hk=>b0b (.inr (by omega))
  ·intro t g l p e';cases e'
  ·intro t g l p e';cases e'
  ·intro t g l g' e';cases e'
 ·have hat:r.at b j:=.inl ⟨n,hr⟩
  refine⟨a4,a5,a6,by rw[a3];exact Nat.le_refl _,fun _ _ h=>.inl h,fun j' hj' hn=> ?_,fun _ _ _=>⟨rfl,fun _=>rfl,rfl⟩,.refl⟩
  exact a2 j' fun e'=>by subst e';exact hn b (SW.note_mem _ _) hat
theorem Rel.putCells (h:Rel r σ s w){b j n:Nat}{es es':List SV}(hb:s.blk b=some (.cells es))(hr:r.cel b=some (j,n)){q:Nat}{l:List Value}(hq:q+l.length≤esW es)(hes:esW es'=esW es)
  (hnew: ∀c c0:Array Value,(∀k,k<l.length→c[n+q+k]? =l[k]?)→(∀k,k<n+q∨n+q+l.length≤k→c[k]? =c0[k]?)→ERel r σ es (fun k=>c0[k]?) n→ERel r σ es' (fun k=>c[k]?) n):
  Rel r σ ((s.note b).setBlk b (.cells es')) (w.setCells j (n+q) l)∧Frame s.len (s.note b).log r r σ σ w (w.setCells j (n+q) l)∧
  ∃c T f,w.heap[j]? =some (.cells c T f)∧d0f c f∧n+q+l.length≤c.size:=by
 obtain⟨c,T,f,h1,h2,h3,h4⟩:=h.cel b _ j n hb hr
 obtain⟨a1,a2,a3,a4,a5,a6⟩:=d0d h1 (n+q) l
 have hbl:b<s.len:=(List.getElem?_eq_some_iff.1 hb).1
 refine⟨?_,?_,c,T,f,h1,h2,by omega⟩
 ·refine h.change (b:=b) (x:=.cells es') ?_ (by rw[SW.set_blk _ _ _ (by rw[SW.note_len];exact hbl)]) (fun b' e'=>by rw[SW.set_ne _ _ _ e',SW.note_blk]) (by rw[SW.set_len,SW.note_len];exact Nat.le_refl _)
  have live: ∀j',r.live (s.blk b) b j'↔j'=j:=by
   intro j'
   rw[hb]
   simp only[RM.live,hr,Option.some.injEq,Prod.mk.injEq]
   exact⟨fun⟨n',e',_⟩=>e'.symm,fun e'=>⟨n,e'.symm,rfl⟩⟩
  refine⟨RM.le_refl _,Snap.le_refl _,fun _ _ _ k=>k,fun _ _ _ _ k=>k,fun _ _ _ k=>k,by rw[a3];exact Nat.le_refl _,fun j' hj hn=>a2 j' fun e'=>hn ((live j').2 e'),fun j' hj=>by rw[a3];exact h.inb _ _ hj,fun j' hj=>.inl ?_,fun j' hj=>.inl hj,fun j' c' hj=>.inl hj,?_,?_,?_,?_⟩
  ·rw[hb];exact hj
  ·intro es2 j' n' e' hn
   cases e'
   rw[hr]at hn;cases hn
   exact⟨_,T,f,a1,h2.patch,by rw[a0z];omega,hnew _ c (fun k hk=>b0t (by omega) hk) (fun k hk=>b0b (by omega)) h4⟩
  ·intro t g l p e';cases e'
  ·intro t g l p e';cases e'
  ·intro t g l g' e';cases e'
 ·have hat:r.at b j:=.inl ⟨n,hr⟩
  refine⟨a4,a5,a6,by rw[a3];exact Nat.le_refl _,fun _ _ h=>.inl h,fun j' hj' hn=> ?_,fun _ _ _=>⟨rfl,fun _=>rfl,rfl⟩,.refl⟩
  exact a2 j' fun e'=>by subst e';exact hn b (SW.note_mem _ _) hat
theorem Rel.setArr (h:Rel r σ s w){b g j o:Nat}{t:Ty}{l l':List t.den}{x:ALoc}(hb:s.blk b=some (.arr t g l))(hr:r.arr b g=some x)(hx:x.a=some (j,o))(hlen:l'.length=l.length)
  {k:Nat} {vs:List Value} (hk:k+vs.length≤x.cap*x.wd)
  (hrow: ∀c:Array Value,(∀q,q<vs.length→c[o+k+q]? =vs[q]?)→(∀i (hi:i<l.length),∀c0:Array Value,(∀q,q<o+k∨o+k+vs.length≤q→c[q]? =c0[q]?)→(∀i (hi:i<l.length),RD σ t (fun k=>c0[k]?) (o+i*t.width) l[i])→RD σ t (fun k=>c[k]?) (o+i*t.width) (l'[i]'(by omega)))):
  Rel r σ ((s.note b).setBlk b (.arr t g l')) (w.setCells j (o+k) vs)∧Frame s.len (s.note b).log r r σ σ w (w.setCells j (o+k) vs)∧
  ∃c T f,w.heap[j]? =some (.cells c T f)∧d0f c f∧o+k+vs.length≤c.size:=by
 have hrw:=h.arr b t g l x hb hr
 obtain⟨c,T,f,h1,h2,h3,h4⟩:=hrw.row j o hx
 obtain⟨a1,a2,a3,a4,a5,a6⟩:=d0d h1 (o+k) vs
 have hbl:b<s.len:=(List.getElem?_eq_some_iff.1 hb).1
 refine⟨?_,?_,c,T,f,h1,h2,by omega⟩
 ·refine h.change (b:=b) (x:=.arr t g l') ?_ (by rw[SW.set_blk _ _ _ (by rw[SW.note_len];exact hbl)]) (fun b' e'=>by rw[SW.set_ne _ _ _ e',SW.note_blk]) (by rw[SW.set_len,SW.note_len];exact Nat.le_refl _)
  have live: ∀j',r.live (s.blk b) b j'↔j'=j:=by
   intro j'
   rw[hb]
   simp only[RM.live,hr,Option.some.injEq]
   exact⟨fun⟨p,o',e1,e2⟩=>by subst e1;rw[hx]at e2;cases e2;rfl,fun e'=>⟨x,o,rfl,by rw[hx,e']⟩⟩
  refine⟨RM.le_refl _,Snap.le_refl _,fun _ _ _ k=>k,fun _ _ _ _ k=>k,fun _ _ _ k=>k,by rw[a3];exact Nat.le_refl _,fun j' hj hn=>a2 j' fun e'=>hn ((live j').2 e'),fun j' hj=>by rw[a3];exact h.inb _ _ hj,fun j' hj=>.inl ?_,fun j' hj=>.inl hj,fun j' c' hj=>.inl hj,?_,?_,?_,?_⟩
  ·rw[hb];exact hj
  ·intro es j' n' e';cases e'
  ·intro t' g' l'' p e' hp
   cases e'
   rw[hr]at hp;cases hp
   refine⟨hrw.wd,by rw[hlen];exact hrw.len,hrw.cap,hrw.nil,fun j' o' e=> ?_⟩
   rw[hx]at e;cases e
   refine⟨_,T,f,a1,h2.patch,by rw[a0z];exact h3,fun i hi=> ?_⟩
   exact hrow _ (fun q hq=>b0t (by omega) hq) i (by omega) c (fun q hq=>b0b (by omega)) h4
  ·intro t g l p e';cases e'
  ·intro t' g' l'' g2 e' hg
   cases e'
   exact h.gen b _ _ _ _ hb hg
 ·have hat:r.at b j:=.inr (.inl ⟨g,x,o,hr,hx⟩)
  refine⟨a4,a5,a6,by rw[a3];exact Nat.le_refl _,fun _ _ h=>.inl h,fun j' hj' hn=> ?_,fun _ _ _=>⟨rfl,fun _=>rfl,rfl⟩,.refl⟩
  exact a2 j' fun e'=>by subst e';exact hn b (SW.note_mem _ _) hat
theorem Rel.grow (h:Rel r σ s w){b g:Nat}{t:Ty}{l l':List t.den}{x x':ALoc}(hb:s.blk b=some (.arr t g l))(hr:r.arr b g=some x){w':World}
  (hrow:ARow σ t l' x' w'.heap) (hs:w.heap.size≤w'.heap.size) (hin: ∀j o,x'.a=some (j,o)→j<w'.heap.size∧((∃o',x.a=some (j,o'))∨w.heap.size≤j))
  (hk: ∀j,j<w.heap.size→(∀o,x.a≠some (j,o))→w'.heap[j]? =w.heap[j]?) (e1:w'.os=w.os) (e2:w'.tape=w.tape) (e3:w'.output=w.output):
  Rel (r.setArr b (g+1) x') σ ((s.note b).setBlk b (.arr t (g+1) l')) w'∧r.le (r.setArr b (g+1) x')∧Frame s.len (s.note b).log r (r.setArr b (g+1) x') σ σ w w':=by
 have hle:r.le (r.setArr b (g+1) x'):=f0d (h.gen b t g l (g+1) hb (by omega)) _
 have hbl:b<s.len:=(List.getElem?_eq_some_iff.1 hb).1
 have live: ∀j',r.live (s.blk b) b j'↔ ∃o,x.a=some (j',o):=by
  intro j'
  rw[hb]
  simp only[RM.live,hr,Option.some.injEq]
  exact⟨fun⟨p,o',e1,e2⟩=>by subst e1;exact⟨o',e2⟩,fun⟨o',e'⟩=>⟨x,o',rfl,e'⟩⟩
 have hat: ∀b' j,(r.setArr b (g+1) x').at b' j→r.at b' j∨w.heap.size≤j:=by
  intro b' j hj
  rcases c0t hj with q|⟨rfl,o,q⟩
  ·exact .inl q
  ·rcases(hin j o q).2 with⟨o',u⟩|u
   ·exact .inl (.inr (.inl ⟨g,x,o',hr,u⟩))
   ·exact .inr u
 refine⟨?_,hle,?_⟩
 ·refine h.change (b:=b) (x:=.arr t (g+1) l') ?_ (by rw[SW.set_blk _ _ _ (by rw[SW.note_len];exact hbl)]) (fun b' e'=>by rw[SW.set_ne _ _ _ e',SW.note_blk]) (by rw[SW.set_len,SW.note_len];exact Nat.le_refl _)
  refine⟨hle,Snap.le_refl _,fun _ _ _ k=>k,fun b' g' p e k=> ?_,fun _ _ _ k=>k,hs,fun j' hj hn=>hk j' hj fun o e'=>hn ((live j').2 ⟨o,e'⟩),fun j' hj=> ?_,fun j' hj=> ?_,fun j' hj=>hat _ _ hj,fun j' c' hj=>.inl hj,?_,?_,?_,?_⟩
  ·simpa [RM.setArr,e]using k
  ·rcases c0t hj with q|⟨_,o,q⟩
   ·have:=h.inb _ _ q;omega
   ·exact(hin _ _ q).1
  ·obtain⟨p,o,hp,ho⟩:=hj
   simp only[RM.setArr,and_self,if_true]at hp
   cases hp
   rcases(hin _ _ ho).2 with⟨o',u⟩|u
   ·exact .inl ((live j').2 ⟨o',u⟩)
   ·exact .inr u
  ·intro es j' n' e';cases e'
  ·intro t' g' l'' p e' hp
   cases e'
   simp only[RM.setArr,and_self,if_true]at hp
   cases hp
   exact hrow
  ·intro t g l p e';cases e'
  ·intro t' g' l'' g2 e' hg
   cases e'
   simp only[RM.setArr]
   rw[if_neg (by omega)]
   exact h.gen b _ _ _ _ hb (by omega)
 ·refine⟨e1,e2,e3,hs,hat,fun j' hj' hn=>hk j' hj' fun o e'=>hn b (SW.note_mem _ _) (.inr (.inl ⟨g,x,o,hr,e'⟩)),fun b' _ hn=>c0l fun e=>hn (e▸SW.note_mem _ _),.refl⟩
theorem Rel.newVec (h:Rel r σ s w){es:List SV}{c:Array Value}(T:TypeId)(f:Nat×Nat)(cap:Nat)(hf:d0f c f)(hcap:esW es≤cap)(hc:cap≤c.size)
  (hr:ERel r σ es (fun k=>c[k]?) 0) {w':World} (hw:w'.heap=w.heap.push (.cells c T f)) (e1:w'.os=w.os) (e2:w'.tape=w.tape) (e3:w'.output=w.output):
  Rel (r.setArr s.len 0 ⟨some (w.heap.size,0),esW es,cap,1⟩) σ (s.push (.vec 0 es)) w'∧r.le (r.setArr s.len 0 ⟨some (w.heap.size,0),esW es,cap,1⟩)∧
  Frame s.len s.log r (r.setArr s.len 0 ⟨some (w.heap.size,0),esW es,cap,1⟩) σ σ w w':=by
 have hle:r.le (r.setArr s.len 0 ⟨some (w.heap.size,0),esW es,cap,1⟩):=f0d (h.arr_len 0) _
 have hat: ∀b j,(r.setArr s.len 0 ⟨some (w.heap.size,0),esW es,cap,1⟩).at b j→r.at b j∨j=w.heap.size:=fun b j k=>by
  rcases c0t k with q|⟨_,o,q⟩
  ·exact .inl q
  ·cases q;exact .inr rfl
 have hold: ∀j,j<w.heap.size→w'.heap[j]? =w.heap[j]? :=fun j hj=>by rw[hw,Array.getElem?_push,if_neg (by omega)]
 refine⟨h.change (b:=s.len) (x:=.vec 0 es) ?_ (SW.blk_push _ _) (fun b' e=>SW.blk_push_ne _ _ e) (by rw[SW.len_push];omega) (by intro t p j e;cases e) ?_,hle,?_⟩
 ·refine⟨hle,Snap.le_refl _,fun _ _ _ k=>k,fun b' g p e k=> ?_,fun _ _ _ k=>k,by rw[hw];simp,fun j hj _=>hold j hj,fun j hj=> ?_,?_,fun j hj=>(hat _ _ hj).imp id (by rintro rfl;exact Nat.le_refl _),fun j c' hj=>.inl hj,?_,?_,?_,?_⟩
  ·simpa [RM.setArr,e]using k
  ·rcases hat _ _ hj with q|rfl
   ·have:=h.inb _ _ q;rw[hw];simp;omega
   ·rw[hw];simp
  ·rintro j ⟨x,o,hx,hj⟩
   simp only[RM.setArr,and_self,if_true]at hx
   cases hx;cases hj;exact .inr (Nat.le_refl _)
  ·intro es' j n e;cases e
  ·intro t g l p e;cases e
  ·intro t g l p e;cases e
  ·intro t g l g' e;cases e
 ·intro g es' e
  cases e
  refine⟨fun p hp=> ?_,fun g' hg=> ?_⟩
  ·simp only[RM.setArr,and_self,if_true]at hp
   cases hp
   refine⟨rfl,rfl,hcap,(fun e=>by cases e),fun j o e=> ?_⟩
   cases e
   exact⟨c,T,f,by rw[hw];simp,hf,by simpa using hc,hr.mono hle (Snap.le_refl _)⟩
  ·simp only[RM.setArr]
   rw[if_neg (by omega)]
   exact h.arr_len _
 ·refine⟨e1,e2,e3,by rw[hw];simp,fun b j k=> ?_,fun j hj _=>hold j hj,fun b hb _=>c0l (by omega),.refl⟩
  rcases hat b j k with q|rfl
  ·exact .inl q
  ·exact .inr (Nat.le_refl _)
theorem Rel.setVec (h:Rel r σ s w){b g j o:Nat}{a x e:List SV}{p:ALoc}(hb:s.blk b=some (.vec g (a++(x++e))))(hr:r.arr b g=some p)(hp:p.a=some (j,o)){y:List SV}{l:List Value}(hy:esW y=esW x)
  (hl:l.length=esW x) (he:ERel r σ y (fun k=>l[k]?) 0):
  Rel r σ ((s.note b).setBlk b (.vec g (a++(y++e)))) (w.setCells j (o+esW a) l)∧Frame s.len (s.note b).log r r σ σ w (w.setCells j (o+esW a) l)∧
  ∃c T f,w.heap[j]? =some (.cells c T f)∧d0f c f∧o+esW a+l.length≤c.size:=by
 have hrw:=h.vec b g _ p hb hr
 obtain⟨c,T,f,h1,h2,h3,h4⟩:=hrw.row j o hp
 have hlen:=hrw.len
 have hcap:=hrw.cap
 simp only[a0t]at hlen
 obtain⟨a1,a2,a3,a4,a5,a6⟩:=d0d h1 (o+esW a) l
 have hbl:b<s.len:=(List.getElem?_eq_some_iff.1 hb).1
 refine⟨?_,?_,c,T,f,h1,h2,by omega⟩
 ·refine h.change (b:=b) (x:=.vec g (a++(y++e))) ?_ (by rw[SW.set_blk _ _ _ (by rw[SW.note_len];exact hbl)]) (fun b' e'=>by rw[SW.set_ne _ _ _ e',SW.note_blk]) (by rw[SW.set_len,SW.note_len];exact Nat.le_refl _) (by intro t p j e;cases e) ?_
  have live: ∀j',r.live (s.blk b) b j'↔j'=j:=by
   intro j'
   rw[hb]
   simp only[RM.live,hr,Option.some.injEq]
   exact⟨fun⟨p',o',e1,e2⟩=>by subst e1;rw[hp]at e2;cases e2;rfl,fun e'=>⟨p,o,rfl,by rw[hp,e']⟩⟩
  ·refine⟨RM.le_refl _,Snap.le_refl _,fun _ _ _ k=>k,fun _ _ _ _ k=>k,fun _ _ _ k=>k,by rw[a3];exact Nat.le_refl _,fun j' hj hn=>a2 j' fun e'=>hn ((live j').2 e'),fun j' hj=>by rw[a3];exact h.inb _ _ hj,fun j' hj=>.inl ?_,fun j' hj=>.inl hj,fun j' c' hj=>.inl hj,?_,?_,?_,?_⟩
   ·rw[hb];exact hj
   ·intro es j' n' e';cases e'
   ·intro t g l p e';cases e'
   ·intro t g l p e';cases e'
   ·intro t g l g' e';cases e'
  ·intro g' es' e'
   cases e'
   refine⟨fun p' hp'=> ?_,fun g' hg=>h.vgen b _ _ _ hb hg⟩
   rw[hr]at hp';cases hp'
   refine⟨hrw.wd,by simp only[a0t];omega,hrw.cap,hrw.nil,fun j' o' e'=> ?_⟩
   rw[hp]at e';cases e'
   refine⟨_,T,f,a1,h2.patch,by rw[a0z];exact h3,?_⟩
   refine ERel.append (h4.left.congr fun k hk=>b0b (.inl (by omega))) (ERel.append (he.congr fun k hk=> ?_) ?_)
   ·rw[b0t (by omega) (by omega),Nat.zero_add]
   ·rw[hy]
    exact h4.right.right.congr fun k hk=>b0b (.inr (by omega))
 ·have hat:r.at b j:=.inr (.inl ⟨g,p,o,hr,hp⟩)
  refine⟨a4,a5,a6,by rw[a3];exact Nat.le_refl _,fun _ _ h=>.inl h,fun j' hj' hn=> ?_,fun _ _ _=>⟨rfl,fun _=>rfl,rfl⟩,.refl⟩
  exact a2 j' fun e'=>by subst e';exact hn b (SW.note_mem _ _) hat
theorem Rel.growVec (h:Rel r σ s w){b g:Nat}{es es':List SV}{x x':ALoc}(hb:s.blk b=some (.vec g es))(hr:r.arr b g=some x){w':World}
  (hrow:VRow r σ es' x' w'.heap) (hs:w.heap.size≤w'.heap.size) (hin: ∀j o,x'.a=some (j,o)→j<w'.heap.size∧((∃o',x.a=some (j,o'))∨w.heap.size≤j))
  (hk: ∀j,j<w.heap.size→(∀o,x.a≠some (j,o))→w'.heap[j]? =w.heap[j]?) (e1:w'.os=w.os) (e2:w'.tape=w.tape) (e3:w'.output=w.output):
  Rel (r.setArr b (g+1) x') σ ((s.note b).setBlk b (.vec (g+1) es')) w'∧r.le (r.setArr b (g+1) x')∧Frame s.len (s.note b).log r (r.setArr b (g+1) x') σ σ w w':=by
 have hle:r.le (r.setArr b (g+1) x'):=f0d (h.vgen b g es (g+1) hb (by omega)) _
 have hbl:b<s.len:=(List.getElem?_eq_some_iff.1 hb).1
 have live: ∀j',r.live (s.blk b) b j'↔ ∃o,x.a=some (j',o):=by
  intro j'
  rw[hb]
  simp only[RM.live,hr,Option.some.injEq]
  exact⟨fun⟨p,o',e1,e2⟩=>by subst e1;exact⟨o',e2⟩,fun⟨o',e'⟩=>⟨x,o',rfl,e'⟩⟩
 have hat: ∀b' j,(r.setArr b (g+1) x').at b' j→r.at b' j∨w.heap.size≤j:=by
  intro b' j hj
  rcases c0t hj with q|⟨rfl,o,q⟩
  ·exact .inl q
  ·rcases(hin j o q).2 with⟨o',u⟩|u
   ·exact .inl (.inr (.inl ⟨g,x,o',hr,u⟩))
   ·exact .inr u
 refine⟨?_,hle,?_⟩
 ·refine h.change (b:=b) (x:=.vec (g+1) es') ?_ (by rw[SW.set_blk _ _ _ (by rw[SW.note_len];exact hbl)]) (fun b' e'=>by rw[SW.set_ne _ _ _ e',SW.note_blk]) (by rw[SW.set_len,SW.note_len];exact Nat.le_refl _) (by intro t p j e;cases e) ?_
  ·refine⟨hle,Snap.le_refl _,fun _ _ _ k=>k,fun b' g' p e k=> ?_,fun _ _ _ k=>k,hs,fun j' hj hn=>hk j' hj fun o e'=>hn ((live j').2 ⟨o,e'⟩),fun j' hj=> ?_,fun j' hj=> ?_,fun j' hj=>hat _ _ hj,fun j' c' hj=>.inl hj,?_,?_,?_,?_⟩
   ·simpa [RM.setArr,e]using k
   ·rcases c0t hj with q|⟨_,o,q⟩
    ·have:=h.inb _ _ q;omega
    ·exact(hin _ _ q).1
   ·obtain⟨p,o,hp,ho⟩:=hj
    simp only[RM.setArr,and_self,if_true]at hp
    cases hp
    rcases(hin _ _ ho).2 with⟨o',u⟩|u
    ·exact .inl ((live j').2 ⟨o',u⟩)
    ·exact .inr u
   ·intro es j' n' e';cases e'
   ·intro t g l p e';cases e'
   ·intro t g l p e';cases e'
   ·intro t g l g' e';cases e'
  ·intro g' es'' e'
   cases e'
   refine⟨fun p hp=> ?_,fun g2 hg=> ?_⟩
   ·simp only[RM.setArr,and_self,if_true]at hp
    cases hp
    exact hrow.mono hle (Snap.le_refl _) fun _ _ _=>rfl
   ·simp only[RM.setArr]
    rw[if_neg (by omega)]
    exact h.vgen b _ _ _ hb (by omega)
 ·refine⟨e1,e2,e3,hs,hat,fun j' hj' hn=>hk j' hj' fun o e'=>hn b (SW.note_mem _ _) (.inr (.inl ⟨g,x,o,hr,e'⟩)),fun b' _ hn=>c0l fun e=>hn (e▸SW.note_mem _ _),.refl⟩
end
end Go.Proofs.Ytoehlcomhpnjgaa.Vx
