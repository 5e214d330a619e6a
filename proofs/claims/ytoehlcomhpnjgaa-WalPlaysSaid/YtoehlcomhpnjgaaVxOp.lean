import Derived.Test.YtoehlcomhpnjgaaVxMap
namespace Go.Proofs.Ytoehlcomhpnjgaa.Vx
open Go Go.RowKit
set_option linter.unusedVariables false
section
variable {P:Program} {r:RM} {σ:Snap} {s:SW} {w:World}
theorem a1r {t:List SV}{t':Array Value}(h:LRel r σ t t')(x:Operand):VRel r σ (evT P t x) ((Act.mk t' []).eval x):=by
 cases x with
 |tmp k=>exact h.getD k
 |const v=>
  show VRel r σ (match e0a v with|some x=>x|none=>.dead) v
  split
  ·rename_i x hx;exact(z0s hx).1
  ·exact .dead v
 |func f=>exact .fn _ [] [] #[] #[] rfl (fun i v v' h=>by simp at h) rfl (fun i v v' h=>by simp at h)
 |global g=>exact .dead _
def a0m (P:Program)(r:RM)(σ:Snap)(s:SW)(w:World)(m:Sem Next)(v:SV)(s1:SW):Prop:=
 ∃r' σ' w',r.le r'∧σ.le σ'∧Rel r' σ' s1 w'∧Frame s.len s1.log r r' σ σ' w w'∧(∀x,x∈s.log→x∈s1.log)∧s.len≤s1.len∧
  ((∃v',m.run P w=.ok (.value v') w'∧VRel r' σ' v v')∨(m.run P w=.ok .skip w'∧v=.undef))
theorem a0m.val {m:Sem Value}{v:SV}{s1:SW}(h:Goes P r σ s w m v s1):a0m P r σ s w (do pure (.value (←m))) v s1:=by
 obtain⟨r',σ',w',v',h1,h2,h3,h4,h5,h6,h7,h8⟩:=h
 exact⟨r',σ',w',h1,h2,h3,h4,h7,h8,.inl ⟨v',by simp[h5],h6⟩⟩
theorem a0m.same {m:Sem Value}{v:SV}{v':Value}(hr:Rel r σ s w)(h:VRel r σ v v')(hm:m.run P w=.ok v' w):a0m P r σ s w (do pure (.value (←m))) v s:=a0m.val (Goes.same hr h hm)
theorem a0m.ex {m:Sem Value}{v:SV}(hr:Rel r σ s w)(h: ∃v',VRel r σ v v'∧m.run P w=.ok v' w):a0m P r σ s w (do pure (.value (←m))) v s:=by
 obtain⟨v',h1,h2⟩:=h;exact a0m.same hr h1 h2
theorem c0f {x:Option SV}{why:Nat}{v:SV}{s1:SW}(h:(both s x why).sel=some (v,s1)):x=some v∧s1=s:=by
 cases x with
 |none=>cases h
 |some y=>cases h;exact⟨rfl,rfl⟩
theorem i0f {x:Tree SV}{v:SV}{s1:SW}(h:(x.with_ s).sel=some (v,s1)):x.sel=some v∧s1=s:=by
 obtain⟨a,h1,h2⟩:=Tree.bind_some h
 cases h2;exact⟨h1,rfl⟩
theorem t2f {ρ:Operand→SV}{ρ':Operand→Value}(hρ: ∀x,VRel r σ (ρ x) (ρ' x))(ps:List (Nat×Operand)):PRel r σ (ps.map fun p=>(p.1,ρ p.2)) (ps.map fun(i,x)=>(i,ρ' x)):=by
 induction ps with
 |nil=>exact .nil
 |cons p ps ih=>obtain⟨i,x⟩:=p;exact .cons i _ _ _ _ (hρ x) ih
theorem y0a {ρ:Operand→SV}{ρ':Operand→Value}(hρ: ∀x,VRel r σ (ρ x) (ρ' x))(x:Option Operand):ORel r σ (x.map ρ) (x.map ρ'):=by
 cases x with
 |none=>exact .none
 |some y=>exact .some _ _ (hρ y)
theorem args2 {ρ:Operand→SV}{ρ':Operand→Value}(hρ: ∀x,VRel r σ (ρ x) (ρ' x)){args:Array Operand}{a b:SV}(h:args.toList.map ρ=[a,b]): ∃a' b',args.map ρ'= #[a',b']∧VRel r σ a a'∧VRel r σ b b':=by
 obtain⟨l⟩:=args
 match l,h with
 |[x,y],h=>
  simp only[List.map_cons,List.map_nil,List.cons.injEq,and_true]at h
  obtain⟨rfl,rfl⟩:=h
  exact⟨ρ' x,ρ' y,by simp,hρ x,hρ y⟩
theorem args1 {ρ:Operand→SV}{ρ':Operand→Value}(hρ: ∀x,VRel r σ (ρ x) (ρ' x)){args:Array Operand}{a:SV}(h:args.toList.map ρ=[a]): ∃a',args.map ρ'= #[a']∧VRel r σ a a':=by
 obtain⟨l⟩:=args
 match l,h with
 |[x],h=>
  simp only[List.map_cons,List.map_nil,List.cons.injEq,and_true]at h
  subst h
  exact⟨ρ' x,by simp,hρ x⟩
theorem toList_eq {tys:Array TypeId}{l:List TypeId}(h:tys.toList=l):tys=l.toArray:=by
 cases tys;simp at h;simp[h]
theorem p1g {x:Option Nat}{v:SV}(h:intV x=some v): ∃n:Nat,x=some n∧v=.int .i64 n:=by
 cases x with
 |none=>cases h
 |some n=>cases h;exact⟨n,rfl,rfl⟩
theorem q2l (hr:Rel r σ s w){T:TypeId}{x v:SV}{x':Value}(hx:VRel r σ x x'){s1:SW}(h:(o2z P T x s).sel=some (v,s1))(ty:TypeId):a0m P r σ s w (do pure (.value (←Builtin.len_ #[T] ty #[x']))) v s1:=by
 unfold o2z at h
 split at h
 ·rename_i n el hu
  cases h
  exact a0m.same hr (.int .i64 n) (by simp[Builtin.len_,run_underlying hu,goInt])
 ·rename_i hu
  split at h
  ·rename_i z
   obtain⟨h1,rfl⟩:=c0f h
   obtain⟨n,h2,rfl⟩:=p1g h1
   cases hx
   simp[f0u]at h2
   subst h2
   exact a0m.same hr (.int .i64 _) (by simp[Builtin.len_,run_underlying hu,goInt])
  ·cases h
 ·rename_i el hu
  split at h
  ·cases h
  ·rename_i z hz
   obtain⟨h1,rfl⟩:=c0f h
   obtain⟨n,h2,rfl⟩:=p1g h1
   rcases f0x hr hx h2 with⟨q,q1,_,_⟩|⟨_,a,cap,rfl,_⟩
   ·exact absurd q1 (hz q)
   ·exact a0m.same hr (.int .i64 _) (by simp[Builtin.len_,run_underlying hu,goInt])
 ·cases h
theorem f2s (hr:Rel r σ s w){T:TypeId}{x v:SV}{x':Value}(hx:VRel r σ x x'){s1:SW}(h:(o1a P T x s).sel=some (v,s1))(ty:TypeId):a0m P r σ s w (do pure (.value (←Builtin.len_ #[T] ty #[x']))) v s1:=by
 unfold o1a at h
 split at h
 ·rename_i e es hu hv
  obtain⟨b,g,rfl,hb⟩:=n0h hv
  cases h
  cases hx with
  |own _ _ y hy=>
   have hvr:=hr.vec b g es y hb hy
   exact a0m.same hr (.int .i64 _) (by simp[Builtin.len_,run_underlying hu,goInt,hvr.len])
 ·exact q2l hr hx h ty
theorem m1d (hr:Rel r σ s w){ρ:Operand→SV}{ρ':Operand→Value}(hρ: ∀x,VRel r σ (ρ x) (ρ' x)){b:Builtin}{args:Array Operand}{tys:Array TypeId}{ty:TypeId}{cs:Array Bool}{v:SV}{s1:SW}
  (h:(d0g P b (args.toList.map ρ) tys.toList s).sel=some (v,s1)):a0m P r σ s w (builtin b tys ty cs (args.map ρ')) v s1:=by
 cases b with
 |len=>
  simp only[d0g]at h
  split at h
  ·rename_i x T ha hT
   obtain⟨a',e1,e2⟩:=args1 hρ ha
   rw[toList_eq hT,e1]
   exact f2s hr e2 h ty
  ·cases h
 |append=>
  simp only[d0g]at h
  split at h
  ·rename_i v0 x0 T T2 ha hT
   obtain⟨a',b',e1,e2,e3⟩:=args2 hρ ha
   rw[toList_eq hT,e1]
   show a0m P r σ s w (do pure (.value (←Builtin.append_ #[T,T2] ty #[a',b']))) v s1
   exact a0m.val (n1g hr e2 e3 h ty)
  ·cases h
 |copy=>
  simp only[d0g]at h
  split at h
  ·rename_i v0 x0 T T2 ha hT
   have h:=Tree.ofOpt_some h
   obtain⟨a',b',e1,e2,e3⟩:=args2 hρ ha
   rw[toList_eq hT,e1]
   show a0m P r σ s w (do pure (.value (←Builtin.copy_ #[T,T2] ty #[a',b']))) v s1
   exact a0m.val (l2y hr e2 e3 h ty)
  ·cases h
 |min=>
  simp only[d0g]at h
  obtain⟨h1,rfl⟩:=c0f h
  show a0m P r σ _ w (do pure (.value (←Builtin.min_ tys ty (args.map ρ')))) v _
  exact a0m.ex hr (q2t (LRel.map args ρ ρ' fun x _=>hρ x) h1 tys ty w)
 |max=>
  simp only[d0g]at h
  obtain⟨h1,rfl⟩:=c0f h
  show a0m P r σ _ w (do pure (.value (←Builtin.max_ tys ty (args.map ρ')))) v _
  exact a0m.ex hr (q2p (LRel.map args ρ ρ' fun x _=>hρ x) h1 tys ty w)
 |_=>simp only[d0g]at h;cases h
theorem o1h (hr:Rel r σ s w){x v:SV}{x':Value}(hx:VRel r σ x x'){i:Nat}{s1:SW}(h:(i0j x i s).sel=some (v,s1)):a0m P r σ s w (do pure (.value (←Instr.extract x' i))) v s1:=by
 unfold i0j at h
 split at h
 ·rename_i l
  obtain⟨h1,rfl⟩:=c0f h
  cases hx with
  |tup _ c k1 k2=>
   obtain⟨v',q1,q2⟩:=(⟨k1,k2⟩:LRel r σ l c).get h1
   exact a0m.same hr q2 (by simp[Instr.extract,q1])
 ·cases h
theorem o1s (ρ:Operand→Value)(dst:Option Tmp)(ty:TypeId)(pos:String)(aft:Array Edge)(gd:Option (Nat×Bool))(b:Builtin)(args:Array Operand)(tys:Array TypeId):
  execOp ρ ⟨dst,.call ⟨.builtin b,args,tys⟩,ty,pos,aft,gd⟩=builtin b tys ty (args.map fun|.const _=>true|_=>false) (args.map ρ):=by
 simp only[execOp,resolve]
 generalize hc:(args.map fun|.const _=>true|_=>false)=cs
 show(Sem.bind (Sem.pure _) _)=_
 simp only[Sem.bind,invoke]
def u0x (ρ:Operand→Value)(ps:Array (Nat×Operand)):Array (Nat×Value):=ps.map fun(i,x)=>(i,ρ x)
theorem e2x (ρ:Operand→Value)(dst:Option Tmp)(ty:TypeId)(pos:String)(aft:Array Edge)(gd:Option (Nat×Bool))(T:TypeId)(ps:Array (Nat×Operand)):
  execOp ρ ⟨dst,.build T ps,ty,pos,aft,gd⟩=(do pure (.value (←Instr.build T (u0x ρ ps)))):=by
 simp only[execOp,u0x]
theorem d1m (ρ:Operand→Value)(dst:Option Tmp)(ty:TypeId)(pos:String)(aft:Array Edge)(gd:Option (Nat×Bool))(T n:Nat)(ps:Array (Nat×Operand)):
  execOp ρ ⟨dst,.buildSlice T n ps,ty,pos,aft,gd⟩=(do pure (.value (←Instr.buildSlice T n (u0x ρ ps)))):=by
 simp only[execOp,u0x]
theorem o1j {ρ:Operand→SV}{ρ':Operand→Value}(hρ: ∀x,VRel r σ (ρ x) (ρ' x))(ps:Array (Nat×Operand)):PRel r σ (ps.toList.map fun p=>(p.1,ρ p.2)) (u0x ρ' ps).toList:=by
 unfold u0x
 rw[Array.toList_map];exact t2f hρ ps.toList
theorem nope {v:SV}{s1:SW}{q:Prop}{n:Nat}(h:(Tree.bad n:Tree (SV×SW)).sel=some (v,s1)):q:=by cases h
theorem n1p (hr:Rel r σ s w){t:List SV}{t':Array Value}(ht:LRel r σ t t'){ty:TypeId}{x:Operand}{v:SV}{s1:SW}(h:(evMove P ty x t s).sel=some (v,s1)):a0m P r σ s w (do pure (.value (←(pure ((Act.mk t' []).eval x):Sem Value)))) v s1:=by
 have hρ:=a1r (P:=P) ht
 cases x with
 |const c=>obtain⟨h1,rfl⟩:=c0f h;exact a0m.same hr (w1c h1) rfl
 |tmp k=>cases h;exact a0m.same hr (hρ (.tmp k)) rfl
 |func f=>cases h;exact a0m.same hr (hρ (.func f)) rfl
 |global g=>cases h;exact a0m.same hr (hρ (.global g)) rfl
theorem Rel.newIter (h:Rel r σ s w)(t:ByteArray):Rel (r.setMp s.len w.heap.size) σ (s.push (.iter t 0)) (w.alloc (.stringIter t 0))∧r.le (r.setMp s.len w.heap.size)∧
  Frame s.len s.log r (r.setMp s.len w.heap.size) σ σ w (w.alloc (.stringIter t 0)):=by
 have hle:r.le (r.setMp s.len w.heap.size):=j1f h.mp_len _
 have hat: ∀b j,(r.setMp s.len w.heap.size).at b j→r.at b j∨j=w.heap.size:=fun b j k=>by
  rcases h1g k with q|⟨_,q⟩
  ·exact .inl q
  ·exact .inr q
 have hold: ∀j,j<w.heap.size→(w.alloc (.stringIter t 0)).heap[j]? =w.heap[j]? :=fun j hj=>Below.heap_alloc _ _ _ hj
 have hsz:(w.alloc (.stringIter t 0)).heap.size=w.heap.size+1:=by show(w.heap.push _).size=_;simp
 have hnew:(w.alloc (.stringIter t 0)).heap[w.heap.size]? =some (.stringIter t 0):=by show(w.heap.push _)[w.heap.size]? =_;simp
 refine⟨h.change (b:=s.len) (x:=.iter t 0) ?_ (SW.blk_push _ _) (fun b' e=>SW.blk_push_ne _ _ e) (by rw[SW.len_push];omega) ?_,hle,?_⟩
 ·refine⟨hle,Snap.le_refl _,fun _ _ _ k=>k,fun _ _ _ _ k=>k,fun b' p e k=> ?_,by rw[hsz];omega,fun j hj _=>hold j hj,fun j hj=> ?_,fun j hj=> ?_,fun j hj=>(hat _ _ hj).imp id (by rintro rfl;exact Nat.le_refl _),fun j c' hj=>.inl hj,?_,?_,?_,?_⟩
  ·simpa [RM.setMp,e]using k
  ·rcases hat _ _ hj with q|rfl
   ·have:=h.inb _ _ q;rw[hsz];omega
   ·rw[hsz];omega
  ·have:(r.setMp s.len w.heap.size).mp s.len=some j:=hj
   simp only[RM.setMp,if_true,Option.some.injEq]at this
   exact .inr (by omega)
  ·intro es' j n e;cases e
  ·intro t g l p e;cases e
  ·intro t g l p e;cases e
  ·intro t g l g' e;cases e
 ·intro t' p j e hj
  cases e
  simp only[RM.setMp,if_true,Option.some.injEq]at hj
  subst hj
  exact⟨Int.le_refl _,hnew⟩
 ·refine⟨rfl,rfl,rfl,by rw[hsz];omega,fun b j k=> ?_,fun j hj _=>hold j hj,fun b hb _=>⟨rfl,fun _=>rfl,by simp[RM.setMp];omega⟩,.refl⟩
  rcases hat b j k with q|rfl
  ·exact .inl q
  ·exact .inr (Nat.le_refl _)
theorem b2m (hr:Rel r σ s w){T:TypeId}{x:SV}{x':Value}(hx:VRel r σ x x'){v:SV}{s1:SW}(h:(v0z P T x s).sel=some (v,s1)):Goes P r σ s w (Instr.range T x') v s1:=by
 unfold v0z at h
 split at h
 ·rename_i t hu
  cases h
  cases hx
  obtain⟨h1,h2,h3⟩:=hr.newIter t
  refine⟨_,σ,_,_,h2,Snap.le_refl _,h1,h3,?_,.itr s.len w.heap.size (by simp[RM.setMp]),fun _ h=>h,by rw[SW.len_push];omega⟩
  simp[Instr.range,run_underlying hu]
 ·cases h
theorem Rel.setIter (h:Rel r σ s w){b j:Nat}{t:ByteArray}{p p':Int}(hb:s.blk b=some (.iter t p))(hj:r.mp b=some j)(hp:0≤p'):
  Rel r σ ((s.note b).setBlk b (.iter t p')) {w with heap:=w.heap.setIfInBounds j (.stringIter t p'.toNat)}∧Frame s.len (s.note b).log r r σ σ w {w with heap:=w.heap.setIfInBounds j (.stringIter t p'.toNat)}:=by
 have hbl:b<s.len:=(List.getElem?_eq_some_iff.1 hb).1
 obtain⟨h1,h2⟩:=h.itr b t p j hb hj
 have hjl:j<w.heap.size:=(Array.getElem?_eq_some_iff.1 h2).1
 have live: ∀j',r.live (s.blk b) b j'↔j'=j:=by
  intro j'
  rw[hb]
  simp only[RM.live,hj,Option.some.injEq]
  exact eq_comm
 have hne: ∀j',j'≠j→(w.heap.setIfInBounds j (.stringIter t p'.toNat))[j']? =w.heap[j']? :=fun j' e=>by rw[Array.getElem?_setIfInBounds,if_neg (Ne.symm e)]
 refine⟨h.change (b:=b) (x:=.iter t p') ?_ (SW.set_blk _ _ _ (by rw[SW.note_len];exact hbl)) (fun b' e'=>by rw[SW.set_ne _ _ _ e',SW.note_blk]) (by rw[SW.set_len,SW.note_len];exact Nat.le_refl _) ?_,?_⟩
 ·refine⟨RM.le_refl _,Snap.le_refl _,fun _ _ _ k=>k,fun _ _ _ _ k=>k,fun _ _ _ k=>k,by simp,fun j' hj' hn=>hne j' fun e=>hn ((live j').2 e),fun j' hj'=>by simpa using h.inb _ _ hj',fun j' hj'=>.inl ?_,fun j' hj'=>.inl hj',fun j' c' hj'=>.inl hj',?_,?_,?_,?_⟩
  ·rw[hb];exact hj'
  ·intro es' j n e;cases e
  ·intro t g l p e;cases e
  ·intro t g l p e;cases e
  ·intro t g l g' e;cases e
 ·intro t' q j' e hj'
  cases e
  rw[hj]at hj';cases hj'
  exact⟨hp,by simp[hjl]⟩
 ·refine⟨rfl,rfl,rfl,by simp,fun _ _ h=>.inl h,fun j' hj' hn=>hne j' fun e'=> ?_,fun _ _ _=>⟨rfl,fun _=>rfl,rfl⟩,.refl⟩
  subst e'
  exact hn b (SW.note_mem _ _) (.inr (.inr hj))
theorem i2h (hr:Rel r σ s w){x:SV}{str:Bool}{x':Value}(hx:VRel r σ x x'){v:SV}{s1:SW}(h:(n1k x str s).sel=some (v,s1))(ty:TypeId):Goes P r σ s w (Instr.next x' str ty) v s1:=by
 unfold n1k at h
 split at h
 ·rename_i b
  split at h
  ·rename_i t p hb
   cases hx with
   |itr _ j hj=>
    obtain⟨h1,h2⟩:=hr.itr b t p j hb hj
    have run: ∀{o:Obj},(setObj j o).run P w=.ok () {w with heap:=w.heap.setIfInBounds j o}:=fun{o}=>by simp[setObj,Sem.run,h2]
    cases hc:decide (p<(t.size:Int))with
    |true=>
     rw[hc]at h
     have hlt:p.toNat<t.size:=by have:=of_decide_eq_true hc;omega
     cases h
     have hw:0≤decW t p:=by unfold decW;omega
     obtain⟨k1,k2⟩:=hr.setIter hb hj (p':=p+decW t p) (by omega)
     have e1:(p+decW t p).toNat=p.toNat+(Utf8.decode t p.toNat).2:=by unfold decW;omega
     refine⟨r,σ,_,_,RM.le_refl _,Snap.le_refl _,k1,k2,?_,.tup [.bool true,.int .i64 p,.int .i32 (decC t p)] #[.bool true,.int .i64 p,.int .i32 (decC t p)] rfl ?_,fun x hx=>SW.note_sub s b x hx,by rw[SW.set_len,SW.note_len];exact Nat.le_refl _⟩
     ·rw[e1]
      have e2:((p.toNat:Nat):Int)=p:=by omega
      simp[Instr.next,getObj,Sem.run,h2,hlt,run,goInt,e2,decC]
     ·intro i u u' a b'
      match i,a,b' with
      |0,a,b'=>cases a;cases b';exact .bool _
      |1,a,b'=>cases a;cases b';exact .int _ _
      |2,a,b'=>cases a;cases b';exact .int _ _
    |false=>
     rw[hc]at h
     have hlt: ¬p.toNat<t.size:=by have:=of_decide_eq_false hc;omega
     cases h
     refine⟨r,σ,w,_,RM.le_refl _,Snap.le_refl _,hr,Frame.refl _ _ _ _ _,?_,.tup [.bool false] #[.bool false] rfl ?_,fun _ h=>h,Nat.le_refl _⟩
     ·simp[Instr.next,getObj,Sem.run,h2,hlt]
     ·intro i u u' a b'
      match i,a,b' with
      |0,a,b'=>cases a;cases b';exact .bool _
  ·cases h
 ·cases h
theorem j4d (hr:Rel r σ s w){t:List SV}{t':Array Value}(ht:LRel r σ t t'){o:Oper}{v:SV}{s1:SW}(h:(evOp P o t s).sel=some (v,s1)):a0m P r σ s w (execOp (Act.mk t' []).eval o) v s1:=by
 have hρ:=a1r (P:=P) ht
 obtain⟨dst,op,ty,pos,aft,gd⟩:=o
 cases op with
 |move x=>
  show a0m P r σ s w (do pure (.value (←(pure ((Act.mk t' []).eval x):Sem Value)))) v s1
  have h:(evMove P ty x t s).sel=some (v,s1):=h
  exact n1p hr ht h
 |assign x=>
  show a0m P r σ s w (do pure (.value (←(pure ((Act.mk t' []).eval x):Sem Value)))) v s1
  have h:(evMove P ty x t s).sel=some (v,s1):=h
  exact n1p hr ht h
 |pick c a b=>
  have h:((q1b (evT P t c) (evT P t a) (evT P t b)).with_ s).sel=some (v,s1):=h
  obtain⟨h1,rfl⟩:=i0f h
  obtain⟨q,q1,q2⟩:=g2u (P:=P) (hρ c) (hρ a) (hρ b) h1 w
  exact⟨r,σ,w,RM.le_refl _,Snap.le_refl _,hr,Frame.refl _ _ _ _ _,fun _ h=>h,Nat.le_refl _,.inl ⟨_,by simp[execOp,q2],q1⟩⟩
 |alloc e=>
  show a0m P r σ s w (do pure (.value (←Instr.alloc e true (.tuple #[])))) v s1
  have h:(Tree.ofOpt 101 (u0y P e s)).sel=some (v,s1):=h
  exact a0m.val (g2a hr (Tree.ofOpt_some h))
 |box e x=>
  show a0m P r σ s w (do pure (.value (←Instr.box e ((Act.mk t' []).eval x)))) v s1
  have h:(Tree.ofOpt 102 (h2p (evT P t x) s)).sel=some (v,s1):=h
  exact a0m.val (s2h hr (hρ x) (Tree.ofOpt_some h) e)
 |build T ps=>
  rw[e2x]
  have h:(Tree.ofOpt 103 (evBuild P T (ps.toList.map fun p=>(p.1,evT P t p.2)) s)).sel=some (v,s1):=h
  obtain⟨σ1,m1,m2,m3,v',m4,m5⟩:=b2j hr (o1j hρ ps) (Tree.ofOpt_some h)
  exact a0m.val ⟨r,σ1,w,v',RM.le_refl _,m1,m2,Frame.still _ m3.stay,m5,m4,m3.log,by rw[m3.len];exact Nat.le_refl _⟩
 |buildSlice T n ps=>
  rw[d1m]
  have h:(Tree.ofOpt 104 (d0c P T n (ps.toList.map fun p=>(p.1,evT P t p.2)) s)).sel=some (v,s1):=h
  exact a0m.val (x0y hr (o1j hρ ps) (Tree.ofOpt_some h))
 |load T a=>
  show a0m P r σ s w (do pure (.value (←Instr.loadAt T ((Act.mk t' []).eval a)))) v s1
  have h:(unO (evT P t a) fun p=>both s (v0g P T p s) 105).sel=some (v,s1):=h
  obtain⟨p,h,hp⟩:=r3d h
  obtain⟨h1,rfl⟩:=c0f h
  exact a0m.ex hr (e2h hr (hp _ _ _ (hρ a)) h1)
 |store T a x=>
  have h:(g1t (l0h P T (evT P t a) (evT P t x) s)).sel=some (v,s1):=h
  cases h1:l0h P T (evT P t a) (evT P t x) s with
  |none=>rw[h1]at h;cases h
  |some s2=>
   rw[h1]at h
   cases h
   obtain⟨σ1,w1,m1,m2,m3,m4,m5,m6⟩:=s1k hr (hρ a) (hρ x) h1
   exact⟨r,σ1,w1,RM.le_refl _,m1,m2,m3,m6,by rw[m5];exact Nat.le_refl _,.inr ⟨by simp[execOp,m4],rfl⟩⟩
 |nilCheck x=>
  have h:(unO (evT P t x) fun p=>both s (l2t p) 107).sel=some (v,s1):=h
  obtain⟨p,h,hp⟩:=r3d h
  obtain⟨h1,rfl⟩:=c0f h
  obtain⟨q1,q2⟩:=u2e (P:=P) (hp _ _ _ (hρ x)) h1 (o:=⟨dst,.nilCheck x,ty,pos,aft,gd⟩) (ρ:=(Act.mk t' []).eval) rfl rfl w
  exact⟨r,σ,w,RM.le_refl _,Snap.le_refl _,hr,Frame.refl _ _ _ _ _,fun _ h=>h,Nat.le_refl _,.inl ⟨_,q2,q1⟩⟩
 |binOp op T x y yt=>
  show a0m P r σ s w (do pure (.value (←(do eqGuard op T x y ((Act.mk t' []).eval x) ((Act.mk t' []).eval y);binOp op T ((Act.mk t' []).eval x) ((Act.mk t' []).eval y):Sem Value)))) v s1
  have h:((evBin P op T x y (evT P t x) (evT P t y)).with_ s).sel=some (v,s1):=h
  obtain⟨h1,rfl⟩:=i0f h
  exact a0m.ex hr (s2n hr (hρ x) (hρ y) h1)
 |unOp op T x=>
  show a0m P r σ s w (do pure (.value (←Op.unary op ((Act.mk t' []).eval x)))) v s1
  have h:(both s (evUn op (evT P t x)) 108).sel=some (v,s1):=h
  obtain⟨h1,rfl⟩:=c0f h
  exact a0m.ex hr (evUn_ok (hρ x) h1 w)
 |convert a b x=>
  show a0m P r σ s w (do pure (.value (←convert a b ((Act.mk t' []).eval x)))) v s1
  have h:(Tree.ofOpt 109 (i0k P a b (evT P t x) s)).sel=some (v,s1):=h
  exact a0m.val (p1u hr (hρ x) (Tree.ofOpt_some h))
 |makeInterface T x=>
  show a0m P r σ s w (do pure (.value (←Instr.makeInterface T ((Act.mk t' []).eval x)))) v s1
  have h:(both s (e0s P T (evT P t x)) 110).sel=some (v,s1):=h
  obtain⟨h1,rfl⟩:=c0f h
  exact a0m.ex hr (e1a (hρ x) h1 w)
 |makeFunc f first caps=>
  show a0m P r σ s w (do pure (.value (←Instr.makeFunc f (first.map (Act.mk t' []).eval) (caps.map (Act.mk t' []).eval)))) v s1
  have h:(Tree.leaf (SV.fn f (first.toList.map (evT P t)) (caps.toList.map (evT P t)),s)).sel=some (v,s1):=h
  cases h
  have a1:=LRel.map first (evT P t) (Act.mk t' []).eval fun x _=>hρ x
  have a2:=LRel.map caps (evT P t) (Act.mk t' []).eval fun x _=>hρ x
  exact a0m.same hr (.fn _ _ _ _ _ a1.size a1.at_ a2.size a2.at_) rfl
 |makeSlice T n c=>
  show a0m P r σ s w (do pure (.value (←Instr.makeSlice T ((Act.mk t' []).eval n) ((Act.mk t' []).eval c)))) v s1
  have h:(e0q P T (evT P t n) (evT P t c) s).sel=some (v,s1):=h
  exact a0m.val (e1k hr (hρ n) (hρ c) h)
 |slice T x lo hi mx=>
  show a0m P r σ s w (do pure (.value (←Instr.sliceAt T ((Act.mk t' []).eval x) (lo.map (Act.mk t' []).eval) (hi.map (Act.mk t' []).eval) (mx.map (Act.mk t' []).eval)))) v s1
  have h:((o0g P T (evT P t x) (lo.map (evT P t)) (hi.map (evT P t)) (mx.map (evT P t)) s).with_ s).sel=some (v,s1):=h
  obtain⟨h1,rfl⟩:=i0f h
  exact a0m.ex hr (q1f hr (hρ x) (y0a hρ lo) (y0a hρ hi) (y0a hρ mx) h1)
 |fieldAddr T x f=>
  show a0m P r σ s w (do pure (.value (←Instr.fieldAt T ((Act.mk t' []).eval x) f))) v s1
  have h:(unO (evT P t x) fun p=>both s (e0p P T p f) 111).sel=some (v,s1):=h
  obtain⟨p,h,hp⟩:=r3d h
  obtain⟨h1,rfl⟩:=c0f h
  exact a0m.ex hr (e1h (hp _ _ _ (hρ x)) h1 w)
 |field T x f=>
  show a0m P r σ s w (do pure (.value (←Instr.field T ((Act.mk t' []).eval x) f))) v s1
  have h:(both s (v0y P T (evT P t x) f) 112).sel=some (v,s1):=h
  obtain⟨h1,rfl⟩:=c0f h
  exact a0m.ex hr (b2d (hρ x) h1 w)
 |indexAddr T x i=>
  show a0m P r σ s w (do pure (.value (←Instr.indexAt T ((Act.mk t' []).eval x) ((Act.mk t' []).eval i)))) v s1
  have h:((d0q P T (evT P t x) (evT P t i) s).with_ s).sel=some (v,s1):=h
  obtain⟨h1,rfl⟩:=i0f h
  exact a0m.ex hr (b1x hr (hρ x) (hρ i) h1)
 |index T x i=>
  show a0m P r σ s w (do pure (.value (←Instr.index T ((Act.mk t' []).eval x) ((Act.mk t' []).eval i)))) v s1
  have h:((v0u P T (evT P t x) (evT P t i)).with_ s).sel=some (v,s1):=h
  obtain⟨h1,rfl⟩:=i0f h
  exact a0m.ex hr (c2k (hρ x) (hρ i) h1 w)
 |typeAssert x xt T ok=>
  show a0m P r σ s w (do pure (.value (←Instr.typeAssert ((Act.mk t' []).eval x) xt T ok))) v s1
  have h:(both s (evAssert P (evT P t x) T ok) 113).sel=some (v,s1):=h
  obtain⟨h1,rfl⟩:=c0f h
  exact a0m.ex hr (s1t (hρ x) h1 w)
 |extract x i=>
  show a0m P r σ s w (do pure (.value (←Instr.extract ((Act.mk t' []).eval x) i))) v s1
  have h:(i0j (evT P t x) i s).sel=some (v,s1):=h
  have hx:=hρ x
  generalize evT P t x=y at h hx
  generalize (Act.mk t' []).eval x=y' at hx
  exact o1h hr hx h
 |call c=>
  have h:(b1i P c t s).sel=some (v,s1):=h
  obtain⟨callee,args,tys⟩:=c
  cases callee with
  |builtin b=>
   rw[o1s]
   simp only[b1i]at h
   exact m1d hr hρ h
  |value f=>exact nope h
  |invoke a b=>exact nope h
 |insert T x i a=>
  have h:(c0q P T (evT P t x) (evT P t i) (evT P t a) s).sel=some (v,s1):=h
  obtain⟨e,w1,m2,m3,m4,m5,m6⟩:=p0q hr (hρ x) (hρ i) (hρ a) h
  exact⟨r,σ,w1,RM.le_refl _,Snap.le_refl _,m2,m3,m6,by rw[m5];exact Nat.le_refl _,.inr ⟨by simp[execOp,m4],e⟩⟩
 |ready g=>exact nope h
 |waits g=>exact nope h
 |sliceToArrayPointer a b=>exact nope h
 |makeChan a b=>exact nope h
 |makeMap T n=>
  show a0m P r σ s w (do pure (.value (←Instr.makeMap T (n.map (Act.mk t' []).eval)))) v s1
  have h:(i0r P T (n.map (evT P t)) s).sel=some (v,s1):=h
  exact a0m.val (l1g hr (y0a hρ n) h)
 |lookup T x i ok=>
  show a0m P r σ s w (do pure (.value (←Instr.lookup T ((Act.mk t' []).eval x) ((Act.mk t' []).eval i) ok))) v s1
  have h:((evLookup P T (evT P t x) (evT P t i) ok s).with_ s).sel=some (v,s1):=h
  obtain⟨h1,rfl⟩:=i0f h
  exact a0m.ex hr (r1h hr (hρ x) (hρ i) h1)
 |mapEntry T x i=>
  show a0m P r σ s w (do pure (.value (←Instr.mapEntry T ((Act.mk t' []).eval x) ((Act.mk t' []).eval i)))) v s1
  have h:(f0s P T (evT P t x) (evT P t i) s).sel=some (v,s1):=h
  exact a0m.val (h1v hr (hρ x) (hρ i) h)
 |mapUpdate T x i a=>
  have h:(c0q P T (evT P t x) (evT P t i) (evT P t a) s).sel=some (v,s1):=h
  obtain⟨e,w1,m2,m3,m4,m5,m6⟩:=p0q hr (hρ x) (hρ i) (hρ a) h
  exact⟨r,σ,w1,RM.le_refl _,Snap.le_refl _,m2,m3,m6,by rw[m5];exact Nat.le_refl _,.inr ⟨by simp[execOp,m4],e⟩⟩
 |entryStore T x n a=>
  have h:(f0e (evT P t x) (evT P t n) (evT P t a) s).sel=some (v,s1):=h
  obtain⟨e,w1,m2,m3,m4,m5,m6⟩:=d1b (P:=P) (T:=T) hr (hρ x) (hρ n) (hρ a) h
  exact⟨r,σ,w1,RM.le_refl _,Snap.le_refl _,m2,m3,m6,by rw[m5];exact Nat.le_refl _,.inr ⟨by simp[execOp,m4],e⟩⟩
 |range T x=>
  show a0m P r σ s w (do pure (.value (←Instr.range T ((Act.mk t' []).eval x)))) v s1
  have h:(v0z P T (evT P t x) s).sel=some (v,s1):=h
  exact a0m.val (b2m hr (hρ x) h)
 |next x str=>
  have h:(n1k (evT P t x) str s).sel=some (v,s1):=h
  exact a0m.val (i2h hr (hρ x) h _)
 |entry a=>exact nope h
 |go c=>exact nope h
 |defer c=>exact nope h
 |panic x=>exact nope h
 |send a b=>exact nope h
 |recv a b c=>exact nope h
 |select a b=>exact nope h
end
end Go.Proofs.Ytoehlcomhpnjgaa.Vx
