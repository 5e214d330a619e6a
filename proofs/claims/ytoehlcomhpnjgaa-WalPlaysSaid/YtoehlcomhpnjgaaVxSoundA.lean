import Derived.Test.YtoehlcomhpnjgaaVxSound9
namespace Go.Proofs.Ytoehlcomhpnjgaa.Vx
open Go Go.RowKit
set_option linter.unusedVariables false
section
variable {P:Program} {r:RM} {σ:Snap} {s:SW} {w:World}
theorem evUn_ok {op:UnOp}{x v:SV}{x':Value}(hx:VRel r σ x x')(h:evUn op x=some v)(w:World): ∃v',VRel r σ v v'∧(Op.unary op x').run P w=.ok v' w:=by
 unfold evUn at h
 split at h
 ·cases h;cases hx;exact⟨_,.bool _,rfl⟩
 ·cases h;cases hx;exact⟨_,.int _ _,rfl⟩
 ·cases h;cases hx;exact⟨_,.int _ _,by simp[Op.unary,Op.intBits,ixor]⟩
 ·cases h
theorem e1a {T:TypeId}{x v:SV}{x':Value}(hx:VRel r σ x x')(h:e0s P T x=some v)(w:World): ∃v',VRel r σ v v'∧(Instr.makeInterface T x').run P w=.ok v' w:=by
 unfold e0s at h
 split at h
 ·cases h
 ·rename_i d hn hu
  cases h
  refine⟨_,.iface T x x' hx,?_⟩
  unfold Instr.makeInterface
  simp only[Sem.run_bind,run_underlying hu,Result.andThen_ok]
  cases d<;>first|rfl|exact absurd hu (hn _)
 ·cases h
theorem u2e {x v:SV}{x':Value}(hx:VRel r σ x x')(h:l2t x=some v){o:Oper}{xo:Operand}{ρ:Operand→Value}(ho:o.op=.nilCheck xo)(hρ:ρ xo=x')(w:World):
  VRel r σ v x'∧(execOp ρ o).run P w=.ok (.value x') w:=by
 have run: ∀p,x'=.pointer (some p)→(execOp ρ o).run P w=.ok (.value x') w:=by
  intro p hp;subst hp;simp[execOp,ho,hρ]
 have hx0:=hx
 cases x with
 |ptr b o'=>cases h;cases hx;exact⟨hx0,run _ rfl⟩
 |eptr b g i o'=>cases h;cases hx;exact⟨hx0,run _ rfl⟩
 |aptr b o' w' m i k=>cases h;cases hx;exact⟨hx0,run _ rfl⟩
 |iptr es o'=>cases h;cases hx;exact⟨hx0,run _ rfl⟩
 |iface t y=>cases h;cases hx;exact⟨hx0,by simp[execOp,ho,hρ]⟩
 |mapv b=>cases h;cases hx;exact⟨hx0,by simp[execOp,ho,hρ]⟩
 |imm t l=>
  cases h
  cases hx with
  |imm t l _ hl=>
   rw[x0x]at hl
   obtain⟨a,len,cap,e,_⟩:=hl
   cases e
   exact⟨hx0,by simp[execOp,ho,hρ]⟩
 |_=>simp[l2t]at h
theorem g2u {c a b:SV}{c' a' b':Value}(hc:VRel r σ c c')(ha:VRel r σ a a')(hb:VRel r σ b b'){v:SV}(h:(q1b c a b).sel=some v)(w:World):
  ∃q,VRel r σ v (if q=true then a' else b')∧(asBool c').run P w=.ok q w:=by
 unfold q1b at h
 split at h
 ·rename_i x
  cases hc
  refine⟨x,?_,rfl⟩
  split at h
  ·cases h
   cases ha;cases hb
   cases x<;>exact .bool _
  ·simp only[Tree.sel]at h
   cases x<;>(cases h;assumption)
 ·cases h
theorem i1j {T:TypeId}{v:SV}(h:zeroV P T=some v)(w:World): ∃v',VRel r σ v v'∧(zeroValue T).run P w=.ok v' w:=by
 unfold zeroV at h
 split at h
 ·rename_i i hi
  split at h
  ·rename_i z hz
   exact⟨z,w1c h,by simp[zeroValue,typeInfo,hi,hz]⟩
  ·cases h
 ·cases h
theorem tup2 {a b:SV}{a' b':Value}(h:VRel r σ a a')(k:VRel r σ b b'):VRel r σ (.tup [a,b]) (.tuple #[a',b']):=by
 have:=LRel.cons h (LRel.cons k (LRel.nil r σ))
 exact .tup _ _ this.size this.at_
theorem s1t {x:SV}{x':Value}(hx:VRel r σ x x'){xt T:TypeId}{ok:Bool}{v:SV}(h:evAssert P x T ok=some v)(w:World): ∃v',VRel r σ v v'∧(Instr.typeAssert x' xt T ok).run P w=.ok v' w:=by
 unfold evAssert at h
 split at h
 ·cases h
 ·rename_i d hn hu
  split at h
  ·rename_i t y
   cases hx with
   |iface _ _ y' hy=>
    split at h
    ·rename_i ht
     obtain rfl:=a0n ht
     split at h
     ·cases h
      refine⟨_,tup2 hy (.bool true),?_⟩
      unfold Instr.typeAssert
      simp only[Sem.run_bind,run_underlying hu,Result.andThen_ok]
      cases d<;>first|(simp;done)|exact absurd hu (hn _)
     ·cases h
      refine⟨_,hy,?_⟩
      unfold Instr.typeAssert
      simp only[Sem.run_bind,run_underlying hu,Result.andThen_ok]
      cases d<;>first|(simp;done)|exact absurd hu (hn _)
    ·rename_i ht
     have hne:t≠T:=fun e=>by subst e;rw[Nat.beq_refl]at ht;cases ht
     split at h
     ·rename_i z hz
      cases h
      obtain⟨z',q1,q2⟩:=i1j (r:=r) (σ:=σ) hz w
      refine⟨_,tup2 q1 (.bool false),?_⟩
      unfold Instr.typeAssert
      simp only[Sem.run_bind,run_underlying hu,Result.andThen_ok]
      cases d<;>first|(simp[hne,q2];done)|exact absurd hu (hn _)
     ·cases h
  ·cases hx
   split at h
   ·rename_i z hz
    cases h
    obtain⟨z',q1,q2⟩:=i1j (r:=r) (σ:=σ) hz w
    refine⟨_,tup2 q1 (.bool false),?_⟩
    unfold Instr.typeAssert
    simp only[Sem.run_bind,run_underlying hu,Result.andThen_ok]
    cases d<;>first|(simp[q2];done)|exact absurd hu (hn _)
   ·cases h
  ·cases h
 ·cases h
theorem q2t {xs:List SV}{xs':Array Value}(hx:LRel r σ xs xs'){v:SV}(h:evMM imin xs=some v)(ts:Array TypeId)(T:TypeId)(w:World): ∃v',VRel r σ v v'∧(Builtin.min_ ts T xs').run P w=.ok v' w:=by
 unfold evMM at h
 split at h
 ·rename_i k a k' b
  cases h
  have hs:=hx.size
  obtain⟨v1,e1,q1⟩:=hx.get (i:=0) (v:=.int k a) rfl
  obtain⟨v2,e2,q2⟩:=hx.get (i:=1) (v:=.int k' b) rfl
  cases q1;cases q2
  have:xs'= #[.int k a,.int k' b]:=by
   apply Array.ext_getElem?
   intro i
   match i with
   |0=>exact e1
   |1=>exact e2
   |i+2=>simp at hs;rw[Array.getElem?_eq_none (by omega)];simp
  subst this
  exact⟨_,.int _ _,by rw[run_min_int2];rfl⟩
 ·rename_i k a k1 b k2 c k3 d
  cases h
  have hs:=hx.size
  obtain⟨v1,e1,q1⟩:=hx.get (i:=0) (v:=.int k a) rfl
  obtain⟨v2,e2,q2⟩:=hx.get (i:=1) (v:=.int k1 b) rfl
  obtain⟨v3,e3,q3⟩:=hx.get (i:=2) (v:=.int k2 c) rfl
  obtain⟨v4,e4,q4⟩:=hx.get (i:=3) (v:=.int k3 d) rfl
  cases q1;cases q2;cases q3;cases q4
  have:xs'= #[.int k a,.int k1 b,.int k2 c,.int k3 d]:=by
   apply Array.ext_getElem?
   intro i
   match i with
   |0=>exact e1
   |1=>exact e2
   |2=>exact e3
   |3=>exact e4
   |i+4=>simp at hs;rw[Array.getElem?_eq_none (by omega)];simp
  subst this
  exact⟨_,.int _ _,by simp[Builtin.min_,Builtin.min2];rfl⟩
 ·cases h
theorem q2p {xs:List SV}{xs':Array Value}(hx:LRel r σ xs xs'){v:SV}(h:evMM imax xs=some v)(ts:Array TypeId)(T:TypeId)(w:World): ∃v',VRel r σ v v'∧(Builtin.max_ ts T xs').run P w=.ok v' w:=by
 unfold evMM at h
 split at h
 ·rename_i k a k' b
  cases h
  have hs:=hx.size
  obtain⟨v1,e1,q1⟩:=hx.get (i:=0) (v:=.int k a) rfl
  obtain⟨v2,e2,q2⟩:=hx.get (i:=1) (v:=.int k' b) rfl
  cases q1;cases q2
  have:xs'= #[.int k a,.int k' b]:=by
   apply Array.ext_getElem?
   intro i
   match i with
   |0=>exact e1
   |1=>exact e2
   |i+2=>simp at hs;rw[Array.getElem?_eq_none (by omega)];simp
  subst this
  exact⟨_,.int _ _,by rw[run_max_int2];rfl⟩
 ·rename_i k a k1 b k2 c k3 d
  cases h
  have hs:=hx.size
  obtain⟨v1,e1,q1⟩:=hx.get (i:=0) (v:=.int k a) rfl
  obtain⟨v2,e2,q2⟩:=hx.get (i:=1) (v:=.int k1 b) rfl
  obtain⟨v3,e3,q3⟩:=hx.get (i:=2) (v:=.int k2 c) rfl
  obtain⟨v4,e4,q4⟩:=hx.get (i:=3) (v:=.int k3 d) rfl
  cases q1;cases q2;cases q3;cases q4
  have:xs'= #[.int k a,.int k1 b,.int k2 c,.int k3 d]:=by
   apply Array.ext_getElem?
   intro i
   match i with
   |0=>exact e1
   |1=>exact e2
   |2=>exact e3
   |3=>exact e4
   |i+4=>simp at hs;rw[Array.getElem?_eq_none (by omega)];simp
  subst this
  exact⟨_,.int _ _,by simp[Builtin.max_,Builtin.max2];rfl⟩
 ·cases h
theorem n1c {t:ByteArray}{cap:Nat}(h:t.size≤cap):(bytesRow t cap).size=cap∧ ∀i (hi:i<(c0b t).length),(bytesRow t cap)[i]? =some (.int .u8 (c0b t)[i]):=by
 refine⟨?_,fun i hi=> ?_⟩
 ·simp only[bytesRow,Array.size_append,Array.size_map,Array.size_replicate]
  show t.size+_=_
  omega
 ·rw[h0z]at hi
  have hi':i<t.data.size:=hi
  simp only[bytesRow,c0b]
  rw[Array.getElem?_append_left (by simpa using hi')]
  simp[Array.getElem?_eq_getElem hi']
theorem p2n {src dst e:TypeId}(hs:P.underlying src=some (.slice e))(hd:P.underlying dst=some .string)(he:P.underlying e=some (.int .u8)){a:Option Addr}{cap:Nat}{l:List Int}
  (hrows:q1x σ w a (.int .u8) l):(convert src dst (.slice a l.length cap)).run P w=.ok (.string (r2b l)) w:=by
 obtain⟨news,k1,k2,k3⟩:=hrows.rowL
 have hlen:news.length=l.length:=by
  have h:=k1.len
  change news.length=l.length*1 at h
  omega
 have hnews:news=l.map (Value.int .u8):=by
  apply List.ext_getElem?
  intro i
  by_cases hi:i<l.length
  ·have h:=k1.row i hi
   change news[i*1]? =some (.int .u8 l[i])at h
   rw[Nat.mul_one]at h
   rw[h,List.getElem?_map,List.getElem?_eq_getElem hi];rfl
  ·rw[List.getElem?_eq_none (by omega),List.getElem?_eq_none (by simp;omega)]
 rw[run_convert_bytes_string w src dst e a _ cap hs he hd]
 cases a with
 |none=>
  have hz:news=[]:=by
   cases news with
   |nil=>rfl
   |cons v n=>obtain⟨p,hp⟩:=k2 (by simp);cases hp
  have hl0:l=[]:=by
   rw[hz]at hnews
   cases l with
   |nil=>rfl
   |cons y ys=>cases hnews
  subst hl0
  rfl
 |some p=>
  have hload:(loadCells p l.length).run P w=.ok (l.map (Value.int .u8)).toArray w:=by
   have:=run_loadCells_list (P:=P) w p news (k3 p rfl)
   rw[hlen,hnews]at this
   exact this
  have:=run_bytesToString (P:=P) w p l.length cap l hload
  rw[foldl_push_bytes]at this
  rw[this]
  simp[r2b,ByteArray.empty,ByteArray.emptyWithCapacity]
  rfl
theorem s2c {w:World}{j:Nat}{c:Array Value}{T:TypeId}{f:Nat×Nat}(h:w.heap[j]? =some (.cells c T f))(ht:d0f c f)(o:Nat):
  ∃f' w',(markStringish ⟨j,o,none⟩).run P w=.ok () w'∧d0f c f'∧w'.heap[j]? =some (.cells c T f')∧(∀k,k≠j→w'.heap[k]? =w.heap[k]?)∧w'.heap.size=w.heap.size∧w'.os=w.os∧w'.tape=w.tape∧w'.output=w.output:=by
 have hsh:w.shape? j=some (T,c.size):=by unfold World.shape?;rw[h]
 refine⟨if f.1==f.2 then(c.size,c.size+1)else(min f.1 c.size,max f.2 (c.size+1)),w.freeze ⟨j,c.size,none⟩ 1,?_,?_,?_,?_,?_,?_,?_,?_⟩
 ·simp[markStringish,hsh]
 ·rcases ht with q|q
  ·rw[if_pos (by simpa using q)];exact .inr (Nat.le_refl _)
  ·split
   ·exact .inr (Nat.le_refl _)
   ·exact .inr (by show c.size≤min f.1 c.size;omega)
 ·unfold World.freeze
  rw[if_neg (by decide)]
  simp only[Array.getElem?_modify,h,if_true,Option.map_some]
 ·intro k hk
  unfold World.freeze
  rw[if_neg (by decide)]
  simp only[Array.getElem?_modify]
  rw[if_neg (Ne.symm hk)]
 ·unfold World.freeze
  rw[if_neg (by decide)]
  simp
 ·unfold World.freeze;rw[if_neg (by decide)]
 ·unfold World.freeze;rw[if_neg (by decide)]
 ·unfold World.freeze;rw[if_neg (by decide)]
theorem p1u (hr:Rel r σ s w){x:SV}{x':Value}(hx:VRel r σ x x'){src dst:TypeId}{v:SV}{s1:SW}(h:i0k P src dst x s=some (v,s1)):Goes P r σ s w (convert src dst x') v s1:=by
 unfold i0k at h
 split at h
 ·rename_i d1 d2 hs hd
  split at h
  ·cases h;cases hx
   exact Goes.same hr (.int _ _) (by simp[convert,run_underlying hs,run_underlying hd,Conv.intToInt])
  ·cases h;cases hx
   exact Goes.same hr (.str _) (by simp[convert,run_underlying hs,run_underlying hd,Conv.intToString])
  ·cases h;cases hx
   exact Goes.same hr (.str _) (by simp[convert,run_underlying hs,run_underlying hd])
  ·rename_i e t
   split at h
   ·rename_i he
    cases h
    cases hx
    have hrun:=run_bytes_of_string w src dst e t hs hd he
    have hge:t.size≤grownCap w t.size 0 e:=g1i w e
    obtain⟨g1,g2⟩:=n1c hge
    have hlen:=h0z t
    obtain⟨k1,k2,k3⟩:=hr.newArr (t:=.int .u8) (l:=c0b t) (c:=bytesRow t (grownCap w t.size 0 e)) e ((bytesRow t (grownCap w t.size 0 e)).size,(bytesRow t (grownCap w t.size 0 e)).size+1) (grownCap w t.size 0 e)
     (.inr (Nat.le_refl _)) (by show(c0b t).length≤_;omega) (by rw[g1];simp[Ty.width]) (fun i hi=>by
      show(bytesRow t _)[i*1]? =_
      rw[Nat.mul_one];exact g2 i hi) (w':=w.drew.alloc (.cells (bytesRow t (grownCap w t.size 0 e)) e ((bytesRow t (grownCap w t.size 0 e)).size,(bytesRow t (grownCap w t.size 0 e)).size+1))) rfl rfl rfl rfl
    refine⟨_,σ,_,_,k2,Snap.le_refl _,k1,k3,hrun,?_,fun _ h=>h,by rw[SW.len_push];omega⟩
    have:=VRel.own (r:=r.setArr s.len 0 ⟨some (w.heap.size,0),(c0b t).length,grownCap w t.size 0 e,(Ty.int .u8).width⟩) (σ:=σ) s.len 0 ⟨some (w.heap.size,0),(c0b t).length,grownCap w t.size 0 e,(Ty.int .u8).width⟩ (by simp only[RM.setArr,and_self,if_true])
    simp only[ALoc.addr]at this
    have e2:Value.slice (some ⟨w.heap.size,0,none⟩) t.size (grownCap w t.size 0 e)=Value.slice (some ⟨w.heap.size,0,none⟩) (c0b t).length (grownCap w t.size 0 e):=by rw[hlen]
    rw[e2]
    exact this
   ·cases h
  ·rename_i e b g
   split at h
   ·rename_i e2 t g' a l he hsd hbl
    split at h
    ·rename_i hg
     cases h
     have hg:=Nat.eq_of_beq_eq_true hg
     subst hg
     have hsd:=Nat.eq_of_beq_eq_true hsd
     subst hsd
     have e22:e2=e:=by rw[hs]at hd;cases hd;rfl
     subst e22
     cases hx with
     |own _ _ x hx=>
      have hrow:=hr.arr b t g (a::l) x hbl hx
      have hL:0<x.L:=by have:=hrow.len;simp at this;omega
      cases hxa:x.a with
      |none=>have:=hrow.nil hxa;have:=hrow.cap;omega
      |some p=>
       obtain⟨j,o⟩:=p
       obtain⟨c,T,f,h1,h2,h3,h4⟩:=hrow.row j o hxa
       have hwr:=s2c (P:=P) h1 h2 o
       obtain⟨f',w',hm,hf',hj,hk,hsz,m1,m2,m3⟩:=hwr
       have hlive:r.live (s.blk b) b j:=by rw[hbl];exact⟨x,o,hx,hxa⟩
       have hjw:j<w.heap.size:=(Array.getElem?_eq_some_iff.1 h1).1
       refine⟨r,σ,w',_,RM.le_refl _,Snap.le_refl _,?_,?_,?_,.own _ _ x hx,s.note_sub b,by rw[SW.note_len];exact Nat.le_refl _⟩
       ·refine hr.change (b:=b) (x:=.arr t g (a::l)) ⟨RM.le_refl _,Snap.le_refl _,fun _ _ _ h=>h,fun _ _ _ _ h=>h,fun _ _ _ h=>h,by omega,fun j' hj' hn=>hk j' fun e=>hn (e▸hlive),fun j' hj'=>by rw[hsz];exact hr.inb _ _ hj',fun j' hj'=>.inl (by rw[hbl];exact hj'),fun j' hj'=>.inl hj',fun j' c' hj'=>.inl hj',?_,?_,?_,?_⟩ (by rw[SW.note_blk];exact hbl) (fun b' _=>by rw[SW.note_blk]) (by rw[SW.note_len];exact Nat.le_refl _)
        ·intro es' j' n e;cases e
        ·intro t' g'' l' y e hy
         cases e
         rw[hx]at hy
         cases hy
         refine⟨hrow.wd,hrow.len,hrow.cap,hrow.nil,fun j' o' e'=> ?_⟩
         rw[hxa]at e'
         cases e'
         exact⟨c,T,f',hj,hf',h3,h4⟩
        ·intro t' g'' l' y e;cases e
        ·intro t' g'' l' g3 e h;cases e;exact hr.gen b t g (a::l) g3 hbl h
       ·refine⟨m1,m2,m3,by omega,fun _ _ h=>.inl h,fun j' hj' hn=>hk j' fun e=> ?_,fun _ _ _=>⟨rfl,fun _=>rfl,rfl⟩,.refl⟩
        exact hn b (s.note_mem b) (.inr (.inl ⟨g,x,o,hx,by rw[hxa,e]⟩))
       ·have e3:x.addr=some ⟨j,o,none⟩:=by simp[ALoc.addr,hxa]
        rw[e3]
        simp[convert,run_underlying hs,run_underlying he,hm]
    ·cases h
   ·cases h
  ·rename_i x hns hno
   split at h
   ·rename_i e
    split at h
    ·rename_i he
     split at h
     ·rename_i l hl
      cases h
      obtain⟨a,cap,rfl,hc,hrows⟩:=l1c hr hx hl
      exact Goes.same hr (.str _) (p2n hs hd he hrows)
     ·cases h
    ·cases h
   ·cases h
  ·cases h
 ·cases h
end
end Go.Proofs.Ytoehlcomhpnjgaa.Vx
