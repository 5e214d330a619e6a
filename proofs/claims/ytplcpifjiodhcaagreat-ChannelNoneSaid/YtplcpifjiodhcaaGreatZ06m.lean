import Derived.Test.YtplcpifjiodhcaaGreatZ06j
import Derived.RangeFuncNested
import Derived.RangeFuncBound
import Derived.RangeFuncCalls
import Derived.RangeFuncLeaves
import Derived.RangeFuncBox
import Derived.Shelf.RegionOpen
import Derived.OwnWalkIn
import Derived.TacticsInMore
import Derived.Test.YtplcpifjiodhcaaGreatVxIm
import Derived.Test.YtplcpifjiodhcaaGreatVxLk
import Derived.Test.YtplcpifjiodhcaaGreatVxLaw
import Derived.Test.YtplcpifjiodhcaaGreatX06n
import Derived.KernelRfl
import Derived.Test.YtplcpifjiodhcaaGreatY06y
import Derived.RangeFuncWrites
import Derived.WalkKit
noncomputable section
namespace Go.Proofs.YtplcpifjiodhcaaGreat.Vx
open Go Go.RowKit
set_option linter.unusedVariables false
set_option linter.unusedSimpArgs false
set_option maxRecDepth 100000
set_option maxHeartbeats 0
theorem m3y (t:Ty)(x:List t.den):gl t [.l t x] 0=x:=by simp[gl,d0b]
section
variable {P:Program}
theorem k3i {w w':World}(h:Below w.heap.size w w'): ∀j,j<w.heap.size→w'.heap[j]? =w.heap[j]? :=fun j hj=>h.block j hj
theorem u2g {r:RM}{σ:Snap}{w w':World}(h:Below w.heap.size w w')(n:Nat)(log:List Nat):Frame n log r r σ σ w w':=
 ⟨h.os,h.tape,h.output,h.size,fun _ _ h=>.inl h,fun j hj _=>h.block j hj,fun _ _ _=>⟨rfl,fun _=>rfl,rfl⟩,.refl⟩
theorem m3r {f:FuncId}{args:List PV}{k:IntKind}{op:List Dat→Option (Nat×List Dat)}
  (h: ∀env j d,op env=some (j,d)→j=0∧ ∃y:Int,d=[.n y]∧ ∀(r:RM) (σ:Snap) (w:World) (args':Array Value),Rel r σ ⟨[],[]⟩ w→LRel r σ (instL args env) args'→Calls P f args' w fun e w'=>e=.returned (.int k y)∧Below w.heap.size w w'):
  a0v P f (a0j (mkF args [] [] [(.int k 0,[])] op)):=by
 intro args0 s v s1 hrun hlog r σ w args' hr ha
 unfold a0j at hrun
 split at hrun
 ·rename_i env henv
  obtain⟨⟨j,e0⟩,h1,h2⟩:=Tree.bind_some hrun
  have h1':=i0g h1
  obtain⟨f1,f2,f3⟩:=c1f henv hr ha []
  obtain⟨rfl,y,rfl,hc⟩:=h env j e0 h1'
  have hlen0:s.len=0:=f3.symm
  have h2':SV.int k y=v∧(⟨[],[]⟩:SW)=s1:=by
   have:(match((mkF args [] [] [(.int k 0,[])] op).outs)[0]? with|some o=>Tree.leaf (instV o.1 [Dat.n y],(⟨instBs o.2 [Dat.n y],(mkF args [] [] [(.int k 0,[])] op).log⟩:SW))|none=>.bad 321).sel=some (v,s1):=h2
   simp only[mkF,List.getElem?_cons_zero,Tree.sel,Option.some.injEq,Prod.mk.injEq]at this
   exact this
  obtain⟨rfl,rfl⟩:=h2'
  have f1':Rel r σ ⟨[],[]⟩ w:=f1
  refine(hc r σ w args' f1' f2).mono ?_
  rintro e w' ⟨rfl,hB⟩
  refine⟨_,rfl,r,σ,f1'.later hB.size (k3i hB),?_,.int _ _,fun x hx h=>by omega,by show s.len≤0;omega⟩
  rw[hlen0]
  exact(u2g hB 0 []).toK (RM.le_refl _) (Snap.le_refl _) (Nat.le_refl _)
 ·simp[Tree.sel]at hrun
theorem Rel.newArrAt {r:RM}{σ:Snap}{s:SW}{w:World}(h:Rel r σ s w){t:Ty}{l:List t.den}{c:Array Value}{T:TypeId}{f:Nat×Nat}{cap g:Nat}(hf:d0f c f)(hcap:l.length≤cap)(hc:cap*t.width≤c.size)
  (hr: ∀i (hi:i<l.length),RD σ t (fun k=>c[k]?) (i*t.width) l[i]) {w':World} (hB:Below w.heap.size w w') (hg:w.heap.size≤g) (hw:w'.heap[g]? =some (.cells c T f)):
  Rel (r.setArr s.len 0 ⟨some (g,0),l.length,cap,t.width⟩) σ (s.push (.arr t 0 l)) w'∧r.le (r.setArr s.len 0 ⟨some (g,0),l.length,cap,t.width⟩)∧
  Frame s.len s.log r (r.setArr s.len 0 ⟨some (g,0),l.length,cap,t.width⟩) σ σ w w':=by
 have hle:r.le (r.setArr s.len 0 ⟨some (g,0),l.length,cap,t.width⟩):=f0d (h.arr_len 0) _
 have hgw:g<w'.heap.size:=(Array.getElem?_eq_some_iff.1 hw).1
 have hat: ∀b j,(r.setArr s.len 0 ⟨some (g,0),l.length,cap,t.width⟩).at b j→r.at b j∨j=g:=fun b j k=>by
  rcases c0t k with q|⟨_,o,q⟩
  ·exact .inl q
  ·cases q;exact .inr rfl
 refine⟨h.change (b:=s.len) (x:=.arr t 0 l) ?_ (SW.blk_push _ _) (fun b' e=>SW.blk_push_ne _ _ e) (by rw[SW.len_push];omega),hle,?_⟩
 ·refine⟨hle,Snap.le_refl _,fun _ _ _ k=>k,fun b' g' p e k=> ?_,fun _ _ _ k=>k,hB.size,fun j hj _=>hB.block j hj,fun j hj=> ?_,?_,fun j hj=>(hat _ _ hj).imp id (by rintro rfl;exact hg),fun j c' hj=>.inl hj,?_,?_,?_,?_⟩
  ·simpa [RM.setArr,e]using k
  ·rcases hat _ _ hj with q|rfl
   ·exact Nat.lt_of_lt_of_le (h.inb _ _ q) hB.size
   ·exact hgw
  ·rintro j ⟨x,o,hx,hj⟩
   simp only[RM.setArr,and_self,if_true]at hx
   cases hx;cases hj;exact .inr hg
  ·intro es' j n e;cases e
  ·intro t' g' l' p e hp
   cases e
   simp only[RM.setArr,and_self,if_true]at hp
   cases hp
   refine⟨rfl,rfl,hcap,(fun e=>by cases e),fun j o e=> ?_⟩
   cases e
   exact⟨c,T,f,hw,hf,by simpa using hc,fun i hi=>by simpa using hr i hi⟩
  ·intro t g l p e;cases e
  ·intro t' g' l' g'' e hg
   cases e
   simp only[RM.setArr]
   rw[if_neg (by omega)]
   exact h.arr_len _
 ·refine⟨hB.os,hB.tape,hB.output,hB.size,fun b j k=> ?_,fun j hj _=>hB.block j hj,fun b hb _=>c0l (by omega),.refl⟩
  rcases hat b j k with q|rfl
  ·exact .inl q
  ·exact .inr hg
theorem m3p {f:FuncId}{args:List PV}{k:IntKind}{e:TypeId}{op:List Dat→Option (Nat×List Dat)}
  (h: ∀env j d,op env=some (j,d)→j=0∧ ∃l:List Int,d=[.l (.int k) l]∧ ∀(r:RM) (σ:Snap) (w:World) (args':Array Value),Rel r σ ⟨[],[]⟩ w→LRel r σ (instL args env) args'→
   Calls P f args' w fun e' w'=> ∃v,e'=.returned v∧w'.ownsRow w.heap.size e 1 v l.length (l.map (Value.int k))∧Below w.heap.size w w'):
  a0v P f (a0j (mkF args [] [] [(.own 0,[.arr (.int k) 0])] op)):=by
 intro args0 s v s1 hrun hlog r σ w args' hr ha
 unfold a0j at hrun
 split at hrun
 ·rename_i env henv
  obtain⟨⟨j,e0⟩,h1,h2⟩:=Tree.bind_some hrun
  have h1':=i0g h1
  obtain⟨f1,f2,f3⟩:=c1f henv hr ha []
  obtain⟨rfl,l,rfl,hc⟩:=h env j e0 h1'
  have hlen0:s.len=0:=f3.symm
  have h2':instV (.own 0) [.l (.int k) l]=v∧(⟨instBs [.arr (.int k) 0] [.l (.int k) l],[]⟩:SW)=s1:=by
   have:(match((mkF args [] [] [(.own 0,[.arr (.int k) 0])] op).outs)[0]? with|some o=>Tree.leaf (instV o.1 [Dat.l (.int k) l],(⟨instBs o.2 [Dat.l (.int k) l],(mkF args [] [] [(.own 0,[.arr (.int k) 0])] op).log⟩:SW))|none=>.bad 321).sel=some (v,s1):=h2
   simp only[mkF,List.getElem?_cons_zero,Tree.sel,Option.some.injEq,Prod.mk.injEq]at this
   exact this
  obtain⟨rfl,rfl⟩:=h2'
  have hgl:gl (.int k) [.l (.int k) l] 0=l:=m3y (.int k) l
  have hinst:(⟨instBs [.arr (.int k) 0] [.l (.int k) l],[]⟩:SW)=⟨[.arr (.int k) 0 l],[]⟩:=by show(⟨[Blk.arr (.int k) 0 (gl (.int k) [.l (.int k) l] 0)],[]⟩:SW)=_;rw[hgl]
  rw[hinst]
  have f1':Rel r σ ⟨[],[]⟩ w:=f1
  refine(hc r σ w args' f1' f2).mono ?_
  rintro e' w' ⟨v,rfl,⟨hlen,hv⟩,hB⟩
  refine⟨v,rfl,?_⟩
  rw[hlen0]
  show y1d 0 r σ s w (.own 0 0) _ v w'
  have hpush:(⟨[.arr (.int k) 0 l],[]⟩:SW)=(⟨[],[]⟩:SW).push (.arr (.int k) 0 l):=rfl
  rcases hv with⟨rfl,hn⟩|⟨g,cap,cur,rfl,hg,hgb,hcap,hmax,hsz,htk⟩
  ·have:l=[]:=List.length_eq_zero_iff.1 hn
   subst this
   obtain⟨m1,m2,m3⟩:=(f1'.later hB.size (k3i hB)).newNil (.int k)
   refine⟨_,σ,m1,?_,.own 0 0 (l0y (Ty.width (.int k))) (by simp[RM.setArr,SW.len]),fun x hx h=>by omega,Nat.zero_le _⟩
   exact((u2g hB 0 []).toK (RM.le_refl _) (Snap.le_refl _) (Nat.le_refl _)).trans (m3.toK m2 (Snap.le_refl _) (Nat.zero_le _)) fun _ h _=>h
  ·have hrow: ∀i (hi:i<l.length),RD σ (.int k) (fun q=>cur[q]?) (i*(Ty.width (.int k))) (l[i]:Int):=by
    intro i hi
    show cur[i*1]? =some (.int k l[i])
    have:(cur.toList.take (l.length*1))[i]? =some (.int k l[i]):=by rw[htk];simp[hi]
    rw[List.getElem?_take,if_pos (by omega)]at this
    simpa using this
   obtain⟨m1,m2,m3⟩:=Rel.newArrAt f1' (t:=.int k) (l:=l) (T:=e) (f:=(0,0)) (cap:=cap) (g:=g) (.inl rfl) hcap (by show cap*1≤_;omega) hrow hB hg hgb
   refine⟨_,σ,m1,m3.toK m2 (Snap.le_refl _) (Nat.zero_le _),?_,fun x hx h=>by omega,Nat.zero_le _⟩
   exact .own 0 0 ⟨some (g,0),l.length,cap,1⟩ (by simp[RM.setArr,SW.len,Ty.width];rfl)
 ·simp[Tree.sel]at hrun
end
theorem Rel.cells {r:RM}{σ:Snap}{s:SW}{w:World}(h:Rel r σ s w){w':World}(hs:w.heap.size≤w'.heap.size)(hk: ∀(j:Nat) (o:Obj),w.heap[j]? =some o→(o.isCells=true∨o.isWalk=true)→w'.heap[j]? =some o):Rel r σ s w':=by
 refine⟨fun j c hj=> ?_,h.dcel,h.darr,h.dmp,fun b j hj=>Nat.lt_of_lt_of_le (h.inb b j hj) hs,?_,?_,h.frz,h.uniq,h.free,h.gen,?_,?_,h.vgen,?_,?_⟩
 ·obtain⟨T,f,e⟩:=h.snap j c hj;exact⟨T,f,hk _ _ e (.inl rfl)⟩
 ·intro b es j n he hr
  obtain⟨c,T,f,h1,h2⟩:=h.cel b es j n he hr
  exact⟨c,T,f,hk _ _ h1 (.inl rfl),h2⟩
 ·intro b t g l x he hr
  have:=h.arr b t g l x he hr
  refine this.mono (Snap.le_refl _) fun j o hj=> ?_
  obtain⟨c,T,f,h1,_⟩:=this.row j o hj
  rw[h1];exact hk _ _ h1 (.inl rfl)
 ·intro b t p j he hj
  obtain⟨h1,h2⟩:=h.itr b t p j he hj
  exact⟨h1,hk _ _ h2 (.inr rfl)⟩
 ·intro b g es x he hr
  have:=h.vec b g es x he hr
  refine this.mono (RM.le_refl _) (Snap.le_refl _) fun j o hj=> ?_
  obtain⟨c,T,f,h1,_⟩:=this.row j o hj
  rw[h1];exact hk _ _ h1 (.inl rfl)
 ·intro b kt vt l j he hj
  obtain⟨es,h1,h2⟩:=h.map b kt vt l j he hj
  exact⟨es,hk _ _ h1 (.inr rfl),h2⟩
 ·intro b kt ks es j he hj
  obtain⟨ms,h1,h2⟩:=h.fmap b kt ks es j he hj
  exact⟨ms,hk _ _ h1 (.inr rfl),h2⟩
structure KR (W W':World):Prop where
 rel: ∀r σ s,Rel r σ s W→Rel r σ s W'
 cell: ∀(j:Nat) (o:Obj),W.heap[j]? =some o→o.isCells=true→W'.heap[j]? =some o
theorem KR.refl (W:World):KR W W:=⟨fun _ _ _ h=>h,fun _ _ h _=>h⟩
theorem KR.trans {A B C:World}(h:KR A B)(k:KR B C):KR A C:=⟨fun r σ s x=>k.rel r σ s (h.rel r σ s x),fun j o x hx=>k.cell j o (h.cell j o x hx) hx⟩
theorem KR.of {W W':World}(hs:W.heap.size≤W'.heap.size)(hk: ∀(j:Nat) (o:Obj),W.heap[j]? =some o→(o.isCells=true∨o.isWalk=true)→W'.heap[j]? =some o):KR W W':=
 ⟨fun r σ s h=>h.cells hs hk,fun j o e ho=>hk j o e (.inl ho)⟩
theorem KR.below {W W':World}(h:Below W.heap.size W W'):KR W W':=.of h.size fun j o e _=>(h.block j (Array.getElem?_eq_some_iff.1 e).1).trans e
theorem KR.putObj (W:World)(l:Nat)(o o':Obj)(hl:W.heap[l]? =some o)(ho:o.isCells=false)(hw:o.isWalk=false):KR W (W.putObj l o'):=by
 refine .of (by simp) fun j x e hx=> ?_
 have hne:j≠l:=by
  rintro rfl
  rw[hl]at e;cases e
  rcases hx with q|q
  ·rw[ho]at q;cases q
  ·rw[hw]at q;cases q
 exact(World.putObj_heap_other hne).trans e
theorem c2y {P:Program}{f:FuncId}{args:List PV}{op:List Dat→Option (Nat×List Dat)}
  (h: ∀env j d,op env=some (j,d)→j=0∧ ∃y:Bool,d=[.b y]∧ ∀(r:RM) (σ:Snap) (w:World) (args':Array Value),Rel r σ ⟨[],[]⟩ w→LRel r σ (instL args env) args'→Calls P f args' w fun e w'=>e=.returned (.bool y)∧Below w.heap.size w w'):
  a0v P f (a0j (mkF args [] [] [(.bool 0,[])] op)):=by
 intro args0 s v s1 hrun hlog r σ w args' hr ha
 unfold a0j at hrun
 split at hrun
 ·rename_i env henv
  obtain⟨⟨j,e0⟩,h1,h2⟩:=Tree.bind_some hrun
  have h1':=i0g h1
  obtain⟨f1,f2,f3⟩:=c1f henv hr ha []
  obtain⟨rfl,y,rfl,hc⟩:=h env j e0 h1'
  have hlen0:s.len=0:=f3.symm
  have h2':SV.bool y=v∧(⟨[],[]⟩:SW)=s1:=by
   have:(match((mkF args [] [] [(.bool 0,[])] op).outs)[0]? with|some o=>Tree.leaf (instV o.1 [Dat.b y],(⟨instBs o.2 [Dat.b y],(mkF args [] [] [(.bool 0,[])] op).log⟩:SW))|none=>.bad 321).sel=some (v,s1):=h2
   simp only[mkF,List.getElem?_cons_zero,Tree.sel,Option.some.injEq,Prod.mk.injEq]at this
   exact this
  obtain⟨rfl,rfl⟩:=h2'
  have f1':Rel r σ ⟨[],[]⟩ w:=f1
  refine(hc r σ w args' f1' f2).mono ?_
  rintro e w' ⟨rfl,hB⟩
  refine⟨_,rfl,r,σ,f1'.later hB.size (k3i hB),?_,.bool _,fun x hx h=>by omega,by show s.len≤0;omega⟩
  rw[hlen0]
  exact(u2g hB 0 []).toK (RM.le_refl _) (Snap.le_refl _) (Nat.le_refl _)
 ·simp[Tree.sel]at hrun
theorem h2z {F:Fence}(hF:F=Fence.wide){n:Nat}{P:Program}{f:FuncId}{g:a0q}(h:c1x P f g){args:List SV}{s s1:SW}{v:SV}(hr:(g args s).sel=some (v,s1))(hl:s1.log=[])
  {r:RM} {σ:Snap} {w:World} {args':Array Value} (hrel:Rel r σ s w) (ha:LRel r σ args args'):
  CallsIn F n P f args' w fun e w'=> ∃v' r' σ',e=.returned v'∧VRel r' σ' v v'∧Rel r' σ' s1 w'∧r.le r'∧σ.le σ'∧Below w.heap.size w w':=by
 subst hF
 rw[callsIn_wide]
 refine(h args s v s1 hr r σ w args' hrel ha).mono ?_
 rintro e w' ⟨v',rfl,r',σ',h1,h2,h3,h4,h5,h6⟩
 refine⟨v',r',σ',rfl,h5,h3,h1,h2,?_⟩
 rw[hl]at h4
 exact⟨h4.os,h4.tape,h4.output,h4.size,fun k hk=>h4.keep k hk (fun b hb=>by cases hb)⟩
theorem Below.grownBy0 {W W':World}(h:Below W.heap.size W W'):W.grownBy W' none:=⟨h.os,h.tape,h.output,h.size,fun k hk _=>h.block k hk⟩
section
variable {n:Nat} {P:Program} {ops:Array Oper} {Q:Exit→Act→World→Prop}
theorem d0a {i:Nat}{o:Oper}{K:Act→World→Prop}{a:Act}{w:World}{v:Value}(ho:ops[i]? =some o)(hw:Region.wanted o (yielded ops a.tmps)=true)
  (hx:(execOp a.eval o).run P w=.ok (.value v) w) (hK:K (a.put o.dst v) w):wpOpIn Fence.wide n P ops Q i K a w:=by
 unfold wpOpIn
 rw[ho]
 simp only[hw,if_true]
 refine⟨fun _ _=>trivial,?_⟩
 rw[show Fence.wide.round=none from rfl,Oper.semAt_none,hx]
 exact hK
theorem f0j {i:Nat}{o:Oper}{K:Act→World→Prop}{a:Act}{w:World}(ho:ops[i]? =some o)(hw:Region.wanted o (yielded ops a.tmps)=false)
  (hK:K (a.put o.dst undef) w):wpOpIn Fence.wide n P ops Q i K a w:=by
 unfold wpOpIn
 rw[ho]
 simp only[hw,Bool.false_eq_true,if_false]
 exact⟨fun _ _=>trivial,hK⟩
theorem m0d {i:Nat}{o:Oper}{K:Act→World→Prop}{a:Act}{w:World}{f:FuncId}{args':Array Value}(ho:ops[i]? =some o)(hw:Region.wanted o (yielded ops a.tmps)=true)
  (hx:(execOp a.eval o).run P w=.ok (.enter f args') w) (hc:CallsIn Fence.wide (n-1) P f args' w fun e w'=> ∃v,e=.returned v∧K (a.put o.dst v) w'):wpOpIn Fence.wide n P ops Q i K a w:=by
 unfold wpOpIn
 rw[ho]
 simp only[hw,if_true]
 refine⟨fun _ _=>trivial,?_⟩
 rw[show Fence.wide.round=none from rfl,Oper.semAt_none,hx]
 refine⟨(fun h=>by cases h),hc.mono ?_⟩
 rintro e w' ⟨v,rfl,hK⟩
 exact hK
theorem t0a {i:Nat}{o:Oper}{K:Act→World→Prop}{a:Act}{w:World}{l:Nat}{args':Array Value}{R:Ending→World→Prop}(ho:ops[i]? =some o)(hw:Region.wanted o (yielded ops a.tmps)=true)
  (hx:(execOp a.eval o).run P w=(Instr.yield l args').run P w) (hy:YieldAt Fence.wide (n-1) P l args' w R) (hK: ∀e w',R e w'→ ∃v,e=.returned v∧K (a.put o.dst v) w'):wpOpIn Fence.wide n P ops Q i K a w:=by
 obtain⟨fn,tmps,assign,body,h1,h2⟩:=hy
 unfold wpOpIn
 rw[ho]
 simp only[hw,if_true]
 refine⟨fun _ _=>trivial,?_⟩
 rw[show Fence.wide.round=none from rfl,Oper.semAt_none,hx,h1]
 refine⟨(fun h=>by cases h),h2.mono ?_⟩
 intro e w' hR
 obtain⟨v,rfl,hk⟩:=hK e w' hR
 exact hk
def LD (P:Program)(ops:Array Oper)(o:Oper)(v:Value)(S:World→Prop)(a:Act):Prop:=Region.wanted o (yielded ops a.tmps)=true∧ ∀W,S W→(execOp a.eval o).run P W=.ok (.value v) W
theorem k1d {S:World→Prop}{i:Nat}{o:Oper}{K:Act→World→Prop}{a:Act}{w:World}{v:Value}(ho:ops[i]? =some o)(h:LD P ops o v S a)(hS:S w)(hK:K (a.put o.dst v) w):wpOpIn Fence.wide n P ops Q i K a w:=
 d0a ho h.1 (h.2 w hS) hK
theorem any_ll {S:World→Prop}{fuel:Nat}{listed:Array Bool}{a:Act}{w:World}{i k:Nat}{oi ok:Oper}{vi vk:Value}(hi:ops[i]? =some oi)(hk:ops[k]? =some ok)
  (r0:Region.ready .any ops listed=[i,k]) (r1:Region.ready .any ops (listed.setIfInBounds i true)=[k]) (r2:Region.ready .any ops (listed.setIfInBounds k true)=[i])
  (Li:LD P ops oi vi S a) (Li':LD P ops oi vi S (a.put ok.dst vk)) (Lk:LD P ops ok vk S a) (Lk':LD P ops ok vk S (a.put oi.dst vi)) (hS:S w)
  (e1:(a.put ok.dst vk).put oi.dst vi=(a.put oi.dst vi).put ok.dst vk) (l1:(listed.setIfInBounds k true).setIfInBounds i true=(listed.setIfInBounds i true).setIfInBounds k true)
  (h:wpAnyIn Fence.wide n P .any ops Q fuel ((listed.setIfInBounds i true).setIfInBounds k true) ((a.put oi.dst vi).put ok.dst vk) w):wpAnyIn Fence.wide n P .any ops Q (fuel+2) listed a w:=by
 refine wpAnyIn_all r0 (by simp) fun q hq=> ?_
 simp only[List.mem_cons,List.not_mem_nil,or_false]at hq
 rcases hq with rfl|rfl
 ·refine k1d hi Li hS (wpAnyIn_all r1 (by simp) fun q hq=> ?_)
  cases List.mem_singleton.1 hq
  exact k1d hk Lk' hS h
 ·refine k1d hk Lk hS (wpAnyIn_all r2 (by simp) fun q hq=> ?_)
  cases List.mem_singleton.1 hq
  refine k1d hi Li' hS ?_
  rw[e1,l1];exact h
theorem o2m {S:World→Prop}{fuel:Nat}{listed:Array Bool}{a:Act}{w:World}{i j k:Nat}{oi oj ok:Oper}{vi vk:Value}{f:FuncId}{args':Array Value}(hi:ops[i]? =some oi)(hj:ops[j]? =some oj)(hk:ops[k]? =some ok)
  (r0:Region.ready .any ops listed=[i,k]) (r1:Region.ready .any ops (listed.setIfInBounds i true)=[j,k]) (r2:Region.ready .any ops (listed.setIfInBounds k true)=[i])
  (r3:Region.ready .any ops ((listed.setIfInBounds i true).setIfInBounds k true)=[j]) (r4:Region.ready .any ops ((listed.setIfInBounds i true).setIfInBounds j true)=[k])
  (Li:LD P ops oi vi S a) (Li':LD P ops oi vi S (a.put ok.dst vk)) (Lk:LD P ops ok vk S a) (Lk':LD P ops ok vk S (a.put oi.dst vi)) (Lk2: ∀v,LD P ops ok vk S ((a.put oi.dst vi).put oj.dst v)) (hS:S w)
  (w1:Region.wanted oj (yielded ops (a.put oi.dst vi).tmps)=true) (w2:Region.wanted oj (yielded ops ((a.put oi.dst vi).put ok.dst vk).tmps)=true)
  (x1:(execOp (a.put oi.dst vi).eval oj).run P w=.ok (.enter f args') w) (x2:(execOp ((a.put oi.dst vi).put ok.dst vk).eval oj).run P w=.ok (.enter f args') w)
  (e1:(a.put ok.dst vk).put oi.dst vi=(a.put oi.dst vi).put ok.dst vk) (e2: ∀v,((a.put oi.dst vi).put ok.dst vk).put oj.dst v=((a.put oi.dst vi).put oj.dst v).put ok.dst vk)
  (l1:(listed.setIfInBounds k true).setIfInBounds i true=(listed.setIfInBounds i true).setIfInBounds k true) (l2:((listed.setIfInBounds i true).setIfInBounds k true).setIfInBounds j true=((listed.setIfInBounds i true).setIfInBounds j true).setIfInBounds k true)
  (hc:CallsIn Fence.wide (n-1) P f args' w fun e w'=> ∃v,e=.returned v∧S w'∧wpAnyIn Fence.wide n P .any ops Q fuel (((listed.setIfInBounds i true).setIfInBounds j true).setIfInBounds k true) (((a.put oi.dst vi).put oj.dst v).put ok.dst vk) w'):
  wpAnyIn Fence.wide n P .any ops Q (fuel+3) listed a w:=by
 have both:wpAnyIn Fence.wide n P .any ops Q (fuel+1) ((listed.setIfInBounds i true).setIfInBounds k true) ((a.put oi.dst vi).put ok.dst vk) w:=by
  refine wpAnyIn_all r3 (by simp) fun q hq=> ?_
  cases List.mem_singleton.1 hq
  refine m0d hj w2 x2 (hc.mono ?_)
  rintro e w' ⟨v,rfl,_,h⟩
  refine⟨v,rfl,?_⟩
  rw[e2,l2];exact h
 refine wpAnyIn_all r0 (by simp) fun q hq=> ?_
 simp only[List.mem_cons,List.not_mem_nil,or_false]at hq
 rcases hq with rfl|rfl
 ·refine k1d hi Li hS (wpAnyIn_all r1 (by simp) fun q hq=> ?_)
  simp only[List.mem_cons,List.not_mem_nil,or_false]at hq
  rcases hq with rfl|rfl
  ·refine m0d hj w1 x1 (hc.mono ?_)
   rintro e w' ⟨v,rfl,hS',h⟩
   refine⟨v,rfl,wpAnyIn_all r4 (by simp) fun q hq=> ?_⟩
   cases List.mem_singleton.1 hq
   exact k1d hk (Lk2 v) hS' h
  ·exact k1d hk Lk' hS both
 ·refine k1d hk Lk hS (wpAnyIn_all r2 (by simp) fun q hq=> ?_)
  cases List.mem_singleton.1 hq
  refine k1d hi Li' hS ?_
  rw[e1,l1];exact both
end
theorem m0v {P:Program}{w:World}{o:Oper}{A:Act}{z:Operand}{xs:Array Operand}{ts:Array TypeId}{l:Nat}{args':Array Value}(ho:o.op=.call ⟨.value z,xs,ts⟩)(hz:A.eval z=.func (.yield l) #[] #[])(ha:xs.map A.eval=args'):
  (execOp A.eval o).run P w=(Instr.yield l args').run P w:=by
 obtain⟨dst,op,ty,pos,aft,gd⟩:=o
 simp only at ho
 subst ho ha
 simp only[execOp,resolve,hz,Deferred.ofValue,invoke,Sem.run_bind,Sem.run_pure,Result.andThen_ok]
 simp
theorem f0a {P:Program}{w:World}{o:Oper}{A:Act}{f:FuncId}{xs:Array Operand}{ts:Array TypeId}{args':Array Value}{fn:Func}{c:Code}(ho:o.op=.call ⟨.value (.func f),xs,ts⟩)(ha:xs.map A.eval=args')
  (hf:P.funcs[f]? =some fn) (hb:fn.body=some c) (hn:(fn.name== "runtime.NumGoroutine")=false):(execOp A.eval o).run P w=.ok (.enter f args') w:=by
 obtain⟨dst,op,ty,pos,aft,gd⟩:=o
 simp only at ho
 subst ho ha
 have hp:(program).run P w=.ok P w:=rfl
 have hz:A.eval (.func f)=.func (.func f) #[] #[]:=rfl
 simp only[execOp,resolve,hz,Deferred.ofValue,invoke,callFunc,Sem.run_bind,Sem.run_pure,Result.andThen_ok,hp,hf]
 simp[hn,hb]
section
variable {n:Nat} {P:Program} {ops:Array Oper} {Q:Exit→Act→World→Prop}
theorem k1a {fuel:Nat}{listed:Array Bool}{a a':Act}{w:World}(hr:Region.ready .any ops listed=[])(he:a=a')(h:Q .normal a' w):wpAnyIn Fence.wide n P .any ops Q fuel listed a w:=wpAnyIn_done hr (he▸h) fuel
theorem b0f {fuel:Nat}{l l':Array Bool}{a a':Act}{w:World}(hl:l=l')(he:a=a')(h:wpAnyIn Fence.wide n P .any ops Q fuel l' a' w):wpAnyIn Fence.wide n P .any ops Q fuel l a w:=by
 subst hl he;exact h
theorem b0e {l:List Nat}{a a':Act}{w:World}(he:a=a')(h:wpOpsIn Fence.wide n P ops Q l a' w):wpOpsIn Fence.wide n P ops Q l a w:=by
 subst he;exact h
theorem b1p {id:Nat}{l:List Nat}{a:Act}{w:World}(hl:List.range ops.size=l)(h:wpOpsIn Fence.wide n P ops Q l a w):(Code.region id ops false).wpIn Fence.wide n P Q a w:=wpIn_region (hl▸h)
theorem b1y {a a':Act}{w:World}(he:a=a')(h:Q .normal a' w):wpOpsIn Fence.wide n P ops Q [] a w:=by
 subst he;exact h
theorem a0u {i:Nat}{l:List Nat}{a:Act}{w:World}(h:wpOpIn Fence.wide n P ops Q i (wpOpsIn Fence.wide n P ops Q l) a w):wpOpsIn Fence.wide n P ops Q (i::l) a w:=by
 rw[wpOpsIn_cons];exact h
end
def apN (l:List (Ty.den TNd))(e:Ty.den TNd):List (Ty.den TNd):=l++[e]
def e0t (env:List Dat):Tree Step:=Lk.stepMC false LK s2g 158 2 ls0 (mkM 0 [] [(sh 19 [(0,.imm TI 0),(1,.int .i64 1),(7,.int .i64 2),(8,.int .i64 3)],[])] [] [(.exit 0,sh 19 [],[]),(.ret,sh 19 [(4,.int .i64 0)],[])] fun _=>none) env
theorem h3t: ∃f:List Dat→Option (Nat×List Dat),∀env,f env=a0b e0t FU env:=⟨a0b e0t FU,fun _=>rfl⟩
def m0y:List Dat→Option (Nat×List Dat):=Classical.choose h3t
theorem s0i (env:List Dat):m0y env=a0b e0t FU env:=Classical.choose_spec h3t env
def g1x:MBox:=mkM 0 [] [(sh 19 [(0,.imm TI 0),(1,.int .i64 1),(7,.int .i64 2),(8,.int .i64 3)],[])] [] [(.exit 0,sh 19 [],[]),(.ret,sh 19 [(4,.int .i64 0)],[])] m0y
theorem q1z:g1x=mkM 0 [] [(sh 19 [(0,.imm TI 0),(1,.int .i64 1),(7,.int .i64 2),(8,.int .i64 3)],[])] [] [(.exit 0,sh 19 [],[]),(.ret,sh 19 [(4,.int .i64 0)],[])] (a0b e0t FU):=congrArg (fun f=>mkM 0 [] [(sh 19 [(0,.imm TI 0),(1,.int .i64 1),(7,.int .i64 2),(8,.int .i64 3)],[])] [] [(.exit 0,sh 19 [],[]),(.ret,sh 19 [(4,.int .i64 0)],[])] f) (funext s0i)
theorem r1k: ∀t s x,(a0h g1x t s).sel=some x→a0k Tryz.prog 0 (.loop (cAt Tryz.prog 158 2)) t s x:=by
 rw[q1z]
 exact a0o (st:=e0t) (m:=FU) j1q hmix false (LsOk.none _ _ _) (by kernel_rfl) (fun env y h=>by rw[←stepMC_lk];exact h)
def g0y:List Dat→Tree Step
 |[.l (Ty.int IntKind.i64) l0,.n n1,.n n2,.n n3]=>
  (.node (decide (n3<n2))
   (.node (n1==(List.getD l0 (Int.toNat n3) (0:Int):Int))
   (.leaf (Step.stop 1 [.n n3]))
   (.leaf (Step.go [.k 0,.l TI l0,.n n1,.n n2,.n (IntKind.wrap .i64 (n3+(1:Int)))])))
   (.leaf (Step.stop 0 [])))
 |_=>.bad 0
theorem g0n (l0:List (Ty.den TI))(n1:Int)(n2:Int)(n3:Int)(g0:0≤n3)(g1:n2=(l0.length:Int)):Imp (g0y [.l TI l0,.n n1,.n n2,.n n3]) (e0t [.k 0,.l TI l0,.n n1,.n n2,.n n3]):=
(.pa [1]
(.nd (fun h0=>
(.pt (c:=(inR n3 (List.length l0))) (by kernel_rfl) (by kernel_rfl) (by(simp only[w64d,decide_eq_true_eq,decide_eq_false_iff_not,beq_iff_eq,beq_eq_false_iff_ne,bne_iff_ne,ne_eq,inR,Bool.and_eq_true,Bool.and_eq_false_iff,Bool.not_eq_true',Bool.not_eq_false',Bool.not_eq_eq_eq_not,Bool.not_true,Bool.not_false]at*;omega))
(.nd (fun h1=>
(.pa [1]
.lf)) (fun h1=>
(.pa [1]
.lf))))) (fun h0=>
(.pa [1]
.lf))))
theorem d2k:LsOk Tryz.prog (List.length ([]:List PB)) (lsM [(2,g1x)] (List.length ([]:List PB))) (a0r Tryz.prog 158):=LsOk.many fun j B hB hk c hc hi=>by
 simp only[b0d]at hB
 split at hB
 ·rename_i e;have:=Nat.eq_of_beq_eq_true e;subst this;cases hB
  have e1:p0c Tryz.prog 158 2=[cAt Tryz.prog 158 2]:=a0e (by kernel_rfl)
  have e2:c∈p0c Tryz.prog 158 2:=a0d hc hi
  rw[e1]at e2;cases List.mem_singleton.1 e2;exact r1k
 cases hB
def k1e (env:List Dat):Tree (Nat×List Dat):=Lk.boxC false LK s2g 158 (lsM [(2,g1x)] (List.length ([]:List PB))) (mkF [.imm TI 0,.int .i64 1] [] [] [(.int .i64 0,[])] fun _=>none) env
theorem j3l: ∃f:List Dat→Option (Nat×List Dat),∀env,f env=(k1e env).sel:=⟨fun env=>(k1e env).sel,fun _=>rfl⟩
def d1u:List Dat→Option (Nat×List Dat):=Classical.choose j3l
theorem f1c (env:List Dat):d1u env=(k1e env).sel:=Classical.choose_spec j3l env
def Bc146:FBox:=mkF [.imm TI 0,.int .i64 1] [] [] [(.int .i64 0,[])] d1u
theorem v2s:a0v Tryz.prog 158 (a0j Bc146):=a0p (op:=d1u) j1q hmix false (d2k) (fun env x h=>by rw[f1c]at h;rw[←boxC_lk];exact h)
def l1r:List Dat→Tree (Nat×List Dat)
 |[.l (Ty.int IntKind.i64) l0,.n n1]=>
  (let r1:Option (Nat×List Dat):=(m0y [.k 0,.l TI l0,.n n1,.n (↑(List.length l0):Int),.n (0:Int)]);
   (.node (isK 0 [] r1)
   (.leaf ((0,[.n (-1:Int)])))
   (.node (isK 1 [HK.n] r1)
    (.leaf ((0,[.n (gn (dOf r1) 0)])))
    (.bad 351))))
 |_=>.bad 0
theorem m1b (l0:List (Ty.den TI))(n1:Int):Imp (l1r [.l TI l0,.n n1]) (k1e [.l TI l0,.n n1]):=
(.nd (fun h0=>
(.pa [1]
.lf)) (fun h0=>
(.nd (fun h1=>
(.pa [1]
.lf)) (fun h1=>
.none))))
def r1e:FuncId→Option a0q:=a0s 158 Bc146 s2g
theorem f1b:CsOk Tryz.prog r1e:=a0g j1q v2s
def g1n (env:List Dat):Tree (Nat×List Dat):=Lk.boxC false LK r1e 155 ls0 (mkF [.imm TI 0,.int .i64 1] [] [] [(.bool 0,[])] fun _=>none) env
theorem j3q: ∃f:List Dat→Option (Nat×List Dat),∀env,f env=(g1n env).sel:=⟨fun env=>(g1n env).sel,fun _=>rfl⟩
def v0t:List Dat→Option (Nat×List Dat):=Classical.choose j3q
theorem f1w (env:List Dat):v0t env=(g1n env).sel:=Classical.choose_spec j3q env
def Bc142:FBox:=mkF [.imm TI 0,.int .i64 1] [] [] [(.bool 0,[])] v0t
theorem q2q:a0v Tryz.prog 155 (a0j Bc142):=a0p (op:=v0t) f1b hmix false (LsOk.none _ _ _) (fun env x h=>by rw[f1w]at h;rw[←boxC_lk];exact h)
def o1p:List Dat→Tree (Nat×List Dat)
 |[.l (Ty.int IntKind.i64) l0,.n n1]=>
  (let r1:Option (Nat×List Dat):=(d1u [.l TI l0,.n n1]);
   (.node (isK 0 [HK.n] r1)
   (.leaf ((0,[.b (decide (gn (dOf r1) 0≥(0:Int)))])))
   (.bad 351)))
 |_=>.bad 0
theorem n1w (l0:List (Ty.den TI))(n1:Int):Imp (o1p [.l TI l0,.n n1]) (g1n [.l TI l0,.n n1]):=
(.nd (fun h0=>
(.pa [1,1]
.lf)) (fun h0=>
.none))
def j1w:FuncId→Option a0q:=a0s 155 Bc142 r1e
theorem v0w:CsOk Tryz.prog j1w:=a0g f1b q2q
def e0l (env:List Dat):Tree Step:=Lk.stepMC false LK j1w 138 2 ls0 (mkM 0 [] [(sh 17 [(1,.imm TI 0),(7,.imm TI 1),(8,.int .i64 2),(9,.int .i64 3)],[])] [] [(.exit 0,sh 17 [],[]),(.ret,sh 17 [(4,.bool 0)],[])] fun _=>none) env
theorem h3m: ∃f:List Dat→Option (Nat×List Dat),∀env,f env=a0b e0l FU env:=⟨a0b e0l FU,fun _=>rfl⟩
def n0v:List Dat→Option (Nat×List Dat):=Classical.choose h3m
theorem s0h (env:List Dat):n0v env=a0b e0l FU env:=Classical.choose_spec h3m env
def h1t:MBox:=mkM 0 [] [(sh 17 [(1,.imm TI 0),(7,.imm TI 1),(8,.int .i64 2),(9,.int .i64 3)],[])] [] [(.exit 0,sh 17 [],[]),(.ret,sh 17 [(4,.bool 0)],[])] n0v
theorem t1j:h1t=mkM 0 [] [(sh 17 [(1,.imm TI 0),(7,.imm TI 1),(8,.int .i64 2),(9,.int .i64 3)],[])] [] [(.exit 0,sh 17 [],[]),(.ret,sh 17 [(4,.bool 0)],[])] (a0b e0l FU):=congrArg (fun f=>mkM 0 [] [(sh 17 [(1,.imm TI 0),(7,.imm TI 1),(8,.int .i64 2),(9,.int .i64 3)],[])] [] [(.exit 0,sh 17 [],[]),(.ret,sh 17 [(4,.bool 0)],[])] f) (funext s0h)
theorem s1i: ∀t s x,(a0h h1t t s).sel=some x→a0k Tryz.prog 0 (.loop (cAt Tryz.prog 138 2)) t s x:=by
 rw[t1j]
 exact a0o (st:=e0l) (m:=FU) v0w hmix false (LsOk.none _ _ _) (by kernel_rfl) (fun env y h=>by rw[←stepMC_lk];exact h)
def h0c:List Dat→Tree Step
 |[.l (Ty.int IntKind.i64) l0,.l (Ty.int IntKind.i64) l1,.n n2,.n n3]=>
  (.node (decide (n3<n2))
   (let r1:Option (Nat×List Dat):=(v0t [.l TI l0,.n (List.getD l1 (Int.toNat n3) (0:Int))]);
   (.node (isK 0 [HK.b] r1)
    (.node (gb (dOf r1) 0)
    (.leaf (Step.stop 1 [.b true]))
    (.leaf (Step.go [.k 0,.l TI l0,.l TI l1,.n n2,.n (IntKind.wrap .i64 (n3+(1:Int)))])))
    (.bad 351)))
   (.leaf (Step.stop 0 [])))
 |_=>.bad 0
theorem g0b (l0:List (Ty.den TI))(l1:List (Ty.den TI))(n2:Int)(n3:Int)(g0:0≤n3)(g1:n2=(l1.length:Int)):Imp (h0c [.l TI l0,.l TI l1,.n n2,.n n3]) (e0l [.k 0,.l TI l0,.l TI l1,.n n2,.n n3]):=
(.pa [1]
(.nd (fun h0=>
(.pt (c:=(inR n3 (List.length l1))) (by kernel_rfl) (by kernel_rfl) (by(simp only[w64d,decide_eq_true_eq,decide_eq_false_iff_not,beq_iff_eq,beq_eq_false_iff_ne,bne_iff_ne,ne_eq,inR,Bool.and_eq_true,Bool.and_eq_false_iff,Bool.not_eq_true',Bool.not_eq_false',Bool.not_eq_eq_eq_not,Bool.not_true,Bool.not_false]at*;omega))
(.nd (fun h1=>
(.pa [1]
(.nd (fun h2=>
(.pa [1]
.lf)) (fun h2=>
(.pa [1]
.lf))))) (fun h1=>
.none)))) (fun h0=>
(.pa [1]
.lf))))
theorem b2q:LsOk Tryz.prog (List.length ([]:List PB)) (lsM [(2,h1t)] (List.length ([]:List PB))) (a0r Tryz.prog 138):=LsOk.many fun j B hB hk c hc hi=>by
 simp only[b0d]at hB
 split at hB
 ·rename_i e;have:=Nat.eq_of_beq_eq_true e;subst this;cases hB
  have e1:p0c Tryz.prog 138 2=[cAt Tryz.prog 138 2]:=a0e (by kernel_rfl)
  have e2:c∈p0c Tryz.prog 138 2:=a0d hc hi
  rw[e1]at e2;cases List.mem_singleton.1 e2;exact s1i
 cases hB
def i1q (env:List Dat):Tree (Nat×List Dat):=Lk.boxC false LK j1w 138 (lsM [(2,h1t)] (List.length ([]:List PB))) (mkF [.imm TI 0,.imm TI 1] [] [] [(.bool 0,[])] fun _=>none) env
theorem j3k: ∃f:List Dat→Option (Nat×List Dat),∀env,f env=(i1q env).sel:=⟨fun env=>(i1q env).sel,fun _=>rfl⟩
def a1i:List Dat→Option (Nat×List Dat):=Classical.choose j3k
theorem e1o (env:List Dat):a1i env=(i1q env).sel:=Classical.choose_spec j3k env
def Bc122:FBox:=mkF [.imm TI 0,.imm TI 1] [] [] [(.bool 0,[])] a1i
theorem v2p:a0v Tryz.prog 138 (a0j Bc122):=a0p (op:=a1i) v0w hmix false (b2q) (fun env x h=>by rw[e1o]at h;rw[←boxC_lk];exact h)
def m1w:List Dat→Tree (Nat×List Dat)
 |[.l (Ty.int IntKind.i64) l0,.l (Ty.int IntKind.i64) l1]=>
  (let r1:Option (Nat×List Dat):=(n0v [.k 0,.l TI l1,.l TI l0,.n (↑(List.length l0):Int),.n (0:Int)]);
   (.node (isK 0 [] r1)
   (.leaf ((0,[.b false])))
   (.node (isK 1 [HK.b] r1)
    (.leaf ((0,[.b (gb (dOf r1) 0)])))
    (.bad 351))))
 |_=>.bad 0
theorem n1i (l0:List (Ty.den TI))(l1:List (Ty.den TI)):Imp (m1w [.l TI l0,.l TI l1]) (i1q [.l TI l0,.l TI l1]):=
(.nd (fun h0=>
(.pa [1]
.lf)) (fun h0=>
(.nd (fun h1=>
(.pa [1]
.lf)) (fun h1=>
.none))))
def g1s:FuncId→Option a0q:=a0s 138 Bc122 j1w
theorem v0l:CsOk Tryz.prog g1s:=a0g v0w v2p
def e0m (env:List Dat):Tree Step:=Lk.stepMC false LK g1s 156 2 ls0 (mkM 0 [] [(sh 21 [(1,.int .i64 0),(8,.imm TNd 1),(9,.int .i64 2),(10,.int .i64 3)],[])] [] [(.exit 0,sh 21 [],[]),(.ret,sh 21 [(4,.bool 0),(5,.bool 1)],[])] fun _=>none) env
theorem h3o: ∃f:List Dat→Option (Nat×List Dat),∀env,f env=a0b e0m FU env:=⟨a0b e0m FU,fun _=>rfl⟩
def n0p:List Dat→Option (Nat×List Dat):=Classical.choose h3o
theorem t0s (env:List Dat):n0p env=a0b e0m FU env:=Classical.choose_spec h3o env
def h1y:MBox:=mkM 0 [] [(sh 21 [(1,.int .i64 0),(8,.imm TNd 1),(9,.int .i64 2),(10,.int .i64 3)],[])] [] [(.exit 0,sh 21 [],[]),(.ret,sh 21 [(4,.bool 0),(5,.bool 1)],[])] n0p
theorem q1n:h1y=mkM 0 [] [(sh 21 [(1,.int .i64 0),(8,.imm TNd 1),(9,.int .i64 2),(10,.int .i64 3)],[])] [] [(.exit 0,sh 21 [],[]),(.ret,sh 21 [(4,.bool 0),(5,.bool 1)],[])] (a0b e0m FU):=congrArg (fun f=>mkM 0 [] [(sh 21 [(1,.int .i64 0),(8,.imm TNd 1),(9,.int .i64 2),(10,.int .i64 3)],[])] [] [(.exit 0,sh 21 [],[]),(.ret,sh 21 [(4,.bool 0),(5,.bool 1)],[])] f) (funext t0s)
theorem r1r: ∀t s x,(a0h h1y t s).sel=some x→a0k Tryz.prog 0 (.loop (cAt Tryz.prog 156 2)) t s x:=by
 rw[q1n]
 exact a0o (st:=e0m) (m:=FU) v0l hmix false (LsOk.none _ _ _) (by kernel_rfl) (fun env y h=>by rw[←stepMC_lk];exact h)
def g0v:List Dat→Tree Step
 |[.n n0,.l (Ty.pair (Ty.int IntKind.i64) Ty.bool) l1,.n n2,.n n3]=>
  (.node (decide (n3<n2))
   (.node (Prod.fst (List.getD l1 (Int.toNat n3) (Ty.dflt TNd))==n0)
   (.leaf (Step.stop 1 [.b (Prod.snd (List.getD l1 (Int.toNat n3) (Ty.dflt TNd))),.b true]))
   (.leaf (Step.go [.k 0,.n n0,.l TNd l1,.n n2,.n (IntKind.wrap .i64 (n3+(1:Int)))])))
   (.leaf (Step.stop 0 [])))
 |_=>.bad 0
theorem f0z (n0:Int)(l1:List (Ty.den TNd))(n2:Int)(n3:Int)(g0:0≤n3)(g1:n2=(l1.length:Int)):Imp (g0v [.n n0,.l TNd l1,.n n2,.n n3]) (e0m [.k 0,.n n0,.l TNd l1,.n n2,.n n3]):=
(.pa [1]
(.nd (fun h0=>
(.pt (c:=(inR n3 (List.length l1))) (by kernel_rfl) (by kernel_rfl) (by(simp only[w64d,decide_eq_true_eq,decide_eq_false_iff_not,beq_iff_eq,beq_eq_false_iff_ne,bne_iff_ne,ne_eq,inR,Bool.and_eq_true,Bool.and_eq_false_iff,Bool.not_eq_true',Bool.not_eq_false',Bool.not_eq_eq_eq_not,Bool.not_true,Bool.not_false]at*;omega))
(.nd (fun h1=>
(.pa [1]
.lf)) (fun h1=>
(.pa [1]
.lf))))) (fun h0=>
(.pa [1]
.lf))))
theorem e2z:LsOk Tryz.prog (List.length ([]:List PB)) (lsM [(2,h1y)] (List.length ([]:List PB))) (a0r Tryz.prog 156):=LsOk.many fun j B hB hk c hc hi=>by
 simp only[b0d]at hB
 split at hB
 ·rename_i e;have:=Nat.eq_of_beq_eq_true e;subst this;cases hB
  have e1:p0c Tryz.prog 156 2=[cAt Tryz.prog 156 2]:=a0e (by kernel_rfl)
  have e2:c∈p0c Tryz.prog 156 2:=a0d hc hi
  rw[e1]at e2;cases List.mem_singleton.1 e2;exact r1r
 cases hB
def j1m (env:List Dat):Tree (Nat×List Dat):=Lk.boxC false LK g1s 156 (lsM [(2,h1y)] (List.length ([]:List PB))) (mkF [.imm TNd 0,.int .i64 1] [] [] [(.tup [.bool 0,.bool 1],[])] fun _=>none) env
theorem j3r: ∃f:List Dat→Option (Nat×List Dat),∀env,f env=(j1m env).sel:=⟨fun env=>(j1m env).sel,fun _=>rfl⟩
def q0d:List Dat→Option (Nat×List Dat):=Classical.choose j3r
theorem f1h (env:List Dat):q0d env=(j1m env).sel:=Classical.choose_spec j3r env
def Bc143:FBox:=mkF [.imm TNd 0,.int .i64 1] [] [] [(.tup [.bool 0,.bool 1],[])] q0d
theorem r2y:a0v Tryz.prog 156 (a0j Bc143):=a0p (op:=q0d) v0l hmix false (e2z) (fun env x h=>by rw[f1h]at h;rw[←boxC_lk];exact h)
def l1o:List Dat→Tree (Nat×List Dat)
 |[.l (Ty.pair (Ty.int IntKind.i64) Ty.bool) l0,.n n1]=>
  (let r1:Option (Nat×List Dat):=(n0p [.k 0,.n n1,.l TNd l0,.n (↑(List.length l0):Int),.n (0:Int)]);
   (.node (isK 0 [] r1)
   (.leaf ((0,[.b false,.b false])))
   (.node (isK 1 [HK.b,HK.b] r1)
    (.leaf ((0,[.b (gb (dOf r1) 0),.b (gb (dOf r1) 1)])))
    (.bad 351))))
 |_=>.bad 0
theorem n1j (l0:List (Ty.den TNd))(n1:Int):Imp (l1o [.l TNd l0,.n n1]) (j1m [.l TNd l0,.n n1]):=
(.nd (fun h0=>
(.pa [1]
.lf)) (fun h0=>
(.nd (fun h1=>
(.pa [1]
.lf)) (fun h1=>
.none))))
def k1j:FuncId→Option a0q:=a0s 156 Bc143 g1s
theorem v0v:CsOk Tryz.prog k1j:=a0g v0l r2y
def e0k (env:List Dat):Tree Step:=Lk.stepMC false LK k1j 139 3 ls0 (mkM 0 [] [(sh 30 [(3,.own 0),(9,.own 1),(10,.int .i64 0),(11,.int .i64 1)],[.arr TNd 2,.arr TNd 3])] [(3,TNd)] [(.exit 0,sh 30 [(3,.own 0)],[.arr TNd 0])] fun _=>none) env
theorem h3p: ∃f:List Dat→Option (Nat×List Dat),∀env,f env=a0b e0k FU env:=⟨a0b e0k FU,fun _=>rfl⟩
def o0k:List Dat→Option (Nat×List Dat):=Classical.choose h3p
theorem u0g (env:List Dat):o0k env=a0b e0k FU env:=Classical.choose_spec h3p env
def g1k:MBox:=mkM 0 [] [(sh 30 [(3,.own 0),(9,.own 1),(10,.int .i64 0),(11,.int .i64 1)],[.arr TNd 2,.arr TNd 3])] [(3,TNd)] [(.exit 0,sh 30 [(3,.own 0)],[.arr TNd 0])] o0k
theorem t1i:g1k=mkM 0 [] [(sh 30 [(3,.own 0),(9,.own 1),(10,.int .i64 0),(11,.int .i64 1)],[.arr TNd 2,.arr TNd 3])] [(3,TNd)] [(.exit 0,sh 30 [(3,.own 0)],[.arr TNd 0])] (a0b e0k FU):=congrArg (fun f=>mkM 0 [] [(sh 30 [(3,.own 0),(9,.own 1),(10,.int .i64 0),(11,.int .i64 1)],[.arr TNd 2,.arr TNd 3])] [(3,TNd)] [(.exit 0,sh 30 [(3,.own 0)],[.arr TNd 0])] f) (funext u0g)
theorem q1l: ∀t s x,(a0h g1k t s).sel=some x→a0k Tryz.prog 0 (.loop (cAt Tryz.prog 139 3)) t s x:=by
 rw[t1i]
 exact a0o (st:=e0k) (m:=FU) v0v hmix false (LsOk.none _ _ _) (by kernel_rfl) (fun env y h=>by rw[←stepMC_lk];exact h)
def m0k:List Dat→Tree Step
 |[.n n0,.n n1,.l (Ty.pair (Ty.int IntKind.i64) Ty.bool) l2,.l (Ty.pair (Ty.int IntKind.i64) Ty.bool) l3]=>
  (.node (decide (n1<n0))
   (let r1:Option (Nat×List Dat):=(q0d [.l TNd l2,.n (Prod.fst (List.getD l3 (Int.toNat n1) (Ty.dflt TNd)))]);
   (.node (isK 0 [HK.b,HK.b] r1)
    (.node (!gb (dOf r1) 1)
    (.node (decide ((List.length l2+1)*16≤140737488355328))
     (.leaf (Step.go [.k 0,.n n0,.n (IntKind.wrap .i64 (n1+(1:Int))),.l TNd (apN l2 (Prod.fst (List.getD l3 (Int.toNat n1) (Ty.dflt TNd)),Prod.snd (List.getD l3 (Int.toNat n1) (Ty.dflt TNd)))),.l TNd l3]))
     (.bad 62))
    (.leaf (Step.go [.k 0,.n n0,.n (IntKind.wrap .i64 (n1+(1:Int))),.l TNd l2,.l TNd l3])))
    (.bad 351)))
   (.leaf (Step.stop 0 [.l TNd l2])))
 |_=>.bad 0
theorem m0u (n0:Int)(n1:Int)(l2:List (Ty.den TNd))(l3:List (Ty.den TNd))(g0:0≤n1)(g1:n0=(l3.length:Int)):Imp (m0k [.n n0,.n n1,.l TNd l2,.l TNd l3]) (e0k [.k 0,.n n0,.n n1,.l TNd l2,.l TNd l3]):=
(.pa [1]
(.nd (fun h0=>
(.pt (c:=(inR n1 (List.length l3))) (by kernel_rfl) (by kernel_rfl) (by(simp only[w64d,decide_eq_true_eq,decide_eq_false_iff_not,beq_iff_eq,beq_eq_false_iff_ne,bne_iff_ne,ne_eq,inR,Bool.and_eq_true,Bool.and_eq_false_iff,Bool.not_eq_true',Bool.not_eq_false',Bool.not_eq_eq_eq_not,Bool.not_true,Bool.not_false]at*;omega))
(.nd (fun h1=>
(.pa [1]
(.nd (fun h2=>
(.nd (fun h3=>
(.pa [1]
.lf)) (fun h3=>
.none))) (fun h2=>
(.pa [1]
.lf))))) (fun h1=>
.none)))) (fun h0=>
(.pa [1]
.lf))))
theorem e2j:LsOk Tryz.prog (List.length ([]:List PB)) (lsM [(3,g1k)] (List.length ([]:List PB))) (a0r Tryz.prog 139):=LsOk.many fun j B hB hk c hc hi=>by
 simp only[b0d]at hB
 split at hB
 ·rename_i e;have:=Nat.eq_of_beq_eq_true e;subst this;cases hB
  have e1:p0c Tryz.prog 139 3=[cAt Tryz.prog 139 3]:=a0e (by kernel_rfl)
  have e2:c∈p0c Tryz.prog 139 3:=a0d hc hi
  rw[e1]at e2;cases List.mem_singleton.1 e2;exact q1l
 cases hB
def g1r (env:List Dat):Tree (Nat×List Dat):=Lk.boxC false LK k1j 139 (lsM [(3,g1k)] (List.length ([]:List PB))) (mkF [rtV 0] [] [] [(.own 0,[.arr TNd 0])] fun _=>none) env
theorem j3m: ∃f:List Dat→Option (Nat×List Dat),∀env,f env=(g1r env).sel:=⟨fun env=>(g1r env).sel,fun _=>rfl⟩
def d1n:List Dat→Option (Nat×List Dat):=Classical.choose j3m
theorem f1n (env:List Dat):d1n env=(g1r env).sel:=Classical.choose_spec j3m env
def Bc123:FBox:=mkF [rtV 0] [] [] [(.own 0,[.arr TNd 0])] d1n
theorem q2z:a0v Tryz.prog 139 (a0j Bc123):=a0p (op:=d1n) v0v hmix false (e2j) (fun env x h=>by rw[f1n]at h;rw[←boxC_lk];exact h)
def l1u:List Dat→Tree (Nat×List Dat)
 |[.s s0,.n n1,.l (Ty.int IntKind.i64) l2,.l (Ty.pair (Ty.int IntKind.i64) Ty.bool) l3,.l (Ty.int IntKind.i64) l4,.l (Ty.pair (Ty.int IntKind.i64) Ty.bool) l5]=>
  (let r1:Option (Nat×List Dat):=(t1a [.s s0,.n n1,.l TI l2,.l TNd l3,.l TI l4,.l TNd l5]);
   (.node (isK 0 [HK.l TNd] r1)
   (let r2:Option (Nat×List Dat):=(o0k [.k 0,.n (↑(List.length (gl TNd (dOf r1) 0)):Int),.n (0:Int),.l TNd [],.l TNd (gl TNd (dOf r1) 0)]);
    (.node (isK 0 [HK.l TNd] r2)
    (.leaf ((0,[.l TNd (gl TNd (dOf r2) 0)])))
    (.bad 351)))
   (.bad 351)))
 |_=>.bad 0
theorem m1m (s0:ByteArray)(n1:Int)(l2:List (Ty.den TI))(l3:List (Ty.den TNd))(l4:List (Ty.den TI))(l5:List (Ty.den TNd)):Imp (l1u [.s s0,.n n1,.l TI l2,.l TNd l3,.l TI l4,.l TNd l5]) (g1r [.s s0,.n n1,.l TI l2,.l TNd l3,.l TI l4,.l TNd l5]):=
(.nd (fun h0=>
(.pa [1]
(.nd (fun h1=>
(.pa [1]
.lf)) (fun h1=>
.none)))) (fun h0=>
.none))
def i1e:FuncId→Option a0q:=a0s 139 Bc123 k1j
theorem v0c:CsOk Tryz.prog i1e:=a0g v0v q2z
def e0o (env:List Dat):Tree Step:=Lk.stepMC false LK i1e 140 2 ls0 (mkM 0 [] [(sh 30 [(1,.imm TNd 0),(9,.imm TNd 1),(10,.int .i64 2),(11,.int .i64 3)],[])] [] [(.exit 0,sh 30 [],[]),(.ret,sh 30 [(4,.bool 0)],[])] fun _=>none) env
theorem h3s: ∃f:List Dat→Option (Nat×List Dat),∀env,f env=a0b e0o FU env:=⟨a0b e0o FU,fun _=>rfl⟩
def n0b:List Dat→Option (Nat×List Dat):=Classical.choose h3s
theorem s0o (env:List Dat):n0b env=a0b e0o FU env:=Classical.choose_spec h3s env
def i1v:MBox:=mkM 0 [] [(sh 30 [(1,.imm TNd 0),(9,.imm TNd 1),(10,.int .i64 2),(11,.int .i64 3)],[])] [] [(.exit 0,sh 30 [],[]),(.ret,sh 30 [(4,.bool 0)],[])] n0b
theorem q1o:i1v=mkM 0 [] [(sh 30 [(1,.imm TNd 0),(9,.imm TNd 1),(10,.int .i64 2),(11,.int .i64 3)],[])] [] [(.exit 0,sh 30 [],[]),(.ret,sh 30 [(4,.bool 0)],[])] (a0b e0o FU):=congrArg (fun f=>mkM 0 [] [(sh 30 [(1,.imm TNd 0),(9,.imm TNd 1),(10,.int .i64 2),(11,.int .i64 3)],[])] [] [(.exit 0,sh 30 [],[]),(.ret,sh 30 [(4,.bool 0)],[])] f) (funext s0o)
theorem s1y: ∀t s x,(a0h i1v t s).sel=some x→a0k Tryz.prog 0 (.loop (cAt Tryz.prog 140 2)) t s x:=by
 rw[q1o]
 exact a0o (st:=e0o) (m:=FU) v0c hmix false (LsOk.none _ _ _) (by kernel_rfl) (fun env y h=>by rw[←stepMC_lk];exact h)
def g0w:List Dat→Tree Step
 |[.l (Ty.pair (Ty.int IntKind.i64) Ty.bool) l0,.l (Ty.pair (Ty.int IntKind.i64) Ty.bool) l1,.n n2,.n n3]=>
  (.node (decide (n3<n2))
   (let r1:Option (Nat×List Dat):=(q0d [.l TNd l0,.n (Prod.fst (List.getD l1 (Int.toNat n3) (Ty.dflt TNd)))]);
   (.node (isK 0 [HK.b,HK.b] r1)
    (.node (gb (dOf r1) 1)
    (.node (!gb (dOf r1) 0==Prod.snd (List.getD l1 (Int.toNat n3) (Ty.dflt TNd)))
     (.leaf (Step.stop 1 [.b true]))
     (.leaf (Step.go [.k 0,.l TNd l0,.l TNd l1,.n n2,.n (IntKind.wrap .i64 (n3+(1:Int)))])))
    (.leaf (Step.go [.k 0,.l TNd l0,.l TNd l1,.n n2,.n (IntKind.wrap .i64 (n3+(1:Int)))])))
    (.bad 351)))
   (.leaf (Step.stop 0 [])))
 |_=>.bad 0
theorem g0h (l0:List (Ty.den TNd))(l1:List (Ty.den TNd))(n2:Int)(n3:Int)(g0:0≤n3)(g1:n2=(l1.length:Int)):Imp (g0w [.l TNd l0,.l TNd l1,.n n2,.n n3]) (e0o [.k 0,.l TNd l0,.l TNd l1,.n n2,.n n3]):=
(.pa [1]
(.nd (fun h0=>
(.pt (c:=(inR n3 (List.length l1))) (by kernel_rfl) (by kernel_rfl) (by(simp only[w64d,decide_eq_true_eq,decide_eq_false_iff_not,beq_iff_eq,beq_eq_false_iff_ne,bne_iff_ne,ne_eq,inR,Bool.and_eq_true,Bool.and_eq_false_iff,Bool.not_eq_true',Bool.not_eq_false',Bool.not_eq_eq_eq_not,Bool.not_true,Bool.not_false]at*;omega))
(.nd (fun h1=>
(.pa [1]
(.nd (fun h2=>
(.nd (fun h3=>
(.pa [1]
.lf)) (fun h3=>
(.pa [1]
.lf)))) (fun h2=>
(.pa [0,0,1]
.lf))))) (fun h1=>
.none)))) (fun h0=>
(.pa [1]
.lf))))
theorem c2p:LsOk Tryz.prog (List.length ([]:List PB)) (lsM [(2,i1v)] (List.length ([]:List PB))) (a0r Tryz.prog 140):=LsOk.many fun j B hB hk c hc hi=>by
 simp only[b0d]at hB
 split at hB
 ·rename_i e;have:=Nat.eq_of_beq_eq_true e;subst this;cases hB
  have e1:p0c Tryz.prog 140 2=[cAt Tryz.prog 140 2]:=a0e (by kernel_rfl)
  have e2:c∈p0c Tryz.prog 140 2:=a0d hc hi
  rw[e1]at e2;cases List.mem_singleton.1 e2;exact s1y
 cases hB
def h1x (env:List Dat):Tree (Nat×List Dat):=Lk.boxC false LK i1e 140 (lsM [(2,i1v)] (List.length ([]:List PB))) (mkF [.imm TNd 0,.imm TNd 1] [] [] [(.bool 0,[])] fun _=>none) env
theorem j3o: ∃f:List Dat→Option (Nat×List Dat),∀env,f env=(h1x env).sel:=⟨fun env=>(h1x env).sel,fun _=>rfl⟩
def c1m:List Dat→Option (Nat×List Dat):=Classical.choose j3o
theorem e1r (env:List Dat):c1m env=(h1x env).sel:=Classical.choose_spec j3o env
def Bc124:FBox:=mkF [.imm TNd 0,.imm TNd 1] [] [] [(.bool 0,[])] c1m
theorem t2u:a0v Tryz.prog 140 (a0j Bc124):=a0p (op:=c1m) v0c hmix false (c2p) (fun env x h=>by rw[e1r]at h;rw[←boxC_lk];exact h)
def l1e:List Dat→Tree (Nat×List Dat)
 |[.l (Ty.pair (Ty.int IntKind.i64) Ty.bool) l0,.l (Ty.pair (Ty.int IntKind.i64) Ty.bool) l1]=>
  (let r1:Option (Nat×List Dat):=(n0b [.k 0,.l TNd l1,.l TNd l0,.n (↑(List.length l0):Int),.n (0:Int)]);
   (.node (isK 0 [] r1)
   (.leaf ((0,[.b false])))
   (.node (isK 1 [HK.b] r1)
    (.leaf ((0,[.b (gb (dOf r1) 0)])))
    (.bad 351))))
 |_=>.bad 0
theorem m1i (l0:List (Ty.den TNd))(l1:List (Ty.den TNd)):Imp (l1e [.l TNd l0,.l TNd l1]) (h1x [.l TNd l0,.l TNd l1]):=
(.nd (fun h0=>
(.pa [1]
.lf)) (fun h0=>
(.nd (fun h1=>
(.pa [1]
.lf)) (fun h1=>
.none))))
def j1j:FuncId→Option a0q:=a0s 140 Bc124 i1e
theorem u0w:CsOk Tryz.prog j1j:=a0g v0c t2u
def d0p (env:List Dat):Tree Step:=Lk.stepMC false LK j1j 141 3 ls0 (mkM 0 [] [(sh 49 [(3,.imm TNd 0),(4,.ptr 0 0),(9,.own 1),(16,.imm TNd 1),(17,.int .i64 2),(18,.int .i64 3)],[laB 4,.arr TI 8])] [] [(.exit 0,sh 49 [],[]),(.ret,sh 49 [(8,.bool 0)],[])] fun _=>none) env
theorem h3q: ∃f:List Dat→Option (Nat×List Dat),∀env,f env=a0b d0p FU env:=⟨a0b d0p FU,fun _=>rfl⟩
def n0r:List Dat→Option (Nat×List Dat):=Classical.choose h3q
theorem s0z (env:List Dat):n0r env=a0b d0p FU env:=Classical.choose_spec h3q env
def i1i:MBox:=mkM 0 [] [(sh 49 [(3,.imm TNd 0),(4,.ptr 0 0),(9,.own 1),(16,.imm TNd 1),(17,.int .i64 2),(18,.int .i64 3)],[laB 4,.arr TI 8])] [] [(.exit 0,sh 49 [],[]),(.ret,sh 49 [(8,.bool 0)],[])] n0r
theorem s1r:i1i=mkM 0 [] [(sh 49 [(3,.imm TNd 0),(4,.ptr 0 0),(9,.own 1),(16,.imm TNd 1),(17,.int .i64 2),(18,.int .i64 3)],[laB 4,.arr TI 8])] [] [(.exit 0,sh 49 [],[]),(.ret,sh 49 [(8,.bool 0)],[])] (a0b d0p FU):=congrArg (fun f=>mkM 0 [] [(sh 49 [(3,.imm TNd 0),(4,.ptr 0 0),(9,.own 1),(16,.imm TNd 1),(17,.int .i64 2),(18,.int .i64 3)],[laB 4,.arr TI 8])] [] [(.exit 0,sh 49 [],[]),(.ret,sh 49 [(8,.bool 0)],[])] f) (funext s0z)
theorem r1u: ∀t s x,(a0h i1i t s).sel=some x→a0k Tryz.prog 0 (.loop (cAt Tryz.prog 141 3)) t s x:=by
 rw[s1r]
 exact a0o (st:=d0p) (m:=FU) u0w hmix false (LsOk.none _ _ _) (by kernel_rfl) (fun env y h=>by rw[←stepMC_lk];exact h)
def m0b:List Dat→Tree Step
 |[.l (Ty.pair (Ty.int IntKind.i64) Ty.bool) l0,.l (Ty.pair (Ty.int IntKind.i64) Ty.bool) l1,.n n2,.n n3,.l (Ty.str) l4,.l (Ty.pair Ty.str (Ty.int IntKind.i64)) l5,.l (Ty.pair Ty.str (Ty.int IntKind.i64)) l6,.l (Ty.pair Ty.str (Ty.pair (Ty.int IntKind.i64) (Ty.pair (Ty.sl (Ty.int IntKind.i64)) (Ty.pair (Ty.sl (Ty.pair (Ty.int IntKind.i64) Ty.bool)) (Ty.pair (Ty.sl (Ty.int IntKind.i64)) (Ty.sl (Ty.pair (Ty.int IntKind.i64) Ty.bool))))))) l7,.l (Ty.int IntKind.i64) l8]=>
  (.node (decide (n3<n2))
   (let r1:Option (Nat×List Dat):=(q0d [.l TNd l0,.n (Prod.fst (List.getD l1 (Int.toNat n3) (Ty.dflt TNd)))]);
   (.node (isK 0 [HK.b,HK.b] r1)
    (.node (inR (Prod.fst (List.getD l1 (Int.toNat n3) (Ty.dflt TNd))) (List.length l5))
    (let r2:Option (Nat×List Dat):=(v0t [.l TI l8,.n (Prod.snd (List.getD l5 (Int.toNat (Prod.fst (List.getD l1 (Int.toNat n3) (Ty.dflt TNd)))) (Ty.dflt TPt)))]);
     (.node (isK 0 [HK.b] r2)
     (.node (gb (dOf r2) 0)
      (.node (!gb (dOf r1) 1)
      (.leaf (Step.stop 1 [.b true]))
      (.node (!gb (dOf r1) 0==Prod.snd (List.getD l1 (Int.toNat n3) (Ty.dflt TNd)))
       (.leaf (Step.stop 1 [.b true]))
       (.leaf (Step.go [.k 0,.l TNd l0,.l TNd l1,.n n2,.n (IntKind.wrap .i64 (n3+(1:Int))),.l Ty.str l4,.l TPt l5,.l TPt l6,.l TRt l7,.l TI l8]))))
      (.leaf (Step.go [.k 0,.l TNd l0,.l TNd l1,.n n2,.n (IntKind.wrap .i64 (n3+(1:Int))),.l Ty.str l4,.l TPt l5,.l TPt l6,.l TRt l7,.l TI l8])))
     (.bad 351)))
    (.bad 10))
    (.bad 351)))
   (.leaf (Step.stop 0 [])))
 |_=>.bad 0
theorem m0e (l0:List (Ty.den TNd))(l1:List (Ty.den TNd))(n2:Int)(n3:Int)(l4:List (Ty.den TS))(l5:List (Ty.den TPt))(l6:List (Ty.den TPt))(l7:List (Ty.den TRt))(l8:List (Ty.den TI))(g0:0≤n3)(g1:n2=(l1.length:Int)):Imp (m0b [.l TNd l0,.l TNd l1,.n n2,.n n3,.l TS l4,.l TPt l5,.l TPt l6,.l TRt l7,.l TI l8]) (d0p [.k 0,.l TNd l0,.l TNd l1,.n n2,.n n3,.l TS l4,.l TPt l5,.l TPt l6,.l TRt l7,.l TI l8]):=
(.pa [1]
(.nd (fun h0=>
(.pt (c:=(inR n3 (List.length l1))) (by kernel_rfl) (by kernel_rfl) (by(simp only[w64d,decide_eq_true_eq,decide_eq_false_iff_not,beq_iff_eq,beq_eq_false_iff_ne,bne_iff_ne,ne_eq,inR,Bool.and_eq_true,Bool.and_eq_false_iff,Bool.not_eq_true',Bool.not_eq_false',Bool.not_eq_eq_eq_not,Bool.not_true,Bool.not_false]at*;omega))
(.nd (fun h1=>
(.pa [1]
(.nd (fun h2=>
(.nd (fun h3=>
(.pa [1]
(.nd (fun h4=>
(.nd (fun h5=>
(.pa [1,1,1]
.lf)) (fun h5=>
(.nd (fun h6=>
(.pa [1]
.lf)) (fun h6=>
(.pa [1]
.lf)))))) (fun h4=>
(.pa [0,0,1]
.lf))))) (fun h3=>
.none))) (fun h2=>
.none)))) (fun h1=>
.none)))) (fun h0=>
(.pa [1]
.lf))))
theorem f2w:LsOk Tryz.prog (List.length ([]:List PB)) (lsM [(3,i1i)] (List.length ([]:List PB))) (a0r Tryz.prog 141):=LsOk.many fun j B hB hk c hc hi=>by
 simp only[b0d]at hB
 split at hB
 ·rename_i e;have:=Nat.eq_of_beq_eq_true e;subst this;cases hB
  have e1:p0c Tryz.prog 141 3=[cAt Tryz.prog 141 3]:=a0e (by kernel_rfl)
  have e2:c∈p0c Tryz.prog 141 3:=a0d hc hi
  rw[e1]at e2;cases List.mem_singleton.1 e2;exact r1u
 cases hB
def h1h (env:List Dat):Tree (Nat×List Dat):=Lk.boxC false LK j1j 141 (lsM [(3,i1i)] (List.length ([]:List PB))) (mkF [laV 0,.imm TNd 4,rtV 5,.imm TNd 11] [] [] [(.bool 0,[])] fun _=>none) env
theorem j3n: ∃f:List Dat→Option (Nat×List Dat),∀env,f env=(h1h env).sel:=⟨fun env=>(h1h env).sel,fun _=>rfl⟩
def a1s:List Dat→Option (Nat×List Dat):=Classical.choose j3n
theorem f1e (env:List Dat):a1s env=(h1h env).sel:=Classical.choose_spec j3n env
def Bc125:FBox:=mkF [laV 0,.imm TNd 4,rtV 5,.imm TNd 11] [] [] [(.bool 0,[])] a1s
theorem u2s:a0v Tryz.prog 141 (a0j Bc125):=a0p (op:=a1s) u0w hmix false (f2w) (fun env x h=>by rw[f1e]at h;rw[←boxC_lk];exact h)
def p1a:List Dat→Tree (Nat×List Dat)
 |[.l (Ty.str) l0,.l (Ty.pair Ty.str (Ty.int IntKind.i64)) l1,.l (Ty.pair Ty.str (Ty.int IntKind.i64)) l2,.l (Ty.pair Ty.str (Ty.pair (Ty.int IntKind.i64) (Ty.pair (Ty.sl (Ty.int IntKind.i64)) (Ty.pair (Ty.sl (Ty.pair (Ty.int IntKind.i64) Ty.bool)) (Ty.pair (Ty.sl (Ty.int IntKind.i64)) (Ty.sl (Ty.pair (Ty.int IntKind.i64) Ty.bool))))))) l3,.l (Ty.pair (Ty.int IntKind.i64) Ty.bool) l4,.s s5,.n n6,.l (Ty.int IntKind.i64) l7,.l (Ty.pair (Ty.int IntKind.i64) Ty.bool) l8,.l (Ty.int IntKind.i64) l9,.l (Ty.pair (Ty.int IntKind.i64) Ty.bool) l10,.l (Ty.pair (Ty.int IntKind.i64) Ty.bool) l11]=>
  (let r1:Option (Nat×List Dat):=(op_9 [.s s5,.n n6,.l TI l7,.l TNd l8,.l TI l9,.l TNd l10]);
   (.node (isK 0 [HK.l TI] r1)
   (let r2:Option (Nat×List Dat):=(n0r [.k 0,.l TNd l11,.l TNd l4,.n (↑(List.length l4):Int),.n (0:Int),.l Ty.str l0,.l TPt l1,.l TPt l2,.l TRt l3,.l TI (gl TI (dOf r1) 0)]);
    (.node (isK 0 [] r2)
    (.leaf ((0,[.b false])))
    (.node (isK 1 [HK.b] r2)
     (.leaf ((0,[.b (gb (dOf r2) 0)])))
     (.bad 351))))
   (.bad 351)))
 |_=>.bad 0
theorem n1z (l0:List (Ty.den TS))(l1:List (Ty.den TPt))(l2:List (Ty.den TPt))(l3:List (Ty.den TRt))(l4:List (Ty.den TNd))(s5:ByteArray)(n6:Int)(l7:List (Ty.den TI))(l8:List (Ty.den TNd))(l9:List (Ty.den TI))(l10:List (Ty.den TNd))(l11:List (Ty.den TNd)):Imp (p1a [.l TS l0,.l TPt l1,.l TPt l2,.l TRt l3,.l TNd l4,.s s5,.n n6,.l TI l7,.l TNd l8,.l TI l9,.l TNd l10,.l TNd l11]) (h1h [.l TS l0,.l TPt l1,.l TPt l2,.l TRt l3,.l TNd l4,.s s5,.n n6,.l TI l7,.l TNd l8,.l TI l9,.l TNd l10,.l TNd l11]):=
(.nd (fun h0=>
(.pa [1]
(.nd (fun h1=>
(.pa [1]
.lf)) (fun h1=>
(.nd (fun h2=>
(.pa [1]
.lf)) (fun h2=>
.none)))))) (fun h0=>
.none))
def cs_c125:FuncId→Option a0q:=a0s 141 Bc125 j1j
theorem f0r:CsOk Tryz.prog cs_c125:=a0g u0w u2s
def g2 (e:Ty.den TNd):Bool:=Prod.snd e
def sdF (l:LN)(p:Int):Option Bool:=(List.find? (fun d=>f1 d==p) l).map g2
def j0c (row:LN)(d:Ty.den TNd):LN:=match sdF row (f1 d)with
 |some _=>row
 |none=>apN row d
def sds (l:LN):LN:=l.foldl j0c []
def shF (a b:LI):Bool:=a.any fun s=>decide (s∈b)
def unAt (b:LN)(d:Ty.den TNd):Bool:=match sdF b (f1 d)with
 |some r=>r !=g2 d
 |none=>false
def i1w (pts:LP)(tr:LI)(b:LN)(d:Ty.den TNd):Bool:=decide (ptS pts (f1 d)∈tr)&&(match sdF b (f1 d)with
 |some r=>r !=g2 d
 |none=>true)
def unF (a b:LN):Bool:=a.any (unAt b)
def wayF (pts:LP)(a:LN)(tr:LI)(b:LN):Bool:=a.any (i1w pts tr b)
def trk (e:Rt):LI:=eP e++eO e
def ndsE (e:Rt):LN:=List.append (eQ e) (eF e)
def cfE (pts:LP)(x y:Rt):Bool:=decide (eN x=eN y)||(shF (trk x) (trk y)||(unF (sds (ndsE x)) (sds (ndsE y))||(wayF pts (sds (ndsE x)) (trk y) (sds (ndsE y))||wayF pts (sds (ndsE y)) (trk x) (sds (ndsE x)))))
theorem v1l {α:Type}(l:List α)(d:α)(p:α→Bool):l.find? p=match b0i (fun i=>p (l.getD i d)) l.length with
  |some k=>some (l.getD k d)
  |none=>none:=by
 cases h:b0i (fun i=>p (l.getD i d)) l.length with
 |none=>
  rw[List.find?_eq_none]
  intro x hx
  obtain⟨i,hi,rfl⟩:=List.getElem_of_mem hx
  have:=b0r h i hi
  rw[j0x l d hi]at this
  rw[this];simp
 |some k=>
  obtain⟨h1,h2,h3⟩:=b0x h
  rw[List.find?_eq_some_iff_getElem]
  refine⟨h2,k,h1,(j0x l d h1).symm,fun j hj=> ?_⟩
  have:=h3 j hj
  rw[j0x l d (by omega)]at this
  rw[this];rfl
theorem o143 (l:LN)(p:Int)(hl:l.length≤100000):q0d [.l TNd l,.n p]=some (0,match sdF l p with|some r=>[.b r,.b true]|none=>[.b false,.b false]):=by
 have e:n0p [.k 0,.n p,.l TNd l,.n (l.length:Int),.n (0:Int)]=some (match sdF l p with|some r=>(1,[.b r,.b true])|none=>(0,[])):=by
  have hh:=v1l l (Ty.dflt TNd) (fun d=>f1 d==p)
  unfold sdF
  rw[hh,t0s]
  refine(f0f (st:=e0m) (fun i=>[.k 0,.n p,.l TNd l,.n (l.length:Int),.n (i:Int)]) l.length (fun i=>f1 (l.getD i (Ty.dflt TNd))==p) (fun k=>(1,[.b (g2 (l.getD k (Ty.dflt TNd))),.b true])) (0,[]) (fun i hi h=> ?_) (fun i hi h=> ?_) ?_ FU (by unfold FU;omega)).trans ?_
  rotate_right
  ·cases b0i (fun i=>f1 (l.getD i (Ty.dflt TNd))==p) l.length<;>rfl
  ·refine f0z _ _ _ _ (by omega) rfl _ ?_
   unfold g0v
   refine a0a (dt (show(i:Int)<(l.length:Int) by omega)) (a0c h ?_)
   rw[w1n i (by omega)];rfl
  ·refine f0z _ _ _ _ (by omega) rfl _ ?_
   unfold g0v
   exact a0a (dt (show(i:Int)<(l.length:Int) by omega)) (a0a h rfl)
  ·refine f0z _ _ _ _ (by omega) rfl _ ?_
   unfold g0v
   exact a0c (df (show¬(l.length:Int)<(l.length:Int) by omega)) rfl
 rw[f1h]
 refine n1j _ _ _ ?_
 unfold l1o
 dsimp only
 erw[e]
 cases sdF l p with
 |some r=>exact a0c rfl (a0a rfl rfl)
 |none=>exact a0a rfl rfl
theorem o142 (l:LI)(p:Int)(hl:l.length≤100000):v0t [.l TI l,.n p]=some (0,[.b (decide (p∈l))]):=by
 have e:m0y [.k 0,.l TI l,.n p,.n (l.length:Int),.n (0:Int)]=some (match b0i (fun i=>l.getD i 0==p) l.length with|some k=>(1,[.n (k:Int)])|none=>(0,[])):=by
  rw[s0i]
  refine f0f (st:=e0t) (fun i=>[.k 0,.l TI l,.n p,.n (l.length:Int),.n (i:Int)]) l.length (fun i=>l.getD i 0==p) (fun k=>(1,[.n (k:Int)])) (0,[]) (fun i hi h=> ?_) (fun i hi h=> ?_) ?_ FU (by unfold FU;omega)
  ·refine g0n _ _ _ _ (by omega) rfl _ ?_
   unfold g0y
   refine a0a (dt (show(i:Int)<(l.length:Int) by omega)) (a0c (by rw[Bool.beq_comm];exact h) ?_)
   rw[w1n i (by omega)];rfl
  ·refine g0n _ _ _ _ (by omega) rfl _ ?_
   unfold g0y
   exact a0a (dt (show(i:Int)<(l.length:Int) by omega)) (a0a (by rw[Bool.beq_comm];exact h) rfl)
  ·refine g0n _ _ _ _ (by omega) rfl _ ?_
   unfold g0y
   exact a0c (df (show¬(l.length:Int)<(l.length:Int) by omega)) rfl
 have e2:d1u [.l TI l,.n p]=some (0,[.n (match b0i (fun i=>l.getD i 0==p) l.length with|some k=>(k:Int)|none=> -1)]):=by
  rw[f1c]
  refine m1b _ _ _ ?_
  unfold l1r
  dsimp only
  erw[e]
  cases b0i (fun i=>l.getD i 0==p) l.length with
  |some k=>exact a0c rfl (a0a rfl rfl)
  |none=>exact a0a rfl rfl
 have hm:decide (p∈l)=(b0i (fun i=>l.getD i 0==p) l.length).isSome:=by
  rw[←d1o,←c0g l 0 (fun y=>y==p)]
  rw[Bool.eq_iff_iff,List.any_eq_true]
  cases h:b0i (fun i=>l.getD i 0==p) l.length with
  |none=>
   refine⟨fun⟨i,hi,hx⟩=> ?_,fun h=>by cases h⟩
   rw[List.mem_range'_1]at hi
   rw[b0r h i (by omega)]at hx;cases hx
  |some k=>
   obtain⟨h1,h2,_⟩:=b0x h
   exact⟨fun _=>rfl,fun _=>⟨k,List.mem_range'_1.2 (by omega),h2⟩⟩
 rw[f1w]
 refine n1w _ _ _ ?_
 unfold o1p
 dsimp only
 erw[e2]
 refine a0a rfl ?_
 rw[hm]
 cases b0i (fun i=>l.getD i 0==p) l.length with
 |some k=>show some (0,[Dat.b (decide ((k:Int)≥0))])=_;rw[dt (show(k:Int)≥0 by omega)];rfl
 |none=>rfl
theorem o122 (a b:LI)(ha:a.length≤100000)(hb:b.length≤100000):a1i [.l TI a,.l TI b]=some (0,[.b (shF a b)]):=by
 have e:n0v [.k 0,.l TI b,.l TI a,.n (a.length:Int),.n (0:Int)]=some (bif (List.range' 0 a.length).any (fun i=>decide (a.getD i 0∈b))then(1,[.b true])else(0,[])):=by
  rw[s0h]
  refine a0x (st:=e0l) (fun i=>[.k 0,.l TI b,.l TI a,.n (a.length:Int),.n (i:Int)]) a.length (fun i=>decide (a.getD i 0∈b)) (1,[.b true]) (0,[]) (fun i hi h=> ?_) (fun i hi h=> ?_) ?_ FU (by unfold FU;omega)
  ·refine g0b _ _ _ _ (by omega) rfl _ ?_
   unfold h0c
   refine a0a (dt (show(i:Int)<(a.length:Int) by omega)) ?_
   have e1:=o142 b (a.getD i 0) hb
   dsimp only
   erw[e1]
   refine a0a rfl (a0c h ?_)
   rw[w1n i (by omega)];rfl
  ·refine g0b _ _ _ _ (by omega) rfl _ ?_
   unfold h0c
   refine a0a (dt (show(i:Int)<(a.length:Int) by omega)) ?_
   have e1:=o142 b (a.getD i 0) hb
   dsimp only
   erw[e1]
   exact a0a rfl (a0a h rfl)
  ·refine g0b _ _ _ _ (by omega) rfl _ ?_
   unfold h0c
   exact a0c (df (show¬(a.length:Int)<(a.length:Int) by omega)) rfl
 rw[c0g a 0 (fun s=>decide (s∈b))]at e
 rw[e1o]
 refine n1i _ _ _ ?_
 unfold m1w
 dsimp only
 erw[e]
 unfold shF
 cases a.any (fun s=>decide (s∈b))with
 |true=>exact a0c rfl (a0a rfl rfl)
 |false=>exact a0a rfl rfl
theorem k2w (l:LN):(sds l).length≤l.length:=by
 unfold sds
 have: ∀(l acc:LN),(l.foldl j0c acc).length≤acc.length+l.length:=by
  intro l
  induction l with
  |nil=>intro acc;exact Nat.le_refl _
  |cons d l ih=>
   intro acc
   rw[List.foldl_cons]
   have h1:(j0c acc d).length≤acc.length+1:=by
    unfold j0c
    cases sdF acc (f1 d)with
    |some _=>exact Nat.le_succ _
    |none=>show(acc++[d]).length≤_;simp
   have:=ih (j0c acc d)
   rw[List.length_cons]
   omega
 simpa using this l []
theorem sds_up (l:LN){i:Nat}(h:i<l.length):sds (l.take (i+1))=j0c (sds (l.take i)) (l.getD i (Ty.dflt TNd)):=by
 unfold sds
 rw[List.take_succ_eq_append_getElem h,List.foldl_append,j0x l _ h]
 rfl
theorem o123 (s:ByteArray)(n:Int)(p:List (Ty.den TI))(q:LN)(o:List (Ty.den TI))(f:LN)(ha:p.length≤200)(hb:q.length≤200)(hc:o.length≤200)(hd:f.length≤200):d1n [.s s,.n n,.l TI p,.l TNd q,.l TI o,.l TNd f]=some (0,[.l TNd (sds (List.append q f))]):=by
 have hl:(List.append q f).length≤400:=by show(q++f).length≤400;rw[List.length_append];omega
 have lp: ∀l:LN,l.length≤400→o0k [.k 0,.n (l.length:Int),.n (0:Int),.l TNd [],.l TNd l]=some (0,[.l TNd (sds l)]):=by
  intro l hl
  rw[u0g]
  refine b0a (st:=e0k) (fun i=>[.k 0,.n (l.length:Int),.n (i:Int),.l TNd (sds (l.take i)),.l TNd l]) l.length (0,[.l TNd (sds l)]) (fun i hi=> ?_) ?_ FU (by unfold FU;omega)
  ·have ln:(sds (l.take i)).length≤400:=by have:=k2w (l.take i);rw[List.length_take]at this;omega
   refine m0u _ _ _ _ (by omega) rfl _ ?_
   unfold m0k
   refine a0a (dt (show(i:Int)<(l.length:Int) by omega)) ?_
   have e1:=o143 (sds (l.take i)) (f1 (l.getD i (Ty.dflt TNd))) (by omega)
   dsimp only
   erw[e1]
   rw[sds_up l hi]
   unfold j0c
   cases sdF (sds (l.take i)) (f1 (l.getD i (Ty.dflt TNd)))with
   |some r=>
    refine a0a rfl (a0c rfl ?_)
    rw[w1n i (by omega)];rfl
   |none=>
    refine a0a rfl (a0a rfl (a0a (dt (show((sds (l.take i)).length+1)*16≤140737488355328 by omega)) ?_))
    rw[w1n i (by omega)];rfl
  ·refine m0u _ _ _ _ (by omega) rfl _ ?_
   unfold m0k
   refine a0c (df (show¬(l.length:Int)<(l.length:Int) by omega)) ?_
   rw[List.take_length];rfl
 rw[f1n]
 refine m1m _ _ _ _ _ _ _ ?_
 unfold l1u
 dsimp only
 erw[o10 s n p q o f ha hb hc hd]
 refine a0a rfl ?_
 have e2:=lp (List.append q f) hl
 erw[e2]
 exact a0a rfl rfl
theorem o124 (a b:LN)(ha:a.length≤100000)(hb:b.length≤100000):c1m [.l TNd a,.l TNd b]=some (0,[.b (unF a b)]):=by
 have e:n0b [.k 0,.l TNd b,.l TNd a,.n (a.length:Int),.n (0:Int)]=some (bif (List.range' 0 a.length).any (fun i=>unAt b (a.getD i (Ty.dflt TNd)))then(1,[.b true])else(0,[])):=by
  rw[s0o]
  refine a0x (st:=e0o) (fun i=>[.k 0,.l TNd b,.l TNd a,.n (a.length:Int),.n (i:Int)]) a.length (fun i=>unAt b (a.getD i (Ty.dflt TNd))) (1,[.b true]) (0,[]) (fun i hi h=> ?_) (fun i hi h=> ?_) ?_ FU (by unfold FU;omega)
  ·refine g0h _ _ _ _ (by omega) rfl _ ?_
   unfold g0w
   refine a0a (dt (show(i:Int)<(a.length:Int) by omega)) ?_
   have e1:=o143 b (f1 (a.getD i (Ty.dflt TNd))) hb
   unfold unAt at h
   dsimp only
   erw[e1]
   revert h
   cases sdF b (f1 (a.getD i (Ty.dflt TNd)))with
   |some r=>
    intro h
    refine a0a rfl (a0a rfl (a0c ?_ ?_))
    ·revert h;show(r !=g2 (a.getD i (Ty.dflt TNd)))=false→(!r==g2 (a.getD i (Ty.dflt TNd)))=false
     cases r<;>cases g2 (a.getD i (Ty.dflt TNd))<;>simp
    ·rw[w1n i (by omega)];rfl
   |none=>
    intro _
    refine a0a rfl (a0c rfl ?_)
    rw[w1n i (by omega)];rfl
  ·refine g0h _ _ _ _ (by omega) rfl _ ?_
   unfold g0w
   refine a0a (dt (show(i:Int)<(a.length:Int) by omega)) ?_
   have e1:=o143 b (f1 (a.getD i (Ty.dflt TNd))) hb
   unfold unAt at h
   dsimp only
   erw[e1]
   revert h
   cases sdF b (f1 (a.getD i (Ty.dflt TNd)))with
   |some r=>
    intro h
    refine a0a rfl (a0a rfl (a0a ?_ rfl))
    revert h;show(r !=g2 (a.getD i (Ty.dflt TNd)))=true→(!r==g2 (a.getD i (Ty.dflt TNd)))=true
    cases r<;>cases g2 (a.getD i (Ty.dflt TNd))<;>simp
   |none=>intro h;cases h
  ·refine g0h _ _ _ _ (by omega) rfl _ ?_
   unfold g0w
   exact a0c (df (show¬(a.length:Int)<(a.length:Int) by omega)) rfl
 rw[c0g a (Ty.dflt TNd) (unAt b)]at e
 rw[e1r]
 refine m1i _ _ _ ?_
 unfold l1e
 dsimp only
 erw[e]
 unfold unF
 cases a.any (unAt b)with
 |true=>exact a0c rfl (a0a rfl rfl)
 |false=>exact a0a rfl rfl
theorem o125 (a:LS)(b c:LP)(r:LR)(x:LN)(s:ByteArray)(n:Int)(p:List (Ty.den TI))(q:LN)(o:List (Ty.den TI))(f:LN)(y:LN)(hx:f0c b x)(lx:x.length≤100000)(ly:y.length≤100000)(ha:p.length≤200)(hb:q.length≤200)(hc:o.length≤200)(hd:f.length≤200):
  a1s [.l TS a,.l TPt b,.l TPt c,.l TRt r,.l TNd x,.s s,.n n,.l TI p,.l TNd q,.l TI o,.l TNd f,.l TNd y]=some (0,[.b (wayF b x (p++o:List Int) y)]):=by
 have lp: ∀tr:LI,tr.length≤100000→n0r [.k 0,.l TNd y,.l TNd x,.n (x.length:Int),.n (0:Int),.l TS a,.l TPt b,.l TPt c,.l TRt r,.l TI tr]=some (bif (List.range' 0 x.length).any (fun i=>i1w b tr y (x.getD i (Ty.dflt TNd)))then(1,[.b true])else(0,[])):=by
  intro tr ht
  rw[s0z]
  have st: ∀i,i<x.length→(d0p [.k 0,.l TNd y,.l TNd x,.n (x.length:Int),.n (i:Int),.l TS a,.l TPt b,.l TPt c,.l TRt r,.l TI tr]).sel=some (bif i1w b tr y (x.getD i (Ty.dflt TNd))then Step.stop 1 [.b true]else Step.go [.k 0,.l TNd y,.l TNd x,.n (x.length:Int),.n ((i+1:Nat):Int),.l TS a,.l TPt b,.l TPt c,.l TRt r,.l TI tr]):=by
   intro i hi
   refine m0e _ _ _ _ _ _ _ _ _ (by omega) rfl _ ?_
   unfold m0b
   refine a0a (dt (show(i:Int)<(x.length:Int) by omega)) ?_
   have e1:=o143 y (f1 (x.getD i (Ty.dflt TNd))) ly
   have e2:=o142 tr (ptS b (f1 (x.getD i (Ty.dflt TNd)))) ht
   have e3:=okAt hx hi
   dsimp only
   erw[e1]
   unfold i1w
   rw[←w1n i (by omega)]
   cases sdF y (f1 (x.getD i (Ty.dflt TNd)))with
   |some r1=>
    refine a0a rfl (a0a e3 ?_)
    erw[e2]
    refine a0a rfl ?_
    cases decide (ptS b (f1 (x.getD i (Ty.dflt TNd)))∈tr)with
    |false=>exact a0c rfl rfl
    |true=>
     refine a0a rfl (a0c rfl ?_)
     show(Tree.node (!r1==g2 (x.getD i (Ty.dflt TNd))) _ _).sel=some (bif r1 !=g2 (x.getD i (Ty.dflt TNd))then _ else _)
     cases r1<;>cases g2 (x.getD i (Ty.dflt TNd))<;>rfl
   |none=>
    refine a0a rfl (a0a e3 ?_)
    erw[e2]
    refine a0a rfl ?_
    cases decide (ptS b (f1 (x.getD i (Ty.dflt TNd)))∈tr)with
    |false=>exact a0c rfl rfl
    |true=>exact a0a rfl (a0a rfl rfl)
  refine a0x (st:=d0p) (fun i=>[.k 0,.l TNd y,.l TNd x,.n (x.length:Int),.n (i:Int),.l TS a,.l TPt b,.l TPt c,.l TRt r,.l TI tr]) x.length (fun i=>i1w b tr y (x.getD i (Ty.dflt TNd))) (1,[.b true]) (0,[]) (fun i hi h=> ?_) (fun i hi h=> ?_) ?_ FU (by unfold FU;omega)
  ·rw[st i hi,h];rfl
  ·rw[st i hi,h];rfl
  ·refine m0e _ _ _ _ _ _ _ _ _ (by omega) rfl _ ?_
   unfold m0b
   exact a0c (df (show¬(x.length:Int)<(x.length:Int) by omega)) rfl
 have e:=lp (p++o:List Int) (by have h:(p++o).length=p.length+o.length:=List.length_append;exact Nat.le_trans (Nat.le_of_eq h) (by omega))
 rw[c0g x (Ty.dflt TNd) (i1w b (p++o:List Int) y)]at e
 rw[f1e]
 refine n1z _ _ _ _ _ _ _ _ _ _ _ _ _ ?_
 unfold p1a
 dsimp only
 erw[o9 s n p q o f ha hb hc hd]
 refine a0a rfl ?_
 erw[e]
 unfold wayF
 cases x.any (i1w b (p++o:List Int) y)with
 |true=>exact a0c rfl (a0a rfl rfl)
 |false=>exact a0a rfl rfl
end Go.Proofs.YtplcpifjiodhcaaGreat.Vx
end
namespace Go.Proofs.YtplcpifjiodhcaaGreat.Vx
open Go Go.RowKit
set_option linter.unusedVariables false
set_option linter.unusedSimpArgs false
set_option maxRecDepth 100000
attribute [local go_sem] Oper.semAt_some
def rtS (e:Rt):List SV:=[.str (eS e),.int .i64 (eN e),.imm TI (eP e),.imm TNd (eQ e),.imm TI (eO e),.imm TNd (eF e)]
def laS (a:LS)(b c:LP)(r:LR):List SV:=[.imm TS a,.imm TPt b,.imm TPt c,.imm TRt r]
def s5 (a:LS)(b c:LP)(r:LR)(x y:Rt)(f:Bool)(more:List Blk):SW:=⟨[.cells (laS a b c r),.cells [.bool f],.cells (rtS x),.cells (rtS y),.cells (laS a b c r)]++more,[]⟩
section
variable {a:LS} {b c:LP} {r:LR} {x y:Rt} {R:RM} {σ:Snap} {w:World}
theorem e1z {B:FBox}{args args0:List SV}{S:SW}{x:SV×SW}(h1:q0z B.args args S=some args0)(h2:((a0j B args0 ⟨[],[]⟩).bind fun x=>i1k x.1 x.2 S).sel=some x):(f0h B args S).sel=some x:=by
 unfold f0h
 rw[h1]
 exact h2
theorem l1y {B:FBox}{args:List SV}{s:SW}{env:List Dat}(h:fitS B.args B.blks args s=some env):a0j B args s=(B.fn env).bind fun x=>match B.outs[x.1]? with
  |some o=>.leaf (instV o.1 x.2,⟨instBs o.2 x.2,B.log⟩)
  |none=>.bad 321:=by
 unfold a0j
 rw[h]
 rfl
theorem a1h {pargs:List PV}{op:List Dat→Option (Nat×List Dat)}{args args0:List SV}{S:SW}{env:List Dat}{z:Bool}(h1:q0z pargs args S=some args0)(h2:fitS pargs [] args0 ⟨[],[]⟩=some env)(h3:op env=some (0,[.b z])):
  (f0h (mkF pargs [] [] [(.bool 0,[])] op) args S).sel=some (.bool z,S):=by
 refine e1z h1 ?_
 rw[l1y (B:=mkF pargs [] [] [(.bool 0,[])] op) h2]
 simp only[mkF,h3]
 rfl
theorem a2f {pargs:List PV}{op:List Dat→Option (Nat×List Dat)}{args args0:List SV}{S:SW}{env:List Dat}{t:Ty}{z:List t.den}(ht:d1s t=true)(h1:q0z pargs args S=some args0)(h2:fitS pargs [] args0 ⟨[],[]⟩=some env)(h3:op env=some (0,[.l t z])):
  (f0h (mkF pargs [] [] [(.own 0,[.arr t 0])] op) args S).sel=some (.own S.len 0,S.push (.arr t 0 z)):=by
 refine e1z h1 ?_
 rw[l1y (B:=mkF pargs [] [] [(.own 0,[.arr t 0])] op) h2]
 have h4:isK 0 [HK.l t] (some (0,[.l t z]))=true:=by simp[isK,h1z]
 have h5:gl t [.l t z] 0=z:=m3y t z
 have h6:a1o [.l t z] [HK.l t] 0=[.l t z]:=by simp only[a1o,v2d,h5]
 have e:((mkF pargs [] [] [(PV.own 0,[PB.arr t 0])] op).fn env).sel=some (0,[.l t z]):=by
  show(outT [[HK.l t]] 0 (op env)).sel=_
  rw[h3]
  show(Tree.node (isK 0 [HK.l t] (some (0,[.l t z]))) (.leaf (0,a1o [.l t z] [HK.l t] 0)) (.bad 351)).sel=_
  rw[h4,h6];rfl
 rw[Tree.sel_bind,Tree.sel_bind,e]
 show(i1k (.own 0 0) ⟨[.arr t 0 (gl t [.l t z] 0)],[]⟩ S).sel=_
 rw[h5]
 show(Tree.guard (Nat.beq 0 0&&(d1s t&&b1b (some (0,0)) (.own 0 0))) 351 (.leaf (SV.own S.len 0,S.push (.arr t 0 z)))).sel=_
 rw[ht];rfl
theorem i0e {t:Ty}{k i:Nat}{l:List t.den}{S:SW}(h:S.blk i=some (.arr t 0 l)):x0w (.imm t k) (.own i 0) S=some (.imm t l):=by
 show(match p0p t (.own i 0) S with|some l=>some (SV.imm t l)|none=>none)=_
 have:p0p t (.own i 0) S=some l:=by
  show c0h t (.own i 0) S=some l
  have h2:b0c (.own i 0) S=some ⟨t,l⟩:=by unfold b0c;simp only[h]
  unfold c0h
  simp only[h2]
  exact d0b l
 rw[this]
section
variable {n:Nat} {S:SW}
def v1b (R:RM)(σ:Snap)(S:SW)(w:World)(z:Bool)(e:Ending)(w':World):Prop:=e=.returned (.bool z)∧ ∃R' σ',Rel R' σ' S w'∧R.le R'∧σ.le σ'∧Below w.heap.size w w'
def g2s (R:RM)(σ:Snap)(S:SW)(w:World)(t:Ty)(z:List t.den)(e:Ending)(w':World):Prop:= ∃v' R' σ',e=.returned v'∧VRel R' σ' (.own S.len 0) v'∧Rel R' σ' (S.push (.arr t 0 z)) w'∧R.le R'∧σ.le σ'∧Below w.heap.size w w'
theorem callB {f:FuncId}{g:a0q}(hs:c1x Tryz.prog f g){args:List SV}{z:Bool}(hg:(g args S).sel=some (.bool z,S))(hl:S.log=[]){args':Array Value}(hr:Rel R σ S w)(ha:LRel R σ args args'):
  CallsIn Fence.wide n Tryz.prog f args' w (v1b R σ S w z):=by
 refine(h2z rfl hs hg hl hr ha).mono ?_
 rintro e w' ⟨v',R',σ',rfl,hv,h1,h2,h3,h4⟩
 cases hv
 exact⟨rfl,R',σ',h1,h2,h3,h4⟩
theorem callR {f:FuncId}{g:a0q}(hs:c1x Tryz.prog f g){args:List SV}{t:Ty}{z:List t.den}(hg:(g args S).sel=some (.own S.len 0,S.push (.arr t 0 z)))(hl:S.log=[]){args':Array Value}(hr:Rel R σ S w)(ha:LRel R σ args args'):
  CallsIn Fence.wide n Tryz.prog f args' w (g2s R σ S w t z):=by
 refine(h2z rfl hs hg (by exact hl) hr ha).mono ?_
 rintro e w' ⟨v',R',σ',rfl,hv,h1,h2,h3,h4⟩
 exact⟨v',R',σ',rfl,hv,h1,h2,h3,h4⟩
def lenE (e:Rt):Prop:=(eP e).length≤200∧(eQ e).length≤200∧(eO e).length≤200∧(eF e).length≤200
theorem cTrack {e:Rt}(he:lenE e)(hl:S.log=[])(hr:Rel R σ S w){v:Value}(hv:VRel R σ (.agg (rtS e)) v):CallsIn Fence.wide n Tryz.prog 47 #[v] w (g2s R σ S w TI (trk e)):=by
 refine callR (f0r 47 (f0h B9) (by kernel_rfl)) (args:=[.agg (rtS e)]) ?_ hl hr (.cons hv (.nil _ _))
 exact a2f (op:=op_9) (args0:=[.agg (rtS e)]) (env:=[.s (eS e),.n (eN e),.l TI (eP e),.l TNd (eQ e),.l TI (eO e),.l TNd (eF e)]) (t:=TI) rfl (by kernel_rfl) (by kernel_rfl) (o9 _ _ _ _ _ _ he.1 he.2.1 he.2.2.1 he.2.2.2)
theorem cSides {e:Rt}(he:lenE e)(hl:S.log=[])(hr:Rel R σ S w){v:Value}(hv:VRel R σ (.agg (rtS e)) v):CallsIn Fence.wide n Tryz.prog 139 #[v] w (g2s R σ S w TNd (sds (ndsE e))):=by
 refine callR (f0r 139 (f0h Bc123) (by kernel_rfl)) (args:=[.agg (rtS e)]) ?_ hl hr (.cons hv (.nil _ _))
 exact a2f (op:=d1n) (args0:=[.agg (rtS e)]) (env:=[.s (eS e),.n (eN e),.l TI (eP e),.l TNd (eQ e),.l TI (eO e),.l TNd (eF e)]) (t:=TNd) rfl (by kernel_rfl) (by kernel_rfl) (o123 _ _ _ _ _ _ he.1 he.2.1 he.2.2.1 he.2.2.2)
theorem cShare {p q:LI}{i j:Nat}(hp:p.length≤100000)(hq:q.length≤100000)(hi:S.blk i=some (.arr TI 0 p))(hj:S.blk j=some (.arr TI 0 q))(hl:S.log=[])(hr:Rel R σ S w){v u:Value}(hv:VRel R σ (.own i 0) v)(hu:VRel R σ (.own j 0) u):
  CallsIn Fence.wide n Tryz.prog 138 #[v,u] w (v1b R σ S w (shF p q)):=by
 refine callB (f0r 138 (f0h Bc122) (by kernel_rfl)) (args:=[.own i 0,.own j 0]) ?_ hl hr (.cons hv (.cons hu (.nil _ _)))
 refine a1h (op:=a1i) (args0:=[.imm TI p,.imm TI q]) (env:=[.l TI p,.l TI q]) ?_ (by kernel_rfl) (o122 p q hp hq)
 show(match x0w (.imm TI 0) (.own i 0) S,q0z [.imm TI 1] [.own j 0] S with|some x,some r=>some (x::r)|_,_=>none)=_
 rw[i0e hi]
 show(match some (SV.imm TI p),(match x0w (.imm TI 1) (.own j 0) S,some ([]:List SV)with|some x,some r=>some (x::r)|_,_=>none)with|some x,some r=>some (x::r)|_,_=>none)=_
 rw[i0e hj]
theorem cUnlike {p q:LN}{i j:Nat}(hp:p.length≤100000)(hq:q.length≤100000)(hi:S.blk i=some (.arr TNd 0 p))(hj:S.blk j=some (.arr TNd 0 q))(hl:S.log=[])(hr:Rel R σ S w){v u:Value}(hv:VRel R σ (.own i 0) v)(hu:VRel R σ (.own j 0) u):
  CallsIn Fence.wide n Tryz.prog 140 #[v,u] w (v1b R σ S w (unF p q)):=by
 refine callB (f0r 140 (f0h Bc124) (by kernel_rfl)) (args:=[.own i 0,.own j 0]) ?_ hl hr (.cons hv (.cons hu (.nil _ _)))
 refine a1h (op:=c1m) (args0:=[.imm TNd p,.imm TNd q]) (env:=[.l TNd p,.l TNd q]) ?_ (by kernel_rfl) (o124 p q hp hq)
 show(match x0w (.imm TNd 0) (.own i 0) S,q0z [.imm TNd 1] [.own j 0] S with|some x,some r=>some (x::r)|_,_=>none)=_
 rw[i0e hi]
 show(match some (SV.imm TNd p),(match x0w (.imm TNd 1) (.own j 0) S,some ([]:List SV)with|some x,some r=>some (x::r)|_,_=>none)with|some x,some r=>some (x::r)|_,_=>none)=_
 rw[i0e hj]
theorem cWay {p q:LN}{e:Rt}{i j:Nat}(he:lenE e)(hk:f0c b p)(hp:p.length≤100000)(hq:q.length≤100000)(hi:S.blk i=some (.arr TNd 0 p))(hj:S.blk j=some (.arr TNd 0 q))(hl:S.log=[])(hr:Rel R σ S w){v0 v v1 u:Value}
  (h0:VRel R σ (.agg (laS a b c r)) v0) (hv:VRel R σ (.own i 0) v) (h1:VRel R σ (.agg (rtS e)) v1) (hu:VRel R σ (.own j 0) u):
  CallsIn Fence.wide n Tryz.prog 141 #[v0,v,v1,u] w (v1b R σ S w (wayF b p (trk e) q)):=by
 refine callB (f0r 141 (f0h Bc125) (by kernel_rfl)) (args:=[.agg (laS a b c r),.own i 0,.agg (rtS e),.own j 0]) ?_ hl hr (.cons h0 (.cons hv (.cons h1 (.cons hu (.nil _ _)))))
 refine a1h (op:=a1s) (args0:=[.agg (laS a b c r),.imm TNd p,.agg (rtS e),.imm TNd q])
  (env:=[.l TS a,.l TPt b,.l TPt c,.l TRt r,.l TNd p,.s (eS e),.n (eN e),.l TI (eP e),.l TNd (eQ e),.l TI (eO e),.l TNd (eF e),.l TNd q]) ?_ (by kernel_rfl) (o125 _ _ _ _ _ _ _ _ _ _ _ _ hk hp hq he.1 he.2.1 he.2.2.1 he.2.2.2)
 have e1:x0w (laV 0) (.agg (laS a b c r)) S=some (.agg (laS a b c r)):=by kernel_rfl
 have e2:x0w (rtV 5) (.agg (rtS e)) S=some (.agg (rtS e)):=by kernel_rfl
 simp only[q0z,e1,e2,i0e hi,i0e hj]
end
end
end Go.Proofs.YtplcpifjiodhcaaGreat.Vx
namespace Go.Proofs.YtplcpifjiodhcaaGreat.Vx
open Go Go.RowKit
set_option linter.unusedVariables false
set_option linter.unusedSimpArgs false
set_option maxRecDepth 100000
set_option maxHeartbeats 1000000
attribute [local go_sem] Oper.semAt_some
section
variable {a:LS} {b c:LP} {r:LR} {x y:Rt} {R:RM} {σ:Snap} {w:World}
def CS (W W':World):Prop:= ∀(j:Nat) (o:Obj),W.heap[j]? =some o→o.isCells=true→W'.heap[j]? =some o
theorem CS.refl (W:World):CS W W:=fun _ _ h _=>h
theorem CS.below {W W':World}(h:Below W.heap.size W W'):CS W W':=fun j o e _=>(h.block j (Array.getElem?_eq_some_iff.1 e).1).trans e
theorem CS.trans {A B C:World}(h:CS A B)(k:CS B C):CS A C:=fun j o e ho=>k j o (h j o e ho) ho
theorem load44 {W:World}{j q:Nat}{d:Array Value}{T:TypeId}{f:Nat×Nat}(hj:W.heap[j]? =some (.cells d T f))(hb:q+6≤d.size):(Instr.loadAt 87 (.pointer (some ⟨j,q,none⟩))).run Tryz.prog W=.ok (.agg (d.extract q (q+6))) W:=by
 have h:(loadVar 87 ⟨j,q,none⟩).run Tryz.prog W=.ok (.agg (d.extract q (q+6))) W:=by
  unfold loadVar
  simp only[Sem.run_bind,c0c (P:=Tryz.prog) (T:=87) (a:=true) (by kernel_rfl),Result.andThen_ok]
  simp[b0z (P:=Tryz.prog) (T:=87) (n:=6) (by kernel_rfl),l0n hj hb]
 simpa [Instr.loadAt,Instr.sureAddr]using h
theorem load27 {W:World}{j q:Nat}{d:Array Value}{T:TypeId}{f:Nat×Nat}(hj:W.heap[j]? =some (.cells d T f))(hb:q+4≤d.size):(Instr.loadAt 27 (.pointer (some ⟨j,q,none⟩))).run Tryz.prog W=.ok (.agg (d.extract q (q+4))) W:=by
 have h:(loadVar 27 ⟨j,q,none⟩).run Tryz.prog W=.ok (.agg (d.extract q (q+4))) W:=by
  unfold loadVar
  simp only[Sem.run_bind,c0c (P:=Tryz.prog) (T:=27) (a:=true) (by kernel_rfl),Result.andThen_ok]
  simp[b0z (P:=Tryz.prog) (T:=27) (n:=4) (by kernel_rfl),l0n hj hb]
 simpa [Instr.loadAt,Instr.sureAddr]using h
theorem load3 {W:World}{j q:Nat}{d:Array Value}{T:TypeId}{f:Nat×Nat}{v:Value}(hj:W.heap[j]? =some (.cells d T f))(hv:d[q]? =some v):(Instr.loadAt 3 (.pointer (some ⟨j,q,none⟩))).run Tryz.prog W=.ok v W:=by
 have h:(loadVar 3 ⟨j,q,none⟩).run Tryz.prog W=.ok v W:=by
  unfold loadVar
  simp only[Sem.run_bind,c0c (P:=Tryz.prog) (T:=3) (a:=false) (by kernel_rfl),Result.andThen_ok]
  simp only[Bool.false_eq_true,if_false]
  exact y1g hj hv
 simpa [Instr.loadAt,Instr.sureAddr]using h
theorem g1l {S:SW}(hr:Rel R σ S w){k j q:Nat}{es:List SV}(hb:S.blk k=some (.cells es))(hp:VRel R σ (.ptr k 0) (.pointer (some ⟨j,q,none⟩))):
  ∃d T f,w.heap[j]? =some (.cells d T f)∧q+esW es≤d.size∧ERel R σ es (fun i=>d[i]?) q:=by
 generalize hv:(Value.pointer (some ⟨j,q,none⟩))=v at hp
 cases hp with
 |ptr _ _ j' n' h=>
  cases hv
  obtain⟨d,T,f,h1,h2,h3,h4⟩:=hr.cel k es _ _ hb h
  exact⟨d,T,f,h1,h3,h4⟩
theorem agg_of {es:List SV}{d:Array Value}{q n:Nat}(hn:esW es=n)(h:ERel R σ es (fun i=>d[i]?) q)(hs:q+n≤d.size):VRel R σ (.agg es) (.agg (d.extract q (q+n))):=by
 exact VRel.agg_mk h hn (.inr hs)
end
end Go.Proofs.YtplcpifjiodhcaaGreat.Vx
namespace Go.Proofs.YtplcpifjiodhcaaGreat.Vx
open Go Go.RowKit
set_option linter.unusedVariables false
set_option linter.unusedSimpArgs false
set_option maxRecDepth 100000
set_option maxHeartbeats 4000000
attribute [local go_sem] Oper.semAt_some
section
variable {a:LS} {b c:LP} {r:LR} {x y:Rt} {R:RM} {σ:Snap} {w:World}
theorem e0j {T:TypeId}{p v:Value}{W:World}{o:Oper}{A:Act}{z:Operand}(ho:o.op=.load T z)(hz:A.eval z=p)(h:(Instr.loadAt T p).run Tryz.prog W=.ok v W):(execOp A.eval o).run Tryz.prog W=.ok (.value v) W:=by
 unfold execOp
 rw[ho]
 show(do pure (.value (←Instr.loadAt T (A.eval z))):Sem Next).run Tryz.prog W=_
 rw[hz,Sem.run_bind,h]
 rfl
def rsn (b:LP)(x y:Rt):List Bool:=[decide (eN x=eN y),shF (trk x) (trk y),unF (sds (ndsE x)) (sds (ndsE y)),wayF b (sds (ndsE x)) (trk y) (sds (ndsE y)),wayF b (sds (ndsE y)) (trk x) (sds (ndsE x))]
theorem p2z {e:Rt}(h:lenE e):(trk e).length≤100000:=by
 have:(trk e).length=(eP e).length+(eO e).length:=List.length_append
 have h1:=h.1
 have h2:=h.2.2.1
 omega
abbrev pY (l:Nat):Value:=.func (.yield l) #[] #[]
abbrev pP (j n:Nat):Value:=.pointer (some ⟨j,n,none⟩)
abbrev pQ (j n:Nat):Value:=.pointer (some ⟨j,n+1,none⟩)
abbrev gA (d:Array Value)(n:Nat):Value:=.agg (d.extract n (n+6))
abbrev gL (d:Array Value)(n:Nat):Value:=.agg (d.extract n (n+4))
abbrev zE (x y:Rt):Value:=.bool (decide (eN x=eN y))
abbrev zU (x y:Rt):Value:=.bool (unF (sds (ndsE x)) (sds (ndsE y)))
abbrev zS (x y:Rt):Value:=.bool (shF (trk x) (trk y))
theorem i2q {e:Rt}(h:lenE e):(sds (ndsE e)).length≤100000:=by
 have h0:=k2w (ndsE e)
 have:(ndsE e).length=(eQ e).length+(eF e).length:=List.length_append
 have h1:=h.2.1
 have h2:=h.2.2.2
 omega
theorem r2q (n:Nat)(hx:lenE x)(hy:lenE y)(kx:f0c b (sds (ndsE x)))(ky:f0c b (sds (ndsE y)))(hr:Rel R σ (s5 a b c r x y false []) w){jA nA jB nB jL nL:Nat}
  (hA:VRel R σ (.ptr 2 0) (.pointer (some ⟨jA,nA,none⟩))) (hB:VRel R σ (.ptr 3 0) (.pointer (some ⟨jB,nB,none⟩))) (hL:VRel R σ (.ptr 4 0) (.pointer (some ⟨jL,nL,none⟩))):
  SeqStopsK Fence.wide n Tryz.prog 137 #[.pointer (some ⟨jA,nA,none⟩),.pointer (some ⟨jB,nB,none⟩),.pointer (some ⟨jL,nL,none⟩)] (fun v:Bool=> #[Value.bool v]) KR (fun ys=>ys=rsn b x y) (fun pre=>pre<+:rsn b x y) 5 w:=by
 intro l J Jx W hW hJ hJx hY h0
 have hrW:=hr.later hW.size (fun j hj=>hW.block j hj)
 obtain⟨dA,TA,fA,hA1,hA2,hA3⟩:=g1l hrW (k:=2) (es:=rtS x) rfl hA
 obtain⟨dB,TB,fB,hB1,hB2,hB3⟩:=g1l hrW (k:=3) (es:=rtS y) rfl hB
 obtain⟨dL,TL,fL,hL1,hL2,hL3⟩:=g1l hrW (k:=4) (es:=laS a b c r) rfl hL
 have vA:=agg_of (n:=6) rfl hA3 hA2
 have vB:=agg_of (n:=6) rfl hB3 hB2
 have vL:=agg_of (n:=4) rfl hL3 hL2
 have lA: ∀W',CS W W'→(Instr.loadAt 87 (.pointer (some ⟨jA,nA,none⟩))).run Tryz.prog W'=.ok (.agg (dA.extract nA (nA+6))) W':=fun W' h=>load44 (h _ _ hA1 rfl) hA2
 have lB: ∀W',CS W W'→(Instr.loadAt 87 (.pointer (some ⟨jB,nB,none⟩))).run Tryz.prog W'=.ok (.agg (dB.extract nB (nB+6))) W':=fun W' h=>load44 (h _ _ hB1 rfl) hB2
 have lL: ∀W',CS W W'→(Instr.loadAt 27 (.pointer (some ⟨jL,nL,none⟩))).run Tryz.prog W'=.ok (.agg (dL.extract nL (nL+4))) W':=fun W' h=>load27 (h _ _ hL1 rfl) hL2
 have sA: ∀W',CS W W'→(Instr.loadAt 3 (.pointer (some ⟨jA,nA+1,none⟩))).run Tryz.prog W'=.ok (.int .i64 (eN x)) W':=fun W' h=>by
  obtain⟨v,h1,h2⟩:=hA3.one 1 (.int .i64 (eN x)) (by simp[rtS,offs,SV.w]) rfl
  cases h2
  exact load3 (h _ _ hA1 rfl) h1
 have sB: ∀W',CS W W'→(Instr.loadAt 3 (.pointer (some ⟨jB,nB+1,none⟩))).run Tryz.prog W'=.ok (.int .i64 (eN y)) W':=fun W' h=>by
  obtain⟨v,h1,h2⟩:=hB3.one 1 (.int .i64 (eN y)) (by simp[rtS,offs,SV.w]) rfl
  cases h2
  exact load3 (h _ _ hB1 rfl) h1
 have lx:(sds (ndsE x)).length≤100000:=i2q hx
 have ly:(sds (ndsE y)).length≤100000:=i2q hy
 refine callsIn_of_wp Tryz.func137 rfl trivial ?_ rfl
 simp only[Tryz.ntmps137,List.size_toArray,List.length_cons,List.length_nil,Nat.reduceAdd,Nat.reduceSub,Array.replicate_succ,Array.replicate_zero,List.push_toArray,List.append_toArray,List.nil_append,List.cons_append]
 refine wpIn_seq (wpIn_seq ?_)
 refine wpIn_region_any (by kernel_rfl) ?_
 obtain⟨W1,hW1⟩: ∃W1:World,W1={W with drawn:=W.drawn+1}:=⟨_,rfl⟩
 rw[←hW1]
 have c1:CS W W1:=by rw[hW1];exact CS.refl W
 have r1:Rel R σ (s5 a b c r x y false []) W1:=by rw[hW1];exact hrW.later (Nat.le_refl _) (fun _ _=>rfl)
 have j1:J [] W1:=by rw[hW1];exact hJ [] W _ none h0 ⟨rfl,rfl,rfl,Nat.le_refl _,fun _ _ _=>rfl⟩ (fun _ h=>by cases h)
 refine b0f (l':= #[false,false,false,false,false,false,false,false,false,false,false,false,false,false,false,false,false,false]) (a':={tmps:= #[pY l,pP jA nA,pP jB nB,pP jL nL,undef,undef,undef,undef,undef,undef,undef,undef,undef,undef,undef,undef,undef,undef,undef,undef,undef,undef,undef,undef,undef,undef,undef,undef,undef,undef,undef,undef,undef,undef,undef,undef,undef,undef,undef,undef,undef,undef,undef,undef,undef,undef,undef,undef,undef,undef,undef,undef],defers:=[]}) (by kernel_rfl) (by kernel_rfl) ?_
 refine wpAnyIn_take (i:=0) (v:=.func (.yield l) #[] #[]) rfl rfl (by kernel_rfl) (by kernel_rfl) (by kernel_rfl) (fun _ _ _ h=>h) ⟨Or.inl ⟨by kernel_rfl,fun w=>by kernel_rfl⟩,fun _=>rfl⟩ ?_
 refine b0f (l':= #[true,false,false,false,false,false,false,false,false,false,false,false,false,false,false,false,false,false]) (a':={tmps:= #[pY l,pP jA nA,pP jB nB,pP jL nL,undef,undef,undef,pY l,undef,undef,undef,undef,undef,undef,undef,undef,undef,undef,undef,undef,undef,undef,undef,undef,undef,undef,undef,undef,undef,undef,undef,undef,undef,undef,undef,undef,undef,undef,undef,undef,undef,undef,undef,undef,undef,undef,undef,undef,undef,undef,undef,undef],defers:=[]}) (by kernel_rfl) (by kernel_rfl) ?_
 refine wpAnyIn_take (i:=1) (v:=.pointer (some ⟨jA,nA+1,none⟩)) rfl rfl (by kernel_rfl) (by kernel_rfl) (by kernel_rfl) (fun _ _ _ h=>h) ⟨Or.inl ⟨by kernel_rfl,fun w=>by kernel_rfl⟩,fun _=>rfl⟩ ?_
 refine b0f (l':= #[true,true,false,false,false,false,false,false,false,false,false,false,false,false,false,false,false,false]) (a':={tmps:= #[pY l,pP jA nA,pP jB nB,pP jL nL,undef,undef,undef,pY l,pQ jA nA,undef,undef,undef,undef,undef,undef,undef,undef,undef,undef,undef,undef,undef,undef,undef,undef,undef,undef,undef,undef,undef,undef,undef,undef,undef,undef,undef,undef,undef,undef,undef,undef,undef,undef,undef,undef,undef,undef,undef,undef,undef,undef,undef],defers:=[]}) (by kernel_rfl) (by kernel_rfl) ?_
 refine wpAnyIn_take (i:=3) (v:=.pointer (some ⟨jB,nB+1,none⟩)) rfl rfl (by kernel_rfl) (by kernel_rfl) (by kernel_rfl) (fun _ _ _ h=>h) ⟨Or.inl ⟨by kernel_rfl,fun w=>by kernel_rfl⟩,fun _=>rfl⟩ ?_
 refine b0f (l':= #[true,true,false,true,false,false,false,false,false,false,false,false,false,false,false,false,false,false]) (a':={tmps:= #[pY l,pP jA nA,pP jB nB,pP jL nL,undef,undef,undef,pY l,pQ jA nA,undef,pQ jB nB,undef,undef,undef,undef,undef,undef,undef,undef,undef,undef,undef,undef,undef,undef,undef,undef,undef,undef,undef,undef,undef,undef,undef,undef,undef,undef,undef,undef,undef,undef,undef,undef,undef,undef,undef,undef,undef,undef,undef,undef,undef],defers:=[]}) (by kernel_rfl) (by kernel_rfl) ?_
 refine any_ll (S:=CS W) (i:=2) (k:=4) (vi:=.int .i64 (eN x)) (vk:=.int .i64 (eN y)) rfl rfl (by kernel_rfl) (by kernel_rfl) (by kernel_rfl)
  ⟨by kernel_rfl,fun W' h=>e0j rfl (by kernel_rfl) (sA W' h)⟩ ⟨by kernel_rfl,fun W' h=>e0j rfl (by kernel_rfl) (sA W' h)⟩ ⟨by kernel_rfl,fun W' h=>e0j rfl (by kernel_rfl) (sB W' h)⟩ ⟨by kernel_rfl,fun W' h=>e0j rfl (by kernel_rfl) (sB W' h)⟩ c1 (by kernel_rfl) (by kernel_rfl) ?_
 refine b0f (l':= #[true,true,true,true,true,false,false,false,false,false,false,false,false,false,false,false,false,false]) (a':={tmps:= #[pY l,pP jA nA,pP jB nB,pP jL nL,undef,undef,undef,pY l,pQ jA nA,.int .i64 (eN x),pQ jB nB,.int .i64 (eN y),undef,undef,undef,undef,undef,undef,undef,undef,undef,undef,undef,undef,undef,undef,undef,undef,undef,undef,undef,undef,undef,undef,undef,undef,undef,undef,undef,undef,undef,undef,undef,undef,undef,undef,undef,undef,undef,undef,undef,undef],defers:=[]}) (by kernel_rfl) (by kernel_rfl) ?_
 refine wpAnyIn_take (i:=5) (v:=.bool (decide (eN x=eN y))) rfl rfl (by kernel_rfl) (by kernel_rfl) (by kernel_rfl) (fun _ _ _ h=>h) ⟨Or.inl ⟨by kernel_rfl,fun w=>by kernel_rfl⟩,fun _=>rfl⟩ ?_
 refine b0f (l':= #[true,true,true,true,true,true,false,false,false,false,false,false,false,false,false,false,false,false]) (a':={tmps:= #[pY l,pP jA nA,pP jB nB,pP jL nL,undef,undef,undef,pY l,pQ jA nA,.int .i64 (eN x),pQ jB nB,.int .i64 (eN y),zE x y,undef,undef,undef,undef,undef,undef,undef,undef,undef,undef,undef,undef,undef,undef,undef,undef,undef,undef,undef,undef,undef,undef,undef,undef,undef,undef,undef,undef,undef,undef,undef,undef,undef,undef,undef,undef,undef,undef,undef],defers:=[]}) (by kernel_rfl) (by kernel_rfl) ?_
 refine wpAnyIn_all (rs:=[6]) (by kernel_rfl) (by simp) (fun q hq=> ?_)
 cases List.mem_singleton.1 hq
 refine t0a rfl (by kernel_rfl) (m0v rfl (by kernel_rfl) (by kernel_rfl)) (hY [] (decide (eN x=eN y)) W1 j1 (by decide)) ?_
 rintro e W2 (⟨rfl,j2,k2⟩|⟨rfl,x2⟩)
 rotate_left
 ·refine⟨_,rfl,?_⟩
  refine b0f (l':= #[true,true,true,true,true,true,true,false,false,false,false,false,false,false,false,false,false,false]) (a':={tmps:= #[pY l,pP jA nA,pP jB nB,pP jL nL,undef,undef,undef,pY l,pQ jA nA,.int .i64 (eN x),pQ jB nB,.int .i64 (eN y),zE x y,.bool false,undef,undef,undef,undef,undef,undef,undef,undef,undef,undef,undef,undef,undef,undef,undef,undef,undef,undef,undef,undef,undef,undef,undef,undef,undef,undef,undef,undef,undef,undef,undef,undef,undef,undef,undef,undef,undef,undef],defers:=[]}) (by kernel_rfl) (by kernel_rfl) ?_
  refine wpAnyIn_take (i:=7) (v:=.bool true) rfl rfl (by kernel_rfl) (by kernel_rfl) (by kernel_rfl) (fun _ _ _ h=>h) ⟨Or.inl ⟨by kernel_rfl,fun w=>by kernel_rfl⟩,fun _=>rfl⟩ ?_
  refine b0f (l':= #[true,true,true,true,true,true,true,true,false,false,false,false,false,false,false,false,false,false]) (a':={tmps:= #[pY l,pP jA nA,pP jB nB,pP jL nL,undef,undef,undef,pY l,pQ jA nA,.int .i64 (eN x),pQ jB nB,.int .i64 (eN y),zE x y,.bool false,.bool true,undef,undef,undef,undef,undef,undef,undef,undef,undef,undef,undef,undef,undef,undef,undef,undef,undef,undef,undef,undef,undef,undef,undef,undef,undef,undef,undef,undef,undef,undef,undef,undef,undef,undef,undef,undef,undef],defers:=[]}) (by kernel_rfl) (by kernel_rfl) ?_
  refine wpAnyIn_take (i:=8) (v:=.bool true) rfl rfl (by kernel_rfl) (by kernel_rfl) (by kernel_rfl) (fun _ _ _ h=>h) ⟨Or.inl ⟨by kernel_rfl,fun w=>by kernel_rfl⟩,fun _=>rfl⟩ ?_
  refine b0f (l':= #[true,true,true,true,true,true,true,true,true,false,false,false,false,false,false,false,false,false]) (a':={tmps:= #[pY l,pP jA nA,pP jB nB,pP jL nL,undef,undef,undef,pY l,pQ jA nA,.int .i64 (eN x),pQ jB nB,.int .i64 (eN y),zE x y,.bool false,.bool true,.bool true,undef,undef,undef,undef,undef,undef,undef,undef,undef,undef,undef,undef,undef,undef,undef,undef,undef,undef,undef,undef,undef,undef,undef,undef,undef,undef,undef,undef,undef,undef,undef,undef,undef,undef,undef,undef],defers:=[]}) (by kernel_rfl) (by kernel_rfl) ?_
  refine wpAnyIn_take (i:=9) (v:=undef) rfl rfl (by kernel_rfl) (by kernel_rfl) (by kernel_rfl) (fun _ _ _ h=>h) ⟨Or.inr ⟨by kernel_rfl,rfl⟩,fun _=>rfl⟩ ?_
  refine b0f (l':= #[true,true,true,true,true,true,true,true,true,true,false,false,false,false,false,false,false,false]) (a':={tmps:= #[pY l,pP jA nA,pP jB nB,pP jL nL,undef,undef,undef,pY l,pQ jA nA,.int .i64 (eN x),pQ jB nB,.int .i64 (eN y),zE x y,.bool false,.bool true,.bool true,undef,undef,undef,undef,undef,undef,undef,undef,undef,undef,undef,undef,undef,undef,undef,undef,undef,undef,undef,undef,undef,undef,undef,undef,undef,undef,undef,undef,undef,undef,undef,undef,undef,undef,undef,undef],defers:=[]}) (by kernel_rfl) (by kernel_rfl) ?_
  refine wpAnyIn_take (i:=10) (v:=undef) rfl rfl (by kernel_rfl) (by kernel_rfl) (by kernel_rfl) (fun _ _ _ h=>h) ⟨Or.inr ⟨by kernel_rfl,rfl⟩,fun _=>rfl⟩ ?_
  refine b0f (l':= #[true,true,true,true,true,true,true,true,true,true,true,false,false,false,false,false,false,false]) (a':={tmps:= #[pY l,pP jA nA,pP jB nB,pP jL nL,undef,undef,undef,pY l,pQ jA nA,.int .i64 (eN x),pQ jB nB,.int .i64 (eN y),zE x y,.bool false,.bool true,.bool true,undef,undef,undef,undef,undef,undef,undef,undef,undef,undef,undef,undef,undef,undef,undef,undef,undef,undef,undef,undef,undef,undef,undef,undef,undef,undef,undef,undef,undef,undef,undef,undef,undef,undef,undef,undef],defers:=[]}) (by kernel_rfl) (by kernel_rfl) ?_
  refine wpAnyIn_take (i:=12) (v:=undef) rfl rfl (by kernel_rfl) (by kernel_rfl) (by kernel_rfl) (fun _ _ _ h=>h) ⟨Or.inr ⟨by kernel_rfl,rfl⟩,fun _=>rfl⟩ ?_
  refine b0f (l':= #[true,true,true,true,true,true,true,true,true,true,true,false,true,false,false,false,false,false]) (a':={tmps:= #[pY l,pP jA nA,pP jB nB,pP jL nL,undef,undef,undef,pY l,pQ jA nA,.int .i64 (eN x),pQ jB nB,.int .i64 (eN y),zE x y,.bool false,.bool true,.bool true,undef,undef,undef,undef,undef,undef,undef,undef,undef,undef,undef,undef,undef,undef,undef,undef,undef,undef,undef,undef,undef,undef,undef,undef,undef,undef,undef,undef,undef,undef,undef,undef,undef,undef,undef,undef],defers:=[]}) (by kernel_rfl) (by kernel_rfl) ?_
  refine wpAnyIn_all (rs:=[11]) (by kernel_rfl) (by simp) (fun q hq=> ?_)
  cases List.mem_singleton.1 hq
  refine f0j rfl (by kernel_rfl) ?_
  refine b0f (l':= #[true,true,true,true,true,true,true,true,true,true,true,true,true,false,false,false,false,false]) (a':={tmps:= #[pY l,pP jA nA,pP jB nB,pP jL nL,undef,undef,undef,pY l,pQ jA nA,.int .i64 (eN x),pQ jB nB,.int .i64 (eN y),zE x y,.bool false,.bool true,.bool true,undef,undef,undef,undef,undef,undef,undef,undef,undef,undef,undef,undef,undef,undef,undef,undef,undef,undef,undef,undef,undef,undef,undef,undef,undef,undef,undef,undef,undef,undef,undef,undef,undef,undef,undef,undef],defers:=[]}) (by kernel_rfl) (by kernel_rfl) ?_
  refine wpAnyIn_all (rs:=[13]) (by kernel_rfl) (by simp) (fun q hq=> ?_)
  cases List.mem_singleton.1 hq
  refine f0j rfl (by kernel_rfl) ?_
  refine b0f (l':= #[true,true,true,true,true,true,true,true,true,true,true,true,true,true,false,false,false,false]) (a':={tmps:= #[pY l,pP jA nA,pP jB nB,pP jL nL,undef,undef,undef,pY l,pQ jA nA,.int .i64 (eN x),pQ jB nB,.int .i64 (eN y),zE x y,.bool false,.bool true,.bool true,undef,undef,undef,undef,undef,undef,undef,undef,undef,undef,undef,undef,undef,undef,undef,undef,undef,undef,undef,undef,undef,undef,undef,undef,undef,undef,undef,undef,undef,undef,undef,undef,undef,undef,undef,undef],defers:=[]}) (by kernel_rfl) (by kernel_rfl) ?_
  refine wpAnyIn_all (rs:=[14]) (by kernel_rfl) (by simp) (fun q hq=> ?_)
  cases List.mem_singleton.1 hq
  refine f0j rfl (by kernel_rfl) ?_
  refine b0f (l':= #[true,true,true,true,true,true,true,true,true,true,true,true,true,true,true,false,false,false]) (a':={tmps:= #[pY l,pP jA nA,pP jB nB,pP jL nL,undef,undef,undef,pY l,pQ jA nA,.int .i64 (eN x),pQ jB nB,.int .i64 (eN y),zE x y,.bool false,.bool true,.bool true,undef,undef,undef,undef,undef,undef,undef,undef,undef,undef,undef,undef,undef,undef,undef,undef,undef,undef,undef,undef,undef,undef,undef,undef,undef,undef,undef,undef,undef,undef,undef,undef,undef,undef,undef,undef],defers:=[]}) (by kernel_rfl) (by kernel_rfl) ?_
  refine wpAnyIn_all (rs:=[15]) (by kernel_rfl) (by simp) (fun q hq=> ?_)
  cases List.mem_singleton.1 hq
  refine f0j rfl (by kernel_rfl) ?_
  refine b0f (l':= #[true,true,true,true,true,true,true,true,true,true,true,true,true,true,true,true,false,false]) (a':={tmps:= #[pY l,pP jA nA,pP jB nB,pP jL nL,undef,undef,undef,pY l,pQ jA nA,.int .i64 (eN x),pQ jB nB,.int .i64 (eN y),zE x y,.bool false,.bool true,.bool true,undef,undef,undef,undef,undef,undef,undef,undef,undef,undef,undef,undef,undef,undef,undef,undef,undef,undef,undef,undef,undef,undef,undef,undef,undef,undef,undef,undef,undef,undef,undef,undef,undef,undef,undef,undef],defers:=[]}) (by kernel_rfl) (by kernel_rfl) ?_
  refine wpAnyIn_take (i:=16) (v:=undef) rfl rfl (by kernel_rfl) (by kernel_rfl) (by kernel_rfl) (fun _ _ _ h=>h) ⟨Or.inr ⟨by kernel_rfl,rfl⟩,fun _=>rfl⟩ ?_
  refine b0f (l':= #[true,true,true,true,true,true,true,true,true,true,true,true,true,true,true,true,true,false]) (a':={tmps:= #[pY l,pP jA nA,pP jB nB,pP jL nL,undef,undef,undef,pY l,pQ jA nA,.int .i64 (eN x),pQ jB nB,.int .i64 (eN y),zE x y,.bool false,.bool true,.bool true,undef,undef,undef,undef,undef,undef,undef,undef,undef,undef,undef,undef,undef,undef,undef,undef,undef,undef,undef,undef,undef,undef,undef,undef,undef,undef,undef,undef,undef,undef,undef,undef,undef,undef,undef,undef],defers:=[]}) (by kernel_rfl) (by kernel_rfl) ?_
  refine wpAnyIn_take (i:=17) (v:=.bool true) rfl rfl (by kernel_rfl) (by kernel_rfl) (by kernel_rfl) (fun _ _ _ h=>h) ⟨Or.inl ⟨by kernel_rfl,fun w=>by kernel_rfl⟩,fun _=>rfl⟩ ?_
  refine b0f (l':= #[true,true,true,true,true,true,true,true,true,true,true,true,true,true,true,true,true,true]) (a':={tmps:= #[pY l,pP jA nA,pP jB nB,pP jL nL,undef,undef,undef,pY l,pQ jA nA,.int .i64 (eN x),pQ jB nB,.int .i64 (eN y),zE x y,.bool false,.bool true,.bool true,undef,undef,undef,undef,undef,undef,undef,undef,.bool true,undef,undef,undef,undef,undef,undef,undef,undef,undef,undef,undef,undef,undef,undef,undef,undef,undef,undef,undef,undef,undef,undef,undef,undef,undef,undef,undef],defers:=[]}) (by kernel_rfl) (by kernel_rfl) ?_
  refine k1a (a':={tmps:= #[pY l,pP jA nA,pP jB nB,pP jL nL,undef,undef,undef,pY l,pQ jA nA,.int .i64 (eN x),pQ jB nB,.int .i64 (eN y),zE x y,.bool false,.bool true,.bool true,undef,undef,undef,undef,undef,undef,undef,undef,.bool true,undef,undef,undef,undef,undef,undef,undef,undef,undef,undef,undef,undef,undef,undef,undef,undef,undef,undef,undef,undef,undef,undef,undef,undef,undef,undef,undef],defers:=[]}) (by kernel_rfl) (by kernel_rfl) ?_
  show Code.wpIn _ _ _ _ _ _ _
  refine wpIn_cond (t:=true) (by kernel_rfl) ?_
  show Code.wpIn _ _ _ Code.ret _ _ _
  refine wpIn_ret ?_
  simp only[Exit.then]
  refine bodyPost_ret (results_none rfl _ _ _) rfl ⟨⟨_,rfl⟩,.inr ⟨_,?_,x2⟩⟩
  exact⟨_,rfl⟩
 refine⟨_,rfl,?_⟩
 have r2:=k2.rel _ _ _ r1
 have c2:CS W W2:=fun j o h ho=>k2.cell j o (c1 j o h ho) ho
 refine b0f (l':= #[true,true,true,true,true,true,true,false,false,false,false,false,false,false,false,false,false,false]) (a':={tmps:= #[pY l,pP jA nA,pP jB nB,pP jL nL,undef,undef,undef,pY l,pQ jA nA,.int .i64 (eN x),pQ jB nB,.int .i64 (eN y),zE x y,.bool true,undef,undef,undef,undef,undef,undef,undef,undef,undef,undef,undef,undef,undef,undef,undef,undef,undef,undef,undef,undef,undef,undef,undef,undef,undef,undef,undef,undef,undef,undef,undef,undef,undef,undef,undef,undef,undef,undef],defers:=[]}) (by kernel_rfl) (by kernel_rfl) ?_
 refine wpAnyIn_take (i:=7) (v:=.bool false) rfl rfl (by kernel_rfl) (by kernel_rfl) (by kernel_rfl) (fun _ _ _ h=>h) ⟨Or.inl ⟨by kernel_rfl,fun w=>by kernel_rfl⟩,fun _=>rfl⟩ ?_
 refine b0f (l':= #[true,true,true,true,true,true,true,true,false,false,false,false,false,false,false,false,false,false]) (a':={tmps:= #[pY l,pP jA nA,pP jB nB,pP jL nL,undef,undef,undef,pY l,pQ jA nA,.int .i64 (eN x),pQ jB nB,.int .i64 (eN y),zE x y,.bool true,.bool false,undef,undef,undef,undef,undef,undef,undef,undef,undef,undef,undef,undef,undef,undef,undef,undef,undef,undef,undef,undef,undef,undef,undef,undef,undef,undef,undef,undef,undef,undef,undef,undef,undef,undef,undef,undef,undef],defers:=[]}) (by kernel_rfl) (by kernel_rfl) ?_
 refine wpAnyIn_take (i:=8) (v:=.bool false) rfl rfl (by kernel_rfl) (by kernel_rfl) (by kernel_rfl) (fun _ _ _ h=>h) ⟨Or.inl ⟨by kernel_rfl,fun w=>by kernel_rfl⟩,fun _=>rfl⟩ ?_
 refine b0f (l':= #[true,true,true,true,true,true,true,true,true,false,false,false,false,false,false,false,false,false]) (a':={tmps:= #[pY l,pP jA nA,pP jB nB,pP jL nL,undef,undef,undef,pY l,pQ jA nA,.int .i64 (eN x),pQ jB nB,.int .i64 (eN y),zE x y,.bool true,.bool false,.bool false,undef,undef,undef,undef,undef,undef,undef,undef,undef,undef,undef,undef,undef,undef,undef,undef,undef,undef,undef,undef,undef,undef,undef,undef,undef,undef,undef,undef,undef,undef,undef,undef,undef,undef,undef,undef],defers:=[]}) (by kernel_rfl) (by kernel_rfl) ?_
 refine wpAnyIn_take (i:=9) (v:=.func (.yield l) #[] #[]) rfl rfl (by kernel_rfl) (by kernel_rfl) (by kernel_rfl) (fun _ _ _ h=>h) ⟨Or.inl ⟨by kernel_rfl,fun w=>by kernel_rfl⟩,fun _=>rfl⟩ ?_
 refine b0f (l':= #[true,true,true,true,true,true,true,true,true,true,false,false,false,false,false,false,false,false]) (a':={tmps:= #[pY l,pP jA nA,pP jB nB,pP jL nL,undef,undef,undef,pY l,pQ jA nA,.int .i64 (eN x),pQ jB nB,.int .i64 (eN y),zE x y,.bool true,.bool false,.bool false,pY l,undef,undef,undef,undef,undef,undef,undef,undef,undef,undef,undef,undef,undef,undef,undef,undef,undef,undef,undef,undef,undef,undef,undef,undef,undef,undef,undef,undef,undef,undef,undef,undef,undef,undef,undef],defers:=[]}) (by kernel_rfl) (by kernel_rfl) ?_
 refine o2m (S:=CS W) (i:=10) (j:=11) (k:=12) (vi:=.agg (dA.extract nA (nA+6))) (vk:=.agg (dB.extract nB (nB+6))) (args':= #[.agg (dA.extract nA (nA+6))]) rfl rfl rfl (by kernel_rfl) (by kernel_rfl) (by kernel_rfl) (by kernel_rfl) (by kernel_rfl)
  ⟨by kernel_rfl,fun W' h=>e0j rfl (by kernel_rfl) (lA W' h)⟩ ⟨by kernel_rfl,fun W' h=>e0j rfl (by kernel_rfl) (lA W' h)⟩ ⟨by kernel_rfl,fun W' h=>e0j rfl (by kernel_rfl) (lB W' h)⟩ ⟨by kernel_rfl,fun W' h=>e0j rfl (by kernel_rfl) (lB W' h)⟩ (fun v=>⟨by kernel_rfl,fun W' h=>e0j rfl (by kernel_rfl) (lB W' h)⟩) c2
  (by kernel_rfl) (by kernel_rfl) (f0a rfl (by kernel_rfl) Tryz.func47 rfl (by kernel_rfl)) (f0a rfl (by kernel_rfl) Tryz.func47 rfl (by kernel_rfl)) (by kernel_rfl) (fun v=>by kernel_rfl) (by kernel_rfl) (by kernel_rfl) (CallsIn.mono (cTrack hx rfl r2 vA) ?_)
 rintro e W3 ⟨v3,R3,σ3,rfl,q3,r3,m3,t3,b3⟩
 have c3:=c2.trans (CS.below b3)
 refine⟨v3,rfl,c3,?_⟩
 refine b0f (l':= #[true,true,true,true,true,true,true,true,true,true,true,true,true,false,false,false,false,false]) (a':={tmps:= #[pY l,pP jA nA,pP jB nB,pP jL nL,undef,undef,undef,pY l,pQ jA nA,.int .i64 (eN x),pQ jB nB,.int .i64 (eN y),zE x y,.bool true,.bool false,.bool false,pY l,gA dA nA,v3,gA dB nB,undef,undef,undef,undef,undef,undef,undef,undef,undef,undef,undef,undef,undef,undef,undef,undef,undef,undef,undef,undef,undef,undef,undef,undef,undef,undef,undef,undef,undef,undef,undef,undef],defers:=[]}) (by kernel_rfl) (by kernel_rfl) ?_
 have j3:=hJ _ W2 W3 none j2 (Below.grownBy0 b3) (fun _ h=>by cases h)
 refine wpAnyIn_all (rs:=[13]) (by kernel_rfl) (by simp) (fun q hq=> ?_)
 cases List.mem_singleton.1 hq
 refine(m0d (args':= #[.agg (dB.extract nB (nB+6))]) rfl (by kernel_rfl) (f0a rfl (by kernel_rfl) Tryz.func47 rfl (by kernel_rfl)) (CallsIn.mono (cTrack hy rfl r3 (vB.mono m3 t3)) ?_))
 rintro e W4 ⟨v4,R4,σ4,rfl,q4,r4,m4,t4,b4⟩
 refine⟨v4,rfl,?_⟩
 refine b0f (l':= #[true,true,true,true,true,true,true,true,true,true,true,true,true,true,false,false,false,false]) (a':={tmps:= #[pY l,pP jA nA,pP jB nB,pP jL nL,undef,undef,undef,pY l,pQ jA nA,.int .i64 (eN x),pQ jB nB,.int .i64 (eN y),zE x y,.bool true,.bool false,.bool false,pY l,gA dA nA,v3,gA dB nB,v4,undef,undef,undef,undef,undef,undef,undef,undef,undef,undef,undef,undef,undef,undef,undef,undef,undef,undef,undef,undef,undef,undef,undef,undef,undef,undef,undef,undef,undef,undef,undef],defers:=[]}) (by kernel_rfl) (by kernel_rfl) ?_
 have c4:=c3.trans (CS.below b4)
 have j4:=hJ _ W3 W4 none j3 (Below.grownBy0 b4) (fun _ h=>by cases h)
 refine wpAnyIn_all (rs:=[14]) (by kernel_rfl) (by simp) (fun q hq=> ?_)
 cases List.mem_singleton.1 hq
 refine(m0d (args':= #[v3,v4]) rfl (by kernel_rfl) (f0a rfl (by kernel_rfl) Tryz.func138 rfl (by kernel_rfl)) (CallsIn.mono (cShare (i:=5) (j:=6) (p2z hx) (p2z hy) rfl rfl rfl r4 (q3.mono m4 t4) q4) ?_))
 rintro e W5 ⟨rfl,R5,σ5,r5,m5,t5,b5⟩
 refine⟨_,rfl,?_⟩
 refine b0f (l':= #[true,true,true,true,true,true,true,true,true,true,true,true,true,true,true,false,false,false]) (a':={tmps:= #[pY l,pP jA nA,pP jB nB,pP jL nL,undef,undef,undef,pY l,pQ jA nA,.int .i64 (eN x),pQ jB nB,.int .i64 (eN y),zE x y,.bool true,.bool false,.bool false,pY l,gA dA nA,v3,gA dB nB,v4,zS x y,undef,undef,undef,undef,undef,undef,undef,undef,undef,undef,undef,undef,undef,undef,undef,undef,undef,undef,undef,undef,undef,undef,undef,undef,undef,undef,undef,undef,undef,undef],defers:=[]}) (by kernel_rfl) (by kernel_rfl) ?_
 have c5:=c4.trans (CS.below b5)
 have j5:=hJ _ W4 W5 none j4 (Below.grownBy0 b5) (fun _ h=>by cases h)
 refine wpAnyIn_all (rs:=[15]) (by kernel_rfl) (by simp) (fun q hq=> ?_)
 cases List.mem_singleton.1 hq
 refine(t0a rfl (by kernel_rfl) (m0v rfl (by kernel_rfl) (by kernel_rfl)) (hY [decide (eN x=eN y)] (shF (trk x) (trk y)) W5 j5 (by simp)) ?_)
 rintro e W6 (⟨rfl,j6,k6⟩|⟨rfl,x6⟩)
 rotate_left
 ·refine⟨_,rfl,?_⟩
  refine b0f (l':= #[true,true,true,true,true,true,true,true,true,true,true,true,true,true,true,true,false,false]) (a':={tmps:= #[pY l,pP jA nA,pP jB nB,pP jL nL,undef,undef,undef,pY l,pQ jA nA,.int .i64 (eN x),pQ jB nB,.int .i64 (eN y),zE x y,.bool true,.bool false,.bool false,pY l,gA dA nA,v3,gA dB nB,v4,zS x y,.bool false,undef,undef,undef,undef,undef,undef,undef,undef,undef,undef,undef,undef,undef,undef,undef,undef,undef,undef,undef,undef,undef,undef,undef,undef,undef,undef,undef,undef,undef],defers:=[]}) (by kernel_rfl) (by kernel_rfl) ?_
  refine wpAnyIn_take (i:=16) (v:=.bool true) rfl rfl (by kernel_rfl) (by kernel_rfl) (by kernel_rfl) (fun _ _ _ h=>h) ⟨Or.inl ⟨by kernel_rfl,fun w=>by kernel_rfl⟩,fun _=>rfl⟩ ?_
  refine b0f (l':= #[true,true,true,true,true,true,true,true,true,true,true,true,true,true,true,true,true,false]) (a':={tmps:= #[pY l,pP jA nA,pP jB nB,pP jL nL,undef,undef,undef,pY l,pQ jA nA,.int .i64 (eN x),pQ jB nB,.int .i64 (eN y),zE x y,.bool true,.bool false,.bool false,pY l,gA dA nA,v3,gA dB nB,v4,zS x y,.bool false,.bool true,undef,undef,undef,undef,undef,undef,undef,undef,undef,undef,undef,undef,undef,undef,undef,undef,undef,undef,undef,undef,undef,undef,undef,undef,undef,undef,undef,undef],defers:=[]}) (by kernel_rfl) (by kernel_rfl) ?_
  refine wpAnyIn_take (i:=17) (v:=.bool true) rfl rfl (by kernel_rfl) (by kernel_rfl) (by kernel_rfl) (fun _ _ _ h=>h) ⟨Or.inl ⟨by kernel_rfl,fun w=>by kernel_rfl⟩,fun _=>rfl⟩ ?_
  refine b0f (l':= #[true,true,true,true,true,true,true,true,true,true,true,true,true,true,true,true,true,true]) (a':={tmps:= #[pY l,pP jA nA,pP jB nB,pP jL nL,undef,undef,undef,pY l,pQ jA nA,.int .i64 (eN x),pQ jB nB,.int .i64 (eN y),zE x y,.bool true,.bool false,.bool false,pY l,gA dA nA,v3,gA dB nB,v4,zS x y,.bool false,.bool true,.bool true,undef,undef,undef,undef,undef,undef,undef,undef,undef,undef,undef,undef,undef,undef,undef,undef,undef,undef,undef,undef,undef,undef,undef,undef,undef,undef,undef],defers:=[]}) (by kernel_rfl) (by kernel_rfl) ?_
  refine k1a (a':={tmps:= #[pY l,pP jA nA,pP jB nB,pP jL nL,undef,undef,undef,pY l,pQ jA nA,.int .i64 (eN x),pQ jB nB,.int .i64 (eN y),zE x y,.bool true,.bool false,.bool false,pY l,gA dA nA,v3,gA dB nB,v4,zS x y,.bool false,.bool true,.bool true,undef,undef,undef,undef,undef,undef,undef,undef,undef,undef,undef,undef,undef,undef,undef,undef,undef,undef,undef,undef,undef,undef,undef,undef,undef,undef,undef],defers:=[]}) (by kernel_rfl) (by kernel_rfl) ?_
  show Code.wpIn _ _ _ _ _ _ _
  refine wpIn_cond (t:=true) (by kernel_rfl) ?_
  show Code.wpIn _ _ _ Code.ret _ _ _
  refine wpIn_ret ?_
  simp only[Exit.then]
  refine bodyPost_ret (results_none rfl _ _ _) rfl ⟨⟨_,rfl⟩,.inr ⟨_,?_,x6⟩⟩
  exact⟨_,rfl⟩
 refine⟨_,rfl,?_⟩
 have r6:=k6.rel _ _ _ r5
 have c6:CS W W6:=fun j o h ho=>k6.cell j o (c5 j o h ho) ho
 have vA6:=(((vA.mono m3 t3).mono m4 t4).mono m5 t5)
 have vB6:=(((vB.mono m3 t3).mono m4 t4).mono m5 t5)
 have vL6:=(((vL.mono m3 t3).mono m4 t4).mono m5 t5)
 refine b0f (l':= #[true,true,true,true,true,true,true,true,true,true,true,true,true,true,true,true,false,false]) (a':={tmps:= #[pY l,pP jA nA,pP jB nB,pP jL nL,undef,undef,undef,pY l,pQ jA nA,.int .i64 (eN x),pQ jB nB,.int .i64 (eN y),zE x y,.bool true,.bool false,.bool false,pY l,gA dA nA,v3,gA dB nB,v4,zS x y,.bool true,undef,undef,undef,undef,undef,undef,undef,undef,undef,undef,undef,undef,undef,undef,undef,undef,undef,undef,undef,undef,undef,undef,undef,undef,undef,undef,undef,undef,undef],defers:=[]}) (by kernel_rfl) (by kernel_rfl) ?_
 refine wpAnyIn_take (i:=16) (v:=.bool false) rfl rfl (by kernel_rfl) (by kernel_rfl) (by kernel_rfl) (fun _ _ _ h=>h) ⟨Or.inl ⟨by kernel_rfl,fun w=>by kernel_rfl⟩,fun _=>rfl⟩ ?_
 refine b0f (l':= #[true,true,true,true,true,true,true,true,true,true,true,true,true,true,true,true,true,false]) (a':={tmps:= #[pY l,pP jA nA,pP jB nB,pP jL nL,undef,undef,undef,pY l,pQ jA nA,.int .i64 (eN x),pQ jB nB,.int .i64 (eN y),zE x y,.bool true,.bool false,.bool false,pY l,gA dA nA,v3,gA dB nB,v4,zS x y,.bool true,.bool false,undef,undef,undef,undef,undef,undef,undef,undef,undef,undef,undef,undef,undef,undef,undef,undef,undef,undef,undef,undef,undef,undef,undef,undef,undef,undef,undef,undef],defers:=[]}) (by kernel_rfl) (by kernel_rfl) ?_
 refine wpAnyIn_take (i:=17) (v:=.bool false) rfl rfl (by kernel_rfl) (by kernel_rfl) (by kernel_rfl) (fun _ _ _ h=>h) ⟨Or.inl ⟨by kernel_rfl,fun w=>by kernel_rfl⟩,fun _=>rfl⟩ ?_
 refine b0f (l':= #[true,true,true,true,true,true,true,true,true,true,true,true,true,true,true,true,true,true]) (a':={tmps:= #[pY l,pP jA nA,pP jB nB,pP jL nL,undef,undef,undef,pY l,pQ jA nA,.int .i64 (eN x),pQ jB nB,.int .i64 (eN y),zE x y,.bool true,.bool false,.bool false,pY l,gA dA nA,v3,gA dB nB,v4,zS x y,.bool true,.bool false,.bool false,undef,undef,undef,undef,undef,undef,undef,undef,undef,undef,undef,undef,undef,undef,undef,undef,undef,undef,undef,undef,undef,undef,undef,undef,undef,undef,undef],defers:=[]}) (by kernel_rfl) (by kernel_rfl) ?_
 refine k1a (a':={tmps:= #[pY l,pP jA nA,pP jB nB,pP jL nL,undef,undef,undef,pY l,pQ jA nA,.int .i64 (eN x),pQ jB nB,.int .i64 (eN y),zE x y,.bool true,.bool false,.bool false,pY l,gA dA nA,v3,gA dB nB,v4,zS x y,.bool true,.bool false,.bool false,undef,undef,undef,undef,undef,undef,undef,undef,undef,undef,undef,undef,undef,undef,undef,undef,undef,undef,undef,undef,undef,undef,undef,undef,undef,undef,undef],defers:=[]}) (by kernel_rfl) (by kernel_rfl) ?_
 show Code.wpIn _ _ _ _ _ _ _
 refine wpIn_cond (t:=false) (by kernel_rfl) ?_
 show Code.wpIn _ _ _ Code.skip _ _ _
 refine wpIn_skip ?_
 show Code.wpIn _ _ _ _ _ _ _
 refine wpIn_seq ?_
 refine wpIn_region_any (by kernel_rfl) ?_
 obtain⟨W7,hW7⟩: ∃W7:World,W7={W6 with drawn:=W6.drawn+1}:=⟨_,rfl⟩
 rw[←hW7]
 have c7:CS W W7:=by rw[hW7];exact c6
 have r7:Rel R5 σ5 (((s5 a b c r x y false []).push (.arr TI 0 (trk x))).push (.arr TI 0 (trk y))) W7:=by rw[hW7];exact r6.later (Nat.le_refl _) (fun _ _=>rfl)
 have j7:J [decide (eN x=eN y),shF (trk x) (trk y)] W7:=by rw[hW7];exact hJ _ W6 _ none j6 ⟨rfl,rfl,rfl,Nat.le_refl _,fun _ _ _=>rfl⟩ (fun _ h=>by cases h)
 refine b0f (l':= #[false,false,false,false,false,false]) (a':={tmps:= #[pY l,pP jA nA,pP jB nB,pP jL nL,undef,undef,undef,pY l,pQ jA nA,.int .i64 (eN x),pQ jB nB,.int .i64 (eN y),zE x y,.bool true,.bool false,.bool false,pY l,gA dA nA,v3,gA dB nB,v4,zS x y,.bool true,.bool false,.bool false,undef,undef,undef,undef,undef,undef,undef,undef,undef,undef,undef,undef,undef,undef,undef,undef,undef,undef,undef,undef,undef,undef,undef,undef,undef,undef,undef],defers:=[]}) (by kernel_rfl) (by kernel_rfl) ?_
 refine o2m (S:=CS W) (i:=0) (j:=1) (k:=2) (vi:=.agg (dA.extract nA (nA+6))) (vk:=.agg (dB.extract nB (nB+6))) (args':= #[.agg (dA.extract nA (nA+6))]) rfl rfl rfl (by kernel_rfl) (by kernel_rfl) (by kernel_rfl) (by kernel_rfl) (by kernel_rfl)
  ⟨by kernel_rfl,fun W' h=>e0j rfl (by kernel_rfl) (lA W' h)⟩ ⟨by kernel_rfl,fun W' h=>e0j rfl (by kernel_rfl) (lA W' h)⟩ ⟨by kernel_rfl,fun W' h=>e0j rfl (by kernel_rfl) (lB W' h)⟩ ⟨by kernel_rfl,fun W' h=>e0j rfl (by kernel_rfl) (lB W' h)⟩ (fun v=>⟨by kernel_rfl,fun W' h=>e0j rfl (by kernel_rfl) (lB W' h)⟩) c7
  (by kernel_rfl) (by kernel_rfl) (f0a rfl (by kernel_rfl) Tryz.func139 rfl (by kernel_rfl)) (f0a rfl (by kernel_rfl) Tryz.func139 rfl (by kernel_rfl)) (by kernel_rfl) (fun v=>by kernel_rfl) (by kernel_rfl) (by kernel_rfl) (CallsIn.mono (cSides hx rfl r7 vA6) ?_)
 rintro e W8 ⟨v7,R7,σ7,rfl,q7,r8,m7,t7,b7⟩
 have c8:=c7.trans (CS.below b7)
 refine⟨v7,rfl,c8,?_⟩
 refine b0f (l':= #[true,true,true,false,false,false]) (a':={tmps:= #[pY l,pP jA nA,pP jB nB,pP jL nL,undef,undef,undef,pY l,pQ jA nA,.int .i64 (eN x),pQ jB nB,.int .i64 (eN y),zE x y,.bool true,.bool false,.bool false,pY l,gA dA nA,v3,gA dB nB,v4,zS x y,.bool true,.bool false,.bool false,gA dA nA,v7,gA dB nB,undef,undef,undef,undef,undef,undef,undef,undef,undef,undef,undef,undef,undef,undef,undef,undef,undef,undef,undef,undef,undef,undef,undef,undef],defers:=[]}) (by kernel_rfl) (by kernel_rfl) ?_
 have j8:=hJ _ W7 W8 none j7 (Below.grownBy0 b7) (fun _ h=>by cases h)
 refine wpAnyIn_all (rs:=[3]) (by kernel_rfl) (by simp) (fun q hq=> ?_)
 cases List.mem_singleton.1 hq
 refine(m0d (args':= #[.agg (dB.extract nB (nB+6))]) rfl (by kernel_rfl) (f0a rfl (by kernel_rfl) Tryz.func139 rfl (by kernel_rfl)) (CallsIn.mono (cSides hy rfl r8 (vB6.mono m7 t7)) ?_))
 rintro e W9 ⟨v8,R8,σ8,rfl,q8,r9,m8,t8,b8⟩
 refine⟨v8,rfl,?_⟩
 refine b0f (l':= #[true,true,true,true,false,false]) (a':={tmps:= #[pY l,pP jA nA,pP jB nB,pP jL nL,undef,undef,undef,pY l,pQ jA nA,.int .i64 (eN x),pQ jB nB,.int .i64 (eN y),zE x y,.bool true,.bool false,.bool false,pY l,gA dA nA,v3,gA dB nB,v4,zS x y,.bool true,.bool false,.bool false,gA dA nA,v7,gA dB nB,v8,undef,undef,undef,undef,undef,undef,undef,undef,undef,undef,undef,undef,undef,undef,undef,undef,undef,undef,undef,undef,undef,undef,undef],defers:=[]}) (by kernel_rfl) (by kernel_rfl) ?_
 have c9:=c8.trans (CS.below b8)
 have j9:=hJ _ W8 W9 none j8 (Below.grownBy0 b8) (fun _ h=>by cases h)
 refine wpAnyIn_take (i:=4) (v:=v7) rfl rfl (by kernel_rfl) (by kernel_rfl) (by kernel_rfl) (fun _ _ _ h=>h) ⟨Or.inl ⟨by kernel_rfl,fun w=>by kernel_rfl⟩,fun _=>rfl⟩ ?_
 refine b0f (l':= #[true,true,true,true,true,false]) (a':={tmps:= #[pY l,pP jA nA,pP jB nB,pP jL nL,undef,v7,undef,pY l,pQ jA nA,.int .i64 (eN x),pQ jB nB,.int .i64 (eN y),zE x y,.bool true,.bool false,.bool false,pY l,gA dA nA,v3,gA dB nB,v4,zS x y,.bool true,.bool false,.bool false,gA dA nA,v7,gA dB nB,v8,undef,undef,undef,undef,undef,undef,undef,undef,undef,undef,undef,undef,undef,undef,undef,undef,undef,undef,undef,undef,undef,undef,undef],defers:=[]}) (by kernel_rfl) (by kernel_rfl) ?_
 refine wpAnyIn_take (i:=5) (v:=v8) rfl rfl (by kernel_rfl) (by kernel_rfl) (by kernel_rfl) (fun _ _ _ h=>h) ⟨Or.inl ⟨by kernel_rfl,fun w=>by kernel_rfl⟩,fun _=>rfl⟩ ?_
 refine b0f (l':= #[true,true,true,true,true,true]) (a':={tmps:= #[pY l,pP jA nA,pP jB nB,pP jL nL,undef,v7,v8,pY l,pQ jA nA,.int .i64 (eN x),pQ jB nB,.int .i64 (eN y),zE x y,.bool true,.bool false,.bool false,pY l,gA dA nA,v3,gA dB nB,v4,zS x y,.bool true,.bool false,.bool false,gA dA nA,v7,gA dB nB,v8,undef,undef,undef,undef,undef,undef,undef,undef,undef,undef,undef,undef,undef,undef,undef,undef,undef,undef,undef,undef,undef,undef,undef],defers:=[]}) (by kernel_rfl) (by kernel_rfl) ?_
 refine k1a (a':={tmps:= #[pY l,pP jA nA,pP jB nB,pP jL nL,undef,v7,v8,pY l,pQ jA nA,.int .i64 (eN x),pQ jB nB,.int .i64 (eN y),zE x y,.bool true,.bool false,.bool false,pY l,gA dA nA,v3,gA dB nB,v4,zS x y,.bool true,.bool false,.bool false,gA dA nA,v7,gA dB nB,v8,undef,undef,undef,undef,undef,undef,undef,undef,undef,undef,undef,undef,undef,undef,undef,undef,undef,undef,undef,undef,undef,undef,undef],defers:=[]}) (by kernel_rfl) (by kernel_rfl) ?_
 show Code.wpIn _ _ _ _ _ _ _
 refine wpIn_seq (wpIn_seq ?_)
 have vB9:=(vB6.mono m7 t7).mono m8 t8
 have vL9:=(vL6.mono m7 t7).mono m8 t8
 have vA9:=(vA6.mono m7 t7).mono m8 t8
 have q79:=q7.mono m8 t8
 refine b1p (l:=[0,1,2,3,4,5,6,7,8,9,10,11,12,13,14,15]) (by kernel_rfl) ?_
 refine a0u (d0a (v:=.func (.yield l) #[] #[]) rfl (by kernel_rfl) (by kernel_rfl) ?_)
 refine b0e (a':={tmps:= #[pY l,pP jA nA,pP jB nB,pP jL nL,undef,v7,v8,pY l,pQ jA nA,.int .i64 (eN x),pQ jB nB,.int .i64 (eN y),zE x y,.bool true,.bool false,.bool false,pY l,gA dA nA,v3,gA dB nB,v4,zS x y,.bool true,.bool false,.bool false,gA dA nA,v7,gA dB nB,v8,pY l,undef,undef,undef,undef,undef,undef,undef,undef,undef,undef,undef,undef,undef,undef,undef,undef,undef,undef,undef,undef,undef,undef],defers:=[]}) (by kernel_rfl) ?_
 refine a0u (d0a (v:=v7) rfl (by kernel_rfl) (by kernel_rfl) ?_)
 refine b0e (a':={tmps:= #[pY l,pP jA nA,pP jB nB,pP jL nL,undef,v7,v8,pY l,pQ jA nA,.int .i64 (eN x),pQ jB nB,.int .i64 (eN y),zE x y,.bool true,.bool false,.bool false,pY l,gA dA nA,v3,gA dB nB,v4,zS x y,.bool true,.bool false,.bool false,gA dA nA,v7,gA dB nB,v8,pY l,v7,undef,undef,undef,undef,undef,undef,undef,undef,undef,undef,undef,undef,undef,undef,undef,undef,undef,undef,undef,undef,undef],defers:=[]}) (by kernel_rfl) ?_
 refine a0u (d0a (v:=v8) rfl (by kernel_rfl) (by kernel_rfl) ?_)
 refine b0e (a':={tmps:= #[pY l,pP jA nA,pP jB nB,pP jL nL,undef,v7,v8,pY l,pQ jA nA,.int .i64 (eN x),pQ jB nB,.int .i64 (eN y),zE x y,.bool true,.bool false,.bool false,pY l,gA dA nA,v3,gA dB nB,v4,zS x y,.bool true,.bool false,.bool false,gA dA nA,v7,gA dB nB,v8,pY l,v7,v8,undef,undef,undef,undef,undef,undef,undef,undef,undef,undef,undef,undef,undef,undef,undef,undef,undef,undef,undef,undef],defers:=[]}) (by kernel_rfl) ?_
 refine a0u (m0d (args':= #[v7,v8]) rfl (by kernel_rfl) (f0a rfl (by kernel_rfl) Tryz.func140 rfl (by kernel_rfl)) (CallsIn.mono (cUnlike (i:=7) (j:=8) lx ly rfl rfl rfl r9 q79 q8) ?_))
 rintro e W10 ⟨rfl,R10,σ10,r10,m10,t10,b10⟩
 refine⟨_,rfl,?_⟩
 refine b0e (a':={tmps:= #[pY l,pP jA nA,pP jB nB,pP jL nL,undef,v7,v8,pY l,pQ jA nA,.int .i64 (eN x),pQ jB nB,.int .i64 (eN y),zE x y,.bool true,.bool false,.bool false,pY l,gA dA nA,v3,gA dB nB,v4,zS x y,.bool true,.bool false,.bool false,gA dA nA,v7,gA dB nB,v8,pY l,v7,v8,zU x y,undef,undef,undef,undef,undef,undef,undef,undef,undef,undef,undef,undef,undef,undef,undef,undef,undef,undef,undef],defers:=[]}) (by kernel_rfl) ?_
 have c10:=c9.trans (CS.below b10)
 have j10:=hJ _ W9 W10 none j9 (Below.grownBy0 b10) (fun _ h=>by cases h)
 refine a0u (t0a rfl (by kernel_rfl) (m0v rfl (by kernel_rfl) (by kernel_rfl)) (hY [decide (eN x=eN y),shF (trk x) (trk y)] (unF (sds (ndsE x)) (sds (ndsE y))) W10 j10 (by simp)) ?_)
 rintro e W11 (⟨rfl,j11,k11⟩|⟨rfl,x11⟩)
 rotate_left
 ·refine⟨_,rfl,?_⟩
  refine b0e (a':={tmps:= #[pY l,pP jA nA,pP jB nB,pP jL nL,undef,v7,v8,pY l,pQ jA nA,.int .i64 (eN x),pQ jB nB,.int .i64 (eN y),zE x y,.bool true,.bool false,.bool false,pY l,gA dA nA,v3,gA dB nB,v4,zS x y,.bool true,.bool false,.bool false,gA dA nA,v7,gA dB nB,v8,pY l,v7,v8,zU x y,.bool false,undef,undef,undef,undef,undef,undef,undef,undef,undef,undef,undef,undef,undef,undef,undef,undef,undef,undef],defers:=[]}) (by kernel_rfl) ?_
  refine a0u (d0a (v:=.bool true) rfl (by kernel_rfl) (by kernel_rfl) ?_)
  refine b0e (a':={tmps:= #[pY l,pP jA nA,pP jB nB,pP jL nL,undef,v7,v8,pY l,pQ jA nA,.int .i64 (eN x),pQ jB nB,.int .i64 (eN y),zE x y,.bool true,.bool false,.bool false,pY l,gA dA nA,v3,gA dB nB,v4,zS x y,.bool true,.bool false,.bool false,gA dA nA,v7,gA dB nB,v8,pY l,v7,v8,zU x y,.bool false,.bool true,undef,undef,undef,undef,undef,undef,undef,undef,undef,undef,undef,undef,undef,undef,undef,undef,undef],defers:=[]}) (by kernel_rfl) ?_
  refine a0u (d0a (v:=.bool true) rfl (by kernel_rfl) (by kernel_rfl) ?_)
  refine b0e (a':={tmps:= #[pY l,pP jA nA,pP jB nB,pP jL nL,undef,v7,v8,pY l,pQ jA nA,.int .i64 (eN x),pQ jB nB,.int .i64 (eN y),zE x y,.bool true,.bool false,.bool false,pY l,gA dA nA,v3,gA dB nB,v4,zS x y,.bool true,.bool false,.bool false,gA dA nA,v7,gA dB nB,v8,pY l,v7,v8,zU x y,.bool false,.bool true,.bool true,undef,undef,undef,undef,undef,undef,undef,undef,undef,undef,undef,undef,undef,undef,undef,undef],defers:=[]}) (by kernel_rfl) ?_
  refine a0u (f0j rfl (by kernel_rfl) ?_)
  refine b0e (a':={tmps:= #[pY l,pP jA nA,pP jB nB,pP jL nL,undef,v7,v8,pY l,pQ jA nA,.int .i64 (eN x),pQ jB nB,.int .i64 (eN y),zE x y,.bool true,.bool false,.bool false,pY l,gA dA nA,v3,gA dB nB,v4,zS x y,.bool true,.bool false,.bool false,gA dA nA,v7,gA dB nB,v8,pY l,v7,v8,zU x y,.bool false,.bool true,.bool true,undef,undef,undef,undef,undef,undef,undef,undef,undef,undef,undef,undef,undef,undef,undef,undef],defers:=[]}) (by kernel_rfl) ?_
  refine a0u (f0j rfl (by kernel_rfl) ?_)
  refine b0e (a':={tmps:= #[pY l,pP jA nA,pP jB nB,pP jL nL,undef,v7,v8,pY l,pQ jA nA,.int .i64 (eN x),pQ jB nB,.int .i64 (eN y),zE x y,.bool true,.bool false,.bool false,pY l,gA dA nA,v3,gA dB nB,v4,zS x y,.bool true,.bool false,.bool false,gA dA nA,v7,gA dB nB,v8,pY l,v7,v8,zU x y,.bool false,.bool true,.bool true,undef,undef,undef,undef,undef,undef,undef,undef,undef,undef,undef,undef,undef,undef,undef,undef],defers:=[]}) (by kernel_rfl) ?_
  refine a0u (f0j rfl (by kernel_rfl) ?_)
  refine b0e (a':={tmps:= #[pY l,pP jA nA,pP jB nB,pP jL nL,undef,v7,v8,pY l,pQ jA nA,.int .i64 (eN x),pQ jB nB,.int .i64 (eN y),zE x y,.bool true,.bool false,.bool false,pY l,gA dA nA,v3,gA dB nB,v4,zS x y,.bool true,.bool false,.bool false,gA dA nA,v7,gA dB nB,v8,pY l,v7,v8,zU x y,.bool false,.bool true,.bool true,undef,undef,undef,undef,undef,undef,undef,undef,undef,undef,undef,undef,undef,undef,undef,undef],defers:=[]}) (by kernel_rfl) ?_
  refine a0u (f0j rfl (by kernel_rfl) ?_)
  refine b0e (a':={tmps:= #[pY l,pP jA nA,pP jB nB,pP jL nL,undef,v7,v8,pY l,pQ jA nA,.int .i64 (eN x),pQ jB nB,.int .i64 (eN y),zE x y,.bool true,.bool false,.bool false,pY l,gA dA nA,v3,gA dB nB,v4,zS x y,.bool true,.bool false,.bool false,gA dA nA,v7,gA dB nB,v8,pY l,v7,v8,zU x y,.bool false,.bool true,.bool true,undef,undef,undef,undef,undef,undef,undef,undef,undef,undef,undef,undef,undef,undef,undef,undef],defers:=[]}) (by kernel_rfl) ?_
  refine a0u (f0j rfl (by kernel_rfl) ?_)
  refine b0e (a':={tmps:= #[pY l,pP jA nA,pP jB nB,pP jL nL,undef,v7,v8,pY l,pQ jA nA,.int .i64 (eN x),pQ jB nB,.int .i64 (eN y),zE x y,.bool true,.bool false,.bool false,pY l,gA dA nA,v3,gA dB nB,v4,zS x y,.bool true,.bool false,.bool false,gA dA nA,v7,gA dB nB,v8,pY l,v7,v8,zU x y,.bool false,.bool true,.bool true,undef,undef,undef,undef,undef,undef,undef,undef,undef,undef,undef,undef,undef,undef,undef,undef],defers:=[]}) (by kernel_rfl) ?_
  refine a0u (f0j rfl (by kernel_rfl) ?_)
  refine b0e (a':={tmps:= #[pY l,pP jA nA,pP jB nB,pP jL nL,undef,v7,v8,pY l,pQ jA nA,.int .i64 (eN x),pQ jB nB,.int .i64 (eN y),zE x y,.bool true,.bool false,.bool false,pY l,gA dA nA,v3,gA dB nB,v4,zS x y,.bool true,.bool false,.bool false,gA dA nA,v7,gA dB nB,v8,pY l,v7,v8,zU x y,.bool false,.bool true,.bool true,undef,undef,undef,undef,undef,undef,undef,undef,undef,undef,undef,undef,undef,undef,undef,undef],defers:=[]}) (by kernel_rfl) ?_
  refine a0u (f0j rfl (by kernel_rfl) ?_)
  refine b0e (a':={tmps:= #[pY l,pP jA nA,pP jB nB,pP jL nL,undef,v7,v8,pY l,pQ jA nA,.int .i64 (eN x),pQ jB nB,.int .i64 (eN y),zE x y,.bool true,.bool false,.bool false,pY l,gA dA nA,v3,gA dB nB,v4,zS x y,.bool true,.bool false,.bool false,gA dA nA,v7,gA dB nB,v8,pY l,v7,v8,zU x y,.bool false,.bool true,.bool true,undef,undef,undef,undef,undef,undef,undef,undef,undef,undef,undef,undef,undef,undef,undef,undef],defers:=[]}) (by kernel_rfl) ?_
  refine a0u (f0j rfl (by kernel_rfl) ?_)
  refine b0e (a':={tmps:= #[pY l,pP jA nA,pP jB nB,pP jL nL,undef,v7,v8,pY l,pQ jA nA,.int .i64 (eN x),pQ jB nB,.int .i64 (eN y),zE x y,.bool true,.bool false,.bool false,pY l,gA dA nA,v3,gA dB nB,v4,zS x y,.bool true,.bool false,.bool false,gA dA nA,v7,gA dB nB,v8,pY l,v7,v8,zU x y,.bool false,.bool true,.bool true,undef,undef,undef,undef,undef,undef,undef,undef,undef,undef,undef,undef,undef,undef,undef,undef],defers:=[]}) (by kernel_rfl) ?_
  refine a0u (d0a (v:=.bool true) rfl (by kernel_rfl) (by kernel_rfl) ?_)
  refine b0e (a':={tmps:= #[pY l,pP jA nA,pP jB nB,pP jL nL,undef,v7,v8,pY l,pQ jA nA,.int .i64 (eN x),pQ jB nB,.int .i64 (eN y),zE x y,.bool true,.bool false,.bool false,pY l,gA dA nA,v3,gA dB nB,v4,zS x y,.bool true,.bool false,.bool false,gA dA nA,v7,gA dB nB,v8,pY l,v7,v8,zU x y,.bool false,.bool true,.bool true,undef,undef,undef,undef,undef,undef,undef,undef,.bool true,undef,undef,undef,undef,undef,undef,undef],defers:=[]}) (by kernel_rfl) ?_
  refine b1y (a':={tmps:= #[pY l,pP jA nA,pP jB nB,pP jL nL,undef,v7,v8,pY l,pQ jA nA,.int .i64 (eN x),pQ jB nB,.int .i64 (eN y),zE x y,.bool true,.bool false,.bool false,pY l,gA dA nA,v3,gA dB nB,v4,zS x y,.bool true,.bool false,.bool false,gA dA nA,v7,gA dB nB,v8,pY l,v7,v8,zU x y,.bool false,.bool true,.bool true,undef,undef,undef,undef,undef,undef,undef,undef,.bool true,undef,undef,undef,undef,undef,undef,undef],defers:=[]}) (by kernel_rfl) ?_
  show Code.wpIn _ _ _ _ _ _ _
  refine wpIn_cond (t:=true) (by kernel_rfl) ?_
  show Code.wpIn _ _ _ Code.ret _ _ _
  refine wpIn_ret ?_
  simp only[Exit.then]
  refine bodyPost_ret (results_none rfl _ _ _) rfl ⟨⟨_,rfl⟩,.inr ⟨_,?_,x11⟩⟩
  exact⟨_,rfl⟩
 refine⟨_,rfl,?_⟩
 have r11:=k11.rel _ _ _ r10
 have c11:CS W W11:=fun j o h ho=>k11.cell j o (c10 j o h ho) ho
 refine b0e (a':={tmps:= #[pY l,pP jA nA,pP jB nB,pP jL nL,undef,v7,v8,pY l,pQ jA nA,.int .i64 (eN x),pQ jB nB,.int .i64 (eN y),zE x y,.bool true,.bool false,.bool false,pY l,gA dA nA,v3,gA dB nB,v4,zS x y,.bool true,.bool false,.bool false,gA dA nA,v7,gA dB nB,v8,pY l,v7,v8,zU x y,.bool true,undef,undef,undef,undef,undef,undef,undef,undef,undef,undef,undef,undef,undef,undef,undef,undef,undef,undef],defers:=[]}) (by kernel_rfl) ?_
 refine a0u (d0a (v:=.bool false) rfl (by kernel_rfl) (by kernel_rfl) ?_)
 refine b0e (a':={tmps:= #[pY l,pP jA nA,pP jB nB,pP jL nL,undef,v7,v8,pY l,pQ jA nA,.int .i64 (eN x),pQ jB nB,.int .i64 (eN y),zE x y,.bool true,.bool false,.bool false,pY l,gA dA nA,v3,gA dB nB,v4,zS x y,.bool true,.bool false,.bool false,gA dA nA,v7,gA dB nB,v8,pY l,v7,v8,zU x y,.bool true,.bool false,undef,undef,undef,undef,undef,undef,undef,undef,undef,undef,undef,undef,undef,undef,undef,undef,undef],defers:=[]}) (by kernel_rfl) ?_
 refine a0u (d0a (v:=.bool false) rfl (by kernel_rfl) (by kernel_rfl) ?_)
 refine b0e (a':={tmps:= #[pY l,pP jA nA,pP jB nB,pP jL nL,undef,v7,v8,pY l,pQ jA nA,.int .i64 (eN x),pQ jB nB,.int .i64 (eN y),zE x y,.bool true,.bool false,.bool false,pY l,gA dA nA,v3,gA dB nB,v4,zS x y,.bool true,.bool false,.bool false,gA dA nA,v7,gA dB nB,v8,pY l,v7,v8,zU x y,.bool true,.bool false,.bool false,undef,undef,undef,undef,undef,undef,undef,undef,undef,undef,undef,undef,undef,undef,undef,undef],defers:=[]}) (by kernel_rfl) ?_
 refine a0u (d0a (v:=.func (.yield l) #[] #[]) rfl (by kernel_rfl) (by kernel_rfl) ?_)
 refine b0e (a':={tmps:= #[pY l,pP jA nA,pP jB nB,pP jL nL,undef,v7,v8,pY l,pQ jA nA,.int .i64 (eN x),pQ jB nB,.int .i64 (eN y),zE x y,.bool true,.bool false,.bool false,pY l,gA dA nA,v3,gA dB nB,v4,zS x y,.bool true,.bool false,.bool false,gA dA nA,v7,gA dB nB,v8,pY l,v7,v8,zU x y,.bool true,.bool false,.bool false,pY l,undef,undef,undef,undef,undef,undef,undef,undef,undef,undef,undef,undef,undef,undef,undef],defers:=[]}) (by kernel_rfl) ?_
 refine a0u (d0a (v:=.agg (dL.extract nL (nL+4))) rfl (by kernel_rfl) (e0j rfl (by kernel_rfl) (lL W11 c11)) ?_)
 refine b0e (a':={tmps:= #[pY l,pP jA nA,pP jB nB,pP jL nL,undef,v7,v8,pY l,pQ jA nA,.int .i64 (eN x),pQ jB nB,.int .i64 (eN y),zE x y,.bool true,.bool false,.bool false,pY l,gA dA nA,v3,gA dB nB,v4,zS x y,.bool true,.bool false,.bool false,gA dA nA,v7,gA dB nB,v8,pY l,v7,v8,zU x y,.bool true,.bool false,.bool false,pY l,gL dL nL,undef,undef,undef,undef,undef,undef,undef,undef,undef,undef,undef,undef,undef,undef],defers:=[]}) (by kernel_rfl) ?_
 refine a0u (d0a (v:=v7) rfl (by kernel_rfl) (by kernel_rfl) ?_)
 refine b0e (a':={tmps:= #[pY l,pP jA nA,pP jB nB,pP jL nL,undef,v7,v8,pY l,pQ jA nA,.int .i64 (eN x),pQ jB nB,.int .i64 (eN y),zE x y,.bool true,.bool false,.bool false,pY l,gA dA nA,v3,gA dB nB,v4,zS x y,.bool true,.bool false,.bool false,gA dA nA,v7,gA dB nB,v8,pY l,v7,v8,zU x y,.bool true,.bool false,.bool false,pY l,gL dL nL,v7,undef,undef,undef,undef,undef,undef,undef,undef,undef,undef,undef,undef,undef],defers:=[]}) (by kernel_rfl) ?_
 refine a0u (d0a (v:=.agg (dB.extract nB (nB+6))) rfl (by kernel_rfl) (e0j rfl (by kernel_rfl) (lB W11 c11)) ?_)
 refine b0e (a':={tmps:= #[pY l,pP jA nA,pP jB nB,pP jL nL,undef,v7,v8,pY l,pQ jA nA,.int .i64 (eN x),pQ jB nB,.int .i64 (eN y),zE x y,.bool true,.bool false,.bool false,pY l,gA dA nA,v3,gA dB nB,v4,zS x y,.bool true,.bool false,.bool false,gA dA nA,v7,gA dB nB,v8,pY l,v7,v8,zU x y,.bool true,.bool false,.bool false,pY l,gL dL nL,v7,gA dB nB,undef,undef,undef,undef,undef,undef,undef,undef,undef,undef,undef,undef],defers:=[]}) (by kernel_rfl) ?_
 refine a0u (d0a (v:=v8) rfl (by kernel_rfl) (by kernel_rfl) ?_)
 refine b0e (a':={tmps:= #[pY l,pP jA nA,pP jB nB,pP jL nL,undef,v7,v8,pY l,pQ jA nA,.int .i64 (eN x),pQ jB nB,.int .i64 (eN y),zE x y,.bool true,.bool false,.bool false,pY l,gA dA nA,v3,gA dB nB,v4,zS x y,.bool true,.bool false,.bool false,gA dA nA,v7,gA dB nB,v8,pY l,v7,v8,zU x y,.bool true,.bool false,.bool false,pY l,gL dL nL,v7,gA dB nB,v8,undef,undef,undef,undef,undef,undef,undef,undef,undef,undef,undef],defers:=[]}) (by kernel_rfl) ?_
 refine a0u (m0d (args':= #[.agg (dL.extract nL (nL+4)),v7,.agg (dB.extract nB (nB+6)),v8]) rfl (by kernel_rfl) (f0a rfl (by kernel_rfl) Tryz.func141 rfl (by kernel_rfl)) (CallsIn.mono (cWay (i:=7) (j:=8) hy kx lx ly rfl rfl rfl r11 (vL9.mono m10 t10) (q79.mono m10 t10) (vB9.mono m10 t10) (q8.mono m10 t10)) ?_))
 rintro e W12 ⟨rfl,R12,σ12,r12,m12,t12,b12⟩
 refine⟨_,rfl,?_⟩
 refine b0e (a':={tmps:= #[pY l,pP jA nA,pP jB nB,pP jL nL,undef,v7,v8,pY l,pQ jA nA,.int .i64 (eN x),pQ jB nB,.int .i64 (eN y),zE x y,.bool true,.bool false,.bool false,pY l,gA dA nA,v3,gA dB nB,v4,zS x y,.bool true,.bool false,.bool false,gA dA nA,v7,gA dB nB,v8,pY l,v7,v8,zU x y,.bool true,.bool false,.bool false,pY l,gL dL nL,v7,gA dB nB,v8,.bool (wayF b (sds (ndsE x)) (trk y) (sds (ndsE y))),undef,undef,undef,undef,undef,undef,undef,undef,undef,undef],defers:=[]}) (by kernel_rfl) ?_
 have c12:=c11.trans (CS.below b12)
 have j12:=hJ _ W11 W12 none j11 (Below.grownBy0 b12) (fun _ h=>by cases h)
 refine a0u (t0a rfl (by kernel_rfl) (m0v rfl (by kernel_rfl) (by kernel_rfl)) (hY [decide (eN x=eN y),shF (trk x) (trk y),unF (sds (ndsE x)) (sds (ndsE y))] (wayF b (sds (ndsE x)) (trk y) (sds (ndsE y))) W12 j12 (by simp)) ?_)
 rintro e W13 (⟨rfl,j13,k13⟩|⟨rfl,x13⟩)
 rotate_left
 ·refine⟨_,rfl,?_⟩
  refine b0e (a':={tmps:= #[pY l,pP jA nA,pP jB nB,pP jL nL,undef,v7,v8,pY l,pQ jA nA,.int .i64 (eN x),pQ jB nB,.int .i64 (eN y),zE x y,.bool true,.bool false,.bool false,pY l,gA dA nA,v3,gA dB nB,v4,zS x y,.bool true,.bool false,.bool false,gA dA nA,v7,gA dB nB,v8,pY l,v7,v8,zU x y,.bool true,.bool false,.bool false,pY l,gL dL nL,v7,gA dB nB,v8,.bool (wayF b (sds (ndsE x)) (trk y) (sds (ndsE y))),.bool false,undef,undef,undef,undef,undef,undef,undef,undef,undef],defers:=[]}) (by kernel_rfl) ?_
  refine a0u (d0a (v:=.bool true) rfl (by kernel_rfl) (by kernel_rfl) ?_)
  refine b0e (a':={tmps:= #[pY l,pP jA nA,pP jB nB,pP jL nL,undef,v7,v8,pY l,pQ jA nA,.int .i64 (eN x),pQ jB nB,.int .i64 (eN y),zE x y,.bool true,.bool false,.bool false,pY l,gA dA nA,v3,gA dB nB,v4,zS x y,.bool true,.bool false,.bool false,gA dA nA,v7,gA dB nB,v8,pY l,v7,v8,zU x y,.bool true,.bool false,.bool false,pY l,gL dL nL,v7,gA dB nB,v8,.bool (wayF b (sds (ndsE x)) (trk y) (sds (ndsE y))),.bool false,.bool true,undef,undef,undef,undef,undef,undef,undef,undef],defers:=[]}) (by kernel_rfl) ?_
  refine a0u (d0a (v:=.bool true) rfl (by kernel_rfl) (by kernel_rfl) ?_)
  refine b0e (a':={tmps:= #[pY l,pP jA nA,pP jB nB,pP jL nL,undef,v7,v8,pY l,pQ jA nA,.int .i64 (eN x),pQ jB nB,.int .i64 (eN y),zE x y,.bool true,.bool false,.bool false,pY l,gA dA nA,v3,gA dB nB,v4,zS x y,.bool true,.bool false,.bool false,gA dA nA,v7,gA dB nB,v8,pY l,v7,v8,zU x y,.bool true,.bool false,.bool false,pY l,gL dL nL,v7,gA dB nB,v8,.bool (wayF b (sds (ndsE x)) (trk y) (sds (ndsE y))),.bool false,.bool true,.bool true,undef,undef,undef,undef,undef,undef,undef],defers:=[]}) (by kernel_rfl) ?_
  refine b1y (a':={tmps:= #[pY l,pP jA nA,pP jB nB,pP jL nL,undef,v7,v8,pY l,pQ jA nA,.int .i64 (eN x),pQ jB nB,.int .i64 (eN y),zE x y,.bool true,.bool false,.bool false,pY l,gA dA nA,v3,gA dB nB,v4,zS x y,.bool true,.bool false,.bool false,gA dA nA,v7,gA dB nB,v8,pY l,v7,v8,zU x y,.bool true,.bool false,.bool false,pY l,gL dL nL,v7,gA dB nB,v8,.bool (wayF b (sds (ndsE x)) (trk y) (sds (ndsE y))),.bool false,.bool true,.bool true,undef,undef,undef,undef,undef,undef,undef],defers:=[]}) (by kernel_rfl) ?_
  show Code.wpIn _ _ _ _ _ _ _
  refine wpIn_cond (t:=true) (by kernel_rfl) ?_
  show Code.wpIn _ _ _ Code.ret _ _ _
  refine wpIn_ret ?_
  simp only[Exit.then]
  refine bodyPost_ret (results_none rfl _ _ _) rfl ⟨⟨_,rfl⟩,.inr ⟨_,?_,x13⟩⟩
  exact⟨_,rfl⟩
 refine⟨_,rfl,?_⟩
 have r13:=k13.rel _ _ _ r12
 have c13:CS W W13:=fun j o h ho=>k13.cell j o (c12 j o h ho) ho
 refine b0e (a':={tmps:= #[pY l,pP jA nA,pP jB nB,pP jL nL,undef,v7,v8,pY l,pQ jA nA,.int .i64 (eN x),pQ jB nB,.int .i64 (eN y),zE x y,.bool true,.bool false,.bool false,pY l,gA dA nA,v3,gA dB nB,v4,zS x y,.bool true,.bool false,.bool false,gA dA nA,v7,gA dB nB,v8,pY l,v7,v8,zU x y,.bool true,.bool false,.bool false,pY l,gL dL nL,v7,gA dB nB,v8,.bool (wayF b (sds (ndsE x)) (trk y) (sds (ndsE y))),.bool true,undef,undef,undef,undef,undef,undef,undef,undef,undef],defers:=[]}) (by kernel_rfl) ?_
 refine a0u (d0a (v:=.bool false) rfl (by kernel_rfl) (by kernel_rfl) ?_)
 refine b0e (a':={tmps:= #[pY l,pP jA nA,pP jB nB,pP jL nL,undef,v7,v8,pY l,pQ jA nA,.int .i64 (eN x),pQ jB nB,.int .i64 (eN y),zE x y,.bool true,.bool false,.bool false,pY l,gA dA nA,v3,gA dB nB,v4,zS x y,.bool true,.bool false,.bool false,gA dA nA,v7,gA dB nB,v8,pY l,v7,v8,zU x y,.bool true,.bool false,.bool false,pY l,gL dL nL,v7,gA dB nB,v8,.bool (wayF b (sds (ndsE x)) (trk y) (sds (ndsE y))),.bool true,.bool false,undef,undef,undef,undef,undef,undef,undef,undef],defers:=[]}) (by kernel_rfl) ?_
 refine a0u (d0a (v:=.bool false) rfl (by kernel_rfl) (by kernel_rfl) ?_)
 refine b0e (a':={tmps:= #[pY l,pP jA nA,pP jB nB,pP jL nL,undef,v7,v8,pY l,pQ jA nA,.int .i64 (eN x),pQ jB nB,.int .i64 (eN y),zE x y,.bool true,.bool false,.bool false,pY l,gA dA nA,v3,gA dB nB,v4,zS x y,.bool true,.bool false,.bool false,gA dA nA,v7,gA dB nB,v8,pY l,v7,v8,zU x y,.bool true,.bool false,.bool false,pY l,gL dL nL,v7,gA dB nB,v8,.bool (wayF b (sds (ndsE x)) (trk y) (sds (ndsE y))),.bool true,.bool false,.bool false,undef,undef,undef,undef,undef,undef,undef],defers:=[]}) (by kernel_rfl) ?_
 refine b1y (a':={tmps:= #[pY l,pP jA nA,pP jB nB,pP jL nL,undef,v7,v8,pY l,pQ jA nA,.int .i64 (eN x),pQ jB nB,.int .i64 (eN y),zE x y,.bool true,.bool false,.bool false,pY l,gA dA nA,v3,gA dB nB,v4,zS x y,.bool true,.bool false,.bool false,gA dA nA,v7,gA dB nB,v8,pY l,v7,v8,zU x y,.bool true,.bool false,.bool false,pY l,gL dL nL,v7,gA dB nB,v8,.bool (wayF b (sds (ndsE x)) (trk y) (sds (ndsE y))),.bool true,.bool false,.bool false,undef,undef,undef,undef,undef,undef,undef],defers:=[]}) (by kernel_rfl) ?_
 show Code.wpIn _ _ _ _ _ _ _
 refine wpIn_cond (t:=false) (by kernel_rfl) ?_
 show Code.wpIn _ _ _ Code.skip _ _ _
 refine wpIn_skip ?_
 show Code.wpIn _ _ _ _ _ _ _
 refine b1p (l:=[0,1,2,3,4,5,6]) (by kernel_rfl) ?_
 refine a0u (d0a (v:=.func (.yield l) #[] #[]) rfl (by kernel_rfl) (by kernel_rfl) ?_)
 refine b0e (a':={tmps:= #[pY l,pP jA nA,pP jB nB,pP jL nL,undef,v7,v8,pY l,pQ jA nA,.int .i64 (eN x),pQ jB nB,.int .i64 (eN y),zE x y,.bool true,.bool false,.bool false,pY l,gA dA nA,v3,gA dB nB,v4,zS x y,.bool true,.bool false,.bool false,gA dA nA,v7,gA dB nB,v8,pY l,v7,v8,zU x y,.bool true,.bool false,.bool false,pY l,gL dL nL,v7,gA dB nB,v8,.bool (wayF b (sds (ndsE x)) (trk y) (sds (ndsE y))),.bool true,.bool false,.bool false,pY l,undef,undef,undef,undef,undef,undef],defers:=[]}) (by kernel_rfl) ?_
 refine a0u (d0a (v:=.agg (dL.extract nL (nL+4))) rfl (by kernel_rfl) (e0j rfl (by kernel_rfl) (lL W13 c13)) ?_)
 refine b0e (a':={tmps:= #[pY l,pP jA nA,pP jB nB,pP jL nL,undef,v7,v8,pY l,pQ jA nA,.int .i64 (eN x),pQ jB nB,.int .i64 (eN y),zE x y,.bool true,.bool false,.bool false,pY l,gA dA nA,v3,gA dB nB,v4,zS x y,.bool true,.bool false,.bool false,gA dA nA,v7,gA dB nB,v8,pY l,v7,v8,zU x y,.bool true,.bool false,.bool false,pY l,gL dL nL,v7,gA dB nB,v8,.bool (wayF b (sds (ndsE x)) (trk y) (sds (ndsE y))),.bool true,.bool false,.bool false,pY l,gL dL nL,undef,undef,undef,undef,undef],defers:=[]}) (by kernel_rfl) ?_
 refine a0u (d0a (v:=v8) rfl (by kernel_rfl) (by kernel_rfl) ?_)
 refine b0e (a':={tmps:= #[pY l,pP jA nA,pP jB nB,pP jL nL,undef,v7,v8,pY l,pQ jA nA,.int .i64 (eN x),pQ jB nB,.int .i64 (eN y),zE x y,.bool true,.bool false,.bool false,pY l,gA dA nA,v3,gA dB nB,v4,zS x y,.bool true,.bool false,.bool false,gA dA nA,v7,gA dB nB,v8,pY l,v7,v8,zU x y,.bool true,.bool false,.bool false,pY l,gL dL nL,v7,gA dB nB,v8,.bool (wayF b (sds (ndsE x)) (trk y) (sds (ndsE y))),.bool true,.bool false,.bool false,pY l,gL dL nL,v8,undef,undef,undef,undef],defers:=[]}) (by kernel_rfl) ?_
 refine a0u (d0a (v:=.agg (dA.extract nA (nA+6))) rfl (by kernel_rfl) (e0j rfl (by kernel_rfl) (lA W13 c13)) ?_)
 refine b0e (a':={tmps:= #[pY l,pP jA nA,pP jB nB,pP jL nL,undef,v7,v8,pY l,pQ jA nA,.int .i64 (eN x),pQ jB nB,.int .i64 (eN y),zE x y,.bool true,.bool false,.bool false,pY l,gA dA nA,v3,gA dB nB,v4,zS x y,.bool true,.bool false,.bool false,gA dA nA,v7,gA dB nB,v8,pY l,v7,v8,zU x y,.bool true,.bool false,.bool false,pY l,gL dL nL,v7,gA dB nB,v8,.bool (wayF b (sds (ndsE x)) (trk y) (sds (ndsE y))),.bool true,.bool false,.bool false,pY l,gL dL nL,v8,gA dA nA,undef,undef,undef],defers:=[]}) (by kernel_rfl) ?_
 refine a0u (d0a (v:=v7) rfl (by kernel_rfl) (by kernel_rfl) ?_)
 refine b0e (a':={tmps:= #[pY l,pP jA nA,pP jB nB,pP jL nL,undef,v7,v8,pY l,pQ jA nA,.int .i64 (eN x),pQ jB nB,.int .i64 (eN y),zE x y,.bool true,.bool false,.bool false,pY l,gA dA nA,v3,gA dB nB,v4,zS x y,.bool true,.bool false,.bool false,gA dA nA,v7,gA dB nB,v8,pY l,v7,v8,zU x y,.bool true,.bool false,.bool false,pY l,gL dL nL,v7,gA dB nB,v8,.bool (wayF b (sds (ndsE x)) (trk y) (sds (ndsE y))),.bool true,.bool false,.bool false,pY l,gL dL nL,v8,gA dA nA,v7,undef,undef],defers:=[]}) (by kernel_rfl) ?_
 refine a0u (m0d (args':= #[.agg (dL.extract nL (nL+4)),v8,.agg (dA.extract nA (nA+6)),v7]) rfl (by kernel_rfl) (f0a rfl (by kernel_rfl) Tryz.func141 rfl (by kernel_rfl)) (CallsIn.mono (cWay (i:=8) (j:=7) hx ky ly lx rfl rfl rfl r13 ((vL9.mono m10 t10).mono m12 t12) ((q8.mono m10 t10).mono m12 t12) ((vA9.mono m10 t10).mono m12 t12) ((q79.mono m10 t10).mono m12 t12)) ?_))
 rintro e W14 ⟨rfl,R14,σ14,r14,m14,t14,b14⟩
 refine⟨_,rfl,?_⟩
 refine b0e (a':={tmps:= #[pY l,pP jA nA,pP jB nB,pP jL nL,undef,v7,v8,pY l,pQ jA nA,.int .i64 (eN x),pQ jB nB,.int .i64 (eN y),zE x y,.bool true,.bool false,.bool false,pY l,gA dA nA,v3,gA dB nB,v4,zS x y,.bool true,.bool false,.bool false,gA dA nA,v7,gA dB nB,v8,pY l,v7,v8,zU x y,.bool true,.bool false,.bool false,pY l,gL dL nL,v7,gA dB nB,v8,.bool (wayF b (sds (ndsE x)) (trk y) (sds (ndsE y))),.bool true,.bool false,.bool false,pY l,gL dL nL,v8,gA dA nA,v7,.bool (wayF b (sds (ndsE y)) (trk x) (sds (ndsE x))),undef],defers:=[]}) (by kernel_rfl) ?_
 have j14:=hJ _ W13 W14 none j13 (Below.grownBy0 b14) (fun _ h=>by cases h)
 refine a0u (t0a rfl (by kernel_rfl) (m0v rfl (by kernel_rfl) (by kernel_rfl)) (hY [decide (eN x=eN y),shF (trk x) (trk y),unF (sds (ndsE x)) (sds (ndsE y)),wayF b (sds (ndsE x)) (trk y) (sds (ndsE y))] (wayF b (sds (ndsE y)) (trk x) (sds (ndsE x))) W14 j14 (by simp)) ?_)
 rintro e W15 (⟨rfl,j15,k15⟩|⟨rfl,x15⟩)
 ·refine⟨_,rfl,?_⟩
  refine b1y (a':={tmps:= #[pY l,pP jA nA,pP jB nB,pP jL nL,undef,v7,v8,pY l,pQ jA nA,.int .i64 (eN x),pQ jB nB,.int .i64 (eN y),zE x y,.bool true,.bool false,.bool false,pY l,gA dA nA,v3,gA dB nB,v4,zS x y,.bool true,.bool false,.bool false,gA dA nA,v7,gA dB nB,v8,pY l,v7,v8,zU x y,.bool true,.bool false,.bool false,pY l,gL dL nL,v7,gA dB nB,v8,.bool (wayF b (sds (ndsE x)) (trk y) (sds (ndsE y))),.bool true,.bool false,.bool false,pY l,gL dL nL,v8,gA dA nA,v7,.bool (wayF b (sds (ndsE y)) (trk x) (sds (ndsE x))),.bool true],defers:=[]}) (by kernel_rfl) ?_
  refine bodyPost_end (results_none rfl _ _ _) rfl ⟨⟨_,rfl⟩,.inl ⟨_,rfl,j15⟩⟩
 ·refine⟨_,rfl,?_⟩
  refine b1y (a':={tmps:= #[pY l,pP jA nA,pP jB nB,pP jL nL,undef,v7,v8,pY l,pQ jA nA,.int .i64 (eN x),pQ jB nB,.int .i64 (eN y),zE x y,.bool true,.bool false,.bool false,pY l,gA dA nA,v3,gA dB nB,v4,zS x y,.bool true,.bool false,.bool false,gA dA nA,v7,gA dB nB,v8,pY l,v7,v8,zU x y,.bool true,.bool false,.bool false,pY l,gL dL nL,v7,gA dB nB,v8,.bool (wayF b (sds (ndsE x)) (trk y) (sds (ndsE y))),.bool true,.bool false,.bool false,pY l,gL dL nL,v8,gA dA nA,v7,.bool (wayF b (sds (ndsE y)) (trk x) (sds (ndsE x))),.bool false],defers:=[]}) (by kernel_rfl) ?_
  refine bodyPost_end (results_none rfl _ _ _) rfl ⟨⟨_,rfl⟩,.inr ⟨_,List.prefix_refl _,x15⟩⟩
end
end Go.Proofs.YtplcpifjiodhcaaGreat.Vx
namespace Go.Proofs.YtplcpifjiodhcaaGreat.Vx
open Go Go.RowKit
set_option linter.unusedVariables false
set_option linter.unusedSimpArgs false
set_option maxRecDepth 100000
set_option maxHeartbeats 4000000
attribute [local go_sem] Oper.semAt_some
def noWalk:Blk→Bool
 |.iter _ _=>false
 |.map _ _ _=>false
 |.fmap _ _ _=>false
 |_=>true
theorem Rel.cellsOnly {r:RM}{σ:Snap}{s:SW}{w:World}(h:Rel r σ s w)(hn: ∀b x,s.blk b=some x→noWalk x=true){w':World}(hs:w.heap.size≤w'.heap.size)(hk:CS w w'):Rel r σ s w':=by
 refine⟨fun j c hj=> ?_,h.dcel,h.darr,h.dmp,fun b j hj=>Nat.lt_of_lt_of_le (h.inb b j hj) hs,?_,?_,h.frz,h.uniq,h.free,h.gen,?_,?_,h.vgen,?_,?_⟩
 ·obtain⟨T,f,e⟩:=h.snap j c hj;exact⟨T,f,hk _ _ e rfl⟩
 ·intro b es j n he hr
  obtain⟨c,T,f,h1,h2⟩:=h.cel b es j n he hr
  exact⟨c,T,f,hk _ _ h1 rfl,h2⟩
 ·intro b t g l x he hr
  have:=h.arr b t g l x he hr
  refine this.mono (Snap.le_refl _) fun j o hj=> ?_
  obtain⟨c,T,f,h1,_⟩:=this.row j o hj
  rw[h1];exact hk _ _ h1 rfl
 ·intro b t p j he hj
  have:=hn b _ he;cases this
 ·intro b g es x he hr
  have:=h.vec b g es x he hr
  refine this.mono (RM.le_refl _) (Snap.le_refl _) fun j o hj=> ?_
  obtain⟨c,T,f,h1,_⟩:=this.row j o hj
  rw[h1];exact hk _ _ h1 rfl
 ·intro b kt vt l j he hj
  have:=hn b _ he;cases this
 ·intro b kt ks es j he hj
  have:=hn b _ he;cases this
theorem h2n (a:LS)(b c:LP)(r:LR)(x y:Rt)(f:Bool): ∀k z,(s5 a b c r x y f []).blk k=some z→noWalk z=true:=by
 intro k z h
 match k,h with
 |0,h=>cases h;rfl
 |1,h=>cases h;rfl
 |2,h=>cases h;rfl
 |3,h=>cases h;rfl
 |4,h=>cases h;rfl
 |k+5,h=>cases h
theorem v2t {W W':World}{row:Option Nat}{B:Nat}(hg:W.grownBy W' row)(hr: ∀r,row=some r→B≤r∧ ∃o:Obj,W.heap[r]? =some o∧o.isCells=false):CS W W':=fun j o e ho=>by
 refine(hg.block j (Array.getElem?_eq_some_iff.1 e).1 fun h=> ?_).trans e
 obtain⟨_,o',e',h'⟩:=hr j h.symm
 rw[e]at e';cases e';rw[ho]at h';cases h'
noncomputable def R0c:Code:=match a0r Tryz.prog 83 with
 |.seq r0 _=>r0
 |_=>.skip
noncomputable def C1c:Code:=match a0r Tryz.prog 83 with
 |.seq _ (.seq c1 _)=>c1
 |_=>.skip
noncomputable def R3c:Code:=match a0r Tryz.prog 83 with
 |.seq _ (.seq _ (.seq (.seq r3 _) _))=>r3
 |_=>.skip
section
variable {a:LS} {b c:LP} {r:LR} {n m:Int}
def t0c (a:LS)(b c:LP)(r:LR)(n m:Int):List SV:=[.agg (laS a b c r),.int .i64 n,.int .i64 m]++List.replicate 22 .undef
def s1c (a:LS)(b c:LP)(r:LR):SW:=⟨[.cells (laS a b c r),.cells [.bool false]],[]⟩
def t1c (a:LS)(b c:LP)(r:LR)(n m:Int):List SV:=((t0c a b c r n m).set 3 (.ptr 0 0)).set 6 (.ptr 1 0)
def t2c (a:LS)(b c:LP)(r:LR)(n m:Int):List SV:=(((t1c a b c r n m).set 8 (.int .i64 n)).set 9 (.int .i64 m)).set 10 (.bool (decide (n=m)))
def rAt (r:LR)(n:Int):Rt:=List.getD r n.toNat (Ty.dflt TRt)
def t3c (a:LS)(b c:LP)(r:LR)(n m:Int):List SV:=
 (((((((((((((t2c a b c r n m).set 11 (.agg (laS a b c r))).set 12 (.ptr 0 3)).set 13 (.imm TRt r)).set 14 (.int .i64 n)).set 15 (.iptr (rtS (rAt r n)) 0)).set 16 (.agg (rtS (rAt r n)))).set 17 (.ptr 0 3)).set 18 (.imm TRt r)).set 19 (.int .i64 m)).set 20 (.iptr (rtS (rAt r m)) 0)).set 21 (.agg (rtS (rAt r m)))).set 22 (.fn (.func 137) [] [.ptr 2 0,.ptr 3 0,.ptr 4 0]))
theorem ev0:(e0i Tryz.prog (clMd false Tryz.prog h0b) ls0 100 R0c (t0c a b c r n m) ⟨[],[]⟩).sel=some (.normal,t1c a b c r n m,s1c a b c r):=by kernel_rfl
theorem ev1 (h:n≠m):(e0i Tryz.prog (clMd false Tryz.prog h0b) ls0 100 C1c (t1c a b c r n m) (s1c a b c r)).sel=some (.normal,t2c a b c r n m,s1c a b c r):=by
 have k:Imp (.node (decide (n=m)) (.bad 0) (.leaf (Exit.normal,t2c a b c r n m,s1c a b c r))) (e0i Tryz.prog (clMd false Tryz.prog h0b) ls0 100 C1c (t1c a b c r n m) (s1c a b c r)):=
  .node (by kernel_rfl) (by kernel_rfl) (fun _=>.none) (fun _=>.leaf (by kernel_rfl))
 exact k _ (a0c (df h) rfl)
theorem ev3 (h1:inR n r.length=true)(h2:inR m r.length=true):(e0i Tryz.prog (clMd false Tryz.prog h0b) ls0 100 R3c (t2c a b c r n m) (s1c a b c r)).sel=some (.normal,t3c a b c r n m,s5 a b c r (rAt r n) (rAt r m) false []):=by
 have k:Imp (.node (inR n r.length) (.node (inR m r.length) (.leaf (Exit.normal,t3c a b c r n m,s5 a b c r (rAt r n) (rAt r m) false [])) (.bad 0)) (.bad 0)) (e0i Tryz.prog (clMd false Tryz.prog h0b) ls0 100 R3c (t2c a b c r n m) (s1c a b c r)):=
  .node (by kernel_rfl) (by kernel_rfl) (fun _=>.node (by kernel_rfl) (by kernel_rfl) (fun _=>.path [1,1,1] (by kernel_rfl) (.leaf (by kernel_rfl))) (fun _=>.none)) (fun _=>.none)
 exact k _ (a0a h1 (a0a h2 rfl))
theorem arr25 {A:Array Value}(h:A.size=25): ∃v0 v1 v2 v3 v4 v5 v6 v7 v8 v9 v10 v11 v12 v13 v14 v15 v16 v17 v18 v19 v20 v21 v22 v23 v24,A= #[v0,v1,v2,v3,v4,v5,v6,v7,v8,v9,v10,v11,v12,v13,v14,v15,v16,v17,v18,v19,v20,v21,v22,v23,v24]:=by
 obtain⟨l⟩:=A
 match l,h with
 |[v0,v1,v2,v3,v4,v5,v6,v7,v8,v9,v10,v11,v12,v13,v14,v15,v16,v17,v18,v19,v20,v21,v22,v23,v24],_=>exact⟨v0,v1,v2,v3,v4,v5,v6,v7,v8,v9,v10,v11,v12,v13,v14,v15,v16,v17,v18,v19,v20,v21,v22,v23,v24,rfl⟩
theorem at_ent {R:RM}{σ:Snap}{t:List SV}{A:Array Value}(h:LRel R σ t A){i:Nat}{v:SV}{u:Value}(h1:t[i]? =some v)(h2:A[i]? =some u):VRel R σ v u:=h.2 i v u h1 h2
theorem y1q {R:RM}{σ:Snap}{k:Nat}{u:Value}(h:VRel R σ (.ptr k 0) u): ∃j q,u=.pointer (some ⟨j,q,none⟩):=by
 cases h with
 |ptr _ _ j q h=>exact⟨_,_,rfl⟩
theorem fn3_of {R:RM}{σ:Snap}{g k1 k2 k3:Nat}{u:Value}(h:VRel R σ (.fn (.func g) [] [.ptr k1 0,.ptr k2 0,.ptr k3 0]) u): ∃j1 q1 j2 q2 j3 q3,u=.func (.func g) #[] #[.pointer (some ⟨j1,q1,none⟩),.pointer (some ⟨j2,q2,none⟩),.pointer (some ⟨j3,q3,none⟩)]∧
  VRel R σ (.ptr k1 0) (.pointer (some ⟨j1,q1,none⟩))∧VRel R σ (.ptr k2 0) (.pointer (some ⟨j2,q2,none⟩))∧VRel R σ (.ptr k3 0) (.pointer (some ⟨j3,q3,none⟩)):=by
 cases h with
 |fn _ _ _ fs cs h1 h2 h3 h4=>
  obtain⟨fs⟩:=fs
  obtain⟨cs⟩:=cs
  match fs,cs,h1,h3 with
  |[],[u1,u2,u3],_,_=>
   have a1:=h4 0 (.ptr k1 0) u1 rfl rfl
   have a2:=h4 1 (.ptr k2 0) u2 rfl rfl
   have a3:=h4 2 (.ptr k3 0) u3 rfl rfl
   obtain⟨j1,q1,rfl⟩:=y1q a1
   obtain⟨j2,q2,rfl⟩:=y1q a2
   obtain⟨j3,q3,rfl⟩:=y1q a3
   exact⟨j1,q1,j2,q2,j3,q3,rfl,a1,a2,a3⟩
theorem p1k {a:LS}{b c:LP}{r:LR}{x y:Rt}{R:RM}{σ:Snap}{w:World}{f:Bool}(hr:Rel R σ (s5 a b c r x y f []) w){j q:Nat}(hp:VRel R σ (.ptr 1 0) (.pointer (some ⟨j,q,none⟩))):w.cell? ⟨j,q,none⟩=some (.bool f)∧w.frozen? ⟨j,q,none⟩=false:=by
 generalize hv:(Value.pointer (some ⟨j,q,none⟩))=v at hp
 cases hp with
 |ptr _ _ j' n' h=>
  cases hv
  obtain⟨d,T,g,h1,h2,h3,h4⟩:=hr.cel 1 [.bool f] _ _ rfl h
  obtain⟨u,u1,u2⟩:=h4.one 0 (.bool f) (by simp[offs]) rfl
  cases u2
  refine⟨(l0e h1 _).trans u1,?_⟩
  rw[r0d h1]
  have:esW [SV.bool f]=1:=rfl
  exact h2.no _ (by rw[this]at h3;omega)
theorem h2h (b:LP)(x y:Rt):(rsn b x y).any id=cfE b x y:=by
 unfold rsn cfE
 simp only[List.any_cons,List.any_nil,id,Bool.or_false]
end
end Go.Proofs.YtplcpifjiodhcaaGreat.Vx
namespace Go.Proofs.YtplcpifjiodhcaaGreat.Vx
open Go Go.RowKit
set_option linter.unusedVariables false
set_option linter.unusedSimpArgs false
set_option maxRecDepth 100000
set_option maxHeartbeats 4000000
attribute [local go_sem] Oper.semAt_some
theorem r2f {a:LS}{b c:LP}{r:LR}{n m:Int}{R0:RM}{σ0:Snap}{w:World}(hr:Rel R0 σ0 ⟨[],[]⟩ w){vl:Value}(hv:VRel R0 σ0 (.agg (laS a b c r)) vl)(hne:n≠m)(h1:inR n r.length=true)(h2:inR m r.length=true)
  (hx:lenE (rAt r n)) (hy:lenE (rAt r m)) (kx:f0c b (sds (ndsE (rAt r n)))) (ky:f0c b (sds (ndsE (rAt r m)))):
  CallsIn Fence.wide 6 Tryz.prog 83 #[vl,.int .i64 n,.int .i64 m] w fun e w'=>e=.returned (.bool (cfE b (rAt r n) (rAt r m)))∧Below w.heap.size w w':=by
 have noat: ∀k j,¬R0.at k j:=fun k j h=>by
  obtain⟨e1,e2,e3⟩:=hr.none_ge (b:=k) (Nat.zero_le _)
  rcases h with⟨q,h⟩|⟨g,z,o,h,_⟩|h
  ·rw[e1]at h;cases h
  ·rw[e2 g]at h;cases h
  ·rw[e3]at h;cases h
 have hcl:ClOk Tryz.prog (clMd false Tryz.prog h0b):=c1t (d1h _) hmix false
 have ht0:LRel R0 σ0 (t0c a b c r n m) (#[vl,.int .i64 n,.int .i64 m]++Array.replicate (Tryz.f83.ntmps-(#[vl,Value.int .i64 n,Value.int .i64 m]:Array Value).size) undef):=
  LRel.append (.cons hv (.cons (.int _ _) (.cons (.int _ _) (.nil _ _)))) (LRel.undefs _ _ 22)
 refine callsIn_of_wp_marks Tryz.func83 rfl trivial ?_ rfl
 refine wpIn_seq ?_
 refine wpIn_wide.2 (m0n hcl hmix 100 R0c _ _ _ (LsOk.none _ 0 _) ev0 (Nat.zero_le _) R0 σ0 w _ _ hr ht0 fun t1 w1 hth1=> ?_)
 obtain⟨R1,σ1,r1,f1,l1,-,-⟩:=hth1
 show Code.wpIn _ _ _ _ _ _ _
 refine wpIn_seq ?_
 refine wpIn_wide.2 (m0n hcl hmix 100 C1c _ _ _ (LsOk.none _ 0 _) (ev1 hne) (Nat.zero_le _) R1 σ1 w1 _ _ r1 l1 fun t2 w2 hth2=> ?_)
 obtain⟨R2,σ2,r2,f2,l2,-,-⟩:=hth2
 show Code.wpIn _ _ _ _ _ _ _
 refine wpIn_seq (wpIn_seq ?_)
 refine wpIn_wide.2 (m0n hcl hmix 100 R3c _ _ _ (LsOk.none _ 0 _) (ev3 h1 h2) (Nat.zero_le _) R2 σ2 w2 _ _ r2 l2 fun t3 w3 hth3=> ?_)
 obtain⟨R3,σ3,r3,f3,l3,-,-⟩:=hth3
 have fr:=(f1.trans f2 (fun _ h _=>h)).trans f3 (fun _ h _=>h)
 have hB:Below w.heap.size w w3:=⟨fr.os,fr.tape,fr.output,fr.size,fun k hk=>fr.keep k hk (fun q _=>noat q k)⟩
 dsimp only at l3
 have l3':=l3
 have hlen:(t3c a b c r n m).length=25:=by unfold t3c t2c t1c t0c;simp only[List.length_set,List.length_append,List.length_replicate,List.length_cons,List.length_nil]
 have hz:t3.size=25:=by rw[←l3'.size,hlen]
 clear l3
 obtain⟨v0,v1,v2,v3,v4,v5,v6,v7,v8,v9,v10,v11,v12,v13,v14,v15,v16,v17,v18,v19,v20,v21,v22,v23,v24,rfl⟩:=arr25 hz
 have p6:=at_ent l3' (i:=6) (v:=.ptr 1 0) (u:=v6) (by kernel_rfl) rfl
 have p22:=at_ent l3' (i:=22) (v:=.fn (.func 137) [] [.ptr 2 0,.ptr 3 0,.ptr 4 0]) (u:=v22) (by kernel_rfl) rfl
 obtain⟨jR,qR,rfl⟩:=y1q p6
 obtain⟨jA,qA,jB,qB,jL,qL,rfl,pA,pB,pL⟩:=fn3_of p22
 have hjR:w.heap.size≤jR:=by
  generalize hv':(Value.pointer (some ⟨jR,qR,none⟩))=u at p6
  cases p6 with
  |ptr _ _ j' n' h=>
   cases hv'
   rcases fr.fresh 1 _ (.inl ⟨_,h⟩)with⟨q,_⟩|⟨_,b',_,q⟩|q
   ·exact absurd q (Nat.not_lt_zero _)
   ·exact(noat _ _ q).elim
   ·exact q
 show Code.wpIn _ _ _ _ _ _ _
 refine wpIn_block ?_
 have nw:=h2n a b c r (rAt r n) (rAt r m) false
 refine wpIn_rangeFunc_ownG (F:=Fence.wide) rfl (by omega) (gf:=137) (lb:= #[.pointer (some ⟨jA,qA,none⟩),.pointer (some ⟨jB,qB,none⟩),.pointer (some ⟨jL,qL,none⟩)]) rfl trivial (enters_of Tryz.func137 (by kernel_rfl) rfl)
  (r2q 5 hx hy kx ky r3 pA pB pL) (fun h k=>h.trans k) (fun W l o o' _ hl ho hw=>KR.putObj W l o o' hl ho hw) (Below.refl _ _) (fun _=>rfl)
  (fun pre W=>((¬true∈pre)∧Rel R3 σ3 (s5 a b c r (rAt r n) (rAt r m) false []) W)∧Below w.heap.size w W)
  (fun c pre W=>((c=.ret∧ ∃ini,pre=ini++[true])∧W.cell? ⟨jR,qR,none⟩=some (.bool true))∧Below w.heap.size w W)
  (OwnFrom.and (fun s A B row hs hg hr'=>⟨hs.1,hs.2.cellsOnly nw hg.size (v2t hg hr')⟩) (ownFrom_below (Nat.le_refl _) hB.size))
  (fun c=>OwnFrom.and (Own.from (fun s A B row hs hg hr'=>⟨hs.1,cell_kept hs.2 hg hr'⟩) _) (ownFrom_below (Nat.le_refl _) hB.size))
  ⟨⟨(by simp),r3⟩,hB⟩
  (fun k=>{tmps:= #[v0,v1,v2,v3,v4,v5,.pointer (some ⟨jR,qR,none⟩),.bool k,v8,v9,v10,v11,v12,v13,v14,v15,v16,v17,v18,v19,v20,v21,.func (.func 137) #[] #[.pointer (some ⟨jA,qA,none⟩),.pointer (some ⟨jB,qB,none⟩),.pointer (some ⟨jL,qL,none⟩)],.bool k,v24],defers:=[]}) ?assign ?body ?done ?stop
 case assign=>
  intro l x W K hK
  gi_wp2
  exact hK
 case body=>
  rintro l pre x W ⟨⟨hp,hR⟩,hBW⟩ _
  obtain⟨g1,g2⟩:=p1k hR p6
  cases x with
  |false=>
   gi_wp2
   exact⟨KeepsFrom.refl _ _,KR.refl _,⟨(by simpa using hp),hR⟩,hBW⟩
  |true=>
   gi_wp2
   exact⟨(KeepsOthers.setCell _ _ _).from _,⟨⟨rfl,pre,rfl⟩,World.cell?_setCell_same' _ _ _ (by rw[g1];rfl)⟩,hBW.setCell (p:=⟨jR,qR,none⟩) hjR _⟩
 case done=>
  rintro D ys W hD he ⟨⟨hp,hR⟩,hBW⟩ hK
  obtain⟨g1,g2⟩:=p1k hR p6
  gi_wp2
  have hK':=(KeepsOthers.setCell W ⟨jR,qR,none⟩ (.bool false)).same D _ hK rfl
  refine⟨by simp,.inl ⟨_,_,rfl,run_takeDeferred hK',?_⟩⟩
  have hc5:=cell_kept (World.cell?_setCell_same' W ⟨jR,qR,none⟩ (.bool false) (by rw[g1];rfl)) (grownBy_putObj' _ D (.deferred none)) (fun r e=>by cases e;exact⟨_,hK',rfl⟩)
  have hz:cfE b (rAt r n) (rAt r m)=false:=by
   rw[←h2h,←he]
   cases h:ys.any id with
   |false=>rfl
   |true=>
    obtain⟨v,hv1,hv2⟩:=List.any_eq_true.1 h
    have hv2:v=true:=hv2
    subst hv2;exact absurd hv1 hp
  refine⟨.bool false,?_,by rw[hz],(hBW.setCell (p:=⟨jR,qR,none⟩) hjR _).trans (belowK_b (w:=w) (Nat.le_refl _) _ D _ _ (by have:=hB.size;omega) hK' rfl rfl)⟩
  simp[results,Tryz.f83,go_sem,hc5]
 case stop=>
  rintro D cd pre W hD hpre ⟨⟨⟨rfl,ini,rfl⟩,hcr⟩,hBW⟩ hK
  gi_wp2
  refine⟨by simp,.inl ⟨_,_,rfl,run_takeDeferred hK,?_⟩⟩
  have hc5:=cell_kept hcr (grownBy_putObj' _ D (.deferred none)) (fun r e=>by cases e;exact⟨_,hK,rfl⟩)
  have hz:cfE b (rAt r n) (rAt r m)=true:=by
   rw[←h2h,List.any_eq_true]
   exact⟨true,hpre.subset (by simp),rfl⟩
  refine⟨.bool true,?_,by rw[hz],hBW.trans (belowK_b (w:=w) (Nat.le_refl _) W D _ _ (by have:=hB.size;omega) hK rfl rfl)⟩
  simp[results,Tryz.f83,go_sem,hc5]
end Go.Proofs.YtplcpifjiodhcaaGreat.Vx
noncomputable section
namespace Go.Proofs.YtplcpifjiodhcaaGreat.Vx
open Go Go.RowKit
set_option linter.unusedVariables false
set_option linter.unusedSimpArgs false
set_option maxRecDepth 100000
set_option maxHeartbeats 0
def rtG (b:LP)(e:Rt):Bool:=decide ((eP e).length≤200)&&(decide ((eQ e).length≤200)&&(decide ((eO e).length≤200)&&(decide ((eF e).length≤200)&&List.all (ndsE e) fun d=>inR (f1 d) b.length)))
def okC (b:LP)(r:LR)(n m:Int):Bool:=inR n r.length&&(inR m r.length&&(rtG b (rAt r n)&&rtG b (rAt r m)))
def clF (b:LP)(r:LR)(n m:Int):Bool:=bif decide (n=m)then false else cfE b (rAt r n) (rAt r m)
def opp_45:List Dat→Option (Nat×List Dat)
 |[.l t1 a,.l t2 b,.l t3 c,.l t4 r,.n n,.n m]=>match c0r t1 TS a,c0r t2 TPt b,c0r t3 TPt c,c0r t4 TRt r with
  |some a,some b,some c,some r=>bif okC b r n m then some (0,[.b (clF b r n m)])else none
  |_,_,_,_=>none
 |_=>none
theorem inR_iff {i:Int}{n:Nat}:inR i n=true↔0≤i∧i<(n:Int):=by
 unfold inR
 rw[Bool.and_eq_true,decide_eq_true_eq,decide_eq_true_eq]
theorem sds_mem {l:LN}: ∀d∈sds l,d∈l:=by
 unfold sds
 have: ∀(l acc:LN),∀d∈l.foldl j0c acc,d∈acc∨d∈l:=by
  intro l
  induction l with
  |nil=>intro acc d h;exact .inl h
  |cons e l ih=>
   intro acc d h
   rw[List.foldl_cons]at h
   rcases ih _ d h with h|h
   ·unfold j0c at h
    split at h
    ·exact .inl h
    ·rcases List.mem_append.1 (show d∈acc++[e]from h)with h|h
     ·exact .inl h
     ·exact .inr (List.mem_cons.2 (.inl (List.mem_singleton.1 h)))
   ·exact .inr (List.mem_cons_of_mem _ h)
 intro d h
 rcases this l [] d h with h|h
 ·cases h
 ·exact h
theorem z1v {b:LP}{e:Rt}(h:rtG b e=true):lenE e∧f0c b (sds (ndsE e)):=by
 unfold rtG at h
 simp only[Bool.and_eq_true,decide_eq_true_eq,List.all_eq_true]at h
 obtain⟨h1,h2,h3,h4,h5⟩:=h
 exact⟨⟨h1,h2,h3,h4⟩,fun d hd=>inR_iff.1 (h5 d (sds_mem d hd))⟩
theorem ev45 {a:LS}{b c:LP}{r:LR}{n:Int}:(r0u Tryz.prog (clMd false Tryz.prog h0b) ls0 100 83 [.agg (laS a b c r),.int .i64 n,.int .i64 n] ⟨[],[]⟩).sel=some (.bool false,⟨[.cells (laS a b c r),.cells [.bool false]],[1]⟩):=by
 have k:Imp (.node (decide (n=n)) (.leaf (SV.bool false,(⟨[.cells (laS a b c r),.cells [.bool false]],[1]⟩:SW))) (.bad 0)) (r0u Tryz.prog (clMd false Tryz.prog h0b) ls0 100 83 [.agg (laS a b c r),.int .i64 n,.int .i64 n] ⟨[],[]⟩):=
  .node (by kernel_rfl) (by kernel_rfl) (fun _=>.leaf (by kernel_rfl)) (fun _=>.none)
 exact k _ (a0a (dt rfl) rfl)
theorem q2k {a:LS}{b c:LP}{r:LR}{n:Int}{R0:RM}{σ0:Snap}{w:World}(hr:Rel R0 σ0 ⟨[],[]⟩ w){vl:Value}(hv:VRel R0 σ0 (.agg (laS a b c r)) vl):
  Calls Tryz.prog 83 #[vl,.int .i64 n,.int .i64 n] w fun e w'=>e=.returned (.bool false)∧Below w.heap.size w w':=by
 have noat: ∀k j,¬R0.at k j:=fun k j h=>by
  obtain⟨e1,e2,e3⟩:=hr.none_ge (b:=k) (Nat.zero_le _)
  rcases h with⟨q,h⟩|⟨g,z,o,h,_⟩|h
  ·rw[e1]at h;cases h
  ·rw[e2 g]at h;cases h
  ·rw[e3]at h;cases h
 have hcl:ClOk Tryz.prog (clMd false Tryz.prog h0b):=c1t (d1h _) hmix false
 refine(t0k hcl hmix (LsOk.none _ 0 _) ev45 (Nat.zero_le _) hr (args':= #[vl,.int .i64 n,.int .i64 n]) (.cons hv (.cons (.int _ _) (.cons (.int _ _) (.nil _ _))))).mono ?_
 rintro e w' ⟨v',rfl,R',σ',h1,fr,h2,-,-⟩
 cases h2
 exact⟨rfl,fr.os,fr.tape,fr.output,fr.size,fun k hk=>fr.keep k hk (fun q _=>noat q k)⟩
theorem arg3 {r:RM}{σ:Snap}{k:IntKind}{x y:Int}{p:SV}{A:Array Value}(h:LRel r σ [p,.int k x,.int k y] A): ∃v,A= #[v,.int k x,.int k y]∧VRel r σ p v:=by
 obtain⟨l⟩:=A
 have hs:=h.size
 match l,hs with
 |[v,v1,v2],_=>
  have a0:=h.2 0 p v rfl rfl
  have a1:=h.2 1 (.int k x) v1 rfl rfl
  have a2:=h.2 2 (.int k y) v2 rfl rfl
  cases a1;cases a2
  exact⟨v,rfl,a0⟩
theorem b45:a0v Tryz.prog 83 (a0j (mkF [laV 0,.int .i64 4,.int .i64 5] [] [] [(.bool 0,[])] opp_45)):=by
 refine c2y fun env j d he=> ?_
 match env,he with
 |[.l t1 a0,.l t2 b0,.l t3 c0,.l t4 r0,.n n,.n m],he=>
  have he:(match c0r t1 TS a0,c0r t2 TPt b0,c0r t3 TPt c0,c0r t4 TRt r0 with|some a,some b,some c,some r=>bif okC b r n m then some (0,[Dat.b (clF b r n m)])else none|_,_,_,_=>none)=some (j,d):=he
  split at he
  ·rename_i a b c r ha hb hc hr
   obtain⟨qa,rfl⟩:=a0w ha
   subst qa
   obtain⟨qb,rfl⟩:=a0w hb
   subst qb
   obtain⟨qc,rfl⟩:=a0w hc
   subst qc
   obtain⟨qr,rfl⟩:=a0w hr
   subst qr
   cases hk:okC b0 r0 n m with
   |false=>rw[hk]at he;cases he
   |true=>
    rw[hk]at he
    cases he
    refine⟨rfl,_,rfl,fun R σ w args' hrel hl=> ?_⟩
    have e1:gl TS [Dat.l TS a0,.l TPt b0,.l TPt c0,.l TRt r0,.n n,.n m] 0=a0:=by simp[gl,d0b]
    have e2:gl TPt [Dat.l TS a0,.l TPt b0,.l TPt c0,.l TRt r0,.n n,.n m] 1=b0:=by simp[gl,d0b]
    have e3:gl TPt [Dat.l TS a0,.l TPt b0,.l TPt c0,.l TRt r0,.n n,.n m] 2=c0:=by simp[gl,d0b]
    have e4:gl TRt [Dat.l TS a0,.l TPt b0,.l TPt c0,.l TRt r0,.n n,.n m] 3=r0:=by simp[gl,d0b]
    have hl:LRel R σ [.agg [.imm TS (gl TS [Dat.l TS a0,.l TPt b0,.l TPt c0,.l TRt r0,.n n,.n m] 0),.imm TPt (gl TPt [Dat.l TS a0,.l TPt b0,.l TPt c0,.l TRt r0,.n n,.n m] 1),.imm TPt (gl TPt [Dat.l TS a0,.l TPt b0,.l TPt c0,.l TRt r0,.n n,.n m] 2),.imm TRt (gl TRt [Dat.l TS a0,.l TPt b0,.l TPt c0,.l TRt r0,.n n,.n m] 3)],.int .i64 n,.int .i64 m] args':=hl
    rw[e1,e2,e3,e4]at hl
    obtain⟨v,rfl,hv⟩:=arg3 hl
    by_cases hnm:n=m
    ·subst hnm
     have:clF b0 r0 n n=false:=by unfold clF;rw[dt rfl];rfl
     rw[this]
     exact q2k (a:=a0) (b:=b0) (c:=c0) (r:=r0) hrel hv
    ·have:clF b0 r0 n m=cfE b0 (rAt r0 n) (rAt r0 m):=by unfold clF;rw[df hnm];rfl
     rw[this]
     unfold okC at hk
     simp only[Bool.and_eq_true]at hk
     obtain⟨k1,k2,k3,k4⟩:=hk
     exact callsIn_wide.1 (r2f hrel hv hnm k1 k2 (z1v k3).1 (z1v k4).1 (z1v k3).2 (z1v k4).2)
  ·cases he
theorem a0v.less {f:FuncId}{args:List PV}{outs:List (PV×List PB)}{op op':List Dat→Option (Nat×List Dat)}(h: ∀env y,op' env=some y→op env=some y)(k:a0v Tryz.prog f (a0j (mkF args [] [] outs op))):a0v Tryz.prog f (a0j (mkF args [] [] outs op')):=by
 intro args0 s v s1 hrun
 refine k args0 s v s1 ?_
 unfold a0j at hrun⊢
 cases hf:fitS (mkF args [] [] outs op').args (mkF args [] [] outs op').blks args0 s with
 |none=>rw[hf]at hrun;cases hrun
 |some env=>
  rw[hf]at hrun
  have hf':fitS (mkF args [] [] outs op).args (mkF args [] [] outs op).blks args0 s=some env:=hf
  rw[hf']
  obtain⟨x,h1,h2⟩:=Tree.bind_some hrun
  have h3:=h env x (i0g h1)
  have h4:op env=op' env:=h3.trans (i0g h1).symm
  have e:(mkF args [] [] outs op).fn env=(mkF args [] [] outs op').fn env:=by
   show outT _ 0 (op env)=outT _ 0 (op' env)
   rw[h4]
  show(((mkF args [] [] outs op).fn env).bind fun x=>match outs[x.1]? with|some o=>Tree.leaf (instV o.1 x.2,(⟨instBs o.2 x.2,[]⟩:SW))|none=>.bad 321).sel=some (v,s1)
  rw[e]
  exact hrun
def okSB (a:LS)(b c:LP)(r:LR):Bool:=decide (a.length≤9223372036854775807∧b.length≤9223372036854775807∧c.length≤9223372036854775807∧r.length≤9223372036854775807)&&List.all (nms a b c r) fun s=>decide (ByteArray.size s≤9223372036854775807)
theorem okSB_ok {a:LS}{b c:LP}{r:LR}(h:okSB a b c r=true):okS a b c r:=by
 unfold okSB at h
 rw[Bool.and_eq_true,decide_eq_true_eq,List.all_eq_true]at h
 exact⟨h.1,fun s hs=>of_decide_eq_true (h.2 s hs)⟩
def lay4 (f:LS→LP→LP→LR→Option (Nat×List Dat)):List Dat→Option (Nat×List Dat)
 |[.l t1 a,.l t2 b,.l t3 c,.l t4 r]=>match c0r t1 TS a,c0r t2 TPt b,c0r t3 TPt c,c0r t4 TRt r with
  |some a,some b,some c,some r=>bif okSB a b c r then f a b c r else none
  |_,_,_,_=>none
 |_=>none
theorem k1w {f:LS→LP→LP→LR→Option (Nat×List Dat)}{op:List Dat→Option (Nat×List Dat)}(h: ∀a b c r,okS a b c r→op [.l TS a,.l TPt b,.l TPt c,.l TRt r]=f a b c r): ∀env y,lay4 f env=some y→op env=some y:=by
 intro env y he
 match env,he with
 |[.l t1 a0,.l t2 b0,.l t3 c0,.l t4 r0],he=>
  have he:(match c0r t1 TS a0,c0r t2 TPt b0,c0r t3 TPt c0,c0r t4 TRt r0 with|some a,some b,some c,some r=>bif okSB a b c r then f a b c r else none|_,_,_,_=>none)=some y:=he
  split at he
  ·rename_i a b c r ha hb hc hr
   obtain⟨qa,rfl⟩:=a0w ha
   subst qa
   obtain⟨qb,rfl⟩:=a0w hb
   subst qb
   obtain⟨qc,rfl⟩:=a0w hc
   subst qc
   obtain⟨qr,rfl⟩:=a0w hr
   subst qr
   cases hk:okSB a0 b0 c0 r0 with
   |false=>rw[hk]at he;cases he
   |true=>rw[hk]at he;rw[h _ _ _ _ (okSB_ok hk)];exact he
  ·cases he
def opp_may:List Dat→Option (Nat×List Dat):=lay4 fun a b c r=>some (0,[.b (mayL a b c r)])
def opp_chk:List Dat→Option (Nat×List Dat):=lay4 fun a b c r=>some (0,[.n (ckA a b c r).1,.n (ckA a b c r).2])
def B45p:FBox:=mkF [laV 0,.int .i64 4,.int .i64 5] [] [] [(.bool 0,[])] opp_45
def B49p:FBox:=mkF [laV 0] [] [] [(.bool 0,[])] opp_may
def B21p:FBox:=mkF [laV 0] [] [] [(.tup [.int .i64 0,.int .i64 1],[])] opp_chk
def cs_Q0:FuncId→Option a0q:=a0s 83 B45p (a0s 110 B49p (a0s 31 B49p (a0s 82 B21p (a0s 11 B21p h0b))))
theorem a2u:CsOk Tryz.prog cs_Q0:=a0g (a0g (a0g (a0g (a0g v0d (a0v.less (op:=f2v) (k1w fun a b c r h=>o19 a b c r h) B19_ok)) (a0v.less (op:=b2y) (k1w fun a b c r h=>o18 a b c r h) B18_ok)) (a0v.less (op:=b2n) (k1w fun a b c r h=>o2t a b c r (z1d h)) B28_ok)) (a0v.less (op:=g2g) (k1w fun a b c r h=>oMay a b c r (z1d h)) B26_ok)) b45
end Go.Proofs.YtplcpifjiodhcaaGreat.Vx
end
