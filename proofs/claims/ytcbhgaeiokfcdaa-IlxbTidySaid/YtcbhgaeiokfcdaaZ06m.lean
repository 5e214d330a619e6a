import Derived.Test.YtcbhgaeiokfcdaaZ06j
import Derived.RangeFuncNested
import Derived.RangeFuncBound
import Derived.RangeFuncCalls
import Derived.RangeFuncLeaves
import Derived.RangeFuncBox
import Derived.Shelf.RegionOpen
import Derived.OwnWalkIn
import Derived.TacticsInMore
import Derived.Test.YtcbhgaeiokfcdaaVxIm
import Derived.Test.YtcbhgaeiokfcdaaVxLk
import Derived.Test.YtcbhgaeiokfcdaaVxLaw
import Derived.Test.YtcbhgaeiokfcdaaX06n
import Derived.KernelRfl
import Derived.Test.YtcbhgaeiokfcdaaY06y
import Derived.RangeFuncWrites
import Derived.WalkKit
noncomputable section
namespace Go.Proofs.Ytcbhgaeiokfcdaa.Vx
open Go Go.RowKit
set_option linter.unusedVariables false
set_option linter.unusedSimpArgs false
set_option maxRecDepth 100000
set_option maxHeartbeats 0
theorem f3d (t:Ty)(x:List t.den):gl t [.l t x] 0=x:=by simp[gl,c0r]
section
variable {P:Program}
theorem x1l {w w':World}(h:Below w.heap.size w w'): ∀j,j<w.heap.size→w'.heap[j]? =w.heap[j]? :=fun j hj=>h.block j hj
theorem m1v {r:RM}{σ:Snap}{w w':World}(h:Below w.heap.size w w')(n:Nat)(log:List Nat):Frame n log r r σ σ w w':=
 ⟨h.os,h.tape,h.output,h.size,fun _ _ h=>.inl h,fun j hj _=>h.block j hj,fun _ _ _=>⟨rfl,fun _=>rfl,rfl⟩,.refl⟩
theorem c3o {f:FuncId}{args:List PV}{k:IntKind}{op:List Dat→Option (Nat×List Dat)}
  (h: ∀env j d,op env=some (j,d)→j=0∧ ∃y:Int,d=[.n y]∧ ∀(r:RM) (σ:Snap) (w:World) (args':Array Value),Rel r σ ⟨[],[]⟩ w→LRel r σ (instL args env) args'→Calls P f args' w fun e w'=>e=.returned (.int k y)∧Below w.heap.size w w'):
  a0x P f (a0i (mkF args [] [] [(.int k 0,[])] op)):=by
 intro args0 s v s1 hrun hlog r σ w args' hr ha
 unfold a0i at hrun
 split at hrun
 ·rename_i env henv
  obtain⟨⟨j,e0⟩,h1,h2⟩:=Tree.bind_some hrun
  have h1':=d0t h1
  obtain⟨f1,f2,f3⟩:=l0y henv hr ha []
  obtain⟨rfl,y,rfl,hc⟩:=h env j e0 h1'
  have hlen0:s.len=0:=f3.symm
  have h2':SV.int k y=v∧(⟨[],[]⟩:SW)=s1:=by
   have:(match((mkF args [] [] [(.int k 0,[])] op).outs)[0]? with|some o=>Tree.leaf (instV o.1 [Dat.n y],(⟨instBs o.2 [Dat.n y],(mkF args [] [] [(.int k 0,[])] op).log⟩:SW))|none=>.bad 321).sel=some (v,s1):=h2
   simp only[mkF,List.getElem?_cons_zero,Tree.sel,Option.some.injEq,Prod.mk.injEq]at this
   exact this
  obtain⟨rfl,rfl⟩:=h2'
  have f1':Rel r σ ⟨[],[]⟩ w:=f1
  refine(hc r σ w args' f1' f2).mono ?_
  rintro e w' ⟨rfl,hB⟩
  refine⟨_,rfl,r,σ,f1'.later hB.size (x1l hB),?_,.int _ _,fun x hx h=>by omega,by show s.len≤0;omega⟩
  rw[hlen0]
  exact(m1v hB 0 []).toK (RM.le_refl _) (Snap.le_refl _) (Nat.le_refl _)
 ·simp[Tree.sel]at hrun
theorem Rel.newArrAt {r:RM}{σ:Snap}{s:SW}{w:World}(h:Rel r σ s w){t:Ty}{l:List t.den}{c:Array Value}{T:TypeId}{f:Nat×Nat}{cap g:Nat}(hf:d0g c f)(hcap:l.length≤cap)(hc:cap*t.width≤c.size)
  (hr: ∀i (hi:i<l.length),RD σ t (fun k=>c[k]?) (i*t.width) l[i]) {w':World} (hB:Below w.heap.size w w') (hg:w.heap.size≤g) (hw:w'.heap[g]? =some (.cells c T f)):
  Rel (r.setArr s.len 0 ⟨some (g,0),l.length,cap,t.width⟩) σ (s.push (.arr t 0 l)) w'∧r.le (r.setArr s.len 0 ⟨some (g,0),l.length,cap,t.width⟩)∧
  Frame s.len s.log r (r.setArr s.len 0 ⟨some (g,0),l.length,cap,t.width⟩) σ σ w w':=by
 have hle:r.le (r.setArr s.len 0 ⟨some (g,0),l.length,cap,t.width⟩):=e0j (h.arr_len 0) _
 have hgw:g<w'.heap.size:=(Array.getElem?_eq_some_iff.1 hw).1
 have hat: ∀b j,(r.setArr s.len 0 ⟨some (g,0),l.length,cap,t.width⟩).at b j→r.at b j∨j=g:=fun b j k=>by
  rcases c0p k with q|⟨_,o,q⟩
  ·exact .inl q
  ·cases q;exact .inr rfl
 refine⟨h.change (b:=s.len) (x:=.arr t 0 l) ?_ (SW.blk_push _ _) (fun b' e=>SW.blk_push_ne _ _ e) (by rw[SW.len_push];omega),hle,?_⟩
 ·refine⟨hle,Snap.le_refl _,fun _ _ _ k=>k,fun b' g' p e k=> ?_,fun _ _ _ k=>k,hB.size,fun j hj _=>hB.block j hj,fun j hj=> ?_,?_,fun j hj=>(hat _ _ hj).imp id (by rintro rfl;exact hg),fun j c' hj=>.inl hj,?_,?_,?_,?_⟩
  ·simpa [RM.setArr,e]using k
  ·rcases hat _ _ hj with q|rfl
   ·exact Nat.lt_of_lt_of_le (h.inb _ _ q) hB.size
   ·exact hgw
  ·rintro j ⟨x,o,hx,hj⟩
   simp only[RM.setArr,and_self,if_true]at hx
   cases hx;cases hj;exact .inr hg
  ·intro es' j n e;cases e
  ·intro t' g' l' p e hp
   cases e
   simp only[RM.setArr,and_self,if_true]at hp
   cases hp
   refine⟨rfl,rfl,hcap,(fun e=>by cases e),fun j o e=> ?_⟩
   cases e
   exact⟨c,T,f,hw,hf,by simpa using hc,fun i hi=>by simpa using hr i hi⟩
  ·intro t g l p e;cases e
  ·intro t' g' l' g'' e hg
   cases e
   simp only[RM.setArr]
   rw[if_neg (by omega)]
   exact h.arr_len _
 ·refine⟨hB.os,hB.tape,hB.output,hB.size,fun b j k=> ?_,fun j hj _=>hB.block j hj,fun b hb _=>c0a (by omega),.refl⟩
  rcases hat b j k with q|rfl
  ·exact .inl q
  ·exact .inr hg
theorem w2s {f:FuncId}{args:List PV}{k:IntKind}{e:TypeId}{op:List Dat→Option (Nat×List Dat)}
  (h: ∀env j d,op env=some (j,d)→j=0∧ ∃l:List Int,d=[.l (.int k) l]∧ ∀(r:RM) (σ:Snap) (w:World) (args':Array Value),Rel r σ ⟨[],[]⟩ w→LRel r σ (instL args env) args'→
   Calls P f args' w fun e' w'=> ∃v,e'=.returned v∧w'.ownsRow w.heap.size e 1 v l.length (l.map (Value.int k))∧Below w.heap.size w w'):
  a0x P f (a0i (mkF args [] [] [(.own 0,[.arr (.int k) 0])] op)):=by
 intro args0 s v s1 hrun hlog r σ w args' hr ha
 unfold a0i at hrun
 split at hrun
 ·rename_i env henv
  obtain⟨⟨j,e0⟩,h1,h2⟩:=Tree.bind_some hrun
  have h1':=d0t h1
  obtain⟨f1,f2,f3⟩:=l0y henv hr ha []
  obtain⟨rfl,l,rfl,hc⟩:=h env j e0 h1'
  have hlen0:s.len=0:=f3.symm
  have h2':instV (.own 0) [.l (.int k) l]=v∧(⟨instBs [.arr (.int k) 0] [.l (.int k) l],[]⟩:SW)=s1:=by
   have:(match((mkF args [] [] [(.own 0,[.arr (.int k) 0])] op).outs)[0]? with|some o=>Tree.leaf (instV o.1 [Dat.l (.int k) l],(⟨instBs o.2 [Dat.l (.int k) l],(mkF args [] [] [(.own 0,[.arr (.int k) 0])] op).log⟩:SW))|none=>.bad 321).sel=some (v,s1):=h2
   simp only[mkF,List.getElem?_cons_zero,Tree.sel,Option.some.injEq,Prod.mk.injEq]at this
   exact this
  obtain⟨rfl,rfl⟩:=h2'
  have hgl:gl (.int k) [.l (.int k) l] 0=l:=f3d (.int k) l
  have hinst:(⟨instBs [.arr (.int k) 0] [.l (.int k) l],[]⟩:SW)=⟨[.arr (.int k) 0 l],[]⟩:=by show(⟨[Blk.arr (.int k) 0 (gl (.int k) [.l (.int k) l] 0)],[]⟩:SW)=_;rw[hgl]
  rw[hinst]
  have f1':Rel r σ ⟨[],[]⟩ w:=f1
  refine(hc r σ w args' f1' f2).mono ?_
  rintro e' w' ⟨v,rfl,⟨hlen,hv⟩,hB⟩
  refine⟨v,rfl,?_⟩
  rw[hlen0]
  show q1a 0 r σ s w (.own 0 0) _ v w'
  have hpush:(⟨[.arr (.int k) 0 l],[]⟩:SW)=(⟨[],[]⟩:SW).push (.arr (.int k) 0 l):=rfl
  rcases hv with⟨rfl,hn⟩|⟨g,cap,cur,rfl,hg,hgb,hcap,hmax,hsz,htk⟩
  ·have:l=[]:=List.length_eq_zero_iff.1 hn
   subst this
   obtain⟨m1,m2,m3⟩:=(f1'.later hB.size (x1l hB)).newNil (.int k)
   refine⟨_,σ,m1,?_,.own 0 0 (i0r (Ty.width (.int k))) (by simp[RM.setArr,SW.len]),fun x hx h=>by omega,Nat.zero_le _⟩
   exact((m1v hB 0 []).toK (RM.le_refl _) (Snap.le_refl _) (Nat.le_refl _)).trans (m3.toK m2 (Snap.le_refl _) (Nat.zero_le _)) fun _ h _=>h
  ·have hrow: ∀i (hi:i<l.length),RD σ (.int k) (fun q=>cur[q]?) (i*(Ty.width (.int k))) (l[i]:Int):=by
    intro i hi
    show cur[i*1]? =some (.int k l[i])
    have:(cur.toList.take (l.length*1))[i]? =some (.int k l[i]):=by rw[htk];simp[hi]
    rw[List.getElem?_take,if_pos (by omega)]at this
    simpa using this
   obtain⟨m1,m2,m3⟩:=Rel.newArrAt f1' (t:=.int k) (l:=l) (T:=e) (f:=(0,0)) (cap:=cap) (g:=g) (.inl rfl) hcap (by show cap*1≤_;omega) hrow hB hg hgb
   refine⟨_,σ,m1,m3.toK m2 (Snap.le_refl _) (Nat.zero_le _),?_,fun x hx h=>by omega,Nat.zero_le _⟩
   exact .own 0 0 ⟨some (g,0),l.length,cap,1⟩ (by simp[RM.setArr,SW.len,Ty.width];rfl)
 ·simp[Tree.sel]at hrun
end
theorem Rel.cells {r:RM}{σ:Snap}{s:SW}{w:World}(h:Rel r σ s w){w':World}(hs:w.heap.size≤w'.heap.size)(hk: ∀(j:Nat) (o:Obj),w.heap[j]? =some o→(o.isCells=true∨o.isWalk=true)→w'.heap[j]? =some o):Rel r σ s w':=by
 refine⟨fun j c hj=> ?_,h.dcel,h.darr,h.dmp,fun b j hj=>Nat.lt_of_lt_of_le (h.inb b j hj) hs,?_,?_,h.frz,h.uniq,h.free,h.gen,?_,?_,h.vgen,?_,?_⟩
 ·obtain⟨T,f,e⟩:=h.snap j c hj;exact⟨T,f,hk _ _ e (.inl rfl)⟩
 ·intro b es j n he hr
  obtain⟨c,T,f,h1,h2⟩:=h.cel b es j n he hr
  exact⟨c,T,f,hk _ _ h1 (.inl rfl),h2⟩
 ·intro b t g l x he hr
  have:=h.arr b t g l x he hr
  refine this.mono (Snap.le_refl _) fun j o hj=> ?_
  obtain⟨c,T,f,h1,_⟩:=this.row j o hj
  rw[h1];exact hk _ _ h1 (.inl rfl)
 ·intro b t p j he hj
  obtain⟨h1,h2⟩:=h.itr b t p j he hj
  exact⟨h1,hk _ _ h2 (.inr rfl)⟩
 ·intro b g es x he hr
  have:=h.vec b g es x he hr
  refine this.mono (RM.le_refl _) (Snap.le_refl _) fun j o hj=> ?_
  obtain⟨c,T,f,h1,_⟩:=this.row j o hj
  rw[h1];exact hk _ _ h1 (.inl rfl)
 ·intro b kt vt l j he hj
  obtain⟨es,h1,h2⟩:=h.map b kt vt l j he hj
  exact⟨es,hk _ _ h1 (.inr rfl),h2⟩
 ·intro b kt ks es j he hj
  obtain⟨ms,h1,h2⟩:=h.fmap b kt ks es j he hj
  exact⟨ms,hk _ _ h1 (.inr rfl),h2⟩
structure KR (W W':World):Prop where
 rel: ∀r σ s,Rel r σ s W→Rel r σ s W'
 cell: ∀(j:Nat) (o:Obj),W.heap[j]? =some o→o.isCells=true→W'.heap[j]? =some o
theorem KR.refl (W:World):KR W W:=⟨fun _ _ _ h=>h,fun _ _ h _=>h⟩
theorem KR.trans {A B C:World}(h:KR A B)(k:KR B C):KR A C:=⟨fun r σ s x=>k.rel r σ s (h.rel r σ s x),fun j o x hx=>k.cell j o (h.cell j o x hx) hx⟩
theorem KR.of {W W':World}(hs:W.heap.size≤W'.heap.size)(hk: ∀(j:Nat) (o:Obj),W.heap[j]? =some o→(o.isCells=true∨o.isWalk=true)→W'.heap[j]? =some o):KR W W':=
 ⟨fun r σ s h=>h.cells hs hk,fun j o e ho=>hk j o e (.inl ho)⟩
theorem KR.below {W W':World}(h:Below W.heap.size W W'):KR W W':=.of h.size fun j o e _=>(h.block j (Array.getElem?_eq_some_iff.1 e).1).trans e
theorem KR.putObj (W:World)(l:Nat)(o o':Obj)(hl:W.heap[l]? =some o)(ho:o.isCells=false)(hw:o.isWalk=false):KR W (W.putObj l o'):=by
 refine .of (by simp) fun j x e hx=> ?_
 have hne:j≠l:=by
  rintro rfl
  rw[hl]at e;cases e
  rcases hx with q|q
  ·rw[ho]at q;cases q
  ·rw[hw]at q;cases q
 exact(World.putObj_heap_other hne).trans e
theorem m2c {P:Program}{f:FuncId}{args:List PV}{op:List Dat→Option (Nat×List Dat)}
  (h: ∀env j d,op env=some (j,d)→j=0∧ ∃y:Bool,d=[.b y]∧ ∀(r:RM) (σ:Snap) (w:World) (args':Array Value),Rel r σ ⟨[],[]⟩ w→LRel r σ (instL args env) args'→Calls P f args' w fun e w'=>e=.returned (.bool y)∧Below w.heap.size w w'):
  a0x P f (a0i (mkF args [] [] [(.bool 0,[])] op)):=by
 intro args0 s v s1 hrun hlog r σ w args' hr ha
 unfold a0i at hrun
 split at hrun
 ·rename_i env henv
  obtain⟨⟨j,e0⟩,h1,h2⟩:=Tree.bind_some hrun
  have h1':=d0t h1
  obtain⟨f1,f2,f3⟩:=l0y henv hr ha []
  obtain⟨rfl,y,rfl,hc⟩:=h env j e0 h1'
  have hlen0:s.len=0:=f3.symm
  have h2':SV.bool y=v∧(⟨[],[]⟩:SW)=s1:=by
   have:(match((mkF args [] [] [(.bool 0,[])] op).outs)[0]? with|some o=>Tree.leaf (instV o.1 [Dat.b y],(⟨instBs o.2 [Dat.b y],(mkF args [] [] [(.bool 0,[])] op).log⟩:SW))|none=>.bad 321).sel=some (v,s1):=h2
   simp only[mkF,List.getElem?_cons_zero,Tree.sel,Option.some.injEq,Prod.mk.injEq]at this
   exact this
  obtain⟨rfl,rfl⟩:=h2'
  have f1':Rel r σ ⟨[],[]⟩ w:=f1
  refine(hc r σ w args' f1' f2).mono ?_
  rintro e w' ⟨rfl,hB⟩
  refine⟨_,rfl,r,σ,f1'.later hB.size (x1l hB),?_,.bool _,fun x hx h=>by omega,by show s.len≤0;omega⟩
  rw[hlen0]
  exact(m1v hB 0 []).toK (RM.le_refl _) (Snap.le_refl _) (Nat.le_refl _)
 ·simp[Tree.sel]at hrun
theorem y2o {F:Fence}(hF:F=Fence.wide){n:Nat}{P:Program}{f:FuncId}{g:a0f}(h:b1y P f g){args:List SV}{s s1:SW}{v:SV}(hr:(g args s).sel=some (v,s1))(hl:s1.log=[])
  {r:RM} {σ:Snap} {w:World} {args':Array Value} (hrel:Rel r σ s w) (ha:LRel r σ args args'):
  CallsIn F n P f args' w fun e w'=> ∃v' r' σ',e=.returned v'∧VRel r' σ' v v'∧Rel r' σ' s1 w'∧r.le r'∧σ.le σ'∧Below w.heap.size w w':=by
 subst hF
 rw[callsIn_wide]
 refine(h args s v s1 hr r σ w args' hrel ha).mono ?_
 rintro e w' ⟨v',rfl,r',σ',h1,h2,h3,h4,h5,h6⟩
 refine⟨v',r',σ',rfl,h5,h3,h1,h2,?_⟩
 rw[hl]at h4
 exact⟨h4.os,h4.tape,h4.output,h4.size,fun k hk=>h4.keep k hk (fun b hb=>by cases hb)⟩
theorem Below.grownBy0 {W W':World}(h:Below W.heap.size W W'):W.grownBy W' none:=⟨h.os,h.tape,h.output,h.size,fun k hk _=>h.block k hk⟩
section
variable {n:Nat} {P:Program} {ops:Array Oper} {Q:Exit→Act→World→Prop}
theorem d0f {i:Nat}{o:Oper}{K:Act→World→Prop}{a:Act}{w:World}{v:Value}(ho:ops[i]? =some o)(hw:Region.wanted o (yielded ops a.tmps)=true)
  (hx:(execOp a.eval o).run P w=.ok (.value v) w) (hK:K (a.put o.dst v) w):wpOpIn Fence.wide n P ops Q i K a w:=by
 unfold wpOpIn
 rw[ho]
 simp only[hw,if_true]
 refine⟨fun _ _=>trivial,?_⟩
 rw[show Fence.wide.round=none from rfl,Oper.semAt_none,hx]
 exact hK
theorem f0v {i:Nat}{o:Oper}{K:Act→World→Prop}{a:Act}{w:World}(ho:ops[i]? =some o)(hw:Region.wanted o (yielded ops a.tmps)=false)
  (hK:K (a.put o.dst undef) w):wpOpIn Fence.wide n P ops Q i K a w:=by
 unfold wpOpIn
 rw[ho]
 simp only[hw,Bool.false_eq_true,if_false]
 exact⟨fun _ _=>trivial,hK⟩
theorem m0x {i:Nat}{o:Oper}{K:Act→World→Prop}{a:Act}{w:World}{f:FuncId}{args':Array Value}(ho:ops[i]? =some o)(hw:Region.wanted o (yielded ops a.tmps)=true)
  (hx:(execOp a.eval o).run P w=.ok (.enter f args') w) (hc:CallsIn Fence.wide (n-1) P f args' w fun e w'=> ∃v,e=.returned v∧K (a.put o.dst v) w'):wpOpIn Fence.wide n P ops Q i K a w:=by
 unfold wpOpIn
 rw[ho]
 simp only[hw,if_true]
 refine⟨fun _ _=>trivial,?_⟩
 rw[show Fence.wide.round=none from rfl,Oper.semAt_none,hx]
 refine⟨(fun h=>by cases h),hc.mono ?_⟩
 rintro e w' ⟨v,rfl,hK⟩
 exact hK
theorem r0p {i:Nat}{o:Oper}{K:Act→World→Prop}{a:Act}{w:World}{l:Nat}{args':Array Value}{R:Ending→World→Prop}(ho:ops[i]? =some o)(hw:Region.wanted o (yielded ops a.tmps)=true)
  (hx:(execOp a.eval o).run P w=(Instr.yield l args').run P w) (hy:YieldAt Fence.wide (n-1) P l args' w R) (hK: ∀e w',R e w'→ ∃v,e=.returned v∧K (a.put o.dst v) w'):wpOpIn Fence.wide n P ops Q i K a w:=by
 obtain⟨fn,tmps,assign,body,h1,h2⟩:=hy
 unfold wpOpIn
 rw[ho]
 simp only[hw,if_true]
 refine⟨fun _ _=>trivial,?_⟩
 rw[show Fence.wide.round=none from rfl,Oper.semAt_none,hx,h1]
 refine⟨(fun h=>by cases h),h2.mono ?_⟩
 intro e w' hR
 obtain⟨v,rfl,hk⟩:=hK e w' hR
 exact hk
def LD (P:Program)(ops:Array Oper)(o:Oper)(v:Value)(S:World→Prop)(a:Act):Prop:=Region.wanted o (yielded ops a.tmps)=true∧ ∀W,S W→(execOp a.eval o).run P W=.ok (.value v) W
theorem k1m {S:World→Prop}{i:Nat}{o:Oper}{K:Act→World→Prop}{a:Act}{w:World}{v:Value}(ho:ops[i]? =some o)(h:LD P ops o v S a)(hS:S w)(hK:K (a.put o.dst v) w):wpOpIn Fence.wide n P ops Q i K a w:=
 d0f ho h.1 (h.2 w hS) hK
theorem any_ll {S:World→Prop}{fuel:Nat}{listed:Array Bool}{a:Act}{w:World}{i k:Nat}{oi ok:Oper}{vi vk:Value}(hi:ops[i]? =some oi)(hk:ops[k]? =some ok)
  (r0:Region.ready .any ops listed=[i,k]) (r1:Region.ready .any ops (listed.setIfInBounds i true)=[k]) (r2:Region.ready .any ops (listed.setIfInBounds k true)=[i])
  (Li:LD P ops oi vi S a) (Li':LD P ops oi vi S (a.put ok.dst vk)) (Lk:LD P ops ok vk S a) (Lk':LD P ops ok vk S (a.put oi.dst vi)) (hS:S w)
  (e1:(a.put ok.dst vk).put oi.dst vi=(a.put oi.dst vi).put ok.dst vk) (l1:(listed.setIfInBounds k true).setIfInBounds i true=(listed.setIfInBounds i true).setIfInBounds k true)
  (h:wpAnyIn Fence.wide n P .any ops Q fuel ((listed.setIfInBounds i true).setIfInBounds k true) ((a.put oi.dst vi).put ok.dst vk) w):wpAnyIn Fence.wide n P .any ops Q (fuel+2) listed a w:=by
 refine wpAnyIn_all r0 (by simp) fun q hq=> ?_
 simp only[List.mem_cons,List.not_mem_nil,or_false]at hq
 rcases hq with rfl|rfl
 ·refine k1m hi Li hS (wpAnyIn_all r1 (by simp) fun q hq=> ?_)
  cases List.mem_singleton.1 hq
  exact k1m hk Lk' hS h
 ·refine k1m hk Lk hS (wpAnyIn_all r2 (by simp) fun q hq=> ?_)
  cases List.mem_singleton.1 hq
  refine k1m hi Li' hS ?_
  rw[e1,l1];exact h
theorem x2u {S:World→Prop}{fuel:Nat}{listed:Array Bool}{a:Act}{w:World}{i j k:Nat}{oi oj ok:Oper}{vi vk:Value}{f:FuncId}{args':Array Value}(hi:ops[i]? =some oi)(hj:ops[j]? =some oj)(hk:ops[k]? =some ok)
  (r0:Region.ready .any ops listed=[i,k]) (r1:Region.ready .any ops (listed.setIfInBounds i true)=[j,k]) (r2:Region.ready .any ops (listed.setIfInBounds k true)=[i])
  (r3:Region.ready .any ops ((listed.setIfInBounds i true).setIfInBounds k true)=[j]) (r4:Region.ready .any ops ((listed.setIfInBounds i true).setIfInBounds j true)=[k])
  (Li:LD P ops oi vi S a) (Li':LD P ops oi vi S (a.put ok.dst vk)) (Lk:LD P ops ok vk S a) (Lk':LD P ops ok vk S (a.put oi.dst vi)) (Lk2: ∀v,LD P ops ok vk S ((a.put oi.dst vi).put oj.dst v)) (hS:S w)
  (w1:Region.wanted oj (yielded ops (a.put oi.dst vi).tmps)=true) (w2:Region.wanted oj (yielded ops ((a.put oi.dst vi).put ok.dst vk).tmps)=true)
  (x1:(execOp (a.put oi.dst vi).eval oj).run P w=.ok (.enter f args') w) (x2:(execOp ((a.put oi.dst vi).put ok.dst vk).eval oj).run P w=.ok (.enter f args') w)
  (e1:(a.put ok.dst vk).put oi.dst vi=(a.put oi.dst vi).put ok.dst vk) (e2: ∀v,((a.put oi.dst vi).put ok.dst vk).put oj.dst v=((a.put oi.dst vi).put oj.dst v).put ok.dst vk)
  (l1:(listed.setIfInBounds k true).setIfInBounds i true=(listed.setIfInBounds i true).setIfInBounds k true) (l2:((listed.setIfInBounds i true).setIfInBounds k true).setIfInBounds j true=((listed.setIfInBounds i true).setIfInBounds j true).setIfInBounds k true)
  (hc:CallsIn Fence.wide (n-1) P f args' w fun e w'=> ∃v,e=.returned v∧S w'∧wpAnyIn Fence.wide n P .any ops Q fuel (((listed.setIfInBounds i true).setIfInBounds j true).setIfInBounds k true) (((a.put oi.dst vi).put oj.dst v).put ok.dst vk) w'):
  wpAnyIn Fence.wide n P .any ops Q (fuel+3) listed a w:=by
 have both:wpAnyIn Fence.wide n P .any ops Q (fuel+1) ((listed.setIfInBounds i true).setIfInBounds k true) ((a.put oi.dst vi).put ok.dst vk) w:=by
  refine wpAnyIn_all r3 (by simp) fun q hq=> ?_
  cases List.mem_singleton.1 hq
  refine m0x hj w2 x2 (hc.mono ?_)
  rintro e w' ⟨v,rfl,_,h⟩
  refine⟨v,rfl,?_⟩
  rw[e2,l2];exact h
 refine wpAnyIn_all r0 (by simp) fun q hq=> ?_
 simp only[List.mem_cons,List.not_mem_nil,or_false]at hq
 rcases hq with rfl|rfl
 ·refine k1m hi Li hS (wpAnyIn_all r1 (by simp) fun q hq=> ?_)
  simp only[List.mem_cons,List.not_mem_nil,or_false]at hq
  rcases hq with rfl|rfl
  ·refine m0x hj w1 x1 (hc.mono ?_)
   rintro e w' ⟨v,rfl,hS',h⟩
   refine⟨v,rfl,wpAnyIn_all r4 (by simp) fun q hq=> ?_⟩
   cases List.mem_singleton.1 hq
   exact k1m hk (Lk2 v) hS' h
  ·exact k1m hk Lk' hS both
 ·refine k1m hk Lk hS (wpAnyIn_all r2 (by simp) fun q hq=> ?_)
  cases List.mem_singleton.1 hq
  refine k1m hi Li' hS ?_
  rw[e1,l1];exact both
end
theorem n0l {P:Program}{w:World}{o:Oper}{A:Act}{z:Operand}{xs:Array Operand}{ts:Array TypeId}{l:Nat}{args':Array Value}(ho:o.op=.call ⟨.value z,xs,ts⟩)(hz:A.eval z=.func (.yield l) #[] #[])(ha:xs.map A.eval=args'):
  (execOp A.eval o).run P w=(Instr.yield l args').run P w:=by
 obtain⟨dst,op,ty,pos,aft,gd⟩:=o
 simp only at ho
 subst ho ha
 simp only[execOp,resolve,hz,Deferred.ofValue,invoke,Sem.run_bind,Sem.run_pure,Result.andThen_ok]
 simp
theorem f0j {P:Program}{w:World}{o:Oper}{A:Act}{f:FuncId}{xs:Array Operand}{ts:Array TypeId}{args':Array Value}{fn:Func}{c:Code}(ho:o.op=.call ⟨.value (.func f),xs,ts⟩)(ha:xs.map A.eval=args')
  (hf:P.funcs[f]? =some fn) (hb:fn.body=some c) (hn:(fn.name== "runtime.NumGoroutine")=false):(execOp A.eval o).run P w=.ok (.enter f args') w:=by
 obtain⟨dst,op,ty,pos,aft,gd⟩:=o
 simp only at ho
 subst ho ha
 have hp:(program).run P w=.ok P w:=rfl
 have hz:A.eval (.func f)=.func (.func f) #[] #[]:=rfl
 simp only[execOp,resolve,hz,Deferred.ofValue,invoke,callFunc,Sem.run_bind,Sem.run_pure,Result.andThen_ok,hp,hf]
 simp[hn,hb]
section
variable {n:Nat} {P:Program} {ops:Array Oper} {Q:Exit→Act→World→Prop}
theorem m1c {fuel:Nat}{listed:Array Bool}{a a':Act}{w:World}(hr:Region.ready .any ops listed=[])(he:a=a')(h:Q .normal a' w):wpAnyIn Fence.wide n P .any ops Q fuel listed a w:=wpAnyIn_done hr (he▸h) fuel
theorem b0m {fuel:Nat}{l l':Array Bool}{a a':Act}{w:World}(hl:l=l')(he:a=a')(h:wpAnyIn Fence.wide n P .any ops Q fuel l' a' w):wpAnyIn Fence.wide n P .any ops Q fuel l a w:=by
 subst hl he;exact h
theorem b0k {l:List Nat}{a a':Act}{w:World}(he:a=a')(h:wpOpsIn Fence.wide n P ops Q l a' w):wpOpsIn Fence.wide n P ops Q l a w:=by
 subst he;exact h
theorem a1z {id:Nat}{l:List Nat}{a:Act}{w:World}(hl:List.range ops.size=l)(h:wpOpsIn Fence.wide n P ops Q l a w):(Code.region id ops false).wpIn Fence.wide n P Q a w:=wpIn_region (hl▸h)
theorem c1c {a a':Act}{w:World}(he:a=a')(h:Q .normal a' w):wpOpsIn Fence.wide n P ops Q [] a w:=by
 subst he;exact h
theorem a0w {i:Nat}{l:List Nat}{a:Act}{w:World}(h:wpOpIn Fence.wide n P ops Q i (wpOpsIn Fence.wide n P ops Q l) a w):wpOpsIn Fence.wide n P ops Q (i::l) a w:=by
 rw[wpOpsIn_cons];exact h
end
def apN (l:DD)(e:Ty.den TNd):DD:=l++[e]
def a1b (f:OpT):MBox:=mkM 0 [] [(sh 19 [(0,.imm TI 0),(1,.int .i64 1),(7,.int .i64 2),(8,.int .i64 3)],[])] [] [(.exit 0,sh 19 [],[]),(.ret,sh 19 [(4,.int .i64 0)],[])] f
def f0a (env:LDt):Tree Step:=Lk.stepMC false LK l3l 137 2 ls0 (a1b fun _=>none) env
def p0j:OpT:=Classical.choose (opq (a0b f0a FU))
theorem s0n (env:LDt):p0j env=a0b f0a FU env:=Classical.choose_spec (opq (a0b f0a FU)) env
def n1a:MBox:=a1b p0j
theorem x1u:n1a=a1b (a0b f0a FU):=congrArg a1b (funext s0n)
theorem y1x: ∀t s x,(a0l n1a t s).sel=some x→a0r Try.prog 0 (.loop (cAt Try.prog 137 2)) t s x:=by
 rw[x1u]
 exact b0a (st:=f0a) (m:=FU) i1m hmix false (LsOk.none _ _ _) (by kernel_rfl) (fun env y h=>by rw[←stepMC_lk];exact h)
def i0b:LDt→Tree Step
 |[.l TI l0,.n n1,.n n2,.n n3]=>
  (.node (decide (n3<n2))
   (.node (n1==(List.getD l0 (Int.toNat n3) (0:Int):Int))
   (.leaf (Step.stop 1 [.n n3]))
   (.leaf (Step.go [.k 0,.l TI l0,.n n1,.n n2,.n (IntKind.wrap .i64 (n3+(1:Int)))])))
   (.leaf (Step.stop 0 [])))
 |_=>.bad 0
theorem g0w (l0:DI)(n1:Int)(n2:Int)(n3:Int)(g0:0≤n3)(g1:n2=(l0.length:Int)):Imp (i0b [.l TI l0,.n n1,.n n2,.n n3]) (f0a [.k 0,.l TI l0,.n n1,.n n2,.n n3]):=
(.pa [1]
(.nd (fun h0=>
(.pq (c:=(inR n3 (List.length l0)))
(.nd (fun h1=>
(.pa [1]
.lf)) (fun h1=>
(.pa [1]
.lf))))) (fun h0=>
(.pa [1]
.lf))))
theorem m2i:LsOk Try.prog (z0) (lsM [(2,n1a)] (z0)) (a0u Try.prog 137):=LsOk.many fun j B hB hk c hc hi=>by
 simp only[c0f]at hB
 split at hB
 ·rename_i e;have:=Nat.eq_of_beq_eq_true e;subst this;cases hB
  rw[b0u (f:=137) (i:=2) (a0e (by kernel_rfl)) (a0c hc hi)];exact y1x
 cases hB
def kc146 (f:OpT):FBox:=mkF [.imm TI 0,.int .i64 1] [] [] [(.int .i64 0,[])] f
def j1o (env:LDt):TD:=Lk.boxC false LK l3l 137 (lsM [(2,n1a)] (z0)) (kc146 fun _=>none) env
def b1g:OpT:=Classical.choose (opq (fun env=>(j1o env).sel))
theorem g1j (env:LDt):b1g env=(j1o env).sel:=Classical.choose_spec (opq (fun env=>(j1o env).sel)) env
def Bc146:FBox:=kc146 b1g
theorem k3j:a0x Try.prog 137 (a0i Bc146):=b0c (op:=b1g) i1m hmix false (m2i) (fun env x h=>by rw[g1j]at h;rw[←boxC_lk];exact h)
def t1f:LDt→TD
 |[.l TI l0,.n n1]=>
  (let r1:OD:=(p0j [.k 0,.l TI l0,.n n1,.n (↑(List.length l0):Int),.n (0:Int)]);
   (.node (isK 0 [] r1)
   (.leaf ((0,[.n (-1:Int)])))
   (.node (isK 1 [HK.n] r1)
    (.leaf ((0,[.n (gn (dOf r1) 0)])))
    (.bad 351))))
 |_=>.bad 0
theorem q1d (l0:DI)(n1:Int):Imp (t1f [.l TI l0,.n n1]) (j1o [.l TI l0,.n n1]):=
(.nd (fun h0=>
(.pa [1]
.lf)) (fun h0=>
(.nd (fun h1=>
(.pa [1]
.lf)) (fun h1=>
.none))))
def x1g:FuncId→Option a0f:=a0k 137 Bc146 l3l
theorem g1u:CsOk Try.prog x1g:=a0h i1m k3j
def kc142 (f:OpT):FBox:=mkF [.imm TI 0,.int .i64 1] [] [] [(.bool 0,[])] f
def i1k (env:LDt):TD:=Lk.boxC false LK x1g 134 ls0 (kc142 fun _=>none) env
def w0r:OpT:=Classical.choose (opq (fun env=>(i1k env).sel))
theorem h1p (env:LDt):w0r env=(i1k env).sel:=Classical.choose_spec (opq (fun env=>(i1k env).sel)) env
def Bc142:FBox:=kc142 w0r
theorem i3x:a0x Try.prog 134 (a0i Bc142):=b0c (op:=w0r) g1u hmix false (LsOk.none _ _ _) (fun env x h=>by rw[h1p]at h;rw[←boxC_lk];exact h)
def s1g:LDt→TD
 |[.l TI l0,.n n1]=>
  (let r1:OD:=(b1g [.l TI l0,.n n1]);
   (.node (isK 0 [HK.n] r1)
   (.leaf ((0,[.b (decide (gn (dOf r1) 0≥(0:Int)))])))
   (.bad 351)))
 |_=>.bad 0
theorem s1x (l0:DI)(n1:Int):Imp (s1g [.l TI l0,.n n1]) (i1k [.l TI l0,.n n1]):=
(.nd (fun h0=>
(.pa [1,1]
.lf)) (fun h0=>
.none))
def i1w:FuncId→Option a0f:=a0k 134 Bc142 x1g
theorem v0s:CsOk Try.prog i1w:=a0h g1u i3x
def z0b (f:OpT):MBox:=mkM 0 [] [(sh 17 [(1,.imm TI 0),(7,.imm TI 1),(8,.int .i64 2),(9,.int .i64 3)],[])] [] [(.exit 0,sh 17 [],[]),(.ret,sh 17 [(4,.bool 0)],[])] f
def f0c (env:LDt):Tree Step:=Lk.stepMC false LK i1w 119 2 ls0 (z0b fun _=>none) env
def p0e:OpT:=Classical.choose (opq (a0b f0c FU))
theorem t0s (env:LDt):p0e env=a0b f0c FU env:=Classical.choose_spec (opq (a0b f0c FU)) env
def k1b:MBox:=z0b p0e
theorem u1w:k1b=z0b (a0b f0c FU):=congrArg z0b (funext t0s)
theorem z1x: ∀t s x,(a0l k1b t s).sel=some x→a0r Try.prog 0 (.loop (cAt Try.prog 119 2)) t s x:=by
 rw[u1w]
 exact b0a (st:=f0c) (m:=FU) v0s hmix false (LsOk.none _ _ _) (by kernel_rfl) (fun env y h=>by rw[←stepMC_lk];exact h)
def h0w:LDt→Tree Step
 |[.l TI l0,.l TI l1,.n n2,.n n3]=>
  (.node (decide (n3<n2))
   (let r1:OD:=(w0r [.l TI l0,.n (List.getD l1 (Int.toNat n3) (0:Int))]);
   (.node (isK 0 [HK.b] r1)
    (.node (gb (dOf r1) 0)
    (.leaf (Step.stop 1 [.b true]))
    (.leaf (Step.go [.k 0,.l TI l0,.l TI l1,.n n2,.n (IntKind.wrap .i64 (n3+(1:Int)))])))
    (.bad 351)))
   (.leaf (Step.stop 0 [])))
 |_=>.bad 0
theorem h0f (l0:DI)(l1:DI)(n2:Int)(n3:Int)(g0:0≤n3)(g1:n2=(l1.length:Int)):Imp (h0w [.l TI l0,.l TI l1,.n n2,.n n3]) (f0c [.k 0,.l TI l0,.l TI l1,.n n2,.n n3]):=
(.pa [1]
(.nd (fun h0=>
(.pq (c:=(inR n3 (List.length l1)))
(.nd (fun h1=>
(.pa [1]
(.nd (fun h2=>
(.pa [1]
.lf)) (fun h2=>
(.pa [1]
.lf))))) (fun h1=>
.none)))) (fun h0=>
(.pa [1]
.lf))))
theorem l2l:LsOk Try.prog (z0) (lsM [(2,k1b)] (z0)) (a0u Try.prog 119):=LsOk.many fun j B hB hk c hc hi=>by
 simp only[c0f]at hB
 split at hB
 ·rename_i e;have:=Nat.eq_of_beq_eq_true e;subst this;cases hB
  rw[b0u (f:=119) (i:=2) (a0e (by kernel_rfl)) (a0c hc hi)];exact z1x
 cases hB
def kc122 (f:OpT):FBox:=mkF [.imm TI 0,.imm TI 1] [] [] [(.bool 0,[])] f
def j1l (env:LDt):TD:=Lk.boxC false LK i1w 119 (lsM [(2,k1b)] (z0)) (kc122 fun _=>none) env
def c1x:OpT:=Classical.choose (opq (fun env=>(j1l env).sel))
theorem h1q (env:LDt):c1x env=(j1l env).sel:=Classical.choose_spec (opq (fun env=>(j1l env).sel)) env
def Bc122:FBox:=kc122 c1x
theorem h3m:a0x Try.prog 119 (a0i Bc122):=b0c (op:=c1x) v0s hmix false (l2l) (fun env x h=>by rw[h1q]at h;rw[←boxC_lk];exact h)
def r1t:LDt→TD
 |[.l TI l0,.l TI l1]=>
  (let r1:OD:=(p0e [.k 0,.l TI l1,.l TI l0,.n (↑(List.length l0):Int),.n (0:Int)]);
   (.node (isK 0 [] r1)
   (.leaf ((0,[.b false])))
   (.node (isK 1 [HK.b] r1)
    (.leaf ((0,[.b (gb (dOf r1) 0)])))
    (.bad 351))))
 |_=>.bad 0
theorem t1a (l0:DI)(l1:DI):Imp (r1t [.l TI l0,.l TI l1]) (j1l [.l TI l0,.l TI l1]):=
(.nd (fun h0=>
(.pa [1]
.lf)) (fun h0=>
(.nd (fun h1=>
(.pa [1]
.lf)) (fun h1=>
.none))))
def i1v:FuncId→Option a0f:=a0k 119 Bc122 i1w
theorem w0n:CsOk Try.prog i1v:=a0h v0s h3m
def z0v (f:OpT):MBox:=mkM 0 [] [(sh 21 [(1,.int .i64 0),(8,.imm TNd 1),(9,.int .i64 2),(10,.int .i64 3)],[])] [] [(.exit 0,sh 21 [],[]),(.ret,sh 21 [(4,.bool 0),(5,.bool 1)],[])] f
def f0i (env:LDt):Tree Step:=Lk.stepMC false LK i1v 135 2 ls0 (z0v fun _=>none) env
def p0c:OpT:=Classical.choose (opq (a0b f0i FU))
theorem u0y (env:LDt):p0c env=a0b f0i FU env:=Classical.choose_spec (opq (a0b f0i FU)) env
def l1u:MBox:=z0v p0c
theorem y1u:l1u=z0v (a0b f0i FU):=congrArg z0v (funext u0y)
theorem z1o: ∀t s x,(a0l l1u t s).sel=some x→a0r Try.prog 0 (.loop (cAt Try.prog 135 2)) t s x:=by
 rw[y1u]
 exact b0a (st:=f0i) (m:=FU) w0n hmix false (LsOk.none _ _ _) (by kernel_rfl) (fun env y h=>by rw[←stepMC_lk];exact h)
def h0n:LDt→Tree Step
 |[.n n0,.l TNd l1,.n n2,.n n3]=>
  (.node (decide (n3<n2))
   (.node (Prod.fst (List.getD l1 (Int.toNat n3) (Ty.dflt TNd))==n0)
   (.leaf (Step.stop 1 [.b (Prod.snd (List.getD l1 (Int.toNat n3) (Ty.dflt TNd))),.b true]))
   (.leaf (Step.go [.k 0,.n n0,.l TNd l1,.n n2,.n (IntKind.wrap .i64 (n3+(1:Int)))])))
   (.leaf (Step.stop 0 [])))
 |_=>.bad 0
theorem h0m (n0:Int)(l1:DD)(n2:Int)(n3:Int)(g0:0≤n3)(g1:n2=(l1.length:Int)):Imp (h0n [.n n0,.l TNd l1,.n n2,.n n3]) (f0i [.k 0,.n n0,.l TNd l1,.n n2,.n n3]):=
(.pa [1]
(.nd (fun h0=>
(.pq (c:=(inR n3 (List.length l1)))
(.nd (fun h1=>
(.pa [1]
.lf)) (fun h1=>
(.pa [1]
.lf))))) (fun h0=>
(.pa [1]
.lf))))
theorem k2w:LsOk Try.prog (z0) (lsM [(2,l1u)] (z0)) (a0u Try.prog 135):=LsOk.many fun j B hB hk c hc hi=>by
 simp only[c0f]at hB
 split at hB
 ·rename_i e;have:=Nat.eq_of_beq_eq_true e;subst this;cases hB
  rw[b0u (f:=135) (i:=2) (a0e (by kernel_rfl)) (a0c hc hi)];exact z1o
 cases hB
def kc143 (f:OpT):FBox:=mkF [.imm TNd 0,.int .i64 1] [] [] [(.tup [.bool 0,.bool 1],[])] f
def n1b (env:LDt):TD:=Lk.boxC false LK i1v 135 (lsM [(2,l1u)] (z0)) (kc143 fun _=>none) env
def r0a:OpT:=Classical.choose (opq (fun env=>(n1b env).sel))
theorem g1b (env:LDt):r0a env=(n1b env).sel:=Classical.choose_spec (opq (fun env=>(n1b env).sel)) env
def Bc143:FBox:=kc143 r0a
theorem j3e:a0x Try.prog 135 (a0i Bc143):=b0c (op:=r0a) w0n hmix false (k2w) (fun env x h=>by rw[g1b]at h;rw[←boxC_lk];exact h)
def o1t:LDt→TD
 |[.l TNd l0,.n n1]=>
  (let r1:OD:=(p0c [.k 0,.n n1,.l TNd l0,.n (↑(List.length l0):Int),.n (0:Int)]);
   (.node (isK 0 [] r1)
   (.leaf ((0,[.b false,.b false])))
   (.node (isK 1 [HK.b,HK.b] r1)
    (.leaf ((0,[.b (gb (dOf r1) 0),.b (gb (dOf r1) 1)])))
    (.bad 351))))
 |_=>.bad 0
theorem r1m (l0:DD)(n1:Int):Imp (o1t [.l TNd l0,.n n1]) (n1b [.l TNd l0,.n n1]):=
(.nd (fun h0=>
(.pa [1]
.lf)) (fun h0=>
(.nd (fun h1=>
(.pa [1]
.lf)) (fun h1=>
.none))))
def l1c:FuncId→Option a0f:=a0k 135 Bc143 i1v
theorem v0i:CsOk Try.prog l1c:=a0h w0n j3e
def z0q (f:OpT):MBox:=mkM 0 [] [(sh 30 [(3,.own 0),(9,.own 1),(10,.int .i64 0),(11,.int .i64 1)],[.arr TNd 2,.arr TNd 3])] [(3,TNd)] [(.exit 0,sh 30 [(3,.own 0)],[.arr TNd 0])] f
def f0b (env:LDt):Tree Step:=Lk.stepMC false LK l1c 120 3 ls0 (z0q fun _=>none) env
def o0k:OpT:=Classical.choose (opq (a0b f0b FU))
theorem s0c (env:LDt):o0k env=a0b f0b FU env:=Classical.choose_spec (opq (a0b f0b FU)) env
def j1z:MBox:=z0q o0k
theorem u1x:j1z=z0q (a0b f0b FU):=congrArg z0q (funext s0c)
theorem v1d: ∀t s x,(a0l j1z t s).sel=some x→a0r Try.prog 0 (.loop (cAt Try.prog 120 3)) t s x:=by
 rw[u1x]
 exact b0a (st:=f0b) (m:=FU) v0i hmix false (LsOk.none _ _ _) (by kernel_rfl) (fun env y h=>by rw[←stepMC_lk];exact h)
def m0v:LDt→Tree Step
 |[.n n0,.n n1,.l TNd l2,.l TNd l3]=>
  (.node (decide (n1<n0))
   (let r1:OD:=(r0a [.l TNd l2,.n (Prod.fst (List.getD l3 (Int.toNat n1) (Ty.dflt TNd)))]);
   (.node (isK 0 [HK.b,HK.b] r1)
    (.node (!gb (dOf r1) 1)
    (.node (decide ((List.length l2+1)*16≤140737488355328))
     (.leaf (Step.go [.k 0,.n n0,.n (IntKind.wrap .i64 (n1+(1:Int))),.l TNd (apN l2 (Prod.fst (List.getD l3 (Int.toNat n1) (Ty.dflt TNd)),Prod.snd (List.getD l3 (Int.toNat n1) (Ty.dflt TNd)))),.l TNd l3]))
     (.bad 62))
    (.leaf (Step.go [.k 0,.n n0,.n (IntKind.wrap .i64 (n1+(1:Int))),.l TNd l2,.l TNd l3])))
    (.bad 351)))
   (.leaf (Step.stop 0 [.l TNd l2])))
 |_=>.bad 0
theorem n0q (n0:Int)(n1:Int)(l2:DD)(l3:DD)(g0:0≤n1)(g1:n0=(l3.length:Int)):Imp (m0v [.n n0,.n n1,.l TNd l2,.l TNd l3]) (f0b [.k 0,.n n0,.n n1,.l TNd l2,.l TNd l3]):=
(.pa [1]
(.nd (fun h0=>
(.pq (c:=(inR n1 (List.length l3)))
(.nd (fun h1=>
(.pa [1]
(.nd (fun h2=>
(.nd (fun h3=>
(.pa [1]
.lf)) (fun h3=>
.none))) (fun h2=>
(.pa [1]
.lf))))) (fun h1=>
.none)))) (fun h0=>
(.pa [1]
.lf))))
theorem o2x:LsOk Try.prog (z0) (lsM [(3,j1z)] (z0)) (a0u Try.prog 120):=LsOk.many fun j B hB hk c hc hi=>by
 simp only[c0f]at hB
 split at hB
 ·rename_i e;have:=Nat.eq_of_beq_eq_true e;subst this;cases hB
  rw[b0u (f:=120) (i:=3) (a0e (by kernel_rfl)) (a0c hc hi)];exact v1d
 cases hB
def kc123 (f:OpT):FBox:=mkF [rtV 0] [] [] [(.own 0,[.arr TNd 0])] f
def k1q (env:LDt):TD:=Lk.boxC false LK l1c 120 (lsM [(3,j1z)] (z0)) (kc123 fun _=>none) env
def c1b:OpT:=Classical.choose (opq (fun env=>(k1q env).sel))
theorem h1v (env:LDt):c1b env=(k1q env).sel:=Classical.choose_spec (opq (fun env=>(k1q env).sel)) env
def Bc123:FBox:=kc123 c1b
theorem f3k:a0x Try.prog 120 (a0i Bc123):=b0c (op:=c1b) v0i hmix false (o2x) (fun env x h=>by rw[h1v]at h;rw[←boxC_lk];exact h)
def t1z:LDt→TD
 |[.s s0,.n n1,.l TI l2,.l TNd l3,.l TI l4,.l TNd l5]=>
  (let r1:OD:=(l1f [.s s0,.n n1,.l TI l2,.l TNd l3,.l TI l4,.l TNd l5]);
   (.node (isK 0 [HK.l TNd] r1)
   (let r2:OD:=(o0k [.k 0,.n (↑(List.length (gl TNd (dOf r1) 0)):Int),.n (0:Int),.l TNd [],.l TNd (gl TNd (dOf r1) 0)]);
    (.node (isK 0 [HK.l TNd] r2)
    (.leaf ((0,[.l TNd (gl TNd (dOf r2) 0)])))
    (.bad 351)))
   (.bad 351)))
 |_=>.bad 0
theorem u1f (s0:ByteArray)(n1:Int)(l2:DI)(l3:DD)(l4:DI)(l5:DD):Imp (t1z [.s s0,.n n1,.l TI l2,.l TNd l3,.l TI l4,.l TNd l5]) (k1q [.s s0,.n n1,.l TI l2,.l TNd l3,.l TI l4,.l TNd l5]):=
(.nd (fun h0=>
(.pa [1]
(.nd (fun h1=>
(.pa [1]
.lf)) (fun h1=>
.none)))) (fun h0=>
.none))
def k1d:FuncId→Option a0f:=a0k 120 Bc123 l1c
theorem w0i:CsOk Try.prog k1d:=a0h v0i f3k
def a1r (f:OpT):MBox:=mkM 0 [] [(sh 30 [(1,.imm TNd 0),(9,.imm TNd 1),(10,.int .i64 2),(11,.int .i64 3)],[])] [] [(.exit 0,sh 30 [],[]),(.ret,sh 30 [(4,.bool 0)],[])] f
def e0y (env:LDt):Tree Step:=Lk.stepMC false LK k1d 121 2 ls0 (a1r fun _=>none) env
def o0v:OpT:=Classical.choose (opq (a0b e0y FU))
theorem t0l (env:LDt):o0v env=a0b e0y FU env:=Classical.choose_spec (opq (a0b e0y FU)) env
def k1n:MBox:=a1r o0v
theorem x1w:k1n=a1r (a0b e0y FU):=congrArg a1r (funext t0l)
theorem a2s: ∀t s x,(a0l k1n t s).sel=some x→a0r Try.prog 0 (.loop (cAt Try.prog 121 2)) t s x:=by
 rw[x1w]
 exact b0a (st:=e0y) (m:=FU) w0i hmix false (LsOk.none _ _ _) (by kernel_rfl) (fun env y h=>by rw[←stepMC_lk];exact h)
def h0s:LDt→Tree Step
 |[.l TNd l0,.l TNd l1,.n n2,.n n3]=>
  (.node (decide (n3<n2))
   (let r1:OD:=(r0a [.l TNd l0,.n (Prod.fst (List.getD l1 (Int.toNat n3) (Ty.dflt TNd)))]);
   (.node (isK 0 [HK.b,HK.b] r1)
    (.node (gb (dOf r1) 1)
    (.node (!gb (dOf r1) 0==Prod.snd (List.getD l1 (Int.toNat n3) (Ty.dflt TNd)))
     (.leaf (Step.stop 1 [.b true]))
     (.leaf (Step.go [.k 0,.l TNd l0,.l TNd l1,.n n2,.n (IntKind.wrap .i64 (n3+(1:Int)))])))
    (.leaf (Step.go [.k 0,.l TNd l0,.l TNd l1,.n n2,.n (IntKind.wrap .i64 (n3+(1:Int)))])))
    (.bad 351)))
   (.leaf (Step.stop 0 [])))
 |_=>.bad 0
theorem g0r (l0:DD)(l1:DD)(n2:Int)(n3:Int)(g0:0≤n3)(g1:n2=(l1.length:Int)):Imp (h0s [.l TNd l0,.l TNd l1,.n n2,.n n3]) (e0y [.k 0,.l TNd l0,.l TNd l1,.n n2,.n n3]):=
(.pa [1]
(.nd (fun h0=>
(.pq (c:=(inR n3 (List.length l1)))
(.nd (fun h1=>
(.pa [1]
(.nd (fun h2=>
(.nd (fun h3=>
(.pa [1]
.lf)) (fun h3=>
(.pa [1]
.lf)))) (fun h2=>
(.pa [0,0,1]
.lf))))) (fun h1=>
.none)))) (fun h0=>
(.pa [1]
.lf))))
theorem m2d:LsOk Try.prog (z0) (lsM [(2,k1n)] (z0)) (a0u Try.prog 121):=LsOk.many fun j B hB hk c hc hi=>by
 simp only[c0f]at hB
 split at hB
 ·rename_i e;have:=Nat.eq_of_beq_eq_true e;subst this;cases hB
  rw[b0u (f:=121) (i:=2) (a0e (by kernel_rfl)) (a0c hc hi)];exact a2s
 cases hB
def kc124 (f:OpT):FBox:=mkF [.imm TNd 0,.imm TNd 1] [] [] [(.bool 0,[])] f
def m1g (env:LDt):TD:=Lk.boxC false LK k1d 121 (lsM [(2,k1n)] (z0)) (kc124 fun _=>none) env
def e1z:OpT:=Classical.choose (opq (fun env=>(m1g env).sel))
theorem h1u (env:LDt):e1z env=(m1g env).sel:=Classical.choose_spec (opq (fun env=>(m1g env).sel)) env
def Bc124:FBox:=kc124 e1z
theorem k3a:a0x Try.prog 121 (a0i Bc124):=b0c (op:=e1z) w0i hmix false (m2d) (fun env x h=>by rw[h1u]at h;rw[←boxC_lk];exact h)
def p1h:LDt→TD
 |[.l TNd l0,.l TNd l1]=>
  (let r1:OD:=(o0v [.k 0,.l TNd l1,.l TNd l0,.n (↑(List.length l0):Int),.n (0:Int)]);
   (.node (isK 0 [] r1)
   (.leaf ((0,[.b false])))
   (.node (isK 1 [HK.b] r1)
    (.leaf ((0,[.b (gb (dOf r1) 0)])))
    (.bad 351))))
 |_=>.bad 0
theorem p1p (l0:DD)(l1:DD):Imp (p1h [.l TNd l0,.l TNd l1]) (m1g [.l TNd l0,.l TNd l1]):=
(.nd (fun h0=>
(.pa [1]
.lf)) (fun h0=>
(.nd (fun h1=>
(.pa [1]
.lf)) (fun h1=>
.none))))
def l1t:FuncId→Option a0f:=a0k 121 Bc124 k1d
theorem v0m:CsOk Try.prog l1t:=a0h w0i k3a
def y0x (f:OpT):MBox:=mkM 0 [] [(sh 49 [(3,.imm TNd 0),(4,.ptr 0 0),(9,.own 1),(16,.imm TNd 1),(17,.int .i64 2),(18,.int .i64 3)],[laB 4,.arr TI 8])] [] [(.exit 0,sh 49 [],[]),(.ret,sh 49 [(8,.bool 0)],[])] f
def e0d (env:LDt):Tree Step:=Lk.stepMC false LK l1t 122 3 ls0 (y0x fun _=>none) env
def o0x:OpT:=Classical.choose (opq (a0b e0d FU))
theorem u0z (env:LDt):o0x env=a0b e0d FU env:=Classical.choose_spec (opq (a0b e0d FU)) env
def k1i:MBox:=y0x o0x
theorem a2d:k1i=y0x (a0b e0d FU):=congrArg y0x (funext u0z)
theorem w1m: ∀t s x,(a0l k1i t s).sel=some x→a0r Try.prog 0 (.loop (cAt Try.prog 122 3)) t s x:=by
 rw[a2d]
 exact b0a (st:=e0d) (m:=FU) v0m hmix false (LsOk.none _ _ _) (by kernel_rfl) (fun env y h=>by rw[←stepMC_lk];exact h)
def n0n:LDt→Tree Step
 |[.l TNd l0,.l TNd l1,.n n2,.n n3,.l TS l4,.l TPt l5,.l TPt l6,.l TRt l7,.l TI l8]=>
  (.node (decide (n3<n2))
   (let r1:OD:=(r0a [.l TNd l0,.n (Prod.fst (List.getD l1 (Int.toNat n3) (Ty.dflt TNd)))]);
   (.node (isK 0 [HK.b,HK.b] r1)
    (.node (inR (Prod.fst (List.getD l1 (Int.toNat n3) (Ty.dflt TNd))) (List.length l5))
    (let r2:OD:=(w0r [.l TI l8,.n (Prod.snd (List.getD l5 (Int.toNat (Prod.fst (List.getD l1 (Int.toNat n3) (Ty.dflt TNd)))) (Ty.dflt TPt)))]);
     (.node (isK 0 [HK.b] r2)
     (.node (gb (dOf r2) 0)
      (.node (!gb (dOf r1) 1)
      (.leaf (Step.stop 1 [.b true]))
      (.node (!gb (dOf r1) 0==Prod.snd (List.getD l1 (Int.toNat n3) (Ty.dflt TNd)))
       (.leaf (Step.stop 1 [.b true]))
       (.leaf (Step.go [.k 0,.l TNd l0,.l TNd l1,.n n2,.n (IntKind.wrap .i64 (n3+(1:Int))),.l TS l4,.l TPt l5,.l TPt l6,.l TRt l7,.l TI l8]))))
      (.leaf (Step.go [.k 0,.l TNd l0,.l TNd l1,.n n2,.n (IntKind.wrap .i64 (n3+(1:Int))),.l TS l4,.l TPt l5,.l TPt l6,.l TRt l7,.l TI l8])))
     (.bad 351)))
    (.bad 10))
    (.bad 351)))
   (.leaf (Step.stop 0 [])))
 |_=>.bad 0
theorem n0w (l0:DD)(l1:DD)(n2:Int)(n3:Int)(l4:DS)(l5:DP)(l6:DP)(l7:DR)(l8:DI)(g0:0≤n3)(g1:n2=(l1.length:Int)):Imp (n0n [.l TNd l0,.l TNd l1,.n n2,.n n3,.l TS l4,.l TPt l5,.l TPt l6,.l TRt l7,.l TI l8]) (e0d [.k 0,.l TNd l0,.l TNd l1,.n n2,.n n3,.l TS l4,.l TPt l5,.l TPt l6,.l TRt l7,.l TI l8]):=
(.pa [1]
(.nd (fun h0=>
(.pq (c:=(inR n3 (List.length l1)))
(.nd (fun h1=>
(.pa [1]
(.nd (fun h2=>
(.nd (fun h3=>
(.pa [1]
(.nd (fun h4=>
(.nd (fun h5=>
(.pa [1,1,1]
.lf)) (fun h5=>
(.nd (fun h6=>
(.pa [1]
.lf)) (fun h6=>
(.pa [1]
.lf)))))) (fun h4=>
(.pa [0,0,1]
.lf))))) (fun h3=>
.none))) (fun h2=>
.none)))) (fun h1=>
.none)))) (fun h0=>
(.pa [1]
.lf))))
theorem m2u:LsOk Try.prog (z0) (lsM [(3,k1i)] (z0)) (a0u Try.prog 122):=LsOk.many fun j B hB hk c hc hi=>by
 simp only[c0f]at hB
 split at hB
 ·rename_i e;have:=Nat.eq_of_beq_eq_true e;subst this;cases hB
  rw[b0u (f:=122) (i:=3) (a0e (by kernel_rfl)) (a0c hc hi)];exact w1m
 cases hB
def kc125 (f:OpT):FBox:=mkF [laV 0,.imm TNd 4,rtV 5,.imm TNd 11] [] [] [(.bool 0,[])] f
def j1h (env:LDt):TD:=Lk.boxC false LK l1t 122 (lsM [(3,k1i)] (z0)) (kc125 fun _=>none) env
def b1m:OpT:=Classical.choose (opq (fun env=>(j1h env).sel))
theorem h1a (env:LDt):b1m env=(j1h env).sel:=Classical.choose_spec (opq (fun env=>(j1h env).sel)) env
def Bc125:FBox:=kc125 b1m
theorem i3q:a0x Try.prog 122 (a0i Bc125):=b0c (op:=b1m) v0m hmix false (m2u) (fun env x h=>by rw[h1a]at h;rw[←boxC_lk];exact h)
def q1h:LDt→TD
 |[.l TS l0,.l TPt l1,.l TPt l2,.l TRt l3,.l TNd l4,.s s5,.n n6,.l TI l7,.l TNd l8,.l TI l9,.l TNd l10,.l TNd l11]=>
  (let r1:OD:=(op_9 [.s s5,.n n6,.l TI l7,.l TNd l8,.l TI l9,.l TNd l10]);
   (.node (isK 0 [HK.l TI] r1)
   (let r2:OD:=(o0x [.k 0,.l TNd l11,.l TNd l4,.n (↑(List.length l4):Int),.n (0:Int),.l TS l0,.l TPt l1,.l TPt l2,.l TRt l3,.l TI (gl TI (dOf r1) 0)]);
    (.node (isK 0 [] r2)
    (.leaf ((0,[.b false])))
    (.node (isK 1 [HK.b] r2)
     (.leaf ((0,[.b (gb (dOf r2) 0)])))
     (.bad 351))))
   (.bad 351)))
 |_=>.bad 0
theorem u1i (l0:DS)(l1:DP)(l2:DP)(l3:DR)(l4:DD)(s5:ByteArray)(n6:Int)(l7:DI)(l8:DD)(l9:DI)(l10:DD)(l11:DD):Imp (q1h [.l TS l0,.l TPt l1,.l TPt l2,.l TRt l3,.l TNd l4,.s s5,.n n6,.l TI l7,.l TNd l8,.l TI l9,.l TNd l10,.l TNd l11]) (j1h [.l TS l0,.l TPt l1,.l TPt l2,.l TRt l3,.l TNd l4,.s s5,.n n6,.l TI l7,.l TNd l8,.l TI l9,.l TNd l10,.l TNd l11]):=
(.nd (fun h0=>
(.pa [1]
(.nd (fun h1=>
(.pa [1]
.lf)) (fun h1=>
(.nd (fun h2=>
(.pa [1]
.lf)) (fun h2=>
.none)))))) (fun h0=>
.none))
def z2f:FuncId→Option a0f:=a0k 122 Bc125 l1t
theorem g0k:CsOk Try.prog z2f:=a0h v0m i3q
def g2 (e:Ty.den TNd):Bool:=Prod.snd e
def sdF (l:LN)(p:Int):Option Bool:=(List.find? (fun d=>f1 d==p) l).map g2
def j0o (row:LN)(d:Ty.den TNd):LN:=match sdF row (f1 d)with
 |some _=>row
 |none=>apN row d
def sds (l:LN):LN:=l.foldl j0o []
def shF (a b:LI):Bool:=a.any fun s=>decide (s∈b)
def unAt (b:LN)(d:Ty.den TNd):Bool:=match sdF b (f1 d)with
 |some r=>r !=g2 d
 |none=>false
def k1f (pts:LP)(tr:LI)(b:LN)(d:Ty.den TNd):Bool:=decide (ptS pts (f1 d)∈tr)&&(match sdF b (f1 d)with
 |some r=>r !=g2 d
 |none=>true)
def unF (a b:LN):Bool:=a.any (unAt b)
def wayF (pts:LP)(a:LN)(tr:LI)(b:LN):Bool:=a.any (k1f pts tr b)
def trk (e:Rt):LI:=eP e++eO e
def ndsE (e:Rt):LN:=List.append (eQ e) (eF e)
def cfE (pts:LP)(x y:Rt):Bool:=decide (eN x=eN y)||(shF (trk x) (trk y)||(unF (sds (ndsE x)) (sds (ndsE y))||(wayF pts (sds (ndsE x)) (trk y) (sds (ndsE y))||wayF pts (sds (ndsE y)) (trk x) (sds (ndsE x)))))
theorem g2q {α:Type}(l:List α)(d:α)(p:α→Bool):l.find? p=match b0y (fun i=>p (l.getD i d)) l.length with
  |some k=>some (l.getD k d)
  |none=>none:=by
 cases h:b0y (fun i=>p (l.getD i d)) l.length with
 |none=>
  rw[List.find?_eq_none]
  intro x hx
  obtain⟨i,hi,rfl⟩:=List.getElem_of_mem hx
  have:=c0t h i hi
  rw[e0a l d hi]at this
  rw[this];simp
 |some k=>
  obtain⟨h1,h2,h3⟩:=d0n h
  rw[List.find?_eq_some_iff_getElem]
  refine⟨h2,k,h1,(e0a l d h1).symm,fun j hj=> ?_⟩
  have:=h3 j hj
  rw[e0a l d (by omega)]at this
  rw[this];rfl
theorem o143 (l:LN)(p:Int)(hl:l.length≤100000):r0a [.l TNd l,.n p]=some (0,match sdF l p with|some r=>[.b r,.b true]|none=>[.b false,.b false]):=by
 have e:p0c [.k 0,.n p,.l TNd l,.n (l.length:Int),.n (0:Int)]=some (match sdF l p with|some r=>(1,[.b r,.b true])|none=>(0,[])):=by
  have hh:=g2q l (Ty.dflt TNd) (fun d=>f1 d==p)
  unfold sdF
  rw[hh,u0y]
  refine(j0p (st:=f0i) (fun i=>[.k 0,.n p,.l TNd l,.n (l.length:Int),.n (i:Int)]) l.length (fun i=>f1 (l.getD i (Ty.dflt TNd))==p) (fun k=>(1,[.b (g2 (l.getD k (Ty.dflt TNd))),.b true])) (0,[]) (fun i hi h=> ?_) (fun i hi h=> ?_) ?_ FU (by unfold FU;omega)).trans ?_
  rotate_right
  ·cases b0y (fun i=>f1 (l.getD i (Ty.dflt TNd))==p) l.length<;>rfl
  ·refine h0m _ _ _ _ (by omega) rfl _ ?_
   unfold h0n
   refine a0a (dt (show(i:Int)<(l.length:Int) by omega)) (a0d h ?_)
   rw[w1n i (by omega)];rfl
  ·refine h0m _ _ _ _ (by omega) rfl _ ?_
   unfold h0n
   exact a0a (dt (show(i:Int)<(l.length:Int) by omega)) (a0a h rfl)
  ·refine h0m _ _ _ _ (by omega) rfl _ ?_
   unfold h0n
   exact a0d (df (show¬(l.length:Int)<(l.length:Int) by omega)) rfl
 rw[g1b]
 refine r1m _ _ _ ?_
 unfold o1t
 dsimp only
 erw[e]
 cases sdF l p with
 |some r=>exact a0d rfl (a0a rfl rfl)
 |none=>exact a0a rfl rfl
theorem o142 (l:LI)(p:Int)(hl:l.length≤100000):w0r [.l TI l,.n p]=some (0,[.b (decide (p∈l))]):=by
 have e:p0j [.k 0,.l TI l,.n p,.n (l.length:Int),.n (0:Int)]=some (match b0y (fun i=>l.getD i 0==p) l.length with|some k=>(1,[.n (k:Int)])|none=>(0,[])):=by
  rw[s0n]
  refine j0p (st:=f0a) (fun i=>[.k 0,.l TI l,.n p,.n (l.length:Int),.n (i:Int)]) l.length (fun i=>l.getD i 0==p) (fun k=>(1,[.n (k:Int)])) (0,[]) (fun i hi h=> ?_) (fun i hi h=> ?_) ?_ FU (by unfold FU;omega)
  ·refine g0w _ _ _ _ (by omega) rfl _ ?_
   unfold i0b
   refine a0a (dt (show(i:Int)<(l.length:Int) by omega)) (a0d (by rw[Bool.beq_comm];exact h) ?_)
   rw[w1n i (by omega)];rfl
  ·refine g0w _ _ _ _ (by omega) rfl _ ?_
   unfold i0b
   exact a0a (dt (show(i:Int)<(l.length:Int) by omega)) (a0a (by rw[Bool.beq_comm];exact h) rfl)
  ·refine g0w _ _ _ _ (by omega) rfl _ ?_
   unfold i0b
   exact a0d (df (show¬(l.length:Int)<(l.length:Int) by omega)) rfl
 have e2:b1g [.l TI l,.n p]=some (0,[.n (match b0y (fun i=>l.getD i 0==p) l.length with|some k=>(k:Int)|none=> -1)]):=by
  rw[g1j]
  refine q1d _ _ _ ?_
  unfold t1f
  dsimp only
  erw[e]
  cases b0y (fun i=>l.getD i 0==p) l.length with
  |some k=>exact a0d rfl (a0a rfl rfl)
  |none=>exact a0a rfl rfl
 have hm:decide (p∈l)=(b0y (fun i=>l.getD i 0==p) l.length).isSome:=by
  rw[←c1j,←d0x l 0 (fun y=>y==p)]
  rw[Bool.eq_iff_iff,List.any_eq_true]
  cases h:b0y (fun i=>l.getD i 0==p) l.length with
  |none=>
   refine⟨fun⟨i,hi,hx⟩=> ?_,fun h=>by cases h⟩
   rw[List.mem_range'_1]at hi
   rw[c0t h i (by omega)]at hx;cases hx
  |some k=>
   obtain⟨h1,h2,_⟩:=d0n h
   exact⟨fun _=>rfl,fun _=>⟨k,List.mem_range'_1.2 (by omega),h2⟩⟩
 rw[h1p]
 refine s1x _ _ _ ?_
 unfold s1g
 dsimp only
 erw[e2]
 refine a0a rfl ?_
 rw[hm]
 cases b0y (fun i=>l.getD i 0==p) l.length with
 |some k=>show some (0,[Dat.b (decide ((k:Int)≥0))])=_;rw[dt (show(k:Int)≥0 by omega)];rfl
 |none=>rfl
theorem o122 (a b:LI)(ha:a.length≤100000)(hb:b.length≤100000):c1x [.l TI a,.l TI b]=some (0,[.b (shF a b)]):=by
 have e:p0e [.k 0,.l TI b,.l TI a,.n (a.length:Int),.n (0:Int)]=some (bif (List.range' 0 a.length).any (fun i=>decide (a.getD i 0∈b))then(1,[.b true])else(0,[])):=by
  rw[t0s]
  refine b0q (st:=f0c) (fun i=>[.k 0,.l TI b,.l TI a,.n (a.length:Int),.n (i:Int)]) a.length (fun i=>decide (a.getD i 0∈b)) (1,[.b true]) (0,[]) (fun i hi h=> ?_) (fun i hi h=> ?_) ?_ FU (by unfold FU;omega)
  ·refine h0f _ _ _ _ (by omega) rfl _ ?_
   unfold h0w
   refine a0a (dt (show(i:Int)<(a.length:Int) by omega)) ?_
   have e1:=o142 b (a.getD i 0) hb
   dsimp only
   erw[e1]
   refine a0a rfl (a0d h ?_)
   rw[w1n i (by omega)];rfl
  ·refine h0f _ _ _ _ (by omega) rfl _ ?_
   unfold h0w
   refine a0a (dt (show(i:Int)<(a.length:Int) by omega)) ?_
   have e1:=o142 b (a.getD i 0) hb
   dsimp only
   erw[e1]
   exact a0a rfl (a0a h rfl)
  ·refine h0f _ _ _ _ (by omega) rfl _ ?_
   unfold h0w
   exact a0d (df (show¬(a.length:Int)<(a.length:Int) by omega)) rfl
 rw[d0x a 0 (fun s=>decide (s∈b))]at e
 rw[h1q]
 refine t1a _ _ _ ?_
 unfold r1t
 dsimp only
 erw[e]
 unfold shF
 cases a.any (fun s=>decide (s∈b))with
 |true=>exact a0d rfl (a0a rfl rfl)
 |false=>exact a0a rfl rfl
theorem z2d (l:LN):(sds l).length≤l.length:=by
 unfold sds
 have: ∀(l acc:LN),(l.foldl j0o acc).length≤acc.length+l.length:=by
  intro l
  induction l with
  |nil=>intro acc;exact Nat.le_refl _
  |cons d l ih=>
   intro acc
   rw[List.foldl_cons]
   have h1:(j0o acc d).length≤acc.length+1:=by
    unfold j0o
    cases sdF acc (f1 d)with
    |some _=>exact Nat.le_succ _
    |none=>show(acc++[d]).length≤_;simp
   have:=ih (j0o acc d)
   rw[List.length_cons]
   omega
 simpa using this l []
theorem sds_up (l:LN){i:Nat}(h:i<l.length):sds (l.take (i+1))=j0o (sds (l.take i)) (l.getD i (Ty.dflt TNd)):=by
 unfold sds
 rw[List.take_succ_eq_append_getElem h,List.foldl_append,e0a l _ h]
 rfl
theorem o123 (s:ByteArray)(n:Int)(p:List (Ty.den TI))(q:LN)(o:List (Ty.den TI))(f:LN)(ha:p.length≤200)(hb:q.length≤200)(hc:o.length≤200)(hd:f.length≤200):c1b [.s s,.n n,.l TI p,.l TNd q,.l TI o,.l TNd f]=some (0,[.l TNd (sds (List.append q f))]):=by
 have hl:(List.append q f).length≤400:=by show(q++f).length≤400;rw[List.length_append];omega
 have lp: ∀l:LN,l.length≤400→o0k [.k 0,.n (l.length:Int),.n (0:Int),.l TNd [],.l TNd l]=some (0,[.l TNd (sds l)]):=by
  intro l hl
  rw[s0c]
  refine a0j (st:=f0b) (fun i=>[.k 0,.n (l.length:Int),.n (i:Int),.l TNd (sds (l.take i)),.l TNd l]) l.length (0,[.l TNd (sds l)]) (fun i hi=> ?_) ?_ FU (by unfold FU;omega)
  ·have ln:(sds (l.take i)).length≤400:=by have:=z2d (l.take i);rw[List.length_take]at this;omega
   refine n0q _ _ _ _ (by omega) rfl _ ?_
   unfold m0v
   refine a0a (dt (show(i:Int)<(l.length:Int) by omega)) ?_
   have e1:=o143 (sds (l.take i)) (f1 (l.getD i (Ty.dflt TNd))) (by omega)
   dsimp only
   erw[e1]
   rw[sds_up l hi]
   unfold j0o
   cases sdF (sds (l.take i)) (f1 (l.getD i (Ty.dflt TNd)))with
   |some r=>
    refine a0a rfl (a0d rfl ?_)
    rw[w1n i (by omega)];rfl
   |none=>
    refine a0a rfl (a0a rfl (a0a (dt (show((sds (l.take i)).length+1)*16≤140737488355328 by omega)) ?_))
    rw[w1n i (by omega)];rfl
  ·refine n0q _ _ _ _ (by omega) rfl _ ?_
   unfold m0v
   refine a0d (df (show¬(l.length:Int)<(l.length:Int) by omega)) ?_
   rw[List.take_length];rfl
 rw[h1v]
 refine u1f _ _ _ _ _ _ _ ?_
 unfold t1z
 dsimp only
 erw[o10 s n p q o f ha hb hc hd]
 refine a0a rfl ?_
 have e2:=lp (List.append q f) hl
 erw[e2]
 exact a0a rfl rfl
theorem o124 (a b:LN)(ha:a.length≤100000)(hb:b.length≤100000):e1z [.l TNd a,.l TNd b]=some (0,[.b (unF a b)]):=by
 have e:o0v [.k 0,.l TNd b,.l TNd a,.n (a.length:Int),.n (0:Int)]=some (bif (List.range' 0 a.length).any (fun i=>unAt b (a.getD i (Ty.dflt TNd)))then(1,[.b true])else(0,[])):=by
  rw[t0l]
  refine b0q (st:=e0y) (fun i=>[.k 0,.l TNd b,.l TNd a,.n (a.length:Int),.n (i:Int)]) a.length (fun i=>unAt b (a.getD i (Ty.dflt TNd))) (1,[.b true]) (0,[]) (fun i hi h=> ?_) (fun i hi h=> ?_) ?_ FU (by unfold FU;omega)
  ·refine g0r _ _ _ _ (by omega) rfl _ ?_
   unfold h0s
   refine a0a (dt (show(i:Int)<(a.length:Int) by omega)) ?_
   have e1:=o143 b (f1 (a.getD i (Ty.dflt TNd))) hb
   unfold unAt at h
   dsimp only
   erw[e1]
   revert h
   cases sdF b (f1 (a.getD i (Ty.dflt TNd)))with
   |some r=>
    intro h
    refine a0a rfl (a0a rfl (a0d ?_ ?_))
    ·revert h;show(r !=g2 (a.getD i (Ty.dflt TNd)))=false→(!r==g2 (a.getD i (Ty.dflt TNd)))=false
     cases r<;>cases g2 (a.getD i (Ty.dflt TNd))<;>simp
    ·rw[w1n i (by omega)];rfl
   |none=>
    intro _
    refine a0a rfl (a0d rfl ?_)
    rw[w1n i (by omega)];rfl
  ·refine g0r _ _ _ _ (by omega) rfl _ ?_
   unfold h0s
   refine a0a (dt (show(i:Int)<(a.length:Int) by omega)) ?_
   have e1:=o143 b (f1 (a.getD i (Ty.dflt TNd))) hb
   unfold unAt at h
   dsimp only
   erw[e1]
   revert h
   cases sdF b (f1 (a.getD i (Ty.dflt TNd)))with
   |some r=>
    intro h
    refine a0a rfl (a0a rfl (a0a ?_ rfl))
    revert h;show(r !=g2 (a.getD i (Ty.dflt TNd)))=true→(!r==g2 (a.getD i (Ty.dflt TNd)))=true
    cases r<;>cases g2 (a.getD i (Ty.dflt TNd))<;>simp
   |none=>intro h;cases h
  ·refine g0r _ _ _ _ (by omega) rfl _ ?_
   unfold h0s
   exact a0d (df (show¬(a.length:Int)<(a.length:Int) by omega)) rfl
 rw[d0x a (Ty.dflt TNd) (unAt b)]at e
 rw[h1u]
 refine p1p _ _ _ ?_
 unfold p1h
 dsimp only
 erw[e]
 unfold unF
 cases a.any (unAt b)with
 |true=>exact a0d rfl (a0a rfl rfl)
 |false=>exact a0a rfl rfl
theorem o125 (a:LS)(b c:LP)(r:LR)(x:LN)(s:ByteArray)(n:Int)(p:List (Ty.den TI))(q:LN)(o:List (Ty.den TI))(f:LN)(y:LN)(hx:f0p b x)(lx:x.length≤100000)(ly:y.length≤100000)(ha:p.length≤200)(hb:q.length≤200)(hc:o.length≤200)(hd:f.length≤200):
  b1m [.l TS a,.l TPt b,.l TPt c,.l TRt r,.l TNd x,.s s,.n n,.l TI p,.l TNd q,.l TI o,.l TNd f,.l TNd y]=some (0,[.b (wayF b x (p++o:List Int) y)]):=by
 have lp: ∀tr:LI,tr.length≤100000→o0x [.k 0,.l TNd y,.l TNd x,.n (x.length:Int),.n (0:Int),.l TS a,.l TPt b,.l TPt c,.l TRt r,.l TI tr]=some (bif (List.range' 0 x.length).any (fun i=>k1f b tr y (x.getD i (Ty.dflt TNd)))then(1,[.b true])else(0,[])):=by
  intro tr ht
  rw[u0z]
  have st: ∀i,i<x.length→(e0d [.k 0,.l TNd y,.l TNd x,.n (x.length:Int),.n (i:Int),.l TS a,.l TPt b,.l TPt c,.l TRt r,.l TI tr]).sel=some (bif k1f b tr y (x.getD i (Ty.dflt TNd))then Step.stop 1 [.b true]else Step.go [.k 0,.l TNd y,.l TNd x,.n (x.length:Int),.n ((i+1:Nat):Int),.l TS a,.l TPt b,.l TPt c,.l TRt r,.l TI tr]):=by
   intro i hi
   refine n0w _ _ _ _ _ _ _ _ _ (by omega) rfl _ ?_
   unfold n0n
   refine a0a (dt (show(i:Int)<(x.length:Int) by omega)) ?_
   have e1:=o143 y (f1 (x.getD i (Ty.dflt TNd))) ly
   have e2:=o142 tr (ptS b (f1 (x.getD i (Ty.dflt TNd)))) ht
   have e3:=okAt hx hi
   dsimp only
   erw[e1]
   unfold k1f
   rw[←w1n i (by omega)]
   cases sdF y (f1 (x.getD i (Ty.dflt TNd)))with
   |some r1=>
    refine a0a rfl (a0a e3 ?_)
    erw[e2]
    refine a0a rfl ?_
    cases decide (ptS b (f1 (x.getD i (Ty.dflt TNd)))∈tr)with
    |false=>exact a0d rfl rfl
    |true=>
     refine a0a rfl (a0d rfl ?_)
     show(Tree.node (!r1==g2 (x.getD i (Ty.dflt TNd))) _ _).sel=some (bif r1 !=g2 (x.getD i (Ty.dflt TNd))then _ else _)
     cases r1<;>cases g2 (x.getD i (Ty.dflt TNd))<;>rfl
   |none=>
    refine a0a rfl (a0a e3 ?_)
    erw[e2]
    refine a0a rfl ?_
    cases decide (ptS b (f1 (x.getD i (Ty.dflt TNd)))∈tr)with
    |false=>exact a0d rfl rfl
    |true=>exact a0a rfl (a0a rfl rfl)
  refine b0q (st:=e0d) (fun i=>[.k 0,.l TNd y,.l TNd x,.n (x.length:Int),.n (i:Int),.l TS a,.l TPt b,.l TPt c,.l TRt r,.l TI tr]) x.length (fun i=>k1f b tr y (x.getD i (Ty.dflt TNd))) (1,[.b true]) (0,[]) (fun i hi h=> ?_) (fun i hi h=> ?_) ?_ FU (by unfold FU;omega)
  ·rw[st i hi,h];rfl
  ·rw[st i hi,h];rfl
  ·refine n0w _ _ _ _ _ _ _ _ _ (by omega) rfl _ ?_
   unfold n0n
   exact a0d (df (show¬(x.length:Int)<(x.length:Int) by omega)) rfl
 have e:=lp (p++o:List Int) (by have h:(p++o).length=p.length+o.length:=List.length_append;exact Nat.le_trans (Nat.le_of_eq h) (by omega))
 rw[d0x x (Ty.dflt TNd) (k1f b (p++o:List Int) y)]at e
 rw[h1a]
 refine u1i _ _ _ _ _ _ _ _ _ _ _ _ _ ?_
 unfold q1h
 dsimp only
 erw[o9 s n p q o f ha hb hc hd]
 refine a0a rfl ?_
 erw[e]
 unfold wayF
 cases x.any (k1f b (p++o:List Int) y)with
 |true=>exact a0d rfl (a0a rfl rfl)
 |false=>exact a0a rfl rfl
end Go.Proofs.Ytcbhgaeiokfcdaa.Vx
end
namespace Go.Proofs.Ytcbhgaeiokfcdaa.Vx
open Go Go.RowKit
set_option linter.unusedVariables false
set_option linter.unusedSimpArgs false
set_option maxRecDepth 100000
attribute [local go_sem] Oper.semAt_some
def rtS (e:Rt):List SV:=[.str (eS e),.int .i64 (eN e),.imm TI (eP e),.imm TNd (eQ e),.imm TI (eO e),.imm TNd (eF e)]
def laS (a:LS)(b c:LP)(r:LR):List SV:=[.imm TS a,.imm TPt b,.imm TPt c,.imm TRt r]
def s5 (a:LS)(b c:LP)(r:LR)(x y:Rt)(f:Bool)(more:List Blk):SW:=⟨[.cells (laS a b c r),.cells [.bool f],.cells (rtS x),.cells (rtS y),.cells (laS a b c r)]++more,[]⟩
section
variable {a:LS} {b c:LP} {r:LR} {x y:Rt} {R:RM} {σ:Snap} {w:World}
theorem g1w {B:FBox}{args args0:List SV}{S:SW}{x:SV×SW}(h1:t0i B.args args S=some args0)(h2:((a0i B args0 ⟨[],[]⟩).bind fun x=>j1x x.1 x.2 S).sel=some x):(f0w B args S).sel=some x:=by
 unfold f0w
 rw[h1]
 exact h2
theorem u1k {B:FBox}{args:List SV}{s:SW}{env:List Dat}(h:fitS B.args B.blks args s=some env):a0i B args s=(B.fn env).bind fun x=>match B.outs[x.1]? with
  |some o=>.leaf (instV o.1 x.2,⟨instBs o.2 x.2,B.log⟩)
  |none=>.bad 321:=by
 unfold a0i
 rw[h]
 rfl
theorem e1r {pargs:List PV}{op:List Dat→Option (Nat×List Dat)}{args args0:List SV}{S:SW}{env:List Dat}{z:Bool}(h1:t0i pargs args S=some args0)(h2:fitS pargs [] args0 ⟨[],[]⟩=some env)(h3:op env=some (0,[.b z])):
  (f0w (mkF pargs [] [] [(.bool 0,[])] op) args S).sel=some (.bool z,S):=by
 refine g1w h1 ?_
 rw[u1k (B:=mkF pargs [] [] [(.bool 0,[])] op) h2]
 simp only[mkF,h3]
 rfl
theorem b2y {pargs:List PV}{op:List Dat→Option (Nat×List Dat)}{args args0:List SV}{S:SW}{env:List Dat}{t:Ty}{z:List t.den}(ht:b1n t=true)(h1:t0i pargs args S=some args0)(h2:fitS pargs [] args0 ⟨[],[]⟩=some env)(h3:op env=some (0,[.l t z])):
  (f0w (mkF pargs [] [] [(.own 0,[.arr t 0])] op) args S).sel=some (.own S.len 0,S.push (.arr t 0 z)):=by
 refine g1w h1 ?_
 rw[u1k (B:=mkF pargs [] [] [(.own 0,[.arr t 0])] op) h2]
 have h4:isK 0 [HK.l t] (some (0,[.l t z]))=true:=by simp[isK,k1z]
 have h5:gl t [.l t z] 0=z:=f3d t z
 have h6:d1f [.l t z] [HK.l t] 0=[.l t z]:=by simp only[d1f,i3a,h5]
 have e:((mkF pargs [] [] [(PV.own 0,[PB.arr t 0])] op).fn env).sel=some (0,[.l t z]):=by
  show(outT [[HK.l t]] 0 (op env)).sel=_
  rw[h3]
  show(Tree.node (isK 0 [HK.l t] (some (0,[.l t z]))) (.leaf (0,d1f [.l t z] [HK.l t] 0)) (.bad 351)).sel=_
  rw[h4,h6];rfl
 rw[Tree.sel_bind,Tree.sel_bind,e]
 show(j1x (.own 0 0) ⟨[.arr t 0 (gl t [.l t z] 0)],[]⟩ S).sel=_
 rw[h5]
 show(Tree.guard (Nat.beq 0 0&&(b1n t&&b1q (some (0,0)) (.own 0 0))) 351 (.leaf (SV.own S.len 0,S.push (.arr t 0 z)))).sel=_
 rw[ht];rfl
theorem j0y {t:Ty}{k i:Nat}{l:List t.den}{S:SW}(h:S.blk i=some (.arr t 0 l)):y0l (.imm t k) (.own i 0) S=some (.imm t l):=by
 show(match q0e t (.own i 0) S with|some l=>some (SV.imm t l)|none=>none)=_
 have:q0e t (.own i 0) S=some l:=by
  show c0s t (.own i 0) S=some l
  have h2:b0i (.own i 0) S=some ⟨t,l⟩:=by unfold b0i;simp only[h]
  unfold c0s
  simp only[h2]
  exact c0r l
 rw[this]
section
variable {n:Nat} {S:SW}
def e2z (R:RM)(σ:Snap)(S:SW)(w:World)(z:Bool)(e:Ending)(w':World):Prop:=e=.returned (.bool z)∧ ∃R' σ',Rel R' σ' S w'∧R.le R'∧σ.le σ'∧Below w.heap.size w w'
def q2i (R:RM)(σ:Snap)(S:SW)(w:World)(t:Ty)(z:List t.den)(e:Ending)(w':World):Prop:= ∃v' R' σ',e=.returned v'∧VRel R' σ' (.own S.len 0) v'∧Rel R' σ' (S.push (.arr t 0 z)) w'∧R.le R'∧σ.le σ'∧Below w.heap.size w w'
theorem callB {f:FuncId}{g:a0f}(hs:b1y Try.prog f g){args:List SV}{z:Bool}(hg:(g args S).sel=some (.bool z,S))(hl:S.log=[]){args':Array Value}(hr:Rel R σ S w)(ha:LRel R σ args args'):
  CallsIn Fence.wide n Try.prog f args' w (e2z R σ S w z):=by
 refine(y2o rfl hs hg hl hr ha).mono ?_
 rintro e w' ⟨v',R',σ',rfl,hv,h1,h2,h3,h4⟩
 cases hv
 exact⟨rfl,R',σ',h1,h2,h3,h4⟩
theorem callR {f:FuncId}{g:a0f}(hs:b1y Try.prog f g){args:List SV}{t:Ty}{z:List t.den}(hg:(g args S).sel=some (.own S.len 0,S.push (.arr t 0 z)))(hl:S.log=[]){args':Array Value}(hr:Rel R σ S w)(ha:LRel R σ args args'):
  CallsIn Fence.wide n Try.prog f args' w (q2i R σ S w t z):=by
 refine(y2o rfl hs hg (by exact hl) hr ha).mono ?_
 rintro e w' ⟨v',R',σ',rfl,hv,h1,h2,h3,h4⟩
 exact⟨v',R',σ',rfl,hv,h1,h2,h3,h4⟩
def lenE (e:Rt):Prop:=(eP e).length≤200∧(eQ e).length≤200∧(eO e).length≤200∧(eF e).length≤200
theorem cTrack {e:Rt}(he:lenE e)(hl:S.log=[])(hr:Rel R σ S w){v:Value}(hv:VRel R σ (.agg (rtS e)) v):CallsIn Fence.wide n Try.prog 29 #[v] w (q2i R σ S w TI (trk e)):=by
 refine callR (g0k 29 (f0w B9) (by kernel_rfl)) (args:=[.agg (rtS e)]) ?_ hl hr (.cons hv (.nil _ _))
 exact b2y (op:=op_9) (args0:=[.agg (rtS e)]) (env:=[.s (eS e),.n (eN e),.l TI (eP e),.l TNd (eQ e),.l TI (eO e),.l TNd (eF e)]) (t:=TI) rfl (by kernel_rfl) (by kernel_rfl) (o9 _ _ _ _ _ _ he.1 he.2.1 he.2.2.1 he.2.2.2)
theorem cSides {e:Rt}(he:lenE e)(hl:S.log=[])(hr:Rel R σ S w){v:Value}(hv:VRel R σ (.agg (rtS e)) v):CallsIn Fence.wide n Try.prog 120 #[v] w (q2i R σ S w TNd (sds (ndsE e))):=by
 refine callR (g0k 120 (f0w Bc123) (by kernel_rfl)) (args:=[.agg (rtS e)]) ?_ hl hr (.cons hv (.nil _ _))
 exact b2y (op:=c1b) (args0:=[.agg (rtS e)]) (env:=[.s (eS e),.n (eN e),.l TI (eP e),.l TNd (eQ e),.l TI (eO e),.l TNd (eF e)]) (t:=TNd) rfl (by kernel_rfl) (by kernel_rfl) (o123 _ _ _ _ _ _ he.1 he.2.1 he.2.2.1 he.2.2.2)
theorem cShare {p q:LI}{i j:Nat}(hp:p.length≤100000)(hq:q.length≤100000)(hi:S.blk i=some (.arr TI 0 p))(hj:S.blk j=some (.arr TI 0 q))(hl:S.log=[])(hr:Rel R σ S w){v u:Value}(hv:VRel R σ (.own i 0) v)(hu:VRel R σ (.own j 0) u):
  CallsIn Fence.wide n Try.prog 119 #[v,u] w (e2z R σ S w (shF p q)):=by
 refine callB (g0k 119 (f0w Bc122) (by kernel_rfl)) (args:=[.own i 0,.own j 0]) ?_ hl hr (.cons hv (.cons hu (.nil _ _)))
 refine e1r (op:=c1x) (args0:=[.imm TI p,.imm TI q]) (env:=[.l TI p,.l TI q]) ?_ (by kernel_rfl) (o122 p q hp hq)
 show(match y0l (.imm TI 0) (.own i 0) S,t0i [.imm TI 1] [.own j 0] S with|some x,some r=>some (x::r)|_,_=>none)=_
 rw[j0y hi]
 show(match some (SV.imm TI p),(match y0l (.imm TI 1) (.own j 0) S,some ([]:List SV)with|some x,some r=>some (x::r)|_,_=>none)with|some x,some r=>some (x::r)|_,_=>none)=_
 rw[j0y hj]
theorem cUnlike {p q:LN}{i j:Nat}(hp:p.length≤100000)(hq:q.length≤100000)(hi:S.blk i=some (.arr TNd 0 p))(hj:S.blk j=some (.arr TNd 0 q))(hl:S.log=[])(hr:Rel R σ S w){v u:Value}(hv:VRel R σ (.own i 0) v)(hu:VRel R σ (.own j 0) u):
  CallsIn Fence.wide n Try.prog 121 #[v,u] w (e2z R σ S w (unF p q)):=by
 refine callB (g0k 121 (f0w Bc124) (by kernel_rfl)) (args:=[.own i 0,.own j 0]) ?_ hl hr (.cons hv (.cons hu (.nil _ _)))
 refine e1r (op:=e1z) (args0:=[.imm TNd p,.imm TNd q]) (env:=[.l TNd p,.l TNd q]) ?_ (by kernel_rfl) (o124 p q hp hq)
 show(match y0l (.imm TNd 0) (.own i 0) S,t0i [.imm TNd 1] [.own j 0] S with|some x,some r=>some (x::r)|_,_=>none)=_
 rw[j0y hi]
 show(match some (SV.imm TNd p),(match y0l (.imm TNd 1) (.own j 0) S,some ([]:List SV)with|some x,some r=>some (x::r)|_,_=>none)with|some x,some r=>some (x::r)|_,_=>none)=_
 rw[j0y hj]
theorem cWay {p q:LN}{e:Rt}{i j:Nat}(he:lenE e)(hk:f0p b p)(hp:p.length≤100000)(hq:q.length≤100000)(hi:S.blk i=some (.arr TNd 0 p))(hj:S.blk j=some (.arr TNd 0 q))(hl:S.log=[])(hr:Rel R σ S w){v0 v v1 u:Value}
  (h0:VRel R σ (.agg (laS a b c r)) v0) (hv:VRel R σ (.own i 0) v) (h1:VRel R σ (.agg (rtS e)) v1) (hu:VRel R σ (.own j 0) u):
  CallsIn Fence.wide n Try.prog 122 #[v0,v,v1,u] w (e2z R σ S w (wayF b p (trk e) q)):=by
 refine callB (g0k 122 (f0w Bc125) (by kernel_rfl)) (args:=[.agg (laS a b c r),.own i 0,.agg (rtS e),.own j 0]) ?_ hl hr (.cons h0 (.cons hv (.cons h1 (.cons hu (.nil _ _)))))
 refine e1r (op:=b1m) (args0:=[.agg (laS a b c r),.imm TNd p,.agg (rtS e),.imm TNd q])
  (env:=[.l TS a,.l TPt b,.l TPt c,.l TRt r,.l TNd p,.s (eS e),.n (eN e),.l TI (eP e),.l TNd (eQ e),.l TI (eO e),.l TNd (eF e),.l TNd q]) ?_ (by kernel_rfl) (o125 _ _ _ _ _ _ _ _ _ _ _ _ hk hp hq he.1 he.2.1 he.2.2.1 he.2.2.2)
 have e1:y0l (laV 0) (.agg (laS a b c r)) S=some (.agg (laS a b c r)):=by kernel_rfl
 have e2:y0l (rtV 5) (.agg (rtS e)) S=some (.agg (rtS e)):=by kernel_rfl
 simp only[t0i,e1,e2,j0y hi,j0y hj]
end
end
end Go.Proofs.Ytcbhgaeiokfcdaa.Vx
namespace Go.Proofs.Ytcbhgaeiokfcdaa.Vx
open Go Go.RowKit
set_option linter.unusedVariables false
set_option linter.unusedSimpArgs false
set_option maxRecDepth 100000
set_option maxHeartbeats 1000000
attribute [local go_sem] Oper.semAt_some
section
variable {a:LS} {b c:LP} {r:LR} {x y:Rt} {R:RM} {σ:Snap} {w:World}
def CS (W W':World):Prop:= ∀(j:Nat) (o:Obj),W.heap[j]? =some o→o.isCells=true→W'.heap[j]? =some o
theorem CS.refl (W:World):CS W W:=fun _ _ h _=>h
theorem CS.below {W W':World}(h:Below W.heap.size W W'):CS W W':=fun j o e _=>(h.block j (Array.getElem?_eq_some_iff.1 e).1).trans e
theorem CS.trans {A B C:World}(h:CS A B)(k:CS B C):CS A C:=fun j o e ho=>k j o (h j o e ho) ho
theorem load44 {W:World}{j q:Nat}{d:Array Value}{T:TypeId}{f:Nat×Nat}(hj:W.heap[j]? =some (.cells d T f))(hb:q+6≤d.size):(Instr.loadAt 65 (.pointer (some ⟨j,q,none⟩))).run Try.prog W=.ok (.agg (d.extract q (q+6))) W:=by
 have h:(loadVar 65 ⟨j,q,none⟩).run Try.prog W=.ok (.agg (d.extract q (q+6))) W:=by
  unfold loadVar
  simp only[Sem.run_bind,c0n (P:=Try.prog) (T:=65) (a:=true) (by kernel_rfl),Result.andThen_ok]
  simp[c0i (P:=Try.prog) (T:=65) (n:=6) (by kernel_rfl),l0n hj hb]
 simpa [Instr.loadAt,Instr.sureAddr]using h
theorem load27 {W:World}{j q:Nat}{d:Array Value}{T:TypeId}{f:Nat×Nat}(hj:W.heap[j]? =some (.cells d T f))(hb:q+4≤d.size):(Instr.loadAt 27 (.pointer (some ⟨j,q,none⟩))).run Try.prog W=.ok (.agg (d.extract q (q+4))) W:=by
 have h:(loadVar 27 ⟨j,q,none⟩).run Try.prog W=.ok (.agg (d.extract q (q+4))) W:=by
  unfold loadVar
  simp only[Sem.run_bind,c0n (P:=Try.prog) (T:=27) (a:=true) (by kernel_rfl),Result.andThen_ok]
  simp[c0i (P:=Try.prog) (T:=27) (n:=4) (by kernel_rfl),l0n hj hb]
 simpa [Instr.loadAt,Instr.sureAddr]using h
theorem load3 {W:World}{j q:Nat}{d:Array Value}{T:TypeId}{f:Nat×Nat}{v:Value}(hj:W.heap[j]? =some (.cells d T f))(hv:d[q]? =some v):(Instr.loadAt 3 (.pointer (some ⟨j,q,none⟩))).run Try.prog W=.ok v W:=by
 have h:(loadVar 3 ⟨j,q,none⟩).run Try.prog W=.ok v W:=by
  unfold loadVar
  simp only[Sem.run_bind,c0n (P:=Try.prog) (T:=3) (a:=false) (by kernel_rfl),Result.andThen_ok]
  simp only[Bool.false_eq_true,if_false]
  exact e2l hj hv
 simpa [Instr.loadAt,Instr.sureAddr]using h
theorem m1k {S:SW}(hr:Rel R σ S w){k j q:Nat}{es:List SV}(hb:S.blk k=some (.cells es))(hp:VRel R σ (.ptr k 0) (.pointer (some ⟨j,q,none⟩))):
  ∃d T f,w.heap[j]? =some (.cells d T f)∧q+esW es≤d.size∧ERel R σ es (fun i=>d[i]?) q:=by
 generalize hv:(Value.pointer (some ⟨j,q,none⟩))=v at hp
 cases hp with
 |ptr _ _ j' n' h=>
  cases hv
  obtain⟨d,T,f,h1,h2,h3,h4⟩:=hr.cel k es _ _ hb h
  exact⟨d,T,f,h1,h3,h4⟩
theorem agg_of {es:List SV}{d:Array Value}{q n:Nat}(hn:esW es=n)(h:ERel R σ es (fun i=>d[i]?) q)(hs:q+n≤d.size):VRel R σ (.agg es) (.agg (d.extract q (q+n))):=by
 exact VRel.agg_mk h hn (.inr hs)
end
end Go.Proofs.Ytcbhgaeiokfcdaa.Vx
namespace Go.Proofs.Ytcbhgaeiokfcdaa.Vx
open Go Go.RowKit
set_option linter.unusedVariables false
set_option linter.unusedSimpArgs false
set_option maxRecDepth 100000
set_option maxHeartbeats 4000000
attribute [local go_sem] Oper.semAt_some
section
variable {a:LS} {b c:LP} {r:LR} {x y:Rt} {R:RM} {σ:Snap} {w:World}
theorem e0u {T:TypeId}{p v:Value}{W:World}{o:Oper}{A:Act}{z:Operand}(ho:o.op=.load T z)(hz:A.eval z=p)(h:(Instr.loadAt T p).run Try.prog W=.ok v W):(execOp A.eval o).run Try.prog W=.ok (.value v) W:=by
 unfold execOp
 rw[ho]
 show(do pure (.value (←Instr.loadAt T (A.eval z))):Sem Next).run Try.prog W=_
 rw[hz,Sem.run_bind,h]
 rfl
def rsn (b:LP)(x y:Rt):List Bool:=[decide (eN x=eN y),shF (trk x) (trk y),unF (sds (ndsE x)) (sds (ndsE y)),wayF b (sds (ndsE x)) (trk y) (sds (ndsE y)),wayF b (sds (ndsE y)) (trk x) (sds (ndsE x))]
theorem v2x {e:Rt}(h:lenE e):(trk e).length≤100000:=by
 have:(trk e).length=(eP e).length+(eO e).length:=List.length_append
 have h1:=h.1
 have h2:=h.2.2.1
 omega
abbrev pY (l:Nat):Value:=.func (.yield l) #[] #[]
abbrev pP (j n:Nat):Value:=.pointer (some ⟨j,n,none⟩)
abbrev pQ (j n:Nat):Value:=.pointer (some ⟨j,n+1,none⟩)
abbrev gA (d:Array Value)(n:Nat):Value:=.agg (d.extract n (n+6))
abbrev gL (d:Array Value)(n:Nat):Value:=.agg (d.extract n (n+4))
abbrev zE (x y:Rt):Value:=.bool (decide (eN x=eN y))
abbrev zU (x y:Rt):Value:=.bool (unF (sds (ndsE x)) (sds (ndsE y)))
abbrev zS (x y:Rt):Value:=.bool (shF (trk x) (trk y))
theorem r2g {e:Rt}(h:lenE e):(sds (ndsE e)).length≤100000:=by
 have h0:=z2d (ndsE e)
 have:(ndsE e).length=(eQ e).length+(eF e).length:=List.length_append
 have h1:=h.2.1
 have h2:=h.2.2.2
 omega
theorem i3r (n:Nat)(hx:lenE x)(hy:lenE y)(kx:f0p b (sds (ndsE x)))(ky:f0p b (sds (ndsE y)))(hr:Rel R σ (s5 a b c r x y false []) w){jA nA jB nB jL nL:Nat}
  (hA:VRel R σ (.ptr 2 0) (.pointer (some ⟨jA,nA,none⟩))) (hB:VRel R σ (.ptr 3 0) (.pointer (some ⟨jB,nB,none⟩))) (hL:VRel R σ (.ptr 4 0) (.pointer (some ⟨jL,nL,none⟩))):
  SeqStopsK Fence.wide n Try.prog 118 #[.pointer (some ⟨jA,nA,none⟩),.pointer (some ⟨jB,nB,none⟩),.pointer (some ⟨jL,nL,none⟩)] (fun v:Bool=> #[Value.bool v]) KR (fun ys=>ys=rsn b x y) (fun pre=>pre<+:rsn b x y) 5 w:=by
 intro l J Jx W hW hJ hJx hY h0
 have hrW:=hr.later hW.size (fun j hj=>hW.block j hj)
 obtain⟨dA,TA,fA,hA1,hA2,hA3⟩:=m1k hrW (k:=2) (es:=rtS x) rfl hA
 obtain⟨dB,TB,fB,hB1,hB2,hB3⟩:=m1k hrW (k:=3) (es:=rtS y) rfl hB
 obtain⟨dL,TL,fL,hL1,hL2,hL3⟩:=m1k hrW (k:=4) (es:=laS a b c r) rfl hL
 have vA:=agg_of (n:=6) rfl hA3 hA2
 have vB:=agg_of (n:=6) rfl hB3 hB2
 have vL:=agg_of (n:=4) rfl hL3 hL2
 have lA: ∀W',CS W W'→(Instr.loadAt 65 (.pointer (some ⟨jA,nA,none⟩))).run Try.prog W'=.ok (.agg (dA.extract nA (nA+6))) W':=fun W' h=>load44 (h _ _ hA1 rfl) hA2
 have lB: ∀W',CS W W'→(Instr.loadAt 65 (.pointer (some ⟨jB,nB,none⟩))).run Try.prog W'=.ok (.agg (dB.extract nB (nB+6))) W':=fun W' h=>load44 (h _ _ hB1 rfl) hB2
 have lL: ∀W',CS W W'→(Instr.loadAt 27 (.pointer (some ⟨jL,nL,none⟩))).run Try.prog W'=.ok (.agg (dL.extract nL (nL+4))) W':=fun W' h=>load27 (h _ _ hL1 rfl) hL2
 have sA: ∀W',CS W W'→(Instr.loadAt 3 (.pointer (some ⟨jA,nA+1,none⟩))).run Try.prog W'=.ok (.int .i64 (eN x)) W':=fun W' h=>by
  obtain⟨v,h1,h2⟩:=hA3.one 1 (.int .i64 (eN x)) (by simp[rtS,offs,SV.w]) rfl
  cases h2
  exact load3 (h _ _ hA1 rfl) h1
 have sB: ∀W',CS W W'→(Instr.loadAt 3 (.pointer (some ⟨jB,nB+1,none⟩))).run Try.prog W'=.ok (.int .i64 (eN y)) W':=fun W' h=>by
  obtain⟨v,h1,h2⟩:=hB3.one 1 (.int .i64 (eN y)) (by simp[rtS,offs,SV.w]) rfl
  cases h2
  exact load3 (h _ _ hB1 rfl) h1
 have lx:(sds (ndsE x)).length≤100000:=r2g hx
 have ly:(sds (ndsE y)).length≤100000:=r2g hy
 refine callsIn_of_wp Try.func118 rfl trivial ?_ rfl
 simp only[Try.ntmps118,List.size_toArray,List.length_cons,List.length_nil,Nat.reduceAdd,Nat.reduceSub,Array.replicate_succ,Array.replicate_zero,List.push_toArray,List.append_toArray,List.nil_append,List.cons_append]
 refine wpIn_seq (wpIn_seq ?_)
 refine wpIn_region_any (by kernel_rfl) ?_
 obtain⟨W1,hW1⟩: ∃W1:World,W1={W with drawn:=W.drawn+1}:=⟨_,rfl⟩
 rw[←hW1]
 have c1:CS W W1:=by rw[hW1];exact CS.refl W
 have r1:Rel R σ (s5 a b c r x y false []) W1:=by rw[hW1];exact hrW.later (Nat.le_refl _) (fun _ _=>rfl)
 have j1:J [] W1:=by rw[hW1];exact hJ [] W _ none h0 ⟨rfl,rfl,rfl,Nat.le_refl _,fun _ _ _=>rfl⟩ (fun _ h=>by cases h)
 refine b0m (l':= #[false,false,false,false,false,false,false,false,false,false,false,false,false,false,false,false,false,false]) (a':={tmps:= #[pY l,pP jA nA,pP jB nB,pP jL nL,undef,undef,undef,undef,undef,undef,undef,undef,undef,undef,undef,undef,undef,undef,undef,undef,undef,undef,undef,undef,undef,undef,undef,undef,undef,undef,undef,undef,undef,undef,undef,undef,undef,undef,undef,undef,undef,undef,undef,undef,undef,undef,undef,undef,undef,undef,undef,undef],defers:=[]}) (by kernel_rfl) (by kernel_rfl) ?_
 refine wpAnyIn_take (i:=0) (v:=.func (.yield l) #[] #[]) rfl rfl (by kernel_rfl) (by kernel_rfl) (by kernel_rfl) (fun _ _ _ h=>h) ⟨Or.inl ⟨by kernel_rfl,fun w=>by kernel_rfl⟩,fun _=>rfl⟩ ?_
 refine b0m (l':= #[true,false,false,false,false,false,false,false,false,false,false,false,false,false,false,false,false,false]) (a':={tmps:= #[pY l,pP jA nA,pP jB nB,pP jL nL,undef,undef,undef,pY l,undef,undef,undef,undef,undef,undef,undef,undef,undef,undef,undef,undef,undef,undef,undef,undef,undef,undef,undef,undef,undef,undef,undef,undef,undef,undef,undef,undef,undef,undef,undef,undef,undef,undef,undef,undef,undef,undef,undef,undef,undef,undef,undef,undef],defers:=[]}) (by kernel_rfl) (by kernel_rfl) ?_
 refine wpAnyIn_take (i:=1) (v:=.pointer (some ⟨jA,nA+1,none⟩)) rfl rfl (by kernel_rfl) (by kernel_rfl) (by kernel_rfl) (fun _ _ _ h=>h) ⟨Or.inl ⟨by kernel_rfl,fun w=>by kernel_rfl⟩,fun _=>rfl⟩ ?_
 refine b0m (l':= #[true,true,false,false,false,false,false,false,false,false,false,false,false,false,false,false,false,false]) (a':={tmps:= #[pY l,pP jA nA,pP jB nB,pP jL nL,undef,undef,undef,pY l,pQ jA nA,undef,undef,undef,undef,undef,undef,undef,undef,undef,undef,undef,undef,undef,undef,undef,undef,undef,undef,undef,undef,undef,undef,undef,undef,undef,undef,undef,undef,undef,undef,undef,undef,undef,undef,undef,undef,undef,undef,undef,undef,undef,undef,undef],defers:=[]}) (by kernel_rfl) (by kernel_rfl) ?_
 refine wpAnyIn_take (i:=3) (v:=.pointer (some ⟨jB,nB+1,none⟩)) rfl rfl (by kernel_rfl) (by kernel_rfl) (by kernel_rfl) (fun _ _ _ h=>h) ⟨Or.inl ⟨by kernel_rfl,fun w=>by kernel_rfl⟩,fun _=>rfl⟩ ?_
 refine b0m (l':= #[true,true,false,true,false,false,false,false,false,false,false,false,false,false,false,false,false,false]) (a':={tmps:= #[pY l,pP jA nA,pP jB nB,pP jL nL,undef,undef,undef,pY l,pQ jA nA,undef,pQ jB nB,undef,undef,undef,undef,undef,undef,undef,undef,undef,undef,undef,undef,undef,undef,undef,undef,undef,undef,undef,undef,undef,undef,undef,undef,undef,undef,undef,undef,undef,undef,undef,undef,undef,undef,undef,undef,undef,undef,undef,undef,undef],defers:=[]}) (by kernel_rfl) (by kernel_rfl) ?_
 refine any_ll (S:=CS W) (i:=2) (k:=4) (vi:=.int .i64 (eN x)) (vk:=.int .i64 (eN y)) rfl rfl (by kernel_rfl) (by kernel_rfl) (by kernel_rfl)
  ⟨by kernel_rfl,fun W' h=>e0u rfl (by kernel_rfl) (sA W' h)⟩ ⟨by kernel_rfl,fun W' h=>e0u rfl (by kernel_rfl) (sA W' h)⟩ ⟨by kernel_rfl,fun W' h=>e0u rfl (by kernel_rfl) (sB W' h)⟩ ⟨by kernel_rfl,fun W' h=>e0u rfl (by kernel_rfl) (sB W' h)⟩ c1 (by kernel_rfl) (by kernel_rfl) ?_
 refine b0m (l':= #[true,true,true,true,true,false,false,false,false,false,false,false,false,false,false,false,false,false]) (a':={tmps:= #[pY l,pP jA nA,pP jB nB,pP jL nL,undef,undef,undef,pY l,pQ jA nA,.int .i64 (eN x),pQ jB nB,.int .i64 (eN y),undef,undef,undef,undef,undef,undef,undef,undef,undef,undef,undef,undef,undef,undef,undef,undef,undef,undef,undef,undef,undef,undef,undef,undef,undef,undef,undef,undef,undef,undef,undef,undef,undef,undef,undef,undef,undef,undef,undef,undef],defers:=[]}) (by kernel_rfl) (by kernel_rfl) ?_
 refine wpAnyIn_take (i:=5) (v:=.bool (decide (eN x=eN y))) rfl rfl (by kernel_rfl) (by kernel_rfl) (by kernel_rfl) (fun _ _ _ h=>h) ⟨Or.inl ⟨by kernel_rfl,fun w=>by kernel_rfl⟩,fun _=>rfl⟩ ?_
 refine b0m (l':= #[true,true,true,true,true,true,false,false,false,false,false,false,false,false,false,false,false,false]) (a':={tmps:= #[pY l,pP jA nA,pP jB nB,pP jL nL,undef,undef,undef,pY l,pQ jA nA,.int .i64 (eN x),pQ jB nB,.int .i64 (eN y),zE x y,undef,undef,undef,undef,undef,undef,undef,undef,undef,undef,undef,undef,undef,undef,undef,undef,undef,undef,undef,undef,undef,undef,undef,undef,undef,undef,undef,undef,undef,undef,undef,undef,undef,undef,undef,undef,undef,undef,undef],defers:=[]}) (by kernel_rfl) (by kernel_rfl) ?_
 refine wpAnyIn_all (rs:=[6]) (by kernel_rfl) (by simp) (fun q hq=> ?_)
 cases List.mem_singleton.1 hq
 refine r0p rfl (by kernel_rfl) (n0l rfl (by kernel_rfl) (by kernel_rfl)) (hY [] (decide (eN x=eN y)) W1 j1 (by decide)) ?_
 rintro e W2 (⟨rfl,j2,k2⟩|⟨rfl,x2⟩)
 rotate_left
 ·refine⟨_,rfl,?_⟩
  refine b0m (l':= #[true,true,true,true,true,true,true,false,false,false,false,false,false,false,false,false,false,false]) (a':={tmps:= #[pY l,pP jA nA,pP jB nB,pP jL nL,undef,undef,undef,pY l,pQ jA nA,.int .i64 (eN x),pQ jB nB,.int .i64 (eN y),zE x y,.bool false,undef,undef,undef,undef,undef,undef,undef,undef,undef,undef,undef,undef,undef,undef,undef,undef,undef,undef,undef,undef,undef,undef,undef,undef,undef,undef,undef,undef,undef,undef,undef,undef,undef,undef,undef,undef,undef,undef],defers:=[]}) (by kernel_rfl) (by kernel_rfl) ?_
  refine wpAnyIn_take (i:=7) (v:=.bool true) rfl rfl (by kernel_rfl) (by kernel_rfl) (by kernel_rfl) (fun _ _ _ h=>h) ⟨Or.inl ⟨by kernel_rfl,fun w=>by kernel_rfl⟩,fun _=>rfl⟩ ?_
  refine b0m (l':= #[true,true,true,true,true,true,true,true,false,false,false,false,false,false,false,false,false,false]) (a':={tmps:= #[pY l,pP jA nA,pP jB nB,pP jL nL,undef,undef,undef,pY l,pQ jA nA,.int .i64 (eN x),pQ jB nB,.int .i64 (eN y),zE x y,.bool false,.bool true,undef,undef,undef,undef,undef,undef,undef,undef,undef,undef,undef,undef,undef,undef,undef,undef,undef,undef,undef,undef,undef,undef,undef,undef,undef,undef,undef,undef,undef,undef,undef,undef,undef,undef,undef,undef,undef],defers:=[]}) (by kernel_rfl) (by kernel_rfl) ?_
  refine wpAnyIn_take (i:=8) (v:=.bool true) rfl rfl (by kernel_rfl) (by kernel_rfl) (by kernel_rfl) (fun _ _ _ h=>h) ⟨Or.inl ⟨by kernel_rfl,fun w=>by kernel_rfl⟩,fun _=>rfl⟩ ?_
  refine b0m (l':= #[true,true,true,true,true,true,true,true,true,false,false,false,false,false,false,false,false,false]) (a':={tmps:= #[pY l,pP jA nA,pP jB nB,pP jL nL,undef,undef,undef,pY l,pQ jA nA,.int .i64 (eN x),pQ jB nB,.int .i64 (eN y),zE x y,.bool false,.bool true,.bool true,undef,undef,undef,undef,undef,undef,undef,undef,undef,undef,undef,undef,undef,undef,undef,undef,undef,undef,undef,undef,undef,undef,undef,undef,undef,undef,undef,undef,undef,undef,undef,undef,undef,undef,undef,undef],defers:=[]}) (by kernel_rfl) (by kernel_rfl) ?_
  refine wpAnyIn_take (i:=9) (v:=undef) rfl rfl (by kernel_rfl) (by kernel_rfl) (by kernel_rfl) (fun _ _ _ h=>h) ⟨Or.inr ⟨by kernel_rfl,rfl⟩,fun _=>rfl⟩ ?_
  refine b0m (l':= #[true,true,true,true,true,true,true,true,true,true,false,false,false,false,false,false,false,false]) (a':={tmps:= #[pY l,pP jA nA,pP jB nB,pP jL nL,undef,undef,undef,pY l,pQ jA nA,.int .i64 (eN x),pQ jB nB,.int .i64 (eN y),zE x y,.bool false,.bool true,.bool true,undef,undef,undef,undef,undef,undef,undef,undef,undef,undef,undef,undef,undef,undef,undef,undef,undef,undef,undef,undef,undef,undef,undef,undef,undef,undef,undef,undef,undef,undef,undef,undef,undef,undef,undef,undef],defers:=[]}) (by kernel_rfl) (by kernel_rfl) ?_
  refine wpAnyIn_take (i:=10) (v:=undef) rfl rfl (by kernel_rfl) (by kernel_rfl) (by kernel_rfl) (fun _ _ _ h=>h) ⟨Or.inr ⟨by kernel_rfl,rfl⟩,fun _=>rfl⟩ ?_
  refine b0m (l':= #[true,true,true,true,true,true,true,true,true,true,true,false,false,false,false,false,false,false]) (a':={tmps:= #[pY l,pP jA nA,pP jB nB,pP jL nL,undef,undef,undef,pY l,pQ jA nA,.int .i64 (eN x),pQ jB nB,.int .i64 (eN y),zE x y,.bool false,.bool true,.bool true,undef,undef,undef,undef,undef,undef,undef,undef,undef,undef,undef,undef,undef,undef,undef,undef,undef,undef,undef,undef,undef,undef,undef,undef,undef,undef,undef,undef,undef,undef,undef,undef,undef,undef,undef,undef],defers:=[]}) (by kernel_rfl) (by kernel_rfl) ?_
  refine wpAnyIn_take (i:=12) (v:=undef) rfl rfl (by kernel_rfl) (by kernel_rfl) (by kernel_rfl) (fun _ _ _ h=>h) ⟨Or.inr ⟨by kernel_rfl,rfl⟩,fun _=>rfl⟩ ?_
  refine b0m (l':= #[true,true,true,true,true,true,true,true,true,true,true,false,true,false,false,false,false,false]) (a':={tmps:= #[pY l,pP jA nA,pP jB nB,pP jL nL,undef,undef,undef,pY l,pQ jA nA,.int .i64 (eN x),pQ jB nB,.int .i64 (eN y),zE x y,.bool false,.bool true,.bool true,undef,undef,undef,undef,undef,undef,undef,undef,undef,undef,undef,undef,undef,undef,undef,undef,undef,undef,undef,undef,undef,undef,undef,undef,undef,undef,undef,undef,undef,undef,undef,undef,undef,undef,undef,undef],defers:=[]}) (by kernel_rfl) (by kernel_rfl) ?_
  refine wpAnyIn_all (rs:=[11]) (by kernel_rfl) (by simp) (fun q hq=> ?_)
  cases List.mem_singleton.1 hq
  refine f0v rfl (by kernel_rfl) ?_
  refine b0m (l':= #[true,true,true,true,true,true,true,true,true,true,true,true,true,false,false,false,false,false]) (a':={tmps:= #[pY l,pP jA nA,pP jB nB,pP jL nL,undef,undef,undef,pY l,pQ jA nA,.int .i64 (eN x),pQ jB nB,.int .i64 (eN y),zE x y,.bool false,.bool true,.bool true,undef,undef,undef,undef,undef,undef,undef,undef,undef,undef,undef,undef,undef,undef,undef,undef,undef,undef,undef,undef,undef,undef,undef,undef,undef,undef,undef,undef,undef,undef,undef,undef,undef,undef,undef,undef],defers:=[]}) (by kernel_rfl) (by kernel_rfl) ?_
  refine wpAnyIn_all (rs:=[13]) (by kernel_rfl) (by simp) (fun q hq=> ?_)
  cases List.mem_singleton.1 hq
  refine f0v rfl (by kernel_rfl) ?_
  refine b0m (l':= #[true,true,true,true,true,true,true,true,true,true,true,true,true,true,false,false,false,false]) (a':={tmps:= #[pY l,pP jA nA,pP jB nB,pP jL nL,undef,undef,undef,pY l,pQ jA nA,.int .i64 (eN x),pQ jB nB,.int .i64 (eN y),zE x y,.bool false,.bool true,.bool true,undef,undef,undef,undef,undef,undef,undef,undef,undef,undef,undef,undef,undef,undef,undef,undef,undef,undef,undef,undef,undef,undef,undef,undef,undef,undef,undef,undef,undef,undef,undef,undef,undef,undef,undef,undef],defers:=[]}) (by kernel_rfl) (by kernel_rfl) ?_
  refine wpAnyIn_all (rs:=[14]) (by kernel_rfl) (by simp) (fun q hq=> ?_)
  cases List.mem_singleton.1 hq
  refine f0v rfl (by kernel_rfl) ?_
  refine b0m (l':= #[true,true,true,true,true,true,true,true,true,true,true,true,true,true,true,false,false,false]) (a':={tmps:= #[pY l,pP jA nA,pP jB nB,pP jL nL,undef,undef,undef,pY l,pQ jA nA,.int .i64 (eN x),pQ jB nB,.int .i64 (eN y),zE x y,.bool false,.bool true,.bool true,undef,undef,undef,undef,undef,undef,undef,undef,undef,undef,undef,undef,undef,undef,undef,undef,undef,undef,undef,undef,undef,undef,undef,undef,undef,undef,undef,undef,undef,undef,undef,undef,undef,undef,undef,undef],defers:=[]}) (by kernel_rfl) (by kernel_rfl) ?_
  refine wpAnyIn_all (rs:=[15]) (by kernel_rfl) (by simp) (fun q hq=> ?_)
  cases List.mem_singleton.1 hq
  refine f0v rfl (by kernel_rfl) ?_
  refine b0m (l':= #[true,true,true,true,true,true,true,true,true,true,true,true,true,true,true,true,false,false]) (a':={tmps:= #[pY l,pP jA nA,pP jB nB,pP jL nL,undef,undef,undef,pY l,pQ jA nA,.int .i64 (eN x),pQ jB nB,.int .i64 (eN y),zE x y,.bool false,.bool true,.bool true,undef,undef,undef,undef,undef,undef,undef,undef,undef,undef,undef,undef,undef,undef,undef,undef,undef,undef,undef,undef,undef,undef,undef,undef,undef,undef,undef,undef,undef,undef,undef,undef,undef,undef,undef,undef],defers:=[]}) (by kernel_rfl) (by kernel_rfl) ?_
  refine wpAnyIn_take (i:=16) (v:=undef) rfl rfl (by kernel_rfl) (by kernel_rfl) (by kernel_rfl) (fun _ _ _ h=>h) ⟨Or.inr ⟨by kernel_rfl,rfl⟩,fun _=>rfl⟩ ?_
  refine b0m (l':= #[true,true,true,true,true,true,true,true,true,true,true,true,true,true,true,true,true,false]) (a':={tmps:= #[pY l,pP jA nA,pP jB nB,pP jL nL,undef,undef,undef,pY l,pQ jA nA,.int .i64 (eN x),pQ jB nB,.int .i64 (eN y),zE x y,.bool false,.bool true,.bool true,undef,undef,undef,undef,undef,undef,undef,undef,undef,undef,undef,undef,undef,undef,undef,undef,undef,undef,undef,undef,undef,undef,undef,undef,undef,undef,undef,undef,undef,undef,undef,undef,undef,undef,undef,undef],defers:=[]}) (by kernel_rfl) (by kernel_rfl) ?_
  refine wpAnyIn_take (i:=17) (v:=.bool true) rfl rfl (by kernel_rfl) (by kernel_rfl) (by kernel_rfl) (fun _ _ _ h=>h) ⟨Or.inl ⟨by kernel_rfl,fun w=>by kernel_rfl⟩,fun _=>rfl⟩ ?_
  refine b0m (l':= #[true,true,true,true,true,true,true,true,true,true,true,true,true,true,true,true,true,true]) (a':={tmps:= #[pY l,pP jA nA,pP jB nB,pP jL nL,undef,undef,undef,pY l,pQ jA nA,.int .i64 (eN x),pQ jB nB,.int .i64 (eN y),zE x y,.bool false,.bool true,.bool true,undef,undef,undef,undef,undef,undef,undef,undef,.bool true,undef,undef,undef,undef,undef,undef,undef,undef,undef,undef,undef,undef,undef,undef,undef,undef,undef,undef,undef,undef,undef,undef,undef,undef,undef,undef,undef],defers:=[]}) (by kernel_rfl) (by kernel_rfl) ?_
  refine m1c (a':={tmps:= #[pY l,pP jA nA,pP jB nB,pP jL nL,undef,undef,undef,pY l,pQ jA nA,.int .i64 (eN x),pQ jB nB,.int .i64 (eN y),zE x y,.bool false,.bool true,.bool true,undef,undef,undef,undef,undef,undef,undef,undef,.bool true,undef,undef,undef,undef,undef,undef,undef,undef,undef,undef,undef,undef,undef,undef,undef,undef,undef,undef,undef,undef,undef,undef,undef,undef,undef,undef,undef],defers:=[]}) (by kernel_rfl) (by kernel_rfl) ?_
  show Code.wpIn _ _ _ _ _ _ _
  refine wpIn_cond (t:=true) (by kernel_rfl) ?_
  show Code.wpIn _ _ _ Code.ret _ _ _
  refine wpIn_ret ?_
  simp only[Exit.then]
  refine bodyPost_ret (results_none rfl _ _ _) rfl ⟨⟨_,rfl⟩,.inr ⟨_,?_,x2⟩⟩
  exact⟨_,rfl⟩
 refine⟨_,rfl,?_⟩
 have r2:=k2.rel _ _ _ r1
 have c2:CS W W2:=fun j o h ho=>k2.cell j o (c1 j o h ho) ho
 refine b0m (l':= #[true,true,true,true,true,true,true,false,false,false,false,false,false,false,false,false,false,false]) (a':={tmps:= #[pY l,pP jA nA,pP jB nB,pP jL nL,undef,undef,undef,pY l,pQ jA nA,.int .i64 (eN x),pQ jB nB,.int .i64 (eN y),zE x y,.bool true,undef,undef,undef,undef,undef,undef,undef,undef,undef,undef,undef,undef,undef,undef,undef,undef,undef,undef,undef,undef,undef,undef,undef,undef,undef,undef,undef,undef,undef,undef,undef,undef,undef,undef,undef,undef,undef,undef],defers:=[]}) (by kernel_rfl) (by kernel_rfl) ?_
 refine wpAnyIn_take (i:=7) (v:=.bool false) rfl rfl (by kernel_rfl) (by kernel_rfl) (by kernel_rfl) (fun _ _ _ h=>h) ⟨Or.inl ⟨by kernel_rfl,fun w=>by kernel_rfl⟩,fun _=>rfl⟩ ?_
 refine b0m (l':= #[true,true,true,true,true,true,true,true,false,false,false,false,false,false,false,false,false,false]) (a':={tmps:= #[pY l,pP jA nA,pP jB nB,pP jL nL,undef,undef,undef,pY l,pQ jA nA,.int .i64 (eN x),pQ jB nB,.int .i64 (eN y),zE x y,.bool true,.bool false,undef,undef,undef,undef,undef,undef,undef,undef,undef,undef,undef,undef,undef,undef,undef,undef,undef,undef,undef,undef,undef,undef,undef,undef,undef,undef,undef,undef,undef,undef,undef,undef,undef,undef,undef,undef,undef],defers:=[]}) (by kernel_rfl) (by kernel_rfl) ?_
 refine wpAnyIn_take (i:=8) (v:=.bool false) rfl rfl (by kernel_rfl) (by kernel_rfl) (by kernel_rfl) (fun _ _ _ h=>h) ⟨Or.inl ⟨by kernel_rfl,fun w=>by kernel_rfl⟩,fun _=>rfl⟩ ?_
 refine b0m (l':= #[true,true,true,true,true,true,true,true,true,false,false,false,false,false,false,false,false,false]) (a':={tmps:= #[pY l,pP jA nA,pP jB nB,pP jL nL,undef,undef,undef,pY l,pQ jA nA,.int .i64 (eN x),pQ jB nB,.int .i64 (eN y),zE x y,.bool true,.bool false,.bool false,undef,undef,undef,undef,undef,undef,undef,undef,undef,undef,undef,undef,undef,undef,undef,undef,undef,undef,undef,undef,undef,undef,undef,undef,undef,undef,undef,undef,undef,undef,undef,undef,undef,undef,undef,undef],defers:=[]}) (by kernel_rfl) (by kernel_rfl) ?_
 refine wpAnyIn_take (i:=9) (v:=.func (.yield l) #[] #[]) rfl rfl (by kernel_rfl) (by kernel_rfl) (by kernel_rfl) (fun _ _ _ h=>h) ⟨Or.inl ⟨by kernel_rfl,fun w=>by kernel_rfl⟩,fun _=>rfl⟩ ?_
 refine b0m (l':= #[true,true,true,true,true,true,true,true,true,true,false,false,false,false,false,false,false,false]) (a':={tmps:= #[pY l,pP jA nA,pP jB nB,pP jL nL,undef,undef,undef,pY l,pQ jA nA,.int .i64 (eN x),pQ jB nB,.int .i64 (eN y),zE x y,.bool true,.bool false,.bool false,pY l,undef,undef,undef,undef,undef,undef,undef,undef,undef,undef,undef,undef,undef,undef,undef,undef,undef,undef,undef,undef,undef,undef,undef,undef,undef,undef,undef,undef,undef,undef,undef,undef,undef,undef,undef],defers:=[]}) (by kernel_rfl) (by kernel_rfl) ?_
 refine x2u (S:=CS W) (i:=10) (j:=11) (k:=12) (vi:=.agg (dA.extract nA (nA+6))) (vk:=.agg (dB.extract nB (nB+6))) (args':= #[.agg (dA.extract nA (nA+6))]) rfl rfl rfl (by kernel_rfl) (by kernel_rfl) (by kernel_rfl) (by kernel_rfl) (by kernel_rfl)
  ⟨by kernel_rfl,fun W' h=>e0u rfl (by kernel_rfl) (lA W' h)⟩ ⟨by kernel_rfl,fun W' h=>e0u rfl (by kernel_rfl) (lA W' h)⟩ ⟨by kernel_rfl,fun W' h=>e0u rfl (by kernel_rfl) (lB W' h)⟩ ⟨by kernel_rfl,fun W' h=>e0u rfl (by kernel_rfl) (lB W' h)⟩ (fun v=>⟨by kernel_rfl,fun W' h=>e0u rfl (by kernel_rfl) (lB W' h)⟩) c2
  (by kernel_rfl) (by kernel_rfl) (f0j rfl (by kernel_rfl) Try.func29 rfl (by kernel_rfl)) (f0j rfl (by kernel_rfl) Try.func29 rfl (by kernel_rfl)) (by kernel_rfl) (fun v=>by kernel_rfl) (by kernel_rfl) (by kernel_rfl) (CallsIn.mono (cTrack hx rfl r2 vA) ?_)
 rintro e W3 ⟨v3,R3,σ3,rfl,q3,r3,m3,t3,b3⟩
 have c3:=c2.trans (CS.below b3)
 refine⟨v3,rfl,c3,?_⟩
 refine b0m (l':= #[true,true,true,true,true,true,true,true,true,true,true,true,true,false,false,false,false,false]) (a':={tmps:= #[pY l,pP jA nA,pP jB nB,pP jL nL,undef,undef,undef,pY l,pQ jA nA,.int .i64 (eN x),pQ jB nB,.int .i64 (eN y),zE x y,.bool true,.bool false,.bool false,pY l,gA dA nA,v3,gA dB nB,undef,undef,undef,undef,undef,undef,undef,undef,undef,undef,undef,undef,undef,undef,undef,undef,undef,undef,undef,undef,undef,undef,undef,undef,undef,undef,undef,undef,undef,undef,undef,undef],defers:=[]}) (by kernel_rfl) (by kernel_rfl) ?_
 have j3:=hJ _ W2 W3 none j2 (Below.grownBy0 b3) (fun _ h=>by cases h)
 refine wpAnyIn_all (rs:=[13]) (by kernel_rfl) (by simp) (fun q hq=> ?_)
 cases List.mem_singleton.1 hq
 refine(m0x (args':= #[.agg (dB.extract nB (nB+6))]) rfl (by kernel_rfl) (f0j rfl (by kernel_rfl) Try.func29 rfl (by kernel_rfl)) (CallsIn.mono (cTrack hy rfl r3 (vB.mono m3 t3)) ?_))
 rintro e W4 ⟨v4,R4,σ4,rfl,q4,r4,m4,t4,b4⟩
 refine⟨v4,rfl,?_⟩
 refine b0m (l':= #[true,true,true,true,true,true,true,true,true,true,true,true,true,true,false,false,false,false]) (a':={tmps:= #[pY l,pP jA nA,pP jB nB,pP jL nL,undef,undef,undef,pY l,pQ jA nA,.int .i64 (eN x),pQ jB nB,.int .i64 (eN y),zE x y,.bool true,.bool false,.bool false,pY l,gA dA nA,v3,gA dB nB,v4,undef,undef,undef,undef,undef,undef,undef,undef,undef,undef,undef,undef,undef,undef,undef,undef,undef,undef,undef,undef,undef,undef,undef,undef,undef,undef,undef,undef,undef,undef,undef],defers:=[]}) (by kernel_rfl) (by kernel_rfl) ?_
 have c4:=c3.trans (CS.below b4)
 have j4:=hJ _ W3 W4 none j3 (Below.grownBy0 b4) (fun _ h=>by cases h)
 refine wpAnyIn_all (rs:=[14]) (by kernel_rfl) (by simp) (fun q hq=> ?_)
 cases List.mem_singleton.1 hq
 refine(m0x (args':= #[v3,v4]) rfl (by kernel_rfl) (f0j rfl (by kernel_rfl) Try.func119 rfl (by kernel_rfl)) (CallsIn.mono (cShare (i:=5) (j:=6) (v2x hx) (v2x hy) rfl rfl rfl r4 (q3.mono m4 t4) q4) ?_))
 rintro e W5 ⟨rfl,R5,σ5,r5,m5,t5,b5⟩
 refine⟨_,rfl,?_⟩
 refine b0m (l':= #[true,true,true,true,true,true,true,true,true,true,true,true,true,true,true,false,false,false]) (a':={tmps:= #[pY l,pP jA nA,pP jB nB,pP jL nL,undef,undef,undef,pY l,pQ jA nA,.int .i64 (eN x),pQ jB nB,.int .i64 (eN y),zE x y,.bool true,.bool false,.bool false,pY l,gA dA nA,v3,gA dB nB,v4,zS x y,undef,undef,undef,undef,undef,undef,undef,undef,undef,undef,undef,undef,undef,undef,undef,undef,undef,undef,undef,undef,undef,undef,undef,undef,undef,undef,undef,undef,undef,undef],defers:=[]}) (by kernel_rfl) (by kernel_rfl) ?_
 have c5:=c4.trans (CS.below b5)
 have j5:=hJ _ W4 W5 none j4 (Below.grownBy0 b5) (fun _ h=>by cases h)
 refine wpAnyIn_all (rs:=[15]) (by kernel_rfl) (by simp) (fun q hq=> ?_)
 cases List.mem_singleton.1 hq
 refine(r0p rfl (by kernel_rfl) (n0l rfl (by kernel_rfl) (by kernel_rfl)) (hY [decide (eN x=eN y)] (shF (trk x) (trk y)) W5 j5 (by simp)) ?_)
 rintro e W6 (⟨rfl,j6,k6⟩|⟨rfl,x6⟩)
 rotate_left
 ·refine⟨_,rfl,?_⟩
  refine b0m (l':= #[true,true,true,true,true,true,true,true,true,true,true,true,true,true,true,true,false,false]) (a':={tmps:= #[pY l,pP jA nA,pP jB nB,pP jL nL,undef,undef,undef,pY l,pQ jA nA,.int .i64 (eN x),pQ jB nB,.int .i64 (eN y),zE x y,.bool true,.bool false,.bool false,pY l,gA dA nA,v3,gA dB nB,v4,zS x y,.bool false,undef,undef,undef,undef,undef,undef,undef,undef,undef,undef,undef,undef,undef,undef,undef,undef,undef,undef,undef,undef,undef,undef,undef,undef,undef,undef,undef,undef,undef],defers:=[]}) (by kernel_rfl) (by kernel_rfl) ?_
  refine wpAnyIn_take (i:=16) (v:=.bool true) rfl rfl (by kernel_rfl) (by kernel_rfl) (by kernel_rfl) (fun _ _ _ h=>h) ⟨Or.inl ⟨by kernel_rfl,fun w=>by kernel_rfl⟩,fun _=>rfl⟩ ?_
  refine b0m (l':= #[true,true,true,true,true,true,true,true,true,true,true,true,true,true,true,true,true,false]) (a':={tmps:= #[pY l,pP jA nA,pP jB nB,pP jL nL,undef,undef,undef,pY l,pQ jA nA,.int .i64 (eN x),pQ jB nB,.int .i64 (eN y),zE x y,.bool true,.bool false,.bool false,pY l,gA dA nA,v3,gA dB nB,v4,zS x y,.bool false,.bool true,undef,undef,undef,undef,undef,undef,undef,undef,undef,undef,undef,undef,undef,undef,undef,undef,undef,undef,undef,undef,undef,undef,undef,undef,undef,undef,undef,undef],defers:=[]}) (by kernel_rfl) (by kernel_rfl) ?_
  refine wpAnyIn_take (i:=17) (v:=.bool true) rfl rfl (by kernel_rfl) (by kernel_rfl) (by kernel_rfl) (fun _ _ _ h=>h) ⟨Or.inl ⟨by kernel_rfl,fun w=>by kernel_rfl⟩,fun _=>rfl⟩ ?_
  refine b0m (l':= #[true,true,true,true,true,true,true,true,true,true,true,true,true,true,true,true,true,true]) (a':={tmps:= #[pY l,pP jA nA,pP jB nB,pP jL nL,undef,undef,undef,pY l,pQ jA nA,.int .i64 (eN x),pQ jB nB,.int .i64 (eN y),zE x y,.bool true,.bool false,.bool false,pY l,gA dA nA,v3,gA dB nB,v4,zS x y,.bool false,.bool true,.bool true,undef,undef,undef,undef,undef,undef,undef,undef,undef,undef,undef,undef,undef,undef,undef,undef,undef,undef,undef,undef,undef,undef,undef,undef,undef,undef,undef],defers:=[]}) (by kernel_rfl) (by kernel_rfl) ?_
  refine m1c (a':={tmps:= #[pY l,pP jA nA,pP jB nB,pP jL nL,undef,undef,undef,pY l,pQ jA nA,.int .i64 (eN x),pQ jB nB,.int .i64 (eN y),zE x y,.bool true,.bool false,.bool false,pY l,gA dA nA,v3,gA dB nB,v4,zS x y,.bool false,.bool true,.bool true,undef,undef,undef,undef,undef,undef,undef,undef,undef,undef,undef,undef,undef,undef,undef,undef,undef,undef,undef,undef,undef,undef,undef,undef,undef,undef,undef],defers:=[]}) (by kernel_rfl) (by kernel_rfl) ?_
  show Code.wpIn _ _ _ _ _ _ _
  refine wpIn_cond (t:=true) (by kernel_rfl) ?_
  show Code.wpIn _ _ _ Code.ret _ _ _
  refine wpIn_ret ?_
  simp only[Exit.then]
  refine bodyPost_ret (results_none rfl _ _ _) rfl ⟨⟨_,rfl⟩,.inr ⟨_,?_,x6⟩⟩
  exact⟨_,rfl⟩
 refine⟨_,rfl,?_⟩
 have r6:=k6.rel _ _ _ r5
 have c6:CS W W6:=fun j o h ho=>k6.cell j o (c5 j o h ho) ho
 have vA6:=(((vA.mono m3 t3).mono m4 t4).mono m5 t5)
 have vB6:=(((vB.mono m3 t3).mono m4 t4).mono m5 t5)
 have vL6:=(((vL.mono m3 t3).mono m4 t4).mono m5 t5)
 refine b0m (l':= #[true,true,true,true,true,true,true,true,true,true,true,true,true,true,true,true,false,false]) (a':={tmps:= #[pY l,pP jA nA,pP jB nB,pP jL nL,undef,undef,undef,pY l,pQ jA nA,.int .i64 (eN x),pQ jB nB,.int .i64 (eN y),zE x y,.bool true,.bool false,.bool false,pY l,gA dA nA,v3,gA dB nB,v4,zS x y,.bool true,undef,undef,undef,undef,undef,undef,undef,undef,undef,undef,undef,undef,undef,undef,undef,undef,undef,undef,undef,undef,undef,undef,undef,undef,undef,undef,undef,undef,undef],defers:=[]}) (by kernel_rfl) (by kernel_rfl) ?_
 refine wpAnyIn_take (i:=16) (v:=.bool false) rfl rfl (by kernel_rfl) (by kernel_rfl) (by kernel_rfl) (fun _ _ _ h=>h) ⟨Or.inl ⟨by kernel_rfl,fun w=>by kernel_rfl⟩,fun _=>rfl⟩ ?_
 refine b0m (l':= #[true,true,true,true,true,true,true,true,true,true,true,true,true,true,true,true,true,false]) (a':={tmps:= #[pY l,pP jA nA,pP jB nB,pP jL nL,undef,undef,undef,pY l,pQ jA nA,.int .i64 (eN x),pQ jB nB,.int .i64 (eN y),zE x y,.bool true,.bool false,.bool false,pY l,gA dA nA,v3,gA dB nB,v4,zS x y,.bool true,.bool false,undef,undef,undef,undef,undef,undef,undef,undef,undef,undef,undef,undef,undef,undef,undef,undef,undef,undef,undef,undef,undef,undef,undef,undef,undef,undef,undef,undef],defers:=[]}) (by kernel_rfl) (by kernel_rfl) ?_
 refine wpAnyIn_take (i:=17) (v:=.bool false) rfl rfl (by kernel_rfl) (by kernel_rfl) (by kernel_rfl) (fun _ _ _ h=>h) ⟨Or.inl ⟨by kernel_rfl,fun w=>by kernel_rfl⟩,fun _=>rfl⟩ ?_
 refine b0m (l':= #[true,true,true,true,true,true,true,true,true,true,true,true,true,true,true,true,true,true]) (a':={tmps:= #[pY l,pP jA nA,pP jB nB,pP jL nL,undef,undef,undef,pY l,pQ jA nA,.int .i64 (eN x),pQ jB nB,.int .i64 (eN y),zE x y,.bool true,.bool false,.bool false,pY l,gA dA nA,v3,gA dB nB,v4,zS x y,.bool true,.bool false,.bool false,undef,undef,undef,undef,undef,undef,undef,undef,undef,undef,undef,undef,undef,undef,undef,undef,undef,undef,undef,undef,undef,undef,undef,undef,undef,undef,undef],defers:=[]}) (by kernel_rfl) (by kernel_rfl) ?_
 refine m1c (a':={tmps:= #[pY l,pP jA nA,pP jB nB,pP jL nL,undef,undef,undef,pY l,pQ jA nA,.int .i64 (eN x),pQ jB nB,.int .i64 (eN y),zE x y,.bool true,.bool false,.bool false,pY l,gA dA nA,v3,gA dB nB,v4,zS x y,.bool true,.bool false,.bool false,undef,undef,undef,undef,undef,undef,undef,undef,undef,undef,undef,undef,undef,undef,undef,undef,undef,undef,undef,undef,undef,undef,undef,undef,undef,undef,undef],defers:=[]}) (by kernel_rfl) (by kernel_rfl) ?_
 show Code.wpIn _ _ _ _ _ _ _
 refine wpIn_cond (t:=false) (by kernel_rfl) ?_
 show Code.wpIn _ _ _ Code.skip _ _ _
 refine wpIn_skip ?_
 show Code.wpIn _ _ _ _ _ _ _
 refine wpIn_seq ?_
 refine wpIn_region_any (by kernel_rfl) ?_
 obtain⟨W7,hW7⟩: ∃W7:World,W7={W6 with drawn:=W6.drawn+1}:=⟨_,rfl⟩
 rw[←hW7]
 have c7:CS W W7:=by rw[hW7];exact c6
 have r7:Rel R5 σ5 (((s5 a b c r x y false []).push (.arr TI 0 (trk x))).push (.arr TI 0 (trk y))) W7:=by rw[hW7];exact r6.later (Nat.le_refl _) (fun _ _=>rfl)
 have j7:J [decide (eN x=eN y),shF (trk x) (trk y)] W7:=by rw[hW7];exact hJ _ W6 _ none j6 ⟨rfl,rfl,rfl,Nat.le_refl _,fun _ _ _=>rfl⟩ (fun _ h=>by cases h)
 refine b0m (l':= #[false,false,false,false,false,false]) (a':={tmps:= #[pY l,pP jA nA,pP jB nB,pP jL nL,undef,undef,undef,pY l,pQ jA nA,.int .i64 (eN x),pQ jB nB,.int .i64 (eN y),zE x y,.bool true,.bool false,.bool false,pY l,gA dA nA,v3,gA dB nB,v4,zS x y,.bool true,.bool false,.bool false,undef,undef,undef,undef,undef,undef,undef,undef,undef,undef,undef,undef,undef,undef,undef,undef,undef,undef,undef,undef,undef,undef,undef,undef,undef,undef,undef],defers:=[]}) (by kernel_rfl) (by kernel_rfl) ?_
 refine x2u (S:=CS W) (i:=0) (j:=1) (k:=2) (vi:=.agg (dA.extract nA (nA+6))) (vk:=.agg (dB.extract nB (nB+6))) (args':= #[.agg (dA.extract nA (nA+6))]) rfl rfl rfl (by kernel_rfl) (by kernel_rfl) (by kernel_rfl) (by kernel_rfl) (by kernel_rfl)
  ⟨by kernel_rfl,fun W' h=>e0u rfl (by kernel_rfl) (lA W' h)⟩ ⟨by kernel_rfl,fun W' h=>e0u rfl (by kernel_rfl) (lA W' h)⟩ ⟨by kernel_rfl,fun W' h=>e0u rfl (by kernel_rfl) (lB W' h)⟩ ⟨by kernel_rfl,fun W' h=>e0u rfl (by kernel_rfl) (lB W' h)⟩ (fun v=>⟨by kernel_rfl,fun W' h=>e0u rfl (by kernel_rfl) (lB W' h)⟩) c7
  (by kernel_rfl) (by kernel_rfl) (f0j rfl (by kernel_rfl) Try.func120 rfl (by kernel_rfl)) (f0j rfl (by kernel_rfl) Try.func120 rfl (by kernel_rfl)) (by kernel_rfl) (fun v=>by kernel_rfl) (by kernel_rfl) (by kernel_rfl) (CallsIn.mono (cSides hx rfl r7 vA6) ?_)
 rintro e W8 ⟨v7,R7,σ7,rfl,q7,r8,m7,t7,b7⟩
 have c8:=c7.trans (CS.below b7)
 refine⟨v7,rfl,c8,?_⟩
 refine b0m (l':= #[true,true,true,false,false,false]) (a':={tmps:= #[pY l,pP jA nA,pP jB nB,pP jL nL,undef,undef,undef,pY l,pQ jA nA,.int .i64 (eN x),pQ jB nB,.int .i64 (eN y),zE x y,.bool true,.bool false,.bool false,pY l,gA dA nA,v3,gA dB nB,v4,zS x y,.bool true,.bool false,.bool false,gA dA nA,v7,gA dB nB,undef,undef,undef,undef,undef,undef,undef,undef,undef,undef,undef,undef,undef,undef,undef,undef,undef,undef,undef,undef,undef,undef,undef,undef],defers:=[]}) (by kernel_rfl) (by kernel_rfl) ?_
 have j8:=hJ _ W7 W8 none j7 (Below.grownBy0 b7) (fun _ h=>by cases h)
 refine wpAnyIn_all (rs:=[3]) (by kernel_rfl) (by simp) (fun q hq=> ?_)
 cases List.mem_singleton.1 hq
 refine(m0x (args':= #[.agg (dB.extract nB (nB+6))]) rfl (by kernel_rfl) (f0j rfl (by kernel_rfl) Try.func120 rfl (by kernel_rfl)) (CallsIn.mono (cSides hy rfl r8 (vB6.mono m7 t7)) ?_))
 rintro e W9 ⟨v8,R8,σ8,rfl,q8,r9,m8,t8,b8⟩
 refine⟨v8,rfl,?_⟩
 refine b0m (l':= #[true,true,true,true,false,false]) (a':={tmps:= #[pY l,pP jA nA,pP jB nB,pP jL nL,undef,undef,undef,pY l,pQ jA nA,.int .i64 (eN x),pQ jB nB,.int .i64 (eN y),zE x y,.bool true,.bool false,.bool false,pY l,gA dA nA,v3,gA dB nB,v4,zS x y,.bool true,.bool false,.bool false,gA dA nA,v7,gA dB nB,v8,undef,undef,undef,undef,undef,undef,undef,undef,undef,undef,undef,undef,undef,undef,undef,undef,undef,undef,undef,undef,undef,undef,undef],defers:=[]}) (by kernel_rfl) (by kernel_rfl) ?_
 have c9:=c8.trans (CS.below b8)
 have j9:=hJ _ W8 W9 none j8 (Below.grownBy0 b8) (fun _ h=>by cases h)
 refine wpAnyIn_take (i:=4) (v:=v7) rfl rfl (by kernel_rfl) (by kernel_rfl) (by kernel_rfl) (fun _ _ _ h=>h) ⟨Or.inl ⟨by kernel_rfl,fun w=>by kernel_rfl⟩,fun _=>rfl⟩ ?_
 refine b0m (l':= #[true,true,true,true,true,false]) (a':={tmps:= #[pY l,pP jA nA,pP jB nB,pP jL nL,undef,v7,undef,pY l,pQ jA nA,.int .i64 (eN x),pQ jB nB,.int .i64 (eN y),zE x y,.bool true,.bool false,.bool false,pY l,gA dA nA,v3,gA dB nB,v4,zS x y,.bool true,.bool false,.bool false,gA dA nA,v7,gA dB nB,v8,undef,undef,undef,undef,undef,undef,undef,undef,undef,undef,undef,undef,undef,undef,undef,undef,undef,undef,undef,undef,undef,undef,undef],defers:=[]}) (by kernel_rfl) (by kernel_rfl) ?_
 refine wpAnyIn_take (i:=5) (v:=v8) rfl rfl (by kernel_rfl) (by kernel_rfl) (by kernel_rfl) (fun _ _ _ h=>h) ⟨Or.inl ⟨by kernel_rfl,fun w=>by kernel_rfl⟩,fun _=>rfl⟩ ?_
 refine b0m (l':= #[true,true,true,true,true,true]) (a':={tmps:= #[pY l,pP jA nA,pP jB nB,pP jL nL,undef,v7,v8,pY l,pQ jA nA,.int .i64 (eN x),pQ jB nB,.int .i64 (eN y),zE x y,.bool true,.bool false,.bool false,pY l,gA dA nA,v3,gA dB nB,v4,zS x y,.bool true,.bool false,.bool false,gA dA nA,v7,gA dB nB,v8,undef,undef,undef,undef,undef,undef,undef,undef,undef,undef,undef,undef,undef,undef,undef,undef,undef,undef,undef,undef,undef,undef,undef],defers:=[]}) (by kernel_rfl) (by kernel_rfl) ?_
 refine m1c (a':={tmps:= #[pY l,pP jA nA,pP jB nB,pP jL nL,undef,v7,v8,pY l,pQ jA nA,.int .i64 (eN x),pQ jB nB,.int .i64 (eN y),zE x y,.bool true,.bool false,.bool false,pY l,gA dA nA,v3,gA dB nB,v4,zS x y,.bool true,.bool false,.bool false,gA dA nA,v7,gA dB nB,v8,undef,undef,undef,undef,undef,undef,undef,undef,undef,undef,undef,undef,undef,undef,undef,undef,undef,undef,undef,undef,undef,undef,undef],defers:=[]}) (by kernel_rfl) (by kernel_rfl) ?_
 show Code.wpIn _ _ _ _ _ _ _
 refine wpIn_seq (wpIn_seq ?_)
 have vB9:=(vB6.mono m7 t7).mono m8 t8
 have vL9:=(vL6.mono m7 t7).mono m8 t8
 have vA9:=(vA6.mono m7 t7).mono m8 t8
 have q79:=q7.mono m8 t8
 refine a1z (l:=[0,1,2,3,4,5,6,7,8,9,10,11,12,13,14,15]) (by kernel_rfl) ?_
 refine a0w (d0f (v:=.func (.yield l) #[] #[]) rfl (by kernel_rfl) (by kernel_rfl) ?_)
 refine b0k (a':={tmps:= #[pY l,pP jA nA,pP jB nB,pP jL nL,undef,v7,v8,pY l,pQ jA nA,.int .i64 (eN x),pQ jB nB,.int .i64 (eN y),zE x y,.bool true,.bool false,.bool false,pY l,gA dA nA,v3,gA dB nB,v4,zS x y,.bool true,.bool false,.bool false,gA dA nA,v7,gA dB nB,v8,pY l,undef,undef,undef,undef,undef,undef,undef,undef,undef,undef,undef,undef,undef,undef,undef,undef,undef,undef,undef,undef,undef,undef],defers:=[]}) (by kernel_rfl) ?_
 refine a0w (d0f (v:=v7) rfl (by kernel_rfl) (by kernel_rfl) ?_)
 refine b0k (a':={tmps:= #[pY l,pP jA nA,pP jB nB,pP jL nL,undef,v7,v8,pY l,pQ jA nA,.int .i64 (eN x),pQ jB nB,.int .i64 (eN y),zE x y,.bool true,.bool false,.bool false,pY l,gA dA nA,v3,gA dB nB,v4,zS x y,.bool true,.bool false,.bool false,gA dA nA,v7,gA dB nB,v8,pY l,v7,undef,undef,undef,undef,undef,undef,undef,undef,undef,undef,undef,undef,undef,undef,undef,undef,undef,undef,undef,undef,undef],defers:=[]}) (by kernel_rfl) ?_
 refine a0w (d0f (v:=v8) rfl (by kernel_rfl) (by kernel_rfl) ?_)
 refine b0k (a':={tmps:= #[pY l,pP jA nA,pP jB nB,pP jL nL,undef,v7,v8,pY l,pQ jA nA,.int .i64 (eN x),pQ jB nB,.int .i64 (eN y),zE x y,.bool true,.bool false,.bool false,pY l,gA dA nA,v3,gA dB nB,v4,zS x y,.bool true,.bool false,.bool false,gA dA nA,v7,gA dB nB,v8,pY l,v7,v8,undef,undef,undef,undef,undef,undef,undef,undef,undef,undef,undef,undef,undef,undef,undef,undef,undef,undef,undef,undef],defers:=[]}) (by kernel_rfl) ?_
 refine a0w (m0x (args':= #[v7,v8]) rfl (by kernel_rfl) (f0j rfl (by kernel_rfl) Try.func121 rfl (by kernel_rfl)) (CallsIn.mono (cUnlike (i:=7) (j:=8) lx ly rfl rfl rfl r9 q79 q8) ?_))
 rintro e W10 ⟨rfl,R10,σ10,r10,m10,t10,b10⟩
 refine⟨_,rfl,?_⟩
 refine b0k (a':={tmps:= #[pY l,pP jA nA,pP jB nB,pP jL nL,undef,v7,v8,pY l,pQ jA nA,.int .i64 (eN x),pQ jB nB,.int .i64 (eN y),zE x y,.bool true,.bool false,.bool false,pY l,gA dA nA,v3,gA dB nB,v4,zS x y,.bool true,.bool false,.bool false,gA dA nA,v7,gA dB nB,v8,pY l,v7,v8,zU x y,undef,undef,undef,undef,undef,undef,undef,undef,undef,undef,undef,undef,undef,undef,undef,undef,undef,undef,undef],defers:=[]}) (by kernel_rfl) ?_
 have c10:=c9.trans (CS.below b10)
 have j10:=hJ _ W9 W10 none j9 (Below.grownBy0 b10) (fun _ h=>by cases h)
 refine a0w (r0p rfl (by kernel_rfl) (n0l rfl (by kernel_rfl) (by kernel_rfl)) (hY [decide (eN x=eN y),shF (trk x) (trk y)] (unF (sds (ndsE x)) (sds (ndsE y))) W10 j10 (by simp)) ?_)
 rintro e W11 (⟨rfl,j11,k11⟩|⟨rfl,x11⟩)
 rotate_left
 ·refine⟨_,rfl,?_⟩
  refine b0k (a':={tmps:= #[pY l,pP jA nA,pP jB nB,pP jL nL,undef,v7,v8,pY l,pQ jA nA,.int .i64 (eN x),pQ jB nB,.int .i64 (eN y),zE x y,.bool true,.bool false,.bool false,pY l,gA dA nA,v3,gA dB nB,v4,zS x y,.bool true,.bool false,.bool false,gA dA nA,v7,gA dB nB,v8,pY l,v7,v8,zU x y,.bool false,undef,undef,undef,undef,undef,undef,undef,undef,undef,undef,undef,undef,undef,undef,undef,undef,undef,undef],defers:=[]}) (by kernel_rfl) ?_
  refine a0w (d0f (v:=.bool true) rfl (by kernel_rfl) (by kernel_rfl) ?_)
  refine b0k (a':={tmps:= #[pY l,pP jA nA,pP jB nB,pP jL nL,undef,v7,v8,pY l,pQ jA nA,.int .i64 (eN x),pQ jB nB,.int .i64 (eN y),zE x y,.bool true,.bool false,.bool false,pY l,gA dA nA,v3,gA dB nB,v4,zS x y,.bool true,.bool false,.bool false,gA dA nA,v7,gA dB nB,v8,pY l,v7,v8,zU x y,.bool false,.bool true,undef,undef,undef,undef,undef,undef,undef,undef,undef,undef,undef,undef,undef,undef,undef,undef,undef],defers:=[]}) (by kernel_rfl) ?_
  refine a0w (d0f (v:=.bool true) rfl (by kernel_rfl) (by kernel_rfl) ?_)
  refine b0k (a':={tmps:= #[pY l,pP jA nA,pP jB nB,pP jL nL,undef,v7,v8,pY l,pQ jA nA,.int .i64 (eN x),pQ jB nB,.int .i64 (eN y),zE x y,.bool true,.bool false,.bool false,pY l,gA dA nA,v3,gA dB nB,v4,zS x y,.bool true,.bool false,.bool false,gA dA nA,v7,gA dB nB,v8,pY l,v7,v8,zU x y,.bool false,.bool true,.bool true,undef,undef,undef,undef,undef,undef,undef,undef,undef,undef,undef,undef,undef,undef,undef,undef],defers:=[]}) (by kernel_rfl) ?_
  refine a0w (f0v rfl (by kernel_rfl) ?_)
  refine b0k (a':={tmps:= #[pY l,pP jA nA,pP jB nB,pP jL nL,undef,v7,v8,pY l,pQ jA nA,.int .i64 (eN x),pQ jB nB,.int .i64 (eN y),zE x y,.bool true,.bool false,.bool false,pY l,gA dA nA,v3,gA dB nB,v4,zS x y,.bool true,.bool false,.bool false,gA dA nA,v7,gA dB nB,v8,pY l,v7,v8,zU x y,.bool false,.bool true,.bool true,undef,undef,undef,undef,undef,undef,undef,undef,undef,undef,undef,undef,undef,undef,undef,undef],defers:=[]}) (by kernel_rfl) ?_
  refine a0w (f0v rfl (by kernel_rfl) ?_)
  refine b0k (a':={tmps:= #[pY l,pP jA nA,pP jB nB,pP jL nL,undef,v7,v8,pY l,pQ jA nA,.int .i64 (eN x),pQ jB nB,.int .i64 (eN y),zE x y,.bool true,.bool false,.bool false,pY l,gA dA nA,v3,gA dB nB,v4,zS x y,.bool true,.bool false,.bool false,gA dA nA,v7,gA dB nB,v8,pY l,v7,v8,zU x y,.bool false,.bool true,.bool true,undef,undef,undef,undef,undef,undef,undef,undef,undef,undef,undef,undef,undef,undef,undef,undef],defers:=[]}) (by kernel_rfl) ?_
  refine a0w (f0v rfl (by kernel_rfl) ?_)
  refine b0k (a':={tmps:= #[pY l,pP jA nA,pP jB nB,pP jL nL,undef,v7,v8,pY l,pQ jA nA,.int .i64 (eN x),pQ jB nB,.int .i64 (eN y),zE x y,.bool true,.bool false,.bool false,pY l,gA dA nA,v3,gA dB nB,v4,zS x y,.bool true,.bool false,.bool false,gA dA nA,v7,gA dB nB,v8,pY l,v7,v8,zU x y,.bool false,.bool true,.bool true,undef,undef,undef,undef,undef,undef,undef,undef,undef,undef,undef,undef,undef,undef,undef,undef],defers:=[]}) (by kernel_rfl) ?_
  refine a0w (f0v rfl (by kernel_rfl) ?_)
  refine b0k (a':={tmps:= #[pY l,pP jA nA,pP jB nB,pP jL nL,undef,v7,v8,pY l,pQ jA nA,.int .i64 (eN x),pQ jB nB,.int .i64 (eN y),zE x y,.bool true,.bool false,.bool false,pY l,gA dA nA,v3,gA dB nB,v4,zS x y,.bool true,.bool false,.bool false,gA dA nA,v7,gA dB nB,v8,pY l,v7,v8,zU x y,.bool false,.bool true,.bool true,undef,undef,undef,undef,undef,undef,undef,undef,undef,undef,undef,undef,undef,undef,undef,undef],defers:=[]}) (by kernel_rfl) ?_
  refine a0w (f0v rfl (by kernel_rfl) ?_)
  refine b0k (a':={tmps:= #[pY l,pP jA nA,pP jB nB,pP jL nL,undef,v7,v8,pY l,pQ jA nA,.int .i64 (eN x),pQ jB nB,.int .i64 (eN y),zE x y,.bool true,.bool false,.bool false,pY l,gA dA nA,v3,gA dB nB,v4,zS x y,.bool true,.bool false,.bool false,gA dA nA,v7,gA dB nB,v8,pY l,v7,v8,zU x y,.bool false,.bool true,.bool true,undef,undef,undef,undef,undef,undef,undef,undef,undef,undef,undef,undef,undef,undef,undef,undef],defers:=[]}) (by kernel_rfl) ?_
  refine a0w (f0v rfl (by kernel_rfl) ?_)
  refine b0k (a':={tmps:= #[pY l,pP jA nA,pP jB nB,pP jL nL,undef,v7,v8,pY l,pQ jA nA,.int .i64 (eN x),pQ jB nB,.int .i64 (eN y),zE x y,.bool true,.bool false,.bool false,pY l,gA dA nA,v3,gA dB nB,v4,zS x y,.bool true,.bool false,.bool false,gA dA nA,v7,gA dB nB,v8,pY l,v7,v8,zU x y,.bool false,.bool true,.bool true,undef,undef,undef,undef,undef,undef,undef,undef,undef,undef,undef,undef,undef,undef,undef,undef],defers:=[]}) (by kernel_rfl) ?_
  refine a0w (f0v rfl (by kernel_rfl) ?_)
  refine b0k (a':={tmps:= #[pY l,pP jA nA,pP jB nB,pP jL nL,undef,v7,v8,pY l,pQ jA nA,.int .i64 (eN x),pQ jB nB,.int .i64 (eN y),zE x y,.bool true,.bool false,.bool false,pY l,gA dA nA,v3,gA dB nB,v4,zS x y,.bool true,.bool false,.bool false,gA dA nA,v7,gA dB nB,v8,pY l,v7,v8,zU x y,.bool false,.bool true,.bool true,undef,undef,undef,undef,undef,undef,undef,undef,undef,undef,undef,undef,undef,undef,undef,undef],defers:=[]}) (by kernel_rfl) ?_
  refine a0w (f0v rfl (by kernel_rfl) ?_)
  refine b0k (a':={tmps:= #[pY l,pP jA nA,pP jB nB,pP jL nL,undef,v7,v8,pY l,pQ jA nA,.int .i64 (eN x),pQ jB nB,.int .i64 (eN y),zE x y,.bool true,.bool false,.bool false,pY l,gA dA nA,v3,gA dB nB,v4,zS x y,.bool true,.bool false,.bool false,gA dA nA,v7,gA dB nB,v8,pY l,v7,v8,zU x y,.bool false,.bool true,.bool true,undef,undef,undef,undef,undef,undef,undef,undef,undef,undef,undef,undef,undef,undef,undef,undef],defers:=[]}) (by kernel_rfl) ?_
  refine a0w (d0f (v:=.bool true) rfl (by kernel_rfl) (by kernel_rfl) ?_)
  refine b0k (a':={tmps:= #[pY l,pP jA nA,pP jB nB,pP jL nL,undef,v7,v8,pY l,pQ jA nA,.int .i64 (eN x),pQ jB nB,.int .i64 (eN y),zE x y,.bool true,.bool false,.bool false,pY l,gA dA nA,v3,gA dB nB,v4,zS x y,.bool true,.bool false,.bool false,gA dA nA,v7,gA dB nB,v8,pY l,v7,v8,zU x y,.bool false,.bool true,.bool true,undef,undef,undef,undef,undef,undef,undef,undef,.bool true,undef,undef,undef,undef,undef,undef,undef],defers:=[]}) (by kernel_rfl) ?_
  refine c1c (a':={tmps:= #[pY l,pP jA nA,pP jB nB,pP jL nL,undef,v7,v8,pY l,pQ jA nA,.int .i64 (eN x),pQ jB nB,.int .i64 (eN y),zE x y,.bool true,.bool false,.bool false,pY l,gA dA nA,v3,gA dB nB,v4,zS x y,.bool true,.bool false,.bool false,gA dA nA,v7,gA dB nB,v8,pY l,v7,v8,zU x y,.bool false,.bool true,.bool true,undef,undef,undef,undef,undef,undef,undef,undef,.bool true,undef,undef,undef,undef,undef,undef,undef],defers:=[]}) (by kernel_rfl) ?_
  show Code.wpIn _ _ _ _ _ _ _
  refine wpIn_cond (t:=true) (by kernel_rfl) ?_
  show Code.wpIn _ _ _ Code.ret _ _ _
  refine wpIn_ret ?_
  simp only[Exit.then]
  refine bodyPost_ret (results_none rfl _ _ _) rfl ⟨⟨_,rfl⟩,.inr ⟨_,?_,x11⟩⟩
  exact⟨_,rfl⟩
 refine⟨_,rfl,?_⟩
 have r11:=k11.rel _ _ _ r10
 have c11:CS W W11:=fun j o h ho=>k11.cell j o (c10 j o h ho) ho
 refine b0k (a':={tmps:= #[pY l,pP jA nA,pP jB nB,pP jL nL,undef,v7,v8,pY l,pQ jA nA,.int .i64 (eN x),pQ jB nB,.int .i64 (eN y),zE x y,.bool true,.bool false,.bool false,pY l,gA dA nA,v3,gA dB nB,v4,zS x y,.bool true,.bool false,.bool false,gA dA nA,v7,gA dB nB,v8,pY l,v7,v8,zU x y,.bool true,undef,undef,undef,undef,undef,undef,undef,undef,undef,undef,undef,undef,undef,undef,undef,undef,undef,undef],defers:=[]}) (by kernel_rfl) ?_
 refine a0w (d0f (v:=.bool false) rfl (by kernel_rfl) (by kernel_rfl) ?_)
 refine b0k (a':={tmps:= #[pY l,pP jA nA,pP jB nB,pP jL nL,undef,v7,v8,pY l,pQ jA nA,.int .i64 (eN x),pQ jB nB,.int .i64 (eN y),zE x y,.bool true,.bool false,.bool false,pY l,gA dA nA,v3,gA dB nB,v4,zS x y,.bool true,.bool false,.bool false,gA dA nA,v7,gA dB nB,v8,pY l,v7,v8,zU x y,.bool true,.bool false,undef,undef,undef,undef,undef,undef,undef,undef,undef,undef,undef,undef,undef,undef,undef,undef,undef],defers:=[]}) (by kernel_rfl) ?_
 refine a0w (d0f (v:=.bool false) rfl (by kernel_rfl) (by kernel_rfl) ?_)
 refine b0k (a':={tmps:= #[pY l,pP jA nA,pP jB nB,pP jL nL,undef,v7,v8,pY l,pQ jA nA,.int .i64 (eN x),pQ jB nB,.int .i64 (eN y),zE x y,.bool true,.bool false,.bool false,pY l,gA dA nA,v3,gA dB nB,v4,zS x y,.bool true,.bool false,.bool false,gA dA nA,v7,gA dB nB,v8,pY l,v7,v8,zU x y,.bool true,.bool false,.bool false,undef,undef,undef,undef,undef,undef,undef,undef,undef,undef,undef,undef,undef,undef,undef,undef],defers:=[]}) (by kernel_rfl) ?_
 refine a0w (d0f (v:=.func (.yield l) #[] #[]) rfl (by kernel_rfl) (by kernel_rfl) ?_)
 refine b0k (a':={tmps:= #[pY l,pP jA nA,pP jB nB,pP jL nL,undef,v7,v8,pY l,pQ jA nA,.int .i64 (eN x),pQ jB nB,.int .i64 (eN y),zE x y,.bool true,.bool false,.bool false,pY l,gA dA nA,v3,gA dB nB,v4,zS x y,.bool true,.bool false,.bool false,gA dA nA,v7,gA dB nB,v8,pY l,v7,v8,zU x y,.bool true,.bool false,.bool false,pY l,undef,undef,undef,undef,undef,undef,undef,undef,undef,undef,undef,undef,undef,undef,undef],defers:=[]}) (by kernel_rfl) ?_
 refine a0w (d0f (v:=.agg (dL.extract nL (nL+4))) rfl (by kernel_rfl) (e0u rfl (by kernel_rfl) (lL W11 c11)) ?_)
 refine b0k (a':={tmps:= #[pY l,pP jA nA,pP jB nB,pP jL nL,undef,v7,v8,pY l,pQ jA nA,.int .i64 (eN x),pQ jB nB,.int .i64 (eN y),zE x y,.bool true,.bool false,.bool false,pY l,gA dA nA,v3,gA dB nB,v4,zS x y,.bool true,.bool false,.bool false,gA dA nA,v7,gA dB nB,v8,pY l,v7,v8,zU x y,.bool true,.bool false,.bool false,pY l,gL dL nL,undef,undef,undef,undef,undef,undef,undef,undef,undef,undef,undef,undef,undef,undef],defers:=[]}) (by kernel_rfl) ?_
 refine a0w (d0f (v:=v7) rfl (by kernel_rfl) (by kernel_rfl) ?_)
 refine b0k (a':={tmps:= #[pY l,pP jA nA,pP jB nB,pP jL nL,undef,v7,v8,pY l,pQ jA nA,.int .i64 (eN x),pQ jB nB,.int .i64 (eN y),zE x y,.bool true,.bool false,.bool false,pY l,gA dA nA,v3,gA dB nB,v4,zS x y,.bool true,.bool false,.bool false,gA dA nA,v7,gA dB nB,v8,pY l,v7,v8,zU x y,.bool true,.bool false,.bool false,pY l,gL dL nL,v7,undef,undef,undef,undef,undef,undef,undef,undef,undef,undef,undef,undef,undef],defers:=[]}) (by kernel_rfl) ?_
 refine a0w (d0f (v:=.agg (dB.extract nB (nB+6))) rfl (by kernel_rfl) (e0u rfl (by kernel_rfl) (lB W11 c11)) ?_)
 refine b0k (a':={tmps:= #[pY l,pP jA nA,pP jB nB,pP jL nL,undef,v7,v8,pY l,pQ jA nA,.int .i64 (eN x),pQ jB nB,.int .i64 (eN y),zE x y,.bool true,.bool false,.bool false,pY l,gA dA nA,v3,gA dB nB,v4,zS x y,.bool true,.bool false,.bool false,gA dA nA,v7,gA dB nB,v8,pY l,v7,v8,zU x y,.bool true,.bool false,.bool false,pY l,gL dL nL,v7,gA dB nB,undef,undef,undef,undef,undef,undef,undef,undef,undef,undef,undef,undef],defers:=[]}) (by kernel_rfl) ?_
 refine a0w (d0f (v:=v8) rfl (by kernel_rfl) (by kernel_rfl) ?_)
 refine b0k (a':={tmps:= #[pY l,pP jA nA,pP jB nB,pP jL nL,undef,v7,v8,pY l,pQ jA nA,.int .i64 (eN x),pQ jB nB,.int .i64 (eN y),zE x y,.bool true,.bool false,.bool false,pY l,gA dA nA,v3,gA dB nB,v4,zS x y,.bool true,.bool false,.bool false,gA dA nA,v7,gA dB nB,v8,pY l,v7,v8,zU x y,.bool true,.bool false,.bool false,pY l,gL dL nL,v7,gA dB nB,v8,undef,undef,undef,undef,undef,undef,undef,undef,undef,undef,undef],defers:=[]}) (by kernel_rfl) ?_
 refine a0w (m0x (args':= #[.agg (dL.extract nL (nL+4)),v7,.agg (dB.extract nB (nB+6)),v8]) rfl (by kernel_rfl) (f0j rfl (by kernel_rfl) Try.func122 rfl (by kernel_rfl)) (CallsIn.mono (cWay (i:=7) (j:=8) hy kx lx ly rfl rfl rfl r11 (vL9.mono m10 t10) (q79.mono m10 t10) (vB9.mono m10 t10) (q8.mono m10 t10)) ?_))
 rintro e W12 ⟨rfl,R12,σ12,r12,m12,t12,b12⟩
 refine⟨_,rfl,?_⟩
 refine b0k (a':={tmps:= #[pY l,pP jA nA,pP jB nB,pP jL nL,undef,v7,v8,pY l,pQ jA nA,.int .i64 (eN x),pQ jB nB,.int .i64 (eN y),zE x y,.bool true,.bool false,.bool false,pY l,gA dA nA,v3,gA dB nB,v4,zS x y,.bool true,.bool false,.bool false,gA dA nA,v7,gA dB nB,v8,pY l,v7,v8,zU x y,.bool true,.bool false,.bool false,pY l,gL dL nL,v7,gA dB nB,v8,.bool (wayF b (sds (ndsE x)) (trk y) (sds (ndsE y))),undef,undef,undef,undef,undef,undef,undef,undef,undef,undef],defers:=[]}) (by kernel_rfl) ?_
 have c12:=c11.trans (CS.below b12)
 have j12:=hJ _ W11 W12 none j11 (Below.grownBy0 b12) (fun _ h=>by cases h)
 refine a0w (r0p rfl (by kernel_rfl) (n0l rfl (by kernel_rfl) (by kernel_rfl)) (hY [decide (eN x=eN y),shF (trk x) (trk y),unF (sds (ndsE x)) (sds (ndsE y))] (wayF b (sds (ndsE x)) (trk y) (sds (ndsE y))) W12 j12 (by simp)) ?_)
 rintro e W13 (⟨rfl,j13,k13⟩|⟨rfl,x13⟩)
 rotate_left
 ·refine⟨_,rfl,?_⟩
  refine b0k (a':={tmps:= #[pY l,pP jA nA,pP jB nB,pP jL nL,undef,v7,v8,pY l,pQ jA nA,.int .i64 (eN x),pQ jB nB,.int .i64 (eN y),zE x y,.bool true,.bool false,.bool false,pY l,gA dA nA,v3,gA dB nB,v4,zS x y,.bool true,.bool false,.bool false,gA dA nA,v7,gA dB nB,v8,pY l,v7,v8,zU x y,.bool true,.bool false,.bool false,pY l,gL dL nL,v7,gA dB nB,v8,.bool (wayF b (sds (ndsE x)) (trk y) (sds (ndsE y))),.bool false,undef,undef,undef,undef,undef,undef,undef,undef,undef],defers:=[]}) (by kernel_rfl) ?_
  refine a0w (d0f (v:=.bool true) rfl (by kernel_rfl) (by kernel_rfl) ?_)
  refine b0k (a':={tmps:= #[pY l,pP jA nA,pP jB nB,pP jL nL,undef,v7,v8,pY l,pQ jA nA,.int .i64 (eN x),pQ jB nB,.int .i64 (eN y),zE x y,.bool true,.bool false,.bool false,pY l,gA dA nA,v3,gA dB nB,v4,zS x y,.bool true,.bool false,.bool false,gA dA nA,v7,gA dB nB,v8,pY l,v7,v8,zU x y,.bool true,.bool false,.bool false,pY l,gL dL nL,v7,gA dB nB,v8,.bool (wayF b (sds (ndsE x)) (trk y) (sds (ndsE y))),.bool false,.bool true,undef,undef,undef,undef,undef,undef,undef,undef],defers:=[]}) (by kernel_rfl) ?_
  refine a0w (d0f (v:=.bool true) rfl (by kernel_rfl) (by kernel_rfl) ?_)
  refine b0k (a':={tmps:= #[pY l,pP jA nA,pP jB nB,pP jL nL,undef,v7,v8,pY l,pQ jA nA,.int .i64 (eN x),pQ jB nB,.int .i64 (eN y),zE x y,.bool true,.bool false,.bool false,pY l,gA dA nA,v3,gA dB nB,v4,zS x y,.bool true,.bool false,.bool false,gA dA nA,v7,gA dB nB,v8,pY l,v7,v8,zU x y,.bool true,.bool false,.bool false,pY l,gL dL nL,v7,gA dB nB,v8,.bool (wayF b (sds (ndsE x)) (trk y) (sds (ndsE y))),.bool false,.bool true,.bool true,undef,undef,undef,undef,undef,undef,undef],defers:=[]}) (by kernel_rfl) ?_
  refine c1c (a':={tmps:= #[pY l,pP jA nA,pP jB nB,pP jL nL,undef,v7,v8,pY l,pQ jA nA,.int .i64 (eN x),pQ jB nB,.int .i64 (eN y),zE x y,.bool true,.bool false,.bool false,pY l,gA dA nA,v3,gA dB nB,v4,zS x y,.bool true,.bool false,.bool false,gA dA nA,v7,gA dB nB,v8,pY l,v7,v8,zU x y,.bool true,.bool false,.bool false,pY l,gL dL nL,v7,gA dB nB,v8,.bool (wayF b (sds (ndsE x)) (trk y) (sds (ndsE y))),.bool false,.bool true,.bool true,undef,undef,undef,undef,undef,undef,undef],defers:=[]}) (by kernel_rfl) ?_
  show Code.wpIn _ _ _ _ _ _ _
  refine wpIn_cond (t:=true) (by kernel_rfl) ?_
  show Code.wpIn _ _ _ Code.ret _ _ _
  refine wpIn_ret ?_
  simp only[Exit.then]
  refine bodyPost_ret (results_none rfl _ _ _) rfl ⟨⟨_,rfl⟩,.inr ⟨_,?_,x13⟩⟩
  exact⟨_,rfl⟩
 refine⟨_,rfl,?_⟩
 have r13:=k13.rel _ _ _ r12
 have c13:CS W W13:=fun j o h ho=>k13.cell j o (c12 j o h ho) ho
 refine b0k (a':={tmps:= #[pY l,pP jA nA,pP jB nB,pP jL nL,undef,v7,v8,pY l,pQ jA nA,.int .i64 (eN x),pQ jB nB,.int .i64 (eN y),zE x y,.bool true,.bool false,.bool false,pY l,gA dA nA,v3,gA dB nB,v4,zS x y,.bool true,.bool false,.bool false,gA dA nA,v7,gA dB nB,v8,pY l,v7,v8,zU x y,.bool true,.bool false,.bool false,pY l,gL dL nL,v7,gA dB nB,v8,.bool (wayF b (sds (ndsE x)) (trk y) (sds (ndsE y))),.bool true,undef,undef,undef,undef,undef,undef,undef,undef,undef],defers:=[]}) (by kernel_rfl) ?_
 refine a0w (d0f (v:=.bool false) rfl (by kernel_rfl) (by kernel_rfl) ?_)
 refine b0k (a':={tmps:= #[pY l,pP jA nA,pP jB nB,pP jL nL,undef,v7,v8,pY l,pQ jA nA,.int .i64 (eN x),pQ jB nB,.int .i64 (eN y),zE x y,.bool true,.bool false,.bool false,pY l,gA dA nA,v3,gA dB nB,v4,zS x y,.bool true,.bool false,.bool false,gA dA nA,v7,gA dB nB,v8,pY l,v7,v8,zU x y,.bool true,.bool false,.bool false,pY l,gL dL nL,v7,gA dB nB,v8,.bool (wayF b (sds (ndsE x)) (trk y) (sds (ndsE y))),.bool true,.bool false,undef,undef,undef,undef,undef,undef,undef,undef],defers:=[]}) (by kernel_rfl) ?_
 refine a0w (d0f (v:=.bool false) rfl (by kernel_rfl) (by kernel_rfl) ?_)
 refine b0k (a':={tmps:= #[pY l,pP jA nA,pP jB nB,pP jL nL,undef,v7,v8,pY l,pQ jA nA,.int .i64 (eN x),pQ jB nB,.int .i64 (eN y),zE x y,.bool true,.bool false,.bool false,pY l,gA dA nA,v3,gA dB nB,v4,zS x y,.bool true,.bool false,.bool false,gA dA nA,v7,gA dB nB,v8,pY l,v7,v8,zU x y,.bool true,.bool false,.bool false,pY l,gL dL nL,v7,gA dB nB,v8,.bool (wayF b (sds (ndsE x)) (trk y) (sds (ndsE y))),.bool true,.bool false,.bool false,undef,undef,undef,undef,undef,undef,undef],defers:=[]}) (by kernel_rfl) ?_
 refine c1c (a':={tmps:= #[pY l,pP jA nA,pP jB nB,pP jL nL,undef,v7,v8,pY l,pQ jA nA,.int .i64 (eN x),pQ jB nB,.int .i64 (eN y),zE x y,.bool true,.bool false,.bool false,pY l,gA dA nA,v3,gA dB nB,v4,zS x y,.bool true,.bool false,.bool false,gA dA nA,v7,gA dB nB,v8,pY l,v7,v8,zU x y,.bool true,.bool false,.bool false,pY l,gL dL nL,v7,gA dB nB,v8,.bool (wayF b (sds (ndsE x)) (trk y) (sds (ndsE y))),.bool true,.bool false,.bool false,undef,undef,undef,undef,undef,undef,undef],defers:=[]}) (by kernel_rfl) ?_
 show Code.wpIn _ _ _ _ _ _ _
 refine wpIn_cond (t:=false) (by kernel_rfl) ?_
 show Code.wpIn _ _ _ Code.skip _ _ _
 refine wpIn_skip ?_
 show Code.wpIn _ _ _ _ _ _ _
 refine a1z (l:=[0,1,2,3,4,5,6]) (by kernel_rfl) ?_
 refine a0w (d0f (v:=.func (.yield l) #[] #[]) rfl (by kernel_rfl) (by kernel_rfl) ?_)
 refine b0k (a':={tmps:= #[pY l,pP jA nA,pP jB nB,pP jL nL,undef,v7,v8,pY l,pQ jA nA,.int .i64 (eN x),pQ jB nB,.int .i64 (eN y),zE x y,.bool true,.bool false,.bool false,pY l,gA dA nA,v3,gA dB nB,v4,zS x y,.bool true,.bool false,.bool false,gA dA nA,v7,gA dB nB,v8,pY l,v7,v8,zU x y,.bool true,.bool false,.bool false,pY l,gL dL nL,v7,gA dB nB,v8,.bool (wayF b (sds (ndsE x)) (trk y) (sds (ndsE y))),.bool true,.bool false,.bool false,pY l,undef,undef,undef,undef,undef,undef],defers:=[]}) (by kernel_rfl) ?_
 refine a0w (d0f (v:=.agg (dL.extract nL (nL+4))) rfl (by kernel_rfl) (e0u rfl (by kernel_rfl) (lL W13 c13)) ?_)
 refine b0k (a':={tmps:= #[pY l,pP jA nA,pP jB nB,pP jL nL,undef,v7,v8,pY l,pQ jA nA,.int .i64 (eN x),pQ jB nB,.int .i64 (eN y),zE x y,.bool true,.bool false,.bool false,pY l,gA dA nA,v3,gA dB nB,v4,zS x y,.bool true,.bool false,.bool false,gA dA nA,v7,gA dB nB,v8,pY l,v7,v8,zU x y,.bool true,.bool false,.bool false,pY l,gL dL nL,v7,gA dB nB,v8,.bool (wayF b (sds (ndsE x)) (trk y) (sds (ndsE y))),.bool true,.bool false,.bool false,pY l,gL dL nL,undef,undef,undef,undef,undef],defers:=[]}) (by kernel_rfl) ?_
 refine a0w (d0f (v:=v8) rfl (by kernel_rfl) (by kernel_rfl) ?_)
 refine b0k (a':={tmps:= #[pY l,pP jA nA,pP jB nB,pP jL nL,undef,v7,v8,pY l,pQ jA nA,.int .i64 (eN x),pQ jB nB,.int .i64 (eN y),zE x y,.bool true,.bool false,.bool false,pY l,gA dA nA,v3,gA dB nB,v4,zS x y,.bool true,.bool false,.bool false,gA dA nA,v7,gA dB nB,v8,pY l,v7,v8,zU x y,.bool true,.bool false,.bool false,pY l,gL dL nL,v7,gA dB nB,v8,.bool (wayF b (sds (ndsE x)) (trk y) (sds (ndsE y))),.bool true,.bool false,.bool false,pY l,gL dL nL,v8,undef,undef,undef,undef],defers:=[]}) (by kernel_rfl) ?_
 refine a0w (d0f (v:=.agg (dA.extract nA (nA+6))) rfl (by kernel_rfl) (e0u rfl (by kernel_rfl) (lA W13 c13)) ?_)
 refine b0k (a':={tmps:= #[pY l,pP jA nA,pP jB nB,pP jL nL,undef,v7,v8,pY l,pQ jA nA,.int .i64 (eN x),pQ jB nB,.int .i64 (eN y),zE x y,.bool true,.bool false,.bool false,pY l,gA dA nA,v3,gA dB nB,v4,zS x y,.bool true,.bool false,.bool false,gA dA nA,v7,gA dB nB,v8,pY l,v7,v8,zU x y,.bool true,.bool false,.bool false,pY l,gL dL nL,v7,gA dB nB,v8,.bool (wayF b (sds (ndsE x)) (trk y) (sds (ndsE y))),.bool true,.bool false,.bool false,pY l,gL dL nL,v8,gA dA nA,undef,undef,undef],defers:=[]}) (by kernel_rfl) ?_
 refine a0w (d0f (v:=v7) rfl (by kernel_rfl) (by kernel_rfl) ?_)
 refine b0k (a':={tmps:= #[pY l,pP jA nA,pP jB nB,pP jL nL,undef,v7,v8,pY l,pQ jA nA,.int .i64 (eN x),pQ jB nB,.int .i64 (eN y),zE x y,.bool true,.bool false,.bool false,pY l,gA dA nA,v3,gA dB nB,v4,zS x y,.bool true,.bool false,.bool false,gA dA nA,v7,gA dB nB,v8,pY l,v7,v8,zU x y,.bool true,.bool false,.bool false,pY l,gL dL nL,v7,gA dB nB,v8,.bool (wayF b (sds (ndsE x)) (trk y) (sds (ndsE y))),.bool true,.bool false,.bool false,pY l,gL dL nL,v8,gA dA nA,v7,undef,undef],defers:=[]}) (by kernel_rfl) ?_
 refine a0w (m0x (args':= #[.agg (dL.extract nL (nL+4)),v8,.agg (dA.extract nA (nA+6)),v7]) rfl (by kernel_rfl) (f0j rfl (by kernel_rfl) Try.func122 rfl (by kernel_rfl)) (CallsIn.mono (cWay (i:=8) (j:=7) hx ky ly lx rfl rfl rfl r13 ((vL9.mono m10 t10).mono m12 t12) ((q8.mono m10 t10).mono m12 t12) ((vA9.mono m10 t10).mono m12 t12) ((q79.mono m10 t10).mono m12 t12)) ?_))
 rintro e W14 ⟨rfl,R14,σ14,r14,m14,t14,b14⟩
 refine⟨_,rfl,?_⟩
 refine b0k (a':={tmps:= #[pY l,pP jA nA,pP jB nB,pP jL nL,undef,v7,v8,pY l,pQ jA nA,.int .i64 (eN x),pQ jB nB,.int .i64 (eN y),zE x y,.bool true,.bool false,.bool false,pY l,gA dA nA,v3,gA dB nB,v4,zS x y,.bool true,.bool false,.bool false,gA dA nA,v7,gA dB nB,v8,pY l,v7,v8,zU x y,.bool true,.bool false,.bool false,pY l,gL dL nL,v7,gA dB nB,v8,.bool (wayF b (sds (ndsE x)) (trk y) (sds (ndsE y))),.bool true,.bool false,.bool false,pY l,gL dL nL,v8,gA dA nA,v7,.bool (wayF b (sds (ndsE y)) (trk x) (sds (ndsE x))),undef],defers:=[]}) (by kernel_rfl) ?_
 have j14:=hJ _ W13 W14 none j13 (Below.grownBy0 b14) (fun _ h=>by cases h)
 refine a0w (r0p rfl (by kernel_rfl) (n0l rfl (by kernel_rfl) (by kernel_rfl)) (hY [decide (eN x=eN y),shF (trk x) (trk y),unF (sds (ndsE x)) (sds (ndsE y)),wayF b (sds (ndsE x)) (trk y) (sds (ndsE y))] (wayF b (sds (ndsE y)) (trk x) (sds (ndsE x))) W14 j14 (by simp)) ?_)
 rintro e W15 (⟨rfl,j15,k15⟩|⟨rfl,x15⟩)
 ·refine⟨_,rfl,?_⟩
  refine c1c (a':={tmps:= #[pY l,pP jA nA,pP jB nB,pP jL nL,undef,v7,v8,pY l,pQ jA nA,.int .i64 (eN x),pQ jB nB,.int .i64 (eN y),zE x y,.bool true,.bool false,.bool false,pY l,gA dA nA,v3,gA dB nB,v4,zS x y,.bool true,.bool false,.bool false,gA dA nA,v7,gA dB nB,v8,pY l,v7,v8,zU x y,.bool true,.bool false,.bool false,pY l,gL dL nL,v7,gA dB nB,v8,.bool (wayF b (sds (ndsE x)) (trk y) (sds (ndsE y))),.bool true,.bool false,.bool false,pY l,gL dL nL,v8,gA dA nA,v7,.bool (wayF b (sds (ndsE y)) (trk x) (sds (ndsE x))),.bool true],defers:=[]}) (by kernel_rfl) ?_
  refine bodyPost_end (results_none rfl _ _ _) rfl ⟨⟨_,rfl⟩,.inl ⟨_,rfl,j15⟩⟩
 ·refine⟨_,rfl,?_⟩
  refine c1c (a':={tmps:= #[pY l,pP jA nA,pP jB nB,pP jL nL,undef,v7,v8,pY l,pQ jA nA,.int .i64 (eN x),pQ jB nB,.int .i64 (eN y),zE x y,.bool true,.bool false,.bool false,pY l,gA dA nA,v3,gA dB nB,v4,zS x y,.bool true,.bool false,.bool false,gA dA nA,v7,gA dB nB,v8,pY l,v7,v8,zU x y,.bool true,.bool false,.bool false,pY l,gL dL nL,v7,gA dB nB,v8,.bool (wayF b (sds (ndsE x)) (trk y) (sds (ndsE y))),.bool true,.bool false,.bool false,pY l,gL dL nL,v8,gA dA nA,v7,.bool (wayF b (sds (ndsE y)) (trk x) (sds (ndsE x))),.bool false],defers:=[]}) (by kernel_rfl) ?_
  refine bodyPost_end (results_none rfl _ _ _) rfl ⟨⟨_,rfl⟩,.inr ⟨_,List.prefix_refl _,x15⟩⟩
end
end Go.Proofs.Ytcbhgaeiokfcdaa.Vx
namespace Go.Proofs.Ytcbhgaeiokfcdaa.Vx
open Go Go.RowKit
set_option linter.unusedVariables false
set_option linter.unusedSimpArgs false
set_option maxRecDepth 100000
set_option maxHeartbeats 4000000
attribute [local go_sem] Oper.semAt_some
def noWalk:Blk→Bool
 |.iter _ _=>false
 |.map _ _ _=>false
 |.fmap _ _ _=>false
 |_=>true
theorem Rel.cellsOnly {r:RM}{σ:Snap}{s:SW}{w:World}(h:Rel r σ s w)(hn: ∀b x,s.blk b=some x→noWalk x=true){w':World}(hs:w.heap.size≤w'.heap.size)(hk:CS w w'):Rel r σ s w':=by
 refine⟨fun j c hj=> ?_,h.dcel,h.darr,h.dmp,fun b j hj=>Nat.lt_of_lt_of_le (h.inb b j hj) hs,?_,?_,h.frz,h.uniq,h.free,h.gen,?_,?_,h.vgen,?_,?_⟩
 ·obtain⟨T,f,e⟩:=h.snap j c hj;exact⟨T,f,hk _ _ e rfl⟩
 ·intro b es j n he hr
  obtain⟨c,T,f,h1,h2⟩:=h.cel b es j n he hr
  exact⟨c,T,f,hk _ _ h1 rfl,h2⟩
 ·intro b t g l x he hr
  have:=h.arr b t g l x he hr
  refine this.mono (Snap.le_refl _) fun j o hj=> ?_
  obtain⟨c,T,f,h1,_⟩:=this.row j o hj
  rw[h1];exact hk _ _ h1 rfl
 ·intro b t p j he hj
  have:=hn b _ he;cases this
 ·intro b g es x he hr
  have:=h.vec b g es x he hr
  refine this.mono (RM.le_refl _) (Snap.le_refl _) fun j o hj=> ?_
  obtain⟨c,T,f,h1,_⟩:=this.row j o hj
  rw[h1];exact hk _ _ h1 rfl
 ·intro b kt vt l j he hj
  have:=hn b _ he;cases this
 ·intro b kt ks es j he hj
  have:=hn b _ he;cases this
theorem c3d (a:LS)(b c:LP)(r:LR)(x y:Rt)(f:Bool): ∀k z,(s5 a b c r x y f []).blk k=some z→noWalk z=true:=by
 intro k z h
 match k,h with
 |0,h=>cases h;rfl
 |1,h=>cases h;rfl
 |2,h=>cases h;rfl
 |3,h=>cases h;rfl
 |4,h=>cases h;rfl
 |k+5,h=>cases h
theorem g3i {W W':World}{row:Option Nat}{B:Nat}(hg:W.grownBy W' row)(hr: ∀r,row=some r→B≤r∧ ∃o:Obj,W.heap[r]? =some o∧o.isCells=false):CS W W':=fun j o e ho=>by
 refine(hg.block j (Array.getElem?_eq_some_iff.1 e).1 fun h=> ?_).trans e
 obtain⟨_,o',e',h'⟩:=hr j h.symm
 rw[e]at e';cases e';rw[ho]at h';cases h'
noncomputable def R0c:Code:=match a0u Try.prog 60 with
 |.seq r0 _=>r0
 |_=>.skip
noncomputable def C1c:Code:=match a0u Try.prog 60 with
 |.seq _ (.seq c1 _)=>c1
 |_=>.skip
noncomputable def R3c:Code:=match a0u Try.prog 60 with
 |.seq _ (.seq _ (.seq (.seq r3 _) _))=>r3
 |_=>.skip
section
variable {a:LS} {b c:LP} {r:LR} {n m:Int}
def t0c (a:LS)(b c:LP)(r:LR)(n m:Int):List SV:=[.agg (laS a b c r),.int .i64 n,.int .i64 m]++List.replicate 22 .undef
def s1c (a:LS)(b c:LP)(r:LR):SW:=⟨[.cells (laS a b c r),.cells [.bool false]],[]⟩
def t1c (a:LS)(b c:LP)(r:LR)(n m:Int):List SV:=((t0c a b c r n m).set 3 (.ptr 0 0)).set 6 (.ptr 1 0)
def t2c (a:LS)(b c:LP)(r:LR)(n m:Int):List SV:=(((t1c a b c r n m).set 8 (.int .i64 n)).set 9 (.int .i64 m)).set 10 (.bool (decide (n=m)))
def rAt (r:LR)(n:Int):Rt:=List.getD r n.toNat (Ty.dflt TRt)
def t3c (a:LS)(b c:LP)(r:LR)(n m:Int):List SV:=
 (((((((((((((t2c a b c r n m).set 11 (.agg (laS a b c r))).set 12 (.ptr 0 3)).set 13 (.imm TRt r)).set 14 (.int .i64 n)).set 15 (.iptr (rtS (rAt r n)) 0)).set 16 (.agg (rtS (rAt r n)))).set 17 (.ptr 0 3)).set 18 (.imm TRt r)).set 19 (.int .i64 m)).set 20 (.iptr (rtS (rAt r m)) 0)).set 21 (.agg (rtS (rAt r m)))).set 22 (.fn (.func 118) [] [.ptr 2 0,.ptr 3 0,.ptr 4 0]))
theorem ev0:(e0w Try.prog (clMd false Try.prog h0p) ls0 100 R0c (t0c a b c r n m) ⟨[],[]⟩).sel=some (.normal,t1c a b c r n m,s1c a b c r):=by kernel_rfl
theorem ev1 (h:n≠m):(e0w Try.prog (clMd false Try.prog h0p) ls0 100 C1c (t1c a b c r n m) (s1c a b c r)).sel=some (.normal,t2c a b c r n m,s1c a b c r):=by
 have k:Imp (.node (decide (n=m)) (.bad 0) (.leaf (Exit.normal,t2c a b c r n m,s1c a b c r))) (e0w Try.prog (clMd false Try.prog h0p) ls0 100 C1c (t1c a b c r n m) (s1c a b c r)):=
  .node (by kernel_rfl) (by kernel_rfl) (fun _=>.none) (fun _=>.leaf (by kernel_rfl))
 exact k _ (a0d (df h) rfl)
theorem ev3 (h1:inR n r.length=true)(h2:inR m r.length=true):(e0w Try.prog (clMd false Try.prog h0p) ls0 100 R3c (t2c a b c r n m) (s1c a b c r)).sel=some (.normal,t3c a b c r n m,s5 a b c r (rAt r n) (rAt r m) false []):=by
 have k:Imp (.node (inR n r.length) (.node (inR m r.length) (.leaf (Exit.normal,t3c a b c r n m,s5 a b c r (rAt r n) (rAt r m) false [])) (.bad 0)) (.bad 0)) (e0w Try.prog (clMd false Try.prog h0p) ls0 100 R3c (t2c a b c r n m) (s1c a b c r)):=
  .node (by kernel_rfl) (by kernel_rfl) (fun _=>.node (by kernel_rfl) (by kernel_rfl) (fun _=>.path [1,1,1] (by kernel_rfl) (.leaf (by kernel_rfl))) (fun _=>.none)) (fun _=>.none)
 exact k _ (a0a h1 (a0a h2 rfl))
theorem arr25 {A:Array Value}(h:A.size=25): ∃v0 v1 v2 v3 v4 v5 v6 v7 v8 v9 v10 v11 v12 v13 v14 v15 v16 v17 v18 v19 v20 v21 v22 v23 v24,A= #[v0,v1,v2,v3,v4,v5,v6,v7,v8,v9,v10,v11,v12,v13,v14,v15,v16,v17,v18,v19,v20,v21,v22,v23,v24]:=by
 obtain⟨l⟩:=A
 match l,h with
 |[v0,v1,v2,v3,v4,v5,v6,v7,v8,v9,v10,v11,v12,v13,v14,v15,v16,v17,v18,v19,v20,v21,v22,v23,v24],_=>exact⟨v0,v1,v2,v3,v4,v5,v6,v7,v8,v9,v10,v11,v12,v13,v14,v15,v16,v17,v18,v19,v20,v21,v22,v23,v24,rfl⟩
theorem at_ent {R:RM}{σ:Snap}{t:List SV}{A:Array Value}(h:LRel R σ t A){i:Nat}{v:SV}{u:Value}(h1:t[i]? =some v)(h2:A[i]? =some u):VRel R σ v u:=h.2 i v u h1 h2
theorem i2i {R:RM}{σ:Snap}{k:Nat}{u:Value}(h:VRel R σ (.ptr k 0) u): ∃j q,u=.pointer (some ⟨j,q,none⟩):=by
 cases h with
 |ptr _ _ j q h=>exact⟨_,_,rfl⟩
theorem fn3_of {R:RM}{σ:Snap}{g k1 k2 k3:Nat}{u:Value}(h:VRel R σ (.fn (.func g) [] [.ptr k1 0,.ptr k2 0,.ptr k3 0]) u): ∃j1 q1 j2 q2 j3 q3,u=.func (.func g) #[] #[.pointer (some ⟨j1,q1,none⟩),.pointer (some ⟨j2,q2,none⟩),.pointer (some ⟨j3,q3,none⟩)]∧
  VRel R σ (.ptr k1 0) (.pointer (some ⟨j1,q1,none⟩))∧VRel R σ (.ptr k2 0) (.pointer (some ⟨j2,q2,none⟩))∧VRel R σ (.ptr k3 0) (.pointer (some ⟨j3,q3,none⟩)):=by
 cases h with
 |fn _ _ _ fs cs h1 h2 h3 h4=>
  obtain⟨fs⟩:=fs
  obtain⟨cs⟩:=cs
  match fs,cs,h1,h3 with
  |[],[u1,u2,u3],_,_=>
   have a1:=h4 0 (.ptr k1 0) u1 rfl rfl
   have a2:=h4 1 (.ptr k2 0) u2 rfl rfl
   have a3:=h4 2 (.ptr k3 0) u3 rfl rfl
   obtain⟨j1,q1,rfl⟩:=i2i a1
   obtain⟨j2,q2,rfl⟩:=i2i a2
   obtain⟨j3,q3,rfl⟩:=i2i a3
   exact⟨j1,q1,j2,q2,j3,q3,rfl,a1,a2,a3⟩
theorem t1n {a:LS}{b c:LP}{r:LR}{x y:Rt}{R:RM}{σ:Snap}{w:World}{f:Bool}(hr:Rel R σ (s5 a b c r x y f []) w){j q:Nat}(hp:VRel R σ (.ptr 1 0) (.pointer (some ⟨j,q,none⟩))):w.cell? ⟨j,q,none⟩=some (.bool f)∧w.frozen? ⟨j,q,none⟩=false:=by
 generalize hv:(Value.pointer (some ⟨j,q,none⟩))=v at hp
 cases hp with
 |ptr _ _ j' n' h=>
  cases hv
  obtain⟨d,T,g,h1,h2,h3,h4⟩:=hr.cel 1 [.bool f] _ _ rfl h
  obtain⟨u,u1,u2⟩:=h4.one 0 (.bool f) (by simp[offs]) rfl
  cases u2
  refine⟨(l0o h1 _).trans u1,?_⟩
  rw[s0h h1]
  have:esW [SV.bool f]=1:=rfl
  exact h2.no _ (by rw[this]at h3;omega)
theorem d3p (b:LP)(x y:Rt):(rsn b x y).any id=cfE b x y:=by
 unfold rsn cfE
 simp only[List.any_cons,List.any_nil,id,Bool.or_false]
end
end Go.Proofs.Ytcbhgaeiokfcdaa.Vx
namespace Go.Proofs.Ytcbhgaeiokfcdaa.Vx
open Go Go.RowKit
set_option linter.unusedVariables false
set_option linter.unusedSimpArgs false
set_option maxRecDepth 100000
set_option maxHeartbeats 4000000
attribute [local go_sem] Oper.semAt_some
theorem h3g {a:LS}{b c:LP}{r:LR}{n m:Int}{R0:RM}{σ0:Snap}{w:World}(hr:Rel R0 σ0 ⟨[],[]⟩ w){vl:Value}(hv:VRel R0 σ0 (.agg (laS a b c r)) vl)(hne:n≠m)(h1:inR n r.length=true)(h2:inR m r.length=true)
  (hx:lenE (rAt r n)) (hy:lenE (rAt r m)) (kx:f0p b (sds (ndsE (rAt r n)))) (ky:f0p b (sds (ndsE (rAt r m)))):
  CallsIn Fence.wide 6 Try.prog 60 #[vl,.int .i64 n,.int .i64 m] w fun e w'=>e=.returned (.bool (cfE b (rAt r n) (rAt r m)))∧Below w.heap.size w w':=by
 have noat: ∀k j,¬R0.at k j:=fun k j h=>by
  obtain⟨e1,e2,e3⟩:=hr.none_ge (b:=k) (Nat.zero_le _)
  rcases h with⟨q,h⟩|⟨g,z,o,h,_⟩|h
  ·rw[e1]at h;cases h
  ·rw[e2 g]at h;cases h
  ·rw[e3]at h;cases h
 have hcl:ClOk Try.prog (clMd false Try.prog h0p):=q0t (a1v _) hmix false
 have ht0:LRel R0 σ0 (t0c a b c r n m) (#[vl,.int .i64 n,.int .i64 m]++Array.replicate (Try.f60.ntmps-(#[vl,Value.int .i64 n,Value.int .i64 m]:Array Value).size) undef):=
  LRel.append (.cons hv (.cons (.int _ _) (.cons (.int _ _) (.nil _ _)))) (LRel.undefs _ _ 22)
 refine callsIn_of_wp_marks Try.func60 rfl trivial ?_ rfl
 refine wpIn_seq ?_
 refine wpIn_wide.2 (n0k hcl hmix 100 R0c _ _ _ (LsOk.none _ 0 _) ev0 (Nat.zero_le _) R0 σ0 w _ _ hr ht0 fun t1 w1 hth1=> ?_)
 obtain⟨R1,σ1,r1,f1,l1,-,-⟩:=hth1
 show Code.wpIn _ _ _ _ _ _ _
 refine wpIn_seq ?_
 refine wpIn_wide.2 (n0k hcl hmix 100 C1c _ _ _ (LsOk.none _ 0 _) (ev1 hne) (Nat.zero_le _) R1 σ1 w1 _ _ r1 l1 fun t2 w2 hth2=> ?_)
 obtain⟨R2,σ2,r2,f2,l2,-,-⟩:=hth2
 show Code.wpIn _ _ _ _ _ _ _
 refine wpIn_seq (wpIn_seq ?_)
 refine wpIn_wide.2 (n0k hcl hmix 100 R3c _ _ _ (LsOk.none _ 0 _) (ev3 h1 h2) (Nat.zero_le _) R2 σ2 w2 _ _ r2 l2 fun t3 w3 hth3=> ?_)
 obtain⟨R3,σ3,r3,f3,l3,-,-⟩:=hth3
 have fr:=(f1.trans f2 (fun _ h _=>h)).trans f3 (fun _ h _=>h)
 have hB:Below w.heap.size w w3:=⟨fr.os,fr.tape,fr.output,fr.size,fun k hk=>fr.keep k hk (fun q _=>noat q k)⟩
 dsimp only at l3
 have l3':=l3
 have hlen:(t3c a b c r n m).length=25:=by unfold t3c t2c t1c t0c;simp only[List.length_set,List.length_append,List.length_replicate,List.length_cons,List.length_nil]
 have hz:t3.size=25:=by rw[←l3'.size,hlen]
 clear l3
 obtain⟨v0,v1,v2,v3,v4,v5,v6,v7,v8,v9,v10,v11,v12,v13,v14,v15,v16,v17,v18,v19,v20,v21,v22,v23,v24,rfl⟩:=arr25 hz
 have p6:=at_ent l3' (i:=6) (v:=.ptr 1 0) (u:=v6) (by kernel_rfl) rfl
 have p22:=at_ent l3' (i:=22) (v:=.fn (.func 118) [] [.ptr 2 0,.ptr 3 0,.ptr 4 0]) (u:=v22) (by kernel_rfl) rfl
 obtain⟨jR,qR,rfl⟩:=i2i p6
 obtain⟨jA,qA,jB,qB,jL,qL,rfl,pA,pB,pL⟩:=fn3_of p22
 have hjR:w.heap.size≤jR:=by
  generalize hv':(Value.pointer (some ⟨jR,qR,none⟩))=u at p6
  cases p6 with
  |ptr _ _ j' n' h=>
   cases hv'
   rcases fr.fresh 1 _ (.inl ⟨_,h⟩)with⟨q,_⟩|⟨_,b',_,q⟩|q
   ·exact absurd q (Nat.not_lt_zero _)
   ·exact(noat _ _ q).elim
   ·exact q
 show Code.wpIn _ _ _ _ _ _ _
 refine wpIn_block ?_
 have nw:=c3d a b c r (rAt r n) (rAt r m) false
 refine wpIn_rangeFunc_ownG (F:=Fence.wide) rfl (by omega) (gf:=118) (lb:= #[.pointer (some ⟨jA,qA,none⟩),.pointer (some ⟨jB,qB,none⟩),.pointer (some ⟨jL,qL,none⟩)]) rfl trivial (enters_of Try.func118 (by kernel_rfl) rfl)
  (i3r 5 hx hy kx ky r3 pA pB pL) (fun h k=>h.trans k) (fun W l o o' _ hl ho hw=>KR.putObj W l o o' hl ho hw) (Below.refl _ _) (fun _=>rfl)
  (fun pre W=>((¬true∈pre)∧Rel R3 σ3 (s5 a b c r (rAt r n) (rAt r m) false []) W)∧Below w.heap.size w W)
  (fun c pre W=>((c=.ret∧ ∃ini,pre=ini++[true])∧W.cell? ⟨jR,qR,none⟩=some (.bool true))∧Below w.heap.size w W)
  (OwnFrom.and (fun s A B row hs hg hr'=>⟨hs.1,hs.2.cellsOnly nw hg.size (g3i hg hr')⟩) (ownFrom_below (Nat.le_refl _) hB.size))
  (fun c=>OwnFrom.and (Own.from (fun s A B row hs hg hr'=>⟨hs.1,cell_kept hs.2 hg hr'⟩) _) (ownFrom_below (Nat.le_refl _) hB.size))
  ⟨⟨(by simp),r3⟩,hB⟩
  (fun k=>{tmps:= #[v0,v1,v2,v3,v4,v5,.pointer (some ⟨jR,qR,none⟩),.bool k,v8,v9,v10,v11,v12,v13,v14,v15,v16,v17,v18,v19,v20,v21,.func (.func 118) #[] #[.pointer (some ⟨jA,qA,none⟩),.pointer (some ⟨jB,qB,none⟩),.pointer (some ⟨jL,qL,none⟩)],.bool k,v24],defers:=[]}) ?assign ?body ?done ?stop
 case assign=>
  intro l x W K hK
  gi_wp2
  exact hK
 case body=>
  rintro l pre x W ⟨⟨hp,hR⟩,hBW⟩ _
  obtain⟨g1,g2⟩:=t1n hR p6
  cases x with
  |false=>
   gi_wp2
   exact⟨KeepsFrom.refl _ _,KR.refl _,⟨(by simpa using hp),hR⟩,hBW⟩
  |true=>
   gi_wp2
   exact⟨(KeepsOthers.setCell _ _ _).from _,⟨⟨rfl,pre,rfl⟩,World.cell?_setCell_same' _ _ _ (by rw[g1];rfl)⟩,hBW.setCell (p:=⟨jR,qR,none⟩) hjR _⟩
 case done=>
  rintro D ys W hD he ⟨⟨hp,hR⟩,hBW⟩ hK
  obtain⟨g1,g2⟩:=t1n hR p6
  gi_wp2
  have hK':=(KeepsOthers.setCell W ⟨jR,qR,none⟩ (.bool false)).same D _ hK rfl
  refine⟨by simp,.inl ⟨_,_,rfl,run_takeDeferred hK',?_⟩⟩
  have hc5:=cell_kept (World.cell?_setCell_same' W ⟨jR,qR,none⟩ (.bool false) (by rw[g1];rfl)) (grownBy_putObj' _ D (.deferred none)) (fun r e=>by cases e;exact⟨_,hK',rfl⟩)
  have hz:cfE b (rAt r n) (rAt r m)=false:=by
   rw[←d3p,←he]
   cases h:ys.any id with
   |false=>rfl
   |true=>
    obtain⟨v,hv1,hv2⟩:=List.any_eq_true.1 h
    have hv2:v=true:=hv2
    subst hv2;exact absurd hv1 hp
  refine⟨.bool false,?_,by rw[hz],(hBW.setCell (p:=⟨jR,qR,none⟩) hjR _).trans (belowK_b (w:=w) (Nat.le_refl _) _ D _ _ (by have:=hB.size;omega) hK' rfl rfl)⟩
  simp[results,Try.f60,go_sem,hc5]
 case stop=>
  rintro D cd pre W hD hpre ⟨⟨⟨rfl,ini,rfl⟩,hcr⟩,hBW⟩ hK
  gi_wp2
  refine⟨by simp,.inl ⟨_,_,rfl,run_takeDeferred hK,?_⟩⟩
  have hc5:=cell_kept hcr (grownBy_putObj' _ D (.deferred none)) (fun r e=>by cases e;exact⟨_,hK,rfl⟩)
  have hz:cfE b (rAt r n) (rAt r m)=true:=by
   rw[←d3p,List.any_eq_true]
   exact⟨true,hpre.subset (by simp),rfl⟩
  refine⟨.bool true,?_,by rw[hz],hBW.trans (belowK_b (w:=w) (Nat.le_refl _) W D _ _ (by have:=hB.size;omega) hK rfl rfl)⟩
  simp[results,Try.f60,go_sem,hc5]
end Go.Proofs.Ytcbhgaeiokfcdaa.Vx
noncomputable section
namespace Go.Proofs.Ytcbhgaeiokfcdaa.Vx
open Go Go.RowKit
set_option linter.unusedVariables false
set_option linter.unusedSimpArgs false
set_option maxRecDepth 100000
set_option maxHeartbeats 0
def rtG (b:LP)(e:Rt):Bool:=decide ((eP e).length≤200)&&(decide ((eQ e).length≤200)&&(decide ((eO e).length≤200)&&(decide ((eF e).length≤200)&&List.all (ndsE e) fun d=>inR (f1 d) b.length)))
def okC (b:LP)(r:LR)(n m:Int):Bool:=inR n r.length&&(inR m r.length&&(rtG b (rAt r n)&&rtG b (rAt r m)))
def clF (b:LP)(r:LR)(n m:Int):Bool:=bif decide (n=m)then false else cfE b (rAt r n) (rAt r m)
def g1v:List Dat→Option (Nat×List Dat)
 |[.l t1 a,.l t2 b,.l t3 c,.l t4 r,.n n,.n m]=>match c0m t1 TS a,c0m t2 TPt b,c0m t3 TPt c,c0m t4 TRt r with
  |some a,some b,some c,some r=>bif okC b r n m then some (0,[.b (clF b r n m)])else none
  |_,_,_,_=>none
 |_=>none
theorem j1w {i:Int}{n:Nat}:inR i n=true↔0≤i∧i<(n:Int):=by
 unfold inR
 rw[Bool.and_eq_true,decide_eq_true_eq,decide_eq_true_eq]
theorem sds_mem {l:LN}: ∀d∈sds l,d∈l:=by
 unfold sds
 have: ∀(l acc:LN),∀d∈l.foldl j0o acc,d∈acc∨d∈l:=by
  intro l
  induction l with
  |nil=>intro acc d h;exact .inl h
  |cons e l ih=>
   intro acc d h
   rw[List.foldl_cons]at h
   rcases ih _ d h with h|h
   ·unfold j0o at h
    split at h
    ·exact .inl h
    ·rcases List.mem_append.1 (show d∈acc++[e]from h)with h|h
     ·exact .inl h
     ·exact .inr (List.mem_cons.2 (.inl (List.mem_singleton.1 h)))
   ·exact .inr (List.mem_cons_of_mem _ h)
 intro d h
 rcases this l [] d h with h|h
 ·cases h
 ·exact h
theorem c2e {b:LP}{e:Rt}(h:rtG b e=true):lenE e∧f0p b (sds (ndsE e)):=by
 unfold rtG at h
 simp only[Bool.and_eq_true,decide_eq_true_eq,List.all_eq_true]at h
 obtain⟨h1,h2,h3,h4,h5⟩:=h
 exact⟨⟨h1,h2,h3,h4⟩,fun d hd=>j1w.1 (h5 d (sds_mem d hd))⟩
theorem ev45 {a:LS}{b c:LP}{r:LR}{n:Int}:(r0u Try.prog (clMd false Try.prog h0p) ls0 100 60 [.agg (laS a b c r),.int .i64 n,.int .i64 n] ⟨[],[]⟩).sel=some (.bool false,⟨[.cells (laS a b c r),.cells [.bool false]],[1]⟩):=by
 have k:Imp (.node (decide (n=n)) (.leaf (SV.bool false,(⟨[.cells (laS a b c r),.cells [.bool false]],[1]⟩:SW))) (.bad 0)) (r0u Try.prog (clMd false Try.prog h0p) ls0 100 60 [.agg (laS a b c r),.int .i64 n,.int .i64 n] ⟨[],[]⟩):=
  .node (by kernel_rfl) (by kernel_rfl) (fun _=>.leaf (by kernel_rfl)) (fun _=>.none)
 exact k _ (a0a (dt rfl) rfl)
theorem g3h {a:LS}{b c:LP}{r:LR}{n:Int}{R0:RM}{σ0:Snap}{w:World}(hr:Rel R0 σ0 ⟨[],[]⟩ w){vl:Value}(hv:VRel R0 σ0 (.agg (laS a b c r)) vl):
  Calls Try.prog 60 #[vl,.int .i64 n,.int .i64 n] w fun e w'=>e=.returned (.bool false)∧Below w.heap.size w w':=by
 have noat: ∀k j,¬R0.at k j:=fun k j h=>by
  obtain⟨e1,e2,e3⟩:=hr.none_ge (b:=k) (Nat.zero_le _)
  rcases h with⟨q,h⟩|⟨g,z,o,h,_⟩|h
  ·rw[e1]at h;cases h
  ·rw[e2 g]at h;cases h
  ·rw[e3]at h;cases h
 have hcl:ClOk Try.prog (clMd false Try.prog h0p):=q0t (a1v _) hmix false
 refine(j0b hcl hmix (LsOk.none _ 0 _) ev45 (Nat.zero_le _) hr (args':= #[vl,.int .i64 n,.int .i64 n]) (.cons hv (.cons (.int _ _) (.cons (.int _ _) (.nil _ _))))).mono ?_
 rintro e w' ⟨v',rfl,R',σ',h1,fr,h2,-,-⟩
 cases h2
 exact⟨rfl,fr.os,fr.tape,fr.output,fr.size,fun k hk=>fr.keep k hk (fun q _=>noat q k)⟩
theorem arg3 {r:RM}{σ:Snap}{k:IntKind}{x y:Int}{p:SV}{A:Array Value}(h:LRel r σ [p,.int k x,.int k y] A): ∃v,A= #[v,.int k x,.int k y]∧VRel r σ p v:=by
 obtain⟨l⟩:=A
 have hs:=h.size
 match l,hs with
 |[v,v1,v2],_=>
  have a0:=h.2 0 p v rfl rfl
  have a1:=h.2 1 (.int k x) v1 rfl rfl
  have a2:=h.2 2 (.int k y) v2 rfl rfl
  cases a1;cases a2
  exact⟨v,rfl,a0⟩
theorem b45:a0x Try.prog 60 (a0i (mkF [laV 0,.int .i64 4,.int .i64 5] [] [] [(.bool 0,[])] g1v)):=by
 refine m2c fun env j d he=> ?_
 match env,he with
 |[.l t1 a0,.l t2 b0,.l t3 c0,.l t4 r0,.n n,.n m],he=>
  have he:(match c0m t1 TS a0,c0m t2 TPt b0,c0m t3 TPt c0,c0m t4 TRt r0 with|some a,some b,some c,some r=>bif okC b r n m then some (0,[Dat.b (clF b r n m)])else none|_,_,_,_=>none)=some (j,d):=he
  split at he
  ·rename_i a b c r ha hb hc hr
   obtain⟨qa,rfl⟩:=a0z ha
   subst qa
   obtain⟨qb,rfl⟩:=a0z hb
   subst qb
   obtain⟨qc,rfl⟩:=a0z hc
   subst qc
   obtain⟨qr,rfl⟩:=a0z hr
   subst qr
   cases hk:okC b0 r0 n m with
   |false=>rw[hk]at he;cases he
   |true=>
    rw[hk]at he
    cases he
    refine⟨rfl,_,rfl,fun R σ w args' hrel hl=> ?_⟩
    have e1:gl TS [Dat.l TS a0,.l TPt b0,.l TPt c0,.l TRt r0,.n n,.n m] 0=a0:=by simp[gl,c0r]
    have e2:gl TPt [Dat.l TS a0,.l TPt b0,.l TPt c0,.l TRt r0,.n n,.n m] 1=b0:=by simp[gl,c0r]
    have e3:gl TPt [Dat.l TS a0,.l TPt b0,.l TPt c0,.l TRt r0,.n n,.n m] 2=c0:=by simp[gl,c0r]
    have e4:gl TRt [Dat.l TS a0,.l TPt b0,.l TPt c0,.l TRt r0,.n n,.n m] 3=r0:=by simp[gl,c0r]
    have hl:LRel R σ [.agg [.imm TS (gl TS [Dat.l TS a0,.l TPt b0,.l TPt c0,.l TRt r0,.n n,.n m] 0),.imm TPt (gl TPt [Dat.l TS a0,.l TPt b0,.l TPt c0,.l TRt r0,.n n,.n m] 1),.imm TPt (gl TPt [Dat.l TS a0,.l TPt b0,.l TPt c0,.l TRt r0,.n n,.n m] 2),.imm TRt (gl TRt [Dat.l TS a0,.l TPt b0,.l TPt c0,.l TRt r0,.n n,.n m] 3)],.int .i64 n,.int .i64 m] args':=hl
    rw[e1,e2,e3,e4]at hl
    obtain⟨v,rfl,hv⟩:=arg3 hl
    by_cases hnm:n=m
    ·subst hnm
     have:clF b0 r0 n n=false:=by unfold clF;rw[dt rfl];rfl
     rw[this]
     exact g3h (a:=a0) (b:=b0) (c:=c0) (r:=r0) hrel hv
    ·have:clF b0 r0 n m=cfE b0 (rAt r0 n) (rAt r0 m):=by unfold clF;rw[df hnm];rfl
     rw[this]
     unfold okC at hk
     simp only[Bool.and_eq_true]at hk
     obtain⟨k1,k2,k3,k4⟩:=hk
     exact callsIn_wide.1 (h3g hrel hv hnm k1 k2 (c2e k3).1 (c2e k4).1 (c2e k3).2 (c2e k4).2)
  ·cases he
theorem a0x.less {f:FuncId}{args:List PV}{outs:List (PV×List PB)}{op op':List Dat→Option (Nat×List Dat)}(h: ∀env y,op' env=some y→op env=some y)(k:a0x Try.prog f (a0i (mkF args [] [] outs op))):a0x Try.prog f (a0i (mkF args [] [] outs op')):=by
 intro args0 s v s1 hrun
 refine k args0 s v s1 ?_
 unfold a0i at hrun⊢
 cases hf:fitS (mkF args [] [] outs op').args (mkF args [] [] outs op').blks args0 s with
 |none=>rw[hf]at hrun;cases hrun
 |some env=>
  rw[hf]at hrun
  have hf':fitS (mkF args [] [] outs op).args (mkF args [] [] outs op).blks args0 s=some env:=hf
  rw[hf']
  obtain⟨x,h1,h2⟩:=Tree.bind_some hrun
  have h3:=h env x (d0t h1)
  have h4:op env=op' env:=h3.trans (d0t h1).symm
  have e:(mkF args [] [] outs op).fn env=(mkF args [] [] outs op').fn env:=by
   show outT _ 0 (op env)=outT _ 0 (op' env)
   rw[h4]
  show(((mkF args [] [] outs op).fn env).bind fun x=>match outs[x.1]? with|some o=>Tree.leaf (instV o.1 x.2,(⟨instBs o.2 x.2,[]⟩:SW))|none=>.bad 321).sel=some (v,s1)
  rw[e]
  exact hrun
def okSB (a:LS)(b c:LP)(r:LR):Bool:=decide (a.length≤9223372036854775807∧b.length≤9223372036854775807∧c.length≤9223372036854775807∧r.length≤9223372036854775807)&&List.all (nms a b c r) fun s=>decide (ByteArray.size s≤9223372036854775807)
theorem okSB_ok {a:LS}{b c:LP}{r:LR}(h:okSB a b c r=true):okS a b c r:=by
 unfold okSB at h
 rw[Bool.and_eq_true,decide_eq_true_eq,List.all_eq_true]at h
 exact⟨h.1,fun s hs=>of_decide_eq_true (h.2 s hs)⟩
def lay4 (f:LS→LP→LP→LR→Option (Nat×List Dat)):List Dat→Option (Nat×List Dat)
 |[.l t1 a,.l t2 b,.l t3 c,.l t4 r]=>match c0m t1 TS a,c0m t2 TPt b,c0m t3 TPt c,c0m t4 TRt r with
  |some a,some b,some c,some r=>bif okSB a b c r then f a b c r else none
  |_,_,_,_=>none
 |_=>none
theorem k1s {f:LS→LP→LP→LR→Option (Nat×List Dat)}{op:List Dat→Option (Nat×List Dat)}(h: ∀a b c r,okS a b c r→op [.l TS a,.l TPt b,.l TPt c,.l TRt r]=f a b c r): ∀env y,lay4 f env=some y→op env=some y:=by
 intro env y he
 match env,he with
 |[.l t1 a0,.l t2 b0,.l t3 c0,.l t4 r0],he=>
  have he:(match c0m t1 TS a0,c0m t2 TPt b0,c0m t3 TPt c0,c0m t4 TRt r0 with|some a,some b,some c,some r=>bif okSB a b c r then f a b c r else none|_,_,_,_=>none)=some y:=he
  split at he
  ·rename_i a b c r ha hb hc hr
   obtain⟨qa,rfl⟩:=a0z ha
   subst qa
   obtain⟨qb,rfl⟩:=a0z hb
   subst qb
   obtain⟨qc,rfl⟩:=a0z hc
   subst qc
   obtain⟨qr,rfl⟩:=a0z hr
   subst qr
   cases hk:okSB a0 b0 c0 r0 with
   |false=>rw[hk]at he;cases he
   |true=>rw[hk]at he;rw[h _ _ _ _ (okSB_ok hk)];exact he
  ·cases he
def opp_may:List Dat→Option (Nat×List Dat):=lay4 fun a b c r=>some (0,[.b (mayL a b c r)])
def opp_chk:List Dat→Option (Nat×List Dat):=lay4 fun a b c r=>some (0,[.n (ckA a b c r).1,.n (ckA a b c r).2])
def B45p:FBox:=mkF [laV 0,.int .i64 4,.int .i64 5] [] [] [(.bool 0,[])] g1v
def B49p:FBox:=mkF [laV 0] [] [] [(.bool 0,[])] opp_may
def B21p:FBox:=mkF [laV 0] [] [] [(.tup [.int .i64 0,.int .i64 1],[])] opp_chk
def cs_Q0:FuncId→Option a0f:=a0k 60 B45p (a0k 95 B49p (a0k 32 B49p (a0k 59 B21p (a0k 14 B21p h0p))))
theorem j3i:CsOk Try.prog cs_Q0:=a0h (a0h (a0h (a0h (a0h w0k (a0x.less (op:=k2p) (k1s fun a b c r h=>o19 a b c r h) s2o)) (a0x.less (op:=l2u) (k1s fun a b c r h=>o18 a b c r h) B18_ok)) (a0x.less (op:=k2o) (k1s fun a b c r h=>e3k a b c r (c2t h)) B28_ok)) (a0x.less (op:=n2f) (k1s fun a b c r h=>oMay a b c r (c2t h)) B26_ok)) b45
theorem opq_ex (f:List Dat→Option (Nat×List Dat)): ∃g:List Dat→Option (Nat×List Dat),∀env,g env=f env:=⟨f,fun _=>rfl⟩
def w2v:List Dat→Option (Nat×List Dat):=Classical.choose (opq_ex g1v)
theorem j2d (env:List Dat):w2v env=g1v env:=Classical.choose_spec (opq_ex g1v) env
def Bcl:FBox:=mkF [laV 0,.int .i64 4,.int .i64 5] [] [] [(.bool 0,[])] w2v
theorem Bcl_ok:a0x Try.prog 60 (a0i Bcl):=by
 have:w2v=g1v:=funext j2d
 unfold Bcl;rw[this];exact b45
def cs_Z:FuncId→Option a0f:=a0k 60 Bcl z2f
theorem l1g:CsOk Try.prog cs_Z:=a0h g0k Bcl_ok
end Go.Proofs.Ytcbhgaeiokfcdaa.Vx
end
