import Derived.Test.YtoehlcomhpnjgaaZ06j
import Derived.RangeFuncNested
import Derived.RangeFuncBound
import Derived.RangeFuncCalls
import Derived.RangeFuncLeaves
import Derived.RangeFuncBox
import Derived.Shelf.RegionOpen
import Derived.OwnWalkIn
import Derived.TacticsInMore
noncomputable section
namespace Go.Proofs.Ytoehlcomhpnjgaa.Vx
open Go Go.RowKit
set_option linter.unusedVariables false
set_option linter.unusedSimpArgs false
set_option maxRecDepth 100000
set_option maxHeartbeats 0
section
variable {P:Program}
end
theorem Rel.cells {r:RM}{σ:Snap}{s:SW}{w:World}(h:Rel r σ s w){w':World}(hs:w.heap.size≤w'.heap.size)(hk: ∀(j:Nat) (o:Obj),w.heap[j]? =some o→(o.isCells=true∨o.isWalk=true)→w'.heap[j]? =some o):Rel r σ s w':=by
 refine⟨fun j c hj=> ?_,h.dcel,h.darr,h.dmp,fun b j hj=>Nat.lt_of_lt_of_le (h.inb b j hj) hs,?_,?_,h.frz,h.uniq,h.free,h.gen,?_,?_,h.vgen,?_,?_⟩
 ·obtain⟨T,f,e⟩:=h.snap j c hj;exact⟨T,f,hk _ _ e (.inl rfl)⟩
 ·intro b es j n he hr
  obtain⟨c,T,f,h1,h2⟩:=h.cel b es j n he hr
  exact⟨c,T,f,hk _ _ h1 (.inl rfl),h2⟩
 ·intro b t g l x he hr
  have:=h.arr b t g l x he hr
  refine this.mono (Snap.le_refl _) fun j o hj=> ?_
  obtain⟨c,T,f,h1,_⟩:=this.row j o hj
  rw[h1];exact hk _ _ h1 (.inl rfl)
 ·intro b t p j he hj
  obtain⟨h1,h2⟩:=h.itr b t p j he hj
  exact⟨h1,hk _ _ h2 (.inr rfl)⟩
 ·intro b g es x he hr
  have:=h.vec b g es x he hr
  refine this.mono (RM.le_refl _) (Snap.le_refl _) fun j o hj=> ?_
  obtain⟨c,T,f,h1,_⟩:=this.row j o hj
  rw[h1];exact hk _ _ h1 (.inl rfl)
 ·intro b kt vt l j he hj
  obtain⟨es,h1,h2⟩:=h.map b kt vt l j he hj
  exact⟨es,hk _ _ h1 (.inr rfl),h2⟩
 ·intro b kt ks es j he hj
  obtain⟨ms,h1,h2⟩:=h.fmap b kt ks es j he hj
  exact⟨ms,hk _ _ h1 (.inr rfl),h2⟩
structure KR (W W':World):Prop where
 rel: ∀r σ s,Rel r σ s W→Rel r σ s W'
 cell: ∀(j:Nat) (o:Obj),W.heap[j]? =some o→o.isCells=true→W'.heap[j]? =some o
theorem KR.refl (W:World):KR W W:=⟨fun _ _ _ h=>h,fun _ _ h _=>h⟩
theorem KR.trans {A B C:World}(h:KR A B)(k:KR B C):KR A C:=⟨fun r σ s x=>k.rel r σ s (h.rel r σ s x),fun j o x hx=>k.cell j o (h.cell j o x hx) hx⟩
theorem KR.of {W W':World}(hs:W.heap.size≤W'.heap.size)(hk: ∀(j:Nat) (o:Obj),W.heap[j]? =some o→(o.isCells=true∨o.isWalk=true)→W'.heap[j]? =some o):KR W W':=
 ⟨fun r σ s h=>h.cells hs hk,fun j o e ho=>hk j o e (.inl ho)⟩
theorem KR.below {W W':World}(h:Below W.heap.size W W'):KR W W':=.of h.size fun j o e _=>(h.block j (Array.getElem?_eq_some_iff.1 e).1).trans e
theorem KR.putObj (W:World)(l:Nat)(o o':Obj)(hl:W.heap[l]? =some o)(ho:o.isCells=false)(hw:o.isWalk=false):KR W (W.putObj l o'):=by
 refine .of (by simp) fun j x e hx=> ?_
 have hne:j≠l:=by
  rintro rfl
  rw[hl]at e;cases e
  rcases hx with q|q
  ·rw[ho]at q;cases q
  ·rw[hw]at q;cases q
 exact(World.putObj_heap_other hne).trans e
section
variable {n:Nat} {P:Program} {ops:Array Oper} {Q:Exit→Act→World→Prop}
theorem op_val {i:Nat}{o:Oper}{K:Act→World→Prop}{a:Act}{w:World}{v:Value}(ho:ops[i]? =some o)(hw:Region.wanted o (yielded ops a.tmps)=true)
  (hx:(execOp a.eval o).run P w=.ok (.value v) w) (hK:K (a.put o.dst v) w):wpOpIn Fence.wide n P ops Q i K a w:=by
 unfold wpOpIn
 rw[ho]
 simp only[hw,if_true]
 refine⟨fun _ _=>trivial,?_⟩
 rw[show Fence.wide.round=none from rfl,Oper.semAt_none,hx]
 exact hK
theorem t0a {i:Nat}{o:Oper}{K:Act→World→Prop}{a:Act}{w:World}{l:Nat}{args':Array Value}{R:Ending→World→Prop}(ho:ops[i]? =some o)(hw:Region.wanted o (yielded ops a.tmps)=true)
  (hx:(execOp a.eval o).run P w=(Instr.yield l args').run P w) (hy:YieldAt Fence.wide (n-1) P l args' w R) (hK: ∀e w',R e w'→ ∃v,e=.returned v∧K (a.put o.dst v) w'):wpOpIn Fence.wide n P ops Q i K a w:=by
 obtain⟨fn,tmps,assign,body,h1,h2⟩:=hy
 unfold wpOpIn
 rw[ho]
 simp only[hw,if_true]
 refine⟨fun _ _=>trivial,?_⟩
 rw[show Fence.wide.round=none from rfl,Oper.semAt_none,hx,h1]
 refine⟨(fun h=>by cases h),h2.mono ?_⟩
 intro e w' hR
 obtain⟨v,rfl,hk⟩:=hK e w' hR
 exact hk
end
theorem m0v {P:Program}{w:World}{o:Oper}{A:Act}{z:Operand}{xs:Array Operand}{ts:Array TypeId}{l:Nat}{args':Array Value}(ho:o.op=.call ⟨.value z,xs,ts⟩)(hz:A.eval z=.func (.yield l) #[] #[])(ha:xs.map A.eval=args'):
  (execOp A.eval o).run P w=(Instr.yield l args').run P w:=by
 obtain⟨dst,op,ty,pos,aft,gd⟩:=o
 simp only at ho
 subst ho ha
 simp only[execOp,resolve,hz,Deferred.ofValue,invoke,Sem.run_bind,Sem.run_pure,Result.andThen_ok]
 simp
section
variable {n:Nat} {P:Program} {ops:Array Oper} {Q:Exit→Act→World→Prop}
end
end Go.Proofs.Ytoehlcomhpnjgaa.Vx
end
