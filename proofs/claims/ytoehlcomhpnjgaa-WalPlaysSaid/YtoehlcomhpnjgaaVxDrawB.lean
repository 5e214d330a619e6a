import Derived.Test.YtoehlcomhpnjgaaVxDrawA
noncomputable section
namespace Go.Proofs.Ytoehlcomhpnjgaa.Vx
open Go Go.RowKit
set_option linter.unusedVariables false
section
variable {P:Program} {ops:Array Oper}
def St.wr (st:St)(b:Nat):Bool:=Nat.testBit st.wm b
theorem St.wr_iff {st:St}{b:Nat}:st.wr b=true↔Nat.testBit st.W b=true∨(st.n≤b∧b<st.m):=by
 unfold St.wr St.wm;rw[Nat.testBit_or,Bool.or_eq_true,x0g]
structure StepOk (P:Program)(ops:Array Oper)(st:St)(t:List SV)(s:SW)(s1:SW):Prop where
 mg:st.s=h0s s s1
 W:st.W=e0h s1.log
 n:st.n=s.len
 m:st.m=s1.len
 run: ∀(ds:List Deferred) (r:RM) (σ:Snap) (w:World) (t':Array Value) (K:Act→World→Prop) (Q:Exit→Act→World→Prop),Rel r σ (c0v st.F s) w→LRel r σ (b0m st.rd 0 t) t'→
  (∀v' w',h2a r σ (c0v st.F s) w st.v s1 v' w'→K ((Act.mk t' ds).put st.d v') w')→wpOp P ops Q st.i K ⟨t',ds⟩ w
inductive Chain (P:Program)(ops:Array Oper)(t0:List SV)(s0:SW):List St→List SV→SW→Prop
 |nil:Chain P ops t0 s0 [] t0 s0
 |cons {L:List St} {t:List SV} {s:SW} (st:St) (s1:SW) (h:Chain P ops t0 s0 L t s) (k:StepOk P ops st t s s1):Chain P ops t0 s0 (st::L) (put t st.d st.v) st.s
def b0v {α:Type}(hit:St→Bool)(f:St→α)(a0:α):List St→(Nat→Bool)→α
 |[],_=>a0
 |st::L,X=>bif X st.i&&hit st then f st else b0v hit f a0 L X
def hitT (d:Nat)(st:St):Bool:=decide (st.d=some d)
abbrev h0t (s0:SW)(L:List St)(X:Nat→Bool)(b:Nat):Option Blk:=b0v (St.wr · b) (·.s.blk b) (s0.blk b) L X
abbrev limB (s0:SW)(L:List St)(X:Nat→Bool)(b:Nat):Nat:=b0v (St.wr · b) (·.m) s0.len L X
abbrev b2z (t0:List SV)(L:List St)(X:Nat→Bool)(d:Nat):Option SV:=b0v (hitT d) (fun st=>some st.v) t0[d]? L X
abbrev limT (s0:SW)(L:List St)(X:Nat→Bool)(d:Nat):Nat:=b0v (hitT d) (·.m) s0.len L X
def allX:Nat→Bool:=fun _=>true
theorem k0w {α:Type}{hit:St→Bool}{f:St→α}{a0:α}: ∀{L:List St} {X Y:Nat→Bool},(∀e∈L,hit e=true→X e.i=Y e.i)→b0v hit f a0 L X=b0v hit f a0 L Y
 |[],_,_,_=>rfl
 |e::L,X,Y,h=>by
  simp only[b0v]
  rw[k0w (L:=L) fun e' he=>h e' (List.mem_cons_of_mem _ he)]
  cases hw:hit e with
  |false=>simp
  |true=>rw[h e List.mem_cons_self hw]
theorem v0k {α:Type}{hit:St→Bool}{f:St→α}{a0:α}: ∀{A B:List St} {X:Nat→Bool},(∀e∈A,hit e=true→X e.i=false)→b0v hit f a0 (A++B) X=b0v hit f a0 B X
 |[],_,_,_=>rfl
 |e::A,B,X,h=>by
  simp only[List.cons_append,b0v]
  rw[v0k (A:=A) fun e' he=>h e' (List.mem_cons_of_mem _ he)]
  cases hw:hit e with
  |false=>simp
  |true=>rw[h e List.mem_cons_self hw];simp
theorem t0n {hit:St→Bool}{a0 n:Nat}{X:Nat→Bool}: ∀{L:List St},a0≤n→(∀e∈L,e.m≤n)→b0v hit (·.m) a0 L X≤n
 |[],h,_=>h
 |e::L,h,k=>by
  simp only[b0v]
  cases X e.i&&hit e with
  |true=>exact k e List.mem_cons_self
  |false=>exact t0n h fun e he=>k e (List.mem_cons_of_mem _ he)
theorem d2e (t:List SV)(d:Option Tmp)(v:SV):(put t d v).length=t.length:=by cases d<;>simp[put]
theorem r0w {ps:List Nat}{st:St}: ∀{A B:List St},k0t ps (A++st::B)=true→(∀a∈A,a1k ps a st=true)∧(∀e∈B,a1k ps st e=true)∧g2m st=true
 |[],B,h=>by
  simp only[List.nil_append,k0t,Bool.and_eq_true,List.all_eq_true]at h
  exact⟨by simp,h.2.1,h.1⟩
 |a::A,B,h=>by
  simp only[List.cons_append,k0t,Bool.and_eq_true,List.all_eq_true]at h
  obtain⟨h1,h2⟩:=r0w h.2.2
  refine⟨fun a' ha=> ?_,h2⟩
  rcases List.mem_cons.1 ha with rfl|ha
  ·exact h.2.1 st (by simp)
  ·exact h1 _ ha
theorem h0g {ps:List Nat}: ∀{L:List St},k0t ps L=true→ ∀st∈L,st.n≤st.m∧ ∀b,Nat.testBit st.W b=true→b<st.m∧(Nat.testBit st.F b=true∨(st.n≤b∧b<st.m))
 |[],_=>by simp
 |a::A,h=>by
  simp only[k0t,Bool.and_eq_true]at h
  intro st hs
  rcases List.mem_cons.1 hs with rfl|hs
  ·have:=h.1
   simp only[g2m,Bool.and_eq_true]at this
   refine⟨Nat.le_of_ble_eq_true this.1,fun b hb=>⟨?_,?_⟩⟩
   ·have h2:=Nat.le_of_ble_eq_true this.2.2
    rw[Nat.one_shiftLeft]at h2
    rcases Nat.lt_or_ge b st.m with q|q
    ·exact q
    ·rw[Nat.testBit_lt_two_pow (Nat.lt_of_lt_of_le (Nat.lt_of_succ_le h2) (Nat.pow_le_pow_right (by omega) q))]at hb;cases hb
   have e:=Nat.eq_of_beq_eq_true this.2.1
   rw[←e,Nat.testBit_and,Nat.testBit_or,Bool.and_eq_true,Bool.or_eq_true,x0g]at hb
   exact hb.2
  ·exact h0g h.2.2 st hs
structure Apart (e l:St):Prop where
 w1: ∀b,l.wr b=true→Nat.testBit e.F b=false∧e.wr b=false
 w2: ∀b,e.wr b=true→Nat.testBit l.F b=false
 t1: ∀d,e.d=some d→Nat.testBit l.rd d=false∧l.d≠some d
 t2: ∀d,l.d=some d→Nat.testBit e.rd d=false
theorem f1l {ps:List Nat}{l e:St}(h:a1k ps l e=true)(hn:Nat.testBit (ps.getD l.i 0) e.i=false):Apart e l:=by
 unfold a1k at h
 rw[hn,Bool.or_false]at h
 simp only[apartB,Bool.and_eq_true]at h
 obtain⟨h1,h2,h3,h4⟩:=h
 refine⟨fun b hb=> ?_,fun b hb=>r0t h2 hb,fun d hd=> ?_,fun d hd=>r0t h4 (l0x.2 hd)⟩
 ·have:=r0t h1 hb
  rw[Nat.testBit_or]at this
  simpa [St.wr]using this
 ·have:=r0t h3 (l0x.2 hd)
  rw[Nat.testBit_or,Bool.or_eq_false_iff]at this
  refine⟨this.1,fun e=> ?_⟩
  have:=this.2;rw[l0x.2 e]at this;cases this
theorem Chain.split {t0:List SV}{s0:SW}{st:St}{B:List St}: ∀{A:List St} {t:List SV} {s:SW},Chain P ops t0 s0 (A++st::B) t s→ ∃t1 s1 s2,Chain P ops t0 s0 B t1 s1∧StepOk P ops st t1 s1 s2
 |[],t,s,h=>by
  cases h with
  |cons _ s1 h k=>exact⟨_,_,_,h,k⟩
 |a::A,t,s,h=>by
  cases h with
  |cons _ s1 h k=>exact Chain.split h
theorem Chain.lens {t0:List SV}{s0:SW}{L:List St}{t:List SV}{s:SW}(h:Chain P ops t0 s0 L t s)(hf: ∀st∈L,st.n≤st.m):t.length=t0.length∧s0.len≤s.len∧(∀e∈L,e.m≤s.len)∧(∀b,s0.len≤b→b<s.len→ ∃e∈L,e.n≤b∧b<e.m)∧(∀x,x∈s0.log→x∈s.log)∧(∀e∈L,∀x,Nat.testBit e.W x=true→x∈s.log):=by
 induction h with
 |nil=>exact⟨rfl,Nat.le_refl _,by simp,fun b h1 h2=>by omega,fun _ h=>h,by simp⟩
 |cons st s1 h k ih=>
  obtain⟨i1,i2,i3,i4,i5,i6⟩:=ih fun st hs=>hf st (List.mem_cons_of_mem _ hs)
  have hnm:=hf st List.mem_cons_self
  have hm:=j1d (s1:=s1) (by rw[←k.n,←k.m];exact hnm)
  rw[←k.mg]at hm
  have hlen:st.s.len=st.m:=by rw[hm.len,k.m]
  have hn:=k.n
  refine⟨by rw[d2e,i1],by omega,fun e he=> ?_,fun b h1 h2=> ?_,fun x hx=>(hm.log x).2 (.inr (i5 x hx)),fun e he x hx=> ?_⟩
  ·rcases List.mem_cons.1 he with rfl|he
   ·omega
   ·have:=i3 e he;omega
  ·rcases Nat.lt_or_ge b st.n with q|q
   ·obtain⟨e,e1,e2⟩:=i4 b h1 (by omega)
    exact⟨e,List.mem_cons_of_mem _ e1,e2⟩
   ·exact⟨st,List.mem_cons_self,q,by omega⟩
  ·rcases List.mem_cons.1 he with rfl|he
   ·rw[k.W]at hx;exact(hm.log x).2 (.inl ((b0h _ _).1 hx))
   ·exact(hm.log x).2 (.inr (i6 e he x hx))
theorem Chain.text {t0:List SV}{s0:SW}{L:List St}{t:List SV}{s:SW}(h:Chain P ops t0 s0 L t s)(hf: ∀st∈L,st.n≤st.m):(∀b,s.blk b=h0t s0 L allX b)∧ ∀d,d<t0.length→t[d]? =b2z t0 L allX d:=by
 induction h with
 |nil=>exact⟨fun _=>rfl,fun _ _=>rfl⟩
 | @cons L t s st s1 h k ih=>
  have hlen:=(h.lens fun st hs=>hf st (List.mem_cons_of_mem _ hs)).1
  obtain⟨i1,i2⟩:=ih fun st hs=>hf st (List.mem_cons_of_mem _ hs)
  have hnm:=hf st List.mem_cons_self
  have hm:=j1d (s1:=s1) (by rw[←k.n,←k.m];exact hnm)
  rw[←k.mg]at hm
  have hn:=k.n
  have hmm:=k.m
  have hW:=k.W
  refine⟨fun b=> ?_,fun d hd=> ?_⟩
  ·simp only[h0t,b0v,allX,Bool.true_and]
   cases hw:st.wr b with
   |true=>rfl
   |false=>
    simp only[cond_false]
    have hw': ¬(Nat.testBit st.W b=true∨(st.n≤b∧b<st.m)):=fun e=>by rw[St.wr_iff.2 e]at hw;cases hw
    rcases Nat.lt_or_ge b s.len with q|q
    ·rw[hm.old b (by rw[←hW];cases hh:Nat.testBit st.W b<;>simp_all) q];exact i1 b
    ·have h1:s1.len≤b:=by
      rcases Nat.lt_or_ge b s1.len with u|u
      ·exact absurd (.inr ⟨by omega,by omega⟩) hw'
      ·exact u
     have e1:st.s.blk b=none:=by
      rw[hm.new b (.inr q)];simp only[SW.blk,SW.len]at*;exact List.getElem?_eq_none h1
     have e2:s.blk b=none:=by simp only[SW.blk,SW.len]at*;exact List.getElem?_eq_none q
     have i1b:=i1 b
     rw[e2]at i1b
     rw[e1];exact i1b
  ·simp only[b2z,b0v,allX,Bool.true_and,hitT]
   have i2d:=i2 d hd
   cases hsd:st.d with
   |none=>simpa [put]using i2d
   |some d'=>
    simp only[put,List.getElem?_set,Option.some.injEq]
    by_cases e:d'=d
    ·subst e
     simp only[if_true,decide_true,cond_true]
     rw[if_pos (by omega)]
    ·simp only[e,if_false,decide_false,cond_false];exact i2d
end
end Go.Proofs.Ytoehlcomhpnjgaa.Vx
