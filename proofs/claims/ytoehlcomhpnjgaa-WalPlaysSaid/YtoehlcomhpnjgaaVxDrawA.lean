import Derived.Test.YtoehlcomhpnjgaaVxDraw
noncomputable section
namespace Go.Proofs.Ytoehlcomhpnjgaa.Vx
open Go Go.RowKit
set_option linter.unusedVariables false
theorem l0m (b i:Nat):Nat.testBit (w0c b) i=decide (b=i):=by
 unfold w0c;rw[Nat.one_shiftLeft,Nat.testBit_two_pow]
theorem b0h: ∀(l:List Nat) (b:Nat),Nat.testBit (e0h l) b=true↔b∈l
 |[],b=>by simp[e0h]
 |a::l,b=>by
  simp only[e0h,Nat.testBit_or,Bool.or_eq_true,l0m,decide_eq_true_eq,b0h l b,List.mem_cons]
  exact⟨fun h=>h.imp Eq.symm id,fun h=>h.imp Eq.symm id⟩
theorem x0g (n m b:Nat):Nat.testBit (newM n m) b=true↔n≤b∧b<m:=by
 unfold newM
 rw[Nat.testBit_shiftLeft,Nat.one_shiftLeft,Nat.testBit_two_pow_sub_one]
 simp only[ge_iff_le,Bool.and_eq_true,decide_eq_true_eq]
 omega
theorem r0t {x y b:Nat}(h:Nat.beq (x&&&y) 0=true)(hx:Nat.testBit x b=true):Nat.testBit y b=false:=by
 have h:=Nat.eq_of_beq_eq_true h
 have:Nat.testBit (x&&&y) b=false:=by rw[h];exact Nat.zero_testBit b
 rw[Nat.testBit_and,hx]at this
 simpa using this
theorem l0x {d:Option Tmp}{k:Nat}:Nat.testBit (dstM d) k=true↔d=some k:=by
 cases d with
 |none=>simp[dstM]
 |some d=>simp[dstM,l0m]
theorem g1h (F:Nat): ∀(l:List Blk) (i k:Nat),(l0u F i l)[k]? =(l[k]?).map fun x=>bif Nat.testBit F (i+k)then x else .gone
 |[],i,k=>by simp[l0u]
 |x::xs,i,0=>by simp[l0u]
 |x::xs,i,k+1=>by simp only[l0u,List.getElem?_cons_succ,g1h F xs (i+1) k];rw[show i+1+k=i+(k+1) by omega]
theorem o2e (F:Nat)(s:SW)(b:Nat):(c0v F s).blk b=(s.blk b).map fun x=>bif Nat.testBit F b then x else .gone:=by
 simp only[SW.blk,c0v,g1h,Nat.zero_add]
theorem k0g (F:Nat): ∀(l:List Blk) (i:Nat),(l0u F i l).length=l.length
 |[],_=>rfl
 |x::xs,i=>by simp[l0u,k0g F xs]
theorem i2k (F:Nat)(s:SW):(c0v F s).len=s.len:=k0g F _ _
theorem w0b (F:Nat): ∀(l:List SV) (i k:Nat),(b0m F i l)[k]? =(l[k]?).map fun x=>bif Nat.testBit F (i+k)then x else .dead
 |[],i,k=>by simp[b0m]
 |x::xs,i,0=>by simp[b0m]
 |x::xs,i,k+1=>by simp only[b0m,List.getElem?_cons_succ,w0b F xs (i+1) k];rw[show i+1+k=i+(k+1) by omega]
theorem t0i (F:Nat): ∀(l:List SV) (i:Nat),(b0m F i l).length=l.length
 |[],_=>rfl
 |x::xs,i=>by simp[b0m,t0i F xs]
theorem o0o (W:Nat): ∀(xs ys:List Blk) (i k:Nat),xs.length≤ys.length→(i0u W i xs ys)[k]? =if k<xs.length then(if Nat.testBit W (i+k)=true then ys[k]? else xs[k]?)else ys[k]?
 |[],ys,i,k,h=>by simp[i0u]
 |x::xs,[],i,k,h=>by simp at h
 |x::xs,y::ys,i,0,h=>by simp only[i0u,List.getElem?_cons_zero,List.length_cons,Nat.zero_lt_succ,if_true,Nat.add_zero];cases Nat.testBit W i<;>simp
 |x::xs,y::ys,i,k+1,h=>by
  simp only[i0u,List.getElem?_cons_succ,List.length_cons,Nat.add_lt_add_iff_right]
  rw[o0o W xs ys (i+1) k (by simpa using h),show i+1+k=i+(k+1) by omega]
theorem l0i (W:Nat): ∀(xs ys:List Blk) (i:Nat),xs.length≤ys.length→(i0u W i xs ys).length=ys.length
 |[],ys,i,h=>rfl
 |x::xs,[],i,h=>by simp at h
 |x::xs,y::ys,i,h=>by simp[i0u,l0i W xs ys (i+1) (by simpa using h)]
theorem e0n: ∀(a l:List Nat) (b:Nat),b∈m0j a l↔b∈a∨b∈l
 |[],l,b=>by simp[m0j]
 |x::a,l,b=>by
  simp only[m0j]
  cases h:l.contains x with
  |true=>
   have:=List.contains_iff_mem.1 h
   simp only[cond_true,e0n a l b,List.mem_cons]
   constructor
   ·rintro(k|k)<;>simp[k]
   ·rintro((k|k)|k)
    ·subst k;exact .inr this
    ·exact .inl k
    ·exact .inr k
  |false=>simp only[cond_false,List.mem_cons,e0n a l b,or_assoc]
structure Merged (s s1 m:SW):Prop where
 len:m.len=s1.len
 new: ∀b,Nat.testBit (e0h s1.log) b=true∨s.len≤b→m.blk b=s1.blk b
 old: ∀b,Nat.testBit (e0h s1.log) b=false→b<s.len→m.blk b=s.blk b
 log: ∀b,b∈m.log↔b∈s1.log∨b∈s.log
theorem j1d {s s1:SW}(h:s.len≤s1.len):Merged s s1 (h0s s s1):=by
 unfold h0s
 cases hc:Nat.beq (e0h s1.log) 0&&Nat.beq s1.blks.length s.blks.length with
 |true=>
  rw[Bool.and_eq_true]at hc
  have h1:=Nat.eq_of_beq_eq_true hc.1
  have h2:s1.len=s.len:=Nat.eq_of_beq_eq_true hc.2
  have hm: ∀b,¬b∈s1.log:=fun b hb=>by have:=(b0h s1.log b).2 hb;rw[h1]at this;simp at this
  refine⟨h2.symm,fun b hb=> ?_,fun b _ _=>rfl,fun b=>⟨.inr,fun k=>k.resolve_left (hm b)⟩⟩
  rcases hb with k|k
  ·rw[h1]at k;simp at k
  ·have k1:s1.len≤b:=by omega
   simp only[SW.blk,SW.len,cond_true]at*
   rw[List.getElem?_eq_none k,List.getElem?_eq_none k1]
 |false=>
  simp only[cond_false]
  have hl:s.blks.length≤s1.blks.length:=h
  refine⟨l0i _ _ _ _ hl,fun b hb=> ?_,fun b hb hlt=> ?_,fun b=>e0n _ _ _⟩
  ·simp only[SW.blk,SW.len]at*
   rw[o0o _ _ _ _ _ hl,Nat.zero_add]
   rcases hb with k|k
   ·simp[k]
   ·rw[if_neg (by omega)]
  ·simp only[SW.blk,SW.len]at*
   rw[o0o _ _ _ _ _ hl,Nat.zero_add,if_pos hlt,hb]
   simp
def Down (ops:Array Oper)(X:Nat→Bool):Prop:= ∀i o e,ops[i]? =some o→X i=true→e∈o.after→Region.binds .any e=true→X e.on=true
theorem k1y {acc:List Nat}{i:Nat}: ∀{es:List Edge} {m m':Nat},x0h.edgesM es acc i m=some m'→
  (∀e∈es,e.on<acc.length)∧(∀j,Nat.testBit m' j=true→Nat.testBit m j=true∨ ∃e∈es,j=e.on∨ ∃p,acc[e.on]? =some p∧Nat.testBit p j=true)
 |[],m,m',h=>by simp only[x0h.edgesM,Option.some.injEq]at h;subst h;exact⟨by simp,fun j h=>.inl h⟩
 |e::es,m,m',h=>by
  unfold x0h.edgesM at h
  split at h
  ·rename_i p hp
   obtain⟨h1,h2⟩:=k1y h
   refine⟨fun e' he=> ?_,fun j hj=> ?_⟩
   ·rcases List.mem_cons.1 he with rfl|he
    ·exact(List.getElem?_eq_some_iff.1 hp).1
    ·exact h1 _ he
   ·rcases h2 j hj with k|⟨e',k1,k2⟩
    ·simp only[Nat.testBit_or,Bool.or_eq_true,l0m,decide_eq_true_eq]at k
     rcases k with k|k|k
     ·exact .inl k
     ·exact .inr ⟨e,List.mem_cons_self,.inl k.symm⟩
     ·exact .inr ⟨e,List.mem_cons_self,.inr ⟨p,hp,k⟩⟩
    ·exact .inr ⟨e',List.mem_cons_of_mem _ k1,k2⟩
  ·cases h
structure PredOk (ops:Array Oper)(ps:List Nat):Prop where
 back: ∀i o e,i<ps.length→ops[i]? =some o→e∈o.after→Region.binds .any e=true→e.on<i
 lt: ∀i p,ps[i]? =some p→ ∀j,Nat.testBit p j=true→j<i
 down: ∀X,Down ops X→ ∀i p,ps[i]? =some p→X i=true→ ∀j,Nat.testBit p j=true→X j=true
theorem n1f {ops:Array Oper}: ∀(k n:Nat) (acc ps:List Nat),acc.length=k→PredOk ops acc→x0h ops (List.range' k n) acc=some ps→PredOk ops ps∧ps.length=k+n
 |k,0,acc,ps,hl,hp,h=>by simp only[List.range'_zero,x0h,Option.some.injEq]at h;subst h;exact⟨hp,hl⟩
 |k,n+1,acc,ps,hl,hp,h=>by
  rw[List.range'_succ]at h
  unfold x0h at h
  split at h
  ·cases h
  ·rename_i o ho
   split at h
   ·rename_i m hm
    obtain⟨e1,e2⟩:=k1y hm
    have:=n1f (k+1) n (acc++[m]) ps (by simp[hl]) ?_ h
    ·exact⟨this.1,by rw[this.2];omega⟩
    ·refine⟨fun i o' e hi ho' he hb=> ?_,fun i p hpi j hj=> ?_,fun X hX i p hpi hXi j hj=> ?_⟩
     ·rcases Nat.lt_or_ge i acc.length with q|q
      ·exact hp.back i o' e q ho' he hb
      ·have:i=k:=by simp at hi;omega
       subst this
       rw[ho]at ho';cases ho'
       have:=e1 e (List.mem_filter.2 ⟨by simpa using he,hb⟩)
       omega
     ·rcases Nat.lt_or_ge i acc.length with q|q
      ·rw[List.getElem?_append_left q]at hpi
       exact hp.lt i p hpi j hj
      ·rw[List.getElem?_append_right q]at hpi
       have hi:i=k:=by
        have:=(List.getElem?_eq_some_iff.1 hpi).1
        simp at this;omega
       subst hi
       rw[hl,Nat.sub_self]at hpi
       simp only[List.getElem?_cons_zero,Option.some.injEq]at hpi
       subst hpi
       rcases e2 j hj with u|⟨e,u1,u2⟩
       ·simp at u
       ·have:=e1 e u1
        rcases u2 with u2|⟨p,u2,u5⟩
        ·omega
        ·have:=hp.lt _ p u2 j u5;omega
     ·rcases Nat.lt_or_ge i acc.length with q|q
      ·rw[List.getElem?_append_left q]at hpi
       exact hp.down X hX i p hpi hXi j hj
      ·rw[List.getElem?_append_right q]at hpi
       have hi:i=k:=by
        have:=(List.getElem?_eq_some_iff.1 hpi).1
        simp at this;omega
       subst hi
       rw[hl,Nat.sub_self]at hpi
       simp only[List.getElem?_cons_zero,Option.some.injEq]at hpi
       subst hpi
       rcases e2 j hj with u|⟨e,u1,u2⟩
       ·simp at u
       ·obtain⟨u3,u4⟩:=List.mem_filter.1 u1
        have hxe:X e.on=true:=hX i o e ho hXi (by simpa using u3) u4
        rcases u2 with u2|⟨p,u2,u5⟩
        ·rw[u2];exact hxe
        ·exact hp.down X hX e.on p u2 hxe j u5
   ·cases h
theorem g2d {ops:Array Oper}{ps:List Nat}(h:d1x ops=some ps):PredOk ops ps∧ps.length=ops.size:=by
 unfold d1x at h
 rw[List.range_eq_range']at h
 have:=n1f 0 ops.size [] ps rfl ⟨fun i o e hi=>by simp at hi,fun i p hpi=>by simp at hpi,fun X hX i p hpi=>by simp at hpi⟩ h
 exact⟨this.1,by rw[this.2];omega⟩
end Go.Proofs.Ytoehlcomhpnjgaa.Vx
