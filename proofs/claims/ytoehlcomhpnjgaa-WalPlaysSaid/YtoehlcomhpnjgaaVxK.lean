import Derived.Test.YtoehlcomhpnjgaaVxDrawF
noncomputable section
namespace Go.Proofs.Ytoehlcomhpnjgaa.Vx
open Go Go.RowKit
set_option linter.unusedVariables false
structure FrameK (K:Nat)(log:List Nat)(r r':RM)(σ σ':Snap)(w w':World):Prop where
 os:w'.os=w.os
 tape:w'.tape=w.tape
 output:w'.output=w.output
 size:w.heap.size≤w'.heap.size
 ls:σ.le σ'
 fresh: ∀b j,r'.at b j→(b<K∧r.at b j)∨(K≤b∧ ∃b',K≤b'∧r.at b' j)∨w.heap.size≤j
 keep: ∀j,j<w.heap.size→(∀b,b∈log∨K≤b→ ¬r.at b j)→w'.heap[j]? =w.heap[j]?
 same: ∀b,b<K→ ¬b∈log→r'.leAt r b
 cel: ∀b x,b<K→r.cel b=some x→r'.cel b=some x
 mp: ∀b x,b<K→r.mp b=some x→r'.mp b=some x
 stay: ∀j c,σ' j=some c→σ j=some c∨w.heap.size≤j∨ ∃b,(b∈log∨K≤b)∧r.at b j
theorem RM.eqAt.refl (r:RM)(b:Nat):r.eqAt r b:=⟨rfl,fun _=>rfl,rfl⟩
theorem FrameK.refl (K:Nat)(log:List Nat)(r:RM)(σ:Snap)(w:World):FrameK K log r r σ σ w w:=
 ⟨rfl,rfl,rfl,Nat.le_refl _,Snap.le_refl _,fun b j h=>(Nat.lt_or_ge b K).elim (fun q=>.inl ⟨q,h⟩) fun q=>.inr (.inl ⟨q,b,q,h⟩),fun _ _ _=>rfl,fun _ _ _=>(RM.eqAt.refl _ _).leAt,fun _ _ _ h=>h,fun _ _ _ h=>h,fun _ _ h=>.inl h⟩
theorem FrameK.trans {K:Nat}{log log':List Nat}{r r1 r2:RM}{σ σ1 σ2:Snap}{w w1 w2:World}(h:FrameK K log r r1 σ σ1 w w1)(k:FrameK K log' r1 r2 σ1 σ2 w1 w2)(hl: ∀b,b∈log→b<K→b∈log'):FrameK K log' r r2 σ σ2 w w2:=by
 have hlog: ∀{b},b∈log∨K≤b→b∈log'∨K≤b:=fun{b} e=>by
  rcases e with e|e
  ·rcases Nat.lt_or_ge b K with q|q
   ·exact .inl (hl b e q)
   ·exact .inr q
  ·exact .inr e
 have back: ∀{b j},(b∈log'∨K≤b)→r1.at b j→(∃b',(b'∈log'∨K≤b')∧r.at b' j)∨w.heap.size≤j:=fun{b j} hb hat=>by
  rcases h.fresh b j hat with⟨q1,q2⟩|⟨q1,b',q2,q3⟩|q
  ·exact .inl ⟨b,hb,q2⟩
  ·exact .inl ⟨b',.inr q2,q3⟩
  ·exact .inr q
 refine⟨k.os.trans h.os,k.tape.trans h.tape,k.output.trans h.output,Nat.le_trans h.size k.size,Snap.le_trans h.ls k.ls,fun b j hj=> ?_,fun j hj hn=> ?_,fun b hb hm=> ?_,fun b x hb e=>k.cel b x hb (h.cel b x hb e),fun b x hb e=>k.mp b x hb (h.mp b x hb e),fun j c hj=> ?_⟩
 ·rcases k.fresh b j hj with⟨q1,q2⟩|⟨q1,b',q2,q3⟩|q
  ·rcases h.fresh b j q2 with u|⟨u1,_⟩|u
   ·exact .inl u
   ·omega
   ·exact .inr (.inr u)
  ·rcases h.fresh b' j q3 with⟨u1,_⟩|⟨_,b2,u2,u3⟩|u
   ·omega
   ·exact .inr (.inl ⟨q1,b2,u2,u3⟩)
   ·exact .inr (.inr u)
  ·exact .inr (.inr (Nat.le_trans h.size q))
 ·rw[k.keep j (Nat.lt_of_lt_of_le hj h.size) fun b hb hat=> ?_]
  ·exact h.keep j hj fun b hb=>hn b (hlog hb)
  ·rcases back hb hat with⟨b',q1,q2⟩|q
   ·exact hn b' q1 q2
   ·omega
 ·exact(k.same b hb hm).trans (h.same b hb fun e=>hm (hl b e hb))
 ·rcases k.stay j c hj with q|q|⟨b,q1,q2⟩
  ·rcases h.stay j c q with u|u|⟨b,u1,u2⟩
   ·exact .inl u
   ·exact .inr (.inl u)
   ·exact .inr (.inr ⟨b,hlog u1,u2⟩)
  ·exact .inr (.inl (Nat.le_trans h.size q))
  ·rcases back q1 q2 with u|u
   ·exact .inr (.inr u)
   ·exact .inr (.inl u)
theorem FrameK.more {K:Nat}{log log':List Nat}{r r1:RM}{σ σ1:Snap}{w w1:World}(h:FrameK K log r r1 σ σ1 w w1)(hl: ∀b,b∈log→b<K→b∈log'):FrameK K log' r r1 σ σ1 w w1:=h.trans (.refl ..) hl
theorem Frame.toK {n K:Nat}{log:List Nat}{r r':RM}{σ σ':Snap}{w w':World}(h:Frame n log r r' σ σ' w w')(hr:r.le r')(hs:σ.le σ')(hK:K≤n):FrameK K log r r' σ σ' w w':=by
 refine⟨h.os,h.tape,h.output,h.size,hs,fun b j hj=> ?_,fun j hj hn=>h.keep j hj fun b hb=>hn b (.inl hb),fun b hb hm=>(RM.eqAt.symm (h.same b (by omega) hm)).leAt,fun b x _ e=>hr.cel b x e,fun b x _ e=>hr.mp b x e,fun j c hj=> ?_⟩
 ·rcases h.fresh b j hj with q|q
  ·rcases Nat.lt_or_ge b K with u|u
   ·exact .inl ⟨u,q⟩
   ·exact .inr (.inl ⟨u,b,u,q⟩)
  ·exact .inr (.inr q)
 ·rcases h.stay j c hj with q|q|⟨b,q1,q2⟩
  ·exact .inl q
  ·exact .inr (.inl q)
  ·exact .inr (.inr ⟨b,.inl q1,q2⟩)
def s0x (K:Nat)(r:RM)(σ:Snap)(s:SW)(w:World)(t1:List SV)(s1:SW)(t1':Array Value)(w':World):Prop:=
 ∃r' σ',Rel r' σ' s1 w'∧FrameK K s1.log r r' σ σ' w w'∧LRel r' σ' t1 t1'∧(∀x,x∈s.log→x<K→x∈s1.log)∧K≤s1.len
def y1d (K:Nat)(r:RM)(σ:Snap)(s:SW)(w:World)(v:SV)(s1:SW)(v':Value)(w':World):Prop:=
 ∃r' σ',Rel r' σ' s1 w'∧FrameK K s1.log r r' σ σ' w w'∧VRel r' σ' v v'∧(∀x,x∈s.log→x<K→x∈s1.log)∧K≤s1.len
theorem Then.toK {K:Nat}{r:RM}{σ:Snap}{s:SW}{w:World}{t1:List SV}{s1:SW}{t1':Array Value}{w':World}(h:Then r σ s w t1 s1 t1' w')(hK:K≤s.len):s0x K r σ s w t1 s1 t1' w':=by
 obtain⟨r',σ',h1,h2,h3,h4,h5,h6,h7⟩:=h
 exact⟨r',σ',h3,h4.toK h1 h2 hK,h5,fun x hx _=>h6 x hx,by omega⟩
theorem s0x.refl {K:Nat}{r:RM}{σ:Snap}{s:SW}{w:World}{t:List SV}{t':Array Value}(hr:Rel r σ s w)(ht:LRel r σ t t')(hK:K≤s.len):s0x K r σ s w t s t' w:=
 ⟨r,σ,hr,FrameK.refl ..,ht,fun _ h _=>h,hK⟩
theorem s0x.trans {K:Nat}{r r1:RM}{σ σ1:Snap}{s s1 s2:SW}{w w1 w2:World}{t2:List SV}{t2':Array Value}(fr:FrameK K s1.log r r1 σ σ1 w w1)(lg: ∀x,x∈s.log→x<K→x∈s1.log)
  (h:s0x K r1 σ1 s1 w1 t2 s2 t2' w2):s0x K r σ s w t2 s2 t2' w2:=by
 obtain⟨r2,σ2,h1,h2,h3,h4,h5⟩:=h
 exact⟨r2,σ2,h1,fr.trans h2 h4,h3,fun x hx hk=>h4 x (lg x hx hk) hk,h5⟩
end Go.Proofs.Ytoehlcomhpnjgaa.Vx
