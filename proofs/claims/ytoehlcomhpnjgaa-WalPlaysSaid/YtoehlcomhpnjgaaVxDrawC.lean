import Derived.Test.YtoehlcomhpnjgaaVxDrawB
noncomputable section
namespace Go.Proofs.Ytoehlcomhpnjgaa.Vx
open Go Go.RowKit
set_option linter.unusedVariables false
def RM.upto (r:RM)(n:Nat):RM:=⟨fun b=>if b<n then r.cel b else none,fun b g=>if b<n then r.arr b g else none,fun b=>if b<n then r.mp b else none⟩
def RM.mix (r r1:RM)(f:Nat→Bool):RM:=⟨fun b=>if f b=true then r1.cel b else r.cel b,fun b g=>if f b=true then r1.arr b g else r.arr b g,fun b=>if f b=true then r1.mp b else r.mp b⟩
def RM.eqAt (r r1:RM)(b:Nat):Prop:=r1.cel b=r.cel b∧(∀g,r1.arr b g=r.arr b g)∧r1.mp b=r.mp b
theorem RM.eqAt.at {r r1:RM}{b:Nat}(h:r.eqAt r1 b)(j:Nat):r1.at b j↔r.at b j:=by
 obtain⟨h1,h2,h3⟩:=h
 unfold RM.at
 rw[h1,h3]
 simp only[h2]
theorem RM.eqAt.live {r r1:RM}{b:Nat}(h:r.eqAt r1 b)(x:Option Blk)(j:Nat):r1.live x b j↔r.live x b j:=by
 obtain⟨h1,h2,h3⟩:=h
 cases x with
 |none=>rfl
 |some x=>cases x<;>simp only[RM.live,h1,h2,h3]
theorem RM.upto_eq {r:RM}{n b:Nat}(h:b<n):r.eqAt (r.upto n) b:=⟨if_pos h,fun g=>if_pos h,if_pos h⟩
theorem RM.upto_le (r:RM)(n:Nat):(r.upto n).le r:=by
 refine⟨fun b x h=> ?_,fun b g x h=> ?_,fun b x h=> ?_⟩<;>
 ·simp only[RM.upto]at h
  split at h
  ·exact h
  ·cases h
theorem RM.upto_at {r:RM}{n b j:Nat}(h:(r.upto n).at b j):r.at b j∧b<n:=by
 refine⟨RM.at_mono (r.upto_le n) h,?_⟩
 rcases h with⟨m,h⟩|⟨g,x,o,h,_⟩|h<;>
 ·simp only[RM.upto]at h
  split at h
  ·assumption
  ·cases h
theorem RM.mix_t {r r1:RM}{f:Nat→Bool}{b:Nat}(h:f b=true):r1.eqAt (r.mix r1 f) b:=⟨if_pos h,fun g=>if_pos h,if_pos h⟩
theorem RM.mix_f {r r1:RM}{f:Nat→Bool}{b:Nat}(h:f b=false):r.eqAt (r.mix r1 f) b:=by
 have h': ¬f b=true:=by rw[h];simp
 exact⟨if_neg h',fun g=>if_neg h',if_neg h'⟩
def RM.leAt (r r1:RM)(b:Nat):Prop:=(∀x,r.cel b=some x→r1.cel b=some x)∧(∀g x,r.arr b g=some x→r1.arr b g=some x)∧ ∀x,r.mp b=some x→r1.mp b=some x
theorem RM.le_of {r r1:RM}(h: ∀b,r.leAt r1 b):r.le r1:=⟨fun b=>(h b).1,fun b=>(h b).2.1,fun b=>(h b).2.2⟩
theorem RM.le.leAt {r r1:RM}(h:r.le r1)(b:Nat):r.leAt r1 b:=⟨h.cel b,h.arr b,h.mp b⟩
theorem RM.eqAt.leAt {r r1:RM}{b:Nat}(h:r.eqAt r1 b):r.leAt r1 b:=⟨fun x k=>by rw[h.1];exact k,fun g x k=>by rw[h.2.1];exact k,fun x k=>by rw[h.2.2];exact k⟩
theorem RM.eqAt.symm {r r1:RM}{b:Nat}(h:r.eqAt r1 b):r1.eqAt r b:=⟨h.1.symm,fun g=>(h.2.1 g).symm,h.2.2.symm⟩
theorem RM.eqAt.trans {r r1 r2:RM}{b:Nat}(h:r.eqAt r1 b)(k:r1.eqAt r2 b):r.eqAt r2 b:=⟨k.1.trans h.1,fun g=>(k.2.1 g).trans (h.2.1 g),k.2.2.trans h.2.2⟩
theorem RM.leAt.trans {r r1 r2:RM}{b:Nat}(h:r.leAt r1 b)(k:r1.leAt r2 b):r.leAt r2 b:=⟨fun x q=>k.1 x (h.1 x q),fun g x q=>k.2.1 g x (h.2.1 g x q),fun x q=>k.2.2 x (h.2.2 x q)⟩
theorem RM.leAt_none {r r1:RM}{b:Nat}(h:r.cel b=none∧(∀g,r.arr b g=none)∧r.mp b=none):r.leAt r1 b:=
 ⟨fun x k=>(by rw[h.1]at k;cases k),fun g x k=>(by rw[h.2.1]at k;cases k),fun x k=>(by rw[h.2.2]at k;cases k)⟩
theorem RM.at_has {r:RM}{b j:Nat}(h:r.at b j):(∃x,r.cel b=some x)∨(∃g x,r.arr b g=some x)∨ ∃x,r.mp b=some x:=by
 rcases h with⟨n,h⟩|⟨g,x,o,h,_⟩|h
 ·exact .inl ⟨_,h⟩
 ·exact .inr (.inl ⟨g,x,h⟩)
 ·exact .inr (.inr ⟨_,h⟩)
theorem RM.live_some {r:RM}{x:Option Blk}{b j:Nat}(h:r.live x b j): ∃y,x=some y∧y≠.gone:=by
 unfold RM.live at h
 split at h
 ·exact⟨_,rfl,by simp⟩
 ·exact⟨_,rfl,by simp⟩
 ·exact⟨_,rfl,by simp⟩
 ·exact⟨_,rfl,by simp⟩
 ·exact⟨_,rfl,by simp⟩
 ·exact⟨_,rfl,by simp⟩
 ·exact h.elim
inductive Names:SV→Nat→Prop
 |own (b g:Nat):Names (.own b g) b
 |part (b g lo n:Nat):Names (.part b g lo n) b
 |ptr (b o:Nat):Names (.ptr b o) b
 |eptr (b g i o:Nat):Names (.eptr b g i o) b
 |aptr (b o w n i k:Nat):Names (.aptr b o w n i k) b
 |asl (b o n:Nat):Names (.asl b o n) b
 |optr (b o:Nat):Names (.optr true b o) b
 |asp (b o n m:Nat):Names (.asp b o n m) b
 |esp (b g i n m:Nat):Names (.esp b g i n m) b
 |mapv (b:Nat):Names (.mapv b) b
 |itr (b:Nat):Names (.itr b) b
 |iptr (es:List SV) (o:Nat) (e:SV) (b:Nat) (h:e∈es) (k:Names e b):Names (.iptr es o) b
 |fs (f:Fn) (fs cs:List SV) (e:SV) (b:Nat) (h:e∈fs) (k:Names e b):Names (.fn f fs cs) b
 |cs (f:Fn) (fs cs:List SV) (e:SV) (b:Nat) (h:e∈cs) (k:Names e b):Names (.fn f fs cs) b
 |iface (t:TypeId) (v:SV) (b:Nat) (k:Names v b):Names (.iface t v) b
 |agg (es:List SV) (e:SV) (b:Nat) (h:e∈es) (k:Names e b):Names (.agg es) b
 |tup (es:List SV) (e:SV) (b:Nat) (h:e∈es) (k:Names e b):Names (.tup es) b
theorem VRel.same {r r':RM}{σ:Snap}{v:SV}{v':Value}(h:VRel r σ v v'):(∀b,Names v b→r.eqAt r' b)→VRel r' σ v v':=by
 induction h with
 |dead v=>exact fun _=>.dead v
 |undef=>exact fun _=>.undef
 |bool b=>exact fun _=>.bool b
 |int k n=>exact fun _=>.int k n
 |str s=>exact fun _=>.str s
 |imm t l v h=>exact fun _=>.imm t l v h
 |nilsl=>exact fun _=>.nilsl
 |own b g x h=>exact fun e=>.own b g x (by rw[(e b (.own ..)).2.1];exact h)
 |part b g lo len x a cap h h1 h2 h3 h4 h5=>exact fun e=>.part b g lo len x a cap (by rw[(e b (.part ..)).2.1];exact h) h1 h2 h3 h4 h5
 |ptr b o j n h=>exact fun e=>.ptr b o j n (by rw[(e b (.ptr ..)).1];exact h)
 |eptr b g i o x j n h h1 h2=>exact fun e=>.eptr b g i o x j n (by rw[(e b (.eptr ..)).2.1];exact h) h1 h2
 |aptr b o w m i k j n h h1=>exact fun e=>.aptr b o w m i k j n (by rw[(e b (.aptr ..)).1];exact h) h1
 |asl b o n j p h=>exact fun e=>.asl b o n j p (by rw[(e b (.asl ..)).1];exact h)
 |optrT b o j n h=>exact fun e=>.optrT b o j n (by rw[(e b (.optr ..)).1];exact h)
 |optrF b o=>exact fun _=>.optrF b o
 |asp b o n m j p h h1=>exact fun e=>.asp b o n m j p (by rw[(e b (.asp ..)).1];exact h) h1
 |esp b g i n m x j q h h1 h2 h3=>exact fun e=>.esp b g i n m x j q (by rw[(e b (.esp ..)).2.1];exact h) h1 h2 h3
 |iptr es o base j c hj hb h1 ha ih=>exact fun e=>.iptr es o base j c hj hb (fun k x hx hn v hv=>ih k x hx hn v hv fun b hb=>e b (.iptr _ _ x b (h0d hx) hb)) ha
 |nilptr=>exact fun _=>.nilptr
 |mapv b j h=>exact fun e=>.mapv b j (by rw[(e b (.mapv ..)).2.2];exact h)
 |itr b j h=>exact fun e=>.itr b j (by rw[(e b (.itr ..)).2.2];exact h)
 |nilmap=>exact fun _=>.nilmap
 |fn f fs cs fs' cs' h1 h2 h3 h4 i2 i4=>exact fun e=>.fn f fs cs fs' cs' h1 (fun i v v' hv hv'=>i2 i v v' hv hv' fun b hb=>e b (.fs _ _ _ v b (List.mem_of_getElem? hv) hb)) h3 (fun i v v' hv hv'=>i4 i v v' hv hv' fun b hb=>e b (.cs _ _ _ v b (List.mem_of_getElem? hv) hb))
 |nilfn=>exact fun _=>.nilfn
 |iface t v v' h ih=>exact fun e=>.iface t v v' (ih fun b hb=>e b (.iface _ _ b hb))
 |nilif=>exact fun _=>.nilif
 |agg es c hw h1 ha ih=>exact fun e=>.agg es c hw (fun k x hx hn v hv=>ih k x hx hn v hv fun b hb=>e b (.agg _ x b (h0d hx) hb)) ha
 |tup es c h1 h2 ih=>exact fun e=>.tup es c h1 fun i v v' hv hv'=>ih i v v' hv hv' fun b hb=>e b (.tup _ v b (List.mem_of_getElem? hv) hb)
theorem z0n {es:List SV}{e:SV}: ∀(o:Nat),e∈es→ ∃k,(k,e)∈offs es o:=by
 induction es with
 |nil=>intro o h;cases h
 |cons x es ih=>
  intro o h
  rcases List.mem_cons.1 h with rfl|h
  ·exact⟨o,by simp[offs]⟩
  ·obtain⟨k,hk⟩:=ih (o+x.w) h;exact⟨k,by simp[offs,hk]⟩
theorem h1j {e:SV}{b:Nat}(h:Names e b):e.isArr=false:=by cases h<;>rfl
def RM.has (r:RM)(b:Nat):Prop:=(∃x,r.cel b=some x)∨(∃g x,r.arr b g=some x)∨ ∃x,r.mp b=some x
theorem VRel.has {r:RM}{σ:Snap}{v:SV}{v':Value}(h:VRel r σ v v'): ∀b,Names v b→r.has b:=by
 induction h with
 |own b g x h=>intro b' hb;cases hb;exact .inr (.inl ⟨g,x,h⟩)
 |part b g lo len x a cap h h1 h2 h3 h4 h5=>intro b' hb;cases hb;exact .inr (.inl ⟨g,x,h⟩)
 |ptr b o j n h=>intro b' hb;cases hb;exact .inl ⟨_,h⟩
 |asl b o n j p h=>intro b' hb;cases hb;exact .inl ⟨_,h⟩
 |optrT b o j n h=>intro b' hb;cases hb;exact .inl ⟨_,h⟩
 |asp b o n m j p h h1=>intro b' hb;cases hb;exact .inl ⟨_,h⟩
 |esp b g i n m x j q h h1 h2 h3=>intro b' hb;cases hb;exact .inr (.inl ⟨g,x,h⟩)
 |eptr b g i o x j n h h1 h2=>intro b' hb;cases hb;exact .inr (.inl ⟨g,x,h⟩)
 |aptr b o w m i k j n h h1=>intro b' hb;cases hb;exact .inl ⟨_,h⟩
 |iptr es o base j c hj hb h1 ha ih=>
  intro b' hb'
  cases hb' with
  |iptr _ _ e _ he k=>
   obtain⟨q,hq⟩:=z0n 0 he
   have hn:=h1j k
   have hlt:=f0g hq
   rw[o0s hn]at hlt
   have:=hb q (by omega)
   exact ih q e hq hn c[base+q] (Array.getElem?_eq_getElem this) b' k
 |mapv b j h=>intro b' hb;cases hb;exact .inr (.inr ⟨_,h⟩)
 |itr b j h=>intro b' hb;cases hb;exact .inr (.inr ⟨_,h⟩)
 |fn f fs cs fs' cs' h1 h2 h3 h4 i2 i4=>
  intro b' hb
  cases hb with
  |fs _ _ _ e _ he k=>
   obtain⟨i,hi⟩:=List.getElem?_of_mem he
   have hlt:=(List.getElem?_eq_some_iff.1 hi).1
   exact i2 i e _ hi (Array.getElem?_eq_getElem (by omega)) b' k
  |cs _ _ _ e _ he k=>
   obtain⟨i,hi⟩:=List.getElem?_of_mem he
   have hlt:=(List.getElem?_eq_some_iff.1 hi).1
   exact i4 i e _ hi (Array.getElem?_eq_getElem (by omega)) b' k
 |iface t v v' h ih=>intro b' hb;cases hb;exact ih _ ‹_›
 |agg es c hw h1 ha ih=>
  intro b' hb'
  cases hb' with
  |agg _ e _ he k=>
   obtain⟨q,hq⟩:=z0n 0 he
   have hn:=h1j k
   have hlt:=f0g hq
   rw[o0s hn]at hlt
   exact ih q e hq hn c[q] (Array.getElem?_eq_getElem (by omega)) b' k
 |tup es c h1 h2 ih=>
  intro b' hb
  cases hb with
  |tup _ e _ he k=>
   obtain⟨i,hi⟩:=List.getElem?_of_mem he
   have hlt:=(List.getElem?_eq_some_iff.1 hi).1
   exact ih i e _ hi (Array.getElem?_eq_getElem (by omega)) b' k
 |_=>intro b' hb;cases hb
theorem ERel.same {r r':RM}{σ:Snap}{es:List SV}{get:Nat→Option Value}{o:Nat}(h:ERel r σ es get o)(e: ∀x∈es,∀b,Names x b→r.eqAt r' b):ERel r' σ es get o:=
 ⟨fun k x hx hn=>let⟨v,h1,h2⟩:=h.one k x hx hn;⟨v,h1,h2.same fun b hb=>e x (h0d hx) b hb⟩,h.arr⟩
theorem ERel.has {r:RM}{σ:Snap}{es:List SV}{get:Nat→Option Value}{o:Nat}(h:ERel r σ es get o): ∀x∈es,∀b,Names x b→r.has b:=by
 intro x hx b hb
 obtain⟨q,hq⟩:=z0n 0 hx
 obtain⟨v,_,h2⟩:=h.one q x hq (h1j hb)
 exact h2.has b hb
theorem LRel.same {r r':RM}{σ:Snap}{l:List SV}{a:Array Value}(h:LRel r σ l a)(e: ∀y∈l,∀b,Names y b→r.eqAt r' b):LRel r' σ l a:=
 ⟨h.size,fun i v v' hv hv'=>(h.at_ i v v' hv hv').same fun b hb=>e v (List.mem_of_getElem? hv) b hb⟩
theorem FEnt.names {r:RM}{σ:Snap}{kt:Ty}{ks:List kt.den}{es:List SV}{ms:Array MapEntry}(h:FEnt r σ kt ks es ms): ∀y∈es,∀b,Names y b→r.has b:=by
 intro y hy b hb
 obtain⟨i,hi⟩:=List.getElem?_of_mem hy
 obtain⟨v',h1,h2⟩:=h.vals.get hi
 exact h2.has b hb
theorem VRow.names {r:RM}{σ:Snap}{es:List SV}{x:ALoc}{heap:Array Obj}(h:VRow r σ es x heap): ∀y∈es,∀b,Names y b→r.has b:=by
 intro y hy b hb
 cases hx:x.a with
 |none=>
  obtain⟨k,hk⟩:=z0n 0 hy
  have:=f0g hk
  rw[o0s (h1j hb)]at this
  have:=h.nil hx;have:=h.len;have:=h.cap;omega
 |some jo=>
  obtain⟨j,o⟩:=jo
  obtain⟨c,T,f,h1,h2,h3,h4⟩:=h.row j o hx
  exact h4.has y hy b hb
theorem VRow.same {r r':RM}{σ:Snap}{es:List SV}{x:ALoc}{heap:Array Obj}(h:VRow r σ es x heap)(e: ∀y∈es,∀b,Names y b→r.eqAt r' b):VRow r' σ es x heap:=
 ⟨h.wd,h.len,h.cap,h.nil,fun j o hx=>by
  obtain⟨c,T,f,h1,h2,h3,h4⟩:=h.row j o hx
  exact⟨c,T,f,h1,h2,h3,h4.same e⟩⟩
section
variable {r r1:RM} {σ σ1:Snap} {S s1 S':SW} {w w1:World} {n:Nat}
theorem Rel.has_lt (h:Rel r σ S w){b:Nat}(k:r.has b):b<S.len:=by
 rcases k with⟨x,k⟩|⟨g,x,k⟩|⟨x,k⟩
 ·exact h.dcel b x k
 ·exact h.darr b g x k
 ·exact h.dmp b x k
theorem Rel.less (h:Rel r σ S w){s':SW}(hs: ∀b x,s'.blk b=some x→x≠.gone→S.blk b=some x)
  (hn: ∀b es j m,s'.blk b=some (.cells es)→r.cel b=some (j,m)→ ∀x∈es,∀c,Names x c→c<s'.len)
  (hnv: ∀b g es x,s'.blk b=some (.vec g es)→r.arr b g=some x→ ∀y∈es,∀c,Names y c→c<s'.len)
  (hnf: ∀b kt ks es j,s'.blk b=some (.fmap kt ks es)→r.mp b=some j→ ∀y∈es,∀c,Names y c→c<s'.len):Rel (r.upto s'.len) σ s' w:=by
 have lt: ∀{b x},s'.blk b=some x→b<s'.len:=fun e=>(List.getElem?_eq_some_iff.1 e).1
 refine⟨h.snap,fun b x k=> ?_,fun b g x k=> ?_,fun b x k=> ?_,fun b j k=>h.inb b j (RM.upto_at k).1,?_,?_,?_,fun b b' j k k'=>h.uniq b b' j (RM.upto_at k).1 (RM.upto_at k').1,?_,?_,?_,?_,?_,?_,?_⟩
 ·exact(RM.upto_at (.inl ⟨x.2,k⟩)).2
 ·simp only[RM.upto]at k
  split at k
  ·assumption
  ·cases k
 ·exact(RM.upto_at (j:=x) (.inr (.inr k))).2
 ·intro b es j m e k
  have k':=(r.upto_le _).cel _ _ k
  obtain⟨c,T,f,h1,h2,h3,h4⟩:=h.cel b es j m (hs b _ e (by simp)) k'
  exact⟨c,T,f,h1,h2,h3,h4.same fun x hx c hc=>RM.upto_eq (hn b es j m e k' x hx c hc)⟩
 ·intro b t g l x e k
  exact h.arr b t g l x (hs b _ e (by simp)) ((r.upto_le _).arr _ _ _ k)
 ·intro b t g l x e k
  exact h.frz b t g l x (hs b _ e (by simp)) ((r.upto_le _).arr _ _ _ k)
 ·intro b j k
  obtain⟨y,e,hy⟩:=RM.live_some k
  refine h.free b j ?_
  rw[hs b y e hy,←e]
  exact((RM.upto_eq (lt e)).live _ _).1 k
 ·intro b t g l g' e hg
  have:=h.gen b t g l g' (hs b _ e (by simp)) hg
  rw[(RM.upto_eq (lt e)).2.1]
  exact this
 ·intro b t p j e k
  exact h.itr b t p j (hs b _ e (by simp)) ((r.upto_le _).mp _ _ k)
 ·intro b g es x e k
  have k':=(r.upto_le _).arr _ _ _ k
  exact(h.vec b g es x (hs b _ e (by simp)) k').same fun y hy c hc=>RM.upto_eq (hnv b g es x e k' y hy c hc)
 ·intro b g es g' e hg
  have:=h.vgen b g es g' (hs b _ e (by simp)) hg
  rw[(RM.upto_eq (lt e)).2.1]
  exact this
 ·intro b kt vt l j e k
  exact h.map b kt vt l j (hs b _ e (by simp)) ((r.upto_le _).mp _ _ k)
 ·intro b kt ks es j e k
  have k':=(r.upto_le _).mp _ _ k
  obtain⟨ms,h1,h2⟩:=h.fmap b kt ks es j (hs b _ e (by simp)) k'
  exact⟨ms,h1,h2.size,h2.vals.same fun y hy c hc=>RM.upto_eq (hnf b kt ks es j e k' y hy c hc),h2.ent⟩
structure Mixed (r r1 r':RM)(σ σ1:Snap)(S S':SW)(w w1:World):Prop where
 rel:Rel r' σ1 S' w1
 le:r.le r'
 le1:r1.le r'
theorem Rel.mix (h:Rel r σ S w)(k:Rel r1 σ1 s1 w1){log:List Nat}(fr:Frame n log (r.upto n) r1 σ σ1 w w1)(hs:σ.le σ1)(hr:(r.upto n).le r1){f:Nat→Bool}(hf: ∀b,f b=true↔b∈log∨(n≤b∧b<s1.len))
  (hnew: ∀b,n≤b→b<s1.len→r.cel b=none∧(∀g,r.arr b g=none)∧r.mp b=none) (hlog: ∀b,b∈log→b<n∨b<s1.len)
  (hS1: ∀b x,f b=true→S'.blk b=some x→x≠.gone→s1.blk b=some x) (hS0: ∀b x,f b=false→S'.blk b=some x→x≠.gone→S.blk b=some x) (hl:S.len≤S'.len) (hl1:s1.len≤S'.len) (hn:n≤s1.len):
  Mixed r r1 (r.mix r1 f) σ σ1 S S' w w1:=by
 have eqt: ∀{b},f b=true→r1.eqAt (r.mix r1 f) b:=fun e=>RM.mix_t e
 have eqf: ∀{b},f b=false→r.eqAt (r.mix r1 f) b:=fun e=>RM.mix_f e
 have le:r.le (r.mix r1 f):=by
  refine RM.le_of fun b=> ?_
  cases e:f b with
  |false=>exact(eqf e).leAt
  |true=>
   rcases Nat.lt_or_ge b n with q|q
   ·exact(RM.upto_eq (r:=r) q).leAt.trans ((hr.leAt b).trans (eqt e).leAt)
   ·refine RM.leAt_none (hnew b q ?_)
    rcases(hf b).1 e with u|u
    ·have:=hlog b u;omega
    ·exact u.2
 have same: ∀{b},f b=false→b<n→r.eqAt r1 b:=fun{b} e q=>by
  have hb: ¬b∈log:=fun u=>by rw[(hf b).2 (.inl u)]at e;cases e
  exact(RM.upto_eq q).trans (fr.same b q hb)
 have none1: ∀{b},s1.len≤b→r1.cel b=none∧(∀g,r1.arr b g=none)∧r1.mp b=none:=fun{b} q=>by
  refine⟨?_,fun g=> ?_,?_⟩
  ·cases e:r1.cel b with
   |none=>rfl
   |some x=>have:=k.dcel b x e;omega
  ·cases e:r1.arr b g with
   |none=>rfl
   |some x=>have:=k.darr b g x e;omega
  ·cases e:r1.mp b with
   |none=>rfl
   |some x=>have:=k.dmp b x e;omega
 have le1:r1.le (r.mix r1 f):=by
  refine RM.le_of fun b=> ?_
  cases e:f b with
  |true=>exact(eqt e).leAt
  |false=>
   rcases Nat.lt_or_ge b n with q|q
   ·exact(same e q).symm.leAt.trans (eqf e).leAt
   ·refine RM.leAt_none (none1 ?_)
    rcases Nat.lt_or_ge b s1.len with u|u
    ·rw[(hf b).2 (.inr ⟨q,u⟩)]at e;cases e
    ·exact u
 have stays: ∀{b j},f b=false→r.at b j→w1.heap[j]? =w.heap[j]? :=fun{b j} e hj=>by
  refine fr.keep j (h.inb b j hj) fun b' hb' hat=> ?_
  have:=h.uniq b b' j hj (RM.upto_at hat).1
  subst this
  rw[(hf b).2 (.inl hb')]at e;cases e
 have cross: ∀{b b' j},f b=true→f b'=false→r1.at b j→r.at b' j→b=b':=fun{b b' j} e e' hj hj'=>by
  rcases fr.fresh b j hj with q|q
  ·exact h.uniq _ _ _ (RM.upto_at q).1 hj'
  ·have:=h.inb _ _ hj';omega
 have lt: ∀{s:SW} {b x},s.blk b=some x→b<s.len:=fun e=>(List.getElem?_eq_some_iff.1 e).1
 refine⟨⟨k.snap,fun b x e=> ?_,fun b g x e=> ?_,fun b x e=> ?_,fun b j e=> ?_,?_,?_,?_,?_,?_,?_,?_,?_,?_,?_,?_⟩,le,le1⟩
 ·cases hfb:f b with
  |true=>rw[(eqt hfb).1]at e;have:=k.dcel b x e;omega
  |false=>rw[(eqf hfb).1]at e;have:=h.dcel b x e;omega
 ·cases hfb:f b with
  |true=>rw[(eqt hfb).2.1]at e;have:=k.darr b g x e;omega
  |false=>rw[(eqf hfb).2.1]at e;have:=h.darr b g x e;omega
 ·cases hfb:f b with
  |true=>rw[(eqt hfb).2.2]at e;have:=k.dmp b x e;omega
  |false=>rw[(eqf hfb).2.2]at e;have:=h.dmp b x e;omega
 ·cases hfb:f b with
  |true=>exact k.inb b j (((eqt hfb).at j).1 e)
  |false=>have:=h.inb b j (((eqf hfb).at j).1 e);have:=fr.size;omega
 ·intro b es j m e hr'
  cases hfb:f b with
  |true=>
   rw[(eqt hfb).1]at hr'
   obtain⟨c,T,g,h1,h2,h3,h4⟩:=k.cel b es j m (hS1 b _ hfb e (by simp)) hr'
   exact⟨c,T,g,h1,h2,h3,h4.mono le1 (Snap.le_refl _)⟩
  |false=>
   rw[(eqf hfb).1]at hr'
   obtain⟨c,T,g,h1,h2,h3,h4⟩:=h.cel b es j m (hS0 b _ hfb e (by simp)) hr'
   exact⟨c,T,g,by rw[stays hfb (.inl ⟨m,hr'⟩)];exact h1,h2,h3,h4.mono le hs⟩
 ·intro b t g l x e hr'
  cases hfb:f b with
  |true=>
   rw[(eqt hfb).2.1]at hr'
   exact k.arr b t g l x (hS1 b _ hfb e (by simp)) hr'
  |false=>
   rw[(eqf hfb).2.1]at hr'
   exact(h.arr b t g l x (hS0 b _ hfb e (by simp)) hr').mono hs fun j o hj=>stays hfb (.inr (.inl ⟨g,x,o,hr',hj⟩))
 ·intro b t g l x e hr'
  cases hfb:f b with
  |true=>
   rw[(eqt hfb).2.1]at hr'
   exact k.frz b t g l x (hS1 b _ hfb e (by simp)) hr'
  |false=>
   rw[(eqf hfb).2.1]at hr'
   obtain⟨h1,h2,h3,h0,h4⟩:=h.frz b t g l x (hS0 b _ hfb e (by simp)) hr'
   refine⟨h1,h2,h3,h0,fun i hi=> ?_⟩
   obtain⟨j,o,c,q1,q2,q3⟩:=h4 i hi
   exact⟨j,o,c,q1,hs _ _ q2,q3.mono' hs⟩
 ·intro b b' j e e'
  cases hfb:f b with
  |true=>
   have e:=((eqt hfb).at j).1 e
   cases hfb':f b' with
   |true=>exact k.uniq _ _ _ e (((eqt hfb').at j).1 e')
   |false=>exact cross hfb hfb' e (((eqf hfb').at j).1 e')
  |false=>
   have e:=((eqf hfb).at j).1 e
   cases hfb':f b' with
   |true=>exact(cross hfb' hfb (((eqt hfb').at j).1 e') e).symm
   |false=>exact h.uniq _ _ _ e (((eqf hfb').at j).1 e')
 ·intro b j e
  obtain⟨y,ey,hy⟩:=RM.live_some e
  cases hfb:f b with
  |true=>
   refine k.free b j ?_
   rw[hS1 b y hfb ey hy,←ey]
   exact((eqt hfb).live _ _).1 e
  |false=>
   have hlive:r.live (S.blk b) b j:=by
    rw[hS0 b y hfb ey hy,←ey]
    exact((eqf hfb).live _ _).1 e
   cases hc:σ1 j with
   |none=>rfl
   |some c=>
    exfalso
    rcases fr.stay j c hc with q|q|⟨b',q1,q2⟩
    ·have:=h.free b j hlive;rw[this]at q;cases q
    ·have:=h.inb _ _ (RM.live_at hlive);omega
    ·have:=h.uniq _ _ _ (RM.live_at hlive) (RM.upto_at q2).1
     subst this
     rw[(hf b).2 (.inl q1)]at hfb;cases hfb
 ·intro b t g l g' e hg
  cases hfb:f b with
  |true=>rw[(eqt hfb).2.1];exact k.gen b t g l g' (hS1 b _ hfb e (by simp)) hg
  |false=>rw[(eqf hfb).2.1];exact h.gen b t g l g' (hS0 b _ hfb e (by simp)) hg
 ·intro b t p j e hj
  cases hfb:f b with
  |true=>
   rw[(eqt hfb).2.2]at hj
   exact k.itr b t p j (hS1 b _ hfb e (by simp)) hj
  |false=>
   rw[(eqf hfb).2.2]at hj
   obtain⟨h1,h2⟩:=h.itr b t p j (hS0 b _ hfb e (by simp)) hj
   exact⟨h1,by rw[stays hfb (.inr (.inr hj))];exact h2⟩
 ·intro b g es x e hr'
  cases hfb:f b with
  |true=>
   rw[(eqt hfb).2.1]at hr'
   exact(k.vec b g es x (hS1 b _ hfb e (by simp)) hr').mono le1 (Snap.le_refl _) fun _ _ _=>rfl
  |false=>
   rw[(eqf hfb).2.1]at hr'
   exact(h.vec b g es x (hS0 b _ hfb e (by simp)) hr').mono le hs fun j o hj=>stays hfb (.inr (.inl ⟨g,x,o,hr',hj⟩))
 ·intro b g es g' e hg
  cases hfb:f b with
  |true=>rw[(eqt hfb).2.1];exact k.vgen b g es g' (hS1 b _ hfb e (by simp)) hg
  |false=>rw[(eqf hfb).2.1];exact h.vgen b g es g' (hS0 b _ hfb e (by simp)) hg
 ·intro b kt vt l j e hj
  cases hfb:f b with
  |true=>
   rw[(eqt hfb).2.2]at hj
   exact k.map b kt vt l j (hS1 b _ hfb e (by simp)) hj
  |false=>
   rw[(eqf hfb).2.2]at hj
   obtain⟨es,h1,h2⟩:=h.map b kt vt l j (hS0 b _ hfb e (by simp)) hj
   exact⟨es,by rw[stays hfb (.inr (.inr hj))];exact h1,h2.mono hs⟩
 ·intro b kt ks es j e hj
  cases hfb:f b with
  |true=>
   rw[(eqt hfb).2.2]at hj
   obtain⟨ms,h1,h2⟩:=k.fmap b kt ks es j (hS1 b _ hfb e (by simp)) hj
   exact⟨ms,h1,h2.mono le1 (Snap.le_refl _)⟩
  |false=>
   rw[(eqf hfb).2.2]at hj
   obtain⟨ms,h1,h2⟩:=h.fmap b kt ks es j (hS0 b _ hfb e (by simp)) hj
   exact⟨ms,by rw[stays hfb (.inr (.inr hj))];exact h1,h2.mono le hs⟩
end
end Go.Proofs.Ytoehlcomhpnjgaa.Vx
