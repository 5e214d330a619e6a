import Derived.Test.YtoehlcomhpnjgaaVxData
namespace Go.Proofs.Ytoehlcomhpnjgaa.Vx
open Go Go.RowKit
set_option linter.unusedVariables false
abbrev Snap:=Nat→Option (Array Value)
def Snap.le (σ σ':Snap):Prop:= ∀j c,σ j=some c→σ' j=some c
theorem Snap.le_refl (σ:Snap):σ.le σ:=fun _ _ h=>h
theorem Snap.le_trans {a b c:Snap}(h:a.le b)(k:b.le c):a.le c:=fun _ _ x=>k _ _ (h _ _ x)
def RD (σ:Snap):(t:Ty)→(Nat→Option Value)→Nat→t.den→Prop
 |.bool,get,o,(d:Bool)=>get o=some (.bool d)
 |.int k,get,o,(d:Int)=>get o=some (.int k d)
 |.str,get,o,(d:ByteArray)=>get o=some (.string d)
 |.sl t,get,o,(d:List t.den)=> ∃a len cap,get o=some (.slice a len cap)∧len=d.length∧len≤cap∧
  ∀i (h:i<d.length),∃p c,a=some p∧p.spot=none∧σ p.block=some c∧RD σ t (fun k=>c[k]?) (p.off+i*t.width) d[i]
 |.arr n t,get,o,(d:List t.den)=>d.length=n∧ ∀i (h:i<d.length),RD σ t get (o+i*t.width) d[i]
 |.pair a b,get,o,(d:a.den×b.den)=>RD σ a get o d.1∧RD σ b get (o+a.width) d.2
 |.unit,_,_,_=>True
theorem RD.mono {σ σ':Snap}(hs:σ.le σ'): ∀{t:Ty} {get get':Nat→Option Value} {o o':Nat} {d:t.den},RD σ t get o d→
  (∀k,k<t.width→get' (o'+k)=get (o+k))→RD σ' t get' o' d
 |.bool,get,get',o,o',d,h,e=>by have:=e 0 (by simp[Ty.width]);simp only[Nat.add_zero]at this;unfold RD at*;rw[this];exact h
 |.int k,get,get',o,o',d,h,e=>by have:=e 0 (by simp[Ty.width]);simp only[Nat.add_zero]at this;unfold RD at*;rw[this];exact h
 |.str,get,get',o,o',d,h,e=>by have:=e 0 (by simp[Ty.width]);simp only[Nat.add_zero]at this;unfold RD at*;rw[this];exact h
 |.sl t,get,get',o,o',d,h,e=>by
  have:=e 0 (by simp[Ty.width]);simp only[Nat.add_zero]at this
  unfold RD at*
  obtain⟨a,len,cap,h1,h2,h3,h4⟩:=h
  refine⟨a,len,cap,by rw[this];exact h1,h2,h3,fun i hi=> ?_⟩
  obtain⟨p,c,k1,k2,k3,k4⟩:=h4 i hi
  exact⟨p,c,k1,k2,hs _ _ k3,RD.mono hs k4 fun _ _=>rfl⟩
 |.arr n t,get,get',o,o',d,h,e=>by
  unfold RD at*
  obtain⟨h1,h2⟩:=h
  refine⟨h1,fun i hi=>RD.mono hs (h2 i hi) fun k hk=> ?_⟩
  rw[Nat.add_assoc,Nat.add_assoc]
  refine e _ ?_
  simp only[Ty.width]
  have hi':i+1≤n:=by rw[←h1];exact hi
  have:(i+1)*t.width≤n*t.width:=Nat.mul_le_mul_right _ hi'
  rw[Nat.add_mul]at this;omega
 |.pair a b,get,get',o,o',d,h,e=>by
  unfold RD at*
  refine⟨RD.mono hs h.1 fun k hk=>e k (by simp only[Ty.width];omega),RD.mono hs h.2 fun k hk=> ?_⟩
  rw[Nat.add_assoc,Nat.add_assoc]
  exact e _ (by simp only[Ty.width];omega)
 |.unit,_,_,_,_,_,_,_=>by unfold RD;trivial
theorem x0x {σ:Snap}{t:Ty}{get:Nat→Option Value}{o:Nat}{d:List t.den}:RD σ (.sl t) get o d= ∃a len cap,get o=some (.slice a len cap)∧len=d.length∧len≤cap∧
      ∀i (h:i<d.length),∃p c,a=some p∧p.spot=none∧σ p.block=some c∧RD σ t (fun k=>c[k]?) (p.off+i*t.width) d[i]:=rfl
theorem p0f {σ:Snap}{t:Ty}{n:Nat}{get:Nat→Option Value}{o:Nat}{d:List t.den}:RD σ (.arr n t) get o d=(d.length=n∧ ∀i (h:i<d.length),RD σ t get (o+i*t.width) d[i]):=rfl
theorem RD.mono' {σ σ':Snap}(hs:σ.le σ'){t:Ty}{get:Nat→Option Value}{o:Nat}{d:t.den}(h:RD σ t get o d):RD σ' t get o d:=h.mono hs fun _ _=>rfl
structure ALoc where
 a:Option (Nat×Nat)
 L:Nat
 cap:Nat
 wd:Nat
def ALoc.addr (x:ALoc):Option Addr:=match x.a with
 |some (j,o)=>some ⟨j,o,none⟩
 |none=>none
structure RM where
 cel:Nat→Option (Nat×Nat)
 arr:Nat→Nat→Option ALoc
 mp:Nat→Option Nat
structure RM.le (r r':RM):Prop where
 cel: ∀b x,r.cel b=some x→r'.cel b=some x
 arr: ∀b g x,r.arr b g=some x→r'.arr b g=some x
 mp: ∀b x,r.mp b=some x→r'.mp b=some x
theorem RM.le_refl (r:RM):r.le r:=⟨fun _ _ h=>h,fun _ _ _ h=>h,fun _ _ h=>h⟩
theorem RM.le_trans {a b c:RM}(h:a.le b)(k:b.le c):a.le c:=⟨fun _ _ x=>k.cel _ _ (h.cel _ _ x),fun _ _ _ x=>k.arr _ _ _ (h.arr _ _ _ x),fun _ _ x=>k.mp _ _ (h.mp _ _ x)⟩
inductive VRel (r:RM)(σ:Snap):SV→Value→Prop
 |dead (v:Value):VRel r σ .dead v
 |undef:VRel r σ .undef Go.undef
 |bool (b:Bool):VRel r σ (.bool b) (.bool b)
 |int (k:IntKind) (n:Int):VRel r σ (.int k n) (.int k n)
 |str (s:ByteArray):VRel r σ (.str s) (.string s)
 |imm (t:Ty) (l:List t.den) (v:Value) (h:RD σ (.sl t) (fun _=>some v) 0 l):VRel r σ (.imm t l) v
 |nilsl:VRel r σ .nilsl (.slice none 0 0)
 |own (b g:Nat) (x:ALoc) (h:r.arr b g=some x):VRel r σ (.own b g) (.slice x.addr x.L x.cap)
 |part (b g lo len:Nat) (x:ALoc) (a:Option Addr) (cap:Nat) (h:r.arr b g=some x) (h1:lo+len≤x.L) (h2:len≤cap) (h3:lo+cap≤x.cap)
  (h4:0<cap→ ∃j o,x.a=some (j,o)∧a=some ⟨j,o+lo*x.wd,none⟩)
  (h5:a=none∨ ∃j o k,x.a=some (j,o)∧a=some ⟨j,o+k*x.wd,none⟩∧k≤x.cap):VRel r σ (.part b g lo len) (.slice a len cap)
 |ptr (b o j n:Nat) (h:r.cel b=some (j,n)):VRel r σ (.ptr b o) (.pointer (some ⟨j,n+o,none⟩))
 |eptr (b g i o:Nat) (x:ALoc) (j n:Nat) (h:r.arr b g=some x) (h1:i<x.L) (h2:x.a=some (j,n)):VRel r σ (.eptr b g i o) (.pointer (some ⟨j,n+i*x.wd+o,none⟩))
 |aptr (b o w m i k j n:Nat) (h:r.cel b=some (j,n)) (h1:i<m):VRel r σ (.aptr b o w m i k) (.pointer (some ⟨j,n+(o+i*w+k),none⟩))
 |optrT (b o j n:Nat) (h:r.cel b=some (j,n)):VRel r σ (.optr true b o) (.pointer (some ⟨j,n+o,none⟩))
 |optrF (b o:Nat):VRel r σ (.optr false b o) (.pointer none)
 |asl (b o n j p:Nat) (h:r.cel b=some (j,p)):VRel r σ (.asl b o n) (.slice (some ⟨j,p+o,none⟩) n n)
 |asp (b o n m j p:Nat) (h:r.cel b=some (j,p)) (h1:n≤m):VRel r σ (.asp b o n m) (.slice (some ⟨j,p+o,none⟩) n m)
 |esp (b g i n m:Nat) (x:ALoc) (j q:Nat) (h:r.arr b g=some x) (h1:i<x.L) (h2:x.a=some (j,q)) (h3:n≤m):VRel r σ (.esp b g i n m) (.slice (some ⟨j,q+i*x.wd,none⟩) n m)
 |iptr (es:List SV) (o base:Nat) (j:Nat) (c:Array Value) (hj:σ j=some c)
  (hb: ∀k,k<esW es→base+k<c.size)
  (hs: ∀k e,(k,e)∈offs es 0→e.isArr=false→ ∀v,c[base+k]? =some v→VRel r σ e v)
  (ha: ∀k t n l,(k,.arrd t n l)∈offs es 0→RD σ (.arr n t) (fun q=>c[q]?) (base+k) l):VRel r σ (.iptr es o) (.pointer (some ⟨j,base+o,none⟩))
 |nilptr:VRel r σ .nilptr (.pointer none)
 |mapv (b j:Nat) (h:r.mp b=some j):VRel r σ (.mapv b) (.map (some j))
 |itr (b j:Nat) (h:r.mp b=some j):VRel r σ (.itr b) (.pointer (some ⟨j,0,none⟩))
 |nilmap:VRel r σ .nilmap (.map none)
 |fn (f:Fn) (fs cs:List SV) (fs' cs':Array Value) (h1:fs.length=fs'.size) (h2: ∀(i:Nat) (v v'),fs[i]? =some v→fs'[i]? =some v'→VRel r σ v v')
  (h3:cs.length=cs'.size) (h4: ∀(i:Nat) (v v'),cs[i]? =some v→cs'[i]? =some v'→VRel r σ v v'):VRel r σ (.fn f fs cs) (.func f fs' cs')
 |nilfn:VRel r σ .nilfn .nilFunc
 |iface (t:TypeId) (v:SV) (v':Value) (h:VRel r σ v v'):VRel r σ (.iface t v) (.iface t v')
 |nilif:VRel r σ .nilif .nilIface
 |agg (es:List SV) (c:Array Value) (hw:esW es=c.size)
  (hs: ∀k e,(k,e)∈offs es 0→e.isArr=false→ ∀v,c[k]? =some v→VRel r σ e v)
  (ha: ∀k t n l,(k,.arrd t n l)∈offs es 0→RD σ (.arr n t) (fun q=>c[q]?) k l):VRel r σ (.agg es) (.agg c)
 |tup (es:List SV) (c:Array Value) (h1:es.length=c.size) (h2: ∀(i:Nat) (v v'),es[i]? =some v→c[i]? =some v'→VRel r σ v v'):VRel r σ (.tup es) (.tuple c)
theorem VRel.mono {r r':RM}{σ σ':Snap}(hr:r.le r')(hs:σ.le σ'){v:SV}{v':Value}(h:VRel r σ v v'):VRel r' σ' v v':=by
 induction h with
 |dead v=>exact .dead v
 |undef=>exact .undef
 |bool b=>exact .bool b
 |int k n=>exact .int k n
 |str s=>exact .str s
 |imm t l v h=>exact .imm t l v (h.mono' hs)
 |nilsl=>exact .nilsl
 |own b g x h=>exact .own b g x (hr.arr _ _ _ h)
 |part b g lo len x a cap h h1 h2 h3 h4 h5=>exact .part b g lo len x a cap (hr.arr _ _ _ h) h1 h2 h3 h4 h5
 |ptr b o j n h=>exact .ptr b o j n (hr.cel _ _ h)
 |eptr b g i o x j n h h1 h2=>exact .eptr b g i o x j n (hr.arr _ _ _ h) h1 h2
 |aptr b o w m i k j n h h1=>exact .aptr b o w m i k j n (hr.cel _ _ h) h1
 |asl b o n j p h=>exact .asl b o n j p (hr.cel _ _ h)
 |optrT b o j n h=>exact .optrT b o j n (hr.cel _ _ h)
 |optrF b o=>exact .optrF b o
 |asp b o n m j p h h1=>exact .asp b o n m j p (hr.cel _ _ h) h1
 |esp b g i n m x j q h h1 h2 h3=>exact .esp b g i n m x j q (hr.arr _ _ _ h) h1 h2 h3
 |iptr es o base j c hj hb h1 ha ih=>exact .iptr es o base j c (hs _ _ hj) hb ih (fun k t n l a=>(ha k t n l a).mono' hs)
 |nilptr=>exact .nilptr
 |mapv b j h=>exact .mapv b j (hr.mp _ _ h)
 |itr b j h=>exact .itr b j (hr.mp _ _ h)
 |nilmap=>exact .nilmap
 |fn f fs cs fs' cs' h1 h2 h3 h4 i2 i4=>exact .fn f fs cs fs' cs' h1 i2 h3 i4
 |nilfn=>exact .nilfn
 |iface t v v' h ih=>exact .iface t v v' ih
 |nilif=>exact .nilif
 |agg es c hw h1 ha ih=>exact .agg es c hw ih (fun k t n l a=>(ha k t n l a).mono' hs)
 |tup es c h1 h2 ih=>exact .tup es c h1 ih
structure ERel (r:RM)(σ:Snap)(es:List SV)(get:Nat→Option Value)(base:Nat):Prop where
 one: ∀k e,(k,e)∈offs es 0→e.isArr=false→ ∃v,get (base+k)=some v∧VRel r σ e v
 arr: ∀k t n l,(k,SV.arrd t n l)∈offs es 0→RD σ (.arr n t) get (base+k) l
theorem ERel.mono {r r':RM}{σ σ':Snap}(hr:r.le r')(hs:σ.le σ'){es:List SV}{get:Nat→Option Value}{base:Nat}(h:ERel r σ es get base):ERel r' σ' es get base:=
 ⟨fun k e a b=>let⟨v,x,y⟩:=h.one k e a b;⟨v,x,y.mono hr hs⟩,fun k t n l a=>(h.arr k t n l a).mono' hs⟩
structure LRel (r:RM)(σ:Snap)(l:List SV)(a:Array Value):Prop where
 size:l.length=a.size
 at_: ∀(i:Nat) (v:SV) (v':Value),l[i]? =some v→a[i]? =some v'→VRel r σ v v'
theorem LRel.mono {r r':RM}{σ σ':Snap}(hr:r.le r')(hs:σ.le σ'){l:List SV}{a:Array Value}(h:LRel r σ l a):LRel r' σ' l a:=
 ⟨h.size,fun i v v' x y=>(h.at_ i v v' x y).mono hr hs⟩
theorem LRel.get {r:RM}{σ:Snap}{l:List SV}{a:Array Value}(h:LRel r σ l a){i:Nat}{v:SV}(hv:l[i]? =some v): ∃v',a[i]? =some v'∧VRel r σ v v':=by
 obtain⟨hi,e⟩:=List.getElem?_eq_some_iff.1 hv
 have hi':i<a.size:=h.size▸hi
 exact⟨a[i],Array.getElem?_eq_some_iff.2 ⟨hi',rfl⟩,h.at_ i _ _ hv (Array.getElem?_eq_some_iff.2 ⟨hi',rfl⟩)⟩
theorem LRel.getD {r:RM}{σ:Snap}{l:List SV}{a:Array Value}(h:LRel r σ l a)(i:Nat):VRel r σ (l.getD i .undef) (a.getD i Go.undef):=by
 cases hl:l[i]? with
 |none=>
  have:a[i]? =none:=by rw[List.getElem?_eq_none_iff]at hl;rw[Array.getElem?_eq_none_iff];have:=h.size;omega
  simp only[List.getD_eq_getElem?_getD,Array.getD_eq_getD_getElem?,hl,this,Option.getD_none];exact .undef
 |some v=>obtain⟨v',h',k⟩:=h.get hl;simpa only[List.getD_eq_getElem?_getD,Array.getD_eq_getD_getElem?,hl,h',Option.getD_some]using k
theorem LRel.nil (r:RM)(σ:Snap):LRel r σ [] #[]:=⟨rfl,fun i v v' h=>by simp at h⟩
theorem LRel.cons {r:RM}{σ:Snap}{v:SV}{v':Value}{l:List SV}{a:List Value}(h:VRel r σ v v')(k:LRel r σ l a.toArray):LRel r σ (v::l) (v'::a).toArray:=by
 refine⟨by have:=k.size;simp at*;exact this,fun i u u' x y=> ?_⟩
 cases i with
 |zero=>simp at x y;subst x;subst y;exact h
 |succ i=>exact k.at_ i u u' (by simpa using x) (by simpa using y)
theorem LRel.set {r:RM}{σ:Snap}{l:List SV}{a:Array Value}(h:LRel r σ l a)(i:Nat){v:SV}{v':Value}(k:VRel r σ v v'):LRel r σ (l.set i v) (a.setIfInBounds i v'):=by
 refine⟨by simp[h.size],fun q u u' x y=> ?_⟩
 rw[List.getElem?_set]at x
 rw[Array.getElem?_setIfInBounds]at y
 have:=h.size
 by_cases e:i=q
 ·rw[if_pos e]at x y;split at x<;>split at y<;>simp_all
 ·rw[if_neg e]at x y;exact h.at_ q _ _ x y
theorem LRel.append {r:RM}{σ:Snap}{l l2:List SV}{a a2:Array Value}(h:LRel r σ l a)(k:LRel r σ l2 a2):LRel r σ (l++l2) (a++a2):=by
 refine⟨by simp[h.size,k.size],fun q u u' x y=> ?_⟩
 have:=h.size
 rw[List.getElem?_append]at x
 rw[Array.getElem?_append]at y
 by_cases e:q<l.length
 ·rw[if_pos e]at x;rw[if_pos (by omega)]at y;exact h.at_ q _ _ x y
 ·rw[if_neg e]at x;rw[if_neg (by omega)]at y;rw[this]at x;exact k.at_ _ _ _ x y
theorem LRel.map {r:RM}{σ:Snap}{α:Type}(l:Array α)(f:α→SV)(f':α→Value)(h: ∀x,x∈l→VRel r σ (f x) (f' x)):LRel r σ (l.toList.map f) (l.map f'):=by
 refine⟨by simp,fun i u u' p q=> ?_⟩
 simp only[List.getElem?_map,Array.getElem?_toList,Array.getElem?_map]at p q
 cases e:l[i]? with
 |none=>simp[e]at p
 |some x=>simp[e]at p q;subst p;subst q;exact h x (Array.mem_of_getElem? e)
theorem LRel.replicate (r:RM)(σ:Snap)(n:Nat){v:SV}{v':Value}(h:VRel r σ v v'):LRel r σ (List.replicate n v) (Array.replicate n v'):=by
 refine⟨by simp,fun k u u' p q=> ?_⟩
 simp only[List.getElem?_replicate,Array.getElem?_replicate]at p q
 split at p<;>simp_all
def d0f (c:Array Value)(f:Nat×Nat):Prop:=f.1=f.2∨c.size≤f.1
theorem d0f.no {c:Array Value}{f:Nat×Nat}(h:d0f c f): ∀k,k<c.size→(decide (f.1≤k)&&decide (k<f.2))=false:=by
 intro k hk
 rcases h with h|h
 ·rw[h];by_cases q:f.2≤k<;>simp[q]
 ·simp;omega
def RM.at (r:RM)(b j:Nat):Prop:=(∃n,r.cel b=some (j,n))∨(∃g x o,r.arr b g=some x∧x.a=some (j,o))∨r.mp b=some j
theorem RM.at_mono {r r':RM}(h:r.le r'){b j:Nat}(k:r.at b j):r'.at b j:=by
 rcases k with⟨n,k⟩|⟨g,x,o,k1,k2⟩|k
 ·exact .inl ⟨n,h.cel _ _ k⟩
 ·exact .inr (.inl ⟨g,x,o,h.arr _ _ _ k1,k2⟩)
 ·exact .inr (.inr (h.mp _ _ k))
def RM.live (r:RM):Option Blk→Nat→Nat→Prop
 |some (.cells _),b,j=> ∃n,r.cel b=some (j,n)
 |some (.arr _ g _),b,j=> ∃x o,r.arr b g=some x∧x.a=some (j,o)
 |some (.iter _ _),b,j=>r.mp b=some j
 |some (.vec g _),b,j=> ∃x o,r.arr b g=some x∧x.a=some (j,o)
 |some (.map _ _ _),b,j=>r.mp b=some j
 |some (.fmap _ _ _),b,j=>r.mp b=some j
 |_,_,_=>False
structure ARow (σ:Snap)(t:Ty)(l:List t.den)(x:ALoc)(heap:Array Obj):Prop where
 wd:x.wd=t.width
 len:l.length=x.L
 cap:x.L≤x.cap
 nil:x.a=none→x.cap=0
 row: ∀j o,x.a=some (j,o)→ ∃c T f,heap[j]? =some (.cells c T f)∧d0f c f∧o+x.cap*x.wd≤c.size∧ ∀i (h:i<l.length),RD σ t (fun k=>c[k]?) (o+i*t.width) l[i]
structure MEnt (σ:Snap)(kt vt:Ty)(l:List (Ty.den (.pair kt vt)))(es:Array MapEntry):Prop where
 size:es.size=l.length
 ent: ∀i (d:Ty.den (.pair kt vt)) (e:MapEntry),l[i]? =some d→es[i]? =some e→RD σ kt (fun _=>some e.key) 0 d.1∧RD σ vt (fun _=>some e.val) 0 d.2∧e.born=i
theorem MEnt.mono {σ σ':Snap}{kt vt:Ty}{l:List (Ty.den (.pair kt vt))}{es:Array MapEntry}(h:MEnt σ kt vt l es)(hs:σ.le σ'):MEnt σ' kt vt l es:=
 ⟨h.size,fun i d e hd he=>let⟨a,b,c⟩:=h.ent i d e hd he;⟨a.mono' hs,b.mono' hs,c⟩⟩
structure FEnt (r:RM)(σ:Snap)(kt:Ty)(ks:List kt.den)(es:List SV)(ms:Array MapEntry):Prop where
 size:ms.size=ks.length
 vals:LRel r σ es (ms.map (·.val))
 ent: ∀i (d:kt.den) (e:MapEntry),ks[i]? =some d→ms[i]? =some e→RD σ kt (fun _=>some e.key) 0 d∧e.born=i
theorem FEnt.mono {r r':RM}{σ σ':Snap}{kt:Ty}{ks:List kt.den}{es:List SV}{ms:Array MapEntry}(h:FEnt r σ kt ks es ms)(hr:r.le r')(hs:σ.le σ'):FEnt r' σ' kt ks es ms:=
 ⟨h.size,h.vals.mono hr hs,fun i d e hd he=>let⟨a,b⟩:=h.ent i d e hd he;⟨a.mono' hs,b⟩⟩
structure VRow (r:RM)(σ:Snap)(es:List SV)(x:ALoc)(heap:Array Obj):Prop where
 wd:x.wd=1
 len:esW es=x.L
 cap:x.L≤x.cap
 nil:x.a=none→x.cap=0
 row: ∀j o,x.a=some (j,o)→ ∃c T f,heap[j]? =some (.cells c T f)∧d0f c f∧o+x.cap≤c.size∧ERel r σ es (fun k=>c[k]?) o
structure Rel (r:RM)(σ:Snap)(s:SW)(w:World):Prop where
 snap: ∀j c,σ j=some c→ ∃T f,w.heap[j]? =some (.cells c T f)
 dcel: ∀b x,r.cel b=some x→b<s.len
 darr: ∀b g x,r.arr b g=some x→b<s.len
 dmp: ∀b x,r.mp b=some x→b<s.len
 inb: ∀b j,r.at b j→j<w.heap.size
 cel: ∀b es j n,s.blk b=some (.cells es)→r.cel b=some (j,n)→ ∃c T f,w.heap[j]? =some (.cells c T f)∧d0f c f∧n+esW es≤c.size∧ERel r σ es (fun k=>c[k]?) n
 arr: ∀b t g l x,s.blk b=some (.arr t g l)→r.arr b g=some x→ARow σ t l x w.heap
 frz: ∀b t g l x,s.blk b=some (.frz t g l)→r.arr b g=some x→x.wd=t.width∧l.length=x.L∧x.L≤x.cap∧(x.a=none→x.cap=0)∧
   ∀i (h:i<l.length),∃j o c,x.a=some (j,o)∧σ j=some c∧RD σ t (fun k=>c[k]?) (o+i*t.width) l[i]
 uniq: ∀b b' j,r.at b j→r.at b' j→b=b'
 free: ∀b j,r.live (s.blk b) b j→σ j=none
 gen: ∀b t g l g',s.blk b=some (.arr t g l)→g<g'→r.arr b g'=none
 itr: ∀b t p j,s.blk b=some (.iter t p)→r.mp b=some j→0≤p∧w.heap[j]? =some (.stringIter t p.toNat)
 vec: ∀b g es x,s.blk b=some (.vec g es)→r.arr b g=some x→VRow r σ es x w.heap
 vgen: ∀b g es g',s.blk b=some (.vec g es)→g<g'→r.arr b g'=none
 map: ∀b kt vt l j,s.blk b=some (.map kt vt l)→r.mp b=some j→ ∃es:Array MapEntry,w.heap[j]? =some (.map es es.size)∧MEnt σ kt vt l es
 fmap: ∀b kt ks es j,s.blk b=some (.fmap kt ks es)→r.mp b=some j→ ∃ms:Array MapEntry,w.heap[j]? =some (.map ms ms.size)∧FEnt r σ kt ks es ms
def Stay (r:RM)(log:List Nat)(σ σ':Snap)(w:World):Prop:= ∀j c,σ' j=some c→σ j=some c∨w.heap.size≤j∨ ∃b,b∈log∧r.at b j
theorem Stay.refl {r:RM}{log:List Nat}{σ:Snap}{w:World}:Stay r log σ σ w:=fun _ _ h=>.inl h
theorem Stay.more {r:RM}{log log':List Nat}{σ σ':Snap}{w:World}(h:Stay r log σ σ' w)(hl: ∀b,b∈log→b∈log'):Stay r log' σ σ' w:=fun j c k=>by
 rcases h j c k with q|q|⟨b,q1,q2⟩
 ·exact .inl q
 ·exact .inr (.inl q)
 ·exact .inr (.inr ⟨b,hl b q1,q2⟩)
theorem Stay.trans {r:RM}{log log':List Nat}{σ σ1 σ2:Snap}{w:World}(h:Stay r log σ σ1 w)(k:Stay r log' σ1 σ2 w)(hl: ∀b,b∈log→b∈log'):Stay r log' σ σ2 w:=fun j c q=>by
 rcases k j c q with q|q
 ·exact h.more hl j c q
 ·exact .inr q
structure Frame (n:Nat)(log:List Nat)(r r':RM)(σ σ':Snap)(w w':World):Prop where
 os:w'.os=w.os
 tape:w'.tape=w.tape
 output:w'.output=w.output
 size:w.heap.size≤w'.heap.size
 fresh: ∀b j,r'.at b j→r.at b j∨w.heap.size≤j
 keep: ∀j,j<w.heap.size→(∀b,b∈log→ ¬r.at b j)→w'.heap[j]? =w.heap[j]?
 same: ∀b,b<n→ ¬b∈log→r'.cel b=r.cel b∧(∀g,r'.arr b g=r.arr b g)∧r'.mp b=r.mp b
 stay:Stay r log σ σ' w
theorem Frame.still (n:Nat){log:List Nat}{r:RM}{σ σ':Snap}{w:World}(h:Stay r log σ σ' w):Frame n log r r σ σ' w w:=⟨rfl,rfl,rfl,Nat.le_refl _,fun _ _ h=>.inl h,fun _ _ _=>rfl,fun _ _ _=>⟨rfl,fun _=>rfl,rfl⟩,h⟩
theorem Frame.refl (n:Nat)(log:List Nat)(r:RM)(σ:Snap)(w:World):Frame n log r r σ σ w w:=.still n .refl
theorem Frame.trans {n n':Nat}{log log':List Nat}{r r1 r2:RM}{σ σ1 σ2:Snap}{w w1 w2:World}(h:Frame n log r r1 σ σ1 w w1)(k:Frame n' log' r1 r2 σ1 σ2 w1 w2)(hl: ∀b,b∈log→b∈log')(hn:n≤n'):Frame n log' r r2 σ σ2 w w2:=by
 refine⟨k.os.trans h.os,k.tape.trans h.tape,k.output.trans h.output,Nat.le_trans h.size k.size,fun b j hj=> ?_,fun j hj hn=> ?_,fun b hb hm=> ?_,fun j c hj=> ?_⟩
 ·rcases k.fresh b j hj with q|q
  ·exact h.fresh b j q
  ·exact .inr (Nat.le_trans h.size q)
 ·rw[k.keep j (Nat.lt_of_lt_of_le hj h.size) fun b hb hat=> ?_]
  ·exact h.keep j hj fun b hb=>hn b (hl b hb)
  ·rcases h.fresh b j hat with q|q
   ·exact hn b hb q
   ·omega
 ·obtain⟨k1,k2,k3⟩:=k.same b (by omega) hm
  obtain⟨h1,h2,h3⟩:=h.same b hb fun e=>hm (hl b e)
  exact⟨k1.trans h1,fun g=>(k2 g).trans (h2 g),k3.trans h3⟩
 ·rcases k.stay j c hj with q|q|⟨b,q1,q2⟩
  ·exact h.stay.more hl j c q
  ·exact .inr (.inl (Nat.le_trans h.size q))
  ·rcases h.fresh b j q2 with u|u
   ·exact .inr (.inr ⟨b,q1,u⟩)
   ·exact .inr (.inl u)
theorem Frame.more {n:Nat}{log log':List Nat}{r r1:RM}{σ σ':Snap}{w w1:World}(h:Frame n log r r1 σ σ' w w1)(hl: ∀b,b∈log→b∈log'):Frame n log' r r1 σ σ' w w1:=h.trans (.refl n log' _ _ _) hl (Nat.le_refl _)
theorem Frame.drew (n:Nat)(log:List Nat)(r:RM)(σ:Snap)(w:World):Frame n log r r σ σ w {w with drawn:=w.drawn+1}:=⟨rfl,rfl,rfl,Nat.le_refl _,fun _ _ h=>.inl h,fun _ _ _=>rfl,fun _ _ _=>⟨rfl,fun _=>rfl,rfl⟩,.refl⟩
theorem RM.live_at {r:RM}{x:Option Blk}{b j:Nat}(h:r.live x b j):r.at b j:=by
 unfold RM.live at h
 split at h
 ·exact .inl h
 ·obtain⟨x,o,h1,h2⟩:=h;exact .inr (.inl ⟨_,x,o,h1,h2⟩)
 ·exact .inr (.inr h)
 ·obtain⟨x,o,h1,h2⟩:=h;exact .inr (.inl ⟨_,x,o,h1,h2⟩)
 ·exact .inr (.inr h)
 ·exact .inr (.inr h)
 ·exact h.elim
theorem VRow.mono {r r':RM}{σ σ':Snap}{es:List SV}{x:ALoc}{heap heap':Array Obj}(h:VRow r σ es x heap)(hr:r.le r')(hs:σ.le σ')(hh: ∀j o,x.a=some (j,o)→heap'[j]? =heap[j]?):VRow r' σ' es x heap':=
 ⟨h.wd,h.len,h.cap,h.nil,fun j o e=>by
  obtain⟨c,T,f,h1,h2,h3,h4⟩:=h.row j o e
  exact⟨c,T,f,by rw[hh j o e];exact h1,h2,h3,h4.mono hr hs⟩⟩
theorem ARow.mono {σ σ':Snap}{t:Ty}{l:List t.den}{x:ALoc}{heap heap':Array Obj}(h:ARow σ t l x heap)(hs:σ.le σ')(hh: ∀j o,x.a=some (j,o)→heap'[j]? =heap[j]?):ARow σ' t l x heap':=
 ⟨h.wd,h.len,h.cap,h.nil,fun j o e=>by
  obtain⟨c,T,f,h1,h2,h3,h4⟩:=h.row j o e
  exact⟨c,T,f,by rw[hh j o e];exact h1,h2,h3,fun i hi=>(h4 i hi).mono' hs⟩⟩
structure Change (r r':RM)(σ σ':Snap)(s:SW)(w w':World)(b:Nat)(x:Blk):Prop where
 lr:r.le r'
 ls:σ.le σ'
 cel: ∀b' p,b'≠b→r'.cel b'=some p→r.cel b'=some p
 arr: ∀b' g p,b'≠b→r'.arr b' g=some p→r.arr b' g=some p
 mp: ∀b' p,b'≠b→r'.mp b'=some p→r.mp b'=some p
 size:w.heap.size≤w'.heap.size
 same: ∀j,j<w.heap.size→ ¬r.live (s.blk b) b j→w'.heap[j]? =w.heap[j]?
 inb: ∀j,r'.at b j→j<w'.heap.size
 live: ∀j,r'.live (some x) b j→r.live (s.blk b) b j∨w.heap.size≤j
 atn: ∀j,r'.at b j→r.at b j∨w.heap.size≤j
 snap: ∀j c,σ' j=some c→σ j=some c∨((r.live (s.blk b) b j∨w.heap.size≤j)∧ ¬r'.live (some x) b j∧ ∃T f,w'.heap[j]? =some (.cells c T f))
 ncel: ∀es j n,x=.cells es→r'.cel b=some (j,n)→ ∃c T f,w'.heap[j]? =some (.cells c T f)∧d0f c f∧n+esW es≤c.size∧ERel r' σ' es (fun k=>c[k]?) n
 narr: ∀t g l p,x=.arr t g l→r'.arr b g=some p→ARow σ' t l p w'.heap
 nfrz: ∀t g l p,x=.frz t g l→r'.arr b g=some p→p.wd=t.width∧l.length=p.L∧p.L≤p.cap∧(p.a=none→p.cap=0)∧
   ∀i (h:i<l.length),∃j o c,p.a=some (j,o)∧σ' j=some c∧RD σ' t (fun k=>c[k]?) (o+i*t.width) l[i]
 ngen: ∀t g l g',x=.arr t g l→g<g'→r'.arr b g'=none
theorem Rel.disj {r:RM}{σ:Snap}{s:SW}{w:World}(h:Rel r σ s w)(b b' j:Nat)(k:r.live (s.blk b) b j)(k':r.live (s.blk b') b' j):b=b':=h.uniq b b' j (RM.live_at k) (RM.live_at k')
theorem Rel.change {r r':RM}{σ σ':Snap}{s s':SW}{w w':World}{b:Nat}{x:Blk}(h:Rel r σ s w)(k:Change r r' σ σ' s w w' b x)
  (hb:s'.blk b=some x) (ho: ∀b',b'≠b→s'.blk b'=s.blk b') (hl:s.len≤s'.len)
  (hi: ∀(t:ByteArray) (p:Int) (j:Nat),x=.iter t p→r'.mp b=some j→0≤p∧w'.heap[j]? =some (.stringIter t p.toNat):=by intro t p j e;cases e)
  (hv: ∀(g:Nat) (es:List SV),x=.vec g es→(∀p,r'.arr b g=some p→VRow r' σ' es p w'.heap)∧ ∀g',g<g'→r'.arr b g'=none:=by intro g es e;cases e)
  (hm: ∀(kt vt:Ty) (l:List (Ty.den (.pair kt vt))) (j:Nat),x=.map kt vt l→r'.mp b=some j→ ∃es:Array MapEntry,w'.heap[j]? =some (.map es es.size)∧MEnt σ' kt vt l es:=by intro kt vt l j e;cases e)
  (hfm: ∀(kt:Ty) (ks:List kt.den) (es:List SV) (j:Nat),x=.fmap kt ks es→r'.mp b=some j→ ∃ms:Array MapEntry,w'.heap[j]? =some (.map ms ms.size)∧FEnt r' σ' kt ks es ms:=by intro kt ks es j e;cases e):Rel r' σ' s' w':=by
 have hbl:b<s'.len:=by
  have:=List.getElem?_eq_some_iff.1 hb;exact this.1
 have live_old: ∀b' j,b'≠b→r'.live (s'.blk b') b' j→r.live (s.blk b') b' j:=by
  intro b' j e hl
  rw[ho b' e]at hl
  unfold RM.live at hl⊢
  split at hl
  ·obtain⟨n,hn⟩:=hl;exact⟨n,k.cel _ _ e hn⟩
  ·obtain⟨p,o,h1,h2⟩:=hl;exact⟨p,o,k.arr _ _ _ e h1,h2⟩
  ·exact k.mp _ _ e hl
  ·obtain⟨p,o,h1,h2⟩:=hl;exact⟨p,o,k.arr _ _ _ e h1,h2⟩
  ·exact k.mp _ _ e hl
  ·exact k.mp _ _ e hl
  ·exact hl
 have at_old: ∀b' j,b'≠b→r'.at b' j→r.at b' j:=by
  rintro b' j e (⟨n,h1⟩|⟨g,p,o,h1,h2⟩|h1)
  ·exact .inl ⟨n,k.cel _ _ e h1⟩
  ·exact .inr (.inl ⟨g,p,o,k.arr _ _ _ e h1,h2⟩)
  ·exact .inr (.inr (k.mp _ _ e h1))
 have stays: ∀b' j,b'≠b→r.live (s.blk b') b' j→w'.heap[j]? =w.heap[j]? :=by
  intro b' j e hj
  exact k.same j (h.inb _ _ (RM.live_at hj)) fun hj'=>e (h.disj _ _ _ hj hj')
 refine⟨?_,?_,?_,?_,?_,?_,?_,?_,?_,?_,?_,?_,?_,?_,?_,?_⟩
 ·intro j c hj
  rcases k.snap j c hj with h1|⟨_,_,h1⟩
  ·obtain⟨T,f,h2⟩:=h.snap j c h1
   have hlt:j<w.heap.size:=(Array.getElem?_eq_some_iff.1 h2).1
   refine⟨T,f,?_⟩
   rw[k.same j hlt fun hl=> ?_]
   ·exact h2
   ·have:=h.free _ _ hl;rw[this]at h1;cases h1
  ·exact h1
 ·intro b' p hp
  by_cases e:b'=b
  ·subst e;exact hbl
  ·have:=h.dcel _ _ (k.cel _ _ e hp);omega
 ·intro b' g p hp
  by_cases e:b'=b
  ·subst e;exact hbl
  ·have:=h.darr _ _ _ (k.arr _ _ _ e hp);omega
 ·intro b' p hp
  by_cases e:b'=b
  ·subst e;exact hbl
  ·have:=h.dmp _ _ (k.mp _ _ e hp);omega
 ·intro b' j hj
  by_cases e:b'=b
  ·subst e;exact k.inb _ hj
  ·have:=h.inb _ _ (at_old _ _ e hj);have:=k.size;omega
 ·intro b' es j n he hr
  by_cases e:b'=b
  ·subst e;rw[hb]at he;cases he;exact k.ncel _ _ _ rfl hr
  ·rw[ho b' e]at he
   have hr0:=k.cel _ _ e hr
   obtain⟨c,T,f,h1,h2,h3,h4⟩:=h.cel b' es j n he hr0
   exact⟨c,T,f,by rw[stays b' j e (by rw[he];exact⟨n,hr0⟩)];exact h1,h2,h3,h4.mono k.lr k.ls⟩
 ·intro b' t g l p he hr
  by_cases e:b'=b
  ·subst e;rw[hb]at he;cases he;exact k.narr _ _ _ _ rfl hr
  ·rw[ho b' e]at he
   have hr0:=k.arr _ _ _ e hr
   exact(h.arr b' t g l p he hr0).mono k.ls fun j o hj=>stays b' j e (by rw[he];exact⟨p,o,hr0,hj⟩)
 ·intro b' t g l p he hr
  by_cases e:b'=b
  ·subst e;rw[hb]at he;cases he;exact k.nfrz _ _ _ _ rfl hr
  ·rw[ho b' e]at he
   have hr0:=k.arr _ _ _ e hr
   obtain⟨h1,h2,h3,h0,h4⟩:=h.frz b' t g l p he hr0
   refine⟨h1,h2,h3,h0,fun i hi=> ?_⟩
   obtain⟨j,o,c,q1,q2,q3⟩:=h4 i hi
   exact⟨j,o,c,q1,k.ls _ _ q2,q3.mono' k.ls⟩
 ·intro b1 b2 j h1 h2
  by_cases e1:b1=b
  ·by_cases e2:b2=b
   ·rw[e1,e2]
   ·exfalso
    subst e1
    have h2':=at_old _ _ e2 h2
    have hlt:=h.inb _ _ h2'
    rcases k.atn j h1 with q|q
    ·exact e2 (h.uniq _ _ _ h2' q)
    ·omega
  ·by_cases e2:b2=b
   ·exfalso
    subst e2
    have h1':=at_old _ _ e1 h1
    have hlt:=h.inb _ _ h1'
    rcases k.atn j h2 with q|q
    ·exact e1 (h.uniq _ _ _ h1' q)
    ·omega
   ·exact h.uniq _ _ _ (at_old _ _ e1 h1) (at_old _ _ e2 h2)
 ·intro b' j hj
  cases hs:σ' j with
  |none=>rfl
  |some c=>
   exfalso
   rcases k.snap j c hs with q|⟨q1,q2,q3⟩
   ·by_cases e:b'=b
    ·subst e
     rw[hb]at hj
     rcases k.live j hj with u|u
     ·have:=h.free _ _ u;rw[this]at q;cases q
     ·obtain⟨T,f,h2⟩:=h.snap j c q
      have:=(Array.getElem?_eq_some_iff.1 h2).1;omega
    ·have:=h.free _ _ (live_old _ _ e hj);rw[this]at q;cases q
   ·by_cases e:b'=b
    ·subst e;rw[hb]at hj;exact q2 hj
    ·have hj':=live_old _ _ e hj
     rcases q1 with u|u
     ·exact e (h.disj _ _ _ hj' u)
     ·have:=h.inb _ _ (RM.live_at hj');omega
 ·intro b' t g l g' he hg
  by_cases e:b'=b
  ·subst e;rw[hb]at he;cases he;exact k.ngen _ _ _ _ rfl hg
  ·rw[ho b' e]at he
   have h0:=h.gen b' t g l g' he hg
   cases hr:r'.arr b' g' with
   |none=>rfl
   |some p=>rw[k.arr _ _ _ e hr]at h0;cases h0
 ·intro b' t p j he hj
  by_cases e:b'=b
  ·subst e;rw[hb]at he;cases he;exact hi _ _ _ rfl hj
  ·rw[ho b' e]at he
   have hj0:=k.mp _ _ e hj
   obtain⟨h1,h2⟩:=h.itr b' t p j he hj0
   exact⟨h1,by rw[stays b' j e (by rw[he];exact hj0)];exact h2⟩
 ·intro b' g es p he hr
  by_cases e:b'=b
  ·subst e;rw[hb]at he;cases he;exact(hv _ _ rfl).1 _ hr
  ·rw[ho b' e]at he
   have hr0:=k.arr _ _ _ e hr
   exact(h.vec b' g es p he hr0).mono k.lr k.ls fun j o hj=>stays b' j e (by rw[he];exact⟨p,o,hr0,hj⟩)
 ·intro b' g es g' he hg
  by_cases e:b'=b
  ·subst e;rw[hb]at he;cases he;exact(hv _ _ rfl).2 _ hg
  ·rw[ho b' e]at he
   have h0:=h.vgen b' g es g' he hg
   cases hr:r'.arr b' g' with
   |none=>rfl
   |some p=>rw[k.arr _ _ _ e hr]at h0;cases h0
 ·intro b' kt vt l j he hj
  by_cases e:b'=b
  ·subst e;rw[hb]at he;cases he;exact hm _ _ _ _ rfl hj
  ·rw[ho b' e]at he
   have hj0:=k.mp _ _ e hj
   obtain⟨es,h1,h2⟩:=h.map b' kt vt l j he hj0
   exact⟨es,by rw[stays b' j e (by rw[he];exact hj0)];exact h1,h2.mono k.ls⟩
 ·intro b' kt ks es j he hj
  by_cases e:b'=b
  ·subst e;rw[hb]at he;cases he;exact hfm _ _ _ _ rfl hj
  ·rw[ho b' e]at he
   have hj0:=k.mp _ _ e hj
   obtain⟨ms,h1,h2⟩:=h.fmap b' kt ks es j he hj0
   exact⟨ms,by rw[stays b' j e (by rw[he];exact hj0)];exact h1,h2.mono k.lr k.ls⟩
end Go.Proofs.Ytoehlcomhpnjgaa.Vx
