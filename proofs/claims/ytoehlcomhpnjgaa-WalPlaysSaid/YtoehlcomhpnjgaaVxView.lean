import Derived.Test.YtoehlcomhpnjgaaVxRun
noncomputable section
namespace Go.Proofs.Ytoehlcomhpnjgaa.Vx
open Go Go.RowKit
set_option linter.unusedVariables false
def s1b (b:Nat):List Nat→Nat→Option Nat
 |[],_=>none
 |x::xs,i=>bif Nat.beq x b then some i else s1b b xs (i+1)
def idx (m:List Nat)(b:Nat):Option Nat:=s1b b m 0
theorem f1o {b:Nat}: ∀{m:List Nat} {k i:Nat},s1b b m k=some i→k≤i∧m[i-k]? =some b
 |[],k,i,h=>by simp[s1b]at h
 |x::xs,k,i,h=>by
  unfold s1b at h
  cases e:Nat.beq x b with
  |true=>
   rw[e]at h;simp only[cond_true,Option.some.injEq]at h;subst h
   have:=Nat.eq_of_beq_eq_true e
   exact⟨Nat.le_refl _,by simp[this]⟩
  |false=>
   rw[e]at h;simp only[cond_false]at h
   obtain⟨h1,h2⟩:=f1o h
   refine⟨by omega,?_⟩
   rw[show i-k=(i-(k+1))+1 by omega,List.getElem?_cons_succ];exact h2
theorem d0i {m:List Nat}{b i:Nat}(h:idx m b=some i):m[i]? =some b:=by
 have:=(f1o h).2;simpa using this
def o0q:Option Blk→Bool
 |some (.arr _ _ _)=>true
 |some (.frz _ _ _)=>true
 |some (.vec _ _)=>true
 |_=>false
def g0e (s:SW)(b:Nat):Nat:=match s.blk b with
 |some (.arr _ g _)=>g
 |some (.frz _ g _)=>g
 |some (.vec g _)=>g
 |_=>0
def ren (m:List Nat)(gt:Nat→Nat)(s:SW):Nat→SV→SV
 |0,v=>match v with
  |.arrd t k l=>.arrd t k l
  |_=>.dead
 |n+1,v=>match v with
  |.own b g=>match idx m b with
   |some i=>bif Nat.beq g (g0e s b)&&o0q (s.blk b)then .own i (gt i)else .dead
   |none=>.dead
  |.part b g lo k=>match idx m b with
   |some i=>bif Nat.beq g (g0e s b)&&o0q (s.blk b)then .part i (gt i) lo k else .dead
   |none=>.dead
  |.ptr b o=>match idx m b with
   |some i=>.ptr i o
   |none=>.dead
  |.eptr b g q o=>match idx m b with
   |some i=>bif Nat.beq g (g0e s b)&&o0q (s.blk b)then .eptr i (gt i) q o else .dead
   |none=>.dead
  |.aptr b o w k q j=>match idx m b with
   |some i=>.aptr i o w k q j
   |none=>.dead
  |.asl b o k=>match idx m b with
   |some i=>.asl i o k
   |none=>.dead
  |.optr c b o=>match idx m b with
   |some i=>.optr c i o
   |none=>.dead
  |.asp b o k j=>match idx m b with
   |some i=>.asp i o k j
   |none=>.dead
  |.esp b g q k j=>match idx m b with
   |some i=>bif Nat.beq g (g0e s b)&&o0q (s.blk b)then .esp i (gt i) q k j else .dead
   |none=>.dead
  |.mapv b=>match idx m b with
   |some i=>.mapv i
   |none=>.dead
  |.itr b=>match idx m b with
   |some i=>.itr i
   |none=>.dead
  |.iptr es o=>.iptr (es.map (ren m gt s n)) o
  |.fn f fs cs=>.fn f (fs.map (ren m gt s n)) (cs.map (ren m gt s n))
  |.iface t v=>.iface t (ren m gt s n v)
  |.agg es=>.agg (es.map (ren m gt s n))
  |.tup es=>.tup (es.map (ren m gt s n))
  |v=>v
def RF:Nat:=12
def renB (m:List Nat)(gt:Nat→Nat)(s:SW)(i:Nat):Option Blk→Blk
 |some (.cells es)=>.cells (es.map (ren m gt s RF))
 |some (.arr t _ l)=>.arr t (gt i) l
 |some (.frz t _ l)=>.frz t (gt i) l
 |some .gone=>.gone
 |some (.iter t p)=>.iter t p
 |some (.vec _ es)=>.vec (gt i) (es.map (ren m gt s RF))
 |some (.map kt vt l)=>.map kt vt l
 |some (.fmap kt ks es)=>.fmap kt ks (es.map (ren m gt s RF))
 |none=>.gone
def viewB (m0:List Nat)(gt:Nat→Nat)(s:SW):List Nat→Nat→List Blk
 |[],_=>[]
 |b::m,i=>renB m0 gt s i (s.blk b)::viewB m0 gt s m (i+1)
def view (m:List Nat)(gt:Nat→Nat)(s:SW):SW:=⟨viewB m gt s m 0,[]⟩
def injB (n:Nat):List Nat→Bool
 |[]=>true
 |b::m=>(Nat.ble n b|| !m.contains b)&&injB n m
def RM.view (r:RM)(m:List Nat)(gt:Nat→Nat)(s:SW):RM:=
 ⟨fun i=>(m[i]?).bind r.cel,fun i g=>if g=gt i then(m[i]?).bind fun b=>if o0q (s.blk b)=true then r.arr b (g0e s b)else none else none,fun i=>(m[i]?).bind r.mp⟩
theorem o1r (m0:List Nat)(gt:Nat→Nat)(s:SW): ∀(m:List Nat) (k i:Nat),(viewB m0 gt s m k)[i]? =(m[i]?).map fun b=>renB m0 gt s (k+i) (s.blk b)
 |[],k,i=>by simp[viewB]
 |b::m,k,0=>by simp[viewB]
 |b::m,k,i+1=>by simp only[viewB,List.getElem?_cons_succ,o1r m0 gt s m (k+1) i];rw[show k+1+i=k+(i+1) by omega]
theorem r0p (m:List Nat)(gt:Nat→Nat)(s:SW)(i:Nat):(view m gt s).blk i=(m[i]?).map fun b=>renB m gt s i (s.blk b):=by
 simp only[view,SW.blk,o1r,Nat.zero_add]
theorem w0u (m0:List Nat)(gt:Nat→Nat)(s:SW): ∀(m:List Nat) (k:Nat),(viewB m0 gt s m k).length=m.length
 |[],_=>rfl
 |b::m,k=>by simp[viewB,w0u m0 gt s m]
theorem z0d (m:List Nat)(gt:Nat→Nat)(s:SW):(view m gt s).len=m.length:=w0u _ _ _ _ _
theorem g1m {n:Nat}: ∀{m:List Nat},injB n m=true→ ∀(i i' b:Nat),m[i]? =some b→m[i']? =some b→b<n→i=i'
 |[],_,i,i',b,h,_,_=>by simp at h
 |x::m,h,i,i',b,h1,h2,hb=>by
  simp only[injB,Bool.and_eq_true,Bool.or_eq_true]at h
  obtain⟨h3,h4⟩:=h
  have out: ∀k:Nat,x=b→m[k]? =some b→False:=by
   intro k e q
   subst e
   rcases h3 with h3|h3
   ·have:=Nat.le_of_ble_eq_true h3;omega
   ·have:=List.mem_of_getElem? q
    simp only[Bool.not_eq_true',List.contains_eq_mem,decide_eq_false_iff_not]at h3
    exact h3 this
  cases i with
  |zero=>
   cases i' with
   |zero=>rfl
   |succ i'=>simp only[List.getElem?_cons_zero,Option.some.injEq]at h1;simp only[List.getElem?_cons_succ]at h2;exact(out i' h1 h2).elim
  |succ i=>
   cases i' with
   |zero=>simp only[List.getElem?_cons_zero,Option.some.injEq]at h2;simp only[List.getElem?_cons_succ]at h1;exact(out i h2 h1).elim
   |succ i'=>
    simp only[List.getElem?_cons_succ]at h1 h2
    rw[g1m h4 i i' b h1 h2 hb]
theorem d1e (m:List Nat)(gt:Nat→Nat)(s:SW)(n:Nat)(v:SV)(hv:v.isArr=true):ren m gt s n v=v:=by
 cases v<;>first|(cases n<;>rfl)|cases hv
theorem bif_na {c:Bool}{x y:SV}(hx:x.isArr=false)(hy:y.isArr=false):(bif c then x else y).isArr=false:=by cases c<;>assumption
theorem g1e (m:List Nat)(gt:Nat→Nat)(s:SW)(n:Nat)(v:SV)(hv:v.isArr=false):(ren m gt s n v).isArr=false:=by
 cases n with
 |zero=>cases v<;>first|rfl|cases hv
 |succ n=>
  cases v<;>first|rfl|cases hv|skip
  all_goals (simp only[ren];split<;>first|rfl|exact bif_na rfl rfl)
theorem ren_w (m:List Nat)(gt:Nat→Nat)(s:SW)(n:Nat)(v:SV):(ren m gt s n v).w=v.w:=by
 cases e:v.isArr with
 |true=>rw[d1e m gt s n v e]
 |false=>rw[o0s e,o0s (g1e m gt s n v e)]
theorem c1g (m:List Nat)(gt:Nat→Nat)(s:SW)(n:Nat): ∀es:List SV,esW (es.map (ren m gt s n))=esW es
 |[]=>rfl
 |e::es=>by simp only[List.map_cons,esW,ren_w,c1g m gt s n es]
theorem t0e {m:List Nat}{gt:Nat→Nat}{s:SW}{n:Nat}: ∀{es:List SV} {o k:Nat} {e:SV},(k,e)∈offs (es.map (ren m gt s n)) o→ ∃e0,(k,e0)∈offs es o∧e=ren m gt s n e0
 |[],o,k,e,h=>by simp[offs]at h
 |x::es,o,k,e,h=>by
  simp only[List.map_cons,offs,List.mem_cons,ren_w]at h⊢
  rcases h with h|h
  ·cases h;exact⟨x,.inl rfl,rfl⟩
  ·obtain⟨e0,h1,h2⟩:=t0e h
   exact⟨e0,.inr h1,h2⟩
theorem m0s {m:List Nat}{gt:Nat→Nat}{s:SW}{n:Nat}{es:List SV}{o k:Nat}{t:Ty}{q:Nat}{l:List t.den}(h:(k,SV.arrd t q l)∈offs (es.map (ren m gt s n)) o):(k,SV.arrd t q l)∈offs es o:=by
 obtain⟨e0,h1,h2⟩:=t0e h
 cases e:e0.isArr with
 |true=>rw[d1e m gt s n e0 e]at h2;rw[h2];exact h1
 |false=>have:=g1e m gt s n e0 e;rw[←h2]at this;cases this
theorem c1p {s:SW}{b g:Nat}{t:Ty}{l:List t.den}(h:s.blk b=some (.arr t g l)):g0e s b=g:=by simp[g0e,h]
theorem a1f {s:SW}{b g:Nat}{es:List SV}(h:s.blk b=some (.vec g es)):g0e s b=g:=by simp[g0e,h]
theorem i2x {s:SW}{b g:Nat}{t:Ty}{l:List t.den}(h:s.blk b=some (.frz t g l)):g0e s b=g:=by simp[g0e,h]
section
variable {r:RM} {σ:Snap} {s:SW} {w:World} {m:List Nat} {gt:Nat→Nat}
theorem RM.view_arr {b i g:Nat}{x:ALoc}(h:r.arr b g=some x)(hi:idx m b=some i)(hg:(Nat.beq g (g0e s b)&&o0q (s.blk b))=true):(r.view m gt s).arr i (gt i)=some x:=by
 rw[Bool.and_eq_true]at hg
 have:=Nat.eq_of_beq_eq_true hg.1
 simp only[RM.view,if_true,d0i hi,Option.bind_some,hg.2]
 rw[←this];exact h
theorem n2l {v:SV}{v':Value}(h:VRel r σ v v'): ∀n,VRel (r.view m gt s) σ (ren m gt s n v) v':=by
 have z: ∀v v',VRel r σ v v'→VRel (r.view m gt s) σ (ren m gt s 0 v) v':=by
  intro v v' h
  cases h<;>exact .dead _
 induction h with
 |own b g x h=>
  intro n
  cases n with
  |zero=>exact .dead _
  |succ n=>
   simp only[ren]
   split
   ·rename_i i hi
    cases hg:Nat.beq g (g0e s b)&&o0q (s.blk b)with
    |true=>exact .own _ _ x (RM.view_arr h hi hg)
    |false=>exact .dead _
   ·exact .dead _
 |part b g lo len x a cap h h1 h2 h3 h4 h5=>
  intro n
  cases n with
  |zero=>exact .dead _
  |succ n=>
   simp only[ren]
   split
   ·rename_i i hi
    cases hg:Nat.beq g (g0e s b)&&o0q (s.blk b)with
    |true=>exact .part _ _ lo len x a cap (RM.view_arr h hi hg) h1 h2 h3 h4 h5
    |false=>exact .dead _
   ·exact .dead _
 |ptr b o j k h=>
  intro n
  cases n with
  |zero=>exact .dead _
  |succ n=>
   simp only[ren]
   split
   ·rename_i i hi;exact .ptr _ o j k (by simp only[RM.view,d0i hi,Option.bind_some];exact h)
   ·exact .dead _
 |eptr b g q o x j k h h1 h2=>
  intro n
  cases n with
  |zero=>exact .dead _
  |succ n=>
   simp only[ren]
   split
   ·rename_i i hi
    cases hg:Nat.beq g (g0e s b)&&o0q (s.blk b)with
    |true=>exact .eptr _ _ q o x j k (RM.view_arr h hi hg) h1 h2
    |false=>exact .dead _
   ·exact .dead _
 |aptr b o wd q i' k j p h h1=>
  intro n
  cases n with
  |zero=>exact .dead _
  |succ n=>
   simp only[ren]
   split
   ·rename_i i hi;exact .aptr _ o wd q i' k j p (by simp only[RM.view,d0i hi,Option.bind_some];exact h) h1
   ·exact .dead _
 |iptr es o base j c hj hb h1 ha ih=>
  intro n
  cases n with
  |zero=>exact .dead _
  |succ n=>
   refine .iptr _ o base j c hj (fun k hk=>hb k (by rw[c1g]at hk;exact hk)) (fun k e hk hn v hv=> ?_) (fun k t q l hk=>ha k t q l (m0s hk))
   obtain⟨e0,q1,q2⟩:=t0e hk
   subst q2
   have hn0:e0.isArr=false:=by
    cases u:e0.isArr with
    |false=>rfl
    |true=>rw[d1e _ _ _ _ _ u,u]at hn;cases hn
   exact ih k e0 q1 hn0 v hv n
 |optrT b o j p h=>
  intro n
  cases n with
  |zero=>exact .dead _
  |succ n=>
   simp only[ren]
   split
   ·rename_i i hi;exact .optrT _ o j p (by simp only[RM.view,d0i hi,Option.bind_some];exact h)
   ·exact .dead _
 |optrF b o=>
  intro n
  cases n with
  |zero=>exact .dead _
  |succ n=>
   simp only[ren]
   split
   ·exact .optrF _ o
   ·exact .dead _
 |asl b o k j p h=>
  intro n
  cases n with
  |zero=>exact .dead _
  |succ n=>
   simp only[ren]
   split
   ·rename_i i hi;exact .asl _ o k j p (by simp only[RM.view,d0i hi,Option.bind_some];exact h)
   ·exact .dead _
 |asp b o k q j p h h1=>
  intro n
  cases n with
  |zero=>exact .dead _
  |succ n=>
   simp only[ren]
   split
   ·rename_i i hi;exact .asp _ o k q j p (by simp only[RM.view,d0i hi,Option.bind_some];exact h) h1
   ·exact .dead _
 |esp b g q k m0 x j o h h1 h2 h3=>
  intro n
  cases n with
  |zero=>exact .dead _
  |succ n=>
   simp only[ren]
   split
   ·rename_i i hi
    cases hg:Nat.beq g (g0e s b)&&o0q (s.blk b)with
    |true=>exact .esp _ _ q k m0 x j o (RM.view_arr h hi hg) h1 h2 h3
    |false=>exact .dead _
   ·exact .dead _
 |mapv b j h=>
  intro n
  cases n with
  |zero=>exact .dead _
  |succ n=>
   simp only[ren]
   split
   ·rename_i i hi;exact .mapv _ j (by simp only[RM.view,d0i hi,Option.bind_some];exact h)
   ·exact .dead _
 |itr b j h=>
  intro n
  cases n with
  |zero=>exact .dead _
  |succ n=>
   simp only[ren]
   split
   ·rename_i i hi;exact .itr _ j (by simp only[RM.view,d0i hi,Option.bind_some];exact h)
   ·exact .dead _
 |fn f fs cs fs' cs' h1 h2 h3 h4 i2 i4=>
  intro n
  cases n with
  |zero=>exact .dead _
  |succ n=>
   refine .fn f _ _ fs' cs' (by simpa using h1) (fun i v v' hv hv'=> ?_) (by simpa using h3) (fun i v v' hv hv'=> ?_)
   ·rw[List.getElem?_map]at hv
    cases e:fs[i]? with
    |none=>rw[e]at hv;cases hv
    |some u=>rw[e]at hv;cases hv;exact i2 i u v' e hv' n
   ·rw[List.getElem?_map]at hv
    cases e:cs[i]? with
    |none=>rw[e]at hv;cases hv
    |some u=>rw[e]at hv;cases hv;exact i4 i u v' e hv' n
 |iface t v v' h ih=>
  intro n
  cases n with
  |zero=>exact .dead _
  |succ n=>exact .iface t _ v' (ih n)
 |agg es c hw h1 ha ih=>
  intro n
  cases n with
  |zero=>exact .dead _
  |succ n=>
   refine .agg _ c (by rw[c1g];exact hw) (fun k e hk hn v hv=> ?_) (fun k t q l hk=>ha k t q l (m0s hk))
   obtain⟨e0,q1,q2⟩:=t0e hk
   subst q2
   have hn0:e0.isArr=false:=by
    cases u:e0.isArr with
    |false=>rfl
    |true=>rw[d1e _ _ _ _ _ u,u]at hn;cases hn
   exact ih k e0 q1 hn0 v hv n
 |tup es c h1 h2 ih=>
  intro n
  cases n with
  |zero=>exact .dead _
  |succ n=>
   refine .tup _ c (by simpa using h1) fun i v v' hv hv'=> ?_
   rw[List.getElem?_map]at hv
   cases e:es[i]? with
   |none=>rw[e]at hv;cases hv
   |some u=>rw[e]at hv;cases hv;exact ih i u v' e hv' n
 |dead v=>intro n;cases n<;>exact .dead _
 |undef=>intro n;cases n<;>first|exact .dead _|exact .undef
 |bool b=>intro n;cases n<;>first|exact .dead _|exact .bool _
 |int k i=>intro n;cases n<;>first|exact .dead _|exact .int _ _
 |str b=>intro n;cases n<;>first|exact .dead _|exact .str _
 |imm t l v h=>intro n;cases n<;>first|exact .dead _|exact .imm t l v h
 |nilsl=>intro n;cases n<;>first|exact .dead _|exact .nilsl
 |nilptr=>intro n;cases n<;>first|exact .dead _|exact .nilptr
 |nilmap=>intro n;cases n<;>first|exact .dead _|exact .nilmap
 |nilfn=>intro n;cases n<;>first|exact .dead _|exact .nilfn
 |nilif=>intro n;cases n<;>first|exact .dead _|exact .nilif
theorem LRel.ren {l:List SV}{a:Array Value}(h:LRel r σ l a)(n:Nat):LRel (r.view m gt s) σ (l.map (ren m gt s n)) a:=by
 refine⟨by simp[h.size],fun i v v' hv hv'=> ?_⟩
 rw[List.getElem?_map]at hv
 cases e:l[i]? with
 |none=>rw[e]at hv;cases hv
 |some u=>rw[e]at hv;cases hv;exact n2l (h.at_ i u v' e hv') n
theorem ERel.ren {es:List SV}{get:Nat→Option Value}{o:Nat}(h:ERel r σ es get o)(n:Nat):ERel (r.view m gt s) σ (es.map (ren m gt s n)) get o:=by
 refine⟨fun k e hk hn=> ?_,fun k t q l hk=>h.arr k t q l (m0s hk)⟩
 obtain⟨e0,q1,q2⟩:=t0e hk
 subst q2
 have hn0:e0.isArr=false:=by
  cases u:e0.isArr with
  |false=>rfl
  |true=>rw[d1e _ _ _ _ _ u,u]at hn;cases hn
 obtain⟨v,h1,h2⟩:=h.one k e0 q1 hn0
 exact⟨v,h1,n2l h2 n⟩
theorem RM.view_at {i j:Nat}(h:(r.view m gt s).at i j): ∃b,m[i]? =some b∧r.at b j:=by
 rcases h with⟨n,h⟩|⟨g,x,o,h1,h2⟩|h
 ·simp only[RM.view,Option.bind_eq_some_iff]at h
  obtain⟨b,h3,h4⟩:=h
  exact⟨b,h3,.inl ⟨n,h4⟩⟩
 ·simp only[RM.view]at h1
  split at h1
  ·simp only[Option.bind_eq_some_iff]at h1
   obtain⟨b,h3,h4⟩:=h1
   split at h4
   ·exact⟨b,h3,.inr (.inl ⟨_,x,o,h4,h2⟩)⟩
   ·cases h4
  ·cases h1
 ·simp only[RM.view,Option.bind_eq_some_iff]at h
  obtain⟨b,h3,h4⟩:=h
  exact⟨b,h3,.inr (.inr h4)⟩
theorem RM.view_arr_some {i g:Nat}{x:ALoc}(h:(r.view m gt s).arr i g=some x): ∃b,g=gt i∧m[i]? =some b∧o0q (s.blk b)=true∧r.arr b (g0e s b)=some x:=by
 simp only[RM.view]at h
 split at h
 ·rename_i hg
  simp only[Option.bind_eq_some_iff]at h
  obtain⟨b,h3,h4⟩:=h
  split at h4
  ·rename_i hrow;exact⟨b,hg,h3,hrow,h4⟩
  ·cases h4
 ·cases h
theorem Rel.view (h:Rel r σ s w)(hm:injB s.len m=true):Rel (r.view m gt s) σ (view m gt s) w:=by
 have lt: ∀{i b},m[i]? =some b→i<(Vx.view m gt s).len:=fun e=>by rw[z0d];exact(List.getElem?_eq_some_iff.1 e).1
 have blk: ∀{i y},(Vx.view m gt s).blk i=some y→ ∃b,m[i]? =some b∧y=renB m gt s i (s.blk b):=by
  intro i y e
  rw[r0p]at e
  cases u:m[i]? with
  |none=>rw[u]at e;cases e
  |some b=>rw[u]at e;exact⟨b,rfl,by simpa using e.symm⟩
 refine⟨h.snap,fun i x e=> ?_,fun i g x e=> ?_,fun i x e=> ?_,fun i j e=> ?_,?_,?_,?_,?_,?_,?_,?_,?_,?_,?_,?_⟩
 ·simp only[RM.view,Option.bind_eq_some_iff]at e
  obtain⟨b,e1,_⟩:=e;exact lt e1
 ·obtain⟨b,_,e1,_⟩:=RM.view_arr_some e;exact lt e1
 ·simp only[RM.view,Option.bind_eq_some_iff]at e
  obtain⟨b,e1,_⟩:=e;exact lt e1
 ·obtain⟨b,_,e1⟩:=RM.view_at e;exact h.inb b j e1
 ·intro i es j n e hr
  obtain⟨b,e1,e2⟩:=blk e
  simp only[RM.view,e1,Option.bind_some]at hr
  cases u:s.blk b with
  |none=>rw[u]at e2;cases e2
  |some y=>
   rw[u]at e2
   cases y with
   |cells es0=>
    simp only[renB]at e2;cases e2
    obtain⟨c,T,f,h1,h2,h3,h4⟩:=h.cel b es0 j n u hr
    exact⟨c,T,f,h1,h2,by rw[c1g];exact h3,h4.ren RF⟩
   |_=>simp only[renB]at e2;cases e2
 ·intro i t g l x e hr
  obtain⟨b,e1,e2⟩:=blk e
  obtain⟨b',hg,e3,e4,e5⟩:=RM.view_arr_some hr
  rw[e1]at e3;cases e3
  cases u:s.blk b with
  |none=>rw[u]at e2;cases e2
  |some y=>
   rw[u]at e2
   cases y with
   |arr t0 g0 l0=>
    simp only[renB]at e2;cases e2
    rw[c1p u]at e5
    exact h.arr b _ _ _ x u e5
   |_=>simp only[renB]at e2;cases e2
 ·intro i t g l x e hr
  obtain⟨b,e1,e2⟩:=blk e
  obtain⟨b',hg,e3,e4,e5⟩:=RM.view_arr_some hr
  rw[e1]at e3;cases e3
  cases u:s.blk b with
  |none=>rw[u]at e2;cases e2
  |some y=>
   rw[u]at e2
   cases y with
   |frz t0 g0 l0=>
    simp only[renB]at e2;cases e2
    rw[i2x u]at e5
    exact h.frz b _ _ _ x u e5
   |_=>simp only[renB]at e2;cases e2
 ·intro i i' j e e'
  obtain⟨b,e1,e2⟩:=RM.view_at e
  obtain⟨b',e1',e2'⟩:=RM.view_at e'
  have:=h.uniq b b' j e2 e2'
  subst this
  exact g1m hm i i' b e1 e1' (h.has_lt (RM.at_has e2))
 ·intro i j e
  obtain⟨y,e0,hy⟩:=RM.live_some e
  obtain⟨b,e1,e2⟩:=blk e0
  refine h.free b j ?_
  rw[e0]at e
  cases u:s.blk b with
  |none=>rw[u]at e2;subst e2;exact(hy rfl).elim
  |some y0=>
   rw[u]at e2
   cases y0 with
   |cells es0=>
    simp only[renB]at e2;subst e2
    obtain⟨n,hn⟩:=e
    simp only[RM.view,e1,Option.bind_some]at hn
    exact⟨n,hn⟩
   |arr t0 g0 l0=>
    simp only[renB]at e2;subst e2
    obtain⟨x,o,hx,ho⟩:=e
    obtain⟨b',_,e3,_,e5⟩:=RM.view_arr_some hx
    rw[e1]at e3;cases e3
    rw[c1p u]at e5
    exact⟨x,o,e5,ho⟩
   |iter t0 p0=>
    simp only[renB]at e2;subst e2
    have e:(r.view m gt s).mp i=some j:=e
    simp only[RM.view,e1,Option.bind_some]at e
    exact e
   |vec g0 es0=>
    simp only[renB]at e2;subst e2
    obtain⟨x,o,hx,ho⟩:=e
    obtain⟨b',_,e3,_,e5⟩:=RM.view_arr_some hx
    rw[e1]at e3;cases e3
    rw[a1f u]at e5
    exact⟨x,o,e5,ho⟩
   |map kt vt l=>
    simp only[renB]at e2;subst e2
    have e:(r.view m gt s).mp i=some j:=e
    simp only[RM.view,e1,Option.bind_some]at e
    exact e
   |fmap kt ks es=>
    simp only[renB]at e2;subst e2
    have e:(r.view m gt s).mp i=some j:=e
    simp only[RM.view,e1,Option.bind_some]at e
    exact e
   |_=>simp only[renB]at e2;subst e2;first|exact e.elim|exact(hy rfl).elim
 ·intro i t g l g' e hg
  obtain⟨b,e1,e2⟩:=blk e
  cases u:s.blk b with
  |none=>rw[u]at e2;cases e2
  |some y0=>
   rw[u]at e2
   cases y0 with
   |arr t0 g0 l0=>
    simp only[renB]at e2;cases e2
    cases q:(r.view m gt s).arr i g' with
    |none=>rfl
    |some x=>obtain⟨_,q1,_⟩:=RM.view_arr_some q;omega
   |_=>simp only[renB]at e2;cases e2
 ·intro i t p j e hj
  obtain⟨b,e1,e2⟩:=blk e
  simp only[RM.view,e1,Option.bind_some]at hj
  cases u:s.blk b with
  |none=>rw[u]at e2;cases e2
  |some y0=>
   rw[u]at e2
   cases y0 with
   |iter t0 p0=>
    simp only[renB]at e2;cases e2
    exact h.itr b _ _ j u hj
   |_=>simp only[renB]at e2;cases e2
 ·intro i g es x e hr
  obtain⟨b,e1,e2⟩:=blk e
  obtain⟨b',hg,e3,e4,e5⟩:=RM.view_arr_some hr
  rw[e1]at e3;cases e3
  cases u:s.blk b with
  |none=>rw[u]at e2;cases e2
  |some y=>
   rw[u]at e2
   cases y with
   |vec g0 es0=>
    simp only[renB]at e2;cases e2
    rw[a1f u]at e5
    have hv:=h.vec b _ _ x u e5
    refine⟨hv.wd,by rw[c1g];exact hv.len,hv.cap,hv.nil,fun j o hj=> ?_⟩
    obtain⟨c,T,f,h1,h2,h3,h4⟩:=hv.row j o hj
    exact⟨c,T,f,h1,h2,h3,h4.ren RF⟩
   |_=>simp only[renB]at e2;cases e2
 ·intro i g es g' e hg
  obtain⟨b,e1,e2⟩:=blk e
  cases u:s.blk b with
  |none=>rw[u]at e2;cases e2
  |some y0=>
   rw[u]at e2
   cases y0 with
   |vec g0 es0=>
    simp only[renB]at e2;cases e2
    cases q:(r.view m gt s).arr i g' with
    |none=>rfl
    |some x=>obtain⟨_,q1,_⟩:=RM.view_arr_some q;omega
   |_=>simp only[renB]at e2;cases e2
 ·intro i kt vt l j e hj
  obtain⟨b,e1,e2⟩:=blk e
  simp only[RM.view,e1,Option.bind_some]at hj
  cases u:s.blk b with
  |none=>rw[u]at e2;cases e2
  |some y0=>
   rw[u]at e2
   cases y0 with
   |map kt0 vt0 l0=>
    simp only[renB]at e2;cases e2
    exact h.map b _ _ _ j u hj
   |_=>simp only[renB]at e2;cases e2
 ·intro i kt ks es j e hj
  obtain⟨b,e1,e2⟩:=blk e
  simp only[RM.view,e1,Option.bind_some]at hj
  cases u:s.blk b with
  |none=>rw[u]at e2;cases e2
  |some y0=>
   rw[u]at e2
   cases y0 with
   |fmap kt0 ks0 es0=>
    simp only[renB]at e2;cases e2
    obtain⟨ms,h1,h2⟩:=h.fmap b _ _ _ j u hj
    exact⟨ms,h1,h2.size,h2.vals.ren RF,h2.ent⟩
   |_=>simp only[renB]at e2;cases e2
end
end Go.Proofs.Ytoehlcomhpnjgaa.Vx
