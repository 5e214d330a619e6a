import Derived.Test.YtoehlcomhpnjgaaVxVia
namespace Go.Proofs.Ytoehlcomhpnjgaa.Vx
open Go Go.RowKit
set_option linter.unusedVariables false
def gb (d:List Dat)(h:Nat):Bool:=match d[h]? with
 |some (.b x)=>x
 |_=>false
def gn (d:List Dat)(h:Nat):Int:=match d[h]? with
 |some (.n x)=>x
 |_=>0
def gs (d:List Dat)(h:Nat):ByteArray:=match d[h]? with
 |some (.s x)=>x
 |_=>ByteArray.empty
def gl (t:Ty)(d:List Dat)(h:Nat):List t.den:=match d[h]? with
 |some (.l t' x)=>match c0r t' t x with
  |some y=>y
  |none=>[]
 |_=>[]
inductive PV where
 |dead
 |bool (h:Nat)
 |int (k:IntKind) (h:Nat)
 |str (h:Nat)
 |imm (t:Ty) (h:Nat)
 |arrd (t:Ty) (n h:Nat)
 |nilsl
 |own (b:Nat)
 |ptr (b o:Nat)
 |nilptr
 |asl (b o n:Nat)
 |optr (h b o:Nat)
 |imn (t:Ty) (h:Nat)
 |mapv (b:Nat)
 |itr (b:Nat)
 |nilmap
 |fn (f:Fn) (fs cs:List PV)
 |nilfn
 |iface (t:TypeId) (v:PV)
 |nilif
 |agg (es:List PV)
 |tup (es:List PV)
inductive PB where
 |cells (es:List PV)
 |arr (t:Ty) (h:Nat)
 |frz (t:Ty) (h:Nat)
 |gone
 |iter (s p:Nat)
 |vec (es:List PV)
 |map (kt vt:Ty) (h:Nat)
 |fmap (kt:Ty) (h:Nat) (es:List PV)
mutual
def instV:PV→List Dat→SV
 |.dead,_=>.dead
 |.bool h,d=>.bool (gb d h)
 |.int k h,d=>.int k (gn d h)
 |.str h,d=>.str (gs d h)
 |.imm t h,d=>.imm t (gl t d h)
 |.arrd t n h,d=>.arrd t n (gl t d h)
 |.nilsl,_=>.nilsl
 |.own b,_=>.own b 0
 |.ptr b o,_=>.ptr b o
 |.nilptr,_=>.nilptr
 |.mapv b,_=>.mapv b
 |.itr b,_=>.itr b
 |.asl b o n,_=>.asl b o n
 |.optr h b o,d=>.optr (gb d h) b o
 |.imn t h,d=>.imm t (gl t d h)
 |.nilmap,_=>.nilmap
 |.fn f fs cs,d=>.fn f (instL fs d) (instL cs d)
 |.nilfn,_=>.nilfn
 |.iface t v,d=>.iface t (instV v d)
 |.nilif,_=>.nilif
 |.agg es,d=>.agg (instL es d)
 |.tup es,d=>.tup (instL es d)
def instL:List PV→List Dat→List SV
 |[],_=>[]
 |p::ps,d=>instV p d::instL ps d
end
def instB:PB→List Dat→Blk
 |.cells es,d=>.cells (instL es d)
 |.arr t h,d=>.arr t 0 (gl t d h)
 |.frz t h,d=>.frz t 0 (gl t d h)
 |.gone,_=>.gone
 |.iter a p,d=>.iter (gs d a) (gn d p)
 |.vec es,d=>.vec 0 (instL es d)
 |.map kt vt h,d=>.map kt vt (gl (.pair kt vt) d h)
 |.fmap kt h es,d=>.fmap kt (gl kt d h) (instL es d)
def instBs (bs:List PB)(d:List Dat):List Blk:=bs.map fun b=>instB b d
def add (h:Nat)(acc:List Dat)(x:Dat):Option (List Dat):=match Nat.beq h acc.length with
 |true=>some (acc++[x])
 |false=>none
mutual
def fitV:PV→SV→List Dat→Option (List Dat)
 |.dead,v,acc=>match v.isArr with
  |true=>none
  |false=>some acc
 |.bool h,.bool b,acc=>add h acc (.b b)
 |.int k h,.int k' n,acc=>match decide (k=k')with
  |true=>add h acc (.n n)
  |false=>none
 |.str h,.str s,acc=>add h acc (.s s)
 |.imm t h,.imm t' l,acc=>match c0r t' t l with
  |some l=>add h acc (.l t l)
  |none=>none
 |.arrd t n h,.arrd t' n' l,acc=>match Nat.beq n n',c0r t' t l with
  |true,some l=>add h acc (.l t l)
  |_,_=>none
 |.nilsl,.nilsl,acc=>some acc
 |.own b,.own b' g,acc=>match Nat.beq b b'&&Nat.beq g 0 with
  |true=>some acc
  |false=>none
 |.ptr b o,.ptr b' o',acc=>match Nat.beq b b'&&Nat.beq o o' with
  |true=>some acc
  |false=>none
 |.nilptr,.nilptr,acc=>some acc
 |.mapv b,.mapv b',acc=>match Nat.beq b b' with
  |true=>some acc
  |false=>none
 |.imn t h,.imm t' l,acc=>match c0r t' t l with
  |some l=>add h acc (.l t l)
  |none=>none
 |.imn t h,.nilsl,acc=>add h acc (.l t [])
 |.optr h b o,.optr c b' o',acc=>match Nat.beq b b'&&Nat.beq o o' with
  |true=>add h acc (.b c)
  |false=>none
 |.asl b o n,.asl b' o' n',acc=>match Nat.beq b b'&&Nat.beq o o'&&Nat.beq n n' with
  |true=>some acc
  |false=>none
 |.itr b,.itr b',acc=>match Nat.beq b b' with
  |true=>some acc
  |false=>none
 |.nilmap,.nilmap,acc=>some acc
 |.fn f fs cs,.fn f' fs' cs',acc=>match decide (f=f')with
  |true=>match fitL fs fs' acc with
   |some a=>fitL cs cs' a
   |none=>none
  |false=>none
 |.nilfn,.nilfn,acc=>some acc
 |.iface t p,.iface t' v,acc=>match Nat.beq t t' with
  |true=>fitV p v acc
  |false=>none
 |.nilif,.nilif,acc=>some acc
 |.agg ps,.agg es,acc=>fitL ps es acc
 |.tup ps,.tup es,acc=>fitL ps es acc
 |_,_,_=>none
def fitL:List PV→List SV→List Dat→Option (List Dat)
 |[],[],acc=>some acc
 |p::ps,v::vs,acc=>match fitV p v acc with
  |some a=>fitL ps vs a
  |none=>none
 |_,_,_=>none
end
def fitB:PB→Blk→List Dat→Option (List Dat)
 |.gone,_,acc=>some acc
 |.cells ps,.cells es,acc=>fitL ps es acc
 |.arr t h,.arr t' g l,acc=>match Nat.beq g 0,c0r t' t l with
  |true,some l=>add h acc (.l t l)
  |_,_=>none
 |.frz t h,.frz t' g l,acc=>match Nat.beq g 0,c0r t' t l with
  |true,some l=>add h acc (.l t l)
  |_,_=>none
 |.iter a p,.iter x q,acc=>match add a acc (.s x)with
  |some acc1=>add p acc1 (.n q)
  |none=>none
 |.vec ps,.vec g es,acc=>match Nat.beq g 0 with
  |true=>fitL ps es acc
  |false=>none
 |.map kt vt h,.map kt' vt' l,acc=>match c0r (.pair kt' vt') (.pair kt vt) l with
  |some l=>add h acc (.l (.pair kt vt) l)
  |none=>none
 |.fmap kt h ps,.fmap kt' ks es,acc=>match c0r kt' kt ks with
  |some l=>match add h acc (.l kt l)with
   |some a=>fitL ps es a
   |none=>none
  |none=>none
 |_,_,_=>none
def q1s:List PB→List Blk→List Dat→Option (List Dat)
 |[],[],acc=>some acc
 |p::ps,b::bs,acc=>match fitB p b acc with
  |some a=>q1s ps bs a
  |none=>none
 |_,_,_=>none
def fitS (ps:List PV)(bs:List PB)(t:List SV)(s:SW):Option (List Dat):=match fitL ps t []with
 |some a=>q1s bs s.blks a
 |none=>none
theorem d0z {h:Nat}{acc acc':List Dat}{x:Dat}(e:add h acc x=some acc'):acc'=acc++[x]∧h=acc.length:=by
 unfold add at e
 split at e
 ·rename_i hb;cases e;exact⟨rfl,Nat.eq_of_beq_eq_true hb⟩
 ·cases e
theorem j1b {acc:List Dat}{x:Dat}{ext:List Dat}:((acc++[x])++ext)[acc.length]? =some x:=by
 rw[List.append_assoc,List.getElem?_append_right (Nat.le_refl _),Nat.sub_self];rfl
theorem d0b {t:Ty}(l:List t.den):c0r t t l=some l:=by
 unfold c0r
 cases decEq t t with
 |isTrue h=>rfl
 |isFalse h=>exact absurd rfl h
structure FitOk (v:SV)(f:List Dat→SV)(acc acc':List Dat):Prop where
 ext: ∃e,acc'=acc++e
 w: ∀d,(f d).w=v.w
 arr: ∀d,(f d).isArr=v.isArr
 rel: ∀(ext:List Dat) (r:RM) (σ:Snap) (v':Value),VRel r σ v v'→VRel r σ (f (acc'++ext)) v'
 row: ∀(ext:List Dat) t n l,f (acc'++ext)=.arrd t n l→v=.arrd t n l
structure FitLOk (l:List SV)(f:List Dat→List SV)(acc acc':List Dat):Prop where
 ext: ∃e,acc'=acc++e
 w: ∀d,esW (f d)=esW l
 rel: ∀(ext:List Dat) (r:RM) (σ:Snap) (a:Array Value),LRel r σ l a→LRel r σ (f (acc'++ext)) a
 erel: ∀(ext:List Dat) (r:RM) (σ:Snap) (get:Nat→Option Value) (o:Nat),ERel r σ l get o→ERel r σ (f (acc'++ext)) get o
theorem FitOk.lit {v x:SV}{acc:List Dat}(hx:x.isArr=false)(hv:v.isArr=false)(h: ∀(r:RM) (σ:Snap) (v':Value),VRel r σ v v'→VRel r σ x v'):FitOk v (fun _=>x) acc acc:=
 ⟨⟨[],by simp⟩,fun _=>by rw[o0s hx,o0s hv],fun _=>by rw[hx,hv],fun _=>h,fun _ t n l e=>by cases e;cases hx⟩
theorem ERel.cons_iff {r:RM}{σ:Snap}{e:SV}{es:List SV}{get:Nat→Option Value}{o:Nat}:ERel r σ (e::es) get o↔ERel r σ [e] get o∧ERel r σ es get (o+e.w):=by
 constructor
 ·intro h
  have h1:=ERel.left (a:=[e]) (b:=es) h
  have h2:=ERel.right (a:=[e]) (b:=es) h
  simp only[esW,Nat.add_zero]at h2
  exact⟨h1,h2⟩
 ·intro ⟨h1,h2⟩
  refine ERel.append (a:=[e]) h1 ?_
  simpa only[esW,Nat.add_zero]using h2
theorem VRel.agg_iff {r:RM}{σ:Snap}{es:List SV}{v':Value}:VRel r σ (.agg es) v'↔ ∃c,v'=.agg c∧esW es=c.size∧ERel r σ es (fun k=>c[k]?) 0:=by
 constructor
 ·exact fun h=>h.agg_of
 ·rintro⟨c,rfl,hw,he⟩
  refine .agg es c hw (fun k e hk hn v hv=> ?_) (fun k t n l hk=>by have:=he.arr k t n l hk;rwa [Nat.zero_add]at this)
  obtain⟨u,h1,h2⟩:=he.one k e hk hn
  rw[Nat.zero_add,hv]at h1;cases h1;exact h2
theorem f1i {t:Ty}{acc ext:List Dat}{l:List t.den}:gl t ((acc++[.l t l])++ext) acc.length=l:=by
 unfold gl;rw[j1b];simp only[d0b]
mutual
theorem h2c: ∀{p:PV} {v:SV} {acc acc':List Dat},fitV p v acc=some acc'→FitOk v (instV p) acc acc'
 |.dead,v,acc,acc',h=>by
  unfold fitV at h
  cases hv:v.isArr with
  |true=>simp[hv]at h
  |false=>
   simp only[hv,Option.some.injEq]at h;subst h
   exact FitOk.lit rfl hv fun r σ v' _=>.dead v'
 |.bool q,v,acc,acc',h=>by
  cases v<;>simp only[fitV]at h<;>try cases h
  obtain⟨rfl,rfl⟩:=d0z h
  refine⟨⟨_,rfl⟩,fun _=>rfl,fun _=>rfl,fun ext r σ v' hv=> ?_,fun ext t n l e=>by cases e⟩
  simp only[instV,gb,j1b];exact hv
 |.int k q,v,acc,acc',h=>by
  cases v<;>simp only[fitV]at h<;>try cases h
  split at h
  ·rename_i hk
   obtain rfl:=of_decide_eq_true hk
   obtain⟨rfl,rfl⟩:=d0z h
   refine⟨⟨_,rfl⟩,fun _=>rfl,fun _=>rfl,fun ext r σ v' hv=> ?_,fun ext t n l e=>by cases e⟩
   simp only[instV,gn,j1b];exact hv
  ·cases h
 |.str q,v,acc,acc',h=>by
  cases v<;>simp only[fitV]at h<;>try cases h
  obtain⟨rfl,rfl⟩:=d0z h
  refine⟨⟨_,rfl⟩,fun _=>rfl,fun _=>rfl,fun ext r σ v' hv=> ?_,fun ext t n l e=>by cases e⟩
  simp only[instV,gs,j1b];exact hv
 |.imm t q,v,acc,acc',h=>by
  cases v<;>simp only[fitV]at h<;>try cases h
  split at h
  ·rename_i l hl
   obtain⟨e,rfl⟩:=a0w hl
   subst e
   obtain⟨rfl,rfl⟩:=d0z h
   refine⟨⟨_,rfl⟩,fun _=>rfl,fun _=>rfl,fun ext r σ v' hv=> ?_,fun ext t n l e=>by cases e⟩
   simp only[instV,f1i];exact hv
  ·cases h
 |.arrd t n q,v,acc,acc',h=>by
  cases v<;>simp only[fitV]at h<;>try cases h
  split at h
  ·rename_i l hn hl
   obtain⟨e,rfl⟩:=a0w hl
   subst e
   have:=Nat.eq_of_beq_eq_true hn
   subst this
   obtain⟨rfl,rfl⟩:=d0z h
   refine⟨⟨_,rfl⟩,fun _=>rfl,fun _=>rfl,fun ext r σ v' hv=>(by cases hv),fun ext t n l e=> ?_⟩
   simp only[instV,f1i]at e;exact e
  ·cases h
 |.nilsl,v,acc,acc',h=>by
  cases v<;>simp only[fitV]at h<;>cases h
  exact FitOk.lit rfl rfl fun r σ v' h=>h
 |.own b,v,acc,acc',h=>by
  cases v<;>simp only[fitV]at h<;>try cases h
  split at h
  ·rename_i hb
   rw[Bool.and_eq_true]at hb
   obtain rfl:=Nat.eq_of_beq_eq_true hb.1
   obtain rfl:=Nat.eq_of_beq_eq_true hb.2
   cases h
   exact FitOk.lit rfl rfl fun r σ v' h=>h
  ·cases h
 |.ptr b o,v,acc,acc',h=>by
  cases v<;>simp only[fitV]at h<;>try cases h
  split at h
  ·rename_i hb
   rw[Bool.and_eq_true]at hb
   obtain rfl:=Nat.eq_of_beq_eq_true hb.1
   obtain rfl:=Nat.eq_of_beq_eq_true hb.2
   cases h
   exact FitOk.lit rfl rfl fun r σ v' h=>h
  ·cases h
 |.imn t q,v,acc,acc',h=>by
  cases v<;>simp only[fitV]at h<;>try cases h
  ·split at h
   ·rename_i l hl
    obtain⟨e,rfl⟩:=a0w hl
    subst e
    obtain⟨rfl,rfl⟩:=d0z h
    refine⟨⟨_,rfl⟩,fun _=>rfl,fun _=>rfl,fun ext r σ v' hv=> ?_,fun ext t n l e=>by cases e⟩
    simp only[instV,f1i];exact hv
   ·cases h
  ·obtain⟨rfl,rfl⟩:=d0z h
   refine⟨⟨_,rfl⟩,fun _=>rfl,fun _=>rfl,fun ext r σ v' hv=> ?_,fun ext t n l e=>by cases e⟩
   simp only[instV,f1i]
   cases hv
   exact .imm t [] _ (by rw[x0x];exact⟨none,0,0,rfl,rfl,Nat.le_refl _,fun i hi=>absurd hi (Nat.not_lt_zero _)⟩)
 |.optr q b o,v,acc,acc',h=>by
  cases v<;>simp only[fitV]at h<;>try cases h
  split at h
  ·rename_i hb
   rw[Bool.and_eq_true]at hb
   obtain rfl:=Nat.eq_of_beq_eq_true hb.1
   obtain rfl:=Nat.eq_of_beq_eq_true hb.2
   obtain⟨rfl,rfl⟩:=d0z h
   refine⟨⟨_,rfl⟩,fun _=>rfl,fun _=>rfl,fun ext r σ v' hv=> ?_,fun ext t n l e=>by cases e⟩
   simp only[instV,gb,j1b];exact hv
  ·cases h
 |.asl b o n,v,acc,acc',h=>by
  cases v<;>simp only[fitV]at h<;>try cases h
  split at h
  ·rename_i hb
   rw[Bool.and_eq_true,Bool.and_eq_true]at hb
   obtain rfl:=Nat.eq_of_beq_eq_true hb.1.1
   obtain rfl:=Nat.eq_of_beq_eq_true hb.1.2
   obtain rfl:=Nat.eq_of_beq_eq_true hb.2
   cases h
   exact FitOk.lit rfl rfl fun r σ v' h=>h
  ·cases h
 |.nilptr,v,acc,acc',h=>by
  cases v<;>simp only[fitV]at h<;>cases h
  exact FitOk.lit rfl rfl fun r σ v' h=>h
 |.mapv b,v,acc,acc',h=>by
  cases v<;>simp only[fitV]at h<;>try cases h
  split at h
  ·rename_i hb
   obtain rfl:=Nat.eq_of_beq_eq_true hb
   cases h
   exact FitOk.lit rfl rfl fun r σ v' h=>h
  ·cases h
 |.itr b,v,acc,acc',h=>by
  cases v<;>simp only[fitV]at h<;>try cases h
  split at h
  ·rename_i hb
   obtain rfl:=Nat.eq_of_beq_eq_true hb
   cases h
   exact FitOk.lit rfl rfl fun r σ v' h=>h
  ·cases h
 |.nilmap,v,acc,acc',h=>by
  cases v<;>simp only[fitV]at h<;>cases h
  exact FitOk.lit rfl rfl fun r σ v' h=>h
 |.fn f fs cs,v,acc,acc',h=>by
  cases v<;>simp only[fitV]at h<;>try cases h
  split at h
  ·rename_i hf
   obtain rfl:=of_decide_eq_true hf
   split at h
   ·rename_i a ha
    have k1:=j0n ha
    have k2:=j0n h
    obtain⟨e1,rfl⟩:=k1.ext
    obtain⟨e2,rfl⟩:=k2.ext
    refine⟨⟨e1++e2,by rw[List.append_assoc]⟩,fun _=>rfl,fun _=>rfl,fun ext r σ v' hv=> ?_,fun ext t n l e=>by cases e⟩
    cases hv with
    |fn _ _ _ fs' cs' h1 h2 h3 h4=>
     have a1:=k1.rel (e2++ext) r σ fs' ⟨h1,h2⟩
     rw[←List.append_assoc]at a1
     have a2:=k2.rel ext r σ cs' ⟨h3,h4⟩
     exact .fn _ _ _ fs' cs' a1.size a1.at_ a2.size a2.at_
   ·cases h
  ·cases h
 |.nilfn,v,acc,acc',h=>by
  cases v<;>simp only[fitV]at h<;>cases h
  exact FitOk.lit rfl rfl fun r σ v' h=>h
 |.iface t p,v,acc,acc',h=>by
  cases v<;>simp only[fitV]at h<;>try cases h
  split at h
  ·rename_i hb
   obtain rfl:=Nat.eq_of_beq_eq_true hb
   have k:=h2c h
   refine⟨k.ext,fun _=>rfl,fun _=>rfl,fun ext r σ v' hv=> ?_,fun ext t n l e=>by cases e⟩
   cases hv with
   |iface _ _ v1 h1=>exact .iface _ _ v1 (k.rel ext r σ v1 h1)
  ·cases h
 |.nilif,v,acc,acc',h=>by
  cases v<;>simp only[fitV]at h<;>cases h
  exact FitOk.lit rfl rfl fun r σ v' h=>h
 |.agg ps,v,acc,acc',h=>by
  cases v<;>simp only[fitV]at h<;>try cases h
  have k:=j0n h
  refine⟨k.ext,fun _=>rfl,fun _=>rfl,fun ext r σ v' hv=> ?_,fun ext t n l e=>by cases e⟩
  obtain⟨c,rfl,h1,h2⟩:=VRel.agg_iff.1 hv
  exact VRel.agg_iff.2 ⟨c,rfl,by rw[k.w];exact h1,k.erel ext r σ _ _ h2⟩
 |.tup ps,v,acc,acc',h=>by
  cases v<;>simp only[fitV]at h<;>try cases h
  have k:=j0n h
  refine⟨k.ext,fun _=>rfl,fun _=>rfl,fun ext r σ v' hv=> ?_,fun ext t n l e=>by cases e⟩
  cases hv with
  |tup _ c h1 h2=>
   have a:=k.rel ext r σ c ⟨h1,h2⟩
   exact .tup _ c a.size a.at_
theorem j0n: ∀{ps:List PV} {vs:List SV} {acc acc':List Dat},fitL ps vs acc=some acc'→FitLOk vs (instL ps) acc acc'
 |[],vs,acc,acc',h=>by
  cases vs with
  |nil=>simp only[fitL,Option.some.injEq]at h;subst h;exact⟨⟨[],by simp⟩,fun _=>rfl,fun _ _ _ _ h=>h,fun _ _ _ _ _ h=>h⟩
  |cons v vs=>simp[fitL]at h
 |p::ps,vs,acc,acc',h=>by
  cases vs with
  |nil=>simp[fitL]at h
  |cons v vs=>
   simp only[fitL]at h
   split at h
   ·rename_i a ha
    have k1:=h2c ha
    have k2:=j0n h
    obtain⟨e1,rfl⟩:=k1.ext
    obtain⟨e2,rfl⟩:=k2.ext
    have kr: ∀(ext:List Dat) (r:RM) (σ:Snap) (v':Value),VRel r σ v v'→VRel r σ (instV p (((acc++e1)++e2)++ext)) v':=fun ext r σ v' hv=>by
     have:=k1.rel (e2++ext) r σ v' hv
     rwa [←List.append_assoc]at this
    refine⟨⟨e1++e2,by rw[List.append_assoc]⟩,fun d=>by simp only[instL,esW,k1.w,k2.w],fun ext r σ a hl=> ?_,fun ext r σ get o he=> ?_⟩
    ·refine⟨?_,fun i u v' hu hv'=> ?_⟩
     ·have hs:=hl.size
      have tl:LRel r σ vs (a.toList.drop 1).toArray:=⟨by simp at hs⊢;omega,fun i u v' hu hv'=>hl.at_ (i+1) u v' (by simpa using hu) (by simpa [List.getElem?_drop,Nat.add_comm]using hv')⟩
      have:=(k2.rel ext r σ _ tl).size
      have e:(a.toList.drop 1).toArray.size=a.size-1:=by simp
      rw[e]at this
      rw[List.length_cons]at hs
      show(instL ps _).length+1=a.size
      omega
     ·simp only[instL]at hu
      cases i with
      |zero=>
       simp only[List.getElem?_cons_zero,Option.some.injEq]at hu;subst hu
       exact kr ext r σ v' (hl.at_ 0 v v' rfl hv')
      |succ i=>
       have hs:=hl.size
       have tl:LRel r σ vs (a.toList.drop 1).toArray:=⟨by simp at hs⊢;omega,fun i u v' hu hv'=>hl.at_ (i+1) u v' (by simpa using hu) (by simpa [List.getElem?_drop,Nat.add_comm]using hv')⟩
       refine(k2.rel ext r σ _ tl).at_ i u v' (by simpa using hu) (by simpa [List.getElem?_drop,Nat.add_comm]using hv')
    ·rw[ERel.cons_iff]at he
     simp only[instL]
     rw[ERel.cons_iff]
     refine⟨⟨fun k e hk hn=> ?_,fun k t n l hk=> ?_⟩,by rw[k1.w];exact k2.erel ext r σ get _ he.2⟩
     ·simp only[offs,List.mem_singleton,Prod.mk.injEq]at hk
      obtain⟨rfl,rfl⟩:=hk
      rw[k1.arr]at hn
      obtain⟨u,h1,h2⟩:=he.1.one 0 v (by simp[offs]) hn
      exact⟨u,h1,kr ext r σ u h2⟩
     ·simp only[offs,List.mem_singleton,Prod.mk.injEq]at hk
      obtain⟨rfl,hk⟩:=hk
      have:=k1.row (e2++ext) t n l (by rw[←List.append_assoc];exact hk.symm)
      subst this
      exact he.1.arr 0 t n l (by simp[offs])
   ·cases h
end
end Go.Proofs.Ytoehlcomhpnjgaa.Vx
