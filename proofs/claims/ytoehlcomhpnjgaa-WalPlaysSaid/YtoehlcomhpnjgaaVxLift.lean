import Derived.Test.YtoehlcomhpnjgaaVxBox2
import Derived.Carry
import Derived.ChangeOld
import Derived.ShutString
import Derived.Below
import Derived.Lib.SmallJoins
noncomputable section
namespace Go.Proofs.Ytoehlcomhpnjgaa.Vx
open Go Go.RowKit Go.ChangeShapes Go.WideShapes Go.ChangeAt Go.Joins
set_option linter.unusedVariables false
def wfL {α:Type}(f:α→Bool):List α→Bool
 |[]=>true
 |x::l=>f x&&wfL f l
theorem o2j {α:Type}{f:α→Bool}{l:List α}:wfL f l=true↔ ∀x∈l,f x=true:=by
 induction l with
 |nil=>simp[wfL]
 |cons a l ih=>simp[wfL,ih]
def wfD:(t:Ty)→t.den→Bool
 |.bool,_=>true
 |.int k,(n:Int)=>decide (k.min≤n)&&decide (n≤k.max)
 |.str,(s:ByteArray)=>decide (s.size≤maxLen)
 |.sl t,(l:List t.den)=>decide (l.length≤maxLen)&&wfL (wfD t) l
 |.arr n t,(l:List t.den)=>decide (l.length=n)&&wfL (wfD t) l
 |.pair a b,d=>wfD a d.1&&wfD b d.2
 |.unit,_=>true
def mkP {a b:Ty}(x:a.den)(y:b.den):(Ty.pair a b).den:=(x,y)
def fstP {a b:Ty}(d:(Ty.pair a b).den):a.den:=d.1
def sndP {a b:Ty}(d:(Ty.pair a b).den):b.den:=d.2
theorem RD_mk {σ:Snap}{a b:Ty}{get:Nat→Option Value}{o:Nat}{x:a.den}{y:b.den}(h:RD σ a get o x)(k:RD σ b get (o+a.width) y):RD σ (.pair a b) get o (mkP x y):=⟨h,k⟩
theorem RD_get {σ:Snap}{a b:Ty}{get:Nat→Option Value}{o:Nat}{d:(Ty.pair a b).den}(h:RD σ (.pair a b) get o d):RD σ a get o (fstP d)∧RD σ b get (o+a.width) (sndP d):=h
theorem wf_mk {a b:Ty}{x:a.den}{y:b.den}(h:wfD a x=true)(k:wfD b y=true):wfD (.pair a b) (mkP x y)=true:=by
 show(wfD a x&&wfD b y)=true
 rw[h,k];rfl
theorem p0a {a b:Ty}{d:(Ty.pair a b).den}(h:wfD (.pair a b) d=true):wfD a (fstP d)=true∧wfD b (sndP d)=true:=by
 have:(wfD a (fstP d)&&wfD b (sndP d))=true:=h
 simpa using this
theorem app_ok {σ:Snap}{get:Nat→Option Value}: ∀(a b:Ty) (d:a.den) (e:b.den) (o:Nat),RD σ a get o d→RD σ b get (o+a.width) e→wfD a d=true→wfD b e=true→
  ∃x:(appT a b).den,RD σ (appT a b) get o x∧wfD (appT a b) x=true∧(appT a b).width=a.width+b.width:=by
 intro a
 have other: ∀(a b:Ty) (d:a.den) (e:b.den) (o:Nat),(∀x y,a≠.pair x y)→a≠.unit→RD σ a get o d→RD σ b get (o+a.width) e→wfD a d=true→wfD b e=true→
   ∃x:(appT a b).den,RD σ (appT a b) get o x∧wfD (appT a b) x=true∧(appT a b).width=a.width+b.width:=by
  intro a b d e o n1 n2 h1 h2 w1 w2
  have e1:b=.unit→appT a b=a:=by
   intro e;subst e;cases a<;>first|rfl|exact absurd rfl n2|exact absurd rfl (n1 _ _)
  have e2:b≠.unit→appT a b=.pair a b:=by
   intro e;cases a<;>cases b<;>first|rfl|exact absurd rfl n2|exact absurd rfl (n1 _ _)|exact absurd rfl e
  by_cases hb:b=.unit
  ·rw[e1 hb];exact⟨d,h1,w1,by rw[hb];rfl⟩
  ·rw[e2 hb];exact⟨mkP d e,RD_mk h1 h2,wf_mk w1 w2,rfl⟩
 induction a with
 |pair x y ih1 ih2=>
  intro b d e o h1 h2 w1 w2
  have h1:=RD_get h1
  have w1:=p0a w1
  simp only[Ty.width]at h2
  obtain⟨z,k1,k2,k3⟩:=ih2 b (sndP d) e (o+x.width) h1.2 (by rw[Nat.add_assoc];exact h2) w1.2 w2
  refine⟨mkP (b:=appT y b) (fstP d) z,RD_mk h1.1 k1,wf_mk w1.1 k2,?_⟩
  show(Ty.pair x (appT y b)).width=_
  simp only[Ty.width,k3];omega
 |unit=>
  intro b d e o h1 h2 w1 w2
  exact⟨e,by have:RD σ b get (o+0) e:=h2;rw[Nat.add_zero]at this;exact this,w2,by simp[appT,Ty.width]⟩
 |_=>intro b d e o;exact other _ b d e o (by simp) (by simp)
def u1x (P:Program):List Field→Nat→Bool
 |[],_=>true
 |f::fs,o=>Nat.beq f.offset o&&u1x P fs (o+P.cellsOf f.type)
def layB (P:Program):Nat→TypeId→Bool
 |0,_=>false
 |n+1,T=>match tyOf P (n+1) T with
  |some t=>Nat.beq (P.cellsOf T) t.width&&(match P.underlying T with
   |some (.slice e)=>layB P n e&&Nat.blt 0 (P.cellsOf e)
   |some (.array _ e)=>layB P n e
   |some (.struct fs)=>u1x P fs.toList 0&&fs.toList.all fun f=>layB P n f.type
   |_=>true)
  |none=>false
def b0k (w:World):Snap:=fun j=>match w.heap[j]? with
 |some (.cells c _ _)=>some c
 |_=>none
theorem o1b {w:World}{a:Addr}{v:Value}(h:w.cell? a=some v):a.spot=none∧ ∃c,b0k w a.block=some c∧c[a.off]? =some v:=by
 unfold World.cell? at h
 unfold b0k
 split at h
 ·rename_i c T f hc
  rw[hc]
  split at h
  ·cases h
  ·rename_i hs;exact⟨by simpa using hs,c,rfl,h⟩
 ·cases h
theorem y1z {α β:Type}{f:α→Option β}: ∀{l:List α} {r:List β},l.mapM f=some r→r.length=l.length∧ ∀i (hi:i<l.length),∃y,f l[i]=some y∧r[i]? =some y
 |[],r,h=>by simp at h;subst h;exact⟨rfl,fun i hi=>by simp at hi⟩
 |a::l,r,h=>by
  rw[List.mapM_cons]at h
  cases ha:f a with
  |none=>rw[ha]at h;cases h
  |some y=>
   rw[ha]at h
   cases hl:l.mapM f with
   |none=>simp[hl]at h
   |some r'=>
    simp[hl]at h
    subst h
    obtain⟨h1,h2⟩:=y1z hl
    refine⟨by simp[h1],fun i hi=> ?_⟩
    cases i with
    |zero=>exact⟨y,ha,rfl⟩
    |succ i=>simpa using h2 i (by simpa using hi)
theorem q0u {α:Type}{Q:Nat→α→Prop}: ∀(n:Nat),(∀i,i<n→ ∃d,Q i d)→ ∃l:List α,l.length=n∧ ∀i (h:i<l.length),Q i l[i]
 |0,_=>⟨[],rfl,fun i h=>by simp at h⟩
 |n+1,h=>by
  obtain⟨l,h1,h2⟩:=q0u n fun i hi=>h i (by omega)
  obtain⟨d,hd⟩:=h n (by omega)
  refine⟨l++[d],by simp[h1],fun i hi=> ?_⟩
  rcases Nat.lt_or_ge i l.length with q|q
  ·rw[List.getElem_append_left q];exact h2 i q
  ·have:i=l.length:=by simp at hi;omega
   subst this
   rw[List.getElem_append_right (Nat.le_refl _)]
   simp only[Nat.sub_self,List.getElem_cons_zero]
   rw[h1];exact hd
theorem n1d {w:World}{base:Nat}{a:Addr}{n:Nat}{l:List Value}(h:w.cells? base a n=some l):l.length=n∧ ∀i,i<n→ ∃v,w.cell? (a.add i)=some v∧l[i]? =some v:=by
 unfold World.cells? at h
 split at h
 ·obtain⟨h1,h2⟩:=y1z h
  simp only[List.length_range]at h1 h2
  refine⟨h1,fun i hi=> ?_⟩
  obtain⟨y,k1,k2⟩:=h2 i hi
  simp only[List.getElem_range]at k1
  exact⟨y,k1,k2⟩
 ·cases h
theorem m0x {P:Program}{n:Nat}{T:TypeId}{t:Ty}(h:layB P n T=true)(ht:tyOf P n T=some t):P.cellsOf T=t.width:=by
 cases n with
 |zero=>cases h
 |succ n=>
  unfold layB at h
  rw[ht]at h
  simp only[Bool.and_eq_true]at h
  exact Nat.eq_of_beq_eq_true h.1
section
variable {H:Type} {enc:TypeId×Value→H} {P:Program} {w:World} {sp:Nat→Bool} {held:Bool}
theorem n1l {n fuel:Nat}(ih: ∀(T:TypeId) (cs:List Value) (x),layB P n T=true→DataW.trod enc P w 0 sp held fuel T cs=some x→ ∀t,tyOf P n T=some t→ ∃d:t.den,RD (b0k w) t (fun k=>cs[k]?) 0 d∧wfD t d=true∧cs.length=t.width)
  (cs:List Value): ∀(fs:List Field) (o:Nat) (t:Ty),u1x P fs o=true→(fs.all fun f=>layB P n f.type)=true→
   (∀f∈fs,∃x,DataW.trod enc P w 0 sp held fuel f.type ((cs.drop f.offset).take (P.cellsOf f.type))=some x)→a1b (fs.map fun f=>tyOf P n f.type)=some t→
   ∃d:t.den,RD (b0k w) t (fun k=>cs[k]?) o d∧wfD t d=true
 |[],o,t,_,_,_,h=>by
  simp only[List.map_nil,a1b,Option.some.injEq]at h
  subst h
  exact⟨(),trivial,rfl⟩
 |f::fs,o,t,h1,h2,h3,h4=>by
  simp only[u1x,Bool.and_eq_true]at h1
  simp only[List.all_cons,Bool.and_eq_true]at h2
  simp only[List.map_cons]at h4
  cases ht:tyOf P n f.type with
  |none=>rw[ht]at h4;simp[a1b]at h4
  |some tf=>
   rw[ht]at h4
   simp only[a1b]at h4
   cases hr:a1b (fs.map fun f=>tyOf P n f.type)with
   |none=>rw[hr]at h4;cases h4
   |some tr=>
    rw[hr]at h4
    simp only[Option.some.injEq]at h4
    subst h4
    obtain⟨x,hx⟩:=h3 f List.mem_cons_self
    obtain⟨d,k1,k2,k3⟩:=ih _ _ _ h2.1 hx tf ht
    have hc:=m0x h2.1 ht
    obtain⟨e,q1,q2⟩:=n1l ih cs fs (o+P.cellsOf f.type) tr h1.2 h2.2 (fun g hg=>h3 g (List.mem_cons_of_mem _ hg)) hr
    have hoff:=Nat.eq_of_beq_eq_true h1.1
    have k1':RD (b0k w) tf (fun k=>cs[k]?) o d:=k1.mono (Snap.le_refl _) fun k hk=>by
     show cs[o+k]? =((cs.drop f.offset).take (P.cellsOf f.type))[0+k]?
     rw[Nat.zero_add,List.getElem?_take,if_pos (by omega),List.getElem?_drop,hoff]
    rw[hc]at q1
    obtain⟨z,z1,z2,_⟩:=app_ok tf tr d e o k1' q1 k2 q2
    exact⟨z,z1,z2⟩
theorem s2k {a:Addr}(h:a.spot=none)(n:Nat):a.add n=⟨a.block,a.off+n,none⟩:=by
 obtain⟨b,o,s⟩:=a
 simp only at h;subst h
 exact b0o b o n
theorem j1h: ∀(n fuel:Nat) (T:TypeId) (cs:List Value) (x),layB P n T=true→DataW.trod enc P w 0 sp held fuel T cs=some x→ ∀t,tyOf P n T=some t→ ∃d:t.den,RD (b0k w) t (fun k=>cs[k]?) 0 d∧wfD t d=true∧cs.length=t.width
 |0,_,_,_,_,h,_,_,_=>by cases h
 |n+1,fuel,T,cs,x,hl,h,t,ht=>by
  have hcells:=m0x hl ht
  unfold layB at hl
  rw[ht]at hl
  simp only[Bool.and_eq_true]at hl
  obtain⟨_,hl⟩:=hl
  unfold tyOf at ht
  cases hu:P.underlying T with
  |none=>rw[hu]at ht;cases ht
  |some D=>
   rw[hu]at ht hl
   cases D with
   |bool=>
    simp only[Option.some.injEq]at ht;subst ht
    obtain⟨b,rfl,_⟩:=DataW.trod_bool hu h
    exact⟨b,rfl,rfl,rfl⟩
   |int k=>
    simp only[Option.some.injEq]at ht;subst ht
    obtain⟨m,rfl,_,hw⟩:=DataW.trod_int hu h
    exact⟨m,rfl,hw,rfl⟩
   |string=>
    simp only[Option.some.injEq]at ht;subst ht
    obtain⟨m,rfl,_,hw⟩:=DataW.trod_string hu h
    exact⟨m,rfl,decide_eq_true hw,rfl⟩
   |slice e=>
    simp only[Bool.and_eq_true]at hl
    simp only at ht
    cases he:tyOf P n e with
    |none=>rw[he]at ht;cases ht
    |some te=>
     rw[he]at ht
     simp only[Option.some.injEq]at ht
     subst ht
     have hce:=m0x hl.1 he
     have hpos:0<te.width:=by have:=Nat.le_of_ble_eq_true hl.2;rw[hce]at this;exact this
     rcases DataW.trod_slice hu h with⟨rfl,_⟩|⟨a,len,cap,elems,rest,m,rfl,rfl,_,hb,h1,h2,h3,h4,_,_⟩
     ·exact⟨([]:List te.den),⟨none,0,0,rfl,rfl,Nat.le_refl _,fun i hi=>by simp at hi⟩,rfl,rfl⟩
     ·rw[hce]at h4
      have el: ∀i,i<len→ ∃d:te.den,(a.spot=none→ ∃c,b0k w a.block=some c∧RD (b0k w) te (fun k=>c[k]?) (a.off+i*te.width) d)∧wfD te d=true:=by
       intro i hi
       have:=h4 i hi
       rw[List.getElem?_eq_getElem (by omega)]at this
       rw[Option.bind_eq_some_iff]at this
       obtain⟨l,k1,k2⟩:=this
       obtain⟨g1,g2⟩:=n1d k1
       obtain⟨d,q1,q2,q3⟩:=j1h n m e l _ hl.1 k2 te he
       refine⟨d,fun hs=> ?_,q2⟩
       have cell: ∀k,k<te.width→ ∃c,b0k w a.block=some c∧c[a.off+i*te.width+k]? =l[k]? :=by
        intro k hk
        obtain⟨v,v1,v2⟩:=g2 k hk
        obtain⟨_,c,c1,c2⟩:=o1b v1
        rw[s2k hs,b0o]at c1 c2
        exact⟨c,c1,by rw[v2];exact c2⟩
       obtain⟨c,c1,_⟩:=cell 0 hpos
       refine⟨c,c1,q1.mono (Snap.le_refl _) fun k hk=> ?_⟩
       obtain⟨c',c1',c2'⟩:=cell k hk
       rw[c1]at c1';cases c1'
       simpa using c2'
      have spot:0<len→a.spot=none:=by
       intro hp
       have:=h4 0 hp
       rw[List.getElem?_eq_getElem (by omega),Option.bind_eq_some_iff]at this
       obtain⟨l,k1,k2⟩:=this
       obtain⟨v,v1,_⟩:=(n1d k1).2 0 hpos
       have:=(o1b v1).1
       simpa [Addr.add]using this
      obtain⟨l,l1,l2⟩:=q0u (Q:=fun i d=>(a.spot=none→ ∃c,b0k w a.block=some c∧RD (b0k w) te (fun k=>c[k]?) (a.off+i*te.width) d)∧wfD te d=true) len el
      refine⟨l,⟨some a,len,cap,rfl,l1.symm,h1,fun i hi=> ?_⟩,?_,rfl⟩
      ·obtain⟨c,c1,c2⟩:=(l2 i hi).1 (spot (by omega))
       exact⟨a,c,rfl,spot (by omega),c1,c2⟩
      ·show(decide (l.length≤maxLen)&&wfL (wfD te) l)=true
       rw[Bool.and_eq_true]
       refine⟨decide_eq_true (by omega),o2j.2 fun y hy=> ?_⟩
       obtain⟨i,hi,rfl⟩:=List.mem_iff_getElem.1 hy
       exact(l2 i hi).2
   |array k e=>
    simp only at ht hl
    cases he:tyOf P n e with
    |none=>rw[he]at ht;cases ht
    |some te=>
     rw[he]at ht
     simp only[Option.some.injEq]at ht
     subst ht
     have hce:=m0x hl he
     obtain⟨xs,m,rfl,_,h1,h2,h3⟩:=DataW.trod_array hu h
     rw[hce]at h3
     have el: ∀i,i<k→ ∃d:te.den,RD (b0k w) te (fun q=>cs[q]?) (i*te.width) d∧wfD te d=true:=by
      intro i hi
      have:=h3 i hi
      rw[List.getElem?_eq_getElem (by omega)]at this
      obtain⟨d,q1,q2,q3⟩:=j1h n m e _ _ hl this te he
      refine⟨d,q1.mono (Snap.le_refl _) fun q hq=> ?_,q2⟩
      show cs[i*te.width+q]? =((cs.drop (i*te.width)).take te.width)[0+q]?
      rw[Nat.zero_add,List.getElem?_take,if_pos hq,List.getElem?_drop]
     obtain⟨l,l1,l2⟩:=q0u (Q:=fun i d=>RD (b0k w) te (fun q=>cs[q]?) (i*te.width) d∧wfD te d=true) k el
     refine⟨l,⟨l1,fun i hi=>by rw[Nat.zero_add];exact(l2 i hi).1⟩,?_,by rw[h1,hcells]⟩
     show(decide (l.length=k)&&wfL (wfD te) l)=true
     rw[Bool.and_eq_true]
     refine⟨decide_eq_true l1,o2j.2 fun y hy=> ?_⟩
     obtain⟨i,hi,rfl⟩:=List.mem_iff_getElem.1 hy
     exact(l2 i hi).2
   |struct fs=>
    simp only[Bool.and_eq_true]at hl
    simp only at ht
    obtain⟨xs,m,rfl,_,h1,h2,h3⟩:=DataW.trod_struct hu h
    obtain⟨d,q1,q2⟩:=n1l (fun T cs x hl h t ht=>j1h n m T cs x hl h t ht) cs fs.toList 0 t hl.1 hl.2 (fun f hf=>by
     obtain⟨i,hi,rfl⟩:=List.mem_iff_getElem.1 hf
     have:=h3 i fs[i] (Array.getElem?_eq_getElem (by simpa using hi))
     rw[List.getElem?_eq_getElem (by simp at hi;omega)]at this
     exact⟨_,by simpa using this⟩) ht
    exact⟨d,q1,q2,by rw[h1,hcells]⟩
   |_=>simp at ht
end
def argSV (P:Program)(T:TypeId)(t:Ty)(d:t.den):SV:=match aggB P T with
 |some true=>.agg (d0l t d)
 |_=>(d0l t d).headD .dead
def HL:List Ty→Type
 |[]=>Unit
 |t::ts=>t.den×HL ts
def j2l (P:Program):List TypeId→(ts:List Ty)→HL ts→List SV
 |T::Ts,t::ts,d=>argSV P T t d.1::j2l P Ts ts d.2
 |_,_,_=>[]
def wfH:(ts:List Ty)→HL ts→Bool
 |[],_=>true
 |t::ts,d=>wfD t d.1&&wfH ts d.2
def o2i (P:Program):List TypeId→Option (List Ty)
 |[]=>some []
 |T::Ts=>match layB P TF T,tyOf P TF T,o2i P Ts with
  |true,some t,some ts=>some (t::ts)
  |_,_,_=>none
section
variable {H:Type} {enc:TypeId×Value→H} {P:Program} {w:World} {sp:Nat→Bool} {held:Bool} {r:RM}
theorem d2j {n:Nat}{e t:TypeId}{rr:Reach}{base:Nat}{v:Value}(ht:P.underlying t=some (.array n e))(h:Value.okWide P w rr base t v): ∃cs,v=.agg cs∧cs.size=P.cellsOf t:=by
 simp only[Value.okWide,ht]at h
 obtain⟨cs,h1,h2,_⟩:=h
 exact⟨cs,h1,h2⟩
theorem arg_rel {T:TypeId}{v:Value}{t:Ty}{n fuel:Nat}{x}{base:Nat}{rr:Reach}(hok:Value.okWide P w rr base T v)(hl:layB P n T=true)(ht:tyOf P n T=some t)(h:DataW.trod enc P w 0 sp held fuel T v.cells.toList=some x):
  ∃d:t.den,VRel r (b0k w) (argSV P T t d) v∧wfD t d=true:=by
 obtain⟨d,h1,h2,h3⟩:=j1h n fuel T _ x hl h t ht
 refine⟨d,?_,h2⟩
 have es:=c0x (r:=r) t h1
 have agg: ∀cs:Array Value,v=.agg cs→VRel r (b0k w) (.agg (d0l t d)) v:=by
  rintro cs rfl
  refine VRel.agg_iff.2 ⟨cs,rfl,?_,?_⟩
  ·rw[l0k];simpa [Value.cells]using h3.symm
  ·simpa [Value.cells]using es
 have one: ∀e:SV,d0l t d=[e]→e.isArr=false→v.cells.toList=[v]→VRel r (b0k w) e v:=by
  intro e he hn hv
  rw[he,hv]at es
  obtain⟨v',q1,q2⟩:=es.head hn
  simp at q1;subst q1;exact q2
 cases n with
 |zero=>cases hl
 |succ n=>
 unfold tyOf at ht
 unfold argSV
 cases hu:P.underlying T with
 |none=>rw[hu]at ht;cases ht
 |some D=>
  rw[hu]at ht
  have ha:aggB P T=match(some D:Option TypeDesc)with|some (.struct _)=>some true|some (.array _ _)=>some true|some _=>some false|none=>none:=by unfold aggB;rw[hu];cases D<;>rfl
  cases D with
  |bool=>
   simp only[Option.some.injEq]at ht;subst ht
   obtain⟨b,rfl⟩:=okWide_bool hu hok
   rw[ha];exact one _ rfl rfl rfl
  |int k=>
   simp only[Option.some.injEq]at ht;subst ht
   obtain⟨b,rfl⟩:=okWide_int hu hok
   rw[ha];exact one _ rfl rfl rfl
  |string=>
   simp only[Option.some.injEq]at ht;subst ht
   obtain⟨b,rfl⟩:=okWide_string hu hok
   rw[ha];exact one _ rfl rfl rfl
  |slice e=>
   simp only at ht
   cases he:tyOf P n e with
   |none=>rw[he]at ht;cases ht
   |some te=>
    rw[he]at ht
    simp only[Option.some.injEq]at ht;subst ht
    obtain⟨a,len,cap,rfl⟩:=okWide_slice hu hok
    rw[ha];exact one _ rfl rfl rfl
  |array k e=>
   obtain⟨cs,hv,_⟩:=d2j hu hok
   rw[ha];exact agg cs hv
  |struct fs=>
   obtain⟨cs,hv,_⟩:=okWide_struct hu hok
   rw[ha];exact agg cs hv
  |_=>simp at ht
theorem x1h {base:Nat}{rr:Reach}: ∀(Ts:List TypeId) (ts:List Ty) (vs:List Value) (ds:List (DataW H)) (p:List MemPlace),o2i P Ts=some ts→DataW.TrodAll enc P w 0 sp held Ts vs ds p→
  (∀(j:Nat) t v,Ts[j]? =some t→vs[j]? =some v→Value.okWide P w rr base t v)→ ∃hl:HL ts,wfH ts hl=true∧LRel r (b0k w) (j2l P Ts ts hl) vs.toArray
 |[],ts,vs,ds,p,hT,hA,hok=>by
  simp only[o2i,Option.some.injEq]at hT;subst hT
  cases vs with
  |nil=>exact⟨(),rfl,LRel.nil _ _⟩
  |cons v vs=>cases ds<;>exact hA.elim
 |T::Ts,ts,vs,ds,p,hT,hA,hok=>by
  unfold o2i at hT
  split at hT
  ·rename_i t ts' h1 h2 h3
   simp only[Option.some.injEq]at hT;subst hT
   obtain⟨v,vs',d,ds',p',q,rfl,rfl,rfl,⟨fuel,hx⟩,hr⟩:=trodAll_cons hA
   obtain⟨dd,k1,k2⟩:=arg_rel (r:=r) (hok 0 T v rfl rfl) h1 h2 hx
   obtain⟨hl,k3,k4⟩:=x1h Ts ts' vs' ds' q h3 hr fun j t v a b=>hok (j+1) t v a b
   refine⟨(dd,hl),?_,.cons k1 k4⟩
   show(wfD t dd&&wfH ts' hl)=true
   rw[k2,k3];rfl
  ·cases hT
theorem t0b (hlo:laidOutB P=true){W W':World}(hb:Below W.heap.size W W'): ∀(Ts:List TypeId) (vs:List Value) (ds:List (DataW H)) (p:List MemPlace),(Ts.all fun T=>P.readableRec T&&Nat.blt T P.types.size)=true→DataW.TrodAll enc P W 0 (fun _=>true) true Ts vs ds p→
  DataW.TrodAll enc P W' 0 (fun b=>decide (b<W.heap.size)) true Ts vs ds p
 |[],vs,ds,p,_,hA=>by cases vs<;>cases ds<;>exact hA
 |T::Ts,vs,ds,p,hT,hA=>by
  simp only[List.all_cons,Bool.and_eq_true]at hT
  obtain⟨v,vs',d,ds',p',q,rfl,rfl,rfl,hx,hr⟩:=trodAll_cons hA
  have lt: ∀x∈p',x.block<W.heap.size:=by obtain⟨m,hm⟩:=hx;exact DataW.trod_lt m _ _ _ hm
  exact⟨p',q,Below.trod hlo hT.1.1 (Nat.le_of_ble_eq_true hT.1.2) hx hb lt,t0b hlo hb Ts vs' ds' q hT.2 hr,rfl⟩
end
def R0:RM:=⟨fun _=>none,fun _ _=>none,fun _=>none⟩
theorem r1m (b j:Nat): ¬R0.at b j:=by
 rintro(⟨n,h⟩|⟨g,x,o,h,_⟩|h)<;>cases h
theorem rel0 (w:World):Rel R0 (b0k w) ⟨[],[]⟩ w:=by
 have hb: ∀b,(⟨[],[]⟩:SW).blk b=none:=fun b=>rfl
 refine⟨fun j c h=> ?_,(fun b x h=>by cases h),(fun b g x h=>by cases h),(fun b x h=>by cases h),(fun b j h=>(r1m b j h).elim),(fun b es j n h=>by rw[hb]at h;cases h),(fun b t g l x h=>by rw[hb]at h;cases h),
  (fun b t g l x h=>by rw[hb]at h;cases h),(fun b b' j h=>(r1m b j h).elim),(fun b j h=>by rw[hb]at h;exact h.elim),(fun b t g l g' h=>by rw[hb]at h;cases h),(fun b t p j h=>by rw[hb]at h;cases h),(fun b g es x h=>by rw[hb]at h;cases h),(fun b g es g' h=>by rw[hb]at h;cases h),(fun b kt vt l j h=>by rw[hb]at h;cases h),(fun b kt ks es j h=>by rw[hb]at h;cases h)⟩
 unfold b0k at h
 split at h
 ·rename_i c' T f hc;cases h;exact⟨T,f,hc⟩
 ·cases h
theorem m2u {P:Program}{cl:b0p}(hcl:ClOk P cl)(hm:P.follows .mixedOrders=true){ls:b0u}{n:Nat}{f:FuncId}(hls:LsOk P 0 ls (a0r P f)){args:List SV}{s1:SW}
  (h:(r0u P cl ls n f args ⟨[],[]⟩).sel=some (.bool true,s1)) {w:World} {args':Array Value} (ha:LRel R0 (b0k w) args args'):
  Calls P f args' w fun e w'=>e=.returned (.bool true)∧Below w.heap.size w w':=by
 refine(t0k hcl hm hls h (Nat.zero_le _) (rel0 w) ha).mono ?_
 rintro e w' ⟨v',rfl,r',σ',a1,a2,a3,a4,a5⟩
 cases a3
 exact⟨rfl,a2.os,a2.tape,a2.output,a2.size,fun j hj=>a2.keep j hj fun b _ hat=>r1m b j hat⟩
end Go.Proofs.Ytoehlcomhpnjgaa.Vx
namespace Go.Proofs.Ytoehlcomhpnjgaa.Vx
open Go
theorem wfi {k:IntKind}{n:Int}(h:wfD (.int k) n=true):k.min≤n∧n≤k.max:=by
 have:(decide (k.min≤n)&&decide (n≤k.max))=true:=h
 rw[Bool.and_eq_true]at this
 exact⟨of_decide_eq_true this.1,of_decide_eq_true this.2⟩
theorem wfh0 {t:Ty}{ts:List Ty}{d:HL (t::ts)}(h:wfH (t::ts) d=true):wfD t d.1=true:=by
 have:(wfD t d.1&&wfH ts d.2)=true:=h
 rw[Bool.and_eq_true]at this;exact this.1
theorem wfhs {t:Ty}{ts:List Ty}{d:HL (t::ts)}(h:wfH (t::ts) d=true):wfH ts d.2=true:=by
 have:(wfD t d.1&&wfH ts d.2)=true:=h
 rw[Bool.and_eq_true]at this;exact this.2
end Go.Proofs.Ytoehlcomhpnjgaa.Vx
