import Derived.Test.YtfkcodaiiheniaaVxLift
import Derived.SizedLaws
noncomputable section
namespace Go.Proofs.Ytfkcodaiiheniaa.Vx
open Go Go.RowKit Go.ChangeShapes Go.WideShapes Go.ChangeAt Go.Joins
set_option linter.unusedVariables false
def wsD (B:Nat):(t:Ty)→t.den→Bool
 |.bool,_=>true
 |.int k,(n:Int)=>decide (k.min≤n)&&decide (n≤k.max)
 |.str,(s:ByteArray)=>decide (s.size≤B)
 |.sl t,(l:List t.den)=>decide (l.length≤B)&&wfL (wsD B t) l
 |.arr n t,(l:List t.den)=>decide (l.length=n)&&wfL (wsD B t) l
 |.pair a b,d=>wsD B a d.1&&wsD B b d.2
 |.unit,_=>true
def szB (P:Program):Nat→TypeId→Bool
 |0,_=>false
 |n+1,T=>match P.underlying T with
  |some (.slice e)=>Nat.blt 0 (P.bytesOf e)&&szB P n e
  |some (.array _ e)=>szB P n e
  |some (.struct fs)=>fs.toList.all fun f=>szB P n f.type
  |_=>true
theorem a3v {B:Nat}(hB:B≤maxLen): ∀(t:Ty) (d:t.den),wsD B t d=true→wfD t d=true
 |.bool,_,_=>rfl
 |.int _,_,h=>h
 |.str,d,h=>decide_eq_true (Nat.le_trans (of_decide_eq_true h) hB)
 |.sl t,d,h=>by
  have h:(decide (List.length d≤B)&&wfL (wsD B t) d)=true:=h
  show(decide (List.length d≤maxLen)&&wfL (wfD t) d)=true
  rw[Bool.and_eq_true]at h⊢
  exact⟨decide_eq_true (Nat.le_trans (of_decide_eq_true h.1) hB),o2j.2 fun x hx=>a3v hB t x (o2j.1 h.2 x hx)⟩
 |.arr n t,d,h=>by
  have h:(decide (List.length d=n)&&wfL (wsD B t) d)=true:=h
  show(decide (List.length d=n)&&wfL (wfD t) d)=true
  rw[Bool.and_eq_true]at h⊢
  exact⟨h.1,o2j.2 fun x hx=>a3v hB t x (o2j.1 h.2 x hx)⟩
 |.pair a b,d,h=>by
  have h:(wsD B a d.1&&wsD B b d.2)=true:=h
  show(wfD a d.1&&wfD b d.2)=true
  rw[Bool.and_eq_true]at h⊢
  exact⟨a3v hB a _ h.1,a3v hB b _ h.2⟩
 |.unit,_,_=>rfl
theorem ws_mk {B:Nat}{a b:Ty}{x:a.den}{y:b.den}(h:wsD B a x=true)(k:wsD B b y=true):wsD B (.pair a b) (mkP x y)=true:=by
 show(wsD B a x&&wsD B b y)=true
 rw[h,k];rfl
theorem w2y {B:Nat}{a b:Ty}{d:(Ty.pair a b).den}(h:wsD B (.pair a b) d=true):wsD B a (fstP d)=true∧wsD B b (sndP d)=true:=by
 have:(wsD B a (fstP d)&&wsD B b (sndP d))=true:=h
 simpa using this
theorem app_okS {B:Nat}{σ:Snap}{get:Nat→Option Value}: ∀(a b:Ty) (d:a.den) (e:b.den) (o:Nat),RD σ a get o d→RD σ b get (o+a.width) e→wsD B a d=true→wsD B b e=true→
  ∃x:(appT a b).den,RD σ (appT a b) get o x∧wsD B (appT a b) x=true∧(appT a b).width=a.width+b.width:=by
 intro a
 have other: ∀(a b:Ty) (d:a.den) (e:b.den) (o:Nat),(∀x y,a≠.pair x y)→a≠.unit→RD σ a get o d→RD σ b get (o+a.width) e→wsD B a d=true→wsD B b e=true→
   ∃x:(appT a b).den,RD σ (appT a b) get o x∧wsD B (appT a b) x=true∧(appT a b).width=a.width+b.width:=by
  intro a b d e o n1 n2 h1 h2 w1 w2
  have e1:b=.unit→appT a b=a:=by
   intro e;subst e;cases a<;>first|rfl|exact absurd rfl n2|exact absurd rfl (n1 _ _)
  have e2:b≠.unit→appT a b=.pair a b:=by
   intro e;cases a<;>cases b<;>first|rfl|exact absurd rfl n2|exact absurd rfl (n1 _ _)|exact absurd rfl e
  by_cases hb:b=.unit
  ·rw[e1 hb];exact⟨d,h1,w1,by rw[hb];rfl⟩
  ·rw[e2 hb];exact⟨mkP d e,RD_mk h1 h2,ws_mk w1 w2,rfl⟩
 induction a with
 |pair x y ih1 ih2=>
  intro b d e o h1 h2 w1 w2
  have h1:=RD_get h1
  have w1:=w2y w1
  simp only[Ty.width]at h2
  obtain⟨z,k1,k2,k3⟩:=ih2 b (sndP d) e (o+x.width) h1.2 (by rw[Nat.add_assoc];exact h2) w1.2 w2
  refine⟨mkP (b:=appT y b) (fstP d) z,RD_mk h1.1 k1,ws_mk w1.1 k2,?_⟩
  show(Ty.pair x (appT y b)).width=_
  simp only[Ty.width,k3];omega
 |unit=>
  intro b d e o h1 h2 w1 w2
  exact⟨e,by have:RD σ b get (o+0) e:=h2;rw[Nat.add_zero]at this;exact this,w2,by simp[appT,Ty.width]⟩
 |_=>intro b d e o;exact other _ b d e o (by simp) (by simp)
section
variable {H:Type} {enc:TypeId×Value→H} {P:Program} {w:World} {sp:Nat→Bool} {held:Bool} {B:Nat}
theorem wts_all {P:Program}{e:TypeId}: ∀{ds:List (DataW H)} {i:Nat} {d:DataW H},ds[i]? =some d→ ∀q∈d.weights P e,q∈DataW.weightsAll P e ds
 |d0::ds,0,d,hd,q,hq=>by
  simp only[List.getElem?_cons_zero,Option.some.injEq]at hd
  subst hd
  simp only[DataW.weightsAll,List.mem_append];exact Or.inl hq
 |d0::ds,i+1,d,hd,q,hq=>by
  simp only[List.getElem?_cons_succ]at hd
  simp only[DataW.weightsAll,List.mem_append];exact Or.inr (wts_all hd q hq)
 |[],i,d,hd,q,hq=>by simp at hd
theorem wts_map {P:Program}{e:TypeId}{xs:List (DataW H×List MemPlace)}{i:Nat}(hi:i<xs.length)(q:Nat)(hq:q∈(xs[i]).1.weights P e):q∈DataW.weightsAll P e (xs.map (·.1)):=
 wts_all (i:=i) (d:=(xs[i]).1) (by rw[List.getElem?_map,List.getElem?_eq_getElem hi];rfl) q hq
theorem fields_rdS {n fuel:Nat}(ih: ∀(T:TypeId) (cs:List Value) (x),layB P n T=true→szB P n T=true→DataW.trod enc P w 0 sp held fuel T cs=some x→(∀q∈x.1.weights P T,q≤B)→ ∀t,tyOf P n T=some t→ ∃d:t.den,RD (b0k w) t (fun k=>cs[k]?) 0 d∧wsD B t d=true∧cs.length=t.width)
  (cs:List Value): ∀(fs:List Field) (o:Nat) (t:Ty),u1x P fs o=true→(fs.all fun f=>layB P n f.type)=true→(fs.all fun f=>szB P n f.type)=true→
   (∀f∈fs,∃x,DataW.trod enc P w 0 sp held fuel f.type ((cs.drop f.offset).take (P.cellsOf f.type))=some x∧ ∀q∈x.1.weights P f.type,q≤B)→a1b (fs.map fun f=>tyOf P n f.type)=some t→
   ∃d:t.den,RD (b0k w) t (fun k=>cs[k]?) o d∧wsD B t d=true
 |[],o,t,_,_,_,_,h=>by
  simp only[List.map_nil,a1b,Option.some.injEq]at h
  subst h
  exact⟨(),trivial,rfl⟩
 |f::fs,o,t,h1,h2,hz,h3,h4=>by
  simp only[u1x,Bool.and_eq_true]at h1
  simp only[List.all_cons,Bool.and_eq_true]at h2 hz
  simp only[List.map_cons]at h4
  cases ht:tyOf P n f.type with
  |none=>rw[ht]at h4;simp[a1b]at h4
  |some tf=>
   rw[ht]at h4
   simp only[a1b]at h4
   cases hr:a1b (fs.map fun f=>tyOf P n f.type)with
   |none=>rw[hr]at h4;cases h4
   |some tr=>
    rw[hr]at h4
    simp only[Option.some.injEq]at h4
    subst h4
    obtain⟨x,hx,hxw⟩:=h3 f List.mem_cons_self
    obtain⟨d,k1,k2,k3⟩:=ih _ _ _ h2.1 hz.1 hx hxw tf ht
    have hc:=m0x h2.1 ht
    obtain⟨e,q1,q2⟩:=fields_rdS ih cs fs (o+P.cellsOf f.type) tr h1.2 h2.2 hz.2 (fun g hg=>h3 g (List.mem_cons_of_mem _ hg)) hr
    have hoff:=Nat.eq_of_beq_eq_true h1.1
    have k1':RD (b0k w) tf (fun k=>cs[k]?) o d:=k1.mono (Snap.le_refl _) fun k hk=>by
     show cs[o+k]? =((cs.drop f.offset).take (P.cellsOf f.type))[0+k]?
     rw[Nat.zero_add,List.getElem?_take,if_pos (by omega),List.getElem?_drop,hoff]
    rw[hc]at q1
    obtain⟨z,z1,z2,_⟩:=app_okS tf tr d e o k1' q1 k2 q2
    exact⟨z,z1,z2⟩
theorem trod_rdS: ∀(n fuel:Nat) (T:TypeId) (cs:List Value) (x),layB P n T=true→szB P n T=true→DataW.trod enc P w 0 sp held fuel T cs=some x→(∀q∈x.1.weights P T,q≤B)→ ∀t,tyOf P n T=some t→ ∃d:t.den,RD (b0k w) t (fun k=>cs[k]?) 0 d∧wsD B t d=true∧cs.length=t.width
 |0,_,_,_,_,h,_,_,_,_,_=>by cases h
 |n+1,fuel,T,cs,x,hl,hz,h,hB,t,ht=>by
  have hcells:=m0x hl ht
  unfold layB at hl
  rw[ht]at hl
  simp only[Bool.and_eq_true]at hl
  obtain⟨_,hl⟩:=hl
  unfold tyOf at ht
  unfold szB at hz
  cases hu:P.underlying T with
  |none=>rw[hu]at ht;cases ht
  |some D=>
   rw[hu]at ht hl hz
   cases D with
   |bool=>
    simp only[Option.some.injEq]at ht;subst ht
    obtain⟨b,rfl,_⟩:=DataW.trod_bool hu h
    exact⟨b,rfl,rfl,rfl⟩
   |int k=>
    simp only[Option.some.injEq]at ht;subst ht
    obtain⟨m,rfl,_,hw⟩:=DataW.trod_int hu h
    exact⟨m,rfl,hw,rfl⟩
   |string=>
    simp only[Option.some.injEq]at ht;subst ht
    obtain⟨m,rfl,rfl,hw⟩:=DataW.trod_string hu h
    exact⟨m,rfl,decide_eq_true (by have:=hB m.data.toList.length (by simp[DataW.weights]);simpa using this),rfl⟩
   |slice e=>
    simp only[Bool.and_eq_true]at hl hz
    simp only at ht
    cases he:tyOf P n e with
    |none=>rw[he]at ht;cases ht
    |some te=>
     rw[he]at ht
     simp only[Option.some.injEq]at ht
     subst ht
     have hce:=m0x hl.1 he
     have hpos:0<te.width:=by have:=Nat.le_of_ble_eq_true hl.2;rw[hce]at this;exact this
     rcases DataW.trod_slice hu h with⟨rfl,_⟩|⟨a,len,cap,elems,rest,m,rfl,rfl,rfl,hb,h1,h2,h3,h4,_,_⟩
     ·exact⟨([]:List te.den),⟨none,0,0,rfl,rfl,Nat.le_refl _,fun i hi=>by simp at hi⟩,rfl,rfl⟩
     ·rw[hce]at h4
      have hlenB:len≤B:=by
       have:=hB ((((elems.map (·.1)).length+(rest.map (·.1)).length))*P.bytesOf e) (by simp[DataW.weights,hu])
       have hb1:0<P.bytesOf e:=Nat.le_of_ble_eq_true hz.1
       simp only[List.length_map]at this
       have h5:(elems.length+rest.length)*1≤(elems.length+rest.length)*P.bytesOf e:=Nat.mul_le_mul_left _ hb1
       omega
      have el: ∀i,i<len→ ∃d:te.den,(a.spot=none→ ∃c,b0k w a.block=some c∧RD (b0k w) te (fun k=>c[k]?) (a.off+i*te.width) d)∧wsD B te d=true:=by
       intro i hi
       have:=h4 i hi
       rw[List.getElem?_eq_getElem (by omega)]at this
       rw[Option.bind_eq_some_iff]at this
       obtain⟨l,k1,k2⟩:=this
       obtain⟨g1,g2⟩:=n1d k1
       obtain⟨d,q1,q2,q3⟩:=trod_rdS n m e l _ hl.1 hz.2 k2 (fun q hq=>hB q (by simp only[DataW.weights,hu,List.mem_cons,List.mem_append];exact Or.inr (Or.inl (wts_map (by omega) q hq)))) te he
       refine⟨d,fun hs=> ?_,q2⟩
       have cell: ∀k,k<te.width→ ∃c,b0k w a.block=some c∧c[a.off+i*te.width+k]? =l[k]? :=by
        intro k hk
        obtain⟨v,v1,v2⟩:=g2 k hk
        obtain⟨_,c,c1,c2⟩:=o1b v1
        rw[s2k hs,b0o]at c1 c2
        exact⟨c,c1,by rw[v2];exact c2⟩
       obtain⟨c,c1,_⟩:=cell 0 hpos
       refine⟨c,c1,q1.mono (Snap.le_refl _) fun k hk=> ?_⟩
       obtain⟨c',c1',c2'⟩:=cell k hk
       rw[c1]at c1';cases c1'
       simpa using c2'
      have spot:0<len→a.spot=none:=by
       intro hp
       have:=h4 0 hp
       rw[List.getElem?_eq_getElem (by omega),Option.bind_eq_some_iff]at this
       obtain⟨l,k1,k2⟩:=this
       obtain⟨v,v1,_⟩:=(n1d k1).2 0 hpos
       have:=(o1b v1).1
       simpa [Addr.add]using this
      obtain⟨l,l1,l2⟩:=q0u (Q:=fun i d=>(a.spot=none→ ∃c,b0k w a.block=some c∧RD (b0k w) te (fun k=>c[k]?) (a.off+i*te.width) d)∧wsD B te d=true) len el
      refine⟨l,⟨some a,len,cap,rfl,l1.symm,h1,fun i hi=> ?_⟩,?_,rfl⟩
      ·obtain⟨c,c1,c2⟩:=(l2 i hi).1 (spot (by omega))
       exact⟨a,c,rfl,spot (by omega),c1,c2⟩
      ·show(decide (l.length≤B)&&wfL (wsD B te) l)=true
       rw[Bool.and_eq_true]
       refine⟨decide_eq_true (by omega),o2j.2 fun y hy=> ?_⟩
       obtain⟨i,hi,rfl⟩:=List.mem_iff_getElem.1 hy
       exact(l2 i hi).2
   |array k e=>
    simp only at ht hl
    cases he:tyOf P n e with
    |none=>rw[he]at ht;cases ht
    |some te=>
     rw[he]at ht
     simp only[Option.some.injEq]at ht
     subst ht
     have hce:=m0x hl he
     obtain⟨xs,m,rfl,rfl,h1,h2,h3⟩:=DataW.trod_array hu h
     rw[hce]at h3
     have el: ∀i,i<k→ ∃d:te.den,RD (b0k w) te (fun q=>cs[q]?) (i*te.width) d∧wsD B te d=true:=by
      intro i hi
      have:=h3 i hi
      rw[List.getElem?_eq_getElem (by omega)]at this
      obtain⟨d,q1,q2,q3⟩:=trod_rdS n m e _ _ hl hz this (fun q hq=>hB q (by simp only[DataW.weights,hu];exact wts_map (by omega) q hq)) te he
      refine⟨d,q1.mono (Snap.le_refl _) fun q hq=> ?_,q2⟩
      show cs[i*te.width+q]? =((cs.drop (i*te.width)).take te.width)[0+q]?
      rw[Nat.zero_add,List.getElem?_take,if_pos hq,List.getElem?_drop]
     obtain⟨l,l1,l2⟩:=q0u (Q:=fun i d=>RD (b0k w) te (fun q=>cs[q]?) (i*te.width) d∧wsD B te d=true) k el
     refine⟨l,⟨l1,fun i hi=>by rw[Nat.zero_add];exact(l2 i hi).1⟩,?_,by rw[h1,hcells]⟩
     show(decide (l.length=k)&&wfL (wsD B te) l)=true
     rw[Bool.and_eq_true]
     refine⟨decide_eq_true l1,o2j.2 fun y hy=> ?_⟩
     obtain⟨i,hi,rfl⟩:=List.mem_iff_getElem.1 hy
     exact(l2 i hi).2
   |struct fs=>
    simp only[Bool.and_eq_true]at hl
    simp only at ht
    obtain⟨xs,m,rfl,rfl,h1,h2,h3⟩:=DataW.trod_struct hu h
    obtain⟨d,q1,q2⟩:=fields_rdS (fun T cs x hl hz h hB t ht=>trod_rdS n m T cs x hl hz h hB t ht) cs fs.toList 0 t hl.1 hl.2 hz (fun f hf=>by
     obtain⟨i,hi,rfl⟩:=List.mem_iff_getElem.1 hf
     have:=h3 i fs[i] (Array.getElem?_eq_getElem (by simpa using hi))
     rw[List.getElem?_eq_getElem (by simp at hi;omega)]at this
     exact⟨_,by simpa using this,fun q hq=>hB q (by simp only[DataW.weights,hu];exact DataW.weights_mem_each (j:=i) (by simp at hi;simp[hi]) (by simp only[List.getElem?_map];rw[List.getElem?_eq_getElem (by simp at hi;omega)];rfl) q hq)⟩) ht
    exact⟨d,q1,q2,by rw[h1,hcells]⟩
   |_=>simp at ht
end
def wsH (B:Nat):(ts:List Ty)→HL ts→Bool
 |[],_=>true
 |t::ts,d=>wsD B t d.1&&wsH B ts d.2
def tysS (P:Program)(Ts:List TypeId):Bool:=Ts.all fun T=>szB P TF T
section
variable {H:Type} {enc:TypeId×Value→H} {P:Program} {w:World} {sp:Nat→Bool} {held:Bool} {r:RM} {B:Nat}
theorem arg_relS {T:TypeId}{v:Value}{t:Ty}{n fuel:Nat}{x}{base:Nat}{rr:Reach}(hok:Value.okWide P w rr base T v)(hl:layB P n T=true)(hz:szB P n T=true)(ht:tyOf P n T=some t)(h:DataW.trod enc P w 0 sp held fuel T v.cells.toList=some x)(hB: ∀q∈x.1.weights P T,q≤B):
  ∃d:t.den,VRel r (b0k w) (argSV P T t d) v∧wsD B t d=true:=by
 obtain⟨d,h1,h2,h3⟩:=trod_rdS n fuel T _ x hl hz h hB t ht
 refine⟨d,?_,h2⟩
 have es:=c0x (r:=r) t h1
 have agg: ∀cs:Array Value,v=.agg cs→VRel r (b0k w) (.agg (d0l t d)) v:=by
  rintro cs rfl
  refine VRel.agg_iff.2 ⟨cs,rfl,?_,?_⟩
  ·rw[l0k];simpa [Value.cells]using h3.symm
  ·simpa [Value.cells]using es
 have one: ∀e:SV,d0l t d=[e]→e.isArr=false→v.cells.toList=[v]→VRel r (b0k w) e v:=by
  intro e he hn hv
  rw[he,hv]at es
  obtain⟨v',q1,q2⟩:=es.head hn
  simp at q1;subst q1;exact q2
 cases n with
 |zero=>cases hl
 |succ n=>
 unfold tyOf at ht
 unfold argSV
 cases hu:P.underlying T with
 |none=>rw[hu]at ht;cases ht
 |some D=>
  rw[hu]at ht
  have ha:aggB P T=match(some D:Option TypeDesc)with|some (.struct _)=>some true|some (.array _ _)=>some true|some _=>some false|none=>none:=by unfold aggB;rw[hu];cases D<;>rfl
  cases D with
  |bool=>
   simp only[Option.some.injEq]at ht;subst ht
   obtain⟨b,rfl⟩:=okWide_bool hu hok
   rw[ha];exact one _ rfl rfl rfl
  |int k=>
   simp only[Option.some.injEq]at ht;subst ht
   obtain⟨b,rfl⟩:=okWide_int hu hok
   rw[ha];exact one _ rfl rfl rfl
  |string=>
   simp only[Option.some.injEq]at ht;subst ht
   obtain⟨b,rfl⟩:=okWide_string hu hok
   rw[ha];exact one _ rfl rfl rfl
  |slice e=>
   simp only at ht
   cases he:tyOf P n e with
   |none=>rw[he]at ht;cases ht
   |some te=>
    rw[he]at ht
    simp only[Option.some.injEq]at ht;subst ht
    obtain⟨a,len,cap,rfl⟩:=okWide_slice hu hok
    rw[ha];exact one _ rfl rfl rfl
  |array k e=>
   obtain⟨cs,hv,_⟩:=d2j hu hok
   rw[ha];exact agg cs hv
  |struct fs=>
   obtain⟨cs,hv,_⟩:=okWide_struct hu hok
   rw[ha];exact agg cs hv
  |_=>simp at ht
theorem args_relS {base:Nat}{rr:Reach}: ∀(Ts:List TypeId) (ts:List Ty) (vs:List Value) (ds:List (DataW H)) (p:List MemPlace),o2i P Ts=some ts→tysS P Ts=true→DataW.TrodAll enc P w 0 sp held Ts vs ds p→(∀q∈DataW.weightsEach P Ts ds,q≤B)→
  (∀(j:Nat) t v,Ts[j]? =some t→vs[j]? =some v→Value.okWide P w rr base t v)→ ∃hl:HL ts,wsH B ts hl=true∧LRel r (b0k w) (j2l P Ts ts hl) vs.toArray
 |[],ts,vs,ds,p,hT,hS,hA,hB,hok=>by
  simp only[o2i,Option.some.injEq]at hT;subst hT
  cases vs with
  |nil=>exact⟨(),rfl,LRel.nil _ _⟩
  |cons v vs=>cases ds<;>exact hA.elim
 |T::Ts,ts,vs,ds,p,hT,hS,hA,hB,hok=>by
  have hS:(szB P TF T&&Ts.all fun T=>szB P TF T)=true:=hS
  rw[Bool.and_eq_true]at hS
  unfold o2i at hT
  split at hT
  ·rename_i t ts' h1 h2 h3
   simp only[Option.some.injEq]at hT;subst hT
   obtain⟨v,vs',d,ds',p',q,rfl,rfl,rfl,⟨fuel,hx⟩,hr⟩:=trodAll_cons hA
   obtain⟨dd,k1,k2⟩:=arg_relS (r:=r) (hok 0 T v rfl rfl) h1 hS.1 h2 hx (fun q hq=>hB q (by simp only[DataW.weightsEach,List.mem_append];exact Or.inl hq))
   obtain⟨hl,k3,k4⟩:=args_relS Ts ts' vs' ds' q h3 hS.2 hr (fun q hq=>hB q (by simp only[DataW.weightsEach,List.mem_append];exact Or.inr hq)) fun j t v a b=>hok (j+1) t v a b
   refine⟨(dd,hl),?_,.cons k1 k4⟩
   show(wsD B t dd&&wsH B ts' hl)=true
   rw[k2,k3];rfl
  ·cases hT
end
theorem ws_wfH {B:Nat}(hB:B≤maxLen): ∀(ts:List Ty) (d:HL ts),wsH B ts d=true→wfH ts d=true
 |[],_,_=>rfl
 |t::ts,d,h=>by
  have h:(wsD B t d.1&&wsH B ts d.2)=true:=h
  show(wfD t d.1&&wfH ts d.2)=true
  rw[Bool.and_eq_true]at h⊢
  exact⟨a3v hB t _ h.1,ws_wfH hB ts _ h.2⟩
end Go.Proofs.Ytfkcodaiiheniaa.Vx
