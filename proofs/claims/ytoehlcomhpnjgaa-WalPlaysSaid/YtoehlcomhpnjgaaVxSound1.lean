import Derived.Test.YtoehlcomhpnjgaaVxEval
namespace Go.Proofs.Ytoehlcomhpnjgaa.Vx
open Go Go.RowKit
set_option linter.unusedVariables false
theorem g1o {σ:Snap}: ∀{t:Ty} {get:Nat→Option Value} {o:Nat} {d:t.den},RD σ t get o d→ ∀k,k<t.width→ ∃v,get (o+k)=some v∧v.oneCell'=true
  |.bool,get,o,d,h,k,hk=>by simp only[Ty.width]at hk;obtain rfl:k=0:=by omega
                            exact⟨_,h,rfl⟩
  |.int _,get,o,d,h,k,hk=>by simp only[Ty.width]at hk;obtain rfl:k=0:=by omega
                             exact⟨_,h,rfl⟩
  |.str,get,o,d,h,k,hk=>by simp only[Ty.width]at hk;obtain rfl:k=0:=by omega
                           exact⟨_,h,rfl⟩
  |.sl t,get,o,d,h,k,hk=>by
   simp only[Ty.width]at hk;obtain rfl:k=0:=by omega
   unfold RD at h
   obtain⟨a,len,cap,h1,_⟩:=h
   exact⟨_,h1,rfl⟩
  |.arr n t,get,o,d,h,k,hk=>by
   unfold RD at h
   obtain⟨h1,h2⟩:=h
   simp only[Ty.width]at hk
   have hw:0<t.width:=by
     rcases Nat.eq_zero_or_pos t.width with e|e
     · rw[e]at hk;omega
     · exact e
   have hi:k/t.width<d.length:=by rw[h1];exact Nat.div_lt_of_lt_mul (by rw[Nat.mul_comm];exact hk)
   obtain⟨v,q1,q2⟩:=g1o (h2 _ hi) (k%t.width) (Nat.mod_lt _ hw)
   refine⟨v,?_,q2⟩
   rw[Nat.add_assoc]at q1
   rwa [show k/t.width*t.width+k%t.width=k by rw[Nat.mul_comm];exact Nat.div_add_mod k t.width]at q1
  |.pair a b,get,o,d,h,k,hk=>by
   unfold RD at h
   simp only[Ty.width]at hk
   rcases Nat.lt_or_ge k a.width with e|e
   · exact g1o h.1 k e
   · obtain⟨v,q1,q2⟩:=g1o h.2 (k-a.width) (by omega)
     exact⟨v,by rwa [show o+a.width+(k-a.width)=o+k by omega]at q1,q2⟩
  |.unit,get,o,d,h,k,hk=>by simp[Ty.width]at hk
theorem v0p {es:List SV}{o:Nat}{e:SV}(h:e1i es o=some e):(o,e)∈offs es 0:=by
 unfold e1i at h
 split at h
 ·rename_i a x y hs
  cases h
  obtain⟨rfl,rfl⟩:=d0m hs
  rw[c0z]
  exact List.mem_append_right _ (by simp[offs])
 ·cases h
theorem a0n {a b:Nat}(h:Nat.beq a b=true):a=b:=Nat.eq_of_beq_eq_true h
theorem g0s {α:Type}{l:List α}{i:Nat}(h:i<l.length)(d:α):l.getD i d=l[i]:=by
 simp[List.getD,List.getElem?_eq_getElem h]
section
variable {P:Program} {r:RM} {σ:Snap} {s:SW} {w:World}
theorem c0c {T:TypeId}{a:Bool}(h:aggB P T=some a)(w:World):(isAgg T).run P w=.ok a w:=by
 unfold aggB at h
 unfold isAgg
 cases hu:P.underlying T with
 |none=>simp[hu]at h
 |some d=>
  have:=run_underlying (w:=w) hu
  simp only[Sem.run_bind,this,Result.andThen_ok]
  cases d<;>simp[hu]at h<;>subst h<;>rfl
theorem b0z {T:TypeId}{n:Nat}(h:szOf P T=some n)(w:World):(sizeOf T).run P w=.ok n w:=by
 unfold szOf at h
 cases hi:P.info? T with
 |none=>simp[hi]at h
 |some i=>simp[hi]at h;subst h;simp[sizeOf,typeInfo,hi]
theorem VRel.agg_of {es:List SV}{v':Value}(h:VRel r σ (.agg es) v'): ∃c,v'=.agg c∧esW es=c.size∧ERel r σ es (fun k=>c[k]?) 0:=by
 cases h with
 |agg _ c hw hs ha=>
  refine⟨c,rfl,hw,fun k e he hn=> ?_,fun k t n l he=>by simpa using ha k t n l he⟩
  have:=f0g he
  rw[o0s hn]at this
  refine⟨c[k]'(by omega),?_,hs k e he hn _ ?_⟩
  ·simp only[Nat.zero_add];exact Array.getElem?_eq_getElem (by omega)
  ·exact Array.getElem?_eq_getElem (by omega)
theorem VRel.agg_mk {x:List SV}{c:Array Value}{q n:Nat}(h:ERel r σ x (fun k=>c[k]?) q)(hw:esW x=n)(hb:n=0∨q+n≤c.size):VRel r σ (.agg x) (.agg (c.extract q (q+n))):=by
 refine .agg x _ (by simp;omega) (fun k e he hn v hv=> ?_) (fun k t m l he=> ?_)
 ·obtain⟨v0,h1,h2⟩:=h.one k e he hn
  have:=f0g he
  rw[o0s hn]at this
  rw[Array.getElem?_extract]at hv
  rw[if_pos (by omega)]at hv
  rw[h1]at hv;cases hv
  exact h2
 ·refine(h.arr k t m l he).mono (Snap.le_refl _) fun i hi=> ?_
  have:=f0g he
  simp only[SV.w,Ty.width]at this hi
  simp only[Array.getElem?_extract]
  rw[if_pos (by omega)]
  congr 1;omega
theorem n1m {a:Bool}{x:List SV}{v:SV}{c:Array Value}{q n:Nat}(h:ERel r σ x (fun k=>c[k]?) q)(hw:esW x=n)(hb:n=0∨q+n≤c.size)(hs:d0n a x=some v):
  (a=true∧VRel r σ v (.agg (c.extract q (q+n))))∨(a=false∧ ∃v',c[q]? =some v'∧VRel r σ v v'):=by
 cases a with
 |true=>simp only[d0n,Option.some.injEq]at hs;subst hs;exact .inl ⟨rfl,VRel.agg_mk h hw hb⟩
 |false=>
  right
  refine⟨rfl,?_⟩
  simp only[d0n]at hs
  split at hs
  ·rename_i e
   split at hs
   ·cases hs
   ·rename_i hn;cases hs;exact h.head hn
  ·cases hs
theorem e1x {T:TypeId}{a:Bool}{n j q:Nat}{c:Array Value}{T':TypeId}{f:Nat×Nat}{x:List SV}{v:SV}(hj:w.heap[j]? =some (.cells c T' f))(h:ERel r σ x (fun k=>c[k]?) q)
  (hw:esW x=n) (hb:n=0∨q+n≤c.size) (hs:d0n a x=some v) (ha:aggB P T=some a) (hn:szOf P T=some n): ∃v',VRel r σ v v'∧(loadVar T ⟨j,q,none⟩).run P w=.ok v' w:=by
 unfold loadVar
 simp only[Sem.run_bind,c0c ha,Result.andThen_ok]
 rcases n1m h hw hb hs with⟨rfl,hv⟩|⟨rfl,v',hc,hv⟩
 ·refine⟨_,hv,?_⟩
  have:(loadCells ⟨j,q,none⟩ n).run P w=.ok (c.extract q (q+n)) w:=by
   rcases hb with rfl|hb
   ·have:c.extract q (q+0)= #[]:=by apply Array.eq_empty_of_size_eq_zero;simp;omega
    rw[this];rfl
   ·exact l0n hj hb
  simp[b0z hn,this]
 ·refine⟨v',hv,?_⟩
  simp only[Bool.false_eq_true,if_false]
  exact y1g hj hc
theorem s2w (hr:Rel r σ s w){p:SV}{p':Value}(hp:VRel r σ p p'){es:List SV}{o:Nat}(h:place p s=some (es,o)):
  ∃j base c T f,p'=.pointer (some ⟨j,base+o,none⟩)∧w.heap[j]? =some (.cells c T f)∧ERel r σ es (fun k=>c[k]?) base∧ ∀k,k<esW es→base+k<c.size:=by
 have lt_of: ∀{c:Array Value} {t:Ty} {d:t.den} {b:Nat},RD σ t (fun k=>c[k]?) b d→ ∀k,k<esW (d0l t d)→b+k<c.size:=by
  intro c t d b hd k hk
  rw[l0k]at hk
  obtain⟨v,hv,_⟩:=g1o hd k hk
  exact(Array.getElem?_eq_some_iff.1 hv).1
 unfold place at h
 split at h
 ·rename_i b o'
  split at h
  ·rename_i es' hb
   cases h
   cases hp with
   |ptr _ _ j n hc=>
    obtain⟨c,T,f,h1,h2,h3,h4⟩:=hr.cel b _ j n hb hc
    exact⟨j,n,c,T,f,rfl,h1,h4,fun k hk=>by omega⟩
  ·cases h
 ·rename_i b g i o'
  split at h
  ·rename_i t g' l hb
   split at h
   ·rename_i hg
    cases h
    obtain rfl:=a0n hg
    cases hp with
    |eptr _ _ _ _ x j n hx hi hj=>
     have ha:=hr.arr b t g l x hb hx
     obtain⟨c,T,f,h1,h2,h3,h4⟩:=ha.row j n hj
     have hil:i<l.length:=by rw[ha.len];exact hi
     rw[g0s hil]
     exact⟨j,n+i*x.wd,c,T,f,rfl,h1,by rw[ha.wd];exact c0x t (h4 i hil),by rw[ha.wd];exact lt_of (h4 i hil)⟩
   ·cases h
  ·rename_i t g' l hb
   split at h
   ·rename_i hg
    cases h
    obtain rfl:=a0n hg
    cases hp with
    |eptr _ _ _ _ x j n hx hi hj=>
     obtain⟨h1,h2,h3,h0,h4⟩:=hr.frz b t g l x hb hx
     have hil:i<l.length:=by rw[h2];exact hi
     obtain⟨j',n',c,q1,q2,q3⟩:=h4 i hil
     rw[hj]at q1;cases q1
     obtain⟨T,f,hw⟩:=hr.snap j c q2
     rw[g0s hil]
     exact⟨j,n+i*x.wd,c,T,f,rfl,hw,by rw[h1];exact c0x t q3,by rw[h1];exact lt_of q3⟩
   ·cases h
  ·cases h
 ·rename_i b o' w' n i k
  split at h
  ·rename_i es' hb
   split at h
   ·rename_i t n' l he
    split at h
    ·rename_i hg
     cases h
     simp only[Bool.and_eq_true]at hg
     obtain⟨hg1,hg2⟩:=hg
     obtain rfl:=a0n hg1
     obtain rfl:=a0n hg2
     cases hp with
     |aptr _ _ _ _ _ _ j m hc hi=>
      obtain⟨c,T,f,h1,h2,h3,h4⟩:=hr.cel b _ j m hb hc
      have h5:=h4.arr _ _ _ _ (v0p he)
      unfold RD at h5
      obtain⟨h6,h7⟩:=h5
      have hil:i<l.length:=by rw[h6];exact hi
      have h8:=h7 i hil
      rw[g0s hil]
      refine⟨j,m+o'+i*t.width,c,T,f,by congr 3;omega,h1,c0x t h8,lt_of h8⟩
    ·cases h
   ·cases h
  ·cases h
 ·rename_i es' o'
  cases h
  cases hp with
  |iptr _ _ base j c hj hb hs ha=>
   obtain⟨T,f,hw⟩:=hr.snap j c hj
   refine⟨j,base,c,T,f,rfl,hw,⟨fun k e he hn=> ?_,ha⟩,hb⟩
   have:=f0g he
   rw[o0s hn]at this
   have hlt:=hb k (by omega)
   exact⟨c[base+k],Array.getElem?_eq_getElem hlt,hs k e he hn _ (Array.getElem?_eq_getElem hlt)⟩
 ·cases h
theorem a1y (hr:Rel r σ s w){p:SV}{p':Value}(hp:VRel r σ p p'){T:TypeId}{v:SV}(h:t0m P T p s=some v): ∃v',VRel r σ v v'∧(Instr.loadAt T p').run P w=.ok v' w:=by
 unfold t0m at h
 split at h
 ·rename_i es o n a hpl hn ha
  split at h
  ·rename_i x hx
   obtain⟨j,base,c,T',f,rfl,h1,h2,h3⟩:=s2w hr hp hpl
   obtain⟨e1,e2,rfl,rfl,rfl⟩:=e0u hx
   obtain⟨v',q1,q2⟩:=e1x (T:=T) h1 h2.sub rfl (by
    rcases Nat.eq_zero_or_pos (esW x)with e|e
    ·exact .inl e
    ·right
     have:=h3 (esW e1+esW x-1) (by simp only[a0t];omega)
     omega) h ha hn
   exact⟨v',q1,by simpa [Instr.loadAt,Instr.sureAddr]using q2⟩
  ·cases h
 ·cases h
theorem e1h {p:SV}{p':Value}(hp:VRel r σ p p'){T:TypeId}{f:Nat}{v:SV}(h:e0p P T p f=some v)(w:World): ∃v',VRel r σ v v'∧(Instr.fieldAt T p' f).run P w=.ok v' w:=by
 unfold e0p at h
 cases hf:n1q P T f with
 |none=>simp[hf]at h
 |some fl=>
  simp only[hf]at h
  split at h
  ·rename_i m hm
   have hfl: ∃fs,P.underlying T=some (.struct fs)∧fs[f]? =some fl:=by
    unfold n1q at hf
    split at hf
    ·exact⟨_,by assumption,hf⟩
    ·cases hf
   obtain⟨fs,hu,hfs⟩:=hfl
   have run: ∀j q,(Instr.fieldAt T (.pointer (some ⟨j,q,none⟩)) f).run P w=.ok (.pointer (some ⟨j,q+fl.offset,none⟩)) w:=by
    intro j q
    simp[Instr.fieldAt,run_underlying hu,hfs,Instr.sureAddr,fieldPlace,b0z hm,b0o]
   split at h
   ·rename_i b o
    cases h
    cases hp with
    |ptr _ _ j n hc=>exact⟨_,.ptr b _ j n hc,by rw[run,Nat.add_assoc]⟩
   ·rename_i b g i o
    cases h
    cases hp with
    |eptr _ _ _ _ x j n hx hi hj=>exact⟨_,.eptr b g i _ x j n hx hi hj,by rw[run,Nat.add_assoc]⟩
   ·rename_i b o w' m' i k
    cases h
    cases hp with
    |aptr _ _ _ _ _ _ j n hc hi=>exact⟨_,.aptr b o w' m' i _ j n hc hi,by rw[run];simp only[Nat.add_assoc]⟩
   ·rename_i es o
    cases h
    cases hp with
    |iptr _ _ base j c hj hb hs ha=>exact⟨_,.iptr es _ base j c hj hb hs ha,by rw[run,Nat.add_assoc]⟩
   ·cases h
  ·cases h
theorem k1l {T:TypeId}{a:Bool}{n q:Nat}{c:Array Value}{x:List SV}{v:SV}(h:ERel r σ x (fun k=>c[k]?) q)
  (hw:esW x=n) (hb:n=0∨q+n≤c.size) (hs:d0n a x=some v) (ha:aggB P T=some a) (hn:szOf P T=some n) (w:World): ∃v',VRel r σ v v'∧(part T c q).run P w=.ok v' w:=by
 unfold part
 simp only[Sem.run_bind,c0c ha,Result.andThen_ok]
 rcases n1m h hw hb hs with⟨rfl,hv⟩|⟨rfl,v',hc,hv⟩
 ·exact⟨_,hv,by simp[b0z hn]⟩
 ·exact⟨v',hv,by simp[hc]⟩
theorem b2d {x:SV}{x':Value}(hp:VRel r σ x x'){T:TypeId}{f:Nat}{v:SV}(h:v0y P T x f=some v)(w:World): ∃v',VRel r σ v v'∧(Instr.field T x' f).run P w=.ok v' w:=by
 unfold v0y at h
 split at h
 ·rename_i fl es hf
  split at h
  ·rename_i n a hn ha
   split at h
   ·rename_i y hy
    have hfl: ∃fs,P.underlying T=some (.struct fs)∧fs[f]? =some fl:=by
     unfold n1q at hf
     split at hf
     ·exact⟨_,by assumption,hf⟩
     ·cases hf
    obtain⟨fs,hu,hfs⟩:=hfl
    obtain⟨c,rfl,hc,he⟩:=hp.agg_of
    obtain⟨e1,e2,rfl,h1,rfl⟩:=e0u hy
    simp only[a0t]at hc
    obtain⟨v',q1,q2⟩:=k1l (T:=fl.type) (q:=fl.offset) (by have:=he.sub;rw[Nat.zero_add,h1]at this;exact this) rfl (by right;omega) h ha hn w
    exact⟨v',q1,by simp[Instr.field,run_underlying hu,hfs,asAgg,q2]⟩
   ·cases h
  ·cases h
 ·cases h
end
end Go.Proofs.Ytoehlcomhpnjgaa.Vx
