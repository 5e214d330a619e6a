import Derived.Test.YtoehlcomhpnjgaaVxSound5
import Derived.Deep.AppendSrc
import Derived.Laws.MakeOwn
import Derived.Great.BuildSlice
namespace Go.Proofs.Ytoehlcomhpnjgaa.Vx
open Go Go.RowKit
set_option linter.unusedVariables false
section
variable {P:Program} {r:RM} {σ:Snap} {s:SW} {w:World}
structure RowL (σ:Snap)(t:Ty)(l:List t.den)(news:List Value):Prop where
 len:news.length=l.length*t.width
 row: ∀i (h:i<l.length),RD σ t (fun k=>news[k]?) (i*t.width) l[i]
theorem RowL.one {t:Ty}{l:List t.den}{news:List Value}(h:RowL σ t l news): ∀u∈news,u.oneCell'=true:=by
 intro u hu
 obtain⟨k,hk,e⟩:=List.getElem_of_mem hu
 have hk':=hk
 rw[h.len]at hk'
 have hw:0<t.width:=by
  rcases Nat.eq_zero_or_pos t.width with q|q
  ·rw[q]at hk';omega
  ·exact q
 have hi:k/t.width<l.length:=Nat.div_lt_of_lt_mul (by rw[Nat.mul_comm];exact hk')
 obtain⟨v,q1,q2⟩:=g1o (h.row _ hi) (k%t.width) (Nat.mod_lt _ hw)
 rw[show k/t.width*t.width+k%t.width=k by rw[Nat.mul_comm];exact Nat.div_add_mod k t.width,List.getElem?_eq_getElem hk,e]at q1
 cases q1;exact q2
theorem RowL.append {t:Ty}{l l2:List t.den}{a b:List Value}(h:RowL σ t l a)(k:RowL σ t l2 b):RowL σ t (l++l2) (a++b):=by
 refine⟨by simp[h.len,k.len,Nat.add_mul],fun i hi=> ?_⟩
 rcases Nat.lt_or_ge i l.length with q|q
 ·rw[List.getElem_append_left q]
  refine(h.row i q).mono (Snap.le_refl _) fun k hk=>a1a ?_
  have:(i+1)*t.width≤l.length*t.width:=Nat.mul_le_mul_right _ q
  rw[Nat.add_mul]at this
  rw[h.len];omega
 ·rw[List.getElem_append_right q]
  have hi2:i-l.length<l2.length:=by rw[List.length_append]at hi;omega
  refine(k.row _ hi2).mono (Snap.le_refl _) fun k hk=> ?_
  have e:i*t.width=a.length+(i-l.length)*t.width:=by
   rw[h.len,←Nat.add_mul];congr 1;omega
  rw[e,Nat.add_assoc]
  exact u0a
theorem RowL.take {t:Ty}{l:List t.den}{a:List Value}(h:RowL σ t l a){n:Nat}(hn:n≤l.length):RowL σ t (l.take n) (a.take (n*t.width)):=by
 have hle:n*t.width≤l.length*t.width:=Nat.mul_le_mul_right _ hn
 refine⟨by rw[List.length_take,List.length_take,h.len,Nat.min_eq_left hle,Nat.min_eq_left hn],fun i hi=> ?_⟩
 have hi':i<n:=by simp at hi;omega
 rw[List.getElem_take]
 refine(h.row i (by omega)).mono (Snap.le_refl _) fun k hk=> ?_
 rw[List.getElem?_take,if_pos]
 have:(i+1)*t.width≤n*t.width:=Nat.mul_le_mul_right _ hi'
 rw[Nat.add_mul]at this;omega
theorem RowL.mono {σ':Snap}(hs:σ.le σ'){t:Ty}{l:List t.den}{a:List Value}(h:RowL σ t l a):RowL σ' t l a:=⟨h.len,fun i hi=>(h.row i hi).mono' hs⟩
theorem q1x.rowL {a:Option Addr}{t:Ty}{l:List t.den}(h:q1x σ w a t l): ∃news,RowL σ t l news∧(0<news.length→ ∃p,a=some p)∧ ∀p,a=some p→ ∀k u,news[k]? =some u→w.cell? (p.add k)=some u:=by
 rcases Nat.eq_zero_or_pos (l.length*t.width)with hz|hz
 ·refine⟨[],⟨by simpa using hz.symm,fun i hi=> ?_⟩,fun h=>by simp at h,fun p _ k u hk=>by simp at hk⟩
  obtain⟨j,o,c,T,f,e1,e2,e3⟩:=h i hi
  have:t.width=0:=by
   rcases Nat.mul_eq_zero.1 hz with q|q
   ·omega
   ·exact q
  exact e3.mono (Snap.le_refl _) fun k hk=>by omega
 ·have hl:0<l.length:=by
   rcases Nat.eq_zero_or_pos l.length with q|q
   ·rw[q]at hz;omega
   ·exact q
  have hw:0<t.width:=by
   rcases Nat.eq_zero_or_pos t.width with q|q
   ·rw[q]at hz;omega
   ·exact q
  obtain⟨j,o,c,T,f,e1,e2,e3⟩:=h 0 hl
  have all: ∀i (hi:i<l.length),RD σ t (fun k=>c[k]?) (o+i*t.width) l[i]:=by
   intro i hi
   obtain⟨j',o',c',T',f',q1,q2,q3⟩:=h i hi
   rw[e1]at q1;cases q1
   rw[e2]at q2;cases q2
   exact q3
  have hsz:o+l.length*t.width≤c.size:=by
   obtain⟨v,q1,_⟩:=g1o (all (l.length-1) (by omega)) (t.width-1) (by omega)
   have q2:=(Array.getElem?_eq_some_iff.1 q1).1
   have:(l.length-1+1)*t.width=l.length*t.width:=by congr 1;omega
   rw[Nat.add_mul]at this
   omega
  have hget: ∀k,k<l.length*t.width→(c.extract o (o+l.length*t.width)).toList[k]? =c[o+k]? :=by
   intro k hk
   rw[Array.getElem?_toList,Array.getElem?_extract,if_pos (by omega)]
  refine⟨(c.extract o (o+l.length*t.width)).toList,⟨by simp;omega,fun i hi=> ?_⟩,fun _=>⟨_,e1⟩,fun p hp k u hk=> ?_⟩
  ·refine(all i hi).mono (Snap.le_refl _) fun k hk=> ?_
   have:(i+1)*t.width≤l.length*t.width:=Nat.mul_le_mul_right _ hi
   rw[Nat.add_mul]at this
   rw[hget _ (by omega),Nat.add_assoc]
  ·rw[e1]at hp;cases hp
   rw[b0o,l0e e2]
   have hk':k<l.length*t.width:=by
    have:=(List.getElem?_eq_some_iff.1 hk).1
    simp at this;omega
   rw[hget k hk']at hk;exact hk
structure SrcR (P:Program)(σ:Snap)(t:Ty)(tx:TypeId)(l:List t.den)(x':Value)(w:World)(news:List Value):Prop where
 src:Src P t.width tx x' l.length news w
 row:RowL σ t l news
 take: ∀k,k≤l.length→(Builtin.firstCells t.width k x').run P w=.ok (news.take (k*t.width)).toArray w
theorem h0z (b:ByteArray):(c0b b).length=b.size:=by unfold c0b;rw[List.length_map,Array.length_toList];rfl
theorem srcStr {T:TypeId}(hu:P.underlying T=some .string)(b:ByteArray):SrcR P σ (.int .u8) T (c0b b) (.string b) w (byteCells b):=by
 have hl:=h0z b
 have hsrc:=Src.ofString (P:=P) w hu b
 refine⟨?_,⟨?_,fun i hi=> ?_⟩,fun k hk=> ?_⟩
 ·show Src P 1 T (.string b) (c0b b).length (byteCells b) w
  rw[hl];exact hsrc
 ·show(byteCells b).length=(c0b b).length*1
  rw[byteCells_length,hl,Nat.mul_one]
 ·show(byteCells b)[i*1]? =some (.int .u8 (c0b b)[i])
  have hi:i<(c0b b).length:=hi
  rw[hl]at hi
  have hi':i<b.data.toList.length:=by rw[Array.length_toList];exact hi
  simp only[byteCells,c0b,Nat.mul_one,List.getElem?_map,List.getElem_map,List.getElem?_eq_getElem hi',Option.map_some]
 ·have hk:k≤(c0b b).length:=hk
  rw[hl]at hk
  show(Builtin.firstCells 1 k (.string b)).run P w=.ok (((byteCells b).take (k*1)).toArray) w
  simp only[Builtin.firstCells,Nat.mul_one,Sem.run_pure]
  congr 1
  apply Array.ext'
  simp only[byteCells,Array.toList_map,ByteArray.data_extract,Array.toList_extract,List.extract_eq_take_drop,List.drop_zero,Nat.sub_zero,List.map_take]
theorem n0f (hr:Rel r σ s w){x:SV}{x':Value}(hx:VRel r σ x x'){T:TypeId}{t:Ty}{l:List t.den}(h:q0q P T t x s=some l): ∃news,SrcR P σ t T l x' w news:=by
 unfold q0q at h
 split at h
 ·rename_i hu
  split at h
  ·rename_i b
   obtain⟨e,rfl⟩:=a0w h
   subst e
   cases hx
   exact⟨_,srcStr hu b⟩
  ·cases h
 ·rename_i e hu
  obtain⟨a,cap,rfl,hc,hrows⟩:=l1c hr hx h
  obtain⟨news,h1,h2,h3⟩:=hrows.rowL
  refine⟨news,?_,h1,fun k hk=> ?_⟩
  ·cases a with
   |some p=>exact Src.ofSlice w hu p _ cap news h1.len (h3 p rfl) h1.one
   |none=>
    have hz:news=[]:=by
     cases news with
     |nil=>rfl
     |cons v n=>obtain⟨p,hp⟩:=h2 (by simp);cases hp
    have hl0:l.length=0:=by
     rcases Nat.eq_zero_or_pos l.length with q|q
     ·exact q
     ·obtain⟨j,o,c,T',f,e1,_⟩:=hrows 0 q;cases e1
    subst hz
    rw[hl0]
    exact Src.ofNil w hu cap
  ·cases a with
   |some p=>
    refine run_firstCells_some w t.width k p _ cap _ ?_ fun q u hq=>h3 p rfl q u ?_
    ·rw[List.length_take,h1.len,Nat.min_eq_left (Nat.mul_le_mul_right _ hk)]
    ·rw[List.getElem?_take]at hq
     split at hq
     ·exact hq
     ·cases hq
   |none=>
    have hz:news=[]:=by
     cases news with
     |nil=>rfl
     |cons v n=>obtain⟨p,hp⟩:=h2 (by simp);cases hp
    subst hz
    simpa using run_firstCells_none (P:=P) w t.width k l.length cap
 ·cases h
theorem t0z {T:TypeId}{n:Nat}(h:j0t P T=some n): ∃i,P.info? T=some i∧i.bytes=n:=by
 unfold j0t at h
 split at h
 ·rename_i i hi;cases h;exact⟨i,hi,rfl⟩
 ·cases h
theorem r0m {T:TypeId}{n:Nat}(h:szOf P T=some n): ∃i,P.info? T=some i∧i.size=n:=by
 unfold szOf at h
 split at h
 ·rename_i i hi;cases h;exact⟨i,hi,rfl⟩
 ·cases h
theorem j0b {T e:TypeId}(h:elOf P T=some e):P.underlying T=some (.slice e):=by
 unfold elOf at h
 split at h
 ·cases h;assumption
 ·cases h
theorem g1i (w:World){need old:Nat}(e:TypeId):need≤grownCap w need old e:=by
 simp only[grownCap,Question.cut];omega
theorem o0z (z:Array Value)(n:Nat):(Builtin.zeroCells z n).size=n*z.size:=by simp[Builtin.zeroCells]
theorem y0q {t:Ty}{l:List t.den}{news:List Value}(h:RowL σ t l news){c:Array Value}{o:Nat}(hc: ∀k u,news[k]? =some u→c[o+k]? =some u): ∀i (hi:i<l.length),RD σ t (fun k=>c[k]?) (o+i*t.width) l[i]:=by
 intro i hi
 refine(h.row i hi).mono (Snap.le_refl _) fun k hk=> ?_
 obtain⟨v,q1,_⟩:=g1o (h.row i hi) k hk
 rw[q1,Nat.add_assoc]
 exact hc _ _ q1
theorem p0t (w:World)(c:Array Value)(T:TypeId):(w.drew.alloc (.cells c T)).heap[w.heap.size]? =some (.cells c T (0,0)):=by
 show(w.heap.push _)[w.heap.size]? =_
 simp
theorem d0v (w:World)(o:Obj):(w.drew.alloc o).heap.size=w.heap.size+1:=by
 show(w.heap.push _).size=_
 simp
theorem q0j {T T2 e:TypeId}{i:TypeInfo}{z:Value}(hu:P.underlying T=some (.slice e))(hi:P.info? e=some i)(hz:i.zero=some z){t:Ty}(hw:i.size=t.width)(hzw:z.cells.size=t.width)
  {l0 l:List t.den} {news:List Value} {x':Value} (hs:SrcR P σ t T2 l x' w news) {a:Option (Nat×Nat)} {cap:Nat} (hcap:l0.length≤cap) (hb:(l0.length+l.length)*max i.bytes 1≤140737488355328)
  (hnil:a=none→cap=0) (ty:TypeId)
  (hrow: ∀j o,a=some (j,o)→ ∃c T' f,w.heap[j]? =some (.cells c T' f)∧d0f c f∧o+cap*t.width≤c.size∧ ∀i (h:i<l0.length),RD σ t (fun k=>c[k]?) (o+i*t.width) l0[i]):
  ∃(x:ALoc) (w':World),x.wd=t.width∧(Builtin.append_ #[T,T2] ty #[.slice (a.map fun(j,o)=>⟨j,o,none⟩) l0.length cap,x']).run P w=.ok (.slice x.addr x.L x.cap) w'∧
   ARow σ t (l0++l) x w'.heap∧w.heap.size≤w'.heap.size∧w'.os=w.os∧w'.tape=w.tape∧w'.output=w.output∧
   (∀j o,x.a=some (j,o)→j<w'.heap.size∧(a=some (j,o)∨w.heap.size≤j))∧(∀j,j<w.heap.size→(∀o,a≠some (j,o))→w'.heap[j]? =w.heap[j]?):=by
 have hneed:(l0.length+l.length)*i.bytes≤140737488355328:=Nat.le_trans (Nat.mul_le_mul_left _ (Nat.le_max_left _ _)) hb
 have hn63:l0.length+l.length≤140737488355328:=Nat.le_trans (by have:=Nat.mul_le_mul_left (l0.length+l.length) (Nat.le_max_right i.bytes 1);omega) hb
 rcases Nat.lt_or_ge cap (l0.length+l.length)with hg|hg
 ·
  have hrows:q1x σ w (a.map fun(j,o)=>(⟨j,o,none⟩:Addr)) t l0:=by
   intro i hi
   cases a with
   |none=>have:=hnil rfl;omega
   |some jo=>
    obtain⟨j,o⟩:=jo
    obtain⟨c,T',f,h1,h2,h3,h4⟩:=hrow j o rfl
    exact⟨j,o,c,T',f,rfl,h1,h4 i hi⟩
  obtain⟨olds,k1,k2,k3⟩:=hrows.rowL
  have hold:(Builtin.firstCells i.size l0.length (.slice (a.map fun(j,o)=>(⟨j,o,none⟩:Addr)) l0.length cap)).run P w.drew=.ok olds.toArray w.drew:=by
   cases a with
   |some jo=>exact run_firstCells_some w.drew i.size l0.length _ _ cap olds (by rw[k1.len,hw]) (k3 _ rfl)
   |none=>
    have hz:olds=[]:=by
     cases olds with
     |nil=>rfl
     |cons v n=>obtain⟨p,hp⟩:=k2 (by simp);cases hp
    subst hz
    exact run_firstCells_none w.drew i.size l0.length l0.length cap
  have hrun:=run_append_grow_src (P:=P) w T T2 ty e i z hu hi hz (a.map fun(j,o)=>(⟨j,o,none⟩:Addr)) l0.length cap olds hold x' l.length news (by rw[hw];exact hs.src) hg (by omega) (growslice_fits hg hneed)
  have hge:=g1i w (need:=l0.length+l.length) (old:=cap) e
  refine⟨⟨some (w.heap.size,0),l0.length+l.length,grownCap w (l0.length+l.length) cap e,t.width⟩,_,rfl,hrun,?_,by rw[d0v];omega,rfl,rfl,rfl,?_,?_⟩
  ·refine⟨rfl,by simp,hge,(fun h=>by cases h),fun j o h=> ?_⟩
   cases h
   refine⟨_,e,(0,0),p0t w _ e,.inl rfl,?_,fun i hi=> ?_⟩
   ·simp only[Array.size_append,List.size_toArray,List.length_append,o0z,k1.len,hs.row.len,hzw,Nat.zero_add]
    rw[←Nat.add_mul,←Nat.add_mul]
    exact Nat.mul_le_mul_right _ (by omega)
   ·refine y0q (k1.append hs.row) (o:=0) (fun k u hk=> ?_) i hi
    rw[Nat.zero_add,Array.getElem?_append_left (by simp;have:=(List.getElem?_eq_some_iff.1 hk).1;simp at this;omega)]
    simpa using hk
  ·intro j o h
   cases h
   exact⟨by rw[d0v];omega,.inr (Nat.le_refl _)⟩
  ·intro j hj _
   exact Below.heap_alloc w.drew _ _ hj
 ·
  cases a with
  |none=>
   have hc0:=hnil rfl
   subst hc0
   have e1:l0.length=0:=by omega
   have e2:l.length=0:=by omega
   have e3:news=[]:=by
    have:=hs.row.len
    rw[e2,Nat.zero_mul]at this
    exact List.length_eq_zero_iff.1 this
   subst e3
   refine⟨⟨none,0,0,t.width⟩,w,rfl,?_,⟨rfl,by simp[e1,e2],Nat.le_refl _,fun _=>rfl,fun j o h=>by cases h⟩,Nat.le_refl _,rfl,rfl,rfl,fun j o h=>(by cases h),fun _ _ _=>rfl⟩
   have h1:=hs.src.len
   have h2:=hs.src.cells
   rw[e2]at h1 h2
   rw[e1]
   rcases hs.src.kind with⟨e',hk⟩|hk<;>simp[Builtin.append_,run_underlying hu,run_underlying hk,sizeOf,typeInfo,hi,h1,hw,h2,ALoc.addr]
  |some jo=>
   obtain⟨j,o⟩:=jo
   obtain⟨c,T',f,h1,h2,h3,h4⟩:=hrow j o rfl
   have hroom:o+l0.length*t.width+news.length≤c.size:=by
    rw[hs.row.len,Nat.add_assoc,←Nat.add_mul]
    exact Nat.le_trans (Nat.add_le_add_left (Nat.mul_le_mul_right _ hg) _) h3
   have hrun:=run_append_room_src (P:=P) w T T2 ty e i hu hi j o l0.length cap x' l.length news (by rw[hw];exact hs.src) hg
    (fun k hk=>by rw[l0e h1,hw];simp;omega) (fun k hk=>by rw[r0d h1,hw];exact h2.no _ (by omega))
   rw[hw]at hrun
   obtain⟨a1,a2,a3,a4,a5,a6⟩:=d0d h1 (o+l0.length*t.width) news
   refine⟨⟨some (j,o),l0.length+l.length,cap,t.width⟩,_,rfl,hrun,?_,by rw[a3];exact Nat.le_refl _,a4,a5,a6,?_,?_⟩
   ·refine⟨rfl,by simp,hg,(fun h=>by cases h),fun j' o' h=> ?_⟩
    cases h
    refine⟨_,T',f,a1,(by rcases h2 with q|q;exact .inl q;exact .inr (by rwa [a0z])),by rw[a0z];exact h3,fun i hi=> ?_⟩
    rcases Nat.lt_or_ge i l0.length with q|q
    ·rw[List.getElem_append_left q]
     refine(h4 i q).mono (Snap.le_refl _) fun k hk=>b0b (.inl ?_)
     have:(i+1)*t.width≤l0.length*t.width:=Nat.mul_le_mul_right _ q
     rw[Nat.add_mul]at this;omega
    ·rw[List.getElem_append_right q]
     have hi2:i-l0.length<l.length:=by rw[List.length_append]at hi;omega
     have:=y0q hs.row (c:=b0q c (o+l0.length*t.width) news) (o:=o+l0.length*t.width) (fun k u hk=>by
      rw[b0t hroom (List.getElem?_eq_some_iff.1 hk).1];exact hk) _ hi2
     rwa [Nat.add_assoc,←Nat.add_mul,show l0.length+(i-l0.length)=i by omega]at this
   ·intro j' o' h
    cases h
    exact⟨by rw[a3];exact(Array.getElem?_eq_some_iff.1 h1).1,.inl rfl⟩
   ·intro j' hj' hn
    exact a2 j' fun e'=>hn o (by rw[e'])
theorem r1d (hr:Rel r σ s w){v x:SV}{v' x':Value}(hv:VRel r σ v v')(hx:VRel r σ x x'){T T2:TypeId}{v1:SV}{s1:SW}(h:(r0s P T T2 v x s).sel=some (v1,s1))(ty:TypeId):
  Goes P r σ s w (Builtin.append_ #[T,T2] ty #[v',x']) v1 s1:=by
 unfold r0s at h
 split at h
 ·rename_i e he
  have hu:=j0b he
  split at h
  ·rename_i by_ m i hby hm hi
   obtain⟨i1,hi1,rfl⟩:=t0z hby
   obtain⟨i2,hi2,rfl⟩:=r0m hm
   rw[hi]at hi1 hi2;cases hi1;cases hi2
   split at h
   ·rename_i z hz
    split at h
    ·
     split at h
     ·rename_i t ht
      split at h
      ·rename_i l hw hl
       simp only[Bool.and_eq_true]at hw
       have hw1:=a0n hw.1
       have hw2:=a0n hw.2
       obtain⟨g1,g2⟩:=Tree.guard_some h
       cases g2
       cases hv
       have g1:=of_decide_eq_true g1
       obtain⟨news,hs⟩:=n0f hr hx hl
       obtain⟨xl,w',q1,q2,q3,q4,q5,q6,q7,q8,q9⟩:=q0j (P:=P) (l0:=[]) hu hi hz hw1 hw2 hs (a:=none) (cap:=0) (Nat.le_refl _) (by simpa using g1) (fun _=>rfl) ty (fun j o h=>by cases h)
       simp only[List.nil_append]at q3
       have q9': ∀j,j<w.heap.size→w'.heap[j]? =w.heap[j]? :=fun j hj=>q9 j hj fun o h=>by cases h
       have hle:r.le (r.setArr s.len 0 xl):=f0d (hr.arr_len 0) _
       have hat: ∀b j,(r.setArr s.len 0 xl).at b j→r.at b j∨w.heap.size≤j:=fun b j k=>by
        rcases c0t k with u|⟨_,o,u⟩
        ·exact .inl u
        ·rcases(q8 j o u).2 with k|k
         ·cases k
         ·exact .inr k
       refine⟨_,σ,w',_,hle,Snap.le_refl _,hr.change (b:=s.len) (x:=.arr t 0 l) ?_ (SW.blk_push _ _) (fun b' e=>SW.blk_push_ne _ _ e) (by rw[SW.len_push];omega),⟨q5,q6,q7,q4,hat,fun j hj _=>q9' j hj,fun b hb _=>c0l (by omega),.refl⟩,q2,.own _ _ xl (by simp[RM.setArr]),fun _ h=>h,by rw[SW.len_push];omega⟩
       refine⟨hle,Snap.le_refl _,fun _ _ _ k=>k,fun b' g p e k=> ?_,fun _ _ _ k=>k,q4,fun j hj _=>q9' j hj,fun j hj=> ?_,?_,fun j hj=>hat _ _ hj,fun j c' hj=>.inl hj,?_,?_,?_,?_⟩
       ·simpa [RM.setArr,e]using k
       ·rcases c0t hj with u|⟨_,o,u⟩
        ·have:=hr.inb _ _ u;omega
        ·exact(q8 _ _ u).1
       ·rintro j ⟨p,o,hp,hj⟩
        simp only[RM.setArr,and_self,if_true]at hp
        cases hp
        rcases(q8 _ _ hj).2 with k|k
        ·cases k
        ·exact .inr k
       ·intro es' j n e;cases e
       ·intro t' g l' p e hp
        cases e
        simp only[RM.setArr,and_self,if_true]at hp
        cases hp
        exact q3
       ·intro t g l p e;cases e
       ·intro t' g l' g' e hg
        cases e
        simp only[RM.setArr]
        rw[if_neg (by omega)]
        exact hr.arr_len _
      ·cases h
     ·cases h
    ·
     rename_i b g
     split at h
     ·rename_i t g' l0 hb
      split at h
      ·rename_i l hw hl
       simp only[Bool.and_eq_true]at hw
       obtain rfl:=a0n hw.1.1
       have hw1:=a0n hw.1.2
       have hw2:=a0n hw.2
       obtain⟨g1,g2⟩:=Tree.guard_some h
       cases g2
       have g1:=of_decide_eq_true g1
       obtain⟨news,hs⟩:=n0f hr hx hl
       cases hv with
       |own _ _ x0 hx0=>
        have ha:=hr.arr b t g l0 x0 hb hx0
        obtain⟨xl,w',q1,q2,q3,q4,q5,q6,q7,q8,q9⟩:=q0j (P:=P) (l0:=l0) hu hi hz hw1 hw2 hs (a:=x0.a) (cap:=x0.cap) (by rw[ha.len];exact ha.cap) g1 ha.nil ty
         (fun j o h=>by obtain⟨c,T',f,k1,k2,k3,k4⟩:=ha.row j o h;exact⟨c,T',f,k1,k2,by rw[←ha.wd];exact k3,k4⟩)
        obtain⟨k1,k2,k3⟩:=hr.grow hb hx0 q3 q4 (fun j o h=>⟨(q8 j o h).1,(q8 j o h).2.imp (fun k=>⟨o,k⟩) id⟩) q9 q5 q6 q7
        refine⟨_,σ,w',_,k2,Snap.le_refl _,k1,k3,?_,.own _ _ xl (by simp[RM.setArr]),fun x hx=>SW.note_sub _ _ _ hx,by rw[SW.set_len,SW.note_len];exact Nat.le_refl _⟩
        rw[←q2,ha.len]
        have:x0.addr=x0.a.map fun(j,o)=>(⟨j,o,none⟩:Addr):=by
         unfold ALoc.addr;cases x0.a<;>rfl
        rw[this]
      ·cases h
     ·cases h
    ·
     rename_i b g lo n
     split at h
     ·rename_i t g' l0 hb
      split at h
      ·rename_i l hw hl
       simp only[Bool.and_eq_true]at hw
       obtain rfl:=a0n hw.1.1
       have hw1:=a0n hw.1.2
       have hw2:=a0n hw.2
       obtain⟨g1,g2⟩:=Tree.guard_some h
       cases g2
       have g1:=of_decide_eq_true g1
       obtain⟨news,hs⟩:=n0f hr hx hl
       cases hv with
       |part _ _ _ _ x0 a cap hx0 p1 p2 p3 p4 p5=>
        have ha:=hr.arr b t g l0 x0 hb hx0
        have hlen:((l0.drop lo).take n).length=n:=by simp;have:=ha.len;omega
        have hloc: ∃y:Option (Nat×Nat),a=(y.map fun(j,o)=>(⟨j,o,none⟩:Addr))∧(y=none→cap=0)∧ ∀j o,y=some (j,o)→(∃o',x0.a=some (j,o'))∧
          ∃c T' f,w.heap[j]? =some (.cells c T' f)∧d0f c f∧o+cap*t.width≤c.size∧ ∀i (h:i<((l0.drop lo).take n).length),RD σ t (fun k=>c[k]?) (o+i*t.width) ((l0.drop lo).take n)[i]:=by
         rcases p5 with rfl|⟨j,o,k,u1,u2,u3⟩
         ·refine⟨none,rfl,fun _=> ?_,fun j o h=>by cases h⟩
          rcases Nat.eq_zero_or_pos cap with u|u
          ·exact u
          ·obtain⟨j,o,u1,u2⟩:=p4 u;cases u2
         ·refine⟨some (j,o+k*x0.wd),u2,(fun h=>by cases h),fun j' o' h=> ?_⟩
          cases h
          obtain⟨c,T',f,k1,k2,k3,k4⟩:=ha.row j o u1
          refine⟨⟨o,u1⟩,c,T',f,k1,k2,?_,fun i hi=> ?_⟩
          ·rcases Nat.eq_zero_or_pos cap with u|u
           ·rw[u,Nat.zero_mul]
            have:k*x0.wd≤x0.cap*x0.wd:=Nat.mul_le_mul_right _ u3
            omega
           ·obtain⟨j2,o2,v1,v2⟩:=p4 u
            rw[u1]at v1;cases v1
            rw[u2]at v2
            simp only[Option.some.injEq,Addr.mk.injEq,true_and,and_true]at v2
            have:(lo+cap)*x0.wd≤x0.cap*x0.wd:=Nat.mul_le_mul_right _ p3
            rw[Nat.add_mul]at this
            rw[←ha.wd];omega
          ·rw[hlen]at hi
           obtain⟨j2,o2,v1,v2⟩:=p4 (by omega)
           rw[u1]at v1;cases v1
           rw[u2]at v2
           simp only[Option.some.injEq,Addr.mk.injEq,true_and,and_true]at v2
           have:=k4 (lo+i) (by have:=ha.len;omega)
           simp only[List.getElem_take,List.getElem_drop]
           rw[v2,ha.wd,Nat.add_assoc,←Nat.add_mul]
           exact this
        obtain⟨y,rfl,y2,y3⟩:=hloc
        obtain⟨xl,w',q1,q2,q3,q4,q5,q6,q7,q8,q9⟩:=q0j (P:=P) (l0:=(l0.drop lo).take n) hu hi hz hw1 hw2 hs (a:=y) (cap:=cap) (by rw[hlen];exact p2) (by rw[hlen];exact g1) y2 ty (fun j o h=>(y3 j o h).2)
        obtain⟨k1,k2,k3⟩:=hr.grow hb hx0 q3 q4 (fun j o h=>⟨(q8 j o h).1,(q8 j o h).2.imp (fun k=>(y3 j o k).1) id⟩) (fun j hj hn=>q9 j hj fun o k=>by obtain⟨o',u⟩:=(y3 j o k).1;exact hn o' u) q5 q6 q7
        refine⟨_,σ,w',_,k2,Snap.le_refl _,k1,k3,?_,.own _ _ xl (by simp[RM.setArr]),fun x hx=>SW.note_sub _ _ _ hx,by rw[SW.set_len,SW.note_len];exact Nat.le_refl _⟩
        rw[hlen]at q2
        exact q2
      ·cases h
     ·cases h
    ·cases h
   ·cases h
  ·cases h
 ·cases h
end
end Go.Proofs.Ytoehlcomhpnjgaa.Vx
