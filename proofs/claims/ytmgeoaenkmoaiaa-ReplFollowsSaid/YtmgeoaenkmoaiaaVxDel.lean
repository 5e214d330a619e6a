import Derived.Test.YtmgeoaenkmoaiaaZ06j
import Derived.Lib.SliceRun
noncomputable section
namespace Go.Proofs.Ytmgeoaenkmoaiaa.Vx
open Go Go.RowKit
set_option linter.unusedVariables false
def a4x (t:Ty):List Dat→Option (Nat×List Dat)
 |[.n i,.n j,.l t' x]=>match c0r t' t x with
  |some l=>bif decide (0≤i)&&(decide (i<j)&&decide (j≤(l.length:Int)))then some (0,[.l t (l.take i.toNat++l.drop j.toNat)])else none
  |none=>none
 |_=>none
theorem d4a {t:Ty}{i j:Int}{l:List t.den}(h0:0≤i)(h1:i<j)(h2:j≤(l.length:Int)):a4x t [.n i,.n j,.l t l]=some (0,[.l t (l.take i.toNat++l.drop j.toNat)]):=by
 unfold a4x
 simp only[d0b]
 show(bif decide (0≤i)&&(decide (i<j)&&decide (j≤(l.length:Int)))then _ else _)=_
 rw[decide_eq_true h0,decide_eq_true h1,decide_eq_true h2];rfl
def a4r (t:Ty):FBox:=mkF [.own 0,.int .i64 0,.int .i64 1] [.arr t 2] [0] [(.own 0,[.arr t 0])] (a4x t)
theorem d4u {w:World}{b o:Nat}{u:Value}(h:w.cell? ⟨b,o,none⟩=some u): ∃c T f,w.heap[b]? =some (.cells c T f):=by
 unfold World.cell? at h
 split at h
 ·rename_i c T f e;exact⟨_,_,_,e⟩
 ·cases h
theorem b4n {w:World}{b o k:Nat}{l:List Value}{u:Value}(h:w.cell? ⟨b,k,none⟩=some u):((w.setCells b o l).cell? ⟨b,k,none⟩).isSome=true∧(w.setCells b o l).frozen? ⟨b,k,none⟩=w.frozen? ⟨b,k,none⟩:=by
 obtain⟨c,T,f,e⟩:=d4u h
 obtain⟨b1,_⟩:=d0d e o l
 rw[l0e e]at h
 rw[l0e b1,r0d b1,r0d e]
 refine⟨?_,rfl⟩
 rw[Array.getElem?_eq_getElem (by rw[a0z];exact(Array.getElem?_eq_some_iff.1 h).1)];rfl
theorem g4n {P:Program}(w:World)(t e ty:TypeId)(z:Value)(ht:P.underlying t=some (.slice e))(hv: ∀w,(zeroValue e).run P w=.ok z w)(hz:0<z.cells.size)(h1:(z.cells.all fun v=>v.oneCell')=true)(b o n c:Nat)(hn:0<n)
  (hc: ∀j,j<n*z.cells.size→(w.cell? ⟨b,o+j,none⟩).isSome=true) (hf: ∀j,j<n*z.cells.size→w.frozen? ⟨b,o+j,none⟩=false):
  (Builtin.clear_ #[t] ty #[.slice (some ⟨b,o,none⟩) n c]).run P w=.ok (.tuple #[]) (w.setCells b o (Builtin.zeroCells z.cells n).toList):=by
 have hl:(Builtin.zeroCells z.cells n).toList.length=n*z.cells.size:=by rw[Array.length_toList,o0z]
 have hst:=run_storeCells_cells (P:=P) b o (Builtin.zeroCells z.cells n).toList 0 w (by rw[hl];simpa using hc) (by rw[hl];simpa using hf) (by
  intro v hv'
  simp only[Builtin.zeroCells,Array.toList_map,List.mem_map]at hv'
  obtain⟨i,_,rfl⟩:=hv'
  have hi:i%z.cells.size<z.cells.size:=Nat.mod_lt _ hz
  rw[getElem!_pos z.cells _ hi]
  exact Array.all_eq_true.1 h1 _ hi)
 simp only[Nat.add_zero]at hst
 obtain⟨m,rfl⟩: ∃m,n=m+1:=⟨n-1,by omega⟩
 simp[Builtin.clear_,run_underlying ht,hv,hst]
def DelRun (P:Program)(f:FuncId)(wd:Nat):Prop:= ∀(blk off cap L i j:Nat) (olds:List Value) (w:World),olds.length=L*wd→(∀u∈olds,u.oneCell'=true)→
 (∀k u,olds[k]? =some u→w.cell? ⟨blk,off+k,none⟩=some u∧w.frozen? ⟨blk,off+k,none⟩=false)→L≤cap→i<j→j≤L→
 Calls P f #[.slice (some ⟨blk,off,none⟩) L cap,.int .i64 i,.int .i64 j] w fun e w'=>e=.returned (.slice (some ⟨blk,off,none⟩) (i+(L-j)) cap)∧
  ∃zs:List Value,zs.length=(L-(i+(L-j)))*wd∧w'=(w.drew.setCells blk (off+i*wd) (olds.drop (j*wd))).setCells blk (off+(i+(L-j))*wd) zs
theorem del_ok {P:Program}{f:FuncId}{t:Ty}(hd:DelRun P f t.width)(FF: ∀l:List t.den,n1n 1 [.own 0] [.arr t 0] [.own 0 1] ⟨[.arr t 1 l],[0]⟩=some [.l t l]):a0v P f (a0j (a4r t)):=by
 intro args s v s1 h hlog r σ w args' hr ha
 unfold a0j at h
 split at h
 ·rename_i env henv
  obtain⟨⟨k,e0⟩,h1,h2⟩:=Tree.bind_some h
  have h1':=i0g h1
  obtain⟨f1,f2,f3⟩:=c1f henv hr ha []
  have hop: ∃(i j:Int) (l:List t.den),env=[.n i,.n j,.l t l]∧0≤i∧i<j∧j≤(l.length:Int)∧k=0∧e0=[.l t (l.take i.toNat++l.drop j.toNat)]:=by
   unfold a4x at h1'
   split at h1'
   ·rename_i i j t' x
    split at h1'
    ·rename_i l hl
     obtain⟨e1,rfl⟩:=a0w hl
     subst e1
     cases c:decide (0≤i)&&(decide (i<j)&&decide (j≤(x.length:Int)))with
     |false=>rw[c]at h1';cases h1'
     |true=>
      rw[c]at h1';cases h1'
      simp only[Bool.and_eq_true,decide_eq_true_eq]at c
      exact⟨i,j,x,rfl,c.1,c.2.1,c.2.2,rfl,rfl⟩
    ·cases h1'
   ·cases h1'
  obtain⟨i,j,l,rfl,hi,hij,hj,rfl,rfl⟩:=hop
  obtain⟨i,rfl⟩: ∃k:Nat,i=(k:Int):=⟨i.toNat,by omega⟩
  obtain⟨j,rfl⟩: ∃k:Nat,j=(k:Int):=⟨j.toNat,by omega⟩
  have hij:i<j:=by omega
  have hj:j≤l.length:=by omega
  have hgl:gl t [.n (i:Int),.n (j:Int),.l t l] 2=l:=by simp[gl,d0b]
  have hargs:instL (a4r t).args [.n (i:Int),.n (j:Int),.l t l]=[.own 0 0,.int .i64 i,.int .i64 j]:=rfl
  rw[hargs]at f2
  have hblks:(⟨instBs (a4r t).blks [.n (i:Int),.n (j:Int),.l t l],[]⟩:SW)=⟨[.arr t 0 l],[]⟩:=by show(⟨[Blk.arr t 0 (gl t [.n (i:Int),.n (j:Int),.l t l] 2)],[]⟩:SW)=_;rw[hgl]
  rw[hblks]at f1
  have hlen1:s.len=1:=f3.symm
  obtain⟨l',hl'⟩: ∃l',l'=l.take i++l.drop j:=⟨_,rfl⟩
  have hll:l'.length=i+(l.length-j):=by rw[hl',List.length_append,List.length_take,List.length_drop];omega
  have e2:l.take ((i:Int)).toNat++l.drop ((j:Int)).toNat=l':=by rw[hl'];rfl
  rw[e2]at h2
  have h2':SV.own 0 0=v∧(⟨[.arr t 0 l'],[0]⟩:SW)=s1:=by
   have:(match(a4r t).outs[0]? with|some o=>Tree.leaf (instV o.1 [Dat.l t l'],(⟨instBs o.2 [Dat.l t l'],(a4r t).log⟩:SW))|none=>.bad 321).sel=some (v,s1):=h2
   simp only[a4r,mkF,List.getElem?_cons_zero,Tree.sel,Option.some.injEq,Prod.mk.injEq]at this
   refine⟨this.1,?_⟩
   rw[←this.2]
   show _=(⟨[Blk.arr t 0 (gl t [.l t l'] 0)],[0]⟩:SW)
   have:gl t [.l t l'] 0=l':=by simp[gl,d0b]
   rw[this]
  obtain⟨rfl,rfl⟩:=h2'
  rw[hlen1]
  have hsz:=f2.size
  simp only[List.length_cons,List.length_nil]at hsz
  obtain⟨a0,g0,v0⟩:=f2.get (i:=0) rfl
  obtain⟨a1,g1,v1⟩:=f2.get (i:=1) rfl
  obtain⟨a2,g2,v2⟩:=f2.get (i:=2) rfl
  cases v1;cases v2
  cases v0 with
  |own _ _ x hx=>
   have ha:=f1.arr 0 t 0 l x rfl hx
   have hL:l.length=x.L:=ha.len
   have hcp:=ha.cap
   cases hxa:x.a with
   |none=>have:=ha.nil hxa;omega
   |some jo=>
    obtain⟨jb,o⟩:=jo
    obtain⟨c,T,fz,q1,q2,q3,q4⟩:=ha.row jb o hxa
    rw[ha.wd]at q3
    have hadr:x.addr=some ⟨jb,o,none⟩:=by unfold ALoc.addr;rw[hxa]
    have hargs':args'= #[.slice (some ⟨jb,o,none⟩) l.length x.cap,.int .i64 i,.int .i64 j]:=by
     apply Array.ext_getElem?
     intro q
     rcases q with _|_|_|q
     ·rw[g0,hadr,hL];rfl
     ·rw[g1];rfl
     ·rw[g2];rfl
     ·rw[Array.getElem?_eq_none (by omega),Array.getElem?_eq_none (by simp)]
    rw[hargs']
    have hrows:q1x σ w (some ⟨jb,o,none⟩) t l:=fun q hq=>⟨jb,o,c,T,fz,rfl,q1,q4 q hq⟩
    obtain⟨olds,k1,k2,k3⟩:=hrows.rowL
    have hcells: ∀k u,olds[k]? =some u→c[o+k]? =some u:=fun k u hk=>by
     have:=k3 _ rfl k u hk
     rw[Addr.add_lit,l0e q1]at this
     exact this
    have hlt: ∀k,k<olds.length→o+k<c.size:=fun k hk=>by
     have:=hcells k _ (List.getElem?_eq_getElem hk)
     exact(Array.getElem?_eq_some_iff.1 this).1
    refine(hd jb o x.cap l.length i j olds w k1.len k1.one (fun k u hk=>⟨by rw[l0e q1];exact hcells k u hk,by rw[r0d q1];exact q2.no _ (hlt k (List.getElem?_eq_some_iff.1 hk).1)⟩) (by omega) hij hj).mono ?_
    rintro e w' ⟨rfl,zs,hz,rfl⟩
    refine⟨_,rfl,?_⟩
    have hdr:(w.drew).heap[jb]? =some (.cells c T fz):=q1
    obtain⟨b1,b2,b3,b4,b5,b6⟩:=d0d hdr (o+i*t.width) (olds.drop (j*t.width))
    obtain⟨c1,c2,c3,c4,c5,c6⟩:=d0d b1 (o+(i+(l.length-j))*t.width) zs
    have hnl:(olds.drop (j*t.width)).length=(l.length-j)*t.width:=by rw[List.length_drop,k1.len,Nat.sub_mul]
    have hcapw:(i+(l.length-j))*t.width≤x.cap*t.width:=Nat.mul_le_mul_right _ (by omega)
    have hroom:o+i*t.width+(olds.drop (j*t.width)).length≤c.size:=by
     rw[hnl,Nat.add_assoc,←Nat.add_mul];omega
    obtain⟨x',hx'⟩: ∃x':ALoc,x'=⟨x.a,i+(l.length-j),x.cap,t.width⟩:=⟨_,rfl⟩
    have hrow:ARow σ t l' x' (((w.drew.setCells jb (o+i*t.width) (olds.drop (j*t.width))).setCells jb (o+(i+(l.length-j))*t.width) zs)).heap:=by
     subst hx'
     refine⟨rfl,hll,by show i+(l.length-j)≤x.cap;omega,(fun q=>by have q:x.a=none:=q;rw[hxa]at q;cases q),fun j' o' hjo=> ?_⟩
     have hjo:x.a=some (j',o'):=hjo
     rw[hxa]at hjo;cases hjo
     refine⟨_,T,fz,c1,q2.patch.patch,by rw[a0z,a0z];exact q3,fun q hq=> ?_⟩
     have hq':q<i+(l.length-j):=by rw[hll]at hq;exact hq
     have houter: ∀k,k<t.width→o+q*t.width+k<o+(i+(l.length-j))*t.width:=fun k hk=>by
      have:(q+1)*t.width≤(i+(l.length-j))*t.width:=Nat.mul_le_mul_right _ hq'
      rw[Nat.add_mul]at this;omega
     rcases Nat.lt_or_ge q i with hqi|hqi
     ·have e:l'[q]=l[q]'(by omega):=by
       have:l'[q]? =l[q]? :=by rw[hl',List.getElem?_append_left (by rw[List.length_take];omega),List.getElem?_take];simp[hqi]
       rw[List.getElem?_eq_getElem hq,List.getElem?_eq_getElem (by omega:q<l.length)]at this
       exact Option.some.inj this
      rw[e]
      refine(q4 q (by omega)).mono (Snap.le_refl _) fun k hk=> ?_
      have:(q+1)*t.width≤i*t.width:=Nat.mul_le_mul_right _ hqi
      rw[Nat.add_mul]at this
      rw[b0b (.inl (houter k hk)),b0b (.inl (by omega))]
     ·have hqj:j+(q-i)<l.length:=by omega
      have e:l'[q]=l[j+(q-i)]:=by
       have:l'[q]? =l[j+(q-i)]? :=by
        rw[hl',List.getElem?_append_right (by rw[List.length_take];omega),List.length_take,List.getElem?_drop,Nat.min_eq_left (by omega)]
       rw[List.getElem?_eq_getElem hq,List.getElem?_eq_getElem hqj]at this
       exact Option.some.inj this
      rw[e]
      refine(q4 (j+(q-i)) hqj).mono (Snap.le_refl _) fun k hk=> ?_
      rw[b0b (.inl (houter k hk))]
      have ek:o+q*t.width+k=o+i*t.width+((q-i)*t.width+k):=by
       have:q*t.width=i*t.width+(q-i)*t.width:=by rw[←Nat.add_mul];congr 1;omega
       omega
      have hk2:(q-i)*t.width+k<(olds.drop (j*t.width)).length:=by
       rw[hnl]
       have:(q-i+1)*t.width≤(l.length-j)*t.width:=Nat.mul_le_mul_right _ (by omega)
       rw[Nat.add_mul]at this;omega
      rw[ek,b0t hroom hk2,List.getElem?_drop]
      have hk3:j*t.width+((q-i)*t.width+k)<olds.length:=by rw[List.length_drop]at hk2;omega
      rw[List.getElem?_eq_getElem hk3]
      have:=hcells _ _ (List.getElem?_eq_getElem hk3)
      rw[←this]
      congr 1
      rw[Nat.add_mul];omega
    have hs:(⟨[.arr t 0 l],[]⟩:SW).blk 0=some (.arr t 0 l):=rfl
    obtain⟨m1,m2,m3⟩:=f1.grow hs hx hrow (by rw[c3,b3];exact Nat.le_refl _) (fun j' o' hjo=>by
      subst hx'
      have hjo:x.a=some (j',o'):=hjo
      rw[c3,b3]
      refine⟨?_,.inl ⟨o',hjo⟩⟩
      rw[hxa]at hjo;cases hjo
      exact(Array.getElem?_eq_some_iff.1 q1).1) (fun j' hj' hn=>by
      have hne:j'≠jb:=fun e=>hn o (by rw[e,hxa])
      rw[c2 j' hne,b2 j' hne];rfl) (by rw[c4,b4];rfl) (by rw[c5,b5];rfl) (by rw[c6,b6];rfl)
    have vr:VRel (r.setArr 0 1 x') σ (.own 0 1) (.slice (some ⟨jb,o,none⟩) (i+(l.length-j)) x.cap):=by
     have:=VRel.own (r:=r.setArr 0 1 x') (σ:=σ) 0 1 x' (by simp[RM.setArr])
     have e:x'.addr=some ⟨jb,o,none⟩:=by subst hx';unfold ALoc.addr;show(match x.a with|some (j,o)=>_|none=>_)=_;rw[hxa]
     rw[e]at this
     subst hx'
     exact this
    have hst:((⟨[.arr t 0 l],[]⟩:SW).note 0).setBlk 0 (.arr t (0+1) l')=⟨[.arr t 1 l'],[0]⟩:=rfl
    rw[hst]at m1
    obtain⟨r4,x1,x2,x3,x4⟩:=k1i (FF l') (Nat.le_refl _) m1 (LRel.one vr)
    refine⟨r4,σ,?_,?_,?_,(fun y hy _=>by rw[hlog]at hy;cases hy),Nat.le_refl _⟩
    ·have:=x1 [0]
     have e:(⟨instBs [.arr t 0] [.l t l'],[0]⟩:SW)=⟨[.arr t 0 l'],[0]⟩:=by
      show(⟨[Blk.arr t 0 (gl t [.l t l'] 0)],[0]⟩:SW)=_
      have:gl t [.l t l'] 0=l':=by simp[gl,d0b]
      rw[this]
     rw[e]at this
     exact this
    ·have fr:FrameK 1 [0] r (r.setArr 0 1 x') σ σ w _:=m3.toK m2 (Snap.le_refl _) (Nat.le_refl _)
     exact fr.trans x3 fun _ h _=>h
    ·exact x2.at_ 0 (instV (.own 0) [.l t l']) _ rfl rfl
 ·simp[Tree.sel]at h
end Go.Proofs.Ytmgeoaenkmoaiaa.Vx
