import Derived.Test.YtoehlcomhpnjgaaVxSound3
namespace Go.Proofs.Ytoehlcomhpnjgaa.Vx
open Go Go.RowKit
set_option linter.unusedVariables false
section
variable {P:Program} {r:RM} {σ:Snap} {s:SW} {w:World}
theorem z0s: ∀{v:Value} {x:SV},e0a v=some x→VRel r σ x v∧x.isArr=false
 |.bool b,x,h=>by simp only[e0a,Option.some.injEq]at h;subst h;exact⟨.bool b,rfl⟩
 |.int k n,x,h=>by simp only[e0a,Option.some.injEq]at h;subst h;exact⟨.int k n,rfl⟩
 |.string b,x,h=>by simp only[e0a,Option.some.injEq]at h;subst h;exact⟨.str b,rfl⟩
 |.slice none 0 0,x,h=>by simp only[e0a,Option.some.injEq]at h;subst h;exact⟨.nilsl,rfl⟩
 |.pointer none,x,h=>by simp only[e0a,Option.some.injEq]at h;subst h;exact⟨.nilptr,rfl⟩
 |.map none,x,h=>by simp only[e0a,Option.some.injEq]at h;subst h;exact⟨.nilmap,rfl⟩
 |.nilFunc,x,h=>by simp only[e0a,Option.some.injEq]at h;subst h;exact⟨.nilfn,rfl⟩
 |.nilIface,x,h=>by simp only[e0a,Option.some.injEq]at h;subst h;exact⟨.nilif,rfl⟩
 |.iface t v,x,h=>by
  simp only[e0a]at h
  split at h
  ·rename_i y hy;cases h;exact⟨.iface t y v (z0s hy).1,rfl⟩
  ·cases h
 |.slice none 0 (_+1),x,h=>by simp[e0a]at h
 |.slice none (_+1) _,x,h=>by simp[e0a]at h
 |.slice (some _) _ _,x,h=>by simp[e0a]at h
 |.pointer (some _),x,h=>by simp[e0a]at h
 |.map (some _),x,h=>by simp[e0a]at h
 |.agg _,x,h=>by simp[e0a]at h
 |.tuple _,x,h=>by simp[e0a]at h
 |.chan _,x,h=>by simp[e0a]at h
 |.float _ _,x,h=>by simp[e0a]at h
 |.complex _ _ _,x,h=>by simp[e0a]at h
 |.func _ _ _,x,h=>by simp[e0a]at h
theorem a1a {pre suf:List Value}{k:Nat}(h:k<pre.length):(pre++suf)[k]? =pre[k]? :=List.getElem?_append_left h
theorem u0a {pre suf:List Value}{k:Nat}:(pre++suf)[pre.length+k]? =suf[k]? :=by
 rw[List.getElem?_append_right (by omega)];congr 1;omega
theorem e1y {t:Ty}(ih: ∀(cs r:List Value),b0y t cs=some r→ ∃pre,cs=pre++r∧pre.length=t.width∧RD σ t (fun k=>pre[k]?) 0 t.dflt):
  ∀(n:Nat) (cs r:List Value),b1f (b0y t) n cs=some r→ ∃pre,cs=pre++r∧pre.length=n*t.width∧ ∀i,i<n→RD σ t (fun k=>pre[k]?) (i*t.width) t.dflt
 |0,cs,r,h=>by simp only[b1f,Option.some.injEq]at h;subst h;exact⟨[],rfl,by simp,fun i hi=>by omega⟩
 |n+1,cs,r,h=>by
  simp only[b1f]at h
  split at h
  ·rename_i r1 h1
   obtain⟨p1,rfl,e1,d1⟩:=ih _ _ h1
   obtain⟨p2,rfl,e2,d2⟩:=e1y ih n _ _ h
   refine⟨p1++p2,by simp,by simp[e1,e2,Nat.add_mul];omega,fun i hi=> ?_⟩
   cases i with
   |zero=>exact d1.mono (Snap.le_refl _) fun k hk=>by rw[Nat.zero_mul];exact a1a (by omega)
   |succ i=>
    refine(d2 i (by omega)).mono (Snap.le_refl _) fun k hk=> ?_
    rw[show(i+1)*t.width+k=p1.length+(i*t.width+k) by rw[e1,Nat.add_mul];omega]
    exact u0a
  ·cases h
theorem m0q: ∀{t:Ty} {cs r:List Value},b0y t cs=some r→ ∃pre,cs=pre++r∧pre.length=t.width∧RD σ t (fun k=>pre[k]?) 0 t.dflt
 |.bool,cs,r,h=>by
  cases cs with
  |nil=>simp[b0y]at h
  |cons v cs=>
   cases v with
   |bool b=>
    cases b with
    |false=>simp only[b0y]at h;cases h;exact⟨[_],rfl,rfl,rfl⟩
    |true=>simp[b0y]at h
   |_=>simp[b0y]at h
 |.int k,cs,r,h=>by
  cases cs with
  |nil=>simp[b0y]at h
  |cons v cs=>
   cases v with
   |int k' n=>
    simp only[b0y]at h
    split at h
    ·rename_i hk hn
     obtain rfl:=of_decide_eq_true hk
     obtain rfl:=of_decide_eq_true hn
     cases h
     exact⟨[_],rfl,rfl,rfl⟩
    ·cases h
   |_=>simp[b0y]at h
 |.str,cs,r,h=>by
  cases cs with
  |nil=>simp[b0y]at h
  |cons v cs=>
   cases v with
   |string b=>
    simp only[b0y]at h
    split at h
    ·rename_i hk
     cases h
     have hb:b=ByteArray.empty:=by
      have:=a0n hk
      cases b with|mk d=>exact congrArg ByteArray.mk (Array.eq_empty_of_size_eq_zero this)
     subst hb
     exact⟨[_],rfl,rfl,rfl⟩
    ·cases h
   |_=>simp[b0y]at h
 |.sl t,cs,r,h=>by
  cases cs with
  |nil=>simp[b0y]at h
  |cons v cs=>
   have yes:v=.slice none 0 0∧cs=r:=by
    cases v with
    |slice a len cap=>
     cases a with
     |some a=>simp[b0y]at h
     |none=>
      cases len with
      |succ len=>simp[b0y]at h
      |zero=>
       cases cap with
       |succ cap=>simp[b0y]at h
       |zero=>simp only[b0y]at h;cases h;exact⟨rfl,rfl⟩
    |_=>simp[b0y]at h
   obtain⟨rfl,rfl⟩:=yes
   refine⟨[_],rfl,rfl,?_⟩
   show RD σ (.sl t) _ 0 ([]:List t.den)
   rw[x0x]
   exact⟨none,0,0,rfl,rfl,Nat.le_refl _,fun i hi=>by simp at hi⟩
 |.arr n t,cs,r,h=>by
  unfold b0y at h
  obtain⟨pre,e1,e2,e3⟩:=e1y (fun cs r h=>m0q h) n cs r h
  refine⟨pre,e1,e2,?_⟩
  show RD σ (.arr n t) _ 0 (List.replicate n t.dflt)
  rw[p0f]
  refine⟨by simp,fun i hi=> ?_⟩
  rw[List.getElem_replicate,Nat.zero_add]
  exact e3 i (by simpa using hi)
 |.pair a b,cs,r,h=>by
  unfold b0y at h
  split at h
  ·rename_i r1 h1
   obtain⟨p1,rfl,e1,d1⟩:=m0q h1
   obtain⟨p2,rfl,e2,d2⟩:=m0q h
   refine⟨p1++p2,by simp,by simp[e1,e2,Ty.width],?_,?_⟩
   ·exact d1.mono (Snap.le_refl _) fun k hk=>by rw[Nat.zero_add];exact a1a (by omega)
   ·refine d2.mono (Snap.le_refl _) fun k hk=> ?_
    rw[Nat.zero_add,Nat.zero_add,←e1]
    exact u0a
  ·cases h
 |.unit,cs,r,h=>by
  unfold b0y at h
  cases h
  exact⟨[],rfl,rfl,trivial⟩
def Grp (r:RM)(σ:Snap)(cs:List Value)(es:List SV)(rest:List Value):Prop:=
 ∃pre,cs=pre++rest∧ERel r σ es (fun k=>pre[k]?) 0∧esW es=pre.length
theorem Grp.append {cs r1 r2:List Value}{a b:List SV}(h:Grp r σ cs a r1)(k:Grp r σ r1 b r2):Grp r σ cs (a++b) r2:=by
 obtain⟨p1,rfl,e1,d1⟩:=h
 obtain⟨p2,rfl,e2,d2⟩:=k
 refine⟨p1++p2,by simp,ERel.append (e1.congr fun k hk=> ?_) (e2.congr fun k hk=> ?_),by simp[a0t,d1,d2]⟩
 ·rw[Nat.zero_add];exact a1a (by omega)
 ·rw[Nat.zero_add,Nat.zero_add,d1];exact u0a
theorem Grp.nil {cs:List Value}:Grp r σ cs [] cs:=⟨[],rfl,.nil,rfl⟩
theorem y0z: ∀{n:Nat} {T:TypeId} {cs:List Value} {es:List SV} {rest:List Value},group P n T cs=some (es,rest)→Grp r σ cs es rest
 |0,T,cs,es,rest,h=>by simp[group]at h
 |n+1,T,cs,es,rest,h=>by
  have fs_ok: ∀(fs:List Field) (cs:List Value) (es:List SV) (rest:List Value),f1z (group P n) fs cs=some (es,rest)→Grp r σ cs es rest:=by
   intro fs
   induction fs with
   |nil=>intro cs es rest h;simp only[f1z,Option.some.injEq,Prod.mk.injEq]at h;obtain⟨rfl,rfl⟩:=h;exact .nil
   |cons f fs ih=>
    intro cs es rest h
    simp only[f1z]at h
    split at h
    ·rename_i a r1 h1
     split at h
     ·rename_i b r2 h2
      cases h
      exact(y0z h1).append (ih _ _ _ h2)
     ·cases h
    ·cases h
  have rep_ok: ∀(e:TypeId) (k:Nat) (cs:List Value) (es:List SV) (rest:List Value),v0a (group P n e) k cs=some (es,rest)→Grp r σ cs es rest:=by
   intro e k
   induction k with
   |zero=>intro cs es rest h;simp only[v0a,Option.some.injEq,Prod.mk.injEq]at h;obtain⟨rfl,rfl⟩:=h;exact .nil
   |succ k ih=>
    intro cs es rest h
    simp only[v0a]at h
    split at h
    ·rename_i a r1 h1
     split at h
     ·rename_i b r2 h2
      cases h
      exact(y0z h1).append (ih _ _ _ h2)
     ·cases h
    ·cases h
  simp only[group]at h
  split at h
  ·exact fs_ok _ _ _ _ h
  ·split at h
   ·rename_i k e hu t ht
    split at h
    ·rename_i r1 h1
     cases h
     obtain⟨pre,e1,e2,e3⟩:=m0q (σ:=σ) h1
     refine⟨pre,e1,⟨fun q x hx hn=> ?_,fun q t' n' l hx=> ?_⟩,?_⟩
     ·simp only[offs,List.mem_singleton,Prod.mk.injEq]at hx
      obtain⟨rfl,rfl⟩:=hx
      simp[SV.isArr]at hn
     ·simp only[offs,List.mem_singleton,Prod.mk.injEq]at hx
      obtain⟨rfl,hx⟩:=hx
      cases hx
      exact e3
     ·simp only[esW,SV.w,Nat.add_zero,e2,Ty.width]
    ·cases h
   ·exact rep_ok _ _ _ _ _ h
  ·split at h
   ·split at h
    ·rename_i c r1 _ v hv
     cases h
     obtain⟨h1,h2⟩:=z0s (r:=r) (σ:=σ) hv
     exact⟨[c],rfl,.single h2 rfl h1,by rw[esW,esW,o0s h2];rfl⟩
    ·cases h
   ·cases h
  ·cases h
theorem m1u {T:TypeId}{es:List SV}(h:d1v P T=some es): ∃i z,P.info? T=some i∧i.zero=some z∧esW es=z.cells.size∧ERel r σ es (fun k=>z.cells[k]?) 0:=by
 unfold d1v at h
 split at h
 ·rename_i i hi
  split at h
  ·rename_i z hz
   split at h
   ·rename_i es' hg
    cases h
    obtain⟨pre,e1,e2,e3⟩:=y0z (r:=r) (σ:=σ) hg
    simp only[List.append_nil]at e1
    subst e1
    exact⟨i,z,hi,hz,by simpa using e3,by simpa using e2⟩
   ·cases h
  ·cases h
 ·cases h
theorem m2i {T:TypeId}{c:Array Value}{x:SV}(h:litAgg P T c=some x):VRel r σ x (.agg c):=by
 unfold litAgg at h
 split at h
 ·rename_i es hg
  cases h
  obtain⟨pre,e1,e2,e3⟩:=y0z (r:=r) (σ:=σ) hg
  simp only[List.append_nil]at e1
  subst e1
  have:=VRel.agg_mk (q:=0) (c:=c) (by simpa using e2) rfl (by right;rw[e3];simp)
  rw[e3]at this
  simpa using this
 ·cases h
theorem w1c {T:TypeId}{v:Value}{x:SV}(h:litOf P T v=some x):VRel r σ x v:=by
 unfold litOf at h
 split at h
 ·exact m2i h
 ·exact(z0s h).1
def Goes (P:Program)(r:RM)(σ:Snap)(s:SW)(w:World)(m:Sem Value)(v:SV)(s1:SW):Prop:=
 ∃r' σ' w' v',r.le r'∧σ.le σ'∧Rel r' σ' s1 w'∧Frame s.len s1.log r r' σ σ' w w'∧m.run P w=.ok v' w'∧VRel r' σ' v v'∧(∀x,x∈s.log→x∈s1.log)∧s.len≤s1.len
theorem Goes.same {m:Sem Value}{v:SV}{v':Value}(hr:Rel r σ s w)(h:VRel r σ v v')(hm:m.run P w=.ok v' w):Goes P r σ s w m v s:=
 ⟨r,σ,w,v',RM.le_refl _,Snap.le_refl _,hr,Frame.refl _ _ _ _ _,hm,h,fun _ h=>h,Nat.le_refl _⟩
theorem g2a (hr:Rel r σ s w){T:TypeId}{v:SV}{s1:SW}(h:u0y P T s=some (v,s1)):Goes P r σ s w (Instr.alloc T true (.tuple #[])) v s1:=by
 unfold u0y at h
 split at h
 ·rename_i es hz
  cases h
  obtain⟨i,z,hi,hz',hw,he⟩:=m1u (r:=r) (σ:=σ) hz
  obtain⟨k1,k2,k3⟩:=hr.newCells (c:=z.cells) T hw he
  refine⟨_,σ,_,.pointer (some ⟨w.heap.size,0+0,none⟩),k2,Snap.le_refl _,k1,k3,?_,.ptr _ 0 _ _ ?_,fun _ h=>h,by rw[SW.len_push];omega⟩
  ·simp[Instr.alloc,zeroValue,typeInfo,hi,hz',newVar,newRow]
  ·simp[RM.setCel]
 ·cases h
theorem s2h (hr:Rel r σ s w){x:SV}{x':Value}(hx:VRel r σ x x'){v:SV}{s1:SW}(h:h2p x s=some (v,s1))(T:TypeId):Goes P r σ s w (Instr.box T x') v s1:=by
 unfold h2p at h
 split at h
 ·rename_i hst
  cases h
  obtain⟨e1,e2,e3⟩:=p0z hx hst
  obtain⟨k1,k2,k3⟩:=hr.newCells (c:=x'.cells) T e2 e1
  refine⟨_,σ,_,.pointer (some ⟨w.heap.size,0+0,none⟩),k2,Snap.le_refl _,k1,k3,?_,.ptr _ 0 _ _ ?_,fun _ h=>h,by rw[SW.len_push];omega⟩
  ·simp[Instr.box,newVar,newRow]
  ·simp[RM.setCel]
 ·cases h
theorem h0e {i:Int}{n:Nat}(h:inR i n=true):0≤i∧i<n∧i.toNat<n:=by
 simp only[inR,Bool.and_eq_true,decide_eq_true_eq]at h;omega
theorem e0y {T e:TypeId}{n:Nat}(hu:P.underlying T=some (.slice e))(hn:szOf P e=some n){k:IntKind}{i:Int}{j o len cap:Nat}(hi:0≤i∧i<len)(w:World):
  (Instr.indexAt T (.slice (some ⟨j,o,none⟩) len cap) (.int k i)).run P w=.ok (.pointer (some ⟨j,o+i.toNat*n,none⟩)) w:=by
 simp[Instr.indexAt,asIntOf,run_underlying hu,b0z hn,hi.1,hi.2,b0o]
theorem e0c {T e:TypeId}{n m:Nat}(hu:P.underlying T=some (.array n e))(hn:szOf P e=some m){k:IntKind}{i:Int}{j o:Nat}(hi:0≤i∧i<n)(w:World):
  (Instr.indexAt T (.pointer (some ⟨j,o,none⟩)) (.int k i)).run P w=.ok (.pointer (some ⟨j,o+i.toNat*m,none⟩)) w:=by
 simp[Instr.indexAt,asIntOf,run_underlying hu,b0z hn,Instr.sureAddr,hi.1,hi.2,b0o]
theorem i0q {α:Type}{i:Int}{f:Nat→Tree α}: ∀{n k:Nat} {a:α},(x0z i n k f).sel=some a→ ∃q,k≤q∧q<k+n∧i=(q:Int)∧(f q).sel=some a
 |0,k,a,h=>by simp[x0z,Tree.sel]at h
 |n+1,k,a,h=>by
  simp only[x0z,Tree.sel]at h
  cases hc:decide (i=(k:Int))with
  |true=>rw[hc]at h;exact⟨k,Nat.le_refl _,by omega,of_decide_eq_true hc,h⟩
  |false=>
   rw[hc]at h
   obtain⟨q,h1,h2,h3,h4⟩:=i0q (n:=n) h
   exact⟨q,by omega,by omega,h3,h4⟩
theorem l2l {t:Ty}{d:t.den}{j base:Nat}{c:Array Value}(hj:σ j=some c)(h:RD σ t (fun k=>c[k]?) base d):VRel r σ (.iptr (d0l t d) 0) (.pointer (some ⟨j,base,none⟩)):=by
 have he:ERel r σ (d0l t d) (fun k=>c[k]?) base:=c0x t h
 refine .iptr _ 0 base j c hj (fun k hk=> ?_) (fun k e hk hn v hv=> ?_) he.arr
 ·rw[l0k]at hk
  obtain⟨v,hv,_⟩:=g1o h k hk
  exact(Array.getElem?_eq_some_iff.1 hv).1
 ·obtain⟨v0,h1,h2⟩:=he.one k e hk hn
  rw[h1]at hv;cases hv;exact h2
theorem e1f (hr:Rel r σ s w){x i:SV}{x' i':Value}(hx:VRel r σ x x')(hi:VRel r σ i i'){T:TypeId}{v:SV}(h:(g0t P T x i s).sel=some v):
  ∃v',VRel r σ v v'∧(Instr.indexAt T x' i').run P w=.ok v' w:=by
 unfold g0t at h
 split at h
 ·rename_i k i
  cases hi
  split at h
  ·rename_i e hu
   split at h
   ·rename_i t l
    split at h
    ·rename_i n hn
     split at h
     ·rename_i hw
      obtain rfl:=a0n hw
      obtain⟨h1,h2⟩:=Tree.guard_some h
      cases h2
      obtain⟨k1,k2,k3⟩:=h0e h1
      cases hx with
      |imm _ _ _ hl=>
       rw[x0x]at hl
       obtain⟨a,len,cap,q1,q2,q3,q4⟩:=hl
       cases q1
       obtain⟨p,c,u1,u2,u3,u4⟩:=q4 _ k3
       subst u1;subst q2
       obtain⟨pb,po,ps⟩:=p
       simp only at u2;subst u2
       refine⟨_,?_,e0y hu hn ⟨k1,k2⟩ w⟩
       rw[g0s k3]
       exact l2l u3 u4
     ·cases h
    ·cases h
   ·rename_i b g
    split at h
    ·rename_i d n hd hn
     split at h
     ·rename_i hw
      obtain rfl:=a0n hw
      obtain⟨h1,h2⟩:=Tree.guard_some h
      cases h2
      obtain⟨k1,k2,k3⟩:=h0e h1
      have hxx:=hx
      obtain⟨a,cap,e1,e2,e3⟩:=c1k hr hx hd
      cases hx with
      |own _ _ x hx=>
       simp only[Value.slice.injEq]at e1
       obtain⟨ea,hL,_⟩:=e1
       subst ea
       obtain⟨j,o,c,T',f,q1,q2,q3⟩:=e3 _ k3
       have hxa:x.a=some (j,o):=by
        unfold ALoc.addr at q1
        split at q1
        ·cases q1;assumption
        ·cases q1
       have hwd:x.wd=d.t.width:=by
        simp only[b0c]at hd
        split at hd
        ·rename_i t g' l hb
         split at hd
         ·rename_i hg;obtain rfl:=a0n hg;cases hd;exact(hr.arr _ _ _ _ _ hb hx).wd
         ·cases hd
        ·rename_i t g' l hb
         split at hd
         ·rename_i hg;obtain rfl:=a0n hg;cases hd;exact(hr.frz _ _ _ _ _ hb hx).1
         ·cases hd
        ·cases hd
       refine⟨.pointer (some ⟨j,o+i.toNat*d.t.width,none⟩),?_,?_⟩
       ·have:=VRel.eptr (r:=r) (σ:=σ) b g i.toNat 0 x j o hx (by omega) hxa
        rw[hwd]at this
        exact this
       ·rw[q1];exact e0y hu hn ⟨k1,by omega⟩ w
     ·cases h
    ·cases h
   ·rename_i b g lo n
    split at h
    ·rename_i d m hd hn
     split at h
     ·rename_i hw
      obtain rfl:=a0n hw
      obtain⟨h1,h2⟩:=Tree.guard_some h
      cases h2
      obtain⟨k1,k2,k3⟩:=h0e h1
      cases hx with
      |part _ _ _ _ x a cap hx p1 p2 p3 p4 p5=>
       obtain⟨j,o,q1,q2⟩:=p4 (by omega)
       subst q2
       have hwd:x.wd=d.t.width:=by
        simp only[b0c]at hd
        split at hd
        ·rename_i t g' l hb
         split at hd
         ·rename_i hg;obtain rfl:=a0n hg;cases hd;exact(hr.arr _ _ _ _ _ hb hx).wd
         ·cases hd
        ·rename_i t g' l hb
         split at hd
         ·rename_i hg;obtain rfl:=a0n hg;cases hd;exact(hr.frz _ _ _ _ _ hb hx).1
         ·cases hd
        ·cases hd
       refine⟨_,?_,e0y hu hn ⟨k1,k2⟩ w⟩
       have:=VRel.eptr (r:=r) (σ:=σ) b g (lo+i.toNat) 0 x j o hx (by omega) q1
       rw[hwd,Nat.add_mul,←Nat.add_assoc]at this
       rw[hwd]
       exact this
     ·cases h
    ·cases h
   ·rename_i b o n
    split at h
    ·rename_i m hn
     obtain⟨h1,h2⟩:=Tree.guard_some h
     cases h2
     obtain⟨k1,k2,k3⟩:=h0e h1
     cases hx with
     |asl _ _ _ j p hj=>
      refine⟨_,?_,e0y hu hn ⟨k1,k2⟩ w⟩
      have:=VRel.aptr (r:=r) (σ:=σ) b o m n i.toNat 0 j p hj k3
      rw[show p+(o+i.toNat*m+0)=p+o+i.toNat*m by omega]at this
      exact this
    ·cases h
   ·cases h
  ·rename_i n e hu
   split at h
   ·rename_i m hn
    split at h
    ·rename_i b o
     split at h
     ·rename_i es q hpl
      have hq:q=o:=by
       simp only[place]at hpl
       split at hpl
       ·cases hpl;rfl
       ·cases hpl
      subst hq
      split at h
      ·rename_i t n' l he
       split at h
       ·rename_i hw
        simp only[Bool.and_eq_true]at hw
        obtain rfl:=a0n hw.1
        obtain rfl:=a0n hw.2
        obtain⟨h1,h2⟩:=Tree.guard_some h
        cases h2
        obtain⟨k1,k2,k3⟩:=h0e h1
        cases hx with
        |ptr _ _ j m0 hc=>
         refine⟨_,?_,e0c hu hn ⟨k1,k2⟩ w⟩
         have:=VRel.aptr (r:=r) (σ:=σ) b q t.width n i.toNat 0 j m0 hc k3
         rw[Nat.add_zero,←Nat.add_assoc]at this
         exact this
       ·cases h
      ·obtain⟨q',p1,p2,p3,p4⟩:=i0q h
       cases p4
       cases hx with
       |ptr _ _ j m0 hc=>
        refine⟨_,?_,e0c hu hn (by omega) w⟩
        have:=VRel.ptr (r:=r) (σ:=σ) b (q+q'*m) j m0 hc
        rw[←Nat.add_assoc]at this
        rw[p3]
        exact this
      ·cases h
     ·cases h
    ·rename_i es o
     split at h
     ·rename_i t n' l he
      split at h
      ·rename_i hw
       simp only[Bool.and_eq_true]at hw
       obtain rfl:=a0n hw.1
       obtain rfl:=a0n hw.2
       obtain⟨h1,h2⟩:=Tree.guard_some h
       cases h2
       obtain⟨k1,k2,k3⟩:=h0e h1
       cases hx with
       |iptr _ _ base j c hj hb hs ha=>
        refine⟨_,?_,e0c hu hn ⟨k1,k2⟩ w⟩
        have h5:=ha _ _ _ _ (v0p he)
        rw[p0f]at h5
        have hil:i.toNat<l.length:=by rw[h5.1];exact k3
        rw[g0s hil]
        exact l2l hj (h5.2 _ hil)
      ·cases h
     ·obtain⟨q',p1,p2,p3,p4⟩:=i0q h
      cases p4
      cases hx with
      |iptr _ _ base j c hj hb hs ha=>
       refine⟨_,?_,e0c hu hn (by omega) w⟩
       have:=VRel.iptr (r:=r) (σ:=σ) es (o+q'*m) base j c hj hb hs ha
       rw[←Nat.add_assoc]at this
       rw[p3]
       exact this
     ·cases h
    ·cases h
   ·cases h
  ·cases h
 ·cases h
theorem g1w {s:ByteArray}{i:Nat}(h:i<s.size):s[i]? =some (s.data.toList.getD i 0):=by
 rw[getElem?_pos s i h]
 congr 1
 show s.data[i]=_
 rw[g0s (by simpa using h)]
 simp
theorem c2k {x i:SV}{x' i':Value}(hx:VRel r σ x x')(hi:VRel r σ i i'){T:TypeId}{v:SV}(h:(v0u P T x i).sel=some v)(w:World):
  ∃v',VRel r σ v v'∧(Instr.index T x' i').run P w=.ok v' w:=by
 unfold v0u at h
 split at h
 ·rename_i k i
  cases hi
  split at h
  ·rename_i t hu
   obtain⟨h1,h2⟩:=Tree.guard_some h
   cases h2
   obtain⟨k1,k2,k3⟩:=h0e h1
   cases hx
   refine⟨_,.int _ _,?_⟩
   simp[Instr.index,asIntOf,run_underlying hu,k1,g1w k3,x3e]
  ·rename_i n e es hu
   obtain⟨c,rfl,hc,he⟩:=hx.agg_of
   split at h
   ·rename_i m a hn ha
    have run: ∀{x:List SV} {v:SV},0≤i∧i<n→ERel r σ x (fun k=>c[k]?) (i.toNat*m)→esW x=m→(m=0∨i.toNat*m+m≤c.size)→d0n a x=some v→ ∃v',VRel r σ v v'∧(Instr.index T (.agg c) (.int k i)).run P w=.ok v' w:=by
     intro x v hi hx hm hb hs
     obtain⟨v',q1,q2⟩:=k1l (T:=e) hx hm hb hs ha hn w
     refine⟨v',q1,?_⟩
     simp[Instr.index,asIntOf,run_underlying hu,hi.1,hi.2,b0z hn,q2]
    split at h
    ·rename_i t n' l
     split at h
     ·rename_i hw
      simp only[Bool.and_eq_true]at hw
      obtain rfl:=a0n hw.1
      obtain rfl:=a0n hw.2
      obtain⟨h1,h2⟩:=Tree.guard_some h
      have h2:=Tree.ofOpt_some h2
      obtain⟨k1,k2,k3⟩:=h0e h1
      have h5:=he.arr 0 t n l (by simp[offs])
      rw[p0f]at h5
      have hil:i.toNat<l.length:=by rw[h5.1];exact k3
      rw[g0s hil]at h2
      refine run ⟨k1,k2⟩ ?_ (l0k _ _) ?_ h2
      ·have:=c0x (r:=r) t (h5.2 _ hil)
       simpa using this
      ·right
       simp only[esW,SV.w,Nat.add_zero]at hc
       rw[←hc]
       have:(i.toNat+1)*t.width≤n*t.width:=Nat.mul_le_mul_right _ k3
       rw[Nat.add_mul]at this;omega
     ·cases h
    ·obtain⟨q',p1,p2,p3,p4⟩:=i0q h
     have p4:=Tree.ofOpt_some p4
     split at p4
     ·rename_i y hy
      obtain⟨e1,e2,e3,h1,h2⟩:=e0u hy
      have hq:i.toNat=q':=by omega
      rw[e3]at he hc
      simp only[a0t]at hc
      refine run (by omega) ?_ h2 ?_ p4
      ·have:=he.sub
       rw[Nat.zero_add,h1]at this
       rw[hq];exact this
      ·right;rw[hq];omega
     ·cases p4
   ·cases h
  ·cases h
 ·cases h
end
end Go.Proofs.Ytoehlcomhpnjgaa.Vx
