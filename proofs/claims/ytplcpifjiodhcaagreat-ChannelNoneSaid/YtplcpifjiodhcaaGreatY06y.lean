import Derived.Test.YtplcpifjiodhcaaGreatVxIm
import Derived.Lib.TrimUEq
import Derived.Test.YtplcpifjiodhcaaGreatVxBits
import Derived.Test.YtplcpifjiodhcaaGreatVxMap
import Derived.Test.YtplcpifjiodhcaaGreatVxAid
import Derived.Test.YtplcpifjiodhcaaGreatX06m
import Derived.Test.YtplcpifjiodhcaaGreatX06n
namespace Go.Proofs.YtplcpifjiodhcaaGreat.Vx
open Go Go.RowKit
set_option linter.unusedVariables false
set_option linter.unusedSimpArgs false
abbrev Bs:=List UInt8
def By (s:ByteArray):Bs:=s.data.toList
theorem z1b (s:ByteArray):(By s).length=s.size:=by unfold By;rw[Array.length_toList];rfl
theorem t1p (s:ByteArray)(p:Nat):decC s (p:Int)=((Lib.decodeL ((By s).drop p)).1:Int):=by
 unfold By;rw[Lib.decodeL_drop];rfl
theorem decW_L (s:ByteArray)(p:Nat):decW s (p:Int)=((Lib.decodeL ((By s).drop p)).2:Int):=by
 unfold By;rw[Lib.decodeL_drop];rfl
theorem dl_lo (b:UInt8)(r:Bs)(h:b.toNat<128):Lib.decodeL (b::r)=(b.toNat,1):=by
 rw[Lib.decodeL_N];unfold Lib.decodeN
 rw[if_pos (by simpa using h)];simp
theorem dn_hi (n b0 b1 b2 b3:Nat)(h:128≤b0)(hn:1≤n):128≤(Lib.decodeN n b0 b1 b2 b3).1∧1≤(Lib.decodeN n b0 b1 b2 b3).2∧(Lib.decodeN n b0 b1 b2 b3).2≤n∧
  (1<(Lib.decodeN n b0 b1 b2 b3).2→b1/64=2)∧(2<(Lib.decodeN n b0 b1 b2 b3).2→b2/64=2)∧(3<(Lib.decodeN n b0 b1 b2 b3).2→b3/64=2)∧(Lib.decodeN n b0 b1 b2 b3).2≤4:=by
 unfold Lib.decodeN
 repeat' split
 all_goals simp only
 all_goals omega
theorem dl_hi (b:UInt8)(r:Bs)(h:128≤b.toNat):128≤(Lib.decodeL (b::r)).1∧1≤(Lib.decodeL (b::r)).2∧(Lib.decodeL (b::r)).2≤(b::r).length∧
  ∀x∈(b::r).take (Lib.decodeL (b::r)).2,128≤x.toNat:=by
 obtain⟨h1,h2,h3,h4,h5,h6,h7⟩:=dn_hi (b::r).length ((b::r).getD 0 0).toNat ((b::r).getD 1 0).toNat ((b::r).getD 2 0).toNat ((b::r).getD 3 0).toNat (by simpa using h) (by simp)
 rw[←Lib.decodeL_N]at h1 h2 h3 h4 h5 h6 h7
 refine⟨h1,h2,h3,fun x hx=> ?_⟩
 obtain⟨k,hk,e⟩:=List.getElem_of_mem hx
 rw[List.length_take]at hk
 rw[List.getElem_take]at e
 have e':(b::r).getD k 0=x:=by rw[List.getD_eq_getElem?_getD,List.getElem?_eq_getElem (by omega)];exact e
 rw[←e']
 match k,hk with
 |0,_=>simpa using h
 |1,hk=>have:=h4 (by omega);omega
 |2,hk=>have:=h5 (by omega);omega
 |3,hk=>have:=h6 (by omega);omega
 |k+4,hk=>omega
theorem dl_x {x:Nat}(hx:x<128)(l:Bs)(hl:l≠[]):1≤(Lib.decodeL l).2∧(Lib.decodeL l).2≤l.length∧((Lib.decodeL l).1=x→(Lib.decodeL l).2=1∧(l.getD 0 0).toNat=x)∧
  ((Lib.decodeL l).1≠x→ ∀b∈l.take (Lib.decodeL l).2,b.toNat≠x):=by
 cases l with
 |nil=>exact absurd rfl hl
 |cons b r=>
  rcases Nat.lt_or_ge b.toNat 128 with h|h
  ·rw[dl_lo b r h]
   refine⟨Nat.le_refl _,by simp,fun e=>⟨rfl,by simpa using e⟩,fun e y hy=> ?_⟩
   simp at hy;subst hy;exact e
  ·obtain⟨h1,h2,h3,h4⟩:=dl_hi b r h
   exact⟨h2,h3,fun e=>by omega,fun _ y hy=>by have:=h4 y hy;omega⟩
end Go.Proofs.YtplcpifjiodhcaaGreat.Vx
namespace Go.Proofs.YtplcpifjiodhcaaGreat.Vx
open Go Go.RowKit
set_option linter.unusedVariables false
set_option linter.unusedSimpArgs false
def sgn (c:Int):Bool:=decide (c>32)&&(decide (c<127)||decide (c>160))&& !(decide (c=58)||decide (c=35)||decide (c=43)||decide (c=45)||decide (c=65533))
def rcn:Nat→Bs→Option Nat
 |0,_=>some 0
 |f+1,l=>if l=[]then some 0 else if sgn ((Lib.decodeL l).1:Int)=true then(rcn f (l.drop (Lib.decodeL l).2)).map (· +1)else none
end Go.Proofs.YtplcpifjiodhcaaGreat.Vx
namespace Go.Proofs.YtplcpifjiodhcaaGreat.Vx
open Go Go.RowKit
set_option linter.unusedVariables false
def b0i (hit:Nat→Bool):Nat→Option Nat
 |0=>none
 |m+1=>match b0i hit m with
  |some i=>some i
  |none=>match hit m with
   |true=>some m
   |false=>none
theorem b0r {hit:Nat→Bool}: ∀{m:Nat},b0i hit m=none→ ∀i,i<m→hit i=false
 |0,_,i,hi=>by omega
 |m+1,h,i,hi=>by
  unfold b0i at h
  split at h
  ·cases h
  ·rename_i h0
   split at h
   ·cases h
   ·rename_i h1
    rcases Nat.lt_or_ge i m with q|q
    ·exact b0r h0 i q
    ·have:i=m:=by omega
     subst this;exact h1
theorem b0x {hit:Nat→Bool}: ∀{m k:Nat},b0i hit m=some k→k<m∧hit k=true∧ ∀i,i<k→hit i=false
 |0,k,h=>by cases h
 |m+1,k,h=>by
  unfold b0i at h
  split at h
  ·rename_i i h0
   cases h
   obtain⟨h1,h2,h3⟩:=b0x h0
   exact⟨by omega,h2,h3⟩
  ·rename_i h0
   split at h
   ·rename_i h1
    cases h
    exact⟨by omega,h1,b0r h0⟩
   ·cases h
theorem f0f {st:List Dat→Tree Step}(s:Nat→List Dat)(m:Nat)(hit:Nat→Bool)(y:Nat→Nat×List Dat)(y0:Nat×List Dat)
  (go: ∀i,i<m→hit i=false→(st (s i)).sel=some (.go (s (i+1)))) (found: ∀i,i<m→hit i=true→(st (s i)).sel=some (.stop (y i).1 (y i).2)) (stop:(st (s m)).sel=some (.stop y0.1 y0.2)):
  ∀fuel,m<fuel→a0b st fuel (s 0)=some (match b0i hit m with|some k=>y k|none=>y0):=by
 have key: ∀d i fuel,d+i≤m→d<fuel→(∀j,i≤j→j<i+d→hit j=false)→a0b st fuel (s i)=a0b st (fuel-d) (s (i+d)):=by
  intro d
  induction d with
  |zero=>intro i fuel _ _ _;rfl
  |succ d ih=>
   intro i fuel hi hf hh
   obtain⟨f,rfl⟩: ∃f,fuel=f+1:=⟨fuel-1,by omega⟩
   rw[v0e (go i (by omega) (hh i (Nat.le_refl _) (by omega))),ih (i+1) f (by omega) (by omega) (fun j h1 h2=>hh j (by omega) (by omega))]
   rw[show f+1-(d+1)=f-d by omega,show i+1+d=i+(d+1) by omega]
 intro fuel hf
 cases hq:b0i hit m with
 |some k=>
  obtain⟨h1,h2,h3⟩:=b0x hq
  have:=key k 0 fuel (by omega) (by omega) (fun j _ hj=>h3 j (by omega))
  rw[this,Nat.zero_add]
  obtain⟨f,hf'⟩: ∃f,fuel-k=f+1:=⟨fuel-k-1,by omega⟩
  rw[hf']
  exact c0a (found k h1 h2)
 |none=>
  have:=key m 0 fuel (by omega) (by omega) (fun j _ hj=>b0r hq j (by omega))
  rw[this,Nat.zero_add]
  obtain⟨f,hf'⟩: ∃f,fuel-m=f+1:=⟨fuel-m-1,by omega⟩
  rw[hf']
  exact c0a stop
end Go.Proofs.YtplcpifjiodhcaaGreat.Vx
namespace Go.Proofs.YtplcpifjiodhcaaGreat.Vx
open Go Go.RowKit
set_option linter.unusedVariables false
set_option linter.unusedSimpArgs false
abbrev KV:=Ty.den (.pair .str (.int .i64))
def kv (n:ByteArray)(v:Int):KV:=(n,v)
def ones (l:List ByteArray):List KV:=l.map fun n=>kv n 1
theorem g0d (a b:ByteArray):f0b a b=true↔a=b:=by
 unfold f0b
 rw[decide_eq_true_eq]
 constructor
 ·intro h
  cases a;cases b
  exact congrArg ByteArray.mk (Array.toList_inj.1 h)
 ·intro h;rw[h]
theorem k0i (l:List ByteArray):(ones l).length=l.length:=List.length_map _
theorem l2e (l:List ByteArray)(n:ByteArray):ones (l++[n])=ones l++[(kv n 1)]:=by unfold ones;rw[List.map_append];rfl
theorem p1x: ∀{l:List KV} {n:ByteArray},(∀e∈l,e.1≠n)→c0w .str (.int .i64) n l=l.length
 |[],_,_=>rfl
 |e::l,n,h=>by
  have h1:f0b n e.1=false:=by
   rw[Bool.eq_false_iff];intro c
   exact h e (List.mem_cons_self ..) ((g0d _ _).1 c).symm
  show(bif f0b n e.1 then 0 else c0w .str (.int .i64) n l+1)=l.length+1
  rw[h1,p1x fun x hx=>h x (List.mem_cons_of_mem _ hx)]
  rfl
theorem k1s: ∀{l:List KV} {n:ByteArray} {v:Int} {r:List KV},(∀e∈l,e.1≠n)→c0w .str (.int .i64) n (l++(kv n v)::r)=l.length
 |[],n,v,r,_=>by
  show(bif f0b n n then 0 else c0w .str (.int .i64) n r+1)=0
  rw[(g0d n n).2 rfl];rfl
 |e::l,n,v,r,h=>by
  have h1:f0b n e.1=false:=by
   rw[Bool.eq_false_iff];intro c
   exact h e (List.mem_cons_self ..) ((g0d _ _).1 c).symm
  show(bif f0b n e.1 then 0 else c0w .str (.int .i64) n (l++(kv n v)::r)+1)=l.length+1
  rw[h1,k1s fun x hx=>h x (List.mem_cons_of_mem _ hx)]
  rfl
theorem s1e {l:List ByteArray}{n:ByteArray}(h:n∉l): ∀e∈ones l,e.1≠n:=by
 intro e he
 obtain⟨m,hm,rfl⟩:=List.mem_map.1 he
 intro c
 exact h (by rw[←(show m=n from c)];exact hm)
theorem v0q: ∀{l:List ByteArray} {n:ByteArray},n∈l→ ∃a b,l=a++n::b∧n∉a
 |m::l,n,h=>by
  by_cases c:m=n
  ·exact⟨[],l,by rw[c];rfl,fun x=>by cases x⟩
  ·have h2:n∈l:=by
    rcases List.mem_cons.1 h with e|e
    ·exact absurd e.symm c
    ·exact e
   obtain⟨a,b,e,na⟩:=v0q h2
   refine⟨m::a,b,by rw[e];rfl,fun x=> ?_⟩
   rcases List.mem_cons.1 x with y|y
   ·exact c y.symm
   ·exact na y
theorem s1f (a b:List ByteArray)(n:ByteArray):ones (a++n::b)=ones a++(kv n 1)::ones b:=by unfold ones;rw[List.map_append];rfl
theorem w1t {l:List ByteArray}{n:ByteArray}(h:n∉l):c0w .str (.int .i64) n (ones l)=l.length:=(p1x (s1e h)).trans (k0i l)
theorem new_has {l:List ByteArray}{n:ByteArray}(h:n∉l):mhas .str (.int .i64) n (ones l)=false:=by
 unfold mhas;rw[w1t h,k0i];simp
theorem new_get {l:List ByteArray}{n:ByteArray}(h:n∉l):mget .str (.int .i64) n (ones l)=(0:Int):=by
 unfold mget;rw[w1t h,List.getD_eq_getElem?_getD,List.getElem?_eq_none (by rw[k0i];exact Nat.le_refl _)];rfl
theorem h1e {a b:List ByteArray}{n:ByteArray}(h:n∉a):c0w .str (.int .i64) n (ones (a++n::b))=a.length:=by
 rw[s1f];exact(k1s (s1e h)).trans (k0i a)
theorem old_has {a b:List ByteArray}{n:ByteArray}(h:n∉a):mhas .str (.int .i64) n (ones (a++n::b))=true:=by
 unfold mhas;rw[h1e h,k0i,List.length_append,List.length_cons];exact dt (by omega)
theorem m2c {a b:List ByteArray}{n:ByteArray}(h:n∉a):mget .str (.int .i64) n (ones (a++n::b))=(1:Int):=by
 unfold mget;rw[h1e h,s1f,List.getD_eq_getElem?_getD,←k0i a,List.getElem?_append_right (Nat.le_refl _),Nat.sub_self];rfl
theorem u2c {a b:List ByteArray}{n:ByteArray}(v:Int)(h:n∉a):mget .str (.int .i64) n (ones a++(kv n v)::ones b)=v:=by
 unfold mget;rw[k1s (s1e h),List.getD_eq_getElem?_getD,List.getElem?_append_right (Nat.le_refl _),Nat.sub_self];rfl
theorem new_put {l:List ByteArray}{n:ByteArray}(h:n∉l):mput .str (.int .i64) n (1:Int) (ones l)=ones (l++[n]):=by
 unfold mput;rw[new_has h,l2e];rfl
theorem new_got {l:List ByteArray}{n:ByteArray}(h:n∉l):mget .str (.int .i64) n (ones (l++[n]))=(1:Int):=m2c (b:=[]) h
theorem old_put {a b:List ByteArray}{n:ByteArray}(v:Int)(h:n∉a):mput .str (.int .i64) n v (ones (a++n::b))=ones a++(kv n v)::ones b:=by
 unfold mput;rw[old_has h,h1e h,s1f,←k0i a,cond_true,List.set_append_right _ _ (Nat.le_refl _),Nat.sub_self];rfl
end Go.Proofs.YtplcpifjiodhcaaGreat.Vx
namespace Go.Proofs.YtplcpifjiodhcaaGreat.Vx
open Go Go.RowKit
set_option linter.unusedVariables false
set_option linter.unusedSimpArgs false
set_option maxRecDepth 100000
set_option maxHeartbeats 1000000
theorem w1n (i:Nat)(h:i<9223372036854775807):IntKind.wrap .i64 ((i:Int)+1)=((i+1:Nat):Int):=by rw[w64 (by omega) (by omega)];rfl
theorem oSign (n:Int):j2c [.n n]=some (0,[.b (sgn n)]):=by
 rw[v1v]
 refine c2x _ _ ?_
 unfold l2c
 by_cases h1:n=58
 ·exact a0a (bt h1) (by subst h1;rfl)
 refine a0c (bf h1) ?_
 by_cases h2:n=35
 ·exact a0a (bt h2) (by subst h2;rfl)
 refine a0c (bf h2) ?_
 by_cases h3:n=43
 ·exact a0a (bt h3) (by subst h3;rfl)
 refine a0c (bf h3) ?_
 by_cases h4:n=45
 ·exact a0a (bt h4) (by subst h4;rfl)
 refine a0c (bf h4) ?_
 by_cases h5:n=65533
 ·exact a0a (bt h5) (by subst h5;rfl)
 refine a0c (bf h5) ?_
 have e:sgn n=(decide (n>32)&&(decide (n<127)||decide (n>160))):=by
  unfold sgn;rw[df h1,df h2,df h3,df h4,df h5];simp
 by_cases h6:n>32
 ·refine a0a (dt h6) ?_
  by_cases h7:n<127
  ·exact a0a (dt h7) (by rw[e,dt h6,dt h7];rfl)
  ·exact a0c (df h7) (by rw[e,dt h6,df h7];rfl)
 ·exact a0c (df h6) (by rw[e,df h6];rfl)
theorem nb {a b:Int}(h:a≠b):(a !=b)=true:=by simpa using h
theorem nbf {a b:Int}(h:a=b):(a !=b)=false:=by subst h;simp
theorem oSignR (n:Int):k2y [.n n]=some (0,[.b (sgn n)]):=by
 rw[w1i]
 refine f2u _ _ ?_
 unfold o2q
 by_cases h0:n≥33
 ·refine a0a (dt h0) ?_
  by_cases h1:n=58
  ·exact a0c (nbf h1) (by subst h1;rfl)
  refine a0a (nb h1) ?_
  by_cases h2:n=35
  ·exact a0c (nbf h2) (by subst h2;rfl)
  refine a0a (nb h2) ?_
  by_cases h3:n=43
  ·exact a0c (nbf h3) (by subst h3;rfl)
  refine a0a (nb h3) ?_
  by_cases h4:n=45
  ·exact a0c (nbf h4) (by subst h4;rfl)
  refine a0a (nb h4) ?_
  by_cases h5:n=65533
  ·exact a0c (nbf h5) (by subst h5;rfl)
  refine a0a (nb h5) ?_
  have e:sgn n=(decide (n<127)||decide (n>160)):=by
   unfold sgn;rw[df h1,df h2,df h3,df h4,df h5,dt (show n>32 by omega)];simp
  by_cases h7:n<127
  ·exact a0a (dt h7) (by rw[e,dt h7];rfl)
  ·exact a0c (df h7) (by rw[e,df h7];rfl)
 ·exact a0c (df h0) (by unfold sgn;rw[df (show¬n>32 by omega)];rfl)
theorem q2c {l:Bs}{p:Nat}(h:p<l.length):l.drop p≠[]:=by
 intro e;have:=congrArg List.length e;simp at this;omega
theorem k0a {s:ByteArray}{p:Nat}:((p:Int)<(s.size:Int))↔p<(By s).length:=by rw[z1b];omega
def r13 (n:Nat):Option Nat→Nat×List Dat
 |some k=>if n+k≤16 then(0,[.n ((n+k:Nat):Int)])else(1,[.b false])
 |none=>(1,[.b false])
def r14 (n:Nat):Option Nat→Nat×List Dat
 |some k=>(0,[.n ((n+k:Nat):Int)])
 |none=>(1,[.b false])
theorem r13_up (n:Nat)(o:Option Nat):r13 (n+1) o=r13 n (o.map (· +1)):=by
 cases o with
 |none=>rfl
 |some k=>simp only[r13,Option.map_some];rw[show n+1+k=n+(k+1) by omega]
theorem r13_no {n:Nat}(h:16<n+1)(o:Option Nat):r13 n (o.map (· +1))=(1,[.b false]):=by
 cases o with
 |none=>rfl
 |some k=>simp only[r13,Option.map_some];rw[if_neg (by omega)]
theorem r14_up (n:Nat)(o:Option Nat):r14 (n+1) o=r14 n (o.map (· +1)):=by
 cases o with
 |none=>rfl
 |some k=>simp only[r14,Option.map_some];rw[show n+1+k=n+(k+1) by omega]
theorem rcn0 (l:Bs):rcn 0 l=some 0:=rfl
theorem lp13 (s:ByteArray)(hs:s.size≤9223372036854775807): ∀(f n p:Nat),n≤16→(By s).length≤p+f→a0b d0h (f+1) [.k 0,.s s,.n (n:Int),.s s,.n (p:Int)]=
  some (r13 n (rcn f ((By s).drop p)))
 |0,n,p,hn,hf=>by
  have:(d0h [.k 0,.s s,.n (n:Int),.s s,.n (p:Int)]).sel=some (.stop 0 [.n (n:Int)]):=by
   refine e0e _ _ _ _ ?_
   unfold f0t
   exact a0c (df (by rw[k0a];omega)) rfl
  rw[c0a this,rcn0,r13,if_pos (by omega)];rfl
 |f+1,n,p,hn,hf=>by
  by_cases hp:p<(By s).length
  ·have hne:=q2c hp
   obtain⟨k1,k2,k3,k4⟩:=dl_x (show 10<128 by omega) _ hne
   rw[rcn,if_neg hne]
   by_cases hb:n+1>16
   ·have:(d0h [.k 0,.s s,.n (n:Int),.s s,.n (p:Int)]).sel=some (.stop 1 [.b false]):=by
     refine e0e _ _ _ _ ?_
     unfold f0t
     exact a0a (dt (k0a.2 hp)) (a0a (dt (by rw[w1n _ (by omega)];omega)) rfl)
    rw[c0a this]
    split
    ·rw[r13_no (by omega)]
    ·rfl
   ·by_cases hc:sgn (decC s (p:Int))=true
    ·have:(d0h [.k 0,.s s,.n (n:Int),.s s,.n (p:Int)]).sel=some (.go [.k 0,.s s,.n ((n+1:Nat):Int),.s s,.n ((p+(Lib.decodeL ((By s).drop p)).2:Nat):Int)]):=by
      refine e0e _ _ _ _ ?_
      unfold f0t
      refine a0a (dt (k0a.2 hp)) (a0c (df (by rw[w1n _ (by omega)];omega)) ?_)
      dsimp only
      rw[oSign]
      refine a0a rfl (a0c (show(!(sgn (decC s (p:Int))))=false by rw[hc];rfl) ?_)
      rw[w1n _ (by omega),decW_L];rfl
     rw[v0e this,lp13 s hs f (n+1) (p+(Lib.decodeL ((By s).drop p)).2) (by omega) (by omega)]
     rw[←t1p,if_pos hc,List.drop_drop,r13_up]
    ·have hc:sgn (decC s (p:Int))=false:=by simpa using hc
     have:(d0h [.k 0,.s s,.n (n:Int),.s s,.n (p:Int)]).sel=some (.stop 1 [.b false]):=by
      refine e0e _ _ _ _ ?_
      unfold f0t
      refine a0a (dt (k0a.2 hp)) (a0c (df (by rw[w1n _ (by omega)];omega)) ?_)
      dsimp only
      rw[oSign]
      exact a0a rfl (a0a (show(!(sgn (decC s (p:Int))))=true by rw[hc];rfl) rfl)
     rw[c0a this,←t1p,hc];rfl
  ·have:(d0h [.k 0,.s s,.n (n:Int),.s s,.n (p:Int)]).sel=some (.stop 0 [.n (n:Int)]):=by
    refine e0e _ _ _ _ ?_
    unfold f0t
    exact a0c (df (by rw[k0a];exact hp)) rfl
   rw[c0a this,rcn,if_pos (List.drop_eq_nil_of_le (by omega)),r13,if_pos (by omega)];rfl
theorem lp14 (s:ByteArray)(hs:s.size≤9223372036854775807): ∀(f n p:Nat),n≤p→(By s).length≤p+f→a0b d0s (f+1) [.k 0,.s s,.n (n:Int),.s s,.n (p:Int)]=
  some (r14 n (rcn f ((By s).drop p)))
 |0,n,p,hn,hf=>by
  have:(d0s [.k 0,.s s,.n (n:Int),.s s,.n (p:Int)]).sel=some (.stop 0 [.n (n:Int)]):=by
   refine f0q _ _ _ _ ?_
   unfold j0a
   exact a0c (df (by rw[k0a];omega)) rfl
  rw[c0a this,rcn0];rfl
 |f+1,n,p,hn,hf=>by
  by_cases hp:p<(By s).length
  ·have hne:=q2c hp
   obtain⟨k1,k2,k3,k4⟩:=dl_x (show 10<128 by omega) _ hne
   have hpl:p<9223372036854775807:=by rw[z1b]at hp;omega
   rw[rcn,if_neg hne]
   by_cases hc:sgn (decC s (p:Int))=true
   ·have:(d0s [.k 0,.s s,.n (n:Int),.s s,.n (p:Int)]).sel=some (.go [.k 0,.s s,.n ((n+1:Nat):Int),.s s,.n ((p+(Lib.decodeL ((By s).drop p)).2:Nat):Int)]):=by
     refine f0q _ _ _ _ ?_
     unfold j0a
     refine a0a (dt (k0a.2 hp)) ?_
     dsimp only
     rw[oSignR]
     refine a0a rfl (a0c (show(!(sgn (decC s (p:Int))))=false by rw[hc];rfl) ?_)
     rw[w1n _ (by omega),decW_L];rfl
    rw[v0e this,lp14 s hs f (n+1) (p+(Lib.decodeL ((By s).drop p)).2) (by omega) (by omega)]
    rw[←t1p,if_pos hc,List.drop_drop,r14_up]
   ·have hc:sgn (decC s (p:Int))=false:=by simpa using hc
    have:(d0s [.k 0,.s s,.n (n:Int),.s s,.n (p:Int)]).sel=some (.stop 1 [.b false]):=by
     refine f0q _ _ _ _ ?_
     unfold j0a
     refine a0a (dt (k0a.2 hp)) ?_
     dsimp only
     rw[oSignR]
     exact a0a rfl (a0a (show(!(sgn (decC s (p:Int))))=true by rw[hc];rfl) rfl)
    rw[c0a this,←t1p,hc];rfl
  ·have:(d0s [.k 0,.s s,.n (n:Int),.s s,.n (p:Int)]).sel=some (.stop 0 [.n (n:Int)]):=by
    refine f0q _ _ _ _ ?_
    unfold j0a
    exact a0c (df (by rw[k0a];exact hp)) rfl
   rw[c0a this,rcn,if_pos (List.drop_eq_nil_of_le (by omega))];rfl
def isNm (s:ByteArray):Bool:=match rcn (FU-1) (By s)with
 |some k=>decide (k≤16)&&decide (0<k)
 |none=>false
theorem FU1:FU=(FU-1)+1:=by have:0<FU:=by unfold FU;omega
                            omega
theorem oRight (s:ByteArray)(hs:s.size≤9223372036854775807):j2u [.s s]=some (0,[.b (isNm s)]):=by
 have hl:y0l [.k 0,.s s,.n (0:Int),.s s,.n (0:Int)]=some (r13 0 (rcn (FU-1) (By s))):=by
  rw[a1z,FU1]
  have:=lp13 s hs (FU-1) 0 0 (by omega) (by rw[z1b];unfold FU;omega)
  rw[List.drop_zero]at this
  exact this
 rw[y1r]
 refine e2n _ _ ?_
 unfold k2c isNm
 dsimp only
 rw[hl]
 cases rcn (FU-1) (By s)with
 |none=>exact a0c rfl (a0a rfl rfl)
 |some k=>
  show _=some (0,[Dat.b (decide (k≤16)&&decide (0<k))])
  by_cases h:0+k≤16
  ·have e:r13 0 (some k)=(0,[.n ((0+k:Nat):Int)]):=if_pos h
   rw[e,dt (show k≤16 by omega)]
   refine a0a rfl ?_
   have:decide (((0+k:Nat):Int)>0)=decide (0<k):=decide_eq_decide.2 (by omega)
   show some (0,[Dat.b (decide (((0+k:Nat):Int)>0))])=_
   rw[this];rfl
  ·have e:r13 0 (some k)=(1,[.b false]):=if_neg h
   rw[e,df (show¬k≤16 by omega)]
   exact a0c rfl (a0a rfl rfl)
theorem i2s (s:ByteArray)(hs:s.size≤9223372036854775807):o2p [.s s]=some (0,[.b (isNm s)]):=by
 have hl:y0p [.k 0,.s s,.n (0:Int),.s s,.n (0:Int)]=some (r14 0 (rcn (FU-1) (By s))):=by
  rw[c1v,FU1]
  have:=lp14 s hs (FU-1) 0 0 (by omega) (by rw[z1b];unfold FU;omega)
  rw[List.drop_zero]at this
  exact this
 rw[u1j]
 refine d2f _ _ ?_
 unfold k2e isNm
 dsimp only
 rw[hl]
 cases rcn (FU-1) (By s)with
 |none=>exact a0c rfl (a0a rfl rfl)
 |some k=>
  show _=some (0,[Dat.b (decide (k≤16)&&decide (0<k))])
  refine a0a rfl ?_
  by_cases h:0<k
  ·refine a0a (dt (show((0+k:Nat):Int)≥1 by omega)) ?_
   have:decide (((0+k:Nat):Int)≤16)=decide (k≤16):=decide_eq_decide.2 (by omega)
   show some (0,[Dat.b (decide (((0+k:Nat):Int)≤16))])=_
   rw[this,dt h,Bool.and_true]
  ·refine a0c (df (show¬((0+k:Nat):Int)≥1 by omega)) ?_
   rw[df h,Bool.and_false];rfl
end Go.Proofs.YtplcpifjiodhcaaGreat.Vx
namespace Go.Proofs.YtplcpifjiodhcaaGreat.Vx
open Go Go.RowKit
set_option linter.unusedVariables false
set_option linter.unusedSimpArgs false
set_option maxRecDepth 100000
set_option maxHeartbeats 1000000
theorem d0j {st:List Dat→Tree Step}(s:Nat→List Dat)(m:Nat)(ok:Nat→Bool)(y n:Nat×List Dat)(go: ∀i,i<m→ok i=true→(st (s i)).sel=some (.go (s (i+1))))
  (bad: ∀i,i<m→ok i=false→(st (s i)).sel=some (.stop n.1 n.2)) (stop:(st (s m)).sel=some (.stop y.1 y.2)):
  ∀fuel,m<fuel→a0b st fuel (s 0)=some (bif (List.range' 0 m).all ok then y else n):=by
 have key: ∀d i,i+d=m→ ∀fuel,d<fuel→a0b st fuel (s i)=some (bif (List.range' i d).all ok then y else n):=by
  intro d
  induction d with
  |zero=>
   intro i hi fuel hf
   obtain rfl:i=m:=by omega
   obtain⟨f,rfl⟩: ∃f,fuel=f+1:=⟨fuel-1,by omega⟩
   exact c0a stop
  |succ d ih=>
   intro i hi fuel hf
   obtain⟨f,rfl⟩: ∃f,fuel=f+1:=⟨fuel-1,by omega⟩
   rw[List.range'_succ,List.all_cons]
   cases c:ok i with
   |true=>rw[v0e (go i (by omega) c),ih (i+1) (by omega) f (by omega)];rfl
   |false=>rw[c0a (bad i (by omega) c)];rfl
 exact key m 0 (by omega)
def inAt (l:List Int)(n:Int)(i:Nat):Bool:=decide (0≤l.getD i 0)&&decide (l.getD i 0<n)
theorem lp44 (l:List Int)(n:Int):y0d [.k 0,.l TI l,.n n,.n (0:Int)]=some (bif (List.range' 0 (min l.length 17)).all (inAt l n)then(0,[.l TI l])else(1,[.b false])):=by
 rw[d1g]
 refine d0j (fun i=>[.k 0,.l TI l,.n n,.n (i:Int)]) (min l.length 17) (inAt l n) (0,[.l TI l]) (1,[.b false]) (fun i hi h=> ?_) (fun i hi h=> ?_) ?_ FU (by unfold FU;omega)
 ·unfold inAt at h
  rw[Bool.and_eq_true,decide_eq_true_eq,decide_eq_true_eq]at h
  refine j0m _ _ _ (by omega) _ ?_
  unfold o0m
  refine a0a (dt (show(i:Int)<(l.length:Int) by omega)) (a0a (dt (by omega)) (a0c (df (show¬l.getD i 0<0 by omega)) (a0c (df (show¬l.getD i 0≥n by omega)) ?_)))
  rw[w1n i (by omega)];rfl
 ·unfold inAt at h
  rw[Bool.and_eq_false_iff,decide_eq_false_iff_not,decide_eq_false_iff_not]at h
  refine j0m _ _ _ (by omega) _ ?_
  unfold o0m
  refine a0a (dt (show(i:Int)<(l.length:Int) by omega)) (a0a (dt (by omega)) ?_)
  by_cases c:l.getD i 0<0
  ·exact a0a (dt (show l.getD i 0<0 from c)) rfl
  ·exact a0c (df (show¬l.getD i 0<0 from c)) (a0a (dt (show l.getD i 0≥n by omega)) rfl)
 ·refine j0m _ _ _ (by omega) _ ?_
  unfold o0m
  by_cases c:l.length<17
  ·refine a0c (df (show¬((min l.length 17:Nat):Int)<(l.length:Int) by omega)) rfl
  ·by_cases c2:l.length=17
   ·exact a0c (df (show¬((min l.length 17:Nat):Int)<(l.length:Int) by omega)) rfl
   ·exact a0a (dt (show((min l.length 17:Nat):Int)<(l.length:Int) by omega)) (a0c (df (by omega)) rfl)
def inB (l:List Int)(n:Int):Bool:=decide (l.length≤16)&&(List.range' 0 l.length).all (inAt l n)
theorem oIn (l:List Int)(n:Int):a1t [.l TI l,.n n]=some (0,[.b (inB l n)]):=by
 rw[t1r]
 refine c2d _ _ _ ?_
 unfold p2f
 dsimp only
 erw[lp44]
 unfold inB
 by_cases h:l.length≤16
 ·rw[dt h,show min l.length 17=l.length by omega,Bool.true_and]
  cases(List.range' 0 l.length).all (inAt l n)with
  |true=>
   refine a0a rfl ?_
   show some (0,[Dat.b (decide ((l.length:Int)≤16))])=_
   rw[dt (show(l.length:Int)≤16 by omega)]
  |false=>exact a0c rfl (a0a rfl rfl)
 ·rw[df h,Bool.false_and]
  cases(List.range' 0 (min l.length 17)).all (inAt l n)with
  |true=>
   refine a0a rfl ?_
   show some (0,[Dat.b (decide ((l.length:Int)≤16))])=_
   rw[df (show¬(l.length:Int)≤16 by omega)]
  |false=>exact a0c rfl (a0a rfl rfl)
end Go.Proofs.YtplcpifjiodhcaaGreat.Vx
namespace Go.Proofs.YtplcpifjiodhcaaGreat.Vx
open Go Go.RowKit
set_option linter.unusedVariables false
set_option linter.unusedSimpArgs false
set_option maxRecDepth 100000
set_option maxHeartbeats 1000000
abbrev LS:=List (Ty.den TS)
abbrev LP:=List (Ty.den TPt)
abbrev LR:=List (Ty.den TRt)
abbrev LN:=List (Ty.den TNd)
theorem o1g {l:List Int}{n:Int}{i:Nat}(h:inAt l n i=true):0≤l.getD i 0∧l.getD i 0<n:=by
 unfold inAt at h;rw[Bool.and_eq_true,decide_eq_true_eq,decide_eq_true_eq]at h;exact h
theorem z1l {l:List Int}{n:Int}{i:Nat}(h:inAt l n i=false): ¬0≤l.getD i 0∨ ¬l.getD i 0<n:=by
 unfold inAt at h;rw[Bool.and_eq_false_iff,decide_eq_false_iff_not,decide_eq_false_iff_not]at h;exact h
theorem lp48 (l:List Int)(a:LS)(b c:LP)(r:LR)(hl:l.length≤16):y0t [.k 0,.l TI l,.n (l.length:Int),.n (0:Int),.l TS a,.l TPt b,.l TPt c,.l TRt r]=some (bif (List.range' 0 l.length).all (inAt l (a.length:Int))then(0,[])else(1,[.b false])):=by
 rw[c1j]
 refine d0j (fun i=>[.k 0,.l TI l,.n (l.length:Int),.n (i:Int),.l TS a,.l TPt b,.l TPt c,.l TRt r]) l.length (inAt l (a.length:Int)) (0,[]) (1,[.b false]) (fun i hi h=> ?_) (fun i hi h=> ?_) ?_ FU (by unfold FU;omega)
 ·obtain⟨h1,h2⟩:=o1g h
  refine l0f _ _ _ _ _ _ _ (by omega) rfl _ ?_
  unfold n0w
  refine a0a (dt (show(i:Int)<(l.length:Int) by omega)) (a0a (dt (show l.getD i 0≥0 from h1)) (a0c ?_ ?_))
  ·show(!decide (l.getD i 0<(a.length:Int)))=false
   rw[dt h2];rfl
  ·rw[w1n i (by omega)];rfl
 ·refine l0f _ _ _ _ _ _ _ (by omega) rfl _ ?_
  unfold n0w
  refine a0a (dt (show(i:Int)<(l.length:Int) by omega)) ?_
  by_cases z:l.getD i 0≥0
  ·refine a0a (dt (show l.getD i 0≥0 from z)) (a0a ?_ rfl)
   show(!decide (l.getD i 0<(a.length:Int)))=true
   rcases z1l h with q|q
   ·exact absurd z q
   ·rw[df q];rfl
  ·exact a0c (df (show¬l.getD i 0≥0 from z)) rfl
 ·refine l0f _ _ _ _ _ _ _ (by omega) rfl _ ?_
  unfold n0w
  exact a0c (df (show¬(l.length:Int)<(l.length:Int) by omega)) rfl
theorem w0r (l:List Int)(a:LS)(b c:LP)(r:LR):f2a [.l TS a,.l TPt b,.l TPt c,.l TRt r,.l TI l]=some (0,[.b (inB l (a.length:Int))]):=by
 rw[w1z]
 refine b2c _ _ _ _ _ _ ?_
 unfold p2y inB
 by_cases h:l.length≤16
 ·refine a0c (df (show¬(l.length:Int)>16 by omega)) ?_
  rw[dt h,Bool.true_and]
  dsimp only
  erw[lp48 l a b c r h]
  cases(List.range' 0 l.length).all (inAt l (a.length:Int))with
  |true=>exact a0a rfl rfl
  |false=>exact a0c rfl (a0a rfl rfl)
 ·rw[df h]
  exact a0a (dt (show(l.length:Int)>16 by omega)) rfl
end Go.Proofs.YtplcpifjiodhcaaGreat.Vx
namespace Go.Proofs.YtplcpifjiodhcaaGreat.Vx
open Go Go.RowKit
set_option linter.unusedVariables false
set_option linter.unusedSimpArgs false
set_option maxRecDepth 100000
set_option maxHeartbeats 1000000
def f1 (e:Ty.den TNd):Int:=Prod.fst e
def nd (l:LN):List Int:=List.map f1 l
theorem o0y (l:LN):(nd l).length=l.length:=List.length_map _
theorem u2f (l:LN){i:Nat}(h:i<l.length):(nd l).getD i 0=(Prod.fst (l.getD i (Ty.dflt TNd)):Int):=by
 unfold nd
 rw[List.getD_eq_getElem?_getD,List.getElem?_map,List.getD_eq_getElem?_getD,List.getElem?_eq_getElem h];rfl
theorem lp49 (l:LN)(a:LS)(b c:LP)(r:LR)(hl:l.length≤16):z0c [.k 0,.l TNd l,.n (l.length:Int),.n (0:Int),.l TS a,.l TPt b,.l TPt c,.l TRt r]=some (bif (List.range' 0 l.length).all (inAt (nd l) (b.length:Int))then(0,[])else(1,[.b false])):=by
 rw[a1v]
 refine d0j (fun i=>[.k 0,.l TNd l,.n (l.length:Int),.n (i:Int),.l TS a,.l TPt b,.l TPt c,.l TRt r]) l.length (inAt (nd l) (b.length:Int)) (0,[]) (1,[.b false]) (fun i hi h=> ?_) (fun i hi h=> ?_) ?_ FU (by unfold FU;omega)
 ·obtain⟨h1,h2⟩:=o1g h
  rw[u2f l hi]at h1 h2
  refine k0p _ _ _ _ _ _ _ (by omega) rfl _ ?_
  unfold n0l
  refine a0a (dt (show(i:Int)<(l.length:Int) by omega)) (a0a (dt (show(Prod.fst (l.getD i (Ty.dflt TNd)):Int)≥0 from h1)) (a0c ?_ ?_))
  ·show(!decide ((Prod.fst (l.getD i (Ty.dflt TNd)):Int)<(b.length:Int)))=false
   rw[dt h2];rfl
  ·rw[w1n i (by omega)];rfl
 ·have h':=z1l h
  rw[u2f l hi]at h'
  refine k0p _ _ _ _ _ _ _ (by omega) rfl _ ?_
  unfold n0l
  refine a0a (dt (show(i:Int)<(l.length:Int) by omega)) ?_
  by_cases z:(Prod.fst (l.getD i (Ty.dflt TNd)):Int)≥0
  ·refine a0a (dt (show(Prod.fst (l.getD i (Ty.dflt TNd)):Int)≥0 from z)) (a0a ?_ rfl)
   show(!decide ((Prod.fst (l.getD i (Ty.dflt TNd)):Int)<(b.length:Int)))=true
   rcases h' with q|q
   ·exact absurd z q
   ·rw[df q];rfl
  ·exact a0c (df (show¬(Prod.fst (l.getD i (Ty.dflt TNd)):Int)≥0 from z)) rfl
 ·refine k0p _ _ _ _ _ _ _ (by omega) rfl _ ?_
  unfold n0l
  exact a0c (df (show¬(l.length:Int)<(l.length:Int) by omega)) rfl
theorem o1l (l:LN)(a:LS)(b c:LP)(r:LR):e2e [.l TS a,.l TPt b,.l TPt c,.l TRt r,.l TNd l]=some (0,[.b (inB (nd l) (b.length:Int))]):=by
 rw[u1f]
 refine c2a _ _ _ _ _ _ ?_
 unfold h2i inB
 rw[o0y]
 by_cases h:l.length≤16
 ·refine a0c (df (show¬(l.length:Int)>16 by omega)) ?_
  rw[dt h,Bool.true_and]
  dsimp only
  erw[lp49 l a b c r h]
  cases(List.range' 0 l.length).all (inAt (nd l) (b.length:Int))with
  |true=>exact a0a rfl rfl
  |false=>exact a0c rfl (a0a rfl rfl)
 ·rw[df h]
  exact a0a (dt (show(l.length:Int)>16 by omega)) rfl
theorem lp45 (l:LN):z0h [.k 0,.l TNd l,.n (0:Int),.l TI []]=some (0,[.l TI (nd (l.take 17))]):=by
 rw[d1k]
 have e17:nd (l.take 17)=nd (l.take (min l.length 17)):=by
  congr 1
  by_cases c:l.length≤17
  ·rw[List.take_of_length_le c,show min l.length 17=l.length by omega,List.take_of_length_le (Nat.le_refl _)]
  ·rw[show min l.length 17=17 by omega]
 rw[e17]
 refine b0a (fun i=>[.k 0,.l TNd l,.n (i:Int),.l TI (nd (l.take i))]) (min l.length 17) (0,[.l TI (nd (l.take (min l.length 17)))]) (fun i hi=> ?_) ?_ FU (b1w (by omega))
 ·refine u0l _ _ _ (by omega) _ ?_
  unfold v0o
  have hlen:(nd (l.take i)).length≤17:=by rw[o0y,List.length_take];omega
  refine a0a (dt (show(i:Int)<(l.length:Int) by omega)) (a0a (dt (by omega)) (a0a (dt (show((nd (l.take i)).length+1)*8≤140737488355328 by omega)) ?_))
  rw[w1n i (by omega)]
  have e:nd (l.take (i+1))=nd (l.take i)++[(Prod.fst (l.getD i (Ty.dflt TNd)):Int)]:=by
   unfold nd
   rw[List.take_add_one,List.map_append,List.getD_eq_getElem?_getD,List.getElem?_eq_getElem (show i<l.length by omega)];rfl
  rw[e];rfl
 ·refine u0l _ _ _ (by omega) _ ?_
  unfold v0o
  by_cases c:l.length≤17
  ·exact a0c (df (show¬((min l.length 17:Nat):Int)<(l.length:Int) by omega)) rfl
  ·exact a0a (dt (show((min l.length 17:Nat):Int)<(l.length:Int) by omega)) (a0c (df (by omega)) rfl)
theorem h2d (l:LN):e2f [.l TNd l]=some (0,[.l TI (nd (l.take 17))]):=by
 rw[w1v]
 refine g2h _ _ ?_
 unfold j2z
 dsimp only
 erw[lp45]
 exact a0a rfl rfl
end Go.Proofs.YtplcpifjiodhcaaGreat.Vx
namespace Go.Proofs.YtplcpifjiodhcaaGreat.Vx
open Go Go.RowKit
set_option linter.unusedVariables false
set_option linter.unusedSimpArgs false
set_option maxRecDepth 100000
set_option maxHeartbeats 1000000
theorem x1j {a b:ByteArray}(h:a≠b):f0b a b=false:=by
 rw[Bool.eq_false_iff];intro c;exact h ((g0d _ _).1 c)
theorem sAtG {α:Type}(l:List α)(d:α){i:Nat}(h:i<l.length):l.getD i d∈l:=by
 rw[List.getD_eq_getElem?_getD,List.getElem?_eq_getElem h];exact List.getElem_mem h
theorem sLeft {α:Type}(a b:List α)(d:α){i:Nat}(h:i<a.length):(a++b).getD i d∈a:=by
 rw[List.getD_eq_getElem?_getD,List.getElem?_append_left h,List.getElem?_eq_getElem h];exact List.getElem_mem h
theorem sMid {α:Type}(a b:List α)(s d:α):(a++s::b).getD a.length d=s:=by
 rw[List.getD_eq_getElem?_getD,List.getElem?_append_right (Nat.le_refl _),Nat.sub_self];rfl
theorem sAt (l:List ByteArray){i:Nat}(h:i<l.length):(l.getD i (Ty.dflt Ty.str:ByteArray))∈l:=sAtG l _ h
theorem oFindNo (l:List ByteArray)(s:ByteArray)(hl:l.length≤100000)(h:s∉l):c2l [.l TS l,.s s]=some (0,[.n (-1)]):=by
 have e:q0w [.k 0,.l TS l,.s s,.n (0:Int)]=some (0,[]):=by
  rw[q0e]
  refine b0a (fun i=>[.k 0,.l TS l,.s s,.n (i:Int)]) l.length (0,[]) (fun i hi=> ?_) ?_ FU (b1w (by omega))
  ·refine f0m _ _ _ (by omega) _ ?_
   unfold i0s
   refine a0a (dt (show(i:Int)<(l.length:Int) by omega)) (a0c (x1j fun c=>h (c▸sAt l hi)) ?_)
   rw[w1n i (by omega)];rfl
  ·refine f0m _ _ _ (by omega) _ ?_
   unfold i0s
   exact a0c (df (show¬(l.length:Int)<(l.length:Int) by omega)) rfl
 rw[h1q]
 refine f1j _ _ _ ?_
 unfold q1q
 dsimp only
 erw[e]
 exact a0a rfl rfl
theorem oFindAt (a b:List ByteArray)(s:ByteArray)(hl:a.length≤100000)(h:s∉a):c2l [.l TS (a++s::b),.s s]=some (0,[.n (a.length:Int)]):=by
 have e:q0w [.k 0,.l TS (a++s::b),.s s,.n (0:Int)]=some (1,[.n (a.length:Int)]):=by
  rw[q0e]
  refine b0a (fun i=>[.k 0,.l TS (a++s::b),.s s,.n (i:Int)]) a.length (1,[.n (a.length:Int)]) (fun i hi=> ?_) ?_ FU (b1w (by omega))
  ·refine f0m _ _ _ (by omega) _ ?_
   unfold i0s
   have g:((a++s::b).getD i (Ty.dflt Ty.str:ByteArray))∈a:=sLeft a (s::b) _ hi
   refine a0a (dt ?_) (a0c (x1j fun c=>h (c▸g)) ?_)
   ·show(i:Int)<((a++s::b).length:Int)
    rw[List.length_append,List.length_cons];omega
   ·rw[w1n i (by omega)];rfl
  ·refine f0m _ _ _ (by omega) _ ?_
   unfold i0s
   have g:((a++s::b).getD a.length (Ty.dflt Ty.str:ByteArray))=s:=sMid a b s _
   refine a0a (dt ?_) (a0a ?_ rfl)
   ·show(a.length:Int)<((a++s::b).length:Int)
    rw[List.length_append,List.length_cons];omega
   ·exact(g0d _ _).2 g
 rw[h1q]
 refine f1j _ _ _ ?_
 unfold q1q
 dsimp only
 erw[e]
 exact a0c rfl (a0a rfl rfl)
end Go.Proofs.YtplcpifjiodhcaaGreat.Vx
namespace Go.Proofs.YtplcpifjiodhcaaGreat.Vx
open Go Go.RowKit
set_option linter.unusedVariables false
set_option linter.unusedSimpArgs false
set_option maxRecDepth 100000
set_option maxHeartbeats 1000000
def mayR (sec pt sg n:Int)(p:List Int)(q:LN)(o:List Int)(f:LN):Bool:=
 decide (n≥0)&&(decide (n<sg)&&(inB p sec&&(inB (nd q) pt&&(inB o sec&&inB (nd f) pt))))
theorem m1h (a:LS)(b c:LP)(r:LR)(s:ByteArray)(n:Int)(p:List Int)(q:LN)(o:List Int)(f:LN):
  i2m [.l TS a,.l TPt b,.l TPt c,.l TRt r,.s s,.n n,.l TI p,.l TNd q,.l TI o,.l TNd f]=some (0,[.b (mayR (a.length:Int) (b.length:Int) (c.length:Int) n p q o f)]):=by
 have e1:=w0r p a b c r
 have e2:=o1l q a b c r
 have e3:=w0r o a b c r
 have e4:=o1l f a b c r
 rw[v1s]
 refine e2d _ _ _ _ _ _ _ _ _ _ _ ?_
 unfold p2c mayR
 by_cases h1:n≥0
 ·rw[dt h1]
  refine a0a (dt h1) ?_
  by_cases h2:n<(c.length:Int)
  ·rw[dt h2]
   refine a0a rfl ?_
   dsimp only
   erw[e1];refine a0a rfl ?_
   cases inB p (a.length:Int)with
   |false=>exact a0c rfl rfl
   |true=>
    refine a0a rfl ?_
    erw[e2];refine a0a rfl ?_
    cases inB (nd q) (b.length:Int)with
    |false=>exact a0c rfl rfl
    |true=>
     refine a0a rfl ?_
     erw[e3];refine a0a rfl ?_
     cases inB o (a.length:Int)with
     |false=>exact a0c rfl rfl
     |true=>
      refine a0a rfl ?_
      erw[e4];exact a0a rfl rfl
  ·rw[df h2]
   exact a0c rfl rfl
 ·rw[df h1]
  exact a0c (df h1) rfl
end Go.Proofs.YtplcpifjiodhcaaGreat.Vx
namespace Go.Proofs.YtplcpifjiodhcaaGreat.Vx
open Go Go.RowKit
set_option linter.unusedVariables false
set_option linter.unusedSimpArgs false
set_option maxRecDepth 100000
set_option maxHeartbeats 1000000
def fP (e:Ty.den TPt):ByteArray:=Prod.fst e
def fR (e:Ty.den TRt):ByteArray:=Prod.fst e
def nmP (l:LP):List ByteArray:=List.map fP l
def nmR (l:LR):List ByteArray:=List.map fR l
theorem e0d (l:LP):(nmP l).length=l.length:=List.length_map _
theorem g1y (l:LR):(nmR l).length=l.length:=List.length_map _
theorem x1p (x:List ByteArray)(l:LP){i:Nat}(h:i<l.length):x++nmP (l.take (i+1))=x++nmP (l.take i)++[fP (l.getD i (Ty.dflt TPt))]:=by
 unfold nmP
 rw[List.take_add_one,List.map_append,List.getD_eq_getElem?_getD,List.getElem?_eq_getElem h,List.append_assoc];rfl
theorem nmR_up (x:List ByteArray)(l:LR){i:Nat}(h:i<l.length):x++nmR (l.take (i+1))=x++nmR (l.take i)++[fR (l.getD i (Ty.dflt TRt))]:=by
 unfold nmR
 rw[List.take_add_one,List.map_append,List.getD_eq_getElem?_getD,List.getElem?_eq_getElem h,List.append_assoc];rfl
theorem lp41_4 (a:LS)(b c:LP)(r:LR)(x:List ByteArray)(h:x.length+b.length≤100000):z0f [.k 0,.n (0:Int),.l TS a,.l TPt b,.l TPt c,.l TRt r,.l TS (x)]=some (0,[.l TS a,.l TPt b,.l TPt c,.l TRt r,.l TS (x++nmP b)]):=by
 rw[b1q]
 have k:a0b l0d FU [.k 0,.n ((0:Nat):Int),.l TS a,.l TPt b,.l TPt c,.l TRt r,.l TS (x++nmP (b.take 0))]=some (0,[.l TS a,.l TPt b,.l TPt c,.l TRt r,.l TS (x++nmP (b.take b.length))]):=by
  refine b0a (fun i=>[.k 0,.n (i:Int),.l TS a,.l TPt b,.l TPt c,.l TRt r,.l TS (x++nmP (b.take i))]) b.length (0,[.l TS a,.l TPt b,.l TPt c,.l TRt r,.l TS (x++nmP (b.take b.length))]) (fun i hi=> ?_) ?_ FU (b1w (by omega))
  ·refine r0b _ _ _ _ _ _ (by omega) _ ?_
   unfold u0s
   have hn:(x++nmP (b.take i)).length≤100000:=by rw[List.length_append,e0d,List.length_take];omega
   refine a0a (dt (show(i:Int)<(b.length:Int) by omega)) (a0a (dt (show((x++nmP (b.take i)).length+1)*16≤140737488355328 by omega)) ?_)
   rw[w1n i (by omega),x1p x b hi];rfl
  ·refine r0b _ _ _ _ _ _ (by omega) _ ?_
   unfold u0s
   exact a0c (df (show¬(b.length:Int)<(b.length:Int) by omega)) rfl
 rw[show x++nmP (b.take 0)=x from List.append_nil x,List.take_of_length_le (Nat.le_refl _)]at k
 exact k
theorem lp41_8 (a:LS)(b c:LP)(r:LR)(x:List ByteArray)(h:x.length+c.length≤100000):y0j [.k 0,.n (0:Int),.l TS a,.l TPt b,.l TPt c,.l TRt r,.l TS (x)]=some (0,[.l TS a,.l TPt b,.l TPt c,.l TRt r,.l TS (x++nmP c)]):=by
 rw[d1p]
 have k:a0b j0e FU [.k 0,.n ((0:Nat):Int),.l TS a,.l TPt b,.l TPt c,.l TRt r,.l TS (x++nmP (c.take 0))]=some (0,[.l TS a,.l TPt b,.l TPt c,.l TRt r,.l TS (x++nmP (c.take c.length))]):=by
  refine b0a (fun i=>[.k 0,.n (i:Int),.l TS a,.l TPt b,.l TPt c,.l TRt r,.l TS (x++nmP (c.take i))]) c.length (0,[.l TS a,.l TPt b,.l TPt c,.l TRt r,.l TS (x++nmP (c.take c.length))]) (fun i hi=> ?_) ?_ FU (b1w (by omega))
  ·refine r0e _ _ _ _ _ _ (by omega) _ ?_
   unfold v0f
   have hn:(x++nmP (c.take i)).length≤100000:=by rw[List.length_append,e0d,List.length_take];omega
   refine a0a (dt (show(i:Int)<(c.length:Int) by omega)) (a0a (dt (show((x++nmP (c.take i)).length+1)*16≤140737488355328 by omega)) ?_)
   rw[w1n i (by omega),x1p x c hi];rfl
  ·refine r0e _ _ _ _ _ _ (by omega) _ ?_
   unfold v0f
   exact a0c (df (show¬(c.length:Int)<(c.length:Int) by omega)) rfl
 rw[show x++nmP (c.take 0)=x from List.append_nil x,List.take_of_length_le (Nat.le_refl _)]at k
 exact k
theorem lp41_12 (a:LS)(b c:LP)(r:LR)(x:List ByteArray)(h:x.length+r.length≤100000):t0f [.k 0,.n (0:Int),.l TS a,.l TPt b,.l TPt c,.l TRt r,.l TS (x)]=some (0,[.l TS (x++nmR r)]):=by
 rw[w0n]
 have k:a0b g0m FU [.k 0,.n ((0:Nat):Int),.l TS a,.l TPt b,.l TPt c,.l TRt r,.l TS (x++nmR (r.take 0))]=some (0,[.l TS (x++nmR (r.take r.length))]):=by
  refine b0a (fun i=>[.k 0,.n (i:Int),.l TS a,.l TPt b,.l TPt c,.l TRt r,.l TS (x++nmR (r.take i))]) r.length (0,[.l TS (x++nmR (r.take r.length))]) (fun i hi=> ?_) ?_ FU (b1w (by omega))
  ·refine p0g _ _ _ _ _ _ (by omega) _ ?_
   unfold q0a
   have hn:(x++nmR (r.take i)).length≤100000:=by rw[List.length_append,g1y,List.length_take];omega
   refine a0a (dt (show(i:Int)<(r.length:Int) by omega)) (a0a (dt (show((x++nmR (r.take i)).length+1)*16≤140737488355328 by omega)) ?_)
   rw[w1n i (by omega),nmR_up x r hi];rfl
  ·refine p0g _ _ _ _ _ _ (by omega) _ ?_
   unfold q0a
   exact a0c (df (show¬(r.length:Int)<(r.length:Int) by omega)) rfl
 rw[show x++nmR (r.take 0)=x from List.append_nil x,List.take_of_length_le (Nat.le_refl _)]at k
 exact k
theorem lp32_3 (a:LS)(b c:LP)(r:LR)(x:List ByteArray)(h:x.length+b.length≤100000):y0v [.k 0,.l TPt b,.n (b.length:Int),.n (0:Int),.l TS a,.l TPt b,.l TPt c,.l TRt r,.l TS (x)]=some (0,[.l TS a,.l TPt b,.l TPt c,.l TRt r,.l TS (x++nmP b)]):=by
 rw[c1s]
 have k:a0b j0l FU [.k 0,.l TPt b,.n (b.length:Int),.n ((0:Nat):Int),.l TS a,.l TPt b,.l TPt c,.l TRt r,.l TS (x++nmP (b.take 0))]=some (0,[.l TS a,.l TPt b,.l TPt c,.l TRt r,.l TS (x++nmP (b.take b.length))]):=by
  refine b0a (fun i=>[.k 0,.l TPt b,.n (b.length:Int),.n (i:Int),.l TS a,.l TPt b,.l TPt c,.l TRt r,.l TS (x++nmP (b.take i))]) b.length (0,[.l TS a,.l TPt b,.l TPt c,.l TRt r,.l TS (x++nmP (b.take b.length))]) (fun i hi=> ?_) ?_ FU (b1w (by omega))
  ·refine r0z _ _ _ _ _ _ _ _ (by omega) rfl _ ?_
   unfold v0j
   have hn:(x++nmP (b.take i)).length≤100000:=by rw[List.length_append,e0d,List.length_take];omega
   refine a0a (dt (show(i:Int)<(b.length:Int) by omega)) (a0a (dt (show((x++nmP (b.take i)).length+1)*16≤140737488355328 by omega)) ?_)
   rw[w1n i (by omega),x1p x b hi];rfl
  ·refine r0z _ _ _ _ _ _ _ _ (by omega) rfl _ ?_
   unfold v0j
   exact a0c (df (show¬(b.length:Int)<(b.length:Int) by omega)) rfl
 rw[show x++nmP (b.take 0)=x from List.append_nil x,List.take_of_length_le (Nat.le_refl _)]at k
 exact k
theorem lp32_8 (a:LS)(b c:LP)(r:LR)(x:List ByteArray)(h:x.length+c.length≤100000):y0m [.k 0,.l TPt c,.n (c.length:Int),.n (0:Int),.l TS a,.l TPt b,.l TPt c,.l TRt r,.l TS (x)]=some (0,[.l TS a,.l TPt b,.l TPt c,.l TRt r,.l TS (x++nmP c)]):=by
 rw[d1y]
 have k:a0b j0u FU [.k 0,.l TPt c,.n (c.length:Int),.n ((0:Nat):Int),.l TS a,.l TPt b,.l TPt c,.l TRt r,.l TS (x++nmP (c.take 0))]=some (0,[.l TS a,.l TPt b,.l TPt c,.l TRt r,.l TS (x++nmP (c.take c.length))]):=by
  refine b0a (fun i=>[.k 0,.l TPt c,.n (c.length:Int),.n (i:Int),.l TS a,.l TPt b,.l TPt c,.l TRt r,.l TS (x++nmP (c.take i))]) c.length (0,[.l TS a,.l TPt b,.l TPt c,.l TRt r,.l TS (x++nmP (c.take c.length))]) (fun i hi=> ?_) ?_ FU (b1w (by omega))
  ·refine s0q _ _ _ _ _ _ _ _ (by omega) rfl _ ?_
   unfold u0u
   have hn:(x++nmP (c.take i)).length≤100000:=by rw[List.length_append,e0d,List.length_take];omega
   refine a0a (dt (show(i:Int)<(c.length:Int) by omega)) (a0a (dt (show((x++nmP (c.take i)).length+1)*16≤140737488355328 by omega)) ?_)
   rw[w1n i (by omega),x1p x c hi];rfl
  ·refine s0q _ _ _ _ _ _ _ _ (by omega) rfl _ ?_
   unfold u0u
   exact a0c (df (show¬(c.length:Int)<(c.length:Int) by omega)) rfl
 rw[show x++nmP (c.take 0)=x from List.append_nil x,List.take_of_length_le (Nat.le_refl _)]at k
 exact k
theorem lp32_13 (a:LS)(b c:LP)(r:LR)(x:List ByteArray)(h:x.length+r.length≤100000):r0x [.k 0,.l TRt r,.n (r.length:Int),.n (0:Int),.l TS (x)]=some (0,[.l TS (x++nmR r)]):=by
 rw[w0z]
 have k:a0b g0j FU [.k 0,.l TRt r,.n (r.length:Int),.n ((0:Nat):Int),.l TS (x++nmR (r.take 0))]=some (0,[.l TS (x++nmR (r.take r.length))]):=by
  refine b0a (fun i=>[.k 0,.l TRt r,.n (r.length:Int),.n (i:Int),.l TS (x++nmR (r.take i))]) r.length (0,[.l TS (x++nmR (r.take r.length))]) (fun i hi=> ?_) ?_ FU (b1w (by omega))
  ·refine p0h _ _ _ _ (by omega) rfl _ ?_
   unfold q0r
   have hn:(x++nmR (r.take i)).length≤100000:=by rw[List.length_append,g1y,List.length_take];omega
   refine a0a (dt (show(i:Int)<(r.length:Int) by omega)) (a0a (dt (show((x++nmR (r.take i)).length+1)*16≤140737488355328 by omega)) ?_)
   rw[w1n i (by omega),nmR_up x r hi];rfl
  ·refine p0h _ _ _ _ (by omega) rfl _ ?_
   unfold q0r
   exact a0c (df (show¬(r.length:Int)<(r.length:Int) by omega)) rfl
 rw[show x++nmR (r.take 0)=x from List.append_nil x,List.take_of_length_le (Nat.le_refl _)]at k
 exact k
def nms (a:List ByteArray)(b c:LP)(r:LR):List ByteArray:=a++nmP b++nmP c++nmR r
theorem oNames (a:List ByteArray)(b c:LP)(r:LR)(h:a.length+b.length+c.length+r.length≤10000):k2f [.l TS a,.l TPt b,.l TPt c,.l TRt r]=some (0,[.l TS (nms a b c r)]):=by
 have e1:=lp41_4 a b c r a (by omega)
 have e2:=lp41_8 a b c r (a++nmP b) (by rw[List.length_append,e0d];omega)
 have e3:=lp41_12 a b c r (a++nmP b++nmP c) (by rw[List.length_append,List.length_append,e0d,e0d];omega)
 rw[t1v]
 refine e2i _ _ _ _ _ ?_
 unfold j2q nms
 refine a0a (dt (show a.length*16≤140737488355328 by omega)) ?_
 dsimp only
 erw[e1];refine a0a rfl ?_
 erw[e2];refine a0a rfl ?_
 erw[e3];exact a0a rfl rfl
end Go.Proofs.YtplcpifjiodhcaaGreat.Vx
namespace Go.Proofs.YtplcpifjiodhcaaGreat.Vx
open Go Go.RowKit
set_option linter.unusedVariables false
set_option linter.unusedSimpArgs false
set_option maxRecDepth 100000
set_option maxHeartbeats 1000000
def nAt (L:List ByteArray)(i:Nat):ByteArray:=L.getD i (Ty.dflt Ty.str:ByteArray)
def isIn (L:List ByteArray)(s:ByteArray):Bool:=L.any fun x=>f0b x s
theorem isIn_t {L:List ByteArray}{s:ByteArray}(h:isIn L s=true):s∈L:=by
 obtain⟨x,hx,e⟩:=List.any_eq_true.1 h
 rw[←(g0d _ _).1 e];exact hx
theorem isIn_f {L:List ByteArray}{s:ByteArray}(h:isIn L s=false):s∉L:=by
 intro c
 have:isIn L s=true:=List.any_eq_true.2 ⟨s,c,(g0d _ _).2 rfl⟩
 rw[h]at this;cases this
def okN (L:List ByteArray)(i:Nat):Bool:=isNm (nAt L i)&& !isIn (L.take i) (nAt L i)
theorem h1i {α:Type}(l:List α)(d:α){i:Nat}(h:i<l.length):l.take (i+1)=l.take i++[l.getD i d]:=by
 rw[List.take_add_one,List.getD_eq_getElem?_getD,List.getElem?_eq_getElem h];rfl
theorem m2r (L:List ByteArray){i:Nat}(h:i<L.length):L.take (i+1)=L.take i++[nAt L i]:=
 h1i L _ h
theorem lp32_19 (L:List ByteArray)(hl:L.length≤100000)(hs: ∀i,i<L.length→(nAt L i).size≤9223372036854775807):
  s0n [.k 0,.n (L.length:Int),.n (0:Int),.l TPt [],.l TS L]=some (bif (List.range' 0 L.length).all (okN L)then(0,[])else(1,[.b false])):=by
 rw[w0l]
 have k:a0b g0q FU [.k 0,.n (L.length:Int),.n ((0:Nat):Int),.l TPt (ones (L.take 0)),.l TS L]=some (bif (List.range' 0 L.length).all (okN L)then(0,[])else(1,[.b false])):=by
  refine d0j (fun i=>[.k 0,.n (L.length:Int),.n (i:Int),.l TPt (ones (L.take i)),.l TS L]) L.length (okN L) (0,[]) (1,[.b false]) (fun i hi h=> ?_) (fun i hi h=> ?_) ?_ FU (by unfold FU;omega)
  ·unfold okN at h
   rw[Bool.and_eq_true,Bool.not_eq_true']at h
   have e:=oRight (nAt L i) (hs i hi)
   rw[h.1]at e
   have hn:=isIn_f h.2
   refine h0l _ _ _ _ (by omega) rfl _ ?_
   unfold k0l
   refine a0a (dt (show(i:Int)<(L.length:Int) by omega)) ?_
   dsimp only
   erw[e]
   refine a0a rfl (a0c rfl ?_)
   have g:mget .str (.int .i64) (nAt L i) (ones (L.take i))=(0:Int):=new_get hn
   have p:mput .str (.int .i64) (nAt L i) (1:Int) (ones (L.take i))=ones (L.take (i+1)):=(new_put hn).trans (by rw[m2r L hi])
   have g2:mget .str (.int .i64) (nAt L i) (ones (L.take (i+1)))=(1:Int):=by rw[m2r L hi];exact new_got hn
   have w:IntKind.wrap .i64 (mgI (nAt L i) (ones (L.take i))+1)=1:=by
    rw[show mgI (nAt L i) (ones (L.take i))=0 from g];rfl
   refine a0c (df ?_) ?_
   ·show¬mgI (nAt L i) (mput .str (.int .i64) (nAt L i) (IntKind.wrap .i64 (mgI (nAt L i) (ones (L.take i))+1)) (ones (L.take i)))>1
    rw[w,p,show mgI (nAt L i) (ones (L.take (i+1)))=1 from g2];omega
   ·show some (Step.go [.k 0,.n (L.length:Int),.n (IntKind.wrap .i64 ((i:Int)+1)),.l TPt (mput .str (.int .i64) (nAt L i) (IntKind.wrap .i64 (mgI (nAt L i) (ones (L.take i))+1)) (ones (L.take i))),.l TS L])=_
    rw[w,p,w1n i (by omega)]
  ·unfold okN at h
   have e:=oRight (nAt L i) (hs i hi)
   refine h0l _ _ _ _ (by omega) rfl _ ?_
   unfold k0l
   refine a0a (dt (show(i:Int)<(L.length:Int) by omega)) ?_
   dsimp only
   erw[e]
   refine a0a rfl ?_
   cases c:isNm (nAt L i)with
   |false=>exact a0a rfl rfl
   |true=>
    rw[c,Bool.true_and,Bool.not_eq_false']at h
    obtain⟨a,b,eq,na⟩:=v0q (isIn_t h)
    have g:mgI (nAt L i) (ones (L.take i))=1:=by rw[eq];exact m2c na
    have w:IntKind.wrap .i64 (mgI (nAt L i) (ones (L.take i))+1)=2:=by rw[g];rfl
    refine a0c rfl (a0a (dt ?_) rfl)
    show mgI (nAt L i) (mput .str (.int .i64) (nAt L i) (IntKind.wrap .i64 (mgI (nAt L i) (ones (L.take i))+1)) (ones (L.take i)))>1
    rw[w,eq,show mput .str (.int .i64) (nAt L i) (2:Int) (ones (a++nAt L i::b))=_ from old_put 2 na,show mgI (nAt L i) (ones a++kv (nAt L i) 2::ones b)=2 from u2c 2 na]
    omega
  ·refine h0l _ _ _ _ (by omega) rfl _ ?_
   unfold k0l
   exact a0c (df (show¬(L.length:Int)<(L.length:Int) by omega)) rfl
 exact k
end Go.Proofs.YtplcpifjiodhcaaGreat.Vx
namespace Go.Proofs.YtplcpifjiodhcaaGreat.Vx
open Go Go.RowKit
set_option linter.unusedVariables false
set_option linter.unusedSimpArgs false
set_option maxRecDepth 100000
set_option maxHeartbeats 1000000
def allN (L:List ByteArray):Bool:=(List.range' 0 L.length).all (okN L)
theorem oNamed (a:List ByteArray)(b c:LP)(r:LR)(h:a.length+b.length+c.length+r.length≤10000)(hs: ∀i,i<(nms a b c r).length→(nAt (nms a b c r) i).size≤9223372036854775807):
  g2y [.l TS a,.l TPt b,.l TPt c,.l TRt r]=some (0,[.b (allN (nms a b c r))]):=by
 have hlen:(nms a b c r).length≤100000:=by
  unfold nms;rw[List.length_append,List.length_append,List.length_append,e0d,e0d,g1y];omega
 have e1:=lp32_3 a b c r a (by show a.length+b.length≤100000;omega)
 have e2:=lp32_8 a b c r (a++nmP b) (by rw[List.length_append,e0d];omega)
 have e3:=lp32_13 a b c r (a++nmP b++nmP c) (by rw[List.length_append,List.length_append,e0d,e0d];omega)
 have e4:=lp32_19 (nms a b c r) hlen hs
 rw[v1t]
 refine d2c _ _ _ _ _ ?_
 unfold k2m
 refine a0a (dt (show a.length*16≤140737488355328 by omega)) ?_
 dsimp only
 erw[e1];refine a0a rfl ?_
 erw[e2];refine a0a rfl ?_
 erw[e3];refine a0a rfl ?_
 erw[e4]
 unfold allN
 cases(List.range' 0 (nms a b c r).length).all (okN (nms a b c r))with
 |true=>exact a0a rfl rfl
 |false=>exact a0c rfl (a0a rfl rfl)
theorem lp28_5 (a:LS)(b c:LP)(r:LR)(L:List ByteArray)(hl:L.length≤100000)(hs: ∀i,i<L.length→(nAt L i).size≤9223372036854775807):
  z0g [.k 0,.n (0:Int),.l TS a,.l TPt b,.l TPt c,.l TRt r,.l TS L]=some (bif allN L then(0,[.l TS a,.l TPt b,.l TPt c,.l TRt r])else(1,[.b false])):=by
 rw[c1h]
 refine d0j (fun i=>[.k 0,.n (i:Int),.l TS a,.l TPt b,.l TPt c,.l TRt r,.l TS L]) L.length (okN L) (0,[.l TS a,.l TPt b,.l TPt c,.l TRt r]) (1,[.b false]) (fun i hi h=> ?_) (fun i hi h=> ?_) ?_ FU (by unfold FU;omega)
 ·unfold okN at h
  rw[Bool.and_eq_true,Bool.not_eq_true']at h
  have e:=i2s (nAt L i) (hs i hi)
  rw[h.1]at e
  have hn:=isIn_f h.2
  have e2:=oFindNo (L.take i) (nAt L i) (by rw[List.length_take];omega) hn
  refine j0j _ _ _ _ _ _ (by omega) _ ?_
  unfold n0q
  refine a0a (dt (show(i:Int)<(L.length:Int) by omega)) ?_
  dsimp only
  erw[e]
  refine a0a rfl (a0c rfl ?_)
  erw[e2]
  refine a0a rfl (a0c rfl ?_)
  rw[w1n i (by omega)];rfl
 ·unfold okN at h
  have e:=i2s (nAt L i) (hs i hi)
  refine j0j _ _ _ _ _ _ (by omega) _ ?_
  unfold n0q
  refine a0a (dt (show(i:Int)<(L.length:Int) by omega)) ?_
  dsimp only
  erw[e]
  refine a0a rfl ?_
  cases c:isNm (nAt L i)with
  |false=>exact a0a rfl rfl
  |true=>
   rw[c,Bool.true_and,Bool.not_eq_false']at h
   obtain⟨x,y,eq,na⟩:=v0q (isIn_t h)
   have hx:x.length≤100000:=by
    have:=congrArg List.length eq
    rw[List.length_take,List.length_append]at this;omega
   have e2:=oFindAt x y (nAt L i) hx na
   rw[←eq]at e2
   refine a0c rfl ?_
   erw[e2]
   exact a0a rfl (a0a (dt (show(x.length:Int)≥0 by omega)) rfl)
 ·refine j0j _ _ _ _ _ _ (by omega) _ ?_
  unfold n0q
  exact a0c (df (show¬(L.length:Int)<(L.length:Int) by omega)) rfl
end Go.Proofs.YtplcpifjiodhcaaGreat.Vx
namespace Go.Proofs.YtplcpifjiodhcaaGreat.Vx
open Go Go.RowKit
set_option linter.unusedVariables false
set_option linter.unusedSimpArgs false
set_option maxRecDepth 100000
set_option maxHeartbeats 1000000
def gP (e:Ty.den TPt):Int:=Prod.snd e
def secs (l:LP):List Int:=List.map gP l
theorem f0i (l:LP){i:Nat}(h:i<l.length):(secs l).getD i 0=(Prod.snd (l.getD i (Ty.dflt TPt)):Int):=by
 unfold secs
 rw[List.getD_eq_getElem?_getD,List.getElem?_map,List.getD_eq_getElem?_getD,List.getElem?_eq_getElem h];rfl
theorem a1x (x n:Int):inB [x] n=(decide (0≤x)&&decide (x<n)):=by
 unfold inB
 show(true&&(inAt [x] n 0&&true))=_
 rw[Bool.true_and,Bool.and_true];rfl
theorem lp26_4 (a:LS)(b c:LP)(r:LR)(hl:b.length≤1000):y0n [.k 0,.l TPt b,.n (b.length:Int),.n (0:Int),.l TS a,.l TPt b,.l TPt c,.l TRt r]=some (bif (List.range' 0 b.length).all (inAt (secs b) (a.length:Int))then(0,[.l TS a,.l TPt b,.l TPt c,.l TRt r])else(1,[.b false])):=by
 rw[a1e]
 refine d0j (fun i=>[.k 0,.l TPt b,.n (b.length:Int),.n (i:Int),.l TS a,.l TPt b,.l TPt c,.l TRt r]) b.length (inAt (secs b) (a.length:Int)) (0,[.l TS a,.l TPt b,.l TPt c,.l TRt r]) (1,[.b false]) (fun i hi h=> ?_) (fun i hi h=> ?_) ?_ FU (by unfold FU;omega)
 ·obtain⟨h1,h2⟩:=o1g h
  rw[f0i b hi]at h1 h2
  refine k0r _ _ _ _ _ _ _ (by omega) rfl _ ?_
  unfold o0b
  refine a0a (dt (show(i:Int)<(b.length:Int) by omega)) (a0a (dt (show(Prod.snd (b.getD i (Ty.dflt TPt)):Int)≥0 from h1)) (a0c ?_ ?_))
  ·show(!decide ((Prod.snd (b.getD i (Ty.dflt TPt)):Int)<(a.length:Int)))=false
   rw[dt h2];rfl
  ·rw[w1n i (by omega)];rfl
 ·have h':=z1l h
  rw[f0i b hi]at h'
  refine k0r _ _ _ _ _ _ _ (by omega) rfl _ ?_
  unfold o0b
  refine a0a (dt (show(i:Int)<(b.length:Int) by omega)) ?_
  by_cases z:(Prod.snd (b.getD i (Ty.dflt TPt)):Int)≥0
  ·refine a0a (dt (show(Prod.snd (b.getD i (Ty.dflt TPt)):Int)≥0 from z)) (a0a ?_ rfl)
   show(!decide ((Prod.snd (b.getD i (Ty.dflt TPt)):Int)<(a.length:Int)))=true
   rcases h' with q|q
   ·exact absurd z q
   ·rw[df q];rfl
  ·exact a0c (df (show¬(Prod.snd (b.getD i (Ty.dflt TPt)):Int)≥0 from z)) rfl
 ·refine k0r _ _ _ _ _ _ _ (by omega) rfl _ ?_
  unfold o0b
  exact a0c (df (show¬(b.length:Int)<(b.length:Int) by omega)) rfl
theorem lp26_10 (a:LS)(b c:LP)(r:LR)(hl:c.length≤1000):t0w [.k 0,.l TPt c,.n (c.length:Int),.n (0:Int),.l TS a,.l TPt b,.l TPt c,.l TRt r]=some (bif (List.range' 0 c.length).all (inAt (secs c) (a.length:Int))then(0,[.l TS a,.l TPt b,.l TPt c,.l TRt r])else(1,[.b false])):=by
 rw[x0f]
 refine d0j (fun i=>[.k 0,.l TPt c,.n (c.length:Int),.n (i:Int),.l TS a,.l TPt b,.l TPt c,.l TRt r]) c.length (inAt (secs c) (a.length:Int)) (0,[.l TS a,.l TPt b,.l TPt c,.l TRt r]) (1,[.b false]) (fun i hi h=> ?_) (fun i hi h=> ?_) ?_ FU (by unfold FU;omega)
 ·obtain⟨h1,h2⟩:=o1g h
  rw[f0i c hi]at h1 h2
  refine i0a _ _ _ _ _ _ _ (by omega) rfl _ ?_
  unfold j0h
  refine a0a (dt (show(i:Int)<(c.length:Int) by omega)) (a0a (dt (show(Prod.snd (c.getD i (Ty.dflt TPt)):Int)≥0 from h1)) (a0c ?_ ?_))
  ·show(!decide ((Prod.snd (c.getD i (Ty.dflt TPt)):Int)<(a.length:Int)))=false
   rw[dt h2];rfl
  ·rw[w1n i (by omega)];rfl
 ·have h':=z1l h
  rw[f0i c hi]at h'
  refine i0a _ _ _ _ _ _ _ (by omega) rfl _ ?_
  unfold j0h
  refine a0a (dt (show(i:Int)<(c.length:Int) by omega)) ?_
  by_cases z:(Prod.snd (c.getD i (Ty.dflt TPt)):Int)≥0
  ·refine a0a (dt (show(Prod.snd (c.getD i (Ty.dflt TPt)):Int)≥0 from z)) (a0a ?_ rfl)
   show(!decide ((Prod.snd (c.getD i (Ty.dflt TPt)):Int)<(a.length:Int)))=true
   rcases h' with q|q
   ·exact absurd z q
   ·rw[df q];rfl
  ·exact a0c (df (show¬(Prod.snd (c.getD i (Ty.dflt TPt)):Int)≥0 from z)) rfl
 ·refine i0a _ _ _ _ _ _ _ (by omega) rfl _ ?_
  unfold j0h
  exact a0c (df (show¬(c.length:Int)<(c.length:Int) by omega)) rfl
theorem lp28_10 (a:LS)(b c:LP)(r:LR)(hl:b.length≤1000):s0b [.k 0,.n (0:Int),.l TS a,.l TPt b,.l TPt c,.l TRt r]=some (bif (List.range' 0 b.length).all (inAt (secs b) (a.length:Int))then(0,[.l TS a,.l TPt b,.l TPt c,.l TRt r])else(1,[.b false])):=by
 rw[w0i]
 refine d0j (fun i=>[.k 0,.n (i:Int),.l TS a,.l TPt b,.l TPt c,.l TRt r]) b.length (inAt (secs b) (a.length:Int)) (0,[.l TS a,.l TPt b,.l TPt c,.l TRt r]) (1,[.b false]) (fun i hi h=> ?_) (fun i hi h=> ?_) ?_ FU (by unfold FU;omega)
 ·have e:=oIn [(Prod.snd (b.getD i (Ty.dflt TPt)):Int)] (a.length:Int)
  rw[a1x,←f0i b hi,show(decide (0≤(secs b).getD i 0)&&decide ((secs b).getD i 0<(a.length:Int)))=true from h,f0i b hi]at e
  refine h0n _ _ _ _ _ (by omega) _ ?_
  unfold j0w
  refine a0a (dt (show(i:Int)<(b.length:Int) by omega)) ?_
  dsimp only
  erw[e]
  refine a0a rfl (a0c rfl ?_)
  rw[w1n i (by omega)];rfl
 ·have e:=oIn [(Prod.snd (b.getD i (Ty.dflt TPt)):Int)] (a.length:Int)
  rw[a1x,←f0i b hi,show(decide (0≤(secs b).getD i 0)&&decide ((secs b).getD i 0<(a.length:Int)))=false from h,f0i b hi]at e
  refine h0n _ _ _ _ _ (by omega) _ ?_
  unfold j0w
  refine a0a (dt (show(i:Int)<(b.length:Int) by omega)) ?_
  dsimp only
  erw[e]
  exact a0a rfl (a0a rfl rfl)
 ·refine h0n _ _ _ _ _ (by omega) _ ?_
  unfold j0w
  exact a0c (df (show¬(b.length:Int)<(b.length:Int) by omega)) rfl
theorem lp28_15 (a:LS)(b c:LP)(r:LR)(hl:c.length≤1000):u0n [.k 0,.n (0:Int),.l TS a,.l TPt b,.l TPt c,.l TRt r]=some (bif (List.range' 0 c.length).all (inAt (secs c) (a.length:Int))then(0,[.l TS a,.l TPt b,.l TPt c,.l TRt r])else(1,[.b false])):=by
 rw[x0c]
 refine d0j (fun i=>[.k 0,.n (i:Int),.l TS a,.l TPt b,.l TPt c,.l TRt r]) c.length (inAt (secs c) (a.length:Int)) (0,[.l TS a,.l TPt b,.l TPt c,.l TRt r]) (1,[.b false]) (fun i hi h=> ?_) (fun i hi h=> ?_) ?_ FU (by unfold FU;omega)
 ·have e:=oIn [(Prod.snd (c.getD i (Ty.dflt TPt)):Int)] (a.length:Int)
  rw[a1x,←f0i c hi,show(decide (0≤(secs c).getD i 0)&&decide ((secs c).getD i 0<(a.length:Int)))=true from h,f0i c hi]at e
  refine h0u _ _ _ _ _ (by omega) _ ?_
  unfold l0l
  refine a0a (dt (show(i:Int)<(c.length:Int) by omega)) ?_
  dsimp only
  erw[e]
  refine a0a rfl (a0c rfl ?_)
  rw[w1n i (by omega)];rfl
 ·have e:=oIn [(Prod.snd (c.getD i (Ty.dflt TPt)):Int)] (a.length:Int)
  rw[a1x,←f0i c hi,show(decide (0≤(secs c).getD i 0)&&decide ((secs c).getD i 0<(a.length:Int)))=false from h,f0i c hi]at e
  refine h0u _ _ _ _ _ (by omega) _ ?_
  unfold l0l
  refine a0a (dt (show(i:Int)<(c.length:Int) by omega)) ?_
  dsimp only
  erw[e]
  exact a0a rfl (a0a rfl rfl)
 ·refine h0u _ _ _ _ _ (by omega) _ ?_
  unfold l0l
  exact a0c (df (show¬(c.length:Int)<(c.length:Int) by omega)) rfl
end Go.Proofs.YtplcpifjiodhcaaGreat.Vx
namespace Go.Proofs.YtplcpifjiodhcaaGreat.Vx
open Go Go.RowKit
set_option linter.unusedVariables false
set_option linter.unusedSimpArgs false
set_option maxRecDepth 100000
set_option maxHeartbeats 1000000
abbrev Rt:=Ty.den TRt
def eS (e:Rt):ByteArray:=Prod.fst e
def eN (e:Rt):Int:=Prod.fst (Prod.snd e)
def eP (e:Rt):List Int:=Prod.fst (Prod.snd (Prod.snd e))
def eQ (e:Rt):LN:=Prod.fst (Prod.snd (Prod.snd (Prod.snd e)))
def eO (e:Rt):List Int:=Prod.fst (Prod.snd (Prod.snd (Prod.snd (Prod.snd e))))
def eF (e:Rt):LN:=Prod.snd (Prod.snd (Prod.snd (Prod.snd (Prod.snd e))))
def okR (sec pt sg:Int)(l:LR)(i:Nat):Bool:=
 mayR sec pt sg (eN (l.getD i (Ty.dflt TRt))) (eP (l.getD i (Ty.dflt TRt))) (eQ (l.getD i (Ty.dflt TRt))) (eO (l.getD i (Ty.dflt TRt))) (eF (l.getD i (Ty.dflt TRt)))
theorem inB_17 (l:LN)(n:Int):inB (nd (l.take 17)) n=inB (nd l) n:=by
 by_cases h:l.length≤17
 ·rw[List.take_of_length_le h]
 ·unfold inB
  rw[o0y,o0y,df (show¬l.length≤16 by omega),df (show¬(l.take 17).length≤16 by rw[List.length_take];omega)];rfl
theorem lp26_16 (a:LS)(b c:LP)(r:LR)(hl:r.length≤1000):r0y [.k 0,.l TRt r,.n (r.length:Int),.n (0:Int),.l TS a,.l TPt b,.l TPt c,.l TRt r]=some (bif (List.range' 0 r.length).all (okR (a.length:Int) (b.length:Int) (c.length:Int) r)then(0,[.l TS a,.l TPt b,.l TPt c,.l TRt r])else(1,[.b false])):=by
 rw[w0q]
 refine d0j (fun i=>[.k 0,.l TRt r,.n (r.length:Int),.n (i:Int),.l TS a,.l TPt b,.l TPt c,.l TRt r]) r.length (okR (a.length:Int) (b.length:Int) (c.length:Int) r) (0,[.l TS a,.l TPt b,.l TPt c,.l TRt r]) (1,[.b false]) (fun i hi h=> ?_) (fun i hi h=> ?_) ?_ FU (by unfold FU;omega)
 ·have e:=m1h a b c r (eS (r.getD i (Ty.dflt TRt))) (eN (r.getD i (Ty.dflt TRt))) (eP (r.getD i (Ty.dflt TRt))) (eQ (r.getD i (Ty.dflt TRt))) (eO (r.getD i (Ty.dflt TRt))) (eF (r.getD i (Ty.dflt TRt)))
  unfold okR at h
  rw[h]at e
  refine i0b _ _ _ _ _ _ _ (by omega) rfl _ ?_
  unfold j0s
  refine a0a (dt (show(i:Int)<(r.length:Int) by omega)) ?_
  dsimp only
  erw[e]
  refine a0a rfl (a0c rfl ?_)
  rw[w1n i (by omega)];rfl
 ·have e:=m1h a b c r (eS (r.getD i (Ty.dflt TRt))) (eN (r.getD i (Ty.dflt TRt))) (eP (r.getD i (Ty.dflt TRt))) (eQ (r.getD i (Ty.dflt TRt))) (eO (r.getD i (Ty.dflt TRt))) (eF (r.getD i (Ty.dflt TRt)))
  unfold okR at h
  rw[h]at e
  refine i0b _ _ _ _ _ _ _ (by omega) rfl _ ?_
  unfold j0s
  refine a0a (dt (show(i:Int)<(r.length:Int) by omega)) ?_
  dsimp only
  erw[e]
  exact a0a rfl (a0a rfl rfl)
 ·refine i0b _ _ _ _ _ _ _ (by omega) rfl _ ?_
  unfold j0s
  exact a0c (df (show¬(r.length:Int)<(r.length:Int) by omega)) rfl
theorem n2e (a:LS)(b c:LP)(r:LR)(i:Nat)(hi:i<r.length)(hl:r.length≤1000):
  (g0r [.k 0,.n (i:Int),.l TS a,.l TPt b,.l TPt c,.l TRt r]).sel=some (bif okR (a.length:Int) (b.length:Int) (c.length:Int) r i then .go [.k 0,.n ((i+1:Nat):Int),.l TS a,.l TPt b,.l TPt c,.l TRt r]else .stop 1 [.b false]):=by
 have e1:=oIn [eN (r.getD i (Ty.dflt TRt))] (c.length:Int)
 have e2:=oIn (eP (r.getD i (Ty.dflt TRt))) (a.length:Int)
 have e3:=oIn (eO (r.getD i (Ty.dflt TRt))) (a.length:Int)
 have e4:=h2d (eQ (r.getD i (Ty.dflt TRt)))
 have e5:=oIn (nd ((eQ (r.getD i (Ty.dflt TRt))).take 17)) (b.length:Int)
 have e6:=h2d (eF (r.getD i (Ty.dflt TRt)))
 have e7:=oIn (nd ((eF (r.getD i (Ty.dflt TRt))).take 17)) (b.length:Int)
 rw[inB_17]at e5 e7
 rw[a1x]at e1
 refine p0r _ _ _ _ _ (by omega) _ ?_
 unfold q0n okR mayR
 refine a0a (dt (show(i:Int)<(r.length:Int) by omega)) ?_
 dsimp only
 erw[e1];refine a0a rfl ?_
 rw[show decide (eN (r.getD i (Ty.dflt TRt))≥0)=decide (0≤eN (r.getD i (Ty.dflt TRt)))from rfl]
 cases decide (0≤eN (r.getD i (Ty.dflt TRt)))with
 |false=>exact a0a rfl rfl
 |true=>
 cases decide (eN (r.getD i (Ty.dflt TRt))<(c.length:Int))with
 |false=>exact a0a rfl rfl
 |true=>
 refine a0c rfl ?_
 erw[e2];refine a0a rfl ?_
 cases inB (eP (r.getD i (Ty.dflt TRt))) (a.length:Int)with
 |false=>exact a0a rfl rfl
 |true=>
 refine a0c rfl ?_
 erw[e3];refine a0a rfl ?_
 cases inB (eO (r.getD i (Ty.dflt TRt))) (a.length:Int)with
 |false=>
  refine a0a rfl ?_
  cases inB (nd (eQ (r.getD i (Ty.dflt TRt)))) (b.length:Int)<;>rfl
 |true=>
 refine a0c rfl ?_
 erw[e4];refine a0a rfl ?_
 erw[e5];refine a0a rfl ?_
 cases inB (nd (eQ (r.getD i (Ty.dflt TRt)))) (b.length:Int)with
 |false=>exact a0a rfl rfl
 |true=>
 refine a0c rfl ?_
 erw[e6];refine a0a rfl ?_
 erw[e7];refine a0a rfl ?_
 cases inB (nd (eF (r.getD i (Ty.dflt TRt)))) (b.length:Int)with
 |false=>exact a0a rfl rfl
 |true=>
 refine a0c rfl ?_
 rw[w1n i (by omega)];rfl
theorem lp28_20 (a:LS)(b c:LP)(r:LR)(hl:r.length≤1000):u0f [.k 0,.n (0:Int),.l TS a,.l TPt b,.l TPt c,.l TRt r]=some (bif (List.range' 0 r.length).all (okR (a.length:Int) (b.length:Int) (c.length:Int) r)then(0,[])else(1,[.b false])):=by
 rw[x0b]
 refine d0j (fun i=>[.k 0,.n (i:Int),.l TS a,.l TPt b,.l TPt c,.l TRt r]) r.length (okR (a.length:Int) (b.length:Int) (c.length:Int) r) (0,[]) (1,[.b false]) (fun i hi h=> ?_) (fun i hi h=> ?_) ?_ FU (by unfold FU;omega)
 ·rw[n2e a b c r i hi hl,h];rfl
 ·rw[n2e a b c r i hi hl,h];rfl
 ·refine p0r _ _ _ _ _ (by omega) _ ?_
  unfold q0n
  exact a0c (df (show¬(r.length:Int)<(r.length:Int) by omega)) rfl
end Go.Proofs.YtplcpifjiodhcaaGreat.Vx
namespace Go.Proofs.YtplcpifjiodhcaaGreat.Vx
open Go Go.RowKit
set_option linter.unusedVariables false
set_option linter.unusedSimpArgs false
set_option maxRecDepth 100000
set_option maxHeartbeats 1000000
def smallL (a:List ByteArray)(b c:LP)(r:LR):Prop:=a.length≤64∧b.length≤32∧c.length≤32∧r.length≤64
instance (a:List ByteArray)(b c:LP)(r:LR):Decidable (smallL a b c r):=inferInstanceAs (Decidable (_∧_∧_∧_))
def mayL (a:List ByteArray)(b c:LP)(r:LR):Bool:=decide (smallL a b c r)&&
 ((List.range' 0 b.length).all (inAt (secs b) (a.length:Int))&&((List.range' 0 c.length).all (inAt (secs c) (a.length:Int))&&
 ((List.range' 0 r.length).all (okR (a.length:Int) (b.length:Int) (c.length:Int) r)&&allN (nms a b c r))))
theorem oMay (a:List ByteArray)(b c:LP)(r:LR)(hs: ∀i,i<(nms a b c r).length→(nAt (nms a b c r) i).size≤9223372036854775807):g2g [.l TS a,.l TPt b,.l TPt c,.l TRt r]=some (0,[.b (mayL a b c r)]):=by
 rw[v1e]
 refine e2b _ _ _ _ _ ?_
 unfold h2t mayL
 by_cases h:smallL a b c r
 ·rw[dt h]
  obtain⟨h1,h2,h3,h4⟩:=h
  refine a0c (df (show¬(a.length:Int)>64 by omega)) (a0c (df (show¬(b.length:Int)>32 by omega)) (a0c (df (show¬(c.length:Int)>32 by omega)) (a0c (df (show¬(r.length:Int)>64 by omega)) ?_)))
  have e1:=lp26_4 a b c r (by omega)
  have e2:=lp26_10 a b c r (by omega)
  have e3:=lp26_16 a b c r (by omega)
  have e4:=oNamed a b c r (by omega) hs
  change _=some (bif (List.range' 0 b.length).all (inAt (secs b) (a.length:Int))then _ else _)at e1
  change _=some (bif (List.range' 0 c.length).all (inAt (secs c) (a.length:Int))then _ else _)at e2
  change _=some (bif (List.range' 0 r.length).all (okR (a.length:Int) (b.length:Int) (c.length:Int) r)then _ else _)at e3
  generalize (List.range' 0 b.length).all (inAt (secs b) (a.length:Int))=B at e1⊢
  generalize (List.range' 0 c.length).all (inAt (secs c) (a.length:Int))=C at e2⊢
  generalize (List.range' 0 r.length).all (okR (a.length:Int) (b.length:Int) (c.length:Int) r)=R at e3⊢
  dsimp only
  erw[e1]
  cases B with
  |false=>exact a0c rfl (a0a rfl rfl)
  |true=>
  refine a0a rfl ?_
  erw[e2]
  cases C with
  |false=>exact a0c rfl (a0a rfl rfl)
  |true=>
  refine a0a rfl ?_
  erw[e3]
  cases R with
  |false=>exact a0c rfl (a0a rfl rfl)
  |true=>
  refine a0a rfl ?_
  erw[e4]
  exact a0a rfl rfl
 ·rw[df h]
  by_cases h1:(a.length:Int)>64
  ·exact a0a (dt h1) rfl
  refine a0c (df h1) ?_
  by_cases h2:(b.length:Int)>32
  ·exact a0a (dt h2) rfl
  refine a0c (df h2) ?_
  by_cases h3:(c.length:Int)>32
  ·exact a0a (dt h3) rfl
  refine a0c (df h3) ?_
  by_cases h4:(r.length:Int)>64
  ·exact a0a (dt h4) rfl
  exact absurd ⟨by omega,by omega,by omega,by omega⟩ h
theorem oFull (a:List ByteArray)(b c:LP)(r:LR):l2o [.l TS a,.l TPt b,.l TPt c,.l TRt r]=some (0,[.b (!decide (smallL a b c r))]):=by
 rw[t1n]
 refine e2o _ _ _ _ _ ?_
 unfold g2v
 by_cases h1:(a.length:Int)>64
 ·rw[df (show¬smallL a b c r from fun k=>by have:=k.1;omega)];exact a0a (dt h1) rfl
 refine a0c (df h1) ?_
 by_cases h2:(b.length:Int)>32
 ·rw[df (show¬smallL a b c r from fun k=>by have:=k.2.1;omega)];exact a0a (dt h2) rfl
 refine a0c (df h2) ?_
 by_cases h3:(c.length:Int)>32
 ·rw[df (show¬smallL a b c r from fun k=>by have:=k.2.2.1;omega)];exact a0a (dt h3) rfl
 refine a0c (df h3) ?_
 show some (0,[Dat.b (decide ((r.length:Int)>64))])=_
 by_cases h4:(r.length:Int)>64
 ·rw[df (show¬smallL a b c r from fun k=>by have:=k.2.2.2;omega),dt h4];rfl
 ·rw[dt (show smallL a b c r from⟨by omega,by omega,by omega,by omega⟩),df h4];rfl
theorem o2t (a:List ByteArray)(b c:LP)(r:LR)(hs: ∀i,i<(nms a b c r).length→(nAt (nms a b c r) i).size≤9223372036854775807):b2n [.l TS a,.l TPt b,.l TPt c,.l TRt r]=some (0,[.b (mayL a b c r)]):=by
 rw[w1a]
 refine f2n _ _ _ _ _ ?_
 unfold m2p mayL
 have e0:=oFull a b c r
 dsimp only
 erw[e0]
 refine a0a rfl ?_
 by_cases h:smallL a b c r
 ·rw[dt h]
  obtain⟨h1,h2,h3,h4⟩:=h
  have hlen:(nms a b c r).length≤100000:=by
   unfold nms;rw[List.length_append,List.length_append,List.length_append,e0d,e0d,g1y];omega
  have e1:=oNames a b c r (by omega)
  have e2:=lp28_5 a b c r (nms a b c r) hlen hs
  have e3:=lp28_10 a b c r (by omega)
  have e4:=lp28_15 a b c r (by omega)
  have e5:=lp28_20 a b c r (by omega)
  change _=some (bif (List.range' 0 b.length).all (inAt (secs b) (a.length:Int))then _ else _)at e3
  change _=some (bif (List.range' 0 c.length).all (inAt (secs c) (a.length:Int))then _ else _)at e4
  change _=some (bif (List.range' 0 r.length).all (okR (a.length:Int) (b.length:Int) (c.length:Int) r)then _ else _)at e5
  generalize (List.range' 0 b.length).all (inAt (secs b) (a.length:Int))=B at e3⊢
  generalize (List.range' 0 c.length).all (inAt (secs c) (a.length:Int))=C at e4⊢
  generalize (List.range' 0 r.length).all (okR (a.length:Int) (b.length:Int) (c.length:Int) r)=R at e5⊢
  refine a0c rfl ?_
  erw[e1];refine a0a rfl ?_
  erw[e2]
  cases allN (nms a b c r)with
  |false=>
   rw[Bool.and_false,Bool.and_false,Bool.and_false,Bool.and_false]
   exact a0c rfl (a0a rfl rfl)
  |true=>
  refine a0a rfl ?_
  erw[e3]
  cases B with
  |false=>exact a0c rfl (a0a rfl rfl)
  |true=>
  refine a0a rfl ?_
  erw[e4]
  cases C with
  |false=>exact a0c rfl (a0a rfl rfl)
  |true=>
  refine a0a rfl ?_
  erw[e5]
  cases R with
  |false=>exact a0c rfl (a0a rfl rfl)
  |true=>exact a0a rfl rfl
 ·rw[df h]
  exact a0a rfl rfl
end Go.Proofs.YtplcpifjiodhcaaGreat.Vx
namespace Go.Proofs.YtplcpifjiodhcaaGreat.Vx
open Go Go.RowKit
set_option linter.unusedVariables false
set_option linter.unusedSimpArgs false
set_option maxRecDepth 100000
set_option maxHeartbeats 1000000
theorem a0x {st:List Dat→Tree Step}(s:Nat→List Dat)(m:Nat)(hit:Nat→Bool)(n y:Nat×List Dat)(go: ∀i,i<m→hit i=false→(st (s i)).sel=some (.go (s (i+1))))
  (bad: ∀i,i<m→hit i=true→(st (s i)).sel=some (.stop n.1 n.2)) (stop:(st (s m)).sel=some (.stop y.1 y.2)):
  ∀fuel,m<fuel→a0b st fuel (s 0)=some (bif (List.range' 0 m).any hit then n else y):=by
 intro fuel hf
 rw[d0j s m (fun i=> !hit i) y n (fun i hi h=>go i hi (by simpa using h)) (fun i hi h=>bad i hi (by simpa using h)) stop fuel hf]
 rw[show(List.range' 0 m).all (fun i=> !hit i)= !(List.range' 0 m).any hit by rw[List.not_any_eq_all_not]]
 cases(List.range' 0 m).any hit<;>rfl
theorem j0x {α:Type}(l:List α)(d:α){i:Nat}(h:i<l.length):l.getD i d=l[i]:=by simp[h]
theorem c0g {α:Type}(l:List α)(d:α)(p:α→Bool):(List.range' 0 l.length).any (fun i=>p (l.getD i d))=l.any p:=by
 rw[Bool.eq_iff_iff,List.any_eq_true,List.any_eq_true]
 constructor
 ·rintro⟨i,hi,h⟩
  rw[List.mem_range'_1]at hi
  exact⟨_,h0f (by omega),h⟩
 ·rintro⟨x,hx,h⟩
  obtain⟨i,hi,rfl⟩:=List.getElem_of_mem hx
  refine⟨i,List.mem_range'_1.2 (by omega),?_⟩
  rw[j0x _ _ hi]
  exact h
theorem d1o (l:List Int)(x:Int):(l.any fun y=>y==x)=decide (x∈l):=by
 rw[Bool.eq_iff_iff,List.any_eq_true,decide_eq_true_eq]
 exact⟨fun⟨y,h,e⟩=>by rw[←qeT e];exact h,fun h=>⟨x,h,bt rfl⟩⟩
theorem p1w (l:List Int):(List.range' 0 l.length).any (fun i=>decide (l.getD i 0∈l.take i))= !decide l.Nodup:=by
 rw[Bool.eq_iff_iff,List.any_eq_true,Bool.not_eq_true',decide_eq_false_iff_not]
 unfold List.Nodup
 rw[List.pairwise_iff_getElem]
 constructor
 ·rintro⟨i,hi,h⟩ k
  rw[List.mem_range'_1]at hi
  have hi:i<l.length:=by omega
  rw[decide_eq_true_eq,j0x _ _ hi,List.mem_take_iff_getElem]at h
  obtain⟨j,hj,e⟩:=h
  exact k j i (by omega) hi (by omega) e
 ·intro k
  apply Classical.byContradiction
  intro q
  apply k
  intro i j hi hj hij e
  apply q
  refine⟨j,List.mem_range'_1.2 (by omega),?_⟩
  rw[decide_eq_true_eq,j0x _ _ hj,List.mem_take_iff_getElem]
  exact⟨i,by omega,e⟩
abbrev LI:=List Int
theorem o51a (l:LI)(x:Int)(hl:l.length≤100000):m1v [.l TI l,.n x]=some (0,[.b (decide (x∈l))]):=by
 have e:t0l [.k 0,.l TI l,.n (l.length:Int),.n (0:Int),.n x]=some (bif (List.range' 0 l.length).any (fun i=>l.getD i 0==x)then(1,[.b true])else(0,[])):=by
  rw[w0h]
  refine a0x (fun i=>[.k 0,.l TI l,.n (l.length:Int),.n (i:Int),.n x]) l.length (fun i=>l.getD i 0==x) (1,[.b true]) (0,[]) (fun i hi h=> ?_) (fun i hi h=> ?_) ?_ FU (by unfold FU;omega)
  ·refine h0p _ _ _ _ (by omega) rfl _ ?_
   unfold j0y
   refine a0a (dt (show(i:Int)<(l.length:Int) by omega)) (a0c h ?_)
   rw[w1n i (by omega)];rfl
  ·refine h0p _ _ _ _ (by omega) rfl _ ?_
   unfold j0y
   exact a0a (dt (show(i:Int)<(l.length:Int) by omega)) (a0a h rfl)
  ·refine h0p _ _ _ _ (by omega) rfl _ ?_
   unfold j0y
   exact a0c (df (show¬(l.length:Int)<(l.length:Int) by omega)) rfl
 rw[c0g l 0 (fun y=>y==x),d1o]at e
 rw[o1u]
 refine t1f _ _ _ ?_
 unfold w1h
 dsimp only
 erw[e]
 cases decide (x∈l)with
 |true=>exact a0c rfl (a0a rfl rfl)
 |false=>exact a0a rfl rfl
theorem o51b (l:LI)(x:Int)(hl:l.length≤100000):l1j [.l TI l,.n x]=some (0,[.b (decide (x∈l))]):=by
 have e:t0g [.k 0,.l TI l,.n (l.length:Int),.n (0:Int),.n x]=some (bif (List.range' 0 l.length).any (fun i=>l.getD i 0==x)then(1,[.b true])else(0,[])):=by
  rw[w0p]
  refine a0x (fun i=>[.k 0,.l TI l,.n (l.length:Int),.n (i:Int),.n x]) l.length (fun i=>l.getD i 0==x) (1,[.b true]) (0,[]) (fun i hi h=> ?_) (fun i hi h=> ?_) ?_ FU (by unfold FU;omega)
  ·refine h0y _ _ _ _ (by omega) rfl _ ?_
   unfold k0n
   refine a0a (dt (show(i:Int)<(l.length:Int) by omega)) (a0c h ?_)
   rw[w1n i (by omega)];rfl
  ·refine h0y _ _ _ _ (by omega) rfl _ ?_
   unfold k0n
   exact a0a (dt (show(i:Int)<(l.length:Int) by omega)) (a0a h rfl)
  ·refine h0y _ _ _ _ (by omega) rfl _ ?_
   unfold k0n
   exact a0c (df (show¬(l.length:Int)<(l.length:Int) by omega)) rfl
 rw[c0g l 0 (fun y=>y==x),d1o]at e
 rw[o1i]
 refine t1e _ _ _ ?_
 unfold w1j
 dsimp only
 erw[e]
 cases decide (x∈l)with
 |true=>exact a0c rfl (a0a rfl rfl)
 |false=>exact a0a rfl rfl
theorem o33 (l:LI)(x:Int)(hl:l.length≤100000):m1g [.l TI l,.n x]=some (0,[.b (decide (x∈l))]):=by
 rw[w1e]
 refine a2y _ _ _ ?_
 unfold o2o
 dsimp only
 erw[o51a l x hl]
 exact a0a rfl rfl
theorem any_f1 (l:LN)(x:Int):(l.any fun y=>f1 y==x)=decide (x∈nd l):=by
 rw[←d1o];unfold nd;rw[List.any_map];rfl
theorem o54a (l:LN)(x:Int)(b:Bool)(hl:l.length≤100000):n1t [.l TNd l,.n x,.b b]=some (0,[.b (decide (x∈nd l))]):=by
 have e:s0r [.k 0,.l TNd l,.n (l.length:Int),.n (0:Int),.n x,.b b]=some (bif (List.range' 0 l.length).any (fun i=>(fun y=>f1 y==x) (l.getD i (Ty.dflt TNd)))then(1,[.b true])else(0,[])):=by
  rw[x0d]
  refine a0x (fun i=>[.k 0,.l TNd l,.n (l.length:Int),.n (i:Int),.n x,.b b]) l.length (fun i=>(fun y=>f1 y==x) (l.getD i (Ty.dflt TNd))) (1,[.b true]) (0,[]) (fun i hi h=> ?_) (fun i hi h=> ?_) ?_ FU (by unfold FU;omega)
  ·refine h0i _ _ _ _ _ (by omega) rfl _ ?_
   unfold k0d
   refine a0a (dt (show(i:Int)<(l.length:Int) by omega)) (a0c h ?_)
   rw[w1n i (by omega)];rfl
  ·refine h0i _ _ _ _ _ (by omega) rfl _ ?_
   unfold k0d
   exact a0a (dt (show(i:Int)<(l.length:Int) by omega)) (a0a h rfl)
  ·refine h0i _ _ _ _ _ (by omega) rfl _ ?_
   unfold k0d
   exact a0c (df (show¬(l.length:Int)<(l.length:Int) by omega)) rfl
 rw[c0g l (Ty.dflt TNd) (fun y=>f1 y==x),any_f1]at e
 rw[p1l]
 refine s1m _ _ _ _ ?_
 unfold a2h
 dsimp only
 erw[e]
 cases decide (x∈nd l)with
 |true=>exact a0c rfl (a0a rfl rfl)
 |false=>exact a0a rfl rfl
theorem o54d (l:LN)(x:Int)(hl:l.length≤100000):n1h [.l TNd l,.n x]=some (0,[.b (decide (x∈nd l))]):=by
 have e:r0f [.k 0,.l TNd l,.n (l.length:Int),.n (0:Int),.n x]=some (bif (List.range' 0 l.length).any (fun i=>(fun y=>f1 y==x) (l.getD i (Ty.dflt TNd)))then(1,[.b true])else(0,[])):=by
  rw[x0e]
  refine a0x (fun i=>[.k 0,.l TNd l,.n (l.length:Int),.n (i:Int),.n x]) l.length (fun i=>(fun y=>f1 y==x) (l.getD i (Ty.dflt TNd))) (1,[.b true]) (0,[]) (fun i hi h=> ?_) (fun i hi h=> ?_) ?_ FU (by unfold FU;omega)
  ·refine h0o _ _ _ _ (by omega) rfl _ ?_
   unfold j0f
   refine a0a (dt (show(i:Int)<(l.length:Int) by omega)) (a0c h ?_)
   rw[w1n i (by omega)];rfl
  ·refine h0o _ _ _ _ (by omega) rfl _ ?_
   unfold j0f
   exact a0a (dt (show(i:Int)<(l.length:Int) by omega)) (a0a h rfl)
  ·refine h0o _ _ _ _ (by omega) rfl _ ?_
   unfold j0f
   exact a0c (df (show¬(l.length:Int)<(l.length:Int) by omega)) rfl
 rw[c0g l (Ty.dflt TNd) (fun y=>f1 y==x),any_f1]at e
 rw[n1b]
 refine q1m _ _ _ ?_
 unfold a2e
 dsimp only
 erw[e]
 cases decide (x∈nd l)with
 |true=>exact a0c rfl (a0a rfl rfl)
 |false=>exact a0a rfl rfl
theorem o34 (l:LI)(hl:l.length≤100000):k2g [.l TI l]=some (0,[.b (!decide (l).Nodup)]):=by
 have e:z0t [.k 0,.l TI l,.l TI l,.n (l.length:Int),.n (0:Int)]=some (bif (List.range' 0 l.length).any (fun i=>decide ((l).getD i 0∈(l).take i))then(1,[.b true])else(0,[])):=by
  rw[b1n]
  have tl: ∀i,(l.take i).length≤100000:=fun i=>by rw[List.length_take];omega
  refine a0x (fun i=>[.k 0,.l TI l,.l TI l,.n (l.length:Int),.n (i:Int)]) l.length (fun i=>decide ((l).getD i 0∈(l).take i)) (1,[.b true]) (0,[]) (fun i hi h=> ?_) (fun i hi h=> ?_) ?_ FU (by unfold FU;omega)
  ·refine j0g _ _ _ (by omega) rfl _ ?_
   unfold n0y
   have a:=o51b (l.take i) (l.getD i 0) (tl i)
   rw[show decide ((l).getD i 0∈(l).take i)=false from h]at a
   refine a0a (dt (show(i:Int)<(l.length:Int) by omega)) ?_
   dsimp only
   erw[a]
   refine a0a rfl (a0c rfl ?_)
   rw[w1n i (by omega)];rfl
  ·refine j0g _ _ _ (by omega) rfl _ ?_
   unfold n0y
   have a:=o51b (l.take i) (l.getD i 0) (tl i)
   rw[show decide ((l).getD i 0∈(l).take i)=true from h]at a
   refine a0a (dt (show(i:Int)<(l.length:Int) by omega)) ?_
   dsimp only
   erw[a]
   exact a0a rfl (a0a rfl rfl)
  ·refine j0g _ _ _ (by omega) rfl _ ?_
   unfold n0y
   exact a0c (df (show¬(l.length:Int)<(l.length:Int) by omega)) rfl
 have q:=p1w (l)
 rw[q]at e
 rw[z1a]
 refine f2f _ _ ?_
 unfold p2w
 dsimp only
 erw[e]
 cases decide (l).Nodup with
 |true=>exact a0a rfl rfl
 |false=>exact a0c rfl (a0a rfl rfl)
theorem o36 (l:LN)(hl:l.length≤100000):i2e [.l TNd l]=some (0,[.b (!decide (nd l).Nodup)]):=by
 have e:y0c [.k 0,.l TNd l,.l TNd l,.n (l.length:Int),.n (0:Int)]=some (bif (List.range' 0 l.length).any (fun i=>decide ((nd l).getD i 0∈(nd l).take i))then(1,[.b true])else(0,[])):=by
  rw[d1l]
  have tl: ∀i,(l.take i).length≤100000:=fun i=>by rw[List.length_take];omega
  refine a0x (fun i=>[.k 0,.l TNd l,.l TNd l,.n (l.length:Int),.n (i:Int)]) l.length (fun i=>decide ((nd l).getD i 0∈(nd l).take i)) (1,[.b true]) (0,[]) (fun i hi h=> ?_) (fun i hi h=> ?_) ?_ FU (by unfold FU;omega)
  ·refine l0b _ _ _ (by omega) rfl _ ?_
   unfold o0h
   have a:=o54a (l.take i) (f1 (l.getD i (Ty.dflt TNd))) (Prod.snd (l.getD i (Ty.dflt TNd))) (tl i)
   rw[show decide (f1 (l.getD i (Ty.dflt TNd))∈nd (l.take i))=decide ((nd l).getD i 0∈(nd l).take i) by rw[show nd (l.take i)=(nd l).take i from List.map_take,show f1 (l.getD i (Ty.dflt TNd))=(nd l).getD i 0 from(u2f l hi).symm]]at a
   rw[show decide ((nd l).getD i 0∈(nd l).take i)=false from h]at a
   refine a0a (dt (show(i:Int)<(l.length:Int) by omega)) ?_
   dsimp only
   erw[a]
   refine a0a rfl (a0c rfl ?_)
   rw[w1n i (by omega)];rfl
  ·refine l0b _ _ _ (by omega) rfl _ ?_
   unfold o0h
   have a:=o54a (l.take i) (f1 (l.getD i (Ty.dflt TNd))) (Prod.snd (l.getD i (Ty.dflt TNd))) (tl i)
   rw[show decide (f1 (l.getD i (Ty.dflt TNd))∈nd (l.take i))=decide ((nd l).getD i 0∈(nd l).take i) by rw[show nd (l.take i)=(nd l).take i from List.map_take,show f1 (l.getD i (Ty.dflt TNd))=(nd l).getD i 0 from(u2f l hi).symm]]at a
   rw[show decide ((nd l).getD i 0∈(nd l).take i)=true from h]at a
   refine a0a (dt (show(i:Int)<(l.length:Int) by omega)) ?_
   dsimp only
   erw[a]
   exact a0a rfl (a0a rfl rfl)
  ·refine l0b _ _ _ (by omega) rfl _ ?_
   unfold o0h
   exact a0c (df (show¬(l.length:Int)<(l.length:Int) by omega)) rfl
 have q:=p1w (nd l)
 rw[o0y]at q
 rw[q]at e
 rw[z1t]
 refine b2l _ _ ?_
 unfold n2u
 dsimp only
 erw[e]
 cases decide (nd l).Nodup with
 |true=>exact a0a rfl rfl
 |false=>exact a0c rfl (a0a rfl rfl)
end Go.Proofs.YtplcpifjiodhcaaGreat.Vx
namespace Go.Proofs.YtplcpifjiodhcaaGreat.Vx
open Go Go.RowKit
set_option linter.unusedVariables false
set_option linter.unusedSimpArgs false
set_option maxRecDepth 100000
set_option maxHeartbeats 1000000
def ptS (b:LP)(n:Int):Int:=Prod.snd (List.getD b (Int.toNat n) (Ty.dflt TPt))
def f0c (b:LP)(q:LN):Prop:= ∀d∈q,0≤f1 d∧f1 d<(b.length:Int)
theorem okAt {b:LP}{q:LN}(h:f0c b q){i:Nat}(hi:i<q.length):inR (f1 (q.getD i (Ty.dflt TNd))) b.length=true:=by
 have:=h _ (h0f (d:=Ty.dflt TNd) hi)
 exact h1s this.1 this.2
theorem o54b (l:LN)(t:LI)(a:LS)(b c:LP)(r:LR)(hb:f0c b l)(hl:l.length≤100000)(ht:t.length≤100000):m1r [.l TNd l,.l TI t,.l TS a,.l TPt b,.l TPt c,.l TRt r]=some (0,[.b (l.any fun d=> !decide (ptS b (f1 d)∈t))]):=by
 have e:t0v [.k 0,.l TNd l,.n (l.length:Int),.n (0:Int),.l TI t,.l TS a,.l TPt b,.l TPt c,.l TRt r]=some (bif (List.range' 0 l.length).any (fun i=>(fun d=> !decide (ptS b (f1 d)∈t)) (l.getD i (Ty.dflt TNd)))then(1,[.b true])else(0,[])):=by
  rw[x0m]
  refine a0x (fun i=>[.k 0,.l TNd l,.n (l.length:Int),.n (i:Int),.l TI t,.l TS a,.l TPt b,.l TPt c,.l TRt r]) l.length (fun i=>(fun d=> !decide (ptS b (f1 d)∈t)) (l.getD i (Ty.dflt TNd))) (1,[.b true]) (0,[]) (fun i hi h=> ?_) (fun i hi h=> ?_) ?_ FU (by unfold FU;omega)
  ·refine h0w _ _ _ _ _ _ _ _ (by omega) rfl _ ?_
   unfold k0c
   refine a0a (dt (show(i:Int)<(l.length:Int) by omega)) (a0a (okAt hb hi) ?_)
   dsimp only
   erw[o33 t (ptS b (f1 (l.getD i (Ty.dflt TNd)))) ht]
   refine a0a rfl (a0c (show(!decide (ptS b (f1 (l.getD i (Ty.dflt TNd)))∈t))=false by have h:(!decide (ptS b (f1 (l.getD i (Ty.dflt TNd)))∈t))=false:=h;simpa using h) ?_)
   rw[w1n i (by omega)];rfl
  ·refine h0w _ _ _ _ _ _ _ _ (by omega) rfl _ ?_
   unfold k0c
   refine a0a (dt (show(i:Int)<(l.length:Int) by omega)) (a0a (okAt hb hi) ?_)
   dsimp only
   erw[o33 t (ptS b (f1 (l.getD i (Ty.dflt TNd)))) ht]
   exact a0a rfl (a0a (show(!decide (ptS b (f1 (l.getD i (Ty.dflt TNd)))∈t))=true by have h:(!decide (ptS b (f1 (l.getD i (Ty.dflt TNd)))∈t))=true:=h;simpa using h) rfl)
  ·refine h0w _ _ _ _ _ _ _ _ (by omega) rfl _ ?_
   unfold k0c
   exact a0c (df (show¬(l.length:Int)<(l.length:Int) by omega)) rfl
 rw[c0g l (Ty.dflt TNd) (fun d=> !decide (ptS b (f1 d)∈t))]at e
 rw[l1l]
 refine r1x _ _ _ _ _ _ _ ?_
 unfold w1x
 dsimp only
 erw[e]
 cases l.any fun d=> !decide (ptS b (f1 d)∈t)with
 |true=>exact a0c rfl (a0a rfl rfl)
 |false=>exact a0a rfl rfl
theorem o54c (l:LN)(t:LI)(a:LS)(b c:LP)(r:LR)(hb:f0c b l)(hl:l.length≤100000)(ht:t.length≤100000):l1k [.l TNd l,.l TI t,.l TS a,.l TPt b,.l TPt c,.l TRt r]=some (0,[.b (l.any fun d=>decide (ptS b (f1 d)∈t))]):=by
 have e:r0h [.k 0,.l TNd l,.n (l.length:Int),.n (0:Int),.l TI t,.l TS a,.l TPt b,.l TPt c,.l TRt r]=some (bif (List.range' 0 l.length).any (fun i=>(fun d=>decide (ptS b (f1 d)∈t)) (l.getD i (Ty.dflt TNd)))then(1,[.b true])else(0,[])):=by
  rw[w0k]
  refine a0x (fun i=>[.k 0,.l TNd l,.n (l.length:Int),.n (i:Int),.l TI t,.l TS a,.l TPt b,.l TPt c,.l TRt r]) l.length (fun i=>(fun d=>decide (ptS b (f1 d)∈t)) (l.getD i (Ty.dflt TNd))) (1,[.b true]) (0,[]) (fun i hi h=> ?_) (fun i hi h=> ?_) ?_ FU (by unfold FU;omega)
  ·refine h0x _ _ _ _ _ _ _ _ (by omega) rfl _ ?_
   unfold k0z
   refine a0a (dt (show(i:Int)<(l.length:Int) by omega)) (a0a (okAt hb hi) ?_)
   dsimp only
   erw[o33 t (ptS b (f1 (l.getD i (Ty.dflt TNd)))) ht]
   refine a0a rfl (a0c (show(!!decide (ptS b (f1 (l.getD i (Ty.dflt TNd)))∈t))=false by have h:(decide (ptS b (f1 (l.getD i (Ty.dflt TNd)))∈t))=false:=h;simpa using h) ?_)
   rw[w1n i (by omega)];rfl
  ·refine h0x _ _ _ _ _ _ _ _ (by omega) rfl _ ?_
   unfold k0z
   refine a0a (dt (show(i:Int)<(l.length:Int) by omega)) (a0a (okAt hb hi) ?_)
   dsimp only
   erw[o33 t (ptS b (f1 (l.getD i (Ty.dflt TNd)))) ht]
   exact a0a rfl (a0a (show(!!decide (ptS b (f1 (l.getD i (Ty.dflt TNd)))∈t))=true by have h:(decide (ptS b (f1 (l.getD i (Ty.dflt TNd)))∈t))=true:=h;simpa using h) rfl)
  ·refine h0x _ _ _ _ _ _ _ _ (by omega) rfl _ ?_
   unfold k0z
   exact a0c (df (show¬(l.length:Int)<(l.length:Int) by omega)) rfl
 rw[c0g l (Ty.dflt TNd) (fun d=>decide (ptS b (f1 d)∈t))]at e
 rw[p1c]
 refine r1y _ _ _ _ _ _ _ ?_
 unfold z1f
 dsimp only
 erw[e]
 cases l.any fun d=>decide (ptS b (f1 d)∈t)with
 |true=>exact a0c rfl (a0a rfl rfl)
 |false=>exact a0a rfl rfl
def lieB (b:LP)(t:LI)(q f:LN):Bool:= !(q.any fun d=> !decide (ptS b (f1 d)∈t))&& !(f.any fun d=>decide (ptS b (f1 d)∈t))
theorem o38 (a:LS)(b c:LP)(r:LR)(s:ByteArray)(n:Int)(p:LI)(q:LN)(o:LI)(f:LN)(t:LI)(hq:f0c b q)(hf:f0c b f)(lq:q.length≤100000)(lf:f.length≤100000)(ht:t.length≤100000):i2c [.l TS a,.l TPt b,.l TPt c,.l TRt r,.s s,.n n,.l TI p,.l TNd q,.l TI o,.l TNd f,.l TI t]=some (0,[.b (lieB b t q f)]):=by
 rw[y1y]
 refine f2h _ _ _ _ _ _ _ _ _ _ _ _ ?_
 unfold j2d lieB
 have e1:=o54b q t a b c r hq lq ht
 have e2:=o54c f t a b c r hf lf ht
 dsimp only
 erw[e1]
 refine a0a rfl ?_
 cases(q.any fun d=> !decide (ptS b (f1 d)∈t))with
 |true=>exact a0c rfl rfl
 |false=>
  refine a0a rfl ?_
  erw[e2]
  exact a0a rfl rfl
def e1b (b:LP)(t:LI)(q:LN)(i:Nat):Bool:=decide (ptS b (i:Int)∈t)&& !decide ((i:Int)∈nd q)
theorem o39 (a:LS)(b c:LP)(r:LR)(s:ByteArray)(n:Int)(p:LI)(q:LN)(o:LI)(f:LN)(t:LI)(lb:b.length≤100000)(lq:q.length≤100000)(ht:t.length≤100000):i2g [.l TS a,.l TPt b,.l TPt c,.l TRt r,.s s,.n n,.l TI p,.l TNd q,.l TI o,.l TNd f,.l TI t]=some (0,[.b (!(List.range' 0 b.length).any (e1b b t q))]):=by
 have e:z0p [.k 0,.l TI t,.l TPt b,.n (b.length:Int),.n (0:Int),.s s,.n n,.l TI p,.l TNd q,.l TI o,.l TNd f]=some (bif (List.range' 0 b.length).any (e1b b t q)then(1,[.b false])else(0,[])):=by
  rw[b1d]
  refine a0x (fun i=>[.k 0,.l TI t,.l TPt b,.n (b.length:Int),.n (i:Int),.s s,.n n,.l TI p,.l TNd q,.l TI o,.l TNd f]) b.length (e1b b t q) (1,[.b false]) (0,[]) (fun i hi h=> ?_) (fun i hi h=> ?_) ?_ FU (by unfold FU;omega)
  ·refine j0k _ _ _ _ _ _ _ _ _ _ (by omega) rfl _ ?_
   unfold n0m
   refine a0a (dt (show(i:Int)<(b.length:Int) by omega)) ?_
   have a1:=o33 t (ptS b (i:Int)) ht
   have a2:=o54d q (i:Int) lq
   unfold e1b at h
   dsimp only
   erw[a1]
   refine a0a rfl ?_
   cases c1:decide (ptS b (i:Int)∈t)with
   |false=>
    refine a0c rfl ?_
    rw[w1n i (by omega)];rfl
   |true=>
    rw[c1,Bool.true_and]at h
    refine a0a rfl ?_
    erw[a2]
    refine a0a rfl (a0c h ?_)
    rw[w1n i (by omega)];rfl
  ·refine j0k _ _ _ _ _ _ _ _ _ _ (by omega) rfl _ ?_
   unfold n0m
   refine a0a (dt (show(i:Int)<(b.length:Int) by omega)) ?_
   have a1:=o33 t (ptS b (i:Int)) ht
   have a2:=o54d q (i:Int) lq
   unfold e1b at h
   rw[Bool.and_eq_true]at h
   rw[h.1]at a1
   dsimp only
   erw[a1]
   refine a0a rfl (a0a rfl ?_)
   erw[a2]
   exact a0a rfl (a0a h.2 rfl)
  ·refine j0k _ _ _ _ _ _ _ _ _ _ (by omega) rfl _ ?_
   unfold n0m
   exact a0c (df (show¬(b.length:Int)<(b.length:Int) by omega)) rfl
 rw[w1l]
 refine d2n _ _ _ _ _ _ _ _ _ _ _ _ ?_
 unfold h2l
 dsimp only
 erw[e]
 cases(List.range' 0 b.length).any (e1b b t q)with
 |true=>exact a0c rfl (a0a rfl rfl)
 |false=>exact a0a rfl rfl
theorem o9 (s:ByteArray)(n:Int)(p:List (Ty.den TI))(q:LN)(o:List (Ty.den TI))(f:LN)(ha:p.length≤200)(hb:q.length≤200)(hc:o.length≤200)(hd:f.length≤200):op_9 [.s s,.n n,.l TI p,.l TNd q,.l TI o,.l TNd f]=some (0,[.l TI (p++o)]):=by
 rw[p2t]
 refine h2u _ _ _ _ _ _ _ ?_
 unfold fn_9_t
 have w:IntKind.wrap .i64 ((p.length:Int)+(o.length:Int))=((p.length:Int)+(o.length:Int)):=w64 (by omega) (by omega)
 refine a0a ?_ (a0a (dt (by omega)) (a0a (dt (by simp only[List.nil_append];omega)) rfl))
 rw[w,dt (show(0:Int)≤_ by omega),dt (show _≤(281474976710656:Int) by omega)];rfl
theorem o10 (s:ByteArray)(n:Int)(p:List (Ty.den TI))(q:LN)(o:List (Ty.den TI))(f:LN)(ha:p.length≤200)(hb:q.length≤200)(hc:o.length≤200)(hd:f.length≤200):t1a [.s s,.n n,.l TI p,.l TNd q,.l TI o,.l TNd f]=some (0,[.l TNd (q++f)]):=by
 rw[x1z]
 refine d2h _ _ _ _ _ _ _ ?_
 unfold o2b
 have w:IntKind.wrap .i64 ((q.length:Int)+(f.length:Int))=((q.length:Int)+(f.length:Int)):=w64 (by omega) (by omega)
 refine a0a ?_ (a0a (dt (by omega)) (a0a (dt (by simp only[List.nil_append];omega)) rfl))
 rw[w,dt (show(0:Int)≤_ by omega),dt (show _≤(281474976710656:Int) by omega)];rfl
theorem o11 (s:ByteArray)(n:Int)(p:List (Ty.den TI))(q:LN)(o:List (Ty.den TI))(f:LN)(ha:p.length≤200)(hb:q.length≤200)(hc:o.length≤200)(hd:f.length≤200):h1f [.s s,.n n,.l TI p,.l TNd q,.l TI o,.l TNd f]=some (0,[.l TI (p++o)]):=by
 rw[v1k]
 refine f2i _ _ _ _ _ _ _ ?_
 unfold q2d
 exact a0a (dt (by omega)) (a0a (dt (by omega)) rfl)
theorem o12 (s:ByteArray)(n:Int)(p:List (Ty.den TI))(q:LN)(o:List (Ty.den TI))(f:LN)(ha:p.length≤200)(hb:q.length≤200)(hc:o.length≤200)(hd:f.length≤200):i1r [.s s,.n n,.l TI p,.l TNd q,.l TI o,.l TNd f]=some (0,[.l TNd (q++f)]):=by
 rw[y1p]
 refine d2t _ _ _ _ _ _ _ ?_
 unfold m2o
 exact a0a (dt (by omega)) (a0a (dt (by omega)) rfl)
def wfR (b c:LP)(n:Int)(p:LI)(q:LN)(o:LI)(f:LN):Bool:=
 decide (0<p.length)&&(!decide (ptS c n∈p++o)&&(decide (p++o).Nodup&&(decide (nd (q++f)).Nodup&&(lieB b (p++o) q f&& !(List.range' 0 b.length).any (e1b b (p++o) q)))))
theorem o27 (a:LS)(b c:LP)(r:LR)(s:ByteArray)(n:Int)(p:LI)(q:LN)(o:LI)(f:LN)(hn:0≤n)(hn2:n<(c.length:Int))(hq:f0c b q)(hf:f0c b f)(lb:b.length≤100000)(ha:p.length≤200)(hb:q.length≤200)(hc:o.length≤200)(hd:f.length≤200):s1p [.l TS a,.l TPt b,.l TPt c,.l TRt r,.s s,.n n,.l TI p,.l TNd q,.l TI o,.l TNd f]=some (0,[.b (wfR b c n p q o f)]):=by
 rw[w1u]
 refine e2s _ _ _ _ _ _ _ _ _ _ _ ?_
 unfold j2m wfR
 have lt:(p++o).length≤100000:=by rw[List.length_append];omega
 have ln:(q++f).length≤100000:=by rw[List.length_append];omega
 have e9:op_9 [.s s,.n n,.l TI p,.l TNd q,.l TI o,.l TNd f]=some (0,[.l TI (p++o)]):=o9 s n p q o f ha hb hc hd
 have e10:t1a [.s s,.n n,.l TI p,.l TNd q,.l TI o,.l TNd f]=some (0,[.l TNd (q++f)]):=o10 s n p q o f ha hb hc hd
 have e33:=o33 (p++o) (ptS c n) lt
 have e34:=o34 (p++o) lt
 have e36:=o36 (q++f) ln
 have e38:=o38 a b c r s n p q o f (p++o) hq hf (by omega) (by omega) lt
 have e39:=o39 a b c r s n p q o f (p++o) lb (by omega) lt
 generalize lieB b (p++o) q f=B1 at e38⊢
 generalize (List.range' 0 b.length).any (e1b b (p++o) q)=B2 at e39⊢
 generalize decide (ptS c n∈p++o)=B3 at e33⊢
 generalize decide (p++o).Nodup=B4 at e34⊢
 generalize decide (nd (q++f)).Nodup=B5 at e36⊢
 generalize p++o=t at*
 generalize q++f=d at*
 dsimp only
 erw[e9];refine a0a rfl ?_
 erw[e10];refine a0a rfl ?_
 by_cases h:0<p.length
 ·rw[dt h]
  refine a0a (dt (show(p.length:Int)>0 by omega)) (a0a (h1s hn hn2) ?_)
  erw[e33];refine a0a rfl ?_
  cases B3 with
  |true=>exact a0c rfl rfl
  |false=>
  refine a0a rfl ?_
  erw[e34];refine a0a rfl ?_
  cases B4 with
  |false=>exact a0c rfl rfl
  |true=>
  refine a0a rfl ?_
  erw[e36];refine a0a rfl ?_
  cases B5 with
  |false=>exact a0c rfl rfl
  |true=>
  refine a0a rfl ?_
  erw[e38];refine a0a rfl ?_
  cases B1 with
  |false=>exact a0c rfl rfl
  |true=>
  refine a0a rfl ?_
  erw[e39]
  exact a0a rfl rfl
 ·rw[df h]
  exact a0c (df (show¬(p.length:Int)>0 by omega)) rfl
end Go.Proofs.YtplcpifjiodhcaaGreat.Vx
namespace Go.Proofs.YtplcpifjiodhcaaGreat.Vx
open Go Go.RowKit
set_option linter.unusedVariables false
set_option linter.unusedSimpArgs false
set_option maxRecDepth 100000
set_option maxHeartbeats 1000000
theorem o47 (l:LI)(x:Int)(hl:l.length≤100000):e1l [.l TI l,.n x]=some (0,[.n ((l.count x:Nat):Int)]):=by
 have e:y0x [.k 0,.l TI l,.n x,.n (0:Int),.n (0:Int)]=some (0,[.n ((l.count x:Nat):Int)]):=by
  rw[c1z]
  have key:=b0a (st:=k0v) (fun i=>[.k 0,.l TI l,.n x,.n (((l.take i).count x:Nat):Int),.n (i:Int)]) l.length (0,[.n ((l.count x:Nat):Int)]) (fun i hi=> ?_) ?_ FU (by unfold FU;omega)
  ·exact key
  ·have u:(l.take (i+1)).count x=(l.take i).count x+(if l.getD i 0==x then 1 else 0):=by
    rw[h1i l 0 hi,List.count_append,List.count_singleton]
   have b:(l.take i).count x≤(l.take i).length:=List.count_le_length
   rw[List.length_take]at b
   refine u0p _ _ _ _ (by omega) _ ?_
   unfold u0q
   refine a0a (dt (show(i:Int)<(l.length:Int) by omega)) ?_
   cases h:(l.getD i 0==x)with
   |true=>
    refine a0a h ?_
    rw[h]at u
    rw[w1n i (by omega),w1n ((l.take i).count x) (by omega)]
    show _=some (Step.go [.k 0,.l TI l,.n x,.n (((l.take (i+1)).count x:Nat):Int),.n ((i+1:Nat):Int)])
    rw[u];rfl
   |false=>
    refine a0c h ?_
    rw[h]at u
    rw[w1n i (by omega)]
    show _=some (Step.go [.k 0,.l TI l,.n x,.n (((l.take (i+1)).count x:Nat):Int),.n ((i+1:Nat):Int)])
    rw[u];rfl
  ·refine u0p _ _ _ _ (by omega) _ ?_
   unfold u0q
   refine a0c (df (show¬(l.length:Int)<(l.length:Int) by omega)) ?_
   rw[List.take_length];rfl
 rw[w1p]
 refine c2h _ _ _ ?_
 unfold m2d
 dsimp only
 erw[e]
 exact a0a rfl rfl
theorem nd_up (l:LN){i:Nat}(h:i<l.length):nd (l.take (i+1))=nd (l.take i)++[f1 (l.getD i (Ty.dflt TNd))]:=by
 rw[h1i l (Ty.dflt TNd) h];unfold nd;rw[List.map_append];rfl
theorem o46 (l:LN)(hl:l.length≤100000):q1w [.l TNd l]=some (0,[.l TI (nd l)]):=by
 have e:y0h [.k 0,.l TNd l,.n (0:Int),.l TI []]=some (0,[.l TI (nd l)]):=by
  rw[d1i]
  refine b0a (st:=j0p) (fun i=>[.k 0,.l TNd l,.n (i:Int),.l TI (nd (l.take i))]) l.length (0,[.l TI (nd l)]) (fun i hi=> ?_) ?_ FU (by unfold FU;omega)
  ·have ln:(nd (l.take i)).length≤100000:=by rw[o0y,List.length_take];omega
   refine s0f _ _ _ (by omega) _ ?_
   unfold v0r
   refine a0a (dt (show(i:Int)<(l.length:Int) by omega)) (a0a (dt (show((nd (l.take i)).length+1)*8≤140737488355328 by omega)) ?_)
   rw[w1n i (by omega),nd_up l hi];rfl
  ·refine s0f _ _ _ (by omega) _ ?_
   unfold v0r
   refine a0c (df (show¬(l.length:Int)<(l.length:Int) by omega)) ?_
   rw[List.take_length];rfl
 rw[a2n]
 refine d2b _ _ ?_
 unfold i2f
 dsimp only
 erw[e]
 exact a0a rfl rfl
theorem cnt0 (l:LI)(x:Int):decide (((l.count x:Nat):Int)>0)=decide (x∈l):=by
 rw[Bool.eq_iff_iff,decide_eq_true_eq,decide_eq_true_eq,←List.count_pos_iff];omega
theorem cnt1 (l:LI):(List.range' 0 l.length).any (fun i=>decide (((l.count (l.getD i 0):Nat):Int)>1))= !decide l.Nodup:=by
 rw[c0g l 0 (fun y=>decide (((l.count y:Nat):Int)>1)),Bool.eq_iff_iff,List.any_eq_true,Bool.not_eq_true',decide_eq_false_iff_not,List.nodup_iff_count]
 constructor
 ·rintro⟨y,hy,h⟩ k
  have:=k y
  rw[decide_eq_true_eq]at h
  omega
 ·intro k
  apply Classical.byContradiction
  intro q
  apply k
  intro y
  apply Classical.byContradiction
  intro h
  apply q
  refine⟨y,?_,by rw[decide_eq_true_eq];omega⟩
  apply Classical.byContradiction
  intro z
  rw[List.count_eq_zero.2 z]at h
  omega
theorem lp29_6 (a:LS)(b c:LP)(r:LR)(s:ByteArray)(n:Int)(p:LI)(q:LN)(o:LI)(f:LN)(t d:LI)(hl:t.length≤100000):y0b [.k 0,.n (0:Int),.l TS a,.l TPt b,.l TPt c,.l TRt r,.s s,.n n,.l TI p,.l TNd q,.l TI o,.l TNd f,.l TI t,.l TI d]=some (bif !decide t.Nodup then(1,[.b false])else(0,[.l TS a,.l TPt b,.l TPt c,.l TRt r,.s s,.n n,.l TI p,.l TNd q,.l TI o,.l TNd f,.l TI t,.l TI d])):=by
 rw[c1o,←cnt1 t]
 refine a0x (fun i=>[.k 0,.n (i:Int),.l TS a,.l TPt b,.l TPt c,.l TRt r,.s s,.n n,.l TI p,.l TNd q,.l TI o,.l TNd f,.l TI t,.l TI d]) t.length (fun i=>decide ((((t.count (t.getD i 0)):Nat):Int)>1)) (1,[.b false]) (0,[.l TS a,.l TPt b,.l TPt c,.l TRt r,.s s,.n n,.l TI p,.l TNd q,.l TI o,.l TNd f,.l TI t,.l TI d]) (fun i hi h=> ?_) (fun i hi h=> ?_) ?_ FU (by unfold FU;omega)
 ·refine k0f _ _ _ _ _ _ _ _ _ _ _ _ _ (by omega) _ ?_
  unfold n0u
  refine a0a (dt (show(i:Int)<(t.length:Int) by omega)) ?_
  have a:=o47 t (t.getD i 0) hl
  dsimp only
  erw[a]
  refine a0a rfl (a0c h ?_)
  rw[w1n i (by omega)];rfl
 ·refine k0f _ _ _ _ _ _ _ _ _ _ _ _ _ (by omega) _ ?_
  unfold n0u
  refine a0a (dt (show(i:Int)<(t.length:Int) by omega)) ?_
  have a:=o47 t (t.getD i 0) hl
  dsimp only
  erw[a]
  exact a0a rfl (a0a h rfl)
 ·refine k0f _ _ _ _ _ _ _ _ _ _ _ _ _ (by omega) _ ?_
  unfold n0u
  exact a0c (df (show¬(t.length:Int)<(t.length:Int) by omega)) rfl
theorem lp29_11 (a:LS)(b c:LP)(r:LR)(s:ByteArray)(n:Int)(p:LI)(q:LN)(o:LI)(f:LN)(t d:LI)(hl:d.length≤100000):r0k [.k 0,.n (0:Int),.l TS a,.l TPt b,.l TPt c,.l TRt r,.s s,.n n,.l TI p,.l TNd q,.l TI o,.l TNd f,.l TI t,.l TI d]=some (bif !decide d.Nodup then(1,[.b false])else(0,[.l TS a,.l TPt b,.l TPt c,.l TRt r,.s s,.n n,.l TI p,.l TNd q,.l TI o,.l TNd f,.l TI t])):=by
 rw[x0n,←cnt1 d]
 refine a0x (fun i=>[.k 0,.n (i:Int),.l TS a,.l TPt b,.l TPt c,.l TRt r,.s s,.n n,.l TI p,.l TNd q,.l TI o,.l TNd f,.l TI t,.l TI d]) d.length (fun i=>decide ((((d.count (d.getD i 0)):Nat):Int)>1)) (1,[.b false]) (0,[.l TS a,.l TPt b,.l TPt c,.l TRt r,.s s,.n n,.l TI p,.l TNd q,.l TI o,.l TNd f,.l TI t]) (fun i hi h=> ?_) (fun i hi h=> ?_) ?_ FU (by unfold FU;omega)
 ·refine h0k _ _ _ _ _ _ _ _ _ _ _ _ _ (by omega) _ ?_
  unfold j0z
  refine a0a (dt (show(i:Int)<(d.length:Int) by omega)) ?_
  have a:=o47 d (d.getD i 0) hl
  dsimp only
  erw[a]
  refine a0a rfl (a0c h ?_)
  rw[w1n i (by omega)];rfl
 ·refine h0k _ _ _ _ _ _ _ _ _ _ _ _ _ (by omega) _ ?_
  unfold j0z
  refine a0a (dt (show(i:Int)<(d.length:Int) by omega)) ?_
  have a:=o47 d (d.getD i 0) hl
  dsimp only
  erw[a]
  exact a0a rfl (a0a h rfl)
 ·refine h0k _ _ _ _ _ _ _ _ _ _ _ _ _ (by omega) _ ?_
  unfold j0z
  exact a0c (df (show¬(d.length:Int)<(d.length:Int) by omega)) rfl
def oddB (b:LP)(t:LI)(q f:LN)(i:Nat):Bool:=(!(decide (ptS b (i:Int)∈t)==decide ((i:Int)∈nd q)))||(decide (ptS b (i:Int)∈t)&&decide ((i:Int)∈nd f))
theorem lp29_16 (a:LS)(b c:LP)(r:LR)(s:ByteArray)(n:Int)(p:LI)(q:LN)(o:LI)(f:LN)(t:LI)(hl:t.length≤100000)(hb:b.length≤100000)(hq:q.length≤100000)(hf:f.length≤100000):u0b [.k 0,.n (0:Int),.l TS a,.l TPt b,.l TPt c,.l TRt r,.s s,.n n,.l TI p,.l TNd q,.l TI o,.l TNd f,.l TI t]=some (bif (List.range' 0 b.length).any (oddB b t q f)then(1,[.b false])else(0,[])):=by
 rw[x0p]
 have g: ∀i,i<b.length→(f0v [.k 0,.n (i:Int),.l TS a,.l TPt b,.l TPt c,.l TRt r,.s s,.n n,.l TI p,.l TNd q,.l TI o,.l TNd f,.l TI t]).sel=some (bif oddB b t q f i then .stop 1 [.b false]else .go [.k 0,.n ((i+1:Nat):Int),.l TS a,.l TPt b,.l TPt c,.l TRt r,.s s,.n n,.l TI p,.l TNd q,.l TI o,.l TNd f,.l TI t]):=fun i hi=>by
  refine o0u _ _ _ _ _ _ _ _ _ _ _ _ (by omega) _ ?_
  unfold q0s oddB
  refine a0a (dt (show(i:Int)<(b.length:Int) by omega)) ?_
  have a1:=o47 t (ptS b (i:Int)) hl
  have a2:=o46 q hq
  have a3:=o47 (nd q) (i:Int) (by rw[o0y];exact hq)
  have a4:=o46 f hf
  have a5:=o47 (nd f) (i:Int) (by rw[o0y];exact hf)
  have c1:=cnt0 t (ptS b (i:Int))
  have c2:=cnt0 (nd q) (i:Int)
  have c3:=cnt0 (nd f) (i:Int)
  generalize decide (ptS b (i:Int)∈t)=B1 at c1⊢
  generalize decide ((i:Int)∈nd q)=B2 at c2⊢
  generalize decide ((i:Int)∈nd f)=B3 at c3⊢
  dsimp only
  erw[a1];refine a0a rfl ?_
  erw[a2];refine a0a rfl ?_
  erw[a3];refine a0a rfl ?_
  change(Tree.node (!(decide (((t.count (ptS b (i:Int)):Nat):Int)>0)==decide ((((nd q).count (i:Int):Nat):Int)>0))) _ _).sel=_
  rw[c2]
  cases B1 with
  |true=>
   cases B2 with
   |false=>exact a0a (by rw[c1];rfl) rfl
   |true=>
    refine a0c (by rw[c1];rfl) (a0a c1 ?_)
    erw[a4];refine a0a rfl ?_
    erw[a5];refine a0a rfl ?_
    cases B3 with
    |true=>exact a0a c3 rfl
    |false=>
     refine a0c c3 ?_
     rw[w1n i (by omega)];rfl
  |false=>
   cases B2 with
   |true=>exact a0a (by rw[c1];rfl) rfl
   |false=>
    refine a0c (by rw[c1];rfl) (a0c c1 ?_)
    rw[w1n i (by omega)];rfl
 refine a0x (fun i=>[.k 0,.n (i:Int),.l TS a,.l TPt b,.l TPt c,.l TRt r,.s s,.n n,.l TI p,.l TNd q,.l TI o,.l TNd f,.l TI t]) b.length (oddB b t q f) (1,[.b false]) (0,[]) (fun i hi h=> ?_) (fun i hi h=> ?_) ?_ FU (by unfold FU;omega)
 ·rw[g i hi,h];rfl
 ·rw[g i hi,h];rfl
 ·refine o0u _ _ _ _ _ _ _ _ _ _ _ _ (by omega) _ ?_
  unfold q0s
  exact a0c (df (show¬(b.length:Int)<(b.length:Int) by omega)) rfl
theorem lie_odd (b:LP)(t:LI)(q f:LN)(hq:f0c b q)(hf:f0c b f):(!(List.range' 0 b.length).any (oddB b t q f))=(lieB b t q f&& !(List.range' 0 b.length).any (e1b b t q)):=by
 have nm: ∀(l:LN) (i:Int),i∈nd l↔ ∃d∈l,f1 d=i:=fun l i=>List.mem_map
 rw[Bool.eq_iff_iff]
 unfold lieB
 simp only[Bool.not_eq_true',Bool.and_eq_true,List.any_eq_false,List.mem_range'_1,Bool.not_eq_true,decide_eq_true_eq,Bool.not_eq_false',decide_eq_false_iff_not]
 unfold oddB e1b
 constructor
 ·intro h
  have k: ∀i:Nat,i<b.length→(ptS b (i:Int)∈t↔(i:Int)∈nd q)∧ ¬(ptS b (i:Int)∈t∧(i:Int)∈nd f):=fun i hi=>by
   have:=h i (by omega)
   clear nm h
   by_cases c1:ptS b (i:Int)∈t<;>by_cases c2:(i:Int)∈nd q<;>by_cases c3:(i:Int)∈nd f<;>simp[c1,c2,c3]at this⊢
  refine⟨⟨fun d hd=> ?_,fun d hd=> ?_⟩,fun i hi=> ?_⟩
  ·have o:=hq d hd
   obtain⟨i,hi⟩: ∃i:Nat,(i:Int)=f1 d:=⟨(f1 d).toNat,by omega⟩
   have:=(k i (by omega)).1.2 ((nm q _).2 ⟨d,hd,hi.symm⟩)
   rw[←hi];exact fun z=>z this
  ·have o:=hf d hd
   obtain⟨i,hi⟩: ∃i:Nat,(i:Int)=f1 d:=⟨(f1 d).toNat,by omega⟩
   intro z
   rw[←hi]at z
   exact(k i (by omega)).2 ⟨z,(nm f _).2 ⟨d,hd,hi.symm⟩⟩
  ·have:=(k i (by omega)).1
   clear nm h k
   by_cases c1:ptS b (i:Int)∈t<;>by_cases c2:(i:Int)∈nd q<;>simp[c1,c2]at this⊢
 ·rintro⟨⟨h1,h2⟩,h3⟩ i hi
  have a1:(i:Int)∈nd q→ptS b (i:Int)∈t:=fun z=>by
   obtain⟨d,hd,e⟩:=(nm q _).1 z
   have:=h1 d hd
   rw[e]at this;exact Classical.not_not.1 this
  have a2:(i:Int)∈nd f→ ¬ptS b (i:Int)∈t:=fun z=>by
   obtain⟨d,hd,e⟩:=(nm f _).1 z
   have:=h2 d hd
   rw[e]at this;exact this
  have a3:=h3 i hi
  clear nm h1 h2 h3
  by_cases c1:ptS b (i:Int)∈t<;>by_cases c2:(i:Int)∈nd q<;>by_cases c3:(i:Int)∈nd f<;>simp[c1,c2,c3]at a1 a2 a3⊢
theorem o29 (a:LS)(b c:LP)(r:LR)(s:ByteArray)(n:Int)(p:LI)(q:LN)(o:LI)(f:LN)(hn:0≤n)(hn2:n<(c.length:Int))(hq:f0c b q)(hf:f0c b f)(lb:b.length≤100000)(ha:p.length≤200)(hb:q.length≤200)(hc:o.length≤200)(hd:f.length≤200):q1j [.l TS a,.l TPt b,.l TPt c,.l TRt r,.s s,.n n,.l TI p,.l TNd q,.l TI o,.l TNd f]=some (0,[.b (wfR b c n p q o f)]):=by
 rw[a2c]
 refine e2a _ _ _ _ _ _ _ _ _ _ _ ?_
 unfold q2f wfR
 have lt:(p++o).length≤100000:=by rw[List.length_append];omega
 have ln:(q++f).length≤100000:=by rw[List.length_append];omega
 have e11:h1f [.s s,.n n,.l TI p,.l TNd q,.l TI o,.l TNd f]=some (0,[.l TI (p++o)]):=o11 s n p q o f ha hb hc hd
 have e12:i1r [.s s,.n n,.l TI p,.l TNd q,.l TI o,.l TNd f]=some (0,[.l TNd (q++f)]):=o12 s n p q o f ha hb hc hd
 have e46:=o46 (q++f) ln
 have e47:=o47 (p++o) (ptS c n) lt
 have c0:=cnt0 (p++o) (ptS c n)
 have l6:=lp29_6 a b c r s n p q o f (p++o) (nd (q++f)) lt
 have l11:=lp29_11 a b c r s n p q o f (p++o) (nd (q++f)) (by rw[o0y];exact ln)
 have l16:=lp29_16 a b c r s n p q o f (p++o) lt lb (by omega) (by omega)
 have lo:=lie_odd b (p++o) q f hq hf
 rw[←lo]
 generalize (List.range' 0 b.length).any (oddB b (p++o) q f)=B2 at l16⊢
 generalize decide (ptS c n∈p++o)=B3 at c0⊢
 generalize decide (p++o).Nodup=B4 at l6⊢
 generalize decide (nd (q++f)).Nodup=B5 at l11⊢
 clear lo
 generalize nd (q++f)=m at*
 generalize p++o=t at*
 generalize q++f=d at*
 dsimp only
 erw[e11];refine a0a rfl ?_
 erw[e12];refine a0a rfl ?_
 erw[e46];refine a0a rfl ?_
 by_cases h:0<p.length
 ·rw[dt h]
  refine a0c (bf (show(p.length:Int)≠0 by omega)) (a0a (h1s hn hn2) ?_)
  erw[e47];refine a0a rfl ?_
  cases B3 with
  |true=>exact a0a c0 rfl
  |false=>
  refine a0c c0 ?_
  erw[l6]
  cases B4 with
  |false=>exact a0c rfl (a0a rfl rfl)
  |true=>
  refine a0a rfl ?_
  erw[l11]
  cases B5 with
  |false=>exact a0c rfl (a0a rfl rfl)
  |true=>
  refine a0a rfl ?_
  erw[l16]
  cases B2 with
  |true=>exact a0c rfl (a0a rfl rfl)
  |false=>exact a0a rfl rfl
 ·rw[df h]
  exact a0a (bt (show(p.length:Int)=0 by omega)) rfl
end Go.Proofs.YtplcpifjiodhcaaGreat.Vx
namespace Go.Proofs.YtplcpifjiodhcaaGreat.Vx
open Go Go.RowKit
set_option linter.unusedVariables false
set_option linter.unusedSimpArgs false
set_option maxRecDepth 100000
set_option maxHeartbeats 1000000
def okS (a:LS)(b c:LP)(r:LR):Prop:=(a.length≤9223372036854775807∧b.length≤9223372036854775807∧c.length≤9223372036854775807∧r.length≤9223372036854775807)∧ ∀x∈nms a b c r,ByteArray.size x≤9223372036854775807
theorem z1d {a:LS}{b c:LP}{r:LR}(h:okS a b c r)(i:Nat)(hi:i<(nms a b c r).length):(nAt (nms a b c r) i).size≤9223372036854775807:=h.2 _ (sAt _ hi)
theorem inB_t {l:List Int}{n:Int}(h:inB l n=true):l.length≤16∧ ∀x∈l,0≤x∧x<n:=by
 unfold inB at h
 rw[Bool.and_eq_true,decide_eq_true_eq,List.all_eq_true]at h
 refine⟨h.1,fun x hx=> ?_⟩
 obtain⟨i,hi,rfl⟩:=List.getElem_of_mem hx
 have:=o1g (h.2 i (List.mem_range'_1.2 (by omega)))
 rw[j0x _ _ hi]at this
 exact this
theorem inB_nd {b:LP}{q:LN}(h:inB (nd q) (b.length:Int)=true):q.length≤16∧f0c b q:=by
 obtain⟨h1,h2⟩:=inB_t h
 rw[o0y]at h1
 exact⟨h1,fun d hd=>h2 _ (List.mem_map_of_mem hd)⟩
def rtOk (b c:LP)(e:Rt):Prop:=(0≤eN e∧eN e<(c.length:Int))∧((eP e).length≤200∧(eQ e).length≤200∧(eO e).length≤200∧(eF e).length≤200)∧f0c b (eQ e)∧f0c b (eF e)
theorem may_rt {a:LS}{b c:LP}{r:LR}(h:mayL a b c r=true):b.length≤32∧r.length≤64∧ ∀i,i<r.length→rtOk b c (r.getD i (Ty.dflt TRt)):=by
 unfold mayL at h
 rw[Bool.and_eq_true]at h
 obtain⟨h1,h2,h3,h4⟩:=(@of_decide_eq_true (smallL a b c r) (instDecidableSmallL a b c r) h.1)
 have h:=h.2
 simp only[Bool.and_eq_true]at h
 obtain⟨h5,h6,h7,h8⟩:=h
 refine⟨h2,h4,fun i hi=> ?_⟩
 have k:=List.all_eq_true.1 h7 i (List.mem_range'_1.2 (by omega))
 unfold okR mayR at k
 simp only[Bool.and_eq_true,decide_eq_true_eq]at k
 obtain⟨k1,k2,k3,k4,k5,k6⟩:=k
 have q3:=(inB_t k3).1
 have q4:=inB_nd k4
 have q5:=(inB_t k5).1
 have q6:=inB_nd k6
 exact⟨⟨k1,k2⟩,⟨by omega,by omega,by omega,by omega⟩,q4.2,q6.2⟩
def wfE (b c:LP)(e:Rt):Bool:=wfR b c (eN e) (eP e) (eQ e) (eO e) (eF e)
theorem e27 (a:LS)(b c:LP)(r:LR)(e:Rt)(h:rtOk b c e)(lb:b.length≤100000):s1p [.l TS a,.l TPt b,.l TPt c,.l TRt r,.s (eS e),.n (eN e),.l TI (eP e),.l TNd (eQ e),.l TI (eO e),.l TNd (eF e)]=some (0,[.b (wfE b c e)]):=
 o27 a b c r (eS e) (eN e) (eP e) (eQ e) (eO e) (eF e) h.1.1 h.1.2 h.2.2.1 h.2.2.2 lb h.2.1.1 h.2.1.2.1 h.2.1.2.2.1 h.2.1.2.2.2
theorem e29 (a:LS)(b c:LP)(r:LR)(e:Rt)(h:rtOk b c e)(lb:b.length≤100000):q1j [.l TS a,.l TPt b,.l TPt c,.l TRt r,.s (eS e),.n (eN e),.l TI (eP e),.l TNd (eQ e),.l TI (eO e),.l TNd (eF e)]=some (0,[.b (wfE b c e)]):=
 o29 a b c r (eS e) (eN e) (eP e) (eQ e) (eO e) (eF e) h.1.1 h.1.2 h.2.2.1 h.2.2.2 lb h.2.1.1 h.2.1.2.1 h.2.1.2.2.1 h.2.1.2.2.2
def ckH (a:LS)(b c:LP)(r:LR):Option Nat:=b0i (fun i=> !wfE b c (r.getD i (Ty.dflt TRt))) r.length
def ckA (a:LS)(b c:LP)(r:LR):Int×Int:=bif mayL a b c r then(match ckH a b c r with|some k=>(50,(k:Int))|none=>(0,0))else(2,0)
theorem o18 (a:LS)(b c:LP)(r:LR)(hs:okS a b c r):b2y [.l TS a,.l TPt b,.l TPt c,.l TRt r]=some (0,[.n (ckA a b c r).1,.n (ckA a b c r).2]):=by
 rw[x1t]
 refine c2t _ _ _ _ _ ?_
 unfold o2f ckA
 have e1:=oMay a b c r (z1d hs)
 have e2:mayL a b c r=true→z0z [.k 0,.l TRt r,.n (r.length:Int),.n (0:Int),.l TS a,.l TPt b,.l TPt c,.l TRt r]=some (match ckH a b c r with|some k=>(1,[.n 50,.n (k:Int)])|none=>(0,[])):=fun h=>by
  obtain⟨lb,lr,hr⟩:=may_rt h
  have e3: ∀i,i<r.length→s1p [.l TS a,.l TPt b,.l TPt c,.l TRt r,.s (eS (r.getD i (Ty.dflt TRt))),.n (eN (r.getD i (Ty.dflt TRt))),.l TI (eP (r.getD i (Ty.dflt TRt))),.l TNd (eQ (r.getD i (Ty.dflt TRt))),.l TI (eO (r.getD i (Ty.dflt TRt))),.l TNd (eF (r.getD i (Ty.dflt TRt)))]=some (0,[.b (wfE b c (r.getD i (Ty.dflt TRt)))]):=
   fun i hi=>e27 a b c r _ (hr i hi) (by omega)
  rw[c1y]
  unfold ckH
  refine f0f (fun i=>[.k 0,.l TRt r,.n (r.length:Int),.n (i:Int),.l TS a,.l TPt b,.l TPt c,.l TRt r]) r.length (fun i=> !wfE b c (r.getD i (Ty.dflt TRt))) (fun k=>(1,[.n 50,.n (k:Int)])) (0,[]) (fun i hi h=> ?_) (fun i hi h=> ?_) ?_ FU (by unfold FU;omega)
  ·refine l0g _ _ _ _ _ _ _ (by omega) rfl _ ?_
   unfold n0k
   refine a0a (dt (show(i:Int)<(r.length:Int) by omega)) ?_
   have e3:=e3 i hi
   dsimp only
   erw[e3]
   refine a0a rfl (a0c h ?_)
   rw[w1n i (by omega)];rfl
  ·refine l0g _ _ _ _ _ _ _ (by omega) rfl _ ?_
   unfold n0k
   refine a0a (dt (show(i:Int)<(r.length:Int) by omega)) ?_
   have e3:=e3 i hi
   dsimp only
   erw[e3]
   exact a0a rfl (a0a h rfl)
  ·refine l0g _ _ _ _ _ _ _ (by omega) rfl _ ?_
   unfold n0k
   exact a0c (df (show¬(r.length:Int)<(r.length:Int) by omega)) rfl
 dsimp only
 erw[e1]
 refine a0a rfl ?_
 cases hm:mayL a b c r with
 |false=>exact a0a rfl rfl
 |true=>
  refine a0c rfl ?_
  have e2:=e2 hm
  erw[e2]
  cases ckH a b c r with
  |none=>exact a0a rfl rfl
  |some k=>exact a0c rfl (a0a rfl rfl)
theorem o19 (a:LS)(b c:LP)(r:LR)(hs:okS a b c r):f2v [.l TS a,.l TPt b,.l TPt c,.l TRt r]=some (0,[.n (ckA a b c r).1,.n (ckA a b c r).2]):=by
 rw[x1x]
 refine d2x _ _ _ _ _ ?_
 unfold k2a ckA
 have e1:=o2t a b c r (z1d hs)
 have e2:mayL a b c r=true→z0k [.k 0,.n (0:Int),.l TS a,.l TPt b,.l TPt c,.l TRt r]=some (match ckH a b c r with|some k=>(1,[.n 50,.n (k:Int)])|none=>(0,[])):=fun h=>by
  obtain⟨lb,lr,hr⟩:=may_rt h
  have e3: ∀i,i<r.length→q1j [.l TS a,.l TPt b,.l TPt c,.l TRt r,.s (eS (r.getD i (Ty.dflt TRt))),.n (eN (r.getD i (Ty.dflt TRt))),.l TI (eP (r.getD i (Ty.dflt TRt))),.l TNd (eQ (r.getD i (Ty.dflt TRt))),.l TI (eO (r.getD i (Ty.dflt TRt))),.l TNd (eF (r.getD i (Ty.dflt TRt)))]=some (0,[.b (wfE b c (r.getD i (Ty.dflt TRt)))]):=
   fun i hi=>e29 a b c r _ (hr i hi) (by omega)
  rw[d1t]
  unfold ckH
  refine f0f (fun i=>[.k 0,.n (i:Int),.l TS a,.l TPt b,.l TPt c,.l TRt r]) r.length (fun i=> !wfE b c (r.getD i (Ty.dflt TRt))) (fun k=>(1,[.n 50,.n (k:Int)])) (0,[]) (fun i hi h=> ?_) (fun i hi h=> ?_) ?_ FU (by unfold FU;omega)
  ·refine k0u _ _ _ _ _ (by omega) _ ?_
   unfold o0f
   refine a0a (dt (show(i:Int)<(r.length:Int) by omega)) ?_
   have e3:=e3 i hi
   dsimp only
   erw[e3]
   refine a0a rfl (a0c h ?_)
   rw[w1n i (by omega)];rfl
  ·refine k0u _ _ _ _ _ (by omega) _ ?_
   unfold o0f
   refine a0a (dt (show(i:Int)<(r.length:Int) by omega)) ?_
   have e3:=e3 i hi
   dsimp only
   erw[e3]
   exact a0a rfl (a0a h rfl)
  ·refine k0u _ _ _ _ _ (by omega) _ ?_
   unfold o0f
   exact a0c (df (show¬(r.length:Int)<(r.length:Int) by omega)) rfl
 dsimp only
 erw[e1]
 refine a0a rfl ?_
 cases hm:mayL a b c r with
 |false=>exact a0a rfl rfl
 |true=>
  refine a0c rfl ?_
  have e2:=e2 hm
  erw[e2]
  cases ckH a b c r with
  |none=>exact a0a rfl rfl
  |some k=>exact a0c rfl (a0a rfl rfl)
end Go.Proofs.YtplcpifjiodhcaaGreat.Vx
