import Derived.Test.YtcoamiaifbjofaaX20w
import Derived.Test.YtcoamiaifbjofaaZ20
import Derived.Test.YtcoamiaifbjofaaVxBits
import Derived.Test.YtcoamiaifbjofaaVxLoop
noncomputable section
namespace Go.Proofs.Ytcoamiaifbjofaa.Vx
open Go Go.RowKit
set_option linter.unusedVariables false
set_option linter.unusedSimpArgs false
set_option maxRecDepth 100000
set_option maxHeartbeats 1000000
abbrev LR:=List (Ty.den TRd)
abbrev LW:=List (Ty.den TWay)
abbrev LI:=List (Ty.den TIn)
abbrev LBo:=List (Ty.den .bool)
abbrev Rd:=Ty.den TRd
abbrev eC (x:Rd):Int:=Prod.fst x
abbrev eY (x:Rd):Int:=Prod.fst (Prod.snd x)
abbrev eO (x:Rd):Int:=Prod.fst (Prod.snd (Prod.snd x))
abbrev eN (x:Rd):Int:=Prod.fst (Prod.snd (Prod.snd (Prod.snd x)))
abbrev eR (x:Rd):Int:=Prod.fst (Prod.snd (Prod.snd (Prod.snd (Prod.snd x))))
abbrev eL (x:Rd):LC:=Prod.snd (Prod.snd (Prod.snd (Prod.snd (Prod.snd x))))
abbrev mkRd (c y o n r:Int)(l:LC):Rd:=(c,y,o,n,r,l)
abbrev rz:Rd:=mkRd 0 0 0 0 0 []
abbrev mkIn (o n r:Int)(l:LC):Ty.den TIn:=(o,n,r,l)
abbrev mI (x y:Rd):Ty.den TIn:=mkIn (ior .u64 (eO x) (eO y)) (iand .u32 (eN x) (eN y)) (iand .u32 (eR x) (eR y)) (mg (eL x) (eL y))
theorem o3c (k:IntKind)(a b:Int):ior k a b=ior k b a:=by unfold ior;rw[BitVec.or_comm]
theorem k3k (k:IntKind)(a b:Int):iand k a b=iand k b a:=by unfold iand;rw[BitVec.and_comm]
theorem mg_comm (a b:LC):mg a b=mg b a:=by
 unfold mg
 cases h:eqc a b with
 |true=>have:=(i3i a b).1 h;subst this;rw[h]
 |false=>
  cases h2:eqc b a with
  |true=>have:=(i3i b a).1 h2;subst this;rw[h]at h2;cases h2
  |false=>rfl
theorem i3j (x y:Rd):mI x y=mI y x:=by
 unfold mI mkIn
 rw[o3c,k3k,k3k .u32 (eR x),mg_comm]
structure Sd where
 cy:Int
 bo:Bool
 bt:Bool
 bl:Bool
 br:Bool
 ro:Rd
 rt:Rd
 rl:Rd
abbrev rdD (x:Rd)(t:List Dat):List Dat:=.n (eC x)::.n (eY x)::.n (eO x)::.n (eN x)::.n (eR x)::.l TCmd (eL x)::t
abbrev sdD (k:Int)(a:Sd)(t:List Dat):List Dat:=.n k::.n a.cy::.b a.bo::.b a.bt::.b a.bl::.b a.br::t
abbrev rsD (a:Sd)(t:List Dat):List Dat:=rdD a.ro (rdD a.rt (rdD a.rl t))
abbrev Zt (l:LW)(i:Int)(s:LR)(m:LI)(d:LBo)(a b:Sd):List Dat:=
 .k 0::.l TWay l::.n i::.l TRd s::.l TIn m::.l .bool d::sdD 0 a (sdD 1 b (rsD a (rsD b [])))
theorem w1n (i:Nat)(h:i<1000000000):IntKind.wrap .i64 ((i:Int)+1)=((i+1:Nat):Int):=by rw[w64s (by omega) (by omega)];rfl
theorem memS {α:Type}{l:List α}{d:α}{i:Nat}(h:i<l.length):l.getD i d∈l:=by
 rw[List.getD_eq_getElem?_getD,List.getElem?_eq_getElem h];exact List.getElem_mem h
theorem pk1 {a m:Int}(h0:0<m)(h1:m≤1000000000): ∃p,t0c [.n a,.n m]=some (0,[.n p])∧0≤p∧p<m:=by
 have b1:Int.tmod a m<m:=Int.tmod_lt_of_pos a h0
 have b2: -m<Int.tmod a m:=Int.lt_tmod_of_pos a h0
 have w:IntKind.wrap .i64 (Int.tmod a m+m)=Int.tmod a m+m:=w64s (by omega) (by omega)
 refine⟨Int.tmod (Int.tmod a m+m) m,?_,Int.tmod_nonneg _ (by omega),Int.tmod_lt_of_pos _ h0⟩
 have k:=o3g (n0:=a) (n1:=m) (by omega)
 rw[w]at k
 exact k
theorem cl1 {l:LC}(h:l.length≤100):h3f [.l TCmd l]=some (0,[.l TCmd l]):=l3k l (by omega)
structure SdOk (s:LR)(k:Int)(a:Sd):Prop where
 own:a.bo=true→a.ro∈s∧eC a.ro=k∧eY a.ro=a.cy
 oth:a.bt=true→a.rt∈s∧eC a.rt=1-k∧eY a.rt=a.cy
 lat:a.bl=true→a.rl∈s∧eC a.rl=1-k
theorem SdOk.mono {s s':LR}{k:Int}{a:Sd}(h:SdOk s k a)(hs: ∀x∈s,x∈s'):SdOk s' k a:=
 ⟨fun e=>let⟨x,y⟩:=h.own e;⟨hs _ x,y⟩,fun e=>let⟨x,y⟩:=h.oth e;⟨hs _ x,y⟩,fun e=>let⟨x,y⟩:=h.lat e;⟨hs _ x,y⟩⟩
def Ln (s:LR):Prop:= ∀x∈s,(eL x).length≤20
theorem be1 {k c o n r:Int}{l:LC}{a:Sd}(hc: ¬c≤a.cy)(hl:l.length≤20)(h:a.bl=false∨a.bl=true∧ ¬eY a.rl≤c):
  h3g (.n c::.n o::.n n::.n r::.l TCmd l::sdD k a (rsD a []))=some (1,.n k::.n c::.n o::.n n::.n r::.n 0::sdD k ⟨c,true,false,a.bl,false,mkRd k c o n r l,rz,a.rl⟩ (rdD a.rl (.l TCmd l::rdD (mkRd k c o n r l) (rdD rz [])))):=by
 have hc1:h3f [.l TCmd l]=some (0,[.l TCmd l]):=cl1 (by omega)
 rcases h with h|⟨h,h2⟩
 ·exact p3q hc hc1 (by rw[h];rfl) hc1
 ·exact n3z hc hc1 (by rw[h];rfl) h h2 hc1
theorem be2 {k c o n r:Int}{l:LC}{a:Sd}(hc: ¬c≤a.cy)(hl:l.length≤20)(h:a.bl=true)(h2:eY a.rl=c):
  h3g (.n c::.n o::.n n::.n r::.l TCmd l::sdD k a (rsD a []))=some (2,.n k::.n c::.n o::.n n::.n r::.n 0::sdD k ⟨c,true,a.bl,false,false,mkRd k c o n r l,a.rl,rz⟩ (rdD a.rl (.l TCmd l::rdD (mkRd k c o n r l) (rdD rz [])))):=
 have hc1:h3f [.l TCmd l]=some (0,[.l TCmd l]):=cl1 (by omega)
 p3o hc hc1 (by rw[h];rfl) h (by omega) h2 hc1
theorem be3 {k c o n r:Int}{l:LC}{a:Sd}(hc: ¬c≤a.cy)(hl:l.length≤20)(h:a.bl=true)(h2:eY a.rl≤c)(h3: ¬eY a.rl=c):
  h3g (.n c::.n o::.n n::.n r::.l TCmd l::sdD k a (rsD a []))=some (3,.n k::.n c::.n o::.n n::.n r::.n 0::sdD k ⟨c,true,false,false,false,mkRd k c o n r l,rz,rz⟩ (rdD a.rl (.l TCmd l::rdD (mkRd k c o n r l) (rdD rz (rdD rz []))))):=
 have hc1:h3f [.l TCmd l]=some (0,[.l TCmd l]):=cl1 (by omega)
 p3s hc hc1 (by rw[h];rfl) h h2 h3 hc1
theorem he1 {s:LR}{k:Int}{a:Sd}{x:Rd}(hk:k=0∨k=1)(hs:SdOk s k a)(hx:x∈s)(hn:Ln s):
  (∃e br,h3d (.n (eC x)::.n (eY x)::.n (eO x)::.n (eN x)::.n (eR x)::sdD k a (.l TCmd (eL x)::rsD a []))=some (0,.n e::sdD k ⟨a.cy,a.bo,a.bt,a.bl,br,a.ro,a.rt,a.rl⟩ (rsD a [])))∨
  (eC x=1-k∧eY x=a.cy∧ ∃e,h3d (.n (eC x)::.n (eY x)::.n (eO x)::.n (eN x)::.n (eR x)::sdD k a (.l TCmd (eL x)::rsD a []))=some (1,.n e::sdD k ⟨a.cy,a.bo,true,a.bl,a.br,a.ro,x,a.rl⟩ (rsD a (rdD x []))))∨
  (eC x=1-k∧ ∃e,h3d (.n (eC x)::.n (eY x)::.n (eO x)::.n (eN x)::.n (eR x)::sdD k a (.l TCmd (eL x)::rsD a []))=some (2,.n e::sdD k ⟨a.cy,a.bo,a.bt,true,a.br,a.ro,a.rt,x⟩ (rsD a (rdD x [])))):=by
 have wk:IntKind.wrap .i64 ((1:Int)-k)=1-k:=w64s (by omega) (by omega)
 by_cases c0:eC x=1-k
 ·have c0':eC x=IntKind.wrap .i64 ((1:Int)-k):=by rw[wk];exact c0
  have cx:h3f [.l TCmd (eL x)]=some (0,[.l TCmd (eL x)]):=cl1 (by have:=hn x hx;omega)
  by_cases c1:eY x<a.cy
  ·exact .inl ⟨_,a.br,p3h c0' c1⟩
  by_cases c2:eY x>a.cy
  ·rcases Bool.eq_false_or_eq_true a.bl with hl|hl
   ·obtain⟨lm,_⟩:=hs.lat hl
    by_cases c3:eY x>eY a.rl
    ·exact .inr (.inr ⟨c0,0,o3i c0' c1 cx c2 hl c3⟩)
    by_cases c4:eY a.rl=eY x
    ·obtain⟨q,hq,_⟩:=t29 (eO a.rl) (eN a.rl) (eR a.rl) (eO x) (eN x) (eR x) (eL a.rl) (eL x) (by have:=hn _ lm;omega)
     cases q with
     |true=>exact .inl ⟨_,a.br,o3e c0' c1 cx c2 hl c3 c4 hq rfl⟩
     |false=>exact .inl ⟨_,a.br,p3t c0' c1 cx c2 hl c3 c4 hq rfl⟩
    ·exact .inl ⟨_,a.br,o3m c0' c1 cx c2 hl c3 c4⟩
   ·exact .inr (.inr ⟨c0,0,o3r c0' c1 cx c2 hl⟩)
  ·have c5:eY x=a.cy:=by omega
   rcases Bool.eq_false_or_eq_true a.bt with hl|hl
   ·obtain⟨lm,_,ly⟩:=hs.oth hl
    have c6:eY a.rt=eY x:=by omega
    obtain⟨q,hq,_⟩:=t29 (eO a.rt) (eN a.rt) (eR a.rt) (eO x) (eN x) (eR x) (eL a.rt) (eL x) (by have:=hn _ lm;omega)
    cases q with
    |true=>exact .inl ⟨_,a.br,o3z c0' c1 cx c2 hl c6 hq rfl⟩
    |false=>exact .inl ⟨4,true,p3d c0' c1 cx c2 hl c6 hq rfl⟩
   ·exact .inr (.inl ⟨c0,c5,0,o3k c0' c1 cx c2 hl⟩)
 ·exact .inl ⟨_,a.br,p3g (by rw[wk];exact c0)⟩
theorem me0 {k:Int}{a:Sd}(h: ¬(a.bo=true∧a.bt=true∧a.br=false)):t1c (sdD k a (rsD a []))=some (0,.n 0::.n 0::.n 0::.b false::sdD k a (rsD a [])):=by
 rcases Bool.eq_false_or_eq_true a.bo with h1|h1
 ·rcases Bool.eq_false_or_eq_true a.bt with h2|h2
  ·rcases Bool.eq_false_or_eq_true a.br with h3|h3
   ·exact p3e h1 h2 h3
   ·exact absurd ⟨h1,h2,h3⟩ h
  ·exact o3o h1 h2
 ·exact o3h h1
theorem me1 {k:Int}{a:Sd}(h1:a.bo=true)(h2:a.bt=true)(h3:a.br=false)(hl:(eL a.ro).length≤20):
  t1c (sdD k a (rsD a []))=some (1,.n (ior .u64 (eO a.ro) (eO a.rt))::.n (iand .u32 (eN a.ro) (eN a.rt))::.n (iand .u32 (eR a.ro) (eR a.rt))::.b true::sdD k a (rsD a [.l TCmd (mg (eL a.ro) (eL a.rt))])):=
 o3d h1 h2 h3 (u31 _ _ _ _ _ _ _ _ (by omega))
abbrev rat (s:LR)(i:Nat):Rd:=List.getD s i (Ty.dflt TRd)
def Hit (s:LR)(c:Int)(m:Ty.den TIn)(i j:Nat):Prop:=eC (rat s i)=0∧eC (rat s j)=1∧eY (rat s i)=c∧eY (rat s j)=c∧m=mI (rat s i) (rat s j)
section
variable {s:LR} {c o n r:Int} {l:LC} (hs:s.length≤1000) (hn:Ln s) (hl:l.length≤100)
include hs hn hl
theorem bo5 {i:Nat}(hi:i<s.length): ∀(fuel k:Nat),k≤s.length→s.length-k<fuel→
  a0b h3e fuel [.k 0,.l TRd s,.n c,.n (i:Int),.n (k:Int),.n o,.n n,.n r,.l TCmd l]=some (1,[.b true])∨
  (a0b h3e fuel [.k 0,.l TRd s,.n c,.n (i:Int),.n (k:Int),.n o,.n n,.n r,.l TCmd l]=some (0,[.l TRd s,.n c,.n (i:Int),.n o,.n n,.n r,.l TCmd l])∧ ∀j,k≤j→j<s.length→ ¬Hit s c (mkIn o n r l) i j):=by
 intro fuel
 induction fuel with
 |zero=>intro k _ h;omega
 |succ fuel ih=>
  intro k hk hf
  by_cases q:k<s.length
  ·have go:(h3e [.k 0,.l TRd s,.n c,.n (i:Int),.n (k:Int),.n o,.n n,.n r,.l TCmd l]).sel=some (Step.go [.k 0,.l TRd s,.n c,.n (i:Int),.n (IntKind.wrap .i64 ((k:Int)+1)),.n o,.n n,.n r,.l TCmd l])→ ¬Hit s c (mkIn o n r l) i k→
     a0b h3e (fuel+1) [.k 0,.l TRd s,.n c,.n (i:Int),.n (k:Int),.n o,.n n,.n r,.l TCmd l]=some (1,[.b true])∨
     (a0b h3e (fuel+1) [.k 0,.l TRd s,.n c,.n (i:Int),.n (k:Int),.n o,.n n,.n r,.l TCmd l]=some (0,[.l TRd s,.n c,.n (i:Int),.n o,.n n,.n r,.l TCmd l])∧ ∀j,k≤j→j<s.length→ ¬Hit s c (mkIn o n r l) i j):=by
    intro e ne
    have e2:=v0e (n:=fuel) e
    rw[w1n k (by omega)]at e2
    rcases ih (k+1) (by omega) (by omega)with h|⟨h,h'⟩
    ·exact .inl (e2.trans h)
    ·refine .inr ⟨e2.trans h,fun j hj hjl=> ?_⟩
     rcases Nat.eq_or_lt_of_le hj with rfl|hj
     ·exact ne
     ·exact h' j hj hjl
   have q':(k:Int)<(s.length:Int):=Int.ofNat_lt.2 q
   have i':(i:Int)<(s.length:Int):=Int.ofNat_lt.2 hi
   by_cases c1:eC (rat s i)=0
   ·by_cases c2:eC (rat s k)=1
    ·by_cases c3:eY (rat s i)=c
     ·by_cases c4:eY (rat s k)=c
      ·have hu:=u32_ (eO (rat s i)) (eN (rat s i)) (eR (rat s i)) (eO (rat s k)) (eN (rat s k)) (eR (rat s k)) (eL (rat s i)) (eL (rat s k)) (by have h20:(eL (rat s i)).length≤20:=hn _ (memS hi);omega)
       obtain⟨x,hx,hxx⟩:=t30 o n r (ior .u64 (eO (rat s i)) (eO (rat s k))) (iand .u32 (eN (rat s i)) (eN (rat s k))) (iand .u32 (eR (rat s i)) (eR (rat s k))) l (mg (eL (rat s i)) (eL (rat s k))) (by omega)
       cases x with
       |true=>exact .inl (c0a (m3n (by omega) (by omega) i' q' c1 c2 c3 c4 hu hx rfl))
       |false=>
        refine go (m3h (by omega) (by omega) i' q' c1 c2 c3 c4 hu hx rfl) fun hh=> ?_
        have h5:=hh.2.2.2.2
        have a1:o=_:=congrArg (fun z:Ty.den TIn=>(Prod.fst z:Int)) h5
        have a2:n=_:=congrArg (fun z:Ty.den TIn=>(Prod.fst (Prod.snd z):Int)) h5
        have a3:r=_:=congrArg (fun z:Ty.den TIn=>(Prod.fst (Prod.snd (Prod.snd z)):Int)) h5
        have a4:l=_:=congrArg (fun z:Ty.den TIn=>(Prod.snd (Prod.snd (Prod.snd z)):LC)) h5
        have:=hxx.2 ⟨a1,a2,a3,a4⟩
        cases this
      ·exact go (m3o (by omega) (by omega) i' q' c1 c2 c3 c4) fun hh=>c4 hh.2.2.2.1
     ·exact go (m3a (by omega) (by omega) i' q' c1 c2 c3) fun hh=>c3 hh.2.2.1
    ·exact go (m3g (by omega) (by omega) i' q' c1 c2) fun hh=>c2 hh.2.1
   ·exact go (m3i (by omega) (by omega) i' q' c1) fun hh=>c1 hh.1
  ·exact .inr ⟨c0a (m3p (by omega) (by omega) (Int.ofNat_lt.2 hi) (by omega)),fun j h1 h2=>by omega⟩
theorem bo2: ∀(fuel i:Nat),i≤s.length→s.length-i<fuel→(∃p j,i≤p∧p<s.length∧j<s.length∧Hit s c (mkIn o n r l) p j)→
  a0b i3d fuel [.k 0,.l TRd s,.n c,.n (i:Int),.n o,.n n,.n r,.l TCmd l]=some (1,[.b true]):=by
 intro fuel
 induction fuel with
 |zero=>intro i _ h;omega
 |succ fuel ih=>
  rintro i hi hf ⟨p,j,h1,h2,h3,h4⟩
  have q:i<s.length:=by omega
  have q':(i:Int)<(s.length:Int):=Int.ofNat_lt.2 q
  rcases bo5 (c:=c) (o:=o) (n:=n) (r:=r) hs hn hl q FU 0 (Nat.zero_le _) (lt_FU (by omega))with h|⟨h,h'⟩
  ·rw[←i3g]at h
   exact c0a (m3j (by omega) q' h)
  ·rw[←i3g]at h
   have e:=v0e (n:=fuel) (m3r (by omega) q' h)
   rw[w1n i (by omega)]at e
   refine e.trans (ih (i+1) (by omega) (by omega) ⟨p,j,?_,h2,h3,h4⟩)
   rcases Nat.eq_or_lt_of_le h1 with rfl|h1
   ·exact absurd h4 (h' j (Nat.zero_le _) h3)
   ·exact h1
theorem boT {x y:Rd}(hx:x∈s)(hy:y∈s)(h1:eC x=0)(h2:eC y=1)(h3:eY x=c)(h4:eY y=c)(h5:mkIn o n r l=mI x y):h3c [.l TRd s,.n c,.n o,.n n,.n r,.l TCmd l]=some (0,[.b true]):=by
 obtain⟨i,hi,ei⟩:=List.getElem_of_mem hx
 obtain⟨j,hj,ej⟩:=List.getElem_of_mem hy
 have gi:rat s i=x:=by unfold rat;rw[List.getD_eq_getElem?_getD,List.getElem?_eq_getElem hi];exact ei
 have gj:rat s j=y:=by unfold rat;rw[List.getD_eq_getElem?_getD,List.getElem?_eq_getElem hj];exact ej
 have h:=bo2 (c:=c) (o:=o) (n:=n) (r:=r) hs hn hl FU 0 (Nat.zero_le _) (lt_FU (by omega)) ⟨i,j,Nat.zero_le _,hi,hj,by unfold Hit;rw[gi,gj];exact⟨h1,h2,h3,h4,h5⟩⟩
 rw[←m3k]at h
 exact o3b h
end
def m3f (s:LR)(ya yb:Int):Prop:= ∀x∈s,((eC x=0∧eY x≤ya)∨(eC x=1∧eY x≤yb))∧0≤eY x∧eY x<30∧(eL x).length≤20
def Uq (s:LR):Prop:= ∀x∈s,∀y∈s,eC x=eC y→eY x=eY y→x=y
def Dn (s:LR)(m:LI)(d:LBo):Prop:= ∀q:Nat,q<60→(d.getD q false:Bool)=true→ ∃x∈s,∃y∈s,eC x=0∧eC y=1∧eY x=((q%30:Nat):Int)∧eY y=((q%30:Nat):Int)∧m.getD q (Ty.dflt TIn)=mI x y
structure Iv (l:LW)(i:Nat)(s:LR)(m:LI)(d:LBo)(a b:Sd):Prop where
 l80:l.length≤80
 il:i≤l.length
 sl:s.length≤i
 pre:m3f s a.cy b.cy
 uq:Uq s
 sa:SdOk s 0 a
 sb:SdOk s 1 b
 lm:m.length=60
 ld:d.length=60
 dn:Dn s m d
theorem Dn.mono {s s':LR}{m:LI}{d:LBo}(h:Dn s m d)(hs: ∀x∈s,x∈s'):Dn s' m d:=fun q hq e=>
 let⟨x,hx,y,hy,z⟩:=h q hq e;⟨x,hs x hx,y,hs y hy,z⟩
theorem h3l {α:Type}{l:List α}{i:Nat}{v d:α}(h:i<l.length):(l.set i v).getD i d=v:=by
 rw[List.getD_eq_getElem?_getD,List.getElem?_set_self h];rfl
theorem i3e {α:Type}{l:List α}{i j:Nat}{v d:α}(h:i≠j):(l.set i v).getD j d=l.getD j d:=by
 rw[List.getD_eq_getElem?_getD,List.getElem?_set_ne h,←List.getD_eq_getElem?_getD]
theorem Dn.set {s:LR}{m:LI}{d:LBo}(h:Dn s m d)(lm:m.length=60)(ld:d.length=60){q:Nat}(hq:q<60){x y:Rd}(hx:x∈s)(hy:y∈s)(h1:eC x=0)(h2:eC y=1)(h3:eY x=((q%30:Nat):Int))(h4:eY y=((q%30:Nat):Int)):
  Dn s (m.set q (mI x y)) (d.set q true):=by
 intro p hp e
 by_cases c:q=p
 ·subst c
  refine⟨x,hx,y,hy,h1,h2,h3,h4,?_⟩
  exact h3l (by omega)
 ·have e0:(List.getD (List.set d q true) p false:Bool)=d.getD p false:=i3e c
  have m0:(m.set q (mI x y)).getD p (Ty.dflt TIn)=m.getD p (Ty.dflt TIn):=i3e c
  obtain⟨x',hx',y',hy',z1,z2,z3,z4,z5⟩:=h p hp (e0.symm.trans e)
  exact⟨x',hx',y',hy',z1,z2,z3,z4,m0.trans z5⟩
theorem same2 {s:LR}{m:LI}{d:LBo}(h:Dn s m d)(u:Uq s){p q:Nat}(hp:p<60)(hq:q<60)(hpq:p%30=q%30)(e1:(d.getD p false:Bool)=true)(e2:(d.getD q false:Bool)=true):m.getD p (Ty.dflt TIn)=m.getD q (Ty.dflt TIn):=by
 obtain⟨x,hx,y,hy,a1,a2,a3,a4,a5⟩:=h p hp e1
 obtain⟨x',hx',y',hy',b1,b2,b3,b4,b5⟩:=h q hq e2
 have ex:x=x':=u x hx x' hx' (by omega) (by rw[a3,b3,hpq])
 have ey:y=y':=u y hy y' hy' (by omega) (by rw[a4,b4,hpq])
 rw[a5,b5,ex,ey]
theorem len2 {s:LR}{m:LI}{d:LBo}(h:Dn s m d){ya yb:Int}(hp:m3f s ya yb){p:Nat}(hp60:p<60)(e1:(d.getD p false:Bool)=true):(Prod.snd (Prod.snd (Prod.snd (m.getD p (Ty.dflt TIn)))):LC).length≤100:=by
 obtain⟨x,hx,y,hy,a1,a2,a3,a4,a5⟩:=h p hp60 e1
 rw[a5]
 have:=n3b (eL x) (eL y)
 have:=(hp x hx).2.2.2
 show(mg (eL x) (eL y)).length≤100
 omega
theorem sameI {x y:Ty.den TIn}(h:x=y)(hl:(Prod.snd (Prod.snd (Prod.snd x)):LC).length≤100):h3h [.n (Prod.fst x),.n (Prod.fst (Prod.snd x)),.n (Prod.fst (Prod.snd (Prod.snd x))),.l TCmd (Prod.snd (Prod.snd (Prod.snd x))),.n (Prod.fst y),.n (Prod.fst (Prod.snd y)),.n (Prod.fst (Prod.snd (Prod.snd y))),.l TCmd (Prod.snd (Prod.snd (Prod.snd y)))]=some (0,[.b true]):=by
 subst h;exact u30 _ _ _ _ hl
theorem w30 {y:Int}(h0:0≤y)(h1:y<30):IntKind.wrap .i64 ((30:Int)+y)=30+y:=w64s (by omega) (by omega)
theorem fin0 {l:LW}{i:Nat}{s':LR}{m:LI}{d:LBo}{a' b:Sd}{E:List Dat}(l80:l.length≤80)(il:i<l.length)(sl:s'.length≤i+1)(pre:m3f s' a'.cy b.cy)(uq:Uq s')(sa:SdOk s' 0 a')(sb:SdOk s' 1 b)(lm:m.length=60)(ld:d.length=60)(dn:Dn s' m d)
  (A0:t1c (sdD 0 a' (rsD a' []))=some (0,.n 0::.n 0::.n 0::.b false::sdD 0 a' (rsD a' []))→(s1c E).sel=some (Step.go (Zt l ((i+1:Nat):Int) s' m d a' b)))
  (A1:(∀(o n r:Int) (c:LC),t1c (sdD 0 a' (rsD a' []))=some (1,.n o::.n n::.n r::.b true::sdD 0 a' (rsD a' [.l TCmd c]))→0≤a'.cy→a'.cy<30→h3c [.l TRd s',.n a'.cy,.n o,.n n,.n r,.l TCmd c]=some (0,[.b true])→inR a'.cy (List.length (List.set d (Int.toNat a'.cy) true))=true→(List.getD (List.set d (Int.toNat a'.cy) true) (Int.toNat a'.cy) false:Bool)=true→inR (IntKind.wrap .i64 ((30:Int)+a'.cy)) (List.length (List.set d (Int.toNat a'.cy) true))=true→(List.getD (List.set d (Int.toNat a'.cy) true) (Int.toNat (IntKind.wrap .i64 ((30:Int)+a'.cy))) false:Bool)=false→(s1c E).sel=some (Step.go (Zt l ((i+1:Nat):Int) s' (m.set (Int.toNat a'.cy) (mkIn o n r c)) (d.set (Int.toNat a'.cy) true) a' b))))
  (A2:(∀(o n r:Int) (c:LC),t1c (sdD 0 a' (rsD a' []))=some (1,.n o::.n n::.n r::.b true::sdD 0 a' (rsD a' [.l TCmd c]))→0≤a'.cy→a'.cy<30→h3c [.l TRd s',.n a'.cy,.n o,.n n,.n r,.l TCmd c]=some (0,[.b true])→inR a'.cy (List.length (List.set d (Int.toNat a'.cy) true))=true→(List.getD (List.set d (Int.toNat a'.cy) true) (Int.toNat a'.cy) false:Bool)=true→inR (IntKind.wrap .i64 ((30:Int)+a'.cy)) (List.length (List.set d (Int.toNat a'.cy) true))=true→(List.getD (List.set d (Int.toNat a'.cy) true) (Int.toNat (IntKind.wrap .i64 ((30:Int)+a'.cy))) false:Bool)=true→inR a'.cy (List.length (List.set m (Int.toNat a'.cy) (mkIn o n r c)))=true→inR (IntKind.wrap .i64 ((30:Int)+a'.cy)) (List.length (List.set m (Int.toNat a'.cy) (mkIn o n r c)))=true→h3h [.n (Prod.fst (List.getD (List.set m (Int.toNat a'.cy) (mkIn o n r c)) (Int.toNat a'.cy) (Ty.dflt TIn))),.n (Prod.fst (Prod.snd (List.getD (List.set m (Int.toNat a'.cy) (mkIn o n r c)) (Int.toNat a'.cy) (Ty.dflt TIn)))),.n (Prod.fst (Prod.snd (Prod.snd (List.getD (List.set m (Int.toNat a'.cy) (mkIn o n r c)) (Int.toNat a'.cy) (Ty.dflt TIn))))),.l TCmd (Prod.snd (Prod.snd (Prod.snd (List.getD (List.set m (Int.toNat a'.cy) (mkIn o n r c)) (Int.toNat a'.cy) (Ty.dflt TIn))))),.n (Prod.fst (List.getD (List.set m (Int.toNat a'.cy) (mkIn o n r c)) (Int.toNat (IntKind.wrap .i64 ((30:Int)+a'.cy))) (Ty.dflt TIn))),.n (Prod.fst (Prod.snd (List.getD (List.set m (Int.toNat a'.cy) (mkIn o n r c)) (Int.toNat (IntKind.wrap .i64 ((30:Int)+a'.cy))) (Ty.dflt TIn)))),.n (Prod.fst (Prod.snd (Prod.snd (List.getD (List.set m (Int.toNat a'.cy) (mkIn o n r c)) (Int.toNat (IntKind.wrap .i64 ((30:Int)+a'.cy))) (Ty.dflt TIn))))),.l TCmd (Prod.snd (Prod.snd (Prod.snd (List.getD (List.set m (Int.toNat a'.cy) (mkIn o n r c)) (Int.toNat (IntKind.wrap .i64 ((30:Int)+a'.cy))) (Ty.dflt TIn)))))]=some (0,[.b true])→(s1c E).sel=some (Step.go (Zt l ((i+1:Nat):Int) s' (m.set (Int.toNat a'.cy) (mkIn o n r c)) (d.set (Int.toNat a'.cy) true) a' b)))):
  ∃s2 m2 d2 a2 b2,(s1c E).sel=some (Step.go (Zt l ((i+1:Nat):Int) s2 m2 d2 a2 b2))∧Iv l (i+1) s2 m2 d2 a2 b2:=by
 by_cases h:a'.bo=true∧a'.bt=true∧a'.br=false
 ·obtain⟨h1,h2,h3⟩:=h
  obtain⟨o1,o2,o3⟩:=sa.own h1
  obtain⟨t1,t2,t3⟩:=sa.oth h2
  obtain⟨p1,p2,p3,p4⟩:=pre _ o1
  have c0:0≤a'.cy:=by omega
  have c30:a'.cy<30:=by omega
  have hm:=me1 (k:=0) h1 h2 h3 p4
  have hn:Ln s':=fun x hx=>(pre x hx).2.2.2
  have w:=w30 c0 c30
  have hb:=boT (c:=a'.cy) (o:=ior .u64 (eO a'.ro) (eO a'.rt)) (n:=iand .u32 (eN a'.ro) (eN a'.rt)) (r:=iand .u32 (eR a'.ro) (eR a'.rt)) (l:=mg (eL a'.ro) (eL a'.rt)) (by omega) hn (by have:=n3b (eL a'.ro) (eL a'.rt);omega) o1 t1 o2 (by omega) o3 t3 rfl
  have x60:(Int.toNat a'.cy)<60:=by rw[show Int.toNat a'.cy=Int.toNat a'.cy from rfl];omega
  have dn2:=dn.set lm ld x60 o1 t1 o2 (by omega) (by omega) (by omega)
  have q0:Int.toNat a'.cy<60:=by omega
  have q1:Int.toNat (IntKind.wrap .i64 ((30:Int)+a'.cy))<60:=by rw[w];omega
  have mo:Int.toNat a'.cy%30=Int.toNat (IntKind.wrap .i64 ((30:Int)+a'.cy))%30:=by rw[w];omega
  have iv: ∀mm,mm=mI a'.ro a'.rt→Iv l (i+1) s' (m.set (Int.toNat a'.cy) mm) (d.set (Int.toNat a'.cy) true) a' b:=by
   rintro mm rfl
   exact⟨l80,il,sl,pre,uq,sa,sb,(List.length_set ..).trans lm,(List.length_set ..).trans ld,dn2⟩
  have hin0: ∀(α:Type) (z:List α),z.length=60→inR a'.cy z.length=true:=fun α z hz=>inRt c0 (by rw[hz];omega)
  have hin1: ∀(α:Type) (z:List α),z.length=60→inR (IntKind.wrap .i64 ((30:Int)+a'.cy)) z.length=true:=fun α z hz=>inRt (by rw[w];omega) (by rw[w,hz];omega)
  have ld2:(d.set (Int.toNat a'.cy) true).length=60:=(List.length_set ..).trans ld
  have lm2: ∀v,(m.set (Int.toNat a'.cy) v).length=60:=fun v=>(List.length_set ..).trans lm
  have dself:(List.getD (List.set d (Int.toNat a'.cy) true) (Int.toNat a'.cy) false:Bool)=true:=h3l (Nat.lt_of_lt_of_eq x60 ld.symm)
  cases hd:(List.getD (d.set (Int.toNat a'.cy) true) (Int.toNat (IntKind.wrap .i64 ((30:Int)+a'.cy))) false:Bool)with
  |false=>exact⟨_,_,_,_,_,A1 _ _ _ _ hm c0 c30 hb (hin0 _ _ ld2) dself (hin1 _ _ ld2) hd,iv _ rfl⟩
  |true=>exact⟨_,_,_,_,_,A2 _ _ _ _ hm c0 c30 hb (hin0 _ _ ld2) dself (hin1 _ _ ld2) hd (hin0 _ _ (lm2 _)) (hin1 _ _ (lm2 _)) (sameI (same2 dn2 uq q0 q1 mo dself hd) (len2 dn2 pre q0 dself)),iv _ rfl⟩
 ·exact⟨_,_,_,_,_,A0 (me0 h),l80,il,sl,pre,uq,sa,sb,lm,ld,dn⟩
theorem fin1 {l:LW}{i:Nat}{s':LR}{m:LI}{d:LBo}{a b':Sd}{E:List Dat}(l80:l.length≤80)(il:i<l.length)(sl:s'.length≤i+1)(pre:m3f s' a.cy b'.cy)(uq:Uq s')(sa:SdOk s' 0 a)(sb:SdOk s' 1 b')(lm:m.length=60)(ld:d.length=60)(dn:Dn s' m d)
  (A0:t1c (sdD 1 b' (rsD b' []))=some (0,.n 0::.n 0::.n 0::.b false::sdD 1 b' (rsD b' []))→(s1c E).sel=some (Step.go (Zt l ((i+1:Nat):Int) s' m d a b')))
  (A1:(∀(o n r:Int) (c:LC),t1c (sdD 1 b' (rsD b' []))=some (1,.n o::.n n::.n r::.b true::sdD 1 b' (rsD b' [.l TCmd c]))→0≤b'.cy→b'.cy<30→h3c [.l TRd s',.n b'.cy,.n o,.n n,.n r,.l TCmd c]=some (0,[.b true])→inR b'.cy (List.length (List.set d (Int.toNat (IntKind.wrap .i64 ((30:Int)+b'.cy))) true))=true→(List.getD (List.set d (Int.toNat (IntKind.wrap .i64 ((30:Int)+b'.cy))) true) (Int.toNat b'.cy) false:Bool)=false→(s1c E).sel=some (Step.go (Zt l ((i+1:Nat):Int) s' (m.set (Int.toNat (IntKind.wrap .i64 ((30:Int)+b'.cy))) (mkIn o n r c)) (d.set (Int.toNat (IntKind.wrap .i64 ((30:Int)+b'.cy))) true) a b'))))
  (A2:(∀(o n r:Int) (c:LC),t1c (sdD 1 b' (rsD b' []))=some (1,.n o::.n n::.n r::.b true::sdD 1 b' (rsD b' [.l TCmd c]))→0≤b'.cy→b'.cy<30→h3c [.l TRd s',.n b'.cy,.n o,.n n,.n r,.l TCmd c]=some (0,[.b true])→inR b'.cy (List.length (List.set d (Int.toNat (IntKind.wrap .i64 ((30:Int)+b'.cy))) true))=true→(List.getD (List.set d (Int.toNat (IntKind.wrap .i64 ((30:Int)+b'.cy))) true) (Int.toNat b'.cy) false:Bool)=true→inR (IntKind.wrap .i64 ((30:Int)+b'.cy)) (List.length (List.set d (Int.toNat (IntKind.wrap .i64 ((30:Int)+b'.cy))) true))=true→(List.getD (List.set d (Int.toNat (IntKind.wrap .i64 ((30:Int)+b'.cy))) true) (Int.toNat (IntKind.wrap .i64 ((30:Int)+b'.cy))) false:Bool)=true→inR b'.cy (List.length (List.set m (Int.toNat (IntKind.wrap .i64 ((30:Int)+b'.cy))) (mkIn o n r c)))=true→inR (IntKind.wrap .i64 ((30:Int)+b'.cy)) (List.length (List.set m (Int.toNat (IntKind.wrap .i64 ((30:Int)+b'.cy))) (mkIn o n r c)))=true→h3h [.n (Prod.fst (List.getD (List.set m (Int.toNat (IntKind.wrap .i64 ((30:Int)+b'.cy))) (mkIn o n r c)) (Int.toNat b'.cy) (Ty.dflt TIn))),.n (Prod.fst (Prod.snd (List.getD (List.set m (Int.toNat (IntKind.wrap .i64 ((30:Int)+b'.cy))) (mkIn o n r c)) (Int.toNat b'.cy) (Ty.dflt TIn)))),.n (Prod.fst (Prod.snd (Prod.snd (List.getD (List.set m (Int.toNat (IntKind.wrap .i64 ((30:Int)+b'.cy))) (mkIn o n r c)) (Int.toNat b'.cy) (Ty.dflt TIn))))),.l TCmd (Prod.snd (Prod.snd (Prod.snd (List.getD (List.set m (Int.toNat (IntKind.wrap .i64 ((30:Int)+b'.cy))) (mkIn o n r c)) (Int.toNat b'.cy) (Ty.dflt TIn))))),.n (Prod.fst (List.getD (List.set m (Int.toNat (IntKind.wrap .i64 ((30:Int)+b'.cy))) (mkIn o n r c)) (Int.toNat (IntKind.wrap .i64 ((30:Int)+b'.cy))) (Ty.dflt TIn))),.n (Prod.fst (Prod.snd (List.getD (List.set m (Int.toNat (IntKind.wrap .i64 ((30:Int)+b'.cy))) (mkIn o n r c)) (Int.toNat (IntKind.wrap .i64 ((30:Int)+b'.cy))) (Ty.dflt TIn)))),.n (Prod.fst (Prod.snd (Prod.snd (List.getD (List.set m (Int.toNat (IntKind.wrap .i64 ((30:Int)+b'.cy))) (mkIn o n r c)) (Int.toNat (IntKind.wrap .i64 ((30:Int)+b'.cy))) (Ty.dflt TIn))))),.l TCmd (Prod.snd (Prod.snd (Prod.snd (List.getD (List.set m (Int.toNat (IntKind.wrap .i64 ((30:Int)+b'.cy))) (mkIn o n r c)) (Int.toNat (IntKind.wrap .i64 ((30:Int)+b'.cy))) (Ty.dflt TIn)))))]=some (0,[.b true])→(s1c E).sel=some (Step.go (Zt l ((i+1:Nat):Int) s' (m.set (Int.toNat (IntKind.wrap .i64 ((30:Int)+b'.cy))) (mkIn o n r c)) (d.set (Int.toNat (IntKind.wrap .i64 ((30:Int)+b'.cy))) true) a b')))):
  ∃s2 m2 d2 a2 b2,(s1c E).sel=some (Step.go (Zt l ((i+1:Nat):Int) s2 m2 d2 a2 b2))∧Iv l (i+1) s2 m2 d2 a2 b2:=by
 by_cases h:b'.bo=true∧b'.bt=true∧b'.br=false
 ·obtain⟨h1,h2,h3⟩:=h
  obtain⟨o1,o2,o3⟩:=sb.own h1
  obtain⟨t1,t2,t3⟩:=sb.oth h2
  obtain⟨p1,p2,p3,p4⟩:=pre _ o1
  have c0:0≤b'.cy:=by omega
  have c30:b'.cy<30:=by omega
  have hm:=me1 (k:=1) h1 h2 h3 p4
  have hn:Ln s':=fun x hx=>(pre x hx).2.2.2
  have w:=w30 c0 c30
  have hb:=boT (c:=b'.cy) (o:=ior .u64 (eO b'.ro) (eO b'.rt)) (n:=iand .u32 (eN b'.ro) (eN b'.rt)) (r:=iand .u32 (eR b'.ro) (eR b'.rt)) (l:=mg (eL b'.ro) (eL b'.rt)) (by omega) hn (by have:=n3b (eL b'.ro) (eL b'.rt);omega) t1 o1 (by omega) o2 t3 o3 (i3j b'.ro b'.rt)
  have x60:(Int.toNat (IntKind.wrap .i64 ((30:Int)+b'.cy)))<60:=by rw[w];omega
  have dn2:=dn.set lm ld x60 t1 o1 (by omega) o2 (by rw[w];omega) (by rw[w];omega)
  have q0:Int.toNat b'.cy<60:=by omega
  have q1:Int.toNat (IntKind.wrap .i64 ((30:Int)+b'.cy))<60:=by rw[w];omega
  have mo:Int.toNat b'.cy%30=Int.toNat (IntKind.wrap .i64 ((30:Int)+b'.cy))%30:=by rw[w];omega
  have iv: ∀mm,mm=mI b'.rt b'.ro→Iv l (i+1) s' (m.set (Int.toNat (IntKind.wrap .i64 ((30:Int)+b'.cy))) mm) (d.set (Int.toNat (IntKind.wrap .i64 ((30:Int)+b'.cy))) true) a b':=by
   rintro mm rfl
   exact⟨l80,il,sl,pre,uq,sa,sb,(List.length_set ..).trans lm,(List.length_set ..).trans ld,dn2⟩
  have hin0: ∀(α:Type) (z:List α),z.length=60→inR b'.cy z.length=true:=fun α z hz=>inRt c0 (by rw[hz];omega)
  have hin1: ∀(α:Type) (z:List α),z.length=60→inR (IntKind.wrap .i64 ((30:Int)+b'.cy)) z.length=true:=fun α z hz=>inRt (by rw[w];omega) (by rw[w,hz];omega)
  have ld2:(d.set (Int.toNat (IntKind.wrap .i64 ((30:Int)+b'.cy))) true).length=60:=(List.length_set ..).trans ld
  have lm2: ∀v,(m.set (Int.toNat (IntKind.wrap .i64 ((30:Int)+b'.cy))) v).length=60:=fun v=>(List.length_set ..).trans lm
  have dself:(List.getD (List.set d (Int.toNat (IntKind.wrap .i64 ((30:Int)+b'.cy))) true) (Int.toNat (IntKind.wrap .i64 ((30:Int)+b'.cy))) false:Bool)=true:=h3l (Nat.lt_of_lt_of_eq x60 ld.symm)
  cases hd:(List.getD (d.set (Int.toNat (IntKind.wrap .i64 ((30:Int)+b'.cy))) true) (Int.toNat b'.cy) false:Bool)with
  |false=>exact⟨_,_,_,_,_,A1 _ _ _ _ hm c0 c30 hb (hin0 _ _ ld2) hd,iv _ (i3j b'.ro b'.rt)⟩
  |true=>
   refine⟨_,_,_,_,_,A2 _ _ _ _ hm c0 c30 hb (hin0 _ _ ld2) hd (hin1 _ _ ld2) dself (hin0 _ _ (lm2 _)) (hin1 _ _ (lm2 _)) ?_,iv _ (i3j b'.ro b'.rt)⟩
   have e:mI b'.ro b'.rt=mI b'.rt b'.ro:=i3j b'.ro b'.rt
   have e':mkIn (ior .u64 (eO b'.ro) (eO b'.rt)) (iand .u32 (eN b'.ro) (eN b'.rt)) (iand .u32 (eR b'.ro) (eR b'.rt)) (mg (eL b'.ro) (eL b'.rt))=mI b'.rt b'.ro:=e
   rw[e']
   exact sameI (same2 dn2 uq q0 q1 mo hd dself) (len2 dn2 pre q0 hd)
 ·exact⟨_,_,_,_,_,A0 (me0 h),l80,il,sl,pre,uq,sa,sb,lm,ld,dn⟩
section
variable {l:LW} {i:Nat} {s:LR} {m:LI} {d:LBo} {a b:Sd} (iv:Iv l i s m d a b) (il:i<l.length)
abbrev wat (l:LW)(i:Nat):Ty.den TWay:=List.getD l i (Ty.dflt TWay)
abbrev wK (x:Ty.den TWay):Int:=Prod.fst x
abbrev wS (x:Ty.den TWay):Int:=Prod.fst (Prod.snd x)
abbrev wN (x:Ty.den TWay):Int:=Prod.fst (Prod.snd (Prod.snd x))
abbrev wO (x:Ty.den TWay):Int:=Prod.fst (Prod.snd (Prod.snd (Prod.snd x)))
abbrev wP (x:Ty.den TWay):Int:=Prod.fst (Prod.snd (Prod.snd (Prod.snd (Prod.snd x))))
abbrev wR (x:Ty.den TWay):Int:=Prod.fst (Prod.snd (Prod.snd (Prod.snd (Prod.snd (Prod.snd x)))))
abbrev wC (x:Ty.den TWay):LC:=Prod.snd (Prod.snd (Prod.snd (Prod.snd (Prod.snd (Prod.snd x)))))
def h3z (l:LW)(i:Nat)(s:LR)(m:LI)(d:LBo)(a b:Sd):Prop:= ∃s2 m2 d2 a2 b2,(s1c (Zt l (i:Int) s m d a b)).sel=some (Step.go (Zt l ((i+1:Nat):Int) s2 m2 d2 a2 b2))∧Iv l (i+1) s2 m2 d2 a2 b2
theorem nx {l:LW}{i:Nat}{s:LR}{m:LI}{d:LBo}{a b:Sd}{x:Tree Step}(hi:i<1000000)(h:x.sel=some (Step.go (Zt l (IntKind.wrap .i64 ((i:Int)+1)) s m d a b))):x.sel=some (Step.go (Zt l ((i+1:Nat):Int) s m d a b)):=by
 rw[w1n i (by omega)]at h;exact h
include iv il
theorem actA0 (hc20:((wC (wat l i)).length:Int)≤20)(hk:t0c [.n (wS (wat l i)),.n 2]=some (0,[.n 0]))(hd:t0c [.n (wK (wat l i)),.n 4]=some (0,[.n 0])){c:Int}(hc:t0c [.n (wN (wat l i)),.n 30]=some (0,[.n c]))(hle:c≤a.cy):h3z l i s m d a b:=by
 have h80:=iv.l80
 exact fin0 (a':=a) iv.l80 il (Nat.le_succ_of_le iv.sl) iv.pre iv.uq iv.sa iv.sb iv.lm iv.ld iv.dn
  (fun e=>nx (by omega) (k3n (by omega) (Int.ofNat_lt.2 il) (Int.not_lt.2 hc20) iv.lm iv.ld hk hd hc (h3o hle) e))
  (fun o n r c e e0 e1 e2 e3 e4 e5 e6=>nx (by omega) (j3s (by omega) (Int.ofNat_lt.2 il) (Int.not_lt.2 hc20) iv.lm iv.ld hk hd hc (h3o hle) e e0 e1 e2 e3 e4 e5 e6))
  (fun o n r c e e0 e1 e2 e3 e4 e5 e6 e7 e8 e9=>nx (by omega) (j3u (by omega) (Int.ofNat_lt.2 il) (Int.not_lt.2 hc20) iv.lm iv.ld hk hd hc (h3o hle) e e0 e1 e2 e3 e4 e5 e6 e7 e8 e9 rfl))
theorem actD0 (hc20:((wC (wat l i)).length:Int)≤20)(hk:t0c [.n (wS (wat l i)),.n 2]=some (0,[.n 0]))(hd:t0c [.n (wK (wat l i)),.n 4]=some (0,[.n 3])):h3z l i s m d a b:=by
 have h80:=iv.l80
 exact fin0 (a':=a) iv.l80 il (Nat.le_succ_of_le iv.sl) iv.pre iv.uq iv.sa iv.sb iv.lm iv.ld iv.dn
  (fun e=>nx (by omega) (j3x (by omega) (Int.ofNat_lt.2 il) (Int.not_lt.2 hc20) iv.lm iv.ld hk hd h3p h3q h3r e))
  (fun o n r c e e0 e1 e2 e3 e4 e5 e6=>nx (by omega) (j3p (by omega) (Int.ofNat_lt.2 il) (Int.not_lt.2 hc20) iv.lm iv.ld hk hd h3p h3q h3r e e0 e1 e2 e3 e4 e5 e6))
  (fun o n r c e e0 e1 e2 e3 e4 e5 e6 e7 e8 e9=>nx (by omega) (k3m (by omega) (Int.ofNat_lt.2 il) (Int.not_lt.2 hc20) iv.lm iv.ld hk hd h3p h3q h3r e e0 e1 e2 e3 e4 e5 e6 e7 e8 e9 rfl))
theorem actE0 (hc20:((wC (wat l i)).length:Int)≤20)(hk:t0c [.n (wS (wat l i)),.n 2]=some (0,[.n 0])){x:Int}(hd:t0c [.n (wK (wat l i)),.n 4]=some (0,[.n x]))(h0: ¬x=0)(h3: ¬x=3)(hl:(s.length:Int)=0):h3z l i s m d a b:=by
 have h80:=iv.l80
 exact fin0 (a':=a) iv.l80 il (Nat.le_succ_of_le iv.sl) iv.pre iv.uq iv.sa iv.sb iv.lm iv.ld iv.dn
  (fun e=>nx (by omega) (j3t (by omega) (Int.ofNat_lt.2 il) (Int.not_lt.2 hc20) iv.lm iv.ld hk hd h0 h3 hl e))
  (fun o n r c e e0 e1 e2 e3 e4 e5 e6=>nx (by omega) (k3d (by omega) (Int.ofNat_lt.2 il) (Int.not_lt.2 hc20) iv.lm iv.ld hk hd h0 h3 hl e e0 e1 e2 e3 e4 e5 e6))
  (fun o n r c e e0 e1 e2 e3 e4 e5 e6 e7 e8 e9=>nx (by omega) (k3g (by omega) (Int.ofNat_lt.2 il) (Int.not_lt.2 hc20) iv.lm iv.ld hk hd h0 h3 hl e e0 e1 e2 e3 e4 e5 e6 e7 e8 e9 rfl))
theorem actH0 (hc20:((wC (wat l i)).length:Int)≤20)(hk:t0c [.n (wS (wat l i)),.n 2]=some (0,[.n 0])){x:Int}(hd:t0c [.n (wK (wat l i)),.n 4]=some (0,[.n x]))(h0: ¬x=0)(h3: ¬x=3)(hl:(s.length:Int)>0):h3z l i s m d a b:=by
  have h80:=iv.l80
  obtain⟨c,hc,c0,c1⟩:=pk1 (a:=wN (wat l i)) (m:=(s.length:Int)) hl (by have:=iv.sl;omega)
  have cn:c.toNat<s.length:=by omega
  have hx:rat s c.toNat∈s:=memS cn
  have hn:Ln s:=fun x hx=>(iv.pre x hx).2.2.2
  have how:=l3v (n0:=eC (rat s c.toNat)) (n1:=eY (rat s c.toNat)) (n2:=eO (rat s c.toNat)) (n3:=eN (rat s c.toNat)) (n4:=eR (rat s c.toNat)) (l5:=eL (rat s c.toNat)) (by have:=hn _ hx;omega)
  rcases he1 (k:=0) (by omega) iv.sa hx hn with⟨e,br,hh⟩|⟨x1,x2,e,hh⟩|⟨x1,e,hh⟩
  · exact fin0 (a':=⟨a.cy,a.bo,a.bt,a.bl,br,a.ro,a.rt,a.rl⟩) iv.l80 il (Nat.le_succ_of_le iv.sl) iv.pre iv.uq ⟨iv.sa.own,iv.sa.oth,iv.sa.lat⟩ iv.sb iv.lm iv.ld iv.dn
          (fun e=>nx (by omega) (i3y (by omega) (Int.ofNat_lt.2 il) (Int.not_lt.2 hc20) iv.lm iv.ld hk hd h0 h3 hl hc c0 c1 how hh e))
          (fun o n r c e e0 e1 e2 e3 e4 e5 e6=>nx (by omega) (j3e (by omega) (Int.ofNat_lt.2 il) (Int.not_lt.2 hc20) iv.lm iv.ld hk hd h0 h3 hl hc c0 c1 how hh e e0 e1 e2 e3 e4 e5 e6))
          (fun o n r c e e0 e1 e2 e3 e4 e5 e6 e7 e8 e9=>nx (by omega) (i3v (by omega) (Int.ofNat_lt.2 il) (Int.not_lt.2 hc20) iv.lm iv.ld hk hd h0 h3 hl hc c0 c1 how hh e e0 e1 e2 e3 e4 e5 e6 e7 e8 e9 rfl))
  · exact fin0 (a':=⟨a.cy,a.bo,true,a.bl,a.br,a.ro,rat s c.toNat,a.rl⟩) iv.l80 il (Nat.le_succ_of_le iv.sl) iv.pre iv.uq ⟨iv.sa.own,fun _=>⟨hx,x1,x2⟩,iv.sa.lat⟩ iv.sb iv.lm iv.ld iv.dn
          (fun e=>nx (by omega) (j3j (by omega) (Int.ofNat_lt.2 il) (Int.not_lt.2 hc20) iv.lm iv.ld hk hd h0 h3 hl hc c0 c1 how hh e))
          (fun o n r c e e0 e1 e2 e3 e4 e5 e6=>nx (by omega) (i3o (by omega) (Int.ofNat_lt.2 il) (Int.not_lt.2 hc20) iv.lm iv.ld hk hd h0 h3 hl hc c0 c1 how hh e e0 e1 e2 e3 e4 e5 e6))
          (fun o n r c e e0 e1 e2 e3 e4 e5 e6 e7 e8 e9=>nx (by omega) (j3g (by omega) (Int.ofNat_lt.2 il) (Int.not_lt.2 hc20) iv.lm iv.ld hk hd h0 h3 hl hc c0 c1 how hh e e0 e1 e2 e3 e4 e5 e6 e7 e8 e9 rfl))
  · exact fin0 (a':=⟨a.cy,a.bo,a.bt,true,a.br,a.ro,a.rt,rat s c.toNat⟩) iv.l80 il (Nat.le_succ_of_le iv.sl) iv.pre iv.uq ⟨iv.sa.own,iv.sa.oth,fun _=>⟨hx,x1⟩⟩ iv.sb iv.lm iv.ld iv.dn
          (fun e=>nx (by omega) (j3a (by omega) (Int.ofNat_lt.2 il) (Int.not_lt.2 hc20) iv.lm iv.ld hk hd h0 h3 hl hc c0 c1 how hh e))
          (fun o n r c e e0 e1 e2 e3 e4 e5 e6=>nx (by omega) (j3m (by omega) (Int.ofNat_lt.2 il) (Int.not_lt.2 hc20) iv.lm iv.ld hk hd h0 h3 hl hc c0 c1 how hh e e0 e1 e2 e3 e4 e5 e6))
          (fun o n r c e e0 e1 e2 e3 e4 e5 e6 e7 e8 e9=>nx (by omega) (i3k (by omega) (Int.ofNat_lt.2 il) (Int.not_lt.2 hc20) iv.lm iv.ld hk hd h0 h3 hl hc c0 c1 how hh e e0 e1 e2 e3 e4 e5 e6 e7 e8 e9 rfl))
theorem actB0 (hc20:((wC (wat l i)).length:Int)≤20)(hk:t0c [.n (wS (wat l i)),.n 2]=some (0,[.n 0]))(hd:t0c [.n (wK (wat l i)),.n 4]=some (0,[.n 0])){c:Int}(hc:t0c [.n (wN (wat l i)),.n 30]=some (0,[.n c]))(hgt: ¬c≤a.cy)(c0:0≤c)(c30:c<30):h3z l i s m d a b:=by
  have h80:=iv.l80
  have hl20:(wC (wat l i)).length≤20:=by omega
  have s1:(apL s [mkRd 0 c (wO (wat l i)) (wP (wat l i)) (wR (wat l i)) (wC (wat l i))]).length=s.length+1:=by show(s++_).length=_;rw[List.length_append];rfl
  have hms: ∀x∈s,x∈apL s [mkRd 0 c (wO (wat l i)) (wP (wat l i)) (wR (wat l i)) (wC (wat l i))]:=fun x hx=>List.mem_append_left _ hx
  have hmr:mkRd 0 c (wO (wat l i)) (wP (wat l i)) (wR (wat l i)) (wC (wat l i))∈apL s [mkRd 0 c (wO (wat l i)) (wP (wat l i)) (wR (wat l i)) (wC (wat l i))]:=List.mem_append_right _ (List.mem_singleton.2 rfl)
  have hmc: ∀x∈apL s [mkRd 0 c (wO (wat l i)) (wP (wat l i)) (wR (wat l i)) (wC (wat l i))],x∈s∨x=mkRd 0 c (wO (wat l i)) (wP (wat l i)) (wR (wat l i)) (wC (wat l i)):=fun x hx=>(List.mem_append.1 hx).imp id List.mem_singleton.1
  have hb56:(List.length s+1)*56≤140737488355328:=by have:=iv.sl;omega
  have hpre:m3f (apL s [mkRd 0 c (wO (wat l i)) (wP (wat l i)) (wR (wat l i)) (wC (wat l i))]) c b.cy:=by
    intro x hx
    rcases hmc x hx with q|rfl
    · obtain⟨p1,p2⟩:=iv.pre x q
      refine⟨?_,p2⟩
      rcases p1 with⟨p,p'⟩|⟨p,p'⟩
      · exact .inl ⟨p,by omega⟩
      · exact .inr ⟨p,by omega⟩
    · exact⟨.inl ⟨rfl,Int.le_refl _⟩,c0,c30,hl20⟩
  have huq:Uq (apL s [mkRd 0 c (wO (wat l i)) (wP (wat l i)) (wR (wat l i)) (wC (wat l i))]):=by
    have old: ∀x∈s,eC x=0→eY x=c→False:=fun x hx h1 h2=>by
      rcases(iv.pre x hx).1 with⟨p,p'⟩|⟨p,p'⟩<;>omega
    intro x hx y hy h1 h2
    rcases hmc x hx with q|rfl<;>rcases hmc y hy with q'|rfl
    · exact iv.uq x q y q' h1 h2
    · exact(old x q h1 h2).elim
    · exact(old y q' h1.symm h2.symm).elim
    · rfl
  rcases Bool.eq_false_or_eq_true a.bl with hb|hb
  rotate_left
  · exact fin0 (s':=apL s [mkRd 0 c (wO (wat l i)) (wP (wat l i)) (wR (wat l i)) (wC (wat l i))]) (a':=⟨c,true,false,a.bl,false,mkRd 0 c (wO (wat l i)) (wP (wat l i)) (wR (wat l i)) (wC (wat l i)),rz,a.rl⟩) iv.l80 il (by rw[s1];have:=iv.sl;omega) hpre huq ⟨fun _=>⟨hmr,rfl,rfl⟩,fun h=>Bool.noConfusion h,fun h=>let⟨x,y⟩:=iv.sa.lat h;⟨hms _ x,y⟩⟩ (iv.sb.mono hms) iv.lm iv.ld (iv.dn.mono hms)
          (fun e=>nx (by omega) (h3v (by omega) (Int.ofNat_lt.2 il) (Int.not_lt.2 hc20) iv.lm iv.ld hk hd hc (be1 hgt hl20 (.inl hb)) e hb56))
          (fun o n r cc e e0 e1 e2 e3 e4 e5 e6=>by have hm:=(me0 (k:=0) (a:=⟨c,true,false,a.bl,false,mkRd 0 c (wO (wat l i)) (wP (wat l i)) (wR (wat l i)) (wC (wat l i)),rz,a.rl⟩) (by rintro⟨_,h,_⟩;cases h)).symm.trans e;cases hm)
          (fun o n r cc e e0 e1 e2 e3 e4 e5 e6 e7 e8 e9=>by have hm:=(me0 (k:=0) (a:=⟨c,true,false,a.bl,false,mkRd 0 c (wO (wat l i)) (wP (wat l i)) (wR (wat l i)) (wC (wat l i)),rz,a.rl⟩) (by rintro⟨_,h,_⟩;cases h)).symm.trans e;cases hm)
  · by_cases hq:eY a.rl=c
    · exact fin0 (s':=apL s [mkRd 0 c (wO (wat l i)) (wP (wat l i)) (wR (wat l i)) (wC (wat l i))]) (a':=⟨c,true,a.bl,false,false,mkRd 0 c (wO (wat l i)) (wP (wat l i)) (wR (wat l i)) (wC (wat l i)),a.rl,rz⟩) iv.l80 il (by rw[s1];have:=iv.sl;omega) hpre huq ⟨fun _=>⟨hmr,rfl,rfl⟩,fun h=>let⟨x,y⟩:=iv.sa.lat h;⟨hms _ x,y,hq⟩,fun h=>Bool.noConfusion h⟩ (iv.sb.mono hms) iv.lm iv.ld (iv.dn.mono hms)
          (fun e=>nx (by omega) (i3t (by omega) (Int.ofNat_lt.2 il) (Int.not_lt.2 hc20) iv.lm iv.ld hk hd hc (be2 hgt hl20 hb hq) e hb56))
          (fun o n r cc e e0 e1 e2 e3 e4 e5 e6=>nx (by omega) (j3o (by omega) (Int.ofNat_lt.2 il) (Int.not_lt.2 hc20) iv.lm iv.ld hk hd hc (be2 hgt hl20 hb hq) e e0 e1 hb56 e2 rfl e3 e4 e5 e6))
          (fun o n r cc e e0 e1 e2 e3 e4 e5 e6 e7 e8 e9=>nx (by omega) (j3l (by omega) (Int.ofNat_lt.2 il) (Int.not_lt.2 hc20) iv.lm iv.ld hk hd hc (be2 hgt hl20 hb hq) e e0 e1 hb56 e2 rfl e3 e4 e5 e6 e7 e8 e9 rfl))
    by_cases hq2:eY a.rl≤c
    · exact fin0 (s':=apL s [mkRd 0 c (wO (wat l i)) (wP (wat l i)) (wR (wat l i)) (wC (wat l i))]) (a':=⟨c,true,false,false,false,mkRd 0 c (wO (wat l i)) (wP (wat l i)) (wR (wat l i)) (wC (wat l i)),rz,rz⟩) iv.l80 il (by rw[s1];have:=iv.sl;omega) hpre huq ⟨fun _=>⟨hmr,rfl,rfl⟩,fun h=>Bool.noConfusion h,fun h=>Bool.noConfusion h⟩ (iv.sb.mono hms) iv.lm iv.ld (iv.dn.mono hms)
          (fun e=>nx (by omega) (j3c (by omega) (Int.ofNat_lt.2 il) (Int.not_lt.2 hc20) iv.lm iv.ld hk hd hc (be3 hgt hl20 hb hq2 hq) e hb56))
          (fun o n r cc e e0 e1 e2 e3 e4 e5 e6=>by have hm:=(me0 (k:=0) (a:=⟨c,true,false,false,false,mkRd 0 c (wO (wat l i)) (wP (wat l i)) (wR (wat l i)) (wC (wat l i)),rz,rz⟩) (by rintro⟨_,h,_⟩;cases h)).symm.trans e;cases hm)
          (fun o n r cc e e0 e1 e2 e3 e4 e5 e6 e7 e8 e9=>by have hm:=(me0 (k:=0) (a:=⟨c,true,false,false,false,mkRd 0 c (wO (wat l i)) (wP (wat l i)) (wR (wat l i)) (wC (wat l i)),rz,rz⟩) (by rintro⟨_,h,_⟩;cases h)).symm.trans e;cases hm)
    · exact fin0 (s':=apL s [mkRd 0 c (wO (wat l i)) (wP (wat l i)) (wR (wat l i)) (wC (wat l i))]) (a':=⟨c,true,false,a.bl,false,mkRd 0 c (wO (wat l i)) (wP (wat l i)) (wR (wat l i)) (wC (wat l i)),rz,a.rl⟩) iv.l80 il (by rw[s1];have:=iv.sl;omega) hpre huq ⟨fun _=>⟨hmr,rfl,rfl⟩,fun h=>Bool.noConfusion h,fun h=>let⟨x,y⟩:=iv.sa.lat h;⟨hms _ x,y⟩⟩ (iv.sb.mono hms) iv.lm iv.ld (iv.dn.mono hms)
          (fun e=>nx (by omega) (h3v (by omega) (Int.ofNat_lt.2 il) (Int.not_lt.2 hc20) iv.lm iv.ld hk hd hc (be1 hgt hl20 (.inr ⟨hb,hq2⟩)) e hb56))
          (fun o n r cc e e0 e1 e2 e3 e4 e5 e6=>by have hm:=(me0 (k:=0) (a:=⟨c,true,false,a.bl,false,mkRd 0 c (wO (wat l i)) (wP (wat l i)) (wR (wat l i)) (wC (wat l i)),rz,a.rl⟩) (by rintro⟨_,h,_⟩;cases h)).symm.trans e;cases hm)
          (fun o n r cc e e0 e1 e2 e3 e4 e5 e6 e7 e8 e9=>by have hm:=(me0 (k:=0) (a:=⟨c,true,false,a.bl,false,mkRd 0 c (wO (wat l i)) (wP (wat l i)) (wR (wat l i)) (wC (wat l i)),rz,a.rl⟩) (by rintro⟨_,h,_⟩;cases h)).symm.trans e;cases hm)
theorem act0 (hc20:((wC (wat l i)).length:Int)≤20)(hk:t0c [.n (wS (wat l i)),.n 2]=some (0,[.n 0])):h3z l i s m d a b:=by
 obtain⟨x,hd,x0,x4⟩:=pk1 (a:=wK (wat l i)) (m:=4) (by omega) (by omega)
 by_cases h0:x=0
 ·subst h0
  obtain⟨c,hc,c0,c30⟩:=pk1 (a:=wN (wat l i)) (m:=30) (by omega) (by omega)
  by_cases hle:c≤a.cy
  ·exact actA0 iv il hc20 hk hd hc hle
  ·exact actB0 iv il hc20 hk hd hc hle c0 c30
 by_cases h3:x=3
 ·subst h3;exact actD0 iv il hc20 hk hd
 by_cases hl:(s.length:Int)=0
 ·exact actE0 iv il hc20 hk hd h0 h3 hl
 ·exact actH0 iv il hc20 hk hd h0 h3 (by omega)
theorem actA1 (hc20:((wC (wat l i)).length:Int)≤20)(hk:t0c [.n (wS (wat l i)),.n 2]=some (0,[.n 1]))(hd:t0c [.n (wK (wat l i)),.n 4]=some (0,[.n 0])){c:Int}(hc:t0c [.n (wN (wat l i)),.n 30]=some (0,[.n c]))(hle:c≤b.cy):h3z l i s m d a b:=by
 have h80:=iv.l80
 exact fin1 (b':=b) iv.l80 il (Nat.le_succ_of_le iv.sl) iv.pre iv.uq iv.sa iv.sb iv.lm iv.ld iv.dn
  (fun e=>nx (by omega) (k3b (by omega) (Int.ofNat_lt.2 il) (Int.not_lt.2 hc20) iv.lm iv.ld hk hd hc (h3o hle) e))
  (fun o n r c e e0 e1 e2 e3 e4=>nx (by omega) (k3a (by omega) (Int.ofNat_lt.2 il) (Int.not_lt.2 hc20) iv.lm iv.ld hk hd hc (h3o hle) e e0 e1 e2 e3 e4))
  (fun o n r c e e0 e1 e2 e3 e4 e5 e6 e7 e8 e9=>nx (by omega) (j3v (by omega) (Int.ofNat_lt.2 il) (Int.not_lt.2 hc20) iv.lm iv.ld hk hd hc (h3o hle) e e0 e1 e2 e3 e4 e5 e6 e7 e8 e9 rfl))
theorem actD1 (hc20:((wC (wat l i)).length:Int)≤20)(hk:t0c [.n (wS (wat l i)),.n 2]=some (0,[.n 1]))(hd:t0c [.n (wK (wat l i)),.n 4]=some (0,[.n 3])):h3z l i s m d a b:=by
 have h80:=iv.l80
 exact fin1 (b':=b) iv.l80 il (Nat.le_succ_of_le iv.sl) iv.pre iv.uq iv.sa iv.sb iv.lm iv.ld iv.dn
  (fun e=>nx (by omega) (j3w (by omega) (Int.ofNat_lt.2 il) (Int.not_lt.2 hc20) iv.lm iv.ld hk hd h3p h3q h3r e))
  (fun o n r c e e0 e1 e2 e3 e4=>nx (by omega) (k3f (by omega) (Int.ofNat_lt.2 il) (Int.not_lt.2 hc20) iv.lm iv.ld hk hd h3p h3q h3r e e0 e1 e2 e3 e4))
  (fun o n r c e e0 e1 e2 e3 e4 e5 e6 e7 e8 e9=>nx (by omega) (k3i (by omega) (Int.ofNat_lt.2 il) (Int.not_lt.2 hc20) iv.lm iv.ld hk hd h3p h3q h3r e e0 e1 e2 e3 e4 e5 e6 e7 e8 e9 rfl))
theorem actE1 (hc20:((wC (wat l i)).length:Int)≤20)(hk:t0c [.n (wS (wat l i)),.n 2]=some (0,[.n 1])){x:Int}(hd:t0c [.n (wK (wat l i)),.n 4]=some (0,[.n x]))(h0: ¬x=0)(h3: ¬x=3)(hl:(s.length:Int)=0):h3z l i s m d a b:=by
 have h80:=iv.l80
 exact fin1 (b':=b) iv.l80 il (Nat.le_succ_of_le iv.sl) iv.pre iv.uq iv.sa iv.sb iv.lm iv.ld iv.dn
  (fun e=>nx (by omega) (k3h (by omega) (Int.ofNat_lt.2 il) (Int.not_lt.2 hc20) iv.lm iv.ld hk hd h0 h3 hl e))
  (fun o n r c e e0 e1 e2 e3 e4=>nx (by omega) (k3o (by omega) (Int.ofNat_lt.2 il) (Int.not_lt.2 hc20) iv.lm iv.ld hk hd h0 h3 hl e e0 e1 e2 e3 e4))
  (fun o n r c e e0 e1 e2 e3 e4 e5 e6 e7 e8 e9=>nx (by omega) (j3r (by omega) (Int.ofNat_lt.2 il) (Int.not_lt.2 hc20) iv.lm iv.ld hk hd h0 h3 hl e e0 e1 e2 e3 e4 e5 e6 e7 e8 e9 rfl))
theorem actH1 (hc20:((wC (wat l i)).length:Int)≤20)(hk:t0c [.n (wS (wat l i)),.n 2]=some (0,[.n 1])){x:Int}(hd:t0c [.n (wK (wat l i)),.n 4]=some (0,[.n x]))(h0: ¬x=0)(h3: ¬x=3)(hl:(s.length:Int)>0):h3z l i s m d a b:=by
  have h80:=iv.l80
  obtain⟨c,hc,c0,c1⟩:=pk1 (a:=wN (wat l i)) (m:=(s.length:Int)) hl (by have:=iv.sl;omega)
  have cn:c.toNat<s.length:=by omega
  have hx:rat s c.toNat∈s:=memS cn
  have hn:Ln s:=fun x hx=>(iv.pre x hx).2.2.2
  have how:=l3v (n0:=eC (rat s c.toNat)) (n1:=eY (rat s c.toNat)) (n2:=eO (rat s c.toNat)) (n3:=eN (rat s c.toNat)) (n4:=eR (rat s c.toNat)) (l5:=eL (rat s c.toNat)) (by have:=hn _ hx;omega)
  rcases he1 (k:=1) (by omega) iv.sb hx hn with⟨e,br,hh⟩|⟨x1,x2,e,hh⟩|⟨x1,e,hh⟩
  · exact fin1 (b':=⟨b.cy,b.bo,b.bt,b.bl,br,b.ro,b.rt,b.rl⟩) iv.l80 il (Nat.le_succ_of_le iv.sl) iv.pre iv.uq iv.sa ⟨iv.sb.own,iv.sb.oth,iv.sb.lat⟩ iv.lm iv.ld iv.dn
          (fun e=>nx (by omega) (j3f (by omega) (Int.ofNat_lt.2 il) (Int.not_lt.2 hc20) iv.lm iv.ld hk hd h0 h3 hl hc c0 c1 how hh e))
          (fun o n r c e e0 e1 e2 e3 e4=>nx (by omega) (i3l (by omega) (Int.ofNat_lt.2 il) (Int.not_lt.2 hc20) iv.lm iv.ld hk hd h0 h3 hl hc c0 c1 how hh e e0 e1 e2 e3 e4))
          (fun o n r c e e0 e1 e2 e3 e4 e5 e6 e7 e8 e9=>nx (by omega) (j3k (by omega) (Int.ofNat_lt.2 il) (Int.not_lt.2 hc20) iv.lm iv.ld hk hd h0 h3 hl hc c0 c1 how hh e e0 e1 e2 e3 e4 e5 e6 e7 e8 e9 rfl))
  · exact fin1 (b':=⟨b.cy,b.bo,true,b.bl,b.br,b.ro,rat s c.toNat,b.rl⟩) iv.l80 il (Nat.le_succ_of_le iv.sl) iv.pre iv.uq iv.sa ⟨iv.sb.own,fun _=>⟨hx,x1,x2⟩,iv.sb.lat⟩ iv.lm iv.ld iv.dn
          (fun e=>nx (by omega) (j3h (by omega) (Int.ofNat_lt.2 il) (Int.not_lt.2 hc20) iv.lm iv.ld hk hd h0 h3 hl hc c0 c1 how hh e))
          (fun o n r c e e0 e1 e2 e3 e4=>nx (by omega) (j3i (by omega) (Int.ofNat_lt.2 il) (Int.not_lt.2 hc20) iv.lm iv.ld hk hd h0 h3 hl hc c0 c1 how hh e e0 e1 e2 e3 e4))
          (fun o n r c e e0 e1 e2 e3 e4 e5 e6 e7 e8 e9=>nx (by omega) (i3r (by omega) (Int.ofNat_lt.2 il) (Int.not_lt.2 hc20) iv.lm iv.ld hk hd h0 h3 hl hc c0 c1 how hh e e0 e1 e2 e3 e4 e5 e6 e7 e8 e9 rfl))
  · exact fin1 (b':=⟨b.cy,b.bo,b.bt,true,b.br,b.ro,b.rt,rat s c.toNat⟩) iv.l80 il (Nat.le_succ_of_le iv.sl) iv.pre iv.uq iv.sa ⟨iv.sb.own,iv.sb.oth,fun _=>⟨hx,x1⟩⟩ iv.lm iv.ld iv.dn
          (fun e=>nx (by omega) (i3m (by omega) (Int.ofNat_lt.2 il) (Int.not_lt.2 hc20) iv.lm iv.ld hk hd h0 h3 hl hc c0 c1 how hh e))
          (fun o n r c e e0 e1 e2 e3 e4=>nx (by omega) (i3p (by omega) (Int.ofNat_lt.2 il) (Int.not_lt.2 hc20) iv.lm iv.ld hk hd h0 h3 hl hc c0 c1 how hh e e0 e1 e2 e3 e4))
          (fun o n r c e e0 e1 e2 e3 e4 e5 e6 e7 e8 e9=>nx (by omega) (i3w (by omega) (Int.ofNat_lt.2 il) (Int.not_lt.2 hc20) iv.lm iv.ld hk hd h0 h3 hl hc c0 c1 how hh e e0 e1 e2 e3 e4 e5 e6 e7 e8 e9 rfl))
theorem actB1 (hc20:((wC (wat l i)).length:Int)≤20)(hk:t0c [.n (wS (wat l i)),.n 2]=some (0,[.n 1]))(hd:t0c [.n (wK (wat l i)),.n 4]=some (0,[.n 0])){c:Int}(hc:t0c [.n (wN (wat l i)),.n 30]=some (0,[.n c]))(hgt: ¬c≤b.cy)(c0:0≤c)(c30:c<30):h3z l i s m d a b:=by
  have h80:=iv.l80
  have hl20:(wC (wat l i)).length≤20:=by omega
  have s1:(apL s [mkRd 1 c (wO (wat l i)) (wP (wat l i)) (wR (wat l i)) (wC (wat l i))]).length=s.length+1:=by show(s++_).length=_;rw[List.length_append];rfl
  have hms: ∀x∈s,x∈apL s [mkRd 1 c (wO (wat l i)) (wP (wat l i)) (wR (wat l i)) (wC (wat l i))]:=fun x hx=>List.mem_append_left _ hx
  have hmr:mkRd 1 c (wO (wat l i)) (wP (wat l i)) (wR (wat l i)) (wC (wat l i))∈apL s [mkRd 1 c (wO (wat l i)) (wP (wat l i)) (wR (wat l i)) (wC (wat l i))]:=List.mem_append_right _ (List.mem_singleton.2 rfl)
  have hmc: ∀x∈apL s [mkRd 1 c (wO (wat l i)) (wP (wat l i)) (wR (wat l i)) (wC (wat l i))],x∈s∨x=mkRd 1 c (wO (wat l i)) (wP (wat l i)) (wR (wat l i)) (wC (wat l i)):=fun x hx=>(List.mem_append.1 hx).imp id List.mem_singleton.1
  have hb56:(List.length s+1)*56≤140737488355328:=by have:=iv.sl;omega
  have hpre:m3f (apL s [mkRd 1 c (wO (wat l i)) (wP (wat l i)) (wR (wat l i)) (wC (wat l i))]) a.cy c:=by
    intro x hx
    rcases hmc x hx with q|rfl
    · obtain⟨p1,p2⟩:=iv.pre x q
      refine⟨?_,p2⟩
      rcases p1 with⟨p,p'⟩|⟨p,p'⟩
      · exact .inl ⟨p,by omega⟩
      · exact .inr ⟨p,by omega⟩
    · exact⟨.inr ⟨rfl,Int.le_refl _⟩,c0,c30,hl20⟩
  have huq:Uq (apL s [mkRd 1 c (wO (wat l i)) (wP (wat l i)) (wR (wat l i)) (wC (wat l i))]):=by
    have old: ∀x∈s,eC x=1→eY x=c→False:=fun x hx h1 h2=>by
      rcases(iv.pre x hx).1 with⟨p,p'⟩|⟨p,p'⟩<;>omega
    intro x hx y hy h1 h2
    rcases hmc x hx with q|rfl<;>rcases hmc y hy with q'|rfl
    · exact iv.uq x q y q' h1 h2
    · exact(old x q h1 h2).elim
    · exact(old y q' h1.symm h2.symm).elim
    · rfl
  rcases Bool.eq_false_or_eq_true b.bl with hb|hb
  rotate_left
  · exact fin1 (s':=apL s [mkRd 1 c (wO (wat l i)) (wP (wat l i)) (wR (wat l i)) (wC (wat l i))]) (b':=⟨c,true,false,b.bl,false,mkRd 1 c (wO (wat l i)) (wP (wat l i)) (wR (wat l i)) (wC (wat l i)),rz,b.rl⟩) iv.l80 il (by rw[s1];have:=iv.sl;omega) hpre huq (iv.sa.mono hms) ⟨fun _=>⟨hmr,rfl,rfl⟩,fun h=>Bool.noConfusion h,fun h=>let⟨x,y⟩:=iv.sb.lat h;⟨hms _ x,y⟩⟩ iv.lm iv.ld (iv.dn.mono hms)
          (fun e=>nx (by omega) (h3t (by omega) (Int.ofNat_lt.2 il) (Int.not_lt.2 hc20) iv.lm iv.ld hk hd hc (be1 hgt hl20 (.inl hb)) e hb56))
          (fun o n r cc e e0 e1 e2 e3 e4=>by have hm:=(me0 (k:=1) (a:=⟨c,true,false,b.bl,false,mkRd 1 c (wO (wat l i)) (wP (wat l i)) (wR (wat l i)) (wC (wat l i)),rz,b.rl⟩) (by rintro⟨_,h,_⟩;cases h)).symm.trans e;cases hm)
          (fun o n r cc e e0 e1 e2 e3 e4 e5 e6 e7 e8 e9=>by have hm:=(me0 (k:=1) (a:=⟨c,true,false,b.bl,false,mkRd 1 c (wO (wat l i)) (wP (wat l i)) (wR (wat l i)) (wC (wat l i)),rz,b.rl⟩) (by rintro⟨_,h,_⟩;cases h)).symm.trans e;cases hm)
  · by_cases hq:eY b.rl=c
    · exact fin1 (s':=apL s [mkRd 1 c (wO (wat l i)) (wP (wat l i)) (wR (wat l i)) (wC (wat l i))]) (b':=⟨c,true,b.bl,false,false,mkRd 1 c (wO (wat l i)) (wP (wat l i)) (wR (wat l i)) (wC (wat l i)),b.rl,rz⟩) iv.l80 il (by rw[s1];have:=iv.sl;omega) hpre huq (iv.sa.mono hms) ⟨fun _=>⟨hmr,rfl,rfl⟩,fun h=>let⟨x,y⟩:=iv.sb.lat h;⟨hms _ x,y,hq⟩,fun h=>Bool.noConfusion h⟩ iv.lm iv.ld (iv.dn.mono hms)
          (fun e=>nx (by omega) (j3b (by omega) (Int.ofNat_lt.2 il) (Int.not_lt.2 hc20) iv.lm iv.ld hk hd hc (be2 hgt hl20 hb hq) e hb56))
          (fun o n r cc e e0 e1 e2 e3 e4=>nx (by omega) (i3z (by omega) (Int.ofNat_lt.2 il) (Int.not_lt.2 hc20) iv.lm iv.ld hk hd hc (be2 hgt hl20 hb hq) e e0 e1 hb56 e2 rfl e3 e4))
          (fun o n r cc e e0 e1 e2 e3 e4 e5 e6 e7 e8 e9=>nx (by omega) (i3s (by omega) (Int.ofNat_lt.2 il) (Int.not_lt.2 hc20) iv.lm iv.ld hk hd hc (be2 hgt hl20 hb hq) e e0 e1 hb56 e2 rfl e3 e4 e5 e6 e7 e8 e9 rfl))
    by_cases hq2:eY b.rl≤c
    · exact fin1 (s':=apL s [mkRd 1 c (wO (wat l i)) (wP (wat l i)) (wR (wat l i)) (wC (wat l i))]) (b':=⟨c,true,false,false,false,mkRd 1 c (wO (wat l i)) (wP (wat l i)) (wR (wat l i)) (wC (wat l i)),rz,rz⟩) iv.l80 il (by rw[s1];have:=iv.sl;omega) hpre huq (iv.sa.mono hms) ⟨fun _=>⟨hmr,rfl,rfl⟩,fun h=>Bool.noConfusion h,fun h=>Bool.noConfusion h⟩ iv.lm iv.ld (iv.dn.mono hms)
          (fun e=>nx (by omega) (j3d (by omega) (Int.ofNat_lt.2 il) (Int.not_lt.2 hc20) iv.lm iv.ld hk hd hc (be3 hgt hl20 hb hq2 hq) e hb56))
          (fun o n r cc e e0 e1 e2 e3 e4=>by have hm:=(me0 (k:=1) (a:=⟨c,true,false,false,false,mkRd 1 c (wO (wat l i)) (wP (wat l i)) (wR (wat l i)) (wC (wat l i)),rz,rz⟩) (by rintro⟨_,h,_⟩;cases h)).symm.trans e;cases hm)
          (fun o n r cc e e0 e1 e2 e3 e4 e5 e6 e7 e8 e9=>by have hm:=(me0 (k:=1) (a:=⟨c,true,false,false,false,mkRd 1 c (wO (wat l i)) (wP (wat l i)) (wR (wat l i)) (wC (wat l i)),rz,rz⟩) (by rintro⟨_,h,_⟩;cases h)).symm.trans e;cases hm)
    · exact fin1 (s':=apL s [mkRd 1 c (wO (wat l i)) (wP (wat l i)) (wR (wat l i)) (wC (wat l i))]) (b':=⟨c,true,false,b.bl,false,mkRd 1 c (wO (wat l i)) (wP (wat l i)) (wR (wat l i)) (wC (wat l i)),rz,b.rl⟩) iv.l80 il (by rw[s1];have:=iv.sl;omega) hpre huq (iv.sa.mono hms) ⟨fun _=>⟨hmr,rfl,rfl⟩,fun h=>Bool.noConfusion h,fun h=>let⟨x,y⟩:=iv.sb.lat h;⟨hms _ x,y⟩⟩ iv.lm iv.ld (iv.dn.mono hms)
          (fun e=>nx (by omega) (h3t (by omega) (Int.ofNat_lt.2 il) (Int.not_lt.2 hc20) iv.lm iv.ld hk hd hc (be1 hgt hl20 (.inr ⟨hb,hq2⟩)) e hb56))
          (fun o n r cc e e0 e1 e2 e3 e4=>by have hm:=(me0 (k:=1) (a:=⟨c,true,false,b.bl,false,mkRd 1 c (wO (wat l i)) (wP (wat l i)) (wR (wat l i)) (wC (wat l i)),rz,b.rl⟩) (by rintro⟨_,h,_⟩;cases h)).symm.trans e;cases hm)
          (fun o n r cc e e0 e1 e2 e3 e4 e5 e6 e7 e8 e9=>by have hm:=(me0 (k:=1) (a:=⟨c,true,false,b.bl,false,mkRd 1 c (wO (wat l i)) (wP (wat l i)) (wR (wat l i)) (wC (wat l i)),rz,b.rl⟩) (by rintro⟨_,h,_⟩;cases h)).symm.trans e;cases hm)
theorem act1 (hc20:((wC (wat l i)).length:Int)≤20)(hk:t0c [.n (wS (wat l i)),.n 2]=some (0,[.n 1])):h3z l i s m d a b:=by
 obtain⟨x,hd,x0,x4⟩:=pk1 (a:=wK (wat l i)) (m:=4) (by omega) (by omega)
 by_cases h0:x=0
 ·subst h0
  obtain⟨c,hc,c0,c30⟩:=pk1 (a:=wN (wat l i)) (m:=30) (by omega) (by omega)
  by_cases hle:c≤b.cy
  ·exact actA1 iv il hc20 hk hd hc hle
  ·exact actB1 iv il hc20 hk hd hc hle c0 c30
 by_cases h3:x=3
 ·subst h3;exact actD1 iv il hc20 hk hd
 by_cases hl:(s.length:Int)=0
 ·exact actE1 iv il hc20 hk hd h0 h3 hl
 ·exact actH1 iv il hc20 hk hd h0 h3 (by omega)
end
theorem lp8 (l:LW)(l80:l.length≤80): ∀(fuel i:Nat) (s:LR) (m:LI) (d:LBo) (a b:Sd),Iv l i s m d a b→l.length-i<fuel→a0b s1c fuel (Zt l (i:Int) s m d a b)=some (0,[])∨a0b s1c fuel (Zt l (i:Int) s m d a b)=some (1,[.b true]):=by
 intro fuel
 induction fuel with
 |zero=>intro i s m d a b _ h;omega
 |succ fuel ih=>
  intro i s m d a b iv hf
  have hil:=iv.il
  by_cases q:i<l.length
  ·by_cases c:((wC (wat l i)).length:Int)≤20
   ·obtain⟨k,hk,k0,k1⟩:=pk1 (a:=wS (wat l i)) (m:=2) (by omega) (by omega)
    have g:h3z l i s m d a b:=by
     rcases(show k=0∨k=1 by omega)with rfl|rfl
     ·exact act0 iv q c hk
     ·exact act1 iv q c hk
    obtain⟨s2,m2,d2,a2,b2,e,iv2⟩:=g
    have e2:=v0e (n:=fuel) e
    rcases ih (i+1) s2 m2 d2 a2 b2 iv2 (by omega)with h|h
    ·exact .inl (e2.trans h)
    ·exact .inr (e2.trans h)
   ·exact .inr (c0a (k3u (by omega) (Int.ofNat_lt.2 q) (by omega:((wC (wat l i)).length:Int)>20)))
  ·exact .inl (c0a (n3m (by omega) (by omega)))
theorem W4_all (l:LW):(m3u [.l TWay l]).sel=some true:=by
 by_cases h:(l.length:Int)>80
 ·exact n3w h
 ·have h80:l.length≤80:=by omega
  have dn0:Dn [] (List.replicate 60 (Ty.dflt TIn)) (List.replicate 60 false):=by
   intro q hq e
   have e0:(List.getD (List.replicate 60 false) q false:Bool)=false:=by rw[List.getD_eq_getElem?_getD,List.getElem?_replicate,if_pos hq];rfl
   cases(e0.symm.trans e)
  have iv:Iv l 0 [] (List.replicate 60 (Ty.dflt TIn)) (List.replicate 60 false) ⟨0,false,false,false,false,rz,rz,rz⟩ ⟨0,false,false,false,false,rz,rz,rz⟩:=
   ⟨h80,Nat.zero_le _,Nat.le_refl _,fun x hx=>absurd hx List.not_mem_nil,fun x hx=>absurd hx List.not_mem_nil,⟨fun h=>Bool.noConfusion h,fun h=>Bool.noConfusion h,fun h=>Bool.noConfusion h⟩,⟨fun h=>Bool.noConfusion h,fun h=>Bool.noConfusion h,fun h=>Bool.noConfusion h⟩,List.length_replicate,List.length_replicate,dn0⟩
  rcases lp8 l h80 FU 0 _ _ _ _ _ iv (lt_FU (by omega))with k|k
  ·rw[←k3p]at k;exact p3m h k
  ·rw[←k3p]at k;exact p3f h k
end Go.Proofs.Ytcoamiaifbjofaa.Vx
