import Derived.Test.YtcbhgaeiokfcdaaGreatVxIm
import Derived.Test.YtcbhgaeiokfcdaaGreatVxLk
import Derived.Test.YtcbhgaeiokfcdaaGreatVxLaw
import Derived.Test.YtcbhgaeiokfcdaaGreatZ06m
import Derived.KernelRfl
noncomputable section
namespace Go.Proofs.YtcbhgaeiokfcdaaGreat.Vx
open Go Go.RowKit
set_option linter.unusedVariables false
set_option linter.unusedSimpArgs false
set_option maxRecDepth 100000
set_option maxHeartbeats 0
@[match_pattern] abbrev TU:Ty:=.int .u64
def h1w (f:OpT):MBox:=mkM 0 [] [(sh 54 [(1,.ptr 0 0),(6,.own 1),(7,.int .i64 0),(23,.int .i64 1),(24,.int .i64 2),(27,.int .i64 3),(28,.int .i64 4)],[laB 5,.arr TU 9])] [] [(.exit 2,sh 54 [(1,.ptr 0 0),(6,.own 1),(7,.int .i64 0),(23,.int .i64 1),(24,.int .i64 2)],[laB 3,.arr TU 7])] f
def g0u (env:LDt):Tree Step:=Lk.stepMC false LK cs_Z 16 9 ls0 (h1w fun _=>none) env
def u0d:OpT:=Classical.choose (opq (a0b g0u FU))
theorem x0o (env:LDt):u0d env=a0b g0u FU env:=Classical.choose_spec (opq (a0b g0u FU)) env
def y1o:MBox:=h1w u0d
theorem g2c:y1o=h1w (a0b g0u FU):=congrArg h1w (funext x0o)
theorem c2n: ∀t s x,(a0h y1o t s).sel=some x→a0k Tryz.prog 0 (.loop (cAt Tryz.prog 16 9)) t s x:=by
 rw[g2c]
 exact a0o (st:=g0u) (m:=FU) j1g hmix false (LsOk.none _ _ _) (by kernel_rfl) (fun env y h=>by rw[←stepMC_lk];exact h)
def q0g:LDt→Tree Step
 |[.n n0,.n n1,.n n2,.n n3,.n n4,.l TS l5,.l TPt l6,.l TPt l7,.l TRt l8,.l TU l9]=>
  (.node (decide (n4<n3))
   (let r1:OD:=(g2p [.l TS l5,.l TPt l6,.l TPt l7,.l TRt l8,.n n0,.n n4]);
   (.node (isK 0 [HK.b] r1)
    (.node (gb (dOf r1) 0)
    (.node (inR n0 (List.length l9))
     (.node (inR n4 (List.length (List.set l9 (Int.toNat n0) (ior IntKind.u64 (List.getD l9 (Int.toNat n0) (0:Int)) (ishl IntKind.u64 (1:Int) n4)))))
     (.leaf (Step.go [.k 0,.n n0,.n n1,.n n2,.n n3,.n (IntKind.wrap .i64 (n4+(1:Int))),.l TS l5,.l TPt l6,.l TPt l7,.l TRt l8,.l TU (List.set (List.set l9 (Int.toNat n0) (ior IntKind.u64 (List.getD l9 (Int.toNat n0) (0:Int)) (ishl IntKind.u64 (1:Int) n4))) (Int.toNat n4) (ior IntKind.u64 (List.getD (List.set l9 (Int.toNat n0) (ior IntKind.u64 (List.getD l9 (Int.toNat n0) (0:Int)) (ishl IntKind.u64 (1:Int) n4))) (Int.toNat n4) (0:Int)) (ishl IntKind.u64 (1:Int) n0)))]))
     (.bad 12))
     (.bad 12))
    (.leaf (Step.go [.k 0,.n n0,.n n1,.n n2,.n n3,.n (IntKind.wrap .i64 (n4+(1:Int))),.l TS l5,.l TPt l6,.l TPt l7,.l TRt l8,.l TU l9])))
    (.bad 351)))
   (.leaf (Step.stop 0 [.n n0,.n n1,.n n2,.l TS l5,.l TPt l6,.l TPt l7,.l TRt l8,.l TU l9])))
 |_=>.bad 0
theorem p0m (n0:Int)(n1:Int)(n2:Int)(n3:Int)(n4:Int)(l5:DS)(l6:DP)(l7:DP)(l8:DR)(l9:List (Ty.den TU))(g0:0≤n0)(g1:0≤n4)(g2:n0≤(l9.length:Int))(g3:n3=n0):Imp (q0g [.n n0,.n n1,.n n2,.n n3,.n n4,.l TS l5,.l TPt l6,.l TPt l7,.l TRt l8,.l TU l9]) (g0u [.k 0,.n n0,.n n1,.n n2,.n n3,.n n4,.l TS l5,.l TPt l6,.l TPt l7,.l TRt l8,.l TU l9]):=
(.pa [1]
(.nd (fun h0=>
(.nd (fun h1=>
(.pa [1]
(.nd (fun h2=>
(.nd (fun h3=>
(.pt (c:=(!decide (n4<(0:Int)))) (by kernel_rfl) (by kernel_rfl) (by(simp[*];done))
(.pt (by kernel_rfl) (by kernel_rfl) h3
(.pa [1]
(.nd (fun h4=>
(.pt (c:=(!decide (n0<(0:Int)))) (by kernel_rfl) (by kernel_rfl) (by(simp[*];done))
(.pt (by kernel_rfl) (by kernel_rfl) h4
(.pa [1,1]
.lf)))) (fun h4=>
.none)))))) (fun h3=>
.none))) (fun h2=>
(.pa [1]
.lf))))) (fun h1=>
.none))) (fun h0=>
(.pa [1]
.lf))))
def i1o (f:OpT):MBox:=mkM 0 [] [(sh 54 [(1,.ptr 0 0),(6,.own 1),(23,.int .i64 0),(24,.int .i64 1)],[laB 2,.arr TU 6])] [] [(.exit 0,sh 54 [(6,.own 0)],[.arr TU 0])] f
def g0k (env:LDt):Tree Step:=Lk.stepMC false LK cs_Z 16 6 (lsM [(9,y1o)] 0) (i1o fun _=>none) env
def r0c:OpT:=Classical.choose (opq (a0b g0k FU))
theorem x0q (env:LDt):r0c env=a0b g0k FU env:=Classical.choose_spec (opq (a0b g0k FU)) env
def x1m:MBox:=i1o r0c
theorem c2i:x1m=i1o (a0b g0k FU):=congrArg i1o (funext x0q)
theorem n2r:LsOk Tryz.prog 0 (lsM [(9,y1o)] 0) (cAt Tryz.prog 16 6):=LsOk.many fun j B hB hk c hc hi=>by
 simp only[b0d]at hB
 split at hB
 ·rename_i e;have:=Nat.eq_of_beq_eq_true e;subst this;cases hB
  have e1:v0m (cAt Tryz.prog 16 6) 9=[cAt Tryz.prog 16 9]:=by kernel_rfl
  have e2:=a0d hc hi
  rw[e1]at e2;cases List.mem_singleton.1 e2;exact c2n
 cases hB
theorem c2z: ∀t s x,(a0h x1m t s).sel=some x→a0k Tryz.prog 0 (.loop (cAt Tryz.prog 16 6)) t s x:=by
 rw[c2i]
 exact a0o (st:=g0k) (m:=FU) j1g hmix false (n2r) (by kernel_rfl) (fun env y h=>by rw[←stepMC_lk];exact h)
def q0k:LDt→Tree Step
 |[.n n0,.n n1,.l TS l2,.l TPt l3,.l TPt l4,.l TRt l5,.l TU l6]=>
  (.node (decide (n1<n0))
   (let r1:OD:=(u0d [.k 0,.n n1,.n n0,.n n1,.n n1,.n (0:Int),.l TS l2,.l TPt l3,.l TPt l4,.l TRt l5,.l TU l6]);
   (.node (isK 0 [HK.n,HK.n,HK.n,HK.l Ty.str,HK.l TPt,HK.l TPt,HK.l TRt,HK.l TU] r1)
    (.leaf (Step.go [.k 0,.n (gn (dOf r1) 1),.n (IntKind.wrap .i64 (gn (dOf r1) 2+(1:Int))),.l TS (gl Ty.str (dOf r1) 3),.l TPt (gl TPt (dOf r1) 4),.l TPt (gl TPt (dOf r1) 5),.l TRt (gl TRt (dOf r1) 6),.l TU (gl TU (dOf r1) 7)]))
    (.bad 351)))
   (.leaf (Step.stop 0 [.l TU l6])))
 |_=>.bad 0
theorem p0l (n0:Int)(n1:Int)(l2:DS)(l3:DP)(l4:DP)(l5:DR)(l6:List (Ty.den TU))(g0:0≤n1)(g1:n0=(l5.length:Int))(g2:n0=(l6.length:Int)):Imp (q0k [.n n0,.n n1,.l TS l2,.l TPt l3,.l TPt l4,.l TRt l5,.l TU l6]) (g0k [.k 0,.n n0,.n n1,.l TS l2,.l TPt l3,.l TPt l4,.l TRt l5,.l TU l6]):=
(.pa [1]
(.nd (fun h0=>
(.nd (fun h1=>
(.pa [1]
.lf)) (fun h1=>
.none))) (fun h0=>
(.pa [1]
.lf))))
theorem n2p:LsOk Tryz.prog (z0) (lsM [(6,x1m)] (z0)) (a0r Tryz.prog 16):=LsOk.many fun j B hB hk c hc hi=>by
 simp only[b0d]at hB
 split at hB
 ·rename_i e;have:=Nat.eq_of_beq_eq_true e;subst this;cases hB
  have e1:p0c Tryz.prog 16 6=[cAt Tryz.prog 16 6]:=a0e (by kernel_rfl)
  have e2:c∈p0c Tryz.prog 16 6:=a0d hc hi
  rw[e1]at e2;cases List.mem_singleton.1 e2;exact c2z
 cases hB
def kc17 (f:OpT):FBox:=mkF [laV 0] [] [] [(.tup [.own 0,.int .i64 0],[.arr TU 1]),(.tup [.nilsl,.int .i64 0],[])] f
def a2s (env:LDt):TD:=Lk.boxC false LK cs_Z 16 (lsM [(6,x1m)] (z0)) (kc17 fun _=>none) env
def p1p:OpT:=Classical.choose (opq (fun env=>(a2s env).sel))
theorem m1s (env:LDt):p1p env=(a2s env).sel:=Classical.choose_spec (opq (fun env=>(a2s env).sel)) env
def Bc17:FBox:=kc17 p1p
theorem d4f:a0v Tryz.prog 16 (a0j Bc17):=a0p (op:=p1p) j1g hmix false (n2p) (fun env x h=>by rw[m1s]at h;rw[←boxC_lk];exact h)
def y1f:LDt→TD
 |[.l TS l0,.l TPt l1,.l TPt l2,.l TRt l3]=>
  (let r1:OD:=(b2y [.l TS l0,.l TPt l1,.l TPt l2,.l TRt l3]);
   (.node (isK 0 [HK.n,HK.n] r1)
   (.node (gn (dOf r1) 0 !=(0:Int))
    (.leaf ((1,[.n (gn (dOf r1) 0)])))
    (.node (true&&decide ((↑(List.length l3):Int)≤(↑(List.length l3):Int))&&decide ((↑(List.length l3):Int)*(8:Int)≤(281474976710656:Int)))
    (let r2:OD:=(r0c
 [.k 0,.n (↑(List.length l3):Int),.n (0:Int),.l TS l0,.l TPt l1,.l TPt l2,.l TRt l3,
  .l TU
   (repC (α:=Ty.den TU) (Int.toNat (↑(List.length l3):Int)) (0:Int))]);
     (.node (isK 0 [HK.l TU] r2)
     (.leaf ((0,[.n (0:Int),.l TU (gl TU (dOf r2) 0)])))
     (.bad 351)))
    (.bad 50)))
   (.bad 351)))
 |_=>.bad 0
theorem r1j (l0:DS)(l1:DP)(l2:DP)(l3:DR):Imp (y1f [.l TS l0,.l TPt l1,.l TPt l2,.l TRt l3]) (a2s [.l TS l0,.l TPt l1,.l TPt l2,.l TRt l3]):=
(.nd (fun h0=>
(.pa [1]
(.nd (fun h1=>
(.pa [1]
.lf)) (fun h1=>
(.nd (fun h2=>
(.nd (fun h3=>
(.pa [1]
.lf)) (fun h3=>
.none))) (fun h2=>
.none)))))) (fun h0=>
.none))
def cs_c17:FuncId→Option a0q:=a0s 16 Bc17 cs_Z
theorem n1v:CsOk Tryz.prog cs_c17:=a0g j1g d4f
theorem s2t {i:Int}{n:Nat}(h0:0≤i)(h1:i<(n:Int)):inR i n=true:=g1v.2 ⟨h0,h1⟩
theorem rtG_of {b c:LP}{e:Rt}(h:rtOk b c e):rtG b e=true:=by
 obtain⟨_,⟨h1,h2,h3,h4⟩,h5,h6⟩:=h
 unfold rtG
 rw[dt h1,dt h2,dt h3,dt h4]
 simp only[Bool.true_and,List.all_eq_true]
 intro d hd
 rcases List.mem_append.1 (show d∈eQ e++eF e from hd)with hd|hd
 ·exact g1v.2 (h5 d hd)
 ·exact g1v.2 (h6 d hd)
theorem oCl (a:LS)(b c:LP)(r:LR)(i j:Int)(hm:mayL a b c r=true)(hi:0≤i∧i<(r.length:Int))(hj:0≤j∧j<(r.length:Int)):
  g2p [.l TS a,.l TPt b,.l TPt c,.l TRt r,.n i,.n j]=some (0,[.b (clF b r i j)]):=by
 rw[u1p]
 obtain⟨_,_,hr⟩:=l0q hm
 have h1:okC b r i j=true:=by
  unfold okC
  rw[s2t hi.1 hi.2,s2t hj.1 hj.2]
  have g1:rtG b (rAt r i)=true:=rtG_of (hr i.toNat (by omega))
  have g2:rtG b (rAt r j)=true:=rtG_of (hr j.toNat (by omega))
  rw[g1,g2];rfl
 show(match c0r TS TS a,c0r TPt TPt b,c0r TPt TPt c,c0r TRt TRt r with|some a,some b,some c,some r=>bif okC b r i j then some (0,[Dat.b (clF b r i j)])else none|_,_,_,_=>none)=_
 simp only[d0b,h1]
 rfl
theorem n2x {l:LN}(hn:(nd l).Nodup){d:Ty.den TNd}(hd:d∈l):sdF l (f1 d)=some (g2 d):=by
 induction l with
 |nil=>cases hd
 |cons e l ih=>
  have hn':(f1 e::nd l).Nodup:=hn
  rw[List.nodup_cons]at hn'
  unfold sdF
  rw[List.find?_cons]
  rcases List.mem_cons.1 hd with rfl|hd
  ·rw[show(f1 d==f1 d)=true from bt rfl];rfl
  ·have:f1 e≠f1 d:=fun h=>hn'.1 (h▸List.mem_map_of_mem (f:=f1) hd)
   rw[show(f1 e==f1 d)=false from bf this]
   exact ih hn'.2 hd
theorem g3u {l:LN}{p:Int}(h:p∉nd l):sdF l p=none:=by
 unfold sdF
 rw[Option.map_eq_none_iff,List.find?_eq_none]
 intro d hd hp
 exact h ((qeT hp:f1 d=p)▸List.mem_map_of_mem (f:=f1) hd)
theorem sds_nd {l:LN}(hn:(nd l).Nodup):sds l=l:=by
 unfold sds
 have: ∀(l acc:LN),(nd (List.append acc l)).Nodup→l.foldl j0c acc=List.append acc l:=by
  intro l
  induction l with
  |nil=>intro acc _;exact(List.append_nil acc).symm
  |cons d l ih=>
   intro acc h
   rw[List.foldl_cons]
   have e:List.append acc (d::l)=List.append (List.append acc [d]) l:=by
    show acc++(d::l)=(acc++[d])++l
    rw[List.append_assoc];rfl
   have h1:j0c acc d=List.append acc [d]:=by
    unfold j0c
    have:f1 d∉nd acc:=fun hm=>by
     have h2:(nd acc++nd (d::l)).Nodup:=by
      have:nd (List.append acc (d::l))=nd acc++nd (d::l):=List.map_append
      rw[←this];exact h
     rw[List.nodup_append]at h2
     exact h2.2.2 _ hm _ (List.mem_cons_self) rfl
    rw[g3u this];rfl
   rw[h1,e]
   exact ih _ (e▸h)
 exact(this l [] hn).trans (List.nil_append l)
abbrev B64:=BitVec 64
def pw2 (k:Nat):B64:=1#64<<<k
theorem pw2_bit (k i:Nat):(pw2 k).getLsbD i=(decide (i<64)&&decide (i=k)):=by
 unfold pw2
 rw[BitVec.getLsbD_shiftLeft]
 by_cases h:i=k
 ·subst h;simp
 ·by_cases h2:i<k
  ·simp[h,h2]
  ·have:i-k≠0:=by omega
   simp[h,h2,this]
theorem iandB (X:B64)(k:Nat):(iand IntKind.u64 (ishr IntKind.u64 (N X) (k:Int)) (1:Int)==(1:Int))=X.getLsbD k:=by
 rw[x1k,show(1:Int)=N (1#64)from rfl,u1v,N_beq,Bool.eq_iff_iff,beq_iff_eq]
 constructor
 ·intro h
  have:=congrArg (fun y=>y.getLsbD 0) h
  simp at this
  simpa [BitVec.getLsbD_eq_getElem]using this
 ·intro h
  apply BitVec.eq_of_getLsbD_eq
  intro i hi
  rw[BitVec.getLsbD_and,BitVec.getLsbD_ushiftRight]
  by_cases h0:i=0
  ·subst h0;simp[h]
  ·simp[h0]
theorem ishlB (k:Nat):ishl IntKind.u64 (1:Int) (k:Int)=N (pw2 k):=by
 rw[show(1:Int)=N (1#64)from rfl,u2u];rfl
abbrev LB64:=List B64
def NL (T:LB64):List Int:=T.map N
theorem u1l (T:LB64):(NL T).length=T.length:=List.length_map ..
theorem NL_at (T:LB64)(x:Nat):(NL T).getD x 0=N (T.getD x 0#64):=by
 unfold NL
 rw[List.getD_eq_getElem?_getD,List.getD_eq_getElem?_getD,List.getElem?_map]
 cases T[x]? <;>rfl
theorem NL_set (T:LB64)(x:Nat)(v:B64):(NL T).set x (N v)=NL (T.set x v):=by
 unfold NL;rw[List.map_set]
def bitT (T:LB64)(x y:Nat):Bool:=(T.getD x 0#64).getLsbD y
def orB (T:LB64)(x k:Nat):LB64:=T.set x (T.getD x 0#64|||pw2 k)
theorem t1k (T:LB64)(x k:Nat):(orB T x k).length=T.length:=List.length_set ..
theorem bt_or (T:LB64){x k:Nat}(hx:x<T.length)(x':Nat){y:Nat}(hy:y<64):bitT (orB T x k) x' y=(bitT T x' y||(decide (x'=x)&&decide (y=k))):=by
 unfold bitT orB
 rw[List.getD_eq_getElem?_getD,List.getElem?_set]
 by_cases h:x=x'
 ·subst h
  rw[if_pos rfl,if_pos hx,Option.getD_some,BitVec.getLsbD_or,pw2_bit,dt hy,dt rfl]
 ·rw[if_neg h,df (fun e=>h e.symm),Bool.false_and,Bool.or_false,←List.getD_eq_getElem?_getD]
def orII (T:LB64)(i k:Nat):LB64:=orB (orB T i k) k i
def rowK (cl:Nat→Nat→Bool)(i:Nat):Nat→LB64→LB64
 |0,T=>T
 |k+1,T=>bif cl i k then orII (rowK cl i k T) i k else rowK cl i k T
def tabI (cl:Nat→Nat→Bool)(m:Nat):Nat→LB64
 |0=>List.replicate m 0#64
 |i+1=>rowK cl i i (tabI cl m i)
theorem q2m (T:LB64)(i k:Nat):(orII T i k).length=T.length:=by unfold orII;rw[t1k,t1k]
theorem r0r (cl:Nat→Nat→Bool)(i:Nat)(T:LB64): ∀k,(rowK cl i k T).length=T.length
 |0=>rfl
 |k+1=>by
  unfold rowK
  cases cl i k with
  |true=>rw[cond_true,q2m];exact r0r cl i T k
  |false=>exact r0r cl i T k
theorem o0n (cl:Nat→Nat→Bool)(m:Nat): ∀i,(tabI cl m i).length=m
 |0=>List.length_replicate ..
 |i+1=>by unfold tabI;rw[r0r];exact o0n cl m i
theorem bt_row (cl:Nat→Nat→Bool)(i:Nat)(T:LB64)(hi:i<T.length)(x:Nat){y:Nat}(hy:y<64): ∀k,k≤i→bitT (rowK cl i k T) x y=(bitT T x y||((decide (x=i)&&(decide (y<k)&&cl i y))||(decide (y=i)&&(decide (x<k)&&cl i x))))
 |0,_=>by
  show bitT T x y=_
  rw[df (show¬y<0 by omega),df (show¬x<0 by omega)];simp
 |k+1,hk=>by
  have ih:=bt_row cl i T hi x hy k (by omega)
  have hl:=r0r cl i T k
  unfold rowK
  have e:bitT (bif cl i k then orII (rowK cl i k T) i k else rowK cl i k T) x y=(bitT (rowK cl i k T) x y||(cl i k&&((decide (x=i)&&decide (y=k))||(decide (x=k)&&decide (y=i))))):=by
   cases hc:cl i k with
   |false=>simp
   |true=>
    rw[cond_true]
    unfold orII
    rw[bt_or _ (by rw[t1k,hl];omega) x hy,bt_or _ (by rw[hl];exact hi) x hy]
    simp[Bool.or_assoc]
  rw[e,ih]
  by_cases h1:x=i
  ·by_cases h2:y=k
   ·subst h1 h2
    rw[dt rfl,dt rfl,df (show¬y<y by omega),dt (show y<y+1 by omega),df (show¬y=x by omega),df (show¬x=y by omega)]
    simp
   ·by_cases h3:x=k
    ·omega
    ·subst h1
     rw[dt rfl,df h2,df h3,show decide (y<k+1)=decide (y<k)from decide_eq_decide.2 (by omega),df (show¬x<k by omega),df (show¬x<k+1 by omega)]
     simp
  ·by_cases h3:x=k
   ·by_cases h4:y=i
    ·subst h3 h4
     rw[df h1,dt rfl,dt rfl,df (show¬x<x by omega),dt (show x<x+1 by omega)]
     simp
    ·subst h3
     rw[df h1,df h4];simp
   ·rw[df h1,df h3,show decide (x<k+1)=decide (x<k)from decide_eq_decide.2 (by omega)];simp
theorem bt_tab (cl:Nat→Nat→Bool)(m:Nat)(x:Nat){y:Nat}(hy:y<64): ∀i,i≤m→bitT (tabI cl m i) x y=(decide (x<i)&&decide (y<i)&&((decide (y<x)&&cl x y)||(decide (x<y)&&cl y x)))
 |0,_=>by
  rw[df (show¬x<0 by omega)]
  show bitT (List.replicate m 0#64) x y=_
  unfold bitT
  have:(List.replicate m 0#64).getD x 0#64=0#64:=by
   rw[List.getD_eq_getElem?_getD,List.getElem?_replicate];split<;>rfl
  rw[this];simp
 |i+1,hi=>by
  have ih:=bt_tab cl m x hy i (by omega)
  unfold tabI
  rw[bt_row cl i _ (by rw[o0n];omega) x hy i (Nat.le_refl _),ih]
  by_cases h1:x=i
  ·subst h1
   rw[df (show¬x<x by omega),dt (show x<x+1 by omega),dt rfl]
   by_cases h2:y<x
   ·rw[dt h2,df (show¬y=x by omega),dt (show y<x+1 by omega),df (show¬x<y by omega)];simp
   ·by_cases h3:y=x
    ·subst h3;rw[df h2,dt rfl];simp
    ·rw[df h2,df h3,df (show¬y<x+1 by omega)];simp
  ·by_cases h2:y=i
   ·subst h2
    rw[df h1,dt rfl,df (show¬y<y by omega),dt (show y<y+1 by omega),show decide (x<y+1)=decide (x<y)from decide_eq_decide.2 (by omega)]
    by_cases h3:x<y
    ·rw[dt h3,df (show¬y<x by omega)];simp
    ·rw[df h3];simp
   ·rw[df h1,df h2,show decide (x<i+1)=decide (x<i)from decide_eq_decide.2 (by omega),show decide (y<i+1)=decide (y<i)from decide_eq_decide.2 (by omega)];simp
theorem z0x {l:LN}{p:Int}{z:Bool}(h:sdF l p=some z): ∃d∈l,f1 d=p∧g2 d=z:=by
 unfold sdF at h
 rw[Option.map_eq_some_iff]at h
 obtain⟨d,h1,h2⟩:=h
 have hh:(f1 d==p)=true:=List.find?_some (p:=fun d=>f1 d==p) h1
 exact⟨d,List.mem_of_find?_eq_some h1,qeT hh,h2⟩
theorem c1n (l:LN):(nd (sds l)).Nodup:=by
 unfold sds
 have: ∀(l acc:LN),(nd acc).Nodup→(nd (l.foldl j0c acc)).Nodup:=by
  intro l
  induction l with
  |nil=>intro acc h;exact h
  |cons d l ih=>
   intro acc h
   rw[List.foldl_cons]
   refine ih _ ?_
   unfold j0c
   cases hc:sdF acc (f1 d)with
   |some _=>exact h
   |none=>
    have hm:f1 d∉nd acc:=fun hm=>by
     obtain⟨e,he,h2⟩:=List.mem_map.1 hm
     have:=n2x h he
     rw[h2,hc]at this;cases this
    have e:nd (apN acc d)=nd acc++[f1 d]:=by
     show List.map f1 (acc++[d])=_
     rw[List.map_append];rfl
    show(nd (apN acc d)).Nodup
    rw[e,List.nodup_append]
    refine⟨h,List.nodup_cons.2 ⟨by simp,List.nodup_nil⟩,fun x hx y hy e=> ?_⟩
    rw[List.mem_singleton.1 hy]at e
    exact hm (e▸hx)
 exact this l [] List.nodup_nil
theorem t2g (a b:LI):shF a b=shF b a:=by
 unfold shF
 rw[Bool.eq_iff_iff,List.any_eq_true,List.any_eq_true]
 constructor
 ·rintro⟨x,h1,h2⟩;exact⟨x,of_decide_eq_true h2,dt h1⟩
 ·rintro⟨x,h1,h2⟩;exact⟨x,of_decide_eq_true h2,dt h1⟩
theorem unF_le {a b:LN}(ha:(nd a).Nodup)(h:unF a b=true):unF b a=true:=by
 unfold unF at*
 rw[List.any_eq_true]at*
 obtain⟨d,h1,h2⟩:=h
 unfold unAt at h2
 cases hs:sdF b (f1 d)with
 |none=>rw[hs]at h2;cases h2
 |some z=>
  rw[hs]at h2
  have h2:(z !=g2 d)=true:=h2
  obtain⟨e,e1,e2,e3⟩:=z0x hs
  refine⟨e,e1,?_⟩
  unfold unAt
  rw[e2,n2x ha h1]
  show(g2 d !=g2 e)=true
  rw[e3]
  revert h2
  cases z<;>cases g2 d<;>simp
theorem t2t {a b:LN}(ha:(nd a).Nodup)(hb:(nd b).Nodup):unF a b=unF b a:=by
 rw[Bool.eq_iff_iff];exact⟨unF_le ha,unF_le hb⟩
theorem a2a (b:LP)(x y:Rt):cfE b x y=cfE b y x:=by
 unfold cfE
 rw[t2g,t2t (c1n _) (c1n _),decide_eq_decide.2 (show eN x=eN y↔eN y=eN x from⟨Eq.symm,Eq.symm⟩),Bool.or_comm (wayF b (sds (ndsE x)) (trk y) (sds (ndsE y)))]
theorem r2d (b:LP)(r:LR)(i j:Int):clF b r i j=clF b r j i:=by
 unfold clF
 rw[a2a,decide_eq_decide.2 (show i=j↔j=i from⟨Eq.symm,Eq.symm⟩)]
theorem r2k (b:LP)(r:LR)(i:Int):clF b r i i=false:=by unfold clF;rw[dt rfl];rfl
def clN (b:LP)(r:LR)(i k:Nat):Bool:=clF b r (i:Int) (k:Int)
def tabB (b:LP)(r:LR):LB64:=tabI (clN b r) r.length r.length
theorem tab_bit (b:LP)(r:LR){x y:Nat}(hx:x<r.length)(hr:r.length≤64)(hy:y<64):bitT (tabB b r) x y=(decide (y<r.length)&&clN b r x y):=by
 unfold tabB
 rw[bt_tab _ _ x hy _ (Nat.le_refl _),dt hx,Bool.true_and]
 by_cases h:y<x
 ·rw[dt h,df (show¬x<y by omega)];simp
 ·by_cases h2:x<y
  ·rw[df h,dt h2]
   have:clN b r y x=clN b r x y:=r2d b r _ _
   rw[this];simp
  ·obtain rfl:x=y:=by omega
   have:clN b r x x=false:=r2k b r _
   rw[df h,this];simp
theorem NL_orB (T:LB64)(x k:Nat):(NL T).set x (ior IntKind.u64 ((NL T).getD x 0) (ishl IntKind.u64 (1:Int) (k:Int)))=NL (orB T x k):=by
 rw[NL_at,ishlB,h3r,NL_set];rfl
theorem lp17_9 (a:LS)(b c:LP)(r:LR)(i:Nat)(T:LB64)(hm:mayL a b c r=true)(hi:i<r.length)(hT:T.length=r.length):
  u0d [.k 0,.n (i:Int),.n (r.length:Int),.n (i:Int),.n (i:Int),.n (0:Int),.l TS a,.l TPt b,.l TPt c,.l TRt r,.l TU (NL T)]=some (0,[.n (i:Int),.n (r.length:Int),.n (i:Int),.l TS a,.l TPt b,.l TPt c,.l TRt r,.l TU (NL (rowK (clN b r) i i T))]):=by
 have lr:=(l0q hm).2.1
 rw[x0o]
 have ln: ∀k,(NL (rowK (clN b r) i k T)).length=r.length:=fun k=>by rw[u1l,r0r,hT]
 refine b0a (st:=g0u) (fun k=>[.k 0,.n (i:Int),.n (r.length:Int),.n (i:Int),.n (i:Int),.n (k:Int),.l TS a,.l TPt b,.l TPt c,.l TRt r,.l TU (NL (rowK (clN b r) i k T))]) i (0,[.n (i:Int),.n (r.length:Int),.n (i:Int),.l TS a,.l TPt b,.l TPt c,.l TRt r,.l TU (NL (rowK (clN b r) i i T))]) (fun k hk=> ?_) ?_ FU (by unfold FU;omega)
 ·have h0:=ln k
  refine p0m _ _ _ _ _ _ _ _ _ _ (by omega) (by omega) (show(i:Int)≤((NL (rowK (clN b r) i k T)).length:Int) by omega) rfl _ ?_
  unfold q0g
  refine a0a (dt (show(k:Int)<(i:Int) by omega)) ?_
  have e:=oCl a b c r (i:Int) (k:Int) hm ⟨by omega,by omega⟩ ⟨by omega,by omega⟩
  dsimp only
  erw[e]
  refine a0a rfl ?_
  show _=some (Step.go [.k 0,.n (i:Int),.n (r.length:Int),.n (i:Int),.n (i:Int),.n ((k+1:Nat):Int),.l TS a,.l TPt b,.l TPt c,.l TRt r,.l TU (NL (bif clN b r i k then orII (rowK (clN b r) i k T) i k else rowK (clN b r) i k T))])
  cases hc:clN b r i k with
  |true=>
   refine a0a hc (a0a (s2t (by omega) (show(i:Int)<((NL (rowK (clN b r) i k T)).length:Int) by omega)) (a0a (s2t (by omega) ?_) ?_))
   ·show(k:Int)<(((NL (rowK (clN b r) i k T)).set i (ior IntKind.u64 ((NL (rowK (clN b r) i k T)).getD i 0) (ishl IntKind.u64 (1:Int) (k:Int)))).length:Int)
    rw[List.length_set];omega
   ·rw[w1n k (by omega)]
    have g1:=NL_orB (rowK (clN b r) i k T) i k
    have g2:=NL_orB (orB (rowK (clN b r) i k T) i k) k i
    rw[←g1]at g2
    exact congrArg (fun z:List Int=>some (Step.go [.k 0,.n (i:Int),.n (r.length:Int),.n (i:Int),.n (i:Int),.n ((k+1:Nat):Int),.l TS a,.l TPt b,.l TPt c,.l TRt r,.l TU z])) g2
  |false=>
   refine a0c hc ?_
   rw[w1n k (by omega)];rfl
 ·have h0:=ln i
  refine p0m _ _ _ _ _ _ _ _ _ _ (by omega) (by omega) (show(i:Int)≤((NL (rowK (clN b r) i i T)).length:Int) by omega) rfl _ ?_
  unfold q0g
  exact a0c (df (show¬(i:Int)<(i:Int) by omega)) rfl
theorem lp17_6 (a:LS)(b c:LP)(r:LR)(hm:mayL a b c r=true):r0c [.k 0,.n (r.length:Int),.n (0:Int),.l TS a,.l TPt b,.l TPt c,.l TRt r,.l TU (NL (List.replicate r.length 0#64))]=some (0,[.l TU (NL (tabB b r))]):=by
 have lr:=(l0q hm).2.1
 rw[x0q]
 refine b0a (st:=g0k) (fun i=>[.k 0,.n (r.length:Int),.n (i:Int),.l TS a,.l TPt b,.l TPt c,.l TRt r,.l TU (NL (tabI (clN b r) r.length i))]) r.length (0,[.l TU (NL (tabB b r))]) (fun i hi=> ?_) ?_ FU (by unfold FU;omega)
 ·have h0:(NL (tabI (clN b r) r.length i)).length=r.length:=by rw[u1l,o0n]
  refine p0l _ _ _ _ _ _ _ (by omega) rfl (show(r.length:Int)=((NL (tabI (clN b r) r.length i)).length:Int) by omega) _ ?_
  unfold q0k
  refine a0a (dt (show(i:Int)<(r.length:Int) by omega)) ?_
  have e:=lp17_9 a b c r i (tabI (clN b r) r.length i) hm hi (o0n ..)
  dsimp only
  erw[e]
  refine a0a rfl ?_
  show some (Step.go [.k 0,.n (r.length:Int),.n (IntKind.wrap .i64 ((i:Int)+1)),.l TS a,.l TPt b,.l TPt c,.l TRt r,.l TU (NL (tabI (clN b r) r.length (i+1)))])=_
  rw[w1n i (by omega)]
 ·have h0:(NL (tabI (clN b r) r.length r.length)).length=r.length:=by rw[u1l,o0n]
  refine p0l _ _ _ _ _ _ _ (by omega) rfl (show(r.length:Int)=((NL (tabI (clN b r) r.length r.length)).length:Int) by omega) _ ?_
  unfold q0k
  exact a0c (df (show¬(r.length:Int)<(r.length:Int) by omega)) rfl
theorem o17c (a:LS)(b c:LP)(r:LR)(hs:okS a b c r):p1p [.l TS a,.l TPt b,.l TPt c,.l TRt r]=some (if(ckA a b c r).1=0 then(0,[.n (0:Int),.l TU (NL (tabB b r))])else(1,[.n (ckA a b c r).1])):=by
 rw[m1s]
 refine r1j _ _ _ _ _ ?_
 unfold y1f
 dsimp only
 erw[o18 a b c r hs]
 refine a0a rfl ?_
 by_cases hc:(ckA a b c r).1=0
 ·rw[if_pos hc]
  refine a0c (nbf hc) ?_
  obtain⟨hm,_⟩:=(e4s a b c r).1 hc
  have lr:=(l0q hm).2.1
  refine a0a ?_ ?_
  ·rw[dt (show(r.length:Int)≤(r.length:Int) by omega),dt (show(r.length:Int)*8≤281474976710656 by omega)];rfl
  ·have e:=lp17_6 a b c r hm
   have e0:NL (List.replicate r.length 0#64)=repC (α:=Ty.den TU) (Int.toNat (r.length:Int)) (0:Int):=by
    have g0:NL (List.replicate r.length 0#64)=List.replicate r.length (0:Int):=by unfold NL;rw[List.map_replicate];rfl
    exact g0.trans (l2h (α:=Int) r.length 0).symm
   rw[e0]at e
   erw[e]
   exact a0a rfl rfl
 ·rw[if_neg hc]
  exact a0a (nb hc) rfl
end Go.Proofs.YtcbhgaeiokfcdaaGreat.Vx
end
