import Derived.Test.YtcbhgaeiokfcdaaGreatVxIm
import Derived.Test.YtcbhgaeiokfcdaaGreatVxLk
import Derived.Test.YtcbhgaeiokfcdaaGreatVxLaw
import Derived.KernelRfl
namespace Go.Proofs.YtcbhgaeiokfcdaaGreat.Vx
open Go Go.RowKit
set_option linter.unusedVariables false
set_option linter.unusedSimpArgs false
set_option maxRecDepth 100000
set_option maxHeartbeats 0
@[match_pattern] abbrev TS:Ty:=.str
@[match_pattern] abbrev TI:Ty:=.int .i64
@[match_pattern] abbrev TNd:Ty:=.pair (.int .i64) .bool
@[match_pattern] abbrev TPt:Ty:=.pair .str (.int .i64)
@[match_pattern] abbrev TRt:Ty:=.pair .str (.pair (.int .i64) (.pair (.sl (.int .i64)) (.pair (.sl (.pair (.int .i64) .bool)) (.pair (.sl (.int .i64)) (.sl (.pair (.int .i64) .bool))))))
abbrev DS:=List (Ty.den TS)
abbrev DI:=List (Ty.den TI)
abbrev DP:=List (Ty.den TPt)
abbrev DR:=List (Ty.den TRt)
abbrev DD:=List (Ty.den TNd)
abbrev LDt:=List Dat
abbrev OD:=Option (Nat×List Dat)
abbrev TD:=Tree (Nat×List Dat)
abbrev OpT:=List Dat→Option (Nat×List Dat)
abbrev z0:Nat:=List.length ([]:List PB)
theorem opq (g:OpT): ∃f:OpT,∀env,f env=g env:=⟨g,fun _=>rfl⟩
theorem Imp.pq {α:Type}{T x:Tree α}{c:Bool}(a:Imp T x.th)(h:x.isNode=true:=by kernel_rfl)(e:x.cd=c:=by kernel_rfl)(k:c=true:=by(simp only[w64d,decide_eq_true_eq,decide_eq_false_iff_not,beq_iff_eq,beq_eq_false_iff_ne,bne_iff_ne,ne_eq,inR,Bool.and_eq_true,Bool.and_eq_false_iff,Bool.not_eq_true',Bool.not_eq_false',Bool.not_eq_eq_eq_not,Bool.not_true,Bool.not_false]at*;omega)):Imp T x:=.pt h e k a
theorem onlyC {f i:Nat}{c:Code}(e:p0c Tryz.prog f i=[cAt Tryz.prog f i])(h:c∈p0c Tryz.prog f i):c=cAt Tryz.prog f i:=by rw[e]at h;exact List.mem_singleton.1 h
def mgI (k:ByteArray)(l:DP):Int:=mget Ty.str TI k l
theorem Imp.nd {α:Type}{T E x:Tree α}{c:Bool}(a:c=true→Imp T x.th)(b:c=false→Imp E x.el)(h:x.isNode=true:=by kernel_rfl)(e:x.cd=c:=by kernel_rfl):Imp (.node c T E) x:=.node h e a b
theorem Imp.lf {α:Type}{x:Tree α}{y:α}(h:x.sel=some y:=by kernel_rfl):Imp (.leaf y) x:=.leaf h
theorem Imp.pa {α:Type}{T x:Tree α}(l:List Nat)(a:Imp T (x.walk l))(h:x.okPath l=true:=by kernel_rfl):Imp T x:=.path l h a
def laV (h:Nat):PV:=.agg [.imm TS h,.imm TPt (h+1),.imm TPt (h+2),.imm TRt (h+3)]
def laB (h:Nat):PB:=.cells [.imm TS h,.imm TPt (h+1),.imm TPt (h+2),.imm TRt (h+3)]
theorem hmix:Tryz.prog.follows .mixedOrders=true:=by kernel_rfl
theorem v0d:CsOk Tryz.prog h0b:=d1h _
noncomputable def v2g (env:LDt):TD:=Lk.boxC false LK h0b 111 ls0 (mkF [.int .i32 0] [] [] [(.bool 0,[])] fun _=>none) env
noncomputable def j2c:OpT:=Classical.choose (opq (fun env=>(v2g env).sel))
theorem v1v (env:LDt):j2c env=(v2g env).sel:=Classical.choose_spec (opq (fun env=>(v2g env).sel)) env
noncomputable def B60:FBox:=mkF [.int .i32 0] [] [] [(.bool 0,[])] j2c
theorem B60_ok:a0v Tryz.prog 111 (a0j B60):=a0p (op:=j2c) v0d hmix false (LsOk.none _ _ _) (fun env x h=>by rw[v1v]at h;rw[←boxC_lk];exact h)
noncomputable def l2c:LDt→TD
 |[.n n0]=>
  (.node (n0==(58:Int))
   (.leaf ((0,[.b false])))
   (.node (n0==(35:Int))
   (.leaf ((0,[.b false])))
   (.node (n0==(43:Int))
    (.leaf ((0,[.b false])))
    (.node (n0==(45:Int))
    (.leaf ((0,[.b false])))
    (.node (n0==(65533:Int))
     (.leaf ((0,[.b false])))
     (.node (decide (n0>(32:Int)))
     (.node (decide (n0<(127:Int)))
      (.leaf ((0,[.b true])))
      (.leaf ((0,[.b (decide (n0>(160:Int)))]))))
     (.leaf ((0,[.b false])))))))))
 |_=>.bad 0
theorem c2x (n0:Int):Imp (l2c [.n n0]) (v2g [.n n0]):=
(.nd (fun h0=>
(.pt (by kernel_rfl) (by kernel_rfl) h0
(.pa [1]
.lf))) (fun h0=>
(.nd (fun h1=>
(.pt (by kernel_rfl) (by kernel_rfl) h1
(.pa [1]
.lf))) (fun h1=>
(.nd (fun h2=>
(.pt (by kernel_rfl) (by kernel_rfl) h2
(.pa [1]
.lf))) (fun h2=>
(.nd (fun h3=>
(.pt (by kernel_rfl) (by kernel_rfl) h3
(.pa [1]
.lf))) (fun h3=>
(.nd (fun h4=>
(.pa [1]
.lf)) (fun h4=>
(.nd (fun h5=>
(.nd (fun h6=>
(.pa [1,1]
.lf)) (fun h6=>
(.pa [1]
.lf)))) (fun h5=>
(.pa [0,1]
.lf)))))))))))))
noncomputable def h4n:FuncId→Option a0q:=a0s 111 B60 h0b
theorem t1w:CsOk Tryz.prog h4n:=a0g v0d B60_ok
def w0e (f:OpT):MBox:=mkM 0 [] [(sh 22 [(0,.str 0),(3,.int .i64 1),(7,.itr 0)],[.iter 2 3])] [] [(.exit 0,sh 22 [(3,.int .i64 0)],[]),(.ret,sh 22 [(2,.bool 0)],[])] f
noncomputable def d0h (env:LDt):Tree Step:=Lk.stepMC false LK h4n 100 3 ls0 (w0e fun _=>none) env
noncomputable def y0l:OpT:=Classical.choose (opq (a0b d0h FU))
theorem a1z (env:LDt):y0l env=a0b d0h FU env:=Classical.choose_spec (opq (a0b d0h FU)) env
noncomputable def r2v:MBox:=w0e y0l
theorem j2g:r2v=w0e (a0b d0h FU):=congrArg w0e (funext a1z)
theorem g2x: ∀t s x,(a0h r2v t s).sel=some x→a0k Tryz.prog 0 (.loop (cAt Tryz.prog 100 3)) t s x:=by
 rw[j2g]
 exact a0o (st:=d0h) (m:=FU) t1w hmix false (LsOk.none _ _ _) (by kernel_rfl) (fun env y h=>by rw[←stepMC_lk];exact h)
noncomputable def f0t:LDt→Tree Step
 |[.s s0,.n n1,.n n2]=>
  (.node (decide (n2<(↑(ByteArray.size s0):Int)))
   (.node (decide (IntKind.wrap .i64 (n1+(1:Int))>(16:Int)))
   (.leaf (Step.stop 1 [.b false]))
   (let r1:OD:=(j2c [.n (decC s0 n2)]);
    (.node (isK 0 [HK.b] r1)
    (.node (!gb (dOf r1) 0)
     (.leaf (Step.stop 1 [.b false]))
     (.leaf (Step.go [.k 0,.s s0,.n (IntKind.wrap .i64 (n1+(1:Int))),.s s0,.n (n2+decW s0 n2)])))
    (.bad 351))))
   (.leaf (Step.stop 0 [.n n1])))
 |_=>.bad 0
theorem e0e (s0:ByteArray)(n1:Int)(n2:Int):Imp (f0t [.s s0,.n n1,.n n2]) (d0h [.k 0,.s s0,.n n1,.s s0,.n n2]):=
(.pa [1]
(.nd (fun h0=>
(.pa [1]
(.nd (fun h1=>
(.pa [1,1,1]
.lf)) (fun h1=>
(.nd (fun h2=>
(.pa [1]
(.nd (fun h3=>
(.pa [1]
.lf)) (fun h3=>
(.pa [1]
.lf))))) (fun h2=>
.none)))))) (fun h0=>
(.pa [0,1]
.lf))))
theorem v2l:LsOk Tryz.prog (z0) (lsM [(3,r2v)] (z0)) (a0r Tryz.prog 100):=LsOk.many fun j B hB hk c hc hi=>by
 simp only[b0d]at hB
 split at hB
 ·rename_i e;have:=Nat.eq_of_beq_eq_true e;subst this;cases hB
  have e1:p0c Tryz.prog 100 3=[cAt Tryz.prog 100 3]:=a0e (by kernel_rfl)
  have e2:c∈p0c Tryz.prog 100 3:=a0d hc hi
  rw[e1]at e2;cases List.mem_singleton.1 e2;exact g2x
 cases hB
noncomputable def v2v (env:LDt):TD:=Lk.boxC false LK h4n 100 (lsM [(3,r2v)] (z0)) (mkF [.str 0] [] [] [(.bool 0,[])] fun _=>none) env
noncomputable def j2u:OpT:=Classical.choose (opq (fun env=>(v2v env).sel))
theorem y1r (env:LDt):j2u env=(v2v env).sel:=Classical.choose_spec (opq (fun env=>(v2v env).sel)) env
noncomputable def B50:FBox:=mkF [.str 0] [] [] [(.bool 0,[])] j2u
theorem B50_ok:a0v Tryz.prog 100 (a0j B50):=a0p (op:=j2u) t1w hmix false (v2l) (fun env x h=>by rw[y1r]at h;rw[←boxC_lk];exact h)
noncomputable def k2c:LDt→TD
 |[.s s0]=>
  (let r1:OD:=(y0l [.k 0,.s s0,.n (0:Int),.s s0,.n (0:Int)]);
   (.node (isK 0 [HK.n] r1)
   (.leaf ((0,[.b (decide (gn (dOf r1) 0>(0:Int)))])))
   (.node (isK 1 [HK.b] r1)
    (.leaf ((0,[.b (gb (dOf r1) 0)])))
    (.bad 351))))
 |_=>.bad 0
theorem e2n (s0:ByteArray):Imp (k2c [.s s0]) (v2v [.s s0]):=
(.nd (fun h0=>
(.pa [1]
.lf)) (fun h0=>
(.nd (fun h1=>
(.pa [1]
.lf)) (fun h1=>
.none))))
noncomputable def u2t:FuncId→Option a0q:=a0s 100 B50 h4n
theorem k1h:CsOk Tryz.prog u2t:=a0g t1w B50_ok
def v1j (f:OpT):MBox:=mkM 0 [] [(sh 23 [(2,.ptr 0 0),(10,.imm TI 0),(11,.int .i64 1),(12,.int .i64 2)],[laB 3])] [] [(.exit 0,sh 23 [],[]),(.ret,sh 23 [(4,.bool 0)],[])] f
noncomputable def o0i (env:LDt):Tree Step:=Lk.stepMC false LK u2t 98 4 ls0 (v1j fun _=>none) env
noncomputable def y0t:OpT:=Classical.choose (opq (a0b o0i FU))
theorem c1j (env:LDt):y0t env=a0b o0i FU env:=Classical.choose_spec (opq (a0b o0i FU)) env
noncomputable def t2b:MBox:=v1j y0t
theorem o2y:t2b=v1j (a0b o0i FU):=congrArg v1j (funext c1j)
theorem g2r: ∀t s x,(a0h t2b t s).sel=some x→a0k Tryz.prog 0 (.loop (cAt Tryz.prog 98 4)) t s x:=by
 rw[o2y]
 exact a0o (st:=o0i) (m:=FU) k1h hmix false (LsOk.none _ _ _) (by kernel_rfl) (fun env y h=>by rw[←stepMC_lk];exact h)
noncomputable def n0w:LDt→Tree Step
 |[.l TI l0,.n n1,.n n2,.l TS l3,.l TPt l4,.l TPt l5,.l TRt l6]=>
  (.node (decide (n2<n1))
   (.node (decide ((List.getD l0 (Int.toNat n2) (0:Int):Int)≥(0:Int)))
   (.node (!decide ((List.getD l0 (Int.toNat n2) (0:Int):Int)<(↑(List.length l3):Int)))
    (.leaf (Step.stop 1 [.b false]))
    (.leaf (Step.go [.k 0,.l TI l0,.n n1,.n (IntKind.wrap .i64 (n2+(1:Int))),.l TS l3,.l TPt l4,.l TPt l5,.l TRt l6])))
   (.leaf (Step.stop 1 [.b false])))
   (.leaf (Step.stop 0 [])))
 |_=>.bad 0
theorem l0f (l0:DI)(n1:Int)(n2:Int)(l3:DS)(l4:DP)(l5:DP)(l6:DR)(g0:0≤n2)(g1:n1=(l0.length:Int)):Imp (n0w [.l TI l0,.n n1,.n n2,.l TS l3,.l TPt l4,.l TPt l5,.l TRt l6]) (o0i [.k 0,.l TI l0,.n n1,.n n2,.l TS l3,.l TPt l4,.l TPt l5,.l TRt l6]):=
(.pa [1]
(.nd (fun h0=>
(.pq (c:=(inR n2 (List.length l0)))
(.pa [1]
(.nd (fun h1=>
(.pa [1]
(.nd (fun h2=>
(.pa [1]
.lf)) (fun h2=>
(.pa [1]
.lf))))) (fun h1=>
(.pa [0,1,1,1]
.lf)))))) (fun h0=>
(.pa [1]
.lf))))
theorem t2e:LsOk Tryz.prog (z0) (lsM [(4,t2b)] (z0)) (a0r Tryz.prog 98):=LsOk.many fun j B hB hk c hc hi=>by
 simp only[b0d]at hB
 split at hB
 ·rename_i e;have:=Nat.eq_of_beq_eq_true e;subst this;cases hB
  have e1:p0c Tryz.prog 98 4=[cAt Tryz.prog 98 4]:=a0e (by kernel_rfl)
  have e2:c∈p0c Tryz.prog 98 4:=a0d hc hi
  rw[e1]at e2;cases List.mem_singleton.1 e2;exact g2r
 cases hB
def k48 (f:OpT):FBox:=mkF [laV 0,.imm TI 4] [] [] [(.bool 0,[])] f
noncomputable def q2v (env:LDt):TD:=Lk.boxC false LK u2t 98 (lsM [(4,t2b)] (z0)) (k48 fun _=>none) env
noncomputable def f2a:OpT:=Classical.choose (opq (fun env=>(q2v env).sel))
theorem w1z (env:LDt):f2a env=(q2v env).sel:=Classical.choose_spec (opq (fun env=>(q2v env).sel)) env
noncomputable def B48:FBox:=k48 f2a
theorem B48_ok:a0v Tryz.prog 98 (a0j B48):=a0p (op:=f2a) k1h hmix false (t2e) (fun env x h=>by rw[w1z]at h;rw[←boxC_lk];exact h)
noncomputable def p2y:LDt→TD
 |[.l TS l0,.l TPt l1,.l TPt l2,.l TRt l3,.l TI l4]=>
  (.node (decide ((↑(List.length l4):Int)>(16:Int)))
   (.leaf ((0,[.b false])))
   (let r1:OD:=(y0t [.k 0,.l TI l4,.n (↑(List.length l4):Int),.n (0:Int),.l TS l0,.l TPt l1,.l TPt l2,.l TRt l3]);
   (.node (isK 0 [] r1)
    (.leaf ((0,[.b true])))
    (.node (isK 1 [HK.b] r1)
    (.leaf ((0,[.b (gb (dOf r1) 0)])))
    (.bad 351)))))
 |_=>.bad 0
theorem b2c (l0:DS)(l1:DP)(l2:DP)(l3:DR)(l4:DI):Imp (p2y [.l TS l0,.l TPt l1,.l TPt l2,.l TRt l3,.l TI l4]) (q2v [.l TS l0,.l TPt l1,.l TPt l2,.l TRt l3,.l TI l4]):=
(.nd (fun h0=>
(.pa [1]
.lf)) (fun h0=>
(.nd (fun h1=>
(.pa [1]
.lf)) (fun h1=>
(.nd (fun h2=>
(.pa [1]
.lf)) (fun h2=>
.none))))))
noncomputable def v2u:FuncId→Option a0q:=a0s 98 B48 u2t
theorem i1m:CsOk Tryz.prog v2u:=a0g k1h B48_ok
def w1k (f:OpT):MBox:=mkM 0 [] [(sh 24 [(2,.ptr 0 0),(10,.imm TNd 0),(11,.int .i64 1),(12,.int .i64 2)],[laB 3])] [] [(.exit 0,sh 24 [],[]),(.ret,sh 24 [(4,.bool 0)],[])] f
noncomputable def n0x (env:LDt):Tree Step:=Lk.stepMC false LK v2u 99 4 ls0 (w1k fun _=>none) env
noncomputable def z0c:OpT:=Classical.choose (opq (a0b n0x FU))
theorem a1v (env:LDt):z0c env=a0b n0x FU env:=Classical.choose_spec (opq (a0b n0x FU)) env
noncomputable def v2y:MBox:=w1k z0c
theorem k2x:v2y=w1k (a0b n0x FU):=congrArg w1k (funext a1v)
theorem j2p: ∀t s x,(a0h v2y t s).sel=some x→a0k Tryz.prog 0 (.loop (cAt Tryz.prog 99 4)) t s x:=by
 rw[k2x]
 exact a0o (st:=n0x) (m:=FU) i1m hmix false (LsOk.none _ _ _) (by kernel_rfl) (fun env y h=>by rw[←stepMC_lk];exact h)
noncomputable def n0l:LDt→Tree Step
 |[.l TNd l0,.n n1,.n n2,.l TS l3,.l TPt l4,.l TPt l5,.l TRt l6]=>
  (.node (decide (n2<n1))
   (.node (decide ((Prod.fst (List.getD l0 (Int.toNat n2) (Ty.dflt TNd)):Int)≥(0:Int)))
   (.node (!decide ((Prod.fst (List.getD l0 (Int.toNat n2) (Ty.dflt TNd)):Int)<(↑(List.length l4):Int)))
    (.leaf (Step.stop 1 [.b false]))
    (.leaf (Step.go [.k 0,.l TNd l0,.n n1,.n (IntKind.wrap .i64 (n2+(1:Int))),.l TS l3,.l TPt l4,.l TPt l5,.l TRt l6])))
   (.leaf (Step.stop 1 [.b false])))
   (.leaf (Step.stop 0 [])))
 |_=>.bad 0
theorem k0p (l0:DD)(n1:Int)(n2:Int)(l3:DS)(l4:DP)(l5:DP)(l6:DR)(g0:0≤n2)(g1:n1=(l0.length:Int)):Imp (n0l [.l TNd l0,.n n1,.n n2,.l TS l3,.l TPt l4,.l TPt l5,.l TRt l6]) (n0x [.k 0,.l TNd l0,.n n1,.n n2,.l TS l3,.l TPt l4,.l TPt l5,.l TRt l6]):=
(.pa [1]
(.nd (fun h0=>
(.pq (c:=(inR n2 (List.length l0)))
(.pa [1]
(.nd (fun h1=>
(.pa [1]
(.nd (fun h2=>
(.pa [1]
.lf)) (fun h2=>
(.pa [1]
.lf))))) (fun h1=>
(.pa [0,1,1,1]
.lf)))))) (fun h0=>
(.pa [1]
.lf))))
theorem r2e:LsOk Tryz.prog (z0) (lsM [(4,v2y)] (z0)) (a0r Tryz.prog 99):=LsOk.many fun j B hB hk c hc hi=>by
 simp only[b0d]at hB
 split at hB
 ·rename_i e;have:=Nat.eq_of_beq_eq_true e;subst this;cases hB
  have e1:p0c Tryz.prog 99 4=[cAt Tryz.prog 99 4]:=a0e (by kernel_rfl)
  have e2:c∈p0c Tryz.prog 99 4:=a0d hc hi
  rw[e1]at e2;cases List.mem_singleton.1 e2;exact j2p
 cases hB
def k49 (f:OpT):FBox:=mkF [laV 0,.imm TNd 4] [] [] [(.bool 0,[])] f
noncomputable def s2j (env:LDt):TD:=Lk.boxC false LK v2u 99 (lsM [(4,v2y)] (z0)) (k49 fun _=>none) env
noncomputable def e2e:OpT:=Classical.choose (opq (fun env=>(s2j env).sel))
theorem u1f (env:LDt):e2e env=(s2j env).sel:=Classical.choose_spec (opq (fun env=>(s2j env).sel)) env
noncomputable def B49:FBox:=k49 e2e
theorem B49_ok:a0v Tryz.prog 99 (a0j B49):=a0p (op:=e2e) i1m hmix false (r2e) (fun env x h=>by rw[u1f]at h;rw[←boxC_lk];exact h)
noncomputable def h2i:LDt→TD
 |[.l TS l0,.l TPt l1,.l TPt l2,.l TRt l3,.l TNd l4]=>
  (.node (decide ((↑(List.length l4):Int)>(16:Int)))
   (.leaf ((0,[.b false])))
   (let r1:OD:=(z0c [.k 0,.l TNd l4,.n (↑(List.length l4):Int),.n (0:Int),.l TS l0,.l TPt l1,.l TPt l2,.l TRt l3]);
   (.node (isK 0 [] r1)
    (.leaf ((0,[.b true])))
    (.node (isK 1 [HK.b] r1)
    (.leaf ((0,[.b (gb (dOf r1) 0)])))
    (.bad 351)))))
 |_=>.bad 0
theorem c2a (l0:DS)(l1:DP)(l2:DP)(l3:DR)(l4:DD):Imp (h2i [.l TS l0,.l TPt l1,.l TPt l2,.l TRt l3,.l TNd l4]) (s2j [.l TS l0,.l TPt l1,.l TPt l2,.l TRt l3,.l TNd l4]):=
(.nd (fun h0=>
(.pa [1]
.lf)) (fun h0=>
(.nd (fun h1=>
(.pa [1]
.lf)) (fun h1=>
(.nd (fun h2=>
(.pa [1]
.lf)) (fun h2=>
.none))))))
noncomputable def cs_49:FuncId→Option a0q:=a0s 99 B49 v2u
theorem k1v:CsOk Tryz.prog cs_49:=a0g i1m B49_ok
def k31 (f:OpT):FBox:=mkF [laV 0,.agg [.str 4,.int .i64 5,.imm TI 6,.imm TNd 7,.imm TI 8,.imm TNd 9]] [] [] [(.bool 0,[])] f
noncomputable def r2n (env:LDt):TD:=Lk.boxC false LK cs_49 84 ls0 (k31 fun _=>none) env
noncomputable def i2m:OpT:=Classical.choose (opq (fun env=>(r2n env).sel))
theorem v1s (env:LDt):i2m env=(r2n env).sel:=Classical.choose_spec (opq (fun env=>(r2n env).sel)) env
noncomputable def B31:FBox:=k31 i2m
theorem B31_ok:a0v Tryz.prog 84 (a0j B31):=a0p (op:=i2m) k1v hmix false (LsOk.none _ _ _) (fun env x h=>by rw[v1s]at h;rw[←boxC_lk];exact h)
noncomputable def p2c:LDt→TD
 |[.l TS l0,.l TPt l1,.l TPt l2,.l TRt l3,.s s4,.n n5,.l TI l6,.l TNd l7,.l TI l8,.l TNd l9]=>
  (.node (decide (n5≥(0:Int)))
   (.node (decide (n5<(↑(List.length l2):Int)))
   (let r1:OD:=(f2a [.l TS l0,.l TPt l1,.l TPt l2,.l TRt l3,.l TI l6]);
    (.node (isK 0 [HK.b] r1)
    (.node (gb (dOf r1) 0)
     (let r2:OD:=(e2e [.l TS l0,.l TPt l1,.l TPt l2,.l TRt l3,.l TNd l7]);
     (.node (isK 0 [HK.b] r2)
      (.node (gb (dOf r2) 0)
      (let r3:OD:=(f2a [.l TS l0,.l TPt l1,.l TPt l2,.l TRt l3,.l TI l8]);
       (.node (isK 0 [HK.b] r3)
       (.node (gb (dOf r3) 0)
        (let r4:OD:=(e2e [.l TS l0,.l TPt l1,.l TPt l2,.l TRt l3,.l TNd l9]);
        (.node (isK 0 [HK.b] r4)
         (.leaf ((0,[.b (gb (dOf r4) 0)])))
         (.bad 351)))
        (.leaf ((0,[.b false]))))
       (.bad 351)))
      (.leaf ((0,[.b false]))))
      (.bad 351)))
     (.leaf ((0,[.b false]))))
    (.bad 351)))
   (.leaf ((0,[.b false]))))
   (.leaf ((0,[.b false]))))
 |_=>.bad 0
theorem e2d (l0:DS)(l1:DP)(l2:DP)(l3:DR)(s4:ByteArray)(n5:Int)(l6:DI)(l7:DD)(l8:DI)(l9:DD):Imp (p2c [.l TS l0,.l TPt l1,.l TPt l2,.l TRt l3,.s s4,.n n5,.l TI l6,.l TNd l7,.l TI l8,.l TNd l9]) (r2n [.l TS l0,.l TPt l1,.l TPt l2,.l TRt l3,.s s4,.n n5,.l TI l6,.l TNd l7,.l TI l8,.l TNd l9]):=
(.pa [1]
(.nd (fun h0=>
(.pa [1]
(.nd (fun h1=>
(.nd (fun h2=>
(.pa [1]
(.nd (fun h3=>
(.nd (fun h4=>
(.pa [1]
(.nd (fun h5=>
(.nd (fun h6=>
(.pa [1]
(.nd (fun h7=>
(.nd (fun h8=>
(.pa [1,1]
.lf)) (fun h8=>
.none))) (fun h7=>
(.pa [0,1]
.lf))))) (fun h6=>
.none))) (fun h5=>
(.pa [0,0,0,1]
.lf))))) (fun h4=>
.none))) (fun h3=>
(.pa [0,0,0,0,0,1]
.lf))))) (fun h2=>
.none))) (fun h1=>
(.pa [0,0,0,0,0,0,0,1]
.lf))))) (fun h0=>
(.pa [0,1,0,0,0,0,0,0,0,0,1]
.lf))))
noncomputable def r1a:FuncId→Option a0q:=a0s 84 B31 cs_49
theorem m0w:CsOk Tryz.prog r1a:=a0g k1v B31_ok
def z1p (f:OpT):MBox:=mkM 0 [] [(sh 76 [(1,.ptr 0 0),(3,.own 1),(17,.imm TPt 0),(18,.int .i64 1),(19,.int .i64 2)],[laB 3,.arr TS 7])] [] [(.exit 0,sh 76 [(1,.ptr 0 0),(3,.own 1)],[laB 0,.arr TS 4])] f
noncomputable def j0l (env:LDt):Tree Step:=Lk.stepMC false LK r1a 85 3 ls0 (z1p fun _=>none) env
noncomputable def y0v:OpT:=Classical.choose (opq (a0b j0l FU))
theorem c1s (env:LDt):y0v env=a0b j0l FU env:=Classical.choose_spec (opq (a0b j0l FU)) env
noncomputable def r2j:MBox:=z1p y0v
theorem k2u:r2j=z1p (a0b j0l FU):=congrArg z1p (funext c1s)
theorem n2n: ∀t s x,(a0h r2j t s).sel=some x→a0k Tryz.prog 0 (.loop (cAt Tryz.prog 85 3)) t s x:=by
 rw[k2u]
 exact a0o (st:=j0l) (m:=FU) m0w hmix false (LsOk.none _ _ _) (by kernel_rfl) (fun env y h=>by rw[←stepMC_lk];exact h)
noncomputable def v0j:LDt→Tree Step
 |[.l TPt l0,.n n1,.n n2,.l TS l3,.l TPt l4,.l TPt l5,.l TRt l6,.l TS l7]=>
  (.node (decide (n2<n1))
   (.node (decide ((List.length l7+1)*16≤140737488355328))
   (.leaf (Step.go [.k 0,.l TPt l0,.n n1,.n (IntKind.wrap .i64 (n2+(1:Int))),.l TS l3,.l TPt l4,.l TPt l5,.l TRt l6,.l TS (l7++[Prod.fst (List.getD l0 (Int.toNat n2) (Ty.dflt TPt))])]))
   (.bad 62))
   (.leaf (Step.stop 0 [.l TS l3,.l TPt l4,.l TPt l5,.l TRt l6,.l TS l7])))
 |_=>.bad 0
theorem r0z (l0:DP)(n1:Int)(n2:Int)(l3:DS)(l4:DP)(l5:DP)(l6:DR)(l7:DS)(g0:0≤n2)(g1:n1=(l0.length:Int)):Imp (v0j [.l TPt l0,.n n1,.n n2,.l TS l3,.l TPt l4,.l TPt l5,.l TRt l6,.l TS l7]) (j0l [.k 0,.l TPt l0,.n n1,.n n2,.l TS l3,.l TPt l4,.l TPt l5,.l TRt l6,.l TS l7]):=
(.pa [1]
(.nd (fun h0=>
(.pq (c:=(inR n2 (List.length l0)))
(.nd (fun h1=>
(.pa [1]
.lf)) (fun h1=>
.none)))) (fun h0=>
(.pa [1]
.lf))))
def x1d (f:OpT):MBox:=mkM 0 [] [(sh 76 [(1,.ptr 0 0),(3,.own 1),(30,.imm TPt 0),(31,.int .i64 1),(32,.int .i64 2)],[laB 3,.arr TS 7])] [] [(.exit 2,sh 76 [(1,.ptr 0 0),(3,.own 1)],[laB 0,.arr TS 4])] f
noncomputable def j0u (env:LDt):Tree Step:=Lk.stepMC false LK r1a 85 8 ls0 (x1d fun _=>none) env
noncomputable def y0m:OpT:=Classical.choose (opq (a0b j0u FU))
theorem d1y (env:LDt):y0m env=a0b j0u FU env:=Classical.choose_spec (opq (a0b j0u FU)) env
noncomputable def v2h:MBox:=x1d y0m
theorem g2z:v2h=x1d (a0b j0u FU):=congrArg x1d (funext d1y)
theorem h2q: ∀t s x,(a0h v2h t s).sel=some x→a0k Tryz.prog 0 (.loop (cAt Tryz.prog 85 8)) t s x:=by
 rw[g2z]
 exact a0o (st:=j0u) (m:=FU) m0w hmix false (LsOk.none _ _ _) (by kernel_rfl) (fun env y h=>by rw[←stepMC_lk];exact h)
noncomputable def u0u:LDt→Tree Step
 |[.l TPt l0,.n n1,.n n2,.l TS l3,.l TPt l4,.l TPt l5,.l TRt l6,.l TS l7]=>
  (.node (decide (n2<n1))
   (.node (decide ((List.length l7+1)*16≤140737488355328))
   (.leaf (Step.go [.k 0,.l TPt l0,.n n1,.n (IntKind.wrap .i64 (n2+(1:Int))),.l TS l3,.l TPt l4,.l TPt l5,.l TRt l6,.l TS (l7++[Prod.fst (List.getD l0 (Int.toNat n2) (Ty.dflt TPt))])]))
   (.bad 62))
   (.leaf (Step.stop 0 [.l TS l3,.l TPt l4,.l TPt l5,.l TRt l6,.l TS l7])))
 |_=>.bad 0
theorem s0q (l0:DP)(n1:Int)(n2:Int)(l3:DS)(l4:DP)(l5:DP)(l6:DR)(l7:DS)(g0:0≤n2)(g1:n1=(l0.length:Int)):Imp (u0u [.l TPt l0,.n n1,.n n2,.l TS l3,.l TPt l4,.l TPt l5,.l TRt l6,.l TS l7]) (j0u [.k 0,.l TPt l0,.n n1,.n n2,.l TS l3,.l TPt l4,.l TPt l5,.l TRt l6,.l TS l7]):=
(.pa [1]
(.nd (fun h0=>
(.pq (c:=(inR n2 (List.length l0)))
(.nd (fun h1=>
(.pa [1]
.lf)) (fun h1=>
.none)))) (fun h0=>
(.pa [1]
.lf))))
def i1f (f:OpT):MBox:=mkM 0 [] [(sh 76 [(3,.own 0),(43,.imm TRt 0),(44,.int .i64 1),(45,.int .i64 2)],[.arr TS 3])] [] [(.exit 4,sh 76 [(3,.own 0)],[.arr TS 0])] f
noncomputable def g0j (env:LDt):Tree Step:=Lk.stepMC false LK r1a 85 13 ls0 (i1f fun _=>none) env
noncomputable def r0x:OpT:=Classical.choose (opq (a0b g0j FU))
theorem w0z (env:LDt):r0x env=a0b g0j FU env:=Classical.choose_spec (opq (a0b g0j FU)) env
noncomputable def x1v:MBox:=i1f r0x
theorem g2e:x1v=i1f (a0b g0j FU):=congrArg i1f (funext w0z)
theorem d2i: ∀t s x,(a0h x1v t s).sel=some x→a0k Tryz.prog 0 (.loop (cAt Tryz.prog 85 13)) t s x:=by
 rw[g2e]
 exact a0o (st:=g0j) (m:=FU) m0w hmix false (LsOk.none _ _ _) (by kernel_rfl) (fun env y h=>by rw[←stepMC_lk];exact h)
noncomputable def q0r:LDt→Tree Step
 |[.l TRt l0,.n n1,.n n2,.l TS l3]=>
  (.node (decide (n2<n1))
   (.node (decide ((List.length l3+1)*16≤140737488355328))
   (.leaf (Step.go [.k 0,.l TRt l0,.n n1,.n (IntKind.wrap .i64 (n2+(1:Int))),.l TS (l3++[Prod.fst (List.getD l0 (Int.toNat n2) (Ty.dflt TRt))])]))
   (.bad 62))
   (.leaf (Step.stop 0 [.l TS l3])))
 |_=>.bad 0
theorem p0h (l0:DR)(n1:Int)(n2:Int)(l3:DS)(g0:0≤n2)(g1:n1=(l0.length:Int)):Imp (q0r [.l TRt l0,.n n1,.n n2,.l TS l3]) (g0j [.k 0,.l TRt l0,.n n1,.n n2,.l TS l3]):=
(.pa [1]
(.nd (fun h0=>
(.pq (c:=(inR n2 (List.length l0)))
(.nd (fun h1=>
(.pa [1]
.lf)) (fun h1=>
.none)))) (fun h0=>
(.pa [1]
.lf))))
def h1c (f:OpT):MBox:=mkM 0 [] [(sh 76 [(10,.mapv 0),(56,.own 1),(57,.int .i64 0),(58,.int .i64 1)],[.map .str (.int .i64) 2,.arr TS 3])] [] [(.exit 6,sh 76 [],[]),(.ret,sh 76 [(2,.bool 0)],[])] f
noncomputable def g0q (env:LDt):Tree Step:=Lk.stepMC false LK r1a 85 19 ls0 (h1c fun _=>none) env
noncomputable def s0n:OpT:=Classical.choose (opq (a0b g0q FU))
theorem w0l (env:LDt):s0n env=a0b g0q FU env:=Classical.choose_spec (opq (a0b g0q FU)) env
noncomputable def x1s:MBox:=h1c s0n
theorem d2u:x1s=h1c (a0b g0q FU):=congrArg h1c (funext w0l)
theorem f2g: ∀t s x,(a0h x1s t s).sel=some x→a0k Tryz.prog 0 (.loop (cAt Tryz.prog 85 19)) t s x:=by
 rw[d2u]
 exact a0o (st:=g0q) (m:=FU) m0w hmix false (LsOk.none _ _ _) (by kernel_rfl) (fun env y h=>by rw[←stepMC_lk];exact h)
noncomputable def k0l:LDt→Tree Step
 |[.n n0,.n n1,.l TPt l2,.l TS l3]=>
  (.node (decide (n1<n0))
   (let r1:OD:=(j2u [.s (List.getD l3 (Int.toNat n1) (Ty.dflt Ty.str))]);
   (.node (isK 0 [HK.b] r1)
    (.node (!gb (dOf r1) 0)
    (.leaf (Step.stop 1 [.b false]))
    (.node (decide (mgI (List.getD l3 (Int.toNat n1) (Ty.dflt Ty.str)) (mput Ty.str TI (List.getD l3 (Int.toNat n1) (Ty.dflt Ty.str)) (IntKind.wrap .i64 (mgI (List.getD l3 (Int.toNat n1) (Ty.dflt Ty.str)) l2+(1:Int))) l2)>(1:Int)))
     (.leaf (Step.stop 1 [.b false]))
     (.leaf (Step.go [.k 0,.n n0,.n (IntKind.wrap .i64 (n1+(1:Int))),.l TPt (mput Ty.str TI (List.getD l3 (Int.toNat n1) (Ty.dflt Ty.str)) (IntKind.wrap .i64 (mgI (List.getD l3 (Int.toNat n1) (Ty.dflt Ty.str)) l2+(1:Int))) l2),.l TS l3]))))
    (.bad 351)))
   (.leaf (Step.stop 0 [])))
 |_=>.bad 0
theorem h0l (n0:Int)(n1:Int)(l2:DP)(l3:DS)(g0:0≤n1)(g1:n0=(l3.length:Int)):Imp (k0l [.n n0,.n n1,.l TPt l2,.l TS l3]) (g0q [.k 0,.n n0,.n n1,.l TPt l2,.l TS l3]):=
(.pa [1]
(.nd (fun h0=>
(.pq (c:=(inR n1 (List.length l3)))
(.nd (fun h1=>
(.pa [1]
(.nd (fun h2=>
(.pa [1,1,1]
.lf)) (fun h2=>
(.nd (fun h3=>
(.pa [1]
.lf)) (fun h3=>
(.pa [1]
.lf))))))) (fun h1=>
.none)))) (fun h0=>
(.pa [1]
.lf))))
theorem s2y:LsOk Tryz.prog (z0) (lsM [(3,r2j),(8,v2h),(13,x1v),(19,x1s)] (z0)) (a0r Tryz.prog 85):=LsOk.many fun j B hB hk c hc hi=>by
 simp only[b0d]at hB
 split at hB
 ·rename_i e;have:=Nat.eq_of_beq_eq_true e;subst this;cases hB
  have e1:p0c Tryz.prog 85 3=[cAt Tryz.prog 85 3]:=a0e (by kernel_rfl)
  have e2:c∈p0c Tryz.prog 85 3:=a0d hc hi
  rw[e1]at e2;cases List.mem_singleton.1 e2;exact n2n
 split at hB
 ·rename_i e;have:=Nat.eq_of_beq_eq_true e;subst this;cases hB
  have e1:p0c Tryz.prog 85 8=[cAt Tryz.prog 85 8]:=a0e (by kernel_rfl)
  have e2:c∈p0c Tryz.prog 85 8:=a0d hc hi
  rw[e1]at e2;cases List.mem_singleton.1 e2;exact h2q
 split at hB
 ·rename_i e;have:=Nat.eq_of_beq_eq_true e;subst this;cases hB
  have e1:p0c Tryz.prog 85 13=[cAt Tryz.prog 85 13]:=a0e (by kernel_rfl)
  have e2:c∈p0c Tryz.prog 85 13:=a0d hc hi
  rw[e1]at e2;cases List.mem_singleton.1 e2;exact d2i
 split at hB
 ·rename_i e;have:=Nat.eq_of_beq_eq_true e;subst this;cases hB
  have e1:p0c Tryz.prog 85 19=[cAt Tryz.prog 85 19]:=a0e (by kernel_rfl)
  have e2:c∈p0c Tryz.prog 85 19:=a0d hc hi
  rw[e1]at e2;cases List.mem_singleton.1 e2;exact f2g
 cases hB
noncomputable def v2c (env:LDt):TD:=Lk.boxC false LK r1a 85 (lsM [(3,r2j),(8,v2h),(13,x1v),(19,x1s)] (z0)) (mkF [laV 0] [] [] [(.bool 0,[])] fun _=>none) env
noncomputable def g2y:OpT:=Classical.choose (opq (fun env=>(v2c env).sel))
theorem v1t (env:LDt):g2y env=(v2c env).sel:=Classical.choose_spec (opq (fun env=>(v2c env).sel)) env
noncomputable def B32:FBox:=mkF [laV 0] [] [] [(.bool 0,[])] g2y
theorem B32_ok:a0v Tryz.prog 85 (a0j B32):=a0p (op:=g2y) m0w hmix false (s2y) (fun env x h=>by rw[v1t]at h;rw[←boxC_lk];exact h)
noncomputable def k2m:LDt→TD
 |[.l TS l0,.l TPt l1,.l TPt l2,.l TRt l3]=>
  (.node (decide (List.length l0*16≤140737488355328))
   (let r1:OD:=(y0v [.k 0,.l TPt l1,.n (↑(List.length l1):Int),.n (0:Int),.l TS l0,.l TPt l1,.l TPt l2,.l TRt l3,.l TS l0]);
   (.node (isK 0 [HK.l Ty.str,HK.l TPt,HK.l TPt,HK.l TRt,HK.l Ty.str] r1)
    (let r2:OD:=(y0m [.k 0,.l TPt (gl TPt (dOf r1) 2),.n (↑(List.length (gl TPt (dOf r1) 2)):Int),.n (0:Int),.l TS (gl Ty.str (dOf r1) 0),.l TPt (gl TPt (dOf r1) 1),.l TPt (gl TPt (dOf r1) 2),.l TRt (gl TRt (dOf r1) 3),.l TS (gl Ty.str (dOf r1) 4)]);
    (.node (isK 0 [HK.l Ty.str,HK.l TPt,HK.l TPt,HK.l TRt,HK.l Ty.str] r2)
     (let r3:OD:=(r0x [.k 0,.l TRt (gl TRt (dOf r2) 3),.n (↑(List.length (gl TRt (dOf r2) 3)):Int),.n (0:Int),.l TS (gl Ty.str (dOf r2) 4)]);
     (.node (isK 0 [HK.l Ty.str] r3)
      (let r4:OD:=(s0n [.k 0,.n (↑(List.length (gl Ty.str (dOf r3) 0)):Int),.n (0:Int),.l TPt [],.l TS (gl Ty.str (dOf r3) 0)]);
      (.node (isK 0 [] r4)
       (.leaf ((0,[.b true])))
       (.node (isK 1 [HK.b] r4)
       (.leaf ((0,[.b (gb (dOf r4) 0)])))
       (.bad 351))))
      (.bad 351)))
     (.bad 351)))
    (.bad 351)))
   (.bad 60))
 |_=>.bad 0
theorem d2c (l0:DS)(l1:DP)(l2:DP)(l3:DR):Imp (k2m [.l TS l0,.l TPt l1,.l TPt l2,.l TRt l3]) (v2c [.l TS l0,.l TPt l1,.l TPt l2,.l TRt l3]):=
(.nd (fun h0=>
(.nd (fun h1=>
(.nd (fun h2=>
(.nd (fun h3=>
(.nd (fun h4=>
(.pa [1]
.lf)) (fun h4=>
(.nd (fun h5=>
(.pa [1]
.lf)) (fun h5=>
.none))))) (fun h3=>
.none))) (fun h2=>
.none))) (fun h1=>
.none))) (fun h0=>
.none))
noncomputable def f2y:FuncId→Option a0q:=a0s 85 B32 r1a
theorem u0k:CsOk Tryz.prog f2y:=a0g m0w B32_ok
def a2m (f:OpT):MBox:=mkM 0 [] [(sh 75 [(1,.ptr 0 0),(32,.imm TPt 0),(33,.int .i64 1),(34,.int .i64 2)],[laB 3])] [] [(.exit 0,sh 75 [(1,.ptr 0 0)],[laB 0]),(.ret,sh 75 [(2,.bool 0)],[])] f
noncomputable def n0n (env:LDt):Tree Step:=Lk.stepMC false LK f2y 69 4 ls0 (a2m fun _=>none) env
noncomputable def y0n:OpT:=Classical.choose (opq (a0b n0n FU))
theorem a1e (env:LDt):y0n env=a0b n0n FU env:=Classical.choose_spec (opq (a0b n0n FU)) env
noncomputable def q2w:MBox:=a2m y0n
theorem p2e:q2w=a2m (a0b n0n FU):=congrArg a2m (funext a1e)
theorem n2a: ∀t s x,(a0h q2w t s).sel=some x→a0k Tryz.prog 0 (.loop (cAt Tryz.prog 69 4)) t s x:=by
 rw[p2e]
 exact a0o (st:=n0n) (m:=FU) u0k hmix false (LsOk.none _ _ _) (by kernel_rfl) (fun env y h=>by rw[←stepMC_lk];exact h)
noncomputable def o0b:LDt→Tree Step
 |[.l TPt l0,.n n1,.n n2,.l TS l3,.l TPt l4,.l TPt l5,.l TRt l6]=>
  (.node (decide (n2<n1))
   (.node (decide ((Prod.snd (List.getD l0 (Int.toNat n2) (Ty.dflt TPt)):Int)≥(0:Int)))
   (.node (!decide ((Prod.snd (List.getD l0 (Int.toNat n2) (Ty.dflt TPt)):Int)<(↑(List.length l3):Int)))
    (.leaf (Step.stop 1 [.b false]))
    (.leaf (Step.go [.k 0,.l TPt l0,.n n1,.n (IntKind.wrap .i64 (n2+(1:Int))),.l TS l3,.l TPt l4,.l TPt l5,.l TRt l6])))
   (.leaf (Step.stop 1 [.b false])))
   (.leaf (Step.stop 0 [.l TS l3,.l TPt l4,.l TPt l5,.l TRt l6])))
 |_=>.bad 0
theorem k0r (l0:DP)(n1:Int)(n2:Int)(l3:DS)(l4:DP)(l5:DP)(l6:DR)(g0:0≤n2)(g1:n1=(l0.length:Int)):Imp (o0b [.l TPt l0,.n n1,.n n2,.l TS l3,.l TPt l4,.l TPt l5,.l TRt l6]) (n0n [.k 0,.l TPt l0,.n n1,.n n2,.l TS l3,.l TPt l4,.l TPt l5,.l TRt l6]):=
(.pa [1]
(.nd (fun h0=>
(.pq (c:=(inR n2 (List.length l0)))
(.pa [1]
(.nd (fun h1=>
(.pa [1]
(.nd (fun h2=>
(.pa [1]
.lf)) (fun h2=>
(.pa [1]
.lf))))) (fun h1=>
(.pa [0,1,1,1]
.lf)))))) (fun h0=>
(.pa [1]
.lf))))
def j1i (f:OpT):MBox:=mkM 0 [] [(sh 75 [(1,.ptr 0 0),(47,.imm TPt 0),(48,.int .i64 1),(49,.int .i64 2)],[laB 3])] [] [(.exit 2,sh 75 [(1,.ptr 0 0)],[laB 0]),(.ret,sh 75 [(2,.bool 0)],[])] f
noncomputable def i0d (env:LDt):Tree Step:=Lk.stepMC false LK f2y 69 10 ls0 (j1i fun _=>none) env
noncomputable def t0w:OpT:=Classical.choose (opq (a0b i0d FU))
theorem x0f (env:LDt):t0w env=a0b i0d FU env:=Classical.choose_spec (opq (a0b i0d FU)) env
noncomputable def w1w:MBox:=j1i t0w
theorem e2q:w1w=j1i (a0b i0d FU):=congrArg j1i (funext x0f)
theorem b2t: ∀t s x,(a0h w1w t s).sel=some x→a0k Tryz.prog 0 (.loop (cAt Tryz.prog 69 10)) t s x:=by
 rw[e2q]
 exact a0o (st:=i0d) (m:=FU) u0k hmix false (LsOk.none _ _ _) (by kernel_rfl) (fun env y h=>by rw[←stepMC_lk];exact h)
noncomputable def j0h:LDt→Tree Step
 |[.l TPt l0,.n n1,.n n2,.l TS l3,.l TPt l4,.l TPt l5,.l TRt l6]=>
  (.node (decide (n2<n1))
   (.node (decide ((Prod.snd (List.getD l0 (Int.toNat n2) (Ty.dflt TPt)):Int)≥(0:Int)))
   (.node (!decide ((Prod.snd (List.getD l0 (Int.toNat n2) (Ty.dflt TPt)):Int)<(↑(List.length l3):Int)))
    (.leaf (Step.stop 1 [.b false]))
    (.leaf (Step.go [.k 0,.l TPt l0,.n n1,.n (IntKind.wrap .i64 (n2+(1:Int))),.l TS l3,.l TPt l4,.l TPt l5,.l TRt l6])))
   (.leaf (Step.stop 1 [.b false])))
   (.leaf (Step.stop 0 [.l TS l3,.l TPt l4,.l TPt l5,.l TRt l6])))
 |_=>.bad 0
theorem i0a (l0:DP)(n1:Int)(n2:Int)(l3:DS)(l4:DP)(l5:DP)(l6:DR)(g0:0≤n2)(g1:n1=(l0.length:Int)):Imp (j0h [.l TPt l0,.n n1,.n n2,.l TS l3,.l TPt l4,.l TPt l5,.l TRt l6]) (i0d [.k 0,.l TPt l0,.n n1,.n n2,.l TS l3,.l TPt l4,.l TPt l5,.l TRt l6]):=
(.pa [1]
(.nd (fun h0=>
(.pq (c:=(inR n2 (List.length l0)))
(.pa [1]
(.nd (fun h1=>
(.pa [1]
(.nd (fun h2=>
(.pa [1]
.lf)) (fun h2=>
(.pa [1]
.lf))))) (fun h1=>
(.pa [0,1,1,1]
.lf)))))) (fun h0=>
(.pa [1]
.lf))))
def j1u (f:OpT):MBox:=mkM 0 [] [(sh 75 [(1,.ptr 0 0),(62,.imm TRt 0),(63,.int .i64 1),(64,.int .i64 2)],[laB 3])] [] [(.exit 4,sh 75 [(1,.ptr 0 0)],[laB 0]),(.ret,sh 75 [(2,.bool 0)],[])] f
noncomputable def i0v (env:LDt):Tree Step:=Lk.stepMC false LK f2y 69 16 ls0 (j1u fun _=>none) env
noncomputable def r0y:OpT:=Classical.choose (opq (a0b i0v FU))
theorem w0q (env:LDt):r0y env=a0b i0v FU env:=Classical.choose_spec (opq (a0b i0v FU)) env
noncomputable def u1q:MBox:=j1u r0y
theorem d2y:u1q=j1u (a0b i0v FU):=congrArg j1u (funext w0q)
theorem d2p: ∀t s x,(a0h u1q t s).sel=some x→a0k Tryz.prog 0 (.loop (cAt Tryz.prog 69 16)) t s x:=by
 rw[d2y]
 exact a0o (st:=i0v) (m:=FU) u0k hmix false (LsOk.none _ _ _) (by kernel_rfl) (fun env y h=>by rw[←stepMC_lk];exact h)
noncomputable def j0s:LDt→Tree Step
 |[.l TRt l0,.n n1,.n n2,.l TS l3,.l TPt l4,.l TPt l5,.l TRt l6]=>
  (.node (decide (n2<n1))
   (let r1:OD:=(i2m [.l TS l3,.l TPt l4,.l TPt l5,.l TRt l6,.s (Prod.fst (List.getD l0 (Int.toNat n2) (Ty.dflt TRt))),.n (Prod.fst (Prod.snd (List.getD l0 (Int.toNat n2) (Ty.dflt TRt)))),.l TI (Prod.fst (Prod.snd (Prod.snd (List.getD l0 (Int.toNat n2) (Ty.dflt TRt))))),.l TNd (Prod.fst (Prod.snd (Prod.snd (Prod.snd (List.getD l0 (Int.toNat n2) (Ty.dflt TRt)))))),.l TI (Prod.fst (Prod.snd (Prod.snd (Prod.snd (Prod.snd (List.getD l0 (Int.toNat n2) (Ty.dflt TRt))))))),.l TNd (Prod.snd (Prod.snd (Prod.snd (Prod.snd (Prod.snd (List.getD l0 (Int.toNat n2) (Ty.dflt TRt)))))))]);
   (.node (isK 0 [HK.b] r1)
    (.node (!gb (dOf r1) 0)
    (.leaf (Step.stop 1 [.b false]))
    (.leaf (Step.go [.k 0,.l TRt l0,.n n1,.n (IntKind.wrap .i64 (n2+(1:Int))),.l TS l3,.l TPt l4,.l TPt l5,.l TRt l6])))
    (.bad 351)))
   (.leaf (Step.stop 0 [.l TS l3,.l TPt l4,.l TPt l5,.l TRt l6])))
 |_=>.bad 0
theorem i0b (l0:DR)(n1:Int)(n2:Int)(l3:DS)(l4:DP)(l5:DP)(l6:DR)(g0:0≤n2)(g1:n1=(l0.length:Int)):Imp (j0s [.l TRt l0,.n n1,.n n2,.l TS l3,.l TPt l4,.l TPt l5,.l TRt l6]) (i0v [.k 0,.l TRt l0,.n n1,.n n2,.l TS l3,.l TPt l4,.l TPt l5,.l TRt l6]):=
(.pa [1]
(.nd (fun h0=>
(.pq (c:=(inR n2 (List.length l0)))
(.nd (fun h1=>
(.pa [1]
(.nd (fun h2=>
(.pa [1]
.lf)) (fun h2=>
(.pa [1]
.lf))))) (fun h1=>
.none)))) (fun h0=>
(.pa [1]
.lf))))
theorem u2j:LsOk Tryz.prog (z0) (lsM [(4,q2w),(10,w1w),(16,u1q)] (z0)) (a0r Tryz.prog 69):=LsOk.many fun j B hB hk c hc hi=>by
 simp only[b0d]at hB
 split at hB
 ·rename_i e;have:=Nat.eq_of_beq_eq_true e;subst this;cases hB
  have e1:p0c Tryz.prog 69 4=[cAt Tryz.prog 69 4]:=a0e (by kernel_rfl)
  have e2:c∈p0c Tryz.prog 69 4:=a0d hc hi
  rw[e1]at e2;cases List.mem_singleton.1 e2;exact n2a
 split at hB
 ·rename_i e;have:=Nat.eq_of_beq_eq_true e;subst this;cases hB
  have e1:p0c Tryz.prog 69 10=[cAt Tryz.prog 69 10]:=a0e (by kernel_rfl)
  have e2:c∈p0c Tryz.prog 69 10:=a0d hc hi
  rw[e1]at e2;cases List.mem_singleton.1 e2;exact b2t
 split at hB
 ·rename_i e;have:=Nat.eq_of_beq_eq_true e;subst this;cases hB
  have e1:p0c Tryz.prog 69 16=[cAt Tryz.prog 69 16]:=a0e (by kernel_rfl)
  have e2:c∈p0c Tryz.prog 69 16:=a0d hc hi
  rw[e1]at e2;cases List.mem_singleton.1 e2;exact d2p
 cases hB
noncomputable def r2p (env:LDt):TD:=Lk.boxC false LK f2y 69 (lsM [(4,q2w),(10,w1w),(16,u1q)] (z0)) (mkF [laV 0] [] [] [(.bool 0,[])] fun _=>none) env
noncomputable def g2g:OpT:=Classical.choose (opq (fun env=>(r2p env).sel))
theorem v1e (env:LDt):g2g env=(r2p env).sel:=Classical.choose_spec (opq (fun env=>(r2p env).sel)) env
noncomputable def B26:FBox:=mkF [laV 0] [] [] [(.bool 0,[])] g2g
theorem B26_ok:a0v Tryz.prog 69 (a0j B26):=a0p (op:=g2g) u0k hmix false (u2j) (fun env x h=>by rw[v1e]at h;rw[←boxC_lk];exact h)
noncomputable def h2t:LDt→TD
 |[.l TS l0,.l TPt l1,.l TPt l2,.l TRt l3]=>
  (.node (decide ((↑(List.length l0):Int)>(64:Int)))
   (.leaf ((0,[.b false])))
   (.node (decide ((↑(List.length l1):Int)>(32:Int)))
   (.leaf ((0,[.b false])))
   (.node (decide ((↑(List.length l2):Int)>(32:Int)))
    (.leaf ((0,[.b false])))
    (.node (decide ((↑(List.length l3):Int)>(64:Int)))
    (.leaf ((0,[.b false])))
    (let r1:OD:=(y0n [.k 0,.l TPt l1,.n (↑(List.length l1):Int),.n (0:Int),.l TS l0,.l TPt l1,.l TPt l2,.l TRt l3]);
     (.node (isK 0 [HK.l Ty.str,HK.l TPt,HK.l TPt,HK.l TRt] r1)
     (let r2:OD:=(t0w [.k 0,.l TPt (gl TPt (dOf r1) 2),.n (↑(List.length (gl TPt (dOf r1) 2)):Int),.n (0:Int),.l TS (gl Ty.str (dOf r1) 0),.l TPt (gl TPt (dOf r1) 1),.l TPt (gl TPt (dOf r1) 2),.l TRt (gl TRt (dOf r1) 3)]);
      (.node (isK 0 [HK.l Ty.str,HK.l TPt,HK.l TPt,HK.l TRt] r2)
      (let r3:OD:=(r0y [.k 0,.l TRt (gl TRt (dOf r2) 3),.n (↑(List.length (gl TRt (dOf r2) 3)):Int),.n (0:Int),.l TS (gl Ty.str (dOf r2) 0),.l TPt (gl TPt (dOf r2) 1),.l TPt (gl TPt (dOf r2) 2),.l TRt (gl TRt (dOf r2) 3)]);
       (.node (isK 0 [HK.l Ty.str,HK.l TPt,HK.l TPt,HK.l TRt] r3)
       (let r4:OD:=(g2y [.l TS (gl Ty.str (dOf r3) 0),.l TPt (gl TPt (dOf r3) 1),.l TPt (gl TPt (dOf r3) 2),.l TRt (gl TRt (dOf r3) 3)]);
        (.node (isK 0 [HK.b] r4)
        (.leaf ((0,[.b (gb (dOf r4) 0)])))
        (.bad 351)))
       (.node (isK 1 [HK.b] r3)
        (.leaf ((0,[.b (gb (dOf r3) 0)])))
        (.bad 351))))
      (.node (isK 1 [HK.b] r2)
       (.leaf ((0,[.b (gb (dOf r2) 0)])))
       (.bad 351))))
     (.node (isK 1 [HK.b] r1)
      (.leaf ((0,[.b (gb (dOf r1) 0)])))
      (.bad 351))))))))
 |_=>.bad 0
theorem e2b (l0:DS)(l1:DP)(l2:DP)(l3:DR):Imp (h2t [.l TS l0,.l TPt l1,.l TPt l2,.l TRt l3]) (r2p [.l TS l0,.l TPt l1,.l TPt l2,.l TRt l3]):=
(.nd (fun h0=>
(.pa [1,1,1,1,1,1,1]
.lf)) (fun h0=>
(.nd (fun h1=>
(.pa [1,1,1,1,1]
.lf)) (fun h1=>
(.nd (fun h2=>
(.pa [1,1,1]
.lf)) (fun h2=>
(.nd (fun h3=>
(.pa [1]
.lf)) (fun h3=>
(.nd (fun h4=>
(.nd (fun h5=>
(.nd (fun h6=>
(.nd (fun h7=>
(.pa [1,1]
.lf)) (fun h7=>
.none))) (fun h6=>
(.nd (fun h7=>
(.pa [1]
.lf)) (fun h7=>
.none))))) (fun h5=>
(.nd (fun h6=>
(.pa [1]
.lf)) (fun h6=>
.none))))) (fun h4=>
(.nd (fun h5=>
(.pa [1]
.lf)) (fun h5=>
.none))))))))))))
noncomputable def cs_26:FuncId→Option a0q:=a0s 69 B26 f2y
theorem n0g:CsOk Tryz.prog cs_26:=a0g u0k B26_ok
end Go.Proofs.YtcbhgaeiokfcdaaGreat.Vx
