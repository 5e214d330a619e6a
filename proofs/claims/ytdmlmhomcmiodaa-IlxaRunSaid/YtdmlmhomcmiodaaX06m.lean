import Derived.Test.YtdmlmhomcmiodaaVxIm
import Derived.Test.YtdmlmhomcmiodaaVxLk
import Derived.Test.YtdmlmhomcmiodaaVxLaw
import Derived.KernelRfl
namespace Go.Proofs.Ytdmlmhomcmiodaa.Vx
open Go Go.RowKit
set_option linter.unusedVariables false
set_option linter.unusedSimpArgs false
set_option maxRecDepth 100000
set_option maxHeartbeats 0
@[match_pattern] abbrev TS:Ty:=.str
@[match_pattern] abbrev TI:Ty:=.int .i64
@[match_pattern] abbrev TNd:Ty:=.pair (.int .i64) .bool
@[match_pattern] abbrev TPt:Ty:=.pair .str (.int .i64)
@[match_pattern] abbrev TRt:Ty:=.pair .str (.pair (.int .i64) (.pair (.sl (.int .i64)) (.pair (.sl (.pair (.int .i64) .bool)) (.pair (.sl (.int .i64)) (.sl (.pair (.int .i64) .bool))))))
abbrev DS:=List (Ty.den TS)
abbrev DI:=List (Ty.den TI)
abbrev DP:=List (Ty.den TPt)
abbrev DR:=List (Ty.den TRt)
abbrev DD:=List (Ty.den TNd)
abbrev LDt:=List Dat
abbrev OD:=Option (Nat×List Dat)
abbrev TD:=Tree (Nat×List Dat)
abbrev OpT:=List Dat→Option (Nat×List Dat)
abbrev z0:Nat:=List.length ([]:List PB)
theorem opq (g:OpT): ∃f:OpT,∀env,f env=g env:=⟨g,fun _=>rfl⟩
theorem Imp.pq {α:Type}{T x:Tree α}{c:Bool}(a:Imp T x.th)(h:x.isNode=true:=by kernel_rfl)(e:x.cd=c:=by kernel_rfl)(k:c=true:=by(simp only[w64d,decide_eq_true_eq,decide_eq_false_iff_not,beq_iff_eq,beq_eq_false_iff_ne,bne_iff_ne,ne_eq,inR,Bool.and_eq_true,Bool.and_eq_false_iff,Bool.not_eq_true',Bool.not_eq_false',Bool.not_eq_eq_eq_not,Bool.not_true,Bool.not_false]at*;omega)):Imp T x:=.pt h e k a
theorem a0y {f i:Nat}{c:Code}(e:p0c Try.prog f i=[cAt Try.prog f i])(h:c∈p0c Try.prog f i):c=cAt Try.prog f i:=by rw[e]at h;exact List.mem_singleton.1 h
def mgI (k:ByteArray)(l:DP):Int:=mget Ty.str TI k l
theorem Imp.nd {α:Type}{T E x:Tree α}{c:Bool}(a:c=true→Imp T x.th)(b:c=false→Imp E x.el)(h:x.isNode=true:=by kernel_rfl)(e:x.cd=c:=by kernel_rfl):Imp (.node c T E) x:=.node h e a b
theorem Imp.lf {α:Type}{x:Tree α}{y:α}(h:x.sel=some y:=by kernel_rfl):Imp (.leaf y) x:=.leaf h
theorem Imp.pa {α:Type}{T x:Tree α}(l:List Nat)(a:Imp T (x.walk l))(h:x.okPath l=true:=by kernel_rfl):Imp T x:=.path l h a
def laV (h:Nat):PV:=.agg [.imm TS h,.imm TPt (h+1),.imm TPt (h+2),.imm TRt (h+3)]
def laB (h:Nat):PB:=.cells [.imm TS h,.imm TPt (h+1),.imm TPt (h+2),.imm TRt (h+3)]
theorem hmix:Try.prog.follows .mixedOrders=true:=by kernel_rfl
theorem v0d:CsOk Try.prog h0b:=d1h _
noncomputable def v2g (env:LDt):TD:=Lk.boxC false LK h0b 144 ls0 (mkF [.int .i32 0] [] [] [(.bool 0,[])] fun _=>none) env
noncomputable def j2c:OpT:=Classical.choose (opq (fun env=>(v2g env).sel))
theorem v1v (env:LDt):j2c env=(v2g env).sel:=Classical.choose_spec (opq (fun env=>(v2g env).sel)) env
noncomputable def B60:FBox:=mkF [.int .i32 0] [] [] [(.bool 0,[])] j2c
theorem B60_ok:a0v Try.prog 144 (a0j B60):=a0p (op:=j2c) v0d hmix false (LsOk.none _ _ _) (fun env x h=>by rw[v1v]at h;rw[←boxC_lk];exact h)
noncomputable def l2c:LDt→TD
 |[.n n0]=>
  (.node (n0==(58:Int))
   (.leaf ((0,[.b false])))
   (.node (n0==(35:Int))
   (.leaf ((0,[.b false])))
   (.node (n0==(43:Int))
    (.leaf ((0,[.b false])))
    (.node (n0==(45:Int))
    (.leaf ((0,[.b false])))
    (.node (n0==(65533:Int))
     (.leaf ((0,[.b false])))
     (.node (decide (n0>(32:Int)))
     (.node (decide (n0<(127:Int)))
      (.leaf ((0,[.b true])))
      (.leaf ((0,[.b (decide (n0>(160:Int)))]))))
     (.leaf ((0,[.b false])))))))))
 |_=>.bad 0
theorem c2x (n0:Int):Imp (l2c [.n n0]) (v2g [.n n0]):=
(.nd (fun h0=>
(.pt (by kernel_rfl) (by kernel_rfl) h0
(.pa [1]
.lf))) (fun h0=>
(.nd (fun h1=>
(.pt (by kernel_rfl) (by kernel_rfl) h1
(.pa [1]
.lf))) (fun h1=>
(.nd (fun h2=>
(.pt (by kernel_rfl) (by kernel_rfl) h2
(.pa [1]
.lf))) (fun h2=>
(.nd (fun h3=>
(.pt (by kernel_rfl) (by kernel_rfl) h3
(.pa [1]
.lf))) (fun h3=>
(.nd (fun h4=>
(.pa [1]
.lf)) (fun h4=>
(.nd (fun h5=>
(.nd (fun h6=>
(.pa [1,1]
.lf)) (fun h6=>
(.pa [1]
.lf)))) (fun h5=>
(.pa [0,1]
.lf)))))))))))))
noncomputable def cs_60:FuncId→Option a0q:=a0s 144 B60 h0b
theorem t1w:CsOk Try.prog cs_60:=a0g v0d B60_ok
noncomputable def s2z (env:LDt):TD:=Lk.boxC false LK cs_60 109 ls0 (mkF [.int .i32 0] [] [] [(.bool 0,[])] fun _=>none) env
noncomputable def k2y:OpT:=Classical.choose (opq (fun env=>(s2z env).sel))
theorem w1i (env:LDt):k2y env=(s2z env).sel:=Classical.choose_spec (opq (fun env=>(s2z env).sel)) env
noncomputable def B59:FBox:=mkF [.int .i32 0] [] [] [(.bool 0,[])] k2y
theorem B59_ok:a0v Try.prog 109 (a0j B59):=a0p (op:=k2y) t1w hmix false (LsOk.none _ _ _) (fun env x h=>by rw[w1i]at h;rw[←boxC_lk];exact h)
noncomputable def o2q:LDt→TD
 |[.n n0]=>
  (.node (decide (n0≥(33:Int)))
   (.node (n0 !=(58:Int))
   (.node (n0 !=(35:Int))
    (.node (n0 !=(43:Int))
    (.node (n0 !=(45:Int))
     (.node (n0 !=(65533:Int))
     (.node (decide (n0<(127:Int)))
      (.leaf ((0,[.b true])))
      (.leaf ((0,[.b (decide (n0>(160:Int)))]))))
     (.leaf ((0,[.b false]))))
     (.leaf ((0,[.b false]))))
    (.leaf ((0,[.b false]))))
    (.leaf ((0,[.b false]))))
   (.leaf ((0,[.b false]))))
   (.leaf ((0,[.b false]))))
 |_=>.bad 0
theorem f2u (n0:Int):Imp (o2q [.n n0]) (s2z [.n n0]):=
(.nd (fun h0=>
(.nd (fun h1=>
(.nd (fun h2=>
(.nd (fun h3=>
(.nd (fun h4=>
(.nd (fun h5=>
(.nd (fun h6=>
(.pa [1,1]
.lf)) (fun h6=>
(.pa [1]
.lf)))) (fun h5=>
(.pa [0,1]
.lf)))) (fun h4=>
(.pa [0,0,0,1]
.lf)))) (fun h3=>
(.pa [0,0,0,0,0,1]
.lf)))) (fun h2=>
(.pa [0,0,0,0,0,0,0,1]
.lf)))) (fun h1=>
(.pa [0,0,0,0,0,0,0,0,0,1]
.lf)))) (fun h0=>
(.pa [0,0,0,0,0,0,0,0,0,0,0,1]
.lf)))
noncomputable def u2w:FuncId→Option a0q:=a0s 109 B59 cs_60
theorem k1o:CsOk Try.prog u2w:=a0g t1w B59_ok
def m4l (f:OpT):MBox:=mkM 0 [] [(sh 22 [(0,.str 0),(3,.int .i64 1),(7,.itr 0)],[.iter 2 3])] [] [(.exit 0,sh 22 [(3,.int .i64 0)],[]),(.ret,sh 22 [(2,.bool 0)],[])] f
noncomputable def d0h (env:LDt):Tree Step:=Lk.stepMC false LK u2w 133 3 ls0 (m4l fun _=>none) env
noncomputable def y0l:OpT:=Classical.choose (opq (a0b d0h FU))
theorem a1z (env:LDt):y0l env=a0b d0h FU env:=Classical.choose_spec (opq (a0b d0h FU)) env
noncomputable def r2v:MBox:=m4l y0l
theorem j2g:r2v=m4l (a0b d0h FU):=congrArg m4l (funext a1z)
theorem g2x: ∀t s x,(a0h r2v t s).sel=some x→a0k Try.prog 0 (.loop (cAt Try.prog 133 3)) t s x:=by
 rw[j2g]
 exact a0o (st:=d0h) (m:=FU) k1o hmix false (LsOk.none _ _ _) (by kernel_rfl) (fun env y h=>by rw[←stepMC_lk];exact h)
noncomputable def f0t:LDt→Tree Step
 |[.s s0,.n n1,.n n2]=>
  (.node (decide (n2<(↑(ByteArray.size s0):Int)))
   (.node (decide (IntKind.wrap .i64 (n1+(1:Int))>(16:Int)))
   (.leaf (Step.stop 1 [.b false]))
   (let r1:OD:=(j2c [.n (decC s0 n2)]);
    (.node (isK 0 [HK.b] r1)
    (.node (!gb (dOf r1) 0)
     (.leaf (Step.stop 1 [.b false]))
     (.leaf (Step.go [.k 0,.s s0,.n (IntKind.wrap .i64 (n1+(1:Int))),.s s0,.n (n2+decW s0 n2)])))
    (.bad 351))))
   (.leaf (Step.stop 0 [.n n1])))
 |_=>.bad 0
theorem e0e (s0:ByteArray)(n1:Int)(n2:Int):Imp (f0t [.s s0,.n n1,.n n2]) (d0h [.k 0,.s s0,.n n1,.s s0,.n n2]):=
(.pa [1]
(.nd (fun h0=>
(.pa [1]
(.nd (fun h1=>
(.pa [1,1,1]
.lf)) (fun h1=>
(.nd (fun h2=>
(.pa [1]
(.nd (fun h3=>
(.pa [1]
.lf)) (fun h3=>
(.pa [1]
.lf))))) (fun h2=>
.none)))))) (fun h0=>
(.pa [0,1]
.lf))))
theorem v2l:LsOk Try.prog (z0) (lsM [(3,r2v)] (z0)) (a0r Try.prog 133):=LsOk.many fun j B hB hk c hc hi=>by
 simp only[b0d]at hB
 split at hB
 ·rename_i e;have:=Nat.eq_of_beq_eq_true e;subst this;cases hB
  rw[a0y (f:=133) (i:=3) (a0e (by kernel_rfl)) (a0d hc hi)];exact g2x
 cases hB
noncomputable def v2v (env:LDt):TD:=Lk.boxC false LK u2w 133 (lsM [(3,r2v)] (z0)) (mkF [.str 0] [] [] [(.bool 0,[])] fun _=>none) env
noncomputable def j2u:OpT:=Classical.choose (opq (fun env=>(v2v env).sel))
theorem y1r (env:LDt):j2u env=(v2v env).sel:=Classical.choose_spec (opq (fun env=>(v2v env).sel)) env
noncomputable def B50:FBox:=mkF [.str 0] [] [] [(.bool 0,[])] j2u
theorem B50_ok:a0v Try.prog 133 (a0j B50):=a0p (op:=j2u) k1o hmix false (v2l) (fun env x h=>by rw[y1r]at h;rw[←boxC_lk];exact h)
noncomputable def k2c:LDt→TD
 |[.s s0]=>
  (let r1:OD:=(y0l [.k 0,.s s0,.n (0:Int),.s s0,.n (0:Int)]);
   (.node (isK 0 [HK.n] r1)
   (.leaf ((0,[.b (decide (gn (dOf r1) 0>(0:Int)))])))
   (.node (isK 1 [HK.b] r1)
    (.leaf ((0,[.b (gb (dOf r1) 0)])))
    (.bad 351))))
 |_=>.bad 0
theorem e2n (s0:ByteArray):Imp (k2c [.s s0]) (v2v [.s s0]):=
(.nd (fun h0=>
(.pa [1]
.lf)) (fun h0=>
(.nd (fun h1=>
(.pa [1]
.lf)) (fun h1=>
.none))))
noncomputable def u2t:FuncId→Option a0q:=a0s 133 B50 u2w
theorem k1h:CsOk Try.prog u2t:=a0g k1o B50_ok
noncomputable def d0s (env:LDt):Tree Step:=Lk.stepMC false LK u2t 61 3 ls0 (m4l fun _=>none) env
noncomputable def y0p:OpT:=Classical.choose (opq (a0b d0s FU))
theorem c1v (env:LDt):y0p env=a0b d0s FU env:=Classical.choose_spec (opq (a0b d0s FU)) env
noncomputable def s2u:MBox:=m4l y0p
theorem m2n:s2u=m4l (a0b d0s FU):=congrArg m4l (funext c1v)
theorem n2f: ∀t s x,(a0h s2u t s).sel=some x→a0k Try.prog 0 (.loop (cAt Try.prog 61 3)) t s x:=by
 rw[m2n]
 exact a0o (st:=d0s) (m:=FU) k1h hmix false (LsOk.none _ _ _) (by kernel_rfl) (fun env y h=>by rw[←stepMC_lk];exact h)
noncomputable def j0a:LDt→Tree Step
 |[.s s0,.n n1,.n n2]=>
  (.node (decide (n2<(↑(ByteArray.size s0):Int)))
   (let r1:OD:=(k2y [.n (decC s0 n2)]);
   (.node (isK 0 [HK.b] r1)
    (.node (!gb (dOf r1) 0)
    (.leaf (Step.stop 1 [.b false]))
    (.leaf (Step.go [.k 0,.s s0,.n (IntKind.wrap .i64 (n1+(1:Int))),.s s0,.n (n2+decW s0 n2)])))
    (.bad 351)))
   (.leaf (Step.stop 0 [.n n1])))
 |_=>.bad 0
theorem f0q (s0:ByteArray)(n1:Int)(n2:Int):Imp (j0a [.s s0,.n n1,.n n2]) (d0s [.k 0,.s s0,.n n1,.s s0,.n n2]):=
(.pa [1]
(.nd (fun h0=>
(.pa [1]
(.nd (fun h1=>
(.pa [1]
(.nd (fun h2=>
(.pa [1]
.lf)) (fun h2=>
(.pa [1]
.lf))))) (fun h1=>
.none)))) (fun h0=>
(.pa [0,1]
.lf))))
theorem r2u:LsOk Try.prog (z0) (lsM [(3,s2u)] (z0)) (a0r Try.prog 61):=LsOk.many fun j B hB hk c hc hi=>by
 simp only[b0d]at hB
 split at hB
 ·rename_i e;have:=Nat.eq_of_beq_eq_true e;subst this;cases hB
  rw[a0y (f:=61) (i:=3) (a0e (by kernel_rfl)) (a0d hc hi)];exact n2f
 cases hB
noncomputable def t2p (env:LDt):TD:=Lk.boxC false LK u2t 61 (lsM [(3,s2u)] (z0)) (mkF [.str 0] [] [] [(.bool 0,[])] fun _=>none) env
noncomputable def o2p:OpT:=Classical.choose (opq (fun env=>(t2p env).sel))
theorem u1j (env:LDt):o2p env=(t2p env).sel:=Classical.choose_spec (opq (fun env=>(t2p env).sel)) env
noncomputable def B42:FBox:=mkF [.str 0] [] [] [(.bool 0,[])] o2p
theorem B42_ok:a0v Try.prog 61 (a0j B42):=a0p (op:=o2p) k1h hmix false (r2u) (fun env x h=>by rw[u1j]at h;rw[←boxC_lk];exact h)
noncomputable def k2e:LDt→TD
 |[.s s0]=>
  (let r1:OD:=(y0p [.k 0,.s s0,.n (0:Int),.s s0,.n (0:Int)]);
   (.node (isK 0 [HK.n] r1)
   (.node (decide (gn (dOf r1) 0≥(1:Int)))
    (.leaf ((0,[.b (decide (gn (dOf r1) 0≤(16:Int)))])))
    (.leaf ((0,[.b false]))))
   (.node (isK 1 [HK.b] r1)
    (.leaf ((0,[.b (gb (dOf r1) 0)])))
    (.bad 351))))
 |_=>.bad 0
theorem d2f (s0:ByteArray):Imp (k2e [.s s0]) (t2p [.s s0]):=
(.nd (fun h0=>
(.nd (fun h1=>
(.pa [1]
.lf)) (fun h1=>
(.pa [0,1]
.lf)))) (fun h0=>
(.nd (fun h1=>
(.pa [1]
.lf)) (fun h1=>
.none))))
noncomputable def r2a:FuncId→Option a0q:=a0s 61 B42 u2t
theorem h1a:CsOk Try.prog r2a:=a0g k1h B42_ok
def s4a (f:OpT):MBox:=mkM 0 [] [(sh 32 [(0,.imm TI 0),(1,.int .i64 1),(5,.int .i64 2)],[])] [] [(.exit 0,sh 32 [(0,.imm TI 0)],[]),(.ret,sh 32 [(4,.bool 0)],[])] f
noncomputable def o0a (env:LDt):Tree Step:=Lk.stepMC false LK r2a 63 2 ls0 (s4a fun _=>none) env
noncomputable def y0d:OpT:=Classical.choose (opq (a0b o0a FU))
theorem d1g (env:LDt):y0d env=a0b o0a FU env:=Classical.choose_spec (opq (a0b o0a FU)) env
noncomputable def u2o:MBox:=s4a y0d
theorem i2n:u2o=s4a (a0b o0a FU):=congrArg s4a (funext d1g)
theorem m2x: ∀t s x,(a0h u2o t s).sel=some x→a0k Try.prog 0 (.loop (cAt Try.prog 63 2)) t s x:=by
 rw[i2n]
 exact a0o (st:=o0a) (m:=FU) h1a hmix false (LsOk.none _ _ _) (by kernel_rfl) (fun env y h=>by rw[←stepMC_lk];exact h)
noncomputable def o0m:LDt→Tree Step
 |[.l TI l0,.n n1,.n n2]=>
  (.node (decide (n2<(↑(List.length l0):Int)))
   (.node (decide (n2<(17:Int)))
   (.node (decide ((List.getD l0 (Int.toNat n2) (0:Int):Int)<(0:Int)))
    (.leaf (Step.stop 1 [.b false]))
    (.node (decide ((List.getD l0 (Int.toNat n2) (0:Int):Int)≥n1))
    (.leaf (Step.stop 1 [.b false]))
    (.leaf (Step.go [.k 0,.l TI l0,.n n1,.n (IntKind.wrap .i64 (n2+(1:Int)))]))))
   (.leaf (Step.stop 0 [.l TI l0])))
   (.leaf (Step.stop 0 [.l TI l0])))
 |_=>.bad 0
theorem j0m (l0:DI)(n1:Int)(n2:Int)(g0:0≤n2):Imp (o0m [.l TI l0,.n n1,.n n2]) (o0a [.k 0,.l TI l0,.n n1,.n n2]):=
(.pa [1]
(.nd (fun h0=>
(.nd (fun h1=>
(.pq (c:=(inR n2 (List.length l0)))
(.nd (fun h2=>
(.pa [1,1,1]
.lf)) (fun h2=>
(.pq (c:=(inR n2 (List.length l0)))
(.nd (fun h3=>
(.pa [1]
.lf)) (fun h3=>
(.pa [1]
.lf)))))))) (fun h1=>
(.pa [1]
.lf)))) (fun h0=>
(.pa [0,0,1]
.lf))))
theorem v2r:LsOk Try.prog (z0) (lsM [(2,u2o)] (z0)) (a0r Try.prog 63):=LsOk.many fun j B hB hk c hc hi=>by
 simp only[b0d]at hB
 split at hB
 ·rename_i e;have:=Nat.eq_of_beq_eq_true e;subst this;cases hB
  rw[a0y (f:=63) (i:=2) (a0e (by kernel_rfl)) (a0d hc hi)];exact m2x
 cases hB
def kq44 (f:OpT):FBox:=mkF [.imm TI 0,.int .i64 1] [] [] [(.bool 0,[])] f
noncomputable def t2l (env:LDt):TD:=Lk.boxC false LK r2a 63 (lsM [(2,u2o)] (z0)) (kq44 fun _=>none) env
noncomputable def a1t:OpT:=Classical.choose (opq (fun env=>(t2l env).sel))
theorem t1r (env:LDt):a1t env=(t2l env).sel:=Classical.choose_spec (opq (fun env=>(t2l env).sel)) env
noncomputable def B44:FBox:=kq44 a1t
theorem B44_ok:a0v Try.prog 63 (a0j B44):=a0p (op:=a1t) h1a hmix false (v2r) (fun env x h=>by rw[t1r]at h;rw[←boxC_lk];exact h)
noncomputable def p2f:LDt→TD
 |[.l TI l0,.n n1]=>
  (let r1:OD:=(y0d [.k 0,.l TI l0,.n n1,.n (0:Int)]);
   (.node (isK 0 [HK.l TI] r1)
   (.leaf ((0,[.b (decide ((↑(List.length (gl TI (dOf r1) 0)):Int)≤(16:Int)))])))
   (.node (isK 1 [HK.b] r1)
    (.leaf ((0,[.b (gb (dOf r1) 0)])))
    (.bad 351))))
 |_=>.bad 0
theorem c2d (l0:DI)(n1:Int):Imp (p2f [.l TI l0,.n n1]) (t2l [.l TI l0,.n n1]):=
(.nd (fun h0=>
(.pa [1]
.lf)) (fun h0=>
(.nd (fun h1=>
(.pa [1]
.lf)) (fun h1=>
.none))))
noncomputable def t2r:FuncId→Option a0q:=a0s 63 B44 r2a
theorem h1b:CsOk Try.prog t2r:=a0g h1a B44_ok
def s4o (f:OpT):MBox:=mkM 0 [] [(sh 19 [(0,.imm TS 0),(1,.str 1),(5,.int .i64 2)],[])] [] [(.exit 0,sh 19 [],[]),(.ret,sh 19 [(4,.int .i64 0)],[])] f
noncomputable def n0a (env:LDt):Tree Step:=Lk.stepMC false LK t2r 62 2 ls0 (s4o fun _=>none) env
noncomputable def q0w:OpT:=Classical.choose (opq (a0b n0a FU))
theorem q0e (env:LDt):q0w env=a0b n0a FU env:=Classical.choose_spec (opq (a0b n0a FU)) env
noncomputable def r2r:MBox:=s4o q0w
theorem k2k:r2r=s4o (a0b n0a FU):=congrArg s4o (funext q0e)
theorem o2c: ∀t s x,(a0h r2r t s).sel=some x→a0k Try.prog 0 (.loop (cAt Try.prog 62 2)) t s x:=by
 rw[k2k]
 exact a0o (st:=n0a) (m:=FU) h1b hmix false (LsOk.none _ _ _) (by kernel_rfl) (fun env y h=>by rw[←stepMC_lk];exact h)
noncomputable def i0s:LDt→Tree Step
 |[.l TS l0,.s s1,.n n2]=>
  (.node (decide (n2<(↑(List.length l0):Int)))
   (.node (f0b (List.getD l0 (Int.toNat n2) (Ty.dflt Ty.str)) s1)
   (.leaf (Step.stop 1 [.n n2]))
   (.leaf (Step.go [.k 0,.l TS l0,.s s1,.n (IntKind.wrap .i64 (n2+(1:Int)))])))
   (.leaf (Step.stop 0 [])))
 |_=>.bad 0
theorem f0m (l0:DS)(s1:ByteArray)(n2:Int)(g0:0≤n2):Imp (i0s [.l TS l0,.s s1,.n n2]) (n0a [.k 0,.l TS l0,.s s1,.n n2]):=
(.pa [1]
(.nd (fun h0=>
(.pq (c:=(inR n2 (List.length l0)))
(.nd (fun h1=>
(.pa [1]
.lf)) (fun h1=>
(.pa [1]
.lf))))) (fun h0=>
(.pa [1]
.lf))))
theorem v2x:LsOk Try.prog (z0) (lsM [(2,r2r)] (z0)) (a0r Try.prog 62):=LsOk.many fun j B hB hk c hc hi=>by
 simp only[b0d]at hB
 split at hB
 ·rename_i e;have:=Nat.eq_of_beq_eq_true e;subst this;cases hB
  rw[a0y (f:=62) (i:=2) (a0e (by kernel_rfl)) (a0d hc hi)];exact o2c
 cases hB
def kq43 (f:OpT):FBox:=mkF [.imm TS 0,.str 1] [] [] [(.int .i64 0,[])] f
noncomputable def t2x (env:LDt):TD:=Lk.boxC false LK t2r 62 (lsM [(2,r2r)] (z0)) (kq43 fun _=>none) env
noncomputable def c2l:OpT:=Classical.choose (opq (fun env=>(t2x env).sel))
theorem h1q (env:LDt):c2l env=(t2x env).sel:=Classical.choose_spec (opq (fun env=>(t2x env).sel)) env
noncomputable def B43:FBox:=kq43 c2l
theorem B43_ok:a0v Try.prog 62 (a0j B43):=a0p (op:=c2l) h1b hmix false (v2x) (fun env x h=>by rw[h1q]at h;rw[←boxC_lk];exact h)
noncomputable def q1q:LDt→TD
 |[.l TS l0,.s s1]=>
  (let r1:OD:=(q0w [.k 0,.l TS l0,.s s1,.n (0:Int)]);
   (.node (isK 0 [] r1)
   (.leaf ((0,[.n (-1:Int)])))
   (.node (isK 1 [HK.n] r1)
    (.leaf ((0,[.n (gn (dOf r1) 0)])))
    (.bad 351))))
 |_=>.bad 0
theorem f1j (l0:DS)(s1:ByteArray):Imp (q1q [.l TS l0,.s s1]) (t2x [.l TS l0,.s s1]):=
(.nd (fun h0=>
(.pa [1]
.lf)) (fun h0=>
(.nd (fun h1=>
(.pa [1]
.lf)) (fun h1=>
.none))))
noncomputable def s2x:FuncId→Option a0q:=a0s 62 B43 t2r
theorem i1z:CsOk Try.prog s2x:=a0g h1b B43_ok
def s4i (f:OpT):MBox:=mkM 0 [] [(sh 23 [(2,.ptr 0 0),(10,.imm TI 0),(11,.int .i64 1),(12,.int .i64 2)],[laB 3])] [] [(.exit 0,sh 23 [],[]),(.ret,sh 23 [(4,.bool 0)],[])] f
noncomputable def o0i (env:LDt):Tree Step:=Lk.stepMC false LK s2x 131 4 ls0 (s4i fun _=>none) env
noncomputable def y0t:OpT:=Classical.choose (opq (a0b o0i FU))
theorem c1j (env:LDt):y0t env=a0b o0i FU env:=Classical.choose_spec (opq (a0b o0i FU)) env
noncomputable def t2b:MBox:=s4i y0t
theorem o2y:t2b=s4i (a0b o0i FU):=congrArg s4i (funext c1j)
theorem g2r: ∀t s x,(a0h t2b t s).sel=some x→a0k Try.prog 0 (.loop (cAt Try.prog 131 4)) t s x:=by
 rw[o2y]
 exact a0o (st:=o0i) (m:=FU) i1z hmix false (LsOk.none _ _ _) (by kernel_rfl) (fun env y h=>by rw[←stepMC_lk];exact h)
noncomputable def n0w:LDt→Tree Step
 |[.l TI l0,.n n1,.n n2,.l TS l3,.l TPt l4,.l TPt l5,.l TRt l6]=>
  (.node (decide (n2<n1))
   (.node (decide ((List.getD l0 (Int.toNat n2) (0:Int):Int)≥(0:Int)))
   (.node (!decide ((List.getD l0 (Int.toNat n2) (0:Int):Int)<(↑(List.length l3):Int)))
    (.leaf (Step.stop 1 [.b false]))
    (.leaf (Step.go [.k 0,.l TI l0,.n n1,.n (IntKind.wrap .i64 (n2+(1:Int))),.l TS l3,.l TPt l4,.l TPt l5,.l TRt l6])))
   (.leaf (Step.stop 1 [.b false])))
   (.leaf (Step.stop 0 [])))
 |_=>.bad 0
theorem l0f (l0:DI)(n1:Int)(n2:Int)(l3:DS)(l4:DP)(l5:DP)(l6:DR)(g0:0≤n2)(g1:n1=(l0.length:Int)):Imp (n0w [.l TI l0,.n n1,.n n2,.l TS l3,.l TPt l4,.l TPt l5,.l TRt l6]) (o0i [.k 0,.l TI l0,.n n1,.n n2,.l TS l3,.l TPt l4,.l TPt l5,.l TRt l6]):=
(.pa [1]
(.nd (fun h0=>
(.pq (c:=(inR n2 (List.length l0)))
(.pa [1]
(.nd (fun h1=>
(.pa [1]
(.nd (fun h2=>
(.pa [1]
.lf)) (fun h2=>
(.pa [1]
.lf))))) (fun h1=>
(.pa [0,1,1,1]
.lf)))))) (fun h0=>
(.pa [1]
.lf))))
theorem t2e:LsOk Try.prog (z0) (lsM [(4,t2b)] (z0)) (a0r Try.prog 131):=LsOk.many fun j B hB hk c hc hi=>by
 simp only[b0d]at hB
 split at hB
 ·rename_i e;have:=Nat.eq_of_beq_eq_true e;subst this;cases hB
  rw[a0y (f:=131) (i:=4) (a0e (by kernel_rfl)) (a0d hc hi)];exact g2r
 cases hB
def kq48 (f:OpT):FBox:=mkF [laV 0,.imm TI 4] [] [] [(.bool 0,[])] f
noncomputable def q2v (env:LDt):TD:=Lk.boxC false LK s2x 131 (lsM [(4,t2b)] (z0)) (kq48 fun _=>none) env
noncomputable def f2a:OpT:=Classical.choose (opq (fun env=>(q2v env).sel))
theorem w1z (env:LDt):f2a env=(q2v env).sel:=Classical.choose_spec (opq (fun env=>(q2v env).sel)) env
noncomputable def B48:FBox:=kq48 f2a
theorem B48_ok:a0v Try.prog 131 (a0j B48):=a0p (op:=f2a) i1z hmix false (t2e) (fun env x h=>by rw[w1z]at h;rw[←boxC_lk];exact h)
noncomputable def p2y:LDt→TD
 |[.l TS l0,.l TPt l1,.l TPt l2,.l TRt l3,.l TI l4]=>
  (.node (decide ((↑(List.length l4):Int)>(16:Int)))
   (.leaf ((0,[.b false])))
   (let r1:OD:=(y0t [.k 0,.l TI l4,.n (↑(List.length l4):Int),.n (0:Int),.l TS l0,.l TPt l1,.l TPt l2,.l TRt l3]);
   (.node (isK 0 [] r1)
    (.leaf ((0,[.b true])))
    (.node (isK 1 [HK.b] r1)
    (.leaf ((0,[.b (gb (dOf r1) 0)])))
    (.bad 351)))))
 |_=>.bad 0
theorem b2c (l0:DS)(l1:DP)(l2:DP)(l3:DR)(l4:DI):Imp (p2y [.l TS l0,.l TPt l1,.l TPt l2,.l TRt l3,.l TI l4]) (q2v [.l TS l0,.l TPt l1,.l TPt l2,.l TRt l3,.l TI l4]):=
(.nd (fun h0=>
(.pa [1]
.lf)) (fun h0=>
(.nd (fun h1=>
(.pa [1]
.lf)) (fun h1=>
(.nd (fun h2=>
(.pa [1]
.lf)) (fun h2=>
.none))))))
noncomputable def v2u:FuncId→Option a0q:=a0s 131 B48 s2x
theorem i1m:CsOk Try.prog v2u:=a0g i1z B48_ok
def r4w (f:OpT):MBox:=mkM 0 [] [(sh 24 [(2,.ptr 0 0),(10,.imm TNd 0),(11,.int .i64 1),(12,.int .i64 2)],[laB 3])] [] [(.exit 0,sh 24 [],[]),(.ret,sh 24 [(4,.bool 0)],[])] f
noncomputable def n0x (env:LDt):Tree Step:=Lk.stepMC false LK v2u 132 4 ls0 (r4w fun _=>none) env
noncomputable def z0c:OpT:=Classical.choose (opq (a0b n0x FU))
theorem a1v (env:LDt):z0c env=a0b n0x FU env:=Classical.choose_spec (opq (a0b n0x FU)) env
noncomputable def v2y:MBox:=r4w z0c
theorem k2x:v2y=r4w (a0b n0x FU):=congrArg r4w (funext a1v)
theorem j2p: ∀t s x,(a0h v2y t s).sel=some x→a0k Try.prog 0 (.loop (cAt Try.prog 132 4)) t s x:=by
 rw[k2x]
 exact a0o (st:=n0x) (m:=FU) i1m hmix false (LsOk.none _ _ _) (by kernel_rfl) (fun env y h=>by rw[←stepMC_lk];exact h)
noncomputable def n0l:LDt→Tree Step
 |[.l TNd l0,.n n1,.n n2,.l TS l3,.l TPt l4,.l TPt l5,.l TRt l6]=>
  (.node (decide (n2<n1))
   (.node (decide ((Prod.fst (List.getD l0 (Int.toNat n2) (Ty.dflt TNd)):Int)≥(0:Int)))
   (.node (!decide ((Prod.fst (List.getD l0 (Int.toNat n2) (Ty.dflt TNd)):Int)<(↑(List.length l4):Int)))
    (.leaf (Step.stop 1 [.b false]))
    (.leaf (Step.go [.k 0,.l TNd l0,.n n1,.n (IntKind.wrap .i64 (n2+(1:Int))),.l TS l3,.l TPt l4,.l TPt l5,.l TRt l6])))
   (.leaf (Step.stop 1 [.b false])))
   (.leaf (Step.stop 0 [])))
 |_=>.bad 0
theorem k0p (l0:DD)(n1:Int)(n2:Int)(l3:DS)(l4:DP)(l5:DP)(l6:DR)(g0:0≤n2)(g1:n1=(l0.length:Int)):Imp (n0l [.l TNd l0,.n n1,.n n2,.l TS l3,.l TPt l4,.l TPt l5,.l TRt l6]) (n0x [.k 0,.l TNd l0,.n n1,.n n2,.l TS l3,.l TPt l4,.l TPt l5,.l TRt l6]):=
(.pa [1]
(.nd (fun h0=>
(.pq (c:=(inR n2 (List.length l0)))
(.pa [1]
(.nd (fun h1=>
(.pa [1]
(.nd (fun h2=>
(.pa [1]
.lf)) (fun h2=>
(.pa [1]
.lf))))) (fun h1=>
(.pa [0,1,1,1]
.lf)))))) (fun h0=>
(.pa [1]
.lf))))
theorem r2e:LsOk Try.prog (z0) (lsM [(4,v2y)] (z0)) (a0r Try.prog 132):=LsOk.many fun j B hB hk c hc hi=>by
 simp only[b0d]at hB
 split at hB
 ·rename_i e;have:=Nat.eq_of_beq_eq_true e;subst this;cases hB
  rw[a0y (f:=132) (i:=4) (a0e (by kernel_rfl)) (a0d hc hi)];exact j2p
 cases hB
def kq49 (f:OpT):FBox:=mkF [laV 0,.imm TNd 4] [] [] [(.bool 0,[])] f
noncomputable def s2j (env:LDt):TD:=Lk.boxC false LK v2u 132 (lsM [(4,v2y)] (z0)) (kq49 fun _=>none) env
noncomputable def e2e:OpT:=Classical.choose (opq (fun env=>(s2j env).sel))
theorem u1f (env:LDt):e2e env=(s2j env).sel:=Classical.choose_spec (opq (fun env=>(s2j env).sel)) env
noncomputable def B49:FBox:=kq49 e2e
theorem B49_ok:a0v Try.prog 132 (a0j B49):=a0p (op:=e2e) i1m hmix false (r2e) (fun env x h=>by rw[u1f]at h;rw[←boxC_lk];exact h)
noncomputable def h2i:LDt→TD
 |[.l TS l0,.l TPt l1,.l TPt l2,.l TRt l3,.l TNd l4]=>
  (.node (decide ((↑(List.length l4):Int)>(16:Int)))
   (.leaf ((0,[.b false])))
   (let r1:OD:=(z0c [.k 0,.l TNd l4,.n (↑(List.length l4):Int),.n (0:Int),.l TS l0,.l TPt l1,.l TPt l2,.l TRt l3]);
   (.node (isK 0 [] r1)
    (.leaf ((0,[.b true])))
    (.node (isK 1 [HK.b] r1)
    (.leaf ((0,[.b (gb (dOf r1) 0)])))
    (.bad 351)))))
 |_=>.bad 0
theorem c2a (l0:DS)(l1:DP)(l2:DP)(l3:DR)(l4:DD):Imp (h2i [.l TS l0,.l TPt l1,.l TPt l2,.l TRt l3,.l TNd l4]) (s2j [.l TS l0,.l TPt l1,.l TPt l2,.l TRt l3,.l TNd l4]):=
(.nd (fun h0=>
(.pa [1]
.lf)) (fun h0=>
(.nd (fun h1=>
(.pa [1]
.lf)) (fun h1=>
(.nd (fun h2=>
(.pa [1]
.lf)) (fun h2=>
.none))))))
noncomputable def r2t:FuncId→Option a0q:=a0s 132 B49 v2u
theorem k1v:CsOk Try.prog r2t:=a0g i1m B49_ok
def s4j (f:OpT):MBox:=mkM 0 [] [(sh 24 [(0,.imm TNd 0),(3,.own 0),(4,.int .i64 1)],[.arr TI 2])] [(3,TI)] [(.exit 0,sh 24 [(3,.own 0)],[.arr TI 0])] f
noncomputable def n0d (env:LDt):Tree Step:=Lk.stepMC false LK r2t 64 3 ls0 (s4j fun _=>none) env
noncomputable def z0h:OpT:=Classical.choose (opq (a0b n0d FU))
theorem d1k (env:LDt):z0h env=a0b n0d FU env:=Classical.choose_spec (opq (a0b n0d FU)) env
noncomputable def t2h:MBox:=s4j z0h
theorem h2v:t2h=s4j (a0b n0d FU):=congrArg s4j (funext d1k)
theorem k2o: ∀t s x,(a0h t2h t s).sel=some x→a0k Try.prog 0 (.loop (cAt Try.prog 64 3)) t s x:=by
 rw[h2v]
 exact a0o (st:=n0d) (m:=FU) k1v hmix false (LsOk.none _ _ _) (by kernel_rfl) (fun env y h=>by rw[←stepMC_lk];exact h)
noncomputable def v0o:LDt→Tree Step
 |[.l TNd l0,.n n1,.l TI l2]=>
  (.node (decide (n1<(↑(List.length l0):Int)))
   (.node (decide (n1<(17:Int)))
   (.node (decide ((List.length l2+1)*8≤140737488355328))
    (.leaf (Step.go [.k 0,.l TNd l0,.n (IntKind.wrap .i64 (n1+(1:Int))),.l TI (l2++[Prod.fst (List.getD l0 (Int.toNat n1) (Ty.dflt TNd))])]))
    (.bad 62))
   (.leaf (Step.stop 0 [.l TI l2])))
   (.leaf (Step.stop 0 [.l TI l2])))
 |_=>.bad 0
theorem u0l (l0:DD)(n1:Int)(l2:DI)(g0:0≤n1):Imp (v0o [.l TNd l0,.n n1,.l TI l2]) (n0d [.k 0,.l TNd l0,.n n1,.l TI l2]):=
(.pa [1]
(.nd (fun h0=>
(.nd (fun h1=>
(.pq (c:=(inR n1 (List.length l0)))
(.nd (fun h2=>
(.pa [1]
.lf)) (fun h2=>
.none)))) (fun h1=>
(.pa [1]
.lf)))) (fun h0=>
(.pa [0,0,1]
.lf))))
theorem v2n:LsOk Try.prog (z0) (lsM [(3,t2h)] (z0)) (a0r Try.prog 64):=LsOk.many fun j B hB hk c hc hi=>by
 simp only[b0d]at hB
 split at hB
 ·rename_i e;have:=Nat.eq_of_beq_eq_true e;subst this;cases hB
  rw[a0y (f:=64) (i:=3) (a0e (by kernel_rfl)) (a0d hc hi)];exact k2o
 cases hB
def kq45 (f:OpT):FBox:=mkF [.imm TNd 0] [] [] [(.own 0,[.arr TI 0])] f
noncomputable def v2j (env:LDt):TD:=Lk.boxC false LK r2t 64 (lsM [(3,t2h)] (z0)) (kq45 fun _=>none) env
noncomputable def e2f:OpT:=Classical.choose (opq (fun env=>(v2j env).sel))
theorem w1v (env:LDt):e2f env=(v2j env).sel:=Classical.choose_spec (opq (fun env=>(v2j env).sel)) env
noncomputable def B45:FBox:=kq45 e2f
theorem B45_ok:a0v Try.prog 64 (a0j B45):=a0p (op:=e2f) k1v hmix false (v2n) (fun env x h=>by rw[w1v]at h;rw[←boxC_lk];exact h)
noncomputable def j2z:LDt→TD
 |[.l TNd l0]=>
  (let r1:OD:=(z0h [.k 0,.l TNd l0,.n (0:Int),.l TI []]);
   (.node (isK 0 [HK.l TI] r1)
   (.leaf ((0,[.l TI (gl TI (dOf r1) 0)])))
   (.bad 351)))
 |_=>.bad 0
theorem g2h (l0:DD):Imp (j2z [.l TNd l0]) (v2j [.l TNd l0]):=
(.nd (fun h0=>
(.pa [1]
.lf)) (fun h0=>
.none))
noncomputable def cs_45:FuncId→Option a0q:=a0s 64 B45 r2t
theorem w1g:CsOk Try.prog cs_45:=a0g k1v B45_ok
def kq31 (f:OpT):FBox:=mkF [laV 0,.agg [.str 4,.int .i64 5,.imm TI 6,.imm TNd 7,.imm TI 8,.imm TNd 9]] [] [] [(.bool 0,[])] f
noncomputable def r2n (env:LDt):TD:=Lk.boxC false LK cs_45 117 ls0 (kq31 fun _=>none) env
noncomputable def i2m:OpT:=Classical.choose (opq (fun env=>(r2n env).sel))
theorem v1s (env:LDt):i2m env=(r2n env).sel:=Classical.choose_spec (opq (fun env=>(r2n env).sel)) env
noncomputable def B31:FBox:=kq31 i2m
theorem B31_ok:a0v Try.prog 117 (a0j B31):=a0p (op:=i2m) w1g hmix false (LsOk.none _ _ _) (fun env x h=>by rw[v1s]at h;rw[←boxC_lk];exact h)
noncomputable def p2c:LDt→TD
 |[.l TS l0,.l TPt l1,.l TPt l2,.l TRt l3,.s s4,.n n5,.l TI l6,.l TNd l7,.l TI l8,.l TNd l9]=>
  (.node (decide (n5≥(0:Int)))
   (.node (decide (n5<(↑(List.length l2):Int)))
   (let r1:OD:=(f2a [.l TS l0,.l TPt l1,.l TPt l2,.l TRt l3,.l TI l6]);
    (.node (isK 0 [HK.b] r1)
    (.node (gb (dOf r1) 0)
     (let r2:OD:=(e2e [.l TS l0,.l TPt l1,.l TPt l2,.l TRt l3,.l TNd l7]);
     (.node (isK 0 [HK.b] r2)
      (.node (gb (dOf r2) 0)
      (let r3:OD:=(f2a [.l TS l0,.l TPt l1,.l TPt l2,.l TRt l3,.l TI l8]);
       (.node (isK 0 [HK.b] r3)
       (.node (gb (dOf r3) 0)
        (let r4:OD:=(e2e [.l TS l0,.l TPt l1,.l TPt l2,.l TRt l3,.l TNd l9]);
        (.node (isK 0 [HK.b] r4)
         (.leaf ((0,[.b (gb (dOf r4) 0)])))
         (.bad 351)))
        (.leaf ((0,[.b false]))))
       (.bad 351)))
      (.leaf ((0,[.b false]))))
      (.bad 351)))
     (.leaf ((0,[.b false]))))
    (.bad 351)))
   (.leaf ((0,[.b false]))))
   (.leaf ((0,[.b false]))))
 |_=>.bad 0
theorem e2d (l0:DS)(l1:DP)(l2:DP)(l3:DR)(s4:ByteArray)(n5:Int)(l6:DI)(l7:DD)(l8:DI)(l9:DD):Imp (p2c [.l TS l0,.l TPt l1,.l TPt l2,.l TRt l3,.s s4,.n n5,.l TI l6,.l TNd l7,.l TI l8,.l TNd l9]) (r2n [.l TS l0,.l TPt l1,.l TPt l2,.l TRt l3,.s s4,.n n5,.l TI l6,.l TNd l7,.l TI l8,.l TNd l9]):=
(.pa [1]
(.nd (fun h0=>
(.pa [1]
(.nd (fun h1=>
(.nd (fun h2=>
(.pa [1]
(.nd (fun h3=>
(.nd (fun h4=>
(.pa [1]
(.nd (fun h5=>
(.nd (fun h6=>
(.pa [1]
(.nd (fun h7=>
(.nd (fun h8=>
(.pa [1,1]
.lf)) (fun h8=>
.none))) (fun h7=>
(.pa [0,1]
.lf))))) (fun h6=>
.none))) (fun h5=>
(.pa [0,0,0,1]
.lf))))) (fun h4=>
.none))) (fun h3=>
(.pa [0,0,0,0,0,1]
.lf))))) (fun h2=>
.none))) (fun h1=>
(.pa [0,0,0,0,0,0,0,1]
.lf))))) (fun h0=>
(.pa [0,1,0,0,0,0,0,0,0,0,1]
.lf))))
noncomputable def r1a:FuncId→Option a0q:=a0s 117 B31 cs_45
theorem m0w:CsOk Try.prog r1a:=a0g w1g B31_ok
def s4g (f:OpT):MBox:=mkM 0 [] [(sh 76 [(1,.ptr 0 0),(3,.own 1),(17,.imm TPt 0),(18,.int .i64 1),(19,.int .i64 2)],[laB 3,.arr TS 7])] [] [(.exit 0,sh 76 [(1,.ptr 0 0),(3,.own 1)],[laB 0,.arr TS 4])] f
noncomputable def j0l (env:LDt):Tree Step:=Lk.stepMC false LK r1a 118 3 ls0 (s4g fun _=>none) env
noncomputable def y0v:OpT:=Classical.choose (opq (a0b j0l FU))
theorem c1s (env:LDt):y0v env=a0b j0l FU env:=Classical.choose_spec (opq (a0b j0l FU)) env
noncomputable def r2j:MBox:=s4g y0v
theorem k2u:r2j=s4g (a0b j0l FU):=congrArg s4g (funext c1s)
theorem n2n: ∀t s x,(a0h r2j t s).sel=some x→a0k Try.prog 0 (.loop (cAt Try.prog 118 3)) t s x:=by
 rw[k2u]
 exact a0o (st:=j0l) (m:=FU) m0w hmix false (LsOk.none _ _ _) (by kernel_rfl) (fun env y h=>by rw[←stepMC_lk];exact h)
noncomputable def v0j:LDt→Tree Step
 |[.l TPt l0,.n n1,.n n2,.l TS l3,.l TPt l4,.l TPt l5,.l TRt l6,.l TS l7]=>
  (.node (decide (n2<n1))
   (.node (decide ((List.length l7+1)*16≤140737488355328))
   (.leaf (Step.go [.k 0,.l TPt l0,.n n1,.n (IntKind.wrap .i64 (n2+(1:Int))),.l TS l3,.l TPt l4,.l TPt l5,.l TRt l6,.l TS (l7++[Prod.fst (List.getD l0 (Int.toNat n2) (Ty.dflt TPt))])]))
   (.bad 62))
   (.leaf (Step.stop 0 [.l TS l3,.l TPt l4,.l TPt l5,.l TRt l6,.l TS l7])))
 |_=>.bad 0
theorem r0z (l0:DP)(n1:Int)(n2:Int)(l3:DS)(l4:DP)(l5:DP)(l6:DR)(l7:DS)(g0:0≤n2)(g1:n1=(l0.length:Int)):Imp (v0j [.l TPt l0,.n n1,.n n2,.l TS l3,.l TPt l4,.l TPt l5,.l TRt l6,.l TS l7]) (j0l [.k 0,.l TPt l0,.n n1,.n n2,.l TS l3,.l TPt l4,.l TPt l5,.l TRt l6,.l TS l7]):=
(.pa [1]
(.nd (fun h0=>
(.pq (c:=(inR n2 (List.length l0)))
(.nd (fun h1=>
(.pa [1]
.lf)) (fun h1=>
.none)))) (fun h0=>
(.pa [1]
.lf))))
def s4m (f:OpT):MBox:=mkM 0 [] [(sh 76 [(1,.ptr 0 0),(3,.own 1),(30,.imm TPt 0),(31,.int .i64 1),(32,.int .i64 2)],[laB 3,.arr TS 7])] [] [(.exit 2,sh 76 [(1,.ptr 0 0),(3,.own 1)],[laB 0,.arr TS 4])] f
noncomputable def j0u (env:LDt):Tree Step:=Lk.stepMC false LK r1a 118 8 ls0 (s4m fun _=>none) env
noncomputable def y0m:OpT:=Classical.choose (opq (a0b j0u FU))
theorem d1y (env:LDt):y0m env=a0b j0u FU env:=Classical.choose_spec (opq (a0b j0u FU)) env
noncomputable def v2h:MBox:=s4m y0m
theorem g2z:v2h=s4m (a0b j0u FU):=congrArg s4m (funext d1y)
theorem h2q: ∀t s x,(a0h v2h t s).sel=some x→a0k Try.prog 0 (.loop (cAt Try.prog 118 8)) t s x:=by
 rw[g2z]
 exact a0o (st:=j0u) (m:=FU) m0w hmix false (LsOk.none _ _ _) (by kernel_rfl) (fun env y h=>by rw[←stepMC_lk];exact h)
noncomputable def u0u:LDt→Tree Step
 |[.l TPt l0,.n n1,.n n2,.l TS l3,.l TPt l4,.l TPt l5,.l TRt l6,.l TS l7]=>
  (.node (decide (n2<n1))
   (.node (decide ((List.length l7+1)*16≤140737488355328))
   (.leaf (Step.go [.k 0,.l TPt l0,.n n1,.n (IntKind.wrap .i64 (n2+(1:Int))),.l TS l3,.l TPt l4,.l TPt l5,.l TRt l6,.l TS (l7++[Prod.fst (List.getD l0 (Int.toNat n2) (Ty.dflt TPt))])]))
   (.bad 62))
   (.leaf (Step.stop 0 [.l TS l3,.l TPt l4,.l TPt l5,.l TRt l6,.l TS l7])))
 |_=>.bad 0
theorem s0q (l0:DP)(n1:Int)(n2:Int)(l3:DS)(l4:DP)(l5:DP)(l6:DR)(l7:DS)(g0:0≤n2)(g1:n1=(l0.length:Int)):Imp (u0u [.l TPt l0,.n n1,.n n2,.l TS l3,.l TPt l4,.l TPt l5,.l TRt l6,.l TS l7]) (j0u [.k 0,.l TPt l0,.n n1,.n n2,.l TS l3,.l TPt l4,.l TPt l5,.l TRt l6,.l TS l7]):=
(.pa [1]
(.nd (fun h0=>
(.pq (c:=(inR n2 (List.length l0)))
(.nd (fun h1=>
(.pa [1]
.lf)) (fun h1=>
.none)))) (fun h0=>
(.pa [1]
.lf))))
def r4e (f:OpT):MBox:=mkM 0 [] [(sh 76 [(3,.own 0),(43,.imm TRt 0),(44,.int .i64 1),(45,.int .i64 2)],[.arr TS 3])] [] [(.exit 4,sh 76 [(3,.own 0)],[.arr TS 0])] f
noncomputable def g0j (env:LDt):Tree Step:=Lk.stepMC false LK r1a 118 13 ls0 (r4e fun _=>none) env
noncomputable def r0x:OpT:=Classical.choose (opq (a0b g0j FU))
theorem w0z (env:LDt):r0x env=a0b g0j FU env:=Classical.choose_spec (opq (a0b g0j FU)) env
noncomputable def x1v:MBox:=r4e r0x
theorem g2e:x1v=r4e (a0b g0j FU):=congrArg r4e (funext w0z)
theorem d2i: ∀t s x,(a0h x1v t s).sel=some x→a0k Try.prog 0 (.loop (cAt Try.prog 118 13)) t s x:=by
 rw[g2e]
 exact a0o (st:=g0j) (m:=FU) m0w hmix false (LsOk.none _ _ _) (by kernel_rfl) (fun env y h=>by rw[←stepMC_lk];exact h)
noncomputable def q0r:LDt→Tree Step
 |[.l TRt l0,.n n1,.n n2,.l TS l3]=>
  (.node (decide (n2<n1))
   (.node (decide ((List.length l3+1)*16≤140737488355328))
   (.leaf (Step.go [.k 0,.l TRt l0,.n n1,.n (IntKind.wrap .i64 (n2+(1:Int))),.l TS (l3++[Prod.fst (List.getD l0 (Int.toNat n2) (Ty.dflt TRt))])]))
   (.bad 62))
   (.leaf (Step.stop 0 [.l TS l3])))
 |_=>.bad 0
theorem p0h (l0:DR)(n1:Int)(n2:Int)(l3:DS)(g0:0≤n2)(g1:n1=(l0.length:Int)):Imp (q0r [.l TRt l0,.n n1,.n n2,.l TS l3]) (g0j [.k 0,.l TRt l0,.n n1,.n n2,.l TS l3]):=
(.pa [1]
(.nd (fun h0=>
(.pq (c:=(inR n2 (List.length l0)))
(.nd (fun h1=>
(.pa [1]
.lf)) (fun h1=>
.none)))) (fun h0=>
(.pa [1]
.lf))))
def r4o (f:OpT):MBox:=mkM 0 [] [(sh 76 [(10,.mapv 0),(56,.own 1),(57,.int .i64 0),(58,.int .i64 1)],[.map .str (.int .i64) 2,.arr TS 3])] [] [(.exit 6,sh 76 [],[]),(.ret,sh 76 [(2,.bool 0)],[])] f
noncomputable def g0q (env:LDt):Tree Step:=Lk.stepMC false LK r1a 118 19 ls0 (r4o fun _=>none) env
noncomputable def s0n:OpT:=Classical.choose (opq (a0b g0q FU))
theorem w0l (env:LDt):s0n env=a0b g0q FU env:=Classical.choose_spec (opq (a0b g0q FU)) env
noncomputable def x1s:MBox:=r4o s0n
theorem d2u:x1s=r4o (a0b g0q FU):=congrArg r4o (funext w0l)
theorem f2g: ∀t s x,(a0h x1s t s).sel=some x→a0k Try.prog 0 (.loop (cAt Try.prog 118 19)) t s x:=by
 rw[d2u]
 exact a0o (st:=g0q) (m:=FU) m0w hmix false (LsOk.none _ _ _) (by kernel_rfl) (fun env y h=>by rw[←stepMC_lk];exact h)
noncomputable def k0l:LDt→Tree Step
 |[.n n0,.n n1,.l TPt l2,.l TS l3]=>
  (.node (decide (n1<n0))
   (let r1:OD:=(j2u [.s (List.getD l3 (Int.toNat n1) (Ty.dflt Ty.str))]);
   (.node (isK 0 [HK.b] r1)
    (.node (!gb (dOf r1) 0)
    (.leaf (Step.stop 1 [.b false]))
    (.node (decide (mgI (List.getD l3 (Int.toNat n1) (Ty.dflt Ty.str)) (mput Ty.str TI (List.getD l3 (Int.toNat n1) (Ty.dflt Ty.str)) (IntKind.wrap .i64 (mgI (List.getD l3 (Int.toNat n1) (Ty.dflt Ty.str)) l2+(1:Int))) l2)>(1:Int)))
     (.leaf (Step.stop 1 [.b false]))
     (.leaf (Step.go [.k 0,.n n0,.n (IntKind.wrap .i64 (n1+(1:Int))),.l TPt (mput Ty.str TI (List.getD l3 (Int.toNat n1) (Ty.dflt Ty.str)) (IntKind.wrap .i64 (mgI (List.getD l3 (Int.toNat n1) (Ty.dflt Ty.str)) l2+(1:Int))) l2),.l TS l3]))))
    (.bad 351)))
   (.leaf (Step.stop 0 [])))
 |_=>.bad 0
theorem h0l (n0:Int)(n1:Int)(l2:DP)(l3:DS)(g0:0≤n1)(g1:n0=(l3.length:Int)):Imp (k0l [.n n0,.n n1,.l TPt l2,.l TS l3]) (g0q [.k 0,.n n0,.n n1,.l TPt l2,.l TS l3]):=
(.pa [1]
(.nd (fun h0=>
(.pq (c:=(inR n1 (List.length l3)))
(.nd (fun h1=>
(.pa [1]
(.nd (fun h2=>
(.pa [1,1,1]
.lf)) (fun h2=>
(.nd (fun h3=>
(.pa [1]
.lf)) (fun h3=>
(.pa [1]
.lf))))))) (fun h1=>
.none)))) (fun h0=>
(.pa [1]
.lf))))
theorem s2y:LsOk Try.prog (z0) (lsM [(3,r2j),(8,v2h),(13,x1v),(19,x1s)] (z0)) (a0r Try.prog 118):=LsOk.many fun j B hB hk c hc hi=>by
 simp only[b0d]at hB
 split at hB
 ·rename_i e;have:=Nat.eq_of_beq_eq_true e;subst this;cases hB
  rw[a0y (f:=118) (i:=3) (a0e (by kernel_rfl)) (a0d hc hi)];exact n2n
 split at hB
 ·rename_i e;have:=Nat.eq_of_beq_eq_true e;subst this;cases hB
  rw[a0y (f:=118) (i:=8) (a0e (by kernel_rfl)) (a0d hc hi)];exact h2q
 split at hB
 ·rename_i e;have:=Nat.eq_of_beq_eq_true e;subst this;cases hB
  rw[a0y (f:=118) (i:=13) (a0e (by kernel_rfl)) (a0d hc hi)];exact d2i
 split at hB
 ·rename_i e;have:=Nat.eq_of_beq_eq_true e;subst this;cases hB
  rw[a0y (f:=118) (i:=19) (a0e (by kernel_rfl)) (a0d hc hi)];exact f2g
 cases hB
noncomputable def v2c (env:LDt):TD:=Lk.boxC false LK r1a 118 (lsM [(3,r2j),(8,v2h),(13,x1v),(19,x1s)] (z0)) (mkF [laV 0] [] [] [(.bool 0,[])] fun _=>none) env
noncomputable def g2y:OpT:=Classical.choose (opq (fun env=>(v2c env).sel))
theorem v1t (env:LDt):g2y env=(v2c env).sel:=Classical.choose_spec (opq (fun env=>(v2c env).sel)) env
noncomputable def B32:FBox:=mkF [laV 0] [] [] [(.bool 0,[])] g2y
theorem B32_ok:a0v Try.prog 118 (a0j B32):=a0p (op:=g2y) m0w hmix false (s2y) (fun env x h=>by rw[v1t]at h;rw[←boxC_lk];exact h)
noncomputable def k2m:LDt→TD
 |[.l TS l0,.l TPt l1,.l TPt l2,.l TRt l3]=>
  (.node (decide (List.length l0*16≤140737488355328))
   (let r1:OD:=(y0v [.k 0,.l TPt l1,.n (↑(List.length l1):Int),.n (0:Int),.l TS l0,.l TPt l1,.l TPt l2,.l TRt l3,.l TS l0]);
   (.node (isK 0 [HK.l Ty.str,HK.l TPt,HK.l TPt,HK.l TRt,HK.l Ty.str] r1)
    (let r2:OD:=(y0m [.k 0,.l TPt (gl TPt (dOf r1) 2),.n (↑(List.length (gl TPt (dOf r1) 2)):Int),.n (0:Int),.l TS (gl Ty.str (dOf r1) 0),.l TPt (gl TPt (dOf r1) 1),.l TPt (gl TPt (dOf r1) 2),.l TRt (gl TRt (dOf r1) 3),.l TS (gl Ty.str (dOf r1) 4)]);
    (.node (isK 0 [HK.l Ty.str,HK.l TPt,HK.l TPt,HK.l TRt,HK.l Ty.str] r2)
     (let r3:OD:=(r0x [.k 0,.l TRt (gl TRt (dOf r2) 3),.n (↑(List.length (gl TRt (dOf r2) 3)):Int),.n (0:Int),.l TS (gl Ty.str (dOf r2) 4)]);
     (.node (isK 0 [HK.l Ty.str] r3)
      (let r4:OD:=(s0n [.k 0,.n (↑(List.length (gl Ty.str (dOf r3) 0)):Int),.n (0:Int),.l TPt [],.l TS (gl Ty.str (dOf r3) 0)]);
      (.node (isK 0 [] r4)
       (.leaf ((0,[.b true])))
       (.node (isK 1 [HK.b] r4)
       (.leaf ((0,[.b (gb (dOf r4) 0)])))
       (.bad 351))))
      (.bad 351)))
     (.bad 351)))
    (.bad 351)))
   (.bad 60))
 |_=>.bad 0
theorem d2c (l0:DS)(l1:DP)(l2:DP)(l3:DR):Imp (k2m [.l TS l0,.l TPt l1,.l TPt l2,.l TRt l3]) (v2c [.l TS l0,.l TPt l1,.l TPt l2,.l TRt l3]):=
(.nd (fun h0=>
(.nd (fun h1=>
(.nd (fun h2=>
(.nd (fun h3=>
(.nd (fun h4=>
(.pa [1]
.lf)) (fun h4=>
(.nd (fun h5=>
(.pa [1]
.lf)) (fun h5=>
.none))))) (fun h3=>
.none))) (fun h2=>
.none))) (fun h1=>
.none))) (fun h0=>
.none))
noncomputable def f2y:FuncId→Option a0q:=a0s 118 B32 r1a
theorem u0k:CsOk Try.prog f2y:=a0g m0w B32_ok
def s4k (f:OpT):MBox:=mkM 0 [] [(sh 60 [(1,.ptr 0 0),(3,.own 1),(4,.int .i64 0)],[laB 1,.arr TS 5])] [] [(.exit 0,sh 60 [(1,.ptr 0 0),(3,.own 1)],[laB 0,.arr TS 4])] f
noncomputable def l0d (env:LDt):Tree Step:=Lk.stepMC false LK f2y 60 4 ls0 (s4k fun _=>none) env
noncomputable def z0f:OpT:=Classical.choose (opq (a0b l0d FU))
theorem b1q (env:LDt):z0f env=a0b l0d FU env:=Classical.choose_spec (opq (a0b l0d FU)) env
noncomputable def q2h:MBox:=s4k z0f
theorem m2w:q2h=s4k (a0b l0d FU):=congrArg s4k (funext b1q)
theorem g2o: ∀t s x,(a0h q2h t s).sel=some x→a0k Try.prog 0 (.loop (cAt Try.prog 60 4)) t s x:=by
 rw[m2w]
 exact a0o (st:=l0d) (m:=FU) u0k hmix false (LsOk.none _ _ _) (by kernel_rfl) (fun env y h=>by rw[←stepMC_lk];exact h)
noncomputable def u0s:LDt→Tree Step
 |[.n n0,.l TS l1,.l TPt l2,.l TPt l3,.l TRt l4,.l TS l5]=>
  (.node (decide (n0<(↑(List.length l2):Int)))
   (.node (decide ((List.length l5+1)*16≤140737488355328))
   (.leaf (Step.go [.k 0,.n (IntKind.wrap .i64 (n0+(1:Int))),.l TS l1,.l TPt l2,.l TPt l3,.l TRt l4,.l TS (l5++[Prod.fst (List.getD l2 (Int.toNat n0) (Ty.dflt TPt))])]))
   (.bad 62))
   (.leaf (Step.stop 0 [.l TS l1,.l TPt l2,.l TPt l3,.l TRt l4,.l TS l5])))
 |_=>.bad 0
theorem r0b (n0:Int)(l1:DS)(l2:DP)(l3:DP)(l4:DR)(l5:DS)(g0:0≤n0):Imp (u0s [.n n0,.l TS l1,.l TPt l2,.l TPt l3,.l TRt l4,.l TS l5]) (l0d [.k 0,.n n0,.l TS l1,.l TPt l2,.l TPt l3,.l TRt l4,.l TS l5]):=
(.pa [1]
(.nd (fun h0=>
(.pq (c:=(inR n0 (List.length l2)))
(.nd (fun h1=>
(.pa [1]
.lf)) (fun h1=>
.none)))) (fun h0=>
(.pa [1]
.lf))))
def s4l (f:OpT):MBox:=mkM 0 [] [(sh 60 [(1,.ptr 0 0),(3,.own 1),(5,.int .i64 0)],[laB 1,.arr TS 5])] [] [(.exit 2,sh 60 [(1,.ptr 0 0),(3,.own 1)],[laB 0,.arr TS 4])] f
noncomputable def j0e (env:LDt):Tree Step:=Lk.stepMC false LK f2y 60 8 ls0 (s4l fun _=>none) env
noncomputable def y0j:OpT:=Classical.choose (opq (a0b j0e FU))
theorem d1p (env:LDt):y0j env=a0b j0e FU env:=Classical.choose_spec (opq (a0b j0e FU)) env
noncomputable def v2k:MBox:=s4l y0j
theorem g2n:v2k=s4l (a0b j0e FU):=congrArg s4l (funext d1p)
theorem p2v: ∀t s x,(a0h v2k t s).sel=some x→a0k Try.prog 0 (.loop (cAt Try.prog 60 8)) t s x:=by
 rw[g2n]
 exact a0o (st:=j0e) (m:=FU) u0k hmix false (LsOk.none _ _ _) (by kernel_rfl) (fun env y h=>by rw[←stepMC_lk];exact h)
noncomputable def v0f:LDt→Tree Step
 |[.n n0,.l TS l1,.l TPt l2,.l TPt l3,.l TRt l4,.l TS l5]=>
  (.node (decide (n0<(↑(List.length l3):Int)))
   (.node (decide ((List.length l5+1)*16≤140737488355328))
   (.leaf (Step.go [.k 0,.n (IntKind.wrap .i64 (n0+(1:Int))),.l TS l1,.l TPt l2,.l TPt l3,.l TRt l4,.l TS (l5++[Prod.fst (List.getD l3 (Int.toNat n0) (Ty.dflt TPt))])]))
   (.bad 62))
   (.leaf (Step.stop 0 [.l TS l1,.l TPt l2,.l TPt l3,.l TRt l4,.l TS l5])))
 |_=>.bad 0
theorem r0e (n0:Int)(l1:DS)(l2:DP)(l3:DP)(l4:DR)(l5:DS)(g0:0≤n0):Imp (v0f [.n n0,.l TS l1,.l TPt l2,.l TPt l3,.l TRt l4,.l TS l5]) (j0e [.k 0,.n n0,.l TS l1,.l TPt l2,.l TPt l3,.l TRt l4,.l TS l5]):=
(.pa [1]
(.nd (fun h0=>
(.pq (c:=(inR n0 (List.length l3)))
(.nd (fun h1=>
(.pa [1]
.lf)) (fun h1=>
.none)))) (fun h0=>
(.pa [1]
.lf))))
def r4d (f:OpT):MBox:=mkM 0 [] [(sh 60 [(1,.ptr 0 0),(3,.own 1),(6,.int .i64 0)],[laB 1,.arr TS 5])] [] [(.exit 4,sh 60 [(3,.own 0)],[.arr TS 0])] f
noncomputable def g0m (env:LDt):Tree Step:=Lk.stepMC false LK f2y 60 12 ls0 (r4d fun _=>none) env
noncomputable def t0f:OpT:=Classical.choose (opq (a0b g0m FU))
theorem w0n (env:LDt):t0f env=a0b g0m FU env:=Classical.choose_spec (opq (a0b g0m FU)) env
noncomputable def x1e:MBox:=r4d t0f
theorem e2t:x1e=r4d (a0b g0m FU):=congrArg r4d (funext w0n)
theorem f2z: ∀t s x,(a0h x1e t s).sel=some x→a0k Try.prog 0 (.loop (cAt Try.prog 60 12)) t s x:=by
 rw[e2t]
 exact a0o (st:=g0m) (m:=FU) u0k hmix false (LsOk.none _ _ _) (by kernel_rfl) (fun env y h=>by rw[←stepMC_lk];exact h)
noncomputable def q0a:LDt→Tree Step
 |[.n n0,.l TS l1,.l TPt l2,.l TPt l3,.l TRt l4,.l TS l5]=>
  (.node (decide (n0<(↑(List.length l4):Int)))
   (.node (decide ((List.length l5+1)*16≤140737488355328))
   (.leaf (Step.go [.k 0,.n (IntKind.wrap .i64 (n0+(1:Int))),.l TS l1,.l TPt l2,.l TPt l3,.l TRt l4,.l TS (l5++[Prod.fst (List.getD l4 (Int.toNat n0) (Ty.dflt TRt))])]))
   (.bad 62))
   (.leaf (Step.stop 0 [.l TS l5])))
 |_=>.bad 0
theorem p0g (n0:Int)(l1:DS)(l2:DP)(l3:DP)(l4:DR)(l5:DS)(g0:0≤n0):Imp (q0a [.n n0,.l TS l1,.l TPt l2,.l TPt l3,.l TRt l4,.l TS l5]) (g0m [.k 0,.n n0,.l TS l1,.l TPt l2,.l TPt l3,.l TRt l4,.l TS l5]):=
(.pa [1]
(.nd (fun h0=>
(.pq (c:=(inR n0 (List.length l4)))
(.nd (fun h1=>
(.pa [1]
.lf)) (fun h1=>
.none)))) (fun h0=>
(.pa [1]
.lf))))
theorem t2m:LsOk Try.prog (z0) (lsM [(4,q2h),(8,v2k),(12,x1e)] (z0)) (a0r Try.prog 60):=LsOk.many fun j B hB hk c hc hi=>by
 simp only[b0d]at hB
 split at hB
 ·rename_i e;have:=Nat.eq_of_beq_eq_true e;subst this;cases hB
  rw[a0y (f:=60) (i:=4) (a0e (by kernel_rfl)) (a0d hc hi)];exact g2o
 split at hB
 ·rename_i e;have:=Nat.eq_of_beq_eq_true e;subst this;cases hB
  rw[a0y (f:=60) (i:=8) (a0e (by kernel_rfl)) (a0d hc hi)];exact p2v
 split at hB
 ·rename_i e;have:=Nat.eq_of_beq_eq_true e;subst this;cases hB
  rw[a0y (f:=60) (i:=12) (a0e (by kernel_rfl)) (a0d hc hi)];exact f2z
 cases hB
def kq41 (f:OpT):FBox:=mkF [laV 0] [] [] [(.own 0,[.arr TS 0])] f
noncomputable def t2k (env:LDt):TD:=Lk.boxC false LK f2y 60 (lsM [(4,q2h),(8,v2k),(12,x1e)] (z0)) (kq41 fun _=>none) env
noncomputable def k2f:OpT:=Classical.choose (opq (fun env=>(t2k env).sel))
theorem t1v (env:LDt):k2f env=(t2k env).sel:=Classical.choose_spec (opq (fun env=>(t2k env).sel)) env
noncomputable def B41:FBox:=kq41 k2f
theorem B41_ok:a0v Try.prog 60 (a0j B41):=a0p (op:=k2f) u0k hmix false (t2m) (fun env x h=>by rw[t1v]at h;rw[←boxC_lk];exact h)
noncomputable def j2q:LDt→TD
 |[.l TS l0,.l TPt l1,.l TPt l2,.l TRt l3]=>
  (.node (decide (List.length l0*16≤140737488355328))
   (let r1:OD:=(z0f [.k 0,.n (0:Int),.l TS l0,.l TPt l1,.l TPt l2,.l TRt l3,.l TS l0]);
   (.node (isK 0 [HK.l Ty.str,HK.l TPt,HK.l TPt,HK.l TRt,HK.l Ty.str] r1)
    (let r2:OD:=(y0j [.k 0,.n (0:Int),.l TS (gl Ty.str (dOf r1) 0),.l TPt (gl TPt (dOf r1) 1),.l TPt (gl TPt (dOf r1) 2),.l TRt (gl TRt (dOf r1) 3),.l TS (gl Ty.str (dOf r1) 4)]);
    (.node (isK 0 [HK.l Ty.str,HK.l TPt,HK.l TPt,HK.l TRt,HK.l Ty.str] r2)
     (let r3:OD:=(t0f [.k 0,.n (0:Int),.l TS (gl Ty.str (dOf r2) 0),.l TPt (gl TPt (dOf r2) 1),.l TPt (gl TPt (dOf r2) 2),.l TRt (gl TRt (dOf r2) 3),.l TS (gl Ty.str (dOf r2) 4)]);
     (.node (isK 0 [HK.l Ty.str] r3)
      (.leaf ((0,[.l TS (gl Ty.str (dOf r3) 0)])))
      (.bad 351)))
     (.bad 351)))
    (.bad 351)))
   (.bad 60))
 |_=>.bad 0
theorem e2i (l0:DS)(l1:DP)(l2:DP)(l3:DR):Imp (j2q [.l TS l0,.l TPt l1,.l TPt l2,.l TRt l3]) (t2k [.l TS l0,.l TPt l1,.l TPt l2,.l TRt l3]):=
(.nd (fun h0=>
(.nd (fun h1=>
(.nd (fun h2=>
(.nd (fun h3=>
(.pa [1]
.lf)) (fun h3=>
.none))) (fun h2=>
.none))) (fun h1=>
.none))) (fun h0=>
.none))
noncomputable def cs_41:FuncId→Option a0q:=a0s 60 B41 f2y
theorem y1v:CsOk Try.prog cs_41:=a0g u0k B41_ok
noncomputable def q2r (env:LDt):TD:=Lk.boxC false LK cs_41 59 ls0 (mkF [laV 0] [] [] [(.bool 0,[])] fun _=>none) env
noncomputable def l2o:OpT:=Classical.choose (opq (fun env=>(q2r env).sel))
theorem t1n (env:LDt):l2o env=(q2r env).sel:=Classical.choose_spec (opq (fun env=>(q2r env).sel)) env
noncomputable def B40:FBox:=mkF [laV 0] [] [] [(.bool 0,[])] l2o
theorem B40_ok:a0v Try.prog 59 (a0j B40):=a0p (op:=l2o) y1v hmix false (LsOk.none _ _ _) (fun env x h=>by rw[t1n]at h;rw[←boxC_lk];exact h)
noncomputable def g2v:LDt→TD
 |[.l TS l0,.l TPt l1,.l TPt l2,.l TRt l3]=>
  (.node (decide ((↑(List.length l0):Int)>(64:Int)))
   (.leaf ((0,[.b true])))
   (.node (decide ((↑(List.length l1):Int)>(32:Int)))
   (.leaf ((0,[.b true])))
   (.node (decide ((↑(List.length l2):Int)>(32:Int)))
    (.leaf ((0,[.b true])))
    (.leaf ((0,[.b (decide ((↑(List.length l3):Int)>(64:Int)))]))))))
 |_=>.bad 0
theorem e2o (l0:DS)(l1:DP)(l2:DP)(l3:DR):Imp (g2v [.l TS l0,.l TPt l1,.l TPt l2,.l TRt l3]) (q2r [.l TS l0,.l TPt l1,.l TPt l2,.l TRt l3]):=
(.nd (fun h0=>
(.pa [1,1,1,1,1,1]
.lf)) (fun h0=>
(.nd (fun h1=>
(.pa [1,1,1,1]
.lf)) (fun h1=>
(.nd (fun h2=>
(.pa [1,1]
.lf)) (fun h2=>
(.pa [1]
.lf)))))))
noncomputable def b2w:FuncId→Option a0q:=a0s 59 B40 cs_41
theorem u0i:CsOk Try.prog b2w:=a0g y1v B40_ok
def s4q (f:OpT):MBox:=mkM 0 [] [(sh 75 [(1,.ptr 0 0),(32,.imm TPt 0),(33,.int .i64 1),(34,.int .i64 2)],[laB 3])] [] [(.exit 0,sh 75 [(1,.ptr 0 0)],[laB 0]),(.ret,sh 75 [(2,.bool 0)],[])] f
noncomputable def n0n (env:LDt):Tree Step:=Lk.stepMC false LK b2w 89 4 ls0 (s4q fun _=>none) env
noncomputable def y0n:OpT:=Classical.choose (opq (a0b n0n FU))
theorem a1e (env:LDt):y0n env=a0b n0n FU env:=Classical.choose_spec (opq (a0b n0n FU)) env
noncomputable def q2w:MBox:=s4q y0n
theorem p2e:q2w=s4q (a0b n0n FU):=congrArg s4q (funext a1e)
theorem n2a: ∀t s x,(a0h q2w t s).sel=some x→a0k Try.prog 0 (.loop (cAt Try.prog 89 4)) t s x:=by
 rw[p2e]
 exact a0o (st:=n0n) (m:=FU) u0i hmix false (LsOk.none _ _ _) (by kernel_rfl) (fun env y h=>by rw[←stepMC_lk];exact h)
noncomputable def o0b:LDt→Tree Step
 |[.l TPt l0,.n n1,.n n2,.l TS l3,.l TPt l4,.l TPt l5,.l TRt l6]=>
  (.node (decide (n2<n1))
   (.node (decide ((Prod.snd (List.getD l0 (Int.toNat n2) (Ty.dflt TPt)):Int)≥(0:Int)))
   (.node (!decide ((Prod.snd (List.getD l0 (Int.toNat n2) (Ty.dflt TPt)):Int)<(↑(List.length l3):Int)))
    (.leaf (Step.stop 1 [.b false]))
    (.leaf (Step.go [.k 0,.l TPt l0,.n n1,.n (IntKind.wrap .i64 (n2+(1:Int))),.l TS l3,.l TPt l4,.l TPt l5,.l TRt l6])))
   (.leaf (Step.stop 1 [.b false])))
   (.leaf (Step.stop 0 [.l TS l3,.l TPt l4,.l TPt l5,.l TRt l6])))
 |_=>.bad 0
theorem k0r (l0:DP)(n1:Int)(n2:Int)(l3:DS)(l4:DP)(l5:DP)(l6:DR)(g0:0≤n2)(g1:n1=(l0.length:Int)):Imp (o0b [.l TPt l0,.n n1,.n n2,.l TS l3,.l TPt l4,.l TPt l5,.l TRt l6]) (n0n [.k 0,.l TPt l0,.n n1,.n n2,.l TS l3,.l TPt l4,.l TPt l5,.l TRt l6]):=
(.pa [1]
(.nd (fun h0=>
(.pq (c:=(inR n2 (List.length l0)))
(.pa [1]
(.nd (fun h1=>
(.pa [1]
(.nd (fun h2=>
(.pa [1]
.lf)) (fun h2=>
(.pa [1]
.lf))))) (fun h1=>
(.pa [0,1,1,1]
.lf)))))) (fun h0=>
(.pa [1]
.lf))))
def r4h (f:OpT):MBox:=mkM 0 [] [(sh 75 [(1,.ptr 0 0),(47,.imm TPt 0),(48,.int .i64 1),(49,.int .i64 2)],[laB 3])] [] [(.exit 2,sh 75 [(1,.ptr 0 0)],[laB 0]),(.ret,sh 75 [(2,.bool 0)],[])] f
noncomputable def i0d (env:LDt):Tree Step:=Lk.stepMC false LK b2w 89 10 ls0 (r4h fun _=>none) env
noncomputable def t0w:OpT:=Classical.choose (opq (a0b i0d FU))
theorem x0f (env:LDt):t0w env=a0b i0d FU env:=Classical.choose_spec (opq (a0b i0d FU)) env
noncomputable def w1w:MBox:=r4h t0w
theorem e2q:w1w=r4h (a0b i0d FU):=congrArg r4h (funext x0f)
theorem b2t: ∀t s x,(a0h w1w t s).sel=some x→a0k Try.prog 0 (.loop (cAt Try.prog 89 10)) t s x:=by
 rw[e2q]
 exact a0o (st:=i0d) (m:=FU) u0i hmix false (LsOk.none _ _ _) (by kernel_rfl) (fun env y h=>by rw[←stepMC_lk];exact h)
noncomputable def j0h:LDt→Tree Step
 |[.l TPt l0,.n n1,.n n2,.l TS l3,.l TPt l4,.l TPt l5,.l TRt l6]=>
  (.node (decide (n2<n1))
   (.node (decide ((Prod.snd (List.getD l0 (Int.toNat n2) (Ty.dflt TPt)):Int)≥(0:Int)))
   (.node (!decide ((Prod.snd (List.getD l0 (Int.toNat n2) (Ty.dflt TPt)):Int)<(↑(List.length l3):Int)))
    (.leaf (Step.stop 1 [.b false]))
    (.leaf (Step.go [.k 0,.l TPt l0,.n n1,.n (IntKind.wrap .i64 (n2+(1:Int))),.l TS l3,.l TPt l4,.l TPt l5,.l TRt l6])))
   (.leaf (Step.stop 1 [.b false])))
   (.leaf (Step.stop 0 [.l TS l3,.l TPt l4,.l TPt l5,.l TRt l6])))
 |_=>.bad 0
theorem i0a (l0:DP)(n1:Int)(n2:Int)(l3:DS)(l4:DP)(l5:DP)(l6:DR)(g0:0≤n2)(g1:n1=(l0.length:Int)):Imp (j0h [.l TPt l0,.n n1,.n n2,.l TS l3,.l TPt l4,.l TPt l5,.l TRt l6]) (i0d [.k 0,.l TPt l0,.n n1,.n n2,.l TS l3,.l TPt l4,.l TPt l5,.l TRt l6]):=
(.pa [1]
(.nd (fun h0=>
(.pq (c:=(inR n2 (List.length l0)))
(.pa [1]
(.nd (fun h1=>
(.pa [1]
(.nd (fun h2=>
(.pa [1]
.lf)) (fun h2=>
(.pa [1]
.lf))))) (fun h1=>
(.pa [0,1,1,1]
.lf)))))) (fun h0=>
(.pa [1]
.lf))))
def r4j (f:OpT):MBox:=mkM 0 [] [(sh 75 [(1,.ptr 0 0),(62,.imm TRt 0),(63,.int .i64 1),(64,.int .i64 2)],[laB 3])] [] [(.exit 4,sh 75 [(1,.ptr 0 0)],[laB 0]),(.ret,sh 75 [(2,.bool 0)],[])] f
noncomputable def i0v (env:LDt):Tree Step:=Lk.stepMC false LK b2w 89 16 ls0 (r4j fun _=>none) env
noncomputable def r0y:OpT:=Classical.choose (opq (a0b i0v FU))
theorem w0q (env:LDt):r0y env=a0b i0v FU env:=Classical.choose_spec (opq (a0b i0v FU)) env
noncomputable def u1q:MBox:=r4j r0y
theorem d2y:u1q=r4j (a0b i0v FU):=congrArg r4j (funext w0q)
theorem d2p: ∀t s x,(a0h u1q t s).sel=some x→a0k Try.prog 0 (.loop (cAt Try.prog 89 16)) t s x:=by
 rw[d2y]
 exact a0o (st:=i0v) (m:=FU) u0i hmix false (LsOk.none _ _ _) (by kernel_rfl) (fun env y h=>by rw[←stepMC_lk];exact h)
noncomputable def j0s:LDt→Tree Step
 |[.l TRt l0,.n n1,.n n2,.l TS l3,.l TPt l4,.l TPt l5,.l TRt l6]=>
  (.node (decide (n2<n1))
   (let r1:OD:=(i2m [.l TS l3,.l TPt l4,.l TPt l5,.l TRt l6,.s (Prod.fst (List.getD l0 (Int.toNat n2) (Ty.dflt TRt))),.n (Prod.fst (Prod.snd (List.getD l0 (Int.toNat n2) (Ty.dflt TRt)))),.l TI (Prod.fst (Prod.snd (Prod.snd (List.getD l0 (Int.toNat n2) (Ty.dflt TRt))))),.l TNd (Prod.fst (Prod.snd (Prod.snd (Prod.snd (List.getD l0 (Int.toNat n2) (Ty.dflt TRt)))))),.l TI (Prod.fst (Prod.snd (Prod.snd (Prod.snd (Prod.snd (List.getD l0 (Int.toNat n2) (Ty.dflt TRt))))))),.l TNd (Prod.snd (Prod.snd (Prod.snd (Prod.snd (Prod.snd (List.getD l0 (Int.toNat n2) (Ty.dflt TRt)))))))]);
   (.node (isK 0 [HK.b] r1)
    (.node (!gb (dOf r1) 0)
    (.leaf (Step.stop 1 [.b false]))
    (.leaf (Step.go [.k 0,.l TRt l0,.n n1,.n (IntKind.wrap .i64 (n2+(1:Int))),.l TS l3,.l TPt l4,.l TPt l5,.l TRt l6])))
    (.bad 351)))
   (.leaf (Step.stop 0 [.l TS l3,.l TPt l4,.l TPt l5,.l TRt l6])))
 |_=>.bad 0
theorem i0b (l0:DR)(n1:Int)(n2:Int)(l3:DS)(l4:DP)(l5:DP)(l6:DR)(g0:0≤n2)(g1:n1=(l0.length:Int)):Imp (j0s [.l TRt l0,.n n1,.n n2,.l TS l3,.l TPt l4,.l TPt l5,.l TRt l6]) (i0v [.k 0,.l TRt l0,.n n1,.n n2,.l TS l3,.l TPt l4,.l TPt l5,.l TRt l6]):=
(.pa [1]
(.nd (fun h0=>
(.pq (c:=(inR n2 (List.length l0)))
(.nd (fun h1=>
(.pa [1]
(.nd (fun h2=>
(.pa [1]
.lf)) (fun h2=>
(.pa [1]
.lf))))) (fun h1=>
.none)))) (fun h0=>
(.pa [1]
.lf))))
theorem u2j:LsOk Try.prog (z0) (lsM [(4,q2w),(10,w1w),(16,u1q)] (z0)) (a0r Try.prog 89):=LsOk.many fun j B hB hk c hc hi=>by
 simp only[b0d]at hB
 split at hB
 ·rename_i e;have:=Nat.eq_of_beq_eq_true e;subst this;cases hB
  rw[a0y (f:=89) (i:=4) (a0e (by kernel_rfl)) (a0d hc hi)];exact n2a
 split at hB
 ·rename_i e;have:=Nat.eq_of_beq_eq_true e;subst this;cases hB
  rw[a0y (f:=89) (i:=10) (a0e (by kernel_rfl)) (a0d hc hi)];exact b2t
 split at hB
 ·rename_i e;have:=Nat.eq_of_beq_eq_true e;subst this;cases hB
  rw[a0y (f:=89) (i:=16) (a0e (by kernel_rfl)) (a0d hc hi)];exact d2p
 cases hB
noncomputable def r2p (env:LDt):TD:=Lk.boxC false LK b2w 89 (lsM [(4,q2w),(10,w1w),(16,u1q)] (z0)) (mkF [laV 0] [] [] [(.bool 0,[])] fun _=>none) env
noncomputable def g2g:OpT:=Classical.choose (opq (fun env=>(r2p env).sel))
theorem v1e (env:LDt):g2g env=(r2p env).sel:=Classical.choose_spec (opq (fun env=>(r2p env).sel)) env
noncomputable def B26:FBox:=mkF [laV 0] [] [] [(.bool 0,[])] g2g
theorem B26_ok:a0v Try.prog 89 (a0j B26):=a0p (op:=g2g) u0i hmix false (u2j) (fun env x h=>by rw[v1e]at h;rw[←boxC_lk];exact h)
noncomputable def h2t:LDt→TD
 |[.l TS l0,.l TPt l1,.l TPt l2,.l TRt l3]=>
  (.node (decide ((↑(List.length l0):Int)>(64:Int)))
   (.leaf ((0,[.b false])))
   (.node (decide ((↑(List.length l1):Int)>(32:Int)))
   (.leaf ((0,[.b false])))
   (.node (decide ((↑(List.length l2):Int)>(32:Int)))
    (.leaf ((0,[.b false])))
    (.node (decide ((↑(List.length l3):Int)>(64:Int)))
    (.leaf ((0,[.b false])))
    (let r1:OD:=(y0n [.k 0,.l TPt l1,.n (↑(List.length l1):Int),.n (0:Int),.l TS l0,.l TPt l1,.l TPt l2,.l TRt l3]);
     (.node (isK 0 [HK.l Ty.str,HK.l TPt,HK.l TPt,HK.l TRt] r1)
     (let r2:OD:=(t0w [.k 0,.l TPt (gl TPt (dOf r1) 2),.n (↑(List.length (gl TPt (dOf r1) 2)):Int),.n (0:Int),.l TS (gl Ty.str (dOf r1) 0),.l TPt (gl TPt (dOf r1) 1),.l TPt (gl TPt (dOf r1) 2),.l TRt (gl TRt (dOf r1) 3)]);
      (.node (isK 0 [HK.l Ty.str,HK.l TPt,HK.l TPt,HK.l TRt] r2)
      (let r3:OD:=(r0y [.k 0,.l TRt (gl TRt (dOf r2) 3),.n (↑(List.length (gl TRt (dOf r2) 3)):Int),.n (0:Int),.l TS (gl Ty.str (dOf r2) 0),.l TPt (gl TPt (dOf r2) 1),.l TPt (gl TPt (dOf r2) 2),.l TRt (gl TRt (dOf r2) 3)]);
       (.node (isK 0 [HK.l Ty.str,HK.l TPt,HK.l TPt,HK.l TRt] r3)
       (let r4:OD:=(g2y [.l TS (gl Ty.str (dOf r3) 0),.l TPt (gl TPt (dOf r3) 1),.l TPt (gl TPt (dOf r3) 2),.l TRt (gl TRt (dOf r3) 3)]);
        (.node (isK 0 [HK.b] r4)
        (.leaf ((0,[.b (gb (dOf r4) 0)])))
        (.bad 351)))
       (.node (isK 1 [HK.b] r3)
        (.leaf ((0,[.b (gb (dOf r3) 0)])))
        (.bad 351))))
      (.node (isK 1 [HK.b] r2)
       (.leaf ((0,[.b (gb (dOf r2) 0)])))
       (.bad 351))))
     (.node (isK 1 [HK.b] r1)
      (.leaf ((0,[.b (gb (dOf r1) 0)])))
      (.bad 351))))))))
 |_=>.bad 0
theorem e2b (l0:DS)(l1:DP)(l2:DP)(l3:DR):Imp (h2t [.l TS l0,.l TPt l1,.l TPt l2,.l TRt l3]) (r2p [.l TS l0,.l TPt l1,.l TPt l2,.l TRt l3]):=
(.nd (fun h0=>
(.pa [1,1,1,1,1,1,1]
.lf)) (fun h0=>
(.nd (fun h1=>
(.pa [1,1,1,1,1]
.lf)) (fun h1=>
(.nd (fun h2=>
(.pa [1,1,1]
.lf)) (fun h2=>
(.nd (fun h3=>
(.pa [1]
.lf)) (fun h3=>
(.nd (fun h4=>
(.nd (fun h5=>
(.nd (fun h6=>
(.nd (fun h7=>
(.pa [1,1]
.lf)) (fun h7=>
.none))) (fun h6=>
(.nd (fun h7=>
(.pa [1]
.lf)) (fun h7=>
.none))))) (fun h5=>
(.nd (fun h6=>
(.pa [1]
.lf)) (fun h6=>
.none))))) (fun h4=>
(.nd (fun h5=>
(.pa [1]
.lf)) (fun h5=>
.none))))))))))))
noncomputable def s1x:FuncId→Option a0q:=a0s 89 B26 b2w
theorem n0g:CsOk Try.prog s1x:=a0g u0i B26_ok
def s4c (f:OpT):MBox:=mkM 0 [] [(sh 132 [(1,.ptr 0 0),(3,.own 1),(4,.int .i64 0)],[laB 1,.arr TS 5])] [] [(.exit 0,sh 132 [(1,.ptr 0 0)],[laB 0]),(.ret,sh 132 [(2,.bool 0)],[])] f
noncomputable def n0e (env:LDt):Tree Step:=Lk.stepMC false LK s1x 32 5 ls0 (s4c fun _=>none) env
noncomputable def z0g:OpT:=Classical.choose (opq (a0b n0e FU))
theorem c1h (env:LDt):z0g env=a0b n0e FU env:=Classical.choose_spec (opq (a0b n0e FU)) env
noncomputable def u2y:MBox:=s4c z0g
theorem i2z:u2y=s4c (a0b n0e FU):=congrArg s4c (funext c1h)
theorem o2l: ∀t s x,(a0h u2y t s).sel=some x→a0k Try.prog 0 (.loop (cAt Try.prog 32 5)) t s x:=by
 rw[i2z]
 exact a0o (st:=n0e) (m:=FU) n0g hmix false (LsOk.none _ _ _) (by kernel_rfl) (fun env y h=>by rw[←stepMC_lk];exact h)
noncomputable def n0q:LDt→Tree Step
 |[.n n0,.l TS l1,.l TPt l2,.l TPt l3,.l TRt l4,.l TS l5]=>
  (.node (decide (n0<(↑(List.length l5):Int)))
   (let r1:OD:=(o2p [.s (List.getD l5 (Int.toNat n0) (Ty.dflt Ty.str))]);
   (.node (isK 0 [HK.b] r1)
    (.node (!gb (dOf r1) 0)
    (.leaf (Step.stop 1 [.b false]))
    (let r2:OD:=(c2l [.l TS (List.take (Int.toNat n0-0) (List.drop 0 l5)),.s (List.getD l5 (Int.toNat n0) (Ty.dflt Ty.str))]);
     (.node (isK 0 [HK.n] r2)
     (.node (decide (gn (dOf r2) 0≥(0:Int)))
      (.leaf (Step.stop 1 [.b false]))
      (.leaf (Step.go [.k 0,.n (IntKind.wrap .i64 (n0+(1:Int))),.l TS l1,.l TPt l2,.l TPt l3,.l TRt l4,.l TS l5])))
     (.bad 351))))
    (.bad 351)))
   (.leaf (Step.stop 0 [.l TS l1,.l TPt l2,.l TPt l3,.l TRt l4])))
 |_=>.bad 0
theorem j0j (n0:Int)(l1:DS)(l2:DP)(l3:DP)(l4:DR)(l5:DS)(g0:0≤n0):Imp (n0q [.n n0,.l TS l1,.l TPt l2,.l TPt l3,.l TRt l4,.l TS l5]) (n0e [.k 0,.n n0,.l TS l1,.l TPt l2,.l TPt l3,.l TRt l4,.l TS l5]):=
(.pa [1]
(.nd (fun h0=>
(.pq (c:=(inR n0 (List.length l5)))
(.nd (fun h1=>
(.pa [1]
(.nd (fun h2=>
(.pa [1,1,1,1]
.lf)) (fun h2=>
(.pq (c:=(decide ((0:Int)≤n0)&&decide (n0≤(↑(List.length l5):Int))))
(.pt (c:=(true&&decide ((0:Int)≤n0))) (by kernel_rfl) (by kernel_rfl) (by(simp[*];done))
(.pq (c:=(inR n0 (List.length l5)))
(.nd (fun h3=>
(.pa [1,1]
(.nd (fun h4=>
(.pa [1]
.lf)) (fun h4=>
(.pa [1]
.lf))))) (fun h3=>
.none))))))))) (fun h1=>
.none)))) (fun h0=>
(.pa [1]
.lf))))
def r4m (f:OpT):MBox:=mkM 0 [] [(sh 132 [(1,.ptr 0 0),(5,.int .i64 0)],[laB 1])] [] [(.exit 2,sh 132 [(1,.ptr 0 0)],[laB 0]),(.ret,sh 132 [(2,.bool 0)],[])] f
noncomputable def i0z (env:LDt):Tree Step:=Lk.stepMC false LK s1x 32 10 ls0 (r4m fun _=>none) env
noncomputable def s0b:OpT:=Classical.choose (opq (a0b i0z FU))
theorem w0i (env:LDt):s0b env=a0b i0z FU env:=Classical.choose_spec (opq (a0b i0z FU)) env
noncomputable def x1g:MBox:=r4m s0b
theorem c2b:x1g=r4m (a0b i0z FU):=congrArg r4m (funext w0i)
theorem f2t: ∀t s x,(a0h x1g t s).sel=some x→a0k Try.prog 0 (.loop (cAt Try.prog 32 10)) t s x:=by
 rw[c2b]
 exact a0o (st:=i0z) (m:=FU) n0g hmix false (LsOk.none _ _ _) (by kernel_rfl) (fun env y h=>by rw[←stepMC_lk];exact h)
noncomputable def j0w:LDt→Tree Step
 |[.n n0,.l TS l1,.l TPt l2,.l TPt l3,.l TRt l4]=>
  (.node (decide (n0<(↑(List.length l2):Int)))
   (let r1:OD:=(a1t [.l TI [Prod.snd (List.getD l2 (Int.toNat n0) (Ty.dflt TPt))],.n (↑(List.length l1):Int)]);
   (.node (isK 0 [HK.b] r1)
    (.node (!gb (dOf r1) 0)
    (.leaf (Step.stop 1 [.b false]))
    (.leaf (Step.go [.k 0,.n (IntKind.wrap .i64 (n0+(1:Int))),.l TS l1,.l TPt l2,.l TPt l3,.l TRt l4])))
    (.bad 351)))
   (.leaf (Step.stop 0 [.l TS l1,.l TPt l2,.l TPt l3,.l TRt l4])))
 |_=>.bad 0
theorem h0n (n0:Int)(l1:DS)(l2:DP)(l3:DP)(l4:DR)(g0:0≤n0):Imp (j0w [.n n0,.l TS l1,.l TPt l2,.l TPt l3,.l TRt l4]) (i0z [.k 0,.n n0,.l TS l1,.l TPt l2,.l TPt l3,.l TRt l4]):=
(.pa [1]
(.nd (fun h0=>
(.pq (c:=(inR n0 (List.length l2)))
(.nd (fun h1=>
(.pa [1,1]
(.nd (fun h2=>
(.pa [1]
.lf)) (fun h2=>
(.pa [1]
.lf))))) (fun h1=>
.none)))) (fun h0=>
(.pa [1]
.lf))))
def r4b (f:OpT):MBox:=mkM 0 [] [(sh 132 [(1,.ptr 0 0),(6,.int .i64 0)],[laB 1])] [] [(.exit 4,sh 132 [(1,.ptr 0 0)],[laB 0]),(.ret,sh 132 [(2,.bool 0)],[])] f
noncomputable def i0i (env:LDt):Tree Step:=Lk.stepMC false LK s1x 32 15 ls0 (r4b fun _=>none) env
noncomputable def u0n:OpT:=Classical.choose (opq (a0b i0i FU))
theorem x0c (env:LDt):u0n env=a0b i0i FU env:=Classical.choose_spec (opq (a0b i0i FU)) env
noncomputable def u1m:MBox:=r4b u0n
theorem d2w:u1m=r4b (a0b i0i FU):=congrArg r4b (funext x0c)
theorem c2o: ∀t s x,(a0h u1m t s).sel=some x→a0k Try.prog 0 (.loop (cAt Try.prog 32 15)) t s x:=by
 rw[d2w]
 exact a0o (st:=i0i) (m:=FU) n0g hmix false (LsOk.none _ _ _) (by kernel_rfl) (fun env y h=>by rw[←stepMC_lk];exact h)
noncomputable def l0l:LDt→Tree Step
 |[.n n0,.l TS l1,.l TPt l2,.l TPt l3,.l TRt l4]=>
  (.node (decide (n0<(↑(List.length l3):Int)))
   (let r1:OD:=(a1t [.l TI [Prod.snd (List.getD l3 (Int.toNat n0) (Ty.dflt TPt))],.n (↑(List.length l1):Int)]);
   (.node (isK 0 [HK.b] r1)
    (.node (!gb (dOf r1) 0)
    (.leaf (Step.stop 1 [.b false]))
    (.leaf (Step.go [.k 0,.n (IntKind.wrap .i64 (n0+(1:Int))),.l TS l1,.l TPt l2,.l TPt l3,.l TRt l4])))
    (.bad 351)))
   (.leaf (Step.stop 0 [.l TS l1,.l TPt l2,.l TPt l3,.l TRt l4])))
 |_=>.bad 0
theorem h0u (n0:Int)(l1:DS)(l2:DP)(l3:DP)(l4:DR)(g0:0≤n0):Imp (l0l [.n n0,.l TS l1,.l TPt l2,.l TPt l3,.l TRt l4]) (i0i [.k 0,.n n0,.l TS l1,.l TPt l2,.l TPt l3,.l TRt l4]):=
(.pa [1]
(.nd (fun h0=>
(.pq (c:=(inR n0 (List.length l3)))
(.nd (fun h1=>
(.pa [1,1]
(.nd (fun h2=>
(.pa [1]
.lf)) (fun h2=>
(.pa [1]
.lf))))) (fun h1=>
.none)))) (fun h0=>
(.pa [1]
.lf))))
def r4i (f:OpT):MBox:=mkM 0 [] [(sh 132 [(1,.ptr 0 0),(7,.int .i64 0)],[laB 1])] [] [(.exit 6,sh 132 [],[]),(.ret,sh 132 [(2,.bool 0)],[])] f
noncomputable def g0r (env:LDt):Tree Step:=Lk.stepMC false LK s1x 32 20 ls0 (r4i fun _=>none) env
noncomputable def u0f:OpT:=Classical.choose (opq (a0b g0r FU))
theorem x0b (env:LDt):u0f env=a0b g0r FU env:=Classical.choose_spec (opq (a0b g0r FU)) env
noncomputable def w1s:MBox:=r4i u0f
theorem f2k:w1s=r4i (a0b g0r FU):=congrArg r4i (funext x0b)
theorem b2f: ∀t s x,(a0h w1s t s).sel=some x→a0k Try.prog 0 (.loop (cAt Try.prog 32 20)) t s x:=by
 rw[f2k]
 exact a0o (st:=g0r) (m:=FU) n0g hmix false (LsOk.none _ _ _) (by kernel_rfl) (fun env y h=>by rw[←stepMC_lk];exact h)
noncomputable def q0n:LDt→Tree Step
 |[.n n0,.l TS l1,.l TPt l2,.l TPt l3,.l TRt l4]=>
  (.node (decide (n0<(↑(List.length l4):Int)))
   (let r1:OD:=(a1t [.l TI [Prod.fst (Prod.snd (List.getD l4 (Int.toNat n0) (Ty.dflt TRt)))],.n (↑(List.length l3):Int)]);
   (.node (isK 0 [HK.b] r1)
    (.node (!gb (dOf r1) 0)
    (.leaf (Step.stop 1 [.b false]))
    (let r2:OD:=(a1t [.l TI (Prod.fst (Prod.snd (Prod.snd (List.getD l4 (Int.toNat n0) (Ty.dflt TRt))))),.n (↑(List.length l1):Int)]);
     (.node (isK 0 [HK.b] r2)
     (.node (!gb (dOf r2) 0)
      (.leaf (Step.stop 1 [.b false]))
      (let r3:OD:=(a1t [.l TI (Prod.fst (Prod.snd (Prod.snd (Prod.snd (Prod.snd (List.getD l4 (Int.toNat n0) (Ty.dflt TRt))))))),.n (↑(List.length l1):Int)]);
      (.node (isK 0 [HK.b] r3)
       (.node (!gb (dOf r3) 0)
       (.leaf (Step.stop 1 [.b false]))
       (let r4:OD:=(e2f [.l TNd (Prod.fst (Prod.snd (Prod.snd (Prod.snd (List.getD l4 (Int.toNat n0) (Ty.dflt TRt))))))]);
        (.node (isK 0 [HK.l TI] r4)
        (let r5:OD:=(a1t [.l TI (gl TI (dOf r4) 0),.n (↑(List.length l2):Int)]);
         (.node (isK 0 [HK.b] r5)
         (.node (!gb (dOf r5) 0)
          (.leaf (Step.stop 1 [.b false]))
          (let r6:OD:=(e2f [.l TNd (Prod.snd (Prod.snd (Prod.snd (Prod.snd (Prod.snd (List.getD l4 (Int.toNat n0) (Ty.dflt TRt)))))))]);
          (.node (isK 0 [HK.l TI] r6)
           (let r7:OD:=(a1t [.l TI (gl TI (dOf r6) 0),.n (↑(List.length l2):Int)]);
           (.node (isK 0 [HK.b] r7)
            (.node (!gb (dOf r7) 0)
            (.leaf (Step.stop 1 [.b false]))
            (.leaf (Step.go [.k 0,.n (IntKind.wrap .i64 (n0+(1:Int))),.l TS l1,.l TPt l2,.l TPt l3,.l TRt l4])))
            (.bad 351)))
           (.bad 351))))
         (.bad 351)))
        (.bad 351))))
       (.bad 351))))
     (.bad 351))))
    (.bad 351)))
   (.leaf (Step.stop 0 [])))
 |_=>.bad 0
theorem p0r (n0:Int)(l1:DS)(l2:DP)(l3:DP)(l4:DR)(g0:0≤n0):Imp (q0n [.n n0,.l TS l1,.l TPt l2,.l TPt l3,.l TRt l4]) (g0r [.k 0,.n n0,.l TS l1,.l TPt l2,.l TPt l3,.l TRt l4]):=
(.pa [1]
(.nd (fun h0=>
(.pq (c:=(inR n0 (List.length l4)))
(.nd (fun h1=>
(.pa [1]
(.nd (fun h2=>
(.pa [1,1,1,1,1,1,1,1,1,1]
.lf)) (fun h2=>
(.nd (fun h3=>
(.pa [1]
(.nd (fun h4=>
(.pa [1,1,1,1,1,1,1,1]
.lf)) (fun h4=>
(.nd (fun h5=>
(.pa [1]
(.nd (fun h6=>
(.pa [1,1,1,1,1,1]
.lf)) (fun h6=>
(.nd (fun h7=>
(.pa [1]
(.nd (fun h8=>
(.pa [1]
(.nd (fun h9=>
(.pa [1,1,1,1]
.lf)) (fun h9=>
(.nd (fun h10=>
(.pa [1]
(.nd (fun h11=>
(.pa [1,1]
(.nd (fun h12=>
(.pa [1]
.lf)) (fun h12=>
(.pa [1]
.lf))))) (fun h11=>
.none)))) (fun h10=>
.none)))))) (fun h8=>
.none)))) (fun h7=>
.none)))))) (fun h5=>
.none)))))) (fun h3=>
.none)))))) (fun h1=>
.none)))) (fun h0=>
(.pa [1]
.lf))))
theorem u2i:LsOk Try.prog (z0) (lsM [(5,u2y),(10,x1g),(15,u1m),(20,w1s)] (z0)) (a0r Try.prog 32):=LsOk.many fun j B hB hk c hc hi=>by
 simp only[b0d]at hB
 split at hB
 ·rename_i e;have:=Nat.eq_of_beq_eq_true e;subst this;cases hB
  rw[a0y (f:=32) (i:=5) (a0e (by kernel_rfl)) (a0d hc hi)];exact o2l
 split at hB
 ·rename_i e;have:=Nat.eq_of_beq_eq_true e;subst this;cases hB
  rw[a0y (f:=32) (i:=10) (a0e (by kernel_rfl)) (a0d hc hi)];exact f2t
 split at hB
 ·rename_i e;have:=Nat.eq_of_beq_eq_true e;subst this;cases hB
  rw[a0y (f:=32) (i:=15) (a0e (by kernel_rfl)) (a0d hc hi)];exact c2o
 split at hB
 ·rename_i e;have:=Nat.eq_of_beq_eq_true e;subst this;cases hB
  rw[a0y (f:=32) (i:=20) (a0e (by kernel_rfl)) (a0d hc hi)];exact b2f
 cases hB
noncomputable def q2i (env:LDt):TD:=Lk.boxC false LK s1x 32 (lsM [(5,u2y),(10,x1g),(15,u1m),(20,w1s)] (z0)) (mkF [laV 0] [] [] [(.bool 0,[])] fun _=>none) env
noncomputable def b2n:OpT:=Classical.choose (opq (fun env=>(q2i env).sel))
theorem w1a (env:LDt):b2n env=(q2i env).sel:=Classical.choose_spec (opq (fun env=>(q2i env).sel)) env
noncomputable def B28:FBox:=mkF [laV 0] [] [] [(.bool 0,[])] b2n
theorem B28_ok:a0v Try.prog 32 (a0j B28):=a0p (op:=b2n) n0g hmix false (u2i) (fun env x h=>by rw[w1a]at h;rw[←boxC_lk];exact h)
noncomputable def m2p:LDt→TD
 |[.l TS l0,.l TPt l1,.l TPt l2,.l TRt l3]=>
  (let r1:OD:=(l2o [.l TS l0,.l TPt l1,.l TPt l2,.l TRt l3]);
   (.node (isK 0 [HK.b] r1)
   (.node (gb (dOf r1) 0)
    (.leaf ((0,[.b false])))
    (let r2:OD:=(k2f [.l TS l0,.l TPt l1,.l TPt l2,.l TRt l3]);
    (.node (isK 0 [HK.l Ty.str] r2)
     (let r3:OD:=(z0g [.k 0,.n (0:Int),.l TS l0,.l TPt l1,.l TPt l2,.l TRt l3,.l TS (gl Ty.str (dOf r2) 0)]);
     (.node (isK 0 [HK.l Ty.str,HK.l TPt,HK.l TPt,HK.l TRt] r3)
      (let r4:OD:=(s0b [.k 0,.n (0:Int),.l TS (gl Ty.str (dOf r3) 0),.l TPt (gl TPt (dOf r3) 1),.l TPt (gl TPt (dOf r3) 2),.l TRt (gl TRt (dOf r3) 3)]);
      (.node (isK 0 [HK.l Ty.str,HK.l TPt,HK.l TPt,HK.l TRt] r4)
       (let r5:OD:=(u0n [.k 0,.n (0:Int),.l TS (gl Ty.str (dOf r4) 0),.l TPt (gl TPt (dOf r4) 1),.l TPt (gl TPt (dOf r4) 2),.l TRt (gl TRt (dOf r4) 3)]);
       (.node (isK 0 [HK.l Ty.str,HK.l TPt,HK.l TPt,HK.l TRt] r5)
        (let r6:OD:=(u0f [.k 0,.n (0:Int),.l TS (gl Ty.str (dOf r5) 0),.l TPt (gl TPt (dOf r5) 1),.l TPt (gl TPt (dOf r5) 2),.l TRt (gl TRt (dOf r5) 3)]);
        (.node (isK 0 [] r6)
         (.leaf ((0,[.b true])))
         (.node (isK 1 [HK.b] r6)
         (.leaf ((0,[.b (gb (dOf r6) 0)])))
         (.bad 351))))
        (.node (isK 1 [HK.b] r5)
        (.leaf ((0,[.b (gb (dOf r5) 0)])))
        (.bad 351))))
       (.node (isK 1 [HK.b] r4)
       (.leaf ((0,[.b (gb (dOf r4) 0)])))
       (.bad 351))))
      (.node (isK 1 [HK.b] r3)
      (.leaf ((0,[.b (gb (dOf r3) 0)])))
      (.bad 351))))
     (.bad 351))))
   (.bad 351)))
 |_=>.bad 0
theorem f2n (l0:DS)(l1:DP)(l2:DP)(l3:DR):Imp (m2p [.l TS l0,.l TPt l1,.l TPt l2,.l TRt l3]) (q2i [.l TS l0,.l TPt l1,.l TPt l2,.l TRt l3]):=
(.nd (fun h0=>
(.pa [1]
(.nd (fun h1=>
(.pa [1]
.lf)) (fun h1=>
(.nd (fun h2=>
(.pa [1]
(.nd (fun h3=>
(.nd (fun h4=>
(.nd (fun h5=>
(.nd (fun h6=>
(.pa [1]
.lf)) (fun h6=>
(.nd (fun h7=>
(.pa [1]
.lf)) (fun h7=>
.none))))) (fun h5=>
(.nd (fun h6=>
(.pa [1]
.lf)) (fun h6=>
.none))))) (fun h4=>
(.nd (fun h5=>
(.pa [1]
.lf)) (fun h5=>
.none))))) (fun h3=>
(.nd (fun h4=>
(.pa [1]
.lf)) (fun h4=>
.none)))))) (fun h2=>
.none)))))) (fun h0=>
.none))
noncomputable def cs_28:FuncId→Option a0q:=a0s 32 B28 s1x
theorem y1m:CsOk Try.prog cs_28:=a0g n0g B28_ok
end Go.Proofs.Ytdmlmhomcmiodaa.Vx
