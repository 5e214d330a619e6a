import Derived.Test.YtcbhgaeiokfcdaaVxIm
import Derived.Test.YtcbhgaeiokfcdaaVxLk
import Derived.Test.YtcbhgaeiokfcdaaVxLaw
import Derived.KernelRfl
namespace Go.Proofs.Ytcbhgaeiokfcdaa.Vx
open Go Go.RowKit
set_option linter.unusedVariables false
set_option linter.unusedSimpArgs false
set_option maxRecDepth 100000
set_option maxHeartbeats 0
@[match_pattern] abbrev TS:Ty:=.str
@[match_pattern] abbrev TI:Ty:=.int .i64
@[match_pattern] abbrev TNd:Ty:=.pair (.int .i64) .bool
@[match_pattern] abbrev TPt:Ty:=.pair .str (.int .i64)
@[match_pattern] abbrev TRt:Ty:=.pair .str (.pair (.int .i64) (.pair (.sl (.int .i64)) (.pair (.sl (.pair (.int .i64) .bool)) (.pair (.sl (.int .i64)) (.sl (.pair (.int .i64) .bool))))))
abbrev DS:=List (Ty.den TS)
abbrev DI:=List (Ty.den TI)
abbrev DP:=List (Ty.den TPt)
abbrev DR:=List (Ty.den TRt)
abbrev DD:=List (Ty.den TNd)
abbrev LDt:=List Dat
abbrev OD:=Option (Nat×List Dat)
abbrev TD:=Tree (Nat×List Dat)
abbrev OpT:=List Dat→Option (Nat×List Dat)
abbrev z0:Nat:=List.length ([]:List PB)
theorem opq (g:OpT): ∃f:OpT,∀env,f env=g env:=⟨g,fun _=>rfl⟩
theorem Imp.pq {α:Type}{T x:Tree α}{c:Bool}(a:Imp T x.th)(h:x.isNode=true:=by kernel_rfl)(e:x.cd=c:=by kernel_rfl)(k:c=true:=by(simp only[w64d,decide_eq_true_eq,decide_eq_false_iff_not,beq_iff_eq,beq_eq_false_iff_ne,bne_iff_ne,ne_eq,inR,Bool.and_eq_true,Bool.and_eq_false_iff,Bool.not_eq_true',Bool.not_eq_false',Bool.not_eq_eq_eq_not,Bool.not_true,Bool.not_false]at*;omega)):Imp T x:=.pt h e k a
theorem b0u {f i:Nat}{c:Code}(e:n0y Try.prog f i=[cAt Try.prog f i])(h:c∈n0y Try.prog f i):c=cAt Try.prog f i:=by rw[e]at h;exact List.mem_singleton.1 h
def mgI (k:ByteArray)(l:DP):Int:=mget Ty.str TI k l
theorem Imp.nd {α:Type}{T E x:Tree α}{c:Bool}(a:c=true→Imp T x.th)(b:c=false→Imp E x.el)(h:x.isNode=true:=by kernel_rfl)(e:x.cd=c:=by kernel_rfl):Imp (.node c T E) x:=.node h e a b
theorem Imp.lf {α:Type}{x:Tree α}{y:α}(h:x.sel=some y:=by kernel_rfl):Imp (.leaf y) x:=.leaf h
theorem Imp.pa {α:Type}{T x:Tree α}(l:List Nat)(a:Imp T (x.walk l))(h:x.okPath l=true:=by kernel_rfl):Imp T x:=.path l h a
def laV (h:Nat):PV:=.agg [.imm TS h,.imm TPt (h+1),.imm TPt (h+2),.imm TRt (h+3)]
def laB (h:Nat):PB:=.cells [.imm TS h,.imm TPt (h+1),.imm TPt (h+2),.imm TRt (h+3)]
theorem hmix:Try.prog.follows .mixedOrders=true:=by kernel_rfl
theorem w0k:CsOk Try.prog h0p:=a1v _
noncomputable def k3v (env:LDt):TD:=Lk.boxC false LK h0p 136 ls0 (mkF [.int .i32 0] [] [] [(.bool 0,[])] fun _=>none) env
noncomputable def e3f:OpT:=Classical.choose (opq (fun env=>(k3v env).sel))
theorem c2m (env:LDt):e3f env=(k3v env).sel:=Classical.choose_spec (opq (fun env=>(k3v env).sel)) env
noncomputable def B60:FBox:=mkF [.int .i32 0] [] [] [(.bool 0,[])] e3f
theorem B60_ok:a0x Try.prog 136 (a0i B60):=b0c (op:=e3f) w0k hmix false (LsOk.none _ _ _) (fun env x h=>by rw[c2m]at h;rw[←boxC_lk];exact h)
noncomputable def u2x:LDt→TD
 |[.n n0]=>
  (.node (n0==(58:Int))
   (.leaf ((0,[.b false])))
   (.node (n0==(35:Int))
   (.leaf ((0,[.b false])))
   (.node (n0==(43:Int))
    (.leaf ((0,[.b false])))
    (.node (n0==(45:Int))
    (.leaf ((0,[.b false])))
    (.node (n0==(65533:Int))
     (.leaf ((0,[.b false])))
     (.node (decide (n0>(32:Int)))
     (.node (decide (n0<(127:Int)))
      (.leaf ((0,[.b true])))
      (.leaf ((0,[.b (decide (n0>(160:Int)))]))))
     (.leaf ((0,[.b false])))))))))
 |_=>.bad 0
theorem o2o (n0:Int):Imp (u2x [.n n0]) (k3v [.n n0]):=
(.nd (fun h0=>
(.pt (by kernel_rfl) (by kernel_rfl) h0
(.pa [1]
.lf))) (fun h0=>
(.nd (fun h1=>
(.pt (by kernel_rfl) (by kernel_rfl) h1
(.pa [1]
.lf))) (fun h1=>
(.nd (fun h2=>
(.pt (by kernel_rfl) (by kernel_rfl) h2
(.pa [1]
.lf))) (fun h2=>
(.nd (fun h3=>
(.pt (by kernel_rfl) (by kernel_rfl) h3
(.pa [1]
.lf))) (fun h3=>
(.nd (fun h4=>
(.pa [1]
.lf)) (fun h4=>
(.nd (fun h5=>
(.nd (fun h6=>
(.pa [1,1]
.lf)) (fun h6=>
(.pa [1]
.lf)))) (fun h5=>
(.pa [0,1]
.lf)))))))))))))
noncomputable def cs_60:FuncId→Option a0f:=a0k 136 B60 h0p
theorem f2j:CsOk Try.prog cs_60:=a0h w0k B60_ok
noncomputable def h3v (env:LDt):TD:=Lk.boxC false LK cs_60 98 ls0 (mkF [.int .i32 0] [] [] [(.bool 0,[])] fun _=>none) env
noncomputable def c3b:OpT:=Classical.choose (opq (fun env=>(h3v env).sel))
theorem b2g (env:LDt):c3b env=(h3v env).sel:=Classical.choose_spec (opq (fun env=>(h3v env).sel)) env
noncomputable def B59:FBox:=mkF [.int .i32 0] [] [] [(.bool 0,[])] c3b
theorem B59_ok:a0x Try.prog 98 (a0i B59):=b0c (op:=c3b) f2j hmix false (LsOk.none _ _ _) (fun env x h=>by rw[b2g]at h;rw[←boxC_lk];exact h)
noncomputable def z2p:LDt→TD
 |[.n n0]=>
  (.node (decide (n0≥(33:Int)))
   (.node (n0 !=(58:Int))
   (.node (n0 !=(35:Int))
    (.node (n0 !=(43:Int))
    (.node (n0 !=(45:Int))
     (.node (n0 !=(65533:Int))
     (.node (decide (n0<(127:Int)))
      (.leaf ((0,[.b true])))
      (.leaf ((0,[.b (decide (n0>(160:Int)))]))))
     (.leaf ((0,[.b false]))))
     (.leaf ((0,[.b false]))))
    (.leaf ((0,[.b false]))))
    (.leaf ((0,[.b false]))))
   (.leaf ((0,[.b false]))))
   (.leaf ((0,[.b false]))))
 |_=>.bad 0
theorem n2o (n0:Int):Imp (z2p [.n n0]) (h3v [.n n0]):=
(.nd (fun h0=>
(.nd (fun h1=>
(.nd (fun h2=>
(.nd (fun h3=>
(.nd (fun h4=>
(.nd (fun h5=>
(.nd (fun h6=>
(.pa [1,1]
.lf)) (fun h6=>
(.pa [1]
.lf)))) (fun h5=>
(.pa [0,1]
.lf)))) (fun h4=>
(.pa [0,0,0,1]
.lf)))) (fun h3=>
(.pa [0,0,0,0,0,1]
.lf)))) (fun h2=>
(.pa [0,0,0,0,0,0,0,1]
.lf)))) (fun h1=>
(.pa [0,0,0,0,0,0,0,0,0,1]
.lf)))) (fun h0=>
(.pa [0,0,0,0,0,0,0,0,0,0,0,1]
.lf)))
noncomputable def j3d:FuncId→Option a0f:=a0k 98 B59 cs_60
theorem i1c:CsOk Try.prog j3d:=a0h f2j B59_ok
def y0f (f:OpT):MBox:=mkM 0 [] [(sh 22 [(0,.str 0),(3,.int .i64 1),(7,.itr 0)],[.iter 2 3])] [] [(.exit 0,sh 22 [(3,.int .i64 0)],[]),(.ret,sh 22 [(2,.bool 0)],[])] f
noncomputable def d0v (env:LDt):Tree Step:=Lk.stepMC false LK j3d 125 3 ls0 (y0f fun _=>none) env
noncomputable def a1u:OpT:=Classical.choose (opq (a0b d0v FU))
theorem e1e (env:LDt):a1u env=a0b d0v FU env:=Classical.choose_spec (opq (a0b d0v FU)) env
noncomputable def h3j:MBox:=y0f a1u
theorem z2z:h3j=y0f (a0b d0v FU):=congrArg y0f (funext e1e)
theorem s2d: ∀t s x,(a0l h3j t s).sel=some x→a0r Try.prog 0 (.loop (cAt Try.prog 125 3)) t s x:=by
 rw[z2z]
 exact b0a (st:=d0v) (m:=FU) i1c hmix false (LsOk.none _ _ _) (by kernel_rfl) (fun env y h=>by rw[←stepMC_lk];exact h)
noncomputable def g0j:LDt→Tree Step
 |[.s s0,.n n1,.n n2]=>
  (.node (decide (n2<(↑(ByteArray.size s0):Int)))
   (.node (decide (IntKind.wrap .i64 (n1+(1:Int))>(16:Int)))
   (.leaf (Step.stop 1 [.b false]))
   (let r1:OD:=(e3f [.n (decC s0 n2)]);
    (.node (isK 0 [HK.b] r1)
    (.node (!gb (dOf r1) 0)
     (.leaf (Step.stop 1 [.b false]))
     (.leaf (Step.go [.k 0,.s s0,.n (IntKind.wrap .i64 (n1+(1:Int))),.s s0,.n (n2+decW s0 n2)])))
    (.bad 351))))
   (.leaf (Step.stop 0 [.n n1])))
 |_=>.bad 0
theorem e0m (s0:ByteArray)(n1:Int)(n2:Int):Imp (g0j [.s s0,.n n1,.n n2]) (d0v [.k 0,.s s0,.n n1,.s s0,.n n2]):=
(.pa [1]
(.nd (fun h0=>
(.pa [1]
(.nd (fun h1=>
(.pa [1,1,1]
.lf)) (fun h1=>
(.nd (fun h2=>
(.pa [1]
(.nd (fun h3=>
(.pa [1]
.lf)) (fun h3=>
(.pa [1]
.lf))))) (fun h2=>
.none)))))) (fun h0=>
(.pa [0,1]
.lf))))
theorem g3c:LsOk Try.prog (z0) (lsM [(3,h3j)] (z0)) (a0u Try.prog 125):=LsOk.many fun j B hB hk c hc hi=>by
 simp only[c0f]at hB
 split at hB
 ·rename_i e;have:=Nat.eq_of_beq_eq_true e;subst this;cases hB
  rw[b0u (f:=125) (i:=3) (a0e (by kernel_rfl)) (a0c hc hi)];exact s2d
 cases hB
noncomputable def l3c (env:LDt):TD:=Lk.boxC false LK j3d 125 (lsM [(3,h3j)] (z0)) (mkF [.str 0] [] [] [(.bool 0,[])] fun _=>none) env
noncomputable def a3u:OpT:=Classical.choose (opq (fun env=>(l3c env).sel))
theorem b2k (env:LDt):a3u env=(l3c env).sel:=Classical.choose_spec (opq (fun env=>(l3c env).sel)) env
noncomputable def B50:FBox:=mkF [.str 0] [] [] [(.bool 0,[])] a3u
theorem B50_ok:a0x Try.prog 125 (a0i B50):=b0c (op:=a3u) i1c hmix false (g3c) (fun env x h=>by rw[b2k]at h;rw[←boxC_lk];exact h)
noncomputable def v2z:LDt→TD
 |[.s s0]=>
  (let r1:OD:=(a1u [.k 0,.s s0,.n (0:Int),.s s0,.n (0:Int)]);
   (.node (isK 0 [HK.n] r1)
   (.leaf ((0,[.b (decide (gn (dOf r1) 0>(0:Int)))])))
   (.node (isK 1 [HK.b] r1)
    (.leaf ((0,[.b (gb (dOf r1) 0)])))
    (.bad 351))))
 |_=>.bad 0
theorem j2r (s0:ByteArray):Imp (v2z [.s s0]) (l3c [.s s0]):=
(.nd (fun h0=>
(.pa [1]
.lf)) (fun h0=>
(.nd (fun h1=>
(.pa [1]
.lf)) (fun h1=>
.none))))
noncomputable def h3k:FuncId→Option a0f:=a0k 125 B50 j3d
theorem i1n:CsOk Try.prog h3k:=a0h i1c B50_ok
noncomputable def e0k (env:LDt):Tree Step:=Lk.stepMC false LK h3k 65 3 ls0 (y0f fun _=>none) env
noncomputable def z0l:OpT:=Classical.choose (opq (a0b e0k FU))
theorem d1c (env:LDt):z0l env=a0b e0k FU env:=Classical.choose_spec (opq (a0b e0k FU)) env
noncomputable def j3h:MBox:=y0f z0l
theorem u2g:j3h=y0f (a0b e0k FU):=congrArg y0f (funext d1c)
theorem c3v: ∀t s x,(a0l j3h t s).sel=some x→a0r Try.prog 0 (.loop (cAt Try.prog 65 3)) t s x:=by
 rw[u2g]
 exact b0a (st:=e0k) (m:=FU) i1n hmix false (LsOk.none _ _ _) (by kernel_rfl) (fun env y h=>by rw[←stepMC_lk];exact h)
noncomputable def j0u:LDt→Tree Step
 |[.s s0,.n n1,.n n2]=>
  (.node (decide (n2<(↑(ByteArray.size s0):Int)))
   (let r1:OD:=(c3b [.n (decC s0 n2)]);
   (.node (isK 0 [HK.b] r1)
    (.node (!gb (dOf r1) 0)
    (.leaf (Step.stop 1 [.b false]))
    (.leaf (Step.go [.k 0,.s s0,.n (IntKind.wrap .i64 (n1+(1:Int))),.s s0,.n (n2+decW s0 n2)])))
    (.bad 351)))
   (.leaf (Step.stop 0 [.n n1])))
 |_=>.bad 0
theorem g0a (s0:ByteArray)(n1:Int)(n2:Int):Imp (j0u [.s s0,.n n1,.n n2]) (e0k [.k 0,.s s0,.n n1,.s s0,.n n2]):=
(.pa [1]
(.nd (fun h0=>
(.pa [1]
(.nd (fun h1=>
(.pa [1]
(.nd (fun h2=>
(.pa [1]
.lf)) (fun h2=>
(.pa [1]
.lf))))) (fun h1=>
.none)))) (fun h0=>
(.pa [0,1]
.lf))))
theorem g3j:LsOk Try.prog (z0) (lsM [(3,j3h)] (z0)) (a0u Try.prog 65):=LsOk.many fun j B hB hk c hc hi=>by
 simp only[c0f]at hB
 split at hB
 ·rename_i e;have:=Nat.eq_of_beq_eq_true e;subst this;cases hB
  rw[b0u (f:=65) (i:=3) (a0e (by kernel_rfl)) (a0c hc hi)];exact c3v
 cases hB
noncomputable def j3m (env:LDt):TD:=Lk.boxC false LK h3k 65 (lsM [(3,j3h)] (z0)) (mkF [.str 0] [] [] [(.bool 0,[])] fun _=>none) env
noncomputable def r2x:OpT:=Classical.choose (opq (fun env=>(j3m env).sel))
theorem c2c (env:LDt):r2x env=(j3m env).sel:=Classical.choose_spec (opq (fun env=>(j3m env).sel)) env
noncomputable def B42:FBox:=mkF [.str 0] [] [] [(.bool 0,[])] r2x
theorem B42_ok:a0x Try.prog 65 (a0i B42):=b0c (op:=r2x) i1n hmix false (g3j) (fun env x h=>by rw[c2c]at h;rw[←boxC_lk];exact h)
noncomputable def w2a:LDt→TD
 |[.s s0]=>
  (let r1:OD:=(z0l [.k 0,.s s0,.n (0:Int),.s s0,.n (0:Int)]);
   (.node (isK 0 [HK.n] r1)
   (.node (decide (gn (dOf r1) 0≥(1:Int)))
    (.leaf ((0,[.b (decide (gn (dOf r1) 0≤(16:Int)))])))
    (.leaf ((0,[.b false]))))
   (.node (isK 1 [HK.b] r1)
    (.leaf ((0,[.b (gb (dOf r1) 0)])))
    (.bad 351))))
 |_=>.bad 0
theorem n2e (s0:ByteArray):Imp (w2a [.s s0]) (j3m [.s s0]):=
(.nd (fun h0=>
(.nd (fun h1=>
(.pa [1]
.lf)) (fun h1=>
(.pa [0,1]
.lf)))) (fun h0=>
(.nd (fun h1=>
(.pa [1]
.lf)) (fun h1=>
.none))))
noncomputable def j3a:FuncId→Option a0f:=a0k 65 B42 h3k
theorem j1q:CsOk Try.prog j3a:=a0h i1n B42_ok
def c2o (f:OpT):MBox:=mkM 0 [] [(sh 32 [(0,.imm TI 0),(1,.int .i64 1),(5,.int .i64 2)],[])] [] [(.exit 0,sh 32 [(0,.imm TI 0)],[]),(.ret,sh 32 [(4,.bool 0)],[])] f
noncomputable def o0t (env:LDt):Tree Step:=Lk.stepMC false LK j3a 67 2 ls0 (c2o fun _=>none) env
noncomputable def a1k:OpT:=Classical.choose (opq (a0b o0t FU))
theorem c1y (env:LDt):a1k env=a0b o0t FU env:=Classical.choose_spec (opq (a0b o0t FU)) env
noncomputable def i3c:MBox:=c2o a1k
theorem b3u:i3c=c2o (a0b o0t FU):=congrArg c2o (funext c1y)
theorem s2l: ∀t s x,(a0l i3c t s).sel=some x→a0r Try.prog 0 (.loop (cAt Try.prog 67 2)) t s x:=by
 rw[b3u]
 exact b0a (st:=o0t) (m:=FU) j1q hmix false (LsOk.none _ _ _) (by kernel_rfl) (fun env y h=>by rw[←stepMC_lk];exact h)
noncomputable def o0e:LDt→Tree Step
 |[.l TI l0,.n n1,.n n2]=>
  (.node (decide (n2<(↑(List.length l0):Int)))
   (.node (decide (n2<(17:Int)))
   (.node (decide ((List.getD l0 (Int.toNat n2) (0:Int):Int)<(0:Int)))
    (.leaf (Step.stop 1 [.b false]))
    (.node (decide ((List.getD l0 (Int.toNat n2) (0:Int):Int)≥n1))
    (.leaf (Step.stop 1 [.b false]))
    (.leaf (Step.go [.k 0,.l TI l0,.n n1,.n (IntKind.wrap .i64 (n2+(1:Int)))]))))
   (.leaf (Step.stop 0 [.l TI l0])))
   (.leaf (Step.stop 0 [.l TI l0])))
 |_=>.bad 0
theorem m0b (l0:DI)(n1:Int)(n2:Int)(g0:0≤n2):Imp (o0e [.l TI l0,.n n1,.n n2]) (o0t [.k 0,.l TI l0,.n n1,.n n2]):=
(.pa [1]
(.nd (fun h0=>
(.nd (fun h1=>
(.pq (c:=(inR n2 (List.length l0)))
(.nd (fun h2=>
(.pa [1,1,1]
.lf)) (fun h2=>
(.pq (c:=(inR n2 (List.length l0)))
(.nd (fun h3=>
(.pa [1]
.lf)) (fun h3=>
(.pa [1]
.lf)))))))) (fun h1=>
(.pa [1]
.lf)))) (fun h0=>
(.pa [0,0,1]
.lf))))
theorem i3o:LsOk Try.prog (z0) (lsM [(2,i3c)] (z0)) (a0u Try.prog 67):=LsOk.many fun j B hB hk c hc hi=>by
 simp only[c0f]at hB
 split at hB
 ·rename_i e;have:=Nat.eq_of_beq_eq_true e;subst this;cases hB
  rw[b0u (f:=67) (i:=2) (a0e (by kernel_rfl)) (a0c hc hi)];exact s2l
 cases hB
def k44 (f:OpT):FBox:=mkF [.imm TI 0,.int .i64 1] [] [] [(.bool 0,[])] f
noncomputable def k3g (env:LDt):TD:=Lk.boxC false LK j3a 67 (lsM [(2,i3c)] (z0)) (k44 fun _=>none) env
noncomputable def f1k:OpT:=Classical.choose (opq (fun env=>(k3g env).sel))
theorem h2o (env:LDt):f1k env=(k3g env).sel:=Classical.choose_spec (opq (fun env=>(k3g env).sel)) env
noncomputable def B44:FBox:=k44 f1k
theorem B44_ok:a0x Try.prog 67 (a0i B44):=b0c (op:=f1k) j1q hmix false (i3o) (fun env x h=>by rw[h2o]at h;rw[←boxC_lk];exact h)
noncomputable def b3l:LDt→TD
 |[.l TI l0,.n n1]=>
  (let r1:OD:=(a1k [.k 0,.l TI l0,.n n1,.n (0:Int)]);
   (.node (isK 0 [HK.l TI] r1)
   (.leaf ((0,[.b (decide ((↑(List.length (gl TI (dOf r1) 0)):Int)≤(16:Int)))])))
   (.node (isK 1 [HK.b] r1)
    (.leaf ((0,[.b (gb (dOf r1) 0)])))
    (.bad 351))))
 |_=>.bad 0
theorem n2y (l0:DI)(n1:Int):Imp (b3l [.l TI l0,.n n1]) (k3g [.l TI l0,.n n1]):=
(.nd (fun h0=>
(.pa [1]
.lf)) (fun h0=>
(.nd (fun h1=>
(.pa [1]
.lf)) (fun h1=>
.none))))
noncomputable def l3r:FuncId→Option a0f:=a0k 67 B44 j3a
theorem k1r:CsOk Try.prog l3r:=a0h j1q B44_ok
def b2l (f:OpT):MBox:=mkM 0 [] [(sh 19 [(0,.imm TS 0),(1,.str 1),(5,.int .i64 2)],[])] [] [(.exit 0,sh 19 [],[]),(.ret,sh 19 [(4,.int .i64 0)],[])] f
noncomputable def p0t (env:LDt):Tree Step:=Lk.stepMC false LK l3r 66 2 ls0 (b2l fun _=>none) env
noncomputable def u0s:OpT:=Classical.choose (opq (a0b p0t FU))
theorem r0h (env:LDt):u0s env=a0b p0t FU env:=Classical.choose_spec (opq (a0b p0t FU)) env
noncomputable def g3n:MBox:=b2l u0s
theorem v2n:g3n=b2l (a0b p0t FU):=congrArg b2l (funext r0h)
theorem b3v: ∀t s x,(a0l g3n t s).sel=some x→a0r Try.prog 0 (.loop (cAt Try.prog 66 2)) t s x:=by
 rw[v2n]
 exact b0a (st:=p0t) (m:=FU) k1r hmix false (LsOk.none _ _ _) (by kernel_rfl) (fun env y h=>by rw[←stepMC_lk];exact h)
noncomputable def j0q:LDt→Tree Step
 |[.l TS l0,.s s1,.n n2]=>
  (.node (decide (n2<(↑(List.length l0):Int)))
   (.node (f0q (List.getD l0 (Int.toNat n2) (Ty.dflt Ty.str)) s1)
   (.leaf (Step.stop 1 [.n n2]))
   (.leaf (Step.go [.k 0,.l TS l0,.s s1,.n (IntKind.wrap .i64 (n2+(1:Int)))])))
   (.leaf (Step.stop 0 [])))
 |_=>.bad 0
theorem g0e (l0:DS)(s1:ByteArray)(n2:Int)(g0:0≤n2):Imp (j0q [.l TS l0,.s s1,.n n2]) (p0t [.k 0,.l TS l0,.s s1,.n n2]):=
(.pa [1]
(.nd (fun h0=>
(.pq (c:=(inR n2 (List.length l0)))
(.nd (fun h1=>
(.pa [1]
.lf)) (fun h1=>
(.pa [1]
.lf))))) (fun h0=>
(.pa [1]
.lf))))
theorem n3a:LsOk Try.prog (z0) (lsM [(2,g3n)] (z0)) (a0u Try.prog 66):=LsOk.many fun j B hB hk c hc hi=>by
 simp only[c0f]at hB
 split at hB
 ·rename_i e;have:=Nat.eq_of_beq_eq_true e;subst this;cases hB
  rw[b0u (f:=66) (i:=2) (a0e (by kernel_rfl)) (a0c hc hi)];exact b3v
 cases hB
def k43 (f:OpT):FBox:=mkF [.imm TS 0,.str 1] [] [] [(.int .i64 0,[])] f
noncomputable def m3c (env:LDt):TD:=Lk.boxC false LK l3r 66 (lsM [(2,g3n)] (z0)) (k43 fun _=>none) env
noncomputable def j2s:OpT:=Classical.choose (opq (fun env=>(m3c env).sel))
theorem j1d (env:LDt):j2s env=(m3c env).sel:=Classical.choose_spec (opq (fun env=>(m3c env).sel)) env
noncomputable def B43:FBox:=k43 j2s
theorem B43_ok:a0x Try.prog 66 (a0i B43):=b0c (op:=j2s) k1r hmix false (n3a) (fun env x h=>by rw[j1d]at h;rw[←boxC_lk];exact h)
noncomputable def x1y:LDt→TD
 |[.l TS l0,.s s1]=>
  (let r1:OD:=(u0s [.k 0,.l TS l0,.s s1,.n (0:Int)]);
   (.node (isK 0 [] r1)
   (.leaf ((0,[.n (-1:Int)])))
   (.node (isK 1 [HK.n] r1)
    (.leaf ((0,[.n (gn (dOf r1) 0)])))
    (.bad 351))))
 |_=>.bad 0
theorem g1m (l0:DS)(s1:ByteArray):Imp (x1y [.l TS l0,.s s1]) (m3c [.l TS l0,.s s1]):=
(.nd (fun h0=>
(.pa [1]
.lf)) (fun h0=>
(.nd (fun h1=>
(.pa [1]
.lf)) (fun h1=>
.none))))
noncomputable def j3l:FuncId→Option a0f:=a0k 66 B43 l3r
theorem m1o:CsOk Try.prog j3l:=a0h k1r B43_ok
def d2q (f:OpT):MBox:=mkM 0 [] [(sh 23 [(2,.ptr 0 0),(10,.imm TI 0),(11,.int .i64 1),(12,.int .i64 2)],[laB 3])] [] [(.exit 0,sh 23 [],[]),(.ret,sh 23 [(4,.bool 0)],[])] f
noncomputable def o0m (env:LDt):Tree Step:=Lk.stepMC false LK j3l 123 4 ls0 (d2q fun _=>none) env
noncomputable def z0x:OpT:=Classical.choose (opq (a0b o0m FU))
theorem c1t (env:LDt):z0x env=a0b o0m FU env:=Classical.choose_spec (opq (a0b o0m FU)) env
noncomputable def f3i:MBox:=d2q z0x
theorem e3w:f3i=d2q (a0b o0m FU):=congrArg d2q (funext c1t)
theorem v2q: ∀t s x,(a0l f3i t s).sel=some x→a0r Try.prog 0 (.loop (cAt Try.prog 123 4)) t s x:=by
 rw[e3w]
 exact b0a (st:=o0m) (m:=FU) m1o hmix false (LsOk.none _ _ _) (by kernel_rfl) (fun env y h=>by rw[←stepMC_lk];exact h)
noncomputable def p0y:LDt→Tree Step
 |[.l TI l0,.n n1,.n n2,.l TS l3,.l TPt l4,.l TPt l5,.l TRt l6]=>
  (.node (decide (n2<n1))
   (.node (decide ((List.getD l0 (Int.toNat n2) (0:Int):Int)≥(0:Int)))
   (.node (!decide ((List.getD l0 (Int.toNat n2) (0:Int):Int)<(↑(List.length l3):Int)))
    (.leaf (Step.stop 1 [.b false]))
    (.leaf (Step.go [.k 0,.l TI l0,.n n1,.n (IntKind.wrap .i64 (n2+(1:Int))),.l TS l3,.l TPt l4,.l TPt l5,.l TRt l6])))
   (.leaf (Step.stop 1 [.b false])))
   (.leaf (Step.stop 0 [])))
 |_=>.bad 0
theorem k0v (l0:DI)(n1:Int)(n2:Int)(l3:DS)(l4:DP)(l5:DP)(l6:DR)(g0:0≤n2)(g1:n1=(l0.length:Int)):Imp (p0y [.l TI l0,.n n1,.n n2,.l TS l3,.l TPt l4,.l TPt l5,.l TRt l6]) (o0m [.k 0,.l TI l0,.n n1,.n n2,.l TS l3,.l TPt l4,.l TPt l5,.l TRt l6]):=
(.pa [1]
(.nd (fun h0=>
(.pq (c:=(inR n2 (List.length l0)))
(.pa [1]
(.nd (fun h1=>
(.pa [1]
(.nd (fun h2=>
(.pa [1]
.lf)) (fun h2=>
(.pa [1]
.lf))))) (fun h1=>
(.pa [0,1,1,1]
.lf)))))) (fun h0=>
(.pa [1]
.lf))))
theorem k3e:LsOk Try.prog (z0) (lsM [(4,f3i)] (z0)) (a0u Try.prog 123):=LsOk.many fun j B hB hk c hc hi=>by
 simp only[c0f]at hB
 split at hB
 ·rename_i e;have:=Nat.eq_of_beq_eq_true e;subst this;cases hB
  rw[b0u (f:=123) (i:=4) (a0e (by kernel_rfl)) (a0c hc hi)];exact v2q
 cases hB
def k48 (f:OpT):FBox:=mkF [laV 0,.imm TI 4] [] [] [(.bool 0,[])] f
noncomputable def g3u (env:LDt):TD:=Lk.boxC false LK j3l 123 (lsM [(4,f3i)] (z0)) (k48 fun _=>none) env
noncomputable def k2d:OpT:=Classical.choose (opq (fun env=>(g3u env).sel))
theorem g2h (env:LDt):k2d env=(g3u env).sel:=Classical.choose_spec (opq (fun env=>(g3u env).sel)) env
noncomputable def B48:FBox:=k48 k2d
theorem B48_ok:a0x Try.prog 123 (a0i B48):=b0c (op:=k2d) m1o hmix false (k3e) (fun env x h=>by rw[g2h]at h;rw[←boxC_lk];exact h)
noncomputable def s2t:LDt→TD
 |[.l TS l0,.l TPt l1,.l TPt l2,.l TRt l3,.l TI l4]=>
  (.node (decide ((↑(List.length l4):Int)>(16:Int)))
   (.leaf ((0,[.b false])))
   (let r1:OD:=(z0x [.k 0,.l TI l4,.n (↑(List.length l4):Int),.n (0:Int),.l TS l0,.l TPt l1,.l TPt l2,.l TRt l3]);
   (.node (isK 0 [] r1)
    (.leaf ((0,[.b true])))
    (.node (isK 1 [HK.b] r1)
    (.leaf ((0,[.b (gb (dOf r1) 0)])))
    (.bad 351)))))
 |_=>.bad 0
theorem l2x (l0:DS)(l1:DP)(l2:DP)(l3:DR)(l4:DI):Imp (s2t [.l TS l0,.l TPt l1,.l TPt l2,.l TRt l3,.l TI l4]) (g3u [.l TS l0,.l TPt l1,.l TPt l2,.l TRt l3,.l TI l4]):=
(.nd (fun h0=>
(.pa [1]
.lf)) (fun h0=>
(.nd (fun h1=>
(.pa [1]
.lf)) (fun h1=>
(.nd (fun h2=>
(.pa [1]
.lf)) (fun h2=>
.none))))))
noncomputable def h3i:FuncId→Option a0f:=a0k 123 B48 j3l
theorem k1w:CsOk Try.prog h3i:=a0h m1o B48_ok
def c2k (f:OpT):MBox:=mkM 0 [] [(sh 24 [(2,.ptr 0 0),(10,.imm TNd 0),(11,.int .i64 1),(12,.int .i64 2)],[laB 3])] [] [(.exit 0,sh 24 [],[]),(.ret,sh 24 [(4,.bool 0)],[])] f
noncomputable def o0u (env:LDt):Tree Step:=Lk.stepMC false LK h3i 124 4 ls0 (c2k fun _=>none) env
noncomputable def z0c:OpT:=Classical.choose (opq (a0b o0u FU))
theorem b1d (env:LDt):z0c env=a0b o0u FU env:=Classical.choose_spec (opq (a0b o0u FU)) env
noncomputable def h3p:MBox:=c2k z0c
theorem t2i:h3p=c2k (a0b o0u FU):=congrArg c2k (funext b1d)
theorem e3j: ∀t s x,(a0l h3p t s).sel=some x→a0r Try.prog 0 (.loop (cAt Try.prog 124 4)) t s x:=by
 rw[t2i]
 exact b0a (st:=o0u) (m:=FU) k1w hmix false (LsOk.none _ _ _) (by kernel_rfl) (fun env y h=>by rw[←stepMC_lk];exact h)
noncomputable def p0g:LDt→Tree Step
 |[.l TNd l0,.n n1,.n n2,.l TS l3,.l TPt l4,.l TPt l5,.l TRt l6]=>
  (.node (decide (n2<n1))
   (.node (decide ((Prod.fst (List.getD l0 (Int.toNat n2) (Ty.dflt TNd)):Int)≥(0:Int)))
   (.node (!decide ((Prod.fst (List.getD l0 (Int.toNat n2) (Ty.dflt TNd)):Int)<(↑(List.length l4):Int)))
    (.leaf (Step.stop 1 [.b false]))
    (.leaf (Step.go [.k 0,.l TNd l0,.n n1,.n (IntKind.wrap .i64 (n2+(1:Int))),.l TS l3,.l TPt l4,.l TPt l5,.l TRt l6])))
   (.leaf (Step.stop 1 [.b false])))
   (.leaf (Step.stop 0 [])))
 |_=>.bad 0
theorem m0o (l0:DD)(n1:Int)(n2:Int)(l3:DS)(l4:DP)(l5:DP)(l6:DR)(g0:0≤n2)(g1:n1=(l0.length:Int)):Imp (p0g [.l TNd l0,.n n1,.n n2,.l TS l3,.l TPt l4,.l TPt l5,.l TRt l6]) (o0u [.k 0,.l TNd l0,.n n1,.n n2,.l TS l3,.l TPt l4,.l TPt l5,.l TRt l6]):=
(.pa [1]
(.nd (fun h0=>
(.pq (c:=(inR n2 (List.length l0)))
(.pa [1]
(.nd (fun h1=>
(.pa [1]
(.nd (fun h2=>
(.pa [1]
.lf)) (fun h2=>
(.pa [1]
.lf))))) (fun h1=>
(.pa [0,1,1,1]
.lf)))))) (fun h0=>
(.pa [1]
.lf))))
theorem g3v:LsOk Try.prog (z0) (lsM [(4,h3p)] (z0)) (a0u Try.prog 124):=LsOk.many fun j B hB hk c hc hi=>by
 simp only[c0f]at hB
 split at hB
 ·rename_i e;have:=Nat.eq_of_beq_eq_true e;subst this;cases hB
  rw[b0u (f:=124) (i:=4) (a0e (by kernel_rfl)) (a0c hc hi)];exact e3j
 cases hB
def k49 (f:OpT):FBox:=mkF [laV 0,.imm TNd 4] [] [] [(.bool 0,[])] f
noncomputable def j3o (env:LDt):TD:=Lk.boxC false LK h3i 124 (lsM [(4,h3p)] (z0)) (k49 fun _=>none) env
noncomputable def l2c:OpT:=Classical.choose (opq (fun env=>(j3o env).sel))
theorem d2r (env:LDt):l2c env=(j3o env).sel:=Classical.choose_spec (opq (fun env=>(j3o env).sel)) env
noncomputable def B49:FBox:=k49 l2c
theorem B49_ok:a0x Try.prog 124 (a0i B49):=b0c (op:=l2c) k1w hmix false (g3v) (fun env x h=>by rw[d2r]at h;rw[←boxC_lk];exact h)
noncomputable def u2a:LDt→TD
 |[.l TS l0,.l TPt l1,.l TPt l2,.l TRt l3,.l TNd l4]=>
  (.node (decide ((↑(List.length l4):Int)>(16:Int)))
   (.leaf ((0,[.b false])))
   (let r1:OD:=(z0c [.k 0,.l TNd l4,.n (↑(List.length l4):Int),.n (0:Int),.l TS l0,.l TPt l1,.l TPt l2,.l TRt l3]);
   (.node (isK 0 [] r1)
    (.leaf ((0,[.b true])))
    (.node (isK 1 [HK.b] r1)
    (.leaf ((0,[.b (gb (dOf r1) 0)])))
    (.bad 351)))))
 |_=>.bad 0
theorem l2e (l0:DS)(l1:DP)(l2:DP)(l3:DR)(l4:DD):Imp (u2a [.l TS l0,.l TPt l1,.l TPt l2,.l TRt l3,.l TNd l4]) (j3o [.l TS l0,.l TPt l1,.l TPt l2,.l TRt l3,.l TNd l4]):=
(.nd (fun h0=>
(.pa [1]
.lf)) (fun h0=>
(.nd (fun h1=>
(.pa [1]
.lf)) (fun h1=>
(.nd (fun h2=>
(.pa [1]
.lf)) (fun h2=>
.none))))))
noncomputable def g3t:FuncId→Option a0f:=a0k 124 B49 h3i
theorem n1g:CsOk Try.prog g3t:=a0h k1w B49_ok
def f2m (f:OpT):MBox:=mkM 0 [] [(sh 24 [(0,.imm TNd 0),(3,.own 0),(4,.int .i64 1)],[.arr TI 2])] [(3,TI)] [(.exit 0,sh 24 [(3,.own 0)],[.arr TI 0])] f
noncomputable def p0n (env:LDt):Tree Step:=Lk.stepMC false LK g3t 68 3 ls0 (f2m fun _=>none) env
noncomputable def a1s:OpT:=Classical.choose (opq (a0b p0n FU))
theorem b1r (env:LDt):a1s env=a0b p0n FU env:=Classical.choose_spec (opq (a0b p0n FU)) env
noncomputable def i3m:MBox:=f2m a1s
theorem a3y:i3m=f2m (a0b p0n FU):=congrArg f2m (funext b1r)
theorem b3d: ∀t s x,(a0l i3m t s).sel=some x→a0r Try.prog 0 (.loop (cAt Try.prog 68 3)) t s x:=by
 rw[a3y]
 exact b0a (st:=p0n) (m:=FU) n1g hmix false (LsOk.none _ _ _) (by kernel_rfl) (fun env y h=>by rw[←stepMC_lk];exact h)
noncomputable def v0e:LDt→Tree Step
 |[.l TNd l0,.n n1,.l TI l2]=>
  (.node (decide (n1<(↑(List.length l0):Int)))
   (.node (decide (n1<(17:Int)))
   (.node (decide ((List.length l2+1)*8≤140737488355328))
    (.leaf (Step.go [.k 0,.l TNd l0,.n (IntKind.wrap .i64 (n1+(1:Int))),.l TI (l2++[Prod.fst (List.getD l0 (Int.toNat n1) (Ty.dflt TNd))])]))
    (.bad 62))
   (.leaf (Step.stop 0 [.l TI l2])))
   (.leaf (Step.stop 0 [.l TI l2])))
 |_=>.bad 0
theorem t0z (l0:DD)(n1:Int)(l2:DI)(g0:0≤n1):Imp (v0e [.l TNd l0,.n n1,.l TI l2]) (p0n [.k 0,.l TNd l0,.n n1,.l TI l2]):=
(.pa [1]
(.nd (fun h0=>
(.nd (fun h1=>
(.pq (c:=(inR n1 (List.length l0)))
(.nd (fun h2=>
(.pa [1]
.lf)) (fun h2=>
.none)))) (fun h1=>
(.pa [1]
.lf)))) (fun h0=>
(.pa [0,0,1]
.lf))))
theorem l3g:LsOk Try.prog (z0) (lsM [(3,i3m)] (z0)) (a0u Try.prog 68):=LsOk.many fun j B hB hk c hc hi=>by
 simp only[c0f]at hB
 split at hB
 ·rename_i e;have:=Nat.eq_of_beq_eq_true e;subst this;cases hB
  rw[b0u (f:=68) (i:=3) (a0e (by kernel_rfl)) (a0c hc hi)];exact b3d
 cases hB
def k45 (f:OpT):FBox:=mkF [.imm TNd 0] [] [] [(.own 0,[.arr TI 0])] f
noncomputable def h3u (env:LDt):TD:=Lk.boxC false LK g3t 68 (lsM [(3,i3m)] (z0)) (k45 fun _=>none) env
noncomputable def m2z:OpT:=Classical.choose (opq (fun env=>(h3u env).sel))
theorem g2k (env:LDt):m2z env=(h3u env).sel:=Classical.choose_spec (opq (fun env=>(h3u env).sel)) env
noncomputable def B45:FBox:=k45 m2z
theorem B45_ok:a0x Try.prog 68 (a0i B45):=b0c (op:=m2z) n1g hmix false (l3g) (fun env x h=>by rw[g2k]at h;rw[←boxC_lk];exact h)
noncomputable def d3s:LDt→TD
 |[.l TNd l0]=>
  (let r1:OD:=(a1s [.k 0,.l TNd l0,.n (0:Int),.l TI []]);
   (.node (isK 0 [HK.l TI] r1)
   (.leaf ((0,[.l TI (gl TI (dOf r1) 0)])))
   (.bad 351)))
 |_=>.bad 0
theorem m2l (l0:DD):Imp (d3s [.l TNd l0]) (h3u [.l TNd l0]):=
(.nd (fun h0=>
(.pa [1]
.lf)) (fun h0=>
.none))
noncomputable def cs_45:FuncId→Option a0f:=a0k 68 B45 g3t
theorem c2a:CsOk Try.prog cs_45:=a0h n1g B45_ok
def k31 (f:OpT):FBox:=mkF [laV 0,.agg [.str 4,.int .i64 5,.imm TI 6,.imm TNd 7,.imm TI 8,.imm TNd 9]] [] [] [(.bool 0,[])] f
noncomputable def i3b (env:LDt):TD:=Lk.boxC false LK cs_45 109 ls0 (k31 fun _=>none) env
noncomputable def s2m:OpT:=Classical.choose (opq (fun env=>(i3b env).sel))
theorem c2n (env:LDt):s2m env=(i3b env).sel:=Classical.choose_spec (opq (fun env=>(i3b env).sel)) env
noncomputable def B31:FBox:=k31 s2m
theorem B31_ok:a0x Try.prog 109 (a0i B31):=b0c (op:=s2m) c2a hmix false (LsOk.none _ _ _) (fun env x h=>by rw[c2n]at h;rw[←boxC_lk];exact h)
noncomputable def r2d:LDt→TD
 |[.l TS l0,.l TPt l1,.l TPt l2,.l TRt l3,.s s4,.n n5,.l TI l6,.l TNd l7,.l TI l8,.l TNd l9]=>
  (.node (decide (n5≥(0:Int)))
   (.node (decide (n5<(↑(List.length l2):Int)))
   (let r1:OD:=(k2d [.l TS l0,.l TPt l1,.l TPt l2,.l TRt l3,.l TI l6]);
    (.node (isK 0 [HK.b] r1)
    (.node (gb (dOf r1) 0)
     (let r2:OD:=(l2c [.l TS l0,.l TPt l1,.l TPt l2,.l TRt l3,.l TNd l7]);
     (.node (isK 0 [HK.b] r2)
      (.node (gb (dOf r2) 0)
      (let r3:OD:=(k2d [.l TS l0,.l TPt l1,.l TPt l2,.l TRt l3,.l TI l8]);
       (.node (isK 0 [HK.b] r3)
       (.node (gb (dOf r3) 0)
        (let r4:OD:=(l2c [.l TS l0,.l TPt l1,.l TPt l2,.l TRt l3,.l TNd l9]);
        (.node (isK 0 [HK.b] r4)
         (.leaf ((0,[.b (gb (dOf r4) 0)])))
         (.bad 351)))
        (.leaf ((0,[.b false]))))
       (.bad 351)))
      (.leaf ((0,[.b false]))))
      (.bad 351)))
     (.leaf ((0,[.b false]))))
    (.bad 351)))
   (.leaf ((0,[.b false]))))
   (.leaf ((0,[.b false]))))
 |_=>.bad 0
theorem l2w (l0:DS)(l1:DP)(l2:DP)(l3:DR)(s4:ByteArray)(n5:Int)(l6:DI)(l7:DD)(l8:DI)(l9:DD):Imp (r2d [.l TS l0,.l TPt l1,.l TPt l2,.l TRt l3,.s s4,.n n5,.l TI l6,.l TNd l7,.l TI l8,.l TNd l9]) (i3b [.l TS l0,.l TPt l1,.l TPt l2,.l TRt l3,.s s4,.n n5,.l TI l6,.l TNd l7,.l TI l8,.l TNd l9]):=
(.pa [1]
(.nd (fun h0=>
(.pa [1]
(.nd (fun h1=>
(.nd (fun h2=>
(.pa [1]
(.nd (fun h3=>
(.nd (fun h4=>
(.pa [1]
(.nd (fun h5=>
(.nd (fun h6=>
(.pa [1]
(.nd (fun h7=>
(.nd (fun h8=>
(.pa [1,1]
.lf)) (fun h8=>
.none))) (fun h7=>
(.pa [0,1]
.lf))))) (fun h6=>
.none))) (fun h5=>
(.pa [0,0,0,1]
.lf))))) (fun h4=>
.none))) (fun h3=>
(.pa [0,0,0,0,0,1]
.lf))))) (fun h2=>
.none))) (fun h1=>
(.pa [0,0,0,0,0,0,0,1]
.lf))))) (fun h0=>
(.pa [0,1,0,0,0,0,0,0,0,0,1]
.lf))))
noncomputable def w1j:FuncId→Option a0f:=a0k 109 B31 cs_45
theorem q0a:CsOk Try.prog w1j:=a0h c2a B31_ok
def d2g (f:OpT):MBox:=mkM 0 [] [(sh 76 [(1,.ptr 0 0),(3,.own 1),(17,.imm TPt 0),(18,.int .i64 1),(19,.int .i64 2)],[laB 3,.arr TS 7])] [] [(.exit 0,sh 76 [(1,.ptr 0 0),(3,.own 1)],[laB 0,.arr TS 4])] f
noncomputable def k0i (env:LDt):Tree Step:=Lk.stepMC false LK w1j 110 3 ls0 (d2g fun _=>none) env
noncomputable def z0t:OpT:=Classical.choose (opq (a0b k0i FU))
theorem a1w (env:LDt):z0t env=a0b k0i FU env:=Classical.choose_spec (opq (a0b k0i FU)) env
noncomputable def l3b:MBox:=d2g z0t
theorem u2r:l3b=d2g (a0b k0i FU):=congrArg d2g (funext a1w)
theorem w2r: ∀t s x,(a0l l3b t s).sel=some x→a0r Try.prog 0 (.loop (cAt Try.prog 110 3)) t s x:=by
 rw[u2r]
 exact b0a (st:=k0i) (m:=FU) q0a hmix false (LsOk.none _ _ _) (by kernel_rfl) (fun env y h=>by rw[←stepMC_lk];exact h)
noncomputable def v0x:LDt→Tree Step
 |[.l TPt l0,.n n1,.n n2,.l TS l3,.l TPt l4,.l TPt l5,.l TRt l6,.l TS l7]=>
  (.node (decide (n2<n1))
   (.node (decide ((List.length l7+1)*16≤140737488355328))
   (.leaf (Step.go [.k 0,.l TPt l0,.n n1,.n (IntKind.wrap .i64 (n2+(1:Int))),.l TS l3,.l TPt l4,.l TPt l5,.l TRt l6,.l TS (l7++[Prod.fst (List.getD l0 (Int.toNat n2) (Ty.dflt TPt))])]))
   (.bad 62))
   (.leaf (Step.stop 0 [.l TS l3,.l TPt l4,.l TPt l5,.l TRt l6,.l TS l7])))
 |_=>.bad 0
theorem t0v (l0:DP)(n1:Int)(n2:Int)(l3:DS)(l4:DP)(l5:DP)(l6:DR)(l7:DS)(g0:0≤n2)(g1:n1=(l0.length:Int)):Imp (v0x [.l TPt l0,.n n1,.n n2,.l TS l3,.l TPt l4,.l TPt l5,.l TRt l6,.l TS l7]) (k0i [.k 0,.l TPt l0,.n n1,.n n2,.l TS l3,.l TPt l4,.l TPt l5,.l TRt l6,.l TS l7]):=
(.pa [1]
(.nd (fun h0=>
(.pq (c:=(inR n2 (List.length l0)))
(.nd (fun h1=>
(.pa [1]
.lf)) (fun h1=>
.none)))) (fun h0=>
(.pa [1]
.lf))))
def g2i (f:OpT):MBox:=mkM 0 [] [(sh 76 [(1,.ptr 0 0),(3,.own 1),(30,.imm TPt 0),(31,.int .i64 1),(32,.int .i64 2)],[laB 3,.arr TS 7])] [] [(.exit 2,sh 76 [(1,.ptr 0 0),(3,.own 1)],[laB 0,.arr TS 4])] f
noncomputable def k0w (env:LDt):Tree Step:=Lk.stepMC false LK w1j 110 8 ls0 (g2i fun _=>none) env
noncomputable def z0j:OpT:=Classical.choose (opq (a0b k0w FU))
theorem d1h (env:LDt):z0j env=a0b k0w FU env:=Classical.choose_spec (opq (a0b k0w FU)) env
noncomputable def i3y:MBox:=g2i z0j
theorem q2o:i3y=g2i (a0b k0w FU):=congrArg g2i (funext d1h)
theorem b3a: ∀t s x,(a0l i3y t s).sel=some x→a0r Try.prog 0 (.loop (cAt Try.prog 110 8)) t s x:=by
 rw[q2o]
 exact b0a (st:=k0w) (m:=FU) q0a hmix false (LsOk.none _ _ _) (by kernel_rfl) (fun env y h=>by rw[←stepMC_lk];exact h)
noncomputable def v0r:LDt→Tree Step
 |[.l TPt l0,.n n1,.n n2,.l TS l3,.l TPt l4,.l TPt l5,.l TRt l6,.l TS l7]=>
  (.node (decide (n2<n1))
   (.node (decide ((List.length l7+1)*16≤140737488355328))
   (.leaf (Step.go [.k 0,.l TPt l0,.n n1,.n (IntKind.wrap .i64 (n2+(1:Int))),.l TS l3,.l TPt l4,.l TPt l5,.l TRt l6,.l TS (l7++[Prod.fst (List.getD l0 (Int.toNat n2) (Ty.dflt TPt))])]))
   (.bad 62))
   (.leaf (Step.stop 0 [.l TS l3,.l TPt l4,.l TPt l5,.l TRt l6,.l TS l7])))
 |_=>.bad 0
theorem u0w (l0:DP)(n1:Int)(n2:Int)(l3:DS)(l4:DP)(l5:DP)(l6:DR)(l7:DS)(g0:0≤n2)(g1:n1=(l0.length:Int)):Imp (v0r [.l TPt l0,.n n1,.n n2,.l TS l3,.l TPt l4,.l TPt l5,.l TRt l6,.l TS l7]) (k0w [.k 0,.l TPt l0,.n n1,.n n2,.l TS l3,.l TPt l4,.l TPt l5,.l TRt l6,.l TS l7]):=
(.pa [1]
(.nd (fun h0=>
(.pq (c:=(inR n2 (List.length l0)))
(.nd (fun h1=>
(.pa [1]
.lf)) (fun h1=>
.none)))) (fun h0=>
(.pa [1]
.lf))))
def n1l (f:OpT):MBox:=mkM 0 [] [(sh 76 [(3,.own 0),(43,.imm TRt 0),(44,.int .i64 1),(45,.int .i64 2)],[.arr TS 3])] [] [(.exit 4,sh 76 [(3,.own 0)],[.arr TS 0])] f
noncomputable def g0u (env:LDt):Tree Step:=Lk.stepMC false LK w1j 110 13 ls0 (n1l fun _=>none) env
noncomputable def r0w:OpT:=Classical.choose (opq (a0b g0u FU))
theorem y0g (env:LDt):r0w env=a0b g0u FU env:=Classical.choose_spec (opq (a0b g0u FU)) env
noncomputable def c2x:MBox:=n1l r0w
theorem m2g:c2x=n1l (a0b g0u FU):=congrArg n1l (funext y0g)
theorem m2k: ∀t s x,(a0l c2x t s).sel=some x→a0r Try.prog 0 (.loop (cAt Try.prog 110 13)) t s x:=by
 rw[m2g]
 exact b0a (st:=g0u) (m:=FU) q0a hmix false (LsOk.none _ _ _) (by kernel_rfl) (fun env y h=>by rw[←stepMC_lk];exact h)
noncomputable def r0g:LDt→Tree Step
 |[.l TRt l0,.n n1,.n n2,.l TS l3]=>
  (.node (decide (n2<n1))
   (.node (decide ((List.length l3+1)*16≤140737488355328))
   (.leaf (Step.go [.k 0,.l TRt l0,.n n1,.n (IntKind.wrap .i64 (n2+(1:Int))),.l TS (l3++[Prod.fst (List.getD l0 (Int.toNat n2) (Ty.dflt TRt))])]))
   (.bad 62))
   (.leaf (Step.stop 0 [.l TS l3])))
 |_=>.bad 0
theorem q0n (l0:DR)(n1:Int)(n2:Int)(l3:DS)(g0:0≤n2)(g1:n1=(l0.length:Int)):Imp (r0g [.l TRt l0,.n n1,.n n2,.l TS l3]) (g0u [.k 0,.l TRt l0,.n n1,.n n2,.l TS l3]):=
(.pa [1]
(.nd (fun h0=>
(.pq (c:=(inR n2 (List.length l0)))
(.nd (fun h1=>
(.pa [1]
.lf)) (fun h1=>
.none)))) (fun h0=>
(.pa [1]
.lf))))
def i1i (f:OpT):MBox:=mkM 0 [] [(sh 76 [(10,.mapv 0),(56,.own 1),(57,.int .i64 0),(58,.int .i64 1)],[.map .str (.int .i64) 2,.arr TS 3])] [] [(.exit 6,sh 76 [],[]),(.ret,sh 76 [(2,.bool 0)],[])] f
noncomputable def g0v (env:LDt):Tree Step:=Lk.stepMC false LK w1j 110 19 ls0 (i1i fun _=>none) env
noncomputable def t0n:OpT:=Classical.choose (opq (a0b g0v FU))
theorem w0y (env:LDt):t0n env=a0b g0v FU env:=Classical.choose_spec (opq (a0b g0v FU)) env
noncomputable def f2p:MBox:=i1i t0n
theorem j2h:f2p=i1i (a0b g0v FU):=congrArg i1i (funext w0y)
theorem n2z: ∀t s x,(a0l f2p t s).sel=some x→a0r Try.prog 0 (.loop (cAt Try.prog 110 19)) t s x:=by
 rw[j2h]
 exact b0a (st:=g0v) (m:=FU) q0a hmix false (LsOk.none _ _ _) (by kernel_rfl) (fun env y h=>by rw[←stepMC_lk];exact h)
noncomputable def l0j:LDt→Tree Step
 |[.n n0,.n n1,.l TPt l2,.l TS l3]=>
  (.node (decide (n1<n0))
   (let r1:OD:=(a3u [.s (List.getD l3 (Int.toNat n1) (Ty.dflt Ty.str))]);
   (.node (isK 0 [HK.b] r1)
    (.node (!gb (dOf r1) 0)
    (.leaf (Step.stop 1 [.b false]))
    (.node (decide (mgI (List.getD l3 (Int.toNat n1) (Ty.dflt Ty.str)) (mput Ty.str TI (List.getD l3 (Int.toNat n1) (Ty.dflt Ty.str)) (IntKind.wrap .i64 (mgI (List.getD l3 (Int.toNat n1) (Ty.dflt Ty.str)) l2+(1:Int))) l2)>(1:Int)))
     (.leaf (Step.stop 1 [.b false]))
     (.leaf (Step.go [.k 0,.n n0,.n (IntKind.wrap .i64 (n1+(1:Int))),.l TPt (mput Ty.str TI (List.getD l3 (Int.toNat n1) (Ty.dflt Ty.str)) (IntKind.wrap .i64 (mgI (List.getD l3 (Int.toNat n1) (Ty.dflt Ty.str)) l2+(1:Int))) l2),.l TS l3]))))
    (.bad 351)))
   (.leaf (Step.stop 0 [])))
 |_=>.bad 0
theorem i0t (n0:Int)(n1:Int)(l2:DP)(l3:DS)(g0:0≤n1)(g1:n0=(l3.length:Int)):Imp (l0j [.n n0,.n n1,.l TPt l2,.l TS l3]) (g0v [.k 0,.n n0,.n n1,.l TPt l2,.l TS l3]):=
(.pa [1]
(.nd (fun h0=>
(.pq (c:=(inR n1 (List.length l3)))
(.nd (fun h1=>
(.pa [1]
(.nd (fun h2=>
(.pa [1,1,1]
.lf)) (fun h2=>
(.nd (fun h3=>
(.pa [1]
.lf)) (fun h3=>
(.pa [1]
.lf))))))) (fun h1=>
.none)))) (fun h0=>
(.pa [1]
.lf))))
theorem m3p:LsOk Try.prog (z0) (lsM [(3,l3b),(8,i3y),(13,c2x),(19,f2p)] (z0)) (a0u Try.prog 110):=LsOk.many fun j B hB hk c hc hi=>by
 simp only[c0f]at hB
 split at hB
 ·rename_i e;have:=Nat.eq_of_beq_eq_true e;subst this;cases hB
  rw[b0u (f:=110) (i:=3) (a0e (by kernel_rfl)) (a0c hc hi)];exact w2r
 split at hB
 ·rename_i e;have:=Nat.eq_of_beq_eq_true e;subst this;cases hB
  rw[b0u (f:=110) (i:=8) (a0e (by kernel_rfl)) (a0c hc hi)];exact b3a
 split at hB
 ·rename_i e;have:=Nat.eq_of_beq_eq_true e;subst this;cases hB
  rw[b0u (f:=110) (i:=13) (a0e (by kernel_rfl)) (a0c hc hi)];exact m2k
 split at hB
 ·rename_i e;have:=Nat.eq_of_beq_eq_true e;subst this;cases hB
  rw[b0u (f:=110) (i:=19) (a0e (by kernel_rfl)) (a0c hc hi)];exact n2z
 cases hB
noncomputable def i3g (env:LDt):TD:=Lk.boxC false LK w1j 110 (lsM [(3,l3b),(8,i3y),(13,c2x),(19,f2p)] (z0)) (mkF [laV 0] [] [] [(.bool 0,[])] fun _=>none) env
noncomputable def r2z:OpT:=Classical.choose (opq (fun env=>(i3g env).sel))
theorem c2b (env:LDt):r2z env=(i3g env).sel:=Classical.choose_spec (opq (fun env=>(i3g env).sel)) env
noncomputable def B32:FBox:=mkF [laV 0] [] [] [(.bool 0,[])] r2z
theorem B32_ok:a0x Try.prog 110 (a0i B32):=b0c (op:=r2z) q0a hmix false (m3p) (fun env x h=>by rw[c2b]at h;rw[←boxC_lk];exact h)
noncomputable def s2a:LDt→TD
 |[.l TS l0,.l TPt l1,.l TPt l2,.l TRt l3]=>
  (.node (decide (List.length l0*16≤140737488355328))
   (let r1:OD:=(z0t [.k 0,.l TPt l1,.n (↑(List.length l1):Int),.n (0:Int),.l TS l0,.l TPt l1,.l TPt l2,.l TRt l3,.l TS l0]);
   (.node (isK 0 [HK.l Ty.str,HK.l TPt,HK.l TPt,HK.l TRt,HK.l Ty.str] r1)
    (let r2:OD:=(z0j [.k 0,.l TPt (gl TPt (dOf r1) 2),.n (↑(List.length (gl TPt (dOf r1) 2)):Int),.n (0:Int),.l TS (gl Ty.str (dOf r1) 0),.l TPt (gl TPt (dOf r1) 1),.l TPt (gl TPt (dOf r1) 2),.l TRt (gl TRt (dOf r1) 3),.l TS (gl Ty.str (dOf r1) 4)]);
    (.node (isK 0 [HK.l Ty.str,HK.l TPt,HK.l TPt,HK.l TRt,HK.l Ty.str] r2)
     (let r3:OD:=(r0w [.k 0,.l TRt (gl TRt (dOf r2) 3),.n (↑(List.length (gl TRt (dOf r2) 3)):Int),.n (0:Int),.l TS (gl Ty.str (dOf r2) 4)]);
     (.node (isK 0 [HK.l Ty.str] r3)
      (let r4:OD:=(t0n [.k 0,.n (↑(List.length (gl Ty.str (dOf r3) 0)):Int),.n (0:Int),.l TPt [],.l TS (gl Ty.str (dOf r3) 0)]);
      (.node (isK 0 [] r4)
       (.leaf ((0,[.b true])))
       (.node (isK 1 [HK.b] r4)
       (.leaf ((0,[.b (gb (dOf r4) 0)])))
       (.bad 351))))
      (.bad 351)))
     (.bad 351)))
    (.bad 351)))
   (.bad 60))
 |_=>.bad 0
theorem k2g (l0:DS)(l1:DP)(l2:DP)(l3:DR):Imp (s2a [.l TS l0,.l TPt l1,.l TPt l2,.l TRt l3]) (i3g [.l TS l0,.l TPt l1,.l TPt l2,.l TRt l3]):=
(.nd (fun h0=>
(.nd (fun h1=>
(.nd (fun h2=>
(.nd (fun h3=>
(.nd (fun h4=>
(.pa [1]
.lf)) (fun h4=>
(.nd (fun h5=>
(.pa [1]
.lf)) (fun h5=>
.none))))) (fun h3=>
.none))) (fun h2=>
.none))) (fun h1=>
.none))) (fun h0=>
.none))
noncomputable def n2c:FuncId→Option a0f:=a0k 110 B32 w1j
theorem s0l:CsOk Try.prog n2c:=a0h q0a B32_ok
def g2n (f:OpT):MBox:=mkM 0 [] [(sh 60 [(1,.ptr 0 0),(3,.own 1),(4,.int .i64 0)],[laB 1,.arr TS 5])] [] [(.exit 0,sh 60 [(1,.ptr 0 0),(3,.own 1)],[laB 0,.arr TS 4])] f
noncomputable def l0x (env:LDt):Tree Step:=Lk.stepMC false LK n2c 64 4 ls0 (g2n fun _=>none) env
noncomputable def z0a:OpT:=Classical.choose (opq (a0b l0x FU))
theorem b1k (env:LDt):z0a env=a0b l0x FU env:=Classical.choose_spec (opq (a0b l0x FU)) env
noncomputable def j3c:MBox:=g2n z0a
theorem d3n:j3c=g2n (a0b l0x FU):=congrArg g2n (funext b1k)
theorem c3y: ∀t s x,(a0l j3c t s).sel=some x→a0r Try.prog 0 (.loop (cAt Try.prog 64 4)) t s x:=by
 rw[d3n]
 exact b0a (st:=l0x) (m:=FU) s0l hmix false (LsOk.none _ _ _) (by kernel_rfl) (fun env y h=>by rw[←stepMC_lk];exact h)
noncomputable def v0d:LDt→Tree Step
 |[.n n0,.l TS l1,.l TPt l2,.l TPt l3,.l TRt l4,.l TS l5]=>
  (.node (decide (n0<(↑(List.length l2):Int)))
   (.node (decide ((List.length l5+1)*16≤140737488355328))
   (.leaf (Step.go [.k 0,.n (IntKind.wrap .i64 (n0+(1:Int))),.l TS l1,.l TPt l2,.l TPt l3,.l TRt l4,.l TS (l5++[Prod.fst (List.getD l2 (Int.toNat n0) (Ty.dflt TPt))])]))
   (.bad 62))
   (.leaf (Step.stop 0 [.l TS l1,.l TPt l2,.l TPt l3,.l TRt l4,.l TS l5])))
 |_=>.bad 0
theorem s0a (n0:Int)(l1:DS)(l2:DP)(l3:DP)(l4:DR)(l5:DS)(g0:0≤n0):Imp (v0d [.n n0,.l TS l1,.l TPt l2,.l TPt l3,.l TRt l4,.l TS l5]) (l0x [.k 0,.n n0,.l TS l1,.l TPt l2,.l TPt l3,.l TRt l4,.l TS l5]):=
(.pa [1]
(.nd (fun h0=>
(.pq (c:=(inR n0 (List.length l2)))
(.nd (fun h1=>
(.pa [1]
.lf)) (fun h1=>
.none)))) (fun h0=>
(.pa [1]
.lf))))
def i2g (f:OpT):MBox:=mkM 0 [] [(sh 60 [(1,.ptr 0 0),(3,.own 1),(5,.int .i64 0)],[laB 1,.arr TS 5])] [] [(.exit 2,sh 60 [(1,.ptr 0 0),(3,.own 1)],[laB 0,.arr TS 4])] f
noncomputable def l0c (env:LDt):Tree Step:=Lk.stepMC false LK n2c 64 8 ls0 (i2g fun _=>none) env
noncomputable def z0f:OpT:=Classical.choose (opq (a0b l0c FU))
theorem e1t (env:LDt):z0f env=a0b l0c FU env:=Classical.choose_spec (opq (a0b l0c FU)) env
noncomputable def l3a:MBox:=i2g z0f
theorem a3j:l3a=i2g (a0b l0c FU):=congrArg i2g (funext e1t)
theorem t2b: ∀t s x,(a0l l3a t s).sel=some x→a0r Try.prog 0 (.loop (cAt Try.prog 64 8)) t s x:=by
 rw[a3j]
 exact b0a (st:=l0c) (m:=FU) s0l hmix false (LsOk.none _ _ _) (by kernel_rfl) (fun env y h=>by rw[←stepMC_lk];exact h)
noncomputable def v0v:LDt→Tree Step
 |[.n n0,.l TS l1,.l TPt l2,.l TPt l3,.l TRt l4,.l TS l5]=>
  (.node (decide (n0<(↑(List.length l3):Int)))
   (.node (decide ((List.length l5+1)*16≤140737488355328))
   (.leaf (Step.go [.k 0,.n (IntKind.wrap .i64 (n0+(1:Int))),.l TS l1,.l TPt l2,.l TPt l3,.l TRt l4,.l TS (l5++[Prod.fst (List.getD l3 (Int.toNat n0) (Ty.dflt TPt))])]))
   (.bad 62))
   (.leaf (Step.stop 0 [.l TS l1,.l TPt l2,.l TPt l3,.l TRt l4,.l TS l5])))
 |_=>.bad 0
theorem t0j (n0:Int)(l1:DS)(l2:DP)(l3:DP)(l4:DR)(l5:DS)(g0:0≤n0):Imp (v0v [.n n0,.l TS l1,.l TPt l2,.l TPt l3,.l TRt l4,.l TS l5]) (l0c [.k 0,.n n0,.l TS l1,.l TPt l2,.l TPt l3,.l TRt l4,.l TS l5]):=
(.pa [1]
(.nd (fun h0=>
(.pq (c:=(inR n0 (List.length l3)))
(.nd (fun h1=>
(.pa [1]
.lf)) (fun h1=>
.none)))) (fun h0=>
(.pa [1]
.lf))))
def k1c (f:OpT):MBox:=mkM 0 [] [(sh 60 [(1,.ptr 0 0),(3,.own 1),(6,.int .i64 0)],[laB 1,.arr TS 5])] [] [(.exit 4,sh 60 [(3,.own 0)],[.arr TS 0])] f
noncomputable def g0q (env:LDt):Tree Step:=Lk.stepMC false LK n2c 64 12 ls0 (k1c fun _=>none) env
noncomputable def s0m:OpT:=Classical.choose (opq (a0b g0q FU))
theorem x0r (env:LDt):s0m env=a0b g0q FU env:=Classical.choose_spec (opq (a0b g0q FU)) env
noncomputable def e2c:MBox:=k1c s0m
theorem o2h:e2c=k1c (a0b g0q FU):=congrArg k1c (funext x0r)
theorem l2m: ∀t s x,(a0l e2c t s).sel=some x→a0r Try.prog 0 (.loop (cAt Try.prog 64 12)) t s x:=by
 rw[o2h]
 exact b0a (st:=g0q) (m:=FU) s0l hmix false (LsOk.none _ _ _) (by kernel_rfl) (fun env y h=>by rw[←stepMC_lk];exact h)
noncomputable def r0i:LDt→Tree Step
 |[.n n0,.l TS l1,.l TPt l2,.l TPt l3,.l TRt l4,.l TS l5]=>
  (.node (decide (n0<(↑(List.length l4):Int)))
   (.node (decide ((List.length l5+1)*16≤140737488355328))
   (.leaf (Step.go [.k 0,.n (IntKind.wrap .i64 (n0+(1:Int))),.l TS l1,.l TPt l2,.l TPt l3,.l TRt l4,.l TS (l5++[Prod.fst (List.getD l4 (Int.toNat n0) (Ty.dflt TRt))])]))
   (.bad 62))
   (.leaf (Step.stop 0 [.l TS l5])))
 |_=>.bad 0
theorem q0h (n0:Int)(l1:DS)(l2:DP)(l3:DP)(l4:DR)(l5:DS)(g0:0≤n0):Imp (r0i [.n n0,.l TS l1,.l TPt l2,.l TPt l3,.l TRt l4,.l TS l5]) (g0q [.k 0,.n n0,.l TS l1,.l TPt l2,.l TPt l3,.l TRt l4,.l TS l5]):=
(.pa [1]
(.nd (fun h0=>
(.pq (c:=(inR n0 (List.length l4)))
(.nd (fun h1=>
(.pa [1]
.lf)) (fun h1=>
.none)))) (fun h0=>
(.pa [1]
.lf))))
theorem i3v:LsOk Try.prog (z0) (lsM [(4,j3c),(8,l3a),(12,e2c)] (z0)) (a0u Try.prog 64):=LsOk.many fun j B hB hk c hc hi=>by
 simp only[c0f]at hB
 split at hB
 ·rename_i e;have:=Nat.eq_of_beq_eq_true e;subst this;cases hB
  rw[b0u (f:=64) (i:=4) (a0e (by kernel_rfl)) (a0c hc hi)];exact c3y
 split at hB
 ·rename_i e;have:=Nat.eq_of_beq_eq_true e;subst this;cases hB
  rw[b0u (f:=64) (i:=8) (a0e (by kernel_rfl)) (a0c hc hi)];exact t2b
 split at hB
 ·rename_i e;have:=Nat.eq_of_beq_eq_true e;subst this;cases hB
  rw[b0u (f:=64) (i:=12) (a0e (by kernel_rfl)) (a0c hc hi)];exact l2m
 cases hB
def k41 (f:OpT):FBox:=mkF [laV 0] [] [] [(.own 0,[.arr TS 0])] f
noncomputable def l3u (env:LDt):TD:=Lk.boxC false LK n2c 64 (lsM [(4,j3c),(8,l3a),(12,e2c)] (z0)) (k41 fun _=>none) env
noncomputable def d3j:OpT:=Classical.choose (opq (fun env=>(l3u env).sel))
theorem g2t (env:LDt):d3j env=(l3u env).sel:=Classical.choose_spec (opq (fun env=>(l3u env).sel)) env
noncomputable def B41:FBox:=k41 d3j
theorem B41_ok:a0x Try.prog 64 (a0i B41):=b0c (op:=d3j) s0l hmix false (i3v) (fun env x h=>by rw[g2t]at h;rw[←boxC_lk];exact h)
noncomputable def y2n:LDt→TD
 |[.l TS l0,.l TPt l1,.l TPt l2,.l TRt l3]=>
  (.node (decide (List.length l0*16≤140737488355328))
   (let r1:OD:=(z0a [.k 0,.n (0:Int),.l TS l0,.l TPt l1,.l TPt l2,.l TRt l3,.l TS l0]);
   (.node (isK 0 [HK.l Ty.str,HK.l TPt,HK.l TPt,HK.l TRt,HK.l Ty.str] r1)
    (let r2:OD:=(z0f [.k 0,.n (0:Int),.l TS (gl Ty.str (dOf r1) 0),.l TPt (gl TPt (dOf r1) 1),.l TPt (gl TPt (dOf r1) 2),.l TRt (gl TRt (dOf r1) 3),.l TS (gl Ty.str (dOf r1) 4)]);
    (.node (isK 0 [HK.l Ty.str,HK.l TPt,HK.l TPt,HK.l TRt,HK.l Ty.str] r2)
     (let r3:OD:=(s0m [.k 0,.n (0:Int),.l TS (gl Ty.str (dOf r2) 0),.l TPt (gl TPt (dOf r2) 1),.l TPt (gl TPt (dOf r2) 2),.l TRt (gl TRt (dOf r2) 3),.l TS (gl Ty.str (dOf r2) 4)]);
     (.node (isK 0 [HK.l Ty.str] r3)
      (.leaf ((0,[.l TS (gl Ty.str (dOf r3) 0)])))
      (.bad 351)))
     (.bad 351)))
    (.bad 351)))
   (.bad 60))
 |_=>.bad 0
theorem k2a (l0:DS)(l1:DP)(l2:DP)(l3:DR):Imp (y2n [.l TS l0,.l TPt l1,.l TPt l2,.l TRt l3]) (l3u [.l TS l0,.l TPt l1,.l TPt l2,.l TRt l3]):=
(.nd (fun h0=>
(.nd (fun h1=>
(.nd (fun h2=>
(.nd (fun h3=>
(.pa [1]
.lf)) (fun h3=>
.none))) (fun h2=>
.none))) (fun h1=>
.none))) (fun h0=>
.none))
noncomputable def cs_41:FuncId→Option a0f:=a0k 64 B41 n2c
theorem h2m:CsOk Try.prog cs_41:=a0h s0l B41_ok
noncomputable def f3q (env:LDt):TD:=Lk.boxC false LK cs_41 63 ls0 (mkF [laV 0] [] [] [(.bool 0,[])] fun _=>none) env
noncomputable def v2t:OpT:=Classical.choose (opq (fun env=>(f3q env).sel))
theorem g2r (env:LDt):v2t env=(f3q env).sel:=Classical.choose_spec (opq (fun env=>(f3q env).sel)) env
noncomputable def B40:FBox:=mkF [laV 0] [] [] [(.bool 0,[])] v2t
theorem B40_ok:a0x Try.prog 63 (a0i B40):=b0c (op:=v2t) h2m hmix false (LsOk.none _ _ _) (fun env x h=>by rw[g2r]at h;rw[←boxC_lk];exact h)
noncomputable def z2r:LDt→TD
 |[.l TS l0,.l TPt l1,.l TPt l2,.l TRt l3]=>
  (.node (decide ((↑(List.length l0):Int)>(64:Int)))
   (.leaf ((0,[.b true])))
   (.node (decide ((↑(List.length l1):Int)>(32:Int)))
   (.leaf ((0,[.b true])))
   (.node (decide ((↑(List.length l2):Int)>(32:Int)))
    (.leaf ((0,[.b true])))
    (.leaf ((0,[.b (decide ((↑(List.length l3):Int)>(64:Int)))]))))))
 |_=>.bad 0
theorem m2w (l0:DS)(l1:DP)(l2:DP)(l3:DR):Imp (z2r [.l TS l0,.l TPt l1,.l TPt l2,.l TRt l3]) (f3q [.l TS l0,.l TPt l1,.l TPt l2,.l TRt l3]):=
(.nd (fun h0=>
(.pa [1,1,1,1,1,1]
.lf)) (fun h0=>
(.nd (fun h1=>
(.pa [1,1,1,1]
.lf)) (fun h1=>
(.nd (fun h2=>
(.pa [1,1]
.lf)) (fun h2=>
(.pa [1]
.lf)))))))
noncomputable def o2n:FuncId→Option a0f:=a0k 63 B40 cs_41
theorem s0b:CsOk Try.prog o2n:=a0h h2m B40_ok
def g2m (f:OpT):MBox:=mkM 0 [] [(sh 75 [(1,.ptr 0 0),(32,.imm TPt 0),(33,.int .i64 1),(34,.int .i64 2)],[laB 3])] [] [(.exit 0,sh 75 [(1,.ptr 0 0)],[laB 0]),(.ret,sh 75 [(2,.bool 0)],[])] f
noncomputable def p0a (env:LDt):Tree Step:=Lk.stepMC false LK o2n 95 4 ls0 (g2m fun _=>none) env
noncomputable def y0v:OpT:=Classical.choose (opq (a0b p0a FU))
theorem d1u (env:LDt):y0v env=a0b p0a FU env:=Classical.choose_spec (opq (a0b p0a FU)) env
noncomputable def n3d:MBox:=g2m y0v
theorem s2p:n3d=g2m (a0b p0a FU):=congrArg g2m (funext d1u)
theorem z2h: ∀t s x,(a0l n3d t s).sel=some x→a0r Try.prog 0 (.loop (cAt Try.prog 95 4)) t s x:=by
 rw[s2p]
 exact b0a (st:=p0a) (m:=FU) s0b hmix false (LsOk.none _ _ _) (by kernel_rfl) (fun env y h=>by rw[←stepMC_lk];exact h)
noncomputable def o0h:LDt→Tree Step
 |[.l TPt l0,.n n1,.n n2,.l TS l3,.l TPt l4,.l TPt l5,.l TRt l6]=>
  (.node (decide (n2<n1))
   (.node (decide ((Prod.snd (List.getD l0 (Int.toNat n2) (Ty.dflt TPt)):Int)≥(0:Int)))
   (.node (!decide ((Prod.snd (List.getD l0 (Int.toNat n2) (Ty.dflt TPt)):Int)<(↑(List.length l3):Int)))
    (.leaf (Step.stop 1 [.b false]))
    (.leaf (Step.go [.k 0,.l TPt l0,.n n1,.n (IntKind.wrap .i64 (n2+(1:Int))),.l TS l3,.l TPt l4,.l TPt l5,.l TRt l6])))
   (.leaf (Step.stop 1 [.b false])))
   (.leaf (Step.stop 0 [.l TS l3,.l TPt l4,.l TPt l5,.l TRt l6])))
 |_=>.bad 0
theorem l0s (l0:DP)(n1:Int)(n2:Int)(l3:DS)(l4:DP)(l5:DP)(l6:DR)(g0:0≤n2)(g1:n1=(l0.length:Int)):Imp (o0h [.l TPt l0,.n n1,.n n2,.l TS l3,.l TPt l4,.l TPt l5,.l TRt l6]) (p0a [.k 0,.l TPt l0,.n n1,.n n2,.l TS l3,.l TPt l4,.l TPt l5,.l TRt l6]):=
(.pa [1]
(.nd (fun h0=>
(.pq (c:=(inR n2 (List.length l0)))
(.pa [1]
(.nd (fun h1=>
(.pa [1]
(.nd (fun h2=>
(.pa [1]
.lf)) (fun h2=>
(.pa [1]
.lf))))) (fun h1=>
(.pa [0,1,1,1]
.lf)))))) (fun h0=>
(.pa [1]
.lf))))
def l1x (f:OpT):MBox:=mkM 0 [] [(sh 75 [(1,.ptr 0 0),(47,.imm TPt 0),(48,.int .i64 1),(49,.int .i64 2)],[laB 3])] [] [(.exit 2,sh 75 [(1,.ptr 0 0)],[laB 0]),(.ret,sh 75 [(2,.bool 0)],[])] f
noncomputable def j0s (env:LDt):Tree Step:=Lk.stepMC false LK o2n 95 10 ls0 (l1x fun _=>none) env
noncomputable def u0j:OpT:=Classical.choose (opq (a0b j0s FU))
theorem x0t (env:LDt):u0j env=a0b j0s FU env:=Classical.choose_spec (opq (a0b j0s FU)) env
noncomputable def c2q:MBox:=l1x u0j
theorem k2t:c2q=l1x (a0b j0s FU):=congrArg l1x (funext x0t)
theorem l2z: ∀t s x,(a0l c2q t s).sel=some x→a0r Try.prog 0 (.loop (cAt Try.prog 95 10)) t s x:=by
 rw[k2t]
 exact b0a (st:=j0s) (m:=FU) s0b hmix false (LsOk.none _ _ _) (by kernel_rfl) (fun env y h=>by rw[←stepMC_lk];exact h)
noncomputable def l0z:LDt→Tree Step
 |[.l TPt l0,.n n1,.n n2,.l TS l3,.l TPt l4,.l TPt l5,.l TRt l6]=>
  (.node (decide (n2<n1))
   (.node (decide ((Prod.snd (List.getD l0 (Int.toNat n2) (Ty.dflt TPt)):Int)≥(0:Int)))
   (.node (!decide ((Prod.snd (List.getD l0 (Int.toNat n2) (Ty.dflt TPt)):Int)<(↑(List.length l3):Int)))
    (.leaf (Step.stop 1 [.b false]))
    (.leaf (Step.go [.k 0,.l TPt l0,.n n1,.n (IntKind.wrap .i64 (n2+(1:Int))),.l TS l3,.l TPt l4,.l TPt l5,.l TRt l6])))
   (.leaf (Step.stop 1 [.b false])))
   (.leaf (Step.stop 0 [.l TS l3,.l TPt l4,.l TPt l5,.l TRt l6])))
 |_=>.bad 0
theorem i0s (l0:DP)(n1:Int)(n2:Int)(l3:DS)(l4:DP)(l5:DP)(l6:DR)(g0:0≤n2)(g1:n1=(l0.length:Int)):Imp (l0z [.l TPt l0,.n n1,.n n2,.l TS l3,.l TPt l4,.l TPt l5,.l TRt l6]) (j0s [.k 0,.l TPt l0,.n n1,.n n2,.l TS l3,.l TPt l4,.l TPt l5,.l TRt l6]):=
(.pa [1]
(.nd (fun h0=>
(.pq (c:=(inR n2 (List.length l0)))
(.pa [1]
(.nd (fun h1=>
(.pa [1]
(.nd (fun h2=>
(.pa [1]
.lf)) (fun h2=>
(.pa [1]
.lf))))) (fun h1=>
(.pa [0,1,1,1]
.lf)))))) (fun h0=>
(.pa [1]
.lf))))
def l1e (f:OpT):MBox:=mkM 0 [] [(sh 75 [(1,.ptr 0 0),(62,.imm TRt 0),(63,.int .i64 1),(64,.int .i64 2)],[laB 3])] [] [(.exit 4,sh 75 [(1,.ptr 0 0)],[laB 0]),(.ret,sh 75 [(2,.bool 0)],[])] f
noncomputable def j0m (env:LDt):Tree Step:=Lk.stepMC false LK o2n 95 16 ls0 (l1e fun _=>none) env
noncomputable def u0d:OpT:=Classical.choose (opq (a0b j0m FU))
theorem x0p (env:LDt):u0d env=a0b j0m FU env:=Classical.choose_spec (opq (a0b j0m FU)) env
noncomputable def e2n:MBox:=l1e u0d
theorem o2m:e2n=l1e (a0b j0m FU):=congrArg l1e (funext x0p)
theorem n2v: ∀t s x,(a0l e2n t s).sel=some x→a0r Try.prog 0 (.loop (cAt Try.prog 95 16)) t s x:=by
 rw[o2m]
 exact b0a (st:=j0m) (m:=FU) s0b hmix false (LsOk.none _ _ _) (by kernel_rfl) (fun env y h=>by rw[←stepMC_lk];exact h)
noncomputable def k0k:LDt→Tree Step
 |[.l TRt l0,.n n1,.n n2,.l TS l3,.l TPt l4,.l TPt l5,.l TRt l6]=>
  (.node (decide (n2<n1))
   (let r1:OD:=(s2m [.l TS l3,.l TPt l4,.l TPt l5,.l TRt l6,.s (Prod.fst (List.getD l0 (Int.toNat n2) (Ty.dflt TRt))),.n (Prod.fst (Prod.snd (List.getD l0 (Int.toNat n2) (Ty.dflt TRt)))),.l TI (Prod.fst (Prod.snd (Prod.snd (List.getD l0 (Int.toNat n2) (Ty.dflt TRt))))),.l TNd (Prod.fst (Prod.snd (Prod.snd (Prod.snd (List.getD l0 (Int.toNat n2) (Ty.dflt TRt)))))),.l TI (Prod.fst (Prod.snd (Prod.snd (Prod.snd (Prod.snd (List.getD l0 (Int.toNat n2) (Ty.dflt TRt))))))),.l TNd (Prod.snd (Prod.snd (Prod.snd (Prod.snd (Prod.snd (List.getD l0 (Int.toNat n2) (Ty.dflt TRt)))))))]);
   (.node (isK 0 [HK.b] r1)
    (.node (!gb (dOf r1) 0)
    (.leaf (Step.stop 1 [.b false]))
    (.leaf (Step.go [.k 0,.l TRt l0,.n n1,.n (IntKind.wrap .i64 (n2+(1:Int))),.l TS l3,.l TPt l4,.l TPt l5,.l TRt l6])))
    (.bad 351)))
   (.leaf (Step.stop 0 [.l TS l3,.l TPt l4,.l TPt l5,.l TRt l6])))
 |_=>.bad 0
theorem i0f (l0:DR)(n1:Int)(n2:Int)(l3:DS)(l4:DP)(l5:DP)(l6:DR)(g0:0≤n2)(g1:n1=(l0.length:Int)):Imp (k0k [.l TRt l0,.n n1,.n n2,.l TS l3,.l TPt l4,.l TPt l5,.l TRt l6]) (j0m [.k 0,.l TRt l0,.n n1,.n n2,.l TS l3,.l TPt l4,.l TPt l5,.l TRt l6]):=
(.pa [1]
(.nd (fun h0=>
(.pq (c:=(inR n2 (List.length l0)))
(.nd (fun h1=>
(.pa [1]
(.nd (fun h2=>
(.pa [1]
.lf)) (fun h2=>
(.pa [1]
.lf))))) (fun h1=>
.none)))) (fun h0=>
(.pa [1]
.lf))))
theorem i3n:LsOk Try.prog (z0) (lsM [(4,n3d),(10,c2q),(16,e2n)] (z0)) (a0u Try.prog 95):=LsOk.many fun j B hB hk c hc hi=>by
 simp only[c0f]at hB
 split at hB
 ·rename_i e;have:=Nat.eq_of_beq_eq_true e;subst this;cases hB
  rw[b0u (f:=95) (i:=4) (a0e (by kernel_rfl)) (a0c hc hi)];exact z2h
 split at hB
 ·rename_i e;have:=Nat.eq_of_beq_eq_true e;subst this;cases hB
  rw[b0u (f:=95) (i:=10) (a0e (by kernel_rfl)) (a0c hc hi)];exact l2z
 split at hB
 ·rename_i e;have:=Nat.eq_of_beq_eq_true e;subst this;cases hB
  rw[b0u (f:=95) (i:=16) (a0e (by kernel_rfl)) (a0c hc hi)];exact n2v
 cases hB
noncomputable def g3s (env:LDt):TD:=Lk.boxC false LK o2n 95 (lsM [(4,n3d),(10,c2q),(16,e2n)] (z0)) (mkF [laV 0] [] [] [(.bool 0,[])] fun _=>none) env
noncomputable def n2f:OpT:=Classical.choose (opq (fun env=>(g3s env).sel))
theorem c2g (env:LDt):n2f env=(g3s env).sel:=Classical.choose_spec (opq (fun env=>(g3s env).sel)) env
noncomputable def B26:FBox:=mkF [laV 0] [] [] [(.bool 0,[])] n2f
theorem B26_ok:a0x Try.prog 95 (a0i B26):=b0c (op:=n2f) s0b hmix false (i3n) (fun env x h=>by rw[c2g]at h;rw[←boxC_lk];exact h)
noncomputable def y2z:LDt→TD
 |[.l TS l0,.l TPt l1,.l TPt l2,.l TRt l3]=>
  (.node (decide ((↑(List.length l0):Int)>(64:Int)))
   (.leaf ((0,[.b false])))
   (.node (decide ((↑(List.length l1):Int)>(32:Int)))
   (.leaf ((0,[.b false])))
   (.node (decide ((↑(List.length l2):Int)>(32:Int)))
    (.leaf ((0,[.b false])))
    (.node (decide ((↑(List.length l3):Int)>(64:Int)))
    (.leaf ((0,[.b false])))
    (let r1:OD:=(y0v [.k 0,.l TPt l1,.n (↑(List.length l1):Int),.n (0:Int),.l TS l0,.l TPt l1,.l TPt l2,.l TRt l3]);
     (.node (isK 0 [HK.l Ty.str,HK.l TPt,HK.l TPt,HK.l TRt] r1)
     (let r2:OD:=(u0j [.k 0,.l TPt (gl TPt (dOf r1) 2),.n (↑(List.length (gl TPt (dOf r1) 2)):Int),.n (0:Int),.l TS (gl Ty.str (dOf r1) 0),.l TPt (gl TPt (dOf r1) 1),.l TPt (gl TPt (dOf r1) 2),.l TRt (gl TRt (dOf r1) 3)]);
      (.node (isK 0 [HK.l Ty.str,HK.l TPt,HK.l TPt,HK.l TRt] r2)
      (let r3:OD:=(u0d [.k 0,.l TRt (gl TRt (dOf r2) 3),.n (↑(List.length (gl TRt (dOf r2) 3)):Int),.n (0:Int),.l TS (gl Ty.str (dOf r2) 0),.l TPt (gl TPt (dOf r2) 1),.l TPt (gl TPt (dOf r2) 2),.l TRt (gl TRt (dOf r2) 3)]);
       (.node (isK 0 [HK.l Ty.str,HK.l TPt,HK.l TPt,HK.l TRt] r3)
       (let r4:OD:=(r2z [.l TS (gl Ty.str (dOf r3) 0),.l TPt (gl TPt (dOf r3) 1),.l TPt (gl TPt (dOf r3) 2),.l TRt (gl TRt (dOf r3) 3)]);
        (.node (isK 0 [HK.b] r4)
        (.leaf ((0,[.b (gb (dOf r4) 0)])))
        (.bad 351)))
       (.node (isK 1 [HK.b] r3)
        (.leaf ((0,[.b (gb (dOf r3) 0)])))
        (.bad 351))))
      (.node (isK 1 [HK.b] r2)
       (.leaf ((0,[.b (gb (dOf r2) 0)])))
       (.bad 351))))
     (.node (isK 1 [HK.b] r1)
      (.leaf ((0,[.b (gb (dOf r1) 0)])))
      (.bad 351))))))))
 |_=>.bad 0
theorem o2a (l0:DS)(l1:DP)(l2:DP)(l3:DR):Imp (y2z [.l TS l0,.l TPt l1,.l TPt l2,.l TRt l3]) (g3s [.l TS l0,.l TPt l1,.l TPt l2,.l TRt l3]):=
(.nd (fun h0=>
(.pa [1,1,1,1,1,1,1]
.lf)) (fun h0=>
(.nd (fun h1=>
(.pa [1,1,1,1,1]
.lf)) (fun h1=>
(.nd (fun h2=>
(.pa [1,1,1]
.lf)) (fun h2=>
(.nd (fun h3=>
(.pa [1]
.lf)) (fun h3=>
(.nd (fun h4=>
(.nd (fun h5=>
(.nd (fun h6=>
(.nd (fun h7=>
(.pa [1,1]
.lf)) (fun h7=>
.none))) (fun h6=>
(.nd (fun h7=>
(.pa [1]
.lf)) (fun h7=>
.none))))) (fun h5=>
(.nd (fun h6=>
(.pa [1]
.lf)) (fun h6=>
.none))))) (fun h4=>
(.nd (fun h5=>
(.pa [1]
.lf)) (fun h5=>
.none))))))))))))
noncomputable def y1g:FuncId→Option a0f:=a0k 95 B26 o2n
theorem o0f:CsOk Try.prog y1g:=a0h s0b B26_ok
def g2z (f:OpT):MBox:=mkM 0 [] [(sh 132 [(1,.ptr 0 0),(3,.own 1),(4,.int .i64 0)],[laB 1,.arr TS 5])] [] [(.exit 0,sh 132 [(1,.ptr 0 0)],[laB 0]),(.ret,sh 132 [(2,.bool 0)],[])] f
noncomputable def p0r (env:LDt):Tree Step:=Lk.stepMC false LK y1g 32 5 ls0 (g2z fun _=>none) env
noncomputable def z0m:OpT:=Classical.choose (opq (a0b p0r FU))
theorem e1s (env:LDt):z0m env=a0b p0r FU env:=Classical.choose_spec (opq (a0b p0r FU)) env
noncomputable def k3i:MBox:=g2z z0m
theorem p2b:k3i=g2z (a0b p0r FU):=congrArg g2z (funext e1s)
theorem d3z: ∀t s x,(a0l k3i t s).sel=some x→a0r Try.prog 0 (.loop (cAt Try.prog 32 5)) t s x:=by
 rw[p2b]
 exact b0a (st:=p0r) (m:=FU) o0f hmix false (LsOk.none _ _ _) (by kernel_rfl) (fun env y h=>by rw[←stepMC_lk];exact h)
noncomputable def p0o:LDt→Tree Step
 |[.n n0,.l TS l1,.l TPt l2,.l TPt l3,.l TRt l4,.l TS l5]=>
  (.node (decide (n0<(↑(List.length l5):Int)))
   (let r1:OD:=(r2x [.s (List.getD l5 (Int.toNat n0) (Ty.dflt Ty.str))]);
   (.node (isK 0 [HK.b] r1)
    (.node (!gb (dOf r1) 0)
    (.leaf (Step.stop 1 [.b false]))
    (let r2:OD:=(j2s [.l TS (List.take (Int.toNat n0-0) (List.drop 0 l5)),.s (List.getD l5 (Int.toNat n0) (Ty.dflt Ty.str))]);
     (.node (isK 0 [HK.n] r2)
     (.node (decide (gn (dOf r2) 0≥(0:Int)))
      (.leaf (Step.stop 1 [.b false]))
      (.leaf (Step.go [.k 0,.n (IntKind.wrap .i64 (n0+(1:Int))),.l TS l1,.l TPt l2,.l TPt l3,.l TRt l4,.l TS l5])))
     (.bad 351))))
    (.bad 351)))
   (.leaf (Step.stop 0 [.l TS l1,.l TPt l2,.l TPt l3,.l TRt l4])))
 |_=>.bad 0
theorem m0m (n0:Int)(l1:DS)(l2:DP)(l3:DP)(l4:DR)(l5:DS)(g0:0≤n0):Imp (p0o [.n n0,.l TS l1,.l TPt l2,.l TPt l3,.l TRt l4,.l TS l5]) (p0r [.k 0,.n n0,.l TS l1,.l TPt l2,.l TPt l3,.l TRt l4,.l TS l5]):=
(.pa [1]
(.nd (fun h0=>
(.pq (c:=(inR n0 (List.length l5)))
(.nd (fun h1=>
(.pa [1]
(.nd (fun h2=>
(.pa [1,1,1,1]
.lf)) (fun h2=>
(.pq (c:=(decide ((0:Int)≤n0)&&decide (n0≤(↑(List.length l5):Int))))
(.pt (c:=(true&&decide ((0:Int)≤n0))) (by kernel_rfl) (by kernel_rfl) (by(simp[*];done))
(.pq (c:=(inR n0 (List.length l5)))
(.nd (fun h3=>
(.pa [1,1]
(.nd (fun h4=>
(.pa [1]
.lf)) (fun h4=>
(.pa [1]
.lf))))) (fun h3=>
.none))))))))) (fun h1=>
.none)))) (fun h0=>
(.pa [1]
.lf))))
def i1l (f:OpT):MBox:=mkM 0 [] [(sh 132 [(1,.ptr 0 0),(5,.int .i64 0)],[laB 1])] [] [(.exit 2,sh 132 [(1,.ptr 0 0)],[laB 0]),(.ret,sh 132 [(2,.bool 0)],[])] f
noncomputable def j0v (env:LDt):Tree Step:=Lk.stepMC false LK y1g 32 10 ls0 (i1l fun _=>none) env
noncomputable def t0k:OpT:=Classical.choose (opq (a0b j0v FU))
theorem x0v (env:LDt):t0k env=a0b j0v FU env:=Classical.choose_spec (opq (a0b j0v FU)) env
noncomputable def i2m:MBox:=i1l t0k
theorem j2z:i2m=i1l (a0b j0v FU):=congrArg i1l (funext x0v)
theorem k2b: ∀t s x,(a0l i2m t s).sel=some x→a0r Try.prog 0 (.loop (cAt Try.prog 32 10)) t s x:=by
 rw[j2z]
 exact b0a (st:=j0v) (m:=FU) o0f hmix false (LsOk.none _ _ _) (by kernel_rfl) (fun env y h=>by rw[←stepMC_lk];exact h)
noncomputable def m0h:LDt→Tree Step
 |[.n n0,.l TS l1,.l TPt l2,.l TPt l3,.l TRt l4]=>
  (.node (decide (n0<(↑(List.length l2):Int)))
   (let r1:OD:=(f1k [.l TI [Prod.snd (List.getD l2 (Int.toNat n0) (Ty.dflt TPt))],.n (↑(List.length l1):Int)]);
   (.node (isK 0 [HK.b] r1)
    (.node (!gb (dOf r1) 0)
    (.leaf (Step.stop 1 [.b false]))
    (.leaf (Step.go [.k 0,.n (IntKind.wrap .i64 (n0+(1:Int))),.l TS l1,.l TPt l2,.l TPt l3,.l TRt l4])))
    (.bad 351)))
   (.leaf (Step.stop 0 [.l TS l1,.l TPt l2,.l TPt l3,.l TRt l4])))
 |_=>.bad 0
theorem i0n (n0:Int)(l1:DS)(l2:DP)(l3:DP)(l4:DR)(g0:0≤n0):Imp (m0h [.n n0,.l TS l1,.l TPt l2,.l TPt l3,.l TRt l4]) (j0v [.k 0,.n n0,.l TS l1,.l TPt l2,.l TPt l3,.l TRt l4]):=
(.pa [1]
(.nd (fun h0=>
(.pq (c:=(inR n0 (List.length l2)))
(.nd (fun h1=>
(.pa [1,1]
(.nd (fun h2=>
(.pa [1]
.lf)) (fun h2=>
(.pa [1]
.lf))))) (fun h1=>
.none)))) (fun h0=>
(.pa [1]
.lf))))
def j1k (f:OpT):MBox:=mkM 0 [] [(sh 132 [(1,.ptr 0 0),(6,.int .i64 0)],[laB 1])] [] [(.exit 4,sh 132 [(1,.ptr 0 0)],[laB 0]),(.ret,sh 132 [(2,.bool 0)],[])] f
noncomputable def k0a (env:LDt):Tree Step:=Lk.stepMC false LK y1g 32 15 ls0 (j1k fun _=>none) env
noncomputable def u0b:OpT:=Classical.choose (opq (a0b k0a FU))
theorem x0w (env:LDt):u0b env=a0b k0a FU env:=Classical.choose_spec (opq (a0b k0a FU)) env
noncomputable def g2u:MBox:=j1k u0b
theorem l2q:g2u=j1k (a0b k0a FU):=congrArg j1k (funext x0w)
theorem j2v: ∀t s x,(a0l g2u t s).sel=some x→a0r Try.prog 0 (.loop (cAt Try.prog 32 15)) t s x:=by
 rw[l2q]
 exact b0a (st:=k0a) (m:=FU) o0f hmix false (LsOk.none _ _ _) (by kernel_rfl) (fun env y h=>by rw[←stepMC_lk];exact h)
noncomputable def l0g:LDt→Tree Step
 |[.n n0,.l TS l1,.l TPt l2,.l TPt l3,.l TRt l4]=>
  (.node (decide (n0<(↑(List.length l3):Int)))
   (let r1:OD:=(f1k [.l TI [Prod.snd (List.getD l3 (Int.toNat n0) (Ty.dflt TPt))],.n (↑(List.length l1):Int)]);
   (.node (isK 0 [HK.b] r1)
    (.node (!gb (dOf r1) 0)
    (.leaf (Step.stop 1 [.b false]))
    (.leaf (Step.go [.k 0,.n (IntKind.wrap .i64 (n0+(1:Int))),.l TS l1,.l TPt l2,.l TPt l3,.l TRt l4])))
    (.bad 351)))
   (.leaf (Step.stop 0 [.l TS l1,.l TPt l2,.l TPt l3,.l TRt l4])))
 |_=>.bad 0
theorem i0e (n0:Int)(l1:DS)(l2:DP)(l3:DP)(l4:DR)(g0:0≤n0):Imp (l0g [.n n0,.l TS l1,.l TPt l2,.l TPt l3,.l TRt l4]) (k0a [.k 0,.n n0,.l TS l1,.l TPt l2,.l TPt l3,.l TRt l4]):=
(.pa [1]
(.nd (fun h0=>
(.pq (c:=(inR n0 (List.length l3)))
(.nd (fun h1=>
(.pa [1,1]
(.nd (fun h2=>
(.pa [1]
.lf)) (fun h2=>
(.pa [1]
.lf))))) (fun h1=>
.none)))) (fun h0=>
(.pa [1]
.lf))))
def m1x (f:OpT):MBox:=mkM 0 [] [(sh 132 [(1,.ptr 0 0),(7,.int .i64 0)],[laB 1])] [] [(.exit 6,sh 132 [],[]),(.ret,sh 132 [(2,.bool 0)],[])] f
noncomputable def g0x (env:LDt):Tree Step:=Lk.stepMC false LK y1g 32 20 ls0 (m1x fun _=>none) env
noncomputable def s0p:OpT:=Classical.choose (opq (a0b g0x FU))
theorem x0o (env:LDt):s0p env=a0b g0x FU env:=Classical.choose_spec (opq (a0b g0x FU)) env
noncomputable def h2l:MBox:=m1x s0p
theorem n2i:h2l=m1x (a0b g0x FU):=congrArg m1x (funext x0o)
theorem l2h: ∀t s x,(a0l h2l t s).sel=some x→a0r Try.prog 0 (.loop (cAt Try.prog 32 20)) t s x:=by
 rw[n2i]
 exact b0a (st:=g0x) (m:=FU) o0f hmix false (LsOk.none _ _ _) (by kernel_rfl) (fun env y h=>by rw[←stepMC_lk];exact h)
noncomputable def q0y:LDt→Tree Step
 |[.n n0,.l TS l1,.l TPt l2,.l TPt l3,.l TRt l4]=>
  (.node (decide (n0<(↑(List.length l4):Int)))
   (let r1:OD:=(f1k [.l TI [Prod.fst (Prod.snd (List.getD l4 (Int.toNat n0) (Ty.dflt TRt)))],.n (↑(List.length l3):Int)]);
   (.node (isK 0 [HK.b] r1)
    (.node (!gb (dOf r1) 0)
    (.leaf (Step.stop 1 [.b false]))
    (let r2:OD:=(f1k [.l TI (Prod.fst (Prod.snd (Prod.snd (List.getD l4 (Int.toNat n0) (Ty.dflt TRt))))),.n (↑(List.length l1):Int)]);
     (.node (isK 0 [HK.b] r2)
     (.node (!gb (dOf r2) 0)
      (.leaf (Step.stop 1 [.b false]))
      (let r3:OD:=(f1k [.l TI (Prod.fst (Prod.snd (Prod.snd (Prod.snd (Prod.snd (List.getD l4 (Int.toNat n0) (Ty.dflt TRt))))))),.n (↑(List.length l1):Int)]);
      (.node (isK 0 [HK.b] r3)
       (.node (!gb (dOf r3) 0)
       (.leaf (Step.stop 1 [.b false]))
       (let r4:OD:=(m2z [.l TNd (Prod.fst (Prod.snd (Prod.snd (Prod.snd (List.getD l4 (Int.toNat n0) (Ty.dflt TRt))))))]);
        (.node (isK 0 [HK.l TI] r4)
        (let r5:OD:=(f1k [.l TI (gl TI (dOf r4) 0),.n (↑(List.length l2):Int)]);
         (.node (isK 0 [HK.b] r5)
         (.node (!gb (dOf r5) 0)
          (.leaf (Step.stop 1 [.b false]))
          (let r6:OD:=(m2z [.l TNd (Prod.snd (Prod.snd (Prod.snd (Prod.snd (Prod.snd (List.getD l4 (Int.toNat n0) (Ty.dflt TRt)))))))]);
          (.node (isK 0 [HK.l TI] r6)
           (let r7:OD:=(f1k [.l TI (gl TI (dOf r6) 0),.n (↑(List.length l2):Int)]);
           (.node (isK 0 [HK.b] r7)
            (.node (!gb (dOf r7) 0)
            (.leaf (Step.stop 1 [.b false]))
            (.leaf (Step.go [.k 0,.n (IntKind.wrap .i64 (n0+(1:Int))),.l TS l1,.l TPt l2,.l TPt l3,.l TRt l4])))
            (.bad 351)))
           (.bad 351))))
         (.bad 351)))
        (.bad 351))))
       (.bad 351))))
     (.bad 351))))
    (.bad 351)))
   (.leaf (Step.stop 0 [])))
 |_=>.bad 0
theorem q0j (n0:Int)(l1:DS)(l2:DP)(l3:DP)(l4:DR)(g0:0≤n0):Imp (q0y [.n n0,.l TS l1,.l TPt l2,.l TPt l3,.l TRt l4]) (g0x [.k 0,.n n0,.l TS l1,.l TPt l2,.l TPt l3,.l TRt l4]):=
(.pa [1]
(.nd (fun h0=>
(.pq (c:=(inR n0 (List.length l4)))
(.nd (fun h1=>
(.pa [1]
(.nd (fun h2=>
(.pa [1,1,1,1,1,1,1,1,1,1]
.lf)) (fun h2=>
(.nd (fun h3=>
(.pa [1]
(.nd (fun h4=>
(.pa [1,1,1,1,1,1,1,1]
.lf)) (fun h4=>
(.nd (fun h5=>
(.pa [1]
(.nd (fun h6=>
(.pa [1,1,1,1,1,1]
.lf)) (fun h6=>
(.nd (fun h7=>
(.pa [1]
(.nd (fun h8=>
(.pa [1]
(.nd (fun h9=>
(.pa [1,1,1,1]
.lf)) (fun h9=>
(.nd (fun h10=>
(.pa [1]
(.nd (fun h11=>
(.pa [1,1]
(.nd (fun h12=>
(.pa [1]
.lf)) (fun h12=>
(.pa [1]
.lf))))) (fun h11=>
.none)))) (fun h10=>
.none)))))) (fun h8=>
.none)))) (fun h7=>
.none)))))) (fun h5=>
.none)))))) (fun h3=>
.none)))))) (fun h1=>
.none)))) (fun h0=>
(.pa [1]
.lf))))
theorem k3t:LsOk Try.prog (z0) (lsM [(5,k3i),(10,i2m),(15,g2u),(20,h2l)] (z0)) (a0u Try.prog 32):=LsOk.many fun j B hB hk c hc hi=>by
 simp only[c0f]at hB
 split at hB
 ·rename_i e;have:=Nat.eq_of_beq_eq_true e;subst this;cases hB
  rw[b0u (f:=32) (i:=5) (a0e (by kernel_rfl)) (a0c hc hi)];exact d3z
 split at hB
 ·rename_i e;have:=Nat.eq_of_beq_eq_true e;subst this;cases hB
  rw[b0u (f:=32) (i:=10) (a0e (by kernel_rfl)) (a0c hc hi)];exact k2b
 split at hB
 ·rename_i e;have:=Nat.eq_of_beq_eq_true e;subst this;cases hB
  rw[b0u (f:=32) (i:=15) (a0e (by kernel_rfl)) (a0c hc hi)];exact j2v
 split at hB
 ·rename_i e;have:=Nat.eq_of_beq_eq_true e;subst this;cases hB
  rw[b0u (f:=32) (i:=20) (a0e (by kernel_rfl)) (a0c hc hi)];exact l2h
 cases hB
noncomputable def l3p (env:LDt):TD:=Lk.boxC false LK y1g 32 (lsM [(5,k3i),(10,i2m),(15,g2u),(20,h2l)] (z0)) (mkF [laV 0] [] [] [(.bool 0,[])] fun _=>none) env
noncomputable def k2o:OpT:=Classical.choose (opq (fun env=>(l3p env).sel))
theorem d2x (env:LDt):k2o env=(l3p env).sel:=Classical.choose_spec (opq (fun env=>(l3p env).sel)) env
noncomputable def B28:FBox:=mkF [laV 0] [] [] [(.bool 0,[])] k2o
theorem B28_ok:a0x Try.prog 32 (a0i B28):=b0c (op:=k2o) o0f hmix false (k3t) (fun env x h=>by rw[d2x]at h;rw[←boxC_lk];exact h)
noncomputable def z2j:LDt→TD
 |[.l TS l0,.l TPt l1,.l TPt l2,.l TRt l3]=>
  (let r1:OD:=(v2t [.l TS l0,.l TPt l1,.l TPt l2,.l TRt l3]);
   (.node (isK 0 [HK.b] r1)
   (.node (gb (dOf r1) 0)
    (.leaf ((0,[.b false])))
    (let r2:OD:=(d3j [.l TS l0,.l TPt l1,.l TPt l2,.l TRt l3]);
    (.node (isK 0 [HK.l Ty.str] r2)
     (let r3:OD:=(z0m [.k 0,.n (0:Int),.l TS l0,.l TPt l1,.l TPt l2,.l TRt l3,.l TS (gl Ty.str (dOf r2) 0)]);
     (.node (isK 0 [HK.l Ty.str,HK.l TPt,HK.l TPt,HK.l TRt] r3)
      (let r4:OD:=(t0k [.k 0,.n (0:Int),.l TS (gl Ty.str (dOf r3) 0),.l TPt (gl TPt (dOf r3) 1),.l TPt (gl TPt (dOf r3) 2),.l TRt (gl TRt (dOf r3) 3)]);
      (.node (isK 0 [HK.l Ty.str,HK.l TPt,HK.l TPt,HK.l TRt] r4)
       (let r5:OD:=(u0b [.k 0,.n (0:Int),.l TS (gl Ty.str (dOf r4) 0),.l TPt (gl TPt (dOf r4) 1),.l TPt (gl TPt (dOf r4) 2),.l TRt (gl TRt (dOf r4) 3)]);
       (.node (isK 0 [HK.l Ty.str,HK.l TPt,HK.l TPt,HK.l TRt] r5)
        (let r6:OD:=(s0p [.k 0,.n (0:Int),.l TS (gl Ty.str (dOf r5) 0),.l TPt (gl TPt (dOf r5) 1),.l TPt (gl TPt (dOf r5) 2),.l TRt (gl TRt (dOf r5) 3)]);
        (.node (isK 0 [] r6)
         (.leaf ((0,[.b true])))
         (.node (isK 1 [HK.b] r6)
         (.leaf ((0,[.b (gb (dOf r6) 0)])))
         (.bad 351))))
        (.node (isK 1 [HK.b] r5)
        (.leaf ((0,[.b (gb (dOf r5) 0)])))
        (.bad 351))))
       (.node (isK 1 [HK.b] r4)
       (.leaf ((0,[.b (gb (dOf r4) 0)])))
       (.bad 351))))
      (.node (isK 1 [HK.b] r3)
      (.leaf ((0,[.b (gb (dOf r3) 0)])))
      (.bad 351))))
     (.bad 351))))
   (.bad 351)))
 |_=>.bad 0
theorem k2z (l0:DS)(l1:DP)(l2:DP)(l3:DR):Imp (z2j [.l TS l0,.l TPt l1,.l TPt l2,.l TRt l3]) (l3p [.l TS l0,.l TPt l1,.l TPt l2,.l TRt l3]):=
(.nd (fun h0=>
(.pa [1]
(.nd (fun h1=>
(.pa [1]
.lf)) (fun h1=>
(.nd (fun h2=>
(.pa [1]
(.nd (fun h3=>
(.nd (fun h4=>
(.nd (fun h5=>
(.nd (fun h6=>
(.pa [1]
.lf)) (fun h6=>
(.nd (fun h7=>
(.pa [1]
.lf)) (fun h7=>
.none))))) (fun h5=>
(.nd (fun h6=>
(.pa [1]
.lf)) (fun h6=>
.none))))) (fun h4=>
(.nd (fun h5=>
(.pa [1]
.lf)) (fun h5=>
.none))))) (fun h3=>
(.nd (fun h4=>
(.pa [1]
.lf)) (fun h4=>
.none)))))) (fun h2=>
.none)))))) (fun h0=>
.none))
noncomputable def cs_28:FuncId→Option a0f:=a0k 32 B28 y1g
theorem f2h:CsOk Try.prog cs_28:=a0h o0f B28_ok
end Go.Proofs.Ytcbhgaeiokfcdaa.Vx
