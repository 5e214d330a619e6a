import Derived.Test.YtplcpifjiodhcaaGreatVxIm
import Derived.Test.YtplcpifjiodhcaaGreatVxLk
import Derived.Test.YtplcpifjiodhcaaGreatVxLaw
import Derived.KernelRfl
noncomputable section
namespace Go.Proofs.YtplcpifjiodhcaaGreat.Vx
open Go Go.RowKit
set_option linter.unusedVariables false
set_option linter.unusedSimpArgs false
set_option maxRecDepth 100000
set_option maxHeartbeats 0
abbrev TS:Ty:=.str
abbrev TI:Ty:=.int .i64
abbrev TNd:Ty:=.pair (.int .i64) .bool
abbrev TPt:Ty:=.pair .str (.int .i64)
abbrev TRt:Ty:=.pair .str (.pair (.int .i64) (.pair (.sl (.int .i64)) (.pair (.sl (.pair (.int .i64) .bool)) (.pair (.sl (.int .i64)) (.sl (.pair (.int .i64) .bool))))))
def mgI (k:ByteArray)(l:List (Ty.den TPt)):Int:=mget Ty.str TI k l
theorem Imp.nd {α:Type}{T E x:Tree α}{c:Bool}(a:c=true→Imp T x.th)(b:c=false→Imp E x.el)(h:x.isNode=true:=by kernel_rfl)(e:x.cd=c:=by kernel_rfl):Imp (.node c T E) x:=.node h e a b
theorem Imp.lf {α:Type}{x:Tree α}{y:α}(h:x.sel=some y:=by kernel_rfl):Imp (.leaf y) x:=.leaf h
theorem Imp.pa {α:Type}{T x:Tree α}(l:List Nat)(a:Imp T (x.walk l))(h:x.okPath l=true:=by kernel_rfl):Imp T x:=.path l h a
def laV (h:Nat):PV:=.agg [.imm TS h,.imm TPt (h+1),.imm TPt (h+2),.imm TRt (h+3)]
def laB (h:Nat):PB:=.cells [.imm TS h,.imm TPt (h+1),.imm TPt (h+2),.imm TRt (h+3)]
theorem hmix:Tryz.prog.follows .mixedOrders=true:=by kernel_rfl
theorem v0d:CsOk Tryz.prog h0b:=d1h _
def v2g (env:List Dat):Tree (Nat×List Dat):=Lk.boxC false LK h0b 157 ls0 (mkF [.int .i32 0] [] [] [(.bool 0,[])] fun _=>none) env
theorem k3o: ∃f:List Dat→Option (Nat×List Dat),∀env,f env=(v2g env).sel:=⟨fun env=>(v2g env).sel,fun _=>rfl⟩
def j2c:List Dat→Option (Nat×List Dat):=Classical.choose k3o
theorem v1v (env:List Dat):j2c env=(v2g env).sel:=Classical.choose_spec k3o env
def B60:FBox:=mkF [.int .i32 0] [] [] [(.bool 0,[])] j2c
theorem B60_ok:a0v Tryz.prog 157 (a0j B60):=a0p (op:=j2c) v0d hmix false (LsOk.none _ _ _) (fun env x h=>by rw[v1v]at h;rw[←boxC_lk];exact h)
def l2c:List Dat→Tree (Nat×List Dat)
 |[.n n0]=>
  (.node (n0==(58:Int))
   (.leaf ((0,[.b false])))
   (.node (n0==(35:Int))
   (.leaf ((0,[.b false])))
   (.node (n0==(43:Int))
    (.leaf ((0,[.b false])))
    (.node (n0==(45:Int))
    (.leaf ((0,[.b false])))
    (.node (n0==(65533:Int))
     (.leaf ((0,[.b false])))
     (.node (decide (n0>(32:Int)))
     (.node (decide (n0<(127:Int)))
      (.leaf ((0,[.b true])))
      (.leaf ((0,[.b (decide (n0>(160:Int)))]))))
     (.leaf ((0,[.b false])))))))))
 |_=>.bad 0
theorem c2x (n0:Int):Imp (l2c [.n n0]) (v2g [.n n0]):=
(.nd (fun h0=>
(.pt (by kernel_rfl) (by kernel_rfl) h0
(.pa [1]
.lf))) (fun h0=>
(.nd (fun h1=>
(.pt (by kernel_rfl) (by kernel_rfl) h1
(.pa [1]
.lf))) (fun h1=>
(.nd (fun h2=>
(.pt (by kernel_rfl) (by kernel_rfl) h2
(.pa [1]
.lf))) (fun h2=>
(.nd (fun h3=>
(.pt (by kernel_rfl) (by kernel_rfl) h3
(.pa [1]
.lf))) (fun h3=>
(.nd (fun h4=>
(.pa [1]
.lf)) (fun h4=>
(.nd (fun h5=>
(.nd (fun h6=>
(.pa [1,1]
.lf)) (fun h6=>
(.pa [1]
.lf)))) (fun h5=>
(.pa [0,1]
.lf)))))))))))))
def cs_60:FuncId→Option a0q:=a0s 157 B60 h0b
theorem t1w:CsOk Tryz.prog cs_60:=a0g v0d B60_ok
def s2z (env:List Dat):Tree (Nat×List Dat):=Lk.boxC false LK cs_60 99 ls0 (mkF [.int .i32 0] [] [] [(.bool 0,[])] fun _=>none) env
theorem l3s: ∃f:List Dat→Option (Nat×List Dat),∀env,f env=(s2z env).sel:=⟨fun env=>(s2z env).sel,fun _=>rfl⟩
def k2y:List Dat→Option (Nat×List Dat):=Classical.choose l3s
theorem w1i (env:List Dat):k2y env=(s2z env).sel:=Classical.choose_spec l3s env
def B59:FBox:=mkF [.int .i32 0] [] [] [(.bool 0,[])] k2y
theorem B59_ok:a0v Tryz.prog 99 (a0j B59):=a0p (op:=k2y) t1w hmix false (LsOk.none _ _ _) (fun env x h=>by rw[w1i]at h;rw[←boxC_lk];exact h)
def o2q:List Dat→Tree (Nat×List Dat)
 |[.n n0]=>
  (.node (decide (n0≥(33:Int)))
   (.node (n0 !=(58:Int))
   (.node (n0 !=(35:Int))
    (.node (n0 !=(43:Int))
    (.node (n0 !=(45:Int))
     (.node (n0 !=(65533:Int))
     (.node (decide (n0<(127:Int)))
      (.leaf ((0,[.b true])))
      (.leaf ((0,[.b (decide (n0>(160:Int)))]))))
     (.leaf ((0,[.b false]))))
     (.leaf ((0,[.b false]))))
    (.leaf ((0,[.b false]))))
    (.leaf ((0,[.b false]))))
   (.leaf ((0,[.b false]))))
   (.leaf ((0,[.b false]))))
 |_=>.bad 0
theorem f2u (n0:Int):Imp (o2q [.n n0]) (s2z [.n n0]):=
(.nd (fun h0=>
(.nd (fun h1=>
(.nd (fun h2=>
(.nd (fun h3=>
(.nd (fun h4=>
(.nd (fun h5=>
(.nd (fun h6=>
(.pa [1,1]
.lf)) (fun h6=>
(.pa [1]
.lf)))) (fun h5=>
(.pa [0,1]
.lf)))) (fun h4=>
(.pa [0,0,0,1]
.lf)))) (fun h3=>
(.pa [0,0,0,0,0,1]
.lf)))) (fun h2=>
(.pa [0,0,0,0,0,0,0,1]
.lf)))) (fun h1=>
(.pa [0,0,0,0,0,0,0,0,0,1]
.lf)))) (fun h0=>
(.pa [0,0,0,0,0,0,0,0,0,0,0,1]
.lf)))
def u2w:FuncId→Option a0q:=a0s 99 B59 cs_60
theorem k1o:CsOk Tryz.prog u2w:=a0g t1w B59_ok
def d0h (env:List Dat):Tree Step:=Lk.stepMC false LK u2w 146 3 ls0 (mkM 0 [] [(sh 22 [(0,.str 0),(3,.int .i64 1),(7,.itr 0)],[.iter 2 3])] [] [(.exit 0,sh 22 [(3,.int .i64 0)],[]),(.ret,sh 22 [(2,.bool 0)],[])] fun _=>none) env
theorem i3w: ∃f:List Dat→Option (Nat×List Dat),∀env,f env=a0b d0h FU env:=⟨a0b d0h FU,fun _=>rfl⟩
def y0l:List Dat→Option (Nat×List Dat):=Classical.choose i3w
theorem a1z (env:List Dat):y0l env=a0b d0h FU env:=Classical.choose_spec i3w env
def r2v:MBox:=mkM 0 [] [(sh 22 [(0,.str 0),(3,.int .i64 1),(7,.itr 0)],[.iter 2 3])] [] [(.exit 0,sh 22 [(3,.int .i64 0)],[]),(.ret,sh 22 [(2,.bool 0)],[])] y0l
theorem j2g:r2v=mkM 0 [] [(sh 22 [(0,.str 0),(3,.int .i64 1),(7,.itr 0)],[.iter 2 3])] [] [(.exit 0,sh 22 [(3,.int .i64 0)],[]),(.ret,sh 22 [(2,.bool 0)],[])] (a0b d0h FU):=congrArg (fun f=>mkM 0 [] [(sh 22 [(0,.str 0),(3,.int .i64 1),(7,.itr 0)],[.iter 2 3])] [] [(.exit 0,sh 22 [(3,.int .i64 0)],[]),(.ret,sh 22 [(2,.bool 0)],[])] f) (funext a1z)
theorem g2x: ∀t s x,(a0h r2v t s).sel=some x→a0k Tryz.prog 0 (.loop (cAt Tryz.prog 146 3)) t s x:=by
 rw[j2g]
 exact a0o (st:=d0h) (m:=FU) k1o hmix false (LsOk.none _ _ _) (by kernel_rfl) (fun env y h=>by rw[←stepMC_lk];exact h)
def f0t:List Dat→Tree Step
 |[.s s0,.n n1,.n n2]=>
  (.node (decide (n2<(↑(ByteArray.size s0):Int)))
   (.node (decide (IntKind.wrap .i64 (n1+(1:Int))>(16:Int)))
   (.leaf (Step.stop 1 [.b false]))
   (let r1:Option (Nat×List Dat):=(j2c [.n (decC s0 n2)]);
    (.node (isK 0 [HK.b] r1)
    (.node (!gb (dOf r1) 0)
     (.leaf (Step.stop 1 [.b false]))
     (.leaf (Step.go [.k 0,.s s0,.n (IntKind.wrap .i64 (n1+(1:Int))),.s s0,.n (n2+decW s0 n2)])))
    (.bad 351))))
   (.leaf (Step.stop 0 [.n n1])))
 |_=>.bad 0
theorem e0e (s0:ByteArray)(n1:Int)(n2:Int):Imp (f0t [.s s0,.n n1,.n n2]) (d0h [.k 0,.s s0,.n n1,.s s0,.n n2]):=
(.pa [1]
(.nd (fun h0=>
(.pa [1]
(.nd (fun h1=>
(.pa [1,1,1]
.lf)) (fun h1=>
(.nd (fun h2=>
(.pa [1]
(.nd (fun h3=>
(.pa [1]
.lf)) (fun h3=>
(.pa [1]
.lf))))) (fun h2=>
.none)))))) (fun h0=>
(.pa [0,1]
.lf))))
theorem v2l:LsOk Tryz.prog (List.length ([]:List PB)) (lsM [(3,r2v)] (List.length ([]:List PB))) (a0r Tryz.prog 146):=LsOk.many fun j B hB hk c hc hi=>by
 simp only[b0d]at hB
 split at hB
 ·rename_i e;have:=Nat.eq_of_beq_eq_true e;subst this;cases hB
  have e1:p0c Tryz.prog 146 3=[cAt Tryz.prog 146 3]:=a0e (by kernel_rfl)
  have e2:c∈p0c Tryz.prog 146 3:=a0d hc hi
  rw[e1]at e2;cases List.mem_singleton.1 e2;exact g2x
 cases hB
def v2v (env:List Dat):Tree (Nat×List Dat):=Lk.boxC false LK u2w 146 (lsM [(3,r2v)] (List.length ([]:List PB))) (mkF [.str 0] [] [] [(.bool 0,[])] fun _=>none) env
theorem k3t: ∃f:List Dat→Option (Nat×List Dat),∀env,f env=(v2v env).sel:=⟨fun env=>(v2v env).sel,fun _=>rfl⟩
def j2u:List Dat→Option (Nat×List Dat):=Classical.choose k3t
theorem y1r (env:List Dat):j2u env=(v2v env).sel:=Classical.choose_spec k3t env
def B50:FBox:=mkF [.str 0] [] [] [(.bool 0,[])] j2u
theorem B50_ok:a0v Tryz.prog 146 (a0j B50):=a0p (op:=j2u) k1o hmix false (v2l) (fun env x h=>by rw[y1r]at h;rw[←boxC_lk];exact h)
def k2c:List Dat→Tree (Nat×List Dat)
 |[.s s0]=>
  (let r1:Option (Nat×List Dat):=(y0l [.k 0,.s s0,.n (0:Int),.s s0,.n (0:Int)]);
   (.node (isK 0 [HK.n] r1)
   (.leaf ((0,[.b (decide (gn (dOf r1) 0>(0:Int)))])))
   (.node (isK 1 [HK.b] r1)
    (.leaf ((0,[.b (gb (dOf r1) 0)])))
    (.bad 351))))
 |_=>.bad 0
theorem e2n (s0:ByteArray):Imp (k2c [.s s0]) (v2v [.s s0]):=
(.nd (fun h0=>
(.pa [1]
.lf)) (fun h0=>
(.nd (fun h1=>
(.pa [1]
.lf)) (fun h1=>
.none))))
def u2t:FuncId→Option a0q:=a0s 146 B50 u2w
theorem k1h:CsOk Tryz.prog u2t:=a0g k1o B50_ok
def d0s (env:List Dat):Tree Step:=Lk.stepMC false LK u2t 68 3 ls0 (mkM 0 [] [(sh 22 [(0,.str 0),(3,.int .i64 1),(7,.itr 0)],[.iter 2 3])] [] [(.exit 0,sh 22 [(3,.int .i64 0)],[]),(.ret,sh 22 [(2,.bool 0)],[])] fun _=>none) env
theorem i3q: ∃f:List Dat→Option (Nat×List Dat),∀env,f env=a0b d0s FU env:=⟨a0b d0s FU,fun _=>rfl⟩
def y0p:List Dat→Option (Nat×List Dat):=Classical.choose i3q
theorem c1v (env:List Dat):y0p env=a0b d0s FU env:=Classical.choose_spec i3q env
def s2u:MBox:=mkM 0 [] [(sh 22 [(0,.str 0),(3,.int .i64 1),(7,.itr 0)],[.iter 2 3])] [] [(.exit 0,sh 22 [(3,.int .i64 0)],[]),(.ret,sh 22 [(2,.bool 0)],[])] y0p
theorem m2n:s2u=mkM 0 [] [(sh 22 [(0,.str 0),(3,.int .i64 1),(7,.itr 0)],[.iter 2 3])] [] [(.exit 0,sh 22 [(3,.int .i64 0)],[]),(.ret,sh 22 [(2,.bool 0)],[])] (a0b d0s FU):=congrArg (fun f=>mkM 0 [] [(sh 22 [(0,.str 0),(3,.int .i64 1),(7,.itr 0)],[.iter 2 3])] [] [(.exit 0,sh 22 [(3,.int .i64 0)],[]),(.ret,sh 22 [(2,.bool 0)],[])] f) (funext c1v)
theorem n2f: ∀t s x,(a0h s2u t s).sel=some x→a0k Tryz.prog 0 (.loop (cAt Tryz.prog 68 3)) t s x:=by
 rw[m2n]
 exact a0o (st:=d0s) (m:=FU) k1h hmix false (LsOk.none _ _ _) (by kernel_rfl) (fun env y h=>by rw[←stepMC_lk];exact h)
def j0a:List Dat→Tree Step
 |[.s s0,.n n1,.n n2]=>
  (.node (decide (n2<(↑(ByteArray.size s0):Int)))
   (let r1:Option (Nat×List Dat):=(k2y [.n (decC s0 n2)]);
   (.node (isK 0 [HK.b] r1)
    (.node (!gb (dOf r1) 0)
    (.leaf (Step.stop 1 [.b false]))
    (.leaf (Step.go [.k 0,.s s0,.n (IntKind.wrap .i64 (n1+(1:Int))),.s s0,.n (n2+decW s0 n2)])))
    (.bad 351)))
   (.leaf (Step.stop 0 [.n n1])))
 |_=>.bad 0
theorem f0q (s0:ByteArray)(n1:Int)(n2:Int):Imp (j0a [.s s0,.n n1,.n n2]) (d0s [.k 0,.s s0,.n n1,.s s0,.n n2]):=
(.pa [1]
(.nd (fun h0=>
(.pa [1]
(.nd (fun h1=>
(.pa [1]
(.nd (fun h2=>
(.pa [1]
.lf)) (fun h2=>
(.pa [1]
.lf))))) (fun h1=>
.none)))) (fun h0=>
(.pa [0,1]
.lf))))
theorem r2u:LsOk Tryz.prog (List.length ([]:List PB)) (lsM [(3,s2u)] (List.length ([]:List PB))) (a0r Tryz.prog 68):=LsOk.many fun j B hB hk c hc hi=>by
 simp only[b0d]at hB
 split at hB
 ·rename_i e;have:=Nat.eq_of_beq_eq_true e;subst this;cases hB
  have e1:p0c Tryz.prog 68 3=[cAt Tryz.prog 68 3]:=a0e (by kernel_rfl)
  have e2:c∈p0c Tryz.prog 68 3:=a0d hc hi
  rw[e1]at e2;cases List.mem_singleton.1 e2;exact n2f
 cases hB
def t2p (env:List Dat):Tree (Nat×List Dat):=Lk.boxC false LK u2t 68 (lsM [(3,s2u)] (List.length ([]:List PB))) (mkF [.str 0] [] [] [(.bool 0,[])] fun _=>none) env
theorem l3o: ∃f:List Dat→Option (Nat×List Dat),∀env,f env=(t2p env).sel:=⟨fun env=>(t2p env).sel,fun _=>rfl⟩
def o2p:List Dat→Option (Nat×List Dat):=Classical.choose l3o
theorem u1j (env:List Dat):o2p env=(t2p env).sel:=Classical.choose_spec l3o env
def B42:FBox:=mkF [.str 0] [] [] [(.bool 0,[])] o2p
theorem B42_ok:a0v Tryz.prog 68 (a0j B42):=a0p (op:=o2p) k1h hmix false (r2u) (fun env x h=>by rw[u1j]at h;rw[←boxC_lk];exact h)
def k2e:List Dat→Tree (Nat×List Dat)
 |[.s s0]=>
  (let r1:Option (Nat×List Dat):=(y0p [.k 0,.s s0,.n (0:Int),.s s0,.n (0:Int)]);
   (.node (isK 0 [HK.n] r1)
   (.node (decide (gn (dOf r1) 0≥(1:Int)))
    (.leaf ((0,[.b (decide (gn (dOf r1) 0≤(16:Int)))])))
    (.leaf ((0,[.b false]))))
   (.node (isK 1 [HK.b] r1)
    (.leaf ((0,[.b (gb (dOf r1) 0)])))
    (.bad 351))))
 |_=>.bad 0
theorem d2f (s0:ByteArray):Imp (k2e [.s s0]) (t2p [.s s0]):=
(.nd (fun h0=>
(.nd (fun h1=>
(.pa [1]
.lf)) (fun h1=>
(.pa [0,1]
.lf)))) (fun h0=>
(.nd (fun h1=>
(.pa [1]
.lf)) (fun h1=>
.none))))
def r2a:FuncId→Option a0q:=a0s 68 B42 u2t
theorem h1a:CsOk Tryz.prog r2a:=a0g k1h B42_ok
def o0a (env:List Dat):Tree Step:=Lk.stepMC false LK r2a 70 2 ls0 (mkM 0 [] [(sh 32 [(0,.imm TI 0),(1,.int .i64 1),(5,.int .i64 2)],[])] [] [(.exit 0,sh 32 [(0,.imm TI 0)],[]),(.ret,sh 32 [(4,.bool 0)],[])] fun _=>none) env
theorem i3v: ∃f:List Dat→Option (Nat×List Dat),∀env,f env=a0b o0a FU env:=⟨a0b o0a FU,fun _=>rfl⟩
def y0d:List Dat→Option (Nat×List Dat):=Classical.choose i3v
theorem d1g (env:List Dat):y0d env=a0b o0a FU env:=Classical.choose_spec i3v env
def u2o:MBox:=mkM 0 [] [(sh 32 [(0,.imm TI 0),(1,.int .i64 1),(5,.int .i64 2)],[])] [] [(.exit 0,sh 32 [(0,.imm TI 0)],[]),(.ret,sh 32 [(4,.bool 0)],[])] y0d
theorem i2n:u2o=mkM 0 [] [(sh 32 [(0,.imm TI 0),(1,.int .i64 1),(5,.int .i64 2)],[])] [] [(.exit 0,sh 32 [(0,.imm TI 0)],[]),(.ret,sh 32 [(4,.bool 0)],[])] (a0b o0a FU):=congrArg (fun f=>mkM 0 [] [(sh 32 [(0,.imm TI 0),(1,.int .i64 1),(5,.int .i64 2)],[])] [] [(.exit 0,sh 32 [(0,.imm TI 0)],[]),(.ret,sh 32 [(4,.bool 0)],[])] f) (funext d1g)
theorem m2x: ∀t s x,(a0h u2o t s).sel=some x→a0k Tryz.prog 0 (.loop (cAt Tryz.prog 70 2)) t s x:=by
 rw[i2n]
 exact a0o (st:=o0a) (m:=FU) h1a hmix false (LsOk.none _ _ _) (by kernel_rfl) (fun env y h=>by rw[←stepMC_lk];exact h)
def o0m:List Dat→Tree Step
 |[.l (Ty.int IntKind.i64) l0,.n n1,.n n2]=>
  (.node (decide (n2<(↑(List.length l0):Int)))
   (.node (decide (n2<(17:Int)))
   (.node (decide ((List.getD l0 (Int.toNat n2) (0:Int):Int)<(0:Int)))
    (.leaf (Step.stop 1 [.b false]))
    (.node (decide ((List.getD l0 (Int.toNat n2) (0:Int):Int)≥n1))
    (.leaf (Step.stop 1 [.b false]))
    (.leaf (Step.go [.k 0,.l TI l0,.n n1,.n (IntKind.wrap .i64 (n2+(1:Int)))]))))
   (.leaf (Step.stop 0 [.l TI l0])))
   (.leaf (Step.stop 0 [.l TI l0])))
 |_=>.bad 0
theorem j0m (l0:List (Ty.den TI))(n1:Int)(n2:Int)(g0:0≤n2):Imp (o0m [.l TI l0,.n n1,.n n2]) (o0a [.k 0,.l TI l0,.n n1,.n n2]):=
(.pa [1]
(.nd (fun h0=>
(.nd (fun h1=>
(.pt (c:=(inR n2 (List.length l0))) (by kernel_rfl) (by kernel_rfl) (by(simp only[w64d,decide_eq_true_eq,decide_eq_false_iff_not,beq_iff_eq,beq_eq_false_iff_ne,bne_iff_ne,ne_eq,inR,Bool.and_eq_true,Bool.and_eq_false_iff,Bool.not_eq_true',Bool.not_eq_false',Bool.not_eq_eq_eq_not,Bool.not_true,Bool.not_false]at*;omega))
(.nd (fun h2=>
(.pa [1,1,1]
.lf)) (fun h2=>
(.pt (c:=(inR n2 (List.length l0))) (by kernel_rfl) (by kernel_rfl) (by(simp only[w64d,decide_eq_true_eq,decide_eq_false_iff_not,beq_iff_eq,beq_eq_false_iff_ne,bne_iff_ne,ne_eq,inR,Bool.and_eq_true,Bool.and_eq_false_iff,Bool.not_eq_true',Bool.not_eq_false',Bool.not_eq_eq_eq_not,Bool.not_true,Bool.not_false]at*;omega))
(.nd (fun h3=>
(.pa [1]
.lf)) (fun h3=>
(.pa [1]
.lf)))))))) (fun h1=>
(.pa [1]
.lf)))) (fun h0=>
(.pa [0,0,1]
.lf))))
theorem v2r:LsOk Tryz.prog (List.length ([]:List PB)) (lsM [(2,u2o)] (List.length ([]:List PB))) (a0r Tryz.prog 70):=LsOk.many fun j B hB hk c hc hi=>by
 simp only[b0d]at hB
 split at hB
 ·rename_i e;have:=Nat.eq_of_beq_eq_true e;subst this;cases hB
  have e1:p0c Tryz.prog 70 2=[cAt Tryz.prog 70 2]:=a0e (by kernel_rfl)
  have e2:c∈p0c Tryz.prog 70 2:=a0d hc hi
  rw[e1]at e2;cases List.mem_singleton.1 e2;exact m2x
 cases hB
def t2l (env:List Dat):Tree (Nat×List Dat):=Lk.boxC false LK r2a 70 (lsM [(2,u2o)] (List.length ([]:List PB))) (mkF [.imm TI 0,.int .i64 1] [] [] [(.bool 0,[])] fun _=>none) env
theorem k3w: ∃f:List Dat→Option (Nat×List Dat),∀env,f env=(t2l env).sel:=⟨fun env=>(t2l env).sel,fun _=>rfl⟩
def a1t:List Dat→Option (Nat×List Dat):=Classical.choose k3w
theorem t1r (env:List Dat):a1t env=(t2l env).sel:=Classical.choose_spec k3w env
def B44:FBox:=mkF [.imm TI 0,.int .i64 1] [] [] [(.bool 0,[])] a1t
theorem B44_ok:a0v Tryz.prog 70 (a0j B44):=a0p (op:=a1t) h1a hmix false (v2r) (fun env x h=>by rw[t1r]at h;rw[←boxC_lk];exact h)
def p2f:List Dat→Tree (Nat×List Dat)
 |[.l (Ty.int IntKind.i64) l0,.n n1]=>
  (let r1:Option (Nat×List Dat):=(y0d [.k 0,.l TI l0,.n n1,.n (0:Int)]);
   (.node (isK 0 [HK.l TI] r1)
   (.leaf ((0,[.b (decide ((↑(List.length (gl TI (dOf r1) 0)):Int)≤(16:Int)))])))
   (.node (isK 1 [HK.b] r1)
    (.leaf ((0,[.b (gb (dOf r1) 0)])))
    (.bad 351))))
 |_=>.bad 0
theorem c2d (l0:List (Ty.den TI))(n1:Int):Imp (p2f [.l TI l0,.n n1]) (t2l [.l TI l0,.n n1]):=
(.nd (fun h0=>
(.pa [1]
.lf)) (fun h0=>
(.nd (fun h1=>
(.pa [1]
.lf)) (fun h1=>
.none))))
def t2r:FuncId→Option a0q:=a0s 70 B44 r2a
theorem h1b:CsOk Tryz.prog t2r:=a0g h1a B44_ok
def n0a (env:List Dat):Tree Step:=Lk.stepMC false LK t2r 69 2 ls0 (mkM 0 [] [(sh 19 [(0,.imm TS 0),(1,.str 1),(5,.int .i64 2)],[])] [] [(.exit 0,sh 19 [],[]),(.ret,sh 19 [(4,.int .i64 0)],[])] fun _=>none) env
theorem j3d: ∃f:List Dat→Option (Nat×List Dat),∀env,f env=a0b n0a FU env:=⟨a0b n0a FU,fun _=>rfl⟩
def q0w:List Dat→Option (Nat×List Dat):=Classical.choose j3d
theorem q0e (env:List Dat):q0w env=a0b n0a FU env:=Classical.choose_spec j3d env
def r2r:MBox:=mkM 0 [] [(sh 19 [(0,.imm TS 0),(1,.str 1),(5,.int .i64 2)],[])] [] [(.exit 0,sh 19 [],[]),(.ret,sh 19 [(4,.int .i64 0)],[])] q0w
theorem k2k:r2r=mkM 0 [] [(sh 19 [(0,.imm TS 0),(1,.str 1),(5,.int .i64 2)],[])] [] [(.exit 0,sh 19 [],[]),(.ret,sh 19 [(4,.int .i64 0)],[])] (a0b n0a FU):=congrArg (fun f=>mkM 0 [] [(sh 19 [(0,.imm TS 0),(1,.str 1),(5,.int .i64 2)],[])] [] [(.exit 0,sh 19 [],[]),(.ret,sh 19 [(4,.int .i64 0)],[])] f) (funext q0e)
theorem o2c: ∀t s x,(a0h r2r t s).sel=some x→a0k Tryz.prog 0 (.loop (cAt Tryz.prog 69 2)) t s x:=by
 rw[k2k]
 exact a0o (st:=n0a) (m:=FU) h1b hmix false (LsOk.none _ _ _) (by kernel_rfl) (fun env y h=>by rw[←stepMC_lk];exact h)
def i0s:List Dat→Tree Step
 |[.l (Ty.str) l0,.s s1,.n n2]=>
  (.node (decide (n2<(↑(List.length l0):Int)))
   (.node (f0b (List.getD l0 (Int.toNat n2) (Ty.dflt Ty.str)) s1)
   (.leaf (Step.stop 1 [.n n2]))
   (.leaf (Step.go [.k 0,.l Ty.str l0,.s s1,.n (IntKind.wrap .i64 (n2+(1:Int)))])))
   (.leaf (Step.stop 0 [])))
 |_=>.bad 0
theorem f0m (l0:List (Ty.den TS))(s1:ByteArray)(n2:Int)(g0:0≤n2):Imp (i0s [.l TS l0,.s s1,.n n2]) (n0a [.k 0,.l TS l0,.s s1,.n n2]):=
(.pa [1]
(.nd (fun h0=>
(.pt (c:=(inR n2 (List.length l0))) (by kernel_rfl) (by kernel_rfl) (by(simp only[w64d,decide_eq_true_eq,decide_eq_false_iff_not,beq_iff_eq,beq_eq_false_iff_ne,bne_iff_ne,ne_eq,inR,Bool.and_eq_true,Bool.and_eq_false_iff,Bool.not_eq_true',Bool.not_eq_false',Bool.not_eq_eq_eq_not,Bool.not_true,Bool.not_false]at*;omega))
(.nd (fun h1=>
(.pa [1]
.lf)) (fun h1=>
(.pa [1]
.lf))))) (fun h0=>
(.pa [1]
.lf))))
theorem v2x:LsOk Tryz.prog (List.length ([]:List PB)) (lsM [(2,r2r)] (List.length ([]:List PB))) (a0r Tryz.prog 69):=LsOk.many fun j B hB hk c hc hi=>by
 simp only[b0d]at hB
 split at hB
 ·rename_i e;have:=Nat.eq_of_beq_eq_true e;subst this;cases hB
  have e1:p0c Tryz.prog 69 2=[cAt Tryz.prog 69 2]:=a0e (by kernel_rfl)
  have e2:c∈p0c Tryz.prog 69 2:=a0d hc hi
  rw[e1]at e2;cases List.mem_singleton.1 e2;exact o2c
 cases hB
def t2x (env:List Dat):Tree (Nat×List Dat):=Lk.boxC false LK t2r 69 (lsM [(2,r2r)] (List.length ([]:List PB))) (mkF [.imm TS 0,.str 1] [] [] [(.int .i64 0,[])] fun _=>none) env
theorem l3l: ∃f:List Dat→Option (Nat×List Dat),∀env,f env=(t2x env).sel:=⟨fun env=>(t2x env).sel,fun _=>rfl⟩
def c2l:List Dat→Option (Nat×List Dat):=Classical.choose l3l
theorem h1q (env:List Dat):c2l env=(t2x env).sel:=Classical.choose_spec l3l env
def B43:FBox:=mkF [.imm TS 0,.str 1] [] [] [(.int .i64 0,[])] c2l
theorem B43_ok:a0v Tryz.prog 69 (a0j B43):=a0p (op:=c2l) h1b hmix false (v2x) (fun env x h=>by rw[h1q]at h;rw[←boxC_lk];exact h)
def q1q:List Dat→Tree (Nat×List Dat)
 |[.l (Ty.str) l0,.s s1]=>
  (let r1:Option (Nat×List Dat):=(q0w [.k 0,.l Ty.str l0,.s s1,.n (0:Int)]);
   (.node (isK 0 [] r1)
   (.leaf ((0,[.n (-1:Int)])))
   (.node (isK 1 [HK.n] r1)
    (.leaf ((0,[.n (gn (dOf r1) 0)])))
    (.bad 351))))
 |_=>.bad 0
theorem f1j (l0:List (Ty.den TS))(s1:ByteArray):Imp (q1q [.l TS l0,.s s1]) (t2x [.l TS l0,.s s1]):=
(.nd (fun h0=>
(.pa [1]
.lf)) (fun h0=>
(.nd (fun h1=>
(.pa [1]
.lf)) (fun h1=>
.none))))
def s2x:FuncId→Option a0q:=a0s 69 B43 t2r
theorem i1z:CsOk Tryz.prog s2x:=a0g h1b B43_ok
def o0i (env:List Dat):Tree Step:=Lk.stepMC false LK s2x 144 4 ls0 (mkM 0 [] [(sh 23 [(2,.ptr 0 0),(10,.imm TI 0),(11,.int .i64 1),(12,.int .i64 2)],[laB 3])] [] [(.exit 0,sh 23 [],[]),(.ret,sh 23 [(4,.bool 0)],[])] fun _=>none) env
theorem j3a: ∃f:List Dat→Option (Nat×List Dat),∀env,f env=a0b o0i FU env:=⟨a0b o0i FU,fun _=>rfl⟩
def y0t:List Dat→Option (Nat×List Dat):=Classical.choose j3a
theorem c1j (env:List Dat):y0t env=a0b o0i FU env:=Classical.choose_spec j3a env
def t2b:MBox:=mkM 0 [] [(sh 23 [(2,.ptr 0 0),(10,.imm TI 0),(11,.int .i64 1),(12,.int .i64 2)],[laB 3])] [] [(.exit 0,sh 23 [],[]),(.ret,sh 23 [(4,.bool 0)],[])] y0t
theorem o2y:t2b=mkM 0 [] [(sh 23 [(2,.ptr 0 0),(10,.imm TI 0),(11,.int .i64 1),(12,.int .i64 2)],[laB 3])] [] [(.exit 0,sh 23 [],[]),(.ret,sh 23 [(4,.bool 0)],[])] (a0b o0i FU):=congrArg (fun f=>mkM 0 [] [(sh 23 [(2,.ptr 0 0),(10,.imm TI 0),(11,.int .i64 1),(12,.int .i64 2)],[laB 3])] [] [(.exit 0,sh 23 [],[]),(.ret,sh 23 [(4,.bool 0)],[])] f) (funext c1j)
theorem g2r: ∀t s x,(a0h t2b t s).sel=some x→a0k Tryz.prog 0 (.loop (cAt Tryz.prog 144 4)) t s x:=by
 rw[o2y]
 exact a0o (st:=o0i) (m:=FU) i1z hmix false (LsOk.none _ _ _) (by kernel_rfl) (fun env y h=>by rw[←stepMC_lk];exact h)
def n0w:List Dat→Tree Step
 |[.l (Ty.int IntKind.i64) l0,.n n1,.n n2,.l (Ty.str) l3,.l (Ty.pair Ty.str (Ty.int IntKind.i64)) l4,.l (Ty.pair Ty.str (Ty.int IntKind.i64)) l5,.l (Ty.pair Ty.str (Ty.pair (Ty.int IntKind.i64) (Ty.pair (Ty.sl (Ty.int IntKind.i64)) (Ty.pair (Ty.sl (Ty.pair (Ty.int IntKind.i64) Ty.bool)) (Ty.pair (Ty.sl (Ty.int IntKind.i64)) (Ty.sl (Ty.pair (Ty.int IntKind.i64) Ty.bool))))))) l6]=>
  (.node (decide (n2<n1))
   (.node (decide ((List.getD l0 (Int.toNat n2) (0:Int):Int)≥(0:Int)))
   (.node (!decide ((List.getD l0 (Int.toNat n2) (0:Int):Int)<(↑(List.length l3):Int)))
    (.leaf (Step.stop 1 [.b false]))
    (.leaf (Step.go [.k 0,.l TI l0,.n n1,.n (IntKind.wrap .i64 (n2+(1:Int))),.l Ty.str l3,.l TPt l4,.l TPt l5,.l TRt l6])))
   (.leaf (Step.stop 1 [.b false])))
   (.leaf (Step.stop 0 [])))
 |_=>.bad 0
theorem l0f (l0:List (Ty.den TI))(n1:Int)(n2:Int)(l3:List (Ty.den TS))(l4:List (Ty.den TPt))(l5:List (Ty.den TPt))(l6:List (Ty.den TRt))(g0:0≤n2)(g1:n1=(l0.length:Int)):Imp (n0w [.l TI l0,.n n1,.n n2,.l TS l3,.l TPt l4,.l TPt l5,.l TRt l6]) (o0i [.k 0,.l TI l0,.n n1,.n n2,.l TS l3,.l TPt l4,.l TPt l5,.l TRt l6]):=
(.pa [1]
(.nd (fun h0=>
(.pt (c:=(inR n2 (List.length l0))) (by kernel_rfl) (by kernel_rfl) (by(simp only[w64d,decide_eq_true_eq,decide_eq_false_iff_not,beq_iff_eq,beq_eq_false_iff_ne,bne_iff_ne,ne_eq,inR,Bool.and_eq_true,Bool.and_eq_false_iff,Bool.not_eq_true',Bool.not_eq_false',Bool.not_eq_eq_eq_not,Bool.not_true,Bool.not_false]at*;omega))
(.pa [1]
(.nd (fun h1=>
(.pa [1]
(.nd (fun h2=>
(.pa [1]
.lf)) (fun h2=>
(.pa [1]
.lf))))) (fun h1=>
(.pa [0,1,1,1]
.lf)))))) (fun h0=>
(.pa [1]
.lf))))
theorem t2e:LsOk Tryz.prog (List.length ([]:List PB)) (lsM [(4,t2b)] (List.length ([]:List PB))) (a0r Tryz.prog 144):=LsOk.many fun j B hB hk c hc hi=>by
 simp only[b0d]at hB
 split at hB
 ·rename_i e;have:=Nat.eq_of_beq_eq_true e;subst this;cases hB
  have e1:p0c Tryz.prog 144 4=[cAt Tryz.prog 144 4]:=a0e (by kernel_rfl)
  have e2:c∈p0c Tryz.prog 144 4:=a0d hc hi
  rw[e1]at e2;cases List.mem_singleton.1 e2;exact g2r
 cases hB
def q2v (env:List Dat):Tree (Nat×List Dat):=Lk.boxC false LK s2x 144 (lsM [(4,t2b)] (List.length ([]:List PB))) (mkF [laV 0,.imm TI 4] [] [] [(.bool 0,[])] fun _=>none) env
theorem l3k: ∃f:List Dat→Option (Nat×List Dat),∀env,f env=(q2v env).sel:=⟨fun env=>(q2v env).sel,fun _=>rfl⟩
def f2a:List Dat→Option (Nat×List Dat):=Classical.choose l3k
theorem w1z (env:List Dat):f2a env=(q2v env).sel:=Classical.choose_spec l3k env
def B48:FBox:=mkF [laV 0,.imm TI 4] [] [] [(.bool 0,[])] f2a
theorem B48_ok:a0v Tryz.prog 144 (a0j B48):=a0p (op:=f2a) i1z hmix false (t2e) (fun env x h=>by rw[w1z]at h;rw[←boxC_lk];exact h)
def p2y:List Dat→Tree (Nat×List Dat)
 |[.l (Ty.str) l0,.l (Ty.pair Ty.str (Ty.int IntKind.i64)) l1,.l (Ty.pair Ty.str (Ty.int IntKind.i64)) l2,.l (Ty.pair Ty.str (Ty.pair (Ty.int IntKind.i64) (Ty.pair (Ty.sl (Ty.int IntKind.i64)) (Ty.pair (Ty.sl (Ty.pair (Ty.int IntKind.i64) Ty.bool)) (Ty.pair (Ty.sl (Ty.int IntKind.i64)) (Ty.sl (Ty.pair (Ty.int IntKind.i64) Ty.bool))))))) l3,.l (Ty.int IntKind.i64) l4]=>
  (.node (decide ((↑(List.length l4):Int)>(16:Int)))
   (.leaf ((0,[.b false])))
   (let r1:Option (Nat×List Dat):=(y0t [.k 0,.l TI l4,.n (↑(List.length l4):Int),.n (0:Int),.l Ty.str l0,.l TPt l1,.l TPt l2,.l TRt l3]);
   (.node (isK 0 [] r1)
    (.leaf ((0,[.b true])))
    (.node (isK 1 [HK.b] r1)
    (.leaf ((0,[.b (gb (dOf r1) 0)])))
    (.bad 351)))))
 |_=>.bad 0
theorem b2c (l0:List (Ty.den TS))(l1:List (Ty.den TPt))(l2:List (Ty.den TPt))(l3:List (Ty.den TRt))(l4:List (Ty.den TI)):Imp (p2y [.l TS l0,.l TPt l1,.l TPt l2,.l TRt l3,.l TI l4]) (q2v [.l TS l0,.l TPt l1,.l TPt l2,.l TRt l3,.l TI l4]):=
(.nd (fun h0=>
(.pa [1]
.lf)) (fun h0=>
(.nd (fun h1=>
(.pa [1]
.lf)) (fun h1=>
(.nd (fun h2=>
(.pa [1]
.lf)) (fun h2=>
.none))))))
def v2u:FuncId→Option a0q:=a0s 144 B48 s2x
theorem i1m:CsOk Tryz.prog v2u:=a0g i1z B48_ok
def n0x (env:List Dat):Tree Step:=Lk.stepMC false LK v2u 145 4 ls0 (mkM 0 [] [(sh 24 [(2,.ptr 0 0),(10,.imm TNd 0),(11,.int .i64 1),(12,.int .i64 2)],[laB 3])] [] [(.exit 0,sh 24 [],[]),(.ret,sh 24 [(4,.bool 0)],[])] fun _=>none) env
theorem i3n: ∃f:List Dat→Option (Nat×List Dat),∀env,f env=a0b n0x FU env:=⟨a0b n0x FU,fun _=>rfl⟩
def z0c:List Dat→Option (Nat×List Dat):=Classical.choose i3n
theorem a1v (env:List Dat):z0c env=a0b n0x FU env:=Classical.choose_spec i3n env
def v2y:MBox:=mkM 0 [] [(sh 24 [(2,.ptr 0 0),(10,.imm TNd 0),(11,.int .i64 1),(12,.int .i64 2)],[laB 3])] [] [(.exit 0,sh 24 [],[]),(.ret,sh 24 [(4,.bool 0)],[])] z0c
theorem k2x:v2y=mkM 0 [] [(sh 24 [(2,.ptr 0 0),(10,.imm TNd 0),(11,.int .i64 1),(12,.int .i64 2)],[laB 3])] [] [(.exit 0,sh 24 [],[]),(.ret,sh 24 [(4,.bool 0)],[])] (a0b n0x FU):=congrArg (fun f=>mkM 0 [] [(sh 24 [(2,.ptr 0 0),(10,.imm TNd 0),(11,.int .i64 1),(12,.int .i64 2)],[laB 3])] [] [(.exit 0,sh 24 [],[]),(.ret,sh 24 [(4,.bool 0)],[])] f) (funext a1v)
theorem j2p: ∀t s x,(a0h v2y t s).sel=some x→a0k Tryz.prog 0 (.loop (cAt Tryz.prog 145 4)) t s x:=by
 rw[k2x]
 exact a0o (st:=n0x) (m:=FU) i1m hmix false (LsOk.none _ _ _) (by kernel_rfl) (fun env y h=>by rw[←stepMC_lk];exact h)
def n0l:List Dat→Tree Step
 |[.l (Ty.pair (Ty.int IntKind.i64) Ty.bool) l0,.n n1,.n n2,.l (Ty.str) l3,.l (Ty.pair Ty.str (Ty.int IntKind.i64)) l4,.l (Ty.pair Ty.str (Ty.int IntKind.i64)) l5,.l (Ty.pair Ty.str (Ty.pair (Ty.int IntKind.i64) (Ty.pair (Ty.sl (Ty.int IntKind.i64)) (Ty.pair (Ty.sl (Ty.pair (Ty.int IntKind.i64) Ty.bool)) (Ty.pair (Ty.sl (Ty.int IntKind.i64)) (Ty.sl (Ty.pair (Ty.int IntKind.i64) Ty.bool))))))) l6]=>
  (.node (decide (n2<n1))
   (.node (decide ((Prod.fst (List.getD l0 (Int.toNat n2) (Ty.dflt TNd)):Int)≥(0:Int)))
   (.node (!decide ((Prod.fst (List.getD l0 (Int.toNat n2) (Ty.dflt TNd)):Int)<(↑(List.length l4):Int)))
    (.leaf (Step.stop 1 [.b false]))
    (.leaf (Step.go [.k 0,.l TNd l0,.n n1,.n (IntKind.wrap .i64 (n2+(1:Int))),.l Ty.str l3,.l TPt l4,.l TPt l5,.l TRt l6])))
   (.leaf (Step.stop 1 [.b false])))
   (.leaf (Step.stop 0 [])))
 |_=>.bad 0
theorem k0p (l0:List (Ty.den TNd))(n1:Int)(n2:Int)(l3:List (Ty.den TS))(l4:List (Ty.den TPt))(l5:List (Ty.den TPt))(l6:List (Ty.den TRt))(g0:0≤n2)(g1:n1=(l0.length:Int)):Imp (n0l [.l TNd l0,.n n1,.n n2,.l TS l3,.l TPt l4,.l TPt l5,.l TRt l6]) (n0x [.k 0,.l TNd l0,.n n1,.n n2,.l TS l3,.l TPt l4,.l TPt l5,.l TRt l6]):=
(.pa [1]
(.nd (fun h0=>
(.pt (c:=(inR n2 (List.length l0))) (by kernel_rfl) (by kernel_rfl) (by(simp only[w64d,decide_eq_true_eq,decide_eq_false_iff_not,beq_iff_eq,beq_eq_false_iff_ne,bne_iff_ne,ne_eq,inR,Bool.and_eq_true,Bool.and_eq_false_iff,Bool.not_eq_true',Bool.not_eq_false',Bool.not_eq_eq_eq_not,Bool.not_true,Bool.not_false]at*;omega))
(.pa [1]
(.nd (fun h1=>
(.pa [1]
(.nd (fun h2=>
(.pa [1]
.lf)) (fun h2=>
(.pa [1]
.lf))))) (fun h1=>
(.pa [0,1,1,1]
.lf)))))) (fun h0=>
(.pa [1]
.lf))))
theorem r2e:LsOk Tryz.prog (List.length ([]:List PB)) (lsM [(4,v2y)] (List.length ([]:List PB))) (a0r Tryz.prog 145):=LsOk.many fun j B hB hk c hc hi=>by
 simp only[b0d]at hB
 split at hB
 ·rename_i e;have:=Nat.eq_of_beq_eq_true e;subst this;cases hB
  have e1:p0c Tryz.prog 145 4=[cAt Tryz.prog 145 4]:=a0e (by kernel_rfl)
  have e2:c∈p0c Tryz.prog 145 4:=a0d hc hi
  rw[e1]at e2;cases List.mem_singleton.1 e2;exact j2p
 cases hB
def s2j (env:List Dat):Tree (Nat×List Dat):=Lk.boxC false LK v2u 145 (lsM [(4,v2y)] (List.length ([]:List PB))) (mkF [laV 0,.imm TNd 4] [] [] [(.bool 0,[])] fun _=>none) env
theorem k3x: ∃f:List Dat→Option (Nat×List Dat),∀env,f env=(s2j env).sel:=⟨fun env=>(s2j env).sel,fun _=>rfl⟩
def e2e:List Dat→Option (Nat×List Dat):=Classical.choose k3x
theorem u1f (env:List Dat):e2e env=(s2j env).sel:=Classical.choose_spec k3x env
def B49:FBox:=mkF [laV 0,.imm TNd 4] [] [] [(.bool 0,[])] e2e
theorem B49_ok:a0v Tryz.prog 145 (a0j B49):=a0p (op:=e2e) i1m hmix false (r2e) (fun env x h=>by rw[u1f]at h;rw[←boxC_lk];exact h)
def h2i:List Dat→Tree (Nat×List Dat)
 |[.l (Ty.str) l0,.l (Ty.pair Ty.str (Ty.int IntKind.i64)) l1,.l (Ty.pair Ty.str (Ty.int IntKind.i64)) l2,.l (Ty.pair Ty.str (Ty.pair (Ty.int IntKind.i64) (Ty.pair (Ty.sl (Ty.int IntKind.i64)) (Ty.pair (Ty.sl (Ty.pair (Ty.int IntKind.i64) Ty.bool)) (Ty.pair (Ty.sl (Ty.int IntKind.i64)) (Ty.sl (Ty.pair (Ty.int IntKind.i64) Ty.bool))))))) l3,.l (Ty.pair (Ty.int IntKind.i64) Ty.bool) l4]=>
  (.node (decide ((↑(List.length l4):Int)>(16:Int)))
   (.leaf ((0,[.b false])))
   (let r1:Option (Nat×List Dat):=(z0c [.k 0,.l TNd l4,.n (↑(List.length l4):Int),.n (0:Int),.l Ty.str l0,.l TPt l1,.l TPt l2,.l TRt l3]);
   (.node (isK 0 [] r1)
    (.leaf ((0,[.b true])))
    (.node (isK 1 [HK.b] r1)
    (.leaf ((0,[.b (gb (dOf r1) 0)])))
    (.bad 351)))))
 |_=>.bad 0
theorem c2a (l0:List (Ty.den TS))(l1:List (Ty.den TPt))(l2:List (Ty.den TPt))(l3:List (Ty.den TRt))(l4:List (Ty.den TNd)):Imp (h2i [.l TS l0,.l TPt l1,.l TPt l2,.l TRt l3,.l TNd l4]) (s2j [.l TS l0,.l TPt l1,.l TPt l2,.l TRt l3,.l TNd l4]):=
(.nd (fun h0=>
(.pa [1]
.lf)) (fun h0=>
(.nd (fun h1=>
(.pa [1]
.lf)) (fun h1=>
(.nd (fun h2=>
(.pa [1]
.lf)) (fun h2=>
.none))))))
def r2t:FuncId→Option a0q:=a0s 145 B49 v2u
theorem k1v:CsOk Tryz.prog r2t:=a0g i1m B49_ok
def n0d (env:List Dat):Tree Step:=Lk.stepMC false LK r2t 71 3 ls0 (mkM 0 [] [(sh 24 [(0,.imm TNd 0),(3,.own 0),(4,.int .i64 1)],[.arr TI 2])] [(3,TI)] [(.exit 0,sh 24 [(3,.own 0)],[.arr TI 0])] fun _=>none) env
theorem j3g: ∃f:List Dat→Option (Nat×List Dat),∀env,f env=a0b n0d FU env:=⟨a0b n0d FU,fun _=>rfl⟩
def z0h:List Dat→Option (Nat×List Dat):=Classical.choose j3g
theorem d1k (env:List Dat):z0h env=a0b n0d FU env:=Classical.choose_spec j3g env
def t2h:MBox:=mkM 0 [] [(sh 24 [(0,.imm TNd 0),(3,.own 0),(4,.int .i64 1)],[.arr TI 2])] [(3,TI)] [(.exit 0,sh 24 [(3,.own 0)],[.arr TI 0])] z0h
theorem h2v:t2h=mkM 0 [] [(sh 24 [(0,.imm TNd 0),(3,.own 0),(4,.int .i64 1)],[.arr TI 2])] [(3,TI)] [(.exit 0,sh 24 [(3,.own 0)],[.arr TI 0])] (a0b n0d FU):=congrArg (fun f=>mkM 0 [] [(sh 24 [(0,.imm TNd 0),(3,.own 0),(4,.int .i64 1)],[.arr TI 2])] [(3,TI)] [(.exit 0,sh 24 [(3,.own 0)],[.arr TI 0])] f) (funext d1k)
theorem k2o: ∀t s x,(a0h t2h t s).sel=some x→a0k Tryz.prog 0 (.loop (cAt Tryz.prog 71 3)) t s x:=by
 rw[h2v]
 exact a0o (st:=n0d) (m:=FU) k1v hmix false (LsOk.none _ _ _) (by kernel_rfl) (fun env y h=>by rw[←stepMC_lk];exact h)
def v0o:List Dat→Tree Step
 |[.l (Ty.pair (Ty.int IntKind.i64) Ty.bool) l0,.n n1,.l (Ty.int IntKind.i64) l2]=>
  (.node (decide (n1<(↑(List.length l0):Int)))
   (.node (decide (n1<(17:Int)))
   (.node (decide ((List.length l2+1)*8≤140737488355328))
    (.leaf (Step.go [.k 0,.l TNd l0,.n (IntKind.wrap .i64 (n1+(1:Int))),.l TI (l2++[Prod.fst (List.getD l0 (Int.toNat n1) (Ty.dflt TNd))])]))
    (.bad 62))
   (.leaf (Step.stop 0 [.l TI l2])))
   (.leaf (Step.stop 0 [.l TI l2])))
 |_=>.bad 0
theorem u0l (l0:List (Ty.den TNd))(n1:Int)(l2:List (Ty.den TI))(g0:0≤n1):Imp (v0o [.l TNd l0,.n n1,.l TI l2]) (n0d [.k 0,.l TNd l0,.n n1,.l TI l2]):=
(.pa [1]
(.nd (fun h0=>
(.nd (fun h1=>
(.pt (c:=(inR n1 (List.length l0))) (by kernel_rfl) (by kernel_rfl) (by(simp only[w64d,decide_eq_true_eq,decide_eq_false_iff_not,beq_iff_eq,beq_eq_false_iff_ne,bne_iff_ne,ne_eq,inR,Bool.and_eq_true,Bool.and_eq_false_iff,Bool.not_eq_true',Bool.not_eq_false',Bool.not_eq_eq_eq_not,Bool.not_true,Bool.not_false]at*;omega))
(.nd (fun h2=>
(.pa [1]
.lf)) (fun h2=>
.none)))) (fun h1=>
(.pa [1]
.lf)))) (fun h0=>
(.pa [0,0,1]
.lf))))
theorem v2n:LsOk Tryz.prog (List.length ([]:List PB)) (lsM [(3,t2h)] (List.length ([]:List PB))) (a0r Tryz.prog 71):=LsOk.many fun j B hB hk c hc hi=>by
 simp only[b0d]at hB
 split at hB
 ·rename_i e;have:=Nat.eq_of_beq_eq_true e;subst this;cases hB
  have e1:p0c Tryz.prog 71 3=[cAt Tryz.prog 71 3]:=a0e (by kernel_rfl)
  have e2:c∈p0c Tryz.prog 71 3:=a0d hc hi
  rw[e1]at e2;cases List.mem_singleton.1 e2;exact k2o
 cases hB
def v2j (env:List Dat):Tree (Nat×List Dat):=Lk.boxC false LK r2t 71 (lsM [(3,t2h)] (List.length ([]:List PB))) (mkF [.imm TNd 0] [] [] [(.own 0,[.arr TI 0])] fun _=>none) env
theorem l3b: ∃f:List Dat→Option (Nat×List Dat),∀env,f env=(v2j env).sel:=⟨fun env=>(v2j env).sel,fun _=>rfl⟩
def e2f:List Dat→Option (Nat×List Dat):=Classical.choose l3b
theorem w1v (env:List Dat):e2f env=(v2j env).sel:=Classical.choose_spec l3b env
def B45:FBox:=mkF [.imm TNd 0] [] [] [(.own 0,[.arr TI 0])] e2f
theorem B45_ok:a0v Tryz.prog 71 (a0j B45):=a0p (op:=e2f) k1v hmix false (v2n) (fun env x h=>by rw[w1v]at h;rw[←boxC_lk];exact h)
def j2z:List Dat→Tree (Nat×List Dat)
 |[.l (Ty.pair (Ty.int IntKind.i64) Ty.bool) l0]=>
  (let r1:Option (Nat×List Dat):=(z0h [.k 0,.l TNd l0,.n (0:Int),.l TI []]);
   (.node (isK 0 [HK.l TI] r1)
   (.leaf ((0,[.l TI (gl TI (dOf r1) 0)])))
   (.bad 351)))
 |_=>.bad 0
theorem g2h (l0:List (Ty.den TNd)):Imp (j2z [.l TNd l0]) (v2j [.l TNd l0]):=
(.nd (fun h0=>
(.pa [1]
.lf)) (fun h0=>
.none))
def cs_45:FuncId→Option a0q:=a0s 71 B45 r2t
theorem w1g:CsOk Tryz.prog cs_45:=a0g k1v B45_ok
def r2n (env:List Dat):Tree (Nat×List Dat):=Lk.boxC false LK cs_45 128 ls0 (mkF [laV 0,.agg [.str 4,.int .i64 5,.imm TI 6,.imm TNd 7,.imm TI 8,.imm TNd 9]] [] [] [(.bool 0,[])] fun _=>none) env
theorem k3s: ∃f:List Dat→Option (Nat×List Dat),∀env,f env=(r2n env).sel:=⟨fun env=>(r2n env).sel,fun _=>rfl⟩
def i2m:List Dat→Option (Nat×List Dat):=Classical.choose k3s
theorem v1s (env:List Dat):i2m env=(r2n env).sel:=Classical.choose_spec k3s env
def B31:FBox:=mkF [laV 0,.agg [.str 4,.int .i64 5,.imm TI 6,.imm TNd 7,.imm TI 8,.imm TNd 9]] [] [] [(.bool 0,[])] i2m
theorem B31_ok:a0v Tryz.prog 128 (a0j B31):=a0p (op:=i2m) w1g hmix false (LsOk.none _ _ _) (fun env x h=>by rw[v1s]at h;rw[←boxC_lk];exact h)
def p2c:List Dat→Tree (Nat×List Dat)
 |[.l (Ty.str) l0,.l (Ty.pair Ty.str (Ty.int IntKind.i64)) l1,.l (Ty.pair Ty.str (Ty.int IntKind.i64)) l2,.l (Ty.pair Ty.str (Ty.pair (Ty.int IntKind.i64) (Ty.pair (Ty.sl (Ty.int IntKind.i64)) (Ty.pair (Ty.sl (Ty.pair (Ty.int IntKind.i64) Ty.bool)) (Ty.pair (Ty.sl (Ty.int IntKind.i64)) (Ty.sl (Ty.pair (Ty.int IntKind.i64) Ty.bool))))))) l3,.s s4,.n n5,.l (Ty.int IntKind.i64) l6,.l (Ty.pair (Ty.int IntKind.i64) Ty.bool) l7,.l (Ty.int IntKind.i64) l8,.l (Ty.pair (Ty.int IntKind.i64) Ty.bool) l9]=>
  (.node (decide (n5≥(0:Int)))
   (.node (decide (n5<(↑(List.length l2):Int)))
   (let r1:Option (Nat×List Dat):=(f2a [.l Ty.str l0,.l TPt l1,.l TPt l2,.l TRt l3,.l TI l6]);
    (.node (isK 0 [HK.b] r1)
    (.node (gb (dOf r1) 0)
     (let r2:Option (Nat×List Dat):=(e2e [.l Ty.str l0,.l TPt l1,.l TPt l2,.l TRt l3,.l TNd l7]);
     (.node (isK 0 [HK.b] r2)
      (.node (gb (dOf r2) 0)
      (let r3:Option (Nat×List Dat):=(f2a [.l Ty.str l0,.l TPt l1,.l TPt l2,.l TRt l3,.l TI l8]);
       (.node (isK 0 [HK.b] r3)
       (.node (gb (dOf r3) 0)
        (let r4:Option (Nat×List Dat):=(e2e [.l Ty.str l0,.l TPt l1,.l TPt l2,.l TRt l3,.l TNd l9]);
        (.node (isK 0 [HK.b] r4)
         (.leaf ((0,[.b (gb (dOf r4) 0)])))
         (.bad 351)))
        (.leaf ((0,[.b false]))))
       (.bad 351)))
      (.leaf ((0,[.b false]))))
      (.bad 351)))
     (.leaf ((0,[.b false]))))
    (.bad 351)))
   (.leaf ((0,[.b false]))))
   (.leaf ((0,[.b false]))))
 |_=>.bad 0
theorem e2d (l0:List (Ty.den TS))(l1:List (Ty.den TPt))(l2:List (Ty.den TPt))(l3:List (Ty.den TRt))(s4:ByteArray)(n5:Int)(l6:List (Ty.den TI))(l7:List (Ty.den TNd))(l8:List (Ty.den TI))(l9:List (Ty.den TNd)):Imp (p2c [.l TS l0,.l TPt l1,.l TPt l2,.l TRt l3,.s s4,.n n5,.l TI l6,.l TNd l7,.l TI l8,.l TNd l9]) (r2n [.l TS l0,.l TPt l1,.l TPt l2,.l TRt l3,.s s4,.n n5,.l TI l6,.l TNd l7,.l TI l8,.l TNd l9]):=
(.pa [1]
(.nd (fun h0=>
(.pa [1]
(.nd (fun h1=>
(.nd (fun h2=>
(.pa [1]
(.nd (fun h3=>
(.nd (fun h4=>
(.pa [1]
(.nd (fun h5=>
(.nd (fun h6=>
(.pa [1]
(.nd (fun h7=>
(.nd (fun h8=>
(.pa [1,1]
.lf)) (fun h8=>
.none))) (fun h7=>
(.pa [0,1]
.lf))))) (fun h6=>
.none))) (fun h5=>
(.pa [0,0,0,1]
.lf))))) (fun h4=>
.none))) (fun h3=>
(.pa [0,0,0,0,0,1]
.lf))))) (fun h2=>
.none))) (fun h1=>
(.pa [0,0,0,0,0,0,0,1]
.lf))))) (fun h0=>
(.pa [0,1,0,0,0,0,0,0,0,0,1]
.lf))))
def r1a:FuncId→Option a0q:=a0s 128 B31 cs_45
theorem m0w:CsOk Tryz.prog r1a:=a0g w1g B31_ok
def j0l (env:List Dat):Tree Step:=Lk.stepMC false LK r1a 129 3 ls0 (mkM 0 [] [(sh 76 [(1,.ptr 0 0),(3,.own 1),(17,.imm TPt 0),(18,.int .i64 1),(19,.int .i64 2)],[laB 3,.arr TS 7])] [] [(.exit 0,sh 76 [(1,.ptr 0 0),(3,.own 1)],[laB 0,.arr TS 4])] fun _=>none) env
theorem j3b: ∃f:List Dat→Option (Nat×List Dat),∀env,f env=a0b j0l FU env:=⟨a0b j0l FU,fun _=>rfl⟩
def y0v:List Dat→Option (Nat×List Dat):=Classical.choose j3b
theorem c1s (env:List Dat):y0v env=a0b j0l FU env:=Classical.choose_spec j3b env
def r2j:MBox:=mkM 0 [] [(sh 76 [(1,.ptr 0 0),(3,.own 1),(17,.imm TPt 0),(18,.int .i64 1),(19,.int .i64 2)],[laB 3,.arr TS 7])] [] [(.exit 0,sh 76 [(1,.ptr 0 0),(3,.own 1)],[laB 0,.arr TS 4])] y0v
theorem k2u:r2j=mkM 0 [] [(sh 76 [(1,.ptr 0 0),(3,.own 1),(17,.imm TPt 0),(18,.int .i64 1),(19,.int .i64 2)],[laB 3,.arr TS 7])] [] [(.exit 0,sh 76 [(1,.ptr 0 0),(3,.own 1)],[laB 0,.arr TS 4])] (a0b j0l FU):=congrArg (fun f=>mkM 0 [] [(sh 76 [(1,.ptr 0 0),(3,.own 1),(17,.imm TPt 0),(18,.int .i64 1),(19,.int .i64 2)],[laB 3,.arr TS 7])] [] [(.exit 0,sh 76 [(1,.ptr 0 0),(3,.own 1)],[laB 0,.arr TS 4])] f) (funext c1s)
theorem n2n: ∀t s x,(a0h r2j t s).sel=some x→a0k Tryz.prog 0 (.loop (cAt Tryz.prog 129 3)) t s x:=by
 rw[k2u]
 exact a0o (st:=j0l) (m:=FU) m0w hmix false (LsOk.none _ _ _) (by kernel_rfl) (fun env y h=>by rw[←stepMC_lk];exact h)
def v0j:List Dat→Tree Step
 |[.l (Ty.pair Ty.str (Ty.int IntKind.i64)) l0,.n n1,.n n2,.l (Ty.str) l3,.l (Ty.pair Ty.str (Ty.int IntKind.i64)) l4,.l (Ty.pair Ty.str (Ty.int IntKind.i64)) l5,.l (Ty.pair Ty.str (Ty.pair (Ty.int IntKind.i64) (Ty.pair (Ty.sl (Ty.int IntKind.i64)) (Ty.pair (Ty.sl (Ty.pair (Ty.int IntKind.i64) Ty.bool)) (Ty.pair (Ty.sl (Ty.int IntKind.i64)) (Ty.sl (Ty.pair (Ty.int IntKind.i64) Ty.bool))))))) l6,.l (Ty.str) l7]=>
  (.node (decide (n2<n1))
   (.node (decide ((List.length l7+1)*16≤140737488355328))
   (.leaf (Step.go [.k 0,.l TPt l0,.n n1,.n (IntKind.wrap .i64 (n2+(1:Int))),.l Ty.str l3,.l TPt l4,.l TPt l5,.l TRt l6,.l Ty.str (l7++[Prod.fst (List.getD l0 (Int.toNat n2) (Ty.dflt TPt))])]))
   (.bad 62))
   (.leaf (Step.stop 0 [.l Ty.str l3,.l TPt l4,.l TPt l5,.l TRt l6,.l Ty.str l7])))
 |_=>.bad 0
theorem r0z (l0:List (Ty.den TPt))(n1:Int)(n2:Int)(l3:List (Ty.den TS))(l4:List (Ty.den TPt))(l5:List (Ty.den TPt))(l6:List (Ty.den TRt))(l7:List (Ty.den TS))(g0:0≤n2)(g1:n1=(l0.length:Int)):Imp (v0j [.l TPt l0,.n n1,.n n2,.l TS l3,.l TPt l4,.l TPt l5,.l TRt l6,.l TS l7]) (j0l [.k 0,.l TPt l0,.n n1,.n n2,.l TS l3,.l TPt l4,.l TPt l5,.l TRt l6,.l TS l7]):=
(.pa [1]
(.nd (fun h0=>
(.pt (c:=(inR n2 (List.length l0))) (by kernel_rfl) (by kernel_rfl) (by(simp only[w64d,decide_eq_true_eq,decide_eq_false_iff_not,beq_iff_eq,beq_eq_false_iff_ne,bne_iff_ne,ne_eq,inR,Bool.and_eq_true,Bool.and_eq_false_iff,Bool.not_eq_true',Bool.not_eq_false',Bool.not_eq_eq_eq_not,Bool.not_true,Bool.not_false]at*;omega))
(.nd (fun h1=>
(.pa [1]
.lf)) (fun h1=>
.none)))) (fun h0=>
(.pa [1]
.lf))))
def j0u (env:List Dat):Tree Step:=Lk.stepMC false LK r1a 129 8 ls0 (mkM 0 [] [(sh 76 [(1,.ptr 0 0),(3,.own 1),(30,.imm TPt 0),(31,.int .i64 1),(32,.int .i64 2)],[laB 3,.arr TS 7])] [] [(.exit 2,sh 76 [(1,.ptr 0 0),(3,.own 1)],[laB 0,.arr TS 4])] fun _=>none) env
theorem i3z: ∃f:List Dat→Option (Nat×List Dat),∀env,f env=a0b j0u FU env:=⟨a0b j0u FU,fun _=>rfl⟩
def y0m:List Dat→Option (Nat×List Dat):=Classical.choose i3z
theorem d1y (env:List Dat):y0m env=a0b j0u FU env:=Classical.choose_spec i3z env
def v2h:MBox:=mkM 0 [] [(sh 76 [(1,.ptr 0 0),(3,.own 1),(30,.imm TPt 0),(31,.int .i64 1),(32,.int .i64 2)],[laB 3,.arr TS 7])] [] [(.exit 2,sh 76 [(1,.ptr 0 0),(3,.own 1)],[laB 0,.arr TS 4])] y0m
theorem g2z:v2h=mkM 0 [] [(sh 76 [(1,.ptr 0 0),(3,.own 1),(30,.imm TPt 0),(31,.int .i64 1),(32,.int .i64 2)],[laB 3,.arr TS 7])] [] [(.exit 2,sh 76 [(1,.ptr 0 0),(3,.own 1)],[laB 0,.arr TS 4])] (a0b j0u FU):=congrArg (fun f=>mkM 0 [] [(sh 76 [(1,.ptr 0 0),(3,.own 1),(30,.imm TPt 0),(31,.int .i64 1),(32,.int .i64 2)],[laB 3,.arr TS 7])] [] [(.exit 2,sh 76 [(1,.ptr 0 0),(3,.own 1)],[laB 0,.arr TS 4])] f) (funext d1y)
theorem h2q: ∀t s x,(a0h v2h t s).sel=some x→a0k Tryz.prog 0 (.loop (cAt Tryz.prog 129 8)) t s x:=by
 rw[g2z]
 exact a0o (st:=j0u) (m:=FU) m0w hmix false (LsOk.none _ _ _) (by kernel_rfl) (fun env y h=>by rw[←stepMC_lk];exact h)
def u0u:List Dat→Tree Step
 |[.l (Ty.pair Ty.str (Ty.int IntKind.i64)) l0,.n n1,.n n2,.l (Ty.str) l3,.l (Ty.pair Ty.str (Ty.int IntKind.i64)) l4,.l (Ty.pair Ty.str (Ty.int IntKind.i64)) l5,.l (Ty.pair Ty.str (Ty.pair (Ty.int IntKind.i64) (Ty.pair (Ty.sl (Ty.int IntKind.i64)) (Ty.pair (Ty.sl (Ty.pair (Ty.int IntKind.i64) Ty.bool)) (Ty.pair (Ty.sl (Ty.int IntKind.i64)) (Ty.sl (Ty.pair (Ty.int IntKind.i64) Ty.bool))))))) l6,.l (Ty.str) l7]=>
  (.node (decide (n2<n1))
   (.node (decide ((List.length l7+1)*16≤140737488355328))
   (.leaf (Step.go [.k 0,.l TPt l0,.n n1,.n (IntKind.wrap .i64 (n2+(1:Int))),.l Ty.str l3,.l TPt l4,.l TPt l5,.l TRt l6,.l Ty.str (l7++[Prod.fst (List.getD l0 (Int.toNat n2) (Ty.dflt TPt))])]))
   (.bad 62))
   (.leaf (Step.stop 0 [.l Ty.str l3,.l TPt l4,.l TPt l5,.l TRt l6,.l Ty.str l7])))
 |_=>.bad 0
theorem s0q (l0:List (Ty.den TPt))(n1:Int)(n2:Int)(l3:List (Ty.den TS))(l4:List (Ty.den TPt))(l5:List (Ty.den TPt))(l6:List (Ty.den TRt))(l7:List (Ty.den TS))(g0:0≤n2)(g1:n1=(l0.length:Int)):Imp (u0u [.l TPt l0,.n n1,.n n2,.l TS l3,.l TPt l4,.l TPt l5,.l TRt l6,.l TS l7]) (j0u [.k 0,.l TPt l0,.n n1,.n n2,.l TS l3,.l TPt l4,.l TPt l5,.l TRt l6,.l TS l7]):=
(.pa [1]
(.nd (fun h0=>
(.pt (c:=(inR n2 (List.length l0))) (by kernel_rfl) (by kernel_rfl) (by(simp only[w64d,decide_eq_true_eq,decide_eq_false_iff_not,beq_iff_eq,beq_eq_false_iff_ne,bne_iff_ne,ne_eq,inR,Bool.and_eq_true,Bool.and_eq_false_iff,Bool.not_eq_true',Bool.not_eq_false',Bool.not_eq_eq_eq_not,Bool.not_true,Bool.not_false]at*;omega))
(.nd (fun h1=>
(.pa [1]
.lf)) (fun h1=>
.none)))) (fun h0=>
(.pa [1]
.lf))))
def g0j (env:List Dat):Tree Step:=Lk.stepMC false LK r1a 129 13 ls0 (mkM 0 [] [(sh 76 [(3,.own 0),(43,.imm TRt 0),(44,.int .i64 1),(45,.int .i64 2)],[.arr TS 3])] [] [(.exit 4,sh 76 [(3,.own 0)],[.arr TS 0])] fun _=>none) env
theorem i3h: ∃f:List Dat→Option (Nat×List Dat),∀env,f env=a0b g0j FU env:=⟨a0b g0j FU,fun _=>rfl⟩
def r0x:List Dat→Option (Nat×List Dat):=Classical.choose i3h
theorem w0z (env:List Dat):r0x env=a0b g0j FU env:=Classical.choose_spec i3h env
def x1v:MBox:=mkM 0 [] [(sh 76 [(3,.own 0),(43,.imm TRt 0),(44,.int .i64 1),(45,.int .i64 2)],[.arr TS 3])] [] [(.exit 4,sh 76 [(3,.own 0)],[.arr TS 0])] r0x
theorem g2e:x1v=mkM 0 [] [(sh 76 [(3,.own 0),(43,.imm TRt 0),(44,.int .i64 1),(45,.int .i64 2)],[.arr TS 3])] [] [(.exit 4,sh 76 [(3,.own 0)],[.arr TS 0])] (a0b g0j FU):=congrArg (fun f=>mkM 0 [] [(sh 76 [(3,.own 0),(43,.imm TRt 0),(44,.int .i64 1),(45,.int .i64 2)],[.arr TS 3])] [] [(.exit 4,sh 76 [(3,.own 0)],[.arr TS 0])] f) (funext w0z)
theorem d2i: ∀t s x,(a0h x1v t s).sel=some x→a0k Tryz.prog 0 (.loop (cAt Tryz.prog 129 13)) t s x:=by
 rw[g2e]
 exact a0o (st:=g0j) (m:=FU) m0w hmix false (LsOk.none _ _ _) (by kernel_rfl) (fun env y h=>by rw[←stepMC_lk];exact h)
def q0r:List Dat→Tree Step
 |[.l (Ty.pair Ty.str (Ty.pair (Ty.int IntKind.i64) (Ty.pair (Ty.sl (Ty.int IntKind.i64)) (Ty.pair (Ty.sl (Ty.pair (Ty.int IntKind.i64) Ty.bool)) (Ty.pair (Ty.sl (Ty.int IntKind.i64)) (Ty.sl (Ty.pair (Ty.int IntKind.i64) Ty.bool))))))) l0,.n n1,.n n2,.l (Ty.str) l3]=>
  (.node (decide (n2<n1))
   (.node (decide ((List.length l3+1)*16≤140737488355328))
   (.leaf (Step.go [.k 0,.l TRt l0,.n n1,.n (IntKind.wrap .i64 (n2+(1:Int))),.l Ty.str (l3++[Prod.fst (List.getD l0 (Int.toNat n2) (Ty.dflt TRt))])]))
   (.bad 62))
   (.leaf (Step.stop 0 [.l Ty.str l3])))
 |_=>.bad 0
theorem p0h (l0:List (Ty.den TRt))(n1:Int)(n2:Int)(l3:List (Ty.den TS))(g0:0≤n2)(g1:n1=(l0.length:Int)):Imp (q0r [.l TRt l0,.n n1,.n n2,.l TS l3]) (g0j [.k 0,.l TRt l0,.n n1,.n n2,.l TS l3]):=
(.pa [1]
(.nd (fun h0=>
(.pt (c:=(inR n2 (List.length l0))) (by kernel_rfl) (by kernel_rfl) (by(simp only[w64d,decide_eq_true_eq,decide_eq_false_iff_not,beq_iff_eq,beq_eq_false_iff_ne,bne_iff_ne,ne_eq,inR,Bool.and_eq_true,Bool.and_eq_false_iff,Bool.not_eq_true',Bool.not_eq_false',Bool.not_eq_eq_eq_not,Bool.not_true,Bool.not_false]at*;omega))
(.nd (fun h1=>
(.pa [1]
.lf)) (fun h1=>
.none)))) (fun h0=>
(.pa [1]
.lf))))
def g0q (env:List Dat):Tree Step:=Lk.stepMC false LK r1a 129 19 ls0 (mkM 0 [] [(sh 76 [(10,.mapv 0),(56,.own 1),(57,.int .i64 0),(58,.int .i64 1)],[.map .str (.int .i64) 2,.arr TS 3])] [] [(.exit 6,sh 76 [],[]),(.ret,sh 76 [(2,.bool 0)],[])] fun _=>none) env
theorem i3i: ∃f:List Dat→Option (Nat×List Dat),∀env,f env=a0b g0q FU env:=⟨a0b g0q FU,fun _=>rfl⟩
def s0n:List Dat→Option (Nat×List Dat):=Classical.choose i3i
theorem w0l (env:List Dat):s0n env=a0b g0q FU env:=Classical.choose_spec i3i env
def x1s:MBox:=mkM 0 [] [(sh 76 [(10,.mapv 0),(56,.own 1),(57,.int .i64 0),(58,.int .i64 1)],[.map .str (.int .i64) 2,.arr TS 3])] [] [(.exit 6,sh 76 [],[]),(.ret,sh 76 [(2,.bool 0)],[])] s0n
theorem d2u:x1s=mkM 0 [] [(sh 76 [(10,.mapv 0),(56,.own 1),(57,.int .i64 0),(58,.int .i64 1)],[.map .str (.int .i64) 2,.arr TS 3])] [] [(.exit 6,sh 76 [],[]),(.ret,sh 76 [(2,.bool 0)],[])] (a0b g0q FU):=congrArg (fun f=>mkM 0 [] [(sh 76 [(10,.mapv 0),(56,.own 1),(57,.int .i64 0),(58,.int .i64 1)],[.map .str (.int .i64) 2,.arr TS 3])] [] [(.exit 6,sh 76 [],[]),(.ret,sh 76 [(2,.bool 0)],[])] f) (funext w0l)
theorem f2g: ∀t s x,(a0h x1s t s).sel=some x→a0k Tryz.prog 0 (.loop (cAt Tryz.prog 129 19)) t s x:=by
 rw[d2u]
 exact a0o (st:=g0q) (m:=FU) m0w hmix false (LsOk.none _ _ _) (by kernel_rfl) (fun env y h=>by rw[←stepMC_lk];exact h)
def k0l:List Dat→Tree Step
 |[.n n0,.n n1,.l (Ty.pair Ty.str (Ty.int IntKind.i64)) l2,.l (Ty.str) l3]=>
  (.node (decide (n1<n0))
   (let r1:Option (Nat×List Dat):=(j2u [.s (List.getD l3 (Int.toNat n1) (Ty.dflt Ty.str))]);
   (.node (isK 0 [HK.b] r1)
    (.node (!gb (dOf r1) 0)
    (.leaf (Step.stop 1 [.b false]))
    (.node (decide (mgI (List.getD l3 (Int.toNat n1) (Ty.dflt Ty.str)) (mput Ty.str TI (List.getD l3 (Int.toNat n1) (Ty.dflt Ty.str)) (IntKind.wrap .i64 (mgI (List.getD l3 (Int.toNat n1) (Ty.dflt Ty.str)) l2+(1:Int))) l2)>(1:Int)))
     (.leaf (Step.stop 1 [.b false]))
     (.leaf (Step.go [.k 0,.n n0,.n (IntKind.wrap .i64 (n1+(1:Int))),.l TPt (mput Ty.str TI (List.getD l3 (Int.toNat n1) (Ty.dflt Ty.str)) (IntKind.wrap .i64 (mgI (List.getD l3 (Int.toNat n1) (Ty.dflt Ty.str)) l2+(1:Int))) l2),.l Ty.str l3]))))
    (.bad 351)))
   (.leaf (Step.stop 0 [])))
 |_=>.bad 0
theorem h0l (n0:Int)(n1:Int)(l2:List (Ty.den TPt))(l3:List (Ty.den TS))(g0:0≤n1)(g1:n0=(l3.length:Int)):Imp (k0l [.n n0,.n n1,.l TPt l2,.l TS l3]) (g0q [.k 0,.n n0,.n n1,.l TPt l2,.l TS l3]):=
(.pa [1]
(.nd (fun h0=>
(.pt (c:=(inR n1 (List.length l3))) (by kernel_rfl) (by kernel_rfl) (by(simp only[w64d,decide_eq_true_eq,decide_eq_false_iff_not,beq_iff_eq,beq_eq_false_iff_ne,bne_iff_ne,ne_eq,inR,Bool.and_eq_true,Bool.and_eq_false_iff,Bool.not_eq_true',Bool.not_eq_false',Bool.not_eq_eq_eq_not,Bool.not_true,Bool.not_false]at*;omega))
(.nd (fun h1=>
(.pa [1]
(.nd (fun h2=>
(.pa [1,1,1]
.lf)) (fun h2=>
(.nd (fun h3=>
(.pa [1]
.lf)) (fun h3=>
(.pa [1]
.lf))))))) (fun h1=>
.none)))) (fun h0=>
(.pa [1]
.lf))))
theorem s2y:LsOk Tryz.prog (List.length ([]:List PB)) (lsM [(3,r2j),(8,v2h),(13,x1v),(19,x1s)] (List.length ([]:List PB))) (a0r Tryz.prog 129):=LsOk.many fun j B hB hk c hc hi=>by
 simp only[b0d]at hB
 split at hB
 ·rename_i e;have:=Nat.eq_of_beq_eq_true e;subst this;cases hB
  have e1:p0c Tryz.prog 129 3=[cAt Tryz.prog 129 3]:=a0e (by kernel_rfl)
  have e2:c∈p0c Tryz.prog 129 3:=a0d hc hi
  rw[e1]at e2;cases List.mem_singleton.1 e2;exact n2n
 split at hB
 ·rename_i e;have:=Nat.eq_of_beq_eq_true e;subst this;cases hB
  have e1:p0c Tryz.prog 129 8=[cAt Tryz.prog 129 8]:=a0e (by kernel_rfl)
  have e2:c∈p0c Tryz.prog 129 8:=a0d hc hi
  rw[e1]at e2;cases List.mem_singleton.1 e2;exact h2q
 split at hB
 ·rename_i e;have:=Nat.eq_of_beq_eq_true e;subst this;cases hB
  have e1:p0c Tryz.prog 129 13=[cAt Tryz.prog 129 13]:=a0e (by kernel_rfl)
  have e2:c∈p0c Tryz.prog 129 13:=a0d hc hi
  rw[e1]at e2;cases List.mem_singleton.1 e2;exact d2i
 split at hB
 ·rename_i e;have:=Nat.eq_of_beq_eq_true e;subst this;cases hB
  have e1:p0c Tryz.prog 129 19=[cAt Tryz.prog 129 19]:=a0e (by kernel_rfl)
  have e2:c∈p0c Tryz.prog 129 19:=a0d hc hi
  rw[e1]at e2;cases List.mem_singleton.1 e2;exact f2g
 cases hB
def v2c (env:List Dat):Tree (Nat×List Dat):=Lk.boxC false LK r1a 129 (lsM [(3,r2j),(8,v2h),(13,x1v),(19,x1s)] (List.length ([]:List PB))) (mkF [laV 0] [] [] [(.bool 0,[])] fun _=>none) env
theorem l3r: ∃f:List Dat→Option (Nat×List Dat),∀env,f env=(v2c env).sel:=⟨fun env=>(v2c env).sel,fun _=>rfl⟩
def g2y:List Dat→Option (Nat×List Dat):=Classical.choose l3r
theorem v1t (env:List Dat):g2y env=(v2c env).sel:=Classical.choose_spec l3r env
def B32:FBox:=mkF [laV 0] [] [] [(.bool 0,[])] g2y
theorem B32_ok:a0v Tryz.prog 129 (a0j B32):=a0p (op:=g2y) m0w hmix false (s2y) (fun env x h=>by rw[v1t]at h;rw[←boxC_lk];exact h)
def k2m:List Dat→Tree (Nat×List Dat)
 |[.l (Ty.str) l0,.l (Ty.pair Ty.str (Ty.int IntKind.i64)) l1,.l (Ty.pair Ty.str (Ty.int IntKind.i64)) l2,.l (Ty.pair Ty.str (Ty.pair (Ty.int IntKind.i64) (Ty.pair (Ty.sl (Ty.int IntKind.i64)) (Ty.pair (Ty.sl (Ty.pair (Ty.int IntKind.i64) Ty.bool)) (Ty.pair (Ty.sl (Ty.int IntKind.i64)) (Ty.sl (Ty.pair (Ty.int IntKind.i64) Ty.bool))))))) l3]=>
  (.node (decide (List.length l0*16≤140737488355328))
   (let r1:Option (Nat×List Dat):=(y0v [.k 0,.l TPt l1,.n (↑(List.length l1):Int),.n (0:Int),.l Ty.str l0,.l TPt l1,.l TPt l2,.l TRt l3,.l Ty.str l0]);
   (.node (isK 0 [HK.l Ty.str,HK.l TPt,HK.l TPt,HK.l TRt,HK.l Ty.str] r1)
    (let r2:Option (Nat×List Dat):=(y0m [.k 0,.l TPt (gl TPt (dOf r1) 2),.n (↑(List.length (gl TPt (dOf r1) 2)):Int),.n (0:Int),.l Ty.str (gl Ty.str (dOf r1) 0),.l TPt (gl TPt (dOf r1) 1),.l TPt (gl TPt (dOf r1) 2),.l TRt (gl TRt (dOf r1) 3),.l Ty.str (gl Ty.str (dOf r1) 4)]);
    (.node (isK 0 [HK.l Ty.str,HK.l TPt,HK.l TPt,HK.l TRt,HK.l Ty.str] r2)
     (let r3:Option (Nat×List Dat):=(r0x [.k 0,.l TRt (gl TRt (dOf r2) 3),.n (↑(List.length (gl TRt (dOf r2) 3)):Int),.n (0:Int),.l Ty.str (gl Ty.str (dOf r2) 4)]);
     (.node (isK 0 [HK.l Ty.str] r3)
      (let r4:Option (Nat×List Dat):=(s0n [.k 0,.n (↑(List.length (gl Ty.str (dOf r3) 0)):Int),.n (0:Int),.l TPt [],.l Ty.str (gl Ty.str (dOf r3) 0)]);
      (.node (isK 0 [] r4)
       (.leaf ((0,[.b true])))
       (.node (isK 1 [HK.b] r4)
       (.leaf ((0,[.b (gb (dOf r4) 0)])))
       (.bad 351))))
      (.bad 351)))
     (.bad 351)))
    (.bad 351)))
   (.bad 60))
 |_=>.bad 0
theorem d2c (l0:List (Ty.den TS))(l1:List (Ty.den TPt))(l2:List (Ty.den TPt))(l3:List (Ty.den TRt)):Imp (k2m [.l TS l0,.l TPt l1,.l TPt l2,.l TRt l3]) (v2c [.l TS l0,.l TPt l1,.l TPt l2,.l TRt l3]):=
(.nd (fun h0=>
(.nd (fun h1=>
(.nd (fun h2=>
(.nd (fun h3=>
(.nd (fun h4=>
(.pa [1]
.lf)) (fun h4=>
(.nd (fun h5=>
(.pa [1]
.lf)) (fun h5=>
.none))))) (fun h3=>
.none))) (fun h2=>
.none))) (fun h1=>
.none))) (fun h0=>
.none))
def f2y:FuncId→Option a0q:=a0s 129 B32 r1a
theorem u0k:CsOk Tryz.prog f2y:=a0g m0w B32_ok
def l0d (env:List Dat):Tree Step:=Lk.stepMC false LK f2y 67 4 ls0 (mkM 0 [] [(sh 60 [(1,.ptr 0 0),(3,.own 1),(4,.int .i64 0)],[laB 1,.arr TS 5])] [] [(.exit 0,sh 60 [(1,.ptr 0 0),(3,.own 1)],[laB 0,.arr TS 4])] fun _=>none) env
theorem j3h: ∃f:List Dat→Option (Nat×List Dat),∀env,f env=a0b l0d FU env:=⟨a0b l0d FU,fun _=>rfl⟩
def z0f:List Dat→Option (Nat×List Dat):=Classical.choose j3h
theorem b1q (env:List Dat):z0f env=a0b l0d FU env:=Classical.choose_spec j3h env
def q2h:MBox:=mkM 0 [] [(sh 60 [(1,.ptr 0 0),(3,.own 1),(4,.int .i64 0)],[laB 1,.arr TS 5])] [] [(.exit 0,sh 60 [(1,.ptr 0 0),(3,.own 1)],[laB 0,.arr TS 4])] z0f
theorem m2w:q2h=mkM 0 [] [(sh 60 [(1,.ptr 0 0),(3,.own 1),(4,.int .i64 0)],[laB 1,.arr TS 5])] [] [(.exit 0,sh 60 [(1,.ptr 0 0),(3,.own 1)],[laB 0,.arr TS 4])] (a0b l0d FU):=congrArg (fun f=>mkM 0 [] [(sh 60 [(1,.ptr 0 0),(3,.own 1),(4,.int .i64 0)],[laB 1,.arr TS 5])] [] [(.exit 0,sh 60 [(1,.ptr 0 0),(3,.own 1)],[laB 0,.arr TS 4])] f) (funext b1q)
theorem g2o: ∀t s x,(a0h q2h t s).sel=some x→a0k Tryz.prog 0 (.loop (cAt Tryz.prog 67 4)) t s x:=by
 rw[m2w]
 exact a0o (st:=l0d) (m:=FU) u0k hmix false (LsOk.none _ _ _) (by kernel_rfl) (fun env y h=>by rw[←stepMC_lk];exact h)
def u0s:List Dat→Tree Step
 |[.n n0,.l (Ty.str) l1,.l (Ty.pair Ty.str (Ty.int IntKind.i64)) l2,.l (Ty.pair Ty.str (Ty.int IntKind.i64)) l3,.l (Ty.pair Ty.str (Ty.pair (Ty.int IntKind.i64) (Ty.pair (Ty.sl (Ty.int IntKind.i64)) (Ty.pair (Ty.sl (Ty.pair (Ty.int IntKind.i64) Ty.bool)) (Ty.pair (Ty.sl (Ty.int IntKind.i64)) (Ty.sl (Ty.pair (Ty.int IntKind.i64) Ty.bool))))))) l4,.l (Ty.str) l5]=>
  (.node (decide (n0<(↑(List.length l2):Int)))
   (.node (decide ((List.length l5+1)*16≤140737488355328))
   (.leaf (Step.go [.k 0,.n (IntKind.wrap .i64 (n0+(1:Int))),.l Ty.str l1,.l TPt l2,.l TPt l3,.l TRt l4,.l Ty.str (l5++[Prod.fst (List.getD l2 (Int.toNat n0) (Ty.dflt TPt))])]))
   (.bad 62))
   (.leaf (Step.stop 0 [.l Ty.str l1,.l TPt l2,.l TPt l3,.l TRt l4,.l Ty.str l5])))
 |_=>.bad 0
theorem r0b (n0:Int)(l1:List (Ty.den TS))(l2:List (Ty.den TPt))(l3:List (Ty.den TPt))(l4:List (Ty.den TRt))(l5:List (Ty.den TS))(g0:0≤n0):Imp (u0s [.n n0,.l TS l1,.l TPt l2,.l TPt l3,.l TRt l4,.l TS l5]) (l0d [.k 0,.n n0,.l TS l1,.l TPt l2,.l TPt l3,.l TRt l4,.l TS l5]):=
(.pa [1]
(.nd (fun h0=>
(.pt (c:=(inR n0 (List.length l2))) (by kernel_rfl) (by kernel_rfl) (by(simp only[w64d,decide_eq_true_eq,decide_eq_false_iff_not,beq_iff_eq,beq_eq_false_iff_ne,bne_iff_ne,ne_eq,inR,Bool.and_eq_true,Bool.and_eq_false_iff,Bool.not_eq_true',Bool.not_eq_false',Bool.not_eq_eq_eq_not,Bool.not_true,Bool.not_false]at*;omega))
(.nd (fun h1=>
(.pa [1]
.lf)) (fun h1=>
.none)))) (fun h0=>
(.pa [1]
.lf))))
def j0e (env:List Dat):Tree Step:=Lk.stepMC false LK f2y 67 8 ls0 (mkM 0 [] [(sh 60 [(1,.ptr 0 0),(3,.own 1),(5,.int .i64 0)],[laB 1,.arr TS 5])] [] [(.exit 2,sh 60 [(1,.ptr 0 0),(3,.own 1)],[laB 0,.arr TS 4])] fun _=>none) env
theorem i3u: ∃f:List Dat→Option (Nat×List Dat),∀env,f env=a0b j0e FU env:=⟨a0b j0e FU,fun _=>rfl⟩
def y0j:List Dat→Option (Nat×List Dat):=Classical.choose i3u
theorem d1p (env:List Dat):y0j env=a0b j0e FU env:=Classical.choose_spec i3u env
def v2k:MBox:=mkM 0 [] [(sh 60 [(1,.ptr 0 0),(3,.own 1),(5,.int .i64 0)],[laB 1,.arr TS 5])] [] [(.exit 2,sh 60 [(1,.ptr 0 0),(3,.own 1)],[laB 0,.arr TS 4])] y0j
theorem g2n:v2k=mkM 0 [] [(sh 60 [(1,.ptr 0 0),(3,.own 1),(5,.int .i64 0)],[laB 1,.arr TS 5])] [] [(.exit 2,sh 60 [(1,.ptr 0 0),(3,.own 1)],[laB 0,.arr TS 4])] (a0b j0e FU):=congrArg (fun f=>mkM 0 [] [(sh 60 [(1,.ptr 0 0),(3,.own 1),(5,.int .i64 0)],[laB 1,.arr TS 5])] [] [(.exit 2,sh 60 [(1,.ptr 0 0),(3,.own 1)],[laB 0,.arr TS 4])] f) (funext d1p)
theorem p2v: ∀t s x,(a0h v2k t s).sel=some x→a0k Tryz.prog 0 (.loop (cAt Tryz.prog 67 8)) t s x:=by
 rw[g2n]
 exact a0o (st:=j0e) (m:=FU) u0k hmix false (LsOk.none _ _ _) (by kernel_rfl) (fun env y h=>by rw[←stepMC_lk];exact h)
def v0f:List Dat→Tree Step
 |[.n n0,.l (Ty.str) l1,.l (Ty.pair Ty.str (Ty.int IntKind.i64)) l2,.l (Ty.pair Ty.str (Ty.int IntKind.i64)) l3,.l (Ty.pair Ty.str (Ty.pair (Ty.int IntKind.i64) (Ty.pair (Ty.sl (Ty.int IntKind.i64)) (Ty.pair (Ty.sl (Ty.pair (Ty.int IntKind.i64) Ty.bool)) (Ty.pair (Ty.sl (Ty.int IntKind.i64)) (Ty.sl (Ty.pair (Ty.int IntKind.i64) Ty.bool))))))) l4,.l (Ty.str) l5]=>
  (.node (decide (n0<(↑(List.length l3):Int)))
   (.node (decide ((List.length l5+1)*16≤140737488355328))
   (.leaf (Step.go [.k 0,.n (IntKind.wrap .i64 (n0+(1:Int))),.l Ty.str l1,.l TPt l2,.l TPt l3,.l TRt l4,.l Ty.str (l5++[Prod.fst (List.getD l3 (Int.toNat n0) (Ty.dflt TPt))])]))
   (.bad 62))
   (.leaf (Step.stop 0 [.l Ty.str l1,.l TPt l2,.l TPt l3,.l TRt l4,.l Ty.str l5])))
 |_=>.bad 0
theorem r0e (n0:Int)(l1:List (Ty.den TS))(l2:List (Ty.den TPt))(l3:List (Ty.den TPt))(l4:List (Ty.den TRt))(l5:List (Ty.den TS))(g0:0≤n0):Imp (v0f [.n n0,.l TS l1,.l TPt l2,.l TPt l3,.l TRt l4,.l TS l5]) (j0e [.k 0,.n n0,.l TS l1,.l TPt l2,.l TPt l3,.l TRt l4,.l TS l5]):=
(.pa [1]
(.nd (fun h0=>
(.pt (c:=(inR n0 (List.length l3))) (by kernel_rfl) (by kernel_rfl) (by(simp only[w64d,decide_eq_true_eq,decide_eq_false_iff_not,beq_iff_eq,beq_eq_false_iff_ne,bne_iff_ne,ne_eq,inR,Bool.and_eq_true,Bool.and_eq_false_iff,Bool.not_eq_true',Bool.not_eq_false',Bool.not_eq_eq_eq_not,Bool.not_true,Bool.not_false]at*;omega))
(.nd (fun h1=>
(.pa [1]
.lf)) (fun h1=>
.none)))) (fun h0=>
(.pa [1]
.lf))))
def g0m (env:List Dat):Tree Step:=Lk.stepMC false LK f2y 67 12 ls0 (mkM 0 [] [(sh 60 [(1,.ptr 0 0),(3,.own 1),(6,.int .i64 0)],[laB 1,.arr TS 5])] [] [(.exit 4,sh 60 [(3,.own 0)],[.arr TS 0])] fun _=>none) env
theorem h3v: ∃f:List Dat→Option (Nat×List Dat),∀env,f env=a0b g0m FU env:=⟨a0b g0m FU,fun _=>rfl⟩
def t0f:List Dat→Option (Nat×List Dat):=Classical.choose h3v
theorem w0n (env:List Dat):t0f env=a0b g0m FU env:=Classical.choose_spec h3v env
def x1e:MBox:=mkM 0 [] [(sh 60 [(1,.ptr 0 0),(3,.own 1),(6,.int .i64 0)],[laB 1,.arr TS 5])] [] [(.exit 4,sh 60 [(3,.own 0)],[.arr TS 0])] t0f
theorem e2t:x1e=mkM 0 [] [(sh 60 [(1,.ptr 0 0),(3,.own 1),(6,.int .i64 0)],[laB 1,.arr TS 5])] [] [(.exit 4,sh 60 [(3,.own 0)],[.arr TS 0])] (a0b g0m FU):=congrArg (fun f=>mkM 0 [] [(sh 60 [(1,.ptr 0 0),(3,.own 1),(6,.int .i64 0)],[laB 1,.arr TS 5])] [] [(.exit 4,sh 60 [(3,.own 0)],[.arr TS 0])] f) (funext w0n)
theorem f2z: ∀t s x,(a0h x1e t s).sel=some x→a0k Tryz.prog 0 (.loop (cAt Tryz.prog 67 12)) t s x:=by
 rw[e2t]
 exact a0o (st:=g0m) (m:=FU) u0k hmix false (LsOk.none _ _ _) (by kernel_rfl) (fun env y h=>by rw[←stepMC_lk];exact h)
def q0a:List Dat→Tree Step
 |[.n n0,.l (Ty.str) l1,.l (Ty.pair Ty.str (Ty.int IntKind.i64)) l2,.l (Ty.pair Ty.str (Ty.int IntKind.i64)) l3,.l (Ty.pair Ty.str (Ty.pair (Ty.int IntKind.i64) (Ty.pair (Ty.sl (Ty.int IntKind.i64)) (Ty.pair (Ty.sl (Ty.pair (Ty.int IntKind.i64) Ty.bool)) (Ty.pair (Ty.sl (Ty.int IntKind.i64)) (Ty.sl (Ty.pair (Ty.int IntKind.i64) Ty.bool))))))) l4,.l (Ty.str) l5]=>
  (.node (decide (n0<(↑(List.length l4):Int)))
   (.node (decide ((List.length l5+1)*16≤140737488355328))
   (.leaf (Step.go [.k 0,.n (IntKind.wrap .i64 (n0+(1:Int))),.l Ty.str l1,.l TPt l2,.l TPt l3,.l TRt l4,.l Ty.str (l5++[Prod.fst (List.getD l4 (Int.toNat n0) (Ty.dflt TRt))])]))
   (.bad 62))
   (.leaf (Step.stop 0 [.l Ty.str l5])))
 |_=>.bad 0
theorem p0g (n0:Int)(l1:List (Ty.den TS))(l2:List (Ty.den TPt))(l3:List (Ty.den TPt))(l4:List (Ty.den TRt))(l5:List (Ty.den TS))(g0:0≤n0):Imp (q0a [.n n0,.l TS l1,.l TPt l2,.l TPt l3,.l TRt l4,.l TS l5]) (g0m [.k 0,.n n0,.l TS l1,.l TPt l2,.l TPt l3,.l TRt l4,.l TS l5]):=
(.pa [1]
(.nd (fun h0=>
(.pt (c:=(inR n0 (List.length l4))) (by kernel_rfl) (by kernel_rfl) (by(simp only[w64d,decide_eq_true_eq,decide_eq_false_iff_not,beq_iff_eq,beq_eq_false_iff_ne,bne_iff_ne,ne_eq,inR,Bool.and_eq_true,Bool.and_eq_false_iff,Bool.not_eq_true',Bool.not_eq_false',Bool.not_eq_eq_eq_not,Bool.not_true,Bool.not_false]at*;omega))
(.nd (fun h1=>
(.pa [1]
.lf)) (fun h1=>
.none)))) (fun h0=>
(.pa [1]
.lf))))
theorem t2m:LsOk Tryz.prog (List.length ([]:List PB)) (lsM [(4,q2h),(8,v2k),(12,x1e)] (List.length ([]:List PB))) (a0r Tryz.prog 67):=LsOk.many fun j B hB hk c hc hi=>by
 simp only[b0d]at hB
 split at hB
 ·rename_i e;have:=Nat.eq_of_beq_eq_true e;subst this;cases hB
  have e1:p0c Tryz.prog 67 4=[cAt Tryz.prog 67 4]:=a0e (by kernel_rfl)
  have e2:c∈p0c Tryz.prog 67 4:=a0d hc hi
  rw[e1]at e2;cases List.mem_singleton.1 e2;exact g2o
 split at hB
 ·rename_i e;have:=Nat.eq_of_beq_eq_true e;subst this;cases hB
  have e1:p0c Tryz.prog 67 8=[cAt Tryz.prog 67 8]:=a0e (by kernel_rfl)
  have e2:c∈p0c Tryz.prog 67 8:=a0d hc hi
  rw[e1]at e2;cases List.mem_singleton.1 e2;exact p2v
 split at hB
 ·rename_i e;have:=Nat.eq_of_beq_eq_true e;subst this;cases hB
  have e1:p0c Tryz.prog 67 12=[cAt Tryz.prog 67 12]:=a0e (by kernel_rfl)
  have e2:c∈p0c Tryz.prog 67 12:=a0d hc hi
  rw[e1]at e2;cases List.mem_singleton.1 e2;exact f2z
 cases hB
def t2k (env:List Dat):Tree (Nat×List Dat):=Lk.boxC false LK f2y 67 (lsM [(4,q2h),(8,v2k),(12,x1e)] (List.length ([]:List PB))) (mkF [laV 0] [] [] [(.own 0,[.arr TS 0])] fun _=>none) env
theorem l3a: ∃f:List Dat→Option (Nat×List Dat),∀env,f env=(t2k env).sel:=⟨fun env=>(t2k env).sel,fun _=>rfl⟩
def k2f:List Dat→Option (Nat×List Dat):=Classical.choose l3a
theorem t1v (env:List Dat):k2f env=(t2k env).sel:=Classical.choose_spec l3a env
def B41:FBox:=mkF [laV 0] [] [] [(.own 0,[.arr TS 0])] k2f
theorem B41_ok:a0v Tryz.prog 67 (a0j B41):=a0p (op:=k2f) u0k hmix false (t2m) (fun env x h=>by rw[t1v]at h;rw[←boxC_lk];exact h)
def j2q:List Dat→Tree (Nat×List Dat)
 |[.l (Ty.str) l0,.l (Ty.pair Ty.str (Ty.int IntKind.i64)) l1,.l (Ty.pair Ty.str (Ty.int IntKind.i64)) l2,.l (Ty.pair Ty.str (Ty.pair (Ty.int IntKind.i64) (Ty.pair (Ty.sl (Ty.int IntKind.i64)) (Ty.pair (Ty.sl (Ty.pair (Ty.int IntKind.i64) Ty.bool)) (Ty.pair (Ty.sl (Ty.int IntKind.i64)) (Ty.sl (Ty.pair (Ty.int IntKind.i64) Ty.bool))))))) l3]=>
  (.node (decide (List.length l0*16≤140737488355328))
   (let r1:Option (Nat×List Dat):=(z0f [.k 0,.n (0:Int),.l Ty.str l0,.l TPt l1,.l TPt l2,.l TRt l3,.l Ty.str l0]);
   (.node (isK 0 [HK.l Ty.str,HK.l TPt,HK.l TPt,HK.l TRt,HK.l Ty.str] r1)
    (let r2:Option (Nat×List Dat):=(y0j [.k 0,.n (0:Int),.l Ty.str (gl Ty.str (dOf r1) 0),.l TPt (gl TPt (dOf r1) 1),.l TPt (gl TPt (dOf r1) 2),.l TRt (gl TRt (dOf r1) 3),.l Ty.str (gl Ty.str (dOf r1) 4)]);
    (.node (isK 0 [HK.l Ty.str,HK.l TPt,HK.l TPt,HK.l TRt,HK.l Ty.str] r2)
     (let r3:Option (Nat×List Dat):=(t0f [.k 0,.n (0:Int),.l Ty.str (gl Ty.str (dOf r2) 0),.l TPt (gl TPt (dOf r2) 1),.l TPt (gl TPt (dOf r2) 2),.l TRt (gl TRt (dOf r2) 3),.l Ty.str (gl Ty.str (dOf r2) 4)]);
     (.node (isK 0 [HK.l Ty.str] r3)
      (.leaf ((0,[.l Ty.str (gl Ty.str (dOf r3) 0)])))
      (.bad 351)))
     (.bad 351)))
    (.bad 351)))
   (.bad 60))
 |_=>.bad 0
theorem e2i (l0:List (Ty.den TS))(l1:List (Ty.den TPt))(l2:List (Ty.den TPt))(l3:List (Ty.den TRt)):Imp (j2q [.l TS l0,.l TPt l1,.l TPt l2,.l TRt l3]) (t2k [.l TS l0,.l TPt l1,.l TPt l2,.l TRt l3]):=
(.nd (fun h0=>
(.nd (fun h1=>
(.nd (fun h2=>
(.nd (fun h3=>
(.pa [1]
.lf)) (fun h3=>
.none))) (fun h2=>
.none))) (fun h1=>
.none))) (fun h0=>
.none))
def cs_41:FuncId→Option a0q:=a0s 67 B41 f2y
theorem y1v:CsOk Tryz.prog cs_41:=a0g u0k B41_ok
def q2r (env:List Dat):Tree (Nat×List Dat):=Lk.boxC false LK cs_41 66 ls0 (mkF [laV 0] [] [] [(.bool 0,[])] fun _=>none) env
theorem k3y: ∃f:List Dat→Option (Nat×List Dat),∀env,f env=(q2r env).sel:=⟨fun env=>(q2r env).sel,fun _=>rfl⟩
def l2o:List Dat→Option (Nat×List Dat):=Classical.choose k3y
theorem t1n (env:List Dat):l2o env=(q2r env).sel:=Classical.choose_spec k3y env
def B40:FBox:=mkF [laV 0] [] [] [(.bool 0,[])] l2o
theorem B40_ok:a0v Tryz.prog 66 (a0j B40):=a0p (op:=l2o) y1v hmix false (LsOk.none _ _ _) (fun env x h=>by rw[t1n]at h;rw[←boxC_lk];exact h)
def g2v:List Dat→Tree (Nat×List Dat)
 |[.l (Ty.str) l0,.l (Ty.pair Ty.str (Ty.int IntKind.i64)) l1,.l (Ty.pair Ty.str (Ty.int IntKind.i64)) l2,.l (Ty.pair Ty.str (Ty.pair (Ty.int IntKind.i64) (Ty.pair (Ty.sl (Ty.int IntKind.i64)) (Ty.pair (Ty.sl (Ty.pair (Ty.int IntKind.i64) Ty.bool)) (Ty.pair (Ty.sl (Ty.int IntKind.i64)) (Ty.sl (Ty.pair (Ty.int IntKind.i64) Ty.bool))))))) l3]=>
  (.node (decide ((↑(List.length l0):Int)>(64:Int)))
   (.leaf ((0,[.b true])))
   (.node (decide ((↑(List.length l1):Int)>(32:Int)))
   (.leaf ((0,[.b true])))
   (.node (decide ((↑(List.length l2):Int)>(32:Int)))
    (.leaf ((0,[.b true])))
    (.leaf ((0,[.b (decide ((↑(List.length l3):Int)>(64:Int)))]))))))
 |_=>.bad 0
theorem e2o (l0:List (Ty.den TS))(l1:List (Ty.den TPt))(l2:List (Ty.den TPt))(l3:List (Ty.den TRt)):Imp (g2v [.l TS l0,.l TPt l1,.l TPt l2,.l TRt l3]) (q2r [.l TS l0,.l TPt l1,.l TPt l2,.l TRt l3]):=
(.nd (fun h0=>
(.pa [1,1,1,1,1,1]
.lf)) (fun h0=>
(.nd (fun h1=>
(.pa [1,1,1,1]
.lf)) (fun h1=>
(.nd (fun h2=>
(.pa [1,1]
.lf)) (fun h2=>
(.pa [1]
.lf)))))))
def b2w:FuncId→Option a0q:=a0s 66 B40 cs_41
theorem u0i:CsOk Tryz.prog b2w:=a0g y1v B40_ok
def n0n (env:List Dat):Tree Step:=Lk.stepMC false LK b2w 110 4 ls0 (mkM 0 [] [(sh 75 [(1,.ptr 0 0),(32,.imm TPt 0),(33,.int .i64 1),(34,.int .i64 2)],[laB 3])] [] [(.exit 0,sh 75 [(1,.ptr 0 0)],[laB 0]),(.ret,sh 75 [(2,.bool 0)],[])] fun _=>none) env
theorem i3s: ∃f:List Dat→Option (Nat×List Dat),∀env,f env=a0b n0n FU env:=⟨a0b n0n FU,fun _=>rfl⟩
def y0n:List Dat→Option (Nat×List Dat):=Classical.choose i3s
theorem a1e (env:List Dat):y0n env=a0b n0n FU env:=Classical.choose_spec i3s env
def q2w:MBox:=mkM 0 [] [(sh 75 [(1,.ptr 0 0),(32,.imm TPt 0),(33,.int .i64 1),(34,.int .i64 2)],[laB 3])] [] [(.exit 0,sh 75 [(1,.ptr 0 0)],[laB 0]),(.ret,sh 75 [(2,.bool 0)],[])] y0n
theorem p2e:q2w=mkM 0 [] [(sh 75 [(1,.ptr 0 0),(32,.imm TPt 0),(33,.int .i64 1),(34,.int .i64 2)],[laB 3])] [] [(.exit 0,sh 75 [(1,.ptr 0 0)],[laB 0]),(.ret,sh 75 [(2,.bool 0)],[])] (a0b n0n FU):=congrArg (fun f=>mkM 0 [] [(sh 75 [(1,.ptr 0 0),(32,.imm TPt 0),(33,.int .i64 1),(34,.int .i64 2)],[laB 3])] [] [(.exit 0,sh 75 [(1,.ptr 0 0)],[laB 0]),(.ret,sh 75 [(2,.bool 0)],[])] f) (funext a1e)
theorem n2a: ∀t s x,(a0h q2w t s).sel=some x→a0k Tryz.prog 0 (.loop (cAt Tryz.prog 110 4)) t s x:=by
 rw[p2e]
 exact a0o (st:=n0n) (m:=FU) u0i hmix false (LsOk.none _ _ _) (by kernel_rfl) (fun env y h=>by rw[←stepMC_lk];exact h)
def o0b:List Dat→Tree Step
 |[.l (Ty.pair Ty.str (Ty.int IntKind.i64)) l0,.n n1,.n n2,.l (Ty.str) l3,.l (Ty.pair Ty.str (Ty.int IntKind.i64)) l4,.l (Ty.pair Ty.str (Ty.int IntKind.i64)) l5,.l (Ty.pair Ty.str (Ty.pair (Ty.int IntKind.i64) (Ty.pair (Ty.sl (Ty.int IntKind.i64)) (Ty.pair (Ty.sl (Ty.pair (Ty.int IntKind.i64) Ty.bool)) (Ty.pair (Ty.sl (Ty.int IntKind.i64)) (Ty.sl (Ty.pair (Ty.int IntKind.i64) Ty.bool))))))) l6]=>
  (.node (decide (n2<n1))
   (.node (decide ((Prod.snd (List.getD l0 (Int.toNat n2) (Ty.dflt TPt)):Int)≥(0:Int)))
   (.node (!decide ((Prod.snd (List.getD l0 (Int.toNat n2) (Ty.dflt TPt)):Int)<(↑(List.length l3):Int)))
    (.leaf (Step.stop 1 [.b false]))
    (.leaf (Step.go [.k 0,.l TPt l0,.n n1,.n (IntKind.wrap .i64 (n2+(1:Int))),.l Ty.str l3,.l TPt l4,.l TPt l5,.l TRt l6])))
   (.leaf (Step.stop 1 [.b false])))
   (.leaf (Step.stop 0 [.l Ty.str l3,.l TPt l4,.l TPt l5,.l TRt l6])))
 |_=>.bad 0
theorem k0r (l0:List (Ty.den TPt))(n1:Int)(n2:Int)(l3:List (Ty.den TS))(l4:List (Ty.den TPt))(l5:List (Ty.den TPt))(l6:List (Ty.den TRt))(g0:0≤n2)(g1:n1=(l0.length:Int)):Imp (o0b [.l TPt l0,.n n1,.n n2,.l TS l3,.l TPt l4,.l TPt l5,.l TRt l6]) (n0n [.k 0,.l TPt l0,.n n1,.n n2,.l TS l3,.l TPt l4,.l TPt l5,.l TRt l6]):=
(.pa [1]
(.nd (fun h0=>
(.pt (c:=(inR n2 (List.length l0))) (by kernel_rfl) (by kernel_rfl) (by(simp only[w64d,decide_eq_true_eq,decide_eq_false_iff_not,beq_iff_eq,beq_eq_false_iff_ne,bne_iff_ne,ne_eq,inR,Bool.and_eq_true,Bool.and_eq_false_iff,Bool.not_eq_true',Bool.not_eq_false',Bool.not_eq_eq_eq_not,Bool.not_true,Bool.not_false]at*;omega))
(.pa [1]
(.nd (fun h1=>
(.pa [1]
(.nd (fun h2=>
(.pa [1]
.lf)) (fun h2=>
(.pa [1]
.lf))))) (fun h1=>
(.pa [0,1,1,1]
.lf)))))) (fun h0=>
(.pa [1]
.lf))))
def i0d (env:List Dat):Tree Step:=Lk.stepMC false LK b2w 110 10 ls0 (mkM 0 [] [(sh 75 [(1,.ptr 0 0),(47,.imm TPt 0),(48,.int .i64 1),(49,.int .i64 2)],[laB 3])] [] [(.exit 2,sh 75 [(1,.ptr 0 0)],[laB 0]),(.ret,sh 75 [(2,.bool 0)],[])] fun _=>none) env
theorem i3d: ∃f:List Dat→Option (Nat×List Dat),∀env,f env=a0b i0d FU env:=⟨a0b i0d FU,fun _=>rfl⟩
def t0w:List Dat→Option (Nat×List Dat):=Classical.choose i3d
theorem x0f (env:List Dat):t0w env=a0b i0d FU env:=Classical.choose_spec i3d env
def w1w:MBox:=mkM 0 [] [(sh 75 [(1,.ptr 0 0),(47,.imm TPt 0),(48,.int .i64 1),(49,.int .i64 2)],[laB 3])] [] [(.exit 2,sh 75 [(1,.ptr 0 0)],[laB 0]),(.ret,sh 75 [(2,.bool 0)],[])] t0w
theorem e2q:w1w=mkM 0 [] [(sh 75 [(1,.ptr 0 0),(47,.imm TPt 0),(48,.int .i64 1),(49,.int .i64 2)],[laB 3])] [] [(.exit 2,sh 75 [(1,.ptr 0 0)],[laB 0]),(.ret,sh 75 [(2,.bool 0)],[])] (a0b i0d FU):=congrArg (fun f=>mkM 0 [] [(sh 75 [(1,.ptr 0 0),(47,.imm TPt 0),(48,.int .i64 1),(49,.int .i64 2)],[laB 3])] [] [(.exit 2,sh 75 [(1,.ptr 0 0)],[laB 0]),(.ret,sh 75 [(2,.bool 0)],[])] f) (funext x0f)
theorem b2t: ∀t s x,(a0h w1w t s).sel=some x→a0k Tryz.prog 0 (.loop (cAt Tryz.prog 110 10)) t s x:=by
 rw[e2q]
 exact a0o (st:=i0d) (m:=FU) u0i hmix false (LsOk.none _ _ _) (by kernel_rfl) (fun env y h=>by rw[←stepMC_lk];exact h)
def j0h:List Dat→Tree Step
 |[.l (Ty.pair Ty.str (Ty.int IntKind.i64)) l0,.n n1,.n n2,.l (Ty.str) l3,.l (Ty.pair Ty.str (Ty.int IntKind.i64)) l4,.l (Ty.pair Ty.str (Ty.int IntKind.i64)) l5,.l (Ty.pair Ty.str (Ty.pair (Ty.int IntKind.i64) (Ty.pair (Ty.sl (Ty.int IntKind.i64)) (Ty.pair (Ty.sl (Ty.pair (Ty.int IntKind.i64) Ty.bool)) (Ty.pair (Ty.sl (Ty.int IntKind.i64)) (Ty.sl (Ty.pair (Ty.int IntKind.i64) Ty.bool))))))) l6]=>
  (.node (decide (n2<n1))
   (.node (decide ((Prod.snd (List.getD l0 (Int.toNat n2) (Ty.dflt TPt)):Int)≥(0:Int)))
   (.node (!decide ((Prod.snd (List.getD l0 (Int.toNat n2) (Ty.dflt TPt)):Int)<(↑(List.length l3):Int)))
    (.leaf (Step.stop 1 [.b false]))
    (.leaf (Step.go [.k 0,.l TPt l0,.n n1,.n (IntKind.wrap .i64 (n2+(1:Int))),.l Ty.str l3,.l TPt l4,.l TPt l5,.l TRt l6])))
   (.leaf (Step.stop 1 [.b false])))
   (.leaf (Step.stop 0 [.l Ty.str l3,.l TPt l4,.l TPt l5,.l TRt l6])))
 |_=>.bad 0
theorem i0a (l0:List (Ty.den TPt))(n1:Int)(n2:Int)(l3:List (Ty.den TS))(l4:List (Ty.den TPt))(l5:List (Ty.den TPt))(l6:List (Ty.den TRt))(g0:0≤n2)(g1:n1=(l0.length:Int)):Imp (j0h [.l TPt l0,.n n1,.n n2,.l TS l3,.l TPt l4,.l TPt l5,.l TRt l6]) (i0d [.k 0,.l TPt l0,.n n1,.n n2,.l TS l3,.l TPt l4,.l TPt l5,.l TRt l6]):=
(.pa [1]
(.nd (fun h0=>
(.pt (c:=(inR n2 (List.length l0))) (by kernel_rfl) (by kernel_rfl) (by(simp only[w64d,decide_eq_true_eq,decide_eq_false_iff_not,beq_iff_eq,beq_eq_false_iff_ne,bne_iff_ne,ne_eq,inR,Bool.and_eq_true,Bool.and_eq_false_iff,Bool.not_eq_true',Bool.not_eq_false',Bool.not_eq_eq_eq_not,Bool.not_true,Bool.not_false]at*;omega))
(.pa [1]
(.nd (fun h1=>
(.pa [1]
(.nd (fun h2=>
(.pa [1]
.lf)) (fun h2=>
(.pa [1]
.lf))))) (fun h1=>
(.pa [0,1,1,1]
.lf)))))) (fun h0=>
(.pa [1]
.lf))))
def i0v (env:List Dat):Tree Step:=Lk.stepMC false LK b2w 110 16 ls0 (mkM 0 [] [(sh 75 [(1,.ptr 0 0),(62,.imm TRt 0),(63,.int .i64 1),(64,.int .i64 2)],[laB 3])] [] [(.exit 4,sh 75 [(1,.ptr 0 0)],[laB 0]),(.ret,sh 75 [(2,.bool 0)],[])] fun _=>none) env
theorem i3f: ∃f:List Dat→Option (Nat×List Dat),∀env,f env=a0b i0v FU env:=⟨a0b i0v FU,fun _=>rfl⟩
def r0y:List Dat→Option (Nat×List Dat):=Classical.choose i3f
theorem w0q (env:List Dat):r0y env=a0b i0v FU env:=Classical.choose_spec i3f env
def u1q:MBox:=mkM 0 [] [(sh 75 [(1,.ptr 0 0),(62,.imm TRt 0),(63,.int .i64 1),(64,.int .i64 2)],[laB 3])] [] [(.exit 4,sh 75 [(1,.ptr 0 0)],[laB 0]),(.ret,sh 75 [(2,.bool 0)],[])] r0y
theorem d2y:u1q=mkM 0 [] [(sh 75 [(1,.ptr 0 0),(62,.imm TRt 0),(63,.int .i64 1),(64,.int .i64 2)],[laB 3])] [] [(.exit 4,sh 75 [(1,.ptr 0 0)],[laB 0]),(.ret,sh 75 [(2,.bool 0)],[])] (a0b i0v FU):=congrArg (fun f=>mkM 0 [] [(sh 75 [(1,.ptr 0 0),(62,.imm TRt 0),(63,.int .i64 1),(64,.int .i64 2)],[laB 3])] [] [(.exit 4,sh 75 [(1,.ptr 0 0)],[laB 0]),(.ret,sh 75 [(2,.bool 0)],[])] f) (funext w0q)
theorem d2p: ∀t s x,(a0h u1q t s).sel=some x→a0k Tryz.prog 0 (.loop (cAt Tryz.prog 110 16)) t s x:=by
 rw[d2y]
 exact a0o (st:=i0v) (m:=FU) u0i hmix false (LsOk.none _ _ _) (by kernel_rfl) (fun env y h=>by rw[←stepMC_lk];exact h)
def j0s:List Dat→Tree Step
 |[.l (Ty.pair Ty.str (Ty.pair (Ty.int IntKind.i64) (Ty.pair (Ty.sl (Ty.int IntKind.i64)) (Ty.pair (Ty.sl (Ty.pair (Ty.int IntKind.i64) Ty.bool)) (Ty.pair (Ty.sl (Ty.int IntKind.i64)) (Ty.sl (Ty.pair (Ty.int IntKind.i64) Ty.bool))))))) l0,.n n1,.n n2,.l (Ty.str) l3,.l (Ty.pair Ty.str (Ty.int IntKind.i64)) l4,.l (Ty.pair Ty.str (Ty.int IntKind.i64)) l5,.l (Ty.pair Ty.str (Ty.pair (Ty.int IntKind.i64) (Ty.pair (Ty.sl (Ty.int IntKind.i64)) (Ty.pair (Ty.sl (Ty.pair (Ty.int IntKind.i64) Ty.bool)) (Ty.pair (Ty.sl (Ty.int IntKind.i64)) (Ty.sl (Ty.pair (Ty.int IntKind.i64) Ty.bool))))))) l6]=>
  (.node (decide (n2<n1))
   (let r1:Option (Nat×List Dat):=(i2m [.l Ty.str l3,.l TPt l4,.l TPt l5,.l TRt l6,.s (Prod.fst (List.getD l0 (Int.toNat n2) (Ty.dflt TRt))),.n (Prod.fst (Prod.snd (List.getD l0 (Int.toNat n2) (Ty.dflt TRt)))),.l TI (Prod.fst (Prod.snd (Prod.snd (List.getD l0 (Int.toNat n2) (Ty.dflt TRt))))),.l TNd (Prod.fst (Prod.snd (Prod.snd (Prod.snd (List.getD l0 (Int.toNat n2) (Ty.dflt TRt)))))),.l TI (Prod.fst (Prod.snd (Prod.snd (Prod.snd (Prod.snd (List.getD l0 (Int.toNat n2) (Ty.dflt TRt))))))),.l TNd (Prod.snd (Prod.snd (Prod.snd (Prod.snd (Prod.snd (List.getD l0 (Int.toNat n2) (Ty.dflt TRt)))))))]);
   (.node (isK 0 [HK.b] r1)
    (.node (!gb (dOf r1) 0)
    (.leaf (Step.stop 1 [.b false]))
    (.leaf (Step.go [.k 0,.l TRt l0,.n n1,.n (IntKind.wrap .i64 (n2+(1:Int))),.l Ty.str l3,.l TPt l4,.l TPt l5,.l TRt l6])))
    (.bad 351)))
   (.leaf (Step.stop 0 [.l Ty.str l3,.l TPt l4,.l TPt l5,.l TRt l6])))
 |_=>.bad 0
theorem i0b (l0:List (Ty.den TRt))(n1:Int)(n2:Int)(l3:List (Ty.den TS))(l4:List (Ty.den TPt))(l5:List (Ty.den TPt))(l6:List (Ty.den TRt))(g0:0≤n2)(g1:n1=(l0.length:Int)):Imp (j0s [.l TRt l0,.n n1,.n n2,.l TS l3,.l TPt l4,.l TPt l5,.l TRt l6]) (i0v [.k 0,.l TRt l0,.n n1,.n n2,.l TS l3,.l TPt l4,.l TPt l5,.l TRt l6]):=
(.pa [1]
(.nd (fun h0=>
(.pt (c:=(inR n2 (List.length l0))) (by kernel_rfl) (by kernel_rfl) (by(simp only[w64d,decide_eq_true_eq,decide_eq_false_iff_not,beq_iff_eq,beq_eq_false_iff_ne,bne_iff_ne,ne_eq,inR,Bool.and_eq_true,Bool.and_eq_false_iff,Bool.not_eq_true',Bool.not_eq_false',Bool.not_eq_eq_eq_not,Bool.not_true,Bool.not_false]at*;omega))
(.nd (fun h1=>
(.pa [1]
(.nd (fun h2=>
(.pa [1]
.lf)) (fun h2=>
(.pa [1]
.lf))))) (fun h1=>
.none)))) (fun h0=>
(.pa [1]
.lf))))
theorem u2j:LsOk Tryz.prog (List.length ([]:List PB)) (lsM [(4,q2w),(10,w1w),(16,u1q)] (List.length ([]:List PB))) (a0r Tryz.prog 110):=LsOk.many fun j B hB hk c hc hi=>by
 simp only[b0d]at hB
 split at hB
 ·rename_i e;have:=Nat.eq_of_beq_eq_true e;subst this;cases hB
  have e1:p0c Tryz.prog 110 4=[cAt Tryz.prog 110 4]:=a0e (by kernel_rfl)
  have e2:c∈p0c Tryz.prog 110 4:=a0d hc hi
  rw[e1]at e2;cases List.mem_singleton.1 e2;exact n2a
 split at hB
 ·rename_i e;have:=Nat.eq_of_beq_eq_true e;subst this;cases hB
  have e1:p0c Tryz.prog 110 10=[cAt Tryz.prog 110 10]:=a0e (by kernel_rfl)
  have e2:c∈p0c Tryz.prog 110 10:=a0d hc hi
  rw[e1]at e2;cases List.mem_singleton.1 e2;exact b2t
 split at hB
 ·rename_i e;have:=Nat.eq_of_beq_eq_true e;subst this;cases hB
  have e1:p0c Tryz.prog 110 16=[cAt Tryz.prog 110 16]:=a0e (by kernel_rfl)
  have e2:c∈p0c Tryz.prog 110 16:=a0d hc hi
  rw[e1]at e2;cases List.mem_singleton.1 e2;exact d2p
 cases hB
def r2p (env:List Dat):Tree (Nat×List Dat):=Lk.boxC false LK b2w 110 (lsM [(4,q2w),(10,w1w),(16,u1q)] (List.length ([]:List PB))) (mkF [laV 0] [] [] [(.bool 0,[])] fun _=>none) env
theorem k3z: ∃f:List Dat→Option (Nat×List Dat),∀env,f env=(r2p env).sel:=⟨fun env=>(r2p env).sel,fun _=>rfl⟩
def g2g:List Dat→Option (Nat×List Dat):=Classical.choose k3z
theorem v1e (env:List Dat):g2g env=(r2p env).sel:=Classical.choose_spec k3z env
def B26:FBox:=mkF [laV 0] [] [] [(.bool 0,[])] g2g
theorem B26_ok:a0v Tryz.prog 110 (a0j B26):=a0p (op:=g2g) u0i hmix false (u2j) (fun env x h=>by rw[v1e]at h;rw[←boxC_lk];exact h)
def h2t:List Dat→Tree (Nat×List Dat)
 |[.l (Ty.str) l0,.l (Ty.pair Ty.str (Ty.int IntKind.i64)) l1,.l (Ty.pair Ty.str (Ty.int IntKind.i64)) l2,.l (Ty.pair Ty.str (Ty.pair (Ty.int IntKind.i64) (Ty.pair (Ty.sl (Ty.int IntKind.i64)) (Ty.pair (Ty.sl (Ty.pair (Ty.int IntKind.i64) Ty.bool)) (Ty.pair (Ty.sl (Ty.int IntKind.i64)) (Ty.sl (Ty.pair (Ty.int IntKind.i64) Ty.bool))))))) l3]=>
  (.node (decide ((↑(List.length l0):Int)>(64:Int)))
   (.leaf ((0,[.b false])))
   (.node (decide ((↑(List.length l1):Int)>(32:Int)))
   (.leaf ((0,[.b false])))
   (.node (decide ((↑(List.length l2):Int)>(32:Int)))
    (.leaf ((0,[.b false])))
    (.node (decide ((↑(List.length l3):Int)>(64:Int)))
    (.leaf ((0,[.b false])))
    (let r1:Option (Nat×List Dat):=(y0n [.k 0,.l TPt l1,.n (↑(List.length l1):Int),.n (0:Int),.l Ty.str l0,.l TPt l1,.l TPt l2,.l TRt l3]);
     (.node (isK 0 [HK.l Ty.str,HK.l TPt,HK.l TPt,HK.l TRt] r1)
     (let r2:Option (Nat×List Dat):=(t0w [.k 0,.l TPt (gl TPt (dOf r1) 2),.n (↑(List.length (gl TPt (dOf r1) 2)):Int),.n (0:Int),.l Ty.str (gl Ty.str (dOf r1) 0),.l TPt (gl TPt (dOf r1) 1),.l TPt (gl TPt (dOf r1) 2),.l TRt (gl TRt (dOf r1) 3)]);
      (.node (isK 0 [HK.l Ty.str,HK.l TPt,HK.l TPt,HK.l TRt] r2)
      (let r3:Option (Nat×List Dat):=(r0y [.k 0,.l TRt (gl TRt (dOf r2) 3),.n (↑(List.length (gl TRt (dOf r2) 3)):Int),.n (0:Int),.l Ty.str (gl Ty.str (dOf r2) 0),.l TPt (gl TPt (dOf r2) 1),.l TPt (gl TPt (dOf r2) 2),.l TRt (gl TRt (dOf r2) 3)]);
       (.node (isK 0 [HK.l Ty.str,HK.l TPt,HK.l TPt,HK.l TRt] r3)
       (let r4:Option (Nat×List Dat):=(g2y [.l Ty.str (gl Ty.str (dOf r3) 0),.l TPt (gl TPt (dOf r3) 1),.l TPt (gl TPt (dOf r3) 2),.l TRt (gl TRt (dOf r3) 3)]);
        (.node (isK 0 [HK.b] r4)
        (.leaf ((0,[.b (gb (dOf r4) 0)])))
        (.bad 351)))
       (.node (isK 1 [HK.b] r3)
        (.leaf ((0,[.b (gb (dOf r3) 0)])))
        (.bad 351))))
      (.node (isK 1 [HK.b] r2)
       (.leaf ((0,[.b (gb (dOf r2) 0)])))
       (.bad 351))))
     (.node (isK 1 [HK.b] r1)
      (.leaf ((0,[.b (gb (dOf r1) 0)])))
      (.bad 351))))))))
 |_=>.bad 0
theorem e2b (l0:List (Ty.den TS))(l1:List (Ty.den TPt))(l2:List (Ty.den TPt))(l3:List (Ty.den TRt)):Imp (h2t [.l TS l0,.l TPt l1,.l TPt l2,.l TRt l3]) (r2p [.l TS l0,.l TPt l1,.l TPt l2,.l TRt l3]):=
(.nd (fun h0=>
(.pa [1,1,1,1,1,1,1]
.lf)) (fun h0=>
(.nd (fun h1=>
(.pa [1,1,1,1,1]
.lf)) (fun h1=>
(.nd (fun h2=>
(.pa [1,1,1]
.lf)) (fun h2=>
(.nd (fun h3=>
(.pa [1]
.lf)) (fun h3=>
(.nd (fun h4=>
(.nd (fun h5=>
(.nd (fun h6=>
(.nd (fun h7=>
(.pa [1,1]
.lf)) (fun h7=>
.none))) (fun h6=>
(.nd (fun h7=>
(.pa [1]
.lf)) (fun h7=>
.none))))) (fun h5=>
(.nd (fun h6=>
(.pa [1]
.lf)) (fun h6=>
.none))))) (fun h4=>
(.nd (fun h5=>
(.pa [1]
.lf)) (fun h5=>
.none))))))))))))
def s1x:FuncId→Option a0q:=a0s 110 B26 b2w
theorem n0g:CsOk Tryz.prog s1x:=a0g u0i B26_ok
def n0e (env:List Dat):Tree Step:=Lk.stepMC false LK s1x 31 5 ls0 (mkM 0 [] [(sh 132 [(1,.ptr 0 0),(3,.own 1),(4,.int .i64 0)],[laB 1,.arr TS 5])] [] [(.exit 0,sh 132 [(1,.ptr 0 0)],[laB 0]),(.ret,sh 132 [(2,.bool 0)],[])] fun _=>none) env
theorem j3f: ∃f:List Dat→Option (Nat×List Dat),∀env,f env=a0b n0e FU env:=⟨a0b n0e FU,fun _=>rfl⟩
def z0g:List Dat→Option (Nat×List Dat):=Classical.choose j3f
theorem c1h (env:List Dat):z0g env=a0b n0e FU env:=Classical.choose_spec j3f env
def u2y:MBox:=mkM 0 [] [(sh 132 [(1,.ptr 0 0),(3,.own 1),(4,.int .i64 0)],[laB 1,.arr TS 5])] [] [(.exit 0,sh 132 [(1,.ptr 0 0)],[laB 0]),(.ret,sh 132 [(2,.bool 0)],[])] z0g
theorem i2z:u2y=mkM 0 [] [(sh 132 [(1,.ptr 0 0),(3,.own 1),(4,.int .i64 0)],[laB 1,.arr TS 5])] [] [(.exit 0,sh 132 [(1,.ptr 0 0)],[laB 0]),(.ret,sh 132 [(2,.bool 0)],[])] (a0b n0e FU):=congrArg (fun f=>mkM 0 [] [(sh 132 [(1,.ptr 0 0),(3,.own 1),(4,.int .i64 0)],[laB 1,.arr TS 5])] [] [(.exit 0,sh 132 [(1,.ptr 0 0)],[laB 0]),(.ret,sh 132 [(2,.bool 0)],[])] f) (funext c1h)
theorem o2l: ∀t s x,(a0h u2y t s).sel=some x→a0k Tryz.prog 0 (.loop (cAt Tryz.prog 31 5)) t s x:=by
 rw[i2z]
 exact a0o (st:=n0e) (m:=FU) n0g hmix false (LsOk.none _ _ _) (by kernel_rfl) (fun env y h=>by rw[←stepMC_lk];exact h)
def n0q:List Dat→Tree Step
 |[.n n0,.l (Ty.str) l1,.l (Ty.pair Ty.str (Ty.int IntKind.i64)) l2,.l (Ty.pair Ty.str (Ty.int IntKind.i64)) l3,.l (Ty.pair Ty.str (Ty.pair (Ty.int IntKind.i64) (Ty.pair (Ty.sl (Ty.int IntKind.i64)) (Ty.pair (Ty.sl (Ty.pair (Ty.int IntKind.i64) Ty.bool)) (Ty.pair (Ty.sl (Ty.int IntKind.i64)) (Ty.sl (Ty.pair (Ty.int IntKind.i64) Ty.bool))))))) l4,.l (Ty.str) l5]=>
  (.node (decide (n0<(↑(List.length l5):Int)))
   (let r1:Option (Nat×List Dat):=(o2p [.s (List.getD l5 (Int.toNat n0) (Ty.dflt Ty.str))]);
   (.node (isK 0 [HK.b] r1)
    (.node (!gb (dOf r1) 0)
    (.leaf (Step.stop 1 [.b false]))
    (let r2:Option (Nat×List Dat):=(c2l [.l Ty.str (List.take (Int.toNat n0-0) (List.drop 0 l5)),.s (List.getD l5 (Int.toNat n0) (Ty.dflt Ty.str))]);
     (.node (isK 0 [HK.n] r2)
     (.node (decide (gn (dOf r2) 0≥(0:Int)))
      (.leaf (Step.stop 1 [.b false]))
      (.leaf (Step.go [.k 0,.n (IntKind.wrap .i64 (n0+(1:Int))),.l Ty.str l1,.l TPt l2,.l TPt l3,.l TRt l4,.l Ty.str l5])))
     (.bad 351))))
    (.bad 351)))
   (.leaf (Step.stop 0 [.l Ty.str l1,.l TPt l2,.l TPt l3,.l TRt l4])))
 |_=>.bad 0
theorem j0j (n0:Int)(l1:List (Ty.den TS))(l2:List (Ty.den TPt))(l3:List (Ty.den TPt))(l4:List (Ty.den TRt))(l5:List (Ty.den TS))(g0:0≤n0):Imp (n0q [.n n0,.l TS l1,.l TPt l2,.l TPt l3,.l TRt l4,.l TS l5]) (n0e [.k 0,.n n0,.l TS l1,.l TPt l2,.l TPt l3,.l TRt l4,.l TS l5]):=
(.pa [1]
(.nd (fun h0=>
(.pt (c:=(inR n0 (List.length l5))) (by kernel_rfl) (by kernel_rfl) (by(simp only[w64d,decide_eq_true_eq,decide_eq_false_iff_not,beq_iff_eq,beq_eq_false_iff_ne,bne_iff_ne,ne_eq,inR,Bool.and_eq_true,Bool.and_eq_false_iff,Bool.not_eq_true',Bool.not_eq_false',Bool.not_eq_eq_eq_not,Bool.not_true,Bool.not_false]at*;omega))
(.nd (fun h1=>
(.pa [1]
(.nd (fun h2=>
(.pa [1,1,1,1]
.lf)) (fun h2=>
(.pt (c:=(decide ((0:Int)≤n0)&&decide (n0≤(↑(List.length l5):Int)))) (by kernel_rfl) (by kernel_rfl) (by(simp only[w64d,decide_eq_true_eq,decide_eq_false_iff_not,beq_iff_eq,beq_eq_false_iff_ne,bne_iff_ne,ne_eq,inR,Bool.and_eq_true,Bool.and_eq_false_iff,Bool.not_eq_true',Bool.not_eq_false',Bool.not_eq_eq_eq_not,Bool.not_true,Bool.not_false]at*;omega))
(.pt (c:=(true&&decide ((0:Int)≤n0))) (by kernel_rfl) (by kernel_rfl) (by(simp[*];done))
(.pt (c:=(inR n0 (List.length l5))) (by kernel_rfl) (by kernel_rfl) (by(simp only[w64d,decide_eq_true_eq,decide_eq_false_iff_not,beq_iff_eq,beq_eq_false_iff_ne,bne_iff_ne,ne_eq,inR,Bool.and_eq_true,Bool.and_eq_false_iff,Bool.not_eq_true',Bool.not_eq_false',Bool.not_eq_eq_eq_not,Bool.not_true,Bool.not_false]at*;omega))
(.nd (fun h3=>
(.pa [1,1]
(.nd (fun h4=>
(.pa [1]
.lf)) (fun h4=>
(.pa [1]
.lf))))) (fun h3=>
.none))))))))) (fun h1=>
.none)))) (fun h0=>
(.pa [1]
.lf))))
def i0z (env:List Dat):Tree Step:=Lk.stepMC false LK s1x 31 10 ls0 (mkM 0 [] [(sh 132 [(1,.ptr 0 0),(5,.int .i64 0)],[laB 1])] [] [(.exit 2,sh 132 [(1,.ptr 0 0)],[laB 0]),(.ret,sh 132 [(2,.bool 0)],[])] fun _=>none) env
theorem i3g: ∃f:List Dat→Option (Nat×List Dat),∀env,f env=a0b i0z FU env:=⟨a0b i0z FU,fun _=>rfl⟩
def s0b:List Dat→Option (Nat×List Dat):=Classical.choose i3g
theorem w0i (env:List Dat):s0b env=a0b i0z FU env:=Classical.choose_spec i3g env
def x1g:MBox:=mkM 0 [] [(sh 132 [(1,.ptr 0 0),(5,.int .i64 0)],[laB 1])] [] [(.exit 2,sh 132 [(1,.ptr 0 0)],[laB 0]),(.ret,sh 132 [(2,.bool 0)],[])] s0b
theorem c2b:x1g=mkM 0 [] [(sh 132 [(1,.ptr 0 0),(5,.int .i64 0)],[laB 1])] [] [(.exit 2,sh 132 [(1,.ptr 0 0)],[laB 0]),(.ret,sh 132 [(2,.bool 0)],[])] (a0b i0z FU):=congrArg (fun f=>mkM 0 [] [(sh 132 [(1,.ptr 0 0),(5,.int .i64 0)],[laB 1])] [] [(.exit 2,sh 132 [(1,.ptr 0 0)],[laB 0]),(.ret,sh 132 [(2,.bool 0)],[])] f) (funext w0i)
theorem f2t: ∀t s x,(a0h x1g t s).sel=some x→a0k Tryz.prog 0 (.loop (cAt Tryz.prog 31 10)) t s x:=by
 rw[c2b]
 exact a0o (st:=i0z) (m:=FU) n0g hmix false (LsOk.none _ _ _) (by kernel_rfl) (fun env y h=>by rw[←stepMC_lk];exact h)
def j0w:List Dat→Tree Step
 |[.n n0,.l (Ty.str) l1,.l (Ty.pair Ty.str (Ty.int IntKind.i64)) l2,.l (Ty.pair Ty.str (Ty.int IntKind.i64)) l3,.l (Ty.pair Ty.str (Ty.pair (Ty.int IntKind.i64) (Ty.pair (Ty.sl (Ty.int IntKind.i64)) (Ty.pair (Ty.sl (Ty.pair (Ty.int IntKind.i64) Ty.bool)) (Ty.pair (Ty.sl (Ty.int IntKind.i64)) (Ty.sl (Ty.pair (Ty.int IntKind.i64) Ty.bool))))))) l4]=>
  (.node (decide (n0<(↑(List.length l2):Int)))
   (let r1:Option (Nat×List Dat):=(a1t [.l TI [Prod.snd (List.getD l2 (Int.toNat n0) (Ty.dflt TPt))],.n (↑(List.length l1):Int)]);
   (.node (isK 0 [HK.b] r1)
    (.node (!gb (dOf r1) 0)
    (.leaf (Step.stop 1 [.b false]))
    (.leaf (Step.go [.k 0,.n (IntKind.wrap .i64 (n0+(1:Int))),.l Ty.str l1,.l TPt l2,.l TPt l3,.l TRt l4])))
    (.bad 351)))
   (.leaf (Step.stop 0 [.l Ty.str l1,.l TPt l2,.l TPt l3,.l TRt l4])))
 |_=>.bad 0
theorem h0n (n0:Int)(l1:List (Ty.den TS))(l2:List (Ty.den TPt))(l3:List (Ty.den TPt))(l4:List (Ty.den TRt))(g0:0≤n0):Imp (j0w [.n n0,.l TS l1,.l TPt l2,.l TPt l3,.l TRt l4]) (i0z [.k 0,.n n0,.l TS l1,.l TPt l2,.l TPt l3,.l TRt l4]):=
(.pa [1]
(.nd (fun h0=>
(.pt (c:=(inR n0 (List.length l2))) (by kernel_rfl) (by kernel_rfl) (by(simp only[w64d,decide_eq_true_eq,decide_eq_false_iff_not,beq_iff_eq,beq_eq_false_iff_ne,bne_iff_ne,ne_eq,inR,Bool.and_eq_true,Bool.and_eq_false_iff,Bool.not_eq_true',Bool.not_eq_false',Bool.not_eq_eq_eq_not,Bool.not_true,Bool.not_false]at*;omega))
(.nd (fun h1=>
(.pa [1,1]
(.nd (fun h2=>
(.pa [1]
.lf)) (fun h2=>
(.pa [1]
.lf))))) (fun h1=>
.none)))) (fun h0=>
(.pa [1]
.lf))))
def i0i (env:List Dat):Tree Step:=Lk.stepMC false LK s1x 31 15 ls0 (mkM 0 [] [(sh 132 [(1,.ptr 0 0),(6,.int .i64 0)],[laB 1])] [] [(.exit 4,sh 132 [(1,.ptr 0 0)],[laB 0]),(.ret,sh 132 [(2,.bool 0)],[])] fun _=>none) env
theorem i3b: ∃f:List Dat→Option (Nat×List Dat),∀env,f env=a0b i0i FU env:=⟨a0b i0i FU,fun _=>rfl⟩
def u0n:List Dat→Option (Nat×List Dat):=Classical.choose i3b
theorem x0c (env:List Dat):u0n env=a0b i0i FU env:=Classical.choose_spec i3b env
def u1m:MBox:=mkM 0 [] [(sh 132 [(1,.ptr 0 0),(6,.int .i64 0)],[laB 1])] [] [(.exit 4,sh 132 [(1,.ptr 0 0)],[laB 0]),(.ret,sh 132 [(2,.bool 0)],[])] u0n
theorem d2w:u1m=mkM 0 [] [(sh 132 [(1,.ptr 0 0),(6,.int .i64 0)],[laB 1])] [] [(.exit 4,sh 132 [(1,.ptr 0 0)],[laB 0]),(.ret,sh 132 [(2,.bool 0)],[])] (a0b i0i FU):=congrArg (fun f=>mkM 0 [] [(sh 132 [(1,.ptr 0 0),(6,.int .i64 0)],[laB 1])] [] [(.exit 4,sh 132 [(1,.ptr 0 0)],[laB 0]),(.ret,sh 132 [(2,.bool 0)],[])] f) (funext x0c)
theorem c2o: ∀t s x,(a0h u1m t s).sel=some x→a0k Tryz.prog 0 (.loop (cAt Tryz.prog 31 15)) t s x:=by
 rw[d2w]
 exact a0o (st:=i0i) (m:=FU) n0g hmix false (LsOk.none _ _ _) (by kernel_rfl) (fun env y h=>by rw[←stepMC_lk];exact h)
def l0l:List Dat→Tree Step
 |[.n n0,.l (Ty.str) l1,.l (Ty.pair Ty.str (Ty.int IntKind.i64)) l2,.l (Ty.pair Ty.str (Ty.int IntKind.i64)) l3,.l (Ty.pair Ty.str (Ty.pair (Ty.int IntKind.i64) (Ty.pair (Ty.sl (Ty.int IntKind.i64)) (Ty.pair (Ty.sl (Ty.pair (Ty.int IntKind.i64) Ty.bool)) (Ty.pair (Ty.sl (Ty.int IntKind.i64)) (Ty.sl (Ty.pair (Ty.int IntKind.i64) Ty.bool))))))) l4]=>
  (.node (decide (n0<(↑(List.length l3):Int)))
   (let r1:Option (Nat×List Dat):=(a1t [.l TI [Prod.snd (List.getD l3 (Int.toNat n0) (Ty.dflt TPt))],.n (↑(List.length l1):Int)]);
   (.node (isK 0 [HK.b] r1)
    (.node (!gb (dOf r1) 0)
    (.leaf (Step.stop 1 [.b false]))
    (.leaf (Step.go [.k 0,.n (IntKind.wrap .i64 (n0+(1:Int))),.l Ty.str l1,.l TPt l2,.l TPt l3,.l TRt l4])))
    (.bad 351)))
   (.leaf (Step.stop 0 [.l Ty.str l1,.l TPt l2,.l TPt l3,.l TRt l4])))
 |_=>.bad 0
theorem h0u (n0:Int)(l1:List (Ty.den TS))(l2:List (Ty.den TPt))(l3:List (Ty.den TPt))(l4:List (Ty.den TRt))(g0:0≤n0):Imp (l0l [.n n0,.l TS l1,.l TPt l2,.l TPt l3,.l TRt l4]) (i0i [.k 0,.n n0,.l TS l1,.l TPt l2,.l TPt l3,.l TRt l4]):=
(.pa [1]
(.nd (fun h0=>
(.pt (c:=(inR n0 (List.length l3))) (by kernel_rfl) (by kernel_rfl) (by(simp only[w64d,decide_eq_true_eq,decide_eq_false_iff_not,beq_iff_eq,beq_eq_false_iff_ne,bne_iff_ne,ne_eq,inR,Bool.and_eq_true,Bool.and_eq_false_iff,Bool.not_eq_true',Bool.not_eq_false',Bool.not_eq_eq_eq_not,Bool.not_true,Bool.not_false]at*;omega))
(.nd (fun h1=>
(.pa [1,1]
(.nd (fun h2=>
(.pa [1]
.lf)) (fun h2=>
(.pa [1]
.lf))))) (fun h1=>
.none)))) (fun h0=>
(.pa [1]
.lf))))
def g0r (env:List Dat):Tree Step:=Lk.stepMC false LK s1x 31 20 ls0 (mkM 0 [] [(sh 132 [(1,.ptr 0 0),(7,.int .i64 0)],[laB 1])] [] [(.exit 6,sh 132 [],[]),(.ret,sh 132 [(2,.bool 0)],[])] fun _=>none) env
theorem i3l: ∃f:List Dat→Option (Nat×List Dat),∀env,f env=a0b g0r FU env:=⟨a0b g0r FU,fun _=>rfl⟩
def u0f:List Dat→Option (Nat×List Dat):=Classical.choose i3l
theorem x0b (env:List Dat):u0f env=a0b g0r FU env:=Classical.choose_spec i3l env
def w1s:MBox:=mkM 0 [] [(sh 132 [(1,.ptr 0 0),(7,.int .i64 0)],[laB 1])] [] [(.exit 6,sh 132 [],[]),(.ret,sh 132 [(2,.bool 0)],[])] u0f
theorem f2k:w1s=mkM 0 [] [(sh 132 [(1,.ptr 0 0),(7,.int .i64 0)],[laB 1])] [] [(.exit 6,sh 132 [],[]),(.ret,sh 132 [(2,.bool 0)],[])] (a0b g0r FU):=congrArg (fun f=>mkM 0 [] [(sh 132 [(1,.ptr 0 0),(7,.int .i64 0)],[laB 1])] [] [(.exit 6,sh 132 [],[]),(.ret,sh 132 [(2,.bool 0)],[])] f) (funext x0b)
theorem b2f: ∀t s x,(a0h w1s t s).sel=some x→a0k Tryz.prog 0 (.loop (cAt Tryz.prog 31 20)) t s x:=by
 rw[f2k]
 exact a0o (st:=g0r) (m:=FU) n0g hmix false (LsOk.none _ _ _) (by kernel_rfl) (fun env y h=>by rw[←stepMC_lk];exact h)
def q0n:List Dat→Tree Step
 |[.n n0,.l (Ty.str) l1,.l (Ty.pair Ty.str (Ty.int IntKind.i64)) l2,.l (Ty.pair Ty.str (Ty.int IntKind.i64)) l3,.l (Ty.pair Ty.str (Ty.pair (Ty.int IntKind.i64) (Ty.pair (Ty.sl (Ty.int IntKind.i64)) (Ty.pair (Ty.sl (Ty.pair (Ty.int IntKind.i64) Ty.bool)) (Ty.pair (Ty.sl (Ty.int IntKind.i64)) (Ty.sl (Ty.pair (Ty.int IntKind.i64) Ty.bool))))))) l4]=>
  (.node (decide (n0<(↑(List.length l4):Int)))
   (let r1:Option (Nat×List Dat):=(a1t [.l TI [Prod.fst (Prod.snd (List.getD l4 (Int.toNat n0) (Ty.dflt TRt)))],.n (↑(List.length l3):Int)]);
   (.node (isK 0 [HK.b] r1)
    (.node (!gb (dOf r1) 0)
    (.leaf (Step.stop 1 [.b false]))
    (let r2:Option (Nat×List Dat):=(a1t [.l TI (Prod.fst (Prod.snd (Prod.snd (List.getD l4 (Int.toNat n0) (Ty.dflt TRt))))),.n (↑(List.length l1):Int)]);
     (.node (isK 0 [HK.b] r2)
     (.node (!gb (dOf r2) 0)
      (.leaf (Step.stop 1 [.b false]))
      (let r3:Option (Nat×List Dat):=(a1t [.l TI (Prod.fst (Prod.snd (Prod.snd (Prod.snd (Prod.snd (List.getD l4 (Int.toNat n0) (Ty.dflt TRt))))))),.n (↑(List.length l1):Int)]);
      (.node (isK 0 [HK.b] r3)
       (.node (!gb (dOf r3) 0)
       (.leaf (Step.stop 1 [.b false]))
       (let r4:Option (Nat×List Dat):=(e2f [.l TNd (Prod.fst (Prod.snd (Prod.snd (Prod.snd (List.getD l4 (Int.toNat n0) (Ty.dflt TRt))))))]);
        (.node (isK 0 [HK.l TI] r4)
        (let r5:Option (Nat×List Dat):=(a1t [.l TI (gl TI (dOf r4) 0),.n (↑(List.length l2):Int)]);
         (.node (isK 0 [HK.b] r5)
         (.node (!gb (dOf r5) 0)
          (.leaf (Step.stop 1 [.b false]))
          (let r6:Option (Nat×List Dat):=(e2f [.l TNd (Prod.snd (Prod.snd (Prod.snd (Prod.snd (Prod.snd (List.getD l4 (Int.toNat n0) (Ty.dflt TRt)))))))]);
          (.node (isK 0 [HK.l TI] r6)
           (let r7:Option (Nat×List Dat):=(a1t [.l TI (gl TI (dOf r6) 0),.n (↑(List.length l2):Int)]);
           (.node (isK 0 [HK.b] r7)
            (.node (!gb (dOf r7) 0)
            (.leaf (Step.stop 1 [.b false]))
            (.leaf (Step.go [.k 0,.n (IntKind.wrap .i64 (n0+(1:Int))),.l Ty.str l1,.l TPt l2,.l TPt l3,.l TRt l4])))
            (.bad 351)))
           (.bad 351))))
         (.bad 351)))
        (.bad 351))))
       (.bad 351))))
     (.bad 351))))
    (.bad 351)))
   (.leaf (Step.stop 0 [])))
 |_=>.bad 0
theorem p0r (n0:Int)(l1:List (Ty.den TS))(l2:List (Ty.den TPt))(l3:List (Ty.den TPt))(l4:List (Ty.den TRt))(g0:0≤n0):Imp (q0n [.n n0,.l TS l1,.l TPt l2,.l TPt l3,.l TRt l4]) (g0r [.k 0,.n n0,.l TS l1,.l TPt l2,.l TPt l3,.l TRt l4]):=
(.pa [1]
(.nd (fun h0=>
(.pt (c:=(inR n0 (List.length l4))) (by kernel_rfl) (by kernel_rfl) (by(simp only[w64d,decide_eq_true_eq,decide_eq_false_iff_not,beq_iff_eq,beq_eq_false_iff_ne,bne_iff_ne,ne_eq,inR,Bool.and_eq_true,Bool.and_eq_false_iff,Bool.not_eq_true',Bool.not_eq_false',Bool.not_eq_eq_eq_not,Bool.not_true,Bool.not_false]at*;omega))
(.nd (fun h1=>
(.pa [1]
(.nd (fun h2=>
(.pa [1,1,1,1,1,1,1,1,1,1]
.lf)) (fun h2=>
(.nd (fun h3=>
(.pa [1]
(.nd (fun h4=>
(.pa [1,1,1,1,1,1,1,1]
.lf)) (fun h4=>
(.nd (fun h5=>
(.pa [1]
(.nd (fun h6=>
(.pa [1,1,1,1,1,1]
.lf)) (fun h6=>
(.nd (fun h7=>
(.pa [1]
(.nd (fun h8=>
(.pa [1]
(.nd (fun h9=>
(.pa [1,1,1,1]
.lf)) (fun h9=>
(.nd (fun h10=>
(.pa [1]
(.nd (fun h11=>
(.pa [1,1]
(.nd (fun h12=>
(.pa [1]
.lf)) (fun h12=>
(.pa [1]
.lf))))) (fun h11=>
.none)))) (fun h10=>
.none)))))) (fun h8=>
.none)))) (fun h7=>
.none)))))) (fun h5=>
.none)))))) (fun h3=>
.none)))))) (fun h1=>
.none)))) (fun h0=>
(.pa [1]
.lf))))
theorem u2i:LsOk Tryz.prog (List.length ([]:List PB)) (lsM [(5,u2y),(10,x1g),(15,u1m),(20,w1s)] (List.length ([]:List PB))) (a0r Tryz.prog 31):=LsOk.many fun j B hB hk c hc hi=>by
 simp only[b0d]at hB
 split at hB
 ·rename_i e;have:=Nat.eq_of_beq_eq_true e;subst this;cases hB
  have e1:p0c Tryz.prog 31 5=[cAt Tryz.prog 31 5]:=a0e (by kernel_rfl)
  have e2:c∈p0c Tryz.prog 31 5:=a0d hc hi
  rw[e1]at e2;cases List.mem_singleton.1 e2;exact o2l
 split at hB
 ·rename_i e;have:=Nat.eq_of_beq_eq_true e;subst this;cases hB
  have e1:p0c Tryz.prog 31 10=[cAt Tryz.prog 31 10]:=a0e (by kernel_rfl)
  have e2:c∈p0c Tryz.prog 31 10:=a0d hc hi
  rw[e1]at e2;cases List.mem_singleton.1 e2;exact f2t
 split at hB
 ·rename_i e;have:=Nat.eq_of_beq_eq_true e;subst this;cases hB
  have e1:p0c Tryz.prog 31 15=[cAt Tryz.prog 31 15]:=a0e (by kernel_rfl)
  have e2:c∈p0c Tryz.prog 31 15:=a0d hc hi
  rw[e1]at e2;cases List.mem_singleton.1 e2;exact c2o
 split at hB
 ·rename_i e;have:=Nat.eq_of_beq_eq_true e;subst this;cases hB
  have e1:p0c Tryz.prog 31 20=[cAt Tryz.prog 31 20]:=a0e (by kernel_rfl)
  have e2:c∈p0c Tryz.prog 31 20:=a0d hc hi
  rw[e1]at e2;cases List.mem_singleton.1 e2;exact b2f
 cases hB
def q2i (env:List Dat):Tree (Nat×List Dat):=Lk.boxC false LK s1x 31 (lsM [(5,u2y),(10,x1g),(15,u1m),(20,w1s)] (List.length ([]:List PB))) (mkF [laV 0] [] [] [(.bool 0,[])] fun _=>none) env
theorem l3i: ∃f:List Dat→Option (Nat×List Dat),∀env,f env=(q2i env).sel:=⟨fun env=>(q2i env).sel,fun _=>rfl⟩
def b2n:List Dat→Option (Nat×List Dat):=Classical.choose l3i
theorem w1a (env:List Dat):b2n env=(q2i env).sel:=Classical.choose_spec l3i env
def B28:FBox:=mkF [laV 0] [] [] [(.bool 0,[])] b2n
theorem B28_ok:a0v Tryz.prog 31 (a0j B28):=a0p (op:=b2n) n0g hmix false (u2i) (fun env x h=>by rw[w1a]at h;rw[←boxC_lk];exact h)
def m2p:List Dat→Tree (Nat×List Dat)
 |[.l (Ty.str) l0,.l (Ty.pair Ty.str (Ty.int IntKind.i64)) l1,.l (Ty.pair Ty.str (Ty.int IntKind.i64)) l2,.l (Ty.pair Ty.str (Ty.pair (Ty.int IntKind.i64) (Ty.pair (Ty.sl (Ty.int IntKind.i64)) (Ty.pair (Ty.sl (Ty.pair (Ty.int IntKind.i64) Ty.bool)) (Ty.pair (Ty.sl (Ty.int IntKind.i64)) (Ty.sl (Ty.pair (Ty.int IntKind.i64) Ty.bool))))))) l3]=>
  (let r1:Option (Nat×List Dat):=(l2o [.l Ty.str l0,.l TPt l1,.l TPt l2,.l TRt l3]);
   (.node (isK 0 [HK.b] r1)
   (.node (gb (dOf r1) 0)
    (.leaf ((0,[.b false])))
    (let r2:Option (Nat×List Dat):=(k2f [.l Ty.str l0,.l TPt l1,.l TPt l2,.l TRt l3]);
    (.node (isK 0 [HK.l Ty.str] r2)
     (let r3:Option (Nat×List Dat):=(z0g [.k 0,.n (0:Int),.l Ty.str l0,.l TPt l1,.l TPt l2,.l TRt l3,.l Ty.str (gl Ty.str (dOf r2) 0)]);
     (.node (isK 0 [HK.l Ty.str,HK.l TPt,HK.l TPt,HK.l TRt] r3)
      (let r4:Option (Nat×List Dat):=(s0b [.k 0,.n (0:Int),.l Ty.str (gl Ty.str (dOf r3) 0),.l TPt (gl TPt (dOf r3) 1),.l TPt (gl TPt (dOf r3) 2),.l TRt (gl TRt (dOf r3) 3)]);
      (.node (isK 0 [HK.l Ty.str,HK.l TPt,HK.l TPt,HK.l TRt] r4)
       (let r5:Option (Nat×List Dat):=(u0n [.k 0,.n (0:Int),.l Ty.str (gl Ty.str (dOf r4) 0),.l TPt (gl TPt (dOf r4) 1),.l TPt (gl TPt (dOf r4) 2),.l TRt (gl TRt (dOf r4) 3)]);
       (.node (isK 0 [HK.l Ty.str,HK.l TPt,HK.l TPt,HK.l TRt] r5)
        (let r6:Option (Nat×List Dat):=(u0f [.k 0,.n (0:Int),.l Ty.str (gl Ty.str (dOf r5) 0),.l TPt (gl TPt (dOf r5) 1),.l TPt (gl TPt (dOf r5) 2),.l TRt (gl TRt (dOf r5) 3)]);
        (.node (isK 0 [] r6)
         (.leaf ((0,[.b true])))
         (.node (isK 1 [HK.b] r6)
         (.leaf ((0,[.b (gb (dOf r6) 0)])))
         (.bad 351))))
        (.node (isK 1 [HK.b] r5)
        (.leaf ((0,[.b (gb (dOf r5) 0)])))
        (.bad 351))))
       (.node (isK 1 [HK.b] r4)
       (.leaf ((0,[.b (gb (dOf r4) 0)])))
       (.bad 351))))
      (.node (isK 1 [HK.b] r3)
      (.leaf ((0,[.b (gb (dOf r3) 0)])))
      (.bad 351))))
     (.bad 351))))
   (.bad 351)))
 |_=>.bad 0
theorem f2n (l0:List (Ty.den TS))(l1:List (Ty.den TPt))(l2:List (Ty.den TPt))(l3:List (Ty.den TRt)):Imp (m2p [.l TS l0,.l TPt l1,.l TPt l2,.l TRt l3]) (q2i [.l TS l0,.l TPt l1,.l TPt l2,.l TRt l3]):=
(.nd (fun h0=>
(.pa [1]
(.nd (fun h1=>
(.pa [1]
.lf)) (fun h1=>
(.nd (fun h2=>
(.pa [1]
(.nd (fun h3=>
(.nd (fun h4=>
(.nd (fun h5=>
(.nd (fun h6=>
(.pa [1]
.lf)) (fun h6=>
(.nd (fun h7=>
(.pa [1]
.lf)) (fun h7=>
.none))))) (fun h5=>
(.nd (fun h6=>
(.pa [1]
.lf)) (fun h6=>
.none))))) (fun h4=>
(.nd (fun h5=>
(.pa [1]
.lf)) (fun h5=>
.none))))) (fun h3=>
(.nd (fun h4=>
(.pa [1]
.lf)) (fun h4=>
.none)))))) (fun h2=>
.none)))))) (fun h0=>
.none))
def cs_28:FuncId→Option a0q:=a0s 31 B28 s1x
theorem y1m:CsOk Tryz.prog cs_28:=a0g n0g B28_ok
end Go.Proofs.YtplcpifjiodhcaaGreat.Vx
