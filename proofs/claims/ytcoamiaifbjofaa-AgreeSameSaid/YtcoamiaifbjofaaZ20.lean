import Derived.Test.YtcoamiaifbjofaaZ06j
import Derived.Test.YtcoamiaifbjofaaProg
import Derived.KernelRfl
import Derived.Test.YtcoamiaifbjofaaVxAsk
import Derived.Test.YtcoamiaifbjofaaVxAid
import Derived.Test.YtcoamiaifbjofaaVxLaw
noncomputable section
namespace Go.Proofs.Ytcoamiaifbjofaa.Vx
open Go Go.RowKit
set_option linter.unusedVariables false
set_option linter.unusedSimpArgs false
set_option maxRecDepth 100000
set_option maxHeartbeats 0
abbrev TCmd:Ty:=.pair (.int .u8) (.int .i64)
def inV (h:Nat):PV:=.agg [.int .u64 h,.int .u32 (h+1),.int .u32 (h+2),.imm TCmd (h+3)]
def inO (h b:Nat):PV:=.agg [.int .u64 h,.int .u32 (h+1),.int .u32 (h+2),.own b]
def inB (h:Nat):PB:=.cells [.int .u64 h,.int .u32 (h+1),.int .u32 (h+2),.imm TCmd (h+3)]
theorem hmix:Try.prog.follows .mixedOrders=true:=by kernel_rfl
theorem v0d:CsOk Try.prog h0b:=d1h _
def n3j (l:List (Ty.den TCmd)):Bool:=decide ((0+l.length)*16≤140737488355328)
def h3f:List Dat→Option (Nat×List Dat):=i3x TCmd n3j
def B62:FBox:=mkF [.imm TCmd 0] [] [] [(.own 0,[.arr TCmd 0])] h3f
def cs_62:FuncId→Option a0q:=a0s 33 B62 h0b
theorem B62_ok:a0v Try.prog 33 (a0j B62):=
 p3j (P:=Try.prog) (cl:=clMd true Try.prog h0b) (c1t v0d hmix true) hmix (T:=31) (e:=70) (n:=400) (fn:=Try.f33) (by kernel_rfl) (by kernel_rfl) (by kernel_rfl) (by kernel_rfl) TCmd n3j
  (fun l=>[.imm TCmd l,.undef,.nilsl,.undef,.undef,.undef,.undef,.undef]) (fun l=>[.imm TCmd l,.undef,.nilsl,.imm TCmd l,.bool true,.undef,.undef,.undef])
  (fun l=>[.imm TCmd l,.undef,.own 0 1,.imm TCmd l,.bool false,.own 0 0,.imm TCmd l,.own 0 1]) (fun l=>⟨[.arr TCmd 1 l],[0]⟩) (fun l=>.own 0 1)
  (fun l=>by kernel_rfl) (fun l=>rfl) (fun l=>rfl) (fun l=>by kernel_rfl) (fun l=>by kernel_rfl) (fun l=>by kernel_rfl) (fun l=>by kernel_rfl) (fun l=>by kernel_rfl) (fun l=>by kernel_rfl) (by kernel_rfl)
theorem l3y:CsOk Try.prog cs_62:=a0g v0d B62_ok
theorem l3k (l:List (Ty.den TCmd))(h:l.length*16≤140737488355328):h3f [.l TCmd l]=some (0,[.l TCmd l]):=by
 unfold h3f i3x
 simp only[d0b]
 have:n3j l=true:=decide_eq_true (by omega)
 rw[this];rfl
def op_w:List Dat→Option (Nat×List Dat):=fun _=>some (0,[.b true])
def Bw:FBox:=(mkF [] [] [] [(.bool 0,[])] op_w)
def cs_w:FuncId→Option a0q:=e1c 8 [Bw] cs_62
theorem fn_w_ok (env:List Dat)(y:Nat×List Dat)(h:op_w env=some y):(boxC true Try.prog cs_62 8 ls0 (mkF [] [] [] [(.bool 0,[])] fun _=>none) env).sel=some y:=by
 cases h
 kernel_rfl
theorem Bw_ok:a0v Try.prog 8 (a0j Bw):=a0p (op:=op_w) l3y hmix true (LsOk.none _ _ _) fn_w_ok
theorem j3n:CsOk Try.prog cs_w:=h0a l3y fun B hB=>by
 cases List.mem_singleton.1 hB
 exact Bw_ok
def h3j:List Dat→Tree Step
 |[.l (Ty.pair (Ty.int IntKind.u8) (Ty.int IntKind.i64)) l0,.l (Ty.pair (Ty.int IntKind.u8) (Ty.int IntKind.i64)) l1,.n n2,.n n3]=>
  (.node (decide (n3<n2))
   (.node (inR n3 (List.length l1))
   (.node (inR n3 (List.length l0))
    (.node (!(Prod.fst (List.getD l0 (Int.toNat n3) (Ty.dflt (Ty.pair (Ty.int IntKind.u8) (Ty.int IntKind.i64))))==Prod.fst (List.getD l1 (Int.toNat n3) (Ty.dflt (Ty.pair (Ty.int IntKind.u8) (Ty.int IntKind.i64))))&&(Prod.snd (List.getD l0 (Int.toNat n3) (Ty.dflt (Ty.pair (Ty.int IntKind.u8) (Ty.int IntKind.i64))))==Prod.snd (List.getD l1 (Int.toNat n3) (Ty.dflt (Ty.pair (Ty.int IntKind.u8) (Ty.int IntKind.i64))))&&true)))
    (.leaf (Step.stop 1 [.b false]))
    (.leaf (Step.go [.l (Ty.pair (Ty.int IntKind.u8) (Ty.int IntKind.i64)) l0,.l (Ty.pair (Ty.int IntKind.u8) (Ty.int IntKind.i64)) l1,.n n2,.n (IntKind.wrap .i64 (n3+(1:Int)))])))
    (.bad 10))
   (.bad 10))
   (.leaf (Step.stop 0 [])))
 |_=>.bad 0
def l3u:List Dat→Option (Nat×List Dat):=a0b h3j FU
def L60_4:LBox:=(mkL 0 [] (sh 26 [(1,.imm TCmd 0),(12,.imm TCmd 1),(13,.int .i64 2),(14,.int .i64 3)]) [] [] [(.exit 0,sh 26 [],[]),(.ret,sh 26 [(4,.bool 0)],[])] l3u)
theorem l3c (l0:List (Ty.den (Ty.pair (Ty.int IntKind.u8) (Ty.int IntKind.i64))))(l1:List (Ty.den (Ty.pair (Ty.int IntKind.u8) (Ty.int IntKind.i64))))(n2:Int)(n3:Int):(l3f false Try.prog cs_w 34 4 ls0 (mkL 0 [] (sh 26 [(1,.imm TCmd 0),(12,.imm TCmd 1),(13,.int .i64 2),(14,.int .i64 3)]) [] [] [(.exit 0,sh 26 [],[]),(.ret,sh 26 [(4,.bool 0)],[])] fun _=>none) [.l (Ty.pair (Ty.int IntKind.u8) (Ty.int IntKind.i64)) l0,.l (Ty.pair (Ty.int IntKind.u8) (Ty.int IntKind.i64)) l1,.n n2,.n n3]).sel=(h3j [.l (Ty.pair (Ty.int IntKind.u8) (Ty.int IntKind.i64)) l0,.l (Ty.pair (Ty.int IntKind.u8) (Ty.int IntKind.i64)) l1,.n n2,.n n3]).sel:=by kernel_rfl
theorem l3g (env:List Dat)(y:Step)(h:(h3j env).sel=some y):(l3f false Try.prog cs_w 34 4 ls0 (mkL 0 [] (sh 26 [(1,.imm TCmd 0),(12,.imm TCmd 1),(13,.int .i64 2),(14,.int .i64 3)]) [] [] [(.exit 0,sh 26 [],[]),(.ret,sh 26 [(4,.bool 0)],[])] fun _=>none) env).sel=some y:=by
 unfold h3j at h
 split at h
 ·rw[l3c];exact h
 ·cases h
theorem o3t (K:Nat):LsOk Try.prog K (i3a [(4,L60_4)] K) (a0r Try.prog 34):=mkL_ok (st:=h3j) (m:=FU) j3n hmix false (by kernel_rfl) (by kernel_rfl) l3g
def o3y:List Dat→Tree (Nat×List Dat)
 |[.l (Ty.pair (Ty.int IntKind.u8) (Ty.int IntKind.i64)) l0,.l (Ty.pair (Ty.int IntKind.u8) (Ty.int IntKind.i64)) l1]=>
  (.node ((↑(List.length l0):Int) !=(↑(List.length l1):Int))
   (.leaf ((0,[.b false])))
   (let r1:Option (Nat×List Dat):=(l3u [.l (Ty.pair (Ty.int IntKind.u8) (Ty.int IntKind.i64)) l1,.l (Ty.pair (Ty.int IntKind.u8) (Ty.int IntKind.i64)) l0,.n (↑(List.length l0):Int),.n (0:Int)]);
   (.node (isK 0 [] r1)
    (.leaf ((0,[.b true])))
    (.node (isK 1 [HK.b] r1)
    (.leaf ((0,[.b (gb (dOf r1) 0)])))
    (.bad 351)))))
 |_=>.bad 0
def j2c:List Dat→Option (Nat×List Dat):=fun env=>(o3y env).sel
def B60:FBox:=(mkF [.imm TCmd 0,.imm TCmd 1] [] [] [(.bool 0,[])] j2c)
def l3z:FuncId→Option a0q:=a0s 34 B60 cs_w
theorem o3n (l0:List (Ty.den (Ty.pair (Ty.int IntKind.u8) (Ty.int IntKind.i64))))(l1:List (Ty.den (Ty.pair (Ty.int IntKind.u8) (Ty.int IntKind.i64)))):(boxC false Try.prog cs_w 34 (i3a [(4,L60_4)] (List.length ([]:List PB))) (mkF [.imm TCmd 0,.imm TCmd 1] [] [] [(.bool 0,[])] fun _=>none) [.l (Ty.pair (Ty.int IntKind.u8) (Ty.int IntKind.i64)) l0,.l (Ty.pair (Ty.int IntKind.u8) (Ty.int IntKind.i64)) l1]).sel=(o3y [.l (Ty.pair (Ty.int IntKind.u8) (Ty.int IntKind.i64)) l0,.l (Ty.pair (Ty.int IntKind.u8) (Ty.int IntKind.i64)) l1]).sel:=by kernel_rfl
theorem n3x (env:List Dat)(y:Nat×List Dat)(h:(o3y env).sel=some y):(boxC false Try.prog cs_w 34 (i3a [(4,L60_4)] (List.length ([]:List PB))) (mkF [.imm TCmd 0,.imm TCmd 1] [] [] [(.bool 0,[])] fun _=>none) env).sel=some y:=by
 unfold o3y at h
 split at h
 ·rw[o3n];exact h
 ·cases h
theorem B60_ok:a0v Try.prog 34 (a0j B60):=a0p (op:=j2c) j3n hmix false (o3t _) n3x
theorem t1w:CsOk Try.prog l3z:=a0g j3n B60_ok
def h3k:List Dat→Tree Step
 |[.l (Ty.pair (Ty.int IntKind.u8) (Ty.int IntKind.i64)) l0,.l (Ty.pair (Ty.int IntKind.u8) (Ty.int IntKind.i64)) l1,.n n2]=>
  (.node (decide (n2<(↑(List.length l0):Int)))
   (.node (inR n2 (List.length l0))
   (.node (inR n2 (List.length l1))
    (.node (!(Prod.fst (List.getD l0 (Int.toNat n2) (Ty.dflt (Ty.pair (Ty.int IntKind.u8) (Ty.int IntKind.i64))))==Prod.fst (List.getD l1 (Int.toNat n2) (Ty.dflt (Ty.pair (Ty.int IntKind.u8) (Ty.int IntKind.i64))))&&(Prod.snd (List.getD l0 (Int.toNat n2) (Ty.dflt (Ty.pair (Ty.int IntKind.u8) (Ty.int IntKind.i64))))==Prod.snd (List.getD l1 (Int.toNat n2) (Ty.dflt (Ty.pair (Ty.int IntKind.u8) (Ty.int IntKind.i64))))&&true)))
    (.leaf (Step.stop 1 [.b false]))
    (.leaf (Step.go [.l (Ty.pair (Ty.int IntKind.u8) (Ty.int IntKind.i64)) l0,.l (Ty.pair (Ty.int IntKind.u8) (Ty.int IntKind.i64)) l1,.n (IntKind.wrap .i64 (n2+(1:Int)))])))
    (.bad 10))
   (.bad 10))
   (.leaf (Step.stop 0 [])))
 |_=>.bad 0
def l3s:List Dat→Option (Nat×List Dat):=a0b h3k FU
def L61_4:LBox:=(mkL 0 [] (sh 26 [(0,.imm TCmd 0),(1,.imm TCmd 1),(5,.int .i64 2)]) [] [] [(.exit 0,sh 26 [],[]),(.ret,sh 26 [(4,.bool 0)],[])] l3s)
theorem l3b (l0:List (Ty.den (Ty.pair (Ty.int IntKind.u8) (Ty.int IntKind.i64))))(l1:List (Ty.den (Ty.pair (Ty.int IntKind.u8) (Ty.int IntKind.i64))))(n2:Int):(l3f false Try.prog l3z 32 4 ls0 (mkL 0 [] (sh 26 [(0,.imm TCmd 0),(1,.imm TCmd 1),(5,.int .i64 2)]) [] [] [(.exit 0,sh 26 [],[]),(.ret,sh 26 [(4,.bool 0)],[])] fun _=>none) [.l (Ty.pair (Ty.int IntKind.u8) (Ty.int IntKind.i64)) l0,.l (Ty.pair (Ty.int IntKind.u8) (Ty.int IntKind.i64)) l1,.n n2]).sel=(h3k [.l (Ty.pair (Ty.int IntKind.u8) (Ty.int IntKind.i64)) l0,.l (Ty.pair (Ty.int IntKind.u8) (Ty.int IntKind.i64)) l1,.n n2]).sel:=by kernel_rfl
theorem l3e (env:List Dat)(y:Step)(h:(h3k env).sel=some y):(l3f false Try.prog l3z 32 4 ls0 (mkL 0 [] (sh 26 [(0,.imm TCmd 0),(1,.imm TCmd 1),(5,.int .i64 2)]) [] [] [(.exit 0,sh 26 [],[]),(.ret,sh 26 [(4,.bool 0)],[])] fun _=>none) env).sel=some y:=by
 unfold h3k at h
 split at h
 ·rw[l3b];exact h
 ·cases h
theorem p3b (K:Nat):LsOk Try.prog K (i3a [(4,L61_4)] K) (a0r Try.prog 32):=mkL_ok (st:=h3k) (m:=FU) t1w hmix false (by kernel_rfl) (by kernel_rfl) l3e
def o3p:List Dat→Tree (Nat×List Dat)
 |[.l (Ty.pair (Ty.int IntKind.u8) (Ty.int IntKind.i64)) l0,.l (Ty.pair (Ty.int IntKind.u8) (Ty.int IntKind.i64)) l1]=>
  (.node ((↑(List.length l0):Int) !=(↑(List.length l1):Int))
   (.leaf ((0,[.b false])))
   (let r1:Option (Nat×List Dat):=(l3s [.l (Ty.pair (Ty.int IntKind.u8) (Ty.int IntKind.i64)) l0,.l (Ty.pair (Ty.int IntKind.u8) (Ty.int IntKind.i64)) l1,.n (0:Int)]);
   (.node (isK 0 [] r1)
    (.leaf ((0,[.b true])))
    (.node (isK 1 [HK.b] r1)
    (.leaf ((0,[.b (gb (dOf r1) 0)])))
    (.bad 351)))))
 |_=>.bad 0
def k3y:List Dat→Option (Nat×List Dat):=fun env=>(o3p env).sel
def B61:FBox:=(mkF [.imm TCmd 0,.imm TCmd 1] [] [] [(.bool 0,[])] k3y)
def o3w:FuncId→Option a0q:=a0s 32 B61 l3z
theorem o3u (l0:List (Ty.den (Ty.pair (Ty.int IntKind.u8) (Ty.int IntKind.i64))))(l1:List (Ty.den (Ty.pair (Ty.int IntKind.u8) (Ty.int IntKind.i64)))):(boxC false Try.prog l3z 32 (i3a [(4,L61_4)] (List.length ([]:List PB))) (mkF [.imm TCmd 0,.imm TCmd 1] [] [] [(.bool 0,[])] fun _=>none) [.l (Ty.pair (Ty.int IntKind.u8) (Ty.int IntKind.i64)) l0,.l (Ty.pair (Ty.int IntKind.u8) (Ty.int IntKind.i64)) l1]).sel=(o3p [.l (Ty.pair (Ty.int IntKind.u8) (Ty.int IntKind.i64)) l0,.l (Ty.pair (Ty.int IntKind.u8) (Ty.int IntKind.i64)) l1]).sel:=by kernel_rfl
theorem o3x (env:List Dat)(y:Nat×List Dat)(h:(o3p env).sel=some y):(boxC false Try.prog l3z 32 (i3a [(4,L61_4)] (List.length ([]:List PB))) (mkF [.imm TCmd 0,.imm TCmd 1] [] [] [(.bool 0,[])] fun _=>none) env).sel=some y:=by
 unfold o3p at h
 split at h
 ·rw[o3u];exact h
 ·cases h
theorem B61_ok:a0v Try.prog 32 (a0j B61):=a0p (op:=k3y) t1w hmix false (p3b _) o3x
theorem l3t:CsOk Try.prog o3w:=a0g t1w B61_ok
def o3q:List Dat→Tree (Nat×List Dat)
 |[.n n0,.n n1,.n n2,.l (Ty.pair (Ty.int IntKind.u8) (Ty.int IntKind.i64)) l3,.n n4,.n n5,.n n6,.l (Ty.pair (Ty.int IntKind.u8) (Ty.int IntKind.i64)) l7]=>
  (.node (n0==n4)
   (.node (n1==n5)
   (.node (n2==n6)
    (let r1:Option (Nat×List Dat):=(j2c [.l (Ty.pair (Ty.int IntKind.u8) (Ty.int IntKind.i64)) l3,.l (Ty.pair (Ty.int IntKind.u8) (Ty.int IntKind.i64)) l7]);
    (.node (isK 0 [HK.b] r1)
     (.leaf ((0,[.b (gb (dOf r1) 0)])))
     (.bad 351)))
    (.leaf ((0,[.b false]))))
   (.leaf ((0,[.b false]))))
   (.leaf ((0,[.b false]))))
 |_=>.bad 0
def q1j:List Dat→Option (Nat×List Dat):=fun env=>(o3q env).sel
def B29:FBox:=(mkF [inV 0,inV 4] [] [] [(.bool 0,[])] q1j)
def q2j:FuncId→Option a0q:=a0s 28 B29 o3w
theorem p3n (n0:Int)(n1:Int)(n2:Int)(l3:List (Ty.den (Ty.pair (Ty.int IntKind.u8) (Ty.int IntKind.i64))))(n4:Int)(n5:Int)(n6:Int)(l7:List (Ty.den (Ty.pair (Ty.int IntKind.u8) (Ty.int IntKind.i64)))):(boxC false Try.prog o3w 28 ls0 (mkF [inV 0,inV 4] [] [] [(.bool 0,[])] fun _=>none) [.n n0,.n n1,.n n2,.l (Ty.pair (Ty.int IntKind.u8) (Ty.int IntKind.i64)) l3,.n n4,.n n5,.n n6,.l (Ty.pair (Ty.int IntKind.u8) (Ty.int IntKind.i64)) l7]).sel=(o3q [.n n0,.n n1,.n n2,.l (Ty.pair (Ty.int IntKind.u8) (Ty.int IntKind.i64)) l3,.n n4,.n n5,.n n6,.l (Ty.pair (Ty.int IntKind.u8) (Ty.int IntKind.i64)) l7]).sel:=by kernel_rfl
theorem p3r (env:List Dat)(y:Nat×List Dat)(h:(o3q env).sel=some y):(boxC false Try.prog o3w 28 ls0 (mkF [inV 0,inV 4] [] [] [(.bool 0,[])] fun _=>none) env).sel=some y:=by
 unfold o3q at h
 split at h
 ·rw[p3n];exact h
 ·cases h
theorem B29_ok:a0v Try.prog 28 (a0j B29):=a0p (op:=q1j) l3t hmix false (LsOk.none _ _ _) p3r
theorem j1a:CsOk Try.prog q2j:=a0g l3t B29_ok
def p3k:List Dat→Tree (Nat×List Dat)
 |[.n n0,.n n1,.n n2,.l (Ty.pair (Ty.int IntKind.u8) (Ty.int IntKind.i64)) l3,.n n4,.n n5,.n n6,.l (Ty.pair (Ty.int IntKind.u8) (Ty.int IntKind.i64)) l7]=>
  (.node (n0==n4)
   (.node (n1==n5)
   (.node (n2==n6)
    (let r1:Option (Nat×List Dat):=(k3y [.l (Ty.pair (Ty.int IntKind.u8) (Ty.int IntKind.i64)) l3,.l (Ty.pair (Ty.int IntKind.u8) (Ty.int IntKind.i64)) l7]);
    (.node (isK 0 [HK.b] r1)
     (.leaf ((0,[.b (gb (dOf r1) 0)])))
     (.bad 351)))
    (.leaf ((0,[.b false]))))
   (.leaf ((0,[.b false]))))
   (.leaf ((0,[.b false]))))
 |_=>.bad 0
def h3h:List Dat→Option (Nat×List Dat):=fun env=>(p3k env).sel
def B30:FBox:=(mkF [inV 0,inV 4] [] [] [(.bool 0,[])] h3h)
def o3a:FuncId→Option a0q:=a0s 22 B30 q2j
theorem p3p (n0:Int)(n1:Int)(n2:Int)(l3:List (Ty.den (Ty.pair (Ty.int IntKind.u8) (Ty.int IntKind.i64))))(n4:Int)(n5:Int)(n6:Int)(l7:List (Ty.den (Ty.pair (Ty.int IntKind.u8) (Ty.int IntKind.i64)))):(boxC false Try.prog q2j 22 ls0 (mkF [inV 0,inV 4] [] [] [(.bool 0,[])] fun _=>none) [.n n0,.n n1,.n n2,.l (Ty.pair (Ty.int IntKind.u8) (Ty.int IntKind.i64)) l3,.n n4,.n n5,.n n6,.l (Ty.pair (Ty.int IntKind.u8) (Ty.int IntKind.i64)) l7]).sel=(p3k [.n n0,.n n1,.n n2,.l (Ty.pair (Ty.int IntKind.u8) (Ty.int IntKind.i64)) l3,.n n4,.n n5,.n n6,.l (Ty.pair (Ty.int IntKind.u8) (Ty.int IntKind.i64)) l7]).sel:=by kernel_rfl
theorem o3f (env:List Dat)(y:Nat×List Dat)(h:(p3k env).sel=some y):(boxC false Try.prog q2j 22 ls0 (mkF [inV 0,inV 4] [] [] [(.bool 0,[])] fun _=>none) env).sel=some y:=by
 unfold p3k at h
 split at h
 ·rw[p3p];exact h
 ·cases h
theorem B30_ok:a0v Try.prog 22 (a0j B30):=a0p (op:=h3h) j1a hmix false (LsOk.none _ _ _) o3f
theorem l3l:CsOk Try.prog o3a:=a0g j1a B30_ok
def n3p:List Dat→Tree (Nat×List Dat)
 |[.n n0,.n n1,.n n2,.l (Ty.pair (Ty.int IntKind.u8) (Ty.int IntKind.i64)) l3,.n n4,.n n5,.n n6,.l (Ty.pair (Ty.int IntKind.u8) (Ty.int IntKind.i64)) l7]=>
  (let r1:Option (Nat×List Dat):=(j2c [.l (Ty.pair (Ty.int IntKind.u8) (Ty.int IntKind.i64)) l3,.l (Ty.pair (Ty.int IntKind.u8) (Ty.int IntKind.i64)) l7]);
   (.node (isK 0 [HK.b] r1)
   (.node (gb (dOf r1) 0)
    (let r2:Option (Nat×List Dat):=(h3f [.l (Ty.pair (Ty.int IntKind.u8) (Ty.int IntKind.i64)) l3]);
    (.node (isK 0 [HK.l (Ty.pair (Ty.int IntKind.u8) (Ty.int IntKind.i64))] r2)
     (.leaf ((0,[.n (ior IntKind.u64 n0 n4),.n (iand IntKind.u32 n1 n5),.n (iand IntKind.u32 n2 n6),.l (Ty.pair (Ty.int IntKind.u8) (Ty.int IntKind.i64)) (gl (Ty.pair (Ty.int IntKind.u8) (Ty.int IntKind.i64)) (dOf r2) 0)])))
     (.bad 351)))
    (.leaf ((0,[.n (ior IntKind.u64 n0 n4),.n (iand IntKind.u32 n1 n5),.n (iand IntKind.u32 n2 n6),.l (Ty.pair (Ty.int IntKind.u8) (Ty.int IntKind.i64)) []]))))
   (.bad 351)))
 |_=>.bad 0
def i2m:List Dat→Option (Nat×List Dat):=fun env=>(n3p env).sel
def B31:FBox:=(mkF [inV 0,inV 4] [] [] [(inO 0 0,[.arr TCmd 3])] i2m)
def cs_31:FuncId→Option a0q:=a0s 30 B31 o3a
theorem o3j (n0:Int)(n1:Int)(n2:Int)(l3:List (Ty.den (Ty.pair (Ty.int IntKind.u8) (Ty.int IntKind.i64))))(n4:Int)(n5:Int)(n6:Int)(l7:List (Ty.den (Ty.pair (Ty.int IntKind.u8) (Ty.int IntKind.i64)))):(n3a [(3,TCmd)] false Try.prog o3a 30 ls0 (mkF [inV 0,inV 4] [] [] [(inO 0 0,[.arr TCmd 3])] fun _=>none) [.n n0,.n n1,.n n2,.l (Ty.pair (Ty.int IntKind.u8) (Ty.int IntKind.i64)) l3,.n n4,.n n5,.n n6,.l (Ty.pair (Ty.int IntKind.u8) (Ty.int IntKind.i64)) l7]).sel=(n3p [.n n0,.n n1,.n n2,.l (Ty.pair (Ty.int IntKind.u8) (Ty.int IntKind.i64)) l3,.n n4,.n n5,.n n6,.l (Ty.pair (Ty.int IntKind.u8) (Ty.int IntKind.i64)) l7]).sel:=by kernel_rfl
theorem p3i (env:List Dat)(y:Nat×List Dat)(h:(n3p env).sel=some y):(n3a [(3,TCmd)] false Try.prog o3a 30 ls0 (mkF [inV 0,inV 4] [] [] [(inO 0 0,[.arr TCmd 3])] fun _=>none) env).sel=some y:=by
 unfold n3p at h
 split at h
 ·rw[o3j];exact h
 ·cases h
theorem B31_ok:a0v Try.prog 30 (a0j B31):=n3n (nils:=[(3,TCmd)]) (op:=i2m) l3l hmix false (LsOk.none _ _ _) p3i
theorem m0w:CsOk Try.prog cs_31:=a0g l3l B31_ok
def m3w:List Dat→Tree (Nat×List Dat)
 |[.n n0,.n n1,.n n2,.l (Ty.pair (Ty.int IntKind.u8) (Ty.int IntKind.i64)) l3,.n n4,.n n5,.n n6,.l (Ty.pair (Ty.int IntKind.u8) (Ty.int IntKind.i64)) l7]=>
  (let r1:Option (Nat×List Dat):=(k3y [.l (Ty.pair (Ty.int IntKind.u8) (Ty.int IntKind.i64)) l3,.l (Ty.pair (Ty.int IntKind.u8) (Ty.int IntKind.i64)) l7]);
   (.node (isK 0 [HK.b] r1)
   (.node (gb (dOf r1) 0)
    (.node (decide (List.length l3*16≤140737488355328))
    (.leaf ((0,[.n (ior IntKind.u64 n0 n4),.n (iand IntKind.u32 n1 n5),.n (iand IntKind.u32 n2 n6),.l (Ty.pair (Ty.int IntKind.u8) (Ty.int IntKind.i64)) l3])))
    (.bad 60))
    (.leaf ((0,[.n (ior IntKind.u64 n0 n4),.n (iand IntKind.u32 n1 n5),.n (iand IntKind.u32 n2 n6),.l (Ty.pair (Ty.int IntKind.u8) (Ty.int IntKind.i64)) []]))))
   (.bad 351)))
 |_=>.bad 0
def g2y:List Dat→Option (Nat×List Dat):=fun env=>(m3w env).sel
def B32:FBox:=(mkF [inV 0,inV 4] [] [] [(inO 0 0,[.arr TCmd 3])] g2y)
theorem o3v (n0:Int)(n1:Int)(n2:Int)(l3:List (Ty.den (Ty.pair (Ty.int IntKind.u8) (Ty.int IntKind.i64))))(n4:Int)(n5:Int)(n6:Int)(l7:List (Ty.den (Ty.pair (Ty.int IntKind.u8) (Ty.int IntKind.i64)))):(n3a [(3,TCmd)] false Try.prog cs_31 31 ls0 (mkF [inV 0,inV 4] [] [] [(inO 0 0,[.arr TCmd 3])] fun _=>none) [.n n0,.n n1,.n n2,.l (Ty.pair (Ty.int IntKind.u8) (Ty.int IntKind.i64)) l3,.n n4,.n n5,.n n6,.l (Ty.pair (Ty.int IntKind.u8) (Ty.int IntKind.i64)) l7]).sel=(m3w [.n n0,.n n1,.n n2,.l (Ty.pair (Ty.int IntKind.u8) (Ty.int IntKind.i64)) l3,.n n4,.n n5,.n n6,.l (Ty.pair (Ty.int IntKind.u8) (Ty.int IntKind.i64)) l7]).sel:=by kernel_rfl
theorem n3y (env:List Dat)(y:Nat×List Dat)(h:(m3w env).sel=some y):(n3a [(3,TCmd)] false Try.prog cs_31 31 ls0 (mkF [inV 0,inV 4] [] [] [(inO 0 0,[.arr TCmd 3])] fun _=>none) env).sel=some y:=by
 unfold m3w at h
 split at h
 ·rw[o3v];exact h
 ·cases h
theorem B32_ok:a0v Try.prog 31 (a0j B32):=n3n (nils:=[(3,TCmd)]) (op:=g2y) m0w hmix false (LsOk.none _ _ _) n3y
abbrev TIn:Ty:=.pair (.int .u64) (.pair (.int .u32) (.pair (.int .u32) (.sl (.pair (.int .u8) (.int .i64)))))
abbrev TRd:Ty:=.pair (.int .i64) (.pair (.int .i64) (.pair (.int .u64) (.pair (.int .u32) (.pair (.int .u32) (.sl (.pair (.int .u8) (.int .i64)))))))
abbrev TWay:Ty:=.pair (.int .i64) (.pair (.int .i64) (.pair (.int .i64) (.pair (.int .u64) (.pair (.int .u32) (.pair (.int .u32) (.sl (.pair (.int .u8) (.int .i64))))))))
def rV (h:Nat):PV:=.agg [.int .i64 h,.int .i64 (h+1),.int .u64 (h+2),.int .u32 (h+3),.int .u32 (h+4),.imm TCmd (h+5)]
def rO (h b:Nat):PV:=.agg [.int .i64 h,.int .i64 (h+1),.int .u64 (h+2),.int .u32 (h+3),.int .u32 (h+4),.own b]
def rN (h:Nat):PV:=.agg [.int .i64 h,.int .i64 (h+1),.int .u64 (h+2),.int .u32 (h+3),.int .u32 (h+4),.nilsl]
def iN (h:Nat):PV:=.agg [.int .u64 h,.int .u32 (h+1),.int .u32 (h+2),.nilsl]
def iO (h b:Nat):PV:=.agg [.int .u64 h,.int .u32 (h+1),.int .u32 (h+2),.own b]
def rdB (h:Nat):PB:=.cells [.int .i64 h,.int .i64 (h+1),.int .u64 (h+2),.int .u32 (h+3),.int .u32 (h+4),.imm TCmd (h+5)]
def rdN (h:Nat):PB:=.cells [.int .i64 h,.int .i64 (h+1),.int .u64 (h+2),.int .u32 (h+3),.int .u32 (h+4),.nilsl]
def sdB (a b c h:Nat):PB:=.cells [.int .i64 h,.int .i64 (h+1),.optr (h+2) a 0,.optr (h+3) b 0,.optr (h+4) c 0,.bool (h+5)]
def rdZ:List SV:=[.int .i64 0,.int .i64 0,.int .u64 0,.int .u32 0,.int .u32 0,.imm TCmd []]
def cs_62A:FuncId→Option a0q:=a0s 33 ((BSh.of B62).k h3f) cs_w
theorem n3e:CsOk Try.prog cs_62A:=csA j3n B62_ok
def cs_60A:FuncId→Option a0q:=a0s 34 ((BSh.of B60).k j2c) cs_62A
theorem m3y:CsOk Try.prog cs_60A:=csA n3e B60_ok
def cs_61A:FuncId→Option a0q:=a0s 32 ((BSh.of B61).k k3y) cs_60A
theorem n3s:CsOk Try.prog cs_61A:=csA m3y B61_ok
def cs_29A:FuncId→Option a0q:=a0s 28 ((BSh.of B29).k q1j) cs_61A
theorem m3t:CsOk Try.prog cs_29A:=csA n3s B29_ok
def cs_30A:FuncId→Option a0q:=a0s 22 ((BSh.of B30).k h3h) cs_29A
theorem m3x:CsOk Try.prog cs_30A:=csA m3t B30_ok
def cs_31A:FuncId→Option a0q:=a0s 30 ((BSh.of B31).k i2m) cs_30A
theorem n3t:CsOk Try.prog cs_31A:=csA m3x B31_ok
def n3q:FuncId→Option a0q:=a0s 31 ((BSh.of B32).k g2y) cs_31A
theorem k3l:CsOk Try.prog n3q:=csA n3t B32_ok
def S_pk:BSh:={args:=[.int .i64 0,.int .i64 1],blks:=[],log:=[],outs:=[(.int .i64 0,[])]}
def ev_pk:List Dat→Tree (Nat×List Dat):=evF n3q 12 ls0 S_pk
theorem e_pk: ∃op,IsF ev_pk 12 S_pk op:=bxF k3l (LsOk.none _ _ _)
def t0c:OpA:=opF e_pk
theorem o3g {n0 n1:Int}(h0:(¬n1≤(0:Int))):t0c [.n n0,.n n1]=some ((0,[.n (Int.tmod (IntKind.wrap .i64 (Int.tmod n0 n1+n1)) n1)])):=t2c e_pk (sF (df h0)<|sTo (c:=(!decide (n1=(0:Int))))<|sTo (c:=(!decide (n1=(0:Int))))<|sP [1]<|sL)
def cs_pk:FuncId→Option a0q:=a0s 12 (S_pk.k t0c) n3q
theorem l3r:CsOk Try.prog cs_pk:=csL1 k3l e_pk
def S_ow:BSh:={args:=[rV 0],blks:=[],log:=[],outs:=[(rO 0 0,[.arr TCmd 5])]}
def ev_ow:List Dat→Tree (Nat×List Dat):=evF cs_pk 11 ls0 S_ow
theorem e_ow: ∃op,IsF ev_ow 11 S_ow op:=bxF l3r (LsOk.none _ _ _)
def h3i:OpA:=opF e_ow
theorem l3v {n0 n1 n2 n3 n4:Int}{l5:List (Ty.den TCmd)}(h0:(List.length l5*16≤140737488355328)):h3i [.n n0,.n n1,.n n2,.n n3,.n n4,.l TCmd l5]=some ((0,[.n n0,.n n1,.n n2,.n n3,.n n4,.l TCmd l5])):=t2c e_ow (sT (dt h0)<|sP [1]<|sL)
def cs_ow:FuncId→Option a0q:=a0s 11 (S_ow.k h3i) cs_pk
theorem l3m:CsOk Try.prog cs_ow:=csL1 l3r e_ow
def S_be:BSh:={args:=[.ptr 0 0,.int .i64 0,inV 1],blks:=[sdB 1 2 3 5,rdB 11,rdB 17,rdB 23],log:=[0,1,2,3],outs:=[(.tup [rN 0,.int .i64 5],[sdB 1 2 3 6,rdB 12,rdB 18,rdB 24]),(.tup [rO 0 4,.int .i64 5],[sdB 5 6 3 6,.gone,.gone,rdB 12,.arr TCmd 18,rdB 19,rdB 25]),(.tup [rO 0 4,.int .i64 5],[sdB 5 3 6 6,.gone,.gone,rdB 12,.arr TCmd 18,rdB 19,rdB 25]),(.tup [rO 0 4,.int .i64 5],[sdB 5 6 7 6,.gone,.gone,rdB 12,.arr TCmd 18,rdB 19,rdB 25,rdB 31])]}
def ev_be:List Dat→Tree (Nat×List Dat):=evFV [(some 0,2,.opt rdZ),(some 0,3,.opt rdZ),(some 0,4,.opt rdZ),(some 0,2,.sub 5 (.imm TCmd)),(some 0,3,.sub 5 (.imm TCmd)),(some 0,4,.sub 5 (.imm TCmd))] cs_ow 13 ls0 S_be
theorem e_be: ∃op,IsF ev_be 13 S_be op:=bxFV l3m (LsOk.none _ _ _)
def h3g:OpA:=opF e_be
theorem h3o {n0 n1 n2 n3:Int}{l4:List (Ty.den TCmd)}{n5 n6:Int}{b7 b8 b9 b10:Bool}{n11 n12 n13 n14 n15:Int}{l16:List (Ty.den TCmd)}{n17 n18 n19 n20 n21:Int}{l22:List (Ty.den TCmd)}{n23 n24 n25 n26 n27:Int}{l28:List (Ty.den TCmd)}(h0:(n0≤n6)):h3g [.n n0,.n n1,.n n2,.n n3,.l TCmd l4,.n n5,.n n6,.b b7,.b b8,.b b9,.b b10,.n n11,.n n12,.n n13,.n n14,.n n15,.l TCmd l16,.n n17,.n n18,.n n19,.n n20,.n n21,.l TCmd l22,.n n23,.n n24,.n n25,.n n26,.n n27,.l TCmd l28]=some ((0,[.n (0:Int),.n (0:Int),.n (0:Int),.n (0:Int),.n (0:Int),.n (2:Int),.n n5,.n n6,.b b7,.b b8,.b b9,.b b10,.n n11,.n n12,.n n13,.n n14,.n n15,.l TCmd l16,.n n17,.n n18,.n n19,.n n20,.n n21,.l TCmd l22,.n n23,.n n24,.n n25,.n n26,.n n27,.l TCmd l28])):=t2c e_be (sP [0]<|sT (dt h0)<|sP [1]<|sL)
theorem p3o {n0 n1 n2 n3:Int}{l4:List (Ty.den TCmd)}{n5 n6:Int}{b7 b8 b9 b10:Bool}{n11 n12 n13 n14 n15:Int}{l16:List (Ty.den TCmd)}{n17 n18 n19 n20 n21:Int}{l22:List (Ty.den TCmd)}{n23 n24 n25 n26 n27:Int}{l28 l29 l30:List (Ty.den TCmd)}(h0:(¬n0≤n6))(h1:(h3f [.l TCmd l4])=(some (0,[.l TCmd l29])))(h2:((!b9)=false))(h3:(b9=true))(h4:(n24≤n0))(h5:(n24=n0))(h6:(h3f [.l TCmd l29])=(some (0,[.l TCmd l30]))):h3g [.n n0,.n n1,.n n2,.n n3,.l TCmd l4,.n n5,.n n6,.b b7,.b b8,.b b9,.b b10,.n n11,.n n12,.n n13,.n n14,.n n15,.l TCmd l16,.n n17,.n n18,.n n19,.n n20,.n n21,.l TCmd l22,.n n23,.n n24,.n n25,.n n26,.n n27,.l TCmd l28]=some ((2,(.n n5::.n n0::.n n1::.n n2::.n n3::.n (0:Int)::.n n5::.n n0::.b true::.b b9::.b false::.b false::.n n23::.n n24::.n n25::.n n26::.n n27::.l TCmd l28::.l TCmd l30::.n n5::.n n0::.n n1::.n n2::.n n3::.l TCmd l29::.n (0:Int)::.n (0:Int)::.n (0:Int)::.n (0:Int)::.n (0:Int)::.l TCmd []::[]))):=t2c e_be (sP [0]<|sF (df h0)<|sP [1]<|sA h1<|sP [1,1,1,1]<|sT (nf h2)<|sT h3<|sT (dt h4)<|sT h3<|sT (bt h5)<|sP [1]<|sA h6<|sP [1,1,1,1]<|sL)
theorem p3s {n0 n1 n2 n3:Int}{l4:List (Ty.den TCmd)}{n5 n6:Int}{b7 b8 b9 b10:Bool}{n11 n12 n13 n14 n15:Int}{l16:List (Ty.den TCmd)}{n17 n18 n19 n20 n21:Int}{l22:List (Ty.den TCmd)}{n23 n24 n25 n26 n27:Int}{l28 l29 l30:List (Ty.den TCmd)}(h0:(¬n0≤n6))(h1:(h3f [.l TCmd l4])=(some (0,[.l TCmd l29])))(h2:((!b9)=false))(h3:(b9=true))(h4:(n24≤n0))(h5:(¬n24=n0))(h6:(h3f [.l TCmd l29])=(some (0,[.l TCmd l30]))):h3g [.n n0,.n n1,.n n2,.n n3,.l TCmd l4,.n n5,.n n6,.b b7,.b b8,.b b9,.b b10,.n n11,.n n12,.n n13,.n n14,.n n15,.l TCmd l16,.n n17,.n n18,.n n19,.n n20,.n n21,.l TCmd l22,.n n23,.n n24,.n n25,.n n26,.n n27,.l TCmd l28]=some ((3,(.n n5::.n n0::.n n1::.n n2::.n n3::.n (0:Int)::.n n5::.n n0::.b true::.b false::.b false::.b false::.n n23::.n n24::.n n25::.n n26::.n n27::.l TCmd l28::.l TCmd l30::.n n5::.n n0::.n n1::.n n2::.n n3::.l TCmd l29::.n (0:Int)::.n (0:Int)::.n (0:Int)::.n (0:Int)::.n (0:Int)::.l TCmd []::.n (0:Int)::.n (0:Int)::.n (0:Int)::.n (0:Int)::.n (0:Int)::.l TCmd []::[]))):=t2c e_be (sP [0]<|sF (df h0)<|sP [1]<|sA h1<|sP [1,1,1,1]<|sT (nf h2)<|sT h3<|sT (dt h4)<|sT h3<|sF (bf h5)<|sP [1]<|sA h6<|sP [1,1,1,1]<|sL)
theorem n3z {n0 n1 n2 n3:Int}{l4:List (Ty.den TCmd)}{n5 n6:Int}{b7 b8 b9 b10:Bool}{n11 n12 n13 n14 n15:Int}{l16:List (Ty.den TCmd)}{n17 n18 n19 n20 n21:Int}{l22:List (Ty.den TCmd)}{n23 n24 n25 n26 n27:Int}{l28 l29 l30:List (Ty.den TCmd)}(h0:(¬n0≤n6))(h1:(h3f [.l TCmd l4])=(some (0,[.l TCmd l29])))(h2:((!b9)=false))(h3:(b9=true))(h4:(¬n24≤n0))(h5:(h3f [.l TCmd l29])=(some (0,[.l TCmd l30]))):h3g [.n n0,.n n1,.n n2,.n n3,.l TCmd l4,.n n5,.n n6,.b b7,.b b8,.b b9,.b b10,.n n11,.n n12,.n n13,.n n14,.n n15,.l TCmd l16,.n n17,.n n18,.n n19,.n n20,.n n21,.l TCmd l22,.n n23,.n n24,.n n25,.n n26,.n n27,.l TCmd l28]=some ((1,(.n n5::.n n0::.n n1::.n n2::.n n3::.n (0:Int)::.n n5::.n n0::.b true::.b false::.b b9::.b false::.n n23::.n n24::.n n25::.n n26::.n n27::.l TCmd l28::.l TCmd l30::.n n5::.n n0::.n n1::.n n2::.n n3::.l TCmd l29::.n (0:Int)::.n (0:Int)::.n (0:Int)::.n (0:Int)::.n (0:Int)::.l TCmd []::[]))):=t2c e_be (sP [0]<|sF (df h0)<|sP [1]<|sA h1<|sP [1,1,1,1]<|sT (nf h2)<|sT h3<|sF (df h4)<|sP [1]<|sA h5<|sP [1,1,1,1]<|sL)
theorem p3q {n0 n1 n2 n3:Int}{l4:List (Ty.den TCmd)}{n5 n6:Int}{b7 b8 b9 b10:Bool}{n11 n12 n13 n14 n15:Int}{l16:List (Ty.den TCmd)}{n17 n18 n19 n20 n21:Int}{l22:List (Ty.den TCmd)}{n23 n24 n25 n26 n27:Int}{l28 l29 l30:List (Ty.den TCmd)}(h0:(¬n0≤n6))(h1:(h3f [.l TCmd l4])=(some (0,[.l TCmd l29])))(h2:((!b9)=true))(h3:(h3f [.l TCmd l29])=(some (0,[.l TCmd l30]))):h3g [.n n0,.n n1,.n n2,.n n3,.l TCmd l4,.n n5,.n n6,.b b7,.b b8,.b b9,.b b10,.n n11,.n n12,.n n13,.n n14,.n n15,.l TCmd l16,.n n17,.n n18,.n n19,.n n20,.n n21,.l TCmd l22,.n n23,.n n24,.n n25,.n n26,.n n27,.l TCmd l28]=some ((1,(.n n5::.n n0::.n n1::.n n2::.n n3::.n (0:Int)::.n n5::.n n0::.b true::.b false::.b b9::.b false::.n n23::.n n24::.n n25::.n n26::.n n27::.l TCmd l28::.l TCmd l30::.n n5::.n n0::.n n1::.n n2::.n n3::.l TCmd l29::.n (0:Int)::.n (0:Int)::.n (0:Int)::.n (0:Int)::.n (0:Int)::.l TCmd []::[]))):=t2c e_be (sP [0]<|sF (df h0)<|sP [1]<|sA h1<|sP [1,1,1,1]<|sF (nt h2)<|sP [0,0,1]<|sA h3<|sP [1,1,1,1]<|sL)
def m3m:FuncId→Option a0q:=e1c 13 [S_be.k h3g] cs_ow
theorem h3s:CsOk Try.prog m3m:=csA1 l3m e_be
def S_hs:BSh:={args:=[.ptr 0 0,.iface 9 (.str 0)],blks:=[sdB 1 2 3 1,rdB 7,rdB 13,rdB 19],log:=[],outs:=[(.int .i64 0,[sdB 1 2 3 1,rdB 7,rdB 13,rdB 19])]}
def ev_hs:List Dat→Tree (Nat×List Dat):=evF m3m 17 ls0 S_hs
theorem e_hs: ∃op,IsF ev_hs 17 S_hs op:=bxF h3s (LsOk.none _ _ _)
def j3z:OpA:=opF e_hs
theorem h3r {s0:ByteArray}{n1 n2:Int}{b3 b4 b5 b6:Bool}{n7 n8 n9 n10 n11:Int}{l12:List (Ty.den TCmd)}{n13 n14 n15 n16 n17:Int}{l18:List (Ty.den TCmd)}{n19 n20 n21 n22 n23:Int}{l24:List (Ty.den TCmd)}:j3z [.s s0,.n n1,.n n2,.b b3,.b b4,.b b5,.b b6,.n n7,.n n8,.n n9,.n n10,.n n11,.l TCmd l12,.n n13,.n n14,.n n15,.n n16,.n n17,.l TCmd l18,.n n19,.n n20,.n n21,.n n22,.n n23,.l TCmd l24]=some ((0,[.n (2:Int),.n n1,.n n2,.b b3,.b b4,.b b5,.b b6,.n n7,.n n8,.n n9,.n n10,.n n11,.l TCmd l12,.n n13,.n n14,.n n15,.n n16,.n n17,.l TCmd l18,.n n19,.n n20,.n n21,.n n22,.n n23,.l TCmd l24])):=t2c e_hs (sP [0,1,1,1,1,1]<|sL)
def S_hz:BSh:={args:=[.ptr 0 0,.nilif],blks:=[sdB 1 2 3 0,rdB 6,rdB 12,rdB 18],log:=[],outs:=[(.int .i64 0,[sdB 1 2 3 1,rdB 7,rdB 13,rdB 19])]}
def ev_hz:List Dat→Tree (Nat×List Dat):=evF m3m 17 ls0 S_hz
theorem e_hz: ∃op,IsF ev_hz 17 S_hz op:=bxF h3s (LsOk.none _ _ _)
def k3e:OpA:=opF e_hz
theorem h3p {n0 n1:Int}{b2 b3 b4 b5:Bool}{n6 n7 n8 n9 n10:Int}{l11:List (Ty.den TCmd)}{n12 n13 n14 n15 n16:Int}{l17:List (Ty.den TCmd)}{n18 n19 n20 n21 n22:Int}{l23:List (Ty.den TCmd)}:k3e [.n n0,.n n1,.b b2,.b b3,.b b4,.b b5,.n n6,.n n7,.n n8,.n n9,.n n10,.l TCmd l11,.n n12,.n n13,.n n14,.n n15,.n n16,.l TCmd l17,.n n18,.n n19,.n n20,.n n21,.n n22,.l TCmd l23]=some ((0,[.n (2:Int),.n n0,.n n1,.b b2,.b b3,.b b4,.b b5,.n n6,.n n7,.n n8,.n n9,.n n10,.l TCmd l11,.n n12,.n n13,.n n14,.n n15,.n n16,.l TCmd l17,.n n18,.n n19,.n n20,.n n21,.n n22,.l TCmd l23])):=t2c e_hz (sP [0,1,1,1,1,1]<|sL)
def S_hp:BSh:={args:=[.ptr 0 0,.iface 65 (.ptr 1 0)],blks:=[sdB 2 3 4 0,rdN 6,rdB 11,rdB 17,rdB 23],log:=[],outs:=[(.int .i64 0,[sdB 2 3 4 1,.gone,rdB 7,rdB 13,rdB 19])]}
def ev_hp:List Dat→Tree (Nat×List Dat):=evF m3m 17 ls0 S_hp
theorem e_hp: ∃op,IsF ev_hp 17 S_hp op:=bxF h3s (LsOk.none _ _ _)
def j3q:OpA:=opF e_hp
theorem h3q {n0 n1:Int}{b2 b3 b4 b5:Bool}{n6 n7 n8 n9 n10 n11 n12 n13 n14 n15:Int}{l16:List (Ty.den TCmd)}{n17 n18 n19 n20 n21:Int}{l22:List (Ty.den TCmd)}{n23 n24 n25 n26 n27:Int}{l28:List (Ty.den TCmd)}:j3q [.n n0,.n n1,.b b2,.b b3,.b b4,.b b5,.n n6,.n n7,.n n8,.n n9,.n n10,.n n11,.n n12,.n n13,.n n14,.n n15,.l TCmd l16,.n n17,.n n18,.n n19,.n n20,.n n21,.l TCmd l22,.n n23,.n n24,.n n25,.n n26,.n n27,.l TCmd l28]=some ((0,[.n (2:Int),.n n0,.n n1,.b b2,.b b3,.b b4,.b b5,.n n11,.n n12,.n n13,.n n14,.n n15,.l TCmd l16,.n n17,.n n18,.n n19,.n n20,.n n21,.l TCmd l22,.n n23,.n n24,.n n25,.n n26,.n n27,.l TCmd l28])):=t2c e_hp (sP [0,1,1,1,1,1]<|sL)
def S_he:BSh:={args:=[.ptr 0 0,.iface 35 (rO 0 1)],blks:=[sdB 2 3 4 5,.arr TCmd 11,rdB 12,rdB 18,rdB 24],log:=[0,1,2,3,4],outs:=[(.int .i64 0,[sdB 2 3 4 1,.gone,rdB 7,rdB 13,rdB 19]),(.int .i64 0,[sdB 2 5 4 1,.gone,rdB 7,rdB 13,rdB 19,rdB 25]),(.int .i64 0,[sdB 2 3 5 1,.gone,rdB 7,rdB 13,rdB 19,rdB 25])]}
def ev_he:List Dat→Tree (Nat×List Dat):=evFV [(some 0,2,.opt rdZ),(some 0,3,.opt rdZ),(some 0,4,.opt rdZ),(some 0,2,.sub 5 (.imm TCmd)),(some 0,3,.sub 5 (.imm TCmd)),(some 0,4,.sub 5 (.imm TCmd))] m3m 17 ls0 S_he
theorem e_he: ∃op,IsF ev_he 17 S_he op:=bxFV h3s (LsOk.none _ _ _)
def h3d:OpA:=opF e_he
theorem p3g {n0 n1 n2 n3 n4 n5 n6:Int}{b7 b8 b9 b10:Bool}{l11:List (Ty.den TCmd)}{n12 n13 n14 n15 n16:Int}{l17:List (Ty.den TCmd)}{n18 n19 n20 n21 n22:Int}{l23:List (Ty.den TCmd)}{n24 n25 n26 n27 n28:Int}{l29:List (Ty.den TCmd)}(h0:(¬n0=IntKind.wrap .i64 ((1:Int)-n5))):h3d [.n n0,.n n1,.n n2,.n n3,.n n4,.n n5,.n n6,.b b7,.b b8,.b b9,.b b10,.l TCmd l11,.n n12,.n n13,.n n14,.n n15,.n n16,.l TCmd l17,.n n18,.n n19,.n n20,.n n21,.n n22,.l TCmd l23,.n n24,.n n25,.n n26,.n n27,.n n28,.l TCmd l29]=some ((0,[.n (2:Int),.n n5,.n n6,.b b7,.b b8,.b b9,.b b10,.n n12,.n n13,.n n14,.n n15,.n n16,.l TCmd l17,.n n18,.n n19,.n n20,.n n21,.n n22,.l TCmd l23,.n n24,.n n25,.n n26,.n n27,.n n28,.l TCmd l29])):=t2c e_he (sP [0,0,1]<|sT (bnt h0)<|sP [1]<|sL)
theorem p3h {n0 n1 n2 n3 n4 n5 n6:Int}{b7 b8 b9 b10:Bool}{l11:List (Ty.den TCmd)}{n12 n13 n14 n15 n16:Int}{l17:List (Ty.den TCmd)}{n18 n19 n20 n21 n22:Int}{l23:List (Ty.den TCmd)}{n24 n25 n26 n27 n28:Int}{l29:List (Ty.den TCmd)}(h0:(n0=IntKind.wrap .i64 ((1:Int)-n5)))(h1:(n1<n6)):h3d [.n n0,.n n1,.n n2,.n n3,.n n4,.n n5,.n n6,.b b7,.b b8,.b b9,.b b10,.l TCmd l11,.n n12,.n n13,.n n14,.n n15,.n n16,.l TCmd l17,.n n18,.n n19,.n n20,.n n21,.n n22,.l TCmd l23,.n n24,.n n25,.n n26,.n n27,.n n28,.l TCmd l29]=some ((0,[.n (190:Int),.n n5,.n n6,.b b7,.b b8,.b b9,.b b10,.n n12,.n n13,.n n14,.n n15,.n n16,.l TCmd l17,.n n18,.n n19,.n n20,.n n21,.n n22,.l TCmd l23,.n n24,.n n25,.n n26,.n n27,.n n28,.l TCmd l29])):=t2c e_he (sP [0,0,1]<|sF (bnf h0)<|sP [1]<|sT (dt h1)<|sP [1]<|sL)
theorem o3r {n0 n1 n2 n3 n4 n5 n6:Int}{b7 b8 b9 b10:Bool}{l11:List (Ty.den TCmd)}{n12 n13 n14 n15 n16:Int}{l17:List (Ty.den TCmd)}{n18 n19 n20 n21 n22:Int}{l23:List (Ty.den TCmd)}{n24 n25 n26 n27 n28:Int}{l29 l30:List (Ty.den TCmd)}(h0:(n0=IntKind.wrap .i64 ((1:Int)-n5)))(h1:(¬n1<n6))(h2:(h3f [.l TCmd l11])=(some (0,[.l TCmd l30])))(h3:(n1>n6))(h4:(b9=false)):h3d [.n n0,.n n1,.n n2,.n n3,.n n4,.n n5,.n n6,.b b7,.b b8,.b b9,.b b10,.l TCmd l11,.n n12,.n n13,.n n14,.n n15,.n n16,.l TCmd l17,.n n18,.n n19,.n n20,.n n21,.n n22,.l TCmd l23,.n n24,.n n25,.n n26,.n n27,.n n28,.l TCmd l29]=some ((2,(.n (0:Int)::.n n5::.n n6::.b b7::.b b8::.b true::.b b10::.n n12::.n n13::.n n14::.n n15::.n n16::.l TCmd l17::.n n18::.n n19::.n n20::.n n21::.n n22::.l TCmd l23::.n n24::.n n25::.n n26::.n n27::.n n28::.l TCmd l29::.n n0::.n n1::.n n2::.n n3::.n n4::.l TCmd l30::[]))):=t2c e_he (sP [0,0,1]<|sF (bnf h0)<|sP [1]<|sF (df h1)<|sP [1]<|sA h2<|sP [1,1,1,1]<|sT (dt h3)<|sP [1]<|sT (nf h4)<|sP [1,1,1,1,1]<|sL)
theorem o3i {n0 n1 n2 n3 n4 n5 n6:Int}{b7 b8 b9 b10:Bool}{l11:List (Ty.den TCmd)}{n12 n13 n14 n15 n16:Int}{l17:List (Ty.den TCmd)}{n18 n19 n20 n21 n22:Int}{l23:List (Ty.den TCmd)}{n24 n25 n26 n27 n28:Int}{l29 l30:List (Ty.den TCmd)}(h0:(n0=IntKind.wrap .i64 ((1:Int)-n5)))(h1:(¬n1<n6))(h2:(h3f [.l TCmd l11])=(some (0,[.l TCmd l30])))(h3:(n1>n6))(h4:(b9=true))(h5:(n1>n25)):h3d [.n n0,.n n1,.n n2,.n n3,.n n4,.n n5,.n n6,.b b7,.b b8,.b b9,.b b10,.l TCmd l11,.n n12,.n n13,.n n14,.n n15,.n n16,.l TCmd l17,.n n18,.n n19,.n n20,.n n21,.n n22,.l TCmd l23,.n n24,.n n25,.n n26,.n n27,.n n28,.l TCmd l29]=some ((2,(.n (0:Int)::.n n5::.n n6::.b b7::.b b8::.b true::.b b10::.n n12::.n n13::.n n14::.n n15::.n n16::.l TCmd l17::.n n18::.n n19::.n n20::.n n21::.n n22::.l TCmd l23::.n n24::.n n25::.n n26::.n n27::.n n28::.l TCmd l29::.n n0::.n n1::.n n2::.n n3::.n n4::.l TCmd l30::[]))):=t2c e_he (sP [0,0,1]<|sF (bnf h0)<|sP [1]<|sF (df h1)<|sP [1]<|sA h2<|sP [1,1,1,1]<|sT (dt h3)<|sP [1]<|sF (nt h4)<|sTs (c:=(b9))<|sP [1]<|sT (dt h5)<|sP [1,1]<|sL)
theorem o3e {n0 n1 n2 n3 n4 n5 n6:Int}{b7 b8 b9 b10:Bool}{l11:List (Ty.den TCmd)}{n12 n13 n14 n15 n16:Int}{l17:List (Ty.den TCmd)}{n18 n19 n20 n21 n22:Int}{l23:List (Ty.den TCmd)}{n24 n25 n26 n27 n28:Int}{l29 l30:List (Ty.den TCmd)}{b31:Bool}(h0:(n0=IntKind.wrap .i64 ((1:Int)-n5)))(h1:(¬n1<n6))(h2:(h3f [.l TCmd l11])=(some (0,[.l TCmd l30])))(h3:(n1>n6))(h4:(b9=true))(h5:(¬n1>n25))(h6:(n25=n1))(h7:(q1j [.n n26,.n n27,.n n28,.l TCmd l29,.n n2,.n n3,.n n4,.l TCmd l30])=(some (0,[.b b31])))(h8:(b31=true)):h3d [.n n0,.n n1,.n n2,.n n3,.n n4,.n n5,.n n6,.b b7,.b b8,.b b9,.b b10,.l TCmd l11,.n n12,.n n13,.n n14,.n n15,.n n16,.l TCmd l17,.n n18,.n n19,.n n20,.n n21,.n n22,.l TCmd l23,.n n24,.n n25,.n n26,.n n27,.n n28,.l TCmd l29]=some ((0,[.n (0:Int),.n n5,.n n6,.b b7,.b b8,.b b9,.b b10,.n n12,.n n13,.n n14,.n n15,.n n16,.l TCmd l17,.n n18,.n n19,.n n20,.n n21,.n n22,.l TCmd l23,.n n24,.n n25,.n n26,.n n27,.n n28,.l TCmd l29])):=t2c e_he (sP [0,0,1]<|sF (bnf h0)<|sP [1]<|sF (df h1)<|sP [1]<|sA h2<|sP [1,1,1,1]<|sT (dt h3)<|sP [1]<|sF (nt h4)<|sTs (c:=(b9))<|sP [1]<|sF (df h5)<|sP [1]<|sTs (c:=(b9))<|sT (bt h6)<|sTs (c:=(b9))<|sA h7<|sP [1,1,1,1]<|sT h8<|sP [1,1]<|sL)
theorem p3t {n0 n1 n2 n3 n4 n5 n6:Int}{b7 b8 b9 b10:Bool}{l11:List (Ty.den TCmd)}{n12 n13 n14 n15 n16:Int}{l17:List (Ty.den TCmd)}{n18 n19 n20 n21 n22:Int}{l23:List (Ty.den TCmd)}{n24 n25 n26 n27 n28:Int}{l29 l30:List (Ty.den TCmd)}{b31:Bool}(h0:(n0=IntKind.wrap .i64 ((1:Int)-n5)))(h1:(¬n1<n6))(h2:(h3f [.l TCmd l11])=(some (0,[.l TCmd l30])))(h3:(n1>n6))(h4:(b9=true))(h5:(¬n1>n25))(h6:(n25=n1))(h7:(q1j [.n n26,.n n27,.n n28,.l TCmd l29,.n n2,.n n3,.n n4,.l TCmd l30])=(some (0,[.b b31])))(h8:(b31=false)):h3d [.n n0,.n n1,.n n2,.n n3,.n n4,.n n5,.n n6,.b b7,.b b8,.b b9,.b b10,.l TCmd l11,.n n12,.n n13,.n n14,.n n15,.n n16,.l TCmd l17,.n n18,.n n19,.n n20,.n n21,.n n22,.l TCmd l23,.n n24,.n n25,.n n26,.n n27,.n n28,.l TCmd l29]=some ((0,[.n (4:Int),.n n5,.n n6,.b b7,.b b8,.b b9,.b b10,.n n12,.n n13,.n n14,.n n15,.n n16,.l TCmd l17,.n n18,.n n19,.n n20,.n n21,.n n22,.l TCmd l23,.n n24,.n n25,.n n26,.n n27,.n n28,.l TCmd l29])):=t2c e_he (sP [0,0,1]<|sF (bnf h0)<|sP [1]<|sF (df h1)<|sP [1]<|sA h2<|sP [1,1,1,1]<|sT (dt h3)<|sP [1]<|sF (nt h4)<|sTs (c:=(b9))<|sP [1]<|sF (df h5)<|sP [1]<|sTs (c:=(b9))<|sT (bt h6)<|sTs (c:=(b9))<|sA h7<|sP [1,1,1,1]<|sF h8<|sP [1,1]<|sL)
theorem o3m {n0 n1 n2 n3 n4 n5 n6:Int}{b7 b8 b9 b10:Bool}{l11:List (Ty.den TCmd)}{n12 n13 n14 n15 n16:Int}{l17:List (Ty.den TCmd)}{n18 n19 n20 n21 n22:Int}{l23:List (Ty.den TCmd)}{n24 n25 n26 n27 n28:Int}{l29 l30:List (Ty.den TCmd)}(h0:(n0=IntKind.wrap .i64 ((1:Int)-n5)))(h1:(¬n1<n6))(h2:(h3f [.l TCmd l11])=(some (0,[.l TCmd l30])))(h3:(n1>n6))(h4:(b9=true))(h5:(¬n1>n25))(h6:(¬n25=n1)):h3d [.n n0,.n n1,.n n2,.n n3,.n n4,.n n5,.n n6,.b b7,.b b8,.b b9,.b b10,.l TCmd l11,.n n12,.n n13,.n n14,.n n15,.n n16,.l TCmd l17,.n n18,.n n19,.n n20,.n n21,.n n22,.l TCmd l23,.n n24,.n n25,.n n26,.n n27,.n n28,.l TCmd l29]=some ((0,[.n (4:Int),.n n5,.n n6,.b b7,.b b8,.b b9,.b b10,.n n12,.n n13,.n n14,.n n15,.n n16,.l TCmd l17,.n n18,.n n19,.n n20,.n n21,.n n22,.l TCmd l23,.n n24,.n n25,.n n26,.n n27,.n n28,.l TCmd l29])):=t2c e_he (sP [0,0,1]<|sF (bnf h0)<|sP [1]<|sF (df h1)<|sP [1]<|sA h2<|sP [1,1,1,1]<|sT (dt h3)<|sP [1]<|sF (nt h4)<|sTs (c:=(b9))<|sP [1]<|sF (df h5)<|sP [1]<|sTs (c:=(b9))<|sF (bf h6)<|sP [0,1,1,0,1,1]<|sL)
theorem o3k {n0 n1 n2 n3 n4 n5 n6:Int}{b7 b8 b9 b10:Bool}{l11:List (Ty.den TCmd)}{n12 n13 n14 n15 n16:Int}{l17:List (Ty.den TCmd)}{n18 n19 n20 n21 n22:Int}{l23:List (Ty.den TCmd)}{n24 n25 n26 n27 n28:Int}{l29 l30:List (Ty.den TCmd)}(h0:(n0=IntKind.wrap .i64 ((1:Int)-n5)))(h1:(¬n1<n6))(h2:(h3f [.l TCmd l11])=(some (0,[.l TCmd l30])))(h3:(¬n1>n6))(h4:(b8=false)):h3d [.n n0,.n n1,.n n2,.n n3,.n n4,.n n5,.n n6,.b b7,.b b8,.b b9,.b b10,.l TCmd l11,.n n12,.n n13,.n n14,.n n15,.n n16,.l TCmd l17,.n n18,.n n19,.n n20,.n n21,.n n22,.l TCmd l23,.n n24,.n n25,.n n26,.n n27,.n n28,.l TCmd l29]=some ((1,(.n (0:Int)::.n n5::.n n6::.b b7::.b true::.b b9::.b b10::.n n12::.n n13::.n n14::.n n15::.n n16::.l TCmd l17::.n n18::.n n19::.n n20::.n n21::.n n22::.l TCmd l23::.n n24::.n n25::.n n26::.n n27::.n n28::.l TCmd l29::.n n0::.n n1::.n n2::.n n3::.n n4::.l TCmd l30::[]))):=t2c e_he (sP [0,0,1]<|sF (bnf h0)<|sP [1]<|sF (df h1)<|sP [1]<|sA h2<|sP [1,1,1,1]<|sF (df h3)<|sT (nf h4)<|sP [1]<|sL)
theorem o3z {n0 n1 n2 n3 n4 n5 n6:Int}{b7 b8 b9 b10:Bool}{l11:List (Ty.den TCmd)}{n12 n13 n14 n15 n16:Int}{l17:List (Ty.den TCmd)}{n18 n19 n20 n21 n22:Int}{l23:List (Ty.den TCmd)}{n24 n25 n26 n27 n28:Int}{l29 l30:List (Ty.den TCmd)}{b31:Bool}(h0:(n0=IntKind.wrap .i64 ((1:Int)-n5)))(h1:(¬n1<n6))(h2:(h3f [.l TCmd l11])=(some (0,[.l TCmd l30])))(h3:(¬n1>n6))(h4:(b8=true))(h5:(n19=n1))(h6:(q1j [.n n20,.n n21,.n n22,.l TCmd l23,.n n2,.n n3,.n n4,.l TCmd l30])=(some (0,[.b b31])))(h7:(b31=true)):h3d [.n n0,.n n1,.n n2,.n n3,.n n4,.n n5,.n n6,.b b7,.b b8,.b b9,.b b10,.l TCmd l11,.n n12,.n n13,.n n14,.n n15,.n n16,.l TCmd l17,.n n18,.n n19,.n n20,.n n21,.n n22,.l TCmd l23,.n n24,.n n25,.n n26,.n n27,.n n28,.l TCmd l29]=some ((0,[.n (0:Int),.n n5,.n n6,.b b7,.b b8,.b b9,.b b10,.n n12,.n n13,.n n14,.n n15,.n n16,.l TCmd l17,.n n18,.n n19,.n n20,.n n21,.n n22,.l TCmd l23,.n n24,.n n25,.n n26,.n n27,.n n28,.l TCmd l29])):=t2c e_he (sP [0,0,1]<|sF (bnf h0)<|sP [1]<|sF (df h1)<|sP [1]<|sA h2<|sP [1,1,1,1]<|sF (df h3)<|sF (nt h4)<|sP [1]<|sTs (c:=(b8))<|sT (bt h5)<|sTs (c:=(b8))<|sA h6<|sP [1,1,1,1]<|sT h7<|sP [1]<|sL)
theorem p3d {n0 n1 n2 n3 n4 n5 n6:Int}{b7 b8 b9 b10:Bool}{l11:List (Ty.den TCmd)}{n12 n13 n14 n15 n16:Int}{l17:List (Ty.den TCmd)}{n18 n19 n20 n21 n22:Int}{l23:List (Ty.den TCmd)}{n24 n25 n26 n27 n28:Int}{l29 l30:List (Ty.den TCmd)}{b31:Bool}(h0:(n0=IntKind.wrap .i64 ((1:Int)-n5)))(h1:(¬n1<n6))(h2:(h3f [.l TCmd l11])=(some (0,[.l TCmd l30])))(h3:(¬n1>n6))(h4:(b8=true))(h5:(n19=n1))(h6:(q1j [.n n20,.n n21,.n n22,.l TCmd l23,.n n2,.n n3,.n n4,.l TCmd l30])=(some (0,[.b b31])))(h7:(b31=false)):h3d [.n n0,.n n1,.n n2,.n n3,.n n4,.n n5,.n n6,.b b7,.b b8,.b b9,.b b10,.l TCmd l11,.n n12,.n n13,.n n14,.n n15,.n n16,.l TCmd l17,.n n18,.n n19,.n n20,.n n21,.n n22,.l TCmd l23,.n n24,.n n25,.n n26,.n n27,.n n28,.l TCmd l29]=some ((0,[.n (4:Int),.n n5,.n n6,.b b7,.b b8,.b b9,.b true,.n n12,.n n13,.n n14,.n n15,.n n16,.l TCmd l17,.n n18,.n n19,.n n20,.n n21,.n n22,.l TCmd l23,.n n24,.n n25,.n n26,.n n27,.n n28,.l TCmd l29])):=t2c e_he (sP [0,0,1]<|sF (bnf h0)<|sP [1]<|sF (df h1)<|sP [1]<|sA h2<|sP [1,1,1,1]<|sF (df h3)<|sF (nt h4)<|sP [1]<|sTs (c:=(b8))<|sT (bt h5)<|sTs (c:=(b8))<|sA h6<|sP [1,1,1,1]<|sF h7<|sP [1]<|sL)
def cs_he:FuncId→Option a0q:=e1c 17 [S_hs.k j3z,S_hz.k k3e,S_hp.k j3q,S_he.k h3d] m3m
theorem l3j:CsOk Try.prog cs_he:=h0a h3s fun B hB=>by
 simp only[List.mem_cons,List.not_mem_nil,or_false]at hB
 rcases hB with rfl|rfl|rfl|rfl
 ·exact i3h e_hs
 ·exact i3h e_hz
 ·exact i3h e_hp
 ·exact i3h e_he
def S_me:BSh:={args:=[.ptr 0 0],blks:=[sdB 1 2 3 0,rdB 6,rdB 12,rdB 18],log:=[],outs:=[(.tup [iN 0,.bool 3],[sdB 1 2 3 4,rdB 10,rdB 16,rdB 22]),(.tup [iO 0 4,.bool 3],[sdB 1 2 3 4,rdB 10,rdB 16,rdB 22,.arr TCmd 28])]}
def ev_me:List Dat→Tree (Nat×List Dat):=evF cs_he 20 ls0 S_me
theorem e_me: ∃op,IsF ev_me 20 S_me op:=bxF l3j (LsOk.none _ _ _)
def t1c:OpA:=opF e_me
theorem o3h {n0 n1:Int}{b2 b3 b4 b5:Bool}{n6 n7 n8 n9 n10:Int}{l11:List (Ty.den TCmd)}{n12 n13 n14 n15 n16:Int}{l17:List (Ty.den TCmd)}{n18 n19 n20 n21 n22:Int}{l23:List (Ty.den TCmd)}(h0:(b2=false)):t1c [.n n0,.n n1,.b b2,.b b3,.b b4,.b b5,.n n6,.n n7,.n n8,.n n9,.n n10,.l TCmd l11,.n n12,.n n13,.n n14,.n n15,.n n16,.l TCmd l17,.n n18,.n n19,.n n20,.n n21,.n n22,.l TCmd l23]=some ((0,[.n (0:Int),.n (0:Int),.n (0:Int),.b false,.n n0,.n n1,.b b2,.b b3,.b b4,.b b5,.n n6,.n n7,.n n8,.n n9,.n n10,.l TCmd l11,.n n12,.n n13,.n n14,.n n15,.n n16,.l TCmd l17,.n n18,.n n19,.n n20,.n n21,.n n22,.l TCmd l23])):=t2c e_me (sP [0]<|sT (nf h0)<|sP [1,1,1,1,1]<|sL)
theorem o3o {n0 n1:Int}{b2 b3 b4 b5:Bool}{n6 n7 n8 n9 n10:Int}{l11:List (Ty.den TCmd)}{n12 n13 n14 n15 n16:Int}{l17:List (Ty.den TCmd)}{n18 n19 n20 n21 n22:Int}{l23:List (Ty.den TCmd)}(h0:(b2=true))(h1:(b3=false)):t1c [.n n0,.n n1,.b b2,.b b3,.b b4,.b b5,.n n6,.n n7,.n n8,.n n9,.n n10,.l TCmd l11,.n n12,.n n13,.n n14,.n n15,.n n16,.l TCmd l17,.n n18,.n n19,.n n20,.n n21,.n n22,.l TCmd l23]=some ((0,[.n (0:Int),.n (0:Int),.n (0:Int),.b false,.n n0,.n n1,.b b2,.b b3,.b b4,.b b5,.n n6,.n n7,.n n8,.n n9,.n n10,.l TCmd l11,.n n12,.n n13,.n n14,.n n15,.n n16,.l TCmd l17,.n n18,.n n19,.n n20,.n n21,.n n22,.l TCmd l23])):=t2c e_me (sP [0]<|sF (nt h0)<|sT (nf h1)<|sP [1,1,1]<|sL)
theorem p3e {n0 n1:Int}{b2 b3 b4 b5:Bool}{n6 n7 n8 n9 n10:Int}{l11:List (Ty.den TCmd)}{n12 n13 n14 n15 n16:Int}{l17:List (Ty.den TCmd)}{n18 n19 n20 n21 n22:Int}{l23:List (Ty.den TCmd)}(h0:(b2=true))(h1:(b3=true))(h2:(b5=true)):t1c [.n n0,.n n1,.b b2,.b b3,.b b4,.b b5,.n n6,.n n7,.n n8,.n n9,.n n10,.l TCmd l11,.n n12,.n n13,.n n14,.n n15,.n n16,.l TCmd l17,.n n18,.n n19,.n n20,.n n21,.n n22,.l TCmd l23]=some ((0,[.n (0:Int),.n (0:Int),.n (0:Int),.b false,.n n0,.n n1,.b b2,.b b3,.b b4,.b b5,.n n6,.n n7,.n n8,.n n9,.n n10,.l TCmd l11,.n n12,.n n13,.n n14,.n n15,.n n16,.l TCmd l17,.n n18,.n n19,.n n20,.n n21,.n n22,.l TCmd l23])):=t2c e_me (sP [0]<|sF (nt h0)<|sF (nt h1)<|sT h2<|sP [1]<|sL)
theorem o3d {n0 n1:Int}{b2 b3 b4 b5:Bool}{n6 n7 n8 n9 n10:Int}{l11:List (Ty.den TCmd)}{n12 n13 n14 n15 n16:Int}{l17:List (Ty.den TCmd)}{n18 n19 n20 n21 n22:Int}{l23:List (Ty.den TCmd)}{n24 n25 n26:Int}{l27:List (Ty.den TCmd)}(h0:(b2=true))(h1:(b3=true))(h2:(b5=false))(h3:(i2m [.n n8,.n n9,.n n10,.l TCmd l11,.n n14,.n n15,.n n16,.l TCmd l17])=(some (0,[.n n24,.n n25,.n n26,.l TCmd l27]))):t1c [.n n0,.n n1,.b b2,.b b3,.b b4,.b b5,.n n6,.n n7,.n n8,.n n9,.n n10,.l TCmd l11,.n n12,.n n13,.n n14,.n n15,.n n16,.l TCmd l17,.n n18,.n n19,.n n20,.n n21,.n n22,.l TCmd l23]=some ((1,[.n n24,.n n25,.n n26,.b true,.n n0,.n n1,.b b2,.b b3,.b b4,.b b5,.n n6,.n n7,.n n8,.n n9,.n n10,.l TCmd l11,.n n12,.n n13,.n n14,.n n15,.n n16,.l TCmd l17,.n n18,.n n19,.n n20,.n n21,.n n22,.l TCmd l23,.l TCmd l27])):=t2c e_me (sP [0]<|sF (nt h0)<|sF (nt h1)<|sF h2<|sTs (c:=(b2))<|sTs (c:=(b3))<|sA h3<|sP [1,1,1,1]<|sL)
def n3o:FuncId→Option a0q:=e1c 20 [S_me.k t1c] cs_he
theorem i3c:CsOk Try.prog n3o:=csA1 l3j e_me
def R_bo_5:LSh:={K:=0,log:=[],ins:=[(sh 60 [(0,.imm TRd 0),(1,.int .i64 1),(5,.ptr 0 0),(7,.int .i64 2),(8,.int .i64 3)],[inB 4])],nils:=[],outs:=[(.exit 2,sh 60 [(0,.imm TRd 0),(1,.int .i64 1),(5,.ptr 0 0),(7,.int .i64 2)],[inB 3]),(.ret,sh 60 [(6,.bool 0)],[])],cv:=[]}
def h3e:List Dat→Tree Step:=evL n3o 24 5 ls0 R_bo_5
theorem l3q: ∃op,IsL h3e 24 5 R_bo_5 op:=bxL i3c (LsOk.none _ _ _)
def l3a:OpA:=opL l3q
theorem i3g (env:List Dat):l3a env=a0b h3e FU env:=n3g l3q env
abbrev Bx_bo_5:MBox:=boxL l3q
theorem m3n {l0:List (Ty.den TRd)}{n1 n2 n3 n4 n5 n6:Int}{l7:List (Ty.den TCmd)}{n8 n9 n10:Int}{l11:List (Ty.den TCmd)}{b12:Bool}(g0:0≤n3)(g1:0≤n2)(g2:n2<(l0.length:Int))(h0:(n3<(↑(List.length l0):Int)))(h1:((Prod.fst (List.getD l0 (Int.toNat n2) (Ty.dflt TRd)):Int)=(0:Int)))(h2:((Prod.fst (List.getD l0 (Int.toNat n3) (Ty.dflt TRd)):Int)=(1:Int)))(h3:((Prod.fst (Prod.snd (List.getD l0 (Int.toNat n2) (Ty.dflt TRd))):Int)=n1))(h4:((Prod.fst (Prod.snd (List.getD l0 (Int.toNat n3) (Ty.dflt TRd))):Int)=n1))(h5:(g2y [.n (Prod.fst (Prod.snd (Prod.snd (List.getD l0 (Int.toNat n2) (Ty.dflt TRd))))),.n (Prod.fst (Prod.snd (Prod.snd (Prod.snd (List.getD l0 (Int.toNat n2) (Ty.dflt TRd)))))),.n (Prod.fst (Prod.snd (Prod.snd (Prod.snd (Prod.snd (List.getD l0 (Int.toNat n2) (Ty.dflt TRd))))))),.l TCmd (Prod.snd (Prod.snd (Prod.snd (Prod.snd (Prod.snd (List.getD l0 (Int.toNat n2) (Ty.dflt TRd))))))),.n (Prod.fst (Prod.snd (Prod.snd (List.getD l0 (Int.toNat n3) (Ty.dflt TRd))))),.n (Prod.fst (Prod.snd (Prod.snd (Prod.snd (List.getD l0 (Int.toNat n3) (Ty.dflt TRd)))))),.n (Prod.fst (Prod.snd (Prod.snd (Prod.snd (Prod.snd (List.getD l0 (Int.toNat n3) (Ty.dflt TRd))))))),.l TCmd (Prod.snd (Prod.snd (Prod.snd (Prod.snd (Prod.snd (List.getD l0 (Int.toNat n3) (Ty.dflt TRd)))))))])=(some (0,[.n n8,.n n9,.n n10,.l TCmd l11])))(h6:(h3h [.n n4,.n n5,.n n6,.l TCmd l7,.n n8,.n n9,.n n10,.l TCmd l11])=(some (0,[.b b12])))(h7:(b12=true)):(h3e [.k 0,.l TRd l0,.n n1,.n n2,.n n3,.n n4,.n n5,.n n6,.l TCmd l7]).sel=some (Step.stop 1 [.b true]):=sP [1]<|sT (dt h0)<|sTo (c:=(inR n2 (List.length l0)))<|sTo (c:=(inR n3 (List.length l0)))<|sP [1]<|sT (bt h1)<|sT (bt h2)<|sT (bt h3)<|sT (bt h4)<|sA h5<|sP [1,1]<|sA h6<|sP [1,1,1]<|sT h7<|sP [1]<|sL
theorem m3h {l0:List (Ty.den TRd)}{n1 n2 n3 n4 n5 n6:Int}{l7:List (Ty.den TCmd)}{n8 n9 n10:Int}{l11:List (Ty.den TCmd)}{b12:Bool}(g0:0≤n3)(g1:0≤n2)(g2:n2<(l0.length:Int))(h0:(n3<(↑(List.length l0):Int)))(h1:((Prod.fst (List.getD l0 (Int.toNat n2) (Ty.dflt TRd)):Int)=(0:Int)))(h2:((Prod.fst (List.getD l0 (Int.toNat n3) (Ty.dflt TRd)):Int)=(1:Int)))(h3:((Prod.fst (Prod.snd (List.getD l0 (Int.toNat n2) (Ty.dflt TRd))):Int)=n1))(h4:((Prod.fst (Prod.snd (List.getD l0 (Int.toNat n3) (Ty.dflt TRd))):Int)=n1))(h5:(g2y [.n (Prod.fst (Prod.snd (Prod.snd (List.getD l0 (Int.toNat n2) (Ty.dflt TRd))))),.n (Prod.fst (Prod.snd (Prod.snd (Prod.snd (List.getD l0 (Int.toNat n2) (Ty.dflt TRd)))))),.n (Prod.fst (Prod.snd (Prod.snd (Prod.snd (Prod.snd (List.getD l0 (Int.toNat n2) (Ty.dflt TRd))))))),.l TCmd (Prod.snd (Prod.snd (Prod.snd (Prod.snd (Prod.snd (List.getD l0 (Int.toNat n2) (Ty.dflt TRd))))))),.n (Prod.fst (Prod.snd (Prod.snd (List.getD l0 (Int.toNat n3) (Ty.dflt TRd))))),.n (Prod.fst (Prod.snd (Prod.snd (Prod.snd (List.getD l0 (Int.toNat n3) (Ty.dflt TRd)))))),.n (Prod.fst (Prod.snd (Prod.snd (Prod.snd (Prod.snd (List.getD l0 (Int.toNat n3) (Ty.dflt TRd))))))),.l TCmd (Prod.snd (Prod.snd (Prod.snd (Prod.snd (Prod.snd (List.getD l0 (Int.toNat n3) (Ty.dflt TRd)))))))])=(some (0,[.n n8,.n n9,.n n10,.l TCmd l11])))(h6:(h3h [.n n4,.n n5,.n n6,.l TCmd l7,.n n8,.n n9,.n n10,.l TCmd l11])=(some (0,[.b b12])))(h7:(b12=false)):(h3e [.k 0,.l TRd l0,.n n1,.n n2,.n n3,.n n4,.n n5,.n n6,.l TCmd l7]).sel=some (Step.go [.k 0,.l TRd l0,.n n1,.n n2,.n (IntKind.wrap .i64 (n3+(1:Int))),.n n4,.n n5,.n n6,.l TCmd l7]):=sP [1]<|sT (dt h0)<|sTo (c:=(inR n2 (List.length l0)))<|sTo (c:=(inR n3 (List.length l0)))<|sP [1]<|sT (bt h1)<|sT (bt h2)<|sT (bt h3)<|sT (bt h4)<|sA h5<|sP [1,1]<|sA h6<|sP [1,1,1]<|sF h7<|sP [1]<|sL
theorem m3o {l0:List (Ty.den TRd)}{n1 n2 n3 n4 n5 n6:Int}{l7:List (Ty.den TCmd)}(g0:0≤n3)(g1:0≤n2)(g2:n2<(l0.length:Int))(h0:(n3<(↑(List.length l0):Int)))(h1:((Prod.fst (List.getD l0 (Int.toNat n2) (Ty.dflt TRd)):Int)=(0:Int)))(h2:((Prod.fst (List.getD l0 (Int.toNat n3) (Ty.dflt TRd)):Int)=(1:Int)))(h3:((Prod.fst (Prod.snd (List.getD l0 (Int.toNat n2) (Ty.dflt TRd))):Int)=n1))(h4:(¬(Prod.fst (Prod.snd (List.getD l0 (Int.toNat n3) (Ty.dflt TRd))):Int)=n1)):(h3e [.k 0,.l TRd l0,.n n1,.n n2,.n n3,.n n4,.n n5,.n n6,.l TCmd l7]).sel=some (Step.go [.k 0,.l TRd l0,.n n1,.n n2,.n (IntKind.wrap .i64 (n3+(1:Int))),.n n4,.n n5,.n n6,.l TCmd l7]):=sP [1]<|sT (dt h0)<|sTo (c:=(inR n2 (List.length l0)))<|sTo (c:=(inR n3 (List.length l0)))<|sP [1]<|sT (bt h1)<|sT (bt h2)<|sT (bt h3)<|sF (bf h4)<|sP [0,1,0,1]<|sL
theorem m3a {l0:List (Ty.den TRd)}{n1 n2 n3 n4 n5 n6:Int}{l7:List (Ty.den TCmd)}(g0:0≤n3)(g1:0≤n2)(g2:n2<(l0.length:Int))(h0:(n3<(↑(List.length l0):Int)))(h1:((Prod.fst (List.getD l0 (Int.toNat n2) (Ty.dflt TRd)):Int)=(0:Int)))(h2:((Prod.fst (List.getD l0 (Int.toNat n3) (Ty.dflt TRd)):Int)=(1:Int)))(h3:(¬(Prod.fst (Prod.snd (List.getD l0 (Int.toNat n2) (Ty.dflt TRd))):Int)=n1)):(h3e [.k 0,.l TRd l0,.n n1,.n n2,.n n3,.n n4,.n n5,.n n6,.l TCmd l7]).sel=some (Step.go [.k 0,.l TRd l0,.n n1,.n n2,.n (IntKind.wrap .i64 (n3+(1:Int))),.n n4,.n n5,.n n6,.l TCmd l7]):=sP [1]<|sT (dt h0)<|sTo (c:=(inR n2 (List.length l0)))<|sTo (c:=(inR n3 (List.length l0)))<|sP [1]<|sT (bt h1)<|sT (bt h2)<|sF (bf h3)<|sP [0,0,0,1,0,1]<|sL
theorem m3g {l0:List (Ty.den TRd)}{n1 n2 n3 n4 n5 n6:Int}{l7:List (Ty.den TCmd)}(g0:0≤n3)(g1:0≤n2)(g2:n2<(l0.length:Int))(h0:(n3<(↑(List.length l0):Int)))(h1:((Prod.fst (List.getD l0 (Int.toNat n2) (Ty.dflt TRd)):Int)=(0:Int)))(h2:(¬(Prod.fst (List.getD l0 (Int.toNat n3) (Ty.dflt TRd)):Int)=(1:Int))):(h3e [.k 0,.l TRd l0,.n n1,.n n2,.n n3,.n n4,.n n5,.n n6,.l TCmd l7]).sel=some (Step.go [.k 0,.l TRd l0,.n n1,.n n2,.n (IntKind.wrap .i64 (n3+(1:Int))),.n n4,.n n5,.n n6,.l TCmd l7]):=sP [1]<|sT (dt h0)<|sTo (c:=(inR n2 (List.length l0)))<|sTo (c:=(inR n3 (List.length l0)))<|sP [1]<|sT (bt h1)<|sF (bf h2)<|sP [0,0,0,0,0,1,0,1]<|sL
theorem m3i {l0:List (Ty.den TRd)}{n1 n2 n3 n4 n5 n6:Int}{l7:List (Ty.den TCmd)}(g0:0≤n3)(g1:0≤n2)(g2:n2<(l0.length:Int))(h0:(n3<(↑(List.length l0):Int)))(h1:(¬(Prod.fst (List.getD l0 (Int.toNat n2) (Ty.dflt TRd)):Int)=(0:Int))):(h3e [.k 0,.l TRd l0,.n n1,.n n2,.n n3,.n n4,.n n5,.n n6,.l TCmd l7]).sel=some (Step.go [.k 0,.l TRd l0,.n n1,.n n2,.n (IntKind.wrap .i64 (n3+(1:Int))),.n n4,.n n5,.n n6,.l TCmd l7]):=sP [1]<|sT (dt h0)<|sTo (c:=(inR n2 (List.length l0)))<|sTo (c:=(inR n3 (List.length l0)))<|sP [1]<|sF (bf h1)<|sP [0,0,0,0,0,0,0,1,0,1]<|sL
theorem m3p {l0:List (Ty.den TRd)}{n1 n2 n3 n4 n5 n6:Int}{l7:List (Ty.den TCmd)}(g0:0≤n3)(g1:0≤n2)(g2:n2<(l0.length:Int))(h0:(¬n3<(↑(List.length l0):Int))):(h3e [.k 0,.l TRd l0,.n n1,.n n2,.n n3,.n n4,.n n5,.n n6,.l TCmd l7]).sel=some (Step.stop 0 [.l TRd l0,.n n1,.n n2,.n n4,.n n5,.n n6,.l TCmd l7]):=sP [1]<|sF (df h0)<|sP [1]<|sL
def R_bo_2:LSh:={K:=0,log:=[],ins:=[(sh 60 [(0,.imm TRd 0),(1,.int .i64 1),(5,.ptr 0 0),(7,.int .i64 2)],[inB 3])],nils:=[],outs:=[(.exit 0,sh 60 [],[]),(.ret,sh 60 [(6,.bool 0)],[])],cv:=[]}
def i3d:List Dat→Tree Step:=evL n3o 24 2 (lsM [(5,Bx_bo_5)] 0) R_bo_2
theorem l3w: ∃op,IsL i3d 24 2 R_bo_2 op:=bxL i3c (lsE (lsC (k3r l3q) (by kernel_rfl) lsZ))
def n3i:OpA:=opL l3w
theorem m3k (env:List Dat):n3i env=a0b i3d FU env:=n3g l3w env
abbrev Bx_bo_2:MBox:=boxL l3w
theorem m3r {l0:List (Ty.den TRd)}{n1 n2 n3 n4 n5:Int}{l6:List (Ty.den TCmd)}{l7:List (Ty.den TRd)}{n8 n9 n10 n11 n12:Int}{l13:List (Ty.den TCmd)}(g0:0≤n2)(h0:(n2<(↑(List.length l0):Int)))(h1:(l3a [.k 0,.l TRd l0,.n n1,.n n2,.n (0:Int),.n n3,.n n4,.n n5,.l TCmd l6])=(some (0,[.l TRd l7,.n n8,.n n9,.n n10,.n n11,.n n12,.l TCmd l13]))):(i3d [.k 0,.l TRd l0,.n n1,.n n2,.n n3,.n n4,.n n5,.l TCmd l6]).sel=some (Step.go [.k 0,.l TRd l7,.n n8,.n (IntKind.wrap .i64 (n9+(1:Int))),.n n10,.n n11,.n n12,.l TCmd l13]):=sP [1]<|sT (dt h0)<|sA h1<|sP [1,1]<|sL
theorem m3j {l0:List (Ty.den TRd)}{n1 n2 n3 n4 n5:Int}{l6:List (Ty.den TCmd)}{b7:Bool}(g0:0≤n2)(h0:(n2<(↑(List.length l0):Int)))(h1:(l3a [.k 0,.l TRd l0,.n n1,.n n2,.n (0:Int),.n n3,.n n4,.n n5,.l TCmd l6])=(some (1,[.b b7]))):(i3d [.k 0,.l TRd l0,.n n1,.n n2,.n n3,.n n4,.n n5,.l TCmd l6]).sel=some (Step.stop 1 [.b b7]):=sP [1]<|sT (dt h0)<|sA h1<|sP [0,1,1]<|sL
def S_bo:BSh:={args:=[.imm TRd 0,.int .i64 1,inV 2],blks:=[],log:=[],outs:=[(.bool 0,[])]}
def ev_bo:List Dat→Tree (Nat×List Dat):=evF n3o 24 (lsM [(2,Bx_bo_2)] 0) S_bo
theorem e_bo: ∃op,IsF ev_bo 24 S_bo op:=bxF i3c (lsE (lsC (k3r l3w) (atF) lsZ))
def h3c:OpA:=opF e_bo
theorem o3b {l0:List (Ty.den TRd)}{n1 n2 n3 n4:Int}{l5:List (Ty.den TCmd)}{b6:Bool}(h0:(n3i [.k 0,.l TRd l0,.n n1,.n (0:Int),.n n2,.n n3,.n n4,.l TCmd l5])=(some (1,[.b b6]))):h3c [.l TRd l0,.n n1,.n n2,.n n3,.n n4,.l TCmd l5]=some ((0,[.b b6])):=t2c e_bo (sA h0<|sP [0,1,1]<|sL)
def cs_bo:FuncId→Option a0q:=a0s 24 (S_bo.k h3c) n3o
theorem l3o:CsOk Try.prog cs_bo:=csL1 i3c e_bo
theorem h3u {α:Type}{l:List α}{n:Nat}{d:α}(h:n<l.length):l.take (n+1)=l.take n++[l.getD n d]:=by
 rw[List.take_succ_eq_append_getElem h,List.getD_eq_getElem?_getD,List.getElem?_eq_getElem h];rfl
theorem eq2 {a b c d:Int}(h:(a==c&&(b==d&&true))=true):a=c∧b=d:=by simpa using h
theorem eq2s {a b:Int}:(a==a&&(b==b&&true))=true:=by simp
theorem n3u {a b:Ty}{x y:Ty.den (.pair a b)}(h:(Prod.fst x:a.den)=Prod.fst y)(k:(Prod.snd x:b.den)=Prod.snd y):x=y:=Prod.ext h k
theorem t60L (a b:List (Ty.den TCmd))(hl:a.length=b.length)(hb:a.length≤9223372036854775807): ∃k d,a0b h3j FU [.l TCmd b,.l TCmd a,.n a.length,.n 0]=some (k,d)∧((k=0∧d=[]∧a=b)∨(k=1∧d=[.b false]∧a≠b)):=by
 refine i3n (st:=h3j) (fun env=> ∃i:Int,env=[.l TCmd b,.l TCmd a,.n a.length,.n i]∧0≤i∧i≤a.length∧a.take i.toNat=b.take i.toNat) (fun env=>(a.length-gn env 3).toNat) (fun k d=>(k=0∧d=[]∧a=b)∨(k=1∧d=[.b false]∧a≠b)) ?_ FU _ ⟨0,rfl,by omega,by omega,rfl⟩ (by show((a.length:Int)-0).toNat<FU;unfold FU;omega)
 rintro env ⟨i,rfl,h0,h1,h2⟩
 by_cases hlt:i<(a.length:Int)
 ·have w1:IntKind.wrap .i64 (i+1)=i+1:=w64 (by omega) (by omega)
  have hn:(i+1).toNat=i.toNat+1:=by omega
  cases hE:(Prod.fst (List.getD b (Int.toNat i) (Ty.dflt (Ty.pair (Ty.int IntKind.u8) (Ty.int IntKind.i64))))==Prod.fst (List.getD a (Int.toNat i) (Ty.dflt (Ty.pair (Ty.int IntKind.u8) (Ty.int IntKind.i64))))&&(Prod.snd (List.getD b (Int.toNat i) (Ty.dflt (Ty.pair (Ty.int IntKind.u8) (Ty.int IntKind.i64))))==Prod.snd (List.getD a (Int.toNat i) (Ty.dflt (Ty.pair (Ty.int IntKind.u8) (Ty.int IntKind.i64))))&&true))with
  |true=>
   have he:List.getD b (Int.toNat i) (Ty.dflt (Ty.pair (Ty.int IntKind.u8) (Ty.int IntKind.i64)))=List.getD a (Int.toNat i) (Ty.dflt (Ty.pair (Ty.int IntKind.u8) (Ty.int IntKind.i64))):=n3u (eq2 hE).1 (eq2 hE).2
   refine .inl ⟨_,(selT (dt hlt)).trans ((selT (h1s h0 (by omega))).trans ((selT (h1s h0 (by omega))).trans (selF (nt hE)))),⟨IntKind.wrap .i64 (i+1),rfl,by omega,by omega,?_⟩,?_⟩
   ·rw[w1,hn,h3u (d:=(Ty.dflt (Ty.pair (Ty.int IntKind.u8) (Ty.int IntKind.i64)))) (by omega),h3u (d:=(Ty.dflt (Ty.pair (Ty.int IntKind.u8) (Ty.int IntKind.i64)))) (by omega),h2]
    first|rw[he]|rw[←he]
   ·show((a.length:Int)-IntKind.wrap .i64 (i+1)).toNat<((a.length:Int)-i).toNat
    rw[w1];omega
  |false=>
   refine .inr ⟨1,[.b false],(selT (dt hlt)).trans ((selT (h1s h0 (by omega))).trans ((selT (h1s h0 (by omega))).trans (selT (nf hE)))),.inr ⟨rfl,rfl,?_⟩⟩
   rintro rfl
   exact absurd (eq2s.symm.trans hE) (by simp)
 ·refine .inr ⟨0,[],selF (df hlt),.inl ⟨rfl,rfl,?_⟩⟩
  have e:i.toNat=a.length:=by omega
  rw[e,List.take_length,hl,List.take_length]at h2
  exact h2
theorem t61L (a b:List (Ty.den TCmd))(hl:a.length=b.length)(hb:a.length≤9223372036854775807): ∃k d,a0b h3k FU [.l TCmd a,.l TCmd b,.n 0]=some (k,d)∧((k=0∧d=[]∧a=b)∨(k=1∧d=[.b false]∧a≠b)):=by
 refine i3n (st:=h3k) (fun env=> ∃i:Int,env=[.l TCmd a,.l TCmd b,.n i]∧0≤i∧i≤a.length∧a.take i.toNat=b.take i.toNat) (fun env=>(a.length-gn env 2).toNat) (fun k d=>(k=0∧d=[]∧a=b)∨(k=1∧d=[.b false]∧a≠b)) ?_ FU _ ⟨0,rfl,by omega,by omega,rfl⟩ (by show((a.length:Int)-0).toNat<FU;unfold FU;omega)
 rintro env ⟨i,rfl,h0,h1,h2⟩
 by_cases hlt:i<(a.length:Int)
 ·have w1:IntKind.wrap .i64 (i+1)=i+1:=w64 (by omega) (by omega)
  have hn:(i+1).toNat=i.toNat+1:=by omega
  cases hE:(Prod.fst (List.getD a (Int.toNat i) (Ty.dflt (Ty.pair (Ty.int IntKind.u8) (Ty.int IntKind.i64))))==Prod.fst (List.getD b (Int.toNat i) (Ty.dflt (Ty.pair (Ty.int IntKind.u8) (Ty.int IntKind.i64))))&&(Prod.snd (List.getD a (Int.toNat i) (Ty.dflt (Ty.pair (Ty.int IntKind.u8) (Ty.int IntKind.i64))))==Prod.snd (List.getD b (Int.toNat i) (Ty.dflt (Ty.pair (Ty.int IntKind.u8) (Ty.int IntKind.i64))))&&true))with
  |true=>
   have he:List.getD a (Int.toNat i) (Ty.dflt (Ty.pair (Ty.int IntKind.u8) (Ty.int IntKind.i64)))=List.getD b (Int.toNat i) (Ty.dflt (Ty.pair (Ty.int IntKind.u8) (Ty.int IntKind.i64))):=n3u (eq2 hE).1 (eq2 hE).2
   refine .inl ⟨_,(selT (dt hlt)).trans ((selT (h1s h0 (by omega))).trans ((selT (h1s h0 (by omega))).trans (selF (nt hE)))),⟨IntKind.wrap .i64 (i+1),rfl,by omega,by omega,?_⟩,?_⟩
   ·rw[w1,hn,h3u (d:=(Ty.dflt (Ty.pair (Ty.int IntKind.u8) (Ty.int IntKind.i64)))) (by omega),h3u (d:=(Ty.dflt (Ty.pair (Ty.int IntKind.u8) (Ty.int IntKind.i64)))) (by omega),h2]
    first|rw[he]|rw[←he]
   ·show((a.length:Int)-IntKind.wrap .i64 (i+1)).toNat<((a.length:Int)-i).toNat
    rw[w1];omega
  |false=>
   refine .inr ⟨1,[.b false],(selT (dt hlt)).trans ((selT (h1s h0 (by omega))).trans ((selT (h1s h0 (by omega))).trans (selT (nf hE)))),.inr ⟨rfl,rfl,?_⟩⟩
   rintro rfl
   exact absurd (eq2s.symm.trans hE) (by simp)
 ·refine .inr ⟨0,[],selF (df hlt),.inl ⟨rfl,rfl,?_⟩⟩
  have e:i.toNat=a.length:=by omega
  rw[e,List.take_length,hl,List.take_length]at h2
  exact h2
theorem t60 (a b:List (Ty.den TCmd))(hb:a.length≤9223372036854775807): ∃r:Bool,j2c [.l TCmd a,.l TCmd b]=some (0,[.b r])∧(r=true↔a=b):=by
 by_cases hl:a.length=b.length
 ·have h1:((a.length:Int) !=(b.length:Int))=false:=by simp[hl]
  obtain⟨k,d,e,h⟩:=t60L a b hl hb
  rcases h with⟨rfl,rfl,h⟩|⟨rfl,rfl,h⟩
  ·exact⟨true,(selF h1).trans (selT (congrArg (isK 0 []) e)),by simp[h]⟩
  ·refine⟨false,(selF h1).trans ((selF (congrArg (isK 0 []) e)).trans ((selT (congrArg (isK 1 [HK.b]) e)).trans ?_)),by simp[h]⟩
   exact congrArg (fun r=>some (0,[Dat.b (gb (dOf r) 0)])) e
 ·have h1:((a.length:Int) !=(b.length:Int))=true:=by simpa using fun h=>hl (by omega)
  exact⟨false,selT h1,by simp;rintro rfl;exact hl rfl⟩
theorem t61 (a b:List (Ty.den TCmd))(hb:a.length≤9223372036854775807): ∃r:Bool,k3y [.l TCmd a,.l TCmd b]=some (0,[.b r])∧(r=true↔a=b):=by
 by_cases hl:a.length=b.length
 ·have h1:((a.length:Int) !=(b.length:Int))=false:=by simp[hl]
  obtain⟨k,d,e,h⟩:=t61L a b hl hb
  rcases h with⟨rfl,rfl,h⟩|⟨rfl,rfl,h⟩
  ·exact⟨true,(selF h1).trans (selT (congrArg (isK 0 []) e)),by simp[h]⟩
  ·refine⟨false,(selF h1).trans ((selF (congrArg (isK 0 []) e)).trans ((selT (congrArg (isK 1 [HK.b]) e)).trans ?_)),by simp[h]⟩
   exact congrArg (fun r=>some (0,[Dat.b (gb (dOf r) 0)])) e
 ·have h1:((a.length:Int) !=(b.length:Int))=true:=by simpa using fun h=>hl (by omega)
  exact⟨false,selT h1,by simp;rintro rfl;exact hl rfl⟩
theorem t29 (n0 n1 n2 n4 n5 n6:Int)(a b:List (Ty.den TCmd))(hb:a.length≤9223372036854775807): ∃r:Bool,q1j [.n n0,.n n1,.n n2,.l TCmd a,.n n4,.n n5,.n n6,.l TCmd b]=some (0,[.b r])∧(r=true↔n0=n4∧n1=n5∧n2=n6∧a=b):=by
 by_cases h0:n0=n4
 ·by_cases h1:n1=n5
  ·by_cases h2:n2=n6
   ·obtain⟨r,e,h⟩:=t60 a b hb
    refine⟨r,(selT (bt h0)).trans ((selT (bt h1)).trans ((selT (bt h2)).trans ((selT (congrArg (isK 0 [HK.b]) e)).trans ?_))),by simp[h0,h1,h2,h]⟩
    exact congrArg (fun r=>some (0,[Dat.b (gb (dOf r) 0)])) e
   ·exact⟨false,(selT (bt h0)).trans ((selT (bt h1)).trans (selF (bf h2))),by simp[h2]⟩
  ·exact⟨false,(selT (bt h0)).trans (selF (bf h1)),by simp[h1]⟩
 ·exact⟨false,selF (bf h0),by simp[h0]⟩
theorem t30 (n0 n1 n2 n4 n5 n6:Int)(a b:List (Ty.den TCmd))(hb:a.length≤9223372036854775807): ∃r:Bool,h3h [.n n0,.n n1,.n n2,.l TCmd a,.n n4,.n n5,.n n6,.l TCmd b]=some (0,[.b r])∧(r=true↔n0=n4∧n1=n5∧n2=n6∧a=b):=by
 by_cases h0:n0=n4
 ·by_cases h1:n1=n5
  ·by_cases h2:n2=n6
   ·obtain⟨r,e,h⟩:=t61 a b hb
    refine⟨r,(selT (bt h0)).trans ((selT (bt h1)).trans ((selT (bt h2)).trans ((selT (congrArg (isK 0 [HK.b]) e)).trans ?_))),by simp[h0,h1,h2,h]⟩
    exact congrArg (fun r=>some (0,[Dat.b (gb (dOf r) 0)])) e
   ·exact⟨false,(selT (bt h0)).trans ((selT (bt h1)).trans (selF (bf h2))),by simp[h2]⟩
  ·exact⟨false,(selT (bt h0)).trans (selF (bf h1)),by simp[h1]⟩
 ·exact⟨false,selF (bf h0),by simp[h0]⟩
abbrev LC:=List (Ty.den TCmd)
def eqc (a b:LC):Bool:= @decide (a=b) (Classical.propDecidable _)
theorem i3i (a b:LC):eqc a b=true↔a=b:=by unfold eqc;simp
theorem u60 (a b:LC)(hb:a.length≤9223372036854775807):j2c [.l TCmd a,.l TCmd b]=some (0,[.b (eqc a b)]):=by
 obtain⟨r,e,h⟩:=t60 a b hb
 have:r=eqc a b:=by rw[Bool.eq_iff_iff,h,i3i]
 rw[←this];exact e
theorem u61 (a b:LC)(hb:a.length≤9223372036854775807):k3y [.l TCmd a,.l TCmd b]=some (0,[.b (eqc a b)]):=by
 obtain⟨r,e,h⟩:=t61 a b hb
 have:r=eqc a b:=by rw[Bool.eq_iff_iff,h,i3i]
 rw[←this];exact e
def mg (a b:LC):LC:=bif eqc a b then a else[]
theorem n3b (a b:LC):(mg a b).length≤a.length:=by unfold mg;cases eqc a b<;>simp
theorem u31 (n0 n1 n2 n4 n5 n6:Int)(a b:LC)(ha:a.length≤100):i2m [.n n0,.n n1,.n n2,.l TCmd a,.n n4,.n n5,.n n6,.l TCmd b]=some (0,[.n (ior .u64 n0 n4),.n (iand .u32 n1 n5),.n (iand .u32 n2 n6),.l TCmd (mg a b)]):=by
 show(n3p [.n n0,.n n1,.n n2,.l TCmd a,.n n4,.n n5,.n n6,.l TCmd b]).sel=_
 have e1:=u60 a b (by omega)
 have e2:=l3k a (by omega)
 refine(selT (congrArg (isK 0 [HK.b]) e1)).trans ?_
 unfold mg
 cases h:eqc a b with
 |true=>
  rw[h]at e1
  refine(selT (congrArg (fun r=>gb (dOf r) 0) e1)).trans ((selT (congrArg (isK 0 [HK.l TCmd]) e2)).trans ?_)
  exact congrArg (fun r=>some (0,[Dat.n (ior .u64 n0 n4),.n (iand .u32 n1 n5),.n (iand .u32 n2 n6),.l TCmd (gl TCmd (dOf r) 0)])) e2
 |false=>
  rw[h]at e1
  exact selF (congrArg (fun r=>gb (dOf r) 0) e1)
theorem u32_ (n0 n1 n2 n4 n5 n6:Int)(a b:LC)(ha:a.length≤100):g2y [.n n0,.n n1,.n n2,.l TCmd a,.n n4,.n n5,.n n6,.l TCmd b]=some (0,[.n (ior .u64 n0 n4),.n (iand .u32 n1 n5),.n (iand .u32 n2 n6),.l TCmd (mg a b)]):=by
 show(m3w [.n n0,.n n1,.n n2,.l TCmd a,.n n4,.n n5,.n n6,.l TCmd b]).sel=_
 have e1:=u61 a b (by omega)
 refine(selT (congrArg (isK 0 [HK.b]) e1)).trans ?_
 unfold mg
 cases h:eqc a b with
 |true=>
  rw[h]at e1
  exact(selT (congrArg (fun r=>gb (dOf r) 0) e1)).trans (selT (dt (by omega)))
 |false=>
  rw[h]at e1
  exact selF (congrArg (fun r=>gb (dOf r) 0) e1)
theorem u30 (n0 n1 n2:Int)(a:LC)(ha:a.length≤100):h3h [.n n0,.n n1,.n n2,.l TCmd a,.n n0,.n n1,.n n2,.l TCmd a]=some (0,[.b true]):=by
 obtain⟨r,e,h⟩:=t30 n0 n1 n2 n0 n1 n2 a a (by omega)
 have:r=true:=h.2 ⟨rfl,rfl,rfl,rfl⟩
 rw[this]at e;exact e
end Go.Proofs.Ytcoamiaifbjofaa.Vx
end
