import Derived.Test.YtlambinleegdoaaZ06j
import Derived.Test.YtlambinleegdoaaProg
import Derived.KernelRfl
import Derived.Test.YtlambinleegdoaaVxBits
noncomputable section
namespace Go.Proofs.Ytlambinleegdoaa.Vx
open Go Go.RowKit
set_option linter.unusedVariables false
set_option linter.unusedSimpArgs false
set_option maxRecDepth 100000
set_option maxHeartbeats 0
abbrev TB:Ty:=.int .u8
abbrev TN:Ty:=.int .u32
theorem hmix:Try.prog.follows .mixedOrders=true:=by kernel_rfl
theorem v0d:CsOk Try.prog h0b:=d1h _
def f4l:List Dat→Tree (Nat×List Dat)
 |[.n n0]=>
  (.node (iand IntKind.u32 n0 (1:Int)==(0:Int))
   (.leaf ((0,[.n (ishr IntKind.u32 n0 (1:Int))])))
   (.leaf ((0,[.n (ixor IntKind.u32 (ishr IntKind.u32 n0 (1:Int)) (3988292384:Int))]))))
 |_=>.bad 0
def f2v:List Dat→Option (Nat×List Dat):=fun env=>(f4l env).sel
def B19:FBox:=(mkF [.int .u32 0] [] [] [(.int .u32 0,[])] f2v)
def r1o:FuncId→Option a0q:=a0s 98 B19 h0b
theorem n4o (n0:Int):(boxC false Try.prog h0b 98 ls0 (mkF [.int .u32 0] [] [] [(.int .u32 0,[])] fun _=>none) [.n n0]).sel=(f4l [.n n0]).sel:=by kernel_rfl
theorem m4q (env:List Dat)(y:Nat×List Dat)(h:(f4l env).sel=some y):(boxC false Try.prog h0b 98 ls0 (mkF [.int .u32 0] [] [] [(.int .u32 0,[])] fun _=>none) env).sel=some y:=by
 unfold f4l at h
 split at h
 ·rw[n4o];exact h
 ·cases h
theorem B19_ok:a0v Try.prog 98 (a0j B19):=a0p (op:=f2v) v0d hmix false (LsOk.none _ _ _) m4q
theorem m0z:CsOk Try.prog r1o:=a0g v0d B19_ok
def j3l:List Dat→Tree Step
 |[.n n0,.l (Ty.int IntKind.u8) l1,.n n2,.n n3]=>
  (.node (decide (n3<n2))
   (.node (inR n3 (List.length l1))
   (let r1:Option (Nat×List Dat):=(f2v [.n (ixor IntKind.u32 n0 (IntKind.wrap .u32 (List.getD l1 (Int.toNat n3) (0:Int))))]);
    (.node (isK 0 [HK.n] r1)
    (let r2:Option (Nat×List Dat):=(f2v [.n (gn (dOf r1) 0)]);
     (.node (isK 0 [HK.n] r2)
     (let r3:Option (Nat×List Dat):=(f2v [.n (gn (dOf r2) 0)]);
      (.node (isK 0 [HK.n] r3)
      (let r4:Option (Nat×List Dat):=(f2v [.n (gn (dOf r3) 0)]);
       (.node (isK 0 [HK.n] r4)
       (let r5:Option (Nat×List Dat):=(f2v [.n (gn (dOf r4) 0)]);
        (.node (isK 0 [HK.n] r5)
        (let r6:Option (Nat×List Dat):=(f2v [.n (gn (dOf r5) 0)]);
         (.node (isK 0 [HK.n] r6)
         (let r7:Option (Nat×List Dat):=(f2v [.n (gn (dOf r6) 0)]);
          (.node (isK 0 [HK.n] r7)
          (let r8:Option (Nat×List Dat):=(f2v [.n (gn (dOf r7) 0)]);
           (.node (isK 0 [HK.n] r8)
           (.leaf (Step.go [.n (gn (dOf r8) 0),.l (Ty.int IntKind.u8) l1,.n n2,.n (IntKind.wrap .i64 (n3+(1:Int)))]))
           (.bad 351)))
          (.bad 351)))
         (.bad 351)))
        (.bad 351)))
       (.bad 351)))
      (.bad 351)))
     (.bad 351)))
    (.bad 351)))
   (.bad 10))
   (.leaf (Step.stop 0 [.n n0])))
 |_=>.bad 0
def o3p:List Dat→Option (Nat×List Dat):=a0b j3l FU
def L12_3:LBox:=(mkL 0 [] (sh 20 [(3,.int .u32 0),(6,.imm TB 1),(7,.int .i64 2),(8,.int .i64 3)]) [] [] [(.exit 0,sh 20 [(3,.int .u32 0)],[])] o3p)
theorem z3s (n0:Int)(l1:List (Ty.den (Ty.int IntKind.u8)))(n2:Int)(n3:Int):(i4l false Try.prog r1o 86 3 ls0 (mkL 0 [] (sh 20 [(3,.int .u32 0),(6,.imm TB 1),(7,.int .i64 2),(8,.int .i64 3)]) [] [] [(.exit 0,sh 20 [(3,.int .u32 0)],[])] fun _=>none) [.n n0,.l (Ty.int IntKind.u8) l1,.n n2,.n n3]).sel=(j3l [.n n0,.l (Ty.int IntKind.u8) l1,.n n2,.n n3]).sel:=by kernel_rfl
theorem a4g (env:List Dat)(y:Step)(h:(j3l env).sel=some y):(i4l false Try.prog r1o 86 3 ls0 (mkL 0 [] (sh 20 [(3,.int .u32 0),(6,.imm TB 1),(7,.int .i64 2),(8,.int .i64 3)]) [] [] [(.exit 0,sh 20 [(3,.int .u32 0)],[])] fun _=>none) env).sel=some y:=by
 unfold j3l at h
 split at h
 ·rw[z3s];exact h
 ·cases h
theorem n4c (K:Nat):LsOk Try.prog K (s3i [(3,L12_3)] K) (a0r Try.prog 86):=mkL_ok (st:=j3l) (m:=FU) m0z hmix false (by kernel_rfl) (by kernel_rfl) a4g
def f4a:List Dat→Tree (Nat×List Dat)
 |[.l (Ty.int IntKind.u8) l0]=>
  (let r1:Option (Nat×List Dat):=(o3p [.n (4294967295:Int),.l (Ty.int IntKind.u8) l0,.n (↑(List.length l0):Int),.n (0:Int)]);
   (.node (isK 0 [HK.n] r1)
   (.leaf ((0,[.n (ixor IntKind.u32 (4294967295:Int) (gn (dOf r1) 0))])))
   (.bad 351)))
 |_=>.bad 0
def i1r:List Dat→Option (Nat×List Dat):=fun env=>(f4a env).sel
def B12:FBox:=(mkF [.imm TB 0] [] [] [(.int .u32 0,[])] i1r)
def b2p:FuncId→Option a0q:=a0s 86 B12 r1o
theorem o4c (l0:List (Ty.den (Ty.int IntKind.u8))):(boxC false Try.prog r1o 86 (s3i [(3,L12_3)] (List.length ([]:List PB))) (mkF [.imm TB 0] [] [] [(.int .u32 0,[])] fun _=>none) [.l (Ty.int IntKind.u8) l0]).sel=(f4a [.l (Ty.int IntKind.u8) l0]).sel:=by kernel_rfl
theorem n4w (env:List Dat)(y:Nat×List Dat)(h:(f4a env).sel=some y):(boxC false Try.prog r1o 86 (s3i [(3,L12_3)] (List.length ([]:List PB))) (mkF [.imm TB 0] [] [] [(.int .u32 0,[])] fun _=>none) env).sel=some y:=by
 unfold f4a at h
 split at h
 ·rw[o4c];exact h
 ·cases h
theorem B12_ok:a0v Try.prog 86 (a0j B12):=a0p (op:=i1r) m0z hmix false (n4c _) n4w
theorem t0q:CsOk Try.prog b2p:=a0g m0z B12_ok
def j3a:List Dat→Tree Step
 |[.n n0,.l (Ty.int IntKind.u8) l1,.n n2,.n n3,.n n4,.l (Ty.int IntKind.u32) l5]=>
  (.node (decide (n4<(8:Int)))
   (.node (!decide (n4<(0:Int)))
   (.node (iand IntKind.u8 (ishr IntKind.u8 n3 n4) (1:Int)==(1:Int))
    (.node (inR n4 (List.length l5))
    (.leaf (Step.go [.k 0,.n (ixor IntKind.u32 n0 (List.getD l5 (Int.toNat n4) (0:Int))),.l (Ty.int IntKind.u8) l1,.n n2,.n n3,.n (IntKind.wrap .i64 (n4+(1:Int))),.l (Ty.int IntKind.u32) l5]))
    (.bad 12))
    (.leaf (Step.go [.k 0,.n n0,.l (Ty.int IntKind.u8) l1,.n n2,.n n3,.n (IntKind.wrap .i64 (n4+(1:Int))),.l (Ty.int IntKind.u32) l5])))
   (.bad 83))
   (.leaf (Step.stop 0 [.n n0,.l (Ty.int IntKind.u8) l1,.n n2,.l (Ty.int IntKind.u32) l5])))
 |_=>.bad 0
def j3w:List Dat→Tree Step
 |.k 0::d=>j3a d
 |_=>.bad 0
def o3e:List Dat→Option (Nat×List Dat):=a0b j3w FU
def l4i:MBox:=(mkM 0 [] [(sh 41 [(0,.int .u32 0),(1,.imm TB 1),(5,.own 0),(6,.int .i64 2),(7,.int .u8 3),(8,.int .i64 4)],[.arr TN 5])] [] [(.exit 2,sh 41 [(0,.int .u32 0),(1,.imm TB 1),(5,.own 0),(6,.int .i64 2)],[.arr TN 3])] o3e)
theorem r3u (n0:Int)(l1:List (Ty.den (Ty.int IntKind.u8)))(n2:Int)(n3:Int)(n4:Int)(l5:List (Ty.den (Ty.int IntKind.u32))):((fun(d:List Dat)=>stepMC false Try.prog b2p 91 8 ls0 (mkM 0 [] [(sh 41 [(0,.int .u32 0),(1,.imm TB 1),(5,.own 0),(6,.int .i64 2),(7,.int .u8 3),(8,.int .i64 4)],[.arr TN 5])] [] [(.exit 2,sh 41 [(0,.int .u32 0),(1,.imm TB 1),(5,.own 0),(6,.int .i64 2)],[.arr TN 3])] fun _=>none) (.k 0::d)) [.n n0,.l (Ty.int IntKind.u8) l1,.n n2,.n n3,.n n4,.l (Ty.int IntKind.u32) l5]).sel=(j3a [.n n0,.l (Ty.int IntKind.u8) l1,.n n2,.n n3,.n n4,.l (Ty.int IntKind.u32) l5]).sel:=by kernel_rfl
theorem r3z (env:List Dat)(y:Step)(h:(j3a env).sel=some y):((fun(d:List Dat)=>stepMC false Try.prog b2p 91 8 ls0 (mkM 0 [] [(sh 41 [(0,.int .u32 0),(1,.imm TB 1),(5,.own 0),(6,.int .i64 2),(7,.int .u8 3),(8,.int .i64 4)],[.arr TN 5])] [] [(.exit 2,sh 41 [(0,.int .u32 0),(1,.imm TB 1),(5,.own 0),(6,.int .i64 2)],[.arr TN 3])] fun _=>none) (.k 0::d)) env).sel=some y:=by
 unfold j3a at h
 split at h
 ·rw[r3u];exact h
 ·cases h
theorem b4f (env:List Dat)(y:Step)(h:(j3w env).sel=some y):(stepMC false Try.prog b2p 91 8 ls0 (mkM 0 [] [(sh 41 [(0,.int .u32 0),(1,.imm TB 1),(5,.own 0),(6,.int .i64 2),(7,.int .u8 3),(8,.int .i64 4)],[.arr TN 5])] [] [(.exit 2,sh 41 [(0,.int .u32 0),(1,.imm TB 1),(5,.own 0),(6,.int .i64 2)],[.arr TN 3])] fun _=>none) env).sel=some y:=by
 unfold j3w at h
 split at h
 ·exact r3z _ _ h
 ·cases h
theorem j4e: ∀t s x,(a0h l4i t s).sel=some x→a0k Try.prog 0 (.loop (cAt Try.prog 91 8)) t s x:=a0o (st:=j3w) (m:=FU) t0q hmix false (LsOk.none _ _ _) (by kernel_rfl) b4f
def j3b:List Dat→Tree Step
 |[.n n0,.l (Ty.int IntKind.u8) l1,.n n2,.l (Ty.int IntKind.u32) l3]=>
  (.node (decide (n2<(↑(List.length l1):Int)))
   (.node (inR n2 (List.length l1))
   (let r1:Option (Nat×List Dat):=(o3e [.k 0,.n (ishr IntKind.u32 n0 (8:Int)),.l (Ty.int IntKind.u8) l1,.n n2,.n (ixor IntKind.u8 (IntKind.wrap .u8 n0) (List.getD l1 (Int.toNat n2) (0:Int))),.n (0:Int),.l (Ty.int IntKind.u32) l3]);
    (.node (isK 0 [HK.n,HK.l (Ty.int IntKind.u8),HK.n,HK.l (Ty.int IntKind.u32)] r1)
    (.leaf (Step.go [.k 0,.n (gn (dOf r1) 0),.l (Ty.int IntKind.u8) (gl (Ty.int IntKind.u8) (dOf r1) 1),.n (IntKind.wrap .i64 (gn (dOf r1) 2+(1:Int))),.l (Ty.int IntKind.u32) (gl (Ty.int IntKind.u32) (dOf r1) 3)]))
    (.bad 351)))
   (.bad 10))
   (.leaf (Step.stop 0 [.n n0])))
 |_=>.bad 0
def j3u:List Dat→Tree Step
 |.k 0::d=>j3b d
 |_=>.bad 0
def s3s:List Dat→Option (Nat×List Dat):=a0b j3u FU
def o4e:MBox:=(mkM 0 [] [(sh 41 [(0,.int .u32 0),(1,.imm TB 1),(5,.own 0),(6,.int .i64 2)],[.arr TN 3])] [] [(.exit 0,sh 41 [(0,.int .u32 0)],[])] s3s)
theorem s3c (n0:Int)(l1:List (Ty.den (Ty.int IntKind.u8)))(n2:Int)(l3:List (Ty.den (Ty.int IntKind.u32))):((fun(d:List Dat)=>stepMC false Try.prog b2p 91 3 (lsM [(8,l4i)] 0) (mkM 0 [] [(sh 41 [(0,.int .u32 0),(1,.imm TB 1),(5,.own 0),(6,.int .i64 2)],[.arr TN 3])] [] [(.exit 0,sh 41 [(0,.int .u32 0)],[])] fun _=>none) (.k 0::d)) [.n n0,.l (Ty.int IntKind.u8) l1,.n n2,.l (Ty.int IntKind.u32) l3]).sel=(j3b [.n n0,.l (Ty.int IntKind.u8) l1,.n n2,.l (Ty.int IntKind.u32) l3]).sel:=by kernel_rfl
theorem r3t (env:List Dat)(y:Step)(h:(j3b env).sel=some y):((fun(d:List Dat)=>stepMC false Try.prog b2p 91 3 (lsM [(8,l4i)] 0) (mkM 0 [] [(sh 41 [(0,.int .u32 0),(1,.imm TB 1),(5,.own 0),(6,.int .i64 2)],[.arr TN 3])] [] [(.exit 0,sh 41 [(0,.int .u32 0)],[])] fun _=>none) (.k 0::d)) env).sel=some y:=by
 unfold j3b at h
 split at h
 ·rw[s3c];exact h
 ·cases h
theorem b4g (env:List Dat)(y:Step)(h:(j3u env).sel=some y):(stepMC false Try.prog b2p 91 3 (lsM [(8,l4i)] 0) (mkM 0 [] [(sh 41 [(0,.int .u32 0),(1,.imm TB 1),(5,.own 0),(6,.int .i64 2)],[.arr TN 3])] [] [(.exit 0,sh 41 [(0,.int .u32 0)],[])] fun _=>none) env).sel=some y:=by
 unfold j3u at h
 split at h
 ·exact r3t _ _ h
 ·cases h
theorem n4j:LsOk Try.prog 0 (lsM [(8,l4i)] 0) (cAt Try.prog 91 3):=LsOk.many fun j B hB hk c hc hi=>by
 simp only[b0d]at hB
 split at hB
 ·rename_i e;have:=Nat.eq_of_beq_eq_true e;subst this;cases hB
  have e1:v0m (cAt Try.prog 91 3) 8=[cAt Try.prog 91 8]:=by kernel_rfl
  have e2:=a0d hc hi
  rw[e1]at e2;cases List.mem_singleton.1 e2;exact j4e
 cases hB
theorem k4r: ∀t s x,(a0h o4e t s).sel=some x→a0k Try.prog 0 (.loop (cAt Try.prog 91 3)) t s x:=a0o (st:=j3u) (m:=FU) t0q hmix false (n4j) (by kernel_rfl) b4g
theorem m4x:LsOk Try.prog (List.length ([]:List PB)) (lsM [(3,o4e)] (List.length ([]:List PB))) (a0r Try.prog 91):=LsOk.many fun j B hB hk c hc hi=>by
 simp only[b0d]at hB
 split at hB
 ·rename_i e;have:=Nat.eq_of_beq_eq_true e;subst this;cases hB
  have e1:p0c Try.prog 91 3=[cAt Try.prog 91 3]:=a0e (by kernel_rfl)
  have e2:c∈p0c Try.prog 91 3:=a0d hc hi
  rw[e1]at e2;cases List.mem_singleton.1 e2;exact k4r
 cases hB
def h4a:List Dat→Tree (Nat×List Dat)
 |[.n n0,.l (Ty.int IntKind.u8) l1]=>
  (let r1:Option (Nat×List Dat):=(s3s [.k 0,.n n0,.l (Ty.int IntKind.u8) l1,.n (0:Int),.l (Ty.int IntKind.u32) [(1996959894:Int),(3993919788:Int),(124634137:Int),(249268274:Int),(498536548:Int),(997073096:Int),(1994146192:Int),(3988292384:Int)]]);
   (.node (isK 0 [HK.n] r1)
   (.leaf ((0,[.n (gn (dOf r1) 0)])))
   (.bad 351)))
 |_=>.bad 0
def g4j:List Dat→Option (Nat×List Dat):=fun env=>(h4a env).sel
def B20:FBox:=(mkF [.int .u32 0,.imm TB 1] [] [] [(.int .u32 0,[])] g4j)
def n4d:FuncId→Option a0q:=a0s 91 B20 b2p
theorem o4i (n0:Int)(l1:List (Ty.den (Ty.int IntKind.u8))):(boxC false Try.prog b2p 91 (lsM [(3,o4e)] (List.length ([]:List PB))) (mkF [.int .u32 0,.imm TB 1] [] [] [(.int .u32 0,[])] fun _=>none) [.n n0,.l (Ty.int IntKind.u8) l1]).sel=(h4a [.n n0,.l (Ty.int IntKind.u8) l1]).sel:=by kernel_rfl
theorem n4p (env:List Dat)(y:Nat×List Dat)(h:(h4a env).sel=some y):(boxC false Try.prog b2p 91 (lsM [(3,o4e)] (List.length ([]:List PB))) (mkF [.int .u32 0,.imm TB 1] [] [] [(.int .u32 0,[])] fun _=>none) env).sel=some y:=by
 unfold h4a at h
 split at h
 ·rw[o4i];exact h
 ·cases h
theorem B20_ok:a0v Try.prog 91 (a0j B20):=a0p (op:=g4j) t0q hmix false (m4x) n4p
theorem c4z:CsOk Try.prog n4d:=a0g t0q B20_ok
def f4u:List Dat→Tree (Nat×List Dat)
 |[.l (Ty.int IntKind.u8) l0]=>
  (let r1:Option (Nat×List Dat):=(g4j [.n (4294967295:Int),.l (Ty.int IntKind.u8) l0]);
   (.node (isK 0 [HK.n] r1)
   (.leaf ((0,[.n (ixor IntKind.u32 (4294967295:Int) (gn (dOf r1) 0))])))
   (.bad 351)))
 |_=>.bad 0
def a4j:List Dat→Option (Nat×List Dat):=fun env=>(f4u env).sel
def B13:FBox:=(mkF [.imm TB 0] [] [] [(.int .u32 0,[])] a4j)
def cs_13:FuncId→Option a0q:=a0s 73 B13 n4d
theorem n4u (l0:List (Ty.den (Ty.int IntKind.u8))):(boxC false Try.prog n4d 73 ls0 (mkF [.imm TB 0] [] [] [(.int .u32 0,[])] fun _=>none) [.l (Ty.int IntKind.u8) l0]).sel=(f4u [.l (Ty.int IntKind.u8) l0]).sel:=by kernel_rfl
theorem n4g (env:List Dat)(y:Nat×List Dat)(h:(f4u env).sel=some y):(boxC false Try.prog n4d 73 ls0 (mkF [.imm TB 0] [] [] [(.int .u32 0,[])] fun _=>none) env).sel=some y:=by
 unfold f4u at h
 split at h
 ·rw[n4u];exact h
 ·cases h
theorem B13_ok:a0v Try.prog 73 (a0j B13):=a0p (op:=a4j) c4z hmix false (LsOk.none _ _ _) n4g
theorem n4x:CsOk Try.prog cs_13:=a0g c4z B13_ok
def r3h (l:List (Ty.den TB)):Bool:=decide ((0+l.length)*1≤140737488355328)
def i2m:List Dat→Option (Nat×List Dat):=z3g TB r3h
def B31:FBox:=mkF [.imm TB 0] [] [] [(.own 0,[.arr TB 0])] i2m
def cs_31:FuncId→Option a0q:=a0s 94 B31 cs_13
theorem B31_ok:a0v Try.prog 94 (a0j B31):=
 n4k (P:=Try.prog) (cl:=clMd true Try.prog h0b) (c1t v0d hmix true) hmix (T:=38) (e:=5) (n:=400) (fn:=Try.f94) (by kernel_rfl) (by kernel_rfl) (by kernel_rfl) (by kernel_rfl) TB r3h
  (fun l=>[.imm TB l,.undef,.nilsl,.undef,.undef,.undef,.undef,.undef]) (fun l=>[.imm TB l,.undef,.nilsl,.imm TB l,.bool true,.undef,.undef,.undef])
  (fun l=>[.imm TB l,.undef,.own 0 1,.imm TB l,.bool false,.own 0 0,.imm TB l,.own 0 1]) (fun l=>⟨[.arr TB 1 l],[0]⟩) (fun l=>.own 0 1)
  (fun l=>by kernel_rfl) (fun l=>rfl) (fun l=>rfl) (fun l=>by kernel_rfl) (fun l=>by kernel_rfl) (fun l=>by kernel_rfl) (fun l=>by kernel_rfl) (fun l=>by kernel_rfl) (fun l=>by kernel_rfl) (by kernel_rfl)
theorem m0w:CsOk Try.prog cs_31:=a0g n4x B31_ok
def op_9:List Dat→Option (Nat×List Dat):=fun _=>some (0,[.b true])
def B9:FBox:=(mkF [] [] [] [(.bool 0,[])] op_9)
def cs_9:FuncId→Option a0q:=e1c 8 [B9] cs_31
theorem fn_9_ok (env:List Dat)(y:Nat×List Dat)(h:op_9 env=some y):(boxC true Try.prog cs_31 8 ls0 (mkF [] [] [] [(.bool 0,[])] fun _=>none) env).sel=some y:=by
 cases h
 kernel_rfl
theorem B9_ok:a0v Try.prog 8 (a0j B9):=a0p (op:=op_9) m0w hmix true (LsOk.none _ _ _) fn_9_ok
theorem cs_9_ok:CsOk Try.prog cs_9:=h0a m0w fun B hB=>by
 cases List.mem_singleton.1 hB
 exact B9_ok
theorem c4o (f:List Dat→Option (Nat×List Dat)): ∃g:List Dat→Option (Nat×List Dat),∀e,g e=f e:=⟨f,fun _=>rfl⟩
def k3e:List Dat→Option (Nat×List Dat):=Classical.choose (c4o i1r)
theorem x3q (e:List Dat):k3e e=i1r e:=Classical.choose_spec (c4o i1r) e
def Bq12:FBox:=mkF [.imm TB 0] [] [] [(.int .u32 0,[])] k3e
theorem Bq12_ok:a0v Try.prog 86 (a0j Bq12):=by
 have h:k3e=i1r:=funext x3q
 unfold Bq12
 rw[h]
 exact B12_ok
def cs_q12:FuncId→Option a0q:=a0s 86 Bq12 cs_9
theorem i4y:CsOk Try.prog cs_q12:=a0g cs_9_ok Bq12_ok
def o1n:List Dat→Option (Nat×List Dat):=Classical.choose (c4o a4j)
theorem o1e (e:List Dat):o1n e=a4j e:=Classical.choose_spec (c4o a4j) e
def Bq13:FBox:=mkF [.imm TB 0] [] [] [(.int .u32 0,[])] o1n
theorem Bq13_ok:a0v Try.prog 73 (a0j Bq13):=by
 have h:o1n=a4j:=funext o1e
 unfold Bq13
 rw[h]
 exact B13_ok
def y1c:FuncId→Option a0q:=a0s 73 Bq13 cs_q12
theorem c1e:CsOk Try.prog y1c:=a0g i4y Bq13_ok
theorem o3v {α:Type}{l:List α}{n:Nat}{d:α}(h:n<l.length):l.take (n+1)=l.take n++[l.getD n d]:=by
 rw[List.take_succ_eq_append_getElem h,List.getD_eq_getElem?_getD,List.getElem?_eq_getElem h];rfl
theorem selB {α:Type}{c:Bool}{t e:Tree α}:(Tree.node c t e).sel=bif c then t.sel else e.sel:=rfl
def l4p:BitVec 32:=0xEDB88320#32
def dn (n:BitVec 32):BitVec 32:=(n>>>1)^^^(if n.getLsbD 0 then l4p else 0#32)
theorem dn_xor (a b:BitVec 32):dn (a^^^b)=dn a^^^dn b:=by
 unfold dn
 rw[BitVec.getLsbD_xor,BitVec.ushiftRight_xor_distrib]
 cases a.getLsbD 0<;>cases b.getLsbD 0<;>simp
 ·ac_rfl
 ·ac_rfl
 ·have: ∀x y z:BitVec 32,x^^^y=(x^^^z)^^^(y^^^z):=by
   intro x y z
   have e:(x^^^z)^^^(y^^^z)=(x^^^y)^^^(z^^^z):=by ac_rfl
   rw[e,BitVec.xor_self,BitVec.xor_zero]
  exact this _ _ _
def low (n:BitVec 32)(k:Nat):BitVec 32:=n&&&BitVec.ofNat 32 (2^k-1)
theorem n4e (n:BitVec 32)(k:Nat)(hk:k<32):low n (k+1)=low n k^^^(if n.getLsbD k then 1#32<<<k else 0#32):=by
 unfold low
 ext i hi
 simp only[BitVec.getElem_and,BitVec.getElem_xor]
 have e: ∀j,(BitVec.ofNat 32 (2^j-1))[i]=decide (i<j):=by
  intro j
  rw[←BitVec.getLsbD_eq_getElem,BitVec.getLsbD_ofNat,Nat.testBit_two_pow_sub_one];simp[hi]
 rw[e,e]
 by_cases h:n.getLsbD k
 ·rw[if_pos h]
  rw[BitVec.getElem_shiftLeft]
  by_cases h1:i<k
  ·simp[h1,show i<k+1 by omega]
  ·by_cases h2:i=k
   ·subst h2;rw[BitVec.getLsbD_eq_getElem hi]at h;simp[h]
   ·simp[h1,show¬i<k+1 by omega,show¬i-k=0 by omega]
 ·rw[if_neg h]
  by_cases h1:i<k
  ·simp[h1,show i<k+1 by omega]
  ·by_cases h2:i=k
   ·subst h2;rw[BitVec.getLsbD_eq_getElem hi]at h;simp[h]
   ·simp[h1,show¬i<k+1 by omega]
theorem low_32 (n:BitVec 32):low n 32=n:=by
 unfold low
 ext i hi
 rw[BitVec.getElem_and,←BitVec.getLsbD_eq_getElem (x:=BitVec.ofNat 32 (2^32-1)),BitVec.getLsbD_ofNat,Nat.testBit_two_pow_sub_one]
 simp[hi]
theorem low_0 (n:BitVec 32):low n 0=0#32:=by unfold low;simp
theorem lin_ext {w:Nat}{f g:BitVec 32→BitVec w}(hf: ∀a b,f (a^^^b)=f a^^^f b)(hg: ∀a b,g (a^^^b)=g a^^^g b)(h: ∀i,i<32→f (1#32<<<i)=g (1#32<<<i))(n:BitVec 32):f n=g n:=by
 have z: ∀{f:BitVec 32→BitVec w},(∀a b,f (a^^^b)=f a^^^f b)→f 0#32=0#w:=by
  intro f hf
  have:=hf 0#32 0#32
  rw[BitVec.xor_self]at this
  rw[this,BitVec.xor_self]
 have key: ∀k,k≤32→f (low n k)=g (low n k):=by
  intro k
  induction k with
  |zero=>intro _;rw[low_0,z hf,z hg]
  |succ k ih=>
   intro hk
   rw[n4e n k (by omega),hf,hg,ih (by omega)]
   cases n.getLsbD k with
   |true=>rw[if_pos rfl,h k (by omega)]
   |false=>rw[if_neg (by simp),z hf,z hg]
 have:=key 32 (by omega)
 rwa [low_32]at this
def dnN:Nat→BitVec 32→BitVec 32
 |0,n=>n
 |k+1,n=>dnN k (dn n)
theorem dnN_xor (k:Nat)(a b:BitVec 32):dnN k (a^^^b)=dnN k a^^^dnN k b:=by
 induction k generalizing a b with
 |zero=>rfl
 |succ k ih=>simp only[dnN,dn_xor,ih]
def go (n:BitVec 32)(l:List Int):BitVec 32:=l.foldl (fun n x=>dnN 8 (n^^^BitVec.ofInt 32 x)) n
theorem go_nil (n:BitVec 32):go n []=n:=rfl
theorem go_cons (n:BitVec 32)(x:Int)(l:List Int):go n (x::l)=go (dnN 8 (n^^^BitVec.ofInt 32 x)) l:=rfl
theorem u3g (n:BitVec 32)(l m:List Int):go n (l++m)=go (go n l) m:=by unfold go;rw[List.foldl_append]
def E8:List Int:=[1996959894,3993919788,124634137,249268274,498536548,997073096,1994146192,3988292384]
def tab (u:BitVec 8):Nat→BitVec 32
 |0=>0#32
 |k+1=>tab u k^^^(if u.getLsbD k then BitVec.ofInt 32 (E8.getD k 0)else 0#32)
theorem tab_xor (a b:BitVec 8)(k:Nat):tab (a^^^b) k=tab a k^^^tab b k:=by
 induction k with
 |zero=>simp[tab]
 |succ k ih=>
  simp only[tab,ih,BitVec.getLsbD_xor]
  cases a.getLsbD k<;>cases b.getLsbD k<;>simp
  ·ac_rfl
  ·ac_rfl
  ·have: ∀x y z:BitVec 32,x^^^y=(x^^^z)^^^(y^^^z):=by
    intro x y z
    have e:(x^^^z)^^^(y^^^z)=(x^^^y)^^^(z^^^z):=by ac_rfl
    rw[e,BitVec.xor_self,BitVec.xor_zero]
   exact this _ _ _
theorem dn8 (m:BitVec 32):dnN 8 m=(m>>>8)^^^tab (m.setWidth 8) 8:=by
 refine lin_ext (f:=dnN 8) (g:=fun m=>(m>>>8)^^^tab (m.setWidth 8) 8) (dnN_xor 8) (fun a b=> ?_) (by decide+kernel) m
 simp only[BitVec.ushiftRight_xor_distrib,BitVec.setWidth_xor,tab_xor]
 ac_rfl
theorem ofInt_8 {x:Int}(h0:0≤x)(h1:x<256):BitVec.ofInt 32 x=(BitVec.ofInt 8 x).setWidth 32:=by
 apply BitVec.eq_of_toNat_eq
 rw[BitVec.toNat_setWidth,BitVec.toNat_ofInt,BitVec.toNat_ofInt]
 omega
theorem k4l (n:BitVec 32):BitVec.ofInt 8 (N n)=n.setWidth 8:=by
 apply BitVec.eq_of_toNat_eq
 rw[BitVec.toNat_setWidth,BitVec.toNat_ofInt]
 unfold N
 omega
theorem byte_in (n:BitVec 32){x:Int}(h0:0≤x)(h1:x<256):dnN 8 (n^^^BitVec.ofInt 32 x)=(n>>>8)^^^tab (n.setWidth 8^^^BitVec.ofInt 8 x) 8:=by
 rw[dn8,ofInt_8 h0 h1,BitVec.ushiftRight_xor_distrib,BitVec.setWidth_xor]
 have e1:(BitVec.ofInt 8 x).setWidth 32>>>8=0#32:=by
  apply BitVec.eq_of_toNat_eq
  have:=(BitVec.ofInt 8 x).isLt
  rw[BitVec.toNat_ushiftRight,BitVec.toNat_setWidth,Nat.shiftRight_eq_div_pow]
  simp
  omega
 have e2:((BitVec.ofInt 8 x).setWidth 32).setWidth 8=BitVec.ofInt 8 x:=by
  apply BitVec.eq_of_toNat_eq
  have:=(BitVec.ofInt 8 x).isLt
  rw[BitVec.toNat_setWidth,BitVec.toNat_setWidth]
  omega
 rw[e1,e2,BitVec.xor_zero]
theorem bit0 (x:BitVec 32):(N (x&&&1#32)==0)= !x.getLsbD 0:=by
 rw[show(0:Int)=N 0#32 from rfl,N_beq,Bool.eq_iff_iff]
 simp only[beq_iff_eq,Bool.not_eq_true']
 constructor
 ·intro h
  have:=congrArg (fun v=>v.getLsbD 0) h
  simpa using this
 ·intro h
  apply BitVec.eq_of_getLsbD_eq
  intro i hi
  by_cases h0:i=0
  ·subst h0;rw[BitVec.getLsbD_and,h];simp
  ·simp[h0]
theorem t19 (x:BitVec 32):f2v [.n (N x)]=some (0,[.n (N (dn x))]):=by
 show(f4l [.n (N x)]).sel=_
 simp only[f4l]
 have e:iand IntKind.u32 (N x) 1=N (x&&&1#32):=r2g x 1#32
 have e1:ishr IntKind.u32 (N x) 1=N (x>>>1):=a2b x 1
 have e2:ixor IntKind.u32 (N (x>>>1)) 3988292384=N ((x>>>1)^^^l4p):=q2n (x>>>1) l4p
 rw[selB,e,e1,e2,bit0]
 unfold dn
 cases x.getLsbD 0
 ·simp[Tree.sel]
 ·simp[Tree.sel]
theorem isK1 (x:Int):isK 0 [HK.n] (some (0,[.n x]))=true:=rfl
theorem o3z {n:Nat}{i:Nat}(h:i<n)(hn:n≤9223372036854775807):IntKind.wrap .i64 ((i:Int)+1)=((i+1:Nat):Int):=by
 rw[w64 (by omega) (by omega)];omega
theorem t12L (b:List Int)(hb:b.length≤9223372036854775807):o3p [.n (N 0xFFFFFFFF#32),.l TB (ofI b),.n b.length,.n ((0:Nat):Int)]=some (0,[.n (N (go 0xFFFFFFFF#32 b))]):=by
 refine b0a (st:=j3l) (fun i=>[.n (N (go 0xFFFFFFFF#32 (b.take i))),.l TB (ofI b),.n b.length,.n (i:Int)]) b.length (0,[.n (N (go 0xFFFFFFFF#32 b))]) ?_ ?_ FU (b1w hb)
 ·intro i hi
  simp only[j3l,n3e,p3n]
  refine(selT (dt (by omega))).trans ((selT (h1s (by omega) (by omega))).trans ?_)
  simp only[p2u,q2n,t19,o3d,gn0,isK1,cond_true,o3z hi hb,Tree.sel]
  rw[o3v (d:=(0:Int)) hi,u3g]
  rfl
 ·rw[List.take_length]
  simp only[j3l,n3e]
  exact selF (df (Int.lt_irrefl _))
def Sm (b:List Int):BitVec 32:=0xFFFFFFFF#32^^^go 0xFFFFFFFF#32 b
theorem t12 (b:List Int)(hb:b.length≤9223372036854775807):i1r [.l TB (ofI b)]=some (0,[.n (N (Sm b))]):=by
 show(f4a [.l TB (ofI b)]).sel=_
 have e':o3p [.n 4294967295,.l TB (ofI b),.n b.length,.n 0]=some (0,[.n (N (go 0xFFFFFFFF#32 b))]):=t12L b hb
 simp only[f4a,n3e]
 rw[e']
 simp only[o3d,gn0,isK1,cond_true,Tree.sel]
 have:=q2n 0xFFFFFFFF#32 (go 0xFFFFFFFF#32 b)
 rw[show(4294967295:Int)=N 0xFFFFFFFF#32 from rfl,this]
 rfl
theorem bitk (u:BitVec 8)(k:Nat):(iand IntKind.u8 (ishr IntKind.u8 (N u) (k:Int)) 1==1)=u.getLsbD k:=by
 rw[ishr_u8,show(1:Int)=N 1#8 from rfl,iand_u8,N_beq,Bool.eq_iff_iff]
 simp only[beq_iff_eq]
 constructor
 ·intro h
  have:=congrArg (fun v=>v.getLsbD 0) h
  simpa using this
 ·intro h
  apply BitVec.eq_of_getLsbD_eq
  intro i hi
  by_cases h0:i=0
  ·subst h0;rw[BitVec.getLsbD_and,BitVec.getLsbD_ushiftRight];simp[h]
  ·rw[BitVec.getLsbD_and];simp[h0]
theorem isK4 (x y:Int)(l m:List Int):isK 0 [HK.n,HK.l TB,HK.n,HK.l TN] (some (0,[.n x,.l TB (ofI l),.n y,.l TN (ofI m)]))=true:=rfl
theorem e8_in (k:Nat)(hk:k<8):List.getD E8 k 0=N (BitVec.ofInt 32 (List.getD E8 k 0)):=by
 rcases k with _|_|_|_|_|_|_|_|k<;>first|rfl|omega
theorem t20L (n:BitVec 32)(b:List Int)(i:Int)(u:BitVec 8):o3e [.k 0,.n (N n),.l TB (ofI b),.n i,.n (N u),.n ((0:Nat):Int),.l TN (ofI E8)]=some (0,[.n (N (n^^^tab u 8)),.l TB (ofI b),.n i,.l TN (ofI E8)]):=by
 have:=b0a (st:=j3w) (fun k=>[.k 0,.n (N (n^^^tab u k)),.l TB (ofI b),.n i,.n (N u),.n (k:Int),.l TN (ofI E8)]) 8 (0,[.n (N (n^^^tab u 8)),.l TB (ofI b),.n i,.l TN (ofI E8)]) ?_ ?_ FU (by unfold FU;omega)
 ·simp only[tab,BitVec.xor_zero]at this
  simp only[tab]
  exact this
 ·intro k hk
  simp only[j3w,j3a,n3e,p3n]
  refine(selT (dt (by omega))).trans ((selT (nf (df (by omega)))).trans ?_)
  rw[selB,bitk]
  have e0:IntKind.wrap .i64 ((k:Int)+1)=((k+1:Nat):Int):=by rw[w64 (by omega) (by omega)];omega
  cases h:u.getLsbD k with
  |true=>
   refine(selT (h1s (by omega) (by show(k:Int)<((8:Nat):Int);omega))).trans ?_
   rw[e0,show((k:Int)).toNat=k from rfl,e8_in k hk,q2n]
   simp only[tab,h,if_true,Tree.sel,BitVec.xor_assoc]
  |false=>
   rw[e0]
   simp only[tab,h,Bool.false_eq_true,if_false,Tree.sel,cond_false,BitVec.xor_zero]
 ·simp only[j3w,j3a]
  exact selF (df (by omega))
theorem t20M (n:BitVec 32)(b:List Int)(hb:b.length≤9223372036854775807)(hr: ∀x∈b,0≤x∧x<256):s3s [.k 0,.n (N n),.l TB (ofI b),.n ((0:Nat):Int),.l TN (ofI E8)]=some (0,[.n (N (go n b))]):=by
 refine b0a (st:=j3u) (fun i=>[.k 0,.n (N (go n (b.take i))),.l TB (ofI b),.n (i:Int),.l TN (ofI E8)]) b.length (0,[.n (N (go n b))]) ?_ ?_ FU (b1w hb)
 ·intro i hi
  simp only[j3u,j3b,n3e,p3n]
  refine(selT (dt (by omega))).trans ((selT (h1s (by omega) (by omega))).trans ?_)
  have hx:=hr _ (h0f (d:=(0:Int)) hi)
  rw[show((i:Int)).toNat=i from rfl]
  have ex:List.getD b i 0=N (BitVec.ofInt 8 (List.getD b i 0)):=(N_of hx.1 hx.2).symm
  have e8:ishr IntKind.u32 (N (go n (b.take i))) 8=N (go n (b.take i)>>>8):=a2b _ 8
  rw[e8,o4f,k4l,ex,ixor_u8]
  rw[show o3e [.k 0,.n (N (go n (b.take i)>>>8)),.l TB (ofI b),.n (i:Int),.n (N ((go n (b.take i)).setWidth 8^^^BitVec.ofInt 8 (List.getD b i 0))),.n 0,.l TN (ofI E8)]=_ from t20L _ _ _ _]
  simp only[o3d,gn0,gn2,gl1,gl3,isK4,selB,cond_true,o3z hi hb,Tree.sel]
  rw[o3v (d:=(0:Int)) hi,u3g,go_cons,go_nil,byte_in _ hx.1 hx.2]
 ·rw[List.take_length]
  simp only[j3u,j3b,n3e]
  exact selF (df (Int.lt_irrefl _))
theorem t13 (b:List Int)(hb:b.length≤9223372036854775807)(hr: ∀x∈b,0≤x∧x<256):a4j [.l TB (ofI b)]=some (0,[.n (N (Sm b))]):=by
 have e20:g4j [.n (N 0xFFFFFFFF#32),.l TB (ofI b)]=some (0,[.n (N (go 0xFFFFFFFF#32 b))]):=by
  show(h4a [.n (N 0xFFFFFFFF#32),.l TB (ofI b)]).sel=_
  have e:=t20M 0xFFFFFFFF#32 b hb hr
  exact(selT (congrArg (isK 0 [HK.n]) e)).trans (congrArg (fun r=>some (0,[Dat.n (gn (dOf r) 0)])) e)
 show(f4u [.l TB (ofI b)]).sel=_
 simp only[f4u]
 rw[show g4j [.n 4294967295,.l TB (ofI b)]=_ from e20]
 simp only[o3d,gn0,isK1,cond_true,Tree.sel]
 have:=q2n 0xFFFFFFFF#32 (go 0xFFFFFFFF#32 b)
 rw[show(4294967295:Int)=N 0xFFFFFFFF#32 from rfl,this]
 rfl
end Go.Proofs.Ytlambinleegdoaa.Vx
end
