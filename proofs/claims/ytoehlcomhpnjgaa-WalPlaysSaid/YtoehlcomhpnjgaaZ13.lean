import Derived.Test.YtoehlcomhpnjgaaZ06j
import Derived.Test.YtoehlcomhpnjgaaProg
import Derived.KernelRfl
import Derived.Test.YtoehlcomhpnjgaaVxIm
import Derived.Test.YtoehlcomhpnjgaaVxLk
import Derived.Test.YtoehlcomhpnjgaaVxLaw
import Derived.Test.YtoehlcomhpnjgaaVxAsk
import Derived.Test.YtoehlcomhpnjgaaVxBits
import Derived.Test.YtoehlcomhpnjgaaVxAid
noncomputable section
namespace Go.Proofs.Ytoehlcomhpnjgaa.Vx
open Go Go.RowKit
set_option linter.unusedVariables false
set_option linter.unusedSimpArgs false
set_option maxRecDepth 100000
set_option maxHeartbeats 0
abbrev TB:Ty:=.int .u8
abbrev TN:Ty:=.int .u32
theorem hmix:Try.prog.follows .mixedOrders=true:=by kernel_rfl
theorem v0d:CsOk Try.prog h0b:=d1h _
def d4i:List Dat→Tree (Nat×List Dat)
 |[.n n0]=>
  (.node (iand IntKind.u32 n0 (1:Int)==(0:Int))
   (.leaf ((0,[.n (ishr IntKind.u32 n0 (1:Int))])))
   (.leaf ((0,[.n (ixor IntKind.u32 (ishr IntKind.u32 n0 (1:Int)) (3988292384:Int))]))))
 |_=>.bad 0
def f2v:List Dat→Option (Nat×List Dat):=fun env=>(d4i env).sel
def B19:FBox:=(mkF [.int .u32 0] [] [] [(.int .u32 0,[])] f2v)
def r1o:FuncId→Option a0q:=a0s 97 B19 h0b
theorem s4i (n0:Int):(boxC false Try.prog h0b 97 ls0 (mkF [.int .u32 0] [] [] [(.int .u32 0,[])] fun _=>none) [.n n0]).sel=(d4i [.n n0]).sel:=by kernel_rfl
theorem u4p (env:List Dat)(y:Nat×List Dat)(h:(d4i env).sel=some y):(boxC false Try.prog h0b 97 ls0 (mkF [.int .u32 0] [] [] [(.int .u32 0,[])] fun _=>none) env).sel=some y:=by
 unfold d4i at h
 split at h
 ·rw[s4i];exact h
 ·cases h
theorem B19_ok:a0v Try.prog 97 (a0j B19):=a0p (op:=f2v) v0d hmix false (LsOk.none _ _ _) u4p
theorem m0z:CsOk Try.prog r1o:=a0g v0d B19_ok
def j3d:List Dat→Tree Step
 |[.n n0,.l (Ty.int IntKind.u8) l1,.n n2,.n n3]=>
  (.node (decide (n3<n2))
   (.node (inR n3 (List.length l1))
   (let r1:Option (Nat×List Dat):=(f2v [.n (ixor IntKind.u32 n0 (IntKind.wrap .u32 (List.getD l1 (Int.toNat n3) (0:Int))))]);
    (.node (isK 0 [HK.n] r1)
    (let r2:Option (Nat×List Dat):=(f2v [.n (gn (dOf r1) 0)]);
     (.node (isK 0 [HK.n] r2)
     (let r3:Option (Nat×List Dat):=(f2v [.n (gn (dOf r2) 0)]);
      (.node (isK 0 [HK.n] r3)
      (let r4:Option (Nat×List Dat):=(f2v [.n (gn (dOf r3) 0)]);
       (.node (isK 0 [HK.n] r4)
       (let r5:Option (Nat×List Dat):=(f2v [.n (gn (dOf r4) 0)]);
        (.node (isK 0 [HK.n] r5)
        (let r6:Option (Nat×List Dat):=(f2v [.n (gn (dOf r5) 0)]);
         (.node (isK 0 [HK.n] r6)
         (let r7:Option (Nat×List Dat):=(f2v [.n (gn (dOf r6) 0)]);
          (.node (isK 0 [HK.n] r7)
          (let r8:Option (Nat×List Dat):=(f2v [.n (gn (dOf r7) 0)]);
           (.node (isK 0 [HK.n] r8)
           (.leaf (Step.go [.n (gn (dOf r8) 0),.l (Ty.int IntKind.u8) l1,.n n2,.n (IntKind.wrap .i64 (n3+(1:Int)))]))
           (.bad 351)))
          (.bad 351)))
         (.bad 351)))
        (.bad 351)))
       (.bad 351)))
      (.bad 351)))
     (.bad 351)))
    (.bad 351)))
   (.bad 10))
   (.leaf (Step.stop 0 [.n n0])))
 |_=>.bad 0
def n3g:List Dat→Option (Nat×List Dat):=a0b j3d FU
def L12_3:LBox:=(mkL 0 [] (sh 20 [(3,.int .u32 0),(6,.imm TB 1),(7,.int .i64 2),(8,.int .i64 3)]) [] [] [(.exit 0,sh 20 [(3,.int .u32 0)],[])] n3g)
theorem v3y (n0:Int)(l1:List (Ty.den (Ty.int IntKind.u8)))(n2:Int)(n3:Int):(p4i false Try.prog r1o 90 3 ls0 (mkL 0 [] (sh 20 [(3,.int .u32 0),(6,.imm TB 1),(7,.int .i64 2),(8,.int .i64 3)]) [] [] [(.exit 0,sh 20 [(3,.int .u32 0)],[])] fun _=>none) [.n n0,.l (Ty.int IntKind.u8) l1,.n n2,.n n3]).sel=(j3d [.n n0,.l (Ty.int IntKind.u8) l1,.n n2,.n n3]).sel:=by kernel_rfl
theorem y3d (env:List Dat)(y:Step)(h:(j3d env).sel=some y):(p4i false Try.prog r1o 90 3 ls0 (mkL 0 [] (sh 20 [(3,.int .u32 0),(6,.imm TB 1),(7,.int .i64 2),(8,.int .i64 3)]) [] [] [(.exit 0,sh 20 [(3,.int .u32 0)],[])] fun _=>none) env).sel=some y:=by
 unfold j3d at h
 split at h
 ·rw[v3y];exact h
 ·cases h
theorem q4r (K:Nat):LsOk Try.prog K (r3k [(3,L12_3)] K) (a0r Try.prog 90):=mkL_ok (st:=j3d) (m:=FU) m0z hmix false (by kernel_rfl) (by kernel_rfl) y3d
def c4c:List Dat→Tree (Nat×List Dat)
 |[.l (Ty.int IntKind.u8) l0]=>
  (let r1:Option (Nat×List Dat):=(n3g [.n (4294967295:Int),.l (Ty.int IntKind.u8) l0,.n (↑(List.length l0):Int),.n (0:Int)]);
   (.node (isK 0 [HK.n] r1)
   (.leaf ((0,[.n (ixor IntKind.u32 (4294967295:Int) (gn (dOf r1) 0))])))
   (.bad 351)))
 |_=>.bad 0
def i1r:List Dat→Option (Nat×List Dat):=fun env=>(c4c env).sel
def B12:FBox:=(mkF [.imm TB 0] [] [] [(.int .u32 0,[])] i1r)
def b2p:FuncId→Option a0q:=a0s 90 B12 r1o
theorem s4m (l0:List (Ty.den (Ty.int IntKind.u8))):(boxC false Try.prog r1o 90 (r3k [(3,L12_3)] (List.length ([]:List PB))) (mkF [.imm TB 0] [] [] [(.int .u32 0,[])] fun _=>none) [.l (Ty.int IntKind.u8) l0]).sel=(c4c [.l (Ty.int IntKind.u8) l0]).sel:=by kernel_rfl
theorem v4m (env:List Dat)(y:Nat×List Dat)(h:(c4c env).sel=some y):(boxC false Try.prog r1o 90 (r3k [(3,L12_3)] (List.length ([]:List PB))) (mkF [.imm TB 0] [] [] [(.int .u32 0,[])] fun _=>none) env).sel=some y:=by
 unfold c4c at h
 split at h
 ·rw[s4m];exact h
 ·cases h
theorem B12_ok:a0v Try.prog 90 (a0j B12):=a0p (op:=i1r) m0z hmix false (q4r _) v4m
theorem t0q:CsOk Try.prog b2p:=a0g m0z B12_ok
def i3q:List Dat→Tree Step
 |[.n n0,.l (Ty.int IntKind.u8) l1,.n n2,.n n3,.n n4,.l (Ty.int IntKind.u32) l5]=>
  (.node (decide (n4<(8:Int)))
   (.node (!decide (n4<(0:Int)))
   (.node (iand IntKind.u8 (ishr IntKind.u8 n3 n4) (1:Int)==(1:Int))
    (.node (inR n4 (List.length l5))
    (.leaf (Step.go [.k 0,.n (ixor IntKind.u32 n0 (List.getD l5 (Int.toNat n4) (0:Int))),.l (Ty.int IntKind.u8) l1,.n n2,.n n3,.n (IntKind.wrap .i64 (n4+(1:Int))),.l (Ty.int IntKind.u32) l5]))
    (.bad 12))
    (.leaf (Step.go [.k 0,.n n0,.l (Ty.int IntKind.u8) l1,.n n2,.n n3,.n (IntKind.wrap .i64 (n4+(1:Int))),.l (Ty.int IntKind.u32) l5])))
   (.bad 83))
   (.leaf (Step.stop 0 [.n n0,.l (Ty.int IntKind.u8) l1,.n n2,.l (Ty.int IntKind.u32) l5])))
 |_=>.bad 0
def j3w:List Dat→Tree Step
 |.k 0::d=>i3q d
 |_=>.bad 0
def n3m:List Dat→Option (Nat×List Dat):=a0b j3w FU
def h4q:MBox:=(mkM 0 [] [(sh 41 [(0,.int .u32 0),(1,.imm TB 1),(5,.own 0),(6,.int .i64 2),(7,.int .u8 3),(8,.int .i64 4)],[.arr TN 5])] [] [(.exit 2,sh 41 [(0,.int .u32 0),(1,.imm TB 1),(5,.own 0),(6,.int .i64 2)],[.arr TN 3])] n3m)
theorem r3q (n0:Int)(l1:List (Ty.den (Ty.int IntKind.u8)))(n2:Int)(n3:Int)(n4:Int)(l5:List (Ty.den (Ty.int IntKind.u32))):((fun(d:List Dat)=>stepMC false Try.prog b2p 92 8 ls0 (mkM 0 [] [(sh 41 [(0,.int .u32 0),(1,.imm TB 1),(5,.own 0),(6,.int .i64 2),(7,.int .u8 3),(8,.int .i64 4)],[.arr TN 5])] [] [(.exit 2,sh 41 [(0,.int .u32 0),(1,.imm TB 1),(5,.own 0),(6,.int .i64 2)],[.arr TN 3])] fun _=>none) (.k 0::d)) [.n n0,.l (Ty.int IntKind.u8) l1,.n n2,.n n3,.n n4,.l (Ty.int IntKind.u32) l5]).sel=(i3q [.n n0,.l (Ty.int IntKind.u8) l1,.n n2,.n n3,.n n4,.l (Ty.int IntKind.u32) l5]).sel:=by kernel_rfl
theorem r3u (env:List Dat)(y:Step)(h:(i3q env).sel=some y):((fun(d:List Dat)=>stepMC false Try.prog b2p 92 8 ls0 (mkM 0 [] [(sh 41 [(0,.int .u32 0),(1,.imm TB 1),(5,.own 0),(6,.int .i64 2),(7,.int .u8 3),(8,.int .i64 4)],[.arr TN 5])] [] [(.exit 2,sh 41 [(0,.int .u32 0),(1,.imm TB 1),(5,.own 0),(6,.int .i64 2)],[.arr TN 3])] fun _=>none) (.k 0::d)) env).sel=some y:=by
 unfold i3q at h
 split at h
 ·rw[r3q];exact h
 ·cases h
theorem v3m (env:List Dat)(y:Step)(h:(j3w env).sel=some y):(stepMC false Try.prog b2p 92 8 ls0 (mkM 0 [] [(sh 41 [(0,.int .u32 0),(1,.imm TB 1),(5,.own 0),(6,.int .i64 2),(7,.int .u8 3),(8,.int .i64 4)],[.arr TN 5])] [] [(.exit 2,sh 41 [(0,.int .u32 0),(1,.imm TB 1),(5,.own 0),(6,.int .i64 2)],[.arr TN 3])] fun _=>none) env).sel=some y:=by
 unfold j3w at h
 split at h
 ·exact r3u _ _ h
 ·cases h
theorem i4d: ∀t s x,(a0h h4q t s).sel=some x→a0k Try.prog 0 (.loop (cAt Try.prog 92 8)) t s x:=a0o (st:=j3w) (m:=FU) t0q hmix false (LsOk.none _ _ _) (by kernel_rfl) v3m
def i3r:List Dat→Tree Step
 |[.n n0,.l (Ty.int IntKind.u8) l1,.n n2,.l (Ty.int IntKind.u32) l3]=>
  (.node (decide (n2<(↑(List.length l1):Int)))
   (.node (inR n2 (List.length l1))
   (let r1:Option (Nat×List Dat):=(n3m [.k 0,.n (ishr IntKind.u32 n0 (8:Int)),.l (Ty.int IntKind.u8) l1,.n n2,.n (ixor IntKind.u8 (IntKind.wrap .u8 n0) (List.getD l1 (Int.toNat n2) (0:Int))),.n (0:Int),.l (Ty.int IntKind.u32) l3]);
    (.node (isK 0 [HK.n,HK.l (Ty.int IntKind.u8),HK.n,HK.l (Ty.int IntKind.u32)] r1)
    (.leaf (Step.go [.k 0,.n (gn (dOf r1) 0),.l (Ty.int IntKind.u8) (gl (Ty.int IntKind.u8) (dOf r1) 1),.n (IntKind.wrap .i64 (gn (dOf r1) 2+(1:Int))),.l (Ty.int IntKind.u32) (gl (Ty.int IntKind.u32) (dOf r1) 3)]))
    (.bad 351)))
   (.bad 10))
   (.leaf (Step.stop 0 [.n n0])))
 |_=>.bad 0
def j3q:List Dat→Tree Step
 |.k 0::d=>i3r d
 |_=>.bad 0
def q3i:List Dat→Option (Nat×List Dat):=a0b j3q FU
def t4y:MBox:=(mkM 0 [] [(sh 41 [(0,.int .u32 0),(1,.imm TB 1),(5,.own 0),(6,.int .i64 2)],[.arr TN 3])] [] [(.exit 0,sh 41 [(0,.int .u32 0)],[])] q3i)
theorem q3w (n0:Int)(l1:List (Ty.den (Ty.int IntKind.u8)))(n2:Int)(l3:List (Ty.den (Ty.int IntKind.u32))):((fun(d:List Dat)=>stepMC false Try.prog b2p 92 3 (lsM [(8,h4q)] 0) (mkM 0 [] [(sh 41 [(0,.int .u32 0),(1,.imm TB 1),(5,.own 0),(6,.int .i64 2)],[.arr TN 3])] [] [(.exit 0,sh 41 [(0,.int .u32 0)],[])] fun _=>none) (.k 0::d)) [.n n0,.l (Ty.int IntKind.u8) l1,.n n2,.l (Ty.int IntKind.u32) l3]).sel=(i3r [.n n0,.l (Ty.int IntKind.u8) l1,.n n2,.l (Ty.int IntKind.u32) l3]).sel:=by kernel_rfl
theorem q3d (env:List Dat)(y:Step)(h:(i3r env).sel=some y):((fun(d:List Dat)=>stepMC false Try.prog b2p 92 3 (lsM [(8,h4q)] 0) (mkM 0 [] [(sh 41 [(0,.int .u32 0),(1,.imm TB 1),(5,.own 0),(6,.int .i64 2)],[.arr TN 3])] [] [(.exit 0,sh 41 [(0,.int .u32 0)],[])] fun _=>none) (.k 0::d)) env).sel=some y:=by
 unfold i3r at h
 split at h
 ·rw[q3w];exact h
 ·cases h
theorem x3j (env:List Dat)(y:Step)(h:(j3q env).sel=some y):(stepMC false Try.prog b2p 92 3 (lsM [(8,h4q)] 0) (mkM 0 [] [(sh 41 [(0,.int .u32 0),(1,.imm TB 1),(5,.own 0),(6,.int .i64 2)],[.arr TN 3])] [] [(.exit 0,sh 41 [(0,.int .u32 0)],[])] fun _=>none) env).sel=some y:=by
 unfold j3q at h
 split at h
 ·exact q3d _ _ h
 ·cases h
theorem s4g:LsOk Try.prog 0 (lsM [(8,h4q)] 0) (cAt Try.prog 92 3):=LsOk.many fun j B hB hk c hc hi=>by
 simp only[b0d]at hB
 split at hB
 ·rename_i e;have:=Nat.eq_of_beq_eq_true e;subst this;cases hB
  have e1:v0m (cAt Try.prog 92 3) 8=[cAt Try.prog 92 8]:=by kernel_rfl
  have e2:=a0d hc hi
  rw[e1]at e2;cases List.mem_singleton.1 e2;exact i4d
 cases hB
theorem h4p: ∀t s x,(a0h t4y t s).sel=some x→a0k Try.prog 0 (.loop (cAt Try.prog 92 3)) t s x:=a0o (st:=j3q) (m:=FU) t0q hmix false (s4g) (by kernel_rfl) x3j
theorem t4v:LsOk Try.prog (List.length ([]:List PB)) (lsM [(3,t4y)] (List.length ([]:List PB))) (a0r Try.prog 92):=LsOk.many fun j B hB hk c hc hi=>by
 simp only[b0d]at hB
 split at hB
 ·rename_i e;have:=Nat.eq_of_beq_eq_true e;subst this;cases hB
  have e1:p0c Try.prog 92 3=[cAt Try.prog 92 3]:=a0e (by kernel_rfl)
  have e2:c∈p0c Try.prog 92 3:=a0d hc hi
  rw[e1]at e2;cases List.mem_singleton.1 e2;exact h4p
 cases hB
def i4h:List Dat→Tree (Nat×List Dat)
 |[.n n0,.l (Ty.int IntKind.u8) l1]=>
  (let r1:Option (Nat×List Dat):=(q3i [.k 0,.n n0,.l (Ty.int IntKind.u8) l1,.n (0:Int),.l (Ty.int IntKind.u32) [(1996959894:Int),(3993919788:Int),(124634137:Int),(249268274:Int),(498536548:Int),(997073096:Int),(1994146192:Int),(3988292384:Int)]]);
   (.node (isK 0 [HK.n] r1)
   (.leaf ((0,[.n (gn (dOf r1) 0)])))
   (.bad 351)))
 |_=>.bad 0
def g4k:List Dat→Option (Nat×List Dat):=fun env=>(i4h env).sel
def B20:FBox:=(mkF [.int .u32 0,.imm TB 1] [] [] [(.int .u32 0,[])] g4k)
def q4w:FuncId→Option a0q:=a0s 92 B20 b2p
theorem r4b (n0:Int)(l1:List (Ty.den (Ty.int IntKind.u8))):(boxC false Try.prog b2p 92 (lsM [(3,t4y)] (List.length ([]:List PB))) (mkF [.int .u32 0,.imm TB 1] [] [] [(.int .u32 0,[])] fun _=>none) [.n n0,.l (Ty.int IntKind.u8) l1]).sel=(i4h [.n n0,.l (Ty.int IntKind.u8) l1]).sel:=by kernel_rfl
theorem s4v (env:List Dat)(y:Nat×List Dat)(h:(i4h env).sel=some y):(boxC false Try.prog b2p 92 (lsM [(3,t4y)] (List.length ([]:List PB))) (mkF [.int .u32 0,.imm TB 1] [] [] [(.int .u32 0,[])] fun _=>none) env).sel=some y:=by
 unfold i4h at h
 split at h
 ·rw[r4b];exact h
 ·cases h
theorem B20_ok:a0v Try.prog 92 (a0j B20):=a0p (op:=g4k) t0q hmix false (t4v) s4v
theorem z3g:CsOk Try.prog q4w:=a0g t0q B20_ok
def d4j:List Dat→Tree (Nat×List Dat)
 |[.l (Ty.int IntKind.u8) l0]=>
  (let r1:Option (Nat×List Dat):=(g4k [.n (4294967295:Int),.l (Ty.int IntKind.u8) l0]);
   (.node (isK 0 [HK.n] r1)
   (.leaf ((0,[.n (ixor IntKind.u32 (4294967295:Int) (gn (dOf r1) 0))])))
   (.bad 351)))
 |_=>.bad 0
def v3s:List Dat→Option (Nat×List Dat):=fun env=>(d4j env).sel
def B13:FBox:=(mkF [.imm TB 0] [] [] [(.int .u32 0,[])] v3s)
def cs_13:FuncId→Option a0q:=a0s 78 B13 q4w
theorem q4o (l0:List (Ty.den (Ty.int IntKind.u8))):(boxC false Try.prog q4w 78 ls0 (mkF [.imm TB 0] [] [] [(.int .u32 0,[])] fun _=>none) [.l (Ty.int IntKind.u8) l0]).sel=(d4j [.l (Ty.int IntKind.u8) l0]).sel:=by kernel_rfl
theorem v4l (env:List Dat)(y:Nat×List Dat)(h:(d4j env).sel=some y):(boxC false Try.prog q4w 78 ls0 (mkF [.imm TB 0] [] [] [(.int .u32 0,[])] fun _=>none) env).sel=some y:=by
 unfold d4j at h
 split at h
 ·rw[q4o];exact h
 ·cases h
theorem B13_ok:a0v Try.prog 78 (a0j B13):=a0p (op:=v3s) z3g hmix false (LsOk.none _ _ _) v4l
theorem q4t:CsOk Try.prog cs_13:=a0g z3g B13_ok
def p3t (l:List (Ty.den TB)):Bool:=decide ((0+l.length)*1≤140737488355328)
def i2m:List Dat→Option (Nat×List Dat):=n3u TB p3t
def B31:FBox:=mkF [.imm TB 0] [] [] [(.own 0,[.arr TB 0])] i2m
def cs_31:FuncId→Option a0q:=a0s 62 B31 cs_13
theorem y3z:a0v Try.prog 62 (a0j B31):=
 z3k (P:=Try.prog) (cl:=clMd true Try.prog h0b) (c1t v0d hmix true) hmix (T:=38) (e:=5) (n:=400) (fn:=Try.f62) (by kernel_rfl) (by kernel_rfl) (by kernel_rfl) (by kernel_rfl) TB p3t
  (fun l=>[.imm TB l,.undef,.nilsl,.undef,.undef,.undef,.undef,.undef]) (fun l=>[.imm TB l,.undef,.nilsl,.imm TB l,.bool true,.undef,.undef,.undef])
  (fun l=>[.imm TB l,.undef,.own 0 1,.imm TB l,.bool false,.own 0 0,.imm TB l,.own 0 1]) (fun l=>⟨[.arr TB 1 l],[0]⟩) (fun l=>.own 0 1)
  (fun l=>by kernel_rfl) (fun l=>rfl) (fun l=>rfl) (fun l=>by kernel_rfl) (fun l=>by kernel_rfl) (fun l=>by kernel_rfl) (fun l=>by kernel_rfl) (fun l=>by kernel_rfl) (fun l=>by kernel_rfl) (by kernel_rfl)
theorem m0w:CsOk Try.prog cs_31:=a0g q4t y3z
theorem a4r (f:List Dat→Option (Nat×List Dat)): ∃g:List Dat→Option (Nat×List Dat),∀e,g e=f e:=⟨f,fun _=>rfl⟩
def l3o:List Dat→Option (Nat×List Dat):=Classical.choose (a4r i1r)
theorem t3q (e:List Dat):l3o e=i1r e:=Classical.choose_spec (a4r i1r) e
def Bq12:FBox:=mkF [.imm TB 0] [] [] [(.int .u32 0,[])] l3o
theorem x3t:a0v Try.prog 90 (a0j Bq12):=by
 have h:l3o=i1r:=funext t3q
 unfold Bq12
 rw[h]
 exact B12_ok
def cs_q12:FuncId→Option a0q:=a0s 90 Bq12 cs_31
theorem m4j:CsOk Try.prog cs_q12:=a0g m0w x3t
def o1n:List Dat→Option (Nat×List Dat):=Classical.choose (a4r v3s)
theorem o1e (e:List Dat):o1n e=v3s e:=Classical.choose_spec (a4r v3s) e
def Bq13:FBox:=mkF [.imm TB 0] [] [] [(.int .u32 0,[])] o1n
theorem i4l:a0v Try.prog 78 (a0j Bq13):=by
 have h:o1n=v3s:=funext o1e
 unfold Bq13
 rw[h]
 exact B13_ok
def y1c:FuncId→Option a0q:=a0s 78 Bq13 cs_q12
theorem c1e:CsOk Try.prog y1c:=a0g m4j i4l
theorem Imp.nd {α:Type}{T E x:Tree α}{c:Bool}(a:c=true→Imp T x.th)(b:c=false→Imp E x.el)(h:x.isNode=true:=by kernel_rfl)(e:x.cd=c:=by kernel_rfl):Imp (.node c T E) x:=.node h e a b
theorem Imp.lf {α:Type}{x:Tree α}{y:α}(h:x.sel=some y:=by kernel_rfl):Imp (.leaf y) x:=.leaf h
theorem Imp.pa {α:Type}{T x:Tree α}(l:List Nat)(a:Imp T (x.walk l))(h:x.okPath l=true:=by kernel_rfl):Imp T x:=.path l h a
theorem Imp.sT {α:Type}{T x:Tree α}(c:Bool)(a:Imp T x.th)(h:x.isNode=true:=by kernel_rfl)(e:x.cd=c:=by kernel_rfl)(k:c=true:=by simp[*]):Imp T x:=.pt h e k a
theorem Imp.sF {α:Type}{T x:Tree α}(c:Bool)(a:Imp T x.el)(h:x.isNode=true:=by kernel_rfl)(e:x.cd=c:=by kernel_rfl)(k:c=false:=by simp[*]):Imp T x:=.pf h e k a
abbrev ExB (ev:List Dat→Tree (Nat×List Dat)):Prop:= ∃f:List Dat→Option (Nat×List Dat),∀env,f env=(ev env).sel
theorem exB (ev:List Dat→Tree (Nat×List Dat)):ExB ev:=⟨fun env=>(ev env).sel,fun _=>rfl⟩
abbrev ExL (st:List Dat→Tree Step):Prop:= ∃f:List Dat→Option (Nat×List Dat),∀env,f env=a0b st FU env
theorem exL (st:List Dat→Tree Step):ExL st:=⟨a0b st FU,fun _=>rfl⟩
def wrN:PB:=.cells [.nilsl]
def wrO (b:Nat):PB:=.cells [.own b]
def j3a (env:List Dat):Tree Step:=Lk.stepMC false LK y1c 67 3 ls0 (mkM 0 [] [(sh 22 [(0,.int .u64 0),(5,.own 0),(6,.int .i64 1)],[.arr TB 2])] [(5,TB)] [(.exit 0,sh 22 [(5,.own 0)],[.arr TB 0])] fun _=>none) env
theorem n3t:ExL j3a:=exL _
def n3k:=Classical.choose n3t
theorem p3b (env:List Dat):n3k env=a0b j3a FU env:=Classical.choose_spec n3t env
def t4x:MBox:=mkM 0 [] [(sh 22 [(0,.int .u64 0),(5,.own 0),(6,.int .i64 1)],[.arr TB 2])] [(5,TB)] [(.exit 0,sh 22 [(5,.own 0)],[.arr TB 0])] n3k
theorem n4h:t4x=mkM 0 [] [(sh 22 [(0,.int .u64 0),(5,.own 0),(6,.int .i64 1)],[.arr TB 2])] [(5,TB)] [(.exit 0,sh 22 [(5,.own 0)],[.arr TB 0])] (a0b j3a FU):=congrArg (fun f=>mkM 0 [] [(sh 22 [(0,.int .u64 0),(5,.own 0),(6,.int .i64 1)],[.arr TB 2])] [(5,TB)] [(.exit 0,sh 22 [(5,.own 0)],[.arr TB 0])] f) (funext p3b)
theorem h4r: ∀t s x,(a0h t4x t s).sel=some x→a0k Try.prog 0 (.loop (cAt Try.prog 67 3)) t s x:=by
 rw[n4h]
 exact a0o (st:=j3a) (m:=FU) c1e hmix false (LsOk.none _ _ _) (by kernel_rfl) (fun env y h=>by rw[←stepMC_lk];exact h)
def m3n:List Dat→Tree Step
 |[.n n0,.n n1,.l (Ty.int IntKind.u8) l2]=>
 (.node (decide (n1≥(0:Int)))
 (.node (!decide (IntKind.wrap .i64 ((8:Int)*n1)<(0:Int)))
 (.node (decide ((List.length l2+1)*1≤140737488355328))
 (.leaf (Step.go [.k 0,.n n0,.n (IntKind.wrap .i64 (n1-(1:Int))),.l TB (l2++[IntKind.wrap .u8 (ishr IntKind.u64 n0 (IntKind.wrap .i64 ((8:Int)*n1)))])]))
 (.bad 62))
 (.bad 83))
 (.leaf (Step.stop 0 [.l TB l2])))
 |_=>.bad 0
theorem l3m (n0:Int)(n1:Int)(l2:List (Ty.den TB)):Imp (m3n [.n n0,.n n1,.l TB l2]) (j3a [.k 0,.n n0,.n n1,.l TB l2]):=
(.pa [1]
(.nd (fun h0=>
(.nd (fun h1=>
(.nd (fun h2=>
(.pa [1]
.lf)) (fun h2=>
.none))) (fun h1=>
.none))) (fun h0=>
(.pa [1]
.lf))))
theorem r4f:LsOk Try.prog (List.length ([]:List PB)) (lsM [(3,t4x)] (List.length ([]:List PB))) (a0r Try.prog 67):=LsOk.many fun j B hB hk c hc hi=>by
 simp only[b0d]at hB
 split at hB
 ·rename_i e;have:=Nat.eq_of_beq_eq_true e;subst this;cases hB
  have e1:p0c Try.prog 67 3=[cAt Try.prog 67 3]:=a0e (by kernel_rfl)
  have e2:c∈p0c Try.prog 67 3:=a0d hc hi
  rw[e1]at e2;cases List.mem_singleton.1 e2;exact h4r
 cases hB
def ev_30 (env:List Dat):Tree (Nat×List Dat):=Lk.boxC false LK y1c 67 (lsM [(3,t4x)] (List.length ([]:List PB))) (mkF [.int .u64 0,.int .i64 1] [] [] [(.own 0,[.arr TB 0])] fun _=>none) env
theorem y3y:ExB ev_30:=exB _
def n3w:=Classical.choose y3y
theorem a4n (env:List Dat):n3w env=(ev_30 env).sel:=Classical.choose_spec y3y env
def B30:FBox:=mkF [.int .u64 0,.int .i64 1] [] [] [(.own 0,[.arr TB 0])] n3w
theorem B30_ok:a0v Try.prog 67 (a0j B30):=a0p (op:=n3w) c1e hmix false (r4f) (fun env x h=>by rw[a4n]at h;rw[←boxC_lk];exact h)
def i4t:List Dat→Tree (Nat×List Dat)
 |[.n n0,.n n1]=>
 (let r1:=(n3k [.k 0,.n n0,.n (IntKind.wrap .i64 (n1-(1:Int))),.l TB []]);
 (.node (isK 0 [.l TB] r1)
 (.leaf ((0,[.l TB (gl TB (dOf r1) 0)])))
 (.bad 351)))
 |_=>.bad 0
theorem d4q (n0:Int)(n1:Int):Imp (i4t [.n n0,.n n1]) (ev_30 [.n n0,.n n1]):=
(.nd (fun h0=>
(.pa [1]
.lf)) (fun h0=>
.none))
def e4n:FuncId→Option a0q:=a0s 67 B30 y1c
theorem l3p:CsOk Try.prog e4n:=a0g c1e B30_ok
def h3u (env:List Dat):Tree Step:=Lk.stepMC false LK e4n 98 1 ls0 (mkM 1 [0] [(sh 29 [(0,.ptr 0 0),(1,.int .u64 0),(2,.int .i64 1),(7,.int .i64 2),(8,.int .i64 3)],[wrN]),(sh 29 [(0,.ptr 0 0),(1,.int .u64 0),(2,.int .i64 1),(7,.int .i64 2),(8,.int .i64 3)],[wrO 1,.arr TB 4])] [] [(.exit 0,sh 29 [(0,.ptr 0 0)],[wrN]),(.exit 0,sh 29 [(0,.ptr 0 0)],[wrO 1,.arr TB 0])] fun _=>none) env
theorem m3u:ExL h3u:=exL _
def l3y:=Classical.choose m3u
theorem m3s (env:List Dat):l3y env=a0b h3u FU env:=Classical.choose_spec m3u env
def a4g:MBox:=mkM 1 [0] [(sh 29 [(0,.ptr 0 0),(1,.int .u64 0),(2,.int .i64 1),(7,.int .i64 2),(8,.int .i64 3)],[wrN]),(sh 29 [(0,.ptr 0 0),(1,.int .u64 0),(2,.int .i64 1),(7,.int .i64 2),(8,.int .i64 3)],[wrO 1,.arr TB 4])] [] [(.exit 0,sh 29 [(0,.ptr 0 0)],[wrN]),(.exit 0,sh 29 [(0,.ptr 0 0)],[wrO 1,.arr TB 0])] l3y
theorem d4x:a4g=mkM 1 [0] [(sh 29 [(0,.ptr 0 0),(1,.int .u64 0),(2,.int .i64 1),(7,.int .i64 2),(8,.int .i64 3)],[wrN]),(sh 29 [(0,.ptr 0 0),(1,.int .u64 0),(2,.int .i64 1),(7,.int .i64 2),(8,.int .i64 3)],[wrO 1,.arr TB 4])] [] [(.exit 0,sh 29 [(0,.ptr 0 0)],[wrN]),(.exit 0,sh 29 [(0,.ptr 0 0)],[wrO 1,.arr TB 0])] (a0b h3u FU):=congrArg (fun f=>mkM 1 [0] [(sh 29 [(0,.ptr 0 0),(1,.int .u64 0),(2,.int .i64 1),(7,.int .i64 2),(8,.int .i64 3)],[wrN]),(sh 29 [(0,.ptr 0 0),(1,.int .u64 0),(2,.int .i64 1),(7,.int .i64 2),(8,.int .i64 3)],[wrO 1,.arr TB 4])] [] [(.exit 0,sh 29 [(0,.ptr 0 0)],[wrN]),(.exit 0,sh 29 [(0,.ptr 0 0)],[wrO 1,.arr TB 0])] f) (funext m3s)
theorem e4g: ∀t s x,(a0h a4g t s).sel=some x→a0k Try.prog 1 (.loop (cAt Try.prog 98 1)) t s x:=by
 rw[d4x]
 exact a0o (st:=h3u) (m:=FU) l3p hmix false (LsOk.none _ _ _) (by kernel_rfl) (fun env y h=>by rw[←stepMC_lk];exact h)
def o3a:List Dat→Tree Step
 |[.n n0,.n n1,.n n2,.n n3]=>
 (.node (decide (n3<n2))
 (.node (!decide (IntKind.wrap .i64 ((8:Int)*IntKind.wrap .i64 (IntKind.wrap .i64 (n1-(1:Int))-n3))<(0:Int)))
 (.leaf (Step.go [.k 1,.n n0,.n n1,.n n2,.n (IntKind.wrap .i64 (n3+(1:Int))),.l TB [IntKind.wrap .u8 (ishr IntKind.u64 n0 (IntKind.wrap .i64 ((8:Int)*IntKind.wrap .i64 (IntKind.wrap .i64 (n1-(1:Int))-n3))))]]))
 (.bad 83))
 (.leaf (Step.stop 0 [])))
 |_=>.bad 0
theorem p3i (n0:Int)(n1:Int)(n2:Int)(n3:Int):Imp (o3a [.n n0,.n n1,.n n2,.n n3]) (h3u [.k 0,.n n0,.n n1,.n n2,.n n3]):=
(.pa [1]
(.nd (fun h0=>
(.nd (fun h1=>
(.pa [1,1,1]
.lf)) (fun h1=>
.none))) (fun h0=>
(.pa [1]
.lf))))
def l3f:List Dat→Tree Step
 |[.n n0,.n n1,.n n2,.n n3,.l (Ty.int IntKind.u8) l4]=>
 (.node (decide (n3<n2))
 (.node (!decide (IntKind.wrap .i64 ((8:Int)*IntKind.wrap .i64 (IntKind.wrap .i64 (n1-(1:Int))-n3))<(0:Int)))
 (.node (decide ((List.length l4+1)*1≤140737488355328))
 (.leaf (Step.go [.k 1,.n n0,.n n1,.n n2,.n (IntKind.wrap .i64 (n3+(1:Int))),.l TB (l4++[IntKind.wrap .u8 (ishr IntKind.u64 n0 (IntKind.wrap .i64 ((8:Int)*IntKind.wrap .i64 (IntKind.wrap .i64 (n1-(1:Int))-n3))))])]))
 (.bad 62))
 (.bad 83))
 (.leaf (Step.stop 1 [.l TB l4])))
 |_=>.bad 0
theorem k3y (n0:Int)(n1:Int)(n2:Int)(n3:Int)(l4:List (Ty.den TB)):Imp (l3f [.n n0,.n n1,.n n2,.n n3,.l TB l4]) (h3u [.k 1,.n n0,.n n1,.n n2,.n n3,.l TB l4]):=
(.pa [1]
(.nd (fun h0=>
(.nd (fun h1=>
(.nd (fun h2=>
(.pa [1,1]
.lf)) (fun h2=>
.none))) (fun h1=>
.none))) (fun h0=>
(.pa [1]
.lf))))
theorem o4d:LsOk Try.prog (List.length ([wrN]:List PB)) (lsM [(1,a4g)] (List.length ([wrN]:List PB))) (a0r Try.prog 98):=LsOk.many fun j B hB hk c hc hi=>by
 simp only[b0d]at hB
 split at hB
 ·rename_i e;have:=Nat.eq_of_beq_eq_true e;subst this;cases hB
  have e1:p0c Try.prog 98 1=[cAt Try.prog 98 1]:=a0e (by kernel_rfl)
  have e2:c∈p0c Try.prog 98 1:=a0d hc hi
  rw[e1]at e2;cases List.mem_singleton.1 e2;exact e4g
 cases hB
def j4m (env:List Dat):Tree (Nat×List Dat):=Lk.boxC false LK e4n 98 (lsM [(1,a4g)] (List.length ([wrN]:List PB))) (mkF [.ptr 0 0,.int .u64 0,.int .i64 1] [wrN] [0] [(.tup [],[wrN]),(.tup [],[wrO 1,.arr TB 0])] fun _=>none) env
theorem s3e:ExB j4m:=exB _
def p3o:=Classical.choose s3e
theorem t3u (env:List Dat):p3o env=(j4m env).sel:=Classical.choose_spec s3e env
def B35a:FBox:=mkF [.ptr 0 0,.int .u64 0,.int .i64 1] [wrN] [0] [(.tup [],[wrN]),(.tup [],[wrO 1,.arr TB 0])] p3o
theorem o4x:a0v Try.prog 98 (a0j B35a):=a0p (op:=p3o) l3p hmix false (o4d) (fun env x h=>by rw[t3u]at h;rw[←boxC_lk];exact h)
def a4w:List Dat→Tree (Nat×List Dat)
 |[.n n0,.n n1]=>
 (let r1:=(l3y [.k 0,.n n0,.n n1,.n n1,.n (0:Int)]);
 (.node (isK 0 [] r1)
 (.leaf ((0,[])))
 (.node (isK 1 [.l TB] r1)
 (.leaf ((1,[.l TB (gl TB (dOf r1) 0)])))
 (.bad 351))))
 |_=>.bad 0
theorem v3c (n0:Int)(n1:Int):Imp (a4w [.n n0,.n n1]) (j4m [.n n0,.n n1]):=
(.nd (fun h0=>
(.pa [1]
.lf)) (fun h0=>
(.nd (fun h1=>
(.pa [1]
.lf)) (fun h1=>
.none))))
def i3j (env:List Dat):Tree Step:=Lk.stepMC false LK e4n 98 1 ls0 (mkM 2 [0,1] [(sh 29 [(0,.ptr 0 0),(1,.int .u64 0),(2,.int .i64 1),(7,.int .i64 2),(8,.int .i64 3)],[wrO 1,.arr TB 4])] [] [(.exit 0,sh 29 [(0,.ptr 0 0)],[wrO 1,.arr TB 0])] fun _=>none) env
theorem m3t:ExL i3j:=exL _
def m3c:=Classical.choose m3t
theorem n3a (env:List Dat):m3c env=a0b i3j FU env:=Classical.choose_spec m3t env
def a4u:MBox:=mkM 2 [0,1] [(sh 29 [(0,.ptr 0 0),(1,.int .u64 0),(2,.int .i64 1),(7,.int .i64 2),(8,.int .i64 3)],[wrO 1,.arr TB 4])] [] [(.exit 0,sh 29 [(0,.ptr 0 0)],[wrO 1,.arr TB 0])] m3c
theorem f4d:a4u=mkM 2 [0,1] [(sh 29 [(0,.ptr 0 0),(1,.int .u64 0),(2,.int .i64 1),(7,.int .i64 2),(8,.int .i64 3)],[wrO 1,.arr TB 4])] [] [(.exit 0,sh 29 [(0,.ptr 0 0)],[wrO 1,.arr TB 0])] (a0b i3j FU):=congrArg (fun f=>mkM 2 [0,1] [(sh 29 [(0,.ptr 0 0),(1,.int .u64 0),(2,.int .i64 1),(7,.int .i64 2),(8,.int .i64 3)],[wrO 1,.arr TB 4])] [] [(.exit 0,sh 29 [(0,.ptr 0 0)],[wrO 1,.arr TB 0])] f) (funext n3a)
theorem b4y: ∀t s x,(a0h a4u t s).sel=some x→a0k Try.prog 2 (.loop (cAt Try.prog 98 1)) t s x:=by
 rw[f4d]
 exact a0o (st:=i3j) (m:=FU) l3p hmix false (LsOk.none _ _ _) (by kernel_rfl) (fun env y h=>by rw[←stepMC_lk];exact h)
def l3j:List Dat→Tree Step
 |[.n n0,.n n1,.n n2,.n n3,.l (Ty.int IntKind.u8) l4]=>
 (.node (decide (n3<n2))
 (.node (!decide (IntKind.wrap .i64 ((8:Int)*IntKind.wrap .i64 (IntKind.wrap .i64 (n1-(1:Int))-n3))<(0:Int)))
 (.node (decide ((List.length l4+1)*1≤140737488355328))
 (.leaf (Step.go [.k 0,.n n0,.n n1,.n n2,.n (IntKind.wrap .i64 (n3+(1:Int))),.l TB (l4++[IntKind.wrap .u8 (ishr IntKind.u64 n0 (IntKind.wrap .i64 ((8:Int)*IntKind.wrap .i64 (IntKind.wrap .i64 (n1-(1:Int))-n3))))])]))
 (.bad 62))
 (.bad 83))
 (.leaf (Step.stop 0 [.l TB l4])))
 |_=>.bad 0
theorem k3z (n0:Int)(n1:Int)(n2:Int)(n3:Int)(l4:List (Ty.den TB)):Imp (l3j [.n n0,.n n1,.n n2,.n n3,.l TB l4]) (i3j [.k 0,.n n0,.n n1,.n n2,.n n3,.l TB l4]):=
(.pa [1]
(.nd (fun h0=>
(.nd (fun h1=>
(.nd (fun h2=>
(.pa [1,1]
.lf)) (fun h2=>
.none))) (fun h1=>
.none))) (fun h0=>
(.pa [1]
.lf))))
theorem j4j:LsOk Try.prog (List.length ([wrO 1,.arr TB 2]:List PB)) (lsM [(1,a4u)] (List.length ([wrO 1,.arr TB 2]:List PB))) (a0r Try.prog 98):=LsOk.many fun j B hB hk c hc hi=>by
 simp only[b0d]at hB
 split at hB
 ·rename_i e;have:=Nat.eq_of_beq_eq_true e;subst this;cases hB
  have e1:p0c Try.prog 98 1=[cAt Try.prog 98 1]:=a0e (by kernel_rfl)
  have e2:c∈p0c Try.prog 98 1:=a0d hc hi
  rw[e1]at e2;cases List.mem_singleton.1 e2;exact b4y
 cases hB
def p4m (env:List Dat):Tree (Nat×List Dat):=Lk.boxC false LK e4n 98 (lsM [(1,a4u)] (List.length ([wrO 1,.arr TB 2]:List PB))) (mkF [.ptr 0 0,.int .u64 0,.int .i64 1] [wrO 1,.arr TB 2] [0,1] [(.tup [],[wrO 1,.arr TB 0])] fun _=>none) env
theorem s3g:ExB p4m:=exB _
def m3q:=Classical.choose s3g
theorem s3h (env:List Dat):m3q env=(p4m env).sel:=Classical.choose_spec s3g env
def B35b:FBox:=mkF [.ptr 0 0,.int .u64 0,.int .i64 1] [wrO 1,.arr TB 2] [0,1] [(.tup [],[wrO 1,.arr TB 0])] m3q
theorem i4o:a0v Try.prog 98 (a0j B35b):=a0p (op:=m3q) l3p hmix false (j4j) (fun env x h=>by rw[s3h]at h;rw[←boxC_lk];exact h)
def a4h:List Dat→Tree (Nat×List Dat)
 |[.n n0,.n n1,.l (Ty.int IntKind.u8) l2]=>
 (let r1:=(m3c [.k 0,.n n0,.n n1,.n n1,.n (0:Int),.l TB l2]);
 (.node (isK 0 [.l TB] r1)
 (.leaf ((0,[.l TB (gl TB (dOf r1) 0)])))
 (.bad 351)))
 |_=>.bad 0
theorem y3e (n0:Int)(n1:Int)(l2:List (Ty.den TB)):Imp (a4h [.n n0,.n n1,.l TB l2]) (p4m [.n n0,.n n1,.l TB l2]):=
(.nd (fun h0=>
(.pa [1]
.lf)) (fun h0=>
.none))
def z3u:FuncId→Option a0q:=e1c 98 [B35a,B35b] e4n
theorem p3c:CsOk Try.prog z3u:=h0a l3p fun B hB=>by
 simp only[List.mem_cons,List.not_mem_nil,or_false]at hB
 rcases hB with rfl|rfl
 ·exact o4x
 ·exact i4o
def rdB (h:Nat):PB:=.cells [.imm TB h,.bool (h+1)]
def k3e (env:List Dat):Tree Step:=Lk.stepMC false LK z3u 74 3 ls0 (mkM 0 [] [(sh 20 [(0,.imm TB 0),(3,.int .u64 1),(4,.int .i64 2)],[])] [] [(.exit 0,sh 20 [(3,.int .u64 0)],[])] fun _=>none) env
theorem m3z:ExL k3e:=exL _
def l3x:=Classical.choose m3z
theorem m3r (env:List Dat):l3x env=a0b k3e FU env:=Classical.choose_spec m3z env
def y3o:MBox:=mkM 0 [] [(sh 20 [(0,.imm TB 0),(3,.int .u64 1),(4,.int .i64 2)],[])] [] [(.exit 0,sh 20 [(3,.int .u64 0)],[])] l3x
theorem c4o:y3o=mkM 0 [] [(sh 20 [(0,.imm TB 0),(3,.int .u64 1),(4,.int .i64 2)],[])] [] [(.exit 0,sh 20 [(3,.int .u64 0)],[])] (a0b k3e FU):=congrArg (fun f=>mkM 0 [] [(sh 20 [(0,.imm TB 0),(3,.int .u64 1),(4,.int .i64 2)],[])] [] [(.exit 0,sh 20 [(3,.int .u64 0)],[])] f) (funext m3r)
theorem e4y: ∀t s x,(a0h y3o t s).sel=some x→a0k Try.prog 0 (.loop (cAt Try.prog 74 3)) t s x:=by
 rw[c4o]
 exact a0o (st:=k3e) (m:=FU) p3c hmix false (LsOk.none _ _ _) (by kernel_rfl) (fun env y h=>by rw[←stepMC_lk];exact h)
def l3c:List Dat→Tree Step
 |[.l (Ty.int IntKind.u8) l0,.n n1,.n n2]=>
 (.node (decide (n2<(↑(List.length l0):Int)))
 (.node (inR n2 (List.length l0))
 (.leaf (Step.go [.k 0,.l TB l0,.n (ior IntKind.u64 (ishl IntKind.u64 n1 (8:Int)) (IntKind.wrap .u64 (List.getD l0 (Int.toNat n2) (0:Int)))),.n (IntKind.wrap .i64 (n2+(1:Int)))]))
 (.bad 10))
 (.leaf (Step.stop 0 [.n n1])))
 |_=>.bad 0
theorem k3v (l0:List (Ty.den TB))(n1:Int)(n2:Int):Imp (l3c [.l TB l0,.n n1,.n n2]) (k3e [.k 0,.l TB l0,.n n1,.n n2]):=
(.pa [1]
(.nd (fun h0=>
(.pa [1]
(.nd (fun h1=>
(.pa [1]
.lf)) (fun h1=>
.none)))) (fun h0=>
(.pa [1]
.lf))))
theorem j4f:LsOk Try.prog (List.length ([]:List PB)) (lsM [(3,y3o)] (List.length ([]:List PB))) (a0r Try.prog 74):=LsOk.many fun j B hB hk c hc hi=>by
 simp only[b0d]at hB
 split at hB
 ·rename_i e;have:=Nat.eq_of_beq_eq_true e;subst this;cases hB
  have e1:p0c Try.prog 74 3=[cAt Try.prog 74 3]:=a0e (by kernel_rfl)
  have e2:c∈p0c Try.prog 74 3:=a0d hc hi
  rw[e1]at e2;cases List.mem_singleton.1 e2;exact e4y
 cases hB
def m4b (env:List Dat):Tree (Nat×List Dat):=Lk.boxC false LK z3u 74 (lsM [(3,y3o)] (List.length ([]:List PB))) (mkF [.imm TB 0] [] [] [(.int .u64 0,[])] fun _=>none) env
theorem t3s:ExB m4b:=exB _
def j3g:=Classical.choose t3s
theorem s3t (env:List Dat):j3g env=(m4b env).sel:=Classical.choose_spec t3s env
def B17r:FBox:=mkF [.imm TB 0] [] [] [(.int .u64 0,[])] j3g
theorem f4f:a0v Try.prog 74 (a0j B17r):=a0p (op:=j3g) p3c hmix false (j4f) (fun env x h=>by rw[s3t]at h;rw[←boxC_lk];exact h)
def z3c:List Dat→Tree (Nat×List Dat)
 |[.l (Ty.int IntKind.u8) l0]=>
 (let r1:=(l3x [.k 0,.l TB l0,.n (0:Int),.n (0:Int)]);
 (.node (isK 0 [.n] r1)
 (.leaf ((0,[.n (gn (dOf r1) 0)])))
 (.bad 351)))
 |_=>.bad 0
theorem x3a (l0:List (Ty.den TB)):Imp (z3c [.l TB l0]) (m4b [.l TB l0]):=
(.nd (fun h0=>
(.pa [1]
.lf)) (fun h0=>
.none))
def k4d:FuncId→Option a0q:=a0s 74 B17r z3u
theorem t3r:CsOk Try.prog k4d:=a0g p3c f4f
def l4v (env:List Dat):Tree (Nat×List Dat):=Lk.boxCV [(some 0,0,.imm TB)] false LK k4d 94 ls0 (mkF [.ptr 0 0,.int .i64 0] [rdB 1] [0] [(.imm TB 0,[rdB 1]),(.nilsl,[rdB 0])] fun _=>none) env
theorem t3i:ExB l4v:=exB _
def h3f:=Classical.choose t3i
theorem p3a (env:List Dat):h3f env=(l4v env).sel:=Classical.choose_spec t3i env
def B33r:FBox:=mkF [.ptr 0 0,.int .i64 0] [rdB 1] [0] [(.imm TB 0,[rdB 1]),(.nilsl,[rdB 0])] h3f
theorem B33r_ok:a0v Try.prog 94 (a0j B33r):=x3p (cv:=[(some 0,0,.imm TB)]) (op:=h3f) t3r hmix false (LsOk.none _ _ _) (fun env x h=>by rw[p3a]at h;rw[←boxCV_lk];exact h)
def r3r:List Dat→Tree (Nat×List Dat)
 |[.n n0,.l (Ty.int IntKind.u8) l1,.b b2]=>
 (.node (b2)
 (.leaf ((1,[.l TB [],.b true])))
 (.node (decide (n0<(0:Int)))
 (.leaf ((1,[.l TB [],.b true])))
 (.node (decide (n0>(↑(List.length l1):Int)))
 (.leaf ((1,[.l TB [],.b true])))
 (.node (true&&decide ((0:Int)≤n0))
 (.leaf ((0,[.l TB (List.take (Int.toNat n0) l1),.l TB (List.drop (Int.toNat n0) l1),.b b2])))
 (.bad 39)))))
 |_=>.bad 0
theorem n3y (n0:Int)(l1:List (Ty.den TB))(b2:Bool):Imp (r3r [.n n0,.l TB l1,.b b2]) (l4v [.n n0,.l TB l1,.b b2]):=
(.pa [0]
(.nd (fun h0=>
(.pa [1,1,1,1,1]
.lf)) (fun h0=>
(.nd (fun h1=>
(.pa [1,1,1]
.lf)) (fun h1=>
(.nd (fun h2=>
(.pa [1]
.lf)) (fun h2=>
(.sT ((decide (n0=n0)))
(.pt (c:=(decide ((0:Int)≤n0)&&decide (n0≤(↑(List.length l1):Int)))) (by kernel_rfl) (by kernel_rfl) (by(simp only[w64d,decide_eq_true_eq,decide_eq_false_iff_not,beq_iff_eq,beq_eq_false_iff_ne,bne_iff_ne,ne_eq,inR,Bool.and_eq_true,Bool.and_eq_false_iff,Bool.not_eq_true',Bool.not_eq_false',Bool.not_eq_eq_eq_not,Bool.not_true,Bool.not_false]at*;omega))
(.nd (fun h3=>
(.sT ((true&&decide ((↑(List.length l1):Int)≤(↑(List.length l1):Int))))
(.pt (c:=(decide ((0:Int)≤n0)&&decide (n0≤(↑(List.length l1):Int)))) (by kernel_rfl) (by kernel_rfl) (by(simp only[w64d,decide_eq_true_eq,decide_eq_false_iff_not,beq_iff_eq,beq_eq_false_iff_ne,bne_iff_ne,ne_eq,inR,Bool.and_eq_true,Bool.and_eq_false_iff,Bool.not_eq_true',Bool.not_eq_false',Bool.not_eq_eq_eq_not,Bool.not_true,Bool.not_false]at*;omega))
(.pa [1]
.lf)))) (fun h3=>
.none)))))))))))
def y3x:FuncId→Option a0q:=e1c 94 [B33r] k4d
theorem n3s:CsOk Try.prog y3x:=h0a t3r fun B hB=>by
 cases List.mem_singleton.1 hB
 exact B33r_ok
def j3m (env:List Dat):Tree Step:=Lk.stepMC false LK y3x 93 3 ls0 (mkM 1 [] [(sh 40 [(0,.ptr 0 0),(1,.int .i64 0),(5,.int .u64 1),(10,.imm TB 2),(11,.int .i64 3),(12,.int .i64 4)],[rdB 5]),(sh 40 [(0,.ptr 0 0),(1,.int .i64 0),(5,.int .u64 1),(10,.nilsl),(11,.int .i64 2),(12,.int .i64 3)],[rdB 4])] [] [(.exit 0,sh 40 [(0,.ptr 0 0),(1,.int .i64 0),(5,.int .u64 1)],[rdB 2])] fun _=>none) env
theorem m3x:ExL j3m:=exL _
def h3p:=Classical.choose m3x
theorem k3g (env:List Dat):h3p env=a0b j3m FU env:=Classical.choose_spec m3x env
def a4b:MBox:=mkM 1 [] [(sh 40 [(0,.ptr 0 0),(1,.int .i64 0),(5,.int .u64 1),(10,.imm TB 2),(11,.int .i64 3),(12,.int .i64 4)],[rdB 5]),(sh 40 [(0,.ptr 0 0),(1,.int .i64 0),(5,.int .u64 1),(10,.nilsl),(11,.int .i64 2),(12,.int .i64 3)],[rdB 4])] [] [(.exit 0,sh 40 [(0,.ptr 0 0),(1,.int .i64 0),(5,.int .u64 1)],[rdB 2])] h3p
theorem c4b:a4b=mkM 1 [] [(sh 40 [(0,.ptr 0 0),(1,.int .i64 0),(5,.int .u64 1),(10,.imm TB 2),(11,.int .i64 3),(12,.int .i64 4)],[rdB 5]),(sh 40 [(0,.ptr 0 0),(1,.int .i64 0),(5,.int .u64 1),(10,.nilsl),(11,.int .i64 2),(12,.int .i64 3)],[rdB 4])] [] [(.exit 0,sh 40 [(0,.ptr 0 0),(1,.int .i64 0),(5,.int .u64 1)],[rdB 2])] (a0b j3m FU):=congrArg (fun f=>mkM 1 [] [(sh 40 [(0,.ptr 0 0),(1,.int .i64 0),(5,.int .u64 1),(10,.imm TB 2),(11,.int .i64 3),(12,.int .i64 4)],[rdB 5]),(sh 40 [(0,.ptr 0 0),(1,.int .i64 0),(5,.int .u64 1),(10,.nilsl),(11,.int .i64 2),(12,.int .i64 3)],[rdB 4])] [] [(.exit 0,sh 40 [(0,.ptr 0 0),(1,.int .i64 0),(5,.int .u64 1)],[rdB 2])] f) (funext k3g)
theorem b4f: ∀t s x,(a0h a4b t s).sel=some x→a0k Try.prog 1 (.loop (cAt Try.prog 93 3)) t s x:=by
 rw[c4b]
 exact a0o (st:=j3m) (m:=FU) n3s hmix false (LsOk.none _ _ _) (by kernel_rfl) (fun env y h=>by rw[←stepMC_lk];exact h)
def l3g:List Dat→Tree Step
 |[.n n0,.n n1,.l (Ty.int IntKind.u8) l2,.n n3,.n n4,.l (Ty.int IntKind.u8) l5,.b b6]=>
 (.node (decide (n4<n3))
 (.node (inR n4 (List.length l2))
 (.leaf (Step.go [.k 0,.n n0,.n (ior IntKind.u64 (ishl IntKind.u64 n1 (8:Int)) (IntKind.wrap .u64 (List.getD l2 (Int.toNat n4) (0:Int)))),.l TB l2,.n n3,.n (IntKind.wrap .i64 (n4+(1:Int))),.l TB l5,.b b6]))
 (.bad 10))
 (.leaf (Step.stop 0 [.n n0,.n n1,.l TB l5,.b b6])))
 |_=>.bad 0
theorem k3x (n0:Int)(n1:Int)(l2:List (Ty.den TB))(n3:Int)(n4:Int)(l5:List (Ty.den TB))(b6:Bool):Imp (l3g [.n n0,.n n1,.l TB l2,.n n3,.n n4,.l TB l5,.b b6]) (j3m [.k 0,.n n0,.n n1,.l TB l2,.n n3,.n n4,.l TB l5,.b b6]):=
(.pa [1]
(.nd (fun h0=>
(.nd (fun h1=>
(.pa [1,1]
.lf)) (fun h1=>
.none))) (fun h0=>
(.pa [1]
.lf))))
def w3g:List Dat→Tree Step
 |[.n n0,.n n1,.n n2,.n n3,.l (Ty.int IntKind.u8) l4,.b b5]=>
 (.leaf (Step.stop 0 [.n n0,.n n1,.l TB l4,.b b5]))
 |_=>.bad 0
theorem p3h (n0:Int)(n1:Int)(n2:Int)(n3:Int)(l4:List (Ty.den TB))(b5:Bool)(g0:n2=0)(g1:n3=0):Imp (w3g [.n n0,.n n1,.n n2,.n n3,.l TB l4,.b b5]) (j3m [.k 1,.n n0,.n n1,.n n2,.n n3,.l TB l4,.b b5]):=
(.pa [1]
(.sF ((decide (n3<n2)))
(.pa [1]
.lf)))
theorem k4b:LsOk Try.prog (List.length ([rdB 1]:List PB)) (lsM [(3,a4b)] (List.length ([rdB 1]:List PB))) (a0r Try.prog 93):=LsOk.many fun j B hB hk c hc hi=>by
 simp only[b0d]at hB
 split at hB
 ·rename_i e;have:=Nat.eq_of_beq_eq_true e;subst this;cases hB
  have e1:p0c Try.prog 93 3=[cAt Try.prog 93 3]:=a0e (by kernel_rfl)
  have e2:c∈p0c Try.prog 93 3:=a0d hc hi
  rw[e1]at e2;cases List.mem_singleton.1 e2;exact b4f
 cases hB
def n4t (env:List Dat):Tree (Nat×List Dat):=Lk.boxC false LK y3x 93 (lsM [(3,a4b)] (List.length ([rdB 1]:List PB))) (mkF [.ptr 0 0,.int .i64 0] [rdB 1] [0] [(.iface 5 (.int .u8 0),[rdB 1]),(.iface 123 (.int .u16 0),[rdB 1]),(.iface 115 (.int .u32 0),[rdB 1]),(.iface 104 (.int .u64 0),[rdB 1])] fun _=>none) env
theorem s3k:ExB n4t:=exB _
def i3y:=Classical.choose s3k
theorem i3w (env:List Dat):i3y env=(n4t env).sel:=Classical.choose_spec s3k env
def B34r:FBox:=mkF [.ptr 0 0,.int .i64 0] [rdB 1] [0] [(.iface 5 (.int .u8 0),[rdB 1]),(.iface 123 (.int .u16 0),[rdB 1]),(.iface 115 (.int .u32 0),[rdB 1]),(.iface 104 (.int .u64 0),[rdB 1])] i3y
theorem B34r_ok:a0v Try.prog 93 (a0j B34r):=a0p (op:=i3y) n3s hmix false (k4b) (fun env x h=>by rw[i3w]at h;rw[←boxC_lk];exact h)
def j3v:List Dat→Tree (Nat×List Dat)
 |[.n n0,.l (Ty.int IntKind.u8) l1,.b b2]=>
 (let r1:=(h3f [.n n0,.l TB l1,.b b2]);
 (.node (isK 0 [.l TB,.l TB,.b] r1)
 (let r2:=(h3p [.k 0,.n n0,.n (0:Int),.l TB (gl TB (dOf r1) 0),.n (↑(List.length (gl TB (dOf r1) 0)):Int),.n (0:Int),.l TB (gl TB (dOf r1) 1),.b (gb (dOf r1) 2)]);
 (.node (isK 0 [.n,.n,.l TB,.b] r2)
 (.node (gn (dOf r2) 0==(1:Int))
 (.leaf ((0,[.n (IntKind.wrap .u8 (gn (dOf r2) 1)),.l TB (gl TB (dOf r2) 2),.b (gb (dOf r2) 3)])))
 (.node (gn (dOf r2) 0==(2:Int))
 (.leaf ((1,[.n (IntKind.wrap .u16 (gn (dOf r2) 1)),.l TB (gl TB (dOf r2) 2),.b (gb (dOf r2) 3)])))
 (.node (gn (dOf r2) 0==(4:Int))
 (.leaf ((2,[.n (IntKind.wrap .u32 (gn (dOf r2) 1)),.l TB (gl TB (dOf r2) 2),.b (gb (dOf r2) 3)])))
 (.leaf ((3,[.n (gn (dOf r2) 1),.l TB (gl TB (dOf r2) 2),.b (gb (dOf r2) 3)]))))))
 (.bad 351)))
 (.node (isK 1 [.l TB,.b] r1)
 (let r2:=(h3p [.k 1,.n n0,.n (0:Int),.n (0:Int),.n (0:Int),.l TB (gl TB (dOf r1) 0),.b (gb (dOf r1) 1)]);
 (.node (isK 0 [.n,.n,.l TB,.b] r2)
 (.node (gn (dOf r2) 0==(1:Int))
 (.leaf ((0,[.n (IntKind.wrap .u8 (gn (dOf r2) 1)),.l TB (gl TB (dOf r2) 2),.b (gb (dOf r2) 3)])))
 (.node (gn (dOf r2) 0==(2:Int))
 (.leaf ((1,[.n (IntKind.wrap .u16 (gn (dOf r2) 1)),.l TB (gl TB (dOf r2) 2),.b (gb (dOf r2) 3)])))
 (.node (gn (dOf r2) 0==(4:Int))
 (.leaf ((2,[.n (IntKind.wrap .u32 (gn (dOf r2) 1)),.l TB (gl TB (dOf r2) 2),.b (gb (dOf r2) 3)])))
 (.leaf ((3,[.n (gn (dOf r2) 1),.l TB (gl TB (dOf r2) 2),.b (gb (dOf r2) 3)]))))))
 (.bad 351)))
 (.bad 351))))
 |_=>.bad 0
theorem i3d (n0:Int)(l1:List (Ty.den TB))(b2:Bool):Imp (j3v [.n n0,.l TB l1,.b b2]) (n4t [.n n0,.l TB l1,.b b2]):=
(.pa [1]
(.nd (fun h0=>
(.pa [1]
(.nd (fun h1=>
(.nd (fun h2=>
(.pa [1]
.lf)) (fun h2=>
(.nd (fun h3=>
(.pa [1]
.lf)) (fun h3=>
(.nd (fun h4=>
(.pa [1]
.lf)) (fun h4=>
(.pa [1]
.lf)))))))) (fun h1=>
.none)))) (fun h0=>
(.nd (fun h1=>
(.pa [1]
(.nd (fun h2=>
(.nd (fun h3=>
(.pa [1]
.lf)) (fun h3=>
(.nd (fun h4=>
(.pa [1]
.lf)) (fun h4=>
(.nd (fun h5=>
(.pa [1]
.lf)) (fun h5=>
(.pa [1]
.lf)))))))) (fun h2=>
.none)))) (fun h1=>
.none)))))
def h4l:FuncId→Option a0q:=e1c 93 [B34r] y3x
theorem t3c:CsOk Try.prog h4l:=h0a n3s fun B hB=>by
 cases List.mem_singleton.1 hB
 exact B34r_ok
def ev_13r (env:List Dat):Tree (Nat×List Dat):=Lk.boxCV [(none,0,.imm TB)] false LK h4l 79 ls0 (mkF [.imm TB 0] [] [] [(.ptr 0 0,[rdB 0])] fun _=>none) env
theorem t3p:ExB ev_13r:=exB _
def i4y:=Classical.choose t3p
theorem g4j (env:List Dat):i4y env=(ev_13r env).sel:=Classical.choose_spec t3p env
def B13r:FBox:=mkF [.imm TB 0] [] [] [(.ptr 0 0,[rdB 0])] i4y
theorem B13r_ok:a0v Try.prog 79 (a0j B13r):=x3p (cv:=[(none,0,.imm TB)]) (op:=i4y) t3c hmix false (LsOk.none _ _ _) (fun env x h=>by rw[g4j]at h;rw[←boxCV_lk];exact h)
def g4y:FuncId→Option a0q:=e1c 79 [B13r] h4l
theorem u3g:CsOk Try.prog g4y:=h0a t3c fun B hB=>by
 cases List.mem_singleton.1 hB
 exact B13r_ok
def m4k (env:List Dat):Tree (Nat×List Dat):=Lk.boxC false LK g4y 80 ls0 (mkF [.ptr 0 0] [rdB 0] [0] [(.int .u8 0,[rdB 1])] fun _=>none) env
theorem u3p:ExB m4k:=exB _
def i3z:=Classical.choose u3p
theorem s3l (env:List Dat):i3z env=(m4k env).sel:=Classical.choose_spec u3p env
def B77r:FBox:=mkF [.ptr 0 0] [rdB 0] [0] [(.int .u8 0,[rdB 1])] i3z
theorem i4v:a0v Try.prog 80 (a0j B77r):=a0p (op:=i3z) u3g hmix false (LsOk.none _ _ _) (fun env x h=>by rw[s3l]at h;rw[←boxC_lk];exact h)
def y3u:List Dat→Tree (Nat×List Dat)
 |[.l (Ty.int IntKind.u8) l0,.b b1]=>
 (let r1:=(i3y [.n (1:Int),.l TB l0,.b b1]);
 (.node (isK 0 [.n,.l TB,.b] r1)
 (.leaf ((0,[.n (gn (dOf r1) 0),.l TB (gl TB (dOf r1) 1),.b (gb (dOf r1) 2)])))
 (.node (isK 1 [.n,.l TB,.b] r1)
 (.bad 113)
 (.node (isK 2 [.n,.l TB,.b] r1)
 (.bad 113)
 (.node (isK 3 [.n,.l TB,.b] r1)
 (.bad 113)
 (.bad 351))))))
 |_=>.bad 0
theorem v3i (l0:List (Ty.den TB))(b1:Bool):Imp (y3u [.l TB l0,.b b1]) (m4k [.l TB l0,.b b1]):=
(.pa [1]
(.nd (fun h0=>
(.pa [1,1]
.lf)) (fun h0=>
(.nd (fun h1=>
(.pa [1]
.none)) (fun h1=>
(.nd (fun h2=>
(.pa [1]
.none)) (fun h2=>
(.nd (fun h3=>
(.pa [1]
.none)) (fun h3=>
.none)))))))))
def p4e:FuncId→Option a0q:=e1c 80 [B77r] g4y
theorem t3j:CsOk Try.prog p4e:=h0a u3g fun B hB=>by
 cases List.mem_singleton.1 hB
 exact i4v
def f4y (env:List Dat):Tree (Nat×List Dat):=Lk.boxC false LK p4e 81 ls0 (mkF [.ptr 0 0] [rdB 0] [0] [(.int .u64 0,[rdB 1])] fun _=>none) env
theorem s3w:ExB f4y:=exB _
def i3c:=Classical.choose s3w
theorem s3z (env:List Dat):i3c env=(f4y env).sel:=Classical.choose_spec s3w env
def B78r:FBox:=mkF [.ptr 0 0] [rdB 0] [0] [(.int .u64 0,[rdB 1])] i3c
theorem n4x:a0v Try.prog 81 (a0j B78r):=a0p (op:=i3c) t3j hmix false (LsOk.none _ _ _) (fun env x h=>by rw[s3z]at h;rw[←boxC_lk];exact h)
def y3r:List Dat→Tree (Nat×List Dat)
 |[.l (Ty.int IntKind.u8) l0,.b b1]=>
 (let r1:=(i3y [.n (8:Int),.l TB l0,.b b1]);
 (.node (isK 0 [.n,.l TB,.b] r1)
 (.bad 113)
 (.node (isK 1 [.n,.l TB,.b] r1)
 (.bad 113)
 (.node (isK 2 [.n,.l TB,.b] r1)
 (.bad 113)
 (.node (isK 3 [.n,.l TB,.b] r1)
 (.leaf ((0,[.n (gn (dOf r1) 0),.l TB (gl TB (dOf r1) 1),.b (gb (dOf r1) 2)])))
 (.bad 351))))))
 |_=>.bad 0
theorem v3q (l0:List (Ty.den TB))(b1:Bool):Imp (y3r [.l TB l0,.b b1]) (f4y [.l TB l0,.b b1]):=
(.pa [1]
(.nd (fun h0=>
(.pa [1]
.none)) (fun h0=>
(.nd (fun h1=>
(.pa [1]
.none)) (fun h1=>
(.nd (fun h2=>
(.pa [1]
.none)) (fun h2=>
(.nd (fun h3=>
(.pa [1,1]
.lf)) (fun h3=>
.none)))))))))
def m4t:FuncId→Option a0q:=e1c 81 [B78r] p4e
theorem s3d:CsOk Try.prog m4t:=h0a t3j fun B hB=>by
 cases List.mem_singleton.1 hB
 exact n4x
def n4w (env:List Dat):Tree (Nat×List Dat):=Lk.boxC false LK m4t 84 ls0 (mkF [.ptr 0 0] [rdB 0] [0] [(.int .u16 0,[rdB 1])] fun _=>none) env
theorem t3d:ExB n4w:=exB _
def k3u:=Classical.choose t3d
theorem s3o (env:List Dat):k3u env=(n4w env).sel:=Classical.choose_spec t3d env
def B83r:FBox:=mkF [.ptr 0 0] [rdB 0] [0] [(.int .u16 0,[rdB 1])] k3u
theorem k4x:a0v Try.prog 84 (a0j B83r):=a0p (op:=k3u) s3d hmix false (LsOk.none _ _ _) (fun env x h=>by rw[s3o]at h;rw[←boxC_lk];exact h)
def b4b:List Dat→Tree (Nat×List Dat)
 |[.l (Ty.int IntKind.u8) l0,.b b1]=>
 (let r1:=(i3y [.n (2:Int),.l TB l0,.b b1]);
 (.node (isK 0 [.n,.l TB,.b] r1)
 (.bad 113)
 (.node (isK 1 [.n,.l TB,.b] r1)
 (.leaf ((0,[.n (gn (dOf r1) 0),.l TB (gl TB (dOf r1) 1),.b (gb (dOf r1) 2)])))
 (.node (isK 2 [.n,.l TB,.b] r1)
 (.bad 113)
 (.node (isK 3 [.n,.l TB,.b] r1)
 (.bad 113)
 (.bad 351))))))
 |_=>.bad 0
theorem y3j (l0:List (Ty.den TB))(b1:Bool):Imp (b4b [.l TB l0,.b b1]) (n4w [.l TB l0,.b b1]):=
(.pa [1]
(.nd (fun h0=>
(.pa [1]
.none)) (fun h0=>
(.nd (fun h1=>
(.pa [1,1]
.lf)) (fun h1=>
(.nd (fun h2=>
(.pa [1]
.none)) (fun h2=>
(.nd (fun h3=>
(.pa [1]
.none)) (fun h3=>
.none)))))))))
def g4b:FuncId→Option a0q:=e1c 84 [B83r] m4t
theorem t3z:CsOk Try.prog g4b:=h0a s3d fun B hB=>by
 cases List.mem_singleton.1 hB
 exact k4x
def h4y (env:List Dat):Tree (Nat×List Dat):=Lk.boxC false LK g4b 83 ls0 (mkF [.ptr 0 0,.int .i64 0] [rdB 1] [0] [(.own 1,[rdB 0,.arr TB 2])] fun _=>none) env
theorem t3e:ExB h4y:=exB _
def k3b:=Classical.choose t3e
theorem u3l (env:List Dat):k3b env=(h4y env).sel:=Classical.choose_spec t3e env
def B82r:FBox:=mkF [.ptr 0 0,.int .i64 0] [rdB 1] [0] [(.own 1,[rdB 0,.arr TB 2])] k3b
theorem n4n:a0v Try.prog 83 (a0j B82r):=a0p (op:=k3b) t3z hmix false (LsOk.none _ _ _) (fun env x h=>by rw[u3l]at h;rw[←boxC_lk];exact h)
def z3n:List Dat→Tree (Nat×List Dat)
 |[.n n0,.l (Ty.int IntKind.u8) l1,.b b2]=>
 (let r1:=(h3f [.n n0,.l TB l1,.b b2]);
 (.node (isK 0 [.l TB,.l TB,.b] r1)
 (let r2:=(i2m [.l TB (gl TB (dOf r1) 0)]);
 (.node (isK 0 [.l TB] r2)
 (.leaf ((0,[.l TB (gl TB (dOf r1) 1),.b (gb (dOf r1) 2),.l TB (gl TB (dOf r2) 0)])))
 (.bad 351)))
 (.node (isK 1 [.l TB,.b] r1)
 (.leaf ((0,[.l TB (gl TB (dOf r1) 0),.b (gb (dOf r1) 1),.l TB (gl TB (dOf (i2m [.l TB []])) 0)])))
 (.bad 351))))
 |_=>.bad 0
theorem v3b (n0:Int)(l1:List (Ty.den TB))(b2:Bool):Imp (z3n [.n n0,.l TB l1,.b b2]) (h4y [.n n0,.l TB l1,.b b2]):=
(.pa [1]
(.nd (fun h0=>
(.pa [1]
(.nd (fun h1=>
(.pa [1,1]
.lf)) (fun h1=>
.none)))) (fun h0=>
(.nd (fun h1=>
(.pa [1,1,1,1]
.lf)) (fun h1=>
.none)))))
def m4q:FuncId→Option a0q:=e1c 83 [B82r] g4b
theorem u3e:CsOk Try.prog m4q:=h0a t3z fun B hB=>by
 cases List.mem_singleton.1 hB
 exact n4n
abbrev TS:Ty:=.str
abbrev TBk:Ty:=.arr 256 (.int .u8)
abbrev TWr:Ty:=.pair (.int .i64) (.arr 256 (.int .u8))
abbrev TOp:Ty:=.pair (.int .i64) .str
def fnV0 (f:Nat):PV:=.fn (.func f) [] []
def fnC (f:Nat)(cs:List PV):PV:=.fn (.func f) [] cs
def dkB (a c h:Nat):PB:=.cells [.own a,.own c,.int .i64 h,.bool (h+1),.int .i64 (h+2),.bool (h+3)]
def faB (h:Nat):PB:=.cells [.imm TB h]
def S_d8:BSh:={args:=[.int .i64 0],blks:=[],log:=[],outs:=[(.ptr 0 0,[dkB 1 2 0,.arr TBk 4,.arr TWr 5])]}
def ev_d8:List Dat→Tree (Nat×List Dat):=evFV [(none,1,.own TWr)] m4q 8 ls0 S_d8
theorem e_d8: ∃op,IsF ev_d8 8 S_d8 op:=bxFV u3e (LsOk.none _ _ _)
def n3c:OpA:=opF e_d8
theorem v4f {n0:Int}(h0:((decide ((0:Int)≤imin (imax n0 (0:Int)) (4096:Int))&&decide (imin (imax n0 (0:Int)) (4096:Int)≤imin (imax n0 (0:Int)) (4096:Int))&&decide (imin (imax n0 (0:Int)) (4096:Int)*(256:Int)≤(281474976710656:Int)))=true)):n3c [.n n0]=some ((0,[.n (0:Int),.b false,.n (0:Int),.b false,.l TBk (repC (Int.toNat (imin (imax n0 (0:Int)) (4096:Int))) (Ty.dflt TBk)),.l TWr []])):=t0c e_d8 (sT h0<|sP [1]<|sL)
def c4l:FuncId→Option a0q:=e1c 8 [S_d8.k n3c] m4q
theorem l3u:CsOk Try.prog c4l:=csA1 u3e e_d8
def i4x:LSh:={K:=3,log:=[1],ins:=[(sh 48 [(0,.ptr 0 0),(1,fnV0 77),(10,.own 2),(11,.int .i64 0),(12,.int .i64 1)],[dkB 1 2 2,.arr TBk 6,.arr TWr 7])],nils:=[],outs:=[(.exit 0,sh 48 [(0,.ptr 0 0)],[dkB 1 2 0,.arr TBk 4,.arr TWr 5])],cv:=[]}
def m3e:List Dat→Tree Step:=evL c4l 50 1 ls0 i4x
theorem q3m: ∃op,IsL m3e 50 1 i4x op:=bxL l3u (LsOk.none _ _ _)
def r3x:OpA:=opL q3m
theorem y3c (env:List Dat):r3x env=a0b m3e FU env:=h3y q3m env
abbrev t4z:MBox:=boxL q3m
theorem y3i {n0 n1 n2:Int}{b3:Bool}{n4:Int}{b5:Bool}{l6:List (Ty.den TBk)}{l7:List (Ty.den TWr)}(g0:0≤n1)(g1:n0=(l7.length:Int))(h0:(n1<n0))(h1:(inR (Prod.fst (List.getD l7 (Int.toNat n1) (Ty.dflt TWr))) (List.length l6)=true)):(m3e [.k 0,.n n0,.n n1,.n n2,.b b3,.n n4,.b b5,.l TBk l6,.l TWr l7]).sel=some (Step.go [.k 0,.n n0,.n (IntKind.wrap .i64 (n1+(1:Int))),.n n2,.b b3,.n n4,.b b5,.l TBk (List.set l6 (Int.toNat (Prod.fst (List.getD l7 (Int.toNat n1) (Ty.dflt TWr)))) (Prod.snd (List.getD l7 (Int.toNat n1) (Ty.dflt TWr)))),.l TWr l7]):=sP [1]<|sT (dt h0)<|sTo (c:=(inR n1 (List.length l7)))<|sP [1,1,1]<|sT h1<|sP [1,1]<|sL
theorem x3i {n0 n1 n2:Int}{b3:Bool}{n4:Int}{b5:Bool}{l6:List (Ty.den TBk)}{l7:List (Ty.den TWr)}(g0:0≤n1)(g1:n0=(l7.length:Int))(h0:(¬n1<n0)):(m3e [.k 0,.n n0,.n n1,.n n2,.b b3,.n n4,.b b5,.l TBk l6,.l TWr l7]).sel=some (Step.stop 0 [.n n2,.b b3,.n n4,.b b5,.l TBk l6,.l TWr l7]):=sP [1]<|sF (df h0)<|sP [1]<|sL
def S_d44:BSh:={args:=[.ptr 0 0,fnV0 77],blks:=[dkB 1 2 0,.arr TBk 4,.arr TWr 5],log:=[0,1],outs:=[(.tup [],[dkB 1 3 0,.arr TBk 4,.gone,.arr TWr 5])]}
def ev_d44:List Dat→Tree (Nat×List Dat):=evFV [(some 0,1,.own TWr)] c4l 50 (lsM [(1,t4z)] 3) S_d44
theorem e_d44: ∃op,IsF ev_d44 50 S_d44 op:=bxFV l3u (lsE (lsC (h3n q3m) (atF) lsZ))
def t3m:OpA:=opF e_d44
theorem g4d {n0:Int}{b1:Bool}{n2:Int}{b3:Bool}{l4:List (Ty.den TBk)}{l5:List (Ty.den TWr)}{n6:Int}{b7:Bool}{n8:Int}{b9:Bool}{l10:List (Ty.den TBk)}{l11:List (Ty.den TWr)}(h0:(r3x [.k 0,.n (↑(List.length l5):Int),.n (0:Int),.n n0,.b b1,.n n2,.b b3,.l TBk l4,.l TWr l5])=(some (0,[.n n6,.b b7,.n n8,.b b9,.l TBk l10,.l TWr l11]))):t3m [.n n0,.b b1,.n n2,.b b3,.l TBk l4,.l TWr l5]=some ((0,[.n n6,.b b7,.n n8,.b b9,.l TBk l10,.l TWr []])):=t0c e_d44 (sA h0<|sP [1,1]<|sL)
def o4q:LSh:={K:=4,log:=[2],ins:=[(sh 48 [(0,.ptr 0 0),(1,fnC 51 [.ptr 1 0]),(10,.own 3),(11,.int .i64 0),(12,.int .i64 1)],[dkB 2 3 2,faB 6,.arr TBk 7,.arr TWr 8])],nils:=[],outs:=[(.exit 0,sh 48 [(0,.ptr 0 0)],[dkB 2 3 0,faB 4,.arr TBk 5,.arr TWr 6])],cv:=[]}
def j3r:List Dat→Tree Step:=evL c4l 50 1 ls0 o4q
theorem q3v: ∃op,IsL j3r 50 1 o4q op:=bxL l3u (LsOk.none _ _ _)
def q3q:OpA:=opL q3v
theorem x3f (env:List Dat):q3q env=a0b j3r FU env:=h3y q3v env
abbrev q4u:MBox:=boxL q3v
theorem w3e {n0 n1 n2:Int}{b3:Bool}{n4:Int}{b5:Bool}{l6:List (Ty.den TB)}{l7:List (Ty.den TBk)}{l8:List (Ty.den TWr)}(g0:0≤n1)(g1:n0=(l8.length:Int))(h0:(n1<n0))(h1:(n1<(↑(List.length l6):Int)))(h2:(List.getD l6 (Int.toNat n1) (0:Int)=(255:Int)))(h3:(inR (Prod.fst (List.getD l8 (Int.toNat n1) (Ty.dflt TWr))) (List.length l7)=true)):(j3r [.k 0,.n n0,.n n1,.n n2,.b b3,.n n4,.b b5,.l TB l6,.l TBk l7,.l TWr l8]).sel=some (Step.go [.k 0,.n n0,.n (IntKind.wrap .i64 (n1+(1:Int))),.n n2,.b b3,.n n4,.b b5,.l TB l6,.l TBk (List.set l7 (Int.toNat (Prod.fst (List.getD l8 (Int.toNat n1) (Ty.dflt TWr)))) (Prod.snd (List.getD l8 (Int.toNat n1) (Ty.dflt TWr)))),.l TWr l8]):=sP [1]<|sT (dt h0)<|sTo (c:=(inR n1 (List.length l8)))<|sP [1]<|sT (dt h1)<|sTo (c:=(inR n1 (List.length l6)))<|sP [1]<|sT (bt h2)<|sT h3<|sP [1,1]<|sL
theorem v3r {n0 n1 n2:Int}{b3:Bool}{n4:Int}{b5:Bool}{l6:List (Ty.den TB)}{l7:List (Ty.den TBk)}{l8:List (Ty.den TWr)}(g0:0≤n1)(g1:n0=(l8.length:Int))(h0:(n1<n0))(h1:(n1<(↑(List.length l6):Int)))(h2:(¬List.getD l6 (Int.toNat n1) (0:Int)=(255:Int)))(h3:(inR (Prod.fst (List.getD l8 (Int.toNat n1) (Ty.dflt TWr))) (List.length l7)=true))(h4:((decide ((0:Int)≤(List.getD l6 (Int.toNat n1) (0:Int):Int))&&decide ((List.getD l6 (Int.toNat n1) (0:Int):Int)≤(256:Int)))=true)):(j3r [.k 0,.n n0,.n n1,.n n2,.b b3,.n n4,.b b5,.l TB l6,.l TBk l7,.l TWr l8]).sel=some (Step.go [.k 0,.n n0,.n (IntKind.wrap .i64 (n1+(1:Int))),.n n2,.b b3,.n n4,.b b5,.l TB l6,.l TBk (List.set l7 (Int.toNat (Prod.fst (List.getD l8 (Int.toNat n1) (Ty.dflt TWr)))) (List.take (Int.toNat (List.getD l6 (Int.toNat n1) (0:Int))) (List.take (Int.toNat (List.getD l6 (Int.toNat n1) (0:Int))) (Prod.snd (List.getD l8 (Int.toNat n1) (Ty.dflt TWr))))++List.drop (min (List.length (List.take (Int.toNat (List.getD l6 (Int.toNat n1) (0:Int))) (Prod.snd (List.getD l8 (Int.toNat n1) (Ty.dflt TWr))))) (Int.toNat (List.getD l6 (Int.toNat n1) (0:Int)))) (List.getD l7 (Int.toNat (Prod.fst (List.getD l8 (Int.toNat n1) (Ty.dflt TWr)))) (Ty.dflt TBk)))),.l TWr l8]):=sP [1]<|sT (dt h0)<|sTo (c:=(inR n1 (List.length l8)))<|sP [1]<|sT (dt h1)<|sTo (c:=(inR n1 (List.length l6)))<|sP [1]<|sF (bf h2)<|sT h3<|sP [1]<|sT h4<|sP [1]<|sT h4<|sP [1,1]<|sL
theorem x3z {n0 n1 n2:Int}{b3:Bool}{n4:Int}{b5:Bool}{l6:List (Ty.den TB)}{l7:List (Ty.den TBk)}{l8:List (Ty.den TWr)}(g0:0≤n1)(g1:n0=(l8.length:Int))(h0:(n1<n0))(h1:(¬n1<(↑(List.length l6):Int)))(h2:(inR (Prod.fst (List.getD l8 (Int.toNat n1) (Ty.dflt TWr))) (List.length l7)=true)):(j3r [.k 0,.n n0,.n n1,.n n2,.b b3,.n n4,.b b5,.l TB l6,.l TBk l7,.l TWr l8]).sel=some (Step.go [.k 0,.n n0,.n (IntKind.wrap .i64 (n1+(1:Int))),.n n2,.b b3,.n n4,.b b5,.l TB l6,.l TBk (List.set l7 (Int.toNat (Prod.fst (List.getD l8 (Int.toNat n1) (Ty.dflt TWr)))) ([]++List.drop 0 (List.getD l7 (Int.toNat (Prod.fst (List.getD l8 (Int.toNat n1) (Ty.dflt TWr)))) (Ty.dflt TBk)))),.l TWr l8]):=sP [1]<|sT (dt h0)<|sTo (c:=(inR n1 (List.length l8)))<|sP [1]<|sF (df h1)<|sP [1,0]<|sT h2<|sP [1,1,1,1,1,1]<|sL
theorem x3m {n0 n1 n2:Int}{b3:Bool}{n4:Int}{b5:Bool}{l6:List (Ty.den TB)}{l7:List (Ty.den TBk)}{l8:List (Ty.den TWr)}(g0:0≤n1)(g1:n0=(l8.length:Int))(h0:(¬n1<n0)):(j3r [.k 0,.n n0,.n n1,.n n2,.b b3,.n n4,.b b5,.l TB l6,.l TBk l7,.l TWr l8]).sel=some (Step.stop 0 [.n n2,.b b3,.n n4,.b b5,.l TB l6,.l TBk l7,.l TWr l8]):=sP [1]<|sF (df h0)<|sP [1]<|sL
def S_d41:BSh:={args:=[.ptr 0 0,fnC 51 [.ptr 1 0]],blks:=[dkB 2 3 0,faB 4,.arr TBk 5,.arr TWr 6],log:=[0,2],outs:=[(.tup [],[dkB 2 4 0,faB 4,.arr TBk 5,.gone,.arr TWr 6])]}
def ev_d41:List Dat→Tree (Nat×List Dat):=evFV [(some 0,1,.own TWr)] c4l 50 (lsM [(1,q4u)] 4) S_d41
theorem e_d41: ∃op,IsF ev_d41 50 S_d41 op:=bxFV l3u (lsE (lsC (h3n q3v) (atF) lsZ))
def z3y:OpA:=opF e_d41
theorem j4x {n0:Int}{b1:Bool}{n2:Int}{b3:Bool}{l4:List (Ty.den TB)}{l5:List (Ty.den TBk)}{l6:List (Ty.den TWr)}{n7:Int}{b8:Bool}{n9:Int}{b10:Bool}{l11:List (Ty.den TB)}{l12:List (Ty.den TBk)}{l13:List (Ty.den TWr)}(h0:(q3q [.k 0,.n (↑(List.length l6):Int),.n (0:Int),.n n0,.b b1,.n n2,.b b3,.l TB l4,.l TBk l5,.l TWr l6])=(some (0,[.n n7,.b b8,.n n9,.b b10,.l TB l11,.l TBk l12,.l TWr l13]))):z3y [.n n0,.b b1,.n n2,.b b3,.l TB l4,.l TBk l5,.l TWr l6]=some ((0,[.n n7,.b b8,.n n9,.b b10,.l TB l11,.l TBk l12,.l TWr []])):=t0c e_d41 (sA h0<|sP [1,1]<|sL)
def a4e:FuncId→Option a0q:=e1c 50 [S_d44.k t3m,S_d41.k z3y] c4l
theorem n3v:CsOk Try.prog a4e:=h0a l3u fun B hB=>by
 simp only[List.mem_cons,List.not_mem_nil,or_false]at hB
 rcases hB with rfl|rfl
 ·exact h3x e_d44
 ·exact h3x e_d41
def S_d17:BSh:={args:=[.ptr 0 0,.int .i64 0,.imm TB 1],blks:=[dkB 1 2 2,.arr TBk 6,.arr TWr 7],log:=[0,2],outs:=[(.int .i64 0,[dkB 1 2 1,.arr TBk 5,.arr TWr 6])]}
def ev_d17:List Dat→Tree (Nat×List Dat):=evF a4e 20 ls0 S_d17
theorem r3l: ∃op,IsF ev_d17 20 S_d17 op:=bxF n3v (LsOk.none _ _ _)
def i3k:OpA:=opF r3l
theorem f4h {n0:Int}{l1:List (Ty.den TB)}{n2:Int}{b3:Bool}{n4:Int}{b5:Bool}{l6:List (Ty.den TBk)}{l7:List (Ty.den TWr)}(h0:(b5=true)):i3k [.n n0,.l TB l1,.n n2,.b b3,.n n4,.b b5,.l TBk l6,.l TWr l7]=some ((0,[.n (140:Int),.n n2,.b b3,.n n4,.b b5,.l TBk l6,.l TWr l7])):=t0c r3l (sP [1,0]<|sT h0<|sP [1,1,1]<|sL)
theorem o4j {n0:Int}{l1:List (Ty.den TB)}{n2:Int}{b3:Bool}{n4:Int}{b5:Bool}{l6:List (Ty.den TBk)}{l7:List (Ty.den TWr)}(h0:(b5=false))(h1:(n0≥(0:Int)))(h2:(¬n0<(↑(List.length l6):Int))):i3k [.n n0,.l TB l1,.n n2,.b b3,.n n4,.b b5,.l TBk l6,.l TWr l7]=some ((0,[.n (2:Int),.n n2,.b b3,.n n4,.b b5,.l TBk l6,.l TWr l7])):=t0c r3l (sP [1,0]<|sF h0<|sP [1,0,1]<|sT (dt h1)<|sP [1]<|sT (nf (df h2))<|sP [1]<|sL)
theorem g4x {n0:Int}{l1:List (Ty.den TB)}{n2:Int}{b3:Bool}{n4:Int}{b5:Bool}{l6:List (Ty.den TBk)}{l7:List (Ty.den TWr)}(h0:(b5=false))(h1:(n0≥(0:Int)))(h2:(n0<(↑(List.length l6):Int)))(h3:((↑(List.length l1):Int)>(256:Int))):i3k [.n n0,.l TB l1,.n n2,.b b3,.n n4,.b b5,.l TBk l6,.l TWr l7]=some ((0,[.n (3:Int),.n n2,.b b3,.n n4,.b b5,.l TBk l6,.l TWr l7])):=t0c r3l (sP [1,0]<|sF h0<|sP [1,0,1]<|sT (dt h1)<|sP [1]<|sF (nt (dt h2))<|sT (dt h3)<|sP [1]<|sL)
theorem h4e {n0:Int}{l1:List (Ty.den TB)}{n2:Int}{b3:Bool}{n4:Int}{b5:Bool}{l6:List (Ty.den TBk)}{l7:List (Ty.den TWr)}(h0:(b5=false))(h1:(n0≥(0:Int)))(h2:(n0<(↑(List.length l6):Int)))(h3:(¬(↑(List.length l1):Int)>(256:Int)))(h4:((List.length l7+1)*264≤140737488355328))(h5:(b3=true))(h6:(n4=(0:Int))):i3k [.n n0,.l TB l1,.n n2,.b b3,.n n4,.b b5,.l TBk l6,.l TWr l7]=some ((0,[.n (140:Int),.n (IntKind.wrap .i64 (n2+(1:Int))),.b false,.n n4,.b true,.l TBk l6,.l TWr (apL l7 [(n0,List.take 256 l1++List.drop (List.length l1) (List.replicate 256 (0:Int)))])])):=t0c r3l (sP [1,0]<|sF h0<|sP [1,0,1]<|sT (dt h1)<|sP [1]<|sF (nt (dt h2))<|sF (df h3)<|sP [1,1,1]<|sT (dt h4)<|sP [1,1]<|sT h5<|sT (bt h6)<|sP [1,1,1,1,1]<|sL)
theorem p4n {n0:Int}{l1:List (Ty.den TB)}{n2:Int}{b3:Bool}{n4:Int}{b5:Bool}{l6:List (Ty.den TBk)}{l7:List (Ty.den TWr)}(h0:(b5=false))(h1:(n0≥(0:Int)))(h2:(n0<(↑(List.length l6):Int)))(h3:(¬(↑(List.length l1):Int)>(256:Int)))(h4:((List.length l7+1)*264≤140737488355328))(h5:(b3=true))(h6:(¬n4=(0:Int))):i3k [.n n0,.l TB l1,.n n2,.b b3,.n n4,.b b5,.l TBk l6,.l TWr l7]=some ((0,[.n (0:Int),.n (IntKind.wrap .i64 (n2+(1:Int))),.b b3,.n (IntKind.wrap .i64 (n4-(1:Int))),.b b5,.l TBk l6,.l TWr (apL l7 [(n0,List.take 256 l1++List.drop (List.length l1) (List.replicate 256 (0:Int)))])])):=t0c r3l (sP [1,0]<|sF h0<|sP [1,0,1]<|sT (dt h1)<|sP [1]<|sF (nt (dt h2))<|sF (df h3)<|sP [1,1,1]<|sT (dt h4)<|sP [1,1]<|sT h5<|sF (bf h6)<|sT h5<|sP [1,1,1,1]<|sL)
theorem l4f {n0:Int}{l1:List (Ty.den TB)}{n2:Int}{b3:Bool}{n4:Int}{b5:Bool}{l6:List (Ty.den TBk)}{l7:List (Ty.den TWr)}(h0:(b5=false))(h1:(n0≥(0:Int)))(h2:(n0<(↑(List.length l6):Int)))(h3:(¬(↑(List.length l1):Int)>(256:Int)))(h4:((List.length l7+1)*264≤140737488355328))(h5:(b3=false)):i3k [.n n0,.l TB l1,.n n2,.b b3,.n n4,.b b5,.l TBk l6,.l TWr l7]=some ((0,[.n (0:Int),.n (IntKind.wrap .i64 (n2+(1:Int))),.b b3,.n n4,.b b5,.l TBk l6,.l TWr (apL l7 [(n0,List.take 256 l1++List.drop (List.length l1) (List.replicate 256 (0:Int)))])])):=t0c r3l (sP [1,0]<|sF h0<|sP [1,0,1]<|sT (dt h1)<|sP [1]<|sF (nt (dt h2))<|sF (df h3)<|sP [1,1,1]<|sT (dt h4)<|sP [1,1]<|sF h5<|sP [0,0]<|sF h5<|sP [1,1,1,1]<|sL)
theorem f4g {n0:Int}{l1:List (Ty.den TB)}{n2:Int}{b3:Bool}{n4:Int}{b5:Bool}{l6:List (Ty.den TBk)}{l7:List (Ty.den TWr)}(h0:(b5=false))(h1:(¬n0≥(0:Int))):i3k [.n n0,.l TB l1,.n n2,.b b3,.n n4,.b b5,.l TBk l6,.l TWr l7]=some ((0,[.n (2:Int),.n n2,.b b3,.n n4,.b b5,.l TBk l6,.l TWr l7])):=t0c r3l (sP [1,0]<|sF h0<|sP [1,0,1]<|sF (df h1)<|sP [0,1,1,1]<|sL)
def k4u:BSh:={args:=[.ptr 0 0,.int .i64 0,.own 1],blks:=[dkB 2 3 1,.arr TB 5,.arr TBk 6,.arr TWr 7],log:=[0,3],outs:=[(.int .i64 0,[dkB 2 3 1,.arr TB 5,.arr TBk 6,.arr TWr 7])]}
def ev_d17o:List Dat→Tree (Nat×List Dat):=evF a4e 20 ls0 k4u
theorem m3d: ∃op,IsF ev_d17o 20 k4u op:=bxF n3v (LsOk.none _ _ _)
def h3k:OpA:=opF m3d
theorem c4h {n0 n1:Int}{b2:Bool}{n3:Int}{b4:Bool}{l5:List (Ty.den TB)}{l6:List (Ty.den TBk)}{l7:List (Ty.den TWr)}(h0:(b4=true)):h3k [.n n0,.n n1,.b b2,.n n3,.b b4,.l TB l5,.l TBk l6,.l TWr l7]=some ((0,[.n (140:Int),.n n1,.b b2,.n n3,.b b4,.l TB l5,.l TBk l6,.l TWr l7])):=t0c m3d (sP [1,0]<|sT h0<|sP [1,1,1]<|sL)
theorem c4n {n0 n1:Int}{b2:Bool}{n3:Int}{b4:Bool}{l5:List (Ty.den TB)}{l6:List (Ty.den TBk)}{l7:List (Ty.den TWr)}(h0:(b4=false))(h1:(n0≥(0:Int)))(h2:(¬n0<(↑(List.length l6):Int))):h3k [.n n0,.n n1,.b b2,.n n3,.b b4,.l TB l5,.l TBk l6,.l TWr l7]=some ((0,[.n (2:Int),.n n1,.b b2,.n n3,.b b4,.l TB l5,.l TBk l6,.l TWr l7])):=t0c m3d (sP [1,0]<|sF h0<|sP [1,0,1]<|sT (dt h1)<|sP [1]<|sT (nf (df h2))<|sP [1]<|sL)
theorem d4n {n0 n1:Int}{b2:Bool}{n3:Int}{b4:Bool}{l5:List (Ty.den TB)}{l6:List (Ty.den TBk)}{l7:List (Ty.den TWr)}(h0:(b4=false))(h1:(n0≥(0:Int)))(h2:(n0<(↑(List.length l6):Int)))(h3:((↑(List.length l5):Int)>(256:Int))):h3k [.n n0,.n n1,.b b2,.n n3,.b b4,.l TB l5,.l TBk l6,.l TWr l7]=some ((0,[.n (3:Int),.n n1,.b b2,.n n3,.b b4,.l TB l5,.l TBk l6,.l TWr l7])):=t0c m3d (sP [1,0]<|sF h0<|sP [1,0,1]<|sT (dt h1)<|sP [1]<|sF (nt (dt h2))<|sT (dt h3)<|sP [1]<|sL)
theorem d4k {n0 n1:Int}{b2:Bool}{n3:Int}{b4:Bool}{l5:List (Ty.den TB)}{l6:List (Ty.den TBk)}{l7:List (Ty.den TWr)}(h0:(b4=false))(h1:(n0≥(0:Int)))(h2:(n0<(↑(List.length l6):Int)))(h3:(¬(↑(List.length l5):Int)>(256:Int)))(h4:((List.length l7+1)*264≤140737488355328))(h5:(b2=true))(h6:(n3=(0:Int))):h3k [.n n0,.n n1,.b b2,.n n3,.b b4,.l TB l5,.l TBk l6,.l TWr l7]=some ((0,[.n (140:Int),.n (IntKind.wrap .i64 (n1+(1:Int))),.b false,.n n3,.b true,.l TB l5,.l TBk l6,.l TWr (apL l7 [(n0,List.take 256 l5++List.drop (List.length l5) (List.replicate 256 (0:Int)))])])):=t0c m3d (sP [1,0]<|sF h0<|sP [1,0,1]<|sT (dt h1)<|sP [1]<|sF (nt (dt h2))<|sF (df h3)<|sP [1,1,1]<|sT (dt h4)<|sP [1,1]<|sT h5<|sT (bt h6)<|sP [1,1,1,1,1]<|sL)
theorem c4r {n0 n1:Int}{b2:Bool}{n3:Int}{b4:Bool}{l5:List (Ty.den TB)}{l6:List (Ty.den TBk)}{l7:List (Ty.den TWr)}(h0:(b4=false))(h1:(n0≥(0:Int)))(h2:(n0<(↑(List.length l6):Int)))(h3:(¬(↑(List.length l5):Int)>(256:Int)))(h4:((List.length l7+1)*264≤140737488355328))(h5:(b2=true))(h6:(¬n3=(0:Int))):h3k [.n n0,.n n1,.b b2,.n n3,.b b4,.l TB l5,.l TBk l6,.l TWr l7]=some ((0,[.n (0:Int),.n (IntKind.wrap .i64 (n1+(1:Int))),.b b2,.n (IntKind.wrap .i64 (n3-(1:Int))),.b b4,.l TB l5,.l TBk l6,.l TWr (apL l7 [(n0,List.take 256 l5++List.drop (List.length l5) (List.replicate 256 (0:Int)))])])):=t0c m3d (sP [1,0]<|sF h0<|sP [1,0,1]<|sT (dt h1)<|sP [1]<|sF (nt (dt h2))<|sF (df h3)<|sP [1,1,1]<|sT (dt h4)<|sP [1,1]<|sT h5<|sF (bf h6)<|sT h5<|sP [1,1,1,1]<|sL)
theorem c4j {n0 n1:Int}{b2:Bool}{n3:Int}{b4:Bool}{l5:List (Ty.den TB)}{l6:List (Ty.den TBk)}{l7:List (Ty.den TWr)}(h0:(b4=false))(h1:(n0≥(0:Int)))(h2:(n0<(↑(List.length l6):Int)))(h3:(¬(↑(List.length l5):Int)>(256:Int)))(h4:((List.length l7+1)*264≤140737488355328))(h5:(b2=false)):h3k [.n n0,.n n1,.b b2,.n n3,.b b4,.l TB l5,.l TBk l6,.l TWr l7]=some ((0,[.n (0:Int),.n (IntKind.wrap .i64 (n1+(1:Int))),.b b2,.n n3,.b b4,.l TB l5,.l TBk l6,.l TWr (apL l7 [(n0,List.take 256 l5++List.drop (List.length l5) (List.replicate 256 (0:Int)))])])):=t0c m3d (sP [1,0]<|sF h0<|sP [1,0,1]<|sT (dt h1)<|sP [1]<|sF (nt (dt h2))<|sF (df h3)<|sP [1,1,1]<|sT (dt h4)<|sP [1,1]<|sF h5<|sP [0,0]<|sF h5<|sP [1,1,1,1]<|sL)
theorem d4r {n0 n1:Int}{b2:Bool}{n3:Int}{b4:Bool}{l5:List (Ty.den TB)}{l6:List (Ty.den TBk)}{l7:List (Ty.den TWr)}(h0:(b4=false))(h1:(¬n0≥(0:Int))):h3k [.n n0,.n n1,.b b2,.n n3,.b b4,.l TB l5,.l TBk l6,.l TWr l7]=some ((0,[.n (2:Int),.n n1,.b b2,.n n3,.b b4,.l TB l5,.l TBk l6,.l TWr l7])):=t0c m3d (sP [1,0]<|sF h0<|sP [1,0,1]<|sF (df h1)<|sP [0,1,1,1]<|sL)
def v3d:FuncId→Option a0q:=e1c 20 [S_d17.k i3k,k4u.k h3k] a4e
theorem p3y:CsOk Try.prog v3d:=h0a n3v fun B hB=>by
 simp only[List.mem_cons,List.not_mem_nil,or_false]at hB
 rcases hB with rfl|rfl
 ·exact h3x r3l
 ·exact h3x m3d
def S_d16:BSh:={args:=[.ptr 0 0],blks:=[dkB 1 2 0,.arr TBk 4,.arr TWr 5],log:=[0,1],outs:=[(.int .i64 0,[dkB 1 2 1,.arr TBk 5,.arr TWr 6]),(.int .i64 0,[dkB 1 3 1,.arr TBk 5,.gone,.arr TWr 6])]}
def ev_d16:List Dat→Tree (Nat×List Dat):=evFV [(some 0,1,.own TWr)] v3d 25 ls0 S_d16
theorem c4x: ∃op,IsF ev_d16 25 S_d16 op:=bxFV p3y (LsOk.none _ _ _)
def j3c:OpA:=opF c4x
theorem l4x {n0:Int}{b1:Bool}{n2:Int}{b3:Bool}{l4:List (Ty.den TBk)}{l5:List (Ty.den TWr)}(h0:(b3=true)):j3c [.n n0,.b b1,.n n2,.b b3,.l TBk l4,.l TWr l5]=some ((0,[.n (140:Int),.n n0,.b b1,.n n2,.b b3,.l TBk l4,.l TWr l5])):=t0c c4x (sP [1,0]<|sT h0<|sP [1,1,1]<|sL)
theorem k4w {n0:Int}{b1:Bool}{n2:Int}{b3:Bool}{l4:List (Ty.den TBk)}{l5:List (Ty.den TWr)}(h0:(b3=false))(h1:(b1=true))(h2:(n2=(0:Int))):j3c [.n n0,.b b1,.n n2,.b b3,.l TBk l4,.l TWr l5]=some ((0,[.n (140:Int),.n (IntKind.wrap .i64 (n0+(1:Int))),.b false,.n n2,.b true,.l TBk l4,.l TWr l5])):=t0c c4x (sP [1,0]<|sF h0<|sP [1,0,1,1,1]<|sT h1<|sT (bt h2)<|sP [1,1,1,1,1]<|sL)
theorem l4p {n0:Int}{b1:Bool}{n2:Int}{b3:Bool}{l4:List (Ty.den TBk)}{l5:List (Ty.den TWr)}{n6:Int}{b7:Bool}{n8:Int}{b9:Bool}{l10:List (Ty.den TBk)}{l11:List (Ty.den TWr)}(h0:(b3=false))(h1:(b1=true))(h2:(¬n2=(0:Int)))(h3:(t3m [.n (IntKind.wrap .i64 (n0+(1:Int))),.b b1,.n (IntKind.wrap .i64 (n2-(1:Int))),.b b3,.l TBk l4,.l TWr l5])=(some (0,[.n n6,.b b7,.n n8,.b b9,.l TBk l10,.l TWr l11]))):j3c [.n n0,.b b1,.n n2,.b b3,.l TBk l4,.l TWr l5]=some ((1,[.n (0:Int),.n n6,.b b7,.n n8,.b b9,.l TBk l10,.l TWr l11])):=t0c c4x (sP [1,0]<|sF h0<|sP [1,0,1,1,1]<|sT h1<|sF (bf h2)<|sT h1<|sP [1,1]<|sA h3<|sP [1,1,1,1,1]<|sL)
theorem f4v {n0:Int}{b1:Bool}{n2:Int}{b3:Bool}{l4:List (Ty.den TBk)}{l5:List (Ty.den TWr)}{n6:Int}{b7:Bool}{n8:Int}{b9:Bool}{l10:List (Ty.den TBk)}{l11:List (Ty.den TWr)}(h0:(b3=false))(h1:(b1=false))(h2:(t3m [.n (IntKind.wrap .i64 (n0+(1:Int))),.b b1,.n n2,.b b3,.l TBk l4,.l TWr l5])=(some (0,[.n n6,.b b7,.n n8,.b b9,.l TBk l10,.l TWr l11]))):j3c [.n n0,.b b1,.n n2,.b b3,.l TBk l4,.l TWr l5]=some ((1,[.n (0:Int),.n n6,.b b7,.n n8,.b b9,.l TBk l10,.l TWr l11])):=t0c c4x (sP [1,0]<|sF h0<|sP [1,0,1,1,1]<|sF h1<|sP [0,0]<|sF h1<|sP [1,1]<|sA h2<|sP [1,1,1,1,1]<|sL)
def i4i:FuncId→Option a0q:=e1c 25 [S_d16.k j3c] v3d
theorem t3l:CsOk Try.prog i4i:=csA1 p3y c4x
def S_d19:BSh:={args:=[.ptr 0 0,.imm TB 0],blks:=[dkB 1 2 1,.arr TBk 5,.arr TWr 6],log:=[0,1],outs:=[(.tup [],[dkB 1 2 0,.arr TBk 4,.arr TWr 5]),(.tup [],[dkB 1 3 0,.arr TBk 4,.gone,.arr TWr 5])]}
def ev_d19:List Dat→Tree (Nat×List Dat):=evFV [(some 0,1,.own TWr)] i4i 18 ls0 S_d19
theorem v4i: ∃op,IsF ev_d19 18 S_d19 op:=bxFV t3l (LsOk.none _ _ _)
def k3a:OpA:=opF v4i
theorem f4w {l0:List (Ty.den TB)}{n1:Int}{b2:Bool}{n3:Int}{b4:Bool}{l5:List (Ty.den TBk)}{l6:List (Ty.den TWr)}{n7:Int}{b8:Bool}{n9:Int}{b10:Bool}{l11:List (Ty.den TB)}{l12:List (Ty.den TBk)}{l13:List (Ty.den TWr)}(h0:(b4=true))(h1:(z3y [.n n1,.b b2,.n n3,.b b4,.l TB l0,.l TBk l5,.l TWr l6])=(some (0,[.n n7,.b b8,.n n9,.b b10,.l TB l11,.l TBk l12,.l TWr l13]))):k3a [.l TB l0,.n n1,.b b2,.n n3,.b b4,.l TBk l5,.l TWr l6]=some ((1,[.n n7,.b false,.n n9,.b false,.l TBk l12,.l TWr l13])):=t0c v4i (sP [0]<|sT h0<|sP [1]<|sA h1<|sP [1,1,1]<|sL)
theorem n4j {l0:List (Ty.den TB)}{n1:Int}{b2:Bool}{n3:Int}{b4:Bool}{l5:List (Ty.den TBk)}{l6:List (Ty.den TWr)}(h0:(b4=false)):k3a [.l TB l0,.n n1,.b b2,.n n3,.b b4,.l TBk l5,.l TWr l6]=some ((0,[.n n1,.b false,.n n3,.b false,.l TBk l5,.l TWr l6])):=t0c v4i (sP [0]<|sF h0<|sP [1]<|sL)
def a4v:FuncId→Option a0q:=e1c 18 [S_d19.k k3a] i4i
theorem o3o:CsOk Try.prog a4v:=csA1 t3l v4i
def o4e:LSh:={K:=3,log:=[],ins:=[(sh 43 [(1,.int .i64 0),(7,.ptr 3 0),(29,.own 2),(30,.int .i64 1),(31,.int .i64 2)],[dkB 1 2 3,.arr TBk 7,.arr TWr 8,.cells [.arrd TB 256 9]])],nils:=[],outs:=[(.exit 0,sh 43 [(7,.ptr 3 0)],[dkB 1 2 0,.arr TBk 4,.arr TWr 5,.cells [.arrd TB 256 6]])],cv:=[]}
def k3k:List Dat→Tree Step:=evL a4v 24 8 ls0 o4e
theorem q3l: ∃op,IsL k3k 24 8 o4e op:=bxL o3o (LsOk.none _ _ _)
def r3j:OpA:=opL q3l
theorem v3t (env:List Dat):r3j env=a0b k3k FU env:=h3y q3l env
abbrev u4i:MBox:=boxL q3l
theorem u3y {n0 n1 n2 n3:Int}{b4:Bool}{n5:Int}{b6:Bool}{l7:List (Ty.den TBk)}{l8:List (Ty.den TWr)}{l9:List (Ty.den TB)}(g0:0≤n2)(g1:n1=(l8.length:Int))(h0:(n2<n1))(h1:((Prod.fst (List.getD l8 (Int.toNat n2) (Ty.dflt TWr)):Int)=n0)):(k3k [.k 0,.n n0,.n n1,.n n2,.n n3,.b b4,.n n5,.b b6,.l TBk l7,.l TWr l8,.l TB l9]).sel=some (Step.go [.k 0,.n n0,.n n1,.n (IntKind.wrap .i64 (n2+(1:Int))),.n n3,.b b4,.n n5,.b b6,.l TBk l7,.l TWr l8,.l TB (Prod.snd (List.getD l8 (Int.toNat n2) (Ty.dflt TWr)))]):=sP [1]<|sT (dt h0)<|sTo (c:=(inR n2 (List.length l8)))<|sT (bt h1)<|sP [1]<|sL
theorem y3h {n0 n1 n2 n3:Int}{b4:Bool}{n5:Int}{b6:Bool}{l7:List (Ty.den TBk)}{l8:List (Ty.den TWr)}{l9:List (Ty.den TB)}(g0:0≤n2)(g1:n1=(l8.length:Int))(h0:(n2<n1))(h1:(¬(Prod.fst (List.getD l8 (Int.toNat n2) (Ty.dflt TWr)):Int)=n0)):(k3k [.k 0,.n n0,.n n1,.n n2,.n n3,.b b4,.n n5,.b b6,.l TBk l7,.l TWr l8,.l TB l9]).sel=some (Step.go [.k 0,.n n0,.n n1,.n (IntKind.wrap .i64 (n2+(1:Int))),.n n3,.b b4,.n n5,.b b6,.l TBk l7,.l TWr l8,.l TB l9]):=sP [1]<|sT (dt h0)<|sTo (c:=(inR n2 (List.length l8)))<|sF (bf h1)<|sP [1]<|sL
theorem x3n {n0 n1 n2 n3:Int}{b4:Bool}{n5:Int}{b6:Bool}{l7:List (Ty.den TBk)}{l8:List (Ty.den TWr)}{l9:List (Ty.den TB)}(g0:0≤n2)(g1:n1=(l8.length:Int))(h0:(¬n2<n1)):(k3k [.k 0,.n n0,.n n1,.n n2,.n n3,.b b4,.n n5,.b b6,.l TBk l7,.l TWr l8,.l TB l9]).sel=some (Step.stop 0 [.n n3,.b b4,.n n5,.b b6,.l TBk l7,.l TWr l8,.l TB l9]):=sP [1]<|sF (df h0)<|sP [1]<|sL
def S_d20:BSh:={args:=[.ptr 0 0,.int .i64 0],blks:=[dkB 1 2 1,.arr TBk 5,.arr TWr 6],log:=[],outs:=[(.tup [.nilsl,.int .i64 0],[dkB 1 2 1,.arr TBk 5,.arr TWr 6]),(.tup [.asl 3 0 256,.int .i64 0],[dkB 1 2 1,.arr TBk 5,.arr TWr 6,.cells [.arrd TB 256 7]])]}
def ev_d20:List Dat→Tree (Nat×List Dat):=evF a4v 24 (lsM [(8,u4i)] 3) S_d20
theorem d4u: ∃op,IsF ev_d20 24 S_d20 op:=bxF o3o (lsE (lsC (h3n q3l) (atF) lsZ))
def i3b:OpA:=opF d4u
theorem p4h {n0 n1:Int}{b2:Bool}{n3:Int}{b4:Bool}{l5:List (Ty.den TBk)}{l6:List (Ty.den TWr)}(h0:(b4=true)):i3b [.n n0,.n n1,.b b2,.n n3,.b b4,.l TBk l5,.l TWr l6]=some ((0,[.n (140:Int),.n n1,.b b2,.n n3,.b b4,.l TBk l5,.l TWr l6])):=t0c d4u (sP [1,0]<|sT h0<|sP [1,1,1]<|sL)
theorem i4m {n0 n1:Int}{b2:Bool}{n3:Int}{b4:Bool}{l5:List (Ty.den TBk)}{l6:List (Ty.den TWr)}(h0:(b4=false))(h1:(n0≥(0:Int)))(h2:(¬n0<(↑(List.length l5):Int))):i3b [.n n0,.n n1,.b b2,.n n3,.b b4,.l TBk l5,.l TWr l6]=some ((0,[.n (2:Int),.n n1,.b b2,.n n3,.b b4,.l TBk l5,.l TWr l6])):=t0c d4u (sP [1,0]<|sF h0<|sP [1,0,1]<|sT (dt h1)<|sP [1]<|sT (nf (df h2))<|sP [1]<|sL)
theorem j4r {n0 n1:Int}{b2:Bool}{n3:Int}{b4:Bool}{l5:List (Ty.den TBk)}{l6:List (Ty.den TWr)}{n7:Int}{b8:Bool}{n9:Int}{b10:Bool}{l11:List (Ty.den TBk)}{l12:List (Ty.den TWr)}{l13:List (Ty.den TB)}(h0:(b4=false))(h1:(n0≥(0:Int)))(h2:(n0<(↑(List.length l5):Int)))(h3:(r3j [.k 0,.n n0,.n (↑(List.length l6):Int),.n (0:Int),.n n1,.b b2,.n n3,.b b4,.l TBk l5,.l TWr l6,.l TB (List.getD l5 (Int.toNat n0) (Ty.dflt TBk))])=(some (0,[.n n7,.b b8,.n n9,.b b10,.l TBk l11,.l TWr l12,.l TB l13]))):i3b [.n n0,.n n1,.b b2,.n n3,.b b4,.l TBk l5,.l TWr l6]=some ((1,[.n (0:Int),.n n7,.b b8,.n n9,.b b10,.l TBk l11,.l TWr l12,.l TB l13])):=t0c d4u (sP [1,0]<|sF h0<|sP [1,0,1]<|sT (dt h1)<|sP [1]<|sF (nt (dt h2))<|sTo (c:=(inR n0 (List.length l5)))<|sA h3<|sP [1,1,1]<|sL)
theorem o4h {n0 n1:Int}{b2:Bool}{n3:Int}{b4:Bool}{l5:List (Ty.den TBk)}{l6:List (Ty.den TWr)}(h0:(b4=false))(h1:(¬n0≥(0:Int))):i3b [.n n0,.n n1,.b b2,.n n3,.b b4,.l TBk l5,.l TWr l6]=some ((0,[.n (2:Int),.n n1,.b b2,.n n3,.b b4,.l TBk l5,.l TWr l6])):=t0c d4u (sP [1,0]<|sF h0<|sP [1,0,1]<|sF (df h1)<|sP [0,1,1,1]<|sL)
def z3e:FuncId→Option a0q:=e1c 24 [S_d20.k i3b] a4v
theorem n3x:CsOk Try.prog z3e:=csA1 o3o d4u
def mkN (a h:Nat):PB:=.cells [.own a,.nilsl,.int .i64 h,.bool (h+1),.int .i64 (h+2),.bool (h+3)]
def g4l:LSh:={K:=0,log:=[],ins:=[(sh 15 [(3,.own 0)],[.arr TB 0])],nils:=[],outs:=[(.exit 0,sh 15 [(3,.own 0)],[.arr TB 0])],cv:=[]}
def m3f:List Dat→Tree Step:=evL z3e 35 3 ls0 g4l
theorem q3t: ∃op,IsL m3f 35 3 g4l op:=bxL n3x (LsOk.none _ _ _)
def a4p:OpA:=opL q3t
theorem u3v (env:List Dat):a4p env=a0b m3f FU env:=h3y q3t env
abbrev t4b:MBox:=boxL q3t
theorem y3a {l0:List (Ty.den TB)}(h0:((↑(List.length l0):Int)<(256:Int))):(m3f [.k 0,.l TB l0]).sel=some (Step.go [.k 0,.l TB (l0++[(0:Int)])]):=sP [1]<|sT (dt h0)<|sTo (c:=(decide ((List.length l0+1)*1≤140737488355328)))<|sP [1]<|sL
theorem w3k {l0:List (Ty.den TB)}(h0:(¬(↑(List.length l0):Int)<(256:Int))):(m3f [.k 0,.l TB l0]).sel=some (Step.stop 0 [.l TB l0]):=sP [1]<|sF (df h0)<|sP [1]<|sL
def S_m25:BSh:={args:=[.str 0],blks:=[],log:=[],outs:=[(.str 0,[])]}
def ev_m25:List Dat→Tree (Nat×List Dat):=evF z3e 35 (lsM [(3,t4b)] 0) S_m25
theorem e_m25: ∃op,IsF ev_m25 35 S_m25 op:=bxF n3x (lsE (lsC (h3n q3t) (atF) lsZ))
def o3n:OpA:=opF e_m25
theorem f4t {s0:ByteArray}{l1:List (Ty.den TB)}(h0:(List.length (c0b s0)*1≤140737488355328))(h1:(a4p [.k 0,.l TB (c0b s0)])=(some (0,[.l TB l1]))):o3n [.s s0]=some ((0,[.s (r2b l1)])):=t0c e_m25 (sT (dt h0)<|sA h1<|sP [1,1]<|sL)
def a4i:FuncId→Option a0q:=a0s 35 (S_m25.k o3n) z3e
theorem o3h:CsOk Try.prog a4i:=csL1 n3x e_m25
def R_m9_3:LSh:={K:=0,log:=[],ins:=[(sh 27 [(0,.int .i64 0),(3,.ptr 0 0),(4,.int .i64 1)],[mkN 1 2,.arr TS 6])],nils:=[],outs:=[(.exit 0,sh 27 [(3,.ptr 0 0)],[mkN 1 0,.arr TS 4])],cv:=[(3,[],0,.own TS)]}
def o3f:List Dat→Tree Step:=evL a4i 9 3 ls0 R_m9_3
theorem y3v: ∃op,IsL o3f 9 3 R_m9_3 op:=bxL o3h (LsOk.none _ _ _)
def f4n:OpA:=opL y3v
theorem d4a (env:List Dat):f4n env=a0b o3f FU env:=h3y y3v env
abbrev Bx_m9_3:MBox:=boxL y3v
theorem c4g {n0 n1:Int}{l2:List (Ty.den TS)}{s3:ByteArray}(g0:0≤n1)(h0:(n1<n0))(h1:(n1<(4096:Int)))(h2:(o3n [.s {data:={toList:=[]}}])=(some (0,[.s s3])))(h3:((List.length l2+1)*16≤140737488355328)):(o3f [.k 0,.n n0,.n n1,.n 0,.b false,.n 0,.b false,.l TS l2]).sel=some (Step.go [.k 0,.n n0,.n (IntKind.wrap .i64 (n1+(1:Int))),.n (0:Int),.b false,.n (0:Int),.b false,.l TS (l2++[s3])]):=sP [1]<|sT (dt h0)<|sT (dt h1)<|sA h2<|sP [1,1]<|sT (dt h3)<|sP [1,1]<|sL
theorem d4g {n0 n1:Int}{l2:List (Ty.den TS)}(g0:0≤n1)(h0:(¬n1<n0)):(o3f [.k 0,.n n0,.n n1,.n 0,.b false,.n 0,.b false,.l TS l2]).sel=some (Step.stop 0 [.n (0:Int),.b false,.n (0:Int),.b false,.l TS l2]):=sP [1]<|sF (df h0)<|sP [0,0,1]<|sL
def S_m9:BSh:={args:=[.int .i64 0],blks:=[],log:=[],outs:=[(.ptr 0 0,[dkB 1 2 0,.arr TS 4,.arr TOp 5])]}
def ev_m9:List Dat→Tree (Nat×List Dat):=evFV [(none,0,.own TS),(none,1,.own TOp)] a4i 9 (lsM [(3,Bx_m9_3)] 0) S_m9
theorem e_m9: ∃op,IsF ev_m9 9 S_m9 op:=bxFV o3h (lsE (lsC (h3n y3v) (atF) lsZ))
def o3y:OpA:=opF e_m9
theorem p4s {n0 n1:Int}{b2:Bool}{n3:Int}{b4:Bool}{l5:List (Ty.den TS)}(h0:(f4n [.k 0,.n n0,.n (0:Int),.n (0:Int),.b false,.n (0:Int),.b false,.l TS []])=(some (0,[.n n1,.b b2,.n n3,.b b4,.l TS l5]))):o3y [.n n0]=some ((0,[.n n1,.b b2,.n n3,.b b4,.l TS l5,.l TOp []])):=t0c e_m9 (sA h0<|sP [1,1]<|sL)
def t4f:FuncId→Option a0q:=e1c 9 [S_m9.k o3y] a4i
theorem q3s:CsOk Try.prog t4f:=csA1 o3h e_m9
def l4c:LSh:={K:=3,log:=[1],ins:=[(sh 45 [(0,.ptr 0 0),(3,.int .i64 0)],[dkB 1 2 1,.arr TS 5,.arr TOp 6])],nils:=[],outs:=[(.exit 0,sh 45 [(0,.ptr 0 0)],[dkB 1 2 0,.arr TS 4,.arr TOp 5])],cv:=[]}
def l3k:List Dat→Tree Step:=evL t4f 43 4 ls0 l4c
theorem r3p: ∃op,IsL l3k 43 4 l4c op:=bxL q3s (LsOk.none _ _ _)
def n3i:OpA:=opL r3p
theorem v3a (env:List Dat):n3i env=a0b l3k FU env:=h3y r3p env
abbrev s4q:MBox:=boxL r3p
theorem u3s {n0 n1:Int}{b2:Bool}{n3:Int}{b4:Bool}{l5:List (Ty.den TS)}{l6:List (Ty.den TOp)}(g0:0≤n0)(h0:(n0<(↑(List.length l6):Int)))(h1:(inR (Prod.fst (List.getD l6 (Int.toNat n0) (Ty.dflt TOp))) (List.length l5)=true)):(l3k [.k 0,.n n0,.n n1,.b b2,.n n3,.b b4,.l TS l5,.l TOp l6]).sel=some (Step.go [.k 0,.n (IntKind.wrap .i64 (n0+(1:Int))),.n n1,.b b2,.n n3,.b b4,.l TS (List.set l5 (Int.toNat (Prod.fst (List.getD l6 (Int.toNat n0) (Ty.dflt TOp)))) (Prod.snd (List.getD l6 (Int.toNat n0) (Ty.dflt TOp)))),.l TOp l6]):=sP [1]<|sT (dt h0)<|sTo (c:=(inR n0 (List.length l6)))<|sTo (c:=(inR n0 (List.length l6)))<|sT h1<|sP [1,1]<|sL
theorem v3w {n0 n1:Int}{b2:Bool}{n3:Int}{b4:Bool}{l5:List (Ty.den TS)}{l6:List (Ty.den TOp)}(g0:0≤n0)(h0:(¬n0<(↑(List.length l6):Int))):(l3k [.k 0,.n n0,.n n1,.b b2,.n n3,.b b4,.l TS l5,.l TOp l6]).sel=some (Step.stop 0 [.n n1,.b b2,.n n3,.b b4,.l TS l5,.l TOp l6]):=sP [1]<|sF (df h0)<|sP [1]<|sL
def S_m28:BSh:={args:=[.ptr 0 0],blks:=[dkB 1 2 0,.arr TS 4,.arr TOp 5],log:=[0,1],outs:=[(.int .i64 0,[dkB 1 2 1,.arr TS 5,.arr TOp 6]),(.int .i64 0,[dkB 1 3 1,.arr TS 5,.gone,.arr TOp 6])]}
def ev_m28:List Dat→Tree (Nat×List Dat):=evFV [(some 0,1,.own TOp)] t4f 43 (lsM [(4,s4q)] 3) S_m28
theorem b4w: ∃op,IsF ev_m28 43 S_m28 op:=bxFV q3s (lsE (lsC (h3n r3p) (atF) lsZ))
def k3i:OpA:=opF b4w
theorem o4b {n0:Int}{b1:Bool}{n2:Int}{b3:Bool}{l4:List (Ty.den TS)}{l5:List (Ty.den TOp)}(h0:(b3=true)):k3i [.n n0,.b b1,.n n2,.b b3,.l TS l4,.l TOp l5]=some ((0,[.n (140:Int),.n n0,.b b1,.n n2,.b b3,.l TS l4,.l TOp l5])):=t0c b4w (sT h0<|sP [1,1,1]<|sL)
theorem f4q {n0:Int}{b1:Bool}{n2:Int}{b3:Bool}{l4:List (Ty.den TS)}{l5:List (Ty.den TOp)}{n6:Int}{b7:Bool}{n8:Int}{b9:Bool}{l10:List (Ty.den TS)}{l11:List (Ty.den TOp)}(h0:(b3=false))(h1:(b1=false))(h2:(n3i [.k 0,.n (0:Int),.n (IntKind.wrap .i64 (n0+(1:Int))),.b b1,.n n2,.b b3,.l TS l4,.l TOp l5])=(some (0,[.n n6,.b b7,.n n8,.b b9,.l TS l10,.l TOp l11]))):k3i [.n n0,.b b1,.n n2,.b b3,.l TS l4,.l TOp l5]=some ((1,[.n (0:Int),.n n6,.b b7,.n n8,.b b9,.l TS l10,.l TOp []])):=t0c b4w (sF h0<|sP [1]<|sT (nf h1)<|sP [1,0]<|sA h2<|sP [1,1]<|sL)
theorem i4w {n0:Int}{b1:Bool}{n2:Int}{b3:Bool}{l4:List (Ty.den TS)}{l5:List (Ty.den TOp)}{n6:Int}{b7:Bool}{n8:Int}{b9:Bool}{l10:List (Ty.den TS)}{l11:List (Ty.den TOp)}(h0:(b3=false))(h1:(b1=true))(h2:(n2>(0:Int)))(h3:(n3i [.k 0,.n (0:Int),.n (IntKind.wrap .i64 (n0+(1:Int))),.b b1,.n (IntKind.wrap .i64 (n2-(1:Int))),.b b3,.l TS l4,.l TOp l5])=(some (0,[.n n6,.b b7,.n n8,.b b9,.l TS l10,.l TOp l11]))):k3i [.n n0,.b b1,.n n2,.b b3,.l TS l4,.l TOp l5]=some ((1,[.n (0:Int),.n n6,.b b7,.n n8,.b b9,.l TS l10,.l TOp []])):=t0c b4w (sF h0<|sP [1]<|sF (nt h1)<|sT (dt h2)<|sP [1,0]<|sA h3<|sP [1,1]<|sL)
theorem n4c {n0:Int}{b1:Bool}{n2:Int}{b3:Bool}{l4:List (Ty.den TS)}{l5:List (Ty.den TOp)}(h0:(b3=false))(h1:(b1=true))(h2:(¬n2>(0:Int))):k3i [.n n0,.b b1,.n n2,.b b3,.l TS l4,.l TOp l5]=some ((0,[.n (140:Int),.n (IntKind.wrap .i64 (n0+(1:Int))),.b false,.n n2,.b true,.l TS l4,.l TOp l5])):=t0c b4w (sF h0<|sP [1]<|sF (nt h1)<|sF (df h2)<|sP [1,1,1]<|sL)
def z3o:FuncId→Option a0q:=e1c 43 [S_m28.k k3i] t4f
theorem n3q:CsOk Try.prog z3o:=csA1 q3s b4w
def j4o:LSh:={K:=3,log:=[],ins:=[(sh 49 [(0,.ptr 0 0),(1,.int .i64 0),(7,.int .i64 1)],[dkB 1 2 2,.arr TS 6,.arr TOp 7])],nils:=[],outs:=[(.exit 0,sh 49 [(0,.ptr 0 0),(1,.int .i64 0)],[dkB 1 2 1,.arr TS 5,.arr TOp 6]),(.ret,sh 49 [(4,.str 0),(5,.int .i64 1)],[dkB 1 2 2,.arr TS 6,.arr TOp 7])],cv:=[]}
def k3p:List Dat→Tree Step:=evL z3o 40 5 ls0 j4o
theorem q3p: ∃op,IsL k3p 40 5 j4o op:=bxL n3q (LsOk.none _ _ _)
def q3x:OpA:=opL q3p
theorem w3t (env:List Dat):q3x env=a0b k3p FU env:=h3y q3p env
abbrev u4w:MBox:=boxL q3p
theorem w3f {n0 n1 n2:Int}{b3:Bool}{n4:Int}{b5:Bool}{l6:List (Ty.den TS)}{l7:List (Ty.den TOp)}(h0:(n1≥(0:Int)))(h1:(inR n1 (List.length l7)=true))(h2:((Prod.fst (List.getD l7 (Int.toNat n1) (Ty.dflt TOp)):Int)=n0)):(k3p [.k 0,.n n0,.n n1,.n n2,.b b3,.n n4,.b b5,.l TS l6,.l TOp l7]).sel=some (Step.stop 1 [.s (Prod.snd (List.getD l7 (Int.toNat n1) (Ty.dflt TOp))),.n (0:Int),.n n2,.b b3,.n n4,.b b5,.l TS l6,.l TOp l7]):=sP [1]<|sT (dt h0)<|sT h1<|sT (bt h2)<|sT h1<|sP [1]<|sL
theorem v3x {n0 n1 n2:Int}{b3:Bool}{n4:Int}{b5:Bool}{l6:List (Ty.den TS)}{l7:List (Ty.den TOp)}(h0:(n1≥(0:Int)))(h1:(inR n1 (List.length l7)=true))(h2:(¬(Prod.fst (List.getD l7 (Int.toNat n1) (Ty.dflt TOp)):Int)=n0)):(k3p [.k 0,.n n0,.n n1,.n n2,.b b3,.n n4,.b b5,.l TS l6,.l TOp l7]).sel=some (Step.go [.k 0,.n n0,.n (IntKind.wrap .i64 (n1-(1:Int))),.n n2,.b b3,.n n4,.b b5,.l TS l6,.l TOp l7]):=sP [1]<|sT (dt h0)<|sT h1<|sF (bf h2)<|sP [1]<|sL
theorem w3w {n0 n1 n2:Int}{b3:Bool}{n4:Int}{b5:Bool}{l6:List (Ty.den TS)}{l7:List (Ty.den TOp)}(h0:(¬n1≥(0:Int))):(k3p [.k 0,.n n0,.n n1,.n n2,.b b3,.n n4,.b b5,.l TS l6,.l TOp l7]).sel=some (Step.stop 0 [.n n0,.n n2,.b b3,.n n4,.b b5,.l TS l6,.l TOp l7]):=sP [1]<|sF (df h0)<|sP [1]<|sL
def S_m29:BSh:={args:=[.ptr 0 0,.int .i64 0],blks:=[dkB 1 2 1,.arr TS 5,.arr TOp 6],log:=[],outs:=[(.tup [.str 0,.int .i64 1],[dkB 1 2 2,.arr TS 6,.arr TOp 7])]}
def ev_m29:List Dat→Tree (Nat×List Dat):=evF z3o 40 (lsM [(5,u4w)] 3) S_m29
theorem w3q: ∃op,IsF ev_m29 40 S_m29 op:=bxF n3q (lsE (lsC (h3n q3p) (atF) lsZ))
def h3d:OpA:=opF w3q
theorem g4i {n0 n1:Int}{b2:Bool}{n3:Int}{b4:Bool}{l5:List (Ty.den TS)}{l6:List (Ty.den TOp)}(h0:(b4=true)):h3d [.n n0,.n n1,.b b2,.n n3,.b b4,.l TS l5,.l TOp l6]=some ((0,[.s {data:={toList:=[]}},.n (140:Int),.n n1,.b b2,.n n3,.b b4,.l TS l5,.l TOp l6])):=t0c w3q (sP [1]<|sT h0<|sP [1,1,1]<|sL)
theorem f4i {n0 n1:Int}{b2:Bool}{n3:Int}{b4:Bool}{l5:List (Ty.den TS)}{l6:List (Ty.den TOp)}(h0:(b4=false))(h1:(n0<(0:Int))):h3d [.n n0,.n n1,.b b2,.n n3,.b b4,.l TS l5,.l TOp l6]=some ((0,[.s {data:={toList:=[]}},.n (2:Int),.n n1,.b b2,.n n3,.b b4,.l TS l5,.l TOp l6])):=t0c w3q (sP [1]<|sF h0<|sT (dt h1)<|sP [1,1,1,1,1]<|sL)
theorem j4v {n0 n1:Int}{b2:Bool}{n3:Int}{b4:Bool}{l5:List (Ty.den TS)}{l6:List (Ty.den TOp)}(h0:(b4=false))(h1:(¬n0<(0:Int)))(h2:(n0≥(↑(List.length l5):Int))):h3d [.n n0,.n n1,.b b2,.n n3,.b b4,.l TS l5,.l TOp l6]=some ((0,[.s {data:={toList:=[]}},.n (2:Int),.n n1,.b b2,.n n3,.b b4,.l TS l5,.l TOp l6])):=t0c w3q (sP [1]<|sF h0<|sF (df h1)<|sT (dt h2)<|sP [1,1,1]<|sL)
theorem k4m {n0 n1:Int}{b2:Bool}{n3:Int}{b4:Bool}{l5:List (Ty.den TS)}{l6:List (Ty.den TOp)}{n7 n8:Int}{b9:Bool}{n10:Int}{b11:Bool}{l12:List (Ty.den TS)}{l13:List (Ty.den TOp)}(h0:(b4=false))(h1:(¬n0<(0:Int)))(h2:(¬n0≥(↑(List.length l5):Int)))(h3:(q3x [.k 0,.n n0,.n (IntKind.wrap .i64 ((↑(List.length l6):Int)-(1:Int))),.n n1,.b b2,.n n3,.b b4,.l TS l5,.l TOp l6])=(some (0,[.n n7,.n n8,.b b9,.n n10,.b b11,.l TS l12,.l TOp l13])))(h4:(inR n7 (List.length l12)=true)):h3d [.n n0,.n n1,.b b2,.n n3,.b b4,.l TS l5,.l TOp l6]=some ((0,[.s (List.getD l12 (Int.toNat n7) (Ty.dflt TS)),.n (0:Int),.n n8,.b b9,.n n10,.b b11,.l TS l12,.l TOp l13])):=t0c w3q (sP [1]<|sF h0<|sF (df h1)<|sF (df h2)<|sP [1,0]<|sA h3<|sP [1]<|sT h4<|sP [1]<|sL)
theorem h4c {n0 n1:Int}{b2:Bool}{n3:Int}{b4:Bool}{l5:List (Ty.den TS)}{l6:List (Ty.den TOp)}{s7:ByteArray}{n8 n9:Int}{b10:Bool}{n11:Int}{b12:Bool}{l13:List (Ty.den TS)}{l14:List (Ty.den TOp)}(h0:(b4=false))(h1:(¬n0<(0:Int)))(h2:(¬n0≥(↑(List.length l5):Int)))(h3:(q3x [.k 0,.n n0,.n (IntKind.wrap .i64 ((↑(List.length l6):Int)-(1:Int))),.n n1,.b b2,.n n3,.b b4,.l TS l5,.l TOp l6])=(some (1,[.s s7,.n n8,.n n9,.b b10,.n n11,.b b12,.l TS l13,.l TOp l14]))):h3d [.n n0,.n n1,.b b2,.n n3,.b b4,.l TS l5,.l TOp l6]=some ((0,[.s s7,.n n8,.n n9,.b b10,.n n11,.b b12,.l TS l13,.l TOp l14])):=t0c w3q (sP [1]<|sF h0<|sF (df h1)<|sF (df h2)<|sP [1,0]<|sA h3<|sP [0,1,1]<|sL)
def z3t:FuncId→Option a0q:=e1c 40 [S_m29.k h3d] z3o
theorem o3m:CsOk Try.prog z3t:=csA1 n3q w3q
def m4y:LSh:={K:=3,log:=[1],ins:=[(sh 70 [(0,.ptr 0 0),(1,.imm TB 0),(4,.int .i64 1)],[dkB 1 2 2,.arr TS 6,.arr TOp 7])],nils:=[],outs:=[(.exit 0,sh 70 [(0,.ptr 0 0)],[dkB 1 2 0,.arr TS 4,.arr TOp 5])],cv:=[]}
def j3x:List Dat→Tree Step:=evL z3t 19 4 ls0 m4y
theorem r3z: ∃op,IsL j3x 19 4 m4y op:=bxL o3m (LsOk.none _ _ _)
def s3a:OpA:=opL r3z
theorem v3l (env:List Dat):s3a env=a0b j3x FU env:=h3y r3z env
abbrev u4t:MBox:=boxL r3z
theorem v3v {l0:List (Ty.den TB)}{n1 n2:Int}{b3:Bool}{n4:Int}{b5:Bool}{l6:List (Ty.den TS)}{l7:List (Ty.den TOp)}(g0:0≤n1)(h0:(n1<(↑(List.length l7):Int)))(h1:(n1<(↑(List.length l0):Int)))(h2:(IntKind.wrap .i64 (List.getD l0 (Int.toNat n1) (0:Int))=(255:Int)))(h3:((true&&decide ((256:Int)≤(↑(ByteArray.size (Prod.snd (List.getD l7 (Int.toNat n1) (Ty.dflt TOp)))):Int)))=true))(h4:(inR (Prod.fst (List.getD l7 (Int.toNat n1) (Ty.dflt TOp))) (List.length l6)=true))(h5:((true&&decide ((256:Int)≤(↑(ByteArray.size (List.getD l6 (Int.toNat (Prod.fst (List.getD l7 (Int.toNat n1) (Ty.dflt TOp)))) (Ty.dflt TS))):Int)))=true))(h6:(ByteArray.size (ByteArray.extract (Prod.snd (List.getD l7 (Int.toNat n1) (Ty.dflt TOp))) 0 256)+ByteArray.size (ByteArray.extract (List.getD l6 (Int.toNat (Prod.fst (List.getD l7 (Int.toNat n1) (Ty.dflt TOp)))) (Ty.dflt TS)) 256 (Int.toNat (↑(ByteArray.size (List.getD l6 (Int.toNat (Prod.fst (List.getD l7 (Int.toNat n1) (Ty.dflt TOp)))) (Ty.dflt TS))):Int)))≤9223372036854775807)):(j3x [.k 0,.l TB l0,.n n1,.n n2,.b b3,.n n4,.b b5,.l TS l6,.l TOp l7]).sel=some (Step.go [.k 0,.l TB l0,.n (IntKind.wrap .i64 (n1+(1:Int))),.n n2,.b b3,.n n4,.b b5,.l TS (List.set l6 (Int.toNat (Prod.fst (List.getD l7 (Int.toNat n1) (Ty.dflt TOp)))) (ByteArray.extract (Prod.snd (List.getD l7 (Int.toNat n1) (Ty.dflt TOp))) 0 256++ByteArray.extract (List.getD l6 (Int.toNat (Prod.fst (List.getD l7 (Int.toNat n1) (Ty.dflt TOp)))) (Ty.dflt TS)) 256 (Int.toNat (↑(ByteArray.size (List.getD l6 (Int.toNat (Prod.fst (List.getD l7 (Int.toNat n1) (Ty.dflt TOp)))) (Ty.dflt TS))):Int)))),.l TOp l7]):=sP [1]<|sT (dt h0)<|sTo (c:=(inR n1 (List.length l7)))<|sT (dt h1)<|sTo (c:=(inR n1 (List.length l0)))<|sT (bt h2)<|sT h3<|sP [1]<|sT h4<|sTs (c:=(true&&decide ((↑(ByteArray.size (List.getD l6 (Int.toNat (Prod.fst (List.getD l7 (Int.toNat n1) (Ty.dflt TOp)))) (Ty.dflt TS))):Int)≤(↑(ByteArray.size (List.getD l6 (Int.toNat (Prod.fst (List.getD l7 (Int.toNat n1) (Ty.dflt TOp)))) (Ty.dflt TS))):Int))))<|sT h5<|sT (dt h6)<|sT h4<|sP [1,1]<|sL
theorem w3b {l0:List (Ty.den TB)}{n1 n2:Int}{b3:Bool}{n4:Int}{b5:Bool}{l6:List (Ty.den TS)}{l7:List (Ty.den TOp)}(g0:0≤n1)(h0:(n1<(↑(List.length l7):Int)))(h1:(n1<(↑(List.length l0):Int)))(h2:(¬IntKind.wrap .i64 (List.getD l0 (Int.toNat n1) (0:Int))=(255:Int)))(h3:((decide ((0:Int)≤IntKind.wrap .i64 (List.getD l0 (Int.toNat n1) (0:Int)))&&decide (IntKind.wrap .i64 (List.getD l0 (Int.toNat n1) (0:Int))≤(↑(ByteArray.size (Prod.snd (List.getD l7 (Int.toNat n1) (Ty.dflt TOp)))):Int)))=true))(h4:((true&&decide ((0:Int)≤IntKind.wrap .i64 (List.getD l0 (Int.toNat n1) (0:Int))))=true))(h5:(inR (Prod.fst (List.getD l7 (Int.toNat n1) (Ty.dflt TOp))) (List.length l6)=true))(h6:((decide ((0:Int)≤IntKind.wrap .i64 (List.getD l0 (Int.toNat n1) (0:Int)))&&decide (IntKind.wrap .i64 (List.getD l0 (Int.toNat n1) (0:Int))≤(↑(ByteArray.size (List.getD l6 (Int.toNat (Prod.fst (List.getD l7 (Int.toNat n1) (Ty.dflt TOp)))) (Ty.dflt TS))):Int)))=true))(h7:(ByteArray.size (ByteArray.extract (Prod.snd (List.getD l7 (Int.toNat n1) (Ty.dflt TOp))) 0 (Int.toNat (IntKind.wrap .i64 (List.getD l0 (Int.toNat n1) (0:Int)))))+ByteArray.size (ByteArray.extract (List.getD l6 (Int.toNat (Prod.fst (List.getD l7 (Int.toNat n1) (Ty.dflt TOp)))) (Ty.dflt TS)) (Int.toNat (IntKind.wrap .i64 (List.getD l0 (Int.toNat n1) (0:Int)))) (Int.toNat (↑(ByteArray.size (List.getD l6 (Int.toNat (Prod.fst (List.getD l7 (Int.toNat n1) (Ty.dflt TOp)))) (Ty.dflt TS))):Int)))≤9223372036854775807)):(j3x [.k 0,.l TB l0,.n n1,.n n2,.b b3,.n n4,.b b5,.l TS l6,.l TOp l7]).sel=some (Step.go [.k 0,.l TB l0,.n (IntKind.wrap .i64 (n1+(1:Int))),.n n2,.b b3,.n n4,.b b5,.l TS (List.set l6 (Int.toNat (Prod.fst (List.getD l7 (Int.toNat n1) (Ty.dflt TOp)))) (ByteArray.extract (Prod.snd (List.getD l7 (Int.toNat n1) (Ty.dflt TOp))) 0 (Int.toNat (IntKind.wrap .i64 (List.getD l0 (Int.toNat n1) (0:Int))))++ByteArray.extract (List.getD l6 (Int.toNat (Prod.fst (List.getD l7 (Int.toNat n1) (Ty.dflt TOp)))) (Ty.dflt TS)) (Int.toNat (IntKind.wrap .i64 (List.getD l0 (Int.toNat n1) (0:Int)))) (Int.toNat (↑(ByteArray.size (List.getD l6 (Int.toNat (Prod.fst (List.getD l7 (Int.toNat n1) (Ty.dflt TOp)))) (Ty.dflt TS))):Int)))),.l TOp l7]):=sP [1]<|sT (dt h0)<|sTo (c:=(inR n1 (List.length l7)))<|sT (dt h1)<|sTo (c:=(inR n1 (List.length l0)))<|sF (bf h2)<|sT h3<|sT h4<|sT h5<|sTs (c:=(true&&decide ((↑(ByteArray.size (List.getD l6 (Int.toNat (Prod.fst (List.getD l7 (Int.toNat n1) (Ty.dflt TOp)))) (Ty.dflt TS))):Int)≤(↑(ByteArray.size (List.getD l6 (Int.toNat (Prod.fst (List.getD l7 (Int.toNat n1) (Ty.dflt TOp)))) (Ty.dflt TS))):Int))))<|sT h6<|sT (dt h7)<|sT h5<|sP [1,1]<|sL
theorem w3v {l0:List (Ty.den TB)}{n1 n2:Int}{b3:Bool}{n4:Int}{b5:Bool}{l6:List (Ty.den TS)}{l7:List (Ty.den TOp)}(g0:0≤n1)(h0:(n1<(↑(List.length l7):Int)))(h1:(¬n1<(↑(List.length l0):Int)))(h2:(inR (Prod.fst (List.getD l7 (Int.toNat n1) (Ty.dflt TOp))) (List.length l6)=true))(h3:(ByteArray.size (ByteArray.extract (Prod.snd (List.getD l7 (Int.toNat n1) (Ty.dflt TOp))) 0 0)+ByteArray.size (ByteArray.extract (List.getD l6 (Int.toNat (Prod.fst (List.getD l7 (Int.toNat n1) (Ty.dflt TOp)))) (Ty.dflt TS)) 0 (Int.toNat (↑(ByteArray.size (List.getD l6 (Int.toNat (Prod.fst (List.getD l7 (Int.toNat n1) (Ty.dflt TOp)))) (Ty.dflt TS))):Int)))≤9223372036854775807)):(j3x [.k 0,.l TB l0,.n n1,.n n2,.b b3,.n n4,.b b5,.l TS l6,.l TOp l7]).sel=some (Step.go [.k 0,.l TB l0,.n (IntKind.wrap .i64 (n1+(1:Int))),.n n2,.b b3,.n n4,.b b5,.l TS (List.set l6 (Int.toNat (Prod.fst (List.getD l7 (Int.toNat n1) (Ty.dflt TOp)))) (ByteArray.extract (Prod.snd (List.getD l7 (Int.toNat n1) (Ty.dflt TOp))) 0 0++ByteArray.extract (List.getD l6 (Int.toNat (Prod.fst (List.getD l7 (Int.toNat n1) (Ty.dflt TOp)))) (Ty.dflt TS)) 0 (Int.toNat (↑(ByteArray.size (List.getD l6 (Int.toNat (Prod.fst (List.getD l7 (Int.toNat n1) (Ty.dflt TOp)))) (Ty.dflt TS))):Int)))),.l TOp l7]):=sP [1]<|sT (dt h0)<|sTo (c:=(inR n1 (List.length l7)))<|sF (df h1)<|sP [0,1,1]<|sT h2<|sTs (c:=(true&&decide ((↑(ByteArray.size (List.getD l6 (Int.toNat (Prod.fst (List.getD l7 (Int.toNat n1) (Ty.dflt TOp)))) (Ty.dflt TS))):Int)≤(↑(ByteArray.size (List.getD l6 (Int.toNat (Prod.fst (List.getD l7 (Int.toNat n1) (Ty.dflt TOp)))) (Ty.dflt TS))):Int))))<|sP [1]<|sT (dt h3)<|sT h2<|sP [1,1]<|sL
theorem x3k {l0:List (Ty.den TB)}{n1 n2:Int}{b3:Bool}{n4:Int}{b5:Bool}{l6:List (Ty.den TS)}{l7:List (Ty.den TOp)}(g0:0≤n1)(h0:(¬n1<(↑(List.length l7):Int))):(j3x [.k 0,.l TB l0,.n n1,.n n2,.b b3,.n n4,.b b5,.l TS l6,.l TOp l7]).sel=some (Step.stop 0 [.n n2,.b b3,.n n4,.b b5,.l TS l6,.l TOp l7]):=sP [1]<|sF (df h0)<|sP [1]<|sL
def S_m32:BSh:={args:=[.ptr 0 0,.imm TB 0],blks:=[dkB 1 2 1,.arr TS 5,.arr TOp 6],log:=[0,1],outs:=[(.tup [],[dkB 1 2 0,.arr TS 4,.arr TOp 5]),(.tup [],[dkB 1 3 0,.arr TS 4,.gone,.arr TOp 5])]}
def ev_m32:List Dat→Tree (Nat×List Dat):=evFV [(some 0,1,.own TOp)] z3t 19 (lsM [(4,u4t)] 3) S_m32
theorem q4g: ∃op,IsF ev_m32 19 S_m32 op:=bxFV o3m (lsE (lsC (h3n r3z) (atF) lsZ))
def j3y:OpA:=opF q4g
theorem i4c {l0:List (Ty.den TB)}{n1:Int}{b2:Bool}{n3:Int}{b4:Bool}{l5:List (Ty.den TS)}{l6:List (Ty.den TOp)}(h0:(b4=false)):j3y [.l TB l0,.n n1,.b b2,.n n3,.b b4,.l TS l5,.l TOp l6]=some ((0,[.n n1,.b false,.n n3,.b b4,.l TS l5,.l TOp l6])):=t0c q4g (sT (nf h0)<|sP [1]<|sL)
theorem i4r {l0:List (Ty.den TB)}{n1:Int}{b2:Bool}{n3:Int}{b4:Bool}{l5:List (Ty.den TS)}{l6:List (Ty.den TOp)}{n7:Int}{b8:Bool}{n9:Int}{b10:Bool}{l11:List (Ty.den TS)}{l12:List (Ty.den TOp)}(h0:(b4=true))(h1:(s3a [.k 0,.l TB l0,.n (0:Int),.n n1,.b false,.n n3,.b false,.l TS l5,.l TOp l6])=(some (0,[.n n7,.b b8,.n n9,.b b10,.l TS l11,.l TOp l12]))):j3y [.l TB l0,.n n1,.b b2,.n n3,.b b4,.l TS l5,.l TOp l6]=some ((1,[.n n7,.b b8,.n n9,.b b10,.l TS l11,.l TOp []])):=t0c q4g (sF (nt h0)<|sA h1<|sP [1,1]<|sL)
def j4z:FuncId→Option a0q:=e1c 19 [S_m32.k j3y] z3t
theorem u3b:CsOk Try.prog j4z:=csA1 o3m q4g
def S_m33:BSh:={args:=[.ptr 0 0,.int .i64 0,.str 1],blks:=[dkB 1 2 2,.arr TS 6,.arr TOp 7],log:=[0,2],outs:=[(.int .i64 0,[dkB 1 2 1,.arr TS 5,.arr TOp 6])]}
def ev_m33:List Dat→Tree (Nat×List Dat):=evF j4z 21 ls0 S_m33
theorem r3w: ∃op,IsF ev_m33 21 S_m33 op:=bxF u3b (LsOk.none _ _ _)
def h3r:OpA:=opF r3w
theorem p4c {n0:Int}{s1:ByteArray}{n2:Int}{b3:Bool}{n4:Int}{b5:Bool}{l6:List (Ty.den TS)}{l7:List (Ty.den TOp)}(h0:(b5=true)):h3r [.n n0,.s s1,.n n2,.b b3,.n n4,.b b5,.l TS l6,.l TOp l7]=some ((0,[.n (140:Int),.n n2,.b b3,.n n4,.b b5,.l TS l6,.l TOp l7])):=t0c r3w (sP [1]<|sT h0<|sP [1,1,1]<|sL)
theorem m4z {n0:Int}{s1:ByteArray}{n2:Int}{b3:Bool}{n4:Int}{b5:Bool}{l6:List (Ty.den TS)}{l7:List (Ty.den TOp)}(h0:(b5=false))(h1:(n0<(0:Int))):h3r [.n n0,.s s1,.n n2,.b b3,.n n4,.b b5,.l TS l6,.l TOp l7]=some ((0,[.n (2:Int),.n n2,.b b3,.n n4,.b b5,.l TS l6,.l TOp l7])):=t0c r3w (sP [1]<|sF h0<|sT (dt h1)<|sP [1,1,1,1,1]<|sL)
theorem p4o {n0:Int}{s1:ByteArray}{n2:Int}{b3:Bool}{n4:Int}{b5:Bool}{l6:List (Ty.den TS)}{l7:List (Ty.den TOp)}(h0:(b5=false))(h1:(¬n0<(0:Int)))(h2:(n0≥(↑(List.length l6):Int))):h3r [.n n0,.s s1,.n n2,.b b3,.n n4,.b b5,.l TS l6,.l TOp l7]=some ((0,[.n (2:Int),.n n2,.b b3,.n n4,.b b5,.l TS l6,.l TOp l7])):=t0c r3w (sP [1]<|sF h0<|sF (df h1)<|sT (dt h2)<|sP [1,1,1]<|sL)
theorem l4y {n0:Int}{s1:ByteArray}{n2:Int}{b3:Bool}{n4:Int}{b5:Bool}{l6:List (Ty.den TS)}{l7:List (Ty.den TOp)}(h0:(b5=false))(h1:(¬n0<(0:Int)))(h2:(¬n0≥(↑(List.length l6):Int)))(h3:((↑(ByteArray.size s1):Int)>(256:Int))):h3r [.n n0,.s s1,.n n2,.b b3,.n n4,.b b5,.l TS l6,.l TOp l7]=some ((0,[.n (3:Int),.n n2,.b b3,.n n4,.b b5,.l TS l6,.l TOp l7])):=t0c r3w (sP [1]<|sF h0<|sF (df h1)<|sF (df h2)<|sP [1,0]<|sT (dt h3)<|sP [1]<|sL)
theorem k4a {n0:Int}{s1:ByteArray}{n2:Int}{b3:Bool}{n4:Int}{b5:Bool}{l6:List (Ty.den TS)}{l7:List (Ty.den TOp)}{s8:ByteArray}(h0:(b5=false))(h1:(¬n0<(0:Int)))(h2:(¬n0≥(↑(List.length l6):Int)))(h3:(¬(↑(ByteArray.size s1):Int)>(256:Int)))(h4:(o3n [.s s1])=(some (0,[.s s8])))(h5:((List.length l7+1)*24≤140737488355328))(h6:(b3=false)):h3r [.n n0,.s s1,.n n2,.b b3,.n n4,.b b5,.l TS l6,.l TOp l7]=some ((0,[.n (0:Int),.n (IntKind.wrap .i64 (n2+(1:Int))),.b b3,.n n4,.b b5,.l TS l6,.l TOp (apL l7 [(n0,s8)])])):=t0c r3w (sP [1]<|sF h0<|sF (df h1)<|sF (df h2)<|sP [1,0]<|sF (df h3)<|sA h4<|sP [1,1]<|sT (dt h5)<|sP [1,1]<|sT (nf h6)<|sP [1,0,1]<|sL)
theorem m4w {n0:Int}{s1:ByteArray}{n2:Int}{b3:Bool}{n4:Int}{b5:Bool}{l6:List (Ty.den TS)}{l7:List (Ty.den TOp)}{s8:ByteArray}(h0:(b5=false))(h1:(¬n0<(0:Int)))(h2:(¬n0≥(↑(List.length l6):Int)))(h3:(¬(↑(ByteArray.size s1):Int)>(256:Int)))(h4:(o3n [.s s1])=(some (0,[.s s8])))(h5:((List.length l7+1)*24≤140737488355328))(h6:(b3=true))(h7:(n4>(0:Int))):h3r [.n n0,.s s1,.n n2,.b b3,.n n4,.b b5,.l TS l6,.l TOp l7]=some ((0,[.n (0:Int),.n (IntKind.wrap .i64 (n2+(1:Int))),.b b3,.n (IntKind.wrap .i64 (n4-(1:Int))),.b b5,.l TS l6,.l TOp (apL l7 [(n0,s8)])])):=t0c r3w (sP [1]<|sF h0<|sF (df h1)<|sF (df h2)<|sP [1,0]<|sF (df h3)<|sA h4<|sP [1,1]<|sT (dt h5)<|sP [1,1]<|sF (nt h6)<|sT (dt h7)<|sP [1,0,1]<|sL)
theorem l4q {n0:Int}{s1:ByteArray}{n2:Int}{b3:Bool}{n4:Int}{b5:Bool}{l6:List (Ty.den TS)}{l7:List (Ty.den TOp)}{s8:ByteArray}(h0:(b5=false))(h1:(¬n0<(0:Int)))(h2:(¬n0≥(↑(List.length l6):Int)))(h3:(¬(↑(ByteArray.size s1):Int)>(256:Int)))(h4:(o3n [.s s1])=(some (0,[.s s8])))(h5:((List.length l7+1)*24≤140737488355328))(h6:(b3=true))(h7:(¬n4>(0:Int))):h3r [.n n0,.s s1,.n n2,.b b3,.n n4,.b b5,.l TS l6,.l TOp l7]=some ((0,[.n (140:Int),.n (IntKind.wrap .i64 (n2+(1:Int))),.b false,.n n4,.b true,.l TS l6,.l TOp (apL l7 [(n0,s8)])])):=t0c r3w (sP [1]<|sF h0<|sF (df h1)<|sF (df h2)<|sP [1,0]<|sF (df h3)<|sA h4<|sP [1,1]<|sT (dt h5)<|sP [1,1]<|sF (nt h6)<|sF (df h7)<|sP [1,1,1]<|sL)
def m3b:FuncId→Option a0q:=e1c 21 [S_m33.k h3r] j4z
theorem i3h:CsOk Try.prog m3b:=csA1 u3b r3w
theorem o3u {α:Type}{l:List α}{n:Nat}{d:α}(h:n<l.length):l.take (n+1)=l.take n++[l.getD n d]:=by
 rw[List.take_succ_eq_append_getElem h,List.getD_eq_getElem?_getD,List.getElem?_eq_getElem h];rfl
def b0i (hit:Nat→Bool):Nat→Option Nat
 |0=>none
 |m+1=>match b0i hit m with
  |some i=>some i
  |none=>match hit m with
   |true=>some m
   |false=>none
theorem b0r {hit:Nat→Bool}: ∀{m:Nat},b0i hit m=none→ ∀i,i<m→hit i=false
 |0,_,i,hi=>by omega
 |m+1,h,i,hi=>by
  unfold b0i at h
  split at h
  ·cases h
  ·rename_i h0
   split at h
   ·cases h
   ·rename_i h1
    rcases Nat.lt_or_ge i m with q|q
    ·exact b0r h0 i q
    ·have:i=m:=by omega
     subst this;exact h1
theorem b0x {hit:Nat→Bool}: ∀{m k:Nat},b0i hit m=some k→k<m∧hit k=true∧ ∀i,i<k→hit i=false
 |0,k,h=>by cases h
 |m+1,k,h=>by
  unfold b0i at h
  split at h
  ·rename_i i h0
   cases h
   obtain⟨h1,h2,h3⟩:=b0x h0
   exact⟨by omega,h2,h3⟩
  ·rename_i h0
   split at h
   ·rename_i h1
    cases h
    exact⟨by omega,h1,b0r h0⟩
   ·cases h
theorem f0f {st:List Dat→Tree Step}(s:Nat→List Dat)(m:Nat)(hit:Nat→Bool)(y:Nat→Nat×List Dat)(y0:Nat×List Dat)
  (go: ∀i,i<m→hit i=false→(st (s i)).sel=some (.go (s (i+1)))) (found: ∀i,i<m→hit i=true→(st (s i)).sel=some (.stop (y i).1 (y i).2)) (stop:(st (s m)).sel=some (.stop y0.1 y0.2)):
  ∀fuel,m<fuel→a0b st fuel (s 0)=some (match b0i hit m with|some k=>y k|none=>y0):=by
 have key: ∀d i fuel,d+i≤m→d<fuel→(∀j,i≤j→j<i+d→hit j=false)→a0b st fuel (s i)=a0b st (fuel-d) (s (i+d)):=by
  intro d
  induction d with
  |zero=>intro i fuel _ _ _;rfl
  |succ d ih=>
   intro i fuel hi hf hh
   obtain⟨f,rfl⟩: ∃f,fuel=f+1:=⟨fuel-1,by omega⟩
   rw[v0e (go i (by omega) (hh i (Nat.le_refl _) (by omega))),ih (i+1) f (by omega) (by omega) (fun j h1 h2=>hh j (by omega) (by omega))]
   rw[show f+1-(d+1)=f-d by omega,show i+1+d=i+(d+1) by omega]
 intro fuel hf
 cases hq:b0i hit m with
 |some k=>
  obtain⟨h1,h2,h3⟩:=b0x hq
  have:=key k 0 fuel (by omega) (by omega) (fun j _ hj=>h3 j (by omega))
  rw[this,Nat.zero_add]
  obtain⟨f,hf'⟩: ∃f,fuel-k=f+1:=⟨fuel-k-1,by omega⟩
  rw[hf']
  exact c0a (found k h1 h2)
 |none=>
  have:=key m 0 fuel (by omega) (by omega) (fun j _ hj=>b0r hq j (by omega))
  rw[this,Nat.zero_add]
  obtain⟨f,hf'⟩: ∃f,fuel-m=f+1:=⟨fuel-m-1,by omega⟩
  rw[hf']
  exact c0a stop
theorem selB {α:Type}{c:Bool}{t e:Tree α}:(Tree.node c t e).sel=bif c then t.sel else e.sel:=rfl
def z3m:BitVec 32:=0xEDB88320#32
def dn (n:BitVec 32):BitVec 32:=(n>>>1)^^^(if n.getLsbD 0 then z3m else 0#32)
def up (n:BitVec 32):BitVec 32:=if n.getLsbD 31 then((n^^^z3m)<<<1)|||1#32 else n<<<1
theorem dn_xor (a b:BitVec 32):dn (a^^^b)=dn a^^^dn b:=by
 unfold dn
 rw[BitVec.getLsbD_xor,BitVec.ushiftRight_xor_distrib]
 cases a.getLsbD 0<;>cases b.getLsbD 0<;>simp
 ·ac_rfl
 ·ac_rfl
 ·have: ∀x y z:BitVec 32,x^^^y=(x^^^z)^^^(y^^^z):=by
   intro x y z
   have e:(x^^^z)^^^(y^^^z)=(x^^^y)^^^(z^^^z):=by ac_rfl
   rw[e,BitVec.xor_self,BitVec.xor_zero]
  exact this _ _ _
def low (n:BitVec 32)(k:Nat):BitVec 32:=n&&&BitVec.ofNat 32 (2^k-1)
theorem s4a (n:BitVec 32)(k:Nat)(hk:k<32):low n (k+1)=low n k^^^(if n.getLsbD k then 1#32<<<k else 0#32):=by
 unfold low
 ext i hi
 simp only[BitVec.getElem_and,BitVec.getElem_xor]
 have e: ∀j,(BitVec.ofNat 32 (2^j-1))[i]=decide (i<j):=by
  intro j
  rw[←BitVec.getLsbD_eq_getElem,BitVec.getLsbD_ofNat,Nat.testBit_two_pow_sub_one];simp[hi]
 rw[e,e]
 by_cases h:n.getLsbD k
 ·rw[if_pos h]
  rw[BitVec.getElem_shiftLeft]
  by_cases h1:i<k
  ·simp[h1,show i<k+1 by omega]
  ·by_cases h2:i=k
   ·subst h2;rw[BitVec.getLsbD_eq_getElem hi]at h;simp[h]
   ·simp[h1,show¬i<k+1 by omega,show¬i-k=0 by omega]
 ·rw[if_neg h]
  by_cases h1:i<k
  ·simp[h1,show i<k+1 by omega]
  ·by_cases h2:i=k
   ·subst h2;rw[BitVec.getLsbD_eq_getElem hi]at h;simp[h]
   ·simp[h1,show¬i<k+1 by omega]
theorem low_32 (n:BitVec 32):low n 32=n:=by
 unfold low
 ext i hi
 rw[BitVec.getElem_and,←BitVec.getLsbD_eq_getElem (x:=BitVec.ofNat 32 (2^32-1)),BitVec.getLsbD_ofNat,Nat.testBit_two_pow_sub_one]
 simp[hi]
theorem low_0 (n:BitVec 32):low n 0=0#32:=by unfold low;simp
theorem lin_ext {w:Nat}{f g:BitVec 32→BitVec w}(hf: ∀a b,f (a^^^b)=f a^^^f b)(hg: ∀a b,g (a^^^b)=g a^^^g b)(h: ∀i,i<32→f (1#32<<<i)=g (1#32<<<i))(n:BitVec 32):f n=g n:=by
 have z: ∀{f:BitVec 32→BitVec w},(∀a b,f (a^^^b)=f a^^^f b)→f 0#32=0#w:=by
  intro f hf
  have:=hf 0#32 0#32
  rw[BitVec.xor_self]at this
  rw[this,BitVec.xor_self]
 have key: ∀k,k≤32→f (low n k)=g (low n k):=by
  intro k
  induction k with
  |zero=>intro _;rw[low_0,z hf,z hg]
  |succ k ih=>
   intro hk
   rw[s4a n k (by omega),hf,hg,ih (by omega)]
   cases n.getLsbD k with
   |true=>rw[if_pos rfl,h k (by omega)]
   |false=>rw[if_neg (by simp),z hf,z hg]
 have:=key 32 (by omega)
 rwa [low_32]at this
def dnN:Nat→BitVec 32→BitVec 32
 |0,n=>n
 |k+1,n=>dnN k (dn n)
theorem dnN_xor (k:Nat)(a b:BitVec 32):dnN k (a^^^b)=dnN k a^^^dnN k b:=by
 induction k generalizing a b with
 |zero=>rfl
 |succ k ih=>simp only[dnN,dn_xor,ih]
def go (n:BitVec 32)(l:List Int):BitVec 32:=l.foldl (fun n x=>dnN 8 (n^^^BitVec.ofInt 32 x)) n
theorem go_nil (n:BitVec 32):go n []=n:=rfl
theorem go_cons (n:BitVec 32)(x:Int)(l:List Int):go n (x::l)=go (dnN 8 (n^^^BitVec.ofInt 32 x)) l:=rfl
theorem s3s (n:BitVec 32)(l m:List Int):go n (l++m)=go (go n l) m:=by unfold go;rw[List.foldl_append]
def E8:List Int:=[1996959894,3993919788,124634137,249268274,498536548,997073096,1994146192,3988292384]
def tab (u:BitVec 8):Nat→BitVec 32
 |0=>0#32
 |k+1=>tab u k^^^(if u.getLsbD k then BitVec.ofInt 32 (E8.getD k 0)else 0#32)
theorem tab_xor (a b:BitVec 8)(k:Nat):tab (a^^^b) k=tab a k^^^tab b k:=by
 induction k with
 |zero=>simp[tab]
 |succ k ih=>
  simp only[tab,ih,BitVec.getLsbD_xor]
  cases a.getLsbD k<;>cases b.getLsbD k<;>simp
  ·ac_rfl
  ·ac_rfl
  ·have: ∀x y z:BitVec 32,x^^^y=(x^^^z)^^^(y^^^z):=by
    intro x y z
    have e:(x^^^z)^^^(y^^^z)=(x^^^y)^^^(z^^^z):=by ac_rfl
    rw[e,BitVec.xor_self,BitVec.xor_zero]
   exact this _ _ _
theorem dn8 (m:BitVec 32):dnN 8 m=(m>>>8)^^^tab (m.setWidth 8) 8:=by
 refine lin_ext (f:=dnN 8) (g:=fun m=>(m>>>8)^^^tab (m.setWidth 8) 8) (dnN_xor 8) (fun a b=> ?_) (by decide+kernel) m
 simp only[BitVec.ushiftRight_xor_distrib,BitVec.setWidth_xor,tab_xor]
 ac_rfl
theorem ofInt_8 {x:Int}(h0:0≤x)(h1:x<256):BitVec.ofInt 32 x=(BitVec.ofInt 8 x).setWidth 32:=by
 apply BitVec.eq_of_toNat_eq
 rw[BitVec.toNat_setWidth,BitVec.toNat_ofInt,BitVec.toNat_ofInt]
 omega
theorem i4g (n:BitVec 32):BitVec.ofInt 8 (N n)=n.setWidth 8:=by
 apply BitVec.eq_of_toNat_eq
 rw[BitVec.toNat_setWidth,BitVec.toNat_ofInt]
 unfold N
 omega
theorem byte_in (n:BitVec 32){x:Int}(h0:0≤x)(h1:x<256):dnN 8 (n^^^BitVec.ofInt 32 x)=(n>>>8)^^^tab (n.setWidth 8^^^BitVec.ofInt 8 x) 8:=by
 rw[dn8,ofInt_8 h0 h1,BitVec.ushiftRight_xor_distrib,BitVec.setWidth_xor]
 have e1:(BitVec.ofInt 8 x).setWidth 32>>>8=0#32:=by
  apply BitVec.eq_of_toNat_eq
  have:=(BitVec.ofInt 8 x).isLt
  rw[BitVec.toNat_ushiftRight,BitVec.toNat_setWidth,Nat.shiftRight_eq_div_pow]
  simp
  omega
 have e2:((BitVec.ofInt 8 x).setWidth 32).setWidth 8=BitVec.ofInt 8 x:=by
  apply BitVec.eq_of_toNat_eq
  have:=(BitVec.ofInt 8 x).isLt
  rw[BitVec.toNat_setWidth,BitVec.toNat_setWidth]
  omega
 rw[e1,e2,BitVec.xor_zero]
theorem bit0 (x:BitVec 32):(N (x&&&1#32)==0)= !x.getLsbD 0:=by
 rw[show(0:Int)=N 0#32 from rfl,N_beq,Bool.eq_iff_iff]
 simp only[beq_iff_eq,Bool.not_eq_true']
 constructor
 ·intro h
  have:=congrArg (fun v=>v.getLsbD 0) h
  simpa using this
 ·intro h
  apply BitVec.eq_of_getLsbD_eq
  intro i hi
  by_cases h0:i=0
  ·subst h0;rw[BitVec.getLsbD_and,h];simp
  ·simp[h0]
theorem t19 (x:BitVec 32):f2v [.n (N x)]=some (0,[.n (N (dn x))]):=by
 show(d4i [.n (N x)]).sel=_
 simp only[d4i]
 have e:iand IntKind.u32 (N x) 1=N (x&&&1#32):=r2g x 1#32
 have e1:ishr IntKind.u32 (N x) 1=N (x>>>1):=a2b x 1
 have e2:ixor IntKind.u32 (N (x>>>1)) 3988292384=N ((x>>>1)^^^z3m):=q2n (x>>>1) z3m
 rw[selB,e,e1,e2,bit0]
 unfold dn
 cases x.getLsbD 0
 ·simp[Tree.sel]
 ·simp[Tree.sel]
theorem isK1 (x:Int):isK 0 [HK.n] (some (0,[.n x]))=true:=rfl
theorem len_ok {n:Nat}{i:Nat}(h:i<n)(hn:n≤9223372036854775807):IntKind.wrap .i64 ((i:Int)+1)=((i+1:Nat):Int):=by
 rw[w64 (by omega) (by omega)];omega
theorem t12L (b:List Int)(hb:b.length≤9223372036854775807):n3g [.n (N 0xFFFFFFFF#32),.l TB (ofI b),.n b.length,.n ((0:Nat):Int)]=some (0,[.n (N (go 0xFFFFFFFF#32 b))]):=by
 refine b0a (st:=j3d) (fun i=>[.n (N (go 0xFFFFFFFF#32 (b.take i))),.l TB (ofI b),.n b.length,.n (i:Int)]) b.length (0,[.n (N (go 0xFFFFFFFF#32 b))]) ?_ ?_ FU (b1w hb)
 ·intro i hi
  simp only[j3d,m3j,n3r]
  refine(selT (dt (by omega))).trans ((selT (h1s (by omega) (by omega))).trans ?_)
  simp only[p2u,q2n,t19,n3j,gn0,isK1,cond_true,len_ok hi hb,Tree.sel]
  rw[o3u (d:=(0:Int)) hi,s3s]
  rfl
 ·rw[List.take_length]
  simp only[j3d,m3j]
  exact selF (df (Int.lt_irrefl _))
def Sm (b:List Int):BitVec 32:=0xFFFFFFFF#32^^^go 0xFFFFFFFF#32 b
theorem t12 (b:List Int)(hb:b.length≤9223372036854775807):i1r [.l TB (ofI b)]=some (0,[.n (N (Sm b))]):=by
 show(c4c [.l TB (ofI b)]).sel=_
 have e':n3g [.n 4294967295,.l TB (ofI b),.n b.length,.n 0]=some (0,[.n (N (go 0xFFFFFFFF#32 b))]):=t12L b hb
 simp only[c4c,m3j]
 rw[e']
 simp only[n3j,gn0,isK1,cond_true,Tree.sel]
 have:=q2n 0xFFFFFFFF#32 (go 0xFFFFFFFF#32 b)
 rw[show(4294967295:Int)=N 0xFFFFFFFF#32 from rfl,this]
 rfl
theorem bitk (u:BitVec 8)(k:Nat):(iand IntKind.u8 (ishr IntKind.u8 (N u) (k:Int)) 1==1)=u.getLsbD k:=by
 rw[ishr_u8,show(1:Int)=N 1#8 from rfl,iand_u8,N_beq,Bool.eq_iff_iff]
 simp only[beq_iff_eq]
 constructor
 ·intro h
  have:=congrArg (fun v=>v.getLsbD 0) h
  simpa using this
 ·intro h
  apply BitVec.eq_of_getLsbD_eq
  intro i hi
  by_cases h0:i=0
  ·subst h0;rw[BitVec.getLsbD_and,BitVec.getLsbD_ushiftRight];simp[h]
  ·rw[BitVec.getLsbD_and];simp[h0]
theorem isK4 (x y:Int)(l m:List Int):isK 0 [HK.n,HK.l TB,HK.n,HK.l TN] (some (0,[.n x,.l TB (ofI l),.n y,.l TN (ofI m)]))=true:=rfl
theorem e8_in (k:Nat)(hk:k<8):List.getD E8 k 0=N (BitVec.ofInt 32 (List.getD E8 k 0)):=by
 rcases k with _|_|_|_|_|_|_|_|k<;>first|rfl|omega
theorem t20L (n:BitVec 32)(b:List Int)(i:Int)(u:BitVec 8):n3m [.k 0,.n (N n),.l TB (ofI b),.n i,.n (N u),.n ((0:Nat):Int),.l TN (ofI E8)]=some (0,[.n (N (n^^^tab u 8)),.l TB (ofI b),.n i,.l TN (ofI E8)]):=by
 have:=b0a (st:=j3w) (fun k=>[.k 0,.n (N (n^^^tab u k)),.l TB (ofI b),.n i,.n (N u),.n (k:Int),.l TN (ofI E8)]) 8 (0,[.n (N (n^^^tab u 8)),.l TB (ofI b),.n i,.l TN (ofI E8)]) ?_ ?_ FU (by unfold FU;omega)
 ·simp only[tab,BitVec.xor_zero]at this
  simp only[tab]
  exact this
 ·intro k hk
  simp only[j3w,i3q,m3j,n3r]
  refine(selT (dt (by omega))).trans ((selT (nf (df (by omega)))).trans ?_)
  rw[selB,bitk]
  have e0:IntKind.wrap .i64 ((k:Int)+1)=((k+1:Nat):Int):=by rw[w64 (by omega) (by omega)];omega
  cases h:u.getLsbD k with
  |true=>
   refine(selT (h1s (by omega) (by show(k:Int)<((8:Nat):Int);omega))).trans ?_
   rw[e0,show((k:Int)).toNat=k from rfl,e8_in k hk,q2n]
   simp only[tab,h,if_true,Tree.sel,BitVec.xor_assoc]
  |false=>
   rw[e0]
   simp only[tab,h,Bool.false_eq_true,if_false,Tree.sel,cond_false,BitVec.xor_zero]
 ·simp only[j3w,i3q]
  exact selF (df (by omega))
theorem t20M (n:BitVec 32)(b:List Int)(hb:b.length≤9223372036854775807)(hr: ∀x∈b,0≤x∧x<256):q3i [.k 0,.n (N n),.l TB (ofI b),.n ((0:Nat):Int),.l TN (ofI E8)]=some (0,[.n (N (go n b))]):=by
 refine b0a (st:=j3q) (fun i=>[.k 0,.n (N (go n (b.take i))),.l TB (ofI b),.n (i:Int),.l TN (ofI E8)]) b.length (0,[.n (N (go n b))]) ?_ ?_ FU (b1w hb)
 ·intro i hi
  simp only[j3q,i3r,m3j,n3r]
  refine(selT (dt (by omega))).trans ((selT (h1s (by omega) (by omega))).trans ?_)
  have hx:=hr _ (h0f (d:=(0:Int)) hi)
  rw[show((i:Int)).toNat=i from rfl]
  have ex:List.getD b i 0=N (BitVec.ofInt 8 (List.getD b i 0)):=(N_of hx.1 hx.2).symm
  have e8:ishr IntKind.u32 (N (go n (b.take i))) 8=N (go n (b.take i)>>>8):=a2b _ 8
  rw[e8,u4z,i4g,ex,ixor_u8]
  rw[show n3m [.k 0,.n (N (go n (b.take i)>>>8)),.l TB (ofI b),.n (i:Int),.n (N ((go n (b.take i)).setWidth 8^^^BitVec.ofInt 8 (List.getD b i 0))),.n 0,.l TN (ofI E8)]=_ from t20L _ _ _ _]
  simp only[n3j,gn0,gn2,gl1,gl3,isK4,selB,cond_true,len_ok hi hb,Tree.sel]
  rw[o3u (d:=(0:Int)) hi,s3s,go_cons,go_nil,byte_in _ hx.1 hx.2]
 ·rw[List.take_length]
  simp only[j3q,i3r,m3j]
  exact selF (df (Int.lt_irrefl _))
theorem t13 (b:List Int)(hb:b.length≤9223372036854775807)(hr: ∀x∈b,0≤x∧x<256):v3s [.l TB (ofI b)]=some (0,[.n (N (Sm b))]):=by
 have e20:g4k [.n (N 0xFFFFFFFF#32),.l TB (ofI b)]=some (0,[.n (N (go 0xFFFFFFFF#32 b))]):=by
  show(i4h [.n (N 0xFFFFFFFF#32),.l TB (ofI b)]).sel=_
  have e:=t20M 0xFFFFFFFF#32 b hb hr
  exact(selT (congrArg (isK 0 [HK.n]) e)).trans (congrArg (fun r=>some (0,[Dat.n (gn (dOf r) 0)])) e)
 show(d4j [.l TB (ofI b)]).sel=_
 simp only[d4j]
 rw[show g4k [.n 4294967295,.l TB (ofI b)]=_ from e20]
 simp only[n3j,gn0,isK1,cond_true,Tree.sel]
 have:=q2n 0xFFFFFFFF#32 (go 0xFFFFFFFF#32 b)
 rw[show(4294967295:Int)=N 0xFFFFFFFF#32 from rfl,this]
 rfl
def Wb (l:List Int):Prop:= ∀b∈l,0≤b∧b<256
theorem wu64 (x:Int):IntKind.wrap .u64 x=x%18446744073709551616:=by unfold IntKind.wrap;simp[IntKind.bits,IntKind.signed]
theorem wu8 (x:Int):IntKind.wrap .u8 x=x%256:=by unfold IntKind.wrap;simp[IntKind.bits,IntKind.signed]
theorem wu16 (x:Int):IntKind.wrap .u16 x=x%65536:=by unfold IntKind.wrap;simp[IntKind.bits,IntKind.signed]
theorem t31g (l:List (Ty.den TB))(h:p3t l=true):i2m [.l TB l]=some (0,[.l TB l]):=by
 show(match c0r TB TB l with|some l=>bif p3t l then some (0,[Dat.l TB l])else none|none=>none)=_
 rw[d0b]
 show(bif p3t l then some (0,[Dat.l TB l])else none)=_
 rw[h];rfl
theorem t31 {l:List Int}(h:l.length≤140737488355328):i2m [.l TB l]=some (0,[.l TB l]):=
 t31g l (by unfold p3t;exact decide_eq_true (show(0+l.length)*1≤140737488355328 by omega))
def byt (n:Int)(k:Nat):Int:=IntKind.wrap .u8 (ishr .u64 n (8*(k:Int)))
def bes (n:Int):Nat→List Int
 |0=>[]
 |k+1=>byt n k::bes n k
theorem h3v (n:Int): ∀k,(bes n k).length=k
 |0=>rfl
 |k+1=>by rw[bes,List.length_cons,h3v n k]
theorem t3b (n:Int): ∀k,Wb (bes n k)
 |0=>fun b hb=>by simp[bes]at hb
 |k+1=>fun b hb=>by
  rw[bes,List.mem_cons]at hb
  rcases hb with rfl|hb
  ·unfold byt;rw[wu8];omega
  ·exact t3b n k b hb
theorem lp30 (n:Int): ∀(k:Nat) (l:List Int) (f:Nat),k≤8→l.length+k≤1000000→k<f→a0b j3a f [.k 0,.n n,.n ((k:Int)-1),.l TB l]=some (0,[.l TB (l++bes n k)])
 |_,_,0,_,_,h=>by omega
 |0,l,f+1,h,hl,hf=>by
  have e:(j3a [.k 0,.n n,.n (((0:Nat):Int)-1),.l TB l]).sel=some (.stop 0 [.l TB l]):=by
   refine l3m n _ l _ ?_
   unfold m3n
   exact a0c (decide_eq_false (by omega)) rfl
  unfold a0b
  rw[e]
  show some (0,[Dat.l TB l])=some (0,[Dat.l TB (l++bes n 0)])
  rw[bes,List.append_nil]
 |k+1,l,f+1,h,hl,hf=>by
  have w8:IntKind.wrap .i64 (8*(((k+1:Nat):Int)-1))=8*(k:Int):=by rw[w64d];omega
  have w1:IntKind.wrap .i64 ((((k+1:Nat):Int)-1)-1)=(k:Int)-1:=by rw[w64d];omega
  have e:(j3a [.k 0,.n n,.n (((k+1:Nat):Int)-1),.l TB l]).sel=some (.go [.k 0,.n n,.n ((k:Int)-1),.l TB (l++[byt n k])]):=by
   refine l3m n _ l _ ?_
   unfold m3n
   refine a0a (decide_eq_true (by omega)) (a0a (by rw[w8];simp;omega) (a0a (decide_eq_true (show(l.length+1)*1≤140737488355328 by omega)) ?_))
   show some (Step.go [.k 0,.n n,.n (IntKind.wrap .i64 ((((k+1:Nat):Int)-1)-1)),.l TB (l++[IntKind.wrap .u8 (ishr .u64 n (IntKind.wrap .i64 (8*(((k+1:Nat):Int)-1))))])])=_
   rw[w8,w1];rfl
  unfold a0b
  rw[e]
  have ih:=lp30 n k (l++[byt n k]) f (by omega) (by rw[List.length_append];simp;omega) (by omega)
  rw[List.append_assoc]at ih
  exact ih
theorem t30 (n:Int)(w:Nat)(h:w≤8):n3w [.n n,.n (w:Int)]=some (0,[.l TB (bes n w)]):=by
 have w1:IntKind.wrap .i64 ((w:Int)-1)=(w:Int)-1:=by rw[w64d];omega
 have e:n3k [.k 0,.n n,.n (IntKind.wrap .i64 ((w:Int)-1)),.l TB ([]:List Int)]=some (0,[.l TB (bes n w)]):=by
  rw[w1,p3b]
  exact lp30 n w [] FU h (by simp;omega) (by unfold FU;omega)
 rw[a4n]
 refine d4q n w _ ?_
 unfold i4t
 exact a0a (by erw[e];rfl) (by erw[e];rfl)
theorem lp35b (n:Int)(w:Nat)(hw:w≤8): ∀(k:Nat) (l:List Int) (f:Nat),k≤w→l.length+k≤1000000→k<f→a0b i3j f [.k 0,.n n,.n (w:Int),.n (w:Int),.n ((w:Int)-k),.l TB l]=some (0,[.l TB (l++bes n k)])
 |_,_,0,_,_,h=>by omega
 |0,l,f+1,h,hl,hf=>by
  have e:(i3j [.k 0,.n n,.n (w:Int),.n (w:Int),.n ((w:Int)-((0:Nat):Int)),.l TB l]).sel=some (.stop 0 [.l TB l]):=by
   refine k3z n _ _ _ l _ ?_
   unfold l3j
   exact a0c (decide_eq_false (by omega)) rfl
  unfold a0b
  rw[e]
  show some (0,[Dat.l TB l])=some (0,[Dat.l TB (l++bes n 0)])
  rw[bes,List.append_nil]
 |k+1,l,f+1,h,hl,hf=>by
  have w8:IntKind.wrap .i64 (8*IntKind.wrap .i64 (IntKind.wrap .i64 ((w:Int)-1)-((w:Int)-((k+1:Nat):Int))))=8*(k:Int):=by simp only[w64d];omega
  have w1:IntKind.wrap .i64 ((w:Int)-((k+1:Nat):Int)+1)=(w:Int)-(k:Int):=by rw[w64d];omega
  have e:(i3j [.k 0,.n n,.n (w:Int),.n (w:Int),.n ((w:Int)-((k+1:Nat):Int)),.l TB l]).sel=some (.go [.k 0,.n n,.n (w:Int),.n (w:Int),.n ((w:Int)-(k:Int)),.l TB (l++[byt n k])]):=by
   refine k3z n _ _ _ l _ ?_
   unfold l3j
   refine a0a (decide_eq_true (by omega)) (a0a (by rw[w8];simp;omega) (a0a (decide_eq_true (show(l.length+1)*1≤140737488355328 by omega)) ?_))
   show some (Step.go [.k 0,.n n,.n (w:Int),.n (w:Int),.n (IntKind.wrap .i64 ((w:Int)-((k+1:Nat):Int)+1)),.l TB (l++[IntKind.wrap .u8 (ishr .u64 n (IntKind.wrap .i64 (8*IntKind.wrap .i64 (IntKind.wrap .i64 ((w:Int)-1)-((w:Int)-((k+1:Nat):Int))))))])])=_
   rw[w8,w1];rfl
  unfold a0b
  rw[e]
  have ih:=lp35b n w hw k (l++[byt n k]) f (by omega) (by rw[List.length_append];simp;omega) (by omega)
  rw[List.append_assoc]at ih
  exact ih
theorem lp35a (n:Int)(w:Nat)(hw:w≤8): ∀(k:Nat) (l:List Int) (f:Nat),k≤w→l.length+k≤1000000→k<f→a0b h3u f [.k 1,.n n,.n (w:Int),.n (w:Int),.n ((w:Int)-k),.l TB l]=some (1,[.l TB (l++bes n k)])
 |_,_,0,_,_,h=>by omega
 |0,l,f+1,h,hl,hf=>by
  have e:(h3u [.k 1,.n n,.n (w:Int),.n (w:Int),.n ((w:Int)-((0:Nat):Int)),.l TB l]).sel=some (.stop 1 [.l TB l]):=by
   refine k3y n _ _ _ l _ ?_
   unfold l3f
   exact a0c (decide_eq_false (by omega)) rfl
  unfold a0b
  rw[e]
  show some (1,[Dat.l TB l])=some (1,[Dat.l TB (l++bes n 0)])
  rw[bes,List.append_nil]
 |k+1,l,f+1,h,hl,hf=>by
  have w8:IntKind.wrap .i64 (8*IntKind.wrap .i64 (IntKind.wrap .i64 ((w:Int)-1)-((w:Int)-((k+1:Nat):Int))))=8*(k:Int):=by simp only[w64d];omega
  have w1:IntKind.wrap .i64 ((w:Int)-((k+1:Nat):Int)+1)=(w:Int)-(k:Int):=by rw[w64d];omega
  have e:(h3u [.k 1,.n n,.n (w:Int),.n (w:Int),.n ((w:Int)-((k+1:Nat):Int)),.l TB l]).sel=some (.go [.k 1,.n n,.n (w:Int),.n (w:Int),.n ((w:Int)-(k:Int)),.l TB (l++[byt n k])]):=by
   refine k3y n _ _ _ l _ ?_
   unfold l3f
   refine a0a (decide_eq_true (by omega)) (a0a (by rw[w8];simp;omega) (a0a (decide_eq_true (show(l.length+1)*1≤140737488355328 by omega)) ?_))
   show some (Step.go [.k 1,.n n,.n (w:Int),.n (w:Int),.n (IntKind.wrap .i64 ((w:Int)-((k+1:Nat):Int)+1)),.l TB (l++[IntKind.wrap .u8 (ishr .u64 n (IntKind.wrap .i64 (8*IntKind.wrap .i64 (IntKind.wrap .i64 ((w:Int)-1)-((w:Int)-((k+1:Nat):Int))))))])])=_
   rw[w8,w1];rfl
  unfold a0b
  rw[e]
  have ih:=lp35a n w hw k (l++[byt n k]) f (by omega) (by rw[List.length_append];simp;omega) (by omega)
  rw[List.append_assoc]at ih
  exact ih
theorem t35b (n:Int)(w:Nat)(h:w≤8)(l:List Int)(hl:l.length≤999000):m3q [.n n,.n (w:Int),.l TB l]=some (0,[.l TB (l++bes n w)]):=by
 have e:m3c [.k 0,.n n,.n (w:Int),.n (w:Int),.n 0,.l TB l]=some (0,[.l TB (l++bes n w)]):=by
  rw[n3a]
  have:=lp35b n w h w l FU (Nat.le_refl _) (by omega) (by unfold FU;omega)
  rw[show(w:Int)-(w:Int)=0 by omega]at this
  exact this
 rw[s3h]
 refine y3e n w l _ ?_
 unfold a4h
 exact a0a (by erw[e];rfl) (by erw[e];rfl)
theorem t35a (n:Int)(w:Nat)(h:w≤8)(h1:1≤w):p3o [.n n,.n (w:Int)]=some (1,[.l TB (bes n w)]):=by
 obtain⟨k,rfl⟩: ∃k,w=k+1:=⟨w-1,by omega⟩
 have e:l3y [.k 0,.n n,.n ((k+1:Nat):Int),.n ((k+1:Nat):Int),.n 0]=some (1,[.l TB (bes n (k+1))]):=by
  have w8:IntKind.wrap .i64 (8*IntKind.wrap .i64 (IntKind.wrap .i64 (((k+1:Nat):Int)-1)-0))=8*(k:Int):=by simp only[w64d];omega
  have w1:IntKind.wrap .i64 ((0:Int)+1)=((k+1:Nat):Int)-(k:Int):=by rw[w64d];omega
  have e:(h3u [.k 0,.n n,.n ((k+1:Nat):Int),.n ((k+1:Nat):Int),.n 0]).sel=some (.go [.k 1,.n n,.n ((k+1:Nat):Int),.n ((k+1:Nat):Int),.n (((k+1:Nat):Int)-(k:Int)),.l TB [byt n k]]):=by
   refine p3i n _ _ _ _ ?_
   unfold o3a
   refine a0a (decide_eq_true (by omega)) (a0a (by rw[w8];simp;omega) ?_)
   show some (Step.go [.k 1,.n n,.n ((k+1:Nat):Int),.n ((k+1:Nat):Int),.n (IntKind.wrap .i64 ((0:Int)+1)),.l TB [IntKind.wrap .u8 (ishr .u64 n (IntKind.wrap .i64 (8*IntKind.wrap .i64 (IntKind.wrap .i64 (((k+1:Nat):Int)-1)-0))))]])=_
   rw[w8,w1];rfl
  rw[m3s,show FU=18446744073709551615+1 from rfl]
  unfold a0b
  rw[e]
  exact lp35a n (k+1) h k [byt n k] 18446744073709551615 (by omega) (by simp;omega) (by omega)
 rw[t3u]
 refine v3c n _ _ ?_
 unfold a4w
 exact a0c (by erw[e];rfl) (a0a (by erw[e];rfl) (by erw[e];rfl))
theorem q12 (l:List Int)(hl:l.length≤1000000):l3o [.l TB l]=some (0,[.n (N (Sm l))]):=by
 rw[t3q];exact t12 l (by omega)
theorem q13 (l:List Int)(hl:l.length≤1000000)(hw:Wb l):o1n [.l TB l]=some (0,[.n (N (Sm l))]):=by
 rw[o1e];exact t13 l (by omega) hw
theorem h3z {b:List Int}(h:Wb b):c0b (r2b b)=b:=by
 unfold c0b r2b
 simp only[List.map_map]
 conv=>rhs;rw[←List.map_id b]
 refine List.map_congr_left fun x hx=> ?_
 have:=h x hx
 show(((UInt8.ofNat x.toNat).toNat:Nat):Int)=x
 rw[UInt8.toNat_ofNat']
 omega
def nm (l:List Int):Int:=l.foldl (fun a b=>a*256+b) 0
theorem nm_snoc (l:List Int)(b:Int):nm (l++[b])=nm l*256+b:=by simp[nm]
theorem g4u: ∀(l:List Int) (a m:Int),Wb l→0≤a→a<m→0≤l.foldl (fun a b=>a*256+b) a∧l.foldl (fun a b=>a*256+b) a<m*256^l.length
 |[],a,m,_,h0,h1=>by simp;exact⟨h0,h1⟩
 |b::l,a,m,hw,h0,h1=>by
  have hb:=hw b (by simp)
  have:=g4u l (a*256+b) (m*256) (fun x hx=>hw x (by simp[hx])) (by omega) (by omega)
  simp only[List.foldl_cons,List.length_cons,Int.pow_succ]
  rw[Int.mul_comm (256^l.length) 256,←Int.mul_assoc]
  exact this
theorem r3o {l:List Int}(h:Wb l):0≤nm l∧nm l<256^l.length:=by
 have:=g4u l 0 1 h (by omega) (by omega)
 rw[Int.one_mul]at this
 exact this
theorem Wb.take {l:List Int}(h:Wb l)(n:Nat):Wb (l.take n):=fun b hb=>h b (List.mem_of_mem_take hb)
theorem Wb.drop {l:List Int}(h:Wb l)(n:Nat):Wb (l.drop n):=fun b hb=>h b (List.mem_of_mem_drop hb)
theorem pow_le {n:Nat}(h:n≤7):(256:Int)^n≤72057594037927936:=by
 have:n=0∨n=1∨n=2∨n=3∨n=4∨n=5∨n=6∨n=7:=by omega
 rcases this with rfl|rfl|rfl|rfl|rfl|rfl|rfl|rfl<;>decide
theorem st8 {a b:Int}(h0:0≤a)(h1:a<72057594037927936)(b0:0≤b)(b1:b<256):ior .u64 (ishl .u64 a 8) (IntKind.wrap .u64 b)=a*256+b:=by
 have e1:ishl .u64 a 8=a*256:=by
  have:ishl .u64 a 8=IntKind.wrap .u64 (a*2^8):=rfl
  rw[this,wu64]
  have:(2:Int)^8=256:=by decide
  rw[this];omega
 have e2:IntKind.wrap .u64 b=b:=by rw[wu64];omega
 rw[e1,e2]
 obtain⟨x,rfl⟩: ∃x:Nat,a=x:=⟨a.toNat,by omega⟩
 obtain⟨y,rfl⟩: ∃y:Nat,b=y:=⟨b.toNat,by omega⟩
 have e3:ior .u64 ((x:Int)*256) (y:Int)=IntKind.wrap .u64 ((BitVec.ofInt 64 ((x:Int)*256)|||BitVec.ofInt 64 (y:Int)).toNat:Int):=rfl
 rw[e3]
 have e4:(x:Int)*256=((x*256:Nat):Int):=by omega
 rw[e4,BitVec.ofInt_natCast,BitVec.ofInt_natCast,BitVec.toNat_or,BitVec.toNat_ofNat,BitVec.toNat_ofNat,Nat.mod_eq_of_lt (by omega),Nat.mod_eq_of_lt (by omega)]
 have e5:x*256|||y=x*256+y:=by
  have:=Nat.shiftLeft_add_eq_or_of_lt (i:=8) (b:=y) (by omega) x
  rw[Nat.shiftLeft_eq]at this
  exact this.symm
 rw[e5,wu64];omega
theorem nm_step {l:List Int}(hw:Wb l)(hl:l.length≤8){n:Nat}(h:n<l.length):ior .u64 (ishl .u64 (nm (l.take n)) 8) (IntKind.wrap .u64 (l.getD n 0))=nm (l.take (n+1)):=by
 have hb:=r3o (hw.take n)
 have hle:(l.take n).length≤7:=by rw[List.length_take];omega
 have:=pow_le hle
 have hx:=hw (l.getD n 0) (by rw[List.getD_eq_getElem?_getD,List.getElem?_eq_getElem h];simp)
 rw[o3u h,nm_snoc]
 exact st8 hb.1 (by omega) hx.1 hx.2
theorem step2 {l:List Int}(hw:Wb l)(hl:l.length≤8){n:Int}(h0:0≤n)(h1:n<(l.length:Int)):ior .u64 (ishl .u64 (nm (l.take n.toNat)) 8) (IntKind.wrap .u64 (l.getD n.toNat 0))=nm (l.take (n+1).toNat):=by
 have e:(n+1).toNat=n.toNat+1:=by omega
 rw[e];exact nm_step hw hl (by omega)
theorem lp17r {l:List Int}(hl:l.length≤8)(hw:Wb l):l3x [.k 0,.l TB l,.n 0,.n 0]=some (0,[.n (nm l)]):=by
 rw[m3r]
 refine l3h (fun i=>[.k 0,.l TB l,.n (nm (l.take i.toNat)),.n i]) (l.length:Int) (0,[.n (nm l)]) (fun n h0 h1=> ?_) ?_ FU 0 (by omega) (by omega) (by show((l.length:Int)-0).toNat<FU;unfold FU;omega)
 ·have w:=w64s (x:=n+1) (by omega) (by omega)
  refine k3v l (nm (l.take n.toNat)) n _ ?_
  unfold l3c
  refine a0a (decide_eq_true (show n<(l.length:Int)from h1)) (a0a (h1s h0 h1) ?_)
  show some (Step.go [.k 0,.l TB l,.n (ior .u64 (ishl .u64 (nm (l.take n.toNat)) 8) (IntKind.wrap .u64 (l.getD n.toNat 0))),.n (IntKind.wrap .i64 (n+1))])=_
  rw[step2 hw hl h0 h1,w]
 ·refine k3v l _ _ _ ?_
  unfold l3c
  refine a0c (decide_eq_false (show¬((l.length:Int)<(l.length:Int)) by omega)) ?_
  show some (Step.stop 0 [.n (nm (l.take (l.length:Int).toNat))])=some (Step.stop 0 [.n (nm l)])
  rw[show(l.length:Int).toNat=l.length by omega,List.take_length]
theorem t17r {l:List Int}(hl:l.length≤8)(hw:Wb l):j3g [.l TB l]=some (0,[.n (nm l)]):=by
 rw[s3t]
 refine x3a l _ ?_
 unfold z3c
 have e:=lp17r hl hw
 exact a0a (by erw[e];rfl) (by erw[e];rfl)
theorem lp34 {l:List Int}(hl:l.length≤8)(hw:Wb l)(n:Int)(r:List Int)(b:Bool):h3p [.k 0,.n n,.n 0,.l TB l,.n (l.length:Int),.n 0,.l TB r,.b b]=some (0,[.n n,.n (nm l),.l TB r,.b b]):=by
 rw[k3g]
 refine l3h (fun i=>[.k 0,.n n,.n (nm (l.take i.toNat)),.l TB l,.n (l.length:Int),.n i,.l TB r,.b b]) (l.length:Int) (0,[.n n,.n (nm l),.l TB r,.b b]) (fun i h0 h1=> ?_) ?_ FU 0 (by omega) (by omega) (by show((l.length:Int)-0).toNat<FU;unfold FU;omega)
 ·have w:=w64s (x:=i+1) (by omega) (by omega)
  refine k3x n (nm (l.take i.toNat)) l (l.length:Int) i r b _ ?_
  unfold l3g
  refine a0a (decide_eq_true (show i<(l.length:Int)from h1)) (a0a (h1s h0 h1) ?_)
  show some (Step.go [.k 0,.n n,.n (ior .u64 (ishl .u64 (nm (l.take i.toNat)) 8) (IntKind.wrap .u64 (l.getD i.toNat 0))),.l TB l,.n (l.length:Int),.n (IntKind.wrap .i64 (i+1)),.l TB r,.b b])=_
  rw[step2 hw hl h0 h1,w]
 ·refine k3x n _ l (l.length:Int) _ r b _ ?_
  unfold l3g
  refine a0c (decide_eq_false (show¬((l.length:Int)<(l.length:Int)) by omega)) ?_
  show some (Step.stop 0 [Dat.n n,Dat.n (nm (l.take (l.length:Int).toNat)),Dat.l TB r,Dat.b b])=some (Step.stop 0 [Dat.n n,Dat.n (nm l),Dat.l TB r,Dat.b b])
  rw[show(l.length:Int).toNat=l.length by omega,List.take_length]
theorem lp34n (n:Int)(r:List Int)(b:Bool):h3p [.k 1,.n n,.n 0,.n 0,.n 0,.l TB r,.b b]=some (0,[.n n,.n 0,.l TB r,.b b]):=by
 rw[k3g,show FU=18446744073709551615+1 from rfl]
 unfold a0b
 rw[p3h n 0 0 0 r b rfl rfl _ rfl]
theorem q4l {n:Int}{l:List Int}(h0:0≤n)(h1:n≤(l.length:Int)):h3f [.n n,.l TB l,.b false]=some (0,[.l TB (l.take n.toNat),.l TB (l.drop n.toNat),.b false]):=by
 rw[p3a]
 refine n3y n l false _ ?_
 unfold r3r
 exact a0c rfl (a0c (decide_eq_false (by omega)) (a0c (decide_eq_false (show¬(n>(l.length:Int)) by omega)) (a0a (by simp;omega) rfl)))
theorem t4e {n:Int}{l:List Int}{b:Bool}(h:b=true∨n<0∨(l.length:Int)<n):h3f [.n n,.l TB l,.b b]=some (1,[.l TB ([]:List Int),.b true]):=by
 rw[p3a]
 refine n3y n l b _ ?_
 unfold r3r
 cases b with
 |true=>exact a0a rfl rfl
 |false=>
  refine a0c rfl ?_
  by_cases h1:n<0
  ·exact a0a (decide_eq_true h1) rfl
  ·refine a0c (decide_eq_false h1) (a0a (decide_eq_true (show n>(l.length:Int)from ?_)) rfl)
   rcases h with h|h|h
   ·cases h
   ·omega
   ·exact h
theorem t34_1ok {l:List Int}(hw:Wb l)(h1:1≤l.length):i3y [.n 1,.l TB l,.b false]=some (0,[.n (nm (l.take 1)),.l TB (l.drop 1),.b false]):=by
 have e1:h3f [.n (1:Int),.l TB l,.b false]=some (0,[.l TB (l.take 1),.l TB (l.drop 1),.b false]):=q4l (n:=1) (by omega) (by omega)
 have hx:(l.take 1).length=1:=by rw[List.length_take];omega
 have e2:=lp34 (l:=l.take 1) (by omega) (hw.take 1) 1 (l.drop 1) false
 have hb:=r3o (hw.take 1)
 rw[hx]at hb
 have wr:IntKind.wrap .u8 (nm (l.take 1))=nm (l.take 1):=by
  have:(256:Int)^1=256:=by decide
  rw[wu8];omega
 rw[i3w]
 refine i3d 1 l false _ ?_
 unfold j3v
 refine a0a (by erw[e1];rfl) (a0a (by erw[e1];erw[e2];rfl) ?_)
 have e3:h3p [.k 0,.n (1:Int),.n 0,.l TB (gl TB (dOf (h3f [.n (1:Int),.l TB l,.b false])) 0),.n (List.length (gl TB (dOf (h3f [.n (1:Int),.l TB l,.b false])) 0):Int),.n 0,.l TB (gl TB (dOf (h3f [.n (1:Int),.l TB l,.b false])) 1),.b (gb (dOf (h3f [.n (1:Int),.l TB l,.b false])) 2)]=some (0,[.n 1,.n (nm (l.take 1)),.l TB (l.drop 1),.b false]):=by
  rw[e1];exact e2
 clear e2
 have e2:=e3
 exact a0a (by erw[e2];rfl) (by erw[e2];exact congrArg (fun z=>some (0,[Dat.n z,.l TB (l.drop 1),.b false])) wr)
theorem i4b {l:List Int}{b:Bool}(h:b=true∨l.length<1):i3y [.n 1,.l TB l,.b b]=some (0,[.n 0,.l TB ([]:List Int),.b true]):=by
 have e1:h3f [.n (1:Int),.l TB l,.b b]=some (1,[.l TB ([]:List Int),.b true]):=t4e (by rcases h with h|h;exact .inl h;exact .inr (.inr (by omega)))
 have e2:h3p [.k 1,.n (1:Int),.n 0,.n 0,.n 0,.l TB (gl TB (dOf (h3f [.n (1:Int),.l TB l,.b b])) 0),.b (gb (dOf (h3f [.n (1:Int),.l TB l,.b b])) 1)]=some (0,[.n 1,.n 0,.l TB ([]:List Int),.b true]):=by
  rw[e1];exact lp34n 1 [] true
 rw[i3w]
 refine i3d 1 l b _ ?_
 unfold j3v
 refine a0c (by erw[e1];rfl) (a0a (by erw[e1];rfl) (a0a (by erw[e2];rfl) ?_))
 exact a0a (by erw[e2];rfl) (by erw[e2];rfl)
theorem t34_2ok {l:List Int}(hw:Wb l)(h1:2≤l.length):i3y [.n 2,.l TB l,.b false]=some (1,[.n (nm (l.take 2)),.l TB (l.drop 2),.b false]):=by
 have e1:h3f [.n (2:Int),.l TB l,.b false]=some (0,[.l TB (l.take 2),.l TB (l.drop 2),.b false]):=q4l (n:=2) (by omega) (by omega)
 have hx:(l.take 2).length=2:=by rw[List.length_take];omega
 have e2:=lp34 (l:=l.take 2) (by omega) (hw.take 2) 2 (l.drop 2) false
 have hb:=r3o (hw.take 2)
 rw[hx]at hb
 have wr:IntKind.wrap .u16 (nm (l.take 2))=nm (l.take 2):=by
  have:(256:Int)^2=65536:=by decide
  rw[wu16];omega
 rw[i3w]
 refine i3d 2 l false _ ?_
 unfold j3v
 refine a0a (by erw[e1];rfl) (a0a (by erw[e1];erw[e2];rfl) ?_)
 have e3:h3p [.k 0,.n (2:Int),.n 0,.l TB (gl TB (dOf (h3f [.n (2:Int),.l TB l,.b false])) 0),.n (List.length (gl TB (dOf (h3f [.n (2:Int),.l TB l,.b false])) 0):Int),.n 0,.l TB (gl TB (dOf (h3f [.n (2:Int),.l TB l,.b false])) 1),.b (gb (dOf (h3f [.n (2:Int),.l TB l,.b false])) 2)]=some (0,[.n 2,.n (nm (l.take 2)),.l TB (l.drop 2),.b false]):=by
  rw[e1];exact e2
 clear e2
 have e2:=e3
 exact a0c (by erw[e2];rfl) (a0a (by erw[e2];rfl) (by erw[e2];exact congrArg (fun z=>some (1,[Dat.n z,.l TB (l.drop 2),.b false])) wr))
theorem g4f {l:List Int}{b:Bool}(h:b=true∨l.length<2):i3y [.n 2,.l TB l,.b b]=some (1,[.n 0,.l TB ([]:List Int),.b true]):=by
 have e1:h3f [.n (2:Int),.l TB l,.b b]=some (1,[.l TB ([]:List Int),.b true]):=t4e (by rcases h with h|h;exact .inl h;exact .inr (.inr (by omega)))
 have e2:h3p [.k 1,.n (2:Int),.n 0,.n 0,.n 0,.l TB (gl TB (dOf (h3f [.n (2:Int),.l TB l,.b b])) 0),.b (gb (dOf (h3f [.n (2:Int),.l TB l,.b b])) 1)]=some (0,[.n 2,.n 0,.l TB ([]:List Int),.b true]):=by
  rw[e1];exact lp34n 2 [] true
 rw[i3w]
 refine i3d 2 l b _ ?_
 unfold j3v
 refine a0c (by erw[e1];rfl) (a0a (by erw[e1];rfl) (a0a (by erw[e2];rfl) ?_))
 exact a0c (by erw[e2];rfl) (a0a (by erw[e2];rfl) (by erw[e2];rfl))
theorem t34_8ok {l:List Int}(hw:Wb l)(h1:8≤l.length):i3y [.n 8,.l TB l,.b false]=some (3,[.n (nm (l.take 8)),.l TB (l.drop 8),.b false]):=by
 have e1:h3f [.n (8:Int),.l TB l,.b false]=some (0,[.l TB (l.take 8),.l TB (l.drop 8),.b false]):=q4l (n:=8) (by omega) (by omega)
 have hx:(l.take 8).length=8:=by rw[List.length_take];omega
 have e2:=lp34 (l:=l.take 8) (by omega) (hw.take 8) 8 (l.drop 8) false
 have hb:=r3o (hw.take 8)
 rw[hx]at hb
 have wr:IntKind.wrap .u64 (nm (l.take 8))=nm (l.take 8):=by
  have:(256:Int)^8=18446744073709551616:=by decide
  rw[wu64];omega
 rw[i3w]
 refine i3d 8 l false _ ?_
 unfold j3v
 refine a0a (by erw[e1];rfl) (a0a (by erw[e1];erw[e2];rfl) ?_)
 have e3:h3p [.k 0,.n (8:Int),.n 0,.l TB (gl TB (dOf (h3f [.n (8:Int),.l TB l,.b false])) 0),.n (List.length (gl TB (dOf (h3f [.n (8:Int),.l TB l,.b false])) 0):Int),.n 0,.l TB (gl TB (dOf (h3f [.n (8:Int),.l TB l,.b false])) 1),.b (gb (dOf (h3f [.n (8:Int),.l TB l,.b false])) 2)]=some (0,[.n 8,.n (nm (l.take 8)),.l TB (l.drop 8),.b false]):=by
  rw[e1];exact e2
 clear e2
 have e2:=e3
 exact a0c (by erw[e2];rfl) (a0c (by erw[e2];rfl) (a0c (by erw[e2];rfl) ((by erw[e2];rfl))))
theorem g4o {l:List Int}{b:Bool}(h:b=true∨l.length<8):i3y [.n 8,.l TB l,.b b]=some (3,[.n 0,.l TB ([]:List Int),.b true]):=by
 have e1:h3f [.n (8:Int),.l TB l,.b b]=some (1,[.l TB ([]:List Int),.b true]):=t4e (by rcases h with h|h;exact .inl h;exact .inr (.inr (by omega)))
 have e2:h3p [.k 1,.n (8:Int),.n 0,.n 0,.n 0,.l TB (gl TB (dOf (h3f [.n (8:Int),.l TB l,.b b])) 0),.b (gb (dOf (h3f [.n (8:Int),.l TB l,.b b])) 1)]=some (0,[.n 8,.n 0,.l TB ([]:List Int),.b true]):=by
  rw[e1];exact lp34n 8 [] true
 rw[i3w]
 refine i3d 8 l b _ ?_
 unfold j3v
 refine a0c (by erw[e1];rfl) (a0a (by erw[e1];rfl) (a0a (by erw[e2];rfl) ?_))
 exact a0c (by erw[e2];rfl) (a0c (by erw[e2];rfl) (a0c (by erw[e2];rfl) ((by erw[e2];rfl))))
theorem byt0 {n:Int}(h:0≤n):byt n 0=n/1%256:=by
 show IntKind.wrap .u8 (n.fdiv 1)=_
 rw[wu8,Int.fdiv_eq_ediv_of_nonneg _ (by decide)]
theorem byt1 {n:Int}(h:0≤n):byt n 1=n/256%256:=by
 show IntKind.wrap .u8 (n.fdiv 256)=_
 rw[wu8,Int.fdiv_eq_ediv_of_nonneg _ (by decide)]
theorem nmb1 {n:Int}(h:0≤n):nm (bes n 1)=n%256:=by
 show nm [byt n 0]=_
 rw[byt0 h]
 simp only[nm,List.foldl]
 omega
theorem nmb2 {n:Int}(h:0≤n):nm (bes n 2)=n%65536:=by
 show nm [byt n 1,byt n 0]=_
 rw[byt0 h,byt1 h]
 simp only[nm,List.foldl]
 omega
theorem x3w: ∀(l:List Int) (a:Int),l.foldl (fun a b=>a*256+b) a=a*256^l.length+nm l
 |[],a=>by simp[nm]
 |b::l,a=>by
  have h1:=x3w l (a*256+b)
  have h2:nm (b::l)=(0*256+b)*256^l.length+nm l:=x3w l (0*256+b)
  rw[h2]
  simp only[List.foldl_cons,List.length_cons,h1,Int.pow_succ]
  rw[Int.add_mul,Int.zero_mul,Int.zero_add,Int.mul_assoc,Int.mul_comm 256 (256^l.length),Int.add_assoc]
theorem i4p (b:Int)(l:List Int):nm (b::l)=b*256^l.length+nm l:=by
 have:=x3w l (0*256+b)
 rw[Int.zero_mul,Int.zero_add]at this
 have e:nm (b::l)=l.foldl (fun a b=>a*256+b) (0*256+b):=rfl
 rw[e,Int.zero_mul,Int.zero_add];exact this
theorem nm_inj: ∀{a b:List Int},a.length=b.length→Wb a→Wb b→nm a=nm b→a=b
 |[],[],_,_,_,_=>rfl
 |[],_::_,h,_,_,_=>by simp at h
 |_::_,[],h,_,_,_=>by simp at h
 |x::a,y::b,h,ha,hb,e=>by
  have hl:a.length=b.length:=by simpa using h
  have wa:Wb a:=fun z hz=>ha z (by simp[hz])
  have wb:Wb b:=fun z hz=>hb z (by simp[hz])
  have b1:=r3o wa
  have b2:=r3o wb
  rw[i4p,i4p,hl]at e
  rw[hl]at b1
  have hx:=ha x (by simp)
  have hy:=hb y (by simp)
  have h0:0<(256:Int)^b.length:=by omega
  have hxy:x=y:=by
   rcases Int.lt_trichotomy x y with q|q|q
   ·exfalso
    have:(x+1)*256^b.length≤y*256^b.length:=Int.mul_le_mul_of_nonneg_right (by omega) (by omega)
    rw[Int.add_mul]at this
    omega
   ·exact q
   ·exfalso
    have:(y+1)*256^b.length≤x*256^b.length:=Int.mul_le_mul_of_nonneg_right (by omega) (by omega)
    rw[Int.add_mul]at this
    omega
  subst hxy
  rw[nm_inj hl wa wb (by omega)]
theorem pc {k:Nat}(hk: ∀n:Int,0≤n→nm (bes n k)=n%256^k){l:List Int}(h:Wb l)(hl:k≤l.length):l=bes (nm (l.take k)) k++l.drop k∧0≤nm (l.take k)∧nm (l.take k)<256^k:=by
 have hx:(l.take k).length=k:=by rw[List.length_take];omega
 have b:=r3o (h.take k)
 rw[hx]at b
 refine⟨?_,b⟩
 have e:l.take k=bes (nm (l.take k)) k:=nm_inj (by rw[hx,h3v]) (h.take k) (t3b _ _) (by rw[hk _ b.1,Int.emod_eq_of_lt b.1 b.2])
 calc l=l.take k++l.drop k:=(List.take_append_drop k l).symm
  _=_:=by rw[←e]
theorem k1 (n:Int)(h:0≤n):nm (bes n 1)=n%256^1:=by rw[nmb1 h];rfl
theorem k2 (n:Int)(h:0≤n):nm (bes n 2)=n%256^2:=by rw[nmb2 h];rfl
def lf (o:Option (List Int)):List Int:=o.getD []
def bd (o:Option (List Int)):Bool:=o.isNone
def rd (w:Nat):Option (List Int)→Option (List Int)
 |some l=>if w≤l.length then some (l.drop w)else none
 |none=>none
def tk (w:Nat):Option (List Int)→List Int
 |some l=>if w≤l.length then l.take w else[]
 |none=>[]
def vl (w:Nat)(o:Option (List Int)):Int:=nm (tk w o)
def WO (o:Option (List Int)):Prop:= ∀l,o=some l→Wb l∧l.length≤1000000
theorem WO.rd {o:Option (List Int)}(h:WO o)(w:Nat):WO (rd w o):=by
 intro l hl
 cases o with
 |none=>cases hl
 |some x=>
  have:=h x rfl
  by_cases q:w≤x.length
  ·have e:Vx.rd w (some x)=some (x.drop w):=if_pos q
   rw[e]at hl
   cases hl
   exact⟨this.1.drop w,by rw[List.length_drop];omega⟩
  ·have e:Vx.rd w (some x)=none:=if_neg q
   rw[e]at hl
   cases hl
theorem o3q {w:Nat}{l:List Int}(h:w≤l.length):rd w (some l)=some (l.drop w):=if_pos h
theorem a4z {w:Nat}{l:List Int}(h: ¬w≤l.length):rd w (some l)=none:=if_neg h
theorem o3b {w:Nat}{l:List Int}(h:w≤l.length):tk w (some l)=l.take w:=if_pos h
theorem z3x {w:Nat}{l:List Int}(h: ¬w≤l.length):tk w (some l)=[]:=if_neg h
theorem r77r {o:Option (List Int)}(h:WO o):i3z [.l TB (lf o),.b (bd o)]=some (0,[.n (vl 1 o),.l TB (lf (rd 1 o)),.b (bd (rd 1 o))]):=by
 have e:i3y [.n 1,.l TB (lf o),.b (bd o)]=some (0,[.n (vl 1 o),.l TB (lf (rd 1 o)),.b (bd (rd 1 o))]):=by
  cases o with
  |none=>exact i4b (.inl rfl)
  |some l=>
   by_cases q:1≤l.length
   ·unfold vl;rw[o3b q,o3q q];exact t34_1ok (h l rfl).1 q
   ·unfold vl;rw[z3x q,a4z q];exact i4b (.inr (by show l.length<_;omega))
 rw[s3l]
 refine v3i _ _ _ ?_
 unfold y3u
 dsimp only
 erw[e]
 rfl
theorem r83r {o:Option (List Int)}(h:WO o):k3u [.l TB (lf o),.b (bd o)]=some (0,[.n (vl 2 o),.l TB (lf (rd 2 o)),.b (bd (rd 2 o))]):=by
 have e:i3y [.n 2,.l TB (lf o),.b (bd o)]=some (1,[.n (vl 2 o),.l TB (lf (rd 2 o)),.b (bd (rd 2 o))]):=by
  cases o with
  |none=>exact g4f (.inl rfl)
  |some l=>
   by_cases q:2≤l.length
   ·unfold vl;rw[o3b q,o3q q];exact t34_2ok (h l rfl).1 q
   ·unfold vl;rw[z3x q,a4z q];exact g4f (.inr (by show l.length<_;omega))
 rw[s3o]
 refine y3j _ _ _ ?_
 unfold b4b
 dsimp only
 erw[e]
 rfl
theorem r78r {o:Option (List Int)}(h:WO o):i3c [.l TB (lf o),.b (bd o)]=some (0,[.n (vl 8 o),.l TB (lf (rd 8 o)),.b (bd (rd 8 o))]):=by
 have e:i3y [.n 8,.l TB (lf o),.b (bd o)]=some (3,[.n (vl 8 o),.l TB (lf (rd 8 o)),.b (bd (rd 8 o))]):=by
  cases o with
  |none=>exact g4o (.inl rfl)
  |some l=>
   by_cases q:8≤l.length
   ·unfold vl;rw[o3b q,o3q q];exact t34_8ok (h l rfl).1 q
   ·unfold vl;rw[z3x q,a4z q];exact g4o (.inr (by show l.length<_;omega))
 rw[s3z]
 refine v3q _ _ _ ?_
 unfold y3r
 dsimp only
 erw[e]
 rfl
theorem r82r {o:Option (List Int)}(h:WO o)(n:Nat)(hn:n≤1000000):k3b [.n (n:Int),.l TB (lf o),.b (bd o)]=some (0,[.l TB (lf (rd n o)),.b (bd (rd n o)),.l TB (tk n o)]):=by
 rw[u3l]
 refine v3b _ _ _ _ ?_
 unfold z3n
 dsimp only
 have e0:i2m [.l TB ([]:List Int)]=some (0,[.l TB ([]:List Int)]):=t31 (by simp)
 have no: ∀{l:List Int} {b:Bool},(b=true∨(n:Int)<0∨(l.length:Int)<n)→h3f [.n (n:Int),.l TB l,.b b]=some (1,[.l TB ([]:List Int),.b true]):=fun h=>t4e h
 cases o with
 |none=>
  have e:=no (l:=[]) (b:=true) (.inl rfl)
  erw[e]
  refine a0c rfl (a0a rfl ?_)
  erw[e0]
  rfl
 |some l=>
  by_cases q:n≤l.length
  ·have e:h3f [.n (n:Int),.l TB l,.b false]=_:=q4l (n:=(n:Int)) (by omega) (by omega)
   rw[show((n:Int)).toNat=n by omega]at e
   have e1:=t31 (l:=l.take n) (by rw[List.length_take];omega)
   have hr:rd n (some l)=some (l.drop n):=if_pos q
   have ht:tk n (some l)=l.take n:=if_pos q
   rw[hr,ht]
   erw[e]
   refine a0a rfl ?_
   erw[e1]
   rfl
  ·have e:=no (l:=l) (b:=false) (.inr (.inr (by omega)))
   have hr:rd n (some l)=none:=if_neg q
   have ht:tk n (some l)=[]:=if_neg q
   rw[hr,ht]
   erw[e]
   refine a0c rfl (a0a rfl ?_)
   erw[e0]
   rfl
abbrev LB:=List (Ty.den TB)
abbrev LKs:=List (Ty.den TBk)
abbrev LW:=List (Ty.den TWr)
abbrev LT:=List (Ty.den TS)
abbrev LO:=List (Ty.den TOp)
theorem y2e (a:ByteArray):f0b a a=true:=by unfold f0b;simp
theorem o4z {a b:ByteArray}(h:a.data.toList=b.data.toList):a=b:=by
 cases a;cases b;congr 1;exact Array.toList_inj.1 h
theorem i3a (a:List Int):ByteArray.size (r2b a)=a.length:=by
 show(a.map _).toArray.size=a.length
 simp
theorem str_app (a b:List Int):r2b a++r2b b=r2b (a++b):=by
 apply o4z
 have e:(r2b a++r2b b).data=(r2b a).data++(r2b b).data:=ByteArray.data_append
 rw[e]
 show((a.map _).toArray++(b.map _).toArray).toList=((a++b).map _).toArray.toList
 simp
theorem l3b (a:List Int)(i j:Nat):(r2b a).extract i j=r2b ((a.take j).drop i):=by
 apply o4z
 have e:((r2b a).extract i j).data=(r2b a).data.extract i j:=ByteArray.data_extract
 rw[e]
 show((a.map _).toArray.extract i j).toList=(((a.take j).drop i).map _).toArray.toList
 simp only[Array.toList_extract,List.extract_eq_take_drop,List.map_drop,List.map_take]
 rw[List.drop_take]
def wI (w:Ty.den TWr):Int:=Prod.fst w
def wB (w:Ty.den TWr):List Int:=Prod.snd w
def oI (w:Ty.den TOp):Int:=Prod.fst w
def oS (w:Ty.den TOp):ByteArray:=Prod.snd w
def rB (b:Ty.den TBk):List Int:=b
def ofB (b:List Int):Ty.den TBk:=b
def fk (F:LB)(i:Nat):Int:=List.getD (α:=Int) F i 0
structure DS where
 n:Int
 A:Bool
 h:Int
 o:Bool
 K:LKs
 W:LW
def strB (b:Ty.den TBk):Ty.den TS:=r2b (rB b)
def strO (w:Ty.den TWr):Ty.den TOp:=(wI w,r2b (wB w))
def strK (K:LKs):LT:=K.map strB
def strW (W:LW):LO:=W.map strO
theorem h3j (K:LKs):(strK K).length=K.length:=List.length_map ..
theorem j3f (W:LW):(strW W).length=W.length:=List.length_map ..
abbrev kAt (K:LKs)(i:Nat):Ty.den TBk:=K.getD i (Ty.dflt TBk)
abbrev wAt (W:LW)(i:Nat):Ty.den TWr:=W.getD i (Ty.dflt TWr)
abbrev oAt (W:LO)(i:Nat):Ty.den TOp:=W.getD i (Ty.dflt TOp)
abbrev tAt (K:LT)(i:Nat):Ty.den TS:=K.getD i (Ty.dflt TS)
structure DOk (s:DS):Prop where
 kb: ∀b∈s.K,Wb (rB b)∧(rB b).length=256
 wp: ∀w∈s.W,(0:Int)≤wI w∧wI w<(s.K.length:Int)
 wb: ∀w∈s.W,Wb (wB w)∧(wB w).length=256
 ar:s.A=true→0≤s.h
 kl:s.K.length≤4096
theorem h3g {α:Type}{l:List α}{d:α}{i:Nat}(h:i<l.length):l.getD i d∈l:=by
 rw[List.getD_eq_getElem?_getD,List.getElem?_eq_getElem h];exact List.getElem_mem h
theorem r4t {α:Type}{l:List α}{d:α}{i:Nat}(h:l.length≤i):l.getD i d=d:=by
 rw[List.getD_eq_getElem?_getD,List.getElem?_eq_none h];rfl
theorem n3h {α β:Type}(f:α→β): ∀(l:List α) {i:Nat} (d:α) (e:β),i<l.length→(l.map f).getD i e=f (l.getD i d)
 |[],_,_,_,h=>absurd h (Nat.not_lt_zero _)
 |a::l,0,_,_,_=>rfl
 |a::l,i+1,d,e,h=>n3h f l (i:=i) d e (Nat.lt_of_succ_lt_succ h)
theorem m4m (K:LKs){i:Nat}(h:i<K.length):tAt (strK K) i=strB (kAt K i):=n3h strB K _ _ h
theorem q3e (W:LW){i:Nat}(h:i<W.length):oAt (strW W) i=strO (wAt W i):=n3h strO W _ _ h
theorem z3h (K:LKs)(i:Nat)(b:Ty.den TBk):strK (K.set i b)=(strK K).set i (strB b):=by
 unfold strK;rw[List.map_set]
theorem s2t {i:Int}{n:Nat}(h0:0≤i)(h1:i<(n:Int)):inR i n=true:=by
 unfold inR;rw[decide_eq_true h0,decide_eq_true h1];rfl
theorem w1n (i:Nat)(h:i<1000000000):IntKind.wrap .i64 ((i:Int)+1)=((i+1:Nat):Int):=by rw[w64 (by omega) (by omega)];rfl
def put1 (K:LKs)(w:Ty.den TWr):LKs:=K.set (wI w).toNat (ofB (wB w))
theorem s4d (K:LKs)(w:Ty.den TWr):(put1 K w).length=K.length:=List.length_set ..
def putN (W:LW)(K:LKs):Nat→LKs
 |0=>K
 |i+1=>put1 (putN W K i) (wAt W i)
theorem k3j (W:LW)(K:LKs): ∀i,(putN W K i).length=K.length
 |0=>rfl
 |i+1=>(s4d _ _).trans (k3j W K i)
theorem o4o {α:Type}{l:List α}{i:Nat}{a x:α}(h:x∈l.set i a):x∈l∨x=a:=List.mem_or_eq_of_mem_set h
section
variable (s:DS) (hs:DOk s) (hw:s.W.length≤100000)
include hs
theorem wpos {i:Nat}(hi:i<s.W.length):inR (wI (wAt s.W i)) s.K.length=true:=by
 obtain⟨h0,h1⟩:=hs.wp _ (h3g (d:=Ty.dflt TWr) hi)
 exact s2t h0 h1
theorem k4r: ∀i,i≤s.W.length→ ∀b∈putN s.W s.K i,Wb (rB b)∧(rB b).length=256
 |0,_,b,hb=>hs.kb b hb
 |i+1,hi,b,hb=>by
  rcases o4o hb with h|rfl
  ·exact k4r i (by omega) b h
  ·exact hs.wb _ (h3g (d:=Ty.dflt TWr) (by omega))
include hw
theorem d44l (n:Int)(a:Bool)(h:Int)(o:Bool):r3x [.k 0,.n (s.W.length:Int),.n 0,.n n,.b a,.n h,.b o,.l TBk s.K,.l TWr s.W]=some (0,[.n n,.b a,.n h,.b o,.l TBk (putN s.W s.K s.W.length),.l TWr s.W]):=by
 rw[y3c]
 refine b0a (st:=m3e) (fun i=>[.k 0,.n (s.W.length:Int),.n (i:Int),.n n,.b a,.n h,.b o,.l TBk (putN s.W s.K i),.l TWr s.W]) s.W.length (0,[.n n,.b a,.n h,.b o,.l TBk (putN s.W s.K s.W.length),.l TWr s.W]) (fun i hi=> ?_) (x3i (by omega) rfl (Int.lt_irrefl _)) FU (b1w (by omega))
 show _=some (Step.go [.k 0,.n (s.W.length:Int),.n ((i+1:Nat):Int),.n n,.b a,.n h,.b o,.l TBk (putN s.W s.K (i+1)),.l TWr s.W])
 rw[←w1n i (by omega)]
 have hR:=wpos s hs hi
 rw[←k3j s.W s.K i]at hR
 exact y3i (by omega) rfl (Int.ofNat_lt.2 hi) hR
theorem d44 (n:Int)(a:Bool)(h:Int)(o:Bool):t3m [.n n,.b a,.n h,.b o,.l TBk s.K,.l TWr s.W]=some (0,[.n n,.b a,.n h,.b o,.l TBk (putN s.W s.K s.W.length),.l TWr []]):=g4d (d44l s hs hw n a h o)
theorem m28l (n:Int)(a:Bool)(h:Int)(o:Bool):n3i [.k 0,.n 0,.n n,.b a,.n h,.b o,.l TS (strK s.K),.l TOp (strW s.W)]=some (0,[.n n,.b a,.n h,.b o,.l TS (strK (putN s.W s.K s.W.length)),.l TOp (strW s.W)]):=by
 rw[v3a]
 refine b0a (st:=l3k) (fun i=>[.k 0,.n (i:Int),.n n,.b a,.n h,.b o,.l TS (strK (putN s.W s.K i)),.l TOp (strW s.W)]) s.W.length (0,[.n n,.b a,.n h,.b o,.l TS (strK (putN s.W s.K s.W.length)),.l TOp (strW s.W)]) (fun i hi=> ?_) (v3w (by omega) (by rw[j3f];exact Int.lt_irrefl _)) FU (b1w (by omega))
 show _=some (Step.go [.k 0,.n ((i+1:Nat):Int),.n n,.b a,.n h,.b o,.l TS (strK (putN s.W s.K (i+1))),.l TOp (strW s.W)])
 rw[←w1n i (by omega)]
 have e:strK (putN s.W s.K (i+1))=(strK (putN s.W s.K i)).set (oI (oAt (strW s.W) i)).toNat (oS (oAt (strW s.W) i)):=by
  rw[q3e _ hi];exact z3h ..
 have hRm:inR (oI (oAt (strW s.W) i)) (strK (putN s.W s.K i)).length=true:=by rw[h3j,k3j,q3e _ hi];exact wpos s hs hi
 rw[e]
 exact u3s (by omega) (by rw[j3f];exact Int.ofNat_lt.2 hi) hRm
end
def putK (k:Int)(b old:List Int):List Int:=if k=255 then b else b.take k.toNat++old.drop k.toNat
def put2 (F:LB)(i:Nat)(K:LKs)(w:Ty.den TWr):LKs:=K.set (wI w).toNat (ofB (putK (fk F i) (wB w) (rB (kAt K (wI w).toNat))))
theorem q4p (F:LB)(i:Nat)(K:LKs)(w:Ty.den TWr):(put2 F i K w).length=K.length:=List.length_set ..
def putF (F:LB)(W:LW)(K:LKs):Nat→LKs
 |0=>K
 |i+1=>put2 F i (putF F W K i) (wAt W i)
theorem j3t (F:LB)(W:LW)(K:LKs): ∀i,(putF F W K i).length=K.length
 |0=>rfl
 |i+1=>(q4p ..).trans (j3t F W K i)
theorem putK_ok {k:Int}{b old:List Int}(h0:0≤k)(h1:k<256)(hb:Wb b∧b.length=256)(ho:Wb old∧old.length=256):Wb (putK k b old)∧(putK k b old).length=256:=by
 unfold putK
 split
 ·exact hb
 ·refine⟨fun x hx=> ?_,?_⟩
  ·rcases List.mem_append.1 hx with h|h
   ·exact hb.1 x (List.mem_of_mem_take h)
   ·exact ho.1 x (List.mem_of_mem_drop h)
  ·rw[List.length_append,List.length_take,List.length_drop];omega
theorem fk_ge {F:LB}{i:Nat}(h:F.length≤i):fk F i=0:=by
 exact r4t (α:=Int) h
theorem x3o {F:LB}(hF:Wb F)(i:Nat):0≤fk F i∧fk F i<256:=by
 rcases Nat.lt_or_ge i F.length with h|h
 ·exact hF _ (h3g (α:=Int) h)
 ·rw[fk_ge h];omega
theorem ext2 (b old:List Int)(k:Nat):(r2b b).extract 0 k++(r2b old).extract k (Int.toNat ((r2b old).size:Int))=r2b (b.take k++old.drop k):=by
 rw[l3b,l3b,str_app,i3a,Int.toNat_natCast,List.take_length,List.drop_zero]
theorem g4p (b old:List Int)(k:Nat)(hb:b.length=256)(ho:old.length=256):((r2b b).extract 0 k).size+((r2b old).extract k (Int.toNat ((r2b old).size:Int))).size≤9223372036854775807:=by
 rw[l3b,l3b,i3a,i3a,List.length_drop,List.length_drop,List.length_take,List.length_take];omega
section
variable (s:DS) (hs:DOk s) (hw:s.W.length≤100000) (F:LB) (hF:Wb F)
include hs hF
theorem q3n: ∀i,i≤s.W.length→ ∀b∈putF F s.W s.K i,Wb (rB b)∧(rB b).length=256
 |0,_,b,hb=>hs.kb b hb
 |i+1,hi,b,hb=>by
  rcases o4o hb with h|rfl
  ·exact q3n i (by omega) b h
  ·obtain⟨p0,p1⟩:=hs.wp (wAt s.W i) (h3g (show i<s.W.length by omega))
   obtain⟨f0,f1⟩:=x3o hF i
   exact putK_ok f0 f1 (hs.wb _ (h3g (by omega))) (q3n i (by omega) _ (h3g (by rw[j3t];omega)))
include hw
theorem d41l (n:Int)(a:Bool)(h:Int)(o:Bool):q3q [.k 0,.n (s.W.length:Int),.n 0,.n n,.b a,.n h,.b o,.l TB F,.l TBk s.K,.l TWr s.W]=some (0,[.n n,.b a,.n h,.b o,.l TB F,.l TBk (putF F s.W s.K s.W.length),.l TWr s.W]):=by
 rw[x3f]
 refine b0a (st:=j3r) (fun i=>[.k 0,.n (s.W.length:Int),.n (i:Int),.n n,.b a,.n h,.b o,.l TB F,.l TBk (putF F s.W s.K i),.l TWr s.W]) s.W.length (0,[.n n,.b a,.n h,.b o,.l TB F,.l TBk (putF F s.W s.K s.W.length),.l TWr s.W]) (fun i hi=> ?_) (x3m (by omega) rfl (Int.lt_irrefl _)) FU (b1w (by omega))
 show _=some (Step.go [.k 0,.n (s.W.length:Int),.n ((i+1:Nat):Int),.n n,.b a,.n h,.b o,.l TB F,.l TBk (putF F s.W s.K (i+1)),.l TWr s.W])
 rw[←w1n i (by omega)]
 have hR:=wpos s hs hi
 rw[←j3t F s.W s.K i]at hR
 obtain⟨f0,f1⟩:=x3o hF i
 have hb:=hs.wb _ (h3g (d:=Ty.dflt TWr) hi)
 have e0:putF F s.W s.K (i+1)=put2 F i (putF F s.W s.K i) (wAt s.W i):=rfl
 rcases Nat.lt_or_ge i F.length with q|q
 ·by_cases k:fk F i=255
  ·have e:putF F s.W s.K (i+1)=List.set (putF F s.W s.K i) (wI (wAt s.W i)).toNat (ofB (wB (wAt s.W i))):=by
    rw[e0];unfold put2 putK;rw[if_pos k]
   rw[e]
   exact w3e (by omega) rfl (Int.ofNat_lt.2 hi) (Int.ofNat_lt.2 q) k hR
  ·have e:putF F s.W s.K (i+1)=List.set (putF F s.W s.K i) (wI (wAt s.W i)).toNat (ofB (List.take (fk F i).toNat (List.take (fk F i).toNat (wB (wAt s.W i)))++List.drop (min (List.length (List.take (fk F i).toNat (wB (wAt s.W i)))) (fk F i).toNat) (rB (kAt (putF F s.W s.K i) (wI (wAt s.W i)).toNat)))):=by
    rw[e0];unfold put2 putK;rw[if_neg k,List.take_take,Nat.min_self]
    have:min (List.length (List.take (fk F i).toNat (wB (wAt s.W i)))) (fk F i).toNat=(fk F i).toNat:=by
     rw[List.length_take,hb.2]
     omega
    rw[this]
   rw[e]
   exact v3r (by omega) rfl (Int.ofNat_lt.2 hi) (Int.ofNat_lt.2 q) k hR (by
    show(decide (0≤fk F i)&&decide (fk F i≤256))=true
    rw[dt f0,dt (show fk F i≤256 by omega)];rfl)
 ·have e:putF F s.W s.K (i+1)=List.set (putF F s.W s.K i) (wI (wAt s.W i)).toNat (ofB ([]++List.drop 0 (rB (kAt (putF F s.W s.K i) (wI (wAt s.W i)).toNat)))):=by
   rw[e0];unfold put2 putK;rw[fk_ge q,if_neg (by omega)];rfl
  rw[e]
  exact x3z (by omega) rfl (Int.ofNat_lt.2 hi) (by omega) hR
theorem d41 (n:Int)(a:Bool)(h:Int)(o:Bool):z3y [.n n,.b a,.n h,.b o,.l TB F,.l TBk s.K,.l TWr s.W]=some (0,[.n n,.b a,.n h,.b o,.l TB F,.l TBk (putF F s.W s.K s.W.length),.l TWr []]):=j4x (d41l s hs hw F hF n a h o)
theorem m32l (n:Int)(a:Bool)(h:Int)(o:Bool):s3a [.k 0,.l TB F,.n 0,.n n,.b a,.n h,.b o,.l TS (strK s.K),.l TOp (strW s.W)]=some (0,[.n n,.b a,.n h,.b o,.l TS (strK (putF F s.W s.K s.W.length)),.l TOp (strW s.W)]):=by
 rw[v3l]
 refine b0a (st:=j3x) (fun i=>[.k 0,.l TB F,.n (i:Int),.n n,.b a,.n h,.b o,.l TS (strK (putF F s.W s.K i)),.l TOp (strW s.W)]) s.W.length (0,[.n n,.b a,.n h,.b o,.l TS (strK (putF F s.W s.K s.W.length)),.l TOp (strW s.W)]) (fun i hi=> ?_) (x3k (by omega) (by rw[j3f];exact Int.lt_irrefl _)) FU (b1w (by omega))
 show _=some (Step.go [.k 0,.l TB F,.n ((i+1:Nat):Int),.n n,.b a,.n h,.b o,.l TS (strK (putF F s.W s.K (i+1))),.l TOp (strW s.W)])
 rw[←w1n i (by omega)]
 have hR:=wpos s hs hi
 obtain⟨p0,p1⟩:=hs.wp (wAt s.W i) (h3g hi)
 obtain⟨f0,f1⟩:=x3o hF i
 have hb:=hs.wb _ (h3g (d:=Ty.dflt TWr) hi)
 have hlt:(wI (wAt s.W i)).toNat<(putF F s.W s.K i).length:=by rw[j3t];omega
 have ho:=q3n s hs F hF i (by omega) _ (h3g (d:=Ty.dflt TBk) hlt)
 have ew:=q3e s.W hi
 have hRm:inR (oI (oAt (strW s.W) i)) (strK (putF F s.W s.K i)).length=true:=by rw[h3j,j3t,ew];exact hR
 have hi2:(i:Int)<((strW s.W).length:Int):=by rw[j3f];exact Int.ofNat_lt.2 hi
 have eb:oS (oAt (strW s.W) i)=r2b (wB (wAt s.W i)):=by rw[ew];rfl
 have eo:tAt (strK (putF F s.W s.K i)) (oI (oAt (strW s.W) i)).toNat=r2b (rB (kAt (putF F s.W s.K i) (wI (wAt s.W i)).toNat)):=by
  rw[ew];exact m4m _ hlt
 generalize hX:oS (oAt (strW s.W) i)=X at eb
 generalize hO:tAt (strK (putF F s.W s.K i)) (oI (oAt (strW s.W) i)).toNat=Z at eo
 have key: ∀k:Nat,putK (fk F i) (wB (wAt s.W i)) (rB (kAt (putF F s.W s.K i) (wI (wAt s.W i)).toNat))=(wB (wAt s.W i)).take k++(rB (kAt (putF F s.W s.K i) (wI (wAt s.W i)).toNat)).drop k→
   strK (putF F s.W s.K (i+1))=List.set (strK (putF F s.W s.K i)) (oI (oAt (strW s.W) i)).toNat (ByteArray.extract (oS (oAt (strW s.W) i)) 0 k++ByteArray.extract (tAt (strK (putF F s.W s.K i)) (oI (oAt (strW s.W) i)).toNat) k (Int.toNat ((ByteArray.size (tAt (strK (putF F s.W s.K i)) (oI (oAt (strW s.W) i)).toNat):Nat):Int))):=by
  intro k hk
  rw[hX,hO,eb,eo,ext2,←hk,ew]
  exact z3h ..
 have sz: ∀k:Nat,ByteArray.size (ByteArray.extract (oS (oAt (strW s.W) i)) 0 k)+ByteArray.size (ByteArray.extract (tAt (strK (putF F s.W s.K i)) (oI (oAt (strW s.W) i)).toNat) k (Int.toNat ((ByteArray.size (tAt (strK (putF F s.W s.K i)) (oI (oAt (strW s.W) i)).toNat):Nat):Int)))≤9223372036854775807:=by
  intro k
  rw[hX,hO,eb,eo]
  exact g4p _ _ k hb.2 ho.2
 have s1:ByteArray.size (oS (oAt (strW s.W) i))=256:=by rw[hX,eb,i3a];exact hb.2
 have s2:ByteArray.size (tAt (strK (putF F s.W s.K i)) (oI (oAt (strW s.W) i)).toNat)=256:=by rw[hO,eo,i3a];exact ho.2
 have cc: ∀z:Nat,z=256→(true&&decide ((256:Int)≤(z:Int)))=true:=fun z hz=>by rw[hz];rfl
 rcases Nat.lt_or_ge i F.length with q|q
 ·have hwr:IntKind.wrap .i64 (fk F i)=fk F i:=w64 (by omega) (by omega)
  by_cases k:fk F i=255
  ·rw[key 256 (by
    unfold putK;rw[if_pos k,List.take_of_length_le (Nat.le_of_eq hb.2),List.drop_eq_nil_of_le (Nat.le_of_eq ho.2)];simp)]
   exact v3v (by omega) hi2 (Int.ofNat_lt.2 q) (hwr.trans k) (cc _ s1) hRm (cc _ s2) (sz 256)
  ·rw[key (Int.toNat (IntKind.wrap .i64 (fk F i))) (by rw[hwr];unfold putK;rw[if_neg k])]
   have kk: ∀z:Nat,z=256→(decide (0≤IntKind.wrap .i64 (fk F i))&&decide (IntKind.wrap .i64 (fk F i)≤(z:Int)))=true:=fun z hz=>by
    rw[hwr,hz,dt f0,dt (by omega)];rfl
   have k0:(true&&decide (0≤IntKind.wrap .i64 (fk F i)))=true:=by rw[hwr,dt f0];rfl
   exact w3b (by omega) hi2 (Int.ofNat_lt.2 q) (fun e=>k (hwr.symm.trans e)) (kk _ s1) k0 hRm (kk _ s2) (sz _)
 ·rw[key 0 (by unfold putK;rw[fk_ge q,if_neg (by omega)];rfl)]
  exact w3v (by omega) hi2 (by omega) hRm (sz 0)
end
theorem wmin {h:Int}(h0:0≤h)(h1:h≤9223372036854775807)(h2: ¬h=0):IntKind.wrap .i64 (h-1)=h-1:=w64 (by omega) (by omega)
structure DH (s:DS):Prop extends DOk s where
 hb:s.h≤9223372036854775807
def pad (b:List Int):List Int:=b++List.replicate (256-b.length) 0
def mkW (i:Int)(b:List Int):Ty.den TWr:=(i,b)
theorem pad_len {b:List Int}(h:b.length≤256):(pad b).length=256:=by
 unfold pad;rw[List.length_append,List.length_replicate];omega
theorem pad_wb {b:List Int}(h:Wb b):Wb (pad b):=fun x hx=>by
 rcases List.mem_append.1 hx with q|q
 ·exact h x q
 ·have:=List.eq_of_mem_replicate q;omega
theorem pad_eq {b:List Int}(h:b.length≤256):List.take 256 b++List.drop b.length (List.replicate 256 (0:Int))=pad b:=by
 unfold pad
 rw[List.take_of_length_le h,List.drop_replicate]
theorem m25 {b:List Int}(hb:Wb b)(h:b.length≤256):o3n [.s (r2b b)]=some (0,[.s (r2b (pad b))]):=by
 refine f4t (by rw[h3z hb];omega) ?_
 rw[h3z hb,u3v]
 have hl: ∀i,(b++List.replicate i (0:Int)).length=b.length+i:=fun i=>by rw[List.length_append,List.length_replicate]
 have e0:([.k 0,.l TB b]:List Dat)=[.k 0,.l TB (b++List.replicate 0 (0:Int))]:=by rw[List.replicate_zero,List.append_nil]
 rw[e0]
 refine b0a (st:=m3f) (fun i=>[.k 0,.l TB (b++List.replicate i (0:Int))]) (256-b.length) (0,[.l TB (pad b)]) (fun i hi=> ?_) (w3k (by have:=hl (256-b.length);show¬((List.length (b++List.replicate (256-b.length) (0:Int)):Nat):Int)<256;omega)) FU (b1w (by omega))
 show _=some (Step.go [.k 0,.l TB (b++List.replicate (i+1) (0:Int))])
 rw[List.replicate_succ',←List.append_assoc]
 exact y3a (by have:=hl i;show((List.length (b++List.replicate i (0:Int)):Nat):Int)<256;omega)
def s1c (s:DS)(i:Int)(b:List Int):DS×Int:=
 if s.o=true then(s,140)else if 0≤i∧i<(s.K.length:Int)then
  if 256<b.length then(s,3)else
  if s.A=true then
   if s.h=0 then(⟨IntKind.wrap .i64 (s.n+1),false,s.h,true,s.K,s.W++[mkW i (pad b)]⟩,140)
   else(⟨IntKind.wrap .i64 (s.n+1),s.A,IntKind.wrap .i64 (s.h-1),s.o,s.K,s.W++[mkW i (pad b)]⟩,0)
  else(⟨IntKind.wrap .i64 (s.n+1),s.A,s.h,s.o,s.K,s.W++[mkW i (pad b)]⟩,0)
 else(s,2)
theorem q4d (W:LW)(i:Int)(b:List Int):strW (W++[mkW i b])=strW W++[strO (mkW i b)]:=by
 unfold strW;rw[List.map_append];rfl
section
variable (s:DS) (hw:s.W.length≤100000) (i:Int) (b:List Int)
include hw
theorem d17o:h3k [.n i,.n s.n,.b s.A,.n s.h,.b s.o,.l TB b,.l TBk s.K,.l TWr s.W]=some (0,[.n (s1c s i b).2,.n (s1c s i b).1.n,.b (s1c s i b).1.A,.n (s1c s i b).1.h,.b (s1c s i b).1.o,.l TB b,.l TBk (s1c s i b).1.K,.l TWr (s1c s i b).1.W]):=by
 unfold s1c
 cases h1:s.o with
 |true=>rw[if_pos rfl];have:=c4h (n0:=i) (n1:=s.n) (b2:=s.A) (n3:=s.h) (l5:=b) (l6:=s.K) (l7:=s.W) h1;rw[h1]at this;rw[h1];exact this
 |false=>
  rw[if_neg (by decide)]
  by_cases h2:0≤i∧i<(s.K.length:Int)
  ·rw[if_pos h2]
   by_cases h3:256<b.length
   ·rw[if_pos h3,←h1];exact d4n h1 h2.1 h2.2 (by show(b.length:Int)>256;omega)
   rw[if_neg h3]
   have h3': ¬(b.length:Int)>256:=by omega
   have h4:(s.W.length+1)*264≤140737488355328:=by omega
   rw[←pad_eq (show b.length≤256 by omega)]
   cases h5:s.A with
   |true=>
    rw[if_pos rfl]
    by_cases h6:s.h=0
    ·rw[if_pos h6];exact d4k rfl h2.1 h2.2 h3' h4 rfl h6
    ·rw[if_neg h6];exact c4r rfl h2.1 h2.2 h3' h4 rfl h6
   |false=>rw[if_neg (by decide)];exact c4j rfl h2.1 h2.2 h3' h4 rfl
  ·rw[if_neg h2,←h1]
   by_cases h0:0≤i
   ·exact c4n h1 h0 (fun q=>h2 ⟨h0,q⟩)
   ·exact d4r h1 h0
end
section
variable (s:DS) (hs:DH s) (hw:s.W.length≤100000) (i:Int) (b:List Int) (hb:Wb b)
include hs
theorem j3o (hb:Wb b):DH (s1c s i b).1∧(s1c s i b).1.W.length≤s.W.length+1∧(s1c s i b).1.K.length=s.K.length:=by
 have app:0≤i∧i<(s.K.length:Int)→ ¬256<b.length→ ∀n A h o,(A=true→0≤h)→h≤9223372036854775807→DH ⟨n,A,h,o,s.K,s.W++[mkW i (pad b)]⟩:=by
  intro hi hl n A h o ha hh
  refine⟨⟨hs.kb,fun w hw=> ?_,fun w hw=> ?_,ha,hs.kl⟩,hh⟩
  ·rcases List.mem_append.1 hw with q|q
   ·exact hs.wp w q
   ·rw[List.mem_singleton.1 q];exact hi
  ·rcases List.mem_append.1 hw with q|q
   ·exact hs.wb w q
   ·rw[List.mem_singleton.1 q];exact⟨pad_wb hb,pad_len (by omega)⟩
 have l1:(s.W++[mkW i (pad b)]).length≤s.W.length+1:=by rw[List.length_append];exact Nat.le_refl _
 unfold s1c
 by_cases h1:s.o=true
 ·rw[if_pos h1];exact⟨hs,by show s.W.length≤_;omega,rfl⟩
 rw[if_neg h1]
 by_cases h2:0≤i∧i<(s.K.length:Int)
 ·rw[if_pos h2]
  by_cases h3:256<b.length
  ·rw[if_pos h3];exact⟨hs,by show s.W.length≤_;omega,rfl⟩
  rw[if_neg h3]
  by_cases h4:s.A=true
  ·rw[if_pos h4]
   have ha:=hs.ar h4
   have hh:=hs.hb
   by_cases h5:s.h=0
   ·rw[if_pos h5];exact⟨app h2 h3 _ _ _ _ (fun q=>by cases q) hs.hb,l1,rfl⟩
   ·rw[if_neg h5,wmin ha hs.hb h5];exact⟨app h2 h3 _ _ _ _ (fun _=>by omega) (by omega),l1,rfl⟩
  ·rw[if_neg h4];exact⟨app h2 h3 _ _ _ _ hs.ar hs.hb,l1,rfl⟩
 ·rw[if_neg h2];exact⟨hs,by show s.W.length≤_;omega,rfl⟩
include hw
theorem m33 (hb:Wb b):h3r [.n i,.s (r2b b),.n s.n,.b s.A,.n s.h,.b s.o,.l TS (strK s.K),.l TOp (strW s.W)]=some (0,[.n (s1c s i b).2,.n (s1c s i b).1.n,.b (s1c s i b).1.A,.n (s1c s i b).1.h,.b (s1c s i b).1.o,.l TS (strK (s1c s i b).1.K),.l TOp (strW (s1c s i b).1.W)]):=by
 have hz:((ByteArray.size (r2b b):Nat):Int)=(b.length:Int):=by rw[i3a]
 have hkl:((strK s.K).length:Int)=(s.K.length:Int):=by rw[h3j]
 unfold s1c
 cases h1:s.o with
 |true=>rw[if_pos rfl,←h1];exact p4c h1
 |false=>
  rw[if_neg (by decide)]
  by_cases h2:0≤i∧i<(s.K.length:Int)
  ·have g1: ¬i<0:=by omega
   have g2: ¬i≥((strK s.K).length:Int):=by omega
   rw[if_pos h2]
   by_cases h3:256<b.length
   ·rw[if_pos h3,←h1];exact l4y h1 g1 g2 (by omega)
   rw[if_neg h3]
   have h3': ¬((ByteArray.size (r2b b):Nat):Int)>256:=by omega
   have h4:((strW s.W).length+1)*24≤140737488355328:=by rw[j3f];omega
   have em:=m25 hb (show b.length≤256 by omega)
   have eW:=q4d s.W i (pad b)
   cases h5:s.A with
   |true=>
    rw[if_pos rfl]
    have ha:=hs.ar h5
    by_cases h6:s.h=0
    ·rw[if_pos h6]
     show _=some (0,[_,_,_,_,_,_,Dat.l TOp (strW (s.W++[mkW i (pad b)]))])
     rw[eW];exact l4q rfl g1 g2 h3' em h4 rfl (by omega)
    ·rw[if_neg h6]
     show _=some (0,[_,_,_,_,_,_,Dat.l TOp (strW (s.W++[mkW i (pad b)]))])
     rw[eW];exact m4w rfl g1 g2 h3' em h4 rfl (by omega)
   |false=>
    rw[if_neg (by decide)]
    show _=some (0,[_,_,_,_,_,_,Dat.l TOp (strW (s.W++[mkW i (pad b)]))])
    rw[eW];exact k4a rfl g1 g2 h3' em h4 rfl
  ·rw[if_neg h2,←h1]
   by_cases h0:i<0
   ·exact m4z h1 h0
   ·exact p4o h1 h0 (by omega)
end
def h3o (s:DS):DS×Int×Nat:=
 if s.o=true then(s,140,0)else
 if s.A=true then
  if s.h=0 then(⟨IntKind.wrap .i64 (s.n+1),false,s.h,true,s.K,s.W⟩,140,0)
  else(⟨IntKind.wrap .i64 (s.n+1),s.A,IntKind.wrap .i64 (s.h-1),s.o,putN s.W s.K s.W.length,[]⟩,0,1)
 else(⟨IntKind.wrap .i64 (s.n+1),s.A,s.h,s.o,putN s.W s.K s.W.length,[]⟩,0,1)
def sOn (s:DS)(F:LB):DS×Nat:=
 if s.o=true then(⟨s.n,false,s.h,false,putF F s.W s.K s.W.length,[]⟩,1)
 else(⟨s.n,false,s.h,s.o,s.K,s.W⟩,0)
def fnd (W:LW)(i:Int):Nat→Option (List Int)
 |0=>none
 |j+1=>if wI (wAt W j)=i then some (wB (wAt W j))else fnd W i j
def k3t (s:DS)(i:Int):Option (List Int)×Int:=
 if s.o=true then(none,140)else if 0≤i∧i<(s.K.length:Int)then(some ((fnd s.W i s.W.length).getD (rB (kAt s.K i.toNat))),0)else(none,2)
section
variable (s:DS) (hs:DH s) (hw:s.W.length≤100000)
include hs
theorem fnd_ok (i:Int): ∀j,j≤s.W.length→ ∀b,fnd s.W i j=some b→Wb b∧b.length=256
 |0,_,b,h=>by cases h
 |j+1,hj,b,h=>by
  unfold fnd at h
  split at h
  ·cases h;exact hs.wb _ (h3g (by omega))
  ·exact fnd_ok i j (by omega) b h
theorem r4c (i:Int){b:List Int}(h:(k3t s i).1=some b):Wb b∧b.length=256:=by
 unfold k3t at h
 split at h
 ·cases h
 split at h
 ·rename_i h2
  cases hf:fnd s.W i s.W.length with
  |none=>
   rw[hf]at h;cases h
   exact hs.kb _ (h3g (by omega))
  |some b'=>rw[hf]at h;cases h;exact fnd_ok s hs i _ (Nat.le_refl _) _ hf
 ·cases h
theorem q4h:DH (h3o s).1∧(h3o s).1.W.length≤s.W.length∧(h3o s).1.K.length=s.K.length:=by
 have put: ∀n A h o,(A=true→0≤h)→h≤9223372036854775807→DH ⟨n,A,h,o,putN s.W s.K s.W.length,[]⟩:=fun n A h o ha hh=>
  ⟨⟨k4r s hs.toDOk _ (Nat.le_refl _),(fun w hw=>by cases hw),(fun w hw=>by cases hw),ha,by show(putN s.W s.K s.W.length).length≤4096;rw[k3j];exact hs.kl⟩,hh⟩
 unfold h3o
 by_cases h1:s.o=true
 ·rw[if_pos h1];exact⟨hs,Nat.le_refl _,rfl⟩
 rw[if_neg h1]
 by_cases h2:s.A=true
 ·have ha:=hs.ar h2
  have hh:=hs.hb
  rw[if_pos h2]
  by_cases h3:s.h=0
  ·rw[if_pos h3];exact⟨⟨⟨hs.kb,hs.wp,hs.wb,(fun q=>by cases q),hs.kl⟩,hs.hb⟩,Nat.le_refl _,rfl⟩
  ·rw[if_neg h3,wmin ha hs.hb h3];exact⟨put _ _ _ _ (fun _=>by omega) (by omega),Nat.zero_le _,k3j ..⟩
 ·rw[if_neg h2];exact⟨put _ _ _ _ hs.ar hs.hb,Nat.zero_le _,k3j ..⟩
theorem sOn_ok (F:LB)(hF:Wb F):DH (sOn s F).1∧(sOn s F).1.W.length≤s.W.length∧(sOn s F).1.K.length=s.K.length:=by
 unfold sOn
 by_cases h1:s.o=true
 ·rw[if_pos h1]
  exact⟨⟨⟨q3n s hs.toDOk F hF _ (Nat.le_refl _),(fun w hw=>by cases hw),(fun w hw=>by cases hw),(fun q=>by cases q),by show(putF F s.W s.K s.W.length).length≤4096;rw[j3t];exact hs.kl⟩,hs.hb⟩,Nat.zero_le _,j3t ..⟩
 ·rw[if_neg h1]
  exact⟨⟨⟨hs.kb,hs.wp,hs.wb,(fun q=>by cases q),hs.kl⟩,hs.hb⟩,Nat.le_refl _,rfl⟩
include hw
theorem d16:j3c [.n s.n,.b s.A,.n s.h,.b s.o,.l TBk s.K,.l TWr s.W]=some ((h3o s).2.2,[.n (h3o s).2.1,.n (h3o s).1.n,.b (h3o s).1.A,.n (h3o s).1.h,.b (h3o s).1.o,.l TBk (h3o s).1.K,.l TWr (h3o s).1.W]):=by
 unfold h3o
 cases h1:s.o with
 |true=>rw[if_pos rfl,←h1];exact l4x h1
 |false=>
  rw[if_neg (by decide)]
  cases h5:s.A with
  |true=>
   rw[if_pos rfl]
   by_cases h6:s.h=0
   ·rw[if_pos h6];exact k4w rfl rfl h6
   ·rw[if_neg h6];exact l4p rfl rfl h6 (d44 s hs.toDOk hw _ _ _ _)
  |false=>rw[if_neg (by decide)];exact f4v rfl rfl (d44 s hs.toDOk hw _ _ _ _)
theorem m28:k3i [.n s.n,.b s.A,.n s.h,.b s.o,.l TS (strK s.K),.l TOp (strW s.W)]=some ((h3o s).2.2,[.n (h3o s).2.1,.n (h3o s).1.n,.b (h3o s).1.A,.n (h3o s).1.h,.b (h3o s).1.o,.l TS (strK (h3o s).1.K),.l TOp (strW (h3o s).1.W)]):=by
 unfold h3o
 cases h1:s.o with
 |true=>rw[if_pos rfl,←h1];exact o4b h1
 |false=>
  rw[if_neg (by decide)]
  cases h5:s.A with
  |true=>
   have ha:=hs.ar h5
   rw[if_pos rfl]
   by_cases h6:s.h=0
   ·rw[if_pos h6];exact n4c rfl rfl (by omega)
   ·rw[if_neg h6];exact i4w rfl rfl (by omega) (m28l s hs.toDOk hw _ _ _ _)
  |false=>rw[if_neg (by decide)];exact f4q rfl rfl (m28l s hs.toDOk hw _ _ _ _)
theorem d19 (F:LB)(hF:Wb F):k3a [.l TB F,.n s.n,.b s.A,.n s.h,.b s.o,.l TBk s.K,.l TWr s.W]=some ((sOn s F).2,[.n (sOn s F).1.n,.b (sOn s F).1.A,.n (sOn s F).1.h,.b (sOn s F).1.o,.l TBk (sOn s F).1.K,.l TWr (sOn s F).1.W]):=by
 unfold sOn
 cases h1:s.o with
 |true=>rw[if_pos rfl];exact f4w rfl (d41 s hs.toDOk hw F hF _ _ _ _)
 |false=>rw[if_neg (by decide)];exact n4j rfl
theorem m32 (F:LB)(hF:Wb F):j3y [.l TB F,.n s.n,.b s.A,.n s.h,.b s.o,.l TS (strK s.K),.l TOp (strW s.W)]=some ((sOn s F).2,[.n (sOn s F).1.n,.b (sOn s F).1.A,.n (sOn s F).1.h,.b (sOn s F).1.o,.l TS (strK (sOn s F).1.K),.l TOp (strW (sOn s F).1.W)]):=by
 unfold sOn
 cases h1:s.o with
 |true=>rw[if_pos rfl];exact i4r rfl (m32l s hs.toDOk hw F hF _ _ _ _)
 |false=>rw[if_neg (by decide)];exact i4c rfl
end
section
variable (s:DS) (hw:s.W.length≤100000)
include hw
theorem d20l (i n:Int)(a:Bool)(h:Int)(o:Bool)(b0:List Int):r3j [.k 0,.n i,.n (s.W.length:Int),.n 0,.n n,.b a,.n h,.b o,.l TBk s.K,.l TWr s.W,.l TB b0]=some (0,[.n n,.b a,.n h,.b o,.l TBk s.K,.l TWr s.W,.l TB ((fnd s.W i s.W.length).getD b0)]):=by
 rw[v3t]
 refine b0a (st:=k3k) (fun j=>[.k 0,.n i,.n (s.W.length:Int),.n (j:Int),.n n,.b a,.n h,.b o,.l TBk s.K,.l TWr s.W,.l TB ((fnd s.W i j).getD b0)]) s.W.length (0,[.n n,.b a,.n h,.b o,.l TBk s.K,.l TWr s.W,.l TB ((fnd s.W i s.W.length).getD b0)]) (fun j hj=> ?_) (x3n (by omega) rfl (Int.lt_irrefl _)) FU (b1w (by omega))
 show _=some (Step.go [.k 0,.n i,.n (s.W.length:Int),.n ((j+1:Nat):Int),.n n,.b a,.n h,.b o,.l TBk s.K,.l TWr s.W,.l TB ((fnd s.W i (j+1)).getD b0)])
 rw[←w1n j (by omega)]
 by_cases q:wI (wAt s.W j)=i
 ·have e:(fnd s.W i (j+1)).getD b0=wB (wAt s.W j):=by unfold fnd;rw[if_pos q];rfl
  rw[e];exact u3y (by omega) rfl (Int.ofNat_lt.2 hj) q
 ·have e:fnd s.W i (j+1)=fnd s.W i j:=by show(if _ then _ else _)=_;rw[if_neg q]
  rw[e];exact y3h (by omega) rfl (Int.ofNat_lt.2 hj) q
theorem d20 (i:Int):i3b [.n i,.n s.n,.b s.A,.n s.h,.b s.o,.l TBk s.K,.l TWr s.W]=some (match(k3t s i).1 with
  |none=>(0,[.n (k3t s i).2,.n s.n,.b s.A,.n s.h,.b s.o,.l TBk s.K,.l TWr s.W])
  |some b=>(1,[.n (k3t s i).2,.n s.n,.b s.A,.n s.h,.b s.o,.l TBk s.K,.l TWr s.W,.l TB b])):=by
 unfold k3t
 cases h1:s.o with
 |true=>rw[if_pos rfl];exact p4h rfl
 |false=>
  rw[if_neg (by decide)]
  by_cases h2:0≤i∧i<(s.K.length:Int)
  ·rw[if_pos h2];exact j4r rfl h2.1 h2.2 (d20l s hw _ _ _ _ _ _)
  ·rw[if_neg h2]
   by_cases h0:0≤i
   ·exact i4m rfl h0 (fun q=>h2 ⟨h0,q⟩)
   ·exact o4h rfl h0
theorem m29l (i n:Int)(a:Bool)(h:Int)(o:Bool): ∀j,j≤s.W.length→ ∀m,j<m→a0b k3p m [.k 0,.n i,.n ((j:Int)-1),.n n,.b a,.n h,.b o,.l TS (strK s.K),.l TOp (strW s.W)]=some (match fnd s.W i j with
  |some b=>(1,[.s (r2b b),.n 0,.n n,.b a,.n h,.b o,.l TS (strK s.K),.l TOp (strW s.W)])
  |none=>(0,[.n i,.n n,.b a,.n h,.b o,.l TS (strK s.K),.l TOp (strW s.W)]))
 |0,_,m,hm=>by
  obtain⟨m,rfl⟩: ∃q,m=q+1:=⟨m-1,by omega⟩
  exact c0a (w3w (by omega))
 |j+1,hj,m,hm=>by
  obtain⟨m,rfl⟩: ∃q,m=q+1:=⟨m-1,by omega⟩
  have e1:(((j+1:Nat):Int)-1)=(j:Int):=by omega
  rw[e1]
  have ew:=q3e s.W (show j<s.W.length by omega)
  have hR:inR (j:Int) (strW s.W).length=true:=s2t (by omega) (by rw[j3f];omega)
  by_cases q:wI (wAt s.W j)=i
  ·have e:fnd s.W i (j+1)=some (wB (wAt s.W j)):=by show(if _ then _ else _)=_;rw[if_pos q]
   rw[e]
   have eS:r2b (wB (wAt s.W j))=oS (oAt (strW s.W) j):=by rw[ew];rfl
   show _=some (1,[Dat.s (r2b (wB (wAt s.W j))),_,_,_,_,_,_,_])
   rw[eS]
   exact c0a (w3f (by omega) hR (by show oI (oAt (strW s.W) j)=i;rw[ew];exact q))
  ·have e:fnd s.W i (j+1)=fnd s.W i j:=by show(if _ then _ else _)=_;rw[if_neg q]
   rw[e]
   refine(v0e (v3x (by omega) hR (by show¬oI (oAt (strW s.W) j)=i;rw[ew];exact q))).trans ?_
   rw[show IntKind.wrap .i64 ((j:Int)-1)=(j:Int)-1 from w64 (by omega) (by omega)]
   exact m29l i n a h o j (by omega) m (by omega)
theorem m29 (i:Int):h3d [.n i,.n s.n,.b s.A,.n s.h,.b s.o,.l TS (strK s.K),.l TOp (strW s.W)]=some (0,[.s (match(k3t s i).1 with|none=>r2b []|some b=>r2b b),.n (k3t s i).2,.n s.n,.b s.A,.n s.h,.b s.o,.l TS (strK s.K),.l TOp (strW s.W)]):=by
 have hkl:((strK s.K).length:Int)=(s.K.length:Int):=by rw[h3j]
 unfold k3t
 cases h1:s.o with
 |true=>rw[if_pos rfl];exact g4i rfl
 |false=>
  rw[if_neg (by decide)]
  by_cases h2:0≤i∧i<(s.K.length:Int)
  ·rw[if_pos h2]
   have hl:=m29l s hw i s.n s.A s.h false s.W.length (Nat.le_refl _) FU (b1w (by omega))
   rw[←w3t]at hl
   have e0:IntKind.wrap .i64 (((strW s.W).length:Int)-1)=(s.W.length:Int)-1:=by rw[j3f];exact w64 (by omega) (by omega)
   rw[←e0]at hl
   cases hf:fnd s.W i s.W.length with
   |none=>
    rw[hf]at hl
    have e:r2b (rB (kAt s.K i.toNat))=tAt (strK s.K) i.toNat:=(m4m s.K (by omega)).symm
    show _=some (0,[Dat.s (r2b (rB (kAt s.K i.toNat))),_,_,_,_,_,_,_])
    rw[e]
    exact k4m rfl (by omega) (by omega) hl (s2t h2.1 (by omega))
   |some b=>rw[hf]at hl;exact h4c rfl (by omega) (by omega) hl
  ·rw[if_neg h2]
   by_cases h0:i<0
   ·exact f4i rfl h0
   ·exact j4v rfl h0 (by omega)
end
def z256:Ty.den TBk:=Ty.dflt TBk
theorem z256_ok:Wb (rB z256)∧(rB z256).length=256:=by
 have e:rB z256=List.replicate 256 (0:Int):=rfl
 rw[e]
 exact⟨fun x hx=>by have:=List.eq_of_mem_replicate hx;omega,List.length_replicate⟩
def sNew (n:Int):DS:=⟨0,false,0,false,List.replicate n.toNat z256,[]⟩
theorem v3p {n:Int}(h:n≤40):DH (sNew n):=
 ⟨⟨fun b hb=>by rw[List.eq_of_mem_replicate hb];exact z256_ok,(fun w hw=>by cases hw),(fun w hw=>by cases hw),(fun q=>by cases q),by show(List.replicate n.toNat z256).length≤4096;rw[List.length_replicate];omega⟩,by show(0:Int)≤_;omega⟩
theorem d8 {n:Int}(h:n≤40):n3c [.n n]=some (0,[.n (sNew n).n,.b (sNew n).A,.n (sNew n).h,.b (sNew n).o,.l TBk (sNew n).K,.l TWr (sNew n).W]):=by
 have e:imin (imax n 0) 4096=((n.toNat:Nat):Int):=by unfold imin imax;split<;>split<;>omega
 have k:(sNew n).K=repC (Int.toNat (imin (imax n 0) 4096)) (Ty.dflt TBk):=by rw[e,l2h];rfl
 rw[k]
 exact v4f (by
  rw[e,dt (show(0:Int)≤((n.toNat:Nat):Int) by omega),dt (Int.le_refl _),dt (show((n.toNat:Nat):Int)*256≤281474976710656 by omega)];rfl)
def zS:Ty.den TS:=r2b (pad [])
theorem q4y (m:Nat):strK (List.replicate m z256)=List.replicate m zS:=by
 unfold strK;rw[List.map_replicate];rfl
theorem m9 {n:Int}(h:n≤40):o3y [.n n]=some (0,[.n (sNew n).n,.b (sNew n).A,.n (sNew n).h,.b (sNew n).o,.l TS (strK (sNew n).K),.l TOp (strW (sNew n).W)]):=by
 refine p4s ?_
 rw[d4a]
 show _=some (0,[Dat.n 0,.b false,.n 0,.b false,.l TS (strK (List.replicate n.toNat z256))])
 rw[q4y]
 refine b0a (st:=o3f) (fun i=>[.k 0,.n n,.n (i:Int),.n 0,.b false,.n 0,.b false,.l TS (List.replicate i zS)]) n.toNat (0,[.n 0,.b false,.n 0,.b false,.l TS (List.replicate n.toNat zS)]) (fun i hi=> ?_) (d4g (by omega) (by omega)) FU (b1w (by omega))
 show _=some (Step.go [.k 0,.n n,.n ((i+1:Nat):Int),.n 0,.b false,.n 0,.b false,.l TS (List.replicate (i+1) zS)])
 rw[←w1n i (by omega),List.replicate_succ']
 exact c4g (by omega) (by omega) (by omega) (m25 (b:=[]) (fun x hx=>by cases hx) (by decide)) (by
  show((List.replicate i zS).length+1)*16≤_
  rw[List.length_replicate];omega)
section
variable (s:DS) (hw:s.W.length≤100000) (hk:s.K.length≤4096)
include hw hk
end
end Go.Proofs.Ytoehlcomhpnjgaa.Vx
end
