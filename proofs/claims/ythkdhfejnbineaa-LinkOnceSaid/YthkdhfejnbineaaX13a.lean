import Derived.Test.YthkdhfejnbineaaZ06j
import Derived.Test.YthkdhfejnbineaaProg
import Derived.KernelRfl
namespace Go.Proofs.Ythkdhfejnbineaa.Vx
open Go Go.RowKit
set_option linter.unusedVariables false
set_option maxRecDepth 100000
set_option maxHeartbeats 0
abbrev TB:Ty:=.int .u8
abbrev TN:Ty:=.int .u32
theorem hmix:Try.prog.follows .mixedOrders=true:=by kernel_rfl
theorem v0d:CsOk Try.prog h0b:=d1h _
def s3y:List Dat→Tree (Nat×List Dat)
 |[.n n0]=>
  (.node (iand IntKind.u32 n0 (1:Int)==(0:Int))
   (.leaf ((0,[.n (ishr IntKind.u32 n0 (1:Int))])))
   (.leaf ((0,[.n (ixor IntKind.u32 (ishr IntKind.u32 n0 (1:Int)) (3988292384:Int))]))))
 |_=>.bad 0
def f2v:List Dat→Option (Nat×List Dat):=fun env=>(s3y env).sel
def B19:FBox:=(mkF [.int .u32 0] [] [] [(.int .u32 0,[])] f2v)
def r1o:FuncId→Option a0q:=a0s 75 B19 h0b
theorem a4e (n0:Int):(boxC false Try.prog h0b 75 ls0 (mkF [.int .u32 0] [] [] [(.int .u32 0,[])] fun _=>none) [.n n0]).sel=(s3y [.n n0]).sel:=by kernel_rfl
theorem z3s (env:List Dat)(y:Nat×List Dat)(h:(s3y env).sel=some y):(boxC false Try.prog h0b 75 ls0 (mkF [.int .u32 0] [] [] [(.int .u32 0,[])] fun _=>none) env).sel=some y:=by
 unfold s3y at h
 split at h
 ·rw[a4e];exact h
 ·cases h
theorem B19_ok:a0v Try.prog 75 (a0j B19):=a0p (op:=f2v) v0d hmix false (LsOk.none _ _ _) z3s
theorem m0z:CsOk Try.prog r1o:=a0g v0d B19_ok
def h3w:List Dat→Tree Step
 |[.n n0,.l (Ty.int IntKind.u8) l1,.n n2,.n n3]=>
  (.node (decide (n3<n2))
   (.node (inR n3 (List.length l1))
   (let r1:Option (Nat×List Dat):=(f2v [.n (ixor IntKind.u32 n0 (IntKind.wrap .u32 (List.getD l1 (Int.toNat n3) (0:Int))))]);
    (.node (isK 0 [HK.n] r1)
    (let r2:Option (Nat×List Dat):=(f2v [.n (gn (dOf r1) 0)]);
     (.node (isK 0 [HK.n] r2)
     (let r3:Option (Nat×List Dat):=(f2v [.n (gn (dOf r2) 0)]);
      (.node (isK 0 [HK.n] r3)
      (let r4:Option (Nat×List Dat):=(f2v [.n (gn (dOf r3) 0)]);
       (.node (isK 0 [HK.n] r4)
       (let r5:Option (Nat×List Dat):=(f2v [.n (gn (dOf r4) 0)]);
        (.node (isK 0 [HK.n] r5)
        (let r6:Option (Nat×List Dat):=(f2v [.n (gn (dOf r5) 0)]);
         (.node (isK 0 [HK.n] r6)
         (let r7:Option (Nat×List Dat):=(f2v [.n (gn (dOf r6) 0)]);
          (.node (isK 0 [HK.n] r7)
          (let r8:Option (Nat×List Dat):=(f2v [.n (gn (dOf r7) 0)]);
           (.node (isK 0 [HK.n] r8)
           (.leaf (Step.go [.n (gn (dOf r8) 0),.l (Ty.int IntKind.u8) l1,.n n2,.n (IntKind.wrap .i64 (n3+(1:Int)))]))
           (.bad 351)))
          (.bad 351)))
         (.bad 351)))
        (.bad 351)))
       (.bad 351)))
      (.bad 351)))
     (.bad 351)))
    (.bad 351)))
   (.bad 10))
   (.leaf (Step.stop 0 [.n n0])))
 |_=>.bad 0
def j3y:List Dat→Option (Nat×List Dat):=a0b h3w FU
def L12_3:LBox:=(mkL 0 [] (sh 20 [(3,.int .u32 0),(6,.imm TB 1),(7,.int .i64 2),(8,.int .i64 3)]) [] [] [(.exit 0,sh 20 [(3,.int .u32 0)],[])] j3y)
theorem q3j (n0:Int)(l1:List (Ty.den (Ty.int IntKind.u8)))(n2:Int)(n3:Int):(v3g false Try.prog r1o 59 3 ls0 (mkL 0 [] (sh 20 [(3,.int .u32 0),(6,.imm TB 1),(7,.int .i64 2),(8,.int .i64 3)]) [] [] [(.exit 0,sh 20 [(3,.int .u32 0)],[])] fun _=>none) [.n n0,.l (Ty.int IntKind.u8) l1,.n n2,.n n3]).sel=(h3w [.n n0,.l (Ty.int IntKind.u8) l1,.n n2,.n n3]).sel:=by kernel_rfl
theorem q3a (env:List Dat)(y:Step)(h:(h3w env).sel=some y):(v3g false Try.prog r1o 59 3 ls0 (mkL 0 [] (sh 20 [(3,.int .u32 0),(6,.imm TB 1),(7,.int .i64 2),(8,.int .i64 3)]) [] [] [(.exit 0,sh 20 [(3,.int .u32 0)],[])] fun _=>none) env).sel=some y:=by
 unfold h3w at h
 split at h
 ·rw[q3j];exact h
 ·cases h
theorem z3n (K:Nat):LsOk Try.prog K (l3x [(3,L12_3)] K) (a0r Try.prog 59):=mkL_ok (st:=h3w) (m:=FU) m0z hmix false (by kernel_rfl) (by kernel_rfl) q3a
def t3d:List Dat→Tree (Nat×List Dat)
 |[.l (Ty.int IntKind.u8) l0]=>
  (let r1:Option (Nat×List Dat):=(j3y [.n (4294967295:Int),.l (Ty.int IntKind.u8) l0,.n (↑(List.length l0):Int),.n (0:Int)]);
   (.node (isK 0 [HK.n] r1)
   (.leaf ((0,[.n (ixor IntKind.u32 (4294967295:Int) (gn (dOf r1) 0))])))
   (.bad 351)))
 |_=>.bad 0
def i1r:List Dat→Option (Nat×List Dat):=fun env=>(t3d env).sel
def B12:FBox:=(mkF [.imm TB 0] [] [] [(.int .u32 0,[])] i1r)
def b2p:FuncId→Option a0q:=a0s 59 B12 r1o
theorem z3d (l0:List (Ty.den (Ty.int IntKind.u8))):(boxC false Try.prog r1o 59 (l3x [(3,L12_3)] (List.length ([]:List PB))) (mkF [.imm TB 0] [] [] [(.int .u32 0,[])] fun _=>none) [.l (Ty.int IntKind.u8) l0]).sel=(t3d [.l (Ty.int IntKind.u8) l0]).sel:=by kernel_rfl
theorem z3x (env:List Dat)(y:Nat×List Dat)(h:(t3d env).sel=some y):(boxC false Try.prog r1o 59 (l3x [(3,L12_3)] (List.length ([]:List PB))) (mkF [.imm TB 0] [] [] [(.int .u32 0,[])] fun _=>none) env).sel=some y:=by
 unfold t3d at h
 split at h
 ·rw[z3d];exact h
 ·cases h
theorem B12_ok:a0v Try.prog 59 (a0j B12):=a0p (op:=i1r) m0z hmix false (z3n _) z3x
theorem t0q:CsOk Try.prog b2p:=a0g m0z B12_ok
def h3u:List Dat→Tree Step
 |[.n n0,.l (Ty.int IntKind.u8) l1,.n n2,.n n3,.n n4,.l (Ty.int IntKind.u32) l5]=>
  (.node (decide (n4<(8:Int)))
   (.node (!decide (n4<(0:Int)))
   (.node (iand IntKind.u8 (ishr IntKind.u8 n3 n4) (1:Int)==(1:Int))
    (.node (inR n4 (List.length l5))
    (.leaf (Step.go [.k 0,.n (ixor IntKind.u32 n0 (List.getD l5 (Int.toNat n4) (0:Int))),.l (Ty.int IntKind.u8) l1,.n n2,.n n3,.n (IntKind.wrap .i64 (n4+(1:Int))),.l (Ty.int IntKind.u32) l5]))
    (.bad 12))
    (.leaf (Step.go [.k 0,.n n0,.l (Ty.int IntKind.u8) l1,.n n2,.n n3,.n (IntKind.wrap .i64 (n4+(1:Int))),.l (Ty.int IntKind.u32) l5])))
   (.bad 83))
   (.leaf (Step.stop 0 [.n n0,.l (Ty.int IntKind.u8) l1,.n n2,.l (Ty.int IntKind.u32) l5])))
 |_=>.bad 0
def i3e:List Dat→Tree Step
 |.k 0::d=>h3u d
 |_=>.bad 0
def k3e:List Dat→Option (Nat×List Dat):=a0b i3e FU
def x3c:MBox:=(mkM 0 [] [(sh 41 [(0,.int .u32 0),(1,.imm TB 1),(5,.own 0),(6,.int .i64 2),(7,.int .u8 3),(8,.int .i64 4)],[.arr TN 5])] [] [(.exit 2,sh 41 [(0,.int .u32 0),(1,.imm TB 1),(5,.own 0),(6,.int .i64 2)],[.arr TN 3])] k3e)
theorem l3y (n0:Int)(l1:List (Ty.den (Ty.int IntKind.u8)))(n2:Int)(n3:Int)(n4:Int)(l5:List (Ty.den (Ty.int IntKind.u32))):((fun(d:List Dat)=>stepMC false Try.prog b2p 72 8 ls0 (mkM 0 [] [(sh 41 [(0,.int .u32 0),(1,.imm TB 1),(5,.own 0),(6,.int .i64 2),(7,.int .u8 3),(8,.int .i64 4)],[.arr TN 5])] [] [(.exit 2,sh 41 [(0,.int .u32 0),(1,.imm TB 1),(5,.own 0),(6,.int .i64 2)],[.arr TN 3])] fun _=>none) (.k 0::d)) [.n n0,.l (Ty.int IntKind.u8) l1,.n n2,.n n3,.n n4,.l (Ty.int IntKind.u32) l5]).sel=(h3u [.n n0,.l (Ty.int IntKind.u8) l1,.n n2,.n n3,.n n4,.l (Ty.int IntKind.u32) l5]).sel:=by kernel_rfl
theorem l3w (env:List Dat)(y:Step)(h:(h3u env).sel=some y):((fun(d:List Dat)=>stepMC false Try.prog b2p 72 8 ls0 (mkM 0 [] [(sh 41 [(0,.int .u32 0),(1,.imm TB 1),(5,.own 0),(6,.int .i64 2),(7,.int .u8 3),(8,.int .i64 4)],[.arr TN 5])] [] [(.exit 2,sh 41 [(0,.int .u32 0),(1,.imm TB 1),(5,.own 0),(6,.int .i64 2)],[.arr TN 3])] fun _=>none) (.k 0::d)) env).sel=some y:=by
 unfold h3u at h
 split at h
 ·rw[l3y];exact h
 ·cases h
theorem p3k (env:List Dat)(y:Step)(h:(i3e env).sel=some y):(stepMC false Try.prog b2p 72 8 ls0 (mkM 0 [] [(sh 41 [(0,.int .u32 0),(1,.imm TB 1),(5,.own 0),(6,.int .i64 2),(7,.int .u8 3),(8,.int .i64 4)],[.arr TN 5])] [] [(.exit 2,sh 41 [(0,.int .u32 0),(1,.imm TB 1),(5,.own 0),(6,.int .i64 2)],[.arr TN 3])] fun _=>none) env).sel=some y:=by
 unfold i3e at h
 split at h
 ·exact l3w _ _ h
 ·cases h
theorem x3j: ∀t s x,(a0h x3c t s).sel=some x→a0k Try.prog 0 (.loop (cAt Try.prog 72 8)) t s x:=a0o (st:=i3e) (m:=FU) t0q hmix false (LsOk.none _ _ _) (by kernel_rfl) p3k
def h3t:List Dat→Tree Step
 |[.n n0,.l (Ty.int IntKind.u8) l1,.n n2,.l (Ty.int IntKind.u32) l3]=>
  (.node (decide (n2<(↑(List.length l1):Int)))
   (.node (inR n2 (List.length l1))
   (let r1:Option (Nat×List Dat):=(k3e [.k 0,.n (ishr IntKind.u32 n0 (8:Int)),.l (Ty.int IntKind.u8) l1,.n n2,.n (ixor IntKind.u8 (IntKind.wrap .u8 n0) (List.getD l1 (Int.toNat n2) (0:Int))),.n (0:Int),.l (Ty.int IntKind.u32) l3]);
    (.node (isK 0 [HK.n,HK.l (Ty.int IntKind.u8),HK.n,HK.l (Ty.int IntKind.u32)] r1)
    (.leaf (Step.go [.k 0,.n (gn (dOf r1) 0),.l (Ty.int IntKind.u8) (gl (Ty.int IntKind.u8) (dOf r1) 1),.n (IntKind.wrap .i64 (gn (dOf r1) 2+(1:Int))),.l (Ty.int IntKind.u32) (gl (Ty.int IntKind.u32) (dOf r1) 3)]))
    (.bad 351)))
   (.bad 10))
   (.leaf (Step.stop 0 [.n n0])))
 |_=>.bad 0
def i3f:List Dat→Tree Step
 |.k 0::d=>h3t d
 |_=>.bad 0
def m3d:List Dat→Option (Nat×List Dat):=a0b i3f FU
def z3l:MBox:=(mkM 0 [] [(sh 41 [(0,.int .u32 0),(1,.imm TB 1),(5,.own 0),(6,.int .i64 2)],[.arr TN 3])] [] [(.exit 0,sh 41 [(0,.int .u32 0)],[])] m3d)
theorem m3a (n0:Int)(l1:List (Ty.den (Ty.int IntKind.u8)))(n2:Int)(l3:List (Ty.den (Ty.int IntKind.u32))):((fun(d:List Dat)=>stepMC false Try.prog b2p 72 3 (lsM [(8,x3c)] 0) (mkM 0 [] [(sh 41 [(0,.int .u32 0),(1,.imm TB 1),(5,.own 0),(6,.int .i64 2)],[.arr TN 3])] [] [(.exit 0,sh 41 [(0,.int .u32 0)],[])] fun _=>none) (.k 0::d)) [.n n0,.l (Ty.int IntKind.u8) l1,.n n2,.l (Ty.int IntKind.u32) l3]).sel=(h3t [.n n0,.l (Ty.int IntKind.u8) l1,.n n2,.l (Ty.int IntKind.u32) l3]).sel:=by kernel_rfl
theorem l3z (env:List Dat)(y:Step)(h:(h3t env).sel=some y):((fun(d:List Dat)=>stepMC false Try.prog b2p 72 3 (lsM [(8,x3c)] 0) (mkM 0 [] [(sh 41 [(0,.int .u32 0),(1,.imm TB 1),(5,.own 0),(6,.int .i64 2)],[.arr TN 3])] [] [(.exit 0,sh 41 [(0,.int .u32 0)],[])] fun _=>none) (.k 0::d)) env).sel=some y:=by
 unfold h3t at h
 split at h
 ·rw[m3a];exact h
 ·cases h
theorem q3m (env:List Dat)(y:Step)(h:(i3f env).sel=some y):(stepMC false Try.prog b2p 72 3 (lsM [(8,x3c)] 0) (mkM 0 [] [(sh 41 [(0,.int .u32 0),(1,.imm TB 1),(5,.own 0),(6,.int .i64 2)],[.arr TN 3])] [] [(.exit 0,sh 41 [(0,.int .u32 0)],[])] fun _=>none) env).sel=some y:=by
 unfold i3f at h
 split at h
 ·exact l3z _ _ h
 ·cases h
theorem z3t:LsOk Try.prog 0 (lsM [(8,x3c)] 0) (cAt Try.prog 72 3):=LsOk.many fun j B hB hk c hc hi=>by
 simp only[b0d]at hB
 split at hB
 ·rename_i e;have:=Nat.eq_of_beq_eq_true e;subst this;cases hB
  have e1:v0m (cAt Try.prog 72 3) 8=[cAt Try.prog 72 8]:=by kernel_rfl
  have e2:=a0d hc hi
  rw[e1]at e2;cases List.mem_singleton.1 e2;exact x3j
 cases hB
theorem w3w: ∀t s x,(a0h z3l t s).sel=some x→a0k Try.prog 0 (.loop (cAt Try.prog 72 3)) t s x:=a0o (st:=i3f) (m:=FU) t0q hmix false (z3t) (by kernel_rfl) q3m
theorem z3f:LsOk Try.prog (List.length ([]:List PB)) (lsM [(3,z3l)] (List.length ([]:List PB))) (a0r Try.prog 72):=LsOk.many fun j B hB hk c hc hi=>by
 simp only[b0d]at hB
 split at hB
 ·rename_i e;have:=Nat.eq_of_beq_eq_true e;subst this;cases hB
  have e1:p0c Try.prog 72 3=[cAt Try.prog 72 3]:=a0e (by kernel_rfl)
  have e2:c∈p0c Try.prog 72 3:=a0d hc hi
  rw[e1]at e2;cases List.mem_singleton.1 e2;exact w3w
 cases hB
def w3k:List Dat→Tree (Nat×List Dat)
 |[.n n0,.l (Ty.int IntKind.u8) l1]=>
  (let r1:Option (Nat×List Dat):=(m3d [.k 0,.n n0,.l (Ty.int IntKind.u8) l1,.n (0:Int),.l (Ty.int IntKind.u32) [(1996959894:Int),(3993919788:Int),(124634137:Int),(249268274:Int),(498536548:Int),(997073096:Int),(1994146192:Int),(3988292384:Int)]]);
   (.node (isK 0 [HK.n] r1)
   (.leaf ((0,[.n (gn (dOf r1) 0)])))
   (.bad 351)))
 |_=>.bad 0
def u3k:List Dat→Option (Nat×List Dat):=fun env=>(w3k env).sel
def B20:FBox:=(mkF [.int .u32 0,.imm TB 1] [] [] [(.int .u32 0,[])] u3k)
def a4i:FuncId→Option a0q:=a0s 72 B20 b2p
theorem z3v (n0:Int)(l1:List (Ty.den (Ty.int IntKind.u8))):(boxC false Try.prog b2p 72 (lsM [(3,z3l)] (List.length ([]:List PB))) (mkF [.int .u32 0,.imm TB 1] [] [] [(.int .u32 0,[])] fun _=>none) [.n n0,.l (Ty.int IntKind.u8) l1]).sel=(w3k [.n n0,.l (Ty.int IntKind.u8) l1]).sel:=by kernel_rfl
theorem a4f (env:List Dat)(y:Nat×List Dat)(h:(w3k env).sel=some y):(boxC false Try.prog b2p 72 (lsM [(3,z3l)] (List.length ([]:List PB))) (mkF [.int .u32 0,.imm TB 1] [] [] [(.int .u32 0,[])] fun _=>none) env).sel=some y:=by
 unfold w3k at h
 split at h
 ·rw[z3v];exact h
 ·cases h
theorem B20_ok:a0v Try.prog 72 (a0j B20):=a0p (op:=u3k) t0q hmix false (z3f) a4f
theorem s3b:CsOk Try.prog a4i:=a0g t0q B20_ok
def t3l:List Dat→Tree (Nat×List Dat)
 |[.l (Ty.int IntKind.u8) l0]=>
  (let r1:Option (Nat×List Dat):=(u3k [.n (4294967295:Int),.l (Ty.int IntKind.u8) l0]);
   (.node (isK 0 [HK.n] r1)
   (.leaf ((0,[.n (ixor IntKind.u32 (4294967295:Int) (gn (dOf r1) 0))])))
   (.bad 351)))
 |_=>.bad 0
def q3i:List Dat→Option (Nat×List Dat):=fun env=>(t3l env).sel
def B13:FBox:=(mkF [.imm TB 0] [] [] [(.int .u32 0,[])] q3i)
def cs_13:FuncId→Option a0q:=a0s 55 B13 a4i
theorem y3v (l0:List (Ty.den (Ty.int IntKind.u8))):(boxC false Try.prog a4i 55 ls0 (mkF [.imm TB 0] [] [] [(.int .u32 0,[])] fun _=>none) [.l (Ty.int IntKind.u8) l0]).sel=(t3l [.l (Ty.int IntKind.u8) l0]).sel:=by kernel_rfl
theorem z3z (env:List Dat)(y:Nat×List Dat)(h:(t3l env).sel=some y):(boxC false Try.prog a4i 55 ls0 (mkF [.imm TB 0] [] [] [(.int .u32 0,[])] fun _=>none) env).sel=some y:=by
 unfold t3l at h
 split at h
 ·rw[y3v];exact h
 ·cases h
theorem B13_ok:a0v Try.prog 55 (a0j B13):=a0p (op:=q3i) s3b hmix false (LsOk.none _ _ _) z3z
theorem y3t:CsOk Try.prog cs_13:=a0g s3b B13_ok
def l3m (l:List (Ty.den TB)):Bool:=decide ((0+l.length)*1≤140737488355328)
def i2m:List Dat→Option (Nat×List Dat):=q3f TB l3m
def B31:FBox:=mkF [.imm TB 0] [] [] [(.own 0,[.arr TB 0])] i2m
def cs_31:FuncId→Option a0q:=a0s 31 B31 cs_13
theorem B31_ok:a0v Try.prog 31 (a0j B31):=
 y3z (P:=Try.prog) (cl:=clMd true Try.prog h0b) (c1t v0d hmix true) hmix (T:=31) (e:=5) (n:=400) (fn:=Try.f31) (by kernel_rfl) (by kernel_rfl) (by kernel_rfl) (by kernel_rfl) TB l3m
  (fun l=>[.imm TB l,.undef,.nilsl,.undef,.undef,.undef,.undef,.undef]) (fun l=>[.imm TB l,.undef,.nilsl,.imm TB l,.bool true,.undef,.undef,.undef])
  (fun l=>[.imm TB l,.undef,.own 0 1,.imm TB l,.bool false,.own 0 0,.imm TB l,.own 0 1]) (fun l=>⟨[.arr TB 1 l],[0]⟩) (fun l=>.own 0 1)
  (fun l=>by kernel_rfl) (fun l=>rfl) (fun l=>rfl) (fun l=>by kernel_rfl) (fun l=>by kernel_rfl) (fun l=>by kernel_rfl) (fun l=>by kernel_rfl) (fun l=>by kernel_rfl) (fun l=>by kernel_rfl) (by kernel_rfl)
theorem m0w:CsOk Try.prog cs_31:=a0g y3t B31_ok
theorem b4q (l:List (Ty.den TB))(h:l.length*1≤140737488355328):i2m [.l TB l]=some (0,[.l TB l]):=by
 unfold i2m q3f
 simp only[d0b]
 have:l3m l=true:=decide_eq_true (by omega)
 rw[this];rfl
def op_9:List Dat→Option (Nat×List Dat):=fun _=>some (0,[.b true])
def B9:FBox:=(mkF [] [] [] [(.bool 0,[])] op_9)
def cs_9:FuncId→Option a0q:=e1c 8 [B9] cs_31
theorem fn_9_ok (env:List Dat)(y:Nat×List Dat)(h:op_9 env=some y):(boxC true Try.prog cs_31 8 ls0 (mkF [] [] [] [(.bool 0,[])] fun _=>none) env).sel=some y:=by
 cases h
 kernel_rfl
theorem B9_ok:a0v Try.prog 8 (a0j B9):=a0p (op:=op_9) m0w hmix true (LsOk.none _ _ _) fn_9_ok
theorem cs_9_ok:CsOk Try.prog cs_9:=h0a m0w fun B hB=>by
 cases List.mem_singleton.1 hB
 exact B9_ok
end Go.Proofs.Ythkdhfejnbineaa.Vx
