import Derived.Test.YtlambinleegdoaaVxIm
import Derived.Test.YtlambinleegdoaaVxLk
import Derived.Test.YtlambinleegdoaaVxLaw
import Derived.Test.YtlambinleegdoaaZ13b
import Derived.KernelRfl
noncomputable section
namespace Go.Proofs.Ytlambinleegdoaa.Vx
open Go Go.RowKit
set_option linter.unusedVariables false
set_option linter.unusedSimpArgs false
set_option maxRecDepth 100000
set_option maxHeartbeats 0
def apC (l:List (Ty.den TC))(x y:Int):List (Ty.den TC):=List.append l [(x,y)]
def rdB (h:Nat):PB:=.cells [.imm TB h,.bool (h+1)]
def inO (h:Nat)(v:PV):PV:=.agg [.int .u8 h,.int .i64 (h+1),.int .u64 (h+2),.int .u32 (h+3),.int .u32 (h+4),v]
def inC (h:Nat)(v:PV):PB:=.cells [.int .u8 h,.int .i64 (h+1),.int .u64 (h+2),.int .u32 (h+3),.int .u32 (h+4),v]
def liO (h:Nat)(v:PV):PV:=.agg [.int .u8 h,.int .u8 (h+1),.int .i64 (h+2),.int .i64 (h+3),v]
def j3y (env:List Dat):Tree Step:=Lk.stepMC false LK n3w 81 3 ls0 (mkM 0 [] [(sh 20 [(0,.imm TB 0),(3,.int .u64 1),(4,.int .i64 2)],[])] [] [(.exit 0,sh 20 [(3,.int .u64 0)],[])] fun _=>none) env
theorem n3k:ExL j3y:=exL _
def l3y:=Classical.choose n3k
theorem n3p (env:List Dat):l3y env=a0b j3y FU env:=Classical.choose_spec n3k env
def c4y:MBox:=mkM 0 [] [(sh 20 [(0,.imm TB 0),(3,.int .u64 1),(4,.int .i64 2)],[])] [] [(.exit 0,sh 20 [(3,.int .u64 0)],[])] l3y
theorem f4b:c4y=mkM 0 [] [(sh 20 [(0,.imm TB 0),(3,.int .u64 1),(4,.int .i64 2)],[])] [] [(.exit 0,sh 20 [(3,.int .u64 0)],[])] (a0b j3y FU):=congrArg (fun f=>mkM 0 [] [(sh 20 [(0,.imm TB 0),(3,.int .u64 1),(4,.int .i64 2)],[])] [] [(.exit 0,sh 20 [(3,.int .u64 0)],[])] f) (funext n3p)
theorem e4w: ∀t s x,(a0h c4y t s).sel=some x→a0k Try.prog 0 (.loop (cAt Try.prog 81 3)) t s x:=by
 rw[f4b]
 exact a0o (st:=j3y) (m:=FU) j3f hmix false (LsOk.none _ _ _) (by kernel_rfl) (fun env y h=>by rw[←stepMC_lk];exact h)
def l3o:List Dat→Tree Step
 |[.l (Ty.int IntKind.u8) l0,.n n1,.n n2]=>
 (.node (decide (n2<(↑(List.length l0):Int)))
 (.node (inR n2 (List.length l0))
 (.leaf (Step.go [.k 0,.l TB l0,.n (ior IntKind.u64 (ishl IntKind.u64 n1 (8:Int)) (IntKind.wrap .u64 (List.getD l0 (Int.toNat n2) (0:Int)))),.n (IntKind.wrap .i64 (n2+(1:Int)))]))
 (.bad 10))
 (.leaf (Step.stop 0 [.n n1])))
 |_=>.bad 0
theorem k3n (l0:List (Ty.den TB))(n1:Int)(n2:Int):Imp (l3o [.l TB l0,.n n1,.n n2]) (j3y [.k 0,.l TB l0,.n n1,.n n2]):=
(.pa [1]
(.nd (fun h0=>
(.pa [1]
(.nd (fun h1=>
(.pa [1]
.lf)) (fun h1=>
.none)))) (fun h0=>
(.pa [1]
.lf))))
theorem k4p:LsOk Try.prog (List.length ([]:List PB)) (lsM [(3,c4y)] (List.length ([]:List PB))) (a0r Try.prog 81):=LsOk.many fun j B hB hk c hc hi=>by
 simp only[b0d]at hB
 split at hB
 ·rename_i e;have:=Nat.eq_of_beq_eq_true e;subst this;cases hB
  have e1:p0c Try.prog 81 3=[cAt Try.prog 81 3]:=a0e (by kernel_rfl)
  have e2:c∈p0c Try.prog 81 3:=a0d hc hi
  rw[e1]at e2;cases List.mem_singleton.1 e2;exact e4w
 cases hB
def h4i (env:List Dat):Tree (Nat×List Dat):=Lk.boxC false LK n3w 81 (lsM [(3,c4y)] (List.length ([]:List PB))) (mkF [.imm TB 0] [] [] [(.int .u64 0,[])] fun _=>none) env
theorem v3c:ExB h4i:=exB _
def u3r:=Classical.choose v3c
theorem u3l (env:List Dat):u3r env=(h4i env).sel:=Classical.choose_spec v3c env
def B17r:FBox:=mkF [.imm TB 0] [] [] [(.int .u64 0,[])] u3r
theorem B17r_ok:a0v Try.prog 81 (a0j B17r):=a0p (op:=u3r) j3f hmix false (k4p) (fun env x h=>by rw[u3l]at h;rw[←boxC_lk];exact h)
def c4d:List Dat→Tree (Nat×List Dat)
 |[.l (Ty.int IntKind.u8) l0]=>
 (let r1:=(l3y [.k 0,.l TB l0,.n (0:Int),.n (0:Int)]);
 (.node (isK 0 [.n] r1)
 (.leaf ((0,[.n (gn (dOf r1) 0)])))
 (.bad 351)))
 |_=>.bad 0
theorem a4b (l0:List (Ty.den TB)):Imp (c4d [.l TB l0]) (h4i [.l TB l0]):=
(.nd (fun h0=>
(.pa [1]
.lf)) (fun h0=>
.none))
def i4p:FuncId→Option a0q:=a0s 81 B17r n3w
theorem t3a:CsOk Try.prog i4p:=a0g j3f B17r_ok
def k4o (env:List Dat):Tree (Nat×List Dat):=Lk.boxCV [(some 0,0,.imm TB)] false LK i4p 95 ls0 (mkF [.ptr 0 0,.int .i64 0] [rdB 1] [0] [(.imm TB 0,[rdB 1]),(.nilsl,[rdB 0])] fun _=>none) env
theorem x3o:ExB k4o:=exB _
def h3d:=Classical.choose x3o
theorem p3w (env:List Dat):h3d env=(k4o env).sel:=Classical.choose_spec x3o env
def B33r:FBox:=mkF [.ptr 0 0,.int .i64 0] [rdB 1] [0] [(.imm TB 0,[rdB 1]),(.nilsl,[rdB 0])] h3d
theorem B33r_ok:a0v Try.prog 95 (a0j B33r):=i4e (cv:=[(some 0,0,.imm TB)]) (op:=h3d) t3a hmix false (LsOk.none _ _ _) (fun env x h=>by rw[p3w]at h;rw[←boxCV_lk];exact h)
def s3y:List Dat→Tree (Nat×List Dat)
 |[.n n0,.l (Ty.int IntKind.u8) l1,.b b2]=>
 (.node (b2)
 (.leaf ((1,[.l TB [],.b true])))
 (.node (decide (n0<(0:Int)))
 (.leaf ((1,[.l TB [],.b true])))
 (.node (decide (n0>(↑(List.length l1):Int)))
 (.leaf ((1,[.l TB [],.b true])))
 (.node (true&&decide ((0:Int)≤n0))
 (.leaf ((0,[.l TB (List.take (Int.toNat n0) l1),.l TB (List.drop (Int.toNat n0) l1),.b b2])))
 (.bad 39)))))
 |_=>.bad 0
theorem q3q (n0:Int)(l1:List (Ty.den TB))(b2:Bool):Imp (s3y [.n n0,.l TB l1,.b b2]) (k4o [.n n0,.l TB l1,.b b2]):=
(.pa [0]
(.nd (fun h0=>
(.pa [1,1,1,1,1]
.lf)) (fun h0=>
(.nd (fun h1=>
(.pa [1,1,1]
.lf)) (fun h1=>
(.nd (fun h2=>
(.pa [1]
.lf)) (fun h2=>
(.sT ((decide (n0=n0)))
(.pt (c:=(decide ((0:Int)≤n0)&&decide (n0≤(↑(List.length l1):Int)))) (by kernel_rfl) (by kernel_rfl) (by(simp only[w64d,decide_eq_true_eq,decide_eq_false_iff_not,beq_iff_eq,beq_eq_false_iff_ne,bne_iff_ne,ne_eq,inR,Bool.and_eq_true,Bool.and_eq_false_iff,Bool.not_eq_true',Bool.not_eq_false',Bool.not_eq_eq_eq_not,Bool.not_true,Bool.not_false]at*;omega))
(.nd (fun h3=>
(.sT ((true&&decide ((↑(List.length l1):Int)≤(↑(List.length l1):Int))))
(.pt (c:=(decide ((0:Int)≤n0)&&decide (n0≤(↑(List.length l1):Int)))) (by kernel_rfl) (by kernel_rfl) (by(simp only[w64d,decide_eq_true_eq,decide_eq_false_iff_not,beq_iff_eq,beq_eq_false_iff_ne,bne_iff_ne,ne_eq,inR,Bool.and_eq_true,Bool.and_eq_false_iff,Bool.not_eq_true',Bool.not_eq_false',Bool.not_eq_eq_eq_not,Bool.not_true,Bool.not_false]at*;omega))
(.pa [1]
.lf)))) (fun h3=>
.none)))))))))))
def c4m:FuncId→Option a0q:=e1c 95 [B33r] i4p
theorem o3q:CsOk Try.prog c4m:=h0a t3a fun B hB=>by
 cases List.mem_singleton.1 hB
 exact B33r_ok
def j3r (env:List Dat):Tree Step:=Lk.stepMC false LK c4m 93 3 ls0 (mkM 1 [] [(sh 40 [(0,.ptr 0 0),(1,.int .i64 0),(5,.int .u64 1),(10,.imm TB 2),(11,.int .i64 3),(12,.int .i64 4)],[rdB 5]),(sh 40 [(0,.ptr 0 0),(1,.int .i64 0),(5,.int .u64 1),(10,.nilsl),(11,.int .i64 2),(12,.int .i64 3)],[rdB 4])] [] [(.exit 0,sh 40 [(0,.ptr 0 0),(1,.int .i64 0),(5,.int .u64 1)],[rdB 2])] fun _=>none) env
theorem n3j:ExL j3r:=exL _
def h3q:=Classical.choose n3j
theorem k3i (env:List Dat):h3q env=a0b j3r FU env:=Classical.choose_spec n3j env
def d4o:MBox:=mkM 1 [] [(sh 40 [(0,.ptr 0 0),(1,.int .i64 0),(5,.int .u64 1),(10,.imm TB 2),(11,.int .i64 3),(12,.int .i64 4)],[rdB 5]),(sh 40 [(0,.ptr 0 0),(1,.int .i64 0),(5,.int .u64 1),(10,.nilsl),(11,.int .i64 2),(12,.int .i64 3)],[rdB 4])] [] [(.exit 0,sh 40 [(0,.ptr 0 0),(1,.int .i64 0),(5,.int .u64 1)],[rdB 2])] h3q
theorem e4i:d4o=mkM 1 [] [(sh 40 [(0,.ptr 0 0),(1,.int .i64 0),(5,.int .u64 1),(10,.imm TB 2),(11,.int .i64 3),(12,.int .i64 4)],[rdB 5]),(sh 40 [(0,.ptr 0 0),(1,.int .i64 0),(5,.int .u64 1),(10,.nilsl),(11,.int .i64 2),(12,.int .i64 3)],[rdB 4])] [] [(.exit 0,sh 40 [(0,.ptr 0 0),(1,.int .i64 0),(5,.int .u64 1)],[rdB 2])] (a0b j3r FU):=congrArg (fun f=>mkM 1 [] [(sh 40 [(0,.ptr 0 0),(1,.int .i64 0),(5,.int .u64 1),(10,.imm TB 2),(11,.int .i64 3),(12,.int .i64 4)],[rdB 5]),(sh 40 [(0,.ptr 0 0),(1,.int .i64 0),(5,.int .u64 1),(10,.nilsl),(11,.int .i64 2),(12,.int .i64 3)],[rdB 4])] [] [(.exit 0,sh 40 [(0,.ptr 0 0),(1,.int .i64 0),(5,.int .u64 1)],[rdB 2])] f) (funext k3i)
theorem f4s: ∀t s x,(a0h d4o t s).sel=some x→a0k Try.prog 1 (.loop (cAt Try.prog 93 3)) t s x:=by
 rw[e4i]
 exact a0o (st:=j3r) (m:=FU) o3q hmix false (LsOk.none _ _ _) (by kernel_rfl) (fun env y h=>by rw[←stepMC_lk];exact h)
def l3f:List Dat→Tree Step
 |[.n n0,.n n1,.l (Ty.int IntKind.u8) l2,.n n3,.n n4,.l (Ty.int IntKind.u8) l5,.b b6]=>
 (.node (decide (n4<n3))
 (.node (inR n4 (List.length l2))
 (.leaf (Step.go [.k 0,.n n0,.n (ior IntKind.u64 (ishl IntKind.u64 n1 (8:Int)) (IntKind.wrap .u64 (List.getD l2 (Int.toNat n4) (0:Int)))),.l TB l2,.n n3,.n (IntKind.wrap .i64 (n4+(1:Int))),.l TB l5,.b b6]))
 (.bad 10))
 (.leaf (Step.stop 0 [.n n0,.n n1,.l TB l5,.b b6])))
 |_=>.bad 0
theorem l3a (n0:Int)(n1:Int)(l2:List (Ty.den TB))(n3:Int)(n4:Int)(l5:List (Ty.den TB))(b6:Bool):Imp (l3f [.n n0,.n n1,.l TB l2,.n n3,.n n4,.l TB l5,.b b6]) (j3r [.k 0,.n n0,.n n1,.l TB l2,.n n3,.n n4,.l TB l5,.b b6]):=
(.pa [1]
(.nd (fun h0=>
(.nd (fun h1=>
(.pa [1,1]
.lf)) (fun h1=>
.none))) (fun h0=>
(.pa [1]
.lf))))
def b4m:List Dat→Tree Step
 |[.n n0,.n n1,.n n2,.n n3,.l (Ty.int IntKind.u8) l4,.b b5]=>
 (.leaf (Step.stop 0 [.n n0,.n n1,.l TB l4,.b b5]))
 |_=>.bad 0
theorem q3v (n0:Int)(n1:Int)(n2:Int)(n3:Int)(l4:List (Ty.den TB))(b5:Bool)(g0:n2=0)(g1:n3=0):Imp (b4m [.n n0,.n n1,.n n2,.n n3,.l TB l4,.b b5]) (j3r [.k 1,.n n0,.n n1,.n n2,.n n3,.l TB l4,.b b5]):=
(.pa [1]
(.sF ((decide (n3<n2)))
(.pa [1]
.lf)))
theorem g4q:LsOk Try.prog (List.length ([rdB 1]:List PB)) (lsM [(3,d4o)] (List.length ([rdB 1]:List PB))) (a0r Try.prog 93):=LsOk.many fun j B hB hk c hc hi=>by
 simp only[b0d]at hB
 split at hB
 ·rename_i e;have:=Nat.eq_of_beq_eq_true e;subst this;cases hB
  have e1:p0c Try.prog 93 3=[cAt Try.prog 93 3]:=a0e (by kernel_rfl)
  have e2:c∈p0c Try.prog 93 3:=a0d hc hi
  rw[e1]at e2;cases List.mem_singleton.1 e2;exact f4s
 cases hB
def j4g (env:List Dat):Tree (Nat×List Dat):=Lk.boxC false LK c4m 93 (lsM [(3,d4o)] (List.length ([rdB 1]:List PB))) (mkF [.ptr 0 0,.int .i64 0] [rdB 1] [0] [(.iface 5 (.int .u8 0),[rdB 1]),(.iface 93 (.int .u16 0),[rdB 1]),(.iface 23 (.int .u32 0),[rdB 1]),(.iface 22 (.int .u64 0),[rdB 1])] fun _=>none) env
theorem u3s:ExB j4g:=exB _
def i3g:=Classical.choose u3s
theorem i3h (env:List Dat):i3g env=(j4g env).sel:=Classical.choose_spec u3s env
def B34r:FBox:=mkF [.ptr 0 0,.int .i64 0] [rdB 1] [0] [(.iface 5 (.int .u8 0),[rdB 1]),(.iface 93 (.int .u16 0),[rdB 1]),(.iface 23 (.int .u32 0),[rdB 1]),(.iface 22 (.int .u64 0),[rdB 1])] i3g
theorem B34r_ok:a0v Try.prog 93 (a0j B34r):=a0p (op:=i3g) o3q hmix false (g4q) (fun env x h=>by rw[i3h]at h;rw[←boxC_lk];exact h)
def i3y:List Dat→Tree (Nat×List Dat)
 |[.n n0,.l (Ty.int IntKind.u8) l1,.b b2]=>
 (let r1:=(h3d [.n n0,.l TB l1,.b b2]);
 (.node (isK 0 [.l TB,.l TB,.b] r1)
 (let r2:=(h3q [.k 0,.n n0,.n (0:Int),.l TB (gl TB (dOf r1) 0),.n (↑(List.length (gl TB (dOf r1) 0)):Int),.n (0:Int),.l TB (gl TB (dOf r1) 1),.b (gb (dOf r1) 2)]);
 (.node (isK 0 [.n,.n,.l TB,.b] r2)
 (.node (gn (dOf r2) 0==(1:Int))
 (.leaf ((0,[.n (IntKind.wrap .u8 (gn (dOf r2) 1)),.l TB (gl TB (dOf r2) 2),.b (gb (dOf r2) 3)])))
 (.node (gn (dOf r2) 0==(2:Int))
 (.leaf ((1,[.n (IntKind.wrap .u16 (gn (dOf r2) 1)),.l TB (gl TB (dOf r2) 2),.b (gb (dOf r2) 3)])))
 (.node (gn (dOf r2) 0==(4:Int))
 (.leaf ((2,[.n (IntKind.wrap .u32 (gn (dOf r2) 1)),.l TB (gl TB (dOf r2) 2),.b (gb (dOf r2) 3)])))
 (.leaf ((3,[.n (gn (dOf r2) 1),.l TB (gl TB (dOf r2) 2),.b (gb (dOf r2) 3)]))))))
 (.bad 351)))
 (.node (isK 1 [.l TB,.b] r1)
 (let r2:=(h3q [.k 1,.n n0,.n (0:Int),.n (0:Int),.n (0:Int),.l TB (gl TB (dOf r1) 0),.b (gb (dOf r1) 1)]);
 (.node (isK 0 [.n,.n,.l TB,.b] r2)
 (.node (gn (dOf r2) 0==(1:Int))
 (.leaf ((0,[.n (IntKind.wrap .u8 (gn (dOf r2) 1)),.l TB (gl TB (dOf r2) 2),.b (gb (dOf r2) 3)])))
 (.node (gn (dOf r2) 0==(2:Int))
 (.leaf ((1,[.n (IntKind.wrap .u16 (gn (dOf r2) 1)),.l TB (gl TB (dOf r2) 2),.b (gb (dOf r2) 3)])))
 (.node (gn (dOf r2) 0==(4:Int))
 (.leaf ((2,[.n (IntKind.wrap .u32 (gn (dOf r2) 1)),.l TB (gl TB (dOf r2) 2),.b (gb (dOf r2) 3)])))
 (.leaf ((3,[.n (gn (dOf r2) 1),.l TB (gl TB (dOf r2) 2),.b (gb (dOf r2) 3)]))))))
 (.bad 351)))
 (.bad 351))))
 |_=>.bad 0
theorem h3y (n0:Int)(l1:List (Ty.den TB))(b2:Bool):Imp (i3y [.n n0,.l TB l1,.b b2]) (j4g [.n n0,.l TB l1,.b b2]):=
(.pa [1]
(.nd (fun h0=>
(.pa [1]
(.nd (fun h1=>
(.nd (fun h2=>
(.pa [1]
.lf)) (fun h2=>
(.nd (fun h3=>
(.pa [1]
.lf)) (fun h3=>
(.nd (fun h4=>
(.pa [1]
.lf)) (fun h4=>
(.pa [1]
.lf)))))))) (fun h1=>
.none)))) (fun h0=>
(.nd (fun h1=>
(.pa [1]
(.nd (fun h2=>
(.nd (fun h3=>
(.pa [1]
.lf)) (fun h3=>
(.nd (fun h4=>
(.pa [1]
.lf)) (fun h4=>
(.nd (fun h5=>
(.pa [1]
.lf)) (fun h5=>
(.pa [1]
.lf)))))))) (fun h2=>
.none)))) (fun h1=>
.none)))))
def l4e:FuncId→Option a0q:=e1c 93 [B34r] c4m
theorem u3p:CsOk Try.prog l4e:=h0a o3q fun B hB=>by
 cases List.mem_singleton.1 hB
 exact B34r_ok
def i4z (env:List Dat):Tree (Nat×List Dat):=Lk.boxCV [(none,0,.imm TB)] false LK l4e 92 ls0 (mkF [.imm TB 0] [] [] [(.ptr 0 0,[rdB 0])] fun _=>none) env
theorem x3t:ExB i4z:=exB _
def o3s:=Classical.choose x3t
theorem t3w (env:List Dat):o3s env=(i4z env).sel:=Classical.choose_spec x3t env
def B13r:FBox:=mkF [.imm TB 0] [] [] [(.ptr 0 0,[rdB 0])] o3s
theorem B13r_ok:a0v Try.prog 92 (a0j B13r):=i4e (cv:=[(none,0,.imm TB)]) (op:=o3s) u3p hmix false (LsOk.none _ _ _) (fun env x h=>by rw[t3w]at h;rw[←boxCV_lk];exact h)
def c4n:List Dat→Tree (Nat×List Dat)
 |[.l (Ty.int IntKind.u8) l0]=>
 (let r1:=(i2m [.l TB l0]);
 (.node (isK 0 [.l TB] r1)
 (.leaf ((0,[.l TB (gl TB (dOf r1) 0),.b false])))
 (.bad 351)))
 |_=>.bad 0
theorem y3q (l0:List (Ty.den TB)):Imp (c4n [.l TB l0]) (i4z [.l TB l0]):=
(.nd (fun h0=>
(.pa [1,1]
.lf)) (fun h0=>
.none))
def m4n:FuncId→Option a0q:=e1c 92 [B13r] l4e
theorem v3d:CsOk Try.prog m4n:=h0a u3p fun B hB=>by
 cases List.mem_singleton.1 hB
 exact B13r_ok
def i4u (env:List Dat):Tree (Nat×List Dat):=Lk.boxC false LK m4n 77 ls0 (mkF [.ptr 0 0] [rdB 0] [0] [(.int .u8 0,[rdB 1])] fun _=>none) env
theorem t3n:ExB i4u:=exB _
def j3z:=Classical.choose t3n
theorem u3v (env:List Dat):j3z env=(i4u env).sel:=Classical.choose_spec t3n env
def B77r:FBox:=mkF [.ptr 0 0] [rdB 0] [0] [(.int .u8 0,[rdB 1])] j3z
theorem B77r_ok:a0v Try.prog 77 (a0j B77r):=a0p (op:=j3z) v3d hmix false (LsOk.none _ _ _) (fun env x h=>by rw[u3v]at h;rw[←boxC_lk];exact h)
def d4e:List Dat→Tree (Nat×List Dat)
 |[.l (Ty.int IntKind.u8) l0,.b b1]=>
 (let r1:=(i3g [.n (1:Int),.l TB l0,.b b1]);
 (.node (isK 0 [.n,.l TB,.b] r1)
 (.leaf ((0,[.n (gn (dOf r1) 0),.l TB (gl TB (dOf r1) 1),.b (gb (dOf r1) 2)])))
 (.node (isK 1 [.n,.l TB,.b] r1)
 (.bad 113)
 (.node (isK 2 [.n,.l TB,.b] r1)
 (.bad 113)
 (.node (isK 3 [.n,.l TB,.b] r1)
 (.bad 113)
 (.bad 351))))))
 |_=>.bad 0
theorem b4j (l0:List (Ty.den TB))(b1:Bool):Imp (d4e [.l TB l0,.b b1]) (i4u [.l TB l0,.b b1]):=
(.pa [1]
(.nd (fun h0=>
(.pa [1,1]
.lf)) (fun h0=>
(.nd (fun h1=>
(.pa [1]
.none)) (fun h1=>
(.nd (fun h2=>
(.pa [1]
.none)) (fun h2=>
(.nd (fun h3=>
(.pa [1]
.none)) (fun h3=>
.none)))))))))
def j4j:FuncId→Option a0q:=e1c 77 [B77r] m4n
theorem t3d:CsOk Try.prog j4j:=h0a v3d fun B hB=>by
 cases List.mem_singleton.1 hB
 exact B77r_ok
def l4t (env:List Dat):Tree (Nat×List Dat):=Lk.boxC false LK j4j 78 ls0 (mkF [.ptr 0 0] [rdB 0] [0] [(.int .u64 0,[rdB 1])] fun _=>none) env
theorem y3f:ExB l4t:=exB _
def i3v:=Classical.choose y3f
theorem u3c (env:List Dat):i3v env=(l4t env).sel:=Classical.choose_spec y3f env
def B78r:FBox:=mkF [.ptr 0 0] [rdB 0] [0] [(.int .u64 0,[rdB 1])] i3v
theorem B78r_ok:a0v Try.prog 78 (a0j B78r):=a0p (op:=i3v) t3d hmix false (LsOk.none _ _ _) (fun env x h=>by rw[u3c]at h;rw[←boxC_lk];exact h)
def d4k:List Dat→Tree (Nat×List Dat)
 |[.l (Ty.int IntKind.u8) l0,.b b1]=>
 (let r1:=(i3g [.n (8:Int),.l TB l0,.b b1]);
 (.node (isK 0 [.n,.l TB,.b] r1)
 (.bad 113)
 (.node (isK 1 [.n,.l TB,.b] r1)
 (.bad 113)
 (.node (isK 2 [.n,.l TB,.b] r1)
 (.bad 113)
 (.node (isK 3 [.n,.l TB,.b] r1)
 (.leaf ((0,[.n (gn (dOf r1) 0),.l TB (gl TB (dOf r1) 1),.b (gb (dOf r1) 2)])))
 (.bad 351))))))
 |_=>.bad 0
theorem z3k (l0:List (Ty.den TB))(b1:Bool):Imp (d4k [.l TB l0,.b b1]) (l4t [.l TB l0,.b b1]):=
(.pa [1]
(.nd (fun h0=>
(.pa [1]
.none)) (fun h0=>
(.nd (fun h1=>
(.pa [1]
.none)) (fun h1=>
(.nd (fun h2=>
(.pa [1]
.none)) (fun h2=>
(.nd (fun h3=>
(.pa [1,1]
.lf)) (fun h3=>
.none)))))))))
def g4e:FuncId→Option a0q:=e1c 78 [B78r] j4j
theorem w3o:CsOk Try.prog g4e:=h0a t3d fun B hB=>by
 cases List.mem_singleton.1 hB
 exact B78r_ok
def i4o (env:List Dat):Tree (Nat×List Dat):=Lk.boxC false LK g4e 79 ls0 (mkF [.ptr 0 0] [rdB 0] [0] [(.int .u32 0,[rdB 1])] fun _=>none) env
theorem v3p:ExB i4o:=exB _
def l3w:=Classical.choose v3p
theorem t3r (env:List Dat):l3w env=(i4o env).sel:=Classical.choose_spec v3p env
def B79r:FBox:=mkF [.ptr 0 0] [rdB 0] [0] [(.int .u32 0,[rdB 1])] l3w
theorem B79r_ok:a0v Try.prog 79 (a0j B79r):=a0p (op:=l3w) w3o hmix false (LsOk.none _ _ _) (fun env x h=>by rw[t3r]at h;rw[←boxC_lk];exact h)
def c4h:List Dat→Tree (Nat×List Dat)
 |[.l (Ty.int IntKind.u8) l0,.b b1]=>
 (let r1:=(i3g [.n (4:Int),.l TB l0,.b b1]);
 (.node (isK 0 [.n,.l TB,.b] r1)
 (.bad 113)
 (.node (isK 1 [.n,.l TB,.b] r1)
 (.bad 113)
 (.node (isK 2 [.n,.l TB,.b] r1)
 (.leaf ((0,[.n (gn (dOf r1) 0),.l TB (gl TB (dOf r1) 1),.b (gb (dOf r1) 2)])))
 (.node (isK 3 [.n,.l TB,.b] r1)
 (.bad 113)
 (.bad 351))))))
 |_=>.bad 0
theorem a4r (l0:List (Ty.den TB))(b1:Bool):Imp (c4h [.l TB l0,.b b1]) (i4o [.l TB l0,.b b1]):=
(.pa [1]
(.nd (fun h0=>
(.pa [1]
.none)) (fun h0=>
(.nd (fun h1=>
(.pa [1]
.none)) (fun h1=>
(.nd (fun h2=>
(.pa [1,1]
.lf)) (fun h2=>
(.nd (fun h3=>
(.pa [1]
.none)) (fun h3=>
.none)))))))))
def k4n:FuncId→Option a0q:=e1c 79 [B79r] g4e
theorem x3d:CsOk Try.prog k4n:=h0a w3o fun B hB=>by
 cases List.mem_singleton.1 hB
 exact B79r_ok
def h4d (env:List Dat):Tree (Nat×List Dat):=Lk.boxC false LK k4n 83 ls0 (mkF [.ptr 0 0] [rdB 0] [0] [(.int .u16 0,[rdB 1])] fun _=>none) env
theorem x3k:ExB h4d:=exB _
def v3t:=Classical.choose x3k
theorem t3o (env:List Dat):v3t env=(h4d env).sel:=Classical.choose_spec x3k env
def B83r:FBox:=mkF [.ptr 0 0] [rdB 0] [0] [(.int .u16 0,[rdB 1])] v3t
theorem B83r_ok:a0v Try.prog 83 (a0j B83r):=a0p (op:=v3t) x3d hmix false (LsOk.none _ _ _) (fun env x h=>by rw[t3o]at h;rw[←boxC_lk];exact h)
def d4c:List Dat→Tree (Nat×List Dat)
 |[.l (Ty.int IntKind.u8) l0,.b b1]=>
 (let r1:=(i3g [.n (2:Int),.l TB l0,.b b1]);
 (.node (isK 0 [.n,.l TB,.b] r1)
 (.bad 113)
 (.node (isK 1 [.n,.l TB,.b] r1)
 (.leaf ((0,[.n (gn (dOf r1) 0),.l TB (gl TB (dOf r1) 1),.b (gb (dOf r1) 2)])))
 (.node (isK 2 [.n,.l TB,.b] r1)
 (.bad 113)
 (.node (isK 3 [.n,.l TB,.b] r1)
 (.bad 113)
 (.bad 351))))))
 |_=>.bad 0
theorem z3u (l0:List (Ty.den TB))(b1:Bool):Imp (d4c [.l TB l0,.b b1]) (h4d [.l TB l0,.b b1]):=
(.pa [1]
(.nd (fun h0=>
(.pa [1]
.none)) (fun h0=>
(.nd (fun h1=>
(.pa [1,1]
.lf)) (fun h1=>
(.nd (fun h2=>
(.pa [1]
.none)) (fun h2=>
(.nd (fun h3=>
(.pa [1]
.none)) (fun h3=>
.none)))))))))
def j4a:FuncId→Option a0q:=e1c 83 [B83r] k4n
theorem x3r:CsOk Try.prog j4a:=h0a x3d fun B hB=>by
 cases List.mem_singleton.1 hB
 exact B83r_ok
def m4b (env:List Dat):Tree (Nat×List Dat):=Lk.boxC false LK j4a 82 ls0 (mkF [.ptr 0 0,.int .i64 0] [rdB 1] [0] [(.own 1,[rdB 0,.arr TB 2])] fun _=>none) env
theorem w3w:ExB m4b:=exB _
def r3i:=Classical.choose w3w
theorem t3v (env:List Dat):r3i env=(m4b env).sel:=Classical.choose_spec w3w env
def B82r:FBox:=mkF [.ptr 0 0,.int .i64 0] [rdB 1] [0] [(.own 1,[rdB 0,.arr TB 2])] r3i
theorem B82r_ok:a0v Try.prog 82 (a0j B82r):=a0p (op:=r3i) x3r hmix false (LsOk.none _ _ _) (fun env x h=>by rw[t3v]at h;rw[←boxC_lk];exact h)
def b4q:List Dat→Tree (Nat×List Dat)
 |[.n n0,.l (Ty.int IntKind.u8) l1,.b b2]=>
 (let r1:=(h3d [.n n0,.l TB l1,.b b2]);
 (.node (isK 0 [.l TB,.l TB,.b] r1)
 (let r2:=(i2m [.l TB (gl TB (dOf r1) 0)]);
 (.node (isK 0 [.l TB] r2)
 (.leaf ((0,[.l TB (gl TB (dOf r1) 1),.b (gb (dOf r1) 2),.l TB (gl TB (dOf r2) 0)])))
 (.bad 351)))
 (.node (isK 1 [.l TB,.b] r1)
 (.leaf ((0,[.l TB (gl TB (dOf r1) 0),.b (gb (dOf r1) 1),.l TB (gl TB (dOf (i2m [.l TB []])) 0)])))
 (.bad 351))))
 |_=>.bad 0
theorem b4k (n0:Int)(l1:List (Ty.den TB))(b2:Bool):Imp (b4q [.n n0,.l TB l1,.b b2]) (m4b [.n n0,.l TB l1,.b b2]):=
(.pa [1]
(.nd (fun h0=>
(.pa [1]
(.nd (fun h1=>
(.pa [1,1]
.lf)) (fun h1=>
.none)))) (fun h0=>
(.nd (fun h1=>
(.pa [1,1,1,1]
.lf)) (fun h1=>
.none)))))
def l4m:FuncId→Option a0q:=e1c 82 [B82r] j4a
theorem u3t:CsOk Try.prog l4m:=h0a x3r fun B hB=>by
 cases List.mem_singleton.1 hB
 exact B82r_ok
def k4w (env:List Dat):Tree (Nat×List Dat):=Lk.boxC false LK l4m 74 ls0 (mkF [.imm TB 0,.int .u8 1] [] [] [(.tup [.ptr 0 0,.bool 0],[rdB 1]),(.tup [.nilptr,.bool 0],[])] fun _=>none) env
theorem u3o:ExB k4w:=exB _
def k3s:=Classical.choose u3o
theorem q3i (env:List Dat):k3s env=(k4w env).sel:=Classical.choose_spec u3o env
def B74r:FBox:=mkF [.imm TB 0,.int .u8 1] [] [] [(.tup [.ptr 0 0,.bool 0],[rdB 1]),(.tup [.nilptr,.bool 0],[])] k3s
theorem B74r_ok:a0v Try.prog 74 (a0j B74r):=a0p (op:=k3s) u3t hmix false (LsOk.none _ _ _) (fun env x h=>by rw[q3i]at h;rw[←boxC_lk];exact h)
def s3b:List Dat→Tree (Nat×List Dat)
 |[.l (Ty.int IntKind.u8) l0,.n n1]=>
 (.node (decide (IntKind.wrap .i64 ((↑(List.length l0):Int)-(4:Int))<(1:Int)))
 (.leaf ((1,[.b false])))
 (.node ((List.getD l0 0 (0:Int):Int) !=n1)
 (.leaf ((1,[.b false])))
 (let r1:=(o3s [.l TB (List.drop (Int.toNat (IntKind.wrap .i64 ((↑(List.length l0):Int)-(4:Int)))) l0)]);
 (.node (isK 0 [.l TB,.b] r1)
 (let r2:=(l3w [.l TB (gl TB (dOf r1) 0),.b (gb (dOf r1) 1)]);
 (.node (isK 0 [.n,.l TB,.b] r2)
 (.node (true&&decide ((0:Int)≤IntKind.wrap .i64 ((↑(List.length l0):Int)-(4:Int))))
 (let r3:=(k3e [.l TB (List.take (Int.toNat (IntKind.wrap .i64 ((↑(List.length l0):Int)-(4:Int)))) l0)]);
 (.node (isK 0 [.n] r3)
 (.node (gn (dOf r2) 0 !=gn (dOf r3) 0)
 (.leaf ((1,[.b false])))
 (.node (true&&decide ((1:Int)≤IntKind.wrap .i64 ((↑(List.length l0):Int)-(4:Int))))
 (let r4:=(o3s [.l TB (List.drop 1 (List.take (Int.toNat (IntKind.wrap .i64 ((↑(List.length l0):Int)-(4:Int)))) l0))]);
 (.node (isK 0 [.l TB,.b] r4)
 (.leaf ((0,[.b true,.l TB (gl TB (dOf r4) 0),.b (gb (dOf r4) 1)])))
 (.bad 351)))
 (.bad 43)))
 (.bad 351)))
 (.bad 43))
 (.bad 351)))
 (.bad 351)))))
 |_=>.bad 0
theorem p3v (l0:List (Ty.den TB))(n1:Int):Imp (s3b [.l TB l0,.n n1]) (k4w [.l TB l0,.n n1]):=
(.nd (fun h0=>
(.pa [1,1,1,1,1,1]
.lf)) (fun h0=>
(.pt (c:=(inR (0:Int) (List.length l0))) (by kernel_rfl) (by kernel_rfl) (by(simp only[w64d,decide_eq_true_eq,decide_eq_false_iff_not,beq_iff_eq,beq_eq_false_iff_ne,bne_iff_ne,ne_eq,inR,Bool.and_eq_true,Bool.and_eq_false_iff,Bool.not_eq_true',Bool.not_eq_false',Bool.not_eq_eq_eq_not,Bool.not_true,Bool.not_false]at*;omega))
(.nd (fun h1=>
(.pa [1,1,1,1]
.lf)) (fun h1=>
(.sT ((true&&decide ((↑(List.length l0):Int)≤(↑(List.length l0):Int))))
(.pt (c:=(decide ((0:Int)≤IntKind.wrap .i64 ((↑(List.length l0):Int)-(4:Int)))&&decide (IntKind.wrap .i64 ((↑(List.length l0):Int)-(4:Int))≤(↑(List.length l0):Int)))) (by kernel_rfl) (by kernel_rfl) (by(simp only[w64d,decide_eq_true_eq,decide_eq_false_iff_not,beq_iff_eq,beq_eq_false_iff_ne,bne_iff_ne,ne_eq,inR,Bool.and_eq_true,Bool.and_eq_false_iff,Bool.not_eq_true',Bool.not_eq_false',Bool.not_eq_eq_eq_not,Bool.not_true,Bool.not_false]at*;omega))
(.pa [1]
(.nd (fun h2=>
(.pa [1,1]
(.nd (fun h3=>
(.pa [1]
(.pt (c:=(decide ((0:Int)≤IntKind.wrap .i64 ((↑(List.length l0):Int)-(4:Int)))&&decide (IntKind.wrap .i64 ((↑(List.length l0):Int)-(4:Int))≤(↑(List.length l0):Int)))) (by kernel_rfl) (by kernel_rfl) (by(simp only[w64d,decide_eq_true_eq,decide_eq_false_iff_not,beq_iff_eq,beq_eq_false_iff_ne,bne_iff_ne,ne_eq,inR,Bool.and_eq_true,Bool.and_eq_false_iff,Bool.not_eq_true',Bool.not_eq_false',Bool.not_eq_eq_eq_not,Bool.not_true,Bool.not_false]at*;omega))
(.nd (fun h4=>
(.nd (fun h5=>
(.pa [1,1]
(.nd (fun h6=>
(.pa [1]
.lf)) (fun h6=>
(.pt (c:=(decide ((0:Int)≤IntKind.wrap .i64 ((↑(List.length l0):Int)-(4:Int)))&&decide (IntKind.wrap .i64 ((↑(List.length l0):Int)-(4:Int))≤(↑(List.length l0):Int)))) (by kernel_rfl) (by kernel_rfl) (by(simp only[w64d,decide_eq_true_eq,decide_eq_false_iff_not,beq_iff_eq,beq_eq_false_iff_ne,bne_iff_ne,ne_eq,inR,Bool.and_eq_true,Bool.and_eq_false_iff,Bool.not_eq_true',Bool.not_eq_false',Bool.not_eq_eq_eq_not,Bool.not_true,Bool.not_false]at*;omega))
(.nd (fun h7=>
(.pa [1]
(.nd (fun h8=>
(.pa [1,1]
.lf)) (fun h8=>
.none)))) (fun h7=>
.none))))))) (fun h5=>
.none))) (fun h4=>
.none))))) (fun h3=>
.none)))) (fun h2=>
.none))))))))))
def d4u:FuncId→Option a0q:=e1c 74 [B74r] l4m
theorem o3u:CsOk Try.prog d4u:=h0a u3t fun B hB=>by
 cases List.mem_singleton.1 hB
 exact B74r_ok
def i3p (env:List Dat):Tree Step:=Lk.stepMC false LK d4u 45 4 ls0 (mkM (cv:=[(3,[],5,.own TC)]) 1 [0] [(sh 37 [(0,.ptr 0 0),(2,.ptr 1 0),(3,.ptr 2 0),(19,.int .u8 0),(20,.int .u8 1)],[rdB 2,inC 4 .nilsl,inC 9 (.own 3),.arr TC 14])] [] [(.exit 0,sh 37 [(0,.ptr 0 0),(2,.ptr 1 0),(3,.ptr 2 0)],[rdB 0,inC 2 .nilsl,inC 7 (.own 3),.arr TC 12])] fun _=>none) env
theorem o3a:ExL i3p:=exL _
def m3u:=Classical.choose o3a
theorem n3z (env:List Dat):m3u env=a0b i3p FU env:=Classical.choose_spec o3a env
def d4f:MBox:=mkM (cv:=[(3,[],5,.own TC)]) 1 [0] [(sh 37 [(0,.ptr 0 0),(2,.ptr 1 0),(3,.ptr 2 0),(19,.int .u8 0),(20,.int .u8 1)],[rdB 2,inC 4 .nilsl,inC 9 (.own 3),.arr TC 14])] [] [(.exit 0,sh 37 [(0,.ptr 0 0),(2,.ptr 1 0),(3,.ptr 2 0)],[rdB 0,inC 2 .nilsl,inC 7 (.own 3),.arr TC 12])] m3u
theorem e4j:d4f=mkM (cv:=[(3,[],5,.own TC)]) 1 [0] [(sh 37 [(0,.ptr 0 0),(2,.ptr 1 0),(3,.ptr 2 0),(19,.int .u8 0),(20,.int .u8 1)],[rdB 2,inC 4 .nilsl,inC 9 (.own 3),.arr TC 14])] [] [(.exit 0,sh 37 [(0,.ptr 0 0),(2,.ptr 1 0),(3,.ptr 2 0)],[rdB 0,inC 2 .nilsl,inC 7 (.own 3),.arr TC 12])] (a0b i3p FU):=congrArg (fun f=>mkM (cv:=[(3,[],5,.own TC)]) 1 [0] [(sh 37 [(0,.ptr 0 0),(2,.ptr 1 0),(3,.ptr 2 0),(19,.int .u8 0),(20,.int .u8 1)],[rdB 2,inC 4 .nilsl,inC 9 (.own 3),.arr TC 14])] [] [(.exit 0,sh 37 [(0,.ptr 0 0),(2,.ptr 1 0),(3,.ptr 2 0)],[rdB 0,inC 2 .nilsl,inC 7 (.own 3),.arr TC 12])] f) (funext n3z)
theorem e4m: ∀t s x,(a0h d4f t s).sel=some x→a0k Try.prog 1 (.loop (cAt Try.prog 45 4)) t s x:=by
 rw[e4j]
 exact a0o (st:=i3p) (m:=FU) o3u hmix false (LsOk.none _ _ _) (by kernel_rfl) (fun env y h=>by rw[←stepMC_lk];exact h)
def l3k:List Dat→Tree Step
 |[.n n0,.n n1,.l (Ty.int IntKind.u8) l2,.b b3,.n n4,.n n5,.n n6,.n n7,.n n8,.l (Ty.pair (Ty.int IntKind.u8) (Ty.int IntKind.i64)) l9]=>
 (.node (decide (n1<n0))
 (let r1:=(j3z [.l TB l2,.b b3]);
 (.node (isK 0 [.n,.l TB,.b] r1)
 (let r2:=(j3z [.l TB (gl TB (dOf r1) 1),.b (gb (dOf r1) 2)]);
 (.node (isK 0 [.n,.l TB,.b] r2)
 (.node (decide ((List.length l9+1)*16≤140737488355328))
 (.leaf (Step.go [.k 0,.n n0,.n (IntKind.wrap .u8 (n1+(1:Int))),.l TB (gl TB (dOf r2) 1),.b (gb (dOf r2) 2),.n (0:Int),.n (0:Int),.n (0:Int),.n (0:Int),.n (0:Int),.n n4,.n n5,.n n6,.n n7,.n n8,.l TC (apC l9 (gn (dOf r1) 0) (IntKind.wrap .i64 (gn (dOf r2) 0)))]))
 (.bad 62))
 (.bad 351)))
 (.bad 351)))
 (.leaf (Step.stop 0 [.l TB l2,.b b3,.n (0:Int),.n (0:Int),.n (0:Int),.n (0:Int),.n (0:Int),.n n4,.n n5,.n n6,.n n7,.n n8,.l TC l9])))
 |_=>.bad 0
theorem k3p (n0:Int)(n1:Int)(l2:List (Ty.den TB))(b3:Bool)(n4:Int)(n5:Int)(n6:Int)(n7:Int)(n8:Int)(l9:List (Ty.den TC)):Imp (l3k [.n n0,.n n1,.l TB l2,.b b3,.n n4,.n n5,.n n6,.n n7,.n n8,.l TC l9]) (i3p [.k 0,.n n0,.n n1,.l TB l2,.b b3,.n 0,.n 0,.n 0,.n 0,.n 0,.n n4,.n n5,.n n6,.n n7,.n n8,.l TC l9]):=
(.pa [1]
(.nd (fun h0=>
(.pa [1]
(.nd (fun h1=>
(.pa [1,1]
(.nd (fun h2=>
(.pa [1]
(.nd (fun h3=>
(.pa [1,1]
.lf)) (fun h3=>
.none)))) (fun h2=>
.none)))) (fun h1=>
.none)))) (fun h0=>
(.pa [1]
.lf))))
theorem l4q:LsOk Try.prog (List.length ([rdB 0]:List PB)) (lsM [(4,d4f)] (List.length ([rdB 0]:List PB))) (a0r Try.prog 45):=LsOk.many fun j B hB hk c hc hi=>by
 simp only[b0d]at hB
 split at hB
 ·rename_i e;have:=Nat.eq_of_beq_eq_true e;subst this;cases hB
  have e1:p0c Try.prog 45 4=[cAt Try.prog 45 4]:=a0e (by kernel_rfl)
  have e2:c∈p0c Try.prog 45 4:=a0d hc hi
  rw[e1]at e2;cases List.mem_singleton.1 e2;exact e4m
 cases hB
def h4x (env:List Dat):Tree (Nat×List Dat):=Lk.boxC false LK d4u 45 (lsM [(4,d4f)] (List.length ([rdB 0]:List PB))) (mkF [.ptr 0 0] [rdB 0] [0] [(inO 0 (.own 1),[rdB 5,.arr TC 7])] fun _=>none) env
theorem t3j:ExB h4x:=exB _
def o3t:=Classical.choose t3j
theorem w3f (env:List Dat):o3t env=(h4x env).sel:=Classical.choose_spec t3j env
def B45r:FBox:=mkF [.ptr 0 0] [rdB 0] [0] [(inO 0 (.own 1),[rdB 5,.arr TC 7])] o3t
theorem B45r_ok:a0v Try.prog 45 (a0j B45r):=a0p (op:=o3t) o3u hmix false (l4q) (fun env x h=>by rw[w3f]at h;rw[←boxC_lk];exact h)
def d4j:List Dat→Tree (Nat×List Dat)
 |[.l (Ty.int IntKind.u8) l0,.b b1]=>
 (let r1:=(j3z [.l TB l0,.b b1]);
 (.node (isK 0 [.n,.l TB,.b] r1)
 (let r2:=(i3v [.l TB (gl TB (dOf r1) 1),.b (gb (dOf r1) 2)]);
 (.node (isK 0 [.n,.l TB,.b] r2)
 (let r3:=(i3v [.l TB (gl TB (dOf r2) 1),.b (gb (dOf r2) 2)]);
 (.node (isK 0 [.n,.l TB,.b] r3)
 (let r4:=(l3w [.l TB (gl TB (dOf r3) 1),.b (gb (dOf r3) 2)]);
 (.node (isK 0 [.n,.l TB,.b] r4)
 (let r5:=(l3w [.l TB (gl TB (dOf r4) 1),.b (gb (dOf r4) 2)]);
 (.node (isK 0 [.n,.l TB,.b] r5)
 (let r6:=(j3z [.l TB (gl TB (dOf r5) 1),.b (gb (dOf r5) 2)]);
 (.node (isK 0 [.n,.l TB,.b] r6)
 (let r7:=(m3u [.k 0,.n (gn (dOf r6) 0),.n (0:Int),.l TB (gl TB (dOf r6) 1),.b (gb (dOf r6) 2),.n (0:Int),.n (0:Int),.n (0:Int),.n (0:Int),.n (0:Int),.n (gn (dOf r1) 0),.n (IntKind.wrap .i64 (gn (dOf r2) 0)),.n (gn (dOf r3) 0),.n (gn (dOf r4) 0),.n (gn (dOf r5) 0),.l TC []]);
 (.node (isK 0 [.l TB,.b,.n,.n,.n,.n,.n,.n,.n,.n,.n,.n,.l TC] r7)
 (.leaf ((0,[.n (gn (dOf r7) 7),.n (gn (dOf r7) 8),.n (gn (dOf r7) 9),.n (gn (dOf r7) 10),.n (gn (dOf r7) 11),.l TB (gl TB (dOf r7) 0),.b (gb (dOf r7) 1),.l TC (gl TC (dOf r7) 12)])))
 (.bad 351)))
 (.bad 351)))
 (.bad 351)))
 (.bad 351)))
 (.bad 351)))
 (.bad 351)))
 (.bad 351)))
 |_=>.bad 0
theorem y3y (l0:List (Ty.den TB))(b1:Bool):Imp (d4j [.l TB l0,.b b1]) (h4x [.l TB l0,.b b1]):=
(.pa [1]
(.nd (fun h0=>
(.pa [1,1]
(.nd (fun h1=>
(.pa [1,1]
(.nd (fun h2=>
(.pa [1,1]
(.nd (fun h3=>
(.pa [1,1]
(.nd (fun h4=>
(.pa [1,1]
(.nd (fun h5=>
(.pa [1]
(.nd (fun h6=>
(.pa [1]
.lf)) (fun h6=>
.none)))) (fun h5=>
.none)))) (fun h4=>
.none)))) (fun h3=>
.none)))) (fun h2=>
.none)))) (fun h1=>
.none)))) (fun h0=>
.none)))
def h4e:FuncId→Option a0q:=e1c 45 [B45r] d4u
theorem v3a:CsOk Try.prog h4e:=h0a o3u fun B hB=>by
 cases List.mem_singleton.1 hB
 exact B45r_ok
def j4c (env:List Dat):Tree (Nat×List Dat):=Lk.boxC false LK h4e 49 ls0 (mkF [.ptr 0 0] [rdB 0] [0] [(ouV 0,[rdB 5])] fun _=>none) env
theorem w3g:ExB j4c:=exB _
def p3x:=Classical.choose w3g
theorem x3j (env:List Dat):p3x env=(j4c env).sel:=Classical.choose_spec w3g env
def B49r:FBox:=mkF [.ptr 0 0] [rdB 0] [0] [(ouV 0,[rdB 5])] p3x
theorem B49r_ok:a0v Try.prog 49 (a0j B49r):=a0p (op:=p3x) v3a hmix false (LsOk.none _ _ _) (fun env x h=>by rw[x3j]at h;rw[←boxC_lk];exact h)
def d4b:List Dat→Tree (Nat×List Dat)
 |[.l (Ty.int IntKind.u8) l0,.b b1]=>
 (let r1:=(j3z [.l TB l0,.b b1]);
 (.node (isK 0 [.n,.l TB,.b] r1)
 (let r2:=(i3v [.l TB (gl TB (dOf r1) 1),.b (gb (dOf r1) 2)]);
 (.node (isK 0 [.n,.l TB,.b] r2)
 (let r3:=(i3v [.l TB (gl TB (dOf r2) 1),.b (gb (dOf r2) 2)]);
 (.node (isK 0 [.n,.l TB,.b] r3)
 (let r4:=(i3v [.l TB (gl TB (dOf r3) 1),.b (gb (dOf r3) 2)]);
 (.node (isK 0 [.n,.l TB,.b] r4)
 (let r5:=(l3w [.l TB (gl TB (dOf r4) 1),.b (gb (dOf r4) 2)]);
 (.node (isK 0 [.n,.l TB,.b] r5)
 (.leaf ((0,[.n (gn (dOf r1) 0),.n (IntKind.wrap .i64 (gn (dOf r2) 0)),.n (IntKind.wrap .i64 (gn (dOf r3) 0)),.n (gn (dOf r4) 0),.n (gn (dOf r5) 0),.l TB (gl TB (dOf r5) 1),.b (gb (dOf r5) 2)])))
 (.bad 351)))
 (.bad 351)))
 (.bad 351)))
 (.bad 351)))
 (.bad 351)))
 |_=>.bad 0
theorem a4x (l0:List (Ty.den TB))(b1:Bool):Imp (d4b [.l TB l0,.b b1]) (j4c [.l TB l0,.b b1]):=
(.pa [1]
(.nd (fun h0=>
(.pa [1,1]
(.nd (fun h1=>
(.pa [1,1]
(.nd (fun h2=>
(.pa [1,1]
(.nd (fun h3=>
(.pa [1,1]
(.nd (fun h4=>
(.pa [1,1]
.lf)) (fun h4=>
.none)))) (fun h3=>
.none)))) (fun h2=>
.none)))) (fun h1=>
.none)))) (fun h0=>
.none)))
def h4j:FuncId→Option a0q:=e1c 49 [B49r] h4e
theorem v3l:CsOk Try.prog h4j:=h0a v3a fun B hB=>by
 cases List.mem_singleton.1 hB
 exact B49r_ok
def i4r (env:List Dat):Tree (Nat×List Dat):=Lk.boxC false LK h4j 52 ls0 (mkF [.ptr 0 0] [rdB 0] [0] [(stV 0,[rdB 5])] fun _=>none) env
theorem w3l:ExB i4r:=exB _
def n3o:=Classical.choose w3l
theorem w3v (env:List Dat):n3o env=(i4r env).sel:=Classical.choose_spec w3l env
def B52r:FBox:=mkF [.ptr 0 0] [rdB 0] [0] [(stV 0,[rdB 5])] n3o
theorem B52r_ok:a0v Try.prog 52 (a0j B52r):=a0p (op:=n3o) v3l hmix false (LsOk.none _ _ _) (fun env x h=>by rw[w3v]at h;rw[←boxC_lk];exact h)
def d4w:List Dat→Tree (Nat×List Dat)
 |[.l (Ty.int IntKind.u8) l0,.b b1]=>
 (let r1:=(i3v [.l TB l0,.b b1]);
 (.node (isK 0 [.n,.l TB,.b] r1)
 (let r2:=(i3v [.l TB (gl TB (dOf r1) 1),.b (gb (dOf r1) 2)]);
 (.node (isK 0 [.n,.l TB,.b] r2)
 (let r3:=(i3v [.l TB (gl TB (dOf r2) 1),.b (gb (dOf r2) 2)]);
 (.node (isK 0 [.n,.l TB,.b] r3)
 (let r4:=(r3i [.n (64:Int),.l TB (gl TB (dOf r3) 1),.b (gb (dOf r3) 2)]);
 (.node (isK 0 [.l TB,.b,.l TB] r4)
 (let r5:=(l3w [.l TB (gl TB (dOf r4) 0),.b (gb (dOf r4) 1)]);
 (.node (isK 0 [.n,.l TB,.b] r5)
 (.leaf ((0,[.n (gn (dOf r1) 0),.n (gn (dOf r2) 0),.n (gn (dOf r3) 0),.l TB (List.take 64 (gl TB (dOf r4) 2)++List.drop (List.length (gl TB (dOf r4) 2)) (List.replicate 64 (0:Int))),.n (gn (dOf r5) 0),.l TB (gl TB (dOf r5) 1),.b (gb (dOf r5) 2)])))
 (.bad 351)))
 (.bad 351)))
 (.bad 351)))
 (.bad 351)))
 (.bad 351)))
 |_=>.bad 0
theorem y3p (l0:List (Ty.den TB))(b1:Bool):Imp (d4w [.l TB l0,.b b1]) (i4r [.l TB l0,.b b1]):=
(.pa [1]
(.nd (fun h0=>
(.pa [1,1]
(.nd (fun h1=>
(.pa [1,1]
(.nd (fun h2=>
(.pa [1,1,1]
(.nd (fun h3=>
(.pa [1,1,1]
(.nd (fun h4=>
(.pa [1,1]
.lf)) (fun h4=>
.none)))) (fun h3=>
.none)))) (fun h2=>
.none)))) (fun h1=>
.none)))) (fun h0=>
.none)))
def l4d:FuncId→Option a0q:=e1c 52 [B52r] h4j
theorem t3l:CsOk Try.prog l4d:=h0a v3l fun B hB=>by
 cases List.mem_singleton.1 hB
 exact B52r_ok
def m4i (env:List Dat):Tree (Nat×List Dat):=Lk.boxC false LK l4d 56 ls0 (mkF [.ptr 0 0] [rdB 0] [0] [(loV 0,[rdB 7])] fun _=>none) env
theorem y3i:ExB m4i:=exB _
def p3r:=Classical.choose y3i
theorem u3m (env:List Dat):p3r env=(m4i env).sel:=Classical.choose_spec y3i env
def B56r:FBox:=mkF [.ptr 0 0] [rdB 0] [0] [(loV 0,[rdB 7])] p3r
theorem B56r_ok:a0v Try.prog 56 (a0j B56r):=a0p (op:=p3r) t3l hmix false (LsOk.none _ _ _) (fun env x h=>by rw[u3m]at h;rw[←boxC_lk];exact h)
def b4t:List Dat→Tree (Nat×List Dat)
 |[.l (Ty.int IntKind.u8) l0,.b b1]=>
 (let r1:=(i3v [.l TB l0,.b b1]);
 (.node (isK 0 [.n,.l TB,.b] r1)
 (let r2:=(i3v [.l TB (gl TB (dOf r1) 1),.b (gb (dOf r1) 2)]);
 (.node (isK 0 [.n,.l TB,.b] r2)
 (let r3:=(n3o [.l TB (gl TB (dOf r2) 1),.b (gb (dOf r2) 2)]);
 (.node (isK 0 [.n,.n,.n,.l TB,.n,.l TB,.b] r3)
 (.leaf ((0,[.n (IntKind.wrap .i64 (gn (dOf r1) 0)),.n (IntKind.wrap .i64 (gn (dOf r2) 0)),.n (gn (dOf r3) 0),.n (gn (dOf r3) 1),.n (gn (dOf r3) 2),.l TB (gl TB (dOf r3) 3),.n (gn (dOf r3) 4),.l TB (gl TB (dOf r3) 5),.b (gb (dOf r3) 6)])))
 (.bad 351)))
 (.bad 351)))
 (.bad 351)))
 |_=>.bad 0
theorem z3m (l0:List (Ty.den TB))(b1:Bool):Imp (b4t [.l TB l0,.b b1]) (m4i [.l TB l0,.b b1]):=
(.pa [1]
(.nd (fun h0=>
(.pa [1,1]
(.nd (fun h1=>
(.pa [1,1]
(.nd (fun h2=>
(.pa [1,1]
.lf)) (fun h2=>
.none)))) (fun h1=>
.none)))) (fun h0=>
.none)))
def g4d:FuncId→Option a0q:=e1c 56 [B56r] l4d
theorem x3y:CsOk Try.prog g4d:=h0a t3l fun B hB=>by
 cases List.mem_singleton.1 hB
 exact B56r_ok
def g4b (env:List Dat):Tree (Nat×List Dat):=Lk.boxC false LK g4d 59 ls0 (mkF [.ptr 0 0] [rdB 0] [0] [(liO 0 (.own 1),[rdB 4,.arr TB 6])] fun _=>none) env
theorem w3j:ExB g4b:=exB _
def p3j:=Classical.choose w3j
theorem w3a (env:List Dat):p3j env=(g4b env).sel:=Classical.choose_spec w3j env
def B59r:FBox:=mkF [.ptr 0 0] [rdB 0] [0] [(liO 0 (.own 1),[rdB 4,.arr TB 6])] p3j
theorem B59r_ok:a0v Try.prog 59 (a0j B59r):=a0p (op:=p3j) x3y hmix false (LsOk.none _ _ _) (fun env x h=>by rw[w3a]at h;rw[←boxC_lk];exact h)
def e4e:List Dat→Tree (Nat×List Dat)
 |[.l (Ty.int IntKind.u8) l0,.b b1]=>
 (let r1:=(j3z [.l TB l0,.b b1]);
 (.node (isK 0 [.n,.l TB,.b] r1)
 (let r2:=(j3z [.l TB (gl TB (dOf r1) 1),.b (gb (dOf r1) 2)]);
 (.node (isK 0 [.n,.l TB,.b] r2)
 (let r3:=(i3v [.l TB (gl TB (dOf r2) 1),.b (gb (dOf r2) 2)]);
 (.node (isK 0 [.n,.l TB,.b] r3)
 (let r4:=(i3v [.l TB (gl TB (dOf r3) 1),.b (gb (dOf r3) 2)]);
 (.node (isK 0 [.n,.l TB,.b] r4)
 (let r5:=(v3t [.l TB (gl TB (dOf r4) 1),.b (gb (dOf r4) 2)]);
 (.node (isK 0 [.n,.l TB,.b] r5)
 (let r6:=(r3i [.n (IntKind.wrap .i64 (gn (dOf r5) 0)),.l TB (gl TB (dOf r5) 1),.b (gb (dOf r5) 2)]);
 (.node (isK 0 [.l TB,.b,.l TB] r6)
 (.leaf ((0,[.n (gn (dOf r1) 0),.n (gn (dOf r2) 0),.n (IntKind.wrap .i64 (gn (dOf r3) 0)),.n (IntKind.wrap .i64 (gn (dOf r4) 0)),.l TB (gl TB (dOf r6) 0),.b (gb (dOf r6) 1),.l TB (gl TB (dOf r6) 2)])))
 (.bad 351)))
 (.bad 351)))
 (.bad 351)))
 (.bad 351)))
 (.bad 351)))
 (.bad 351)))
 |_=>.bad 0
theorem z3r (l0:List (Ty.den TB))(b1:Bool):Imp (e4e [.l TB l0,.b b1]) (g4b [.l TB l0,.b b1]):=
(.pa [1]
(.nd (fun h0=>
(.pa [1,1]
(.nd (fun h1=>
(.pa [1,1]
(.nd (fun h2=>
(.pa [1,1]
(.nd (fun h3=>
(.pa [1,1]
(.nd (fun h4=>
(.pa [1,1]
(.nd (fun h5=>
(.pa [1,1]
.lf)) (fun h5=>
.none)))) (fun h4=>
.none)))) (fun h3=>
.none)))) (fun h2=>
.none)))) (fun h1=>
.none)))) (fun h0=>
.none)))
def g4y:FuncId→Option a0q:=e1c 59 [B59r] g4d
theorem t3t:CsOk Try.prog g4y:=h0a x3y fun B hB=>by
 cases List.mem_singleton.1 hB
 exact B59r_ok
def m4d (env:List Dat):Tree (Nat×List Dat):=Lk.boxC false LK g4y 23 ls0 (mkF [.imm TB 0] [] [] [(.tup [inO 0 (.own 0),.int .i64 5],[.arr TC 6]),(.tup [inO 0 .nilsl,.int .i64 5],[])] fun _=>none) env
theorem w3x:ExB m4d:=exB _
def h3e:=Classical.choose w3x
theorem p3m (env:List Dat):h3e env=(m4d env).sel:=Classical.choose_spec w3x env
def B23r:FBox:=mkF [.imm TB 0] [] [] [(.tup [inO 0 (.own 0),.int .i64 5],[.arr TC 6]),(.tup [inO 0 .nilsl,.int .i64 5],[])] h3e
theorem k4e:a0v Try.prog 23 (a0j B23r):=a0p (op:=h3e) t3t hmix false (LsOk.none _ _ _) (fun env x h=>by rw[p3m]at h;rw[←boxC_lk];exact h)
def r3v:List Dat→Tree (Nat×List Dat)
 |[.l (Ty.int IntKind.u8) l0]=>
 (let r1:=(k3s [.l TB l0,.n (1:Int)]);
 (.node (isK 0 [.b,.l TB,.b] r1)
 (.node (!gb (dOf r1) 0)
 (.leaf ((1,[.n (0:Int),.n (0:Int),.n (0:Int),.n (0:Int),.n (0:Int),.n (130:Int)])))
 (let r2:=(o3t [.l TB (gl TB (dOf r1) 1),.b (gb (dOf r1) 2)]);
 (.node (isK 0 [.n,.n,.n,.n,.n,.l TB,.b,.l TC] r2)
 (.node (gb (dOf r2) 6)
 (.leaf ((1,[.n (0:Int),.n (0:Int),.n (0:Int),.n (0:Int),.n (0:Int),.n (130:Int)])))
 (.node (decide ((↑(List.length (gl TB (dOf r2) 5)):Int)>(0:Int)))
 (.leaf ((1,[.n (0:Int),.n (0:Int),.n (0:Int),.n (0:Int),.n (0:Int),.n (130:Int)])))
 (let r3:=(q1w [.n (gn (dOf r2) 0),.n (gn (dOf r2) 1),.n (gn (dOf r2) 2),.n (gn (dOf r2) 3),.n (gn (dOf r2) 4),.l TC (gl TC (dOf r2) 7)]);
 (.node (isK 0 [.b] r3)
 (.node (!gb (dOf r3) 0)
 (.leaf ((1,[.n (0:Int),.n (0:Int),.n (0:Int),.n (0:Int),.n (0:Int),.n (130:Int)])))
 (.leaf ((0,[.n (gn (dOf r2) 0),.n (gn (dOf r2) 1),.n (gn (dOf r2) 2),.n (gn (dOf r2) 3),.n (gn (dOf r2) 4),.n (0:Int),.l TC (gl TC (dOf r2) 7)]))))
 (.bad 351)))))
 (.bad 351))))
 (.node (isK 1 [.b] r1)
 (.node (!gb (dOf r1) 0)
 (.leaf ((1,[.n (0:Int),.n (0:Int),.n (0:Int),.n (0:Int),.n (0:Int),.n (130:Int)])))
 (.bad 340))
 (.bad 351))))
 |_=>.bad 0
theorem p3t (l0:List (Ty.den TB)):Imp (r3v [.l TB l0]) (m4d [.l TB l0]):=
(.pa [1,1]
(.nd (fun h0=>
(.pa [1]
(.nd (fun h1=>
(.pa [1,1]
.lf)) (fun h1=>
(.pa [1]
(.nd (fun h2=>
(.pa [1,1,0,1]
(.nd (fun h3=>
(.pa [1,1,1,1,1,1]
.lf)) (fun h3=>
(.pa [1,0,1]
(.nd (fun h4=>
(.pa [1,1,1,1]
.lf)) (fun h4=>
(.nd (fun h5=>
(.pa [1]
(.nd (fun h6=>
(.pa [1,1]
.lf)) (fun h6=>
(.pa [1,1]
.lf))))) (fun h5=>
.none))))))))) (fun h2=>
.none))))))) (fun h0=>
(.nd (fun h1=>
(.pa [1]
(.nd (fun h2=>
(.pa [1,1]
.lf)) (fun h2=>
(.pa [1]
.none))))) (fun h1=>
.none)))))
def g4u:FuncId→Option a0q:=a0s 23 B23r g4y
theorem w3q:CsOk Try.prog g4u:=a0g t3t k4e
def i4n (env:List Dat):Tree (Nat×List Dat):=Lk.boxC false LK g4u 26 ls0 (mkF [.imm TB 0] [] [] [(.tup [ouV 0,.int .i64 5],[])] fun _=>none) env
theorem t3p:ExB i4n:=exB _
def h3k:=Classical.choose t3p
theorem o3r (env:List Dat):h3k env=(i4n env).sel:=Classical.choose_spec t3p env
def B26r:FBox:=mkF [.imm TB 0] [] [] [(.tup [ouV 0,.int .i64 5],[])] h3k
theorem l4j:a0v Try.prog 26 (a0j B26r):=a0p (op:=h3k) w3q hmix false (LsOk.none _ _ _) (fun env x h=>by rw[o3r]at h;rw[←boxC_lk];exact h)
def s3o:List Dat→Tree (Nat×List Dat)
 |[.l (Ty.int IntKind.u8) l0]=>
 (let r1:=(k3s [.l TB l0,.n (2:Int)]);
 (.node (isK 0 [.b,.l TB,.b] r1)
 (.node (!gb (dOf r1) 0)
 (.leaf ((0,[.n (0:Int),.n (0:Int),.n (0:Int),.n (0:Int),.n (0:Int),.n (130:Int)])))
 (let r2:=(p3x [.l TB (gl TB (dOf r1) 1),.b (gb (dOf r1) 2)]);
 (.node (isK 0 [.n,.n,.n,.n,.n,.l TB,.b] r2)
 (.node (gb (dOf r2) 6)
 (.leaf ((0,[.n (0:Int),.n (0:Int),.n (0:Int),.n (0:Int),.n (0:Int),.n (130:Int)])))
 (.node (decide ((↑(List.length (gl TB (dOf r2) 5)):Int)>(0:Int)))
 (.leaf ((0,[.n (0:Int),.n (0:Int),.n (0:Int),.n (0:Int),.n (0:Int),.n (130:Int)])))
 (let r3:=(q3o [.n (1099511627776:Int),.l TI [gn (dOf r2) 1,gn (dOf r2) 2]]);
 (.node (isK 0 [.b] r3)
 (.node (!gb (dOf r3) 0)
 (.leaf ((0,[.n (0:Int),.n (0:Int),.n (0:Int),.n (0:Int),.n (0:Int),.n (130:Int)])))
 (.leaf ((0,[.n (gn (dOf r2) 0),.n (gn (dOf r2) 1),.n (gn (dOf r2) 2),.n (gn (dOf r2) 3),.n (gn (dOf r2) 4),.n (0:Int)]))))
 (.bad 351)))))
 (.bad 351))))
 (.node (isK 1 [.b] r1)
 (.node (!gb (dOf r1) 0)
 (.leaf ((0,[.n (0:Int),.n (0:Int),.n (0:Int),.n (0:Int),.n (0:Int),.n (130:Int)])))
 (.bad 340))
 (.bad 351))))
 |_=>.bad 0
theorem q3c (l0:List (Ty.den TB)):Imp (s3o [.l TB l0]) (i4n [.l TB l0]):=
(.pa [1,1]
(.nd (fun h0=>
(.pa [1]
(.nd (fun h1=>
(.pa [1,1]
.lf)) (fun h1=>
(.pa [1]
(.nd (fun h2=>
(.pa [1,1,0,1]
(.nd (fun h3=>
(.pa [1,1,1,1,1,1]
.lf)) (fun h3=>
(.pa [1,0,1]
(.nd (fun h4=>
(.pa [1,1,1,1]
.lf)) (fun h4=>
(.pa [1]
(.nd (fun h5=>
(.pa [1,1]
(.nd (fun h6=>
(.pa [1,1]
.lf)) (fun h6=>
(.pa [1,1]
.lf))))) (fun h5=>
.none)))))))))) (fun h2=>
.none))))))) (fun h0=>
(.nd (fun h1=>
(.pa [1]
(.nd (fun h2=>
(.pa [1,1]
.lf)) (fun h2=>
(.pa [1]
.none))))) (fun h1=>
.none)))))
def j4k:FuncId→Option a0q:=a0s 26 B26r g4u
theorem w3k:CsOk Try.prog j4k:=a0g w3q l4j
def g4m (env:List Dat):Tree (Nat×List Dat):=Lk.boxC false LK j4k 28 ls0 (mkF [.imm TB 0] [] [] [(.tup [stV 0,.int .i64 5],[])] fun _=>none) env
theorem v3r:ExB g4m:=exB _
def h3n:=Classical.choose v3r
theorem p3z (env:List Dat):h3n env=(g4m env).sel:=Classical.choose_spec v3r env
def B28r:FBox:=mkF [.imm TB 0] [] [] [(.tup [stV 0,.int .i64 5],[])] h3n
theorem k4a:a0v Try.prog 28 (a0j B28r):=a0p (op:=h3n) w3k hmix false (LsOk.none _ _ _) (fun env x h=>by rw[p3z]at h;rw[←boxC_lk];exact h)
def s3u:List Dat→Tree (Nat×List Dat)
 |[.l (Ty.int IntKind.u8) l0]=>
 (let r1:=(k3s [.l TB l0,.n (3:Int)]);
 (.node (isK 0 [.b,.l TB,.b] r1)
 (.node (!gb (dOf r1) 0)
 (.leaf ((0,[.n (0:Int),.n (0:Int),.n (0:Int),.l TB (List.replicate 64 (0:Int)),.n (0:Int),.n (130:Int)])))
 (let r2:=(n3o [.l TB (gl TB (dOf r1) 1),.b (gb (dOf r1) 2)]);
 (.node (isK 0 [.n,.n,.n,.l TB,.n,.l TB,.b] r2)
 (.node (gb (dOf r2) 6)
 (.leaf ((0,[.n (0:Int),.n (0:Int),.n (0:Int),.l TB (List.replicate 64 (0:Int)),.n (0:Int),.n (130:Int)])))
 (.node (decide ((↑(List.length (gl TB (dOf r2) 5)):Int)>(0:Int)))
 (.leaf ((0,[.n (0:Int),.n (0:Int),.n (0:Int),.l TB (List.replicate 64 (0:Int)),.n (0:Int),.n (130:Int)])))
 (.leaf ((0,[.n (gn (dOf r2) 0),.n (gn (dOf r2) 1),.n (gn (dOf r2) 2),.l TB (gl TB (dOf r2) 3),.n (gn (dOf r2) 4),.n (0:Int)])))))
 (.bad 351))))
 (.node (isK 1 [.b] r1)
 (.node (!gb (dOf r1) 0)
 (.leaf ((0,[.n (0:Int),.n (0:Int),.n (0:Int),.l TB (List.replicate 64 (0:Int)),.n (0:Int),.n (130:Int)])))
 (.bad 340))
 (.bad 351))))
 |_=>.bad 0
theorem q3a (l0:List (Ty.den TB)):Imp (s3u [.l TB l0]) (g4m [.l TB l0]):=
(.pa [1,1]
(.nd (fun h0=>
(.pa [1]
(.nd (fun h1=>
(.pa [1,1]
.lf)) (fun h1=>
(.pa [1]
(.nd (fun h2=>
(.pa [1,1,0,1]
(.nd (fun h3=>
(.pa [1,1,1,1,1,1]
.lf)) (fun h3=>
(.pa [1,0,1]
(.nd (fun h4=>
(.pa [1,1,1,1]
.lf)) (fun h4=>
(.pa [1,1,0,1,1]
.lf)))))))) (fun h2=>
.none))))))) (fun h0=>
(.nd (fun h1=>
(.pa [1]
(.nd (fun h2=>
(.pa [1,1]
.lf)) (fun h2=>
(.pa [1]
.none))))) (fun h1=>
.none)))))
def m4h:FuncId→Option a0q:=a0s 28 B28r j4k
theorem y3b:CsOk Try.prog m4h:=a0g w3k k4a
def k4q (env:List Dat):Tree (Nat×List Dat):=Lk.boxC false LK m4h 30 ls0 (mkF [.imm TB 0] [] [] [(.tup [loV 0,.int .i64 7],[])] fun _=>none) env
theorem x3h:ExB k4q:=exB _
def h3f:=Classical.choose x3h
theorem p3f (env:List Dat):h3f env=(k4q env).sel:=Classical.choose_spec x3h env
def B30r:FBox:=mkF [.imm TB 0] [] [] [(.tup [loV 0,.int .i64 7],[])] h3f
theorem z3w:a0v Try.prog 30 (a0j B30r):=a0p (op:=h3f) y3b hmix false (LsOk.none _ _ _) (fun env x h=>by rw[p3f]at h;rw[←boxC_lk];exact h)
def r3y:List Dat→Tree (Nat×List Dat)
 |[.l (Ty.int IntKind.u8) l0]=>
 (let r1:=(k3s [.l TB l0,.n (4:Int)]);
 (.node (isK 0 [.b,.l TB,.b] r1)
 (.node (!gb (dOf r1) 0)
 (.leaf ((0,[.n (0:Int),.n (0:Int),.n (0:Int),.n (0:Int),.n (0:Int),.l TB (List.replicate 64 (0:Int)),.n (0:Int),.n (130:Int)])))
 (let r2:=(p3r [.l TB (gl TB (dOf r1) 1),.b (gb (dOf r1) 2)]);
 (.node (isK 0 [.n,.n,.n,.n,.n,.l TB,.n,.l TB,.b] r2)
 (.node (gb (dOf r2) 8)
 (.leaf ((0,[.n (0:Int),.n (0:Int),.n (0:Int),.n (0:Int),.n (0:Int),.l TB (List.replicate 64 (0:Int)),.n (0:Int),.n (130:Int)])))
 (.node (decide ((↑(List.length (gl TB (dOf r2) 7)):Int)>(0:Int)))
 (.leaf ((0,[.n (0:Int),.n (0:Int),.n (0:Int),.n (0:Int),.n (0:Int),.l TB (List.replicate 64 (0:Int)),.n (0:Int),.n (130:Int)])))
 (let r3:=(q3o [.n (1099511627776:Int),.l TI [gn (dOf r2) 0,gn (dOf r2) 1]]);
 (.node (isK 0 [.b] r3)
 (.node (!gb (dOf r3) 0)
 (.leaf ((0,[.n (0:Int),.n (0:Int),.n (0:Int),.n (0:Int),.n (0:Int),.l TB (List.replicate 64 (0:Int)),.n (0:Int),.n (130:Int)])))
 (.leaf ((0,[.n (gn (dOf r2) 0),.n (gn (dOf r2) 1),.n (gn (dOf r2) 2),.n (gn (dOf r2) 3),.n (gn (dOf r2) 4),.l TB (gl TB (dOf r2) 5),.n (gn (dOf r2) 6),.n (0:Int)]))))
 (.bad 351)))))
 (.bad 351))))
 (.node (isK 1 [.b] r1)
 (.node (!gb (dOf r1) 0)
 (.leaf ((0,[.n (0:Int),.n (0:Int),.n (0:Int),.n (0:Int),.n (0:Int),.l TB (List.replicate 64 (0:Int)),.n (0:Int),.n (130:Int)])))
 (.bad 340))
 (.bad 351))))
 |_=>.bad 0
theorem p3s (l0:List (Ty.den TB)):Imp (r3y [.l TB l0]) (k4q [.l TB l0]):=
(.pa [1,1]
(.nd (fun h0=>
(.pa [1]
(.nd (fun h1=>
(.pa [1,1]
.lf)) (fun h1=>
(.pa [1]
(.nd (fun h2=>
(.pa [1,1,0,1]
(.nd (fun h3=>
(.pa [1,1,1,1,1,1]
.lf)) (fun h3=>
(.pa [1,0,1]
(.nd (fun h4=>
(.pa [1,1,1,1]
.lf)) (fun h4=>
(.pa [1]
(.nd (fun h5=>
(.pa [1,1]
(.nd (fun h6=>
(.pa [1,1]
.lf)) (fun h6=>
(.pa [1,1]
.lf))))) (fun h5=>
.none)))))))))) (fun h2=>
.none))))))) (fun h0=>
(.nd (fun h1=>
(.pa [1]
(.nd (fun h2=>
(.pa [1,1]
.lf)) (fun h2=>
(.pa [1]
.none))))) (fun h1=>
.none)))))
def j4r:FuncId→Option a0q:=a0s 30 B30r m4h
theorem x3p:CsOk Try.prog j4r:=a0g y3b z3w
def h4k (env:List Dat):Tree (Nat×List Dat):=Lk.boxC false LK j4r 32 ls0 (mkF [.imm TB 0] [] [] [(.tup [liO 0 (.own 0),.int .i64 4],[.arr TB 5]),(.tup [liO 0 .nilsl,.int .i64 4],[])] fun _=>none) env
theorem t3q:ExB h4k:=exB _
def h3j:=Classical.choose t3q
theorem o3y (env:List Dat):h3j env=(h4k env).sel:=Classical.choose_spec t3q env
def B32r:FBox:=mkF [.imm TB 0] [] [] [(.tup [liO 0 (.own 0),.int .i64 4],[.arr TB 5]),(.tup [liO 0 .nilsl,.int .i64 4],[])] h3j
theorem a4y:a0v Try.prog 32 (a0j B32r):=a0p (op:=h3j) x3p hmix false (LsOk.none _ _ _) (fun env x h=>by rw[o3y]at h;rw[←boxC_lk];exact h)
def s3a:List Dat→Tree (Nat×List Dat)
 |[.l (Ty.int IntKind.u8) l0]=>
 (let r1:=(k3s [.l TB l0,.n (5:Int)]);
 (.node (isK 0 [.b,.l TB,.b] r1)
 (.node (!gb (dOf r1) 0)
 (.leaf ((1,[.n (0:Int),.n (0:Int),.n (0:Int),.n (0:Int),.n (130:Int)])))
 (let r2:=(p3j [.l TB (gl TB (dOf r1) 1),.b (gb (dOf r1) 2)]);
 (.node (isK 0 [.n,.n,.n,.n,.l TB,.b,.l TB] r2)
 (.node (gb (dOf r2) 5)
 (.leaf ((1,[.n (0:Int),.n (0:Int),.n (0:Int),.n (0:Int),.n (130:Int)])))
 (.node (decide ((↑(List.length (gl TB (dOf r2) 4)):Int)>(0:Int)))
 (.leaf ((1,[.n (0:Int),.n (0:Int),.n (0:Int),.n (0:Int),.n (130:Int)])))
 (let r3:=(j2c [.n (gn (dOf r2) 0),.n (gn (dOf r2) 1),.n (gn (dOf r2) 2),.n (gn (dOf r2) 3),.l TB (gl TB (dOf r2) 6)]);
 (.node (isK 0 [.b] r3)
 (.node (!gb (dOf r3) 0)
 (.leaf ((1,[.n (0:Int),.n (0:Int),.n (0:Int),.n (0:Int),.n (130:Int)])))
 (.leaf ((0,[.n (gn (dOf r2) 0),.n (gn (dOf r2) 1),.n (gn (dOf r2) 2),.n (gn (dOf r2) 3),.n (0:Int),.l TB (gl TB (dOf r2) 6)]))))
 (.bad 351)))))
 (.bad 351))))
 (.node (isK 1 [.b] r1)
 (.node (!gb (dOf r1) 0)
 (.leaf ((1,[.n (0:Int),.n (0:Int),.n (0:Int),.n (0:Int),.n (130:Int)])))
 (.bad 340))
 (.bad 351))))
 |_=>.bad 0
theorem q3f (l0:List (Ty.den TB)):Imp (s3a [.l TB l0]) (h4k [.l TB l0]):=
(.pa [1,1]
(.nd (fun h0=>
(.pa [1]
(.nd (fun h1=>
(.pa [1,1]
.lf)) (fun h1=>
(.pa [1]
(.nd (fun h2=>
(.pa [1,1,0,1]
(.nd (fun h3=>
(.pa [1,1,1,1,1,1]
.lf)) (fun h3=>
(.pa [1,0,1]
(.nd (fun h4=>
(.pa [1,1,1,1]
.lf)) (fun h4=>
(.nd (fun h5=>
(.pa [1]
(.nd (fun h6=>
(.pa [1,1]
.lf)) (fun h6=>
(.pa [1,1]
.lf))))) (fun h5=>
.none))))))))) (fun h2=>
.none))))))) (fun h0=>
(.nd (fun h1=>
(.pa [1]
(.nd (fun h2=>
(.pa [1,1]
.lf)) (fun h2=>
(.pa [1]
.none))))) (fun h1=>
.none)))))
def j4i:FuncId→Option a0q:=a0s 32 B32r j4r
theorem x3v:CsOk Try.prog j4i:=a0g x3p a4y
def h4m (env:List Dat):Tree (Nat×List Dat):=Lk.boxC false LK j4i 47 ls0 (mkF [.imm TB 0,.int .i64 1,.int .i64 2] [] [] [(.int .u64 0,[])] fun _=>none) env
theorem u3w:ExB h4m:=exB _
def i3d:=Classical.choose u3w
theorem v3j (env:List Dat):i3d env=(h4m env).sel:=Classical.choose_spec u3w env
def B47r:FBox:=mkF [.imm TB 0,.int .i64 1,.int .i64 2] [] [] [(.int .u64 0,[])] i3d
theorem B47r_ok:a0v Try.prog 47 (a0j B47r):=a0p (op:=i3d) x3v hmix false (LsOk.none _ _ _) (fun env x h=>by rw[v3j]at h;rw[←boxC_lk];exact h)
def c4e:List Dat→Tree (Nat×List Dat)
 |[.l (Ty.int IntKind.u8) l0,.n n1,.n n2]=>
 (.node (decide (IntKind.wrap .i64 (n1+n2)>(↑(List.length l0):Int)))
 (.leaf ((0,[.n (0:Int)])))
 (.node (decide ((0:Int)≤IntKind.wrap .i64 (n1+n2))&&decide (IntKind.wrap .i64 (n1+n2)≤(↑(List.length l0):Int)))
 (.node (decide ((0:Int)≤n1)&&decide (n1≤IntKind.wrap .i64 (n1+n2)))
 (let r1:=(u3r [.l TB (List.drop (Int.toNat n1) (List.take (Int.toNat (IntKind.wrap .i64 (n1+n2))) l0))]);
 (.node (isK 0 [.n] r1)
 (.leaf ((0,[.n (gn (dOf r1) 0)])))
 (.bad 351)))
 (.bad 43))
 (.bad 42)))
 |_=>.bad 0
theorem b4l (l0:List (Ty.den TB))(n1:Int)(n2:Int):Imp (c4e [.l TB l0,.n n1,.n n2]) (h4m [.l TB l0,.n n1,.n n2]):=
(.nd (fun h0=>
(.pa [1]
.lf)) (fun h0=>
(.nd (fun h1=>
(.nd (fun h2=>
(.nd (fun h3=>
(.pa [1,1]
.lf)) (fun h3=>
.none))) (fun h2=>
.none))) (fun h1=>
.none))))
def d4x:FuncId→Option a0q:=a0s 47 B47r j4i
theorem q3j:CsOk Try.prog d4x:=a0g x3v B47r_ok
def k3f (env:List Dat):Tree Step:=Lk.stepMC false LK d4x 54 3 ls0 (mkM 0 [] [(sh 39 [(0,.imm TB 0),(1,.int .i64 1),(4,.ptr 0 0),(5,.ptr 1 0),(6,.int .i64 2)],[stB 3,stB 8])] [] [(.exit 0,sh 39 [(4,.ptr 0 0),(5,.ptr 1 0)],[stB 0,stB 5])] fun _=>none) env
theorem n3s:ExL k3f:=exL _
def m3q:=Classical.choose n3s
theorem n3n (env:List Dat):m3q env=a0b k3f FU env:=Classical.choose_spec n3s env
def d4y:MBox:=mkM 0 [] [(sh 39 [(0,.imm TB 0),(1,.int .i64 1),(4,.ptr 0 0),(5,.ptr 1 0),(6,.int .i64 2)],[stB 3,stB 8])] [] [(.exit 0,sh 39 [(4,.ptr 0 0),(5,.ptr 1 0)],[stB 0,stB 5])] m3q
theorem f4m:d4y=mkM 0 [] [(sh 39 [(0,.imm TB 0),(1,.int .i64 1),(4,.ptr 0 0),(5,.ptr 1 0),(6,.int .i64 2)],[stB 3,stB 8])] [] [(.exit 0,sh 39 [(4,.ptr 0 0),(5,.ptr 1 0)],[stB 0,stB 5])] (a0b k3f FU):=congrArg (fun f=>mkM 0 [] [(sh 39 [(0,.imm TB 0),(1,.int .i64 1),(4,.ptr 0 0),(5,.ptr 1 0),(6,.int .i64 2)],[stB 3,stB 8])] [] [(.exit 0,sh 39 [(4,.ptr 0 0),(5,.ptr 1 0)],[stB 0,stB 5])] f) (funext n3n)
theorem f4c: ∀t s x,(a0h d4y t s).sel=some x→a0k Try.prog 0 (.loop (cAt Try.prog 54 3)) t s x:=by
 rw[f4m]
 exact a0o (st:=k3f) (m:=FU) q3j hmix false (LsOk.none _ _ _) (by kernel_rfl) (fun env y h=>by rw[←stepMC_lk];exact h)
def l3e:List Dat→Tree Step
 |[.l (Ty.int IntKind.u8) l0,.n n1,.n n2,.n n3,.n n4,.n n5,.l (Ty.int IntKind.u8) l6,.n n7,.n n8,.n n9,.n n10,.l (Ty.int IntKind.u8) l11,.n n12]=>
 (.node (decide (n2<(64:Int)))
 (let r1:=(i3d [.l TB l0,.n (IntKind.wrap .i64 (IntKind.wrap .i64 (n1+(24:Int))+n2)),.n (1:Int)]);
 (.node (isK 0 [.n] r1)
 (.leaf (Step.go [.k 0,.l TB l0,.n n1,.n (IntKind.wrap .i64 (n2+(1:Int))),.n n3,.n n4,.n n5,.l TB l6,.n n7,.n n8,.n n9,.n n10,.l TB (List.set l11 (Int.toNat n2) (IntKind.wrap .u8 (gn (dOf r1) 0))),.n n12]))
 (.bad 351)))
 (.leaf (Step.stop 0 [.n n3,.n n4,.n n5,.l TB l6,.n n7,.n n8,.n n9,.n n10,.l TB l11,.n n12])))
 |_=>.bad 0
theorem k3o (l0:List (Ty.den TB))(n1:Int)(n2:Int)(n3:Int)(n4:Int)(n5:Int)(l6:List (Ty.den TB))(n7:Int)(n8:Int)(n9:Int)(n10:Int)(l11:List (Ty.den TB))(n12:Int)(g0:0≤n2)(g1:l6.length=64)(g2:l11.length=64):Imp (l3e [.l TB l0,.n n1,.n n2,.n n3,.n n4,.n n5,.l TB l6,.n n7,.n n8,.n n9,.n n10,.l TB l11,.n n12]) (k3f [.k 0,.l TB l0,.n n1,.n n2,.n n3,.n n4,.n n5,.l TB l6,.n n7,.n n8,.n n9,.n n10,.l TB l11,.n n12]):=
(.pa [1]
(.nd (fun h0=>
(.nd (fun h1=>
(.pa [1]
(.pt (c:=(inR n2 64)) (by kernel_rfl) (by kernel_rfl) (by(simp only[w64d,decide_eq_true_eq,decide_eq_false_iff_not,beq_iff_eq,beq_eq_false_iff_ne,bne_iff_ne,ne_eq,inR,Bool.and_eq_true,Bool.and_eq_false_iff,Bool.not_eq_true',Bool.not_eq_false',Bool.not_eq_eq_eq_not,Bool.not_true,Bool.not_false]at*;omega))
(.pa [1]
.lf)))) (fun h1=>
.none))) (fun h0=>
(.pa [1]
.lf))))
theorem m4p:LsOk Try.prog (List.length ([]:List PB)) (lsM [(3,d4y)] (List.length ([]:List PB))) (a0r Try.prog 54):=LsOk.many fun j B hB hk c hc hi=>by
 simp only[b0d]at hB
 split at hB
 ·rename_i e;have:=Nat.eq_of_beq_eq_true e;subst this;cases hB
  have e1:p0c Try.prog 54 3=[cAt Try.prog 54 3]:=a0e (by kernel_rfl)
  have e2:c∈p0c Try.prog 54 3:=a0d hc hi
  rw[e1]at e2;cases List.mem_singleton.1 e2;exact f4c
 cases hB
def k4j (env:List Dat):Tree (Nat×List Dat):=Lk.boxC false LK d4x 54 (lsM [(3,d4y)] (List.length ([]:List PB))) (mkF [.imm TB 0,.int .i64 1] [] [] [(stV 0,[])] fun _=>none) env
theorem y3l:ExB k4j:=exB _
def r3d:=Classical.choose y3l
theorem x3x (env:List Dat):r3d env=(k4j env).sel:=Classical.choose_spec y3l env
def B54r:FBox:=mkF [.imm TB 0,.int .i64 1] [] [] [(stV 0,[])] r3d
theorem B54r_ok:a0v Try.prog 54 (a0j B54r):=a0p (op:=r3d) q3j hmix false (m4p) (fun env x h=>by rw[x3x]at h;rw[←boxC_lk];exact h)
def d4s:List Dat→Tree (Nat×List Dat)
 |[.l (Ty.int IntKind.u8) l0,.n n1]=>
 (let r1:=(i3d [.l TB l0,.n n1,.n (8:Int)]);
 (.node (isK 0 [.n] r1)
 (let r2:=(i3d [.l TB l0,.n (IntKind.wrap .i64 (n1+(8:Int))),.n (8:Int)]);
 (.node (isK 0 [.n] r2)
 (let r3:=(i3d [.l TB l0,.n (IntKind.wrap .i64 (n1+(16:Int))),.n (8:Int)]);
 (.node (isK 0 [.n] r3)
 (let r4:=(i3d [.l TB l0,.n (IntKind.wrap .i64 (n1+(88:Int))),.n (4:Int)]);
 (.node (isK 0 [.n] r4)
 (let r5:=(m3q [.k 0,.l TB l0,.n n1,.n (0:Int),.n (0:Int),.n (0:Int),.n (0:Int),.l TB (List.replicate 64 (0:Int)),.n (0:Int),.n (gn (dOf r1) 0),.n (gn (dOf r2) 0),.n (gn (dOf r3) 0),.l TB (List.replicate 64 (0:Int)),.n (IntKind.wrap .u32 (gn (dOf r4) 0))]);
 (.node (isK 0 [.n,.n,.n,.l TB,.n,.n,.n,.n,.l TB,.n] r5)
 (.leaf ((0,[.n (gn (dOf r5) 5),.n (gn (dOf r5) 6),.n (gn (dOf r5) 7),.l TB (gl TB (dOf r5) 8),.n (gn (dOf r5) 9)])))
 (.bad 351)))
 (.bad 351)))
 (.bad 351)))
 (.bad 351)))
 (.bad 351)))
 |_=>.bad 0
theorem y3w (l0:List (Ty.den TB))(n1:Int):Imp (d4s [.l TB l0,.n n1]) (k4j [.l TB l0,.n n1]):=
(.nd (fun h0=>
(.pa [1]
(.nd (fun h1=>
(.pa [1]
(.nd (fun h2=>
(.pa [1]
(.nd (fun h3=>
(.pa [1]
(.nd (fun h4=>
(.pa [1]
.lf)) (fun h4=>
.none)))) (fun h3=>
.none)))) (fun h2=>
.none)))) (fun h1=>
.none)))) (fun h0=>
.none))
def e4c:FuncId→Option a0q:=a0s 54 B54r d4x
theorem p3i:CsOk Try.prog e4c:=a0g q3j B54r_ok
def k3b (env:List Dat):Tree Step:=Lk.stepMC false LK e4c 24 8 ls0 (mkM (cv:=[(4,[],5,.own TC)]) 0 [] [(sh 76 [(0,.imm TB 0),(2,.ptr 0 0),(4,.ptr 1 0),(5,.int .i64 1),(6,.int .i64 2)],[inC 3 .nilsl,inC 8 (.own 2),.arr TC 13])] [] [(.exit 0,sh 76 [(0,.imm TB 0),(2,.ptr 0 0),(4,.ptr 1 0)],[inC 1 .nilsl,inC 6 (.own 2),.arr TC 11])] fun _=>none) env
theorem n3t:ExL k3b:=exL _
def m3s:=Classical.choose n3t
theorem o3b (env:List Dat):m3s env=a0b k3b FU env:=Classical.choose_spec n3t env
def c4j:MBox:=mkM (cv:=[(4,[],5,.own TC)]) 0 [] [(sh 76 [(0,.imm TB 0),(2,.ptr 0 0),(4,.ptr 1 0),(5,.int .i64 1),(6,.int .i64 2)],[inC 3 .nilsl,inC 8 (.own 2),.arr TC 13])] [] [(.exit 0,sh 76 [(0,.imm TB 0),(2,.ptr 0 0),(4,.ptr 1 0)],[inC 1 .nilsl,inC 6 (.own 2),.arr TC 11])] m3s
theorem e4z:c4j=mkM (cv:=[(4,[],5,.own TC)]) 0 [] [(sh 76 [(0,.imm TB 0),(2,.ptr 0 0),(4,.ptr 1 0),(5,.int .i64 1),(6,.int .i64 2)],[inC 3 .nilsl,inC 8 (.own 2),.arr TC 13])] [] [(.exit 0,sh 76 [(0,.imm TB 0),(2,.ptr 0 0),(4,.ptr 1 0)],[inC 1 .nilsl,inC 6 (.own 2),.arr TC 11])] (a0b k3b FU):=congrArg (fun f=>mkM (cv:=[(4,[],5,.own TC)]) 0 [] [(sh 76 [(0,.imm TB 0),(2,.ptr 0 0),(4,.ptr 1 0),(5,.int .i64 1),(6,.int .i64 2)],[inC 3 .nilsl,inC 8 (.own 2),.arr TC 13])] [] [(.exit 0,sh 76 [(0,.imm TB 0),(2,.ptr 0 0),(4,.ptr 1 0)],[inC 1 .nilsl,inC 6 (.own 2),.arr TC 11])] f) (funext o3b)
theorem f4i: ∀t s x,(a0h c4j t s).sel=some x→a0k Try.prog 0 (.loop (cAt Try.prog 24 8)) t s x:=by
 rw[e4z]
 exact a0o (st:=k3b) (m:=FU) p3i hmix false (LsOk.none _ _ _) (by kernel_rfl) (fun env y h=>by rw[←stepMC_lk];exact h)
def l3q:List Dat→Tree Step
 |[.l (Ty.int IntKind.u8) l0,.n n1,.n n2,.n n3,.n n4,.n n5,.n n6,.n n7,.l (Ty.pair (Ty.int IntKind.u8) (Ty.int IntKind.i64)) l8]=>
 (.node (decide (n2<n1))
 (.node (inR (IntKind.wrap .i64 ((27:Int)+IntKind.wrap .i64 ((2:Int)*n2))) (List.length l0))
 (.node (inR (IntKind.wrap .i64 ((28:Int)+IntKind.wrap .i64 ((2:Int)*n2))) (List.length l0))
 (.node (decide ((List.length l8+1)*16≤140737488355328))
 (.leaf (Step.go [.k 0,.l TB l0,.n n1,.n (IntKind.wrap .i64 (n2+(1:Int))),.n (0:Int),.n (0:Int),.n (0:Int),.n (0:Int),.n (0:Int),.n n3,.n n4,.n n5,.n n6,.n n7,.l TC (apC l8 (List.getD l0 (Int.toNat (IntKind.wrap .i64 ((27:Int)+IntKind.wrap .i64 ((2:Int)*n2)))) (0:Int)) (IntKind.wrap .i64 (List.getD l0 (Int.toNat (IntKind.wrap .i64 ((28:Int)+IntKind.wrap .i64 ((2:Int)*n2)))) (0:Int))))]))
 (.bad 62))
 (.bad 10))
 (.bad 10))
 (.leaf (Step.stop 0 [.l TB l0,.n (0:Int),.n (0:Int),.n (0:Int),.n (0:Int),.n (0:Int),.n n3,.n n4,.n n5,.n n6,.n n7,.l TC l8])))
 |_=>.bad 0
theorem l3b (l0:List (Ty.den TB))(n1:Int)(n2:Int)(n3:Int)(n4:Int)(n5:Int)(n6:Int)(n7:Int)(l8:List (Ty.den TC))(g0:0≤n2):Imp (l3q [.l TB l0,.n n1,.n n2,.n n3,.n n4,.n n5,.n n6,.n n7,.l TC l8]) (k3b [.k 0,.l TB l0,.n n1,.n n2,.n 0,.n 0,.n 0,.n 0,.n 0,.n n3,.n n4,.n n5,.n n6,.n n7,.l TC l8]):=
(.pa [1]
(.nd (fun h0=>
(.nd (fun h1=>
(.nd (fun h2=>
(.nd (fun h3=>
(.pa [1,1]
.lf)) (fun h3=>
.none))) (fun h2=>
.none))) (fun h1=>
.none))) (fun h0=>
(.pa [1]
.lf))))
theorem g4l:LsOk Try.prog (List.length ([]:List PB)) (lsM [(8,c4j)] (List.length ([]:List PB))) (a0r Try.prog 24):=LsOk.many fun j B hB hk c hc hi=>by
 simp only[b0d]at hB
 split at hB
 ·rename_i e;have:=Nat.eq_of_beq_eq_true e;subst this;cases hB
  have e1:p0c Try.prog 24 8=[cAt Try.prog 24 8]:=a0e (by kernel_rfl)
  have e2:c∈p0c Try.prog 24 8:=a0d hc hi
  rw[e1]at e2;cases List.mem_singleton.1 e2;exact f4i
 cases hB
def f4z (env:List Dat):Tree (Nat×List Dat):=Lk.boxC false LK e4c 24 (lsM [(8,c4j)] (List.length ([]:List PB))) (mkF [.imm TB 0] [] [] [(.tup [inO 0 (.own 0),.bool 5],[.arr TC 6]),(.tup [inO 0 .nilsl,.bool 5],[])] fun _=>none) env
theorem u3a:ExB f4z:=exB _
def h3s:=Classical.choose u3a
theorem m3t (env:List Dat):h3s env=(f4z env).sel:=Classical.choose_spec u3a env
def B24r:FBox:=mkF [.imm TB 0] [] [] [(.tup [inO 0 (.own 0),.bool 5],[.arr TC 6]),(.tup [inO 0 .nilsl,.bool 5],[])] h3s
theorem B24r_ok:a0v Try.prog 24 (a0j B24r):=a0p (op:=h3s) p3i hmix false (g4l) (fun env x h=>by rw[m3t]at h;rw[←boxC_lk];exact h)
def o3m:List Dat→Tree (Nat×List Dat)
 |[.l (Ty.int IntKind.u8) l0]=>
 (.node (decide ((↑(List.length l0):Int)<(31:Int)))
 (.leaf ((1,[.n (0:Int),.n (0:Int),.n (0:Int),.n (0:Int),.n (0:Int),.b false])))
 (let r1:=(i3d [.l TB l0,.n (2:Int),.n (8:Int)]);
 (.node (isK 0 [.n] r1)
 (let r2:=(i3d [.l TB l0,.n (10:Int),.n (8:Int)]);
 (.node (isK 0 [.n] r2)
 (let r3:=(i3d [.l TB l0,.n (18:Int),.n (4:Int)]);
 (.node (isK 0 [.n] r3)
 (let r4:=(i3d [.l TB l0,.n (22:Int),.n (4:Int)]);
 (.node (isK 0 [.n] r4)
 (.node (decide (IntKind.wrap .i64 (List.getD l0 26 (0:Int))>(8:Int)))
 (.leaf ((1,[.n (0:Int),.n (0:Int),.n (0:Int),.n (0:Int),.n (0:Int),.b false])))
 (.node ((↑(List.length l0):Int) !=IntKind.wrap .i64 ((31:Int)+IntKind.wrap .i64 ((2:Int)*IntKind.wrap .i64 (List.getD l0 26 (0:Int)))))
 (.leaf ((1,[.n (0:Int),.n (0:Int),.n (0:Int),.n (0:Int),.n (0:Int),.b false])))
 (let r5:=(m3s [.k 0,.l TB l0,.n (IntKind.wrap .i64 (List.getD l0 26 (0:Int))),.n (0:Int),.n (0:Int),.n (0:Int),.n (0:Int),.n (0:Int),.n (0:Int),.n (List.getD l0 1 (0:Int)),.n (IntKind.wrap .i64 (gn (dOf r1) 0)),.n (gn (dOf r2) 0),.n (IntKind.wrap .u32 (gn (dOf r3) 0)),.n (IntKind.wrap .u32 (gn (dOf r4) 0)),.l TC []]);
 (.node (isK 0 [.l TB,.n,.n,.n,.n,.n,.n,.n,.n,.n,.n,.l TC] r5)
 (let r6:=(m3p [.n (gn (dOf r5) 6),.n (gn (dOf r5) 7),.n (gn (dOf r5) 8),.n (gn (dOf r5) 9),.n (gn (dOf r5) 10),.l TC (gl TC (dOf r5) 11)]);
 (.node (isK 0 [.l TB] r6)
 (.node (!f0b (r2b (gl TB (dOf r6) 0)) (r2b (gl TB (dOf r5) 0)))
 (.leaf ((1,[.n (0:Int),.n (0:Int),.n (0:Int),.n (0:Int),.n (0:Int),.b false])))
 (.leaf ((0,[.n (gn (dOf r5) 6),.n (gn (dOf r5) 7),.n (gn (dOf r5) 8),.n (gn (dOf r5) 9),.n (gn (dOf r5) 10),.b true,.l TC (gl TC (dOf r5) 11)]))))
 (.bad 351)))
 (.bad 351)))))
 (.bad 351)))
 (.bad 351)))
 (.bad 351)))
 (.bad 351))))
 |_=>.bad 0
theorem l3d (l0:List (Ty.den TB)):Imp (o3m [.l TB l0]) (f4z [.l TB l0]):=
(.nd (fun h0=>
(.pa [1]
.lf)) (fun h0=>
(.pt (c:=(inR (1:Int) (List.length l0))) (by kernel_rfl) (by kernel_rfl) (by(simp only[w64d,decide_eq_true_eq,decide_eq_false_iff_not,beq_iff_eq,beq_eq_false_iff_ne,bne_iff_ne,ne_eq,inR,Bool.and_eq_true,Bool.and_eq_false_iff,Bool.not_eq_true',Bool.not_eq_false',Bool.not_eq_eq_eq_not,Bool.not_true,Bool.not_false]at*;omega))
(.nd (fun h1=>
(.pa [1]
(.nd (fun h2=>
(.pa [1]
(.nd (fun h3=>
(.pa [1]
(.nd (fun h4=>
(.pa [1,1]
(.pt (c:=(inR (26:Int) (List.length l0))) (by kernel_rfl) (by kernel_rfl) (by(simp only[w64d,decide_eq_true_eq,decide_eq_false_iff_not,beq_iff_eq,beq_eq_false_iff_ne,bne_iff_ne,ne_eq,inR,Bool.and_eq_true,Bool.and_eq_false_iff,Bool.not_eq_true',Bool.not_eq_false',Bool.not_eq_eq_eq_not,Bool.not_true,Bool.not_false]at*;omega))
(.nd (fun h5=>
(.pa [1,1,1]
.lf)) (fun h5=>
(.nd (fun h6=>
(.pa [1]
.lf)) (fun h6=>
(.nd (fun h7=>
(.nd (fun h8=>
(.pa [1,1]
(.nd (fun h9=>
(.pa [1]
.lf)) (fun h9=>
(.pa [1]
.lf))))) (fun h8=>
.none))) (fun h7=>
.none))))))))) (fun h4=>
.none)))) (fun h3=>
.none)))) (fun h2=>
.none)))) (fun h1=>
.none)))))
def l4g:FuncId→Option a0q:=a0s 24 B24r e4c
theorem t3k:CsOk Try.prog l4g:=a0g p3i B24r_ok
def j4y (env:List Dat):Tree (Nat×List Dat):=Lk.boxC false LK l4g 27 ls0 (mkF [.imm TB 0] [] [] [(.tup [ouV 0,.bool 5],[])] fun _=>none) env
theorem v3x:ExB j4y:=exB _
def i3c:=Classical.choose v3x
theorem p3p (env:List Dat):i3c env=(j4y env).sel:=Classical.choose_spec v3x env
def B27r:FBox:=mkF [.imm TB 0] [] [] [(.tup [ouV 0,.bool 5],[])] i3c
theorem B27r_ok:a0v Try.prog 27 (a0j B27r):=a0p (op:=i3c) t3k hmix false (LsOk.none _ _ _) (fun env x h=>by rw[p3p]at h;rw[←boxC_lk];exact h)
def r3s:List Dat→Tree (Nat×List Dat)
 |[.l (Ty.int IntKind.u8) l0]=>
 (.node ((↑(List.length l0):Int) !=(34:Int))
 (.leaf ((0,[.n (0:Int),.n (0:Int),.n (0:Int),.n (0:Int),.n (0:Int),.b false])))
 (.node (inR (1:Int) (List.length l0))
 (let r1:=(i3d [.l TB l0,.n (2:Int),.n (8:Int)]);
 (.node (isK 0 [.n] r1)
 (let r2:=(i3d [.l TB l0,.n (10:Int),.n (8:Int)]);
 (.node (isK 0 [.n] r2)
 (let r3:=(i3d [.l TB l0,.n (18:Int),.n (8:Int)]);
 (.node (isK 0 [.n] r3)
 (let r4:=(i3d [.l TB l0,.n (26:Int),.n (4:Int)]);
 (.node (isK 0 [.n] r4)
 (let r5:=(m3m [.n (List.getD l0 1 (0:Int)),.n (IntKind.wrap .i64 (gn (dOf r1) 0)),.n (IntKind.wrap .i64 (gn (dOf r2) 0)),.n (gn (dOf r3) 0),.n (IntKind.wrap .u32 (gn (dOf r4) 0))]);
 (.node (isK 0 [.l TB] r5)
 (.node (!f0b (r2b (gl TB (dOf r5) 0)) (r2b l0))
 (.leaf ((0,[.n (0:Int),.n (0:Int),.n (0:Int),.n (0:Int),.n (0:Int),.b false])))
 (.leaf ((0,[.n (List.getD l0 1 (0:Int)),.n (IntKind.wrap .i64 (gn (dOf r1) 0)),.n (IntKind.wrap .i64 (gn (dOf r2) 0)),.n (gn (dOf r3) 0),.n (IntKind.wrap .u32 (gn (dOf r4) 0)),.b true]))))
 (.bad 351)))
 (.bad 351)))
 (.bad 351)))
 (.bad 351)))
 (.bad 351)))
 (.bad 10)))
 |_=>.bad 0
theorem q3b (l0:List (Ty.den TB)):Imp (r3s [.l TB l0]) (j4y [.l TB l0]):=
(.nd (fun h0=>
(.pa [1]
.lf)) (fun h0=>
(.nd (fun h1=>
(.nd (fun h2=>
(.pa [1]
(.nd (fun h3=>
(.pa [1]
(.nd (fun h4=>
(.pa [1]
(.nd (fun h5=>
(.pa [1,1]
(.nd (fun h6=>
(.pa [1,1]
(.nd (fun h7=>
(.pa [1]
.lf)) (fun h7=>
(.pa [1]
.lf))))) (fun h6=>
.none)))) (fun h5=>
.none)))) (fun h4=>
.none)))) (fun h3=>
.none)))) (fun h2=>
.none))) (fun h1=>
.none))))
def h4z:FuncId→Option a0q:=a0s 27 B27r l4g
theorem t3f:CsOk Try.prog h4z:=a0g t3k B27r_ok
def m4a (env:List Dat):Tree (Nat×List Dat):=Lk.boxC false LK h4z 29 ls0 (mkF [.imm TB 0] [] [] [(.tup [stV 0,.bool 5],[])] fun _=>none) env
theorem v3o:ExB m4a:=exB _
def i3b:=Classical.choose v3o
theorem v3e (env:List Dat):i3b env=(m4a env).sel:=Classical.choose_spec v3o env
def B29r:FBox:=mkF [.imm TB 0] [] [] [(.tup [stV 0,.bool 5],[])] i3b
theorem B29r_ok:a0v Try.prog 29 (a0j B29r):=a0p (op:=i3b) t3f hmix false (LsOk.none _ _ _) (fun env x h=>by rw[v3e]at h;rw[←boxC_lk];exact h)
def c4v:List Dat→Tree (Nat×List Dat)
 |[.l (Ty.int IntKind.u8) l0]=>
 (let r1:=(r3d [.l TB l0,.n (1:Int)]);
 (.node (isK 0 [.n,.n,.n,.l TB,.n] r1)
 (let r2:=(l3z [.n (gn (dOf r1) 0),.n (gn (dOf r1) 1),.n (gn (dOf r1) 2),.l TB (gl TB (dOf r1) 3),.n (gn (dOf r1) 4)]);
 (.node (isK 0 [.l TB] r2)
 (.node (!f0b (r2b (gl TB (dOf r2) 0)) (r2b l0))
 (.leaf ((0,[.n (0:Int),.n (0:Int),.n (0:Int),.l TB (List.replicate 64 (0:Int)),.n (0:Int),.b false])))
 (.leaf ((0,[.n (gn (dOf r1) 0),.n (gn (dOf r1) 1),.n (gn (dOf r1) 2),.l TB (gl TB (dOf r1) 3),.n (gn (dOf r1) 4),.b true]))))
 (.bad 351)))
 (.bad 351)))
 |_=>.bad 0
theorem y3t (l0:List (Ty.den TB)):Imp (c4v [.l TB l0]) (m4a [.l TB l0]):=
(.nd (fun h0=>
(.pa [1]
(.nd (fun h1=>
(.pa [1,1]
(.nd (fun h2=>
(.pa [1]
.lf)) (fun h2=>
(.pa [1]
.lf))))) (fun h1=>
.none)))) (fun h0=>
.none))
def k4h:FuncId→Option a0q:=a0s 29 B29r h4z
theorem v3h:CsOk Try.prog k4h:=a0g t3f B29r_ok
def g4s (env:List Dat):Tree (Nat×List Dat):=Lk.boxC false LK k4h 31 ls0 (mkF [.imm TB 0] [] [] [(.tup [loV 0,.bool 7],[])] fun _=>none) env
theorem t3z:ExB g4s:=exB _
def h3u:=Classical.choose t3z
theorem v3z (env:List Dat):h3u env=(g4s env).sel:=Classical.choose_spec t3z env
def B31r:FBox:=mkF [.imm TB 0] [] [] [(.tup [loV 0,.bool 7],[])] h3u
theorem B31r_ok:a0v Try.prog 31 (a0j B31r):=a0p (op:=h3u) v3h hmix false (LsOk.none _ _ _) (fun env x h=>by rw[v3z]at h;rw[←boxC_lk];exact h)
def b4y:List Dat→Tree (Nat×List Dat)
 |[.l (Ty.int IntKind.u8) l0]=>
 (let r1:=(i3d [.l TB l0,.n (1:Int),.n (8:Int)]);
 (.node (isK 0 [.n] r1)
 (let r2:=(i3d [.l TB l0,.n (9:Int),.n (8:Int)]);
 (.node (isK 0 [.n] r2)
 (let r3:=(r3d [.l TB l0,.n (17:Int)]);
 (.node (isK 0 [.n,.n,.n,.l TB,.n] r3)
 (let r4:=(l3x [.n (IntKind.wrap .i64 (gn (dOf r1) 0)),.n (IntKind.wrap .i64 (gn (dOf r2) 0)),.n (gn (dOf r3) 0),.n (gn (dOf r3) 1),.n (gn (dOf r3) 2),.l TB (gl TB (dOf r3) 3),.n (gn (dOf r3) 4)]);
 (.node (isK 0 [.l TB] r4)
 (.node (!f0b (r2b (gl TB (dOf r4) 0)) (r2b l0))
 (.leaf ((0,[.n (0:Int),.n (0:Int),.n (0:Int),.n (0:Int),.n (0:Int),.l TB (List.replicate 64 (0:Int)),.n (0:Int),.b false])))
 (.node ((↑(List.length l0):Int)==(0:Int))
 (.leaf ((0,[.n (0:Int),.n (0:Int),.n (0:Int),.n (0:Int),.n (0:Int),.l TB (List.replicate 64 (0:Int)),.n (0:Int),.b false])))
 (.leaf ((0,[.n (IntKind.wrap .i64 (gn (dOf r1) 0)),.n (IntKind.wrap .i64 (gn (dOf r2) 0)),.n (gn (dOf r3) 0),.n (gn (dOf r3) 1),.n (gn (dOf r3) 2),.l TB (gl TB (dOf r3) 3),.n (gn (dOf r3) 4),.b true])))))
 (.bad 351)))
 (.bad 351)))
 (.bad 351)))
 (.bad 351)))
 |_=>.bad 0
theorem a4q (l0:List (Ty.den TB)):Imp (b4y [.l TB l0]) (g4s [.l TB l0]):=
(.nd (fun h0=>
(.pa [1]
(.nd (fun h1=>
(.pa [1]
(.nd (fun h2=>
(.pa [1]
(.nd (fun h3=>
(.pa [1]
(.nd (fun h4=>
(.pa [1,1,1,1]
.lf)) (fun h4=>
(.pa [1]
(.nd (fun h5=>
(.pa [1]
.lf)) (fun h5=>
(.pa [1]
.lf)))))))) (fun h3=>
.none)))) (fun h2=>
.none)))) (fun h1=>
.none)))) (fun h0=>
.none))
def k4i:FuncId→Option a0q:=a0s 31 B31r k4h
theorem x3n:CsOk Try.prog k4i:=a0g v3h B31r_ok
def i4m (env:List Dat):Tree (Nat×List Dat):=Lk.boxC false LK k4i 33 ls0 (mkF [.imm TB 0] [] [] [(.tup [lmV 0,.bool 5],[])] fun _=>none) env
theorem v3w:ExB i4m:=exB _
def i3e:=Classical.choose v3w
theorem q3g (env:List Dat):i3e env=(i4m env).sel:=Classical.choose_spec v3w env
def B33g:FBox:=mkF [.imm TB 0] [] [] [(.tup [lmV 0,.bool 5],[])] i3e
theorem B33g_ok:a0v Try.prog 33 (a0j B33g):=a0p (op:=i3e) x3n hmix false (LsOk.none _ _ _) (fun env x h=>by rw[q3g]at h;rw[←boxC_lk];exact h)
def s3f:List Dat→Tree (Nat×List Dat)
 |[.l (Ty.int IntKind.u8) l0]=>
 (.node (decide ((↑(List.length l0):Int)<(25:Int)))
 (.leaf ((0,[.n (0:Int),.n (0:Int),.n (0:Int),.n (0:Int),.s {data:={toList:=[]}},.b false])))
 (let r1:=(i3d [.l TB l0,.n (3:Int),.n (8:Int)]);
 (.node (isK 0 [.n] r1)
 (let r2:=(i3d [.l TB l0,.n (11:Int),.n (8:Int)]);
 (.node (isK 0 [.n] r2)
 (.node (decide ((0:Int)≤IntKind.wrap .i64 ((↑(List.length l0):Int)-(4:Int)))&&decide (IntKind.wrap .i64 ((↑(List.length l0):Int)-(4:Int))≤(↑(List.length l0):Int)))
 (.node (true&&decide ((21:Int)≤IntKind.wrap .i64 ((↑(List.length l0):Int)-(4:Int))))
 (let r3:=(m3y [.n (List.getD l0 1 (0:Int)),.n (List.getD l0 2 (0:Int)),.n (IntKind.wrap .i64 (gn (dOf r1) 0)),.n (IntKind.wrap .i64 (gn (dOf r2) 0)),.s (r2b (List.drop 21 (List.take (Int.toNat (IntKind.wrap .i64 ((↑(List.length l0):Int)-(4:Int)))) l0)))]);
 (.node (isK 0 [.l TB] r3)
 (.node (!f0b (r2b (gl TB (dOf r3) 0)) (r2b l0))
 (.leaf ((0,[.n (0:Int),.n (0:Int),.n (0:Int),.n (0:Int),.s {data:={toList:=[]}},.b false])))
 (.leaf ((0,[.n (List.getD l0 1 (0:Int)),.n (List.getD l0 2 (0:Int)),.n (IntKind.wrap .i64 (gn (dOf r1) 0)),.n (IntKind.wrap .i64 (gn (dOf r2) 0)),.s (r2b (List.drop 21 (List.take (Int.toNat (IntKind.wrap .i64 ((↑(List.length l0):Int)-(4:Int)))) l0))),.b true]))))
 (.bad 351)))
 (.bad 43))
 (.bad 42))
 (.bad 351)))
 (.bad 351))))
 |_=>.bad 0
theorem o3w (l0:List (Ty.den TB)):Imp (s3f [.l TB l0]) (i4m [.l TB l0]):=
(.nd (fun h0=>
(.pa [1]
.lf)) (fun h0=>
(.pt (c:=(inR (1:Int) (List.length l0))) (by kernel_rfl) (by kernel_rfl) (by(simp only[w64d,decide_eq_true_eq,decide_eq_false_iff_not,beq_iff_eq,beq_eq_false_iff_ne,bne_iff_ne,ne_eq,inR,Bool.and_eq_true,Bool.and_eq_false_iff,Bool.not_eq_true',Bool.not_eq_false',Bool.not_eq_eq_eq_not,Bool.not_true,Bool.not_false]at*;omega))
(.pt (c:=(inR (2:Int) (List.length l0))) (by kernel_rfl) (by kernel_rfl) (by(simp only[w64d,decide_eq_true_eq,decide_eq_false_iff_not,beq_iff_eq,beq_eq_false_iff_ne,bne_iff_ne,ne_eq,inR,Bool.and_eq_true,Bool.and_eq_false_iff,Bool.not_eq_true',Bool.not_eq_false',Bool.not_eq_eq_eq_not,Bool.not_true,Bool.not_false]at*;omega))
(.nd (fun h1=>
(.pa [1]
(.nd (fun h2=>
(.pa [1]
(.nd (fun h3=>
(.nd (fun h4=>
(.pa [1]
(.nd (fun h5=>
(.pa [1,1]
(.nd (fun h6=>
(.pa [1]
.lf)) (fun h6=>
(.pa [1]
.lf))))) (fun h5=>
.none)))) (fun h4=>
.none))) (fun h3=>
.none)))) (fun h2=>
.none)))) (fun h1=>
.none))))))
def e4d:FuncId→Option a0q:=a0s 33 B33g k4i
theorem p3e:CsOk Try.prog e4d:=a0g x3n B33g_ok
def k3h (env:List Dat):Tree Step:=Lk.stepMC false LK e4d 25 4 ls0 (mkM 0 [] [(sh 77 [(2,.ptr 0 0),(3,.ptr 1 0),(5,.int .i64 0)],[inB 1,inB 7])] [] [(.exit 0,sh 77 [],[]),(.ret,sh 77 [(4,.bool 0)],[])] fun _=>none) env
theorem n3l:ExL k3h:=exL _
def m3h:=Classical.choose n3l
theorem n3h (env:List Dat):m3h env=a0b k3h FU env:=Classical.choose_spec n3l env
def c4a:MBox:=mkM 0 [] [(sh 77 [(2,.ptr 0 0),(3,.ptr 1 0),(5,.int .i64 0)],[inB 1,inB 7])] [] [(.exit 0,sh 77 [],[]),(.ret,sh 77 [(4,.bool 0)],[])] m3h
theorem e4y:c4a=mkM 0 [] [(sh 77 [(2,.ptr 0 0),(3,.ptr 1 0),(5,.int .i64 0)],[inB 1,inB 7])] [] [(.exit 0,sh 77 [],[]),(.ret,sh 77 [(4,.bool 0)],[])] (a0b k3h FU):=congrArg (fun f=>mkM 0 [] [(sh 77 [(2,.ptr 0 0),(3,.ptr 1 0),(5,.int .i64 0)],[inB 1,inB 7])] [] [(.exit 0,sh 77 [],[]),(.ret,sh 77 [(4,.bool 0)],[])] f) (funext n3h)
theorem e4v: ∀t s x,(a0h c4a t s).sel=some x→a0k Try.prog 0 (.loop (cAt Try.prog 25 4)) t s x:=by
 rw[e4y]
 exact a0o (st:=k3h) (m:=FU) p3e hmix false (LsOk.none _ _ _) (by kernel_rfl) (fun env y h=>by rw[←stepMC_lk];exact h)
def l3g:List Dat→Tree Step
 |[.n n0,.n n1,.n n2,.n n3,.n n4,.n n5,.l (Ty.pair (Ty.int IntKind.u8) (Ty.int IntKind.i64)) l6,.n n7,.n n8,.n n9,.n n10,.n n11,.l (Ty.pair (Ty.int IntKind.u8) (Ty.int IntKind.i64)) l12]=>
 (.node (decide (n0<(↑(List.length l6):Int)))
 (.node (!(Prod.fst (List.getD l6 (Int.toNat n0) (Ty.dflt TC))==Prod.fst (List.getD l12 (Int.toNat n0) (Ty.dflt TC))&&(Prod.snd (List.getD l6 (Int.toNat n0) (Ty.dflt TC))==Prod.snd (List.getD l12 (Int.toNat n0) (Ty.dflt TC))&&true)))
 (.leaf (Step.stop 1 [.b false]))
 (.leaf (Step.go [.k 0,.n (IntKind.wrap .i64 (n0+(1:Int))),.n n1,.n n2,.n n3,.n n4,.n n5,.l TC l6,.n n7,.n n8,.n n9,.n n10,.n n11,.l TC l12])))
 (.leaf (Step.stop 0 [])))
 |_=>.bad 0
theorem k3x (n0:Int)(n1:Int)(n2:Int)(n3:Int)(n4:Int)(n5:Int)(l6:List (Ty.den TC))(n7:Int)(n8:Int)(n9:Int)(n10:Int)(n11:Int)(l12:List (Ty.den TC))(g0:0≤n0)(g1:(l12.length:Int)=(l6.length:Int)):Imp (l3g [.n n0,.n n1,.n n2,.n n3,.n n4,.n n5,.l TC l6,.n n7,.n n8,.n n9,.n n10,.n n11,.l TC l12]) (k3h [.k 0,.n n0,.n n1,.n n2,.n n3,.n n4,.n n5,.l TC l6,.n n7,.n n8,.n n9,.n n10,.n n11,.l TC l12]):=
(.pa [1]
(.nd (fun h0=>
(.pt (c:=(inR n0 (List.length l6))) (by kernel_rfl) (by kernel_rfl) (by(simp only[w64d,decide_eq_true_eq,decide_eq_false_iff_not,beq_iff_eq,beq_eq_false_iff_ne,bne_iff_ne,ne_eq,inR,Bool.and_eq_true,Bool.and_eq_false_iff,Bool.not_eq_true',Bool.not_eq_false',Bool.not_eq_eq_eq_not,Bool.not_true,Bool.not_false]at*;omega))
(.pt (c:=(inR n0 (List.length l12))) (by kernel_rfl) (by kernel_rfl) (by(simp only[w64d,decide_eq_true_eq,decide_eq_false_iff_not,beq_iff_eq,beq_eq_false_iff_ne,bne_iff_ne,ne_eq,inR,Bool.and_eq_true,Bool.and_eq_false_iff,Bool.not_eq_true',Bool.not_eq_false',Bool.not_eq_eq_eq_not,Bool.not_true,Bool.not_false]at*;omega))
(.pa [1]
(.nd (fun h1=>
(.pa [1]
.lf)) (fun h1=>
(.pa [1]
.lf))))))) (fun h0=>
(.pa [1]
.lf))))
theorem i4b:LsOk Try.prog (List.length ([]:List PB)) (lsM [(4,c4a)] (List.length ([]:List PB))) (a0r Try.prog 25):=LsOk.many fun j B hB hk c hc hi=>by
 simp only[b0d]at hB
 split at hB
 ·rename_i e;have:=Nat.eq_of_beq_eq_true e;subst this;cases hB
  have e1:p0c Try.prog 25 4=[cAt Try.prog 25 4]:=a0e (by kernel_rfl)
  have e2:c∈p0c Try.prog 25 4:=a0d hc hi
  rw[e1]at e2;cases List.mem_singleton.1 e2;exact e4v
 cases hB
def i4d (env:List Dat):Tree (Nat×List Dat):=Lk.boxC false LK e4d 25 (lsM [(4,c4a)] (List.length ([]:List PB))) (mkF [inV 0,inV 6] [] [] [(.bool 0,[])] fun _=>none) env
theorem v3g:ExB i4d:=exB _
def j3m:=Classical.choose v3g
theorem v3n (env:List Dat):j3m env=(i4d env).sel:=Classical.choose_spec v3g env
def B25r:FBox:=mkF [inV 0,inV 6] [] [] [(.bool 0,[])] j3m
theorem i4s:a0v Try.prog 25 (a0j B25r):=a0p (op:=j3m) p3e hmix false (i4b) (fun env x h=>by rw[v3n]at h;rw[←boxC_lk];exact h)
def e4a:List Dat→Tree (Nat×List Dat)
 |[.n n0,.n n1,.n n2,.n n3,.n n4,.l (Ty.pair (Ty.int IntKind.u8) (Ty.int IntKind.i64)) l5,.n n6,.n n7,.n n8,.n n9,.n n10,.l (Ty.pair (Ty.int IntKind.u8) (Ty.int IntKind.i64)) l11]=>
 (.node (n0 !=n6)
 (.leaf ((0,[.b false])))
 (.node (n1 !=n7)
 (.leaf ((0,[.b false])))
 (.node (n2 !=n8)
 (.leaf ((0,[.b false])))
 (.node (n3 !=n9)
 (.leaf ((0,[.b false])))
 (.node (n4 !=n10)
 (.leaf ((0,[.b false])))
 (.node ((↑(List.length l5):Int) !=(↑(List.length l11):Int))
 (.leaf ((0,[.b false])))
 (let r1:=(m3h [.k 0,.n (0:Int),.n n0,.n n1,.n n2,.n n3,.n n4,.l TC l5,.n n6,.n n7,.n n8,.n n9,.n n10,.l TC l11]);
 (.node (isK 0 [] r1)
 (.leaf ((0,[.b true])))
 (.node (isK 1 [.b] r1)
 (.leaf ((0,[.b (gb (dOf r1) 0)])))
 (.bad 351))))))))))
 |_=>.bad 0
theorem a4n (n0:Int)(n1:Int)(n2:Int)(n3:Int)(n4:Int)(l5:List (Ty.den TC))(n6:Int)(n7:Int)(n8:Int)(n9:Int)(n10:Int)(l11:List (Ty.den TC)):Imp (e4a [.n n0,.n n1,.n n2,.n n3,.n n4,.l TC l5,.n n6,.n n7,.n n8,.n n9,.n n10,.l TC l11]) (i4d [.n n0,.n n1,.n n2,.n n3,.n n4,.l TC l5,.n n6,.n n7,.n n8,.n n9,.n n10,.l TC l11]):=
(.nd (fun h0=>
(.pa [1,1,1,1,1,1,1,1,1,1,1]
.lf)) (fun h0=>
(.nd (fun h1=>
(.pa [1,1,1,1,1,1,1,1,1]
.lf)) (fun h1=>
(.nd (fun h2=>
(.pa [1,1,1,1,1,1,1]
.lf)) (fun h2=>
(.nd (fun h3=>
(.pa [1,1,1,1,1]
.lf)) (fun h3=>
(.nd (fun h4=>
(.pa [1,1,1]
.lf)) (fun h4=>
(.nd (fun h5=>
(.pa [1]
.lf)) (fun h5=>
(.nd (fun h6=>
(.pa [1]
.lf)) (fun h6=>
(.nd (fun h7=>
(.pa [1]
.lf)) (fun h7=>
.none))))))))))))))))
def h4n:FuncId→Option a0q:=a0s 25 B25r e4d
theorem y3o:CsOk Try.prog h4n:=a0g p3e i4s
def m4f (env:List Dat):Tree (Nat×List Dat):=Lk.boxC false LK h4n 35 ls0 (mkF [.imm TB 0] [] [] [(.int .u8 0,[])] fun _=>none) env
theorem y3c:ExB m4f:=exB _
def t2c:=Classical.choose y3c
theorem j3e (env:List Dat):t2c env=(m4f env).sel:=Classical.choose_spec y3c env
def B35r:FBox:=mkF [.imm TB 0] [] [] [(.int .u8 0,[])] t2c
theorem z3b:a0v Try.prog 35 (a0j B35r):=a0p (op:=t2c) y3o hmix false (LsOk.none _ _ _) (fun env x h=>by rw[j3e]at h;rw[←boxC_lk];exact h)
def j3t:List Dat→Tree (Nat×List Dat)
 |[.l (Ty.int IntKind.u8) l0]=>
 (.node ((↑(List.length l0):Int)==(0:Int))
 (.leaf ((0,[.n (0:Int)])))
 (.node ((List.getD l0 0 (0:Int):Int)==(1:Int))
 (let r1:=(h3e [.l TB l0]);
 (.node (isK 0 [.n,.n,.n,.n,.n,.n,.l TC] r1)
 (.node (gn (dOf r1) 5 !=(0:Int))
 (.leaf ((0,[.n (0:Int)])))
 (.leaf ((0,[.n (List.getD l0 0 (0:Int))]))))
 (.node (isK 1 [.n,.n,.n,.n,.n,.n] r1)
 (.node (gn (dOf r1) 5 !=(0:Int))
 (.leaf ((0,[.n (0:Int)])))
 (.leaf ((0,[.n (List.getD l0 0 (0:Int))]))))
 (.bad 351))))
 (.node ((List.getD l0 0 (0:Int):Int)==(2:Int))
 (let r1:=(h3k [.l TB l0]);
 (.node (isK 0 [.n,.n,.n,.n,.n,.n] r1)
 (.node (gn (dOf r1) 5 !=(0:Int))
 (.leaf ((0,[.n (0:Int)])))
 (.leaf ((0,[.n (List.getD l0 0 (0:Int))]))))
 (.bad 351)))
 (.node ((List.getD l0 0 (0:Int):Int)==(3:Int))
 (let r1:=(h3n [.l TB l0]);
 (.node (isK 0 [.n,.n,.n,.l TB,.n,.n] r1)
 (.node (gn (dOf r1) 5 !=(0:Int))
 (.leaf ((0,[.n (0:Int)])))
 (.leaf ((0,[.n (List.getD l0 0 (0:Int))]))))
 (.bad 351)))
 (.node ((List.getD l0 0 (0:Int):Int)==(4:Int))
 (let r1:=(h3f [.l TB l0]);
 (.node (isK 0 [.n,.n,.n,.n,.n,.l TB,.n,.n] r1)
 (.node (gn (dOf r1) 7 !=(0:Int))
 (.leaf ((0,[.n (0:Int)])))
 (.leaf ((0,[.n (List.getD l0 0 (0:Int))]))))
 (.bad 351)))
 (.node ((List.getD l0 0 (0:Int):Int)==(5:Int))
 (let r1:=(h3j [.l TB l0]);
 (.node (isK 0 [.n,.n,.n,.n,.n,.l TB] r1)
 (.node (gn (dOf r1) 4 !=(0:Int))
 (.leaf ((0,[.n (0:Int)])))
 (.leaf ((0,[.n (List.getD l0 0 (0:Int))]))))
 (.node (isK 1 [.n,.n,.n,.n,.n] r1)
 (.node (gn (dOf r1) 4 !=(0:Int))
 (.leaf ((0,[.n (0:Int)])))
 (.leaf ((0,[.n (List.getD l0 0 (0:Int))]))))
 (.bad 351))))
 (.leaf ((0,[.n (0:Int)])))))))))
 |_=>.bad 0
theorem i3k (l0:List (Ty.den TB)):Imp (j3t [.l TB l0]) (m4f [.l TB l0]):=
(.nd (fun h0=>
(.pa [1]
.lf)) (fun h0=>
(.pt (c:=(inR (0:Int) (List.length l0))) (by kernel_rfl) (by kernel_rfl) (by(simp only[w64d,decide_eq_true_eq,decide_eq_false_iff_not,beq_iff_eq,beq_eq_false_iff_ne,bne_iff_ne,ne_eq,inR,Bool.and_eq_true,Bool.and_eq_false_iff,Bool.not_eq_true',Bool.not_eq_false',Bool.not_eq_eq_eq_not,Bool.not_true,Bool.not_false]at*;omega))
(.nd (fun h1=>
(.nd (fun h2=>
(.pa [1]
(.nd (fun h3=>
(.pa [1]
.lf)) (fun h3=>
(.pt (c:=(inR (0:Int) (List.length l0))) (by kernel_rfl) (by kernel_rfl) (by(simp only[w64d,decide_eq_true_eq,decide_eq_false_iff_not,beq_iff_eq,beq_eq_false_iff_ne,bne_iff_ne,ne_eq,inR,Bool.and_eq_true,Bool.and_eq_false_iff,Bool.not_eq_true',Bool.not_eq_false',Bool.not_eq_eq_eq_not,Bool.not_true,Bool.not_false]at*;omega))
(.pa [1]
.lf)))))) (fun h2=>
(.nd (fun h3=>
(.pa [1]
(.nd (fun h4=>
(.pa [1]
.lf)) (fun h4=>
(.pt (c:=(inR (0:Int) (List.length l0))) (by kernel_rfl) (by kernel_rfl) (by(simp only[w64d,decide_eq_true_eq,decide_eq_false_iff_not,beq_iff_eq,beq_eq_false_iff_ne,bne_iff_ne,ne_eq,inR,Bool.and_eq_true,Bool.and_eq_false_iff,Bool.not_eq_true',Bool.not_eq_false',Bool.not_eq_eq_eq_not,Bool.not_true,Bool.not_false]at*;omega))
(.pa [1]
.lf)))))) (fun h3=>
.none))))) (fun h1=>
(.nd (fun h2=>
(.nd (fun h3=>
(.pa [1]
(.nd (fun h4=>
(.pa [1]
.lf)) (fun h4=>
(.pt (c:=(inR (0:Int) (List.length l0))) (by kernel_rfl) (by kernel_rfl) (by(simp only[w64d,decide_eq_true_eq,decide_eq_false_iff_not,beq_iff_eq,beq_eq_false_iff_ne,bne_iff_ne,ne_eq,inR,Bool.and_eq_true,Bool.and_eq_false_iff,Bool.not_eq_true',Bool.not_eq_false',Bool.not_eq_eq_eq_not,Bool.not_true,Bool.not_false]at*;omega))
(.pa [1]
.lf)))))) (fun h3=>
.none))) (fun h2=>
(.nd (fun h3=>
(.nd (fun h4=>
(.pa [1]
(.nd (fun h5=>
(.pa [1]
.lf)) (fun h5=>
(.pt (c:=(inR (0:Int) (List.length l0))) (by kernel_rfl) (by kernel_rfl) (by(simp only[w64d,decide_eq_true_eq,decide_eq_false_iff_not,beq_iff_eq,beq_eq_false_iff_ne,bne_iff_ne,ne_eq,inR,Bool.and_eq_true,Bool.and_eq_false_iff,Bool.not_eq_true',Bool.not_eq_false',Bool.not_eq_eq_eq_not,Bool.not_true,Bool.not_false]at*;omega))
(.pa [1]
.lf)))))) (fun h4=>
.none))) (fun h3=>
(.nd (fun h4=>
(.nd (fun h5=>
(.pa [1]
(.nd (fun h6=>
(.pa [1]
.lf)) (fun h6=>
(.pt (c:=(inR (0:Int) (List.length l0))) (by kernel_rfl) (by kernel_rfl) (by(simp only[w64d,decide_eq_true_eq,decide_eq_false_iff_not,beq_iff_eq,beq_eq_false_iff_ne,bne_iff_ne,ne_eq,inR,Bool.and_eq_true,Bool.and_eq_false_iff,Bool.not_eq_true',Bool.not_eq_false',Bool.not_eq_eq_eq_not,Bool.not_true,Bool.not_false]at*;omega))
(.pa [1]
.lf)))))) (fun h5=>
.none))) (fun h4=>
(.nd (fun h5=>
(.nd (fun h6=>
(.pa [1]
(.nd (fun h7=>
(.pa [1]
.lf)) (fun h7=>
(.pt (c:=(inR (0:Int) (List.length l0))) (by kernel_rfl) (by kernel_rfl) (by(simp only[w64d,decide_eq_true_eq,decide_eq_false_iff_not,beq_iff_eq,beq_eq_false_iff_ne,bne_iff_ne,ne_eq,inR,Bool.and_eq_true,Bool.and_eq_false_iff,Bool.not_eq_true',Bool.not_eq_false',Bool.not_eq_eq_eq_not,Bool.not_true,Bool.not_false]at*;omega))
(.pa [1]
.lf)))))) (fun h6=>
(.nd (fun h7=>
(.pa [1]
(.nd (fun h8=>
(.pa [1]
.lf)) (fun h8=>
(.pt (c:=(inR (0:Int) (List.length l0))) (by kernel_rfl) (by kernel_rfl) (by(simp only[w64d,decide_eq_true_eq,decide_eq_false_iff_not,beq_iff_eq,beq_eq_false_iff_ne,bne_iff_ne,ne_eq,inR,Bool.and_eq_true,Bool.and_eq_false_iff,Bool.not_eq_true',Bool.not_eq_false',Bool.not_eq_eq_eq_not,Bool.not_true,Bool.not_false]at*;omega))
(.pa [1]
.lf)))))) (fun h7=>
.none))))) (fun h5=>
(.pa [1,1]
.lf))))))))))))))
def k4x:FuncId→Option a0q:=a0s 35 B35r h4n
theorem v3b:CsOk Try.prog k4x:=a0g y3o z3b
def k4b (env:List Dat):Tree (Nat×List Dat):=Lk.boxC false LK k4x 36 ls0 (mkF [.imm TB 0] [] [] [(.int .u8 0,[])] fun _=>none) env
theorem x3c:ExB k4b:=exB _
def n3x:=Classical.choose x3c
theorem u3u (env:List Dat):n3x env=(k4b env).sel:=Classical.choose_spec x3c env
def B36r:FBox:=mkF [.imm TB 0] [] [] [(.int .u8 0,[])] n3x
theorem B36r_ok:a0v Try.prog 36 (a0j B36r):=a0p (op:=n3x) v3b hmix false (LsOk.none _ _ _) (fun env x h=>by rw[u3u]at h;rw[←boxC_lk];exact h)
def d4q:List Dat→Tree (Nat×List Dat)
 |[.l (Ty.int IntKind.u8) l0]=>
 (let r1:=(h3s [.l TB l0]);
 (.node (isK 0 [.n,.n,.n,.n,.n,.b,.l TC] r1)
 (let r2:=(i3c [.l TB l0]);
 (.node (isK 0 [.n,.n,.n,.n,.n,.b] r2)
 (let r3:=(i3b [.l TB l0]);
 (.node (isK 0 [.n,.n,.n,.l TB,.n,.b] r3)
 (let r4:=(h3u [.l TB l0]);
 (.node (isK 0 [.n,.n,.n,.n,.n,.l TB,.n,.b] r4)
 (let r5:=(i3e [.l TB l0]);
 (.node (isK 0 [.n,.n,.n,.n,.s,.b] r5)
 (.node (gb (dOf r1) 5)
 (.leaf ((0,[.n (1:Int)])))
 (.node (gb (dOf r2) 5)
 (.leaf ((0,[.n (2:Int)])))
 (.node (gb (dOf r3) 5)
 (.leaf ((0,[.n (3:Int)])))
 (.node (gb (dOf r4) 7)
 (.leaf ((0,[.n (4:Int)])))
 (.node (gb (dOf r5) 5)
 (.leaf ((0,[.n (5:Int)])))
 (.leaf ((0,[.n (0:Int)]))))))))
 (.bad 351)))
 (.bad 351)))
 (.bad 351)))
 (.bad 351)))
 (.node (isK 1 [.n,.n,.n,.n,.n,.b] r1)
 (let r2:=(i3c [.l TB l0]);
 (.node (isK 0 [.n,.n,.n,.n,.n,.b] r2)
 (let r3:=(i3b [.l TB l0]);
 (.node (isK 0 [.n,.n,.n,.l TB,.n,.b] r3)
 (let r4:=(h3u [.l TB l0]);
 (.node (isK 0 [.n,.n,.n,.n,.n,.l TB,.n,.b] r4)
 (let r5:=(i3e [.l TB l0]);
 (.node (isK 0 [.n,.n,.n,.n,.s,.b] r5)
 (.node (gb (dOf r1) 5)
 (.leaf ((0,[.n (1:Int)])))
 (.node (gb (dOf r2) 5)
 (.leaf ((0,[.n (2:Int)])))
 (.node (gb (dOf r3) 5)
 (.leaf ((0,[.n (3:Int)])))
 (.node (gb (dOf r4) 7)
 (.leaf ((0,[.n (4:Int)])))
 (.node (gb (dOf r5) 5)
 (.leaf ((0,[.n (5:Int)])))
 (.leaf ((0,[.n (0:Int)]))))))))
 (.bad 351)))
 (.bad 351)))
 (.bad 351)))
 (.bad 351)))
 (.bad 351))))
 |_=>.bad 0
theorem z3q (l0:List (Ty.den TB)):Imp (d4q [.l TB l0]) (k4b [.l TB l0]):=
(.nd (fun h0=>
(.pa [1]
(.nd (fun h1=>
(.pa [1]
(.nd (fun h2=>
(.pa [1]
(.nd (fun h3=>
(.pa [1]
(.nd (fun h4=>
(.pa [1,1,1]
(.nd (fun h5=>
(.pa [1]
.lf)) (fun h5=>
(.pa [1,1]
(.nd (fun h6=>
(.pa [1]
.lf)) (fun h6=>
(.pa [1,1]
(.nd (fun h7=>
(.pa [1]
.lf)) (fun h7=>
(.pa [1,1]
(.nd (fun h8=>
(.pa [1]
.lf)) (fun h8=>
(.pa [1,1]
(.nd (fun h9=>
(.pa [1]
.lf)) (fun h9=>
(.pa [0,1]
.lf))))))))))))))))) (fun h4=>
.none)))) (fun h3=>
.none)))) (fun h2=>
.none)))) (fun h1=>
.none)))) (fun h0=>
(.nd (fun h1=>
(.pa [1]
(.nd (fun h2=>
(.pa [1]
(.nd (fun h3=>
(.pa [1]
(.nd (fun h4=>
(.pa [1]
(.nd (fun h5=>
(.pa [1,1,1]
(.nd (fun h6=>
(.pa [1]
.lf)) (fun h6=>
(.pa [1,1]
(.nd (fun h7=>
(.pa [1]
.lf)) (fun h7=>
(.pa [1,1]
(.nd (fun h8=>
(.pa [1]
.lf)) (fun h8=>
(.pa [1,1]
(.nd (fun h9=>
(.pa [1]
.lf)) (fun h9=>
(.pa [1,1]
(.nd (fun h10=>
(.pa [1]
.lf)) (fun h10=>
(.pa [0,1]
.lf))))))))))))))))) (fun h5=>
.none)))) (fun h4=>
.none)))) (fun h3=>
.none)))) (fun h2=>
.none)))) (fun h1=>
.none))))
def j4l:FuncId→Option a0q:=a0s 36 B36r k4x
theorem y3e:CsOk Try.prog j4l:=a0g v3b B36r_ok
abbrev bs (l:List Int):List Int:=c0b (r2b l)
def h4p (env:List Dat):Tree (Nat×List Dat):=Lk.boxC false LK j4l 34 ls0 (mkF [.int .i64 0,.int .i64 1,.int .i64 2,.int .i64 3,.int .i64 4] [] [] [(.bool 0,[])] fun _=>none) env
theorem w3b:ExB h4p:=exB _
def n3y:=Classical.choose w3b
theorem v3v (env:List Dat):n3y env=(h4p env).sel:=Classical.choose_spec w3b env
def B34q:FBox:=mkF [.int .i64 0,.int .i64 1,.int .i64 2,.int .i64 3,.int .i64 4] [] [] [(.bool 0,[])] n3y
theorem B34q_ok:a0v Try.prog 34 (a0j B34q):=a0p (op:=n3y) y3e hmix false (LsOk.none _ _ _) (fun env x h=>by rw[v3v]at h;rw[←boxC_lk];exact h)
def c4w:List Dat→Tree (Nat×List Dat)
 |[.n n0,.n n1,.n n2,.n n3,.n n4]=>
 (.node (n0 !=(0:Int))
 (.node (n0 !=(130:Int))
 (.leaf ((0,[.b false])))
 (.node (n1 !=(0:Int))
 (.node (n1 !=(130:Int))
 (.leaf ((0,[.b false])))
 (.node (n2 !=(0:Int))
 (.node (n2 !=(130:Int))
 (.leaf ((0,[.b false])))
 (.node (n3 !=(0:Int))
 (.node (n3 !=(130:Int))
 (.leaf ((0,[.b false])))
 (.node (n4 !=(0:Int))
 (.node (n4 !=(130:Int))
 (.leaf ((0,[.b false])))
 (.leaf ((0,[.b true]))))
 (.leaf ((0,[.b true])))))
 (.node (n4 !=(0:Int))
 (.node (n4 !=(130:Int))
 (.leaf ((0,[.b false])))
 (.leaf ((0,[.b true]))))
 (.leaf ((0,[.b true]))))))
 (.node (n3 !=(0:Int))
 (.node (n3 !=(130:Int))
 (.leaf ((0,[.b false])))
 (.node (n4 !=(0:Int))
 (.node (n4 !=(130:Int))
 (.leaf ((0,[.b false])))
 (.leaf ((0,[.b true]))))
 (.leaf ((0,[.b true])))))
 (.node (n4 !=(0:Int))
 (.node (n4 !=(130:Int))
 (.leaf ((0,[.b false])))
 (.leaf ((0,[.b true]))))
 (.leaf ((0,[.b true])))))))
 (.node (n2 !=(0:Int))
 (.node (n2 !=(130:Int))
 (.leaf ((0,[.b false])))
 (.node (n3 !=(0:Int))
 (.node (n3 !=(130:Int))
 (.leaf ((0,[.b false])))
 (.node (n4 !=(0:Int))
 (.node (n4 !=(130:Int))
 (.leaf ((0,[.b false])))
 (.leaf ((0,[.b true]))))
 (.leaf ((0,[.b true])))))
 (.node (n4 !=(0:Int))
 (.node (n4 !=(130:Int))
 (.leaf ((0,[.b false])))
 (.leaf ((0,[.b true]))))
 (.leaf ((0,[.b true]))))))
 (.node (n3 !=(0:Int))
 (.node (n3 !=(130:Int))
 (.leaf ((0,[.b false])))
 (.node (n4 !=(0:Int))
 (.node (n4 !=(130:Int))
 (.leaf ((0,[.b false])))
 (.leaf ((0,[.b true]))))
 (.leaf ((0,[.b true])))))
 (.node (n4 !=(0:Int))
 (.node (n4 !=(130:Int))
 (.leaf ((0,[.b false])))
 (.leaf ((0,[.b true]))))
 (.leaf ((0,[.b true]))))))))
 (.node (n1 !=(0:Int))
 (.node (n1 !=(130:Int))
 (.leaf ((0,[.b false])))
 (.node (n2 !=(0:Int))
 (.node (n2 !=(130:Int))
 (.leaf ((0,[.b false])))
 (.node (n3 !=(0:Int))
 (.node (n3 !=(130:Int))
 (.leaf ((0,[.b false])))
 (.node (n4 !=(0:Int))
 (.node (n4 !=(130:Int))
 (.leaf ((0,[.b false])))
 (.leaf ((0,[.b true]))))
 (.leaf ((0,[.b true])))))
 (.node (n4 !=(0:Int))
 (.node (n4 !=(130:Int))
 (.leaf ((0,[.b false])))
 (.leaf ((0,[.b true]))))
 (.leaf ((0,[.b true]))))))
 (.node (n3 !=(0:Int))
 (.node (n3 !=(130:Int))
 (.leaf ((0,[.b false])))
 (.node (n4 !=(0:Int))
 (.node (n4 !=(130:Int))
 (.leaf ((0,[.b false])))
 (.leaf ((0,[.b true]))))
 (.leaf ((0,[.b true])))))
 (.node (n4 !=(0:Int))
 (.node (n4 !=(130:Int))
 (.leaf ((0,[.b false])))
 (.leaf ((0,[.b true]))))
 (.leaf ((0,[.b true])))))))
 (.node (n2 !=(0:Int))
 (.node (n2 !=(130:Int))
 (.leaf ((0,[.b false])))
 (.node (n3 !=(0:Int))
 (.node (n3 !=(130:Int))
 (.leaf ((0,[.b false])))
 (.node (n4 !=(0:Int))
 (.node (n4 !=(130:Int))
 (.leaf ((0,[.b false])))
 (.leaf ((0,[.b true]))))
 (.leaf ((0,[.b true])))))
 (.node (n4 !=(0:Int))
 (.node (n4 !=(130:Int))
 (.leaf ((0,[.b false])))
 (.leaf ((0,[.b true]))))
 (.leaf ((0,[.b true]))))))
 (.node (n3 !=(0:Int))
 (.node (n3 !=(130:Int))
 (.leaf ((0,[.b false])))
 (.node (n4 !=(0:Int))
 (.node (n4 !=(130:Int))
 (.leaf ((0,[.b false])))
 (.leaf ((0,[.b true]))))
 (.leaf ((0,[.b true])))))
 (.node (n4 !=(0:Int))
 (.node (n4 !=(130:Int))
 (.leaf ((0,[.b false])))
 (.leaf ((0,[.b true]))))
 (.leaf ((0,[.b true]))))))))
 |_=>.bad 0
theorem z3t (n0:Int)(n1:Int)(n2:Int)(n3:Int)(n4:Int):Imp (c4w [.n n0,.n n1,.n n2,.n n3,.n n4]) (h4p [.n n0,.n n1,.n n2,.n n3,.n n4]):=
(.pa [1,1]
(.nd (fun h0=>
(.pa [1]
(.nd (fun h1=>
(.pa [1]
.lf)) (fun h1=>
(.pa [1,1]
(.nd (fun h2=>
(.pa [1]
(.nd (fun h3=>
(.pa [1]
.lf)) (fun h3=>
(.pa [1,1]
(.nd (fun h4=>
(.pa [1]
(.nd (fun h5=>
(.pa [1]
.lf)) (fun h5=>
(.pa [1,1]
(.nd (fun h6=>
(.pa [1]
(.nd (fun h7=>
(.pa [1]
.lf)) (fun h7=>
(.pa [1,1]
(.nd (fun h8=>
(.pa [1]
(.nd (fun h9=>
(.pa [1]
.lf)) (fun h9=>
(.pa [0,1]
.lf))))) (fun h8=>
(.pa [0,0,0,1]
.lf)))))))) (fun h6=>
(.pa [0,0,1,1]
(.nd (fun h7=>
(.pa [1]
(.nd (fun h8=>
(.pa [1]
.lf)) (fun h8=>
(.pa [0,1]
.lf))))) (fun h7=>
(.pa [0,0,0,1]
.lf))))))))))) (fun h4=>
(.pa [0,0,1,1]
(.nd (fun h5=>
(.pa [1]
(.nd (fun h6=>
(.pa [1]
.lf)) (fun h6=>
(.pa [1,1]
(.nd (fun h7=>
(.pa [1]
(.nd (fun h8=>
(.pa [1]
.lf)) (fun h8=>
(.pa [0,1]
.lf))))) (fun h7=>
(.pa [0,0,0,1]
.lf)))))))) (fun h5=>
(.pa [0,0,1,1]
(.nd (fun h6=>
(.pa [1]
(.nd (fun h7=>
(.pa [1]
.lf)) (fun h7=>
(.pa [0,1]
.lf))))) (fun h6=>
(.pa [0,0,0,1]
.lf)))))))))))))) (fun h2=>
(.pa [0,0,1,1]
(.nd (fun h3=>
(.pa [1]
(.nd (fun h4=>
(.pa [1]
.lf)) (fun h4=>
(.pa [1,1]
(.nd (fun h5=>
(.pa [1]
(.nd (fun h6=>
(.pa [1]
.lf)) (fun h6=>
(.pa [1,1]
(.nd (fun h7=>
(.pa [1]
(.nd (fun h8=>
(.pa [1]
.lf)) (fun h8=>
(.pa [0,1]
.lf))))) (fun h7=>
(.pa [0,0,0,1]
.lf)))))))) (fun h5=>
(.pa [0,0,1,1]
(.nd (fun h6=>
(.pa [1]
(.nd (fun h7=>
(.pa [1]
.lf)) (fun h7=>
(.pa [0,1]
.lf))))) (fun h6=>
(.pa [0,0,0,1]
.lf))))))))))) (fun h3=>
(.pa [0,0,1,1]
(.nd (fun h4=>
(.pa [1]
(.nd (fun h5=>
(.pa [1]
.lf)) (fun h5=>
(.pa [1,1]
(.nd (fun h6=>
(.pa [1]
(.nd (fun h7=>
(.pa [1]
.lf)) (fun h7=>
(.pa [0,1]
.lf))))) (fun h6=>
(.pa [0,0,0,1]
.lf)))))))) (fun h4=>
(.pa [0,0,1,1]
(.nd (fun h5=>
(.pa [1]
(.nd (fun h6=>
(.pa [1]
.lf)) (fun h6=>
(.pa [0,1]
.lf))))) (fun h5=>
(.pa [0,0,0,1]
.lf))))))))))))))))) (fun h0=>
(.pa [0,0,1,1]
(.nd (fun h1=>
(.pa [1]
(.nd (fun h2=>
(.pa [1]
.lf)) (fun h2=>
(.pa [1,1]
(.nd (fun h3=>
(.pa [1]
(.nd (fun h4=>
(.pa [1]
.lf)) (fun h4=>
(.pa [1,1]
(.nd (fun h5=>
(.pa [1]
(.nd (fun h6=>
(.pa [1]
.lf)) (fun h6=>
(.pa [1,1]
(.nd (fun h7=>
(.pa [1]
(.nd (fun h8=>
(.pa [1]
.lf)) (fun h8=>
(.pa [0,1]
.lf))))) (fun h7=>
(.pa [0,0,0,1]
.lf)))))))) (fun h5=>
(.pa [0,0,1,1]
(.nd (fun h6=>
(.pa [1]
(.nd (fun h7=>
(.pa [1]
.lf)) (fun h7=>
(.pa [0,1]
.lf))))) (fun h6=>
(.pa [0,0,0,1]
.lf))))))))))) (fun h3=>
(.pa [0,0,1,1]
(.nd (fun h4=>
(.pa [1]
(.nd (fun h5=>
(.pa [1]
.lf)) (fun h5=>
(.pa [1,1]
(.nd (fun h6=>
(.pa [1]
(.nd (fun h7=>
(.pa [1]
.lf)) (fun h7=>
(.pa [0,1]
.lf))))) (fun h6=>
(.pa [0,0,0,1]
.lf)))))))) (fun h4=>
(.pa [0,0,1,1]
(.nd (fun h5=>
(.pa [1]
(.nd (fun h6=>
(.pa [1]
.lf)) (fun h6=>
(.pa [0,1]
.lf))))) (fun h5=>
(.pa [0,0,0,1]
.lf)))))))))))))) (fun h1=>
(.pa [0,0,1,1]
(.nd (fun h2=>
(.pa [1]
(.nd (fun h3=>
(.pa [1]
.lf)) (fun h3=>
(.pa [1,1]
(.nd (fun h4=>
(.pa [1]
(.nd (fun h5=>
(.pa [1]
.lf)) (fun h5=>
(.pa [1,1]
(.nd (fun h6=>
(.pa [1]
(.nd (fun h7=>
(.pa [1]
.lf)) (fun h7=>
(.pa [0,1]
.lf))))) (fun h6=>
(.pa [0,0,0,1]
.lf)))))))) (fun h4=>
(.pa [0,0,1,1]
(.nd (fun h5=>
(.pa [1]
(.nd (fun h6=>
(.pa [1]
.lf)) (fun h6=>
(.pa [0,1]
.lf))))) (fun h5=>
(.pa [0,0,0,1]
.lf))))))))))) (fun h2=>
(.pa [0,0,1,1]
(.nd (fun h3=>
(.pa [1]
(.nd (fun h4=>
(.pa [1]
.lf)) (fun h4=>
(.pa [1,1]
(.nd (fun h5=>
(.pa [1]
(.nd (fun h6=>
(.pa [1]
.lf)) (fun h6=>
(.pa [0,1]
.lf))))) (fun h5=>
(.pa [0,0,0,1]
.lf)))))))) (fun h3=>
(.pa [0,0,1,1]
(.nd (fun h4=>
(.pa [1]
(.nd (fun h5=>
(.pa [1]
.lf)) (fun h5=>
(.pa [0,1]
.lf))))) (fun h4=>
(.pa [0,0,0,1]
.lf))))))))))))))))
def cs_34q:FuncId→Option a0q:=a0s 34 B34q j4l
theorem g4t:CsOk Try.prog cs_34q:=a0g y3e B34q_ok
def k4f (env:List Dat):Tree Bool:=Lk.lawB false LK cs_34q 4 ls0 (instL [.imm TB 0] env)
def h4u:List Dat→Tree Bool
 |[.l (Ty.int IntKind.u8) l0,.n n1,.n n2,.n n3,.n n4,.n n5,.n n6,.b b7,.n n8,.n n9,.n n10,.l (Ty.int IntKind.u8) l11,.n n12,.n n13,.b b14,.n n15,.n n16,.n n17,.n n18,.n n19,.l (Ty.int IntKind.u8) l20,.n n21,.n n22,.b b23,.n n24,.n n25,.n n26,.n n27,.s s28,.n n29]=>
 (.leaf (true))
 |_=>.bad 0
theorem w3c (l0:List (Ty.den TB))(n1:Int)(n2:Int)(n3:Int)(n4:Int)(n5:Int)(n6:Int)(b7:Bool)(n8:Int)(n9:Int)(n10:Int)(l11:List (Ty.den TB))(n12:Int)(n13:Int)(b14:Bool)(n15:Int)(n16:Int)(n17:Int)(n18:Int)(n19:Int)(l20:List (Ty.den TB))(n21:Int)(n22:Int)(b23:Bool)(n24:Int)(n25:Int)(n26:Int)(n27:Int)(s28:ByteArray)(n29:Int)(g0:isK 0 [.n,.n,.n,.n,.n,.n,.l TC] (h3e [.l TB l0])=false)(g1:isK 1 [.n,.n,.n,.n,.n,.n] (h3e [.l TB l0])=true)(g2:gn (dOf (h3e [.l TB l0])) 0=0)(g3:gn (dOf (h3e [.l TB l0])) 1=0)(g4:gn (dOf (h3e [.l TB l0])) 2=0)(g5:gn (dOf (h3e [.l TB l0])) 3=0)(g6:gn (dOf (h3e [.l TB l0])) 4=0)(g7:gn (dOf (h3e [.l TB l0])) 5=130)(g8:isK 0 [.n,.n,.n,.n,.n,.b,.l TC] (h3s [.l TB l0])=false)(g9:isK 1 [.n,.n,.n,.n,.n,.b] (h3s [.l TB l0])=true)(g10:gn (dOf (h3s [.l TB l0])) 0=0)(g11:gn (dOf (h3s [.l TB l0])) 1=0)(g12:gn (dOf (h3s [.l TB l0])) 2=0)(g13:gn (dOf (h3s [.l TB l0])) 3=0)(g14:gn (dOf (h3s [.l TB l0])) 4=0)(g15:gb (dOf (h3s [.l TB l0])) 5=false)(g16:isK 0 [.b] (j3m [.n 0,.n 0,.n 0,.n 0,.n 0,.l TC [],.n 0,.n 0,.n 0,.n 0,.n 0,.l TC []])=true)(g17:gb (dOf (j3m [.n 0,.n 0,.n 0,.n 0,.n 0,.l TC [],.n 0,.n 0,.n 0,.n 0,.n 0,.l TC []])) 0=true)(g18:(n6==0)=b7)(g19:isK 0 [.n,.n,.n,.n,.n,.n] (h3k [.l TB l0])=true)(g20:gn (dOf (h3k [.l TB l0])) 0=n1)(g21:gn (dOf (h3k [.l TB l0])) 1=n2)(g22:gn (dOf (h3k [.l TB l0])) 2=n3)(g23:gn (dOf (h3k [.l TB l0])) 3=n4)(g24:gn (dOf (h3k [.l TB l0])) 4=n5)(g25:gn (dOf (h3k [.l TB l0])) 5=n6)(g26:isK 0 [.n,.n,.n,.n,.n,.b] (i3c [.l TB l0])=true)(g27:gn (dOf (i3c [.l TB l0])) 0=n1)(g28:gn (dOf (i3c [.l TB l0])) 1=n2)(g29:gn (dOf (i3c [.l TB l0])) 2=n3)(g30:gn (dOf (i3c [.l TB l0])) 3=n4)(g31:gn (dOf (i3c [.l TB l0])) 4=n5)(g32:gb (dOf (i3c [.l TB l0])) 5=b7)(g33:eqL TB l11 l11=true)(g34:(n13==0)=b14)(g35:isK 0 [.n,.n,.n,.l TB,.n,.n] (h3n [.l TB l0])=true)(g36:gn (dOf (h3n [.l TB l0])) 0=n8)(g37:gn (dOf (h3n [.l TB l0])) 1=n9)(g38:gn (dOf (h3n [.l TB l0])) 2=n10)(g39:gl TB (dOf (h3n [.l TB l0])) 3=l11)(g40:gn (dOf (h3n [.l TB l0])) 4=n12)(g41:gn (dOf (h3n [.l TB l0])) 5=n13)(g42:isK 0 [.n,.n,.n,.l TB,.n,.b] (i3b [.l TB l0])=true)(g43:gn (dOf (i3b [.l TB l0])) 0=n8)(g44:gn (dOf (i3b [.l TB l0])) 1=n9)(g45:gn (dOf (i3b [.l TB l0])) 2=n10)(g46:gl TB (dOf (i3b [.l TB l0])) 3=l11)(g47:gn (dOf (i3b [.l TB l0])) 4=n12)(g48:gb (dOf (i3b [.l TB l0])) 5=b14)(g49:eqL TB l20 l20=true)(g50:(n22==0)=b23)(g51:isK 0 [.n,.n,.n,.n,.n,.l TB,.n,.n] (h3f [.l TB l0])=true)(g52:gn (dOf (h3f [.l TB l0])) 0=n15)(g53:gn (dOf (h3f [.l TB l0])) 1=n16)(g54:gn (dOf (h3f [.l TB l0])) 2=n17)(g55:gn (dOf (h3f [.l TB l0])) 3=n18)(g56:gn (dOf (h3f [.l TB l0])) 4=n19)(g57:gl TB (dOf (h3f [.l TB l0])) 5=l20)(g58:gn (dOf (h3f [.l TB l0])) 6=n21)(g59:gn (dOf (h3f [.l TB l0])) 7=n22)(g60:isK 0 [.n,.n,.n,.n,.n,.l TB,.n,.b] (h3u [.l TB l0])=true)(g61:gn (dOf (h3u [.l TB l0])) 0=n15)(g62:gn (dOf (h3u [.l TB l0])) 1=n16)(g63:gn (dOf (h3u [.l TB l0])) 2=n17)(g64:gn (dOf (h3u [.l TB l0])) 3=n18)(g65:gn (dOf (h3u [.l TB l0])) 4=n19)(g66:gl TB (dOf (h3u [.l TB l0])) 5=l20)(g67:gn (dOf (h3u [.l TB l0])) 6=n21)(g68:gb (dOf (h3u [.l TB l0])) 7=b23)(g69:isK 0 [.n,.n,.n,.n,.n,.l TB] (h3j [.l TB l0])=false)(g70:isK 1 [.n,.n,.n,.n,.n] (h3j [.l TB l0])=true)(g71:gn (dOf (h3j [.l TB l0])) 0=n24)(g72:gn (dOf (h3j [.l TB l0])) 1=n25)(g73:gn (dOf (h3j [.l TB l0])) 2=n26)(g74:gn (dOf (h3j [.l TB l0])) 3=n27)(g75:gn (dOf (h3j [.l TB l0])) 4=130)(g76:isK 0 [.n,.n,.n,.n,.s,.b] (i3e [.l TB l0])=true)(g77:gn (dOf (i3e [.l TB l0])) 0=n24)(g78:gn (dOf (i3e [.l TB l0])) 1=n25)(g79:gn (dOf (i3e [.l TB l0])) 2=n26)(g80:gn (dOf (i3e [.l TB l0])) 3=n27)(g81:gs (dOf (i3e [.l TB l0])) 4=s28)(g82:gb (dOf (i3e [.l TB l0])) 5=false)(g83:f0b (r2b ([]:List (Ty.den TB))) s28=true)(g84:f0b (r2b ([]:List Int)) s28=true)(g85:isK 0 [.b] (n3y [.n 130,.n n6,.n n13,.n n22,.n 130])=true)(g86:gb (dOf (n3y [.n 130,.n n6,.n n13,.n n22,.n 130])) 0=true)(g87:isK 0 [.n] (t2c [.l TB l0])=true)(g88:gn (dOf (t2c [.l TB l0])) 0=n29)(g89:isK 0 [.n] (n3x [.l TB l0])=true)(g90:gn (dOf (n3x [.l TB l0])) 0=n29)(g91:f0b (r2b l0) (r2b l0)=true)(g92:bs l0=l0)(g93:(l0.length:Int)≤3000):Imp (h4u [.l TB l0,.n n1,.n n2,.n n3,.n n4,.n n5,.n n6,.b b7,.n n8,.n n9,.n n10,.l TB l11,.n n12,.n n13,.b b14,.n n15,.n n16,.n n17,.n n18,.n n19,.l TB l20,.n n21,.n n22,.b b23,.n n24,.n n25,.n n26,.n n27,.s s28,.n n29]) (k4f [.l TB l0]):=
(.sF ((decide ((↑(List.length l0):Int)>(3000:Int))))
(.sF ((isK 0 [.n,.n,.n,.n,.n,.n,.l TC] (h3e [.l TB (bs l0)])))
(.sT ((isK 1 [.n,.n,.n,.n,.n,.n] (h3e [.l TB (bs l0)])))
(.pa [1]
(.sF ((isK 0 [.n,.n,.n,.n,.n,.b,.l TC] (h3s [.l TB l0])))
(.sT ((isK 1 [.n,.n,.n,.n,.n,.b] (h3s [.l TB l0])))
(.pa [1,1,1]
(.sT ((isK 0 [.b] (j3m [.n (gn (dOf (h3e [.l TB (bs l0)])) 0),.n (gn (dOf (h3e [.l TB (bs l0)])) 1),.n (gn (dOf (h3e [.l TB (bs l0)])) 2),.n (gn (dOf (h3e [.l TB (bs l0)])) 3),.n (gn (dOf (h3e [.l TB (bs l0)])) 4),.l TC [],.n (gn (dOf (h3s [.l TB l0])) 0),.n (gn (dOf (h3s [.l TB l0])) 1),.n (gn (dOf (h3s [.l TB l0])) 2),.n (gn (dOf (h3s [.l TB l0])) 3),.n (gn (dOf (h3s [.l TB l0])) 4),.l TC []])))
(.pa [1]
(.sT ((gb (dOf (j3m [.n (gn (dOf (h3e [.l TB (bs l0)])) 0),.n (gn (dOf (h3e [.l TB (bs l0)])) 1),.n (gn (dOf (h3e [.l TB (bs l0)])) 2),.n (gn (dOf (h3e [.l TB (bs l0)])) 3),.n (gn (dOf (h3e [.l TB (bs l0)])) 4),.l TC [],.n (gn (dOf (h3s [.l TB l0])) 0),.n (gn (dOf (h3s [.l TB l0])) 1),.n (gn (dOf (h3s [.l TB l0])) 2),.n (gn (dOf (h3s [.l TB l0])) 3),.n (gn (dOf (h3s [.l TB l0])) 4),.l TC []])) 0))
(.pa [1]
(.sT ((isK 0 [.n,.n,.n,.n,.n,.n] (h3k [.l TB (bs l0)])))
(.pa [1]
(.sT ((isK 0 [.n,.n,.n,.n,.n,.b] (i3c [.l TB l0])))
(.pa [1,1,1]
(.sT ((gn (dOf (h3k [.l TB (bs l0)])) 0==gn (dOf (i3c [.l TB l0])) 0&&(gn (dOf (h3k [.l TB (bs l0)])) 1==gn (dOf (i3c [.l TB l0])) 1&&(gn (dOf (h3k [.l TB (bs l0)])) 2==gn (dOf (i3c [.l TB l0])) 2&&(gn (dOf (h3k [.l TB (bs l0)])) 3==gn (dOf (i3c [.l TB l0])) 3&&(gn (dOf (h3k [.l TB (bs l0)])) 4==gn (dOf (i3c [.l TB l0])) 4&&true)&&true)))))
(.pa [1]
(.sT ((isK 0 [.n,.n,.n,.l TB,.n,.n] (h3n [.l TB (bs l0)])))
(.pa [1]
(.sT ((isK 0 [.n,.n,.n,.l TB,.n,.b] (i3b [.l TB l0])))
(.pa [1]
(.sT ((gn (dOf (h3n [.l TB (bs l0)])) 0==gn (dOf (i3b [.l TB l0])) 0&&(gn (dOf (h3n [.l TB (bs l0)])) 1==gn (dOf (i3b [.l TB l0])) 1&&(gn (dOf (h3n [.l TB (bs l0)])) 2==gn (dOf (i3b [.l TB l0])) 2&&(eqL TB (gl TB (dOf (h3n [.l TB (bs l0)])) 3) (gl TB (dOf (i3b [.l TB l0])) 3)&&(gn (dOf (h3n [.l TB (bs l0)])) 4==gn (dOf (i3b [.l TB l0])) 4&&true))))))
(.sT ((isK 0 [.n,.n,.n,.n,.n,.l TB,.n,.n] (h3f [.l TB (bs l0)])))
(.pa [1]
(.sT ((isK 0 [.n,.n,.n,.n,.n,.l TB,.n,.b] (h3u [.l TB l0])))
(.pa [1,1,1]
(.sT ((gn (dOf (h3f [.l TB (bs l0)])) 0==gn (dOf (h3u [.l TB l0])) 0&&(gn (dOf (h3f [.l TB (bs l0)])) 1==gn (dOf (h3u [.l TB l0])) 1&&(gn (dOf (h3f [.l TB (bs l0)])) 2==gn (dOf (h3u [.l TB l0])) 2&&(gn (dOf (h3f [.l TB (bs l0)])) 3==gn (dOf (h3u [.l TB l0])) 3&&(gn (dOf (h3f [.l TB (bs l0)])) 4==gn (dOf (h3u [.l TB l0])) 4&&(eqL TB (gl TB (dOf (h3f [.l TB (bs l0)])) 5) (gl TB (dOf (h3u [.l TB l0])) 5)&&(gn (dOf (h3f [.l TB (bs l0)])) 6==gn (dOf (h3u [.l TB l0])) 6&&true))))&&true))))
(.pa [1]
(.sF ((isK 0 [.n,.n,.n,.n,.n,.l TB] (h3j [.l TB (bs l0)])))
(.sT ((isK 1 [.n,.n,.n,.n,.n] (h3j [.l TB (bs l0)])))
(.pa [1]
(.sT ((isK 0 [.n,.n,.n,.n,.s,.b] (i3e [.l TB l0])))
(.pa [1,1,1]
(.sT ((gn (dOf (h3j [.l TB (bs l0)])) 0==gn (dOf (i3e [.l TB l0])) 0&&(gn (dOf (h3j [.l TB (bs l0)])) 1==gn (dOf (i3e [.l TB l0])) 1&&(gn (dOf (h3j [.l TB (bs l0)])) 2==gn (dOf (i3e [.l TB l0])) 2&&(gn (dOf (h3j [.l TB (bs l0)])) 3==gn (dOf (i3e [.l TB l0])) 3&&(f0b (r2b []) (gs (dOf (i3e [.l TB l0])) 4)&&true))))))
(.pa [1,0]
(.sT (((gn (dOf (h3e [.l TB (bs l0)])) 5==(0:Int))==gb (dOf (h3s [.l TB l0])) 5))
(.sT (((gn (dOf (h3k [.l TB (bs l0)])) 5==(0:Int))==gb (dOf (i3c [.l TB l0])) 5))
(.sT (((gn (dOf (h3n [.l TB (bs l0)])) 5==(0:Int))==gb (dOf (i3b [.l TB l0])) 5))
(.sT (((gn (dOf (h3f [.l TB (bs l0)])) 7==(0:Int))==gb (dOf (h3u [.l TB l0])) 7))
(.sT (((gn (dOf (h3j [.l TB (bs l0)])) 4==(0:Int))==gb (dOf (i3e [.l TB l0])) 5))
(.sT ((isK 0 [.b] (n3y [.n (gn (dOf (h3e [.l TB (bs l0)])) 5),.n (gn (dOf (h3k [.l TB (bs l0)])) 5),.n (gn (dOf (h3n [.l TB (bs l0)])) 5),.n (gn (dOf (h3f [.l TB (bs l0)])) 7),.n (gn (dOf (h3j [.l TB (bs l0)])) 4)])))
(.pa [1]
(.sT ((gb (dOf (n3y [.n (gn (dOf (h3e [.l TB (bs l0)])) 5),.n (gn (dOf (h3k [.l TB (bs l0)])) 5),.n (gn (dOf (h3n [.l TB (bs l0)])) 5),.n (gn (dOf (h3f [.l TB (bs l0)])) 7),.n (gn (dOf (h3j [.l TB (bs l0)])) 4)])) 0))
(.sT ((isK 0 [.n] (t2c [.l TB (bs l0)])))
(.pa [1]
(.sT ((isK 0 [.n] (n3x [.l TB l0])))
(.pa [1]
(.sT ((gn (dOf (t2c [.l TB (bs l0)])) 0==gn (dOf (n3x [.l TB l0])) 0))
(.sT ((f0b (r2b (bs l0)) (r2b l0)))
(.pa [1,1,1]
.lf))))))))))))))))))))))))))))))))))))))))))))))))))
def nm (l:List Int):Int:=l.foldl (fun a b=>a*256+b) 0
theorem nm_snoc (l:List Int)(b:Int):nm (l++[b])=nm l*256+b:=by simp[nm]
theorem l4a: ∀(l:List Int) (a m:Int),Wb l→0≤a→a<m→0≤l.foldl (fun a b=>a*256+b) a∧l.foldl (fun a b=>a*256+b) a<m*256^l.length
 |[],a,m,_,h0,h1=>by simp;exact⟨h0,h1⟩
 |b::l,a,m,hw,h0,h1=>by
  have hb:=hw b (by simp)
  have:=l4a l (a*256+b) (m*256) (fun x hx=>hw x (by simp[hx])) (by omega) (by omega)
  simp only[List.foldl_cons,List.length_cons,Int.pow_succ]
  rw[Int.mul_comm (256^l.length) 256,←Int.mul_assoc]
  exact this
theorem r3w {l:List Int}(h:Wb l):0≤nm l∧nm l<256^l.length:=by
 have:=l4a l 0 1 h (by omega) (by omega)
 rw[Int.one_mul]at this
 exact this
theorem Wb.take {l:List Int}(h:Wb l)(n:Nat):Wb (l.take n):=fun b hb=>h b (List.mem_of_mem_take hb)
theorem Wb.drop {l:List Int}(h:Wb l)(n:Nat):Wb (l.drop n):=fun b hb=>h b (List.mem_of_mem_drop hb)
theorem pow_le {n:Nat}(h:n≤7):(256:Int)^n≤72057594037927936:=by
 have:n=0∨n=1∨n=2∨n=3∨n=4∨n=5∨n=6∨n=7:=by omega
 rcases this with rfl|rfl|rfl|rfl|rfl|rfl|rfl|rfl<;>decide
theorem st8 {a b:Int}(h0:0≤a)(h1:a<72057594037927936)(b0:0≤b)(b1:b<256):ior .u64 (ishl .u64 a 8) (IntKind.wrap .u64 b)=a*256+b:=by
 have e1:ishl .u64 a 8=a*256:=by
  have:ishl .u64 a 8=IntKind.wrap .u64 (a*2^8):=rfl
  rw[this,wu64]
  have:(2:Int)^8=256:=by decide
  rw[this];omega
 have e2:IntKind.wrap .u64 b=b:=by rw[wu64];omega
 rw[e1,e2]
 obtain⟨x,rfl⟩: ∃x:Nat,a=x:=⟨a.toNat,by omega⟩
 obtain⟨y,rfl⟩: ∃y:Nat,b=y:=⟨b.toNat,by omega⟩
 have e3:ior .u64 ((x:Int)*256) (y:Int)=IntKind.wrap .u64 ((BitVec.ofInt 64 ((x:Int)*256)|||BitVec.ofInt 64 (y:Int)).toNat:Int):=rfl
 rw[e3]
 have e4:(x:Int)*256=((x*256:Nat):Int):=by omega
 rw[e4,BitVec.ofInt_natCast,BitVec.ofInt_natCast,BitVec.toNat_or,BitVec.toNat_ofNat,BitVec.toNat_ofNat,Nat.mod_eq_of_lt (by omega),Nat.mod_eq_of_lt (by omega)]
 have e5:x*256|||y=x*256+y:=by
  have:=Nat.shiftLeft_add_eq_or_of_lt (i:=8) (b:=y) (by omega) x
  rw[Nat.shiftLeft_eq]at this
  exact this.symm
 rw[e5,wu64];omega
theorem nm_step {l:List Int}(hw:Wb l)(hl:l.length≤8){n:Nat}(h:n<l.length):ior .u64 (ishl .u64 (nm (l.take n)) 8) (IntKind.wrap .u64 (l.getD n 0))=nm (l.take (n+1)):=by
 have hb:=r3w (hw.take n)
 have hle:(l.take n).length≤7:=by rw[List.length_take];omega
 have:=pow_le hle
 have hx:=hw (l.getD n 0) (by rw[List.getD_eq_getElem?_getD,List.getElem?_eq_getElem h];simp)
 rw[o3v h,nm_snoc]
 exact st8 hb.1 (by omega) hx.1 hx.2
theorem step2 {l:List Int}(hw:Wb l)(hl:l.length≤8){n:Int}(h0:0≤n)(h1:n<(l.length:Int)):ior .u64 (ishl .u64 (nm (l.take n.toNat)) 8) (IntKind.wrap .u64 (l.getD n.toNat 0))=nm (l.take (n+1).toNat):=by
 have e:(n+1).toNat=n.toNat+1:=by omega
 rw[e];exact nm_step hw hl (by omega)
theorem lp17r {l:List Int}(hl:l.length≤8)(hw:Wb l):l3y [.k 0,.l TB l,.n 0,.n 0]=some (0,[.n (nm l)]):=by
 rw[n3p]
 refine i3l (fun i=>[.k 0,.l TB l,.n (nm (l.take i.toNat)),.n i]) (l.length:Int) (0,[.n (nm l)]) (fun n h0 h1=> ?_) ?_ FU 0 (by omega) (by omega) (by show((l.length:Int)-0).toNat<FU;unfold FU;omega)
 ·have w:=w64s (x:=n+1) (by omega) (by omega)
  refine k3n l (nm (l.take n.toNat)) n _ ?_
  unfold l3o
  refine a0a (decide_eq_true (show n<(l.length:Int)from h1)) (a0a (h1s h0 h1) ?_)
  show some (Step.go [.k 0,.l TB l,.n (ior .u64 (ishl .u64 (nm (l.take n.toNat)) 8) (IntKind.wrap .u64 (l.getD n.toNat 0))),.n (IntKind.wrap .i64 (n+1))])=_
  rw[step2 hw hl h0 h1,w]
 ·refine k3n l _ _ _ ?_
  unfold l3o
  refine a0c (decide_eq_false (show¬((l.length:Int)<(l.length:Int)) by omega)) ?_
  show some (Step.stop 0 [.n (nm (l.take (l.length:Int).toNat))])=some (Step.stop 0 [.n (nm l)])
  rw[show(l.length:Int).toNat=l.length by omega,List.take_length]
theorem t17r {l:List Int}(hl:l.length≤8)(hw:Wb l):u3r [.l TB l]=some (0,[.n (nm l)]):=by
 rw[u3l]
 refine a4b l _ ?_
 unfold c4d
 have e:=lp17r hl hw
 exact a0a (by erw[e];rfl) (by erw[e];rfl)
theorem lp34 {l:List Int}(hl:l.length≤8)(hw:Wb l)(n:Int)(r:List Int)(b:Bool):h3q [.k 0,.n n,.n 0,.l TB l,.n (l.length:Int),.n 0,.l TB r,.b b]=some (0,[.n n,.n (nm l),.l TB r,.b b]):=by
 rw[k3i]
 refine i3l (fun i=>[.k 0,.n n,.n (nm (l.take i.toNat)),.l TB l,.n (l.length:Int),.n i,.l TB r,.b b]) (l.length:Int) (0,[.n n,.n (nm l),.l TB r,.b b]) (fun i h0 h1=> ?_) ?_ FU 0 (by omega) (by omega) (by show((l.length:Int)-0).toNat<FU;unfold FU;omega)
 ·have w:=w64s (x:=i+1) (by omega) (by omega)
  refine l3a n (nm (l.take i.toNat)) l (l.length:Int) i r b _ ?_
  unfold l3f
  refine a0a (decide_eq_true (show i<(l.length:Int)from h1)) (a0a (h1s h0 h1) ?_)
  show some (Step.go [.k 0,.n n,.n (ior .u64 (ishl .u64 (nm (l.take i.toNat)) 8) (IntKind.wrap .u64 (l.getD i.toNat 0))),.l TB l,.n (l.length:Int),.n (IntKind.wrap .i64 (i+1)),.l TB r,.b b])=_
  rw[step2 hw hl h0 h1,w]
 ·refine l3a n _ l (l.length:Int) _ r b _ ?_
  unfold l3f
  refine a0c (decide_eq_false (show¬((l.length:Int)<(l.length:Int)) by omega)) ?_
  show some (Step.stop 0 [Dat.n n,Dat.n (nm (l.take (l.length:Int).toNat)),Dat.l TB r,Dat.b b])=some (Step.stop 0 [Dat.n n,Dat.n (nm l),Dat.l TB r,Dat.b b])
  rw[show(l.length:Int).toNat=l.length by omega,List.take_length]
theorem m4s (n:Int)(r:List Int)(b:Bool):h3q [.k 1,.n n,.n 0,.n 0,.n 0,.l TB r,.b b]=some (0,[.n n,.n 0,.l TB r,.b b]):=by
 rw[k3i,show FU=18446744073709551615+1 from rfl]
 unfold a0b
 rw[q3v n 0 0 0 r b rfl rfl _ rfl]
theorem m4c {n:Int}{l:List Int}(h0:0≤n)(h1:n≤(l.length:Int)):h3d [.n n,.l TB l,.b false]=some (0,[.l TB (l.take n.toNat),.l TB (l.drop n.toNat),.b false]):=by
 rw[p3w]
 refine q3q n l false _ ?_
 unfold s3y
 exact a0c rfl (a0c (decide_eq_false (by omega)) (a0c (decide_eq_false (show¬(n>(l.length:Int)) by omega)) (a0a (by simp;omega) rfl)))
theorem g4f {n:Int}{l:List Int}{b:Bool}(h:b=true∨n<0∨(l.length:Int)<n):h3d [.n n,.l TB l,.b b]=some (1,[.l TB ([]:List Int),.b true]):=by
 rw[p3w]
 refine q3q n l b _ ?_
 unfold s3y
 cases b with
 |true=>exact a0a rfl rfl
 |false=>
  refine a0c rfl ?_
  by_cases h1:n<0
  ·exact a0a (decide_eq_true h1) rfl
  ·refine a0c (decide_eq_false h1) (a0a (decide_eq_true (show n>(l.length:Int)from ?_)) rfl)
   rcases h with h|h|h
   ·cases h
   ·omega
   ·exact h
theorem t34_1ok {l:List Int}(hw:Wb l)(h1:1≤l.length):i3g [.n 1,.l TB l,.b false]=some (0,[.n (nm (l.take 1)),.l TB (l.drop 1),.b false]):=by
 have e1:h3d [.n (1:Int),.l TB l,.b false]=some (0,[.l TB (l.take 1),.l TB (l.drop 1),.b false]):=m4c (n:=1) (by omega) (by omega)
 have hx:(l.take 1).length=1:=by rw[List.length_take];omega
 have e2:=lp34 (l:=l.take 1) (by omega) (hw.take 1) 1 (l.drop 1) false
 have hb:=r3w (hw.take 1)
 rw[hx]at hb
 have wr:IntKind.wrap .u8 (nm (l.take 1))=nm (l.take 1):=by
  have:(256:Int)^1=256:=by decide
  rw[wu8];omega
 rw[i3h]
 refine h3y 1 l false _ ?_
 unfold i3y
 refine a0a (by erw[e1];rfl) (a0a (by erw[e1];erw[e2];rfl) ?_)
 have e3:h3q [.k 0,.n (1:Int),.n 0,.l TB (gl TB (dOf (h3d [.n (1:Int),.l TB l,.b false])) 0),.n (List.length (gl TB (dOf (h3d [.n (1:Int),.l TB l,.b false])) 0):Int),.n 0,.l TB (gl TB (dOf (h3d [.n (1:Int),.l TB l,.b false])) 1),.b (gb (dOf (h3d [.n (1:Int),.l TB l,.b false])) 2)]=some (0,[.n 1,.n (nm (l.take 1)),.l TB (l.drop 1),.b false]):=by
  rw[e1];exact e2
 clear e2
 have e2:=e3
 exact a0a (by erw[e2];rfl) (by erw[e2];exact congrArg (fun z=>some (0,[Dat.n z,.l TB (l.drop 1),.b false])) wr)
theorem l4x {l:List Int}{b:Bool}(h:b=true∨l.length<1):i3g [.n 1,.l TB l,.b b]=some (0,[.n 0,.l TB ([]:List Int),.b true]):=by
 have e1:h3d [.n (1:Int),.l TB l,.b b]=some (1,[.l TB ([]:List Int),.b true]):=g4f (by rcases h with h|h;exact .inl h;exact .inr (.inr (by omega)))
 have e2:h3q [.k 1,.n (1:Int),.n 0,.n 0,.n 0,.l TB (gl TB (dOf (h3d [.n (1:Int),.l TB l,.b b])) 0),.b (gb (dOf (h3d [.n (1:Int),.l TB l,.b b])) 1)]=some (0,[.n 1,.n 0,.l TB ([]:List Int),.b true]):=by
  rw[e1];exact m4s 1 [] true
 rw[i3h]
 refine h3y 1 l b _ ?_
 unfold i3y
 refine a0c (by erw[e1];rfl) (a0a (by erw[e1];rfl) (a0a (by erw[e2];rfl) ?_))
 exact a0a (by erw[e2];rfl) (by erw[e2];rfl)
theorem t34_2ok {l:List Int}(hw:Wb l)(h1:2≤l.length):i3g [.n 2,.l TB l,.b false]=some (1,[.n (nm (l.take 2)),.l TB (l.drop 2),.b false]):=by
 have e1:h3d [.n (2:Int),.l TB l,.b false]=some (0,[.l TB (l.take 2),.l TB (l.drop 2),.b false]):=m4c (n:=2) (by omega) (by omega)
 have hx:(l.take 2).length=2:=by rw[List.length_take];omega
 have e2:=lp34 (l:=l.take 2) (by omega) (hw.take 2) 2 (l.drop 2) false
 have hb:=r3w (hw.take 2)
 rw[hx]at hb
 have wr:IntKind.wrap .u16 (nm (l.take 2))=nm (l.take 2):=by
  have:(256:Int)^2=65536:=by decide
  rw[wu16];omega
 rw[i3h]
 refine h3y 2 l false _ ?_
 unfold i3y
 refine a0a (by erw[e1];rfl) (a0a (by erw[e1];erw[e2];rfl) ?_)
 have e3:h3q [.k 0,.n (2:Int),.n 0,.l TB (gl TB (dOf (h3d [.n (2:Int),.l TB l,.b false])) 0),.n (List.length (gl TB (dOf (h3d [.n (2:Int),.l TB l,.b false])) 0):Int),.n 0,.l TB (gl TB (dOf (h3d [.n (2:Int),.l TB l,.b false])) 1),.b (gb (dOf (h3d [.n (2:Int),.l TB l,.b false])) 2)]=some (0,[.n 2,.n (nm (l.take 2)),.l TB (l.drop 2),.b false]):=by
  rw[e1];exact e2
 clear e2
 have e2:=e3
 exact a0c (by erw[e2];rfl) (a0a (by erw[e2];rfl) (by erw[e2];exact congrArg (fun z=>some (1,[Dat.n z,.l TB (l.drop 2),.b false])) wr))
theorem m4e {l:List Int}{b:Bool}(h:b=true∨l.length<2):i3g [.n 2,.l TB l,.b b]=some (1,[.n 0,.l TB ([]:List Int),.b true]):=by
 have e1:h3d [.n (2:Int),.l TB l,.b b]=some (1,[.l TB ([]:List Int),.b true]):=g4f (by rcases h with h|h;exact .inl h;exact .inr (.inr (by omega)))
 have e2:h3q [.k 1,.n (2:Int),.n 0,.n 0,.n 0,.l TB (gl TB (dOf (h3d [.n (2:Int),.l TB l,.b b])) 0),.b (gb (dOf (h3d [.n (2:Int),.l TB l,.b b])) 1)]=some (0,[.n 2,.n 0,.l TB ([]:List Int),.b true]):=by
  rw[e1];exact m4s 2 [] true
 rw[i3h]
 refine h3y 2 l b _ ?_
 unfold i3y
 refine a0c (by erw[e1];rfl) (a0a (by erw[e1];rfl) (a0a (by erw[e2];rfl) ?_))
 exact a0c (by erw[e2];rfl) (a0a (by erw[e2];rfl) (by erw[e2];rfl))
theorem t34_4ok {l:List Int}(hw:Wb l)(h1:4≤l.length):i3g [.n 4,.l TB l,.b false]=some (2,[.n (nm (l.take 4)),.l TB (l.drop 4),.b false]):=by
 have e1:h3d [.n (4:Int),.l TB l,.b false]=some (0,[.l TB (l.take 4),.l TB (l.drop 4),.b false]):=m4c (n:=4) (by omega) (by omega)
 have hx:(l.take 4).length=4:=by rw[List.length_take];omega
 have e2:=lp34 (l:=l.take 4) (by omega) (hw.take 4) 4 (l.drop 4) false
 have hb:=r3w (hw.take 4)
 rw[hx]at hb
 have wr:IntKind.wrap .u32 (nm (l.take 4))=nm (l.take 4):=by
  have:(256:Int)^4=4294967296:=by decide
  rw[wu32];omega
 rw[i3h]
 refine h3y 4 l false _ ?_
 unfold i3y
 refine a0a (by erw[e1];rfl) (a0a (by erw[e1];erw[e2];rfl) ?_)
 have e3:h3q [.k 0,.n (4:Int),.n 0,.l TB (gl TB (dOf (h3d [.n (4:Int),.l TB l,.b false])) 0),.n (List.length (gl TB (dOf (h3d [.n (4:Int),.l TB l,.b false])) 0):Int),.n 0,.l TB (gl TB (dOf (h3d [.n (4:Int),.l TB l,.b false])) 1),.b (gb (dOf (h3d [.n (4:Int),.l TB l,.b false])) 2)]=some (0,[.n 4,.n (nm (l.take 4)),.l TB (l.drop 4),.b false]):=by
  rw[e1];exact e2
 clear e2
 have e2:=e3
 exact a0c (by erw[e2];rfl) (a0c (by erw[e2];rfl) (a0a (by erw[e2];rfl) (by erw[e2];exact congrArg (fun z=>some (2,[Dat.n z,.l TB (l.drop 4),.b false])) wr)))
theorem g4i {l:List Int}{b:Bool}(h:b=true∨l.length<4):i3g [.n 4,.l TB l,.b b]=some (2,[.n 0,.l TB ([]:List Int),.b true]):=by
 have e1:h3d [.n (4:Int),.l TB l,.b b]=some (1,[.l TB ([]:List Int),.b true]):=g4f (by rcases h with h|h;exact .inl h;exact .inr (.inr (by omega)))
 have e2:h3q [.k 1,.n (4:Int),.n 0,.n 0,.n 0,.l TB (gl TB (dOf (h3d [.n (4:Int),.l TB l,.b b])) 0),.b (gb (dOf (h3d [.n (4:Int),.l TB l,.b b])) 1)]=some (0,[.n 4,.n 0,.l TB ([]:List Int),.b true]):=by
  rw[e1];exact m4s 4 [] true
 rw[i3h]
 refine h3y 4 l b _ ?_
 unfold i3y
 refine a0c (by erw[e1];rfl) (a0a (by erw[e1];rfl) (a0a (by erw[e2];rfl) ?_))
 exact a0c (by erw[e2];rfl) (a0c (by erw[e2];rfl) (a0a (by erw[e2];rfl) (by erw[e2];rfl)))
theorem t34_8ok {l:List Int}(hw:Wb l)(h1:8≤l.length):i3g [.n 8,.l TB l,.b false]=some (3,[.n (nm (l.take 8)),.l TB (l.drop 8),.b false]):=by
 have e1:h3d [.n (8:Int),.l TB l,.b false]=some (0,[.l TB (l.take 8),.l TB (l.drop 8),.b false]):=m4c (n:=8) (by omega) (by omega)
 have hx:(l.take 8).length=8:=by rw[List.length_take];omega
 have e2:=lp34 (l:=l.take 8) (by omega) (hw.take 8) 8 (l.drop 8) false
 have hb:=r3w (hw.take 8)
 rw[hx]at hb
 have wr:IntKind.wrap .u64 (nm (l.take 8))=nm (l.take 8):=by
  have:(256:Int)^8=18446744073709551616:=by decide
  rw[wu64];omega
 rw[i3h]
 refine h3y 8 l false _ ?_
 unfold i3y
 refine a0a (by erw[e1];rfl) (a0a (by erw[e1];erw[e2];rfl) ?_)
 have e3:h3q [.k 0,.n (8:Int),.n 0,.l TB (gl TB (dOf (h3d [.n (8:Int),.l TB l,.b false])) 0),.n (List.length (gl TB (dOf (h3d [.n (8:Int),.l TB l,.b false])) 0):Int),.n 0,.l TB (gl TB (dOf (h3d [.n (8:Int),.l TB l,.b false])) 1),.b (gb (dOf (h3d [.n (8:Int),.l TB l,.b false])) 2)]=some (0,[.n 8,.n (nm (l.take 8)),.l TB (l.drop 8),.b false]):=by
  rw[e1];exact e2
 clear e2
 have e2:=e3
 exact a0c (by erw[e2];rfl) (a0c (by erw[e2];rfl) (a0c (by erw[e2];rfl) ((by erw[e2];rfl))))
theorem m4l {l:List Int}{b:Bool}(h:b=true∨l.length<8):i3g [.n 8,.l TB l,.b b]=some (3,[.n 0,.l TB ([]:List Int),.b true]):=by
 have e1:h3d [.n (8:Int),.l TB l,.b b]=some (1,[.l TB ([]:List Int),.b true]):=g4f (by rcases h with h|h;exact .inl h;exact .inr (.inr (by omega)))
 have e2:h3q [.k 1,.n (8:Int),.n 0,.n 0,.n 0,.l TB (gl TB (dOf (h3d [.n (8:Int),.l TB l,.b b])) 0),.b (gb (dOf (h3d [.n (8:Int),.l TB l,.b b])) 1)]=some (0,[.n 8,.n 0,.l TB ([]:List Int),.b true]):=by
  rw[e1];exact m4s 8 [] true
 rw[i3h]
 refine h3y 8 l b _ ?_
 unfold i3y
 refine a0c (by erw[e1];rfl) (a0a (by erw[e1];rfl) (a0a (by erw[e2];rfl) ?_))
 exact a0c (by erw[e2];rfl) (a0c (by erw[e2];rfl) (a0c (by erw[e2];rfl) ((by erw[e2];rfl))))
theorem byt0 {n:Int}(h:0≤n):byt n 0=n/1%256:=by
 show IntKind.wrap .u8 (n.fdiv 1)=_
 rw[wu8,Int.fdiv_eq_ediv_of_nonneg _ (by decide)]
theorem byt1 {n:Int}(h:0≤n):byt n 1=n/256%256:=by
 show IntKind.wrap .u8 (n.fdiv 256)=_
 rw[wu8,Int.fdiv_eq_ediv_of_nonneg _ (by decide)]
theorem byt2 {n:Int}(h:0≤n):byt n 2=n/65536%256:=by
 show IntKind.wrap .u8 (n.fdiv 65536)=_
 rw[wu8,Int.fdiv_eq_ediv_of_nonneg _ (by decide)]
theorem byt3 {n:Int}(h:0≤n):byt n 3=n/16777216%256:=by
 show IntKind.wrap .u8 (n.fdiv 16777216)=_
 rw[wu8,Int.fdiv_eq_ediv_of_nonneg _ (by decide)]
theorem byt4 {n:Int}(h:0≤n):byt n 4=n/4294967296%256:=by
 show IntKind.wrap .u8 (n.fdiv 4294967296)=_
 rw[wu8,Int.fdiv_eq_ediv_of_nonneg _ (by decide)]
theorem byt5 {n:Int}(h:0≤n):byt n 5=n/1099511627776%256:=by
 show IntKind.wrap .u8 (n.fdiv 1099511627776)=_
 rw[wu8,Int.fdiv_eq_ediv_of_nonneg _ (by decide)]
theorem byt6 {n:Int}(h:0≤n):byt n 6=n/281474976710656%256:=by
 show IntKind.wrap .u8 (n.fdiv 281474976710656)=_
 rw[wu8,Int.fdiv_eq_ediv_of_nonneg _ (by decide)]
theorem byt7 {n:Int}(h:0≤n):byt n 7=n/72057594037927936%256:=by
 show IntKind.wrap .u8 (n.fdiv 72057594037927936)=_
 rw[wu8,Int.fdiv_eq_ediv_of_nonneg _ (by decide)]
theorem nmb1 {n:Int}(h:0≤n):nm (bes n 1)=n%256:=by
 show nm [byt n 0]=_
 rw[byt0 h]
 simp only[nm,List.foldl]
 omega
theorem nmb2 {n:Int}(h:0≤n):nm (bes n 2)=n%65536:=by
 show nm [byt n 1,byt n 0]=_
 rw[byt0 h,byt1 h]
 simp only[nm,List.foldl]
 omega
theorem nmb4 {n:Int}(h:0≤n):nm (bes n 4)=n%4294967296:=by
 show nm [byt n 3,byt n 2,byt n 1,byt n 0]=_
 rw[byt0 h,byt1 h,byt2 h,byt3 h]
 simp only[nm,List.foldl]
 omega
theorem nmb8 {n:Int}(h:0≤n):nm (bes n 8)=n%18446744073709551616:=by
 show nm [byt n 7,byt n 6,byt n 5,byt n 4,byt n 3,byt n 2,byt n 1,byt n 0]=_
 rw[byt0 h,byt1 h,byt2 h,byt3 h,byt4 h,byt5 h,byt6 h,byt7 h]
 simp only[nm,List.foldl]
 omega
theorem z3x: ∀(l:List Int) (a:Int),l.foldl (fun a b=>a*256+b) a=a*256^l.length+nm l
 |[],a=>by simp[nm]
 |b::l,a=>by
  have h1:=z3x l (a*256+b)
  have h2:nm (b::l)=(0*256+b)*256^l.length+nm l:=z3x l (0*256+b)
  rw[h2]
  simp only[List.foldl_cons,List.length_cons,h1,Int.pow_succ]
  rw[Int.add_mul,Int.zero_mul,Int.zero_add,Int.mul_assoc,Int.mul_comm 256 (256^l.length),Int.add_assoc]
theorem l4u (b:Int)(l:List Int):nm (b::l)=b*256^l.length+nm l:=by
 have:=z3x l (0*256+b)
 rw[Int.zero_mul,Int.zero_add]at this
 have e:nm (b::l)=l.foldl (fun a b=>a*256+b) (0*256+b):=rfl
 rw[e,Int.zero_mul,Int.zero_add];exact this
theorem l4z: ∀{a b:List Int},a.length=b.length→Wb a→Wb b→nm a=nm b→a=b
 |[],[],_,_,_,_=>rfl
 |[],_::_,h,_,_,_=>by simp at h
 |_::_,[],h,_,_,_=>by simp at h
 |x::a,y::b,h,ha,hb,e=>by
  have hl:a.length=b.length:=by simpa using h
  have wa:Wb a:=fun z hz=>ha z (by simp[hz])
  have wb:Wb b:=fun z hz=>hb z (by simp[hz])
  have b1:=r3w wa
  have b2:=r3w wb
  rw[l4u,l4u,hl]at e
  rw[hl]at b1
  have hx:=ha x (by simp)
  have hy:=hb y (by simp)
  have h0:0<(256:Int)^b.length:=by omega
  have hxy:x=y:=by
   rcases Int.lt_trichotomy x y with q|q|q
   ·exfalso
    have:(x+1)*256^b.length≤y*256^b.length:=Int.mul_le_mul_of_nonneg_right (by omega) (by omega)
    rw[Int.add_mul]at this
    omega
   ·exact q
   ·exfalso
    have:(y+1)*256^b.length≤x*256^b.length:=Int.mul_le_mul_of_nonneg_right (by omega) (by omega)
    rw[Int.add_mul]at this
    omega
  subst hxy
  rw[l4z hl wa wb (by omega)]
theorem pc {k:Nat}(hk: ∀n:Int,0≤n→nm (bes n k)=n%256^k){l:List Int}(h:Wb l)(hl:k≤l.length):l=bes (nm (l.take k)) k++l.drop k∧0≤nm (l.take k)∧nm (l.take k)<256^k:=by
 have hx:(l.take k).length=k:=by rw[List.length_take];omega
 have b:=r3w (h.take k)
 rw[hx]at b
 refine⟨?_,b⟩
 have e:l.take k=bes (nm (l.take k)) k:=l4z (by rw[hx,s1c]) (h.take k) (h3m _ _) (by rw[hk _ b.1,Int.emod_eq_of_lt b.1 b.2])
 calc l=l.take k++l.drop k:=(List.take_append_drop k l).symm
  _=_:=by rw[←e]
theorem k1 (n:Int)(h:0≤n):nm (bes n 1)=n%256^1:=by rw[nmb1 h];rfl
theorem k2 (n:Int)(h:0≤n):nm (bes n 2)=n%256^2:=by rw[nmb2 h];rfl
theorem k4 (n:Int)(h:0≤n):nm (bes n 4)=n%256^4:=by rw[nmb4 h];rfl
theorem k8 (n:Int)(h:0≤n):nm (bes n 8)=n%256^8:=by rw[nmb8 h];rfl
theorem cut1 {l:List Int}(h:Wb l)(hl:1≤l.length): ∃v r,l=bes v 1++r∧0≤v∧v<256∧Wb r∧r.length+1=l.length:=by
 obtain⟨a,b,c⟩:=pc k1 h hl
 exact⟨_,_,a,b,c,h.drop 1,by rw[List.length_drop];omega⟩
theorem cut2 {l:List Int}(h:Wb l)(hl:2≤l.length): ∃v r,l=bes v 2++r∧0≤v∧v<65536∧Wb r∧r.length+2=l.length:=by
 obtain⟨a,b,c⟩:=pc k2 h hl
 exact⟨_,_,a,b,c,h.drop 2,by rw[List.length_drop];omega⟩
theorem cut4 {l:List Int}(h:Wb l)(hl:4≤l.length): ∃v r,l=bes v 4++r∧0≤v∧v<4294967296∧Wb r∧r.length+4=l.length:=by
 obtain⟨a,b,c⟩:=pc k4 h hl
 exact⟨_,_,a,b,c,h.drop 4,by rw[List.length_drop];omega⟩
theorem cut8 {l:List Int}(h:Wb l)(hl:8≤l.length): ∃v r,l=bes v 8++r∧0≤v∧v<18446744073709551616∧Wb r∧r.length+8=l.length:=by
 obtain⟨a,b,c⟩:=pc k8 h hl
 exact⟨_,_,a,b,c,h.drop 8,by rw[List.length_drop];omega⟩
theorem nb1 {v:Int}(h:0≤v)(h2:v<256):nm (bes v 1)=v:=by rw[nmb1 h];omega
theorem nb2 {v:Int}(h:0≤v)(h2:v<65536):nm (bes v 2)=v:=by rw[nmb2 h];omega
theorem nb4 {v:Int}(h:0≤v)(h2:v<4294967296):nm (bes v 4)=v:=by rw[nmb4 h];omega
theorem nb8 {v:Int}(h:0≤v)(h2:v<18446744073709551616):nm (bes v 8)=v:=by rw[nmb8 h];omega
def lf (o:Option (List Int)):List Int:=o.getD []
def bd (o:Option (List Int)):Bool:=o.isNone
def rd (w:Nat):Option (List Int)→Option (List Int)
 |some l=>if w≤l.length then some (l.drop w)else none
 |none=>none
def tk (w:Nat):Option (List Int)→List Int
 |some l=>if w≤l.length then l.take w else[]
 |none=>[]
def vl (w:Nat)(o:Option (List Int)):Int:=nm (tk w o)
def WO (o:Option (List Int)):Prop:= ∀l,o=some l→Wb l∧l.length≤1000000
theorem WO.rd {o:Option (List Int)}(h:WO o)(w:Nat):WO (rd w o):=by
 intro l hl
 cases o with
 |none=>cases hl
 |some x=>
  have:=h x rfl
  by_cases q:w≤x.length
  ·have e:Vx.rd w (some x)=some (x.drop w):=if_pos q
   rw[e]at hl
   cases hl
   exact⟨this.1.drop w,by rw[List.length_drop];omega⟩
  ·have e:Vx.rd w (some x)=none:=if_neg q
   rw[e]at hl
   cases hl
theorem i3r {w:Nat}{l:List Int}(h:w≤l.length):rd w (some l)=some (l.drop w):=if_pos h
theorem j3k {w:Nat}{l:List Int}(h: ¬w≤l.length):rd w (some l)=none:=if_neg h
theorem n3i {w:Nat}{l:List Int}(h:w≤l.length):tk w (some l)=l.take w:=if_pos h
theorem q3z {w:Nat}{l:List Int}(h: ¬w≤l.length):tk w (some l)=[]:=if_neg h
theorem m3n (a b:Nat)(o:Option (List Int)):rd a (rd b o)=rd (b+a) o:=by
 cases o with
 |none=>rfl
 |some l=>
  by_cases h:b≤l.length
  ·rw[i3r h]
   by_cases h2:b+a≤l.length
   ·rw[i3r (by rw[List.length_drop];omega),i3r h2,List.drop_drop]
   ·rw[j3k (by rw[List.length_drop];omega),j3k h2]
  ·rw[j3k h,j3k (by omega)];rfl
theorem p3y {k:Nat}{a r:List Int}(h:a.length=k):rd k (some (a++r))=some r:=by
 subst h
 rw[i3r (by rw[List.length_append];omega),List.drop_left]
theorem v3y {k:Nat}{a r:List Int}(h:a.length=k):tk k (some (a++r))=a:=by
 subst h
 rw[n3i (by rw[List.length_append];omega),List.take_left]
theorem i4g (v:Int)(k:Nat)(r:List Int):rd k (some (bes v k++r))=some r:=p3y (s1c v k)
theorem e4t (v:Int)(k:Nat)(r:List Int):vl k (some (bes v k++r))=nm (bes v k):=by unfold vl;rw[v3y (s1c v k)]
theorem u3d {k:Nat}{l:List Int}(h:l.length≠k):bd (rd k (some l))=true∨0<(lf (rd k (some l))).length:=by
 by_cases q:k≤l.length
 ·rw[i3r q];exact .inr (by show 0<(l.drop k).length;rw[List.length_drop];omega)
 ·rw[j3k q];exact .inl rfl
theorem r77r {o:Option (List Int)}(h:WO o):j3z [.l TB (lf o),.b (bd o)]=some (0,[.n (vl 1 o),.l TB (lf (rd 1 o)),.b (bd (rd 1 o))]):=by
 have e:i3g [.n 1,.l TB (lf o),.b (bd o)]=some (0,[.n (vl 1 o),.l TB (lf (rd 1 o)),.b (bd (rd 1 o))]):=by
  cases o with
  |none=>exact l4x (.inl rfl)
  |some l=>
   by_cases q:1≤l.length
   ·unfold vl;rw[n3i q,i3r q];exact t34_1ok (h l rfl).1 q
   ·unfold vl;rw[q3z q,j3k q];exact l4x (.inr (by show l.length<_;omega))
 rw[u3v]
 refine b4j _ _ _ ?_
 unfold d4e
 dsimp only
 erw[e]
 rfl
theorem r83r {o:Option (List Int)}(h:WO o):v3t [.l TB (lf o),.b (bd o)]=some (0,[.n (vl 2 o),.l TB (lf (rd 2 o)),.b (bd (rd 2 o))]):=by
 have e:i3g [.n 2,.l TB (lf o),.b (bd o)]=some (1,[.n (vl 2 o),.l TB (lf (rd 2 o)),.b (bd (rd 2 o))]):=by
  cases o with
  |none=>exact m4e (.inl rfl)
  |some l=>
   by_cases q:2≤l.length
   ·unfold vl;rw[n3i q,i3r q];exact t34_2ok (h l rfl).1 q
   ·unfold vl;rw[q3z q,j3k q];exact m4e (.inr (by show l.length<_;omega))
 rw[t3o]
 refine z3u _ _ _ ?_
 unfold d4c
 dsimp only
 erw[e]
 rfl
theorem r79r {o:Option (List Int)}(h:WO o):l3w [.l TB (lf o),.b (bd o)]=some (0,[.n (vl 4 o),.l TB (lf (rd 4 o)),.b (bd (rd 4 o))]):=by
 have e:i3g [.n 4,.l TB (lf o),.b (bd o)]=some (2,[.n (vl 4 o),.l TB (lf (rd 4 o)),.b (bd (rd 4 o))]):=by
  cases o with
  |none=>exact g4i (.inl rfl)
  |some l=>
   by_cases q:4≤l.length
   ·unfold vl;rw[n3i q,i3r q];exact t34_4ok (h l rfl).1 q
   ·unfold vl;rw[q3z q,j3k q];exact g4i (.inr (by show l.length<_;omega))
 rw[t3r]
 refine a4r _ _ _ ?_
 unfold c4h
 dsimp only
 erw[e]
 rfl
theorem r78r {o:Option (List Int)}(h:WO o):i3v [.l TB (lf o),.b (bd o)]=some (0,[.n (vl 8 o),.l TB (lf (rd 8 o)),.b (bd (rd 8 o))]):=by
 have e:i3g [.n 8,.l TB (lf o),.b (bd o)]=some (3,[.n (vl 8 o),.l TB (lf (rd 8 o)),.b (bd (rd 8 o))]):=by
  cases o with
  |none=>exact m4l (.inl rfl)
  |some l=>
   by_cases q:8≤l.length
   ·unfold vl;rw[n3i q,i3r q];exact t34_8ok (h l rfl).1 q
   ·unfold vl;rw[q3z q,j3k q];exact m4l (.inr (by show l.length<_;omega))
 rw[u3c]
 refine z3k _ _ _ ?_
 unfold d4k
 dsimp only
 erw[e]
 rfl
theorem r82r {o:Option (List Int)}(h:WO o)(n:Nat)(hn:n≤1000000):r3i [.n (n:Int),.l TB (lf o),.b (bd o)]=some (0,[.l TB (lf (rd n o)),.b (bd (rd n o)),.l TB (tk n o)]):=by
 rw[t3v]
 refine b4k _ _ _ _ ?_
 unfold b4q
 dsimp only
 have e0:i2m [.l TB ([]:List Int)]=some (0,[.l TB ([]:List Int)]):=t31 (by simp)
 have no: ∀{l:List Int} {b:Bool},(b=true∨(n:Int)<0∨(l.length:Int)<n)→h3d [.n (n:Int),.l TB l,.b b]=some (1,[.l TB ([]:List Int),.b true]):=fun h=>g4f h
 cases o with
 |none=>
  have e:=no (l:=[]) (b:=true) (.inl rfl)
  erw[e]
  refine a0c rfl (a0a rfl ?_)
  erw[e0]
  rfl
 |some l=>
  by_cases q:n≤l.length
  ·have e:h3d [.n (n:Int),.l TB l,.b false]=_:=m4c (n:=(n:Int)) (by omega) (by omega)
   rw[show((n:Int)).toNat=n by omega]at e
   have e1:=t31 (l:=l.take n) (by rw[List.length_take];omega)
   have hr:rd n (some l)=some (l.drop n):=if_pos q
   have ht:tk n (some l)=l.take n:=if_pos q
   rw[hr,ht]
   erw[e]
   refine a0a rfl ?_
   erw[e1]
   rfl
  ·have e:=no (l:=l) (b:=false) (.inr (.inr (by omega)))
   have hr:rd n (some l)=none:=if_neg q
   have ht:tk n (some l)=[]:=if_neg q
   rw[hr,ht]
   erw[e]
   refine a0c rfl (a0a rfl ?_)
   erw[e0]
   rfl
theorem t13r {l:List Int}(h:l.length≤1000000):o3s [.l TB l]=some (0,[.l TB l,.b false]):=by
 rw[t3w]
 refine y3q l _ ?_
 unfold c4n
 have e:=t31 (l:=l) (by omega)
 dsimp only
 erw[e]
 rfl
theorem Sm_bd (l:List Int):0≤N (Sm l)∧N (Sm l)<4294967296:=by
 have h:N (Sm l)=((Sm l).toNat:Int):=rfl
 have:=(Sm l).isLt
 omega
theorem w8i (n:Nat)(h:n≤1000000):IntKind.wrap .i64 (((n+5:Nat):Int)-4)=((n+1:Nat):Int):=by rw[w64d];omega
theorem q3l {a b:Int}(h:a=b):(a !=b)=false:=by subst h;simp
theorem d4a {a b:Int}(h:a≠b):(a !=b)=true:=by simp[h]
theorem q3x {k:Int}{p:List Int}(hw:Wb (k::p))(hl:p.length≤900000):k3s [.l TB (chk (k::p)),.n k]=some (0,[.b true,.l TB p,.b false]):=by
 have hlen:(chk (k::p)).length=p.length+5:=by rw[w1n,List.length_cons]
 have hL:IntKind.wrap .i64 (((chk (k::p)).length:Int)-4)=((p.length+1:Nat):Int):=by rw[hlen];exact w8i _ (by omega)
 have hd:(chk (k::p)).drop (p.length+1)=bes (IntKind.wrap .u64 (N (Sm (k::p)))) 4:=by
  unfold chk
  exact List.drop_left' (by rw[List.length_cons])
 have ht:(chk (k::p)).take (p.length+1)=k::p:=by
  unfold chk
  exact List.take_left' (by rw[List.length_cons])
 have hS:=Sm_bd (k::p)
 have hu:IntKind.wrap .u64 (N (Sm (k::p)))=N (Sm (k::p)):=by rw[wu64];omega
 rw[hu]at hd
 have e1:o3s [.l TB (bes (N (Sm (k::p))) 4)]=some (0,[.l TB (bes (N (Sm (k::p))) 4),.b false]):=t13r (by rw[s1c];omega)
 have e2:=r79r (o:=some (bes (N (Sm (k::p))) 4)) (fun l hl=>by cases hl;exact⟨h3m _ _,by rw[s1c];omega⟩)
 have hv:vl 4 (some (bes (N (Sm (k::p))) 4))=N (Sm (k::p)):=by
  have:=e4t (N (Sm (k::p))) 4 []
  rw[List.append_nil]at this
  rw[this,nb4 hS.1 hS.2]
 rw[hv]at e2
 have e3:=q12 (k::p) (by rw[List.length_cons];omega)
 have e4:=t13r (l:=p) (by omega)
 rw[q3i]
 refine p3v _ _ _ ?_
 unfold s3b
 dsimp only
 have hn:(((p.length+1:Nat):Int)).toNat=p.length+1:=by omega
 refine a0c (decide_eq_false (by erw[hL];omega)) (a0c (q3l rfl) ?_)
 erw[hL,hn,hd,ht,e1]
 refine a0a rfl ?_
 erw[e2]
 refine a0a rfl (a0a (by rw[Bool.true_and];exact decide_eq_true (by omega)) ?_)
 erw[e3]
 refine a0a rfl (a0c (q3l rfl) (a0a (by rw[Bool.true_and];exact decide_eq_true (by omega)) ?_))
 erw[e4]
 rfl
theorem l4h {k:Int}{b:List Int}(hw:Wb b)(hl:b.length≤900000)(h: ∀p,b≠chk (k::p)):k3s [.l TB b,.n k]=some (1,[.b false]):=by
 rw[q3i]
 refine p3v _ _ _ ?_
 unfold s3b
 dsimp only
 by_cases h5:b.length<5
 ·have q:IntKind.wrap .i64 ((b.length:Int)-4)<1:=by rw[w64d];omega
  exact a0a (decide_eq_true q) rfl
 ·obtain⟨n,hn⟩: ∃n,b.length=n+5:=⟨b.length-5,by omega⟩
  have hL:IntKind.wrap .i64 ((b.length:Int)-4)=((n+1:Nat):Int):=by rw[hn];exact w8i _ (by omega)
  have hm:(((n+1:Nat):Int)).toNat=n+1:=by omega
  refine a0c (decide_eq_false (by erw[hL];omega)) ?_
  by_cases hk:b.getD 0 0=k
  ·refine a0c (q3l hk) ?_
   have hd4:(b.drop (n+1)).length=4:=by rw[List.length_drop];omega
   have e1:=t13r (l:=b.drop (n+1)) (by omega)
   have e2:=r79r (o:=some (b.drop (n+1))) (fun l hl=>by cases hl;exact⟨hw.drop _,by omega⟩)
   have hv:vl 4 (some (b.drop (n+1)))=nm (b.drop (n+1)):=by
    have:=v3y (k:=4) (a:=b.drop (n+1)) (r:=[]) hd4
    rw[List.append_nil]at this
    unfold vl
    rw[this]
   rw[hv]at e2
   have e3:=q12 (b.take (n+1)) (by rw[List.length_take];omega)
   erw[hL,hm,e1]
   refine a0a rfl ?_
   erw[e2]
   refine a0a rfl (a0a (by rw[Bool.true_and];exact decide_eq_true (by omega)) ?_)
   erw[e3]
   refine a0a rfl ?_
   by_cases hc:nm (b.drop (n+1))=N (Sm (b.take (n+1)))
   ·exfalso
    have hb:b=b.take (n+1)++b.drop (n+1):=(List.take_append_drop _ _).symm
    obtain⟨x,p,hp⟩: ∃x p,b.take (n+1)=x::p:=by
     cases q:b.take (n+1)with
     |nil=>have:=congrArg List.length q;rw[List.length_take,List.length_nil]at this;omega
     |cons x p=>exact⟨x,p,rfl⟩
    have hx:x=k:=by
     rw[←hk,hb,hp]
     rfl
    subst hx
    have hS:=Sm_bd (x::p)
    rw[hp]at hc hb
    refine h p ?_
    rw[hb]
    show _=(x::p)++bes (IntKind.wrap .u64 (N (Sm (x::p)))) 4
    have hu:IntKind.wrap .u64 (N (Sm (x::p)))=N (Sm (x::p)):=by rw[wu64];omega
    have q:b.drop (n+1)=bes (N (Sm (x::p))) 4:=l4z (by rw[hd4,s1c]) (hw.drop (n+1)) (h3m _ 4) (by rw[hc,nb4 hS.1 hS.2])
    rw[hu,←q]
   ·exact a0a (d4a hc) rfl
  ·exact a0a (d4a hk) rfl
theorem win2 {m a b:Int}(h:win m [a,b]=true):0≤a∧a≤m∧0≤b∧b≤m:=by
 unfold win at h;simp at h;omega
theorem wi {y:Int}(h0:0≤y)(h1:y<18446744073709551616):IntKind.wrap .u64 (IntKind.wrap .i64 y)=y:=by rw[wu64,w64d];omega
theorem wj {y:Int}(h0:0≤y)(h1:y≤9223372036854775807):IntKind.wrap .i64 (IntKind.wrap .u64 y)=y:=by rw[wu64,w64d];omega
theorem wk {y:Int}(h0:0≤y)(h1:y<18446744073709551616):IntKind.wrap .u64 y=y:=by rw[wu64];omega
theorem be1 {c:Int}(h0:0≤c)(h1:c<256):bes c 1=[c]:=by have:=bes1 h0 h1;rw[wk h0 (by omega)]at this;exact this
def tm (o:Option (List Int)):List Int:=List.take 64 (tk 64 o)++List.drop (tk 64 o).length (List.replicate 64 0)
theorem tm_app {t r:List Int}(h:t.length=64):tm (some (t++r))=t:=by
 unfold tm
 rw[v3y h,←h,List.take_length,List.drop_eq_nil_of_le (by rw[List.length_replicate];omega),List.append_nil]
theorem win64 {p:List Int}(h:p.length=0):p=[]:=List.eq_nil_of_length_eq_zero h
theorem t49 {o:Option (List Int)}(h:WO o):p3x [.l TB (lf o),.b (bd o)]=some (0,[.n (vl 1 o),.n (IntKind.wrap .i64 (vl 8 (rd 1 o))),.n (IntKind.wrap .i64 (vl 8 (rd 8 (rd 1 o)))),.n (vl 8 (rd 8 (rd 8 (rd 1 o)))),.n (vl 4 (rd 8 (rd 8 (rd 8 (rd 1 o))))),.l TB (lf (rd 4 (rd 8 (rd 8 (rd 8 (rd 1 o)))))),.b (bd (rd 4 (rd 8 (rd 8 (rd 8 (rd 1 o))))))]):=by
 have e1:=r77r h
 have e2:=r78r (h.rd 1)
 have e3:=r78r ((h.rd 1).rd 8)
 have e4:=r78r (((h.rd 1).rd 8).rd 8)
 have e5:=r79r ((((h.rd 1).rd 8).rd 8).rd 8)
 rw[x3j]
 refine a4x _ _ _ ?_
 unfold d4b
 dsimp only
 erw[e1]
 refine a0a rfl ?_
 erw[e2]
 refine a0a rfl ?_
 erw[e3]
 refine a0a rfl ?_
 erw[e4]
 refine a0a rfl ?_
 erw[e5]
 refine a0a rfl ?_
 rfl
theorem t52 {o:Option (List Int)}(h:WO o):n3o [.l TB (lf o),.b (bd o)]=some (0,[.n (vl 8 o),.n (vl 8 (rd 8 o)),.n (vl 8 (rd 8 (rd 8 o))),.l TB (tm (rd 8 (rd 8 (rd 8 o)))),.n (vl 4 (rd 64 (rd 8 (rd 8 (rd 8 o))))),.l TB (lf (rd 4 (rd 64 (rd 8 (rd 8 (rd 8 o)))))),.b (bd (rd 4 (rd 64 (rd 8 (rd 8 (rd 8 o))))))]):=by
 have e1:=r78r h
 have e2:=r78r (h.rd 8)
 have e3:=r78r ((h.rd 8).rd 8)
 have e4:=r82r (((h.rd 8).rd 8).rd 8) 64 (by omega)
 have e5:=r79r ((((h.rd 8).rd 8).rd 8).rd 64)
 rw[w3v]
 refine y3p _ _ _ ?_
 unfold d4w
 dsimp only
 erw[e1]
 refine a0a rfl ?_
 erw[e2]
 refine a0a rfl ?_
 erw[e3]
 refine a0a rfl ?_
 erw[e4]
 refine a0a rfl ?_
 erw[e5]
 refine a0a rfl ?_
 rfl
theorem t56 {o:Option (List Int)}(h:WO o):p3r [.l TB (lf o),.b (bd o)]=some (0,[.n (IntKind.wrap .i64 (vl 8 o)),.n (IntKind.wrap .i64 (vl 8 (rd 8 o))),.n (vl 8 (rd 8 (rd 8 o))),.n (vl 8 (rd 8 ((rd 8 (rd 8 o))))),.n (vl 8 (rd 8 (rd 8 ((rd 8 (rd 8 o)))))),.l TB (tm (rd 8 (rd 8 (rd 8 ((rd 8 (rd 8 o))))))),.n (vl 4 (rd 64 (rd 8 (rd 8 (rd 8 ((rd 8 (rd 8 o)))))))),.l TB (lf (rd 4 (rd 64 (rd 8 (rd 8 (rd 8 ((rd 8 (rd 8 o))))))))),.b (bd (rd 4 (rd 64 (rd 8 (rd 8 (rd 8 ((rd 8 (rd 8 o)))))))))]):=by
 have e1:=r78r h
 have e2:=r78r (h.rd 8)
 have e3:=t52 ((h.rd 8).rd 8)
 rw[u3m]
 refine z3m _ _ _ ?_
 unfold b4t
 dsimp only
 erw[e1]
 refine a0a rfl ?_
 erw[e2]
 refine a0a rfl ?_
 erw[e3]
 rfl
def OKO (c:Int)(y:Int)(e:Int)(q:Int)(u:Int):Prop:=(0≤c∧c<256)∧(0≤q∧q<18446744073709551616)∧(0≤u∧u<4294967296)∧(win 1099511627776 [y,e]=true)
theorem g49 {c y e q u:Int}{r:List Int}(hc:0≤c∧c<256)(hy:0≤y∧y<18446744073709551616)(he:0≤e∧e<18446744073709551616)(hq:0≤q∧q<18446744073709551616)(hu:0≤u∧u<4294967296)(hw:WO (some (bes c 1++(bes y 8++(bes e 8++(bes q 8++(bes u 4++(r)))))))):p3x [.l TB (bes c 1++(bes y 8++(bes e 8++(bes q 8++(bes u 4++(r)))))),.b false]=some (0,[.n c,.n (IntKind.wrap .i64 y),.n (IntKind.wrap .i64 e),.n q,.n u,.l TB r,.b false]):=by
 have e:=t49 hw
 simp only[i4g,e4t,nb1 hc.1 hc.2,nb8 hy.1 hy.2,nb8 he.1 he.2,nb8 hq.1 hq.2,nb4 hu.1 hu.2]at e
 exact e
theorem x49 {p:List Int}(hw:WO (some p))(hp:p.length≠29): ∃(x0:Int) (x1:Int) (x2:Int) (x3:Int) (x4:Int) (l:List Int) (bb:Bool),p3x [.l TB p,.b false]=some (0,[.n x0,.n x1,.n x2,.n x3,.n x4,.l TB l,.b bb])∧(bb=true∨0<l.length):=by
 have e:=t49 hw
 simp only[m3n]at e
 exact⟨_,_,_,_,_,_,_,e,u3d hp⟩
theorem encO {c y e q u:Int}(hc:0≤c∧c<256)(hu:0≤u∧u<4294967296):chk (outB c y e q u)=chk (2::(bes c 1++(bes (IntKind.wrap .u64 y) 8++(bes (IntKind.wrap .u64 e) 8++(bes q 8++(bes u 4++([]))))))):=by
 unfold outB
 simp only[wk hu.1 (by omega:u<18446744073709551616),List.append_assoc,List.cons_append,List.nil_append,List.append_nil,be1 hc.1 hc.2]
theorem G26 {c y e q u:Int}(h:OKO c y e q u):h3k [.l TB (chk (outB c y e q u))]=some (0,[.n c,.n y,.n e,.n q,.n u,.n 0]):=by
 obtain⟨hc,hq,hu,hm⟩:=h
 have hwn:=win2 hm
 have wu: ∀{x:Int},0≤IntKind.wrap .u64 x∧IntKind.wrap .u64 x<18446744073709551616:=by intro x;rw[wu64];omega
 have hwb:Wb (bes c 1++(bes (IntKind.wrap .u64 y) 8++(bes (IntKind.wrap .u64 e) 8++(bes q 8++(bes u 4++([])))))):=(h3m _ _).app ((h3m _ _).app ((h3m _ _).app ((h3m _ _).app ((h3m _ _).app (Wb.nil)))))
 have hlen:(bes c 1++(bes (IntKind.wrap .u64 y) 8++(bes (IntKind.wrap .u64 e) 8++(bes q 8++(bes u 4++([])))))).length≤900000:=by simp only[List.length_append,s1c,List.length_nil];omega
 have e1:=q3x (k:=2) (p:=(bes c 1++(bes (IntKind.wrap .u64 y) 8++(bes (IntKind.wrap .u64 e) 8++(bes q 8++(bes u 4++([]))))))) (hwb.cons ⟨by omega,by omega⟩) hlen
 have e2:=g49 (r:=[]) hc wu wu hq hu (fun l hl=>by cases hl;exact⟨hwb,by omega⟩)
 rw[wj (y:=y) (by omega) (by omega)]at e2
 rw[wj (y:=e) (by omega) (by omega)]at e2
 have e3:=t80 1099511627776 [y,e] (by simp)
 rw[hm]at e3
 rw[encO hc hu]
 rw[o3r]
 refine q3c _ _ ?_
 unfold s3o
 dsimp only
 erw[e1]
 refine a0a rfl (a0c rfl ?_)
 erw[e2]
 refine a0a rfl (a0c rfl (a0c (decide_eq_false (show¬((([]:List Int).length:Int)>0) by simp)) ?_))
 erw[e3]
 rfl
theorem F26 {b0:List Int}(hw:Wb b0)(hl:b0.length≤100000)(h: ∀c y e q u,OKO c y e q u→b0≠chk (outB c y e q u)):h3k [.l TB b0]=some (0,[.n (0:Int),.n (0:Int),.n (0:Int),.n (0:Int),.n (0:Int),.n 130]):=by
 rw[o3r]
 refine q3c _ _ ?_
 unfold s3o
 dsimp only
 by_cases hb: ∃p,b0=chk (2::p)
 ·obtain⟨p,rfl⟩:=hb
  have hk:Wb (2::p):=fun x hx=>hw x (by unfold chk;exact List.mem_append_left _ hx)
  have hwp:Wb p:=fun x hx=>hk x (List.mem_cons_of_mem _ hx)
  rw[w1n,List.length_cons]at hl
  have e1:=q3x hk (by omega)
  have hW:WO (some p):=fun l hl=>by cases hl;exact⟨hwp,by omega⟩
  erw[e1]
  refine a0a rfl (a0c rfl ?_)
  by_cases hp:p.length=29
  ·obtain⟨c,r1,hr1,lc,uc,w1,n1⟩:=cut1 (l:=p) hwp (by omega)
   obtain⟨y,r2,hr2,ly,uy,w2,n2⟩:=cut8 (l:=r1) w1 (by omega)
   obtain⟨e,r3,hr3,le,ue,w3,n3⟩:=cut8 (l:=r2) w2 (by omega)
   obtain⟨q,r4,hr4,lq,uq,w4,n4⟩:=cut8 (l:=r3) w3 (by omega)
   obtain⟨u,r5,hr5,lu,uu,w5,n5⟩:=cut4 (l:=r4) w4 (by omega)
   have hz:=win64 (p:=r5) (by omega)
   subst hz
   subst hr5
   subst hr4
   subst hr3
   subst hr2
   subst hr1
   have e2:=g49 (r:=[]) ⟨lc,uc⟩ ⟨ly,uy⟩ ⟨le,ue⟩ ⟨lq,uq⟩ ⟨lu,uu⟩ hW
   have e3:=t80 1099511627776 [IntKind.wrap .i64 y,IntKind.wrap .i64 e] (by simp)
   erw[e2]
   refine a0a rfl (a0c rfl (a0c (decide_eq_false (show¬((([]:List Int).length:Int)>0) by simp)) ?_))
   erw[e3]
   cases hm:win 1099511627776 [IntKind.wrap .i64 y,IntKind.wrap .i64 e]with
   |false=>rfl
   |true=>exact((h c (IntKind.wrap .i64 y) (IntKind.wrap .i64 e) q u ⟨⟨lc,uc⟩,⟨lq,uq⟩,⟨lu,uu⟩,hm⟩ (by rw[encO ⟨lc,uc⟩ ⟨lu,uu⟩];rw[wi ly uy];rw[wi le ue])).elim)
  ·obtain⟨x0,x1,x2,x3,x4,l,bb,e2,hbb⟩:=x49 hW hp
   erw[e2]
   refine a0a rfl ?_
   cases bb with
   |true=>exact a0a rfl rfl
   |false=>
    rcases hbb with q|q
    ·cases q
    ·exact a0c rfl (a0a (decide_eq_true (show((l.length:Int)>0) by omega)) rfl)
 ·have e1:=l4h (k:=2) hw (by omega) (fun p hp=>hb ⟨p,hp⟩)
  erw[e1]
  exact a0c rfl (a0a rfl (a0a rfl rfl))
def OKS (a:Int)(b:Int)(c:Int)(t:List Int)(u:Int):Prop:=(0≤a∧a<18446744073709551616)∧(0≤b∧b<18446744073709551616)∧(0≤c∧c<18446744073709551616)∧(Wb t∧t.length=64)∧(0≤u∧u<4294967296)
theorem g52 {a b c u:Int}{t:List Int}{r:List Int}(ha:0≤a∧a<18446744073709551616)(hb:0≤b∧b<18446744073709551616)(hc:0≤c∧c<18446744073709551616)(ht:t.length=64)(hu:0≤u∧u<4294967296)(hw:WO (some (bes a 8++(bes b 8++(bes c 8++(t++(bes u 4++(r)))))))):n3o [.l TB (bes a 8++(bes b 8++(bes c 8++(t++(bes u 4++(r)))))),.b false]=some (0,[.n a,.n b,.n c,.l TB t,.n u,.l TB r,.b false]):=by
 have e:=t52 hw
 simp only[i4g,e4t,nb8 ha.1 ha.2,nb8 hb.1 hb.2,nb8 hc.1 hc.2,p3y ht,tm_app ht,nb4 hu.1 hu.2]at e
 exact e
theorem x52 {p:List Int}(hw:WO (some p))(hp:p.length≠92): ∃(x0:Int) (x1:Int) (x2:Int) (x3:List Int) (x4:Int) (l:List Int) (bb:Bool),n3o [.l TB p,.b false]=some (0,[.n x0,.n x1,.n x2,.l TB x3,.n x4,.l TB l,.b bb])∧(bb=true∨0<l.length):=by
 have e:=t52 hw
 simp only[m3n]at e
 exact⟨_,_,_,_,_,_,_,e,u3d hp⟩
theorem encS {a b c u:Int}{t:List Int}(hu:0≤u∧u<4294967296):chk (3::stL a b c t u)=chk (3::(bes a 8++(bes b 8++(bes c 8++(t++(bes u 4++([]))))))):=by
 unfold stL
 simp only[wk hu.1 (by omega:u<18446744073709551616),List.append_assoc,List.cons_append,List.nil_append,List.append_nil]
theorem G28 {a b c u:Int}{t:List Int}(h:OKS a b c t u):h3n [.l TB (chk (3::stL a b c t u))]=some (0,[.n a,.n b,.n c,.l TB t,.n u,.n 0]):=by
 obtain⟨ha,hb,hc,ht,hu⟩:=h
 have wu: ∀{x:Int},0≤IntKind.wrap .u64 x∧IntKind.wrap .u64 x<18446744073709551616:=by intro x;rw[wu64];omega
 have hwb:Wb (bes a 8++(bes b 8++(bes c 8++(t++(bes u 4++([])))))):=(h3m _ _).app ((h3m _ _).app ((h3m _ _).app ((ht.1).app ((h3m _ _).app (Wb.nil)))))
 have hlen:(bes a 8++(bes b 8++(bes c 8++(t++(bes u 4++([])))))).length≤900000:=by simp only[List.length_append,s1c,List.length_nil];omega
 have e1:=q3x (k:=3) (p:=(bes a 8++(bes b 8++(bes c 8++(t++(bes u 4++([]))))))) (hwb.cons ⟨by omega,by omega⟩) hlen
 have e2:=g52 (r:=[]) ha hb hc ht.2 hu (fun l hl=>by cases hl;exact⟨hwb,by omega⟩)
 rw[encS hu]
 rw[p3z]
 refine q3a _ _ ?_
 unfold s3u
 dsimp only
 erw[e1]
 refine a0a rfl (a0c rfl ?_)
 erw[e2]
 refine a0a rfl (a0c rfl (a0c (decide_eq_false (show¬((([]:List Int).length:Int)>0) by simp)) ?_))
 rfl
theorem F28 {b0:List Int}(hw:Wb b0)(hl:b0.length≤100000)(h: ∀a b c t u,OKS a b c t u→b0≠chk (3::stL a b c t u)):h3n [.l TB b0]=some (0,[.n (0:Int),.n (0:Int),.n (0:Int),.l TB (List.replicate 64 (0:Int)),.n (0:Int),.n 130]):=by
 rw[p3z]
 refine q3a _ _ ?_
 unfold s3u
 dsimp only
 by_cases hb: ∃p,b0=chk (3::p)
 ·obtain⟨p,rfl⟩:=hb
  have hk:Wb (3::p):=fun x hx=>hw x (by unfold chk;exact List.mem_append_left _ hx)
  have hwp:Wb p:=fun x hx=>hk x (List.mem_cons_of_mem _ hx)
  rw[w1n,List.length_cons]at hl
  have e1:=q3x hk (by omega)
  have hW:WO (some p):=fun l hl=>by cases hl;exact⟨hwp,by omega⟩
  erw[e1]
  refine a0a rfl (a0c rfl ?_)
  by_cases hp:p.length=92
  ·obtain⟨a,r1,hr1,la,ua,w1,n1⟩:=cut8 (l:=p) hwp (by omega)
   obtain⟨b,r2,hr2,lb,ub,w2,n2⟩:=cut8 (l:=r1) w1 (by omega)
   obtain⟨c,r3,hr3,lc,uc,w3,n3⟩:=cut8 (l:=r2) w2 (by omega)
   obtain⟨t,r4,hr4,ht,w4,n4⟩: ∃t r,r3=t++r∧(Wb t∧t.length=64)∧Wb r∧r.length+64=r3.length:=⟨r3.take 64,r3.drop 64,(List.take_append_drop 64 r3).symm,⟨w3.take 64,by rw[List.length_take];omega⟩,w3.drop 64,by rw[List.length_drop];omega⟩
   obtain⟨u,r5,hr5,lu,uu,w5,n5⟩:=cut4 (l:=r4) w4 (by omega)
   have hz:=win64 (p:=r5) (by omega)
   subst hz
   subst hr5
   subst hr4
   subst hr3
   subst hr2
   subst hr1
   have e2:=g52 (r:=[]) ⟨la,ua⟩ ⟨lb,ub⟩ ⟨lc,uc⟩ ht.2 ⟨lu,uu⟩ hW
   erw[e2]
   refine a0a rfl (a0c rfl (a0c (decide_eq_false (show¬((([]:List Int).length:Int)>0) by simp)) ?_))
   exact((h a b c t u ⟨⟨la,ua⟩,⟨lb,ub⟩,⟨lc,uc⟩,ht,⟨lu,uu⟩⟩ (by rw[encS ⟨lu,uu⟩])).elim)
  ·obtain⟨x0,x1,x2,x3,x4,l,bb,e2,hbb⟩:=x52 hW hp
   erw[e2]
   refine a0a rfl ?_
   cases bb with
   |true=>exact a0a rfl rfl
   |false=>
    rcases hbb with q|q
    ·cases q
    ·exact a0c rfl (a0a (decide_eq_true (show((l.length:Int)>0) by omega)) rfl)
 ·have e1:=l4h (k:=3) hw (by omega) (fun p hp=>hb ⟨p,hp⟩)
  erw[e1]
  exact a0c rfl (a0a rfl (a0a rfl rfl))
def OKG (e:Int)(y:Int)(a:Int)(b:Int)(c:Int)(t:List Int)(u:Int):Prop:=(0≤a∧a<18446744073709551616)∧(0≤b∧b<18446744073709551616)∧(0≤c∧c<18446744073709551616)∧(Wb t∧t.length=64)∧(0≤u∧u<4294967296)∧(win 1099511627776 [e,y]=true)
theorem g56 {e y a b c u:Int}{t:List Int}{r:List Int}(he:0≤e∧e<18446744073709551616)(hy:0≤y∧y<18446744073709551616)(ha:0≤a∧a<18446744073709551616)(hb:0≤b∧b<18446744073709551616)(hc:0≤c∧c<18446744073709551616)(ht:t.length=64)(hu:0≤u∧u<4294967296)(hw:WO (some (bes e 8++(bes y 8++(bes a 8++(bes b 8++(bes c 8++(t++(bes u 4++(r)))))))))):p3r [.l TB (bes e 8++(bes y 8++(bes a 8++(bes b 8++(bes c 8++(t++(bes u 4++(r)))))))),.b false]=some (0,[.n (IntKind.wrap .i64 e),.n (IntKind.wrap .i64 y),.n a,.n b,.n c,.l TB t,.n u,.l TB r,.b false]):=by
 have e:=t56 hw
 simp only[i4g,e4t,nb8 he.1 he.2,nb8 hy.1 hy.2,nb8 ha.1 ha.2,nb8 hb.1 hb.2,nb8 hc.1 hc.2,p3y ht,tm_app ht,nb4 hu.1 hu.2]at e
 exact e
theorem x56 {p:List Int}(hw:WO (some p))(hp:p.length≠108): ∃(x0:Int) (x1:Int) (x2:Int) (x3:Int) (x4:Int) (x5:List Int) (x6:Int) (l:List Int) (bb:Bool),p3r [.l TB p,.b false]=some (0,[.n x0,.n x1,.n x2,.n x3,.n x4,.l TB x5,.n x6,.l TB l,.b bb])∧(bb=true∨0<l.length):=by
 have e:=t56 hw
 simp only[m3n]at e
 exact⟨_,_,_,_,_,_,_,_,_,e,u3d hp⟩
theorem encG {e y a b c u:Int}{t:List Int}(hu:0≤u∧u<4294967296):chk (logL e y a b c t u)=chk (4::(bes (IntKind.wrap .u64 e) 8++(bes (IntKind.wrap .u64 y) 8++(bes a 8++(bes b 8++(bes c 8++(t++(bes u 4++([]))))))))):=by
 unfold logL stL
 simp only[wk hu.1 (by omega:u<18446744073709551616),List.append_assoc,List.cons_append,List.nil_append,List.append_nil]
theorem G30 {e y a b c u:Int}{t:List Int}(h:OKG e y a b c t u):h3f [.l TB (chk (logL e y a b c t u))]=some (0,[.n e,.n y,.n a,.n b,.n c,.l TB t,.n u,.n 0]):=by
 obtain⟨ha,hb,hc,ht,hu,hm⟩:=h
 have hwn:=win2 hm
 have wu: ∀{x:Int},0≤IntKind.wrap .u64 x∧IntKind.wrap .u64 x<18446744073709551616:=by intro x;rw[wu64];omega
 have hwb:Wb (bes (IntKind.wrap .u64 e) 8++(bes (IntKind.wrap .u64 y) 8++(bes a 8++(bes b 8++(bes c 8++(t++(bes u 4++([])))))))):=(h3m _ _).app ((h3m _ _).app ((h3m _ _).app ((h3m _ _).app ((h3m _ _).app ((ht.1).app ((h3m _ _).app (Wb.nil)))))))
 have hlen:(bes (IntKind.wrap .u64 e) 8++(bes (IntKind.wrap .u64 y) 8++(bes a 8++(bes b 8++(bes c 8++(t++(bes u 4++([])))))))).length≤900000:=by simp only[List.length_append,s1c,List.length_nil];omega
 have e1:=q3x (k:=4) (p:=(bes (IntKind.wrap .u64 e) 8++(bes (IntKind.wrap .u64 y) 8++(bes a 8++(bes b 8++(bes c 8++(t++(bes u 4++([]))))))))) (hwb.cons ⟨by omega,by omega⟩) hlen
 have e2:=g56 (r:=[]) wu wu ha hb hc ht.2 hu (fun l hl=>by cases hl;exact⟨hwb,by omega⟩)
 rw[wj (y:=e) (by omega) (by omega)]at e2
 rw[wj (y:=y) (by omega) (by omega)]at e2
 have e3:=t80 1099511627776 [e,y] (by simp)
 rw[hm]at e3
 rw[encG hu]
 rw[p3f]
 refine p3s _ _ ?_
 unfold r3y
 dsimp only
 erw[e1]
 refine a0a rfl (a0c rfl ?_)
 erw[e2]
 refine a0a rfl (a0c rfl (a0c (decide_eq_false (show¬((([]:List Int).length:Int)>0) by simp)) ?_))
 erw[e3]
 rfl
theorem F30 {b0:List Int}(hw:Wb b0)(hl:b0.length≤100000)(h: ∀e y a b c t u,OKG e y a b c t u→b0≠chk (logL e y a b c t u)):h3f [.l TB b0]=some (0,[.n (0:Int),.n (0:Int),.n (0:Int),.n (0:Int),.n (0:Int),.l TB (List.replicate 64 (0:Int)),.n (0:Int),.n 130]):=by
 rw[p3f]
 refine p3s _ _ ?_
 unfold r3y
 dsimp only
 by_cases hb: ∃p,b0=chk (4::p)
 ·obtain⟨p,rfl⟩:=hb
  have hk:Wb (4::p):=fun x hx=>hw x (by unfold chk;exact List.mem_append_left _ hx)
  have hwp:Wb p:=fun x hx=>hk x (List.mem_cons_of_mem _ hx)
  rw[w1n,List.length_cons]at hl
  have e1:=q3x hk (by omega)
  have hW:WO (some p):=fun l hl=>by cases hl;exact⟨hwp,by omega⟩
  erw[e1]
  refine a0a rfl (a0c rfl ?_)
  by_cases hp:p.length=108
  ·obtain⟨e,r1,hr1,le,ue,w1,n1⟩:=cut8 (l:=p) hwp (by omega)
   obtain⟨y,r2,hr2,ly,uy,w2,n2⟩:=cut8 (l:=r1) w1 (by omega)
   obtain⟨a,r3,hr3,la,ua,w3,n3⟩:=cut8 (l:=r2) w2 (by omega)
   obtain⟨b,r4,hr4,lb,ub,w4,n4⟩:=cut8 (l:=r3) w3 (by omega)
   obtain⟨c,r5,hr5,lc,uc,w5,n5⟩:=cut8 (l:=r4) w4 (by omega)
   obtain⟨t,r6,hr6,ht,w6,n6⟩: ∃t r,r5=t++r∧(Wb t∧t.length=64)∧Wb r∧r.length+64=r5.length:=⟨r5.take 64,r5.drop 64,(List.take_append_drop 64 r5).symm,⟨w5.take 64,by rw[List.length_take];omega⟩,w5.drop 64,by rw[List.length_drop];omega⟩
   obtain⟨u,r7,hr7,lu,uu,w7,n7⟩:=cut4 (l:=r6) w6 (by omega)
   have hz:=win64 (p:=r7) (by omega)
   subst hz
   subst hr7
   subst hr6
   subst hr5
   subst hr4
   subst hr3
   subst hr2
   subst hr1
   have e2:=g56 (r:=[]) ⟨le,ue⟩ ⟨ly,uy⟩ ⟨la,ua⟩ ⟨lb,ub⟩ ⟨lc,uc⟩ ht.2 ⟨lu,uu⟩ hW
   have e3:=t80 1099511627776 [IntKind.wrap .i64 e,IntKind.wrap .i64 y] (by simp)
   erw[e2]
   refine a0a rfl (a0c rfl (a0c (decide_eq_false (show¬((([]:List Int).length:Int)>0) by simp)) ?_))
   erw[e3]
   cases hm:win 1099511627776 [IntKind.wrap .i64 e,IntKind.wrap .i64 y]with
   |false=>rfl
   |true=>exact((h (IntKind.wrap .i64 e) (IntKind.wrap .i64 y) a b c t u ⟨⟨la,ua⟩,⟨lb,ub⟩,⟨lc,uc⟩,ht,⟨lu,uu⟩,hm⟩ (by rw[encG ⟨lu,uu⟩];rw[wi le ue];rw[wi ly uy])).elim)
  ·obtain⟨x0,x1,x2,x3,x4,x5,x6,l,bb,e2,hbb⟩:=x56 hW hp
   erw[e2]
   refine a0a rfl ?_
   cases bb with
   |true=>exact a0a rfl rfl
   |false=>
    rcases hbb with q|q
    ·cases q
    ·exact a0c rfl (a0a (decide_eq_true (show((l.length:Int)>0) by omega)) rfl)
 ·have e1:=l4h (k:=4) hw (by omega) (fun p hp=>hb ⟨p,hp⟩)
  erw[e1]
  exact a0c rfl (a0a rfl (a0a rfl rfl))
theorem vl_bd {o:Option (List Int)}(h:WO o)(w:Nat):0≤vl w o∧vl w o<256^w:=by
 have hp:(0:Int)<256^w:=Int.pow_pos (by omega)
 have z:nm []=0:=rfl
 unfold vl
 cases o with
 |none=>show 0≤nm []∧nm []<_;omega
 |some l=>
  by_cases q:w≤l.length
  ·rw[n3i q]
   have:=r3w ((h l rfl).1.take w)
   rw[List.length_take,Nat.min_eq_left q]at this
   exact this
  ·rw[q3z q];omega
def o59 (o:Option (List Int)):Option (List Int):=rd 8 (rd 8 (rd 1 (rd 1 o)))
theorem t59 {o:Option (List Int)}(h:WO o):p3j [.l TB (lf o),.b (bd o)]=some (0,[.n (vl 1 o),.n (vl 1 (rd 1 o)),.n (IntKind.wrap .i64 (vl 8 (rd 1 (rd 1 o)))),.n (IntKind.wrap .i64 (vl 8 (rd 8 (rd 1 (rd 1 o))))),.l TB (lf (rd (vl 2 (o59 o)).toNat (rd 2 (o59 o)))),.b (bd (rd (vl 2 (o59 o)).toNat (rd 2 (o59 o)))),.l TB (tk (vl 2 (o59 o)).toNat (rd 2 (o59 o)))]):=by
 have e1:=r77r h
 have e2:=r77r (h.rd 1)
 have e3:=r78r ((h.rd 1).rd 1)
 have e4:=r78r (((h.rd 1).rd 1).rd 8)
 have h5:WO (o59 o):=((((h.rd 1).rd 1).rd 8).rd 8)
 have e5:=r83r h5
 have hv:=vl_bd h5 2
 have h2:(256:Int)^2=65536:=rfl
 have e6:=r82r (h5.rd 2) (vl 2 (o59 o)).toNat (by omega)
 have hw:((vl 2 (o59 o)).toNat:Int)=IntKind.wrap .i64 (vl 2 (o59 o)):=by rw[w64d];omega
 rw[hw]at e6
 rw[w3a]
 refine z3r _ _ _ ?_
 unfold e4e
 dsimp only
 erw[e1]
 refine a0a rfl ?_
 erw[e2]
 refine a0a rfl ?_
 erw[e3]
 refine a0a rfl ?_
 erw[e4]
 refine a0a rfl ?_
 erw[e5]
 refine a0a rfl ?_
 erw[e6]
 rfl
theorem g59 {x y s k n:Int}{r:List Int}(hx:0≤x∧x<256)(hy:0≤y∧y<256)(hs:0≤s∧s<18446744073709551616)(hk:0≤k∧k<18446744073709551616)(hn:0≤n∧n<65536)
  (hw:WO (some (bes x 1++(bes y 1++(bes s 8++(bes k 8++(bes n 2++r))))))):p3j [.l TB (bes x 1++(bes y 1++(bes s 8++(bes k 8++(bes n 2++r))))),.b false]=some (0,[.n x,.n y,.n (IntKind.wrap .i64 s),.n (IntKind.wrap .i64 k),.l TB (lf (rd n.toNat (some r))),.b (bd (rd n.toNat (some r))),.l TB (tk n.toNat (some r))]):=by
 have e:=t59 hw
 unfold o59 at e
 simp only[i4g,e4t,nb1 hx.1 hx.2,nb1 hy.1 hy.2,nb8 hs.1 hs.2,nb8 hk.1 hk.2,nb2 hn.1 hn.2]at e
 exact e
theorem rd_none (w:Nat):rd w none=none:=rfl
theorem x59 {p:List Int}(hw:WO (some p))(hp:p.length<21)(hq:p.length≠20): ∃(x0 x1 x2 x3:Int) (l t:List Int),p3j [.l TB p,.b false]=some (0,[.n x0,.n x1,.n x2,.n x3,.l TB l,.b true,.l TB t]):=by
 have e:=t59 hw
 have e20:rd 2 (o59 (some p))=none:=by
  unfold o59
  simp only[m3n]
  exact j3k (by omega)
 rw[e20,rd_none]at e
 exact⟨_,_,_,_,_,_,e⟩
def OKL (x y s k:Int)(l:List Int):Prop:=(0≤x∧x<256)∧(0≤y∧y<256)∧(win 4611686018427387904 [s,k]&&decide ((l.length:Int)≤2048))=true∧Wb l
theorem encL {x y s k:Int}{l:List Int}(hx:0≤x∧x<256)(hy:0≤y∧y<256):chk (liL x y s k l)=chk (5::(bes x 1++(bes y 1++(bes (IntKind.wrap .u64 s) 8++(bes (IntKind.wrap .u64 k) 8++(bes (IntKind.wrap .u64 (l.length:Int)) 2++l)))))):=by
 unfold liL
 simp only[be1 hx.1 hx.2,be1 hy.1 hy.2,List.append_assoc,List.cons_append,List.nil_append]
theorem GL {x y s k:Int}{l:List Int}(h:OKL x y s k l):h3j [.l TB (chk (liL x y s k l))]=some (0,[.n x,.n y,.n s,.n k,.n 0,.l TB l]):=by
 obtain⟨hx,hy,hm,hwl⟩:=h
 have hm':=hm
 rw[Bool.and_eq_true]at hm'
 have hwn:=win2 hm'.1
 have hn:l.length≤2048:=by have:=of_decide_eq_true hm'.2;omega
 have wu: ∀{x:Int},0≤IntKind.wrap .u64 x∧IntKind.wrap .u64 x<18446744073709551616:=by intro x;rw[wu64];omega
 have hwb:Wb (bes x 1++(bes y 1++(bes (IntKind.wrap .u64 s) 8++(bes (IntKind.wrap .u64 k) 8++(bes (IntKind.wrap .u64 (l.length:Int)) 2++l))))):=(h3m _ _).app ((h3m _ _).app ((h3m _ _).app ((h3m _ _).app ((h3m _ _).app hwl))))
 have hlen:(bes x 1++(bes y 1++(bes (IntKind.wrap .u64 s) 8++(bes (IntKind.wrap .u64 k) 8++(bes (IntKind.wrap .u64 (l.length:Int)) 2++l))))).length≤900000:=by simp only[List.length_append,s1c];omega
 have e1:=q3x (k:=5) (hwb.cons ⟨by omega,by omega⟩) hlen
 have hu:IntKind.wrap .u64 (l.length:Int)=(l.length:Int):=by rw[wu64];omega
 have e2:=g59 (r:=l) hx hy (wu (x:=s)) (wu (x:=k)) (n:=IntKind.wrap .u64 (l.length:Int)) (by rw[hu];omega) (fun l hl=>by cases hl;exact⟨hwb,by omega⟩)
 have hr:rd (IntKind.wrap .u64 (l.length:Int)).toNat (some l)=some []:=by
  have:=p3y (k:=l.length) (a:=l) (r:=[]) rfl
  rw[List.append_nil]at this
  rw[hu,show((l.length:Int)).toNat=l.length by omega];exact this
 have ht:tk (IntKind.wrap .u64 (l.length:Int)).toNat (some l)=l:=by
  have:=v3y (k:=l.length) (a:=l) (r:=[]) rfl
  rw[List.append_nil]at this
  rw[hu,show((l.length:Int)).toNat=l.length by omega];exact this
 rw[hr,ht,wj (y:=s) (by omega) (by omega),wj (y:=k) (by omega) (by omega)]at e2
 have e3:=t60 x y s k l
 rw[hm]at e3
 rw[encL hx hy,o3y]
 refine q3f _ _ ?_
 unfold s3a
 dsimp only
 erw[e1]
 refine a0a rfl (a0c rfl ?_)
 erw[e2]
 refine a0a rfl (a0c rfl (a0c (decide_eq_false (show¬((([]:List Int).length:Int)>0) by simp)) ?_))
 erw[e3]
 rfl
theorem FL {b0:List Int}(hw:Wb b0)(hl:b0.length≤100000)(h: ∀x y s k l,OKL x y s k l→b0≠chk (liL x y s k l)):h3j [.l TB b0]=some (1,[.n 0,.n 0,.n 0,.n 0,.n 130]):=by
 rw[o3y]
 refine q3f _ _ ?_
 unfold s3a
 dsimp only
 by_cases hb: ∃p,b0=chk (5::p)
 ·obtain⟨p,rfl⟩:=hb
  have hk:Wb (5::p):=fun x hx=>hw x (by unfold chk;exact List.mem_append_left _ hx)
  have hwp:Wb p:=fun x hx=>hk x (List.mem_cons_of_mem _ hx)
  rw[w1n,List.length_cons]at hl
  have e1:=q3x hk (by omega)
  have hW:WO (some p):=fun l hl=>by cases hl;exact⟨hwp,by omega⟩
  erw[e1]
  refine a0a rfl (a0c rfl ?_)
  by_cases hp:p.length<20
  ·obtain⟨x0,x1,x2,x3,l,t,e2⟩:=x59 hW (by omega) (by omega)
   erw[e2]
   exact a0a rfl (a0a rfl rfl)
  ·obtain⟨x,r1,h1,lx,ux,w1,n1⟩:=cut1 (l:=p) hwp (by omega)
   obtain⟨y,r2,h2,ly,uy,w2,n2⟩:=cut1 (l:=r1) w1 (by omega)
   obtain⟨s,r3,h3,ls,us,w3,n3⟩:=cut8 (l:=r2) w2 (by omega)
   obtain⟨k,r4,h4,lk,uk,w4,n4⟩:=cut8 (l:=r3) w3 (by omega)
   obtain⟨n,r,h5,ln,un,w5,n5⟩:=cut2 (l:=r4) w4 (by omega)
   subst h5;subst h4;subst h3;subst h2;subst h1
   have e2:=g59 (r:=r) ⟨lx,ux⟩ ⟨ly,uy⟩ ⟨ls,us⟩ ⟨lk,uk⟩ ⟨ln,un⟩ hW
   by_cases hn:r.length=n.toNat
   ·have hr:rd n.toNat (some r)=some []:=by
     have:=p3y (k:=n.toNat) (a:=r) (r:=[]) hn
     rw[List.append_nil]at this;exact this
    have ht:tk n.toNat (some r)=r:=by
     have:=v3y (k:=n.toNat) (a:=r) (r:=[]) hn
     rw[List.append_nil]at this;exact this
    rw[hr,ht]at e2
    have e3:=t60 x y (IntKind.wrap .i64 s) (IntKind.wrap .i64 k) r
    erw[e2]
    refine a0a rfl (a0c rfl (a0c (decide_eq_false (show¬((([]:List Int).length:Int)>0) by simp)) ?_))
    erw[e3]
    cases hm:(win 4611686018427387904 [IntKind.wrap .i64 s,IntKind.wrap .i64 k]&&decide ((r.length:Int)≤2048))with
    |false=>rfl
    |true=>
     refine(h x y (IntKind.wrap .i64 s) (IntKind.wrap .i64 k) r ⟨⟨lx,ux⟩,⟨ly,uy⟩,hm,w5⟩ ?_).elim
     have hu:IntKind.wrap .u64 (r.length:Int)=n:=by rw[wu64];omega
     rw[encL ⟨lx,ux⟩ ⟨ly,uy⟩,wi ls us,wi lk uk,hu]
   ·have hbb:=u3d (k:=n.toNat) (l:=r) hn
    erw[e2]
    refine a0a rfl ?_
    rcases hbb with q|q
    ·exact a0a q rfl
    ·cases hbd:bd (rd n.toNat (some r))with
     |true=>exact a0a rfl rfl
     |false=>exact a0c rfl (a0a (decide_eq_true (show(((lf (rd n.toNat (some r))).length:Int)>0) by omega)) rfl)
 ·have e1:=l4h (k:=5) hw (by omega) (fun p hp=>hb ⟨p,hp⟩)
  erw[e1]
  exact a0c rfl (a0a rfl (a0a rfl rfl))
def mkC (a b:Int):Cmd:=(a,b)
theorem apC_len (l:List Cmd)(x y:Int):(apC l x y).length=l.length+1:=by unfold apC;exact List.length_append
def rc:Nat→Option (List Int)→List Cmd
 |0,_=>[]
 |k+1,o=>mkC (vl 1 o) (IntKind.wrap .i64 (vl 1 (rd 1 o)))::rc k (rd 1 (rd 1 o))
def rn:Nat→Option (List Int)→Option (List Int)
 |0,o=>o
 |k+1,o=>rn k (rd 1 (rd 1 o))
theorem rn_rd: ∀(k:Nat) (l:List Int),rn k (some l)=rd (2*k) (some l)
 |0,l=>by rw[i3r (by omega)];rfl
 |k+1,l=>by
  have hn: ∀k,rn k none=none:=by intro k;induction k with
   |zero=>rfl
   |succ k ih=>exact ih
  unfold rn
  rw[m3n]
  by_cases h:2≤l.length
  ·rw[i3r h,rn_rd k]
   have e:=m3n (2*k) 2 (some l)
   rw[i3r h]at e
   rw[e,show 2+2*k=2*(k+1) by omega]
  ·rw[j3k h,hn,j3k (by omega)]
theorem g4c: ∀k,rn k none=none
 |0=>rfl
 |k+1=>g4c k
theorem i4f: ∀(k:Nat) (o:Option (List Int)),(rc k o).length=k
 |0,_=>rfl
 |k+1,o=>by unfold rc;rw[List.length_cons,i4f k]
theorem lp45 (n c y q a b:Int)(hn:n<256): ∀(k:Nat) (i:Int) (o:Option (List Int)) (acc:List Cmd) (f:Nat),WO o→0≤i→i+k=n→acc.length+k≤1000→k<f→
  a0b i3p f [.k 0,.n n,.n i,.l TB (lf o),.b (bd o),.n 0,.n 0,.n 0,.n 0,.n 0,.n c,.n y,.n q,.n a,.n b,.l TC acc]=some (0,[.l TB (lf (rn k o)),.b (bd (rn k o)),.n 0,.n 0,.n 0,.n 0,.n 0,.n c,.n y,.n q,.n a,.n b,.l TC (List.append acc (rc k o))])
 |_,_,_,_,0,_,_,_,_,h=>by omega
 |0,i,o,acc,f+1,hw,h0,hi,hl,hf=>by
  have e:(i3p [.k 0,.n n,.n i,.l TB (lf o),.b (bd o),.n 0,.n 0,.n 0,.n 0,.n 0,.n c,.n y,.n q,.n a,.n b,.l TC acc]).sel=some (.stop 0 [.l TB (lf o),.b (bd o),.n 0,.n 0,.n 0,.n 0,.n 0,.n c,.n y,.n q,.n a,.n b,.l TC acc]):=by
   refine k3p _ _ _ _ _ _ _ _ _ _ _ ?_
   unfold l3k
   exact a0c (decide_eq_false (by omega)) rfl
  unfold a0b
  rw[e]
  have ha:List.append acc (rc 0 o)=acc:=List.append_nil acc
  rw[ha]
  rfl
 |k+1,i,o,acc,f+1,hw,h0,hi,hl,hf=>by
  have e1:=r77r hw
  have e2:=r77r (hw.rd 1)
  have w:IntKind.wrap .u8 (i+1)=i+1:=by rw[wu8];omega
  have e:(i3p [.k 0,.n n,.n i,.l TB (lf o),.b (bd o),.n 0,.n 0,.n 0,.n 0,.n 0,.n c,.n y,.n q,.n a,.n b,.l TC acc]).sel=some (.go [.k 0,.n n,.n (i+1),.l TB (lf (rd 1 (rd 1 o))),.b (bd (rd 1 (rd 1 o))),.n 0,.n 0,.n 0,.n 0,.n 0,.n c,.n y,.n q,.n a,.n b,.l TC (apC acc (vl 1 o) (IntKind.wrap .i64 (vl 1 (rd 1 o))))]):=by
   refine k3p _ _ _ _ _ _ _ _ _ _ _ ?_
   unfold l3k
   dsimp only
   refine a0a (decide_eq_true (by omega)) ?_
   erw[e1]
   refine a0a rfl ?_
   erw[e2]
   refine a0a rfl (a0a (decide_eq_true (show(acc.length+1)*16≤140737488355328 by omega)) ?_)
   rw[w]
   rfl
  unfold a0b
  rw[e]
  have ih:=lp45 n c y q a b hn k (i+1) (rd 1 (rd 1 o)) (apC acc (vl 1 o) (IntKind.wrap .i64 (vl 1 (rd 1 o)))) f ((hw.rd 1).rd 1) (by omega) (by omega) (by rw[apC_len];omega) (by omega)
  refine ih.trans ?_
  have ha:List.append (apC acc (vl 1 o) (IntKind.wrap .i64 (vl 1 (rd 1 o)))) (rc k (rd 1 (rd 1 o)))=List.append acc (rc (k+1) o):=List.append_assoc acc [_] _
  rw[ha]
  rfl
def o45 (o:Option (List Int)):Option (List Int):=rd 4 (rd 4 (rd 8 (rd 8 (rd 1 o))))
theorem t45 {o:Option (List Int)}(h:WO o):o3t [.l TB (lf o),.b (bd o)]=some (0,[.n (vl 1 o),.n (IntKind.wrap .i64 (vl 8 (rd 1 o))),.n (vl 8 (rd 8 (rd 1 o))),.n (vl 4 (rd 8 (rd 8 (rd 1 o)))),.n (vl 4 (rd 4 (rd 8 (rd 8 (rd 1 o))))),.l TB (lf (rn (vl 1 (o45 o)).toNat (rd 1 (o45 o)))),.b (bd (rn (vl 1 (o45 o)).toNat (rd 1 (o45 o)))),.l TC (rc (vl 1 (o45 o)).toNat (rd 1 (o45 o)))]):=by
 have e1:=r77r h
 have e2:=r78r (h.rd 1)
 have e3:=r78r ((h.rd 1).rd 8)
 have e4:=r79r (((h.rd 1).rd 8).rd 8)
 have e5:=r79r ((((h.rd 1).rd 8).rd 8).rd 4)
 have h6:WO (o45 o):=((((h.rd 1).rd 8).rd 8).rd 4).rd 4
 have e6:=r77r h6
 have hv:=vl_bd h6 1
 have h2:(256:Int)^1=256:=rfl
 have e7:m3u [.k 0,.n (vl 1 (o45 o)),.n 0,.l TB (lf (rd 1 (o45 o))),.b (bd (rd 1 (o45 o))),.n 0,.n 0,.n 0,.n 0,.n 0,.n (vl 1 o),.n (IntKind.wrap .i64 (vl 8 (rd 1 o))),.n (vl 8 (rd 8 (rd 1 o))),.n (vl 4 (rd 8 (rd 8 (rd 1 o)))),.n (vl 4 (rd 4 (rd 8 (rd 8 (rd 1 o))))),.l TC ([]:List Cmd)]=some (0,[.l TB (lf (rn (vl 1 (o45 o)).toNat (rd 1 (o45 o)))),.b (bd (rn (vl 1 (o45 o)).toNat (rd 1 (o45 o)))),.n 0,.n 0,.n 0,.n 0,.n 0,.n (vl 1 o),.n (IntKind.wrap .i64 (vl 8 (rd 1 o))),.n (vl 8 (rd 8 (rd 1 o))),.n (vl 4 (rd 8 (rd 8 (rd 1 o)))),.n (vl 4 (rd 4 (rd 8 (rd 8 (rd 1 o))))),.l TC (List.append ([]:List Cmd) (rc (vl 1 (o45 o)).toNat (rd 1 (o45 o))))]):=by
  rw[n3z]
  exact lp45 _ _ _ _ _ _ (by omega) (vl 1 (o45 o)).toNat 0 (rd 1 (o45 o)) [] FU (h6.rd 1) (by omega) (by omega) (by simp;omega) (by unfold FU;omega)
 rw[w3f]
 refine y3y _ _ _ ?_
 unfold d4j
 dsimp only
 erw[e1]
 refine a0a rfl ?_
 erw[e2]
 refine a0a rfl ?_
 erw[e3]
 refine a0a rfl ?_
 erw[e4]
 refine a0a rfl ?_
 erw[e5]
 refine a0a rfl ?_
 erw[e6]
 refine a0a rfl ?_
 erw[e7]
 rfl
theorem g45 {c y q a b n:Int}{r:List Int}(hc:0≤c∧c<256)(hy:0≤y∧y<18446744073709551616)(hq:0≤q∧q<18446744073709551616)(ha:0≤a∧a<4294967296)(hb:0≤b∧b<4294967296)(hn:0≤n∧n<256)
  (hw:WO (some (bes c 1++(bes y 8++(bes q 8++(bes a 4++(bes b 4++(bes n 1++r)))))))):o3t [.l TB (bes c 1++(bes y 8++(bes q 8++(bes a 4++(bes b 4++(bes n 1++r)))))),.b false]=some (0,[.n c,.n (IntKind.wrap .i64 y),.n q,.n a,.n b,.l TB (lf (rn n.toNat (some r))),.b (bd (rn n.toNat (some r))),.l TC (rc n.toNat (some r))]):=by
 have e:=t45 hw
 unfold o45 at e
 simp only[i4g,e4t,nb1 hc.1 hc.2,nb8 hy.1 hy.2,nb8 hq.1 hq.2,nb4 ha.1 ha.2,nb4 hb.1 hb.2,nb1 hn.1 hn.2]at e
 exact e
theorem x45 {p:List Int}(hw:WO (some p))(hp:p.length<26): ∃(x0 x1 x2 x3 x4:Int) (l:List Int) (t:List Cmd),o3t [.l TB p,.b false]=some (0,[.n x0,.n x1,.n x2,.n x3,.n x4,.l TB l,.b true,.l TC t]):=by
 have e:=t45 hw
 have e20:rd 1 (o45 (some p))=none:=by
  unfold o45
  simp only[m3n]
  exact j3k (by omega)
 rw[e20,g4c]at e
 exact⟨_,_,_,_,_,_,_,e⟩
theorem rdx1 (x:Int)(l:List Int):rd 1 (some (x::l))=some l:=i3r (by simp)
theorem vl1 (x:Int)(l:List Int):vl 1 (some (x::l))=x:=by
 unfold vl
 rw[n3i (by simp)]
 show 0*256+x=x
 omega
theorem rc_cc (k:Nat)(x y:Int)(r:List Int):rc (k+1) (some (x::y::r))=mkC x (IntKind.wrap .i64 y)::rc k (some r):=by
 show mkC (vl 1 (some (x::y::r))) (IntKind.wrap .i64 (vl 1 (rd 1 (some (x::y::r)))))::rc k (rd 1 (rd 1 (some (x::y::r))))=_
 rw[rdx1,rdx1,vl1,vl1]
theorem rc_cms: ∀(l:List Cmd),l.all h3w=true→rc l.length (some (cms l))=l
 |[],_=>rfl
 |x::l,h=>by
  rw[List.all_cons,Bool.and_eq_true]at h
  have hk:ck (Prod.fst x) (Prod.snd x)=true:=h.1
  have h63:0≤(Prod.snd x:Int)∧(Prod.snd x:Int)≤63:=by unfold ck win at hk;simp at hk;omega
  have hw:IntKind.wrap .i64 (IntKind.wrap .u8 (Prod.snd x))=Prod.snd x:=by rw[wu8,w64d];omega
  refine(rc_cc l.length (Prod.fst x) (IntKind.wrap .u8 (Prod.snd x)) (cms l)).trans ?_
  rw[rc_cms l h.2,hw]
  rfl
theorem cms_rc: ∀(k:Nat) (r:List Int),Wb r→r.length=2*k→cms (rc k (some r))=r
 |0,r,_,hl=>(List.eq_nil_of_length_eq_zero (by omega):r=[])▸rfl
 |k+1,[],_,hl=>by simp at hl
 |k+1,[_],_,hl=>by simp at hl;omega
 |k+1,x::y::r,hw,hl=>by
  have hy:=hw y (by simp)
  have hwr:Wb r:=fun z hz=>hw z (by simp[hz])
  rw[rc_cc]
  show x::IntKind.wrap .u8 (IntKind.wrap .i64 y)::cms (rc k (some r))=_
  rw[cms_rc k r hwr (by simp at hl;omega),w64d,wu8]
  have:((y+9223372036854775808)%18446744073709551616-9223372036854775808)%256=y:=by omega
  rw[this]
def OKI (c y q a b:Int)(l:List Cmd):Prop:=(0≤c∧c<256)∧(0≤q∧q<18446744073709551616)∧(0≤a∧a<4294967296)∧(0≤b∧b<4294967296)∧(l.all h3w&&(win 1099511627776 [y]&&decide ((l.length:Int)≤8)))=true
theorem encI {c y q a b:Int}{l:List Cmd}(hc:0≤c∧c<256)(ha:0≤a∧a<4294967296)(hb:0≤b∧b<4294967296):chk (inL c y q a b l)=chk (1::(bes c 1++(bes (IntKind.wrap .u64 y) 8++(bes q 8++(bes a 4++(bes b 4++(bes (IntKind.wrap .u8 (l.length:Int)) 1++cms l))))))):=by
 unfold inL
 have h8:0≤IntKind.wrap .u8 (l.length:Int)∧IntKind.wrap .u8 (l.length:Int)<256:=by rw[wu8];omega
 simp only[be1 hc.1 hc.2,be1 h8.1 h8.2,wk ha.1 (by omega:a<18446744073709551616),wk hb.1 (by omega:b<18446744073709551616),List.append_assoc,List.cons_append,List.nil_append]
theorem win1 {m a:Int}(h:win m [a]=true):0≤a∧a≤m:=by
 unfold win at h;simp at h;omega
theorem GI {c y q a b:Int}{l:List Cmd}(h:OKI c y q a b l):h3e [.l TB (chk (inL c y q a b l))]=some (0,[.n c,.n y,.n q,.n a,.n b,.n 0,.l TC l]):=by
 obtain⟨hc,hq,ha,hb,hm⟩:=h
 have hm':=hm
 rw[Bool.and_eq_true,Bool.and_eq_true]at hm'
 have hwn:=win1 hm'.2.1
 have hn:l.length≤8:=by have:=of_decide_eq_true hm'.2.2;omega
 have wu: ∀{x:Int},0≤IntKind.wrap .u64 x∧IntKind.wrap .u64 x<18446744073709551616:=by intro x;rw[wu64];omega
 have hu:IntKind.wrap .u8 (l.length:Int)=(l.length:Int):=by rw[wu8];omega
 have hwb:Wb (bes c 1++(bes (IntKind.wrap .u64 y) 8++(bes q 8++(bes a 4++(bes b 4++(bes (IntKind.wrap .u8 (l.length:Int)) 1++cms l)))))):=(h3m _ _).app ((h3m _ _).app ((h3m _ _).app ((h3m _ _).app ((h3m _ _).app ((h3m _ _).app (g4k hm'.1))))))
 have hlen:(bes c 1++(bes (IntKind.wrap .u64 y) 8++(bes q 8++(bes a 4++(bes b 4++(bes (IntKind.wrap .u8 (l.length:Int)) 1++cms l)))))).length≤900000:=by simp only[List.length_append,s1c,y3r];omega
 have e1:=q3x (k:=1) (hwb.cons ⟨by omega,by omega⟩) hlen
 have e2:=g45 (r:=cms l) hc (wu (x:=y)) hq ha hb (n:=IntKind.wrap .u8 (l.length:Int)) (by rw[hu];omega) (fun l hl=>by cases hl;exact⟨hwb,by omega⟩)
 have hr:rn (IntKind.wrap .u8 (l.length:Int)).toNat (some (cms l))=some []:=by
  rw[hu,show((l.length:Int)).toNat=l.length by omega,rn_rd]
  have:=p3y (k:=2*l.length) (a:=cms l) (r:=[]) (y3r l)
  rw[List.append_nil]at this
  exact this
 have ht:rc (IntKind.wrap .u8 (l.length:Int)).toNat (some (cms l))=l:=by
  rw[hu,show((l.length:Int)).toNat=l.length by omega];exact rc_cms l hm'.1
 rw[hr,ht,wj (y:=y) (by omega) (by omega)]at e2
 have e3:=t46 c y q a b l (by omega)
 rw[hm]at e3
 rw[encI hc ha hb,p3m]
 refine p3t _ _ ?_
 unfold r3v
 dsimp only
 erw[e1]
 refine a0a rfl (a0c rfl ?_)
 erw[e2]
 refine a0a rfl (a0c rfl (a0c (decide_eq_false (show¬((([]:List Int).length:Int)>0) by simp)) ?_))
 erw[e3]
 rfl
theorem FI {b0:List Int}(hw:Wb b0)(hl:b0.length≤100000)(h: ∀c y q a b l,OKI c y q a b l→b0≠chk (inL c y q a b l)):h3e [.l TB b0]=some (1,[.n 0,.n 0,.n 0,.n 0,.n 0,.n 130]):=by
 rw[p3m]
 refine p3t _ _ ?_
 unfold r3v
 dsimp only
 by_cases hb: ∃p,b0=chk (1::p)
 ·obtain⟨p,rfl⟩:=hb
  have hk:Wb (1::p):=fun x hx=>hw x (by unfold chk;exact List.mem_append_left _ hx)
  have hwp:Wb p:=fun x hx=>hk x (List.mem_cons_of_mem _ hx)
  rw[w1n,List.length_cons]at hl
  have e1:=q3x hk (by omega)
  have hW:WO (some p):=fun l hl=>by cases hl;exact⟨hwp,by omega⟩
  erw[e1]
  refine a0a rfl (a0c rfl ?_)
  by_cases hp:p.length<26
  ·obtain⟨x0,x1,x2,x3,x4,l,t,e2⟩:=x45 hW hp
   erw[e2]
   exact a0a rfl (a0a rfl rfl)
  ·obtain⟨c,r1,h1,lc,uc,w1,n1⟩:=cut1 (l:=p) hwp (by omega)
   obtain⟨y,r2,h2,ly,uy,w2,n2⟩:=cut8 (l:=r1) w1 (by omega)
   obtain⟨q,r3,h3,lq,uq,w3,n3⟩:=cut8 (l:=r2) w2 (by omega)
   obtain⟨a,r4,h4,la,ua,w4,n4⟩:=cut4 (l:=r3) w3 (by omega)
   obtain⟨b,r5,h5,lb,ub,w5,n5⟩:=cut4 (l:=r4) w4 (by omega)
   obtain⟨n,r,h6,ln,un,w6,n6⟩:=cut1 (l:=r5) w5 (by omega)
   subst h6;subst h5;subst h4;subst h3;subst h2;subst h1
   have e2:=g45 (r:=r) ⟨lc,uc⟩ ⟨ly,uy⟩ ⟨lq,uq⟩ ⟨la,ua⟩ ⟨lb,ub⟩ ⟨ln,un⟩ hW
   rw[rn_rd]at e2
   by_cases hn:r.length=2*n.toNat
   ·have hr:rd (2*n.toNat) (some r)=some []:=by
     have:=p3y (k:=2*n.toNat) (a:=r) (r:=[]) hn
     rw[List.append_nil]at this;exact this
    rw[hr]at e2
    have hln:=i4f n.toNat (some r)
    have hcm:=cms_rc n.toNat r w6 hn
    obtain⟨l,hl0⟩: ∃l,l=rc n.toNat (some r):=⟨_,rfl⟩
    rw[←hl0]at e2 hln hcm
    have e3:=t46 c (IntKind.wrap .i64 y) q a b l (by omega)
    erw[e2]
    refine a0a rfl (a0c rfl (a0c (decide_eq_false (show¬((([]:List Int).length:Int)>0) by simp)) ?_))
    erw[e3]
    cases hm:(l.all h3w&&(win 1099511627776 [IntKind.wrap .i64 y]&&decide ((l.length:Int)≤8)))with
    |false=>rfl
    |true=>
     refine(h c (IntKind.wrap .i64 y) q a b l ⟨⟨lc,uc⟩,⟨lq,uq⟩,⟨la,ua⟩,⟨lb,ub⟩,hm⟩ ?_).elim
     have hu:IntKind.wrap .u8 (l.length:Int)=n:=by rw[wu8];omega
     rw[encI ⟨lc,uc⟩ ⟨la,ua⟩ ⟨lb,ub⟩,wi ly uy,hu,hcm]
   ·have hbb:=u3d (k:=2*n.toNat) (l:=r) hn
    erw[e2]
    refine a0a rfl ?_
    rcases hbb with q|q
    ·exact a0a q rfl
    ·cases hbd:bd (rd (2*n.toNat) (some r))with
     |true=>exact a0a rfl rfl
     |false=>exact a0c rfl (a0a (decide_eq_true (show(((lf (rd (2*n.toNat) (some r))).length:Int)>0) by omega)) rfl)
 ·have e1:=l4h (k:=1) hw (by omega) (fun p hp=>hb ⟨p,hp⟩)
  erw[e1]
  exact a0c rfl (a0a rfl (a0a rfl rfl))
def atv (b:List Int)(i w:Nat):Int:=vl w (rd i (some b))
theorem t47 {b:List Int}(hb:Wb b)(hl:b.length≤1000000)(i w:Nat)(hi:i≤100000)(hw:w≤8):i3d [.l TB b,.n (i:Int),.n (w:Int)]=some (0,[.n (atv b i w)]):=by
 have hs:IntKind.wrap .i64 ((i:Int)+(w:Int))=((i+w:Nat):Int):=by rw[w64d];omega
 rw[v3j]
 refine b4l _ _ _ _ ?_
 unfold c4e
 dsimp only
 by_cases h:i+w≤b.length
 ·have hd:List.drop ((i:Int)).toNat (List.take (((i+w:Nat):Int)).toNat b)=(b.drop i).take w:=by
   rw[show((i:Int)).toNat=i by omega,show(((i+w:Nat):Int)).toNat=i+w by omega,List.drop_take,show i+w-i=w by omega]
  have hat:atv b i w=nm ((b.drop i).take w):=by
   unfold atv vl
   rw[i3r (by omega),n3i (by rw[List.length_drop];omega)]
  have e1:=t17r (l:=(b.drop i).take w) (by rw[List.length_take];omega) ((hb.drop i).take w)
  have q1: ¬(((i+w:Nat):Int)>(b.length:Int)):=by omega
  have q2:(0:Int)≤((i+w:Nat):Int):=by omega
  have q3:((i+w:Nat):Int)≤(b.length:Int):=by omega
  have q4:(0:Int)≤(i:Int):=by omega
  have q5:(i:Int)≤((i+w:Nat):Int):=by omega
  erw[hs]
  refine a0c (decide_eq_false q1) (a0a (by rw[Bool.and_eq_true];exact⟨decide_eq_true q2,decide_eq_true q3⟩) (a0a (by rw[Bool.and_eq_true];exact⟨decide_eq_true q4,decide_eq_true q5⟩) ?_))
  erw[hd,e1,hat]
  rfl
 ·have hat:atv b i w=0:=by
   unfold atv vl
   by_cases q:i≤b.length
   ·rw[i3r q,q3z (by rw[List.length_drop];omega)];rfl
   ·rw[j3k q];rfl
  have q1:(((i+w:Nat):Int)>(b.length:Int)):=by omega
  erw[hs]
  rw[hat]
  exact a0a (decide_eq_true q1) rfl
theorem WOs {b:List Int}(hb:Wb b)(hl:b.length≤1000000):WO (some b):=fun l h=>by cases h;exact⟨hb,hl⟩
theorem atv_bd {b:List Int}(hb:Wb b)(hl:b.length≤1000000)(i w:Nat):0≤atv b i w∧atv b i w<256^w:=vl_bd ((WOs hb hl).rd i) w
theorem at8 {b:List Int}(hb:Wb b)(hl:b.length≤1000000)(i:Nat):0≤atv b i 8∧atv b i 8<18446744073709551616:=atv_bd hb hl i 8
theorem at4 {b:List Int}(hb:Wb b)(hl:b.length≤1000000)(i:Nat):0≤atv b i 4∧atv b i 4<4294967296:=atv_bd hb hl i 4
theorem k4t {b:List Int}{i:Nat}(h:i<b.length):b.getD i 0=vl 1 (rd i (some b)):=by
 rw[i3r (by omega),m3x h,vl1]
theorem j3c {b:List Int}(hb:Wb b)(i:Nat):0≤b.getD i 0∧b.getD i 0<256:=by
 by_cases h:i<b.length
 ·exact hb _ (by rw[List.getD_eq_getElem?_getD,List.getElem?_eq_getElem h];exact List.getElem_mem h)
 ·rw[List.getD_eq_getElem?_getD,List.getElem?_eq_none (by omega)];exact⟨by decide,by decide⟩
theorem q3t (s:ByteArray):f0b s s=true:=by unfold f0b;exact decide_eq_true rfl
theorem f4o {a b:List Int}(ha:Wb a)(hb:Wb b)(h:f0b (r2b a) (r2b b)=true):a=b:=by
 unfold f0b at h
 have h1:=of_decide_eq_true h
 have h2:c0b (r2b a)=c0b (r2b b):=by unfold c0b;rw[h1]
 rw[h3i ha,h3i hb]at h2
 exact h2
theorem u3n {l:List Int}(h:Wb l):Wb (chk l):=h.app (h3m _ _)
theorem l4o {c:Bool}{l:List Int}(h:Wb l):Wb (bif c then l else[]):=by
 cases c
 ·exact Wb.nil
 ·exact h
theorem w32 {u:Int}(h:0≤u∧u<4294967296):IntKind.wrap .u32 u=u:=by rw[wu32];omega
theorem H27 {b0:List Int}(hw:Wb b0)(hl:b0.length≤100000)(h34:b0.length=34){T:Tree (Nat×List Dat)}{y:Nat×List Dat}(f:List Int)
  (hf:f=bif win 1099511627776 [IntKind.wrap .i64 (atv b0 2 8),IntKind.wrap .i64 (atv b0 10 8)]then chk (outB (b0.getD 1 0) (IntKind.wrap .i64 (atv b0 2 8)) (IntKind.wrap .i64 (atv b0 10 8)) (atv b0 18 8) (atv b0 26 4))else[]) (r:Nat×List Dat)
  (hr:(Tree.node (!f0b (r2b f) (r2b b0)) (.leaf ((0,[.n (0:Int),.n (0:Int),.n (0:Int),.n (0:Int),.n (0:Int),.b false]))) (.leaf ((0,[.n (b0.getD 1 0),.n (IntKind.wrap .i64 (atv b0 2 8)),.n (IntKind.wrap .i64 (atv b0 10 8)),.n (atv b0 18 8),.n (atv b0 26 4),.b true])))).sel=some r):i3c [.l TB b0]=some r:=by
 have hw2:b0.length≤1000000:=by omega
 have e1:=t47 hw hw2 2 8 (by omega) (by omega)
 have e2:=t47 hw hw2 10 8 (by omega) (by omega)
 have e3:=t47 hw hw2 18 8 (by omega) (by omega)
 have e4:=t47 hw hw2 26 4 (by omega) (by omega)
 have hc:=j3c hw 1
 have w:=w32 (at4 hw hw2 26)
 have e6:m3m [.n (b0.getD 1 0),.n (IntKind.wrap .i64 (atv b0 2 8)),.n (IntKind.wrap .i64 (atv b0 10 8)),.n (atv b0 18 8),.n (IntKind.wrap .u32 (atv b0 26 4))]=some (0,[.l TB f]):=by
  rw[hf,w]
  exact m16 (b0.getD 1 0) (IntKind.wrap .i64 (atv b0 2 8)) (IntKind.wrap .i64 (atv b0 10 8)) (atv b0 18 8) (atv b0 26 4) hc.1 hc.2
 clear hf
 rw[p3p]
 refine q3b _ _ ?_
 unfold r3s
 dsimp only
 refine a0c (q3l (show(b0.length:Int)=34 by omega)) (a0a (h1s (by omega) (show(1:Int)<(b0.length:Int) by omega)) ?_)
 erw[e1]
 refine a0a rfl ?_
 erw[e2]
 refine a0a rfl ?_
 erw[e3]
 refine a0a rfl ?_
 erw[e4]
 refine a0a rfl ?_
 erw[e6]
 refine a0a rfl ?_
 cases q:f0b (r2b f) (r2b b0)with
 |true=>
  rw[q]at hr
  refine a0c (by show(!f0b (r2b f) (r2b b0))=false;rw[q];rfl) ?_
  rw[←hr]
  show some (0,[Dat.n (b0.getD 1 0),.n (IntKind.wrap .i64 (atv b0 2 8)),.n (IntKind.wrap .i64 (atv b0 10 8)),.n (atv b0 18 8),.n (IntKind.wrap .u32 (atv b0 26 4)),.b true])=_
  rw[w];rfl
 |false=>
  rw[q]at hr
  refine a0a (by show(!f0b (r2b f) (r2b b0))=true;rw[q];rfl) ?_
  rw[←hr]
  rfl
theorem F27 {b0:List Int}(hw:Wb b0)(hl:b0.length≤100000)(h: ∀c y e q u,OKO c y e q u→b0≠chk (outB c y e q u)):i3c [.l TB b0]=some (0,[.n 0,.n 0,.n 0,.n 0,.n 0,.b false]):=by
 by_cases h34:b0.length=34
 ·refine H27 hw hl h34 (T:=.bad 0) (y:=(0,[])) _ rfl _ ?_
  refine a0a ?_ rfl
  have hw2:b0.length≤1000000:=by omega
  have hc:=j3c hw 1
  cases q:f0b (r2b (bif win 1099511627776 [IntKind.wrap .i64 (atv b0 2 8),IntKind.wrap .i64 (atv b0 10 8)]then chk (outB (b0.getD 1 0) (IntKind.wrap .i64 (atv b0 2 8)) (IntKind.wrap .i64 (atv b0 10 8)) (atv b0 18 8) (atv b0 26 4))else[])) (r2b b0)with
  |false=>rfl
  |true=>
   have e:=f4o (l4o (u3n (i4k _ _ _ _ _ hc.1 hc.2))) hw q
   exfalso
   cases hm:win 1099511627776 [IntKind.wrap .i64 (atv b0 2 8),IntKind.wrap .i64 (atv b0 10 8)]with
   |false=>rw[hm]at e;rw[←e]at h34;cases h34
   |true=>
    rw[hm]at e
    exact h _ _ _ _ _ ⟨hc,at8 hw hw2 18,at4 hw hw2 26,hm⟩ e.symm
 ·rw[p3p]
  refine q3b _ _ ?_
  unfold r3s
  dsimp only
  exact a0a (d4a (show(b0.length:Int)≠34 by omega)) rfl
def tma (b:List Int)(i:Nat)(k:Nat):Int:=IntKind.wrap .u8 (atv b (i+24+k) 1)
def tmT (b:List Int)(i n:Nat):List Int:=(List.range n).map (tma b i)++List.replicate (64-n) 0
def tmr (b:List Int)(i:Nat):List Int:=tmT b i 64
theorem m3z (b:List Int)(i n:Nat)(h:n≤64):(tmT b i n).length=64:=by
 unfold tmT
 rw[List.length_append,List.length_map,List.length_range,List.length_replicate];omega
theorem tmT_set (b:List Int)(i n:Nat)(h:n<64):(tmT b i n).set n (tma b i n)=tmT b i (n+1):=by
 unfold tmT
 have hl:((List.range n).map (tma b i)).length=n:=by rw[List.length_map,List.length_range]
 obtain⟨m,hm⟩: ∃m,64-n=m+1:=⟨63-n,by omega⟩
 rw[hm,show 64-(n+1)=m by omega,List.replicate_succ,List.range_succ,List.map_append,List.append_assoc]
 rw[List.set_append_right _ _ (by omega),hl,Nat.sub_self]
 rfl
theorem r3n (b:List Int)(i:Nat):Wb (tmr b i):=by
 unfold tmr tmT
 intro x hx
 rcases List.mem_append.1 hx with h|h
 ·obtain⟨k,_,rfl⟩:=List.mem_map.1 h
  unfold tma;rw[wu8];omega
 ·have:=List.eq_of_mem_replicate h;omega
theorem lp54 {b:List Int}(hb:Wb b)(hl:b.length≤100000)(i:Nat)(hi:i≤1000)(a0 a1 a2 u:Int):
  m3q [.k 0,.l TB b,.n (i:Int),.n 0,.n 0,.n 0,.n 0,.l TB (List.replicate 64 (0:Int)),.n 0,.n a0,.n a1,.n a2,.l TB (List.replicate 64 (0:Int)),.n u]=some (0,[.n 0,.n 0,.n 0,.l TB (List.replicate 64 (0:Int)),.n 0,.n a0,.n a1,.n a2,.l TB (tmr b i),.n u]):=by
 rw[n3n]
 have hz:(List.replicate 64 (0:Int))=tmT b i 0:=rfl
 refine i3l (fun n=>[.k 0,.l TB b,.n (i:Int),.n n,.n 0,.n 0,.n 0,.l TB (List.replicate 64 (0:Int)),.n 0,.n a0,.n a1,.n a2,.l TB (tmT b i n.toNat),.n u]) 64 (0,[.n 0,.n 0,.n 0,.l TB (List.replicate 64 (0:Int)),.n 0,.n a0,.n a1,.n a2,.l TB (tmr b i),.n u]) (fun n h0 h1=> ?_) ?_ FU 0 (by omega) (by omega) (by show(64-(0:Int)).toNat<FU;unfold FU;omega)
 ·obtain⟨k,rfl⟩: ∃k:Nat,n=(k:Int):=⟨n.toNat,by omega⟩
  have hk:((k:Int)).toNat=k:=by omega
  have w1:IntKind.wrap .i64 (IntKind.wrap .i64 ((i:Int)+24)+(k:Int))=((i+24+k:Nat):Int):=by rw[w64d,w64d];omega
  have w2:IntKind.wrap .i64 ((k:Int)+1)=(k:Int)+1:=w64s (by omega) (by omega)
  have e1:=t47 hb (by omega) (i+24+k) 1 (by omega) (by omega)
  refine k3o _ _ _ _ _ _ _ _ _ _ _ _ _ h0 (List.length_replicate (n:=64) (a:=(0:Int))) (m3z b i _ (by omega)) _ ?_
  unfold l3e
  dsimp only
  refine a0a (decide_eq_true h1) ?_
  erw[w1,e1]
  refine a0a rfl ?_
  have q:List.set (tmT b i ((k:Int)).toNat) (((k:Int)).toNat) (IntKind.wrap .u8 (atv b (i+24+k) 1))=tmT b i (((k:Int)+1).toNat):=by
   rw[hk,show((k:Int)+1).toNat=k+1 by omega]
   exact tmT_set b i k (by omega)
  show some (Step.go [.k 0,.l TB b,.n (i:Int),.n (IntKind.wrap .i64 ((k:Int)+1)),.n 0,.n 0,.n 0,.l TB (List.replicate 64 (0:Int)),.n 0,.n a0,.n a1,.n a2,.l TB (List.set (tmT b i ((k:Int)).toNat) (((k:Int)).toNat) (IntKind.wrap .u8 (atv b (i+24+k) 1))),.n u])=_
  rw[w2]
  exact congrArg (fun z:List Int=>some (Step.go [.k 0,.l TB b,.n (i:Int),.n ((k:Int)+1),.n 0,.n 0,.n 0,.l TB (List.replicate 64 (0:Int)),.n 0,.n a0,.n a1,.n a2,.l TB z,.n u])) q
 ·refine k3o _ _ _ _ _ _ _ _ _ _ _ _ _ (by omega) (List.length_replicate (n:=64) (a:=(0:Int))) (m3z b i _ (by omega)) _ ?_
  unfold l3e
  dsimp only
  exact a0c (decide_eq_false (by omega)) rfl
theorem t54 {b:List Int}(hb:Wb b)(hl:b.length≤100000)(i:Nat)(hi:i≤1000):r3d [.l TB b,.n (i:Int)]=some (0,[.n (atv b i 8),.n (atv b (i+8) 8),.n (atv b (i+16) 8),.l TB (tmr b i),.n (atv b (i+88) 4)]):=by
 have hw2:b.length≤1000000:=by omega
 have e1:=t47 hb hw2 i 8 (by omega) (by omega)
 have e2:=t47 hb hw2 (i+8) 8 (by omega) (by omega)
 have e3:=t47 hb hw2 (i+16) 8 (by omega) (by omega)
 have e4:=t47 hb hw2 (i+88) 4 (by omega) (by omega)
 have w1:IntKind.wrap .i64 ((i:Int)+8)=((i+8:Nat):Int):=by rw[w64d];omega
 have w2:IntKind.wrap .i64 ((i:Int)+16)=((i+16:Nat):Int):=by rw[w64d];omega
 have w3:IntKind.wrap .i64 ((i:Int)+88)=((i+88:Nat):Int):=by rw[w64d];omega
 have e5:=lp54 hb hl i hi (atv b i 8) (atv b (i+8) 8) (atv b (i+16) 8) (IntKind.wrap .u32 (atv b (i+88) 4))
 rw[←w1]at e2
 rw[←w2]at e3
 rw[←w3]at e4
 rw[x3x]
 refine y3w _ _ _ ?_
 unfold d4s
 dsimp only
 erw[e1]
 refine a0a rfl ?_
 erw[e2]
 refine a0a rfl ?_
 erw[e3]
 refine a0a rfl ?_
 erw[e4]
 refine a0a rfl ?_
 erw[e5]
 refine a0a rfl ?_
 show some (0,[Dat.n (atv b i 8),.n (atv b (i+8) 8),.n (atv b (i+16) 8),.l TB (tmr b i),.n (IntKind.wrap .u32 (atv b (i+88) 4))])=_
 rw[w32 (at4 hb hw2 (i+88))]
theorem H29 {b0:List Int}(hw:Wb b0)(hl:b0.length≤100000)(f:List Int)(hf:f=chk (3::stL (atv b0 1 8) (atv b0 9 8) (atv b0 17 8) (tmr b0 1) (atv b0 89 4)))(r:Nat×List Dat)
  (hr:(Tree.node (!f0b (r2b f) (r2b b0)) (.leaf ((0,[.n (0:Int),.n (0:Int),.n (0:Int),.l TB (List.replicate 64 (0:Int)),.n (0:Int),.b false]))) (.leaf ((0,[.n (atv b0 1 8),.n (atv b0 9 8),.n (atv b0 17 8),.l TB (tmr b0 1),.n (atv b0 89 4),.b true])))).sel=some r):i3b [.l TB b0]=some r:=by
 have e1:=t54 hw hl 1 (by omega)
 have e2:l3z [.n (atv b0 1 8),.n (atv b0 9 8),.n (atv b0 17 8),.l TB (tmr b0 1),.n (atv b0 89 4)]=some (0,[.l TB f]):=by
  rw[hf]
  exact m18 _ _ _ _ _ (m3z b0 1 64 (by omega)) (r3n b0 1)
 clear hf
 rw[v3e]
 refine y3t _ _ ?_
 unfold c4v
 dsimp only
 erw[e1]
 refine a0a rfl ?_
 erw[e2]
 exact a0a rfl hr
theorem F29 {b0:List Int}(hw:Wb b0)(hl:b0.length≤100000)(h: ∀a b c t u,OKS a b c t u→b0≠chk (3::stL a b c t u)):i3b [.l TB b0]=some (0,[.n 0,.n 0,.n 0,.l TB (List.replicate 64 (0:Int)),.n 0,.b false]):=by
 have hw2:b0.length≤1000000:=by omega
 refine H29 hw hl _ rfl _ (a0a ?_ rfl)
 cases q:f0b (r2b (chk (3::stL (atv b0 1 8) (atv b0 9 8) (atv b0 17 8) (tmr b0 1) (atv b0 89 4)))) (r2b b0)with
 |false=>rfl
 |true=>
  have e:=f4o (u3n ((j4z (r3n b0 1)).cons (by omega))) hw q
  exact(h _ _ _ _ _ ⟨at8 hw hw2 1,at8 hw hw2 9,at8 hw hw2 17,⟨r3n b0 1,m3z b0 1 64 (by omega)⟩,at4 hw hw2 89⟩ e.symm).elim
theorem H31 {b0:List Int}(hw:Wb b0)(hl:b0.length≤100000)(f:List Int)
  (hf:f=bif win 1099511627776 [IntKind.wrap .i64 (atv b0 1 8),IntKind.wrap .i64 (atv b0 9 8)]then chk (logL (IntKind.wrap .i64 (atv b0 1 8)) (IntKind.wrap .i64 (atv b0 9 8)) (atv b0 17 8) (atv b0 25 8) (atv b0 33 8) (tmr b0 17) (atv b0 105 4))else[]) (r:Nat×List Dat)
  (hr:(Tree.node (!f0b (r2b f) (r2b b0)) (.leaf ((0,[.n (0:Int),.n (0:Int),.n (0:Int),.n (0:Int),.n (0:Int),.l TB (List.replicate 64 (0:Int)),.n (0:Int),.b false]))) (.node ((b0.length:Int)==(0:Int)) (.leaf ((0,[.n (0:Int),.n (0:Int),.n (0:Int),.n (0:Int),.n (0:Int),.l TB (List.replicate 64 (0:Int)),.n (0:Int),.b false]))) (.leaf ((0,[.n (IntKind.wrap .i64 (atv b0 1 8)),.n (IntKind.wrap .i64 (atv b0 9 8)),.n (atv b0 17 8),.n (atv b0 25 8),.n (atv b0 33 8),.l TB (tmr b0 17),.n (atv b0 105 4),.b true]))))).sel=some r):h3u [.l TB b0]=some r:=by
 have hw2:b0.length≤1000000:=by omega
 have e1:=t47 hw hw2 1 8 (by omega) (by omega)
 have e2:=t47 hw hw2 9 8 (by omega) (by omega)
 have e3:=t54 hw hl 17 (by omega)
 have e4:l3x [.n (IntKind.wrap .i64 (atv b0 1 8)),.n (IntKind.wrap .i64 (atv b0 9 8)),.n (atv b0 17 8),.n (atv b0 25 8),.n (atv b0 33 8),.l TB (tmr b0 17),.n (atv b0 105 4)]=some (0,[.l TB f]):=by
  rw[hf]
  exact m19 _ _ _ _ _ _ _ (m3z b0 17 64 (by omega)) (r3n b0 17)
 clear hf
 rw[v3z]
 refine a4q _ _ ?_
 unfold b4y
 dsimp only
 erw[e1]
 refine a0a rfl ?_
 erw[e2]
 refine a0a rfl ?_
 erw[e3]
 refine a0a rfl ?_
 erw[e4]
 exact a0a rfl hr
theorem F31 {b0:List Int}(hw:Wb b0)(hl:b0.length≤100000)(h: ∀e y a b c t u,OKG e y a b c t u→b0≠chk (logL e y a b c t u)):h3u [.l TB b0]=some (0,[.n 0,.n 0,.n 0,.n 0,.n 0,.l TB (List.replicate 64 (0:Int)),.n 0,.b false]):=by
 have hw2:b0.length≤1000000:=by omega
 refine H31 hw hl _ rfl _ ?_
 cases q:f0b (r2b (bif win 1099511627776 [IntKind.wrap .i64 (atv b0 1 8),IntKind.wrap .i64 (atv b0 9 8)]then chk (logL (IntKind.wrap .i64 (atv b0 1 8)) (IntKind.wrap .i64 (atv b0 9 8)) (atv b0 17 8) (atv b0 25 8) (atv b0 33 8) (tmr b0 17) (atv b0 105 4))else[])) (r2b b0)with
 |false=>exact a0a rfl rfl
 |true=>
  have e:=f4o (l4o (u3n (i4w (r3n b0 17)))) hw q
  cases hm:win 1099511627776 [IntKind.wrap .i64 (atv b0 1 8),IntKind.wrap .i64 (atv b0 9 8)]with
  |false=>
   rw[hm]at e
   have hz:b0=[]:=e.symm
   refine a0c rfl (a0a ?_ rfl)
   rw[hz];rfl
  |true=>
   rw[hm]at e
   exact(h _ _ _ _ _ _ _ ⟨at8 hw hw2 17,at8 hw hw2 25,at8 hw hw2 33,⟨r3n b0 17,m3z b0 17 64 (by omega)⟩,at4 hw hw2 105,hm⟩ e.symm).elim
theorem H33 {b0:List Int}(hw:Wb b0)(hl:b0.length≤100000)(n:Nat)(h25:b0.length=n+25)(z f:List Int)(hz:z=(b0.drop 21).take n)
  (hf:f=bif win 4611686018427387904 [IntKind.wrap .i64 (atv b0 3 8),IntKind.wrap .i64 (atv b0 11 8)]&&decide ((z.length:Int)≤2048)then chk (liL (b0.getD 1 0) (b0.getD 2 0) (IntKind.wrap .i64 (atv b0 3 8)) (IntKind.wrap .i64 (atv b0 11 8)) z)else[]) (r:Nat×List Dat)
  (hr:(Tree.node (!f0b (r2b f) (r2b b0)) (.leaf ((0,[.n (0:Int),.n (0:Int),.n (0:Int),.n (0:Int),.s {data:={toList:=[]}},.b false]))) (.leaf ((0,[.n (b0.getD 1 0),.n (b0.getD 2 0),.n (IntKind.wrap .i64 (atv b0 3 8)),.n (IntKind.wrap .i64 (atv b0 11 8)),.s (r2b z),.b true])))).sel=some r):i3e [.l TB b0]=some r:=by
 have hw2:b0.length≤1000000:=by omega
 have e1:=t47 hw hw2 3 8 (by omega) (by omega)
 have e2:=t47 hw hw2 11 8 (by omega) (by omega)
 have hzw:Wb z:=by rw[hz];exact(hw.drop _).take _
 have e3:m3y [.n (b0.getD 1 0),.n (b0.getD 2 0),.n (IntKind.wrap .i64 (atv b0 3 8)),.n (IntKind.wrap .i64 (atv b0 11 8)),.s (r2b z)]=some (0,[.l TB f]):=by
  have q:=m21 (b0.getD 1 0) (b0.getD 2 0) (IntKind.wrap .i64 (atv b0 3 8)) (IntKind.wrap .i64 (atv b0 11 8)) (r2b z) (j3c hw 1) (j3c hw 2) (by rw[h3i hzw];exact hzw)
  rw[h3i hzw]at q
  rw[hf];exact q
 clear hf
 have hL:IntKind.wrap .i64 ((b0.length:Int)-4)=((n+21:Nat):Int):=by rw[h25,w64d];omega
 have hd:List.drop 21 (List.take (((n+21:Nat):Int)).toNat b0)=z:=by
  rw[hz,show(((n+21:Nat):Int)).toNat=n+21 by omega,List.drop_take,show n+21-21=n by omega]
 have q1: ¬((b0.length:Int)<25):=by omega
 have q2:(0:Int)≤((n+21:Nat):Int):=by omega
 have q3:((n+21:Nat):Int)≤(b0.length:Int):=by omega
 have q4:(21:Int)≤((n+21:Nat):Int):=by omega
 rw[q3g]
 refine o3w _ _ ?_
 unfold s3f
 dsimp only
 refine a0c (decide_eq_false q1) ?_
 erw[e1]
 refine a0a rfl ?_
 erw[e2]
 refine a0a rfl ?_
 erw[hL]
 refine a0a (by rw[Bool.and_eq_true];exact⟨decide_eq_true q2,decide_eq_true q3⟩) (a0a (by rw[Bool.true_and];exact decide_eq_true q4) ?_)
 erw[hd,e3]
 exact a0a rfl hr
theorem F33 {b0:List Int}(hw:Wb b0)(hl:b0.length≤100000)(h: ∀x y s k l,OKL x y s k l→b0≠chk (liL x y s k l)):i3e [.l TB b0]=some (0,[.n 0,.n 0,.n 0,.n 0,.s (r2b []),.b false]):=by
 have hw2:b0.length≤1000000:=by omega
 by_cases h25:b0.length<25
 ·have q1:(b0.length:Int)<25:=by omega
  rw[q3g]
  refine o3w _ _ ?_
  unfold s3f
  dsimp only
  exact a0a (decide_eq_true q1) rfl
 ·obtain⟨n,hn⟩: ∃n,b0.length=n+25:=⟨b0.length-25,by omega⟩
  obtain⟨z,hz⟩: ∃z,z=(b0.drop 21).take n:=⟨_,rfl⟩
  have hzw:Wb z:=by rw[hz];exact(hw.drop _).take _
  refine H33 hw hl n hn z _ hz rfl _ (a0a ?_ rfl)
  cases q:f0b (r2b (bif win 4611686018427387904 [IntKind.wrap .i64 (atv b0 3 8),IntKind.wrap .i64 (atv b0 11 8)]&&decide ((z.length:Int)≤2048)then chk (liL (b0.getD 1 0) (b0.getD 2 0) (IntKind.wrap .i64 (atv b0 3 8)) (IntKind.wrap .i64 (atv b0 11 8)) z)else[])) (r2b b0)with
  |false=>rfl
  |true=>
   have e:=f4o (l4o (u3n (liL_wb (j3c hw 1) (j3c hw 2) hzw))) hw q
   exfalso
   cases hm:(win 4611686018427387904 [IntKind.wrap .i64 (atv b0 3 8),IntKind.wrap .i64 (atv b0 11 8)]&&decide ((z.length:Int)≤2048))with
   |false=>rw[hm]at e;rw[←e]at hn;cases hn
   |true=>
    rw[hm]at e
    exact h _ _ _ _ _ ⟨j3c hw 1,j3c hw 2,hm,hzw⟩ e.symm
theorem bq1 (a b:Int):(!(a==a&&(b==b&&true)))=false:=by simp
theorem bq2 (a:Int):(a==a)=true:=by simp
theorem Tc_self (x:Cmd):(!(Prod.fst x==Prod.fst x&&(Prod.snd x==Prod.snd x&&true)))=false:=bq1 (Prod.fst x) (Prod.snd x)
theorem t25 (c y q a b:Int)(l:List Cmd)(hl:l.length≤100000):j3m [.n c,.n y,.n q,.n a,.n b,.l TC l,.n c,.n y,.n q,.n a,.n b,.l TC l]=some (0,[.b true]):=by
 have e:m3h [.k 0,.n 0,.n c,.n y,.n q,.n a,.n b,.l TC l,.n c,.n y,.n q,.n a,.n b,.l TC l]=some (0,[]):=by
  rw[n3h]
  refine i3l (fun i=>[.k 0,.n i,.n c,.n y,.n q,.n a,.n b,.l TC l,.n c,.n y,.n q,.n a,.n b,.l TC l]) (l.length:Int) (0,[]) (fun i h0 h1=> ?_) ?_ FU 0 (by omega) (by omega) (by show((l.length:Int)-0).toNat<FU;unfold FU;omega)
  ·have w3:IntKind.wrap .i64 (i+1)=i+1:=w64s (by omega) (by omega)
   refine k3x _ _ _ _ _ _ _ _ _ _ _ _ _ h0 rfl _ ?_
   unfold l3g
   dsimp only
   refine a0a (decide_eq_true h1) (a0c (Tc_self _) ?_)
   rw[w3]
   rfl
  ·refine k3x _ _ _ _ _ _ _ _ _ _ _ _ _ (by omega) rfl _ ?_
   unfold l3g
   dsimp only
   exact a0c (decide_eq_false (show¬((l.length:Int)<(l.length:Int)) by omega)) rfl
 rw[v3n]
 refine a4n _ _ _ _ _ _ _ _ _ _ _ _ _ ?_
 unfold e4a
 dsimp only
 refine a0c (q3l rfl) (a0c (q3l rfl) (a0c (q3l rfl) (a0c (q3l rfl) (a0c (q3l rfl) (a0c (q3l rfl) ?_)))))
 erw[e]
 rfl
theorem h3z: ∀(l:List (Ty.den TB)),eqL TB l l=true
 |[]=>rfl
 |a::l=>by
  show(((a:Int)==(a:Int))&&eqL TB l l)=true
  rw[h3z l,Bool.and_true]
  exact bq2 a
theorem hdI (c y q a b:Int)(l:List Cmd): ∃p,chk (inL c y q a b l)=chk (1::p):=⟨_,rfl⟩
theorem h0I (c y q a b:Int)(l:List Cmd):(chk (inL c y q a b l)).getD 0 0=1∧0<(chk (inL c y q a b l)).length:=by
 obtain⟨p,h⟩:=hdI c y q a b l
 rw[h]
 exact⟨rfl,by rw[w1n];omega⟩
theorem hdO (c y e q u:Int): ∃p,chk (outB c y e q u)=chk (2::p):=⟨_,rfl⟩
theorem h0O (c y e q u:Int):(chk (outB c y e q u)).getD 0 0=2∧0<(chk (outB c y e q u)).length:=by
 obtain⟨p,h⟩:=hdO c y e q u
 rw[h]
 exact⟨rfl,by rw[w1n];omega⟩
theorem hdS (a b c:Int)(t:List Int)(u:Int): ∃p,chk ((3::stL a b c t u))=chk (3::p):=⟨_,rfl⟩
theorem h0S (a b c:Int)(t:List Int)(u:Int):(chk ((3::stL a b c t u))).getD 0 0=3∧0<(chk ((3::stL a b c t u))).length:=by
 obtain⟨p,h⟩:=hdS a b c t u
 rw[h]
 exact⟨rfl,by rw[w1n];omega⟩
theorem hdG (e y a b c:Int)(t:List Int)(u:Int): ∃p,chk (logL e y a b c t u)=chk (4::p):=⟨_,rfl⟩
theorem h0G (e y a b c:Int)(t:List Int)(u:Int):(chk (logL e y a b c t u)).getD 0 0=4∧0<(chk (logL e y a b c t u)).length:=by
 obtain⟨p,h⟩:=hdG e y a b c t u
 rw[h]
 exact⟨rfl,by rw[w1n];omega⟩
theorem hdL (x y s k:Int)(l:List Int): ∃p,chk (liL x y s k l)=chk (5::p):=⟨_,rfl⟩
theorem h0L (x y s k:Int)(l:List Int):(chk (liL x y s k l)).getD 0 0=5∧0<(chk (liL x y s k l)).length:=by
 obtain⟨p,h⟩:=hdL x y s k l
 rw[h]
 exact⟨rfl,by rw[w1n];omega⟩
theorem k35I {c y q a b:Int}{l:List Cmd}(h:OKI c y q a b l):t2c [.l TB (chk (inL c y q a b l))]=some (0,[.n 1]):=by
 have e23r:=GI h
 rw[j3e]
 refine i3k _ _ ?_
 unfold j3t
 dsimp only
 have h0:=h0I c y q a b l
 refine a0c (by show(((chk (inL c y q a b l)).length:Int)==(0:Int))=false;exact beq_eq_false_iff_ne.2 (by omega)) ?_
 refine a0a (by show(((chk (inL c y q a b l)).getD 0 0:Int)==(1:Int))=true;rw[h0.1];rfl) ?_
 erw[e23r]
 refine a0a rfl (a0c rfl ?_)
 exact congrArg (fun z:Int=>some (0,[Dat.n z])) h0.1
theorem k35O {c y e q u:Int}(h:OKO c y e q u):t2c [.l TB (chk (outB c y e q u))]=some (0,[.n 2]):=by
 have e26r:=G26 h
 rw[j3e]
 refine i3k _ _ ?_
 unfold j3t
 dsimp only
 have h0:=h0O c y e q u
 refine a0c (by show(((chk (outB c y e q u)).length:Int)==(0:Int))=false;exact beq_eq_false_iff_ne.2 (by omega)) ?_
 refine a0c (by show(((chk (outB c y e q u)).getD 0 0:Int)==(1:Int))=false;rw[h0.1];rfl) ?_
 refine a0a (by show(((chk (outB c y e q u)).getD 0 0:Int)==(2:Int))=true;rw[h0.1];rfl) ?_
 erw[e26r]
 refine a0a rfl (a0c rfl ?_)
 exact congrArg (fun z:Int=>some (0,[Dat.n z])) h0.1
theorem k35S {a b c:Int}{t:List Int}{u:Int}(h:OKS a b c t u):t2c [.l TB (chk ((3::stL a b c t u)))]=some (0,[.n 3]):=by
 have e28r:=G28 h
 rw[j3e]
 refine i3k _ _ ?_
 unfold j3t
 dsimp only
 have h0:=h0S a b c t u
 refine a0c (by show(((chk ((3::stL a b c t u))).length:Int)==(0:Int))=false;exact beq_eq_false_iff_ne.2 (by omega)) ?_
 refine a0c (by show(((chk ((3::stL a b c t u))).getD 0 0:Int)==(1:Int))=false;rw[h0.1];rfl) ?_
 refine a0c (by show(((chk ((3::stL a b c t u))).getD 0 0:Int)==(2:Int))=false;rw[h0.1];rfl) ?_
 refine a0a (by show(((chk ((3::stL a b c t u))).getD 0 0:Int)==(3:Int))=true;rw[h0.1];rfl) ?_
 erw[e28r]
 refine a0a rfl (a0c rfl ?_)
 exact congrArg (fun z:Int=>some (0,[Dat.n z])) h0.1
theorem k35G {e y a b c:Int}{t:List Int}{u:Int}(h:OKG e y a b c t u):t2c [.l TB (chk (logL e y a b c t u))]=some (0,[.n 4]):=by
 have e30r:=G30 h
 rw[j3e]
 refine i3k _ _ ?_
 unfold j3t
 dsimp only
 have h0:=h0G e y a b c t u
 refine a0c (by show(((chk (logL e y a b c t u)).length:Int)==(0:Int))=false;exact beq_eq_false_iff_ne.2 (by omega)) ?_
 refine a0c (by show(((chk (logL e y a b c t u)).getD 0 0:Int)==(1:Int))=false;rw[h0.1];rfl) ?_
 refine a0c (by show(((chk (logL e y a b c t u)).getD 0 0:Int)==(2:Int))=false;rw[h0.1];rfl) ?_
 refine a0c (by show(((chk (logL e y a b c t u)).getD 0 0:Int)==(3:Int))=false;rw[h0.1];rfl) ?_
 refine a0a (by show(((chk (logL e y a b c t u)).getD 0 0:Int)==(4:Int))=true;rw[h0.1];rfl) ?_
 erw[e30r]
 refine a0a rfl (a0c rfl ?_)
 exact congrArg (fun z:Int=>some (0,[Dat.n z])) h0.1
theorem k35L {x y s k:Int}{l:List Int}(h:OKL x y s k l):t2c [.l TB (chk (liL x y s k l))]=some (0,[.n 5]):=by
 have e32r:=GL h
 rw[j3e]
 refine i3k _ _ ?_
 unfold j3t
 dsimp only
 have h0:=h0L x y s k l
 refine a0c (by show(((chk (liL x y s k l)).length:Int)==(0:Int))=false;exact beq_eq_false_iff_ne.2 (by omega)) ?_
 refine a0c (by show(((chk (liL x y s k l)).getD 0 0:Int)==(1:Int))=false;rw[h0.1];rfl) ?_
 refine a0c (by show(((chk (liL x y s k l)).getD 0 0:Int)==(2:Int))=false;rw[h0.1];rfl) ?_
 refine a0c (by show(((chk (liL x y s k l)).getD 0 0:Int)==(3:Int))=false;rw[h0.1];rfl) ?_
 refine a0c (by show(((chk (liL x y s k l)).getD 0 0:Int)==(4:Int))=false;rw[h0.1];rfl) ?_
 refine a0a (by show(((chk (liL x y s k l)).getD 0 0:Int)==(5:Int))=true;rw[h0.1];rfl) ?_
 erw[e32r]
 refine a0a rfl (a0c rfl ?_)
 exact congrArg (fun z:Int=>some (0,[Dat.n z])) h0.1
section
variable {r:Option (Nat×List Dat)} {k:Nat} {l:List Dat}
theorem cN (i:Nat)(e:r=some (k,l)):gn (dOf r) i=gn l i:=by rw[e];rfl
theorem cB (i:Nat)(e:r=some (k,l)):gb (dOf r) i=gb l i:=by rw[e];rfl
theorem cS (i:Nat)(e:r=some (k,l)):gs (dOf r) i=gs l i:=by rw[e];rfl
theorem cL (t:Ty)(i:Nat)(e:r=some (k,l)):gl t (dOf r) i=gl t l i:=by rw[e];rfl
theorem cK (j:Nat)(ks:List HK)(e:r=some (k,l)):isK j ks r=isK j ks (some (k,l)):=by rw[e]
end
theorem rdz (o:Option (List Int)):rd 0 o=o:=by
 cases o with
 |none=>rfl
 |some l=>rw[i3r (by omega)];rfl
theorem h4w: ∀(k:Nat) (o:Option (List Int)),rc (k+1) o=apC (rc k o) (vl 1 (rd (2*k) o)) (IntKind.wrap .i64 (vl 1 (rd (2*k+1) o)))
 |0,o=>by
  show[mkC (vl 1 o) (IntKind.wrap .i64 (vl 1 (rd 1 o)))]=[mkC (vl 1 (rd 0 o)) (IntKind.wrap .i64 (vl 1 (rd 1 o)))]
  rw[rdz]
 |k+1,o=>by
  have ih:=h4w k (rd 1 (rd 1 o))
  rw[m3n,m3n,m3n]at ih
  rw[show 1+1+2*k=2*(k+1) by omega,show 1+1+(2*k+1)=2*(k+1)+1 by omega]at ih
  show mkC (vl 1 o) (IntKind.wrap .i64 (vl 1 (rd 1 o)))::rc (k+1) (rd 1 (rd 1 o))=_
  rw[m3n,ih]
  show _=apC (mkC (vl 1 o) (IntKind.wrap .i64 (vl 1 (rd 1 o)))::rc k (rd 1 (rd 1 o))) _ _
  rw[m3n]
  rfl
theorem lp24 {b:List Int}(hl:b.length≤100000)(n:Nat)(hn:n≤8)(h27:27+2*n≤b.length)(c y q a a2:Int):
  m3s [.k 0,.l TB b,.n (n:Int),.n 0,.n 0,.n 0,.n 0,.n 0,.n 0,.n c,.n y,.n q,.n a,.n a2,.l TC ([]:List Cmd)]=some (0,[.l TB b,.n 0,.n 0,.n 0,.n 0,.n 0,.n c,.n y,.n q,.n a,.n a2,.l TC (rc n (rd 27 (some b)))]):=by
 rw[o3b]
 refine i3l (fun i=>[.k 0,.l TB b,.n (n:Int),.n i,.n 0,.n 0,.n 0,.n 0,.n 0,.n c,.n y,.n q,.n a,.n a2,.l TC (rc i.toNat (rd 27 (some b)))]) (n:Int) (0,[.l TB b,.n 0,.n 0,.n 0,.n 0,.n 0,.n c,.n y,.n q,.n a,.n a2,.l TC (rc n (rd 27 (some b)))]) (fun i h0 h1=> ?_) ?_ FU 0 (by omega) (by omega) (by show((n:Int)-0).toNat<FU;unfold FU;omega)
 ·obtain⟨k,rfl⟩: ∃k:Nat,i=(k:Int):=⟨i.toNat,by omega⟩
  have hk:((k:Int)).toNat=k:=by omega
  have w1:IntKind.wrap .i64 (27+IntKind.wrap .i64 (2*(k:Int)))=((27+2*k:Nat):Int):=by rw[w64d,w64d];omega
  have w2:IntKind.wrap .i64 (28+IntKind.wrap .i64 (2*(k:Int)))=((27+(2*k+1):Nat):Int):=by rw[w64d,w64d];omega
  have w3:IntKind.wrap .i64 ((k:Int)+1)=(k:Int)+1:=w64s (by omega) (by omega)
  have q1:b.getD (27+2*k) 0=vl 1 (rd (2*k) (rd 27 (some b))):=by rw[k4t (by omega),m3n]
  have q2:b.getD (27+(2*k+1)) 0=vl 1 (rd (2*k+1) (rd 27 (some b))):=by rw[k4t (by omega),m3n]
  have hln:=i4f k (rd 27 (some b))
  refine l3b _ _ _ _ _ _ _ _ _ h0 _ ?_
  unfold l3q
  dsimp only
  refine a0a (decide_eq_true h1) ?_
  erw[w1,w2]
  refine a0a (h1s (by omega) (show((27+2*k:Nat):Int)<(b.length:Int) by omega)) (a0a (h1s (by omega) (show((27+(2*k+1):Nat):Int)<(b.length:Int) by omega)) (a0a (decide_eq_true (show((rc ((k:Int)).toNat (rd 27 (some b))).length+1)*16≤140737488355328 by rw[hk];omega)) ?_))
  show some (Step.go [.k 0,.l TB b,.n (n:Int),.n (IntKind.wrap .i64 ((k:Int)+1)),.n 0,.n 0,.n 0,.n 0,.n 0,.n c,.n y,.n q,.n a,.n a2,.l TC (apC (rc ((k:Int)).toNat (rd 27 (some b))) (b.getD (((27+2*k:Nat):Int)).toNat 0) (IntKind.wrap .i64 (b.getD (((27+(2*k+1):Nat):Int)).toNat 0)))])=_
  rw[w3,hk,show(((27+2*k:Nat):Int)).toNat=27+2*k by omega,show(((27+(2*k+1):Nat):Int)).toNat=27+(2*k+1) by omega,q1,q2,←h4w]
  show _=some (Step.go [.k 0,.l TB b,.n (n:Int),.n ((k:Int)+1),.n 0,.n 0,.n 0,.n 0,.n 0,.n c,.n y,.n q,.n a,.n a2,.l TC (rc ((k:Int)+1).toNat (rd 27 (some b)))])
  rw[show((k:Int)+1).toNat=k+1 by omega]
 ·refine l3b _ _ _ _ _ _ _ _ _ (by omega) _ ?_
  unfold l3q
  dsimp only
  refine a0c (decide_eq_false (by omega)) ?_
  show some (Step.stop 0 [.l TB b,.n 0,.n 0,.n 0,.n 0,.n 0,.n c,.n y,.n q,.n a,.n a2,.l TC (rc ((n:Int)).toNat (rd 27 (some b)))])=_
  rw[show((n:Int)).toNat=n by omega]
theorem w31 (n:Nat)(h:n≤255):IntKind.wrap .i64 (31+IntKind.wrap .i64 (2*(n:Int)))=31+2*(n:Int):=by
 have i1:IntKind.wrap .i64 (2*(n:Int))=2*(n:Int):=w64s (by omega) (by omega)
 rw[i1]
 exact w64s (by omega) (by omega)
theorem H24 {b0:List Int}(hw:Wb b0)(hl:b0.length≤100000)(n:Nat)(hn:b0.getD 26 0=(n:Int))(h8:n≤8)(hlen:b0.length=31+2*n)(l:List Cmd)(hlc:l=rc n (rd 27 (some b0)))(f:List Int)
  (hf:f=bif l.all h3w&&(win 1099511627776 [IntKind.wrap .i64 (atv b0 2 8)]&&decide ((l.length:Int)≤8))then chk (inL (b0.getD 1 0) (IntKind.wrap .i64 (atv b0 2 8)) (atv b0 10 8) (atv b0 18 4) (atv b0 22 4) l)else[]) (r:Nat×List Dat)
  (hr:(Tree.node (!f0b (r2b f) (r2b b0)) (.leaf ((1,[.n (0:Int),.n (0:Int),.n (0:Int),.n (0:Int),.n (0:Int),.b false]))) (.leaf ((0,[.n (b0.getD 1 0),.n (IntKind.wrap .i64 (atv b0 2 8)),.n (atv b0 10 8),.n (atv b0 18 4),.n (atv b0 22 4),.b true,.l TC l])))).sel=some r):h3s [.l TB b0]=some r:=by
 have hw2:b0.length≤1000000:=by omega
 have e1:=t47 hw hw2 2 8 (by omega) (by omega)
 have e2:=t47 hw hw2 10 8 (by omega) (by omega)
 have e3:=t47 hw hw2 18 4 (by omega) (by omega)
 have e4:=t47 hw hw2 22 4 (by omega) (by omega)
 have e5:=lp24 hl n h8 (by omega) (b0.getD 1 0) (IntKind.wrap .i64 (atv b0 2 8)) (atv b0 10 8) (IntKind.wrap .u32 (atv b0 18 4)) (IntKind.wrap .u32 (atv b0 22 4))
 rw[←hlc]at e5
 have hc:=j3c hw 1
 have wa:=w32 (at4 hw hw2 18)
 have wb:=w32 (at4 hw hw2 22)
 have e6:m3p [.n (b0.getD 1 0),.n (IntKind.wrap .i64 (atv b0 2 8)),.n (atv b0 10 8),.n (IntKind.wrap .u32 (atv b0 18 4)),.n (IntKind.wrap .u32 (atv b0 22 4)),.l TC l]=some (0,[.l TB f]):=by
  rw[hf,wa,wb]
  exact m14 _ _ _ _ _ l hc.1 hc.2
 clear hf hlc
 have hg:IntKind.wrap .i64 (b0.getD 26 0)=(n:Int):=by rw[hn,w64d];omega
 have hg2:IntKind.wrap .i64 (31+IntKind.wrap .i64 (2*(n:Int)))=31+2*(n:Int):=w31 n (by omega)
 rw[m3t]
 refine l3d _ _ ?_
 unfold o3m
 dsimp only
 refine a0c (decide_eq_false (show¬((b0.length:Int)<31) by omega)) ?_
 erw[e1]
 refine a0a rfl ?_
 erw[e2]
 refine a0a rfl ?_
 erw[e3]
 refine a0a rfl ?_
 erw[e4]
 refine a0a rfl ?_
 erw[hg]
 refine a0c (decide_eq_false (show¬((n:Int)>8) by omega)) ?_
 erw[hg2]
 refine a0c (q3l (show(b0.length:Int)=31+2*(n:Int) by omega)) ?_
 erw[e5]
 refine a0a rfl ?_
 erw[e6]
 refine a0a rfl ?_
 cases q:f0b (r2b f) (r2b b0)with
 |true=>
  rw[q]at hr
  refine a0c (by show(!f0b (r2b f) (r2b b0))=false;rw[q];rfl) ?_
  rw[←hr]
  show some (0,[Dat.n (b0.getD 1 0),.n (IntKind.wrap .i64 (atv b0 2 8)),.n (atv b0 10 8),.n (IntKind.wrap .u32 (atv b0 18 4)),.n (IntKind.wrap .u32 (atv b0 22 4)),.b true,.l TC l])=_
  rw[wa,wb];rfl
 |false=>
  rw[q]at hr
  refine a0a (by show(!f0b (r2b f) (r2b b0))=true;rw[q];rfl) ?_
  rw[←hr]
  rfl
theorem F24 {b0:List Int}(hw:Wb b0)(hl:b0.length≤100000)(h: ∀c y q a b l,OKI c y q a b l→b0≠chk (inL c y q a b l)):h3s [.l TB b0]=some (1,[.n 0,.n 0,.n 0,.n 0,.n 0,.b false]):=by
 have hw2:b0.length≤1000000:=by omega
 by_cases h31:b0.length<31
 ·rw[m3t]
  refine l3d _ _ ?_
  unfold o3m
  dsimp only
  exact a0a (decide_eq_true (show(b0.length:Int)<31 by omega)) rfl
 ·have hc:=j3c hw 26
  obtain⟨n,hn⟩: ∃n:Nat,b0.getD 26 0=(n:Int):=⟨(b0.getD 26 0).toNat,by omega⟩
  have hn255:n≤255:=by omega
  by_cases hgo:n≤8∧b0.length=31+2*n
  ·obtain⟨l,hlc⟩: ∃l,l=rc n (rd 27 (some b0)):=⟨_,rfl⟩
   refine H24 hw hl n hn hgo.1 hgo.2 l hlc _ rfl _ (a0a ?_ rfl)
   have hc1:=j3c hw 1
   cases q:f0b (r2b (bif l.all h3w&&(win 1099511627776 [IntKind.wrap .i64 (atv b0 2 8)]&&decide ((l.length:Int)≤8))then chk (inL (b0.getD 1 0) (IntKind.wrap .i64 (atv b0 2 8)) (atv b0 10 8) (atv b0 18 4) (atv b0 22 4) l)else[])) (r2b b0)with
   |false=>rfl
   |true=>
    exfalso
    cases hm:(l.all h3w&&(win 1099511627776 [IntKind.wrap .i64 (atv b0 2 8)]&&decide ((l.length:Int)≤8)))with
    |false=>
     rw[hm]at q
     have e:[]=b0:=f4o Wb.nil hw q
     rw[←e]at h31
     exact h31 (by decide)
    |true=>
     rw[hm]at q
     have hm':=hm
     rw[Bool.and_eq_true]at hm'
     have e:=f4o (u3n (inL_wb hc1.1 hc1.2 hm'.1)) hw q
     exact h _ _ _ _ _ _ ⟨hc1,at8 hw hw2 10,at4 hw hw2 18,at4 hw hw2 22,hm⟩ e.symm
  ·have e1:=t47 hw hw2 2 8 (by omega) (by omega)
   have e2:=t47 hw hw2 10 8 (by omega) (by omega)
   have e3:=t47 hw hw2 18 4 (by omega) (by omega)
   have e4:=t47 hw hw2 22 4 (by omega) (by omega)
   have hg:IntKind.wrap .i64 (b0.getD 26 0)=(n:Int):=by rw[hn,w64d];omega
   have hg2:IntKind.wrap .i64 (31+IntKind.wrap .i64 (2*(n:Int)))=31+2*(n:Int):=w31 n (by omega)
   rw[m3t]
   refine l3d _ _ ?_
   unfold o3m
   dsimp only
   refine a0c (decide_eq_false (show¬((b0.length:Int)<31) by omega)) ?_
   erw[e1]
   refine a0a rfl ?_
   erw[e2]
   refine a0a rfl ?_
   erw[e3]
   refine a0a rfl ?_
   erw[e4]
   refine a0a rfl ?_
   erw[hg]
   by_cases h8:n≤8
   ·refine a0c (decide_eq_false (show¬((n:Int)>8) by omega)) ?_
    erw[hg2]
    exact a0a (d4a (show(b0.length:Int)≠31+2*(n:Int) by omega)) rfl
   ·exact a0a (decide_eq_true (show(n:Int)>8 by omega)) rfl
theorem w4_0 {b0:List Int}(hw:Wb b0)(hl3:b0.length≤3000)(mI: ∀c y q a b l,OKI c y q a b l→b0≠chk (inL c y q a b l))(mO: ∀c y e q u,OKO c y e q u→b0≠chk (outB c y e q u))(mS: ∀a b c t u,OKS a b c t u→b0≠chk ((3::stL a b c t u)))(mG: ∀e y a b c t u,OKG e y a b c t u→b0≠chk (logL e y a b c t u))(mL: ∀x y s k l,OKL x y s k l→b0≠chk (liL x y s k l)):(t2c [.l TB b0]=some (0,[.n 0]))∧(k4f [.l TB b0]).sel=some true:=by
 have hl:b0.length≤100000:=by omega
 have e23r:=FI hw hl mI
 have e24r:=F24 hw hl mI
 have e26r:=F26 hw hl mO
 have e27r:=F27 hw hl mO
 have e28r:=F28 hw hl mS
 have e29r:=F29 hw hl mS
 have e30r:=F30 hw hl mG
 have e31r:=F31 hw hl mG
 have e32r:=FL hw hl mL
 have e33g:=F33 hw hl mL
 have e35r:t2c [.l TB b0]=some (0,[.n 0]):=by
  rw[j3e]
  refine i3k _ _ ?_
  unfold j3t
  dsimp only
  by_cases hz:b0.length=0
  ·exact a0a (by show((b0.length:Int)==(0:Int))=true;rw[hz];rfl) rfl
  ·refine a0c (by show((b0.length:Int)==(0:Int))=false;simp;intro q;rw[q]at hz;exact hz rfl) ?_
   by_cases q1:b0.getD 0 0=1
   ·refine a0a (by show((b0.getD 0 0:Int)==(1:Int))=true;rw[q1];rfl) ?_
    erw[e23r]
    rfl
   refine a0c (by show((b0.getD 0 0:Int)==(1:Int))=false;exact beq_eq_false_iff_ne.2 q1) ?_
   by_cases q2:b0.getD 0 0=2
   ·refine a0a (by show((b0.getD 0 0:Int)==(2:Int))=true;rw[q2];rfl) ?_
    erw[e26r]
    rfl
   refine a0c (by show((b0.getD 0 0:Int)==(2:Int))=false;exact beq_eq_false_iff_ne.2 q2) ?_
   by_cases q3:b0.getD 0 0=3
   ·refine a0a (by show((b0.getD 0 0:Int)==(3:Int))=true;rw[q3];rfl) ?_
    erw[e28r]
    rfl
   refine a0c (by show((b0.getD 0 0:Int)==(3:Int))=false;exact beq_eq_false_iff_ne.2 q3) ?_
   by_cases q4:b0.getD 0 0=4
   ·refine a0a (by show((b0.getD 0 0:Int)==(4:Int))=true;rw[q4];rfl) ?_
    erw[e30r]
    rfl
   refine a0c (by show((b0.getD 0 0:Int)==(4:Int))=false;exact beq_eq_false_iff_ne.2 q4) ?_
   by_cases q5:b0.getD 0 0=5
   ·refine a0a (by show((b0.getD 0 0:Int)==(5:Int))=true;rw[q5];rfl) ?_
    erw[e32r]
    rfl
   refine a0c (by show((b0.getD 0 0:Int)==(5:Int))=false;exact beq_eq_false_iff_ne.2 q5) ?_
   rfl
 have e36r:n3x [.l TB b0]=some (0,[.n 0]):=by
  rw[u3u]
  refine z3q _ _ ?_
  unfold d4q
  dsimp only
  erw[e24r,e27r,e29r,e31r,e33g]
  rfl
 have e25r:=t25 0 0 0 0 0 [] (by simp)
 have e34q:n3y [.n 130,.n 130,.n 130,.n 130,.n 130]=some (0,[.b true]):=by
  rw[v3v]
  refine z3t _ _ _ _ _ _ ?_
  unfold c4w
  rfl
 refine⟨e35r,?_⟩
 exact w3c b0 0 0 0 0 0 130 false 0 0 0 (List.replicate 64 (0:Int)) 0 130 false 0 0 0 0 0 (List.replicate 64 (0:Int)) 0 130 false 0 0 0 0 (r2b ([]:List Int)) 0
  (cK 0 [.n,.n,.n,.n,.n,.n,.l TC] e23r)
  (cK 1 [.n,.n,.n,.n,.n,.n] e23r)
  (cN 0 e23r)
  (cN 1 e23r)
  (cN 2 e23r)
  (cN 3 e23r)
  (cN 4 e23r)
  (cN 5 e23r)
  (cK 0 [.n,.n,.n,.n,.n,.b,.l TC] e24r)
  (cK 1 [.n,.n,.n,.n,.n,.b] e24r)
  (cN 0 e24r)
  (cN 1 e24r)
  (cN 2 e24r)
  (cN 3 e24r)
  (cN 4 e24r)
  (cB 5 e24r)
  (cK 0 [.b] e25r)
  (cB 0 e25r)
  rfl
  (cK 0 [.n,.n,.n,.n,.n,.n] e26r)
  (cN 0 e26r)
  (cN 1 e26r)
  (cN 2 e26r)
  (cN 3 e26r)
  (cN 4 e26r)
  (cN 5 e26r)
  (cK 0 [.n,.n,.n,.n,.n,.b] e27r)
  (cN 0 e27r)
  (cN 1 e27r)
  (cN 2 e27r)
  (cN 3 e27r)
  (cN 4 e27r)
  (cB 5 e27r)
  (h3z _)
  rfl
  (cK 0 [.n,.n,.n,.l TB,.n,.n] e28r)
  (cN 0 e28r)
  (cN 1 e28r)
  (cN 2 e28r)
  (cL TB 3 e28r)
  (cN 4 e28r)
  (cN 5 e28r)
  (cK 0 [.n,.n,.n,.l TB,.n,.b] e29r)
  (cN 0 e29r)
  (cN 1 e29r)
  (cN 2 e29r)
  (cL TB 3 e29r)
  (cN 4 e29r)
  (cB 5 e29r)
  (h3z _)
  rfl
  (cK 0 [.n,.n,.n,.n,.n,.l TB,.n,.n] e30r)
  (cN 0 e30r)
  (cN 1 e30r)
  (cN 2 e30r)
  (cN 3 e30r)
  (cN 4 e30r)
  (cL TB 5 e30r)
  (cN 6 e30r)
  (cN 7 e30r)
  (cK 0 [.n,.n,.n,.n,.n,.l TB,.n,.b] e31r)
  (cN 0 e31r)
  (cN 1 e31r)
  (cN 2 e31r)
  (cN 3 e31r)
  (cN 4 e31r)
  (cL TB 5 e31r)
  (cN 6 e31r)
  (cB 7 e31r)
  (cK 0 [.n,.n,.n,.n,.n,.l TB] e32r)
  (cK 1 [.n,.n,.n,.n,.n] e32r)
  (cN 0 e32r)
  (cN 1 e32r)
  (cN 2 e32r)
  (cN 3 e32r)
  (cN 4 e32r)
  (cK 0 [.n,.n,.n,.n,.s,.b] e33g)
  (cN 0 e33g)
  (cN 1 e33g)
  (cN 2 e33g)
  (cN 3 e33g)
  (cS 4 e33g)
  (cB 5 e33g)
  (q3t _)
  (q3t _)
  (cK 0 [.b] e34q)
  (cB 0 e34q)
  (cK 0 [.n] e35r)
  (cN 0 e35r)
  (cK 0 [.n] e36r)
  (cN 0 e36r)
  (q3t _)
  (h3i hw)
  (by show(b0.length:Int)≤3000;omega)
  true rfl
end Go.Proofs.Ytlambinleegdoaa.Vx
end
