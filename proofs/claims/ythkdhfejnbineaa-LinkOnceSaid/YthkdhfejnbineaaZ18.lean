import Derived.Shelf.RegionOpenPlain
import Derived.WalkKit
import Derived.OwnWalk
import Derived.Deep.LoopGhost
import Derived.Deep.RegionLaw
import Derived.Lib.Walk
import Derived.Lib.SliceRun
import Derived.Lib.SlicesDelete
import Derived.KernelRfl
import Derived.Test.YthkdhfejnbineaaProg
import Derived.Test.YthkdhfejnbineaaVxDel
import Derived.Test.YthkdhfejnbineaaVxAsk
import Derived.Test.YthkdhfejnbineaaZ13
import Derived.Test.YthkdhfejnbineaaVxFrz
import Derived.Test.YthkdhfejnbineaaVxAid
noncomputable section
namespace Go.Proofs.Ythkdhfejnbineaa.Vx
open Go Go.RowKit
set_option linter.unusedVariables false
set_option linter.unusedSimpArgs false
set_option maxRecDepth 100000
set_option maxHeartbeats 0
open Go Go.Shelf Go.RowKit Go.Lib
set_option maxHeartbeats 4000000 in
set_option maxRecDepth 1000000 in
theorem d4k (blk off cap L i j:Nat)(olds:List Value)(w:World)(ho:olds.length=L*1)(h1c: ∀u∈olds,u.oneCell'=true)
  (hH: ∀k u,olds[k]? =some u→w.cell? ⟨blk,off+k,none⟩=some u∧w.frozen? ⟨blk,off+k,none⟩=false)
  (hcap:L≤cap) (hij:i<j) (hj:j≤L):
  Calls Try.prog 33 #[.slice (some ⟨blk,off,none⟩) L cap,.int .i64 i,.int .i64 j] w fun e w'=>e=.returned (.slice (some ⟨blk,off,none⟩) (i+(L-j)) cap)∧
   w'=(w.drew.setCells blk (off+i*1) (olds.drop (j*1))).setCells blk (off+(i+(L-j))*1) (List.replicate ((L-(i+(L-j)))*1) (.slice none 0 0)):=by
 have mixed:Try.prog.follows .mixedOrders=true:=by kernel_rfl
 have t3:=Try.underlying3;have t4:=Try.underlying4;have t46:=Try.underlying46
 have i31:(Try.prog.info? 31).map (fun i=>(i.zero,i.size,i.bytes))=some (some (Value.slice none 0 0),1,24):=by kernel_rfl
 obtain⟨i0,hi0,hz0,hz1,hz2⟩:=info_parts i31
 obtain⟨news,hnews⟩: ∃news,news=olds.drop (j*1):=⟨_,rfl⟩
 have hlen:news.length=(L-j)*1:=by rw[hnews];simp[ho]
 obtain⟨A,hA,hsrc⟩: ∃A:Addr,(if cap=j then some (⟨blk,off,none⟩:Addr)else some ⟨blk,off+j,none⟩)=some A∧Hid (∀t u,news[t]? =some u→w.drew.cell? (A.add t)=some u):=by
  by_cases h:cap=j
  ·refine⟨⟨blk,off,none⟩,by simp[h],fun t u hu=> ?_⟩
   have h0:news.length=0:=by rw[hlen];omega
   rw[List.length_eq_zero_iff.1 h0]at hu
   simp at hu
  ·refine⟨⟨blk,off+j,none⟩,by simp[h],fun t u hu=> ?_⟩
   rw[hnews,List.getElem?_drop]at hu
   rw[Addr.add_lit,show off+j+t=off+(j*1+t) by omega]
   exact(hH _ _ hu).1
 have s1:Hid (news.length=(L-j)*1):=hlen
 have s2:Hid (∀u∈news,u.oneCell'=true):=fun u hu=>h1c u (List.mem_of_mem_drop (by rw[hnews]at hu;exact hu))
 have s3:Hid (∀t,t<news.length→(w.drew.cell? ⟨blk,off+i*1+t,none⟩).isSome=true∧w.drew.frozen? ⟨blk,off+i*1+t,none⟩=false):=by
  intro t ht
  rw[hlen]at ht
  have hlt:i*1+t<olds.length:=by omega
  obtain⟨k1,k2⟩:=hH (i*1+t) _ (List.getElem?_eq_getElem hlt)
  rw[Nat.add_assoc]
  exact⟨by show(w.cell? _).isSome=true;rw[k1];rfl,k2⟩
 obtain⟨W1,hW1⟩: ∃W1,W1=w.drew.setCells blk (off+i*1) news:=⟨_,rfl⟩
 have hcl: ∀ty,(Builtin.clear_ #[46] ty #[.slice (some ⟨blk,off+(i+(L-j)),none⟩) (L-(i+(L-j))) (cap-(i+(L-j)))]).run Try.prog W1=.ok (.tuple #[]) (W1.setCells blk (off+(i+(L-j))) (List.replicate (L-(i+(L-j))) (.slice none 0 0))):=by
  intro ty
  refine Lib.run_clear_slice W1 46 31 ty (.slice none 0 0) t46 (fun w=>by kernel_rfl) rfl rfl blk (off+(i+(L-j))) _ _ (by omega) (fun t ht=> ?_) (fun t ht=> ?_)
  all_goals
   have hlt:(i+(L-j))*1+t<olds.length:=by omega
   obtain⟨k1,k2⟩:=hH ((i+(L-j))*1+t) _ (List.getElem?_eq_getElem hlt)
   obtain⟨m1,m2⟩:=b4n (w:=w.drew) (o:=off+i*1) (l:=news) k1
   rw[hW1]
  ·rw[show off+(i+(L-j))+t=off+((i+(L-j))*1+t) by omega];exact m1
  ·rw[show off+(i+(L-j))+t=off+((i+(L-j))*1+t) by omega];exact m2.trans k2
 have X:Aside (w.drew.setCells blk (off+i*1) (olds.drop (j*1))=W1):=(hW1.trans (by rw[hnews])).symm
 have hW:Hid (W1=w.drew.setCells blk (off+i*1) news):=hW1
 have hic:i≤cap:=by omega
 have hjc:j≤cap:=by omega
 clear hW1 hH hnews hlen h1c ho
 go_enter Try.func33,Try.ntmps33
 go_wp2_with fail
 go_region_law_o (refine step_append_room rfl (.tmp 22) (.tmp 25) 46 rfl 31 i0 1 t46 hi0 hz1 blk off i cap (by simp[Act.eval,Act.put]) A (L-j) (cap-j) news (by simp[Act.eval,Act.put]) s1.out hsrc.out s2.out (by omega) s3.out ?_;rw[←hW.out])
 go_wp2
 go_ret
 exact⟨rfl,by rw[X.out,Nat.mul_one,Nat.mul_one]⟩
theorem del33:DelRun Try.prog 33 1:=fun blk off cap L i j olds w h1 h2 h3 h4 h5 h6=>(d4k blk off cap L i j olds w h1 h2 h3 h4 h5 h6).mono fun e w' ⟨e1,e2⟩=>⟨e1,_,List.length_replicate,e2⟩
abbrev t0c:Ty:=.pair (.int .u8) (.pair (.sl (.int .u8)) (.pair (.int .u8) (.pair (.int .u8) (.pair (.int .i64) (.pair (.int .i64) (.pair (.sl (.int .u8)) (.int .i64)))))))
def enB (h:Nat):PB:=.cells [.int .u8 h,.int .u8 (h+1),.int .i64 (h+2),.int .i64 (h+3),.nilsl,.int .i64 (h+4),.int .i64 (h+5)]
def mnB (h:Nat):PB:=.cells [.int .u8 h,.int .u8 (h+1),.int .i64 (h+2),.int .i64 (h+3),.int .i64 (h+4),.int .i64 (h+5)]
def cs_9A:FuncId→Option a0q:=e1c 8 [(BSh.of B9).k op_9] cs_33g
theorem y3u:CsOk Try.prog cs_9A:=csB u3m B9_ok
def v3d:FuncId→Option a0q:=a0s 13 ((BSh.of B13p).k j3c) cs_9A
theorem t3s:CsOk Try.prog v3d:=csA y3u y3i
def u3g:FuncId→Option a0q:=a0s 27 ((BSh.of B21p).k j3q) v3d
theorem s3m:CsOk Try.prog u3g:=csA t3s y3d
def y3p:FuncId→Option a0q:=a0s 29 ((BSh.of B32r).k h3q) u3g
theorem s3x:CsOk Try.prog y3p:=csA s3m y3k
def p3p:FuncId→Option a0q:=a0s 30 ((BSh.of B33g).k h3o) y3p
theorem l3k:CsOk Try.prog p3p:=csA s3x v3u
def S_e11:BSh:={args:=[.ptr 0 0,.own 1],blks:=[enB 0,.arr TB 6],log:=[0],outs:=[(.tup [.nilsl,.int .i64 0],[enB 1,.arr TB 7]),(.tup [.own 2,.int .i64 0],[enB 1,.arr TB 7,.arr TB 8])]}
def ev_e11:List Dat→Tree (Nat×List Dat):=evF p3p 11 ls0 S_e11
theorem e_e11: ∃op,IsF ev_e11 11 S_e11 op:=bxF l3k (LsOk.none _ _ _)
def op_e11:OpA:=opF e_e11
def v3t:FuncId→Option a0q:=e1c 11 [S_e11.k op_e11] p3p
theorem o3c:CsOk Try.prog v3t:=csA1 l3k e_e11
def S_m12:BSh:={args:=[.ptr 0 0,.str 0],blks:=[mnB 1],log:=[0],outs:=[(.tup [.nilsl,.int .i64 0],[mnB 1]),(.tup [.own 1,.int .i64 0],[mnB 1,.arr TB 7])]}
def ev_m12:List Dat→Tree (Nat×List Dat):=evF v3t 12 ls0 S_m12
theorem e_m12: ∃op,IsF ev_m12 12 S_m12 op:=bxF o3c (LsOk.none _ _ _)
def op_m12:OpA:=opF e_m12
def v3v:FuncId→Option a0q:=e1c 12 [S_m12.k op_m12] v3t
theorem n3k:CsOk Try.prog v3v:=csA1 o3c e_m12
def S_e14:BSh:={args:=[.ptr 0 0,.own 1],blks:=[enB 0,.arr TB 6],log:=[0],outs:=[(.tup [.nilsl,.int .i64 0],[enB 1,.arr TB 7]),(.tup [.own 2,.int .i64 0],[enB 1,.arr TB 7,.arr TB 8])]}
def ev_e14:List Dat→Tree (Nat×List Dat):=evF v3v 14 ls0 S_e14
theorem j3u: ∃op,IsF ev_e14 14 S_e14 op:=bxF n3k (LsOk.none _ _ _)
def h3e:OpA:=opF j3u
theorem w3q {n0 n1 n2 n3 n4 n5:Int}{l6:List (Ty.den TB)}{n7 n8 n9 n10 n11:Int}{l12:List (Ty.den TB)}(h0:(h3q [.l TB l6])=(some (0,[.n n7,.n n8,.n n9,.n n10,.n n11,.l TB l12])))(h1:(n11=(0:Int)))(h2:(n7=n1))(h3:(n8=n0))(h4:(¬n9≤n3))(h5:(n3>(0:Int)))(h6:(n10>n4))(h7:(n10≤IntKind.wrap .i64 (n2-(1:Int)))):h3e [.n n0,.n n1,.n n2,.n n3,.n n4,.n n5,.l TB l6]=some ((1,[.n (0:Int),.n n0,.n n1,.n n2,.n n9,.n n10,.n (IntKind.wrap .i64 (n5+IntKind.wrap .i64 (IntKind.wrap .i64 (n9-n3)-(1:Int)))),.l TB l6,.l TB l12])):=t2c j3u (sP [0]<|sA h0<|sP [1,1]<|sF (bnf h1)<|sF (bnf h2)<|sP [1]<|sF (bnf h3)<|sP [1,0,1]<|sF (df h4)<|sT (dt h5)<|sP [1]<|sT (dt h6)<|sP [1,0,1,1]<|sT (dt h7)<|sP [1]<|sL)
theorem x3h {n0 n1 n2 n3 n4 n5:Int}{l6:List (Ty.den TB)}{n7 n8 n9 n10 n11:Int}{l12:List (Ty.den TB)}(h0:(h3q [.l TB l6])=(some (0,[.n n7,.n n8,.n n9,.n n10,.n n11,.l TB l12])))(h1:(n11=(0:Int)))(h2:(n7=n1))(h3:(n8=n0))(h4:(¬n9≤n3))(h5:(n3>(0:Int)))(h6:(n10>n4))(h7:(¬n10≤IntKind.wrap .i64 (n2-(1:Int)))):h3e [.n n0,.n n1,.n n2,.n n3,.n n4,.n n5,.l TB l6]=some ((1,[.n (0:Int),.n n0,.n n1,.n n2,.n n9,.n n4,.n (IntKind.wrap .i64 (n5+IntKind.wrap .i64 (IntKind.wrap .i64 (n9-n3)-(1:Int)))),.l TB l6,.l TB l12])):=t2c j3u (sP [0]<|sA h0<|sP [1,1]<|sF (bnf h1)<|sF (bnf h2)<|sP [1]<|sF (bnf h3)<|sP [1,0,1]<|sF (df h4)<|sT (dt h5)<|sP [1]<|sT (dt h6)<|sP [1,0,1,1]<|sF (df h7)<|sP [1]<|sL)
theorem u3b {n0 n1 n2 n3 n4 n5:Int}{l6:List (Ty.den TB)}{n7 n8 n9 n10 n11:Int}{l12:List (Ty.den TB)}(h0:(h3q [.l TB l6])=(some (0,[.n n7,.n n8,.n n9,.n n10,.n n11,.l TB l12])))(h1:(n11=(0:Int)))(h2:(n7=n1))(h3:(n8=n0))(h4:(¬n9≤n3))(h5:(n3>(0:Int)))(h6:(¬n10>n4)):h3e [.n n0,.n n1,.n n2,.n n3,.n n4,.n n5,.l TB l6]=some ((1,[.n (0:Int),.n n0,.n n1,.n n2,.n n9,.n n4,.n (IntKind.wrap .i64 (n5+IntKind.wrap .i64 (IntKind.wrap .i64 (n9-n3)-(1:Int)))),.l TB l6,.l TB l12])):=t2c j3u (sP [0]<|sA h0<|sP [1,1]<|sF (bnf h1)<|sF (bnf h2)<|sP [1]<|sF (bnf h3)<|sP [1,0,1]<|sF (df h4)<|sT (dt h5)<|sP [1]<|sF (df h6)<|sP [0,1,0,1]<|sL)
theorem x3k {n0 n1 n2 n3 n4 n5:Int}{l6:List (Ty.den TB)}{n7 n8 n9 n10 n11:Int}{l12:List (Ty.den TB)}(h0:(h3q [.l TB l6])=(some (0,[.n n7,.n n8,.n n9,.n n10,.n n11,.l TB l12])))(h1:(n11=(0:Int)))(h2:(n7=n1))(h3:(n8=n0))(h4:(¬n9≤n3))(h5:(¬n3>(0:Int)))(h6:(n10>n4))(h7:(n10≤IntKind.wrap .i64 (n2-(1:Int)))):h3e [.n n0,.n n1,.n n2,.n n3,.n n4,.n n5,.l TB l6]=some ((1,[.n (0:Int),.n n0,.n n1,.n n2,.n n9,.n n10,.n n5,.l TB l6,.l TB l12])):=t2c j3u (sP [0]<|sA h0<|sP [1,1]<|sF (bnf h1)<|sF (bnf h2)<|sP [1]<|sF (bnf h3)<|sP [1,0,1]<|sF (df h4)<|sF (df h5)<|sT (dt h6)<|sP [1,0,1,1]<|sT (dt h7)<|sP [1]<|sL)
theorem u3a {n0 n1 n2 n3 n4 n5:Int}{l6:List (Ty.den TB)}{n7 n8 n9 n10 n11:Int}{l12:List (Ty.den TB)}(h0:(h3q [.l TB l6])=(some (0,[.n n7,.n n8,.n n9,.n n10,.n n11,.l TB l12])))(h1:(n11=(0:Int)))(h2:(n7=n1))(h3:(n8=n0))(h4:(¬n9≤n3))(h5:(¬n3>(0:Int)))(h6:(n10>n4))(h7:(¬n10≤IntKind.wrap .i64 (n2-(1:Int)))):h3e [.n n0,.n n1,.n n2,.n n3,.n n4,.n n5,.l TB l6]=some ((1,[.n (0:Int),.n n0,.n n1,.n n2,.n n9,.n n4,.n n5,.l TB l6,.l TB l12])):=t2c j3u (sP [0]<|sA h0<|sP [1,1]<|sF (bnf h1)<|sF (bnf h2)<|sP [1]<|sF (bnf h3)<|sP [1,0,1]<|sF (df h4)<|sF (df h5)<|sT (dt h6)<|sP [1,0,1,1]<|sF (df h7)<|sP [1]<|sL)
theorem x3y {n0 n1 n2 n3 n4 n5:Int}{l6:List (Ty.den TB)}{n7 n8 n9 n10 n11:Int}{l12:List (Ty.den TB)}(h0:(h3q [.l TB l6])=(some (0,[.n n7,.n n8,.n n9,.n n10,.n n11,.l TB l12])))(h1:(n11=(0:Int)))(h2:(n7=n1))(h3:(n8=n0))(h4:(¬n9≤n3))(h5:(¬n3>(0:Int)))(h6:(¬n10>n4)):h3e [.n n0,.n n1,.n n2,.n n3,.n n4,.n n5,.l TB l6]=some ((1,[.n (0:Int),.n n0,.n n1,.n n2,.n n9,.n n4,.n n5,.l TB l6,.l TB l12])):=t2c j3u (sP [0]<|sA h0<|sP [1,1]<|sF (bnf h1)<|sF (bnf h2)<|sP [1]<|sF (bnf h3)<|sP [1,0,1]<|sF (df h4)<|sF (df h5)<|sF (df h6)<|sP [0,1,0,1]<|sL)
def t3w:FuncId→Option a0q:=e1c 14 [S_e14.k h3e] v3v
theorem o3s:CsOk Try.prog t3w:=csA1 n3k j3u
def S_m15:BSh:={args:=[.ptr 0 0,.own 1],blks:=[mnB 0,.arr TB 6],log:=[0],outs:=[(.tup [.str 0,.int .i64 1],[mnB 2,.arr TB 8])]}
def ev_m15:List Dat→Tree (Nat×List Dat):=evF t3w 15 ls0 S_m15
theorem j3v: ∃op,IsF ev_m15 15 S_m15 op:=bxF o3s (LsOk.none _ _ _)
def h3d:OpA:=opF j3v
theorem u3p {n0 n1 n2 n3 n4 n5:Int}{l6:List (Ty.den TB)}{n7 n8 n9 n10:Int}{s11:ByteArray}{b12:Bool}(h0:(h3o [.l TB l6])=(some (0,[.n n7,.n n8,.n n9,.n n10,.s s11,.b b12])))(h1:(b12=true))(h2:(n7=n1))(h3:(n8=n0))(h4:(¬n9≤n3))(h5:(n3>(0:Int)))(h6:(n10>n4))(h7:(n10≤n2)):h3d [.n n0,.n n1,.n n2,.n n3,.n n4,.n n5,.l TB l6]=some ((0,[.s s11,.n (0:Int),.n n0,.n n1,.n n2,.n n9,.n n10,.n (IntKind.wrap .i64 (IntKind.wrap .i64 (IntKind.wrap .i64 (n5+n9)-n3)-(1:Int))),.l TB l6])):=t2c j3v (sA h0<|sP [1,1]<|sF (nt h1)<|sF (bnf h2)<|sP [1]<|sF (bnf h3)<|sP [1]<|sF (df h4)<|sT (dt h5)<|sP [1]<|sT (dt h6)<|sP [1]<|sT (dt h7)<|sP [1]<|sL)
theorem x3f {n0 n1 n2 n3 n4 n5:Int}{l6:List (Ty.den TB)}{n7 n8 n9 n10:Int}{s11:ByteArray}{b12:Bool}(h0:(h3o [.l TB l6])=(some (0,[.n n7,.n n8,.n n9,.n n10,.s s11,.b b12])))(h1:(b12=true))(h2:(n7=n1))(h3:(n8=n0))(h4:(¬n9≤n3))(h5:(n3>(0:Int)))(h6:(n10>n4))(h7:(¬n10≤n2)):h3d [.n n0,.n n1,.n n2,.n n3,.n n4,.n n5,.l TB l6]=some ((0,[.s s11,.n (0:Int),.n n0,.n n1,.n n2,.n n9,.n n4,.n (IntKind.wrap .i64 (IntKind.wrap .i64 (IntKind.wrap .i64 (n5+n9)-n3)-(1:Int))),.l TB l6])):=t2c j3v (sA h0<|sP [1,1]<|sF (nt h1)<|sF (bnf h2)<|sP [1]<|sF (bnf h3)<|sP [1]<|sF (df h4)<|sT (dt h5)<|sP [1]<|sT (dt h6)<|sP [1]<|sF (df h7)<|sP [1]<|sL)
theorem x3g {n0 n1 n2 n3 n4 n5:Int}{l6:List (Ty.den TB)}{n7 n8 n9 n10:Int}{s11:ByteArray}{b12:Bool}(h0:(h3o [.l TB l6])=(some (0,[.n n7,.n n8,.n n9,.n n10,.s s11,.b b12])))(h1:(b12=true))(h2:(n7=n1))(h3:(n8=n0))(h4:(¬n9≤n3))(h5:(n3>(0:Int)))(h6:(¬n10>n4)):h3d [.n n0,.n n1,.n n2,.n n3,.n n4,.n n5,.l TB l6]=some ((0,[.s s11,.n (0:Int),.n n0,.n n1,.n n2,.n n9,.n n4,.n (IntKind.wrap .i64 (IntKind.wrap .i64 (IntKind.wrap .i64 (n5+n9)-n3)-(1:Int))),.l TB l6])):=t2c j3v (sA h0<|sP [1,1]<|sF (nt h1)<|sF (bnf h2)<|sP [1]<|sF (bnf h3)<|sP [1]<|sF (df h4)<|sT (dt h5)<|sP [1]<|sF (df h6)<|sP [0,1,0,1]<|sL)
theorem x3z {n0 n1 n2 n3 n4 n5:Int}{l6:List (Ty.den TB)}{n7 n8 n9 n10:Int}{s11:ByteArray}{b12:Bool}(h0:(h3o [.l TB l6])=(some (0,[.n n7,.n n8,.n n9,.n n10,.s s11,.b b12])))(h1:(b12=true))(h2:(n7=n1))(h3:(n8=n0))(h4:(¬n9≤n3))(h5:(¬n3>(0:Int)))(h6:(n10>n4))(h7:(n10≤n2)):h3d [.n n0,.n n1,.n n2,.n n3,.n n4,.n n5,.l TB l6]=some ((0,[.s s11,.n (0:Int),.n n0,.n n1,.n n2,.n n9,.n n10,.n n5,.l TB l6])):=t2c j3v (sA h0<|sP [1,1]<|sF (nt h1)<|sF (bnf h2)<|sP [1]<|sF (bnf h3)<|sP [1]<|sF (df h4)<|sF (df h5)<|sT (dt h6)<|sP [1]<|sT (dt h7)<|sP [1]<|sL)
theorem y3b {n0 n1 n2 n3 n4 n5:Int}{l6:List (Ty.den TB)}{n7 n8 n9 n10:Int}{s11:ByteArray}{b12:Bool}(h0:(h3o [.l TB l6])=(some (0,[.n n7,.n n8,.n n9,.n n10,.s s11,.b b12])))(h1:(b12=true))(h2:(n7=n1))(h3:(n8=n0))(h4:(¬n9≤n3))(h5:(¬n3>(0:Int)))(h6:(n10>n4))(h7:(¬n10≤n2)):h3d [.n n0,.n n1,.n n2,.n n3,.n n4,.n n5,.l TB l6]=some ((0,[.s s11,.n (0:Int),.n n0,.n n1,.n n2,.n n9,.n n4,.n n5,.l TB l6])):=t2c j3v (sA h0<|sP [1,1]<|sF (nt h1)<|sF (bnf h2)<|sP [1]<|sF (bnf h3)<|sP [1]<|sF (df h4)<|sF (df h5)<|sT (dt h6)<|sP [1]<|sF (df h7)<|sP [1]<|sL)
theorem t3z {n0 n1 n2 n3 n4 n5:Int}{l6:List (Ty.den TB)}{n7 n8 n9 n10:Int}{s11:ByteArray}{b12:Bool}(h0:(h3o [.l TB l6])=(some (0,[.n n7,.n n8,.n n9,.n n10,.s s11,.b b12])))(h1:(b12=true))(h2:(n7=n1))(h3:(n8=n0))(h4:(¬n9≤n3))(h5:(¬n3>(0:Int)))(h6:(¬n10>n4)):h3d [.n n0,.n n1,.n n2,.n n3,.n n4,.n n5,.l TB l6]=some ((0,[.s s11,.n (0:Int),.n n0,.n n1,.n n2,.n n9,.n n4,.n n5,.l TB l6])):=t2c j3v (sA h0<|sP [1,1]<|sF (nt h1)<|sF (bnf h2)<|sP [1]<|sF (bnf h3)<|sP [1]<|sF (df h4)<|sF (df h5)<|sF (df h6)<|sP [0,1,0,1]<|sL)
def r3q:FuncId→Option a0q:=e1c 15 [S_m15.k h3d] t3w
theorem l3d:CsOk Try.prog r3q:=csA1 o3s j3v
abbrev TR:Ty:=.sl (.int .u8)
theorem c4h (f:List Dat→Option (Nat×List Dat)): ∃g:List Dat→Option (Nat×List Dat),∀env,g env=f env:=⟨f,fun _=>rfl⟩
def c4q:List Dat→Option (Nat×List Dat):=Classical.choose (c4h (a4x TR))
theorem b4y (env:List Dat):c4q env=a4x TR env:=Classical.choose_spec (c4h (a4x TR)) env
def Bdl:FBox:=mkF [.own 0,.int .i64 0,.int .i64 1] [.arr TR 2] [0] [(.own 0,[.arr TR 0])] c4q
theorem Bdl_ok:a0v Try.prog 33 (a0j Bdl):=by
 have e:c4q=a4x TR:=funext b4y
 unfold Bdl
 rw[e]
 exact del_ok del33 (fun l=>by kernel_rfl)
abbrev TS:Ty:=.str
def cs_dlA:FuncId→Option a0q:=e1c 33 [(BSh.of Bdl).k c4q] p3p
theorem c4p:CsOk Try.prog cs_dlA:=csB l3k Bdl_ok
def cs_31A:FuncId→Option a0q:=a0s 31 ((BSh.of B31).k i2m) cs_dlA
theorem c4n:CsOk Try.prog cs_31A:=csA c4p B31_ok
def a4t:FuncId→Option a0q:=csFrz 31 TB cs_31A
theorem a4o:CsOk Try.prog a4t:=d4s c4n
def S_pt:BSh:={args:=[.ptr 0 0,.own 1],blks:=[.cells [.own 2],.arr TB 0,.arr TR 1],log:=[0,2],outs:=[(.int .i64 0,[.cells [.own 2],.arr TB 1,.arr TR 2])]}
def ev_pt:List Dat→Tree (Nat×List Dat):=evF a4t 20 ls0 S_pt
theorem e_pt: ∃op,IsF ev_pt 20 S_pt op:=bxF a4o (LsOk.none _ _ _)
def a4s:OpA:=opF e_pt
theorem d4i {l0:List (Ty.den TB)}{l1:List (Ty.den TR)}(h0:((↑(List.length l1):Int)≥(64:Int))):a4s [.l TB l0,.l TR l1]=some ((0,[.n (3:Int),.l TB l0,.l TR l1])):=t2c e_pt (sP [0]<|sT (dt h0)<|sP [1]<|sL)
theorem d4l {l0:List (Ty.den TB)}{l1:List (Ty.den TR)}{l2:List (Ty.den TB)}(h0:(¬(↑(List.length l1):Int)≥(64:Int)))(h1:(i2m [.l TB l0])=(some (0,[.l TB l2]))):a4s [.l TB l0,.l TR l1]=some ((0,[.n (0:Int),.l TB l0,.l TR (apL l1 [l2])])):=t2c e_pt (sP [0]<|sF (df h0)<|sA h1<|sP [1,1]<|sTo (c:=(decide ((List.length l1+1)*24≤140737488355328)))<|sP [1,1]<|sL)
def S_pi:BSh:={args:=[.ptr 0 0,.imm TB 0],blks:=[.cells [.own 1],.arr TR 1],log:=[0,1],outs:=[(.int .i64 0,[.cells [.own 1],.arr TR 1])]}
def ev_pi:List Dat→Tree (Nat×List Dat):=evF a4t 20 ls0 S_pi
theorem e_pi: ∃op,IsF ev_pi 20 S_pi op:=bxF a4o (LsOk.none _ _ _)
def c4o:OpA:=opF e_pi
theorem d4o {l0:List (Ty.den TB)}{l1:List (Ty.den TR)}(h0:((↑(List.length l1):Int)≥(64:Int))):c4o [.l TB l0,.l TR l1]=some ((0,[.n (3:Int),.l TR l1])):=t2c e_pi (sP [0]<|sT (dt h0)<|sP [1]<|sL)
theorem d4h {l0:List (Ty.den TB)}{l1:List (Ty.den TR)}{l2:List (Ty.den TB)}(h0:(¬(↑(List.length l1):Int)≥(64:Int)))(h1:(i2m [.l TB l0])=(some (0,[.l TB l2]))):c4o [.l TB l0,.l TR l1]=some ((0,[.n (0:Int),.l TR (apL l1 [l2])])):=t2c e_pi (sP [0]<|sF (df h0)<|sA h1<|sP [1,1]<|sTo (c:=(decide ((List.length l1+1)*24≤140737488355328)))<|sP [1,1]<|sL)
def cs_pi:FuncId→Option a0q:=e1c 20 [S_pt.k a4s,S_pi.k c4o] a4t
theorem b4u:CsOk Try.prog cs_pi:=h0a a4o fun B hB=>by
 simp only[List.mem_cons,List.not_mem_nil,or_false]at hB
 rcases hB with rfl|rfl
 ·exact c4a e_pt
 ·exact c4a e_pi
def S_tk:BSh:={args:=[.ptr 0 0,.int .i64 0],blks:=[.cells [.own 1],.arr TR 1],log:=[0,1],outs:=[(.tup [.nilsl,.int .i64 0],[.cells [.own 1],.arr TR 1]),(.tup [.imm TB 0,.int .i64 1],[.cells [.own 1],.arr TR 2])]}
def ev_tk:List Dat→Tree (Nat×List Dat):=evF cs_pi 21 ls0 S_tk
theorem e_tk: ∃op,IsF ev_tk 21 S_tk op:=bxF b4u (LsOk.none _ _ _)
def a4l:OpA:=opF e_tk
theorem d4r {n0:Int}{l1:List (Ty.den TR)}(h0:(n0≥(0:Int)))(h1:(¬n0<(↑(List.length l1):Int))):a4l [.n n0,.l TR l1]=some ((0,[.n (5:Int),.l TR l1])):=t2c e_tk (sP [0,1]<|sT (dt h0)<|sP [1]<|sT (nf (df h1))<|sP [1]<|sL)
theorem d4g {n0:Int}{l1 l2:List (Ty.den TR)}(h0:(n0≥(0:Int)))(h1:(n0<(↑(List.length l1):Int)))(h2:(c4q [.n n0,.n (IntKind.wrap .i64 (n0+(1:Int))),.l TR l1])=(some (0,[.l TR l2]))):a4l [.n n0,.l TR l1]=some ((1,[.l TB (List.getD l1 (Int.toNat n0) (Ty.dflt TR)),.n (0:Int),.l TR l2])):=t2c e_tk (sP [0,1]<|sT (dt h0)<|sP [1]<|sF (nt (dt h1))<|sTo (c:=(inR n0 (List.length l1)))<|sP [1]<|sA h2<|sP [1,1,1]<|sL)
theorem d4b {n0:Int}{l1:List (Ty.den TR)}(h0:(¬n0≥(0:Int))):a4l [.n n0,.l TR l1]=some ((0,[.n (5:Int),.l TR l1])):=t2c e_tk (sP [0,1]<|sF (df h0)<|sP [0,1,1,1]<|sL)
def cs_tk:FuncId→Option a0q:=e1c 21 [S_tk.k a4l] cs_pi
theorem b4v:CsOk Try.prog cs_tk:=csA1 b4u e_tk
def S_db:BSh:={args:=[.ptr 0 0,.int .i64 0],blks:=[.cells [.own 1],.arr TR 1],log:=[0,1],outs:=[(.int .i64 0,[.cells [.own 1],.arr TR 1])]}
def ev_db:List Dat→Tree (Nat×List Dat):=evF cs_tk 22 ls0 S_db
theorem e_db: ∃op,IsF ev_db 22 S_db op:=bxF b4v (LsOk.none _ _ _)
def c4c:OpA:=opF e_db
theorem d4d {n0:Int}{l1:List (Ty.den TR)}(h0:(n0≥(0:Int)))(h1:(¬n0<(↑(List.length l1):Int))):c4c [.n n0,.l TR l1]=some ((0,[.n (5:Int),.l TR l1])):=t2c e_db (sP [0,1]<|sT (dt h0)<|sP [1]<|sT (nf (df h1))<|sP [1]<|sL)
theorem d4m {n0:Int}{l1:List (Ty.den TR)}{n2:Int}{l3:List (Ty.den TR)}(h0:(n0≥(0:Int)))(h1:(n0<(↑(List.length l1):Int)))(h2:(c4o [.l TB (List.getD l1 (Int.toNat n0) (Ty.dflt TR)),.l TR l1])=(some (0,[.n n2,.l TR l3]))):c4c [.n n0,.l TR l1]=some ((0,[.n n2,.l TR l3])):=t2c e_db (sP [0,1]<|sT (dt h0)<|sP [1]<|sF (nt (dt h1))<|sTo (c:=(inR n0 (List.length l1)))<|sP [1]<|sA h2<|sP [1,1,1]<|sL)
theorem d4n {n0:Int}{l1:List (Ty.den TR)}(h0:(¬n0≥(0:Int))):c4c [.n n0,.l TR l1]=some ((0,[.n (5:Int),.l TR l1])):=t2c e_db (sP [0,1]<|sF (df h0)<|sP [0,1,1,1]<|sL)
def cs_db:FuncId→Option a0q:=e1c 22 [S_db.k c4c] cs_tk
theorem b4w:CsOk Try.prog cs_db:=csA1 b4v e_db
def S_ei:BSh:={args:=[.ptr 0 0,.imm TB 0],blks:=[enB 1],log:=[0],outs:=[(.tup [.nilsl,.int .i64 0],[enB 1]),(.tup [.own 1,.int .i64 0],[enB 1,.arr TB 7])]}
def ev_ei:List Dat→Tree (Nat×List Dat):=evF cs_db 11 ls0 S_ei
theorem e_ei: ∃op,IsF ev_ei 11 S_ei op:=bxF b4w (LsOk.none _ _ _)
def a4n:OpA:=opF e_ei
theorem d4p {l0:List (Ty.den TB)}{n1 n2 n3 n4 n5 n6:Int}(h0:((↑(List.length l0):Int)>(2048:Int))):a4n [.l TB l0,.n n1,.n n2,.n n3,.n n4,.n n5,.n n6]=some ((0,[.n (3:Int),.n n1,.n n2,.n n3,.n n4,.n n5,.n n6])):=t2c e_ei (sP [0]<|sT (dt h0)<|sP [1,1,1]<|sL)
theorem c4x {l0:List (Ty.den TB)}{n1 n2 n3 n4 n5 n6:Int}{l7:List (Ty.den TB)}(h0:(¬(↑(List.length l0):Int)>(2048:Int)))(h1:(¬n3>(4611686018427387904:Int)))(h2:(j3c [.n n1,.n n2,.n n3,.n n4,.l TB l0])=(some (0,[.l TB l7]))):a4n [.l TB l0,.n n1,.n n2,.n n3,.n n4,.n n5,.n n6]=some ((1,[.n (0:Int),.n n1,.n n2,.n (IntKind.wrap .i64 (n3+(1:Int))),.n n4,.n n5,.n n6,.l TB l7])):=t2c e_ei (sP [0]<|sF (df h0)<|sF (df h1)<|sA h2<|sP [1,1,1]<|sL)
def cs_ei:FuncId→Option a0q:=e1c 11 [S_ei.k a4n] cs_db
theorem b4x:CsOk Try.prog cs_ei:=csA1 b4w e_ei
def S_hi:BSh:={args:=[.ptr 0 0,.imm TB 0],blks:=[enB 1],log:=[0],outs:=[(.tup [.nilsl,.int .i64 0],[enB 1]),(.tup [.own 1,.int .i64 0],[enB 1,.arr TB 7])]}
def ev_hi:List Dat→Tree (Nat×List Dat):=evF cs_ei 14 ls0 S_hi
theorem e_hi: ∃op,IsF ev_hi 14 S_hi op:=bxF b4x (LsOk.none _ _ _)
def a4m:OpA:=opF e_hi
theorem d4c {l0:List (Ty.den TB)}{n1 n2 n3 n4 n5 n6 n7 n8 n9 n10 n11:Int}{l12:List (Ty.den TB)}(h0:(h3q [.l TB l0])=(some (0,[.n n7,.n n8,.n n9,.n n10,.n n11,.l TB l12])))(h1:(n11=(0:Int)))(h2:(n7=n2))(h3:(n8=n1))(h4:(n9≤n4)):a4m [.l TB l0,.n n1,.n n2,.n n3,.n n4,.n n5,.n n6]=some ((0,[.n (180:Int),.n n1,.n n2,.n n3,.n n4,.n n5,.n n6])):=t2c e_hi (sP [0]<|sA h0<|sP [1,1]<|sF (bnf h1)<|sF (bnf h2)<|sP [1]<|sF (bnf h3)<|sP [1,0,1]<|sT (dt h4)<|sP [1]<|sL)
theorem d4f {l0:List (Ty.den TB)}{n1 n2 n3 n4 n5 n6 n7 n8 n9 n10 n11:Int}{l12:List (Ty.den TB)}(h0:(h3q [.l TB l0])=(some (0,[.n n7,.n n8,.n n9,.n n10,.n n11,.l TB l12])))(h1:(n11=(0:Int)))(h2:(n7=n2))(h3:(n8=n1))(h4:(¬n9≤n4))(h5:(n4>(0:Int)))(h6:(n10>n5))(h7:(n10≤IntKind.wrap .i64 (n3-(1:Int)))):a4m [.l TB l0,.n n1,.n n2,.n n3,.n n4,.n n5,.n n6]=some ((1,[.n (0:Int),.n n1,.n n2,.n n3,.n n9,.n n10,.n (IntKind.wrap .i64 (n6+IntKind.wrap .i64 (IntKind.wrap .i64 (n9-n4)-(1:Int)))),.l TB l12])):=t2c e_hi (sP [0]<|sA h0<|sP [1,1]<|sF (bnf h1)<|sF (bnf h2)<|sP [1]<|sF (bnf h3)<|sP [1,0,1]<|sF (df h4)<|sT (dt h5)<|sP [1]<|sT (dt h6)<|sP [1,0,1,1]<|sT (dt h7)<|sP [1]<|sL)
theorem c4u {l0:List (Ty.den TB)}{n1 n2 n3 n4 n5 n6 n7 n8 n9 n10 n11:Int}{l12:List (Ty.den TB)}(h0:(h3q [.l TB l0])=(some (0,[.n n7,.n n8,.n n9,.n n10,.n n11,.l TB l12])))(h1:(n11=(0:Int)))(h2:(n7=n2))(h3:(n8=n1))(h4:(¬n9≤n4))(h5:(n4>(0:Int)))(h6:(n10>n5))(h7:(¬n10≤IntKind.wrap .i64 (n3-(1:Int)))):a4m [.l TB l0,.n n1,.n n2,.n n3,.n n4,.n n5,.n n6]=some ((1,[.n (0:Int),.n n1,.n n2,.n n3,.n n9,.n n5,.n (IntKind.wrap .i64 (n6+IntKind.wrap .i64 (IntKind.wrap .i64 (n9-n4)-(1:Int)))),.l TB l12])):=t2c e_hi (sP [0]<|sA h0<|sP [1,1]<|sF (bnf h1)<|sF (bnf h2)<|sP [1]<|sF (bnf h3)<|sP [1,0,1]<|sF (df h4)<|sT (dt h5)<|sP [1]<|sT (dt h6)<|sP [1,0,1,1]<|sF (df h7)<|sP [1]<|sL)
theorem c4z {l0:List (Ty.den TB)}{n1 n2 n3 n4 n5 n6 n7 n8 n9 n10 n11:Int}{l12:List (Ty.den TB)}(h0:(h3q [.l TB l0])=(some (0,[.n n7,.n n8,.n n9,.n n10,.n n11,.l TB l12])))(h1:(n11=(0:Int)))(h2:(n7=n2))(h3:(n8=n1))(h4:(¬n9≤n4))(h5:(n4>(0:Int)))(h6:(¬n10>n5)):a4m [.l TB l0,.n n1,.n n2,.n n3,.n n4,.n n5,.n n6]=some ((1,[.n (0:Int),.n n1,.n n2,.n n3,.n n9,.n n5,.n (IntKind.wrap .i64 (n6+IntKind.wrap .i64 (IntKind.wrap .i64 (n9-n4)-(1:Int)))),.l TB l12])):=t2c e_hi (sP [0]<|sA h0<|sP [1,1]<|sF (bnf h1)<|sF (bnf h2)<|sP [1]<|sF (bnf h3)<|sP [1,0,1]<|sF (df h4)<|sT (dt h5)<|sP [1]<|sF (df h6)<|sP [0,1,0,1]<|sL)
theorem c4y {l0:List (Ty.den TB)}{n1 n2 n3 n4 n5 n6 n7 n8 n9 n10 n11:Int}{l12:List (Ty.den TB)}(h0:(h3q [.l TB l0])=(some (0,[.n n7,.n n8,.n n9,.n n10,.n n11,.l TB l12])))(h1:(n11=(0:Int)))(h2:(n7=n2))(h3:(n8=n1))(h4:(¬n9≤n4))(h5:(¬n4>(0:Int)))(h6:(n10>n5))(h7:(n10≤IntKind.wrap .i64 (n3-(1:Int)))):a4m [.l TB l0,.n n1,.n n2,.n n3,.n n4,.n n5,.n n6]=some ((1,[.n (0:Int),.n n1,.n n2,.n n3,.n n9,.n n10,.n n6,.l TB l12])):=t2c e_hi (sP [0]<|sA h0<|sP [1,1]<|sF (bnf h1)<|sF (bnf h2)<|sP [1]<|sF (bnf h3)<|sP [1,0,1]<|sF (df h4)<|sF (df h5)<|sT (dt h6)<|sP [1,0,1,1]<|sT (dt h7)<|sP [1]<|sL)
theorem d4q {l0:List (Ty.den TB)}{n1 n2 n3 n4 n5 n6 n7 n8 n9 n10 n11:Int}{l12:List (Ty.den TB)}(h0:(h3q [.l TB l0])=(some (0,[.n n7,.n n8,.n n9,.n n10,.n n11,.l TB l12])))(h1:(n11=(0:Int)))(h2:(n7=n2))(h3:(n8=n1))(h4:(¬n9≤n4))(h5:(¬n4>(0:Int)))(h6:(n10>n5))(h7:(¬n10≤IntKind.wrap .i64 (n3-(1:Int)))):a4m [.l TB l0,.n n1,.n n2,.n n3,.n n4,.n n5,.n n6]=some ((1,[.n (0:Int),.n n1,.n n2,.n n3,.n n9,.n n5,.n n6,.l TB l12])):=t2c e_hi (sP [0]<|sA h0<|sP [1,1]<|sF (bnf h1)<|sF (bnf h2)<|sP [1]<|sF (bnf h3)<|sP [1,0,1]<|sF (df h4)<|sF (df h5)<|sT (dt h6)<|sP [1,0,1,1]<|sF (df h7)<|sP [1]<|sL)
theorem d4j {l0:List (Ty.den TB)}{n1 n2 n3 n4 n5 n6 n7 n8 n9 n10 n11:Int}{l12:List (Ty.den TB)}(h0:(h3q [.l TB l0])=(some (0,[.n n7,.n n8,.n n9,.n n10,.n n11,.l TB l12])))(h1:(n11=(0:Int)))(h2:(n7=n2))(h3:(n8=n1))(h4:(¬n9≤n4))(h5:(¬n4>(0:Int)))(h6:(¬n10>n5)):a4m [.l TB l0,.n n1,.n n2,.n n3,.n n4,.n n5,.n n6]=some ((1,[.n (0:Int),.n n1,.n n2,.n n3,.n n9,.n n5,.n n6,.l TB l12])):=t2c e_hi (sP [0]<|sA h0<|sP [1,1]<|sF (bnf h1)<|sF (bnf h2)<|sP [1]<|sF (bnf h3)<|sP [1,0,1]<|sF (df h4)<|sF (df h5)<|sF (df h6)<|sP [0,1,0,1]<|sL)
def cs_hi:FuncId→Option a0q:=e1c 14 [S_hi.k a4m] cs_ei
theorem c4w:CsOk Try.prog cs_hi:=csA1 b4x e_hi
def R_l7_5:LSh:={K:=0,log:=[],ins:=[(sh 53 [(0,.imm t0c 0),(3,.int .i64 1),(4,.int .i64 2)],[])],nils:=[],outs:=[(.exit 0,sh 53 [(3,.int .i64 0)],[]),(.ret,sh 53 [(2,.bool 0)],[])],cv:=[]}
def i3a:List Dat→Tree Step:=evL r3q 7 5 ls0 R_l7_5
theorem r3e: ∃op,IsL i3a 7 5 R_l7_5 op:=bxL l3d (LsOk.none _ _ _)
def p3o:OpA:=opL r3e
theorem l3n (env:List Dat):p3o env=a0b i3a FU env:=x3n r3e env
abbrev Bx_l7_5:MBox:=boxL r3e
theorem s3z {l0:List (Ty.den t0c)}{n1 n2:Int}(g0:0≤n2)(h0:(n2<(↑(List.length l0):Int)))(h1:((↑(List.length (Prod.fst (Prod.snd (List.getD l0 (Int.toNat n2) (Ty.dflt t0c))))):Int)>IntKind.wrap .i64 ((6000:Int)-n1))):(i3a [.k 0,.l t0c l0,.n n1,.n n2]).sel=some (Step.stop 1 [.b true]):=sP [1]<|sT (dt h0)<|sTo (c:=(inR n2 (List.length l0)))<|sT (dt h1)<|sP [1,1,1]<|sL
theorem s3r {l0:List (Ty.den t0c)}{n1 n2:Int}(g0:0≤n2)(h0:(n2<(↑(List.length l0):Int)))(h1:(¬(↑(List.length (Prod.fst (Prod.snd (List.getD l0 (Int.toNat n2) (Ty.dflt t0c))))):Int)>IntKind.wrap .i64 ((6000:Int)-n1)))(h2:((↑(List.length (Prod.fst (Prod.snd (Prod.snd (Prod.snd (Prod.snd (Prod.snd (Prod.snd (List.getD l0 (Int.toNat n2) (Ty.dflt t0c)))))))))):Int)>IntKind.wrap .i64 ((6000:Int)-n1))):(i3a [.k 0,.l t0c l0,.n n1,.n n2]).sel=some (Step.stop 1 [.b true]):=sP [1]<|sT (dt h0)<|sTo (c:=(inR n2 (List.length l0)))<|sF (df h1)<|sTo (c:=(inR n2 (List.length l0)))<|sT (dt h2)<|sP [1]<|sL
theorem t3n {l0:List (Ty.den t0c)}{n1 n2:Int}(g0:0≤n2)(h0:(n2<(↑(List.length l0):Int)))(h1:(¬(↑(List.length (Prod.fst (Prod.snd (List.getD l0 (Int.toNat n2) (Ty.dflt t0c))))):Int)>IntKind.wrap .i64 ((6000:Int)-n1)))(h2:(¬(↑(List.length (Prod.fst (Prod.snd (Prod.snd (Prod.snd (Prod.snd (Prod.snd (Prod.snd (List.getD l0 (Int.toNat n2) (Ty.dflt t0c)))))))))):Int)>IntKind.wrap .i64 ((6000:Int)-n1))):(i3a [.k 0,.l t0c l0,.n n1,.n n2]).sel=some (Step.go [.k 0,.l t0c l0,.n (IntKind.wrap .i64 (IntKind.wrap .i64 (n1+(↑(List.length (Prod.fst (Prod.snd (List.getD l0 (Int.toNat n2) (Ty.dflt t0c))))):Int))+(↑(List.length (Prod.fst (Prod.snd (Prod.snd (Prod.snd (Prod.snd (Prod.snd (Prod.snd (List.getD l0 (Int.toNat n2) (Ty.dflt t0c)))))))))):Int))),.n (IntKind.wrap .i64 (n2+(1:Int)))]):=sP [1]<|sT (dt h0)<|sTo (c:=(inR n2 (List.length l0)))<|sF (df h1)<|sTo (c:=(inR n2 (List.length l0)))<|sF (df h2)<|sTo (c:=(inR n2 (List.length l0)))<|sTo (c:=(inR n2 (List.length l0)))<|sP [1,1]<|sL
theorem s3w {l0:List (Ty.den t0c)}{n1 n2:Int}(g0:0≤n2)(h0:(¬n2<(↑(List.length l0):Int))):(i3a [.k 0,.l t0c l0,.n n1,.n n2]).sel=some (Step.stop 0 [.n n1]):=sP [1]<|sF (df h0)<|sP [1]<|sL
def S_l7:BSh:={args:=[.imm t0c 0],blks:=[],log:=[],outs:=[(.bool 0,[])]}
def ev_l7:List Dat→Tree (Nat×List Dat):=evF r3q 7 (lsM [(5,Bx_l7_5)] 0) S_l7
theorem e_l7: ∃op,IsF ev_l7 7 S_l7 op:=bxF l3d (lsE (lsC (q3c r3e) (atF) lsZ))
def l3j:OpA:=opF e_l7
theorem y3w {l0:List (Ty.den t0c)}(h0:((↑(List.length l0):Int)>(200:Int))):l3j [.l t0c l0]=some ((0,[.b true])):=t2c e_l7 (sT (dt h0)<|sP [1]<|sL)
theorem z3g {l0:List (Ty.den t0c)}{n1:Int}(h0:(¬(↑(List.length l0):Int)>(200:Int)))(h1:(p3o [.k 0,.l t0c l0,.n (0:Int),.n (0:Int)])=(some (0,[.n n1]))):l3j [.l t0c l0]=some ((0,[.b (decide (n1>(6000:Int)))])):=t2c e_l7 (sF (df h0)<|sA h1<|sP [1,1]<|sL)
theorem y3r {l0:List (Ty.den t0c)}{b1:Bool}(h0:(¬(↑(List.length l0):Int)>(200:Int)))(h1:(p3o [.k 0,.l t0c l0,.n (0:Int),.n (0:Int)])=(some (1,[.b b1]))):l3j [.l t0c l0]=some ((0,[.b b1])):=t2c e_l7 (sF (df h0)<|sA h1<|sP [0,1,1]<|sL)
def b4r:FuncId→Option a0q:=a0s 7 (S_l7.k l3j) cs_hi
theorem a4p:CsOk Try.prog b4r:=csL1 c4w e_l7
def R_4_44:LSh:={K:=0,log:=[],ins:=[(sh 195 [(0,.imm t0c 0),(5,.ptr 0 0),(7,.ptr 1 0),(8,.ptr 2 0),(9,.own 3),(10,.int .i64 1),(11,.int .i64 2),(12,.int .i64 3),(20,.ptr 4 0),(22,.int .i64 4)],[enB 5,.cells [.own 5],.cells [.own 6],.arr TS 11,enB 12,.arr TR 18,.arr TR 19])],nils:=[(9,TS)],outs:=[(.exit 3,sh 195 [(0,.imm t0c 0),(5,.ptr 0 0),(7,.ptr 1 0),(8,.ptr 2 0),(9,.own 3),(10,.int .i64 1),(11,.int .i64 2),(12,.int .i64 3),(20,.ptr 4 0)],[enB 4,.cells [.own 5],.cells [.own 6],.arr TS 10,enB 11,.arr TR 17,.arr TR 18])],cv:=[]}
def a4q:List Dat→Tree Step:=evL b4r 4 44 ls0 R_4_44
theorem b4s: ∃op,IsL a4q 4 44 R_4_44 op:=bxL a4p (LsOk.none _ _ _)
def c4k:OpA:=opL b4s
theorem c4e (env:List Dat):c4k env=a0b a4q FU env:=x3n b4s env
abbrev Bx_4_44:MBox:=boxL b4s
theorem c4b {l0:List (Ty.den t0c)}{n1 n2 n3 n4 n5 n6 n7 n8 n9 n10:Int}{l11:List (Ty.den TS)}{n12 n13 n14 n15 n16 n17:Int}{l18 l19:List (Ty.den TR)}(g0:l11.length≤100000)(h0:(n4<n2)):(a4q [.k 0,.l t0c l0,.n n1,.n n2,.n n3,.n n4,.n n5,.n n6,.n n7,.n n8,.n n9,.n n10,.l TS l11,.n n12,.n n13,.n n14,.n n15,.n n16,.n n17,.l TR l18,.l TR l19]).sel=some (Step.go [.k 0,.l t0c l0,.n n1,.n n2,.n n3,.n (IntKind.wrap .i64 (n4+(1:Int))),.n n5,.n n6,.n n7,.n n8,.n n9,.n n10,.l TS (l11++[{data:={toList:=[(110:UInt8),(111:UInt8),(110:UInt8),(101:UInt8)]}}]),.n n12,.n n13,.n n14,.n n15,.n n16,.n n17,.l TR l18,.l TR l19]):=sP [1]<|sT (dt h0)<|sTo (c:=(decide ((List.length l11+1)*16≤140737488355328)))<|sP [1]<|sL
theorem c4f {l0:List (Ty.den t0c)}{n1 n2 n3 n4 n5 n6 n7 n8 n9 n10:Int}{l11:List (Ty.den TS)}{n12 n13 n14 n15 n16 n17:Int}{l18 l19:List (Ty.den TR)}(g0:l11.length≤100000)(h0:(¬n4<n2)):(a4q [.k 0,.l t0c l0,.n n1,.n n2,.n n3,.n n4,.n n5,.n n6,.n n7,.n n8,.n n9,.n n10,.l TS l11,.n n12,.n n13,.n n14,.n n15,.n n16,.n n17,.l TR l18,.l TR l19]).sel=some (Step.stop 0 [.l t0c l0,.n n1,.n n2,.n n3,.n n5,.n n6,.n n7,.n n8,.n n9,.n n10,.l TS l11,.n n12,.n n13,.n n14,.n n15,.n n16,.n n17,.l TR l18,.l TR l19]):=sP [1]<|sF (df h0)<|sP [1]<|sL
def R_4_12:LSh:={K:=0,log:=[],ins:=[(sh 195 [(0,.imm t0c 0),(3,.ptr 0 0),(5,.ptr 1 0),(7,.ptr 2 0),(8,.ptr 3 0),(9,.own 4),(10,.int .i64 1),(12,.int .i64 2)],[enB 3,enB 9,.cells [.own 5],.cells [.own 6],.arr TS 15,.arr TR 16,.arr TR 17])],nils:=[(9,TS)],outs:=[(.exit 0,sh 195 [(5,.ptr 0 0)],[enB 0]),(.ret,sh 195 [(2,.bool 0)],[])],cv:=[(7,[],0,.own TR),(8,[],0,.own TR)]}
def a4k:List Dat→Tree Step:=evL b4r 4 12 (lsM [(44,Bx_4_44)] 0) R_4_12
theorem b4t: ∃op,IsL a4k 4 12 R_4_12 op:=bxL a4p (lsE (lsC (q3c b4s) (by kernel_rfl) lsZ))
def c4m:OpA:=opL b4t
theorem c4g (env:List Dat):c4m env=a0b a4k FU env:=x3n b4t env
abbrev Bx_4_12:MBox:=boxL b4t
theorem b4l {l0:List (Ty.den t0c)}{n1 n2 n3 n4 n5 n6 n7 n8 n9 n10:Int}{l11:List (Ty.den TS)}{l12 l13:List (Ty.den TR)}(g0:0≤n2)(g1:n2<(l0.length:Int))(g2:l11.length≤100000)(g3:Int.tmod (Prod.fst (List.getD l0 (Int.toNat n2) (Ty.dflt t0c))) 8=0)(g4:a4n [.l TB (Prod.fst (Prod.snd (List.getD l0 (Int.toNat n2) (Ty.dflt t0c)))),.n 1,.n 2,.n n3,.n n4,.n n5,.n n6]=some (0,[.n 3,.n 1,.n 2,.n n3,.n n4,.n n5,.n n6])):(a4k [.k 0,.l t0c l0,.n n1,.n n2,.n 1,.n 2,.n n3,.n n4,.n n5,.n n6,.n 2,.n 1,.n n7,.n n8,.n n9,.n n10,.l TS l11,.l TR l12,.l TR l13]).sel=some (Step.go [.k 0,.l t0c l0,.n n1,.n (IntKind.wrap .i64 (n2+(1:Int))),.n (1:Int),.n (2:Int),.n n3,.n n4,.n n5,.n n6,.n (2:Int),.n (1:Int),.n n7,.n n8,.n n9,.n n10,.l TS l11,.l TR l12,.l TR l13]):=sP [1]<|sTs (c:=(decide (n2<(↑(List.length l0):Int))))<|sTo (c:=(inR n2 (List.length l0)))<|sP [1]<|sTs (c:=(Int.tmod (Prod.fst (List.getD l0 (Int.toNat n2) (Ty.dflt t0c))) (8:Int)==(0:Int)))<|sTs (c:=(Int.tmod (Prod.fst (List.getD l0 (Int.toNat n2) (Ty.dflt t0c))) (8:Int)==(0:Int)))<|sP [1]<|sA g4<|sP [1,1,1,1]<|sL
theorem b4b {l0:List (Ty.den t0c)}{n1 n2 n3 n4 n5 n6 n7 n8 n9 n10:Int}{l11:List (Ty.den TS)}{l12 l13:List (Ty.den TR)}{n14:Int}{l15:List (Ty.den TB)}{n16:Int}{l17:List (Ty.den TR)}(g0:0≤n2)(g1:n2<(l0.length:Int))(g2:l11.length≤100000)(g3:Int.tmod (Prod.fst (List.getD l0 (Int.toNat n2) (Ty.dflt t0c))) 8=0)(g4:a4n [.l TB (Prod.fst (Prod.snd (List.getD l0 (Int.toNat n2) (Ty.dflt t0c)))),.n 1,.n 2,.n n3,.n n4,.n n5,.n n6]=some (1,[.n 0,.n 1,.n 2,.n n14,.n n4,.n n5,.n n6,.l TB l15]))(g5:a4s [.l TB l15,.l TR l12]=some (0,[.n n16,.l TB l15,.l TR l17])):(a4k [.k 0,.l t0c l0,.n n1,.n n2,.n 1,.n 2,.n n3,.n n4,.n n5,.n n6,.n 2,.n 1,.n n7,.n n8,.n n9,.n n10,.l TS l11,.l TR l12,.l TR l13]).sel=some (Step.go [.k 0,.l t0c l0,.n n1,.n (IntKind.wrap .i64 (n2+(1:Int))),.n (1:Int),.n (2:Int),.n n14,.n n4,.n n5,.n n6,.n (2:Int),.n (1:Int),.n n7,.n n8,.n n9,.n n10,.l TS (l11++[r2b (Prod.fst (Prod.snd (List.getD l0 (Int.toNat n2) (Ty.dflt t0c))))]),.l TR l17,.l TR l13]):=sP [1]<|sTs (c:=(decide (n2<(↑(List.length l0):Int))))<|sTo (c:=(inR n2 (List.length l0)))<|sP [1]<|sTs (c:=(Int.tmod (Prod.fst (List.getD l0 (Int.toNat n2) (Ty.dflt t0c))) (8:Int)==(0:Int)))<|sTs (c:=(Int.tmod (Prod.fst (List.getD l0 (Int.toNat n2) (Ty.dflt t0c))) (8:Int)==(0:Int)))<|sP [1]<|sA g4<|sP [0,1,1,0]<|sTo (c:=(decide ((List.length l11+1)*16≤140737488355328)))<|sP [1]<|sA g5<|sP [1,1,1]<|sL
theorem b4h {l0:List (Ty.den t0c)}{n1 n2 n3 n4 n5 n6 n7 n8 n9 n10:Int}{l11:List (Ty.den TS)}{l12 l13:List (Ty.den TR)}(g0:0≤n2)(g1:n2<(l0.length:Int))(g2:l11.length≤100000)(g3:Int.tmod (Prod.fst (List.getD l0 (Int.toNat n2) (Ty.dflt t0c))) 8=1)(g4:a4n [.l TB (Prod.fst (Prod.snd (List.getD l0 (Int.toNat n2) (Ty.dflt t0c)))),.n 1,.n 2,.n n3,.n n4,.n n5,.n n6]=some (0,[.n 3,.n 1,.n 2,.n n3,.n n4,.n n5,.n n6])):(a4k [.k 0,.l t0c l0,.n n1,.n n2,.n 1,.n 2,.n n3,.n n4,.n n5,.n n6,.n 2,.n 1,.n n7,.n n8,.n n9,.n n10,.l TS l11,.l TR l12,.l TR l13]).sel=some (Step.go [.k 0,.l t0c l0,.n n1,.n (IntKind.wrap .i64 (n2+(1:Int))),.n (1:Int),.n (2:Int),.n n3,.n n4,.n n5,.n n6,.n (2:Int),.n (1:Int),.n n7,.n n8,.n n9,.n n10,.l TS l11,.l TR l12,.l TR l13]):=sP [1]<|sTs (c:=(decide (n2<(↑(List.length l0):Int))))<|sTo (c:=(inR n2 (List.length l0)))<|sP [1]<|sFs (c:=(Int.tmod (Prod.fst (List.getD l0 (Int.toNat n2) (Ty.dflt t0c))) (8:Int)==(0:Int)))<|sTs (c:=(Int.tmod (Prod.fst (List.getD l0 (Int.toNat n2) (Ty.dflt t0c))) (8:Int)==(1:Int)))<|sP [1]<|sA g4<|sP [1,1,1,1]<|sL
theorem b4i {l0:List (Ty.den t0c)}{n1 n2 n3 n4 n5 n6 n7 n8 n9 n10:Int}{l11:List (Ty.den TS)}{l12 l13:List (Ty.den TR)}{n14:Int}{l15:List (Ty.den TB)}{n16:Int}{l17:List (Ty.den TR)}(g0:0≤n2)(g1:n2<(l0.length:Int))(g2:l11.length≤100000)(g3:Int.tmod (Prod.fst (List.getD l0 (Int.toNat n2) (Ty.dflt t0c))) 8=1)(g4:a4n [.l TB (Prod.fst (Prod.snd (List.getD l0 (Int.toNat n2) (Ty.dflt t0c)))),.n 1,.n 2,.n n3,.n n4,.n n5,.n n6]=some (1,[.n 0,.n 1,.n 2,.n n14,.n n4,.n n5,.n n6,.l TB l15]))(g5:a4s [.l TB l15,.l TR l12]=some (0,[.n n16,.l TB l15,.l TR l17])):(a4k [.k 0,.l t0c l0,.n n1,.n n2,.n 1,.n 2,.n n3,.n n4,.n n5,.n n6,.n 2,.n 1,.n n7,.n n8,.n n9,.n n10,.l TS l11,.l TR l12,.l TR l13]).sel=some (Step.go [.k 0,.l t0c l0,.n n1,.n (IntKind.wrap .i64 (n2+(1:Int))),.n (1:Int),.n (2:Int),.n n14,.n n4,.n n5,.n n6,.n (2:Int),.n (1:Int),.n n7,.n n8,.n n9,.n n10,.l TS (l11++[r2b (Prod.fst (Prod.snd (List.getD l0 (Int.toNat n2) (Ty.dflt t0c))))]),.l TR l17,.l TR l13]):=sP [1]<|sTs (c:=(decide (n2<(↑(List.length l0):Int))))<|sTo (c:=(inR n2 (List.length l0)))<|sP [1]<|sFs (c:=(Int.tmod (Prod.fst (List.getD l0 (Int.toNat n2) (Ty.dflt t0c))) (8:Int)==(0:Int)))<|sTs (c:=(Int.tmod (Prod.fst (List.getD l0 (Int.toNat n2) (Ty.dflt t0c))) (8:Int)==(1:Int)))<|sP [1]<|sA g4<|sP [0,1,1,0]<|sTo (c:=(decide ((List.length l11+1)*16≤140737488355328)))<|sP [1]<|sA g5<|sP [1,1,1]<|sL
theorem a4w {l0:List (Ty.den t0c)}{n1 n2 n3 n4 n5 n6 n7 n8 n9 n10:Int}{l11:List (Ty.den TS)}{l12 l13:List (Ty.den TR)}(g0:0≤n2)(g1:n2<(l0.length:Int))(g2:l11.length≤100000)(g3:Int.tmod (Prod.fst (List.getD l0 (Int.toNat n2) (Ty.dflt t0c))) 8=2)(g4:a4n [.l TB (Prod.fst (Prod.snd (List.getD l0 (Int.toNat n2) (Ty.dflt t0c)))),.n 2,.n 1,.n n7,.n n8,.n n9,.n n10]=some (0,[.n 3,.n 2,.n 1,.n n7,.n n8,.n n9,.n n10]))(g5:a4l [.n 0,.l TR l13]=some (0,[.n 5,.l TR l13]))(g6:n5≤n8):(a4k [.k 0,.l t0c l0,.n n1,.n n2,.n 1,.n 2,.n n3,.n n4,.n n5,.n n6,.n 2,.n 1,.n n7,.n n8,.n n9,.n n10,.l TS l11,.l TR l12,.l TR l13]).sel=some (Step.go [.k 0,.l t0c l0,.n n1,.n (IntKind.wrap .i64 (n2+(1:Int))),.n (1:Int),.n (2:Int),.n n3,.n n4,.n n5,.n n6,.n (2:Int),.n (1:Int),.n n7,.n n8,.n n9,.n n10,.l TS l11,.l TR l12,.l TR l13]):=sP [1]<|sTs (c:=(decide (n2<(↑(List.length l0):Int))))<|sTo (c:=(inR n2 (List.length l0)))<|sP [1]<|sFs (c:=(Int.tmod (Prod.fst (List.getD l0 (Int.toNat n2) (Ty.dflt t0c))) (8:Int)==(0:Int)))<|sFs (c:=(Int.tmod (Prod.fst (List.getD l0 (Int.toNat n2) (Ty.dflt t0c))) (8:Int)==(1:Int)))<|sTs (c:=(Int.tmod (Prod.fst (List.getD l0 (Int.toNat n2) (Ty.dflt t0c))) (8:Int)==(2:Int)))<|sP [1]<|sA g4<|sP [1,1,0,1]<|sA g5<|sP [1,1,0,1,0,1,1,0,1]<|sFs (c:=(decide (n5>n8)))<|sP [1]<|sL
theorem a4v {l0:List (Ty.den t0c)}{n1 n2 n3 n4 n5 n6 n7 n8 n9 n10:Int}{l11:List (Ty.den TS)}{l12 l13:List (Ty.den TR)}{l14:List (Ty.den TB)}{l15:List (Ty.den TR)}{n16:Int}(g0:0≤n2)(g1:n2<(l0.length:Int))(g2:l11.length≤100000)(g3:Int.tmod (Prod.fst (List.getD l0 (Int.toNat n2) (Ty.dflt t0c))) 8=2)(g4:a4n [.l TB (Prod.fst (Prod.snd (List.getD l0 (Int.toNat n2) (Ty.dflt t0c)))),.n 2,.n 1,.n n7,.n n8,.n n9,.n n10]=some (0,[.n 3,.n 2,.n 1,.n n7,.n n8,.n n9,.n n10]))(g5:a4l [.n 0,.l TR l13]=some (1,[.l TB l14,.n 0,.l TR l15]))(g6:a4m [.l TB l14,.n 1,.n 2,.n n3,.n n4,.n n5,.n n6]=some (0,[.n n16,.n 1,.n 2,.n n3,.n n4,.n n5,.n n6]))(g7:n5≤n8):(a4k [.k 0,.l t0c l0,.n n1,.n n2,.n 1,.n 2,.n n3,.n n4,.n n5,.n n6,.n 2,.n 1,.n n7,.n n8,.n n9,.n n10,.l TS l11,.l TR l12,.l TR l13]).sel=some (Step.go [.k 0,.l t0c l0,.n n1,.n (IntKind.wrap .i64 (n2+(1:Int))),.n (1:Int),.n (2:Int),.n n3,.n n4,.n n5,.n n6,.n (2:Int),.n (1:Int),.n n7,.n n8,.n n9,.n n10,.l TS l11,.l TR l12,.l TR l15]):=sP [1]<|sTs (c:=(decide (n2<(↑(List.length l0):Int))))<|sTo (c:=(inR n2 (List.length l0)))<|sP [1]<|sFs (c:=(Int.tmod (Prod.fst (List.getD l0 (Int.toNat n2) (Ty.dflt t0c))) (8:Int)==(0:Int)))<|sFs (c:=(Int.tmod (Prod.fst (List.getD l0 (Int.toNat n2) (Ty.dflt t0c))) (8:Int)==(1:Int)))<|sTs (c:=(Int.tmod (Prod.fst (List.getD l0 (Int.toNat n2) (Ty.dflt t0c))) (8:Int)==(2:Int)))<|sP [1]<|sA g4<|sP [1,1,0,1]<|sA g5<|sP [0,1,1,1,1]<|sA g6<|sP [1,1,1,0,1,1,0,1]<|sFs (c:=(decide (n5>n8)))<|sP [1]<|sL
theorem a4y {l0:List (Ty.den t0c)}{n1 n2 n3 n4 n5 n6 n7 n8 n9 n10:Int}{l11:List (Ty.den TS)}{l12 l13:List (Ty.den TR)}{l14:List (Ty.den TB)}{l15:List (Ty.den TR)}{n16 n17 n18:Int}{l19:List (Ty.den TB)}(g0:0≤n2)(g1:n2<(l0.length:Int))(g2:l11.length≤100000)(g3:Int.tmod (Prod.fst (List.getD l0 (Int.toNat n2) (Ty.dflt t0c))) 8=2)(g4:a4n [.l TB (Prod.fst (Prod.snd (List.getD l0 (Int.toNat n2) (Ty.dflt t0c)))),.n 2,.n 1,.n n7,.n n8,.n n9,.n n10]=some (0,[.n 3,.n 2,.n 1,.n n7,.n n8,.n n9,.n n10]))(g5:a4l [.n 0,.l TR l13]=some (1,[.l TB l14,.n 0,.l TR l15]))(g6:a4m [.l TB l14,.n 1,.n 2,.n n3,.n n4,.n n5,.n n6]=some (1,[.n 0,.n 1,.n 2,.n n3,.n n16,.n n17,.n n18,.l TB l19]))(g7:n17≤n8):(a4k [.k 0,.l t0c l0,.n n1,.n n2,.n 1,.n 2,.n n3,.n n4,.n n5,.n n6,.n 2,.n 1,.n n7,.n n8,.n n9,.n n10,.l TS l11,.l TR l12,.l TR l13]).sel=some (Step.go [.k 0,.l t0c l0,.n n1,.n (IntKind.wrap .i64 (n2+(1:Int))),.n (1:Int),.n (2:Int),.n n3,.n n16,.n n17,.n n18,.n (2:Int),.n (1:Int),.n n7,.n n8,.n n9,.n n10,.l TS l11,.l TR l12,.l TR l15]):=sP [1]<|sTs (c:=(decide (n2<(↑(List.length l0):Int))))<|sTo (c:=(inR n2 (List.length l0)))<|sP [1]<|sFs (c:=(Int.tmod (Prod.fst (List.getD l0 (Int.toNat n2) (Ty.dflt t0c))) (8:Int)==(0:Int)))<|sFs (c:=(Int.tmod (Prod.fst (List.getD l0 (Int.toNat n2) (Ty.dflt t0c))) (8:Int)==(1:Int)))<|sTs (c:=(Int.tmod (Prod.fst (List.getD l0 (Int.toNat n2) (Ty.dflt t0c))) (8:Int)==(2:Int)))<|sP [1]<|sA g4<|sP [1,1,0,1]<|sA g5<|sP [0,1,1,1,1]<|sA g6<|sP [0,1,1,1,0,1,1,0,1]<|sFs (c:=(decide (n17>n8)))<|sP [1]<|sL
theorem b4m {l0:List (Ty.den t0c)}{n1 n2 n3 n4 n5 n6 n7 n8 n9 n10:Int}{l11:List (Ty.den TS)}{l12 l13:List (Ty.den TR)}{n14:Int}{l15:List (Ty.den TB)}{n16:Int}{l17:List (Ty.den TR)}(g0:0≤n2)(g1:n2<(l0.length:Int))(g2:l11.length≤100000)(g3:Int.tmod (Prod.fst (List.getD l0 (Int.toNat n2) (Ty.dflt t0c))) 8=2)(g4:a4n [.l TB (Prod.fst (Prod.snd (List.getD l0 (Int.toNat n2) (Ty.dflt t0c)))),.n 2,.n 1,.n n7,.n n8,.n n9,.n n10]=some (1,[.n 0,.n 2,.n 1,.n n14,.n n8,.n n9,.n n10,.l TB l15]))(g5:a4s [.l TB l15,.l TR l13]=some (0,[.n n16,.l TB l15,.l TR l17]))(g6:a4l [.n 0,.l TR l17]=some (0,[.n 5,.l TR l17]))(g7:n5≤n8):(a4k [.k 0,.l t0c l0,.n n1,.n n2,.n 1,.n 2,.n n3,.n n4,.n n5,.n n6,.n 2,.n 1,.n n7,.n n8,.n n9,.n n10,.l TS l11,.l TR l12,.l TR l13]).sel=some (Step.go [.k 0,.l t0c l0,.n n1,.n (IntKind.wrap .i64 (n2+(1:Int))),.n (1:Int),.n (2:Int),.n n3,.n n4,.n n5,.n n6,.n (2:Int),.n (1:Int),.n n14,.n n8,.n n9,.n n10,.l TS l11,.l TR l12,.l TR l17]):=sP [1]<|sTs (c:=(decide (n2<(↑(List.length l0):Int))))<|sTo (c:=(inR n2 (List.length l0)))<|sP [1]<|sFs (c:=(Int.tmod (Prod.fst (List.getD l0 (Int.toNat n2) (Ty.dflt t0c))) (8:Int)==(0:Int)))<|sFs (c:=(Int.tmod (Prod.fst (List.getD l0 (Int.toNat n2) (Ty.dflt t0c))) (8:Int)==(1:Int)))<|sTs (c:=(Int.tmod (Prod.fst (List.getD l0 (Int.toNat n2) (Ty.dflt t0c))) (8:Int)==(2:Int)))<|sP [1]<|sA g4<|sP [0,1,1,1,1]<|sA g5<|sP [1,1,1]<|sA g6<|sP [1,1,0,1,0,1,1,0,1]<|sFs (c:=(decide (n5>n8)))<|sP [1]<|sL
theorem b4a {l0:List (Ty.den t0c)}{n1 n2 n3 n4 n5 n6 n7 n8 n9 n10:Int}{l11:List (Ty.den TS)}{l12 l13:List (Ty.den TR)}{n14:Int}{l15:List (Ty.den TB)}{n16:Int}{l17:List (Ty.den TR)}{l18:List (Ty.den TB)}{l19:List (Ty.den TR)}{n20:Int}(g0:0≤n2)(g1:n2<(l0.length:Int))(g2:l11.length≤100000)(g3:Int.tmod (Prod.fst (List.getD l0 (Int.toNat n2) (Ty.dflt t0c))) 8=2)(g4:a4n [.l TB (Prod.fst (Prod.snd (List.getD l0 (Int.toNat n2) (Ty.dflt t0c)))),.n 2,.n 1,.n n7,.n n8,.n n9,.n n10]=some (1,[.n 0,.n 2,.n 1,.n n14,.n n8,.n n9,.n n10,.l TB l15]))(g5:a4s [.l TB l15,.l TR l13]=some (0,[.n n16,.l TB l15,.l TR l17]))(g6:a4l [.n 0,.l TR l17]=some (1,[.l TB l18,.n 0,.l TR l19]))(g7:a4m [.l TB l18,.n 1,.n 2,.n n3,.n n4,.n n5,.n n6]=some (0,[.n n20,.n 1,.n 2,.n n3,.n n4,.n n5,.n n6]))(g8:n5≤n8):(a4k [.k 0,.l t0c l0,.n n1,.n n2,.n 1,.n 2,.n n3,.n n4,.n n5,.n n6,.n 2,.n 1,.n n7,.n n8,.n n9,.n n10,.l TS l11,.l TR l12,.l TR l13]).sel=some (Step.go [.k 0,.l t0c l0,.n n1,.n (IntKind.wrap .i64 (n2+(1:Int))),.n (1:Int),.n (2:Int),.n n3,.n n4,.n n5,.n n6,.n (2:Int),.n (1:Int),.n n14,.n n8,.n n9,.n n10,.l TS l11,.l TR l12,.l TR l19]):=sP [1]<|sTs (c:=(decide (n2<(↑(List.length l0):Int))))<|sTo (c:=(inR n2 (List.length l0)))<|sP [1]<|sFs (c:=(Int.tmod (Prod.fst (List.getD l0 (Int.toNat n2) (Ty.dflt t0c))) (8:Int)==(0:Int)))<|sFs (c:=(Int.tmod (Prod.fst (List.getD l0 (Int.toNat n2) (Ty.dflt t0c))) (8:Int)==(1:Int)))<|sTs (c:=(Int.tmod (Prod.fst (List.getD l0 (Int.toNat n2) (Ty.dflt t0c))) (8:Int)==(2:Int)))<|sP [1]<|sA g4<|sP [0,1,1,1,1]<|sA g5<|sP [1,1,1]<|sA g6<|sP [0,1,1,1,1]<|sA g7<|sP [1,1,1,0,1,1,0,1]<|sFs (c:=(decide (n5>n8)))<|sP [1]<|sL
theorem b4j {l0:List (Ty.den t0c)}{n1 n2 n3 n4 n5 n6 n7 n8 n9 n10:Int}{l11:List (Ty.den TS)}{l12 l13:List (Ty.den TR)}{n14:Int}{l15:List (Ty.den TB)}{n16:Int}{l17:List (Ty.den TR)}{l18:List (Ty.den TB)}{l19:List (Ty.den TR)}{n20 n21 n22:Int}{l23:List (Ty.den TB)}(g0:0≤n2)(g1:n2<(l0.length:Int))(g2:l11.length≤100000)(g3:Int.tmod (Prod.fst (List.getD l0 (Int.toNat n2) (Ty.dflt t0c))) 8=2)(g4:a4n [.l TB (Prod.fst (Prod.snd (List.getD l0 (Int.toNat n2) (Ty.dflt t0c)))),.n 2,.n 1,.n n7,.n n8,.n n9,.n n10]=some (1,[.n 0,.n 2,.n 1,.n n14,.n n8,.n n9,.n n10,.l TB l15]))(g5:a4s [.l TB l15,.l TR l13]=some (0,[.n n16,.l TB l15,.l TR l17]))(g6:a4l [.n 0,.l TR l17]=some (1,[.l TB l18,.n 0,.l TR l19]))(g7:a4m [.l TB l18,.n 1,.n 2,.n n3,.n n4,.n n5,.n n6]=some (1,[.n 0,.n 1,.n 2,.n n3,.n n20,.n n21,.n n22,.l TB l23]))(g8:n21≤n8):(a4k [.k 0,.l t0c l0,.n n1,.n n2,.n 1,.n 2,.n n3,.n n4,.n n5,.n n6,.n 2,.n 1,.n n7,.n n8,.n n9,.n n10,.l TS l11,.l TR l12,.l TR l13]).sel=some (Step.go [.k 0,.l t0c l0,.n n1,.n (IntKind.wrap .i64 (n2+(1:Int))),.n (1:Int),.n (2:Int),.n n3,.n n20,.n n21,.n n22,.n (2:Int),.n (1:Int),.n n14,.n n8,.n n9,.n n10,.l TS l11,.l TR l12,.l TR l19]):=sP [1]<|sTs (c:=(decide (n2<(↑(List.length l0):Int))))<|sTo (c:=(inR n2 (List.length l0)))<|sP [1]<|sFs (c:=(Int.tmod (Prod.fst (List.getD l0 (Int.toNat n2) (Ty.dflt t0c))) (8:Int)==(0:Int)))<|sFs (c:=(Int.tmod (Prod.fst (List.getD l0 (Int.toNat n2) (Ty.dflt t0c))) (8:Int)==(1:Int)))<|sTs (c:=(Int.tmod (Prod.fst (List.getD l0 (Int.toNat n2) (Ty.dflt t0c))) (8:Int)==(2:Int)))<|sP [1]<|sA g4<|sP [0,1,1,1,1]<|sA g5<|sP [1,1,1]<|sA g6<|sP [0,1,1,1,1]<|sA g7<|sP [0,1,1,1,0,1,1,0,1]<|sFs (c:=(decide (n21>n8)))<|sP [1]<|sL
theorem b4o {l0:List (Ty.den t0c)}{n1 n2 n3 n4 n5 n6 n7 n8 n9 n10:Int}{l11:List (Ty.den TS)}{l12 l13:List (Ty.den TR)}{l14:List (Ty.den TS)}(g0:0≤n2)(g1:n2<(l0.length:Int))(g2:l11.length≤100000)(g3:Int.tmod (Prod.fst (List.getD l0 (Int.toNat n2) (Ty.dflt t0c))) 8=3)(g4: ¬(IntKind.wrap .i64 (IntKind.wrap .i64 (IntKind.wrap .i64 (n3-(1:Int))+(1:Int))+IntKind.wrap .i64 (IntKind.wrap .u8 (Int.tdiv (Prod.fst (List.getD l0 (Int.toNat n2) (Ty.dflt t0c))) (8:Int)))))<(1:Int))(g5: ¬(IntKind.wrap .i64 (IntKind.wrap .i64 (IntKind.wrap .i64 (n3-(1:Int))+(1:Int))+IntKind.wrap .i64 (IntKind.wrap .u8 (Int.tdiv (Prod.fst (List.getD l0 (Int.toNat n2) (Ty.dflt t0c))) (8:Int)))))>(2305843009213693952:Int))(g6:c4k [.k 0,.l t0c l0,.n n1,.n (IntKind.wrap .i64 (IntKind.wrap .i64 (IntKind.wrap .i64 (n3-(1:Int))+(1:Int))+IntKind.wrap .i64 (IntKind.wrap .u8 (Int.tdiv (Prod.fst (List.getD l0 (Int.toNat n2) (Ty.dflt t0c))) (8:Int))))),.n n2,.n (IntKind.wrap .i64 (IntKind.wrap .i64 (n3-(1:Int))+(1:Int))),.n 2,.n 1,.n n7,.n n8,.n n9,.n n10,.l TS l11,.n 1,.n 2,.n (IntKind.wrap .i64 (IntKind.wrap .i64 (IntKind.wrap .i64 (n3-(1:Int))+(1:Int))+IntKind.wrap .i64 (IntKind.wrap .u8 (Int.tdiv (Prod.fst (List.getD l0 (Int.toNat n2) (Ty.dflt t0c))) (8:Int))))),.n 0,.n 0,.n 0,.l TR l12,.l TR l13]=some (0,[.l t0c l0,.n n1,.n (IntKind.wrap .i64 (IntKind.wrap .i64 (IntKind.wrap .i64 (n3-(1:Int))+(1:Int))+IntKind.wrap .i64 (IntKind.wrap .u8 (Int.tdiv (Prod.fst (List.getD l0 (Int.toNat n2) (Ty.dflt t0c))) (8:Int))))),.n n2,.n 2,.n 1,.n n7,.n n8,.n n9,.n n10,.l TS l14,.n 1,.n 2,.n (IntKind.wrap .i64 (IntKind.wrap .i64 (IntKind.wrap .i64 (n3-(1:Int))+(1:Int))+IntKind.wrap .i64 (IntKind.wrap .u8 (Int.tdiv (Prod.fst (List.getD l0 (Int.toNat n2) (Ty.dflt t0c))) (8:Int))))),.n 0,.n 0,.n 0,.l TR l12,.l TR l13])):(a4k [.k 0,.l t0c l0,.n n1,.n n2,.n 1,.n 2,.n n3,.n n4,.n n5,.n n6,.n 2,.n 1,.n n7,.n n8,.n n9,.n n10,.l TS l11,.l TR l12,.l TR l13]).sel=some (Step.go [.k 0,.l t0c l0,.n n1,.n (IntKind.wrap .i64 (n2+(1:Int))),.n (1:Int),.n (2:Int),.n (IntKind.wrap .i64 (IntKind.wrap .i64 (IntKind.wrap .i64 (n3-(1:Int))+(1:Int))+IntKind.wrap .i64 (IntKind.wrap .u8 (Int.tdiv (Prod.fst (List.getD l0 (Int.toNat n2) (Ty.dflt t0c))) (8:Int))))),.n (0:Int),.n (0:Int),.n (0:Int),.n (2:Int),.n (1:Int),.n n7,.n n8,.n n9,.n n10,.l TS l14,.l TR l12,.l TR l13]):=sP [1]<|sTs (c:=(decide (n2<(↑(List.length l0):Int))))<|sTo (c:=(inR n2 (List.length l0)))<|sP [1]<|sFs (c:=(Int.tmod (Prod.fst (List.getD l0 (Int.toNat n2) (Ty.dflt t0c))) (8:Int)==(0:Int)))<|sFs (c:=(Int.tmod (Prod.fst (List.getD l0 (Int.toNat n2) (Ty.dflt t0c))) (8:Int)==(1:Int)))<|sFs (c:=(Int.tmod (Prod.fst (List.getD l0 (Int.toNat n2) (Ty.dflt t0c))) (8:Int)==(2:Int)))<|sTs (c:=(Int.tmod (Prod.fst (List.getD l0 (Int.toNat n2) (Ty.dflt t0c))) (8:Int)==(3:Int)))<|sP [1,0,1,1,1,1,0]<|sFs (c:=(decide (IntKind.wrap .i64 (IntKind.wrap .i64 (IntKind.wrap .i64 (n3-(1:Int))+(1:Int))+IntKind.wrap .i64 (IntKind.wrap .u8 (Int.tdiv (Prod.fst (List.getD l0 (Int.toNat n2) (Ty.dflt t0c))) (8:Int))))<(1:Int))))<|sFs (c:=(decide (IntKind.wrap .i64 (IntKind.wrap .i64 (IntKind.wrap .i64 (n3-(1:Int))+(1:Int))+IntKind.wrap .i64 (IntKind.wrap .u8 (Int.tdiv (Prod.fst (List.getD l0 (Int.toNat n2) (Ty.dflt t0c))) (8:Int))))>(2305843009213693952:Int))))<|sP [1,0,1,0,1]<|sA g6<|sP [1,1]<|sL
theorem a4u {l0:List (Ty.den t0c)}{n1 n2 n3 n4 n5 n6 n7 n8 n9 n10:Int}{l11:List (Ty.den TS)}{l12 l13:List (Ty.den TR)}(g0:0≤n2)(g1:n2<(l0.length:Int))(g2:l11.length≤100000)(g3:Int.tmod (Prod.fst (List.getD l0 (Int.toNat n2) (Ty.dflt t0c))) 8=6)(g4:a4l [.n (Prod.snd (Prod.snd (Prod.snd (Prod.snd (Prod.snd (Prod.snd (Prod.snd (List.getD l0 (Int.toNat n2) (Ty.dflt t0c))))))))),.l TR l12]=some (0,[.n 5,.l TR l12])):(a4k [.k 0,.l t0c l0,.n n1,.n n2,.n 1,.n 2,.n n3,.n n4,.n n5,.n n6,.n 2,.n 1,.n n7,.n n8,.n n9,.n n10,.l TS l11,.l TR l12,.l TR l13]).sel=some (Step.go [.k 0,.l t0c l0,.n n1,.n (IntKind.wrap .i64 (n2+(1:Int))),.n (1:Int),.n (2:Int),.n n3,.n n4,.n n5,.n n6,.n (2:Int),.n (1:Int),.n n7,.n n8,.n n9,.n n10,.l TS l11,.l TR l12,.l TR l13]):=sP [1]<|sTs (c:=(decide (n2<(↑(List.length l0):Int))))<|sTo (c:=(inR n2 (List.length l0)))<|sP [1]<|sFs (c:=(Int.tmod (Prod.fst (List.getD l0 (Int.toNat n2) (Ty.dflt t0c))) (8:Int)==(0:Int)))<|sFs (c:=(Int.tmod (Prod.fst (List.getD l0 (Int.toNat n2) (Ty.dflt t0c))) (8:Int)==(1:Int)))<|sFs (c:=(Int.tmod (Prod.fst (List.getD l0 (Int.toNat n2) (Ty.dflt t0c))) (8:Int)==(2:Int)))<|sFs (c:=(Int.tmod (Prod.fst (List.getD l0 (Int.toNat n2) (Ty.dflt t0c))) (8:Int)==(3:Int)))<|sTs (c:=(Int.tmod (Prod.fst (List.getD l0 (Int.toNat n2) (Ty.dflt t0c))) (8:Int)==(6:Int)))<|sP [1]<|sA g4<|sP [1,1,1]<|sL
theorem b4k {l0:List (Ty.den t0c)}{n1 n2 n3 n4 n5 n6 n7 n8 n9 n10:Int}{l11:List (Ty.den TS)}{l12 l13:List (Ty.den TR)}{l14:List (Ty.den TB)}{l15:List (Ty.den TR)}(g0:0≤n2)(g1:n2<(l0.length:Int))(g2:l11.length≤100000)(g3:Int.tmod (Prod.fst (List.getD l0 (Int.toNat n2) (Ty.dflt t0c))) 8=6)(g4:a4l [.n (Prod.snd (Prod.snd (Prod.snd (Prod.snd (Prod.snd (Prod.snd (Prod.snd (List.getD l0 (Int.toNat n2) (Ty.dflt t0c))))))))),.l TR l12]=some (1,[.l TB l14,.n 0,.l TR l15])):(a4k [.k 0,.l t0c l0,.n n1,.n n2,.n 1,.n 2,.n n3,.n n4,.n n5,.n n6,.n 2,.n 1,.n n7,.n n8,.n n9,.n n10,.l TS l11,.l TR l12,.l TR l13]).sel=some (Step.go [.k 0,.l t0c l0,.n n1,.n (IntKind.wrap .i64 (n2+(1:Int))),.n (1:Int),.n (2:Int),.n n3,.n n4,.n n5,.n n6,.n (2:Int),.n (1:Int),.n n7,.n n8,.n n9,.n n10,.l TS l11,.l TR l15,.l TR l13]):=sP [1]<|sTs (c:=(decide (n2<(↑(List.length l0):Int))))<|sTo (c:=(inR n2 (List.length l0)))<|sP [1]<|sFs (c:=(Int.tmod (Prod.fst (List.getD l0 (Int.toNat n2) (Ty.dflt t0c))) (8:Int)==(0:Int)))<|sFs (c:=(Int.tmod (Prod.fst (List.getD l0 (Int.toNat n2) (Ty.dflt t0c))) (8:Int)==(1:Int)))<|sFs (c:=(Int.tmod (Prod.fst (List.getD l0 (Int.toNat n2) (Ty.dflt t0c))) (8:Int)==(2:Int)))<|sFs (c:=(Int.tmod (Prod.fst (List.getD l0 (Int.toNat n2) (Ty.dflt t0c))) (8:Int)==(3:Int)))<|sTs (c:=(Int.tmod (Prod.fst (List.getD l0 (Int.toNat n2) (Ty.dflt t0c))) (8:Int)==(6:Int)))<|sP [1]<|sA g4<|sP [0,1,1,1]<|sL
theorem b4p {l0:List (Ty.den t0c)}{n1 n2 n3 n4 n5 n6 n7 n8 n9 n10:Int}{l11:List (Ty.den TS)}{l12 l13:List (Ty.den TR)}{n14:Int}{l15:List (Ty.den TR)}(g0:0≤n2)(g1:n2<(l0.length:Int))(g2:l11.length≤100000)(g3:Int.tmod (Prod.fst (List.getD l0 (Int.toNat n2) (Ty.dflt t0c))) 8=7)(g4:c4c [.n (Prod.snd (Prod.snd (Prod.snd (Prod.snd (Prod.snd (Prod.snd (Prod.snd (List.getD l0 (Int.toNat n2) (Ty.dflt t0c))))))))),.l TR l12]=some (0,[.n n14,.l TR l15])):(a4k [.k 0,.l t0c l0,.n n1,.n n2,.n 1,.n 2,.n n3,.n n4,.n n5,.n n6,.n 2,.n 1,.n n7,.n n8,.n n9,.n n10,.l TS l11,.l TR l12,.l TR l13]).sel=some (Step.go [.k 0,.l t0c l0,.n n1,.n (IntKind.wrap .i64 (n2+(1:Int))),.n (1:Int),.n (2:Int),.n n3,.n n4,.n n5,.n n6,.n (2:Int),.n (1:Int),.n n7,.n n8,.n n9,.n n10,.l TS l11,.l TR l15,.l TR l13]):=sP [1]<|sTs (c:=(decide (n2<(↑(List.length l0):Int))))<|sTo (c:=(inR n2 (List.length l0)))<|sP [1]<|sFs (c:=(Int.tmod (Prod.fst (List.getD l0 (Int.toNat n2) (Ty.dflt t0c))) (8:Int)==(0:Int)))<|sFs (c:=(Int.tmod (Prod.fst (List.getD l0 (Int.toNat n2) (Ty.dflt t0c))) (8:Int)==(1:Int)))<|sFs (c:=(Int.tmod (Prod.fst (List.getD l0 (Int.toNat n2) (Ty.dflt t0c))) (8:Int)==(2:Int)))<|sFs (c:=(Int.tmod (Prod.fst (List.getD l0 (Int.toNat n2) (Ty.dflt t0c))) (8:Int)==(3:Int)))<|sFs (c:=(Int.tmod (Prod.fst (List.getD l0 (Int.toNat n2) (Ty.dflt t0c))) (8:Int)==(6:Int)))<|sTs (c:=(Int.tmod (Prod.fst (List.getD l0 (Int.toNat n2) (Ty.dflt t0c))) (8:Int)==(7:Int)))<|sP [1]<|sA g4<|sP [1,1,1]<|sL
theorem b4g {l0:List (Ty.den t0c)}{n1 n2 n3 n4 n5 n6 n7 n8 n9 n10:Int}{l11:List (Ty.den TS)}{l12 l13:List (Ty.den TR)}(g0:0≤n2)(g1:n2<(l0.length:Int))(g2:l11.length≤100000)(g3:Int.tmod (Prod.fst (List.getD l0 (Int.toNat n2) (Ty.dflt t0c))) 8=4)(g4:a4l [.n (Prod.snd (Prod.snd (Prod.snd (Prod.snd (Prod.snd (Prod.snd (Prod.snd (List.getD l0 (Int.toNat n2) (Ty.dflt t0c))))))))),.l TR l12]=some (0,[.n 5,.l TR l12])):(a4k [.k 0,.l t0c l0,.n n1,.n n2,.n 1,.n 2,.n n3,.n n4,.n n5,.n n6,.n 2,.n 1,.n n7,.n n8,.n n9,.n n10,.l TS l11,.l TR l12,.l TR l13]).sel=some (Step.go [.k 0,.l t0c l0,.n n1,.n (IntKind.wrap .i64 (n2+(1:Int))),.n (1:Int),.n (2:Int),.n n3,.n n4,.n n5,.n n6,.n (2:Int),.n (1:Int),.n n7,.n n8,.n n9,.n n10,.l TS l11,.l TR l12,.l TR l13]):=sP [1]<|sTs (c:=(decide (n2<(↑(List.length l0):Int))))<|sTo (c:=(inR n2 (List.length l0)))<|sP [1]<|sFs (c:=(Int.tmod (Prod.fst (List.getD l0 (Int.toNat n2) (Ty.dflt t0c))) (8:Int)==(0:Int)))<|sFs (c:=(Int.tmod (Prod.fst (List.getD l0 (Int.toNat n2) (Ty.dflt t0c))) (8:Int)==(1:Int)))<|sFs (c:=(Int.tmod (Prod.fst (List.getD l0 (Int.toNat n2) (Ty.dflt t0c))) (8:Int)==(2:Int)))<|sFs (c:=(Int.tmod (Prod.fst (List.getD l0 (Int.toNat n2) (Ty.dflt t0c))) (8:Int)==(3:Int)))<|sFs (c:=(Int.tmod (Prod.fst (List.getD l0 (Int.toNat n2) (Ty.dflt t0c))) (8:Int)==(6:Int)))<|sFs (c:=(Int.tmod (Prod.fst (List.getD l0 (Int.toNat n2) (Ty.dflt t0c))) (8:Int)==(7:Int)))<|sP [1]<|sA g4<|sP [1,1,1,1]<|sL
theorem a4z {l0:List (Ty.den t0c)}{n1 n2 n3 n4 n5 n6 n7 n8 n9 n10:Int}{l11:List (Ty.den TS)}{l12 l13:List (Ty.den TR)}{l14:List (Ty.den TB)}{l15:List (Ty.den TR)}(g0:0≤n2)(g1:n2<(l0.length:Int))(g2:l11.length≤100000)(g3:Int.tmod (Prod.fst (List.getD l0 (Int.toNat n2) (Ty.dflt t0c))) 8=4)(g4:a4l [.n (Prod.snd (Prod.snd (Prod.snd (Prod.snd (Prod.snd (Prod.snd (Prod.snd (List.getD l0 (Int.toNat n2) (Ty.dflt t0c))))))))),.l TR l12]=some (1,[.l TB l14,.n 0,.l TR l15]))(g5:a4m [.l TB l14,.n 2,.n 1,.n n7,.n n8,.n n9,.n n10]=some (0,[.n 180,.n 2,.n 1,.n n7,.n n8,.n n9,.n n10])):(a4k [.k 0,.l t0c l0,.n n1,.n n2,.n 1,.n 2,.n n3,.n n4,.n n5,.n n6,.n 2,.n 1,.n n7,.n n8,.n n9,.n n10,.l TS l11,.l TR l12,.l TR l13]).sel=some (Step.go [.k 0,.l t0c l0,.n n1,.n (IntKind.wrap .i64 (n2+(1:Int))),.n (1:Int),.n (2:Int),.n n3,.n n4,.n n5,.n n6,.n (2:Int),.n (1:Int),.n n7,.n n8,.n n9,.n n10,.l TS l11,.l TR l15,.l TR l13]):=sP [1]<|sTs (c:=(decide (n2<(↑(List.length l0):Int))))<|sTo (c:=(inR n2 (List.length l0)))<|sP [1]<|sFs (c:=(Int.tmod (Prod.fst (List.getD l0 (Int.toNat n2) (Ty.dflt t0c))) (8:Int)==(0:Int)))<|sFs (c:=(Int.tmod (Prod.fst (List.getD l0 (Int.toNat n2) (Ty.dflt t0c))) (8:Int)==(1:Int)))<|sFs (c:=(Int.tmod (Prod.fst (List.getD l0 (Int.toNat n2) (Ty.dflt t0c))) (8:Int)==(2:Int)))<|sFs (c:=(Int.tmod (Prod.fst (List.getD l0 (Int.toNat n2) (Ty.dflt t0c))) (8:Int)==(3:Int)))<|sFs (c:=(Int.tmod (Prod.fst (List.getD l0 (Int.toNat n2) (Ty.dflt t0c))) (8:Int)==(6:Int)))<|sFs (c:=(Int.tmod (Prod.fst (List.getD l0 (Int.toNat n2) (Ty.dflt t0c))) (8:Int)==(7:Int)))<|sP [1]<|sA g4<|sP [0,1,1,0,1]<|sA g5<|sP [1,1,1,1]<|sL
theorem b4d {l0:List (Ty.den t0c)}{n1 n2 n3 n4 n5 n6 n7 n8 n9 n10:Int}{l11:List (Ty.den TS)}{l12 l13:List (Ty.den TR)}{l14:List (Ty.den TB)}{l15:List (Ty.den TR)}{n16 n17 n18:Int}{l19:List (Ty.den TB)}(g0:0≤n2)(g1:n2<(l0.length:Int))(g2:l11.length≤100000)(g3:Int.tmod (Prod.fst (List.getD l0 (Int.toNat n2) (Ty.dflt t0c))) 8=4)(g4:a4l [.n (Prod.snd (Prod.snd (Prod.snd (Prod.snd (Prod.snd (Prod.snd (Prod.snd (List.getD l0 (Int.toNat n2) (Ty.dflt t0c))))))))),.l TR l12]=some (1,[.l TB l14,.n 0,.l TR l15]))(g5:a4m [.l TB l14,.n 2,.n 1,.n n7,.n n8,.n n9,.n n10]=some (1,[.n 0,.n 2,.n 1,.n n7,.n n16,.n n17,.n n18,.l TB l19]))(g6: ¬n16≤n1)(g7:n16≤(l11.length:Int))(g8:IntKind.wrap .i64 (n16-(1:Int))=n16-1)(g9:0≤n16-1)(g10:f0b (r2b l19) (List.getD l11 (Int.toNat (n16-(1:Int))) (Ty.dflt TS))=true)(h0:(f0b (r2b l19) (List.getD l11 (Int.toNat (IntKind.wrap .i64 (n16-(1:Int)))) (Ty.dflt TS))=true)):(a4k [.k 0,.l t0c l0,.n n1,.n n2,.n 1,.n 2,.n n3,.n n4,.n n5,.n n6,.n 2,.n 1,.n n7,.n n8,.n n9,.n n10,.l TS l11,.l TR l12,.l TR l13]).sel=some (Step.go [.k 0,.l t0c l0,.n n16,.n (IntKind.wrap .i64 (n2+(1:Int))),.n (1:Int),.n (2:Int),.n n3,.n n4,.n n5,.n n6,.n (2:Int),.n (1:Int),.n n7,.n n16,.n n17,.n n18,.l TS l11,.l TR l15,.l TR l13]):=sP [1]<|sTs (c:=(decide (n2<(↑(List.length l0):Int))))<|sTo (c:=(inR n2 (List.length l0)))<|sP [1]<|sFs (c:=(Int.tmod (Prod.fst (List.getD l0 (Int.toNat n2) (Ty.dflt t0c))) (8:Int)==(0:Int)))<|sFs (c:=(Int.tmod (Prod.fst (List.getD l0 (Int.toNat n2) (Ty.dflt t0c))) (8:Int)==(1:Int)))<|sFs (c:=(Int.tmod (Prod.fst (List.getD l0 (Int.toNat n2) (Ty.dflt t0c))) (8:Int)==(2:Int)))<|sFs (c:=(Int.tmod (Prod.fst (List.getD l0 (Int.toNat n2) (Ty.dflt t0c))) (8:Int)==(3:Int)))<|sFs (c:=(Int.tmod (Prod.fst (List.getD l0 (Int.toNat n2) (Ty.dflt t0c))) (8:Int)==(6:Int)))<|sFs (c:=(Int.tmod (Prod.fst (List.getD l0 (Int.toNat n2) (Ty.dflt t0c))) (8:Int)==(7:Int)))<|sP [1]<|sA g4<|sP [0,1,1,0,1]<|sA g5<|sP [0,1,1,0,0,1,0,1]<|sFs (c:=(decide (n16≤n1)))<|sP [1,0,1]<|sFs (c:=(decide (n16>(↑(List.length l11):Int))))<|sP [1,0,1]<|sTo (c:=(inR (IntKind.wrap .i64 (n16-(1:Int))) (List.length l11)))<|sP [1]<|sF (nt h0)<|sP [1,0,1,1]<|sL
theorem b4c {l0:List (Ty.den t0c)}{n1 n2 n3 n4 n5 n6 n7 n8 n9 n10:Int}{l11:List (Ty.den TS)}{l12 l13:List (Ty.den TR)}(g0:0≤n2)(g1:n2<(l0.length:Int))(g2:l11.length≤100000)(g3:Int.tmod (Prod.fst (List.getD l0 (Int.toNat n2) (Ty.dflt t0c))) 8=5)(g4:a4l [.n (Prod.snd (Prod.snd (Prod.snd (Prod.snd (Prod.snd (Prod.snd (Prod.snd (List.getD l0 (Int.toNat n2) (Ty.dflt t0c))))))))),.l TR l12]=some (0,[.n 5,.l TR l12])):(a4k [.k 0,.l t0c l0,.n n1,.n n2,.n 1,.n 2,.n n3,.n n4,.n n5,.n n6,.n 2,.n 1,.n n7,.n n8,.n n9,.n n10,.l TS l11,.l TR l12,.l TR l13]).sel=some (Step.go [.k 0,.l t0c l0,.n n1,.n (IntKind.wrap .i64 (n2+(1:Int))),.n (1:Int),.n (2:Int),.n n3,.n n4,.n n5,.n n6,.n (2:Int),.n (1:Int),.n n7,.n n8,.n n9,.n n10,.l TS l11,.l TR l12,.l TR l13]):=sP [1]<|sTs (c:=(decide (n2<(↑(List.length l0):Int))))<|sTo (c:=(inR n2 (List.length l0)))<|sP [1]<|sFs (c:=(Int.tmod (Prod.fst (List.getD l0 (Int.toNat n2) (Ty.dflt t0c))) (8:Int)==(0:Int)))<|sFs (c:=(Int.tmod (Prod.fst (List.getD l0 (Int.toNat n2) (Ty.dflt t0c))) (8:Int)==(1:Int)))<|sFs (c:=(Int.tmod (Prod.fst (List.getD l0 (Int.toNat n2) (Ty.dflt t0c))) (8:Int)==(2:Int)))<|sFs (c:=(Int.tmod (Prod.fst (List.getD l0 (Int.toNat n2) (Ty.dflt t0c))) (8:Int)==(3:Int)))<|sFs (c:=(Int.tmod (Prod.fst (List.getD l0 (Int.toNat n2) (Ty.dflt t0c))) (8:Int)==(6:Int)))<|sFs (c:=(Int.tmod (Prod.fst (List.getD l0 (Int.toNat n2) (Ty.dflt t0c))) (8:Int)==(7:Int)))<|sP [1]<|sA g4<|sP [1,1,1,1]<|sL
theorem b4e {l0:List (Ty.den t0c)}{n1 n2 n3 n4 n5 n6 n7 n8 n9 n10:Int}{l11:List (Ty.den TS)}{l12 l13:List (Ty.den TR)}{l14:List (Ty.den TB)}{l15:List (Ty.den TR)}(g0:0≤n2)(g1:n2<(l0.length:Int))(g2:l11.length≤100000)(g3:Int.tmod (Prod.fst (List.getD l0 (Int.toNat n2) (Ty.dflt t0c))) 8=5)(g4:a4l [.n (Prod.snd (Prod.snd (Prod.snd (Prod.snd (Prod.snd (Prod.snd (Prod.snd (List.getD l0 (Int.toNat n2) (Ty.dflt t0c))))))))),.l TR l12]=some (1,[.l TB l14,.n 0,.l TR l15]))(g5:a4m [.l TB l14,.n 2,.n 1,.n n7,.n n8,.n n9,.n n10]=some (0,[.n 180,.n 2,.n 1,.n n7,.n n8,.n n9,.n n10])):(a4k [.k 0,.l t0c l0,.n n1,.n n2,.n 1,.n 2,.n n3,.n n4,.n n5,.n n6,.n 2,.n 1,.n n7,.n n8,.n n9,.n n10,.l TS l11,.l TR l12,.l TR l13]).sel=some (Step.go [.k 0,.l t0c l0,.n n1,.n (IntKind.wrap .i64 (n2+(1:Int))),.n (1:Int),.n (2:Int),.n n3,.n n4,.n n5,.n n6,.n (2:Int),.n (1:Int),.n n7,.n n8,.n n9,.n n10,.l TS l11,.l TR l15,.l TR l13]):=sP [1]<|sTs (c:=(decide (n2<(↑(List.length l0):Int))))<|sTo (c:=(inR n2 (List.length l0)))<|sP [1]<|sFs (c:=(Int.tmod (Prod.fst (List.getD l0 (Int.toNat n2) (Ty.dflt t0c))) (8:Int)==(0:Int)))<|sFs (c:=(Int.tmod (Prod.fst (List.getD l0 (Int.toNat n2) (Ty.dflt t0c))) (8:Int)==(1:Int)))<|sFs (c:=(Int.tmod (Prod.fst (List.getD l0 (Int.toNat n2) (Ty.dflt t0c))) (8:Int)==(2:Int)))<|sFs (c:=(Int.tmod (Prod.fst (List.getD l0 (Int.toNat n2) (Ty.dflt t0c))) (8:Int)==(3:Int)))<|sFs (c:=(Int.tmod (Prod.fst (List.getD l0 (Int.toNat n2) (Ty.dflt t0c))) (8:Int)==(6:Int)))<|sFs (c:=(Int.tmod (Prod.fst (List.getD l0 (Int.toNat n2) (Ty.dflt t0c))) (8:Int)==(7:Int)))<|sP [1]<|sA g4<|sP [0,1,1,0,1]<|sA g5<|sP [1,1,1,1]<|sL
theorem b4f {l0:List (Ty.den t0c)}{n1 n2 n3 n4 n5 n6 n7 n8 n9 n10:Int}{l11:List (Ty.den TS)}{l12 l13:List (Ty.den TR)}{l14:List (Ty.den TB)}{l15:List (Ty.den TR)}{n16 n17 n18:Int}{l19:List (Ty.den TB)}(g0:0≤n2)(g1:n2<(l0.length:Int))(g2:l11.length≤100000)(g3:Int.tmod (Prod.fst (List.getD l0 (Int.toNat n2) (Ty.dflt t0c))) 8=5)(g4:a4l [.n (Prod.snd (Prod.snd (Prod.snd (Prod.snd (Prod.snd (Prod.snd (Prod.snd (List.getD l0 (Int.toNat n2) (Ty.dflt t0c))))))))),.l TR l12]=some (1,[.l TB l14,.n 0,.l TR l15]))(g5:a4m [.l TB l14,.n 2,.n 1,.n n7,.n n8,.n n9,.n n10]=some (1,[.n 0,.n 2,.n 1,.n n7,.n n16,.n n17,.n n18,.l TB l19]))(g6: ¬n16≤n1)(g7:n16≤(l11.length:Int))(g8:IntKind.wrap .i64 (n16-(1:Int))=n16-1)(g9:0≤n16-1)(g10:f0b (r2b l19) (List.getD l11 (Int.toNat (n16-(1:Int))) (Ty.dflt TS))=true)(h0:(f0b (r2b l19) (List.getD l11 (Int.toNat (IntKind.wrap .i64 (n16-(1:Int)))) (Ty.dflt TS))=true)):(a4k [.k 0,.l t0c l0,.n n1,.n n2,.n 1,.n 2,.n n3,.n n4,.n n5,.n n6,.n 2,.n 1,.n n7,.n n8,.n n9,.n n10,.l TS l11,.l TR l12,.l TR l13]).sel=some (Step.go [.k 0,.l t0c l0,.n n16,.n (IntKind.wrap .i64 (n2+(1:Int))),.n (1:Int),.n (2:Int),.n n3,.n n4,.n n5,.n n6,.n (2:Int),.n (1:Int),.n n7,.n n16,.n n17,.n n18,.l TS l11,.l TR l15,.l TR l13]):=sP [1]<|sTs (c:=(decide (n2<(↑(List.length l0):Int))))<|sTo (c:=(inR n2 (List.length l0)))<|sP [1]<|sFs (c:=(Int.tmod (Prod.fst (List.getD l0 (Int.toNat n2) (Ty.dflt t0c))) (8:Int)==(0:Int)))<|sFs (c:=(Int.tmod (Prod.fst (List.getD l0 (Int.toNat n2) (Ty.dflt t0c))) (8:Int)==(1:Int)))<|sFs (c:=(Int.tmod (Prod.fst (List.getD l0 (Int.toNat n2) (Ty.dflt t0c))) (8:Int)==(2:Int)))<|sFs (c:=(Int.tmod (Prod.fst (List.getD l0 (Int.toNat n2) (Ty.dflt t0c))) (8:Int)==(3:Int)))<|sFs (c:=(Int.tmod (Prod.fst (List.getD l0 (Int.toNat n2) (Ty.dflt t0c))) (8:Int)==(6:Int)))<|sFs (c:=(Int.tmod (Prod.fst (List.getD l0 (Int.toNat n2) (Ty.dflt t0c))) (8:Int)==(7:Int)))<|sP [1]<|sA g4<|sP [0,1,1,0,1]<|sA g5<|sP [0,1,1,0,0,1,0,1]<|sFs (c:=(decide (n16≤n1)))<|sP [1,0,1]<|sFs (c:=(decide (n16>(↑(List.length l11):Int))))<|sP [1,0,1]<|sTo (c:=(inR (IntKind.wrap .i64 (n16-(1:Int))) (List.length l11)))<|sP [1]<|sF (nt h0)<|sP [1,0,1,1]<|sL
theorem c4d {l0:List (Ty.den t0c)}{n1 n2 n3 n4 n5 n6 n7 n8 n9 n10:Int}{l11:List (Ty.den TS)}{l12 l13:List (Ty.den TR)}(g0:0≤n2)(g1:n2=(l0.length:Int)):(a4k [.k 0,.l t0c l0,.n n1,.n n2,.n 1,.n 2,.n n3,.n n4,.n n5,.n n6,.n 2,.n 1,.n n7,.n n8,.n n9,.n n10,.l TS l11,.l TR l12,.l TR l13]).sel=some (Step.stop 0 [.n (2:Int),.n (1:Int),.n n7,.n n8,.n n9,.n n10]):=sP [1]<|sFs (c:=(decide (n2<(↑(List.length l0):Int))))<|sP [1]<|sL
def d4t:List Dat→Tree Bool:=evW b4r 4 (lsM [(12,Bx_4_12)] 0) [.imm t0c 0]
theorem W4_law (env:List Dat)(h:(d4t env).sel=some true){w:World}{aa:Array Value}(ha:LRel R0 (b0k w) (instL [.imm t0c 0] env) aa):
  Calls Try.prog 4 aa w fun e w'=>e=.returned (.bool true)∧Below w.heap.size w w':=evW_law a4p (lsE (lsC (q3c b4t) (atF) lsZ)) env h ha
theorem d4e {l0:List (Ty.den t0c)}{b1 b2:Bool}(h0:(l3j [.l t0c l0])=(some (0,[.b b1])))(h1:(b1=true))(h2:(op_9 [])=(some (0,[.b b2]))):(d4t [.l t0c l0]).sel=some (b2):=sA h0<|sP [1,1]<|sT h1<|sP [1]<|sA h2<|sP [1,1]<|sL
theorem c4v {l0:List (Ty.den t0c)}{b1:Bool}{n2 n3 n4 n5 n6 n7:Int}{b8:Bool}(h0:(l3j [.l t0c l0])=(some (0,[.b b1])))(h1:(b1=false))(h2:(c4m [.k 0,.l t0c l0,.n (0:Int),.n (0:Int),.n (1:Int),.n (2:Int),.n (1:Int),.n (0:Int),.n (0:Int),.n (0:Int),.n (2:Int),.n (1:Int),.n (1:Int),.n (0:Int),.n (0:Int),.n (0:Int),.l TS [],.l TR [],.l TR []])=(some (0,[.n n2,.n n3,.n n4,.n n5,.n n6,.n n7])))(h3:(n7≤n5))(h4:(op_9 [])=(some (0,[.b b8]))):(d4t [.l t0c l0]).sel=some (b8):=sA h0<|sP [1,1]<|sF h1<|sP [1,0,0,0,1,1,0,0,0,1,0,0]<|sA h2<|sP [1,1,0,1,1,0,1]<|sT (dt h3)<|sP [1]<|sA h4<|sP [1,1]<|sL
theorem w1n (i:Nat)(h:i<1000000000):IntKind.wrap .i64 ((i:Int)+1)=((i+1:Nat):Int):=by rw[w64s (by omega) (by omega)];rfl
theorem memS {α:Type}{l:List α}{d:α}{i:Nat}(h:i<l.length):l.getD i d∈l:=by
 rw[List.getD_eq_getElem?_getD,List.getElem?_eq_getElem h];exact List.getElem_mem h
theorem wfAll {t:Ty}{l:List t.den}(h:wfD (.sl t) l=true): ∀x∈l,wfD t x=true:=by
 have h:(decide (l.length≤maxLen)&&wfL (wfD t) l)=true:=h
 rw[Bool.and_eq_true]at h
 exact o2j.1 h.2
theorem wbWf {b:List (Ty.den TB)}(h:wfD (.sl TB) b=true):Wb b:=fun x hx=>by
 have:=wfi (wfAll h x hx)
 simp[IntKind.min,IntKind.max,IntKind.bits,IntKind.signed]at this
 omega
theorem u8Wf {n:Int}(h:wfD (.int .u8) n=true):0≤n∧n<256:=by
 have:=wfi h
 simp[IntKind.min,IntKind.max,IntKind.bits,IntKind.signed]at this
 omega
abbrev LC:=List (Ty.den t0c)
abbrev LB:=List (Ty.den TB)
abbrev caAt (l:LC)(i:Nat):Ty.den t0c:=l.getD i (Ty.dflt t0c)
abbrev cK (c:Ty.den t0c):Int:=Prod.fst c
abbrev cB (c:Ty.den t0c):LB:=Prod.fst (Prod.snd c)
abbrev cF (c:Ty.den t0c):Int:=Prod.fst (Prod.snd (Prod.snd c))
abbrev cT (c:Ty.den t0c):Int:=Prod.fst (Prod.snd (Prod.snd (Prod.snd c)))
abbrev cL (c:Ty.den t0c):LB:=Prod.fst (Prod.snd (Prod.snd (Prod.snd (Prod.snd (Prod.snd (Prod.snd c))))))
structure okC (c:Ty.den t0c):Prop where
 k0:0≤cK c∧cK c<256
 wb:Wb (cB c)
 f:0≤cF c∧cF c<256
 t:0≤cT c∧cT c<256
 wl:Wb (cL c)
theorem okC_wf {c:Ty.den t0c}(h:wfD t0c c=true):okC c:=by
 have h1:=p0a h
 have h2:=p0a h1.2
 have h3:=p0a h2.2
 have h4:=p0a h3.2
 have h5:=p0a h4.2
 have h6:=p0a h5.2
 have h7:=p0a h6.2
 exact⟨u8Wf h1.1,wbWf h2.1,u8Wf h3.1,u8Wf h4.1,wbWf h7.1⟩
theorem l7l (l:LC)(hl:l.length≤200): ∀m k:Nat,∀n:Int,k≤l.length→l.length-k<m→0≤n→n≤12000→
  (∃n',a0b i3a m [.k 0,.l t0c l,.n n,.n (k:Int)]=some (0,[.n n'])∧ ∀i,k≤i→i<l.length→(cB (caAt l i)).length≤6000∧(cL (caAt l i)).length≤6000)∨a0b i3a m [.k 0,.l t0c l,.n n,.n (k:Int)]=some (1,[.b true]):=by
 intro m
 induction m with
 |zero=>intro k n _ hm;omega
 |succ m ih=>
  intro k n hk hm h0 h1
  by_cases q:k<l.length
  ·have hw6:IntKind.wrap .i64 ((6000:Int)-n)=6000-n:=w64s (by omega) (by omega)
   by_cases a:((cB (caAt l k)).length:Int)>6000-n
   ·have a':((cB (caAt l k)).length:Int)>IntKind.wrap .i64 ((6000:Int)-n):=by rw[hw6];exact a
    exact .inr (c0a (s3z (by omega) (Int.ofNat_lt.2 q) a'))
   have a': ¬((cB (caAt l k)).length:Int)>IntKind.wrap .i64 ((6000:Int)-n):=by rw[hw6];exact a
   by_cases b:((cL (caAt l k)).length:Int)>6000-n
   ·have b':((cL (caAt l k)).length:Int)>IntKind.wrap .i64 ((6000:Int)-n):=by rw[hw6];exact b
    exact .inr (c0a (s3r (by omega) (Int.ofNat_lt.2 q) a' b'))
   have b': ¬((cL (caAt l k)).length:Int)>IntKind.wrap .i64 ((6000:Int)-n):=by rw[hw6];exact b
   have e:a0b i3a (m+1) [.k 0,.l t0c l,.n n,.n (k:Int)]=a0b i3a m [.k 0,.l t0c l,.n (IntKind.wrap .i64 (IntKind.wrap .i64 (n+((cB (caAt l k)).length:Int))+((cL (caAt l k)).length:Int))),.n (IntKind.wrap .i64 ((k:Int)+1))]:=v0e (t3n (by omega) (Int.ofNat_lt.2 q) a' b')
   have ew:IntKind.wrap .i64 (IntKind.wrap .i64 (n+((cB (caAt l k)).length:Int))+((cL (caAt l k)).length:Int))=n+((cB (caAt l k)).length:Int)+((cL (caAt l k)).length:Int):=by
    rw[show IntKind.wrap .i64 (n+((cB (caAt l k)).length:Int))=n+((cB (caAt l k)).length:Int)from w64s (by omega) (by omega)]
    exact w64s (by omega) (by omega)
   rw[ew,w1n k (by omega)]at e
   rcases ih (k+1) (n+((cB (caAt l k)).length:Int)+((cL (caAt l k)).length:Int)) (by omega) (by omega) (by omega) (by omega)with⟨n',h,hs⟩|h
   ·refine .inl ⟨n',e.trans h,fun i hi hil=> ?_⟩
    rcases Nat.eq_or_lt_of_le hi with rfl|hi
    ·exact⟨by omega,by omega⟩
    ·exact hs i hi hil
   ·exact .inr (e.trans h)
  ·exact .inl ⟨n,c0a (s3w (by omega) (by omega)),fun i hi hil=>by omega⟩
theorem l7x (l:LC): ∃x,l3j [.l t0c l]=some (0,[.b x])∧(x=false→l.length≤200∧ ∀i,i<l.length→(cB (caAt l i)).length≤6000∧(cL (caAt l i)).length≤6000):=by
 by_cases hl:(l.length:Int)>200
 ·exact⟨true,y3w hl,fun h=>by cases h⟩
 have hl':l.length≤200:=by omega
 rcases l7l l hl' FU 0 0 (by omega) (b1w (by omega)) (by omega) (by omega)with⟨n',h,hs⟩|h
 ·rw[←l3n]at h
  exact⟨_,z3g hl h,fun _=>⟨hl',fun i hi=>hs i (Nat.zero_le _) hi⟩⟩
 ·rw[←l3n]at h
  exact⟨true,y3r hl h,fun h=>by cases h⟩
structure OE (f t s h a l:Int):Prop where
 pf:0≤f∧f<256
 pt:0≤t∧t<256
 ps:0≤s∧s≤4611686018427387904
 ph:0≤h∧h≤4611686018427387904
 pl:0≤l∧l≤h
section
variable {f t s h a l:Int}
def hA (a s k:Int):Int:=if k>a∧k≤s then k else a
def hL (l h q:Int):Int:=if h>0 then l+q-h-1 else l
theorem hearOk (he:OE f t s h a l){q k:Int}{p:List Int}(ho:OKL t f q k p)(hn: ¬q≤h):h3e [.n f,.n t,.n (s+1),.n h,.n a,.n l,.l TB (chk (liL t f q k p))]=some (1,[.n 0,.n f,.n t,.n (s+1),.n q,.n (hA a s k),.n (hL l h q),.l TB (chk (liL t f q k p)),.l TB p])∧
  h3d [.n f,.n t,.n s,.n h,.n a,.n l,.l TB (chk (liL t f q k p))]=some (0,[.s (r2b p),.n 0,.n f,.n t,.n s,.n q,.n (hA a s k),.n (hL l h q),.l TB (chk (liL t f q k p))])∧OE f t s q (hA a s k) (hL l h q):=by
 have hs:=he.ps;have hh:=he.ph;have hl:=he.pl
 have hq:q≤4611686018427387904:=by
  have h1:=ho.2.2.1
  rw[Bool.and_eq_true]at h1
  exact(win2 h1.1).2.1
 have ws:IntKind.wrap .i64 (s+1-1)=s:=by rw[w64s (by omega) (by omega)];omega
 have wl1:IntKind.wrap .i64 (l+IntKind.wrap .i64 (IntKind.wrap .i64 (q-h)-(1:Int)))=l+q-h-1:=by
  rw[show IntKind.wrap .i64 (q-h)=q-h from w64s (by omega) (by omega),show IntKind.wrap .i64 (q-h-1)=q-h-1 from w64s (by omega) (by omega),w64s (by omega) (by omega)];omega
 have wl2:IntKind.wrap .i64 (IntKind.wrap .i64 (IntKind.wrap .i64 (l+q)-h)-(1:Int))=l+q-h-1:=by
  rw[show IntKind.wrap .i64 (l+q)=l+q from w64s (by omega) (by omega),show IntKind.wrap .i64 (l+q-h)=l+q-h from w64s (by omega) (by omega)]
  exact w64s (by omega) (by omega)
 have e1:=GL ho
 have e2:=G33 ho
 by_cases h0:h>0
 ·have hL1:hL l h q=l+q-h-1:=if_pos h0
  refine⟨?_,?_,⟨he.pf,he.pt,he.ps,by omega,by rw[hL1];omega⟩⟩
  ·rw[hL1,←wl1]
   by_cases h1:k>a
   ·by_cases h2:k≤s
    ·rw[show hA a s k=k from if_pos ⟨h1,h2⟩];exact w3q e1 rfl rfl rfl hn h0 h1 (by rw[ws];exact h2)
    ·rw[show hA a s k=a from if_neg fun q=>h2 q.2];exact x3h e1 rfl rfl rfl hn h0 h1 (by rw[ws];exact h2)
   ·rw[show hA a s k=a from if_neg fun q=>h1 q.1];exact u3b e1 rfl rfl rfl hn h0 h1
  ·rw[hL1,←wl2]
   by_cases h1:k>a
   ·by_cases h2:k≤s
    ·rw[show hA a s k=k from if_pos ⟨h1,h2⟩];exact u3p e2 rfl rfl rfl hn h0 h1 h2
    ·rw[show hA a s k=a from if_neg fun q=>h2 q.2];exact x3f e2 rfl rfl rfl hn h0 h1 h2
   ·rw[show hA a s k=a from if_neg fun q=>h1 q.1];exact x3g e2 rfl rfl rfl hn h0 h1
 ·have hL1:hL l h q=l:=if_neg h0
  refine⟨?_,?_,⟨he.pf,he.pt,he.ps,by omega,by rw[hL1];omega⟩⟩
  ·rw[hL1]
   by_cases h1:k>a
   ·by_cases h2:k≤s
    ·rw[show hA a s k=k from if_pos ⟨h1,h2⟩];exact x3k e1 rfl rfl rfl hn h0 h1 (by rw[ws];exact h2)
    ·rw[show hA a s k=a from if_neg fun q=>h2 q.2];exact u3a e1 rfl rfl rfl hn h0 h1 (by rw[ws];exact h2)
   ·rw[show hA a s k=a from if_neg fun q=>h1 q.1];exact x3y e1 rfl rfl rfl hn h0 h1
  ·rw[hL1]
   by_cases h1:k>a
   ·by_cases h2:k≤s
    ·rw[show hA a s k=k from if_pos ⟨h1,h2⟩];exact x3z e2 rfl rfl rfl hn h0 h1 h2
    ·rw[show hA a s k=a from if_neg fun q=>h2 q.2];exact y3b e2 rfl rfl rfl hn h0 h1 h2
   ·rw[show hA a s k=a from if_neg fun q=>h1 q.1];exact t3z e2 rfl rfl rfl hn h0 h1
end
theorem z3b (x y s k:Int)(l:List Int):(liL x y s k l).length=19+2+l.length:=by
 unfold liL
 simp only[List.length_append,h3g,List.length_cons,List.length_nil]
section
variable (L:LC) (hl:L.length≤200) (hc: ∀c∈L,okC c) (hb: ∀i,i<L.length→(cB (caAt L i)).length≤6000∧(cL (caAt L i)).length≤6000)
include hl hc hb
end
abbrev LR:=List (Ty.den TR)
abbrev LS:=List (Ty.den TS)
def apW (W:LR)(y:Ty.den TR):LR:=W++[y]
theorem c4i (W:LR)(y:Ty.den TR):(apW W y).length=W.length+1:=by unfold apW;rw[List.length_append,List.length_singleton]
theorem c4l {W:LR}{y x:Ty.den TR}(h:x∈apW W y):x∈W∨x=y:=(List.mem_append.1 h).imp id List.mem_singleton.1
def apS (S:LS)(y:Ty.den TS):LS:=S++[y]
theorem c4t (S:LS)(y:Ty.den TS):(apS S y).length=S.length+1:=by unfold apS;rw[List.length_append,List.length_singleton]
theorem apS_at (S:LS)(y d:Ty.den TS):(apS S y).getD S.length d=y:=by unfold apS;rw[List.getD_eq_getElem?_getD,List.getElem?_append_right (Nat.le_refl _)];simp
theorem ptC (y:LB)(W:LR)(hy:y.length≤100000)(hW:W.length≤64): ∃(e:Int) (W':LR),a4s [.l TB y,.l TR W]=some (0,[.n e,.l TB y,.l TR W'])∧W'.length≤64∧ ∀x∈W',x∈W∨x=y:=by
 by_cases h:(W.length:Int)≥64
 ·exact⟨3,W,d4i h,hW,fun x hx=>.inl hx⟩
 ·refine⟨0,apW W y,d4l h (b4q y (by omega)),?_,fun x hx=> ?_⟩
  ·exact Nat.le_trans (Nat.le_of_eq (c4i W y)) (by omega)
  ·exact c4l hx
theorem piC (y:LB)(W:LR)(hy:y.length≤100000)(hW:W.length≤64): ∃(e:Int) (W':LR),c4o [.l TB y,.l TR W]=some (0,[.n e,.l TR W'])∧W'.length≤64∧ ∀x∈W',x∈W∨x=y:=by
 by_cases h:(W.length:Int)≥64
 ·exact⟨3,W,d4o h,hW,fun x hx=>.inl hx⟩
 ·refine⟨0,apW W y,d4h h (b4q y (by omega)),?_,fun x hx=> ?_⟩
  ·exact Nat.le_trans (Nat.le_of_eq (c4i W y)) (by omega)
  ·exact c4l hx
theorem atM {W:LR}{i:Int}(h0:0≤i)(h1:i<(W.length:Int)):W.getD i.toNat (Ty.dflt TR)∈W:=memS (by omega)
theorem tkC (i:Int)(W:LR)(hW:W.length≤64):a4l [.n i,.l TR W]=some (0,[.n 5,.l TR W])∨ ∃(y:LB) (W':LR),a4l [.n i,.l TR W]=some (1,[.l TB y,.n 0,.l TR W'])∧y∈W∧W'.length≤64∧ ∀x∈W',x∈W:=by
 by_cases h0:i≥0
 ·by_cases h1:i<(W.length:Int)
  ·have hw:IntKind.wrap .i64 (i+(1:Int))=i+1:=w64s (by omega) (by omega)
   have e:=d4a (t:=TR) (i:=i) (j:=i+1) (l:=W) h0 (by omega) (by omega)
   rw[←b4y]at e
   refine .inr ⟨_,_,d4g h0 h1 (by rw[hw];exact e),atM h0 h1,?_,fun x hx=> ?_⟩
   ·rw[List.length_append,List.length_take,List.length_drop];omega
   ·rcases List.mem_append.1 hx with q|q
    ·exact List.mem_of_mem_take q
    ·exact List.mem_of_mem_drop q
  ·exact .inl (d4r h0 h1)
 ·exact .inl (d4b h0)
theorem dbC (i:Int)(W:LR)(hW:W.length≤64)(hl: ∀x∈W,List.length (α:=Ty.den TB) x≤100000): ∃(e:Int) (W':LR),c4c [.n i,.l TR W]=some (0,[.n e,.l TR W'])∧W'.length≤64∧ ∀x∈W',x∈W:=by
 by_cases h0:i≥0
 ·by_cases h1:i<(W.length:Int)
  ·obtain⟨e,W',k1,k2,k3⟩:=piC (W.getD i.toNat (Ty.dflt TR)) W (hl _ (atM h0 h1)) hW
   refine⟨e,W',d4m h0 h1 k1,k2,fun x hx=> ?_⟩
   rcases k3 x hx with q|q
   ·exact q
   ·rw[q];exact atM h0 h1
  ·exact⟨5,W,d4d h0 h1,hW,fun x hx=>hx⟩
 ·exact⟨5,W,d4n h0,hW,fun x hx=>hx⟩
section
variable {f t s h a l:Int}
theorem eiC (he:OE f t s h a l){B:LB}(hB:Wb B)(hs:s<4611686018427387904):a4n [.l TB B,.n f,.n t,.n (s+1),.n h,.n a,.n l]=some (0,[.n 3,.n f,.n t,.n (s+1),.n h,.n a,.n l])∨
  (a4n [.l TB B,.n f,.n t,.n (s+1),.n h,.n a,.n l]=some (1,[.n 0,.n f,.n t,.n (s+1+1),.n h,.n a,.n l,.l TB (chk (liL f t (s+1) h B))])∧OKL f t (s+1) h B):=by
 have hs0:=he.ps;have hh:=he.ph
 by_cases h1:(List.length B:Int)>2048
 ·exact .inl (d4p h1)
 ·have hw:(win 4611686018427387904 [s+1,h]&&decide ((List.length (α:=Int) B:Int)≤2048))=true:=by
   rw[win2_t (by omega),dt (show(List.length (α:=Int) B:Int)≤2048 from Int.not_lt.1 h1)];rfl
  have e1:=p13 f t (s+1) h B he.pf he.pt
  rw[hw]at e1
  have w1:IntKind.wrap .i64 (s+1+1)=s+1+1:=w64s (by omega) (by omega)
  refine .inr ⟨?_,he.pf,he.pt,hw,hB⟩
  have:=c4x (l0:=B) (n1:=f) (n2:=t) (n3:=s+1) (n4:=h) (n5:=a) (n6:=l) h1 (by omega) e1
  rw[w1]at this;exact this
theorem hiC (he:OE f t s h a l){q k:Int}{p:List Int}(ho:OKL t f q k p):(q≤h∧a4m [.l TB (chk (liL t f q k p)),.n f,.n t,.n (s+1),.n h,.n a,.n l]=some (0,[.n 180,.n f,.n t,.n (s+1),.n h,.n a,.n l]))∨
  (¬q≤h∧a4m [.l TB (chk (liL t f q k p)),.n f,.n t,.n (s+1),.n h,.n a,.n l]=some (1,[.n 0,.n f,.n t,.n (s+1),.n q,.n (hA a s k),.n (hL l h q),.l TB p])∧OE f t s q (hA a s k) (hL l h q)):=by
 have hs:=he.ps;have hh:=he.ph;have hl:=he.pl
 by_cases hn:q≤h
 ·exact .inl ⟨hn,d4c (GL ho) rfl rfl rfl hn⟩
 ·refine .inr ⟨hn,?_,(hearOk he ho hn).2.2⟩
  have hq:q≤4611686018427387904:=by
   have h1:=ho.2.2.1
   rw[Bool.and_eq_true]at h1
   exact(win2 h1.1).2.1
  have ws:IntKind.wrap .i64 (s+1-1)=s:=by rw[w64s (by omega) (by omega)];omega
  have wl1:IntKind.wrap .i64 (l+IntKind.wrap .i64 (IntKind.wrap .i64 (q-h)-(1:Int)))=l+q-h-1:=by
   rw[show IntKind.wrap .i64 (q-h)=q-h from w64s (by omega) (by omega),show IntKind.wrap .i64 (q-h-1)=q-h-1 from w64s (by omega) (by omega),w64s (by omega) (by omega)];omega
  have e1:=GL ho
  by_cases h0:h>0
  ·rw[show hL l h q=l+q-h-1 from if_pos h0,←wl1]
   by_cases h1:k>a
   ·by_cases h2:k≤s
    ·rw[show hA a s k=k from if_pos ⟨h1,h2⟩];exact d4f e1 rfl rfl rfl hn h0 h1 (by rw[ws];exact h2)
    ·rw[show hA a s k=a from if_neg fun q=>h2 q.2];exact c4u e1 rfl rfl rfl hn h0 h1 (by rw[ws];exact h2)
   ·rw[show hA a s k=a from if_neg fun q=>h1 q.1];exact c4z e1 rfl rfl rfl hn h0 h1
  ·rw[show hL l h q=l from if_neg h0]
   by_cases h1:k>a
   ·by_cases h2:k≤s
    ·rw[show hA a s k=k from if_pos ⟨h1,h2⟩];exact c4y e1 rfl rfl rfl hn h0 h1 (by rw[ws];exact h2)
    ·rw[show hA a s k=a from if_neg fun q=>h2 q.2];exact d4q e1 rfl rfl rfl hn h0 h1 (by rw[ws];exact h2)
   ·rw[show hA a s k=a from if_neg fun q=>h1 q.1];exact d4j e1 rfl rfl rfl hn h0 h1
end
def nonS:Ty.den TS:=(ByteArray.mk #[110,111,110,101]:ByteArray)
def nonR (n:Nat):LS:=List.replicate n nonS
structure FrA (S:LS)(x:Ty.den TR):Prop where
 ex: ∃(q k:Int) (p:List Int),OKL 1 2 q k p∧x=chk (liL 1 2 q k p)∧1≤q∧q≤(S.length:Int)∧S.getD (q-1).toNat (Ty.dflt TS)=r2b p
structure FrB (hb:Int)(x:Ty.den TR):Prop where
 ex: ∃(q k:Int) (p:List Int),OKL 2 1 q k p∧x=chk (liL 2 1 q k p)∧k≤hb
theorem FrA.app {S:LS}{x:Ty.den TR}(h:FrA S x)(R:LS):FrA (S++R) x:=by
 obtain⟨q,k,p,h1,h2,h3,h4,h5⟩:=h.ex
 refine⟨q,k,p,h1,h2,h3,by rw[List.length_append];omega,?_⟩
 rw[←h5]
 simp only[List.getD_eq_getElem?_getD]
 rw[List.getElem?_append_left (by omega)]
theorem FrB.up {a b:Int}{x:Ty.den TR}(h:FrB a x)(hab:a≤b):FrB b x:=by
 obtain⟨q,k,p,h1,h2,h3⟩:=h.ex
 exact⟨q,k,p,h1,h2,by omega⟩
theorem b4z {f t q k:Int}{p:List Int}(h:OKL f t q k p):(chk (liL f t q k p)).length≤100000:=by
 have h1:=h.2.2.1
 rw[Bool.and_eq_true]at h1
 have:=of_decide_eq_true h1.2
 rw[k3r,z3b];omega
structure INV (k:Nat)(s ha aa la sb hb ab lb:Int)(S:LS)(W V:LR):Prop where
 a:OE 1 2 s ha aa la
 b:OE 2 1 sb hb ab lb
 sl:s=(S.length:Int)
 sk:S.length≤40*k
 sb:sb≤(k:Int)
 ahb:aa≤hb
 hbs:hb≤(S.length:Int)
 w: ∀x∈W,FrA S x
 v: ∀x∈V,FrB hb x
 wl:W.length≤64
 vl:V.length≤64
abbrev eAll (L:LC)(k:Nat)(s ha aa la sb hb ab lb:Int)(S:LS)(W V:LR):List Dat:=[.k 0,.l t0c L,.n hb,.n (k:Int),.n 1,.n 2,.n (s+1),.n ha,.n aa,.n la,.n 2,.n 1,.n (sb+1),.n hb,.n ab,.n lb,.l TS S,.l TR W,.l TR V]
theorem INV.up {k:Nat}{s ha aa la sb hb ab lb:Int}{S:LS}{W V:LR}(h:INV k s ha aa la sb hb ab lb S W V):INV (k+1) s ha aa la sb hb ab lb S W V:=
 ⟨h.a,h.b,h.sl,by have:=h.sk;omega,by have:=h.sb;omega,h.ahb,h.hbs,h.w,h.v,h.wl,h.vl⟩
theorem lp44 (L:LC)(n1 F:Int)(n3:Int)(hF:F≤1000000)(x0 x1 x2 x3 x4 x5 y0 y1 y2 y3 y4 y5:Int)(W V:LR): ∀m (k:Int) (S:LS),0≤k→k≤F→S.length+(F-k).toNat≤100000→(F-k).toNat<m→
  a0b a4q m [.k 0,.l t0c L,.n n1,.n F,.n n3,.n k,.n x0,.n x1,.n x2,.n x3,.n x4,.n x5,.l TS S,.n y0,.n y1,.n y2,.n y3,.n y4,.n y5,.l TR W,.l TR V]=some (0,[.l t0c L,.n n1,.n F,.n n3,.n x0,.n x1,.n x2,.n x3,.n x4,.n x5,.l TS (S++nonR (F-k).toNat),.n y0,.n y1,.n y2,.n y3,.n y4,.n y5,.l TR W,.l TR V]):=by
 intro m
 induction m with
 |zero=>intro k S _ _ _ hm;omega
 |succ m ih=>
  intro k S h0 hk hS hm
  by_cases q:k<F
  ·have hw:IntKind.wrap .i64 (k+(1:Int))=k+1:=w64s (by omega) (by omega)
   have e:(F-k).toNat=(F-(k+1)).toNat+1:=by omega
   have st:=c4b (l0:=L) (n1:=n1) (n2:=F) (n3:=n3) (n4:=k) (n5:=x0) (n6:=x1) (n7:=x2) (n8:=x3) (n9:=x4) (n10:=x5) (l11:=S) (n12:=y0) (n13:=y1) (n14:=y2) (n15:=y3) (n16:=y4) (n17:=y5) (l18:=W) (l19:=V) (by omega) q
   refine(v0e st).trans ?_
   rw[hw]
   refine(ih (k+1) (S++[nonS]) (by omega) (by omega) (by rw[List.length_append,List.length_singleton];omega) (by omega)).trans ?_
   rw[e]
   unfold nonR
   rw[List.replicate_succ,List.append_assoc];rfl
  ·have e:(F-k).toNat=0:=by omega
   rw[e]
   unfold nonR
   rw[List.replicate_zero,List.append_nil]
   exact c0a (c4f (by omega) q)
section
variable (L:LC) (hl:L.length≤200) (hc: ∀c∈L,okC c) (hb6: ∀i,i<L.length→(cB (caAt L i)).length≤6000∧(cL (caAt L i)).length≤6000)
include hl hc hb6
theorem l412: ∀m k:Nat,∀(s ha aa la sb hb ab lb:Int) (S:LS) (W V:LR),INV k s ha aa la sb hb ab lb S W V→k≤L.length→L.length-k<m→
  ∃sb' hb' ab' lb':Int,a0b a4k m (eAll L k s ha aa la sb hb ab lb S W V)=some (0,[.n 2,.n 1,.n sb',.n hb',.n ab',.n lb'])∧lb'≤hb':=by
 intro m
 induction m with
 |zero=>intro k s ha aa la sb hb ab lb S W V _ _ hm;omega
 |succ m ih=>
  intro k s ha aa la sb hb ab lb S W V hi hk hm
  by_cases q:k<L.length
  ·have ok:okC (caAt L k):=hc _ (memS (d:=Ty.dflt t0c) q)
   obtain⟨b1,b2⟩:=hb6 k q
   have g1:(k:Int)<(L.length:Int):=Int.ofNat_lt.2 q
   have hsk:=hi.sk;have hsb:=hi.sb;have hsl:=hi.sl
   have g2:S.length≤100000:=by omega
   have fin: ∀(s1 ha1 aa1 la1 sb1 hb1 ab1 lb1:Int) (S1:LS) (W1 V1:LR),INV (k+1) s1 ha1 aa1 la1 sb1 hb1 ab1 lb1 S1 W1 V1→(a4k (eAll L k s ha aa la sb hb ab lb S W V)).sel=some (Step.go [.k 0,.l t0c L,.n hb1,.n (IntKind.wrap .i64 ((k:Int)+(1:Int))),.n 1,.n 2,.n (s1+1),.n ha1,.n aa1,.n la1,.n 2,.n 1,.n (sb1+1),.n hb1,.n ab1,.n lb1,.l TS S1,.l TR W1,.l TR V1])→
     ∃sb' hb' ab' lb':Int,a0b a4k (m+1) (eAll L k s ha aa la sb hb ab lb S W V)=some (0,[.n 2,.n 1,.n sb',.n hb',.n ab',.n lb'])∧lb'≤hb':=by
    intro s1 ha1 aa1 la1 sb1 hb1 ab1 lb1 S1 W1 V1 h1 hst
    obtain⟨x1,x2,x3,x4,e1,e2⟩:=ih (k+1) s1 ha1 aa1 la1 sb1 hb1 ab1 lb1 S1 W1 V1 h1 (by omega) (by omega)
    rw[w1n k (by omega)]at hst
    exact⟨x1,x2,x3,x4,(v0e hst).trans e1,e2⟩
   have hk8:0≤Int.tmod (cK (caAt L k)) 8∧Int.tmod (cK (caAt L k)) 8<8:=by
    have:=ok.k0;rw[Int.tmod_eq_emod_of_nonneg this.1];omega
   obtain⟨v,hv⟩: ∃v,Int.tmod (cK (caAt L k)) 8=v:=⟨_,rfl⟩
   rw[hv]at hk8
   have hlW: ∀x∈W,List.length (α:=Ty.den TB) x≤100000:=fun x hx=>by
    obtain⟨q,k,p,h1,h2,_⟩:=(hi.w x hx).ex
    rw[h2];exact b4z h1
   have hv8:v=0∨v=1∨v=2∨v=3∨v=4∨v=5∨v=6∨v=7:=by omega
   rcases hv8 with rfl|rfl|rfl|rfl|rfl|rfl|rfl|rfl
   ·rcases eiC hi.a (B:=cB (caAt L k)) ok.wb (by omega)with e1|⟨e1,e2⟩
    ·exact fin _ _ _ _ _ _ _ _ _ _ _ hi.up (b4l (by omega) g1 g2 hv e1)
    ·obtain⟨e,W',e3,e4,e5⟩:=ptC _ W (b4z e2) hi.wl
     refine fin (s+1) ha aa la sb hb ab lb (apS S (r2b (cB (caAt L k)))) W' V ?_ (b4b (by omega) g1 g2 hv e1 e3)
     have hn:(apS S (r2b (cB (caAt L k)))).length=S.length+1:=c4t _ _
     refine⟨⟨hi.a.pf,hi.a.pt,by omega,hi.a.ph,hi.a.pl⟩,hi.b,by rw[hn];omega,by rw[hn];omega,by omega,hi.ahb,by have:=hi.hbs;rw[hn];omega,fun x hx=> ?_,hi.v,e4,hi.vl⟩
     rcases e5 x hx with u|u
     ·exact(hi.w x u).app _
     ·refine⟨s+1,ha,cB (caAt L k),e2,u,by have:=hi.a.ps;omega,by rw[hn];omega,?_⟩
      rw[show(s+1-1).toNat=S.length by omega]
      exact apS_at _ _ _
   ·rcases eiC hi.a (B:=cB (caAt L k)) ok.wb (by omega)with e1|⟨e1,e2⟩
    ·exact fin _ _ _ _ _ _ _ _ _ _ _ hi.up (b4h (by omega) g1 g2 hv e1)
    ·obtain⟨e,W',e3,e4,e5⟩:=ptC _ W (b4z e2) hi.wl
     refine fin (s+1) ha aa la sb hb ab lb (apS S (r2b (cB (caAt L k)))) W' V ?_ (b4i (by omega) g1 g2 hv e1 e3)
     have hn:(apS S (r2b (cB (caAt L k)))).length=S.length+1:=c4t _ _
     refine⟨⟨hi.a.pf,hi.a.pt,by omega,hi.a.ph,hi.a.pl⟩,hi.b,by rw[hn];omega,by rw[hn];omega,by omega,hi.ahb,by have:=hi.hbs;rw[hn];omega,fun x hx=> ?_,hi.v,e4,hi.vl⟩
     rcases e5 x hx with u|u
     ·exact(hi.w x u).app _
     ·refine⟨s+1,ha,cB (caAt L k),e2,u,by have:=hi.a.ps;omega,by rw[hn];omega,?_⟩
      rw[show(s+1-1).toNat=S.length by omega]
      exact apS_at _ _ _
   ·have hv2: ∀(sb1:Int) (V1 V2:LR) (y:LB),OE 2 1 sb1 hb ab lb→sb1≤(k:Int)+1→(∀x∈V1,FrB hb x)→y∈V1→V2.length≤64→(∀x∈V2,x∈V1)→
      ((∃c:Int,a4m [.l TB y,.n 1,.n 2,.n (s+1),.n ha,.n aa,.n la]=some (0,[.n 180,.n 1,.n 2,.n (s+1),.n ha,.n aa,.n la])∧INV (k+1) s ha aa la sb1 hb ab lb S W V2)∨
       (∃(ha1 aa1 la1:Int) (p:List Int),a4m [.l TB y,.n 1,.n 2,.n (s+1),.n ha,.n aa,.n la]=some (1,[.n 0,.n 1,.n 2,.n (s+1),.n ha1,.n aa1,.n la1,.l TB p])∧aa1≤hb∧INV (k+1) s ha1 aa1 la1 sb1 hb ab lb S W V2)):=by
     intro sb1 V1 V2 y hb1 hs1 hV1 hy hl2 hV2
     obtain⟨q1,k1,p,f1,f2,f3⟩:=(hV1 y hy).ex
     rw[f2]
     rcases hiC hi.a f1 with⟨n1,n2⟩|⟨n1,n2,n3⟩
     ·exact .inl ⟨0,n2,hi.a,hb1,hi.sl,by omega,hs1,hi.ahb,hi.hbs,hi.w,fun x hx=>hV1 x (hV2 x hx),hi.wl,hl2⟩
     ·have h9:hA aa s k1≤hb:=by
       have:=hi.ahb
       unfold hA;split<;>omega
      exact .inr ⟨_,_,_,p,n2,h9,n3,hb1,hi.sl,by omega,hs1,h9,hi.hbs,hi.w,fun x hx=>hV1 x (hV2 x hx),hi.wl,hl2⟩
    have hz:=hi.ahb
    rcases eiC hi.b (B:=cB (caAt L k)) ok.wb (by omega)with e1|⟨e1,e2⟩
    ·rcases tkC 0 V hi.vl with e6|⟨y,V2,e6,e7,e8,e9⟩
     ·exact fin _ _ _ _ _ _ _ _ _ _ _ hi.up (a4w (by omega) g1 g2 hv e1 e6 hz)
     ·rcases hv2 sb V V2 y hi.b (by omega) hi.v e7 e8 e9 with⟨_,u1,u2⟩|⟨ha1,aa1,la1,p,u1,u3,u2⟩
      ·exact fin _ _ _ _ _ _ _ _ _ _ _ u2 (a4v (n16:=180) (by omega) g1 g2 hv e1 e6 u1 hz)
      ·exact fin _ _ _ _ _ _ _ _ _ _ _ u2 (a4y (by omega) g1 g2 hv e1 e6 u1 u3)
    ·obtain⟨e,V1,e3,e4,e5⟩:=ptC _ V (b4z e2) hi.vl
     have hV1: ∀x∈V1,FrB hb x:=fun x hx=>by
      rcases e5 x hx with u|u
      ·exact hi.v x u
      ·exact⟨sb+1,hb,cB (caAt L k),e2,u,Int.le_refl _⟩
     have hb1:OE 2 1 (sb+1) hb ab lb:=⟨hi.b.pf,hi.b.pt,by have:=hi.b.ps;omega,hi.b.ph,hi.b.pl⟩
     rcases tkC 0 V1 e4 with e6|⟨y,V2,e6,e7,e8,e9⟩
     ·refine fin s ha aa la (sb+1) hb ab lb S W V1 ⟨hi.a,hb1,hi.sl,by omega,by omega,hi.ahb,hi.hbs,hi.w,hV1,hi.wl,e4⟩ (b4m (by omega) g1 g2 hv e1 e3 e6 hz)
     ·rcases hv2 (sb+1) V1 V2 y hb1 (by omega) hV1 e7 e8 e9 with⟨_,u1,u2⟩|⟨ha1,aa1,la1,p,u1,u3,u2⟩
      ·exact fin _ _ _ _ _ _ _ _ _ _ _ u2 (b4a (n20:=180) (by omega) g1 g2 hv e1 e3 e6 u1 hz)
      ·exact fin _ _ _ _ _ _ _ _ _ _ _ u2 (b4j (by omega) g1 g2 hv e1 e3 e6 u1 u3)
   ·have hps:=hi.a.ps
    have hk0:=ok.k0
    have hd:Int.tdiv (cK (caAt L k)) 8=cK (caAt L k)/8:=Int.tdiv_eq_ediv_of_nonneg hk0.1
    obtain⟨d,hd2⟩: ∃d:Int,d=cK (caAt L k)/8:=⟨_,rfl⟩
    have hd3:0≤d∧d≤31:=by omega
    have w1:IntKind.wrap .i64 (s+1-(1:Int))=s:=by rw[w64s (by omega) (by omega)];omega
    have w2:IntKind.wrap .i64 (s+(1:Int))=s+1:=w64s (by omega) (by omega)
    have w3:IntKind.wrap .i64 (IntKind.wrap .u8 (Int.tdiv (cK (caAt L k)) 8))=d:=by
     rw[hd,←hd2,show IntKind.wrap .u8 d=d from by rw[wu8];omega];exact w64s (by omega) (by omega)
    have wF:IntKind.wrap .i64 (IntKind.wrap .i64 (IntKind.wrap .i64 (s+1-(1:Int))+(1:Int))+IntKind.wrap .i64 (IntKind.wrap .u8 (Int.tdiv (cK (caAt L k)) (8:Int))))=s+1+d:=by
     rw[w1,w2,w3];exact w64s (by omega) (by omega)
    have e44:=lp44 L hb (s+1+d) (k:Int) (by omega) 2 1 (sb+1) hb ab lb 1 2 (s+1+d) 0 0 0 W V FU (s+1) S (by omega) (by omega) (by omega) (b1w (by omega))
    rw[show(s+1+d-(s+1)).toNat=d.toNat by omega,←c4e]at e44
    have st:=b4o (l0:=L) (n1:=hb) (n2:=(k:Int)) (n3:=s+1) (n4:=ha) (n5:=aa) (n6:=la) (n7:=sb+1) (n8:=hb) (n9:=ab) (n10:=lb) (l11:=S) (l12:=W) (l13:=V) (l14:=S++nonR d.toNat) (by omega) g1 g2 hv (by erw[wF];omega) (by erw[wF];omega) (by erw[wF,w1,w2];exact e44)
    erw[wF]at st
    have hn:(S++nonR d.toNat).length=S.length+d.toNat:=by unfold nonR;rw[List.length_append,List.length_replicate]
    have hbs:=hi.hbs
    refine fin (s+d) 0 0 0 sb hb ab lb (S++nonR d.toNat) W V ⟨⟨hi.a.pf,hi.a.pt,by omega,by omega,by omega⟩,hi.b,by rw[hn];omega,by rw[hn];omega,by omega,hi.b.ph.1,by rw[hn];omega,fun x hx=>(hi.w x hx).app _,hi.v,hi.wl,hi.vl⟩ ?_
    rw[show s+d+1=s+1+d by omega]
    exact st
   ·rcases tkC _ W hi.wl with e6|⟨y,W2,e6,e7,e8,e9⟩
    ·exact fin _ _ _ _ _ _ _ _ _ _ _ hi.up (b4g (by omega) g1 g2 hv e6)
    ·obtain⟨q1,k1,p,f1,f2,f3,f4,f5⟩:=(hi.w y e7).ex
     rw[f2]at e6
     rcases hiC hi.b f1 with⟨n1,n2⟩|⟨n1,n2,n3⟩
     ·exact fin s ha aa la sb hb ab lb S W2 V ⟨hi.a,hi.b,hi.sl,by omega,by omega,hi.ahb,hi.hbs,fun x hx=>hi.w x (e9 x hx),hi.v,e8,hi.vl⟩ (a4z (by omega) g1 g2 hv e6 n2)
     ·have hw:IntKind.wrap .i64 (q1-(1:Int))=q1-1:=w64s (by omega) (by omega)
      have hz:=hi.ahb
      have f6:f0b (r2b p) (List.getD S (q1-1).toNat (Ty.dflt TS))=true:=(congrArg (f0b (r2b p)) f5).trans (h3v _)
      refine fin s ha aa la sb q1 _ _ S W2 V ⟨hi.a,n3,hi.sl,by omega,by omega,by omega,f4,fun x hx=>hi.w x (e9 x hx),fun x hx=>(hi.v x hx).up (by omega),e8,hi.vl⟩ (b4d (by omega) g1 g2 hv e6 n2 n1 f4 hw (by omega) f6 ((congrArg (fun z:Int=>f0b (r2b p) (List.getD S z.toNat (Ty.dflt TS))) hw).trans f6))
   ·rcases tkC _ W hi.wl with e6|⟨y,W2,e6,e7,e8,e9⟩
    ·exact fin _ _ _ _ _ _ _ _ _ _ _ hi.up (b4c (by omega) g1 g2 hv e6)
    ·obtain⟨q1,k1,p,f1,f2,f3,f4,f5⟩:=(hi.w y e7).ex
     rw[f2]at e6
     rcases hiC hi.b f1 with⟨n1,n2⟩|⟨n1,n2,n3⟩
     ·exact fin s ha aa la sb hb ab lb S W2 V ⟨hi.a,hi.b,hi.sl,by omega,by omega,hi.ahb,hi.hbs,fun x hx=>hi.w x (e9 x hx),hi.v,e8,hi.vl⟩ (b4e (by omega) g1 g2 hv e6 n2)
     ·have hw:IntKind.wrap .i64 (q1-(1:Int))=q1-1:=w64s (by omega) (by omega)
      have hz:=hi.ahb
      have f6:f0b (r2b p) (List.getD S (q1-1).toNat (Ty.dflt TS))=true:=(congrArg (f0b (r2b p)) f5).trans (h3v _)
      refine fin s ha aa la sb q1 _ _ S W2 V ⟨hi.a,n3,hi.sl,by omega,by omega,by omega,f4,fun x hx=>hi.w x (e9 x hx),fun x hx=>(hi.v x hx).up (by omega),e8,hi.vl⟩ (b4f (by omega) g1 g2 hv e6 n2 n1 f4 hw (by omega) f6 ((congrArg (fun z:Int=>f0b (r2b p) (List.getD S z.toNat (Ty.dflt TS))) hw).trans f6))
   ·rcases tkC _ W hi.wl with e6|⟨y,W2,e6,e7,e8,e9⟩
    ·exact fin _ _ _ _ _ _ _ _ _ _ _ hi.up (a4u (by omega) g1 g2 hv e6)
    ·exact fin s ha aa la sb hb ab lb S W2 V ⟨hi.a,hi.b,hi.sl,by omega,by omega,hi.ahb,hi.hbs,fun x hx=>hi.w x (e9 x hx),hi.v,e8,hi.vl⟩ (b4k (by omega) g1 g2 hv e6)
   ·obtain⟨e,W2,e6,e8,e9⟩:=dbC _ W hi.wl hlW
    exact fin s ha aa la sb hb ab lb S W2 V ⟨hi.a,hi.b,hi.sl,by omega,by omega,hi.ahb,hi.hbs,fun x hx=>hi.w x (e9 x hx),hi.v,e8,hi.vl⟩ (b4p (by omega) g1 g2 hv e6)
  ·exact⟨_,_,_,_,c0a (c4d (n3:=s+1) (n4:=ha) (n5:=aa) (n6:=la) (by omega) (by omega)),hi.b.pl.2⟩
end
theorem W4_all (L:LC)(hl:wfD (.sl t0c) L=true):(d4t [.l t0c L]).sel=some true:=by
 have e9:op_9 []=some (0,[.b true]):=rfl
 obtain⟨x,e,hx⟩:=l7x L
 cases x with
 |true=>exact d4e e rfl e9
 |false=>
  obtain⟨h1,h2⟩:=hx rfl
  have o1:OE 1 2 0 0 0 0:=⟨by omega,by omega,by omega,by omega,by omega⟩
  have o2:OE 2 1 0 0 0 0:=⟨by omega,by omega,by omega,by omega,by omega⟩
  obtain⟨x1,x2,x3,x4,e1,e2⟩:=l412 L h1 (fun c q=>okC_wf (wfAll hl c q)) h2 FU 0 0 0 0 0 0 0 0 0 [] [] [] ⟨o1,o2,rfl,Nat.zero_le _,Int.le_refl _,Int.le_refl _,Int.le_refl _,(fun x hx=>by cases hx),(fun x hx=>by cases hx),Nat.zero_le _,Nat.zero_le _⟩ (Nat.zero_le _) (b1w (by omega))
  rw[←c4g]at e1
  exact c4v e rfl e1 e2 e9
end Go.Proofs.Ythkdhfejnbineaa.Vx
end
