import Derived.Test.YtlambinleegdoaaZ13e
import Derived.KernelRfl
noncomputable section
namespace Go.Proofs.Ytlambinleegdoaa.Vx
open Go Go.RowKit
set_option linter.unusedVariables false
set_option linter.unusedSimpArgs false
set_option maxRecDepth 100000
set_option maxHeartbeats 4000000
theorem k3a {f:FuncId}{args:List PV}{outs:List (PV×List PB)}{op op':List Dat→Option (Nat×List Dat)}(h: ∀env y,op' env=some y→op env=some y)(k:a0v Try.prog f (a0j (mkF args [] [] outs op))):a0v Try.prog f (a0j (mkF args [] [] outs op')):=by
 intro args0 s v s1 hrun
 refine k args0 s v s1 ?_
 unfold a0j at hrun⊢
 cases hf:fitS (mkF args [] [] outs op').args (mkF args [] [] outs op').blks args0 s with
 |none=>rw[hf]at hrun;cases hrun
 |some env=>
  rw[hf]at hrun
  have hf':fitS (mkF args [] [] outs op).args (mkF args [] [] outs op).blks args0 s=some env:=hf
  rw[hf']
  obtain⟨x,h1,h2⟩:=Tree.bind_some hrun
  have h3:=h env x (i0g h1)
  have h4:op env=op' env:=h3.trans (i0g h1).symm
  have e:(mkF args [] [] outs op).fn env=(mkF args [] [] outs op').fn env:=by
   show outT _ 0 (op env)=outT _ 0 (op' env)
   rw[h4]
  show(((mkF args [] [] outs op).fn env).bind fun x=>match outs[x.1]? with|some o=>Tree.leaf (instV o.1 x.2,(⟨instBs o.2 x.2,[]⟩:SW))|none=>.bad 321).sel=some (v,s1)
  rw[e]
  exact hrun
theorem s3h {R:LSh}{c:Code}{op op':OpA}(h: ∀env y,op' env=some y→op env=some y)(k:LRun (mkMA R op) c):LRun (mkMA R op') c:=by
 intro t s x hrun
 refine k t s x ?_
 unfold a0h at hrun⊢
 cases hf:w0v (mkMA R op').K (nilT (mkMA R op').nils t (cvT (mkMA R op').cv t s)).1 (nilT (mkMA R op').nils t (cvT (mkMA R op').cv t s)).2 (mkMA R op').ins 0 with
 |none=>rw[hf]at hrun;cases hrun
 |some env=>
  rw[hf]at hrun
  have hf':w0v (mkMA R op).K (nilT (mkMA R op).nils t (cvT (mkMA R op).cv t s)).1 (nilT (mkMA R op).nils t (cvT (mkMA R op).cv t s)).2 (mkMA R op).ins 0=some env:=hf
  rw[hf']
  cases ho:op' env with
  |none=>
   have:((Tree.ask (op' env) fun r=>outT (R.outs.map fun o=>q3n o.2.1 o.2.2) 0 r).bind fun x=>match R.outs[x.1]? with|some o=>Tree.leaf (o.1,instL o.2.1 x.2,(⟨instBs o.2.2 x.2,m0j R.log (cvT R.cv t s).log⟩:SW))|none=>.bad 331).sel=some x:=hrun
   obtain⟨z,h1,h2⟩:=Tree.bind_some this
   have h1':(outT (R.outs.map fun o=>q3n o.2.1 o.2.2) 0 (op' env)).sel=some z:=h1
   have:=i0g h1'
   rw[ho]at this;cases this
  |some y=>
   have e:(mkMA R op).fn env=(mkMA R op').fn env:=by
    show Tree.ask (op env) _=Tree.ask (op' env) _
    rw[h env y ho,ho]
   show(((mkMA R op).fn env).bind fun x=>match R.outs[x.1]? with|some o=>Tree.leaf (o.1,instL o.2.1 x.2,(⟨instBs o.2.2 x.2,m0j R.log (cvT R.cv t s).log⟩:SW))|none=>.bad 331).sel=some x
   rw[e]
   exact hrun
theorem bifS {α:Type}{c:Bool}{x y:α}(h:(bif c then some x else none)=some y):c=true∧y=x:=by
 cases c with
 |true=>exact⟨rfl,(Option.some.inj h).symm⟩
 |false=>cases h
def tp9 (d:List Dat):Option (Nat×List Dat):=bif h1z [.n,.n,.n,.n,.n,.l TC] d&&(r8 (gn d 0)&&decide ((gl TC d 5).length≤1000))then some (0,[.l TB (bif (gl TC d 5).all h3w&&(win 1099511627776 [(gn d 1)]&&decide (((gl TC d 5).length:Int)≤8))then chk (inL (gn d 0) (gn d 1) (gn d 2) (gn d 3) (gn d 4) (gl TC d 5))else[])])else none
theorem tp9_ok (env:List Dat)(y:Nat×List Dat)(h:tp9 env=some y):k3m env=some y:=by
 obtain⟨hc,rfl⟩:=bifS h
 rw[Bool.and_eq_true]at hc
 obtain⟨hk,h1⟩:=hc
 obtain⟨x0,_,rfl,fk0⟩:=t0c hk
 obtain⟨x1,_,rfl,fk1⟩:=t0c fk0
 obtain⟨x2,_,rfl,fk2⟩:=t0c fk1
 obtain⟨x3,_,rfl,fk3⟩:=t0c fk2
 obtain⟨x4,_,rfl,fk4⟩:=t0c fk3
 obtain⟨x5,_,rfl,fk5⟩:=t1c fk4
 cases h3p fk5
 simp only[Bool.and_eq_true,decide_eq_true_eq,and_true]at h1
 exact p9 _ _ _ _ _ _ (l3s h1.1).1 (l3s h1.1).2 h1.2
def tp10 (d:List Dat):Option (Nat×List Dat):=bif h1z [.n,.n,.n,.n,.n] d&&(r8 (gn d 0)&&true)then some (0,[.l TB (bif win 1099511627776 [(gn d 1),(gn d 2)]then chk (outB (gn d 0) (gn d 1) (gn d 2) (gn d 3) (gn d 4))else[])])else none
theorem tp10_ok (env:List Dat)(y:Nat×List Dat)(h:tp10 env=some y):i3w env=some y:=by
 obtain⟨hc,rfl⟩:=bifS h
 rw[Bool.and_eq_true]at hc
 obtain⟨hk,h1⟩:=hc
 obtain⟨x0,_,rfl,fk0⟩:=t0c hk
 obtain⟨x1,_,rfl,fk1⟩:=t0c fk0
 obtain⟨x2,_,rfl,fk2⟩:=t0c fk1
 obtain⟨x3,_,rfl,fk3⟩:=t0c fk2
 obtain⟨x4,_,rfl,fk4⟩:=t0c fk3
 cases h3p fk4
 simp only[Bool.and_eq_true,decide_eq_true_eq,and_true]at h1
 replace h1:=And.intro h1 True.intro
 exact p10 _ _ _ _ _ (l3s h1.1).1 (l3s h1.1).2
def tp11 (d:List Dat):Option (Nat×List Dat):=bif h1z [.n,.n,.n,.l TB,.n] d&&(decide ((gl TB d 3).length=64)&&true)then some (0,[.l TB (chk (3::stL (gn d 0) (gn d 1) (gn d 2) (gl TB d 3) (gn d 4)))])else none
theorem tp11_ok (env:List Dat)(y:Nat×List Dat)(h:tp11 env=some y):j3d env=some y:=by
 obtain⟨hc,rfl⟩:=bifS h
 rw[Bool.and_eq_true]at hc
 obtain⟨hk,h1⟩:=hc
 obtain⟨x0,_,rfl,fk0⟩:=t0c hk
 obtain⟨x1,_,rfl,fk1⟩:=t0c fk0
 obtain⟨x2,_,rfl,fk2⟩:=t0c fk1
 obtain⟨x3,_,rfl,fk3⟩:=t1c fk2
 obtain⟨x4,_,rfl,fk4⟩:=t0c fk3
 cases h3p fk4
 simp only[Bool.and_eq_true,decide_eq_true_eq,and_true]at h1
 replace h1:=And.intro h1 True.intro
 exact p11 _ _ _ _ _ h1.1
def tp12 (d:List Dat):Option (Nat×List Dat):=bif h1z [.n,.n,.n,.n,.n,.l TB,.n] d&&(decide ((gl TB d 5).length=64)&&true)then some (0,[.l TB (bif win 1099511627776 [(gn d 0),(gn d 1)]then chk (logL (gn d 0) (gn d 1) (gn d 2) (gn d 3) (gn d 4) (gl TB d 5) (gn d 6))else[])])else none
theorem tp12_ok (env:List Dat)(y:Nat×List Dat)(h:tp12 env=some y):i3t env=some y:=by
 obtain⟨hc,rfl⟩:=bifS h
 rw[Bool.and_eq_true]at hc
 obtain⟨hk,h1⟩:=hc
 obtain⟨x0,_,rfl,fk0⟩:=t0c hk
 obtain⟨x1,_,rfl,fk1⟩:=t0c fk0
 obtain⟨x2,_,rfl,fk2⟩:=t0c fk1
 obtain⟨x3,_,rfl,fk3⟩:=t0c fk2
 obtain⟨x4,_,rfl,fk4⟩:=t0c fk3
 obtain⟨x5,_,rfl,fk5⟩:=t1c fk4
 obtain⟨x6,_,rfl,fk6⟩:=t0c fk5
 cases h3p fk6
 simp only[Bool.and_eq_true,decide_eq_true_eq,and_true]at h1
 replace h1:=And.intro h1 True.intro
 exact p12 _ _ _ _ _ _ _ h1.1
def tp13 (d:List Dat):Option (Nat×List Dat):=bif h1z [.n,.n,.n,.n,.l TB] d&&(r8 (gn d 0)&&r8 (gn d 1))then some (0,[.l TB (bif win 4611686018427387904 [(gn d 2),(gn d 3)]&&decide (((gl TB d 4).length:Int)≤2048)then chk (liL (gn d 0) (gn d 1) (gn d 2) (gn d 3) (gl TB d 4))else[])])else none
theorem tp13_ok (env:List Dat)(y:Nat×List Dat)(h:tp13 env=some y):i3u env=some y:=by
 obtain⟨hc,rfl⟩:=bifS h
 rw[Bool.and_eq_true]at hc
 obtain⟨hk,h1⟩:=hc
 obtain⟨x0,_,rfl,fk0⟩:=t0c hk
 obtain⟨x1,_,rfl,fk1⟩:=t0c fk0
 obtain⟨x2,_,rfl,fk2⟩:=t0c fk1
 obtain⟨x3,_,rfl,fk3⟩:=t0c fk2
 obtain⟨x4,_,rfl,fk4⟩:=t1c fk3
 cases h3p fk4
 simp only[Bool.and_eq_true,decide_eq_true_eq,and_true]at h1
 exact p13 _ _ _ _ _ (l3s h1.1) (l3s h1.2)
def c0L:List (Int×Int):=[(1,63),(3,0)]
def eqLi (a b:List Int):Bool:=a==b
theorem h3g {a b:List Int}(h:eqLi a b=true):a=b:=eq_of_beq h
def eqLc (a b:List (Int×Int)):Bool:=a==b
theorem k4y {a b:List (Int×Int)}(h:eqLc a b=true):a=b:=eq_of_beq h
def frI:List Int:=[1,1,0,0,0,0,0,0,0,5,0,0,0,0,0,0,0,3,0,0,0,4,0,0,0,5,2,1,63,3,0,243,38,129,208]
def frO:List Int:=[2,2,0,0,1,0,0,0,0,0,0,0,0,0,0,0,0,1,0,0,0,0,0,0,0,0,0,0,0,0,132,65,53,255]
def frS:List Int:=[3,0,0,0,0,0,0,0,1,0,0,0,0,0,0,0,2,0,0,0,0,0,0,0,3,0,0,0,0,0,0,0,0,0,0,0,0,0,0,0,0,0,0,0,0,0,0,0,0,0,0,0,0,0,0,0,0,0,0,0,0,0,0,0,0,0,0,0,0,0,0,0,0,0,0,0,0,0,0,0,0,0,0,0,0,0,0,0,9,0,0,0,4,227,209,67,2]
def frG:List Int:=[4,0,0,0,0,0,0,0,3,0,0,0,0,0,0,0,4,0,0,0,0,0,0,0,1,0,0,0,0,0,0,0,2,0,0,0,0,0,0,0,3,0,0,0,0,0,0,0,0,0,0,0,0,0,0,0,0,0,0,0,0,0,0,0,0,0,0,0,0,0,0,0,0,0,0,0,0,0,0,0,0,0,0,0,0,0,0,0,0,0,0,0,0,0,0,0,0,0,0,0,0,0,0,0,9,0,0,0,4,124,226,65,208]
def frL:List Int:=[5,1,2,0,0,0,0,0,0,0,3,64,0,0,0,0,0,0,0,0,2,97,98,75,20,95,124]
theorem EI:frI=chk (inL 1 5 3 4 5 c0L):=by kernel_rfl
theorem EO:frO=chk (outB 2 1099511627776 1 0 0):=by kernel_rfl
theorem ES:frS=chk (3::stL 1 2 3 (List.replicate 63 0++[9]) 4):=by kernel_rfl
theorem EG:frG=chk (logL 3 4 1 2 3 (List.replicate 63 0++[9]) 4):=by kernel_rfl
theorem EL:frL=chk (liL 1 2 3 4611686018427387904 [97,98]):=by kernel_rfl
def tk35 (b:List Int):Option Int:=bif eqLi b frI then some 1 else bif eqLi b frO then some 2 else bif eqLi b frS then some 3 else bif eqLi b frG then some 4 else bif eqLi b frL then some 5 else bif nfb b then some 0 else none
def tq35 (d:List Dat):Option (Nat×List Dat):=bif h1z [.l TB] d then(tk35 (gl TB d 0)).map fun n=>(0,[.n n])else none
theorem wb9:Wb (List.replicate 63 0++[9]):=m3a (by decide+kernel)
theorem tk35_ok {b:List Int}{n:Int}(h:tk35 b=some n):t2c [.l TB b]=some (0,[.n n]):=by
 unfold tk35 at h
 cases h1:eqLi b frI with
 |true=>
  rw[h1]at h
  cases h
  rw[h3g h1,EI]
  exact k35I (c:=1) (y:=5) (q:=3) (a:=4) (b:=5) (l:=c0L) ⟨by omega,by omega,by omega,by omega,by decide+kernel⟩
 |false=>
 rw[h1]at h
 cases h2:eqLi b frO with
 |true=>
  rw[h2]at h
  cases h
  rw[h3g h2,EO]
  exact k35O (c:=2) (y:=1099511627776) (e:=1) (q:=0) (u:=0) ⟨by omega,by omega,by omega,by decide+kernel⟩
 |false=>
 rw[h2]at h
 cases h3:eqLi b frS with
 |true=>
  rw[h3]at h
  cases h
  rw[h3g h3,ES]
  exact k35S (a:=1) (b:=2) (c:=3) (t:=(List.replicate 63 0++[9])) (u:=4) ⟨by omega,by omega,by omega,⟨wb9,by decide+kernel⟩,by omega⟩
 |false=>
 rw[h3]at h
 cases h4:eqLi b frG with
 |true=>
  rw[h4]at h
  cases h
  rw[h3g h4,EG]
  exact k35G (e:=3) (y:=4) (a:=1) (b:=2) (c:=3) (t:=(List.replicate 63 0++[9])) (u:=4) ⟨by omega,by omega,by omega,⟨wb9,by decide+kernel⟩,by omega,by decide+kernel⟩
 |false=>
 rw[h4]at h
 cases h5:eqLi b frL with
 |true=>
  rw[h5]at h
  cases h
  rw[h3g h5,EL]
  exact k35L (x:=1) (y:=2) (s:=3) (k:=4611686018427387904) (l:=[97,98]) ⟨by omega,by omega,by decide+kernel,m3a (by decide+kernel)⟩
 |false=>
 rw[h5]at h
 cases h0:nfb b with
 |false=>rw[h0]at h;cases h
 |true=>
  rw[h0]at h
  cases h
  obtain⟨hw,hl,hn⟩:=u3e h0
  exact(w4_0 hw hl (fun _ _ _ _ _ _ _=>hn _) (fun _ _ _ _ _ _=>hn _) (fun _ _ _ _ _ _=>hn _) (fun _ _ _ _ _ _ _ _=>hn _) (fun _ _ _ _ _ _=>hn _)).1
theorem tq35_ok (env:List Dat)(y:Nat×List Dat)(h:tq35 env=some y):t2c env=some y:=by
 unfold tq35 at h
 cases hk:h1z [.l TB] env with
 |false=>rw[hk]at h;cases h
 |true=>
  rw[hk]at h
  obtain⟨b,_,rfl,h0⟩:=t1c hk
  cases h3p h0
  have h:(tk35 b).map (fun n=>((0:Nat),[Dat.n n]))=some y:=h
  cases e:tk35 b with
  |none=>rw[e]at h;cases h
  |some n=>rw[e]at h;cases h;exact tk35_ok e
theorem no4 {b:List Int}(h:(b.getD 0 0==4)=false): ∀e y a c d t u,OKG e y a c d t u→b≠chk (logL e y a c d t u):=fun e y a c d t u _ hq=>by
 rw[hq,(h0G e y a c d t u).1]at h
 cases h
theorem no5 {b:List Int}(h:(b.getD 0 0==5)=false): ∀x y s k l,OKL x y s k l→b≠chk (liL x y s k l):=fun x y s k l _ hq=>by
 rw[hq,(h0L x y s k l).1]at h
 cases h
def tk30 (b:List Int):Option Int:=bif b.all r8&&decide (b.length≤3000)&&(nfb b|| !(b.getD 0 0==4))then some 130 else bif b==chk (logL 0 0 0 0 0 (List.replicate 64 0) 0)then some 0 else none
def tq30 (d:List Dat):Option (Nat×List Dat):=bif h1z [.l TB] d then(tk30 (gl TB d 0)).map fun n=>(0,[.n 0,.n 0,.n 0,.n 0,.n 0,.l TB (List.replicate 64 (0:Int)),.n 0,.n n])else none
theorem tk30_ok {b:List Int}{y:Nat×List Dat}(h:(tk30 b).map (fun n=>((0:Nat),[Dat.n 0,.n 0,.n 0,.n 0,.n 0,.l TB (List.replicate 64 (0:Int)),.n 0,.n n]))=some y):h3f [.l TB b]=some y:=by
  unfold tk30 at h
  cases hc:(b.all r8&&decide (b.length≤3000)&&(nfb b|| !(b.getD 0 0==4)))with
  |true=>
   rw[hc]at h
   cases h
   simp only[Bool.and_eq_true,decide_eq_true_eq,Bool.or_eq_true,Bool.not_eq_true']at hc
   obtain⟨⟨hw,hl⟩,hn⟩:=hc
   refine F30 (m3a hw) (by omega) ?_
   rcases hn with hn|hn
   ·exact fun _ _ _ _ _ _ _ _=>(u3e hn).2.2 _
   ·exact no4 hn
  |false=>
   rw[hc]at h
   by_cases h1:b=chk (logL 0 0 0 0 0 (List.replicate 64 0) 0)
   ·have e:=G30 (e:=0) (y:=0) (a:=0) (b:=0) (c:=0) (t:=List.replicate 64 0) (u:=0) ⟨by omega,by omega,by omega,⟨m3a (by decide+kernel),by decide+kernel⟩,by omega,by decide+kernel⟩
    rw[←h1]at e
    rw[←h1]at h
    simp at h
    rw[e,←h]
    rfl
   ·have q1:(b==chk (logL 0 0 0 0 0 (List.replicate 64 0) 0))=false:=beq_eq_false_iff_ne.2 h1
    rw[q1]at h
    cases h
theorem tq30_ok (env:List Dat)(y:Nat×List Dat)(h:tq30 env=some y):h3f env=some y:=by
 unfold tq30 at h
 cases hk:h1z [.l TB] env with
 |false=>rw[hk]at h;cases h
 |true=>
  rw[hk]at h
  obtain⟨b,_,rfl,h0⟩:=t1c hk
  cases h3p h0
  exact tk30_ok h
def tk32 (b:List Int):Option (Nat×List Dat):=bif b.all r8&&decide (b.length≤3000)&&(nfb b|| !(b.getD 0 0==5))then some (1,[.n 0,.n 0,.n 0,.n 0,.n 130])else bif b==chk (liL 0 0 0 0 [7])then some (0,[.n 0,.n 0,.n 0,.n 0,.n 0,.l TB ([7]:List Int)])else none
def tq32 (d:List Dat):Option (Nat×List Dat):=bif h1z [.l TB] d then tk32 (gl TB d 0)else none
theorem tk32_ok {b:List Int}{y:Nat×List Dat}(h:tk32 b=some y):h3j [.l TB b]=some y:=by
  unfold tk32 at h
  cases hc:(b.all r8&&decide (b.length≤3000)&&(nfb b|| !(b.getD 0 0==5)))with
  |true=>
   rw[hc]at h
   cases h
   simp only[Bool.and_eq_true,decide_eq_true_eq,Bool.or_eq_true,Bool.not_eq_true']at hc
   obtain⟨⟨hw,hl⟩,hn⟩:=hc
   refine FL (m3a hw) (by omega) ?_
   rcases hn with hn|hn
   ·exact fun _ _ _ _ _ _=>(u3e hn).2.2 _
   ·exact no5 hn
  |false=>
   rw[hc]at h
   by_cases h1:b=chk (liL 0 0 0 0 [7])
   ·have e:=GL (x:=0) (y:=0) (s:=0) (k:=0) (l:=[7]) ⟨by omega,by omega,by decide+kernel,m3a (by decide+kernel)⟩
    rw[←h1]at e
    rw[←h1]at h
    simp at h
    rw[e,←h]
   ·have q1:(b==chk (liL 0 0 0 0 [7]))=false:=beq_eq_false_iff_ne.2 h1
    rw[q1]at h
    cases h
theorem tq32_ok (env:List Dat)(y:Nat×List Dat)(h:tq32 env=some y):h3j env=some y:=by
 unfold tq32 at h
 cases hk:h1z [.l TB] env with
 |false=>rw[hk]at h;cases h
 |true=>
  rw[hk]at h
  obtain⟨b,_,rfl,h0⟩:=t1c hk
  cases h3p h0
  exact tk32_ok h
theorem J0:jOK (1:Int) (5:Int) (3:Int) (4:Int) (5:Int) c0L (2:Int) (1099511627776:Int) (1:Int) (0:Int) (0:Int) (1:Int) (2:Int) (3:Int) (List.replicate 63 0++[9]) (4:Int) (3:Int) (4:Int) (1:Int) (2:Int) (3:Int) (List.replicate 63 0++[9]) (4:Int) (1:Int) (2:Int) (3:Int) (4611686018427387904:Int) [97,98] frI=true:=by kernel_rfl
theorem J1:jOK (1:Int) (5:Int) (3:Int) (4:Int) (5:Int) c0L (2:Int) (1099511627776:Int) (1:Int) (0:Int) (0:Int) (1:Int) (2:Int) (3:Int) (List.replicate 63 0++[9]) (4:Int) (3:Int) (4:Int) (1:Int) (2:Int) (3:Int) (List.replicate 63 0++[9]) (4:Int) (1:Int) (2:Int) (3:Int) (4611686018427387904:Int) [97,98] frO=true:=by kernel_rfl
theorem J2:jOK (1:Int) (5:Int) (3:Int) (4:Int) (5:Int) c0L (2:Int) (1099511627776:Int) (1:Int) (0:Int) (0:Int) (1:Int) (2:Int) (3:Int) (List.replicate 63 0++[9]) (4:Int) (3:Int) (4:Int) (1:Int) (2:Int) (3:Int) (List.replicate 63 0++[9]) (4:Int) (1:Int) (2:Int) (3:Int) (4611686018427387904:Int) [97,98] frS=true:=by kernel_rfl
theorem J3:jOK (1:Int) (5:Int) (3:Int) (4:Int) (5:Int) c0L (2:Int) (1099511627776:Int) (1:Int) (0:Int) (0:Int) (1:Int) (2:Int) (3:Int) (List.replicate 63 0++[9]) (4:Int) (3:Int) (4:Int) (1:Int) (2:Int) (3:Int) (List.replicate 63 0++[9]) (4:Int) (1:Int) (2:Int) (3:Int) (4611686018427387904:Int) [97,98] frG=true:=by kernel_rfl
theorem J4:jOK (1:Int) (5:Int) (3:Int) (4:Int) (5:Int) c0L (2:Int) (1099511627776:Int) (1:Int) (0:Int) (0:Int) (1:Int) (2:Int) (3:Int) (List.replicate 63 0++[9]) (4:Int) (3:Int) (4:Int) (1:Int) (2:Int) (3:Int) (List.replicate 63 0++[9]) (4:Int) (1:Int) (2:Int) (3:Int) (4611686018427387904:Int) [97,98] frL=true:=by kernel_rfl
def pJ (n0 n1:Int)(n2:Int)(n3:Int)(n4:Int)(n5:Int)(n6:Int)(n7:Int)(n8:Int)(n9:Int)(n10:Int)(n11:Int)(n12:Int)(n13:Int)(n14:Int)(l15:List Int)(n16:Int)(n17:Int)(n18:Int)(n19:Int)(n20:Int)(n21:Int)(l22:List Int)(n23:Int)(n24:Int)(n25:Int)(n26:Int)(n27:Int)(l28:List Int)(l29:List Cmd)(l30:List Int)(l31:List Int)(l32:List Int)(l33:List Int)(l34:List Int)(l35:List Int):Bool:=(n1==0)&&rN 5 n0&&(n2==(1:Int))&&(n3==(5:Int))&&(n4==(3:Int))&&(n5==(4:Int))&&(n6==(5:Int))&&(n7==(2:Int))&&(n8==(1099511627776:Int))&&(n9==(1:Int))&&(n10==(0:Int))&&(n11==(0:Int))&&(n12==(1:Int))&&(n13==(2:Int))&&(n14==(3:Int))&&eqLi l15 (List.replicate 63 0++[9])&&(n16==(4:Int))&&(n17==(3:Int))&&(n18==(4:Int))&&(n19==(1:Int))&&(n20==(2:Int))&&(n21==(3:Int))&&eqLi l22 (List.replicate 63 0++[9])&&(n23==(4:Int))&&(n24==(1:Int))&&(n25==(2:Int))&&(n26==(3:Int))&&(n27==(4611686018427387904:Int))&&eqLi l28 ([35,34,97,113,27]:List Int)&&eqLc l29 c0L&&eqLi l30 ([97,98]:List Int)&&eqLi l31 frI&&eqLi l32 frO&&eqLi l33 frS&&eqLi l34 frG&&eqLi l35 frL
def tJ:OpA
 |.k 0::d=>bif h1z [.n,.n,.n,.n,.n,.n,.n,.n,.n,.n,.n,.n,.n,.n,.n,.l TB,.n,.n,.n,.n,.n,.n,.l TB,.n,.n,.n,.n,.n,.l TI,.l TC,.l TB,.l TB,.l TB,.l TB,.l TB,.l TB] d&&pJ (gn d 0) (gn d 1) (gn d 2) (gn d 3) (gn d 4) (gn d 5) (gn d 6) (gn d 7) (gn d 8) (gn d 9) (gn d 10) (gn d 11) (gn d 12) (gn d 13) (gn d 14) (gl TB d 15) (gn d 16) (gn d 17) (gn d 18) (gn d 19) (gn d 20) (gn d 21) (gl TB d 22) (gn d 23) (gn d 24) (gn d 25) (gn d 26) (gn d 27) (gl TI d 28) (gl TC d 29) (gl TB d 30) (gl TB d 31) (gl TB d 32) (gl TB d 33) (gl TB d 34) (gl TB d 35)then some (0,.n (gn d 0)::.n (gn d 2)::.n (gn d 3)::.n (gn d 4)::.n (gn d 5)::.n (gn d 6)::.n (gn d 7)::.n (gn d 8)::.n (gn d 9)::.n (gn d 10)::.n (gn d 11)::.n (gn d 12)::.n (gn d 13)::.n (gn d 14)::.l TB (gl TB d 15)::.n (gn d 16)::.n (gn d 17)::.n (gn d 18)::.n (gn d 19)::.n (gn d 20)::.n (gn d 21)::.l TB (gl TB d 22)::.n (gn d 23)::.n (gn d 24)::.n (gn d 25)::.n (gn d 26)::.n (gn d 27)::.l TI (gl TI d 28)::.l TC (gl TC d 29)::.l TB (gl TB d 30)::.l TB (gl TB d 31)::.l TB (gl TB d 32)::.l TB (gl TB d 33)::.l TB (gl TB d 34)::.l TB (gl TB d 35)::[])else none
 |_=>none
theorem tJ_ok (env:List Dat)(y:Nat×List Dat)(h:tJ env=some y):l3m env=some y:=by
 unfold tJ at h
 split at h
 ·rename_i d
  obtain⟨hc,rfl⟩:=bifS h
  rw[Bool.and_eq_true]at hc
  obtain⟨hk,h1⟩:=hc
  obtain⟨x0,_,rfl,fk0⟩:=t0c hk
  obtain⟨x1,_,rfl,fk1⟩:=t0c fk0
  obtain⟨x2,_,rfl,fk2⟩:=t0c fk1
  obtain⟨x3,_,rfl,fk3⟩:=t0c fk2
  obtain⟨x4,_,rfl,fk4⟩:=t0c fk3
  obtain⟨x5,_,rfl,fk5⟩:=t0c fk4
  obtain⟨x6,_,rfl,fk6⟩:=t0c fk5
  obtain⟨x7,_,rfl,fk7⟩:=t0c fk6
  obtain⟨x8,_,rfl,fk8⟩:=t0c fk7
  obtain⟨x9,_,rfl,fk9⟩:=t0c fk8
  obtain⟨x10,_,rfl,fk10⟩:=t0c fk9
  obtain⟨x11,_,rfl,fk11⟩:=t0c fk10
  obtain⟨x12,_,rfl,fk12⟩:=t0c fk11
  obtain⟨x13,_,rfl,fk13⟩:=t0c fk12
  obtain⟨x14,_,rfl,fk14⟩:=t0c fk13
  obtain⟨x15,_,rfl,fk15⟩:=t1c fk14
  obtain⟨x16,_,rfl,fk16⟩:=t0c fk15
  obtain⟨x17,_,rfl,fk17⟩:=t0c fk16
  obtain⟨x18,_,rfl,fk18⟩:=t0c fk17
  obtain⟨x19,_,rfl,fk19⟩:=t0c fk18
  obtain⟨x20,_,rfl,fk20⟩:=t0c fk19
  obtain⟨x21,_,rfl,fk21⟩:=t0c fk20
  obtain⟨x22,_,rfl,fk22⟩:=t1c fk21
  obtain⟨x23,_,rfl,fk23⟩:=t0c fk22
  obtain⟨x24,_,rfl,fk24⟩:=t0c fk23
  obtain⟨x25,_,rfl,fk25⟩:=t0c fk24
  obtain⟨x26,_,rfl,fk26⟩:=t0c fk25
  obtain⟨x27,_,rfl,fk27⟩:=t0c fk26
  obtain⟨x28,_,rfl,fk28⟩:=t1c fk27
  obtain⟨x29,_,rfl,fk29⟩:=t1c fk28
  obtain⟨x30,_,rfl,fk30⟩:=t1c fk29
  obtain⟨x31,_,rfl,fk31⟩:=t1c fk30
  obtain⟨x32,_,rfl,fk32⟩:=t1c fk31
  obtain⟨x33,_,rfl,fk33⟩:=t1c fk32
  obtain⟨x34,_,rfl,fk34⟩:=t1c fk33
  obtain⟨x35,_,rfl,fk35⟩:=t1c fk34
  cases h3p fk35
  have hp:pJ x0 x1 x2 x3 x4 x5 x6 x7 x8 x9 x10 x11 x12 x13 x14 x15 x16 x17 x18 x19 x20 x21 x22 x23 x24 x25 x26 x27 x28 x29 x30 x31 x32 x33 x34 x35=true:=h1
  clear h1
  unfold pJ at hp
  simp only[Bool.and_eq_true]at hp
  obtain⟨⟨⟨⟨⟨⟨⟨⟨⟨⟨⟨⟨⟨⟨⟨⟨⟨⟨⟨⟨⟨⟨⟨⟨⟨⟨⟨⟨⟨⟨⟨⟨⟨⟨⟨e0,e1⟩,e2⟩,e3⟩,e4⟩,e5⟩,e6⟩,e7⟩,e8⟩,e9⟩,e10⟩,e11⟩,e12⟩,e13⟩,e14⟩,e15⟩,e16⟩,e17⟩,e18⟩,e19⟩,e20⟩,e21⟩,e22⟩,e23⟩,e24⟩,e25⟩,e26⟩,e27⟩,e28⟩,e29⟩,e30⟩,e31⟩,e32⟩,e33⟩,e34⟩,e35⟩:=hp
  obtain rfl:x1=0:=eq_of_beq e0
  obtain rfl:x2=(1:Int):=eq_of_beq e2
  obtain rfl:x3=(5:Int):=eq_of_beq e3
  obtain rfl:x4=(3:Int):=eq_of_beq e4
  obtain rfl:x5=(4:Int):=eq_of_beq e5
  obtain rfl:x6=(5:Int):=eq_of_beq e6
  obtain rfl:x7=(2:Int):=eq_of_beq e7
  obtain rfl:x8=(1099511627776:Int):=eq_of_beq e8
  obtain rfl:x9=(1:Int):=eq_of_beq e9
  obtain rfl:x10=(0:Int):=eq_of_beq e10
  obtain rfl:x11=(0:Int):=eq_of_beq e11
  obtain rfl:x12=(1:Int):=eq_of_beq e12
  obtain rfl:x13=(2:Int):=eq_of_beq e13
  obtain rfl:x14=(3:Int):=eq_of_beq e14
  obtain rfl:x15=(List.replicate 63 0++[9]):=h3g e15
  obtain rfl:x16=(4:Int):=eq_of_beq e16
  obtain rfl:x17=(3:Int):=eq_of_beq e17
  obtain rfl:x18=(4:Int):=eq_of_beq e18
  obtain rfl:x19=(1:Int):=eq_of_beq e19
  obtain rfl:x20=(2:Int):=eq_of_beq e20
  obtain rfl:x21=(3:Int):=eq_of_beq e21
  obtain rfl:x22=(List.replicate 63 0++[9]):=h3g e22
  obtain rfl:x23=(4:Int):=eq_of_beq e23
  obtain rfl:x24=(1:Int):=eq_of_beq e24
  obtain rfl:x25=(2:Int):=eq_of_beq e25
  obtain rfl:x26=(3:Int):=eq_of_beq e26
  obtain rfl:x27=(4611686018427387904:Int):=eq_of_beq e27
  obtain rfl:x28=([35,34,97,113,27]:List Int):=h3g e28
  obtain rfl:x29=c0L:=k4y e29
  obtain rfl:x30=([97,98]:List Int):=h3g e30
  obtain rfl:x31=frI:=h3g e31
  obtain rfl:x32=frO:=h3g e32
  obtain rfl:x33=frS:=h3g e33
  obtain rfl:x34=frG:=h3g e34
  obtain rfl:x35=frL:=h3g e35
  have r:=m3k e1
  by_cases k0:x0=0
  ·subst k0;exact jl0 J0
  by_cases k1:x0=1
  ·subst k1;exact jl1 J1
  by_cases k2:x0=2
  ·subst k2;exact jl2 J2
  by_cases k3:x0=3
  ·subst k3;exact jl3 J3
  by_cases k4:x0=4
  ·subst k4;exact jl4 J4
  omega
 ·cases h
def csT0:FuncId→Option a0q:=j4m
theorem csT0_ok:CsOk Try.prog csT0:=d3i
def csT9:FuncId→Option a0q:=a0s 9 ((BSh.of B9p).k tp9) csT0
theorem csT9_ok:CsOk Try.prog csT9:=csA csT0_ok (k3a tp9_ok i4t)
def csT10:FuncId→Option a0q:=a0s 10 ((BSh.of B10p).k tp10) csT9
theorem o4a:CsOk Try.prog csT10:=csA csT9_ok (k3a tp10_ok a4o)
def csT11:FuncId→Option a0q:=a0s 11 ((BSh.of B11p).k tp11) csT10
theorem o4b:CsOk Try.prog csT11:=csA o4a (k3a tp11_ok z3o)
def csT12:FuncId→Option a0q:=a0s 12 ((BSh.of B12p).k tp12) csT11
theorem n4a:CsOk Try.prog csT12:=csA o4b (k3a tp12_ok a4z)
def csT13:FuncId→Option a0q:=a0s 13 ((BSh.of B13p).k tp13) csT12
theorem o4g:CsOk Try.prog csT13:=csA n4a (k3a tp13_ok a4t)
def csT35:FuncId→Option a0q:=a0s 35 ((BSh.of B35r).k tq35) csT13
theorem o4h:CsOk Try.prog csT35:=csA o4g (k3a tq35_ok z3b)
def csT30:FuncId→Option a0q:=a0s 30 ((BSh.of B30r).k tq30) csT35
theorem o4d:CsOk Try.prog csT30:=csA o4h (k3a tq30_ok z3w)
def csT32:FuncId→Option a0q:=a0s 32 ((BSh.of B32r).k tq32) csT30
theorem n4f:CsOk Try.prog csT32:=csA o4d (k3a tq32_ok a4y)
def csT:FuncId→Option a0q:=csT32
theorem csT_ok:CsOk Try.prog csT:=n4f
end Go.Proofs.Ytlambinleegdoaa.Vx
