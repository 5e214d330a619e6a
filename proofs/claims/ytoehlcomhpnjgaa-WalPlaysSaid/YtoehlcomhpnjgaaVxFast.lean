import Derived.Test.YtoehlcomhpnjgaaVxBox2
noncomputable section
namespace Go.Proofs.Ytoehlcomhpnjgaa.Vx
open Go Go.RowKit
set_option linter.unusedVariables false
section
variable {β:Type}
def fB (b:Bool)(k:Bool→β):β:=match b with
 |true=>k true
 |false=>k false
theorem fB_eq (b:Bool)(k:Bool→β):fB b k=k b:=by cases b<;>rfl
def fN (n:Nat)(k:Nat→β):β:=match n with
 |0=>k 0
 |m+1=>k (m+1)
theorem q1u (n:Nat)(k:Nat→β):fN n k=k n:=by cases n<;>rfl
def fI (n:Int)(k:Int→β):β:=match n with
 |.ofNat m=>fN m fun m=>k (.ofNat m)
 |.negSucc m=>fN m fun m=>k (.negSucc m)
theorem fI_eq (n:Int)(k:Int→β):fI n k=k n:=by cases n<;>simp[fI,q1u]
def fL {α:Type}(f:α→(α→β)→β):List α→(List α→β)→β
 |[],k=>k []
 |x::l,k=>f x fun x=>fL f l fun l=>k (x::l)
theorem a1p {α:Type}{f:α→(α→β)→β}(hf: ∀x k,f x k=k x): ∀(l:List α) (k:List α→β),fL f l k=k l
 |[],k=>rfl
 |x::l,k=>by unfold fL;rw[hf];exact a1p hf l _
end
def fD {β:Type}:(t:Ty)→t.den→(t.den→β)→β
 |.bool,b,k=>fB b k
 |.int _,n,k=>fI n k
 |.str,s,k=>k s
 |.sl t,l,k=>fL (fD t) l k
 |.arr _ t,l,k=>fL (fD t) l k
 |.pair a b,d,k=>fD a d.1 fun x=>fD b d.2 fun y=>k (x,y)
 |.unit,d,k=>k d
theorem l2q {β:Type}: ∀(t:Ty) (d:t.den) (k:t.den→β),fD t d k=k d
 |.bool,b,k=>fB_eq b k
 |.int _,n,k=>fI_eq n k
 |.str,s,k=>rfl
 |.sl t,l,k=>a1p (l2q t) l k
 |.arr _ t,l,k=>a1p (l2q t) l k
 |.pair a b,d,k=>by unfold fD;rw[l2q a,l2q b];rfl
 |.unit,d,k=>rfl
def fDL {β:Type}(md:Bool)(t:Ty)(l:List t.den)(k:List t.den→β):β:=match md with
 |true=>fL (fD t) l k
 |false=>k l
theorem fDL_eq {β:Type}(md:Bool)(t:Ty)(l:List t.den)(k:List t.den→β):fDL md t l k=k l:=by cases md<;>simp[fDL,a1p (l2q t)]
def fV {β:Type}(md:Bool):Nat→SV→(SV→β)→β
 |0,v,k=>k v
 |n+1,v,k=>match v with
  |.bool b=>match md with
   |true=>fB b fun b=>k (.bool b)
   |false=>k (.bool b)
  |.int kd x=>match md with
   |true=>fI x fun x=>k (.int kd x)
   |false=>k (.int kd x)
  |.imm t l=>fDL md t l fun l=>k (.imm t l)
  |.arrd t m l=>fDL md t l fun l=>k (.arrd t m l)
  |.own b g=>fN b fun b=>fN g fun g=>k (.own b g)
  |.part b g lo m=>fN b fun b=>fN g fun g=>k (.part b g lo m)
  |.ptr b o=>fN b fun b=>fN o fun o=>k (.ptr b o)
  |.itr b=>fN b fun b=>k (.itr b)
  |.eptr b g i o=>fN b fun b=>fN g fun g=>fN o fun o=>k (.eptr b g i o)
  |.aptr b o w m i q=>fN b fun b=>fN o fun o=>k (.aptr b o w m i q)
  |.asl b o m=>fN b fun b=>fN o fun o=>k (.asl b o m)
  |.optr c b o=>fN b fun b=>fN o fun o=>k (.optr c b o)
  |.asp b o n m=>fN b fun b=>fN o fun o=>k (.asp b o n m)
  |.esp b g i n m=>fN b fun b=>fN g fun g=>k (.esp b g i n m)
  |.iptr es o=>fL (fV md n) es fun es=>fN o fun o=>k (.iptr es o)
  |.fn f a c=>fL (fV md n) a fun a=>fL (fV md n) c fun c=>k (.fn f a c)
  |.iface t v=>fV md n v fun v=>k (.iface t v)
  |.agg es=>fL (fV md n) es fun es=>k (.agg es)
  |.tup es=>fL (fV md n) es fun es=>k (.tup es)
  |v=>k v
theorem o1z {β:Type}(md:Bool): ∀(n:Nat) (v:SV) (k:SV→β),fV md n v k=k v
 |0,v,k=>rfl
 |n+1,v,k=>by
  have h:=o1z (β:=β) md n
  unfold fV
  cases v<;>simp only[a1p h,h,q1u,fDL_eq]<;>cases md<;>simp only[fB_eq,fI_eq]
def FD:Nat:=9
def fVs {β:Type}(md:Bool)(l:List SV)(k:List SV→β):β:=fL (fV md FD) l k
theorem j2y {β:Type}(md:Bool)(l:List SV)(k:List SV→β):fVs md l k=k l:=a1p (o1z md FD) l k
def fBlk {β:Type}(md:Bool)(b:Blk)(k:Blk→β):β:=match b with
 |.cells es=>fVs md es fun es=>k (.cells es)
 |.arr t g l=>fDL md t l fun l=>fN g fun g=>k (.arr t g l)
 |.frz t g l=>fDL md t l fun l=>fN g fun g=>k (.frz t g l)
 |.gone=>k .gone
 |.iter t p=>match md with
  |true=>fI p fun p=>k (.iter t p)
  |false=>k (.iter t p)
 |.vec g es=>fN g fun g=>fVs md es fun es=>k (.vec g es)
 |.map kt vt l=>fDL md (.pair kt vt) l fun l=>k (.map kt vt l)
 |.fmap kt ks es=>fDL md kt ks fun ks=>fVs md es fun es=>k (.fmap kt ks es)
theorem m2q {β:Type}(md:Bool)(b:Blk)(k:Blk→β):fBlk md b k=k b:=by cases b<;>simp[fBlk,j2y,fDL_eq,q1u]<;>cases md<;>simp[fI_eq]
def fAt {β:Type}(md:Bool):List Blk→Nat→(List Blk→β)→β
 |[],_,k=>k []
 |x::l,0,k=>fBlk md x fun x=>k (x::l)
 |x::l,n+1,k=>fAt md l n fun l=>k (x::l)
theorem fAt_eq {β:Type}(md:Bool): ∀(l:List Blk) (n:Nat) (k:List Blk→β),fAt md l n k=k l
 |[],_,k=>rfl
 |x::l,0,k=>by unfold fAt;rw[m2q]
 |x::l,n+1,k=>by unfold fAt;rw[fAt_eq md l n]
def fSW {β:Type}(md:Bool)(s:SW)(k:SW→β):β:=fL (fBlk md) s.blks fun bs=>fL fN s.log fun lg=>k ⟨bs,lg⟩
theorem o1m {β:Type}(md:Bool)(s:SW)(k:SW→β):fSW md s k=k s:=by unfold fSW;rw[a1p (m2q md),a1p q1u]
def l0w {β:Type}(md:Bool)(n:Nat)(s:SW)(k:SW→β):β:=fAt md s.blks n fun bs=>fL fN s.log fun lg=>k ⟨bs,lg⟩
theorem w1y {β:Type}(md:Bool)(n:Nat)(s:SW)(k:SW→β):l0w md n s k=k s:=by unfold l0w;rw[fAt_eq,a1p q1u]
def fSet {β:Type}:List SV→Nat→SV→(List SV→β)→β
 |[],_,_,k=>k []
 |_::l,0,v,k=>k (v::l)
 |x::l,n+1,v,k=>fSet l n v fun l=>k (x::l)
theorem k1p {β:Type}: ∀(l:List SV) (n:Nat) (v:SV) (k:List SV→β),fSet l n v k=k (l.set n v)
 |[],_,_,k=>rfl
 |_::l,0,v,k=>rfl
 |x::l,n+1,v,k=>by unfold fSet;rw[k1p l n v];rfl
def fPut {β:Type}(t:List SV)(d:Option Tmp)(v:SV)(k:List SV→β):β:=match d with
 |some d=>fSet t d v k
 |none=>k t
theorem a1l {β:Type}(t:List SV)(d:Option Tmp)(v:SV)(k:List SV→β):fPut t d v k=k (put t d v):=by cases d<;>simp[fPut,put,k1p]
def u0e:Op→Bool
 |.move _=>true
 |.assign _=>true
 |.pick _ _ _=>true
 |.load _ _=>true
 |.nilCheck _=>true
 |.binOp _ _ _ _ _=>true
 |.unOp _ _ _=>true
 |.makeInterface _ _=>true
 |.makeFunc _ _ _=>true
 |.slice _ _ _ _ _=>true
 |.fieldAddr _ _ _=>true
 |.field _ _ _=>true
 |.indexAddr _ _ _=>true
 |.index _ _ _=>true
 |.typeAssert _ _ _ _=>true
 |.extract _ _=>true
 |_=>false
theorem Tree.bind_leaf {α β γ:Type}(x:Tree α)(f:α→β)(g:β→Tree γ):(x.bind fun a=>.leaf (f a)).bind g=x.bind fun a=>g (f a):=by
 induction x with
 |leaf a=>rfl
 |bad w=>rfl
 |node c t e h1 h2=>simp only[Tree.bind,h1,h2]
 |ask r k h=>exact congrArg (Tree.ask r) (funext fun y=>h y)
theorem p2q {α:Type}(x:Tree SV)(s:SW)(f:SV×SW→Tree α):(x.with_ s).bind f=(x.with_ s).bind fun y=>f (y.1,s):=by
 unfold Tree.with_;rw[Tree.bind_leaf,Tree.bind_leaf]
theorem a1d {α:Type}(x:Option SV)(s:SW)(w:Nat)(f:SV×SW→Tree α):(both s x w).bind f=(both s x w).bind fun y=>f (y.1,s):=by
 cases x<;>rfl
theorem f1a {α:Type}(P:Program)(o:Oper)(t:List SV)(s:SW)(h:u0e o.op=true)(f:SV×SW→Tree α):(evOp P o t s).bind f=(evOp P o t s).bind fun y=>f (y.1,s):=by
 unfold evOp
 cases hop:o.op<;>rw[hop]at h<;>simp only[u0e,Bool.false_eq_true]at h<;>simp only<;>first|exact p2q _ _ _|exact a1d _ _ _ _|rfl|(rw[z3w,z3w];congr 1;funext p;exact a1d _ _ _ _)|skip
 all_goals first
  |(rename_i x;unfold evMove;cases x<;>first|exact a1d _ _ _ _|rfl)
  |(rename_i x i;unfold i0j;split<;>first|exact a1d _ _ _ _|rfl)
theorem x0k (P:Program)(t:List SV){o:Op}(h:u0e o=true):e1v P t o=none:=by
 cases o<;>simp only[u0e,Bool.false_eq_true]at h<;>rfl
def v2o:SV→Option Nat
 |.ptr b _=>some b
 |.eptr b _ _ _=>some b
 |.aptr b _ _ _ _ _=>some b
 |.asl b _ _=>some b
 |.asp b _ _ _=>some b
 |.esp b _ _ _ _=>some b
 |.own b _=>some b
 |.part b _ _ _=>some b
 |_=>none
def fW {β:Type}(md:Bool)(P:Program)(o:Op)(t:List SV)(s s1:SW)(k:SW→β):β:=match o with
 |.store _ a _=>l0w md ((v2o (evT P t a)).getD s.len) s1 k
 |.alloc _=>l0w md s.len s1 k
 |.box _ _=>l0w md s.len s1 k
 |.build _ _=>l0w md s.len s1 k
 |.buildSlice _ _ _=>l0w md s.len s1 k
 |.makeSlice _ _ _=>l0w md s.len s1 k
 |.convert _ _ _=>l0w md s.len s1 k
 |.call ⟨.builtin _,args,_⟩=>match args.toList with
  |a::_=>l0w md ((v2o (evT P t a)).getD s.len) s1 k
  |[]=>k s1
 |_=>fSW md s1 k
theorem fW_eq {β:Type}(md:Bool)(P:Program)(o:Op)(t:List SV)(s s1:SW)(k:SW→β):fW md P o t s s1 k=k s1:=by
 unfold fW;split<;>first|exact w1y _ _ _ _|exact o1m _ _ _|(split<;>first|exact w1y _ _ _ _|rfl)
def goF {α:Type}(md:Bool)(P:Program)(cl:b0p)(o:Oper)(t:List SV)(s:SW)(k:SV→SW→Tree α):Tree α:=match u0e o.op with
 |true=>(evOp P o t s).bind fun x=>fV md FD x.1 fun v=>k v s
 |false=>(runOp P cl o t s).bind fun x=>fV md FD x.1 fun v=>fW md P o.op t s x.2 fun s1=>k v s1
theorem goF_eq {α:Type}(md:Bool)(P:Program)(cl:b0p)(o:Oper)(t:List SV)(s:SW)(k:SV→SW→Tree α):goF md P cl o t s k=(runOp P cl o t s).bind fun x=>k x.1 x.2:=by
 unfold goF
 split
 ·rename_i h
  unfold runOp
  rw[x0k P t h]
  simp only[o1z]
  rw[f1a P o t s h fun x=>k x.1 x.2]
 ·congr 1;funext x;rw[o1z,fW_eq]
def evOpsF (md:Bool)(P:Program)(cl:b0p)(ops:Array Oper):List Nat→List Nat→List SV→SW→Tree (List SV×SW)
 |[],_,t,s=>.leaf (t,s)
 |i::rest,seen,t,s=>match ops[i]? with
  |none=>.bad 200
  |some o=>match o.guard with
   |none=>goF md P cl o t s fun v s1=>fPut t o.dst v fun t=>evOpsF md P cl ops rest seen t s1
   |some (j,want)=>match e0r ops t j with
    |.bad=>.bad 201
    |.no=>fPut t o.dst .undef fun t=>evOpsF md P cl ops rest seen t s
    |.yes d b=>match seen.contains j with
     |true=>match b==want with
      |true=>goF md P cl o t s fun v s1=>fPut t o.dst v fun t=>evOpsF md P cl ops rest seen t s1
      |false=>fPut t o.dst .undef fun t=>evOpsF md P cl ops rest seen t s
     |false=>.node b
      (fSet t d (.bool true) fun t=>match want with
       |true=>goF md P cl o t s fun v s1=>fPut t o.dst v fun t=>evOpsF md P cl ops rest (j::seen) t s1
       |false=>fPut t o.dst .undef fun t=>evOpsF md P cl ops rest (j::seen) t s)
      (fSet t d (.bool false) fun t=>match want with
       |false=>goF md P cl o t s fun v s1=>fPut t o.dst v fun t=>evOpsF md P cl ops rest (j::seen) t s1
       |true=>fPut t o.dst .undef fun t=>evOpsF md P cl ops rest (j::seen) t s)
theorem q1d (md:Bool)(P:Program)(cl:b0p)(ops:Array Oper): ∀(l seen:List Nat) (t:List SV) (s:SW),evOpsF md P cl ops l seen t s=o0r P cl ops l seen t s
 |[],_,t,s=>rfl
 |i::rest,seen,t,s=>by
  have ih:=q1d md P cl ops rest
  unfold evOpsF o0r
  cases ops[i]? with
  |none=>rfl
  |some o=>
   simp only[goF_eq,a1l,k1p,ih]
   rfl
def goD {α:Type}(md:Bool)(P:Program)(cl:b0p)(ops:Array Oper)(i:Nat)(o:Oper)(t:List SV)(s:SW)(L:List St)(k:List SV→SW→List St→Tree α):Tree α:=
 fN (a0l ops o) fun rd=>fN (b0w o t rd s) fun F=>match u0e o.op with
  |true=>(evOp P o (b0m rd 0 t) (c0v F s)).bind fun x=>fV md FD x.1 fun v=>fPut t o.dst v fun t1=>fN s.blks.length fun n=>k t1 s (⟨i,rd,F,0,n,n,o.dst,v,s⟩::L)
  |false=>fL (fV md 0) (b0m rd 0 t) fun tf=>fL (fun b k=>k b) (l0u F 0 s.blks) fun bf=>
   (runOp P cl o tf ⟨bf,[]⟩).bind fun x=>fW md P o.op tf s x.2 fun s1=>fV md FD x.1 fun v=>fPut t o.dst v fun t1=>fN (e0h s1.log) fun W=>fN s.blks.length fun n=>fN s1.blks.length fun m=>
    fSW md (h0s s s1) fun s2=>k t1 s2 (⟨i,rd,F,W,n,m,o.dst,v,s2⟩::L)
theorem v0n (F:Nat)(s:SW):(c0v F s).blks.length=s.blks.length:=by
 have: ∀(F:Nat) (l:List Blk) (i:Nat),(l0u F i l).length=l.length:=by
  intro F l;induction l with
  |nil=>intro i;rfl
  |cons x l ih=>intro i;simp[l0u,ih]
 exact this F s.blks 0
theorem l1i (F:Nat)(s:SW):h0s s (c0v F s)=s:=by
 unfold h0s
 rw[v0n]
 simp[c0v,e0h]
theorem goD_eq {α:Type}(md:Bool)(P:Program)(cl:b0p)(ops:Array Oper)(i:Nat)(o:Oper)(t:List SV)(s:SW)(L:List St)(k:List SV→SW→List St→Tree α):
  goD md P cl ops i o t s L k=(runOp P cl o (b0m (a0l ops o) 0 t) (c0v (b0w o t (a0l ops o) s) s)).bind fun x=>
   k (put t o.dst x.1) (h0s s x.2) (stOf i (a0l ops o) (b0w o t (a0l ops o) s) s x.2 o.dst x.1::L):=by
 unfold goD
 simp only[q1u]
 cases hq:u0e o.op with
 |true=>
  simp only
  unfold runOp
  rw[x0k P _ hq]
  simp only
  rw[f1a P o (b0m (a0l ops o) 0 t) (c0v (b0w o t (a0l ops o) s) s) hq fun x=>k (put t o.dst x.1) (h0s s x.2) (stOf i (a0l ops o) (b0w o t (a0l ops o) s) s x.2 o.dst x.1::L)]
  congr 1
  funext x
  simp only[o1z,a1l,l1i,stOf,v0n]
  rfl
 |false=>
  simp only[a1p (o1z md 0),a1p (fun(b:Blk) (k:Blk→Tree α)=>rfl: ∀(b:Blk) (k:Blk→Tree α),(fun b k=>k b) b k=k b),fW_eq,o1z,a1l,o1m]
  rfl
def noD {α:Type}(md:Bool)(ops:Array Oper)(i:Nat)(o:Oper)(t:List SV)(s:SW)(L:List St)(k:List SV→SW→List St→Tree α):Tree α:=
 fN (a0l ops o) fun rd=>fPut t o.dst .undef fun t1=>fN s.blks.length fun n=>k t1 s (⟨i,rd,0,0,n,n,o.dst,.undef,s⟩::L)
theorem noD_eq {α:Type}(md:Bool)(ops:Array Oper)(i:Nat)(o:Oper)(t:List SV)(s:SW)(L:List St)(k:List SV→SW→List St→Tree α):
  noD md ops i o t s L k=k (put t o.dst .undef) s (stOf i (a0l ops o) 0 s (c0v 0 s) o.dst .undef::L):=by
 unfold noD stOf
 simp only[q1u,a1l,d1d,v0n]
 rfl
def evDrawF (md:Bool)(P:Program)(cl:b0p)(ops:Array Oper):List Nat→List Nat→List SV→SW→List St→Tree (List St×List SV×SW)
 |[],_,t,s,L=>.leaf (L,t,s)
 |i::rest,seen,t,s,L=>match ops[i]? with
  |none=>.bad 200
  |some o=>match o.guard with
   |none=>goD md P cl ops i o t s L fun t s L=>evDrawF md P cl ops rest seen t s L
   |some (j,want)=>match e0r ops (b0m (a0l ops o) 0 t) j with
    |.bad=>.bad 201
    |.no=>noD md ops i o t s L fun t s L=>evDrawF md P cl ops rest seen t s L
    |.yes d b=>match seen.contains j with
     |true=>match b==want with
      |true=>goD md P cl ops i o t s L fun t s L=>evDrawF md P cl ops rest seen t s L
      |false=>noD md ops i o t s L fun t s L=>evDrawF md P cl ops rest seen t s L
     |false=>.node b
      (match want with
       |true=>(runOp P cl o (b0m (a0l ops o) 0 (t.set d (.bool true))) (c0v (b0w o t (a0l ops o) s) s)).bind fun x=>fV md FD x.1 fun v=>fSet t d (.bool true) fun t1=>fPut t1 o.dst v fun t1=>
        fSW md (h0s s x.2) fun s1=>evDrawF md P cl ops rest (j::seen) t1 s1 (stOf i (a0l ops o) (b0w o t (a0l ops o) s) s x.2 o.dst x.1::L)
       |false=>fSet t d (.bool true) fun t1=>noD md ops i o t1 s L fun t s L=>evDrawF md P cl ops rest (j::seen) t s L)
      (match want with
       |false=>(runOp P cl o (b0m (a0l ops o) 0 (t.set d (.bool false))) (c0v (b0w o t (a0l ops o) s) s)).bind fun x=>fV md FD x.1 fun v=>fSet t d (.bool false) fun t1=>fPut t1 o.dst v fun t1=>
        fSW md (h0s s x.2) fun s1=>evDrawF md P cl ops rest (j::seen) t1 s1 (stOf i (a0l ops o) (b0w o t (a0l ops o) s) s x.2 o.dst x.1::L)
       |true=>fSet t d (.bool false) fun t1=>noD md ops i o t1 s L fun t s L=>evDrawF md P cl ops rest (j::seen) t s L)
theorem e1n (md:Bool)(P:Program)(cl:b0p)(ops:Array Oper): ∀(l seen:List Nat) (t:List SV) (s:SW) (L:List St),evDrawF md P cl ops l seen t s L=f0l P cl ops l seen t s L
 |[],_,t,s,L=>rfl
 |i::rest,seen,t,s,L=>by
  have ih:=e1n md P cl ops rest
  unfold evDrawF f0l
  cases ops[i]? with
  |none=>rfl
  |some o=>
   simp only[goD_eq,noD_eq,a1l,k1p,o1z,o1m,ih]
   rfl
def evRegionF (md:Bool)(P:Program)(cl:b0p)(ops:Array Oper)(draws:Bool)(t:List SV)(s:SW):Tree (List SV×SW):=match draws with
 |false=>evOpsF md P cl ops (List.range ops.size) [] t s
 |true=>(evDrawF md P cl ops (List.range ops.size) [] t s []).bind fun x=>.guard (x1n ops x.1) 210 (.leaf x.2)
theorem l1d (md:Bool)(P:Program)(cl:b0p)(ops:Array Oper)(draws:Bool)(t:List SV)(s:SW):evRegionF md P cl ops draws t s=s0a P cl ops draws t s:=by
 unfold evRegionF s0a;cases draws<;>simp only[q1d,e1n]
def evCodeF (md:Bool)(P:Program)(cl:b0p)(ls:b0u):Nat→Code→List SV→SW→Tree Res
 |0,_,_,_=>.bad 300
 |n+1,c,t,s=>match c with
  |.skip=>.leaf (.normal,t,s)
  |.ret=>.leaf (.ret,t,s)
  |.exit id=>.leaf (.exit id,t,s)
  |.region _ ops d=>(evRegionF md P cl ops d t s).bind fun x=>.leaf (.normal,x)
  |.seq a b=>(evCodeF md P cl ls n a t s).bind fun x=>match x.1 with
   |.normal=>evCodeF md P cl ls n b x.2.1 x.2.2
   |e=>.leaf (e,x.2)
  |.cond c x y=>match evT P t c with
   |.bool b=>.node b (evCodeF md P cl ls n x t s) (evCodeF md P cl ls n y t s)
   |_=>.bad 301
  |.block id c=>(evCodeF md P cl ls n c t s).bind fun x=>match x.1 with
   |.exit id'=>match Nat.beq id' id with
    |true=>.leaf (.normal,x.2)
    |false=>.leaf (.exit id',x.2)
   |e=>.leaf (e,x.2)
  |.loop c=>match ls c t s with
   |some T=>T
   |none=>c1l (evCodeF md P cl ls n c) n t s
  |.label _=>.leaf (.normal,t,s)
  |.scope c=>(evCodeF md P cl ls n c t s).bind fun x=>match x.1 with
   |.goto _=>.bad 308
   |e=>.leaf (e,x.2)
  |_=>.bad 302
theorem w0a (md:Bool)(P:Program)(cl:b0p)(ls:b0u): ∀(n:Nat) (c:Code),evCodeF md P cl ls n c=e0i P cl ls n c
 |0,c=>rfl
 |n+1,c=>by
  have ih:=w0a md P cl ls n
  funext t s
  unfold evCodeF e0i
  simp only[l1d,ih]
  rfl
def evBodyF (md:Bool)(P:Program)(cl:b0p)(ls:b0u)(n:Nat)(f:FuncId)(args:List SV)(s:SW):Tree (SV×SW):=match P.funcs[f]? with
 |some fn=>match fn.body with
  |some c=>fVs md (args++List.replicate (fn.ntmps-args.length) .undef) fun t=>fSW md s fun s=>(evCodeF md P cl ls n c t s).bind fun x=>match x.1 with
   |.normal=>match resV P fn x.2.1 x.2.2 with
    |some v=>.leaf (v,x.2.2)
    |none=>.bad 303
   |.ret=>match resV P fn x.2.1 x.2.2 with
    |some v=>.leaf (v,x.2.2)
    |none=>.bad 303
   |_=>.bad 304
  |none=>.bad 305
 |none=>.bad 305
theorem v0b (md:Bool)(P:Program)(cl:b0p)(ls:b0u)(n:Nat)(f:FuncId)(args:List SV)(s:SW):evBodyF md P cl ls n f args s=r0u P cl ls n f args s:=by
 unfold evBodyF r0u
 simp only[w0a,j2y,o1m]
 rfl
def callFF (md:Bool)(P:Program)(cs:FuncId→Option a0q)(ls:FuncId→Nat→b0u):Nat→Nat→b0p
 |0,_=>fun f args s=>match cs f with
  |some g=>g args s
  |none=>.bad 306
 |n+1,m=>fun f args s=>match cs f with
  |some g=>g args s
  |none=>u0v (fun args s=>evBodyF md P (callFF md P cs ls n m) (ls f s.len) m f args s) args s
theorem p1m (md:Bool)(P:Program)(cs:FuncId→Option a0q)(ls:FuncId→Nat→b0u): ∀(n m:Nat),callFF md P cs ls n m=e2m P cs ls n m
 |0,m=>rfl
 |n+1,m=>by
  have ih:=p1m md P cs ls n m
  funext f args s
  unfold callFF e2m
  simp only[v0b,ih]
  rfl
end Go.Proofs.Ytoehlcomhpnjgaa.Vx
