import Derived.Test.YtfkcodaiiheniaaVxBox2
import Derived.Carry
import Derived.ChangeOld
import Derived.ShutString
import Derived.Below
import Derived.Lib.SmallJoins
noncomputable section
namespace Go.Proofs.Ytfkcodaiiheniaa.Vx
open Go Go.RowKit Go.ChangeShapes Go.WideShapes Go.ChangeAt Go.Joins
set_option linter.unusedVariables false
def wfL {α:Type}(f:α→Bool):List α→Bool
 |[]=>true
 |x::l=>f x&&wfL f l
theorem o2j {α:Type}{f:α→Bool}{l:List α}:wfL f l=true↔ ∀x∈l,f x=true:=by
 induction l with
 |nil=>simp[wfL]
 |cons a l ih=>simp[wfL,ih]
def wfD:(t:Ty)→t.den→Bool
 |.bool,_=>true
 |.int k,(n:Int)=>decide (k.min≤n)&&decide (n≤k.max)
 |.str,(s:ByteArray)=>decide (s.size≤maxLen)
 |.sl t,(l:List t.den)=>decide (l.length≤maxLen)&&wfL (wfD t) l
 |.arr n t,(l:List t.den)=>decide (l.length=n)&&wfL (wfD t) l
 |.pair a b,d=>wfD a d.1&&wfD b d.2
 |.unit,_=>true
def mkP {a b:Ty}(x:a.den)(y:b.den):(Ty.pair a b).den:=(x,y)
def fstP {a b:Ty}(d:(Ty.pair a b).den):a.den:=d.1
def sndP {a b:Ty}(d:(Ty.pair a b).den):b.den:=d.2
theorem RD_mk {σ:Snap}{a b:Ty}{get:Nat→Option Value}{o:Nat}{x:a.den}{y:b.den}(h:RD σ a get o x)(k:RD σ b get (o+a.width) y):RD σ (.pair a b) get o (mkP x y):=⟨h,k⟩
theorem RD_get {σ:Snap}{a b:Ty}{get:Nat→Option Value}{o:Nat}{d:(Ty.pair a b).den}(h:RD σ (.pair a b) get o d):RD σ a get o (fstP d)∧RD σ b get (o+a.width) (sndP d):=h
theorem p0a {a b:Ty}{d:(Ty.pair a b).den}(h:wfD (.pair a b) d=true):wfD a (fstP d)=true∧wfD b (sndP d)=true:=by
 have:(wfD a (fstP d)&&wfD b (sndP d))=true:=h
 simpa using this
def u1x (P:Program):List Field→Nat→Bool
 |[],_=>true
 |f::fs,o=>Nat.beq f.offset o&&u1x P fs (o+P.cellsOf f.type)
def layB (P:Program):Nat→TypeId→Bool
 |0,_=>false
 |n+1,T=>match tyOf P (n+1) T with
  |some t=>Nat.beq (P.cellsOf T) t.width&&(match P.underlying T with
   |some (.slice e)=>layB P n e&&Nat.blt 0 (P.cellsOf e)
   |some (.array _ e)=>layB P n e
   |some (.struct fs)=>u1x P fs.toList 0&&fs.toList.all fun f=>layB P n f.type
   |_=>true)
  |none=>false
def b0k (w:World):Snap:=fun j=>match w.heap[j]? with
 |some (.cells c _ _)=>some c
 |_=>none
theorem o1b {w:World}{a:Addr}{v:Value}(h:w.cell? a=some v):a.spot=none∧ ∃c,b0k w a.block=some c∧c[a.off]? =some v:=by
 unfold World.cell? at h
 unfold b0k
 split at h
 ·rename_i c T f hc
  rw[hc]
  split at h
  ·cases h
  ·rename_i hs;exact⟨by simpa using hs,c,rfl,h⟩
 ·cases h
theorem y1z {α β:Type}{f:α→Option β}: ∀{l:List α} {r:List β},l.mapM f=some r→r.length=l.length∧ ∀i (hi:i<l.length),∃y,f l[i]=some y∧r[i]? =some y
 |[],r,h=>by simp at h;subst h;exact⟨rfl,fun i hi=>by simp at hi⟩
 |a::l,r,h=>by
  rw[List.mapM_cons]at h
  cases ha:f a with
  |none=>rw[ha]at h;cases h
  |some y=>
   rw[ha]at h
   cases hl:l.mapM f with
   |none=>simp[hl]at h
   |some r'=>
    simp[hl]at h
    subst h
    obtain⟨h1,h2⟩:=y1z hl
    refine⟨by simp[h1],fun i hi=> ?_⟩
    cases i with
    |zero=>exact⟨y,ha,rfl⟩
    |succ i=>simpa using h2 i (by simpa using hi)
theorem q0u {α:Type}{Q:Nat→α→Prop}: ∀(n:Nat),(∀i,i<n→ ∃d,Q i d)→ ∃l:List α,l.length=n∧ ∀i (h:i<l.length),Q i l[i]
 |0,_=>⟨[],rfl,fun i h=>by simp at h⟩
 |n+1,h=>by
  obtain⟨l,h1,h2⟩:=q0u n fun i hi=>h i (by omega)
  obtain⟨d,hd⟩:=h n (by omega)
  refine⟨l++[d],by simp[h1],fun i hi=> ?_⟩
  rcases Nat.lt_or_ge i l.length with q|q
  ·rw[List.getElem_append_left q];exact h2 i q
  ·have:i=l.length:=by simp at hi;omega
   subst this
   rw[List.getElem_append_right (Nat.le_refl _)]
   simp only[Nat.sub_self,List.getElem_cons_zero]
   rw[h1];exact hd
theorem n1d {w:World}{base:Nat}{a:Addr}{n:Nat}{l:List Value}(h:w.cells? base a n=some l):l.length=n∧ ∀i,i<n→ ∃v,w.cell? (a.add i)=some v∧l[i]? =some v:=by
 unfold World.cells? at h
 split at h
 ·obtain⟨h1,h2⟩:=y1z h
  simp only[List.length_range]at h1 h2
  refine⟨h1,fun i hi=> ?_⟩
  obtain⟨y,k1,k2⟩:=h2 i hi
  simp only[List.getElem_range]at k1
  exact⟨y,k1,k2⟩
 ·cases h
theorem m0x {P:Program}{n:Nat}{T:TypeId}{t:Ty}(h:layB P n T=true)(ht:tyOf P n T=some t):P.cellsOf T=t.width:=by
 cases n with
 |zero=>cases h
 |succ n=>
  unfold layB at h
  rw[ht]at h
  simp only[Bool.and_eq_true]at h
  exact Nat.eq_of_beq_eq_true h.1
section
variable {H:Type} {enc:TypeId×Value→H} {P:Program} {w:World} {sp:Nat→Bool} {held:Bool}
theorem s2k {a:Addr}(h:a.spot=none)(n:Nat):a.add n=⟨a.block,a.off+n,none⟩:=by
 obtain⟨b,o,s⟩:=a
 simp only at h;subst h
 exact b0o b o n
end
def argSV (P:Program)(T:TypeId)(t:Ty)(d:t.den):SV:=match aggB P T with
 |some true=>.agg (d0l t d)
 |_=>(d0l t d).headD .dead
def HL:List Ty→Type
 |[]=>Unit
 |t::ts=>t.den×HL ts
def j2l (P:Program):List TypeId→(ts:List Ty)→HL ts→List SV
 |T::Ts,t::ts,d=>argSV P T t d.1::j2l P Ts ts d.2
 |_,_,_=>[]
def wfH:(ts:List Ty)→HL ts→Bool
 |[],_=>true
 |t::ts,d=>wfD t d.1&&wfH ts d.2
def o2i (P:Program):List TypeId→Option (List Ty)
 |[]=>some []
 |T::Ts=>match layB P TF T,tyOf P TF T,o2i P Ts with
  |true,some t,some ts=>some (t::ts)
  |_,_,_=>none
section
variable {H:Type} {enc:TypeId×Value→H} {P:Program} {w:World} {sp:Nat→Bool} {held:Bool} {r:RM}
theorem d2j {n:Nat}{e t:TypeId}{rr:Reach}{base:Nat}{v:Value}(ht:P.underlying t=some (.array n e))(h:Value.okWide P w rr base t v): ∃cs,v=.agg cs∧cs.size=P.cellsOf t:=by
 simp only[Value.okWide,ht]at h
 obtain⟨cs,h1,h2,_⟩:=h
 exact⟨cs,h1,h2⟩
theorem t0b (hlo:laidOutB P=true){W W':World}(hb:Below W.heap.size W W'): ∀(Ts:List TypeId) (vs:List Value) (ds:List (DataW H)) (p:List MemPlace),(Ts.all fun T=>P.readableRec T&&Nat.blt T P.types.size)=true→DataW.TrodAll enc P W 0 (fun _=>true) true Ts vs ds p→
  DataW.TrodAll enc P W' 0 (fun b=>decide (b<W.heap.size)) true Ts vs ds p
 |[],vs,ds,p,_,hA=>by cases vs<;>cases ds<;>exact hA
 |T::Ts,vs,ds,p,hT,hA=>by
  simp only[List.all_cons,Bool.and_eq_true]at hT
  obtain⟨v,vs',d,ds',p',q,rfl,rfl,rfl,hx,hr⟩:=trodAll_cons hA
  have lt: ∀x∈p',x.block<W.heap.size:=by obtain⟨m,hm⟩:=hx;exact DataW.trod_lt m _ _ _ hm
  exact⟨p',q,Below.trod hlo hT.1.1 (Nat.le_of_ble_eq_true hT.1.2) hx hb lt,t0b hlo hb Ts vs' ds' q hT.2 hr,rfl⟩
end
def R0:RM:=⟨fun _=>none,fun _ _=>none,fun _=>none⟩
theorem r1m (b j:Nat): ¬R0.at b j:=by
 rintro(⟨n,h⟩|⟨g,x,o,h,_⟩|h)<;>cases h
theorem rel0 (w:World):Rel R0 (b0k w) ⟨[],[]⟩ w:=by
 have hb: ∀b,(⟨[],[]⟩:SW).blk b=none:=fun b=>rfl
 refine⟨fun j c h=> ?_,(fun b x h=>by cases h),(fun b g x h=>by cases h),(fun b x h=>by cases h),(fun b j h=>(r1m b j h).elim),(fun b es j n h=>by rw[hb]at h;cases h),(fun b t g l x h=>by rw[hb]at h;cases h),
  (fun b t g l x h=>by rw[hb]at h;cases h),(fun b b' j h=>(r1m b j h).elim),(fun b j h=>by rw[hb]at h;exact h.elim),(fun b t g l g' h=>by rw[hb]at h;cases h),(fun b t p j h=>by rw[hb]at h;cases h),(fun b g es x h=>by rw[hb]at h;cases h),(fun b g es g' h=>by rw[hb]at h;cases h),(fun b kt vt l j h=>by rw[hb]at h;cases h),(fun b kt ks es j h=>by rw[hb]at h;cases h)⟩
 unfold b0k at h
 split at h
 ·rename_i c' T f hc;cases h;exact⟨T,f,hc⟩
 ·cases h
theorem m2u {P:Program}{cl:b0p}(hcl:ClOk P cl)(hm:P.follows .mixedOrders=true){ls:b0u}{n:Nat}{f:FuncId}(hls:LsOk P 0 ls (a0r P f)){args:List SV}{s1:SW}
  (h:(r0u P cl ls n f args ⟨[],[]⟩).sel=some (.bool true,s1)) {w:World} {args':Array Value} (ha:LRel R0 (b0k w) args args'):
  Calls P f args' w fun e w'=>e=.returned (.bool true)∧Below w.heap.size w w':=by
 refine(t0k hcl hm hls h (Nat.zero_le _) (rel0 w) ha).mono ?_
 rintro e w' ⟨v',rfl,r',σ',a1,a2,a3,a4,a5⟩
 cases a3
 exact⟨rfl,a2.os,a2.tape,a2.output,a2.size,fun j hj=>a2.keep j hj fun b _ hat=>r1m b j hat⟩
end Go.Proofs.Ytfkcodaiiheniaa.Vx
namespace Go.Proofs.Ytfkcodaiiheniaa.Vx
open Go
theorem j1x {t:Ty}{l:List t.den}(h:wfD (.sl t) l=true):l.length≤9223372036854775807:=by
 have:(decide (l.length≤maxLen)&&wfL (wfD t) l)=true:=h
 rw[Bool.and_eq_true]at this
 exact of_decide_eq_true this.1
theorem wfh0 {t:Ty}{ts:List Ty}{d:HL (t::ts)}(h:wfH (t::ts) d=true):wfD t d.1=true:=by
 have:(wfD t d.1&&wfH ts d.2)=true:=h
 rw[Bool.and_eq_true]at this;exact this.1
end Go.Proofs.Ytfkcodaiiheniaa.Vx
