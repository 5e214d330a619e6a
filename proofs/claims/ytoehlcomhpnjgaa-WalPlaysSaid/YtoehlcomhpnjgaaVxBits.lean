import Derived.Test.YtoehlcomhpnjgaaVxAid
import Derived.Test.YtoehlcomhpnjgaaZ06j
import Derived.IntWalk
namespace Go.Proofs.Ytoehlcomhpnjgaa.Vx
open Go Go.RowKit
set_option linter.unusedVariables false
theorem n3j (k:Nat)(d:List Dat):dOf (some (k,d))=d:=rfl
theorem gn0 (x:Int)(l:List Dat):gn (.n x::l) 0=x:=rfl
theorem gl1 (a0:Dat)(t:Ty)(x:List t.den)(l:List Dat):gl t (a0::.l t x::l) 1=x:=by simp[gl,d0b]
theorem gn2 (a0:Dat)(a1:Dat)(x:Int)(l:List Dat):gn (a0::a1::.n x::l) 2=x:=rfl
theorem gl3 (a0:Dat)(a1:Dat)(a2:Dat)(t:Ty)(x:List t.den)(l:List Dat):gl t (a0::a1::a2::.l t x::l) 3=x:=by simp[gl,d0b]
def ofI {k:IntKind}(b:List Int):List (Ty.den (.int k)):=b
section
variable {k:IntKind}
theorem m3j (b:List Int):List.length (ofI (k:=k) b)=b.length:=rfl
theorem n3r (b:List Int)(i:Nat)(d:Int): @List.getD Int (ofI (k:=k) b) i d=b.getD i d:=rfl
end
theorem v0e {st:List Dat→Tree Step}{n:Nat}{env env':List Dat}(h:(st env).sel=some (.go env')):a0b st (n+1) env=a0b st n env':=by
 simp only[a0b,h]
theorem c0a {st:List Dat→Tree Step}{n k:Nat}{env d:List Dat}(h:(st env).sel=some (.stop k d)):a0b st (n+1) env=some (k,d):=by
 simp only[a0b,h]
theorem b0a {st:List Dat→Tree Step}(s:Nat→List Dat)(m:Nat)(y:Nat×List Dat)(go: ∀i,i<m→(st (s i)).sel=some (.go (s (i+1))))(stop:(st (s m)).sel=some (.stop y.1 y.2)):
  ∀fuel,m<fuel→a0b st fuel (s 0)=some y:=by
 have key: ∀d i,d+i=m→ ∀fuel,d<fuel→a0b st fuel (s i)=some y:=by
  intro d
  induction d with
  |zero=>
   intro i hi fuel hf
   have:i=m:=by omega
   subst this
   obtain⟨f,rfl⟩: ∃f,fuel=f+1:=⟨fuel-1,by omega⟩
   exact c0a stop
  |succ d ih=>
   intro i hi fuel hf
   obtain⟨f,rfl⟩: ∃f,fuel=f+1:=⟨fuel-1,by omega⟩
   rw[v0e (go i (by omega))]
   exact ih (i+1) (by omega) f (by omega)
 exact key m 0 rfl
theorem b1w {m:Nat}(h:m≤9223372036854775807):m<FU:=by unfold FU;omega
theorem c0s {w:Nat}(x:BitVec w):BitVec.ofInt w (x.toNat:Int)=x:=by
 apply BitVec.eq_of_toNat_eq
 have h:=x.isLt
 rw[BitVec.toNat_ofInt]
 have:((x.toNat:Int)% ((2^w:Nat):Int))=x.toNat:=by
  rw[←Int.natCast_emod,Nat.mod_eq_of_lt h]
 rw[this];rfl
def N {w:Nat}(x:BitVec w):Int:=(x.toNat:Int)
theorem N_inj {w:Nat}{x y:BitVec w}(h:N x=N y):x=y:=BitVec.eq_of_toNat_eq (by unfold N at h;omega)
theorem N_eq {w:Nat}{x y:BitVec w}:N x=N y↔x=y:=⟨N_inj,fun h=>by rw[h]⟩
theorem N_beq {w:Nat}(x y:BitVec w):(N x==N y)=(x==y):=by
 rw[Bool.eq_iff_iff];simp[N_eq]
theorem N_of {w:Nat}{n:Int}(h0:0≤n)(h1:n<2^w):N (BitVec.ofInt w n)=n:=by
 unfold N
 rw[BitVec.toNat_ofInt]
 have:n% ((2^w:Nat):Int)=n:=Int.emod_eq_of_lt h0 (by push_cast;exact h1)
 rw[this];omega
theorem l1z {w:Nat}(x:BitVec w)(k:Nat):(x>>>k).toNat=x.toNat/2^min k w:=by
 rw[BitVec.toNat_ushiftRight,Nat.shiftRight_eq_div_pow]
 rcases Nat.le_total k w with h|h
 ·rw[Nat.min_eq_left h]
 ·rw[Nat.min_eq_right h]
  have h1:=x.isLt
  rw[Nat.div_eq_of_lt h1,Nat.div_eq_of_lt (Nat.lt_of_lt_of_le h1 (Nat.pow_le_pow_right (by omega) h))]
theorem y1x (k:Nat):((2:Int)^k)=((2^k:Nat):Int):=by push_cast;rfl
theorem w1m (a b:Nat):(a:Int).fdiv (b:Int)=((a/b:Nat):Int):=by
 cases b with
 |zero=>simp
 |succ b=>rw[Int.fdiv_eq_ediv_of_nonneg _ (by omega)];rfl
theorem wrap_u8 (x:BitVec 8):IntKind.wrap .u8 (N x)=N x:=by
 have h:=x.isLt
 unfold N
 exact IntWalk.u8_in _ ⟨by omega,by omega⟩
theorem u4z (n:Int):IntKind.wrap .u8 n=N (BitVec.ofInt 8 n):=by
 unfold N
 rw[IntKind.wrap_u8,BitVec.toNat_ofInt]
 omega
theorem ixor_u8 (x y:BitVec 8):ixor .u8 (N x) (N y)=N (x^^^y):=by
 have:=wrap_u8 (x^^^y)
 unfold ixor
 show IntKind.wrap .u8 ((BitVec.ofInt 8 (N x)^^^BitVec.ofInt 8 (N y)).toNat:Int)=_
 unfold N at*
 rw[c0s,c0s,this]
theorem iand_u8 (x y:BitVec 8):iand .u8 (N x) (N y)=N (x&&&y):=by
 have:=wrap_u8 (x&&&y)
 unfold iand
 show IntKind.wrap .u8 ((BitVec.ofInt 8 (N x)&&&BitVec.ofInt 8 (N y)).toNat:Int)=_
 unfold N at*
 rw[c0s,c0s,this]
theorem ishr_u8 (x:BitVec 8)(m:Nat):ishr .u8 (N x) (m:Int)=N (x>>>m):=by
 unfold ishr N
 show(x.toNat:Int).fdiv (2^min m 8)=_
 rw[l1z,y1x,w1m]
theorem wrap_u32 (x:BitVec 32):IntKind.wrap .u32 (N x)=N x:=by
 have h:=x.isLt
 unfold N
 exact IntWalk.u32_in _ ⟨by omega,by omega⟩
theorem p2u (n:Int):IntKind.wrap .u32 n=N (BitVec.ofInt 32 n):=by
 unfold N
 rw[IntKind.wrap_u32,BitVec.toNat_ofInt]
 omega
theorem q2n (x y:BitVec 32):ixor .u32 (N x) (N y)=N (x^^^y):=by
 have:=wrap_u32 (x^^^y)
 unfold ixor
 show IntKind.wrap .u32 ((BitVec.ofInt 32 (N x)^^^BitVec.ofInt 32 (N y)).toNat:Int)=_
 unfold N at*
 rw[c0s,c0s,this]
theorem r2g (x y:BitVec 32):iand .u32 (N x) (N y)=N (x&&&y):=by
 have:=wrap_u32 (x&&&y)
 unfold iand
 show IntKind.wrap .u32 ((BitVec.ofInt 32 (N x)&&&BitVec.ofInt 32 (N y)).toNat:Int)=_
 unfold N at*
 rw[c0s,c0s,this]
theorem a2b (x:BitVec 32)(m:Nat):ishr .u32 (N x) (m:Int)=N (x>>>m):=by
 unfold ishr N
 show(x.toNat:Int).fdiv (2^min m 32)=_
 rw[l1z,y1x,w1m]
end Go.Proofs.Ytoehlcomhpnjgaa.Vx
