import Derived.Test.YtcbhgaeiokfcdaaVxAid
import Derived.Test.YtcbhgaeiokfcdaaZ06j
import Derived.IntWalk
namespace Go.Proofs.Ytcbhgaeiokfcdaa.Vx
open Go Go.RowKit
set_option linter.unusedVariables false
section
variable {k:IntKind}
end
theorem v0g {st:List Dat→Tree Step}{n:Nat}{env env':List Dat}(h:(st env).sel=some (.go env')):a0b st (n+1) env=a0b st n env':=by
 simp only[a0b,h]
theorem c0c {st:List Dat→Tree Step}{n k:Nat}{env d:List Dat}(h:(st env).sel=some (.stop k d)):a0b st (n+1) env=some (k,d):=by
 simp only[a0b,h]
theorem a0j {st:List Dat→Tree Step}(s:Nat→List Dat)(m:Nat)(y:Nat×List Dat)(go: ∀i,i<m→(st (s i)).sel=some (.go (s (i+1))))(stop:(st (s m)).sel=some (.stop y.1 y.2)):
  ∀fuel,m<fuel→a0b st fuel (s 0)=some y:=by
 have key: ∀d i,d+i=m→ ∀fuel,d<fuel→a0b st fuel (s i)=some y:=by
  intro d
  induction d with
  |zero=>
   intro i hi fuel hf
   have:i=m:=by omega
   subst this
   obtain⟨f,rfl⟩: ∃f,fuel=f+1:=⟨fuel-1,by omega⟩
   exact c0c stop
  |succ d ih=>
   intro i hi fuel hf
   obtain⟨f,rfl⟩: ∃f,fuel=f+1:=⟨fuel-1,by omega⟩
   rw[v0g (go i (by omega))]
   exact ih (i+1) (by omega) f (by omega)
 exact key m 0 rfl
theorem c0v {m:Nat}(h:m≤9223372036854775807):m<FU:=by unfold FU;omega
theorem c0h {w:Nat}(x:BitVec w):BitVec.ofInt w (x.toNat:Int)=x:=by
 apply BitVec.eq_of_toNat_eq
 have h:=x.isLt
 rw[BitVec.toNat_ofInt]
 have:((x.toNat:Int)% ((2^w:Nat):Int))=x.toNat:=by
  rw[←Int.natCast_emod,Nat.mod_eq_of_lt h]
 rw[this];rfl
def N {w:Nat}(x:BitVec w):Int:=(x.toNat:Int)
theorem N_inj {w:Nat}{x y:BitVec w}(h:N x=N y):x=y:=BitVec.eq_of_toNat_eq (by unfold N at h;omega)
theorem N_eq {w:Nat}{x y:BitVec w}:N x=N y↔x=y:=⟨N_inj,fun h=>by rw[h]⟩
theorem N_beq {w:Nat}(x y:BitVec w):(N x==N y)=(x==y):=by
 rw[Bool.eq_iff_iff];simp[N_eq]
theorem N_of {w:Nat}{n:Int}(h0:0≤n)(h1:n<2^w):N (BitVec.ofInt w n)=n:=by
 unfold N
 rw[BitVec.toNat_ofInt]
 have:n% ((2^w:Nat):Int)=n:=Int.emod_eq_of_lt h0 (by push_cast;exact h1)
 rw[this];omega
theorem t1y {w:Nat}(x:BitVec w)(k:Nat):(x>>>k).toNat=x.toNat/2^min k w:=by
 rw[BitVec.toNat_ushiftRight,Nat.shiftRight_eq_div_pow]
 rcases Nat.le_total k w with h|h
 ·rw[Nat.min_eq_left h]
 ·rw[Nat.min_eq_right h]
  have h1:=x.isLt
  rw[Nat.div_eq_of_lt h1,Nat.div_eq_of_lt (Nat.lt_of_lt_of_le h1 (Nat.pow_le_pow_right (by omega) h))]
theorem p1r {w:Nat}(x:BitVec w)(k:Nat):(x<<<k).toNat=x.toNat*2^min k w%2^w:=by
 rw[BitVec.toNat_shiftLeft,Nat.shiftLeft_eq]
 rcases Nat.le_total k w with h|h
 ·rw[Nat.min_eq_left h]
 ·rw[Nat.min_eq_right h,Nat.mul_mod_left]
  obtain⟨d,rfl⟩:=Nat.exists_eq_add_of_le h
  rw[Nat.pow_add,←Nat.mul_assoc,Nat.mul_right_comm,Nat.mul_mod_left]
theorem d2p (k:Nat):((2:Int)^k)=((2^k:Nat):Int):=by push_cast;rfl
theorem i2u (a b:Nat):(a:Int).fdiv (b:Int)=((a/b:Nat):Int):=by
 cases b with
 |zero=>simp
 |succ b=>rw[Int.fdiv_eq_ediv_of_nonneg _ (by omega)];rfl
theorem wrap_u32 (x:BitVec 32):IntKind.wrap .u32 (N x)=N x:=by
 have h:=x.isLt
 unfold N
 exact IntWalk.u32_in _ ⟨by omega,by omega⟩
theorem b3j (n:Int):IntKind.wrap .u32 n=N (BitVec.ofInt 32 n):=by
 unfold N
 rw[IntKind.wrap_u32,BitVec.toNat_ofInt]
 omega
theorem k0r (x y:BitVec 32):iand .u32 (N x) (N y)=N (x&&&y):=by
 have:=wrap_u32 (x&&&y)
 unfold iand
 show IntKind.wrap .u32 ((BitVec.ofInt 32 (N x)&&&BitVec.ofInt 32 (N y)).toNat:Int)=_
 unfold N at*
 rw[c0h,c0h,this]
theorem e1a (x y:BitVec 32):ior .u32 (N x) (N y)=N (x|||y):=by
 have:=wrap_u32 (x|||y)
 unfold ior
 show IntKind.wrap .u32 ((BitVec.ofInt 32 (N x)|||BitVec.ofInt 32 (N y)).toNat:Int)=_
 unfold N at*
 rw[c0h,c0h,this]
theorem b0w (x y:BitVec 32):a0o .u32 (N x) (N y)=N (x&&& ~~~y):=by
 have:=wrap_u32 (x&&& ~~~y)
 unfold a0o
 show IntKind.wrap .u32 ((BitVec.ofInt 32 (N x)&&& ~~~(BitVec.ofInt 32 (N y))).toNat:Int)=_
 unfold N at*
 rw[c0h,c0h,this]
theorem g3d (x:BitVec 32)(m:Nat):ishr .u32 (N x) (m:Int)=N (x>>>m):=by
 unfold ishr N
 show(x.toNat:Int).fdiv (2^min m 32)=_
 rw[t1y,d2p,i2u]
theorem wrap_u64 (x:BitVec 64):IntKind.wrap .u64 (N x)=N x:=by
 have h:=x.isLt
 unfold N
 exact IntWalk.u64_in _ ⟨by omega,by omega⟩
theorem o1h (n:Int):IntKind.wrap .u64 n=N (BitVec.ofInt 64 n):=by
 unfold N
 rw[IntKind.wrap_u64,BitVec.toNat_ofInt]
 omega
theorem a0y (x y:BitVec 64):iand .u64 (N x) (N y)=N (x&&&y):=by
 have:=wrap_u64 (x&&&y)
 unfold iand
 show IntKind.wrap .u64 ((BitVec.ofInt 64 (N x)&&&BitVec.ofInt 64 (N y)).toNat:Int)=_
 unfold N at*
 rw[c0h,c0h,this]
theorem e0z (x y:BitVec 64):ior .u64 (N x) (N y)=N (x|||y):=by
 have:=wrap_u64 (x|||y)
 unfold ior
 show IntKind.wrap .u64 ((BitVec.ofInt 64 (N x)|||BitVec.ofInt 64 (N y)).toNat:Int)=_
 unfold N at*
 rw[c0h,c0h,this]
theorem g3w (x:BitVec 64)(m:Nat):ishr .u64 (N x) (m:Int)=N (x>>>m):=by
 unfold ishr N
 show(x.toNat:Int).fdiv (2^min m 64)=_
 rw[t1y,d2p,i2u]
theorem m3o (x:BitVec 64)(m:Nat):ishl .u64 (N x) (m:Int)=N (x<<<m):=by
 unfold ishl
 show IntKind.wrap .u64 (N x*2^min m 64)=_
 have h:N x*2^min m 64=((x.toNat*2^min m 64:Nat):Int):=by unfold N;push_cast;rfl
 rw[h,IntKind.wrap_u64]
 unfold N
 rw[p1r,Int.natCast_emod]
 rfl
end Go.Proofs.Ytcbhgaeiokfcdaa.Vx
