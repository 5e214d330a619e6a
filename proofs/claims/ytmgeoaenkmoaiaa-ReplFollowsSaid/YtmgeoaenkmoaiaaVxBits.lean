import Derived.Test.YtmgeoaenkmoaiaaVxAid
import Derived.Test.YtmgeoaenkmoaiaaZ06j
import Derived.IntWalk
namespace Go.Proofs.Ytmgeoaenkmoaiaa.Vx
open Go Go.RowKit
set_option linter.unusedVariables false
section
variable {k:IntKind}
end
theorem v0e {st:List Dat→Tree Step}{n:Nat}{env env':List Dat}(h:(st env).sel=some (.go env')):a0b st (n+1) env=a0b st n env':=by
 simp only[a0b,h]
theorem c0a {st:List Dat→Tree Step}{n k:Nat}{env d:List Dat}(h:(st env).sel=some (.stop k d)):a0b st (n+1) env=some (k,d):=by
 simp only[a0b,h]
theorem b0a {st:List Dat→Tree Step}(s:Nat→List Dat)(m:Nat)(y:Nat×List Dat)(go: ∀i,i<m→(st (s i)).sel=some (.go (s (i+1))))(stop:(st (s m)).sel=some (.stop y.1 y.2)):
  ∀fuel,m<fuel→a0b st fuel (s 0)=some y:=by
 have key: ∀d i,d+i=m→ ∀fuel,d<fuel→a0b st fuel (s i)=some y:=by
  intro d
  induction d with
  |zero=>
   intro i hi fuel hf
   have:i=m:=by omega
   subst this
   obtain⟨f,rfl⟩: ∃f,fuel=f+1:=⟨fuel-1,by omega⟩
   exact c0a stop
  |succ d ih=>
   intro i hi fuel hf
   obtain⟨f,rfl⟩: ∃f,fuel=f+1:=⟨fuel-1,by omega⟩
   rw[v0e (go i (by omega))]
   exact ih (i+1) (by omega) f (by omega)
 exact key m 0 rfl
theorem b1w {m:Nat}(h:m≤9223372036854775807):m<FU:=by unfold FU;omega
theorem c0s {w:Nat}(x:BitVec w):BitVec.ofInt w (x.toNat:Int)=x:=by
 apply BitVec.eq_of_toNat_eq
 have h:=x.isLt
 rw[BitVec.toNat_ofInt]
 have:((x.toNat:Int)% ((2^w:Nat):Int))=x.toNat:=by
  rw[←Int.natCast_emod,Nat.mod_eq_of_lt h]
 rw[this];rfl
def N {w:Nat}(x:BitVec w):Int:=(x.toNat:Int)
theorem N_of {w:Nat}{n:Int}(h0:0≤n)(h1:n<2^w):N (BitVec.ofInt w n)=n:=by
 unfold N
 rw[BitVec.toNat_ofInt]
 have:n% ((2^w:Nat):Int)=n:=Int.emod_eq_of_lt h0 (by push_cast;exact h1)
 rw[this];omega
theorem x4g (x:BitVec 32):IntKind.wrap .u32 (N x)=N x:=by
 have h:=x.isLt
 unfold N
 exact IntWalk.u32_in _ ⟨by omega,by omega⟩
theorem q2n (x y:BitVec 32):ixor .u32 (N x) (N y)=N (x^^^y):=by
 have:=x4g (x^^^y)
 unfold ixor
 show IntKind.wrap .u32 ((BitVec.ofInt 32 (N x)^^^BitVec.ofInt 32 (N y)).toNat:Int)=_
 unfold N at*
 rw[c0s,c0s,this]
theorem x4f (x:BitVec 64):IntKind.wrap .u64 (N x)=N x:=by
 have h:=x.isLt
 unfold N
 exact IntWalk.u64_in _ ⟨by omega,by omega⟩
theorem w4h (x y:BitVec 64):ixor .u64 (N x) (N y)=N (x^^^y):=by
 have:=x4f (x^^^y)
 unfold ixor
 show IntKind.wrap .u64 ((BitVec.ofInt 64 (N x)^^^BitVec.ofInt 64 (N y)).toNat:Int)=_
 unfold N at*
 rw[c0s,c0s,this]
end Go.Proofs.Ytmgeoaenkmoaiaa.Vx
