import Derived.Test.YtmgeoaenkmoaiaaVxBits
namespace Go.Proofs.Ytmgeoaenkmoaiaa.Vx
open Go Go.RowKit
set_option linter.unusedVariables false
def b0i (hit:Nat→Bool):Nat→Option Nat
 |0=>none
 |m+1=>match b0i hit m with
  |some i=>some i
  |none=>match hit m with
   |true=>some m
   |false=>none
theorem b0r {hit:Nat→Bool}: ∀{m:Nat},b0i hit m=none→ ∀i,i<m→hit i=false
 |0,_,i,hi=>by omega
 |m+1,h,i,hi=>by
  unfold b0i at h
  split at h
  ·cases h
  ·rename_i h0
   split at h
   ·cases h
   ·rename_i h1
    rcases Nat.lt_or_ge i m with q|q
    ·exact b0r h0 i q
    ·have:i=m:=by omega
     subst this;exact h1
theorem b0x {hit:Nat→Bool}: ∀{m k:Nat},b0i hit m=some k→k<m∧hit k=true∧ ∀i,i<k→hit i=false
 |0,k,h=>by cases h
 |m+1,k,h=>by
  unfold b0i at h
  split at h
  ·rename_i i h0
   cases h
   obtain⟨h1,h2,h3⟩:=b0x h0
   exact⟨by omega,h2,h3⟩
  ·rename_i h0
   split at h
   ·rename_i h1
    cases h
    exact⟨by omega,h1,b0r h0⟩
   ·cases h
theorem f0f {st:List Dat→Tree Step}(s:Nat→List Dat)(m:Nat)(hit:Nat→Bool)(y:Nat→Nat×List Dat)(y0:Nat×List Dat)
  (go: ∀i,i<m→hit i=false→(st (s i)).sel=some (.go (s (i+1)))) (found: ∀i,i<m→hit i=true→(st (s i)).sel=some (.stop (y i).1 (y i).2)) (stop:(st (s m)).sel=some (.stop y0.1 y0.2)):
  ∀fuel,m<fuel→a0b st fuel (s 0)=some (match b0i hit m with|some k=>y k|none=>y0):=by
 have key: ∀d i fuel,d+i≤m→d<fuel→(∀j,i≤j→j<i+d→hit j=false)→a0b st fuel (s i)=a0b st (fuel-d) (s (i+d)):=by
  intro d
  induction d with
  |zero=>intro i fuel _ _ _;rfl
  |succ d ih=>
   intro i fuel hi hf hh
   obtain⟨f,rfl⟩: ∃f,fuel=f+1:=⟨fuel-1,by omega⟩
   rw[v0e (go i (by omega) (hh i (Nat.le_refl _) (by omega))),ih (i+1) f (by omega) (by omega) (fun j h1 h2=>hh j (by omega) (by omega))]
   rw[show f+1-(d+1)=f-d by omega,show i+1+d=i+(d+1) by omega]
 intro fuel hf
 cases hq:b0i hit m with
 |some k=>
  obtain⟨h1,h2,h3⟩:=b0x hq
  have:=key k 0 fuel (by omega) (by omega) (fun j _ hj=>h3 j (by omega))
  rw[this,Nat.zero_add]
  obtain⟨f,hf'⟩: ∃f,fuel-k=f+1:=⟨fuel-k-1,by omega⟩
  rw[hf']
  exact c0a (found k h1 h2)
 |none=>
  have:=key m 0 fuel (by omega) (by omega) (fun j _ hj=>b0r hq j (by omega))
  rw[this,Nat.zero_add]
  obtain⟨f,hf'⟩: ∃f,fuel-m=f+1:=⟨fuel-m-1,by omega⟩
  rw[hf']
  exact c0a stop
end Go.Proofs.Ytmgeoaenkmoaiaa.Vx
