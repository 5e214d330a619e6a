import Derived.Test.YtlambinleegdoaaVxIm
noncomputable section
namespace Go.Proofs.Ytlambinleegdoaa.Vx
open Go Go.RowKit
set_option linter.unusedVariables false
theorem z3e (s:SW):(o2a 0 [] [(.bool 0,[])] (.bool true) s).sel=some (0,[.b true]):=by
 have hl:p2r 0 [] s.log=true:=by
  unfold p2r
  rw[List.all_eq_true]
  intro b _
  simp
 have hr:n1n 0 [.bool 0] [] [.bool true] s=some [.b true]:=rfl
 unfold o2a Tree.guard
 rw[hl]
 show(d1q 0 (.bool true) s [(.bool 0,[])] 0).sel=_
 unfold d1q
 rw[hr]
 rfl
section
variable {P:Program}
theorem m3r {cs:FuncId→Option a0q}(hcs:CsOk P cs)(hm:P.follows .mixedOrders=true)(md:Bool){ls:b0u}{f:FuncId}{args:List PV}{op:List Dat→Option (Nat×List Dat)}(hls:LsOk P 0 ls (a0r P f))
  (h: ∀env x,op env=some x→x=(0,[.b true])∧(lawB md P cs f ls (instL args env)).sel=some true):a0v P f (a0j (mkF args [] [] [(.bool 0,[])] op)):=by
 refine a0p hcs hm md (blks:=[]) hls fun env x he=> ?_
 obtain⟨rfl,hb⟩:=h env x he
 unfold lawB at hb
 obtain⟨⟨v,s1⟩,h1,h2⟩:=Tree.bind_some hb
 unfold boxC boxEvF
 rw[Tree.sel_bind]
 have h1':(evBodyF md P (clMd md P cs) ls 4000 f (instL (mkF args [] [] [(.bool 0,[])] fun _=>none).args env) ⟨instBs (mkF args [] [] [(.bool 0,[])] fun _=>none).blks env,[]⟩).sel=some (v,s1):=h1
 rw[h1']
 cases v<;>simp[Tree.sel]at h2
 subst h2
 exact z3e s1
end
theorem h3p {env:List Dat}(h:h1z [] env=true):env=[]:=by
 cases env with
 |nil=>rfl
 |cons a b=>cases h
theorem t0c {ks:List HK}{env:List Dat}(h:h1z (.n::ks) env=true): ∃n d,env=.n n::d∧h1z ks d=true:=by
 cases env with
 |nil=>cases h
 |cons a d=>cases a<;>first|exact⟨_,_,rfl,h⟩|cases h
theorem h4v {ks:List HK}{env:List Dat}(h:h1z (.b::ks) env=true): ∃n d,env=.b n::d∧h1z ks d=true:=by
 cases env with
 |nil=>cases h
 |cons a d=>cases a<;>first|exact⟨_,_,rfl,h⟩|cases h
theorem t1c {t:Ty}{ks:List HK}{env:List Dat}(h:h1z (.l t::ks) env=true): ∃(l:List t.den) (d:List Dat),env=.l t l::d∧h1z ks d=true:=by
 cases env with
 |nil=>cases h
 |cons a d=>
  cases a with
  |l t' l=>
   simp only[h1z,Bool.and_eq_true,decide_eq_true_eq]at h
   obtain⟨rfl,h⟩:=h
   exact⟨l,d,rfl,h⟩
  |_=>cases h
theorem i3l {st:List Dat→Tree Step}(e:Int→List Dat)(m:Int)(y:Nat×List Dat)(hs: ∀n,0≤n→n<m→(st (e n)).sel=some (.go (e (n+1))))(hx:(st (e m)).sel=some (.stop y.1 y.2)):
  ∀(f:Nat) (n:Int),0≤n→n≤m→(m-n).toNat<f→a0b st f (e n)=some y
 |0,n,_,_,h=>by omega
 |f+1,n,h0,h1,h=>by
  unfold a0b
  by_cases c:n<m
  ·rw[hs n h0 c]
   exact i3l e m y hs hx f (n+1) (by omega) (by omega) (by omega)
  ·have:n=m:=by omega
   subst this
   rw[hx]
theorem w64s {x:Int}(h: -9223372036854775808≤x)(k:x≤9223372036854775807):IntKind.wrap .i64 x=x:=by rw[w64d];omega
def r3c (ks:List HK)(p:List Dat→Bool)(env:List Dat):Option (Nat×List Dat):=bif h1z ks env&&p env then some (0,[.b true])else none
theorem j3v {ks:List HK}{p:List Dat→Bool}{env:List Dat}{x:Nat×List Dat}(h:r3c ks p env=some x):x=(0,[.b true])∧h1z ks env=true∧p env=true:=by
 unfold r3c at h
 cases e:(h1z ks env&&p env)with
 |true=>rw[e]at h;simp only[cond_true,Option.some.injEq]at h;rw[Bool.and_eq_true]at e;exact⟨h.symm,e.1,e.2⟩
 |false=>rw[e]at h;cases h
end Go.Proofs.Ytlambinleegdoaa.Vx
