import Derived.Test.YtoehlcomhpnjgaaVxPure
namespace Go.Proofs.Ytoehlcomhpnjgaa.Vx
open Go Go.RowKit
set_option linter.unusedVariables false
theorem w64 {x:Int}(h: -9223372036854775808≤x)(k:x≤9223372036854775807):IntKind.wrap .i64 x=x:=by
 have e:IntKind.wrap .i64 x=if x%18446744073709551616≥9223372036854775808 then x%18446744073709551616-18446744073709551616 else x%18446744073709551616:=by
  unfold IntKind.wrap
  simp[IntKind.bits,IntKind.signed]
 rw[e]
 split<;>omega
theorem h1s {i:Int}{n:Nat}(h:0≤i)(k:i<n):inR i n=true:=by
 unfold inR;rw[decide_eq_true h,decide_eq_true k];rfl
theorem dt {p:Prop}[Decidable p](h:p):decide p=true:=decide_eq_true h
theorem df {p:Prop}[Decidable p](h: ¬p):decide p=false:=decide_eq_false h
theorem bt {a b:Int}(h:a=b):(a==b)=true:=by subst h;simp
theorem bf {a b:Int}(h:a≠b):(a==b)=false:=by simpa using h
theorem nt {b:Bool}(h:b=true):(!b)=false:=by subst h;rfl
theorem nf {b:Bool}(h:b=false):(!b)=true:=by subst h;rfl
theorem selT {α:Type}{c:Bool}{t e:Tree α}(h:c=true):(Tree.node c t e).sel=t.sel:=by subst h;rfl
theorem selF {α:Type}{c:Bool}{t e:Tree α}(h:c=false):(Tree.node c t e).sel=e.sel:=by subst h;rfl
end Go.Proofs.Ytoehlcomhpnjgaa.Vx
namespace Go.Proofs.Ytoehlcomhpnjgaa.Vx
theorem h0f {α:Type}{l:List α}{i:Nat}{d:α}(h:i<l.length):l.getD i d∈l:=by
 rw[List.getD_eq_getElem?_getD,List.getElem?_eq_getElem h];exact List.getElem_mem h
end Go.Proofs.Ytoehlcomhpnjgaa.Vx
namespace Go.Proofs.Ytoehlcomhpnjgaa.Vx
open Go
theorem c1u {H:Type}{enc:TypeId×Value→H}{P:Program}{w:World}{base:Nat}{sp:Nat→Bool}{held:Bool}: ∀{Ts:List TypeId} {vs:List Value} {ds:List (DataW H)} {p:List MemPlace},DataW.TrodAll enc P w base sp held Ts vs ds p→ds.length=Ts.length
 |[],vs,ds,p,h=>by cases vs<;>cases ds<;>first|rfl|exact h.elim
 |T::Ts,vs,ds,p,h=>by
  cases vs with
  |nil=>cases ds<;>exact h.elim
  |cons v vs=>
   cases ds with
   |nil=>exact h.elim
   |cons d ds=>
    obtain⟨p',q,_,h2,_⟩:=h
    simp[c1u h2]
end Go.Proofs.Ytoehlcomhpnjgaa.Vx
namespace Go.Proofs.Ytoehlcomhpnjgaa.Vx
end Go.Proofs.Ytoehlcomhpnjgaa.Vx
