import Derived.Test.YtoehlcomhpnjgaaVxLook
namespace Go.Proofs.Ytoehlcomhpnjgaa.Vx
open Go Go.RowKit
set_option linter.unusedVariables false
theorem w64d (x:Int):IntKind.wrap .i64 x=(x+9223372036854775808)%18446744073709551616-9223372036854775808:=by
 have e:IntKind.wrap .i64 x=if x%18446744073709551616≥9223372036854775808 then x%18446744073709551616-18446744073709551616 else x%18446744073709551616:=by
  unfold IntKind.wrap
  simp[IntKind.bits,IntKind.signed]
 rw[e]
 split<;>omega
def Tree.th {α:Type}:Tree α→Tree α
 |.node _ t _=>t
 |x=>x
def Tree.el {α:Type}:Tree α→Tree α
 |.node _ _ e=>e
 |x=>x
def Tree.isNode {α:Type}:Tree α→Bool
 |.node _ _ _=>true
 |_=>false
def Tree.cd {α:Type}:Tree α→Bool
 |.node c _ _=>c
 |_=>false
def Tree.isAsk {α:Type}:Tree α→Bool
 |.ask _ _=>true
 |_=>false
def Tree.askO {α:Type}:Tree α→Option (Nat×List Dat)
 |.ask r _=>r
 |_=>none
def Tree.askK {α:Type}(r:Option (Nat×List Dat)):Tree α→Tree α
 |.ask _ k=>k r
 |x=>x
def Imp {α:Type}(T x:Tree α):Prop:= ∀y,T.sel=some y→x.sel=some y
section
variable {α:Type} {T E x:Tree α} {c:Bool}
theorem Imp.none {w:Nat}:Imp (.bad w) x:=fun y hy=>by cases hy
theorem Imp.leaf {y:α}(h:x.sel=some y):Imp (.leaf y) x:=fun z hz=>by rw[h];exact hz
theorem Tree.node_eq (h:x.isNode=true):x=.node x.cd x.th x.el:=by cases x<;>first|rfl|cases h
theorem Imp.node (h:x.isNode=true)(e:x.cd=c)(a:c=true→Imp T x.th)(b:c=false→Imp E x.el):Imp (.node c T E) x:=fun y hy=>by
 rw[Tree.node_eq h,e]
 cases c with
 |true=>exact a rfl y hy
 |false=>exact b rfl y hy
theorem Imp.pt (h:x.isNode=true)(e:x.cd=c)(k:c=true)(a:Imp T x.th):Imp T x:=fun y hy=>by
 rw[Tree.node_eq h,e];subst k;exact a y hy
theorem Imp.pf (h:x.isNode=true)(e:x.cd=c)(k:c=false)(a:Imp T x.el):Imp T x:=fun y hy=>by
 rw[Tree.node_eq h,e];subst k;exact a y hy
def Tree.okPath {α:Type}:List Nat→Tree α→Bool
 |[],_=>true
 |0::l,.node c _ e=>match c with
  |false=>e.okPath l
  |true=>false
 |(_+1)::l,.node c t _=>match c with
  |true=>t.okPath l
  |false=>false
 |_::_,_=>false
def Tree.walk {α:Type}:List Nat→Tree α→Tree α
 |[],x=>x
 |0::l,x=>Tree.walk l x.el
 |(_+1)::l,x=>Tree.walk l x.th
theorem Tree.walk_sel {α:Type}: ∀(l:List Nat) (x:Tree α),x.okPath l=true→(x.walk l).sel=x.sel
 |[],x,_=>rfl
 |0::l,x,h=>by
  cases x with
  |node c t e=>cases c with
   |true=>cases h
   |false=>exact Tree.walk_sel l e h
  |_=>cases h
 |(_+1)::l,x,h=>by
  cases x with
  |node c t e=>cases c with
   |true=>exact Tree.walk_sel l t h
   |false=>cases h
  |_=>cases h
theorem Imp.path {α:Type}{T x:Tree α}(l:List Nat)(h:x.okPath l=true)(a:Imp T (x.walk l)):Imp T x:=fun y hy=>by
 rw[←Tree.walk_sel l x h];exact a y hy
end
end Go.Proofs.Ytoehlcomhpnjgaa.Vx
