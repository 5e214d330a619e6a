import Derived.Test.YtfkcodaiiheniaaVxLift
import Derived.SizedLaws
noncomputable section
namespace Go.Proofs.Ytfkcodaiiheniaa.Vx
open Go Go.RowKit Go.ChangeShapes Go.WideShapes Go.ChangeAt Go.Joins
set_option linter.unusedVariables false
def wsD (B:Nat):(t:Ty)→t.den→Bool
 |.bool,_=>true
 |.int k,(n:Int)=>decide (k.min≤n)&&decide (n≤k.max)
 |.str,(s:ByteArray)=>decide (s.size≤B)
 |.sl t,(l:List t.den)=>decide (l.length≤B)&&wfL (wsD B t) l
 |.arr n t,(l:List t.den)=>decide (l.length=n)&&wfL (wsD B t) l
 |.pair a b,d=>wsD B a d.1&&wsD B b d.2
 |.unit,_=>true
theorem a3v {B:Nat}(hB:B≤maxLen): ∀(t:Ty) (d:t.den),wsD B t d=true→wfD t d=true
 |.bool,_,_=>rfl
 |.int _,_,h=>h
 |.str,d,h=>decide_eq_true (Nat.le_trans (of_decide_eq_true h) hB)
 |.sl t,d,h=>by
  have h:(decide (List.length d≤B)&&wfL (wsD B t) d)=true:=h
  show(decide (List.length d≤maxLen)&&wfL (wfD t) d)=true
  rw[Bool.and_eq_true]at h⊢
  exact⟨decide_eq_true (Nat.le_trans (of_decide_eq_true h.1) hB),o2j.2 fun x hx=>a3v hB t x (o2j.1 h.2 x hx)⟩
 |.arr n t,d,h=>by
  have h:(decide (List.length d=n)&&wfL (wsD B t) d)=true:=h
  show(decide (List.length d=n)&&wfL (wfD t) d)=true
  rw[Bool.and_eq_true]at h⊢
  exact⟨h.1,o2j.2 fun x hx=>a3v hB t x (o2j.1 h.2 x hx)⟩
 |.pair a b,d,h=>by
  have h:(wsD B a d.1&&wsD B b d.2)=true:=h
  show(wfD a d.1&&wfD b d.2)=true
  rw[Bool.and_eq_true]at h⊢
  exact⟨a3v hB a _ h.1,a3v hB b _ h.2⟩
 |.unit,_,_=>rfl
theorem w2y {B:Nat}{a b:Ty}{d:(Ty.pair a b).den}(h:wsD B (.pair a b) d=true):wsD B a (fstP d)=true∧wsD B b (sndP d)=true:=by
 have:(wsD B a (fstP d)&&wsD B b (sndP d))=true:=h
 simpa using this
section
variable {H:Type} {enc:TypeId×Value→H} {P:Program} {w:World} {sp:Nat→Bool} {held:Bool} {B:Nat}
end
section
variable {H:Type} {enc:TypeId×Value→H} {P:Program} {w:World} {sp:Nat→Bool} {held:Bool} {r:RM} {B:Nat}
end
end Go.Proofs.Ytfkcodaiiheniaa.Vx
