import Derived.Test.YtcoamiaifbjofaaY20v
import Derived.Test.YtcoamiaifbjofaaVxAid
import Derived.Carry
import Derived.ChangeOld
import Derived.ShutString
import Derived.Below
import Derived.Lib.SmallJoins
import Derived.KernelRfl
import Derived.Test.YtcoamiaifbjofaaRows
namespace Go.Proofs.Ytcoamiaifbjofaa.agreeSame
open Go Go.ChangeShapes Go.WideShapes Go.ChangeAt Go.RowKit Go.Joins Go.Proofs.Ytcoamiaifbjofaa.Vx
set_option linter.unusedVariables false
theorem own:ownKnob Try.prog.godebug=none:=by kernel_rfl
theorem laidOut:laidOutB Try.prog=true:=by kernel_rfl
theorem tys:o2i Try.prog Try.f4.params.toList=some [(.sl TWay)]:=by kernel_rfl
theorem argsAre (a0:Ty.den ((.sl TWay)))(u:HL []):j2l Try.prog Try.f4.params.toList [(.sl TWay)] (a0,u)=instL [.imm TWay 0] [.l TWay a0]:=by kernel_rfl
set_option maxRecDepth 100000 in
theorem lifted (os:Os)(started:os.Started)(H:Type)(enc:TypeId×Value→H):
  ReturnsInHanded {} Try.checked os 4 .any (Rows.agreeSameSpec.pre6 enc Try.prog Try.f4 Rows.agreeSameRow.domain false) (Rows.agreeSameSpec.post enc Try.prog Try.f4 false true false false):=by
 refine returnsInHanded_of_change (C:=Try.checked) own started (by kernel_rfl) Try.func4
  (ChangeSpec.witness6 (enc:=enc) (C:=Try.checked) false ⟨#[],#[.slice none 0 0],[]⟩ 8 (by kernel_rfl) (by kernel_rfl) (by kernel_rfl) (by kernel_rfl)) ?_
 intro W base args ds gs before hval0 hW hcnd _
 have hW':=hW
 obtain⟨p,q,hA,hV,rfl,hfz,hnd⟩:=hW
 obtain⟨rfl,rfl⟩:=trodVars_none hV
 obtain⟨⟨a0,u⟩,hwf,hrel⟩:=x1h (r:=R0) _ _ _ _ _ tys hA (fun j t v a b=>hval0 j t v (by simpa using a) (by simpa using b))
 have hrel':LRel R0 (b0k W) (instL [.imm TWay 0] [.l TWay a0]) args:=by
  have:=hrel
  rw[argsAre]at this
  exact this
 have hlen:ds.length=1:=(c1u hA).trans (by kernel_rfl)
 obtain⟨d0,rfl⟩: ∃d0,ds=[d0]:=by
  match ds,hlen with
  |[d0],_=>exact⟨_,rfl⟩
 refine(W4_law _ (W4_all _) hrel').mono fun e W' ⟨he,bel⟩=> ?_
 subst he
 exact⟨_,rfl,_,_,_,[],_,[],hW',trodAll_mk1 (shut_bool Try.underlying4 _),t0b laidOut bel _ _ _ _ (by kernel_rfl) hA,rfl,bel.frame _,fun h=>by cases h⟩
theorem over:Rows.agreeSameRow.holds Try.pinned (OpenSpec.ofChange Rows.agreeSameSpec):=
 OpenClaim.holds_of_wide 4 Try.f4 rfl rfl rfl rfl rfl rfl rfl ⟨rfl,rfl,rfl,rfl,rfl⟩ rfl rfl rfl rfl rfl (by kernel_rfl) Try.func4 (by kernel_rfl)
  (of_decide_eq_true (by kernel_rfl)) (by unfold Func.isWrapper;first|(rw[if_pos (by decide+kernel)];kernel_rfl)|(rw[if_neg (by decide+kernel)];exact⟨rfl,rfl⟩))
  (fun os started H enc _=>lifted os started H enc)
theorem proved:Rows.AgreeSameSaid:=over
end Go.Proofs.Ytcoamiaifbjofaa.agreeSame
