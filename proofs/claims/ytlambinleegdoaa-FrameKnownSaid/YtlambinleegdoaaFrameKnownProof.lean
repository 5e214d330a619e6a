import Derived.Test.YtlambinleegdoaaZ13g
import Derived.Test.YtlambinleegdoaaVxAid
import Derived.Carry
import Derived.ChangeOld
import Derived.ShutString
import Derived.Below
import Derived.Lib.SmallJoins
import Derived.KernelRfl
import Derived.Test.YtlambinleegdoaaRows
namespace Go.Proofs.Ytlambinleegdoaa.frameKnown
open Go Go.ChangeShapes Go.WideShapes Go.ChangeAt Go.RowKit Go.Joins Go.Proofs.Ytlambinleegdoaa.Vx
set_option linter.unusedVariables false
theorem own:ownKnob Try.prog.godebug=none:=by kernel_rfl
theorem laidOut:laidOutB Try.prog=true:=by kernel_rfl
theorem tys:o2i Try.prog Try.f6.params.toList=some []:=by kernel_rfl
theorem argsAre (u:HL []):j2l Try.prog Try.f6.params.toList [] u=instL [] []:=by kernel_rfl
set_option maxRecDepth 100000 in
theorem lifted (os:Os)(started:os.Started)(H:Type)(enc:TypeId×Value→H):
  ReturnsInHanded {} Try.checked os 6 .any (Rows.frameKnownSpec.pre6 enc Try.prog Try.f6 Rows.frameKnownRow.domain false) (Rows.frameKnownSpec.post enc Try.prog Try.f6 false true false false):=by
 refine returnsInHanded_of_change (C:=Try.checked) own started (by kernel_rfl) Try.func6
  (ChangeSpec.witness6 (enc:=enc) (C:=Try.checked) false ⟨#[],#[],[]⟩ 8 (by kernel_rfl) (by kernel_rfl) (by kernel_rfl) (by kernel_rfl)) ?_
 intro W base args ds gs before hval0 hW hcnd _
 have hW':=hW
 obtain⟨p,q,hA,hV,rfl,hfz,hnd⟩:=hW
 obtain⟨rfl,rfl⟩:=trodVars_none hV
 obtain⟨u,hwf,hrel⟩:=x1h (r:=R0) _ _ _ _ _ tys hA (fun j t v a b=>hval0 j t v (by simp at a) (by simp at a))
 have hrel':LRel R0 (b0k W) (instL [] []) args:=by
  have:=hrel
  rw[argsAre]at this
  exact this
 have hlen:ds.length=0:=(c1u hA).trans (by kernel_rfl)
 obtain rfl:ds=[]:=List.eq_nil_of_length_eq_zero hlen
 refine(WK_law _ trivial hrel').mono fun e W' ⟨he,bel⟩=> ?_
 subst he
 exact⟨_,rfl,_,_,_,[],_,[],hW',trodAll_mk1 (shut_bool Try.underlying4 _),t0b laidOut bel _ _ _ _ (by kernel_rfl) hA,rfl,bel.frame _,fun h=>by cases h⟩
theorem over:Rows.frameKnownRow.holds Try.pinned (OpenSpec.ofChange Rows.frameKnownSpec):=
 OpenClaim.holds_of_wide 6 Try.f6 rfl rfl rfl rfl rfl rfl rfl ⟨rfl,rfl,rfl,rfl,rfl⟩ rfl rfl rfl rfl rfl (by kernel_rfl) Try.func6 (by kernel_rfl)
  (of_decide_eq_true (by kernel_rfl)) (by unfold Func.isWrapper;first|(rw[if_pos (by decide+kernel)];kernel_rfl)|(rw[if_neg (by decide+kernel)];exact⟨rfl,rfl⟩))
  (fun os started H enc _=>lifted os started H enc)
theorem proved:Rows.FrameKnownSaid:=over
end Go.Proofs.Ytlambinleegdoaa.frameKnown
