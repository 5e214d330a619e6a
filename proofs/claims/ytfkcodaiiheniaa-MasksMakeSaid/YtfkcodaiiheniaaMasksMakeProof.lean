import Derived.Test.YtfkcodaiiheniaaZ06p
import Derived.Test.YtfkcodaiiheniaaVxAid
import Derived.Test.YtfkcodaiiheniaaVxSize
import Derived.SizedLaws
import Derived.Carry
import Derived.ChangeOld
import Derived.ShutString
import Derived.Below
import Derived.Lib.SmallJoins
import Derived.KernelRfl
import Derived.Test.YtfkcodaiiheniaaRows
namespace Go.Proofs.Ytfkcodaiiheniaa.masksMake
open Go Go.ChangeShapes Go.WideShapes Go.ChangeAt Go.RowKit Go.Joins Go.Proofs.Ytfkcodaiiheniaa.Vx
set_option linter.unusedVariables false
theorem own:ownKnob Try.prog.godebug=none:=by kernel_rfl
theorem laidOut:laidOutB Try.prog=true:=by kernel_rfl
theorem tys:o2i Try.prog Try.f7.params.toList=some [TLay]:=by kernel_rfl
theorem argsAre (a0:Ty.den (TLay))(u:HL []):j2l Try.prog Try.f7.params.toList [TLay] (a0,u)=instL [laV 0] [.l TS a0.1,.l TPt a0.2.1,.l TPt a0.2.2.1,.l TRt a0.2.2.2]:=by kernel_rfl
set_option maxRecDepth 100000 in
theorem lifted (os:Os)(started:os.Started)(H:Type)(enc:TypeId×Value→H):
  ReturnsInHanded {} Try.checked os 7 .any (Rows.masksMakeSpec.pre6 enc Try.prog Try.f7 Rows.masksMakeRow.domain false) (Rows.masksMakeSpec.post enc Try.prog Try.f7 false true false false):=by
 refine returnsInHanded_of_change_sized (C:=Try.checked) own started (by kernel_rfl) Try.func7
  (ChangeSpec.witness6 (enc:=enc) (C:=Try.checked) false ⟨#[],#[.agg #[.slice none 0 0,.slice none 0 0,.slice none 0 0,.slice none 0 0]],[]⟩ 8 (by kernel_rfl) (by kernel_rfl) (by kernel_rfl) (by kernel_rfl)) ?_
 intro W base args ds gs before hval0 hW hcnd hsz _
 have hW':=hW
 obtain⟨p,q,hA,hV,rfl,hfz,hnd⟩:=hW
 obtain⟨rfl,rfl⟩:=trodVars_none hV
 have hB: ∀q∈DataW.weightsEach Try.prog Try.f7.params.toList ds,q≤reachBytes:=fun q hq=>by
  have hsz':(DataW.weightsEach Try.prog (Try.f7.params.toList++[]) (ds++[])).all (· ≤reachBytes)=true:=hsz
  rw[List.append_nil,List.append_nil]at hsz'
  exact of_decide_eq_true (List.all_eq_true.1 hsz' q hq)
 obtain⟨⟨a0,u⟩,hsw,hrel⟩:=args_relS (r:=R0) (B:=reachBytes) _ _ _ _ _ tys (by kernel_rfl) hA hB (fun j t v a b=>hval0 j t v (by simpa using a) (by simpa using b))
 have hwf:=ws_wfH (by decide) _ _ hsw
 have hrel':LRel R0 (b0k W) (instL [laV 0] [.l TS a0.1,.l TPt a0.2.1,.l TPt a0.2.2.1,.l TRt a0.2.2.2]) args:=by
  have:=hrel
  rw[argsAre]at this
  exact this
 have hlen:ds.length=1:=(c1u hA).trans (by kernel_rfl)
 obtain⟨d0,rfl⟩: ∃d0,ds=[d0]:=by
  match ds,hlen with
  |[d0],_=>exact⟨_,rfl⟩
 refine(W7_law _ (W7_true _ _ _ _ (okS_wf a0 (wfh0 hwf)) (szA_ws a0 (wsh0 hsw))) hrel').mono fun e W' ⟨he,bel⟩=> ?_
 subst he
 exact⟨_,rfl,_,_,_,[],_,[],hW',trodAll_mk1 (shut_bool Try.underlying4 _),t0b laidOut bel _ _ _ _ (by kernel_rfl) hA,rfl,bel.frame _,fun h=>by cases h⟩
theorem over:Rows.masksMakeRow.holds Try.pinned (OpenSpec.ofChange Rows.masksMakeSpec):=
 OpenClaim.holds_of_wide 7 Try.f7 rfl rfl rfl rfl rfl rfl rfl ⟨rfl,rfl,rfl,rfl,rfl⟩ rfl rfl rfl rfl rfl (by kernel_rfl) Try.func7 (by kernel_rfl)
  (of_decide_eq_true (by kernel_rfl)) (by unfold Func.isWrapper;first|(rw[if_pos (by decide+kernel)];kernel_rfl)|(rw[if_neg (by decide+kernel)];exact⟨rfl,rfl⟩))
  (fun os started H enc _=>lifted os started H enc)
theorem proved:Rows.MasksMakeSaid:=over
end Go.Proofs.Ytfkcodaiiheniaa.masksMake
