import Derived.Test.YtnmgjcpjkdmngaaZ14
import Derived.Test.YtnmgjcpjkdmngaaVxAid
import Derived.Carry
import Derived.ChangeOld
import Derived.ShutString
import Derived.Below
import Derived.Lib.SmallJoins
import Derived.KernelRfl
import Derived.Test.YtnmgjcpjkdmngaaRows
namespace Go.Proofs.Ytnmgjcpjkdmngaa.diskKeeps
open Go Go.ChangeShapes Go.WideShapes Go.ChangeAt Go.RowKit Go.Joins Go.Proofs.Ytnmgjcpjkdmngaa.Vx
set_option linter.unusedVariables false
theorem own:ownKnob Try.prog.godebug=none:=by kernel_rfl
theorem laidOut:laidOutB Try.prog=true:=by kernel_rfl
theorem tys:b1r Try.prog Try.f4.params.toList=some [.sl a0f,.int .i64]:=by kernel_rfl
theorem argsAre (a0:Ty.den (.sl a0f))(a1:Ty.den (.int .i64))(u:HL []):e1w Try.prog Try.f4.params.toList [.sl a0f,.int .i64] (a0,a1,u)=instL [.imm a0f 0,.int .i64 1] [.l a0f a0,.n a1]:=by kernel_rfl
set_option maxRecDepth 100000 in
theorem lifted (os:Os)(started:os.Started)(H:Type)(enc:TypeId×Value→H):
  ReturnsInHanded {} Try.checked os 4 .any (Rows.diskKeepsSpec.pre6 enc Try.prog Try.f4 Rows.diskKeepsRow.domain false) (Rows.diskKeepsSpec.post enc Try.prog Try.f4 false true false false):=by
 refine returnsInHanded_of_change (C:=Try.checked) own started (by kernel_rfl) Try.func4
  (ChangeSpec.witness6 (enc:=enc) (C:=Try.checked) false ⟨#[],#[.slice none 0 0,.int .i64 0],[]⟩ 8 (by kernel_rfl) (by kernel_rfl) (by kernel_rfl) (by kernel_rfl)) ?_
 intro W base args ds gs before hval0 hW hcnd _
 have hW':=hW
 obtain⟨p,q,hA,hV,rfl,hfz,hnd⟩:=hW
 obtain⟨rfl,rfl⟩:=trodVars_none hV
 obtain⟨⟨a0,a1,u⟩,hwf,hrel⟩:=x0i (r:=R0) _ _ _ _ _ tys hA (fun j t v a b=>hval0 j t v (by simpa using a) (by simpa using b))
 have hrel':LRel R0 (a0r W) (instL [.imm a0f 0,.int .i64 1] [.l a0f a0,.n a1]) args:=by
  have:=hrel
  rw[argsAre]at this
  exact this
 have hlen:ds.length=2:=(l0z hA).trans (by kernel_rfl)
 obtain⟨d0,d1,rfl⟩: ∃d0 d1,ds=[d0,d1]:=by
  match ds,hlen with
  |[d0,d1],_=>exact⟨_,_,rfl⟩
 refine(W4_law _ (W4_all a0 a1 (wfh0 hwf) (wfh0 (wfhs hwf))) hrel').mono fun e W' ⟨he,bel⟩=> ?_
 subst he
 exact⟨_,rfl,_,_,_,[],_,[],hW',trodAll_mk1 (shut_bool Try.underlying4 _),i0s laidOut bel _ _ _ _ (by kernel_rfl) hA,rfl,bel.frame _,fun h=>by cases h⟩
theorem over:Rows.diskKeepsRow.holds Try.pinned (OpenSpec.ofChange Rows.diskKeepsSpec):=
 OpenClaim.holds_of_wide 4 Try.f4 rfl rfl rfl rfl rfl rfl rfl ⟨rfl,rfl,rfl,rfl,rfl⟩ rfl rfl rfl rfl rfl (by kernel_rfl) Try.func4 (by kernel_rfl)
  (of_decide_eq_true (by kernel_rfl)) (by unfold Func.isWrapper;first|(rw[if_pos (by decide+kernel)];kernel_rfl)|(rw[if_neg (by decide+kernel)];exact⟨rfl,rfl⟩))
  (fun os started H enc _=>lifted os started H enc)
theorem proved:Rows.DiskKeepsSaid:=over
end Go.Proofs.Ytnmgjcpjkdmngaa.diskKeeps
