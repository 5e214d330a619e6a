import Derived.Test.YtcbhgaeiokfcdaaZ06s
import Derived.Test.YtcbhgaeiokfcdaaVxAid
import Derived.Carry
import Derived.ChangeOld
import Derived.ShutString
import Derived.Below
import Derived.Lib.SmallJoins
import Derived.KernelRfl
import Derived.Test.YtcbhgaeiokfcdaaRows
namespace Go.Proofs.Ytcbhgaeiokfcdaa.ilxbTidy
open Go Go.ChangeShapes Go.WideShapes Go.ChangeAt Go.RowKit Go.Joins Go.Proofs.Ytcbhgaeiokfcdaa.Vx
set_option linter.unusedVariables false
theorem own:ownKnob Try.prog.godebug=none:=by kernel_rfl
theorem laidOut:laidOutB Try.prog=true:=by kernel_rfl
theorem tys:w2l Try.prog Try.f3.params.toList=some [TLay,.pair (.int .u64) (.pair (.int .u64) (.pair (.int .u64) (.pair (.arr 64 (.int .u8)) (.int .u32))))]:=by kernel_rfl
theorem argsAre (a0:Ty.den (TLay))(a1:Ty.den (.pair (.int .u64) (.pair (.int .u64) (.pair (.int .u64) (.pair (.arr 64 (.int .u8)) (.int .u32))))))(u:HL []):s2q Try.prog Try.f3.params.toList [TLay,.pair (.int .u64) (.pair (.int .u64) (.pair (.int .u64) (.pair (.arr 64 (.int .u8)) (.int .u32))))] (a0,a1,u)=instL [laV 0,stV 4] [.l TS a0.1,.l TPt a0.2.1,.l TPt a0.2.2.1,.l TRt a0.2.2.2,.n a1.1,.n a1.2.1,.n a1.2.2.1,.l TB a1.2.2.2.1,.n a1.2.2.2.2]:=by kernel_rfl
set_option maxRecDepth 100000 in
theorem lifted (os:Os)(started:os.Started)(H:Type)(enc:TypeId×Value→H):
  ReturnsInHanded {} Try.checked os 3 .any (Rows.ilxbTidySpec.pre6 enc Try.prog Try.f3 Rows.ilxbTidyRow.domain false) (Rows.ilxbTidySpec.post enc Try.prog Try.f3 false true false false):=by
 refine returnsInHanded_of_change (C:=Try.checked) own started (by kernel_rfl) Try.func3
  (ChangeSpec.witness6 (enc:=enc) (C:=Try.checked) false ⟨#[],#[.agg #[.slice none 0 0,.slice none 0 0,.slice none 0 0,.slice none 0 0],.agg (#[.int .u64 0,.int .u64 0,.int .u64 0]++Array.replicate 64 (.int .u8 0)++ #[.int .u32 0])],[]⟩ 8 (by kernel_rfl) (by kernel_rfl) (by kernel_rfl) (by kernel_rfl)) ?_
 intro W base args ds gs before hval0 hW hcnd _
 have hW':=hW
 obtain⟨p,q,hA,hV,rfl,hfz,hnd⟩:=hW
 obtain⟨rfl,rfl⟩:=trodVars_none hV
 obtain⟨⟨a0,a1,u⟩,hwf,hrel⟩:=b2i (r:=R0) _ _ _ _ _ tys hA (fun j t v a b=>hval0 j t v (by simpa using a) (by simpa using b))
 have hrel':LRel R0 (b0n W) (instL [laV 0,stV 4] [.l TS a0.1,.l TPt a0.2.1,.l TPt a0.2.2.1,.l TRt a0.2.2.2,.n a1.1,.n a1.2.1,.n a1.2.2.1,.l TB a1.2.2.2.1,.n a1.2.2.2.2]) args:=by
  have:=hrel
  rw[argsAre]at this
  exact this
 have hlen:ds.length=2:=(c1h hA).trans (by kernel_rfl)
 obtain⟨d0,d1,rfl⟩: ∃d0 d1,ds=[d0,d1]:=by
  match ds,hlen with
  |[d0,d1],_=>exact⟨_,_,rfl⟩
 refine(W3_law _ (W3_all _ _ _ _ _ _ _ _ _ (okS_wf a0 (wfh0 hwf)) (f0t (wfh0 (wfhs hwf))).1 (f0t (f0t (wfh0 (wfhs hwf))).2).1 (f0t (f0t (f0t (wfh0 (wfhs hwf))).2).2).1 (f0t (f0t (f0t (f0t (wfh0 (wfhs hwf))).2).2).2).2) hrel').mono fun e W' ⟨he,bel⟩=> ?_
 subst he
 exact⟨_,rfl,_,_,_,[],_,[],hW',trodAll_mk1 (shut_bool Try.underlying4 _),t0b laidOut bel _ _ _ _ (by kernel_rfl) hA,rfl,bel.frame _,fun h=>by cases h⟩
theorem over:Rows.ilxbTidyRow.holds Try.pinned (OpenSpec.ofChange Rows.ilxbTidySpec):=
 OpenClaim.holds_of_wide 3 Try.f3 rfl rfl rfl rfl rfl rfl rfl ⟨rfl,rfl,rfl,rfl,rfl⟩ rfl rfl rfl rfl rfl (by kernel_rfl) Try.func3 (by kernel_rfl)
  (of_decide_eq_true (by kernel_rfl)) (by unfold Func.isWrapper;first|(rw[if_pos (by decide+kernel)];kernel_rfl)|(rw[if_neg (by decide+kernel)];exact⟨rfl,rfl⟩))
  (fun os started H enc _=>lifted os started H enc)
theorem proved:Rows.IlxbTidySaid:=over
end Go.Proofs.Ytcbhgaeiokfcdaa.ilxbTidy
