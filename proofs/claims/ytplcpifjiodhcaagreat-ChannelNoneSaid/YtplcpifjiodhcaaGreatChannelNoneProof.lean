import Derived.Test.YtplcpifjiodhcaaGreatZ21
import Derived.Test.YtplcpifjiodhcaaGreatVxAid
import Derived.Carry
import Derived.ChangeOld
import Derived.ShutString
import Derived.Below
import Derived.Lib.SmallJoins
import Derived.KernelRfl
import Derived.Test.YtplcpifjiodhcaaGreatRows
namespace Go.Proofs.YtplcpifjiodhcaaGreat.channelNone
open Go Go.ChangeShapes Go.WideShapes Go.ChangeAt Go.RowKit Go.Joins Go.Proofs.YtplcpifjiodhcaaGreat.Vx
set_option linter.unusedVariables false
theorem own:ownKnob Tryz.prog.godebug=none:=by kernel_rfl
theorem laidOut:laidOutB Tryz.prog=true:=by kernel_rfl
theorem tys:o2i Tryz.prog Tryz.f5.params.toList=some [.pair (.int .u64) (.pair (.int .u64) (.pair (.int .u64) (.pair (.arr 64 (.int .u8)) (.int .u32)))),.pair (.int .u64) (.pair (.int .u32) (.pair (.int .u32) (.sl (.pair (.int .u8) (.int .i64)))))]:=by kernel_rfl
theorem argsAre (a0:Ty.den (.pair (.int .u64) (.pair (.int .u64) (.pair (.int .u64) (.pair (.arr 64 (.int .u8)) (.int .u32))))))(a1:Ty.den (.pair (.int .u64) (.pair (.int .u32) (.pair (.int .u32) (.sl (.pair (.int .u8) (.int .i64)))))))(u:HL []):j2l Tryz.prog Tryz.f5.params.toList [.pair (.int .u64) (.pair (.int .u64) (.pair (.int .u64) (.pair (.arr 64 (.int .u8)) (.int .u32)))),.pair (.int .u64) (.pair (.int .u32) (.pair (.int .u32) (.sl (.pair (.int .u8) (.int .i64)))))] (a0,a1,u)=instL [stV 0,inV 5] [.n a0.1,.n a0.2.1,.n a0.2.2.1,.l TB a0.2.2.2.1,.n a0.2.2.2.2,.n a1.1,.n a1.2.1,.n a1.2.2.1,.l TCmd a1.2.2.2]:=by kernel_rfl
set_option maxRecDepth 100000 in
theorem lifted (os:Os)(started:os.Started)(H:Type)(enc:TypeId×Value→H):
  ReturnsInHanded {} Tryz.checked os 5 .any (Rows.channelNoneSpec.pre6 enc Tryz.prog Tryz.f5 Rows.channelNoneRow.domain false) (Rows.channelNoneSpec.post enc Tryz.prog Tryz.f5 false true false false):=by
 refine returnsInHanded_of_change (C:=Tryz.checked) own started (by kernel_rfl) Tryz.func5
  (ChangeSpec.witness6 (enc:=enc) (C:=Tryz.checked) false ⟨#[],#[.agg (#[.int .u64 0,.int .u64 0,.int .u64 0]++Array.replicate 64 (.int .u8 0)++ #[.int .u32 0]),.agg #[.int .u64 0,.int .u32 0,.int .u32 0,.slice none 0 0]],[]⟩ 8 (by kernel_rfl) (by kernel_rfl) (by kernel_rfl) (by kernel_rfl)) ?_
 intro W base args ds gs before hval0 hW hcnd _
 have hW':=hW
 obtain⟨p,q,hA,hV,rfl,hfz,hnd⟩:=hW
 obtain⟨rfl,rfl⟩:=trodVars_none hV
 obtain⟨⟨a0,a1,u⟩,hwf,hrel⟩:=x1h (r:=R0) _ _ _ _ _ tys hA (fun j t v a b=>hval0 j t v (by simpa using a) (by simpa using b))
 have hrel':LRel R0 (b0k W) (instL [stV 0,inV 5] [.n a0.1,.n a0.2.1,.n a0.2.2.1,.l TB a0.2.2.2.1,.n a0.2.2.2.2,.n a1.1,.n a1.2.1,.n a1.2.2.1,.l TCmd a1.2.2.2]) args:=by
  have:=hrel
  rw[argsAre]at this
  exact this
 have hlen:ds.length=2:=(c1u hA).trans (by kernel_rfl)
 obtain⟨d0,d1,rfl⟩: ∃d0 d1,ds=[d0,d1]:=by
  match ds,hlen with
  |[d0,d1],_=>exact⟨_,_,rfl⟩
 refine(W5_law _ (n3g rfl) hrel').mono fun e W' ⟨he,bel⟩=> ?_
 subst he
 exact⟨_,rfl,_,_,_,[],_,[],hW',trodAll_mk1 (shut_bool Tryz.underlying4 _),t0b laidOut bel _ _ _ _ (by kernel_rfl) hA,rfl,bel.frame _,fun h=>by cases h⟩
theorem over:Rows.channelNoneRow.holds Tryz.pinned (OpenSpec.ofChange Rows.channelNoneSpec):=
 OpenClaim.holds_of_wide 5 Tryz.f5 rfl rfl rfl rfl rfl rfl rfl ⟨rfl,rfl,rfl,rfl,rfl⟩ rfl rfl rfl rfl rfl (by kernel_rfl) Tryz.func5 (by kernel_rfl)
  (of_decide_eq_true (by kernel_rfl)) (by unfold Func.isWrapper;first|(rw[if_pos (by decide+kernel)];kernel_rfl)|(rw[if_neg (by decide+kernel)];exact⟨rfl,rfl⟩))
  (fun os started H enc _=>lifted os started H enc)
theorem proved:Rows.ChannelNoneSaid:=over
end Go.Proofs.YtplcpifjiodhcaaGreat.channelNone
