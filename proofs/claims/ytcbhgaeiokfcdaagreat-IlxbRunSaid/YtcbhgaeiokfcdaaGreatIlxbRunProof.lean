import Derived.Test.YtcbhgaeiokfcdaaGreatZ06s
import Derived.Test.YtcbhgaeiokfcdaaGreatVxAid
import Derived.Carry
import Derived.ChangeOld
import Derived.ShutString
import Derived.Below
import Derived.Lib.SmallJoins
import Derived.KernelRfl
import Derived.Test.YtcbhgaeiokfcdaaGreatRows
namespace Go.Proofs.YtcbhgaeiokfcdaaGreat.ilxbRun
open Go Go.ChangeShapes Go.WideShapes Go.ChangeAt Go.RowKit Go.Joins Go.Proofs.YtcbhgaeiokfcdaaGreat.Vx
set_option linter.unusedVariables false
theorem own:ownKnob Tryz.prog.godebug=none:=by kernel_rfl
theorem laidOut:laidOutB Tryz.prog=true:=by kernel_rfl
theorem tys:o2i Tryz.prog Tryz.f4.params.toList=some [TLay,.sl TInp]:=by kernel_rfl
theorem argsAre (a0:Ty.den (TLay))(a1:Ty.den (.sl TInp))(u:HL []):j2l Tryz.prog Tryz.f4.params.toList [TLay,.sl TInp] (a0,a1,u)=instL [laV 0,.imm TInp 4] [.l TS a0.1,.l TPt a0.2.1,.l TPt a0.2.2.1,.l TRt a0.2.2.2,.l TInp a1]:=by kernel_rfl
set_option maxRecDepth 100000 in
theorem lifted (os:Os)(started:os.Started)(H:Type)(enc:TypeId×Value→H):
  ReturnsInHanded {} Tryz.checked os 4 .any (Rows.ilxbRunSpec.pre6 enc Tryz.prog Tryz.f4 Rows.ilxbRunRow.domain false) (Rows.ilxbRunSpec.post enc Tryz.prog Tryz.f4 false true false false):=by
 refine returnsInHanded_of_change (C:=Tryz.checked) own started (by kernel_rfl) Tryz.func4
  (ChangeSpec.witness6 (enc:=enc) (C:=Tryz.checked) false ⟨#[],#[.agg #[.slice none 0 0,.slice none 0 0,.slice none 0 0,.slice none 0 0],.slice none 0 0],[]⟩ 8 (by kernel_rfl) (by kernel_rfl) (by kernel_rfl) (by kernel_rfl)) ?_
 intro W base args ds gs before hval0 hW hcnd _
 have hW':=hW
 obtain⟨p,q,hA,hV,rfl,hfz,hnd⟩:=hW
 obtain⟨rfl,rfl⟩:=trodVars_none hV
 obtain⟨⟨a0,a1,u⟩,hwf,hrel⟩:=x1h (r:=R0) _ _ _ _ _ tys hA (fun j t v a b=>hval0 j t v (by simpa using a) (by simpa using b))
 have hrel':LRel R0 (b0k W) (instL [laV 0,.imm TInp 4] [.l TS a0.1,.l TPt a0.2.1,.l TPt a0.2.2.1,.l TRt a0.2.2.2,.l TInp a1]) args:=by
  have:=hrel
  rw[argsAre]at this
  exact this
 have hlen:ds.length=2:=(c1u hA).trans (by kernel_rfl)
 obtain⟨d0,d1,rfl⟩: ∃d0 d1,ds=[d0,d1]:=by
  match ds,hlen with
  |[d0,d1],_=>exact⟨_,_,rfl⟩
 refine(W4_law _ (W4_true _ _ _ _ a1 (okS_wf a0 (wfh0 hwf)) (fun x hx=>okI7_wf (y1u (wfh0 (wfhs hwf)) x hx))) hrel').mono fun e W' ⟨he,bel⟩=> ?_
 subst he
 exact⟨_,rfl,_,_,_,[],_,[],hW',trodAll_mk1 (shut_bool Tryz.underlying4 _),t0b laidOut bel _ _ _ _ (by kernel_rfl) hA,rfl,bel.frame _,fun h=>by cases h⟩
theorem over:Rows.ilxbRunRow.holds Tryz.pinned (OpenSpec.ofChange Rows.ilxbRunSpec):=
 OpenClaim.holds_of_wide 4 Tryz.f4 rfl rfl rfl rfl rfl rfl rfl ⟨rfl,rfl,rfl,rfl,rfl⟩ rfl rfl rfl rfl rfl (by kernel_rfl) Tryz.func4 (by kernel_rfl)
  (of_decide_eq_true (by kernel_rfl)) (by unfold Func.isWrapper;first|(rw[if_pos (by decide+kernel)];kernel_rfl)|(rw[if_neg (by decide+kernel)];exact⟨rfl,rfl⟩))
  (fun os started H enc _=>lifted os started H enc)
theorem proved:Rows.IlxbRunSaid:=over
end Go.Proofs.YtcbhgaeiokfcdaaGreat.ilxbRun
