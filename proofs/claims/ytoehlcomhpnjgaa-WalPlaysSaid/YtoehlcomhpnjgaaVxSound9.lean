import Derived.Test.YtoehlcomhpnjgaaVxSound8
import Derived.Laws.BytesArg
import Derived.Laws.IdiomStrings
namespace Go.Proofs.Ytoehlcomhpnjgaa.Vx
open Go Go.RowKit
set_option linter.unusedVariables false
section
variable {P:Program} {r:RM} {σ:Snap} {s:SW} {w:World}
theorem c1d {op:BinOp}{k k':IntKind}{a b:Int}{v:SV}(h:(a1j op k a b).sel=some v)(hk:op=.shl∨op=.shr∨k=k')(t:TypeId)(w:World):
    ∃v',VRel r σ v v'∧(binOp op t (.int k a) (.int k' b)).run P w=.ok v' w:=by
  cases op with
  |shl=>
   obtain⟨h1,h2⟩:=Tree.guard_some h
   cases h2
   have hb: ¬b<0:=by simpa using h1
   exact⟨_,.int _ _,by simp[binOp,Op.shift,hb,ishl]⟩
  |shr=>
   obtain⟨h1,h2⟩:=Tree.guard_some h
   cases h2
   have hb: ¬b<0:=by simpa using h1
   exact⟨_,.int _ _,by simp[binOp,Op.shift,hb,ishr]⟩
  |quo=>
   obtain rfl:k=k':=by simpa using hk
   obtain⟨h1,h2⟩:=Tree.guard_some h
   cases h2
   have hb: ¬b=0:=by simpa using h1
   exact⟨_,.int _ _,by simp[binOp,Op.intDiv,hb]⟩
  |rem=>
   obtain rfl:k=k':=by simpa using hk
   obtain⟨h1,h2⟩:=Tree.guard_some h
   cases h2
   have hb: ¬b=0:=by simpa using h1
   exact⟨_,.int _ _,by simp[binOp,Op.intDiv,hb]⟩
  |add=>obtain rfl:k=k':=by simpa using hk
        cases h;exact⟨_,.int _ _,by simp[binOp,Op.intArith]⟩
  |sub=>obtain rfl:k=k':=by simpa using hk
        cases h;exact⟨_,.int _ _,by simp[binOp,Op.intArith]⟩
  |mul=>obtain rfl:k=k':=by simpa using hk
        cases h;exact⟨_,.int _ _,by simp[binOp,Op.intArith]⟩
  |and=>obtain rfl:k=k':=by simpa using hk
        cases h;exact⟨_,.int _ _,by simp[binOp,Op.intBits,iand]⟩
  |or=>obtain rfl:k=k':=by simpa using hk
       cases h;exact⟨_,.int _ _,by simp[binOp,Op.intBits,ior]⟩
  |xor=>obtain rfl:k=k':=by simpa using hk
        cases h;exact⟨_,.int _ _,by simp[binOp,Op.intBits,ixor]⟩
  |andNot=>obtain rfl:k=k':=by simpa using hk
           cases h;exact⟨_,.int _ _,by simp[binOp,Op.intBits,b0l]⟩
  |eql=>obtain rfl:k=k':=by simpa using hk
        cases h;exact⟨_,.bool _,by simp[binOp,Op.intCmp]⟩
  |neq=>obtain rfl:k=k':=by simpa using hk
        cases h;exact⟨_,.bool _,by simp[binOp,Op.intCmp]⟩
  |lss=>obtain rfl:k=k':=by simpa using hk
        cases h;exact⟨_,.bool _,by simp[binOp,Op.intCmp]⟩
  |leq=>obtain rfl:k=k':=by simpa using hk
        cases h;exact⟨_,.bool _,by simp[binOp,Op.intCmp]⟩
  |gtr=>obtain rfl:k=k':=by simpa using hk
        cases h;exact⟨_,.bool _,by simp[binOp,Op.intCmp]⟩
  |geq=>obtain rfl:k=k':=by simpa using hk
        cases h;exact⟨_,.bool _,by simp[binOp,Op.intCmp]⟩
theorem g0x (a b:ByteArray):Op.bytesLess a.toList b.toList=m2a a b:=by
 rw[ByteArray.toList_eq,ByteArray.toList_eq];rfl
theorem h2w {op:BinOp}{a b:ByteArray}{v:SV}(h:(j2w op a b).sel=some v)(t:TypeId)(w:World):
  ∃v',VRel r σ v v'∧(binOp op t (.string a) (.string b)).run P w=.ok v' w:=by
 have e: ∀op,op≠.shl→op≠.shr→binOp op t (.string a) (.string b)=Op.stringOp op a b:=by
  intro op h1 h2;cases op<;>first|rfl|exact absurd rfl h1|exact absurd rfl h2
 cases op with
 |add=>
  obtain⟨h1,h2⟩:=Tree.guard_some h
  cases h2
  have h1:=of_decide_eq_true h1
  refine⟨_,.str _,?_⟩
  rw[e _ (by simp) (by simp)]
  have hm:IntKind.i64.max=9223372036854775807:=by decide
  unfold Op.stringOp
  simp only
  rw[if_neg (by rw[hm];omega)]
  rfl
 |eql=>cases h;exact⟨_,.bool _,by rw[e _ (by simp) (by simp)];simp[Op.stringOp,d0r]⟩
 |neq=>cases h;exact⟨_,.bool _,by rw[e _ (by simp) (by simp)];simp[Op.stringOp,d0r]⟩
 |lss=>cases h;exact⟨_,.bool _,by rw[e _ (by simp) (by simp)];simp[Op.stringOp,g0x]⟩
 |leq=>cases h;exact⟨_,.bool _,by rw[e _ (by simp) (by simp)];simp[Op.stringOp,g0x,d0r]⟩
 |gtr=>cases h;exact⟨_,.bool _,by rw[e _ (by simp) (by simp)];simp[Op.stringOp,g0x,d0r]⟩
 |geq=>cases h;exact⟨_,.bool _,by rw[e _ (by simp) (by simp)];simp[Op.stringOp,g0x]⟩
 |_=>cases h
def Value.other:Value→Bool
 |.int _ _=>false
 |.float _ _=>false
 |.complex _ _ _=>false
 |.string _=>false
 |_=>true
theorem t0t {t:TypeId}{x y:Value}(hx:Value.other x=true){b:Bool}(h:(Op.equalIn Op.maxDepth t x y).run P w=.ok b w):(binOp .eql t x y).run P w=.ok (.bool b) w:=by
 have:binOp .eql t x y=(do pure (.bool (←Op.equal t x y)):Sem Value):=by cases x<;>first|rfl|(simp[Value.other]at hx)
 rw[this]
 simp[Op.equal,h]
theorem r0o {t:TypeId}{x y:Value}(hx:Value.other x=true){b:Bool}(h:(Op.equalIn Op.maxDepth t x y).run P w=.ok b w):(binOp .neq t x y).run P w=.ok (.bool (!b)) w:=by
 have:binOp .neq t x y=(do pure (.bool (!(←Op.equal t x y))):Sem Value):=by cases x<;>first|rfl|(simp[Value.other]at hx)
 rw[this]
 simp[Op.equal,h]
theorem m0o {op:BinOp}{t:TypeId}{xo yo:Operand}{x y:Value}(h1: ∀xs ys,x=.agg xs→y=.agg ys→P.eqGuardType P.depth t=false)(h2:x=.nilIface→y=.nilIface→f0n xo=true∨f0n yo=true):
  (eqGuard op t xo yo x y).run P w=.ok () w:=by
 cases x with
 |agg xs=>
  cases y with
  |agg ys=>exact run_eqGuard_agg w op t xo yo xs ys (h1 xs ys rfl rfl)
  |_=>cases op<;>rfl
 |nilIface=>
  cases y with
  |nilIface=>
   have:=h2 rfl rfl
   cases xo<;>cases yo<;>simp[f0n]at this<;>cases op<;>rfl
  |_=>cases op<;>rfl
 |_=>cases op<;>rfl
theorem u2l {x:SV}{x':Value}(h:VRel r σ x x')(h1: ∀k n,x≠.int k n)(h2: ∀t,x≠.str t)(h3:x≠.dead):Value.other x'=true:=by
 cases h with
 |imm t l v h=>
  rw[x0x]at h
  obtain⟨a,len,cap,e,_⟩:=h
  cases e;rfl
 |int k n=>exact absurd rfl (h1 k n)
 |str t=>exact absurd rfl (h2 t)
 |dead=>exact absurd rfl h3
 |_=>rfl
theorem j1t {d:Nat}{t:TypeId}{y:SV}:eqT P d t .dead y=none:=by
 cases d with
 |zero=>rfl
 |succ d=>simp only[eqT];split<;>first|rfl|(split<;>simp_all)
theorem s2i {x:SV}{xs:Array Value}(h:VRel r σ x (.agg xs)):x=.dead∨(∃es,x=.agg es)∨ ∃t l,x=.imm t l:=by
 cases h with
 |dead=>exact .inl rfl
 |agg es=>exact .inr (.inl ⟨es,rfl⟩)
 |imm t l=>exact .inr (.inr ⟨t,l,rfl⟩)
theorem eqT_int {d:Nat}{t:TypeId}{k:IntKind}{n:Int}{y:SV}(h:eqT P d t (.int k n) y≠none): ∃k' m,y=.int k' m:=by
 cases d with
 |zero=>simp[eqT]at h
 |succ d=>
  simp only[eqT]at h
  split at h<;>first|exact absurd rfl h|skip
  all_goals (cases y<;>first|exact⟨_,_,rfl⟩|exact absurd rfl h|simp at h)
theorem eqT_str {d:Nat}{t:TypeId}{x:ByteArray}{y:SV}(h:eqT P d t (.str x) y≠none): ∃z,y=.str z:=by
 cases d with
 |zero=>simp[eqT]at h
 |succ d=>
  simp only[eqT]at h
  split at h<;>first|exact absurd rfl h|skip
  all_goals (cases y<;>first|exact⟨_,rfl⟩|exact absurd rfl h|simp at h)
theorem eqT_agg {d:Nat}{t:TypeId}{x y:SV}{b:Bool}(h:eqT P d t x y=some b):((∃es,x=.agg es)→ ∃es,y=.agg es)∧(x=.nilif→y≠.nilif)∧(∀t l,x≠.imm t l)∧(∀t l,y≠.imm t l)∧y≠.dead:=by
 cases d with
 |zero=>simp[eqT]at h
 |succ d=>
  simp only[eqT]at h
  split at h<;>first|(cases h;done)|skip
  all_goals (split at h<;>first|(cases h;done)|skip)
  all_goals (refine⟨fun⟨es,e⟩=> ?_,fun e=> ?_,fun t l e=> ?_,fun t l e=> ?_,fun e=> ?_⟩<;>first|(cases e;done)|exact⟨_,rfl⟩|(intro e2;cases e2;done)|skip)
theorem nilnil {t:TypeId}{ms:Array (String×TypeId)}(hu:P.underlying t=some (.interface ms))(D:Nat):(Op.equalIn (D+1) t .nilIface .nilIface).run P w=.ok true w:=by
 simp[Op.equalIn,run_underlying hu]
theorem s2n (hr:Rel r σ s w){x y:SV}{x' y':Value}(hx:VRel r σ x x')(hy:VRel r σ y y'){op:BinOp}{t:TypeId}{xo yo:Operand}{v:SV}(h:(evBin P op t xo yo x y).sel=some v):
  ∃v',VRel r σ v v'∧(do eqGuard op t xo yo x' y';binOp op t x' y':Sem Value).run P w=.ok v' w:=by
 unfold evBin at h
 split at h
 ·rename_i k a k' b
  cases hx;cases hy
  have hg:(eqGuard op t xo yo (.int k a) (.int k' b)).run P w=.ok () w:=by cases op<;>rfl
  simp only[Sem.run_bind,hg,Result.andThen_ok]
  split at h
  ·exact c1d h (.inl rfl) t w
  ·exact c1d h (.inr (.inl rfl)) t w
  ·split at h
   ·rename_i hk
    exact c1d h (.inr (.inr (of_decide_eq_true hk))) t w
   ·cases h
 ·cases hx;cases hy
  rename_i a b
  have hg:(eqGuard op t xo yo (.string a) (.string b)).run P w=.ok () w:=by cases op<;>rfl
  simp only[Sem.run_bind,hg,Result.andThen_ok]
  exact h2w h t w
 ·rename_i hni hns
  split at h
  ·rename_i hal
   have nilc:x=.nilif→y=.nilif→f0n xo=true∨f0n yo=true:=by
    rintro rfl rfl
    simpa [eqAllowed]using hal
   have aggc: ∀es es',x=.agg es→y=.agg es'→P.eqGuardType P.depth t=false:=by
    rintro es es' rfl rfl
    simpa [eqAllowed]using hal
   have core: ∀b,eqT P 60 t x y=some b→(eqGuard op t xo yo x' y').run P w=.ok () w∧Value.other x'=true∧(Op.equalIn Op.maxDepth t x' y').run P w=.ok b w:=by
    intro b hb
    have hrun:=m2j (w:=w) (show 60≤Op.maxDepth by unfold Op.maxDepth;omega) hb hx hy
    obtain⟨g1,g2,g3,g4,g5⟩:=eqT_agg hb
    refine⟨m0o (fun xs ys e1 e2=> ?_) (fun e1 e2=> ?_),u2l hx (fun k n e=> ?_) (fun z e=> ?_) (fun e=> ?_),hrun⟩
    ·subst e1;subst e2
     rcases s2i hx with rfl|⟨es,rfl⟩|⟨t',l,rfl⟩
     ·rw[j1t]at hb;cases hb
     ·obtain⟨es',rfl⟩:=g1 ⟨es,rfl⟩
      exact aggc es es' rfl rfl
     ·exact absurd rfl (g3 t' l)
    ·subst e1;subst e2
     have hxn:x=.nilif:=by
      cases hx with
      |dead=>rw[j1t]at hb;cases hb
      |nilif=>rfl
      |imm t' l _ _=>exact absurd rfl (g3 t' l)
     have hyn:y=.nilif:=by
      cases hy with
      |dead=>exact absurd rfl g5
      |nilif=>rfl
      |imm t' l _ _=>exact absurd rfl (g4 t' l)
     exact nilc hxn hyn
    ·subst e
     obtain⟨k',m,rfl⟩:=eqT_int (P:=P) (d:=60) (t:=t) (k:=k) (n:=n) (y:=y) (by rw[hb];simp)
     exact hni k n k' m rfl rfl
    ·subst e
     obtain⟨z',rfl⟩:=eqT_str (P:=P) (d:=60) (t:=t) (x:=z) (y:=y) (by rw[hb];simp)
     exact hns z z' rfl rfl
    ·subst e;rw[j1t]at hb;cases hb
   have nilrun:x=.nilif→y=.nilif→ ∀ms,P.underlying t=some (.interface ms)→(eqGuard op t xo yo x' y').run P w=.ok () w∧Value.other x'=true∧(Op.equalIn Op.maxDepth t x' y').run P w=.ok true w:=by
    rintro rfl rfl ms hu
    cases hx;cases hy
    exact⟨m0o (fun xs ys e=>by cases e) (fun _ _=>nilc rfl rfl),rfl,nilnil hu 9999⟩
   split at h
   ·split at h
    ·split at h
     ·rename_i ms hu
      cases h
      obtain⟨q1,q2,q3⟩:=nilrun rfl rfl ms hu
      exact⟨_,.bool true,by simp only[Sem.run_bind,q1,Result.andThen_ok];exact t0t q2 q3⟩
     ·cases h
    ·split at h
     ·rename_i b hb
      cases h
      obtain⟨q1,q2,q3⟩:=core b hb
      exact⟨_,.bool b,by simp only[Sem.run_bind,q1,Result.andThen_ok];exact t0t q2 q3⟩
     ·cases h
   ·split at h
    ·split at h
     ·rename_i ms hu
      cases h
      obtain⟨q1,q2,q3⟩:=nilrun rfl rfl ms hu
      exact⟨_,.bool false,by simp only[Sem.run_bind,q1,Result.andThen_ok];exact r0o q2 q3⟩
     ·cases h
    ·split at h
     ·rename_i b hb
      cases h
      obtain⟨q1,q2,q3⟩:=core b hb
      exact⟨_,.bool (!b),by simp only[Sem.run_bind,q1,Result.andThen_ok];exact r0o q2 q3⟩
     ·cases h
   ·cases h
  ·cases h
end
end Go.Proofs.Ytoehlcomhpnjgaa.Vx
