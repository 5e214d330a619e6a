import Derived.Test.YtoehlcomhpnjgaaVxSound7
import Derived.WalkSpells
import Derived.ChangeKeysEq
import Derived.Laws.StructEq
namespace Go.Proofs.Ytoehlcomhpnjgaa.Vx
open Go Go.RowKit
set_option linter.unusedVariables false
section
variable {P:Program} {r:RM} {σ:Snap} {s:SW} {w:World}
theorem d0r (a b:ByteArray):(a.toList==b.toList)=f0b a b:=by
 rw[ByteArray.toList_eq,ByteArray.toList_eq]
 unfold f0b
 rw[Bool.eq_iff_iff]
 simp
theorem b2r {t:Ty}{e:TypeId}(h:eqElem P t e=true){xs ys:Array Value}{o:Nat}{a b:t.den}(ha:RD σ t (fun k=>xs[k]?) o a)(hb:RD σ t (fun k=>ys[k]?) o b)(d:Nat):
  ∃x y,(part e xs o).run P w=.ok x w∧(part e ys o).run P w=.ok y w∧(Op.equalIn (d+1) e x y).run P w=.ok (eqD t a b) w:=by
 unfold eqElem at h
 split at h
 ·rename_i hu
  have hi:aggB P e=some false:=by simp[aggB,hu]
  have ha:xs[o]? =some (.bool a):=ha
  have hb:ys[o]? =some (.bool b):=hb
  exact⟨.bool a,.bool b,by simp[part,c0c hi,ha],by simp[part,c0c hi,hb],run_equalIn_bool' w d e _ _ hu⟩
 ·rename_i k k' hu
  have hi:aggB P e=some false:=by simp[aggB,hu]
  have ha:xs[o]? =some (.int k a):=ha
  have hb:ys[o]? =some (.int k b):=hb
  exact⟨.int k a,.int k b,by simp[part,c0c hi,ha],by simp[part,c0c hi,hb],run_equalIn_int w d e _ _ _ _ hu⟩
 ·rename_i hu
  have hi:aggB P e=some false:=by simp[aggB,hu]
  have ha:xs[o]? =some (.string a):=ha
  have hb:ys[o]? =some (.string b):=hb
  exact⟨.string a,.string b,by simp[part,c0c hi,ha],by simp[part,c0c hi,hb],by have:=run_equalIn_string w d e (show ByteArray from a) (show ByteArray from b) hu;rw[d0r]at this;exact this⟩
 ·cases h
theorem d1a {t:Ty}{e:TypeId}(h:eqElem P t e=true)(hsz:P.cellsOf e=t.width){xs ys:Array Value}(d:Nat): ∀{l l':List t.den} {q:Nat},
  (∀i (hi:i<l.length),RD σ t (fun k=>xs[k]?) ((q+i)*t.width) l[i])→(∀i (hi:i<l'.length),RD σ t (fun k=>ys[k]?) ((q+i)*t.width) l'[i])→l.length=l'.length→
  (Op.eqItems (d+1) e (P.cellsOf e) xs ys (List.range' q l.length)).run P w=.ok (eqL t l l') w
 |[],[],q,h1,h2,hl=>by simp[Op.eqItems,eqL]
 |a::l,b::l',q,h1,h2,hl=>by
  have h10:=h1 0 (by simp)
  have h20:=h2 0 (by simp)
  simp only[List.getElem_cons_zero]at h10 h20
  obtain⟨x,y,e1,e2,e3⟩:=b2r (w:=w) h h10 h20 d
  simp only[Nat.add_zero,←hsz]at e1 e2
  simp only[List.length_cons,List.range'_succ,Op.eqItems,Sem.run_bind,e1,e2,Result.andThen_ok,e3,eqL]
  cases hd:eqD t a b with
  |false=>simp
  |true=>
   simp only[Bool.not_true,Bool.false_eq_true,if_false,Bool.true_and]
   exact d1a h hsz d (q:=q+1) (fun i hi=>by have:=h1 (i+1) (by simp;omega);simpa [Nat.add_assoc,Nat.add_comm 1]using this) (fun i hi=>by have:=h2 (i+1) (by simp;omega);simpa [Nat.add_assoc,Nat.add_comm 1]using this) (by simpa using hl)
 |[],_::_,q,h1,h2,hl=>by simp at hl
 |_::_,[],q,h1,h2,hl=>by simp at hl
theorem c1q {eq:TypeId→SV→SV→Option Bool}{D:Nat}(ih: ∀(t:TypeId) (x y:SV) (x' y':Value) (b:Bool),eq t x y=some b→VRel r σ x x'→VRel r σ y y'→(Op.equalIn D t x' y').run P w=.ok b w)
  {xs ys:List SV} {cx cy:Array Value} (hx:ERel r σ xs (fun k=>cx[k]?) 0) (hy:ERel r σ ys (fun k=>cy[k]?) 0) (wx:esW xs=cx.size) (wy:esW ys=cy.size): ∀(fs:List Field) (b:Bool),eqPart P eq xs ys fs=some b→
   (Op.eqFields D cx cy fs).run P w=.ok b w
 |[],b,h=>by simp only[eqPart,Option.some.injEq]at h;subst h;rfl
 |f::fs,b,h=>by
  unfold eqPart at h
  unfold Op.eqFields
  cases hn:f.name== "_" with
  |true=>
   simp only[hn]at h
   have:f.name= "_" :=by simpa using hn
   rw[if_neg (by simp[this])]
   exact c1q ih hx hy wx wy fs b h
  |false=>
   simp only[hn]at h
   have:f.name≠ "_" :=by simpa using hn
   rw[if_pos this]
   split at h
   ·rename_i n a hsz hag
    split at h
    ·rename_i x y h1 h2
     split at h
     ·rename_i vx vy h3 h4
      split at h
      ·rename_i b1 q hb1 hq
       cases h
       obtain⟨p1,p2,e1,e2,e3⟩:=e0u h1
       obtain⟨q1,q2,f1,f2,f3⟩:=e0u h2
       rw[e1]at hx;rw[f1]at hy
       have wx':=wx;have wy':=wy
       rw[e1]at wx';rw[f1]at wy'
       simp only[a0t]at wx' wy'
       obtain⟨vx',u1,u2⟩:=k1l (P:=P) (T:=f.type) (q:=f.offset) (c:=cx) (by have:=hx.sub;rw[Nat.zero_add,e2]at this;exact this) e3 (.inr (by omega)) h3 hag hsz w
       obtain⟨vy',z1,z2⟩:=k1l (P:=P) (T:=f.type) (q:=f.offset) (c:=cy) (by have:=hy.sub;rw[Nat.zero_add,f2]at this;exact this) f3 (.inr (by omega)) h4 hag hsz w
       simp only[Sem.run_bind,u2,z2,Result.andThen_ok,ih _ _ _ _ _ _ hb1 u1 z1]
       cases b1 with
       |false=>simp
       |true=>
        simp only[Bool.not_true,Bool.false_eq_true,if_false,Bool.true_and]
        rw[←e1]at hx;rw[←f1]at hy
        exact c1q ih hx hy wx wy fs q hq
      ·cases h
     ·cases h
    ·cases h
   ·cases h
theorem m2j: ∀{d D:Nat} {t:TypeId} {x y:SV} {x' y':Value} {b:Bool},d≤D→eqT P d t x y=some b→VRel r σ x x'→VRel r σ y y'→(Op.equalIn D t x' y').run P w=.ok b w
 |0,D,t,x,y,x',y',b,hd,h,hx,hy=>by simp[eqT]at h
 |d+1,D,t,x,y,x',y',b,hd,h,hx,hy=>by
  obtain⟨D,rfl⟩: ∃k,D=k+1:=⟨D-1,by omega⟩
  simp only[eqT]at h
  split at h
  ·rename_i hu
   split at h
   ·cases h;cases hx;cases hy;exact run_equalIn_bool' w D t _ _ hu
   ·cases h
  ·rename_i k hu
   split at h
   ·split at h
    ·rename_i hk
     obtain rfl:=of_decide_eq_true hk
     cases h;cases hx;cases hy;exact run_equalIn_int w D t _ _ _ _ hu
    ·cases h
   ·cases h
  ·rename_i hu
   split at h
   ·cases h;cases hx;cases hy;rw[run_equalIn_string w D t _ _ hu,d0r]
   ·cases h
  ·rename_i fs hu
   split at h
   ·split at h
    ·rename_i hst
     obtain⟨cx,rfl,wx,ex⟩:=hx.agg_of
     obtain⟨cy,rfl,wy,ey⟩:=hy.agg_of
     have hf:P.fieldsOf t=fs:=by simp[Program.fieldsOf,hu]
     rw[run_equalIn_struct w D t _ _ (by rw[hf];exact hu) hst,hf]
     exact c1q (fun t x y x' y' b h1 h2 h3=>m2j (by omega) h1 h2 h3) ex ey wx wy fs.toList b h
    ·cases h
   ·cases h
  ·rename_i n e hu
   split at h
   ·rename_i t1 n1 l1 t2 n2 l2
    split at h
    ·rename_i l2' hc hsz hcast
     cases h
     simp only[Bool.and_eq_true]at hc
     obtain rfl:=a0n hc.1.1
     obtain rfl:=a0n hc.1.2
     obtain⟨he,rfl⟩:=a0w hcast
     subst he
     obtain⟨cx,rfl,wx,ex⟩:=hx.agg_of
     obtain⟨cy,rfl,wy,ey⟩:=hy.agg_of
     have ax:=ex.arr 0 t2 n l1 (by simp only[offs,List.mem_singleton])
     have ay:=ey.arr 0 t2 n l2 (by simp only[offs,List.mem_singleton])
     rw[p0f]at ax ay
     obtain⟨ie,hie,hsz'⟩:=r0m hsz
     have hw1:t2.width=1:=by
      have:=hc.2
      unfold eqElem at this
      split at this<;>first|rfl|cases this
     have hce:P.cellsOf e=t2.width:=by simp[Program.cellsOf,hie,hsz',hw1]
     obtain⟨D,rfl⟩: ∃k,D=k+1:=⟨D-1,by omega⟩
     rw[run_equalIn_array w (D+1) cx cy hu hie,List.range_eq_range',←ax.1]
     exact d1a (σ:=σ) hc.2 hce D (fun i hi=>by simpa using ax.2 i hi) (fun i hi=>by simpa using ay.2 i hi) (by rw[ax.1,ay.1])
    ·cases h
   ·cases h
  ·rename_i el hu
   have nilr: ∀p,(Op.equalIn (D+1) t (.pointer (some p)) (.pointer none)).run P w=.ok false w:=fun p=>by simp[Op.equalIn,run_underlying hu]
   have nill: ∀p,(Op.equalIn (D+1) t (.pointer none) (.pointer (some p))).run P w=.ok false w:=fun p=>by simp[Op.equalIn,run_underlying hu]
   split at h<;>first|(cases h;done)|skip
   all_goals (cases h;cases hx<;>cases hy<;>first|exact nilr _|exact nill _|simp[Op.equalIn,run_underlying hu])
  ·rename_i ms hu
   split at h
   ·cases h;cases hx;cases hy;simp[Op.equalIn,run_underlying hu]
   ·cases h;cases hx;cases hy;simp[Op.equalIn,run_underlying hu]
   ·rename_i t1 x1 t2 y1
    cases hx with
    |iface _ _ x1' hx=>
     cases hy with
     |iface _ _ y1' hy=>
      split at h
      ·rename_i hb
       cases h
       have:t1≠t2:=fun e=>by subst e;rw[Nat.beq_refl]at hb;cases hb
       simp[Op.equalIn,run_underlying hu,this]
      ·rename_i hb
       obtain rfl:=a0n hb
       split at h
       ·rename_i i hi
        split at h
        ·rename_i hc
         have:=m2j (show d≤D by omega) h hx hy
         simp[Op.equalIn,run_underlying hu,typeInfo,hi,hc,this]
        ·cases h
       ·cases h
   ·cases h
  ·rename_i el hu
   split at h
   ·cases h;cases hx;cases hy;simp[Op.equalIn,run_underlying hu]
   ·cases h
  ·rename_i k el hu
   split at h<;>first|(cases h;done)|skip
   all_goals (cases h;cases hx;cases hy;simp[Op.equalIn,run_underlying hu])
  ·rename_i a b c hu
   split at h<;>first|(cases h;done)|skip
   all_goals (cases h;cases hx;cases hy;simp[Op.equalIn,run_underlying hu])
  ·cases h
end
end Go.Proofs.Ytoehlcomhpnjgaa.Vx
