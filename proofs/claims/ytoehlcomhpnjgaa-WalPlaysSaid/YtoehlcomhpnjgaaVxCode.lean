import Derived.Test.YtoehlcomhpnjgaaVxOp
import Derived.LoopN
noncomputable section
namespace Go.Proofs.Ytoehlcomhpnjgaa.Vx
open Go Go.RowKit
set_option linter.unusedVariables false
variable {ds:List Deferred}
def put (t:List SV)(d:Option Tmp)(v:SV):List SV:=match d with
 |some d=>t.set d v
 |none=>t
abbrev b0p:=FuncId→List SV→SW→Tree (SV×SW)
def n4i (P:Program)(T:TypeId)(name:String):Option FuncId:=match P.info? T with
 |some ti=>match ti.methods.find? (fun m=>m.name==name)with
  |some m=>match m.path.toList,m.func,P.underlying T with
   |[],some (f,true),some (.pointer _)=>some f
   |_,_,_=>none
  |none=>none
 |none=>none
def e1v (P:Program)(t:List SV):Op→Option (FuncId×List SV)
 |.call ⟨.value f,args,_⟩=>match evT P t f with
  |.fn (.func fid) first caps=>match P.funcs[fid]? with
   |some fn=>match fn.body,fn.name== "runtime.NumGoroutine" with
    |some _,false=>some (fid,first++(args.toList.map (evT P t)++caps))
    |_,_=>none
   |none=>none
  |_=>none
 |.call ⟨.invoke x name,args,_⟩=>match evT P t x with
  |.iface T v=>match n4i P T name with
   |some fid=>match P.funcs[fid]? with
    |some fn=>match fn.body,fn.name== "runtime.NumGoroutine" with
     |some _,false=>some (fid,v::args.toList.map (evT P t))
     |_,_=>none
    |none=>none
   |none=>none
  |_=>none
 |_=>none
def runOp (P:Program)(cl:b0p)(o:Oper)(t:List SV)(s:SW):Tree (SV×SW):=match e1v P t o.op with
 |some (f,args)=>cl f args s
 |none=>evOp P o t s
inductive GA where
 |no
 |yes (d:Nat) (b:Bool)
 |bad
def e0r (ops:Array Oper)(t:List SV)(j:Nat):GA:=match ops[j]? with
 |some o=>match o.dst with
  |some d=>match t[d]? with
   |some (.bool b)=>.yes d b
   |some .undef=>.no
   |_=>.bad
  |none=>.bad
 |none=>.bad
def o0r (P:Program)(cl:b0p)(ops:Array Oper):List Nat→List Nat→List SV→SW→Tree (List SV×SW)
 |[],_,t,s=>.leaf (t,s)
 |i::rest,seen,t,s=>match ops[i]? with
  |none=>.bad 200
  |some o=>match o.guard with
   |none=>(runOp P cl o t s).bind fun x=>o0r P cl ops rest seen (put t o.dst x.1) x.2
   |some (j,want)=>match e0r ops t j with
    |.bad=>.bad 201
    |.no=>o0r P cl ops rest seen (put t o.dst .undef) s
    |.yes d b=>match seen.contains j with
     |true=>match b==want with
      |true=>(runOp P cl o t s).bind fun x=>o0r P cl ops rest seen (put t o.dst x.1) x.2
      |false=>o0r P cl ops rest seen (put t o.dst .undef) s
     |false=>.node b
      (match want with
       |true=>(runOp P cl o (t.set d (.bool true)) s).bind fun x=>o0r P cl ops rest (j::seen) (put (t.set d (.bool true)) o.dst x.1) x.2
       |false=>o0r P cl ops rest (j::seen) (put (t.set d (.bool true)) o.dst .undef) s)
      (match want with
       |false=>(runOp P cl o (t.set d (.bool false)) s).bind fun x=>o0r P cl ops rest (j::seen) (put (t.set d (.bool false)) o.dst x.1) x.2
       |true=>o0r P cl ops rest (j::seen) (put (t.set d (.bool false)) o.dst .undef) s)
section
variable {P:Program}
def h2a (r:RM)(σ:Snap)(s:SW)(w:World)(v:SV)(s1:SW)(v':Value)(w':World):Prop:=
 ∃r' σ',r.le r'∧σ.le σ'∧Rel r' σ' s1 w'∧Frame s.len s1.log r r' σ σ' w w'∧VRel r' σ' v v'∧(∀x,x∈s.log→x∈s1.log)∧s.len≤s1.len
def ClOk (P:Program)(cl:b0p):Prop:= ∀(f:FuncId) (args:List SV) (s:SW) (v:SV) (s1:SW),(cl f args s).sel=some (v,s1)→
 ∀(r:RM) (σ:Snap) (w:World) (args':Array Value),Rel r σ s w→LRel r σ args args'→Calls P f args' w fun e w'=> ∃v',e=.returned v'∧h2a r σ s w v s1 v' w'
theorem e4d {T:TypeId}{name:String}{f:FuncId}(h:n4i P T name=some f)(v:Value)(w:World):(method (P.types.size+Made.depth) T v name).run P w=.ok (f,v) w:=by
 unfold n4i at h
 split at h
 ·rename_i ti hti
  split at h
  ·rename_i m hm
   split at h
   ·rename_i g e hpath hfunc hund
    cases h
    obtain⟨n,hn⟩: ∃n,P.types.size+Made.depth=n+1:=⟨P.types.size+(Made.depth-1),by unfold Made.depth;omega⟩
    rw[hn]
    have e1:(typeInfo T).run P w=.ok ti w:=by
     have:(typeInfo T).run P w=(match P.info? T with|some i=>(pure i:Sem TypeInfo)|none=>stuck "no such type").run P w:=rfl
     rw[this,hti];rfl
    have e2:(underlying T).run P w=.ok (.pointer e) w:=by
     have:(underlying T).run P w=(match P.underlying T with|some i=>(pure i:Sem TypeDesc)|none=>stuck "no such type").run P w:=rfl
     rw[this,hund];rfl
    simp only[method,Sem.run_bind,Sem.run_pure,Result.andThen_ok,e1,hm,hpath,follow,hfunc,receiverAt,e2,Place.get]
   ·cases h
  ·cases h
 ·cases h
theorem cons_at {α:Type}(v:α)(a:Array α):(#[v]++a)[0]? =some v:=by
 rw[Array.getElem?_append_left (by simp)];rfl
theorem u3i {α:Type}(v:α)(a:Array α):(#[v]++a).extract 1 (#[v]++a).size=a:=by
 apply Array.ext'
 simp
theorem d2m {t:List SV}{t':Array Value}{r:RM}{σ:Snap}(ht:LRel r σ t t'){o:Oper}{f:FuncId}{args:List SV}(h:e1v P t o.op=some (f,args)):
  ∃args',LRel r σ args args'∧ ∀w,(execOp (Act.mk t' []).eval o).run P w=.ok (.enter f args') w:=by
 obtain⟨dst,op,ty,pos,aft,gd⟩:=o
 simp only at h
 unfold e1v at h
 split at h
 ·rename_i x xs ts
  split at h
  ·rename_i fid first caps hx
   split at h
   ·rename_i fn hfn
    split at h
    ·rename_i c hb hnm
     simp only[Option.some.injEq,Prod.mk.injEq]at h
     obtain⟨rfl,rfl⟩:=h
     have k:=a1r (P:=P) ht x
     rw[hx]at k
     generalize hx':(Act.mk t' []).eval x=x' at k
     cases k with
     |fn _ _ _ fs' cs' h1 h2 h3 h4=>
      refine⟨fs'++xs.map (Act.mk t' []).eval++cs',?_,fun w=> ?_⟩
      ·rw[Array.append_assoc]
       exact(⟨h1,h2⟩:LRel r σ first fs').append ((LRel.map xs _ _ fun y _=>a1r ht y).append ⟨h3,h4⟩)
      ·have hp:(program).run P w=.ok P w:=rfl
       simp only[execOp,resolve,hx',Deferred.ofValue,invoke,callFunc,Sem.run_bind,Sem.run_pure,Result.andThen_ok,hp,hfn]
       simp[hnm,hb]
    ·cases h
   ·cases h
  ·cases h
 ·rename_i x name xs ts
  split at h
  ·rename_i T v hx
   split at h
   ·rename_i fid hm
    split at h
    ·rename_i fn hfn
     split at h
     ·rename_i c hb hnm
      simp only[Option.some.injEq,Prod.mk.injEq]at h
      obtain⟨rfl,rfl⟩:=h
      have k:=a1r (P:=P) ht x
      rw[hx]at k
      generalize hx':(Act.mk t' []).eval x=x' at k
      cases k with
      |iface _ _ v' hv=>
       refine⟨#[v']++xs.map (Act.mk t' []).eval,?_,fun w=> ?_⟩
       ·exact(LRel.cons hv (LRel.nil r σ)).append (LRel.map xs _ _ fun y _=>a1r ht y)
       ·have hp:(program).run P w=.ok P w:=rfl
        have hme:=e4d hm v' w
        simp only[execOp,resolve,hx',invoke,cons_at,u3i,callMethod,callFunc,Sem.run_bind,Sem.run_pure,Result.andThen_ok,hp,hme,hfn]
        simp[hnm,hb]
     ·cases h
    ·cases h
   ·cases h
  ·cases h
 ·cases h
theorem k1r (t':Array Value)(d:Option Tmp)(v':Value):((Act.mk t' ds).put d v')=⟨((Act.mk t' ds).put d v').tmps,ds⟩:=by cases d<;>rfl
theorem n2k {r:RM}{σ:Snap}{t:List SV}{t':Array Value}(ht:LRel r σ t t')(d:Option Tmp){v:SV}{v':Value}(hv:VRel r σ v v'):LRel r σ (put t d v) ((Act.mk t' ds).put d v').tmps:=by
 cases d with
 |none=>exact ht
 |some d=>exact ht.set d hv
theorem z1g {cl:b0p}(hcl:ClOk P cl){o:Oper}{t:List SV}{t':Array Value}{r:RM}{σ:Snap}{s s1:SW}{w:World}{v:SV}(hr:Rel r σ s w)(ht:LRel r σ t t')(h:(runOp P cl o t s).sel=some (v,s1))
  {K:Act→World→Prop} {Q:Exit→Act→World→Prop} (hK: ∀v' w',h2a r σ s w v s1 v' w'→K ((Act.mk t' ds).put o.dst v') w'):o.wp P ⟨t',ds⟩ w K Q:=by
 unfold runOp at h
 unfold Oper.wp
 rw[show(Act.mk t' ds).eval=(Act.mk t' []).eval from rfl]
 split at h
 ·rename_i f args hc
  obtain⟨args',ha,hrun⟩:=d2m ht hc
  rw[hrun w,Oper.upon_enter]
  refine(hcl f args s v s1 h r σ w args' hr ha).mono ?_
  rintro e w' ⟨v',rfl,haf⟩
  exact hK v' w' haf
 ·obtain⟨r',σ',w',h1,h2,h3,h4,h5,h6,h7⟩:=j4d hr ht h
  rcases h7 with⟨v',h7,h8⟩|⟨h7,rfl⟩
  ·rw[h7,Oper.upon_value]
   exact hK v' w' ⟨r',σ',h1,h2,h3,h4,h8,h5,h6⟩
  ·rw[h7,Oper.upon_skip]
   exact hK Go.undef w' ⟨r',σ',h1,h2,h3,h4,.undef,h5,h6⟩
theorem b1h {ops:Array Oper}{t:List SV}{t':Array Value}{r:RM}{σ:Snap}(ht:LRel r σ t t'){j d:Nat}{b:Bool}(h:e0r ops t j=.yes d b):yielded ops t' j=some b∧t[d]? =some (.bool b):=by
 unfold e0r at h
 split at h
 ·rename_i o ho
  split at h
  ·rename_i d' hd
   split at h
   ·rename_i b' hb
    cases h
    refine⟨?_,hb⟩
    obtain⟨v',q1,q2⟩:=ht.get hb
    cases q2
    simp[yielded,ho,hd,q1]
   ·cases h
   ·cases h
  ·cases h
 ·cases h
theorem e1w {ops:Array Oper}{t:List SV}{t':Array Value}{r:RM}{σ:Snap}(ht:LRel r σ t t'){j:Nat}(h:e0r ops t j=.no):yielded ops t' j=none:=by
 unfold e0r at h
 split at h
 ·rename_i o ho
  split at h
  ·rename_i d' hd
   split at h
   ·cases h
   ·rename_i hb
    obtain⟨v',q1,q2⟩:=ht.get hb
    cases q2
    simp[yielded,ho,hd,q1,Go.undef]
   ·cases h
  ·cases h
 ·cases h
theorem y0r {t:List SV}{d:Nat}{v:SV}(h:t[d]? =some v):t.set d v=t:=by
 apply List.ext_getElem?
 intro i
 by_cases e:d=i
 ·subst e;rw[List.getElem?_set_self (List.getElem?_eq_some_iff.1 h).1,h]
 ·rw[List.getElem?_set_ne e]
def Then (r:RM)(σ:Snap)(s:SW)(w:World)(t1:List SV)(s1:SW)(t1':Array Value)(w':World):Prop:=
 ∃r' σ',r.le r'∧σ.le σ'∧Rel r' σ' s1 w'∧Frame s.len s1.log r r' σ σ' w w'∧LRel r' σ' t1 t1'∧(∀x,x∈s.log→x∈s1.log)∧s.len≤s1.len
theorem Then.refl {r:RM}{σ:Snap}{s:SW}{w:World}{t:List SV}{t':Array Value}(hr:Rel r σ s w)(ht:LRel r σ t t'):Then r σ s w t s t' w:=
 ⟨r,σ,RM.le_refl _,Snap.le_refl _,hr,Frame.refl _ _ _ _ _,ht,fun _ h=>h,Nat.le_refl _⟩
theorem Then.trans {r r1:RM}{σ σ1:Snap}{s s1 s2:SW}{w w1 w2:World}{t2:List SV}{t2':Array Value}(l1:r.le r1)(l2:σ.le σ1)(fr:Frame s.len s1.log r r1 σ σ1 w w1)(lg: ∀x,x∈s.log→x∈s1.log)(ln:s.len≤s1.len)
  (h:Then r1 σ1 s1 w1 t2 s2 t2' w2):Then r σ s w t2 s2 t2' w2:=by
 obtain⟨r2,σ2,h1,h2,h3,h4,h5,h6,h7⟩:=h
 exact⟨r2,σ2,RM.le_trans l1 h1,Snap.le_trans l2 h2,h3,fr.trans h4 h6 ln,h5,fun x hx=>h6 x (lg x hx),Nat.le_trans ln h7⟩
theorem v1m {cl:b0p}(hcl:ClOk P cl){ops:Array Oper}: ∀(l seen:List Nat) (t:List SV) (s:SW) (t1:List SV) (s1:SW),(o0r P cl ops l seen t s).sel=some (t1,s1)→
  ∀(r:RM) (σ:Snap) (w:World) (t':Array Value) (Q:Exit→Act→World→Prop),Rel r σ s w→LRel r σ t t'→
   (∀t1' w',Then r σ s w t1 s1 t1' w'→Q .normal ⟨t1',ds⟩ w')→wpOps P ops Q l ⟨t',ds⟩ w
 |[],seen,t,s,t1,s1,h,r,σ,w,t',Q,hr,ht,hQ=>by
  simp only[o0r]at h;cases h
  exact hQ t' w (Then.refl hr ht)
 |i::rest,seen,t,s,t1,s1,h,r,σ,w,t',Q,hr,ht,hQ=>by
  have ih:=v1m hcl (ops:=ops) rest
  unfold o0r at h
  unfold wpOps
  cases hi:ops[i]? with
  |none=>simp[hi,Tree.sel]at h
  |some o=>
   simp only[hi]at h⊢
   have run: ∀(seen:List Nat),((runOp P cl o t s).bind fun x=>o0r P cl ops rest seen (put t o.dst x.1) x.2).sel=some (t1,s1)→o.wp P ⟨t',ds⟩ w (wpOps P ops Q rest) Q:=by
    intro seen h
    obtain⟨⟨v,s2⟩,h1,h2⟩:=Tree.bind_some h
    refine z1g hcl hr ht h1 fun v' w' haf=> ?_
    obtain⟨r',σ',k1,k2,k3,k4,k5,k6,k7⟩:=haf
    rw[k1r]
    exact ih seen _ s2 t1 s1 h2 r' σ' w' _ Q k3 (n2k (ht.mono k1 k2) _ k5) fun t1' w'' hth=>hQ t1' w'' (Then.trans k1 k2 k4 k6 k7 hth)
   have pass: ∀(seen:List Nat),(o0r P cl ops rest seen (put t o.dst .undef) s).sel=some (t1,s1)→wpOps P ops Q rest ((Act.mk t' ds).put o.dst undef) w:=by
    intro seen h
    rw[k1r]
    exact ih seen _ s t1 s1 h r σ w _ Q hr (n2k ht _ .undef) hQ
   cases hg:o.guard with
   |none=>
    simp only[hg]at h
    rw[if_pos (by simp[Region.wanted,hg])]
    exact .inl (run seen h)
   |some jw=>
    obtain⟨j,want⟩:=jw
    simp only[hg]at h
    cases hga:e0r ops t j with
    |bad=>simp[hga,Tree.sel]at h
    |no=>
     simp only[hga]at h
     rw[if_neg (by simp[Region.wanted,hg,e1w ht hga])]
     exact pass seen h
    |yes d b=>
     obtain⟨hy,htd⟩:=b1h ht hga
     simp only[hga]at h
     have hw:Region.wanted o (yielded ops t')=(b==want):=by
      simp only[Region.wanted,hg,hy];cases b<;>cases want<;>rfl
     cases hs:seen.contains j with
     |true=>
      simp only[hs]at h
      cases hbw:b==want with
      |true=>simp only[hbw]at h;rw[if_pos (by rw[hw,hbw])];exact .inl (run seen h)
      |false=>simp only[hbw]at h;rw[if_neg (by rw[hw,hbw];simp)];exact pass seen h
     |false=>
      simp only[hs,Tree.sel]at h
      cases b with
      |true=>
       simp only[cond_true,y0r htd]at h
       cases want with
       |true=>rw[if_pos (by rw[hw];rfl)];exact .inl (run _ h)
       |false=>rw[if_neg (by rw[hw];simp)];exact pass _ h
      |false=>
       simp only[cond_false,y0r htd]at h
       cases want with
       |true=>rw[if_neg (by rw[hw];simp)];exact pass _ h
       |false=>rw[if_pos (by rw[hw];rfl)];exact .inl (run _ h)
end
end Go.Proofs.Ytoehlcomhpnjgaa.Vx
