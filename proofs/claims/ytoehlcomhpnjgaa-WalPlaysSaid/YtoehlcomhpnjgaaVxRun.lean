import Derived.Test.YtoehlcomhpnjgaaVxK
import Derived.Scope
noncomputable section
namespace Go.Proofs.Ytoehlcomhpnjgaa.Vx
open Go Go.RowKit
set_option linter.unusedVariables false
abbrev Res:=Exit×List SV×SW
abbrev b0u:=Code→List SV→SW→Option (Tree Res)
def c1l (f:List SV→SW→Tree Res):Nat→List SV→SW→Tree Res
 |0,_,_=>.bad 307
 |n+1,t,s=>(f t s).bind fun x=>match x.1 with
  |.normal=>c1l f n x.2.1 x.2.2
  |e=>.leaf (e,x.2)
def e0i (P:Program)(cl:b0p)(ls:b0u):Nat→Code→List SV→SW→Tree Res
 |0,_,_,_=>.bad 300
 |n+1,c,t,s=>match c with
  |.skip=>.leaf (.normal,t,s)
  |.ret=>.leaf (.ret,t,s)
  |.exit id=>.leaf (.exit id,t,s)
  |.region _ ops d=>(s0a P cl ops d t s).bind fun x=>.leaf (.normal,x)
  |.seq a b=>(e0i P cl ls n a t s).bind fun x=>match x.1 with
   |.normal=>e0i P cl ls n b x.2.1 x.2.2
   |e=>.leaf (e,x.2)
  |.cond c x y=>match evT P t c with
   |.bool b=>.node b (e0i P cl ls n x t s) (e0i P cl ls n y t s)
   |_=>.bad 301
  |.block id c=>(e0i P cl ls n c t s).bind fun x=>match x.1 with
   |.exit id'=>match Nat.beq id' id with
    |true=>.leaf (.normal,x.2)
    |false=>.leaf (.exit id',x.2)
   |e=>.leaf (e,x.2)
  |.loop c=>match ls c t s with
   |some T=>T
   |none=>c1l (e0i P cl ls n c) n t s
  |.label _=>.leaf (.normal,t,s)
  |.scope c=>(e0i P cl ls n c t s).bind fun x=>match x.1 with
   |.goto _=>.bad 308
   |e=>.leaf (e,x.2)
  |_=>.bad 302
def resR (P:Program)(t:List SV)(s:SW):List ResultVar→Option (List SV)
 |[]=>some []
 |.tmp k::l=>match resR P t s l with
  |some r=>some (t.getD k .undef::r)
  |none=>none
 |.cell a T::l=>match t0m P T (t.getD a .undef) s,resR P t s l with
  |some v,some r=>some (v::r)
  |_,_=>none
def resV (P:Program)(fn:Func)(t:List SV)(s:SW):Option SV:=match resR P t s fn.results.toList with
 |some [v]=>some v
 |some l=>some (.tup l)
 |none=>none
def r0u (P:Program)(cl:b0p)(ls:b0u)(n:Nat)(f:FuncId)(args:List SV)(s:SW):Tree (SV×SW):=match P.funcs[f]? with
 |some fn=>match fn.body with
  |some c=>(e0i P cl ls n c (args++List.replicate (fn.ntmps-args.length) .undef) s).bind fun x=>match x.1 with
   |.normal=>match resV P fn x.2.1 x.2.2 with
    |some v=>.leaf (v,x.2.2)
    |none=>.bad 303
   |.ret=>match resV P fn x.2.1 x.2.2 with
    |some v=>.leaf (v,x.2.2)
    |none=>.bad 303
   |_=>.bad 304
  |none=>.bad 305
 |none=>.bad 305
section
variable {P:Program}
def a0k (P:Program)(K:Nat)(c:Code)(t:List SV)(s:SW)(x:Res):Prop:=K≤s.len→ ∀(ds:List Deferred) (r:RM) (σ:Snap) (w:World) (t':Array Value) (Q:Exit→Act→World→Prop),Rel r σ s w→LRel r σ t t'→
 (∀t1' w',s0x K r σ s w x.2.1 x.2.2 t1' w'→Q x.1 ⟨t1',ds⟩ w')→c.wp P Q ⟨t',ds⟩ w
def d0w:Code→List Code
 |.seq a b=>d0w a++d0w b
 |.cond _ a b=>d0w a++d0w b
 |.block _ c=>d0w c
 |.loop c=>c::d0w c
 |.scope c=>d0w c
 |_=>[]
def LsOk (P:Program)(K:Nat)(ls:b0u)(c0:Code):Prop:= ∀c∈d0w c0,∀(t:List SV) (s:SW) (T:Tree Res) (x:Res),ls c t s=some T→T.sel=some x→a0k P K (.loop c) t s x
theorem LsOk.none (P:Program)(K:Nat)(c0:Code):LsOk P K (fun _ _ _=>none) c0:=fun _ _ _ _ _ _ h=>by cases h
theorem a0k.seq {K:Nat}{a b:Code}{t t1:List SV}{s s1:SW}{x:Res}(h:a0k P K a t s (.normal,t1,s1))(k:a0k P K b t1 s1 x):a0k P K (.seq a b) t s x:=by
 intro hK ds r σ w t' Q hr ht hQ
 refine wp_seq (h hK ds r σ w t' _ hr ht fun t1' w' hth=> ?_)
 obtain⟨r1,σ1,h1,h2,h3,h4,h5⟩:=hth
 exact k h5 ds r1 σ1 w' t1' Q h1 h3 fun t2' w'' hth=>hQ _ _ (s0x.trans h2 h4 hth)
theorem a0k.seq_end {K:Nat}{a b:Code}{t:List SV}{s:SW}{x:Res}(h:a0k P K a t s x)(hx:x.1≠.normal):a0k P K (.seq a b) t s x:=by
 intro hK ds r σ w t' Q hr ht hQ
 refine wp_seq (h hK ds r σ w t' _ hr ht fun t1' w' hth=> ?_)
 have:=hQ t1' w' hth
 obtain⟨e,y⟩:=x
 cases e<;>first|exact this|exact absurd rfl hx
theorem j2j {K:Nat}{c:Code}{f:List SV→SW→Tree Res}(hf: ∀t s x,(f t s).sel=some x→a0k P K c t s x): ∀(n:Nat) (t:List SV) (s:SW) (x:Res),(c1l f n t s).sel=some x→K≤s.len→
  ∀(ds:List Deferred) (r:RM) (σ:Snap) (w:World) (t':Array Value) (Q:Exit→Act→World→Prop),Rel r σ s w→LRel r σ t t'→(∀t1' w',s0x K r σ s w x.2.1 x.2.2 t1' w'→Q x.1 ⟨t1',ds⟩ w')→Code.rounds P c Q n ⟨t',ds⟩ w:=by
 intro n
 induction n with
 |zero=>intro t s x h;simp[c1l,Tree.sel]at h
 |succ n ih=>
  intro t s x h hK ds r σ w t' Q hr ht hQ
  unfold c1l at h
  obtain⟨⟨e,t1,s1⟩,h1,h2⟩:=Tree.bind_some h
  rw[rounds_succ]
  refine hf t s _ h1 hK ds r σ w t' _ hr ht fun t1' w' hth=> ?_
  cases e with
  |normal=>
   obtain⟨r1,σ1,q1,q2,q3,q4,q5⟩:=hth
   exact ih t1 s1 x h2 q5 ds r1 σ1 w' t1' Q q1 q3 fun t2' w'' hth=>hQ _ _ (s0x.trans q2 q4 hth)
  |_=>simp only at h2;cases h2;exact hQ _ _ hth
theorem m0n {K:Nat}{cl:b0p}(hcl:ClOk P cl)(hm:P.follows .mixedOrders=true){ls:b0u}: ∀(n:Nat) (c:Code) (t:List SV) (s:SW) (x:Res),LsOk P K ls c→(e0i P cl ls n c t s).sel=some x→a0k P K c t s x:=by
 intro n
 induction n with
 |zero=>intro c t s x hls h;simp[e0i,Tree.sel]at h
 |succ n ih=>
  intro c t s x hls h
  unfold e0i at h
  cases c with
  |skip=>simp only at h;cases h;intro hK ds r σ w t' Q hr ht hQ;exact wp_skip (hQ _ _ (s0x.refl hr ht hK))
  |ret=>simp only at h;cases h;intro hK ds r σ w t' Q hr ht hQ;exact wp_ret (hQ _ _ (s0x.refl hr ht hK))
  |exit id=>simp only at h;cases h;intro hK ds r σ w t' Q hr ht hQ;exact wp_exit (hQ _ _ (s0x.refl hr ht hK))
  |region id ops d=>
   simp only at h
   obtain⟨⟨t1,s1⟩,h1,h2⟩:=Tree.bind_some h
   cases h2
   intro hK ds r σ w t' Q hr ht hQ
   exact s1d hcl hm h1 hr ht fun t1' w' hth=>hQ t1' w' (hth.toK hK)
  |seq a b=>
   simp only at h
   obtain⟨⟨e,t1,s1⟩,h1,h2⟩:=Tree.bind_some h
   have hla:LsOk P K ls a:=fun c hc=>hls c (List.mem_append_left _ hc)
   have hlb:LsOk P K ls b:=fun c hc=>hls c (List.mem_append_right _ hc)
   cases e with
   |normal=>exact(ih a t s _ hla h1).seq (ih b t1 s1 x hlb h2)
   |_=>simp only at h2;cases h2;exact(ih a t s _ hla h1).seq_end (by simp)
  |cond c y z=>
   simp only at h
   cases hc:evT P t c with
   |bool b=>
    simp only[hc,Tree.sel]at h
    intro hK ds r σ w t' Q hr ht hQ
    have k:=a1r (P:=P) ht c
    rw[hc]at k
    generalize hx:(Act.mk t' []).eval c=v at k
    cases k
    refine wp_cond (t:=b) (show(Act.mk t' ds).eval c=_ from hx) ?_
    cases b with
    |true=>exact ih y t s x (fun c hc=>hls c (List.mem_append_left _ hc)) h hK ds r σ w t' Q hr ht hQ
    |false=>exact ih z t s x (fun c hc=>hls c (List.mem_append_right _ hc)) h hK ds r σ w t' Q hr ht hQ
   |_=>simp[hc,Tree.sel]at h
  |block id c=>
   simp only at h
   obtain⟨⟨e,t1,s1⟩,h1,h2⟩:=Tree.bind_some h
   intro hK ds r σ w t' Q hr ht hQ
   refine wp_block (ih c t s _ hls h1 hK ds r σ w t' _ hr ht fun t1' w' hth=> ?_)
   cases e with
   |exit id'=>
    simp only at h2
    cases hid:Nat.beq id' id with
    |true=>
     simp only[hid]at h2;cases h2
     have:=Nat.eq_of_beq_eq_true hid
     simp only[Exit.inBlock,this,if_true];exact hQ _ _ hth
    |false=>
     simp only[hid]at h2;cases h2
     have: ¬id'=id:=fun e=>by subst e;simp at hid
     simp only[Exit.inBlock,this,if_false];exact hQ _ _ hth
   |_=>simp only at h2;cases h2;exact hQ _ _ hth
  |loop c=>
   simp only at h
   cases hl:ls c t s with
   |some T=>simp only[hl]at h;exact hls c List.mem_cons_self t s T x hl h
   |none=>
    simp only[hl]at h
    intro hK ds r σ w t' Q hr ht hQ
    exact wp_loop_rounds n (j2j (fun t s x h=>ih c t s x (fun c' hc=>hls c' (List.mem_cons_of_mem _ hc)) h) n t s x h hK ds r σ w t' Q hr ht hQ)
  |label l=>simp only at h;cases h;intro hK ds r σ w t' Q hr ht hQ;exact wp_label (hQ _ _ (s0x.refl hr ht hK))
  |scope c=>
   simp only at h
   obtain⟨⟨e,t1,s1⟩,h1,h2⟩:=Tree.bind_some h
   intro hK ds r σ w t' Q hr ht hQ
   refine wp_scope_straight (ih c t s _ hls h1 hK ds r σ w t' _ hr ht fun t1' w' hth=> ?_)
   cases e with
   |goto l=>simp[Tree.sel]at h2
   |_=>simp only at h2;cases h2;exact hQ _ _ hth
  |_=>simp[Tree.sel]at h
abbrev resOne (t':Array Value)(x:ResultVar):Sem Value:=match x with
 |.tmp t=>pure (t'.getD t undef)
 |.cell a t=>do loadVar t (←asAddr (t'.getD a undef))
theorem load_as {T:TypeId}{p v:Value}{w:World}(h:(Instr.loadAt T p).run P w=.ok v w):(do loadVar T (←asAddr p):Sem Value).run P w=.ok v w:=by
 rw[←h]
 cases p with
 |pointer a=>cases a<;>first|rfl|(exfalso;simp[Instr.loadAt,Instr.sureAddr,stuck]at h)
 |_=>exfalso;simp[Instr.loadAt,Instr.sureAddr,stuck]at h
theorem q1p {r:RM}{σ:Snap}{s:SW}{w:World}{t:List SV}{t':Array Value}(hr:Rel r σ s w)(ht:LRel r σ t t'): ∀(l:List ResultVar) (vs:List SV),resR P t s l=some vs→
  ∃vs':List Value,(l.mapM (resOne t')).run P w=.ok vs' w∧LRel r σ vs vs'.toArray
 |[],vs,h=>by simp only[resR,Option.some.injEq]at h;subst h;exact⟨[],rfl,LRel.nil _ _⟩
 |.tmp k::l,vs,h=>by
  unfold resR at h
  split at h
  ·rename_i q hq
   cases h
   obtain⟨vs',h1,h2⟩:=q1p hr ht l q hq
   exact⟨t'.getD k undef::vs',by simp[List.mapM_cons,h1],.cons (ht.getD k) h2⟩
  ·cases h
 |.cell a T::l,vs,h=>by
  unfold resR at h
  split at h
  ·rename_i v q hv hq
   cases h
   obtain⟨vs',h1,h2⟩:=q1p hr ht l q hq
   obtain⟨v',k1,k2⟩:=a1y (P:=P) hr (ht.getD a) hv
   have e:=load_as k2
   refine⟨v'::vs',?_,.cons k1 h2⟩
   rw[List.mapM_cons,Sem.run_bind]
   show Result.andThen ((do loadVar T (←asAddr (t'.getD a undef)):Sem Value).run P w) _=_
   rw[e,Result.andThen_ok,Sem.run_bind,h1]
   rfl
  ·cases h
theorem o3c {r:RM}{σ:Snap}{s:SW}{w:World}{t:List SV}{t':Array Value}(hr:Rel r σ s w)(ht:LRel r σ t t'){fn:Func}{v:SV}(h:resV P fn t s=some v):
  ∃v',(results fn t').run P w=.ok v' w∧VRel r σ v v':=by
 have run: ∀vs,resR P t s fn.results.toList=some vs→ ∃vs':List Value,(results fn t').run P w=.ok (if h:vs'.toArray.size=1 then vs'.toArray[0]else .tuple vs'.toArray) w∧LRel r σ vs vs'.toArray:=by
  intro vs hvs
  obtain⟨vs',h1,h2⟩:=q1p hr ht _ _ hvs
  refine⟨vs',?_,h2⟩
  unfold results
  rw[Array.mapM_eq_mapM_toList,map_eq_pure_bind,Sem.run_bind,Sem.run_bind]
  change Result.andThen (Result.andThen ((List.mapM (resOne t') fn.results.toList).run P w) _) _=_
  rw[h1]
  rfl
 unfold resV at h
 split at h
 ·rename_i v0 hv
  cases h
  obtain⟨vs',h1,h2⟩:=run _ hv
  have hs:=h2.size
  simp only[List.length_cons,List.length_nil]at hs
  rw[dif_pos hs.symm]at h1
  exact⟨_,h1,h2.at_ 0 _ _ rfl (Array.getElem?_eq_getElem (by omega))⟩
 ·rename_i l hn hl
  cases h
  obtain⟨vs',h1,h2⟩:=run _ hl
  have hs:=h2.size
  have h1': ¬vs'.toArray.size=1:=fun e=>by
   rw[←hs]at e
   match l,e with
   |[x],_=>exact hn x rfl
  rw[dif_neg h1']at h1
  exact⟨_,h1,.tup _ _ hs h2.at_⟩
 ·cases h
theorem LRel.undefs (r:RM)(σ:Snap)(n:Nat):LRel r σ (List.replicate n .undef) (Array.replicate n Go.undef):=LRel.replicate r σ n .undef
def a0r (P:Program)(f:FuncId):Code:=match P.funcs[f]? with
 |some fn=>match fn.body with
  |some c=>c
  |none=>.skip
 |none=>.skip
theorem t0k {cl:b0p}(hcl:ClOk P cl)(hm:P.follows .mixedOrders=true){ls:b0u}{K:Nat}{n:Nat}{f:FuncId}(hls:LsOk P K ls (a0r P f)){args:List SV}{s s1:SW}{v:SV}(h:(r0u P cl ls n f args s).sel=some (v,s1))
  (hK:K≤s.len) {r:RM} {σ:Snap} {w:World} {args':Array Value} (hr:Rel r σ s w) (ha:LRel r σ args args'):Calls P f args' w fun e w'=> ∃v',e=.returned v'∧y1d K r σ s w v s1 v' w':=by
 unfold r0u at h
 cases hf:P.funcs[f]? with
 |none=>simp[hf,Tree.sel]at h
 |some fn=>
  simp only[hf]at h
  cases hb:fn.body with
  |none=>simp[hb,Tree.sel]at h
  |some c=>
   simp only[hb]at h
   obtain⟨⟨e,t1,s2⟩,h1,h2⟩:=Tree.bind_some h
   refine calls_of_wp hf hb ?_
   have ht:LRel r σ (args++List.replicate (fn.ntmps-args.length) .undef) (args'++Array.replicate (fn.ntmps-args'.size) undef):=by
    rw[ha.size];exact ha.append (LRel.undefs r σ _)
   refine m0n hcl hm n c _ s _ (by unfold a0r at hls;simp only[hf,hb]at hls;exact hls) h1 hK [] r σ w _ _ hr ht fun t1' w' hth=> ?_
   obtain⟨r1,σ1,q1,q2,q3,q4,q5⟩:=hth
   have key:(match resV P fn t1 s2 with|some v=>Tree.leaf (v,s2)|none=>.bad 303).sel=some (v,s1)→ ∃v0,(results fn t1').run P w'=.ok v0 w'∧ ∃v',Ending.returned v0=.returned v'∧y1d K r σ s w v s1 v' w':=by
    intro h
    cases hv:resV P fn t1 s2 with
    |none=>simp[hv,Tree.sel]at h
    |some v1=>
     simp only[hv]at h
     cases h
     obtain⟨v',k1,k2⟩:=o3c q1 q3 hv
     exact⟨v',k1,v',rfl,r1,σ1,q1,q2,k2,q4,q5⟩
   cases e with
   |normal=>exact⟨rfl,key h2⟩
   |ret=>exact⟨rfl,key h2⟩
   |_=>simp[Tree.sel]at h2
abbrev a0q:=List SV→SW→Tree (SV×SW)
def c1x (P:Program)(f:FuncId)(g:a0q):Prop:= ∀(args:List SV) (s:SW) (v:SV) (s1:SW),(g args s).sel=some (v,s1)→
 ∀(r:RM) (σ:Snap) (w:World) (args':Array Value),Rel r σ s w→LRel r σ args args'→Calls P f args' w fun e w'=> ∃v',e=.returned v'∧h2a r σ s w v s1 v' w'
end
end Go.Proofs.Ytoehlcomhpnjgaa.Vx
