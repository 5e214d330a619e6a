import Derived.Test.YtplcpifjiodhcaaGreatVxLk
import Derived.Test.YtplcpifjiodhcaaGreatVxIm
import Derived.Test.YtplcpifjiodhcaaGreatVxLaw
import Derived.Test.YtplcpifjiodhcaaGreatZ06n
import Derived.Test.YtplcpifjiodhcaaGreatZ06m
import Derived.Test.YtplcpifjiodhcaaGreatW07
import Derived.KernelRfl
import Derived.Test.YtplcpifjiodhcaaGreatZ06j
import Derived.Test.YtplcpifjiodhcaaGreatVxTab
import Derived.Test.YtplcpifjiodhcaaGreatVxAsk
noncomputable section
namespace Go.Proofs.YtplcpifjiodhcaaGreat.Vx
open Go Go.RowKit
set_option linter.unusedVariables false
set_option linter.unusedSimpArgs false
set_option maxRecDepth 100000
set_option maxHeartbeats 0
def h3j:Code→Code
 |.seq a _=>a
 |c=>c
def n3i:Code→Code
 |.seq _ b=>b
 |_=>.skip
def isSeqC:Code→Bool
 |.seq _ _=>true
 |_=>false
def tlC (c:Code):Nat→Code
 |0=>c
 |n+1=>n3i (tlC c n)
theorem seqC_eq {c:Code}(h:isSeqC c=true):c=.seq (h3j c) (n3i c):=by
 cases c<;>first|rfl|cases h
section
variable {md:Bool} {P:Program} {cl:b0p} {ls:b0u}
theorem h3c {n:Nat}{c:Code}{t t1:List SV}{s s1:SW}{x:Res}(hc:isSeqC c=true)(h:(evCodeF md P cl ls n (h3j c) t s).sel=some (.normal,t1,s1))(k:(evCodeF md P cl ls n (n3i c) t1 s1).sel=some x):
  (evCodeF md P cl ls (n+1) c t s).sel=some x:=by
 rw[seqC_eq hc]
 show((evCodeF md P cl ls n (h3j c) t s).bind fun x=>match x.1 with
   |.normal=>evCodeF md P cl ls n (n3i c) x.2.1 x.2.2
   |e=>.leaf (e,x.2)).sel=some x
 rw[Tree.sel_bind,h]
 exact k
theorem n3l {n:Nat}{f:FuncId}{fn:Func}{c:Code}{t t1:List SV}{s1:SW}{v:SV}(hf:P.funcs[f]? =some fn)(hb:fn.body=some c)(ht:List.replicate fn.ntmps .undef=t)(h:(evCodeF md P cl ls n c t ⟨[],[]⟩).sel=some (.ret,t1,s1))(hv:resV P fn t1 s1=some v):
  (evBodyF md P cl ls n f [] ⟨[],[]⟩).sel=some (v,s1):=by
 subst ht
 rw[v0b]
 rw[w0a]at h
 unfold r0u
 rw[hf]
 simp only[hb]
 rw[Tree.sel_bind]
 simp only[List.nil_append,List.length_nil,Nat.sub_zero]
 rw[h]
 show(match resV P fn t1 s1 with|some v=>Tree.leaf (v,s1)|none=>.bad 303).sel=_
 rw[hv]
 rfl
end
abbrev h3d (cs:FuncId→Option a0q)(n:Nat)(c:Code)(t:List SV)(s:SW)(x:Res):Prop:=(Lk.evCodeF true LK (Lk.clMd true LK cs) ls0 n c t s).sel=some x
theorem h3d.go {cs:FuncId→Option a0q}{n:Nat}{c:Code}{t:List SV}{s:SW}{x:Res}(h:h3d cs n c t s x):(evCodeF true Tryz.prog (clMd true Tryz.prog cs) ls0 n c t s).sel=some x:=by
 unfold h3d at h
 rw[LK_eq,f1x,q1i]at h
 exact h
def m3b (x:Int):List Int:=(Bt.bitsTo x 64).map fun(k:Nat)=>(k:Int)
def opp_19:List Dat→Option (Nat×List Dat)
 |[.n x]=>some (0,[.l TI (m3b x)])
 |_=>none
def opp_28:List Dat→Option (Nat×List Dat)
 |[.l t l,.n x]=>match c0r t TU l with
  |some l=>some (0,[.n (Bt.anyI l x)])
  |none=>none
 |_=>none
theorem arg1 {r:RM}{σ:Snap}{k:IntKind}{x:Int}{a:Array Value}(h:LRel r σ [.int k x] a):a= #[.int k x]:=by
 have hs:=h.size
 obtain⟨v,h1,h2⟩:=h.get (i:=0) (v:=.int k x) rfl
 cases h2
 apply Array.ext_getElem?
 intro i
 cases i with
 |zero=>rw[h1];rfl
 |succ i=>rw[Array.getElem?_eq_none (by simp at hs;omega)];simp
theorem arg2 {r:RM}{σ:Snap}{k:IntKind}{x:Int}{p:SV}{a:Array Value}(h:LRel r σ [p,.int k x] a): ∃v,a= #[v,.int k x]∧VRel r σ p v:=by
 have hs:=h.size
 obtain⟨v,h1,h2⟩:=h.get (i:=0) (v:=p) rfl
 obtain⟨v2,h3,h4⟩:=h.get (i:=1) (v:=.int k x) rfl
 cases h4
 refine⟨v,?_,h2⟩
 apply Array.ext_getElem?
 intro i
 match i with
 |0=>rw[h1];rfl
 |1=>rw[h3];rfl
 |i+2=>rw[Array.getElem?_eq_none (by simp at hs;omega)];simp
theorem m3h {r:RM}{σ:Snap}{s:SW}{w:World}(hr:Rel r σ s w){l:List Int}{v:Value}(h:VRel r σ (.imm TU l) v):Bt.RowAt w v l:=by
 cases h with
 |imm _ _ _ himm=>
  have himm': ∃(a:Option Addr) (len cap:Nat),some v=some (.slice a len cap)∧len=l.length∧len≤cap∧ ∀i (h:i<l.length),∃(p:Addr) (c:Array Value),a=some p∧p.spot=none∧σ p.block=some c∧c[p.off+i*1]? =some (.int .u64 l[i]):=himm
  obtain⟨a,len,cap,k1,k2,k3,k4⟩:=himm'
  simp only[Option.some.injEq]at k1
  subst k1 k2
  refine⟨a,cap,rfl,fun i hi=> ?_⟩
  obtain⟨p,c,e1,e2,e3,e4⟩:=k4 i hi
  obtain⟨T,f,e5⟩:=hr.snap _ _ e3
  obtain⟨b,o,sp⟩:=p
  simp only at e2
  subst e2
  refine⟨b,o,e1,(Array.getElem?_eq_some_iff.1 e5).1,?_⟩
  have e6:c[o+i*1]? =some (.int .u64 l[i]):=e4
  rw[Nat.mul_one]at e6
  have e7:l.getD i 0=l[i]:=by simp[List.getD_eq_getElem?_getD,hi]
  rw[e7]
  simp only[World.cell?]
  rw[e5]
  exact e6
theorem b19:a0v Tryz.prog 202 (a0j (mkF [.int .u64 0] [] [] [(.own 0,[.arr (.int .i64) 0])] opp_19)):=by
 refine m3p (e:=3) fun env j d he=> ?_
 match env,he with
 |[.n x],he=>
  cases he
  refine⟨rfl,m3b x,rfl,fun r σ w args' hr ha=> ?_⟩
  have:=arg1 (x:=x) ha
  subst this
  refine(callsIn_wide.1 (Bt.List_in Fence.wide 4 trivial trivial trivial trivial trivial rfl (by omega) x w)).mono ?_
  rintro e W' ⟨v,rfl,h1,h2⟩
  refine⟨v,rfl,?_,h2⟩
  have e1:(m3b x).length=(Bt.bitsTo x 64).length:=by simp[m3b]
  have e2:(m3b x).map (Value.int .i64)=(Bt.bitsTo x 64).map Bt.enc:=by simp[m3b,List.map_map];intro a _;rfl
  rw[e1,e2];exact h1
theorem b28:a0v Tryz.prog 216 (a0j (mkF [.imm TU 0,.int .u64 1] [] [] [(.int .u64 0,[])] opp_28)):=by
 refine m3r fun env j d he=> ?_
 match env,he with
 |[.l t l0,.n x],he=>
  have he':(match c0r t TU l0 with|some l=>some (0,[Dat.n (Bt.anyI l x)])|none=>none)=some (j,d):=he
  split at he'
  ·rename_i l hl
   obtain⟨e1,rfl⟩:=a0w hl
   subst e1
   cases he'
   refine⟨rfl,_,rfl,fun r σ w args' hr ha=> ?_⟩
   have hgl:instL [.imm TU 0,.int .u64 1] [Dat.l TU l0,.n x]=[.imm TU l0,.int .u64 x]:=by
    show[SV.imm TU (gl TU [Dat.l TU l0,.n x] 0),_]=_
    have:gl TU [Dat.l TU l0,.n x] 0=l0:=by simp[gl,d0b]
    rw[this];rfl
   rw[hgl]at ha
   obtain⟨v,rfl,hv⟩:=arg2 ha
   exact callsIn_wide.1 (Bt.Any_in Fence.wide 4 trivial trivial trivial trivial trivial rfl (by omega) v l0 x w (m3h hr hv))
  ·cases he'
def BP19:FBox:=mkF [.int .u64 0] [] [] [(.own 0,[.arr (.int .i64) 0])] opp_19
def BP28:FBox:=mkF [.imm TU 0,.int .u64 1] [] [] [(.int .u64 0,[])] opp_28
def cs_Q1:FuncId→Option a0q:=a0s 216 BP28 (a0s 202 BP19 cs_Q0)
theorem n3k:CsOk Tryz.prog cs_Q1:=a0g (a0g a2u b19) b28
def k3f (t:Ty)(g:a0q):a0q:=fun args s=>(g args s).bind fun x=>match x.1 with
 |.agg es=>match b0j es with
  |true=>match ofSV t (.agg es) x.2 with
   |some (d,s2)=>.leaf (.agg (d0l t d),s2)
   |none=>.bad 352
  |false=>.bad 353
 |_=>.bad 352
def l3n (f:Nat)(t:Ty)(cs:FuncId→Option a0q):FuncId→Option a0q:=fun k=>match cs k with
 |some g=>match Nat.beq k f with
  |true=>some (k3f t g)
  |false=>some g
 |none=>none
theorem l3u {P:Program}{f:FuncId}{t:Ty}{g:a0q}(h:c1x P f g):c1x P f (k3f t g):=by
 intro args s v s1 hrun r σ w args' hr ha
 unfold k3f at hrun
 obtain⟨⟨v0,s0⟩,h1,h2⟩:=Tree.bind_some hrun
 simp only at h2
 split at h2
 ·rename_i es
  split at h2
  ·rename_i hst
   split at h2
   ·rename_i d s2 hf
    cases h2
    refine(h args s _ s0 h1 r σ w args' hr ha).mono ?_
    rintro e w' ⟨v',rfl,r1,σ1,a1,a2,a3,a4,a5,a6,a7⟩
    obtain⟨σ2,b1,b2,b3,b4,b5⟩:=m3c a3 a5 hst hf
    obtain⟨c0,e0,e1,e2⟩:=VRel.agg_of a5
    subst e0
    have b5':c0.size=t.width:=b5
    refine⟨_,rfl,r1,σ2,a1,Snap.le_trans a2 b1,b2,a4.trans (.still s.len b3.stay) b3.log (Nat.le_refl _),?_,fun x hx=>b3.log x (a6 x hx),by rw[b3.len];exact a7⟩
    have hE:ERel r1 σ2 (d0l t d) (fun k=>c0[k]?) 0:=c0x t b4
    have:=VRel.agg_mk (q:=0) (n:=t.width) (c:=c0) hE (l0k t d) (.inr (by omega))
    rw[Nat.zero_add,←b5',Array.extract_size]at this
    exact this
   ·cases h2
  ·cases h2
 ·cases h2
theorem j3u {P:Program}{f:Nat}{t:Ty}{cs:FuncId→Option a0q}(hcs:CsOk P cs):CsOk P (l3n f t cs):=by
 intro g s h
 unfold l3n at h
 split at h
 ·rename_i g0 hg
  split at h
  ·cases h;exact l3u (hcs _ _ hg)
  ·cases h;exact hcs _ _ hg
 ·cases h
def csIn (md:Bool)(P:Program)(f:Nat)(cs:FuncId→Option a0q):FuncId→Option a0q:=fun k=>match Nat.beq k f with
 |true=>some (clMd md P cs k)
 |false=>cs k
theorem m3m {P:Program}{f:Nat}{cs:FuncId→Option a0q}(hcs:CsOk P cs)(hm:P.follows .mixedOrders=true)(md:Bool):CsOk P (csIn md P f cs):=by
 intro g s h
 unfold csIn at h
 split at h
 ·cases h
  intro args s v s1 hrun r σ w args' hr ha
  exact c1t hcs hm md _ args s v s1 hrun r σ w args' hr ha
 ·exact hcs _ _ h
abbrev TC:Ty:=.pair (.int .u8) (.int .i64)
def m3g (l:List (Ty.den TS)):Bool:=decide ((0+l.length)*16≤140737488355328)
def op_l60:OpA:=h3e TS m3g
def Bl60:FBox:=mkF [.imm TS 0] [] [] [(.own 0,[.arr TS 0])] op_l60
def cs_l60:FuncId→Option a0q:=a0s 60 ((BSh.of Bl60).k op_l60) cs_Q1
theorem Bl60_ok:a0v Tryz.prog 60 (a0j Bl60):=
 h3f (P:=Tryz.prog) (cl:=clMd true Tryz.prog h0b) (c1t v0d hmix true) hmix (T:=22) (e:=9) (n:=400) (fn:=Tryz.f60) (by kernel_rfl) (by kernel_rfl) (by kernel_rfl) (by kernel_rfl) TS m3g
  (fun l=>[.imm TS l,.undef,.nilsl,.undef,.undef,.undef,.undef,.undef]) (fun l=>[.imm TS l,.undef,.nilsl,.imm TS l,.bool true,.undef,.undef,.undef])
  (fun l=>[.imm TS l,.undef,.own 0 1,.imm TS l,.bool false,.own 0 0,.imm TS l,.own 0 1]) (fun l=>⟨[.arr TS 1 l],[0]⟩) (fun l=>.own 0 1)
  (fun l=>by kernel_rfl) (fun l=>rfl) (fun l=>rfl) (fun l=>by kernel_rfl) (fun l=>by kernel_rfl) (fun l=>by kernel_rfl) (fun l=>by kernel_rfl) (fun l=>by kernel_rfl) (fun l=>by kernel_rfl) (by kernel_rfl)
theorem m3u:CsOk Tryz.prog cs_l60:=csA n3k Bl60_ok
def m3i (l:List (Ty.den TPt)):Bool:=decide ((0+l.length)*24≤140737488355328)
def op_l61:OpA:=h3e TPt m3i
def Bl61:FBox:=mkF [.imm TPt 0] [] [] [(.own 0,[.arr TPt 0])] op_l61
def cs_l61:FuncId→Option a0q:=a0s 61 ((BSh.of Bl61).k op_l61) cs_l60
theorem Bl61_ok:a0v Tryz.prog 61 (a0j Bl61):=
 h3f (P:=Tryz.prog) (cl:=clMd true Tryz.prog h0b) (c1t v0d hmix true) hmix (T:=23) (e:=89) (n:=400) (fn:=Tryz.f61) (by kernel_rfl) (by kernel_rfl) (by kernel_rfl) (by kernel_rfl) TPt m3i
  (fun l=>[.imm TPt l,.undef,.nilsl,.undef,.undef,.undef,.undef,.undef]) (fun l=>[.imm TPt l,.undef,.nilsl,.imm TPt l,.bool true,.undef,.undef,.undef])
  (fun l=>[.imm TPt l,.undef,.own 0 1,.imm TPt l,.bool false,.own 0 0,.imm TPt l,.own 0 1]) (fun l=>⟨[.arr TPt 1 l],[0]⟩) (fun l=>.own 0 1)
  (fun l=>by kernel_rfl) (fun l=>rfl) (fun l=>rfl) (fun l=>by kernel_rfl) (fun l=>by kernel_rfl) (fun l=>by kernel_rfl) (fun l=>by kernel_rfl) (fun l=>by kernel_rfl) (fun l=>by kernel_rfl) (by kernel_rfl)
theorem m3w:CsOk Tryz.prog cs_l61:=csA m3u Bl61_ok
def m3k (l:List (Ty.den TPt)):Bool:=decide ((0+l.length)*24≤140737488355328)
def op_l62:OpA:=h3e TPt m3k
def Bl62:FBox:=mkF [.imm TPt 0] [] [] [(.own 0,[.arr TPt 0])] op_l62
def cs_l62:FuncId→Option a0q:=a0s 62 ((BSh.of Bl62).k op_l62) cs_l61
theorem Bl62_ok:a0v Tryz.prog 62 (a0j Bl62):=
 h3f (P:=Tryz.prog) (cl:=clMd true Tryz.prog h0b) (c1t v0d hmix true) hmix (T:=24) (e:=90) (n:=400) (fn:=Tryz.f62) (by kernel_rfl) (by kernel_rfl) (by kernel_rfl) (by kernel_rfl) TPt m3k
  (fun l=>[.imm TPt l,.undef,.nilsl,.undef,.undef,.undef,.undef,.undef]) (fun l=>[.imm TPt l,.undef,.nilsl,.imm TPt l,.bool true,.undef,.undef,.undef])
  (fun l=>[.imm TPt l,.undef,.own 0 1,.imm TPt l,.bool false,.own 0 0,.imm TPt l,.own 0 1]) (fun l=>⟨[.arr TPt 1 l],[0]⟩) (fun l=>.own 0 1)
  (fun l=>by kernel_rfl) (fun l=>rfl) (fun l=>rfl) (fun l=>by kernel_rfl) (fun l=>by kernel_rfl) (fun l=>by kernel_rfl) (fun l=>by kernel_rfl) (fun l=>by kernel_rfl) (fun l=>by kernel_rfl) (by kernel_rfl)
theorem n3a:CsOk Tryz.prog cs_l62:=csA m3w Bl62_ok
def n3d (l:List (Ty.den TRt)):Bool:=decide ((0+l.length)*120≤140737488355328)
def op_l63:OpA:=h3e TRt n3d
def Bl63:FBox:=mkF [.imm TRt 0] [] [] [(.own 0,[.arr TRt 0])] op_l63
def cs_l63:FuncId→Option a0q:=e1c 63 [(BSh.of Bl63).k op_l63] cs_l62
theorem Bl63_ok:a0v Tryz.prog 63 (a0j Bl63):=
 h3f (P:=Tryz.prog) (cl:=clMd true Tryz.prog h0b) (c1t v0d hmix true) hmix (T:=25) (e:=87) (n:=400) (fn:=Tryz.f63) (by kernel_rfl) (by kernel_rfl) (by kernel_rfl) (by kernel_rfl) TRt n3d
  (fun l=>[.imm TRt l,.undef,.nilsl,.undef,.undef,.undef,.undef,.undef]) (fun l=>[.imm TRt l,.undef,.nilsl,.imm TRt l,.bool true,.undef,.undef,.undef])
  (fun l=>[.imm TRt l,.undef,.own 0 1,.imm TRt l,.bool false,.own 0 0,.imm TRt l,.own 0 1]) (fun l=>⟨[.arr TRt 1 l],[0]⟩) (fun l=>.own 0 1)
  (fun l=>by kernel_rfl) (fun l=>rfl) (fun l=>rfl) (fun l=>by kernel_rfl) (fun l=>by kernel_rfl) (fun l=>by kernel_rfl) (fun l=>by kernel_rfl) (fun l=>by kernel_rfl) (fun l=>by kernel_rfl) (by kernel_rfl)
theorem m3l:CsOk Tryz.prog cs_l63:=csB n3a Bl63_ok
def n3b (l:List (Ty.den TI)):Bool:=decide ((0+l.length)*8≤140737488355328)
def op_l64:OpA:=h3e TI n3b
def Bl64:FBox:=mkF [.imm TI 0] [] [] [(.own 0,[.arr TI 0])] op_l64
def cs_l64:FuncId→Option a0q:=a0s 64 ((BSh.of Bl64).k op_l64) cs_l63
theorem Bl64_ok:a0v Tryz.prog 64 (a0j Bl64):=
 h3f (P:=Tryz.prog) (cl:=clMd true Tryz.prog h0b) (c1t v0d hmix true) hmix (T:=84) (e:=3) (n:=400) (fn:=Tryz.f64) (by kernel_rfl) (by kernel_rfl) (by kernel_rfl) (by kernel_rfl) TI n3b
  (fun l=>[.imm TI l,.undef,.nilsl,.undef,.undef,.undef,.undef,.undef]) (fun l=>[.imm TI l,.undef,.nilsl,.imm TI l,.bool true,.undef,.undef,.undef])
  (fun l=>[.imm TI l,.undef,.own 0 1,.imm TI l,.bool false,.own 0 0,.imm TI l,.own 0 1]) (fun l=>⟨[.arr TI 1 l],[0]⟩) (fun l=>.own 0 1)
  (fun l=>by kernel_rfl) (fun l=>rfl) (fun l=>rfl) (fun l=>by kernel_rfl) (fun l=>by kernel_rfl) (fun l=>by kernel_rfl) (fun l=>by kernel_rfl) (fun l=>by kernel_rfl) (fun l=>by kernel_rfl) (by kernel_rfl)
theorem m3n:CsOk Tryz.prog cs_l64:=csA m3l Bl64_ok
def m3v (l:List (Ty.den TNd)):Bool:=decide ((0+l.length)*16≤140737488355328)
def op_l65:OpA:=h3e TNd m3v
def Bl65:FBox:=mkF [.imm TNd 0] [] [] [(.own 0,[.arr TNd 0])] op_l65
def cs_l65:FuncId→Option a0q:=a0s 65 ((BSh.of Bl65).k op_l65) cs_l64
theorem Bl65_ok:a0v Tryz.prog 65 (a0j Bl65):=
 h3f (P:=Tryz.prog) (cl:=clMd true Tryz.prog h0b) (c1t v0d hmix true) hmix (T:=85) (e:=141) (n:=400) (fn:=Tryz.f65) (by kernel_rfl) (by kernel_rfl) (by kernel_rfl) (by kernel_rfl) TNd m3v
  (fun l=>[.imm TNd l,.undef,.nilsl,.undef,.undef,.undef,.undef,.undef]) (fun l=>[.imm TNd l,.undef,.nilsl,.imm TNd l,.bool true,.undef,.undef,.undef])
  (fun l=>[.imm TNd l,.undef,.own 0 1,.imm TNd l,.bool false,.own 0 0,.imm TNd l,.own 0 1]) (fun l=>⟨[.arr TNd 1 l],[0]⟩) (fun l=>.own 0 1)
  (fun l=>by kernel_rfl) (fun l=>rfl) (fun l=>rfl) (fun l=>by kernel_rfl) (fun l=>by kernel_rfl) (fun l=>by kernel_rfl) (fun l=>by kernel_rfl) (fun l=>by kernel_rfl) (fun l=>by kernel_rfl) (by kernel_rfl)
theorem m3f:CsOk Tryz.prog cs_l65:=csA m3n Bl65_ok
def l3f (l:List (Ty.den TC)):Bool:=decide ((0+l.length)*16≤140737488355328)
def m3o:OpA:=h3e TC l3f
def Bl109:FBox:=mkF [.imm TC 0] [] [] [(.own 0,[.arr TC 0])] m3o
def m3e:FuncId→Option a0q:=a0s 109 ((BSh.of Bl109).k m3o) cs_l65
theorem n3h:a0v Tryz.prog 109 (a0j Bl109):=
 h3f (P:=Tryz.prog) (cl:=clMd true Tryz.prog h0b) (c1t v0d hmix true) hmix (T:=43) (e:=83) (n:=400) (fn:=Tryz.f109) (by kernel_rfl) (by kernel_rfl) (by kernel_rfl) (by kernel_rfl) TC l3f
  (fun l=>[.imm TC l,.undef,.nilsl,.undef,.undef,.undef,.undef,.undef]) (fun l=>[.imm TC l,.undef,.nilsl,.imm TC l,.bool true,.undef,.undef,.undef])
  (fun l=>[.imm TC l,.undef,.own 0 1,.imm TC l,.bool false,.own 0 0,.imm TC l,.own 0 1]) (fun l=>⟨[.arr TC 1 l],[0]⟩) (fun l=>.own 0 1)
  (fun l=>by kernel_rfl) (fun l=>rfl) (fun l=>rfl) (fun l=>by kernel_rfl) (fun l=>by kernel_rfl) (fun l=>by kernel_rfl) (fun l=>by kernel_rfl) (fun l=>by kernel_rfl) (fun l=>by kernel_rfl) (by kernel_rfl)
theorem l3z:CsOk Tryz.prog m3e:=csA m3f n3h
abbrev TLy:Ty:=.pair (.sl TS) (.pair (.sl TPt) (.pair (.sl TPt) (.sl TRt)))
def csF0:FuncId→Option a0q:=l3n 27 TLy (csIn true Tryz.prog 27 m3e)
def csF:FuncId→Option a0q:=l3n 29 TLy (csIn true Tryz.prog 29 csF0)
theorem csF0_ok:CsOk Tryz.prog csF0:=j3u (m3m l3z n3e true)
theorem csF_ok:CsOk Tryz.prog csF:=j3u (m3m csF0_ok n3e true)
abbrev w9B:Code:=a0r Tryz.prog 9
def w9v0:SV:=(.agg [(.imm .str [⟨#[97]⟩,⟨#[98]⟩,⟨#[99]⟩,⟨#[100]⟩,⟨#[101]⟩,⟨#[102]⟩]),(.imm (.pair .str (.int .i64)) [(⟨#[80]⟩,(1:Int)),(⟨#[81]⟩,(3:Int))]),(.imm (.pair .str (.int .i64)) [(⟨#[71]⟩,(0:Int)),(⟨#[72]⟩,(4:Int)),(⟨#[75]⟩,(5:Int))]),(.imm (.pair .str (.pair (.int .i64) (.pair (.sl (.int .i64)) (.pair (.sl (.pair (.int .i64) .bool)) (.pair (.sl (.int .i64)) (.sl (.pair (.int .i64) .bool))))))) [(⟨#[82,49]⟩,((0:Int),([(1:Int),(2:Int)],([((0:Int),false),((1:Int),false)],([(3:Int)],[]))))),(⟨#[82,50]⟩,((0:Int),([(1:Int),(5:Int)],([((0:Int),true)],([],[]))))),(⟨#[82,51]⟩,((1:Int),([(3:Int),(2:Int)],([((1:Int),false)],([],[]))))),(⟨#[82,52]⟩,((2:Int),([(4:Int)],([],([],[((1:Int),true)]))))),(⟨#[82,53]⟩,((1:Int),([(3:Int)],([((1:Int),true)],([(5:Int)],[])))))])])
def w9v1:SV:=(.tup [(.ptr 5 0),(.int .i64 (0:Int))])
def w9v2:SV:=(.tup [(.ptr 10 0),(.int .i64 (0:Int))])
def w9v3:SV:=(.agg [(.int .u64 (0:Int)),(.int .u64 (0:Int)),(.int .u64 (0:Int)),(.arrd (.int .u8) 64 [(0:Int),(0:Int),(0:Int),(0:Int),(0:Int),(0:Int),(0:Int),(0:Int),(0:Int),(0:Int),(0:Int),(0:Int),(0:Int),(0:Int),(0:Int),(0:Int),(0:Int),(0:Int),(0:Int),(0:Int),(0:Int),(0:Int),(0:Int),(0:Int),(0:Int),(0:Int),(0:Int),(0:Int),(0:Int),(0:Int),(0:Int),(0:Int),(0:Int),(0:Int),(0:Int),(0:Int),(0:Int),(0:Int),(0:Int),(0:Int),(0:Int),(0:Int),(0:Int),(0:Int),(0:Int),(0:Int),(0:Int),(0:Int),(0:Int),(0:Int),(0:Int),(0:Int),(0:Int),(0:Int),(0:Int),(0:Int),(0:Int),(0:Int),(0:Int),(0:Int),(0:Int),(0:Int),(0:Int),(0:Int)]),(.int .u32 (0:Int))])
def w9v4:SV:=(.tup [(.agg [(.int .u64 (0:Int)),(.int .u64 (0:Int)),(.int .u64 (0:Int)),(.arrd (.int .u8) 64 [(0:Int),(0:Int),(0:Int),(0:Int),(0:Int),(0:Int),(0:Int),(0:Int),(0:Int),(0:Int),(0:Int),(0:Int),(0:Int),(0:Int),(0:Int),(0:Int),(0:Int),(0:Int),(0:Int),(0:Int),(0:Int),(0:Int),(0:Int),(0:Int),(0:Int),(0:Int),(0:Int),(0:Int),(0:Int),(0:Int),(0:Int),(0:Int),(0:Int),(0:Int),(0:Int),(0:Int),(0:Int),(0:Int),(0:Int),(0:Int),(0:Int),(0:Int),(0:Int),(0:Int),(0:Int),(0:Int),(0:Int),(0:Int),(0:Int),(0:Int),(0:Int),(0:Int),(0:Int),(0:Int),(0:Int),(0:Int),(0:Int),(0:Int),(0:Int),(0:Int),(0:Int),(0:Int),(0:Int),(0:Int)]),(.int .u32 (0:Int))]),(.agg [(.int .i64 (0:Int)),(.int .i64 (0:Int)),(.int .u64 (0:Int)),(.int .u32 (0:Int))]),(.int .i64 (4:Int))])
def w9v5:SV:=(.agg [(.int .i64 (0:Int)),(.int .i64 (0:Int)),(.int .u64 (0:Int)),(.int .u32 (0:Int))])
def w9v6:SV:=(.agg [(.int .u8 (1:Int)),(.int .i64 (0:Int))])
def w9v7:SV:=(.agg [(.int .u64 (0:Int)),(.int .u32 (3:Int)),(.int .u32 (0:Int)),(.own 19 0)])
def w9v8:SV:=(.tup [(.agg [(.int .i64 (0:Int)),(.int .i64 (1:Int)),(.int .u64 (0:Int)),(.int .u32 (3:Int)),(.int .u32 (0:Int)),(.own 21 0)]),(.int .i64 (0:Int))])
def w9v9:SV:=(.agg [(.int .i64 (0:Int)),(.int .i64 (1:Int)),(.int .u64 (0:Int)),(.int .u32 (3:Int)),(.int .u32 (0:Int)),(.own 21 0)])
def n3q:SV:=(.tup [(.agg [(.int .i64 (1:Int)),(.int .i64 (1:Int)),(.int .u64 (0:Int)),(.int .u32 (3:Int)),(.int .u32 (0:Int)),(.own 25 0)]),(.int .i64 (0:Int))])
def n3s:SV:=(.agg [(.int .i64 (1:Int)),(.int .i64 (1:Int)),(.int .u64 (0:Int)),(.int .u32 (3:Int)),(.int .u32 (0:Int)),(.own 25 0)])
def o3s:SV:=(.iface 47 (.agg [(.int .i64 (1:Int)),(.int .i64 (1:Int)),(.int .u64 (0:Int)),(.int .u32 (3:Int)),(.int .u32 (0:Int)),(.own 25 0)]))
def o3q:SV:=(.iface 47 (.agg [(.int .i64 (0:Int)),(.int .i64 (1:Int)),(.int .u64 (0:Int)),(.int .u32 (3:Int)),(.int .u32 (0:Int)),(.own 21 0)]))
def n3o:SV:=(.tup [(.agg [(.int .u64 (1:Int)),(.int .u64 (0:Int)),(.int .u64 (0:Int)),(.arrd (.int .u8) 64 [(0:Int),(0:Int),(0:Int),(0:Int),(0:Int),(0:Int),(0:Int),(0:Int),(0:Int),(0:Int),(0:Int),(0:Int),(0:Int),(0:Int),(0:Int),(0:Int),(0:Int),(0:Int),(0:Int),(0:Int),(0:Int),(0:Int),(0:Int),(0:Int),(0:Int),(0:Int),(0:Int),(0:Int),(0:Int),(0:Int),(0:Int),(0:Int),(0:Int),(0:Int),(0:Int),(0:Int),(0:Int),(0:Int),(0:Int),(0:Int),(0:Int),(0:Int),(0:Int),(0:Int),(0:Int),(0:Int),(0:Int),(0:Int),(0:Int),(0:Int),(0:Int),(0:Int),(0:Int),(0:Int),(0:Int),(0:Int),(0:Int),(0:Int),(0:Int),(0:Int),(0:Int),(0:Int),(0:Int),(0:Int)]),(.int .u32 (0:Int))]),(.agg [(.int .i64 (1:Int)),(.int .i64 (1:Int)),(.int .u64 (1:Int)),(.int .u32 (0:Int))]),(.int .i64 (0:Int))])
def n3p:SV:=(.agg [(.int .u64 (1:Int)),(.int .u64 (0:Int)),(.int .u64 (0:Int)),(.arrd (.int .u8) 64 [(0:Int),(0:Int),(0:Int),(0:Int),(0:Int),(0:Int),(0:Int),(0:Int),(0:Int),(0:Int),(0:Int),(0:Int),(0:Int),(0:Int),(0:Int),(0:Int),(0:Int),(0:Int),(0:Int),(0:Int),(0:Int),(0:Int),(0:Int),(0:Int),(0:Int),(0:Int),(0:Int),(0:Int),(0:Int),(0:Int),(0:Int),(0:Int),(0:Int),(0:Int),(0:Int),(0:Int),(0:Int),(0:Int),(0:Int),(0:Int),(0:Int),(0:Int),(0:Int),(0:Int),(0:Int),(0:Int),(0:Int),(0:Int),(0:Int),(0:Int),(0:Int),(0:Int),(0:Int),(0:Int),(0:Int),(0:Int),(0:Int),(0:Int),(0:Int),(0:Int),(0:Int),(0:Int),(0:Int),(0:Int)]),(.int .u32 (0:Int))])
def n3r:SV:=(.agg [(.int .i64 (1:Int)),(.int .i64 (1:Int)),(.int .u64 (1:Int)),(.int .u32 (0:Int))])
def n3z:SV:=(.imm .str [⟨#[97]⟩,⟨#[98]⟩,⟨#[99]⟩,⟨#[100]⟩,⟨#[101]⟩,⟨#[102]⟩])
def o3d:SV:=(.imm (.pair .str (.int .i64)) [(⟨#[80]⟩,(1:Int)),(⟨#[81]⟩,(3:Int))])
def o3a:SV:=(.imm (.pair .str (.int .i64)) [(⟨#[71]⟩,(0:Int)),(⟨#[72]⟩,(4:Int)),(⟨#[75]⟩,(5:Int))])
def o3c:SV:=(.imm (.pair .str (.pair (.int .i64) (.pair (.sl (.int .i64)) (.pair (.sl (.pair (.int .i64) .bool)) (.pair (.sl (.int .i64)) (.sl (.pair (.int .i64) .bool))))))) [(⟨#[82,49]⟩,((0:Int),([(1:Int),(2:Int)],([((0:Int),false),((1:Int),false)],([(3:Int)],[]))))),(⟨#[82,50]⟩,((0:Int),([(1:Int),(5:Int)],([((0:Int),true)],([],[]))))),(⟨#[82,51]⟩,((1:Int),([(3:Int),(2:Int)],([((1:Int),false)],([],[]))))),(⟨#[82,52]⟩,((2:Int),([(4:Int)],([],([],[((1:Int),true)]))))),(⟨#[82,53]⟩,((1:Int),([(3:Int)],([((1:Int),true)],([(5:Int)],[])))))])
def n3w:SV:=(.arrd (.int .u8) 64 [(0:Int),(0:Int),(0:Int),(0:Int),(0:Int),(0:Int),(0:Int),(0:Int),(0:Int),(0:Int),(0:Int),(0:Int),(0:Int),(0:Int),(0:Int),(0:Int),(0:Int),(0:Int),(0:Int),(0:Int),(0:Int),(0:Int),(0:Int),(0:Int),(0:Int),(0:Int),(0:Int),(0:Int),(0:Int),(0:Int),(0:Int),(0:Int),(0:Int),(0:Int),(0:Int),(0:Int),(0:Int),(0:Int),(0:Int),(0:Int),(0:Int),(0:Int),(0:Int),(0:Int),(0:Int),(0:Int),(0:Int),(0:Int),(0:Int),(0:Int),(0:Int),(0:Int),(0:Int),(0:Int),(0:Int),(0:Int),(0:Int),(0:Int),(0:Int),(0:Int),(0:Int),(0:Int),(0:Int),(0:Int)])
def w9p0:Blk:=(.frz .str 0 [⟨#[97]⟩,⟨#[98]⟩,⟨#[99]⟩,⟨#[100]⟩,⟨#[101]⟩,⟨#[102]⟩])
def w9p1:Blk:=(.frz (.pair .str (.int .i64)) 0 [(⟨#[80]⟩,(1:Int)),(⟨#[81]⟩,(3:Int))])
def w9p2:Blk:=(.frz (.pair .str (.int .i64)) 0 [(⟨#[71]⟩,(0:Int)),(⟨#[72]⟩,(4:Int)),(⟨#[75]⟩,(5:Int))])
def w9p3:Blk:=(.frz (.pair .str (.pair (.int .i64) (.pair (.sl (.int .i64)) (.pair (.sl (.pair (.int .i64) .bool)) (.pair (.sl (.int .i64)) (.sl (.pair (.int .i64) .bool))))))) 0 [(⟨#[82,49]⟩,((0:Int),([(1:Int),(2:Int)],([((0:Int),false),((1:Int),false)],([(3:Int)],[]))))),(⟨#[82,50]⟩,((0:Int),([(1:Int),(5:Int)],([((0:Int),true)],([],[]))))),(⟨#[82,51]⟩,((1:Int),([(3:Int),(2:Int)],([((1:Int),false)],([],[]))))),(⟨#[82,52]⟩,((2:Int),([(4:Int)],([],([],[((1:Int),true)]))))),(⟨#[82,53]⟩,((1:Int),([(3:Int)],([((1:Int),true)],([(5:Int)],[])))))])
def w9p4:Blk:=(.cells [n3z,o3d,o3a,o3c])
def w9p5:Blk:=(.cells [(.int .i64 (0:Int)),n3z,o3d,o3a,o3c,(.iface 62 (.ptr 6 0)),(.int .u64 (0:Int)),(.int .u64 (0:Int)),(.int .u64 (0:Int)),n3w,(.int .u32 (0:Int)),(.int .i64 (0:Int)),(.int .i64 (0:Int)),(.ptr 7 0),(.bool false),.nilptr])
def w9p6:Blk:=(.cells [(.own 8 0),(.own 9 0)])
def w9p7:Blk:=(.cells [(.int .i64 (0:Int)),(.int .i64 (0:Int)),.nilptr,.nilptr,.nilptr,(.bool false)])
def w9p8:Blk:=(.arr (.int .i64) 0 [(1:Int),(3:Int)])
def w9p9:Blk:=(.arr (.pair (.int .i64) (.pair (.int .i64) (.pair (.sl (.int .i64)) (.pair (.sl (.pair (.int .i64) .bool)) (.sl (.int .i64)))))) 0 [((0:Int),((1:Int),([(1:Int),(2:Int),(3:Int)],([((0:Int),false),((1:Int),false)],[(1:Int),(2:Int),(3:Int),(4:Int)])))),((0:Int),((1:Int),([(1:Int),(5:Int)],([((0:Int),true)],[(0:Int),(4:Int)])))),((4:Int),((3:Int),([(3:Int),(2:Int)],([((1:Int),false)],[(0:Int),(3:Int),(4:Int)])))),((5:Int),((4:Int),([(4:Int)],([((1:Int),true)],[(0:Int),(2:Int)])))),((4:Int),((3:Int),([(3:Int),(5:Int)],([((1:Int),true)],[(0:Int),(1:Int),(2:Int)]))))])
def n3u:Blk:=(.cells [(.own 13 0),(.own 14 0),(.int .u64 (31:Int)),(.int .u32 (3:Int)),(.int .u64 (63:Int))])
def n3n:Blk:=(.cells [(.int .i64 (1:Int)),(.int .i64 (0:Int)),.nilptr,.nilptr,.nilptr,(.bool false)])
def n3v:Blk:=(.arr (.pair (.int .u64) (.pair (.int .u64) (.pair (.int .u64) (.pair (.int .u32) (.pair (.int .u32) (.int .u64)))))) 0 [((14:Int),((2:Int),((1:Int),((3:Int),((0:Int),(30:Int)))))),((34:Int),((2:Int),((1:Int),((0:Int),((1:Int),(17:Int)))))),((12:Int),((8:Int),((16:Int),((2:Int),((0:Int),(25:Int)))))),((16:Int),((16:Int),((32:Int),((0:Int),((2:Int),(5:Int)))))),((40:Int),((8:Int),((16:Int),((0:Int),((2:Int),(7:Int))))))])
def n3t:Blk:=(.arr (.int .u64) 0 [(2:Int),(8:Int)])
def o3m:Blk:=(.cells [(.int .i64 (0:Int)),n3z,o3d,o3a,o3c,(.iface 62 (.ptr 6 0)),(.int .u64 (0:Int)),(.int .u64 (0:Int)),(.int .u64 (0:Int)),n3w,(.int .u32 (0:Int)),(.int .i64 (1:Int)),(.int .i64 (0:Int)),(.ptr 15 0),(.bool false),.nilptr])
def o3g:Blk:=(.cells [(.int .i64 (1:Int)),n3z,o3d,o3a,o3c,(.iface 142 (.ptr 11 0)),(.int .u64 (0:Int)),(.int .u64 (0:Int)),(.int .u64 (0:Int)),n3w,(.int .u32 (0:Int)),(.int .i64 (1:Int)),(.int .i64 (0:Int)),(.ptr 16 0),(.bool false),.nilptr])
def n3y:Blk:=(.cells [(.int .u64 (0:Int)),(.int .u64 (0:Int)),(.int .u64 (0:Int)),n3w,(.int .u32 (0:Int))])
def n3x:Blk:=(.cells [(.int .i64 (0:Int)),(.int .i64 (0:Int)),(.int .u64 (0:Int)),(.int .u32 (0:Int))])
def n3m:Blk:=(.arr (.pair (.int .u8) (.int .i64)) 0 [((1:Int),(0:Int))])
def o3b:Blk:=(.cells [(.int .u64 (0:Int)),(.int .u32 (3:Int)),(.int .u32 (0:Int)),(.own 19 0)])
def w9p20:Blk:=(.cells [(.int .i64 (0:Int)),(.int .i64 (1:Int)),(.ptr 22 0),.nilptr,.nilptr,(.bool false)])
def o3h:Blk:=(.cells [(.int .i64 (0:Int)),(.int .i64 (1:Int)),(.int .u64 (0:Int)),(.int .u32 (3:Int)),(.int .u32 (0:Int)),(.own 23 0)])
def o3e:Blk:=(.cells [(.int .i64 (0:Int)),(.int .i64 (1:Int)),(.int .u64 (0:Int)),(.int .u32 (3:Int)),(.int .u32 (0:Int)),(.own 21 0)])
def o3l:Blk:=(.cells [(.int .i64 (1:Int)),(.int .i64 (1:Int)),(.int .u64 (0:Int)),(.int .u32 (3:Int)),(.int .u32 (0:Int)),(.own 27 0)])
def o3k:Blk:=(.cells [(.int .i64 (1:Int)),(.int .i64 (1:Int)),(.int .u64 (0:Int)),(.int .u32 (3:Int)),(.int .u32 (0:Int)),(.own 25 0)])
def o3p:Blk:=(.cells [(.int .i64 (0:Int)),(.int .i64 (1:Int)),(.ptr 22 0),(.ptr 29 0),.nilptr,(.bool false)])
def o3r:Blk:=(.cells [(.int .i64 (1:Int)),(.int .i64 (1:Int)),(.ptr 26 0),(.ptr 31 0),.nilptr,(.bool false)])
def o3n:Blk:=(.cells [(.int .i64 (1:Int)),(.int .i64 (1:Int)),(.int .u64 (0:Int)),(.int .u32 (3:Int)),(.int .u32 (0:Int)),(.own 30 0)])
def o3o:Blk:=(.cells [(.int .i64 (0:Int)),(.int .i64 (1:Int)),(.int .u64 (0:Int)),(.int .u32 (3:Int)),(.int .u32 (0:Int)),(.own 32 0)])
def w9p29:Blk:=(.cells [(.int .i64 (0:Int)),n3z,o3d,o3a,o3c,(.iface 62 (.ptr 6 0)),(.int .u64 (0:Int)),(.int .u64 (0:Int)),(.int .u64 (0:Int)),n3w,(.int .u32 (0:Int)),(.int .i64 (1:Int)),(.int .i64 (0:Int)),(.ptr 15 0),(.bool false),(.ptr 33 0)])
def o3j:Blk:=(.cells [(.int .u64 (1:Int)),(.int .u64 (0:Int)),(.int .u64 (0:Int)),n3w,(.int .u32 (0:Int)),(.int .i64 (1:Int)),(.int .i64 (1:Int)),(.int .u64 (1:Int)),(.int .u32 (0:Int))])
def o3f:Blk:=(.cells [(.int .u64 (1:Int)),(.int .u64 (0:Int)),(.int .u64 (0:Int)),n3w,(.int .u32 (0:Int))])
def o3i:Blk:=(.cells [(.int .i64 (1:Int)),(.int .i64 (1:Int)),(.int .u64 (1:Int)),(.int .u32 (0:Int))])
def w9p33:Blk:=(.cells [(.int .i64 (1:Int)),n3z,o3d,o3a,o3c,(.iface 142 (.ptr 11 0)),(.int .u64 (0:Int)),(.int .u64 (0:Int)),(.int .u64 (0:Int)),n3w,(.int .u32 (0:Int)),(.int .i64 (1:Int)),(.int .i64 (0:Int)),(.ptr 16 0),(.bool false),(.ptr 36 0)])
def w9p34:Blk:=(.cells [(.int .i64 (0:Int)),n3z,o3d,o3a,o3c,(.iface 62 (.ptr 6 0)),(.int .u64 (1:Int)),(.int .u64 (0:Int)),(.int .u64 (0:Int)),n3w,(.int .u32 (0:Int)),(.int .i64 (1:Int)),(.int .i64 (0:Int)),(.ptr 15 0),(.bool true),.nilptr])
def w9u (n:Nat)(l:List SV):List SV:=List.replicate n .undef++l
def w9t0:List SV:=w9u 139 ([])
def w9s0:SW:=SW.mk [] []
def w9t1:List SV:=[(.bool false)]++(w9u 138 ([]))
def w9s1:SW:=SW.mk [] []
theorem w9g0:h3d csF 3999 (h3j (tlC w9B 0)) w9t0 w9s0 (.normal,w9t1,w9s1):=by unfold h3d;kernel_rfl
def w9t2:List SV:=[(.bool false),(.ptr 4 0)]++(w9u 20 ([w9v0]++(w9u 116 ([]))))
def w9s2:SW:=SW.mk [w9p0,w9p1,w9p2,w9p3,w9p4] [4,3,2,1,0]
theorem w9g1:h3d csF 3998 (h3j (tlC w9B 1)) w9t1 w9s1 (.normal,w9t2,w9s2):=by unfold h3d;kernel_rfl
def w9t3:List SV:=[(.bool false),(.ptr 4 0),(.ptr 5 0),(.int .i64 (0:Int))]++(w9u 18 ([w9v0,w9v1,w9v0,w9v1,(.ptr 5 0),(.int .i64 (0:Int))]++(w9u 111 ([]))))
def w9s3:SW:=SW.mk [w9p0,w9p1,w9p2,w9p3,w9p4,w9p5,w9p6,w9p7,w9p8,w9p9] [4,3,2,1,0]
theorem w9g2:h3d csF 3997 (h3j (tlC w9B 2)) w9t2 w9s2 (.normal,w9t3,w9s3):=by unfold h3d;kernel_rfl
def w9t4:List SV:=[(.bool false),(.ptr 4 0),(.ptr 5 0),(.int .i64 (0:Int)),(.ptr 10 0),(.int .i64 (0:Int))]++(w9u 16 ([w9v0,w9v1,w9v0,w9v1,(.ptr 5 0),(.int .i64 (0:Int)),w9v2,w9v0,w9v2,(.ptr 10 0),(.int .i64 (0:Int))]++(w9u 106 ([]))))
def w9s4:SW:=SW.mk [w9p0,w9p1,w9p2,w9p3,w9p4,w9p5,w9p6,w9p7,w9p8,w9p9,(.cells [(.int .i64 (1:Int)),n3z,o3d,o3a,o3c,(.iface 142 (.ptr 11 0)),(.int .u64 (0:Int)),(.int .u64 (0:Int)),(.int .u64 (0:Int)),n3w,(.int .u32 (0:Int)),(.int .i64 (0:Int)),(.int .i64 (0:Int)),(.ptr 12 0),(.bool false),.nilptr]),n3u,n3n,n3v,n3t] [4,3,2,1,0]
theorem w9g3:h3d csF 3996 (h3j (tlC w9B 3)) w9t3 w9s3 (.normal,w9t4,w9s4):=by unfold h3d;kernel_rfl
def w9t5:List SV:=[(.bool false),(.ptr 4 0),(.ptr 5 0),(.int .i64 (0:Int)),(.ptr 10 0),(.int .i64 (0:Int))]++(w9u 16 ([w9v0,w9v1,w9v0,w9v1,(.ptr 5 0),(.int .i64 (0:Int)),w9v2,w9v0,w9v2,(.ptr 10 0),(.int .i64 (0:Int)),(.int .i64 (0:Int)),(.bool false),(.bool false),(.int .i64 (0:Int)),(.bool false),(.bool false),(.bool false),(.ptr 5 0),w9v3,(.int .i64 (0:Int)),(.bool false),(.bool false),(.bool false),(.ptr 10 0),w9v3,(.int .i64 (0:Int)),(.bool false),(.bool false)]++(w9u 88 ([]))))
def w9s5:SW:=SW.mk [w9p0,w9p1,w9p2,w9p3,w9p4,o3m,w9p6,w9p7,w9p8,w9p9,o3g,n3u,n3n,n3v,n3t,w9p7,n3n] [10,5,4,3,2,1,0]
theorem w9g4:h3d csF 3995 (h3j (tlC w9B 4)) w9t4 w9s4 (.normal,w9t5,w9s5):=by unfold h3d;kernel_rfl
def w9t6:List SV:=[(.bool false),(.ptr 4 0),(.ptr 5 0),(.int .i64 (0:Int)),(.ptr 10 0),(.int .i64 (0:Int)),(.ptr 17 0),(.ptr 18 0),(.int .i64 (4:Int))]++(w9u 13 ([w9v0,w9v1,w9v0,w9v1,(.ptr 5 0),(.int .i64 (0:Int)),w9v2,w9v0,w9v2,(.ptr 10 0),(.int .i64 (0:Int)),(.int .i64 (0:Int)),(.bool false),(.bool false),(.int .i64 (0:Int)),(.bool false),(.bool false),(.bool false),(.ptr 5 0),w9v3,(.int .i64 (0:Int)),(.bool false),(.bool false),(.bool false),(.ptr 10 0),w9v3,(.int .i64 (0:Int)),(.bool false),(.bool false),w9v4,(.ptr 5 0),w9v4,w9v3,w9v5,(.int .i64 (4:Int))]++(w9u 82 ([]))))
def w9s6:SW:=SW.mk [w9p0,w9p1,w9p2,w9p3,w9p4,o3m,w9p6,w9p7,w9p8,w9p9,o3g,n3u,n3n,n3v,n3t,w9p7,n3n,n3y,n3x] [18,17,10,5,4,3,2,1,0]
theorem w9g5:h3d csF 3994 (h3j (tlC w9B 5)) w9t5 w9s5 (.normal,w9t6,w9s6):=by unfold h3d;kernel_rfl
def w9t7:List SV:=[(.bool false),(.ptr 4 0),(.ptr 5 0),(.int .i64 (0:Int)),(.ptr 10 0),(.int .i64 (0:Int)),(.ptr 17 0),(.ptr 18 0),(.int .i64 (4:Int)),(.ptr 20 0)]++(w9u 12 ([w9v0,w9v1,w9v0,w9v1,(.ptr 5 0),(.int .i64 (0:Int)),w9v2,w9v0,w9v2,(.ptr 10 0),(.int .i64 (0:Int)),(.int .i64 (0:Int)),(.bool false),(.bool false),(.int .i64 (0:Int)),(.bool false),(.bool false),(.bool false),(.ptr 5 0),w9v3,(.int .i64 (0:Int)),(.bool false),(.bool false),(.bool false),(.ptr 10 0),w9v3,(.int .i64 (0:Int)),(.bool false),(.bool false),w9v4,(.ptr 5 0),w9v4,w9v3,w9v5,(.int .i64 (4:Int)),w9v6,(.own 19 0),w9v7]++(w9u 79 ([]))))
def w9s7:SW:=SW.mk [w9p0,w9p1,w9p2,w9p3,w9p4,o3m,w9p6,w9p7,w9p8,w9p9,o3g,n3u,n3n,n3v,n3t,w9p7,n3n,n3y,n3x,n3m,o3b] [20,18,17,10,5,4,3,2,1,0]
theorem w9g6:h3d csF 3993 (h3j (tlC w9B 6)) w9t6 w9s6 (.normal,w9t7,w9s7):=by unfold h3d;kernel_rfl
def w9t8:List SV:=[(.bool false),(.ptr 4 0),(.ptr 5 0),(.int .i64 (0:Int)),(.ptr 10 0),(.int .i64 (0:Int)),(.ptr 17 0),(.ptr 18 0),(.int .i64 (4:Int)),(.ptr 20 0),(.ptr 24 0),(.int .i64 (0:Int))]++(w9u 10 ([w9v0,w9v1,w9v0,w9v1,(.ptr 5 0),(.int .i64 (0:Int)),w9v2,w9v0,w9v2,(.ptr 10 0),(.int .i64 (0:Int)),(.int .i64 (0:Int)),(.bool false),(.bool false),(.int .i64 (0:Int)),(.bool false),(.bool false),(.bool false),(.ptr 5 0),w9v3,(.int .i64 (0:Int)),(.bool false),(.bool false),(.bool false),(.ptr 10 0),w9v3,(.int .i64 (0:Int)),(.bool false),(.bool false),w9v4,(.ptr 5 0),w9v4,w9v3,w9v5,(.int .i64 (4:Int)),w9v6,(.own 19 0),w9v7,w9v8,(.ptr 5 0),w9v7,w9v8,w9v9,(.int .i64 (0:Int))]++(w9u 73 ([]))))
def w9s8:SW:=SW.mk [w9p0,w9p1,w9p2,w9p3,w9p4,o3m,w9p6,w9p7,w9p8,w9p9,o3g,n3u,n3n,n3v,n3t,w9p20,n3n,n3y,n3x,n3m,o3b,n3m,o3h,n3m,o3e] [24,15,20,18,17,10,5,4,3,2,1,0]
theorem w9g7:h3d csF 3992 (h3j (tlC w9B 7)) w9t7 w9s7 (.normal,w9t8,w9s8):=by unfold h3d;kernel_rfl
def w9t9:List SV:=[(.bool false),(.ptr 4 0),(.ptr 5 0),(.int .i64 (0:Int)),(.ptr 10 0),(.int .i64 (0:Int)),(.ptr 17 0),(.ptr 18 0),(.int .i64 (4:Int)),(.ptr 20 0),(.ptr 24 0),(.int .i64 (0:Int)),(.ptr 28 0),(.int .i64 (0:Int))]++(w9u 8 ([w9v0,w9v1,w9v0,w9v1,(.ptr 5 0),(.int .i64 (0:Int)),w9v2,w9v0,w9v2,(.ptr 10 0),(.int .i64 (0:Int)),(.int .i64 (0:Int)),(.bool false),(.bool false),(.int .i64 (0:Int)),(.bool false),(.bool false),(.bool false),(.ptr 5 0),w9v3,(.int .i64 (0:Int)),(.bool false),(.bool false),(.bool false),(.ptr 10 0),w9v3,(.int .i64 (0:Int)),(.bool false),(.bool false),w9v4,(.ptr 5 0),w9v4,w9v3,w9v5,(.int .i64 (4:Int)),w9v6,(.own 19 0),w9v7,w9v8,(.ptr 5 0),w9v7,w9v8,w9v9,(.int .i64 (0:Int)),n3q,(.ptr 10 0),w9v7,n3q,n3s,(.int .i64 (0:Int))]++(w9u 67 ([]))))
def w9s9:SW:=SW.mk [w9p0,w9p1,w9p2,w9p3,w9p4,o3m,w9p6,w9p7,w9p8,w9p9,o3g,n3u,n3n,n3v,n3t,w9p20,(.cells [(.int .i64 (1:Int)),(.int .i64 (1:Int)),(.ptr 26 0),.nilptr,.nilptr,(.bool false)]),n3y,n3x,n3m,o3b,n3m,o3h,n3m,o3e,n3m,o3l,n3m,o3k] [28,16,24,15,20,18,17,10,5,4,3,2,1,0]
theorem w9g8:h3d csF 3991 (h3j (tlC w9B 8)) w9t8 w9s8 (.normal,w9t9,w9s9):=by unfold h3d;kernel_rfl
def w9t10:List SV:=[(.bool false),(.ptr 4 0),(.ptr 5 0),(.int .i64 (0:Int)),(.ptr 10 0),(.int .i64 (0:Int)),(.ptr 17 0),(.ptr 18 0),(.int .i64 (4:Int)),(.ptr 20 0),(.ptr 24 0),(.int .i64 (0:Int)),(.ptr 28 0),(.int .i64 (0:Int)),(.int .i64 (0:Int)),(.int .i64 (0:Int))]++(w9u 6 ([w9v0,w9v1,w9v0,w9v1,(.ptr 5 0),(.int .i64 (0:Int)),w9v2,w9v0,w9v2,(.ptr 10 0),(.int .i64 (0:Int)),(.int .i64 (0:Int)),(.bool false),(.bool false),(.int .i64 (0:Int)),(.bool false),(.bool false),(.bool false),(.ptr 5 0),w9v3,(.int .i64 (0:Int)),(.bool false),(.bool false),(.bool false),(.ptr 10 0),w9v3,(.int .i64 (0:Int)),(.bool false),(.bool false),w9v4,(.ptr 5 0),w9v4,w9v3,w9v5,(.int .i64 (4:Int)),w9v6,(.own 19 0),w9v7,w9v8,(.ptr 5 0),w9v7,w9v8,w9v9,(.int .i64 (0:Int)),n3q,(.ptr 10 0),w9v7,n3q,n3s,(.int .i64 (0:Int)),(.ptr 5 0),n3s,o3s,(.int .i64 (0:Int)),(.ptr 10 0),w9v9,o3q,(.int .i64 (0:Int))]++(w9u 59 ([]))))
def w9s10:SW:=SW.mk [w9p0,w9p1,w9p2,w9p3,w9p4,o3m,w9p6,w9p7,w9p8,w9p9,o3g,n3u,n3n,n3v,n3t,o3p,o3r,n3y,n3x,n3m,o3b,n3m,o3h,n3m,o3e,n3m,o3l,n3m,o3k,o3n,n3m,o3o,n3m] [28,16,24,15,20,18,17,10,5,4,3,2,1,0]
theorem w9g9:h3d csF 3990 (h3j (tlC w9B 9)) w9t9 w9s9 (.normal,w9t10,w9s10):=by unfold h3d;kernel_rfl
def w9t11:List SV:=[(.bool false),(.ptr 4 0),(.ptr 5 0),(.int .i64 (0:Int)),(.ptr 10 0),(.int .i64 (0:Int)),(.ptr 17 0),(.ptr 18 0),(.int .i64 (4:Int)),(.ptr 20 0),(.ptr 24 0),(.int .i64 (0:Int)),(.ptr 28 0),(.int .i64 (0:Int)),(.int .i64 (0:Int)),(.int .i64 (0:Int)),(.ptr 34 0),(.ptr 35 0),(.int .i64 (0:Int)),.undef,.undef,.undef,w9v0,w9v1,w9v0,w9v1,(.ptr 5 0),(.int .i64 (0:Int)),w9v2,w9v0,w9v2,(.ptr 10 0),(.int .i64 (0:Int)),(.int .i64 (0:Int)),(.bool false),(.bool false),(.int .i64 (0:Int)),(.bool false),(.bool false),(.bool false),(.ptr 5 0),w9v3,(.int .i64 (0:Int)),(.bool false),(.bool false),(.bool false),(.ptr 10 0),w9v3,(.int .i64 (0:Int)),(.bool false),(.bool false),w9v4,(.ptr 5 0),w9v4,w9v3,w9v5,(.int .i64 (4:Int)),w9v6,(.own 19 0),w9v7,w9v8,(.ptr 5 0),w9v7,w9v8,w9v9,(.int .i64 (0:Int)),n3q,(.ptr 10 0),w9v7,n3q,n3s,(.int .i64 (0:Int)),(.ptr 5 0),n3s,o3s,(.int .i64 (0:Int)),(.ptr 10 0),w9v9,o3q,(.int .i64 (0:Int)),n3o,(.ptr 5 0),n3o,n3p,n3r,(.int .i64 (0:Int))]++(w9u 53 ([]))
def w9s11:SW:=SW.mk [w9p0,w9p1,w9p2,w9p3,w9p4,w9p29,w9p6,w9p7,w9p8,w9p9,o3g,n3u,n3n,n3v,n3t,o3p,o3r,n3y,n3x,n3m,o3b,n3m,o3h,n3m,o3e,n3m,o3l,n3m,o3k,o3n,n3m,o3o,n3m,o3j,o3f,o3i] [35,34,28,16,24,15,20,18,17,10,5,4,3,2,1,0]
theorem w9g10:h3d csF 3989 (h3j (tlC w9B 10)) w9t10 w9s10 (.normal,w9t11,w9s11):=by unfold h3d;kernel_rfl
def w9t12:List SV:=[(.bool false),(.ptr 4 0),(.ptr 5 0),(.int .i64 (0:Int)),(.ptr 10 0),(.int .i64 (0:Int)),(.ptr 17 0),(.ptr 18 0),(.int .i64 (4:Int)),(.ptr 20 0),(.ptr 24 0),(.int .i64 (0:Int)),(.ptr 28 0),(.int .i64 (0:Int)),(.int .i64 (0:Int)),(.int .i64 (0:Int)),(.ptr 34 0),(.ptr 35 0),(.int .i64 (0:Int)),(.ptr 37 0),(.ptr 38 0),(.int .i64 (0:Int)),w9v0,w9v1,w9v0,w9v1,(.ptr 5 0),(.int .i64 (0:Int)),w9v2,w9v0,w9v2,(.ptr 10 0),(.int .i64 (0:Int)),(.int .i64 (0:Int)),(.bool false),(.bool false),(.int .i64 (0:Int)),(.bool false),(.bool false),(.bool false),(.ptr 5 0),w9v3,(.int .i64 (0:Int)),(.bool false),(.bool false),(.bool false),(.ptr 10 0),w9v3,(.int .i64 (0:Int)),(.bool false),(.bool false),w9v4,(.ptr 5 0),w9v4,w9v3,w9v5,(.int .i64 (4:Int)),w9v6,(.own 19 0),w9v7,w9v8,(.ptr 5 0),w9v7,w9v8,w9v9,(.int .i64 (0:Int)),n3q,(.ptr 10 0),w9v7,n3q,n3s,(.int .i64 (0:Int)),(.ptr 5 0),n3s,o3s,(.int .i64 (0:Int)),(.ptr 10 0),w9v9,o3q,(.int .i64 (0:Int)),n3o,(.ptr 5 0),n3o,n3p,n3r,(.int .i64 (0:Int)),n3o,(.ptr 10 0),n3o,n3p,n3r,(.int .i64 (0:Int))]++(w9u 47 ([]))
def w9s12:SW:=SW.mk [w9p0,w9p1,w9p2,w9p3,w9p4,w9p29,w9p6,w9p7,w9p8,w9p9,w9p33,n3u,n3n,n3v,n3t,o3p,o3r,n3y,n3x,n3m,o3b,n3m,o3h,n3m,o3e,n3m,o3l,n3m,o3k,o3n,n3m,o3o,n3m,o3j,o3f,o3i,o3j,o3f,o3i] [38,37,35,34,28,16,24,15,20,18,17,10,5,4,3,2,1,0]
theorem w9g11:h3d csF 3988 (h3j (tlC w9B 11)) w9t11 w9s11 (.normal,w9t12,w9s12):=by unfold h3d;kernel_rfl
def w9t13:List SV:=[(.bool true),(.ptr 4 0),(.ptr 5 0),(.int .i64 (0:Int)),(.ptr 10 0),(.int .i64 (0:Int)),(.ptr 17 0),(.ptr 18 0),(.int .i64 (4:Int)),(.ptr 20 0),(.ptr 24 0),(.int .i64 (0:Int)),(.ptr 28 0),(.int .i64 (0:Int)),(.int .i64 (0:Int)),(.int .i64 (0:Int)),(.ptr 34 0),(.ptr 35 0),(.int .i64 (0:Int)),(.ptr 37 0),(.ptr 38 0),(.int .i64 (0:Int)),w9v0,w9v1,w9v0,w9v1,(.ptr 5 0),(.int .i64 (0:Int)),w9v2,w9v0,w9v2,(.ptr 10 0),(.int .i64 (0:Int)),(.int .i64 (0:Int)),(.bool false),(.bool false),(.int .i64 (0:Int)),(.bool false),(.bool false),(.bool false),(.ptr 5 0),w9v3,(.int .i64 (0:Int)),(.bool false),(.bool false),(.bool false),(.ptr 10 0),w9v3,(.int .i64 (0:Int)),(.bool false),(.bool false),w9v4,(.ptr 5 0),w9v4,w9v3,w9v5,(.int .i64 (4:Int)),w9v6,(.own 19 0),w9v7,w9v8,(.ptr 5 0),w9v7,w9v8,w9v9,(.int .i64 (0:Int)),n3q,(.ptr 10 0),w9v7,n3q,n3s,(.int .i64 (0:Int)),(.ptr 5 0),n3s,o3s,(.int .i64 (0:Int)),(.ptr 10 0),w9v9,o3q,(.int .i64 (0:Int)),n3o,(.ptr 5 0),n3o,n3p,n3r,(.int .i64 (0:Int)),n3o,(.ptr 10 0),n3o,n3p,n3r,(.int .i64 (0:Int)),(.int .i64 (4:Int)),(.bool true),(.bool true),(.int .i64 (0:Int)),(.bool true),(.bool true),(.bool true),(.int .i64 (0:Int)),(.bool true),(.bool true),(.bool true),n3p,n3p,(.bool true),(.bool true),(.bool true),n3r,n3r,(.bool true),(.bool true),(.bool true),(.ptr 35 0),(.int .i64 (1:Int)),(.bool true),(.bool true),(.bool true),(.ptr 35 1),(.int .i64 (1:Int)),(.bool true),(.bool true),(.bool true),(.ptr 35 2),(.ptr 35 2),(.int .u64 (1:Int)),(.bool true),(.bool true),(.bool true),(.ptr 5 0),(.int .i64 (0:Int)),(.bool true),(.bool true),(.bool true),(.ptr 5 0),n3p,(.int .u64 (1:Int)),(.bool true),(.bool true)]
def w9s13:SW:=SW.mk [w9p0,w9p1,w9p2,w9p3,w9p4,w9p34,w9p6,w9p7,w9p8,w9p9,w9p33,n3u,n3n,n3v,n3t,o3p,o3r,n3y,n3x,n3m,o3b,n3m,o3h,n3m,o3e,n3m,o3l,n3m,o3k,o3n,n3m,o3o,n3m,o3j,o3f,o3i,o3j,o3f,o3i] [38,37,35,34,28,16,24,15,20,18,17,10,5,4,3,2,1,0]
theorem w9g12:h3d csF 3987 (h3j (tlC w9B 12)) w9t12 w9s12 (.normal,w9t13,w9s13):=by unfold h3d;kernel_rfl
def h3k:List SV:=[(.bool true),(.ptr 4 0),(.ptr 5 0),(.int .i64 (0:Int)),(.ptr 10 0),(.int .i64 (0:Int)),(.ptr 17 0),(.ptr 18 0),(.int .i64 (4:Int)),(.ptr 20 0),(.ptr 24 0),(.int .i64 (0:Int)),(.ptr 28 0),(.int .i64 (0:Int)),(.int .i64 (0:Int)),(.int .i64 (0:Int)),(.ptr 34 0),(.ptr 35 0),(.int .i64 (0:Int)),(.ptr 37 0),(.ptr 38 0),(.int .i64 (0:Int)),w9v0,w9v1,w9v0,w9v1,(.ptr 5 0),(.int .i64 (0:Int)),w9v2,w9v0,w9v2,(.ptr 10 0),(.int .i64 (0:Int)),(.int .i64 (0:Int)),(.bool false),(.bool false),(.int .i64 (0:Int)),(.bool false),(.bool false),(.bool false),(.ptr 5 0),w9v3,(.int .i64 (0:Int)),(.bool false),(.bool false),(.bool false),(.ptr 10 0),w9v3,(.int .i64 (0:Int)),(.bool false),(.bool false),w9v4,(.ptr 5 0),w9v4,w9v3,w9v5,(.int .i64 (4:Int)),w9v6,(.own 19 0),w9v7,w9v8,(.ptr 5 0),w9v7,w9v8,w9v9,(.int .i64 (0:Int)),n3q,(.ptr 10 0),w9v7,n3q,n3s,(.int .i64 (0:Int)),(.ptr 5 0),n3s,o3s,(.int .i64 (0:Int)),(.ptr 10 0),w9v9,o3q,(.int .i64 (0:Int)),n3o,(.ptr 5 0),n3o,n3p,n3r,(.int .i64 (0:Int)),n3o,(.ptr 10 0),n3o,n3p,n3r,(.int .i64 (0:Int)),(.int .i64 (4:Int)),(.bool true),(.bool true),(.int .i64 (0:Int)),(.bool true),(.bool true),(.bool true),(.int .i64 (0:Int)),(.bool true),(.bool true),(.bool true),n3p,n3p,(.bool true),(.bool true),(.bool true),n3r,n3r,(.bool true),(.bool true),(.bool true),(.ptr 35 0),(.int .i64 (1:Int)),(.bool true),(.bool true),(.bool true),(.ptr 35 1),(.int .i64 (1:Int)),(.bool true),(.bool true),(.bool true),(.ptr 35 2),(.ptr 35 2),(.int .u64 (1:Int)),(.bool true),(.bool true),(.bool true),(.ptr 5 0),(.int .i64 (0:Int)),(.bool true),(.bool true),(.bool true),(.ptr 5 0),n3p,(.int .u64 (1:Int)),(.bool true),(.bool true)]
def h3i:SW:=SW.mk [w9p0,w9p1,w9p2,w9p3,w9p4,w9p34,w9p6,w9p7,w9p8,w9p9,w9p33,n3u,n3n,n3v,n3t,o3p,o3r,n3y,n3x,n3m,o3b,n3m,o3h,n3m,o3e,n3m,o3l,n3m,o3k,o3n,n3m,o3o,n3m,o3j,o3f,o3i,o3j,o3f,o3i] [38,37,35,34,28,16,24,15,20,18,17,10,5,4,3,2,1,0]
theorem w9g13:h3d csF 3987 (tlC w9B 13) w9t13 w9s13 (.ret,h3k,h3i):=by unfold h3d;kernel_rfl
theorem w9c13:(evCodeF true Tryz.prog (clMd true Tryz.prog csF) ls0 3987 (tlC w9B 13) w9t13 w9s13).sel=some (.ret,h3k,h3i):=w9g13.go
theorem w9c12:(evCodeF true Tryz.prog (clMd true Tryz.prog csF) ls0 3988 (tlC w9B 12) w9t12 w9s12).sel=some (.ret,h3k,h3i):=h3c (by kernel_rfl) w9g12.go w9c13
theorem w9c11:(evCodeF true Tryz.prog (clMd true Tryz.prog csF) ls0 3989 (tlC w9B 11) w9t11 w9s11).sel=some (.ret,h3k,h3i):=h3c (by kernel_rfl) w9g11.go w9c12
theorem w9c10:(evCodeF true Tryz.prog (clMd true Tryz.prog csF) ls0 3990 (tlC w9B 10) w9t10 w9s10).sel=some (.ret,h3k,h3i):=h3c (by kernel_rfl) w9g10.go w9c11
theorem w9c9:(evCodeF true Tryz.prog (clMd true Tryz.prog csF) ls0 3991 (tlC w9B 9) w9t9 w9s9).sel=some (.ret,h3k,h3i):=h3c (by kernel_rfl) w9g9.go w9c10
theorem w9c8:(evCodeF true Tryz.prog (clMd true Tryz.prog csF) ls0 3992 (tlC w9B 8) w9t8 w9s8).sel=some (.ret,h3k,h3i):=h3c (by kernel_rfl) w9g8.go w9c9
theorem w9c7:(evCodeF true Tryz.prog (clMd true Tryz.prog csF) ls0 3993 (tlC w9B 7) w9t7 w9s7).sel=some (.ret,h3k,h3i):=h3c (by kernel_rfl) w9g7.go w9c8
theorem w9c6:(evCodeF true Tryz.prog (clMd true Tryz.prog csF) ls0 3994 (tlC w9B 6) w9t6 w9s6).sel=some (.ret,h3k,h3i):=h3c (by kernel_rfl) w9g6.go w9c7
theorem w9c5:(evCodeF true Tryz.prog (clMd true Tryz.prog csF) ls0 3995 (tlC w9B 5) w9t5 w9s5).sel=some (.ret,h3k,h3i):=h3c (by kernel_rfl) w9g5.go w9c6
theorem w9c4:(evCodeF true Tryz.prog (clMd true Tryz.prog csF) ls0 3996 (tlC w9B 4) w9t4 w9s4).sel=some (.ret,h3k,h3i):=h3c (by kernel_rfl) w9g4.go w9c5
theorem w9c3:(evCodeF true Tryz.prog (clMd true Tryz.prog csF) ls0 3997 (tlC w9B 3) w9t3 w9s3).sel=some (.ret,h3k,h3i):=h3c (by kernel_rfl) w9g3.go w9c4
theorem w9c2:(evCodeF true Tryz.prog (clMd true Tryz.prog csF) ls0 3998 (tlC w9B 2) w9t2 w9s2).sel=some (.ret,h3k,h3i):=h3c (by kernel_rfl) w9g2.go w9c3
theorem w9c1:(evCodeF true Tryz.prog (clMd true Tryz.prog csF) ls0 3999 (tlC w9B 1) w9t1 w9s1).sel=some (.ret,h3k,h3i):=h3c (by kernel_rfl) w9g1.go w9c2
theorem w9c0:(evCodeF true Tryz.prog (clMd true Tryz.prog csF) ls0 4000 (tlC w9B 0) w9t0 w9s0).sel=some (.ret,h3k,h3i):=h3c (by kernel_rfl) w9g0.go w9c1
theorem w9b:(evBodyF true Tryz.prog (clMd true Tryz.prog csF) ls0 4000 9 [] ⟨[],[]⟩).sel=some (.bool true,h3i):=n3l (c:=w9B) (by kernel_rfl:Tryz.prog.funcs[9]? =some Tryz.f9) (by kernel_rfl) (by kernel_rfl) w9c0 (by kernel_rfl)
def op_w9:List Dat→Option (Nat×List Dat):=fun _=>some (0,[.b true])
def Bw9:FBox:=mkF [] [] [] [(.bool 0,[])] op_w9
theorem Bw9_ok:a0v Tryz.prog 9 (a0j Bw9):=a0p (cs:=csF) csF_ok n3e true (ls:=ls0) (LsOk.none _ _ _) fun env y h=>by
 cases h
 show((evBodyF true Tryz.prog (clMd true Tryz.prog csF) ls0 4000 9 [] ⟨[],[]⟩).bind fun x=>o2a 0 [] [(.bool 0,[])] x.1 x.2).sel=_
 rw[Tree.sel_bind,w9b]
 kernel_rfl
abbrev TB:Ty:=.int .u8
abbrev TCmd:Ty:=.pair (.int .u8) (.int .i64)
def stV (h:Nat):PV:=.agg [.int .u64 h,.int .u64 (h+1),.int .u64 (h+2),.arrd TB 64 (h+3),.int .u32 (h+4)]
def inV (h:Nat):PV:=.agg [.int .u64 h,.int .u32 (h+1),.int .u32 (h+2),.imm TCmd (h+3)]
def cs_w9A:FuncId→Option a0q:=e1c 9 [(BSh.of Bw9).k op_w9] h0b
theorem m3d:CsOk Tryz.prog cs_w9A:=csB (d1h _) Bw9_ok
def ev_W5:List Dat→Tree Bool:=evW cs_w9A 5 ls0 [stV 0,inV 5]
theorem W5_law (env:List Dat)(h:(ev_W5 env).sel=some true){w:World}{aa:Array Value}(ha:LRel R0 (b0k w) (instL [stV 0,inV 5] env) aa):
  Calls Tryz.prog 5 aa w fun e w'=>e=.returned (.bool true)∧Below w.heap.size w w':=evW_law m3d (LsOk.none _ _ _) env h ha
theorem n3g {n0 n1 n2:Int}{l3:List (Ty.den TB)}{n4 n5 n6 n7:Int}{l8:List (Ty.den TCmd)}{b9:Bool}(h0:(op_w9 [])=(some (0,[.b b9]))):(ev_W5 [.n n0,.n n1,.n n2,.l TB l3,.n n4,.n n5,.n n6,.n n7,.l TCmd l8]).sel=some (b9):=sP (1::1::1::1::1::1::1::1::1::1::1::1::1::1::1::1::1::1::1::1::1::1::1::1::1::1::1::1::1::1::1::1::1::1::1::1::1::1::1::1::1::1::1::1::1::1::1::1::1::1::1::1::1::1::1::1::1::1::1::1::1::1::1::1::1::1::1::1::[])<|sA h0<|sP [1,1]<|sL
end Go.Proofs.YtplcpifjiodhcaaGreat.Vx
end
