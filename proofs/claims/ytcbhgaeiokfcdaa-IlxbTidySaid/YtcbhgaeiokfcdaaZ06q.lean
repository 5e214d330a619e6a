import Derived.RangeFuncNested
import Derived.RangeFuncBound
import Derived.RangeFuncCalls
import Derived.RangeFuncLeaves
import Derived.RangeFuncBox
import Derived.Shelf.Abstract
import Derived.Shelf.RegionOpen
import Derived.WalkKit
import Derived.OwnWalkIn
import Derived.TacticsInMore
import Derived.LoopNIn
import Derived.LoopIn
import Derived.Maps.AppendAt
import Derived.Test.YtcbhgaeiokfcdaaProg
import Derived.Test.YtcbhgaeiokfcdaaVxIm
import Derived.Test.YtcbhgaeiokfcdaaVxLk
import Derived.Test.YtcbhgaeiokfcdaaVxLaw
import Derived.Test.YtcbhgaeiokfcdaaZ06n
import Derived.Test.YtcbhgaeiokfcdaaZ06m
import Derived.KernelRfl
import Derived.Test.YtcbhgaeiokfcdaaZ06j
import Derived.Test.YtcbhgaeiokfcdaaVxAsk
namespace Go.Proofs
open Go.RowKit Go.Shelf
attribute [local go_sem] Oper.semAt_some
namespace Ytcbhgaeiokfcdaa.Bt
def enc (k:Nat):Value:=.int .i64 (k:Int)
def hasI (x n:Int):Bool:=bits BinOp.and IntKind.u64 (x/2^n.toNat) 1==1
def bitsTo (x:Int):Nat→List Nat
 |0=>[]
 |k+1=>bitsTo x k++(bif hasI x k then[k]else[])
theorem w1t (x:Int):bitsTo x 0=[]:=rfl
theorem bitsTo_hit {x:Int}{k:Nat}(h:hasI x k=true):bitsTo x (k+1)=bitsTo x k++[k]:=by simp[bitsTo,h]
theorem bitsTo_miss {x:Int}{k:Nat}(h:hasI x k=false):bitsTo x (k+1)=bitsTo x k:=by simp[bitsTo,h]
theorem o1b (x:Int): ∀k,(bitsTo x k).length≤k
 |0=>Nat.le_refl _
 |k+1=>by have:=o1b x k;cases h:hasI x k<;>simp[bitsTo,h]<;>omega
theorem n2x (x:Int): ∀{k m:Nat},k≤m→bitsTo x k<+:bitsTo x m:=by
  intro k m h
  induction m with
  |zero=>have:k=0:=by omega
         subst this;exact List.prefix_refl _
  |succ m ih=>
   rcases Nat.lt_or_ge m k with q|q
   · have:k=m+1:=by omega
     subst this;exact List.prefix_refl _
   · exact(ih q).trans ⟨_,rfl⟩
attribute [local irreducible] bitsTo
set_option maxRecDepth 100000 in
set_option maxHeartbeats 1000000 in
theorem fits_in (F:Fence)(n:Nat)(h30:F.fn 106)(hro:F.round=none)(k:Int)(w:World):
  CallsIn F n Try.prog 106 #[.int .i64 k] w fun e w'=>e=.returned (.bool (decide (0≤k)&&decide (k<64)))∧w'=w:=by
 refine callsIn_of_wp Try.func106 rfl h30 ?_ hro
 simp only[Try.ntmps106,List.size_toArray,List.length_cons,List.length_nil,Nat.reduceAdd,Nat.reduceSub,Array.replicate_succ,Array.replicate_zero,List.push_toArray,List.append_toArray,List.nil_append,List.cons_append]
 gi_wp2
 all_goals go_ret
 all_goals (simp_all<;>omega)
set_option maxRecDepth 100000 in
set_option maxHeartbeats 1000000 in
theorem has_in (F:Fence)(n:Nat)(h10:F.fn 94)(h30:F.fn 106)(hro:F.round=none)(hn:1≤n)(x k:Int)(h0:0≤k)(h1:k<64)(w:World):
  CallsIn F n Try.prog 94 #[.int .u64 x,.int .i64 k] w fun e w'=>e=.returned (.bool (hasI x k))∧w'=w:=by
 refine callsIn_of_wp Try.func94 rfl h10 ?_ hro
 simp only[Try.ntmps94,List.size_toArray,List.length_cons,List.length_nil,Nat.reduceAdd,Nat.reduceSub,Array.replicate_succ,Array.replicate_zero,List.push_toArray,List.append_toArray,List.nil_append,List.cons_append]
 gi_wp2_with (gi_at_call 106;refine(fits_in F (n-1) h30 hro _ _).mono ?_;rintro e w' ⟨rfl,rfl⟩)
 all_goals go_ret
 all_goals (simp_all [hasI])
set_option maxRecDepth 100000 in
set_option maxHeartbeats 1000000 in
theorem r2j (F:Fence)(n:Nat)(h32:F.fn 48)(hro:F.round=none)(x:Int)(w:World):
  CallsIn F n Try.prog 48 #[.int .u64 x] w fun e w'=>e=.returned (.func (.func 93) #[] #[.pointer (some ⟨w.heap.size,0,none⟩)])∧w'=w.alloc (.cells #[.int .u64 x] 28):=by
 refine callsIn_of_wp Try.func48 rfl h32 ?_ hro
 simp only[Try.ntmps48,List.size_toArray,List.length_cons,List.length_nil,Nat.reduceAdd,Nat.reduceSub,Array.replicate_succ,Array.replicate_zero,List.push_toArray,List.append_toArray,List.nil_append,List.cons_append]
 gi_wp2
 go_ret
 exact⟨rfl,rfl⟩
def KB (Bx:Nat)(W W':World):Prop:= ∀v,Boxed W Bx 28 v→Boxed W' Bx 28 v
theorem KB_t {Bx:Nat}{A B C:World}(h:KB Bx A B)(k:KB Bx B C):KB Bx A C:=fun v hv=>k v (h v hv)
theorem KB_b {Bx:Nat}(W:World)(l:Nat)(o o':Obj)(hl:W.heap[l]? =some o)(ho:o.isCells=false):KB Bx W (W.putObj l o'):=fun v hv=>by
 have hne:Bx≠l:=by
  rintro rfl
  have:W.heap[Bx]? =some (.cells #[v] 28 (0,0)):=hv
  rw[this]at hl;cases hl;cases ho
 exact(World.putObj_heap_other hne).trans hv
set_option maxRecDepth 100000 in
set_option maxHeartbeats 2000000 in
theorem f3s (F:Fence)(n:Nat)(h34:F.fn 93)(h10:F.fn 94)(h30:F.fn 106)(hro:F.round=none)(hn:2≤n)(l Bx:Nat)(x:Int)(J Jx:List Nat→World→Prop)
  (hY: ∀pre (k:Nat) W,J pre W→pre.length<64→YieldAt F (n-1) Try.prog l #[.int .i64 (k:Int)] W fun e W'=>
   (e=.returned (.bool true)∧J (pre++[k]) W'∧KB Bx W W')∨(e=.returned (.bool false)∧Jx (pre++[k]) W'))
  (W:World) (hBB:Boxed W Bx 28 (.int .u64 x)) (h0:J [] W):
  CallsIn F n Try.prog 93 #[.func (.yield l) #[] #[],.pointer (some ⟨Bx,0,none⟩)] W fun e W'=>(∃v,e=.returned v)∧
   ((∃ys,ys=bitsTo x 64∧J ys W')∨(∃pre,(∃k:Nat,k<64∧hasI x k=true∧pre=bitsTo x k++[k])∧Jx pre W')):=by
 have h1:1≤n:=by omega
 have hB:=hBB.cell
 refine callsIn_of_wp Try.func93 rfl h34 ?_ hro
 simp only[Try.ntmps93,List.size_toArray,List.length_cons,List.length_nil,Nat.reduceAdd,Nat.reduceSub,Array.replicate_succ,Array.replicate_zero,List.push_toArray,List.append_toArray,List.nil_append,List.cons_append]
 gi_wp2
 gi_loopw [4] (fun i wr=> ∃k:Nat,k≤64∧i=.int .i64 k∧J (bitsTo x k) wr∧Boxed wr Bx 28 (.int .u64 x))
  (fun i _=>64-(intOf i).toNat)
 case atStart=>exact⟨0,Nat.zero_le _,rfl,by rw[w1t];exact h0,hBB⟩
 case round=>
  obtain⟨k,hk,rfl,hJs,hcB⟩:=hrel
  have hc:=hcB.cell
  have hlen:=o1b x k
  rcases Nat.lt_or_ge k 64 with hk64|hk64
  ·obtain⟨fn,tmps,assign,body,hy,hR⟩:=hY (bitsTo x k) k wr hJs (by omega)
   cases hb:hasI x k with
   |true=>
    gi_wp2_with (gi_at_call 94;refine(has_in F (n-1) h10 h30 hro (by omega) x k (by omega) (by omega) _).mono ?_;rintro e w' ⟨rfl,rfl⟩;rw[hb])
    refine hR.mono ?_
    rintro e W3 (⟨rfl,hJ3,hk3⟩|⟨rfl,hJx3⟩)
    ·have hc3:=hk3 _ hcB
     gi_wp2
     go_roundw
     case rel=>exact⟨k+1,by omega,by simp,by rw[bitsTo_hit hb];exact hJ3,hc3⟩
     case measure=>simp only[intOf];omega
    ·gi_wp2
     refine bodyPost_ret (results_none rfl _ _ _) rfl ?_
     exact⟨⟨_,rfl⟩,.inr ⟨_,⟨k,hk64,hb,rfl⟩,hJx3⟩⟩
   |false=>
    gi_wp2_with (gi_at_call 94;refine(has_in F (n-1) h10 h30 hro (by omega) x k (by omega) (by omega) _).mono ?_;rintro e w' ⟨rfl,rfl⟩;rw[hb])
    refine⟨fun _ h=>(by cases h),?_⟩
    gi_wp2
    go_roundw
    case rel=>exact⟨k+1,by omega,by simp,by rw[bitsTo_miss hb];exact hJs,hcB⟩
    case measure=>simp only[intOf];omega
  ·gi_wp2
   go_end0
   obtain rfl:k=64:=by omega
   exact⟨⟨_,rfl⟩,.inl ⟨_,rfl,hJs⟩⟩
theorem h1b (F:Fence)(n:Nat)(h34:F.fn 93)(h10:F.fn 94)(h30:F.fn 106)(hro:F.round=none)(hn:2≤n)(Bx:Nat)(x:Int)(w:World)(hc:Boxed w Bx 28 (.int .u64 x)):
  SeqStopsK F n Try.prog 93 #[.pointer (some ⟨Bx,0,none⟩)] (fun x:Nat=> #[Value.int .i64 (x:Int)]) (KB Bx) (fun ys=>ys=bitsTo x 64) (fun pre=> ∃k:Nat,k<64∧hasI x k=true∧pre=bitsTo x k++[k]) 64 w:=fun l J Jx W hW _ _ hY h0=>
 f3s F n h34 h10 h30 hro hn l Bx x J Jx hY W ((hW.block Bx hc.lt).trans hc) h0
theorem KB_app {W w1:World}{Bx B n0 k:Nat}{v v':Value}{xs:List Value}{tmp:Obj}(hrow:W.ownsRow n0 3 1 v k xs)(hgrow:(W.alloc tmp).grownBy w1 v.ownBlock)(hne:Bx≠B):KB Bx W (w1.setCell ⟨B,0,none⟩ v'):=by
 intro u hu
 have h1:some Bx≠v.ownBlock:=hu.not_row (by decide) hrow
 exact((hu.alloc tmp).kept hgrow h1).other hne _
theorem A_info3:(Try.prog.info? 3).map (fun i=>(i.zero,i.size,i.bytes))=some (some (.int .i64 0),1,8):=by kernel_rfl
set_option maxRecDepth 100000 in
set_option maxHeartbeats 2000000 in
theorem List_in (F:Fence)(n:Nat)(h19:F.fn 20)(h32:F.fn 48)(h34:F.fn 93)(h10:F.fn 94)(h30:F.fn 106)(hro:F.round=none)(hn:4≤n)(x:Int)(w:World):
  CallsIn F n Try.prog 20 #[.int .u64 x] w fun e W'=> ∃v,e=.returned v∧W'.ownsRow w.heap.size 3 1 v (bitsTo x 64).length ((bitsTo x 64).map enc)∧Below w.heap.size w W':=by
 have h1:1≤n:=by omega
 obtain⟨i0,hi,hz0,hz1,hz2⟩:=info_parts A_info3
 refine callsIn_of_wp_marks Try.func20 rfl h19 ?_ hro
 simp only[Try.ntmps20,List.size_toArray,List.length_cons,List.length_nil,Nat.reduceAdd,Nat.reduceSub,Array.replicate_succ,Array.replicate_zero,List.push_toArray,List.append_toArray,List.nil_append,List.cons_append]
 gi_wp2_with (gi_at_call 48;refine(r2j F (n-1) h32 hro _ _).mono ?_;rintro e w' ⟨rfl,rfl⟩)
 have bO:=Boxed.new w 60 (.slice none 0 0)
 have bN:=Boxed.new (w.alloc (.cells #[.slice none 0 0] 60)) 28 (.int .u64 x)
 rw[World.size_alloc]at bN
 have hB0:Below w.heap.size w ((w.alloc (.cells #[.slice none 0 0] 60)).alloc (.cells #[.int .u64 x] 28)):=((Below.refl _ w).alloc (Nat.le_refl _) _).alloc (by simp) _
 refine wpIn_rangeFunc_ownG hro h1 (gf:=93) (lb:= #[.pointer (some ⟨w.heap.size+1,0,none⟩)]) rfl h34 (enters_of Try.func93 (by kernel_rfl) rfl)
  (h1b F (n-1) h34 h10 h30 hro (by omega) (w.heap.size+1) x _ bN) KB_t (fun W l o o' _ hl ho _=>KB_b W l o o' hl ho) (Below.refl _ _) (fun _=>rfl)
  (fun pre W=>(∃v,Boxed W w.heap.size 60 v∧W.ownsRow w.heap.size 3 1 v pre.length (pre.map enc)∧True)∧Below w.heap.size w W)
  (fun _ _ _=>False)
  (OwnFrom.and (Own.from (holdsRow_own w.heap.size w.heap.size 60 3 1 (fun(pre:List Nat)=>pre.length) (fun pre=>pre.map enc) (fun pre v=>True)) _) (ownFrom_below (Nat.le_refl _) (by simp;omega)))
  (fun _ _ _ _ _ hs _ _=>hs)
  ⟨⟨_,bO.alloc _,World.ownsRow_nil _ _ _ _,trivial⟩,hB0⟩
  (fun k=>{tmps:= #[.int .u64 x,undef,.slice none 0 0,.pointer (some ⟨w.heap.size,0,none⟩),.int .i64 (k:Int),.int .u64 x,.func (.func 93) #[] #[.pointer (some ⟨w.heap.size+1,0,none⟩)],.int .i64 (k:Int),undef,undef,undef,undef,undef],defers:=[]}) ?assign ?body ?done ?stop
 case assign=>
  intro l x W K hK
  gi_wp2
  exact hK
 case body=>
  rintro l pre k W ⟨⟨v,hv,hrow,-⟩,hB⟩ hlt
  have hc:=hv.cell
  have hmx:64≤maxLen:=by decide
  gi_wp2_with (gi_at_builtin;refine wpListIn_append_own _ rfl _ _ 60 rfl w.heap.size 3 i0 (.int .i64 0) 1 8 Try.underlying60 hi hz0 hz1 hz2 rfl (by decide) _ _ _ rfl (hrow.alloc _) ⟨W.heap.size,0,none⟩ 1 1 [.int .i64 (k:Int)] rfl rfl (cell_one_new _ _ _) (by simp[Value.oneCell']) (by omega) (by omega) (by have:=hB.size;simp;omega) ?_;intro v' w1 hown' hgrow _;obtain⟨g',cap',rfl⟩:=ownsRow_succ hown';obtain⟨hv1,hv2,hr2,hk2,hb2⟩:=hv.appended (by decide) hrow hB.size (Nat.le_refl _) hown' hgrow;have hc1:=hv1.cell;have hf1:=hv1.frozen)
  have hgrow2:(W.alloc (.cells #[.int .i64 (k:Int)] 3)).grownBy w1 v.ownBlock:=hgrow
  exact⟨hk2.from _,KB_app hrow hgrow2 (by omega),⟨_,hv2,by simpa [enc]using hr2,trivial⟩,hB.trans hb2⟩
 case done=>
  rintro D ys W hD he ⟨⟨v,hv,hrow,-⟩,hB⟩ hK
  rw[he]at hrow
  have hc:=hv.cell
  gi_wp2
  refine⟨by simp,.inl ⟨_,_,rfl,run_takeDeferred hK,?_⟩⟩
  exact⟨_,results_tmp rfl _ _ _,v,rfl,ownsRow_putObj hrow _ hK rfl,hB.trans (belowK_b (w:=w) (Nat.le_refl _) W D _ _ (by simp at hD;omega) hK rfl rfl)⟩
 case stop=>
  rintro D c pre W _ _ h _
  exact h.elim
def n3f (l:List Int)(ns:List Nat):Int:=ns.foldl (fun a n=>bits BinOp.or IntKind.u64 a (l.getD n 0)) 0
theorem j2l (l:List Int)(ns:List Nat)(n:Nat):n3f l (ns++[n])=bits BinOp.or IntKind.u64 (n3f l ns) (l.getD n 0):=by simp[n3f]
def anyI (l:List Int)(x:Int):Int:=n3f l ((bitsTo x 64).takeWhile fun n=>decide (n<l.length))
theorem any_all {l:List Int}{x:Int}(h: ∀n∈bitsTo x 64,n<l.length):anyI l x=n3f l (bitsTo x 64):=by
 unfold anyI
 have: ∀(ns:List Nat),(∀n∈ns,n<l.length)→ns.takeWhile (fun n=>decide (n<l.length))=ns:=by
  intro ns
  induction ns with
  |nil=>intro _;rfl
  |cons a ns ih=>intro h;rw[List.takeWhile_cons,if_pos (by simpa using h a (by simp)),ih (fun n hn=>h n (by simp[hn]))]
 rw[this _ h]
theorem g3e {l:List Int}{x:Int}{k:Nat}(hk:k<64)(hb:hasI x k=true)(h: ∀n∈bitsTo x k,n<l.length)(hl:l.length≤k):anyI l x=n3f l (bitsTo x k):=by
 unfold anyI
 obtain⟨r,hr⟩:=n2x x (k:=k+1) (m:=64) (by omega)
 rw[←hr,bitsTo_hit hb,List.append_assoc,List.takeWhile_append_of_pos (fun n hn=>by simpa using h n hn)]
 simp[show¬k<l.length by omega]
def RowAt (w:World)(v:Value)(l:List Int):Prop:= ∃a cap,v=.slice a l.length cap∧ ∀i,i<l.length→ ∃b o,a=some ⟨b,o,none⟩∧b<w.heap.size∧w.cell? ⟨b,o+i,none⟩=some (.int .u64 (l.getD i 0))
set_option maxRecDepth 100000 in
set_option maxHeartbeats 2000000 in
theorem Any_in (F:Fence)(n:Nat)(h28:F.fn 107)(h32:F.fn 48)(h34:F.fn 93)(h10:F.fn 94)(h30:F.fn 106)(hro:F.round=none)(hn:4≤n)(v:Value)(l:List Int)(x:Int)(w:World)(hv:RowAt w v l):
  CallsIn F n Try.prog 107 #[v,.int .u64 x] w fun e W'=>e=.returned (.int .u64 (anyI l x))∧Below w.heap.size w W':=by
 have h1:1≤n:=by omega
 obtain⟨a,cap,rfl,hrow⟩:=hv
 refine callsIn_of_wp_marks Try.func107 rfl h28 ?_ hro
 simp only[Try.ntmps107,List.size_toArray,List.length_cons,List.length_nil,Nat.reduceAdd,Nat.reduceSub,Array.replicate_succ,Array.replicate_zero,List.push_toArray,List.append_toArray,List.nil_append,List.cons_append]
 gi_wp2_with (gi_at_call 48;refine(r2j F (n-1) h32 hro _ _).mono ?_;rintro e w' ⟨rfl,rfl⟩)
 have bL:=Boxed.new w 69 (.slice a l.length cap)
 have bA:=(Boxed.new (w.alloc (.cells #[.slice a l.length cap] 69)) 28 (.int .u64 0))
 rw[World.size_alloc]at bA
 have bN:=Boxed.new ((w.alloc (.cells #[.slice a l.length cap] 69)).alloc (.cells #[.int .u64 0] 28)) 28 (.int .u64 x)
 rw[World.size_alloc,World.size_alloc]at bN
 have hB0:Below w.heap.size w (((w.alloc (.cells #[.slice a l.length cap] 69)).alloc (.cells #[.int .u64 0] 28)).alloc (.cells #[.int .u64 x] 28)):=(((Below.refl _ w).alloc (Nat.le_refl _) _).alloc (by simp) _).alloc (by simp;omega) _
 refine wpIn_rangeFunc_ownG hro h1 (gf:=93) (lb:= #[.pointer (some ⟨w.heap.size+1+1,0,none⟩)]) rfl h34 (enters_of Try.func93 (by kernel_rfl) rfl)
  (h1b F (n-1) h34 h10 h30 hro (by omega) (w.heap.size+1+1) x _ bN) KB_t (fun W l o o' _ hl ho _=>KB_b W l o o' hl ho) (Below.refl _ _) (fun _=>rfl)
  (fun pre W=>(((∀n∈pre,n<l.length)∧W.cell? ⟨w.heap.size,0,none⟩=some (.slice a l.length cap))∧(W.cell? ⟨w.heap.size+1,0,none⟩=some (.int .u64 (n3f l pre))∧W.frozen? ⟨w.heap.size+1,0,none⟩=false))∧Below w.heap.size w W)
  (fun c pre W=>(c=.exit 0∧ ∃(ini:List Nat) (last:Nat),pre=ini++[last]∧(∀n∈ini,n<l.length)∧l.length≤last∧W.cell? ⟨w.heap.size+1,0,none⟩=some (.int .u64 (n3f l ini)))∧Below w.heap.size w W)
  (OwnFrom.and (Own.from (fun s A B row hs hg hr=>⟨⟨hs.1.1,cell_kept hs.1.2 hg hr⟩,cell_kept hs.2.1 hg hr,(frozen_kept hs.2.1 hg hr).trans hs.2.2⟩) _) (ownFrom_below (Nat.le_refl _) (by simp;omega)))
  (fun c=>OwnFrom.and (Own.from (fun s A B row hs hg hr=>by obtain⟨hc,ini,last,e1,e2,e3,e4⟩:=hs;exact⟨hc,ini,last,e1,e2,e3,cell_kept e4 hg hr⟩) _) (ownFrom_below (Nat.le_refl _) (by simp;omega)))
  ⟨⟨⟨by simp,((bL.alloc _).alloc _).cell⟩,(bA.alloc _).cell,(bA.alloc _).frozen⟩,hB0⟩
  (fun k=>{tmps:= #[.slice a l.length cap,.int .u64 x,.pointer (some ⟨w.heap.size,0,none⟩),undef,.int .u64 0,.pointer (some ⟨w.heap.size+1,0,none⟩),.int .i64 (k:Int),.int .u64 x,.func (.func 93) #[] #[.pointer (some ⟨w.heap.size+1+1,0,none⟩)],.int .i64 (k:Int),undef,undef,undef,undef,undef,undef,undef,undef,undef,undef,undef],defers:=[]}) ?assign ?body ?done ?stop
 case assign=>
  intro l x W K hK
  gi_wp2
  exact hK
 case body=>
  rintro l' pre k W ⟨⟨⟨hp,hl⟩,hcr,hfr⟩,hB⟩ _
  rcases Nat.lt_or_ge k l.length with hk|hk
  ·obtain⟨b,o,rfl,hb,hcell⟩:=hrow k hk
   have hc2:W.cell? ⟨b,o+k,none⟩=some (.int .u64 (l.getD k 0)):=(hB.cell (p:=⟨b,o+k,none⟩) hb).trans hcell
   have hbit:n3f l (pre++[k])=bits BinOp.or IntKind.u64 (n3f l pre) l[k]:=by rw[j2l];simp[List.getD_eq_getElem?_getD,hk]
   have hall: ∀n∈pre++[k],n<l.length:=fun n hn=>by
    rcases List.mem_append.1 hn with h|h
    ·exact hp n h
    ·simp at h;omega
   gi_wp2
   gi_region
   all_goals gi_wp2
   all_goals exact⟨((KeepsOthers.setCell W _ _).trans (KeepsOthers.drew _)).from _,(fun u hu=>Boxed.other (B':=w.heap.size+1) hu (by omega) _),⟨⟨hall,(World.cell?_setCell_other W ⟨w.heap.size+1,0,none⟩ ⟨w.heap.size,0,none⟩ _ (fun e=>by have:=congrArg Addr.block e;simp at this)).trans hl⟩,(World.cell?_setCell_same' W ⟨w.heap.size+1,0,none⟩ _ (by rw[hcr];rfl)).trans (by rw[hbit]),(World.frozen?_setCell W ⟨w.heap.size+1,0,none⟩ ⟨w.heap.size+1,0,none⟩ _).trans hfr⟩,(hB.setCell (p:=⟨w.heap.size+1,0,none⟩) (by simp) _).drew⟩
  ·gi_wp2
   all_goals exact⟨KeepsFrom.refl _ _,⟨rfl,pre,k,rfl,hp,hk,hcr⟩,hB⟩
 case done=>
  rintro D ys W hD he ⟨⟨⟨hp,hl⟩,hcr,hfr⟩,hB⟩ hK
  gi_wp2
  refine⟨by simp,.inl ⟨_,_,rfl,run_takeDeferred hK,?_⟩⟩
  exact⟨_,results_tmp rfl _ _ _,by rw[any_all (by rw[←he];exact hp)];rfl,hB.trans (belowK_b (w:=w) (Nat.le_refl _) W D _ _ (by simp at hD;omega) hK rfl rfl)⟩
 case stop=>
  rintro D c pre W hD ⟨k,hk,hb,hpre⟩ ⟨⟨rfl,ini,last,e1,e2,e3,hcr⟩,hB⟩ hK
  have e4:ini=bitsTo x k∧last=k:=by
   have:=e1.symm.trans hpre
   exact⟨(List.append_inj' this rfl).1,by simpa using(List.append_inj' this rfl).2⟩
  obtain⟨rfl,rfl⟩:=e4
  gi_wp2
  refine⟨by simp,.inl ⟨_,_,rfl,run_takeDeferred hK,?_⟩⟩
  exact⟨_,results_tmp rfl _ _ _,by rw[g3e hk hb e2 e3];rfl,hB.trans (belowK_b (w:=w) (Nat.le_refl _) W D _ _ (by simp at hD;omega) hK rfl rfl)⟩
end Ytcbhgaeiokfcdaa.Bt
end Go.Proofs
noncomputable section
namespace Go.Proofs.Ytcbhgaeiokfcdaa.Vx
open Go Go.RowKit
set_option linter.unusedVariables false
set_option linter.unusedSimpArgs false
set_option maxRecDepth 100000
set_option maxHeartbeats 0
def o1n (x:Int):List Int:=(Bt.bitsTo x 64).map fun(k:Nat)=>(k:Int)
def q1y:List Dat→Option (Nat×List Dat)
 |[.n x]=>some (0,[.l TI (o1n x)])
 |_=>none
def h1s:List Dat→Option (Nat×List Dat)
 |[.l t l,.n x]=>match c0m t TU l with
  |some l=>some (0,[.n (Bt.anyI l x)])
  |none=>none
 |_=>none
theorem arg1 {r:RM}{σ:Snap}{k:IntKind}{x:Int}{a:Array Value}(h:LRel r σ [.int k x] a):a= #[.int k x]:=by
 have hs:=h.size
 obtain⟨v,h1,h2⟩:=h.get (i:=0) (v:=.int k x) rfl
 cases h2
 apply Array.ext_getElem?
 intro i
 cases i with
 |zero=>rw[h1];rfl
 |succ i=>rw[Array.getElem?_eq_none (by simp at hs;omega)];simp
theorem arg2 {r:RM}{σ:Snap}{k:IntKind}{x:Int}{p:SV}{a:Array Value}(h:LRel r σ [p,.int k x] a): ∃v,a= #[v,.int k x]∧VRel r σ p v:=by
 have hs:=h.size
 obtain⟨v,h1,h2⟩:=h.get (i:=0) (v:=p) rfl
 obtain⟨v2,h3,h4⟩:=h.get (i:=1) (v:=.int k x) rfl
 cases h4
 refine⟨v,?_,h2⟩
 apply Array.ext_getElem?
 intro i
 match i with
 |0=>rw[h1];rfl
 |1=>rw[h3];rfl
 |i+2=>rw[Array.getElem?_eq_none (by simp at hs;omega)];simp
theorem t2u {r:RM}{σ:Snap}{s:SW}{w:World}(hr:Rel r σ s w){l:List Int}{v:Value}(h:VRel r σ (.imm TU l) v):Bt.RowAt w v l:=by
 cases h with
 |imm _ _ _ himm=>
  have himm': ∃(a:Option Addr) (len cap:Nat),some v=some (.slice a len cap)∧len=l.length∧len≤cap∧ ∀i (h:i<l.length),∃(p:Addr) (c:Array Value),a=some p∧p.spot=none∧σ p.block=some c∧c[p.off+i*1]? =some (.int .u64 l[i]):=himm
  obtain⟨a,len,cap,k1,k2,k3,k4⟩:=himm'
  simp only[Option.some.injEq]at k1
  subst k1 k2
  refine⟨a,cap,rfl,fun i hi=> ?_⟩
  obtain⟨p,c,e1,e2,e3,e4⟩:=k4 i hi
  obtain⟨T,f,e5⟩:=hr.snap _ _ e3
  obtain⟨b,o,sp⟩:=p
  simp only at e2
  subst e2
  refine⟨b,o,e1,(Array.getElem?_eq_some_iff.1 e5).1,?_⟩
  have e6:c[o+i*1]? =some (.int .u64 l[i]):=e4
  rw[Nat.mul_one]at e6
  have e7:l.getD i 0=l[i]:=by simp[List.getD_eq_getElem?_getD,hi]
  rw[e7]
  simp only[World.cell?]
  rw[e5]
  exact e6
theorem a0x.ext {f:FuncId}{args:List PV}{outs:List (PV×List PB)}{op op':List Dat→Option (Nat×List Dat)}(h: ∀env,op' env=op env)(k:a0x Try.prog f (a0i (mkF args [] [] outs op))):a0x Try.prog f (a0i (mkF args [] [] outs op')):=by
 have:op'=op:=funext h
 rw[this];exact k
theorem b19:a0x Try.prog 20 (a0i (mkF [.int .u64 0] [] [] [(.own 0,[.arr (.int .i64) 0])] q1y)):=by
 refine w2s (e:=3) fun env j d he=> ?_
 match env,he with
 |[.n x],he=>
  cases he
  refine⟨rfl,o1n x,rfl,fun r σ w args' hr ha=> ?_⟩
  have:=arg1 (x:=x) ha
  subst this
  refine(callsIn_wide.1 (Bt.List_in Fence.wide 4 trivial trivial trivial trivial trivial rfl (by omega) x w)).mono ?_
  rintro e W' ⟨v,rfl,h1,h2⟩
  refine⟨v,rfl,?_,h2⟩
  have e1:(o1n x).length=(Bt.bitsTo x 64).length:=by simp[o1n]
  have e2:(o1n x).map (Value.int .i64)=(Bt.bitsTo x 64).map Bt.enc:=by simp[o1n,List.map_map];intro a _;rfl
  rw[e1,e2];exact h1
theorem b28:a0x Try.prog 107 (a0i (mkF [.imm TU 0,.int .u64 1] [] [] [(.int .u64 0,[])] h1s)):=by
 refine c3o fun env j d he=> ?_
 match env,he with
 |[.l t l0,.n x],he=>
  have he':(match c0m t TU l0 with|some l=>some (0,[Dat.n (Bt.anyI l x)])|none=>none)=some (j,d):=he
  split at he'
  ·rename_i l hl
   obtain⟨e1,rfl⟩:=a0z hl
   subst e1
   cases he'
   refine⟨rfl,_,rfl,fun r σ w args' hr ha=> ?_⟩
   have hgl:instL [.imm TU 0,.int .u64 1] [Dat.l TU l0,.n x]=[.imm TU l0,.int .u64 x]:=by
    show[SV.imm TU (gl TU [Dat.l TU l0,.n x] 0),_]=_
    have:gl TU [Dat.l TU l0,.n x] 0=l0:=by simp[gl,c0r]
    rw[this];rfl
   rw[hgl]at ha
   obtain⟨v,rfl,hv⟩:=arg2 ha
   exact callsIn_wide.1 (Bt.Any_in Fence.wide 4 trivial trivial trivial trivial trivial rfl (by omega) v l0 x w (t2u hr hv))
  ·cases he'
def BP19:FBox:=mkF [.int .u64 0] [] [] [(.own 0,[.arr (.int .i64) 0])] q1y
def BP28:FBox:=mkF [.imm TU 0,.int .u64 1] [] [] [(.int .u64 0,[])] h1s
theorem i2x (f:List Dat→Option (Nat×List Dat)): ∃g:List Dat→Option (Nat×List Dat),∀env,g env=f env:=⟨f,fun _=>rfl⟩
def d1x:List Dat→Option (Nat×List Dat):=Classical.choose (i2x q1y)
theorem r1l (env:List Dat):d1x env=q1y env:=Classical.choose_spec (i2x q1y) env
def x0y:List Dat→Option (Nat×List Dat):=Classical.choose (i2x h1s)
theorem r1z (env:List Dat):x0y env=h1s env:=Classical.choose_spec (i2x h1s) env
def Bl19:FBox:=mkF [.int .u64 0] [] [] [(.own 0,[.arr (.int .i64) 0])] d1x
def Bl28:FBox:=mkF [.imm TU 0,.int .u64 1] [] [] [(.int .u64 0,[])] x0y
theorem Bl19_ok:a0x Try.prog 20 (a0i Bl19):=a0x.ext r1l b19
theorem Bl28_ok:a0x Try.prog 107 (a0i Bl28):=a0x.ext r1z b28
def cs_Q1:FuncId→Option a0f:=a0k 107 BP28 (a0k 20 BP19 cs_Q0)
theorem g3g:CsOk Try.prog cs_Q1:=a0h (a0h j3i b19) b28
def v1f:List Dat→Option (Nat×List Dat):=fun _=>some (0,[.b true])
def Bw8:FBox:=(mkF [] [] [] [(.bool 0,[])] v1f)
theorem m3b (env:List Dat)(y:Nat×List Dat)(h:v1f env=some y):(boxC true Try.prog cs_Q1 6 ls0 (mkF [] [] [] [(.bool 0,[])] fun _=>none) env).sel=some y:=by
 cases h
 kernel_rfl
theorem Bw8_ok:a0x Try.prog 6 (a0i Bw8):=b0c (op:=v1f) g3g hmix true (LsOk.none _ _ _) m3b
def cs_Z10:FuncId→Option a0f:=d0e 6 [Bw8] cs_c46
theorem q2l:CsOk Try.prog cs_Z10:=f0z w2e fun B hB=>by
 cases List.mem_singleton.1 hB
 exact Bw8_ok
abbrev TMr:Ty:=.pair (.int .u64) (.pair (.int .u64) (.pair (.int .u64) (.pair (.int .u32) (.pair (.int .u32) (.int .u64)))))
def fnV0 (f:Nat):PV:=.fn (.func f) [] []
def zM (h:Nat):PB:=.cells [.nilsl,.nilsl,.int .u64 h,.int .u32 (h+1),.int .u64 (h+2)]
def yM (o h:Nat):PB:=.cells [.own o,.nilsl,.int .u64 h,.int .u32 (h+1),.int .u64 (h+2)]
def xM (o h:Nat):PB:=.cells [.own o,.own (o+1),.int .u64 h,.int .u32 (h+1),.int .u64 (h+2)]
def mrB (h:Nat):PB:=.cells [.int .u64 h,.int .u64 (h+1),.int .u64 (h+2),.int .u32 (h+3),.int .u32 (h+4),.int .u64 (h+5)]
def mrV (h:Nat):PV:=.agg [.int .u64 h,.int .u64 (h+1),.int .u64 (h+2),.int .u32 (h+3),.int .u32 (h+4),.int .u64 (h+5)]
def msV (h:Nat):PV:=.agg [.imm TMr h,.imm TU (h+1),.int .u64 (h+2),.int .u32 (h+3),.int .u64 (h+4)]
def msB (h:Nat):PB:=.cells [.imm TMr h,.imm TU (h+1),.int .u64 (h+2),.int .u32 (h+3),.int .u64 (h+4)]
def cs_w8A:FuncId→Option a0f:=d0e 6 [(BSh.of Bw8).k v1f] cs_Z10
theorem q2e:CsOk Try.prog cs_w8A:=csB q2l Bw8_ok
def cs_15A:FuncId→Option a0f:=a0k 11 ((BSh.of B15).k t1b) cs_w8A
theorem s2s:CsOk Try.prog cs_15A:=csA q2e B15_ok
def cs_9A:FuncId→Option a0f:=a0k 29 ((BSh.of B9).k op_9) cs_15A
theorem l3e:CsOk Try.prog cs_9A:=csA s2s B9_ok
def cs_10A:FuncId→Option a0f:=a0k 30 ((BSh.of B10).k l1f) cs_9A
theorem s2k:CsOk Try.prog cs_10A:=csA l3e B10_ok
def cs_11A:FuncId→Option a0f:=a0k 56 ((BSh.of B11).k g1a) cs_10A
theorem u2w:CsOk Try.prog cs_11A:=csA s2k B11_ok
def cs_12A:FuncId→Option a0f:=a0k 26 ((BSh.of B12).k y0m) cs_11A
theorem u2k:CsOk Try.prog cs_12A:=csA u2w B12_ok
def cs_19A:FuncId→Option a0f:=a0k 14 ((BSh.of B19).k k2p) cs_12A
theorem a3p:CsOk Try.prog cs_19A:=csA u2k s2o
def e3v:FuncId→Option a0f:=a0k 28 ((BSh.of Bc17).k c1r) cs_19A
theorem l2y:CsOk Try.prog e3v:=csA a3p q2h
def b3m:FuncId→Option a0f:=a0k 25 ((BSh.of Bc46).k y0c) e3v
theorem l2t:CsOk Try.prog b3m:=csA l2y w2o
def a3b:FuncId→Option a0f:=a0k 20 ((BSh.of Bl19).k d1x) b3m
theorem o2y:CsOk Try.prog a3b:=csA l2t Bl19_ok
def k1y:FuncId→Option a0f:=a0k 107 ((BSh.of Bl28).k x0y) a3b
theorem v0p:CsOk Try.prog k1y:=csA o2y Bl28_ok
def v2e:LSh:={K:=0,log:=[],ins:=[(sh 13 [(0,.int .i64 0),(3,.int .u64 1),(4,.int .i64 2)],[])],nils:=[],outs:=[(.exit 0,sh 13 [(3,.int .u64 0)],[])],cv:=[]}
def r0l:List Dat→Tree Step:=evL k1y 50 3 ls0 v2e
theorem i1s: ∃op,IsL r0l 50 3 v2e op:=bxL v0p (LsOk.none _ _ _)
def e2j:OpA:=opL i1s
theorem a2c (env:List Dat):e2j env=a0b r0l FU env:=b0t i1s env
abbrev l3i:MBox:=boxL i1s
theorem x1x {n0 n1 n2:Int}(h0:(n2<n0)):(r0l [.k 0,.n n0,.n n1,.n n2]).sel=some (Step.go [.k 0,.n n0,.n (IntKind.wrap .u64 (n1*(2:Int))),.n (IntKind.wrap .i64 (n2+(1:Int)))]):=sP [1]<|sT (dt h0)<|sP [1]<|sL
theorem u1p {n0 n1 n2:Int}(h0:(¬n2<n0)):(r0l [.k 0,.n n0,.n n1,.n n2]).sel=some (Step.stop 0 [.n n1]):=sP [1]<|sF (df h0)<|sP [1]<|sL
def S_q31:BSh:={args:=[.int .i64 0],blks:=[],log:=[],outs:=[(.int .u64 0,[])]}
def ev_q31:List Dat→Tree (Nat×List Dat):=evF k1y 50 (lsM [(3,l3i)] 0) S_q31
theorem e_q31: ∃op,IsF ev_q31 50 S_q31 op:=bxF v0p (lsE (lsC (b0b i1s) (atF) lsZ))
def t1i:OpA:=opF e_q31
theorem t2l {n0 n1:Int}(h0:(e2j [.k 0,.n n0,.n (1:Int),.n (0:Int)])=(some (0,[.n n1]))):t1i [.n n0]=some ((0,[.n n1])):=a0g e_q31 (sA h0<|sP [1,1]<|sL)
def s2w:FuncId→Option a0f:=a0k 50 (S_q31.k t1i) k1y
theorem q1x:CsOk Try.prog s2w:=csL1 v0p e_q31
def S_q11:BSh:={args:=[.int .u64 0,.int .i64 1],blks:=[],log:=[],outs:=[(.bool 0,[])]}
def ev_q11:List Dat→Tree (Nat×List Dat):=evF s2w 22 ls0 S_q11
theorem b3p: ∃op,IsF ev_q11 22 S_q11 op:=bxF q1x (LsOk.none _ _ _)
def d0q:OpA:=opF b3p
theorem r2u {n0 n1 n2:Int}(h0:(n1≥(0:Int)))(h1:(n1≤(63:Int)))(h2:(t1i [.n n1])=(some (0,[.n n2])))(h3:(¬n2=(0:Int))):d0q [.n n0,.n n1]=some ((0,[.b (Int.tmod (IntKind.wrap .u64 (Int.tdiv n0 n2)) (2:Int)==(1:Int))])):=a0g b3p (sT (dt h0)<|sT (dt h1)<|sA h2<|sP [1,1]<|sT (nf (df h3))<|sP [1,1]<|sL)
theorem x2h {n0 n1:Int}(h0:(n1≥(0:Int)))(h1:(¬n1≤(63:Int))):d0q [.n n0,.n n1]=some ((0,[.b false])):=a0g b3p (sT (dt h0)<|sF (df h1)<|sP [0,1]<|sL)
theorem x2p {n0 n1:Int}(h0:(¬n1≥(0:Int))):d0q [.n n0,.n n1]=some ((0,[.b false])):=a0g b3p (sF (df h0)<|sP [0,0,0,1]<|sL)
def b3q:FuncId→Option a0f:=a0k 22 (S_q11.k d0q) s2w
theorem s1l:CsOk Try.prog b3q:=csL1 q1x b3p
def S_q12:BSh:={args:=[.int .u64 0,.int .i64 1],blks:=[],log:=[],outs:=[(.int .u64 0,[])]}
def ev_q12:List Dat→Tree (Nat×List Dat):=evF b3q 86 ls0 S_q12
theorem b3f: ∃op,IsF ev_q12 86 S_q12 op:=bxF s1l (LsOk.none _ _ _)
def e0v:OpA:=opF b3f
theorem v2f {n0 n1:Int}(h0:(n1≥(0:Int)))(h1:(¬n1<(64:Int))):e0v [.n n0,.n n1]=some ((0,[.n n0])):=a0g b3f (sP [1]<|sT (dt h0)<|sP [1]<|sT (nf (df h1))<|sP [1]<|sL)
theorem t2t {n0 n1:Int}(h0:(n1≥(0:Int)))(h1:(n1<(64:Int))):e0v [.n n0,.n n1]=some ((0,[.n (ior IntKind.u64 n0 (ishl IntKind.u64 (1:Int) n1))])):=a0g b3f (sP [1]<|sT (dt h0)<|sP [1]<|sF (nt (dt h1))<|sTs (c:=(!decide (n1<(0:Int))))<|sP [1]<|sL)
theorem u2h {n0 n1:Int}(h0:(¬n1≥(0:Int))):e0v [.n n0,.n n1]=some ((0,[.n n0])):=a0g b3f (sP [1]<|sF (df h0)<|sP [0,1,1,1]<|sL)
def u2j:FuncId→Option a0f:=a0k 86 (S_q12.k e0v) b3q
theorem p1z:CsOk Try.prog u2j:=csL1 s1l b3f
def S_q26:BSh:={args:=[.int .i64 0],blks:=[],log:=[],outs:=[(.int .u64 0,[])]}
def ev_q26:List Dat→Tree (Nat×List Dat):=evF u2j 84 ls0 S_q26
theorem a3i: ∃op,IsF ev_q26 84 S_q26 op:=bxF p1z (LsOk.none _ _ _)
def x0e:OpA:=opF a3i
theorem p2n {n0:Int}(h0:(n0≤(0:Int))):x0e [.n n0]=some ((0,[.n (0:Int)])):=a0g a3i (sT (dt h0)<|sP [1]<|sL)
theorem c3w {n0:Int}(h0:(¬n0≤(0:Int)))(h1:(n0≥(64:Int))):x0e [.n n0]=some ((0,[.n (18446744073709551615:Int)])):=a0g a3i (sF (df h0)<|sT (dt h1)<|sP [1]<|sL)
theorem c3c {n0:Int}(h0:(¬n0≤(0:Int)))(h1:(¬n0≥(64:Int))):x0e [.n n0]=some ((0,[.n (IntKind.wrap .u64 (ishl IntKind.u64 (1:Int) n0-(1:Int)))])):=a0g a3i (sF (df h0)<|sF (df h1)<|sTo (c:=(!decide (n0<(0:Int))))<|sP [1]<|sL)
def f2k:FuncId→Option a0f:=a0k 84 (S_q26.k x0e) u2j
theorem d1b:CsOk Try.prog f2k:=csL1 p1z a3i
def c3u:LSh:={K:=0,log:=[],ins:=[(sh 17 [(3,.int .u64 0),(6,.imm TI 1),(7,.int .i64 2),(8,.int .i64 3)],[])],nils:=[],outs:=[(.exit 0,sh 17 [(3,.int .u64 0)],[])],cv:=[]}
def t0y:List Dat→Tree Step:=evL f2k 105 3 ls0 c3u
theorem j1c: ∃op,IsL t0y 105 3 c3u op:=bxL d1b (LsOk.none _ _ _)
def h2a:OpA:=opL j1c
theorem x1t (env:List Dat):h2a env=a0b t0y FU env:=b0t j1c env
abbrev g3y:MBox:=boxL j1c
theorem v1e {n0:Int}{l1:List (Ty.den TI)}{n2 n3 n4:Int}(g0:0≤n3)(g1:n2=(l1.length:Int))(h0:(n3<n2))(h1:(e0v [.n n0,.n (List.getD l1 (Int.toNat n3) (0:Int))])=(some (0,[.n n4]))):(t0y [.k 0,.n n0,.l TI l1,.n n2,.n n3]).sel=some (Step.go [.k 0,.n n4,.l TI l1,.n n2,.n (IntKind.wrap .i64 (n3+(1:Int)))]):=sP [1]<|sT (dt h0)<|sTo (c:=(inR n3 (List.length l1)))<|sA h1<|sP [1,1,1]<|sL
theorem y1i {n0:Int}{l1:List (Ty.den TI)}{n2 n3:Int}(g0:0≤n3)(g1:n2=(l1.length:Int))(h0:(¬n3<n2)):(t0y [.k 0,.n n0,.l TI l1,.n n2,.n n3]).sel=some (Step.stop 0 [.n n0]):=sP [1]<|sF (df h0)<|sP [1]<|sL
def S_q17:BSh:={args:=[.imm TI 0],blks:=[],log:=[],outs:=[(.int .u64 0,[])]}
def ev_q17:List Dat→Tree (Nat×List Dat):=evF f2k 105 (lsM [(3,g3y)] 0) S_q17
theorem e_q17: ∃op,IsF ev_q17 105 S_q17 op:=bxF d1b (lsE (lsC (b0b j1c) (atF) lsZ))
def e2o:OpA:=opF e_q17
theorem u2m {l0:List (Ty.den TI)}{n1:Int}(h0:(h2a [.k 0,.n (0:Int),.l TI l0,.n (↑(List.length l0):Int),.n (0:Int)])=(some (0,[.n n1]))):e2o [.l TI l0]=some ((0,[.n n1])):=a0g e_q17 (sA h0<|sP [1,1]<|sL)
def q2k:FuncId→Option a0f:=a0k 105 (S_q17.k e2o) f2k
theorem s1f:CsOk Try.prog q2k:=csL1 d1b e_q17
def S_q10:BSh:={args:=[.int .u64 0,.int .i64 1],blks:=[],log:=[],outs:=[(.bool 0,[])]}
def ev_q10:List Dat→Tree (Nat×List Dat):=evF q2k 94 ls0 S_q10
theorem t2w: ∃op,IsF ev_q10 94 S_q10 op:=bxF s1f (LsOk.none _ _ _)
def d0u:OpA:=opF t2w
theorem d3f {n0 n1:Int}(h0:(n1≥(0:Int)))(h1:(n1<(64:Int))):d0u [.n n0,.n n1]=some ((0,[.b (iand IntKind.u64 (ishr IntKind.u64 n0 n1) (1:Int)==(1:Int))])):=a0g t2w (sP [1]<|sT (dt h0)<|sP [1]<|sT (dt h1)<|sTs (c:=(!decide (n1<(0:Int))))<|sP [1]<|sL)
theorem a3z {n0 n1:Int}(h0:(n1≥(0:Int)))(h1:(¬n1<(64:Int))):d0u [.n n0,.n n1]=some ((0,[.b false])):=a0g t2w (sP [1]<|sT (dt h0)<|sP [1]<|sF (df h1)<|sP [0,1]<|sL)
theorem s2b {n0 n1:Int}(h0:(¬n1≥(0:Int))):d0u [.n n0,.n n1]=some ((0,[.b false])):=a0g t2w (sP [1]<|sF (df h0)<|sP [0,1,0,0,1]<|sL)
def j2b:FuncId→Option a0f:=a0k 94 (S_q10.k d0u) q2k
theorem e1g:CsOk Try.prog j2b:=csL1 s1f t2w
def e3i:LSh:={K:=0,log:=[],ins:=[(sh 51 [(2,.int .u64 0),(3,.ptr 0 0),(4,.ptr 1 0),(6,.ptr 2 0),(7,.int .u64 1),(8,.int .u64 2),(12,.own 3),(13,.int .i64 3),(14,.int .i64 4)],[laB 5,rtB 9,mrB 15,.arr TNd 21])],nils:=[],outs:=[(.exit 0,sh 51 [(2,.int .u64 0),(3,.ptr 0 0),(4,.ptr 1 0),(6,.ptr 2 0),(7,.int .u64 1),(8,.int .u64 2)],[laB 3,rtB 7,mrB 13])],cv:=[]}
def o0y:List Dat→Tree Step:=evL j2b 85 3 ls0 e3i
theorem m1u: ∃op,IsL o0y 85 3 e3i op:=bxL e1g (LsOk.none _ _ _)
def l1n:OpA:=opL m1u
theorem w1y (env:List Dat):l1n env=a0b o0y FU env:=b0t m1u env
abbrev k3l:MBox:=boxL m1u
theorem u1v {n0 n1 n2 n3 n4:Int}{l5:List (Ty.den TS)}{l6 l7:List (Ty.den TPt)}{l8:List (Ty.den TRt)}{s9:ByteArray}{n10:Int}{l11:List (Ty.den TI)}{l12:List (Ty.den TNd)}{l13:List (Ty.den TI)}{l14:List (Ty.den TNd)}{n15 n16 n17 n18 n19 n20:Int}{l21:List (Ty.den TNd)}{n22:Int}(g0:0≤n4)(g1:n3=(l21.length:Int))(h0:(n4<n3))(h1:(Prod.snd (List.getD l21 (Int.toNat n4) (Ty.dflt TNd))=true))(h2:(e0v [.n n2,.n (Prod.fst (List.getD l21 (Int.toNat n4) (Ty.dflt TNd)))])=(some (0,[.n n22]))):(o0y [.k 0,.n n0,.n n1,.n n2,.n n3,.n n4,.l TS l5,.l TPt l6,.l TPt l7,.l TRt l8,.s s9,.n n10,.l TI l11,.l TNd l12,.l TI l13,.l TNd l14,.n n15,.n n16,.n n17,.n n18,.n n19,.n n20,.l TNd l21]).sel=some (Step.go [.k 0,.n n0,.n n1,.n n22,.n n3,.n (IntKind.wrap .i64 (n4+(1:Int))),.l TS l5,.l TPt l6,.l TPt l7,.l TRt l8,.s s9,.n n10,.l TI l11,.l TNd l12,.l TI l13,.l TNd l14,.n n15,.n n16,.n n17,.n n18,.n n19,.n n20,.l TNd l21]):=sP [1]<|sT (dt h0)<|sTo (c:=(inR n4 (List.length l21)))<|sT h1<|sA h2<|sP [1,1,1]<|sL
theorem b2f {n0 n1 n2 n3 n4:Int}{l5:List (Ty.den TS)}{l6 l7:List (Ty.den TPt)}{l8:List (Ty.den TRt)}{s9:ByteArray}{n10:Int}{l11:List (Ty.den TI)}{l12:List (Ty.den TNd)}{l13:List (Ty.den TI)}{l14:List (Ty.den TNd)}{n15 n16 n17 n18 n19 n20:Int}{l21:List (Ty.den TNd)}{n22:Int}(g0:0≤n4)(g1:n3=(l21.length:Int))(h0:(n4<n3))(h1:(Prod.snd (List.getD l21 (Int.toNat n4) (Ty.dflt TNd))=false))(h2:(e0v [.n n1,.n (Prod.fst (List.getD l21 (Int.toNat n4) (Ty.dflt TNd)))])=(some (0,[.n n22]))):(o0y [.k 0,.n n0,.n n1,.n n2,.n n3,.n n4,.l TS l5,.l TPt l6,.l TPt l7,.l TRt l8,.s s9,.n n10,.l TI l11,.l TNd l12,.l TI l13,.l TNd l14,.n n15,.n n16,.n n17,.n n18,.n n19,.n n20,.l TNd l21]).sel=some (Step.go [.k 0,.n n0,.n n22,.n n2,.n n3,.n (IntKind.wrap .i64 (n4+(1:Int))),.l TS l5,.l TPt l6,.l TPt l7,.l TRt l8,.s s9,.n n10,.l TI l11,.l TNd l12,.l TI l13,.l TNd l14,.n n15,.n n16,.n n17,.n n18,.n n19,.n n20,.l TNd l21]):=sP [1]<|sT (dt h0)<|sTo (c:=(inR n4 (List.length l21)))<|sF h1<|sA h2<|sP [1,1,1]<|sL
theorem x1s {n0 n1 n2 n3 n4:Int}{l5:List (Ty.den TS)}{l6 l7:List (Ty.den TPt)}{l8:List (Ty.den TRt)}{s9:ByteArray}{n10:Int}{l11:List (Ty.den TI)}{l12:List (Ty.den TNd)}{l13:List (Ty.den TI)}{l14:List (Ty.den TNd)}{n15 n16 n17 n18 n19 n20:Int}{l21:List (Ty.den TNd)}(g0:0≤n4)(g1:n3=(l21.length:Int))(h0:(¬n4<n3)):(o0y [.k 0,.n n0,.n n1,.n n2,.n n3,.n n4,.l TS l5,.l TPt l6,.l TPt l7,.l TRt l8,.s s9,.n n10,.l TI l11,.l TNd l12,.l TI l13,.l TNd l14,.n n15,.n n16,.n n17,.n n18,.n n19,.n n20,.l TNd l21]).sel=some (Step.stop 0 [.n n0,.n n1,.n n2,.l TS l5,.l TPt l6,.l TPt l7,.l TRt l8,.s s9,.n n10,.l TI l11,.l TNd l12,.l TI l13,.l TNd l14,.n n15,.n n16,.n n17,.n n18,.n n19,.n n20]):=sP [1]<|sF (df h0)<|sP [1]<|sL
def S_m54:BSh:={args:=[laV 0,rtV 4,.int .u64 10],blks:=[],log:=[],outs:=[(mrV 0,[])]}
def ev_m54:List Dat→Tree (Nat×List Dat):=evF j2b 85 (lsM [(3,k3l)] 0) S_m54
theorem e_m54: ∃op,IsF ev_m54 85 S_m54 op:=bxF e1g (lsE (lsC (b0b m1u) (atF) lsZ))
def j2c:OpA:=opF e_m54
theorem e3o {l0:List (Ty.den TS)}{l1 l2:List (Ty.den TPt)}{l3:List (Ty.den TRt)}{s4:ByteArray}{n5:Int}{l6:List (Ty.den TI)}{l7:List (Ty.den TNd)}{l8:List (Ty.den TI)}{l9:List (Ty.den TNd)}{n10:Int}{l11:List (Ty.den TNd)}{n12 n13 n14:Int}{l15:List (Ty.den TS)}{l16 l17:List (Ty.den TPt)}{l18:List (Ty.den TRt)}{s19:ByteArray}{n20:Int}{l21:List (Ty.den TI)}{l22:List (Ty.den TNd)}{l23:List (Ty.den TI)}{l24:List (Ty.den TNd)}{n25 n26 n27 n28 n29 n30:Int}{l31:List (Ty.den TI)}{n32 n33 n34:Int}(h0:(l1f [.s s4,.n n5,.l TI l6,.l TNd l7,.l TI l8,.l TNd l9])=(some (0,[.l TNd l11])))(h1:(l1n [.k 0,.n n10,.n (0:Int),.n (0:Int),.n (↑(List.length l11):Int),.n (0:Int),.l TS l0,.l TPt l1,.l TPt l2,.l TRt l3,.s s4,.n n5,.l TI l6,.l TNd l7,.l TI l8,.l TNd l9,.n (0:Int),.n (0:Int),.n (0:Int),.n (0:Int),.n (0:Int),.n (0:Int),.l TNd l11])=(some (0,[.n n12,.n n13,.n n14,.l TS l15,.l TPt l16,.l TPt l17,.l TRt l18,.s s19,.n n20,.l TI l21,.l TNd l22,.l TI l23,.l TNd l24,.n n25,.n n26,.n n27,.n n28,.n n29,.n n30])))(h2:(op_9 [.s s19,.n n20,.l TI l21,.l TNd l22,.l TI l23,.l TNd l24])=(some (0,[.l TI l31])))(h3:(e2o [.l TI l31])=(some (0,[.n n32])))(h4:(inR (0:Int) (List.length l21)=true))(h5:(e0v [.n (0:Int),.n (List.getD l21 0 (0:Int))])=(some (0,[.n n33])))(h6:(inR n20 (List.length l17)=true))(h7:(e0v [.n (0:Int),.n (Prod.snd (List.getD l17 (Int.toNat n20) (Ty.dflt TPt)))])=(some (0,[.n n34]))):j2c [.l TS l0,.l TPt l1,.l TPt l2,.l TRt l3,.s s4,.n n5,.l TI l6,.l TNd l7,.l TI l8,.l TNd l9,.n n10]=some ((0,[.n n32,.n n33,.n n34,.n (IntKind.wrap .u32 n13),.n (IntKind.wrap .u32 n14),.n n12])):=a0g e_m54 (sA h0<|sP [1,1]<|sA h1<|sP [1]<|sA h2<|sP [1,1]<|sA h3<|sP [1,1]<|sT h4<|sA h5<|sP [1,1]<|sT h6<|sA h7<|sP [1,1,1,1]<|sL)
def o1m:FuncId→Option a0f:=a0k 85 (S_m54.k j2c) j2b
theorem r0v:CsOk Try.prog o1m:=csL1 e1g e_m54
def f2g:LSh:={K:=0,log:=[],ins:=[(sh 72 [(1,.ptr 0 0),(2,.ptr 1 0),(4,.own 2),(6,.ptr 3 0),(35,.imm TRt 0),(36,.int .i64 1),(37,.int .i64 2)],[laB 3,zM 7,.arr TU 10,yM 4 11,.arr TMr 14])],nils:=[],outs:=[(.exit 0,sh 72 [(1,.ptr 0 0),(2,.ptr 1 0),(6,.ptr 2 0)],[laB 0,zM 4,yM 3 7,.arr TMr 10])],cv:=[(6,[],0,.own TMr)]}
def n0r:List Dat→Tree Step:=evL o1m 41 6 ls0 f2g
theorem a1t: ∃op,IsL n0r 41 6 f2g op:=bxL r0v (LsOk.none _ _ _)
def f1f:OpA:=opL a1t
theorem r1k (env:List Dat):f1f env=a0b n0r FU env:=b0t a1t env
abbrev a3m:MBox:=boxL a1t
theorem s1z {l0:List (Ty.den TRt)}{n1 n2:Int}{l3:List (Ty.den TS)}{l4 l5:List (Ty.den TPt)}{l6:List (Ty.den TRt)}{n7 n8 n9:Int}{l10:List (Ty.den TU)}{n11 n12 n13:Int}{l14:List (Ty.den TMr)}{n15 n16 n17 n18 n19 n20:Int}(g0:0≤n2)(g1:n1=(l0.length:Int))(g2:n1=(l10.length:Int))(h0:(n2<n1))(h1:(j2c [.l TS l3,.l TPt l4,.l TPt l5,.l TRt l6,.s (Prod.fst (List.getD l0 (Int.toNat n2) (Ty.dflt TRt))),.n (Prod.fst (Prod.snd (List.getD l0 (Int.toNat n2) (Ty.dflt TRt)))),.l TI (Prod.fst (Prod.snd (Prod.snd (List.getD l0 (Int.toNat n2) (Ty.dflt TRt))))),.l TNd (Prod.fst (Prod.snd (Prod.snd (Prod.snd (List.getD l0 (Int.toNat n2) (Ty.dflt TRt)))))),.l TI (Prod.fst (Prod.snd (Prod.snd (Prod.snd (Prod.snd (List.getD l0 (Int.toNat n2) (Ty.dflt TRt))))))),.l TNd (Prod.snd (Prod.snd (Prod.snd (Prod.snd (Prod.snd (List.getD l0 (Int.toNat n2) (Ty.dflt TRt))))))),.n (List.getD l10 (Int.toNat n2) (0:Int))])=(some (0,[.n n15,.n n16,.n n17,.n n18,.n n19,.n n20])))(h2:((List.length l14+1)*40≤140737488355328)):(n0r [.k 0,.l TRt l0,.n n1,.n n2,.l TS l3,.l TPt l4,.l TPt l5,.l TRt l6,.n n7,.n n8,.n n9,.l TU l10,.n n11,.n n12,.n n13,.l TMr l14]).sel=some (Step.go [.k 0,.l TRt l0,.n n1,.n (IntKind.wrap .i64 (n2+(1:Int))),.l TS l3,.l TPt l4,.l TPt l5,.l TRt l6,.n n7,.n n8,.n n9,.l TU l10,.n n11,.n n12,.n n13,.l TMr (apL l14 [(n15,n16,n17,n18,n19,n20)])]):=sP [1]<|sT (dt h0)<|sTo (c:=(inR n2 (List.length l0)))<|sTo (c:=(inR n2 (List.length l10)))<|sA h1<|sP [1,1]<|sT (dt h2)<|sP [1,1]<|sL
theorem o1v {l0:List (Ty.den TRt)}{n1 n2:Int}{l3:List (Ty.den TS)}{l4 l5:List (Ty.den TPt)}{l6:List (Ty.den TRt)}{n7 n8 n9:Int}{l10:List (Ty.den TU)}{n11 n12 n13:Int}{l14:List (Ty.den TMr)}(g0:0≤n2)(g1:n1=(l0.length:Int))(g2:n1=(l10.length:Int))(h0:(¬n2<n1)):(n0r [.k 0,.l TRt l0,.n n1,.n n2,.l TS l3,.l TPt l4,.l TPt l5,.l TRt l6,.n n7,.n n8,.n n9,.l TU l10,.n n11,.n n12,.n n13,.l TMr l14]).sel=some (Step.stop 0 [.l TS l3,.l TPt l4,.l TPt l5,.l TRt l6,.n n7,.n n8,.n n9,.n n11,.n n12,.n n13,.l TMr l14]):=sP [1]<|sF (df h0)<|sP [1]<|sL
def s1q:LSh:={K:=0,log:=[],ins:=[(sh 72 [(2,.ptr 0 0),(6,.ptr 1 0),(56,.imm TPt 0),(57,.int .i64 1),(58,.int .i64 2)],[zM 3,xM 2 6,.arr TMr 9,.arr TU 10])],nils:=[],outs:=[(.exit 2,sh 72 [(2,.ptr 0 0),(6,.ptr 1 0)],[zM 0,xM 2 3,.arr TMr 6,.arr TU 7])],cv:=[(6,[],1,.own TU)]}
def k0e:List Dat→Tree Step:=evL o1m 41 11 ls0 s1q
theorem s0y: ∃op,IsL k0e 41 11 s1q op:=bxL r0v (LsOk.none _ _ _)
def v0o:OpA:=opL s0y
theorem j1b (env:List Dat):v0o env=a0b k0e FU env:=b0t s0y env
abbrev n2h:MBox:=boxL s0y
theorem j1g {l0:List (Ty.den TPt)}{n1 n2 n3 n4 n5 n6 n7 n8:Int}{l9:List (Ty.den TMr)}{l10:List (Ty.den TU)}{n11:Int}(g0:0≤n2)(g1:n1=(l0.length:Int))(h0:(n2<n1))(h1:(e0v [.n (0:Int),.n (Prod.snd (List.getD l0 (Int.toNat n2) (Ty.dflt TPt)))])=(some (0,[.n n11])))(h2:((List.length l10+1)*8≤140737488355328)):(k0e [.k 0,.l TPt l0,.n n1,.n n2,.n n3,.n n4,.n n5,.n n6,.n n7,.n n8,.l TMr l9,.l TU l10]).sel=some (Step.go [.k 0,.l TPt l0,.n n1,.n (IntKind.wrap .i64 (n2+(1:Int))),.n n3,.n n4,.n n5,.n n6,.n n7,.n n8,.l TMr l9,.l TU (l10++[n11])]):=sP [1]<|sT (dt h0)<|sTo (c:=(inR n2 (List.length l0)))<|sA h1<|sP [1,1]<|sT (dt h2)<|sP [1,1]<|sL
theorem m1t {l0:List (Ty.den TPt)}{n1 n2 n3 n4 n5 n6 n7 n8:Int}{l9:List (Ty.den TMr)}{l10:List (Ty.den TU)}(g0:0≤n2)(g1:n1=(l0.length:Int))(h0:(¬n2<n1)):(k0e [.k 0,.l TPt l0,.n n1,.n n2,.n n3,.n n4,.n n5,.n n6,.n n7,.n n8,.l TMr l9,.l TU l10]).sel=some (Step.stop 0 [.n n3,.n n4,.n n5,.n n6,.n n7,.n n8,.l TMr l9,.l TU l10]):=sP [1]<|sF (df h0)<|sP [1]<|sL
def e3p:BSh:={args:=[laV 0],blks:=[],log:=[],outs:=[(.tup [.agg [.own 0,.own 1,.int .u64 0,.int .u32 1,.int .u64 2],.int .i64 3],[.arr TMr 4,.arr TU 5]),(.tup [.agg [.nilsl,.nilsl,.int .u64 0,.int .u32 1,.int .u64 2],.int .i64 3],[])]}
def ev_m28i:List Dat→Tree (Nat×List Dat):=evF o1m 41 (lsM [(6,a3m),(11,n2h)] 0) e3p
theorem g2y: ∃op,IsF ev_m28i 41 e3p op:=bxF r0v (lsE (lsC (b0b a1t) (atF) (lsC (b0b s0y) (atF) lsZ)))
def w0j:OpA:=opF g2y
theorem k2f {l0:List (Ty.den TS)}{l1 l2:List (Ty.den TPt)}{l3:List (Ty.den TRt)}{n4:Int}{l5:List (Ty.den TU)}{n6 n7 n8:Int}{l9:List (Ty.den TS)}{l10 l11:List (Ty.den TPt)}{l12:List (Ty.den TRt)}{n13 n14 n15 n16 n17 n18:Int}{l19:List (Ty.den TMr)}{n20 n21 n22 n23 n24 n25:Int}{l26:List (Ty.den TMr)}{l27:List (Ty.den TU)}(h0:(c1r [.l TS l0,.l TPt l1,.l TPt l2,.l TRt l3])=(some (0,[.n n4,.l TU l5])))(h1:(n4=(0:Int)))(h2:(x0e [.n (↑(List.length l3):Int)])=(some (0,[.n n6])))(h3:(x0e [.n (↑(List.length l1):Int)])=(some (0,[.n n7])))(h4:(x0e [.n (↑(List.length l0):Int)])=(some (0,[.n n8])))(h5:(f1f [.k 0,.l TRt l3,.n (↑(List.length l3):Int),.n (0:Int),.l TS l0,.l TPt l1,.l TPt l2,.l TRt l3,.n (0:Int),.n (0:Int),.n (0:Int),.l TU l5,.n n6,.n (IntKind.wrap .u32 n7),.n n8,.l TMr []])=(some (0,[.l TS l9,.l TPt l10,.l TPt l11,.l TRt l12,.n n13,.n n14,.n n15,.n n16,.n n17,.n n18,.l TMr l19])))(h6:(v0o [.k 0,.l TPt l10,.n (↑(List.length l10):Int),.n (0:Int),.n n13,.n n14,.n n15,.n n16,.n n17,.n n18,.l TMr l19,.l TU []])=(some (0,[.n n20,.n n21,.n n22,.n n23,.n n24,.n n25,.l TMr l26,.l TU l27]))):w0j [.l TS l0,.l TPt l1,.l TPt l2,.l TRt l3]=some ((0,[.n n23,.n n24,.n n25,.n (0:Int),.l TMr l26,.l TU l27])):=a0g g2y (sA h0<|sP [1,1]<|sF (bnf h1)<|sA h2<|sP [1,1]<|sA h3<|sP [1,1]<|sA h4<|sP [1,1,1]<|sA h5<|sP [1]<|sA h6<|sP [1,1]<|sL)
theorem o2k {l0:List (Ty.den TS)}{l1 l2:List (Ty.den TPt)}{l3:List (Ty.den TRt)}{n4:Int}(h0:(c1r [.l TS l0,.l TPt l1,.l TPt l2,.l TRt l3])=(some (1,[.n n4])))(h1:(¬n4=(0:Int))):w0j [.l TS l0,.l TPt l1,.l TPt l2,.l TRt l3]=some ((1,[.n (0:Int),.n (0:Int),.n (0:Int),.n n4])):=a0g g2y (sA h0<|sP [0,1,1]<|sT (bnt h1)<|sP [1]<|sL)
def v0j:FuncId→Option a0f:=d0e 41 [e3p.k w0j] o1m
theorem j0z:CsOk Try.prog v0j:=csA1 r0v g2y
def c2h:LSh:={K:=0,log:=[],ins:=[(sh 28 [(1,.int .u64 0),(2,fnV0 52),(7,.int .u32 1),(11,.imm TMr 2),(12,.int .i64 3),(13,.int .i64 4)],[])],nils:=[],outs:=[(.exit 0,sh 28 [(7,.int .u32 0)],[])],cv:=[]}
def j0x:List Dat→Tree Step:=evL v0j 51 3 ls0 c2h
theorem a1f: ∃op,IsL j0x 51 3 c2h op:=bxL j0z (LsOk.none _ _ _)
def u1l:OpA:=opL a1f
theorem t1u (env:List Dat):u1l env=a0b j0x FU env:=b0t a1f env
abbrev p2q:MBox:=boxL a1f
theorem r1u {n0 n1:Int}{l2:List (Ty.den TMr)}{n3 n4:Int}{b5:Bool}(g0:0≤n4)(g1:n3=(l2.length:Int))(h0:(n4<n3))(h1:(d0u [.n n0,.n n4])=(some (0,[.b b5])))(h2:(b5=true)):(j0x [.k 0,.n n0,.n n1,.l TMr l2,.n n3,.n n4]).sel=some (Step.go [.k 0,.n n0,.n (ior IntKind.u32 n1 (Prod.fst (Prod.snd (Prod.snd (Prod.snd (List.getD l2 (Int.toNat n4) (Ty.dflt TMr))))))),.l TMr l2,.n n3,.n (IntKind.wrap .i64 (n4+(1:Int)))]):=sP [1]<|sT (dt h0)<|sTo (c:=(inR n4 (List.length l2)))<|sA h1<|sP [1,1]<|sT h2<|sP [1,1,1]<|sL
theorem r1q {n0 n1:Int}{l2:List (Ty.den TMr)}{n3 n4:Int}{b5:Bool}(g0:0≤n4)(g1:n3=(l2.length:Int))(h0:(n4<n3))(h1:(d0u [.n n0,.n n4])=(some (0,[.b b5])))(h2:(b5=false)):(j0x [.k 0,.n n0,.n n1,.l TMr l2,.n n3,.n n4]).sel=some (Step.go [.k 0,.n n0,.n n1,.l TMr l2,.n n3,.n (IntKind.wrap .i64 (n4+(1:Int)))]):=sP [1]<|sT (dt h0)<|sTo (c:=(inR n4 (List.length l2)))<|sA h1<|sP [1,1]<|sF h2<|sP [1]<|sL
theorem o1p {n0 n1:Int}{l2:List (Ty.den TMr)}{n3 n4:Int}(g0:0≤n4)(g1:n3=(l2.length:Int))(h0:(¬n4<n3)):(j0x [.k 0,.n n0,.n n1,.l TMr l2,.n n3,.n n4]).sel=some (Step.stop 0 [.n n1]):=sP [1]<|sF (df h0)<|sP [1]<|sL
def x2g:BSh:={args:=[.imm TMr 0,.int .u64 1,fnV0 52],blks:=[],log:=[],outs:=[(.int .u32 0,[])]}
def ev_m58a:List Dat→Tree (Nat×List Dat):=evF v0j 51 (lsM [(3,p2q)] 0) x2g
theorem d3g: ∃op,IsF ev_m58a 51 x2g op:=bxF j0z (lsE (lsC (b0b a1f) (atF) lsZ))
def l1j:OpA:=opF d3g
theorem o2g {l0:List (Ty.den TMr)}{n1 n2:Int}(h0:(u1l [.k 0,.n n1,.n (0:Int),.l TMr l0,.n (↑(List.length l0):Int),.n (0:Int)])=(some (0,[.n n2]))):l1j [.l TMr l0,.n n1]=some ((0,[.n n2])):=a0g d3g (sA h0<|sP [1,1]<|sL)
def d2i:LSh:={K:=0,log:=[],ins:=[(sh 28 [(1,.int .u64 0),(2,fnV0 53),(7,.int .u32 1),(11,.imm TMr 2),(12,.int .i64 3),(13,.int .i64 4)],[])],nils:=[],outs:=[(.exit 0,sh 28 [(7,.int .u32 0)],[])],cv:=[]}
def j0f:List Dat→Tree Step:=evL v0j 51 3 ls0 d2i
theorem z0r: ∃op,IsL j0f 51 3 d2i op:=bxL j0z (LsOk.none _ _ _)
def q1l:OpA:=opL z0r
theorem t1l (env:List Dat):q1l env=a0b j0f FU env:=b0t z0r env
abbrev t2g:MBox:=boxL z0r
theorem r1y {n0 n1:Int}{l2:List (Ty.den TMr)}{n3 n4:Int}{b5:Bool}(g0:0≤n4)(g1:n3=(l2.length:Int))(h0:(n4<n3))(h1:(d0u [.n n0,.n n4])=(some (0,[.b b5])))(h2:(b5=true)):(j0f [.k 0,.n n0,.n n1,.l TMr l2,.n n3,.n n4]).sel=some (Step.go [.k 0,.n n0,.n (ior IntKind.u32 n1 (Prod.fst (Prod.snd (Prod.snd (Prod.snd (Prod.snd (List.getD l2 (Int.toNat n4) (Ty.dflt TMr)))))))),.l TMr l2,.n n3,.n (IntKind.wrap .i64 (n4+(1:Int)))]):=sP [1]<|sT (dt h0)<|sTo (c:=(inR n4 (List.length l2)))<|sA h1<|sP [1,1]<|sT h2<|sP [1,1,1]<|sL
theorem s1j {n0 n1:Int}{l2:List (Ty.den TMr)}{n3 n4:Int}{b5:Bool}(g0:0≤n4)(g1:n3=(l2.length:Int))(h0:(n4<n3))(h1:(d0u [.n n0,.n n4])=(some (0,[.b b5])))(h2:(b5=false)):(j0f [.k 0,.n n0,.n n1,.l TMr l2,.n n3,.n n4]).sel=some (Step.go [.k 0,.n n0,.n n1,.l TMr l2,.n n3,.n (IntKind.wrap .i64 (n4+(1:Int)))]):=sP [1]<|sT (dt h0)<|sTo (c:=(inR n4 (List.length l2)))<|sA h1<|sP [1,1]<|sF h2<|sP [1]<|sL
theorem s1u {n0 n1:Int}{l2:List (Ty.den TMr)}{n3 n4:Int}(g0:0≤n4)(g1:n3=(l2.length:Int))(h0:(¬n4<n3)):(j0f [.k 0,.n n0,.n n1,.l TMr l2,.n n3,.n n4]).sel=some (Step.stop 0 [.n n1]):=sP [1]<|sF (df h0)<|sP [1]<|sL
def a3q:BSh:={args:=[.imm TMr 0,.int .u64 1,fnV0 53],blks:=[],log:=[],outs:=[(.int .u32 0,[])]}
def ev_m58b:List Dat→Tree (Nat×List Dat):=evF v0j 51 (lsM [(3,t2g)] 0) a3q
theorem u2t: ∃op,IsF ev_m58b 51 a3q op:=bxF j0z (lsE (lsC (b0b z0r) (atF) lsZ))
def m1r:OpA:=opF u2t
theorem n2u {l0:List (Ty.den TMr)}{n1 n2:Int}(h0:(q1l [.k 0,.n n1,.n (0:Int),.l TMr l0,.n (↑(List.length l0):Int),.n (0:Int)])=(some (0,[.n n2]))):m1r [.l TMr l0,.n n1]=some ((0,[.n n2])):=a0g u2t (sA h0<|sP [1,1]<|sL)
def h1y:FuncId→Option a0f:=d0e 51 [x2g.k l1j,a3q.k m1r] v0j
theorem w0m:CsOk Try.prog h1y:=f0z j0z fun B hB=>by
 simp only[List.mem_cons,List.not_mem_nil,or_false]at hB
 rcases hB with rfl|rfl
 ·exact j0d d3g
 ·exact j0d u2t
def x2w:LSh:={K:=0,log:=[],ins:=[(sh 28 [(1,.int .u64 0),(2,fnV0 55),(7,.int .u64 1),(11,.imm TMr 2),(12,.int .i64 3),(13,.int .i64 4)],[])],nils:=[],outs:=[(.exit 0,sh 28 [(7,.int .u64 0)],[])],cv:=[]}
def p0v:List Dat→Tree Step:=evL h1y 54 3 ls0 x2w
theorem n1d: ∃op,IsL p0v 54 3 x2w op:=bxL w0m (LsOk.none _ _ _)
def f2o:OpA:=opL n1d
theorem w1z (env:List Dat):f2o env=a0b p0v FU env:=b0t n1d env
abbrev l3y:MBox:=boxL n1d
theorem u1z {n0 n1:Int}{l2:List (Ty.den TMr)}{n3 n4:Int}{b5:Bool}(g0:0≤n4)(g1:n3=(l2.length:Int))(h0:(n4<n3))(h1:(d0u [.n n0,.n n4])=(some (0,[.b b5])))(h2:(b5=true)):(p0v [.k 0,.n n0,.n n1,.l TMr l2,.n n3,.n n4]).sel=some (Step.go [.k 0,.n n0,.n (ior IntKind.u64 n1 (Prod.snd (Prod.snd (Prod.snd (Prod.snd (Prod.snd (List.getD l2 (Int.toNat n4) (Ty.dflt TMr)))))))),.l TMr l2,.n n3,.n (IntKind.wrap .i64 (n4+(1:Int)))]):=sP [1]<|sT (dt h0)<|sTo (c:=(inR n4 (List.length l2)))<|sA h1<|sP [1,1]<|sT h2<|sP [1,1,1]<|sL
theorem w1h {n0 n1:Int}{l2:List (Ty.den TMr)}{n3 n4:Int}{b5:Bool}(g0:0≤n4)(g1:n3=(l2.length:Int))(h0:(n4<n3))(h1:(d0u [.n n0,.n n4])=(some (0,[.b b5])))(h2:(b5=false)):(p0v [.k 0,.n n0,.n n1,.l TMr l2,.n n3,.n n4]).sel=some (Step.go [.k 0,.n n0,.n n1,.l TMr l2,.n n3,.n (IntKind.wrap .i64 (n4+(1:Int)))]):=sP [1]<|sT (dt h0)<|sTo (c:=(inR n4 (List.length l2)))<|sA h1<|sP [1,1]<|sF h2<|sP [1]<|sL
theorem y1a {n0 n1:Int}{l2:List (Ty.den TMr)}{n3 n4:Int}(g0:0≤n4)(g1:n3=(l2.length:Int))(h0:(¬n4<n3)):(p0v [.k 0,.n n0,.n n1,.l TMr l2,.n n3,.n n4]).sel=some (Step.stop 0 [.n n1]):=sP [1]<|sF (df h0)<|sP [1]<|sL
def S_m61:BSh:={args:=[.imm TMr 0,.int .u64 1,fnV0 55],blks:=[],log:=[],outs:=[(.int .u64 0,[])]}
def ev_m61:List Dat→Tree (Nat×List Dat):=evF h1y 54 (lsM [(3,l3y)] 0) S_m61
theorem e_m61: ∃op,IsF ev_m61 54 S_m61 op:=bxF w0m (lsE (lsC (b0b n1d) (atF) lsZ))
def i2r:OpA:=opF e_m61
theorem w2w {l0:List (Ty.den TMr)}{n1 n2:Int}(h0:(f2o [.k 0,.n n1,.n (0:Int),.l TMr l0,.n (↑(List.length l0):Int),.n (0:Int)])=(some (0,[.n n2]))):i2r [.l TMr l0,.n n1]=some ((0,[.n n2])):=a0g e_m61 (sA h0<|sP [1,1]<|sL)
def r2w:FuncId→Option a0f:=d0e 54 [S_m61.k i2r] h1y
theorem s1h:CsOk Try.prog r2w:=csA1 w0m e_m61
def S_m31:BSh:={args:=[msV 0,.int .u64 5],blks:=[],log:=[],outs:=[(.tup [.int .u32 0,.int .u32 1],[])]}
def ev_m31:List Dat→Tree (Nat×List Dat):=evF r2w 23 ls0 S_m31
theorem e_m31: ∃op,IsF ev_m31 23 S_m31 op:=bxF s1h (LsOk.none _ _ _)
def q0f:OpA:=opF e_m31
theorem n1o {l0:List (Ty.den TMr)}{l1:List (Ty.den TU)}{n2 n3 n4 n5 n6 n7:Int}(h0:(l1j [.l TMr l0,.n n5])=(some (0,[.n n6])))(h1:(m1r [.l TMr l0,.n n5])=(some (0,[.n n7]))):q0f [.l TMr l0,.l TU l1,.n n2,.n n3,.n n4,.n n5]=some ((0,[.n n6,.n n7])):=a0g e_m31 (sP [1]<|sA h0<|sP [1,1,1]<|sA h1<|sP [1,1,1,1]<|sL)
def y2l:FuncId→Option a0f:=a0k 23 (S_m31.k q0f) r2w
theorem r1s:CsOk Try.prog y2l:=csL1 s1h e_m31
def S_m32:BSh:={args:=[msV 0,.int .u64 5],blks:=[],log:=[],outs:=[(.int .u64 0,[])]}
def ev_m32:List Dat→Tree (Nat×List Dat):=evF y2l 24 ls0 S_m32
theorem e_m32: ∃op,IsF ev_m32 24 S_m32 op:=bxF r1s (LsOk.none _ _ _)
def g1d:OpA:=opF e_m32
theorem p2t {l0:List (Ty.den TMr)}{l1:List (Ty.den TU)}{n2 n3 n4 n5 n6:Int}(h0:(i2r [.l TMr l0,.n n5])=(some (0,[.n n6]))):g1d [.l TMr l0,.l TU l1,.n n2,.n n3,.n n4,.n n5]=some ((0,[.n n6])):=a0g e_m32 (sP [1]<|sA h0<|sP [1,1,1]<|sL)
def r2y:FuncId→Option a0f:=a0k 24 (S_m32.k g1d) y2l
theorem p1j:CsOk Try.prog r2y:=csL1 r1s e_m32
def p2 (k:Nat):B64:=1#64<<<k
def inN (n:Int):Bool:=decide (0≤n)&&decide (n<64)
def hasB (X:B64)(n:Int):Bool:=inN n&&X.getLsbD n.toNat
def d0c (X:B64)(n:Int):B64:=bif inN n then X|||p2 n.toNat else X
theorem h1m (k i:Nat):(p2 k).getLsbD i=(decide (i<64)&&decide (i=k)):=by
 unfold p2
 rw[BitVec.getLsbD_shiftLeft]
 by_cases h:i=k
 ·subst h;simp
 ·by_cases h2:i<k
  ·simp[h,h2]
  ·have:i-k≠0:=by omega
   simp[h,h2,this]
theorem h2v {k:Nat}(h:k<64):(p2 k).toNat=2^k:=by
 unfold p2
 rw[BitVec.toNat_shiftLeft,Nat.shiftLeft_eq]
 have:2^k<2^64:=Nat.pow_lt_pow_right (by omega) h
 rw[show(1#64).toNat=1 from rfl,Nat.one_mul,Nat.mod_eq_of_lt this]
theorem getN (X:B64)(k:Nat):X.getLsbD k=decide (X.toNat/2^k%2=1):=by
 rw[←BitVec.testBit_toNat,Nat.testBit_eq_decide_div_mod_eq]
theorem g3z {X:B64}{k:Nat}(hk:k<64)(h:X.getLsbD k=false):X+p2 k=X|||p2 k:=by
 apply BitVec.add_eq_or_of_and_eq_zero
 apply BitVec.eq_of_getLsbD_eq
 intro i hi
 rw[BitVec.getLsbD_and,h1m]
 by_cases e:i=k
 ·subst e;simp[h]
 ·simp[e]
theorem N_add (X Y:B64):IntKind.wrap .u64 (N X+N Y)=N (X+Y):=by
 rw[o1h]
 refine congrArg N ?_
 apply BitVec.eq_of_toNat_eq
 rw[BitVec.toNat_ofInt,BitVec.toNat_add]
 unfold N
 omega
theorem w64x {x:Int}(h0: -9223372036854775808≤x)(h1:x<9223372036854775808):IntKind.wrap .i64 x=x:=by unfold IntKind.wrap;simp[IntKind.bits,IntKind.signed];omega
theorem wu64' {x:Int}(h0:0≤x)(h1:x<18446744073709551616):IntKind.wrap .u64 x=x:=by unfold IntKind.wrap;simp[IntKind.bits,IntKind.signed];omega
theorem q_pw (k:Nat)(hk:k<64):t1i [.n (k:Int)]=some (0,[.n (N (p2 k))]):=by
 refine t2l ?_
 rw[a2c]
 refine a0j (st:=r0l) (fun i=>[.k 0,.n (k:Int),.n (N (p2 i)),.n (i:Int)]) k (0,[.n (N (p2 k))]) (fun i hi=> ?_) ?_ FU (c0v (by omega))
 ·have h:=x1x (n0:=k) (n1:=N (p2 i)) (n2:=i) (by omega)
  have e1:IntKind.wrap .u64 (N (p2 i)*(2:Int))=N (p2 (i+1)):=by
   unfold N
   rw[h2v (by omega),h2v (by omega),Nat.pow_succ]
   have:2^(i+1)≤2^63:=Nat.pow_le_pow_right (by omega) (by omega)
   rw[Nat.pow_succ]at this
   rw[wu64' (by omega) (by omega)];omega
  rw[e1,w64x (by omega) (by omega)]at h
  exact h
 ·exact u1p (by omega)
theorem q_e11 (X:B64)(n:Int):d0q [.n (N X),.n n]=some (0,[.b (hasB X n)]):=by
 unfold hasB inN
 by_cases h0:0≤n
 ·by_cases h1:n<64
  ·obtain⟨k,rfl⟩: ∃k:Nat,n=k:=⟨n.toNat,by omega⟩
   have hp:N (p2 k)=((2^k:Nat):Int):=by unfold N;rw[h2v (by omega)]
   have hpos:0<2^k:=Nat.pow_pos (by omega)
   have hne:((2^k:Nat):Int)≠0:=by have:=Nat.pos_iff_ne_zero.1 hpos;exact_mod_cast this
   rw[r2u h0 (by omega) (q_pw k (by omega)) (by rw[hp];exact hne),hp]
   have e1:Int.tdiv (N X) ((2^k:Nat):Int)=((X.toNat/2^k:Nat):Int):=by unfold N;rfl
   have hlt:X.toNat/2^k<2^64:=Nat.lt_of_le_of_lt (Nat.div_le_self _ _) X.isLt
   rw[e1,wu64' (Int.natCast_nonneg _) (Int.ofNat_lt.2 (Nat.lt_of_lt_of_le hlt (by decide)))]
   have e2:Int.tmod ((X.toNat/2^k:Nat):Int) 2=((X.toNat/2^k%2:Nat):Int):=rfl
   rw[e2,getN]
   simp only[Option.some.injEq,Prod.mk.injEq,List.cons.injEq,and_true,true_and,Dat.b.injEq]
   rw[show decide (0≤(k:Int))=true by simp,show decide ((k:Int)<64)=true by simpa using h1,Bool.true_and,Bool.true_and,Bool.eq_iff_iff,beq_iff_eq,decide_eq_true_eq]
   simp only[Int.toNat_natCast]
   omega
  ·rw[x2h h0 (by omega),decide_eq_false h1];simp
 ·rw[x2p h0,decide_eq_false h0];simp
theorem y0p {X:B64}{n:Int}(h:inN n=false):d0c X n=X:=by unfold d0c;rw[h];rfl
def firB (k:Nat):B64:=BitVec.ofNat 64 (2^k-1)
theorem e2k {k:Nat}(h:k≤64):(firB k).toNat=2^k-1:=by
 unfold firB
 rw[BitVec.toNat_ofNat]
 have:2^k≤2^64:=Nat.pow_le_pow_right (by omega) h
 exact Nat.mod_eq_of_lt (by omega)
theorem c0j {k:Nat}(h:k≤64)(i:Nat):(firB k).getLsbD i=decide (i<k):=by
 rw[←BitVec.testBit_toNat,e2k h,Nat.testBit_two_pow_sub_one]
theorem y2a {k:Nat}(h:k<64):d0c (firB k) (k:Int)=firB (k+1):=by
 unfold d0c
 have:inN (k:Int)=true:=by simp[inN];omega
 rw[this,cond_true,Int.toNat_natCast]
 apply BitVec.eq_of_getLsbD_eq
 intro i hi
 rw[BitVec.getLsbD_or,h1m,c0j (by omega),c0j (by omega)]
 by_cases e:i=k
 ·subst e;simp[hi]
 ·have:decide (i<k)=decide (i<k+1):=by rw[Bool.eq_iff_iff];simp;omega
  simp[e,this]
theorem ishl1 (k:Nat):ishl IntKind.u64 (1:Int) (k:Int)=N (p2 k):=ishlB k
theorem y0i (X:B64)(n:Int):e0v [.n (N X),.n n]=some (0,[.n (N (d0c X n))]):=by
 by_cases h0:0≤n
 ·by_cases h1:n<64
  ·obtain⟨k,rfl⟩: ∃k:Nat,n=k:=⟨n.toNat,by omega⟩
   rw[t2t h0 (by omega),ishl1,e0z]
   have:inN (k:Int)=true:=by simp[inN];omega
   unfold d0c;rw[this];rfl
  ·rw[v2f h0 (by omega),y0p (by simp[inN,h1])]
 ·rw[u2h (by omega),y0p (by simp[inN,h0])]
theorem firN (n:Int):N (firB (min n.toNat 64))=if n≤0 then 0 else if n≥64 then 18446744073709551615 else 2^n.toNat-1:=by
 unfold N
 rw[e2k (by omega)]
 by_cases h0:n≤0
 ·rw[if_pos h0,show min n.toNat 64=0 by omega];rfl
 ·rw[if_neg h0]
  by_cases h1:n≥64
  ·rw[if_pos h1,show min n.toNat 64=64 by omega];rfl
  ·rw[if_neg h1,show min n.toNat 64=n.toNat by omega]
   have:0<2^n.toNat:=Nat.pow_pos (by omega)
   simp[Int.natCast_sub this]
theorem q_e26 (n:Int):x0e [.n n]=some (0,[.n (N (firB (min n.toNat 64)))]):=by
 rw[firN]
 by_cases h0:n≤0
 ·rw[if_pos h0];exact p2n h0
 ·rw[if_neg h0]
  by_cases h1:n≥64
  ·rw[if_pos h1];exact c3w h0 h1
  ·rw[if_neg h1,c3c h0 h1]
   obtain⟨k,rfl⟩: ∃k:Nat,n=k:=⟨n.toNat,by omega⟩
   have hp:N (p2 k)=((2^k:Nat):Int):=by unfold N;rw[h2v (by omega)]
   have hlt:2^k<2^64:=Nat.pow_lt_pow_right (by omega) (by omega)
   have hpos:0<2^k:=Nat.pow_pos (by omega)
   rw[ishl1,hp,wu64' (by omega) (by omega)]
   simp
def ofL (l:List Int):B64:=l.foldl d0c 0#64
theorem i3l (l:List Int){i:Nat}(hi:i<l.length):ofL (l.take (i+1))=d0c (ofL (l.take i)) (l.getD i 0):=by
 unfold ofL
 rw[List.take_add_one,List.getElem?_eq_getElem hi,List.foldl_append]
 simp[List.getD_eq_getElem?_getD,List.getElem?_eq_getElem hi]
theorem q_e17 (l:List Int)(hl:l.length≤9223372036854775807):e2o [.l TI l]=some (0,[.n (N (ofL l))]):=by
 refine u2m ?_
 rw[x1t]
 refine a0j (st:=t0y) (fun i=>[.k 0,.n (N (ofL (l.take i))),.l TI l,.n (l.length:Int),.n (i:Int)]) l.length (0,[.n (N (ofL l))]) (fun i hi=> ?_) ?_ FU (c0v hl)
 ·have h:=v1e (n3:=i) (n2:=l.length) (l1:=l) (by omega) rfl (by omega) (y0i (ofL (l.take i)) _)
  rw[w64x (by omega) (by omega)]at h
  rw[show(Int.toNat (i:Int))=i from rfl,show d0c (ofL (l.take i)) (l.getD i 0)=_ from(i3l l hi).symm]at h
  exact h
 ·have h:=y1i (n0:=N (ofL (l.take l.length))) (n3:=l.length) (n2:=l.length) (l1:=l) (by omega) rfl (by omega)
  rw[List.take_length]at h⊢;exact h
theorem q_e10 (X:B64)(n:Int):d0u [.n (N X),.n n]=some (0,[.b (hasB X n)]):=by
 unfold hasB inN
 by_cases h0:0≤n
 ·by_cases h1:n<64
  ·obtain⟨k,rfl⟩: ∃k:Nat,n=k:=⟨n.toNat,by omega⟩
   rw[d3f h0 h1,iandB,decide_eq_true h0,decide_eq_true h1];rfl
  ·rw[a3z h0 h1,decide_eq_false h1];simp
 ·rw[s2b h0,decide_eq_false h0];simp
def ptsR (z:Bool)(l:LN):List Int:=(l.filter fun d=>g2 d==z).map f1
theorem q1i (z:Bool)(l:LN){i:Nat}(hi:i<l.length):ptsR z (l.take (i+1))=if(g2 (l.getD i (Ty.dflt TNd))==z)=true then ptsR z (l.take i)++[f1 (l.getD i (Ty.dflt TNd))]else ptsR z (l.take i):=by
 unfold ptsR
 rw[List.take_add_one,List.getElem?_eq_getElem hi,List.getD_eq_getElem?_getD,List.getElem?_eq_getElem hi]
 simp only[Option.toList,Option.getD_some,List.filter_append,List.map_append,List.filter_cons,List.filter_nil]
 split<;>simp
theorem q2s (l:List Int)(x:Int):ofL (l++[x])=d0c (ofL l) x:=by unfold ofL;rw[List.foldl_append];rfl
def p0 (e:Rt):Int:=(eP e).getD 0 0
def mrow (c:LP)(e:Rt)(t:Int):Ty.den TMr:=(N (ofL (trk e)),N (d0c 0#64 (p0 e)),N (d0c 0#64 (ptS c (eN e))),IntKind.wrap .u32 (N (ofL (ptsR false (ndsE e)))),IntKind.wrap .u32 (N (ofL (ptsR true (ndsE e)))),t)
theorem lp54m (a:LS)(b c:LP)(r:LR)(s:ByteArray)(n:Int)(p:LI)(q:LN)(o:LI)(f:LN)(t x1 x2 x3 x4 x5 x6:Int)(l:LN)(hl:l.length≤1000):
  l1n [.k 0,.n t,.n 0,.n 0,.n (l.length:Int),.n 0,.l TS a,.l TPt b,.l TPt c,.l TRt r,.s s,.n n,.l TI p,.l TNd q,.l TI o,.l TNd f,.n x1,.n x2,.n x3,.n x4,.n x5,.n x6,.l TNd l]=
   some (0,[.n t,.n (N (ofL (ptsR false l))),.n (N (ofL (ptsR true l))),.l TS a,.l TPt b,.l TPt c,.l TRt r,.s s,.n n,.l TI p,.l TNd q,.l TI o,.l TNd f,.n x1,.n x2,.n x3,.n x4,.n x5,.n x6]):=by
 rw[w1y]
 refine a0j (st:=o0y) (fun i=>[.k 0,.n t,.n (N (ofL (ptsR false (l.take i)))),.n (N (ofL (ptsR true (l.take i)))),.n (l.length:Int),.n (i:Int),.l TS a,.l TPt b,.l TPt c,.l TRt r,.s s,.n n,.l TI p,.l TNd q,.l TI o,.l TNd f,.n x1,.n x2,.n x3,.n x4,.n x5,.n x6,.l TNd l]) l.length (0,[.n t,.n (N (ofL (ptsR false l))),.n (N (ofL (ptsR true l))),.l TS a,.l TPt b,.l TPt c,.l TRt r,.s s,.n n,.l TI p,.l TNd q,.l TI o,.l TNd f,.n x1,.n x2,.n x3,.n x4,.n x5,.n x6]) (fun i hi=> ?_) ?_ FU (c0v (by omega))
 ·show _=some (Step.go [.k 0,.n t,.n (N (ofL (ptsR false (l.take (i+1))))),.n (N (ofL (ptsR true (l.take (i+1))))),.n (l.length:Int),.n ((i+1:Nat):Int),.l TS a,.l TPt b,.l TPt c,.l TRt r,.s s,.n n,.l TI p,.l TNd q,.l TI o,.l TNd f,.n x1,.n x2,.n x3,.n x4,.n x5,.n x6,.l TNd l])
  rw[q1i false l hi,q1i true l hi,←w1n i (by omega)]
  cases h:g2 (l.getD i (Ty.dflt TNd))with
  |true=>
   rw[if_neg (by simp),if_pos (by simp),q2s]
   exact u1v (by omega) rfl (by omega) h (y0i _ _)
  |false=>
   rw[if_pos (by simp),if_neg (by simp),q2s]
   exact b2f (by omega) rfl (by omega) h (y0i _ _)
 ·show _=some (Step.stop 0 [.n t,.n (N (ofL (ptsR false l))),.n (N (ofL (ptsR true l))),.l TS a,.l TPt b,.l TPt c,.l TRt r,.s s,.n n,.l TI p,.l TNd q,.l TI o,.l TNd f,.n x1,.n x2,.n x3,.n x4,.n x5,.n x6])
  rw[←congrArg (ptsR false) (List.take_length (l:=l)),←congrArg (ptsR true) (List.take_length (l:=l))]
  exact x1s (by omega) rfl (by omega)
theorem o54m (a:LS)(b c:LP)(r:LR)(e:Rt)(t:Int)(hk:rtOk b c e)(hw:wfE b c e=true):
  j2c [.l TS a,.l TPt b,.l TPt c,.l TRt r,.s (eS e),.n (eN e),.l TI (eP e),.l TNd (eQ e),.l TI (eO e),.l TNd (eF e),.n t]=some (0,[.n (mrow c e t).1,.n (mrow c e t).2.1,.n (mrow c e t).2.2.1,.n (mrow c e t).2.2.2.1,.n (mrow c e t).2.2.2.2.1,.n (mrow c e t).2.2.2.2.2]):=by
 obtain⟨⟨k1,k2⟩,⟨l1,l2,l3,l4⟩,k3,k4⟩:=hk
 have hp:0<(eP e).length:=by
  unfold wfE wfR at hw
  exact of_decide_eq_true (Bool.and_eq_true_iff.1 hw).1
 have hn:(ndsE e).length≤1000:=by unfold ndsE;rw[show List.append (eQ e) (eF e)=eQ e++eF e from rfl,List.length_append];omega
 have ht:(trk e).length≤9223372036854775807:=by unfold trk;rw[List.length_append];omega
 exact e3o (o10 _ _ _ _ _ _ l1 l2 l3 l4) (lp54m a b c r _ _ _ _ _ _ t 0 0 0 0 0 0 (ndsE e) hn) (o9 _ _ _ _ _ _ l1 l2 l3 l4) (q_e17 (trk e) ht) (b0d (i:=0) (n:=(eP e).length) (by omega) (by omega)) (y0i 0#64 (p0 e)) (b0d k1 k2) (y0i 0#64 (ptS c (eN e)))
def e0n (c:LP)(r:LR)(T:List Int)(k:Nat):List (Ty.den TMr):=(List.range k).map fun i=>mrow c (r.getD i (Ty.dflt TRt)) (T.getD i 0)
theorem n0e (c:LP)(r:LR)(T:List Int)(k:Nat):(e0n c r T k).length=k:=by unfold e0n;rw[List.length_map,List.length_range]
theorem o2c (c:LP)(r:LR)(T:List Int)(k:Nat):e0n c r T (k+1)=apL (e0n c r T k) [mrow c (r.getD k (Ty.dflt TRt)) (T.getD k 0)]:=by unfold e0n;rw[List.range_succ,List.map_append];rfl
def u0p (b:LP)(k:Nat):List Int:=(List.range k).map fun i=>N (d0c 0#64 (Prod.snd (b.getD i (Ty.dflt TPt))))
theorem e1h (b:LP)(k:Nat):(u0p b k).length=k:=by unfold u0p;rw[List.length_map,List.length_range]
theorem k2s (b:LP)(k:Nat):u0p b (k+1)=u0p b k++[N (d0c 0#64 (Prod.snd (b.getD k (Ty.dflt TPt))))]:=by unfold u0p;rw[List.range_succ,List.map_append];rfl
abbrev allR (b c:LP)(r:LR):Prop:= ∀i,i<r.length→rtOk b c (r.getD i (Ty.dflt TRt))∧wfE b c (r.getD i (Ty.dflt TRt))=true
def mkA (a:LS)(b c:LP)(r:LR):Nat×List Dat:=if(ckA a b c r).1=0 then(0,[.n (N (firB (min r.length 64))),.n (IntKind.wrap .u32 (N (firB (min b.length 64)))),.n (N (firB (min a.length 64))),.n 0,.l TMr (e0n c r (NL (tabB b r)) r.length),.l TU (u0p b b.length)])else(1,[.n 0,.n 0,.n 0,.n (ckA a b c r).1])
theorem tab_len (b:LP)(r:LR):(NL (tabB b r)).length=r.length:=by rw[g2j];exact o0n ..
theorem ck_all {a:LS}{b c:LP}{r:LR}(h:(ckA a b c r).1=0):b.length≤32∧r.length≤64∧allR b c r:=by
 obtain⟨hm,hw⟩:=(x2k a b c r).1 h
 obtain⟨h1,h2,h3⟩:=e1w hm
 exact⟨h1,h2,fun i hi=>⟨h3 i hi,hw _ (a1n hi)⟩⟩
theorem lq28i_6 (a:LS)(b c:LP)(r:LR)(T:List Int)(y1 y2 y3 z1 z2 z3:Int)(hr:r.length≤64)(hT:T.length=r.length)(hk:allR b c r):
  f1f [.k 0,.l TRt r,.n (r.length:Int),.n 0,.l TS a,.l TPt b,.l TPt c,.l TRt r,.n y1,.n y2,.n y3,.l TU T,.n z1,.n z2,.n z3,.l TMr []]=some (0,[.l TS a,.l TPt b,.l TPt c,.l TRt r,.n y1,.n y2,.n y3,.n z1,.n z2,.n z3,.l TMr (e0n c r T r.length)]):=by
 rw[r1k]
 refine a0j (st:=n0r) (fun i=>[.k 0,.l TRt r,.n (r.length:Int),.n (i:Int),.l TS a,.l TPt b,.l TPt c,.l TRt r,.n y1,.n y2,.n y3,.l TU T,.n z1,.n z2,.n z3,.l TMr (e0n c r T i)]) r.length (0,[.l TS a,.l TPt b,.l TPt c,.l TRt r,.n y1,.n y2,.n y3,.n z1,.n z2,.n z3,.l TMr (e0n c r T r.length)]) (fun i hi=> ?_) ?_ FU (c0v (by omega))
 ·show _=some (Step.go [.k 0,.l TRt r,.n (r.length:Int),.n ((i+1:Nat):Int),.l TS a,.l TPt b,.l TPt c,.l TRt r,.n y1,.n y2,.n y3,.l TU T,.n z1,.n z2,.n z3,.l TMr (e0n c r T (i+1))])
  rw[o2c,←w1n i (by omega)]
  have hl:=n0e c r T i
  exact s1z (by omega) rfl (congrArg Int.ofNat hT.symm) (by omega) (o54m a b c r _ (T.getD i 0) (hk i hi).1 (hk i hi).2) (by omega)
 ·exact o1v (by omega) rfl (congrArg Int.ofNat hT.symm) (by omega)
theorem f3m (b:LP)(M:List (Ty.den TMr))(y1 y2 y3 z1 z2 z3:Int)(hb:b.length≤32):
  v0o [.k 0,.l TPt b,.n (b.length:Int),.n 0,.n y1,.n y2,.n y3,.n z1,.n z2,.n z3,.l TMr M,.l TU []]=some (0,[.n y1,.n y2,.n y3,.n z1,.n z2,.n z3,.l TMr M,.l TU (u0p b b.length)]):=by
 rw[j1b]
 refine a0j (st:=k0e) (fun i=>[.k 0,.l TPt b,.n (b.length:Int),.n (i:Int),.n y1,.n y2,.n y3,.n z1,.n z2,.n z3,.l TMr M,.l TU (u0p b i)]) b.length (0,[.n y1,.n y2,.n y3,.n z1,.n z2,.n z3,.l TMr M,.l TU (u0p b b.length)]) (fun i hi=> ?_) ?_ FU (c0v (by omega))
 ·show _=some (Step.go [.k 0,.l TPt b,.n (b.length:Int),.n ((i+1:Nat):Int),.n y1,.n y2,.n y3,.n z1,.n z2,.n z3,.l TMr M,.l TU (u0p b (i+1))])
  rw[k2s,←w1n i (by omega)]
  have hl:=e1h b i
  exact j1g (by omega) rfl (by omega) (y0i 0#64 _) (show(List.length (α:=Int) (u0p b i)+1)*8≤140737488355328 by omega)
 ·exact m1t (by omega) rfl (by omega)
theorem o28i (a:LS)(b c:LP)(r:LR)(hs:okS a b c r):w0j [.l TS a,.l TPt b,.l TPt c,.l TRt r]=some (mkA a b c r):=by
 have e:=o17c a b c r hs
 unfold mkA
 by_cases h:(ckA a b c r).1=0
 ·rw[if_pos h]at e⊢
  obtain⟨h1,h2,h3⟩:=ck_all h
  have f6:=lq28i_6 a b c r (NL (tabB b r)) 0 0 0 (N (firB (min r.length 64))) (IntKind.wrap .u32 (N (firB (min b.length 64)))) (N (firB (min a.length 64))) h2 (tab_len b r) h3
  exact k2f e rfl (q_e26 _) (q_e26 _) (q_e26 _) f6 (f3m b _ 0 0 0 _ _ _ h1)
 ·rw[if_neg h]at e⊢
  exact o2k e h
theorem k0h (X:B64)(n:Int){k:Nat}(hk:k<64):(d0c X n).getLsbD k=(X.getLsbD k||decide ((k:Int)=n)):=by
 unfold d0c
 cases h:inN n with
 |true=>
  unfold inN at h
  rw[Bool.and_eq_true,decide_eq_true_eq,decide_eq_true_eq]at h
  rw[cond_true,BitVec.getLsbD_or,h1m,decide_eq_true hk,Bool.true_and]
  congr 1
  rw[Bool.eq_iff_iff,decide_eq_true_eq,decide_eq_true_eq];omega
 |false=>
  unfold inN at h
  rw[Bool.and_eq_false_iff,decide_eq_false_iff_not,decide_eq_false_iff_not]at h
  rw[cond_false,decide_eq_false (by omega),Bool.or_false]
theorem ofL_bit (l:List Int){k:Nat}(hk:k<64):(ofL l).getLsbD k=decide ((k:Int)∈l):=by
 have key: ∀(l:List Int) (X:B64),(l.foldl d0c X).getLsbD k=(X.getLsbD k||decide ((k:Int)∈l)):=by
  intro l
  induction l with
  |nil=>intro X;simp
  |cons x l ih=>intro X;rw[List.foldl_cons,ih,k0h _ _ hk,Bool.or_assoc];simp[List.mem_cons]
 unfold ofL
 rw[key];simp
def acc {w:Nat}(X:B64)(f:Nat→BitVec w):Nat→BitVec w
 |0=>0#w
 |i+1=>bif X.getLsbD i then acc X f i|||f i else acc X f i
theorem i0x {w:Nat}(X:B64)(f:Nat→BitVec w)(j:Nat): ∀m,(acc X f m).getLsbD j=true↔ ∃i,i<m∧X.getLsbD i=true∧(f i).getLsbD j=true
 |0=>by simp[acc]
 |m+1=>by
  have ih:=i0x X f j m
  unfold acc
  cases h:X.getLsbD m with
  |true=>
   rw[cond_true,BitVec.getLsbD_or,Bool.or_eq_true,ih]
   constructor
   ·rintro(⟨i,a,b,c⟩|c)
    ·exact⟨i,by omega,b,c⟩
    ·exact⟨m,by omega,h,c⟩
   ·rintro⟨i,a,b,c⟩
    rcases Nat.lt_or_ge i m with q|q
    ·exact .inl ⟨i,q,b,c⟩
    ·rw[show i=m by omega]at c;exact .inr c
  |false=>
   rw[cond_false,ih]
   constructor
   ·rintro⟨i,a,b,c⟩;exact⟨i,by omega,b,c⟩
   ·rintro⟨i,a,b,c⟩
    rcases Nat.lt_or_ge i m with q|q
    ·exact⟨i,q,b,c⟩
    ·rw[show i=m by omega,h]at b;cases b
theorem acc_t {w:Nat}{X:BitVec 64}(f:Nat→BitVec w){i:Nat}(h:X.getLsbD i=true):acc X f (i+1)=acc X f i|||f i:=by
 show(bif X.getLsbD i then _ else _)=_
 rw[h];rfl
theorem acc_f {w:Nat}{X:BitVec 64}(f:Nat→BitVec w){i:Nat}(h:X.getLsbD i=false):acc X f (i+1)=acc X f i:=by
 show(bif X.getLsbD i then _ else _)=_
 rw[h];rfl
theorem c1w (Y:B64):IntKind.wrap .u32 (N Y)=N (Y.setWidth 32):=by
 rw[b3j]
 refine congrArg N (BitVec.eq_of_toNat_eq ?_)
 rw[BitVec.toNat_ofInt,BitVec.toNat_setWidth]
 unfold N;omega
theorem bv0 {w:Nat}{X:BitVec w}(h: ∀k,k<w→ ¬X.getLsbD k=true):X=0#w:=by
 apply BitVec.eq_of_getLsbD_eq
 intro i hi
 rw[BitVec.getLsbD_zero]
 cases e:X.getLsbD i with
 |true=>exact absurd e (h i hi)
 |false=>rfl
theorem and0 {w:Nat}{X Y:BitVec w}(h: ∀k,k<w→X.getLsbD k=true→Y.getLsbD k=true→False):X&&&Y=0#w:=
 bv0 fun k hk e=>by rw[BitVec.getLsbD_and,Bool.and_eq_true]at e;exact h k hk e.1 e.2
section
variable (b c:LP) (r:LR)
abbrev rN (r:LR)(i:Nat):Rt:=r.getD i (Ty.dflt TRt)
def fT (i:Nat):B64:=ofL (trk (rN r i))
def f32 (z:Bool)(i:Nat):BitVec 32:=(ofL (ptsR z (ndsE (rN r i)))).setWidth 32
def fC (i:Nat):B64:=(tabB b r).getD i 0#64
theorem g3p {T:List Int}{k i:Nat}(h:i<k):(e0n c r T k).getD i (Ty.dflt TMr)=mrow c (rN r i) (T.getD i 0):=by
 unfold e0n
 rw[List.getD_eq_getElem?_getD,List.getElem?_map,List.getElem?_range h];rfl
theorem u0c {i:Nat}(h:i<r.length):(e0n c r (NL (tabB b r)) r.length).getD i (Ty.dflt TMr)=(N (fT r i),N (d0c 0#64 (p0 (rN r i))),N (d0c 0#64 (ptS c (eN (rN r i)))),N (f32 r false i),N (f32 r true i),N (fC b r i)):=by
 rw[g3p c r h]
 unfold mrow fT f32 fC
 rw[c1w,c1w,NL_at];rfl
end
theorem pts_mem {z:Bool}{l:LN}{x:Int}:x∈ptsR z l↔ ∃d∈l,f1 d=x∧g2 d=z:=by
 unfold ptsR
 rw[List.mem_map]
 constructor
 ·rintro⟨d,hd,e⟩
  rw[List.mem_filter]at hd
  exact⟨d,hd.1,e,by simpa using hd.2⟩
 ·rintro⟨d,hd,e,g⟩
  exact⟨d,List.mem_filter.2 ⟨hd,by simpa using g⟩,e⟩
theorem e0r {r:LR}{z:Bool}{i j:Nat}(hj:j<32):(f32 r z i).getLsbD j=true↔ ∃d∈ndsE (rN r i),f1 d=(j:Int)∧g2 d=z:=by
 unfold f32
 rw[BitVec.getLsbD_setWidth,decide_eq_true hj,Bool.true_and,ofL_bit _ (by omega),decide_eq_true_eq,pts_mem]
structure WF (a:LS)(b c:LP)(r:LR):Prop where
 la:a.length≤64
 lb:b.length≤32
 lr:r.length≤64
 tr: ∀i,i<r.length→ ∀x∈trk (rN r i),0≤x∧x<(a.length:Int)
 pt: ∀i,i<r.length→f0p b (ndsE (rN r i))
 all:allR b c r
theorem wf_of {a:LS}{b c:LP}{r:LR}(h:(ckA a b c r).1=0):WF a b c r:=by
 obtain⟨hm,hw⟩:=(x2k a b c r).1 h
 obtain⟨h1,h2,h3⟩:=ck_all h
 have h:=hm
 unfold mayL at h
 rw[Bool.and_eq_true]at h
 obtain⟨q1,-,-,-⟩:=(@of_decide_eq_true (smallL a b c r) (instDecidableSmallL a b c r) h.1)
 have h:=h.2
 simp only[Bool.and_eq_true]at h
 obtain⟨h5,h6,h7,h8⟩:=h
 refine⟨q1,h1,h2,fun i hi x hx=> ?_,fun i hi d hd=> ?_,h3⟩
 ·have k:=List.all_eq_true.1 h7 i (List.mem_range'_1.2 (by omega))
  unfold okR mayR at k
  simp only[Bool.and_eq_true,decide_eq_true_eq]at k
  obtain⟨k1,k2,k3,k4,k5,k6⟩:=k
  unfold trk at hx
  rcases List.mem_append.1 hx with hx|hx
  ·exact(r2b k3).2 x hx
  ·exact(r2b k5).2 x hx
 ·obtain⟨⟨-,-,k3,k4⟩,-⟩:=h3 i hi
  unfold ndsE at hd
  rcases List.mem_append.1 hd with hd|hd
  ·exact k3 d hd
  ·exact k4 d hd
section
variable {a:LS} {b c:LP} {r:LR} (w:WF a b c r)
include w
theorem fC_bit {i k:Nat}(hi:i<r.length)(hk:k<r.length):(fC b r i).getLsbD k=clN b r i k:=by
 have:=w.lr
 have:=tab_bit b r hi w.lr (show k<64 by omega)
 unfold bitT at this
 unfold fC
 rw[this,decide_eq_true hk,Bool.true_and]
end
theorem h0x (X:B64){i:Nat}(h:i<64):hasB X (i:Int)=X.getLsbD i:=by
 unfold hasB inN
 rw[decide_eq_true (show(0:Int)≤(i:Int) by omega),decide_eq_true (show(i:Int)<64 by omega)];rfl
theorem om58a (b c:LP)(r:LR)(X:B64)(hr:r.length≤64):l1j [.l TMr (e0n c r (NL (tabB b r)) r.length),.n (N X)]=some (0,[.n (N (acc X (f32 r false) r.length))]):=by
 have hl:=n0e c r (NL (tabB b r)) r.length
 refine o2g ?_
 rw[hl,t1u]
 refine a0j (st:=j0x) (fun i=>[.k 0,.n (N X),.n (N (acc X (f32 r false) i)),.l TMr (e0n c r (NL (tabB b r)) r.length),.n (r.length:Int),.n (i:Int)]) r.length (0,[.n (N (acc X (f32 r false) r.length))]) (fun i hi=> ?_) ?_ FU (c0v (by omega))
 ·show _=some (Step.go [.k 0,.n (N X),.n (N (acc X (f32 r false) (i+1))),.l TMr (e0n c r (NL (tabB b r)) r.length),.n (r.length:Int),.n ((i+1:Nat):Int)])
  rw[←w1n i (by omega)]
  have e:=q_e10 X (i:Int)
  rw[h0x X (by omega)]at e
  have ra:=u0c b c r hi
  cases h:X.getLsbD i with
  |true=>
   rw[h]at e
   have s:=r1u (n1:=N (acc X (f32 r false) i)) (n4:=(i:Int)) (n3:=(r.length:Int)) (l2:=e0n c r (NL (tabB b r)) r.length) (by omega) (by rw[hl]) (by omega) e rfl
   rw[acc_t _ h,←e1a]
   have t:=congrArg (fun x:Ty.den TMr=>some (Step.go [.k 0,.n (N X),.n (ior IntKind.u32 (N (acc X (f32 r false) i)) x.2.2.2.1),.l TMr (e0n c r (NL (tabB b r)) r.length),.n (r.length:Int),.n (IntKind.wrap .i64 ((i:Int)+1))])) ra
   have u:=s.trans t
   exact u
  |false=>
   rw[h]at e
   rw[acc_f _ h]
   exact r1q (by omega) (by rw[hl]) (by omega) e rfl
 ·exact o1p (by omega) (by rw[hl]) (by omega)
theorem om58b (b c:LP)(r:LR)(X:B64)(hr:r.length≤64):m1r [.l TMr (e0n c r (NL (tabB b r)) r.length),.n (N X)]=some (0,[.n (N (acc X (f32 r true) r.length))]):=by
 have hl:=n0e c r (NL (tabB b r)) r.length
 refine n2u ?_
 rw[hl,t1l]
 refine a0j (st:=j0f) (fun i=>[.k 0,.n (N X),.n (N (acc X (f32 r true) i)),.l TMr (e0n c r (NL (tabB b r)) r.length),.n (r.length:Int),.n (i:Int)]) r.length (0,[.n (N (acc X (f32 r true) r.length))]) (fun i hi=> ?_) ?_ FU (c0v (by omega))
 ·show _=some (Step.go [.k 0,.n (N X),.n (N (acc X (f32 r true) (i+1))),.l TMr (e0n c r (NL (tabB b r)) r.length),.n (r.length:Int),.n ((i+1:Nat):Int)])
  rw[←w1n i (by omega)]
  have e:=q_e10 X (i:Int)
  rw[h0x X (by omega)]at e
  have ra:=u0c b c r hi
  cases h:X.getLsbD i with
  |true=>
   rw[h]at e
   have s:=r1y (n1:=N (acc X (f32 r true) i)) (n4:=(i:Int)) (n3:=(r.length:Int)) (l2:=e0n c r (NL (tabB b r)) r.length) (by omega) (by rw[hl]) (by omega) e rfl
   rw[acc_t _ h,←e1a]
   have t:=congrArg (fun x:Ty.den TMr=>some (Step.go [.k 0,.n (N X),.n (ior IntKind.u32 (N (acc X (f32 r true) i)) x.2.2.2.2.1),.l TMr (e0n c r (NL (tabB b r)) r.length),.n (r.length:Int),.n (IntKind.wrap .i64 ((i:Int)+1))])) ra
   have u:=s.trans t
   exact u
  |false=>
   rw[h]at e
   rw[acc_f _ h]
   exact s1j (by omega) (by rw[hl]) (by omega) e rfl
 ·exact s1u (by omega) (by rw[hl]) (by omega)
theorem om61 (b c:LP)(r:LR)(X:B64)(hr:r.length≤64):i2r [.l TMr (e0n c r (NL (tabB b r)) r.length),.n (N X)]=some (0,[.n (N (acc X (fC b r) r.length))]):=by
 have hl:=n0e c r (NL (tabB b r)) r.length
 refine w2w ?_
 rw[hl,w1z]
 refine a0j (st:=p0v) (fun i=>[.k 0,.n (N X),.n (N (acc X (fC b r) i)),.l TMr (e0n c r (NL (tabB b r)) r.length),.n (r.length:Int),.n (i:Int)]) r.length (0,[.n (N (acc X (fC b r) r.length))]) (fun i hi=> ?_) ?_ FU (c0v (by omega))
 ·show _=some (Step.go [.k 0,.n (N X),.n (N (acc X (fC b r) (i+1))),.l TMr (e0n c r (NL (tabB b r)) r.length),.n (r.length:Int),.n ((i+1:Nat):Int)])
  rw[←w1n i (by omega)]
  have e:=q_e10 X (i:Int)
  rw[h0x X (by omega)]at e
  have ra:=u0c b c r hi
  cases h:X.getLsbD i with
  |true=>
   rw[h]at e
   have s:=u1z (n1:=N (acc X (fC b r) i)) (n4:=(i:Int)) (n3:=(r.length:Int)) (l2:=e0n c r (NL (tabB b r)) r.length) (by omega) (by rw[hl]) (by omega) e rfl
   rw[acc_t _ h,←e0z]
   have t:=congrArg (fun x:Ty.den TMr=>some (Step.go [.k 0,.n (N X),.n (ior IntKind.u64 (N (acc X (fC b r) i)) x.2.2.2.2.2),.l TMr (e0n c r (NL (tabB b r)) r.length),.n (r.length:Int),.n (IntKind.wrap .i64 ((i:Int)+1))])) ra
   have u:=s.trans t
   exact u
  |false=>
   rw[h]at e
   rw[acc_f _ h]
   exact w1h (by omega) (by rw[hl]) (by omega) e rfl
 ·exact y1a (by omega) (by rw[hl]) (by omega)
end Go.Proofs.Ytcbhgaeiokfcdaa.Vx
end
