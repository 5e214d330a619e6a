import Derived.RangeFuncNested
import Derived.RangeFuncBound
import Derived.RangeFuncCalls
import Derived.RangeFuncLeaves
import Derived.RangeFuncBox
import Derived.Shelf.Abstract
import Derived.Shelf.RegionOpen
import Derived.WalkKit
import Derived.OwnWalkIn
import Derived.TacticsInMore
import Derived.LoopNIn
import Derived.LoopIn
import Derived.Maps.AppendAt
import Derived.Test.YtcbhgaeiokfcdaaGreatProg
import Derived.Test.YtcbhgaeiokfcdaaGreatVxIm
import Derived.Test.YtcbhgaeiokfcdaaGreatVxLk
import Derived.Test.YtcbhgaeiokfcdaaGreatVxLaw
import Derived.Test.YtcbhgaeiokfcdaaGreatZ06n
import Derived.Test.YtcbhgaeiokfcdaaGreatZ06m
import Derived.KernelRfl
import Derived.Test.YtcbhgaeiokfcdaaGreatZ06j
import Derived.Test.YtcbhgaeiokfcdaaGreatVxAsk
namespace Go.Proofs
open Go.RowKit Go.Shelf
attribute [local go_sem] Oper.semAt_some
namespace YtcbhgaeiokfcdaaGreat.Bt
def enc (k:Nat):Value:=.int .i64 (k:Int)
def hasI (x n:Int):Bool:=bits BinOp.and IntKind.u64 (x/2^n.toNat) 1==1
def bitsTo (x:Int):Nat→List Nat
 |0=>[]
 |k+1=>bitsTo x k++(bif hasI x k then[k]else[])
theorem u3q (x:Int):bitsTo x 0=[]:=rfl
theorem bitsTo_hit {x:Int}{k:Nat}(h:hasI x k=true):bitsTo x (k+1)=bitsTo x k++[k]:=by simp[bitsTo,h]
theorem bitsTo_miss {x:Int}{k:Nat}(h:hasI x k=false):bitsTo x (k+1)=bitsTo x k:=by simp[bitsTo,h]
theorem o3x (x:Int): ∀k,(bitsTo x k).length≤k
 |0=>Nat.le_refl _
 |k+1=>by have:=o3x x k;cases h:hasI x k<;>simp[bitsTo,h]<;>omega
theorem y3f (x:Int): ∀{k m:Nat},k≤m→bitsTo x k<+:bitsTo x m:=by
  intro k m h
  induction m with
  |zero=>have:k=0:=by omega
         subst this;exact List.prefix_refl _
  |succ m ih=>
   rcases Nat.lt_or_ge m k with q|q
   · have:k=m+1:=by omega
     subst this;exact List.prefix_refl _
   · exact(ih q).trans ⟨_,rfl⟩
attribute [local irreducible] bitsTo
set_option maxRecDepth 100000 in
set_option maxHeartbeats 1000000 in
theorem fits_in (F:Fence)(n:Nat)(h30:F.fn 74)(hro:F.round=none)(k:Int)(w:World):
  CallsIn F n Tryz.prog 74 #[.int .i64 k] w fun e w'=>e=.returned (.bool (decide (0≤k)&&decide (k<64)))∧w'=w:=by
 refine callsIn_of_wp Tryz.func74 rfl h30 ?_ hro
 simp only[Tryz.ntmps74,List.size_toArray,List.length_cons,List.length_nil,Nat.reduceAdd,Nat.reduceSub,Array.replicate_succ,Array.replicate_zero,List.push_toArray,List.append_toArray,List.nil_append,List.cons_append]
 gi_wp2
 all_goals go_ret
 all_goals (simp_all<;>omega)
set_option maxRecDepth 100000 in
set_option maxHeartbeats 1000000 in
theorem has_in (F:Fence)(n:Nat)(h10:F.fn 72)(h30:F.fn 74)(hro:F.round=none)(hn:1≤n)(x k:Int)(h0:0≤k)(h1:k<64)(w:World):
  CallsIn F n Tryz.prog 72 #[.int .u64 x,.int .i64 k] w fun e w'=>e=.returned (.bool (hasI x k))∧w'=w:=by
 refine callsIn_of_wp Tryz.func72 rfl h10 ?_ hro
 simp only[Tryz.ntmps72,List.size_toArray,List.length_cons,List.length_nil,Nat.reduceAdd,Nat.reduceSub,Array.replicate_succ,Array.replicate_zero,List.push_toArray,List.append_toArray,List.nil_append,List.cons_append]
 gi_wp2_with (gi_at_call 74;refine(fits_in F (n-1) h30 hro _ _).mono ?_;rintro e w' ⟨rfl,rfl⟩)
 all_goals go_ret
 all_goals (simp_all [hasI])
set_option maxRecDepth 100000 in
set_option maxHeartbeats 1000000 in
theorem a4a (F:Fence)(n:Nat)(h32:F.fn 57)(hro:F.round=none)(x:Int)(w:World):
  CallsIn F n Tryz.prog 57 #[.int .u64 x] w fun e w'=>e=.returned (.func (.func 80) #[] #[.pointer (some ⟨w.heap.size,0,none⟩)])∧w'=w.alloc (.cells #[.int .u64 x] 28):=by
 refine callsIn_of_wp Tryz.func57 rfl h32 ?_ hro
 simp only[Tryz.ntmps57,List.size_toArray,List.length_cons,List.length_nil,Nat.reduceAdd,Nat.reduceSub,Array.replicate_succ,Array.replicate_zero,List.push_toArray,List.append_toArray,List.nil_append,List.cons_append]
 gi_wp2
 go_ret
 exact⟨rfl,rfl⟩
def KB (Bx:Nat)(W W':World):Prop:= ∀v,Boxed W Bx 28 v→Boxed W' Bx 28 v
theorem KB_t {Bx:Nat}{A B C:World}(h:KB Bx A B)(k:KB Bx B C):KB Bx A C:=fun v hv=>k v (h v hv)
theorem KB_b {Bx:Nat}(W:World)(l:Nat)(o o':Obj)(hl:W.heap[l]? =some o)(ho:o.isCells=false):KB Bx W (W.putObj l o'):=fun v hv=>by
 have hne:Bx≠l:=by
  rintro rfl
  have:W.heap[Bx]? =some (.cells #[v] 28 (0,0)):=hv
  rw[this]at hl;cases hl;cases ho
 exact(World.putObj_heap_other hne).trans hv
set_option maxRecDepth 100000 in
set_option maxHeartbeats 2000000 in
theorem g4m (F:Fence)(n:Nat)(h34:F.fn 80)(h10:F.fn 72)(h30:F.fn 74)(hro:F.round=none)(hn:2≤n)(l Bx:Nat)(x:Int)(J Jx:List Nat→World→Prop)
  (hY: ∀pre (k:Nat) W,J pre W→pre.length<64→YieldAt F (n-1) Tryz.prog l #[.int .i64 (k:Int)] W fun e W'=>
   (e=.returned (.bool true)∧J (pre++[k]) W'∧KB Bx W W')∨(e=.returned (.bool false)∧Jx (pre++[k]) W'))
  (W:World) (hBB:Boxed W Bx 28 (.int .u64 x)) (h0:J [] W):
  CallsIn F n Tryz.prog 80 #[.func (.yield l) #[] #[],.pointer (some ⟨Bx,0,none⟩)] W fun e W'=>(∃v,e=.returned v)∧
   ((∃ys,ys=bitsTo x 64∧J ys W')∨(∃pre,(∃k:Nat,k<64∧hasI x k=true∧pre=bitsTo x k++[k])∧Jx pre W')):=by
 have h1:1≤n:=by omega
 have hB:=hBB.cell
 refine callsIn_of_wp Tryz.func80 rfl h34 ?_ hro
 simp only[Tryz.ntmps80,List.size_toArray,List.length_cons,List.length_nil,Nat.reduceAdd,Nat.reduceSub,Array.replicate_succ,Array.replicate_zero,List.push_toArray,List.append_toArray,List.nil_append,List.cons_append]
 gi_wp2
 gi_loopw [4] (fun i wr=> ∃k:Nat,k≤64∧i=.int .i64 k∧J (bitsTo x k) wr∧Boxed wr Bx 28 (.int .u64 x))
  (fun i _=>64-(intOf i).toNat)
 case atStart=>exact⟨0,Nat.zero_le _,rfl,by rw[u3q];exact h0,hBB⟩
 case round=>
  obtain⟨k,hk,rfl,hJs,hcB⟩:=hrel
  have hc:=hcB.cell
  have hlen:=o3x x k
  rcases Nat.lt_or_ge k 64 with hk64|hk64
  ·obtain⟨fn,tmps,assign,body,hy,hR⟩:=hY (bitsTo x k) k wr hJs (by omega)
   cases hb:hasI x k with
   |true=>
    gi_wp2_with (gi_at_call 72;refine(has_in F (n-1) h10 h30 hro (by omega) x k (by omega) (by omega) _).mono ?_;rintro e w' ⟨rfl,rfl⟩;rw[hb])
    refine hR.mono ?_
    rintro e W3 (⟨rfl,hJ3,hk3⟩|⟨rfl,hJx3⟩)
    ·have hc3:=hk3 _ hcB
     gi_wp2
     go_roundw
     case rel=>exact⟨k+1,by omega,by simp,by rw[bitsTo_hit hb];exact hJ3,hc3⟩
     case measure=>simp only[intOf];omega
    ·gi_wp2
     refine bodyPost_ret (results_none rfl _ _ _) rfl ?_
     exact⟨⟨_,rfl⟩,.inr ⟨_,⟨k,hk64,hb,rfl⟩,hJx3⟩⟩
   |false=>
    gi_wp2_with (gi_at_call 72;refine(has_in F (n-1) h10 h30 hro (by omega) x k (by omega) (by omega) _).mono ?_;rintro e w' ⟨rfl,rfl⟩;rw[hb])
    refine⟨fun _ h=>(by cases h),?_⟩
    gi_wp2
    go_roundw
    case rel=>exact⟨k+1,by omega,by simp,by rw[bitsTo_miss hb];exact hJs,hcB⟩
    case measure=>simp only[intOf];omega
  ·gi_wp2
   go_end0
   obtain rfl:k=64:=by omega
   exact⟨⟨_,rfl⟩,.inl ⟨_,rfl,hJs⟩⟩
theorem m3u (F:Fence)(n:Nat)(h34:F.fn 80)(h10:F.fn 72)(h30:F.fn 74)(hro:F.round=none)(hn:2≤n)(Bx:Nat)(x:Int)(w:World)(hc:Boxed w Bx 28 (.int .u64 x)):
  SeqStopsK F n Tryz.prog 80 #[.pointer (some ⟨Bx,0,none⟩)] (fun x:Nat=> #[Value.int .i64 (x:Int)]) (KB Bx) (fun ys=>ys=bitsTo x 64) (fun pre=> ∃k:Nat,k<64∧hasI x k=true∧pre=bitsTo x k++[k]) 64 w:=fun l J Jx W hW _ _ hY h0=>
 g4m F n h34 h10 h30 hro hn l Bx x J Jx hY W ((hW.block Bx hc.lt).trans hc) h0
theorem KB_app {W w1:World}{Bx B n0 k:Nat}{v v':Value}{xs:List Value}{tmp:Obj}(hrow:W.ownsRow n0 3 1 v k xs)(hgrow:(W.alloc tmp).grownBy w1 v.ownBlock)(hne:Bx≠B):KB Bx W (w1.setCell ⟨B,0,none⟩ v'):=by
 intro u hu
 have h1:some Bx≠v.ownBlock:=hu.not_row (by decide) hrow
 exact((hu.alloc tmp).kept hgrow h1).other hne _
theorem A_info3:(Tryz.prog.info? 3).map (fun i=>(i.zero,i.size,i.bytes))=some (some (.int .i64 0),1,8):=by kernel_rfl
set_option maxRecDepth 100000 in
set_option maxHeartbeats 2000000 in
theorem List_in (F:Fence)(n:Nat)(h19:F.fn 29)(h32:F.fn 57)(h34:F.fn 80)(h10:F.fn 72)(h30:F.fn 74)(hro:F.round=none)(hn:4≤n)(x:Int)(w:World):
  CallsIn F n Tryz.prog 29 #[.int .u64 x] w fun e W'=> ∃v,e=.returned v∧W'.ownsRow w.heap.size 3 1 v (bitsTo x 64).length ((bitsTo x 64).map enc)∧Below w.heap.size w W':=by
 have h1:1≤n:=by omega
 obtain⟨i0,hi,hz0,hz1,hz2⟩:=info_parts A_info3
 refine callsIn_of_wp_marks Tryz.func29 rfl h19 ?_ hro
 simp only[Tryz.ntmps29,List.size_toArray,List.length_cons,List.length_nil,Nat.reduceAdd,Nat.reduceSub,Array.replicate_succ,Array.replicate_zero,List.push_toArray,List.append_toArray,List.nil_append,List.cons_append]
 gi_wp2_with (gi_at_call 57;refine(a4a F (n-1) h32 hro _ _).mono ?_;rintro e w' ⟨rfl,rfl⟩)
 have bO:=Boxed.new w 59 (.slice none 0 0)
 have bN:=Boxed.new (w.alloc (.cells #[.slice none 0 0] 59)) 28 (.int .u64 x)
 rw[World.size_alloc]at bN
 have hB0:Below w.heap.size w ((w.alloc (.cells #[.slice none 0 0] 59)).alloc (.cells #[.int .u64 x] 28)):=((Below.refl _ w).alloc (Nat.le_refl _) _).alloc (by simp) _
 refine wpIn_rangeFunc_ownG hro h1 (gf:=80) (lb:= #[.pointer (some ⟨w.heap.size+1,0,none⟩)]) rfl h34 (enters_of Tryz.func80 (by kernel_rfl) rfl)
  (m3u F (n-1) h34 h10 h30 hro (by omega) (w.heap.size+1) x _ bN) KB_t (fun W l o o' _ hl ho _=>KB_b W l o o' hl ho) (Below.refl _ _) (fun _=>rfl)
  (fun pre W=>(∃v,Boxed W w.heap.size 59 v∧W.ownsRow w.heap.size 3 1 v pre.length (pre.map enc)∧True)∧Below w.heap.size w W)
  (fun _ _ _=>False)
  (OwnFrom.and (Own.from (holdsRow_own w.heap.size w.heap.size 59 3 1 (fun(pre:List Nat)=>pre.length) (fun pre=>pre.map enc) (fun pre v=>True)) _) (ownFrom_below (Nat.le_refl _) (by simp;omega)))
  (fun _ _ _ _ _ hs _ _=>hs)
  ⟨⟨_,bO.alloc _,World.ownsRow_nil _ _ _ _,trivial⟩,hB0⟩
  (fun k=>{tmps:= #[.int .u64 x,undef,.slice none 0 0,.pointer (some ⟨w.heap.size,0,none⟩),.int .i64 (k:Int),.int .u64 x,.func (.func 80) #[] #[.pointer (some ⟨w.heap.size+1,0,none⟩)],.int .i64 (k:Int),undef,undef,undef,undef,undef],defers:=[]}) ?assign ?body ?done ?stop
 case assign=>
  intro l x W K hK
  gi_wp2
  exact hK
 case body=>
  rintro l pre k W ⟨⟨v,hv,hrow,-⟩,hB⟩ hlt
  have hc:=hv.cell
  have hmx:64≤maxLen:=by decide
  gi_wp2_with (gi_at_builtin;refine wpListIn_append_own _ rfl _ _ 59 rfl w.heap.size 3 i0 (.int .i64 0) 1 8 Tryz.underlying59 hi hz0 hz1 hz2 rfl (by decide) _ _ _ rfl (hrow.alloc _) ⟨W.heap.size,0,none⟩ 1 1 [.int .i64 (k:Int)] rfl rfl (cell_one_new _ _ _) (by simp[Value.oneCell']) (by omega) (by omega) (by have:=hB.size;simp;omega) ?_;intro v' w1 hown' hgrow _;obtain⟨g',cap',rfl⟩:=ownsRow_succ hown';obtain⟨hv1,hv2,hr2,hk2,hb2⟩:=hv.appended (by decide) hrow hB.size (Nat.le_refl _) hown' hgrow;have hc1:=hv1.cell;have hf1:=hv1.frozen)
  have hgrow2:(W.alloc (.cells #[.int .i64 (k:Int)] 3)).grownBy w1 v.ownBlock:=hgrow
  exact⟨hk2.from _,KB_app hrow hgrow2 (by omega),⟨_,hv2,by simpa [enc]using hr2,trivial⟩,hB.trans hb2⟩
 case done=>
  rintro D ys W hD he ⟨⟨v,hv,hrow,-⟩,hB⟩ hK
  rw[he]at hrow
  have hc:=hv.cell
  gi_wp2
  refine⟨by simp,.inl ⟨_,_,rfl,run_takeDeferred hK,?_⟩⟩
  exact⟨_,results_tmp rfl _ _ _,v,rfl,ownsRow_putObj hrow _ hK rfl,hB.trans (belowK_b (w:=w) (Nat.le_refl _) W D _ _ (by simp at hD;omega) hK rfl rfl)⟩
 case stop=>
  rintro D c pre W _ _ h _
  exact h.elim
def orAll (l:List Int)(ns:List Nat):Int:=ns.foldl (fun a n=>bits BinOp.or IntKind.u64 a (l.getD n 0)) 0
theorem y3z (l:List Int)(ns:List Nat)(n:Nat):orAll l (ns++[n])=bits BinOp.or IntKind.u64 (orAll l ns) (l.getD n 0):=by simp[orAll]
def anyI (l:List Int)(x:Int):Int:=orAll l ((bitsTo x 64).takeWhile fun n=>decide (n<l.length))
theorem any_all {l:List Int}{x:Int}(h: ∀n∈bitsTo x 64,n<l.length):anyI l x=orAll l (bitsTo x 64):=by
 unfold anyI
 have: ∀(ns:List Nat),(∀n∈ns,n<l.length)→ns.takeWhile (fun n=>decide (n<l.length))=ns:=by
  intro ns
  induction ns with
  |nil=>intro _;rfl
  |cons a ns ih=>intro h;rw[List.takeWhile_cons,if_pos (by simpa using h a (by simp)),ih (fun n hn=>h n (by simp[hn]))]
 rw[this _ h]
theorem g4q {l:List Int}{x:Int}{k:Nat}(hk:k<64)(hb:hasI x k=true)(h: ∀n∈bitsTo x k,n<l.length)(hl:l.length≤k):anyI l x=orAll l (bitsTo x k):=by
 unfold anyI
 obtain⟨r,hr⟩:=y3f x (k:=k+1) (m:=64) (by omega)
 rw[←hr,bitsTo_hit hb,List.append_assoc,List.takeWhile_append_of_pos (fun n hn=>by simpa using h n hn)]
 simp[show¬k<l.length by omega]
def RowAt (w:World)(v:Value)(l:List Int):Prop:= ∃a cap,v=.slice a l.length cap∧ ∀i,i<l.length→ ∃b o,a=some ⟨b,o,none⟩∧b<w.heap.size∧w.cell? ⟨b,o+i,none⟩=some (.int .u64 (l.getD i 0))
set_option maxRecDepth 100000 in
set_option maxHeartbeats 2000000 in
theorem Any_in (F:Fence)(n:Nat)(h28:F.fn 73)(h32:F.fn 57)(h34:F.fn 80)(h10:F.fn 72)(h30:F.fn 74)(hro:F.round=none)(hn:4≤n)(v:Value)(l:List Int)(x:Int)(w:World)(hv:RowAt w v l):
  CallsIn F n Tryz.prog 73 #[v,.int .u64 x] w fun e W'=>e=.returned (.int .u64 (anyI l x))∧Below w.heap.size w W':=by
 have h1:1≤n:=by omega
 obtain⟨a,cap,rfl,hrow⟩:=hv
 refine callsIn_of_wp_marks Tryz.func73 rfl h28 ?_ hro
 simp only[Tryz.ntmps73,List.size_toArray,List.length_cons,List.length_nil,Nat.reduceAdd,Nat.reduceSub,Array.replicate_succ,Array.replicate_zero,List.push_toArray,List.append_toArray,List.nil_append,List.cons_append]
 gi_wp2_with (gi_at_call 57;refine(a4a F (n-1) h32 hro _ _).mono ?_;rintro e w' ⟨rfl,rfl⟩)
 have bL:=Boxed.new w 67 (.slice a l.length cap)
 have bA:=(Boxed.new (w.alloc (.cells #[.slice a l.length cap] 67)) 28 (.int .u64 0))
 rw[World.size_alloc]at bA
 have bN:=Boxed.new ((w.alloc (.cells #[.slice a l.length cap] 67)).alloc (.cells #[.int .u64 0] 28)) 28 (.int .u64 x)
 rw[World.size_alloc,World.size_alloc]at bN
 have hB0:Below w.heap.size w (((w.alloc (.cells #[.slice a l.length cap] 67)).alloc (.cells #[.int .u64 0] 28)).alloc (.cells #[.int .u64 x] 28)):=(((Below.refl _ w).alloc (Nat.le_refl _) _).alloc (by simp) _).alloc (by simp;omega) _
 refine wpIn_rangeFunc_ownG hro h1 (gf:=80) (lb:= #[.pointer (some ⟨w.heap.size+1+1,0,none⟩)]) rfl h34 (enters_of Tryz.func80 (by kernel_rfl) rfl)
  (m3u F (n-1) h34 h10 h30 hro (by omega) (w.heap.size+1+1) x _ bN) KB_t (fun W l o o' _ hl ho _=>KB_b W l o o' hl ho) (Below.refl _ _) (fun _=>rfl)
  (fun pre W=>(((∀n∈pre,n<l.length)∧W.cell? ⟨w.heap.size,0,none⟩=some (.slice a l.length cap))∧(W.cell? ⟨w.heap.size+1,0,none⟩=some (.int .u64 (orAll l pre))∧W.frozen? ⟨w.heap.size+1,0,none⟩=false))∧Below w.heap.size w W)
  (fun c pre W=>(c=.exit 0∧ ∃(ini:List Nat) (last:Nat),pre=ini++[last]∧(∀n∈ini,n<l.length)∧l.length≤last∧W.cell? ⟨w.heap.size+1,0,none⟩=some (.int .u64 (orAll l ini)))∧Below w.heap.size w W)
  (OwnFrom.and (Own.from (fun s A B row hs hg hr=>⟨⟨hs.1.1,cell_kept hs.1.2 hg hr⟩,cell_kept hs.2.1 hg hr,(frozen_kept hs.2.1 hg hr).trans hs.2.2⟩) _) (ownFrom_below (Nat.le_refl _) (by simp;omega)))
  (fun c=>OwnFrom.and (Own.from (fun s A B row hs hg hr=>by obtain⟨hc,ini,last,e1,e2,e3,e4⟩:=hs;exact⟨hc,ini,last,e1,e2,e3,cell_kept e4 hg hr⟩) _) (ownFrom_below (Nat.le_refl _) (by simp;omega)))
  ⟨⟨⟨by simp,((bL.alloc _).alloc _).cell⟩,(bA.alloc _).cell,(bA.alloc _).frozen⟩,hB0⟩
  (fun k=>{tmps:= #[.slice a l.length cap,.int .u64 x,.pointer (some ⟨w.heap.size,0,none⟩),undef,.int .u64 0,.pointer (some ⟨w.heap.size+1,0,none⟩),.int .i64 (k:Int),.int .u64 x,.func (.func 80) #[] #[.pointer (some ⟨w.heap.size+1+1,0,none⟩)],.int .i64 (k:Int),undef,undef,undef,undef,undef,undef,undef,undef,undef,undef,undef],defers:=[]}) ?assign ?body ?done ?stop
 case assign=>
  intro l x W K hK
  gi_wp2
  exact hK
 case body=>
  rintro l' pre k W ⟨⟨⟨hp,hl⟩,hcr,hfr⟩,hB⟩ _
  rcases Nat.lt_or_ge k l.length with hk|hk
  ·obtain⟨b,o,rfl,hb,hcell⟩:=hrow k hk
   have hc2:W.cell? ⟨b,o+k,none⟩=some (.int .u64 (l.getD k 0)):=(hB.cell (p:=⟨b,o+k,none⟩) hb).trans hcell
   have hbit:orAll l (pre++[k])=bits BinOp.or IntKind.u64 (orAll l pre) l[k]:=by rw[y3z];simp[List.getD_eq_getElem?_getD,hk]
   have hall: ∀n∈pre++[k],n<l.length:=fun n hn=>by
    rcases List.mem_append.1 hn with h|h
    ·exact hp n h
    ·simp at h;omega
   gi_wp2
   gi_region
   all_goals gi_wp2
   all_goals exact⟨((KeepsOthers.setCell W _ _).trans (KeepsOthers.drew _)).from _,(fun u hu=>Boxed.other (B':=w.heap.size+1) hu (by omega) _),⟨⟨hall,(World.cell?_setCell_other W ⟨w.heap.size+1,0,none⟩ ⟨w.heap.size,0,none⟩ _ (fun e=>by have:=congrArg Addr.block e;simp at this)).trans hl⟩,(World.cell?_setCell_same' W ⟨w.heap.size+1,0,none⟩ _ (by rw[hcr];rfl)).trans (by rw[hbit]),(World.frozen?_setCell W ⟨w.heap.size+1,0,none⟩ ⟨w.heap.size+1,0,none⟩ _).trans hfr⟩,(hB.setCell (p:=⟨w.heap.size+1,0,none⟩) (by simp) _).drew⟩
  ·gi_wp2
   all_goals exact⟨KeepsFrom.refl _ _,⟨rfl,pre,k,rfl,hp,hk,hcr⟩,hB⟩
 case done=>
  rintro D ys W hD he ⟨⟨⟨hp,hl⟩,hcr,hfr⟩,hB⟩ hK
  gi_wp2
  refine⟨by simp,.inl ⟨_,_,rfl,run_takeDeferred hK,?_⟩⟩
  exact⟨_,results_tmp rfl _ _ _,by rw[any_all (by rw[←he];exact hp)];rfl,hB.trans (belowK_b (w:=w) (Nat.le_refl _) W D _ _ (by simp at hD;omega) hK rfl rfl)⟩
 case stop=>
  rintro D c pre W hD ⟨k,hk,hb,hpre⟩ ⟨⟨rfl,ini,last,e1,e2,e3,hcr⟩,hB⟩ hK
  have e4:ini=bitsTo x k∧last=k:=by
   have:=e1.symm.trans hpre
   exact⟨(List.append_inj' this rfl).1,by simpa using(List.append_inj' this rfl).2⟩
  obtain⟨rfl,rfl⟩:=e4
  gi_wp2
  refine⟨by simp,.inl ⟨_,_,rfl,run_takeDeferred hK,?_⟩⟩
  exact⟨_,results_tmp rfl _ _ _,by rw[g4q hk hb e2 e3];rfl,hB.trans (belowK_b (w:=w) (Nat.le_refl _) W D _ _ (by simp at hD;omega) hK rfl rfl)⟩
end YtcbhgaeiokfcdaaGreat.Bt
end Go.Proofs
noncomputable section
namespace Go.Proofs.YtcbhgaeiokfcdaaGreat.Vx
open Go Go.RowKit
set_option linter.unusedVariables false
set_option linter.unusedSimpArgs false
set_option maxRecDepth 100000
set_option maxHeartbeats 0
def p3w (x:Int):List Int:=(Bt.bitsTo x 64).map fun(k:Nat)=>(k:Int)
def q3a:List Dat→Option (Nat×List Dat)
 |[.n x]=>some (0,[.l TI (p3w x)])
 |_=>none
def m3z:List Dat→Option (Nat×List Dat)
 |[.l t l,.n x]=>match c0r t TU l with
  |some l=>some (0,[.n (Bt.anyI l x)])
  |none=>none
 |_=>none
theorem arg1 {r:RM}{σ:Snap}{k:IntKind}{x:Int}{a:Array Value}(h:LRel r σ [.int k x] a):a= #[.int k x]:=by
 have hs:=h.size
 obtain⟨v,h1,h2⟩:=h.get (i:=0) (v:=.int k x) rfl
 cases h2
 apply Array.ext_getElem?
 intro i
 cases i with
 |zero=>rw[h1];rfl
 |succ i=>rw[Array.getElem?_eq_none (by simp at hs;omega)];simp
theorem arg2 {r:RM}{σ:Snap}{k:IntKind}{x:Int}{p:SV}{a:Array Value}(h:LRel r σ [p,.int k x] a): ∃v,a= #[v,.int k x]∧VRel r σ p v:=by
 have hs:=h.size
 obtain⟨v,h1,h2⟩:=h.get (i:=0) (v:=p) rfl
 obtain⟨v2,h3,h4⟩:=h.get (i:=1) (v:=.int k x) rfl
 cases h4
 refine⟨v,?_,h2⟩
 apply Array.ext_getElem?
 intro i
 match i with
 |0=>rw[h1];rfl
 |1=>rw[h3];rfl
 |i+2=>rw[Array.getElem?_eq_none (by simp at hs;omega)];simp
theorem a4q {r:RM}{σ:Snap}{s:SW}{w:World}(hr:Rel r σ s w){l:List Int}{v:Value}(h:VRel r σ (.imm TU l) v):Bt.RowAt w v l:=by
 cases h with
 |imm _ _ _ himm=>
  have himm': ∃(a:Option Addr) (len cap:Nat),some v=some (.slice a len cap)∧len=l.length∧len≤cap∧ ∀i (h:i<l.length),∃(p:Addr) (c:Array Value),a=some p∧p.spot=none∧σ p.block=some c∧c[p.off+i*1]? =some (.int .u64 l[i]):=himm
  obtain⟨a,len,cap,k1,k2,k3,k4⟩:=himm'
  simp only[Option.some.injEq]at k1
  subst k1 k2
  refine⟨a,cap,rfl,fun i hi=> ?_⟩
  obtain⟨p,c,e1,e2,e3,e4⟩:=k4 i hi
  obtain⟨T,f,e5⟩:=hr.snap _ _ e3
  obtain⟨b,o,sp⟩:=p
  simp only at e2
  subst e2
  refine⟨b,o,e1,(Array.getElem?_eq_some_iff.1 e5).1,?_⟩
  have e6:c[o+i*1]? =some (.int .u64 l[i]):=e4
  rw[Nat.mul_one]at e6
  have e7:l.getD i 0=l[i]:=by simp[List.getD_eq_getElem?_getD,hi]
  rw[e7]
  simp only[World.cell?]
  rw[e5]
  exact e6
theorem a0v.ext {f:FuncId}{args:List PV}{outs:List (PV×List PB)}{op op':List Dat→Option (Nat×List Dat)}(h: ∀env,op' env=op env)(k:a0v Tryz.prog f (a0j (mkF args [] [] outs op))):a0v Tryz.prog f (a0j (mkF args [] [] outs op')):=by
 have:op'=op:=funext h
 rw[this];exact k
theorem b19:a0v Tryz.prog 29 (a0j (mkF [.int .u64 0] [] [] [(.own 0,[.arr (.int .i64) 0])] q3a)):=by
 refine e4b (e:=3) fun env j d he=> ?_
 match env,he with
 |[.n x],he=>
  cases he
  refine⟨rfl,p3w x,rfl,fun r σ w args' hr ha=> ?_⟩
  have:=arg1 (x:=x) ha
  subst this
  refine(callsIn_wide.1 (Bt.List_in Fence.wide 4 trivial trivial trivial trivial trivial rfl (by omega) x w)).mono ?_
  rintro e W' ⟨v,rfl,h1,h2⟩
  refine⟨v,rfl,?_,h2⟩
  have e1:(p3w x).length=(Bt.bitsTo x 64).length:=by simp[p3w]
  have e2:(p3w x).map (Value.int .i64)=(Bt.bitsTo x 64).map Bt.enc:=by simp[p3w,List.map_map];intro a _;rfl
  rw[e1,e2];exact h1
theorem b28:a0v Tryz.prog 73 (a0j (mkF [.imm TU 0,.int .u64 1] [] [] [(.int .u64 0,[])] m3z)):=by
 refine c4e fun env j d he=> ?_
 match env,he with
 |[.l t l0,.n x],he=>
  have he':(match c0r t TU l0 with|some l=>some (0,[Dat.n (Bt.anyI l x)])|none=>none)=some (j,d):=he
  split at he'
  ·rename_i l hl
   obtain⟨e1,rfl⟩:=a0w hl
   subst e1
   cases he'
   refine⟨rfl,_,rfl,fun r σ w args' hr ha=> ?_⟩
   have hgl:instL [.imm TU 0,.int .u64 1] [Dat.l TU l0,.n x]=[.imm TU l0,.int .u64 x]:=by
    show[SV.imm TU (gl TU [Dat.l TU l0,.n x] 0),_]=_
    have:gl TU [Dat.l TU l0,.n x] 0=l0:=by simp[gl,d0b]
    rw[this];rfl
   rw[hgl]at ha
   obtain⟨v,rfl,hv⟩:=arg2 ha
   exact callsIn_wide.1 (Bt.Any_in Fence.wide 4 trivial trivial trivial trivial trivial rfl (by omega) v l0 x w (a4q hr hv))
  ·cases he'
def BP19:FBox:=mkF [.int .u64 0] [] [] [(.own 0,[.arr (.int .i64) 0])] q3a
def BP28:FBox:=mkF [.imm TU 0,.int .u64 1] [] [] [(.int .u64 0,[])] m3z
theorem x3r (f:List Dat→Option (Nat×List Dat)): ∃g:List Dat→Option (Nat×List Dat),∀env,g env=f env:=⟨f,fun _=>rfl⟩
def l3r:List Dat→Option (Nat×List Dat):=Classical.choose (x3r q3a)
theorem p3x (env:List Dat):l3r env=q3a env:=Classical.choose_spec (x3r q3a) env
def k3u:List Dat→Option (Nat×List Dat):=Classical.choose (x3r m3z)
theorem p3t (env:List Dat):k3u env=m3z env:=Classical.choose_spec (x3r m3z) env
def Bl19:FBox:=mkF [.int .u64 0] [] [] [(.own 0,[.arr (.int .i64) 0])] l3r
def Bl28:FBox:=mkF [.imm TU 0,.int .u64 1] [] [] [(.int .u64 0,[])] k3u
theorem Bl19_ok:a0v Tryz.prog 29 (a0j Bl19):=a0v.ext p3x b19
theorem Bl28_ok:a0v Tryz.prog 73 (a0j Bl28):=a0v.ext p3t b28
def cs_Q1:FuncId→Option a0q:=a0s 73 BP28 (a0s 29 BP19 cs_Q0)
theorem g4z:CsOk Tryz.prog cs_Q1:=a0g (a0g a2u b19) b28
def p3f:List Dat→Option (Nat×List Dat):=fun _=>some (0,[.b true])
def Bw8:FBox:=(mkF [] [] [] [(.bool 0,[])] p3f)
theorem h4u (env:List Dat)(y:Nat×List Dat)(h:p3f env=some y):(boxC true Tryz.prog cs_Q1 6 ls0 (mkF [] [] [] [(.bool 0,[])] fun _=>none) env).sel=some y:=by
 cases h
 kernel_rfl
theorem Bw8_ok:a0v Tryz.prog 6 (a0j Bw8):=a0p (op:=p3f) g4z hmix true (LsOk.none _ _ _) h4u
def cs_Z10:FuncId→Option a0q:=e1c 6 [Bw8] cs_c17
theorem a4o:CsOk Tryz.prog cs_Z10:=h0a n1v fun B hB=>by
 cases List.mem_singleton.1 hB
 exact Bw8_ok
abbrev TMr:Ty:=.pair (.int .u64) (.pair (.int .u64) (.pair (.int .u64) (.pair (.int .u32) (.pair (.int .u32) (.int .u64)))))
def fnV0 (f:Nat):PV:=.fn (.func f) [] []
def zM (h:Nat):PB:=.cells [.nilsl,.nilsl,.int .u64 h,.int .u32 (h+1),.int .u64 (h+2)]
def yM (o h:Nat):PB:=.cells [.own o,.nilsl,.int .u64 h,.int .u32 (h+1),.int .u64 (h+2)]
def xM (o h:Nat):PB:=.cells [.own o,.own (o+1),.int .u64 h,.int .u32 (h+1),.int .u64 (h+2)]
def mrB (h:Nat):PB:=.cells [.int .u64 h,.int .u64 (h+1),.int .u64 (h+2),.int .u32 (h+3),.int .u32 (h+4),.int .u64 (h+5)]
def mrV (h:Nat):PV:=.agg [.int .u64 h,.int .u64 (h+1),.int .u64 (h+2),.int .u32 (h+3),.int .u32 (h+4),.int .u64 (h+5)]
def msV (h:Nat):PV:=.agg [.imm TMr h,.imm TU (h+1),.int .u64 (h+2),.int .u32 (h+3),.int .u64 (h+4)]
def msB (h:Nat):PB:=.cells [.imm TMr h,.imm TU (h+1),.int .u64 (h+2),.int .u32 (h+3),.int .u64 (h+4)]
def cs_w8A:FuncId→Option a0q:=e1c 6 [(BSh.of Bw8).k p3f] cs_Z10
theorem f4z:CsOk Tryz.prog cs_w8A:=csB a4o Bw8_ok
def cs_15A:FuncId→Option a0q:=a0s 14 ((BSh.of B15).k n2d) cs_w8A
theorem z3t:CsOk Tryz.prog cs_15A:=csA f4z B15_ok
def cs_9A:FuncId→Option a0q:=a0s 17 ((BSh.of B9).k op_9) cs_15A
theorem h4k:CsOk Tryz.prog cs_9A:=csA z3t B9_ok
def cs_10A:FuncId→Option a0q:=a0s 18 ((BSh.of B10).k t1a) cs_9A
theorem f4x:CsOk Tryz.prog cs_10A:=csA h4k B10_ok
def b4x:FuncId→Option a0q:=a0s 16 ((BSh.of Bc17).k p1p) cs_10A
theorem y3n:CsOk Tryz.prog b4x:=csA f4x d4f
def b4p:FuncId→Option a0q:=a0s 29 ((BSh.of Bl19).k l3r) b4x
theorem y3j:CsOk Tryz.prog b4p:=csA y3n Bl19_ok
def t3b:FuncId→Option a0q:=a0s 73 ((BSh.of Bl28).k k3u) b4p
theorem m3v:CsOk Tryz.prog t3b:=csA y3j Bl28_ok
def S_q12:BSh:={args:=[.int .u64 0,.int .i64 1],blks:=[],log:=[],outs:=[(.int .u64 0,[])]}
def ev_q12:List Dat→Tree (Nat×List Dat):=evF t3b 44 ls0 S_q12
theorem d4z: ∃op,IsF ev_q12 44 S_q12 op:=bxF m3v (LsOk.none _ _ _)
def h3q:OpA:=opF d4z
theorem b4y {n0 n1:Int}(h0:(n1≥(0:Int)))(h1:(¬n1<(64:Int))):h3q [.n n0,.n n1]=some ((0,[.n n0])):=h3c d4z (sP [1]<|sT (dt h0)<|sP [1]<|sT (nf (df h1))<|sP [1]<|sL)
theorem g4h {n0 n1:Int}(h0:(n1≥(0:Int)))(h1:(n1<(64:Int))):h3q [.n n0,.n n1]=some ((0,[.n (ior IntKind.u64 n0 (ishl IntKind.u64 (1:Int) n1))])):=h3c d4z (sP [1]<|sT (dt h0)<|sP [1]<|sF (nt (dt h1))<|sTs (c:=(!decide (n1<(0:Int))))<|sP [1]<|sL)
theorem b4u {n0 n1:Int}(h0:(¬n1≥(0:Int))):h3q [.n n0,.n n1]=some ((0,[.n n0])):=h3c d4z (sP [1]<|sF (df h0)<|sP [0,1,1,1]<|sL)
def b4d:FuncId→Option a0q:=a0s 44 (S_q12.k h3q) t3b
theorem o3u:CsOk Tryz.prog b4d:=csL1 m3v d4z
def S_q26:BSh:={args:=[.int .i64 0],blks:=[],log:=[],outs:=[(.int .u64 0,[])]}
def ev_q26:List Dat→Tree (Nat×List Dat):=evF b4d 67 ls0 S_q26
theorem f4f: ∃op,IsF ev_q26 67 S_q26 op:=bxF o3u (LsOk.none _ _ _)
def k3s:OpA:=opF f4f
theorem d4i {n0:Int}(h0:(n0≤(0:Int))):k3s [.n n0]=some ((0,[.n (0:Int)])):=h3c f4f (sT (dt h0)<|sP [1]<|sL)
theorem c4r {n0:Int}(h0:(¬n0≤(0:Int)))(h1:(n0≥(64:Int))):k3s [.n n0]=some ((0,[.n (18446744073709551615:Int)])):=h3c f4f (sF (df h0)<|sT (dt h1)<|sP [1]<|sL)
theorem c4c {n0:Int}(h0:(¬n0≤(0:Int)))(h1:(¬n0≥(64:Int))):k3s [.n n0]=some ((0,[.n (IntKind.wrap .u64 (ishl IntKind.u64 (1:Int) n0-(1:Int)))])):=h3c f4f (sF (df h0)<|sF (df h1)<|sTo (c:=(!decide (n0<(0:Int))))<|sP [1]<|sL)
def x3v:FuncId→Option a0q:=a0s 67 (S_q26.k k3s) b4d
theorem l3q:CsOk Tryz.prog x3v:=csL1 o3u f4f
def z3s:LSh:={K:=0,log:=[],ins:=[(sh 17 [(3,.int .u64 0),(6,.imm TI 1),(7,.int .i64 2),(8,.int .i64 3)],[])],nils:=[],outs:=[(.exit 0,sh 17 [(3,.int .u64 0)],[])],cv:=[]}
def j3v:List Dat→Tree Step:=evL x3v 82 3 ls0 z3s
theorem n3c: ∃op,IsL j3v 82 3 z3s op:=bxL l3q (LsOk.none _ _ _)
def w3k:OpA:=opL n3c
theorem s3a (env:List Dat):w3k env=a0b j3v FU env:=h3i n3c env
abbrev i4e:MBox:=boxL n3c
theorem v3k {n0:Int}{l1:List (Ty.den TI)}{n2 n3 n4:Int}(g0:0≤n3)(g1:n2=(l1.length:Int))(h0:(n3<n2))(h1:(h3q [.n n0,.n (List.getD l1 (Int.toNat n3) (0:Int))])=(some (0,[.n n4]))):(j3v [.k 0,.n n0,.l TI l1,.n n2,.n n3]).sel=some (Step.go [.k 0,.n n4,.l TI l1,.n n2,.n (IntKind.wrap .i64 (n3+(1:Int)))]):=sP [1]<|sT (dt h0)<|sTo (c:=(inR n3 (List.length l1)))<|sA h1<|sP [1,1,1]<|sL
theorem v3m {n0:Int}{l1:List (Ty.den TI)}{n2 n3:Int}(g0:0≤n3)(g1:n2=(l1.length:Int))(h0:(¬n3<n2)):(j3v [.k 0,.n n0,.l TI l1,.n n2,.n n3]).sel=some (Step.stop 0 [.n n0]):=sP [1]<|sF (df h0)<|sP [1]<|sL
def S_q17:BSh:={args:=[.imm TI 0],blks:=[],log:=[],outs:=[(.int .u64 0,[])]}
def ev_q17:List Dat→Tree (Nat×List Dat):=evF x3v 82 (lsM [(3,i4e)] 0) S_q17
theorem e_q17: ∃op,IsF ev_q17 82 S_q17 op:=bxF l3q (lsE (lsC (h3g n3c) (atF) lsZ))
def x3o:OpA:=opF e_q17
theorem a4h {l0:List (Ty.den TI)}{n1:Int}(h0:(w3k [.k 0,.n (0:Int),.l TI l0,.n (↑(List.length l0):Int),.n (0:Int)])=(some (0,[.n n1]))):x3o [.l TI l0]=some ((0,[.n n1])):=h3c e_q17 (sA h0<|sP [1,1]<|sL)
def d4l:FuncId→Option a0q:=a0s 82 (S_q17.k x3o) x3v
theorem p3h:CsOk Tryz.prog d4l:=csL1 l3q e_q17
def S_q10:BSh:={args:=[.int .u64 0,.int .i64 1],blks:=[],log:=[],outs:=[(.bool 0,[])]}
def ev_q10:List Dat→Tree (Nat×List Dat):=evF d4l 72 ls0 S_q10
theorem b4b: ∃op,IsF ev_q10 72 S_q10 op:=bxF p3h (LsOk.none _ _ _)
def h3n:OpA:=opF b4b
theorem b4f {n0 n1:Int}(h0:(n1≥(0:Int)))(h1:(n1<(64:Int))):h3n [.n n0,.n n1]=some ((0,[.b (iand IntKind.u64 (ishr IntKind.u64 n0 n1) (1:Int)==(1:Int))])):=h3c b4b (sP [1]<|sT (dt h0)<|sP [1]<|sT (dt h1)<|sTs (c:=(!decide (n1<(0:Int))))<|sP [1]<|sL)
theorem z3j {n0 n1:Int}(h0:(n1≥(0:Int)))(h1:(¬n1<(64:Int))):h3n [.n n0,.n n1]=some ((0,[.b false])):=h3c b4b (sP [1]<|sT (dt h0)<|sP [1]<|sF (df h1)<|sP [0,1]<|sL)
theorem d4q {n0 n1:Int}(h0:(¬n1≥(0:Int))):h3n [.n n0,.n n1]=some ((0,[.b false])):=h3c b4b (sP [1]<|sF (df h0)<|sP [0,1,0,0,1]<|sL)
def w3t:FuncId→Option a0q:=a0s 72 (S_q10.k h3n) d4l
theorem l3y:CsOk Tryz.prog w3t:=csL1 p3h b4b
def c4l:LSh:={K:=0,log:=[],ins:=[(sh 51 [(2,.int .u64 0),(3,.ptr 0 0),(4,.ptr 1 0),(6,.ptr 2 0),(7,.int .u64 1),(8,.int .u64 2),(12,.own 3),(13,.int .i64 3),(14,.int .i64 4)],[laB 5,rtB 9,mrB 15,.arr TNd 21])],nils:=[],outs:=[(.exit 0,sh 51 [(2,.int .u64 0),(3,.ptr 0 0),(4,.ptr 1 0),(6,.ptr 2 0),(7,.int .u64 1),(8,.int .u64 2)],[laB 3,rtB 7,mrB 13])],cv:=[]}
def j3f:List Dat→Tree Step:=evL w3t 68 3 ls0 c4l
theorem o3a: ∃op,IsL j3f 68 3 c4l op:=bxL l3y (LsOk.none _ _ _)
def n3s:OpA:=opL o3a
theorem s3d (env:List Dat):n3s env=a0b j3f FU env:=h3i o3a env
abbrev g4p:MBox:=boxL o3a
theorem u3d {n0 n1 n2 n3 n4:Int}{l5:List (Ty.den TS)}{l6 l7:List (Ty.den TPt)}{l8:List (Ty.den TRt)}{s9:ByteArray}{n10:Int}{l11:List (Ty.den TI)}{l12:List (Ty.den TNd)}{l13:List (Ty.den TI)}{l14:List (Ty.den TNd)}{n15 n16 n17 n18 n19 n20:Int}{l21:List (Ty.den TNd)}{n22:Int}(g0:0≤n4)(g1:n3=(l21.length:Int))(h0:(n4<n3))(h1:(Prod.snd (List.getD l21 (Int.toNat n4) (Ty.dflt TNd))=true))(h2:(h3q [.n n2,.n (Prod.fst (List.getD l21 (Int.toNat n4) (Ty.dflt TNd)))])=(some (0,[.n n22]))):(j3f [.k 0,.n n0,.n n1,.n n2,.n n3,.n n4,.l TS l5,.l TPt l6,.l TPt l7,.l TRt l8,.s s9,.n n10,.l TI l11,.l TNd l12,.l TI l13,.l TNd l14,.n n15,.n n16,.n n17,.n n18,.n n19,.n n20,.l TNd l21]).sel=some (Step.go [.k 0,.n n0,.n n1,.n n22,.n n3,.n (IntKind.wrap .i64 (n4+(1:Int))),.l TS l5,.l TPt l6,.l TPt l7,.l TRt l8,.s s9,.n n10,.l TI l11,.l TNd l12,.l TI l13,.l TNd l14,.n n15,.n n16,.n n17,.n n18,.n n19,.n n20,.l TNd l21]):=sP [1]<|sT (dt h0)<|sTo (c:=(inR n4 (List.length l21)))<|sT h1<|sA h2<|sP [1,1,1]<|sL
theorem u3x {n0 n1 n2 n3 n4:Int}{l5:List (Ty.den TS)}{l6 l7:List (Ty.den TPt)}{l8:List (Ty.den TRt)}{s9:ByteArray}{n10:Int}{l11:List (Ty.den TI)}{l12:List (Ty.den TNd)}{l13:List (Ty.den TI)}{l14:List (Ty.den TNd)}{n15 n16 n17 n18 n19 n20:Int}{l21:List (Ty.den TNd)}{n22:Int}(g0:0≤n4)(g1:n3=(l21.length:Int))(h0:(n4<n3))(h1:(Prod.snd (List.getD l21 (Int.toNat n4) (Ty.dflt TNd))=false))(h2:(h3q [.n n1,.n (Prod.fst (List.getD l21 (Int.toNat n4) (Ty.dflt TNd)))])=(some (0,[.n n22]))):(j3f [.k 0,.n n0,.n n1,.n n2,.n n3,.n n4,.l TS l5,.l TPt l6,.l TPt l7,.l TRt l8,.s s9,.n n10,.l TI l11,.l TNd l12,.l TI l13,.l TNd l14,.n n15,.n n16,.n n17,.n n18,.n n19,.n n20,.l TNd l21]).sel=some (Step.go [.k 0,.n n0,.n n22,.n n2,.n n3,.n (IntKind.wrap .i64 (n4+(1:Int))),.l TS l5,.l TPt l6,.l TPt l7,.l TRt l8,.s s9,.n n10,.l TI l11,.l TNd l12,.l TI l13,.l TNd l14,.n n15,.n n16,.n n17,.n n18,.n n19,.n n20,.l TNd l21]):=sP [1]<|sT (dt h0)<|sTo (c:=(inR n4 (List.length l21)))<|sF h1<|sA h2<|sP [1,1,1]<|sL
theorem s3f {n0 n1 n2 n3 n4:Int}{l5:List (Ty.den TS)}{l6 l7:List (Ty.den TPt)}{l8:List (Ty.den TRt)}{s9:ByteArray}{n10:Int}{l11:List (Ty.den TI)}{l12:List (Ty.den TNd)}{l13:List (Ty.den TI)}{l14:List (Ty.den TNd)}{n15 n16 n17 n18 n19 n20:Int}{l21:List (Ty.den TNd)}(g0:0≤n4)(g1:n3=(l21.length:Int))(h0:(¬n4<n3)):(j3f [.k 0,.n n0,.n n1,.n n2,.n n3,.n n4,.l TS l5,.l TPt l6,.l TPt l7,.l TRt l8,.s s9,.n n10,.l TI l11,.l TNd l12,.l TI l13,.l TNd l14,.n n15,.n n16,.n n17,.n n18,.n n19,.n n20,.l TNd l21]).sel=some (Step.stop 0 [.n n0,.n n1,.n n2,.l TS l5,.l TPt l6,.l TPt l7,.l TRt l8,.s s9,.n n10,.l TI l11,.l TNd l12,.l TI l13,.l TNd l14,.n n15,.n n16,.n n17,.n n18,.n n19,.n n20]):=sP [1]<|sF (df h0)<|sP [1]<|sL
def S_m54:BSh:={args:=[laV 0,rtV 4,.int .u64 10],blks:=[],log:=[],outs:=[(mrV 0,[])]}
def ev_m54:List Dat→Tree (Nat×List Dat):=evF w3t 68 (lsM [(3,g4p)] 0) S_m54
theorem e_m54: ∃op,IsF ev_m54 68 S_m54 op:=bxF l3y (lsE (lsC (h3g o3a) (atF) lsZ))
def w3b:OpA:=opF e_m54
theorem c4q {l0:List (Ty.den TS)}{l1 l2:List (Ty.den TPt)}{l3:List (Ty.den TRt)}{s4:ByteArray}{n5:Int}{l6:List (Ty.den TI)}{l7:List (Ty.den TNd)}{l8:List (Ty.den TI)}{l9:List (Ty.den TNd)}{n10:Int}{l11:List (Ty.den TNd)}{n12 n13 n14:Int}{l15:List (Ty.den TS)}{l16 l17:List (Ty.den TPt)}{l18:List (Ty.den TRt)}{s19:ByteArray}{n20:Int}{l21:List (Ty.den TI)}{l22:List (Ty.den TNd)}{l23:List (Ty.den TI)}{l24:List (Ty.den TNd)}{n25 n26 n27 n28 n29 n30:Int}{l31:List (Ty.den TI)}{n32 n33 n34:Int}(h0:(t1a [.s s4,.n n5,.l TI l6,.l TNd l7,.l TI l8,.l TNd l9])=(some (0,[.l TNd l11])))(h1:(n3s [.k 0,.n n10,.n (0:Int),.n (0:Int),.n (↑(List.length l11):Int),.n (0:Int),.l TS l0,.l TPt l1,.l TPt l2,.l TRt l3,.s s4,.n n5,.l TI l6,.l TNd l7,.l TI l8,.l TNd l9,.n (0:Int),.n (0:Int),.n (0:Int),.n (0:Int),.n (0:Int),.n (0:Int),.l TNd l11])=(some (0,[.n n12,.n n13,.n n14,.l TS l15,.l TPt l16,.l TPt l17,.l TRt l18,.s s19,.n n20,.l TI l21,.l TNd l22,.l TI l23,.l TNd l24,.n n25,.n n26,.n n27,.n n28,.n n29,.n n30])))(h2:(op_9 [.s s19,.n n20,.l TI l21,.l TNd l22,.l TI l23,.l TNd l24])=(some (0,[.l TI l31])))(h3:(x3o [.l TI l31])=(some (0,[.n n32])))(h4:(inR (0:Int) (List.length l21)=true))(h5:(h3q [.n (0:Int),.n (List.getD l21 0 (0:Int))])=(some (0,[.n n33])))(h6:(inR n20 (List.length l17)=true))(h7:(h3q [.n (0:Int),.n (Prod.snd (List.getD l17 (Int.toNat n20) (Ty.dflt TPt)))])=(some (0,[.n n34]))):w3b [.l TS l0,.l TPt l1,.l TPt l2,.l TRt l3,.s s4,.n n5,.l TI l6,.l TNd l7,.l TI l8,.l TNd l9,.n n10]=some ((0,[.n n32,.n n33,.n n34,.n (IntKind.wrap .u32 n13),.n (IntKind.wrap .u32 n14),.n n12])):=h3c e_m54 (sA h0<|sP [1,1]<|sA h1<|sP [1]<|sA h2<|sP [1,1]<|sA h3<|sP [1,1]<|sT h4<|sA h5<|sP [1,1]<|sT h6<|sA h7<|sP [1,1,1,1]<|sL)
def q3d:FuncId→Option a0q:=a0s 68 (S_m54.k w3b) w3t
theorem j3q:CsOk Tryz.prog q3d:=csL1 l3y e_m54
def w3z:LSh:={K:=0,log:=[],ins:=[(sh 72 [(1,.ptr 0 0),(2,.ptr 1 0),(4,.own 2),(6,.ptr 3 0),(35,.imm TRt 0),(36,.int .i64 1),(37,.int .i64 2)],[laB 3,zM 7,.arr TU 10,yM 4 11,.arr TMr 14])],nils:=[],outs:=[(.exit 0,sh 72 [(1,.ptr 0 0),(2,.ptr 1 0),(6,.ptr 2 0)],[laB 0,zM 4,yM 3 7,.arr TMr 10])],cv:=[(6,[],0,.own TMr)]}
def i3p:List Dat→Tree Step:=evL q3d 36 6 ls0 w3z
theorem l3f: ∃op,IsL i3p 36 6 w3z op:=bxL j3q (LsOk.none _ _ _)
def m3o:OpA:=opL l3f
theorem r3a (env:List Dat):m3o env=a0b i3p FU env:=h3i l3f env
abbrev z3i:MBox:=boxL l3f
theorem q3q {l0:List (Ty.den TRt)}{n1 n2:Int}{l3:List (Ty.den TS)}{l4 l5:List (Ty.den TPt)}{l6:List (Ty.den TRt)}{n7 n8 n9:Int}{l10:List (Ty.den TU)}{n11 n12 n13:Int}{l14:List (Ty.den TMr)}{n15 n16 n17 n18 n19 n20:Int}(g0:0≤n2)(g1:n1=(l0.length:Int))(g2:n1=(l10.length:Int))(h0:(n2<n1))(h1:(w3b [.l TS l3,.l TPt l4,.l TPt l5,.l TRt l6,.s (Prod.fst (List.getD l0 (Int.toNat n2) (Ty.dflt TRt))),.n (Prod.fst (Prod.snd (List.getD l0 (Int.toNat n2) (Ty.dflt TRt)))),.l TI (Prod.fst (Prod.snd (Prod.snd (List.getD l0 (Int.toNat n2) (Ty.dflt TRt))))),.l TNd (Prod.fst (Prod.snd (Prod.snd (Prod.snd (List.getD l0 (Int.toNat n2) (Ty.dflt TRt)))))),.l TI (Prod.fst (Prod.snd (Prod.snd (Prod.snd (Prod.snd (List.getD l0 (Int.toNat n2) (Ty.dflt TRt))))))),.l TNd (Prod.snd (Prod.snd (Prod.snd (Prod.snd (Prod.snd (List.getD l0 (Int.toNat n2) (Ty.dflt TRt))))))),.n (List.getD l10 (Int.toNat n2) (0:Int))])=(some (0,[.n n15,.n n16,.n n17,.n n18,.n n19,.n n20])))(h2:((List.length l14+1)*40≤140737488355328)):(i3p [.k 0,.l TRt l0,.n n1,.n n2,.l TS l3,.l TPt l4,.l TPt l5,.l TRt l6,.n n7,.n n8,.n n9,.l TU l10,.n n11,.n n12,.n n13,.l TMr l14]).sel=some (Step.go [.k 0,.l TRt l0,.n n1,.n (IntKind.wrap .i64 (n2+(1:Int))),.l TS l3,.l TPt l4,.l TPt l5,.l TRt l6,.n n7,.n n8,.n n9,.l TU l10,.n n11,.n n12,.n n13,.l TMr (apL l14 [(n15,n16,n17,n18,n19,n20)])]):=sP [1]<|sT (dt h0)<|sTo (c:=(inR n2 (List.length l0)))<|sTo (c:=(inR n2 (List.length l10)))<|sA h1<|sP [1,1]<|sT (dt h2)<|sP [1,1]<|sL
theorem q3y {l0:List (Ty.den TRt)}{n1 n2:Int}{l3:List (Ty.den TS)}{l4 l5:List (Ty.den TPt)}{l6:List (Ty.den TRt)}{n7 n8 n9:Int}{l10:List (Ty.den TU)}{n11 n12 n13:Int}{l14:List (Ty.den TMr)}(g0:0≤n2)(g1:n1=(l0.length:Int))(g2:n1=(l10.length:Int))(h0:(¬n2<n1)):(i3p [.k 0,.l TRt l0,.n n1,.n n2,.l TS l3,.l TPt l4,.l TPt l5,.l TRt l6,.n n7,.n n8,.n n9,.l TU l10,.n n11,.n n12,.n n13,.l TMr l14]).sel=some (Step.stop 0 [.l TS l3,.l TPt l4,.l TPt l5,.l TRt l6,.n n7,.n n8,.n n9,.n n11,.n n12,.n n13,.l TMr l14]):=sP [1]<|sF (df h0)<|sP [1]<|sL
def r3r:LSh:={K:=0,log:=[],ins:=[(sh 72 [(2,.ptr 0 0),(6,.ptr 1 0),(56,.imm TPt 0),(57,.int .i64 1),(58,.int .i64 2)],[zM 3,xM 2 6,.arr TMr 9,.arr TU 10])],nils:=[],outs:=[(.exit 2,sh 72 [(2,.ptr 0 0),(6,.ptr 1 0)],[zM 0,xM 2 3,.arr TMr 6,.arr TU 7])],cv:=[(6,[],1,.own TU)]}
def i3f:List Dat→Tree Step:=evL q3d 36 11 ls0 r3r
theorem k3b: ∃op,IsL i3f 36 11 r3r op:=bxL j3q (LsOk.none _ _ _)
def k3m:OpA:=opL k3b
theorem n3e (env:List Dat):k3m env=a0b i3f FU env:=h3i k3b env
abbrev y3c:MBox:=boxL k3b
theorem o3m {l0:List (Ty.den TPt)}{n1 n2 n3 n4 n5 n6 n7 n8:Int}{l9:List (Ty.den TMr)}{l10:List (Ty.den TU)}{n11:Int}(g0:0≤n2)(g1:n1=(l0.length:Int))(h0:(n2<n1))(h1:(h3q [.n (0:Int),.n (Prod.snd (List.getD l0 (Int.toNat n2) (Ty.dflt TPt)))])=(some (0,[.n n11])))(h2:((List.length l10+1)*8≤140737488355328)):(i3f [.k 0,.l TPt l0,.n n1,.n n2,.n n3,.n n4,.n n5,.n n6,.n n7,.n n8,.l TMr l9,.l TU l10]).sel=some (Step.go [.k 0,.l TPt l0,.n n1,.n (IntKind.wrap .i64 (n2+(1:Int))),.n n3,.n n4,.n n5,.n n6,.n n7,.n n8,.l TMr l9,.l TU (l10++[n11])]):=sP [1]<|sT (dt h0)<|sTo (c:=(inR n2 (List.length l0)))<|sA h1<|sP [1,1]<|sT (dt h2)<|sP [1,1]<|sL
theorem o3e {l0:List (Ty.den TPt)}{n1 n2 n3 n4 n5 n6 n7 n8:Int}{l9:List (Ty.den TMr)}{l10:List (Ty.den TU)}(g0:0≤n2)(g1:n1=(l0.length:Int))(h0:(¬n2<n1)):(i3f [.k 0,.l TPt l0,.n n1,.n n2,.n n3,.n n4,.n n5,.n n6,.n n7,.n n8,.l TMr l9,.l TU l10]).sel=some (Step.stop 0 [.n n3,.n n4,.n n5,.n n6,.n n7,.n n8,.l TMr l9,.l TU l10]):=sP [1]<|sF (df h0)<|sP [1]<|sL
def d4w:BSh:={args:=[laV 0],blks:=[],log:=[],outs:=[(.tup [.agg [.own 0,.own 1,.int .u64 0,.int .u32 1,.int .u64 2],.int .i64 3],[.arr TMr 4,.arr TU 5]),(.tup [.agg [.nilsl,.nilsl,.int .u64 0,.int .u32 1,.int .u64 2],.int .i64 3],[])]}
def ev_m28i:List Dat→Tree (Nat×List Dat):=evF q3d 36 (lsM [(6,z3i),(11,y3c)] 0) d4w
theorem x3a: ∃op,IsF ev_m28i 36 d4w op:=bxF j3q (lsE (lsC (h3g l3f) (atF) (lsC (h3g k3b) (atF) lsZ)))
def k3l:OpA:=opF x3a
theorem y3a {l0:List (Ty.den TS)}{l1 l2:List (Ty.den TPt)}{l3:List (Ty.den TRt)}{n4:Int}{l5:List (Ty.den TU)}{n6 n7 n8:Int}{l9:List (Ty.den TS)}{l10 l11:List (Ty.den TPt)}{l12:List (Ty.den TRt)}{n13 n14 n15 n16 n17 n18:Int}{l19:List (Ty.den TMr)}{n20 n21 n22 n23 n24 n25:Int}{l26:List (Ty.den TMr)}{l27:List (Ty.den TU)}(h0:(p1p [.l TS l0,.l TPt l1,.l TPt l2,.l TRt l3])=(some (0,[.n n4,.l TU l5])))(h1:(n4=(0:Int)))(h2:(k3s [.n (↑(List.length l3):Int)])=(some (0,[.n n6])))(h3:(k3s [.n (↑(List.length l1):Int)])=(some (0,[.n n7])))(h4:(k3s [.n (↑(List.length l0):Int)])=(some (0,[.n n8])))(h5:(m3o [.k 0,.l TRt l3,.n (↑(List.length l3):Int),.n (0:Int),.l TS l0,.l TPt l1,.l TPt l2,.l TRt l3,.n (0:Int),.n (0:Int),.n (0:Int),.l TU l5,.n n6,.n (IntKind.wrap .u32 n7),.n n8,.l TMr []])=(some (0,[.l TS l9,.l TPt l10,.l TPt l11,.l TRt l12,.n n13,.n n14,.n n15,.n n16,.n n17,.n n18,.l TMr l19])))(h6:(k3m [.k 0,.l TPt l10,.n (↑(List.length l10):Int),.n (0:Int),.n n13,.n n14,.n n15,.n n16,.n n17,.n n18,.l TMr l19,.l TU []])=(some (0,[.n n20,.n n21,.n n22,.n n23,.n n24,.n n25,.l TMr l26,.l TU l27]))):k3l [.l TS l0,.l TPt l1,.l TPt l2,.l TRt l3]=some ((0,[.n n23,.n n24,.n n25,.n (0:Int),.l TMr l26,.l TU l27])):=h3c x3a (sA h0<|sP [1,1]<|sF (bnf h1)<|sA h2<|sP [1,1]<|sA h3<|sP [1,1]<|sA h4<|sP [1,1,1]<|sA h5<|sP [1]<|sA h6<|sP [1,1]<|sL)
theorem y3k {l0:List (Ty.den TS)}{l1 l2:List (Ty.den TPt)}{l3:List (Ty.den TRt)}{n4:Int}(h0:(p1p [.l TS l0,.l TPt l1,.l TPt l2,.l TRt l3])=(some (1,[.n n4])))(h1:(¬n4=(0:Int))):k3l [.l TS l0,.l TPt l1,.l TPt l2,.l TRt l3]=some ((1,[.n (0:Int),.n (0:Int),.n (0:Int),.n n4])):=h3c x3a (sA h0<|sP [0,1,1]<|sT (bnt h1)<|sP [1]<|sL)
def k3n:FuncId→Option a0q:=e1c 36 [d4w.k k3l] q3d
theorem i3j:CsOk Tryz.prog k3n:=csA1 j3q x3a
def w3m:LSh:={K:=0,log:=[],ins:=[(sh 28 [(1,.int .u64 0),(2,fnV0 59),(7,.int .u32 1),(11,.imm TMr 2),(12,.int .i64 3),(13,.int .i64 4)],[])],nils:=[],outs:=[(.exit 0,sh 28 [(7,.int .u32 0)],[])],cv:=[]}
def i3d:List Dat→Tree Step:=evL k3n 58 3 ls0 w3m
theorem l3a: ∃op,IsL i3d 58 3 w3m op:=bxL i3j (LsOk.none _ _ _)
def q3u:OpA:=opL l3a
theorem p3a (env:List Dat):q3u env=a0b i3d FU env:=h3i l3a env
abbrev e4h:MBox:=boxL l3a
theorem p3z {n0 n1:Int}{l2:List (Ty.den TMr)}{n3 n4:Int}{b5:Bool}(g0:0≤n4)(g1:n3=(l2.length:Int))(h0:(n4<n3))(h1:(h3n [.n n0,.n n4])=(some (0,[.b b5])))(h2:(b5=true)):(i3d [.k 0,.n n0,.n n1,.l TMr l2,.n n3,.n n4]).sel=some (Step.go [.k 0,.n n0,.n (ior IntKind.u32 n1 (Prod.fst (Prod.snd (Prod.snd (Prod.snd (List.getD l2 (Int.toNat n4) (Ty.dflt TMr))))))),.l TMr l2,.n n3,.n (IntKind.wrap .i64 (n4+(1:Int)))]):=sP [1]<|sT (dt h0)<|sTo (c:=(inR n4 (List.length l2)))<|sA h1<|sP [1,1]<|sT h2<|sP [1,1,1]<|sL
theorem r3k {n0 n1:Int}{l2:List (Ty.den TMr)}{n3 n4:Int}{b5:Bool}(g0:0≤n4)(g1:n3=(l2.length:Int))(h0:(n4<n3))(h1:(h3n [.n n0,.n n4])=(some (0,[.b b5])))(h2:(b5=false)):(i3d [.k 0,.n n0,.n n1,.l TMr l2,.n n3,.n n4]).sel=some (Step.go [.k 0,.n n0,.n n1,.l TMr l2,.n n3,.n (IntKind.wrap .i64 (n4+(1:Int)))]):=sP [1]<|sT (dt h0)<|sTo (c:=(inR n4 (List.length l2)))<|sA h1<|sP [1,1]<|sF h2<|sP [1]<|sL
theorem r3g {n0 n1:Int}{l2:List (Ty.den TMr)}{n3 n4:Int}(g0:0≤n4)(g1:n3=(l2.length:Int))(h0:(¬n4<n3)):(i3d [.k 0,.n n0,.n n1,.l TMr l2,.n n3,.n n4]).sel=some (Step.stop 0 [.n n1]):=sP [1]<|sF (df h0)<|sP [1]<|sL
def b4s:BSh:={args:=[.imm TMr 0,.int .u64 1,fnV0 59],blks:=[],log:=[],outs:=[(.int .u32 0,[])]}
def ev_m58a:List Dat→Tree (Nat×List Dat):=evF k3n 58 (lsM [(3,e4h)] 0) b4s
theorem a4s: ∃op,IsF ev_m58a 58 b4s op:=bxF i3j (lsE (lsC (h3g l3a) (atF) lsZ))
def o3r:OpA:=opF a4s
theorem z3a {l0:List (Ty.den TMr)}{n1 n2:Int}(h0:(q3u [.k 0,.n n1,.n (0:Int),.l TMr l0,.n (↑(List.length l0):Int),.n (0:Int)])=(some (0,[.n n2]))):o3r [.l TMr l0,.n n1]=some ((0,[.n n2])):=h3c a4s (sA h0<|sP [1,1]<|sL)
def v3z:LSh:={K:=0,log:=[],ins:=[(sh 28 [(1,.int .u64 0),(2,fnV0 60),(7,.int .u32 1),(11,.imm TMr 2),(12,.int .i64 3),(13,.int .i64 4)],[])],nils:=[],outs:=[(.exit 0,sh 28 [(7,.int .u32 0)],[])],cv:=[]}
def i3h:List Dat→Tree Step:=evL k3n 58 3 ls0 v3z
theorem k3z: ∃op,IsL i3h 58 3 v3z op:=bxL i3j (LsOk.none _ _ _)
def p3s:OpA:=opL k3z
theorem q3l (env:List Dat):p3s env=a0b i3h FU env:=h3i k3z env
abbrev e4y:MBox:=boxL k3z
theorem q3t {n0 n1:Int}{l2:List (Ty.den TMr)}{n3 n4:Int}{b5:Bool}(g0:0≤n4)(g1:n3=(l2.length:Int))(h0:(n4<n3))(h1:(h3n [.n n0,.n n4])=(some (0,[.b b5])))(h2:(b5=true)):(i3h [.k 0,.n n0,.n n1,.l TMr l2,.n n3,.n n4]).sel=some (Step.go [.k 0,.n n0,.n (ior IntKind.u32 n1 (Prod.fst (Prod.snd (Prod.snd (Prod.snd (Prod.snd (List.getD l2 (Int.toNat n4) (Ty.dflt TMr)))))))),.l TMr l2,.n n3,.n (IntKind.wrap .i64 (n4+(1:Int)))]):=sP [1]<|sT (dt h0)<|sTo (c:=(inR n4 (List.length l2)))<|sA h1<|sP [1,1]<|sT h2<|sP [1,1,1]<|sL
theorem p3g {n0 n1:Int}{l2:List (Ty.den TMr)}{n3 n4:Int}{b5:Bool}(g0:0≤n4)(g1:n3=(l2.length:Int))(h0:(n4<n3))(h1:(h3n [.n n0,.n n4])=(some (0,[.b b5])))(h2:(b5=false)):(i3h [.k 0,.n n0,.n n1,.l TMr l2,.n n3,.n n4]).sel=some (Step.go [.k 0,.n n0,.n n1,.l TMr l2,.n n3,.n (IntKind.wrap .i64 (n4+(1:Int)))]):=sP [1]<|sT (dt h0)<|sTo (c:=(inR n4 (List.length l2)))<|sA h1<|sP [1,1]<|sF h2<|sP [1]<|sL
theorem r3q {n0 n1:Int}{l2:List (Ty.den TMr)}{n3 n4:Int}(g0:0≤n4)(g1:n3=(l2.length:Int))(h0:(¬n4<n3)):(i3h [.k 0,.n n0,.n n1,.l TMr l2,.n n3,.n n4]).sel=some (Step.stop 0 [.n n1]):=sP [1]<|sF (df h0)<|sP [1]<|sL
def z3u:BSh:={args:=[.imm TMr 0,.int .u64 1,fnV0 60],blks:=[],log:=[],outs:=[(.int .u32 0,[])]}
def ev_m58b:List Dat→Tree (Nat×List Dat):=evF k3n 58 (lsM [(3,e4y)] 0) z3u
theorem b4k: ∃op,IsF ev_m58b 58 z3u op:=bxF i3j (lsE (lsC (h3g k3z) (atF) lsZ))
def o3i:OpA:=opF b4k
theorem y3i {l0:List (Ty.den TMr)}{n1 n2:Int}(h0:(p3s [.k 0,.n n1,.n (0:Int),.l TMr l0,.n (↑(List.length l0):Int),.n (0:Int)])=(some (0,[.n n2]))):o3i [.l TMr l0,.n n1]=some ((0,[.n n2])):=h3c b4k (sA h0<|sP [1,1]<|sL)
def n3u:FuncId→Option a0q:=e1c 58 [b4s.k o3r,z3u.k o3i] k3n
theorem k3p:CsOk Tryz.prog n3u:=h0a i3j fun B hB=>by
 simp only[List.mem_cons,List.not_mem_nil,or_false]at hB
 rcases hB with rfl|rfl
 ·exact i3g a4s
 ·exact i3g b4k
def z3f:LSh:={K:=0,log:=[],ins:=[(sh 28 [(1,.int .u64 0),(2,fnV0 62),(7,.int .u64 1),(11,.imm TMr 2),(12,.int .i64 3),(13,.int .i64 4)],[])],nils:=[],outs:=[(.exit 0,sh 28 [(7,.int .u64 0)],[])],cv:=[]}
def j3g:List Dat→Tree Step:=evL n3u 61 3 ls0 z3f
theorem n3v: ∃op,IsL j3g 61 3 z3f op:=bxL k3p (LsOk.none _ _ _)
def w3q:OpA:=opL n3v
theorem s3g (env:List Dat):w3q env=a0b j3g FU env:=h3i n3v env
abbrev i4k:MBox:=boxL n3v
theorem u3h {n0 n1:Int}{l2:List (Ty.den TMr)}{n3 n4:Int}{b5:Bool}(g0:0≤n4)(g1:n3=(l2.length:Int))(h0:(n4<n3))(h1:(h3n [.n n0,.n n4])=(some (0,[.b b5])))(h2:(b5=true)):(j3g [.k 0,.n n0,.n n1,.l TMr l2,.n n3,.n n4]).sel=some (Step.go [.k 0,.n n0,.n (ior IntKind.u64 n1 (Prod.snd (Prod.snd (Prod.snd (Prod.snd (Prod.snd (List.getD l2 (Int.toNat n4) (Ty.dflt TMr)))))))),.l TMr l2,.n n3,.n (IntKind.wrap .i64 (n4+(1:Int)))]):=sP [1]<|sT (dt h0)<|sTo (c:=(inR n4 (List.length l2)))<|sA h1<|sP [1,1]<|sT h2<|sP [1,1,1]<|sL
theorem v3a {n0 n1:Int}{l2:List (Ty.den TMr)}{n3 n4:Int}{b5:Bool}(g0:0≤n4)(g1:n3=(l2.length:Int))(h0:(n4<n3))(h1:(h3n [.n n0,.n n4])=(some (0,[.b b5])))(h2:(b5=false)):(j3g [.k 0,.n n0,.n n1,.l TMr l2,.n n3,.n n4]).sel=some (Step.go [.k 0,.n n0,.n n1,.l TMr l2,.n n3,.n (IntKind.wrap .i64 (n4+(1:Int)))]):=sP [1]<|sT (dt h0)<|sTo (c:=(inR n4 (List.length l2)))<|sA h1<|sP [1,1]<|sF h2<|sP [1]<|sL
theorem t3d {n0 n1:Int}{l2:List (Ty.den TMr)}{n3 n4:Int}(g0:0≤n4)(g1:n3=(l2.length:Int))(h0:(¬n4<n3)):(j3g [.k 0,.n n0,.n n1,.l TMr l2,.n n3,.n n4]).sel=some (Step.stop 0 [.n n1]):=sP [1]<|sF (df h0)<|sP [1]<|sL
def S_m61:BSh:={args:=[.imm TMr 0,.int .u64 1,fnV0 62],blks:=[],log:=[],outs:=[(.int .u64 0,[])]}
def ev_m61:List Dat→Tree (Nat×List Dat):=evF n3u 61 (lsM [(3,i4k)] 0) S_m61
theorem e_m61: ∃op,IsF ev_m61 61 S_m61 op:=bxF k3p (lsE (lsC (h3g n3v) (atF) lsZ))
def w3f:OpA:=opF e_m61
theorem d4k {l0:List (Ty.den TMr)}{n1 n2:Int}(h0:(w3q [.k 0,.n n1,.n (0:Int),.l TMr l0,.n (↑(List.length l0):Int),.n (0:Int)])=(some (0,[.n n2]))):w3f [.l TMr l0,.n n1]=some ((0,[.n n2])):=h3c e_m61 (sA h0<|sP [1,1]<|sL)
def f4d:FuncId→Option a0q:=e1c 61 [S_m61.k w3f] n3u
theorem p3j:CsOk Tryz.prog f4d:=csA1 k3p e_m61
def S_m31:BSh:={args:=[msV 0,.int .u64 5],blks:=[],log:=[],outs:=[(.tup [.int .u32 0,.int .u32 1],[])]}
def ev_m31:List Dat→Tree (Nat×List Dat):=evF f4d 32 ls0 S_m31
theorem e_m31: ∃op,IsF ev_m31 32 S_m31 op:=bxF p3j (LsOk.none _ _ _)
def j3m:OpA:=opF e_m31
theorem q3p {l0:List (Ty.den TMr)}{l1:List (Ty.den TU)}{n2 n3 n4 n5 n6 n7:Int}(h0:(o3r [.l TMr l0,.n n5])=(some (0,[.n n6])))(h1:(o3i [.l TMr l0,.n n5])=(some (0,[.n n7]))):j3m [.l TMr l0,.l TU l1,.n n2,.n n3,.n n4,.n n5]=some ((0,[.n n6,.n n7])):=h3c e_m31 (sP [1]<|sA h0<|sP [1,1,1]<|sA h1<|sP [1,1,1,1]<|sL)
def c4v:FuncId→Option a0q:=a0s 32 (S_m31.k j3m) f4d
theorem p3n:CsOk Tryz.prog c4v:=csL1 p3j e_m31
def S_m32:BSh:={args:=[msV 0,.int .u64 5],blks:=[],log:=[],outs:=[(.int .u64 0,[])]}
def ev_m32:List Dat→Tree (Nat×List Dat):=evF c4v 33 ls0 S_m32
theorem e_m32: ∃op,IsF ev_m32 33 S_m32 op:=bxF p3n (LsOk.none _ _ _)
def m3t:OpA:=opF e_m32
theorem a4e {l0:List (Ty.den TMr)}{l1:List (Ty.den TU)}{n2 n3 n4 n5 n6:Int}(h0:(w3f [.l TMr l0,.n n5])=(some (0,[.n n6]))):m3t [.l TMr l0,.l TU l1,.n n2,.n n3,.n n4,.n n5]=some ((0,[.n n6])):=h3c e_m32 (sP [1]<|sA h0<|sP [1,1,1]<|sL)
def z3x:FuncId→Option a0q:=a0s 33 (S_m32.k m3t) c4v
theorem q3k:CsOk Tryz.prog z3x:=csL1 p3n e_m32
def p2 (k:Nat):B64:=1#64<<<k
def inN (n:Int):Bool:=decide (0≤n)&&decide (n<64)
def hasB (X:B64)(n:Int):Bool:=inN n&&X.getLsbD n.toNat
def s1o (X:B64)(n:Int):B64:=bif inN n then X|||p2 n.toNat else X
theorem h2g (k i:Nat):(p2 k).getLsbD i=(decide (i<64)&&decide (i=k)):=by
 unfold p2
 rw[BitVec.getLsbD_shiftLeft]
 by_cases h:i=k
 ·subst h;simp
 ·by_cases h2:i<k
  ·simp[h,h2]
  ·have:i-k≠0:=by omega
   simp[h,h2,this]
theorem p2_nat {k:Nat}(h:k<64):(p2 k).toNat=2^k:=by
 unfold p2
 rw[BitVec.toNat_shiftLeft,Nat.shiftLeft_eq]
 have:2^k<2^64:=Nat.pow_lt_pow_right (by omega) h
 rw[show(1#64).toNat=1 from rfl,Nat.one_mul,Nat.mod_eq_of_lt this]
theorem w64x {x:Int}(h0: -9223372036854775808≤x)(h1:x<9223372036854775808):IntKind.wrap .i64 x=x:=by unfold IntKind.wrap;simp[IntKind.bits,IntKind.signed];omega
theorem wu64' {x:Int}(h0:0≤x)(h1:x<18446744073709551616):IntKind.wrap .u64 x=x:=by unfold IntKind.wrap;simp[IntKind.bits,IntKind.signed];omega
theorem x3x {X:B64}{n:Int}(h:inN n=false):s1o X n=X:=by unfold s1o;rw[h];rfl
def firB (k:Nat):B64:=BitVec.ofNat 64 (2^k-1)
theorem t2j {k:Nat}(h:k≤64):(firB k).toNat=2^k-1:=by
 unfold firB
 rw[BitVec.toNat_ofNat]
 have:2^k≤2^64:=Nat.pow_le_pow_right (by omega) h
 exact Nat.mod_eq_of_lt (by omega)
theorem y0i {k:Nat}(h:k≤64)(i:Nat):(firB k).getLsbD i=decide (i<k):=by
 rw[←BitVec.testBit_toNat,t2j h,Nat.testBit_two_pow_sub_one]
theorem i4c (k:Nat):ishl IntKind.u64 (1:Int) (k:Int)=N (p2 k):=ishlB k
theorem k3x (X:B64)(n:Int):h3q [.n (N X),.n n]=some (0,[.n (N (s1o X n))]):=by
 by_cases h0:0≤n
 ·by_cases h1:n<64
  ·obtain⟨k,rfl⟩: ∃k:Nat,n=k:=⟨n.toNat,by omega⟩
   rw[g4h h0 (by omega),i4c,h3r]
   have:inN (k:Int)=true:=by simp[inN];omega
   unfold s1o;rw[this];rfl
  ·rw[b4y h0 (by omega),x3x (by simp[inN,h1])]
 ·rw[b4u (by omega),x3x (by simp[inN,h0])]
theorem firN (n:Int):N (firB (min n.toNat 64))=if n≤0 then 0 else if n≥64 then 18446744073709551615 else 2^n.toNat-1:=by
 unfold N
 rw[t2j (by omega)]
 by_cases h0:n≤0
 ·rw[if_pos h0,show min n.toNat 64=0 by omega];rfl
 ·rw[if_neg h0]
  by_cases h1:n≥64
  ·rw[if_pos h1,show min n.toNat 64=64 by omega];rfl
  ·rw[if_neg h1,show min n.toNat 64=n.toNat by omega]
   have:0<2^n.toNat:=Nat.pow_pos (by omega)
   simp[Int.natCast_sub this]
theorem q_e26 (n:Int):k3s [.n n]=some (0,[.n (N (firB (min n.toNat 64)))]):=by
 rw[firN]
 by_cases h0:n≤0
 ·rw[if_pos h0];exact d4i h0
 ·rw[if_neg h0]
  by_cases h1:n≥64
  ·rw[if_pos h1];exact c4r h0 h1
  ·rw[if_neg h1,c4c h0 h1]
   obtain⟨k,rfl⟩: ∃k:Nat,n=k:=⟨n.toNat,by omega⟩
   have hp:N (p2 k)=((2^k:Nat):Int):=by unfold N;rw[p2_nat (by omega)]
   have hlt:2^k<2^64:=Nat.pow_lt_pow_right (by omega) (by omega)
   have hpos:0<2^k:=Nat.pow_pos (by omega)
   rw[i4c,hp,wu64' (by omega) (by omega)]
   simp
def ofL (l:List Int):B64:=l.foldl s1o 0#64
theorem i4l (l:List Int){i:Nat}(hi:i<l.length):ofL (l.take (i+1))=s1o (ofL (l.take i)) (l.getD i 0):=by
 unfold ofL
 rw[List.take_add_one,List.getElem?_eq_getElem hi,List.foldl_append]
 simp[List.getD_eq_getElem?_getD,List.getElem?_eq_getElem hi]
theorem q_e17 (l:List Int)(hl:l.length≤9223372036854775807):x3o [.l TI l]=some (0,[.n (N (ofL l))]):=by
 refine a4h ?_
 rw[s3a]
 refine b0a (st:=j3v) (fun i=>[.k 0,.n (N (ofL (l.take i))),.l TI l,.n (l.length:Int),.n (i:Int)]) l.length (0,[.n (N (ofL l))]) (fun i hi=> ?_) ?_ FU (b1w hl)
 ·have h:=v3k (n3:=i) (n2:=l.length) (l1:=l) (by omega) rfl (by omega) (k3x (ofL (l.take i)) _)
  rw[w64x (by omega) (by omega)]at h
  rw[show(Int.toNat (i:Int))=i from rfl,show s1o (ofL (l.take i)) (l.getD i 0)=_ from(i4l l hi).symm]at h
  exact h
 ·have h:=v3m (n0:=N (ofL (l.take l.length))) (n3:=l.length) (n2:=l.length) (l1:=l) (by omega) rfl (by omega)
  rw[List.take_length]at h⊢;exact h
theorem y3u (X:B64)(n:Int):h3n [.n (N X),.n n]=some (0,[.b (hasB X n)]):=by
 unfold hasB inN
 by_cases h0:0≤n
 ·by_cases h1:n<64
  ·obtain⟨k,rfl⟩: ∃k:Nat,n=k:=⟨n.toNat,by omega⟩
   rw[b4f h0 h1,iandB,decide_eq_true h0,decide_eq_true h1];rfl
  ·rw[z3j h0 h1,decide_eq_false h1];simp
 ·rw[d4q h0,decide_eq_false h0];simp
def ptsR (z:Bool)(l:LN):List Int:=(l.filter fun d=>g2 d==z).map f1
theorem q3c (z:Bool)(l:LN){i:Nat}(hi:i<l.length):ptsR z (l.take (i+1))=if(g2 (l.getD i (Ty.dflt TNd))==z)=true then ptsR z (l.take i)++[f1 (l.getD i (Ty.dflt TNd))]else ptsR z (l.take i):=by
 unfold ptsR
 rw[List.take_add_one,List.getElem?_eq_getElem hi,List.getD_eq_getElem?_getD,List.getElem?_eq_getElem hi]
 simp only[Option.toList,Option.getD_some,List.filter_append,List.map_append,List.filter_cons,List.filter_nil]
 split<;>simp
theorem z3z (l:List Int)(x:Int):ofL (l++[x])=s1o (ofL l) x:=by unfold ofL;rw[List.foldl_append];rfl
def p0 (e:Rt):Int:=(eP e).getD 0 0
def mrow (c:LP)(e:Rt)(t:Int):Ty.den TMr:=(N (ofL (trk e)),N (s1o 0#64 (p0 e)),N (s1o 0#64 (ptS c (eN e))),IntKind.wrap .u32 (N (ofL (ptsR false (ndsE e)))),IntKind.wrap .u32 (N (ofL (ptsR true (ndsE e)))),t)
theorem lp54m (a:LS)(b c:LP)(r:LR)(s:ByteArray)(n:Int)(p:LI)(q:LN)(o:LI)(f:LN)(t x1 x2 x3 x4 x5 x6:Int)(l:LN)(hl:l.length≤1000):
  n3s [.k 0,.n t,.n 0,.n 0,.n (l.length:Int),.n 0,.l TS a,.l TPt b,.l TPt c,.l TRt r,.s s,.n n,.l TI p,.l TNd q,.l TI o,.l TNd f,.n x1,.n x2,.n x3,.n x4,.n x5,.n x6,.l TNd l]=
   some (0,[.n t,.n (N (ofL (ptsR false l))),.n (N (ofL (ptsR true l))),.l TS a,.l TPt b,.l TPt c,.l TRt r,.s s,.n n,.l TI p,.l TNd q,.l TI o,.l TNd f,.n x1,.n x2,.n x3,.n x4,.n x5,.n x6]):=by
 rw[s3d]
 refine b0a (st:=j3f) (fun i=>[.k 0,.n t,.n (N (ofL (ptsR false (l.take i)))),.n (N (ofL (ptsR true (l.take i)))),.n (l.length:Int),.n (i:Int),.l TS a,.l TPt b,.l TPt c,.l TRt r,.s s,.n n,.l TI p,.l TNd q,.l TI o,.l TNd f,.n x1,.n x2,.n x3,.n x4,.n x5,.n x6,.l TNd l]) l.length (0,[.n t,.n (N (ofL (ptsR false l))),.n (N (ofL (ptsR true l))),.l TS a,.l TPt b,.l TPt c,.l TRt r,.s s,.n n,.l TI p,.l TNd q,.l TI o,.l TNd f,.n x1,.n x2,.n x3,.n x4,.n x5,.n x6]) (fun i hi=> ?_) ?_ FU (b1w (by omega))
 ·show _=some (Step.go [.k 0,.n t,.n (N (ofL (ptsR false (l.take (i+1))))),.n (N (ofL (ptsR true (l.take (i+1))))),.n (l.length:Int),.n ((i+1:Nat):Int),.l TS a,.l TPt b,.l TPt c,.l TRt r,.s s,.n n,.l TI p,.l TNd q,.l TI o,.l TNd f,.n x1,.n x2,.n x3,.n x4,.n x5,.n x6,.l TNd l])
  rw[q3c false l hi,q3c true l hi,←w1n i (by omega)]
  cases h:g2 (l.getD i (Ty.dflt TNd))with
  |true=>
   rw[if_neg (by simp),if_pos (by simp),z3z]
   exact u3d (by omega) rfl (by omega) h (k3x _ _)
  |false=>
   rw[if_pos (by simp),if_neg (by simp),z3z]
   exact u3x (by omega) rfl (by omega) h (k3x _ _)
 ·show _=some (Step.stop 0 [.n t,.n (N (ofL (ptsR false l))),.n (N (ofL (ptsR true l))),.l TS a,.l TPt b,.l TPt c,.l TRt r,.s s,.n n,.l TI p,.l TNd q,.l TI o,.l TNd f,.n x1,.n x2,.n x3,.n x4,.n x5,.n x6])
  rw[←congrArg (ptsR false) (List.take_length (l:=l)),←congrArg (ptsR true) (List.take_length (l:=l))]
  exact s3f (by omega) rfl (by omega)
theorem o54m (a:LS)(b c:LP)(r:LR)(e:Rt)(t:Int)(hk:rtOk b c e)(hw:wfE b c e=true):
  w3b [.l TS a,.l TPt b,.l TPt c,.l TRt r,.s (eS e),.n (eN e),.l TI (eP e),.l TNd (eQ e),.l TI (eO e),.l TNd (eF e),.n t]=some (0,[.n (mrow c e t).1,.n (mrow c e t).2.1,.n (mrow c e t).2.2.1,.n (mrow c e t).2.2.2.1,.n (mrow c e t).2.2.2.2.1,.n (mrow c e t).2.2.2.2.2]):=by
 obtain⟨⟨k1,k2⟩,⟨l1,l2,l3,l4⟩,k3,k4⟩:=hk
 have hp:0<(eP e).length:=by
  unfold wfE wfR at hw
  exact of_decide_eq_true (Bool.and_eq_true_iff.1 hw).1
 have hn:(ndsE e).length≤1000:=by unfold ndsE;rw[show List.append (eQ e) (eF e)=eQ e++eF e from rfl,List.length_append];omega
 have ht:(trk e).length≤9223372036854775807:=by unfold trk;rw[List.length_append];omega
 exact c4q (o10 _ _ _ _ _ _ l1 l2 l3 l4) (lp54m a b c r _ _ _ _ _ _ t 0 0 0 0 0 0 (ndsE e) hn) (o9 _ _ _ _ _ _ l1 l2 l3 l4) (q_e17 (trk e) ht) (h1s (i:=0) (n:=(eP e).length) (by omega) (by omega)) (k3x 0#64 (p0 e)) (h1s k1 k2) (k3x 0#64 (ptS c (eN e)))
def h3p (c:LP)(r:LR)(T:List Int)(k:Nat):List (Ty.den TMr):=(List.range k).map fun i=>mrow c (r.getD i (Ty.dflt TRt)) (T.getD i 0)
theorem i3w (c:LP)(r:LR)(T:List Int)(k:Nat):(h3p c r T k).length=k:=by unfold h3p;rw[List.length_map,List.length_range]
theorem y3o (c:LP)(r:LR)(T:List Int)(k:Nat):h3p c r T (k+1)=apL (h3p c r T k) [mrow c (r.getD k (Ty.dflt TRt)) (T.getD k 0)]:=by unfold h3p;rw[List.range_succ,List.map_append];rfl
def k3a (b:LP)(k:Nat):List Int:=(List.range k).map fun i=>N (s1o 0#64 (Prod.snd (b.getD i (Ty.dflt TPt))))
theorem m3c (b:LP)(k:Nat):(k3a b k).length=k:=by unfold k3a;rw[List.length_map,List.length_range]
theorem y3d (b:LP)(k:Nat):k3a b (k+1)=k3a b k++[N (s1o 0#64 (Prod.snd (b.getD k (Ty.dflt TPt))))]:=by unfold k3a;rw[List.range_succ,List.map_append];rfl
abbrev allR (b c:LP)(r:LR):Prop:= ∀i,i<r.length→rtOk b c (r.getD i (Ty.dflt TRt))∧wfE b c (r.getD i (Ty.dflt TRt))=true
def mkA (a:LS)(b c:LP)(r:LR):Nat×List Dat:=if(ckA a b c r).1=0 then(0,[.n (N (firB (min r.length 64))),.n (IntKind.wrap .u32 (N (firB (min b.length 64)))),.n (N (firB (min a.length 64))),.n 0,.l TMr (h3p c r (NL (tabB b r)) r.length),.l TU (k3a b b.length)])else(1,[.n 0,.n 0,.n 0,.n (ckA a b c r).1])
theorem a4w (b:LP)(r:LR):(NL (tabB b r)).length=r.length:=by rw[u1l];exact o0n ..
theorem ck_all {a:LS}{b c:LP}{r:LR}(h:(ckA a b c r).1=0):b.length≤32∧r.length≤64∧allR b c r:=by
 obtain⟨hm,hw⟩:=(e4s a b c r).1 h
 obtain⟨h1,h2,h3⟩:=l0q hm
 exact⟨h1,h2,fun i hi=>⟨h3 i hi,hw _ (h0f hi)⟩⟩
theorem lq28i_6 (a:LS)(b c:LP)(r:LR)(T:List Int)(y1 y2 y3 z1 z2 z3:Int)(hr:r.length≤64)(hT:T.length=r.length)(hk:allR b c r):
  m3o [.k 0,.l TRt r,.n (r.length:Int),.n 0,.l TS a,.l TPt b,.l TPt c,.l TRt r,.n y1,.n y2,.n y3,.l TU T,.n z1,.n z2,.n z3,.l TMr []]=some (0,[.l TS a,.l TPt b,.l TPt c,.l TRt r,.n y1,.n y2,.n y3,.n z1,.n z2,.n z3,.l TMr (h3p c r T r.length)]):=by
 rw[r3a]
 refine b0a (st:=i3p) (fun i=>[.k 0,.l TRt r,.n (r.length:Int),.n (i:Int),.l TS a,.l TPt b,.l TPt c,.l TRt r,.n y1,.n y2,.n y3,.l TU T,.n z1,.n z2,.n z3,.l TMr (h3p c r T i)]) r.length (0,[.l TS a,.l TPt b,.l TPt c,.l TRt r,.n y1,.n y2,.n y3,.n z1,.n z2,.n z3,.l TMr (h3p c r T r.length)]) (fun i hi=> ?_) ?_ FU (b1w (by omega))
 ·show _=some (Step.go [.k 0,.l TRt r,.n (r.length:Int),.n ((i+1:Nat):Int),.l TS a,.l TPt b,.l TPt c,.l TRt r,.n y1,.n y2,.n y3,.l TU T,.n z1,.n z2,.n z3,.l TMr (h3p c r T (i+1))])
  rw[y3o,←w1n i (by omega)]
  have hl:=i3w c r T i
  exact q3q (by omega) rfl (congrArg Int.ofNat hT.symm) (by omega) (o54m a b c r _ (T.getD i 0) (hk i hi).1 (hk i hi).2) (by omega)
 ·exact q3y (by omega) rfl (congrArg Int.ofNat hT.symm) (by omega)
theorem h4q (b:LP)(M:List (Ty.den TMr))(y1 y2 y3 z1 z2 z3:Int)(hb:b.length≤32):
  k3m [.k 0,.l TPt b,.n (b.length:Int),.n 0,.n y1,.n y2,.n y3,.n z1,.n z2,.n z3,.l TMr M,.l TU []]=some (0,[.n y1,.n y2,.n y3,.n z1,.n z2,.n z3,.l TMr M,.l TU (k3a b b.length)]):=by
 rw[n3e]
 refine b0a (st:=i3f) (fun i=>[.k 0,.l TPt b,.n (b.length:Int),.n (i:Int),.n y1,.n y2,.n y3,.n z1,.n z2,.n z3,.l TMr M,.l TU (k3a b i)]) b.length (0,[.n y1,.n y2,.n y3,.n z1,.n z2,.n z3,.l TMr M,.l TU (k3a b b.length)]) (fun i hi=> ?_) ?_ FU (b1w (by omega))
 ·show _=some (Step.go [.k 0,.l TPt b,.n (b.length:Int),.n ((i+1:Nat):Int),.n y1,.n y2,.n y3,.n z1,.n z2,.n z3,.l TMr M,.l TU (k3a b (i+1))])
  rw[y3d,←w1n i (by omega)]
  have hl:=m3c b i
  exact o3m (by omega) rfl (by omega) (k3x 0#64 _) (show(List.length (α:=Int) (k3a b i)+1)*8≤140737488355328 by omega)
 ·exact o3e (by omega) rfl (by omega)
theorem o28i (a:LS)(b c:LP)(r:LR)(hs:okS a b c r):k3l [.l TS a,.l TPt b,.l TPt c,.l TRt r]=some (mkA a b c r):=by
 have e:=o17c a b c r hs
 unfold mkA
 by_cases h:(ckA a b c r).1=0
 ·rw[if_pos h]at e⊢
  obtain⟨h1,h2,h3⟩:=ck_all h
  have f6:=lq28i_6 a b c r (NL (tabB b r)) 0 0 0 (N (firB (min r.length 64))) (IntKind.wrap .u32 (N (firB (min b.length 64)))) (N (firB (min a.length 64))) h2 (a4w b r) h3
  exact y3a e rfl (q_e26 _) (q_e26 _) (q_e26 _) f6 (h4q b _ 0 0 0 _ _ _ h1)
 ·rw[if_neg h]at e⊢
  exact y3k e h
theorem i3e (X:B64)(n:Int){k:Nat}(hk:k<64):(s1o X n).getLsbD k=(X.getLsbD k||decide ((k:Int)=n)):=by
 unfold s1o
 cases h:inN n with
 |true=>
  unfold inN at h
  rw[Bool.and_eq_true,decide_eq_true_eq,decide_eq_true_eq]at h
  rw[cond_true,BitVec.getLsbD_or,h2g,decide_eq_true hk,Bool.true_and]
  congr 1
  rw[Bool.eq_iff_iff,decide_eq_true_eq,decide_eq_true_eq];omega
 |false=>
  unfold inN at h
  rw[Bool.and_eq_false_iff,decide_eq_false_iff_not,decide_eq_false_iff_not]at h
  rw[cond_false,decide_eq_false (by omega),Bool.or_false]
theorem d4j (l:List Int){k:Nat}(hk:k<64):(ofL l).getLsbD k=decide ((k:Int)∈l):=by
 have key: ∀(l:List Int) (X:B64),(l.foldl s1o X).getLsbD k=(X.getLsbD k||decide ((k:Int)∈l)):=by
  intro l
  induction l with
  |nil=>intro X;simp
  |cons x l ih=>intro X;rw[List.foldl_cons,ih,i3e _ _ hk,Bool.or_assoc];simp[List.mem_cons]
 unfold ofL
 rw[key];simp
def acc {w:Nat}(X:B64)(f:Nat→BitVec w):Nat→BitVec w
 |0=>0#w
 |i+1=>bif X.getLsbD i then acc X f i|||f i else acc X f i
theorem i3c {w:Nat}(X:B64)(f:Nat→BitVec w)(j:Nat): ∀m,(acc X f m).getLsbD j=true↔ ∃i,i<m∧X.getLsbD i=true∧(f i).getLsbD j=true
 |0=>by simp[acc]
 |m+1=>by
  have ih:=i3c X f j m
  unfold acc
  cases h:X.getLsbD m with
  |true=>
   rw[cond_true,BitVec.getLsbD_or,Bool.or_eq_true,ih]
   constructor
   ·rintro(⟨i,a,b,c⟩|c)
    ·exact⟨i,by omega,b,c⟩
    ·exact⟨m,by omega,h,c⟩
   ·rintro⟨i,a,b,c⟩
    rcases Nat.lt_or_ge i m with q|q
    ·exact .inl ⟨i,q,b,c⟩
    ·rw[show i=m by omega]at c;exact .inr c
  |false=>
   rw[cond_false,ih]
   constructor
   ·rintro⟨i,a,b,c⟩;exact⟨i,by omega,b,c⟩
   ·rintro⟨i,a,b,c⟩
    rcases Nat.lt_or_ge i m with q|q
    ·exact⟨i,q,b,c⟩
    ·rw[show i=m by omega,h]at b;cases b
theorem acc_t {w:Nat}{X:BitVec 64}(f:Nat→BitVec w){i:Nat}(h:X.getLsbD i=true):acc X f (i+1)=acc X f i|||f i:=by
 show(bif X.getLsbD i then _ else _)=_
 rw[h];rfl
theorem acc_f {w:Nat}{X:BitVec 64}(f:Nat→BitVec w){i:Nat}(h:X.getLsbD i=false):acc X f (i+1)=acc X f i:=by
 show(bif X.getLsbD i then _ else _)=_
 rw[h];rfl
theorem n3i (Y:B64):IntKind.wrap .u32 (N Y)=N (Y.setWidth 32):=by
 rw[p2u]
 refine congrArg N (BitVec.eq_of_toNat_eq ?_)
 rw[BitVec.toNat_ofInt,BitVec.toNat_setWidth]
 unfold N;omega
theorem bv0 {w:Nat}{X:BitVec w}(h: ∀k,k<w→ ¬X.getLsbD k=true):X=0#w:=by
 apply BitVec.eq_of_getLsbD_eq
 intro i hi
 rw[BitVec.getLsbD_zero]
 cases e:X.getLsbD i with
 |true=>exact absurd e (h i hi)
 |false=>rfl
theorem and0 {w:Nat}{X Y:BitVec w}(h: ∀k,k<w→X.getLsbD k=true→Y.getLsbD k=true→False):X&&&Y=0#w:=
 bv0 fun k hk e=>by rw[BitVec.getLsbD_and,Bool.and_eq_true]at e;exact h k hk e.1 e.2
theorem sub_and {w:Nat}{X Y:BitVec w}(h: ∀k,k<w→X.getLsbD k=true→Y.getLsbD k=true):X&&&Y=X:=by
 apply BitVec.eq_of_getLsbD_eq
 intro i hi
 rw[BitVec.getLsbD_and]
 cases e:X.getLsbD i with
 |true=>rw[h i hi e];rfl
 |false=>rfl
section
variable (b c:LP) (r:LR)
abbrev rN (r:LR)(i:Nat):Rt:=r.getD i (Ty.dflt TRt)
def fT (i:Nat):B64:=ofL (trk (rN r i))
def f32 (z:Bool)(i:Nat):BitVec 32:=(ofL (ptsR z (ndsE (rN r i)))).setWidth 32
def fC (i:Nat):B64:=(tabB b r).getD i 0#64
theorem h4b {T:List Int}{k i:Nat}(h:i<k):(h3p c r T k).getD i (Ty.dflt TMr)=mrow c (rN r i) (T.getD i 0):=by
 unfold h3p
 rw[List.getD_eq_getElem?_getD,List.getElem?_map,List.getElem?_range h];rfl
theorem k3e {i:Nat}(h:i<r.length):(h3p c r (NL (tabB b r)) r.length).getD i (Ty.dflt TMr)=(N (fT r i),N (s1o 0#64 (p0 (rN r i))),N (s1o 0#64 (ptS c (eN (rN r i)))),N (f32 r false i),N (f32 r true i),N (fC b r i)):=by
 rw[h4b c r h]
 unfold mrow fT f32 fC
 rw[n3i,n3i,NL_at];rfl
end
theorem pts_mem {z:Bool}{l:LN}{x:Int}:x∈ptsR z l↔ ∃d∈l,f1 d=x∧g2 d=z:=by
 unfold ptsR
 rw[List.mem_map]
 constructor
 ·rintro⟨d,hd,e⟩
  rw[List.mem_filter]at hd
  exact⟨d,hd.1,e,by simpa using hd.2⟩
 ·rintro⟨d,hd,e,g⟩
  exact⟨d,List.mem_filter.2 ⟨hd,by simpa using g⟩,e⟩
theorem h3o {r:LR}{z:Bool}{i j:Nat}(hj:j<32):(f32 r z i).getLsbD j=true↔ ∃d∈ndsE (rN r i),f1 d=(j:Int)∧g2 d=z:=by
 unfold f32
 rw[BitVec.getLsbD_setWidth,decide_eq_true hj,Bool.true_and,d4j _ (by omega),decide_eq_true_eq,pts_mem]
theorem fT_bit {r:LR}{i j:Nat}(hj:j<64):(fT r i).getLsbD j=true↔(j:Int)∈trk (rN r i):=by
 unfold fT;rw[d4j _ hj,decide_eq_true_eq]
structure WF (a:LS)(b c:LP)(r:LR):Prop where
 la:a.length≤64
 lb:b.length≤32
 lr:r.length≤64
 tr: ∀i,i<r.length→ ∀x∈trk (rN r i),0≤x∧x<(a.length:Int)
 pt: ∀i,i<r.length→f0c b (ndsE (rN r i))
 all:allR b c r
theorem wf_of {a:LS}{b c:LP}{r:LR}(h:(ckA a b c r).1=0):WF a b c r:=by
 obtain⟨hm,hw⟩:=(e4s a b c r).1 h
 obtain⟨h1,h2,h3⟩:=ck_all h
 have h:=hm
 unfold mayL at h
 rw[Bool.and_eq_true]at h
 obtain⟨q1,-,-,-⟩:=(@of_decide_eq_true (smallL a b c r) (instDecidableSmallL a b c r) h.1)
 have h:=h.2
 simp only[Bool.and_eq_true]at h
 obtain⟨h5,h6,h7,h8⟩:=h
 refine⟨q1,h1,h2,fun i hi x hx=> ?_,fun i hi d hd=> ?_,h3⟩
 ·have k:=List.all_eq_true.1 h7 i (List.mem_range'_1.2 (by omega))
  unfold okR mayR at k
  simp only[Bool.and_eq_true,decide_eq_true_eq]at k
  obtain⟨k1,k2,k3,k4,k5,k6⟩:=k
  unfold trk at hx
  rcases List.mem_append.1 hx with hx|hx
  ·exact(n2h k3).2 x hx
  ·exact(n2h k5).2 x hx
 ·obtain⟨⟨-,-,k3,k4⟩,-⟩:=h3 i hi
  unfold ndsE at hd
  rcases List.mem_append.1 hd with hd|hd
  ·exact k3 d hd
  ·exact k4 d hd
theorem inj_nd {l:LN}(h:(nd l).Nodup){d e:Ty.den TNd}(hd:d∈l)(he:e∈l)(q:f1 d=f1 e):g2 d=g2 e:=by
 have h1:=n2x h hd
 have h2:=n2x h he
 rw[q,h2]at h1;exact(Option.some.inj h1).symm
section
variable {a:LS} {b c:LP} {r:LR} (w:WF a b c r)
include w
theorem w3v {i:Nat}(hi:i<r.length):0<(eP (rN r i)).length∧ptS c (eN (rN r i))∉trk (rN r i)∧(nd (ndsE (rN r i))).Nodup:=by
 have h:=(w.all i hi).2
 unfold wfE wfR at h
 simp only[Bool.and_eq_true,decide_eq_true_eq,Bool.not_eq_true',decide_eq_false_iff_not]at h
 exact⟨h.1,h.2.1,h.2.2.2.1⟩
theorem p3e {i k:Nat}(hi:i<r.length)(hk:k<r.length):(fC b r i).getLsbD k=clN b r i k:=by
 have:=w.lr
 have:=tab_bit b r hi w.lr (show k<64 by omega)
 unfold bitT at this
 unfold fC
 rw[this,decide_eq_true hk,Bool.true_and]
theorem apart {i k:Nat}(hi:i<r.length)(hk:k<r.length)(hik:i≠k)(h:clN b r i k=false):
  (∀x∈trk (rN r i),x∉trk (rN r k))∧ ∀x∈ndsE (rN r i),∀y∈ndsE (rN r k),f1 x=f1 y→g2 x=g2 y:=by
 obtain⟨-,-,ni⟩:=w3v w hi
 obtain⟨-,-,nk⟩:=w3v w hk
 unfold clN clF at h
 rw[df (show¬(i:Int)=(k:Int) by omega)]at h
 have h:cfE b (rN r i) (rN r k)=false:=h
 unfold cfE at h
 rw[Bool.or_eq_false_iff,Bool.or_eq_false_iff,Bool.or_eq_false_iff]at h
 obtain⟨-,c2,c3,-⟩:=h
 rw[sds_nd ni,sds_nd nk]at c3
 refine⟨fun x hx hy=> ?_,fun x hx y hy e=> ?_⟩
 ·unfold shF at c2
  rw[List.any_eq_false]at c2
  exact c2 x hx (dt hy)
 ·unfold unF at c3
  rw[List.any_eq_false]at c3
  have:=c3 x hx
  unfold unAt at this
  rw[e,n2x nk hy]at this
  have this: ¬(g2 y !=g2 x)=true:=this
  revert this
  cases g2 x<;>cases g2 y<;>simp
end
theorem i3o (X:B64){i:Nat}(h:i<64):hasB X (i:Int)=X.getLsbD i:=by
 unfold hasB inN
 rw[decide_eq_true (show(0:Int)≤(i:Int) by omega),decide_eq_true (show(i:Int)<64 by omega)];rfl
theorem om58a (b c:LP)(r:LR)(X:B64)(hr:r.length≤64):o3r [.l TMr (h3p c r (NL (tabB b r)) r.length),.n (N X)]=some (0,[.n (N (acc X (f32 r false) r.length))]):=by
 have hl:=i3w c r (NL (tabB b r)) r.length
 refine z3a ?_
 rw[hl,p3a]
 refine b0a (st:=i3d) (fun i=>[.k 0,.n (N X),.n (N (acc X (f32 r false) i)),.l TMr (h3p c r (NL (tabB b r)) r.length),.n (r.length:Int),.n (i:Int)]) r.length (0,[.n (N (acc X (f32 r false) r.length))]) (fun i hi=> ?_) ?_ FU (b1w (by omega))
 ·show _=some (Step.go [.k 0,.n (N X),.n (N (acc X (f32 r false) (i+1))),.l TMr (h3p c r (NL (tabB b r)) r.length),.n (r.length:Int),.n ((i+1:Nat):Int)])
  rw[←w1n i (by omega)]
  have e:=y3u X (i:Int)
  rw[i3o X (by omega)]at e
  have ra:=k3e b c r hi
  cases h:X.getLsbD i with
  |true=>
   rw[h]at e
   have s:=p3z (n1:=N (acc X (f32 r false) i)) (n4:=(i:Int)) (n3:=(r.length:Int)) (l2:=h3p c r (NL (tabB b r)) r.length) (by omega) (by rw[hl]) (by omega) e rfl
   rw[acc_t _ h,←m3p]
   have t:=congrArg (fun x:Ty.den TMr=>some (Step.go [.k 0,.n (N X),.n (ior IntKind.u32 (N (acc X (f32 r false) i)) x.2.2.2.1),.l TMr (h3p c r (NL (tabB b r)) r.length),.n (r.length:Int),.n (IntKind.wrap .i64 ((i:Int)+1))])) ra
   have u:=s.trans t
   exact u
  |false=>
   rw[h]at e
   rw[acc_f _ h]
   exact r3k (by omega) (by rw[hl]) (by omega) e rfl
 ·exact r3g (by omega) (by rw[hl]) (by omega)
theorem om58b (b c:LP)(r:LR)(X:B64)(hr:r.length≤64):o3i [.l TMr (h3p c r (NL (tabB b r)) r.length),.n (N X)]=some (0,[.n (N (acc X (f32 r true) r.length))]):=by
 have hl:=i3w c r (NL (tabB b r)) r.length
 refine y3i ?_
 rw[hl,q3l]
 refine b0a (st:=i3h) (fun i=>[.k 0,.n (N X),.n (N (acc X (f32 r true) i)),.l TMr (h3p c r (NL (tabB b r)) r.length),.n (r.length:Int),.n (i:Int)]) r.length (0,[.n (N (acc X (f32 r true) r.length))]) (fun i hi=> ?_) ?_ FU (b1w (by omega))
 ·show _=some (Step.go [.k 0,.n (N X),.n (N (acc X (f32 r true) (i+1))),.l TMr (h3p c r (NL (tabB b r)) r.length),.n (r.length:Int),.n ((i+1:Nat):Int)])
  rw[←w1n i (by omega)]
  have e:=y3u X (i:Int)
  rw[i3o X (by omega)]at e
  have ra:=k3e b c r hi
  cases h:X.getLsbD i with
  |true=>
   rw[h]at e
   have s:=q3t (n1:=N (acc X (f32 r true) i)) (n4:=(i:Int)) (n3:=(r.length:Int)) (l2:=h3p c r (NL (tabB b r)) r.length) (by omega) (by rw[hl]) (by omega) e rfl
   rw[acc_t _ h,←m3p]
   have t:=congrArg (fun x:Ty.den TMr=>some (Step.go [.k 0,.n (N X),.n (ior IntKind.u32 (N (acc X (f32 r true) i)) x.2.2.2.2.1),.l TMr (h3p c r (NL (tabB b r)) r.length),.n (r.length:Int),.n (IntKind.wrap .i64 ((i:Int)+1))])) ra
   have u:=s.trans t
   exact u
  |false=>
   rw[h]at e
   rw[acc_f _ h]
   exact p3g (by omega) (by rw[hl]) (by omega) e rfl
 ·exact r3q (by omega) (by rw[hl]) (by omega)
theorem om61 (b c:LP)(r:LR)(X:B64)(hr:r.length≤64):w3f [.l TMr (h3p c r (NL (tabB b r)) r.length),.n (N X)]=some (0,[.n (N (acc X (fC b r) r.length))]):=by
 have hl:=i3w c r (NL (tabB b r)) r.length
 refine d4k ?_
 rw[hl,s3g]
 refine b0a (st:=j3g) (fun i=>[.k 0,.n (N X),.n (N (acc X (fC b r) i)),.l TMr (h3p c r (NL (tabB b r)) r.length),.n (r.length:Int),.n (i:Int)]) r.length (0,[.n (N (acc X (fC b r) r.length))]) (fun i hi=> ?_) ?_ FU (b1w (by omega))
 ·show _=some (Step.go [.k 0,.n (N X),.n (N (acc X (fC b r) (i+1))),.l TMr (h3p c r (NL (tabB b r)) r.length),.n (r.length:Int),.n ((i+1:Nat):Int)])
  rw[←w1n i (by omega)]
  have e:=y3u X (i:Int)
  rw[i3o X (by omega)]at e
  have ra:=k3e b c r hi
  cases h:X.getLsbD i with
  |true=>
   rw[h]at e
   have s:=u3h (n1:=N (acc X (fC b r) i)) (n4:=(i:Int)) (n3:=(r.length:Int)) (l2:=h3p c r (NL (tabB b r)) r.length) (by omega) (by rw[hl]) (by omega) e rfl
   rw[acc_t _ h,←h3r]
   have t:=congrArg (fun x:Ty.den TMr=>some (Step.go [.k 0,.n (N X),.n (ior IntKind.u64 (N (acc X (fC b r) i)) x.2.2.2.2.2),.l TMr (h3p c r (NL (tabB b r)) r.length),.n (r.length:Int),.n (IntKind.wrap .i64 ((i:Int)+1))])) ra
   have u:=s.trans t
   exact u
  |false=>
   rw[h]at e
   rw[acc_f _ h]
   exact v3a (by omega) (by rw[hl]) (by omega) e rfl
 ·exact t3d (by omega) (by rw[hl]) (by omega)
end Go.Proofs.YtcbhgaeiokfcdaaGreat.Vx
end
