import Derived.RangeFuncNested
import Derived.RangeFuncBound
import Derived.RangeFuncCalls
import Derived.RangeFuncLeaves
import Derived.RangeFuncBox
import Derived.Shelf.Abstract
import Derived.Shelf.RegionOpen
import Derived.WalkKit
import Derived.OwnWalkIn
import Derived.TacticsInMore
import Derived.LoopNIn
import Derived.LoopIn
import Derived.Maps.AppendAt
import Derived.Test.YtplcpifjiodhcaaGreatProg
namespace Go.Proofs
open Go.RowKit Go.Shelf
attribute [local go_sem] Oper.semAt_some
namespace YtplcpifjiodhcaaGreat.Bt
def enc (k:Nat):Value:=.int .i64 (k:Int)
def hasI (x n:Int):Bool:=bits BinOp.and IntKind.u64 (x/2^n.toNat) 1==1
def bitsTo (x:Int):Nat→List Nat
 |0=>[]
 |k+1=>bitsTo x k++(bif hasI x k then[k]else[])
theorem k3l (x:Int):bitsTo x 0=[]:=rfl
theorem j3s {x:Int}{k:Nat}(h:hasI x k=true):bitsTo x (k+1)=bitsTo x k++[k]:=by simp[bitsTo,h]
theorem k3g {x:Int}{k:Nat}(h:hasI x k=false):bitsTo x (k+1)=bitsTo x k:=by simp[bitsTo,h]
theorem j3t (x:Int): ∀k,(bitsTo x k).length≤k
 |0=>Nat.le_refl _
 |k+1=>by have:=j3t x k;cases h:hasI x k<;>simp[bitsTo,h]<;>omega
theorem m3a (x:Int): ∀{k m:Nat},k≤m→bitsTo x k<+:bitsTo x m:=by
  intro k m h
  induction m with
  |zero=>have:k=0:=by omega
         subst this;exact List.prefix_refl _
  |succ m ih=>
   rcases Nat.lt_or_ge m k with q|q
   · have:k=m+1:=by omega
     subst this;exact List.prefix_refl _
   · exact(ih q).trans ⟨_,rfl⟩
attribute [local irreducible] bitsTo
set_option maxRecDepth 100000 in
set_option maxHeartbeats 1000000 in
theorem fits_in (F:Fence)(n:Nat)(h30:F.fn 143)(hro:F.round=none)(k:Int)(w:World):
  CallsIn F n Tryz.prog 143 #[.int .i64 k] w fun e w'=>e=.returned (.bool (decide (0≤k)&&decide (k<64)))∧w'=w:=by
 refine callsIn_of_wp Tryz.func143 rfl h30 ?_ hro
 simp only[Tryz.ntmps143,List.size_toArray,List.length_cons,List.length_nil,Nat.reduceAdd,Nat.reduceSub,Array.replicate_succ,Array.replicate_zero,List.push_toArray,List.append_toArray,List.nil_append,List.cons_append]
 gi_wp2
 all_goals go_ret
 all_goals (simp_all<;>omega)
set_option maxRecDepth 100000 in
set_option maxHeartbeats 1000000 in
theorem has_in (F:Fence)(n:Nat)(h10:F.fn 215)(h30:F.fn 143)(hro:F.round=none)(hn:1≤n)(x k:Int)(h0:0≤k)(h1:k<64)(w:World):
  CallsIn F n Tryz.prog 215 #[.int .u64 x,.int .i64 k] w fun e w'=>e=.returned (.bool (hasI x k))∧w'=w:=by
 refine callsIn_of_wp Tryz.func215 rfl h10 ?_ hro
 simp only[Tryz.ntmps215,List.size_toArray,List.length_cons,List.length_nil,Nat.reduceAdd,Nat.reduceSub,Array.replicate_succ,Array.replicate_zero,List.push_toArray,List.append_toArray,List.nil_append,List.cons_append]
 gi_wp2_with (gi_at_call 143;refine(fits_in F (n-1) h30 hro _ _).mono ?_;rintro e w' ⟨rfl,rfl⟩)
 all_goals go_ret
 all_goals (simp_all [hasI])
set_option maxRecDepth 100000 in
set_option maxHeartbeats 1000000 in
theorem m3z (F:Fence)(n:Nat)(h32:F.fn 214)(hro:F.round=none)(x:Int)(w:World):
  CallsIn F n Tryz.prog 214 #[.int .u64 x] w fun e w'=>e=.returned (.func (.func 217) #[] #[.pointer (some ⟨w.heap.size,0,none⟩)])∧w'=w.alloc (.cells #[.int .u64 x] 41):=by
 refine callsIn_of_wp Tryz.func214 rfl h32 ?_ hro
 simp only[Tryz.ntmps214,List.size_toArray,List.length_cons,List.length_nil,Nat.reduceAdd,Nat.reduceSub,Array.replicate_succ,Array.replicate_zero,List.push_toArray,List.append_toArray,List.nil_append,List.cons_append]
 gi_wp2
 go_ret
 exact⟨rfl,rfl⟩
def KB (Bx:Nat)(W W':World):Prop:= ∀v,Boxed W Bx 41 v→Boxed W' Bx 41 v
theorem KB_t {Bx:Nat}{A B C:World}(h:KB Bx A B)(k:KB Bx B C):KB Bx A C:=fun v hv=>k v (h v hv)
theorem KB_b {Bx:Nat}(W:World)(l:Nat)(o o':Obj)(hl:W.heap[l]? =some o)(ho:o.isCells=false):KB Bx W (W.putObj l o'):=fun v hv=>by
 have hne:Bx≠l:=by
  rintro rfl
  have:W.heap[Bx]? =some (.cells #[v] 41 (0,0)):=hv
  rw[this]at hl;cases hl;cases ho
 exact(World.putObj_heap_other hne).trans hv
set_option maxRecDepth 100000 in
set_option maxHeartbeats 2000000 in
theorem n3j (F:Fence)(n:Nat)(h34:F.fn 217)(h10:F.fn 215)(h30:F.fn 143)(hro:F.round=none)(hn:2≤n)(l Bx:Nat)(x:Int)(J Jx:List Nat→World→Prop)
  (hY: ∀pre (k:Nat) W,J pre W→pre.length<64→YieldAt F (n-1) Tryz.prog l #[.int .i64 (k:Int)] W fun e W'=>
   (e=.returned (.bool true)∧J (pre++[k]) W'∧KB Bx W W')∨(e=.returned (.bool false)∧Jx (pre++[k]) W'))
  (W:World) (hBB:Boxed W Bx 41 (.int .u64 x)) (h0:J [] W):
  CallsIn F n Tryz.prog 217 #[.func (.yield l) #[] #[],.pointer (some ⟨Bx,0,none⟩)] W fun e W'=>(∃v,e=.returned v)∧
   ((∃ys,ys=bitsTo x 64∧J ys W')∨(∃pre,(∃k:Nat,k<64∧hasI x k=true∧pre=bitsTo x k++[k])∧Jx pre W')):=by
 have h1:1≤n:=by omega
 have hB:=hBB.cell
 refine callsIn_of_wp Tryz.func217 rfl h34 ?_ hro
 simp only[Tryz.ntmps217,List.size_toArray,List.length_cons,List.length_nil,Nat.reduceAdd,Nat.reduceSub,Array.replicate_succ,Array.replicate_zero,List.push_toArray,List.append_toArray,List.nil_append,List.cons_append]
 gi_wp2
 gi_loopw [4] (fun i wr=> ∃k:Nat,k≤64∧i=.int .i64 k∧J (bitsTo x k) wr∧Boxed wr Bx 41 (.int .u64 x))
  (fun i _=>64-(intOf i).toNat)
 case atStart=>exact⟨0,Nat.zero_le _,rfl,by rw[k3l];exact h0,hBB⟩
 case round=>
  obtain⟨k,hk,rfl,hJs,hcB⟩:=hrel
  have hc:=hcB.cell
  have hlen:=j3t x k
  rcases Nat.lt_or_ge k 64 with hk64|hk64
  ·obtain⟨fn,tmps,assign,body,hy,hR⟩:=hY (bitsTo x k) k wr hJs (by omega)
   cases hb:hasI x k with
   |true=>
    gi_wp2_with (gi_at_call 215;refine(has_in F (n-1) h10 h30 hro (by omega) x k (by omega) (by omega) _).mono ?_;rintro e w' ⟨rfl,rfl⟩;rw[hb])
    refine hR.mono ?_
    rintro e W3 (⟨rfl,hJ3,hk3⟩|⟨rfl,hJx3⟩)
    ·have hc3:=hk3 _ hcB
     gi_wp2
     go_roundw
     case rel=>exact⟨k+1,by omega,by simp,by rw[j3s hb];exact hJ3,hc3⟩
     case measure=>simp only[intOf];omega
    ·gi_wp2
     refine bodyPost_ret (results_none rfl _ _ _) rfl ?_
     exact⟨⟨_,rfl⟩,.inr ⟨_,⟨k,hk64,hb,rfl⟩,hJx3⟩⟩
   |false=>
    gi_wp2_with (gi_at_call 215;refine(has_in F (n-1) h10 h30 hro (by omega) x k (by omega) (by omega) _).mono ?_;rintro e w' ⟨rfl,rfl⟩;rw[hb])
    refine⟨fun _ h=>(by cases h),?_⟩
    gi_wp2
    go_roundw
    case rel=>exact⟨k+1,by omega,by simp,by rw[k3g hb];exact hJs,hcB⟩
    case measure=>simp only[intOf];omega
  ·gi_wp2
   go_end0
   obtain rfl:k=64:=by omega
   exact⟨⟨_,rfl⟩,.inl ⟨_,rfl,hJs⟩⟩
theorem j3p (F:Fence)(n:Nat)(h34:F.fn 217)(h10:F.fn 215)(h30:F.fn 143)(hro:F.round=none)(hn:2≤n)(Bx:Nat)(x:Int)(w:World)(hc:Boxed w Bx 41 (.int .u64 x)):
  SeqStopsK F n Tryz.prog 217 #[.pointer (some ⟨Bx,0,none⟩)] (fun x:Nat=> #[Value.int .i64 (x:Int)]) (KB Bx) (fun ys=>ys=bitsTo x 64) (fun pre=> ∃k:Nat,k<64∧hasI x k=true∧pre=bitsTo x k++[k]) 64 w:=fun l J Jx W hW _ _ hY h0=>
 n3j F n h34 h10 h30 hro hn l Bx x J Jx hY W ((hW.block Bx hc.lt).trans hc) h0
theorem KB_app {W w1:World}{Bx B n0 k:Nat}{v v':Value}{xs:List Value}{tmp:Obj}(hrow:W.ownsRow n0 3 1 v k xs)(hgrow:(W.alloc tmp).grownBy w1 v.ownBlock)(hne:Bx≠B):KB Bx W (w1.setCell ⟨B,0,none⟩ v'):=by
 intro u hu
 have h1:some Bx≠v.ownBlock:=hu.not_row (by decide) hrow
 exact((hu.alloc tmp).kept hgrow h1).other hne _
theorem A_info3:(Tryz.prog.info? 3).map (fun i=>(i.zero,i.size,i.bytes))=some (some (.int .i64 0),1,8):=by kernel_rfl
set_option maxRecDepth 100000 in
set_option maxHeartbeats 2000000 in
theorem List_in (F:Fence)(n:Nat)(h19:F.fn 202)(h32:F.fn 214)(h34:F.fn 217)(h10:F.fn 215)(h30:F.fn 143)(hro:F.round=none)(hn:4≤n)(x:Int)(w:World):
  CallsIn F n Tryz.prog 202 #[.int .u64 x] w fun e W'=> ∃v,e=.returned v∧W'.ownsRow w.heap.size 3 1 v (bitsTo x 64).length ((bitsTo x 64).map enc)∧Below w.heap.size w W':=by
 have h1:1≤n:=by omega
 obtain⟨i0,hi,hz0,hz1,hz2⟩:=info_parts A_info3
 refine callsIn_of_wp_marks Tryz.func202 rfl h19 ?_ hro
 simp only[Tryz.ntmps202,List.size_toArray,List.length_cons,List.length_nil,Nat.reduceAdd,Nat.reduceSub,Array.replicate_succ,Array.replicate_zero,List.push_toArray,List.append_toArray,List.nil_append,List.cons_append]
 gi_wp2_with (gi_at_call 214;refine(m3z F (n-1) h32 hro _ _).mono ?_;rintro e w' ⟨rfl,rfl⟩)
 have bO:=Boxed.new w 84 (.slice none 0 0)
 have bN:=Boxed.new (w.alloc (.cells #[.slice none 0 0] 84)) 41 (.int .u64 x)
 rw[World.size_alloc]at bN
 have hB0:Below w.heap.size w ((w.alloc (.cells #[.slice none 0 0] 84)).alloc (.cells #[.int .u64 x] 41)):=((Below.refl _ w).alloc (Nat.le_refl _) _).alloc (by simp) _
 refine wpIn_rangeFunc_ownG hro h1 (gf:=217) (lb:= #[.pointer (some ⟨w.heap.size+1,0,none⟩)]) rfl h34 (enters_of Tryz.func217 (by kernel_rfl) rfl)
  (j3p F (n-1) h34 h10 h30 hro (by omega) (w.heap.size+1) x _ bN) KB_t (fun W l o o' _ hl ho _=>KB_b W l o o' hl ho) (Below.refl _ _) (fun _=>rfl)
  (fun pre W=>(∃v,Boxed W w.heap.size 84 v∧W.ownsRow w.heap.size 3 1 v pre.length (pre.map enc)∧True)∧Below w.heap.size w W)
  (fun _ _ _=>False)
  (OwnFrom.and (Own.from (holdsRow_own w.heap.size w.heap.size 84 3 1 (fun(pre:List Nat)=>pre.length) (fun pre=>pre.map enc) (fun pre v=>True)) _) (ownFrom_below (Nat.le_refl _) (by simp;omega)))
  (fun _ _ _ _ _ hs _ _=>hs)
  ⟨⟨_,bO.alloc _,World.ownsRow_nil _ _ _ _,trivial⟩,hB0⟩
  (fun k=>{tmps:= #[.int .u64 x,undef,.slice none 0 0,.pointer (some ⟨w.heap.size,0,none⟩),.int .i64 (k:Int),.int .u64 x,.func (.func 217) #[] #[.pointer (some ⟨w.heap.size+1,0,none⟩)],.int .i64 (k:Int),undef,undef,undef,undef,undef],defers:=[]}) ?assign ?body ?done ?stop
 case assign=>
  intro l x W K hK
  gi_wp2
  exact hK
 case body=>
  rintro l pre k W ⟨⟨v,hv,hrow,-⟩,hB⟩ hlt
  have hc:=hv.cell
  have hmx:64≤maxLen:=by decide
  gi_wp2_with (gi_at_builtin;refine wpListIn_append_own _ rfl _ _ 84 rfl w.heap.size 3 i0 (.int .i64 0) 1 8 Tryz.underlying84 hi hz0 hz1 hz2 rfl (by decide) _ _ _ rfl (hrow.alloc _) ⟨W.heap.size,0,none⟩ 1 1 [.int .i64 (k:Int)] rfl rfl (cell_one_new _ _ _) (by simp[Value.oneCell']) (by omega) (by omega) (by have:=hB.size;simp;omega) ?_;intro v' w1 hown' hgrow _;obtain⟨g',cap',rfl⟩:=ownsRow_succ hown';obtain⟨hv1,hv2,hr2,hk2,hb2⟩:=hv.appended (by decide) hrow hB.size (Nat.le_refl _) hown' hgrow;have hc1:=hv1.cell;have hf1:=hv1.frozen)
  have hgrow2:(W.alloc (.cells #[.int .i64 (k:Int)] 3)).grownBy w1 v.ownBlock:=hgrow
  exact⟨hk2.from _,KB_app hrow hgrow2 (by omega),⟨_,hv2,by simpa [enc]using hr2,trivial⟩,hB.trans hb2⟩
 case done=>
  rintro D ys W hD he ⟨⟨v,hv,hrow,-⟩,hB⟩ hK
  rw[he]at hrow
  have hc:=hv.cell
  gi_wp2
  refine⟨by simp,.inl ⟨_,_,rfl,run_takeDeferred hK,?_⟩⟩
  exact⟨_,results_tmp rfl _ _ _,v,rfl,ownsRow_putObj hrow _ hK rfl,hB.trans (belowK_b (w:=w) (Nat.le_refl _) W D _ _ (by simp at hD;omega) hK rfl rfl)⟩
 case stop=>
  rintro D c pre W _ _ h _
  exact h.elim
def j3j (l:List Int)(ns:List Nat):Int:=ns.foldl (fun a n=>bits BinOp.or IntKind.u64 a (l.getD n 0)) 0
theorem l3x (l:List Int)(ns:List Nat)(n:Nat):j3j l (ns++[n])=bits BinOp.or IntKind.u64 (j3j l ns) (l.getD n 0):=by simp[j3j]
def anyI (l:List Int)(x:Int):Int:=j3j l ((bitsTo x 64).takeWhile fun n=>decide (n<l.length))
theorem any_all {l:List Int}{x:Int}(h: ∀n∈bitsTo x 64,n<l.length):anyI l x=j3j l (bitsTo x 64):=by
 unfold anyI
 have: ∀(ns:List Nat),(∀n∈ns,n<l.length)→ns.takeWhile (fun n=>decide (n<l.length))=ns:=by
  intro ns
  induction ns with
  |nil=>intro _;rfl
  |cons a ns ih=>intro h;rw[List.takeWhile_cons,if_pos (by simpa using h a (by simp)),ih (fun n hn=>h n (by simp[hn]))]
 rw[this _ h]
theorem n3f {l:List Int}{x:Int}{k:Nat}(hk:k<64)(hb:hasI x k=true)(h: ∀n∈bitsTo x k,n<l.length)(hl:l.length≤k):anyI l x=j3j l (bitsTo x k):=by
 unfold anyI
 obtain⟨r,hr⟩:=m3a x (k:=k+1) (m:=64) (by omega)
 rw[←hr,j3s hb,List.append_assoc,List.takeWhile_append_of_pos (fun n hn=>by simpa using h n hn)]
 simp[show¬k<l.length by omega]
def RowAt (w:World)(v:Value)(l:List Int):Prop:= ∃a cap,v=.slice a l.length cap∧ ∀i,i<l.length→ ∃b o,a=some ⟨b,o,none⟩∧b<w.heap.size∧w.cell? ⟨b,o+i,none⟩=some (.int .u64 (l.getD i 0))
set_option maxRecDepth 100000 in
set_option maxHeartbeats 2000000 in
theorem Any_in (F:Fence)(n:Nat)(h28:F.fn 216)(h32:F.fn 214)(h34:F.fn 217)(h10:F.fn 215)(h30:F.fn 143)(hro:F.round=none)(hn:4≤n)(v:Value)(l:List Int)(x:Int)(w:World)(hv:RowAt w v l):
  CallsIn F n Tryz.prog 216 #[v,.int .u64 x] w fun e W'=>e=.returned (.int .u64 (anyI l x))∧Below w.heap.size w W':=by
 have h1:1≤n:=by omega
 obtain⟨a,cap,rfl,hrow⟩:=hv
 refine callsIn_of_wp_marks Tryz.func216 rfl h28 ?_ hro
 simp only[Tryz.ntmps216,List.size_toArray,List.length_cons,List.length_nil,Nat.reduceAdd,Nat.reduceSub,Array.replicate_succ,Array.replicate_zero,List.push_toArray,List.append_toArray,List.nil_append,List.cons_append]
 gi_wp2_with (gi_at_call 214;refine(m3z F (n-1) h32 hro _ _).mono ?_;rintro e w' ⟨rfl,rfl⟩)
 have bL:=Boxed.new w 118 (.slice a l.length cap)
 have bA:=(Boxed.new (w.alloc (.cells #[.slice a l.length cap] 118)) 41 (.int .u64 0))
 rw[World.size_alloc]at bA
 have bN:=Boxed.new ((w.alloc (.cells #[.slice a l.length cap] 118)).alloc (.cells #[.int .u64 0] 41)) 41 (.int .u64 x)
 rw[World.size_alloc,World.size_alloc]at bN
 have hB0:Below w.heap.size w (((w.alloc (.cells #[.slice a l.length cap] 118)).alloc (.cells #[.int .u64 0] 41)).alloc (.cells #[.int .u64 x] 41)):=(((Below.refl _ w).alloc (Nat.le_refl _) _).alloc (by simp) _).alloc (by simp;omega) _
 refine wpIn_rangeFunc_ownG hro h1 (gf:=217) (lb:= #[.pointer (some ⟨w.heap.size+1+1,0,none⟩)]) rfl h34 (enters_of Tryz.func217 (by kernel_rfl) rfl)
  (j3p F (n-1) h34 h10 h30 hro (by omega) (w.heap.size+1+1) x _ bN) KB_t (fun W l o o' _ hl ho _=>KB_b W l o o' hl ho) (Below.refl _ _) (fun _=>rfl)
  (fun pre W=>(((∀n∈pre,n<l.length)∧W.cell? ⟨w.heap.size,0,none⟩=some (.slice a l.length cap))∧(W.cell? ⟨w.heap.size+1,0,none⟩=some (.int .u64 (j3j l pre))∧W.frozen? ⟨w.heap.size+1,0,none⟩=false))∧Below w.heap.size w W)
  (fun c pre W=>(c=.exit 0∧ ∃(ini:List Nat) (last:Nat),pre=ini++[last]∧(∀n∈ini,n<l.length)∧l.length≤last∧W.cell? ⟨w.heap.size+1,0,none⟩=some (.int .u64 (j3j l ini)))∧Below w.heap.size w W)
  (OwnFrom.and (Own.from (fun s A B row hs hg hr=>⟨⟨hs.1.1,cell_kept hs.1.2 hg hr⟩,cell_kept hs.2.1 hg hr,(frozen_kept hs.2.1 hg hr).trans hs.2.2⟩) _) (ownFrom_below (Nat.le_refl _) (by simp;omega)))
  (fun c=>OwnFrom.and (Own.from (fun s A B row hs hg hr=>by obtain⟨hc,ini,last,e1,e2,e3,e4⟩:=hs;exact⟨hc,ini,last,e1,e2,e3,cell_kept e4 hg hr⟩) _) (ownFrom_below (Nat.le_refl _) (by simp;omega)))
  ⟨⟨⟨by simp,((bL.alloc _).alloc _).cell⟩,(bA.alloc _).cell,(bA.alloc _).frozen⟩,hB0⟩
  (fun k=>{tmps:= #[.slice a l.length cap,.int .u64 x,.pointer (some ⟨w.heap.size,0,none⟩),undef,.int .u64 0,.pointer (some ⟨w.heap.size+1,0,none⟩),.int .i64 (k:Int),.int .u64 x,.func (.func 217) #[] #[.pointer (some ⟨w.heap.size+1+1,0,none⟩)],.int .i64 (k:Int),undef,undef,undef,undef,undef,undef,undef,undef,undef,undef,undef],defers:=[]}) ?assign ?body ?done ?stop
 case assign=>
  intro l x W K hK
  gi_wp2
  exact hK
 case body=>
  rintro l' pre k W ⟨⟨⟨hp,hl⟩,hcr,hfr⟩,hB⟩ _
  rcases Nat.lt_or_ge k l.length with hk|hk
  ·obtain⟨b,o,rfl,hb,hcell⟩:=hrow k hk
   have hc2:W.cell? ⟨b,o+k,none⟩=some (.int .u64 (l.getD k 0)):=(hB.cell (p:=⟨b,o+k,none⟩) hb).trans hcell
   have hbit:j3j l (pre++[k])=bits BinOp.or IntKind.u64 (j3j l pre) l[k]:=by rw[l3x];simp[List.getD_eq_getElem?_getD,hk]
   have hall: ∀n∈pre++[k],n<l.length:=fun n hn=>by
    rcases List.mem_append.1 hn with h|h
    ·exact hp n h
    ·simp at h;omega
   gi_wp2
   gi_region
   all_goals gi_wp2
   all_goals exact⟨((KeepsOthers.setCell W _ _).trans (KeepsOthers.drew _)).from _,(fun u hu=>Boxed.other (B':=w.heap.size+1) hu (by omega) _),⟨⟨hall,(World.cell?_setCell_other W ⟨w.heap.size+1,0,none⟩ ⟨w.heap.size,0,none⟩ _ (fun e=>by have:=congrArg Addr.block e;simp at this)).trans hl⟩,(World.cell?_setCell_same' W ⟨w.heap.size+1,0,none⟩ _ (by rw[hcr];rfl)).trans (by rw[hbit]),(World.frozen?_setCell W ⟨w.heap.size+1,0,none⟩ ⟨w.heap.size+1,0,none⟩ _).trans hfr⟩,(hB.setCell (p:=⟨w.heap.size+1,0,none⟩) (by simp) _).drew⟩
  ·gi_wp2
   all_goals exact⟨KeepsFrom.refl _ _,⟨rfl,pre,k,rfl,hp,hk,hcr⟩,hB⟩
 case done=>
  rintro D ys W hD he ⟨⟨⟨hp,hl⟩,hcr,hfr⟩,hB⟩ hK
  gi_wp2
  refine⟨by simp,.inl ⟨_,_,rfl,run_takeDeferred hK,?_⟩⟩
  exact⟨_,results_tmp rfl _ _ _,by rw[any_all (by rw[←he];exact hp)];rfl,hB.trans (belowK_b (w:=w) (Nat.le_refl _) W D _ _ (by simp at hD;omega) hK rfl rfl)⟩
 case stop=>
  rintro D c pre W hD ⟨k,hk,hb,hpre⟩ ⟨⟨rfl,ini,last,e1,e2,e3,hcr⟩,hB⟩ hK
  have e4:ini=bitsTo x k∧last=k:=by
   have:=e1.symm.trans hpre
   exact⟨(List.append_inj' this rfl).1,by simpa using(List.append_inj' this rfl).2⟩
  obtain⟨rfl,rfl⟩:=e4
  gi_wp2
  refine⟨by simp,.inl ⟨_,_,rfl,run_takeDeferred hK,?_⟩⟩
  exact⟨_,results_tmp rfl _ _ _,by rw[n3f hk hb e2 e3];rfl,hB.trans (belowK_b (w:=w) (Nat.le_refl _) W D _ _ (by simp at hD;omega) hK rfl rfl)⟩
end YtplcpifjiodhcaaGreat.Bt
end Go.Proofs
