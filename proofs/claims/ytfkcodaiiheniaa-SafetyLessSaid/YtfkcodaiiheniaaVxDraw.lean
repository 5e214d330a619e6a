import Derived.Test.YtfkcodaiiheniaaVxCode
noncomputable section
namespace Go.Proofs.Ytfkcodaiiheniaa.Vx
open Go Go.RowKit
set_option linter.unusedVariables false
def bitOf (b : Nat) : Nat := 1 <<< b
def maskOf : List Nat → Nat
 | [] => 0
 | b :: l => bitOf b ||| maskOf l
def dstM : Option Tmp → Nat
 | some d => bitOf d
 | none => 0
def refsV : Nat → SV → Nat
 | 0, _ => 0
 | n + 1, v => match v with
  | .own b _ => bitOf b
  | .part b _ _ _ => bitOf b
  | .ptr b _ => bitOf b
  | .eptr b _ _ _ => bitOf b
  | .aptr b _ _ _ _ _ => bitOf b
  | .asl b _ _ => bitOf b
  | .mapv b => bitOf b
  | .itr b => bitOf b
  | .iface _ v => refsV n v
  | .agg es => es.foldl (fun m e => m ||| refsV n e) 0
  | .tup es => es.foldl (fun m e => m ||| refsV n e) 0
  | .fn _ fs cs => (fs ++ cs).foldl (fun m e => m ||| refsV n e) 0
  | _ => 0
def refsB : Blk → Nat
 | .cells es => es.foldl (fun m e => m ||| refsV 9 e) 0
 | .vec _ es => es.foldl (fun m e => m ||| refsV 9 e) 0
 | .fmap _ _ es => es.foldl (fun m e => m ||| refsV 9 e) 0
 | _ => 0
def refsAt (m : Nat) : Nat → List Blk → Nat → Nat
 | _, [], acc => acc
 | i, x :: xs, acc => refsAt m (i + 1) xs (bif Nat.testBit m i then acc ||| refsB x else acc)
def reach : Nat → List Blk → Nat → Nat
 | 0, _, m => m
 | n + 1, bs, m => bif Nat.beq (refsAt m 0 bs m) m then m else reach n bs (refsAt m 0 bs m)
def isCall : Op → Bool
 | .call ⟨.builtin _, _, _⟩ => false
 | .call _ => true
 | _ => false
def pureOp : Op → Bool
 | .move _ => true
 | .assign _ => true
 | .pick _ _ _ => true
 | .nilCheck _ => true
 | .binOp _ _ _ _ _ => true
 | .unOp _ _ _ => true
 | .makeInterface _ _ => true
 | .makeFunc _ _ _ => true
 | .fieldAddr _ _ _ => true
 | .field _ _ _ => true
 | .typeAssert _ _ _ _ => true
 | .extract _ _ => true
 | _ => false
def focusOf (o : Oper) (t : List SV) (rd : Nat) (s : SW) : Nat := match pureOp o.op with
 | true => 0
 | false => match isCall o.op with
  | true => bif Nat.beq (refsAt2 0 t 0) 0 then 0 else reach 99 s.blks (refsAt2 0 t 0)
  | false => refsAt2 0 t 0
where
 refsAt2 : Nat → List SV → Nat → Nat
 | _, [], acc => acc
 | i, x :: xs, acc => refsAt2 (i + 1) xs (bif Nat.testBit rd i then acc ||| refsV 9 x else acc)
def focusB (F : Nat) : Nat → List Blk → List Blk
 | _, [] => []
 | i, x :: xs => (bif Nat.testBit F i then x else .gone) :: focusB F (i + 1) xs
def focus (F : Nat) (s : SW) : SW := ⟨focusB F 0 s.blks, []⟩
def focusT (F : Nat) : Nat → List SV → List SV
 | _, [] => []
 | i, x :: xs => (bif Nat.testBit F i then x else .dead) :: focusT F (i + 1) xs
def mergeB (W : Nat) : Nat → List Blk → List Blk → List Blk
 | _, [], ys => ys
 | _, x :: xs, [] => x :: xs
 | i, x :: xs, y :: ys => (bif Nat.testBit W i then y else x) :: mergeB W (i + 1) xs ys
def addLog : List Nat → List Nat → List Nat
 | [], l => l
 | b :: bs, l => bif l.contains b then addLog bs l else b :: addLog bs l
def merge (s s1 : SW) : SW := bif Nat.beq (maskOf s1.log) 0 && Nat.beq s1.blks.length s.blks.length then s else
 ⟨mergeB (maskOf s1.log) 0 s.blks s1.blks, addLog s1.log s.log⟩
def readsOf (ops : Array Oper) (o : Oper) : Nat := maskOf (o.looksAt ops)
structure St where
 i : Nat
 rd : Nat
 F : Nat
 W : Nat
 n : Nat
 m : Nat
 d : Option Tmp
 v : SV
 s : SW
def stOf (i rd F : Nat) (s s1 : SW) (d : Option Tmp) (v : SV) : St := ⟨i, rd, F, maskOf s1.log, s.blks.length, s1.blks.length, d, v, merge s s1⟩
def evDraw (P : Program) (cl : CallF) (ops : Array Oper) : List Nat → List Nat → List SV → SW → List St → Tree (List St × List SV × SW)
 | [], _, t, s, L => .leaf (L, t, s)
 | i :: rest, seen, t, s, L => match ops[i]? with
  | none => .bad 200
  | some o => match o.guard with
   | none => (runOp P cl o (focusT (readsOf ops o) 0 t) (focus (focusOf o t (readsOf ops o) s) s)).bind fun x =>
     evDraw P cl ops rest seen (put t o.dst x.1) (merge s x.2) (stOf i (readsOf ops o) (focusOf o t (readsOf ops o) s) s x.2 o.dst x.1 :: L)
   | some (j, want) => match guardAt ops (focusT (readsOf ops o) 0 t) j with
    | .bad => .bad 201
    | .no => evDraw P cl ops rest seen (put t o.dst .undef) s (stOf i (readsOf ops o) 0 s (focus 0 s) o.dst .undef :: L)
    | .yes d b => match seen.contains j with
     | true => match b == want with
      | true => (runOp P cl o (focusT (readsOf ops o) 0 t) (focus (focusOf o t (readsOf ops o) s) s)).bind fun x =>
        evDraw P cl ops rest seen (put t o.dst x.1) (merge s x.2) (stOf i (readsOf ops o) (focusOf o t (readsOf ops o) s) s x.2 o.dst x.1 :: L)
      | false => evDraw P cl ops rest seen (put t o.dst .undef) s (stOf i (readsOf ops o) 0 s (focus 0 s) o.dst .undef :: L)
     | false => .node b
      (match want with
       | true => (runOp P cl o (focusT (readsOf ops o) 0 (t.set d (.bool true))) (focus (focusOf o t (readsOf ops o) s) s)).bind fun x =>
        evDraw P cl ops rest (j :: seen) (put (t.set d (.bool true)) o.dst x.1) (merge s x.2) (stOf i (readsOf ops o) (focusOf o t (readsOf ops o) s) s x.2 o.dst x.1 :: L)
       | false => evDraw P cl ops rest (j :: seen) (put (t.set d (.bool true)) o.dst .undef) s (stOf i (readsOf ops o) 0 s (focus 0 s) o.dst .undef :: L))
      (match want with
       | false => (runOp P cl o (focusT (readsOf ops o) 0 (t.set d (.bool false))) (focus (focusOf o t (readsOf ops o) s) s)).bind fun x =>
        evDraw P cl ops rest (j :: seen) (put (t.set d (.bool false)) o.dst x.1) (merge s x.2) (stOf i (readsOf ops o) (focusOf o t (readsOf ops o) s) s x.2 o.dst x.1 :: L)
       | true => evDraw P cl ops rest (j :: seen) (put (t.set d (.bool false)) o.dst .undef) s (stOf i (readsOf ops o) 0 s (focus 0 s) o.dst .undef :: L))
def predGo (ops : Array Oper) : List Nat → List Nat → Option (List Nat)
 | [], acc => some acc
 | i :: rest, acc => match ops[i]? with
  | none => none
  | some o => match edgesM (o.after.toList.filter (Region.binds .any)) acc i 0 with
   | some m => predGo ops rest (acc ++ [m])
   | none => none
where
 edgesM : List Edge → List Nat → Nat → Nat → Option Nat
 | [], _, _, m => some m
 | e :: es, acc, i, m => match acc[e.on]? with
  | some p => edgesM es acc i (m ||| (bitOf e.on ||| p))
  | none => none
def predsOf (ops : Array Oper) : Option (List Nat) := predGo ops (List.range ops.size) []
def newM (n m : Nat) : Nat := ((1 <<< (m - n)) - 1) <<< n
def St.wm (x : St) : Nat := x.W ||| newM x.n x.m
def apartB (e l : St) : Bool :=
 Nat.beq (l.wm &&& (e.F ||| e.wm)) 0 && (Nat.beq (e.wm &&& l.F) 0 && (Nat.beq (dstM e.d &&& (l.rd ||| dstM l.d)) 0 && Nat.beq (dstM l.d &&& e.rd) 0))
def ordered (ps : List Nat) (l e : St) : Bool := apartB e l || Nat.testBit (ps.getD l.i 0) e.i
def stFine (l : St) : Bool := Nat.ble l.n l.m && (Nat.beq (l.W &&& (l.F ||| newM l.n l.m)) l.W && Nat.ble (l.W + 1) (1 <<< l.m))
def pairsOk (ps : List Nat) : List St → Bool
 | [] => true
 | l :: es => stFine l && (es.all (ordered ps l) && pairsOk ps es)
def drawOk (ops : Array Oper) (L : List St) : Bool := match predsOf ops with
 | some ps => pairsOk ps L
 | none => false
def evRegion (P : Program) (cl : CallF) (ops : Array Oper) (draws : Bool) (t : List SV) (s : SW) : Tree (List SV × SW) := match draws with
 | false => evOps P cl ops (List.range ops.size) [] t s
 | true => (evDraw P cl ops (List.range ops.size) [] t s []).bind fun x => .guard (drawOk ops x.1) 210 (.leaf x.2)
end Go.Proofs.Ytfkcodaiiheniaa.Vx
