import Derived.Test.YtdaabhpeedekaaaVxState
noncomputable section
namespace Go.Proofs.Ytdaabhpeedekaaa.Vx
open Go Go.RowKit
set_option linter.unusedVariables false

/-! ### What operations give: numbers, texts -/
def iand (k : IntKind) (a b : Int) : Int := k.wrap (BitVec.ofInt k.bits a &&& BitVec.ofInt k.bits b).toNat
def ior (k : IntKind) (a b : Int) : Int := k.wrap (BitVec.ofInt k.bits a ||| BitVec.ofInt k.bits b).toNat
def ixor (k : IntKind) (a b : Int) : Int := k.wrap (BitVec.ofInt k.bits a ^^^ BitVec.ofInt k.bits b).toNat
def iandnot (k : IntKind) (a b : Int) : Int := k.wrap (BitVec.ofInt k.bits a &&& ~~~(BitVec.ofInt k.bits b)).toNat
def ishl (k : IntKind) (a b : Int) : Int := k.wrap (a * 2 ^ min b.toNat k.bits)
def ishr (k : IntKind) (a b : Int) : Int := a.fdiv (2 ^ min b.toNat k.bits)
def imin (a b : Int) : Int := if b < a then b else a
def imax (a b : Int) : Int := if b > a then b else a
def strEq (a b : ByteArray) : Bool := decide (a.data.toList = b.data.toList)
def strLt (a b : ByteArray) : Bool := Op.bytesLess a.data.toList b.data.toList
def bytesOf (s : ByteArray) : List Int := s.data.toList.map fun b => (b.toNat : Int)
def strOf (l : List Int) : ByteArray := ⟨(l.map fun n => UInt8.ofNat n.toNat).toArray⟩
def strAt (s : ByteArray) (i : Int) : Int := ((s.data.toList.getD i.toNat 0).toNat : Int)

/-! ### Types -/
def appT : Ty → Ty → Ty
  | .pair a b, c => .pair a (appT b c)
  | .unit, c => c
  | a, .unit => a
  | a, c => .pair a c
def optRow : List (Option Ty) → Option Ty
  | [] => some .unit
  | some x :: r => match optRow r with
    | some y => some (appT x y)
    | none => none
  | none :: _ => none
def tyOf (P : Program) : Nat → TypeId → Option Ty
  | 0, _ => none
  | n + 1, t => match P.underlying t with
    | some .bool => some .bool
    | some (.int k) => some (.int k)
    | some .string => some .str
    | some (.slice e) => match tyOf P n e with
      | some x => some (.sl x)
      | none => none
    | some (.array k e) => match tyOf P n e with
      | some x => some (.arr k x)
      | none => none
    | some (.struct fs) => optRow (fs.toList.map fun f => tyOf P n f.type)
    | _ => none
def TF : Nat := 12
def szOf (P : Program) (t : TypeId) : Option Nat := match P.info? t with
  | some i => some i.size
  | none => none
def elOf (P : Program) (t : TypeId) : Option TypeId := match P.underlying t with
  | some (.slice e) => some e
  | _ => none
def aggB (P : Program) (t : TypeId) : Option Bool := match P.underlying t with
  | some (.struct _) => some true
  | some (.array _ _) => some true
  | some _ => some false
  | none => none
def fldOf (P : Program) (t : TypeId) (f : Nat) : Option Field := match P.underlying t with
  | some (.struct fs) => fs[f]?
  | _ => none

/-! ### Literals, zeros -/
def litSV : Value → Option SV
  | .bool b => some (.bool b)
  | .int k n => some (.int k n)
  | .string s => some (.str s)
  | .slice none 0 0 => some .nilsl
  | .pointer none => some .nilptr
  | .map none => some .nilmap
  | .nilFunc => some .nilfn
  | .nilIface => some .nilif
  | .iface t v => match litSV v with
    | some x => some (.iface t x)
    | none => none
  | _ => none
def isZeros (f : List Value → Option (List Value)) : Nat → List Value → Option (List Value)
  | 0, cs => some cs
  | n + 1, cs => match f cs with
    | some r => isZeros f n r
    | none => none
/-- Do the cells begin with the zero of a type? What is behind it. -/
def isZero : (t : Ty) → List Value → Option (List Value)
  | .bool, .bool false :: r => some r
  | .int k, .int k' n :: r => match decide (k = k'), decide (n = 0) with
    | true, true => some r
    | _, _ => none
  | .str, .string s :: r => match Nat.beq s.size 0 with
    | true => some r
    | false => none
  | .sl _, .slice none 0 0 :: r => some r
  | .arr n t, cs => isZeros (isZero t) n cs
  | .pair a b, cs => match isZero a cs with
    | some r => isZero b r
    | none => none
  | .unit, cs => some cs
  | _, _ => none
def zeroFs (f : TypeId → List Value → Option (List SV × List Value)) : List Field → List Value → Option (List SV × List Value)
  | [], cs => some ([], cs)
  | x :: fs, cs => match f x.type cs with
    | some (a, r) => match zeroFs f fs r with
      | some (b, r') => some (a ++ b, r')
      | none => none
    | none => none
def zeroRep (f : List Value → Option (List SV × List Value)) : Nat → List Value → Option (List SV × List Value)
  | 0, cs => some ([], cs)
  | n + 1, cs => match f cs with
    | some (a, r) => match zeroRep f n r with
      | some (b, r') => some (a ++ b, r')
      | none => none
    | none => none
/-- Literal cells of a type as entries; rows of plain data that are zero are rows. -/
def group (P : Program) : Nat → TypeId → List Value → Option (List SV × List Value)
  | 0, _, _ => none
  | n + 1, T, cs => match P.underlying T with
    | some (.struct fs) => zeroFs (group P n) fs.toList cs
    | some (.array k e) => match tyOf P TF e with
      | some t => match isZero (.arr k t) cs with
        | some r => some ([.arrd t k (List.replicate k t.dflt)], r)
        | none => none
      | none => zeroRep (group P n e) k cs
    | some _ => match cs with
      | c :: r => match litSV c with
        | some v => some ([v], r)
        | none => none
      | [] => none
    | none => none
def zeroEs (P : Program) (T : TypeId) : Option (List SV) := match P.info? T with
  | some i => match i.zero with
    | some z => match group P TF T z.cells.toList with
      | some (es, []) => some es
      | _ => none
    | none => none
  | none => none
def litAgg (P : Program) (T : TypeId) (c : Array Value) : Option SV := match group P TF T c.toList with
  | some (es, []) => some (.agg es)
  | _ => none
def litOf (P : Program) (T : TypeId) : Value → Option SV
  | .agg c => litAgg P T c
  | v => litSV v

/-! ### Entries -/
def SV.ents : SV → List SV
  | .agg es => es
  | v => [v]
/-- May it lie in one cell? -/
def SV.cellOk : SV → Bool
  | .dead => false
  | .undef => false
  | .agg _ => false
  | .tup _ => false
  | .arrd _ _ _ => true
  | _ => true
def storable (es : List SV) : Bool := es.all SV.cellOk

def castL (a b : Ty) (l : List a.den) : Option (List b.den) := match decEq a b with
  | isTrue h => some (h ▸ l)
  | isFalse _ => none
/-- The contents of a slice, and their type. -/
structure DL where
  t : Ty
  l : List t.den
def contOf (v : SV) (s : SW) : Option DL := match v with
  | .imm t l => some ⟨t, l⟩
  | .own b g => match s.blk b with
    | some (.arr t g' l) => match Nat.beq g g' with
      | true => some ⟨t, l⟩
      | false => none
    | some (.frz t g' l) => match Nat.beq g g' with
      | true => some ⟨t, l⟩
      | false => none
    | _ => none
  | .part b g lo n => match s.blk b with
    | some (.arr t g' l) => match Nat.beq g g' with
      | true => some ⟨t, (l.drop lo).take n⟩
      | false => none
    | some (.frz t g' l) => match Nat.beq g g' with
      | true => some ⟨t, (l.drop lo).take n⟩
      | false => none
    | _ => none
  | _ => none
/-- The contents as rows of a type. -/
def contAs (t : Ty) (v : SV) (s : SW) : Option (List t.den) := match v with
  | .nilsl => some []
  | v => match contOf v s with
    | some d => castL d.t t d.l
    | none => none
/-- A row that is to be kept as data is written no more. -/
def freezeB (s : SW) (b : Nat) : SW := match s.blk b with
  | some (.arr t g l) => (s.note b).setBlk b (.frz t g l)
  | _ => s
def freezeV (v : SV) (s : SW) : SW := match v with
  | .own b _ => freezeB s b
  | .part b _ _ _ => freezeB s b
  | _ => s
/-- Entries as data. -/
def ofSVs : (t : Ty) → List SV → SW → Option (t.den × List SV × SW)
  | .bool, .bool b :: r, s => some (b, r, s)
  | .int k, .int k' n :: r, s => match decide (k = k') with
    | true => some (n, r, s)
    | false => none
  | .str, .str x :: r, s => some (x, r, s)
  | .sl t, v :: r, s => match contAs t v s with
    | some l => some (l, r, freezeV v s)
    | none => none
  | .arr n t, .arrd t' n' l :: r, s => match Nat.beq n n', castL t' t l with
    | true, some x => some (x, r, s)
    | _, _ => none
  | .pair a b, es, s => match ofSVs a es s with
    | some (x, r, s1) => match ofSVs b r s1 with
      | some (y, r', s2) => some ((x, y), r', s2)
      | none => none
    | none => none
  | .unit, r, s => some ((), r, s)
  | _, _, _ => none
/-- One value as data. -/
def ofSV (t : Ty) (v : SV) (s : SW) : Option (t.den × SW) := match ofSVs t v.ents s with
  | some (d, [], s1) => some (d, s1)
  | _ => none

/-! ### Memory -/
def entAt (es : List SV) (o : Nat) : Option SV := match splitW es o with
  | some (_, e :: _) => some e
  | _ => none
/-- Where a pointer points: entries, and the cell among them. -/
def place (p : SV) (s : SW) : Option (List SV × Nat) := match p with
  | .ptr b o => match s.blk b with
    | some (.cells es) => some (es, o)
    | _ => none
  | .eptr b g i o => match s.blk b with
    | some (.arr t g' l) => match Nat.beq g g' with
      | true => some (toSVs t (l.getD i t.dflt), o)
      | false => none
    | some (.frz t g' l) => match Nat.beq g g' with
      | true => some (toSVs t (l.getD i t.dflt), o)
      | false => none
    | _ => none
  | .aptr b o w n i k => match s.blk b with
    | some (.cells es) => match entAt es o with
      | some (.arrd t n' l) => match Nat.beq n n' && Nat.beq w t.width with
        | true => some (toSVs t (l.getD i t.dflt), k)
        | false => none
      | _ => none
    | _ => none
  | .iptr es o => some (es, o)
  | _ => none
def shape1 (agg : Bool) (es : List SV) : Option SV := match agg with
  | true => some (.agg es)
  | false => match es with
    | [e] => match e.isArr with
      | true => none
      | false => some e
    | _ => none
def evLoad (P : Program) (T : TypeId) (p : SV) (s : SW) : Option SV := match place p s, szOf P T, aggB P T with
  | some (es, o), some n, some a => match sliceW es o n with
    | some x => shape1 a x
    | none => none
  | _, _, _ => none
def evStore (P : Program) (T : TypeId) (p v : SV) (s : SW) : Option SW := match szOf P T, storable v.ents with
  | some n, true => match Nat.beq (esW v.ents) n with
    | true => match p with
      | .ptr b o => match s.blk b with
        | some (.cells es) => match patchW es o n v.ents with
          | some es' => some ((s.note b).setBlk b (.cells es'))
          | none => none
        | _ => none
      | .eptr b g i o => match s.blk b with
        | some (.arr t g' l) => match Nat.beq g g' with
          | true => match patchW (toSVs t (l.getD i t.dflt)) o n v.ents with
            | some es' => match ofSVs t es' s with
              | some (d, [], s1) => match s1.blk b with
                | some (.arr t1 g1 l1) => some ((s1.note b).setBlk b (.arr t g (l.set i d)))
                | _ => none
              | _ => none
            | none => none
          | false => none
        | _ => none
      | .aptr b o w m i k => match s.blk b with
        | some (.cells es) => match splitW es o with
          | some (a, .arrd t m' l :: e) => match Nat.beq m m' && Nat.beq w t.width with
            | true => match patchW (toSVs t (l.getD i t.dflt)) k n v.ents with
              | some es' => match ofSVs t es' s with
                | some (d, [], s1) => match s1.blk b with
                  | some (.cells _) => some ((s1.note b).setBlk b (.cells (a ++ (.arrd t m (l.set i d) :: e))))
                  | _ => none
                | _ => none
              | none => none
            | false => none
          | _ => none
        | _ => none
      | _ => none
    | false => none
  | _, _ => none
def evAlloc (P : Program) (T : TypeId) (s : SW) : Option (SV × SW) := match zeroEs P T with
  | some es => some (.ptr s.len 0, s.push (.cells es))
  | none => none
def evBox (v : SV) (s : SW) : Option (SV × SW) := match storable v.ents with
  | true => some (.ptr s.len 0, s.push (.cells v.ents))
  | false => none
def evFieldAddr (P : Program) (T : TypeId) (p : SV) (f : Nat) : Option SV := match fldOf P T f with
  | some fl => match szOf P fl.type with
    | some (_ + 1) => match p with
      | .ptr b o => some (.ptr b (o + fl.offset))
      | .eptr b g i o => some (.eptr b g i (o + fl.offset))
      | .aptr b o w n i k => some (.aptr b o w n i (k + fl.offset))
      | .iptr es o => some (.iptr es (o + fl.offset))
      | _ => none
    | _ => none
  | none => none
def evField (P : Program) (T : TypeId) (v : SV) (f : Nat) : Option SV := match fldOf P T f, v with
  | some fl, .agg es => match szOf P fl.type, aggB P fl.type with
    | some n, some a => match sliceW es fl.offset n with
      | some x => shape1 a x
      | none => none
    | _, _ => none
  | _, _ => none
def inR (i : Int) (n : Nat) : Bool := decide (0 ≤ i) && decide (i < (n : Int))
/-- One of n, by cases. -/
def pickN {α : Type} (i : Int) : Nat → Nat → (Nat → Tree α) → Tree α
  | 0, _, _ => .bad 70
  | n + 1, k, f => .node (decide (i = (k : Int))) (f k) (pickN i n (k + 1) f)
def lenOfV (v : SV) (s : SW) : Option Nat := match v with
  | .nilsl => some 0
  | .str x => some x.size
  | .asl _ _ n => some n
  | .part b g lo n => match contOf (.part b g lo n) s with
    | some _ => some n
    | none => none
  | v => match contOf v s with
    | some d => some d.l.length
    | none => none
def evIndexAddr (P : Program) (T : TypeId) (x i : SV) (s : SW) : Tree SV := match i with
  | .int _ i => match P.underlying T with
    | some (.slice e) => match x with
      | .imm t l => match szOf P e with
        | some n => match Nat.beq n t.width with
          | true => .guard (inR i l.length) 10 (.leaf (.iptr (toSVs t (l.getD i.toNat t.dflt)) 0))
          | false => .bad 11
        | none => .bad 11
      | .own b g => match contOf (.own b g) s, szOf P e with
        | some d, some n => match Nat.beq n d.t.width with
          | true => .guard (inR i d.l.length) 12 (.leaf (.eptr b g i.toNat 0))
          | false => .bad 13
        | _, _ => .bad 13
      | .part b g lo n => match contOf (.part b g lo n) s, szOf P e with
        | some d, some k => match Nat.beq k d.t.width with
          | true => .guard (inR i n) 14 (.leaf (.eptr b g (lo + i.toNat) 0))
          | false => .bad 15
        | _, _ => .bad 15
      | _ => .bad 16
    | some (.array n e) => match szOf P e with
      | some m => match x with
        | .ptr b o => match place (.ptr b o) s with
          | some (es, _) => match entAt es o with
            | some (.arrd t n' l) => match Nat.beq n n' && Nat.beq m t.width with
              | true => .guard (inR i n) 17 (.leaf (.aptr b o m n i.toNat 0))
              | false => .bad 18
            | some _ => pickN i n 0 fun k => .leaf (.ptr b (o + k * m))
            | none => .bad 19
          | none => .bad 20
        | .iptr es o => match entAt es o with
          | some (.arrd t n' l) => match Nat.beq n n' && Nat.beq m t.width with
            | true => .guard (inR i n) 21 (.leaf (.iptr (toSVs t (l.getD i.toNat t.dflt)) 0))
            | false => .bad 22
          | some _ => pickN i n 0 fun k => .leaf (.iptr es (o + k * m))
          | none => .bad 23
        | _ => .bad 24
      | none => .bad 25
    | _ => .bad 26
  | _ => .bad 27
def evIndex (P : Program) (T : TypeId) (x i : SV) : Tree SV := match i with
  | .int _ i => match P.underlying T, x with
    | some .string, .str s => .guard (inR i s.size) 30 (.leaf (.int .u8 (strAt s i)))
    | some (.array n e), .agg es => match szOf P e, aggB P e with
      | some m, some a => match es with
        | [.arrd t n' l] => match Nat.beq n n' && Nat.beq m t.width with
          | true => .guard (inR i n) 31 (.ofOpt 32 (shape1 a (toSVs t (l.getD i.toNat t.dflt))))
          | false => .bad 33
        | es => pickN i n 0 fun k => .ofOpt 34 (match sliceW es (k * m) m with
          | some x => shape1 a x
          | none => none)
      | _, _ => .bad 35
    | _, _ => .bad 36
  | _ => .bad 37
/-- A bound that may be left out. -/
def boundOf (d : Nat) : Option SV → Option Int
  | none => some d
  | some (.int _ n) => some n
  | some _ => none
/-- A full slice x[lo:h:h]. -/
def evSlice3 (P : Program) (T : TypeId) (x : SV) (lo hi : Option SV) (mv : SV) (s : SW) : Tree SV := match boundOf 0 lo, hi, mv, lenOfV x s with
  | some l, some (.int _ h), .int _ m, some n => .guard (decide (m = h)) 37 (.guard (decide (0 ≤ h) && decide (h ≤ (n : Int))) 38 (.guard (decide (0 ≤ l) && decide (l ≤ h)) 39 (match P.underlying T, x with
    | some (.slice e), .imm t c => match szOf P e with
      | some w => match Nat.beq w t.width with
        | true => .leaf (.imm t (match lo with
          | none => c.take h.toNat
          | some _ => (c.take h.toNat).drop l.toNat))
        | false => .bad 40
      | none => .bad 40
    | some (.slice e), .own b g => match contOf (.own b g) s, szOf P e with
      | some d, some w => match Nat.beq w d.t.width with
        | true => .leaf (.part b g l.toNat (h.toNat - l.toNat))
        | false => .bad 40
      | _, _ => .bad 40
    | some (.slice e), .part b g lo' n' => match contOf (.part b g lo' n') s, szOf P e with
      | some d, some w => match Nat.beq w d.t.width with
        | true => .leaf (.part b g (lo' + l.toNat) (h.toNat - l.toNat))
        | false => .bad 40
      | _, _ => .bad 40
    | _, _ => .bad 40)))
  | _, _, _, _ => .bad 40
/-- x[:] of an array that lies in cells. -/
def evSliceA (P : Program) (T : TypeId) (b o : Nat) (s : SW) : Tree SV := match P.underlying T with
  | some (.array n e) => match szOf P e, s.blk b with
    | some m, some (.cells es) => match entAt es o with
      | some (.arrd t n' _) => .guard (Nat.beq n n' && Nat.beq m t.width) 39 (.leaf (.asl b o n))
      | _ => .bad 39
    | _, _ => .bad 39
  | _ => .bad 39
def evSlice (P : Program) (T : TypeId) (x : SV) (lo hi mx : Option SV) (s : SW) : Tree SV := match mx with
  | some mv => evSlice3 P T x lo hi mv s
  | none => match lenOfV x s with
    | none => .bad 41
    | some n => match boundOf 0 lo, boundOf n hi with
      | some l, some h => .guard (decide (0 ≤ h) && decide (h ≤ (n : Int))) 42 (.guard (decide (0 ≤ l) && decide (l ≤ h)) 43 (match P.underlying T, x with
        | some .string, .str t => .leaf (.str (t.extract l.toNat h.toNat))
        | some (.slice e), .imm t c => match szOf P e with
          | some m => match Nat.beq m t.width with
            | true => .leaf (.imm t (match lo, hi with
              | none, none => c
              | none, some _ => c.take h.toNat
              | some _, none => c.drop l.toNat
              | some _, some _ => (c.take h.toNat).drop l.toNat))
            | false => .bad 44
          | none => .bad 44
        | some (.slice e), .own b g => match contOf (.own b g) s, szOf P e with
          | some d, some m => match Nat.beq m d.t.width with
            | true => .leaf (match lo, hi with
              | none, none => .own b g
              | _, _ => .part b g l.toNat (h.toNat - l.toNat))
            | false => .bad 45
          | _, _ => .bad 45
        | some (.slice e), .part b g lo' n' => match contOf (.part b g lo' n') s, szOf P e with
          | some d, some m => match Nat.beq m d.t.width with
            | true => .leaf (.part b g (lo' + l.toNat) (h.toNat - l.toNat))
            | false => .bad 46
          | _, _ => .bad 46
        | some (.slice e), .nilsl => match szOf P e with
          | some _ => .leaf .nilsl
          | none => .bad 47
        | _, _ => .bad 48))
      | _, _ => .bad 49

def evSliceX (P : Program) (T : TypeId) (x : SV) (lo hi mx : Option SV) (s : SW) : Tree SV := match x, lo, hi, mx with
  | .ptr b o, none, none, none => evSliceA P T b o s
  | x, lo, hi, mx => evSlice P T x lo hi mx s

/-! ### Slices that are made -/
def bytesOfT (P : Program) (T : TypeId) : Option Nat := match P.info? T with
  | some i => some i.bytes
  | none => none
def zeroIs (P : Program) (T : TypeId) (t : Ty) : Bool := match P.info? T with
  | some i => match i.zero with
    | some z => match isZero t z.cells.toList with
      | some [] => Nat.beq i.size t.width
      | _ => false
    | none => false
  | none => false
theorem repEx : ∃ f : ∀ (α : Type) (n : Nat) (a : α), List α, ∀ α n a, f α n a = List.replicate n a := ⟨fun _ n a => List.replicate n a, fun _ _ _ => rfl⟩
/-- A great row of equal parts, which nothing can unfold (repN_eq is all that is known of it). -/
def repN {α : Type} (n : Nat) (a : α) : List α := Classical.choose repEx α n a
theorem repN_eq {α : Type} (n : Nat) (a : α) : repN n a = List.replicate n a := Classical.choose_spec repEx α n a
def repC {α : Type} (n : Nat) (a : α) : List α := bif Nat.ble 5000 n then repN n a else List.replicate n a
theorem repC_eq {α : Type} (n : Nat) (a : α) : repC n a = List.replicate n a := by
  unfold repC; cases Nat.ble 5000 n
  · rfl
  · exact repN_eq n a
def evMakeSlice (P : Program) (T : TypeId) (n c : SV) (s : SW) : Tree (SV × SW) := match n, c, elOf P T with
  | .int _ n, .int _ c, some e => match tyOf P TF e, bytesOfT P e with
    | some t, some by_ => match zeroIs P e t with
      | true => .guard (decide (0 ≤ n) && decide (n ≤ c) && decide (c * (max by_ 1 : Nat) ≤ 281474976710656)) 50
          (.leaf (.own s.len 0, s.push (.arr t 0 (repC n.toNat t.dflt))))
      | false => .bad 51
    | _, _ => .bad 52
  | _, _, _ => .bad 53
def buildL (t : Ty) : List (Nat × SV) → List t.den → SW → Option (List t.den × SW)
  | [], l, s => some (l, s)
  | (i, v) :: r, l, s => match ofSV t v s, Nat.blt i l.length with
    | some (d, s1), true => buildL t r (l.set i d) s1
    | _, _ => none
def evBuildSlice (P : Program) (T : TypeId) (n : Nat) (ps : List (Nat × SV)) (s : SW) : Option (SV × SW) := match elOf P T with
  | some e => match tyOf P TF e with
    | some t => match zeroIs P e t, Nat.ble (n * t.width) 16777216, ps.all fun p => storable p.2.ents with
      | true, true, true => match buildL t ps (List.replicate n t.dflt) s with
        | some (l, s1) => some (.own s1.len 0, s1.push (.arr t 0 l))
        | none => none
      | _, _, _ => none
    | none => none
  | none => none
def buildF (P : Program) (fs : Array Field) : List (Nat × SV) → List SV → Option (List SV)
  | [], es => some es
  | (i, v) :: r, es => match fs[i]? with
    | some f => match szOf P f.type, storable v.ents with
      | some n, true => match Nat.beq (esW v.ents) n with
        | true => match patchW es f.offset n v.ents with
          | some es' => buildF P fs r es'
          | none => none
        | false => none
      | _, _ => none
    | none => none
def buildA (m : Nat) : List (Nat × SV) → List SV → Option (List SV)
  | [], es => some es
  | (i, v) :: r, es => match storable v.ents, Nat.beq (esW v.ents) m with
    | true, true => match patchW es (i * m) m v.ents with
      | some es' => buildA m r es'
      | none => none
    | _, _ => none
def evBuild (P : Program) (T : TypeId) (ps : List (Nat × SV)) (s : SW) : Option (SV × SW) := match zeroEs P T with
  | some z => match P.underlying T with
    | some (.struct fs) => match fs.toList.all (fun f => (szOf P f.type).isSome), buildF P fs ps z with
      | true, some es => some (.agg es, s)
      | _, _ => none
    | some (.array n e) => match szOf P e with
      | some m => match z with
        | [.arrd t n' l] => match Nat.beq m t.width, ps.all fun p => storable p.2.ents with
          | true, true => match buildL t ps l s with
            | some (l', s1) => some (.agg [.arrd t n' l'], s1)
            | none => none
          | _, _ => none
        | z => match buildA m ps z with
          | some es => some (.agg es, s)
          | none => none
      | none => none
    | _ => none
  | none => none
/-- The contents of what is only read: a slice of an array, too. -/
def readAs (t : Ty) (v : SV) (s : SW) : Option (List t.den) := match v with
  | .asl b o n => match s.blk b with
    | some (.cells es) => match entAt es o with
      | some (.arrd t' n' l) => match Nat.beq n n' with
        | true => castL t' t l
        | false => none
      | _ => none
    | _ => none
  | v => contAs t v s
def srcAs (P : Program) (T : TypeId) (t : Ty) (v : SV) (s : SW) : Option (List t.den) := match P.underlying T with
  | some .string => match v with
    | .str x => castL (.int .u8) t (bytesOf x)
    | _ => none
  | some (.slice _) => readAs t v s
  | _ => none
def evAppend (P : Program) (T T2 : TypeId) (v x : SV) (s : SW) : Tree (SV × SW) := match elOf P T with
  | some e => match bytesOfT P e, szOf P e, P.info? e with
    | some by_, some m, some i => match i.zero with
      | some z => match v with
        | .nilsl => match tyOf P TF e with
          | some t => match Nat.beq m t.width && Nat.beq z.cells.size t.width, srcAs P T2 t x s with
            | true, some l => .guard (decide (l.length * max by_ 1 ≤ 140737488355328)) 60 (.leaf (.own s.len 0, s.push (.arr t 0 l)))
            | _, _ => .bad 61
          | none => .bad 61
        | .own b g => match s.blk b with
          | some (.arr t g' l0) => match Nat.beq g g' && Nat.beq m t.width && Nat.beq z.cells.size t.width, srcAs P T2 t x s with
            | true, some l => .guard (decide ((l0.length + l.length) * max by_ 1 ≤ 140737488355328)) 62 (.leaf (.own b (g + 1), (s.note b).setBlk b (.arr t (g + 1) (l0 ++ l))))
            | _, _ => .bad 63
          | _ => .bad 64
        | .part b g lo n => match s.blk b with
          | some (.arr t g' l0) => match Nat.beq g g' && Nat.beq m t.width && Nat.beq z.cells.size t.width, srcAs P T2 t x s with
            | true, some l => .guard (decide ((n + l.length) * max by_ 1 ≤ 140737488355328)) 65 (.leaf (.own b (g + 1), (s.note b).setBlk b (.arr t (g + 1) ((l0.drop lo).take n ++ l))))
            | _, _ => .bad 66
          | _ => .bad 67
        | _ => .bad 68
      | none => .bad 69
    | _, _, _ => .bad 69
  | none => .bad 69
def evCopy (P : Program) (T T2 : TypeId) (v x : SV) (s : SW) : Option (SV × SW) := match elOf P T with
  | some e => match szOf P e with
    | some m => match v with
      | .own b g => match s.blk b with
        | some (.arr t g' l0) => match Nat.beq g g' && Nat.beq m t.width, srcAs P T2 t x s with
          | true, some l => some (.int .i64 (min l.length l0.length : Nat), (s.note b).setBlk b (.arr t g (l.take l0.length ++ l0.drop l.length)))
          | _, _ => none
        | _ => none
      | .part b g lo n => match s.blk b with
        | some (.arr t g' l0) => match Nat.beq g g' && Nat.beq m t.width, srcAs P T2 t x s with
          | true, some l => some (.int .i64 (min l.length n : Nat), (s.note b).setBlk b (.arr t g (l0.take lo ++ (l.take n ++ (l0.drop lo).drop (min l.length n)))))
          | _, _ => none
        | _ => none
      | .asl b o n => match s.blk b with
        | some (.cells es) => match splitW es o with
          | some (a, .arrd t n' l0 :: e') => match Nat.beq n n' && Nat.beq m t.width, srcAs P T2 t x s with
            | true, some l => some (.int .i64 (min l.length n : Nat), (s.note b).setBlk b (.cells (a ++ (.arrd t n (l.take n ++ l0.drop l.length) :: e'))))
            | _, _ => none
          | _ => none
        | _ => none
      | _ => none
    | none => none
  | none => none

/-! ### Reckoning -/
def binInt (op : BinOp) (k : IntKind) (a b : Int) : Tree SV := match op with
  | .add => .leaf (.int k (k.wrap (a + b)))
  | .sub => .leaf (.int k (k.wrap (a - b)))
  | .mul => .leaf (.int k (k.wrap (a * b)))
  | .quo => .guard (!decide (b = 0)) 80 (.leaf (.int k (k.wrap (a.tdiv b))))
  | .rem => .guard (!decide (b = 0)) 81 (.leaf (.int k (a.tmod b)))
  | .and => .leaf (.int k (iand k a b))
  | .or => .leaf (.int k (ior k a b))
  | .xor => .leaf (.int k (ixor k a b))
  | .andNot => .leaf (.int k (iandnot k a b))
  | .eql => .leaf (.bool (a == b))
  | .neq => .leaf (.bool (a != b))
  | .lss => .leaf (.bool (decide (a < b)))
  | .leq => .leaf (.bool (decide (a ≤ b)))
  | .gtr => .leaf (.bool (decide (a > b)))
  | .geq => .leaf (.bool (decide (a ≥ b)))
  | .shl => .guard (!decide (b < 0)) 82 (.leaf (.int k (ishl k a b)))
  | .shr => .guard (!decide (b < 0)) 83 (.leaf (.int k (ishr k a b)))
def binStr (op : BinOp) (a b : ByteArray) : Tree SV := match op with
  | .add => .guard (decide (a.size + b.size ≤ 9223372036854775807)) 84 (.leaf (.str (a ++ b)))
  | .eql => .leaf (.bool (strEq a b))
  | .neq => .leaf (.bool (!strEq a b))
  | .lss => .leaf (.bool (strLt a b))
  | .leq => .leaf (.bool (strLt a b || strEq a b))
  | .gtr => .leaf (.bool (!(strLt a b || strEq a b)))
  | .geq => .leaf (.bool (!strLt a b))
  | _ => .bad 85
def eqD : (t : Ty) → t.den → t.den → Bool
  | .bool, (a : Bool), (b : Bool) => a == b
  | .int _, (a : Int), (b : Int) => a == b
  | .str, (a : ByteArray), (b : ByteArray) => strEq a b
  | _, _, _ => false
def eqL (t : Ty) : List t.den → List t.den → Bool
  | [], [] => true
  | a :: l, b :: l' => eqD t a b && eqL t l l'
  | _, _ => false
def eqElem (P : Program) (t : Ty) (e : TypeId) : Bool := match t, P.underlying e with
  | .bool, some .bool => true
  | .int _, some (.int _) => true
  | .str, some .string => true
  | _, _ => false
def eqPart (P : Program) (eq : TypeId → SV → SV → Option Bool) (xs ys : List SV) : List Field → Option Bool
  | [] => some true
  | f :: fs => match f.name == "_" with
    | true => eqPart P eq xs ys fs
    | false => match szOf P f.type, aggB P f.type with
      | some n, some a => match sliceW xs f.offset n, sliceW ys f.offset n with
        | some x, some y => match shape1 a x, shape1 a y with
          | some x, some y => match eq f.type x y, eqPart P eq xs ys fs with
            | some r, some q => some (r && q)
            | _, _ => none
          | _, _ => none
        | _, _ => none
      | _, _ => none
def eqT (P : Program) : Nat → TypeId → SV → SV → Option Bool
  | 0, _, _, _ => none
  | d + 1, t, x, y => match P.underlying t with
    | some .bool => match x, y with
      | .bool a, .bool b => some (a == b)
      | _, _ => none
    | some (.int _) => match x, y with
      | .int k a, .int k' b => match decide (k = k') with
        | true => some (a == b)
        | false => none
      | _, _ => none
    | some .string => match x, y with
      | .str a, .str b => some (strEq a b)
      | _, _ => none
    | some (.struct fs) => match x, y with
      | .agg xs, .agg ys => match P.stoodInHeld t with
        | false => eqPart P (eqT P d) xs ys fs.toList
        | true => none
      | _, _ => none
    | some (.array n e) => match d, x, y with
      | _ + 1, .agg [.arrd t1 n1 l1], .agg [.arrd t2 n2 l2] => match Nat.beq n n1 && Nat.beq n n2 && eqElem P t1 e, szOf P e, castL t2 t1 l2 with
        | true, some 1, some l2 => some (eqL t1 l1 l2)
        | _, _, _ => none
      | _, _, _ => none
    | some (.pointer _) => match x, y with
      | .nilptr, .nilptr => some true
      | .nilptr, .ptr _ _ => some false
      | .ptr _ _, .nilptr => some false
      | .nilptr, .eptr _ _ _ _ => some false
      | .eptr _ _ _ _, .nilptr => some false
      | .nilptr, .iptr _ _ => some false
      | .iptr _ _, .nilptr => some false
      | _, _ => none
    | some (.interface _) => match x, y with
      | .nilif, .iface _ _ => some false
      | .iface _ _, .nilif => some false
      | .iface t1 x1, .iface t2 y1 => match Nat.beq t1 t2 with
        | false => some false
        | true => match P.info? t1 with
          | some i => match i.comparable with
            | true => eqT P d t1 x1 y1
            | false => none
          | none => none
      | _, _ => none
    | some (.slice _) => match x, y with
      | .nilsl, .nilsl => some true
      | _, _ => none
    | some (.map _ _) => match x, y with
      | .nilmap, .nilmap => some true
      | .nilmap, .mapv _ => some false
      | .mapv _, .nilmap => some false
      | _, _ => none
    | some (.func _ _ _) => match x, y with
      | .nilfn, .nilfn => some true
      | .nilfn, .fn _ _ _ => some false
      | .fn _ _ _, .nilfn => some false
      | _, _ => none
    | _ => none
def isConstO : Operand → Bool
  | .const _ => true
  | _ => false
/-- '==' may be asked without a guard. -/
def eqAllowed (P : Program) (t : TypeId) (xo yo : Operand) (x y : SV) : Bool := match x, y with
  | .nilif, .nilif => isConstO xo || isConstO yo
  | .agg _, .agg _ => !P.eqGuardType P.depth t
  | _, _ => true
def evBin (P : Program) (op : BinOp) (t : TypeId) (xo yo : Operand) (x y : SV) : Tree SV := match x, y with
  | .int k a, .int k' b => match op with
    | .shl => binInt .shl k a b
    | .shr => binInt .shr k a b
    | op => match decide (k = k') with
      | true => binInt op k a b
      | false => .bad 86
  | .str a, .str b => binStr op a b
  | x, y => match eqAllowed P t xo yo x y with
    | true => match op with
      | .eql => match x, y with
        | .nilif, .nilif => match P.underlying t with
          | some (.interface _) => .leaf (.bool true)
          | _ => .bad 87
        | x, y => match eqT P 60 t x y with
          | some b => .leaf (.bool b)
          | none => .bad 87
      | .neq => match x, y with
        | .nilif, .nilif => match P.underlying t with
          | some (.interface _) => .leaf (.bool false)
          | _ => .bad 88
        | x, y => match eqT P 60 t x y with
          | some b => .leaf (.bool (!b))
          | none => .bad 88
      | _ => .bad 89
    | false => .bad 90
def evUn (op : UnOp) (x : SV) : Option SV := match op, x with
  | .not, .bool b => some (.bool (!b))
  | .neg, .int k n => some (.int k (k.wrap (0 - n)))
  | .xor, .int k n => some (.int k (ixor k (if k.signed then -1 else k.max) n))
  | _, _ => none
def evConvert (P : Program) (src dst : TypeId) (x : SV) (s : SW) : Option (SV × SW) := match P.underlying src, P.underlying dst with
  | some d1, some d2 => match d2, x with
    | .int k, .int _ n => some (.int k (k.wrap n), s)
    | .string, .int _ n => some (.str (Utf8.encode n), s)
    | .string, .str t => some (.str t, s)
    | .slice e, .str t => match d1, P.underlying e with
      | .string, some (.int .u8) => some (.own s.len 0, s.push (.arr (.int .u8) 0 (bytesOf t)))
      | _, _ => none
    | .slice e, .own b g => match d1, P.underlying e, Nat.beq src dst, s.blk b with
      | .slice _, some (.int .u8), true, some (.arr _ g' (_ :: _)) => match Nat.beq g g' with
        | true => some (.own b g, s.note b)
        | false => none
      | _, _, _, _ => none
    | .string, v => match d1 with
      | .slice e => match P.underlying e with
        | some (.int .u8) => match contAs (.int .u8) v s with
          | some l => some (.str (strOf l), s)
          | none => none
        | _ => none
      | _ => none
    | _, _ => none
  | _, _ => none
def evMakeIface (P : Program) (T : TypeId) (x : SV) : Option SV := match P.underlying T with
  | some (.interface _) => none
  | some _ => some (.iface T x)
  | none => none
def zeroV (P : Program) (T : TypeId) : Option SV := match P.info? T with
  | some i => match i.zero with
    | some z => litOf P T z
    | none => none
  | none => none
def evAssert (P : Program) (x : SV) (T : TypeId) (ok : Bool) : Option SV := match P.underlying T with
  | some (.interface _) => none
  | some _ => match x with
    | .iface t v => match Nat.beq t T with
      | true => match ok with
        | true => some (.tup [v, .bool true])
        | false => some v
      | false => match ok, zeroV P T with
        | true, some z => some (.tup [z, .bool false])
        | _, _ => none
    | .nilif => match ok, zeroV P T with
      | true, some z => some (.tup [z, .bool false])
      | _, _ => none
    | _ => none
  | none => none
def evPick (c a b : SV) : Tree SV := match c with
  | .bool x => match a, b with
    | .bool p, .bool q => .leaf (.bool (bif x then p else q))
    | a, b => .node x (.leaf a) (.leaf b)
  | _ => .bad 91
def evNil (x : SV) : Option SV := match x with
  | .ptr b o => some (.ptr b o)
  | .eptr b g i o => some (.eptr b g i o)
  | .aptr b o w n i k => some (.aptr b o w n i k)
  | .iptr es o => some (.iptr es o)
  | .iface t v => some (.iface t v)
  | .mapv b => some (.mapv b)
  | .imm t l => some (.imm t l)
  | _ => none
def evMM (f : Int → Int → Int) : List SV → Option SV
  | [.int k a, .int k' b] => some (.int k (f a b))
  | [.int k a, .int k1 b, .int k2 c, .int k3 d] => some (.int k (f (f (f a b) c) d))
  | _ => none

/-! ### An operation that is no call -/
def evT (P : Program) (t : List SV) : Operand → SV
  | .tmp k => t.getD k .undef
  | .const v => match litSV v with
    | some x => x
    | none => .dead
  | .func f => .fn (.func f) [] []
  | .global _ => .dead
def both (s : SW) (x : Option SV) (why : Nat) : Tree (SV × SW) := match x with
  | some v => .leaf (v, s)
  | none => .bad why
def Tree.with_ (s : SW) (x : Tree SV) : Tree (SV × SW) := x.bind fun v => .leaf (v, s)
def intV (x : Option Nat) : Option SV := match x with
  | some n => some (.int .i64 (n : Int))
  | none => none
def evLen (P : Program) (T : TypeId) (x : SV) (s : SW) : Tree (SV × SW) := match P.underlying T with
  | some (.array n _) => .leaf (.int .i64 n, s)
  | some .string => match x with
    | .str _ => both s (intV (lenOfV x s)) 116
    | _ => .bad 116
  | some (.slice _) => match x with
    | .str _ => .bad 116
    | x => both s (intV (lenOfV x s)) 116
  | _ => .bad 117
/-! ### Rows of entries -/
def vecOf (v : SV) (s : SW) : Option (List SV) := match v with
  | .own b g => match s.blk b with
    | some (.vec g' es) => match Nat.beq g g' with
      | true => some es
      | false => none
    | _ => none
  | _ => none
def evIndexAddrV (P : Program) (T : TypeId) (x i : SV) (s : SW) : Tree SV := match x, vecOf x s with
  | .own b g, some es => match i, P.underlying T with
    | .int _ i, some (.slice e) => match szOf P e with
      | some 1 => pickN i (esW es) 0 fun k => .leaf (.eptr b g k 0)
      | _ => .bad 28
    | _, _ => .bad 28
  | _, _ => evIndexAddr P T x i s
def evLoadV (P : Program) (T : TypeId) (p : SV) (s : SW) : Option SV := match p with
  | .eptr b g i o => match s.blk b with
    | some (.vec g' es) => match Nat.beq g g', szOf P T, aggB P T with
      | true, some n, some a => match sliceW es (i + o) n with
        | some x => shape1 a x
        | none => none
      | _, _, _ => none
    | _ => evLoad P T p s
  | _ => evLoad P T p s
def evStoreV (P : Program) (T : TypeId) (p v : SV) (s : SW) : Option SW := match p with
  | .eptr b g i o => match s.blk b with
    | some (.vec g' es) => match szOf P T, storable v.ents with
      | some n, true => match Nat.beq (esW v.ents) n && Nat.beq g g' with
        | true => match patchW es (i + o) n v.ents with
          | some es' => some ((s.note b).setBlk b (.vec g es'))
          | none => none
        | false => none
      | _, _ => none
    | _ => evStore P T p v s
  | _ => evStore P T p v s
/-- Is a literal's row one of entries? -/
def vecEl (P : Program) (e : TypeId) (ps : List (Nat × SV)) : Bool := match P.underlying e with
  | some (.slice _) => ps.any fun p => match p.2 with
    | .imm _ _ => false
    | _ => true
  | some (.pointer _) => true
  | some (.interface _) => true
  | some (.func _ _ _) => true
  | _ => false
def evBuildSliceV (P : Program) (T : TypeId) (n : Nat) (ps : List (Nat × SV)) (s : SW) : Option (SV × SW) := match elOf P T with
  | some e => match vecEl P e ps with
    | true => match P.info? e with
      | some i => match i.zero with
        | some z => match Nat.beq i.size 1 && (Nat.beq z.cells.size 1 && (Nat.ble 1 n && Nat.ble n 16777216)), buildA 1 ps (List.replicate n .dead) with
          | true, some es => some (.own s.len 0, s.push (.vec 0 es))
          | _, _ => none
        | none => none
      | none => none
    | false => evBuildSlice P T n ps s
  | none => evBuildSlice P T n ps s
def vecSrc (P : Program) (T2 : TypeId) (x : SV) (s : SW) : Option (List SV) := match P.underlying T2 with
  | some (.slice _) => match vecOf x s with
    | some es => match storable es && Nat.ble 1 (esW es) with
      | true => some es
      | false => none
    | none => none
  | _ => none
def evAppendV (P : Program) (T T2 : TypeId) (v x : SV) (s : SW) : Tree (SV × SW) := match vecSrc P T2 x s with
  | none => evAppend P T T2 v x s
  | some es => match elOf P T with
    | some e => match P.info? e with
      | some i => match i.zero with
        | some z => match Nat.beq i.size 1 && Nat.beq z.cells.size 1 with
          | true => match v with
            | .nilsl => .guard (decide (esW es * max i.bytes 1 ≤ 140737488355328)) 60 (.leaf (.own s.len 0, s.push (.vec 0 es)))
            | v => match v, vecOf v s with
              | .own b g, some es0 => .guard (Nat.ble 1 (esW es0)) 67 (.guard (decide ((esW es0 + esW es) * max i.bytes 1 ≤ 140737488355328)) 62 (.leaf (.own b (g + 1), (s.note b).setBlk b (.vec (g + 1) (es0 ++ es)))))
              | _, _ => .bad 68
          | false => .bad 69
        | none => .bad 69
      | none => .bad 69
    | none => .bad 69
def evLenV (P : Program) (T : TypeId) (x : SV) (s : SW) : Tree (SV × SW) := match P.underlying T, vecOf x s with
  | some (.slice _), some es => .leaf (.int .i64 (esW es : Int), s)
  | _, _ => evLen P T x s
def evBuiltin (P : Program) (b : Builtin) (xs : List SV) (tys : List TypeId) (s : SW) : Tree (SV × SW) := match b with
  | .len => match xs, tys with
    | [x], [T] => evLenV P T x s
    | _, _ => .bad 121
  | .append => match xs, tys with
    | [v, x], [T, T2] => evAppendV P T T2 v x s
    | _, _ => .bad 121
  | .copy => match xs, tys with
    | [v, x], [T, T2] => .ofOpt 118 (evCopy P T T2 v x s)
    | _, _ => .bad 121
  | .min => both s (evMM imin xs) 119
  | .max => both s (evMM imax xs) 120
  | _ => .bad 121
def evMove (P : Program) (ty : TypeId) (x : Operand) (t : List SV) (s : SW) : Tree (SV × SW) := match x with
  | .const v => both s (litOf P ty v) 100
  | x => .leaf (evT P t x, s)
def evStoreT (x : Option SW) : Tree (SV × SW) := match x with
  | some s1 => .leaf (.undef, s1)
  | none => .bad 106
def evExtract (x : SV) (i : Nat) (s : SW) : Tree (SV × SW) := match x with
  | .tup l => both s l[i]? 114
  | _ => .bad 115
def evCallB (P : Program) (c : Call) (t : List SV) (s : SW) : Tree (SV × SW) := match c.callee with
  | .builtin b => evBuiltin P b (c.args.toList.map (evT P t)) c.argTypes.toList s
  | _ => .bad 122
/-- The character at a place of a text, and how many bytes it has. -/
def decC (s : ByteArray) (p : Int) : Int := ((Utf8.decode s p.toNat).1 : Int)
def decW (s : ByteArray) (p : Int) : Int := ((Utf8.decode s p.toNat).2 : Int)
def evRange (P : Program) (T : TypeId) (x : SV) (s : SW) : Tree (SV × SW) := match P.underlying T, x with
  | some .string, .str t => .leaf (.itr s.len, s.push (.iter t 0))
  | _, _ => .bad 125
def evNext (x : SV) (isString : Bool) (s : SW) : Tree (SV × SW) := match x, isString with
  | .itr b, true => match s.blk b with
    | some (.iter t p) => .node (decide (p < (t.size : Int))) (.leaf (.tup [.bool true, .int .i64 p, .int .i32 (decC t p)], (s.note b).setBlk b (.iter t (p + decW t p)))) (.leaf (.tup [.bool false], s))
    | _ => .bad 126
  | _, _ => .bad 127
/-! ### Maps of plain data -/
def scal : Ty → Bool
  | .bool => true
  | .int _ => true
  | .str => true
  | _ => false
def keyD : (t : Ty) → SV → Option t.den
  | .bool, .bool b => some b
  | .int k, .int k' n => match decide (k = k') with
    | true => some n
    | false => none
  | .str, .str x => some x
  | _, _ => none
def svD : (t : Ty) → t.den → SV
  | .bool, b => .bool b
  | .int k, n => .int k n
  | .str, x => .str x
  | _, _ => .dead
def mkE (kt vt : Ty) (k : kt.den) (v : vt.den) : Ty.den (.pair kt vt) := (k, v)
def fsE (kt vt : Ty) (d : Ty.den (.pair kt vt)) : kt.den := d.1
def snE (kt vt : Ty) (d : Ty.den (.pair kt vt)) : vt.den := d.2
/-- Where a key is; the number of entries, if it is nowhere. -/
def mfind (kt vt : Ty) (k : kt.den) : List (Ty.den (.pair kt vt)) → Nat
  | [] => 0
  | e :: l => bif eqD kt k (fsE kt vt e) then 0 else mfind kt vt k l + 1
def mhas (kt vt : Ty) (k : kt.den) (l : List (Ty.den (.pair kt vt))) : Bool := decide (mfind kt vt k l < l.length)
def mget (kt vt : Ty) (k : kt.den) (l : List (Ty.den (.pair kt vt))) : vt.den := snE kt vt (l.getD (mfind kt vt k l) (Ty.dflt (.pair kt vt)))
def mput (kt vt : Ty) (k : kt.den) (v : vt.den) (l : List (Ty.den (.pair kt vt))) : List (Ty.den (.pair kt vt)) :=
  bif mhas kt vt k l then l.set (mfind kt vt k l) (mkE kt vt k v) else l ++ [mkE kt vt k v]
def mtouch (kt vt : Ty) (k : kt.den) (l : List (Ty.den (.pair kt vt))) : List (Ty.den (.pair kt vt)) := bif mhas kt vt k l then l else l ++ [mkE kt vt k vt.dflt]
def mset (kt vt : Ty) (i : Nat) (v : vt.den) (l : List (Ty.den (.pair kt vt))) : List (Ty.den (.pair kt vt)) :=
  l.set i (mkE kt vt (fsE kt vt (l.getD i (Ty.dflt (.pair kt vt)))) v)
def keyT (P : Program) (t : TypeId) (k : Ty) : Bool := match P.underlying t, k with
  | some .bool, .bool => true
  | some (.int a), .int b => decide (a = b)
  | some .string, .str => true
  | _, _ => false
def zeroS (P : Program) (t : TypeId) (v : Ty) : Bool := match P.info? t with
  | some i => match i.zero, v with
    | some (.bool false), .bool => true
    | some (.int k n), .int k' => decide (k = k') && decide (n = 0)
    | some (.string x), .str => Nat.beq x.size 0
    | _, _ => false
  | none => false
def hintOk : Option SV → Bool
  | none => true
  | some (.int _ _) => true
  | _ => false
def evMakeMap (P : Program) (T : TypeId) (h : Option SV) (s : SW) : Tree (SV × SW) := match P.underlying T with
  | some (.map kt et) => match tyOf P TF kt, tyOf P TF et with
    | some k, some v => match scal k && hintOk h with
      | true => match scal v with
        | true => .leaf (.mapv s.len, s.push (.map k v []))
        | false => .leaf (.mapv s.len, s.push (.fmap k [] []))
      | false => .bad 128
    | some k, none => match scal k && hintOk h with
      | true => .leaf (.mapv s.len, s.push (.fmap k [] []))
      | false => .bad 128
    | none, _ => .bad 128
  | _ => .bad 128
/-- Where a key is among some, by cases; how many there are, if it is nowhere. -/
def idxF (kt : Ty) (k : kt.den) : List kt.den → Nat → Tree Nat
  | [], i => .leaf i
  | k0 :: ks, i => .node (eqD kt k k0) (.leaf i) (idxF kt k ks (i + 1))
def okV (ok : Bool) (v : SV) (b : Bool) : SV := match ok with
  | true => .tup [v, .bool b]
  | false => v
def evLookF (P : Program) (et : TypeId) (kt : Ty) (k : kt.den) (ks : List kt.den) (es : List SV) (ok : Bool) : Tree SV :=
  (idxF kt k ks 0).bind fun i => match es[i]? with
    | some v => .leaf (okV ok v true)
    | none => match zeroV P et with
      | some z => .leaf (okV ok z false)
      | none => .bad 134
def evPutF (b : Nat) (kt : Ty) (k : kt.den) (v : SV) (ks : List kt.den) (es : List SV) (s : SW) : Tree (SV × SW) :=
  (idxF kt k ks 0).bind fun i => match Nat.blt i ks.length with
    | true => .leaf (.undef, (s.note b).setBlk b (.fmap kt ks (es.set i v)))
    | false => .leaf (.undef, (s.note b).setBlk b (.fmap kt (ks ++ [k]) (es ++ [v])))
def evLookup (P : Program) (T : TypeId) (x i : SV) (ok : Bool) (s : SW) : Tree SV := match P.underlying T, x with
  | some (.map kt et), .mapv b => match s.blk b with
    | some (.map k v l) => match keyT P kt k && zeroS P et v, keyD k i with
      | true, some kd => .leaf (match ok with
        | true => .tup [svD v (mget k v kd l), .bool (mhas k v kd l)]
        | false => svD v (mget k v kd l))
      | _, _ => .bad 130
    | some (.fmap k ks es) => match keyT P kt k, keyD k i with
      | true, some kd => evLookF P et k kd ks es ok
      | _, _ => .bad 130
    | _ => .bad 131
  | _, _ => .bad 132
def evMapEntry (P : Program) (T : TypeId) (x i : SV) (s : SW) : Tree (SV × SW) := match P.underlying T, x with
  | some (.map kt et), .mapv b => match s.blk b with
    | some (.map k v l) => match keyT P kt k && zeroS P et v, keyD k i with
      | true, some kd => .leaf (.tup [svD v (mget k v kd l), .int .i64 (mfind k v kd l : Int)], (s.note b).setBlk b (.map k v (mtouch k v kd l)))
      | _, _ => .bad 130
    | _ => .bad 131
  | _, _ => .bad 132
def evEntryStore (x n v : SV) (s : SW) : Tree (SV × SW) := match x, n with
  | .mapv b, .int _ n => match s.blk b with
    | some (.map kt vt l) => match keyD vt v with
      | some d => .guard (inR n l.length) 133 (.leaf (.undef, (s.note b).setBlk b (.map kt vt (mset kt vt n.toNat d l))))
      | none => .bad 130
    | _ => .bad 131
  | _, _ => .bad 132
def evMapUpdate (P : Program) (T : TypeId) (x i v : SV) (s : SW) : Tree (SV × SW) := match P.underlying T, x with
  | some (.map kt et), .mapv b => match s.blk b with
    | some (.map k vt l) => match keyT P kt k, keyD k i, keyD vt v with
      | true, some kd, some d => .leaf (.undef, (s.note b).setBlk b (.map k vt (mput k vt kd d l)))
      | _, _, _ => .bad 130
    | some (.fmap k ks es) => match keyT P kt k, keyD k i with
      | true, some kd => evPutF b k kd v ks es s
      | _, _ => .bad 130
    | _ => .bad 131
  | _, _ => .bad 132
def evOp (P : Program) (o : Oper) (t : List SV) (s : SW) : Tree (SV × SW) :=
  match o.op with
  | .move x => evMove P o.type x t s
  | .assign x => evMove P o.type x t s
  | .pick c a b => (evPick (evT P t c) (evT P t a) (evT P t b)).with_ s
  | .alloc e => .ofOpt 101 (evAlloc P e s)
  | .box _ x => .ofOpt 102 (evBox (evT P t x) s)
  | .build T ps => .ofOpt 103 (evBuild P T (ps.toList.map fun p => (p.1, evT P t p.2)) s)
  | .buildSlice T n ps => .ofOpt 104 (evBuildSliceV P T n (ps.toList.map fun p => (p.1, evT P t p.2)) s)
  | .load T a => both s (evLoadV P T (evT P t a) s) 105
  | .store T a x => evStoreT (evStoreV P T (evT P t a) (evT P t x) s)
  | .nilCheck x => both s (evNil (evT P t x)) 107
  | .binOp op T x y _ => (evBin P op T x y (evT P t x) (evT P t y)).with_ s
  | .unOp op _ x => both s (evUn op (evT P t x)) 108
  | .convert a b x => .ofOpt 109 (evConvert P a b (evT P t x) s)
  | .makeInterface T x => both s (evMakeIface P T (evT P t x)) 110
  | .makeFunc f first caps => .leaf (.fn f (first.toList.map (evT P t)) (caps.toList.map (evT P t)), s)
  | .makeSlice T n c => evMakeSlice P T (evT P t n) (evT P t c) s
  | .slice T x lo hi mx => (evSliceX P T (evT P t x) (lo.map (evT P t)) (hi.map (evT P t)) (mx.map (evT P t)) s).with_ s
  | .fieldAddr T x f => both s (evFieldAddr P T (evT P t x) f) 111
  | .field T x f => both s (evField P T (evT P t x) f) 112
  | .indexAddr T x i => (evIndexAddrV P T (evT P t x) (evT P t i) s).with_ s
  | .index T x i => (evIndex P T (evT P t x) (evT P t i)).with_ s
  | .typeAssert x _ T ok => both s (evAssert P (evT P t x) T ok) 113
  | .extract x i => evExtract (evT P t x) i s
  | .call c => evCallB P c t s
  | .range T x => evRange P T (evT P t x) s
  | .next x str => evNext (evT P t x) str s
  | .makeMap T h => evMakeMap P T (h.map (evT P t)) s
  | .lookup T x i ok => (evLookup P T (evT P t x) (evT P t i) ok s).with_ s
  | .mapEntry T x i => evMapEntry P T (evT P t x) (evT P t i) s
  | .entryStore _ x n v => evEntryStore (evT P t x) (evT P t n) (evT P t v) s
  | .mapUpdate T x i v => evMapUpdate P T (evT P t x) (evT P t i) (evT P t v) s
  | .insert T x i v => evMapUpdate P T (evT P t x) (evT P t i) (evT P t v) s
  | _ => .bad 122
end Go.Proofs.Ytdaabhpeedekaaa.Vx
