/- Texts of this seat, in their order, put together by program. -/
import Derived.Calls
import Derived.Below
import Derived.Deep.Quiet
import Derived.DeepKeys3
import Derived.Maps.Keyed
import Derived.Lib.Bytealg
set_option linter.unusedSimpArgs false
set_option linter.unusedVariables false
set_option linter.unusedSectionVars false
/- A pure interpreter for the part of Go's operations that this program uses: plain values, a heap that is a list of objects, no tape. The text says what it computes; XIpSound proves that the machine's calls do the same. -/
set_option maxRecDepth 20000
namespace Go.Ip
open Go

/-- A value as the interpreter holds it. 'junk' stands for whatever value; 'ptr' names a cell of an object; 'sl' a slice that begins at a cell of an object; 'clo' is a function literal with the boxes that it captures, 'yld' the yield of a range over a function. -/
inductive PV where
  | junk
  | int (k : IntKind) (n : Int)
  | bool (b : Bool)
  | str (s : ByteArray)
  | nilp
  | ptr (id off : Nat)
  | nilsl
  | sl (id off len : Nat)
  | mapv (id : Nat)
  | fn (f : FuncId)
  | clo (f : FuncId) (cs : List (Nat × Nat))
  | yld (id : Nat)
  | agg (l : List PV)
  | tup (l : List PV)
  deriving Inhabited

/-- How a part of a code is left. -/
inductive PX where
  | normal
  | exit (id : Nat)
  | ret

/-- An object: 'dead' (nothing is known of it), read only, or the call's own; with the cells that an element takes; or a map of the call's own; or the record of a range over a function (0 ready, 1 busy, 2 done). -/
inductive PObj where
  | dead
  | ro (esz : Nat) (cells : List PV)
  | own (esz : Nat) (cells : List PV)
  | mp (es : List (PV × PV))
  | lp (st : Nat) (kl : Nat → List Nat) (r : List PV) (ps : List Tmp) (a b : Code) (pe : Option PX)
  deriving Inhabited

abbrev PHeap := List PObj

structure St where
  r : List PV
  h : PHeap

abbrev Res := Option (PV × PHeap)

def PObj.get : PObj → List PV
  | .dead => []
  | .ro _ c => c
  | .own _ c => c
  | .mp _ => []
  | .lp _ _ _ _ _ _ _ => []

def PObj.esz : PObj → Nat
  | .dead => 0
  | .ro e _ => e
  | .own e _ => e
  | .mp _ => 0
  | .lp _ _ _ _ _ _ _ => 0

/-- The cells of an object. -/
def cellsAt (h : PHeap) (id : Nat) : List PV := match h[id]? with | some o => o.get | none => []

def eszAt (h : PHeap) (id : Nat) : Nat := match h[id]? with | some o => o.esz | none => 0

def PV.oneCell : PV → Bool
  | .junk | .agg _ | .tup _ => false
  | _ => true

/-- The cells of a value that is to be stored: none where they are not known. -/
def PV.cells : PV → Option (List PV)
  | .junk | .tup _ => none
  | .agg l => if l.all PV.oneCell then some l else none
  | v => some [v]

def cells1 : Value → Bool
  | .agg _ | .tuple _ => false
  | _ => true

def ofV1 : Value → PV
  | .int k n => .int k n
  | .bool b => .bool b
  | .string s => .str s
  | .pointer none => .nilp
  | .slice none 0 0 => .nilsl
  | _ => .junk

def ofV : Value → PV
  | .agg cs => if cs.toList.all cells1 then .agg (cs.toList.map ofV1) else .junk
  | .tuple cs => if cs.size = 0 then .tup [] else .junk
  | v => ofV1 v

def evA (g : Nat → PV) (r : List PV) : Operand → PV
  | .tmp t => (r[t]?).getD .junk
  | .const v => ofV v
  | .global n => g n
  | .func f => .fn f

/-- The boxes that a function literal captures. -/
def ptrsP : List PV → Option (List (Nat × Nat))
  | [] => some []
  | .ptr id off :: l => (ptrsP l).map fun cs => (id, off) :: cs
  | _ :: _ => none
def closP (f : FuncId) (l : List PV) : Option PV := (ptrsP l).map fun cs => .clo f cs
def ptrOf (p : Nat × Nat) : PV := .ptr p.1 p.2

/-- The call of a function value: what it captures comes behind the arguments. -/
def fcall (C : FuncId → List PV → PHeap → Res) (v : PV) (args : List PV) (h : PHeap) : Res :=
  match v with
  | .fn f => C f args h
  | .clo f cs => C f (args ++ cs.map ptrOf) h
  | _ => none
def vcall (C : FuncId → List PV → PHeap → Res) (Y : Nat → List PV → PHeap → Res) (v : PV) (args : List PV) (h : PHeap) : Res :=
  match v with
  | .yld id => Y id args h
  | v => fcall C v args h

def binI (op : BinOp) (k : IntKind) (a b : Int) : Option PV :=
  match op with
  | .add => some (.int k (k.wrap (a + b)))
  | .sub => some (.int k (k.wrap (a - b)))
  | .mul => some (.int k (k.wrap (a * b)))
  | .quo => if b = 0 then none else some (.int k (k.wrap (a.tdiv b)))
  | .rem => if b = 0 then none else some (.int k (a.tmod b))
  | .and => some (.int k (k.wrap ((BitVec.ofInt k.bits a &&& BitVec.ofInt k.bits b).toNat)))
  | .or => some (.int k (k.wrap ((BitVec.ofInt k.bits a ||| BitVec.ofInt k.bits b).toNat)))
  | .xor => some (.int k (k.wrap ((BitVec.ofInt k.bits a ^^^ BitVec.ofInt k.bits b).toNat)))
  | .andNot => some (.int k (k.wrap ((BitVec.ofInt k.bits a &&& ~~~(BitVec.ofInt k.bits b)).toNat)))
  | .eql => some (.bool (a == b))
  | .neq => some (.bool (a != b))
  | .lss => some (.bool (decide (a < b)))
  | .leq => some (.bool (decide (a ≤ b)))
  | .gtr => some (.bool (decide (a > b)))
  | .geq => some (.bool (decide (a ≥ b)))
  | _ => none

def shI (op : BinOp) (k : IntKind) (a b : Int) : Option PV :=
  if b < 0 then none else
  match op with
  | .shl => some (.int k (k.wrap (a * 2 ^ (min b.toNat k.bits))))
  | .shr => some (.int k (a.fdiv (2 ^ (min b.toNat k.bits))))
  | _ => none

def isIntT (P : Program) (t : TypeId) : Bool := match P.underlying t with | some (.int _) => true | _ => false
/-- A struct of two integers that may be compared. -/
def pairT (P : Program) (t : TypeId) : Bool :=
  match P.underlying t with
  | some (.struct fs) =>
    match fs.toList with
    | [f0, f1] => decide (f0.name ≠ "_") && (decide (f1.name ≠ "_") && (f0.offset == 0 && (f1.offset == 1 && (isIntT P f0.type && (isIntT P f1.type && (!P.stoodInHeld t && !P.eqGuardType P.depth t))))))
    | _ => false
  | _ => false
def isBoolT (P : Program) (t : TypeId) : Bool := match P.underlying t with | some .bool => true | _ => false

def isStrT (P : Program) (t : TypeId) : Bool := match P.underlying t with | some .string => true | _ => false
/-- Are two texts the same? -/
def sB (l : List UInt8) : ByteArray := ⟨l.toArray⟩
def strEq (a b : ByteArray) : Bool := a.data.toList == b.data.toList

def isSliceT (P : Program) (t : TypeId) : Bool := match P.underlying t with | some (.slice _) => true | _ => false

def binP (P : Program) (op : BinOp) (t : TypeId) (x y : PV) : Option PV :=
  match x, y with
  | .int k a, .int k' b =>
    match op with
    | .shl => shI .shl k a b
    | .shr => shI .shr k a b
    | op => if k = k' then binI op k a b else none
  | .bool a, .bool b =>
    match op with
    | .eql => if isBoolT P t then some (.bool (a == b)) else none
    | .neq => if isBoolT P t then some (.bool (!(a == b))) else none
    | _ => none
  | .nilsl, .nilsl =>
    match op with
    | .eql => if isSliceT P t then some (.bool true) else none
    | .neq => if isSliceT P t then some (.bool false) else none
    | _ => none
  | .sl _ _ _, .nilsl =>
    match op with
    | .eql => if isSliceT P t then some (.bool false) else none
    | .neq => if isSliceT P t then some (.bool true) else none
    | _ => none
  | .agg [.int k a, .int l b], .agg [.int k' a', .int l' b'] =>
    match op with
    | .eql => if pairT P t = true ∧ k = k' ∧ l = l' then some (.bool (a == a' && b == b')) else none
    | .neq => if pairT P t = true ∧ k = k' ∧ l = l' then some (.bool (!(a == a' && b == b'))) else none
    | _ => none
  | .str a, .str b =>
    match op with
    | .add => if a.size + b.size ≤ 4611686018427387904 then some (.str (a ++ b)) else none
    | .eql => some (.bool (strEq a b))
    | .neq => some (.bool (!(strEq a b)))
    | _ => none
  | _, _ => none

def unP (op : UnOp) (x : PV) : Option PV :=
  match op, x with
  | .neg, .int k n => some (.int k (k.wrap (0 - n)))
  | .xor, .int k n => some (.int k (k.wrap ((BitVec.ofInt k.bits (if k.signed then -1 else k.max) ^^^ BitVec.ofInt k.bits n).toNat)))
  | .not, .bool b => some (.bool !b)
  | _, _ => none

def pickP (c a b : PV) : Option PV := match c with | .bool t => some (bif t then a else b) | _ => none

def convP (P : Program) (src dst : TypeId) (x : PV) : Option PV :=
  match P.underlying src, P.underlying dst, x with
  | some (.int _), some (.int k), .int _ n => some (.int k (k.wrap n))
  | some (.int _), some .string, .int _ n => if 0 ≤ n ∧ n < 128 then some (.str (sB [UInt8.ofNat n.toNat])) else none
  | _, _, _ => none

/-- Bytes in a row, as a text. -/
def bytesP : List PV → Option (List Int)
  | [] => some []
  | .int .u8 n :: l => (bytesP l).map fun ns => n :: ns
  | _ :: _ => none
def strOf (ns : List Int) : ByteArray := ns.foldl (fun r n => r.push (UInt8.ofNat n.toNat)) ByteArray.empty
def bytesT (P : Program) (t : TypeId) : Bool := match P.underlying t with | some (.slice e) => (match P.underlying e, P.info? e with | some (.int .u8), some i => i.size == 1 | _, _ => false) | _ => false

def isAggT (P : Program) (t : TypeId) : Option Bool :=
  match P.underlying t with
  | some (.struct _) => some true
  | some (.array _ _) => some true
  | some _ => some false
  | none => none

def sizeT (P : Program) (t : TypeId) : Option Nat := (P.info? t).map (·.size)

def zeroCellsT (P : Program) (t : TypeId) : Option (List PV) :=
  match P.info? t with
  | some i => match i.zero with
    | some z => if z.cells.toList.all cells1 then some (z.cells.toList.map ofV1) else none
    | none => none
  | none => none

def elemT (P : Program) (t : TypeId) : Option TypeId := match P.underlying t with | some (.slice e) => some e | _ => none

def loadP (P : Program) (t : TypeId) (a : PV) (h : PHeap) : Option PV :=
  match a with
  | .ptr id off =>
    match isAggT P t with
    | some false => (cellsAt h id)[off]?
    | some true =>
      match sizeT P t with
      | some n => if off + n ≤ (cellsAt h id).length then some (.agg (((cellsAt h id).drop off).take n)) else none
      | none => none
    | none => none
  | _ => none

def setCells {α : Type} (cs : List α) (off : Nat) : List α → List α
  | [] => cs
  | v :: vs => setCells (cs.set off v) (off + 1) vs

def storeP (P : Program) (t : TypeId) (a v : PV) (h : PHeap) : Option PHeap :=
  match a with
  | .ptr id off =>
    match h[id]?, v.cells, sizeT P t with
    | some (.own e c), some vs, some n => if vs.length = n ∧ off + vs.length ≤ c.length then some (h.set id (.own e (setCells c off vs))) else none
    | _, _, _ => none
  | _ => none

def ptrP (x : PV) : Option PV := match x with | .ptr id off => some (.ptr id off) | _ => none

def fieldAddrP (P : Program) (s : TypeId) (x : PV) (f : Nat) : Option PV :=
  match x, P.underlying s with
  | .ptr id off, some (.struct fs) =>
    match fs[f]? with
    | some fd => if sizeT P fd.type = some 0 ∨ sizeT P fd.type = none then none else some (.ptr id (off + fd.offset))
    | none => none
  | _, _ => none

def partP (P : Program) (t : TypeId) (cs : List PV) (off : Nat) : Option PV :=
  match isAggT P t with
  | some false => cs[off]?
  | some true =>
    match sizeT P t with
    | some n => some (.agg ((cs.drop off).take n))
    | none => none
  | none => none

def fieldP (P : Program) (s : TypeId) (x : PV) (f : Nat) : Option PV :=
  match x, P.underlying s with
  | .agg cs, some (.struct fs) => match fs[f]? with | some fd => partP P fd.type cs fd.offset | none => none
  | _, _ => none

def indexAddrP (P : Program) (t : TypeId) (x i : PV) : Option PV :=
  match P.underlying t, x, i with
  | some (.slice e), .sl id off len, .int _ n =>
    match sizeT P e with
    | some s => if 0 ≤ n ∧ n < (len : Int) then some (.ptr id (off + n.toNat * s)) else none
    | none => none
  | some (.array len e), .ptr id off, .int _ n =>
    match sizeT P e with
    | some s => if 0 ≤ n ∧ n < (len : Int) then some (.ptr id (off + n.toNat * s)) else none
    | none => none
  | _, _, _ => none

def indexP (P : Program) (t : TypeId) (x i : PV) : Option PV :=
  match P.underlying t, x, i with
  | some (.array len e), .agg cs, .int _ n =>
    match sizeT P e with
    | some s => if 0 ≤ n ∧ n < (len : Int) then partP P e cs (n.toNat * s) else none
    | none => none
  | some .string, .str s, .int _ n => if 0 ≤ n ∧ n < (s.size : Int) then (s.data.toList[n.toNat]?).map fun b => .int .u8 b.toNat else none
  | _, _, _ => none

def lenP (P : Program) (t : TypeId) (x : PV) : Option PV :=
  match P.underlying t, x with
  | some (.slice _), .sl _ _ n => some (.int .i64 n)
  | some (.slice _), .nilsl => some (.int .i64 0)
  | some .string, .str s => some (.int .i64 s.size)
  | _, _ => none

def maxP2 (x y : PV) : Option PV := match x, y with | .int k a, .int _ b => some (.int k (if b > a then b else a)) | _, _ => none
def minP2 (x y : PV) : Option PV := match x, y with | .int k a, .int _ b => some (.int k (if b < a then b else a)) | _, _ => none

def foldP (f : PV → PV → Option PV) (x : PV) : List PV → Option PV
  | [] => some x
  | y :: ys => (f x y).bind fun z => foldP f z ys

/-- The cells of the elements that are appended. -/
def srcP (h : PHeap) (size : Nat) : PV → Option (Nat × List PV)
  | .nilsl => some (0, [])
  | .sl id off n => if off + n * size ≤ (cellsAt h id).length then some (n, ((cellsAt h id).drop off).take (n * size)) else none
  | _ => none

def smallT (P : Program) (t : TypeId) : Bool :=
  match P.info? t with
  | some i => match i.zero with
    | some z => decide (i.bytes ≤ 256 ∧ z.cells.size = i.size ∧ 0 < i.size)
    | none => false
  | none => false

def appendP (P : Program) (t t2 : TypeId) (s x : PV) (h : PHeap) : Option (PV × PHeap) :=
  match elemT P t with
  | none => none
  | some e =>
    match sizeT P e with
    | none => none
    | some size =>
      if t2 != t || !(smallT P e) then none else
      (srcP h size x).bind fun p =>
        match s with
        | .nilsl => if p.1 = 0 then some (.nilsl, h) else if p.1 ≤ 2 ^ 36 then some (.sl h.length 0 p.1, h ++ [.own size p.2]) else none
        | .sl id 0 len =>
          match h[id]? with
          | some (.own es c) => if es = size ∧ len * size = c.length ∧ len + p.1 ≤ 2 ^ 36 then some (.sl h.length 0 (len + p.1), h.set id .dead ++ [.own size (c ++ p.2)]) else none
          | _ => none
        | _ => none

def repeatCells (z : List PV) : Nat → List PV
  | 0 => []
  | n + 1 => z ++ repeatCells z n

def makeP (P : Program) (t : TypeId) (l c : PV) (h : PHeap) : Option (PV × PHeap) :=
  match elemT P t, l, c with
  | some e, .int .i64 n, .int .i64 m =>
    match sizeT P e, zeroCellsT P e with
    | some size, some z => if smallT P e && decide (z.length = size ∧ 0 < size ∧ 0 ≤ n ∧ n ≤ m ∧ m ≤ 2 ^ 36) then some (.sl h.length 0 n.toNat, h ++ [.own size (repeatCells z n.toNat)]) else none
    | _, _ => none
  | _, _, _ => none

def fillP (size : Nat) (cs : List PV) : List (Nat × PV) → Option (List PV)
  | [] => some cs
  | (i, v) :: rest =>
    match v.cells with
    | some vs => if vs.length = size ∧ i * size + vs.length ≤ cs.length then fillP size (setCells cs (i * size) vs) rest else none
    | none => none

def buildSliceP (P : Program) (t : TypeId) (len : Nat) (parts : List (Nat × PV)) (h : PHeap) : Option (PV × PHeap) :=
  match elemT P t with
  | none => none
  | some e =>
    match sizeT P e, zeroCellsT P e with
    | some size, some z => if z.length = size ∧ 0 < size ∧ len * size ≤ 16777216 then (fillP size (repeatCells z len) parts).map fun cs => (.sl h.length 0 len, h ++ [.own size cs]) else none
    | _, _ => none

def boundP (len : Nat) (d : Nat) : Option PV → Option Nat
  | none => some d
  | some (.int _ n) => if 0 ≤ n ∧ n ≤ (len : Int) then some n.toNat else none
  | some _ => none

/-- A slice of bytes turned into a text. -/
def bstrP (P : Program) (s d : TypeId) (x : PV) (h : PHeap) : Option PV :=
  if bytesT P s = true ∧ isStrT P d = true then
    match x with
    | .nilsl => some (.str ByteArray.empty)
    | .sl id off len => if off + len ≤ (cellsAt h id).length ∧ eszAt h id = 1 then (bytesP (((cellsAt h id).drop off).take len)).map fun ns => .str (strOf ns) else none
    | _ => none
  else none

def sliceP (P : Program) (t : TypeId) (x : PV) (lo hi : Option PV) (h : PHeap) : Option PV :=
  match elemT P t, x with
  | some e, .sl id off len =>
    match sizeT P e with
    | some size =>
      if eszAt h id = size ∧ 0 < size then
        (boundP len len hi).bind fun b => (boundP b 0 lo).bind fun a => some (.sl id (off + a * size) (b - a))
      else none
    | none => none
  | some e, .nilsl => if (sizeT P e).isSome then (boundP 0 0 hi).bind fun b => (boundP b 0 lo).bind fun _ => some .nilsl else none
  | none, .str s => if isStrT P t = true then (boundP s.size s.size hi).bind fun b => (boundP b 0 lo).bind fun a => some (.str (s.extract a b)) else none
  | _, _ => none

def extractP (x : PV) (i : Nat) : Option PV := match x with | .tup l => l[i]? | _ => none

def allocP (P : Program) (t : TypeId) (h : PHeap) : Option (PV × PHeap) :=
  (zeroCellsT P t).map fun z => (.ptr h.length 0, h ++ [.own 1 z])

def boxP (v : PV) (h : PHeap) : Option (PV × PHeap) := v.cells.map fun z => (.ptr h.length 0, h ++ [.own 1 z])

def fillS (P : Program) (fs : Array Field) (cs : List PV) : List (Nat × PV) → Option (List PV)
  | [] => some cs
  | (i, v) :: rest =>
    match fs[i]?, v.cells with
    | some fd, some vs => if sizeT P fd.type = some vs.length ∧ fd.offset + vs.length ≤ cs.length then fillS P fs (setCells cs fd.offset vs) rest else none
    | _, _ => none

def buildP (P : Program) (t : TypeId) (parts : List (Nat × PV)) : Option PV :=
  match P.underlying t, zeroCellsT P t with
  | some (.struct fs), some z => if fs.toList.all fun f => (sizeT P f.type).isSome then (fillS P fs z parts).map .agg else none
  | some (.array _ e), some z =>
    match sizeT P e with
    | some size => (fillP size z parts).map .agg
    | none => none
  | _, _ => none

/-- The cells of a key. -/
def cellsK : List PV → Option (List Value)
  | [] => some []
  | .int k n :: l => (cellsK l).map fun vs => .int k n :: vs
  | _ :: _ => none

/-- A map's key, as the machine's value: an integer, or a struct of integers. -/
def keyV : PV → Option Value
  | .int k n => some (.int k n)
  | .agg l => (cellsK l).map fun vs => .agg vs.toArray
  | _ => none

/-- Two cells that are the same. -/
def eq1 : PV → PV → Bool
  | .int k n, .int k' n' => decide (k = k') && decide (n = n')
  | _, _ => false
def eqL : List PV → List PV → Bool
  | [], [] => true
  | a :: as, b :: bs => eq1 a b && eqL as bs
  | _, _ => false
def eqK : PV → PV → Bool
  | .int k n, .int k' n' => eq1 (.int k n) (.int k' n')
  | .agg l, .agg l' => eqL l l'
  | _, _ => false

def findM : List (PV × PV) → PV → Option PV
  | [], _ => none
  | p :: l, k => bif eqK p.1 k then some p.2 else findM l k

def putM : List (PV × PV) → PV → PV → List (PV × PV)
  | [], k, v => [(k, v)]
  | p :: l, k, v => bif eqK p.1 k then (p.1, v) :: l else p :: putM l k v

/-- Of what type of keys does this speak? -/
def keyedB (P : Program) (kt : TypeId) : Bool :=
  match P.underlying kt with
  | some (.int _) => true
  | some (.array _ _) => P.keyTypeAt 8 kt && P.tiled 8 kt
  | some (.struct _) => P.keyTypeAt 8 kt && P.tiled 8 kt
  | _ => false

def isKeyP (P : Program) (kt : TypeId) (k : PV) : Bool := match keyV k with | some v => (keyOf P kt v).isSome | none => false

def zero1 (P : Program) (t : TypeId) : Option PV :=
  match P.info? t with
  | some i => match i.zero with
    | some z => if cells1 z then some (ofV1 z) else none
    | none => none
  | none => none

def mapAt (h : PHeap) (id : Nat) : Option (List (PV × PV)) := match h[id]? with | some (.mp es) => some es | _ => none

def keysB (P : Program) (kt : TypeId) (es : List (PV × PV)) (k : PV) : Bool := keyedB P kt && isKeyP P kt k && es.all fun p => isKeyP P kt p.1

def foundP (ok : Bool) (z : PV) : Option PV → PV
  | some v => bif ok then .tup [v, .bool true] else v
  | none => bif ok then .tup [z, .bool false] else z

def makeMapP (r : Option PV) (h : PHeap) : Option (PV × PHeap) := match r with | none => some (.mapv h.length, h ++ [.mp []]) | some _ => none

def lookupP (P : Program) (t : TypeId) (m k : PV) (ok : Bool) (h : PHeap) : Option PV :=
  match P.underlying t, m with
  | some (.map kt et), .mapv id =>
    match mapAt h id, zero1 P et with
    | some es, some z => bif keysB P kt es k then some (foundP ok z (findM es k)) else none
    | _, _ => none
  | _, _ => none

def updateP (P : Program) (t : TypeId) (m k v : PV) (h : PHeap) : Option PHeap :=
  match P.underlying t, m with
  | some (.map kt _), .mapv id =>
    match mapAt h id with
    | some es => bif keysB P kt es k && v.oneCell then some (h.set id (.mp (putM es k v))) else none
    | none => none
  | _, _ => none

/-- Functions without a text, for which the model stands in: a byte sought in a text, and counted. -/
def isExt (P : Program) (f : FuncId) : Bool := match P.funcs[f]? with | some fn => fn.body.isNone | none => false
def extB (fn : Func) (nm : String) : Bool := fn.body.isNone && (fn.name == nm && fn.origin == "")
def extP (P : Program) (f : FuncId) (args : List PV) : Option PV :=
  match P.funcs[f]?, args with
  | some fn, [.str s, .int .u8 c] =>
    bif extB fn "internal/bytealg.IndexByteString" then some (.int .i64 (Lib.indexByte s.data.toList c.toNat.toUInt8))
    else bif extB fn "internal/bytealg.CountString" then some (.int .i64 (Lib.countByte s.data.toList c.toNat.toUInt8)) else none
  | _, _ => none

/-- The operations, as one bundle: the plain forms are stated over any bundle, so that no equation has to look into them. -/
structure Prim where
  pick : PV → PV → PV → Option PV
  alloc : TypeId → PHeap → Res
  box : PV → PHeap → Res
  build : TypeId → List (Nat × PV) → Option PV
  buildSlice : TypeId → Nat → List (Nat × PV) → PHeap → Res
  load : TypeId → PV → PHeap → Option PV
  store : TypeId → PV → PV → PHeap → Option PHeap
  ptr : PV → Option PV
  bin : BinOp → TypeId → PV → PV → Option PV
  un : UnOp → PV → Option PV
  conv : TypeId → TypeId → PV → Option PV
  make : TypeId → PV → PV → PHeap → Res
  slice : TypeId → PV → Option PV → Option PV → PHeap → Option PV
  fieldAddr : TypeId → PV → Nat → Option PV
  field : TypeId → PV → Nat → Option PV
  indexAddr : TypeId → PV → PV → Option PV
  index : TypeId → PV → PV → Option PV
  extract : PV → Nat → Option PV
  len : TypeId → PV → Option PV
  append : TypeId → TypeId → PV → PV → PHeap → Res
  max : PV → List PV → Option PV
  min : PV → List PV → Option PV
  makeMap : Option PV → PHeap → Res
  lookup : TypeId → PV → PV → Bool → PHeap → Option PV
  update : TypeId → PV → PV → PV → PHeap → Option PHeap
  clos : FuncId → List PV → Option PV
  bstr : TypeId → TypeId → PV → PHeap → Option PV
  ext : FuncId → List PV → Option PV

def std (P : Program) : Prim where
  pick := pickP
  alloc := allocP P
  box := boxP
  build := buildP P
  buildSlice := buildSliceP P
  load := loadP P
  store := storeP P
  ptr := ptrP
  bin := binP P
  un := unP
  conv := convP P
  make := makeP P
  slice := sliceP P
  fieldAddr := fieldAddrP P
  field := fieldP P
  indexAddr := indexAddrP P
  index := indexP P
  extract := extractP
  len := lenP P
  append := appendP P
  max := foldP maxP2
  min := foldP minP2
  makeMap := makeMapP
  lookup := lookupP P
  update := updateP P
  clos := closP
  bstr := bstrP P
  ext := extP P

structure Ctx where
  P : Program
  glob : Nat → PV
  call : FuncId → List PV → PHeap → Res
  kl : Nat → List Nat
  lf : Nat
  p : Prim
  yld : Nat → List PV → PHeap → Res

def pv (h : PHeap) (x : Option PV) : Option (PV × PHeap) := x.map fun v => (v, h)

def callP (c : Ctx) (e : Operand → PV) (cl : Call) (h : PHeap) : Res :=
  match cl.callee with
  | .value (.func f) => bif isExt c.P f then pv h (c.p.ext f (cl.args.toList.map e)) else c.call f (cl.args.toList.map e) h
  | .value (.tmp t) => vcall c.call c.yld (e (.tmp t)) (cl.args.toList.map e) h
  | .builtin .len =>
    match cl.argTypes.toList, cl.args.toList with
    | t :: _, x :: _ => pv h (c.p.len t (e x))
    | _, _ => none
  | .builtin .append =>
    match cl.argTypes.toList, cl.args.toList with
    | [t, t2], [s, x] => c.p.append t t2 (e s) (e x) h
    | _, _ => none
  | .builtin .max =>
    match cl.args.toList with
    | x :: ys => pv h (c.p.max (e x) (ys.map e))
    | _ => none
  | .builtin .min =>
    match cl.args.toList with
    | x :: ys => pv h (c.p.min (e x) (ys.map e))
    | _ => none
  | _ => none

/-- One operation: the value that it yields, and the heap behind it. -/
def pop (c : Ctx) (e : Operand → PV) (o : Op) (h : PHeap) : Res :=
  match o with
  | .move x => some (e x, h)
  | .assign x => some (e x, h)
  | .pick x a b => pv h (c.p.pick (e x) (e a) (e b))
  | .alloc t => c.p.alloc t h
  | .box _ x => c.p.box (e x) h
  | .build t parts => pv h (c.p.build t (parts.toList.map fun p => (p.1, e p.2)))
  | .buildSlice t len parts => c.p.buildSlice t len (parts.toList.map fun p => (p.1, e p.2)) h
  | .load t a => pv h (c.p.load t (e a) h)
  | .store t a v => (c.p.store t (e a) (e v) h).map fun h' => (.tup [], h')
  | .nilCheck x => pv h (c.p.ptr (e x))
  | .binOp op t x y _ => pv h (c.p.bin op t (e x) (e y))
  | .unOp op _ x => pv h (c.p.un op (e x))
  | .convert s d x => bif isSliceT c.P s then pv h (c.p.bstr s d (e x) h) else pv h (c.p.conv s d (e x))
  | .makeSlice t l m => c.p.make t (e l) (e m) h
  | .slice t x lo hi mx => match mx with | none => pv h (c.p.slice t (e x) (lo.map e) (hi.map e) h) | some _ => none
  | .fieldAddr s x f => pv h (c.p.fieldAddr s (e x) f)
  | .field s x f => pv h (c.p.field s (e x) f)
  | .indexAddr t x i => pv h (c.p.indexAddr t (e x) (e i))
  | .index t x i => pv h (c.p.index t (e x) (e i))
  | .extract x i => pv h (c.p.extract (e x) i)
  | .makeFunc f first caps => match f, first.toList with | .func g, [] => pv h (c.p.clos g (caps.toList.map e)) | _, _ => none
  | .makeMap _ r => c.p.makeMap (r.map e) h
  | .lookup t m k ok => pv h (c.p.lookup t (e m) (e k) ok h)
  | .mapUpdate t m k v => (c.p.update t (e m) (e k) (e v) h).map fun h' => (.tup [], h')
  | .call cl => callP c e cl h
  | _ => none

/-- Is an operation one that leaves the heap alone and is no call? -/
def quietOp : Op → Bool
  | .move _ | .assign _ | .pick _ _ _ | .load _ _ | .nilCheck _ | .binOp _ _ _ _ _ | .unOp _ _ _ | .convert _ _ _ | .slice _ _ _ _ _ | .fieldAddr _ _ _ | .field _ _ _
  | .indexAddr _ _ _ | .index _ _ _ | .extract _ _ | .makeFunc _ _ _ | .build _ _ | .lookup _ _ _ _ => true
  | .call { callee := .builtin .len, .. } => true
  | .call { callee := .builtin .max, .. } => true
  | .call { callee := .builtin .min, .. } => true
  | _ => false

/-- Is it, besides, one that does not even look at the heap? -/
def pureOp (P : Program) : Op → Bool
  | .move _ | .assign _ | .pick _ _ _ | .nilCheck _ | .binOp _ _ _ _ _ | .unOp _ _ _ | .fieldAddr _ _ _ | .field _ _ _
  | .indexAddr _ _ _ | .index _ _ _ | .extract _ _ | .makeFunc _ _ _ | .build _ _ => true
  | .convert s _ _ => !(isSliceT P s)
  | .slice t _ _ _ _ => isStrT P t
  | .call { callee := .builtin .len, .. } => true
  | .call { callee := .builtin .max, .. } => true
  | .call { callee := .builtin .min, .. } => true
  | _ => false

/-- A region whose order is drawn, and whose operations change the heap: each operation in the text's order is either one that looks at nothing but values, or the only one that is ready. -/
def mixGo (P : Program) (all : Array Oper) : Nat → List Oper → Array Bool → Bool
  | _, [], listed => (Region.ready .any all listed).isEmpty
  | i, o :: rest, listed => ((pureOp P o.op && Region.free .any all listed i && (Region.ready .any all listed).contains i) || Region.ready .any all listed == [i]) && mixGo P all (i + 1) rest (listed.setIfInBounds i true)

def mixB (P : Program) (ops : List Oper) : Bool := Region.noSelect ops.toArray && mixGo P ops.toArray 0 ops (Array.replicate ops.length false)

/-- Two plain values that are the same. -/
def plain1 : PV → PV → Bool
  | .int k n, .int k' n' => decide (k = k') && decide (n = n')
  | .bool a, .bool b => decide (a = b)
  | .ptr i o, .ptr j q => decide (i = j) && decide (o = q)
  | .mapv i, .mapv j => decide (i = j)
  | .str a, .str b => strEq a b
  | .nilsl, .nilsl => true
  | .sl i o l, .sl j q m => decide (i = j) && decide (o = q) && decide (l = m) && (decide (o = 0) || decide (0 < l))
  | _, _ => false
def plainL : List PV → List PV → Bool
  | [], [] => true
  | a :: as, b :: bs => plain1 a b && plainL as bs
  | _, _ => false
def plainEq : PV → PV → Bool
  | .int k n, .int k' n' => decide (k = k') && decide (n = n')
  | .bool a, .bool b => decide (a = b)
  | .mapv i, .mapv j => decide (i = j)
  | .str a, .str b => strEq a b
  | .nilsl, .nilsl => true
  | .sl i o l, .sl j q m => decide (i = j) && decide (o = q) && decide (l = m) && (decide (o = 0) || decide (0 < l))
  | .agg l, .agg l' => plainL l l'
  | _, _ => false

/-- Loads that were taken early: which operation, of what type, at what address, what came. -/
abbrev Cks := List (Nat × TypeId × PV × PV)

/-- An operation that may be taken ahead of all others: it looks at values alone, or loads. -/
def earlyB (P : Program) (all : Array Oper) (listed : Array Bool) (i : Nat) (o : Oper) : Bool :=
  o.guard.isNone && (pureOp P o.op || (match o.op with | .load _ _ => true | _ => false)) && Region.free .any all listed i && (Region.ready .any all listed).contains i

def earlyGo (P : Program) (all : Array Oper) : Nat → List Oper → Array Bool → List Nat × List Nat
  | _, [], _ => ([], [])
  | i, o :: l, listed =>
    bif earlyB P all listed i o then (i :: (earlyGo P all (i + 1) l (listed.setIfInBounds i true)).1, (earlyGo P all (i + 1) l (listed.setIfInBounds i true)).2)
    else ((earlyGo P all (i + 1) l listed).1, i :: (earlyGo P all (i + 1) l listed).2)

def earlyOkB (P : Program) (all : Array Oper) : List Nat → Array Bool → Bool
  | [], _ => true
  | i :: E, listed => (match all[i]? with | some o => earlyB P all listed i o | none => false) && earlyOkB P all E (listed.setIfInBounds i true)

def markAll : List Nat → Array Bool → Array Bool
  | [], listed => listed
  | i :: E, listed => markAll E (listed.setIfInBounds i true)

def loadOp (o : Op) : Bool := match o with | .load _ _ => true | _ => false

/-- (number, held): a load that is held is taken while others wait. -/
def lateOkB (P : Program) (all : Array Oper) : List (Nat × Bool) → Array Bool → Bool
  | [], listed => (Region.ready .any all listed).isEmpty
  | i :: L, listed => (match all[i.1]? with
      | some o => bif i.2 then loadOp o.op && Region.free .any all listed i.1 && (Region.ready .any all listed).contains i.1 else (pureOp P o.op && Region.free .any all listed i.1 && (Region.ready .any all listed).contains i.1) || Region.ready .any all listed == [i.1]
      | none => false) && lateOkB P all L (listed.setIfInBounds i.1 true)

/-- Behind them: what is pure ahead of the rest, and else the only one that is ready. -/
def lateGo (P : Program) (all : Array Oper) : Nat → Array Bool → List (Nat × Bool)
  | 0, _ => []
  | n + 1, listed =>
    match (Region.ready .any all listed).find? (fun i => match all[i]? with | some o => pureOp P o.op && Region.free .any all listed i | none => false) with
    | some i => (i, false) :: lateGo P all n (listed.setIfInBounds i true)
    | none =>
      match Region.ready .any all listed with
      | [i] => (i, false) :: lateGo P all n (listed.setIfInBounds i true)
      | rd =>
        match rd.find? (fun i => match all[i]? with | some o => loadOp o.op && Region.free .any all listed i | none => false) with
        | some i => (i, true) :: lateGo P all n (listed.setIfInBounds i true)
        | none => []

/-- Of a region that writes to memory only what is pure is taken ahead. -/
def storesB (ops : List Oper) : Bool := ops.any fun o => match o.op with | .store _ _ _ => true | .mapUpdate _ _ _ _ => true | _ => false
def pureGo (P : Program) (all : Array Oper) : Nat → List Oper → Array Bool → List Nat
  | _, [], _ => []
  | i, o :: l, listed =>
    bif earlyB P all listed i o && pureOp P o.op then i :: pureGo P all (i + 1) l (listed.setIfInBounds i true)
    else pureGo P all (i + 1) l listed
def heldE (P : Program) (ops : List Oper) : List Nat :=
  bif storesB ops then pureGo P ops.toArray 0 ops (Array.replicate ops.length false) else (earlyGo P ops.toArray 0 ops (Array.replicate ops.length false)).1
def heldL (P : Program) (ops : List Oper) : List (Nat × Bool) := lateGo P ops.toArray ops.length (markAll (heldE P ops) (Array.replicate ops.length false))

/-- A region whose order is drawn, that changes the heap, and loads: the loads first, and held. -/
def mix2B (P : Program) (ops : List Oper) : Bool :=
  Region.noSelect ops.toArray && earlyOkB P ops.toArray (heldE P ops) (Array.replicate ops.length false) && lateOkB P ops.toArray (heldL P ops) (markAll (heldE P ops) (Array.replicate ops.length false)) && ((heldE P ops).length + (heldL P ops).length == ops.length)

/-! ### a row of texts that is built in a region whose order is drawn, and looked into once -/
/-- An operation on two values, the second one being the text that was looked up: its number, slot, kind, type, first operand's slot, the type of the second. -/
structure Cat where
  i : Nat
  d : Tmp
  op : BinOp
  t : TypeId
  u : Tmp
  t2 : TypeId
/-- The three operations (built, the place in it, what is loaded), their types and slots, the place's operand, the texts; and what is done with the text at once, if anything. -/
structure Flt where
  b : Nat
  x : Nat
  l : Nat
  t : TypeId
  te : TypeId
  tb : Tmp
  tx : Tmp
  tl : Tmp
  iu : Tmp
  cs : List ByteArray
  k : Option Cat

def asBuild (o : Oper) : Option (Tmp × TypeId × Nat × Array (Nat × Operand)) :=
  match o.op, o.dst, o.guard with
  | .buildSlice t n parts, some d, none => some (d, t, n, parts)
  | _, _, _ => none
def asIdx (o : Oper) : Option (Tmp × TypeId × Tmp × Tmp) :=
  match o.op, o.dst, o.guard with
  | .indexAddr t (.tmp u) (.tmp i), some d, none => some (d, t, u, i)
  | _, _, _ => none
def asLoad (o : Oper) : Option (Tmp × TypeId × Tmp) :=
  match o.op, o.dst, o.guard with
  | .load t (.tmp u), some d, none => some (d, t, u)
  | _, _, _ => none
def asBin (o : Oper) : Option (Tmp × BinOp × TypeId × Tmp × Tmp × TypeId) :=
  match o.op, o.dst, o.guard with
  | .binOp b t (.tmp u) (.tmp l) t2, some d, none => some (d, b, t, u, l, t2)
  | _, _, _ => none
def constE : Operand → PV
  | .const v => ofV v
  | _ => .junk
def constB (l : List (Nat × Operand)) : Bool := l.all fun p => match p.2 with | .const _ => true | _ => false
def textsOf : List (Nat × Operand) → Option (List ByteArray)
  | [] => some []
  | p :: l => match p.2 with | .const (.string s) => (textsOf l).map (s :: ·) | _ => none
def strsB : List PV → List ByteArray → Bool
  | [], [] => true
  | .str s :: l, t :: ts => strEq s t && strsB l ts
  | _, _ => false
def catAt (ops : List Oper) (tl : Tmp) : Option Cat :=
  (List.range ops.length).findSome? fun i => (ops[i]?.bind asBin).bind fun B => bif B.2.2.2.2.1 == tl then some ⟨i, B.1, B.2.1, B.2.2.1, B.2.2.2.1, B.2.2.2.2.2⟩ else none
def catIs (ops : List Oper) (f : Flt) : Bool :=
  match f.k with
  | none => true
  | some k => (match ops[k.i]?.bind asBin with | some B => B.1 == k.d && decide (B.2.1 = k.op) && B.2.2.1 == k.t && B.2.2.2.1 == k.u && B.2.2.2.2.1 == f.tl && B.2.2.2.2.2 == k.t2 | none => false) &&
    k.d != f.tb && k.d != f.tx && k.d != f.tl && k.u != f.tl
def fltAt (ops : List Oper) (b x l : Nat) : Option Flt :=
  (ops[b]?.bind asBuild).bind fun B => (ops[x]?.bind asIdx).bind fun X => (ops[l]?.bind asLoad).bind fun L => (textsOf B.2.2.2.toList).map fun cs =>
    ⟨b, x, l, B.2.1, L.2.1, B.1, X.1, L.1, X.2.2.2, cs, catAt ops L.1⟩
def fltIs (P : Program) (ops : List Oper) (f : Flt) : Bool :=
  (match ops[f.b]?.bind asBuild with
    | some B => B.1 == f.tb && B.2.1 == f.t && B.2.2.1 == f.cs.length && constB B.2.2.2.toList && (match buildSliceP P f.t f.cs.length (B.2.2.2.toList.map fun p => (p.1, constE p.2)) [] with | some (_, [.own 1 cells]) => strsB cells f.cs | _ => false)
    | none => false) &&
  (match ops[f.x]?.bind asIdx with | some X => X.1 == f.tx && X.2.1 == f.t && X.2.2.1 == f.tb && X.2.2.2 == f.iu | none => false) &&
  (match ops[f.l]?.bind asLoad with | some L => L.1 == f.tl && L.2.1 == f.te && L.2.2 == f.tx | none => false) &&
  isAggT P f.te == some false && f.tb != f.tx && f.tb != f.tl && f.tx != f.tl && catIs ops f
def findFlt (ops : List Oper) : Option Flt :=
  (List.range ops.length).findSome? fun b => (ops[b]?.bind asBuild).bind fun _ => (List.range ops.length).findSome? fun x => (ops[x]?.bind asIdx).bind fun _ => (List.range ops.length).findSome? fun l => fltAt ops b x l
/-- What has come up of the three (and of the fourth), and which comes next. -/
def lst3 (f : Flt) (m : Array Bool) : Array Bool := ((m.setIfInBounds f.b true).setIfInBounds f.x true).setIfInBounds f.l true
def lst (f : Flt) : Nat → Array Bool → Array Bool
  | 0, m => m
  | 1, m => m.setIfInBounds f.b true
  | 2, m => (m.setIfInBounds f.b true).setIfInBounds f.x true
  | 3, m => lst3 f m
  | _, m => match f.k with | some k => (lst3 f m).setIfInBounds k.i true | none => lst3 f m
def nxt (f : Flt) : Nat → Option Nat
  | 0 => some f.b
  | 1 => some f.x
  | 2 => some f.l
  | 3 => f.k.map (·.i)
  | _ => none
def topF (f : Flt) : Nat := match f.k with | some _ => 4 | none => 3
def isF (f : Flt) (i : Nat) : Bool := i == f.b || i == f.x || i == f.l || match f.k with | some k => i == k.i | none => false
/-- All that an operation waits for has come up. -/
def metB (all : Array Oper) (j : Nat) (m : Array Bool) : Bool := match all[j]? with | some o => o.after.toList.all fun e => !Region.binds .any e || m.getD e.on false | none => false
def reachB (all : Array Oper) (f : Flt) (st : Nat) (m : Array Bool) : Bool := (Nat.blt st 2 || metB all f.x (lst f 1 m)) && (Nat.blt st 4 || match f.k with | some k => metB all k.i (lst f 3 m) | none => false)
/-- The others ahead of what is looked up: what is pure, and else the only one that is ready. -/
def fltGo (P : Program) (all : Array Oper) (f : Flt) : Nat → Array Bool → List Nat
  | 0, _ => []
  | n + 1, m =>
    match ((Region.ready .any all m).filter fun i => !isF f i).find? (fun i => match all[i]? with | some o => pureOp P o.op && Region.free .any all m i | none => false) with
    | some i => i :: fltGo P all f n (m.setIfInBounds i true)
    | none =>
      match (Region.ready .any all m).filter fun i => !isF f i with
      | [i] => i :: fltGo P all f n (m.setIfInBounds i true)
      | _ => []
def fltL1 (P : Program) (ops : List Oper) (f : Flt) : List Nat := fltGo P ops.toArray f ops.length (Array.replicate ops.length false)
def fltL2 (P : Program) (ops : List Oper) (f : Flt) : List (Nat × Bool) := lateGo P ops.toArray ops.length (lst f 4 (markAll (fltL1 P ops f) (Array.replicate ops.length false)))
def stepB (P : Program) (all : Array Oper) (f : Flt) (i : Nat) (o : Oper) (st : Nat) (m : Array Bool) : Bool :=
  (Region.ready .any all (lst f st m)).contains i && ((pureOp P o.op && Region.free .any all (lst f st m) i) || (Region.ready .any all (lst f st m)).all fun j => j == i || nxt f st == some j)
def waitsB (all : Array Oper) (j i : Nat) : Bool := match all[j]? with | some ox => ox.after.toList.any fun e => Region.binds .any e && e.on == i | none => false
def regK (all : Array Oper) (f : Flt) (i : Nat) (o : Oper) : Bool := match f.k with | none => true | some k => o.dst != some k.d && i != k.i && (o.dst != some k.u || waitsB all k.i i)
def regB (all : Array Oper) (f : Flt) (i : Nat) (o : Oper) : Bool :=
  o.guard.isNone && o.dst != some f.tb && o.dst != some f.tx && o.dst != some f.tl && i != f.b && i != f.x && i != f.l && (o.dst != some f.iu || waitsB all f.x i) && regK all f i o
def fltOk1 (P : Program) (all : Array Oper) (f : Flt) : List Nat → Array Bool → Bool
  | [], m => Region.ready .any all (lst f 0 m) == [f.b] && Region.ready .any all (lst f 1 m) == [f.x] && Region.ready .any all (lst f 2 m) == [f.l] && (match f.k with | none => true | some k => Region.ready .any all (lst f 3 m) == [k.i])
  | i :: L, m => (match all[i]? with | some o => regB all f i o && (List.range 5).all (fun st => !reachB all f st m || stepB P all f i o st m) | none => false) && fltOk1 P all f L (m.setIfInBounds i true)
def mix3B (P : Program) (ops : List Oper) (f : Flt) : Bool :=
  Region.noSelect ops.toArray && fltIs P ops f && fltOk1 P ops.toArray f (fltL1 P ops f) (Array.replicate ops.length false) &&
    lateOkB P ops.toArray (fltL2 P ops f) (lst f 4 (markAll (fltL1 P ops f) (Array.replicate ops.length false))) && ((fltL1 P ops f).length + topF f + (fltL2 P ops f).length == ops.length)

/-! ### operations that float beside the others of a region whose order is drawn -/
/-- Operations that come up one after the other, whatever the others do: their numbers, and the slots that they look at. -/
abbrev Thr := List (Nat × List Tmp)
/-- Two such rows; the slots that they write; what the first one allocates, and where it is put; what the second one hands on. -/
structure Fl4 where
  t1 : Thr
  t2 : Thr
  o1 : List Tmp
  o2 : List Tmp
  al : Option (TypeId × Tmp)
  out : Option Tmp
def thrOp (o : Op) : Bool := match o with | .alloc _ => true | .buildSlice _ _ _ => true | _ => quietOp o
def Fl4.ids (f : Fl4) (p q : Nat) : List Nat := (f.t1.take p).map (·.1) ++ (f.t2.take q).map (·.1)
def mk4 (f : Fl4) (p q : Nat) (m : Array Bool) : Array Bool := markAll (f.ids p q) m
def nx4 (f : Fl4) (p q j : Nat) : Bool := (match f.t1[p]? with | some x => x.1 == j | none => false) || (match f.t2[q]? with | some x => x.1 == j | none => false)
def met4 (all : Array Oper) (f : Fl4) (p q : Nat) (m : Array Bool) : Bool := (f.ids p q).all fun j => metB all j (mk4 f p q m)
def step4 (P : Program) (all : Array Oper) (f : Fl4) (i : Nat) (held : Bool) (o : Oper) (p q : Nat) (m : Array Bool) : Bool :=
  (Region.ready .any all (mk4 f p q m)).contains i &&
    (bif held then loadOp o.op && Region.free .any all (mk4 f p q m) i
     else (pureOp P o.op && Region.free .any all (mk4 f p q m) i) || (Region.ready .any all (mk4 f p q m)).all fun j => j == i || nx4 f p q j)
def reg4 (all : Array Oper) (f : Fl4) (i : Nat) (o : Oper) : Bool :=
  (f.t1 ++ f.t2).all (fun y => y.1 != i) &&
    match o.dst with
    | none => true
    | some d => !(f.o1.contains d) && !(f.o2.contains d) && (f.t1 ++ f.t2).all fun y => !(y.2.contains d) || waitsB all y.1 i
def stages (f : Fl4) (b : Nat → Nat → Bool) : Bool := (List.range (f.t1.length + 1)).all fun p => (List.range (f.t2.length + 1)).all fun q => b p q
def main4 (P : Program) (all : Array Oper) (f : Fl4) : List (Nat × Bool) → Array Bool → Bool
  | [], m => stages f fun p q => !(met4 all f p q m) || (p == f.t1.length && q == f.t2.length) || (!(Region.ready .any all (mk4 f p q m)).isEmpty && (Region.ready .any all (mk4 f p q m)).all (nx4 f p q))
  | x :: L, m => (match all[x.1]? with
      | some o => reg4 all f x.1 o && stages f fun p q => !(met4 all f p q m) || step4 P all f x.1 x.2 o p q m
      | none => false) && main4 P all f L (m.setIfInBounds x.1 true)
def thrB (all : Array Oper) (t : Thr) (own : List Tmp) : Bool :=
  t.all fun y => match all[y.1]? with | some o => o.guard.isNone && thrOp o.op && (match o.dst with | some d => own.contains d | none => false) | none => false
def alB (all : Array Oper) (f : Fl4) : Bool :=
  match f.al with
  | none => f.t1.isEmpty
  | some (t, d) => match f.t1 with
    | [y] => (match all[y.1]? with | some o => (match o.op with | .alloc t' => t' == t | _ => false) && o.dst == some d | none => false)
    | _ => false
def fl4Ok (all : Array Oper) (f : Fl4) : Bool :=
  thrB all f.t1 f.o1 && thrB all f.t2 f.o2 && f.o1.all (fun d => !(f.o2.contains d)) && alB all f && (match f.out with | none => true | some d => f.o2.contains d)
/-- The others ahead: what is pure, then the only one that is ready, then a load that is held. -/
def mainGo (P : Program) (all : Array Oper) (fl : List Nat) : Nat → Array Bool → List (Nat × Bool)
  | 0, _ => []
  | n + 1, m =>
    match ((Region.ready .any all m).filter fun i => !(fl.contains i)).find? (fun i => match all[i]? with | some o => pureOp P o.op && Region.free .any all m i | none => false) with
    | some i => (i, false) :: mainGo P all fl n (m.setIfInBounds i true)
    | none =>
      match (Region.ready .any all m).filter fun i => !(fl.contains i) with
      | [i] => (i, false) :: mainGo P all fl n (m.setIfInBounds i true)
      | rd =>
        match rd.find? (fun i => match all[i]? with | some o => loadOp o.op && Region.free .any all m i | none => false) with
        | some i => (i, true) :: mainGo P all fl n (m.setIfInBounds i true)
        | none => []
def sc0 (p : PV) : Bool := match p with | .int _ _ => true | .bool _ => true | .str _ => true | _ => false
def sc1 (p : PV) : Bool := match p with | .int _ _ => true | .bool _ => true | .str _ => true | .agg l => l.all sc0 | _ => false
def scalP (p : PV) : PV := bif sc1 p then p else .junk
def tmpsOf (l : List Operand) : List Tmp := l.filterMap fun x => match x with | .tmp t => some t | _ => none
/-- The row's second part: what is built, looked into, and loaded; or what is built, and turned into a text. -/
def find2 (ops : List Oper) : Thr × List Tmp × Option Tmp :=
  match (List.range ops.length).findSome? fun b => (ops[b]?.bind asBuild).bind fun B =>
    (((List.range ops.length).findSome? fun x => (ops[x]?.bind asIdx).bind fun X => bif X.2.2.1 == B.1 then (List.range ops.length).findSome? fun l => (ops[l]?.bind asLoad).bind fun L => bif L.2.2 == X.1 then
        some ([(b, tmpsOf (B.2.2.2.toList.map (·.2))), (x, [X.2.2.1, X.2.2.2]), (l, [L.2.2])], [B.1, X.1, L.1], some L.1) else none else none).or
      ((List.range ops.length).findSome? fun v => ops[v]?.bind fun o => match o.op, o.dst, o.guard with
        | .convert _ _ (.tmp u), some d, none => bif u == B.1 then some ([(b, tmpsOf (B.2.2.2.toList.map (·.2))), (v, [u])], [B.1, d], some d) else none
        | _, _, _ => none)) with
  | some x => x
  | none => ([], [], none)
def find1 (ops : List Oper) : Thr × List Tmp × Option (TypeId × Tmp) :=
  match (List.range ops.length).findSome? fun i => ops[i]?.bind fun o => match o.op, o.dst, o.guard with
    | .alloc t, some d, none => some ([(i, [])], [d], some (t, d))
    | _, _, _ => none with
  | some x => x
  | none => ([], [], none)
def looks4 (o : Op) : Option (List Tmp) :=
  match o with
  | .move x => some (tmpsOf [x])
  | .assign x => some (tmpsOf [x])
  | .binOp _ _ x y _ => some (tmpsOf [x, y])
  | .convert _ _ x => some (tmpsOf [x])
  | .build _ parts => some (tmpsOf (parts.toList.map (·.2)))
  | _ => none
/-- What is done with it at once. -/
def ext4 (ops : List Oper) : Nat → Nat → Thr → List Tmp → Option Tmp → Thr × List Tmp × Option Tmp
  | 0, _, t, own, u => (t, own, u)
  | n + 1, j, t, own, u =>
    match (List.range ops.length).findSome? (fun i => ops[i]?.bind fun o => bif (t.any fun y => y.1 == i) || !(o.after.toList.any fun e => Region.binds .any e && e.on == j) then none else
        match looks4 o.op, o.dst, o.guard with | some l, some d, none => some (i, l, d) | _, _, _ => none) with
    | some y => ext4 ops n y.1 (t ++ [(y.1, y.2.1)]) (own ++ [y.2.2]) (some y.2.2)
    | none => (t, own, u)
def find3 (ops : List Oper) : Thr × List Tmp × Option Tmp :=
  match (find1 ops).1, (find2 ops).1.getLast? with
  | _ :: _, some y => ext4 ops 4 y.1 (find2 ops).1 (find2 ops).2.1 (find2 ops).2.2
  | _, _ => find2 ops
def find4 (ops : List Oper) : Fl4 := ⟨(find1 ops).1, (find3 ops).1, (find1 ops).2.1, (find3 ops).2.1, (find1 ops).2.2, (find3 ops).2.2⟩
def none4 (n : Nat) : Array Bool := Array.replicate n false
def L41 (P : Program) (ops : List Oper) (f : Fl4) : List (Nat × Bool) := mainGo P ops.toArray (f.ids 9 9) ops.length (none4 ops.length)
def m42 (P : Program) (ops : List Oper) (f : Fl4) : Array Bool := mk4 f f.t1.length f.t2.length (markAll ((L41 P ops f).map (·.1)) (none4 ops.length))
def L42 (P : Program) (ops : List Oper) (f : Fl4) : List (Nat × Bool) := lateGo P ops.toArray ops.length (m42 P ops f)
def mix4B (P : Program) (ops : List Oper) (f : Fl4) : Bool :=
  Region.noSelect ops.toArray && fl4Ok ops.toArray f && main4 P ops.toArray f (L41 P ops f) (none4 ops.length) && lateOkB P ops.toArray (L42 P ops f) (m42 P ops f) &&
    ((L41 P ops f).length + f.t1.length + f.t2.length + (L42 P ops f).length == ops.length)
/-- The text that is looked up. -/
def conP (cs : List ByteArray) : PV → Option PV
  | .int _ n => if 0 ≤ n then (cs[n.toNat]?).map .str else none
  | _ => none

def setR (r : List PV) (d : Option Tmp) (v : PV) : List PV := match d with | some d => r.set d v | none => r

def wantV (v : PV) (want : Bool) : Option Bool :=
  match v with
  | .bool b => some (b == want)
  | .tup [] => some false
  | _ => none

/-- Is an operation wanted? Its guard's slot must hold a bool, or nothing. -/
def wantP (ops : List Oper) (r : List PV) (g : Option (Nat × Bool)) : Option Bool :=
  match g with
  | none => some true
  | some (j, want) =>
    match (ops[j]?).bind (·.dst) with
    | none => none
    | some d =>
      match r[d]? with
      | some v => wantV v want
      | none => none

def doOp (c : Ctx) (o : Oper) (g : Bool) (s : St) : Res := bif g then pop c (evA c.glob s.r) o.op s.h else some (.tup [], s.h)

/-- The call of an operation with what follows. -/
def callK (c : Ctx) (e : Operand → PV) (cl : Call) (h : PHeap) (k : PV → PHeap → Res) : Res :=
  match cl.callee with
  | .value (.func f) => bif isExt c.P f then (c.p.ext f (cl.args.toList.map e)).bind fun v => k v h else (c.call f (cl.args.toList.map e) h).bind fun p => k p.1 p.2
  | .value (.tmp t) => (vcall c.call c.yld (e (.tmp t)) (cl.args.toList.map e) h).bind fun p => k p.1 p.2
  | .builtin .len =>
    match cl.argTypes.toList, cl.args.toList with
    | t :: _, x :: _ => (c.p.len t (e x)).bind fun v => k v h
    | _, _ => none
  | .builtin .append =>
    match cl.argTypes.toList, cl.args.toList with
    | [t, t2], [s, x] => (c.p.append t t2 (e s) (e x) h).bind fun p => k p.1 p.2
    | _, _ => none
  | .builtin .max =>
    match cl.args.toList with
    | x :: ys => (c.p.max (e x) (ys.map e)).bind fun v => k v h
    | _ => none
  | .builtin .min =>
    match cl.args.toList with
    | x :: ys => (c.p.min (e x) (ys.map e)).bind fun v => k v h
    | _ => none
  | _ => none

/-- One operation with what follows: 'pop', and the rest. -/
def popK (c : Ctx) (e : Operand → PV) (o : Op) (h : PHeap) (k : PV → PHeap → Res) : Res :=
  match o with
  | .move x => k (e x) h
  | .assign x => k (e x) h
  | .pick x a b => (c.p.pick (e x) (e a) (e b)).bind fun v => k v h
  | .alloc t => (c.p.alloc t h).bind fun p => k p.1 p.2
  | .box _ x => (c.p.box (e x) h).bind fun p => k p.1 p.2
  | .build t parts => (c.p.build t (parts.toList.map fun p => (p.1, e p.2))).bind fun v => k v h
  | .buildSlice t len parts => (c.p.buildSlice t len (parts.toList.map fun p => (p.1, e p.2)) h).bind fun p => k p.1 p.2
  | .load t a => (c.p.load t (e a) h).bind fun v => k v h
  | .store t a v => (c.p.store t (e a) (e v) h).bind fun h' => k (.tup []) h'
  | .nilCheck x => (c.p.ptr (e x)).bind fun v => k v h
  | .binOp op t x y _ => (c.p.bin op t (e x) (e y)).bind fun v => k v h
  | .unOp op _ x => (c.p.un op (e x)).bind fun v => k v h
  | .convert s d x => bif isSliceT c.P s then (c.p.bstr s d (e x) h).bind fun v => k v h else (c.p.conv s d (e x)).bind fun v => k v h
  | .makeSlice t l m => (c.p.make t (e l) (e m) h).bind fun p => k p.1 p.2
  | .slice t x lo hi mx => match mx with | none => (c.p.slice t (e x) (lo.map e) (hi.map e) h).bind fun v => k v h | some _ => none
  | .fieldAddr s x f => (c.p.fieldAddr s (e x) f).bind fun v => k v h
  | .field s x f => (c.p.field s (e x) f).bind fun v => k v h
  | .indexAddr t x i => (c.p.indexAddr t (e x) (e i)).bind fun v => k v h
  | .index t x i => (c.p.index t (e x) (e i)).bind fun v => k v h
  | .extract x i => (c.p.extract (e x) i).bind fun v => k v h
  | .makeFunc f first caps => match f, first.toList with | .func g, [] => (c.p.clos g (caps.toList.map e)).bind fun v => k v h | _, _ => none
  | .makeMap _ r => (c.p.makeMap (r.map e) h).bind fun p => k p.1 p.2
  | .lookup t m i ok => (c.p.lookup t (e m) (e i) ok h).bind fun v => k v h
  | .mapUpdate t m i v => (c.p.update t (e m) (e i) (e v) h).bind fun h' => k (.tup []) h'
  | .call cl => callK c e cl h k
  | _ => none

theorem mapBind {α β γ : Type} (x : Option α) (f : α → β) (g : β → Option γ) : (x.map f).bind g = x.bind fun v => g (f v) := by cases x <;> rfl

theorem callK_eq (c : Ctx) (e : Operand → PV) (cl : Call) (h : PHeap) (k : PV → PHeap → Res) : callK c e cl h k = (callP c e cl h).bind fun p => k p.1 p.2 := by
  unfold callK callP
  split
  · rename_i f _
    cases isExt c.P f <;> simp only [cond_true, cond_false, pv, mapBind]
  · rfl
  · split
    · simp only [pv, mapBind]
    · rfl
  · split <;> rfl
  · split
    · simp only [pv, mapBind]
    · rfl
  · split
    · simp only [pv, mapBind]
    · rfl
  · rfl

theorem popK_eq (c : Ctx) (e : Operand → PV) (o : Op) (h : PHeap) (k : PV → PHeap → Res) : popK c e o h k = (pop c e o h).bind fun p => k p.1 p.2 := by
  cases o <;> simp only [popK, pop, pv, Option.bind_none, Option.bind_some, mapBind, callK_eq]
  case convert s d x => cases isSliceT c.P s <;> simp only [cond_true, cond_false, mapBind]
  all_goals split <;> simp only [mapBind, Option.bind_none]

def runOps (c : Ctx) (all : List Oper) : List Oper → St → (St → Res) → Res
  | [], s, k => k s
  | o :: rest, s, k =>
    match o.guard with
    | none => popK c (evA c.glob s.r) o.op s.h fun v h' => runOps c all rest ⟨setR s.r o.dst v, h'⟩ k
    | some _ =>
      (wantP all s.r o.guard).bind fun g =>
        (doOp c o g s).bind fun p => runOps c all rest ⟨setR s.r o.dst p.1, p.2⟩ k

def ckAdd (i : Nat) (op : Op) (e : Operand → PV) (v : PV) (ck : Cks) : Cks := match op with | .load t a => (i, t, e a, v) :: ck | _ => ck

/-- Of a region that writes: what an operation waits for is done when it comes up. -/
def ckDrop (st : Bool) (o : Oper) (ck : Cks) : Cks := bif st then ck.filter (fun x => !(o.after.toList.any fun e => Region.binds .any e && e.on == x.1)) else ck

def runEarly (c : Ctx) (all : List Oper) : List Nat → St → Cks → (St → Cks → Res) → Res
  | [], s, ck, k => k s ck
  | i :: E, s, ck, k =>
    match all[i]? with
    | some o => popK c (evA c.glob s.r) o.op s.h fun v h' => runEarly c all E ⟨setR s.r o.dst v, h'⟩ (ckAdd i o.op (evA c.glob s.r) v ck) k
    | none => none

def chkAll (c : Ctx) : Cks → PHeap → Res → Res
  | [], _, r => r
  | x :: l, h, r => (c.p.load x.2.1 x.2.2.1 h).bind fun p => bif plainEq x.2.2.2 p then chkAll c l h r else none

def ckP (b : Bool) (r : Res) : Res := bif b then r else none
theorem plain_int {k : IntKind} {n : Int} : plainEq (.int k n) (.int k n) = true := by simp [plainEq]
theorem plain_agg4 {k : IntKind} {a b c d : Int} : plainEq (.agg [.int k a, .int k b, .int k c, .int k d]) (.agg [.int k a, .int k b, .int k c, .int k d]) = true := by simp [plainEq, plainL, plain1]

def runLate (c : Ctx) (all : List Oper) (st : Bool) : Cks → List (Nat × Bool) → St → (St → Res) → Res
  | _, [], s, k => k s
  | ck, (i, true) :: L, s, k =>
    match all[i]? with
    | some o =>
      match o.guard with
      | none => popK c (evA c.glob s.r) o.op s.h fun v h' => runLate c all st (ckAdd i o.op (evA c.glob s.r) v ck) L ⟨setR s.r o.dst v, h'⟩ k
      | some _ =>
        (wantP all s.r o.guard).bind fun g =>
          bif g then popK c (evA c.glob s.r) o.op s.h fun v h' => runLate c all st (ckAdd i o.op (evA c.glob s.r) v ck) L ⟨setR s.r o.dst v, h'⟩ k
          else runLate c all st ck L ⟨setR s.r o.dst (.tup []), s.h⟩ k
    | none => none
  | ck, (i, false) :: L, s, k =>
    match all[i]? with
    | some o =>
      match o.guard with
      | none => popK c (evA c.glob s.r) o.op s.h fun v h' => bif quietOp o.op then runLate c all st ck L ⟨setR s.r o.dst v, h'⟩ k else chkAll c (ckDrop st o ck) h' (runLate c all st (ckDrop st o ck) L ⟨setR s.r o.dst v, h'⟩ k)
      | some _ =>
        (wantP all s.r o.guard).bind fun g =>
          (doOp c o g s).bind fun p => bif quietOp o.op then runLate c all st ck L ⟨setR s.r o.dst p.1, p.2⟩ k else chkAll c (ckDrop st o ck) p.2 (runLate c all st (ckDrop st o ck) L ⟨setR s.r o.dst p.1, p.2⟩ k)
    | none => none

def killR (r : List PV) : List Nat → List PV
  | [] => r
  | n :: ns => killR (r.set n .junk) ns

def killF (f : Flt) : List Nat := match f.k with | some k => [f.tb, f.tx, f.tl, k.d] | none => [f.tb, f.tx, f.tl]
def inF3 (f : Flt) (n : Nat) : Bool := Nat.blt f.tb n && Nat.blt f.tx n && Nat.blt f.tl n && match f.k with | some k => Nat.blt k.d n | none => true
/-- What is done with the text at once. -/
def catK (c : Ctx) (f : Flt) (r : List PV) (k : List PV → Res) : Res :=
  match f.k with
  | none => k r
  | some q => (c.p.bin q.op q.t (evA c.glob r (.tmp q.u)) (evA c.glob r (.tmp f.tl))).bind fun v => k (setR r (some q.d) v)

/-- As runLate, with no guard at a held load; what is held goes on. -/
def runLateC (c : Ctx) (all : List Oper) : Cks → List (Nat × Bool) → St → (St → Cks → Res) → Res
  | ck, [], s, k => k s ck
  | ck, (i, true) :: L, s, k =>
    match all[i]? with
    | some o =>
      match o.guard with
      | none => popK c (evA c.glob s.r) o.op s.h fun v h' => ckP (plainEq v v) (runLateC c all (ckAdd i o.op (evA c.glob s.r) v ck) L ⟨setR s.r o.dst v, h'⟩ k)
      | some _ => none
    | none => none
  | ck, (i, false) :: L, s, k =>
    match all[i]? with
    | some o =>
      match o.guard with
      | none => popK c (evA c.glob s.r) o.op s.h fun v h' => bif quietOp o.op then runLateC c all ck L ⟨setR s.r o.dst v, h'⟩ k else chkAll c (ckDrop true o ck) h' (runLateC c all (ckDrop true o ck) L ⟨setR s.r o.dst v, h'⟩ k)
      | some _ =>
        (wantP all s.r o.guard).bind fun g =>
          (doOp c o g s).bind fun p => bif quietOp o.op then runLateC c all ck L ⟨setR s.r o.dst p.1, p.2⟩ k else chkAll c (ckDrop true o ck) p.2 (runLateC c all (ckDrop true o ck) L ⟨setR s.r o.dst p.1, p.2⟩ k)
    | none => none
/-- What one of the floating ones looks at: its own row's slots, and, of the others, what is told without a heap. -/
def thrE (R : List PV) (own : List Tmp) (rf : List PV) (deps : List Tmp) : Operand → PV
  | .tmp t => bif deps.contains t then (bif own.contains t then (rf[t]?).getD .junk else scalP ((R[t]?).getD .junk)) else .junk
  | .const v => ofV v
  | _ => .junk
def thrK (c : Ctx) (all : List Oper) (R : List PV) (own : List Tmp) : Thr → St → (St → Res) → Res
  | [], s, k => k s
  | y :: t, s, k => match all[y.1]? with | some o => popK c (thrE R own s.r y.2) o.op s.h fun v h' => thrK c all R own t ⟨setR s.r o.dst v, h'⟩ k | none => none
def thrGo (c : Ctx) (all : List Oper) (R : List PV) (own : List Tmp) : Thr → St → Option St
  | [], s => some s
  | y :: t, s => (all[y.1]?).bind fun o => (pop c (thrE R own s.r y.2) o.op s.h).bind fun p => thrGo c all R own t ⟨setR s.r o.dst p.1, p.2⟩
def junks (R : List PV) : List PV := R.map fun _ => .junk
def outK (f : Fl4) (rf r : List PV) (k : List PV → Res) : Res :=
  match f.out with
  | none => k r
  | some d => ckP (sc1 ((rf[d]?).getD .junk)) (k (r.set d ((rf[d]?).getD .junk)))
def alK (c : Ctx) (f : Fl4) (s : St) (k : St → Res) : Res :=
  match f.al with
  | none => k s
  | some x => (c.p.alloc x.1 s.h).bind fun p => k ⟨s.r.set x.2 p.1, p.2⟩
def run4 (c : Ctx) (ops : List Oper) (f : Fl4) (s : St) (k : St → Res) : Res :=
  runLateC c ops [] (L41 c.P ops f) ⟨killR s.r (f.o1 ++ f.o2), s.h⟩ fun s1 ck =>
    thrK c ops s1.r f.o2 f.t2 ⟨junks s1.r, []⟩ fun sf => outK f sf.r s1.r fun r => alK c f ⟨r, s1.h⟩ fun s2 => runLate c ops true ck (L42 c.P ops f) s2 k
def runRegion (c : Ctx) (id : Nat) (ops : List Oper) (draw : Bool) (s : St) (k : St → Res) : Res :=
  bif draw && !(ops.all fun o => quietOp o.op) && !(mixB c.P ops) then
    bif mix2B c.P ops then runEarly c ops (heldE c.P ops) s [] fun s1 ck => runLate c ops (storesB ops) ck (heldL c.P ops) s1 fun s' => k ⟨killR s'.r (c.kl (2 * id)), s'.h⟩
    else match findFlt ops with
      | none => bif mix4B c.P ops (find4 ops) then run4 c ops (find4 ops) s (fun s' => k ⟨killR s'.r (c.kl (2 * id)), s'.h⟩) else none
      | some f =>
        bif mix3B c.P ops f && inF3 f s.r.length then
          runEarly c ops (fltL1 c.P ops f) ⟨killR s.r (killF f), s.h⟩ [] fun s1 _ =>
            (conP f.cs (evA c.glob s1.r (.tmp f.iu))).bind fun v => catK c f (setR s1.r (some f.tl) v) fun r => runLate c ops true [] (fltL2 c.P ops f) ⟨r, s1.h⟩ fun s' => k ⟨killR s'.r (c.kl (2 * id)), s'.h⟩
        else bif mix4B c.P ops (find4 ops) then run4 c ops (find4 ops) s (fun s' => k ⟨killR s'.r (c.kl (2 * id)), s'.h⟩) else none
  else runOps c ops ops s fun s' => k ⟨killR s'.r (c.kl (2 * id)), s'.h⟩

def loopK (f : St → (PX → St → Res) → Res) : Nat → St → (PX → St → Res) → Res
  | 0, _, _ => none
  | n + 1, s, k => f s fun x s' => match x with | .normal => loopK f n s' k | x => k x s'

def kSeq (f : St → (PX → St → Res) → Res) (k : PX → St → Res) : PX → St → Res := fun x s => match x with | .normal => f s k | x => k x s

def kBlock (id : Nat) (k : PX → St → Res) : PX → St → Res := fun x s => match x with | .exit j => bif j == id then k .normal s else k (.exit j) s | x => k x s

def condP (v : PV) (x y : Res) : Res := match v with | .bool t => bif t then x else y | _ => none

/-- What may stand in the body of a range over a function: no order is drawn there. -/
def roundOk : Code → Bool
  | .region _ _ draw => !draw
  | .seq a b => roundOk a && roundOk b
  | .cond _ a b => roundOk a && roundOk b
  | .block _ a => roundOk a
  | .loop a => roundOk a
  | .skip | .exit _ | .ret => true
  | _ => false

/-- By which exits a code may be left. -/
def exitsOf : Code → List Nat
  | .exit id => [id]
  | .seq a b => exitsOf a ++ exitsOf b
  | .cond _ a b => exitsOf a ++ exitsOf b
  | .block id a => (exitsOf a).filter fun j => !(j == id)
  | .loop a => exitsOf a
  | _ => []

def pickExit : List (Nat × (PHeap → Res)) → Nat → PHeap → Res
  | [], _, _ => none
  | x :: l, j, h => bif j == x.1 then x.2 h else pickExit l j h

/-- Behind a range over a function: how its record was left. -/
def rangeK (id : Nat) (h : PHeap) (kn kr : PHeap → Res) (ke : List (Nat × (PHeap → Res))) : Res :=
  match h[id]? with
  | some (.lp 0 _ _ _ _ _ none) => kn (h.set id .dead)
  | some (.lp 2 _ _ _ _ _ (some .ret)) => kr (h.set id .dead)
  | some (.lp 2 _ _ _ _ _ (some (.exit j))) => pickExit ke j (h.set id .dead)
  | _ => none

def setPs (r : List PV) : List Tmp → List PV → List PV
  | p :: ps, v :: vs => setPs (r.set p v) ps vs
  | _, _ => r

/-- A round begins: the record was ready. -/
def beginL (id : Nat) (h : PHeap) : Option PHeap := match h[id]? with | some (.lp 0 kl r ps a b pe) => some (h.set id (.lp 1 kl r ps a b pe)) | _ => none
/-- A round ends: yield hands back whether to go on. -/
def endL (id : Nat) (x : PX) (h : PHeap) : Res :=
  match h[id]?, x with
  | some (.lp 1 kl r ps a b _), .normal => some (.bool true, h.set id (.lp 0 kl r ps a b none))
  | some (.lp 1 kl r ps a b _), x => some (.bool false, h.set id (.lp 2 kl r ps a b (some x)))
  | _, _ => none

def ev (c : Ctx) : Code → St → (PX → St → Res) → Res
  | .skip, s, k => k .normal s
  | .region id ops draw, s, k => runRegion c id ops.toList draw s fun s' => k .normal s'
  | .seq a b, s, k => ev c a s (kSeq (ev c b) k)
  | .cond x a b, s, k => condP (evA c.glob s.r x) (ev c a s k) (ev c b s k)
  | .block id a, s, k => ev c a ⟨killR s.r (c.kl (2 * id + 1)), s.h⟩ (kBlock id k)
  | .loop a, s, k => loopK (ev c a) c.lf s k
  | .exit id, s, k => k (.exit id) s
  | .ret, s, k => k .ret s
  | .rangeFunc g ps a b, s, k =>
    (fcall c.call (evA c.glob s.r g) [.yld (s.h.length + 1)] (s.h ++ [.dead, .lp 0 c.kl s.r ps.toList a b none])).bind fun p =>
      rangeK (s.h.length + 1) p.2 (fun h => k .normal ⟨s.r, h⟩) (fun h => k .ret ⟨s.r, h⟩) ((exitsOf b).map fun i => (i, fun h => k (.exit i) ⟨s.r, h⟩))
  | _, _, _ => none

/-- A round of a range over a function. -/
def roundK (c : Ctx) (a b : Code) (id : Nat) (s : St) : Res :=
  ev c a s fun x s1 => match x with
    | .normal => (beginL id s1.h).bind fun h => ev c b ⟨s1.r, h⟩ fun x s2 => endL id x s2.h
    | _ => none

def resV (v : PV) : Option PV := match v with | .tup _ => none | x => some x

def resultP (P : Program) (r : List PV) (h : PHeap) : ResultVar → Option PV
  | .tmp t => match r[t]? with | some v => resV v | none => none
  | .cell a t => match r[a]? with | some p => loadP P t p h | none => none

def resultsP (P : Program) (r : List PV) (h : PHeap) : List ResultVar → Option (List PV)
  | [] => some []
  | v :: vs => (resultP P r h v).bind fun x => (resultsP P r h vs).map fun xs => x :: xs

def resultsK (P : Program) (r : List PV) (h : PHeap) : List ResultVar → (List PV → Res) → Res
  | [], k => k []
  | v :: vs, k => (resultP P r h v).bind fun x => resultsK P r h vs fun xs => k (x :: xs)

theorem resultsK_eq (P : Program) (r : List PV) (h : PHeap) : ∀ (vs : List ResultVar) (k : List PV → Res), resultsK P r h vs k = (resultsP P r h vs).bind k
  | [], k => rfl
  | v :: vs, k => by
    simp only [resultsK, resultsP]
    cases resultP P r h v with
    | none => rfl
    | some x =>
      simp only [Option.bind_some, resultsK_eq P r h vs]
      cases resultsP P r h vs <;> rfl

def oneP : List PV → PV
  | [x] => x
  | xs => .tup xs

def kTop (P : Program) (fn : Func) : PX → St → Res := fun x s =>
  match x with
  | .exit _ => none
  | _ => resultsK P s.r s.h fn.results.toList fun xs => some (oneP xs, s.h)

def bodyOf (fn : Func) : Code := match fn.body with | some b => b | none => .refuse ""

def start (fn : Func) (args : List PV) : List PV := args ++ List.replicate (fn.ntmps - args.length) (.tup [])

def runBody (c : Ctx) (fn : Func) (args : List PV) (h : PHeap) : Res := ev c (bodyOf fn) ⟨start fn args, h⟩ (kTop c.P fn)

/-- Of each region that leaves its order open, and whose operations only read: the order of the text serves. -/
def drawsOk : Code → Bool
  | .region _ ops draw => !draw || !(ops.toList.all fun o => quietOp o.op) || Region.lexB .any ops
  | .seq a b => drawsOk a && drawsOk b
  | .cond _ a b => drawsOk a && drawsOk b
  | .block _ a => drawsOk a
  | .loop a => drawsOk a
  | _ => true

def progOk (P : Program) : Bool := P.funcs.toList.all fun fn => match fn.body with
  | none => true
  | some b => !(fn.name == "runtime.NumGoroutine") && drawsOk b

/-- The whole: a call of a function, and of a yield, with so much depth. -/
def both (P : Program) (glob : Nat → PV) (kl : FuncId → Nat → List Nat) (lf : Nat) : Nat → (FuncId → List PV → PHeap → Res) × (Nat → List PV → PHeap → Res)
  | 0 => (fun _ _ _ => none, fun _ _ _ => none)
  | n + 1 =>
    (fun f args h => match P.funcs[f]? with
      | some fn => if fn.body.isSome then runBody ⟨P, glob, (both P glob kl lf n).1, kl f, lf, std P, (both P glob kl lf n).2⟩ fn args h else none
      | none => none,
     fun id args h => match h[id]? with
      | some (.lp 0 kl' r ps a b _) => if args.length = ps.length then bif roundOk a && roundOk b then roundK ⟨P, glob, (both P glob kl lf n).1, kl', lf, std P, (both P glob kl lf n).2⟩ a b id ⟨setPs r ps args, h⟩ else none else none
      | _ => none)
def call (P : Program) (glob : Nat → PV) (kl : FuncId → Nat → List Nat) (lf n : Nat) : FuncId → List PV → PHeap → Res := (both P glob kl lf n).1
def yields (P : Program) (glob : Nat → PV) (kl : FuncId → Nat → List Nat) (lf n : Nat) : Nat → List PV → PHeap → Res := (both P glob kl lf n).2
theorem call_succ (P : Program) (glob : Nat → PV) (kl : FuncId → Nat → List Nat) (lf n : Nat) (f : FuncId) (args : List PV) (h : PHeap) : call P glob kl lf (n + 1) f args h =
    (match P.funcs[f]? with
      | some fn => if fn.body.isSome then runBody ⟨P, glob, call P glob kl lf n, kl f, lf, std P, yields P glob kl lf n⟩ fn args h else none
      | none => none) := rfl
/-- What a plain form is stated over. -/
structure Env where
  g : Nat → PV
  lf : Nat
  C : FuncId → List PV → PHeap → Res
  p : Prim
  Y : Nat → List PV → PHeap → Res

def Env.cx (E : Env) (P : Program) (kl : Nat → List Nat) : Ctx := ⟨P, E.g, E.C, kl, E.lf, E.p, E.Y⟩

/-- A part of a code, by a way of turns: 0 the first part, 1 the second. -/
def codeAt : Code → List Nat → Code
  | c, [] => c
  | .seq a _, 0 :: p => codeAt a p
  | .seq _ b, _ :: p => codeAt b p
  | .cond _ a _, 0 :: p => codeAt a p
  | .cond _ _ b, _ :: p => codeAt b p
  | .block _ a, _ :: p => codeAt a p
  | .loop a, _ :: p => codeAt a p
  | .rangeFunc _ _ a _, 0 :: p => codeAt a p
  | .rangeFunc _ _ _ b, _ :: p => codeAt b p
  | c, _ => c

end Go.Ip

