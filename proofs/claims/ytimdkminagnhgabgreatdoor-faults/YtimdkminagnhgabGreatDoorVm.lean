/-
  A plain semantics of Go's code, over a heap of whatever make (HI): no order is drawn, no capacity is drawn; an answer 'none' says nothing. What it answers holds of the model's own run: the texts behind this one. Own work; nothing here is trusted.
-/
import Derived.Calls
import Derived.Orders
namespace Go.Vm

/-- A heap: blocks of cells, numbered from 0 on. -/
structure HI (H : Type) where
  next : H → Nat
  cell : H → Nat → Nat → Option Value
  alive : H → Nat → Bool
  put : H → Nat → Nat → Value → H
  new : H → List Value → H
  kill : H → Nat → H

/-- What is asked of it. -/
structure HI.Law {H : Type} (O : HI H) : Prop where
  next_put : ∀ h b o v, O.next (O.put h b o v) = O.next h
  next_new : ∀ h cs, O.next (O.new h cs) = O.next h + 1
  next_kill : ∀ h b, O.next (O.kill h b) = O.next h
  cell_put : ∀ h b o v x, O.cell h b o = some x → ∀ b' o', O.cell (O.put h b o v) b' o' = if b' = b ∧ o' = o then some v else O.cell h b' o'
  cell_new : ∀ h cs b o, O.cell (O.new h cs) b o = if b = O.next h then cs[o]? else O.cell h b o
  cell_kill : ∀ h b b' o, O.cell (O.kill h b) b' o = if b' = b then none else O.cell h b' o
  cell_alive : ∀ h b o v, O.cell h b o = some v → O.alive h b = true
  alive_lt : ∀ h b, O.alive h b = true → b < O.next h
  alive_put : ∀ h b o v b', O.alive (O.put h b o v) b' = O.alive h b'
  alive_new : ∀ h cs b, O.alive (O.new h cs) b = if b = O.next h then true else O.alive h b
  alive_kill : ∀ h b b', O.alive (O.kill h b) b' = if b' = b then false else O.alive h b'

def isTup : Value → Bool
  | .tuple _ => true
  | _ => false

/-- Operands that are let. -/
def operOk (G : Nat) : Operand → Bool
  | .tmp _ => true
  | .const (.bool _) | .const (.int _ _) | .const (.string _) | .const (.pointer none) | .const (.slice none 0 0) => true
  | .global g => g < G
  | _ => false

/-- A zero value, cell by cell. -/
def zeroOk (z : Value) : Bool := z.cells.toList.all fun v => operOk 0 (.const v)

section
variable (P : Program) {H : Type} (O : HI H)

def intA (op : BinOp) (k : IntKind) (a b : Int) : Option Value :=
  match op with
  | .add => some (.int k (k.wrap (a + b)))
  | .sub => some (.int k (k.wrap (a - b)))
  | .mul => some (.int k (k.wrap (a * b)))
  | .quo => if b = 0 then none else some (.int k (k.wrap (a.tdiv b)))
  | .rem => if b = 0 then none else some (.int k (a.tmod b))
  | .and => some (.int k (k.wrap (BitVec.ofInt k.bits a &&& BitVec.ofInt k.bits b).toNat))
  | .or => some (.int k (k.wrap (BitVec.ofInt k.bits a ||| BitVec.ofInt k.bits b).toNat))
  | .xor => some (.int k (k.wrap (BitVec.ofInt k.bits a ^^^ BitVec.ofInt k.bits b).toNat))
  | .andNot => some (.int k (k.wrap (BitVec.ofInt k.bits a &&& ~~~ BitVec.ofInt k.bits b).toNat))
  | .eql => some (.bool (a == b))
  | .neq => some (.bool (a != b))
  | .lss => some (.bool (a < b))
  | .leq => some (.bool (a ≤ b))
  | .gtr => some (.bool (a > b))
  | .geq => some (.bool (a ≥ b))
  | _ => none

def shiftA (op : BinOp) (k : IntKind) (a b : Int) : Option Value :=
  if b < 0 then none else
  match op with
  | .shl => some (.int k (k.wrap (a * 2 ^ (min b.toNat k.bits))))
  | .shr => some (.int k (a.fdiv (2 ^ (min b.toNat k.bits))))
  | _ => none

def strA (op : BinOp) (x y : ByteArray) : Option Value :=
  match op with
  | .add => if x.size + y.size ≤ 9223372036854775807 then some (.string (x ++ y)) else none
  | .eql => some (.bool (x.toList == y.toList))
  | .neq => some (.bool !(x.toList == y.toList))
  | _ => none

/-- Are these cells all integers of one kind each, pairwise? -/
def intsA : List Value → List Value → Option Bool
  | [], [] => some true
  | .int k a :: xs, .int k' b :: ys => if k = k' then (intsA xs ys).map (fun r => (a == b) && r) else none
  | _, _ => none

/-- A struct all of whose fields are integers of one cell each, in their order. -/
def plainInts (t : TypeId) (n : Nat) : Bool :=
  match P.underlying t with
  | some (.struct fs) => fs.size == n && !P.stoodInHeld t && !P.eqGuardType P.depth t && fs.toList.zipIdx.all fun (f, i) =>
      f.name != "_" && f.offset == i && (match P.underlying f.type with | some (.int _) => true | _ => false)
  | _ => false

def binA (op : BinOp) (t : TypeId) (x y : Value) : Option Value :=
  match x, y with
  | .int k a, .int k' b =>
    match op with
    | .shl | .shr => shiftA op k a b
    | _ => if k = k' then intA op k a b else none
  | .string a, .string b => strA op a b
  | .bool a, .bool b =>
    match P.underlying t, op with
    | some .bool, .eql => some (.bool (a == b))
    | some .bool, .neq => some (.bool (!(a == b)))
    | _, _ => none
  | .pointer none, .pointer b =>
    match P.underlying t, op with
    | some (.pointer _), .eql => some (.bool b.isNone)
    | some (.pointer _), .neq => some (.bool (!b.isNone))
    | _, _ => none
  | .pointer (some _), .pointer none =>
    match P.underlying t, op with
    | some (.pointer _), .eql => some (.bool false)
    | some (.pointer _), .neq => some (.bool true)
    | _, _ => none
  | .slice none _ _, .slice b _ _ =>
    match P.underlying t, op with
    | some (.slice _), .eql => some (.bool b.isNone)
    | some (.slice _), .neq => some (.bool (!b.isNone))
    | _, _ => none
  | .slice (some _) _ _, .slice none _ _ =>
    match P.underlying t, op with
    | some (.slice _), .eql => some (.bool false)
    | some (.slice _), .neq => some (.bool true)
    | _, _ => none
  | .agg xs, .agg ys =>
    if plainInts P t xs.size then
      match op with
      | .eql => (intsA xs.toList ys.toList).map .bool
      | .neq => (intsA xs.toList ys.toList).map (fun b => .bool (!b))
      | _ => none
    else none
  | _, _ => none

def unA (op : UnOp) (x : Value) : Option Value :=
  match op, x with
  | .not, .bool b => some (.bool !b)
  | .neg, .int k n => some (.int k (k.wrap (0 - n)))
  | .xor, .int k n => intA .xor k (if k.signed then -1 else k.max) n
  | _, _ => none

/-- One cell, or the cells of a struct or an array. -/
def partA (t : TypeId) (cs : Array Value) (off : Nat) : Option Value :=
  match P.underlying t, P.info? t with
  | some (.struct _), some i | some (.array _ _), some i => if off + i.size ≤ cs.size then some (.agg (cs.extract off (off + i.size))) else none
  | some _, some _ => cs[off]?
  | _, _ => none

def placesA (fs : List Field) : Option (List (Nat × Nat)) :=
  match fs with
  | [] => some []
  | f :: r => match P.info? f.type, placesA r with
    | some i, some ps => some ((f.offset, i.size) :: ps)
    | _, _ => none

def buildA (t : TypeId) (parts : Array (Nat × Value)) : Option Value :=
  match P.info? t, P.underlying t with
  | some i, some (.struct fs) =>
    match i.zero, placesA P fs.toList with
    | some z, some ps => if zeroOk z then (Instr.fill (ps[·]?) z.cells parts.toList).map .agg else none
    | _, _ => none
  | _, _ => none

/-- The bounds of a slice: of a string or a slice of 'len' elements, of which 'top' may be reached. -/
def boundA (x : Option Value) (d top : Nat) : Option Nat :=
  match x with
  | none => some d
  | some (.int _ i) => if 0 ≤ i ∧ i ≤ (top : Int) then some i.toNat else none
  | _ => none

def sliceA (t : TypeId) (x : Value) (lo hi mx : Option Value) : Option Value :=
  match mx with
  | some _ => none
  | none =>
    match P.underlying t, x with
    | some .string, .string s =>
      match boundA hi s.size s.size with
      | some h => match boundA lo 0 h with
        | some l => some (.string (s.extract l h))
        | none => none
      | none => none
    | some (.slice e), .slice (some a) len cap =>
      match P.info? e with
      | some i =>
        if a.spot = some i.size then
        match boundA hi len (if cap = 0 then len else cap - 1) with
        | some h => match boundA lo 0 h with
          | some l =>
            if l = 0 then some (.slice (some a) h cap)
            else if l < h then some (.slice (some ⟨a.block, a.off + l * i.size, a.spot⟩) (h - l) (if cap = 0 then 0 else cap - l))
            else none
          | none => none
        | none => none
        else none
      | none => none
    | some (.slice e), .slice none len cap =>
      match P.info? e with
      | some _ =>
        if len = 0 ∧ cap = 0 then
        match boundA hi 0 0 with
        | some h => match boundA lo 0 h with
          | some _ => some (.slice none 0 0)
          | none => none
        | none => none
        else none
      | none => none
    | _, _ => none

def indexAddrA (t : TypeId) (x ix : Value) : Option Value :=
  match P.underlying t, x, ix with
  | some (.slice e), .slice (some a) len _, .int _ i =>
    match P.info? e with
    | some inf => if 0 ≤ i ∧ i < (len : Int) then some (.pointer (some ⟨a.block, a.off + i.toNat * inf.size, none⟩)) else none
    | none => none
  | some (.array len e), .pointer (some a), .int _ i =>
    match P.info? e with
    | some inf => if 0 ≤ i ∧ i < (len : Int) then some (.pointer (some ⟨a.block, a.off + i.toNat * inf.size, none⟩)) else none
    | none => none
  | _, _, _ => none

def indexA (t : TypeId) (x ix : Value) : Option Value :=
  match P.underlying t, x, ix with
  | some (.array len e), .agg cs, .int _ i =>
    match P.info? e with
    | some inf => if 0 ≤ i ∧ i < (len : Int) then partA P e cs (i.toNat * inf.size) else none
    | none => none
  | some .string, .string s, .int _ i => if 0 ≤ i then (s[i.toNat]?).map fun b => .int .u8 b.toNat else none
  | _, _, _ => none

/-- What does not look at memory. -/
def pureA (ρ : Operand → Value) (op : Op) : Option Value :=
  match op with
  | .move x | .assign x => some (ρ x)
  | .pick c a b => match ρ c with
    | .bool t => some (if t then ρ a else ρ b)
    | _ => none
  | .nilCheck x => match ρ x with
    | .pointer (some a) => some (.pointer (some a))
    | _ => none
  | .binOp op t x y _ => binA P op t (ρ x) (ρ y)
  | .unOp op _ x => unA op (ρ x)
  | .build t parts => if parts.toList.all (fun p => !isTup (ρ p.2)) then buildA P t (parts.map fun (i, x) => (i, ρ x)) else none
  | .fieldAddr s x f =>
    match P.underlying s, ρ x with
    | some (.struct fs), .pointer (some a) =>
      match fs[f]? with
      | some fd => match P.info? fd.type with
        | some i => if i.size = 0 then none else some (.pointer (some ⟨a.block, a.off + fd.offset, none⟩))
        | none => none
      | none => none
    | _, _ => none
  | .field t x f =>
    match P.underlying t, ρ x with
    | some (.struct fs), .agg cs => match fs[f]? with
      | some fd => partA P fd.type cs fd.offset
      | none => none
    | _, _ => none
  | .indexAddr t x ix => indexAddrA P t (ρ x) (ρ ix)
  | .index t x ix => indexA P t (ρ x) (ρ ix)
  | .slice t x lo hi mx => sliceA P t (ρ x) (lo.map ρ) (hi.map ρ) (mx.map ρ)
  | .extract x i => match ρ x with
    | .tuple vs => vs[i]?
    | _ => none
  | .call { callee := .builtin .len, args, argTypes } =>
    match argTypes.toList, args.toList with
    | t :: _, x :: _ =>
      match P.underlying t, ρ x with
      | some .string, .string s => some (.int .i64 s.size)
      | some (.slice _), .slice _ n _ => some (.int .i64 n)
      | some (.array n _), _ => some (.int .i64 n)
      | _, _ => none
    | _, _ => none
  | .call { callee := .builtin .cap, args, argTypes } =>
    match argTypes.toList, args.toList with
    | t :: _, x :: _ =>
      match P.underlying t, ρ x with
      | some (.slice _), .slice (some _) _ c => if c = 0 then none else some (.int .i64 ((c - 1 : Nat) : Int))
      | some (.slice _), .slice none _ c => some (.int .i64 c)
      | _, _ => none
    | _, _ => none
  | _ => none

/-- n cells from a place on. -/
def cellsA (h : H) (b : Nat) : Nat → Nat → Option (List Value)
  | _, 0 => some []
  | o, n + 1 => match O.cell h b o, cellsA h b (o + 1) n with
    | some v, some r => some (v :: r)
    | _, _ => none

def bytesA : List Value → Option (List UInt8)
  | [] => some []
  | .int .u8 n :: r => (bytesA r).map fun l => UInt8.ofNat n.toNat :: l
  | _ => none

def loadA (t : TypeId) (a : Value) (h : H) : Option Value :=
  match a with
  | .pointer (some a) =>
    match P.underlying t, P.info? t with
    | some (.struct _), some i | some (.array _ _), some i => (cellsA O h a.block a.off i.size).map fun l => .agg l.toArray
    | some _, some _ => O.cell h a.block a.off
    | _, _ => none
  | _ => none

/-- A part: of an array, too, all of which lies in memory. -/
def sliceH (t : TypeId) (x : Value) (lo hi mx : Option Value) (h : H) : Option Value :=
  match P.underlying t with
  | some (.array n e) =>
    match mx, x, P.info? e with
    | none, .pointer (some a), some i =>
      match boundA hi n n with
      | some h1 => match boundA lo 0 h1 with
        | some l => if l < h1 ∧ (O.cell h a.block (a.off + n * i.size - 1)).isSome = true then some (.slice (some ⟨a.block, a.off + l * i.size, some i.size⟩) (h1 - l) 0) else none
        | none => none
      | none => none
    | _, _, _ => none
  | _ => sliceA P t x lo hi mx

/-- What reads memory, or changes an integer's kind. -/
def readA (ρ : Operand → Value) (op : Op) (h : H) : Option Value :=
  match op with
  | .load t a => loadA P O t (ρ a) h
  | .slice t x lo hi mx => sliceH P O t (ρ x) (lo.map ρ) (hi.map ρ) (mx.map ρ) h
  | .convert s d x =>
    match P.underlying s, P.underlying d, ρ x with
    | some _, some (.int k), .int _ n => some (.int k (k.wrap n))
    | some (.slice e), some .string, .slice (some a) len _ =>
      match P.underlying e with
      | some (.int .u8) => match cellsA O h a.block a.off len with
        | some l => (bytesA l).map fun bs => .string ⟨bs.toArray⟩
        | none => none
      | _ => none
    | _, _, _ => none
  | _ => none

/-- Cells are written, one behind the other; each must be there. -/
def putsA (h : H) (b : Nat) : Nat → List Value → Option H
  | _, [] => some h
  | o, v :: r => match O.cell h b o with
    | some _ => putsA (O.put h b o v) b (o + 1) r
    | none => none

def isFlat : Value → Bool
  | .agg _ | .tuple _ => false
  | _ => true

def rangeA (zero : Array Value) (n : Nat) : List Value := (List.range n).map fun i => zero[i % zero.size]!

def appendA (ro : Nat) (argTypes : List TypeId) (args : List Value) (h : H) : Option (Value × H) :=
  match argTypes, args with
  | [t, u], [.slice base len cap, x] =>
    if t ≠ u then none else
    match P.underlying t with
    | some (.slice e) =>
      match P.info? e, x with
      | some i, .slice b' n _ =>
        if (i.zero.map fun z => z.cells.size) = some i.size then
        if (len + n) * i.bytes > 140737488355328 ∨ len + n > 140737488355328 then none else
        match (match b' with | some b => cellsA O h b.block b.off (n * i.size) | none => if n = 0 then some [] else none) with
        | some new =>
          match base with
          | none =>
            if len = 0 ∧ cap = 0 then
              if n = 0 then some (.slice none 0 0, h) else some (.slice (some ⟨O.next h, 0, some i.size⟩) n 0, O.new h new)
            else none
          | some a =>
            if a.block < ro then none else
            if a.spot = some i.size ∧ O.alive h a.block = true then
            match cellsA O h a.block a.off (len * i.size) with
            | some old =>
              if cap = 0 then
                some (.slice (some ⟨O.next h, 0, some i.size⟩) (len + n) 0, O.new (O.kill h a.block) (old ++ new))
              else if len + n < cap then
                match putsA O h a.block (a.off + len * i.size) new with
                | some h' => some (.slice (some a) (len + n) cap, h')
                | none => none
              else some (.slice (some ⟨O.next h, 0, some i.size⟩) (len + n) 0, O.new h (old ++ new))
            | none => none
            else none
        | none => none
        else none
      | _, _ => none
    | _ => none
  | _, _ => none

def copyA (ro : Nat) (argTypes : List TypeId) (args : List Value) (h : H) : Option (Value × H) :=
  match argTypes, args with
  | t :: _, [.slice (some a) dLen _, .slice (some b) sLen _] =>
    match P.underlying t with
    | some (.slice e) =>
      match P.info? e with
      | some i =>
        if a.block < ro then none else
        match cellsA O h b.block b.off (Nat.min sLen dLen * i.size) with
        | some new => match putsA O h a.block a.off new with
          | some h' => some (.int .i64 (Nat.min sLen dLen), h')
          | none => none
        | none => none
      | none => none
    | _ => none
  | _, _ => none

/-- What makes or writes memory; calls. 'ro': so many blocks may only be read. -/
def effA (ro : Nat) (call : FuncId → List Value → H → Option (Value × H)) (ρ : Operand → Value) (op : Op) (h : H) : Option (Value × H) :=
  match op with
  | .alloc e =>
    match P.info? e with
    | some i => match i.zero with
      | some z => if zeroOk z then some (.pointer (some ⟨O.next h, 0, none⟩), O.new h z.cells.toList) else none
      | none => none
    | none => none
  | .box _ x => if isTup (ρ x) then none else some (.pointer (some ⟨O.next h, 0, none⟩), O.new h (ρ x).cells.toList)
  | .buildSlice t len parts =>
    match P.underlying t with
    | some (.slice e) =>
      match P.info? e with
      | some i => match i.zero with
        | some z =>
          if len * i.size > 2 ^ 24 ∨ zeroOk z = false ∨ z.cells.size = 0 ∨ parts.toList.all (fun p => !isTup (ρ p.2)) = false then none else
          match Instr.fill (fun j => some (j * i.size, i.size)) (rangeA z.cells (len * i.size)).toArray (parts.map fun (j, x) => (j, ρ x)).toList with
          | some cells => some (.slice (some ⟨O.next h, 0, some i.size⟩) len (len + 1), O.new h cells.toList)
          | none => none
        | none => none
      | none => none
    | _ => none
  | .store t a x =>
    match ρ a, P.info? t with
    | .pointer (some p), some i =>
      if p.block < ro then none else
      if (ρ x).cells.size = i.size ∧ (ρ x).cells.toList.all isFlat then
        match putsA O h p.block p.off (ρ x).cells.toList with
        | some h' => some (undef, h')
        | none => none
      else none
    | _, _ => none
  | .makeSlice t l c =>
    match P.underlying t, ρ l, ρ c with
    | some (.slice e), .int _ l, .int _ c =>
      match P.info? e with
      | some i => match i.zero with
        | some z =>
          if 0 ≤ l ∧ l ≤ c ∧ c * i.bytes ≤ 140737488355328 ∧ c ≤ 140737488355328 ∧ zeroOk z = true ∧ z.cells.size ≠ 0 then
            some (.slice (some ⟨O.next h, 0, some i.size⟩) l.toNat (c.toNat + 1), O.new h (rangeA z.cells (c.toNat * i.size)))
          else none
        | none => none
      | none => none
    | _, _, _ => none
  | .call { callee := .builtin .append, args, argTypes } => appendA P O ro argTypes.toList (args.toList.map ρ) h
  | .call { callee := .builtin .copy, args, argTypes } => copyA P O ro argTypes.toList (args.toList.map ρ) h
  | .call { callee := .value (.func f), args, .. } => call f (args.toList.map ρ) h
  | _ => none

/-- 0: it does not look at memory; 1: it reads; 3: it makes a block; 2: it does more. -/
def cls : Op → Nat
  | .move _ | .assign _ | .pick .. | .nilCheck _ | .binOp .. | .unOp .. | .build .. | .fieldAddr .. | .field .. | .indexAddr .. | .index .. | .extract .. => 0
  | .call { callee := .builtin .len, .. } | .call { callee := .builtin .cap, .. } => 0
  | .load .. | .convert .. | .slice .. => 1
  | .alloc _ | .box .. | .buildSlice .. | .makeSlice .. => 3
  | _ => 2

def opA (ro : Nat) (call : FuncId → List Value → H → Option (Value × H)) (ρ : Operand → Value) (op : Op) (h : H) : Option (Value × H) :=
  match cls op with
  | 0 => (pureA P ρ op).map fun v => (v, h)
  | 1 => (readA P O ρ op h).map fun v => (v, h)
  | _ => effA P O ro call ρ op h

def evalT (t : Array Value) : Operand → Value
  | .tmp i => t.getD i undef
  | .const v => v
  | .global g => .pointer (some ⟨g, 0, none⟩)
  | .func f => .func (.func f) #[] #[]

def putT (t : Array Value) (dst : Option Tmp) (v : Value) : Array Value :=
  match dst with
  | some d => t.setIfInBounds d v
  | none => t

/-- One operation of a region. -/
def stepA (ro : Nat) (call : FuncId → List Value → H → Option (Value × H)) (ops : Array Oper) (i : Nat) (s : Array Value × H) : Option (Array Value × H) :=
  match ops[i]? with
  | none => some s
  | some o =>
    if Region.wanted o (yielded ops s.1) then
      match opA P O ro call (evalT s.1) o.op s.2 with
      | some (v, h) => some (putT s.1 o.dst v, h)
      | none => none
    else some (putT s.1 o.dst undef, s.2)

def runA (ro : Nat) (call : FuncId → List Value → H → Option (Value × H)) (ops : Array Oper) : List Nat → Array Value × H → Option (Array Value × H)
  | [], s => some s
  | i :: r, s => match stepA P O ro call ops i s with
    | some s' => runA ro call ops r s'
    | none => none

/-- The operands that an operation looks at (a called function's own name is none). -/
def opnds : Op → List Operand
  | .call c => c.args.toList
  | op => op.operands.toList

def isTmp (d : Nat) : Operand → Bool
  | .tmp t => t == d
  | _ => false

def readsT (ops : Array Oper) (o : Oper) (d : Nat) : Bool :=
  (opnds o.op).any (isTmp d) || (match o.guard with
    | some (j, _) => (ops[j]?).bind (·.dst) == some d
    | none => false)

def apart (ops : Array Oper) (x y : Oper) : Bool :=
  (match x.dst with | some d => !readsT ops y d && !(y.dst == some d) | none => true) &&
  (match y.dst with | some d => !readsT ops x d | none => true) &&
  (cls x.op == 0 || cls y.op == 0 || (cls x.op == 1 && cls y.op == 1) || (cls x.op == 1 && cls y.op == 3))

/-- What a load reads at; what an append goes on from. -/
def ldArg : Op → Option Operand
  | .load _ a => some a
  | _ => none
def appArg : Op → Option Operand
  | .call { callee := .builtin .append, args, .. } => args.toList.head?
  | _ => none
/-- Two operations that lie apart if the blocks that they look at do. -/
def pairOf (x y : Oper) : Option (Operand × Operand) :=
  match x.guard, y.guard, ldArg x.op, appArg y.op with
  | none, none, some a, some s => some (a, s)
  | _, _, _, _ => none
/-- All those of a region that are not ordered. -/
def pairsOf (ops : Array Oper) : List (Operand × Operand) :=
  let A := (Region.before ops).toList
  ops.toList.zipIdx.flatMap fun (y, i) => (ops.toList.take i).zipIdx.filterMap fun (x, j) => if (A.getD i 0).testBit j || apart ops x y then none else pairOf x y
/-- Blocks apart. -/
def sepA (p s : Value) : Bool :=
  match p, s with
  | .pointer (some _), .slice none _ _ => true
  | .pointer (some a), .slice (some b) _ _ => !(Nat.beq a.block b.block)
  | _, _ => false
/-- What is asked at a region's end. -/
def fitsA (ops : Array Oper) (draw : Bool) (t : Array Value) : Bool := !draw || (pairsOf ops).all fun p => sepA (evalT t p.1) (evalT t p.2)

/-- The results of a function. -/
def rvA (rv : ResultVar) (t : Array Value) (h : H) : Option Value :=
  match rv with
  | .tmp a => some (t.getD a undef)
  | .cell a ty => loadA P O ty (t.getD a undef) h

def resL (t : Array Value) (h : H) : List ResultVar → Option (List Value)
  | [] => some []
  | r :: l => match rvA P O r t h, resL t h l with
    | some v, some vs => if isTup v then none else some (v :: vs)
    | _, _ => none

def resA (fn : Func) (t : Array Value) (h : H) : Option Value :=
  match resL P O t h fn.results.toList with
  | some [v] => some v
  | some vs => some (.tuple vs.toArray)
  | none => none

/-- Code. -/
def codeA (ro : Nat) (ok : FuncId → Bool) : Nat → Code → Array Value × H → Option (Exit × (Array Value × H))
  | 0, _, _ => none
  | n + 1, c, s =>
    match c with
    | .skip => some (.normal, s)
    | .ret => some (.ret, s)
    | .exit id => some (.exit id, s)
    | .seq x y =>
      match codeA ro ok n x s with
      | some (.normal, s') => codeA ro ok n y s'
      | r => r
    | .cond c x y =>
      match evalT s.1 c with
      | .bool true => codeA ro ok n x s
      | .bool false => codeA ro ok n y s
      | _ => none
    | .block id x =>
      match codeA ro ok n x s with
      | some (.exit id', s') => some (if id' = id then (.normal, s') else (.exit id', s'))
      | r => r
    | .loop x =>
      match codeA ro ok n x s with
      | some (.normal, s') => codeA ro ok n (.loop x) s'
      | r => r
    | .region _ ops draw =>
      (runA P O ro (fun f args h =>
        if ok f then
          match P.funcs[f]? with
          | some fn => match fn.body with
            | some c =>
              match codeA ro ok n c (args.toArray ++ Array.replicate (fn.ntmps - args.length) undef, h) with
              | some (.normal, t, h') | some (.ret, t, h') => (resA P O fn t h').map fun v => (v, h')
              | _ => none
            | none => none
          | none => none
        else none) ops (List.range ops.size) s).bind fun s' => if fitsA ops draw s'.1 then some (.normal, s') else none
    | _ => none

/-- A call. -/
def callA (ro : Nat) (ok : FuncId → Bool) (n : Nat) (f : FuncId) (args : List Value) (h : H) : Option (Value × H) :=
  if ok f then
    match P.funcs[f]? with
    | some fn => match fn.body with
      | some c =>
        match codeA P O ro ok n c (args.toArray ++ Array.replicate (fn.ntmps - args.length) undef, h) with
        | some (.normal, t, h') | some (.ret, t, h') => (resA P O fn t h').map fun v => (v, h')
        | _ => none
      | none => none
    | none => none
  else none

end
end Go.Vm
