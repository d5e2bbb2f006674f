/-
  Code as plain functions: the types looked up, the temporaries a function, nothing else carried along. Own work.
-/
import Derived.Test.YtimdkminagnhgaaGreatDoorVmL
namespace Go.Vm

abbrev Env := Nat → Value
abbrev CallT (H : Type) := FuncId → List Value → H → Option (Value × H)
abbrev ActT (H : Type) := CallT H → Env → H → Option (Value × H)
abbrev StpT (H : Type) := CallT H → Env × H → Option (Env × H)
abbrev CodeT (H : Type) := CallT H → Nat → Env × H → Option (Exit × (Env × H))

def upd (t : Env) (d : Nat) (v : Value) : Env := fun i => if i = d then v else t i

def ev (t : Env) : Operand → Value
  | .tmp i => t i
  | .const v => v
  | .global g => .pointer (some ⟨g, 0, none⟩)
  | .func f => .func (.func f) #[] #[]

def isB (v : Value) (b : Bool) : Bool :=
  match v with
  | .bool c => c == b
  | _ => false

section
variable {H : Type} (O : HI H)

/-- An operation's answer is laid into a temporary. -/
def to (d : Nat) (f : ActT H) : StpT H := fun call s =>
  match f call s.1 s.2 with
  | some (v, h) => some (upd s.1 d v, h)
  | none => none
/-- .. or into none. -/
def too (f : ActT H) : StpT H := fun call s =>
  match f call s.1 s.2 with
  | some (_, h) => some (s.1, h)
  | none => none
/-- .. if that temporary is so. -/
def onlyIf (j : Nat) (b : Bool) (d : Nat) (f : StpT H) : StpT H := fun call s =>
  if isB (s.1 j) b then f call s else some (upd s.1 d undef, s.2)
def onlyIfo (j : Nat) (b : Bool) (f : StpT H) : StpT H := fun call s =>
  if isB (s.1 j) b then f call s else some s

def reg : List (StpT H) → StpT H
  | [] => fun _ s => some s
  | f :: l => fun call s => match f call s with
    | some s' => reg l call s'
    | none => none

/-- Blocks must lie apart. -/
def chk (a x : Operand) : StpT H := fun _ s => if sepA (ev s.1 a) (ev s.1 x) then some s else none
/-- .. of all that a region does not order. -/
def fitS (ops : Array Oper) (draw : Bool) : List (StpT H) := if draw then (pairsOf ops).map fun p => chk p.1 p.2 else []

/- Operations. -/
def aMove (x : Operand) : ActT H := fun _ t h => some (ev t x, h)
def aPick (c a b : Operand) : ActT H := fun _ t h => match ev t c with
  | .bool q => some (if q then ev t a else ev t b, h)
  | _ => none
def aNil (x : Operand) : ActT H := fun _ t h => match ev t x with
  | .pointer (some a) => some (.pointer (some a), h)
  | _ => none
def aBin (P : Program) (op : BinOp) (ty : TypeId) (x y : Operand) : ActT H := fun _ t h => (binA P op ty (ev t x) (ev t y)).map fun v => (v, h)
def aInt (op : BinOp) (x y : Operand) : ActT H := fun _ t h => match ev t x, ev t y with
  | .int k a, .int k' b => (if k = k' then intA op k a b else none).map fun v => (v, h)
  | _, _ => none
def aShift (op : BinOp) (x y : Operand) : ActT H := fun _ t h => match ev t x, ev t y with
  | .int k a, .int _ b => (shiftA op k a b).map fun v => (v, h)
  | _, _ => none
def aStr (op : BinOp) (x y : Operand) : ActT H := fun _ t h => match ev t x, ev t y with
  | .string a, .string b => (strA op a b).map fun v => (v, h)
  | _, _ => none
def aPtrNil (neg : Bool) (x y : Operand) : ActT H := fun _ t h => match ev t x, ev t y with
  | .pointer none, .pointer b => some (.bool (b.isNone != neg), h)
  | .pointer (some _), .pointer none => some (.bool (false != neg), h)
  | _, _ => none
def aSlNil (neg : Bool) (x y : Operand) : ActT H := fun _ t h => match ev t x, ev t y with
  | .slice none _ _, .slice b _ _ => some (.bool (b.isNone != neg), h)
  | .slice (some _) _ _, .slice none _ _ => some (.bool (false != neg), h)
  | _, _ => none
def aBoolEq (neg : Bool) (x y : Operand) : ActT H := fun _ t h => match ev t x, ev t y with
  | .bool a, .bool b => some (.bool ((a == b) != neg), h)
  | _, _ => none
def aUn (op : UnOp) (x : Operand) : ActT H := fun _ t h => (unA op (ev t x)).map fun v => (v, h)
def aFld (off : Nat) (x : Operand) : ActT H := fun _ t h => match ev t x with
  | .pointer (some a) => some (.pointer (some ⟨a.block, a.off + off, none⟩), h)
  | _ => none
def aIdx (sz : Nat) (x ix : Operand) : ActT H := fun _ t h => match ev t x, ev t ix with
  | .slice (some a) len _, .int _ i => if 0 ≤ i ∧ i < (len : Int) then some (.pointer (some ⟨a.block, a.off + i.toNat * sz, none⟩), h) else none
  | _, _ => none
def aIdxArr (len sz : Nat) (x ix : Operand) : ActT H := fun _ t h => match ev t x, ev t ix with
  | .pointer (some a), .int _ i => if 0 ≤ i ∧ i < (len : Int) then some (.pointer (some ⟨a.block, a.off + i.toNat * sz, none⟩), h) else none
  | _, _ => none
def aIdxStr (x ix : Operand) : ActT H := fun _ t h => match ev t x, ev t ix with
  | .string s, .int _ i => if 0 ≤ i then (s[i.toNat]?).map fun b => (.int .u8 b.toNat, h) else none
  | _, _ => none
def aLd (x : Operand) : ActT H := fun _ t h => match ev t x with
  | .pointer (some a) => (O.cell h a.block a.off).map fun v => (v, h)
  | _ => none
def aLdN (n : Nat) (x : Operand) : ActT H := fun _ t h => match ev t x with
  | .pointer (some a) => (cellsA O h a.block a.off n).map fun l => (.agg l.toArray, h)
  | _ => none
def aSt (ro n : Nat) (a x : Operand) : ActT H := fun _ t h => match ev t a with
  | .pointer (some p) =>
    if p.block < ro then none else
    if (ev t x).cells.size = n ∧ (ev t x).cells.toList.all isFlat then
      match putsA O h p.block p.off (ev t x).cells.toList with
      | some h' => some (undef, h')
      | none => none
    else none
  | _ => none
def aLenStr (x : Operand) : ActT H := fun _ t h => match ev t x with
  | .string s => some (.int .i64 s.size, h)
  | _ => none
def aLenSl (x : Operand) : ActT H := fun _ t h => match ev t x with
  | .slice _ n _ => some (.int .i64 n, h)
  | _ => none
def aConv (k : IntKind) (x : Operand) : ActT H := fun _ t h => match ev t x with
  | .int _ n => some (.int k (k.wrap n), h)
  | _ => none
def aNew (cs : List Value) : ActT H := fun _ _ h => some (.pointer (some ⟨O.next h, 0, none⟩), O.new h cs)
def aBox (x : Operand) : ActT H := fun _ t h => if isTup (ev t x) then none else some (.pointer (some ⟨O.next h, 0, none⟩), O.new h (ev t x).cells.toList)
def aCall (f : FuncId) (args : List Operand) : ActT H := fun call t h => call f (args.map (ev t)) h
def aExt (x : Operand) (i : Nat) : ActT H := fun _ t h => match ev t x with
  | .tuple vs => (vs[i]?).map fun v => (v, h)
  | _ => none
def aBuild (zs : Array Value) (ps : List (Nat × Nat)) (parts : List (Nat × Operand)) : ActT H := fun _ t h =>
  if parts.all (fun p => !isTup (ev t p.2)) then (Instr.fill (ps[·]?) zs (parts.map fun p => (p.1, ev t p.2))).map fun c => (.agg c, h) else none
def aMkSl (sz len : Nat) (zs : Array Value) (parts : List (Nat × Operand)) : ActT H := fun _ t h =>
  if parts.all (fun p => !isTup (ev t p.2)) then
    match Instr.fill (fun j => some (j * sz, sz)) (rangeA zs (len * sz)).toArray (parts.map fun p => (p.1, ev t p.2)) with
    | some cells => some (.slice (some ⟨O.next h, 0, some sz⟩) len (len + 1), O.new h cells.toList)
    | none => none
  else none
/-- append, the element's size and bytes known. -/
def appI (ro sz bytes : Nat) (s x : Value) (h : H) : Option (Value × H) :=
  match s, x with
  | .slice base len cap, .slice b' n _ =>
    if (len + n) * bytes > 140737488355328 ∨ len + n > 140737488355328 then none else
    match (match b' with | some b => cellsA O h b.block b.off (n * sz) | none => if n = 0 then some [] else none) with
    | some new =>
      match base with
      | none =>
        if len = 0 ∧ cap = 0 then
          if n = 0 then some (.slice none 0 0, h) else some (.slice (some ⟨O.next h, 0, some sz⟩) n 0, O.new h new)
        else none
      | some a =>
        if a.block < ro then none else
        if a.spot = some sz ∧ O.alive h a.block = true then
        match cellsA O h a.block a.off (len * sz) with
        | some old =>
          if cap = 0 then
            some (.slice (some ⟨O.next h, 0, some sz⟩) (len + n) 0, O.new (O.kill h a.block) (old ++ new))
          else if len + n < cap then
            match putsA O h a.block (a.off + len * sz) new with
            | some h' => some (.slice (some a) (len + n) cap, h')
            | none => none
          else some (.slice (some ⟨O.next h, 0, some sz⟩) (len + n) 0, O.new h (old ++ new))
        | none => none
        else none
    | none => none
  | _, _ => none
def aApp (ro sz bytes : Nat) (x y : Operand) : ActT H := fun _ t h => appI O ro sz bytes (ev t x) (ev t y) h
def aSliceStr (x : Operand) (lo hi : Option Operand) : ActT H := fun _ t h =>
  match ev t x with
  | .string s =>
    match boundA (hi.map (ev t)) s.size s.size with
    | some e => match boundA (lo.map (ev t)) 0 e with
      | some l => some (.string (s.extract l e), h)
      | none => none
    | none => none
  | _ => none
def aSliceSl (sz : Nat) (x : Operand) (lo hi : Option Operand) : ActT H := fun _ t h =>
  match ev t x with
  | .slice (some a) len cap =>
    if a.spot = some sz then
    match boundA (hi.map (ev t)) len (if cap = 0 then len else cap - 1) with
    | some e => match boundA (lo.map (ev t)) 0 e with
      | some l =>
        if l = 0 then some (.slice (some a) e cap, h)
        else if l < e then some (.slice (some ⟨a.block, a.off + l * sz, a.spot⟩) (e - l) (if cap = 0 then 0 else cap - l), h)
        else none
      | none => none
    | none => none
    else none
  | .slice none len cap =>
    if len = 0 ∧ cap = 0 then
    match boundA (hi.map (ev t)) 0 0 with
    | some e => match boundA (lo.map (ev t)) 0 e with
      | some _ => some (.slice none 0 0, h)
      | none => none
    | none => none
    else none
  | _ => none
def aFieldS (off : Nat) (x : Operand) : ActT H := fun _ t h => match ev t x with
  | .agg cs => (cs[off]?).map fun v => (v, h)
  | _ => none
def aSliceArr (n sz : Nat) (x : Operand) (lo hi : Option Operand) : ActT H := fun _ t h =>
  match ev t x with
  | .pointer (some a) =>
    match boundA (hi.map (ev t)) n n with
    | some h1 => match boundA (lo.map (ev t)) 0 h1 with
      | some l => if l < h1 ∧ (O.cell h a.block (a.off + n * sz - 1)).isSome = true then some (.slice (some ⟨a.block, a.off + l * sz, some sz⟩) (h1 - l) 0, h) else none
      | none => none
    | none => none
  | _ => none
def aB2S (x : Operand) : ActT H := fun _ t h => match ev t x with
  | .slice (some a) len _ => match cellsA O h a.block a.off len with
    | some l => (bytesA l).map fun bs => (.string ⟨bs.toArray⟩, h)
    | none => none
  | _ => none
def aAggEq (neg : Bool) (n : Nat) (x y : Operand) : ActT H := fun _ t h => match ev t x, ev t y with
  | .agg xs, .agg ys => if xs.size = n then (intsA xs.toList ys.toList).map fun b => (.bool (b != neg), h) else none
  | _, _ => none
def aMake (sz bytes : Nat) (zs : Array Value) (l c : Operand) : ActT H := fun _ t h => match ev t l, ev t c with
  | .int _ l, .int _ c =>
    if 0 ≤ l ∧ l ≤ c ∧ c * bytes ≤ 140737488355328 ∧ c ≤ 140737488355328 then
      some (.slice (some ⟨O.next h, 0, some sz⟩) l.toNat (c.toNat + 1), O.new h (rangeA zs (c.toNat * sz)))
    else none
  | _, _ => none
/-- Whatever else: as it stands. -/
def aAny (P : Program) (ro : Nat) (op : Op) : ActT H := fun call t h => opA P O ro call (ev t) op h

/- Code. -/
def cSkip : CodeT H := fun _ _ s => some (.normal, s)
def cRet : CodeT H := fun _ _ s => some (.ret, s)
def cExit (id : Nat) : CodeT H := fun _ _ s => some (.exit id, s)
def cSeq (x y : CodeT H) : CodeT H := fun call n s =>
  match x call n s with
  | some (.normal, s') => y call n s'
  | r => r
def cIf (c : Operand) (x y : CodeT H) : CodeT H := fun call n s =>
  match ev s.1 c with
  | .bool true => x call n s
  | .bool false => y call n s
  | _ => none
def cBlk (id : Nat) (x : CodeT H) : CodeT H := fun call n s => (x call n s).map fun r => (outOf id r.1, r.2)
def loopN (x : CodeT H) (call : CallT H) : Nat → Env × H → Option (Exit × (Env × H)) 
  | 0, _ => none
  | n + 1, s => match x call n s with
    | some (.normal, s') => loopN x call n s'
    | r => r
def cLoop (x : CodeT H) : CodeT H := fun call n s => loopN x call n s
def cReg (l : List (StpT H)) : CodeT H := fun call _ s => (reg l call s).map fun s' => (.normal, s')

/- The translation. -/
variable (P : Program) (ro : Nat)

def isAggT (t : TypeId) : Option Bool :=
  match P.underlying t with
  | some (.struct _) | some (.array _ _) => some true
  | some _ => some false
  | none => none

def actOf (op : Op) : ActT H :=
  match op with
  | .move x | .assign x => aMove x
  | .pick c a b => aPick c a b
  | .nilCheck x => aNil x
  | .binOp o t x y _ =>
    match o with
    | .shl | .shr => aShift o x y
    | _ =>
      match P.underlying t with
      | some (.int _) => aInt o x y
      | some .string => aStr o x y
      | some (.pointer _) => (match o with | .eql => aPtrNil false x y | .neq => aPtrNil true x y | _ => aBin P o t x y)
      | some (.slice _) => (match o with | .eql => aSlNil false x y | .neq => aSlNil true x y | _ => aBin P o t x y)
      | some .bool => (match o with | .eql => aBoolEq false x y | .neq => aBoolEq true x y | _ => aBin P o t x y)
      | some (.struct fs) => if plainInts P t fs.size then (match o with | .eql => aAggEq false fs.size x y | .neq => aAggEq true fs.size x y | _ => aBin P o t x y) else aBin P o t x y
      | _ => aBin P o t x y
  | .unOp o _ x => aUn o x
  | .fieldAddr s x f =>
    match P.underlying s with
    | some (.struct fs) => match fs[f]? with
      | some fd => match P.info? fd.type with
        | some i => if i.size = 0 then aAny O P ro op else aFld fd.offset x
        | none => aAny O P ro op
      | none => aAny O P ro op
    | _ => aAny O P ro op
  | .indexAddr t x ix =>
    match P.underlying t with
    | some (.slice e) => match P.info? e with
      | some i => aIdx i.size x ix
      | none => aAny O P ro op
    | some (.array n e) => match P.info? e with
      | some i => aIdxArr n i.size x ix
      | none => aAny O P ro op
    | _ => aAny O P ro op
  | .index t x ix =>
    match P.underlying t with
    | some .string => aIdxStr x ix
    | _ => aAny O P ro op
  | .load t a =>
    match isAggT P t, P.info? t with
    | some true, some i => aLdN O i.size a
    | some false, some _ => aLd O a
    | _, _ => aAny O P ro op
  | .store t a x =>
    match P.info? t with
    | some i => aSt O ro i.size a x
    | none => aAny O P ro op
  | .convert s d x =>
    match P.underlying s, P.underlying d with
    | some (.int _), some (.int k) => aConv k x
    | some (.slice e), some .string => (match P.underlying e with | some (.int .u8) => aB2S O x | _ => aAny O P ro op)
    | _, _ => aAny O P ro op
  | .build t parts =>
    match P.info? t, P.underlying t with
    | some i, some (.struct fs) =>
      match i.zero, placesA P fs.toList with
      | some z, some ps => if zeroOk z then aBuild z.cells ps parts.toList else aAny O P ro op
      | _, _ => aAny O P ro op
    | _, _ => aAny O P ro op
  | .buildSlice t len parts =>
    match P.underlying t with
    | some (.slice e) =>
      match P.info? e with
      | some i => match i.zero with
        | some z => if len * i.size > 2 ^ 24 ∨ zeroOk z = false ∨ z.cells.size = 0 then aAny O P ro op else aMkSl O i.size len z.cells parts.toList
        | none => aAny O P ro op
      | none => aAny O P ro op
    | _ => aAny O P ro op
  | .makeSlice t l c =>
    match P.underlying t with
    | some (.slice e) =>
      match P.info? e with
      | some i => match i.zero with
        | some z => if zeroOk z = true ∧ z.cells.size ≠ 0 then aMake O i.size i.bytes z.cells l c else aAny O P ro op
        | none => aAny O P ro op
      | none => aAny O P ro op
    | _ => aAny O P ro op
  | .slice t x lo hi mx =>
    match mx, P.underlying t with
    | none, some .string => aSliceStr x lo hi
    | none, some (.slice e) => (match P.info? e with | some i => aSliceSl i.size x lo hi | none => aAny O P ro op)
    | none, some (.array n e) => (match P.info? e with | some i => aSliceArr O n i.size x lo hi | none => aAny O P ro op)
    | _, _ => aAny O P ro op
  | .field t x f =>
    match P.underlying t with
    | some (.struct fs) => match fs[f]? with
      | some fd => match isAggT P fd.type, P.info? fd.type with
        | some false, some _ => aFieldS fd.offset x
        | _, _ => aAny O P ro op
      | none => aAny O P ro op
    | _ => aAny O P ro op
  | .alloc e =>
    match P.info? e with
    | some i => match i.zero with
      | some z => if zeroOk z then aNew O z.cells.toList else aAny O P ro op
      | none => aAny O P ro op
    | none => aAny O P ro op
  | .box _ x => aBox O x
  | .extract x i => aExt x i
  | .call { callee := .builtin .len, args, argTypes } =>
    match argTypes.toList, args.toList with
    | t :: _, x :: _ =>
      match P.underlying t with
      | some .string => aLenStr x
      | some (.slice _) => aLenSl x
      | _ => aAny O P ro op
    | _, _ => aAny O P ro op
  | .call { callee := .value (.func f), args, .. } => aCall f args.toList
  | .call { callee := .builtin .append, args, argTypes } =>
    match argTypes.toList, args.toList with
    | [t, u], [x, y] =>
      if t = u then
        match P.underlying t with
        | some (.slice e) => match P.info? e with
          | some i => if (i.zero.map fun z => z.cells.size) = some i.size then aApp O ro i.size i.bytes x y else aAny O P ro op
          | none => aAny O P ro op
        | _ => aAny O P ro op
      else aAny O P ro op
    | _, _ => aAny O P ro op
  | _ => aAny O P ro op

def stpOf (ops : Array Oper) (o : Oper) : StpT H :=
  let b : StpT H := match o.dst with
    | some d => to d (actOf O P ro o.op)
    | none => too (actOf O P ro o.op)
  match o.guard with
  | none => b
  | some (j, w) => match (ops[j]?).bind (·.dst), o.dst with
    | some k, some d => onlyIf k w d b
    | some k, none => onlyIfo k w b
    | none, some d => fun _ s => some (upd s.1 d undef, s.2)
    | none, none => fun _ s => some s

def codeOf : Code → CodeT H
  | .skip => cSkip
  | .ret => cRet
  | .exit id => cExit id
  | .seq a b => cSeq (codeOf a) (codeOf b)
  | .cond c a b => cIf c (codeOf a) (codeOf b)
  | .block id a => cBlk id (codeOf a)
  | .loop a => cLoop (codeOf a)
  | .region _ ops draw => cReg (ops.toList.map (stpOf O P ro ops) ++ fitS ops draw)
  | _ => fun _ _ _ => none

def bodyOf (fn : Func) : CodeT H :=
  match fn.body with
  | some c => codeOf O P ro c
  | none => fun _ _ _ => none

/-- Are all temporaries that code names below n? -/
def tmpsIn (n : Nat) : Code → Bool
  | .skip | .ret | .exit _ => true
  | .seq a b => tmpsIn n a && tmpsIn n b
  | .cond c a b => (match c with | .tmp i => decide (i < n) | _ => true) && tmpsIn n a && tmpsIn n b
  | .block _ a | .loop a => tmpsIn n a
  | .region _ ops _ => ops.toList.all fun o => (match o.dst with | some d => decide (d < n) | none => true) && (opnds o.op).all fun | .tmp i => decide (i < n) | _ => true
  | _ => true

end
end Go.Vm
