import Derived.Calls
import Derived.Orders
import Derived.Below
set_option linter.all false
namespace Go
set_option linter.defProp false
def l'a:=@Option.some.injEq
def l'b:=@List.getElem?_eq_some_iff
def l'c:=@List.getElem?_eq_getElem
def l'd:=@Prod.mk.injEq
def l'e:=@List.getElem?_append_left
def l'f:=@List.mem_of_getElem?
def l'g:=@List.getElem?_set_self
def l'h:=@List.getElem?_set_ne
def l'i:=@List.mem_iff_getElem?
def l'j:=@List.getElem?_take_of_lt
def l'k:=@Bool.and_eq_true
def l'l:=@Option.map_some
def l'm:=@List.mem_singleton
def l'n:=@List.length_cons
def l'o:=@List.length_nil
def l'p:=@List.length_append
def l'q:=@Array.getD_eq_getD_getElem?
def l'r:=@List.getD_eq_getElem?_getD
def l's:=@List.drop_eq_getElem_cons
def l't:=@Option.bind_some
def l'u:=@Array.getElem?_setIfInBounds
def l'v:=@ByteArray.size_append
def l'w:=@List.getElem?_cons_zero
def l'x:=@List.getElem?_cons_succ
def l'y:=@Bool.false_eq_true
def l'z:=@List.getElem?_append_right
def l'A:=@beq_eq_false_iff_ne
def l'B:=@List.range_succ
def l'C:=@List.take_add_one
def l'D:=@List.all_eq_true
def l'E:=@List.mem_append
def l'F:=@Nat.zero_add
def l'G:=@Nat.le_trans
def l'H:=@Nat.le_refl
def l'I:=@List.mem_cons
def l'J:=@List.map_cons
def l'K:=@List.map_nil
def l'L:=@Bool.not_eq_true'
def l'M:=@decide_eq_true_eq
theorem e' {α:Type}(a:α):∃x,x=a:=⟨a,rfl⟩
end Go
namespace Go.Vm
structure HI (H:Type) where
 next:H->Nat
 cell:H->Nat->Nat->Option Value
 alive:H->Nat->Bool
 put:H->Nat->Nat->Value->H
 new:H->List Value->H
 kill:H->Nat->H
structure HI.Law {H:Type}(O:HI H):Prop where
 next_put:∀h b o v,O.next (O.put h b o v)=O.next h
 next_new:∀h cs,O.next (O.new h cs)=O.next h+1
 next_kill:∀h b,O.next (O.kill h b)=O.next h
 cell_put:∀h b o v x,O.cell h b o=some x->∀b' o',O.cell (O.put h b o v) b' o'=if b'=b∧o'=o then some v else O.cell h b' o'
 cell_new:∀h cs b o,O.cell (O.new h cs) b o=if b=O.next h then cs[o]? else O.cell h b o
 cell_kill:∀h b b' o,O.cell (O.kill h b) b' o=if b'=b then none else O.cell h b' o
 cell_alive:∀h b o v,O.cell h b o=some v->O.alive h b=true
 alive_lt:∀h b,O.alive h b=true->b<O.next h
 alive_put:∀h b o v b',O.alive (O.put h b o v) b'=O.alive h b'
 alive_new:∀h cs b,O.alive (O.new h cs) b=if b=O.next h then true else O.alive h b
 alive_kill:∀h b b',O.alive (O.kill h b) b'=if b'=b then false else O.alive h b'
def B'j: Value->Bool
 | .tuple _=>true
 | _=>false
def B'v (G:Nat): Operand->Bool
 | .tmp _=>true
 | .const (.bool _) | .const (.int _ _) | .const (.string _) | .const (.pointer none) | .const (.slice none 0 0)=>true
 | .global g=>g<G
 | _=>false
def C'w (z:Value): Bool:=z.cells.toList.all λv=>B'v 0 (.const v)
section
variable (P:Program){H:Type}(O:HI H)
def C'f (op:BinOp)(k:IntKind)(a b:Int): Option Value:=
 match op with
 | .add=>some (.int k (k.wrap (a+b)))
 | .sub=>some (.int k (k.wrap (a-b)))
 | .mul=>some (.int k (k.wrap (a*b)))
 | .quo=>if b=0 then none else some (.int k (k.wrap (a.tdiv b)))
 | .rem=>if b=0 then none else some (.int k (a.tmod b))
 | .and=>some (.int k (k.wrap (BitVec.ofInt k.bits a &&& BitVec.ofInt k.bits b).toNat))
 | .or=>some (.int k (k.wrap (BitVec.ofInt k.bits a ||| BitVec.ofInt k.bits b).toNat))
 | .xor=>some (.int k (k.wrap (BitVec.ofInt k.bits a ^^^ BitVec.ofInt k.bits b).toNat))
 | .andNot=>some (.int k (k.wrap (BitVec.ofInt k.bits a &&& ~~~ BitVec.ofInt k.bits b).toNat))
 | .eql=>some (.bool (a==b))
 | .neq=>some (.bool (a != b))
 | .lss=>some (.bool (a<b))
 | .leq=>some (.bool (a<=b))
 | .gtr=>some (.bool (a>b))
 | .geq=>some (.bool (a≥b))
 | _=>none
def B'w (op:BinOp)(k:IntKind)(a b:Int): Option Value:=
 if b<0 then none else
 match op with
 | .shl=>some (.int k (k.wrap (a*2^(min b.toNat k.bits))))
 | .shr=>some (.int k (a.fdiv (2^(min b.toNat k.bits))))
 | _=>none
def F'y (op:BinOp)(x y:ByteArray): Option Value:=
 match op with
 | .add=>if x.size+y.size<=9223372036854775807 then some (.string (x++y)) else none
 | .eql=>some (.bool (x.toList==y.toList))
 | .neq=>some (.bool !(x.toList==y.toList))
 | _=>none
def C'a: List Value->List Value->Option Bool
 | [],[]=>some true
 | .int k a :: xs,.int k' b :: ys=>if k=k' then (C'a xs ys).map (λr=>(a==b)&&r) else none
 | _,_=>none
def C'V (t:TypeId)(n:Nat): Bool:=
 match P.underlying t with
 | some (.struct fs)=>fs.size==n && !P.stoodInHeld t && !P.eqGuardType P.depth t&&fs.toList.zipIdx.all λ(f,i)=>
   f.name != "_" && f.offset == i && (match P.underlying f.type with | some (.int _) => true | _ => false)
 | _=>false
def C'R (op:BinOp)(t:TypeId)(x y:Value): Option Value:=
 match x,y with
 | .int k a,.int k' b=>
  match op with
  | .shl | .shr=>B'w op k a b
  | _=>if k=k' then C'f op k a b else none
 | .string a,.string b=>F'y op a b
 | .bool a,.bool b=>
  match P.underlying t,op with
  | some .bool,.eql=>some (.bool (a==b))
  | some .bool,.neq=>some (.bool (!(a==b)))
  | _,_=>none
 | .pointer none,.pointer b=>
  match P.underlying t,op with
  | some (.pointer _),.eql=>some (.bool b.isNone)
  | some (.pointer _),.neq=>some (.bool (!b.isNone))
  | _,_=>none
 | .pointer (some _),.pointer none=>
  match P.underlying t,op with
  | some (.pointer _),.eql=>some (.bool false)
  | some (.pointer _),.neq=>some (.bool true)
  | _,_=>none
 | .slice none _ _,.slice b _ _=>
  match P.underlying t,op with
  | some (.slice _),.eql=>some (.bool b.isNone)
  | some (.slice _),.neq=>some (.bool (!b.isNone))
  | _,_=>none
 | .slice (some _) _ _,.slice none _ _=>
  match P.underlying t,op with
  | some (.slice _),.eql=>some (.bool false)
  | some (.slice _),.neq=>some (.bool true)
  | _,_=>none
 | .agg xs,.agg ys=>
  if C'V P t xs.size then
   match op with
   | .eql=>(C'a xs.toList ys.toList).map .bool
   | .neq=>(C'a xs.toList ys.toList).map (λb=>.bool (!b))
   | _=>none
  else none
 | _,_=>none
def unA (op:UnOp)(x:Value): Option Value:=
 match op,x with
 | .not,.bool b=>some (.bool !b)
 | .neg,.int k n=>some (.int k (k.wrap (0-n)))
 | .xor,.int k n=>C'f .xor k (if k.signed then -1 else k.max) n
 | _,_=>none
def I'd (t:TypeId)(cs:Array Value)(off:Nat): Option Value:=
 match P.underlying t,P.info? t with
 | some (.struct _),some i|some (.array _ _),some i=>if off+i.size<=cs.size then some (.agg (cs.extract off (off+i.size))) else none
 | some _,some _=>cs[off]?
 | _,_=>none
def C'K (fs:List Field): Option (List (Nat×Nat)):=
 match fs with
 | []=>some []
 | f :: r=>match P.info? f.type,C'K r with
  | some i,some ps=>some ((f.offset,i.size) :: ps)
  | _,_=>none
def G'Q (t:TypeId)(parts:Array (Nat×Value)): Option Value:=
 match P.info? t,P.underlying t with
 | some i,some (.struct fs)=>
  match i.zero,C'K P fs.toList with
  | some z,some ps=>if C'w z then (Instr.fill (ps[·]?) z.cells parts.toList).map .agg else none
  | _,_=>none
 | _,_=>none
def A'm (x:Option Value)(d top:Nat): Option Nat:=
 match x with
 | none=>some d
 | some (.int _ i)=>if 0<=i∧i<=(top:Int) then some i.toNat else none
 | _=>none
def D'4 (t:TypeId)(x:Value)(lo hi mx:Option Value): Option Value:=
 match mx with
 | some _=>none
 | none=>
  match P.underlying t,x with
  | some .string,.string s=>
   match A'm hi s.size s.size with
   | some h=>match A'm lo 0 h with
    | some l=>some (.string (s.extract l h))
    | none=>none
   | none=>none
  | some (.slice e),.slice (some a) len cap=>
   match P.info? e with
   | some i=>
    if a.spot=some i.size then
    match A'm hi len (if cap=0 then len else cap-1) with
    | some h=>match A'm lo 0 h with
     | some l=>
      if l=0 then some (.slice (some a) h cap)
      else if l<h then some (.slice (some ⟨a.block,a.off+l*i.size,a.spot⟩) (h-l) (if cap=0 then 0 else cap-l))
      else none
     | none=>none
    | none=>none
    else none
   | none=>none
  | some (.slice e),.slice none len cap=>
   match P.info? e with
   | some _=>
    if len=0∧cap=0 then
    match A'm hi 0 0 with
    | some h=>match A'm lo 0 h with
     | some _=>some (.slice none 0 0)
     | none=>none
    | none=>none
    else none
   | none=>none
  | _,_=>none
def C'x (t:TypeId)(x ix:Value): Option Value:=
 match P.underlying t,x,ix with
 | some (.slice e),.slice (some a) len _,.int _ i=>
  match P.info? e with
  | some inf=>if 0<=i∧i<(len:Int) then some (.pointer (some ⟨a.block,a.off+i.toNat*inf.size,none⟩)) else none
  | none=>none
 | some (.array len e),.pointer (some a),.int _ i=>
  match P.info? e with
  | some inf=>if 0<=i∧i<(len:Int) then some (.pointer (some ⟨a.block,a.off+i.toNat*inf.size,none⟩)) else none
  | none=>none
 | _,_,_=>none
def G'R (t:TypeId)(x ix:Value): Option Value:=
 match P.underlying t,x,ix with
 | some (.array len e),.agg cs,.int _ i=>
  match P.info? e with
  | some inf=>if 0<=i∧i<(len:Int) then I'd P e cs (i.toNat*inf.size) else none
  | none=>none
 | some .string,.string s,.int _ i=>if 0<=i then (s[i.toNat]?).map λb=>.int .u8 b.toNat else none
 | _,_,_=>none
def B'H (ρ:Operand->Value)(op:Op): Option Value:=
 match op with
 | .move x | .assign x=>some (ρ x)
 | .pick c a b=>match ρ c with
  | .bool t=>some (if t then ρ a else ρ b)
  | _=>none
 | .nilCheck x=>match ρ x with
  | .pointer (some a)=>some (.pointer (some a))
  | _=>none
 | .binOp op t x y _=>C'R P op t (ρ x) (ρ y)
 | .unOp op _ x=>unA op (ρ x)
 | .build t parts=>if parts.toList.all (λp=>!B'j (ρ p.2)) then G'Q P t (parts.map λ(i,x)=>(i,ρ x)) else none
 | .fieldAddr s x f=>
  match P.underlying s,ρ x with
  | some (.struct fs),.pointer (some a)=>
   match fs[f]? with
   | some fd=>match P.info? fd.type with
    | some i=>if i.size=0 then none else some (.pointer (some ⟨a.block,a.off+fd.offset,none⟩))
    | none=>none
   | none=>none
  | _,_=>none
 | .field t x f=>
  match P.underlying t,ρ x with
  | some (.struct fs),.agg cs=>match fs[f]? with
   | some fd=>I'd P fd.type cs fd.offset
   | none=>none
  | _,_=>none
 | .indexAddr t x ix=>C'x P t (ρ x) (ρ ix)
 | .index t x ix=>G'R P t (ρ x) (ρ ix)
 | .slice t x lo hi mx=>D'4 P t (ρ x) (lo.map ρ) (hi.map ρ) (mx.map ρ)
 | .extract x i=>match ρ x with
  | .tuple vs=>vs[i]?
  | _=>none
 | .call { callee:=.builtin .len,args,argTypes }=>
  match argTypes.toList,args.toList with
  | t :: _,x :: _=>
   match P.underlying t,ρ x with
   | some .string,.string s=>some (.int .i64 s.size)
   | some (.slice _),.slice _ n _=>some (.int .i64 n)
   | some (.array n _),_=>some (.int .i64 n)
   | _,_=>none
  | _,_=>none
 | .call { callee:=.builtin .cap,args,argTypes }=>
  match argTypes.toList,args.toList with
  | t :: _,x :: _=>
   match P.underlying t,ρ x with
   | some (.slice _),.slice (some _) _ c=>if c=0 then none else some (.int .i64 ((c-1:Nat):Int))
   | some (.slice _),.slice none _ c=>some (.int .i64 c)
   | _,_=>none
  | _,_=>none
 | _=>none
def cellsA (h:H)(b:Nat): Nat->Nat->Option (List Value)
 | _,0=>some []
 | o,n+1=>match O.cell h b o,cellsA h b (o+1) n with
  | some v,some r=>some (v :: r)
  | _,_=>none
def B'S: List Value->Option (List UInt8)
 | []=>some []
 | .int .u8 n :: r=>(B'S r).map λl=>UInt8.ofNat n.toNat :: l
 | _=>none
def B'1 (t:TypeId)(a:Value)(h:H): Option Value:=
 match a with
 | .pointer (some a)=>
  match P.underlying t,P.info? t with
  | some (.struct _),some i|some (.array _ _),some i=>(cellsA O h a.block a.off i.size).map λl=>.agg l.toArray
  | some _,some _=>O.cell h a.block a.off
  | _,_=>none
 | _=>none
def D'O (t:TypeId)(x:Value)(lo hi mx:Option Value)(h:H): Option Value:=
 match P.underlying t with
 | some (.array n e)=>
  match mx,x,P.info? e with
  | none,.pointer (some a),some i=>
   match A'm hi n n with
   | some h1=>match A'm lo 0 h1 with
    | some l=>if l<h1∧(O.cell h a.block (a.off+n*i.size-1)).isSome=true then some (.slice (some ⟨a.block,a.off+l*i.size,some i.size⟩) (h1-l) 0) else none
    | none=>none
   | none=>none
  | _,_,_=>none
 | _=>D'4 P t x lo hi mx
def C'b (ρ:Operand->Value)(op:Op)(h:H): Option Value:=
 match op with
 | .load t a=>B'1 P O t (ρ a) h
 | .slice t x lo hi mx=>D'O P O t (ρ x) (lo.map ρ) (hi.map ρ) (mx.map ρ) h
 | .convert s d x=>
  match P.underlying s,P.underlying d,ρ x with
  | some _,some (.int k),.int _ n=>some (.int k (k.wrap n))
  | some (.slice e),some .string,.slice (some a) len _=>
   match P.underlying e with
   | some (.int .u8)=>match cellsA O h a.block a.off len with
    | some l=>(B'S l).map λbs=>.string ⟨bs.toArray⟩
    | none=>none
   | _=>none
  | _,_,_=>none
 | _=>none
def A'6 (h:H)(b:Nat): Nat->List Value->Option H
 | _,[]=>some h
 | o,v :: r=>match O.cell h b o with
  | some _=>A'6 (O.put h b o v) b (o+1) r
  | none=>none
def B'f: Value->Bool
 | .agg _ | .tuple _=>false
 | _=>true
def rangeA (zero:Array Value)(n:Nat): List Value:=(List.range n).map λi=>zero[i%zero.size]!
def C'W (ro:Nat)(argTypes:List TypeId)(args:List Value)(h:H): Option (Value×H):=
 match argTypes,args with
 | [t,u],[.slice base len cap,x]=>
  if t≠u then none else
  match P.underlying t with
  | some (.slice e)=>
   match P.info? e,x with
   | some i,.slice b' n _=>
    if (i.zero.map λz=>z.cells.size)=some i.size then
    if (len+n)*i.bytes>140737488355328∨len+n>140737488355328 then none else
    match (match b' with|some b=>cellsA O h b.block b.off (n*i.size)|none=>if n=0 then some [] else none) with
    | some new=>
     match base with
     | none=>
      if len=0∧cap=0 then
       if n=0 then some (.slice none 0 0,h) else some (.slice (some ⟨O.next h,0,some i.size⟩) n 0,O.new h new)
      else none
     | some a=>
      if a.block<ro then none else
      if a.spot=some i.size∧O.alive h a.block=true then
      match cellsA O h a.block a.off (len*i.size) with
      | some old=>
       if cap=0 then
        some (.slice (some ⟨O.next h,0,some i.size⟩) (len+n) 0,O.new (O.kill h a.block) (old++new))
       else if len+n<cap then
        match A'6 O h a.block (a.off+len*i.size) new with
        | some h'=>some (.slice (some a) (len+n) cap,h')
        | none=>none
       else some (.slice (some ⟨O.next h,0,some i.size⟩) (len+n) 0,O.new h (old++new))
      | none=>none
      else none
    | none=>none
    else none
   | _,_=>none
  | _=>none
 | _,_=>none
def M'x (ro:Nat)(argTypes:List TypeId)(args:List Value)(h:H): Option (Value×H):=
 match argTypes,args with
 | t :: _,[.slice (some a) dLen _,.slice (some b) sLen _]=>
  match P.underlying t with
  | some (.slice e)=>
   match P.info? e with
   | some i=>
    if a.block<ro then none else
    match cellsA O h b.block b.off (Nat.min sLen dLen*i.size) with
    | some new=>match A'6 O h a.block a.off new with
     | some h'=>some (.int .i64 (Nat.min sLen dLen),h')
     | none=>none
    | none=>none
   | none=>none
  | _=>none
 | _,_=>none
def D'c (ro:Nat)(call:FuncId->List Value->H->Option (Value×H))(ρ:Operand->Value)(op:Op)(h:H): Option (Value×H):=
 match op with
 | .alloc e=>
  match P.info? e with
  | some i=>match i.zero with
   | some z=>if C'w z then some (.pointer (some ⟨O.next h,0,none⟩),O.new h z.cells.toList) else none
   | none=>none
  | none=>none
 | .box _ x=>if B'j (ρ x) then none else some (.pointer (some ⟨O.next h,0,none⟩),O.new h (ρ x).cells.toList)
 | .buildSlice t len parts=>
  match P.underlying t with
  | some (.slice e)=>
   match P.info? e with
   | some i=>match i.zero with
    | some z=>
     if len*i.size>2^24∨C'w z=false∨z.cells.size=0∨parts.toList.all (λp=>!B'j (ρ p.2))=false then none else
     match Instr.fill (λj=>some (j*i.size,i.size)) (rangeA z.cells (len*i.size)).toArray (parts.map λ(j,x)=>(j,ρ x)).toList with
     | some cells=>some (.slice (some ⟨O.next h,0,some i.size⟩) len (len+1),O.new h cells.toList)
     | none=>none
    | none=>none
   | none=>none
  | _=>none
 | .store t a x=>
  match ρ a,P.info? t with
  | .pointer (some p),some i=>
   if p.block<ro then none else
   if (ρ x).cells.size=i.size∧(ρ x).cells.toList.all B'f then
    match A'6 O h p.block p.off (ρ x).cells.toList with
    | some h'=>some (undef,h')
    | none=>none
   else none
  | _,_=>none
 | .makeSlice t l c=>
  match P.underlying t,ρ l,ρ c with
  | some (.slice e),.int _ l,.int _ c=>
   match P.info? e with
   | some i=>match i.zero with
    | some z=>
     if 0<=l∧l<=c∧c*i.bytes<=140737488355328∧c<=140737488355328∧C'w z=true∧z.cells.size≠0 then
      some (.slice (some ⟨O.next h,0,some i.size⟩) l.toNat (c.toNat+1),O.new h (rangeA z.cells (c.toNat*i.size)))
     else none
    | none=>none
   | none=>none
  | _,_,_=>none
 | .call { callee:=.builtin .append,args,argTypes }=>C'W P O ro argTypes.toList (args.toList.map ρ) h
 | .call { callee:=.builtin .copy,args,argTypes }=>M'x P O ro argTypes.toList (args.toList.map ρ) h
 | .call { callee:=.value (.func f),args,.. }=>call f (args.toList.map ρ) h
 | _=>none
def cls: Op->Nat
 | .move _ | .assign _ | .pick .. | .nilCheck _ | .binOp .. | .unOp .. | .build .. | .fieldAddr .. | .field .. | .indexAddr .. | .index .. | .extract ..=>0
 | .call { callee:=.builtin .len,.. } | .call { callee:=.builtin .cap,.. }=>0
 | .load .. | .convert .. | .slice ..=>1
 | .alloc _ | .box .. | .buildSlice .. | .makeSlice ..=>3
 | _=>2
def opA (ro:Nat)(call:FuncId->List Value->H->Option (Value×H))(ρ:Operand->Value)(op:Op)(h:H): Option (Value×H):=
 match cls op with
 | 0=>(B'H P ρ op).map λv=>(v,h)
 | 1=>(C'b P O ρ op h).map λv=>(v,h)
 | _=>D'c P O ro call ρ op h
def A'9 (t:Array Value): Operand->Value
 | .tmp i=>t.getD i undef
 | .const v=>v
 | .global g=>.pointer (some ⟨g,0,none⟩)
 | .func f=>.func (.func f) #[] #[]
def B'Q (t:Array Value)(dst:Option Tmp)(v:Value): Array Value:=
 match dst with
 | some d=>t.setIfInBounds d v
 | none=>t
def B'k (ro:Nat)(call:FuncId->List Value->H->Option (Value×H))(ops:Array Oper)(i:Nat)(s:Array Value×H): Option (Array Value×H):=
 match ops[i]? with
 | none=>some s
 | some o=>
  if Region.wanted o (yielded ops s.1) then
   match opA P O ro call (A'9 s.1) o.op s.2 with
   | some (v,h)=>some (B'Q s.1 o.dst v,h)
   | none=>none
  else some (B'Q s.1 o.dst undef,s.2)
def C'X (ro:Nat)(call:FuncId->List Value->H->Option (Value×H))(ops:Array Oper): List Nat->Array Value×H->Option (Array Value×H)
 | [],s=>some s
 | i :: r,s=>match B'k P O ro call ops i s with
  | some s'=>C'X ro call ops r s'
  | none=>none
def A'Y: Op->List Operand
 | .call c=>c.args.toList
 | op=>op.operands.toList
def E'6 (d:Nat): Operand->Bool
 | .tmp t=>t==d
 | _=>false
def B'I (ops:Array Oper)(o:Oper)(d:Nat): Bool:=
 (A'Y o.op).any (E'6 d) || (match o.guard with
  | some (j,_)=>(ops[j]?).bind (·.dst)==some d
  | none=>false)
def apart (ops:Array Oper)(x y:Oper): Bool:=
 (match x.dst with | some d => !B'I ops y d && !(y.dst == some d) | none => true) &&
 (match y.dst with | some d => !B'I ops x d | none => true) &&
 (cls x.op==0||cls y.op==0||(cls x.op==1&&cls y.op==1)||(cls x.op==1&&cls y.op==3))
def M'y: Op->Option Operand
 | .load _ a=>some a
 | _=>none
def D'5: Op->Option Operand
 | .call { callee:=.builtin .append,args,.. }=>args.toList.head?
 | _=>none
def D'6 (x y:Oper): Option (Operand×Operand):=
 match x.guard,y.guard,M'y x.op,D'5 y.op with
 | none,none,some a,some s=>some (a,s)
 | _,_,_,_=>none
def D'j (ops:Array Oper): List (Operand×Operand):=
 let A:=(Region.before ops).toList
 ops.toList.zipIdx.flatMap λ(y,i)=>(ops.toList.take i).zipIdx.filterMap λ(x,j)=>if (A.getD i 0).testBit j||apart ops x y then none else D'6 x y
def J'W (p s:Value): Bool:=
 match p,s with
 | .pointer (some _),.slice none _ _=>true
 | .pointer (some a),.slice (some b) _ _=>!(Nat.beq a.block b.block)
 | _,_=>false
def D'E (ops:Array Oper)(draw:Bool)(t:Array Value): Bool:=!draw||(D'j ops).all λp=>J'W (A'9 t p.1) (A'9 t p.2)
def rvA (rv:ResultVar)(t:Array Value)(h:H): Option Value:=
 match rv with
 | .tmp a=>some (t.getD a undef)
 | .cell a ty=>B'1 P O ty (t.getD a undef) h
def J'X (t:Array Value)(h:H): List ResultVar->Option (List Value)
 | []=>some []
 | r :: l=>match rvA P O r t h,J'X t h l with
  | some v,some vs=>if B'j v then none else some (v :: vs)
  | _,_=>none
def I'b (fn:Func)(t:Array Value)(h:H): Option Value:=
 match J'X P O t h fn.results.toList with
 | some [v]=>some v
 | some vs=>some (.tuple vs.toArray)
 | none=>none
def B'q (ro:Nat)(ok:FuncId->Bool): Nat->Code->Array Value×H->Option (Exit×(Array Value×H))
 | 0,_,_=>none
 | n+1,c,s=>
  match c with
  | .skip=>some (.normal,s)
  | .ret=>some (.ret,s)
  | .exit id=>some (.exit id,s)
  | .seq x y=>
   match B'q ro ok n x s with
   | some (.normal,s')=>B'q ro ok n y s'
   | r=>r
  | .cond c x y=>
   match A'9 s.1 c with
   | .bool true=>B'q ro ok n x s
   | .bool false=>B'q ro ok n y s
   | _=>none
  | .block id x=>
   match B'q ro ok n x s with
   | some (.exit id',s')=>some (if id'=id then (.normal,s') else (.exit id',s'))
   | r=>r
  | .loop x=>
   match B'q ro ok n x s with
   | some (.normal,s')=>B'q ro ok n (.loop x) s'
   | r=>r
  | .region _ ops draw=>
   (C'X P O ro (fun f args h =>
    if ok f then
     match P.funcs[f]? with
     | some fn=>match fn.body with
      | some c=>
       match B'q ro ok n c (args.toArray++Array.replicate (fn.ntmps-args.length) undef,h) with
       | some (.normal,t,h')|some (.ret,t,h')=>(I'b P O fn t h').map λv=>(v,h')
       | _=>none
      | none=>none
     | none=>none
    else none) ops (List.range ops.size) s).bind λs'=>if D'E ops draw s'.1 then some (.normal,s') else none
  | _=>none
def C's (ro:Nat)(ok:FuncId->Bool)(n:Nat)(f:FuncId)(args:List Value)(h:H): Option (Value×H):=
 if ok f then
  match P.funcs[f]? with
  | some fn=>match fn.body with
   | some c=>
    match B'q P O ro ok n c (args.toArray++Array.replicate (fn.ntmps-args.length) undef,h) with
    | some (.normal,t,h')|some (.ret,t,h')=>(I'b P O fn t h').map λv=>(v,h')
    | _=>none
   | none=>none
  | none=>none
 else none
end
end Go.Vm
namespace Go.Vm
section
variable {P:Program}{H:Type}{O:HI H}{ro:Nat}{call:FuncId->List Value->H->Option (Value×H)}
theorem F'z {ρ ρ':Operand->Value}{op:Op}{h:H}(e:∀x∈A'Y op,ρ x = ρ' x): opA P O ro call ρ op h=opA P O ro call ρ' op h:=by
 cases op with
 | call c=>
  obtain⟨cal,args,tys⟩:=c;have em:args.toList.map ρ=args.toList.map ρ':=List.map_congr_left λx hx=>e x hx
  cases cal with
  | value f=>cases f <;> simp[opA,cls,D'c,em]
  | invoke r m=>simp[opA,cls,D'c]
  | builtin b=>
   cases b <;> simp only[opA,cls,D'c,em,B'H]
   all_goals
    have e':∀x r,args.toList=x :: r->ρ x = ρ' x:=λx r h=>e x (by simp[A'Y,h]);generalize args.toList=l at e';generalize tys.toList=k
    cases l with
    | nil=>cases k <;> rfl
    | cons x r=>cases k <;> simp only[e' x r rfl]
 | build t parts=>
  have em:(parts.map λ(i,x)=>(i,ρ x))=parts.map λ(i,x)=>(i,ρ' x):=by
   apply Array.map_congr_left;rintro⟨i,x⟩ hx;simp only[l'd,true_and];exact e x (by simp[A'Y,Op.operands];exact⟨i,by simpa using hx⟩)
  have ea:parts.toList.all (λp=>!B'j (ρ p.2))=parts.toList.all (λp=>!B'j (ρ' p.2)):=by
   rw[Bool.eq_iff_iff,l'D,l'D];constructor <;> intro hh p hp
   ·rw[<-e p.2 (by simp[A'Y,Op.operands];exact⟨p.1,by simpa using hp⟩)];exact hh p hp
   ·rw[e p.2 (by simp[A'Y,Op.operands];exact⟨p.1,by simpa using hp⟩)];exact hh p hp
  simp only[opA,cls,B'H,em,ea]
 | buildSlice t n parts=>
  have em:(parts.map λ(i,x)=>(i,ρ x))=parts.map λ(i,x)=>(i,ρ' x):=by
   apply Array.map_congr_left;rintro⟨i,x⟩ hx;simp only[l'd,true_and];exact e x (by simp[A'Y,Op.operands];exact⟨i,by simpa using hx⟩)
  have ea:parts.toList.all (λp=>!B'j (ρ p.2))=parts.toList.all (λp=>!B'j (ρ' p.2)):=by
   rw[Bool.eq_iff_iff,l'D,l'D];constructor <;> intro hh p hp
   ·rw[<-e p.2 (by simp[A'Y,Op.operands];exact⟨p.1,by simpa using hp⟩)];exact hh p hp
   ·rw[e p.2 (by simp[A'Y,Op.operands];exact⟨p.1,by simpa using hp⟩)];exact hh p hp
  simp only[opA,cls,D'c,em,ea]
 | slice t x lo hi mx=>
  have e0:=e x (by simp[A'Y,Op.operands]);have e1:lo.map ρ=lo.map ρ':=by cases lo <;> simp;exact e _ (by simp[A'Y,Op.operands])
  have e2:hi.map ρ=hi.map ρ':=by cases hi <;> simp;exact e _ (by simp[A'Y,Op.operands])
  have e3:mx.map ρ=mx.map ρ':=by cases mx <;> simp;exact e _ (by simp[A'Y,Op.operands])
  simp[opA,cls,C'b,e0,e1,e2,e3]
 | _=>simp[A'Y,Op.operands]at e;simp[opA,cls,B'H,C'b,D'c,e]
def C'y (P:Program)(O:HI H)(ro:Nat)(call:FuncId->List Value->H->Option (Value×H))(ops:Array Oper)(o:Oper)(t:Array Value)(h:H): Option (Value×H):=
 if Region.wanted o (yielded ops t) then opA P O ro call (A'9 t) o.op h else some (undef,h)
theorem B'l {ops:Array Oper}{i:Nat}{o:Oper}(ho:ops[i]?=some o)(t:Array Value)(h:H):
  B'k P O ro call ops i (t,h)=(C'y P O ro call ops o t h).map λr=>(B'Q t o.dst r.1,r.2):=by
 simp only[B'k,ho,C'y];split
 ·cases opA P O ro call (A'9 t) o.op h <;> rfl
 ·rfl
theorem F'A {t:Array Value}{d:Nat}{v:Value}{x:Operand}(hx:E'6 d x=false): A'9 (B'Q t (some d) v) x=A'9 t x:=by
 cases x with
 | tmp i=>
  simp only[E'6,l'A]at hx;simp only[A'9,B'Q,l'q,l'u];rw[if_neg (λhh=>hx hh.symm)]
 | _=>rfl
theorem C'5 {ops:Array Oper}{o:Oper}{d:Option Tmp}{t:Array Value}{h:H}{v:Value}(hd:∀e,d=some e->B'I ops o e=false):
  C'y P O ro call ops o (B'Q t d v) h=C'y P O ro call ops o t h:=by
 cases d with
 | none=>rfl
 | some d=>
  have hr:=hd d rfl;simp only[B'I,Bool.or_eq_false_iff]at hr;obtain⟨h1,h2⟩:=hr;have e1:opA P O ro call (A'9 (B'Q t (some d) v)) o.op h=opA P O ro call (A'9 t) o.op h:=
   F'z λx hx=>F'A (by
    rw[List.any_eq_false]at h1;simpa using h1 x hx)
  have e2:Region.wanted o (yielded ops (B'Q t (some d) v))=Region.wanted o (yielded ops t):=by
   unfold Region.wanted
   cases hg:o.guard with
   | none=>rfl
   | some p=>
    obtain⟨j,want⟩:=p;simp only[hg]at h2;simp only[yielded]
    cases hb:(ops[j]?).bind (·.dst) with
    | none=>rfl
    | some k=>
     rw[hb]at h2;have hk:k≠d:=by simpa using h2
     simp only[l't,B'Q,l'u];rw[if_neg (λhh=>hk hh.symm)]
  simp only[C'y,e1,e2]
theorem D'7 {ops:Array Oper}{o:Oper}(hc:cls o.op=0)(t:Array Value): ∃f:Option Value,∀h,C'y P O ro call ops o t h=f.map λv=>(v,h):=by
 by_cases hw:Region.wanted o (yielded ops t)=true
 ·exact⟨B'H P (A'9 t) o.op,λh=>by simp[C'y,hw,opA,hc]⟩
 ·exact⟨some undef,λh=>by simp[C'y,hw]⟩
theorem D'r {ops:Array Oper}{o:Oper}(hc:cls o.op=1)(t:Array Value): ∃f:H->Option Value,∀h,C'y P O ro call ops o t h=(f h).map λv=>(v,h):=by
 by_cases hw:Region.wanted o (yielded ops t)=true
 ·exact⟨λh=>C'b P O (A'9 t) o.op h,λh=>by simp[C'y,hw,opA,hc]⟩
 ·exact⟨λ_=>some undef,λh=>by simp[C'y,hw]⟩
theorem D'8 {t:Array Value}{d e:Option Tmp}{u v:Value}(h:∀x,d=some x->e≠some x): B'Q (B'Q t d u) e v=B'Q (B'Q t e v) d u:=by
 cases d with
 | none=>rfl
 | some d=>
  cases e with
  | none=>rfl
  | some e=>
   have hne:d≠e:=λx=>h d rfl (by rw[x]);simp only[B'Q];apply Array.ext
   ·simp
   ·intro i h1 h2;simp only[Array.size_setIfInBounds]at h1 h2;simp only[Array.getElem_setIfInBounds,Array.size_setIfInBounds,h1]
    by_cases c1:e=i
    ·by_cases c2:d=i
     ·exact absurd (c2.trans c1.symm) hne
     ·simp[c1,c2]
    ·by_cases c2:d=i <;> simp[c1,c2]
theorem E'O (L:O.Law){h:H}(cs:List Value){b:Nat}: ∀(n o:Nat)(l:List Value),cellsA O h b o n=some l->cellsA O (O.new h cs) b o n=some l:=by
 intro n
 induction n with
 | zero=>intro o l hl;simpa [cellsA]using hl
 | succ n ih=>
  intro o l hl;simp only[cellsA]at hl ⊢
  cases h1:O.cell h b o with
  | none=>rw[h1]at hl;simp at hl
  | some v=>
   cases h2:cellsA O h b (o+1) n with
   | none=>rw[h1,h2]at hl;simp at hl
   | some r=>
    rw[h1,h2]at hl;have hlt:=L.alive_lt _ _ (L.cell_alive _ _ _ _ h1);rw[L.cell_new,if_neg (by omega),h1,ih _ _ h2];exact hl
theorem I'e (L:O.Law){h:H}(cs:List Value){t:TypeId}{a v:Value}(hl:B'1 P O t a h=some v): B'1 P O t a (O.new h cs)=some v:=by
 unfold B'1 at hl ⊢
 cases a with
 | pointer a=>
  cases a with
  | none=>simp at hl
  | some a=>
   simp only at hl ⊢;have multi:∀n,(cellsA O h a.block a.off n).map (λl=>Value.agg l.toArray)=some v->(cellsA O (O.new h cs) a.block a.off n).map (λl=>Value.agg l.toArray)=some v:=by
    intro n hm
    cases hc:cellsA O h a.block a.off n with
    | none=>rw[hc]at hm;simp at hm
    | some l=>rw[E'O L cs _ _ _ hc];rw[hc]at hm;exact hm
   cases hu:P.underlying t with
   | none=>rw[hu]at hl;simp at hl
   | some d=>
    cases hi:P.info? t with
    | none=>rw[hu,hi]at hl;cases d <;> simp at hl
    | some i=>
     rw[hu,hi]at hl
     cases d with
     | struct fs=>exact multi _ hl
     | array n e=>exact multi _ hl
     | _=>
      simp only at hl ⊢;have hlt:=L.alive_lt _ _ (L.cell_alive _ _ _ _ hl);rw[L.cell_new,if_neg (by omega)];exact hl
 | _=>simp at hl
theorem I'f (L:O.Law){h:H}(cs:List Value){ρ:Operand->Value}{op:Op}{v:Value}(hr:C'b P O ρ op h=some v): C'b P O ρ op (O.new h cs)=some v:=by
 cases op with
 | load t a=>exact I'e L cs hr
 | convert s d x=>
  simp only[C'b]at hr ⊢;split at hr
  ·exact hr
  ·split at hr
   ·split at hr
    ·rename_i l hc
     rw[E'O L cs _ _ _ hc];exact hr
    ·simp at hr
   ·simp at hr
  ·simp at hr
 | slice t x lo hi mx=>
  simp only[C'b]at hr ⊢;unfold D'O at hr ⊢;split at hr
  ·split at hr
   ·rename_i a i _ _
    split at hr
    ·split at hr
     ·split at hr
      ·rename_i hc
       obtain⟨u,hu⟩:=Option.isSome_iff_exists.1 hc.2;have hlt:=L.alive_lt _ _ (L.cell_alive _ _ _ _ hu);rw[if_pos ⟨hc.1,by rw[L.cell_new,if_neg (by omega)];exact hc.2⟩];exact hr
      ·simp at hr
     ·simp at hr
    ·simp at hr
   ·simp at hr
  ·exact hr
 | _=>simp[C'b]at hr
theorem H'x {ops:Array Oper}{o:Oper}(hc:cls o.op=3){t:Array Value}{h h':H}{u:Value}(ha:C'y P O ro call ops o t h=some (u,h')): h'=h∨∃cs,h'=O.new h cs:=by
 unfold C'y at ha;split at ha
 ·simp only[opA,hc]at ha
  cases hop:o.op with
  | alloc e=>
   rw[hop]at ha;simp only[D'c]at ha
   repeat' split at ha
   all_goals first|(simp at ha;done)|(simp only[l'a,l'd]at ha;exact .inr ⟨_,ha.2.symm⟩)
  | box e x=>
   rw[hop]at ha;simp only[D'c]at ha
   repeat' split at ha
   all_goals first|(simp at ha;done)|(simp only[l'a,l'd]at ha;exact .inr ⟨_,ha.2.symm⟩)
  | buildSlice t n ps=>
   rw[hop]at ha;simp only[D'c]at ha
   repeat' split at ha
   all_goals first|(simp at ha;done)|(simp only[l'a,l'd]at ha;exact .inr ⟨_,ha.2.symm⟩)
  | makeSlice t l c=>
   rw[hop]at ha;simp only[D'c]at ha
   repeat' split at ha
   all_goals first|(simp at ha;done)|(simp only[l'a,l'd]at ha;exact .inr ⟨_,ha.2.symm⟩)
  | call c=>
   rw[hop]at hc;obtain⟨cal,args,tys⟩:=c
   cases cal with
   | builtin b=>cases b <;> simp[cls]at hc
   | _=>simp[cls]at hc
  | _=>rw[hop]at hc;simp[cls]at hc
 ·simp only[l'a,l'd]at ha;exact .inl ha.2.symm
theorem I'g (L:O.Law){ops:Array Oper}{i j:Nat}{x y:Oper}(hx:ops[i]?=some x)(hy:ops[j]?=some y)(ha:apart ops x y=true)(s F:Array Value×H):
  (B'k P O ro call ops i s).bind (B'k P O ro call ops j) = some F → (B'k P O ro call ops j s).bind (B'k P O ro call ops i) = some F := by
 obtain⟨t,h⟩:=s;simp only[apart,l'k,Bool.or_eq_true,beq_iff_eq]at ha;obtain⟨⟨h1,h2⟩,h3⟩:=ha;have rx:∀e,x.dst=some e->B'I ops y e=false∧y.dst≠some e:=by
  intro e he;simp only[he,l'k,l'L,l'A]at h1;exact h1
 have ry:∀e,y.dst=some e->B'I ops x e=false:=by
  intro e he;simp only[he,l'L]at h2;exact h2
 have cm:∀u v,B'Q (B'Q t x.dst u) y.dst v=B'Q (B'Q t y.dst v) x.dst u:=λu v=>D'8 λe he=>(rx e he).2;have ay:∀u g,C'y P O ro call ops y (B'Q t x.dst u) g=C'y P O ro call ops y t g:=λu g=>C'5 λe he=>(rx e he).1;have ax:∀u g,C'y P O ro call ops x (B'Q t y.dst u) g=C'y P O ro call ops x t g:=λu g=>C'5 λe he=>ry e he;rw[B'l hx,B'l hy];rcases h3 with ((h3|h3)|⟨h3,h4⟩)|⟨h3,h4⟩
 ·obtain⟨f,hf⟩:=D'7 (P:=P) (O:=O) (ro:=ro) (call:=call) (ops:=ops) h3 t;rw[hf]
  cases f with
  | none=>intro hh;simp at hh
  | some v=>
   simp only[l'l,l't,B'l hy,ay]
   cases hr:C'y P O ro call ops y t h with
   | none=>intro hh;simp at hh
   | some r=>intro hh;simpa [B'l hx,ax,hf,cm]using hh
 ·obtain⟨f,hf⟩:=D'7 (P:=P) (O:=O) (ro:=ro) (call:=call) (ops:=ops) h3 t;rw[hf]
  cases f with
  | none=>
   cases hr:C'y P O ro call ops x t h with
   | none=>intro hh;simp at hh
   | some r=>intro hh;simp[B'l hy,ay,hf]at hh
  | some v=>
   simp only[l'l,l't,B'l hx,ax]
   cases hr:C'y P O ro call ops x t h with
   | none=>intro hh;simp at hh
   | some r=>intro hh;simpa [B'l hy,ay,hf,cm]using hh
 ·obtain⟨f,hf⟩:=D'r (P:=P) (O:=O) (ro:=ro) (call:=call) (ops:=ops) h3 t;obtain⟨g,hg⟩:=D'r (P:=P) (O:=O) (ro:=ro) (call:=call) (ops:=ops) h4 t;rw[hf,hg]
  cases hfv:f h <;> cases hgv:g h <;> simp[B'l hx,B'l hy,ax,ay,hf,hg,hfv,hgv,cm]
 ·-- a read,and a block that is made
  intro hh
  cases hax:C'y P O ro call ops x t h with
  | none=>rw[hax]at hh;simp at hh
  | some r=>
   obtain⟨v,h0⟩:=r;have hh0:h0=h:=by
    obtain⟨f,hf⟩:=D'r (P:=P) (O:=O) (ro:=ro) (call:=call) (ops:=ops) h3 t;rw[hf]at hax
    cases hfv:f h with
    | none=>rw[hfv]at hax;simp at hax
    | some q=>rw[hfv]at hax;simp at hax;exact hax.2.symm
   subst hh0;rw[hax]at hh;simp only[l'l,l't,B'l hy,ay]at hh
   cases hay:C'y P O ro call ops y t h0 with
   | none=>rw[hay]at hh;simp at hh
   | some q=>
    obtain⟨u,h'⟩:=q;rw[hay]at hh;have hax':C'y P O ro call ops x t h'=some (v,h'):=by
     rcases H'x h4 hay with rfl|⟨cs,rfl⟩
     ·exact hax
     ·unfold C'y at hax ⊢;split
      ·rename_i hw
       rw[if_pos hw]at hax;simp only[opA,h3]at hax ⊢
       cases hrd:C'b P O (A'9 t) x.op h0 with
       | none=>rw[hrd]at hax;simp at hax
       | some z=>
        rw[hrd]at hax;simp only[l'l,l'a,l'd]at hax;rw[I'f L cs hrd];simp[hax.1]
      ·rename_i hw
       rw[if_neg hw]at hax;simp only[l'a,l'd]at hax;simp[hax.1]
    simp only[l'l,l't,B'l hx,ax,hax'];simpa [cm]using hh
def I'h (qs:FuncId->Bool): Op->Bool
 | .call { callee:=.value (.func f),.. }=>qs f
 | _=>false
def rdl (qs:FuncId->Bool)(op:Op): Bool:=cls op==1||I'h qs op
def E'P (qs:FuncId->Bool)(ops:Array Oper)(x y:Oper): Bool:=
 (match x.dst with | some d => !B'I ops y d && !(y.dst == some d) | none => true) &&
 (match y.dst with|some d=>!B'I ops x d|none=>true)&&(rdl qs x.op&&rdl qs y.op)
def G'k (qs:FuncId->Bool)(call:FuncId->List Value->H->Option (Value×H)): Prop:=∀f args h v h',qs f=true->call f args h=some (v,h')->h'=h
theorem E'7 {qs:FuncId->Bool}(hq:G'k qs call){ops:Array Oper}{o:Oper}(hc:rdl qs o.op=true)(t:Array Value): ∃f:H->Option Value,∀h,C'y P O ro call ops o t h=(f h).map λv=>(v,h):=by
 simp only[rdl,Bool.or_eq_true,beq_iff_eq]at hc;rcases hc with hc|hc
 ·exact D'r hc t
 ·unfold I'h at hc;split at hc
  ·rename_i f args tys hop
   by_cases hw:Region.wanted o (yielded ops t)=true
   ·refine⟨λh=>(call f (args.toList.map (A'9 t)) h).map (·.1),λh=>?_⟩;have e:C'y P O ro call ops o t h=call f (args.toList.map (A'9 t)) h:=by
     simp only[C'y,hw,if_true,opA,hop,cls,D'c]
    rw[e]
    cases hcl:call f (args.toList.map (A'9 t)) h with
    | none=>simp only[hcl,Option.map_none]
    | some r=>
     obtain⟨v,h'⟩:=r;have:=hq f _ h v h' hc hcl;subst this;simp only[hcl,l'l]
   ·exact⟨λ_=>some undef,λh=>by simp[C'y,hw]⟩
  ·simp at hc
theorem H'y {qs:FuncId->Bool}(hq:G'k qs call){ops:Array Oper}{i j:Nat}{x y:Oper}(hx:ops[i]?=some x)(hy:ops[j]?=some y)(ha:E'P qs ops x y=true)(s F:Array Value×H):
  (B'k P O ro call ops i s).bind (B'k P O ro call ops j) = some F → (B'k P O ro call ops j s).bind (B'k P O ro call ops i) = some F := by
 obtain⟨t,h⟩:=s;simp only[E'P,l'k]at ha;obtain⟨⟨h1,h2⟩,h3,h4⟩:=ha;have rx:∀e,x.dst=some e->B'I ops y e=false∧y.dst≠some e:=by
  intro e he;simp only[he,l'k,l'L,l'A]at h1;exact h1
 have ry:∀e,y.dst=some e->B'I ops x e=false:=by
  intro e he;simp only[he,l'L]at h2;exact h2
 have cm:∀u v,B'Q (B'Q t x.dst u) y.dst v=B'Q (B'Q t y.dst v) x.dst u:=λu v=>D'8 λe he=>(rx e he).2;have ay:∀u g,C'y P O ro call ops y (B'Q t x.dst u) g=C'y P O ro call ops y t g:=λu g=>C'5 λe he=>(rx e he).1;have ax:∀u g,C'y P O ro call ops x (B'Q t y.dst u) g=C'y P O ro call ops x t g:=λu g=>C'5 λe he=>ry e he;rw[B'l hx,B'l hy];obtain⟨f,hf⟩:=E'7 (P:=P) (O:=O) (ro:=ro) (ops:=ops) hq h3 t;obtain⟨g,hg⟩:=E'7 (P:=P) (O:=O) (ro:=ro) (ops:=ops) hq h4 t;rw[hf,hg]
 cases hfv:f h <;> cases hgv:g h <;> simp[B'l hx,B'l hy,ax,ay,hf,hg,hfv,hgv,cm]
theorem B'B (ops:Array Oper)(i:Nat)(r:List Nat)(s:Array Value×H):
  C'X P O ro call ops (i :: r) s=(B'k P O ro call ops i s).bind (C'X P O ro call ops r):=by
 simp only[C'X]
 cases B'k P O ro call ops i s <;> rfl
def J'R (o:Oper)(x:Operand): Bool:=
 match o.dst with
 | some d=>!E'6 d x
 | none=>true
theorem I'i {t:Array Value}{o:Oper}{x:Operand}(h:J'R o x=true)(v:Value): A'9 (B'Q t o.dst v) x=A'9 t x:=by
 unfold J'R at h
 cases hd:o.dst with
 | none=>rfl
 | some d=>
  rw[hd]at h;exact F'A (by simpa using h)
theorem C'z {ops:Array Oper}{i:Nat}{s s':Array Value×H}{x:Operand}(h:B'k P O ro call ops i s=some s')(hw:∀o,ops[i]?=some o->J'R o x=true): A'9 s'.1 x=A'9 s.1 x:=by
 obtain⟨t,g⟩:=s
 cases ho:ops[i]? with
 | none=>
  simp only[B'k,ho,l'a]at h;subst h;rfl
 | some o=>
  rw[B'l ho]at h
  cases ha:C'y P O ro call ops o t g with
  | none=>rw[ha]at h;simp at h
  | some r=>
   rw[ha]at h;simp only[l'l,l'a]at h;subst h;exact I'i (hw o ho) _
theorem F'B {ops:Array Oper}{x:Operand}: ∀(l:List Nat)(s s':Array Value×H),C'X P O ro call ops l s=some s'->(∀k∈l,∀o,ops[k]?=some o->J'R o x=true)->A'9 s'.1 x=A'9 s.1 x:=by
 intro l
 induction l with
 | nil=>intro s s' h _;simp only[C'X,l'a]at h;subst h;rfl
 | cons i l ih=>
  intro s s' h hw;rw[B'B]at h
  cases hs:B'k P O ro call ops i s with
  | none=>rw[hs]at h;simp at h
  | some s1=>
   rw[hs,l't]at h;rw[ih s1 s' h (λk hk=>hw k (by simp[hk])),C'z hs (hw i (by simp))]
theorem G'l (L:O.Law){b0:Nat}: ∀(l:List Value) (o0:Nat)(h h':H),A'6 O h b0 o0 l=some h'->∀b o v,b≠b0->O.cell h b o=some v->O.cell h' b o=some v:=by
 intro l
 induction l with
 | nil=>intro o0 h h' hp b o v _ hv;simp only[A'6,l'a]at hp;subst hp;exact hv
 | cons x l ih=>
  intro o0 h h' hp b o v hb hv;simp only[A'6]at hp
  cases hc:O.cell h b0 o0 with
  | none=>rw[hc]at hp;simp at hp
  | some y=>
   rw[hc]at hp;refine ih _ _ _ hp b o v hb ?_;rw[L.cell_put _ _ _ _ _ hc,if_neg (λe=>hb e.1)];exact hv
theorem D'9 (L:O.Law){h:H}(cs:List Value){b o:Nat}{v:Value}(hv:O.cell h b o=some v): O.cell (O.new h cs) b o=some v:=by
 have hlt:=L.alive_lt _ _ (L.cell_alive _ _ _ _ hv);rw[L.cell_new,if_neg (by omega)];exact hv
theorem D'P (L:O.Law){tys:List TypeId}{s:Value}{r:List Value}{h h':H}{u:Value}(ha:C'W P O ro tys (s :: r) h=some (u,h')){b:Nat}
  (hb : ∀ a len cap, s = .slice (some a) len cap → b ≠ a.block){o : Nat}{v : Value}(hv : O.cell h b o = some v): O.cell h' b o = some v := by
 unfold C'W at ha;split at ha
 ·rename_i t w base len cap x hargs
  simp only[List.cons.injEq]at hargs;obtain⟨rfl,rfl⟩:=hargs;split at ha
  ·simp at ha
  ·split at ha
   ·split at ha
    ·split at ha
     ·split at ha
      ·simp at ha
      ·split at ha
       ·split at ha
        ·split at ha
         ·split at ha
          ·simp only[l'a,l'd]at ha;rw[<-ha.2];exact hv
          ·simp only[l'a,l'd]at ha;rw[<-ha.2];exact D'9 L _ hv
         ·simp at ha
        ·rename_i a
         have hb':=hb a len cap rfl;split at ha
         ·simp at ha
         ·split at ha
          ·split at ha
           ·split at ha
            ·simp only[l'a,l'd]at ha;rw[<-ha.2];refine D'9 L _ ?_;rw[L.cell_kill,if_neg hb'];exact hv
            ·split at ha
             ·split at ha
              ·rename_i hp
               simp only[l'a,l'd]at ha;rw[<-ha.2];exact G'l L _ _ _ _ hp _ _ _ hb' hv
              ·simp at ha
             ·simp only[l'a,l'd]at ha;rw[<-ha.2];exact D'9 L _ hv
           ·simp at ha
          ·simp at ha
       ·simp at ha
     ·simp at ha
    ·simp at ha
   ·simp at ha
 ·simp at ha
theorem F'C {h h':H}{b:Nat}(hk:∀o v,O.cell h b o=some v->O.cell h' b o=some v): ∀(n o:Nat)(l:List Value),cellsA O h b o n=some l->cellsA O h' b o n=some l:=by
 intro n
 induction n with
 | zero=>intro o l hl;simpa [cellsA]using hl
 | succ n ih=>
  intro o l hl;simp only[cellsA]at hl ⊢
  cases h1:O.cell h b o with
  | none=>rw[h1]at hl;simp at hl
  | some v=>
   cases h2:cellsA O h b (o+1) n with
   | none=>rw[h1,h2]at hl;simp at hl
   | some r=>
    rw[h1,h2]at hl;rw[hk _ _ h1,ih _ _ h2];exact hl
theorem E'a {h h':H}{t:TypeId}{a:Addr}{v:Value}(hk:∀o v,O.cell h a.block o=some v->O.cell h' a.block o=some v)(hl:B'1 P O t (.pointer (some a)) h=some v): B'1 P O t (.pointer (some a)) h'=some v:=by
 unfold B'1 at hl ⊢;simp only at hl ⊢;have multi:∀n,(cellsA O h a.block a.off n).map (λl=>Value.agg l.toArray)=some v->(cellsA O h' a.block a.off n).map (λl=>Value.agg l.toArray)=some v:=by
  intro n hm
  cases hc:cellsA O h a.block a.off n with
  | none=>rw[hc]at hm;simp at hm
  | some l=>rw[F'C hk _ _ _ hc];rw[hc]at hm;exact hm
 cases hu:P.underlying t with
 | none=>rw[hu]at hl;simp at hl
 | some d=>
  cases hi:P.info? t with
  | none=>rw[hu,hi]at hl;cases d <;> simp at hl
  | some i=>
   rw[hu,hi]at hl
   cases d with
   | struct fs=>exact multi _ hl
   | array n e=>exact multi _ hl
   | _=>exact hk _ _ hl
def F'D (ops:Array Oper)(j i:Nat)(x y:Oper): Bool:=
 (match x.dst with | some d => !B'I ops y d && !(y.dst == some d) | none => true) &&
 (match y.dst with | some d => !B'I ops x d | none => true) &&
 (match D'6 x y with
  | some (a,s)=>(ops.toList.drop j).all (J'R · a)&&(ops.toList.drop i).all (J'R · s)
  | none=>false)
theorem H'z (L:O.Law){ops:Array Oper}{i j:Nat}{x y:Oper}(hx:ops[i]?=some x)(hy:ops[j]?=some y){a s0:Operand}(hp:D'6 x y=some (a,s0))
  (h1 : ∀ e, x.dst = some e → B'I ops y e = false ∧ y.dst ≠ some e)(h2 : ∀ e, y.dst = some e → B'I ops x e = false)(s F : Array Value × H)(hsep : J'W (A'9 s.1 a) (A'9 s.1 s0) = true):
  (B'k P O ro call ops i s).bind (B'k P O ro call ops j) = some F → (B'k P O ro call ops j s).bind (B'k P O ro call ops i) = some F := by
 obtain⟨t,h⟩:=s;have cm:∀u v,B'Q (B'Q t x.dst u) y.dst v=B'Q (B'Q t y.dst v) x.dst u:=λu v=>D'8 λe he=>(h1 e he).2;have ay:∀u g,C'y P O ro call ops y (B'Q t x.dst u) g=C'y P O ro call ops y t g:=λu g=>C'5 λe he=>(h1 e he).1;have ax:∀u g,C'y P O ro call ops x (B'Q t y.dst u) g=C'y P O ro call ops x t g:=λu g=>C'5 λe he=>h2 e he;unfold D'6 at hp;split at hp
 ·rename_i gx gy lx ly
  simp only[l'a,l'd]at hp;obtain⟨rfl,rfl⟩:=hp;have wx:Region.wanted x (yielded ops t)=true:=by simp[Region.wanted,gx]
  have wy:Region.wanted y (yielded ops t)=true:=by simp[Region.wanted,gy]
  cases hxo:x.op with
  | load ty a'=>
   rw[hxo]at lx;simp only[M'y,l'a]at lx;subst lx
   cases hyo:y.op with
   | call cl=>
    obtain⟨cal,args,tys⟩:=cl;rw[hyo]at ly
    cases cal with
    | builtin b=>
     cases b <;> simp only[D'5,reduceCtorEq]at ly
     obtain⟨la⟩:=args
     cases la with
     | nil=>simp at ly
     | cons z r=>
      simp only[List.head?_cons,l'a]at ly;subst ly;rw[B'l hx,B'l hy];intro hh;have eax:∀g,C'y P O ro call ops x t g=(B'1 P O ty (A'9 t a') g).map λv=>(v,g):=λg=>by
       simp only[C'y,wx,if_true,opA,hxo,cls,C'b]
      have eay:∀g,C'y P O ro call ops y t g=C'W P O ro tys.toList (A'9 t z :: r.map (A'9 t)) g:=λg=>by
       simp only[C'y,wy,if_true,opA,hyo,cls,D'c,l'J]
      rw[eax]at hh
      cases hl:B'1 P O ty (A'9 t a') h with
      | none=>rw[hl]at hh;simp at hh
      | some u=>
       rw[hl]at hh;simp only[l'l,l't,B'l hy,ay]at hh;rw[eay]at hh
       cases hap:C'W P O ro tys.toList (A'9 t z :: r.map (A'9 t)) h with
       | none=>rw[hap]at hh;simp at hh
       | some q=>
        obtain⟨v,h'⟩:=q;rw[hap]at hh;have hl':B'1 P O ty (A'9 t a') h'=some u:=by
         unfold J'W at hsep;split at hsep
         ·rename_i ad l c ea es
          rw[ea]at hl ⊢;exact E'a (λo v hv=>D'P L hap (λa len cap e=>by rw[es]at e;simp at e) hv) hl
         ·rename_i ad bd l c ea es
          rw[ea]at hl ⊢;refine E'a (λo v hv=>D'P L hap (λa len cap e=>?_) hv) hl;rw[es]at e;simp only[Value.slice.injEq,l'a]at e;obtain⟨rfl,_,_⟩:=e;intro heq;rw[heq]at hsep;simp at hsep
         ·simp at hsep
        rw[eay,hap];simp only[l'l,l't,B'l hx,ax,eax,hl']at hh ⊢;rw[<-cm];exact hh
    | _=>simp[D'5]at ly
   | _=>rw[hyo]at ly;simp[D'5]at ly
  | _=>rw[hxo]at lx;simp[M'y]at lx
 ·simp at hp
theorem I'j {ops:Array Oper}{i:Nat}: ∀(pre post:List Nat)(F:Array Value×H),(∀pre1 j pre2,pre=pre1++j :: pre2->∀s s2,(B'k P O ro call ops j s).bind (B'k P O ro call ops i)=some s2->C'X P O ro call ops (pre2++post) s2=some F->(B'k P O ro call ops i s).bind (B'k P O ro call ops j)=some s2) ->
  ∀s,C'X P O ro call ops (pre++i :: post) s=some F->C'X P O ro call ops (i :: (pre++post)) s=some F:=by
 intro pre
 induction pre with
 | nil=>intro post F _ s h;exact h
 | cons j pre ih=>
  intro post F h s hF;rw[List.cons_append,B'B]at hF
  cases hs:B'k P O ro call ops j s with
  | none=>rw[hs]at hF;simp at hF
  | some s1=>
   rw[hs,l't]at hF;have h2:=ih post F (λp1 k p2 hk=>h (j :: p1) k p2 (by rw[hk];rfl)) s1 hF;rw[B'B]at h2
   cases hs2:B'k P O ro call ops i s1 with
   | none=>rw[hs2]at h2;simp at h2
   | some s2=>
    rw[hs2,l't]at h2;have hc:=h [] j pre rfl s s2 (by rw[hs,l't];exact hs2) h2;rw[B'B]
    cases hs3:B'k P O ro call ops i s with
    | none=>rw[hs3]at hc;simp at hc
    | some s3=>
     rw[hs3,l't]at hc;rw[l't,List.cons_append,B'B,hc,l't];exact h2
end
end Go.Vm
namespace Go.Vm
open Go.RowKit
structure Place where
 blk:Nat
 off:Nat
 size:Nat
def SR (β:List Place)(v v':Value): Prop:=
 match v with
 | .bool b=>v' = .bool b
 | .int k n=>v' = .int k n
 | .string s=>v' = .string s
 | .pointer none=>v' = .pointer none
 | .pointer (some a)=>∃p,β[a.block]?=some p∧v' = .pointer (some ⟨p.blk,p.off+a.off,none⟩)
 | .slice none l c=>l=0∧c=0∧v' = .slice none 0 0
 | .slice (some a) len cap=>∃p c z,β[a.block]?=some p∧a.spot=some z∧v' = .slice (some ⟨p.blk,p.off+a.off,none⟩) len c∧len<=c∧p.off+a.off+c*z<=p.size∧(cap≠0->c+1=cap)
 | _=>False
def LR (R:Value->Value->Prop)(xs ys:List Value): Prop:=ys.length=xs.length∧∀(i:Nat) x,xs[i]?=some x->∃y,ys[i]?=some y∧R x y
def CR (β:List Place)(v v':Value): Prop:=
 match v with
 | .agg cs=>∃cs',v' = .agg cs'∧LR (SR β) cs.toList cs'.toList
 | v=>SR β v v'
def VR (β:List Place)(v v':Value): Prop:=
 match v with
 | .tuple vs=>∃vs',v' = .tuple vs'∧LR (CR β) vs.toList vs'.toList
 | v=>CR β v v'
theorem LR.nil (R:Value->Value->Prop): LR R [] []:=⟨rfl,λi x h=>by simp at h⟩
theorem LR.cons {R:Value->Value->Prop}{x y:Value}{xs ys:List Value}(h:R x y)(hs:LR R xs ys): LR R (x :: xs) (y :: ys):=by
 refine⟨by simp[hs.1],λi z hz=>?_⟩
 cases i with
 | zero=>simp at hz;subst hz;exact⟨y,rfl,h⟩
 | succ i=>exact hs.2 i z (by simpa using hz)
theorem LR.cons_inv {R:Value->Value->Prop}{x:Value}{xs ys:List Value}(h:LR R (x :: xs) ys): ∃y r,ys=y :: r∧R x y∧LR R xs r:=by
 obtain⟨h1,h2⟩:=h
 cases ys with
 | nil=>simp at h1
 | cons y r=>
  obtain⟨y',hy,hr⟩:=h2 0 x rfl;simp at hy;subst hy;exact⟨_,r,rfl,hr,by simpa using h1,λi z hz=>by simpa using h2 (i+1) z (by simpa using hz)⟩
theorem LR.nil_inv {R:Value->Value->Prop}{ys:List Value}(h:LR R [] ys): ys=[]:=by
 have:=h.1;simpa using this
theorem LR.mono {R S:Value->Value->Prop}{xs ys:List Value}(h:LR R xs ys)(hr:∀x y,R x y->S x y): LR S xs ys:=
 ⟨h.1,λi x hx=>let ⟨y,hy,r⟩:=h.2 i x hx;⟨y,hy,hr _ _ r⟩⟩
theorem LR.append {R:Value->Value->Prop}{xs ys as bs:List Value}(h:LR R xs ys)(k:LR R as bs): LR R (xs++as) (ys++bs):=by
 induction xs generalizing ys with
 | nil=>rw[LR.nil_inv h];exact k
 | cons x xs ih=>
  obtain⟨y,r,rfl,hr,hs⟩:=LR.cons_inv h;exact LR.cons hr (ih hs)
theorem LR.set {R:Value->Value->Prop}{xs ys:List Value}(h:LR R xs ys){x y:Value}(hr:R x y)(n:Nat): LR R (xs.set n x) (ys.set n y):=by
 refine⟨by simp[h.1],λi z hz=>?_⟩;rw[List.getElem?_set]at hz ⊢;split
 ·rename_i e
  rw[if_pos e]at hz;split at hz
  ·rename_i hl
   simp at hz;subst hz;exact⟨y,by rw[if_pos (by rw[h.1];exact hl)],hr⟩
  ·simp at hz
 ·rename_i e
  rw[if_neg e]at hz;exact h.2 i z hz
theorem SR.mono {β β':List Place}(hp:β <+: β'){v v':Value}(h:SR β v v'): SR β' v v':=by
 have key:∀(b:Nat) p,β[b]?=some p->β'[b]?=some p:=λb p hb=>by
  obtain⟨r,rfl⟩:=hp;rw[l'e (l'b.1 hb).1];exact hb
 cases v with
 | pointer a=>cases a with
  | none=>exact h
  | some a=>obtain⟨p,hp,r⟩:=h;exact⟨p,key _ _ hp,r⟩
 | slice a l c=>cases a with
  | none=>exact h
  | some a=>obtain⟨p,c',z,hp,r⟩:=h;exact⟨p,c',z,key _ _ hp,r⟩
 | _=>exact h
theorem M'z (v:Value): (∃cs,v = .agg cs)∨∀β v',CR β v v'=SR β v v':=by
 cases v <;> first|exact .inr λ_ _=>rfl|exact .inl ⟨_,rfl⟩
theorem M'A (v:Value): (∃cs,v = .tuple cs)∨∀β v',VR β v v'=CR β v v':=by
 cases v <;> first|exact .inr λ_ _=>rfl|exact .inl ⟨_,rfl⟩
theorem CR.mono {β β':List Place}(hp:β <+: β'){v v':Value}(h:CR β v v'): CR β' v v':=by
 rcases M'z v with ⟨cs,rfl⟩|e
 ·obtain⟨cs',e,r⟩:=h;exact⟨cs',e,r.mono λ_ _=>SR.mono hp⟩
 ·rw[e]at h ⊢;exact SR.mono hp h
theorem VR.mono {β β':List Place}(hp:β <+: β'){v v':Value}(h:VR β v v'): VR β' v v':=by
 rcases M'A v with ⟨vs,rfl⟩|e
 ·obtain⟨vs',e,r⟩:=h;exact⟨vs',e,r.mono λ_ _=>CR.mono hp⟩
 ·rw[e]at h ⊢;exact CR.mono hp h
theorem SR.flat {β:List Place}{v v':Value}(h:SR β v v'): B'f v=true∧B'f v'=true:=by
 cases v with
 | pointer a=>cases a with
  | none=>cases h;exact⟨rfl,rfl⟩
  | some a=>obtain⟨p,_,rfl⟩:=h;exact⟨rfl,rfl⟩
 | slice a l c=>cases a with
  | none=>obtain⟨_,_,rfl⟩:=h;exact⟨rfl,rfl⟩
  | some a=>obtain⟨p,c',z,_,_,rfl,_⟩:=h;exact⟨rfl,rfl⟩
 | bool b=>cases h;exact⟨rfl,rfl⟩
 | int k n=>cases h;exact⟨rfl,rfl⟩
 | string s=>cases h;exact⟨rfl,rfl⟩
 | _=>exact h.elim
theorem SR.toCR {β:List Place}{v v':Value}(h:SR β v v'): CR β v v':=by
 rcases M'z v with ⟨cs,rfl⟩|e
 ·exact (h:False).elim
 ·rw[e];exact h
theorem CR.toVR {β:List Place}{v v':Value}(h:CR β v v'): VR β v v':=by
 rcases M'A v with ⟨cs,rfl⟩|e
 ·exact (h:False).elim
 ·rw[e];exact h
theorem SR.toVR {β:List Place}{v v':Value}(h:SR β v v'): VR β v v':=h.toCR.toVR
theorem VR.undef (β:List Place): VR β undef undef:=⟨#[],rfl,LR.nil _⟩
theorem E'Q {v:Value}(h:B'f v=true): v.cells = #[v]:=by
 cases v <;> first|rfl|(simp[B'f]at h)
theorem CR.cells {β:List Place}{v v':Value}(h:CR β v v'): LR (SR β) v.cells.toList v'.cells.toList:=by
 rcases M'z v with ⟨cs,rfl⟩|e
 ·obtain⟨cs',rfl,r⟩:=h;exact r
 ·rw[e]at h;rw[E'Q h.flat.1,E'Q h.flat.2];exact LR.cons h (LR.nil _)
structure Prot where
 w:World
 s:Nat->Option Obj
section
variable {P:Program}{H:Type}{O:HI H}{G ro:Nat}{w0:Prot}
structure Rel (O:HI H) (G ro:Nat)(w0:Prot)(β:List Place)(h:H)(w:World):Prop where
 len:β.length=O.next h
 below:Below w0.w.heap.size w0.w w
 glob:∀g,g<G->∃p,β[g]?=some p∧p.blk=g∧p.off=0
 own:∀(b:Nat) p,β[b]?=some p->ro<=b->w0.w.heap.size<=p.blk
 cells:∀(b:Nat) p,β[b]?=some p->∃c e fz,w.heap[p.blk]?=some (.cells c e fz)∧c.size=p.size∧(ro<=b->fz=(0,0)) ∧
  ∀o v,O.cell h b o=some v->∃v',c[p.off+o]?=some v'∧SR β v v'
 inj:∀(b b':Nat) p p',β[b]?=some p->β[b']?=some p'->O.alive h b=true->O.alive h b'=true->ro<=b->p.blk=p'.blk->b=b'
 ro_le:ro<=O.next h
 ext:∀k o,w0.s k=some o->w.heap[k]?=some o∧∀(b:Nat) p,β[b]?=some p->O.alive h b=true->p.blk≠k
theorem Rel.drew {β:List Place}{h:H}{w:World}(r:Rel O G ro w0 β h w): Rel O G ro w0 β h { w with drawn:=w.drawn+1 }:=
 ⟨r.len,⟨r.below.os,r.below.tape,r.below.output,r.below.size,r.below.block⟩,r.glob,r.own,r.cells,r.inj,r.ro_le,r.ext⟩
def TR (β:List Place)(t t':Array Value): Prop:=t'.size=t.size∧∀i,VR β (t.getD i undef) (t'.getD i undef)
theorem TR.mono {β β':List Place}(hp:β <+: β'){t t':Array Value}(h:TR β t t'): TR β' t t':=⟨h.1,λi=>(h.2 i).mono hp⟩
theorem TR.put {β:List Place}{t t':Array Value}(h:TR β t t'){v v':Value}(hv:VR β v v')(d:Option Tmp): TR β (B'Q t d v) (B'Q t' d v'):=by
 cases d with
 | none=>exact h
 | some d=>
  refine⟨by simp[B'Q,h.1],λi=>?_⟩;simp only[B'Q,l'q,l'u]
  by_cases e:d=i
  ·rw[if_pos e,if_pos e,h.1];split
   ·simpa using hv
   ·simpa using VR.undef β
  ·rw[if_neg e,if_neg e];simpa [l'q]using h.2 i
theorem C'Y {β:List Place}{h:H}{w:World}(r:Rel O G ro w0 β h w){t:Array Value}{a:Act}(ht:TR β t a.tmps){x:Operand}(hx:B'v G x=true): VR β (A'9 t x) (a.eval x):=by
 cases x with
 | tmp i=>exact ht.2 i
 | global g=>
  simp only[B'v,l'M]at hx;obtain⟨p,hp,hb,ho⟩:=r.glob g hx;have hs:SR β (.pointer (some ⟨g,0,none⟩)) (.pointer (some ⟨g,0,none⟩)):=⟨p,hp,by simp[hb,ho]⟩;exact hs.toVR
 | func f=>simp[B'v]at hx
 | const v=>
  cases v with
  | bool b=>exact (rfl:Value.bool b = _)
  | int k n=>exact (rfl:Value.int k n = _)
  | string s=>exact (rfl:Value.string s = _)
  | pointer a=>cases a with
   | none=>exact (rfl:Value.pointer none = _)
   | some a=>simp[B'v]at hx
  | slice a l c=>cases a with
   | none=>
    cases l with
    | succ l=>simp[B'v]at hx
    | zero=>cases c with
     | succ c=>simp[B'v]at hx
     | zero=>exact (⟨rfl,rfl,rfl⟩:SR β (.slice none 0 0) (.slice none 0 0))
   | some a=>simp[B'v]at hx
  | _=>simp[B'v]at hx
theorem G'm {β:List Place}{t t':Array Value}(ht:TR β t t')(ops:Array Oper)(j:Nat): yielded ops t' j=yielded ops t j:=by
 simp only[yielded]
 cases hd:(ops[j]?).bind (·.dst) with
 | none=>rfl
 | some d=>
  simp only[l't];have h:=ht.2 d;simp only[l'q]at h
  by_cases hl:d<t.size
  ·have e1:t[d]?=some t[d]:=Array.getElem?_eq_getElem hl;have e2:t'[d]?=some (t'[d]'(by rw[ht.1];exact hl)):=Array.getElem?_eq_getElem _;rw[e1,e2]at h ⊢;simp only[Option.getD_some]at h;generalize t[d]=v at h;generalize t'[d]'_=v' at h
   cases v with
   | bool b=>cases (h:SR β (.bool b) v');rfl
   | tuple vs=>obtain⟨vs',rfl,_⟩:=h;rfl
   | agg vs=>obtain⟨vs',rfl,_⟩:=(h:CR β (.agg vs) v');rfl
   | int k n=>cases (h:SR β (.int k n) v');rfl
   | string k=>cases (h:SR β (.string k) v');rfl
   | pointer a=>cases a with
    | none=>cases (h:SR β (.pointer none) v');rfl
    | some a=>obtain⟨p,_,rfl⟩:=(h:SR β (.pointer (some a)) v');rfl
   | slice a l c=>cases a with
    | none=>obtain⟨_,_,rfl⟩:=(h:SR β (.slice none l c) v');rfl
    | some a=>obtain⟨p,_,_,_,_,rfl,_⟩:=(h:SR β (.slice (some a) l c) v');rfl
   | _=>exact (h:False).elim
  ·have e1:t[d]?=none:=Array.getElem?_eq_none (Nat.le_of_not_lt hl);have e2:t'[d]?=none:=Array.getElem?_eq_none (by rw[ht.1];exact Nat.le_of_not_lt hl);rw[e1,e2]
theorem E'R {β:List Place}{t t':Array Value}(ht:TR β t t')(ops:Array Oper)(o:Oper): Region.wanted o (yielded ops t')=Region.wanted o (yielded ops t):=by
 have:yielded ops t'=yielded ops t:=funext λj=>G'm ht ops j;rw[this]
end
end Go.Vm
