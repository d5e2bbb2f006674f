import Derived.Test.YtimdkminagnhgabGreatDoorQ03
set_option linter.all false
namespace Go.Vm
abbrev Env:= Nat->Value
abbrev A'X (H:Type):= FuncId->List Value->H->Option (Value×H)
abbrev C'J (H:Type):= A'X H->Env->H->Option (Value×H)
abbrev D'Q (H:Type):= A'X H->Env×H->Option (Env×H)
abbrev B'L (H:Type):= A'X H->Nat->Env×H->Option (Exit×(Env×H))
def upd (t:Env)(d:Nat)(v:Value): Env:=λi=>if i=d then v else t i
def ev (t:Env): Operand->Value
 | .tmp i=>t i
 | .const v=>v
 | .global g=>.pointer (some ⟨g,0,none⟩)
 | .func f=>.func (.func f) #[] #[]
def isB (v:Value)(b:Bool): Bool:=
 match v with
 | .bool c=>c==b
 | _=>false
section
variable {H:Type}(O:HI H)
def to (d:Nat)(f:C'J H): D'Q H:=λcall s=>
 match f call s.1 s.2 with
 | some (v,h)=>some (upd s.1 d v,h)
 | none=>none
def too (f:C'J H): D'Q H:=λcall s=>
 match f call s.1 s.2 with
 | some (_,h)=>some (s.1,h)
 | none=>none
def A'a (j:Nat)(b:Bool)(d:Nat)(f:D'Q H): D'Q H:=λcall s=>
 if isB (s.1 j) b then f call s else some (upd s.1 d undef,s.2)
def A'n (j:Nat)(b:Bool)(f:D'Q H): D'Q H:=λcall s=>
 if isB (s.1 j) b then f call s else some s
def reg: List (D'Q H)->D'Q H
 | []=>λ_ s=>some s
 | f :: l=>λcall s=>match f call s with
  | some s'=>reg l call s'
  | none=>none
def chk (a x:Operand): D'Q H:=λ_ s=>if J'W (ev s.1 a) (ev s.1 x) then some s else none
def Q'0 (ops:Array Oper)(draw:Bool): List (D'Q H):=if draw then (D'j ops).map λp=>chk p.1 p.2 else []
def A'i (x:Operand): C'J H:=λ_ t h=>some (ev t x,h)
def A'q (c a b:Operand): C'J H:=λ_ t h=>match ev t c with
 | .bool q=>some (if q then ev t a else ev t b,h)
 | _=>none
def B'C (x:Operand): C'J H:=λ_ t h=>match ev t x with
 | .pointer (some a)=>some (.pointer (some a),h)
 | _=>none
def I'c (P:Program)(op:BinOp)(ty:TypeId)(x y:Operand): C'J H:=λ_ t h=>(C'R P op ty (ev t x) (ev t y)).map λv=>(v,h)
def A'5 (op:BinOp)(x y:Operand): C'J H:=λ_ t h=>match ev t x,ev t y with
 | .int k a,.int k' b=>(if k=k' then C'f op k a b else none).map λv=>(v,h)
 | _,_=>none
def A'w (op:BinOp)(x y:Operand): C'J H:=λ_ t h=>match ev t x,ev t y with
 | .int k a,.int _ b=>(B'w op k a b).map λv=>(v,h)
 | _,_=>none
def B'4 (op:BinOp)(x y:Operand): C'J H:=λ_ t h=>match ev t x,ev t y with
 | .string a,.string b=>(F'y op a b).map λv=>(v,h)
 | _,_=>none
def A'o (neg:Bool)(x y:Operand): C'J H:=λ_ t h=>match ev t x,ev t y with
 | .pointer none,.pointer b=>some (.bool (b.isNone != neg),h)
 | .pointer (some _),.pointer none=>some (.bool (false != neg),h)
 | _,_=>none
def A'4 (neg:Bool)(x y:Operand): C'J H:=λ_ t h=>match ev t x,ev t y with
 | .slice none _ _,.slice b _ _=>some (.bool (b.isNone != neg),h)
 | .slice (some _) _ _,.slice none _ _=>some (.bool (false != neg),h)
 | _,_=>none
def A'A (neg:Bool)(x y:Operand): C'J H:=λ_ t h=>match ev t x,ev t y with
 | .bool a,.bool b=>some (.bool ((a==b) != neg),h)
 | _,_=>none
def aUn (op:UnOp)(x:Operand): C'J H:=λ_ t h=>(unA op (ev t x)).map λv=>(v,h)
def B'D (off:Nat)(x:Operand): C'J H:=λ_ t h=>match ev t x with
 | .pointer (some a)=>some (.pointer (some ⟨a.block,a.off+off,none⟩),h)
 | _=>none
def B'A (sz:Nat)(x ix:Operand): C'J H:=λ_ t h=>match ev t x,ev t ix with
 | .slice (some a) len _,.int _ i=>if 0<=i∧i<(len:Int) then some (.pointer (some ⟨a.block,a.off+i.toNat*sz,none⟩),h) else none
 | _,_=>none
def A'j (len sz:Nat)(x ix:Operand): C'J H:=λ_ t h=>match ev t x,ev t ix with
 | .pointer (some a),.int _ i=>if 0<=i∧i<(len:Int) then some (.pointer (some ⟨a.block,a.off+i.toNat*sz,none⟩),h) else none
 | _,_=>none
def A'3 (x ix:Operand): C'J H:=λ_ t h=>match ev t x,ev t ix with
 | .string s,.int _ i=>if 0<=i then (s[i.toNat]?).map λb=>(.int .u8 b.toNat,h) else none
 | _,_=>none
def aLd (x:Operand): C'J H:=λ_ t h=>match ev t x with
 | .pointer (some a)=>(O.cell h a.block a.off).map λv=>(v,h)
 | _=>none
def B'n (n:Nat)(x:Operand): C'J H:=λ_ t h=>match ev t x with
 | .pointer (some a)=>(cellsA O h a.block a.off n).map λl=>(.agg l.toArray,h)
 | _=>none
def aSt (ro n:Nat)(a x:Operand): C'J H:=λ_ t h=>match ev t a with
 | .pointer (some p)=>
  if p.block<ro then none else
  if (ev t x).cells.size=n∧(ev t x).cells.toList.all B'f then
   match A'6 O h p.block p.off (ev t x).cells.toList with
   | some h'=>some (undef,h')
   | none=>none
  else none
 | _=>none
def A'7 (x:Operand): C'J H:=λ_ t h=>match ev t x with
 | .string s=>some (.int .i64 s.size,h)
 | _=>none
def A'B (x:Operand): C'J H:=λ_ t h=>match ev t x with
 | .slice _ n _=>some (.int .i64 n,h)
 | _=>none
def A'2 (k:IntKind)(x:Operand): C'J H:=λ_ t h=>match ev t x with
 | .int _ n=>some (.int k (k.wrap n),h)
 | _=>none
def B'o (cs:List Value): C'J H:=λ_ _ h=>some (.pointer (some ⟨O.next h,0,none⟩),O.new h cs)
def B'r (x:Operand): C'J H:=λ_ t h=>if B'j (ev t x) then none else some (.pointer (some ⟨O.next h,0,none⟩),O.new h (ev t x).cells.toList)
def A'e (f:FuncId)(args:List Operand): C'J H:=λcall t h=>call f (args.map (ev t)) h
def B'E (x:Operand)(i:Nat): C'J H:=λ_ t h=>match ev t x with
 | .tuple vs=>(vs[i]?).map λv=>(v,h)
 | _=>none
def A'l (zs:Array Value)(ps:List (Nat×Nat))(parts:List (Nat×Operand)): C'J H:=λ_ t h=>
 if parts.all (λp=>!B'j (ev t p.2)) then (Instr.fill (ps[·]?) zs (parts.map λp=>(p.1,ev t p.2))).map λc=>(.agg c,h) else none
def A'x (sz len:Nat)(zs:Array Value)(parts:List (Nat×Operand)): C'J H:=λ_ t h=>
 if parts.all (λp=>!B'j (ev t p.2)) then
  match Instr.fill (λj=>some (j*sz,sz)) (rangeA zs (len*sz)).toArray (parts.map λp=>(p.1,ev t p.2)) with
  | some cells=>some (.slice (some ⟨O.next h,0,some sz⟩) len (len+1),O.new h cells.toList)
  | none=>none
 else none
def D'd (ro sz bytes:Nat)(s x:Value)(h:H): Option (Value×H):=
 match s,x with
 | .slice base len cap,.slice b' n _=>
  if (len+n)*bytes>140737488355328∨len+n>140737488355328 then none else
  match (match b' with|some b=>cellsA O h b.block b.off (n*sz)|none=>if n=0 then some [] else none) with
  | some new=>
   match base with
   | none=>
    if len=0∧cap=0 then
     if n=0 then some (.slice none 0 0,h) else some (.slice (some ⟨O.next h,0,some sz⟩) n 0,O.new h new)
    else none
   | some a=>
    if a.block<ro then none else
    if a.spot=some sz∧O.alive h a.block=true then
    match cellsA O h a.block a.off (len*sz) with
    | some old=>
     if cap=0 then
      some (.slice (some ⟨O.next h,0,some sz⟩) (len+n) 0,O.new (O.kill h a.block) (old++new))
     else if len+n<cap then
      match A'6 O h a.block (a.off+len*sz) new with
      | some h'=>some (.slice (some a) (len+n) cap,h')
      | none=>none
     else some (.slice (some ⟨O.next h,0,some sz⟩) (len+n) 0,O.new h (old++new))
    | none=>none
    else none
  | none=>none
 | _,_=>none
def B'p (ro sz bytes:Nat)(x y:Operand): C'J H:=λ_ t h=>D'd O ro sz bytes (ev t x) (ev t y) h
def B'P (x:Operand)(lo hi:Option Operand): C'J H:=λ_ t h=>
 match ev t x with
 | .string s=>
  match A'm (hi.map (ev t)) s.size s.size with
  | some e=>match A'm (lo.map (ev t)) 0 e with
   | some l=>some (.string (s.extract l e),h)
   | none=>none
  | none=>none
 | _=>none
def A'p (sz:Nat)(x:Operand)(lo hi:Option Operand): C'J H:=λ_ t h=>
 match ev t x with
 | .slice (some a) len cap=>
  if a.spot=some sz then
  match A'm (hi.map (ev t)) len (if cap=0 then len else cap-1) with
  | some e=>match A'm (lo.map (ev t)) 0 e with
   | some l=>
    if l=0 then some (.slice (some a) e cap,h)
    else if l<e then some (.slice (some ⟨a.block,a.off+l*sz,a.spot⟩) (e-l) (if cap=0 then 0 else cap-l),h)
    else none
   | none=>none
  | none=>none
  else none
 | .slice none len cap=>
  if len=0∧cap=0 then
  match A'm (hi.map (ev t)) 0 0 with
  | some e=>match A'm (lo.map (ev t)) 0 e with
   | some _=>some (.slice none 0 0,h)
   | none=>none
  | none=>none
  else none
 | _=>none
def I'A (off:Nat)(x:Operand): C'J H:=λ_ t h=>match ev t x with
 | .agg cs=>(cs[off]?).map λv=>(v,h)
 | _=>none
def C'j (n sz:Nat)(x:Operand)(lo hi:Option Operand): C'J H:=λ_ t h=>
 match ev t x with
 | .pointer (some a)=>
  match A'm (hi.map (ev t)) n n with
  | some h1=>match A'm (lo.map (ev t)) 0 h1 with
   | some l=>if l<h1∧(O.cell h a.block (a.off+n*sz-1)).isSome=true then some (.slice (some ⟨a.block,a.off+l*sz,some sz⟩) (h1-l) 0,h) else none
   | none=>none
  | none=>none
 | _=>none
def G'Y (x:Operand): C'J H:=λ_ t h=>match ev t x with
 | .slice (some a) len _=>match cellsA O h a.block a.off len with
  | some l=>(B'S l).map λbs=>(.string ⟨bs.toArray⟩,h)
  | none=>none
 | _=>none
def E'f (neg:Bool)(n:Nat)(x y:Operand): C'J H:=λ_ t h=>match ev t x,ev t y with
 | .agg xs,.agg ys=>if xs.size=n then (C'a xs.toList ys.toList).map λb=>(.bool (b != neg),h) else none
 | _,_=>none
def B'i (sz bytes:Nat)(zs:Array Value)(l c:Operand): C'J H:=λ_ t h=>match ev t l,ev t c with
 | .int _ l,.int _ c=>
  if 0<=l∧l<=c∧c*bytes<=140737488355328∧c<=140737488355328 then
   some (.slice (some ⟨O.next h,0,some sz⟩) l.toNat (c.toNat+1),O.new h (rangeA zs (c.toNat*sz)))
  else none
 | _,_=>none
def C'D (P:Program)(ro:Nat)(op:Op): C'J H:=λcall t h=>opA P O ro call (ev t) op h
def A'f: B'L H:=λ_ _ s=>some (.normal,s)
def A'y: B'L H:=λ_ _ s=>some (.ret,s)
def A'r (id:Nat): B'L H:=λ_ _ s=>some (.exit id,s)
def A'b (x y:B'L H): B'L H:=λcall n s=>
 match x call n s with
 | some (.normal,s')=>y call n s'
 | r=>r
def cIf (c:Operand)(x y:B'L H): B'L H:=λcall n s=>
 match ev s.1 c with
 | .bool true=>x call n s
 | .bool false=>y call n s
 | _=>none
def A'z (id:Nat)(x:B'L H): B'L H:=λcall n s=>(x call n s).map λr=>(A's id r.1,r.2)
def H'I (x:B'L H)(call:A'X H): Nat->Env×H->Option (Exit×(Env×H))
 | 0,_=>none
 | n+1,s=>match x call n s with
  | some (.normal,s')=>H'I x call n s'
  | r=>r
def A'1 (x:B'L H): B'L H:=λcall n s=>H'I x call n s
def A'c (l:List (D'Q H)): B'L H:=λcall _ s=>(reg l call s).map λs'=>(.normal,s')
variable (P:Program) (ro:Nat)
def E'U (t:TypeId): Option Bool:=
 match P.underlying t with
 | some (.struct _)|some (.array _ _)=>some true
 | some _=>some false
 | none=>none
def B'T (op:Op): C'J H:=
 match op with
 | .move x | .assign x=>A'i x
 | .pick c a b=>A'q c a b
 | .nilCheck x=>B'C x
 | .binOp o t x y _=>
  match o with
  | .shl | .shr=>A'w o x y
  | _=>
   match P.underlying t with
   | some (.int _)=>A'5 o x y
   | some .string=>B'4 o x y
   | some (.pointer _)=>(match o with | .eql=>A'o false x y | .neq=>A'o true x y|_=>I'c P o t x y)
   | some (.slice _)=>(match o with | .eql=>A'4 false x y | .neq=>A'4 true x y|_=>I'c P o t x y)
   | some .bool=>(match o with | .eql=>A'A false x y | .neq=>A'A true x y|_=>I'c P o t x y)
   | some (.struct fs)=>if C'V P t fs.size then (match o with | .eql=>E'f false fs.size x y | .neq=>E'f true fs.size x y|_=>I'c P o t x y) else I'c P o t x y
   | _=>I'c P o t x y
 | .unOp o _ x=>aUn o x
 | .fieldAddr s x f=>
  match P.underlying s with
  | some (.struct fs)=>match fs[f]? with
   | some fd=>match P.info? fd.type with
    | some i=>if i.size=0 then C'D O P ro op else B'D fd.offset x
    | none=>C'D O P ro op
   | none=>C'D O P ro op
  | _=>C'D O P ro op
 | .indexAddr t x ix=>
  match P.underlying t with
  | some (.slice e)=>match P.info? e with
   | some i=>B'A i.size x ix
   | none=>C'D O P ro op
  | some (.array n e)=>match P.info? e with
   | some i=>A'j n i.size x ix
   | none=>C'D O P ro op
  | _=>C'D O P ro op
 | .index t x ix=>
  match P.underlying t with
  | some .string=>A'3 x ix
  | _=>C'D O P ro op
 | .load t a=>
  match E'U P t,P.info? t with
  | some true,some i=>B'n O i.size a
  | some false,some _=>aLd O a
  | _,_=>C'D O P ro op
 | .store t a x=>
  match P.info? t with
  | some i=>aSt O ro i.size a x
  | none=>C'D O P ro op
 | .convert s d x=>
  match P.underlying s,P.underlying d with
  | some (.int _),some (.int k)=>A'2 k x
  | some (.slice e),some .string=>(match P.underlying e with|some (.int .u8)=>G'Y O x|_=>C'D O P ro op)
  | _,_=>C'D O P ro op
 | .build t parts=>
  match P.info? t,P.underlying t with
  | some i,some (.struct fs)=>
   match i.zero,C'K P fs.toList with
   | some z,some ps=>if C'w z then A'l z.cells ps parts.toList else C'D O P ro op
   | _,_=>C'D O P ro op
  | _,_=>C'D O P ro op
 | .buildSlice t len parts=>
  match P.underlying t with
  | some (.slice e)=>
   match P.info? e with
   | some i=>match i.zero with
    | some z=>if len*i.size>2^24∨C'w z=false∨z.cells.size=0 then C'D O P ro op else A'x O i.size len z.cells parts.toList
    | none=>C'D O P ro op
   | none=>C'D O P ro op
  | _=>C'D O P ro op
 | .makeSlice t l c=>
  match P.underlying t with
  | some (.slice e)=>
   match P.info? e with
   | some i=>match i.zero with
    | some z=>if C'w z=true∧z.cells.size≠0 then B'i O i.size i.bytes z.cells l c else C'D O P ro op
    | none=>C'D O P ro op
   | none=>C'D O P ro op
  | _=>C'D O P ro op
 | .slice t x lo hi mx=>
  match mx,P.underlying t with
  | none,some .string=>B'P x lo hi
  | none,some (.slice e)=>(match P.info? e with|some i=>A'p i.size x lo hi|none=>C'D O P ro op)
  | none,some (.array n e)=>(match P.info? e with|some i=>C'j O n i.size x lo hi|none=>C'D O P ro op)
  | _,_=>C'D O P ro op
 | .field t x f=>
  match P.underlying t with
  | some (.struct fs)=>match fs[f]? with
   | some fd=>match E'U P fd.type,P.info? fd.type with
    | some false,some _=>I'A fd.offset x
    | _,_=>C'D O P ro op
   | none=>C'D O P ro op
  | _=>C'D O P ro op
 | .alloc e=>
  match P.info? e with
  | some i=>match i.zero with
   | some z=>if C'w z then B'o O z.cells.toList else C'D O P ro op
   | none=>C'D O P ro op
  | none=>C'D O P ro op
 | .box _ x=>B'r O x
 | .extract x i=>B'E x i
 | .call { callee:=.builtin .len,args,argTypes }=>
  match argTypes.toList,args.toList with
  | t :: _,x :: _=>
   match P.underlying t with
   | some .string=>A'7 x
   | some (.slice _)=>A'B x
   | _=>C'D O P ro op
  | _,_=>C'D O P ro op
 | .call { callee:=.value (.func f),args,.. }=>A'e f args.toList
 | .call { callee:=.builtin .append,args,argTypes }=>
  match argTypes.toList,args.toList with
  | [t,u],[x,y]=>
   if t=u then
    match P.underlying t with
    | some (.slice e)=>match P.info? e with
     | some i=>if (i.zero.map λz=>z.cells.size)=some i.size then B'p O ro i.size i.bytes x y else C'D O P ro op
     | none=>C'D O P ro op
    | _=>C'D O P ro op
   else C'D O P ro op
  | _,_=>C'D O P ro op
 | _=>C'D O P ro op
def G'q (ops:Array Oper)(o:Oper): D'Q H:=
 let b:D'Q H:=match o.dst with
  | some d=>to d (B'T O P ro o.op)
  | none=>too (B'T O P ro o.op)
 match o.guard with
 | none=>b
 | some (j,w)=>match (ops[j]?).bind (·.dst),o.dst with
  | some k,some d=>A'a k w d b
  | some k,none=>A'n k w b
  | none,some d=>λ_ s=>some (upd s.1 d undef,s.2)
  | none,none=>λ_ s=>some s
def B'U: Code->B'L H
 | .skip=>A'f
 | .ret=>A'y
 | .exit id=>A'r id
 | .seq a b=>A'b (B'U a) (B'U b)
 | .cond c a b=>cIf c (B'U a) (B'U b)
 | .block id a=>A'z id (B'U a)
 | .loop a=>A'1 (B'U a)
 | .region _ ops draw=>A'c (ops.toList.map (G'q O P ro ops)++Q'0 ops draw)
 | _=>λ_ _ _=>none
def I'B (fn:Func): B'L H:=
 match fn.body with
 | some c=>B'U O P ro c
 | none=>λ_ _ _=>none
end
end Go.Vm
namespace Go.Vm
section
variable {P:Program}{H:Type}{O:HI H}{ro:Nat}{ok:FuncId->Bool}
def ER (n:Nat)(t:Array Value)(env:Env): Prop:=t.size=n∧∀i,i<n->t.getD i undef=env i
theorem ER.put {n:Nat}{t:Array Value}{env:Env}(h:ER n t env){d:Nat}(hd:d<n)(v:Value): ER n (B'Q t (some d) v) (upd env d v):=by
 refine⟨by simp[B'Q,h.1],λi hi=>?_⟩;simp only[B'Q,upd,l'q,l'u]
 by_cases e:d=i
 ·subst e;simp[h.1,hd]
 ·rw[if_neg e,if_neg (λh=>e h.symm),<-l'q];exact h.2 i hi
def inT (n:Nat): Operand->Bool
 | .tmp i=>decide (i<n)
 | _=>true
theorem ER.eval {n:Nat}{t:Array Value}{env:Env}(h:ER n t env){x:Operand}(hx:inT n x=true): A'9 t x=ev env x:=by
 cases x with
 | tmp i=>exact h.2 i (by simpa [inT]using hx)
 | _=>rfl
set_option maxHeartbeats 1000000 in
theorem F'I {call:A'X H}{env:Env}{h:H}{op:Op}{t:Array Value}{r:Value×H}(he:∀x∈A'Y op,A'9 t x=ev env x)(ha:B'T O P ro op call env h=some r): opA P O ro call (A'9 t) op h=some r:=by
 have any:C'D O P ro op call env h=some r->opA P O ro call (A'9 t) op h=some r:=λh'=>by
  rw[F'z he];exact h'
 cases op with
 | move x=>have:=he x (by simp[A'Y,Op.operands]);simpa [B'T,A'i,opA,cls,B'H,this]using ha
 | assign x=>have:=he x (by simp[A'Y,Op.operands]);simpa [B'T,A'i,opA,cls,B'H,this]using ha
 | pick c a b=>
  have h1:=he c (by simp[A'Y,Op.operands]);have h2:=he a (by simp[A'Y,Op.operands]);have h3:=he b (by simp[A'Y,Op.operands]);simp only[B'T,A'q]at ha;simp only[opA,cls,B'H,h1,h2,h3]
  cases hv:ev env c <;> rw[hv]at ha <;> first|(simp at ha;done)|simpa using ha
 | nilCheck x=>
  have h1:=he x (by simp[A'Y,Op.operands]);simp only[B'T,B'C]at ha;simp only[opA,cls,B'H,h1]
  cases hv:ev env x with
  | pointer a=>cases a <;> rw[hv]at ha <;> first|(simp at ha;done)|simpa using ha
  | _=>rw[hv]at ha;simp at ha
 | binOp o ty x y yt=>
  have h1:=he x (by simp[A'Y,Op.operands]);have h2:=he y (by simp[A'Y,Op.operands]);simp only[opA,cls,B'H,h1,h2];have gen:(C'R P o ty (ev env x) (ev env y)).map (λv=>(v,h))=some r->(C'R P o ty (ev env x) (ev env y)).map (λv=>(v,h))=some r:=id
  by_cases hs:o = .shl∨o = .shr
  ·have ha':A'w o x y call env h=some r:=by rcases hs with rfl|rfl <;> exact ha
   simp only[A'w]at ha'
   cases hx:ev env x <;> cases hy:ev env y <;> rw[hx,hy]at ha' <;> simp only[reduceCtorEq]at ha'
   simp only[C'R];rcases hs with rfl|rfl <;> exact ha'
  ·have hs':o≠.shl∧o≠.shr:=⟨λe=>hs (.inl e),λe=>hs (.inr e)⟩;have ha':(match P.underlying ty with
    | some (.int _)=>A'5 o x y
    | some .string=>B'4 o x y
    | some (.pointer _)=>(match o with | .eql=>A'o false x y | .neq=>A'o true x y|_=>I'c P o ty x y)
    | some (.slice _)=>(match o with | .eql=>A'4 false x y | .neq=>A'4 true x y|_=>I'c P o ty x y)
    | some .bool=>(match o with | .eql=>A'A false x y | .neq=>A'A true x y|_=>I'c P o ty x y)
    | some (.struct fs)=>if C'V P ty fs.size then (match o with | .eql=>E'f false fs.size x y | .neq=>E'f true fs.size x y|_=>I'c P o ty x y) else I'c P o ty x y
    | _=>I'c P o ty x y:C'J H) call env h=some r:=by
    cases o <;> first|exact ha|(exact absurd rfl hs'.1)|(exact absurd rfl hs'.2)
   cases hu:P.underlying ty with
   | none=>rw[hu]at ha';exact ha'
   | some d=>
    rw[hu]at ha'
    cases d with
    | int k=>
     simp only[A'5]at ha'
     cases hx:ev env x <;> cases hy:ev env y <;> rw[hx,hy]at ha' <;> simp only[reduceCtorEq]at ha'
     simp only[C'R]
     cases o <;> first|exact ha'|(exact absurd rfl hs'.1)|(exact absurd rfl hs'.2)
    | string=>
     simp only[B'4]at ha'
     cases hx:ev env x <;> cases hy:ev env y <;> rw[hx,hy]at ha' <;> simp only[reduceCtorEq]at ha'
     exact ha'
    | pointer e=>
     cases o with
     | eql=>
      simp only[A'o]at ha';split at ha' <;> simp only[l'a,reduceCtorEq]at ha'
      ·rename_i b hx hy;rw[hx,hy];simp[C'R,hu];simpa using ha'
      ·rename_i hx hy;rw[hx,hy];simp[C'R,hu];simpa using ha'
     | neq=>
      simp only[A'o]at ha';split at ha' <;> simp only[l'a,reduceCtorEq]at ha'
      ·rename_i b hx hy;rw[hx,hy];simp[C'R,hu];simpa using ha'
      ·rename_i hx hy;rw[hx,hy];simp[C'R,hu];simpa using ha'
     | _=>exact ha'
    | slice e=>
     cases o with
     | eql=>
      simp only[A'4]at ha';split at ha' <;> simp only[l'a,reduceCtorEq]at ha'
      ·rename_i hx hy;rw[hx,hy];simp[C'R,hu];simpa using ha'
      ·rename_i hx hy;rw[hx,hy];simp[C'R,hu];simpa using ha'
     | neq=>
      simp only[A'4]at ha';split at ha' <;> simp only[l'a,reduceCtorEq]at ha'
      ·rename_i hx hy;rw[hx,hy];simp[C'R,hu];simpa using ha'
      ·rename_i hx hy;rw[hx,hy];simp[C'R,hu];simpa using ha'
     | _=>exact ha'
    | bool=>
     cases o with
     | eql=>
      simp only[A'A]at ha';split at ha' <;> simp only[l'a,reduceCtorEq]at ha'
      rename_i hx hy;rw[hx,hy];simp[C'R,hu];simpa using ha'
     | neq=>
      simp only[A'A]at ha';split at ha' <;> simp only[l'a,reduceCtorEq]at ha'
      rename_i hx hy;rw[hx,hy];simp[C'R,hu];simpa using ha'
     | _=>exact ha'
    | struct fs=>
     simp only at ha'
     by_cases hpl:C'V P ty fs.size=true
     ·rw[if_pos hpl]at ha';have key:∀neg,E'f neg fs.size x y call env h=some r->∃xs ys b,ev env x = .agg xs∧ev env y = .agg ys∧xs.size=fs.size∧C'a xs.toList ys.toList=some b∧r=(.bool (b != neg),h):=by
       intro neg hq;simp only[E'f]at hq;split at hq
       ·rename_i xs ys hx hy
        split at hq
        ·rename_i hsz
         cases hb:C'a xs.toList ys.toList with
         | none=>rw[hb]at hq;simp at hq
         | some b=>rw[hb]at hq;simp only[l'l,l'a]at hq;exact⟨xs,ys,b,hx,hy,hsz,hb,hq.symm⟩
        ·simp at hq
       ·simp at hq
      cases o with
      | eql=>
       obtain⟨xs,ys,b,hx,hy,hsz,hb,rfl⟩:=key false ha';rw[hx,hy];simp[C'R,hsz,hpl,hb]
      | neq=>
       obtain⟨xs,ys,b,hx,hy,hsz,hb,rfl⟩:=key true ha';rw[hx,hy];simp[C'R,hsz,hpl,hb]
      | _=>exact ha'
     ·rw[if_neg hpl]at ha';exact ha'
    | _=>exact ha'
 | unOp o ty x=>have:=he x (by simp[A'Y,Op.operands]);simpa [B'T,aUn,opA,cls,B'H,this]using ha
 | fieldAddr s x f=>
  have h1:=he x (by simp[A'Y,Op.operands]);simp only[B'T]at ha
  cases hu:P.underlying s with
  | none=>rw[hu]at ha;exact any ha
  | some d=>
   rw[hu]at ha
   cases d with
   | struct fs=>
    simp only at ha
    cases hf:fs[f]? with
    | none=>rw[hf]at ha;exact any ha
    | some fd=>
     rw[hf]at ha;simp only at ha
     cases hi:P.info? fd.type with
     | none=>rw[hi]at ha;exact any ha
     | some i=>
      rw[hi]at ha;simp only at ha
      by_cases hs:i.size=0
      ·rw[if_pos hs]at ha;exact any ha
      ·rw[if_neg hs]at ha;simp only[B'D]at ha;simp only[opA,cls,B'H,hu,hf,hi,h1,if_neg hs];split at ha <;> try simp only[reduceCtorEq]at ha
       rename_i a hx
       rw[hx];simp only[hf,hi,if_neg hs];simpa using ha
   | _=>exact any ha
 | indexAddr ty x ix=>
  have h1:=he x (by simp[A'Y,Op.operands]);have h2:=he ix (by simp[A'Y,Op.operands]);simp only[B'T]at ha
  cases hu:P.underlying ty with
  | none=>rw[hu]at ha;exact any ha
  | some d=>
   rw[hu]at ha
   cases d with
   | slice e=>
    simp only at ha
    cases hi:P.info? e with
    | none=>rw[hi]at ha;exact any ha
    | some i=>
     rw[hi]at ha;simp only[B'A]at ha;simp only[opA,cls,B'H,C'x,hu,hi,h1,h2];split at ha <;> try simp only[reduceCtorEq]at ha
     rename_i a len c k j hx hy
     rw[hx,hy];split at ha
     ·rename_i hb;simp only[hi,if_pos hb];simpa using ha
     ·simp at ha
   | array n e=>
    simp only at ha
    cases hi:P.info? e with
    | none=>rw[hi]at ha;exact any ha
    | some i=>
     rw[hi]at ha;simp only[A'j]at ha;simp only[opA,cls,B'H,C'x,hu,hi,h1,h2];split at ha <;> try simp only[reduceCtorEq]at ha
     rename_i a k j hx hy
     rw[hx,hy];split at ha
     ·rename_i hb;simp only[hi,if_pos hb];simpa using ha
     ·simp at ha
   | _=>exact any ha
 | index ty x ix=>
  have h1:=he x (by simp[A'Y,Op.operands]);have h2:=he ix (by simp[A'Y,Op.operands]);simp only[B'T]at ha
  cases hu:P.underlying ty with
  | none=>rw[hu]at ha;exact any ha
  | some d=>
   rw[hu]at ha
   cases d with
   | string=>
    simp only[A'3]at ha;simp only[opA,cls,B'H,G'R,hu,h1,h2];split at ha <;> try simp only[reduceCtorEq]at ha
    rename_i s k j hx hy
    rw[hx,hy];split at ha
    ·rename_i hb
     simp only[if_pos hb]
     cases hs:s[j.toNat]? with
     | none=>rw[hs]at ha;simp at ha
     | some b=>rw[hs]at ha;simpa using ha
    ·simp at ha
   | _=>exact any ha
 | load ty a=>
  have h1:=he a (by simp[A'Y,Op.operands]);simp only[B'T]at ha
  cases hg:E'U P ty with
  | none=>rw[hg]at ha;exact any ha
  | some g=>
   cases hi:P.info? ty with
   | none=>rw[hg,hi]at ha;cases g <;> exact any ha
   | some i=>
    rw[hg,hi]at ha;unfold E'U at hg
    cases hu:P.underlying ty with
    | none=>rw[hu]at hg;simp at hg
    | some d=>
     rw[hu]at hg
     cases g with
     | true=>
      simp only[B'n]at ha;simp only[opA,cls,C'b,B'1,h1];split at ha <;> try simp only[reduceCtorEq]at ha
      rename_i p hx
      rw[hx]
      cases d <;> simp at hg <;> simp only[hi,hu] <;>
      ·cases hc:cellsA O h p.block p.off i.size with
       | none=>rw[hc]at ha;simp at ha
       | some l=>rw[hc]at ha;simpa using ha
     | false=>
      simp only[aLd]at ha;simp only[opA,cls,C'b,B'1,h1];split at ha <;> try simp only[reduceCtorEq]at ha
      rename_i p hx
      rw[hx]
      cases d <;> simp at hg <;> simp only[hi,hu] <;> exact ha
 | store ty a x=>
  have h1:=he a (by simp[A'Y,Op.operands]);have h2:=he x (by simp[A'Y,Op.operands]);simp only[B'T]at ha
  cases hi:P.info? ty with
  | none=>rw[hi]at ha;exact any ha
  | some i=>
   rw[hi]at ha;simp only[aSt]at ha;simp only[opA,cls,D'c,h1,h2,hi];split at ha
   ·rename_i p hx;rw[hx];exact ha
   ·simp at ha
 | convert s d x=>
  have h1:=he x (by simp[A'Y,Op.operands]);simp only[B'T]at ha
  cases hs:P.underlying s with
  | none=>rw[hs]at ha;exact any ha
  | some ds=>
   cases hd:P.underlying d with
   | none=>rw[hs,hd]at ha;cases ds <;> exact any ha
   | some dd=>
    rw[hs,hd]at ha
    cases ds with
    | int k0=>
     cases dd with
     | int k=>
      simp only[A'2]at ha;simp only[opA,cls,C'b,h1,hs,hd];split at ha <;> try simp only[reduceCtorEq]at ha
      rename_i k1 n hx
      rw[hx];simpa using ha
     | _=>exact any ha
    | slice e=>
     cases dd with
     | string=>
      simp only at ha
      cases hue:P.underlying e with
      | none=>rw[hue]at ha;exact any ha
      | some de=>
       rw[hue]at ha
       cases de with
       | int ke=>
        cases ke with
        | u8=>
         simp only[G'Y]at ha;simp only[opA,cls,C'b,h1,hs,hd];split at ha
         ·rename_i a len c hx
          rw[hx];simp only[hue]
          cases hc:cellsA O h a.block a.off len with
          | none=>rw[hc]at ha;simp at ha
          | some l=>
           rw[hc]at ha;simp only at ha ⊢
           cases hb:B'S l with
           | none=>rw[hb]at ha;simp at ha
           | some bs=>rw[hb]at ha;simpa using ha
         ·simp at ha
        | _=>exact any ha
       | _=>exact any ha
     | _=>exact any ha
    | _=>exact any ha
 | build ty parts=>
  simp only[B'T]at ha
  cases hi:P.info? ty with
  | none=>rw[hi]at ha;exact any ha
  | some i=>
   cases hu:P.underlying ty with
   | none=>rw[hi,hu]at ha;exact any ha
   | some d=>
    rw[hi,hu]at ha
    cases d with
    | struct fs=>
     simp only at ha
     cases hz:i.zero with
     | none=>rw[hz]at ha;exact any ha
     | some z=>
      cases hp:C'K P fs.toList with
      | none=>rw[hz,hp]at ha;exact any ha
      | some ps=>
       rw[hz,hp]at ha;simp only at ha
       by_cases hzo:C'w z=true
       ·rw[if_pos hzo]at ha;have em:parts.toList.map (λp=>(p.1,ev env p.2))=(parts.map λ(i,x)=>(i,A'9 t x)).toList:=by
         rw[Array.toList_map];apply List.map_congr_left;intro q hq;show (q.1,ev env q.2)=(q.1,A'9 t q.2);rw[he q.2 (by simp[A'Y,Op.operands];exact⟨q.1,by simpa using hq⟩)]
        have ea:parts.toList.all (λp=>!B'j (ev env p.2))=parts.toList.all (λp=>!B'j (A'9 t p.2)):=by
         rw[Bool.eq_iff_iff,l'D,l'D];constructor <;> intro hh q hq
         ·rw[he q.2 (by simp[A'Y,Op.operands];exact⟨q.1,by simpa using hq⟩)];exact hh q hq
         ·rw[<-he q.2 (by simp[A'Y,Op.operands];exact⟨q.1,by simpa using hq⟩)];exact hh q hq
        simp only[A'l,em,ea]at ha;simp only[opA,cls,B'H,G'Q,hi,hu,hz,hp,if_pos hzo];split at ha
        ·rename_i hall
         rw[if_pos hall]
         cases hf:Instr.fill (λx=>ps[x]?) z.cells (parts.map λ(i,x)=>(i,A'9 t x)).toList with
         | none=>rw[hf]at ha;simp at ha
         | some c=>rw[hf]at ha;simpa using ha
        ·simp at ha
       ·rw[if_neg hzo]at ha;exact any ha
    | _=>exact any ha
 | buildSlice ty len parts=>
  simp only[B'T]at ha
  cases hu:P.underlying ty with
  | none=>rw[hu]at ha;exact any ha
  | some d=>
   rw[hu]at ha
   cases d with
   | slice e=>
    simp only at ha
    cases hi:P.info? e with
    | none=>rw[hi]at ha;exact any ha
    | some i=>
     rw[hi]at ha;simp only at ha
     cases hz:i.zero with
     | none=>rw[hz]at ha;exact any ha
     | some z=>
      rw[hz]at ha;simp only at ha
      by_cases hcd:len*i.size>2^24∨C'w z=false∨z.cells.size=0
      ·rw[if_pos hcd]at ha;exact any ha
      ·rw[if_neg hcd]at ha;have em:parts.toList.map (λp=>(p.1,ev env p.2))=(parts.map λ(i,x)=>(i,A'9 t x)).toList:=by
        rw[Array.toList_map];apply List.map_congr_left;intro q hq;show (q.1,ev env q.2)=(q.1,A'9 t q.2);rw[he q.2 (by simp[A'Y,Op.operands];exact⟨q.1,by simpa using hq⟩)]
       have ea:parts.toList.all (λp=>!B'j (ev env p.2))=parts.toList.all (λp=>!B'j (A'9 t p.2)):=by
        rw[Bool.eq_iff_iff,l'D,l'D];constructor <;> intro hh q hq
        ·rw[he q.2 (by simp[A'Y,Op.operands];exact⟨q.1,by simpa using hq⟩)];exact hh q hq
        ·rw[<-he q.2 (by simp[A'Y,Op.operands];exact⟨q.1,by simpa using hq⟩)];exact hh q hq
       simp only[A'x,em,ea]at ha;simp only[opA,cls,D'c,hu,hi,hz];split at ha
       ·rename_i hall
        rw[if_neg (by simp only[not_or]at hcd ⊢;exact⟨hcd.1,hcd.2.1,hcd.2.2,by simpa using hall⟩)];exact ha
       ·simp at ha
   | _=>exact any ha
 | makeSlice ty l c=>
  have h1:=he l (by simp[A'Y,Op.operands]);have h2:=he c (by simp[A'Y,Op.operands]);simp only[B'T]at ha
  cases hu:P.underlying ty with
  | none=>rw[hu]at ha;exact any ha
  | some d=>
   rw[hu]at ha
   cases d with
   | slice e=>
    simp only at ha
    cases hi:P.info? e with
    | none=>rw[hi]at ha;exact any ha
    | some i=>
     rw[hi]at ha;simp only at ha
     cases hz:i.zero with
     | none=>rw[hz]at ha;exact any ha
     | some z=>
      rw[hz]at ha;simp only at ha
      by_cases hcd:C'w z=true∧z.cells.size≠0
      ·rw[if_pos hcd]at ha;simp only[B'i]at ha;simp only[opA,cls,D'c,hu,h1,h2];split at ha
       ·rename_i kl l' kc c' hl hc
        rw[hl,hc];simp only[hi,hz];split at ha
        ·rename_i hb
         rw[if_pos ⟨hb.1,hb.2.1,hb.2.2.1,hb.2.2.2,hcd.1,hcd.2⟩];exact ha
        ·simp at ha
       ·simp at ha
      ·rw[if_neg hcd]at ha;exact any ha
   | _=>exact any ha
 | slice ty x lo hi mx=>
  have h0:=he x (by simp[A'Y,Op.operands]);have e1:lo.map (A'9 t)=lo.map (ev env):=by cases lo <;> simp;exact he _ (by simp[A'Y,Op.operands])
  have e2:hi.map (A'9 t)=hi.map (ev env):=by cases hi <;> simp;exact he _ (by simp[A'Y,Op.operands])
  simp only[B'T]at ha
  cases mx with
  | some m=>exact any ha
  | none=>
   cases hu:P.underlying ty with
   | none=>rw[hu]at ha;exact any ha
   | some d=>
    rw[hu]at ha
    cases d with
    | string=>
     simp only[B'P]at ha;simp only[opA,cls,C'b,D'O,D'4,hu,h0,e1,e2,Option.map_none];split at ha
     ·rename_i s hx
      rw[hx];simp only
      cases hh:A'm (hi.map (ev env)) s.size s.size with
      | none=>rw[hh]at ha;simp at ha
      | some e3=>
       rw[hh]at ha;simp only at ha ⊢
       cases hl:A'm (lo.map (ev env)) 0 e3 with
       | none=>rw[hl]at ha;simp at ha
       | some l3=>rw[hl]at ha;simpa using ha
     ·simp at ha
    | slice e=>
     simp only at ha
     cases hi0:P.info? e with
     | none=>rw[hi0]at ha;exact any ha
     | some i=>
      rw[hi0]at ha;simp only[A'p]at ha;simp only[opA,cls,C'b,D'O,D'4,hu,h0,e1,e2,Option.map_none];split at ha
      ·rename_i a len cap hx
       rw[hx];simp only[hi0];split at ha
       ·rename_i hsp
        rw[if_pos hsp]
        cases hh:A'm (hi.map (ev env)) len (if cap=0 then len else cap-1) with
        | none=>rw[hh]at ha;simp at ha
        | some e3=>
         rw[hh]at ha;simp only at ha ⊢
         cases hl:A'm (lo.map (ev env)) 0 e3 with
         | none=>rw[hl]at ha;simp at ha
         | some l3=>
          rw[hl]at ha;simp only at ha ⊢;split at ha
          ·rename_i hl0;rw[if_pos hl0];simpa using ha
          ·rename_i hl0
           rw[if_neg hl0];split at ha
           ·rename_i hlt;rw[if_pos hlt];simpa using ha
           ·simp at ha
       ·simp at ha
      ·rename_i len cap hx
       rw[hx];simp only[hi0];split at ha
       ·rename_i hz
        rw[if_pos hz]
        cases hh:A'm (hi.map (ev env)) 0 0 with
        | none=>rw[hh]at ha;simp at ha
        | some e3=>
         rw[hh]at ha;simp only at ha ⊢
         cases hl:A'm (lo.map (ev env)) 0 e3 with
         | none=>rw[hl]at ha;simp at ha
         | some l3=>rw[hl]at ha;simpa using ha
       ·simp at ha
      ·simp at ha
    | array n e=>
     simp only at ha
     cases hi0:P.info? e with
     | none=>rw[hi0]at ha;exact any ha
     | some i=>
      rw[hi0]at ha;simp only[C'j]at ha;simp only[opA,cls,C'b,D'O,hu,h0,e1,e2,Option.map_none];split at ha
      ·rename_i a hx
       rw[hx];simp only[hi0]
       cases hh:A'm (hi.map (ev env)) n n with
       | none=>rw[hh]at ha;simp at ha
       | some e3=>
        rw[hh]at ha;simp only at ha ⊢
        cases hl:A'm (lo.map (ev env)) 0 e3 with
        | none=>rw[hl]at ha;simp at ha
        | some l3=>
         rw[hl]at ha;simp only at ha ⊢;split at ha
         ·rename_i hc;rw[if_pos hc];simpa using ha
         ·simp at ha
      ·simp at ha
    | _=>exact any ha
 | field ty x f=>
  have h1:=he x (by simp[A'Y,Op.operands]);simp only[B'T]at ha
  cases hu:P.underlying ty with
  | none=>rw[hu]at ha;exact any ha
  | some d=>
   rw[hu]at ha
   cases d with
   | struct fs=>
    simp only at ha
    cases hf:fs[f]? with
    | none=>rw[hf]at ha;exact any ha
    | some fd=>
     rw[hf]at ha;simp only at ha
     cases hg:E'U P fd.type with
     | none=>rw[hg]at ha;exact any ha
     | some g=>
      cases hi:P.info? fd.type with
      | none=>rw[hg,hi]at ha;cases g <;> exact any ha
      | some i=>
       rw[hg,hi]at ha
       cases g with
       | true=>exact any ha
       | false=>
        simp only[I'A]at ha;simp only[opA,cls,B'H,hu,h1];split at ha
        ·rename_i cs hx
         rw[hx];simp only[hf];unfold E'U at hg
         cases hu2:P.underlying fd.type with
         | none=>rw[hu2]at hg;simp at hg
         | some d2=>
          rw[hu2]at hg
          cases d2 <;> simp at hg <;> simp only[I'd,hu2,hi] <;> exact ha
        ·simp at ha
   | _=>exact any ha
 | alloc e=>
  simp only[B'T]at ha
  cases hi:P.info? e with
  | none=>rw[hi]at ha;exact any ha
  | some i=>
   rw[hi]at ha;simp only at ha
   cases hz:i.zero with
   | none=>rw[hz]at ha;exact any ha
   | some z=>
    rw[hz]at ha;simp only at ha
    by_cases hzo:C'w z=true
    ·rw[if_pos hzo]at ha;simp only[B'o]at ha;simpa [opA,cls,D'c,hi,hz,hzo]using ha
    ·rw[if_neg hzo]at ha;exact any ha
 | box e x=>
  have h1:=he x (by simp[A'Y,Op.operands]);simp only[B'T,B'r]at ha;simp only[opA,cls,D'c,h1];exact ha
 | extract x i=>
  have h1:=he x (by simp[A'Y,Op.operands]);simp only[B'T,B'E]at ha;simp only[opA,cls,B'H,h1];split at ha
  ·rename_i vs hx;rw[hx];exact ha
  ·simp at ha
 | call c=>
  obtain⟨cal,args,tys⟩:=c
  cases cal with
  | value f=>
   cases f with
   | func f=>
    simp only[B'T,A'e]at ha;have em:args.toList.map (A'9 t)=args.toList.map (ev env):=List.map_congr_left λx hx=>he x (by simpa [A'Y]using hx);simp only[opA,cls,D'c,em];exact ha
   | _=>exact any ha
  | invoke q m=>exact any ha
  | builtin b=>
   cases b with
   | len=>
    simp only[B'T]at ha
    cases htys:tys.toList with
    | nil=>rw[htys]at ha;exact any ha
    | cons ty r1=>
     cases hargs:args.toList with
     | nil=>rw[htys,hargs]at ha;exact any ha
     | cons x r2=>
      rw[htys,hargs]at ha;simp only at ha;have h1:=he x (by simp[A'Y,hargs])
      cases hu:P.underlying ty with
      | none=>rw[hu]at ha;exact any ha
      | some d=>
       rw[hu]at ha
       cases d with
       | string=>
        simp only[A'7]at ha;simp only[opA,cls,B'H,htys,hargs,hu,h1];split at ha
        ·rename_i s hx;rw[hx];simpa using ha
        ·simp at ha
       | slice e=>
        simp only[A'B]at ha;simp only[opA,cls,B'H,htys,hargs,hu,h1];split at ha
        ·rename_i s hx;rw[hx];simpa using ha
        ·simp at ha
       | _=>exact any ha
   | append=>
    simp only[B'T]at ha
    cases htys:tys.toList with
    | nil=>rw[htys]at ha;exact any ha
    | cons ty r1=>
    cases r1 with
    | nil=>rw[htys]at ha;exact any ha
    | cons u r1=>
     cases r1 with
     | cons _ _=>rw[htys]at ha;exact any ha
     | nil=>
     cases hargs:args.toList with
     | nil=>rw[htys,hargs]at ha;exact any ha
     | cons x r2=>
      cases r2 with
      | nil=>rw[htys,hargs]at ha;exact any ha
      | cons y r2=>
      cases r2 with
      | cons _ _=>rw[htys,hargs]at ha;exact any ha
      | nil=>
       rw[htys,hargs]at ha;simp only at ha;have h1:=he x (by simp[A'Y,hargs]);have h2:=he y (by simp[A'Y,hargs])
       by_cases htu:ty=u
       ·rw[if_pos htu]at ha
        cases hu:P.underlying ty with
        | none=>rw[hu]at ha;exact any ha
        | some d=>
         rw[hu]at ha
         cases d with
         | slice e=>
          simp only at ha
          cases hi:P.info? e with
          | none=>rw[hi]at ha;exact any ha
          | some i=>
           rw[hi]at ha;simp only at ha
           by_cases hz:(i.zero.map λz=>z.cells.size)=some i.size
           ·rw[if_pos hz]at ha;simp only[B'p,D'd]at ha;simp only[opA,cls,D'c,htys,hargs,l'J,l'K,h1,h2];subst htu;split at ha
            ·rename_i base len cap b' n c' hx hy
             rw[hx,hy];simp only[C'W,hu,hi,if_pos hz,ne_eq,not_true,if_false];exact ha
            ·simp at ha
           ·rw[if_neg hz]at ha;exact any ha
         | _=>exact any ha
       ·rw[if_neg htu]at ha;exact any ha
   | _=>exact any ha
 | _=>exact any ha
def O'J (n:Nat)(o:Oper): Bool:=(match o.dst with|some d=>decide (d<n)|none=>true)&&(A'Y o.op).all (inT n)
theorem I'C {call:A'X H}{n:Nat}{ops:Array Oper}(hin:∀(i:Nat) o,ops[i]?=some o->O'J n o=true){i:Nat}{o:Oper}(ho:ops[i]?=some o){t:Array Value}{env env':Env}{h h':H}(he:ER n t env)
  (hs : G'q O P ro ops o call (env, h) = some (env', h')): ∃ t', B'k P O ro call ops i (t, h) = some (t', h') ∧ ER n t' env' := by
 have hio:=hin i o ho;simp only[O'J,l'k]at hio;obtain⟨hdst,hops⟩:=hio;have hev:∀x∈A'Y o.op,A'9 t x=ev env x:=λx hx=>he.eval (l'D.1 hops x hx);have base:∀(b:D'Q H),(b=match o.dst with|some d=>to d (B'T O P ro o.op)|none=>too (B'T O P ro o.op))->∀e1 h1,b call (env,h)=some (e1,h1) ->
   ∃v,opA P O ro call (A'9 t) o.op h=some (v,h1)∧ER n (B'Q t o.dst v) e1:=by
  intro b hb e1 h1 hr;subst hb
  cases hd:o.dst with
  | some d=>
   rw[hd]at hr hdst;simp only[to]at hr;split at hr
   ·rename_i v g ha
    simp only[l'a,l'd]at hr;obtain⟨rfl,rfl⟩:=hr;exact⟨v,F'I hev ha,he.put (by simpa using hdst) v⟩
   ·simp at hr
  | none=>
   rw[hd]at hr;simp only[too]at hr;split at hr
   ·rename_i v g ha
    simp only[l'a,l'd]at hr;obtain⟨rfl,rfl⟩:=hr;exact⟨v,F'I hev ha,he⟩
   ·simp at hr
 have skip:∀e1,(e1=match o.dst with|some d=>upd env d undef|none=>env)->ER n (B'Q t o.dst undef) e1:=by
  intro e1 h1;subst h1
  cases hd:o.dst with
  | some d=>rw[hd]at hdst;exact he.put (by simpa using hdst) undef
  | none=>exact he
 simp only[B'k,ho]
 cases hg:o.guard with
 | none=>
  have hw:Region.wanted o (yielded ops t)=true:=by simp[Region.wanted,hg]
  rw[if_pos hw];simp only[G'q,hg]at hs;obtain⟨v,h1,h2⟩:=base _ rfl env' h' hs;exact⟨_,by rw[h1],h2⟩
 | some q=>
  obtain⟨j,w⟩:=q
  cases hk:(ops[j]?).bind (·.dst) with
  | none=>
   have hw:Region.wanted o (yielded ops t)=false:=by simp[Region.wanted,hg,yielded,hk]
   rw[if_neg (by simp[hw])];simp only[G'q,hg,hk]at hs
   cases hd:o.dst with
   | some d=>
    rw[hd]at hs;simp only[l'a,l'd]at hs;obtain⟨rfl,rfl⟩:=hs;have:=skip (upd env d undef) (by rw[hd]);rw[hd]at this;exact⟨_,rfl,this⟩
   | none=>
    rw[hd]at hs;simp only[l'a,l'd]at hs;obtain⟨rfl,rfl⟩:=hs;exact⟨_,rfl,he⟩
  | some k=>
   have hkn:k<n:=by
    cases hj:ops[j]? with
    | none=>rw[hj]at hk;simp at hk
    | some oj=>
     rw[hj]at hk;simp only[l't]at hk;have:=hin j oj hj;simp only[O'J,hk,l'k,l'M]at this;exact this.1
   have hyd:yielded ops t j=(match env k with | .bool b=>some b|_=>none):=by
    simp only[yielded,hk,l't];have e1:t[k]?=some (env k):=by
     have h2:=he.2 k hkn;have hlt:k<t.size:=by rw[he.1];exact hkn
     rw[l'q,Array.getElem?_eq_getElem hlt]at h2;rw[Array.getElem?_eq_getElem hlt];simpa using h2
    rw[e1]
    cases env k <;> rfl
   have hwb:Region.wanted o (yielded ops t)=isB (env k) w:=by
    simp only[Region.wanted,hg,hyd]
    cases env k with
    | bool b=>cases b <;> cases w <;> rfl
    | _=>cases w <;> rfl
   rw[hwb];simp only[G'q,hg,hk]at hs
   cases hd:o.dst with
   | some d=>
    rw[hd]at hs;simp only[A'a]at hs
    cases hb:isB (env k) w with
    | true=>
     rw[if_pos hb]at hs;obtain⟨v,h1,h2⟩:=base (to d (B'T O P ro o.op)) (by rw[hd]) env' h' hs;rw[if_pos rfl,h1];rw[hd]at h2;exact⟨_,rfl,h2⟩
    | false=>
     rw[hb]at hs;simp only[l'y,if_false,l'a,l'd]at hs;obtain⟨rfl,rfl⟩:=hs;have:=skip (upd env d undef) (by rw[hd]);rw[hd]at this;exact⟨_,by simp,this⟩
   | none=>
    rw[hd]at hs;simp only[A'n]at hs
    cases hb:isB (env k) w with
    | true=>
     rw[if_pos hb]at hs;obtain⟨v,h1,h2⟩:=base (too (B'T O P ro o.op)) (by rw[hd]) env' h' hs;rw[if_pos rfl,h1];rw[hd]at h2;exact⟨_,rfl,h2⟩
    | false=>
     rw[hb]at hs;simp only[l'y,if_false,l'a,l'd]at hs;obtain⟨rfl,rfl⟩:=hs;exact⟨t,by simp[B'Q],he⟩
theorem I'D {call:A'X H}{n:Nat}{ops:Array Oper}(hin:∀(i:Nat) o,ops[i]?=some o->O'J n o=true): ∀(l:List Oper) (k:Nat),(∀j,l[j]?=ops[k+j]?)->∀(t:Array Value)(env env':Env)(h h':H),ER n t env ->
  reg (l.map (G'q O P ro ops)) call (env,h)=some (env',h')->∃t',C'X P O ro call ops (List.range' k l.length) (t,h)=some (t',h')∧ER n t' env':=by
 intro l
 induction l with
 | nil=>
  intro k _ t env env' h h' he hr;simp only[l'K,reg,l'a,l'd]at hr;obtain⟨rfl,rfl⟩:=hr;exact⟨t,rfl,he⟩
 | cons o l ih=>
  intro k hl t env env' h h' he hr;simp only[l'J,reg]at hr;have ho:ops[k]?=some o:=by have:=hl 0;simpa using this.symm
  split at hr
  ·rename_i s1 hs
   obtain⟨env1,h1⟩:=s1;obtain⟨t1,hst,he1⟩:=I'C hin ho he hs;obtain⟨t',hrun,he'⟩:=ih (k+1) (λj=>by
    have:=hl (j+1);simp only[l'x]at this;rw[this];congr 1;omega) t1 env1 env' h1 h' he1 hr
   refine⟨t',?_,he'⟩;rw[l'n,List.range'_succ];simp only[C'X,hst];exact hrun
  ·simp at hr
def C'E (n:Nat): Code->Bool
 | .skip | .ret | .exit _=>true
 | .seq a b=>C'E n a&&C'E n b
 | .cond c a b=>inT n c&&C'E n a&&C'E n b
 | .block _ a | .loop a=>C'E n a
 | .region _ ops draw=>ops.toList.all (O'J n)&&(!draw||(D'j ops).all λp=>inT n p.1&&inT n p.2)
 | _=>true
theorem M'N {call:A'X H}: ∀(a b:List (D'Q H))(s:Env×H),reg (a++b) call s=(reg a call s).bind (reg b call):=by
 intro a
 induction a with
 | nil=>intro b s;rfl
 | cons f a ih=>
  intro b s;simp only[List.cons_append,reg]
  cases f call s with
  | none=>rfl
  | some s1=>exact ih b s1
theorem I'E {call:A'X H}{n:Nat}{ops:Array Oper}{draw:Bool}(hin:(!draw||(D'j ops).all λp=>inT n p.1&&inT n p.2)=true){t:Array Value}{s s1:Env×H}(he:ER n t s.1)(hr:reg (Q'0 ops draw) call s=some s1): s1=s∧D'E ops draw t=true:=by
 unfold Q'0 at hr;unfold D'E
 cases draw with
 | false=>
  simp only[l'y,if_false,reg,l'a]at hr;exact⟨hr.symm,rfl⟩
 | true=>
  simp only[if_true]at hr;simp only[Bool.not_true,Bool.false_or]at hin ⊢;generalize D'j ops=l at hr hin ⊢
  induction l with
  | nil=>simp only[l'K,reg,l'a]at hr;exact⟨hr.symm,rfl⟩
  | cons p l ih=>
   simp only[l'J,reg,chk]at hr;simp only[List.all_cons,l'k]at hin ⊢;rw[he.eval hin.1.1,he.eval hin.1.2]
   by_cases hp:J'W (ev s.1 p.1) (ev s.1 p.2)=true
   ·rw[if_pos hp]at hr;obtain⟨e1,e2⟩:=ih hr hin.2;exact⟨e1,hp,e2⟩
   ·rw[if_neg hp]at hr;simp at hr
def A'Z: List Value->Env
 | []=>λ_=>undef
 | v :: l=>λi=>match i with
  | 0=>v
  | i+1=>A'Z l i
theorem I'F: ∀(l:List Value) (i:Nat),A'Z l i=(l[i]?).getD undef:=by
 intro l
 induction l with
 | nil=>intro i;simp[A'Z]
 | cons v l ih=>
  intro i
  cases i with
  | zero=>simp[A'Z]
  | succ i=>simp[A'Z,ih i]
def rvE (O:HI H)(P:Program)(rv:ResultVar)(t:Env)(h:H): Option Value:=
 match rv with
 | .tmp a=>some (t a)
 | .cell a ty=>B'1 P O ty (t a) h
def A'h (O:HI H)(P:Program)(t:Env)(h:H): List ResultVar->Option (List Value)
 | []=>some []
 | r :: l=>match rvE O P r t h,A'h O P t h l with
  | some v,some vs=>if B'j v then none else some (v :: vs)
  | _,_=>none
def A'L (O:HI H)(P:Program)(rs:List ResultVar)(t:Env)(h:H): Option Value:=
 match A'h O P t h rs with
 | some [v]=>some v
 | some vs=>some (.tuple vs.toArray)
 | none=>none
def O'O (n:Nat): ResultVar->Bool
 | .tmp a=>decide (a<n)
 | .cell a _=>decide (a<n)
theorem J'8 {n:Nat}{t:Array Value}{env:Env}{h:H}(he:ER n t env): ∀(l:List ResultVar),l.all (O'O n)=true->J'X P O t h l=A'h O P env h l:=by
 intro l
 induction l with
 | nil=>intro _;rfl
 | cons r l ih=>
  intro hin;simp only[List.all_cons,l'k]at hin;simp only[J'X,A'h];rw[ih hin.2];have:rvA P O r t h=rvE O P r env h:=by
   cases r with
   | tmp a=>simp only[rvA,rvE];rw[he.2 a (by simpa [O'O]using hin.1)]
   | cell a ty=>simp only[rvA,rvE];rw[he.2 a (by simpa [O'O]using hin.1)]
  rw[this]
  cases rvE O P r env h <;> cases A'h O P env h l <;> rfl
structure Fn (P:Program)(O:HI H) (ro:Nat)(f:FuncId)(body:B'L H)(rs:List ResultVar)(fn:Func):Prop where
 func:P.funcs[f]?=some fn
 body_eq:I'B O P ro fn=body
 some_body:fn.body.isSome=true
 tmps:(match fn.body with|some c=>C'E fn.ntmps c|none=>false)=true
 res:fn.results.toList=rs
 res_in:rs.all (O'O fn.ntmps)=true
end
end Go.Vm
namespace Go.Vm
section
variable {H:Type}
abbrev RL' (H:Type):=List (D'Q H)
abbrev RC' (H:Type):=HI H->Program->Nat->B'L H
def mv' (d s:Nat):D'Q H:=to d (A'i (.tmp s))
def nl' (d s:Nat):D'Q H:=to d (B'C (.tmp s))
def fl' (k d s:Nat):D'Q H:=to d (B'D k (.tmp s))
def ld' (O:HI H) (d s:Nat):D'Q H:=to d (aLd O (.tmp s))
def ln' (d s:Nat):D'Q H:=to d (A'B (.tmp s))
def mk' (d:Nat) (n:Int):D'Q H:=to d (A'i (.const (.int .i64 n)))
def ia' (o:BinOp) (d a b:Nat):D'Q H:=to d (A'5 o (.tmp a) (.tmp b))
def ik' (o:BinOp) (d a:Nat) (n:Int):D'Q H:=to d (A'5 o (.tmp a) (.const (.int .i64 n)))
def ix' (k d a b:Nat):D'Q H:=to d (B'A k (.tmp a) (.tmp b))
end
end Go.Vm
