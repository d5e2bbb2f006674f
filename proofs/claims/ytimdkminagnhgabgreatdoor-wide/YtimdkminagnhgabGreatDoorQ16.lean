import Derived.Test.YtimdkminagnhgabGreatDoorQ06
set_option linter.all false
namespace Go.Ta
structure Cl where
 lits:List Nat
 left:Nat
 right:Nat
 span:Nat
structure Vr where
 level:Nat
 reason:Option Nat
 marked:Bool
 weight:Nat
 last:Bool
structure Srch where
 assumed:List Nat
 clauses:List Cl
 given:Nat
 watchers:List (List Nat)
 holds:List Bool
 vars:List Vr
 trail:List Nat
 starts:List Nat
 drawn:Nat
 bonus:Nat
 met:Nat
 core:List Nat
def most: Nat:=1000000
def B'9: Nat:=4611686018427387904
def G'4 (q:Srch)(l:Nat)(r:Option Nat): Option Srch:=
 match q.vars[l/2]? with
 | none=>none
 | some v=>
  if l<q.holds.length∧q.trail.length<most then
   some { q with holds:=q.holds.set l true,vars:=q.vars.set (l/2) { v with level:=q.starts.length,reason:=r,last:=l%2==0 },trail:=q.trail++[l] }
  else none
def D'e (holds:List Bool)(left:Nat): List Nat->Option (Option Nat)
 | []=>some none
 | o :: r=>if o=left then D'e holds left r else
  match holds[o ^^^ 1]? with
  | none=>none
  | some true=>D'e holds left r
  | some false=>some (some o)
def E'I (q:Srch)(k fallen:Nat): Option (Srch×Bool):=
 match q.clauses[k]? with
 | none=>none
 | some c=>
  let c1:Cl:=if c.left=fallen then { c with left:=c.right,right:=fallen } else c
  let q1:Srch:={ q with clauses:=q.clauses.set k c1 }
  match q.holds[c1.left]? with
  | none=>none
  | some true=>some (q1,false)
  | some false=>
   match D'e q.holds c1.left c1.lits with
   | none=>none
   | some none=>some (q1,false)
   | some (some o)=>
    match q.watchers[o]? with
    | none=>none
    | some wl=>if wl.length<most∧o≠fallen then some ({ q with clauses:=q.clauses.set k { c1 with right:=o },watchers:=q.watchers.set o (wl++[k]) },true) else none
def B'W (fallen:Nat): Nat->Srch->Nat->Nat->Option Nat->Option (Srch×Nat×Option Nat)
 | 0,q,_,kept,clash=>some (q,kept,clash)
 | m+1,q,i,kept,clash=>
  match q.watchers[fallen]? with
  | none=>none
  | some wl=>
   match wl[i]? with
   | none=>none
   | some k=>
    match E'I q k fallen with
    | none=>none
    | some (q1,true)=>B'W fallen m q1 (i+1) kept clash
    | some (q1,false)=>
     let q2:Srch:={ q1 with watchers:=q1.watchers.set fallen (wl.set kept k) }
     match q2.clauses[k]? with
     | none=>none
     | some c=>
      match q2.holds[c.left ^^^ 1]? with
      | none=>none
      | some true=>B'W fallen m q2 (i+1) (kept+1) (some k)
      | some false=>
       match q2.holds[c.left]? with
       | none=>none
       | some true=>B'W fallen m q2 (i+1) (kept+1) clash
       | some false=>
        match G'4 q2 c.left (some k) with
        | none=>none
        | some q3=>B'W fallen m q3 (i+1) (kept+1) clash
def E'Z (q:Srch)(fallen:Nat): Option (Srch×Option Nat):=
 match q.watchers[fallen]? with
 | none=>none
 | some wl=>
  match B'W fallen wl.length q 0 0 none with
  | none=>none
  | some (q1,kept,clash)=>
   match q1.watchers[fallen]? with
   | none=>none
   | some wl1=>some ({ q1 with watchers:=q1.watchers.set fallen (wl1.take kept) },clash)
def D'z: Nat->Srch->Option (Srch×Option Nat)
 | 0,_=>none
 | m+1,q=>
  if q.drawn<q.trail.length then
   match q.trail[q.drawn]? with
   | none=>none
   | some l=>
    match E'Z { q with drawn:=q.drawn+1 } (l ^^^ 1) with
    | none=>none
    | some (q1,some k)=>some (q1,some k)
    | some (q1,none)=>D'z m q1
  else some (q,none)
def C'Z (holds:List Bool): List Vr->Nat->Option (Nat×Nat)->Option (Option Nat)
 | [],_,best=>some (best.map (·.1))
 | v :: r,i,best=>
  match holds[2*i]?,holds[2*i+1]? with
  | some a,some b=>
   if a||b then C'Z holds r (i+1) best
   else match best with
    | none=>C'Z holds r (i+1) (some (i,v.weight))
    | some (j,w)=>if w<v.weight then C'Z holds r (i+1) (some (i,v.weight)) else C'Z holds r (i+1) (some (j,w))
  | _,_=>none
def F'R (q:Srch): Option (Option Nat):=C'Z q.holds q.vars 0 none
def P'I: List Nat->Srch->Option (Srch×Nat)
 | [],q=>some (q,0)
 | l :: r,q=>
  match q.vars[l/2]? with
  | none=>none
  | some v=>
   if v.marked||v.level==0 then P'I r q
   else if v.weight+q.bonus<B'9 then
    match P'I r { q with vars:=q.vars.set (l/2) { v with marked:=true,weight:=v.weight+q.bonus } } with
    | none=>none
    | some (q1,n)=>some (q1,if v.level=q.starts.length then n+1 else n)
   else none
def P'J (vars:List Vr): List Nat->Option Bool
 | []=>some true
 | l :: r=>
  match vars[l/2]? with
  | none=>none
  | some o=>if !o.marked&&decide (0<o.level) then some false else P'J vars r
def R'l (q:Srch)(v:Nat): Option Bool:=
 match q.vars[v]? with
 | none=>none
 | some x=>match x.reason with
  | none=>some false
  | some k=>match q.clauses[k]? with
   | none=>none
   | some c=>P'J q.vars c.lits
def R'm (q:Srch): List Nat->List Nat->Option (List Nat)
 | [],acc=>some acc
 | l :: r,acc=>
  match q.vars[l/2]? with
  | none=>none
  | some v=>
   if v.marked then
    match R'l q (l/2) with
    | none=>none
    | some true=>R'm q r acc
    | some false=>if acc.length<most then R'm q r (acc++[l ^^^ 1]) else none
   else R'm q r acc
def F'S (q:Srch)(k:Nat): Option Srch:=
 match q.clauses[k]? with
 | none=>none
 | some c=>
  match q.watchers[c.left]? with
  | none=>none
  | some a=>
   if a.length<most then
    match (q.watchers.set c.left (a++[k]))[c.right]? with
    | none=>none
    | some b=>if b.length<most then some { q with watchers:=(q.watchers.set c.left (a++[k])).set c.right (b++[k]) } else none
   else none
def D'm (q:Srch)(c:Cl): Option Srch:=
 if q.clauses.length<most then F'S { q with clauses:=q.clauses++[c] } q.clauses.length else none
def D'H: List (List Nat)->Nat->Srch->Option Nat->Option (Srch×Option Nat)
 | [],_,q,clash=>some (q,clash)
 | l :: r,k,q,clash=>
  match l with
  | a :: b :: _=>
   match D'm q ⟨l,a,b,0⟩ with
   | none=>none
   | some q1=>D'H r (k+1) q1 clash
  | [a]=>
   if q.clauses.length<most then
    match q.holds[a ^^^ 1]?,q.holds[a]? with
    | some true,some _=>D'H r (k+1) { q with clauses:=q.clauses++[⟨l,0,0,0⟩] } (some k)
    | some false,some true=>D'H r (k+1) { q with clauses:=q.clauses++[⟨l,0,0,0⟩] } clash
    | some false,some false=>
     match G'4 { q with clauses:=q.clauses++[⟨l,0,0,0⟩] } a (some k) with
     | none=>none
     | some q1=>D'H r (k+1) q1 clash
    | _,_=>none
   else none
  | []=>if q.clauses.length<most then D'H r (k+1) { q with clauses:=q.clauses++[⟨l,0,0,0⟩] } (some k) else none
def K'L (q:Srch)(cs:List (List Nat)): Option (Srch×Option Nat):=
 match D'H cs 0 q none with
 | none=>none
 | some (q1,clash)=>some ({ q1 with given:=cs.length },clash)
def N'A (_:Srch)(_:Nat)(_:Int): Option (Srch×Nat):=none
def E'J (q:Srch): Option Srch:=if q.starts.length<most then some { q with starts:=q.starts++[q.trail.length] } else none
def E'q (q:Srch)(l:Nat): Option (Srch×Nat):=
 match q.holds[l ^^^ 1]? with
 | none=>none
 | some true=>none
 | some false=>match E'J q with
  | none=>none
  | some q1=>match q1.holds[l]? with
   | none=>none
   | some true=>some (q1,0)
   | some false=>match G'4 q1 l none with
    | none=>none
    | some q2=>some (q2,0)
def C'H (q:Srch): Option (Srch×Nat):=
 match q.assumed[q.starts.length]? with
 | some l=>E'q q l
 | none=>match F'R q with
  | none=>none
  | some none=>some (q,1)
  | some (some v)=>match q.vars[v]? with
   | none=>none
   | some x=>match E'J q with
    | none=>none
    | some q1=>match G'4 q1 (if x.last then 2*v else 2*v+1) none with
     | none=>none
     | some q2=>some (q2,0)
def B'6 (f:Nat)(budget:Int): Nat->Srch->Option Nat->Option (Srch×Nat)
 | 0,_,_=>none
 | n+1,q,clash=>
  match (match clash with|some k=>some (q,some k)|none=>D'z f q) with
  | none=>none
  | some (q1,none)=>match C'H q1 with
   | none=>none
   | some (q2,0)=>B'6 f budget n q2 none
   | some (q2,a)=>some (q2,a)
  | some (q1,some k)=>match N'A q1 k budget with
   | none=>none
   | some (q2,0)=>B'6 f budget n q2 none
   | some (q2,a)=>some (q2,a)
def B'V (early:List Bool)(assumed:List Nat): Srch:=
 { assumed,clauses:=[],given:=0,watchers:=List.replicate (2*early.length) [],holds:=List.replicate (2*early.length) false,vars:=early.map λe=>⟨0,some 0,false,if e then 1 else 0,false⟩,trail:=[],starts:=[],drawn:=0,bonus:=16,met:=0,core:=[] }
def E'r (f n:Nat)(q:Srch)(cs:List (List Nat))(budget:Int): Option (Srch×Nat):=
 match K'L q cs with
 | none=>none
 | some (q1,clash)=>B'6 f budget n q1 clash
structure Solv where
 early:List Bool
 clauses:List (List Nat)
 model:List Bool
 core:List Nat
 conflicts:Nat
def C'M: List Nat->List Nat->List Nat
 | [],acc=>acc
 | l :: r,acc=>if l∈acc then C'M r acc else C'M r (acc++[l])
def D'D (l:List Nat): List Nat:=C'M l []
def B's (l:List Nat): Bool:=l.zipIdx.any λ(x,i)=>(l.take i).any λy=>y==x ^^^ 1
def E's (n:Nat)(l:List Nat): Bool:=l.all λx=>decide (x<2*n)
def H'O (s:Solv)(l:List Nat): Option Solv:=
 if E's s.early.length l∧l.length<most∧s.clauses.length<most then
  some (if B's (D'D l) then s else { s with clauses:=s.clauses++[D'D l] })
 else none
def D'A (f n:Nat)(s:Solv)(as:List Nat)(budget:Int): Option (Solv×Nat):=
 if E's s.early.length as∧as.length<most∧0<=budget∧0<s.early.length∧s.early.length<=192∧s.clauses.length<most then
  match E'r f n (B'V s.early (D'D as)) s.clauses budget with
  | none=>none
  | some (q,a)=>
   if s.conflicts<B'9∧q.met<=B'9∧q.vars.length=s.early.length∧q.holds.length=2*s.early.length then
    some ({ s with conflicts:=s.conflicts+q.met,model:=if a=1 then (List.range s.early.length).map (λv=>q.holds.getD (2*v) false) else [],core:=if a=2 then q.core else [] },a)
   else none
 else none
end Go.Ta
