import Derived.Test.YtimdkminagnhgaaGreatDoorQ06
set_option linter.all false
namespace Go.Ta
structure Cl where
 lits:List Nat
 left:Nat
 right:Nat
 span:Nat
structure Vr where
 level:Nat
 reason:Option Nat
 marked:Bool
 weight:Nat
 last:Bool
structure Srch where
 assumed:List Nat
 clauses:List Cl
 given:Nat
 watchers:List (List Nat)
 holds:List Bool
 vars:List Vr
 trail:List Nat
 starts:List Nat
 drawn:Nat
 bonus:Nat
 met:Nat
 core:List Nat
def most: Nat:=1000000
def most62: Nat:=4611686018427387904
def setP (q:Srch)(l:Nat)(r:Option Nat): Option Srch:=
 match q.vars[l/2]? with
 | none=>none
 | some v=>
  if l<q.holds.length∧q.trail.length<most then
   some { q with holds:=q.holds.set l true,vars:=q.vars.set (l/2) { v with level:=q.starts.length,reason:=r,last:=l%2==0 },trail:=q.trail++[l] }
  else none
def findP (holds:List Bool)(left:Nat): List Nat->Option (Option Nat)
 | []=>some none
 | o :: r=>if o=left then findP holds left r else
  match holds[o ^^^ 1]? with
  | none=>none
  | some true=>findP holds left r
  | some false=>some (some o)
def lookP (q:Srch)(k fallen:Nat): Option (Srch×Bool):=
 match q.clauses[k]? with
 | none=>none
 | some c=>
  let c1:Cl:=if c.left=fallen then { c with left:=c.right,right:=fallen } else c
  let q1:Srch:={ q with clauses:=q.clauses.set k c1 }
  match q.holds[c1.left]? with
  | none=>none
  | some true=>some (q1,false)
  | some false=>
   match findP q.holds c1.left c1.lits with
   | none=>none
   | some none=>some (q1,false)
   | some (some o)=>
    match q.watchers[o]? with
    | none=>none
    | some wl=>if wl.length<most∧o≠fallen then some ({ q with clauses:=q.clauses.set k { c1 with right:=o },watchers:=q.watchers.set o (wl++[k]) },true) else none
def visitL (fallen:Nat): Nat->Srch->Nat->Nat->Option Nat->Option (Srch×Nat×Option Nat)
 | 0,q,_,kept,clash=>some (q,kept,clash)
 | m+1,q,i,kept,clash=>
  match q.watchers[fallen]? with
  | none=>none
  | some wl=>
   match wl[i]? with
   | none=>none
   | some k=>
    match lookP q k fallen with
    | none=>none
    | some (q1,true)=>visitL fallen m q1 (i+1) kept clash
    | some (q1,false)=>
     let q2:Srch:={ q1 with watchers:=q1.watchers.set fallen (wl.set kept k) }
     match q2.clauses[k]? with
     | none=>none
     | some c=>
      match q2.holds[c.left ^^^ 1]? with
      | none=>none
      | some true=>visitL fallen m q2 (i+1) (kept+1) (some k)
      | some false=>
       match q2.holds[c.left]? with
       | none=>none
       | some true=>visitL fallen m q2 (i+1) (kept+1) clash
       | some false=>
        match setP q2 c.left (some k) with
        | none=>none
        | some q3=>visitL fallen m q3 (i+1) (kept+1) clash
def visitP (q:Srch)(fallen:Nat): Option (Srch×Option Nat):=
 match q.watchers[fallen]? with
 | none=>none
 | some wl=>
  match visitL fallen wl.length q 0 0 none with
  | none=>none
  | some (q1,kept,clash)=>
   match q1.watchers[fallen]? with
   | none=>none
   | some wl1=>some ({ q1 with watchers:=q1.watchers.set fallen (wl1.take kept) },clash)
def drawP: Nat->Srch->Option (Srch×Option Nat)
 | 0,_=>none
 | m+1,q=>
  if q.drawn<q.trail.length then
   match q.trail[q.drawn]? with
   | none=>none
   | some l=>
    match visitP { q with drawn:=q.drawn+1 } (l ^^^ 1) with
    | none=>none
    | some (q1,some k)=>some (q1,some k)
    | some (q1,none)=>drawP m q1
  else some (q,none)
def heavyL (holds:List Bool): List Vr->Nat->Option (Nat×Nat)->Option (Option Nat)
 | [],_,best=>some (best.map (·.1))
 | v :: r,i,best=>
  match holds[2*i]?,holds[2*i+1]? with
  | some a,some b=>
   if a||b then heavyL holds r (i+1) best
   else match best with
    | none=>heavyL holds r (i+1) (some (i,v.weight))
    | some (j,w)=>if w<v.weight then heavyL holds r (i+1) (some (i,v.weight)) else heavyL holds r (i+1) (some (j,w))
  | _,_=>none
def heavyP (q:Srch): Option (Option Nat):=heavyL q.holds q.vars 0 none
def markP: List Nat->Srch->Option (Srch×Nat)
 | [],q=>some (q,0)
 | l :: r,q=>
  match q.vars[l/2]? with
  | none=>none
  | some v=>
   if v.marked||v.level==0 then markP r q
   else if v.weight+q.bonus<most62 then
    match markP r { q with vars:=q.vars.set (l/2) { v with marked:=true,weight:=v.weight+q.bonus } } with
    | none=>none
    | some (q1,n)=>some (q1,if v.level=q.starts.length then n+1 else n)
   else none
def traceP: Nat->Srch->Int->Option (Srch×Nat)
 | 0,q,_=>some (q,0)
 | d+1,q,op=>
  match q.trail[d+1]? with
  | none=>none
  | some l=>
   match q.vars[l/2]? with
   | none=>none
   | some v=>
    if v.marked then
     if op=1 then some (q,d+1) else
     match v.reason with
     | none=>some (q,d+1)
     | some k=>
      match q.clauses[k]? with
      | none=>none
      | some c=>
       match markP c.lits q with
       | none=>none
       | some (q1,m)=>if -most<=op∧op<=most∧m<=most then traceP d q1 (op+(m-1)) else none
    else traceP d q op
def needL (vars:List Vr): List Nat->Option Bool
 | []=>some true
 | l :: r=>
  match vars[l/2]? with
  | none=>none
  | some o=>if !o.marked&&decide (0<o.level) then some false else needL vars r
def needP (q:Srch)(v:Nat): Option Bool:=
 match q.vars[v]? with
 | none=>none
 | some x=>match x.reason with
  | none=>some false
  | some k=>match q.clauses[k]? with
   | none=>none
   | some c=>needL q.vars c.lits
def barL (q:Srch): List Nat->List Nat->Option (List Nat)
 | [],acc=>some acc
 | l :: r,acc=>
  match q.vars[l/2]? with
  | none=>none
  | some v=>
   if v.marked then
    match needP q (l/2) with
    | none=>none
    | some true=>barL q r acc
    | some false=>if acc.length<most then barL q r (acc++[l ^^^ 1]) else none
   else barL q r acc
def barP (q:Srch)(pos:Nat): Option (List Nat):=
 match q.trail[pos]? with
 | none=>none
 | some l=>barL q (q.trail.take pos) [l ^^^ 1]
def spanL (vars:List Vr): List Nat->Nat->Nat->Option Nat
 | [],_,span=>some span
 | l :: r,lev,span=>
  match vars[l/2]? with
  | none=>none
  | some v=>spanL vars r v.level (if v.level=lev then span else span+1)
def spanP (q:Srch)(lits:List Nat): Option Nat:=spanL q.vars lits.tail 0 1
def clearP (q:Srch): Srch:={ q with vars:=q.vars.map λv=>{ v with marked:=false } }
def raiseP (q:Srch): Option Srch:=
 let b:=q.bonus+q.bonus/16
 if b<most62 then
  if b<=1099511627776 then some { q with bonus:=b }
  else some { q with bonus:=b/68719476736,vars:=q.vars.map λv=>{ v with weight:=v.weight/68719476736 } }
 else none
def unset: List Nat->List Bool->Option (List Bool)
 | [],h=>some h
 | l :: r,h=>if l<h.length then unset r (h.set l false) else none
def backP (q:Srch)(level:Nat): Option Srch:=
 match q.starts[level]? with
 | none=>some q
 | some s=>
  if s<=q.trail.length then
   match unset (q.trail.drop s) q.holds with
   | none=>none
   | some h=>some { q with holds:=h,trail:=q.trail.take s,starts:=q.starts.take level,drawn:=s }
  else none
def enterP (q:Srch)(k:Nat): Option Srch:=
 match q.clauses[k]? with
 | none=>none
 | some c=>
  match q.watchers[c.left]? with
  | none=>none
  | some a=>
   if a.length<most then
    match (q.watchers.set c.left (a++[k]))[c.right]? with
    | none=>none
    | some b=>if b.length<most then some { q with watchers:=(q.watchers.set c.left (a++[k])).set c.right (b++[k]) } else none
   else none
def attachP (q:Srch)(c:Cl): Option Srch:=
 if q.clauses.length<most then enterP { q with clauses:=q.clauses++[c] } q.clauses.length else none
def loadL: List (List Nat)->Nat->Srch->Option Nat->Option (Srch×Option Nat)
 | [],_,q,clash=>some (q,clash)
 | l :: r,k,q,clash=>
  match l with
  | a :: b :: _=>
   match attachP q ⟨l,a,b,0⟩ with
   | none=>none
   | some q1=>loadL r (k+1) q1 clash
  | [a]=>
   if q.clauses.length<most then
    match q.holds[a ^^^ 1]?,q.holds[a]? with
    | some true,some _=>loadL r (k+1) { q with clauses:=q.clauses++[⟨l,0,0,0⟩] } (some k)
    | some false,some true=>loadL r (k+1) { q with clauses:=q.clauses++[⟨l,0,0,0⟩] } clash
    | some false,some false=>
     match setP { q with clauses:=q.clauses++[⟨l,0,0,0⟩] } a (some k) with
     | none=>none
     | some q1=>loadL r (k+1) q1 clash
    | _,_=>none
   else none
  | []=>if q.clauses.length<most then loadL r (k+1) { q with clauses:=q.clauses++[⟨l,0,0,0⟩] } (some k) else none
def loadP (q:Srch)(cs:List (List Nat)): Option (Srch×Option Nat):=
 match loadL cs 0 q none with
 | none=>none
 | some (q1,clash)=>some ({ q1 with given:=cs.length },clash)
def learnP (q:Srch)(clash:Nat): Option Srch:=
 match q.clauses[clash]? with
 | none=>none
 | some c=>
 match markP c.lits q with
 | none=>none
 | some (q1,n)=>
 match traceP (q1.trail.length-1) q1 n with
 | none=>none
 | some (q2,pos)=>
 match barP q2 pos with
 | none=>none
 | some lits=>
 match spanP q2 lits with
 | none=>none
 | some span=>
 match raiseP (clearP q2) with
 | none=>none
 | some q3=>
  match lits with
  | []=>none
  | [a]=>match backP q3 0 with
   | none=>none
   | some q4=>setP q4 a none
  | a :: r=>
   match q3.vars[(r.getLastD 0)/2]? with
   | none=>none
   | some v=>
    match backP q3 v.level with
    | none=>none
    | some q4=>
     if q4.given<=q4.clauses.length∧q4.clauses.length-q4.given<4000 then
      match attachP q4 ⟨lits,a,r.getLastD 0,span⟩ with
      | none=>none
      | some q5=>setP q5 a (some (q5.clauses.length-1))
     else none
def blameL: List Nat->Srch->Option Srch
 | [],q=>some q
 | l :: r,q=>
  match q.vars[l/2]? with
  | none=>none
  | some v=>
   if v.marked then
    match v.reason with
    | none=>if q.core.length<most then blameL r { q with core:=q.core++[l] } else none
    | some k=>match q.clauses[k]? with
     | none=>none
     | some c=>match markP c.lits q with
      | none=>none
      | some (q1,_)=>blameL r q1
   else blameL r q
def blameP (q:Srch)(lits:List Nat): Option Srch:=
 match markP lits q with
 | none=>none
 | some (q1,_)=>blameL q1.trail.reverse q1
def meetP (q:Srch)(clash:Nat)(budget:Int): Option (Srch×Nat):=
 if q.met<most62 then
  let q0:Srch:={ q with met:=q.met+1 }
  if q0.starts.length<=q0.assumed.length then
   match q0.clauses[clash]? with
   | none=>none
   | some c=>match blameP q0 c.lits with
    | none=>none
    | some q1=>some (q1,2)
  else if budget<(q0.met:Int) then some (q0,3)
  else match learnP q0 clash with
   | none=>none
   | some q1=>some (q1,0)
 else none
def openP (q:Srch): Option Srch:=if q.starts.length<most then some { q with starts:=q.starts++[q.trail.length] } else none
def assumeP (q:Srch)(l:Nat): Option (Srch×Nat):=
 match q.holds[l ^^^ 1]? with
 | none=>none
 | some true=>match blameP q [l]with
  | none=>none
  | some q1=>if q1.core.length<most then some ({ q1 with core:=q1.core++[l] },2) else none
 | some false=>match openP q with
  | none=>none
  | some q1=>match q1.holds[l]? with
   | none=>none
   | some true=>some (q1,0)
   | some false=>match setP q1 l none with
    | none=>none
    | some q2=>some (q2,0)
def guessP (q:Srch): Option (Srch×Nat):=
 match q.assumed[q.starts.length]? with
 | some l=>assumeP q l
 | none=>match heavyP q with
  | none=>none
  | some none=>some (q,1)
  | some (some v)=>match q.vars[v]? with
   | none=>none
   | some x=>match openP q with
    | none=>none
    | some q1=>match setP q1 (if x.last then 2*v else 2*v+1) none with
     | none=>none
     | some q2=>some (q2,0)
def answerL (f:Nat)(budget:Int): Nat->Srch->Option Nat->Option (Srch×Nat)
 | 0,_,_=>none
 | n+1,q,clash=>
  match (match clash with|some k=>some (q,some k)|none=>drawP f q) with
  | none=>none
  | some (q1,none)=>match guessP q1 with
   | none=>none
   | some (q2,0)=>answerL f budget n q2 none
   | some (q2,a)=>some (q2,a)
  | some (q1,some k)=>match meetP q1 k budget with
   | none=>none
   | some (q2,0)=>answerL f budget n q2 none
   | some (q2,a)=>some (q2,a)
def newP (early:List Bool)(assumed:List Nat): Srch:=
 { assumed,clauses:=[],given:=0,watchers:=List.replicate (2*early.length) [],holds:=List.replicate (2*early.length) false,vars:=early.map λe=>⟨0,some 0,false,if e then 1 else 0,false⟩,trail:=[],starts:=[],drawn:=0,bonus:=16,met:=0,core:=[] }
def answerP (f n:Nat)(q:Srch)(cs:List (List Nat))(budget:Int): Option (Srch×Nat):=
 match loadP q cs with
 | none=>none
 | some (q1,clash)=>answerL f budget n q1 clash
structure Solv where
 early:List Bool
 clauses:List (List Nat)
 model:List Bool
 core:List Nat
 conflicts:Nat
def distL: List Nat->List Nat->List Nat
 | [],acc=>acc
 | l :: r,acc=>if l∈acc then distL r acc else distL r (acc++[l])
def dist (l:List Nat): List Nat:=distL l []
def alwaysP (l:List Nat): Bool:=l.zipIdx.any λ(x,i)=>(l.take i).any λy=>y==x ^^^ 1
def haveP (n:Nat)(l:List Nat): Bool:=l.all λx=>decide (x<2*n)
def addP (s:Solv)(l:List Nat): Option Solv:=
 if haveP s.early.length l∧l.length<most∧s.clauses.length<most then
  some (if alwaysP (dist l) then s else { s with clauses:=s.clauses++[dist l] })
 else none
def solveP (f n:Nat)(s:Solv)(as:List Nat)(budget:Int): Option (Solv×Nat):=
 if haveP s.early.length as∧as.length<most∧0<=budget∧0<s.early.length∧s.early.length<=192∧s.clauses.length<most then
  match answerP f n (newP s.early (dist as)) s.clauses budget with
  | none=>none
  | some (q,a)=>
   if s.conflicts<most62∧q.met<=most62∧q.vars.length=s.early.length∧q.holds.length=2*s.early.length then
    some ({ s with conflicts:=s.conflicts+q.met,model:=if a=1 then (List.range s.early.length).map (λv=>q.holds.getD (2*v) false) else [],core:=if a=2 then q.core else [] },a)
   else none
 else none
end Go.Ta
