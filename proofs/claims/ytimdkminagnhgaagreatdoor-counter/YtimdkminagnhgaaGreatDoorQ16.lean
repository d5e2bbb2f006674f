import Derived.Test.YtimdkminagnhgaaGreatDoorQ06
set_option linter.all false
namespace Go.Ta
structure Cl where
 lits:List Nat
 left:Nat
 right:Nat
 span:Nat
structure Vr where
 level:Nat
 reason:Option Nat
 marked:Bool
 weight:Nat
 last:Bool
structure Srch where
 assumed:List Nat
 clauses:List Cl
 given:Nat
 watchers:List (List Nat)
 holds:List Bool
 vars:List Vr
 trail:List Nat
 starts:List Nat
 drawn:Nat
 bonus:Nat
 met:Nat
 core:List Nat
def most: Nat:=1000000
def B'w: Nat:=4611686018427387904
def H'p (q:Srch)(l:Nat)(r:Option Nat): Option Srch:=
 match q.vars[l/2]? with
 | none=>none
 | some v=>
  if l<q.holds.length∧q.trail.length<most then
   some { q with holds:=q.holds.set l true,vars:=q.vars.set (l/2) { v with level:=q.starts.length,reason:=r,last:=l%2==0 },trail:=q.trail++[l] }
  else none
def D'B (holds:List Bool)(left:Nat): List Nat->Option (Option Nat)
 | []=>some none
 | o :: r=>if o=left then D'B holds left r else
  match holds[o ^^^ 1]? with
  | none=>none
  | some true=>D'B holds left r
  | some false=>some (some o)
def E'A (q:Srch)(k fallen:Nat): Option (Srch×Bool):=
 match q.clauses[k]? with
 | none=>none
 | some c=>
  let c1:Cl:=if c.left=fallen then { c with left:=c.right,right:=fallen } else c
  let q1:Srch:={ q with clauses:=q.clauses.set k c1 }
  match q.holds[c1.left]? with
  | none=>none
  | some true=>some (q1,false)
  | some false=>
   match D'B q.holds c1.left c1.lits with
   | none=>none
   | some none=>some (q1,false)
   | some (some o)=>
    match q.watchers[o]? with
    | none=>none
    | some wl=>if wl.length<most∧o≠fallen then some ({ q with clauses:=q.clauses.set k { c1 with right:=o },watchers:=q.watchers.set o (wl++[k]) },true) else none
def B'Z (fallen:Nat): Nat->Srch->Nat->Nat->Option Nat->Option (Srch×Nat×Option Nat)
 | 0,q,_,kept,clash=>some (q,kept,clash)
 | m+1,q,i,kept,clash=>
  match q.watchers[fallen]? with
  | none=>none
  | some wl=>
   match wl[i]? with
   | none=>none
   | some k=>
    match E'A q k fallen with
    | none=>none
    | some (q1,true)=>B'Z fallen m q1 (i+1) kept clash
    | some (q1,false)=>
     let q2:Srch:={ q1 with watchers:=q1.watchers.set fallen (wl.set kept k) }
     match q2.clauses[k]? with
     | none=>none
     | some c=>
      match q2.holds[c.left ^^^ 1]? with
      | none=>none
      | some true=>B'Z fallen m q2 (i+1) (kept+1) (some k)
      | some false=>
       match q2.holds[c.left]? with
       | none=>none
       | some true=>B'Z fallen m q2 (i+1) (kept+1) clash
       | some false=>
        match H'p q2 c.left (some k) with
        | none=>none
        | some q3=>B'Z fallen m q3 (i+1) (kept+1) clash
def E'r (q:Srch)(fallen:Nat): Option (Srch×Option Nat):=
 match q.watchers[fallen]? with
 | none=>none
 | some wl=>
  match B'Z fallen wl.length q 0 0 none with
  | none=>none
  | some (q1,kept,clash)=>
   match q1.watchers[fallen]? with
   | none=>none
   | some wl1=>some ({ q1 with watchers:=q1.watchers.set fallen (wl1.take kept) },clash)
def D'M: Nat->Srch->Option (Srch×Option Nat)
 | 0,_=>none
 | m+1,q=>
  if q.drawn<q.trail.length then
   match q.trail[q.drawn]? with
   | none=>none
   | some l=>
    match E'r { q with drawn:=q.drawn+1 } (l ^^^ 1) with
    | none=>none
    | some (q1,some k)=>some (q1,some k)
    | some (q1,none)=>D'M m q1
  else some (q,none)
def D'n (holds:List Bool): List Vr->Nat->Option (Nat×Nat)->Option (Option Nat)
 | [],_,best=>some (best.map (·.1))
 | v :: r,i,best=>
  match holds[2*i]?,holds[2*i+1]? with
  | some a,some b=>
   if a||b then D'n holds r (i+1) best
   else match best with
    | none=>D'n holds r (i+1) (some (i,v.weight))
    | some (j,w)=>if w<v.weight then D'n holds r (i+1) (some (i,v.weight)) else D'n holds r (i+1) (some (j,w))
  | _,_=>none
def I'o (q:Srch): Option (Option Nat):=D'n q.holds q.vars 0 none
def C'1: List Nat->Srch->Option (Srch×Nat)
 | [],q=>some (q,0)
 | l :: r,q=>
  match q.vars[l/2]? with
  | none=>none
  | some v=>
   if v.marked||v.level==0 then C'1 r q
   else if v.weight+q.bonus<B'w then
    match C'1 r { q with vars:=q.vars.set (l/2) { v with marked:=true,weight:=v.weight+q.bonus } } with
    | none=>none
    | some (q1,n)=>some (q1,if v.level=q.starts.length then n+1 else n)
   else none
def C'7: Nat->Srch->Int->Option (Srch×Nat)
 | 0,q,_=>some (q,0)
 | d+1,q,op=>
  match q.trail[d+1]? with
  | none=>none
  | some l=>
   match q.vars[l/2]? with
   | none=>none
   | some v=>
    if v.marked then
     if op=1 then some (q,d+1) else
     match v.reason with
     | none=>some (q,d+1)
     | some k=>
      match q.clauses[k]? with
      | none=>none
      | some c=>
       match C'1 c.lits q with
       | none=>none
       | some (q1,m)=>if -most<=op∧op<=most∧m<=most then C'7 d q1 (op+(m-1)) else none
    else C'7 d q op
def H'G (vars:List Vr): List Nat->Option Bool
 | []=>some true
 | l :: r=>
  match vars[l/2]? with
  | none=>none
  | some o=>if !o.marked&&decide (0<o.level) then some false else H'G vars r
def H'H (q:Srch)(v:Nat): Option Bool:=
 match q.vars[v]? with
 | none=>none
 | some x=>match x.reason with
  | none=>some false
  | some k=>match q.clauses[k]? with
   | none=>none
   | some c=>H'G q.vars c.lits
def M'b (q:Srch): List Nat->List Nat->Option (List Nat)
 | [],acc=>some acc
 | l :: r,acc=>
  match q.vars[l/2]? with
  | none=>none
  | some v=>
   if v.marked then
    match H'H q (l/2) with
    | none=>none
    | some true=>M'b q r acc
    | some false=>if acc.length<most then M'b q r (acc++[l ^^^ 1]) else none
   else M'b q r acc
def R'Q (q:Srch)(pos:Nat): Option (List Nat):=
 match q.trail[pos]? with
 | none=>none
 | some l=>M'b q (q.trail.take pos) [l ^^^ 1]
def H'I (vars:List Vr): List Nat->Nat->Nat->Option Nat
 | [],_,span=>some span
 | l :: r,lev,span=>
  match vars[l/2]? with
  | none=>none
  | some v=>H'I vars r v.level (if v.level=lev then span else span+1)
def M'Z (q:Srch)(lits:List Nat): Option Nat:=H'I q.vars lits.tail 0 1
def D'V (q:Srch): Srch:={ q with vars:=q.vars.map λv=>{ v with marked:=false } }
def G'O (q:Srch): Option Srch:=
 let b:=q.bonus+q.bonus/16
 if b<B'w then
  if b<=1099511627776 then some { q with bonus:=b }
  else some { q with bonus:=b/68719476736,vars:=q.vars.map λv=>{ v with weight:=v.weight/68719476736 } }
 else none
def F's: List Nat->List Bool->Option (List Bool)
 | [],h=>some h
 | l :: r,h=>if l<h.length then F's r (h.set l false) else none
def G'P (q:Srch)(level:Nat): Option Srch:=
 match q.starts[level]? with
 | none=>some q
 | some s=>
  if s<=q.trail.length then
   match F's (q.trail.drop s) q.holds with
   | none=>none
   | some h=>some { q with holds:=h,trail:=q.trail.take s,starts:=q.starts.take level,drawn:=s }
  else none
def C'C (q:Srch)(k:Nat): Option Srch:=
 match q.clauses[k]? with
 | none=>none
 | some c=>
  match q.watchers[c.left]? with
  | none=>none
  | some a=>
   if a.length<most then
    match (q.watchers.set c.left (a++[k]))[c.right]? with
    | none=>none
    | some b=>if b.length<most then some { q with watchers:=(q.watchers.set c.left (a++[k])).set c.right (b++[k]) } else none
   else none
def C'G (q:Srch)(c:Cl): Option Srch:=
 if q.clauses.length<most then C'C { q with clauses:=q.clauses++[c] } q.clauses.length else none
def D'C: List (List Nat)->Nat->Srch->Option Nat->Option (Srch×Option Nat)
 | [],_,q,clash=>some (q,clash)
 | l :: r,k,q,clash=>
  match l with
  | a :: b :: _=>
   match C'G q ⟨l,a,b,0⟩ with
   | none=>none
   | some q1=>D'C r (k+1) q1 clash
  | [a]=>
   if q.clauses.length<most then
    match q.holds[a ^^^ 1]?,q.holds[a]? with
    | some true,some _=>D'C r (k+1) { q with clauses:=q.clauses++[⟨l,0,0,0⟩] } (some k)
    | some false,some true=>D'C r (k+1) { q with clauses:=q.clauses++[⟨l,0,0,0⟩] } clash
    | some false,some false=>
     match H'p { q with clauses:=q.clauses++[⟨l,0,0,0⟩] } a (some k) with
     | none=>none
     | some q1=>D'C r (k+1) q1 clash
    | _,_=>none
   else none
  | []=>if q.clauses.length<most then D'C r (k+1) { q with clauses:=q.clauses++[⟨l,0,0,0⟩] } (some k) else none
def M'0 (q:Srch)(cs:List (List Nat)): Option (Srch×Option Nat):=
 match D'C cs 0 q none with
 | none=>none
 | some (q1,clash)=>some ({ q1 with given:=cs.length },clash)
def C'2: List Cl->List Int->Option (List Int)
 | [],r=>some r
 | c :: l,r=>match r[c.span]? with
  | none=>none
  | some x=>C'2 l (r.set c.span (x+1))
def D'o: List Int->Int->List Int
 | [],_=>[]
 | x :: r,free=>(if free<x then free else x) :: D'o r (free-(if free<x then free else x))
def D'N (cls:List Cl)(given:Nat): Nat->List Int->List Bool->Option (List Bool)
 | 0,_,acc=>some acc
 | k+1,room,acc=>match cls[k]? with
  | none=>none
  | some c=>match room[c.span]? with
   | none=>none
   | some x=>D'N cls given k (room.set c.span (x-1)) ((decide (k<given)||decide (0<x)) :: acc)
def D'D (vars:List Vr): List Nat->List Bool->Option (List Bool)
 | [],st=>some st
 | l :: r,st=>match vars[l/2]? with
  | none=>none
  | some v=>match v.reason with
   | none=>D'D vars r st
   | some k=>if k<st.length then D'D vars r (st.set k true) else none
def B'm (st:List Bool)(k:Nat): Nat:=(st.take k).count true
def B'v: List Cl->List Bool->List Cl
 | c :: l,b :: s=>if b then c :: B'v l s else B'v l s
 | _,_=>[]
def D'5 (st:List Bool): List Nat->List Vr->Option (List Vr)
 | [],vs=>some vs
 | l :: r,vs=>match vs[l/2]? with
  | none=>none
  | some v=>match v.reason with
   | none=>D'5 st r vs
   | some k=>if st[k]?=some true then D'5 st r (vs.set (l/2) { v with reason:=some (B'm st k) }) else none
def E'B: Nat->Nat->Srch->Option Srch
 | 0,_,q=>some q
 | m+1,k,q=>match q.clauses[k]? with
  | none=>none
  | some c=>
   if 1<c.lits.length then
    match C'C q k with
    | none=>none
    | some q'=>E'B m (k+1) q'
   else E'B m (k+1) q
def H'J (q:Srch): Option Srch:=
 if q.given<=q.clauses.length then
  if q.clauses.length-q.given<4000 then some q else
  match C'2 (q.clauses.drop q.given) (List.replicate 193 0) with
  | none=>none
  | some r=>
   match D'N q.clauses q.given q.clauses.length (D'o r 2000) []with
   | none=>none
   | some st0=>
    match D'D q.vars q.trail st0 with
    | none=>none
    | some st=>
     match D'5 st q.trail q.vars with
     | none=>none
     | some vs=>E'B (B'v q.clauses st).length 0 { q with clauses:=B'v q.clauses st,vars:=vs,watchers:=q.watchers.map λ_=>[] }
 else none
def G'Q (q:Srch)(clash:Nat): Option Srch:=
 match q.clauses[clash]? with
 | none=>none
 | some c=>
 match C'1 c.lits q with
 | none=>none
 | some (q1,n)=>
 match C'7 (q1.trail.length-1) q1 n with
 | none=>none
 | some (q2,pos)=>
 match R'Q q2 pos with
 | none=>none
 | some lits=>
 match M'Z q2 lits with
 | none=>none
 | some span=>
 match G'O (D'V q2) with
 | none=>none
 | some q3=>
  match lits with
  | []=>none
  | [a]=>match G'P q3 0 with
   | none=>none
   | some q4=>H'p q4 a none
  | a :: r=>
   match q3.vars[(r.getLastD 0)/2]? with
   | none=>none
   | some v=>
    match G'P q3 v.level with
    | none=>none
    | some q4=>
     match H'J q4 with
     | none=>none
     | some q6=>
      match C'G q6 ⟨lits,a,r.getLastD 0,span⟩ with
      | none=>none
      | some q5=>H'p q5 a (some (q5.clauses.length-1))
def D'J: List Nat->Srch->Option Srch
 | [],q=>some q
 | l :: r,q=>
  match q.vars[l/2]? with
  | none=>none
  | some v=>
   if v.marked then
    match v.reason with
    | none=>if q.core.length<most then D'J r { q with core:=q.core++[l] } else none
    | some k=>match q.clauses[k]? with
     | none=>none
     | some c=>match C'1 c.lits q with
      | none=>none
      | some (q1,_)=>D'J r q1
   else D'J r q
def E'2 (q:Srch)(lits:List Nat): Option Srch:=
 match C'1 lits q with
 | none=>none
 | some (q1,_)=>D'J q1.trail.reverse q1
def K'w (q:Srch)(clash:Nat)(budget:Int): Option (Srch×Nat):=
 if q.met<B'w then
  let q0:Srch:={ q with met:=q.met+1 }
  if q0.starts.length<=q0.assumed.length then
   match q0.clauses[clash]? with
   | none=>none
   | some c=>match E'2 q0 c.lits with
    | none=>none
    | some q1=>some (q1,2)
  else if budget<(q0.met:Int) then some (q0,3)
  else match G'Q q0 clash with
   | none=>none
   | some q1=>some (q1,0)
 else none
def F't (q:Srch): Option Srch:=if q.starts.length<most then some { q with starts:=q.starts++[q.trail.length] } else none
def E'3 (q:Srch)(l:Nat): Option (Srch×Nat):=
 match q.holds[l ^^^ 1]? with
 | none=>none
 | some true=>match E'2 q [l]with
  | none=>none
  | some q1=>if q1.core.length<most then some ({ q1 with core:=q1.core++[l] },2) else none
 | some false=>match F't q with
  | none=>none
  | some q1=>match q1.holds[l]? with
   | none=>none
   | some true=>some (q1,0)
   | some false=>match H'p q1 l none with
    | none=>none
    | some q2=>some (q2,0)
def E'4 (q:Srch): Option (Srch×Nat):=
 match q.assumed[q.starts.length]? with
 | some l=>E'3 q l
 | none=>match I'o q with
  | none=>none
  | some none=>some (q,1)
  | some (some v)=>match q.vars[v]? with
   | none=>none
   | some x=>match F't q with
    | none=>none
    | some q1=>match H'p q1 (if x.last then 2*v else 2*v+1) none with
     | none=>none
     | some q2=>some (q2,0)
def C'3 (f:Nat)(budget:Int): Nat->Srch->Option Nat->Option (Srch×Nat)
 | 0,_,_=>none
 | n+1,q,clash=>
  match (match clash with|some k=>some (q,some k)|none=>D'M f q) with
  | none=>none
  | some (q1,none)=>match E'4 q1 with
   | none=>none
   | some (q2,0)=>C'3 f budget n q2 none
   | some (q2,a)=>some (q2,a)
  | some (q1,some k)=>match K'w q1 k budget with
   | none=>none
   | some (q2,0)=>C'3 f budget n q2 none
   | some (q2,a)=>some (q2,a)
def C'd (early:List Bool)(assumed:List Nat): Srch:=
 { assumed,clauses:=[],given:=0,watchers:=List.replicate (2*early.length) [],holds:=List.replicate (2*early.length) false,vars:=early.map λe=>⟨0,some 0,false,if e then 1 else 0,false⟩,trail:=[],starts:=[],drawn:=0,bonus:=16,met:=0,core:=[] }
def E'5 (f n:Nat)(q:Srch)(cs:List (List Nat))(budget:Int): Option (Srch×Nat):=
 match M'0 q cs with
 | none=>none
 | some (q1,clash)=>C'3 f budget n q1 clash
structure Solv where
 early:List Bool
 clauses:List (List Nat)
 model:List Bool
 core:List Nat
 conflicts:Nat
def D'e: List Nat->List Nat->List Nat
 | [],acc=>acc
 | l :: r,acc=>if l∈acc then D'e r acc else D'e r (acc++[l])
def E'F (l:List Nat): List Nat:=D'e l []
def B'Y (l:List Nat): Bool:=l.zipIdx.any λ(x,i)=>(l.take i).any λy=>y==x ^^^ 1
def E'6 (n:Nat)(l:List Nat): Bool:=l.all λx=>decide (x<2*n)
def J'e (s:Solv)(l:List Nat): Option Solv:=
 if E'6 s.early.length l∧l.length<most∧s.clauses.length<most then
  some (if B'Y (E'F l) then s else { s with clauses:=s.clauses++[E'F l] })
 else none
def E's (f n:Nat)(s:Solv)(as:List Nat)(budget:Int): Option (Solv×Nat):=
 if E'6 s.early.length as∧as.length<most∧0<=budget∧0<s.early.length∧s.early.length<=192∧s.clauses.length<most then
  match E'5 f n (C'd s.early (E'F as)) s.clauses budget with
  | none=>none
  | some (q,a)=>
   if s.conflicts<B'w∧q.met<=B'w∧q.vars.length=s.early.length∧q.holds.length=2*s.early.length then
    some ({ s with conflicts:=s.conflicts+q.met,model:=if a=1 then (List.range s.early.length).map (λv=>q.holds.getD (2*v) false) else [],core:=if a=2 then q.core else [] },a)
   else none
 else none
end Go.Ta
