import Derived.Test.YtimdkminagnhgaaGreatDoorQ16
set_option linter.all false
namespace Go.Ta
structure Ck where
 ni:Nat
 las:List (Nat×Nat)
 gts:List (Nat×Nat)
 bad:Nat
def Ck.nv (N:Ck): Nat:=1+N.ni+N.las.length+N.gts.length
def Ck.lla (N:Ck)(j:Nat): Nat:=2*(1+N.ni+j)
def Ck.lgt (N:Ck)(k:Nat): Nat:=2*(1+N.ni+N.las.length+k)
structure Fr where
 s:Solv
 own:List (List Nat)
structure Rn where
 spent:Int
 frames:List Fr
 way:List (Nat×Nat)
 kept:List (List Nat)
def C'T: List (List Nat)->Solv->Option Solv
 | [],s=>some s
 | l :: r,s=>match J'e s l with
  | none=>none
  | some s1=>C'T r s1
def B'5 (N:Ck): List (Nat×Nat)->Nat->List (List Nat)
 | [],_=>[]
 | (g,l) :: r,k=>[N.lgt k ^^^ 1,g] :: [N.lgt k ^^^ 1,l] :: [N.lgt k,g ^^^ 1,l ^^^ 1] :: B'5 N r (k+1)
def E'u (N:Ck): Option Fr:=
 match C'T ([1] :: B'5 N N.gts 0) ⟨(List.range N.nv).map λv=>decide (v<=N.ni+N.las.length),[],[],[],0⟩ with
 | none=>none
 | some s=>some ⟨s,[]⟩
def B'I (N:Ck): List (Nat×Nat)->Nat->List (List Nat)
 | [],_=>[]
 | (_,r) :: t,j=>(if r=0 then [[N.lla j ^^^ 1]] else if r=1 then [[N.lla j]] else [])++B'I N t (j+1)
def F'M (N:Ck): Option Rn:=
 match E'u N with
 | none=>none
 | some f=>match C'T (B'I N N.las 0) f.s with
  | none=>none
  | some s=>some ⟨0,[⟨s,f.own⟩],[],[]⟩
def D'9 (N:Ck)(cl:List Nat): List Nat:=cl.map λx=>N.lla (x/2) ^^^ (x%2)
def G'X (N:Ck)(f:Fr)(cl:List Nat): Option Fr:=
 match J'e f.s (D'9 N cl) with
 | none=>none
 | some s=>some ⟨s,f.own⟩
def D'p (s:Solv)(first count:Nat): Nat:=(List.range count).foldl (λn j=>if s.model.getD (first+j) false then n ||| 2^j else n) 0
def A'7 (N:Ck)(s:Solv): Nat×Nat:=(D'p s (1+N.ni) N.las.length,D'p s 1 N.ni)
def B't (N:Ck)(st:Nat): List Nat:=(List.range N.las.length).map λj=>2*j+st/2^j%2
def A'6 (N:Ck)(cl:List Nat): List Nat:=cl.map λx=>((N.las.getD (x/2) (0,0)).1 ^^^ 1) ^^^ (x%2)
def B'f (l wanted:List Nat): List Bool:=(List.range l.length).map λk=>match l[k]? with
 | none=>false
 | some x=>decide (x∈wanted) && !(decide (x∈l.take k))
def A'5 (N:Ck)(x:Nat): Bool:=let r:=(N.las.getD (x/2) (0,0)).2;decide (r≠2)&&decide (r≠x%2)
def B'6 (N:Ck): List (Nat×Bool)->Bool->List Nat
 | [],_=>[]
 | (x, named) :: r, lacking =>
  if named then x :: B'6 N r lacking
  else if lacking&&A'5 N x then x :: B'6 N r false
  else B'6 N r lacking
def B'7 (N:Ck)(cl core:List Nat): List Nat:=
 let named:=B'f (A'6 N cl) core
 let z:=cl.zip named
 B'6 N z (!(z.any λp=>p.2&&A'5 N p.1))
def N'i (f n:Nat)(budget:Int)(R:Rn)(level:Nat)(as:List Nat): Option (Rn×Nat):=
 match R.frames[level]? with
 | none=>none
 | some F=>
  match E's f n F.s as (budget-R.spent) with
  | none=>none
  | some (s1,a)=>
   let sp:=R.spent+(s1.conflicts-F.s.conflicts:Nat)
   some ({ R with spent:=sp,frames:=R.frames.set level { F with s:=s1 } },if budget<sp then 3 else a)
def B'L (N:Ck)(R:Rn)(level:Nat): Option Rn:=
 match R.frames[level]? with
 | none=>none
 | some F=>if R.way.length<most then some { R with way:=R.way++[A'7 N F.s],spent:=R.spent+1 } else none
def C'H (N:Ck)(cl:List Nat): Nat->List Fr->Option (List Fr)
 | 0,fs=>some fs
 | k+1,fs=>
  match fs[k+1]? with
  | none=>none
  | some F=>
   let left:=F.own.filter λx=>x != cl
   if left.length<F.own.length then some (fs.set (k+1) { F with own:=left })
   else match G'X N ⟨F.s,left⟩ cl with
    | none=>none
    | some F1=>C'H N cl k (fs.set (k+1) F1)
def D'q (N:Ck)(R:Rn)(level:Nat)(cl:List Nat): Option Rn:=
 match C'H N cl level R.frames with
 | none=>none
 | some fs=>match fs[level]? with
  | none=>none
  | some F=>if F.own.length<most then some { R with frames:=fs.set level { F with own:=F.own++[cl] } } else none
def B'j (N:Ck)(st:Nat): Bool:=N.las.zipIdx.all λ((_,r),j)=>decide (r=2)||decide (r=st/2^j%2)
def E'C (f n:Nat)(N:Ck)(budget:Int): Nat->Rn->Option (Rn×Nat)
 | 0,_=>none
 | m+1,R=>
  match R.way.getLast? with
  | none=>some (R,0)
  | some (st,_)=>
   if budget<R.spent then some (R,3) else
   if R.frames.length<=R.way.length∨B'j N st=true then some (R,2) else
   let level:=R.frames.length-R.way.length
   let cl:=B't N st
   match N'i f n budget R (level-1) (A'6 N cl) with
   | none=>none
   | some (R1,3)=>some (R1,3)
   | some (R1,1)=>match B'L N R1 (level-1) with
    | none=>none
    | some R2=>E'C f n N budget m R2
   | some (R1,2)=>match R1.frames[level-1]? with
    | none=>none
    | some F=>if F.s.core.length<=most then match D'q N R1 level (B'7 N cl F.s.core) with
      | none=>none
      | some R2=>E'C f n N budget m { R2 with way:=R2.way.dropLast }
     else none
   | _=>none
def C'u (f n:Nat)(N:Ck)(budget:Int): Nat->Rn->Option (Rn×Nat)
 | 0,_=>none
 | m+1,R=>
  match N'i f n budget R (R.frames.length-1) [N.bad]with
  | none=>none
  | some (R1,3)=>some (R1,3)
  | some (R1,2)=>some (R1,0)
  | some (R1,1)=>match B'L N R1 (R1.frames.length-1) with
   | none=>none
   | some R2=>match E'C f n N budget n R2 with
    | none=>none
    | some (R3,0)=>C'u f n N budget m R3
    | some (R3,v)=>some (R3,v)
  | _=>none
def E'v (f n:Nat)(N:Ck)(budget:Int)(level:Nat): Nat->Rn->Option (Rn×Nat)
 | 0,_=>none
 | m+1,R=>
  match R.frames[level]? with
  | none=>none
  | some F=>match F.own with
   | []=>some (R,2)
   | cl :: _=>match N'i f n budget R level (A'6 N cl) with
    | none=>none
    | some (R1,2)=>match D'q N R1 (level+1) cl with
     | none=>none
     | some R2=>E'v f n N budget level m R2
    | some (R1,a)=>some (R1,a)
def Q'B (f n:Nat)(N:Ck)(budget:Int): Nat->Nat->Rn->Option (Rn×Nat)
 | 0,_,R=>some (R,0)
 | m+1,k,R=>
  match E'v f n N budget k n R with
  | none=>none
  | some (R1,3)=>some (R1,3)
  | some (R1,2)=>some ({ R1 with kept:=(R1.frames.drop (k+1)).flatMap (·.own) },1)
  | some (R1,_)=>Q'B f n N budget m (k+1) R1
def T'0 (f n:Nat)(N:Ck)(budget:Int)(R:Rn): Option (Rn×Nat):=
 match E'u N with
 | none=>none
 | some F=>if R.frames.length<most then Q'B f n N budget (R.frames.length-1) 1 { R with frames:=R.frames++[F] } else none
def C'4 (f n:Nat)(N:Ck)(budget:Int): Nat->Rn->Option (Rn×Nat)
 | 0,_=>none
 | m+1,R=>
  match C'u f n N budget n R with
  | none=>none
  | some (R1,0)=>match T'0 f n N budget R1 with
   | none=>none
   | some (R2,0)=>C'4 f n N budget m R2
   | some (R2,v)=>some (R2,v)
  | some (R1,v)=>some (R1,v)
end Go.Ta
