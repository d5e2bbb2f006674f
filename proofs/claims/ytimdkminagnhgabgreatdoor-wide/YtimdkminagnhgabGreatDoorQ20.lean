import Derived.Test.YtimdkminagnhgabGreatDoorQ16
set_option linter.all false
namespace Go.Ta
structure Ck where
 ni:Nat
 las:List (Nat×Nat)
 gts:List (Nat×Nat)
 bad:Nat
def Ck.nv (N:Ck): Nat:=1+N.ni+N.las.length+N.gts.length
def Ck.lla (N:Ck)(j:Nat): Nat:=2*(1+N.ni+j)
def Ck.lgt (N:Ck)(k:Nat): Nat:=2*(1+N.ni+N.las.length+k)
structure Fr where
 s:Solv
 own:List (List Nat)
structure Rn where
 spent:Int
 frames:List Fr
 way:List (Nat×Nat)
 kept:List (List Nat)
def C'm: List (List Nat)->Solv->Option Solv
 | [],s=>some s
 | l :: r,s=>match H'O s l with
  | none=>none
  | some s1=>C'm r s1
def B'x (N:Ck): List (Nat×Nat)->Nat->List (List Nat)
 | [],_=>[]
 | (g,l) :: r,k=>[N.lgt k ^^^ 1,g] :: [N.lgt k ^^^ 1,l] :: [N.lgt k,g ^^^ 1,l ^^^ 1] :: B'x N r (k+1)
def D'V (N:Ck): Option Fr:=
 match C'm ([1] :: B'x N N.gts 0) ⟨(List.range N.nv).map λv=>decide (v<=N.ni+N.las.length),[],[],[],0⟩ with
 | none=>none
 | some s=>some ⟨s,[]⟩
def B'm (N:Ck): List (Nat×Nat)->Nat->List (List Nat)
 | [],_=>[]
 | (_,r) :: t,j=>(if r=0 then [[N.lla j ^^^ 1]] else if r=1 then [[N.lla j]] else [])++B'm N t (j+1)
def E'0 (N:Ck): Option Rn:=
 match D'V N with
 | none=>none
 | some f=>match C'm (B'm N N.las 0) f.s with
  | none=>none
  | some s=>some ⟨0,[⟨s,f.own⟩],[],[]⟩
def B'7 (s:Solv)(first count:Nat): Nat:=(List.range count).foldl (λn j=>if s.model.getD (first+j) false then n ||| 2^j else n) 0
def B'X (N:Ck)(s:Solv): Nat×Nat:=(B'7 s (1+N.ni) N.las.length,B'7 s 1 N.ni)
def N'O (f n:Nat)(budget:Int)(R:Rn)(level:Nat)(as:List Nat): Option (Rn×Nat):=
 match R.frames[level]? with
 | none=>none
 | some F=>
  match D'A f n F.s as (budget-R.spent) with
  | none=>none
  | some (s1,a)=>
   let sp:=R.spent+(s1.conflicts-F.s.conflicts:Nat)
   some ({ R with spent:=sp,frames:=R.frames.set level { F with s:=s1 } },if budget<sp then 3 else a)
def B'3 (N:Ck)(R:Rn)(level:Nat): Option Rn:=
 match R.frames[level]? with
 | none=>none
 | some F=>if R.way.length<most then some { R with way:=R.way++[B'X N F.s],spent:=R.spent+1 } else none
def B'N (N:Ck)(st:Nat): Bool:=N.las.zipIdx.all λ((_,r),j)=>decide (r=2)||decide (r=st/2^j%2)
def E'K (f n:Nat)(N:Ck)(budget:Int): Nat->Rn->Option (Rn×Nat)
 | 0,_=>none
 | m+1,R=>
  match R.way.getLast? with
  | none=>some (R,0)
  | some (st,_)=>
   if budget<R.spent then some (R,3) else
   if R.frames.length<=R.way.length∨B'N N st=true then some (R,2) else
   none
def C'N (f n:Nat)(N:Ck)(budget:Int): Nat->Rn->Option (Rn×Nat)
 | 0,_=>none
 | m+1,R=>
  match N'O f n budget R (R.frames.length-1) [N.bad]with
  | none=>none
  | some (R1,1)=>match B'3 N R1 (R1.frames.length-1) with
   | none=>none
   | some R2=>match E'K f n N budget n R2 with
    | none=>none
    | some (_,0)=>none
    | some (R3,v)=>some (R3,v)
  | _=>none
def D'n (f n:Nat)(N:Ck)(budget:Int): Nat->Rn->Option (Rn×Nat)
 | 0,_=>none
 | m+1,R=>
  match C'N f n N budget n R with
  | none=>none
  | some (_,0)=>none
  | some (R1,v)=>some (R1,v)
end Go.Ta
