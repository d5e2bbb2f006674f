import Derived.Test.YtimdkminagnhgabGreatDoorQ07
set_option linter.all false
namespace Go.Proofs.YtimdkminagnhgabGreatDoor
open Go.Vm Go.Proofs
set_option maxRecDepth 100000
def qsF (f:FuncId): Bool:=Nat.beq f 23||Nat.beq f 111
def I'K (G : Nat)(fn : Func): Bool := (match fn.body with | some c => C'A G qsF c | none => false) && !(fn.name == "runtime.NumGoroutine")
def P'c (fn:Func): Bool:=(match fn.body with|some c=>D's qsF c|none=>false)
theorem I'L {f:FuncId}{fn:Func}(hf:Tryz.prog.funcs[f]?=some fn)(h:P'c fn=true): M'I Tryz.prog qsF f:=by
 unfold P'c at h
 cases hb:fn.body with
 | none=>rw[hb]at h;simp at h
 | some c=>rw[hb]at h;exact⟨fn,c,hf,hb,h⟩
theorem R'a (f:FuncId)(h:qsF f=true): M'I Tryz.prog qsF f:=by
 simp only[qsF,Bool.or_eq_true]at h;rcases h with h|h
 ·have e:=Nat.eq_of_beq_eq_true h;subst e;exact I'L Tryz.func23 (by kernel_rfl)
 ·have e:=Nat.eq_of_beq_eq_true h;subst e;exact I'L Tryz.func111 (by kernel_rfl)
theorem K'q {G:Nat}{f:FuncId}{fn:Func}(hf:Tryz.prog.funcs[f]?=some fn)(h:I'K G fn=true): G'n Tryz.prog G qsF f:=by
 unfold I'K at h
 cases hb:fn.body with
 | none=>rw[hb]at h;simp at h
 | some c=>
  rw[hb]at h;simp only[l'k,l'L]at h;exact⟨fn,c,hf,hb,h.1,h.2⟩
def okR (P:Program): Nat->Nat->Bool
 | 0,_=>true
 | m+1,n=>(match P.funcs[n]? with|some fn=>I'K 3 fn|none=>false)&&okR P m (n+1)
theorem E'V (m:Nat): ∀n,okR Tryz.prog m n=true->∀f,n<=f->f<n+m->G'n Tryz.prog 3 qsF f:=by
 induction m with
 | zero=>intro n _ f h1 h2;omega
 | succ m ih=>
  intro n h f h1 h2;unfold okR at h;simp only[l'k]at h
  by_cases e:f=n
  ·subst e
   cases hf:Tryz.prog.funcs[f]? with
   | none=>rw[hf]at h;simp at h
   | some fn=>rw[hf]at h;exact K'q hf h.1
  ·exact ih (n+1) h.2 f (by omega) (by omega)
theorem S'l: okR Tryz.prog 40 3=true:=by kernel_rfl
theorem S'm: okR Tryz.prog 40 43=true:=by kernel_rfl
theorem S'n: okR Tryz.prog 40 83=true:=by kernel_rfl
theorem S'o: okR Tryz.prog 40 123=true:=by kernel_rfl
theorem S'p: okR Tryz.prog 40 163=true:=by kernel_rfl
theorem S'q: okR Tryz.prog 31 203=true:=by kernel_rfl
theorem P'd (f:Nat)(h:okS f=true): G'n Tryz.prog 3 qsF f:=by
 simp only[okS,l'k,l'M]at h;have h1:3<=f:=h.1;have h2:f<=233:=h.2
 by_cases b0:f<43
 ·exact E'V 40 3 S'l f (by omega) (by omega)
 by_cases b1:f<83
 ·exact E'V 40 43 S'm f (by omega) (by omega)
 by_cases b2:f<123
 ·exact E'V 40 83 S'n f (by omega) (by omega)
 by_cases b3:f<163
 ·exact E'V 40 123 S'o f (by omega) (by omega)
 by_cases b4:f<203
 ·exact E'V 40 163 S'p f (by omega) (by omega)
 exact E'V 31 203 S'q f (by omega) (by omega)
end Go.Proofs.YtimdkminagnhgabGreatDoor
