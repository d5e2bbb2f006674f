import Derived.Test.YtimdkminagnhgaaGreatDoorQ07
set_option linter.all false
namespace Go.Proofs.YtimdkminagnhgaaGreatDoor
open Go.Vm Go.Proofs
set_option maxRecDepth 100000
def qsF (f:FuncId): Bool:=Nat.beq f 35||Nat.beq f 146
def K'i (G : Nat)(fn : Func): Bool := (match fn.body with | some c => C'M G qsF c | none => false) && !(fn.name == "runtime.NumGoroutine")
def S'f (fn:Func): Bool:=(match fn.body with|some c=>D'S qsF c|none=>false)
theorem K'j {f:FuncId}{fn:Func}(hf:Tryz.prog.funcs[f]?=some fn)(h:S'f fn=true): O'1 Tryz.prog qsF f:=by
 unfold S'f at h
 cases hb:fn.body with
 | none=>rw[hb]at h;simp at h
 | some c=>rw[hb]at h;exact⟨fn,c,hf,hb,h⟩
theorem T'8 (f:FuncId)(h:qsF f=true): O'1 Tryz.prog qsF f:=by
 simp only[qsF,Bool.or_eq_true]at h;rcases h with h|h
 ·have e:=Nat.eq_of_beq_eq_true h;subst e;exact K'j Tryz.func35 (by kernel_rfl)
 ·have e:=Nat.eq_of_beq_eq_true h;subst e;exact K'j Tryz.func146 (by kernel_rfl)
theorem M'G {G:Nat}{f:FuncId}{fn:Func}(hf:Tryz.prog.funcs[f]?=some fn)(h:K'i G fn=true): H'v Tryz.prog G qsF f:=by
 unfold K'i at h
 cases hb:fn.body with
 | none=>rw[hb]at h;simp at h
 | some c=>
  rw[hb]at h;simp only[l'k,l'L]at h;exact⟨fn,c,hf,hb,h.1,h.2⟩
def okR (P:Program): Nat->Nat->Bool
 | 0,_=>true
 | m+1,n=>(match P.funcs[n]? with|some fn=>K'i 3 fn|none=>false)&&okR P m (n+1)
theorem F'C (m:Nat): ∀n,okR Tryz.prog m n=true->∀f,n<=f->f<n+m->H'v Tryz.prog 3 qsF f:=by
 induction m with
 | zero=>intro n _ f h1 h2;omega
 | succ m ih=>
  intro n h f h1 h2;unfold okR at h;simp only[l'k]at h
  by_cases e:f=n
  ·subst e
   cases hf:Tryz.prog.funcs[f]? with
   | none=>rw[hf]at h;simp at h
   | some fn=>rw[hf]at h;exact M'G hf h.1
  ·exact ih (n+1) h.2 f (by omega) (by omega)
theorem V'Q: okR Tryz.prog 40 3=true:=by kernel_rfl
theorem V'R: okR Tryz.prog 40 43=true:=by kernel_rfl
theorem V'S: okR Tryz.prog 40 83=true:=by kernel_rfl
theorem V'T: okR Tryz.prog 40 123=true:=by kernel_rfl
theorem V'U: okR Tryz.prog 40 163=true:=by kernel_rfl
theorem V'V: okR Tryz.prog 37 203=true:=by kernel_rfl
theorem S'g (f:Nat)(h:okS f=true): H'v Tryz.prog 3 qsF f:=by
 simp only[okS,l'k,l'M]at h;have h1:3<=f:=h.1;have h2:f<=239:=h.2
 by_cases b0:f<43
 ·exact F'C 40 3 V'Q f (by omega) (by omega)
 by_cases b1:f<83
 ·exact F'C 40 43 V'R f (by omega) (by omega)
 by_cases b2:f<123
 ·exact F'C 40 83 V'S f (by omega) (by omega)
 by_cases b3:f<163
 ·exact F'C 40 123 V'T f (by omega) (by omega)
 by_cases b4:f<203
 ·exact F'C 40 163 V'U f (by omega) (by omega)
 exact F'C 37 203 V'V f (by omega) (by omega)
end Go.Proofs.YtimdkminagnhgaaGreatDoor
