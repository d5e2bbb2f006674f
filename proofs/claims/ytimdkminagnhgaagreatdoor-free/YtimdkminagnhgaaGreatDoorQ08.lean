import Derived.Test.YtimdkminagnhgaaGreatDoorQ07
set_option linter.all false
namespace Go.Proofs.YtimdkminagnhgaaGreatDoor
open Go.Vm Go.Proofs
set_option maxRecDepth 100000
def qsF (f:FuncId): Bool:=Nat.beq f 35||Nat.beq f 146
def funOkB (G : Nat)(fn : Func): Bool := (match fn.body with | some c => codeOk G qsF c | none => false) && !(fn.name == "runtime.NumGoroutine")
def funQB (fn:Func): Bool:=(match fn.body with|some c=>codeQ qsF c|none=>false)
theorem funQ_of {f:FuncId}{fn:Func}(hf:Tryz.prog.funcs[f]?=some fn)(h:funQB fn=true): FunQ Tryz.prog qsF f:=by
 unfold funQB at h
 cases hb:fn.body with
 | none=>rw[hb]at h;simp at h
 | some c=>rw[hb]at h;exact⟨fn,c,hf,hb,h⟩
theorem fun_q (f:FuncId)(h:qsF f=true): FunQ Tryz.prog qsF f:=by
 simp only[qsF,Bool.or_eq_true]at h;rcases h with h|h
 ·have e:=Nat.eq_of_beq_eq_true h;subst e;exact funQ_of Tryz.func35 (by kernel_rfl)
 ·have e:=Nat.eq_of_beq_eq_true h;subst e;exact funQ_of Tryz.func146 (by kernel_rfl)
theorem funOk_of {G:Nat}{f:FuncId}{fn:Func}(hf:Tryz.prog.funcs[f]?=some fn)(h:funOkB G fn=true): FunOk Tryz.prog G qsF f:=by
 unfold funOkB at h
 cases hb:fn.body with
 | none=>rw[hb]at h;simp at h
 | some c=>
  rw[hb]at h;simp only[l'k,l'L]at h;exact⟨fn,c,hf,hb,h.1,h.2⟩
def okR (P:Program): Nat->Nat->Bool
 | 0,_=>true
 | m+1,n=>(match P.funcs[n]? with|some fn=>funOkB 3 fn|none=>false)&&okR P m (n+1)
theorem okR_ok (m:Nat): ∀n,okR Tryz.prog m n=true->∀f,n<=f->f<n+m->FunOk Tryz.prog 3 qsF f:=by
 induction m with
 | zero=>intro n _ f h1 h2;omega
 | succ m ih=>
  intro n h f h1 h2;unfold okR at h;simp only[l'k]at h
  by_cases e:f=n
  ·subst e
   cases hf:Tryz.prog.funcs[f]? with
   | none=>rw[hf]at h;simp at h
   | some fn=>rw[hf]at h;exact funOk_of hf h.1
  ·exact ih (n+1) h.2 f (by omega) (by omega)
theorem fo_0: okR Tryz.prog 40 3=true:=by kernel_rfl
theorem fo_1: okR Tryz.prog 40 43=true:=by kernel_rfl
theorem fo_2: okR Tryz.prog 40 83=true:=by kernel_rfl
theorem fo_3: okR Tryz.prog 40 123=true:=by kernel_rfl
theorem fo_4: okR Tryz.prog 40 163=true:=by kernel_rfl
theorem fo_5: okR Tryz.prog 37 203=true:=by kernel_rfl
theorem fun_ok (f:Nat)(h:okS f=true): FunOk Tryz.prog 3 qsF f:=by
 simp only[okS,l'k,l'M]at h;have h1:3<=f:=h.1;have h2:f<=239:=h.2
 by_cases b0:f<43
 ·exact okR_ok 40 3 fo_0 f (by omega) (by omega)
 by_cases b1:f<83
 ·exact okR_ok 40 43 fo_1 f (by omega) (by omega)
 by_cases b2:f<123
 ·exact okR_ok 40 83 fo_2 f (by omega) (by omega)
 by_cases b3:f<163
 ·exact okR_ok 40 123 fo_3 f (by omega) (by omega)
 by_cases b4:f<203
 ·exact okR_ok 40 163 fo_4 f (by omega) (by omega)
 exact okR_ok 37 203 fo_5 f (by omega) (by omega)
end Go.Proofs.YtimdkminagnhgaaGreatDoor
