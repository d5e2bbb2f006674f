/-
  Regions and code for the kernel, second make: what a region makes for itself alone lies in no tree. Own work.
-/
import Derived.Test.YtimdkminagnhgabGreatDoorVyC
namespace Go.Vm
set_option linter.unusedSimpArgs false
set_option linter.unusedVariables false

def lkp (i : Nat) (l : List (Nat × Value)) (q : Value) : Value := match l with
  | [] => q
  | (j, v) :: r => bif Nat.beq i j then v else lkp i r q
def memb (i : Nat) (l : List Nat) : Bool := match l with
  | [] => false
  | j :: r => bif Nat.beq i j then true else memb i r
/-- One of these. -/
def lv (l : List Nat) (i : Nat) : Bool := memb i l

section
variable {d : Nat} (A : Acc d) (L : Nat → Bool) (P : Program) (ro : Nat)

def rho (t : Tr Value d) (loc : List (Nat × Value)) (x : Operand) : Value := match x with
  | .tmp i => lkp i loc (A.get i t)
  | .const v => v
  | .global g => .pointer (some ⟨g, 0, none⟩)
  | .func f => .func (.func f) #[] #[]
def mvOf (o : Option Nat) : Bool := match o with
  | some i => L i
  | none => false
def stpK {R : Type} (ops : Array Oper) (o : Oper) (loc : List (Nat × Value)) (call : CallT HpT) (t : Tr Value d) (h : HpT) (k : Kt R) : Option R := match o.guard with
  | none => actK P ro o.op (rho A t loc) (mvOf L o.dst) call h k
  | some (j, w) => match (ops[j]?).bind (·.dst) with
    | some q => kIf (rho A t loc (.tmp q)) w (fun k => actK P ro o.op (rho A t loc) (mvOf L o.dst) call h k) h k
    | none => k undef h
/-- Blocks must lie apart. -/
def sepK {R : Type} (ps : List (Operand × Operand)) (ρ : Operand → Value) (k : Option R) : Option R := match ps with
  | [] => k
  | p :: ps => bif sepA (ρ p.1) (ρ p.2) then sepK ps ρ k else none
def prs (ops : Array Oper) (draw : Bool) : List (Operand × Operand) := match draw with
  | true => pairsOf ops
  | false => []
def regK (ps : List (Operand × Operand)) (ops : Array Oper) (l : List Oper) (loc : List (Nat × Value)) (call : CallT HpT) (t : Tr Value d) (h : HpT) : RS d := match l with
  | [] => sepK ps (rho A t loc) (some (.normal, t, h))
  | o :: l => stpK A L P ro ops o loc call t h fun v h => match o.dst with
    | none => regK ps ops l loc call t h
    | some i => match L i with
      | true => A.put i t v fun t => regK ps ops l ((i, v) :: loc) call t h
      | false => regK ps ops l ((i, v) :: loc) call t h
def codeK : Code → CodeS d
  | .skip => cSkipS
  | .ret => cRetS
  | .exit id => cExitS id
  | .seq a b => cSeqS (codeK a) (codeK b)
  | .cond c a b => cIfS (opS A c) (codeK a) (codeK b)
  | .block id a => cBlkS id (codeK a)
  | .loop a => cLoopS (codeK a)
  | .region _ ops draw => cRegS (fun call t h => regK A L P ro (prs ops draw) ops ops.toList [] call t h)
  | _ => fun _ _ _ _ => none

/- What is asked of the temporaries. -/
def xok (n : Nat) (ids : List Nat) (x : Operand) : Bool := match x with
  | .tmp i => Nat.blt i n && (memb i ids || L i)
  | _ => true
def regOkL (n : Nat) (ps : List (Operand × Operand)) (ops : Array Oper) (l : List Oper) (ids : List Nat) : Bool := match l with
  | [] => ps.all fun p => xok L n ids p.1 && xok L n ids p.2
  | o :: l => (opnds o.op).all (xok L n ids) && (match o.guard with
      | none => true
      | some (j, _) => match (ops[j]?).bind (·.dst) with
        | some q => xok L n ids (.tmp q)
        | none => true) && (match o.dst with
      | none => regOkL n ps ops l ids
      | some i => Nat.blt i n && regOkL n ps ops l (i :: ids))
def codeOkL (n : Nat) : Code → Bool
  | .skip | .ret | .exit _ => true
  | .seq a b => codeOkL n a && codeOkL n b
  | .cond c a b => xok L n [] c && codeOkL n a && codeOkL n b
  | .block _ a | .loop a => codeOkL n a
  | .region _ ops draw => regOkL L n (prs ops draw) ops ops.toList []
  | _ => true
end

section
variable {P : Program} {ro d n : Nat} {A : Acc d} {L : Nat → Bool} {cs c : CallT HpT} {ok : FuncId → Bool}

/-- The tree, and what a region has made so far, hold what the temporaries hold. -/
structure AG (d n : Nat) (L : Nat → Bool) (loc : List (Nat × Value)) (ids : List Nat) (t : Tr Value d) (env : Env) : Prop where
  tree : ∀ j, j < n → L j = true → tget d t j = env j
  made : ∀ j, j < n → memb j ids = true → ∀ q, lkp j loc q = env j
  none : ∀ j q, memb j ids = false → lkp j loc q = q

theorem AG.put (hn : n ≤ 8 ^ d) {loc : List (Nat × Value)} {ids : List Nat} {t : Tr Value d} {env : Env} (g : AG d n L loc ids t env) {i : Nat} (hi : i < n) (v : Value) :
    AG d n L ((i, v) :: loc) (i :: ids) (match L i with | true => tset d t i v | false => t) (upd env i v) where
  tree j hj hL := by
    rw [upd_get]
    by_cases e : j = i
    · subst e
      rw [hL, if_pos rfl]
      simp only
      rw [tget_tset d t j j v (by omega) (by omega), if_pos rfl]
    · rw [if_neg e]
      cases hLi : L i with
      | true =>
        simp only
        rw [tget_tset d t i j v (by omega) (by omega), if_neg e]
        exact g.tree j hj hL
      | false => exact g.tree j hj hL
  made j hj hm q := by
    rw [upd_get]
    simp only [lkp]
    by_cases e : j = i
    · subst e
      have : Nat.beq j j = true := Nat.beq_refl j
      simp [this]
    · have hb : Nat.beq j i = false := by rw [beq_eq]; exact decide_eq_false e
      simp only [memb, hb, cond_false] at hm ⊢
      rw [if_neg e]
      exact g.made j hj hm q
  none j q hm := by
    simp only [memb] at hm
    cases hb : Nat.beq j i with
    | true => rw [hb] at hm; simp at hm
    | false =>
      rw [hb] at hm
      simp only [lkp, hb, cond_false]
      exact g.none j q hm

theorem rho_eq (hn : n ≤ 8 ^ d) {loc : List (Nat × Value)} {ids : List Nat} {t : Tr Value d} {env : Env} (g : AG d n L loc ids t env) {x : Operand} (hx : xok L n ids x = true) : rho A t loc x = ev env x := by
  cases x with
  | tmp i =>
    simp only [xok, Bool.and_eq_true, blt_eq, decide_eq_true_eq, Bool.or_eq_true] at hx
    obtain ⟨hi, h2⟩ := hx
    show lkp i loc (A.get i t) = env i
    cases hm : memb i ids with
    | true => exact g.made i hi hm _
    | false =>
      rw [hm] at h2
      simp only [Bool.false_eq_true, false_or] at h2
      rw [g.none i _ hm, A.get_eq]
      exact g.tree i hi h2
  | _ => rfl

theorem xok_inT {n : Nat} {ids : List Nat} {x : Operand} (hx : xok L n ids x = true) : inT n x = true := by
  cases x with
  | tmp i => simp only [xok, Bool.and_eq_true, blt_eq] at hx; exact hx.1
  | _ => rfl
theorem sepK_le {R : Type} (hn : n ≤ 8 ^ d) {loc : List (Nat × Value)} {ids : List Nat} {t : Tr Value d} {ta : Array Value} {env : Env} (hE : ER n ta env) (g : AG d n L loc ids t env) {k : Option R} {r : R} : ∀ (ps : List (Operand × Operand)), (ps.all fun p => xok L n ids p.1 && xok L n ids p.2) = true → sepK ps (rho A t loc) k = some r →
    k = some r ∧ (ps.all fun p => sepA (evalT ta p.1) (evalT ta p.2)) = true := by
  intro ps
  induction ps with
  | nil => intro _ h; exact ⟨h, rfl⟩
  | cons p ps ih =>
    intro hok h
    simp only [List.all_cons, Bool.and_eq_true] at hok ⊢
    simp only [sepK] at h
    rw [hE.eval (xok_inT hok.1.1), hE.eval (xok_inT hok.1.2), ← rho_eq (A := A) hn g hok.1.1, ← rho_eq (A := A) hn g hok.1.2]
    cases hs : sepA (rho A t loc p.1) (rho A t loc p.2) with
    | false => rw [hs] at h; simp at h
    | true =>
      rw [hs] at h
      obtain ⟨h1, h2⟩ := ih hok.2 h
      exact ⟨h1, rfl, h2⟩

theorem regK_run (hn : n ≤ 8 ^ d) (hc : CallLe cs c) {ops : Array Oper} {ps : List (Operand × Operand)} : ∀ (l : List Oper) (k0 : Nat), (∀ j, l[j]? = ops[k0 + j]?) → ∀ (loc : List (Nat × Value)) (ids : List Nat) (t : Tr Value d) (h : HpT) (ta : Array Value) (env : Env) (e : Exit) (t' : Tr Value d) (h' : HpT),
    regOkL L n ps ops l ids = true → ER n ta env → AG d n L loc ids t env → regK A L P ro ps ops l loc cs t h = some (e, t', h') →
    e = .normal ∧ ∃ ta' env', runA P tO ro c ops (List.range' k0 l.length) (ta, h) = some (ta', h') ∧ (ps.all fun p => sepA (evalT ta' p.1) (evalT ta' p.2)) = true ∧ ER n ta' env' ∧ ∀ j, j < n → L j = true → tget d t' j = env' j := by
  intro l
  induction l with
  | nil =>
    intro k0 _ loc ids t h ta env e t' h' hok hE g hv
    simp only [regK] at hv
    simp only [regOkL] at hok
    obtain ⟨hv, hs⟩ := sepK_le hn hE g ps hok hv
    simp only [Option.some.injEq, Prod.mk.injEq] at hv
    obtain ⟨rfl, rfl, rfl⟩ := hv
    exact ⟨rfl, ta, env, rfl, hs, hE, g.tree⟩
  | cons o l ih =>
    intro k0 hl loc ids t h ta env e t' h' hok hE g hv
    simp only [regOkL, Bool.and_eq_true] at hok
    obtain ⟨⟨ho, hg⟩, hd⟩ := hok
    have hops : ops[k0]? = some o := by have := hl 0; simpa using this.symm
    have hl' : ∀ j, l[j]? = ops[k0 + 1 + j]? := fun j => by
      have := hl (j + 1)
      simp only [List.getElem?_cons_succ] at this
      rw [this, show k0 + (j + 1) = k0 + 1 + j by omega]
    have hev : ∀ x ∈ opnds o.op, rho A t loc x = evalT ta x := fun x hx => by
      have hx' := List.all_eq_true.1 ho x hx
      rw [rho_eq hn g hx']
      exact (hE.eval (by
        cases x with
        | tmp i => simp only [xok, Bool.and_eq_true, blt_eq] at hx'; exact hx'.1
        | _ => rfl)).symm
    -- what follows
    have next : ∀ v h1, (match o.dst with
        | none => regK A L P ro ps ops l loc cs t h1
        | some i => match L i with
          | true => A.put i t v fun t => regK A L P ro ps ops l ((i, v) :: loc) cs t h1
          | false => regK A L P ro ps ops l ((i, v) :: loc) cs t h1) = some (e, t', h') →
        e = .normal ∧ ∃ ta' env', runA P tO ro c ops (List.range' (k0 + 1) l.length) (putT ta o.dst v, h1) = some (ta', h') ∧ (ps.all fun p => sepA (evalT ta' p.1) (evalT ta' p.2)) = true ∧ ER n ta' env' ∧ ∀ j, j < n → L j = true → tget d t' j = env' j := by
      intro v h1 hk
      cases hdst : o.dst with
      | none =>
        rw [hdst] at hk hd
        exact ih (k0 + 1) hl' loc ids t h1 ta env e t' h' hd hE g hk
      | some i =>
        rw [hdst] at hk hd
        simp only [Bool.and_eq_true, blt_eq, decide_eq_true_eq] at hd
        have hE2 := hE.put hd.1 v
        have g2 := g.put hn hd.1 v
        simp only at hk
        cases hL : L i with
        | true =>
          rw [hL] at hk g2
          simp only [put_look] at hk
          exact ih (k0 + 1) hl' _ _ _ h1 _ _ e t' h' hd.2 hE2 g2 hk
        | false =>
          rw [hL] at hk g2
          exact ih (k0 + 1) hl' _ _ _ h1 _ _ e t' h' hd.2 hE2 g2 hk
    have step : ∀ v h1, stepA P tO ro c ops k0 (ta, h) = some (putT ta o.dst v, h1) → (match o.dst with
        | none => regK A L P ro ps ops l loc cs t h1
        | some i => match L i with
          | true => A.put i t v fun t => regK A L P ro ps ops l ((i, v) :: loc) cs t h1
          | false => regK A L P ro ps ops l ((i, v) :: loc) cs t h1) = some (e, t', h') →
        e = .normal ∧ ∃ ta' env', runA P tO ro c ops (List.range' k0 (o :: l).length) (ta, h) = some (ta', h') ∧ (ps.all fun p => sepA (evalT ta' p.1) (evalT ta' p.2)) = true ∧ ER n ta' env' ∧ ∀ j, j < n → L j = true → tget d t' j = env' j := by
      intro v h1 hs hk
      obtain ⟨he, ta', env', hr, hq⟩ := next v h1 hk
      refine ⟨he, ta', env', ?_, hq⟩
      simp only [List.length_cons, List.range'_succ, runA, hs]
      exact hr
    have want : ∀ (hw : Region.wanted o (yielded ops ta) = true) (k : Kt (Exit × (Tr Value d × HpT))), actK P ro o.op (rho A t loc) (mvOf L o.dst) cs h k = some (e, t', h') → ∃ v h1, stepA P tO ro c ops k0 (ta, h) = some (putT ta o.dst v, h1) ∧ k v h1 = some (e, t', h') := by
      intro hw k hk
      obtain ⟨v, h1, ha, hk⟩ := actK_le hc hk
      rw [opA_congr hev] at ha
      refine ⟨v, h1, ?_, hk⟩
      simp only [stepA, hops]
      rw [if_pos hw, ha]
    have skip : Region.wanted o (yielded ops ta) = false → stepA P tO ro c ops k0 (ta, h) = some (putT ta o.dst undef, h) := by
      intro hw
      simp only [stepA, hops]
      rw [if_neg (by simp [hw])]
    simp only [regK, stpK] at hv
    cases hgd : o.guard with
    | none =>
      rw [hgd] at hv
      obtain ⟨v, h1, hs, hk⟩ := want (by simp [Region.wanted, hgd]) _ hv
      exact step v h1 hs hk
    | some jw =>
      obtain ⟨j, w⟩ := jw
      rw [hgd] at hv hg
      simp only at hv hg
      cases hq : (ops[j]?).bind (·.dst) with
      | none =>
        rw [hq] at hv
        exact step undef h (skip (by simp [Region.wanted, hgd, yielded, hq])) hv
      | some q =>
        rw [hq] at hv hg
        simp only at hv hg
        have hqn : q < n := by simp only [xok, Bool.and_eq_true, blt_eq, decide_eq_true_eq] at hg; exact hg.1
        have hrq : rho A t loc (.tmp q) = env q := rho_eq hn g hg
        rw [hrq] at hv
        have hyd : yielded ops ta j = (match env q with | .bool b => some b | _ => none) := by
          simp only [yielded, hq, Option.bind_some]
          have e1 : ta[q]? = some (env q) := by
            have h2 := hE.2 q hqn
            have hlt : q < ta.size := by rw [hE.1]; exact hqn
            rw [Array.getD_eq_getD_getElem?, Array.getElem?_eq_getElem hlt] at h2
            rw [Array.getElem?_eq_getElem hlt]
            simpa using h2
          rw [e1]
          cases env q <;> rfl
        have hwb : Region.wanted o (yielded ops ta) = isB (env q) w := by
          simp only [Region.wanted, hgd, hyd]
          cases env q with
          | bool b => cases b <;> cases w <;> rfl
          | _ => cases w <;> rfl
        cases hb : isB (env q) w with
        | true =>
          rw [hb] at hwb
          rw [kIf_true hb] at hv
          obtain ⟨v, h1, hs, hk⟩ := want hwb _ hv
          exact step v h1 hs hk
        | false =>
          rw [hb] at hwb
          rw [kIf_false hb] at hv
          exact step undef h (skip hwb) hv

theorem codeK_ev (hn : n ≤ 8 ^ d) (C : Lim P tO ro ok c) (hc : CallLe cs c) : ∀ (cd : Code), codeOkL L n cd = true → ∀ (k : Nat) (ta : Array Value) (env : Env) (t : Tr Value d) (h : HpT) (e : Exit) (t' : Tr Value d) (h' : HpT),
    ER n ta env → (∀ j, j < n → L j = true → tget d t j = env j) → codeK A L P ro cd cs k t h = some (e, t', h') →
    ∃ ta' env', Ev P tO ro ok cd (ta, h) e (ta', h') ∧ ER n ta' env' ∧ ∀ j, j < n → L j = true → tget d t' j = env' j := by
  intro cd
  induction cd with
  | skip =>
    intro _ k ta env t h e t' h' hE g hv
    simp only [codeK, cSkipS, Option.some.injEq, Prod.mk.injEq] at hv
    obtain ⟨rfl, rfl, rfl⟩ := hv
    exact ⟨ta, env, Ev.skip _, hE, g⟩
  | ret =>
    intro _ k ta env t h e t' h' hE g hv
    simp only [codeK, cRetS, Option.some.injEq, Prod.mk.injEq] at hv
    obtain ⟨rfl, rfl, rfl⟩ := hv
    exact ⟨ta, env, Ev.ret _, hE, g⟩
  | exit id =>
    intro _ k ta env t h e t' h' hE g hv
    simp only [codeK, cExitS, Option.some.injEq, Prod.mk.injEq] at hv
    obtain ⟨rfl, rfl, rfl⟩ := hv
    exact ⟨ta, env, Ev.exit _ _, hE, g⟩
  | seq a b iha ihb =>
    intro hin k ta env t h e t' h' hE g hv
    simp only [codeOkL, Bool.and_eq_true] at hin
    simp only [codeK, cSeqS] at hv
    cases ha : codeK A L P ro a cs k t h with
    | none => rw [ha] at hv; simp at hv
    | some p =>
      obtain ⟨e1, t1, h1⟩ := p
      rw [ha] at hv
      obtain ⟨ta1, env1, ev1, hE1, g1⟩ := iha hin.1 k ta env t h e1 t1 h1 hE g ha
      by_cases he : e1 = .normal
      · subst he
        obtain ⟨ta2, env2, ev2, hE2, g2⟩ := ihb hin.2 k ta1 env1 t1 h1 e t' h' hE1 g1 hv
        exact ⟨ta2, env2, Ev.seq ev1 ev2, hE2, g2⟩
      · have : e1 = e ∧ t1 = t' ∧ h1 = h' := by
          cases e1 <;> first | (exact absurd rfl he) | simpa using hv
        obtain ⟨rfl, rfl, rfl⟩ := this
        exact ⟨ta1, env1, Ev.seq_out ev1 he, hE1, g1⟩
  | cond x a b iha ihb =>
    intro hin k ta env t h e t' h' hE g hv
    simp only [codeOkL, Bool.and_eq_true] at hin
    simp only [codeK, cIfS] at hv
    have hx : opS A x t = evalT ta x := by
      have h1 := rho_eq (A := A) (loc := []) (ids := []) hn ⟨g, fun j _ hm => by simp [memb] at hm, fun j q _ => rfl⟩ hin.1.1
      have h2 : rho A t [] x = opS A x t := by cases x <;> rfl
      rw [← h2, h1]
      exact (hE.eval (by
        have := hin.1.1
        cases x with
        | tmp i => simp only [xok, Bool.and_eq_true, blt_eq] at this; exact this.1
        | _ => rfl)).symm
    rw [hx] at hv
    cases hb : evalT ta x with
    | bool bb =>
      rw [hb] at hv
      cases bb with
      | true =>
        obtain ⟨ta1, env1, ev1, hq⟩ := iha hin.1.2 k ta env t h e t' h' hE g hv
        exact ⟨ta1, env1, Ev.cond (b := true) hb ev1, hq⟩
      | false =>
        obtain ⟨ta1, env1, ev1, hq⟩ := ihb hin.2 k ta env t h e t' h' hE g hv
        exact ⟨ta1, env1, Ev.cond (b := false) hb ev1, hq⟩
    | _ => rw [hb] at hv; simp [cB] at hv
  | block id a iha =>
    intro hin k ta env t h e t' h' hE g hv
    simp only [codeOkL] at hin
    simp only [codeK, cBlkS_eq] at hv
    cases ha : codeK A L P ro a cs k t h with
    | none => rw [ha] at hv; simp at hv
    | some p =>
      obtain ⟨e1, t1, h1⟩ := p
      rw [ha] at hv
      simp only [Option.some.injEq, Prod.mk.injEq] at hv
      obtain ⟨rfl, rfl, rfl⟩ := hv
      obtain ⟨ta1, env1, ev1, hq⟩ := iha hin k ta env t h e1 t1 h1 hE g ha
      exact ⟨ta1, env1, Ev.block ev1, hq⟩
  | loop a iha =>
    intro hin k ta env t h e t' h' hE g hv
    simp only [codeOkL] at hin
    simp only [codeK, cLoopS] at hv
    induction k generalizing t h ta env with
    | zero => exact absurd hv (by simp [loopS])
    | succ k ihk =>
      rw [loopS_succ] at hv
      cases ha : codeK A L P ro a cs k t h with
      | none => rw [ha] at hv; simp at hv
      | some p =>
        obtain ⟨e1, t1, h1⟩ := p
        rw [ha] at hv
        obtain ⟨ta1, env1, ev1, hE1, g1⟩ := iha hin k ta env t h e1 t1 h1 hE g ha
        by_cases he : e1 = .normal
        · subst he
          obtain ⟨ta2, env2, ev2, hq⟩ := ihk ta1 env1 t1 h1 hE1 g1 hv
          exact ⟨ta2, env2, Ev.loop_next ev1 ev2, hq⟩
        · have : e1 = e ∧ t1 = t' ∧ h1 = h' := by
            cases e1 <;> first | (exact absurd rfl he) | simpa using hv
          obtain ⟨rfl, rfl, rfl⟩ := this
          exact ⟨ta1, env1, Ev.loop_out ev1 he, hE1, g1⟩
  | region id ops draw =>
    intro hin k ta env t h e t' h' hE g hv
    simp only [codeOkL] at hin
    simp only [codeK, cRegS] at hv
    obtain ⟨rfl, ta', env', hr, hsep, hq⟩ := regK_run hn hc ops.toList 0 (fun j => by simp) [] [] t h ta env e t' h' hin hE ⟨g, fun j _ hm => by simp [memb] at hm, fun j q _ => rfl⟩ hv
    obtain ⟨n1, hn1⟩ := runA_lim C _ _ _ hr
    have hfit : fitsA ops draw ta' = true := by
      unfold fitsA
      cases draw with
      | false => rfl
      | true => simpa [prs] using hsep
    refine ⟨ta', env', Ev.region ⟨n1, fun m' hm' => ?_⟩ hfit, hq⟩
    have : List.range ops.size = List.range' 0 ops.toList.length := by simp [List.range_eq_range']
    rw [this]
    exact hn1 m' hm'
  | _ => intro _ k ta env t h e t' h' hE g hv; simp [codeK] at hv

/- Functions. -/
def rvL (n : Nat) (L : Nat → Bool) : ResultVar → Bool
  | .tmp a => Nat.blt a n && L a
  | .cell a _ => Nat.blt a n && L a
def bodyK (A : Acc d) (L : Nat → Bool) (P : Program) (ro : Nat) (fn : Func) : CodeS d := match fn.body with
  | some c => codeK A L P ro c
  | none => fun _ _ _ _ => none
theorem good_k (A : Acc d) (L : Nat → Bool) {f : Nat} {rs : List ResultVar} {body : CodeS d} {res : Tr Value d → HpT → Option Value} {fn : Func} (hf : P.funcs[f]? = some fn) (hso : fn.body.isSome = true) (hn : fn.ntmps = n) (hok : ok f = true)
    (hb0 : bodyK A L P ro fn = body) (ht0 : (match fn.body with | some c => codeOkL L n c | none => false) = true) (hnd : Nat.ble n (8 ^ d) = true) (hrs : fn.results.toList = rs) (hr1 : rs.all (rvL n L) = true) (hres : resQ (resL0 A P rs) = res) : GoodF P ro ok f (runF d n body res) := by
  obtain ⟨cd, hcd⟩ := Option.isSome_iff_exists.1 hso
  have hb : codeK A L P ro cd = body := by rw [← hb0]; simp [bodyK, hcd]
  have ht : codeOkL L n cd = true := by simpa [hcd] using ht0
  intro cs c C hc K args h r hv
  subst hb
  subst hres
  subst hn
  have hnd := Nat.le_of_ble_eq_true hnd
  have hr2 : rs.all (rvIn fn.ntmps) = true := List.all_eq_true.2 fun x hx => by
    have := List.all_eq_true.1 hr1 x hx
    cases x <;> simp only [rvL, Bool.and_eq_true, blt_eq, decide_eq_true_eq] at this <;> simpa [rvIn] using this.1
  have hr3 : rs.all (rvIn (8 ^ d)) = true := List.all_eq_true.2 fun x hx => by
    have := List.all_eq_true.1 hr1 x hx
    cases x <;> simp only [rvL, Bool.and_eq_true, blt_eq, decide_eq_true_eq] at this <;> simp only [rvIn, decide_eq_true_eq] <;> exact Nat.lt_of_lt_of_le this.1 hnd
  unfold runF at hv
  cases hl : Nat.ble args.length fn.ntmps with
  | false => rw [hl] at hv; simp at hv
  | true =>
    rw [hl] at hv
    have hl' := Nat.le_of_ble_eq_true hl
    simp only [cond_true, entS_eq] at hv
    have key : ∀ e t' h', codeK A L P ro cd cs K (entT0 d args (tfull undef d) 0) h = some (e, t', h') → (e = .ret ∨ e = .normal) → (match resQ (resL0 A P rs) t' h' with | some v => some (v, h') | none => none) = some r → c f args h = some r := by
      intro e t' h' hcode he hq
      have hE : ER fn.ntmps (args.toArray ++ Array.replicate (fn.ntmps - args.length) undef) (envOf args) := by
        refine ⟨by simp; omega, fun i hi => ?_⟩
        rw [envOf_get, Array.getD_eq_getD_getElem?]
        by_cases hl : i < args.length
        · rw [Array.getElem?_append_left (by simpa using hl)]; simp
        · rw [Array.getElem?_append_right (by simpa using hl), List.getElem?_eq_none (by omega)]
          simp only [Array.getElem?_replicate]
          split <;> rfl
      have hla : look d (entT0 d args (tfull undef d) 0) = envOf args := look_args (by omega)
      obtain ⟨ta2, env2, hev, hE2, g2⟩ := codeK_ev hnd C hc cd ht K _ _ _ h e t' h' hE (fun j hj _ => by
        rw [← hla, look_lt (by omega)]) hcode
      cases hq2 : resQ (resL0 A P rs) t' h' with
      | none => rw [hq2] at hq; simp at hq
      | some v =>
        rw [hq2] at hq
        simp only [Option.some.injEq] at hq
        subst hq
        have hr := resQ_le hr3 hq2
        refine C.whole _ _ _ _ _ (EvF.of_body hok hf hcd hev he ?_)
        unfold resA
        rw [hrs, resLE_eq hE2 rs hr2]
        have hcong : ∀ (l : List ResultVar), l.all (rvL fn.ntmps L) = true → resLE tO P (look d t') h' l = resLE tO P env2 h' l := by
          intro l
          induction l with
          | nil => intro _; rfl
          | cons x l ih =>
            intro hx
            simp only [List.all_cons, Bool.and_eq_true] at hx
            have h1 : rvE tO P x (look d t') h' = rvE tO P x env2 h' := by
              cases x with
              | tmp a =>
                have := hx.1
                simp only [rvL, Bool.and_eq_true, blt_eq, decide_eq_true_eq] at this
                have e2 : look d t' a = env2 a := by rw [look_lt (by omega)]; exact g2 a this.1 this.2
                show some (look d t' a) = some (env2 a)
                rw [e2]
              | cell a ty =>
                have := hx.1
                simp only [rvL, Bool.and_eq_true, blt_eq, decide_eq_true_eq] at this
                have e2 : look d t' a = env2 a := by rw [look_lt (by omega)]; exact g2 a this.1 this.2
                show loadA P tO ty (look d t' a) h' = loadA P tO ty (env2 a) h'
                rw [e2]
            simp only [resLE, h1, ih hx.2]
        unfold resE at hr
        rw [hcong rs hr1] at hr
        exact hr
    split at hv
    · rename_i t' h' hq; exact key _ t' h' hq (.inl rfl) hv
    · rename_i t' h' hq; exact key _ t' h' hq (.inr rfl) hv
    · simp at hv
end
end Go.Vm
