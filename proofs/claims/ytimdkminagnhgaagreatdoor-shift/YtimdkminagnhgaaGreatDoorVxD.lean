/-
  Code for the kernel: regions, code, functions, calls; all it comes to holds of calls with fuel enough. Own work.
-/
import Derived.Test.YtimdkminagnhgaaGreatDoorVxC
namespace Go.Vm
set_option linter.unusedSimpArgs false
set_option linter.unusedVariables false

section
variable {P : Program} {ro d : Nat} {A : Acc d} {cs c : CallT HpT}

/- Results. -/
def ld1 (x : Value) (h : HpT) : Option Value := match x with
  | .pointer (some ⟨b, o, _⟩) => hcell h b o
  | _ => none
def ldN (n : Nat) (x : Value) (h : HpT) : Option Value := match x with
  | .pointer (some ⟨b, o, _⟩) => bif Nat.blt b h.n then (match hblk h b with | some l => takA n (drp l o) [] fun c => some (.agg ⟨c⟩) | none => none) else none
  | _ => none
def rT (X : Tr Value d → Value) : Tr Value d → HpT → Option Value := fun t _ => fShal (X t) fun v => some v
def rC (X : Tr Value d → Value) : Tr Value d → HpT → Option Value := fun t h => ld1 (X t) h
def rN (n : Nat) (X : Tr Value d → Value) : Tr Value d → HpT → Option Value := fun t h => ldN n (X t) h
def rvS (A : Acc d) (P : Program) (r : ResultVar) : Tr Value d → HpT → Option Value := match r with
  | .tmp a => rT (A.get a)
  | .cell a ty => match isAggT P ty, P.info? ty with
    | some true, some i => rN i.size (A.get a)
    | some false, some _ => rC (A.get a)
    | _, _ => fun _ _ => none
abbrev ResS (d : Nat) := Tr Value d → HpT → Option (List Value)
def qn : ResS d := fun _ _ => some []
def qc (x : Tr Value d → HpT → Option Value) (l : ResS d) : ResS d := fun t h => match x t h with
  | some v => (match l t h with
    | some vs => (match isTup v with | true => none | false => some (v :: vs))
    | none => none)
  | none => none
def resL0 (A : Acc d) (P : Program) (l : List ResultVar) : ResS d := match l with
  | [] => qn
  | r :: l => qc (rvS A P r) (resL0 A P l)
def resQ (l : ResS d) (t : Tr Value d) (h : HpT) : Option Value := match l t h with
  | some [v] => some v
  | some vs => some (.tuple ⟨vs⟩)
  | none => none

theorem rvS_le {r : ResultVar} (hr : rvIn (8 ^ d) r = true) {t : Tr Value d} {h : HpT} {v : Value} (hv : rvS A P r t h = some v) : rvE tO P r (look d t) h = some v := by
  cases r with
  | tmp a =>
    simp only [rvS, rT, fShal_eq] at hv
    have ha : a < 8 ^ d := by simpa [rvIn] using hr
    have e : A.get a t = look d t a := get_look ha
    rw [e] at hv
    exact hv
  | cell a ty =>
    have ha : a < 8 ^ d := by simpa [rvIn] using hr
    have e : A.get a t = look d t a := get_look ha
    simp only [rvS] at hv
    show loadA P tO ty (look d t a) h = some v
    unfold loadA
    unfold isAggT at hv
    cases hu : P.underlying ty with
    | none => rw [hu] at hv; simp at hv
    | some k =>
      rw [hu] at hv
      cases hi : P.info? ty with
      | none => rw [hi] at hv; cases k <;> simp at hv
      | some i =>
        rw [hi] at hv
        have one : rC (A.get a) t h = some v → (match look d t a with | .pointer (some a) => tO.cell h a.block a.off | _ => none) = some v := by
          intro hv
          simp only [rC, ld1, e] at hv
          split at hv
          · rename_i b o s he
            rw [he]
            exact hv
          · simp at hv
        have many : rN i.size (A.get a) t h = some v → (match look d t a with | .pointer (some a) => (cellsA tO h a.block a.off i.size).map fun l => Value.agg l.toArray | _ => none) = some v := by
          intro hv
          simp only [rN, ldN, e] at hv
          split at hv
          · rename_i b o s he
            rw [he]
            rw [blt_eq] at hv
            by_cases hb : b < h.n
            · simp only [hb, decide_true, cond_true] at hv
              cases hl : hblk h b with
              | none => rw [hl] at hv; simp at hv
              | some l =>
                rw [hl] at hv
                obtain ⟨p, k1, k2, k3⟩ := takA_le hv
                rw [drp_eq] at k2
                have hcc := cells_of hb hl _ o p k1 k2
                simp only [hcc, Option.map_some]
                simpa using k3
            · simp [hb] at hv
          · simp at hv
        cases k <;> first
          | (have := many hv; revert this; cases look d t a <;> first | exact id | (rename_i q; cases q <;> exact id))
          | (have := one hv; revert this; cases look d t a <;> first | exact id | (rename_i q; cases q <;> exact id))

theorem resQL_le {t : Tr Value d} {h : HpT} : ∀ (l : List ResultVar), l.all (rvIn (8 ^ d)) = true → ∀ vs, resL0 A P l t h = some vs → resLE tO P (look d t) h l = some vs := by
  intro l
  induction l with
  | nil => intro _ vs hv; exact hv
  | cons r l ih =>
    intro hl vs hv
    simp only [List.all_cons, Bool.and_eq_true] at hl
    simp only [resL0, qc] at hv
    simp only [resLE]
    cases h1 : rvS A P r t h with
    | none => rw [h1] at hv; simp at hv
    | some v =>
      rw [h1] at hv
      simp only at hv
      cases h2 : resL0 A P l t h with
      | none => rw [h2] at hv; simp at hv
      | some ws =>
        rw [h2] at hv
        simp only at hv
        rw [rvS_le hl.1 h1, ih hl.2 ws h2]
        simp only
        cases h3 : isTup v with
        | true => rw [h3] at hv; simp at hv
        | false => rw [h3] at hv; simpa using hv
theorem resQ_le {t : Tr Value d} {h : HpT} {l : List ResultVar} (hl : l.all (rvIn (8 ^ d)) = true) {v : Value} (hv : resQ (resL0 A P l) t h = some v) : resE tO P l (look d t) h = some v := by
  unfold resQ at hv
  unfold resE
  cases h1 : resL0 A P l t h with
  | none => rw [h1] at hv; simp at hv
  | some vs =>
    rw [h1] at hv
    rw [resQL_le l hl vs h1]
    exact hv

/- Functions. -/
def entT0 (d : Nat) : List Value → Tr Value d → Nat → Tr Value d
  | [], t, _ => t
  | v :: l, t, i => entT0 d l (tset d t i v) (i + 1)
def entS {R : Type} (d : Nat) (l : List Value) (t : Tr Value d) (i : Nat) (k : Tr Value d → R) : R :=
  Nat.rec (motive := fun _ => List Value → Tr Value d → Nat → (Tr Value d → R) → R) (fun l t i k => k (entT0 d l t i)) (fun _ ih l t i k => l.casesOn (k t) fun v l => fShal v fun v => tput d t i v fun t => ih l t (Nat.add i 1) k) 100 l t i k
theorem entS_eq {R : Type} (l : List Value) (t : Tr Value d) (i : Nat) (k : Tr Value d → R) : entS d l t i k = k (entT0 d l t i) := by
  unfold entS
  generalize (100 : Nat) = n
  induction n generalizing l t i k with
  | zero => rfl
  | succ n ih => cases l with
    | nil => rfl
    | cons v l => exact (fShal_eq _ _).trans ((tput_eq d t i v _).trans (ih l _ _ _))
theorem look_ent : ∀ (l : List Value) (t : Tr Value d) (i j : Nat), i + l.length ≤ 8 ^ d → look d (entT0 d l t i) j = if i ≤ j ∧ j < i + l.length then (l[j - i]?).getD undef else look d t j := by
  intro l
  induction l with
  | nil => intro t i j _; simp [entT0]; omega
  | cons v l ih =>
    intro t i j hle
    simp only [List.length_cons] at hle
    simp only [entT0]
    rw [ih _ _ _ (by omega), look_set (by omega), upd_get]
    by_cases h1 : j = i
    · subst h1
      rw [if_neg (by omega), if_pos rfl, if_pos (by simp)]
      simp
    · by_cases h2 : i + 1 ≤ j ∧ j < i + 1 + l.length
      · rw [if_pos h2, if_pos (by simp only [List.length_cons]; omega)]
        obtain ⟨q, rfl⟩ : ∃ q, j = i + 1 + q := ⟨j - (i + 1), by omega⟩
        have e1 : i + 1 + q - (i + 1) = q := by omega
        have e2 : i + 1 + q - i = q + 1 := by omega
        rw [e1, e2, List.getElem?_cons_succ]
      · rw [if_neg h2, if_neg h1, if_neg (by simp only [List.length_cons]; omega)]
theorem tget_full : ∀ (d : Nat) (a : Value) (i : Nat), tget d (tfull a d) i = a := by
  intro d
  induction d with
  | zero => intro a i; rfl
  | succ d ih =>
    intro a i
    have : ∀ j, sel j (tfull a (d + 1)) = tfull a d := by
      intro j
      unfold sel
      cases Nat.ble j 3 <;> cases Nat.ble j 1 <;> cases Nat.beq j 0 <;> cases Nat.beq j 2 <;> cases Nat.ble j 5 <;> cases Nat.beq j 4 <;> cases Nat.beq j 6 <;> rfl
    rw [tget_succ]
    exact (congrArg (fun z => tget d z _) (this _)).trans (ih a _)
theorem look_args {l : List Value} (hl : l.length ≤ 8 ^ d) : look d (entT0 d l (tfull undef d) 0) = envOf l := by
  funext j
  rw [look_ent l _ 0 j (by omega), envOf_get]
  by_cases h : j < l.length
  · rw [if_pos (by omega)]; simp
  · rw [if_neg (by omega), List.getElem?_eq_none (by omega)]
    simp only [look, tget_full]
    cases Nat.blt j (Nat.pow 8 d) <;> rfl

abbrev FnT := CallT HpT → Nat → List Value → HpT → Option (Value × HpT)
def runF (d n : Nat) (body : CodeS d) (res : Tr Value d → HpT → Option Value) : FnT := fun call K args h =>
  bif Nat.ble args.length n then
    entS d args (tfull undef d) 0 fun t => match body call K t h with
      | some (.ret, t, h) => (match res t h with | some v => some (v, h) | none => none)
      | some (.normal, t, h) => (match res t h with | some v => some (v, h) | none => none)
      | _ => none
  else none
/-- The same, the arguments laid at once. -/
abbrev EntS (d : Nat) := List Value → (Tr Value d → Option (Value × HpT)) → Option (Value × HpT)
def runG {d : Nat} (en : EntS d) (body : CodeS d) (res : Tr Value d → HpT → Option Value) : FnT := fun call K args h => en args fun t =>
  (body call K t h).casesOn none fun p => p.casesOn fun e q => q.casesOn fun t h => e.casesOn ((res t h).casesOn none fun v => some (v, h)) (fun _ => none) (fun _ => none) ((res t h).casesOn none fun v => some (v, h)) (fun _ => none) none
def EntOk (d m : Nat) (en : EntS d) : Prop := ∀ args k r, en args k = some r → args.length = m ∧ k (entT0 d args (tfull undef d) 0) = some r
theorem runG_le {d n m : Nat} {en : EntS d} (he : EntOk d m en) (hm : Nat.ble m n = true) {body : CodeS d} {res : Tr Value d → HpT → Option Value} {call : CallT HpT} {K : Nat} {args : List Value} {h : HpT} {r : Value × HpT} (hv : runG en body res call K args h = some r) : runF d n body res call K args h = some r := by
  obtain ⟨h1, h2⟩ := he _ _ _ hv
  unfold runF
  rw [h1, hm]
  simp only [cond_true, entS_eq]
  cases hb : body call K (entT0 d args (tfull undef d) 0) h with
  | none => rw [hb] at h2; simp at h2
  | some p =>
    obtain ⟨e, t, h⟩ := p
    rw [hb] at h2
    cases e <;> first | (simp at h2; done) | (simp only at h2 ⊢; cases hr : res t h with
      | none => rw [hr] at h2; simp at h2
      | some v => rw [hr] at h2; exact h2)

def GoodF (P : Program) (ro : Nat) (ok : FuncId → Bool) (f : FuncId) (F : FnT) : Prop :=
  ∀ (cs c : CallT HpT), Lim P tO ro ok c → CallLe cs c → ∀ K args h r, F cs K args h = some r → c f args h = some r

theorem GoodF.enter {P : Program} {ro : Nat} {ok : FuncId → Bool} {f d n m : Nat} {body : CodeS d} {res : Tr Value d → HpT → Option Value} (g : GoodF P ro ok f (runF d n body res)) {en : EntS d} (he : EntOk d m en) (hm : Nat.ble m n = true) : GoodF P ro ok f (runG en body res) :=
  fun cs c C hc K args h r hv => g cs c C hc K args h r (runG_le he hm hv)

/- Calls. -/
def nd (m : Nat) (x y : FuncId → Option FnT) : FuncId → Option FnT := fun f => bif Nat.ble f m then x f else y f
def lf (n : Nat) (F : FnT) : FuncId → Option FnT := fun f => bif Nat.beq f n then some F else none
def Gd (P : Program) (ro : Nat) (ok : FuncId → Bool) (x : FuncId → Option FnT) : Prop := ∀ f F, x f = some F → GoodF P ro ok f F
theorem gd_nd {ok : FuncId → Bool} {m : Nat} {x y : FuncId → Option FnT} (hx : Gd P ro ok x) (hy : Gd P ro ok y) : Gd P ro ok (nd m x y) := by
  intro f F h
  unfold nd at h
  cases hb : Nat.ble f m with
  | true => rw [hb] at h; exact hx f F h
  | false => rw [hb] at h; exact hy f F h
theorem gd_lf {ok : FuncId → Bool} {n : Nat} {G : FnT} (hG : GoodF P ro ok n G) : Gd P ro ok (lf n G) := by
  intro f F h
  unfold lf at h
  cases hb : Nat.beq f n with
  | true =>
    rw [hb] at h
    simp only [cond_true, Option.some.injEq] at h
    subst h
    have : f = n := Nat.eq_of_beq_eq_true hb
    subst this
    exact hG
  | false => rw [hb] at h; simp at h

def callS (tab : FuncId → Option FnT) (K n : Nat) : CallT HpT :=
  Nat.rec (motive := fun _ => CallT HpT) (fun _ _ _ => none) (fun _ ih f args h => match tab f with
    | some F => F ih K args h
    | none => none) n
theorem callS_succ (tab : FuncId → Option FnT) (K n : Nat) (f : FuncId) (args : List Value) (h : HpT) : callS tab K (n + 1) f args h = match tab f with
    | some F => F (callS tab K n) K args h
    | none => none := rfl

theorem callS_le {ok : FuncId → Bool} {tab : FuncId → Option FnT} (hg : Gd P ro ok tab) (C : Lim P tO ro ok c) (K : Nat) : ∀ n, CallLe (callS tab K n) c := by
  intro n
  induction n with
  | zero => intro f args h r hv; exact absurd hv (by simp [callS])
  | succ n ih =>
    intro f args h r hv
    rw [callS_succ] at hv
    cases ht : tab f with
    | none => rw [ht] at hv; simp at hv
    | some F =>
      rw [ht] at hv
      exact hg f F ht _ c C ih K args h r hv
end
end Go.Vm
