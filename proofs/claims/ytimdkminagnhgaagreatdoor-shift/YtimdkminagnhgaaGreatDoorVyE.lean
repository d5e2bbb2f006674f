/-
  Cells that are laid over others: structs and lists are built for the kernel. Own work.
-/
import Derived.Test.YtimdkminagnhgaaGreatDoorVxD
namespace Go.Vm
set_option linter.unusedSimpArgs false
set_option linter.unusedVariables false

theorem over (off : Nat) : ∀ (cs : List Value) (j0 : Nat) (a : Array Value) (i : Nat), ((cs.zipIdx j0).foldl (fun a p => a.setIfInBounds (off + p.2) p.1) a)[i]? = if off + j0 ≤ i ∧ i < off + j0 + cs.length ∧ i < a.size then cs[i - (off + j0)]? else a[i]? := by
  intro cs
  induction cs with
  | nil => intro j0 a i; rw [if_neg (by simp; omega)]; rfl
  | cons c cs ih =>
    intro j0 a i
    simp only [List.zipIdx_cons, List.foldl_cons]
    rw [ih]
    simp only [Array.size_setIfInBounds, List.length_cons, Array.getElem?_setIfInBounds]
    by_cases h1 : off + (j0 + 1) ≤ i ∧ i < off + (j0 + 1) + cs.length ∧ i < a.size
    · rw [if_pos h1, if_pos (by omega)]
      obtain ⟨q, rfl⟩ : ∃ q, i = off + (j0 + 1) + q := ⟨i - (off + (j0 + 1)), by omega⟩
      have e1 : off + (j0 + 1) + q - (off + (j0 + 1)) = q := by omega
      have e2 : off + (j0 + 1) + q - (off + j0) = q + 1 := by omega
      rw [e1, e2, List.getElem?_cons_succ]
    · rw [if_neg h1]
      by_cases h2 : off + j0 = i
      · subst h2
        by_cases h3 : off + j0 < a.size
        · rw [if_pos rfl, if_pos h3, if_pos (by omega)]
          simp
        · rw [if_pos rfl, if_neg h3, if_neg (by omega), Array.getElem?_eq_none (by omega)]
      · rw [if_neg h2, if_neg (by omega)]

/-- A list's cells from a place on are others. -/
def ovl {R : Type} (cs l : List Value) (k : List Value → Option R) : Option R :=
  Nat.rec (motive := fun _ => List Value → List Value → (List Value → Option R) → Option R) (fun _ _ _ => none) (fun _ ih cs l k => cs.casesOn (k l) fun c cs => l.casesOn none fun _ l => ih cs l fun l => k (c :: l)) fuel cs l k
def ovK {R : Type} (off : Nat) (cs l : List Value) (k : List Value → Option R) : Option R :=
  Nat.rec (motive := fun _ => List Value → (List Value → Option R) → Option R) (fun l k => ovl cs l k) (fun _ ih l k => l.casesOn none fun x l => ih l fun l => k (x :: l)) off l k
theorem ovl_le {R : Type} {cs l : List Value} {k : List Value → Option R} {r : R} (h : ovl cs l k = some r) : cs.length ≤ l.length ∧ k (cs ++ l.drop cs.length) = some r := by
  unfold ovl at h
  generalize fuel = n at h
  induction n generalizing cs l k with
  | zero => exact absurd h (by simp)
  | succ n ih =>
    cases cs with
    | nil => exact ⟨by simp, by simpa using h⟩
    | cons c cs => cases l with
      | nil => exact absurd h (by simp)
      | cons x l =>
        obtain ⟨h1, h2⟩ := ih (k := fun l => k (c :: l)) h
        exact ⟨by simp; omega, by simpa using h2⟩
theorem ovK_le {R : Type} {off : Nat} {cs l : List Value} {k : List Value → Option R} {r : R} (h : ovK off cs l k = some r) : off + cs.length ≤ l.length ∧ k (l.take off ++ cs ++ l.drop (off + cs.length)) = some r := by
  unfold ovK at h
  induction off generalizing l k with
  | zero => have := ovl_le h; exact ⟨by omega, by simpa using this.2⟩
  | succ off ih => cases l with
    | nil => exact absurd h (by simp)
    | cons x l =>
      obtain ⟨h1, h2⟩ := ih (k := fun l => k (x :: l)) h
      refine ⟨by simp; omega, ?_⟩
      have e : off + 1 + cs.length = off + cs.length + 1 := by omega
      rw [e]
      simpa using h2
def celK {R : Type} (x : Value) (k : List Value → Option R) : Option R := match x with
  | .agg ⟨c⟩ => k c
  | .tuple _ => none
  | x => k [x]
def filK {R : Type} (place : Nat → Option (Nat × Nat)) (parts : List (Nat × Value)) (l : List Value) (k : List Value → Option R) : Option R := match parts with
  | [] => k l
  | (i, x) :: rest => (place i).casesOn none fun p => p.casesOn fun off size => celK x fun cs => (Nat.beq cs.length size).casesOn none (ovK off cs l fun l => filK place rest l k)

theorem celK_le {R : Type} {x : Value} {k : List Value → Option R} {r : R} (h : celK x k = some r) : isTup x = false ∧ k x.cells.toList = some r := by
  cases x with
  | agg c => obtain ⟨c⟩ := c; exact ⟨rfl, h⟩
  | tuple c => simp [celK] at h
  | _ => exact ⟨rfl, h⟩
theorem filK_le {R : Type} {place : Nat → Option (Nat × Nat)} : ∀ {parts : List (Nat × Value)} {l : List Value} {k : List Value → Option R} {r : R}, filK place parts l k = some r →
    (parts.all fun p => !isTup p.2) = true ∧ ∃ l', Instr.fill place ⟨l⟩ parts = some ⟨l'⟩ ∧ k l' = some r := by
  intro parts
  induction parts with
  | nil => intro l k r h; exact ⟨rfl, l, rfl, h⟩
  | cons p rest ih =>
    intro l k r h
    obtain ⟨i, x⟩ := p
    simp only [filK] at h
    cases hp : place i with
    | none => rw [hp] at h; simp at h
    | some q =>
      obtain ⟨off, size⟩ := q
      rw [hp] at h
      simp only at h
      obtain ⟨ht, h⟩ := celK_le h
      cases hs : Nat.beq x.cells.toList.length size with
      | false => rw [hs] at h; simp at h
      | true =>
        rw [hs] at h
        simp only at h
        have hsz : x.cells.size = size := by have := Nat.eq_of_beq_eq_true hs; simpa using this
        obtain ⟨hle, h⟩ := ovK_le h
        obtain ⟨h1, l', h2, h3⟩ := ih h
        refine ⟨by simp [ht, h1], l', ?_, h3⟩
        simp only [Instr.fill, hp]
        have hle' : off + x.cells.size ≤ l.length := by simpa using hle
        rw [if_neg (by simp [hsz]; omega)]
        have e : x.cells.zipIdx.foldl (fun cs p => cs.setIfInBounds (off + p.2) p.1) (⟨l⟩ : Array Value) = ⟨l.take off ++ x.cells.toList ++ l.drop (off + x.cells.toList.length)⟩ := by
          have e1 : x.cells.zipIdx.foldl (fun cs p => cs.setIfInBounds (off + p.2) p.1) (⟨l⟩ : Array Value) = (x.cells.toList.zipIdx 0).foldl (fun cs p => cs.setIfInBounds (off + p.2) p.1) (⟨l⟩ : Array Value) := by
            rw [← Array.foldl_toList]
            simp
          rw [e1]
          apply Array.ext_getElem?
          intro j
          rw [over]
          simp only [Nat.add_zero, Array.length_toList, List.size_toArray]
          by_cases c1 : off ≤ j ∧ j < off + x.cells.size ∧ j < l.length
          · rw [if_pos c1]
            simp only [List.getElem?_toArray]
            rw [List.getElem?_append_left (by simp; omega), List.getElem?_append_right (by simp; omega)]
            simp [Nat.min_eq_left (show off ≤ l.length by omega)]
          · rw [if_neg c1]
            simp only [List.getElem?_toArray]
            by_cases c2 : j < off
            · rw [List.getElem?_append_left (by simp; omega), List.getElem?_append_left (by simp; omega), List.getElem?_take_of_lt c2]
            · by_cases c3 : j < l.length
              · rw [List.getElem?_append_right (by simp; omega), List.getElem?_drop]
                have : off + x.cells.size + (j - (List.take off l ++ x.cells.toList).length) = j := by
                  simp [Nat.min_eq_left (show off ≤ l.length by omega)]
                  omega
                rw [this]
              · rw [List.getElem?_eq_none (by omega), List.getElem?_eq_none (by simp; omega)]
        have e2 : (fun (cs : Array Value) (x : Value × Nat) => match x with | (c, j) => cs.setIfInBounds (off + j) c) = fun cs p => cs.setIfInBounds (off + p.2) p.1 := rfl
        rw [e2, e]
        exact h2
end Go.Vm
