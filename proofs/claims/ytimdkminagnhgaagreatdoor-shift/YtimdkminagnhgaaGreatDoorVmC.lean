/-
  How the plain semantics lies to the model: blocks have other numbers, a slice's capacity may be greater. Own work.
-/
import Derived.Test.YtimdkminagnhgaaGreatDoorVmB
import Derived.Below
namespace Go.Vm
open Go.RowKit

/-- Where a block lies: the model's block, the first cell, and how many cells that block has. -/
structure Place where
  blk : Nat
  off : Nat
  size : Nat

def SR (β : List Place) (v v' : Value) : Prop :=
  match v with
  | .bool b => v' = .bool b
  | .int k n => v' = .int k n
  | .string s => v' = .string s
  | .pointer none => v' = .pointer none
  | .pointer (some a) => ∃ p, β[a.block]? = some p ∧ v' = .pointer (some ⟨p.blk, p.off + a.off, none⟩)
  | .slice none l c => l = 0 ∧ c = 0 ∧ v' = .slice none 0 0
  | .slice (some a) len cap => ∃ p c z, β[a.block]? = some p ∧ a.spot = some z ∧ v' = .slice (some ⟨p.blk, p.off + a.off, none⟩) len c ∧ len ≤ c ∧ p.off + a.off + c * z ≤ p.size ∧ (cap ≠ 0 → c + 1 = cap)
  | _ => False

/-- Lists, one by one. -/
def LR (R : Value → Value → Prop) (xs ys : List Value) : Prop := ys.length = xs.length ∧ ∀ (i : Nat) x, xs[i]? = some x → ∃ y, ys[i]? = some y ∧ R x y

def CR (β : List Place) (v v' : Value) : Prop :=
  match v with
  | .agg cs => ∃ cs', v' = .agg cs' ∧ LR (SR β) cs.toList cs'.toList
  | v => SR β v v'

def VR (β : List Place) (v v' : Value) : Prop :=
  match v with
  | .tuple vs => ∃ vs', v' = .tuple vs' ∧ LR (CR β) vs.toList vs'.toList
  | v => CR β v v'

theorem LR.nil (R : Value → Value → Prop) : LR R [] [] := ⟨rfl, fun i x h => by simp at h⟩
theorem LR.cons {R : Value → Value → Prop} {x y : Value} {xs ys : List Value} (h : R x y) (hs : LR R xs ys) : LR R (x :: xs) (y :: ys) := by
  refine ⟨by simp [hs.1], fun i z hz => ?_⟩
  cases i with
  | zero => simp at hz; subst hz; exact ⟨y, rfl, h⟩
  | succ i => exact hs.2 i z (by simpa using hz)
theorem LR.cons_inv {R : Value → Value → Prop} {x : Value} {xs ys : List Value} (h : LR R (x :: xs) ys) : ∃ y r, ys = y :: r ∧ R x y ∧ LR R xs r := by
  obtain ⟨h1, h2⟩ := h
  cases ys with
  | nil => simp at h1
  | cons y r =>
    obtain ⟨y', hy, hr⟩ := h2 0 x rfl
    simp at hy; subst hy
    exact ⟨_, r, rfl, hr, by simpa using h1, fun i z hz => by simpa using h2 (i + 1) z (by simpa using hz)⟩
theorem LR.nil_inv {R : Value → Value → Prop} {ys : List Value} (h : LR R [] ys) : ys = [] := by
  have := h.1; simpa using this
theorem LR.mono {R S : Value → Value → Prop} {xs ys : List Value} (h : LR R xs ys) (hr : ∀ x y, R x y → S x y) : LR S xs ys :=
  ⟨h.1, fun i x hx => let ⟨y, hy, r⟩ := h.2 i x hx; ⟨y, hy, hr _ _ r⟩⟩
theorem LR.append {R : Value → Value → Prop} {xs ys as bs : List Value} (h : LR R xs ys) (k : LR R as bs) : LR R (xs ++ as) (ys ++ bs) := by
  induction xs generalizing ys with
  | nil => rw [LR.nil_inv h]; exact k
  | cons x xs ih =>
    obtain ⟨y, r, rfl, hr, hs⟩ := LR.cons_inv h
    exact LR.cons hr (ih hs)
theorem LR.set {R : Value → Value → Prop} {xs ys : List Value} (h : LR R xs ys) {x y : Value} (hr : R x y) (n : Nat) : LR R (xs.set n x) (ys.set n y) := by
  refine ⟨by simp [h.1], fun i z hz => ?_⟩
  rw [List.getElem?_set] at hz ⊢
  split
  · rename_i e
    rw [if_pos e] at hz
    split at hz
    · rename_i hl
      simp at hz; subst hz
      exact ⟨y, by rw [if_pos (by rw [h.1]; exact hl)], hr⟩
    · simp at hz
  · rename_i e
    rw [if_neg e] at hz
    exact h.2 i z hz

theorem SR.mono {β β' : List Place} (hp : β <+: β') {v v' : Value} (h : SR β v v') : SR β' v v' := by
  have key : ∀ (b : Nat) p, β[b]? = some p → β'[b]? = some p := fun b p hb => by
    obtain ⟨r, rfl⟩ := hp
    rw [List.getElem?_append_left (List.getElem?_eq_some_iff.1 hb).1]; exact hb
  cases v with
  | pointer a => cases a with
    | none => exact h
    | some a => obtain ⟨p, hp, r⟩ := h; exact ⟨p, key _ _ hp, r⟩
  | slice a l c => cases a with
    | none => exact h
    | some a => obtain ⟨p, c', z, hp, r⟩ := h; exact ⟨p, c', z, key _ _ hp, r⟩
  | _ => exact h
theorem CR_or (v : Value) : (∃ cs, v = .agg cs) ∨ ∀ β v', CR β v v' = SR β v v' := by
  cases v <;> first | exact .inr fun _ _ => rfl | exact .inl ⟨_, rfl⟩
theorem VR_or (v : Value) : (∃ cs, v = .tuple cs) ∨ ∀ β v', VR β v v' = CR β v v' := by
  cases v <;> first | exact .inr fun _ _ => rfl | exact .inl ⟨_, rfl⟩
theorem CR.mono {β β' : List Place} (hp : β <+: β') {v v' : Value} (h : CR β v v') : CR β' v v' := by
  rcases CR_or v with ⟨cs, rfl⟩ | e
  · obtain ⟨cs', e, r⟩ := h; exact ⟨cs', e, r.mono fun _ _ => SR.mono hp⟩
  · rw [e] at h ⊢; exact SR.mono hp h
theorem VR.mono {β β' : List Place} (hp : β <+: β') {v v' : Value} (h : VR β v v') : VR β' v v' := by
  rcases VR_or v with ⟨vs, rfl⟩ | e
  · obtain ⟨vs', e, r⟩ := h; exact ⟨vs', e, r.mono fun _ _ => CR.mono hp⟩
  · rw [e] at h ⊢; exact CR.mono hp h

/-- A value that is one cell. -/
theorem SR.flat {β : List Place} {v v' : Value} (h : SR β v v') : isFlat v = true ∧ isFlat v' = true := by
  cases v with
  | pointer a => cases a with
    | none => cases h; exact ⟨rfl, rfl⟩
    | some a => obtain ⟨p, _, rfl⟩ := h; exact ⟨rfl, rfl⟩
  | slice a l c => cases a with
    | none => obtain ⟨_, _, rfl⟩ := h; exact ⟨rfl, rfl⟩
    | some a => obtain ⟨p, c', z, _, _, rfl, _⟩ := h; exact ⟨rfl, rfl⟩
  | bool b => cases h; exact ⟨rfl, rfl⟩
  | int k n => cases h; exact ⟨rfl, rfl⟩
  | string s => cases h; exact ⟨rfl, rfl⟩
  | _ => exact h.elim

theorem SR.toCR {β : List Place} {v v' : Value} (h : SR β v v') : CR β v v' := by
  rcases CR_or v with ⟨cs, rfl⟩ | e
  · exact (h : False).elim
  · rw [e]; exact h
theorem CR.toVR {β : List Place} {v v' : Value} (h : CR β v v') : VR β v v' := by
  rcases VR_or v with ⟨cs, rfl⟩ | e
  · exact (h : False).elim
  · rw [e]; exact h
theorem SR.toVR {β : List Place} {v v' : Value} (h : SR β v v') : VR β v v' := h.toCR.toVR
theorem VR.undef (β : List Place) : VR β undef undef := ⟨#[], rfl, LR.nil _⟩

/-- The cells of a value. -/
theorem cells_flat {v : Value} (h : isFlat v = true) : v.cells = #[v] := by
  cases v <;> first | rfl | (simp [isFlat] at h)
theorem CR.cells {β : List Place} {v v' : Value} (h : CR β v v') : LR (SR β) v.cells.toList v'.cells.toList := by
  rcases CR_or v with ⟨cs, rfl⟩ | e
  · obtain ⟨cs', rfl, r⟩ := h; exact r
  · rw [e] at h
    rw [cells_flat h.flat.1, cells_flat h.flat.2]
    exact LR.cons h (LR.nil _)

/-- The world that was there, and blocks that nobody knows. -/
structure Prot where
  w : World
  s : Nat → Option Obj

section
variable {P : Program} {H : Type} {O : HI H} {G ro : Nat} {w0 : Prot}

structure Rel (O : HI H) (G ro : Nat) (w0 : Prot) (β : List Place) (h : H) (w : World) : Prop where
  len : β.length = O.next h
  below : Below w0.w.heap.size w0.w w
  glob : ∀ g, g < G → ∃ p, β[g]? = some p ∧ p.blk = g ∧ p.off = 0
  own : ∀ (b : Nat) p, β[b]? = some p → ro ≤ b → w0.w.heap.size ≤ p.blk
  cells : ∀ (b : Nat) p, β[b]? = some p → ∃ c e fz, w.heap[p.blk]? = some (.cells c e fz) ∧ c.size = p.size ∧ (ro ≤ b → fz = (0, 0)) ∧
    ∀ o v, O.cell h b o = some v → ∃ v', c[p.off + o]? = some v' ∧ SR β v v'
  inj : ∀ (b b' : Nat) p p', β[b]? = some p → β[b']? = some p' → O.alive h b = true → O.alive h b' = true → ro ≤ b → p.blk = p'.blk → b = b'
  ro_le : ro ≤ O.next h
  ext : ∀ k o, w0.s k = some o → w.heap[k]? = some o ∧ ∀ (b : Nat) p, β[b]? = some p → O.alive h b = true → p.blk ≠ k

theorem Rel.drew {β : List Place} {h : H} {w : World} (r : Rel O G ro w0 β h w) : Rel O G ro w0 β h { w with drawn := w.drawn + 1 } :=
  ⟨r.len, ⟨r.below.os, r.below.tape, r.below.output, r.below.size, r.below.block⟩, r.glob, r.own, r.cells, r.inj, r.ro_le, r.ext⟩

/-- The temporaries. -/
def TR (β : List Place) (t t' : Array Value) : Prop := t'.size = t.size ∧ ∀ i, VR β (t.getD i undef) (t'.getD i undef)

theorem TR.mono {β β' : List Place} (hp : β <+: β') {t t' : Array Value} (h : TR β t t') : TR β' t t' := ⟨h.1, fun i => (h.2 i).mono hp⟩

theorem TR.put {β : List Place} {t t' : Array Value} (h : TR β t t') {v v' : Value} (hv : VR β v v') (d : Option Tmp) : TR β (putT t d v) (putT t' d v') := by
  cases d with
  | none => exact h
  | some d =>
    refine ⟨by simp [putT, h.1], fun i => ?_⟩
    simp only [putT, Array.getD_eq_getD_getElem?, Array.getElem?_setIfInBounds]
    by_cases e : d = i
    · rw [if_pos e, if_pos e, h.1]
      split
      · simpa using hv
      · simpa using VR.undef β
    · rw [if_neg e, if_neg e]
      simpa [Array.getD_eq_getD_getElem?] using h.2 i

theorem evalT_rel {β : List Place} {h : H} {w : World} (r : Rel O G ro w0 β h w) {t : Array Value} {a : Act} (ht : TR β t a.tmps) {x : Operand} (hx : operOk G x = true) : VR β (evalT t x) (a.eval x) := by
  cases x with
  | tmp i => exact ht.2 i
  | global g =>
    simp only [operOk, decide_eq_true_eq] at hx
    obtain ⟨p, hp, hb, ho⟩ := r.glob g hx
    have hs : SR β (.pointer (some ⟨g, 0, none⟩)) (.pointer (some ⟨g, 0, none⟩)) := ⟨p, hp, by simp [hb, ho]⟩
    exact hs.toVR
  | func f => simp [operOk] at hx
  | const v =>
    cases v with
    | bool b => exact (rfl : Value.bool b = _)
    | int k n => exact (rfl : Value.int k n = _)
    | string s => exact (rfl : Value.string s = _)
    | pointer a => cases a with
      | none => exact (rfl : Value.pointer none = _)
      | some a => simp [operOk] at hx
    | slice a l c => cases a with
      | none =>
        cases l with
        | succ l => simp [operOk] at hx
        | zero => cases c with
          | succ c => simp [operOk] at hx
          | zero => exact (⟨rfl, rfl, rfl⟩ : SR β (.slice none 0 0) (.slice none 0 0))
      | some a => simp [operOk] at hx
    | _ => simp [operOk] at hx

theorem yielded_rel {β : List Place} {t t' : Array Value} (ht : TR β t t') (ops : Array Oper) (j : Nat) : yielded ops t' j = yielded ops t j := by
  simp only [yielded]
  cases hd : (ops[j]?).bind (·.dst) with
  | none => rfl
  | some d =>
    simp only [Option.bind_some]
    have h := ht.2 d
    simp only [Array.getD_eq_getD_getElem?] at h
    by_cases hl : d < t.size
    · have e1 : t[d]? = some t[d] := Array.getElem?_eq_getElem hl
      have e2 : t'[d]? = some (t'[d]'(by rw [ht.1]; exact hl)) := Array.getElem?_eq_getElem _
      rw [e1, e2] at h ⊢
      simp only [Option.getD_some] at h
      generalize t[d] = v at h
      generalize t'[d]'_ = v' at h
      cases v with
      | bool b => cases (h : SR β (.bool b) v'); rfl
      | tuple vs => obtain ⟨vs', rfl, _⟩ := h; rfl
      | agg vs => obtain ⟨vs', rfl, _⟩ := (h : CR β (.agg vs) v'); rfl
      | int k n => cases (h : SR β (.int k n) v'); rfl
      | string k => cases (h : SR β (.string k) v'); rfl
      | pointer a => cases a with
        | none => cases (h : SR β (.pointer none) v'); rfl
        | some a => obtain ⟨p, _, rfl⟩ := (h : SR β (.pointer (some a)) v'); rfl
      | slice a l c => cases a with
        | none => obtain ⟨_, _, rfl⟩ := (h : SR β (.slice none l c) v'); rfl
        | some a => obtain ⟨p, _, _, _, _, rfl, _⟩ := (h : SR β (.slice (some a) l c) v'); rfl
      | _ => exact (h : False).elim
    · have e1 : t[d]? = none := Array.getElem?_eq_none (Nat.le_of_not_lt hl)
      have e2 : t'[d]? = none := Array.getElem?_eq_none (by rw [ht.1]; exact Nat.le_of_not_lt hl)
      rw [e1, e2]

theorem wanted_rel {β : List Place} {t t' : Array Value} (ht : TR β t t') (ops : Array Oper) (o : Oper) : Region.wanted o (yielded ops t') = Region.wanted o (yielded ops t) := by
  have : yielded ops t' = yielded ops t := funext fun j => yielded_rel ht ops j
  rw [this]

end
end Go.Vm
