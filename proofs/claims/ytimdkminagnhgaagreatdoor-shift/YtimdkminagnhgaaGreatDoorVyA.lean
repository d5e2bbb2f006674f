/-
  Code for the kernel, second make: operands are values, what follows is a function. Own work.
-/
import Derived.Test.YtimdkminagnhgaaGreatDoorVyE
namespace Go.Vm
set_option linter.unusedSimpArgs false
set_option linter.unusedVariables false

/- An operation whose operands are known. -/
def mapOp (f : Operand → Operand) : Op → Option Op
  | .pick c a b => some (.pick (f c) (f a) (f b))
  | .binOp o t x y w => some (.binOp o t (f x) (f y) w)
  | .unOp o t x => some (.unOp o t (f x))
  | .convert s d x => some (.convert s d (f x))
  | .build t parts => some (.build t (parts.toList.map fun p => (p.1, f p.2)).toArray)
  | .buildSlice t n parts => some (.buildSlice t n (parts.toList.map fun p => (p.1, f p.2)).toArray)
  | .makeSlice t l c => some (.makeSlice t (f l) (f c))
  | .slice t x lo hi mx => some (.slice t (f x) (lo.map f) (hi.map f) (mx.map f))
  | .field t x i => some (.field t (f x) i)
  | .alloc e => some (.alloc e)
  | .box e x => some (.box e (f x))
  | .index t x i => some (.index t (f x) (f i))
  | .indexAddr t x i => some (.indexAddr t (f x) (f i))
  | .fieldAddr t x i => some (.fieldAddr t (f x) i)
  | .load t a => some (.load t (f a))
  | .store t a x => some (.store t (f a) (f x))
  | .call ⟨.builtin b, args, tys⟩ => some (.call ⟨.builtin b, (args.toList.map f).toArray, tys⟩)
  | _ => none

section
variable {P : Program} {H : Type} {O : HI H} {ro : Nat}

/-- What looks at operands' values alone. -/
theorem opA_map {call : CallT H} {ρ e : Operand → Value} (he : ∀ v, e (.const v) = v) {op op' : Op} {h : H} (hm : mapOp (fun x => .const (ρ x)) op = some op') : opA P O ro call e op' h = opA P O ro call ρ op h := by
  have hp : ∀ (l : List (Nat × Operand)), (l.map fun p => (p.1, Operand.const (ρ p.2))).map (fun p => (p.1, e p.2)) = l.map fun p => (p.1, ρ p.2) := by
    intro l; simp [he, Function.comp_def]
  have hq : ∀ (l : List Operand), (l.map fun x => Operand.const (ρ x)).map e = l.map ρ := by
    intro l; simp [he, Function.comp_def]
  have ho : ∀ (x : Option Operand), (x.map fun x => Operand.const (ρ x)).map e = x.map ρ := by
    intro x; cases x <;> simp [he]
  have hal : ∀ (l : List (Nat × Operand)), ((l.map fun p => (p.1, Operand.const (ρ p.2))).all fun p => !isTup (e p.2)) = l.all fun p => !isTup (ρ p.2) := by
    intro l
    induction l with
    | nil => rfl
    | cons p l ih => simp only [List.map_cons, List.all_cons, he, ih]
  cases op <;> simp only [mapOp, Option.some.injEq, reduceCtorEq] at hm <;> (try subst hm)
  case call cl =>
    obtain ⟨cal, args, tys⟩ := cl
    cases cal with
    | builtin b =>
      simp only [mapOp, Option.some.injEq] at hm
      subst hm
      have h1 : ((args.toList.map fun x => Operand.const (ρ x)).toArray).toList.map e = args.toList.map ρ := by simp [he, Function.comp_def]
      have h2 : ∀ (t : TypeId) (tl : List TypeId) (k : Value → Option Value), (match (args.toList.map fun x => Operand.const (ρ x)) with | x :: _ => k (e x) | [] => none) = (match args.toList with | x :: _ => k (ρ x) | [] => none) := by
        intro t tl k; cases args.toList <;> simp [he]
      cases b <;> (try rfl)
      case len =>
        simp only [opA, cls, pureA]
        cases tys.toList with
        | nil => rfl
        | cons t tl =>
          cases ha : args.toList with
          | nil => rfl
          | cons x xs => simp only [List.map_cons, he]
      case cap =>
        simp only [opA, cls, pureA]
        cases tys.toList with
        | nil => rfl
        | cons t tl =>
          cases ha : args.toList with
          | nil => rfl
          | cons x xs => simp only [List.map_cons, he]
      case append => simp only [opA, cls, effA, h1]
      case copy => simp only [opA, cls, effA, h1]
    | _ => simp [mapOp] at hm
  all_goals simp only [opA, cls, pureA, readA, effA, he, ho]
  case build t parts =>
    obtain ⟨l⟩ := parts
    have e1 : Array.map (fun x : Nat × Operand => (x.1, e x.2)) (l.map fun p => (p.1, Operand.const (ρ p.2))).toArray = Array.map (fun x : Nat × Operand => (x.1, ρ x.2)) ⟨l⟩ := by simp [he, Function.comp_def]
    rw [e1, hal l]
  case buildSlice t n parts =>
    obtain ⟨l⟩ := parts
    have e1 : Array.map (fun x : Nat × Operand => (x.1, e x.2)) (l.map fun p => (p.1, Operand.const (ρ p.2))).toArray = Array.map (fun x : Nat × Operand => (x.1, ρ x.2)) ⟨l⟩ := by simp [he, Function.comp_def]
    rw [e1, hal l]
end
end Go.Vm
