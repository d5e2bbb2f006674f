/-
  Code for the kernel: operations on plain values, the temporaries a tree; what it comes to, the plain functions come to. Own work.
-/
import Derived.Test.YtimdkminagnhgabGreatDoorVxA
namespace Go.Vm
set_option linter.unusedSimpArgs false
set_option linter.unusedVariables false

abbrev RS (d : Nat) := Option (Exit × (Tr Value d × HpT))
abbrev ActS (d : Nat) := CallT HpT → Tr Value d → HpT → Option (Value × HpT)
abbrev StpS (d : Nat) := CallT HpT → Tr Value d → HpT → (Tr Value d → HpT → RS d) → RS d
abbrev CodeS (d : Nat) := CallT HpT → Nat → Tr Value d → HpT → RS d
abbrev SetS (d : Nat) := Tr Value d → Value → (Tr Value d → RS d) → RS d

def look (d : Nat) (t : Tr Value d) (i : Nat) : Value := bif Nat.blt i (Nat.pow 8 d) then tget d t i else undef
def setS (d i : Nat) : SetS d := fun t v k => tput d t i v k
/-- Temporaries by number: ways to read and to lay them that are as good. -/
structure Acc (d : Nat) where
  get : Nat → Tr Value d → Value
  put : Nat → SetS d
  get_eq : ∀ i, get i = fun t => tget d t i
  put_eq : ∀ i, put i = setS d i
def kc {d : Nat} (v : Value) : Tr Value d → Value := fun _ => v
def opS {d : Nat} (A : Acc d) (x : Operand) : Tr Value d → Value :=
  match x with
  | .tmp i => A.get i
  | .const v => kc v
  | .global g => kc (.pointer (some ⟨g, 0, none⟩))
  | .func f => kc (.func (.func f) #[] #[])
/- Trees of ways. -/
def na {α : Type} (m : Nat) (x y : Nat → α) : Nat → α := fun f => bif Nat.ble f m then x f else y f
def la {α : Type} (n : Nat) (F : α) (q : Nat → α) : Nat → α := fun f => bif Nat.beq f n then F else q f
theorem na_eq {α : Type} {m : Nat} {x y q : Nat → α} (hx : ∀ i, x i = q i) (hy : ∀ i, y i = q i) : ∀ i, na m x y i = q i := by
  intro i
  unfold na
  cases Nat.ble i m
  · exact hy i
  · exact hx i
theorem la_eq {α : Type} {n : Nat} {F : α} {q : Nat → α} (h : F = q n) : ∀ i, la n F q i = q i := by
  intro i
  unfold la
  cases hb : Nat.beq i n
  · rfl
  · have : i = n := Nat.eq_of_beq_eq_true hb
    subst this
    exact h

/- Integers. -/
def iadd (a b : Int) : Int := match a with
  | .ofNat m => (match b with | .ofNat n => .ofNat (Nat.add m n) | .negSucc n => bif Nat.ble (Nat.succ n) m then .ofNat (Nat.sub m (Nat.succ n)) else .negSucc (Nat.sub n m))
  | a => a + b
theorem iadd_eq (a b : Int) : iadd a b = a + b := by
  cases a with
  | ofNat m =>
    cases b with
    | ofNat n => rfl
    | negSucc n =>
      simp only [iadd]
      by_cases h : n + 1 ≤ m
      · have e : Nat.ble (Nat.succ n) m = true := Nat.ble_eq_true_of_le h
        simp only [e, cond_true, Int.ofNat_eq_natCast]
        show ((m - (n + 1) : Nat) : Int) = _
        omega
      · have e : Nat.ble (Nat.succ n) m = false := by rw [Bool.eq_false_iff]; exact fun x => h (Nat.le_of_ble_eq_true x)
        simp only [e, cond_false, Int.ofNat_eq_natCast]
        show Int.negSucc (n - m) = _
        omega
  | negSucc m => rfl
def isub (a b : Int) : Int := match a with
  | .ofNat m => (match b with | .ofNat n => (bif Nat.ble n m then .ofNat (Nat.sub m n) else .negSucc (Nat.sub (Nat.sub n m) 1)) | b => Int.ofNat m - b)
  | a => a - b
theorem isub_eq (a b : Int) : isub a b = a - b := by
  cases a with
  | ofNat m =>
    cases b with
    | ofNat n =>
      simp only [isub]
      by_cases h : n ≤ m
      · have e : Nat.ble n m = true := Nat.ble_eq_true_of_le h
        simp only [e, cond_true, Int.ofNat_eq_natCast]
        show ((m - n : Nat) : Int) = _
        omega
      · have e : Nat.ble n m = false := by rw [Bool.eq_false_iff]; exact fun x => h (Nat.le_of_ble_eq_true x)
        simp only [e, cond_false, Int.ofNat_eq_natCast]
        show Int.negSucc (n - m - 1) = _
        omega
    | negSucc n => rfl
  | negSucc m => rfl
def k63 : Nat := 9223372036854775807
theorem k63_eq : k63 = 9223372036854775807 := rfl
def w64 (n : Int) : Int := match n with
  | .ofNat m => bif Nat.ble m k63 then .ofNat m else IntKind.wrap .i64 (.ofNat m)
  | .negSucc m => bif Nat.ble m k63 then .negSucc m else IntKind.wrap .i64 (.negSucc m)
theorem wrap_fit {x : Int} (h1 : -9223372036854775808 ≤ x) (h2 : x ≤ 9223372036854775807) : IntKind.i64.wrap x = x := by
  rw [IntKind.wrap_i64]; omega
theorem w64_a1 (m : Nat) (h : m ≤ k63) : IntKind.i64.wrap (Int.ofNat m) = Int.ofNat m := by
  rw [k63_eq] at h
  exact wrap_fit (x := (m : Int)) (by omega) (by omega)
theorem w64_a2 (m : Nat) (h : m ≤ k63) : IntKind.i64.wrap (Int.negSucc m) = Int.negSucc m := by
  rw [k63_eq] at h
  rw [Int.negSucc_eq]
  exact wrap_fit (x := -((m : Int) + 1)) (by omega) (by omega)
theorem w64_a3 (m : Nat) : w64 (Int.ofNat m) = bif Nat.ble m k63 then .ofNat m else IntKind.wrap .i64 (.ofNat m) := rfl
theorem w64_a4 (m : Nat) : w64 (Int.negSucc m) = bif Nat.ble m k63 then .negSucc m else IntKind.wrap .i64 (.negSucc m) := rfl
theorem w64_a5 (b : Bool) (x y z : Int) (h : b = true → z = x) (h2 : y = z) : (bif b then x else y) = z := by cases b; exact h2; exact (h rfl).symm
theorem w64_eq (n : Int) : w64 n = IntKind.i64.wrap n := by
  cases n with
  | ofNat m => rw [w64_a3]; exact w64_a5 _ _ _ _ (fun h => w64_a1 m (Nat.le_of_ble_eq_true h)) rfl
  | negSucc m => rw [w64_a4]; exact w64_a5 _ _ _ _ (fun h => w64_a2 m (Nat.le_of_ble_eq_true h)) rfl
def ilt (a b : Int) : Bool := match a with
  | .ofNat m => (match b with | .ofNat n => Nat.blt m n | .negSucc _ => false)
  | .negSucc m => (match b with | .ofNat _ => true | .negSucc n => Nat.blt n m)
theorem blt_eq (a b : Nat) : Nat.blt a b = decide (a < b) := by
  rw [Bool.eq_iff_iff]; simp [Nat.blt_eq]
theorem ilt_eq (a b : Int) : ilt a b = decide (a < b) := by
  cases a <;> cases b <;> simp only [ilt, blt_eq, Int.ofNat_eq_natCast] <;> (first | (symm; rw [decide_eq_false_iff_not]; omega) | (symm; rw [decide_eq_true_iff]; omega) | (apply decide_eq_decide.2; omega))
def ieq (a b : Int) : Bool := match a with
  | .ofNat m => (match b with | .ofNat n => Nat.beq m n | .negSucc _ => false)
  | .negSucc m => (match b with | .ofNat _ => false | .negSucc n => Nat.beq m n)
theorem beq_eq (a b : Nat) : Nat.beq a b = decide (a = b) := by
  rw [Bool.eq_iff_iff]; simp
theorem ieq_eq (a b : Int) : ieq a b = decide (a = b) := by
  cases a <;> cases b <;> simp only [ieq, beq_eq, Int.ofNat_eq_natCast] <;> (first | (symm; rw [decide_eq_false_iff_not]; omega) | (apply decide_eq_decide.2; omega))

/- What a value is, with little said of what it is not. -/
section
variable {R : Type}
def cI (x : Value) (fb : R) (f : Int → R) : R := x.casesOn (fun _ => fb) (fun k n => k.casesOn fb fb fb (f n) fb fb fb fb) (fun _ _ => fb) (fun _ _ _ => fb) (fun _ => fb) (fun _ => fb) (fun _ _ _ => fb) (fun _ => fb) (fun _ => fb) (fun _ _ _ => fb) fb (fun _ _ => fb) fb (fun _ => fb) (fun _ => fb)
def cN (x : Value) (fb : R) (f : Int → R) : R := x.casesOn (fun _ => fb) (fun _ n => f n) (fun _ _ => fb) (fun _ _ _ => fb) (fun _ => fb) (fun _ => fb) (fun _ _ _ => fb) (fun _ => fb) (fun _ => fb) (fun _ _ _ => fb) fb (fun _ _ => fb) fb (fun _ => fb) (fun _ => fb)
def cB (x : Value) (fb : R) (f : Bool → R) : R := x.casesOn (fun b => f b) (fun _ _ => fb) (fun _ _ => fb) (fun _ _ _ => fb) (fun _ => fb) (fun _ => fb) (fun _ _ _ => fb) (fun _ => fb) (fun _ => fb) (fun _ _ _ => fb) fb (fun _ _ => fb) fb (fun _ => fb) (fun _ => fb)
def cP (x : Value) (fb : R) (f : Nat → Nat → Option Nat → R) : R := x.casesOn (fun _ => fb) (fun _ _ => fb) (fun _ _ => fb) (fun _ _ _ => fb) (fun _ => fb) (fun a => a.casesOn fb fun a => a.casesOn fun b o s => f b o s) (fun _ _ _ => fb) (fun _ => fb) (fun _ => fb) (fun _ _ _ => fb) fb (fun _ _ => fb) fb (fun _ => fb) (fun _ => fb)
def cS (x : Value) (fb : R) (f : Nat → Nat → Option Nat → Nat → Nat → R) : R := x.casesOn (fun _ => fb) (fun _ _ => fb) (fun _ _ => fb) (fun _ _ _ => fb) (fun _ => fb) (fun _ => fb) (fun a l c => a.casesOn fb fun a => a.casesOn fun b o s => f b o s l c) (fun _ => fb) (fun _ => fb) (fun _ _ _ => fb) fb (fun _ _ => fb) fb (fun _ => fb) (fun _ => fb)
def cZ (x : Value) (fb : R) (f : Nat → R) : R := x.casesOn (fun _ => fb) (fun _ _ => fb) (fun _ _ => fb) (fun _ _ _ => fb) (fun _ => fb) (fun _ => fb) (fun _ n _ => f n) (fun _ => fb) (fun _ => fb) (fun _ _ _ => fb) fb (fun _ _ => fb) fb (fun _ => fb) (fun _ => fb)
def cL (x : Value) (fb : R) (f : List UInt8 → R) : R := x.casesOn (fun _ => fb) (fun _ _ => fb) (fun _ _ => fb) (fun _ _ _ => fb) (fun s => s.casesOn fun a => a.casesOn fun l => f l) (fun _ => fb) (fun _ _ _ => fb) (fun _ => fb) (fun _ => fb) (fun _ _ _ => fb) fb (fun _ _ => fb) fb (fun _ => fb) (fun _ => fb)
end
/- Operations. -/
def rB (b : Bool) (h : HpT) : Option (Value × HpT) := match b with
  | true => some (.bool true, h)
  | false => some (.bool false, h)
theorem rB_eq (b : Bool) (h : HpT) : rB b h = some (.bool b, h) := by cases b <;> rfl
def rI (n : Int) (h : HpT) : Option (Value × HpT) := fInt n fun n => some (.int .i64 n, h)
theorem rI_eq (n : Int) (h : HpT) : rI n h = some (.int .i64 n, h) := fInt_eq _ _
def vInt (op : BinOp) (x y : Value) (h : HpT) : Option (Value × HpT) :=
  match x, y with
  | .int k a, .int k' b => match (if k = k' then intA op k a b else none) with
    | some v => fVal v fun v => some (v, h)
    | none => none
  | _, _ => none
def vAdd (x y : Value) (h : HpT) : Option (Value × HpT) := match x with
  | .int .i64 a => (match y with | .int .i64 b => rI (w64 (iadd a b)) h | _ => none)
  | x => vInt .add x y h
def vSub (x y : Value) (h : HpT) : Option (Value × HpT) := match x with
  | .int .i64 a => (match y with | .int .i64 b => rI (w64 (isub a b)) h | _ => none)
  | x => vInt .sub x y h
def vLss (x y : Value) (h : HpT) : Option (Value × HpT) := match x with
  | .int .i64 a => (match y with | .int .i64 b => rB (ilt a b) h | _ => none)
  | x => vInt .lss x y h
def vGtr (x y : Value) (h : HpT) : Option (Value × HpT) := match x with
  | .int .i64 a => (match y with | .int .i64 b => rB (ilt b a) h | _ => none)
  | x => vInt .gtr x y h
def vLeq (x y : Value) (h : HpT) : Option (Value × HpT) := match x with
  | .int .i64 a => (match y with | .int .i64 b => rB (!(ilt b a)) h | _ => none)
  | x => vInt .leq x y h
def vGeq (x y : Value) (h : HpT) : Option (Value × HpT) := match x with
  | .int .i64 a => (match y with | .int .i64 b => rB (!(ilt a b)) h | _ => none)
  | x => vInt .geq x y h
def vEql (x y : Value) (h : HpT) : Option (Value × HpT) := match x with
  | .int .i64 a => (match y with | .int .i64 b => rB (ieq a b) h | _ => none)
  | x => vInt .eql x y h
def vNeq (x y : Value) (h : HpT) : Option (Value × HpT) := match x with
  | .int .i64 a => (match y with | .int .i64 b => rB (!(ieq a b)) h | _ => none)
  | x => vInt .neq x y h
def vIntS (op : BinOp) : Value → Value → HpT → Option (Value × HpT) := match op with
  | .add => vAdd
  | .sub => vSub
  | .lss => vLss
  | .gtr => vGtr
  | .leq => vLeq
  | .geq => vGeq
  | .eql => vEql
  | .neq => vNeq
  | op => vInt op

/-- What 'aInt' does, of values. -/
def intV (op : BinOp) (x y : Value) (h : HpT) : Option (Value × HpT) := match x, y with
  | .int k a, .int k' b => (if k = k' then intA op k a b else none).map fun v => (v, h)
  | _, _ => none
theorem vInt_eq (op : BinOp) (x y : Value) (h : HpT) : vInt op x y h = intV op x y h := by
  unfold vInt intV
  split
  · rename_i k a k' b
    cases (if k = k' then intA op k a b else none) <;> simp [fVal_eq]
  · rfl
theorem vIntS_le {op : BinOp} {x y : Value} {h : HpT} {r : Value × HpT} (hv : vIntS op x y h = some r) : intV op x y h = some r := by
  have gen : ∀ (f : Value → Value → HpT → Option (Value × HpT)), (∀ a b, intV op (.int .i64 a) (.int .i64 b) h = f (.int .i64 a) (.int .i64 b) h) → (∀ x y, f x y h = match x with | .int .i64 a => (match y with | .int .i64 b => f (.int .i64 a) (.int .i64 b) h | _ => none) | x => vInt op x y h) → f x y h = some r → intV op x y h = some r := by
    intro f h1 h2 hf
    rw [h2] at hf
    split at hf
    · split at hf
      · rw [h1]; exact hf
      · simp at hf
    · rw [vInt_eq] at hf; exact hf
  cases op with
  | add => exact gen vAdd (fun a b => by simp [intV, vAdd, rI_eq, intA, w64_eq, iadd_eq]) (fun x y => by unfold vAdd; rfl) hv
  | sub => exact gen vSub (fun a b => by simp [intV, vSub, rI_eq, intA, w64_eq, isub_eq]) (fun x y => by unfold vSub; rfl) hv
  | lss => exact gen vLss (fun a b => by simp [intV, vLss, rB_eq, intA, ilt_eq]) (fun x y => by unfold vLss; rfl) hv
  | gtr => exact gen vGtr (fun a b => by simp [intV, vGtr, rB_eq, intA, ilt_eq]) (fun x y => by unfold vGtr; rfl) hv
  | leq => exact gen vLeq (fun a b => by simp [intV, vLeq, rB_eq, intA, ilt_eq, ← Int.not_lt]) (fun x y => by unfold vLeq; rfl) hv
  | geq => exact gen vGeq (fun a b => by simp [intV, vGeq, rB_eq, intA, ilt_eq, ← Int.not_lt]) (fun x y => by unfold vGeq; rfl) hv
  | eql => exact gen vEql (fun a b => by simp [intV, vEql, rB_eq, intA, ieq_eq]; rfl) (fun x y => by unfold vEql; rfl) hv
  | neq => exact gen vNeq (fun a b => by simp [intV, vNeq, rB_eq, intA, ieq_eq]; rfl) (fun x y => by unfold vNeq; rfl) hv
  | _ => exact (vInt_eq _ _ _ _) ▸ hv

def vNil (x : Value) (h : HpT) : Option (Value × HpT) := match x with
  | .pointer (some a) => some (.pointer (some a), h)
  | _ => none
def vFld (off : Nat) (x : Value) (h : HpT) : Option (Value × HpT) := match x with
  | .pointer (some ⟨b, o, _⟩) => fNat (Nat.add o off) fun o => some (.pointer (some ⟨b, o, none⟩), h)
  | _ => none
def vIdx (sz : Nat) (x ix : Value) (h : HpT) : Option (Value × HpT) := match x with
  | .slice (some ⟨b, o, _⟩) len _ => (match ix with
    | .int _ (.ofNat i) => bif Nat.blt i len then fNat (Nat.add o (Nat.mul i sz)) fun o => some (.pointer (some ⟨b, o, none⟩), h) else none
    | _ => none)
  | _ => none
def hcell (h : HpT) (b o : Nat) : Option Value := bif Nat.blt b h.n then (match hblk h b with | some l => nthS l o | none => none) else none
def vLd (x : Value) (h : HpT) : Option (Value × HpT) := match x with
  | .pointer (some ⟨b, o, _⟩) => (match hcell h b o with | some v => some (v, h) | none => none)
  | _ => none
def hst (h : HpT) (b o : Nat) (v : Value) : Option (Value × HpT) :=
  bif Nat.blt b h.n then (match hblk h b with
    | some l => (match nthS l o with | some _ => lput l o v fun l => some (undef, hset h b (some l)) | none => none)
    | none => none) else none
def vSt (ro : Nat) (p x : Value) (h : HpT) : Option (Value × HpT) := match p with
  | .pointer (some ⟨b, o, _⟩) => bif Nat.blt b ro then none else (match x with
    | .agg _ => none
    | .tuple _ => none
    | x => hst h b o x)
  | _ => none
def drp {α : Type} (l : List α) (o : Nat) : List α := Nat.rec (motive := fun _ => List α → List α) (fun l => l) (fun _ ih l => ih (tl l)) o l
/-- The first n of a list, ahead of another. -/
def takA {α R : Type} (n : Nat) (l rest : List α) (k : List α → Option R) : Option R :=
  Nat.rec (motive := fun _ => List α → (List α → Option R) → Option R) (fun _ k => k rest) (fun _ ih l k => l.casesOn none fun x r => ih r fun r => k (x :: r)) n l k
def newK (h : HpT) (x : Option Addr) (n sz : Nat) (k : List Value → Option (Value × HpT)) : Option (Value × HpT) := match x with
  | none => bif Nat.beq n 0 then k [] else none
  | some ⟨b, o, _⟩ => bif Nat.blt b h.n then (match hblk h b with | some l => takA (Nat.mul n sz) (drp l o) [] k | none => none) else none
/-- A new block whose cells are plain. -/
def newQ (h : HpT) (cs : List Value) : HpT := fNat (Nat.add h.n 1) fun m => hsetN h h.n (some cs) m
theorem newQ_eq (h : HpT) (cs : List Value) : newQ h cs = tO.new h cs := by simp only [newQ, tO, fCells_eq]
/-- .. and another is gone. -/
def newK2 (h : HpT) (b : Nat) (cs : List Value) : HpT := newQ (hset h b none) cs
theorem newK2_eq (h : HpT) (b : Nat) (cs : List Value) : newK2 h b cs = tO.new (tO.kill h b) cs := newQ_eq _ _
def vApp (ro sz bytes : Nat) (s x : Value) (h : HpT) : Option (Value × HpT) := match s with
  | .slice base len cap => (match x with
    | .slice b' n _ =>
      bif Nat.ble (Nat.mul (Nat.add len n) bytes) 140737488355328 && Nat.ble (Nat.add len n) 140737488355328 then
        newK h b' n sz fun new => match base with
          | none => bif Nat.beq len 0 && Nat.beq cap 0 then (bif Nat.beq n 0 then some (.slice none 0 0, h) else some (.slice (some ⟨h.n, 0, some sz⟩) n 0, newQ h new)) else none
          | some ⟨b, o, sp⟩ => bif Nat.blt b ro then none else (match sp with
            | some z => bif Nat.beq z sz && Nat.beq cap 0 && Nat.blt b h.n then (match hblk h b with
                | some l => takA (Nat.mul len sz) (drp l o) new fun c => fNat (Nat.add len n) fun m => some (.slice (some ⟨h.n, 0, some sz⟩) m 0, newK2 h b c)
                | none => none)
              else (match appI tO ro sz bytes s x h with | some (v, h) => fVal v fun v => some (v, h) | none => none)
            | none => none)
      else none
    | _ => none)
  | _ => none
def vLdN (n : Nat) (x : Value) (h : HpT) : Option (Value × HpT) := match x with
  | .pointer (some ⟨b, o, _⟩) => bif Nat.blt b h.n then (match hblk h b with | some l => takA n (drp l o) [] fun c => some (.agg ⟨c⟩, h) | none => none) else none
  | _ => none
def vLenSl (x : Value) (h : HpT) : Option (Value × HpT) := match x with
  | .slice _ n _ => some (.int .i64 (.ofNat n), h)
  | _ => none
def vLenStr (x : Value) (h : HpT) : Option (Value × HpT) := match x with
  | .string s => fNat s.size fun n => some (.int .i64 (.ofNat n), h)
  | _ => none
def vExt (i : Nat) (x : Value) (h : HpT) : Option (Value × HpT) := match x with
  | .tuple ⟨l⟩ => (match nth l i with | some v => some (v, h) | none => none)
  | _ => none
/-- The value itself, its head plain. -/
def fShal {R : Type} (x : Value) (k : Value → R) : R := x.casesOn (fun a => k (.bool a)) (fun a b => k (.int a b)) (fun a b => k (.float a b)) (fun a b c => k (.complex a b c)) (fun a => k (.string a)) (fun a => k (.pointer a)) (fun a b c => k (.slice a b c)) (fun a => k (.map a)) (fun a => k (.chan a)) (fun a b c => k (.func a b c)) (k .nilFunc) (fun a b => k (.iface a b)) (k .nilIface) (fun a => k (.agg a)) (fun a => k (.tuple a))
theorem fShal_eq {R : Type} (v : Value) (k : Value → R) : fShal v k = k v := by cases v <;> rfl
def vMove (x : Value) (h : HpT) : Option (Value × HpT) := fShal x fun x => some (x, h)

section
variable {d : Nat}
def s1 (f : Value → HpT → Option (Value × HpT)) (X : Tr Value d → Value) : ActS d := fun _ t h => f (X t) h
def s2 (f : Value → Value → HpT → Option (Value × HpT)) (X Y : Tr Value d → Value) : ActS d := fun _ t h => f (X t) (Y t) h
def an : Tr Value d → List Value := fun _ => []
def ac (X : Tr Value d → Value) (l : Tr Value d → List Value) : Tr Value d → List Value := fun t => X t :: l t
def sCall (f : FuncId) (l : Tr Value d → List Value) : ActS d := fun call t h => call f (l t) h
def fb (a : ActT HpT) : ActS d := fun call t h => match a call (look d t) h with
  | some (v, h') => fAny v fun v => some (v, h')
  | none => none
def toS (p : SetS d) (f : ActS d) : StpS d := fun call t h k => (f call t h).casesOn none fun r => r.casesOn fun v h => h.casesOn fun n b o => p t v fun t => k t ⟨n, b, o⟩
def tooS (f : ActS d) : StpS d := fun call t h k => (f call t h).casesOn none fun r => r.casesOn fun _ h => h.casesOn fun n b o => k t ⟨n, b, o⟩
def onlyIfS (X : Tr Value d → Value) (b : Bool) (p : SetS d) (f : StpS d) : StpS d := fun call t h k => match isB (X t) b with
  | true => f call t h k
  | false => p t undef fun t => k t h
def onlyIfoS (X : Tr Value d → Value) (b : Bool) (f : StpS d) : StpS d := fun call t h k => match isB (X t) b with
  | true => f call t h k
  | false => k t h
abbrev RegS (d : Nat) := CallT HpT → Tr Value d → HpT → RS d
def rn : RegS d := fun _ t h => some (.normal, t, h)
def rc (x : StpS d) (l : RegS d) : RegS d := fun call t h => x call t h fun t h => l call t h
def cSkipS : CodeS d := fun _ _ t h => some (.normal, t, h)
def cRetS : CodeS d := fun _ _ t h => some (.ret, t, h)
def cExitS (id : Nat) : CodeS d := fun _ _ t h => some (.exit id, t, h)
def cRegS (l : RegS d) : CodeS d := fun call _ t h => l call t h
def cSeqS (x y : CodeS d) : CodeS d := fun call n t h => (x call n t h).casesOn none fun p => p.casesOn fun e q => q.casesOn fun t h => e.casesOn (y call n t h) (fun i => some (.exit i, t, h)) (fun l => some (.goto l, t, h)) (some (.ret, t, h)) (fun c => some (.panic c, t, h)) (some (.outgrown, t, h))
def cIfS (X : Tr Value d → Value) (x y : CodeS d) : CodeS d := fun call n t h => cB (X t) none fun b => b.casesOn (y call n t h) (x call n t h)
def cBlkS (id : Nat) (x : CodeS d) : CodeS d := fun call n t h => (x call n t h).casesOn none fun p => p.casesOn fun e q => q.casesOn fun t h =>
  e.casesOn (some (.normal, t, h)) (fun i => (Nat.beq i id).casesOn (some (.exit i, t, h)) (some (.normal, t, h))) (fun l => some (.goto l, t, h)) (some (.ret, t, h)) (fun c => some (.panic c, t, h)) (some (.outgrown, t, h))
theorem cBlkS_eq (id : Nat) (x : CodeS d) (call : CallT HpT) (n : Nat) (t : Tr Value d) (h : HpT) : cBlkS id x call n t h = match x call n t h with
  | some (e, t, h) => some (outOf id e, t, h)
  | none => none := by
  unfold cBlkS
  cases x call n t h with
  | none => rfl
  | some p =>
    obtain ⟨e, t, h⟩ := p
    cases e with
    | exit i =>
      simp only [outOf]
      by_cases hi : i = id
      · subst hi; simp
      · have : Nat.beq i id = false := by rw [Bool.eq_false_iff]; exact fun h => hi (Nat.eq_of_beq_eq_true h)
        simp [this, hi]
    | _ => rfl
def loopS (x : CodeS d) (call : CallT HpT) (n : Nat) (t : Tr Value d) (h : HpT) : RS d :=
  Nat.rec (motive := fun _ => Tr Value d → HpT → RS d) (fun _ _ => none) (fun n ih t h => (x call n t h).casesOn none fun p => p.casesOn fun e q => q.casesOn fun t h => e.casesOn (ih t h) (fun i => some (.exit i, t, h)) (fun l => some (.goto l, t, h)) (some (.ret, t, h)) (fun c => some (.panic c, t, h)) (some (.outgrown, t, h))) n t h
theorem loopS_succ (x : CodeS d) (call : CallT HpT) (n : Nat) (t : Tr Value d) (h : HpT) : loopS x call (n + 1) t h = match x call n t h with
    | some (.normal, t, h) => loopS x call n t h
    | r => r := by
  have e0 : loopS x call (n + 1) t h = ((x call n t h).casesOn none (fun p => p.casesOn fun e q => q.casesOn fun t h => e.casesOn (loopS x call n t h) (fun i => some (.exit i, t, h)) (fun l => some (.goto l, t, h)) (some (.ret, t, h)) (fun c => some (.panic c, t, h)) (some (.outgrown, t, h))) : RS d) := rfl
  rw [e0]
  cases x call n t h with
  | none => rfl
  | some p => obtain ⟨e, t, h⟩ := p; cases e <;> rfl
def cLoopS (x : CodeS d) : CodeS d := fun call n t h => loopS x call n t h
end

/- The translation. -/
section
variable {d : Nat} (A : Acc d) (P : Program) (ro : Nat)
def aplOf (l : List Operand) : Tr Value d → List Value := match l with
  | [] => an
  | x :: l => ac (opS A x) (aplOf l)
def actS (op : Op) : ActS d :=
  match op with
  | .move x | .assign x => s1 vMove (opS A x)
  | .nilCheck x => s1 vNil (opS A x)
  | .binOp o t x y _ =>
    match o with
    | .shl | .shr => fb (actOf tO P ro op)
    | _ =>
      match P.underlying t with
      | some (.int _) => s2 (vIntS o) (opS A x) (opS A y)
      | _ => fb (actOf tO P ro op)
  | .fieldAddr s x f =>
    match P.underlying s with
    | some (.struct fs) => match fs[f]? with
      | some fd => match P.info? fd.type with
        | some i => if i.size = 0 then fb (actOf tO P ro op) else s1 (vFld fd.offset) (opS A x)
        | none => fb (actOf tO P ro op)
      | none => fb (actOf tO P ro op)
    | _ => fb (actOf tO P ro op)
  | .indexAddr t x ix =>
    match P.underlying t with
    | some (.slice e) => match P.info? e with
      | some i => s2 (vIdx i.size) (opS A x) (opS A ix)
      | none => fb (actOf tO P ro op)
    | _ => fb (actOf tO P ro op)
  | .load t a =>
    match isAggT P t, P.info? t with
    | some false, some _ => s1 vLd (opS A a)
    | some true, some i => s1 (vLdN i.size) (opS A a)
    | _, _ => fb (actOf tO P ro op)
  | .store t a x =>
    match P.info? t with
    | some i => if i.size = 1 then s2 (vSt ro) (opS A a) (opS A x) else fb (actOf tO P ro op)
    | none => fb (actOf tO P ro op)
  | .extract x i => s1 (vExt i) (opS A x)
  | .call { callee := .builtin .len, args, argTypes } =>
    match argTypes.toList, args.toList with
    | t :: _, x :: _ =>
      match P.underlying t with
      | some .string => s1 vLenStr (opS A x)
      | some (.slice _) => s1 vLenSl (opS A x)
      | _ => fb (actOf tO P ro op)
    | _, _ => fb (actOf tO P ro op)
  | .call { callee := .builtin .append, args, argTypes } =>
    match argTypes.toList, args.toList with
    | [t, u], [x, y] =>
      if t = u then
        match P.underlying t with
        | some (.slice e) => match P.info? e with
          | some i => if (i.zero.map fun z => z.cells.size) = some i.size then s2 (vApp ro i.size i.bytes) (opS A x) (opS A y) else fb (actOf tO P ro op)
          | none => fb (actOf tO P ro op)
        | _ => fb (actOf tO P ro op)
      else fb (actOf tO P ro op)
    | _, _ => fb (actOf tO P ro op)
  | .call { callee := .value (.func f), args, .. } => sCall f (aplOf A args.toList)
  | _ => fb (actOf tO P ro op)

def stpS (ops : Array Oper) (o : Oper) : StpS d :=
  let b : StpS d := match o.dst with
    | some i => toS (A.put i) (actS A P ro o.op)
    | none => tooS (actS A P ro o.op)
  match o.guard with
  | none => b
  | some (j, w) => match (ops[j]?).bind (·.dst), o.dst with
    | some k, some i => onlyIfS (A.get k) w (A.put i) b
    | some k, none => onlyIfoS (A.get k) w b
    | none, some i => fun _ t h k => A.put i t undef fun t => k t h
    | none, none => fun _ t h k => k t h

def regOf (ops : Array Oper) (l : List Oper) : RegS d := match l with
  | [] => rn
  | o :: l => rc (stpS A P ro ops o) (regOf ops l)

def codeS : Code → CodeS d
  | .skip => cSkipS
  | .ret => cRetS
  | .exit id => cExitS id
  | .seq a b => cSeqS (codeS a) (codeS b)
  | .cond c a b => cIfS (opS A c) (codeS a) (codeS b)
  | .block id a => cBlkS id (codeS a)
  | .loop a => cLoopS (codeS a)
  | .region _ ops _ => cRegS (regOf A P ro ops ops.toList)
  | _ => fun _ _ _ _ => none
end
end Go.Vm
