/-
  For running code in the kernel: trees of eight, a heap that is one, values made plain at once. Own work.
-/
import Derived.Test.YtimdkminagnhgabGreatDoorVmO
namespace Go.Vm
set_option linter.unusedSimpArgs false
set_option linter.unusedVariables false

structure E8 (α : Type) where
  a0 : α
  a1 : α
  a2 : α
  a3 : α
  a4 : α
  a5 : α
  a6 : α
  a7 : α

/-- A tree of depth d: 8 ^ d leaves; a leaf's number is spelt from the lowest digit on. -/
def Tr (α : Type) : Nat → Type
  | 0 => α
  | d + 1 => E8 (Tr α d)

def tfull {α : Type} (a : α) : (d : Nat) → Tr α d
  | 0 => a
  | d + 1 => ⟨tfull a d, tfull a d, tfull a d, tfull a d, tfull a d, tfull a d, tfull a d, tfull a d⟩

def sel {α : Type} (j : Nat) : E8 α → α :=
  bif Nat.ble j 3 then (bif Nat.ble j 1 then (bif Nat.beq j 0 then E8.a0 else E8.a1) else (bif Nat.beq j 2 then E8.a2 else E8.a3))
  else (bif Nat.ble j 5 then (bif Nat.beq j 4 then E8.a4 else E8.a5) else (bif Nat.beq j 6 then E8.a6 else E8.a7))
def rp0 {α R : Type} (t : E8 α) (x : α) (k : E8 α → R) : R := t.casesOn fun a0 a1 a2 a3 a4 a5 a6 a7 => k ⟨x, a1, a2, a3, a4, a5, a6, a7⟩
def rp1 {α R : Type} (t : E8 α) (x : α) (k : E8 α → R) : R := t.casesOn fun a0 a1 a2 a3 a4 a5 a6 a7 => k ⟨a0, x, a2, a3, a4, a5, a6, a7⟩
def rp2 {α R : Type} (t : E8 α) (x : α) (k : E8 α → R) : R := t.casesOn fun a0 a1 a2 a3 a4 a5 a6 a7 => k ⟨a0, a1, x, a3, a4, a5, a6, a7⟩
def rp3 {α R : Type} (t : E8 α) (x : α) (k : E8 α → R) : R := t.casesOn fun a0 a1 a2 a3 a4 a5 a6 a7 => k ⟨a0, a1, a2, x, a4, a5, a6, a7⟩
def rp4 {α R : Type} (t : E8 α) (x : α) (k : E8 α → R) : R := t.casesOn fun a0 a1 a2 a3 a4 a5 a6 a7 => k ⟨a0, a1, a2, a3, x, a5, a6, a7⟩
def rp5 {α R : Type} (t : E8 α) (x : α) (k : E8 α → R) : R := t.casesOn fun a0 a1 a2 a3 a4 a5 a6 a7 => k ⟨a0, a1, a2, a3, a4, x, a6, a7⟩
def rp6 {α R : Type} (t : E8 α) (x : α) (k : E8 α → R) : R := t.casesOn fun a0 a1 a2 a3 a4 a5 a6 a7 => k ⟨a0, a1, a2, a3, a4, a5, x, a7⟩
def rp7 {α R : Type} (t : E8 α) (x : α) (k : E8 α → R) : R := t.casesOn fun a0 a1 a2 a3 a4 a5 a6 a7 => k ⟨a0, a1, a2, a3, a4, a5, a6, x⟩
/-- One of eight is another. -/
def rpl {α R : Type} (j : Nat) : E8 α → α → (E8 α → R) → R :=
  bif Nat.ble j 3 then (bif Nat.ble j 1 then (bif Nat.beq j 0 then rp0 else rp1) else (bif Nat.beq j 2 then rp2 else rp3))
  else (bif Nat.ble j 5 then (bif Nat.beq j 4 then rp4 else rp5) else (bif Nat.beq j 6 then rp6 else rp7))

def tget {α : Type} (d : Nat) (t : Tr α d) (i : Nat) : α :=
  Nat.rec (motive := fun d => Tr α d → Nat → α) (fun t _ => t) (fun _ ih t i => ih (sel (Nat.mod i 8) t) (Nat.div i 8)) d t i
theorem tget_succ {α : Type} (d : Nat) (t : Tr α (d + 1)) (i : Nat) : tget (d + 1) t i = tget d (sel (Nat.mod i 8) t) (Nat.div i 8) := rfl

/-- A leaf is changed; what follows goes on with the new tree. -/
def tput {α R : Type} (d : Nat) (t : Tr α d) (i : Nat) (v : α) (k : Tr α d → R) : R :=
  Nat.rec (motive := fun d => Tr α d → Nat → (Tr α d → R) → R) (fun _ _ k => k v) (fun _ ih t i k => ih (sel (Nat.mod i 8) t) (Nat.div i 8) fun x => rpl (Nat.mod i 8) t x k) d t i k
theorem tput_succ {α R : Type} (d : Nat) (t : Tr α (d + 1)) (i : Nat) (v : α) (k : Tr α (d + 1) → R) : tput (d + 1) t i v k = tput d (sel (Nat.mod i 8) t) (Nat.div i 8) v fun x => rpl (Nat.mod i 8) t x k := rfl

def tset {α : Type} (d : Nat) (t : Tr α d) (i : Nat) (v : α) : Tr α d := tput d t i v fun x => x

theorem rpl_eq {α R : Type} (j : Nat) (t : E8 α) (x : α) (k : E8 α → R) : rpl j t x k = k (rpl j t x fun y => y) := by
  unfold rpl
  cases Nat.ble j 3
  · cases Nat.ble j 5
    · cases Nat.beq j 6 <;> rfl
    · cases Nat.beq j 4 <;> rfl
  · cases Nat.ble j 1
    · cases Nat.beq j 2 <;> rfl
    · cases Nat.beq j 0 <;> rfl
theorem tput_eq {α R : Type} : ∀ (d : Nat) (t : Tr α d) (i : Nat) (v : α) (k : Tr α d → R), tput d t i v k = k (tset d t i v) := by
  intro d
  induction d generalizing R with
  | zero => intro t i v k; rfl
  | succ d ih =>
    intro t i v k
    have e : tset (d + 1) t i v = tput d (sel (Nat.mod i 8) t) (Nat.div i 8) v fun x => rpl (Nat.mod i 8) t x fun x => x := rfl
    have h1 := ih (R := R) (sel (Nat.mod i 8) t) (Nat.div i 8) v (fun x => rpl (Nat.mod i 8) t x k)
    have h2 := ih (R := Tr α (d + 1)) (sel (Nat.mod i 8) t) (Nat.div i 8) v (fun x => rpl (Nat.mod i 8) t x fun x => x)
    rw [tput_succ, e]
    exact h1.trans ((rpl_eq _ _ _ _).trans (congrArg k h2.symm))
theorem tset_succ {α : Type} (d : Nat) (t : Tr α (d + 1)) (i : Nat) (v : α) : tset (d + 1) t i v = rpl (Nat.mod i 8) t (tset d (sel (Nat.mod i 8) t) (Nat.div i 8) v) fun x => x :=
  tput_eq (R := Tr α (d + 1)) d _ _ v _

theorem sel_rpl {α : Type} (t : E8 α) (x : α) (m n : Nat) (hm : m < 8) (hn : n < 8) : sel n (rpl m t x fun y => y) = if n = m then x else sel n t := by
  obtain ⟨a0, a1, a2, a3, a4, a5, a6, a7⟩ := t
  have hm' : m = 0 ∨ m = 1 ∨ m = 2 ∨ m = 3 ∨ m = 4 ∨ m = 5 ∨ m = 6 ∨ m = 7 := by omega
  have hn' : n = 0 ∨ n = 1 ∨ n = 2 ∨ n = 3 ∨ n = 4 ∨ n = 5 ∨ n = 6 ∨ n = 7 := by omega
  rcases hm' with rfl | rfl | rfl | rfl | rfl | rfl | rfl | rfl <;> rcases hn' with rfl | rfl | rfl | rfl | rfl | rfl | rfl | rfl <;> rfl
theorem tget_tset {α : Type} : ∀ (d : Nat) (t : Tr α d) (i j : Nat) (v : α), i < 8 ^ d → j < 8 ^ d → tget d (tset d t i v) j = if j = i then v else tget d t j := by
  intro d
  induction d with
  | zero =>
    intro t i j v hi hj
    have : j = i := by simp at hi hj; omega
    rw [if_pos this]
    rfl
  | succ d ih =>
    intro t i j v hi hj
    have hi' : Nat.div i 8 < 8 ^ d := by show i / 8 < _; rw [Nat.div_lt_iff_lt_mul (by omega)]; rw [Nat.pow_succ] at hi; exact hi
    have hj' : Nat.div j 8 < 8 ^ d := by show j / 8 < _; rw [Nat.div_lt_iff_lt_mul (by omega)]; rw [Nat.pow_succ] at hj; exact hj
    have hm : Nat.mod i 8 < 8 := Nat.mod_lt i (by omega)
    have hn : Nat.mod j 8 < 8 := Nat.mod_lt j (by omega)
    have key : j = i ↔ Nat.mod j 8 = Nat.mod i 8 ∧ Nat.div j 8 = Nat.div i 8 := by
      show j = i ↔ j % 8 = i % 8 ∧ j / 8 = i / 8
      omega
    have g1 : tget (d + 1) (tset (d + 1) t i v) j = tget d (sel (Nat.mod j 8) (tset (d + 1) t i v)) (Nat.div j 8) := rfl
    have g2 : tget (d + 1) t j = tget d (sel (Nat.mod j 8) t) (Nat.div j 8) := rfl
    have e : sel (Nat.mod j 8) (tset (d + 1) t i v) = if Nat.mod j 8 = Nat.mod i 8 then tset d (sel (Nat.mod i 8) t) (Nat.div i 8) v else sel (Nat.mod j 8) t := by
      rw [tset_succ]
      exact sel_rpl (α := Tr α d) t (tset d (sel (Nat.mod i 8) t) (Nat.div i 8) v) (Nat.mod i 8) (Nat.mod j 8) hm hn
    rw [g1, g2, e]
    by_cases h1 : Nat.mod j 8 = Nat.mod i 8
    · rw [if_pos h1, ih _ _ _ _ hi' hj', h1]
      by_cases h2 : Nat.div j 8 = Nat.div i 8
      · rw [if_pos h2, if_pos (key.2 ⟨h1, h2⟩)]
      · rw [if_neg h2, if_neg (fun h => h2 (key.1 h).2)]
    · rw [if_neg h1, if_neg (fun h => h1 (key.1 h).1)]

/- Plain at once. -/
def fNat {R : Type} (n : Nat) (k : Nat → R) : R := match n with
  | 0 => k 0
  | p + 1 => k (Nat.succ p)
theorem fNat_eq {R : Type} (n : Nat) (k : Nat → R) : fNat n k = k n := by cases n <;> rfl
def fInt {R : Type} (n : Int) (k : Int → R) : R := match n with
  | .ofNat m => fNat m fun m => k (.ofNat m)
  | .negSucc m => fNat m fun m => k (.negSucc m)
theorem fInt_eq {R : Type} (n : Int) (k : Int → R) : fInt n k = k n := by cases n <;> simp [fInt, fNat_eq]
def fBool {R : Type} (b : Bool) (k : Bool → R) : R := match b with
  | true => k true
  | false => k false
theorem fBool_eq {R : Type} (b : Bool) (k : Bool → R) : fBool b k = k b := by cases b <;> rfl
def fSpot {R : Type} (b : Option Nat) (k : Option Nat → R) : R := match b with
  | none => k none
  | some n => fNat n fun n => k (some n)
theorem fSpot_eq {R : Type} (b : Option Nat) (k : Option Nat → R) : fSpot b k = k b := by cases b <;> simp [fSpot, fNat_eq]
def fAddr {R : Type} (a : Addr) (k : Addr → R) : R := match a with
  | ⟨b, o, s⟩ => fNat b fun b => fNat o fun o => fSpot s fun s => k ⟨b, o, s⟩
theorem fAddr_eq {R : Type} (a : Addr) (k : Addr → R) : fAddr a k = k a := by cases a; simp [fAddr, fNat_eq, fSpot_eq]
/-- A value that is one cell. -/
def fVal {R : Type} (v : Value) (k : Value → R) : R := match v with
  | .int a n => fInt n fun n => k (.int a n)
  | .bool b => fBool b fun b => k (.bool b)
  | .pointer none => k (.pointer none)
  | .pointer (some a) => fAddr a fun a => k (.pointer (some a))
  | .slice none l c => fNat l fun l => fNat c fun c => k (.slice none l c)
  | .slice (some a) l c => fAddr a fun a => fNat l fun l => fNat c fun c => k (.slice (some a) l c)
  | v => k v
theorem fVal_eq {R : Type} (v : Value) (k : Value → R) : fVal v k = k v := by
  unfold fVal
  split <;> simp [fInt_eq, fBool_eq, fAddr_eq, fNat_eq]
/-- So long is no list. -/
def fuel : Nat := 1000000
def fList {α R : Type} (l : List α) (k : List α → R) : R :=
  Nat.rec (motive := fun _ => List α → (List α → R) → R) (fun l k => k l) (fun _ ih l k => l.casesOn (k []) fun x r => ih r fun r => k (x :: r)) fuel l k
theorem fList_eq {α R : Type} (l : List α) (k : List α → R) : fList l k = k l := by
  unfold fList
  generalize fuel = n
  induction n generalizing l k with
  | zero => rfl
  | succ n ih => cases l with
    | nil => rfl
    | cons x r => exact ih r _
/-- A string's bytes stand in a row. -/
def fStr {R : Type} (s : ByteArray) (k : ByteArray → R) : R := match s with
  | ⟨⟨l⟩⟩ => fList l fun l => k ⟨⟨l⟩⟩
theorem fStr_eq {R : Type} (s : ByteArray) (k : ByteArray → R) : fStr s k = k s := by
  obtain ⟨⟨l⟩⟩ := s
  simp [fStr, fList_eq]
/-- Any value; its strings too. -/
def fCell {R : Type} (v : Value) (k : Value → R) : R := match v with
  | .string s => fStr s fun s => k (.string s)
  | v => fVal v k
theorem fCell_eq {R : Type} (v : Value) (k : Value → R) : fCell v k = k v := by
  unfold fCell
  split <;> simp [fStr_eq, fVal_eq]
def fCells {R : Type} (l : List Value) (k : List Value → R) : R :=
  Nat.rec (motive := fun _ => List Value → (List Value → R) → R) (fun l k => k l) (fun _ ih l k => l.casesOn (k []) fun x r => fVal x fun x => ih r fun r => k (x :: r)) fuel l k
theorem fCells_eq {R : Type} (l : List Value) (k : List Value → R) : fCells l k = k l := by
  unfold fCells
  generalize fuel = n
  induction n generalizing l k with
  | zero => rfl
  | succ n ih => cases l with
    | nil => rfl
    | cons x r => exact (fVal_eq _ _).trans (ih r _)
def fCell2 {R : Type} (v : Value) (k : Value → R) : R := match v with
  | .agg ⟨c⟩ => fCells c fun c => k (.agg ⟨c⟩)
  | v => fVal v k
theorem fCell2_eq {R : Type} (v : Value) (k : Value → R) : fCell2 v k = k v := by
  unfold fCell2
  split <;> simp [fCells_eq, fVal_eq]
def fTup {R : Type} (l : List Value) (k : List Value → R) : R :=
  Nat.rec (motive := fun _ => List Value → (List Value → R) → R) (fun l k => k l) (fun _ ih l k => l.casesOn (k []) fun x r => fCell2 x fun x => ih r fun r => k (x :: r)) fuel l k
theorem fTup_eq {R : Type} (l : List Value) (k : List Value → R) : fTup l k = k l := by
  unfold fTup
  generalize fuel = n
  induction n generalizing l k with
  | zero => rfl
  | succ n ih => cases l with
    | nil => rfl
    | cons x r => exact (fCell2_eq _ _).trans (ih r _)
def fAny {R : Type} (v : Value) (k : Value → R) : R := match v with
  | .string s => fStr s fun s => k (.string s)
  | .agg ⟨c⟩ => fCells c fun c => k (.agg ⟨c⟩)
  | .tuple ⟨c⟩ => fTup c fun c => k (.tuple ⟨c⟩)
  | v => fVal v k
theorem fAny_eq {R : Type} (v : Value) (k : Value → R) : fAny v k = k v := by
  unfold fAny
  split <;> simp [fStr_eq, fVal_eq, fCells_eq, fTup_eq]

/- A heap. -/
abbrev Blk := Option (List Value)
abbrev T5 := E8 (E8 (E8 (E8 (E8 Blk))))
structure HpT where
  n : Nat
  t : T5
  o : Nat → Option (List Value)

def tl {α : Type} (l : List α) : List α := l.casesOn [] fun _ r => r
def nth {α : Type} (l : List α) (i : Nat) : Option α :=
  Nat.rec (motive := fun _ => List α → Option α) (fun l => l.casesOn none fun v _ => some v) (fun _ ih l => ih (tl l)) i l
theorem nth_eq {α : Type} (l : List α) (i : Nat) : nth l i = l[i]? := by
  induction i generalizing l with
  | zero => cases l <;> rfl
  | succ i ih =>
    have := ih (tl l)
    cases l with
    | nil => exact this.trans (by simp [tl])
    | cons x r => exact this.trans (by simp [tl])
/-- Sixteen on. -/
def tl16 {α : Type} (l : List α) : List α := tl (tl (tl (tl (tl (tl (tl (tl (tl (tl (tl (tl (tl (tl (tl (tl l)))))))))))))))
def nthS {α : Type} (l : List α) (i : Nat) : Option α := nth (Nat.rec (motive := fun _ => List α → List α) (fun l => l) (fun _ ih l => ih (tl16 l)) (Nat.div i 16) l) (Nat.mod i 16)
theorem tl_eq {α : Type} (l : List α) : tl l = l.drop 1 := by cases l <;> rfl
theorem tl16_eq {α : Type} (l : List α) : tl16 l = l.drop 16 := by simp only [tl16, tl_eq, List.drop_drop]
theorem nthS_eq {α : Type} (l : List α) (i : Nat) : nthS l i = l[i]? := by
  have h : ∀ (n : Nat) (l : List α), Nat.rec (motive := fun _ => List α → List α) (fun l => l) (fun _ ih l => ih (tl16 l)) n l = l.drop (16 * n) := by
    intro n
    induction n with
    | zero => intro l; rfl
    | succ n ih =>
      intro l
      refine (ih (tl16 l)).trans ?_
      rw [tl16_eq, List.drop_drop, show 16 + 16 * n = 16 * (n + 1) by omega]
  unfold nthS
  rw [h, nth_eq, List.getElem?_drop]
  show l[16 * (i / 16) + i % 16]? = l[i]?
  rw [Nat.div_add_mod]
def lput {α R : Type} (l : List α) (i : Nat) (v : α) (k : List α → R) : R :=
  Nat.rec (motive := fun _ => List α → (List α → R) → R) (fun l k => l.casesOn (k []) fun _ r => k (v :: r)) (fun _ ih l k => l.casesOn (k []) fun x r => ih r fun r => k (x :: r)) i l k
theorem lput_eq {α R : Type} (l : List α) (i : Nat) (v : α) (k : List α → R) : lput l i v k = k (l.set i v) := by
  unfold lput
  induction i generalizing l k with
  | zero => cases l <;> rfl
  | succ i ih => cases l with
    | nil => rfl
    | cons x r => exact ih r _

/- Block numbers' digits, each one of eight kinds. -/
def dig (j : Nat) : IntKind :=
  bif Nat.ble j 3 then (bif Nat.ble j 1 then (bif Nat.beq j 0 then .i8 else .i16) else (bif Nat.beq j 2 then .i32 else .i64))
  else (bif Nat.ble j 5 then (bif Nat.beq j 4 then .u8 else .u16) else (bif Nat.beq j 6 then .u32 else .u64))
structure D5 where
  a : IntKind
  b : IntKind
  c : IntKind
  d : IntKind
  e : IntKind
def digs (i : Nat) : D5 := ⟨dig (Nat.mod i 8), dig (Nat.mod (Nat.div i 8) 8), dig (Nat.mod (Nat.div (Nat.div i 8) 8) 8), dig (Nat.mod (Nat.div (Nat.div (Nat.div i 8) 8) 8) 8), dig (Nat.mod (Nat.div (Nat.div (Nat.div (Nat.div i 8) 8) 8) 8) 8)⟩
def sel8 {α : Type} (k : IntKind) (t : E8 α) : α := k.casesOn t.a0 t.a1 t.a2 t.a3 t.a4 t.a5 t.a6 t.a7
def rpl8 {α R : Type} (j : IntKind) (t : E8 α) (x : α) (k : E8 α → R) : R := j.casesOn (rp0 t x k) (rp1 t x k) (rp2 t x k) (rp3 t x k) (rp4 t x k) (rp5 t x k) (rp6 t x k) (rp7 t x k)
theorem sel8_dig {α : Type} (j : Nat) (t : E8 α) : sel8 (dig j) t = sel j t := by
  unfold sel dig
  cases Nat.ble j 3
  · cases Nat.ble j 5
    · cases Nat.beq j 6 <;> rfl
    · cases Nat.beq j 4 <;> rfl
  · cases Nat.ble j 1
    · cases Nat.beq j 2 <;> rfl
    · cases Nat.beq j 0 <;> rfl
theorem rpl8_dig {α R : Type} (j : Nat) (t : E8 α) (x : α) (k : E8 α → R) : rpl8 (dig j) t x k = rpl j t x k := by
  unfold rpl dig
  cases Nat.ble j 3
  · cases Nat.ble j 5
    · cases Nat.beq j 6 <;> rfl
    · cases Nat.beq j 4 <;> rfl
  · cases Nat.ble j 1
    · cases Nat.beq j 2 <;> rfl
    · cases Nat.beq j 0 <;> rfl
def tg5 (t : T5) (i : Nat) : Blk := (digs i).casesOn fun a b c d e => sel8 e (sel8 d (sel8 c (sel8 b (sel8 a t))))
def tp5 {R : Type} (t : T5) (i : Nat) (v : Blk) (k : T5 → R) : R := (digs i).casesOn fun a b c d e =>
  rpl8 e (sel8 d (sel8 c (sel8 b (sel8 a t)))) v fun x => rpl8 d (sel8 c (sel8 b (sel8 a t))) x fun x => rpl8 c (sel8 b (sel8 a t)) x fun x => rpl8 b (sel8 a t) x fun x => rpl8 a t x k
theorem tg5_eq (t : T5) (i : Nat) : tg5 t i = tget (α := Blk) 5 t i := by
  simp only [tg5, digs, sel8_dig]
  rfl
theorem tp5_eq {R : Type} (t : T5) (i : Nat) (v : Blk) (k : T5 → R) : tp5 t i v k = k (tset (α := Blk) 5 t i v) := by
  refine Eq.trans ?_ (tput_eq (α := Blk) (R := R) 5 t i v k)
  simp only [tp5, digs, sel8_dig, rpl8_dig]
  rfl

def hblk (h : HpT) (b : Nat) : Option (List Value) := bif Nat.ble b 32767 then tg5 h.t b else h.o b
def hset (h : HpT) (b : Nat) (x : Option (List Value)) : HpT :=
  match h with
  | ⟨n, t, o⟩ => bif Nat.ble b 32767 then tp5 t b x fun t => ⟨n, t, o⟩ else ⟨n, t, fun b' => if b' = b then x else o b'⟩
def hsetN (h : HpT) (b : Nat) (x : Option (List Value)) (n : Nat) : HpT :=
  match h with
  | ⟨_, t, o⟩ => bif Nat.ble b 32767 then tp5 t b x fun t => ⟨n, t, o⟩ else ⟨n, t, fun b' => if b' = b then x else o b'⟩

theorem hset_n (h : HpT) (b : Nat) (x : Option (List Value)) : (hset h b x).n = h.n := by
  obtain ⟨n, t, o⟩ := h
  simp only [hset, tp5_eq]
  cases Nat.ble b 32767 <;> rfl
theorem hsetN_eq (h : HpT) (b : Nat) (x : Option (List Value)) (m : Nat) : hsetN h b x m = { hset h b x with n := m } := by
  obtain ⟨n, t, o⟩ := h
  simp only [hset, hsetN, tp5_eq]
  cases Nat.ble b 32767 <;> rfl
theorem hblk_set (h : HpT) (b : Nat) (x : Option (List Value)) (b' : Nat) : hblk (hset h b x) b' = if b' = b then x else hblk h b' := by
  obtain ⟨n, t, o⟩ := h
  simp only [hset, tp5_eq, hblk, tg5_eq]
  by_cases hb : b ≤ 32767
  · have e : Nat.ble b 32767 = true := Nat.ble_eq_true_of_le hb
    simp only [e, cond_true]
    by_cases hb' : b' ≤ 32767
    · have e' : Nat.ble b' 32767 = true := Nat.ble_eq_true_of_le hb'
      simp only [e', cond_true]
      exact tget_tset 5 t b b' x (by omega) (by omega)
    · have e' : Nat.ble b' 32767 = false := by rw [Bool.eq_false_iff]; exact fun h => hb' (Nat.le_of_ble_eq_true h)
      have : ¬ b' = b := by omega
      simp [e', this]
  · have e : Nat.ble b 32767 = false := by rw [Bool.eq_false_iff]; exact fun h => hb (Nat.le_of_ble_eq_true h)
    simp only [e, cond_false]
    by_cases hb' : b' ≤ 32767
    · have e' : Nat.ble b' 32767 = true := Nat.ble_eq_true_of_le hb'
      have : ¬ b' = b := by omega
      simp [e', this]
    · have e' : Nat.ble b' 32767 = false := by rw [Bool.eq_false_iff]; exact fun h => hb' (Nat.le_of_ble_eq_true h)
      simp [e']
theorem hblk_n (h : HpT) (m b : Nat) : hblk { h with n := m } b = hblk h b := rfl

def tO : HI HpT where
  next h := h.n
  cell h b o := bif Nat.blt b h.n then (match hblk h b with | some l => nthS l o | none => none) else none
  alive h b := bif Nat.blt b h.n then (match hblk h b with | some _ => true | none => false) else false
  put h b o v := match hblk h b with
    | some l => lput l o v fun l => hset h b (some l)
    | none => h
  new h cs := fNat (Nat.add h.n 1) fun m => fCells cs fun cs => hsetN h h.n (some cs) m
  kill h b := hset h b none

theorem tL : tO.Law := by
  have blt : ∀ a b : Nat, Nat.blt a b = decide (a < b) := fun a b => by
    rw [Bool.eq_iff_iff]; simp [Nat.blt_eq]
  refine ⟨?_, ?_, ?_, ?_, ?_, ?_, ?_, ?_, ?_, ?_, ?_⟩
  · intro h b o v
    simp only [tO]
    cases hblk h b <;> simp [lput_eq, hset_n]
  · intro h cs
    simp [tO, fNat_eq, fCells_eq, hsetN_eq]
  · intro h b
    simp [tO, hset_n]
  · intro h b o v x hx b' o'
    simp only [tO, blt] at hx ⊢
    by_cases hb : b < h.n
    · simp only [hb, decide_true, cond_true] at hx
      cases hk : hblk h b with
      | none => rw [hk] at hx; simp at hx
      | some l =>
        rw [hk] at hx
        simp only [nthS_eq] at hx
        have hl := (List.getElem?_eq_some_iff.1 hx).1
        simp only [lput_eq, hset_n, hblk_set]
        by_cases e : b' = b
        · subst e
          simp only [hb, decide_true, cond_true, if_true, nthS_eq, hk, true_and]
          by_cases e2 : o' = o
          · subst e2; simp [hl]
          · simp [e2, List.getElem?_set, Ne.symm e2]
        · simp [e]
    · simp only [hb, decide_false, cond_false] at hx
      simp at hx
  · intro h cs b o
    simp only [tO, blt, fNat_eq, fCells_eq, hsetN_eq, hblk_n, hblk_set]
    by_cases e : b = h.n
    · subst e; simp [nthS_eq]
    · have : b < h.n + 1 ↔ b < h.n := by omega
      have e2 : Nat.add h.n 1 = h.n + 1 := rfl
      simp [e, this, e2]
  · intro h b b' o
    simp only [tO, hset_n, hblk_set]
    by_cases e : b' = b
    · subst e; simp
    · simp [e]
  · intro h b o v hv
    simp only [tO, blt] at hv ⊢
    by_cases hb : b < h.n
    · simp only [hb, decide_true, cond_true] at hv ⊢
      cases hk : hblk h b with
      | none => rw [hk] at hv; simp at hv
      | some l => rfl
    · simp only [hb, decide_false, cond_false] at hv
      simp at hv
  · intro h b hb
    simp only [tO, blt] at hb ⊢
    by_cases hb' : b < h.n
    · exact hb'
    · simp [hb'] at hb
  · intro h b o v b'
    simp only [tO]
    cases hk : hblk h b with
    | none => rfl
    | some l =>
      simp only [lput_eq, hset_n, hblk_set]
      by_cases e : b' = b
      · subst e; simp [hk]
      · simp [e]
  · intro h cs b
    simp only [tO, blt, fNat_eq, fCells_eq, hsetN_eq, hblk_n, hblk_set]
    by_cases e : b = h.n
    · subst e; simp
    · have : b < h.n + 1 ↔ b < h.n := by omega
      have e2 : Nat.add h.n 1 = h.n + 1 := rfl
      simp [e, this, e2]
  · intro h b b'
    simp only [tO, hset_n, hblk_set]
    by_cases e : b' = b
    · subst e; simp
    · simp [e]

end Go.Vm
