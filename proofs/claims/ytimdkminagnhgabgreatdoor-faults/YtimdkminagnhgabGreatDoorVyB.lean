/-
  Operations for the kernel, what follows a function; each comes to what the plain semantics' operation comes to. Own work.
-/
import Derived.Test.YtimdkminagnhgabGreatDoorVyA
namespace Go.Vm
set_option linter.unusedSimpArgs false
set_option linter.unusedVariables false

section
variable {R : Type}
abbrev Kt (R : Type) := Value → HpT → Option R
def kOf (r : Option (Value × HpT)) (k : Kt R) : Option R := r.casesOn none fun p => p.casesOn fun v h => h.casesOn fun n b o => k v ⟨n, b, o⟩
theorem kOf_some (v : Value) (h : HpT) (k : Kt R) : kOf (some (v, h)) k = k v h := by cases h; rfl
theorem kOf_none (k : Kt R) : kOf none k = none := rfl
theorem kOf_le {r : Option (Value × HpT)} {k : Kt R} {x : R} (h : kOf r k = some x) : ∃ v h', r = some (v, h') ∧ k v h' = some x := by
  cases r with
  | none => simp [kOf_none] at h
  | some p => obtain ⟨v, h'⟩ := p; rw [kOf_some] at h; exact ⟨v, h', rfl, h⟩

def kI (n : Int) (h : HpT) (k : Kt R) : Option R := fInt n fun n => k (.int .i64 n) h
theorem kI_eq (n : Int) (h : HpT) (k : Kt R) : kI n h k = k (.int .i64 n) h := fInt_eq _ _
def kB (b : Bool) (h : HpT) (k : Kt R) : Option R := b.casesOn (k (.bool false) h) (k (.bool true) h)
theorem kB_eq (b : Bool) (h : HpT) (k : Kt R) : kB b h k = k (.bool b) h := by cases b <;> rfl
def kAdd (x y : Value) (h : HpT) (k : Kt R) : Option R := cI x (kOf (vInt .add x y h) k) fun a => cI y none fun b => kI (w64 (iadd a b)) h k
def kSub (x y : Value) (h : HpT) (k : Kt R) : Option R := cI x (kOf (vInt .sub x y h) k) fun a => cI y none fun b => kI (w64 (isub a b)) h k
def kLss (x y : Value) (h : HpT) (k : Kt R) : Option R := cI x (kOf (vInt .lss x y h) k) fun a => cI y none fun b => kB (ilt a b) h k
def kGtr (x y : Value) (h : HpT) (k : Kt R) : Option R := cI x (kOf (vInt .gtr x y h) k) fun a => cI y none fun b => kB (ilt b a) h k
def kLeq (x y : Value) (h : HpT) (k : Kt R) : Option R := cI x (kOf (vInt .leq x y h) k) fun a => cI y none fun b => kB (!(ilt b a)) h k
def kGeq (x y : Value) (h : HpT) (k : Kt R) : Option R := cI x (kOf (vInt .geq x y h) k) fun a => cI y none fun b => kB (!(ilt a b)) h k
def kEql (x y : Value) (h : HpT) (k : Kt R) : Option R := cI x (kOf (vInt .eql x y h) k) fun a => cI y none fun b => kB (ieq a b) h k
def kNeq (x y : Value) (h : HpT) (k : Kt R) : Option R := cI x (kOf (vInt .neq x y h) k) fun a => cI y none fun b => kB (!(ieq a b)) h k
def kInt (op : BinOp) : Value → Value → HpT → Kt R → Option R := match op with
  | .add => kAdd
  | .sub => kSub
  | .lss => kLss
  | .gtr => kGtr
  | .leq => kLeq
  | .geq => kGeq
  | .eql => kEql
  | .neq => kNeq
  | op => fun x y h k => kOf (vInt op x y h) k
theorem kAdd_eq (x y : Value) (h : HpT) (k : Kt R) : kAdd x y h k = kOf (vAdd x y h) k := by
  cases x with
  | int kk a =>
    cases kk with
    | i64 =>
      cases y with
      | int k2 b => cases k2 <;> first | rfl | simp [kAdd, vAdd, cI, kI_eq, rI_eq, kOf_some]
      | _ => rfl
    | _ => rfl
  | _ => rfl
theorem kSub_eq (x y : Value) (h : HpT) (k : Kt R) : kSub x y h k = kOf (vSub x y h) k := by
  cases x with
  | int kk a =>
    cases kk with
    | i64 =>
      cases y with
      | int k2 b => cases k2 <;> first | rfl | simp [kSub, vSub, cI, kI_eq, rI_eq, kOf_some]
      | _ => rfl
    | _ => rfl
  | _ => rfl
theorem kLss_eq (x y : Value) (h : HpT) (k : Kt R) : kLss x y h k = kOf (vLss x y h) k := by
  cases x with
  | int kk a =>
    cases kk with
    | i64 =>
      cases y with
      | int k2 b => cases k2 <;> first | rfl | simp [kLss, vLss, cI, kB_eq, rB_eq, kOf_some]
      | _ => rfl
    | _ => rfl
  | _ => rfl
theorem kGtr_eq (x y : Value) (h : HpT) (k : Kt R) : kGtr x y h k = kOf (vGtr x y h) k := by
  cases x with
  | int kk a =>
    cases kk with
    | i64 =>
      cases y with
      | int k2 b => cases k2 <;> first | rfl | simp [kGtr, vGtr, cI, kB_eq, rB_eq, kOf_some]
      | _ => rfl
    | _ => rfl
  | _ => rfl
theorem kLeq_eq (x y : Value) (h : HpT) (k : Kt R) : kLeq x y h k = kOf (vLeq x y h) k := by
  cases x with
  | int kk a =>
    cases kk with
    | i64 =>
      cases y with
      | int k2 b => cases k2 <;> first | rfl | simp [kLeq, vLeq, cI, kB_eq, rB_eq, kOf_some]
      | _ => rfl
    | _ => rfl
  | _ => rfl
theorem kGeq_eq (x y : Value) (h : HpT) (k : Kt R) : kGeq x y h k = kOf (vGeq x y h) k := by
  cases x with
  | int kk a =>
    cases kk with
    | i64 =>
      cases y with
      | int k2 b => cases k2 <;> first | rfl | simp [kGeq, vGeq, cI, kB_eq, rB_eq, kOf_some]
      | _ => rfl
    | _ => rfl
  | _ => rfl
theorem kEql_eq (x y : Value) (h : HpT) (k : Kt R) : kEql x y h k = kOf (vEql x y h) k := by
  cases x with
  | int kk a =>
    cases kk with
    | i64 =>
      cases y with
      | int k2 b => cases k2 <;> first | rfl | simp [kEql, vEql, cI, kB_eq, rB_eq, kOf_some]
      | _ => rfl
    | _ => rfl
  | _ => rfl
theorem kNeq_eq (x y : Value) (h : HpT) (k : Kt R) : kNeq x y h k = kOf (vNeq x y h) k := by
  cases x with
  | int kk a =>
    cases kk with
    | i64 =>
      cases y with
      | int k2 b => cases k2 <;> first | rfl | simp [kNeq, vNeq, cI, kB_eq, rB_eq, kOf_some]
      | _ => rfl
    | _ => rfl
  | _ => rfl
theorem kInt_eq (op : BinOp) (x y : Value) (h : HpT) (k : Kt R) : kInt op x y h k = kOf (vIntS op x y h) k := by
  cases op with
  | add => exact kAdd_eq x y h k
  | sub => exact kSub_eq x y h k
  | lss => exact kLss_eq x y h k
  | gtr => exact kGtr_eq x y h k
  | leq => exact kLeq_eq x y h k
  | geq => exact kGeq_eq x y h k
  | eql => exact kEql_eq x y h k
  | neq => exact kNeq_eq x y h k
  | _ => rfl

def kNil (x : Value) (h : HpT) (k : Kt R) : Option R := cP x none fun b o s => k (.pointer (some ⟨b, o, s⟩)) h
theorem kNil_eq (x : Value) (h : HpT) (k : Kt R) : kNil x h k = kOf (vNil x h) k := by
  cases x with
  | pointer a => cases a <;> simp [kNil, vNil, cP, kOf_some, kOf_none]
  | _ => rfl
def kFld (off : Nat) (x : Value) (h : HpT) (k : Kt R) : Option R := cP x none fun b o _ => fNat (Nat.add o off) fun o => k (.pointer (some ⟨b, o, none⟩)) h
theorem kFld_eq (off : Nat) (x : Value) (h : HpT) (k : Kt R) : kFld off x h k = kOf (vFld off x h) k := by
  cases x with
  | pointer a => cases a with
    | none => rfl
    | some a => obtain ⟨b, o, s⟩ := a; simp [kFld, vFld, cP, fNat_eq, kOf_some, kOf_none]
  | _ => rfl
def kIdx (sz : Nat) (x ix : Value) (h : HpT) (k : Kt R) : Option R := cS x none fun b o _ len _ => cN ix none fun i => i.casesOn (fun i => (Nat.blt i len).casesOn none (fNat (Nat.add o (Nat.mul i sz)) fun o => k (.pointer (some ⟨b, o, none⟩)) h)) (fun _ => none)
theorem kIdx_eq (sz : Nat) (x ix : Value) (h : HpT) (k : Kt R) : kIdx sz x ix h k = kOf (vIdx sz x ix h) k := by
  cases x with
  | slice a len cap =>
    cases a with
    | none => rfl
    | some a =>
      obtain ⟨b, o, s⟩ := a
      cases ix with
      | int kk i =>
        cases i with
        | ofNat i =>
          simp only [kIdx, vIdx, cS, cN]
          cases Nat.blt i len <;> simp [fNat_eq, kOf_some, kOf_none]
        | negSucc i => rfl
      | _ => rfl
  | _ => rfl
def kLd (x : Value) (h : HpT) (k : Kt R) : Option R := cP x none fun b o _ => (hcell h b o).casesOn none fun v => k v h
theorem kLd_eq (x : Value) (h : HpT) (k : Kt R) : kLd x h k = kOf (vLd x h) k := by
  cases x with
  | pointer a =>
    cases a with
    | none => rfl
    | some a =>
      obtain ⟨b, o, s⟩ := a
      simp only [kLd, vLd, cP]
      cases hcell h b o <;> simp [kOf_some, kOf_none]
  | _ => rfl
def hsetK (h : HpT) (b : Nat) (x : Option (List Value)) (k : HpT → Option R) : Option R :=
  h.casesOn fun n t o => bif Nat.ble b 32767 then tp5 t b x fun t => k ⟨n, t, o⟩ else k ⟨n, t, fun b' => if b' = b then x else o b'⟩
theorem hsetK_eq (h : HpT) (b : Nat) (x : Option (List Value)) (k : HpT → Option R) : hsetK h b x k = k (hset h b x) := by
  obtain ⟨n, t, o⟩ := h
  simp only [hsetK, hset, tp5_eq]
  cases Nat.ble b 32767 <;> rfl
def fFlat {R : Type} (x : Value) (k : Value → Option R) : Option R := x.casesOn (fun a => k (.bool a)) (fun a b => k (.int a b)) (fun a b => k (.float a b)) (fun a b c => k (.complex a b c)) (fun a => k (.string a)) (fun a => k (.pointer a)) (fun a b c => k (.slice a b c)) (fun a => k (.map a)) (fun a => k (.chan a)) (fun a b c => k (.func a b c)) (k .nilFunc) (fun a b => k (.iface a b)) (k .nilIface) (fun _ => none) (fun _ => none)
def kSt (ro : Nat) (p x : Value) (h : HpT) (k : Kt R) : Option R := cP p none fun b o _ => bif Nat.blt b ro then none else fFlat x fun x =>
  bif Nat.blt b h.n then (hblk h b).casesOn none fun l => (nthS l o).casesOn none fun _ => lput l o x fun l => hsetK h b (some l) fun h => k undef h else none
theorem kSt_eq (ro : Nat) (p x : Value) (h : HpT) (k : Kt R) : kSt ro p x h k = kOf (vSt ro p x h) k := by
  have key : ∀ b o x, (bif Nat.blt b h.n then (hblk h b).casesOn none fun l => (nthS l o).casesOn none fun _ => lput l o x fun l => hsetK h b (some l) fun h => k undef h else none) = kOf (hst h b o x) k := by
    intro b o x
    unfold hst
    cases Nat.blt b h.n with
    | false => rfl
    | true =>
      simp only [cond_true]
      cases hblk h b with
      | none => rfl
      | some l =>
        simp only
        cases nthS l o with
        | none => rfl
        | some y => simp only [lput_eq, hsetK_eq, kOf_some]
  cases p with
  | pointer a =>
    cases a with
    | none => rfl
    | some a =>
      obtain ⟨b, o, s⟩ := a
      simp only [kSt, vSt, cP]
      cases Nat.blt b ro with
      | true => rfl
      | false =>
        simp only [cond_false]
        cases x <;> first | rfl | exact key b o _
  | _ => rfl
def kLenSl (x : Value) (h : HpT) (k : Kt R) : Option R := cZ x none fun n => k (.int .i64 (.ofNat n)) h
theorem kLenSl_eq (x : Value) (h : HpT) (k : Kt R) : kLenSl x h k = kOf (vLenSl x h) k := by
  cases x <;> simp [kLenSl, vLenSl, cZ, kOf_some, kOf_none]
def kLenStr (x : Value) (h : HpT) (k : Kt R) : Option R := cL x none fun l => fNat l.length fun n => k (.int .i64 (.ofNat n)) h
theorem kLenStr_eq (x : Value) (h : HpT) (k : Kt R) : kLenStr x h k = kOf (vLenStr x h) k := by
  cases x with
  | string s => obtain ⟨⟨l⟩⟩ := s; simp only [kLenStr, vLenStr, cL, fNat_eq, kOf_some]; rfl
  | _ => rfl
def kExt (i : Nat) (x : Value) (h : HpT) (k : Kt R) : Option R := match x with
  | .tuple ⟨l⟩ => (nth l i).casesOn none fun v => k v h
  | _ => none
theorem kExt_eq (i : Nat) (x : Value) (h : HpT) (k : Kt R) : kExt i x h k = kOf (vExt i x h) k := by
  cases x with
  | tuple l =>
    obtain ⟨l⟩ := l
    simp only [kExt, vExt]
    cases nth l i <;> simp [kOf_some, kOf_none]
  | _ => rfl
theorem ba_get (l : List UInt8) (i : Nat) : (⟨⟨l⟩⟩ : ByteArray)[i]? = l[i]? := by
  by_cases h : i < l.length
  · rw [getElem?_pos (⟨⟨l⟩⟩ : ByteArray) i h, List.getElem?_eq_getElem h]
    rfl
  · rw [getElem?_neg (⟨⟨l⟩⟩ : ByteArray) i h, List.getElem?_eq_none (by omega)]
def vIdxStr (x ix : Value) (h : HpT) : Option (Value × HpT) := match x with
  | .string ⟨⟨l⟩⟩ => (match ix with
    | .int _ (.ofNat i) => (match nthS l i with | some b => fNat b.toNat fun n => some (.int .u8 (.ofNat n), h) | none => none)
    | _ => none)
  | _ => none
def kIdxStr (x ix : Value) (h : HpT) (k : Kt R) : Option R := cL x none fun l => cN ix none fun i => i.casesOn (fun i => (nthS l i).casesOn none fun b => fNat b.toNat fun n => k (.int .u8 (.ofNat n)) h) (fun _ => none)
theorem kIdxStr_eq (x ix : Value) (h : HpT) (k : Kt R) : kIdxStr x ix h k = kOf (vIdxStr x ix h) k := by
  cases x with
  | string s =>
    obtain ⟨⟨l⟩⟩ := s
    cases ix with
    | int kk i =>
      cases i with
      | ofNat i =>
        simp only [kIdxStr, vIdxStr, cL, cN]
        cases nthS l i <;> simp [fNat_eq, kOf_some, kOf_none]
      | negSucc i => rfl
    | _ => rfl
  | _ => rfl
def cA {R : Type} (x : Value) (fb : R) (f : List Value → R) : R := x.casesOn (fun _ => fb) (fun _ _ => fb) (fun _ _ => fb) (fun _ _ _ => fb) (fun _ => fb) (fun _ => fb) (fun _ _ _ => fb) (fun _ => fb) (fun _ => fb) (fun _ _ _ => fb) fb (fun _ _ => fb) fb (fun c => c.casesOn fun l => f l) (fun _ => fb)
def kFieldS (off : Nat) (x : Value) (h : HpT) (k : Kt R) : Option R := cA x none fun l => (nth l off).casesOn none fun v => k v h
theorem kFieldS_le {off : Nat} {x : Value} {h : HpT} {k : Kt R} {r : R} {c : CallT HpT} (hv : kFieldS off x h k = some r) : ∃ v h', (aFieldS off (.const x) : ActT HpT) c (fun _ => undef) h = some (v, h') ∧ k v h' = some r := by
  cases x with
  | agg l =>
    obtain ⟨l⟩ := l
    simp only [kFieldS, cA] at hv
    rw [nth_eq] at hv
    cases hq : l[off]? with
    | none => rw [hq] at hv; simp at hv
    | some v =>
      rw [hq] at hv
      exact ⟨v, h, by simp [aFieldS, ev, hq], hv⟩
  | _ => simp [kFieldS, cA] at hv
/-- A new block. -/
def newC (h : HpT) (cs : List Value) (k : HpT → Option R) : Option R := (newQ h cs).casesOn fun n t o => k ⟨n, t, o⟩
theorem newC_eq (h : HpT) (cs : List Value) (k : HpT → Option R) : newC h cs k = k (tO.new h cs) := by
  unfold newC
  rw [newQ_eq]
def kNew (cs : List Value) (h : HpT) (k : Kt R) : Option R := newC h cs fun h' => k (.pointer (some ⟨h.n, 0, none⟩)) h'
theorem kNew_le {cs : List Value} {h : HpT} {k : Kt R} {r : R} {c : CallT HpT} (hv : kNew cs h k = some r) : ∃ v h', (aNew tO cs : ActT HpT) c (fun _ => undef) h = some (v, h') ∧ k v h' = some r := by
  unfold kNew at hv
  rw [newC_eq] at hv
  exact ⟨_, _, rfl, hv⟩
def kBox (x : Value) (h : HpT) (k : Kt R) : Option R := celK x fun cs => newC h cs fun h' => k (.pointer (some ⟨h.n, 0, none⟩)) h'
theorem kBox_le {x : Value} {h : HpT} {k : Kt R} {r : R} {c : CallT HpT} (hv : kBox x h k = some r) : ∃ v h', (aBox tO (.const x) : ActT HpT) c (fun _ => undef) h = some (v, h') ∧ k v h' = some r := by
  obtain ⟨h1, h2⟩ := celK_le hv
  rw [newC_eq] at h2
  refine ⟨_, _, ?_, h2⟩
  simp only [aBox, ev, h1]
  rfl
def kBuild (zs : Array Value) (ps : List (Nat × Nat)) (parts : List (Nat × Value)) (h : HpT) (k : Kt R) : Option R := filK (fun i => nth ps i) parts zs.toList fun l => k (.agg ⟨l⟩) h
theorem kBuild_le {zs : Array Value} {ps : List (Nat × Nat)} {parts : List (Nat × Value)} {h : HpT} {k : Kt R} {r : R} {c : CallT HpT} (hv : kBuild zs ps parts h k = some r) : ∃ v h', (aBuild zs ps (parts.map fun p => (p.1, .const p.2)) : ActT HpT) c (fun _ => undef) h = some (v, h') ∧ k v h' = some r := by
  obtain ⟨h1, l', h2, h3⟩ := filK_le hv
  have e : (fun i => nth ps i) = (ps[·]?) := by funext i; exact nth_eq ps i
  rw [e] at h2
  refine ⟨_, _, ?_, h3⟩
  have e2 : (parts.map fun p => (p.1, Operand.const p.2)).all (fun p => !isTup (ev (fun _ => undef) p.2)) = parts.all fun p => !isTup p.2 := by
    rw [List.all_map]; rfl
  have e3 : (parts.map fun p => (p.1, Operand.const p.2)).map (fun p => (p.1, ev (fun _ => undef) p.2)) = parts := by
    rw [List.map_map]
    exact List.map_id'' (fun p => rfl) parts
  have h2' : Instr.fill (ps[·]?) zs parts = some ⟨l'⟩ := h2
  unfold aBuild
  rw [e2, if_pos h1, e3, h2']
  rfl
def kMkSl (sz len : Nat) (zs : Array Value) (parts : List (Nat × Value)) (h : HpT) (k : Kt R) : Option R := filK (fun j => some (Nat.mul j sz, sz)) parts (rangeA zs (Nat.mul len sz)) fun l => newC h l fun h' => k (.slice (some ⟨h.n, 0, some sz⟩) len (Nat.succ len)) h'
theorem kMkSl_le {sz len : Nat} {zs : Array Value} {parts : List (Nat × Value)} {h : HpT} {k : Kt R} {r : R} {c : CallT HpT} (hv : kMkSl sz len zs parts h k = some r) : ∃ v h', (aMkSl tO sz len zs (parts.map fun p => (p.1, .const p.2)) : ActT HpT) c (fun _ => undef) h = some (v, h') ∧ k v h' = some r := by
  obtain ⟨h1, l', h2, h3⟩ := filK_le hv
  rw [newC_eq] at h3
  refine ⟨_, _, ?_, h3⟩
  have e2 : (parts.map fun p => (p.1, Operand.const p.2)).all (fun p => !isTup (ev (fun _ => undef) p.2)) = parts.all fun p => !isTup p.2 := by
    rw [List.all_map]; rfl
  have e3 : (parts.map fun p => (p.1, Operand.const p.2)).map (fun p => (p.1, ev (fun _ => undef) p.2)) = parts := by
    rw [List.map_map]
    exact List.map_id'' (fun p => rfl) parts
  have h2' : Instr.fill (fun j => some (j * sz, sz)) (rangeA zs (len * sz)).toArray parts = some ⟨l'⟩ := h2
  unfold aMkSl
  rw [e2, if_pos h1, e3, h2']
  rfl
def kIf (v : Value) (w : Bool) (f : Kt R → Option R) (h : HpT) (k : Kt R) : Option R := cB v (k undef h) fun b => w.casesOn (b.casesOn (f k) (k undef h)) (b.casesOn (k undef h) (f k))
theorem kIf_true {v : Value} {w : Bool} (hb : isB v w = true) (f : Kt R → Option R) (h : HpT) (k : Kt R) : kIf v w f h k = f k := by
  cases v with
  | bool b => cases b <;> cases w <;> first | rfl | simp [isB] at hb
  | _ => simp [isB] at hb
theorem kIf_false {v : Value} {w : Bool} (hb : isB v w = false) (f : Kt R → Option R) (h : HpT) (k : Kt R) : kIf v w f h k = k undef h := by
  cases v with
  | bool b => cases b <;> cases w <;> first | rfl | simp [isB] at hb
  | _ => rfl
def kPick (c a b : Value) (h : HpT) (k : Kt R) : Option R := cB c none fun q => q.casesOn (k b h) (k a h)
theorem kPick_le {c a b : Value} {h : HpT} {k : Kt R} {r : R} {cl : CallT HpT} (hv : kPick c a b h k = some r) : ∃ v h', (aPick (.const c) (.const a) (.const b) : ActT HpT) cl (fun _ => undef) h = some (v, h') ∧ k v h' = some r := by
  cases c with
  | bool q => cases q with
    | false => exact ⟨b, h, rfl, hv⟩
    | true => exact ⟨a, h, rfl, hv⟩
  | _ => simp [kPick, cB] at hv
def kNot (x : Value) (h : HpT) (k : Kt R) : Option R := cB x none fun q => q.casesOn (k (.bool true) h) (k (.bool false) h)
theorem kNot_le {x : Value} {h : HpT} {k : Kt R} {r : R} {cl : CallT HpT} (hv : kNot x h k = some r) : ∃ v h', (aUn .not (.const x) : ActT HpT) cl (fun _ => undef) h = some (v, h') ∧ k v h' = some r := by
  cases x with
  | bool q => cases q with
    | false => exact ⟨_, h, rfl, hv⟩
    | true => exact ⟨_, h, rfl, hv⟩
  | _ => simp [kNot, cB] at hv
def cQ {R : Type} (x : Value) (fb : R) (f : Option Addr → R) : R := x.casesOn (fun _ => fb) (fun _ _ => fb) (fun _ _ => fb) (fun _ _ _ => fb) (fun _ => fb) (fun a => f a) (fun _ _ _ => fb) (fun _ => fb) (fun _ => fb) (fun _ _ _ => fb) fb (fun _ _ => fb) fb (fun _ => fb) (fun _ => fb)
def kPtrNil (neg : Bool) (x y : Value) (h : HpT) (k : Kt R) : Option R := cQ x none fun a => cQ y none fun b => a.casesOn (b.casesOn (kB (!neg) h k) fun _ => kB neg h k) fun _ => b.casesOn (kB neg h k) fun _ => none
theorem kPtrNil_le {neg : Bool} {x y : Value} {h : HpT} {k : Kt R} {r : R} {cl : CallT HpT} (hv : kPtrNil neg x y h k = some r) : ∃ v h', (aPtrNil neg (.const x) (.const y) : ActT HpT) cl (fun _ => undef) h = some (v, h') ∧ k v h' = some r := by
  cases x with
  | pointer a =>
    cases y with
    | pointer b =>
      cases a <;> cases b <;> simp only [kPtrNil, cQ, kB_eq] at hv <;> first | (exact ⟨_, h, rfl, by cases neg <;> exact hv⟩) | simp at hv
    | _ => simp [kPtrNil, cQ] at hv
  | _ => simp [kPtrNil, cQ] at hv
def kConv (x : Value) (h : HpT) (k : Kt R) : Option R := cN x none fun n => kI (w64 n) h k
theorem kConv_le {x : Value} {h : HpT} {k : Kt R} {r : R} {cl : CallT HpT} (hv : kConv x h k = some r) : ∃ v h', (aConv .i64 (.const x) : ActT HpT) cl (fun _ => undef) h = some (v, h') ∧ k v h' = some r := by
  cases x with
  | int kk n =>
    simp only [kConv, cN, kI_eq, w64_eq] at hv
    exact ⟨_, h, rfl, hv⟩
  | _ => simp [kConv, cN] at hv
/-- An operation of no make of its own; its operands are constants. -/
def kAny (a : ActT HpT) (call : CallT HpT) (h : HpT) (k : Kt R) : Option R := match a call (fun _ => undef) h with
  | some (v, h') => fAny v fun v => h'.casesOn fun n b o => k v ⟨n, b, o⟩
  | none => none
theorem kAny_le {a : ActT HpT} {call : CallT HpT} {h : HpT} {k : Kt R} {x : R} (hv : kAny a call h k = some x) : ∃ v h', a call (fun _ => undef) h = some (v, h') ∧ k v h' = some x := by
  unfold kAny at hv
  split at hv
  · rename_i v h' e
    rw [fAny_eq] at hv
    exact ⟨v, h', e, by cases h'; exact hv⟩
  · simp at hv

variable (P : Program) (ro : Nat)
def actK (op : Op) (ρ : Operand → Value) (mv : Bool) (call : CallT HpT) (h : HpT) (k : Kt R) : Option R :=
  let any : Option R := match mapOp (fun x => .const (ρ x)) op with
    | some op => kAny (actOf tO P ro op) call h k
    | none => none
  match op with
  | .move x | .assign x => bif mv then fShal (ρ x) fun v => k v h else k (ρ x) h
  | .nilCheck x => kNil (ρ x) h k
  | .binOp o t x y _ =>
    match o with
    | .shl | .shr => any
    | _ =>
      match P.underlying t with
      | some (.int _) => kInt o (ρ x) (ρ y) h k
      | some (.pointer _) => (match o with | .eql => kPtrNil false (ρ x) (ρ y) h k | .neq => kPtrNil true (ρ x) (ρ y) h k | _ => any)
      | _ => any
  | .fieldAddr s x f =>
    match P.underlying s with
    | some (.struct fs) => match fs[f]? with
      | some fd => match P.info? fd.type with
        | some i => if i.size = 0 then any else kFld fd.offset (ρ x) h k
        | none => any
      | none => any
    | _ => any
  | .indexAddr t x ix =>
    match P.underlying t with
    | some (.slice e) => match P.info? e with
      | some i => kIdx i.size (ρ x) (ρ ix) h k
      | none => any
    | _ => any
  | .index t x ix =>
    match P.underlying t with
    | some .string => kIdxStr (ρ x) (ρ ix) h k
    | _ => any
  | .field t x f =>
    match P.underlying t with
    | some (.struct fs) => match fs[f]? with
      | some fd => match isAggT P fd.type, P.info? fd.type with
        | some false, some _ => kFieldS fd.offset (ρ x) h k
        | _, _ => any
      | none => any
    | _ => any
  | .alloc e =>
    match P.info? e with
    | some i => match i.zero with
      | some z => if zeroOk z then kNew z.cells.toList h k else any
      | none => any
    | none => any
  | .box _ x => kBox (ρ x) h k
  | .pick c a b => kPick (ρ c) (ρ a) (ρ b) h k
  | .unOp o _ x => (match o with | .not => kNot (ρ x) h k | _ => any)
  | .convert s d x =>
    match P.underlying s, P.underlying d with
    | some (.int _), some (.int .i64) => kConv (ρ x) h k
    | _, _ => any
  | .build t parts =>
    match P.info? t, P.underlying t with
    | some i, some (.struct fs) =>
      match i.zero, placesA P fs.toList with
      | some z, some ps => if zeroOk z then kBuild z.cells ps (parts.toList.map fun p => (p.1, ρ p.2)) h k else any
      | _, _ => any
    | _, _ => any
  | .buildSlice t len parts =>
    match P.underlying t with
    | some (.slice e) =>
      match P.info? e with
      | some i => match i.zero with
        | some z => if len * i.size > 2 ^ 24 ∨ zeroOk z = false ∨ z.cells.size = 0 then any else kMkSl i.size len z.cells (parts.toList.map fun p => (p.1, ρ p.2)) h k
        | none => any
      | none => any
    | _ => any
  | .load t a =>
    match isAggT P t, P.info? t with
    | some false, some _ => kLd (ρ a) h k
    | some true, some i => kOf (vLdN i.size (ρ a) h) k
    | _, _ => any
  | .store t a x =>
    match P.info? t with
    | some i => if i.size = 1 then kSt ro (ρ a) (ρ x) h k else any
    | none => any
  | .extract x i => kExt i (ρ x) h k
  | .call { callee := .builtin .len, args, argTypes } =>
    match argTypes.toList, args.toList with
    | t :: _, x :: _ =>
      match P.underlying t with
      | some .string => kLenStr (ρ x) h k
      | some (.slice _) => kLenSl (ρ x) h k
      | _ => any
    | _, _ => any
  | .call { callee := .builtin .append, args, argTypes } =>
    match argTypes.toList, args.toList with
    | [t, u], [x, y] =>
      if t = u then
        match P.underlying t with
        | some (.slice e) => match P.info? e with
          | some i => if (i.zero.map fun z => z.cells.size) = some i.size then kOf (vApp ro i.size i.bytes (ρ x) (ρ y) h) k else any
          | none => any
        | _ => any
      else any
    | _, _ => any
  | .call { callee := .value (.func f), args, .. } => kOf (call f (args.toList.map ρ) h) k
  | _ => any
end

section
variable {R : Type} {P : Program} {ro : Nat} {cs c : CallT HpT}

theorem any_le (hc : CallLe cs c) {op : Op} {ρ : Operand → Value} {h : HpT} {k : Kt R} {r : R}
    (hv : (match mapOp (fun x => .const (ρ x)) op with | some op => kAny (actOf tO P ro op) cs h k | none => none) = some r) : ∃ v h', opA P tO ro c ρ op h = some (v, h') ∧ k v h' = some r := by
  cases hm : mapOp (fun x => .const (ρ x)) op with
  | none => rw [hm] at hv; simp at hv
  | some op' =>
    rw [hm] at hv
    obtain ⟨v, h', ha, hk⟩ := kAny_le hv
    have h1 := act_sound (t := #[]) (P := P) (O := tO) (ro := ro) (call := c) (env := fun i => evalT #[] (.tmp i)) (op := op') (h := h) (r := (v, h')) (fun x _ => by cases x <;> rfl) (by
      have : (fun i => evalT #[] (.tmp i)) = fun _ => undef := by funext i; simp [evalT]
      rw [this]
      exact actOf_le hc ha)
    rw [opA_map (fun v => rfl) hm] at h1
    exact ⟨v, h', h1, hk⟩

/-- .. by way of the operation with its operands constants. -/
theorem by_act (hc : CallLe cs c) {op : Op} {ρ : Operand → Value} {h : HpT} {k : Kt R} {r : R} {q : Option (Value × HpT)} (hv : kOf q k = some r) (he : ∀ v h', q = some (v, h') → opA P tO ro c ρ op h = some (v, h')) : ∃ v h', opA P tO ro c ρ op h = some (v, h') ∧ k v h' = some r := by
  obtain ⟨v, h', h1, h2⟩ := kOf_le hv
  exact ⟨v, h', he v h' h1, h2⟩
end
end Go.Vm
