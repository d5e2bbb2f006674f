/-
  Faults, run by the kernel. Own work.
-/
import Derived.Test.YtimdkminagnhgabGreatDoorVwP
namespace Go.Proofs.YtimdkminagnhgabGreatDoor
open Go.Vm Go.Proofs
set_option linter.unusedSimpArgs false
set_option linter.unusedVariables false
set_option maxRecDepth 1000000

def rk (k : Nat) (h : HpT) : Option (Value × HpT) := some (.int .i64 (k : Nat), h)
/-- faulty, what pick answers given. -/
def SR12_2X (q : HpT → Option (Value × HpT)) : RegS 2 := fun c t0 h0 =>
 kLenSl (g2_3 t0) h0 fun v4 h4 =>
 kOf (q h4) fun v5 h5 =>
 kIdx 3 (g2_3 t0) v5 h5 fun v6 h6 =>
 kOf (vLdN 3 v6 h6) fun v7 h7 =>
 kNew [.string ⟨#[]⟩, .int .i64 0, .int .i64 0] h7 fun v8 h8 =>
 p2_4 t0 v8 fun t1 =>
 kAny (aSt tO ro0 3 (.const v8) (.const v7)) c h8 fun _ h9 =>
 some (.normal, t1, h9)
def SF12X (q : HpT → Option (Value × HpT)) : CodeS 2 :=
 cSeqS (cRegS (SR12_0)) (cSeqS (cRegS (SR12_1)) (cSeqS (cRegS (SR12_2X q)) (cSeqS (cRegS (SR12_3)) (cSeqS (cRegS (SR12_4)) (cSeqS (cRegS (SR12_5)) (cSeqS (cSeqS (cRegS (SR12_6)) (cIfS g2_45 (cSeqS (cRegS (SR12_7)) (cRetS)) (cSkipS))) (cSeqS (cRegS (SR12_8)) (cRetS))))))))
def T12X (q : HpT → Option (Value × HpT)) : FnT := runG en2_1 (SF12X q) (resQ (qc (rT g2_2) qn))
theorem T12_X (c : CallT HpT) (K n : Nat) (a : Int) : T12 (csP Tryz.prog c 10000 60) 10000 [.int .i64 a] hp0 = T12X (fun h => c 22 [.int .i64 a, .int .i64 33] h) (csP Tryz.prog c 10000 60) 10000 [.int .i64 a] hp0 := by kernel_rfl
theorem run12_0 (c : CallT HpT) (a : Int) : (T12X (rk 0) (csP Tryz.prog c 10000 60) 10000 [.int .i64 a] hp0).map (·.1) = some (.bool true) := by kernel_rfl
theorem run12_1 (c : CallT HpT) (a : Int) : (T12X (rk 1) (csP Tryz.prog c 10000 60) 10000 [.int .i64 a] hp0).map (·.1) = some (.bool true) := by kernel_rfl
theorem run12_2 (c : CallT HpT) (a : Int) : (T12X (rk 2) (csP Tryz.prog c 10000 60) 10000 [.int .i64 a] hp0).map (·.1) = some (.bool true) := by kernel_rfl
theorem run12_3 (c : CallT HpT) (a : Int) : (T12X (rk 3) (csP Tryz.prog c 10000 60) 10000 [.int .i64 a] hp0).map (·.1) = some (.bool true) := by kernel_rfl
theorem run12_4 (c : CallT HpT) (a : Int) : (T12X (rk 4) (csP Tryz.prog c 10000 60) 10000 [.int .i64 a] hp0).map (·.1) = some (.bool true) := by kernel_rfl
theorem run12_5 (c : CallT HpT) (a : Int) : (T12X (rk 5) (csP Tryz.prog c 10000 60) 10000 [.int .i64 a] hp0).map (·.1) = some (.bool true) := by kernel_rfl
theorem run12_6 (c : CallT HpT) (a : Int) : (T12X (rk 6) (csP Tryz.prog c 10000 60) 10000 [.int .i64 a] hp0).map (·.1) = some (.bool true) := by kernel_rfl
theorem run12_7 (c : CallT HpT) (a : Int) : (T12X (rk 7) (csP Tryz.prog c 10000 60) 10000 [.int .i64 a] hp0).map (·.1) = some (.bool true) := by kernel_rfl
theorem run12_8 (c : CallT HpT) (a : Int) : (T12X (rk 8) (csP Tryz.prog c 10000 60) 10000 [.int .i64 a] hp0).map (·.1) = some (.bool true) := by kernel_rfl
theorem run12_9 (c : CallT HpT) (a : Int) : (T12X (rk 9) (csP Tryz.prog c 10000 60) 10000 [.int .i64 a] hp0).map (·.1) = some (.bool true) := by kernel_rfl
theorem run12_10 (c : CallT HpT) (a : Int) : (T12X (rk 10) (csP Tryz.prog c 10000 60) 10000 [.int .i64 a] hp0).map (·.1) = some (.bool true) := by kernel_rfl
theorem run12_11 (c : CallT HpT) (a : Int) : (T12X (rk 11) (csP Tryz.prog c 10000 60) 10000 [.int .i64 a] hp0).map (·.1) = some (.bool true) := by kernel_rfl
theorem run12_12 (c : CallT HpT) (a : Int) : (T12X (rk 12) (csP Tryz.prog c 10000 60) 10000 [.int .i64 a] hp0).map (·.1) = some (.bool true) := by kernel_rfl
theorem run12_13 (c : CallT HpT) (a : Int) : (T12X (rk 13) (csP Tryz.prog c 10000 60) 10000 [.int .i64 a] hp0).map (·.1) = some (.bool true) := by kernel_rfl
theorem run12_14 (c : CallT HpT) (a : Int) : (T12X (rk 14) (csP Tryz.prog c 10000 60) 10000 [.int .i64 a] hp0).map (·.1) = some (.bool true) := by kernel_rfl
theorem run12_15 (c : CallT HpT) (a : Int) : (T12X (rk 15) (csP Tryz.prog c 10000 60) 10000 [.int .i64 a] hp0).map (·.1) = some (.bool true) := by kernel_rfl
theorem run12_16 (c : CallT HpT) (a : Int) : (T12X (rk 16) (csP Tryz.prog c 10000 60) 10000 [.int .i64 a] hp0).map (·.1) = some (.bool true) := by kernel_rfl
theorem run12_17 (c : CallT HpT) (a : Int) : (T12X (rk 17) (csP Tryz.prog c 10000 60) 10000 [.int .i64 a] hp0).map (·.1) = some (.bool true) := by kernel_rfl
theorem run12_18 (c : CallT HpT) (a : Int) : (T12X (rk 18) (csP Tryz.prog c 10000 60) 10000 [.int .i64 a] hp0).map (·.1) = some (.bool true) := by kernel_rfl
theorem run12_19 (c : CallT HpT) (a : Int) : (T12X (rk 19) (csP Tryz.prog c 10000 60) 10000 [.int .i64 a] hp0).map (·.1) = some (.bool true) := by kernel_rfl
theorem run12_20 (c : CallT HpT) (a : Int) : (T12X (rk 20) (csP Tryz.prog c 10000 60) 10000 [.int .i64 a] hp0).map (·.1) = some (.bool true) := by kernel_rfl
theorem run12_21 (c : CallT HpT) (a : Int) : (T12X (rk 21) (csP Tryz.prog c 10000 60) 10000 [.int .i64 a] hp0).map (·.1) = some (.bool true) := by kernel_rfl
theorem run12_22 (c : CallT HpT) (a : Int) : (T12X (rk 22) (csP Tryz.prog c 10000 60) 10000 [.int .i64 a] hp0).map (·.1) = some (.bool true) := by kernel_rfl
theorem run12_23 (c : CallT HpT) (a : Int) : (T12X (rk 23) (csP Tryz.prog c 10000 60) 10000 [.int .i64 a] hp0).map (·.1) = some (.bool true) := by kernel_rfl
theorem run12_24 (c : CallT HpT) (a : Int) : (T12X (rk 24) (csP Tryz.prog c 10000 60) 10000 [.int .i64 a] hp0).map (·.1) = some (.bool true) := by kernel_rfl
theorem run12_25 (c : CallT HpT) (a : Int) : (T12X (rk 25) (csP Tryz.prog c 10000 60) 10000 [.int .i64 a] hp0).map (·.1) = some (.bool true) := by kernel_rfl
theorem run12_26 (c : CallT HpT) (a : Int) : (T12X (rk 26) (csP Tryz.prog c 10000 60) 10000 [.int .i64 a] hp0).map (·.1) = some (.bool true) := by kernel_rfl
theorem run12_27 (c : CallT HpT) (a : Int) : (T12X (rk 27) (csP Tryz.prog c 10000 60) 10000 [.int .i64 a] hp0).map (·.1) = some (.bool true) := by kernel_rfl
theorem run12_28 (c : CallT HpT) (a : Int) : (T12X (rk 28) (csP Tryz.prog c 10000 60) 10000 [.int .i64 a] hp0).map (·.1) = some (.bool true) := by kernel_rfl
theorem run12_29 (c : CallT HpT) (a : Int) : (T12X (rk 29) (csP Tryz.prog c 10000 60) 10000 [.int .i64 a] hp0).map (·.1) = some (.bool true) := by kernel_rfl
theorem run12_30 (c : CallT HpT) (a : Int) : (T12X (rk 30) (csP Tryz.prog c 10000 60) 10000 [.int .i64 a] hp0).map (·.1) = some (.bool true) := by kernel_rfl
theorem run12_31 (c : CallT HpT) (a : Int) : (T12X (rk 31) (csP Tryz.prog c 10000 60) 10000 [.int .i64 a] hp0).map (·.1) = some (.bool true) := by kernel_rfl
theorem run12_32 (c : CallT HpT) (a : Int) : (T12X (rk 32) (csP Tryz.prog c 10000 60) 10000 [.int .i64 a] hp0).map (·.1) = some (.bool true) := by kernel_rfl
theorem faulty_c (c : CallT HpT) (C : Lim Tryz.prog tO 3 okF c) (a : Int) (ha : I64 a) : ∃ h', c 12 [.int .i64 a] hp0 = some (.bool true, h') := by
  obtain ⟨k, hk, hp⟩ := pick_b C a ha 33 (by omega)
  have hq : (fun h => c 22 [.int .i64 a, .int .i64 33] h) = rk k := funext fun h => hp h
  have e : (T12X (rk k) (csP Tryz.prog c 10000 60) 10000 [.int .i64 a] hp0).map (·.1) = some (.bool true) := by
    match k, hk with
    | 0, _ => exact run12_0 c a
    | 1, _ => exact run12_1 c a
    | 2, _ => exact run12_2 c a
    | 3, _ => exact run12_3 c a
    | 4, _ => exact run12_4 c a
    | 5, _ => exact run12_5 c a
    | 6, _ => exact run12_6 c a
    | 7, _ => exact run12_7 c a
    | 8, _ => exact run12_8 c a
    | 9, _ => exact run12_9 c a
    | 10, _ => exact run12_10 c a
    | 11, _ => exact run12_11 c a
    | 12, _ => exact run12_12 c a
    | 13, _ => exact run12_13 c a
    | 14, _ => exact run12_14 c a
    | 15, _ => exact run12_15 c a
    | 16, _ => exact run12_16 c a
    | 17, _ => exact run12_17 c a
    | 18, _ => exact run12_18 c a
    | 19, _ => exact run12_19 c a
    | 20, _ => exact run12_20 c a
    | 21, _ => exact run12_21 c a
    | 22, _ => exact run12_22 c a
    | 23, _ => exact run12_23 c a
    | 24, _ => exact run12_24 c a
    | 25, _ => exact run12_25 c a
    | 26, _ => exact run12_26 c a
    | 27, _ => exact run12_27 c a
    | 28, _ => exact run12_28 c a
    | 29, _ => exact run12_29 c a
    | 30, _ => exact run12_30 c a
    | 31, _ => exact run12_31 c a
    | 32, _ => exact run12_32 c a
    | k + 33, h => omega
  have hx := T12_X c 10000 60 a
  rw [hq] at hx
  rw [← hx] at e
  cases hr : T12 (csP Tryz.prog c 10000 60) 10000 [.int .i64 a] hp0 with
  | none => rw [hr] at e; simp at e
  | some r =>
    obtain ⟨v, h'⟩ := r
    rw [hr] at e
    simp only [Option.map_some, Option.some.injEq] at e
    subst e
    exact ⟨h', T12_ok _ c C (csP_le C 10000 60) 10000 _ _ _ hr⟩
def SR6_1X (q : Option (Value × HpT)) : RegS 2 := fun c t0 h0 =>
 kOf q fun v2 h2 =>
 fShal v2 fun v3 =>
 p2_6 t0 v3 fun t1 =>
 some (.normal, t1, h2)
def T6X (q : Option (Value × HpT)) : FnT := runG en2_3 (cSeqS (cRegS (SR6_0)) (cSeqS (cRegS (SR6_1X q)) (cRetS))) (resQ (qc (rT g2_6) qn))
theorem T6_X (c : CallT HpT) (a b d : Int) : T6 c 1000 [.int .i64 a, .int .i64 b, .int .i64 d] hp0 = T6X (c 12 [.int .i64 a] hp0) c 1000 [.int .i64 a, .int .i64 b, .int .i64 d] hp0 := by kernel_rfl
theorem T6_R (c : CallT HpT) (a b d : Int) (h' : HpT) : T6X (some (.bool true, h')) c 1000 [.int .i64 a, .int .i64 b, .int .i64 d] hp0 = some (.bool true, h') := by
  cases h'
  kernel_rfl
theorem law6 : LawI 6 := by
  intro a b d ha hb hd c C
  obtain ⟨h', e⟩ := faulty_c c C a ha
  have hx := T6_X c a b d
  rw [e, T6_R] at hx
  exact ⟨h', T6_ok c c C (fun _ _ _ _ h => h) 1000 _ _ _ hx⟩
end Go.Proofs.YtimdkminagnhgabGreatDoor
