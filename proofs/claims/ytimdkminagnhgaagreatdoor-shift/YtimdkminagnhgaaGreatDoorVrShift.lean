/-
  Shift, run by the kernel. Own work.
-/
import Derived.Test.YtimdkminagnhgaaGreatDoorVwP
namespace Go.Proofs.YtimdkminagnhgaaGreatDoor
open Go.Vm Go.Proofs
set_option linter.unusedSimpArgs false
set_option linter.unusedVariables false
set_option maxRecDepth 1000000

/-- shifted, what pick answers given. -/
def SR20_1X (q : HpT → Option (Value × HpT)) : RegS 3 := fun c t0 h0 =>
 kOf (q h0) fun v2 h2 =>
 kAdd (.int .i64 1) v2 h2 fun v3 h3 =>
 fShal v3 fun v4 =>
 p3_3 t0 v4 fun t1 =>
 some (.normal, t1, h3)
def SF20X (q : HpT → Option (Value × HpT)) : CodeS 3 :=
 cSeqS (cRegS (SR20_0)) (cSeqS (cRegS (SR20_1X q)) (cSeqS (cRegS (SR20_2)) (cSeqS (cRegS (SR20_3)) (cSeqS (cSeqS (cRegS (SR20_4)) (cBlkS 0 (cLoopS (SW20_0)))) (cSeqS (cRegS (SR20_9)) (cSeqS (cRegS (SR20_10)) (cSeqS (cRegS (SR20_11)) (cSeqS (cSeqS (cRegS (SR20_12)) (cIfS g3_56 (cSeqS (cRegS (SR20_13)) (cRetS)) (cSkipS))) (cSeqS (cRegS (SR20_14)) (cRetS))))))))))
def T20X (q : HpT → Option (Value × HpT)) : FnT := runG en3_1 (SF20X q) (resQ (qc (rT g3_2) qn))
def rk (k : Nat) (h : HpT) : Option (Value × HpT) := some (.int .i64 (k : Nat), h)

theorem T20_X (c : CallT HpT) (K n : Nat) (a : Int) : T20 (csP Tryz.prog c K n) K [.int .i64 a] hp0 = T20X (fun h => c 33 [.int .i64 a, .int .i64 6] h) (csP Tryz.prog c K n) K [.int .i64 a] hp0 := by kernel_rfl

theorem run20_0 (c : CallT HpT) (a : Int) : (T20X (rk 0) (csP Tryz.prog c 100000 60) 100000 [.int .i64 a] hp0).map (·.1) = some (.bool true) := by kernel_rfl
theorem run20_1 (c : CallT HpT) (a : Int) : (T20X (rk 1) (csP Tryz.prog c 100000 60) 100000 [.int .i64 a] hp0).map (·.1) = some (.bool true) := by kernel_rfl
theorem run20_2 (c : CallT HpT) (a : Int) : (T20X (rk 2) (csP Tryz.prog c 100000 60) 100000 [.int .i64 a] hp0).map (·.1) = some (.bool true) := by kernel_rfl
theorem run20_3 (c : CallT HpT) (a : Int) : (T20X (rk 3) (csP Tryz.prog c 100000 60) 100000 [.int .i64 a] hp0).map (·.1) = some (.bool true) := by kernel_rfl
theorem run20_4 (c : CallT HpT) (a : Int) : (T20X (rk 4) (csP Tryz.prog c 100000 60) 100000 [.int .i64 a] hp0).map (·.1) = some (.bool true) := by kernel_rfl
theorem run20_5 (c : CallT HpT) (a : Int) : (T20X (rk 5) (csP Tryz.prog c 100000 60) 100000 [.int .i64 a] hp0).map (·.1) = some (.bool true) := by kernel_rfl
theorem shifted_c (c : CallT HpT) (C : Lim Tryz.prog tO 3 okF c) (a : Int) (ha : I64 a) : ∃ h', c 20 [.int .i64 a] hp0 = some (.bool true, h') := by
  obtain ⟨k, hk, hp⟩ := pick_b C a ha 6 (by omega)
  have hq : (fun h => c 33 [.int .i64 a, .int .i64 6] h) = rk k := funext fun h => hp h
  have e : (T20X (rk k) (csP Tryz.prog c 100000 60) 100000 [.int .i64 a] hp0).map (·.1) = some (.bool true) := by
    match k, hk with
    | 0, _ => exact run20_0 c a
    | 1, _ => exact run20_1 c a
    | 2, _ => exact run20_2 c a
    | 3, _ => exact run20_3 c a
    | 4, _ => exact run20_4 c a
    | 5, _ => exact run20_5 c a
    | k + 6, h => omega
  have hx := T20_X c 100000 60 a
  rw [hq] at hx
  rw [← hx] at e
  cases hr : T20 (csP Tryz.prog c 100000 60) 100000 [.int .i64 a] hp0 with
  | none => rw [hr] at e; simp at e
  | some r =>
    obtain ⟨v, h'⟩ := r
    rw [hr] at e
    simp only [Option.map_some, Option.some.injEq] at e
    subst e
    exact ⟨h', T20_ok _ c C (csP_le C 100000 60) 100000 _ _ _ hr⟩
def SR11_1X (q : Option (Value × HpT)) : RegS 2 := fun c t0 h0 =>
 kOf q fun v2 h2 =>
 fShal v2 fun v3 =>
 p2_6 t0 v3 fun t1 =>
 some (.normal, t1, h2)
def T11X (q : Option (Value × HpT)) : FnT := runG en2_3 (cSeqS (cRegS (SR11_0)) (cSeqS (cRegS (SR11_1X q)) (cRetS))) (resQ (qc (rT g2_6) qn))
theorem T11_X (c : CallT HpT) (a b d : Int) : T11 c 1000 [.int .i64 a, .int .i64 b, .int .i64 d] hp0 = T11X (c 20 [.int .i64 a] hp0) c 1000 [.int .i64 a, .int .i64 b, .int .i64 d] hp0 := by kernel_rfl
theorem T11_R (c : CallT HpT) (a b d : Int) (h' : HpT) : T11X (some (.bool true, h')) c 1000 [.int .i64 a, .int .i64 b, .int .i64 d] hp0 = some (.bool true, h') := by
  cases h'
  kernel_rfl
theorem law11 : LawI 11 := by
  intro a b d ha hb hd c C
  obtain ⟨h', e⟩ := shifted_c c C a ha
  have hx := T11_X c a b d
  rw [e, T11_R] at hx
  exact ⟨h', T11_ok c c C (fun _ _ _ _ h => h) 1000 _ _ _ hx⟩
end Go.Proofs.YtimdkminagnhgaaGreatDoor
