/-
  pick, of whatever number. Own work.
-/
import Derived.Test.YtimdkminagnhgaaGreatDoorVwB
import Derived.Test.YtimdkminagnhgaaGreatDoorLitP
namespace Go.Proofs.YtimdkminagnhgaaGreatDoor
open Go.Vm Go.Proofs
set_option linter.unusedSimpArgs false
set_option linter.unusedVariables false

theorem wrap_id {x : Int} (h1 : -9223372036854775808 ≤ x) (h2 : x ≤ 9223372036854775807) : IntKind.i64.wrap x = x := by
  simp only [IntKind.wrap, show IntKind.i64.bits = 64 from rfl, show IntKind.i64.signed = true from rfl, Bool.true_and, decide_eq_true_eq, show (2 : Int) ^ 64 = 18446744073709551616 from rfl, show (2 : Int) ^ (64 - 1) = 9223372036854775808 from rfl]
  split <;> omega

section
variable {H : Type} {O : HI H} {ro : Nat} {c : CallT H}
theorem iA_add (k : IntKind) (a b : Int) : intA .add k a b = some (.int k (k.wrap (a + b))) := rfl
theorem iA_lss (k : IntKind) (a b : Int) : intA .lss k a b = some (.bool (decide (a < b))) := rfl
theorem upd_get (t : Env) (d : Nat) (v : Value) (i : Nat) : upd t d v i = if i = d then v else t i := rfl
theorem okc_some {e : Exit} {t : Env} {g : H} {Q : Exit → Env → H → Prop} : okc (some (e, (t, g))) Q = Q e t g := rfl
theorem pick_b (C : Lim Tryz.prog O ro okF c) (a : Int) (ha : I64 a) (n : Nat) (hn : 0 < n) : ∃ k : Nat, k < n ∧ ∀ h, c 33 [.int .i64 a, .int .i64 (n : Nat)] h = some (.int .i64 (k : Nat), h) := by
  obtain ⟨ha1, ha2⟩ := ha
  have key : ∀ x : Int, 0 ≤ x → ∃ k : Nat, k < n ∧ intA .rem .i64 x (n : Int) = some (.int .i64 (k : Int)) := by
    intro x hx
    refine ⟨x.toNat % n, Nat.mod_lt _ hn, ?_⟩
    have hb : (n : Int) ≠ 0 := by omega
    obtain ⟨m, rfl⟩ : ∃ m : Nat, x = m := ⟨x.toNat, by omega⟩
    simp only [intA, if_neg hb, Int.ofNat_tmod, Int.toNat_natCast]
  by_cases h0 : a < 0
  · have w1 : IntKind.i64.wrap (a + 1) = a + 1 := wrap_id (by omega) (by omega)
    have w2 : IntKind.i64.wrap (0 - (a + 1)) = -(a + 1) := by rw [wrap_id (by omega) (by omega)]; omega
    have w2' : IntKind.i64.wrap (-(a + 1)) = -(a + 1) := wrap_id (by omega) (by omega)
    obtain ⟨k, hk, e⟩ := key (-(a + 1)) (by omega)
    refine ⟨k, hk, fun h => C.eq (F33_fn O ro) rfl rfl (okE.flat (fun _ => rfl) ?_)⟩
    generalize hx : -(a + 1) = x at *
    simp [F33, R33_0, R33_1, R33_2, R33_3, cSeq, cReg, reg, to, aMove, aInt, aUn, unA, ev, upd_get, envOf, cIf, cRet, cSkip, okc_some, resE, resLE, rvE, iA_add, iA_lss, isTup, h0, w1, w2, w2', hx, e]
  · obtain ⟨k, hk, e⟩ := key a (by omega)
    refine ⟨k, hk, fun h => C.eq (F33_fn O ro) rfl rfl (okE.flat (fun _ => rfl) ?_)⟩
    simp [F33, R33_0, R33_1, R33_3, cSeq, cReg, reg, to, aMove, aInt, aUn, unA, ev, upd_get, envOf, cIf, cRet, cSkip, okc_some, resE, resLE, rvE, iA_add, iA_lss, isTup, h0, e]
end

/-- The law's own calls, but for pick. -/
def csP (P : Program) (c : CallT HpT) (K n : Nat) : CallT HpT := fun f args h => (Nat.beq f 33).casesOn (callS (tab P) K n f args h) (c 33 args h)
theorem csP_le {c : CallT HpT} (C : Lim Tryz.prog tO 3 okF c) (K n : Nat) : CallLe (csP Tryz.prog c K n) c := by
  intro f args h r hr
  unfold csP at hr
  cases hb : Nat.beq f 33 with
  | true =>
    rw [hb] at hr
    have := Nat.eq_of_beq_eq_true hb
    subst this
    exact hr
  | false =>
    rw [hb] at hr
    exact callS_le tab_gd C K n _ _ _ _ hr

end Go.Proofs.YtimdkminagnhgaaGreatDoor
