/-
  The card of Shift. Own work.
-/
import Derived.Test.YtimdkminagnhgaaGreatDoorVwN
import Derived.Test.YtimdkminagnhgaaGreatDoorVrShift
import Derived.Test.YtimdkminagnhgaaGreatDoorCards
import Derived.Test.YtimdkminagnhgaaGreatDoorTie
namespace Go.Proofs.YtimdkminagnhgaaGreatDoor
open Go.Vm Go.Proofs Go.RowKit Go.ChangeShapes Go.WideShapes Go.ChangeAt
set_option linter.unusedSimpArgs false
set_option linter.unusedVariables false
set_option maxRecDepth 100000

theorem shift_lifted (os : Os) (started : os.Started) (H : Type) (enc : TypeId × Value → H) (F : Stop.Interp) :
    ReturnsInHanded {} Tryz.checked os 11 .any ((OpenSpec.ofChange Rows.shiftSpec).preRow enc Tryz.prog Tryz.f11 Rows.shiftRow.domain false Rows.shiftRow.laid) (((OpenSpec.ofChange Rows.shiftSpec).at F).post enc Tryz.prog Tryz.f11 false true false false) := by
  obtain ⟨w0, h1, h2, h3, k0, k1, k2, k3, k4, k5, hL, hx⟩ := laid_world os
  refine returnsInHanded_of_row (C := Tryz.checked) (s := OpenSpec.ofChange Rows.shiftSpec) own_knob started (by kernel_rfl) Tryz.func11
    (witness_row_at (enc := enc) (C := Tryz.checked) false w0 #[.int .i64 0, .int .i64 0, .int .i64 0] h1 h2 h3 k2
      (OpenSpec.preRow_of_cond 8 (hx H enc) (by kernel_rfl) (fun k hk => by cases hk) (by kernel_rfl) hL)) ?_
  intro W base args ds gs before hval hW _ hcond _ hL' _ _
  exact contract3 (s := Rows.shiftSpec) Tryz.params11 (by kernel_rfl) rfl (fun _ _ _ _ => rfl) law11 H enc W base args ds gs before hval hW (tabs_of hL')
theorem shift_said : Rows.ShiftSaid :=
  OpenClaim.holds_of_cond 11 Tryz.f11 rfl rfl rfl rfl rfl rfl rfl ⟨rfl, rfl, rfl, rfl, rfl⟩ rfl rfl rfl rfl rfl (by kernel_rfl) Tryz.func11 (by kernel_rfl)
    (of_decide_eq_true (by kernel_rfl)) (by unfold Func.isWrapper; first | (rw [if_pos (by decide +kernel)]; kernel_rfl) | (rw [if_neg (by decide +kernel)]; exact ⟨rfl, rfl⟩))
    (fun os started H enc _ F => by rw [OpenClaim.pre_eq_preRow]; exact shift_lifted os started H enc F)
theorem shift_plain (f : FuncId) (fn : Func) (hf : Tryz.pinned.checked.prog.funcNamed Tryz.f11.name = some f) (hfn : Tryz.pinned.checked.prog.funcs[f]? = some fn) :
    false = Tryz.pinned.checked.prog.looks [] ∧ ∀ (j : Nat) t, fn.params[j]? = some t → Tryz.pinned.checked.prog.wantsStandIn t = false := by
  obtain rfl : f = 11 := Option.some.inj ((show Tryz.prog.funcNamed Tryz.f11.name = some 11 by kernel_rfl).symm.trans hf) |>.symm
  obtain rfl : fn = Tryz.f11 := (Option.some.inj (Tryz.func11.symm.trans hfn)).symm
  refine ⟨by kernel_rfl, fun j t ht => ?_⟩
  rw [Tryz.params11] at ht
  obtain rfl : t = 3 := by simpa using Array.mem_of_getElem? ht
  exact (show Tryz.prog.wantsStandIn 3 = false by kernel_rfl)
theorem shift_card : Rows.ShiftCardSaid :=
  Claim7.holds_tied_plain_at .later [] _ _ _ _ shift_said (fun _ h => by cases h) (by kernel_rfl) (fun _ h => by cases h) shift_row_tie rfl ⟨rfl, rfl⟩ (by kernel_rfl) rfl shift_plain (by kernel_rfl)

end Go.Proofs.YtimdkminagnhgaaGreatDoor
