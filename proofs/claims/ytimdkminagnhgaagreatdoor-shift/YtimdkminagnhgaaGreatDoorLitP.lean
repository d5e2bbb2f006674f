/-
  The program itself, function by function, as plain functions: printed by program off the loaded program; the kernel checks each. Own work.
-/
import Derived.Test.YtimdkminagnhgaaGreatDoorVmO
import Derived.Test.YtimdkminagnhgaaGreatDoorProg
import Derived.KernelRfl
namespace Go.Proofs.YtimdkminagnhgaaGreatDoor
open Go.Vm Go.Proofs
set_option linter.unusedVariables false
set_option maxRecDepth 100000
section
variable {H : Type}

/-- circheck/circhecksays.pick -/
def R33_0 (O : HI H) (P : Program) (ro : Nat) : List (StpT H) := [
    to 4 (aMove (.const (.int .i64 0)))]
def R33_1 (O : HI H) (P : Program) (ro : Nat) : List (StpT H) := [
    to 5 (aMove (.tmp 0)),
    to 6 (aInt .lss (.tmp 5) (.const (.int .i64 0)))]
def R33_2 (O : HI H) (P : Program) (ro : Nat) : List (StpT H) := [
    to 7 (aMove (.tmp 0)),
    to 8 (aInt .add (.tmp 7) (.const (.int .i64 1))),
    to 9 (aUn .neg (.tmp 8)),
    to 0 (aMove (.tmp 9))]
def R33_3 (O : HI H) (P : Program) (ro : Nat) : List (StpT H) := [
    to 10 (aMove (.tmp 0)),
    to 11 (aMove (.tmp 1)),
    to 12 (aInt .rem (.tmp 10) (.tmp 11)),
    to 4 (aMove (.tmp 12))]
def F33 (O : HI H) (P : Program) (ro : Nat) : CodeT H :=
  cSeq (cReg (R33_0 O P ro))
  (cSeq (cSeq (cReg (R33_1 O P ro))
  (cIf (.tmp 6) (cReg (R33_2 O P ro))
    (cSkip)))
  (cSeq (cReg (R33_3 O P ro))
  (cRet)))
theorem F33_fn (O : HI H) (ro : Nat) : Vm.Fn Tryz.prog O ro 33 (F33 O Tryz.prog ro) [ResultVar.tmp 4] Tryz.f33 :=
  ⟨Tryz.func33, by kernel_rfl, by kernel_rfl, by kernel_rfl, by kernel_rfl, by kernel_rfl⟩

end
end Go.Proofs.YtimdkminagnhgaaGreatDoor
