/-
  Always, run by the kernel. Own work.
-/
import Derived.Test.YtimdkminagnhgabGreatDoorVwP
namespace Go.Proofs.YtimdkminagnhgabGreatDoor
open Go.Vm Go.Proofs
set_option linter.unusedSimpArgs false
set_option linter.unusedVariables false
set_option maxRecDepth 1000000

theorem run3 (a b d : Int) : (callS (tab Tryz.prog) 100000 60 3 [.int .i64 a, .int .i64 b, .int .i64 d] hp0).map (·.1) = some (.bool true) := by kernel_rfl
theorem law3 : LawI 3 := fun a b d _ _ _ c C => ran (run3 a b d) c C
end Go.Proofs.YtimdkminagnhgabGreatDoor
