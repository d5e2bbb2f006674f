import Derived.Test.YtimdkminagnhgaaGreatDoorQ41
import Derived.KernelRfl
set_option linter.all false
namespace Go.Proofs.YtimdkminagnhgaaGreatDoor
open Go.Vm Go.Proofs Go.Ta
set_option maxRecDepth 100000
theorem cA1: chkA 1=true:=by kernel_rfl
theorem cA2: chkA 2=true:=by kernel_rfl
theorem cA3: chkA 3=true:=by kernel_rfl
theorem cA4: chkA 4=true:=by kernel_rfl
theorem cA5: chkA 5=true:=by kernel_rfl
theorem cA6: chkA 6=true:=by kernel_rfl
theorem cB10: chkB 1 0=true:=by kernel_rfl
theorem cC10: chkC 1 0=true:=by kernel_rfl
theorem cB20: chkB 2 0=true:=by kernel_rfl
theorem cC20: chkC 2 0=true:=by kernel_rfl
theorem cB21: chkB 2 1=true:=by kernel_rfl
theorem cC21: chkC 2 1=true:=by kernel_rfl
theorem cB30: chkB 3 0=true:=by kernel_rfl
theorem cC30: chkC 3 0=true:=by kernel_rfl
theorem cB31: chkB 3 1=true:=by kernel_rfl
theorem cC31: chkC 3 1=true:=by kernel_rfl
theorem cB32: chkB 3 2=true:=by kernel_rfl
theorem cC32: chkC 3 2=true:=by kernel_rfl
theorem cB40: chkB 4 0=true:=by kernel_rfl
theorem cC40: chkC 4 0=true:=by kernel_rfl
theorem cB41: chkB 4 1=true:=by kernel_rfl
theorem cC41: chkC 4 1=true:=by kernel_rfl
theorem cB42: chkB 4 2=true:=by kernel_rfl
theorem cC42: chkC 4 2=true:=by kernel_rfl
theorem cB43: chkB 4 3=true:=by kernel_rfl
theorem cC43: chkC 4 3=true:=by kernel_rfl
end Go.Proofs.YtimdkminagnhgaaGreatDoor
