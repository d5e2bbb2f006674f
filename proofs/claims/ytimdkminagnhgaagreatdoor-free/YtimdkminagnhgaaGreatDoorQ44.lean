import Derived.Test.YtimdkminagnhgaaGreatDoorQ41
import Derived.KernelRfl
set_option linter.all false
namespace Go.Proofs.YtimdkminagnhgaaGreatDoor
open Go.Vm Go.Proofs Go.Ta
set_option maxRecDepth 100000
theorem cB50: chkB 5 0=true:=by kernel_rfl
theorem cB51: chkB 5 1=true:=by kernel_rfl
theorem cB52: chkB 5 2=true:=by kernel_rfl
theorem cB53: chkB 5 3=true:=by kernel_rfl
theorem cB54: chkB 5 4=true:=by kernel_rfl
theorem cC50: chkC 5 0=true:=by kernel_rfl
theorem cC51: chkC 5 1=true:=by kernel_rfl
theorem cC52: chkC 5 2=true:=by kernel_rfl
theorem cC53: chkC 5 3=true:=by kernel_rfl
theorem cC54: chkC 5 4=true:=by kernel_rfl
end Go.Proofs.YtimdkminagnhgaaGreatDoor
