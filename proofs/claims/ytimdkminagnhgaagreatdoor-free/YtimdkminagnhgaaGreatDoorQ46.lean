import Derived.Test.YtimdkminagnhgaaGreatDoorQ41
import Derived.KernelRfl
set_option linter.all false
namespace Go.Proofs.YtimdkminagnhgaaGreatDoor
open Go.Vm Go.Proofs Go.Ta
set_option maxRecDepth 100000
theorem cB63: chkB 6 3=true:=by kernel_rfl
theorem cC63: chkC 6 3=true:=by kernel_rfl
end Go.Proofs.YtimdkminagnhgaaGreatDoor
namespace Go.Proofs.YtimdkminagnhgaaGreatDoor
open Go.Vm Go.Proofs Go.Ta
set_option maxRecDepth 100000
theorem cB64: chkB 6 4=true:=by kernel_rfl
theorem cC64: chkC 6 4=true:=by kernel_rfl
end Go.Proofs.YtimdkminagnhgaaGreatDoor
namespace Go.Proofs.YtimdkminagnhgaaGreatDoor
open Go.Vm Go.Proofs Go.Ta
set_option maxRecDepth 100000
theorem cB65: chkB 6 5=true:=by kernel_rfl
theorem cC65: chkC 6 5=true:=by kernel_rfl
end Go.Proofs.YtimdkminagnhgaaGreatDoor
