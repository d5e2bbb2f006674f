import Derived.Test.YtimdkminagnhgaaGreatDoorQ41
import Derived.KernelRfl
set_option linter.all false
namespace Go.Proofs.YtimdkminagnhgaaGreatDoor
open Go.Vm Go.Proofs Go.Ta
set_option maxRecDepth 100000
theorem cB60: chkB 6 0=true:=by kernel_rfl
theorem cC60: chkC 6 0=true:=by kernel_rfl
end Go.Proofs.YtimdkminagnhgaaGreatDoor
namespace Go.Proofs.YtimdkminagnhgaaGreatDoor
open Go.Vm Go.Proofs Go.Ta
set_option maxRecDepth 100000
theorem cB61: chkB 6 1=true:=by kernel_rfl
theorem cC61: chkC 6 1=true:=by kernel_rfl
end Go.Proofs.YtimdkminagnhgaaGreatDoor
namespace Go.Proofs.YtimdkminagnhgaaGreatDoor
open Go.Vm Go.Proofs Go.Ta
set_option maxRecDepth 100000
theorem cB62: chkB 6 2=true:=by kernel_rfl
theorem cC62: chkC 6 2=true:=by kernel_rfl
end Go.Proofs.YtimdkminagnhgaaGreatDoor
