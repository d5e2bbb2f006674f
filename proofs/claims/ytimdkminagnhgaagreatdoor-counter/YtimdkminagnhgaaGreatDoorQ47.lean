import Derived.Test.YtimdkminagnhgaaGreatDoorQ46
set_option linter.all false
namespace Go.Proofs.YtimdkminagnhgaaGreatDoor
open Go.Vm Go.Proofs Go.Ta
section
attribute [local simp] A'a A'b reg to too A'h mv' nl' fl' ld' ln' mk' ia' ik' ix' ev A'l A'0 A'B A'g A'e
theorem W'e: U'P 9:=by
 intro a b d ha hb hd c C;obtain⟨h',e⟩:=L'9 (O:=hpO) (h:=hp0) C hpL (show 3<=3 from l'H 3) ha hb;refine⟨h',C.eq (U's hpO 3) rfl rfl ?_⟩;refine f'f ?_;simp[F9,Zpg,Zph,e,A'1,A'i,rvE,A't,A'u,A'v]
end
end Go.Proofs.YtimdkminagnhgaaGreatDoor
