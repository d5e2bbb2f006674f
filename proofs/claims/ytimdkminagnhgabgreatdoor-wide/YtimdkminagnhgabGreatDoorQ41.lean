import Derived.Test.YtimdkminagnhgabGreatDoorQ40
import Derived.Test.YtimdkminagnhgabGreatDoorQ09
set_option linter.all false
namespace Go.Proofs.YtimdkminagnhgabGreatDoor
open Go.Vm Go.Proofs Go.Ta
section
attribute [local simp] A'b A'c reg to too A'i mv' nl' fl' ld' ln' mk' ia' ik' ix' ev A'k A'Z A'y A'g A'e
theorem S'Q: Tb hpO hp0:=by
 refine⟨rfl,λi hi=>?_⟩;simp[hpO,hp0,M'W,hi]
theorem S'R: R'K 5:=by
 intro a b d ha hb hd c C;obtain⟨h',e⟩:=Q'Z (O:=hpO) (h:=hp0) C hpL (show 3<=3 from l'H 3) S'Q (a:=a) (b:=b) ha hb;refine⟨h',C.eq (R'y hpO 3) rfl rfl ?_⟩;refine f'f ?_;simp[F5,Zn6,Zn7,e,A'L,A'h,rvE,A't,A'u,A'v]
end
end Go.Proofs.YtimdkminagnhgabGreatDoor
