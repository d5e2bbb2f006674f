import Derived.Test.YtimdkminagnhgabGreatDoorQ42
set_option linter.unusedVariables false
set_option linter.unusedSimpArgs false
namespace Go.Proofs.YtimdkminagnhgabGreatDoor
open Go.Vm Go.Proofs Go.Ta
section
attribute [local simp] cSeq cReg reg to too aMove mv' nl' fl' ld' ln' mk' ia' ik' ix' ev upd_get envOf cRet okc_some aCall
theorem law4: LawI 4:=by
 intro a b d ha hb hd c C;obtain⟨h',e⟩:=idle_q (O:=hpO) (h:=hp0) C hpL (show 3<=3 from l'H 3) ha hb hd;refine⟨h',C.eq (F4_fn hpO 3) rfl rfl ?_⟩;refine f'f ?_;simp[F4,ZpL,ZpM,e,resE,resLE,rvE,vc_bool,ft_bool,tp_bool]
end
end Go.Proofs.YtimdkminagnhgabGreatDoor
