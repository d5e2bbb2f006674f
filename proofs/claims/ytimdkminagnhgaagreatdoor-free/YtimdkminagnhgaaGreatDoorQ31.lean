import Derived.Test.YtimdkminagnhgaaGreatDoorQ04
import Derived.Test.YtimdkminagnhgaaGreatDoorProg
import Derived.KernelRfl
import Derived.Test.YtimdkminagnhgaaGreatDoorQ05
set_option linter.all false
namespace Go.Proofs.YtimdkminagnhgaaGreatDoor
open Go.Vm Go.Proofs
set_option maxRecDepth 100000
section
variable {H:Type}
def strC200:ByteArray:=⟨#[48,48,48,49,48,50,48,51,48,52,48,53,48,54,48,55,48,56,48,57,49,48,49,49,49,50,49,51,49,52,49,53,49,54,49,55,49,56,49,57,50,48,50,49,50,50,50,51,50,52,50,53,50,54,50,55,50,56,50,57,51,48,51,49,51,50,51,51,51,52,51,53,51,54,51,55,51,56,51,57,52,48,52,49,52,50,52,51,52,52,52,53,52,54,52,55,52,56,52,57,53,48,53,49,53,50,53,51,53,52,53,53,53,54,53,55,53,56,53,57,54,48,54,49,54,50,54,51,54,52,54,53,54,54,54,55,54,56,54,57,55,48,55,49,55,50,55,51,55,52,55,53,55,54,55,55,55,56,55,57,56,48,56,49,56,50,56,51,56,52,56,53,56,54,56,55,56,56,56,57,57,48,57,49,57,50,57,51,57,52,57,53,57,54,57,55,57,56,57,57]⟩
def Zpr:RL' H:=[to 4 (aMove (.const (.string { data:=#[] })))]
def Zps:RL' H:=[mv' 10 1,ik' .eql 11 10 10]
def Zpt:RL' H:=[mv' 12 0,to 13 (aInt .leq (.const (.int .i64 0)) (.tmp 12)),mv' 14 13,onlyIf 14 true 15 (mv' 15 0),onlyIf 14 true 16 (ik' .lss 16 15 100),to 17 (aPick (.tmp 14) (.tmp 16) (.const (.bool false)))]
def Zpu:RL' H:=[mv' 18 0,to 19 (aCall 214 [.tmp 18]),mv' 4 19]
def Zpv(O:HI H):RL' H:=[to 5 (aNew O [.int .u8 0,.int .u8 0,.int .u8 0,.int .u8 0,.int .u8 0,.int .u8 0,.int .u8 0,.int .u8 0,.int .u8 0,.int .u8 0,.int .u8 0,.int .u8 0,.int .u8 0,.int .u8 0,.int .u8 0,.int .u8 0,.int .u8 0,.int .u8 0,.int .u8 0,.int .u8 0,.int .u8 0,.int .u8 0,.int .u8 0,.int .u8 0])]
def Zpw:RL' H:=[mv' 20 0,to 21 (aConv .u64 (.tmp 20)),mv' 6 21]
def Zpx:RL' H:=[mv' 22 0,ik' .lss 23 22 0]
def Zpy:RL' H:=[mv' 24 6,to 25 (aUn .neg (.tmp 24)),mv' 6 25]
def Zpz:RL' H:=[mv' 26 6,to 27 (aCall 215 [.tmp 26]),mv' 7 27]
def ZpA(O:HI H):RL' H:=[mv' 28 7,to 29 (aInt .add (.const (.int .i64 1)) (.tmp 28)),to 30 (aSliceArr O 24 1 (.tmp 5) (some (.const (.int .i64 1))) (some (.tmp 29))),mv' 31 6,to 32 (aCall 216 [.tmp 30,.tmp 31])]
def ZpB:RL' H:=[mv' 33 0,ik' .lss 34 33 0]
def ZpC(O:HI H)(ro:Nat):RL' H:=[to 35 (aIdxArr 24 1 (.tmp 5) (.const (.int .i64 0))),too (aSt O ro 1 (.tmp 35) (.const (.int .u8 45)))]
def ZpD(O:HI H):RL' H:=[mv' 36 7,to 37 (aInt .add (.const (.int .i64 1)) (.tmp 36)),to 38 (aSliceArr O 24 1 (.tmp 5) none (some (.tmp 37))),to 39 (aB2S O (.tmp 38)),mv' 4 39]
def ZpE(O:HI H):RL' H:=[mv' 40 7,to 41 (aInt .add (.const (.int .i64 1)) (.tmp 40)),to 42 (aSliceArr O 24 1 (.tmp 5) (some (.const (.int .i64 1))) (some (.tmp 41))),to 43 (aB2S O (.tmp 42)),mv' 4 43]
def ZpF:RL' H:=[mv' 45 0,to 46 (aConv .u64 (.tmp 45)),mv' 47 1,mv' 48 0,ik' .lss 49 48 0,to 50 (aCall 217 [.const (.slice none 0 0),.tmp 46,.tmp 47,.tmp 49,.const (.bool false)]),mv' 44 50,to 51 (aExt (.tmp 44) 0),to 52 (aExt (.tmp 44) 1),mv' 8 51,mv' 9 52]
def ZpG:RL' H:=[mv' 53 9,mv' 4 53]
def F204:RC' H:=λO P ro=>cSeq (cReg Zpr) (cSeq (cSeq (cReg Zps) (cIf (.tmp 11) (cSeq (cSeq (cReg Zpt) (cIf (.tmp 17) (cSeq (cReg Zpu) (cRet)) (cSkip))) (cSeq (cReg (Zpv O)) (cSeq (cReg Zpw) (cSeq (cSeq (cReg Zpx) (cIf (.tmp 23) (cReg Zpy) (cSkip))) (cSeq (cReg Zpz) (cSeq (cReg (ZpA O)) (cSeq (cSeq (cReg ZpB) (cIf (.tmp 34) (cSeq (cReg (ZpC O ro)) (cSeq (cReg (ZpD O)) (cRet))) (cSkip))) (cSeq (cReg (ZpE O)) (cRet))))))))) (cSkip))) (cSeq (cReg ZpF) (cSeq (cReg ZpG) (cRet))))
theorem F204_fn:FN' 204 @F204 [.tmp 4] Tryz.f204:=f'n Tryz.func204
def ZpH:RL' H:=[to 2 (aMove (.const (.string { data:=#[] })))]
def ZpI:RL' H:=[mv' 3 0,ik' .lss 4 3 10]
def ZpJ:RL' H:=[mv' 5 0,mv' 6 0,ik' .add 7 6 1,to 8 (aSliceStr (.const (.string { data:=#[48,49,50,51,52,53,54,55,56,57,97,98,99,100,101,102,103,104,105,106,107,108,109,110,111,112,113,114,115,116,117,118,119,120,121,122] })) (some (.tmp 5)) (some (.tmp 7))),mv' 2 8]
def ZpK:RL' H:=[mv' 9 0,ik' .mul 10 9 2,mv' 11 0,ik' .mul 12 11 2,ik' .add 13 12 2,to 14 (aSliceStr (.const (.string strC200)) (some (.tmp 10)) (some (.tmp 13))),mv' 2 14]
def F214:RC' H:=λO P ro=>cSeq (cReg ZpH) (cSeq (cSeq (cReg ZpI) (cIf (.tmp 4) (cSeq (cReg ZpJ) (cRet)) (cSkip))) (cSeq (cReg ZpK) (cRet)))
theorem F214_fn:FN' 214 @F214 [.tmp 2] Tryz.f214:=f'n Tryz.func214
end
end Go.Proofs.YtimdkminagnhgaaGreatDoor
