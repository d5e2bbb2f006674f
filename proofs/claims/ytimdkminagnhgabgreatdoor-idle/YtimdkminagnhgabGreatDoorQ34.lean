import Derived.Test.YtimdkminagnhgabGreatDoorQ04
import Derived.Test.YtimdkminagnhgabGreatDoorProg
import Derived.KernelRfl
import Derived.Test.YtimdkminagnhgabGreatDoorQ05
set_option linter.unusedVariables false
set_option linter.unusedSimpArgs false
namespace Go.Proofs.YtimdkminagnhgabGreatDoor
open Go.Vm Go.Proofs
set_option maxRecDepth 100000
section
variable {H:Type}
def ZpL:RL' H:=[to 6 (aMove (.const (.bool false)))]
def ZpM:RL' H:=[mv' 7 0,mv' 8 1,mv' 9 2,to 10 (aCall 10 [.tmp 7,.tmp 8,.tmp 9]),mv' 6 10]
def F4:RC' H:=λO P ro=>cSeq (cReg ZpL) (cSeq (cReg ZpM) (cRet))
theorem F4_fn:FN' 4 @F4 [.tmp 6] Tryz.f4:=f'n Tryz.func4
def ZpN:RL' H:=[to 6 (aMove (.const (.bool false)))]
def ZpO:RL' H:=[mv' 20 0,to 21 (aCall 22 [.tmp 20,.const (.int .i64 5)]),mv' 7 21]
def ZpP:RL' H:=[mv' 22 1,to 23 (aCall 22 [.tmp 22,.const (.int .i64 4)]),to 24 (aInt .add (.const (.int .i64 1)) (.tmp 23)),mv' 8 24]
def ZpQ:RL' H:=[mv' 25 8,mv' 26 7,to 27 (aInt .add (.const (.int .i64 2)) (.tmp 26)),to 28 (aCall 16 [.tmp 25,.tmp 27]),mv' 9 28]
def ZpR:RL' H:=[mv' 29 9,mv' 30 8,ik' .sub 31 30 1,to 32 (aCall 20 [.tmp 29,.tmp 31]),mv' 10 32]
def ZpS:RL' H:=[mv' 33 9,to 34 (aCall 23 [.tmp 33,.const (.int .i64 0)]),mv' 11 34]
def ZpT(O:HI H)(ro:Nat):RL' H:=[mv' 35 9,nl' 36 35,fl' 3 37 36,ld' O 38 37,mv' 39 10,to 40 (aIdx 1 (.tmp 38) (.const (.int .i64 0))),too (aSt O ro 1 (.tmp 40) (.tmp 39))]
def ZpU(O:HI H)(ro:Nat):RL' H:=[mv' 41 9,nl' 42 41,fl' 3 43 42,ld' O 44 43,mv' 45 11,to 46 (aIdx 1 (.tmp 44) (.const (.int .i64 1))),too (aSt O ro 1 (.tmp 46) (.tmp 45))]
def ZpV:RL' H:=[mk' 12 0]
def ZpW:RL' H:=[mv' 47 12,mv' 48 7,ia' .lss 49 47 48]
def ZpX:RL' H:=[mv' 52 9,mv' 53 12,to 54 (aInt .add (.const (.int .i64 2)) (.tmp 53)),to 55 (aCall 23 [.tmp 52,.tmp 54]),mv' 13 55]
def ZpY(O:HI H)(ro:Nat):RL' H:=[mv' 56 9,nl' 57 56,fl' 3 58 57,ld' O 59 58,mv' 60 12,to 61 (aInt .add (.const (.int .i64 2)) (.tmp 60)),mv' 62 13,ik' .xor 63 62 1,ix' 1 64 59 61,too (aSt O ro 1 (.tmp 64) (.tmp 63))]
def ZpZ(O:HI H)(ro:Nat):RL' H:=[mv' 65 9,nl' 66 65,fl' 4 67 66,ld' O 68 67,mv' 69 12,to 70 (aInt .add (.const (.int .i64 2)) (.tmp 69)),mv' 71 2,mv' 72 12,to 73 (aShift .shr (.tmp 71) (.tmp 72)),ik' .and 74 73 1,ix' 1 75 68 70,too (aSt O ro 1 (.tmp 75) (.tmp 74))]
def Zp0:RL' H:=[mv' 50 12,ik' .add 51 50 1,mv' 12 51]
def Zp1:RL' H:=[mv' 76 9,to 77 (aCall 23 [.tmp 76,.const (.int .i64 1)]),mv' 14 77]
def Zp2(O:HI H)(ro:Nat):RL' H:=[mv' 78 9,mv' 79 9,mv' 80 11,mv' 81 14,ik' .xor 82 81 1,to 83 (aCall 21 [.tmp 79,.tmp 80,.tmp 82]),nl' 84 78,fl' 5 85 84,too (aSt O ro 1 (.tmp 85) (.tmp 83))]
def Zp3:RL' H:=[mv' 86 9,to 87 (aCall 17 [.tmp 86]),mv' 15 87]
def Zp4:RL' H:=[mv' 89 15,to 90 (aCall 19 [.tmp 89]),mv' 88 90,to 91 (aExt (.tmp 88) 0),to 92 (aExt (.tmp 88) 1),to 93 (aExt (.tmp 88) 2),mv' 16 91,mv' 17 92,mv' 18 93]
def Zp5:RL' H:=[mv' 94 18,to 95 (aUn .not (.tmp 94)),mv' 96 95,onlyIf 96 false 97 (mv' 97 17),onlyIf 96 false 98 (ik' .and 98 97 3),onlyIf 96 false 99 (ik' .neq 99 98 0),to 100 (aPick (.tmp 96) (.const (.bool true)) (.tmp 99)),mv' 101 100,onlyIf 101 false 102 (mv' 102 16),onlyIf 101 false 103 (ln' 103 102),onlyIf 101 false 104 (ik' .lss 104 103 2),to 105 (aPick (.tmp 101) (.const (.bool true)) (.tmp 104))]
def Zp6:RL' H:=[to 6 (aMove (.const (.bool false)))]
def Zp7:RL' H:=[mk' 19 0]
def Zp8:RL' H:=[mv' 106 19,mv' 107 7,ia' .lss 108 106 107]
def Zp9:RL' H:=[mv' 111 17,mv' 112 19,to 113 (aInt .add (.const (.int .i64 2)) (.tmp 112)),to 114 (aShift .shr (.tmp 111) (.tmp 113)),ik' .and 115 114 1,mv' 116 2,mv' 117 19,to 118 (aShift .shr (.tmp 116) (.tmp 117)),ik' .and 119 118 1,ia' .neq 120 115 119]
def Zqa:RL' H:=[to 6 (aMove (.const (.bool false)))]
def Zqb:RL' H:=[mv' 109 19,ik' .add 110 109 1,mv' 19 110]
def Zqc(O:HI H):RL' H:=[mv' 121 16,mv' 122 16,ln' 123 122,ik' .sub 124 123 2,ix' 1 125 121 124,ld' O 126 125,mv' 127 8,ik' .sub 128 127 1,to 129 (aShift .shr (.tmp 126) (.tmp 128)),ik' .and 130 129 1,ik' .eql 131 130 1,mv' 6 131]
def W10_0:RC' H:=λO P ro=>cSeq (cSeq (cReg ZpW) (cIf (.tmp 49) (cSkip) (cExit 0))) (cSeq (cBlk 1 (cSeq (cReg ZpX) (cSeq (cReg (ZpY O ro)) (cReg (ZpZ O ro))))) (cReg Zp0))
def W10_1:RC' H:=λO P ro=>cSeq (cSeq (cReg Zp8) (cIf (.tmp 108) (cSkip) (cExit 2))) (cSeq (cBlk 3 (cSeq (cReg Zp9) (cIf (.tmp 120) (cSeq (cReg Zqa) (cRet)) (cSkip)))) (cReg Zqb))
def F10:RC' H:=λO P ro=>cSeq (cReg ZpN) (cSeq (cReg ZpO) (cSeq (cReg ZpP) (cSeq (cReg ZpQ) (cSeq (cReg ZpR) (cSeq (cReg ZpS) (cSeq (cReg (ZpT O ro)) (cSeq (cReg (ZpU O ro)) (cSeq (cSeq (cReg ZpV) (cBlk 0 (cLoop (W10_0 O P ro)))) (cSeq (cReg Zp1) (cSeq (cReg (Zp2 O ro)) (cSeq (cReg Zp3) (cSeq (cReg Zp4) (cSeq (cSeq (cReg Zp5) (cIf (.tmp 105) (cSeq (cReg Zp6) (cRet)) (cSkip))) (cSeq (cSeq (cReg Zp7) (cBlk 2 (cLoop (W10_1 O P ro)))) (cSeq (cReg (Zqc O)) (cRet))))))))))))))))
theorem F10_fn:FN' 10 @F10 [.tmp 6] Tryz.f10:=f'n Tryz.func10
def Zqd:RL' H:=[to 4 (aMove (.const (.pointer none)))]
def Zqe(O:HI H):RL' H:=[mv' 6 0,mv' 7 1,to 8 (aBuild #[.int .i64 0,.int .i64 0,.slice none 0 0,.slice none 0 0,.slice none 0 0,.int .i64 0] [(0,1),(1,1),(2,1),(3,1),(4,1),(5,1)] [(0,.tmp 6),(1,.tmp 7)]),to 9 (aBox O (.tmp 8)),mv' 5 9]
def Zqf(O:HI H)(ro:Nat):RL' H:=[mv' 10 5,mv' 11 1,to 12 (aMake O 1 8 #[.int .i64 0] (.tmp 11) (.tmp 11)),nl' 13 10,fl' 3 14 13,too (aSt O ro 1 (.tmp 14) (.tmp 12))]
def Zqg(O:HI H)(ro:Nat):RL' H:=[mv' 15 5,mv' 16 1,to 17 (aMake O 1 8 #[.int .i64 0] (.tmp 16) (.tmp 16)),nl' 18 15,fl' 4 19 18,too (aSt O ro 1 (.tmp 19) (.tmp 17))]
def Zqh:RL' H:=[mv' 20 5,mv' 4 20]
def F16:RC' H:=λO P ro=>cSeq (cReg Zqd) (cSeq (cReg (Zqe O)) (cSeq (cReg (Zqf O ro)) (cSeq (cReg (Zqg O ro)) (cSeq (cReg Zqh) (cRet)))))
theorem F16_fn:FN' 16 @F16 [.tmp 4] Tryz.f16:=f'n Tryz.func16
def Zqi:RL' H:=[to 2 (aMove (.const (.string { data:=#[] })))]
def Zqj(O:HI H):RL' H:=[mv' 14 0,nl' 15 14,fl' 2 16 15,ld' O 17 16,ln' 18 17,ik' .quo 19 18 2,mv' 3 19]
def Zqk(O:HI H):RL' H:=[mv' 20 0,nl' 21 20,fl' 0 22 21,ld' O 23 22,mv' 24 0,nl' 25 24,fl' 1 26 25,ld' O 27 26,ia' .add 28 23 27,mv' 29 3,ia' .add 30 28 29,mv' 31 0,nl' 32 31,fl' 0 33 32,ld' O 34 33,mv' 35 0,nl' 36 35,fl' 1 37 36,ld' O 38 37,mv' 39 3,to 40 (aMkSl O 1 6 #[.int .i64 0] [(0,.tmp 30),(1,.tmp 34),(2,.tmp 38),(3,.const (.int .i64 0)),(4,.tmp 39),(5,.const (.int .i64 1))]),to 41 (aCall 32 [.tmp 40]),mv' 4 41]
def Zql:RL' H:=[mv' 42 4,to 43 (aStr .add (.const (.string { data:=#[97,97,103,32] })) (.tmp 42)),mv' 5 43]
def Zqm:RL' H:=[mk' 6 0]
def Zqn(O:HI H):RL' H:=[mv' 44 6,mv' 45 0,nl' 46 45,fl' 0 47 46,ld' O 48 47,ia' .lss 49 44 48]
def Zqo:RL' H:=[mv' 52 0,mv' 53 6,to 54 (aCall 20 [.tmp 52,.tmp 53]),mv' 7 54]
def Zqp(O:HI H):RL' H:=[mv' 55 7,to 56 (aMkSl O 1 1 #[.int .i64 0] [(0,.tmp 55)]),to 57 (aCall 32 [.tmp 56]),mv' 8 57]
def Zqq:RL' H:=[mv' 58 5,mv' 59 8,to 60 (aStr .add (.tmp 58) (.tmp 59)),mv' 5 60]
def Zqr:RL' H:=[mv' 50 6,ik' .add 51 50 1,mv' 6 51]
def Zqs:RL' H:=[mk' 9 0]
def Zqt(O:HI H):RL' H:=[mv' 61 9,mv' 62 0,nl' 63 62,fl' 1 64 63,ld' O 65 64,ia' .lss 66 61 65]
def Zqu:RL' H:=[mv' 69 0,mv' 70 9,to 71 (aCall 23 [.tmp 69,.tmp 70]),mv' 10 71]
def Zqv(O:HI H):RL' H:=[mv' 72 10,mv' 73 0,nl' 74 73,fl' 3 75 74,ld' O 76 75,mv' 77 9,ix' 1 78 76 77,ld' O 79 78,mv' 80 0,nl' 81 80,fl' 4 82 81,ld' O 83 82,mv' 84 9,ix' 1 85 83 84,ld' O 86 85,to 87 (aMkSl O 1 3 #[.int .i64 0] [(0,.tmp 72),(1,.tmp 79),(2,.tmp 86)]),to 88 (aCall 32 [.tmp 87]),mv' 11 88]
def Zqw:RL' H:=[mv' 89 5,mv' 90 11,to 91 (aStr .add (.tmp 89) (.tmp 90)),mv' 5 91]
def Zqx:RL' H:=[mv' 67 9,ik' .add 68 67 1,mv' 9 68]
def Zqy(O:HI H):RL' H:=[mv' 92 0,nl' 93 92,fl' 5 94 93,ld' O 95 94,to 96 (aMkSl O 1 1 #[.int .i64 0] [(0,.tmp 95)]),to 97 (aCall 32 [.tmp 96]),mv' 12 97]
def Zqz:RL' H:=[mv' 98 5,mv' 99 12,to 100 (aStr .add (.tmp 98) (.tmp 99)),mv' 5 100]
def ZqA:RL' H:=[mv' 101 3,ik' .sub 102 101 1,mv' 13 102]
def ZqB:RL' H:=[mv' 103 13,ik' .geq 104 103 0]
def ZqC(O:HI H):RL' H:=[mv' 107 0,nl' 108 107,fl' 0 109 108,ld' O 110 109,to 111 (aInt .add (.const (.int .i64 1)) (.tmp 110)),mv' 112 0,nl' 113 112,fl' 1 114 113,ld' O 115 114,ia' .add 116 111 115,mv' 117 13,ia' .add 118 116 117,to 119 (aInt .mul (.const (.int .i64 2)) (.tmp 118)),mv' 120 0,nl' 121 120,fl' 2 122 121,ld' O 123 122,mv' 124 13,to 125 (aInt .mul (.const (.int .i64 2)) (.tmp 124)),ix' 1 126 123 125,ld' O 127 126,mv' 128 0,nl' 129 128,fl' 2 130 129,ld' O 131 130,mv' 132 13,to 133 (aInt .mul (.const (.int .i64 2)) (.tmp 132)),ik' .add 134 133 1,ix' 1 135 131 134,ld' O 136 135,to 137 (aMkSl O 1 3 #[.int .i64 0] [(0,.tmp 119),(1,.tmp 127),(2,.tmp 136)]),to 138 (aCall 32 [.tmp 137]),mv' 12 138]
def ZqD:RL' H:=[mv' 139 5,mv' 140 12,to 141 (aStr .add (.tmp 139) (.tmp 140)),mv' 5 141]
def ZqE:RL' H:=[mv' 105 13,ik' .sub 106 105 1,mv' 13 106]
def ZqF:RL' H:=[mv' 142 5,mv' 2 142]
def W17_0:RC' H:=λO P ro=>cSeq (cSeq (cReg (Zqn O)) (cIf (.tmp 49) (cSkip) (cExit 0))) (cSeq (cBlk 1 (cSeq (cReg Zqo) (cSeq (cReg (Zqp O)) (cReg Zqq)))) (cReg Zqr))
def W17_1:RC' H:=λO P ro=>cSeq (cSeq (cReg (Zqt O)) (cIf (.tmp 66) (cSkip) (cExit 2))) (cSeq (cBlk 3 (cSeq (cReg Zqu) (cSeq (cReg (Zqv O)) (cReg Zqw)))) (cReg Zqx))
def W17_2:RC' H:=λO P ro=>cSeq (cSeq (cReg ZqB) (cIf (.tmp 104) (cSkip) (cExit 4))) (cSeq (cBlk 5 (cSeq (cReg (ZqC O)) (cReg ZqD))) (cReg ZqE))
def F17:RC' H:=λO P ro=>cSeq (cReg Zqi) (cSeq (cReg (Zqj O)) (cSeq (cReg (Zqk O)) (cSeq (cReg Zql) (cSeq (cSeq (cReg Zqm) (cBlk 0 (cLoop (W17_0 O P ro)))) (cSeq (cSeq (cReg Zqs) (cBlk 2 (cLoop (W17_1 O P ro)))) (cSeq (cReg (Zqy O)) (cSeq (cReg Zqz) (cSeq (cSeq (cReg ZqA) (cBlk 4 (cLoop (W17_2 O P ro)))) (cSeq (cReg ZqF) (cRet))))))))))
theorem F17_fn:FN' 17 @F17 [.tmp 2] Tryz.f17:=f'n Tryz.func17
def ZqG:RL' H:=[to 2 (aMove (.const (.bool false)))]
def ZqH:RL' H:=[mv' 6 0,to 7 (aCall 26 [.tmp 6,.const (.int .i64 1152921504606846976)]),mv' 3 7]
def ZqI:RL' H:=[mv' 8 0,to 9 (aCall 26 [.tmp 8,.const (.int .i64 0)]),mv' 4 9]
def ZqJ:RL' H:=[mv' 10 3,to 11 (aPtrNil false (.tmp 10) (.const (.pointer none))),mv' 12 11,onlyIf 12 false 13 (mv' 13 4),onlyIf 12 false 14 (to 14 (aPtrNil false (.tmp 13) (.const (.pointer none)))),to 15 (aPick (.tmp 12) (.const (.bool true)) (.tmp 14))]
def ZqK:RL' H:=[to 2 (aMove (.const (.bool false)))]
def ZqL(O:HI H):RL' H:=[mv' 16 3,nl' 17 16,fl' 1 18 17,to 19 (aLdN O 2 (.tmp 18)),to 20 (aBuild #[.int .i64 0,.int .i64 0] [(0,1),(1,1)] []),to 21 (aAggEq false 2 (.tmp 19) (.tmp 20)),mv' 5 21]
def ZqM(O:HI H):RL' H:=[mv' 22 5,mv' 23 22,onlyIf 23 true 24 (mv' 24 3),onlyIf 23 true 25 (nl' 25 24),onlyIf 23 true 26 (fl' 0 26 25),onlyIf 23 true 27 (ld' O 27 26),onlyIf 23 true 28 (ik' .eql 28 27 1),to 29 (aPick (.tmp 23) (.tmp 28) (.const (.bool false))),mv' 30 29,onlyIf 30 true 31 (mv' 31 4),onlyIf 30 true 32 (nl' 32 31),onlyIf 30 true 33 (fl' 0 33 32),onlyIf 30 true 34 (ld' O 34 33),onlyIf 30 true 35 (ik' .eql 35 34 1),onlyIf 30 true 36 (mv' 36 35),onlyIf 36 false 37 (mv' 37 4),onlyIf 36 false 38 (nl' 38 37),onlyIf 36 false 39 (fl' 0 39 38),onlyIf 36 false 40 (ld' O 40 39),onlyIf 36 false 41 (ik' .eql 41 40 3),onlyIf 30 true 42 (to 42 (aPick (.tmp 36) (.const (.bool true)) (.tmp 41))),to 43 (aPick (.tmp 30) (.tmp 42) (.const (.bool false))),mv' 2 43]
def F18:RC' H:=λO P ro=>cSeq (cReg ZqG) (cSeq (cReg ZqH) (cSeq (cReg ZqI) (cSeq (cSeq (cReg ZqJ) (cIf (.tmp 15) (cSeq (cReg ZqK) (cRet)) (cSkip))) (cSeq (cReg (ZqL O)) (cSeq (cReg (ZqM O)) (cRet))))))
theorem F18_fn:FN' 18 @F18 [.tmp 2] Tryz.f18:=f'n Tryz.func18
def ZqN:RL' H:=[to 2 (aMove (.const (.slice none 0 0))),mk' 3 0,to 4 (aMove (.const (.bool false)))]
def ZqO:RL' H:=[mv' 8 0,to 9 (aCall 26 [.tmp 8,.const (.int .i64 1152921504606846976)]),mv' 5 9]
def ZqP:RL' H:=[mv' 10 0,to 11 (aCall 26 [.tmp 10,.const (.int .i64 0)]),mv' 6 11]
def ZqQ:RL' H:=[mv' 12 5,to 13 (aPtrNil false (.tmp 12) (.const (.pointer none))),mv' 14 13,onlyIf 14 false 15 (mv' 15 6),onlyIf 14 false 16 (to 16 (aPtrNil false (.tmp 15) (.const (.pointer none)))),to 17 (aPick (.tmp 14) (.const (.bool true)) (.tmp 16))]
def ZqR:RL' H:=[to 2 (aMove (.const (.slice none 0 0))),mk' 3 0,to 4 (aMove (.const (.bool false)))]
def ZqS(O:HI H):RL' H:=[mv' 18 5,nl' 19 18,fl' 0 20 19,ld' O 21 20,ik' .eql 22 21 2,mv' 23 22,onlyIf 23 true 24 (mv' 24 6),onlyIf 23 true 25 (nl' 25 24),onlyIf 23 true 26 (fl' 0 26 25),onlyIf 23 true 27 (ld' O 27 26),onlyIf 23 true 28 (ik' .eql 28 27 2),onlyIf 23 true 29 (mv' 29 28),onlyIf 29 false 30 (mv' 30 6),onlyIf 29 false 31 (nl' 31 30),onlyIf 29 false 32 (fl' 0 32 31),onlyIf 29 false 33 (ld' O 33 32),onlyIf 29 false 34 (ik' .eql 34 33 3),onlyIf 23 true 35 (to 35 (aPick (.tmp 29) (.const (.bool true)) (.tmp 34))),to 36 (aPick (.tmp 23) (.tmp 35) (.const (.bool false))),mv' 7 36]
def ZqT(O:HI H):RL' H:=[mv' 37 5,nl' 38 37,fl' 5 39 38,ld' O 40 39,mv' 41 5,nl' 42 41,fl' 4 43 42,ld' O 44 43,mv' 45 7,mv' 2 40,mv' 3 44,mv' 4 45]
def F19:RC' H:=λO P ro=>cSeq (cReg ZqN) (cSeq (cReg ZqO) (cSeq (cReg ZqP) (cSeq (cSeq (cReg ZqQ) (cIf (.tmp 17) (cSeq (cReg ZqR) (cRet)) (cSkip))) (cSeq (cReg (ZqS O)) (cSeq (cReg (ZqT O)) (cRet))))))
theorem F19_fn:FN' 19 @F19 [.tmp 2,.tmp 3,.tmp 4] Tryz.f19:=f'n Tryz.func19
def ZqU:RL' H:=[mk' 4 0]
def ZqV:RL' H:=[mv' 5 1,to 6 (aInt .add (.const (.int .i64 1)) (.tmp 5)),to 7 (aInt .mul (.const (.int .i64 2)) (.tmp 6)),mv' 4 7]
def F20:RC' H:=λO P ro=>cSeq (cReg ZqU) (cSeq (cReg ZqV) (cRet))
theorem F20_fn:FN' 20 @F20 [.tmp 4] Tryz.f20:=f'n Tryz.func20
def ZqW:RL' H:=[mk' 6 0]
def ZqX(O:HI H)(ro:Nat):RL' H:=[mv' 7 0,mv' 8 0,nl' 9 8,fl' 2 10 9,ld' O 11 10,mv' 12 1,mv' 13 2,to 14 (aMkSl O 1 2 #[.int .i64 0] [(0,.tmp 12),(1,.tmp 13)]),to 15 (aApp O ro 1 8 (.tmp 11) (.tmp 14)),nl' 16 7,fl' 2 17 16,too (aSt O ro 1 (.tmp 17) (.tmp 15))]
def ZqY(O:HI H):RL' H:=[mv' 18 0,nl' 19 18,fl' 0 20 19,ld' O 21 20,mv' 22 0,nl' 23 22,fl' 1 24 23,ld' O 25 24,ia' .add 26 21 25,mv' 27 0,nl' 28 27,fl' 2 29 28,ld' O 30 29,ln' 31 30,ik' .quo 32 31 2,ia' .add 33 26 32,to 34 (aInt .mul (.const (.int .i64 2)) (.tmp 33)),mv' 6 34]
def F21:RC' H:=λO P ro=>cSeq (cReg ZqW) (cSeq (cReg (ZqX O ro)) (cSeq (cReg (ZqY O)) (cRet)))
theorem F21_fn:FN' 21 @F21 [.tmp 6] Tryz.f21:=f'n Tryz.func21
def ZqZ:RL' H:=[mk' 4 0]
def Zq0:RL' H:=[mv' 5 0,ik' .lss 6 5 0]
def Zq1:RL' H:=[mv' 7 0,ik' .add 8 7 1,to 9 (aUn .neg (.tmp 8)),mv' 0 9]
def Zq2:RL' H:=[mv' 10 0,mv' 11 1,ia' .rem 12 10 11,mv' 4 12]
def F22:RC' H:=λO P ro=>cSeq (cReg ZqZ) (cSeq (cSeq (cReg Zq0) (cIf (.tmp 6) (cReg Zq1) (cSkip))) (cSeq (cReg Zq2) (cRet)))
theorem F22_fn:FN' 22 @F22 [.tmp 4] Tryz.f22:=f'n Tryz.func22
def Zq3:RL' H:=[mk' 4 0]
def Zq4(O:HI H):RL' H:=[mv' 5 0,nl' 6 5,fl' 0 7 6,ld' O 8 7,to 9 (aInt .add (.const (.int .i64 1)) (.tmp 8)),mv' 10 1,ia' .add 11 9 10,to 12 (aInt .mul (.const (.int .i64 2)) (.tmp 11)),mv' 4 12]
def F23:RC' H:=λO P ro=>cSeq (cReg Zq3) (cSeq (cReg (Zq4 O)) (cRet))
theorem F23_fn:FN' 23 @F23 [.tmp 4] Tryz.f23:=f'n Tryz.func23
def Zq5:RL' H:=[to 2 (aMove (.const (.string { data:=#[] })))]
def Zq6:RL' H:=[to 3 (aMove (.const (.string { data:=#[] })))]
def Zq7:RL' H:=[mk' 4 0]
def Zq8:RL' H:=[mv' 6 4,mv' 7 0,ln' 8 7,ia' .lss 9 6 8]
def Zq9:RL' H:=[mv' 12 4,ik' .gtr 13 12 0]
def Zra:RL' H:=[mv' 14 3,to 15 (aStr .add (.tmp 14) (.const (.string { data:=#[32] }))),mv' 3 15]
def Zrb(O:HI H):RL' H:=[mv' 16 0,mv' 17 4,ix' 1 18 16 17,ld' O 19 18,to 20 (aCall 62 [.tmp 19]),mv' 5 20]
def Zrc:RL' H:=[mv' 21 3,mv' 22 5,to 23 (aStr .add (.tmp 21) (.tmp 22)),mv' 3 23]
def Zrd:RL' H:=[mv' 10 4,ik' .add 11 10 1,mv' 4 11]
def Zre:RL' H:=[mv' 24 3,to 25 (aStr .add (.tmp 24) (.const (.string { data:=#[10] }))),mv' 2 25]
def W32_0:RC' H:=λO P ro=>cSeq (cSeq (cReg Zq8) (cIf (.tmp 9) (cSkip) (cExit 0))) (cSeq (cBlk 1 (cSeq (cSeq (cReg Zq9) (cIf (.tmp 13) (cReg Zra) (cSkip))) (cSeq (cReg (Zrb O)) (cReg Zrc)))) (cReg Zrd))
def F32:RC' H:=λO P ro=>cSeq (cReg Zq5) (cSeq (cReg Zq6) (cSeq (cSeq (cReg Zq7) (cBlk 0 (cLoop (W32_0 O P ro)))) (cSeq (cReg Zre) (cRet))))
theorem F32_fn:FN' 32 @F32 [.tmp 2] Tryz.f32:=f'n Tryz.func32
def Zrf:RL' H:=[to 2 (aMove (.const (.string { data:=#[] })))]
def Zrg:RL' H:=[mv' 4 0,ik' .lss 5 4 10]
def Zrh(O:HI H):RL' H:=[mv' 6 0,to 7 (aInt .add (.const (.int .i64 48)) (.tmp 6)),to 8 (aConv .u8 (.tmp 7)),to 9 (aMkSl O 1 1 #[.int .u8 0] [(0,.tmp 8)]),to 10 (aB2S O (.tmp 9)),mv' 2 10]
def Zri:RL' H:=[mv' 11 0,ik' .quo 12 11 10,to 13 (aCall 62 [.tmp 12]),mv' 3 13]
def Zrj(O:HI H):RL' H:=[mv' 14 3,mv' 15 0,ik' .rem 16 15 10,to 17 (aInt .add (.const (.int .i64 48)) (.tmp 16)),to 18 (aConv .u8 (.tmp 17)),to 19 (aMkSl O 1 1 #[.int .u8 0] [(0,.tmp 18)]),to 20 (aB2S O (.tmp 19)),to 21 (aStr .add (.tmp 14) (.tmp 20)),mv' 2 21]
def F62:RC' H:=λO P ro=>cSeq (cReg Zrf) (cSeq (cSeq (cReg Zrg) (cIf (.tmp 5) (cSeq (cReg (Zrh O)) (cRet)) (cSkip))) (cSeq (cReg Zri) (cSeq (cReg (Zrj O)) (cRet))))
theorem F62_fn:FN' 62 @F62 [.tmp 2] Tryz.f62:=f'n Tryz.func62
end
end Go.Proofs.YtimdkminagnhgabGreatDoor
