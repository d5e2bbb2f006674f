import Derived.Test.YtimdkminagnhgaaGreatDoorQ04
import Derived.Test.YtimdkminagnhgaaGreatDoorProg
import Derived.KernelRfl
import Derived.Test.YtimdkminagnhgaaGreatDoorQ05
set_option linter.unusedVariables false
set_option linter.unusedSimpArgs false
namespace Go.Proofs.YtimdkminagnhgaaGreatDoor
open Go.Vm Go.Proofs
set_option maxRecDepth 100000
section
variable {H:Type}
def ZpL:RL' H:=[to 6 (aMove (.const (.bool false)))]
def ZpM:RL' H:=[mv' 7 0,mv' 8 1,mv' 9 2,to 10 (aCall 22 [.tmp 7,.tmp 8,.tmp 9]),mv' 6 10]
def F13:RC' H:=λO P ro=>cSeq (cReg ZpL) (cSeq (cReg ZpM) (cRet))
theorem F13_fn:FN' 13 @F13 [.tmp 6] Tryz.f13:=f'n Tryz.func13
def ZpN:RL' H:=[to 6 (aMove (.const (.bool false)))]
def ZpO:RL' H:=[mv' 18 0,to 19 (aCall 33 [.tmp 18,.const (.int .i64 5)]),to 20 (aInt .add (.const (.int .i64 2)) (.tmp 19)),mv' 7 20]
def ZpP:RL' H:=[mv' 21 1,mv' 22 7,to 23 (aCall 33 [.tmp 21,.tmp 22]),mv' 8 23]
def ZpQ:RL' H:=[mv' 24 2,mv' 25 7,to 26 (aCall 33 [.tmp 24,.tmp 25]),mv' 9 26]
def ZpR:RL' H:=[mv' 27 7,to 28 (aCall 34 [.const (.int .i64 0),.tmp 27]),mv' 10 28]
def ZpS:RL' H:=[mk' 11 0]
def ZpT:RL' H:=[mv' 29 11,mv' 30 7,ia' .lss 31 29 30]
def ZpU(O:HI H)(ro:Nat):RL' H:=[mv' 34 10,nl' 35 34,fl' 3 36 35,ld' O 37 36,mv' 38 11,mv' 39 10,mv' 40 11,ik' .add 41 40 1,mv' 42 7,ia' .rem 43 41 42,to 44 (aCall 35 [.tmp 39,.tmp 43]),ix' 1 45 37 38,too (aSt O ro 1 (.tmp 45) (.tmp 44))]
def ZpV:RL' H:=[mv' 32 11,ik' .add 33 32 1,mv' 11 33]
def ZpW(O:HI H)(ro:Nat):RL' H:=[mv' 46 10,nl' 47 46,fl' 4 48 47,ld' O 49 48,to 50 (aIdx 1 (.tmp 49) (.const (.int .i64 0))),too (aSt O ro 1 (.tmp 50) (.const (.int .i64 1)))]
def ZpX:RL' H:=[mv' 51 10,mv' 52 8,to 53 (aCall 35 [.tmp 51,.tmp 52]),mv' 12 53]
def ZpY:RL' H:=[mv' 54 10,mv' 55 9,to 56 (aCall 35 [.tmp 54,.tmp 55]),mv' 13 56]
def ZpZ(O:HI H)(ro:Nat):RL' H:=[mv' 57 10,mv' 58 10,mv' 59 12,mv' 60 13,to 61 (aCall 37 [.tmp 58,.tmp 59,.tmp 60]),nl' 62 57,fl' 5 63 62,too (aSt O ro 1 (.tmp 63) (.tmp 61))]
def Zp0:RL' H:=[mv' 64 10,to 65 (aCall 39 [.tmp 64]),mv' 14 65]
def Zp1:RL' H:=[mv' 66 8,mv' 67 9,ia' .neq 68 66 67]
def Zp2:RL' H:=[mv' 69 14,to 70 (aCall 41 [.tmp 69]),mv' 6 70]
def Zp3:RL' H:=[mv' 72 14,to 73 (aCall 40 [.tmp 72]),mv' 71 73,to 74 (aExt (.tmp 71) 0),to 75 (aExt (.tmp 71) 1),to 76 (aExt (.tmp 71) 2),mv' 15 74,mv' 16 75,mv' 17 76]
def Zp4:RL' H:=[mv' 77 17,mv' 78 77,onlyIf 78 true 79 (mv' 79 16),onlyIf 78 true 80 (ik' .eql 80 79 1),to 81 (aPick (.tmp 78) (.tmp 80) (.const (.bool false))),mv' 82 81,onlyIf 82 true 83 (mv' 83 15),onlyIf 82 true 84 (ln' 84 83),onlyIf 82 true 85 (ik' .gtr 85 84 0),to 86 (aPick (.tmp 82) (.tmp 85) (.const (.bool false))),mv' 87 86,onlyIf 87 true 88 (mv' 88 15),onlyIf 87 true 89 (ln' 89 88),onlyIf 87 true 90 (ik' .sub 90 89 1),onlyIf 87 true 91 (mv' 91 7),onlyIf 87 true 92 (ia' .rem 92 90 91),onlyIf 87 true 93 (mv' 93 7),onlyIf 87 true 94 (mv' 94 8),onlyIf 87 true 95 (ia' .sub 95 93 94),onlyIf 87 true 96 (mv' 96 7),onlyIf 87 true 97 (ia' .rem 97 95 96),onlyIf 87 true 98 (ia' .eql 98 92 97),to 99 (aPick (.tmp 87) (.tmp 98) (.const (.bool false))),mv' 6 99]
def W22_0:RC' H:=λO P ro=>cSeq (cSeq (cReg ZpT) (cIf (.tmp 31) (cSkip) (cExit 0))) (cSeq (cBlk 1 (cReg (ZpU O ro))) (cReg ZpV))
def F22:RC' H:=λO P ro=>cSeq (cReg ZpN) (cSeq (cReg ZpO) (cSeq (cReg ZpP) (cSeq (cReg ZpQ) (cSeq (cReg ZpR) (cSeq (cSeq (cReg ZpS) (cBlk 0 (cLoop (W22_0 O P ro)))) (cSeq (cReg (ZpW O ro)) (cSeq (cReg ZpX) (cSeq (cReg ZpY) (cSeq (cReg (ZpZ O ro)) (cSeq (cReg Zp0) (cSeq (cSeq (cReg Zp1) (cIf (.tmp 68) (cSeq (cReg Zp2) (cRet)) (cSkip))) (cSeq (cReg Zp3) (cSeq (cReg Zp4) (cRet))))))))))))))
theorem F22_fn:FN' 22 @F22 [.tmp 6] Tryz.f22:=f'n Tryz.func22
def Zp5:RL' H:=[mk' 4 0]
def Zp6:RL' H:=[mv' 5 0,ik' .lss 6 5 0]
def Zp7:RL' H:=[mv' 7 0,ik' .add 8 7 1,to 9 (aUn .neg (.tmp 8)),mv' 0 9]
def Zp8:RL' H:=[mv' 10 0,mv' 11 1,ia' .rem 12 10 11,mv' 4 12]
def F33:RC' H:=λO P ro=>cSeq (cReg Zp5) (cSeq (cSeq (cReg Zp6) (cIf (.tmp 6) (cReg Zp7) (cSkip))) (cSeq (cReg Zp8) (cRet)))
theorem F33_fn:FN' 33 @F33 [.tmp 4] Tryz.f33:=f'n Tryz.func33
def Zp9:RL' H:=[to 4 (aMove (.const (.pointer none)))]
def Zqa(O:HI H):RL' H:=[mv' 6 0,mv' 7 1,to 8 (aBuild #[.int .i64 0,.int .i64 0,.slice none 0 0,.slice none 0 0,.slice none 0 0,.int .i64 0] [(0,1),(1,1),(2,1),(3,1),(4,1),(5,1)] [(0,.tmp 6),(1,.tmp 7)]),to 9 (aBox O (.tmp 8)),mv' 5 9]
def Zqb(O:HI H)(ro:Nat):RL' H:=[mv' 10 5,mv' 11 1,to 12 (aMake O 1 8 #[.int .i64 0] (.tmp 11) (.tmp 11)),nl' 13 10,fl' 3 14 13,too (aSt O ro 1 (.tmp 14) (.tmp 12))]
def Zqc(O:HI H)(ro:Nat):RL' H:=[mv' 15 5,mv' 16 1,to 17 (aMake O 1 8 #[.int .i64 0] (.tmp 16) (.tmp 16)),nl' 18 15,fl' 4 19 18,too (aSt O ro 1 (.tmp 19) (.tmp 17))]
def Zqd:RL' H:=[mv' 20 5,mv' 4 20]
def F34:RC' H:=λO P ro=>cSeq (cReg Zp9) (cSeq (cReg (Zqa O)) (cSeq (cReg (Zqb O ro)) (cSeq (cReg (Zqc O ro)) (cSeq (cReg Zqd) (cRet)))))
theorem F34_fn:FN' 34 @F34 [.tmp 4] Tryz.f34:=f'n Tryz.func34
def Zqe:RL' H:=[mk' 4 0]
def Zqf(O:HI H):RL' H:=[mv' 5 0,nl' 6 5,fl' 0 7 6,ld' O 8 7,to 9 (aInt .add (.const (.int .i64 1)) (.tmp 8)),mv' 10 1,ia' .add 11 9 10,to 12 (aInt .mul (.const (.int .i64 2)) (.tmp 11)),mv' 4 12]
def F35:RC' H:=λO P ro=>cSeq (cReg Zqe) (cSeq (cReg (Zqf O)) (cRet))
theorem F35_fn:FN' 35 @F35 [.tmp 4] Tryz.f35:=f'n Tryz.func35
def Zqg:RL' H:=[mk' 6 0]
def Zqh(O:HI H)(ro:Nat):RL' H:=[mv' 7 0,mv' 8 0,nl' 9 8,fl' 2 10 9,ld' O 11 10,mv' 12 1,mv' 13 2,to 14 (aMkSl O 1 2 #[.int .i64 0] [(0,.tmp 12),(1,.tmp 13)]),to 15 (aApp O ro 1 8 (.tmp 11) (.tmp 14)),nl' 16 7,fl' 2 17 16,too (aSt O ro 1 (.tmp 17) (.tmp 15))]
def Zqi(O:HI H):RL' H:=[mv' 18 0,nl' 19 18,fl' 0 20 19,ld' O 21 20,mv' 22 0,nl' 23 22,fl' 1 24 23,ld' O 25 24,ia' .add 26 21 25,mv' 27 0,nl' 28 27,fl' 2 29 28,ld' O 30 29,ln' 31 30,ik' .quo 32 31 2,ia' .add 33 26 32,to 34 (aInt .mul (.const (.int .i64 2)) (.tmp 33)),mv' 6 34]
def F37:RC' H:=λO P ro=>cSeq (cReg Zqg) (cSeq (cReg (Zqh O ro)) (cSeq (cReg (Zqi O)) (cRet)))
theorem F37_fn:FN' 37 @F37 [.tmp 6] Tryz.f37:=f'n Tryz.func37
def Zqj:RL' H:=[to 2 (aMove (.const (.string { data:=#[] })))]
def Zqk(O:HI H):RL' H:=[mv' 14 0,nl' 15 14,fl' 2 16 15,ld' O 17 16,ln' 18 17,ik' .quo 19 18 2,mv' 3 19]
def Zql(O:HI H):RL' H:=[mv' 20 0,nl' 21 20,fl' 0 22 21,ld' O 23 22,mv' 24 0,nl' 25 24,fl' 1 26 25,ld' O 27 26,ia' .add 28 23 27,mv' 29 3,ia' .add 30 28 29,mv' 31 0,nl' 32 31,fl' 0 33 32,ld' O 34 33,mv' 35 0,nl' 36 35,fl' 1 37 36,ld' O 38 37,mv' 39 3,to 40 (aMkSl O 1 6 #[.int .i64 0] [(0,.tmp 30),(1,.tmp 34),(2,.tmp 38),(3,.const (.int .i64 0)),(4,.tmp 39),(5,.const (.int .i64 1))]),to 41 (aCall 75 [.tmp 40]),mv' 4 41]
def Zqm:RL' H:=[mv' 42 4,to 43 (aStr .add (.const (.string { data:=#[97,97,103,32] })) (.tmp 42)),mv' 5 43]
def Zqn:RL' H:=[mk' 6 0]
def Zqo(O:HI H):RL' H:=[mv' 44 6,mv' 45 0,nl' 46 45,fl' 0 47 46,ld' O 48 47,ia' .lss 49 44 48]
def Zqp:RL' H:=[mv' 52 0,mv' 53 6,to 54 (aCall 42 [.tmp 52,.tmp 53]),mv' 7 54]
def Zqq(O:HI H):RL' H:=[mv' 55 7,to 56 (aMkSl O 1 1 #[.int .i64 0] [(0,.tmp 55)]),to 57 (aCall 75 [.tmp 56]),mv' 8 57]
def Zqr:RL' H:=[mv' 58 5,mv' 59 8,to 60 (aStr .add (.tmp 58) (.tmp 59)),mv' 5 60]
def Zqs:RL' H:=[mv' 50 6,ik' .add 51 50 1,mv' 6 51]
def Zqt:RL' H:=[mk' 9 0]
def Zqu(O:HI H):RL' H:=[mv' 61 9,mv' 62 0,nl' 63 62,fl' 1 64 63,ld' O 65 64,ia' .lss 66 61 65]
def Zqv:RL' H:=[mv' 69 0,mv' 70 9,to 71 (aCall 35 [.tmp 69,.tmp 70]),mv' 10 71]
def Zqw(O:HI H):RL' H:=[mv' 72 10,mv' 73 0,nl' 74 73,fl' 3 75 74,ld' O 76 75,mv' 77 9,ix' 1 78 76 77,ld' O 79 78,mv' 80 0,nl' 81 80,fl' 4 82 81,ld' O 83 82,mv' 84 9,ix' 1 85 83 84,ld' O 86 85,to 87 (aMkSl O 1 3 #[.int .i64 0] [(0,.tmp 72),(1,.tmp 79),(2,.tmp 86)]),to 88 (aCall 75 [.tmp 87]),mv' 11 88]
def Zqx:RL' H:=[mv' 89 5,mv' 90 11,to 91 (aStr .add (.tmp 89) (.tmp 90)),mv' 5 91]
def Zqy:RL' H:=[mv' 67 9,ik' .add 68 67 1,mv' 9 68]
def Zqz(O:HI H):RL' H:=[mv' 92 0,nl' 93 92,fl' 5 94 93,ld' O 95 94,to 96 (aMkSl O 1 1 #[.int .i64 0] [(0,.tmp 95)]),to 97 (aCall 75 [.tmp 96]),mv' 12 97]
def ZqA:RL' H:=[mv' 98 5,mv' 99 12,to 100 (aStr .add (.tmp 98) (.tmp 99)),mv' 5 100]
def ZqB:RL' H:=[mv' 101 3,ik' .sub 102 101 1,mv' 13 102]
def ZqC:RL' H:=[mv' 103 13,ik' .geq 104 103 0]
def ZqD(O:HI H):RL' H:=[mv' 107 0,nl' 108 107,fl' 0 109 108,ld' O 110 109,to 111 (aInt .add (.const (.int .i64 1)) (.tmp 110)),mv' 112 0,nl' 113 112,fl' 1 114 113,ld' O 115 114,ia' .add 116 111 115,mv' 117 13,ia' .add 118 116 117,to 119 (aInt .mul (.const (.int .i64 2)) (.tmp 118)),mv' 120 0,nl' 121 120,fl' 2 122 121,ld' O 123 122,mv' 124 13,to 125 (aInt .mul (.const (.int .i64 2)) (.tmp 124)),ix' 1 126 123 125,ld' O 127 126,mv' 128 0,nl' 129 128,fl' 2 130 129,ld' O 131 130,mv' 132 13,to 133 (aInt .mul (.const (.int .i64 2)) (.tmp 132)),ik' .add 134 133 1,ix' 1 135 131 134,ld' O 136 135,to 137 (aMkSl O 1 3 #[.int .i64 0] [(0,.tmp 119),(1,.tmp 127),(2,.tmp 136)]),to 138 (aCall 75 [.tmp 137]),mv' 12 138]
def ZqE:RL' H:=[mv' 139 5,mv' 140 12,to 141 (aStr .add (.tmp 139) (.tmp 140)),mv' 5 141]
def ZqF:RL' H:=[mv' 105 13,ik' .sub 106 105 1,mv' 13 106]
def ZqG:RL' H:=[mv' 142 5,mv' 2 142]
def W39_0:RC' H:=λO P ro=>cSeq (cSeq (cReg (Zqo O)) (cIf (.tmp 49) (cSkip) (cExit 0))) (cSeq (cBlk 1 (cSeq (cReg Zqp) (cSeq (cReg (Zqq O)) (cReg Zqr)))) (cReg Zqs))
def W39_1:RC' H:=λO P ro=>cSeq (cSeq (cReg (Zqu O)) (cIf (.tmp 66) (cSkip) (cExit 2))) (cSeq (cBlk 3 (cSeq (cReg Zqv) (cSeq (cReg (Zqw O)) (cReg Zqx)))) (cReg Zqy))
def W39_2:RC' H:=λO P ro=>cSeq (cSeq (cReg ZqC) (cIf (.tmp 104) (cSkip) (cExit 4))) (cSeq (cBlk 5 (cSeq (cReg (ZqD O)) (cReg ZqE))) (cReg ZqF))
def F39:RC' H:=λO P ro=>cSeq (cReg Zqj) (cSeq (cReg (Zqk O)) (cSeq (cReg (Zql O)) (cSeq (cReg Zqm) (cSeq (cSeq (cReg Zqn) (cBlk 0 (cLoop (W39_0 O P ro)))) (cSeq (cSeq (cReg Zqt) (cBlk 2 (cLoop (W39_1 O P ro)))) (cSeq (cReg (Zqz O)) (cSeq (cReg ZqA) (cSeq (cSeq (cReg ZqB) (cBlk 4 (cLoop (W39_2 O P ro)))) (cSeq (cReg ZqG) (cRet))))))))))
theorem F39_fn:FN' 39 @F39 [.tmp 2] Tryz.f39:=f'n Tryz.func39
def ZqH:RL' H:=[to 2 (aMove (.const (.slice none 0 0))),mk' 3 0,to 4 (aMove (.const (.bool false)))]
def ZqI:RL' H:=[mv' 8 0,to 9 (aCall 16 [.tmp 8,.const (.int .i64 1152921504606846976)]),mv' 5 9]
def ZqJ:RL' H:=[mv' 10 0,to 11 (aCall 16 [.tmp 10,.const (.int .i64 0)]),mv' 6 11]
def ZqK:RL' H:=[mv' 12 5,to 13 (aPtrNil false (.tmp 12) (.const (.pointer none))),mv' 14 13,onlyIf 14 false 15 (mv' 15 6),onlyIf 14 false 16 (to 16 (aPtrNil false (.tmp 15) (.const (.pointer none)))),to 17 (aPick (.tmp 14) (.const (.bool true)) (.tmp 16))]
def ZqL:RL' H:=[to 2 (aMove (.const (.slice none 0 0))),mk' 3 0,to 4 (aMove (.const (.bool false)))]
def ZqM(O:HI H):RL' H:=[mv' 18 5,nl' 19 18,fl' 0 20 19,ld' O 21 20,ik' .eql 22 21 2,mv' 23 22,onlyIf 23 true 24 (mv' 24 6),onlyIf 23 true 25 (nl' 25 24),onlyIf 23 true 26 (fl' 0 26 25),onlyIf 23 true 27 (ld' O 27 26),onlyIf 23 true 28 (ik' .eql 28 27 2),onlyIf 23 true 29 (mv' 29 28),onlyIf 29 false 30 (mv' 30 6),onlyIf 29 false 31 (nl' 31 30),onlyIf 29 false 32 (fl' 0 32 31),onlyIf 29 false 33 (ld' O 33 32),onlyIf 29 false 34 (ik' .eql 34 33 3),onlyIf 23 true 35 (to 35 (aPick (.tmp 29) (.const (.bool true)) (.tmp 34))),to 36 (aPick (.tmp 23) (.tmp 35) (.const (.bool false))),mv' 7 36]
def ZqN(O:HI H):RL' H:=[mv' 37 5,nl' 38 37,fl' 5 39 38,ld' O 40 39,mv' 41 5,nl' 42 41,fl' 4 43 42,ld' O 44 43,mv' 45 7,mv' 2 40,mv' 3 44,mv' 4 45]
def F40:RC' H:=λO P ro=>cSeq (cReg ZqH) (cSeq (cReg ZqI) (cSeq (cReg ZqJ) (cSeq (cSeq (cReg ZqK) (cIf (.tmp 17) (cSeq (cReg ZqL) (cRet)) (cSkip))) (cSeq (cReg (ZqM O)) (cSeq (cReg (ZqN O)) (cRet))))))
theorem F40_fn:FN' 40 @F40 [.tmp 2,.tmp 3,.tmp 4] Tryz.f40:=f'n Tryz.func40
def ZqO:RL' H:=[to 2 (aMove (.const (.bool false)))]
def ZqP:RL' H:=[mv' 6 0,to 7 (aCall 16 [.tmp 6,.const (.int .i64 1152921504606846976)]),mv' 3 7]
def ZqQ:RL' H:=[mv' 8 0,to 9 (aCall 16 [.tmp 8,.const (.int .i64 0)]),mv' 4 9]
def ZqR:RL' H:=[mv' 10 3,to 11 (aPtrNil false (.tmp 10) (.const (.pointer none))),mv' 12 11,onlyIf 12 false 13 (mv' 13 4),onlyIf 12 false 14 (to 14 (aPtrNil false (.tmp 13) (.const (.pointer none)))),to 15 (aPick (.tmp 12) (.const (.bool true)) (.tmp 14))]
def ZqS:RL' H:=[to 2 (aMove (.const (.bool false)))]
def ZqT(O:HI H):RL' H:=[mv' 16 3,nl' 17 16,fl' 1 18 17,to 19 (aLdN O 2 (.tmp 18)),to 20 (aBuild #[.int .i64 0,.int .i64 0] [(0,1),(1,1)] []),to 21 (aAggEq false 2 (.tmp 19) (.tmp 20)),mv' 5 21]
def ZqU(O:HI H):RL' H:=[mv' 22 5,mv' 23 22,onlyIf 23 true 24 (mv' 24 3),onlyIf 23 true 25 (nl' 25 24),onlyIf 23 true 26 (fl' 0 26 25),onlyIf 23 true 27 (ld' O 27 26),onlyIf 23 true 28 (ik' .eql 28 27 1),to 29 (aPick (.tmp 23) (.tmp 28) (.const (.bool false))),mv' 30 29,onlyIf 30 true 31 (mv' 31 4),onlyIf 30 true 32 (nl' 32 31),onlyIf 30 true 33 (fl' 0 33 32),onlyIf 30 true 34 (ld' O 34 33),onlyIf 30 true 35 (ik' .eql 35 34 1),onlyIf 30 true 36 (mv' 36 35),onlyIf 36 false 37 (mv' 37 4),onlyIf 36 false 38 (nl' 38 37),onlyIf 36 false 39 (fl' 0 39 38),onlyIf 36 false 40 (ld' O 40 39),onlyIf 36 false 41 (ik' .eql 41 40 3),onlyIf 30 true 42 (to 42 (aPick (.tmp 36) (.const (.bool true)) (.tmp 41))),to 43 (aPick (.tmp 30) (.tmp 42) (.const (.bool false))),mv' 2 43]
def F41:RC' H:=λO P ro=>cSeq (cReg ZqO) (cSeq (cReg ZqP) (cSeq (cReg ZqQ) (cSeq (cSeq (cReg ZqR) (cIf (.tmp 15) (cSeq (cReg ZqS) (cRet)) (cSkip))) (cSeq (cReg (ZqT O)) (cSeq (cReg (ZqU O)) (cRet))))))
theorem F41_fn:FN' 41 @F41 [.tmp 2] Tryz.f41:=f'n Tryz.func41
def ZqV:RL' H:=[mk' 4 0]
def ZqW:RL' H:=[mv' 5 1,to 6 (aInt .add (.const (.int .i64 1)) (.tmp 5)),to 7 (aInt .mul (.const (.int .i64 2)) (.tmp 6)),mv' 4 7]
def F42:RC' H:=λO P ro=>cSeq (cReg ZqV) (cSeq (cReg ZqW) (cRet))
theorem F42_fn:FN' 42 @F42 [.tmp 4] Tryz.f42:=f'n Tryz.func42
def ZqX:RL' H:=[to 2 (aMove (.const (.string { data:=#[] })))]
def ZqY:RL' H:=[to 3 (aMove (.const (.string { data:=#[] })))]
def ZqZ:RL' H:=[mk' 4 0]
def Zq0:RL' H:=[mv' 6 4,mv' 7 0,ln' 8 7,ia' .lss 9 6 8]
def Zq1:RL' H:=[mv' 12 4,ik' .gtr 13 12 0]
def Zq2:RL' H:=[mv' 14 3,to 15 (aStr .add (.tmp 14) (.const (.string { data:=#[32] }))),mv' 3 15]
def Zq3(O:HI H):RL' H:=[mv' 16 0,mv' 17 4,ix' 1 18 16 17,ld' O 19 18,to 20 (aCall 130 [.tmp 19]),mv' 5 20]
def Zq4:RL' H:=[mv' 21 3,mv' 22 5,to 23 (aStr .add (.tmp 21) (.tmp 22)),mv' 3 23]
def Zq5:RL' H:=[mv' 10 4,ik' .add 11 10 1,mv' 4 11]
def Zq6:RL' H:=[mv' 24 3,to 25 (aStr .add (.tmp 24) (.const (.string { data:=#[10] }))),mv' 2 25]
def W75_0:RC' H:=λO P ro=>cSeq (cSeq (cReg Zq0) (cIf (.tmp 9) (cSkip) (cExit 0))) (cSeq (cBlk 1 (cSeq (cSeq (cReg Zq1) (cIf (.tmp 13) (cReg Zq2) (cSkip))) (cSeq (cReg (Zq3 O)) (cReg Zq4)))) (cReg Zq5))
def F75:RC' H:=λO P ro=>cSeq (cReg ZqX) (cSeq (cReg ZqY) (cSeq (cSeq (cReg ZqZ) (cBlk 0 (cLoop (W75_0 O P ro)))) (cSeq (cReg Zq6) (cRet))))
theorem F75_fn:FN' 75 @F75 [.tmp 2] Tryz.f75:=f'n Tryz.func75
def Zq7:RL' H:=[to 2 (aMove (.const (.string { data:=#[] })))]
def Zq8:RL' H:=[mv' 4 0,ik' .lss 5 4 10]
def Zq9(O:HI H):RL' H:=[mv' 6 0,to 7 (aInt .add (.const (.int .i64 48)) (.tmp 6)),to 8 (aConv .u8 (.tmp 7)),to 9 (aMkSl O 1 1 #[.int .u8 0] [(0,.tmp 8)]),to 10 (aB2S O (.tmp 9)),mv' 2 10]
def Zra:RL' H:=[mv' 11 0,ik' .quo 12 11 10,to 13 (aCall 130 [.tmp 12]),mv' 3 13]
def Zrb(O:HI H):RL' H:=[mv' 14 3,mv' 15 0,ik' .rem 16 15 10,to 17 (aInt .add (.const (.int .i64 48)) (.tmp 16)),to 18 (aConv .u8 (.tmp 17)),to 19 (aMkSl O 1 1 #[.int .u8 0] [(0,.tmp 18)]),to 20 (aB2S O (.tmp 19)),to 21 (aStr .add (.tmp 14) (.tmp 20)),mv' 2 21]
def F130:RC' H:=λO P ro=>cSeq (cReg Zq7) (cSeq (cSeq (cReg Zq8) (cIf (.tmp 5) (cSeq (cReg (Zq9 O)) (cRet)) (cSkip))) (cSeq (cReg Zra) (cSeq (cReg (Zrb O)) (cRet))))
theorem F130_fn:FN' 130 @F130 [.tmp 2] Tryz.f130:=f'n Tryz.func130
end
end Go.Proofs.YtimdkminagnhgaaGreatDoor
