import Derived.Test.YtimdkminagnhgaaGreatDoorQ04
import Derived.Test.YtimdkminagnhgaaGreatDoorProg
import Derived.KernelRfl
import Derived.Test.YtimdkminagnhgaaGreatDoorQ05
set_option linter.all false
namespace Go.Proofs.YtimdkminagnhgaaGreatDoor
open Go.Vm Go.Proofs
set_option maxRecDepth 100000
section
variable {H:Type}
def ZpL:RL' H:=[to 6 (aMove (.const (.bool false)))]
def ZpM:RL' H:=[mv' 7 0,mv' 8 1,mv' 9 2,to 10 (aCall 23 [.tmp 7,.tmp 8,.tmp 9]),mv' 6 10]
def F14:RC' H:=λO P ro=>cSeq (cReg ZpL) (cSeq (cReg ZpM) (cRet))
theorem F14_fn:FN' 14 @F14 [.tmp 6] Tryz.f14:=f'n Tryz.func14
def ZpN:RL' H:=[to 6 (aMove (.const (.bool false)))]
def ZpO:RL' H:=[mv' 17 0,to 18 (aCall 33 [.tmp 17,.const (.int .i64 6)]),to 19 (aInt .add (.const (.int .i64 1)) (.tmp 18)),mv' 7 19]
def ZpP:RL' H:=[mv' 20 1,mv' 21 7,to 22 (aShift .shl (.const (.int .i64 1)) (.tmp 21)),ik' .sub 23 22 1,ia' .and 24 20 23,mv' 8 24]
def ZpQ:RL' H:=[mv' 25 7,to 26 (aCall 34 [.const (.int .i64 0),.tmp 25]),mv' 9 26]
def ZpR:RL' H:=[mk' 10 0]
def ZpS:RL' H:=[mv' 27 10,mv' 28 7,ia' .lss 29 27 28]
def ZpT(O:HI H)(ro:Nat):RL' H:=[mv' 32 9,nl' 33 32,fl' 3 34 33,ld' O 35 34,mv' 36 10,mv' 37 9,mv' 38 10,to 39 (aCall 35 [.tmp 37,.tmp 38]),ix' 1 40 35 36,too (aSt O ro 1 (.tmp 40) (.tmp 39))]
def ZpU(O:HI H)(ro:Nat):RL' H:=[mv' 41 9,nl' 42 41,fl' 4 43 42,ld' O 44 43,mv' 45 10,mv' 46 8,mv' 47 10,to 48 (aShift .shr (.tmp 46) (.tmp 47)),ik' .and 49 48 1,ix' 1 50 44 45,too (aSt O ro 1 (.tmp 50) (.tmp 49))]
def ZpV:RL' H:=[mv' 30 10,ik' .add 31 30 1,mv' 10 31]
def ZpW(O:HI H)(ro:Nat):RL' H:=[mv' 51 9,mv' 52 9,mv' 53 8,to 54 (aCall 38 [.tmp 52,.tmp 53]),nl' 55 51,fl' 5 56 55,too (aSt O ro 1 (.tmp 56) (.tmp 54))]
def ZpX:RL' H:=[mv' 57 9,to 58 (aCall 39 [.tmp 57]),mv' 11 58]
def ZpY:RL' H:=[mv' 60 11,to 61 (aCall 40 [.tmp 60]),mv' 59 61,to 62 (aExt (.tmp 59) 0),to 63 (aExt (.tmp 59) 1),to 64 (aExt (.tmp 59) 2),mv' 12 62,mv' 13 63,mv' 14 64]
def ZpZ:RL' H:=[mv' 65 14,to 66 (aUn .not (.tmp 65)),mv' 67 66,onlyIf 67 false 68 (mv' 68 13),onlyIf 67 false 69 (mv' 69 8),onlyIf 67 false 70 (ia' .neq 70 68 69),to 71 (aPick (.tmp 67) (.const (.bool true)) (.tmp 70)),mv' 72 71,onlyIf 72 false 73 (mv' 73 12),onlyIf 72 false 74 (ln' 74 73),onlyIf 72 false 75 (ik' .eql 75 74 0),to 76 (aPick (.tmp 72) (.const (.bool true)) (.tmp 75))]
def Zp0:RL' H:=[to 6 (aMove (.const (.bool false)))]
def Zp1:RL' H:=[mv' 77 2,mv' 78 7,to 79 (aCall 33 [.tmp 77,.tmp 78]),mv' 15 79]
def Zp2:RL' H:=[mv' 80 7,to 81 (aCall 34 [.const (.int .i64 0),.tmp 80]),mv' 16 81]
def Zp3(O:HI H)(P:Program)(ro:Nat):RL' H:=[mv' 82 16,nl' 83 82,fl' 3 84 83,ld' O 85 84,mv' 86 9,nl' 87 86,fl' 3 88 87,ld' O 89 88,to 90 (aAny O P ro (.call { callee:=.builtin .copy,args:=#[.tmp 85,.tmp 89],argTypes:=#[40,40] }))]
def Zp4(O:HI H)(P:Program)(ro:Nat):RL' H:=[mv' 91 16,nl' 92 91,fl' 4 93 92,ld' O 94 93,mv' 95 9,nl' 96 95,fl' 4 97 96,ld' O 98 97,to 99 (aAny O P ro (.call { callee:=.builtin .copy,args:=#[.tmp 94,.tmp 98],argTypes:=#[40,40] }))]
def Zp5(O:HI H)(ro:Nat):RL' H:=[mv' 100 16,mv' 101 16,mv' 102 8,mv' 103 15,to 104 (aShift .shl (.const (.int .i64 1)) (.tmp 103)),ia' .xor 105 102 104,to 106 (aCall 38 [.tmp 101,.tmp 105]),nl' 107 100,fl' 5 108 107,too (aSt O ro 1 (.tmp 108) (.tmp 106))]
def Zp6:RL' H:=[mv' 109 16,to 110 (aCall 39 [.tmp 109]),mv' 11 110]
def Zp7:RL' H:=[mv' 111 11,to 112 (aCall 41 [.tmp 111]),mv' 14 112]
def Zp8:RL' H:=[mv' 113 14,to 114 (aUn .not (.tmp 113))]
def Zp9:RL' H:=[to 6 (aMove (.const (.bool false)))]
def Zqa(O:HI H)(ro:Nat):RL' H:=[mv' 115 16,nl' 116 115,fl' 4 117 116,ld' O 118 117,mv' 119 15,mv' 120 16,mv' 121 15,to 122 (aCall 35 [.tmp 120,.tmp 121]),ix' 1 123 118 119,too (aSt O ro 1 (.tmp 123) (.tmp 122))]
def Zqb:RL' H:=[mv' 124 16,to 125 (aCall 39 [.tmp 124]),mv' 11 125]
def Zqc:RL' H:=[mv' 127 11,to 128 (aCall 40 [.tmp 127]),mv' 126 128,to 129 (aExt (.tmp 126) 0),to 130 (aExt (.tmp 126) 1),to 131 (aExt (.tmp 126) 2),mv' 12 129,mv' 13 130,mv' 14 131]
def Zqd:RL' H:=[mv' 132 14,mv' 133 132,onlyIf 133 true 134 (mv' 134 13),onlyIf 133 true 135 (mv' 135 8),onlyIf 133 true 136 (mv' 136 15),onlyIf 133 true 137 (to 137 (aShift .shl (.const (.int .i64 1)) (.tmp 136))),onlyIf 133 true 138 (ia' .xor 138 135 137),onlyIf 133 true 139 (ia' .eql 139 134 138),to 140 (aPick (.tmp 133) (.tmp 139) (.const (.bool false))),mv' 141 140,onlyIf 141 true 142 (mv' 142 12),onlyIf 141 true 143 (ln' 143 142),onlyIf 141 true 144 (ik' .gtr 144 143 0),to 145 (aPick (.tmp 141) (.tmp 144) (.const (.bool false))),mv' 6 145]
def W23_0:RC' H:=λO P ro=>cSeq (cSeq (cReg ZpS) (cIf (.tmp 29) (cSkip) (cExit 0))) (cSeq (cBlk 1 (cSeq (cReg (ZpT O ro)) (cReg (ZpU O ro)))) (cReg ZpV))
def F23:RC' H:=λO P ro=>cSeq (cReg ZpN) (cSeq (cReg ZpO) (cSeq (cReg ZpP) (cSeq (cReg ZpQ) (cSeq (cSeq (cReg ZpR) (cBlk 0 (cLoop (W23_0 O P ro)))) (cSeq (cReg (ZpW O ro)) (cSeq (cReg ZpX) (cSeq (cReg ZpY) (cSeq (cSeq (cReg ZpZ) (cIf (.tmp 76) (cSeq (cReg Zp0) (cRet)) (cSkip))) (cSeq (cReg Zp1) (cSeq (cReg Zp2) (cSeq (cReg (Zp3 O P ro)) (cSeq (cReg (Zp4 O P ro)) (cSeq (cReg (Zp5 O ro)) (cSeq (cReg Zp6) (cSeq (cReg Zp7) (cSeq (cSeq (cReg Zp8) (cIf (.tmp 114) (cSeq (cReg Zp9) (cRet)) (cSkip))) (cSeq (cReg (Zqa O ro)) (cSeq (cReg Zqb) (cSeq (cReg Zqc) (cSeq (cReg Zqd) (cRet)))))))))))))))))))))
theorem F23_fn:FN' 23 @F23 [.tmp 6] Tryz.f23:=f'n Tryz.func23
def Zqe:RL' H:=[mk' 4 0]
def Zqf:RL' H:=[mv' 5 0,ik' .lss 6 5 0]
def Zqg:RL' H:=[mv' 7 0,ik' .add 8 7 1,to 9 (aUn .neg (.tmp 8)),mv' 0 9]
def Zqh:RL' H:=[mv' 10 0,mv' 11 1,ia' .rem 12 10 11,mv' 4 12]
def F33:RC' H:=λO P ro=>cSeq (cReg Zqe) (cSeq (cSeq (cReg Zqf) (cIf (.tmp 6) (cReg Zqg) (cSkip))) (cSeq (cReg Zqh) (cRet)))
theorem F33_fn:FN' 33 @F33 [.tmp 4] Tryz.f33:=f'n Tryz.func33
def Zqi:RL' H:=[to 4 (aMove (.const (.pointer none)))]
def Zqj(O:HI H):RL' H:=[mv' 6 0,mv' 7 1,to 8 (aBuild #[.int .i64 0,.int .i64 0,.slice none 0 0,.slice none 0 0,.slice none 0 0,.int .i64 0] [(0,1),(1,1),(2,1),(3,1),(4,1),(5,1)] [(0,.tmp 6),(1,.tmp 7)]),to 9 (aBox O (.tmp 8)),mv' 5 9]
def Zqk(O:HI H)(ro:Nat):RL' H:=[mv' 10 5,mv' 11 1,to 12 (aMake O 1 8 #[.int .i64 0] (.tmp 11) (.tmp 11)),nl' 13 10,fl' 3 14 13,too (aSt O ro 1 (.tmp 14) (.tmp 12))]
def Zql(O:HI H)(ro:Nat):RL' H:=[mv' 15 5,mv' 16 1,to 17 (aMake O 1 8 #[.int .i64 0] (.tmp 16) (.tmp 16)),nl' 18 15,fl' 4 19 18,too (aSt O ro 1 (.tmp 19) (.tmp 17))]
def Zqm:RL' H:=[mv' 20 5,mv' 4 20]
def F34:RC' H:=λO P ro=>cSeq (cReg Zqi) (cSeq (cReg (Zqj O)) (cSeq (cReg (Zqk O ro)) (cSeq (cReg (Zql O ro)) (cSeq (cReg Zqm) (cRet)))))
theorem F34_fn:FN' 34 @F34 [.tmp 4] Tryz.f34:=f'n Tryz.func34
def Zqn:RL' H:=[mk' 4 0]
def Zqo(O:HI H):RL' H:=[mv' 5 0,nl' 6 5,fl' 0 7 6,ld' O 8 7,to 9 (aInt .add (.const (.int .i64 1)) (.tmp 8)),mv' 10 1,ia' .add 11 9 10,to 12 (aInt .mul (.const (.int .i64 2)) (.tmp 11)),mv' 4 12]
def F35:RC' H:=λO P ro=>cSeq (cReg Zqn) (cSeq (cReg (Zqo O)) (cRet))
theorem F35_fn:FN' 35 @F35 [.tmp 4] Tryz.f35:=f'n Tryz.func35
def Zqp:RL' H:=[mk' 6 0]
def Zqq(O:HI H)(ro:Nat):RL' H:=[mv' 7 0,mv' 8 0,nl' 9 8,fl' 2 10 9,ld' O 11 10,mv' 12 1,mv' 13 2,to 14 (aMkSl O 1 2 #[.int .i64 0] [(0,.tmp 12),(1,.tmp 13)]),to 15 (aApp O ro 1 8 (.tmp 11) (.tmp 14)),nl' 16 7,fl' 2 17 16,too (aSt O ro 1 (.tmp 17) (.tmp 15))]
def Zqr(O:HI H):RL' H:=[mv' 18 0,nl' 19 18,fl' 0 20 19,ld' O 21 20,mv' 22 0,nl' 23 22,fl' 1 24 23,ld' O 25 24,ia' .add 26 21 25,mv' 27 0,nl' 28 27,fl' 2 29 28,ld' O 30 29,ln' 31 30,ik' .quo 32 31 2,ia' .add 33 26 32,to 34 (aInt .mul (.const (.int .i64 2)) (.tmp 33)),mv' 6 34]
def F37:RC' H:=λO P ro=>cSeq (cReg Zqp) (cSeq (cReg (Zqq O ro)) (cSeq (cReg (Zqr O)) (cRet)))
theorem F37_fn:FN' 37 @F37 [.tmp 6] Tryz.f37:=f'n Tryz.func37
def Zqs:RL' H:=[mk' 4 0]
def Zqt:RL' H:=[mk' 5 1]
def Zqu:RL' H:=[mk' 6 0]
def Zqv(O:HI H):RL' H:=[mv' 8 6,mv' 9 0,nl' 10 9,fl' 1 11 10,ld' O 12 11,ia' .lss 13 8 12]
def Zqw:RL' H:=[mv' 16 0,mv' 17 6,to 18 (aCall 35 [.tmp 16,.tmp 17]),mv' 7 18]
def Zqx:RL' H:=[mv' 19 0,mv' 20 5,mv' 21 7,ik' .xor 22 21 1,mv' 23 1,mv' 24 6,to 25 (aShift .shr (.tmp 23) (.tmp 24)),ik' .and 26 25 1,ia' .xor 27 22 26,to 28 (aCall 37 [.tmp 19,.tmp 20,.tmp 27]),mv' 5 28]
def Zqy:RL' H:=[mv' 14 6,ik' .add 15 14 1,mv' 6 15]
def Zqz:RL' H:=[mv' 29 5,mv' 4 29]
def W38_0:RC' H:=λO P ro=>cSeq (cSeq (cReg (Zqv O)) (cIf (.tmp 13) (cSkip) (cExit 0))) (cSeq (cBlk 1 (cSeq (cReg Zqw) (cReg Zqx))) (cReg Zqy))
def F38:RC' H:=λO P ro=>cSeq (cReg Zqs) (cSeq (cReg Zqt) (cSeq (cSeq (cReg Zqu) (cBlk 0 (cLoop (W38_0 O P ro)))) (cSeq (cReg Zqz) (cRet))))
theorem F38_fn:FN' 38 @F38 [.tmp 4] Tryz.f38:=f'n Tryz.func38
def ZqA:RL' H:=[to 2 (aMove (.const (.string { data:=#[] })))]
def ZqB(O:HI H):RL' H:=[mv' 14 0,nl' 15 14,fl' 2 16 15,ld' O 17 16,ln' 18 17,ik' .quo 19 18 2,mv' 3 19]
def ZqC(O:HI H):RL' H:=[mv' 20 0,nl' 21 20,fl' 0 22 21,ld' O 23 22,mv' 24 0,nl' 25 24,fl' 1 26 25,ld' O 27 26,ia' .add 28 23 27,mv' 29 3,ia' .add 30 28 29,mv' 31 0,nl' 32 31,fl' 0 33 32,ld' O 34 33,mv' 35 0,nl' 36 35,fl' 1 37 36,ld' O 38 37,mv' 39 3,to 40 (aMkSl O 1 6 #[.int .i64 0] [(0,.tmp 30),(1,.tmp 34),(2,.tmp 38),(3,.const (.int .i64 0)),(4,.tmp 39),(5,.const (.int .i64 1))]),to 41 (aCall 75 [.tmp 40]),mv' 4 41]
def ZqD:RL' H:=[mv' 42 4,to 43 (aStr .add (.const (.string { data:=#[97,97,103,32] })) (.tmp 42)),mv' 5 43]
def ZqE:RL' H:=[mk' 6 0]
def ZqF(O:HI H):RL' H:=[mv' 44 6,mv' 45 0,nl' 46 45,fl' 0 47 46,ld' O 48 47,ia' .lss 49 44 48]
def ZqG:RL' H:=[mv' 52 0,mv' 53 6,to 54 (aCall 42 [.tmp 52,.tmp 53]),mv' 7 54]
def ZqH(O:HI H):RL' H:=[mv' 55 7,to 56 (aMkSl O 1 1 #[.int .i64 0] [(0,.tmp 55)]),to 57 (aCall 75 [.tmp 56]),mv' 8 57]
def ZqI:RL' H:=[mv' 58 5,mv' 59 8,to 60 (aStr .add (.tmp 58) (.tmp 59)),mv' 5 60]
def ZqJ:RL' H:=[mv' 50 6,ik' .add 51 50 1,mv' 6 51]
def ZqK:RL' H:=[mk' 9 0]
def ZqL(O:HI H):RL' H:=[mv' 61 9,mv' 62 0,nl' 63 62,fl' 1 64 63,ld' O 65 64,ia' .lss 66 61 65]
def ZqM:RL' H:=[mv' 69 0,mv' 70 9,to 71 (aCall 35 [.tmp 69,.tmp 70]),mv' 10 71]
def ZqN(O:HI H):RL' H:=[mv' 72 10,mv' 73 0,nl' 74 73,fl' 3 75 74,ld' O 76 75,mv' 77 9,ix' 1 78 76 77,ld' O 79 78,mv' 80 0,nl' 81 80,fl' 4 82 81,ld' O 83 82,mv' 84 9,ix' 1 85 83 84,ld' O 86 85,to 87 (aMkSl O 1 3 #[.int .i64 0] [(0,.tmp 72),(1,.tmp 79),(2,.tmp 86)]),to 88 (aCall 75 [.tmp 87]),mv' 11 88]
def ZqO:RL' H:=[mv' 89 5,mv' 90 11,to 91 (aStr .add (.tmp 89) (.tmp 90)),mv' 5 91]
def ZqP:RL' H:=[mv' 67 9,ik' .add 68 67 1,mv' 9 68]
def ZqQ(O:HI H):RL' H:=[mv' 92 0,nl' 93 92,fl' 5 94 93,ld' O 95 94,to 96 (aMkSl O 1 1 #[.int .i64 0] [(0,.tmp 95)]),to 97 (aCall 75 [.tmp 96]),mv' 12 97]
def ZqR:RL' H:=[mv' 98 5,mv' 99 12,to 100 (aStr .add (.tmp 98) (.tmp 99)),mv' 5 100]
def ZqS:RL' H:=[mv' 101 3,ik' .sub 102 101 1,mv' 13 102]
def ZqT:RL' H:=[mv' 103 13,ik' .geq 104 103 0]
def ZqU(O:HI H):RL' H:=[mv' 107 0,nl' 108 107,fl' 0 109 108,ld' O 110 109,to 111 (aInt .add (.const (.int .i64 1)) (.tmp 110)),mv' 112 0,nl' 113 112,fl' 1 114 113,ld' O 115 114,ia' .add 116 111 115,mv' 117 13,ia' .add 118 116 117,to 119 (aInt .mul (.const (.int .i64 2)) (.tmp 118)),mv' 120 0,nl' 121 120,fl' 2 122 121,ld' O 123 122,mv' 124 13,to 125 (aInt .mul (.const (.int .i64 2)) (.tmp 124)),ix' 1 126 123 125,ld' O 127 126,mv' 128 0,nl' 129 128,fl' 2 130 129,ld' O 131 130,mv' 132 13,to 133 (aInt .mul (.const (.int .i64 2)) (.tmp 132)),ik' .add 134 133 1,ix' 1 135 131 134,ld' O 136 135,to 137 (aMkSl O 1 3 #[.int .i64 0] [(0,.tmp 119),(1,.tmp 127),(2,.tmp 136)]),to 138 (aCall 75 [.tmp 137]),mv' 12 138]
def ZqV:RL' H:=[mv' 139 5,mv' 140 12,to 141 (aStr .add (.tmp 139) (.tmp 140)),mv' 5 141]
def ZqW:RL' H:=[mv' 105 13,ik' .sub 106 105 1,mv' 13 106]
def ZqX:RL' H:=[mv' 142 5,mv' 2 142]
def W39_0:RC' H:=λO P ro=>cSeq (cSeq (cReg (ZqF O)) (cIf (.tmp 49) (cSkip) (cExit 0))) (cSeq (cBlk 1 (cSeq (cReg ZqG) (cSeq (cReg (ZqH O)) (cReg ZqI)))) (cReg ZqJ))
def W39_1:RC' H:=λO P ro=>cSeq (cSeq (cReg (ZqL O)) (cIf (.tmp 66) (cSkip) (cExit 2))) (cSeq (cBlk 3 (cSeq (cReg ZqM) (cSeq (cReg (ZqN O)) (cReg ZqO)))) (cReg ZqP))
def W39_2:RC' H:=λO P ro=>cSeq (cSeq (cReg ZqT) (cIf (.tmp 104) (cSkip) (cExit 4))) (cSeq (cBlk 5 (cSeq (cReg (ZqU O)) (cReg ZqV))) (cReg ZqW))
def F39:RC' H:=λO P ro=>cSeq (cReg ZqA) (cSeq (cReg (ZqB O)) (cSeq (cReg (ZqC O)) (cSeq (cReg ZqD) (cSeq (cSeq (cReg ZqE) (cBlk 0 (cLoop (W39_0 O P ro)))) (cSeq (cSeq (cReg ZqK) (cBlk 2 (cLoop (W39_1 O P ro)))) (cSeq (cReg (ZqQ O)) (cSeq (cReg ZqR) (cSeq (cSeq (cReg ZqS) (cBlk 4 (cLoop (W39_2 O P ro)))) (cSeq (cReg ZqX) (cRet))))))))))
theorem F39_fn:FN' 39 @F39 [.tmp 2] Tryz.f39:=f'n Tryz.func39
def ZqY:RL' H:=[to 2 (aMove (.const (.slice none 0 0))),mk' 3 0,to 4 (aMove (.const (.bool false)))]
def ZqZ:RL' H:=[mv' 8 0,to 9 (aCall 16 [.tmp 8,.const (.int .i64 1152921504606846976)]),mv' 5 9]
def Zq0:RL' H:=[mv' 10 0,to 11 (aCall 16 [.tmp 10,.const (.int .i64 0)]),mv' 6 11]
def Zq1:RL' H:=[mv' 12 5,to 13 (aPtrNil false (.tmp 12) (.const (.pointer none))),mv' 14 13,onlyIf 14 false 15 (mv' 15 6),onlyIf 14 false 16 (to 16 (aPtrNil false (.tmp 15) (.const (.pointer none)))),to 17 (aPick (.tmp 14) (.const (.bool true)) (.tmp 16))]
def Zq2:RL' H:=[to 2 (aMove (.const (.slice none 0 0))),mk' 3 0,to 4 (aMove (.const (.bool false)))]
def Zq3(O:HI H):RL' H:=[mv' 18 5,nl' 19 18,fl' 0 20 19,ld' O 21 20,ik' .eql 22 21 2,mv' 23 22,onlyIf 23 true 24 (mv' 24 6),onlyIf 23 true 25 (nl' 25 24),onlyIf 23 true 26 (fl' 0 26 25),onlyIf 23 true 27 (ld' O 27 26),onlyIf 23 true 28 (ik' .eql 28 27 2),onlyIf 23 true 29 (mv' 29 28),onlyIf 29 false 30 (mv' 30 6),onlyIf 29 false 31 (nl' 31 30),onlyIf 29 false 32 (fl' 0 32 31),onlyIf 29 false 33 (ld' O 33 32),onlyIf 29 false 34 (ik' .eql 34 33 3),onlyIf 23 true 35 (to 35 (aPick (.tmp 29) (.const (.bool true)) (.tmp 34))),to 36 (aPick (.tmp 23) (.tmp 35) (.const (.bool false))),mv' 7 36]
def Zq4(O:HI H):RL' H:=[mv' 37 5,nl' 38 37,fl' 5 39 38,ld' O 40 39,mv' 41 5,nl' 42 41,fl' 4 43 42,ld' O 44 43,mv' 45 7,mv' 2 40,mv' 3 44,mv' 4 45]
def F40:RC' H:=λO P ro=>cSeq (cReg ZqY) (cSeq (cReg ZqZ) (cSeq (cReg Zq0) (cSeq (cSeq (cReg Zq1) (cIf (.tmp 17) (cSeq (cReg Zq2) (cRet)) (cSkip))) (cSeq (cReg (Zq3 O)) (cSeq (cReg (Zq4 O)) (cRet))))))
theorem F40_fn:FN' 40 @F40 [.tmp 2,.tmp 3,.tmp 4] Tryz.f40:=f'n Tryz.func40
def Zq5:RL' H:=[to 2 (aMove (.const (.bool false)))]
def Zq6:RL' H:=[mv' 6 0,to 7 (aCall 16 [.tmp 6,.const (.int .i64 1152921504606846976)]),mv' 3 7]
def Zq7:RL' H:=[mv' 8 0,to 9 (aCall 16 [.tmp 8,.const (.int .i64 0)]),mv' 4 9]
def Zq8:RL' H:=[mv' 10 3,to 11 (aPtrNil false (.tmp 10) (.const (.pointer none))),mv' 12 11,onlyIf 12 false 13 (mv' 13 4),onlyIf 12 false 14 (to 14 (aPtrNil false (.tmp 13) (.const (.pointer none)))),to 15 (aPick (.tmp 12) (.const (.bool true)) (.tmp 14))]
def Zq9:RL' H:=[to 2 (aMove (.const (.bool false)))]
def Zra(O:HI H):RL' H:=[mv' 16 3,nl' 17 16,fl' 1 18 17,to 19 (aLdN O 2 (.tmp 18)),to 20 (aBuild #[.int .i64 0,.int .i64 0] [(0,1),(1,1)] []),to 21 (aAggEq false 2 (.tmp 19) (.tmp 20)),mv' 5 21]
def Zrb(O:HI H):RL' H:=[mv' 22 5,mv' 23 22,onlyIf 23 true 24 (mv' 24 3),onlyIf 23 true 25 (nl' 25 24),onlyIf 23 true 26 (fl' 0 26 25),onlyIf 23 true 27 (ld' O 27 26),onlyIf 23 true 28 (ik' .eql 28 27 1),to 29 (aPick (.tmp 23) (.tmp 28) (.const (.bool false))),mv' 30 29,onlyIf 30 true 31 (mv' 31 4),onlyIf 30 true 32 (nl' 32 31),onlyIf 30 true 33 (fl' 0 33 32),onlyIf 30 true 34 (ld' O 34 33),onlyIf 30 true 35 (ik' .eql 35 34 1),onlyIf 30 true 36 (mv' 36 35),onlyIf 36 false 37 (mv' 37 4),onlyIf 36 false 38 (nl' 38 37),onlyIf 36 false 39 (fl' 0 39 38),onlyIf 36 false 40 (ld' O 40 39),onlyIf 36 false 41 (ik' .eql 41 40 3),onlyIf 30 true 42 (to 42 (aPick (.tmp 36) (.const (.bool true)) (.tmp 41))),to 43 (aPick (.tmp 30) (.tmp 42) (.const (.bool false))),mv' 2 43]
def F41:RC' H:=λO P ro=>cSeq (cReg Zq5) (cSeq (cReg Zq6) (cSeq (cReg Zq7) (cSeq (cSeq (cReg Zq8) (cIf (.tmp 15) (cSeq (cReg Zq9) (cRet)) (cSkip))) (cSeq (cReg (Zra O)) (cSeq (cReg (Zrb O)) (cRet))))))
theorem F41_fn:FN' 41 @F41 [.tmp 2] Tryz.f41:=f'n Tryz.func41
def Zrc:RL' H:=[mk' 4 0]
def Zrd:RL' H:=[mv' 5 1,to 6 (aInt .add (.const (.int .i64 1)) (.tmp 5)),to 7 (aInt .mul (.const (.int .i64 2)) (.tmp 6)),mv' 4 7]
def F42:RC' H:=λO P ro=>cSeq (cReg Zrc) (cSeq (cReg Zrd) (cRet))
theorem F42_fn:FN' 42 @F42 [.tmp 4] Tryz.f42:=f'n Tryz.func42
def Zre:RL' H:=[to 2 (aMove (.const (.string { data:=#[] })))]
def Zrf:RL' H:=[to 3 (aMove (.const (.string { data:=#[] })))]
def Zrg:RL' H:=[mk' 4 0]
def Zrh:RL' H:=[mv' 6 4,mv' 7 0,ln' 8 7,ia' .lss 9 6 8]
def Zri:RL' H:=[mv' 12 4,ik' .gtr 13 12 0]
def Zrj:RL' H:=[mv' 14 3,to 15 (aStr .add (.tmp 14) (.const (.string { data:=#[32] }))),mv' 3 15]
def Zrk(O:HI H):RL' H:=[mv' 16 0,mv' 17 4,ix' 1 18 16 17,ld' O 19 18,to 20 (aCall 130 [.tmp 19]),mv' 5 20]
def Zrl:RL' H:=[mv' 21 3,mv' 22 5,to 23 (aStr .add (.tmp 21) (.tmp 22)),mv' 3 23]
def Zrm:RL' H:=[mv' 10 4,ik' .add 11 10 1,mv' 4 11]
def Zrn:RL' H:=[mv' 24 3,to 25 (aStr .add (.tmp 24) (.const (.string { data:=#[10] }))),mv' 2 25]
def W75_0:RC' H:=λO P ro=>cSeq (cSeq (cReg Zrh) (cIf (.tmp 9) (cSkip) (cExit 0))) (cSeq (cBlk 1 (cSeq (cSeq (cReg Zri) (cIf (.tmp 13) (cReg Zrj) (cSkip))) (cSeq (cReg (Zrk O)) (cReg Zrl)))) (cReg Zrm))
def F75:RC' H:=λO P ro=>cSeq (cReg Zre) (cSeq (cReg Zrf) (cSeq (cSeq (cReg Zrg) (cBlk 0 (cLoop (W75_0 O P ro)))) (cSeq (cReg Zrn) (cRet))))
theorem F75_fn:FN' 75 @F75 [.tmp 2] Tryz.f75:=f'n Tryz.func75
def Zro:RL' H:=[to 2 (aMove (.const (.string { data:=#[] })))]
def Zrp:RL' H:=[mv' 4 0,ik' .lss 5 4 10]
def Zrq(O:HI H):RL' H:=[mv' 6 0,to 7 (aInt .add (.const (.int .i64 48)) (.tmp 6)),to 8 (aConv .u8 (.tmp 7)),to 9 (aMkSl O 1 1 #[.int .u8 0] [(0,.tmp 8)]),to 10 (aB2S O (.tmp 9)),mv' 2 10]
def Zrr:RL' H:=[mv' 11 0,ik' .quo 12 11 10,to 13 (aCall 130 [.tmp 12]),mv' 3 13]
def Zrs(O:HI H):RL' H:=[mv' 14 3,mv' 15 0,ik' .rem 16 15 10,to 17 (aInt .add (.const (.int .i64 48)) (.tmp 16)),to 18 (aConv .u8 (.tmp 17)),to 19 (aMkSl O 1 1 #[.int .u8 0] [(0,.tmp 18)]),to 20 (aB2S O (.tmp 19)),to 21 (aStr .add (.tmp 14) (.tmp 20)),mv' 2 21]
def F130:RC' H:=λO P ro=>cSeq (cReg Zro) (cSeq (cSeq (cReg Zrp) (cIf (.tmp 5) (cSeq (cReg (Zrq O)) (cRet)) (cSkip))) (cSeq (cReg Zrr) (cSeq (cReg (Zrs O)) (cRet))))
theorem F130_fn:FN' 130 @F130 [.tmp 2] Tryz.f130:=f'n Tryz.func130
end
end Go.Proofs.YtimdkminagnhgaaGreatDoor
