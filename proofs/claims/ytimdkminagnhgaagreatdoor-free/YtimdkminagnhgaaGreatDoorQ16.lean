import Derived.Test.YtimdkminagnhgaaGreatDoorQ04
import Derived.Test.YtimdkminagnhgaaGreatDoorProg
import Derived.KernelRfl
import Derived.Test.YtimdkminagnhgaaGreatDoorQ05
set_option linter.all false
namespace Go.Proofs.YtimdkminagnhgaaGreatDoor
open Go.Vm Go.Proofs
set_option maxRecDepth 100000
section
variable {H:Type}
def Zfn:RL' H:=[to 0 (aMove (.const (.pointer none)))]
def Zfo(O:HI H):RL' H:=[to 1 (aBuild #[.slice none 0 0,.slice none 0 0,.slice none 0 0,.slice none 0 0,.int .i64 0] [(0,1),(1,1),(2,1),(3,1),(4,1)] []),to 2 (aBox O (.tmp 1)),mv' 0 2]
def F81:RC' H:=λO P ro=>cSeq (cReg Zfn) (cSeq (cReg (Zfo O)) (cRet))
theorem F81_fn:FN' 81 @F81 [.tmp 0] Tryz.f81:=f'n Tryz.func81
def Zfp:RL' H:=[mk' 4 0,mk' 5 0]
def Zfq(O:HI H):RL' H:=[mv' 6 0,to 7 (aPtrNil false (.tmp 6) (.const (.pointer none))),mv' 8 7,onlyIf 8 false 9 (mv' 9 0),onlyIf 8 false 10 (nl' 10 9),onlyIf 8 false 11 (fl' 0 11 10),onlyIf 8 false 12 (ld' O 12 11),onlyIf 8 false 13 (ln' 13 12),onlyIf 8 false 14 (ik' .geq 14 13 192),to 15 (aPick (.tmp 8) (.const (.bool true)) (.tmp 14))]
def Zfr:RL' H:=[mk' 4 0,mk' 5 14]
def Zfs(O:HI H)(ro:Nat):RL' H:=[mv' 16 0,mv' 17 0,nl' 18 17,fl' 0 19 18,ld' O 20 19,mv' 21 1,to 22 (aMkSl O 1 1 #[.bool false] [(0,.tmp 21)]),to 23 (aApp O ro 1 1 (.tmp 20) (.tmp 22)),nl' 24 16,fl' 0 25 24,too (aSt O ro 1 (.tmp 25) (.tmp 23))]
def Zft(O:HI H):RL' H:=[mv' 26 0,nl' 27 26,fl' 0 28 27,ld' O 29 28,ln' 30 29,ik' .sub 31 30 1,mv' 4 31,mk' 5 0]
def F104:RC' H:=λO P ro=>cSeq (cReg Zfp) (cSeq (cSeq (cReg (Zfq O)) (cIf (.tmp 15) (cSeq (cReg Zfr) (cRet)) (cSkip))) (cSeq (cReg (Zfs O ro)) (cSeq (cReg (Zft O)) (cRet))))
theorem F104_fn:FN' 104 @F104 [.tmp 4,.tmp 5] Tryz.f104:=f'n Tryz.func104
def Zfu:RL' H:=[mk' 4 0]
def Zfv:RL' H:=[mv' 6 0,to 7 (aPtrNil false (.tmp 6) (.const (.pointer none))),mv' 8 7,onlyIf 8 false 9 (mv' 9 0),onlyIf 8 false 10 (mv' 10 1),onlyIf 8 false 11 (to 11 (aCall 157 [.tmp 9,.tmp 10])),onlyIf 8 false 12 (to 12 (aUn .not (.tmp 11))),to 13 (aPick (.tmp 8) (.const (.bool true)) (.tmp 12))]
def Zfw:RL' H:=[mk' 4 13]
def Zfx:RL' H:=[mv' 14 0,mv' 15 1,to 16 (aCall 158 [.tmp 14,.tmp 15]),mv' 5 16]
def Zfy:RL' H:=[mv' 17 5,to 18 (aCall 159 [.tmp 17]),to 19 (aUn .not (.tmp 18))]
def Zfz(O:HI H)(ro:Nat):RL' H:=[mv' 20 0,mv' 21 0,nl' 22 21,fl' 1 23 22,ld' O 24 23,mv' 25 5,to 26 (aMkSl O 1 1 #[.slice none 0 0] [(0,.tmp 25)]),to 27 (aApp O ro 1 24 (.tmp 24) (.tmp 26)),nl' 28 20,fl' 1 29 28,too (aSt O ro 1 (.tmp 29) (.tmp 27))]
def ZfA:RL' H:=[mk' 4 0]
def F105:RC' H:=λO P ro=>cSeq (cReg Zfu) (cSeq (cSeq (cReg Zfv) (cIf (.tmp 13) (cSeq (cReg Zfw) (cRet)) (cSkip))) (cSeq (cReg Zfx) (cSeq (cSeq (cReg Zfy) (cIf (.tmp 19) (cReg (Zfz O ro)) (cSkip))) (cSeq (cReg ZfA) (cRet)))))
theorem F105_fn:FN' 105 @F105 [.tmp 4] Tryz.f105:=f'n Tryz.func105
def ZfB:RL' H:=[to 2 (aMove (.const (.slice none 0 0)))]
def ZfC:RL' H:=[mv' 3 0,to 4 (aPtrNil false (.tmp 3) (.const (.pointer none)))]
def ZfD:RL' H:=[to 2 (aMove (.const (.slice none 0 0)))]
def ZfE(O:HI H)(ro:Nat):RL' H:=[mv' 5 0,nl' 6 5,fl' 3 7 6,ld' O 8 7,to 9 (aApp O ro 1 8 (.const (.slice none 0 0)) (.tmp 8)),mv' 2 9]
def F145:RC' H:=λO P ro=>cSeq (cReg ZfB) (cSeq (cSeq (cReg ZfC) (cIf (.tmp 4) (cSeq (cReg ZfD) (cRet)) (cSkip))) (cSeq (cReg (ZfE O ro)) (cRet)))
theorem F145_fn:FN' 145 @F145 [.tmp 2] Tryz.f145:=f'n Tryz.func145
def ZfF:RL' H:=[mk' 2 0]
def ZfG:RL' H:=[mv' 3 0,to 4 (aPtrNil false (.tmp 3) (.const (.pointer none)))]
def ZfH:RL' H:=[mk' 2 0]
def ZfI(O:HI H):RL' H:=[mv' 5 0,nl' 6 5,fl' 4 7 6,ld' O 8 7,mv' 2 8]
def F146:RC' H:=λO P ro=>cSeq (cReg ZfF) (cSeq (cSeq (cReg ZfG) (cIf (.tmp 4) (cSeq (cReg ZfH) (cRet)) (cSkip))) (cSeq (cReg (ZfI O)) (cRet)))
theorem F146_fn:FN' 146 @F146 [.tmp 2] Tryz.f146:=f'n Tryz.func146
def ZfJ:RL' H:=[to 4 (aMove (.const (.bool false)))]
def ZfK:RL' H:=[mk' 5 0]
def ZfL:RL' H:=[mv' 6 5,mv' 7 1,ln' 8 7,ia' .lss 9 6 8]
def ZfM(O:HI H):RL' H:=[mv' 12 1,mv' 13 5,ix' 1 14 12 13,ld' O 15 14,ik' .lss 16 15 0,mv' 17 16,onlyIf 17 false 18 (mv' 18 1),onlyIf 17 false 19 (mv' 19 5),onlyIf 17 false 20 (ix' 1 20 18 19),onlyIf 17 false 21 (ld' O 21 20),onlyIf 17 false 22 (mv' 22 0),onlyIf 17 false 23 (nl' 23 22),onlyIf 17 false 24 (fl' 0 24 23),onlyIf 17 false 25 (ld' O 25 24),onlyIf 17 false 26 (ln' 26 25),onlyIf 17 false 27 (to 27 (aInt .mul (.const (.int .i64 2)) (.tmp 26))),onlyIf 17 false 28 (ia' .geq 28 21 27),to 29 (aPick (.tmp 17) (.const (.bool true)) (.tmp 28))]
def ZfN:RL' H:=[to 4 (aMove (.const (.bool false)))]
def ZfO:RL' H:=[mv' 10 5,ik' .add 11 10 1,mv' 5 11]
def ZfP:RL' H:=[to 4 (aMove (.const (.bool true)))]
def W157_0:RC' H:=λO P ro=>cSeq (cSeq (cReg ZfL) (cIf (.tmp 9) (cSkip) (cExit 0))) (cSeq (cBlk 1 (cSeq (cReg (ZfM O)) (cIf (.tmp 29) (cSeq (cReg ZfN) (cRet)) (cSkip)))) (cReg ZfO))
def F157:RC' H:=λO P ro=>cSeq (cReg ZfJ) (cSeq (cSeq (cReg ZfK) (cBlk 0 (cLoop (W157_0 O P ro)))) (cSeq (cReg ZfP) (cRet)))
theorem F157_fn:FN' 157 @F157 [.tmp 4] Tryz.f157:=f'n Tryz.func157
def ZfQ:RL' H:=[to 4 (aMove (.const (.slice none 0 0)))]
def ZfR(O:HI H):RL' H:=[mv' 8 0,nl' 9 8,fl' 0 10 9,ld' O 11 10,ln' 12 11,to 13 (aInt .mul (.const (.int .i64 2)) (.tmp 12)),to 14 (aMake O 1 1 #[.bool false] (.tmp 13) (.tmp 13)),mv' 5 14]
def ZfS(O:HI H):RL' H:=[to 15 (aMkSl O 1 0 #[.int .i64 0] []),mv' 6 15]
def ZfT:RL' H:=[mk' 7 0]
def ZfU:RL' H:=[mv' 16 7,mv' 17 1,ln' 18 17,ia' .lss 19 16 18]
def ZfV(O:HI H):RL' H:=[mv' 22 5,mv' 23 1,mv' 24 7,ix' 1 25 23 24,ld' O 26 25,ix' 1 27 22 26,ld' O 28 27,to 29 (aUn .not (.tmp 28))]
def ZfW(O:HI H)(ro:Nat):RL' H:=[mv' 30 5,mv' 31 1,mv' 32 7,ix' 1 33 31 32,ld' O 34 33,ix' 1 35 30 34,too (aSt O ro 1 (.tmp 35) (.const (.bool true)))]
def ZfX(O:HI H)(ro:Nat):RL' H:=[mv' 36 6,mv' 37 1,mv' 38 7,ix' 1 39 37 38,ld' O 40 39,to 41 (aMkSl O 1 1 #[.int .i64 0] [(0,.tmp 40)]),to 42 (aApp O ro 1 8 (.tmp 36) (.tmp 41)),mv' 6 42]
def ZfY:RL' H:=[mv' 20 7,ik' .add 21 20 1,mv' 7 21]
def ZfZ:RL' H:=[mv' 43 6,mv' 4 43]
def W158_0:RC' H:=λO P ro=>cSeq (cSeq (cReg ZfU) (cIf (.tmp 19) (cSkip) (cExit 0))) (cSeq (cBlk 1 (cSeq (cReg (ZfV O)) (cIf (.tmp 29) (cSeq (cReg (ZfW O ro)) (cReg (ZfX O ro))) (cSkip)))) (cReg ZfY))
def F158:RC' H:=λO P ro=>cSeq (cReg ZfQ) (cSeq (cReg (ZfR O)) (cSeq (cReg (ZfS O)) (cSeq (cSeq (cReg ZfT) (cBlk 0 (cLoop (W158_0 O P ro)))) (cSeq (cReg ZfZ) (cRet)))))
theorem F158_fn:FN' 158 @F158 [.tmp 4] Tryz.f158:=f'n Tryz.func158
def Zf0:RL' H:=[to 2 (aMove (.const (.bool false)))]
def Zf1:RL' H:=[mk' 3 0]
def Zf2:RL' H:=[mv' 5 3,mv' 6 0,ln' 7 6,ia' .lss 8 5 7]
def Zf3:RL' H:=[mk' 4 0]
def Zf4:RL' H:=[mv' 11 4,mv' 12 3,ia' .lss 13 11 12]
def Zf5(O:HI H):RL' H:=[mv' 16 0,mv' 17 4,ix' 1 18 16 17,ld' O 19 18,mv' 20 0,mv' 21 3,ix' 1 22 20 21,ld' O 23 22,ik' .xor 24 23 1,ia' .eql 25 19 24]
def Zf6:RL' H:=[to 2 (aMove (.const (.bool true)))]
def Zf7:RL' H:=[mv' 14 4,ik' .add 15 14 1,mv' 4 15]
def Zf8:RL' H:=[mv' 9 3,ik' .add 10 9 1,mv' 3 10]
def Zf9:RL' H:=[to 2 (aMove (.const (.bool false)))]
def W159_0:RC' H:=λO P ro=>cSeq (cSeq (cReg Zf4) (cIf (.tmp 13) (cSkip) (cExit 2))) (cSeq (cBlk 3 (cSeq (cReg (Zf5 O)) (cIf (.tmp 25) (cSeq (cReg Zf6) (cRet)) (cSkip)))) (cReg Zf7))
def W159_1:RC' H:=λO P ro=>cSeq (cSeq (cReg Zf2) (cIf (.tmp 8) (cSkip) (cExit 0))) (cSeq (cBlk 1 (cSeq (cReg Zf3) (cBlk 2 (cLoop (W159_0 O P ro))))) (cReg Zf8))
def F159:RC' H:=λO P ro=>cSeq (cReg Zf0) (cSeq (cSeq (cReg Zf1) (cBlk 0 (cLoop (W159_1 O P ro)))) (cSeq (cReg Zf9) (cRet)))
theorem F159_fn:FN' 159 @F159 [.tmp 2] Tryz.f159:=f'n Tryz.func159
def Zga:RL' H:=[mk' 6 0]
def Zgb:RL' H:=[mv' 10 0,to 11 (aPtrNil false (.tmp 10) (.const (.pointer none))),mv' 12 11,onlyIf 12 false 13 (mv' 13 2),onlyIf 12 false 14 (ik' .lss 14 13 0),to 15 (aPick (.tmp 12) (.const (.bool true)) (.tmp 14)),mv' 16 15,onlyIf 16 false 17 (mv' 17 0),onlyIf 16 false 18 (mv' 18 1),onlyIf 16 false 19 (to 19 (aCall 157 [.tmp 17,.tmp 18])),onlyIf 16 false 20 (to 20 (aUn .not (.tmp 19))),to 21 (aPick (.tmp 16) (.const (.bool true)) (.tmp 20))]
def Zgc:RL' H:=[mk' 6 0]
def Zgd:RL' H:=[mv' 22 0,mv' 23 1,to 24 (aCall 158 [.tmp 22,.tmp 23]),mv' 7 24]
def Zge(O:HI H):RL' H:=[mv' 25 0,nl' 26 25,fl' 0 27 26,ld' O 28 27,mv' 29 7,to 30 (aCall 186 [.tmp 28,.tmp 29]),mv' 8 30]
def Zgf(O:HI H):RL' H:=[mv' 31 8,mv' 32 0,nl' 33 32,fl' 1 34 33,ld' O 35 34,mv' 36 2,to 37 (aCall 187 [.tmp 31,.tmp 35,.tmp 36]),mv' 9 37]
def Zgg(O:HI H)(ro:Nat):RL' H:=[mv' 38 0,nl' 39 38,fl' 4 40 39,ld' O 41 40,mv' 42 8,nl' 43 42,fl' 11 44 43,ld' O 45 44,ia' .add 46 41 45,nl' 47 38,fl' 4 48 47,too (aSt O ro 1 (.tmp 48) (.tmp 46))]
def Zgh(O:HI H)(ro:Nat):RL' H:=[mv' 49 0,nl' 50 49,fl' 2 51 50,too (aSt O ro 1 (.tmp 51) (.const (.slice none 0 0)))]
def Zgi(O:HI H)(ro:Nat):RL' H:=[mv' 52 0,nl' 53 52,fl' 3 54 53,too (aSt O ro 1 (.tmp 54) (.const (.slice none 0 0)))]
def Zgj:RL' H:=[mv' 55 9]
def Zgk:RL' H:=[ik' .eql 57 55 1,mv' 56 57]
def Zgl(O:HI H)(ro:Nat):RL' H:=[mv' 58 0,mv' 59 8,to 60 (aCall 188 [.tmp 59]),nl' 61 58,fl' 2 62 61,too (aSt O ro 1 (.tmp 62) (.tmp 60))]
def Zgm:RL' H:=[ik' .eql 64 55 2,mv' 63 64]
def Zgn(O:HI H)(ro:Nat):RL' H:=[mv' 65 0,mv' 66 8,nl' 67 66,fl' 12 68 67,ld' O 69 68,nl' 70 65,fl' 3 71 70,too (aSt O ro 1 (.tmp 71) (.tmp 69))]
def Zgo:RL' H:=[mv' 72 9,mv' 6 72]
def F160:RC' H:=λO P ro=>cSeq (cReg Zga) (cSeq (cSeq (cReg Zgb) (cIf (.tmp 21) (cSeq (cReg Zgc) (cRet)) (cSkip))) (cSeq (cReg Zgd) (cSeq (cReg (Zge O)) (cSeq (cReg (Zgf O)) (cSeq (cReg (Zgg O ro)) (cSeq (cReg (Zgh O ro)) (cSeq (cReg (Zgi O ro)) (cSeq (cSeq (cReg Zgj) (cBlk 0 (cSeq (cReg Zgk) (cIf (.tmp 56) (cReg (Zgl O ro)) (cSeq (cReg Zgm) (cIf (.tmp 63) (cReg (Zgn O ro)) (cSkip))))))) (cSeq (cReg Zgo) (cRet))))))))))
theorem F160_fn:FN' 160 @F160 [.tmp 6] Tryz.f160:=f'n Tryz.func160
def Zgp:RL' H:=[to 4 (aMove (.const (.bool false))),mk' 5 0]
def Zgq(O:HI H):RL' H:=[mv' 6 0,to 7 (aPtrNil false (.tmp 6) (.const (.pointer none))),mv' 8 7,onlyIf 8 false 9 (mv' 9 1),onlyIf 8 false 10 (ik' .lss 10 9 0),to 11 (aPick (.tmp 8) (.const (.bool true)) (.tmp 10)),mv' 12 11,onlyIf 12 false 13 (mv' 13 1),onlyIf 12 false 14 (mv' 14 0),onlyIf 12 false 15 (nl' 15 14),onlyIf 12 false 16 (fl' 2 16 15),onlyIf 12 false 17 (ld' O 17 16),onlyIf 12 false 18 (ln' 18 17),onlyIf 12 false 19 (ia' .geq 19 13 18),to 20 (aPick (.tmp 12) (.const (.bool true)) (.tmp 19))]
def Zgr:RL' H:=[to 4 (aMove (.const (.bool false))),mk' 5 13]
def Zgs(O:HI H):RL' H:=[mv' 21 0,nl' 22 21,fl' 2 23 22,ld' O 24 23,mv' 25 1,ix' 1 26 24 25,ld' O 27 26,mv' 4 27,mk' 5 0]
def F183:RC' H:=λO P ro=>cSeq (cReg Zgp) (cSeq (cSeq (cReg (Zgq O)) (cIf (.tmp 20) (cSeq (cReg Zgr) (cRet)) (cSkip))) (cSeq (cReg (Zgs O)) (cRet)))
theorem F183_fn:FN' 183 @F183 [.tmp 4,.tmp 5] Tryz.f183:=f'n Tryz.func183
def Zgt:RL' H:=[to 4 (aMove (.const (.pointer none)))]
def Zgu(O:HI H):RL' H:=[mv' 7 1,to 8 (aBuild #[.slice none 0 0,.slice none 0 0,.int .i64 0,.int .i64 0,.slice none 0 0,.slice none 0 0,.slice none 0 0,.slice none 0 0,.slice none 0 0,.int .i64 0,.int .i64 0,.int .i64 0,.slice none 0 0] [(0,1),(1,1),(2,1),(3,1),(4,1),(5,1),(6,1),(7,1),(8,1),(9,1),(10,1),(11,1),(12,1)] [(0,.tmp 7),(3,.const (.int .i64 4000)),(10,.const (.int .i64 16))]),to 9 (aBox O (.tmp 8)),mv' 5 9]
def Zgv(O:HI H)(ro:Nat):RL' H:=[mv' 10 5,mv' 11 0,ln' 12 11,to 13 (aInt .mul (.const (.int .i64 2)) (.tmp 12)),to 14 (aMake O 1 24 #[.slice none 0 0] (.tmp 13) (.tmp 13)),nl' 15 10,fl' 4 16 15,too (aSt O ro 1 (.tmp 16) (.tmp 14))]
def Zgw(O:HI H)(ro:Nat):RL' H:=[mv' 17 5,mv' 18 0,ln' 19 18,to 20 (aInt .mul (.const (.int .i64 2)) (.tmp 19)),to 21 (aMake O 1 1 #[.bool false] (.tmp 20) (.tmp 20)),nl' 22 17,fl' 5 23 22,too (aSt O ro 1 (.tmp 23) (.tmp 21))]
def Zgx(O:HI H)(ro:Nat):RL' H:=[mv' 24 5,mv' 25 0,ln' 26 25,to 27 (aMake O 5 40 #[.int .i64 0,.int .i64 0,.bool false,.int .i64 0,.bool false] (.tmp 26) (.tmp 26)),nl' 28 24,fl' 6 29 28,too (aSt O ro 1 (.tmp 29) (.tmp 27))]
def Zgy:RL' H:=[mk' 6 0]
def Zgz:RL' H:=[mv' 30 6,mv' 31 0,ln' 32 31,ia' .lss 33 30 32]
def ZgA(O:HI H):RL' H:=[mv' 36 0,mv' 37 6,ix' 1 38 36 37,ld' O 39 38]
def ZgB(O:HI H)(ro:Nat):RL' H:=[mv' 40 5,nl' 41 40,fl' 6 42 41,ld' O 43 42,mv' 44 6,ix' 5 45 43 44,fl' 3 46 45,too (aSt O ro 1 (.tmp 46) (.const (.int .i64 1)))]
def ZgC:RL' H:=[mv' 34 6,ik' .add 35 34 1,mv' 6 35]
def ZgD:RL' H:=[mv' 47 5,mv' 4 47]
def W186_0:RC' H:=λO P ro=>cSeq (cSeq (cReg Zgz) (cIf (.tmp 33) (cSkip) (cExit 0))) (cSeq (cBlk 1 (cSeq (cReg (ZgA O)) (cIf (.tmp 39) (cReg (ZgB O ro)) (cSkip)))) (cReg ZgC))
def F186:RC' H:=λO P ro=>cSeq (cReg Zgt) (cSeq (cReg (Zgu O)) (cSeq (cReg (Zgv O ro)) (cSeq (cReg (Zgw O ro)) (cSeq (cReg (Zgx O ro)) (cSeq (cSeq (cReg Zgy) (cBlk 0 (cLoop (W186_0 O P ro)))) (cSeq (cReg ZgD) (cRet)))))))
theorem F186_fn:FN' 186 @F186 [.tmp 4] Tryz.f186:=f'n Tryz.func186
def ZgE:RL' H:=[mk' 6 0]
def ZgF:RL' H:=[mv' 9 0,mv' 10 1,to 11 (aCall 199 [.tmp 9,.tmp 10]),mv' 7 11]
def ZgG:RL' H:=[mk' 8 0]
def ZgH:RL' H:=[mv' 12 8,ik' .eql 13 12 0]
def ZgI:RL' H:=[mv' 14 7,to 15 (aInt .eql (.tmp 14) (.const (.int .i64 (-1))))]
def ZgJ:RL' H:=[mv' 16 0,to 17 (aCall 200 [.tmp 16]),mv' 7 17]
def ZgK:RL' H:=[mv' 18 7,to 19 (aInt .eql (.tmp 18) (.const (.int .i64 (-1))))]
def ZgL:RL' H:=[mv' 20 0,to 21 (aCall 201 [.tmp 20]),mv' 8 21]
def ZgM:RL' H:=[mv' 22 0,mv' 23 7,mv' 24 2,to 25 (aCall 202 [.tmp 22,.tmp 23,.tmp 24]),mv' 8 25]
def ZgN:RL' H:=[to 7 (aMove (.const (.int .i64 (-1))))]
def ZgO:RL' H:=[mv' 26 8,mv' 6 26]
def W187_0:RC' H:=λO P ro=>cSeq (cSeq (cReg ZgH) (cIf (.tmp 13) (cSkip) (cExit 0))) (cBlk 1 (cSeq (cSeq (cReg ZgI) (cIf (.tmp 15) (cReg ZgJ) (cSkip))) (cSeq (cReg ZgK) (cIf (.tmp 19) (cReg ZgL) (cSeq (cReg ZgM) (cReg ZgN))))))
def F187:RC' H:=λO P ro=>cSeq (cReg ZgE) (cSeq (cReg ZgF) (cSeq (cReg ZgG) (cSeq (cBlk 0 (cLoop (W187_0 O P ro))) (cSeq (cReg ZgO) (cRet)))))
theorem F187_fn:FN' 187 @F187 [.tmp 6] Tryz.f187:=f'n Tryz.func187
def ZgP:RL' H:=[to 2 (aMove (.const (.slice none 0 0)))]
def ZgQ(O:HI H):RL' H:=[to 5 (aMkSl O 1 0 #[.bool false] []),mv' 3 5]
def ZgR:RL' H:=[mk' 4 0]
def ZgS(O:HI H):RL' H:=[mv' 6 4,mv' 7 0,nl' 8 7,fl' 6 9 8,ld' O 10 9,ln' 11 10,ia' .lss 12 6 11]
def ZgT(O:HI H)(ro:Nat):RL' H:=[mv' 15 3,mv' 16 0,nl' 17 16,fl' 5 18 17,ld' O 19 18,mv' 20 4,to 21 (aInt .mul (.const (.int .i64 2)) (.tmp 20)),ix' 1 22 19 21,ld' O 23 22,to 24 (aMkSl O 1 1 #[.bool false] [(0,.tmp 23)]),to 25 (aApp O ro 1 1 (.tmp 15) (.tmp 24)),mv' 3 25]
def ZgU:RL' H:=[mv' 13 4,ik' .add 14 13 1,mv' 4 14]
def ZgV:RL' H:=[mv' 26 3,mv' 2 26]
def W188_0:RC' H:=λO P ro=>cSeq (cSeq (cReg (ZgS O)) (cIf (.tmp 12) (cSkip) (cExit 0))) (cSeq (cBlk 1 (cReg (ZgT O ro))) (cReg ZgU))
def F188:RC' H:=λO P ro=>cSeq (cReg ZgP) (cSeq (cReg (ZgQ O)) (cSeq (cSeq (cReg ZgR) (cBlk 0 (cLoop (W188_0 O P ro)))) (cSeq (cReg ZgV) (cRet))))
theorem F188_fn:FN' 188 @F188 [.tmp 2] Tryz.f188:=f'n Tryz.func188
def ZgW:RL' H:=[mk' 4 0]
def ZgX:RL' H:=[to 5 (aMove (.const (.int .i64 (-1))))]
def ZgY:RL' H:=[mk' 6 0]
def ZgZ:RL' H:=[mv' 8 6,mv' 9 1,ln' 10 9,ia' .lss 11 8 10]
def Zg0(O:HI H):RL' H:=[mv' 14 1,mv' 15 6,ix' 1 16 14 15,ld' O 17 16,mv' 7 17]
def Zg1:RL' H:=[mv' 18 7,ln' 19 18,ik' .gtr 20 19 1]
def Zg2(O:HI H):RL' H:=[mv' 21 0,mv' 22 7,mv' 23 7,to 24 (aIdx 1 (.tmp 23) (.const (.int .i64 0))),ld' O 25 24,mv' 26 7,to 27 (aIdx 1 (.tmp 26) (.const (.int .i64 1))),ld' O 28 27,to 29 (aBuild #[.slice none 0 0,.int .i64 0,.int .i64 0,.int .i64 0] [(0,1),(1,1),(2,1),(3,1)] [(0,.tmp 22),(1,.tmp 25),(2,.tmp 28)]),to 30 (aCall 207 [.tmp 21,.tmp 29])]
def Zg3(O:HI H)(ro:Nat):RL' H:=[mv' 31 0,mv' 32 0,nl' 33 32,fl' 1 34 33,ld' O 35 34,mv' 36 7,to 37 (aBuild #[.slice none 0 0,.int .i64 0,.int .i64 0,.int .i64 0] [(0,1),(1,1),(2,1),(3,1)] [(0,.tmp 36)]),to 38 (aMkSl O 4 1 #[.slice none 0 0,.int .i64 0,.int .i64 0,.int .i64 0] [(0,.tmp 37)]),to 39 (aApp O ro 4 48 (.tmp 35) (.tmp 38)),nl' 40 31,fl' 1 41 40,too (aSt O ro 1 (.tmp 41) (.tmp 39))]
def Zg4(O:HI H):RL' H:=[mv' 42 7,ln' 43 42,ik' .eql 44 43 0,mv' 45 44,onlyIf 45 false 46 (mv' 46 0),onlyIf 45 false 47 (nl' 47 46),onlyIf 45 false 48 (fl' 5 48 47),onlyIf 45 false 49 (ld' O 49 48),onlyIf 45 false 50 (mv' 50 7),onlyIf 45 false 51 (to 51 (aIdx 1 (.tmp 50) (.const (.int .i64 0)))),onlyIf 45 false 52 (ld' O 52 51),onlyIf 45 false 53 (ik' .xor 53 52 1),onlyIf 45 false 54 (ix' 1 54 49 53),onlyIf 45 false 55 (ld' O 55 54),to 56 (aPick (.tmp 45) (.const (.bool true)) (.tmp 55))]
def Zg5:RL' H:=[mv' 57 6,mv' 5 57]
def Zg6(O:HI H):RL' H:=[mv' 58 0,nl' 59 58,fl' 5 60 59,ld' O 61 60,mv' 62 7,to 63 (aIdx 1 (.tmp 62) (.const (.int .i64 0))),ld' O 64 63,ix' 1 65 61 64,ld' O 66 65,to 67 (aUn .not (.tmp 66))]
def Zg7(O:HI H):RL' H:=[mv' 68 0,mv' 69 7,to 70 (aIdx 1 (.tmp 69) (.const (.int .i64 0))),ld' O 71 70,mv' 72 6,to 73 (aCall 208 [.tmp 68,.tmp 71,.tmp 72])]
def Zg8:RL' H:=[mv' 12 6,ik' .add 13 12 1,mv' 6 13]
def Zg9(O:HI H)(ro:Nat):RL' H:=[mv' 74 0,mv' 75 1,ln' 76 75,nl' 77 74,fl' 2 78 77,too (aSt O ro 1 (.tmp 78) (.tmp 76))]
def Zha:RL' H:=[mv' 79 5,mv' 4 79]
def W199_0:RC' H:=λO P ro=>cSeq (cSeq (cReg ZgZ) (cIf (.tmp 11) (cSkip) (cExit 0))) (cSeq (cBlk 1 (cSeq (cReg (Zg0 O)) (cSeq (cSeq (cReg Zg1) (cIf (.tmp 20) (cSeq (cReg (Zg2 O)) (cExit 1)) (cSkip))) (cSeq (cReg (Zg3 O ro)) (cSeq (cReg (Zg4 O)) (cIf (.tmp 56) (cReg Zg5) (cSeq (cReg (Zg6 O)) (cIf (.tmp 67) (cReg (Zg7 O)) (cSkip))))))))) (cReg Zg8))
def F199:RC' H:=λO P ro=>cSeq (cReg ZgW) (cSeq (cReg ZgX) (cSeq (cSeq (cReg ZgY) (cBlk 0 (cLoop (W199_0 O P ro)))) (cSeq (cReg (Zg9 O ro)) (cSeq (cReg Zha) (cRet)))))
theorem F199_fn:FN' 199 @F199 [.tmp 4] Tryz.f199:=f'n Tryz.func199
def Zhb:RL' H:=[mk' 2 0]
def Zhc:RL' H:=[to 3 (aMove (.const (.int .i64 (-1))))]
def Zhd(O:HI H):RL' H:=[mv' 5 3,to 6 (aInt .eql (.tmp 5) (.const (.int .i64 (-1)))),mv' 7 6,onlyIf 7 true 8 (mv' 8 0),onlyIf 7 true 9 (nl' 9 8),onlyIf 7 true 10 (fl' 9 10 9),onlyIf 7 true 11 (ld' O 11 10),onlyIf 7 true 12 (mv' 12 0),onlyIf 7 true 13 (nl' 13 12),onlyIf 7 true 14 (fl' 7 14 13),onlyIf 7 true 15 (ld' O 15 14),onlyIf 7 true 16 (ln' 16 15),onlyIf 7 true 17 (ia' .lss 17 11 16),to 18 (aPick (.tmp 7) (.tmp 17) (.const (.bool false)))]
def Zhe(O:HI H):RL' H:=[mv' 19 0,nl' 20 19,fl' 7 21 20,ld' O 22 21,mv' 23 0,nl' 24 23,fl' 9 25 24,ld' O 26 25,ix' 1 27 22 26,ld' O 28 27,ik' .xor 29 28 1,mv' 4 29]
def Zhf(O:HI H)(ro:Nat):RL' H:=[mv' 30 0,nl' 31 30,fl' 9 32 31,ld' O 33 32,ik' .add 34 33 1,nl' 35 30,fl' 9 36 35,too (aSt O ro 1 (.tmp 36) (.tmp 34))]
def Zhg:RL' H:=[mv' 37 0,mv' 38 4,to 39 (aCall 209 [.tmp 37,.tmp 38]),mv' 3 39]
def Zhh:RL' H:=[mv' 40 3,mv' 2 40]
def W200_0:RC' H:=λO P ro=>cSeq (cSeq (cReg (Zhd O)) (cIf (.tmp 18) (cSkip) (cExit 0))) (cBlk 1 (cSeq (cReg (Zhe O)) (cSeq (cReg (Zhf O ro)) (cReg Zhg))))
def F200:RC' H:=λO P ro=>cSeq (cReg Zhb) (cSeq (cReg Zhc) (cSeq (cBlk 0 (cLoop (W200_0 O P ro))) (cSeq (cReg Zhh) (cRet))))
theorem F200_fn:FN' 200 @F200 [.tmp 2] Tryz.f200:=f'n Tryz.func200
def Zhi:RL' H:=[mk' 2 0]
def Zhj(O:HI H):RL' H:=[mv' 6 0,nl' 7 6,fl' 8 8 7,ld' O 9 8,ln' 10 9,mv' 3 10]
def Zhk(O:HI H):RL' H:=[mv' 11 3,mv' 12 0,nl' 13 12,fl' 0 14 13,ld' O 15 14,ln' 16 15,ia' .lss 17 11 16]
def Zhl(O:HI H):RL' H:=[mv' 18 0,mv' 19 0,nl' 20 19,fl' 0 21 20,ld' O 22 21,mv' 23 3,ix' 1 24 22 23,ld' O 25 24,to 26 (aCall 210 [.tmp 18,.tmp 25]),mv' 2 26]
def Zhm:RL' H:=[mv' 27 0,to 28 (aCall 211 [.tmp 27]),mv' 4 28]
def Zhn:RL' H:=[mv' 29 4,to 30 (aInt .eql (.tmp 29) (.const (.int .i64 (-1))))]
def Zho:RL' H:=[mk' 2 1]
def Zhp:RL' H:=[mv' 31 4,to 32 (aInt .mul (.const (.int .i64 2)) (.tmp 31)),mv' 5 32]
def Zhq(O:HI H):RL' H:=[mv' 33 0,nl' 34 33,fl' 6 35 34,ld' O 36 35,mv' 37 4,ix' 5 38 36 37,fl' 4 39 38,ld' O 40 39,to 41 (aUn .not (.tmp 40))]
def Zhr:RL' H:=[mv' 42 5,ik' .add 43 42 1,mv' 5 43]
def Zhs(O:HI H)(ro:Nat):RL' H:=[mv' 44 0,mv' 45 0,nl' 46 45,fl' 8 47 46,ld' O 48 47,mv' 49 0,nl' 50 49,fl' 7 51 50,ld' O 52 51,ln' 53 52,to 54 (aMkSl O 1 1 #[.int .i64 0] [(0,.tmp 53)]),to 55 (aApp O ro 1 8 (.tmp 48) (.tmp 54)),nl' 56 44,fl' 8 57 56,too (aSt O ro 1 (.tmp 57) (.tmp 55))]
def Zht:RL' H:=[mv' 58 0,mv' 59 5,to 60 (aCall 208 [.tmp 58,.tmp 59,.const (.int .i64 (-1))])]
def Zhu:RL' H:=[mk' 2 0]
def F201:RC' H:=λO P ro=>cSeq (cReg Zhi) (cSeq (cReg (Zhj O)) (cSeq (cSeq (cReg (Zhk O)) (cIf (.tmp 17) (cSeq (cReg (Zhl O)) (cRet)) (cSkip))) (cSeq (cReg Zhm) (cSeq (cSeq (cReg Zhn) (cIf (.tmp 30) (cSeq (cReg Zho) (cRet)) (cSkip))) (cSeq (cReg Zhp) (cSeq (cSeq (cReg (Zhq O)) (cIf (.tmp 41) (cReg Zhr) (cSkip))) (cSeq (cReg (Zhs O ro)) (cSeq (cReg Zht) (cSeq (cReg Zhu) (cRet))))))))))
theorem F201_fn:FN' 201 @F201 [.tmp 2] Tryz.f201:=f'n Tryz.func201
def Zhv:RL' H:=[mk' 6 0]
def Zhw(O:HI H)(ro:Nat):RL' H:=[mv' 8 0,nl' 9 8,fl' 11 10 9,ld' O 11 10,ik' .add 12 11 1,nl' 13 8,fl' 11 14 13,too (aSt O ro 1 (.tmp 14) (.tmp 12))]
def Zhx(O:HI H):RL' H:=[mv' 15 0,nl' 16 15,fl' 8 17 16,ld' O 18 17,ln' 19 18,mv' 20 0,nl' 21 20,fl' 0 22 21,ld' O 23 22,ln' 24 23,ia' .leq 25 19 24,mv' 7 25]
def Zhy:RL' H:=[mv' 26 7]
def Zhz(O:HI H):RL' H:=[mv' 27 0,mv' 28 0,nl' 29 28,fl' 1 30 29,ld' O 31 30,mv' 32 1,ix' 4 33 31 32,fl' 0 34 33,ld' O 35 34,to 36 (aCall 212 [.tmp 27,.tmp 35])]
def ZhA:RL' H:=[mk' 6 2]
def ZhB(O:HI H):RL' H:=[mv' 37 0,nl' 38 37,fl' 11 39 38,ld' O 40 39,mv' 41 2,ia' .gtr 42 40 41]
def ZhC:RL' H:=[mk' 6 3]
def ZhD:RL' H:=[mv' 43 0,mv' 44 1,to 45 (aCall 213 [.tmp 43,.tmp 44])]
def ZhE:RL' H:=[mk' 6 0]
def F202:RC' H:=λO P ro=>cSeq (cReg Zhv) (cSeq (cReg (Zhw O ro)) (cSeq (cReg (Zhx O)) (cSeq (cSeq (cReg Zhy) (cIf (.tmp 26) (cSeq (cReg (Zhz O)) (cSeq (cReg ZhA) (cRet))) (cSkip))) (cSeq (cSeq (cReg (ZhB O)) (cIf (.tmp 42) (cSeq (cReg ZhC) (cRet)) (cSkip))) (cSeq (cReg ZhD) (cSeq (cReg ZhE) (cRet)))))))
theorem F202_fn:FN' 202 @F202 [.tmp 6] Tryz.f202:=f'n Tryz.func202
def ZhF(O:HI H):RL' H:=[to 3 (aBox O (.tmp 1))]
def ZhG(O:HI H)(ro:Nat):RL' H:=[mv' 4 0,mv' 5 0,nl' 6 5,fl' 1 7 6,ld' O 8 7,to 9 (aLdN O 4 (.tmp 3)),to 10 (aMkSl O 4 1 #[.slice none 0 0,.int .i64 0,.int .i64 0,.int .i64 0] [(0,.tmp 9)]),to 11 (aApp O ro 4 48 (.tmp 8) (.tmp 10)),nl' 12 4,fl' 1 13 12,too (aSt O ro 1 (.tmp 13) (.tmp 11))]
def ZhH(O:HI H):RL' H:=[mv' 14 0,mv' 15 0,nl' 16 15,fl' 1 17 16,ld' O 18 17,ln' 19 18,ik' .sub 20 19 1,to 21 (aCall 219 [.tmp 14,.tmp 20])]
def F207:RC' H:=λO P ro=>cSeq (cReg (ZhF O)) (cSeq (cReg (ZhG O ro)) (cReg (ZhH O)))
theorem F207_fn:FN' 207 @F207 [] Tryz.f207:=f'n Tryz.func207
def ZhI:RL' H:=[mv' 7 1,to 8 (aShift .shr (.tmp 7) (.const (.int .u64 1))),mv' 6 8]
def ZhJ(O:HI H)(ro:Nat):RL' H:=[mv' 9 0,nl' 10 9,fl' 5 11 10,ld' O 12 11,mv' 13 1,ix' 1 14 12 13,too (aSt O ro 1 (.tmp 14) (.const (.bool true)))]
def ZhK(O:HI H)(ro:Nat):RL' H:=[mv' 15 0,nl' 16 15,fl' 6 17 16,ld' O 18 17,mv' 19 6,mv' 20 0,nl' 21 20,fl' 8 22 21,ld' O 23 22,ln' 24 23,ix' 5 25 18 19,fl' 0 26 25,too (aSt O ro 1 (.tmp 26) (.tmp 24))]
def ZhL(O:HI H)(ro:Nat):RL' H:=[mv' 27 0,nl' 28 27,fl' 6 29 28,ld' O 30 29,mv' 31 6,mv' 32 2,ix' 5 33 30 31,fl' 1 34 33,too (aSt O ro 1 (.tmp 34) (.tmp 32))]
def ZhM(O:HI H)(ro:Nat):RL' H:=[mv' 35 0,nl' 36 35,fl' 6 37 36,ld' O 38 37,mv' 39 6,mv' 40 1,ik' .and 41 40 1,ik' .eql 42 41 0,ix' 5 43 38 39,fl' 4 44 43,too (aSt O ro 1 (.tmp 44) (.tmp 42))]
def ZhN(O:HI H)(ro:Nat):RL' H:=[mv' 45 0,mv' 46 0,nl' 47 46,fl' 7 48 47,ld' O 49 48,mv' 50 1,to 51 (aMkSl O 1 1 #[.int .i64 0] [(0,.tmp 50)]),to 52 (aApp O ro 1 8 (.tmp 49) (.tmp 51)),nl' 53 45,fl' 7 54 53,too (aSt O ro 1 (.tmp 54) (.tmp 52))]
def F208:RC' H:=λO P ro=>cSeq (cReg ZhI) (cSeq (cReg (ZhJ O ro)) (cSeq (cReg (ZhK O ro)) (cSeq (cReg (ZhL O ro)) (cSeq (cReg (ZhM O ro)) (cReg (ZhN O ro))))))
theorem F208_fn:FN' 208 @F208 [] Tryz.f208:=f'n Tryz.func208
def ZhO:RL' H:=[mk' 4 0]
def ZhP(O:HI H):RL' H:=[mv' 12 0,nl' 13 12,fl' 4 14 13,ld' O 15 14,mv' 16 1,ix' 1 17 15 16,ld' O 18 17,mv' 5 18]
def ZhQ:RL' H:=[to 6 (aMove (.const (.int .i64 (-1))))]
def ZhR:RL' H:=[mk' 7 0]
def ZhS:RL' H:=[mk' 8 0]
def ZhT:RL' H:=[mv' 19 8,mv' 20 5,ln' 21 20,ia' .lss 22 19 21]
def ZhU(O:HI H):RL' H:=[mv' 25 5,mv' 26 8,ix' 1 27 25 26,ld' O 28 27,mv' 9 28]
def ZhV:RL' H:=[mv' 29 0,mv' 30 9,mv' 31 1,to 32 (aCall 220 [.tmp 29,.tmp 30,.tmp 31]),mv' 10 32]
def ZhW:RL' H:=[mv' 33 10]
def ZhX(O:HI H)(ro:Nat):RL' H:=[mv' 34 5,mv' 35 7,mv' 36 9,ix' 1 37 34 35,too (aSt O ro 1 (.tmp 37) (.tmp 36))]
def ZhY:RL' H:=[mv' 38 7,ik' .add 39 38 1,mv' 7 39]
def ZhZ(O:HI H):RL' H:=[mv' 40 0,nl' 41 40,fl' 1 42 41,ld' O 43 42,mv' 44 9,ix' 4 45 43 44,fl' 1 46 45,ld' O 47 46,mv' 11 47]
def Zh0(O:HI H):RL' H:=[mv' 48 0,nl' 49 48,fl' 5 50 49,ld' O 51 50,mv' 52 11,ik' .xor 53 52 1,ix' 1 54 51 53,ld' O 55 54]
def Zh1:RL' H:=[mv' 56 9,mv' 6 56]
def Zh2(O:HI H):RL' H:=[mv' 57 0,nl' 58 57,fl' 5 59 58,ld' O 60 59,mv' 61 11,ix' 1 62 60 61,ld' O 63 62,to 64 (aUn .not (.tmp 63))]
def Zh3:RL' H:=[mv' 65 0,mv' 66 11,mv' 67 9,to 68 (aCall 208 [.tmp 65,.tmp 66,.tmp 67])]
def Zh4:RL' H:=[mv' 23 8,ik' .add 24 23 1,mv' 8 24]
def Zh5(O:HI H)(ro:Nat):RL' H:=[mv' 69 0,nl' 70 69,fl' 4 71 70,ld' O 72 71,mv' 73 1,mv' 74 5,mv' 75 7,to 76 (aSliceSl 1 (.tmp 74) none (some (.tmp 75))),ix' 1 77 72 73,too (aSt O ro 1 (.tmp 77) (.tmp 76))]
def Zh6:RL' H:=[mv' 78 6,mv' 4 78]
def W209_0:RC' H:=λO P ro=>cSeq (cSeq (cReg ZhT) (cIf (.tmp 22) (cSkip) (cExit 0))) (cSeq (cBlk 1 (cSeq (cReg (ZhU O)) (cSeq (cReg ZhV) (cSeq (cSeq (cReg ZhW) (cIf (.tmp 33) (cExit 1) (cSkip))) (cSeq (cReg (ZhX O ro)) (cSeq (cReg ZhY) (cSeq (cReg (ZhZ O)) (cSeq (cReg (Zh0 O)) (cIf (.tmp 55) (cReg Zh1) (cSeq (cReg (Zh2 O)) (cIf (.tmp 64) (cReg Zh3) (cSkip)))))))))))) (cReg Zh4))
def F209:RC' H:=λO P ro=>cSeq (cReg ZhO) (cSeq (cReg (ZhP O)) (cSeq (cReg ZhQ) (cSeq (cReg ZhR) (cSeq (cSeq (cReg ZhS) (cBlk 0 (cLoop (W209_0 O P ro)))) (cSeq (cReg (Zh5 O ro)) (cSeq (cReg Zh6) (cRet)))))))
theorem F209_fn:FN' 209 @F209 [.tmp 4] Tryz.f209:=f'n Tryz.func209
def Zh7:RL' H:=[mk' 4 0]
def Zh8(O:HI H):RL' H:=[mv' 5 0,nl' 6 5,fl' 5 7 6,ld' O 8 7,mv' 9 1,ik' .xor 10 9 1,ix' 1 11 8 10,ld' O 12 11]
def Zh9(O:HI H):RL' H:=[mv' 13 0,mv' 14 1,to 15 (aMkSl O 1 1 #[.int .i64 0] [(0,.tmp 14)]),to 16 (aCall 212 [.tmp 13,.tmp 15])]
def Zia(O:HI H)(ro:Nat):RL' H:=[mv' 17 0,mv' 18 0,nl' 19 18,fl' 12 20 19,ld' O 21 20,mv' 22 1,to 23 (aMkSl O 1 1 #[.int .i64 0] [(0,.tmp 22)]),to 24 (aApp O ro 1 8 (.tmp 21) (.tmp 23)),nl' 25 17,fl' 12 26 25,too (aSt O ro 1 (.tmp 26) (.tmp 24))]
def Zib:RL' H:=[mk' 4 2]
def Zic(O:HI H)(ro:Nat):RL' H:=[mv' 27 0,mv' 28 0,nl' 29 28,fl' 8 30 29,ld' O 31 30,mv' 32 0,nl' 33 32,fl' 7 34 33,ld' O 35 34,ln' 36 35,to 37 (aMkSl O 1 1 #[.int .i64 0] [(0,.tmp 36)]),to 38 (aApp O ro 1 8 (.tmp 31) (.tmp 37)),nl' 39 27,fl' 8 40 39,too (aSt O ro 1 (.tmp 40) (.tmp 38))]
def Zid(O:HI H):RL' H:=[mv' 41 0,nl' 42 41,fl' 5 43 42,ld' O 44 43,mv' 45 1,ix' 1 46 44 45,ld' O 47 46,to 48 (aUn .not (.tmp 47))]
def Zie:RL' H:=[mv' 49 0,mv' 50 1,to 51 (aCall 208 [.tmp 49,.tmp 50,.const (.int .i64 (-1))])]
def Zif:RL' H:=[mk' 4 0]
def F210:RC' H:=λO P ro=>cSeq (cReg Zh7) (cSeq (cSeq (cReg (Zh8 O)) (cIf (.tmp 12) (cSeq (cReg (Zh9 O)) (cSeq (cReg (Zia O ro)) (cSeq (cReg Zib) (cRet)))) (cSkip))) (cSeq (cReg (Zic O ro)) (cSeq (cSeq (cReg (Zid O)) (cIf (.tmp 48) (cReg Zie) (cSkip))) (cSeq (cReg Zif) (cRet)))))
theorem F210_fn:FN' 210 @F210 [.tmp 4] Tryz.f210:=f'n Tryz.func210
def Zig:RL' H:=[mk' 2 0]
def Zih:RL' H:=[to 3 (aMove (.const (.int .i64 (-1))))]
def Zii:RL' H:=[mk' 4 0]
def Zij(O:HI H):RL' H:=[mv' 5 4,mv' 6 0,nl' 7 6,fl' 6 8 7,ld' O 9 8,ln' 10 9,ia' .lss 11 5 10]
def Zik(O:HI H):RL' H:=[mv' 14 0,nl' 15 14,fl' 5 16 15,ld' O 17 16,mv' 18 4,to 19 (aInt .mul (.const (.int .i64 2)) (.tmp 18)),ix' 1 20 17 19,ld' O 21 20,mv' 22 21,onlyIf 22 false 23 (mv' 23 0),onlyIf 22 false 24 (nl' 24 23),onlyIf 22 false 25 (fl' 5 25 24),onlyIf 22 false 26 (ld' O 26 25),onlyIf 22 false 27 (mv' 27 4),onlyIf 22 false 28 (to 28 (aInt .mul (.const (.int .i64 2)) (.tmp 27))),onlyIf 22 false 29 (ik' .add 29 28 1),onlyIf 22 false 30 (ix' 1 30 26 29),onlyIf 22 false 31 (ld' O 31 30),to 32 (aPick (.tmp 22) (.const (.bool true)) (.tmp 31))]
def Zil(O:HI H):RL' H:=[mv' 33 3,to 34 (aInt .eql (.tmp 33) (.const (.int .i64 (-1)))),mv' 35 34,onlyIf 35 false 36 (mv' 36 0),onlyIf 35 false 37 (nl' 37 36),onlyIf 35 false 38 (fl' 6 38 37),onlyIf 35 false 39 (ld' O 39 38),onlyIf 35 false 40 (mv' 40 4),onlyIf 35 false 41 (ix' 5 41 39 40),onlyIf 35 false 42 (fl' 3 42 41),onlyIf 35 false 43 (ld' O 43 42),onlyIf 35 false 44 (mv' 44 0),onlyIf 35 false 45 (nl' 45 44),onlyIf 35 false 46 (fl' 6 46 45),onlyIf 35 false 47 (ld' O 47 46),onlyIf 35 false 48 (mv' 48 3),onlyIf 35 false 49 (ix' 5 49 47 48),onlyIf 35 false 50 (fl' 3 50 49),onlyIf 35 false 51 (ld' O 51 50),onlyIf 35 false 52 (ia' .gtr 52 43 51),to 53 (aPick (.tmp 35) (.const (.bool true)) (.tmp 52))]
def Zim:RL' H:=[mv' 54 4,mv' 3 54]
def Zin:RL' H:=[mv' 12 4,ik' .add 13 12 1,mv' 4 13]
def Zio:RL' H:=[mv' 55 3,mv' 2 55]
def W211_0:RC' H:=λO P ro=>cSeq (cSeq (cReg (Zij O)) (cIf (.tmp 11) (cSkip) (cExit 0))) (cSeq (cBlk 1 (cSeq (cSeq (cReg (Zik O)) (cIf (.tmp 32) (cExit 1) (cSkip))) (cSeq (cReg (Zil O)) (cIf (.tmp 53) (cReg Zim) (cSkip))))) (cReg Zin))
def F211:RC' H:=λO P ro=>cSeq (cReg Zig) (cSeq (cReg Zih) (cSeq (cSeq (cReg Zii) (cBlk 0 (cLoop (W211_0 O P ro)))) (cSeq (cReg Zio) (cRet))))
theorem F211_fn:FN' 211 @F211 [.tmp 2] Tryz.f211:=f'n Tryz.func211
def Zip:RL' H:=[mv' 7 0,mv' 8 1,to 9 (aCall 221 [.tmp 7,.tmp 8])]
def Ziq(O:HI H):RL' H:=[mv' 10 0,nl' 11 10,fl' 7 12 11,ld' O 13 12,ln' 14 13,ik' .sub 15 14 1,mv' 4 15]
def Zir:RL' H:=[mv' 16 4,ik' .geq 17 16 0]
def Zis(O:HI H):RL' H:=[mv' 20 0,nl' 21 20,fl' 7 22 21,ld' O 23 22,mv' 24 4,ix' 1 25 23 24,ld' O 26 25,to 27 (aShift .shr (.tmp 26) (.const (.int .u64 1))),mv' 5 27]
def Zit(O:HI H):RL' H:=[mv' 28 0,nl' 29 28,fl' 6 30 29,ld' O 31 30,mv' 32 5,ix' 5 33 31 32,fl' 2 34 33,ld' O 35 34,to 36 (aUn .not (.tmp 35))]
def Ziu(O:HI H):RL' H:=[mv' 37 0,nl' 38 37,fl' 6 39 38,ld' O 40 39,mv' 41 5,ix' 5 42 40 41,fl' 1 43 42,ld' O 44 43,mv' 6 44]
def Ziv:RL' H:=[mv' 45 6,to 46 (aInt .eql (.tmp 45) (.const (.int .i64 (-1))))]
def Ziw(O:HI H)(ro:Nat):RL' H:=[mv' 47 0,mv' 48 0,nl' 49 48,fl' 12 50 49,ld' O 51 50,mv' 52 0,nl' 53 52,fl' 7 54 53,ld' O 55 54,mv' 56 4,ix' 1 57 55 56,ld' O 58 57,to 59 (aMkSl O 1 1 #[.int .i64 0] [(0,.tmp 58)]),to 60 (aApp O ro 1 8 (.tmp 51) (.tmp 59)),nl' 61 47,fl' 12 62 61,too (aSt O ro 1 (.tmp 62) (.tmp 60))]
def Zix(O:HI H):RL' H:=[mv' 63 0,mv' 64 0,nl' 65 64,fl' 1 66 65,ld' O 67 66,mv' 68 6,ix' 4 69 67 68,fl' 0 70 69,ld' O 71 70,to 72 (aCall 221 [.tmp 63,.tmp 71])]
def Ziy:RL' H:=[mv' 18 4,ik' .sub 19 18 1,mv' 4 19]
def W212_0:RC' H:=λO P ro=>cSeq (cSeq (cReg Zir) (cIf (.tmp 17) (cSkip) (cExit 0))) (cSeq (cBlk 1 (cSeq (cReg (Zis O)) (cSeq (cSeq (cReg (Zit O)) (cIf (.tmp 36) (cExit 1) (cSkip))) (cSeq (cReg (Ziu O)) (cSeq (cReg Ziv) (cIf (.tmp 46) (cReg (Ziw O ro)) (cReg (Zix O)))))))) (cReg Ziy))
def F212:RC' H:=λO P ro=>cSeq (cReg Zip) (cSeq (cReg (Ziq O)) (cBlk 0 (cLoop (W212_0 O P ro))))
theorem F212_fn:FN' 212 @F212 [] Tryz.f212:=f'n Tryz.func212
def Ziz:RL' H:=[mv' 9 0,mv' 10 1,to 11 (aCall 222 [.tmp 9,.tmp 10]),mv' 4 11]
def ZiA:RL' H:=[mv' 12 0,mv' 13 4,to 14 (aCall 223 [.tmp 12,.tmp 13]),mv' 5 14]
def ZiB:RL' H:=[mv' 15 0,mv' 16 5,to 17 (aCall 224 [.tmp 15,.tmp 16]),mv' 6 17]
def ZiC:RL' H:=[mv' 18 0,to 19 (aCall 225 [.tmp 18])]
def ZiD:RL' H:=[mv' 20 0,to 21 (aCall 226 [.tmp 20])]
def ZiE:RL' H:=[mv' 22 5,ln' 23 22,ik' .eql 24 23 1]
def ZiF:RL' H:=[mv' 25 0,to 26 (aCall 227 [.tmp 25,.const (.int .i64 0)])]
def ZiG(O:HI H):RL' H:=[mv' 27 0,mv' 28 5,to 29 (aIdx 1 (.tmp 28) (.const (.int .i64 0))),ld' O 30 29,to 31 (aCall 208 [.tmp 27,.tmp 30,.const (.int .i64 (-1))])]
def ZiH(O:HI H):RL' H:=[mv' 32 5,mv' 33 5,ln' 34 33,ik' .sub 35 34 1,ix' 1 36 32 35,ld' O 37 36,mv' 7 37]
def ZiI(O:HI H):RL' H:=[mv' 38 0,nl' 39 38,fl' 6 40 39,ld' O 41 40,mv' 42 7,to 43 (aShift .shr (.tmp 42) (.const (.int .u64 1))),ix' 5 44 41 43,fl' 0 45 44,ld' O 46 45,mv' 8 46]
def ZiJ:RL' H:=[mv' 47 0,mv' 48 8,to 49 (aCall 227 [.tmp 47,.tmp 48])]
def ZiK:RL' H:=[mv' 50 0,to 51 (aCall 228 [.tmp 50])]
def ZiL(O:HI H):RL' H:=[mv' 52 0,mv' 53 5,mv' 54 5,to 55 (aIdx 1 (.tmp 54) (.const (.int .i64 0))),ld' O 56 55,mv' 57 7,mv' 58 6,to 59 (aBuild #[.slice none 0 0,.int .i64 0,.int .i64 0,.int .i64 0] [(0,1),(1,1),(2,1),(3,1)] [(0,.tmp 53),(1,.tmp 56),(2,.tmp 57),(3,.tmp 58)]),to 60 (aCall 207 [.tmp 52,.tmp 59])]
def ZiM(O:HI H):RL' H:=[mv' 61 0,mv' 62 5,to 63 (aIdx 1 (.tmp 62) (.const (.int .i64 0))),ld' O 64 63,mv' 65 0,nl' 66 65,fl' 1 67 66,ld' O 68 67,ln' 69 68,ik' .sub 70 69 1,to 71 (aCall 208 [.tmp 61,.tmp 64,.tmp 70])]
def F213:RC' H:=λO P ro=>cSeq (cReg Ziz) (cSeq (cReg ZiA) (cSeq (cReg ZiB) (cSeq (cReg ZiC) (cSeq (cReg ZiD) (cSeq (cSeq (cReg ZiE) (cIf (.tmp 24) (cSeq (cReg ZiF) (cSeq (cReg (ZiG O)) (cRet))) (cSkip))) (cSeq (cReg (ZiH O)) (cSeq (cReg (ZiI O)) (cSeq (cReg ZiJ) (cSeq (cReg ZiK) (cSeq (cReg (ZiL O)) (cReg (ZiM O))))))))))))
theorem F213_fn:FN' 213 @F213 [] Tryz.f213:=f'n Tryz.func213
def ZiN(O:HI H):RL' H:=[mv' 6 0,nl' 7 6,fl' 1 8 7,ld' O 9 8,mv' 10 1,ix' 4 11 9 10,fl' 1 12 11,ld' O 13 12,mv' 4 13]
def ZiO(O:HI H):RL' H:=[mv' 14 0,nl' 15 14,fl' 1 16 15,ld' O 17 16,mv' 18 1,ix' 4 19 17 18,fl' 2 20 19,ld' O 21 20,mv' 5 21]
def ZiP(O:HI H)(ro:Nat):RL' H:=[mv' 22 0,nl' 23 22,fl' 4 24 23,ld' O 25 24,mv' 26 4,mv' 27 0,nl' 28 27,fl' 4 29 28,ld' O 30 29,mv' 31 4,ix' 1 32 30 31,ld' O 33 32,mv' 34 1,to 35 (aMkSl O 1 1 #[.int .i64 0] [(0,.tmp 34)]),to 36 (aApp O ro 1 8 (.tmp 33) (.tmp 35)),ix' 1 37 25 26,too (aSt O ro 1 (.tmp 37) (.tmp 36)),chk (.tmp 24) (.tmp 33)]
def ZiQ(O:HI H)(ro:Nat):RL' H:=[mv' 38 0,nl' 39 38,fl' 4 40 39,ld' O 41 40,mv' 42 5,mv' 43 0,nl' 44 43,fl' 4 45 44,ld' O 46 45,mv' 47 5,ix' 1 48 46 47,ld' O 49 48,mv' 50 1,to 51 (aMkSl O 1 1 #[.int .i64 0] [(0,.tmp 50)]),to 52 (aApp O ro 1 8 (.tmp 49) (.tmp 51)),ix' 1 53 41 42,too (aSt O ro 1 (.tmp 53) (.tmp 52)),chk (.tmp 40) (.tmp 49)]
def F219:RC' H:=λO P ro=>cSeq (cReg (ZiN O)) (cSeq (cReg (ZiO O)) (cSeq (cReg (ZiP O ro)) (cReg (ZiQ O ro))))
theorem F219_fn:FN' 219 @F219 [] Tryz.f219:=f'n Tryz.func219
def ZiR:RL' H:=[to 6 (aMove (.const (.bool false)))]
def ZiS(O:HI H):RL' H:=[mv' 11 0,nl' 12 11,fl' 1 13 12,ld' O 14 13,mv' 15 1,ix' 4 16 14 15,fl' 1 17 16,ld' O 18 17,mv' 19 2,ia' .eql 20 18 19]
def ZiT(O:HI H)(ro:Nat):RL' H:=[mv' 21 0,nl' 22 21,fl' 1 23 22,ld' O 24 23,mv' 25 1,mv' 26 0,nl' 27 26,fl' 1 28 27,ld' O 29 28,mv' 30 1,ix' 4 31 29 30,fl' 2 32 31,ld' O 33 32,ix' 4 34 24 25,fl' 1 35 34,too (aSt O ro 1 (.tmp 35) (.tmp 33))]
def ZiU(O:HI H)(ro:Nat):RL' H:=[mv' 36 0,nl' 37 36,fl' 1 38 37,ld' O 39 38,mv' 40 1,mv' 41 2,ix' 4 42 39 40,fl' 2 43 42,too (aSt O ro 1 (.tmp 43) (.tmp 41))]
def ZiV(O:HI H):RL' H:=[mv' 44 0,nl' 45 44,fl' 1 46 45,ld' O 47 46,mv' 48 1,ix' 4 49 47 48,fl' 1 50 49,ld' O 51 50,mv' 7 51]
def ZiW(O:HI H):RL' H:=[mv' 52 0,nl' 53 52,fl' 5 54 53,ld' O 55 54,mv' 56 7,ix' 1 57 55 56,ld' O 58 57]
def ZiX:RL' H:=[to 6 (aMove (.const (.bool false)))]
def ZiY(O:HI H):RL' H:=[mv' 59 0,nl' 60 59,fl' 1 61 60,ld' O 62 61,mv' 63 1,ix' 4 64 62 63,fl' 0 65 64,ld' O 66 65,mv' 8 66]
def ZiZ:RL' H:=[mk' 9 0]
def Zi0:RL' H:=[mv' 67 9,mv' 68 8,ln' 69 68,ia' .lss 70 67 69]
def Zi1(O:HI H):RL' H:=[mv' 73 8,mv' 74 9,ix' 1 75 73 74,ld' O 76 75,mv' 10 76]
def Zi2(O:HI H):RL' H:=[mv' 77 10,mv' 78 7,ia' .neq 79 77 78,mv' 80 79,onlyIf 80 true 81 (mv' 81 0),onlyIf 80 true 82 (nl' 82 81),onlyIf 80 true 83 (fl' 5 83 82),onlyIf 80 true 84 (ld' O 84 83),onlyIf 80 true 85 (mv' 85 10),onlyIf 80 true 86 (ik' .xor 86 85 1),onlyIf 80 true 87 (ix' 1 87 84 86),onlyIf 80 true 88 (ld' O 88 87),onlyIf 80 true 89 (to 89 (aUn .not (.tmp 88))),to 90 (aPick (.tmp 80) (.tmp 89) (.const (.bool false)))]
def Zi3(O:HI H)(ro:Nat):RL' H:=[mv' 91 0,nl' 92 91,fl' 1 93 92,ld' O 94 93,mv' 95 1,mv' 96 10,ix' 4 97 94 95,fl' 2 98 97,too (aSt O ro 1 (.tmp 98) (.tmp 96))]
def Zi4(O:HI H)(ro:Nat):RL' H:=[mv' 99 0,nl' 100 99,fl' 4 101 100,ld' O 102 101,mv' 103 10,mv' 104 0,nl' 105 104,fl' 4 106 105,ld' O 107 106,mv' 108 10,ix' 1 109 107 108,ld' O 110 109,mv' 111 1,to 112 (aMkSl O 1 1 #[.int .i64 0] [(0,.tmp 111)]),to 113 (aApp O ro 1 8 (.tmp 110) (.tmp 112)),ix' 1 114 102 103,too (aSt O ro 1 (.tmp 114) (.tmp 113)),chk (.tmp 101) (.tmp 110)]
def Zi5:RL' H:=[to 6 (aMove (.const (.bool true)))]
def Zi6:RL' H:=[mv' 71 9,ik' .add 72 71 1,mv' 9 72]
def Zi7:RL' H:=[to 6 (aMove (.const (.bool false)))]
def W220_0:RC' H:=λO P ro=>cSeq (cSeq (cReg Zi0) (cIf (.tmp 70) (cSkip) (cExit 0))) (cSeq (cBlk 1 (cSeq (cReg (Zi1 O)) (cSeq (cReg (Zi2 O)) (cIf (.tmp 90) (cSeq (cReg (Zi3 O ro)) (cSeq (cReg (Zi4 O ro)) (cSeq (cReg Zi5) (cRet)))) (cSkip))))) (cReg Zi6))
def F220:RC' H:=λO P ro=>cSeq (cReg ZiR) (cSeq (cSeq (cReg (ZiS O)) (cIf (.tmp 20) (cSeq (cReg (ZiT O ro)) (cReg (ZiU O ro))) (cSkip))) (cSeq (cReg (ZiV O)) (cSeq (cSeq (cReg (ZiW O)) (cIf (.tmp 58) (cSeq (cReg ZiX) (cRet)) (cSkip))) (cSeq (cReg (ZiY O)) (cSeq (cSeq (cReg ZiZ) (cBlk 0 (cLoop (W220_0 O P ro)))) (cSeq (cReg Zi7) (cRet)))))))
theorem F220_fn:FN' 220 @F220 [.tmp 6] Tryz.f220:=f'n Tryz.func220
def Zi8:RL' H:=[mk' 4 0]
def Zi9:RL' H:=[mk' 5 0]
def Zja:RL' H:=[mk' 6 0]
def Zjb:RL' H:=[mv' 8 6,mv' 9 1,ln' 10 9,ia' .lss 11 8 10]
def Zjc(O:HI H):RL' H:=[mv' 14 1,mv' 15 6,ix' 1 16 14 15,ld' O 17 16,to 18 (aShift .shr (.tmp 17) (.const (.int .u64 1))),mv' 7 18]
def Zjd(O:HI H):RL' H:=[mv' 19 0,nl' 20 19,fl' 6 21 20,ld' O 22 21,mv' 23 7,ix' 5 24 22 23,fl' 2 25 24,ld' O 26 25,mv' 27 26,onlyIf 27 false 28 (mv' 28 0),onlyIf 27 false 29 (nl' 29 28),onlyIf 27 false 30 (fl' 6 30 29),onlyIf 27 false 31 (ld' O 31 30),onlyIf 27 false 32 (mv' 32 7),onlyIf 27 false 33 (ix' 5 33 31 32),onlyIf 27 false 34 (fl' 0 34 33),onlyIf 27 false 35 (ld' O 35 34),onlyIf 27 false 36 (ik' .eql 36 35 0),to 37 (aPick (.tmp 27) (.const (.bool true)) (.tmp 36))]
def Zje(O:HI H)(ro:Nat):RL' H:=[mv' 38 0,nl' 39 38,fl' 6 40 39,ld' O 41 40,mv' 42 7,ix' 5 43 41 42,fl' 2 44 43,too (aSt O ro 1 (.tmp 44) (.const (.bool true)))]
def Zjf(O:HI H)(ro:Nat):RL' H:=[mv' 45 0,nl' 46 45,fl' 6 47 46,ld' O 48 47,mv' 49 7,ix' 5 50 48 49,fl' 3 51 50,ld' O 52 51,mv' 53 0,nl' 54 53,fl' 10 55 54,ld' O 56 55,ia' .add 57 52 56,ix' 5 58 48 49,fl' 3 59 58,too (aSt O ro 1 (.tmp 59) (.tmp 57))]
def Zjg(O:HI H):RL' H:=[mv' 60 0,nl' 61 60,fl' 6 62 61,ld' O 63 62,mv' 64 7,ix' 5 65 63 64,fl' 0 66 65,ld' O 67 66,mv' 68 0,nl' 69 68,fl' 8 70 69,ld' O 71 70,ln' 72 71,ia' .eql 73 67 72]
def Zjh:RL' H:=[mv' 74 5,ik' .add 75 74 1,mv' 5 75]
def Zji:RL' H:=[mv' 12 6,ik' .add 13 12 1,mv' 6 13]
def Zjj:RL' H:=[mv' 76 5,mv' 4 76]
def W221_0:RC' H:=λO P ro=>cSeq (cSeq (cReg Zjb) (cIf (.tmp 11) (cSkip) (cExit 0))) (cSeq (cBlk 1 (cSeq (cReg (Zjc O)) (cSeq (cSeq (cReg (Zjd O)) (cIf (.tmp 37) (cExit 1) (cSkip))) (cSeq (cReg (Zje O ro)) (cSeq (cReg (Zjf O ro)) (cSeq (cReg (Zjg O)) (cIf (.tmp 73) (cReg Zjh) (cSkip)))))))) (cReg Zji))
def F221:RC' H:=λO P ro=>cSeq (cReg Zi8) (cSeq (cReg Zi9) (cSeq (cSeq (cReg Zja) (cBlk 0 (cLoop (W221_0 O P ro)))) (cSeq (cReg Zjj) (cRet))))
theorem F221_fn:FN' 221 @F221 [.tmp 4] Tryz.f221:=f'n Tryz.func221
def Zjk:RL' H:=[mk' 4 0]
def Zjl(O:HI H):RL' H:=[mv' 10 0,mv' 11 0,nl' 12 11,fl' 1 13 12,ld' O 14 13,mv' 15 1,ix' 4 16 14 15,fl' 0 17 16,ld' O 18 17,to 19 (aCall 221 [.tmp 10,.tmp 18]),mv' 5 19]
def Zjm(O:HI H):RL' H:=[mv' 20 0,nl' 21 20,fl' 7 22 21,ld' O 23 22,ln' 24 23,ik' .sub 25 24 1,mv' 6 25]
def Zjn:RL' H:=[mv' 26 6,ik' .gtr 27 26 0]
def Zjo(O:HI H):RL' H:=[mv' 28 0,nl' 29 28,fl' 7 30 29,ld' O 31 30,mv' 32 6,ix' 1 33 31 32,ld' O 34 33,to 35 (aShift .shr (.tmp 34) (.const (.int .u64 1))),mv' 7 35]
def Zjp(O:HI H):RL' H:=[mv' 36 0,nl' 37 36,fl' 6 38 37,ld' O 39 38,mv' 40 7,ix' 5 41 39 40,fl' 1 42 41,ld' O 43 42,mv' 8 43]
def Zjq(O:HI H):RL' H:=[mv' 44 0,nl' 45 44,fl' 6 46 45,ld' O 47 46,mv' 48 7,ix' 5 49 47 48,fl' 2 50 49,ld' O 51 50]
def Zjr:RL' H:=[mv' 52 5,ik' .eql 53 52 1,mv' 54 53,onlyIf 54 false 55 (mv' 55 8),onlyIf 54 false 56 (to 56 (aInt .eql (.tmp 55) (.const (.int .i64 (-1))))),to 57 (aPick (.tmp 54) (.const (.bool true)) (.tmp 56))]
def Zjs:RL' H:=[mv' 58 6,mv' 4 58]
def Zjt(O:HI H):RL' H:=[mv' 59 0,mv' 60 0,nl' 61 60,fl' 1 62 61,ld' O 63 62,mv' 64 8,ix' 4 65 63 64,fl' 0 66 65,ld' O 67 66,to 68 (aCall 221 [.tmp 59,.tmp 67]),mv' 9 68]
def Zju:RL' H:=[mv' 69 5,mv' 70 9,ik' .sub 71 70 1,ia' .add 72 69 71,mv' 5 72]
def Zjv:RL' H:=[mv' 73 6,ik' .sub 74 73 1,mv' 6 74]
def Zjw:RL' H:=[mv' 75 6,mv' 4 75]
def W222_0:RC' H:=λO P ro=>cSeq (cSeq (cReg Zjn) (cIf (.tmp 27) (cSkip) (cExit 0))) (cBlk 1 (cSeq (cReg (Zjo O)) (cSeq (cReg (Zjp O)) (cSeq (cSeq (cReg (Zjq O)) (cIf (.tmp 51) (cSeq (cSeq (cReg Zjr) (cIf (.tmp 57) (cSeq (cReg Zjs) (cRet)) (cSkip))) (cSeq (cReg (Zjt O)) (cReg Zju))) (cSkip))) (cReg Zjv)))))
def F222:RC' H:=λO P ro=>cSeq (cReg Zjk) (cSeq (cReg (Zjl O)) (cSeq (cReg (Zjm O)) (cSeq (cBlk 0 (cLoop (W222_0 O P ro))) (cSeq (cReg Zjw) (cRet)))))
theorem F222_fn:FN' 222 @F222 [.tmp 4] Tryz.f222:=f'n Tryz.func222
def Zjx:RL' H:=[to 4 (aMove (.const (.slice none 0 0)))]
def Zjy(O:HI H):RL' H:=[mv' 8 0,nl' 9 8,fl' 7 10 9,ld' O 11 10,mv' 12 1,ix' 1 13 11 12,ld' O 14 13,ik' .xor 15 14 1,to 16 (aMkSl O 1 1 #[.int .i64 0] [(0,.tmp 15)]),mv' 5 16]
def Zjz:RL' H:=[mk' 6 0]
def ZjA:RL' H:=[mv' 17 6,mv' 18 1,ia' .lss 19 17 18]
def ZjB(O:HI H):RL' H:=[mv' 22 0,nl' 23 22,fl' 7 24 23,ld' O 25 24,mv' 26 6,ix' 1 27 25 26,ld' O 28 27,to 29 (aShift .shr (.tmp 28) (.const (.int .u64 1))),mv' 7 29]
def ZjC(O:HI H):RL' H:=[mv' 30 0,nl' 31 30,fl' 6 32 31,ld' O 33 32,mv' 34 7,ix' 5 35 33 34,fl' 2 36 35,ld' O 37 36,mv' 38 37,onlyIf 38 true 39 (mv' 39 0),onlyIf 38 true 40 (mv' 40 7),onlyIf 38 true 41 (to 41 (aCall 234 [.tmp 39,.tmp 40])),onlyIf 38 true 42 (to 42 (aUn .not (.tmp 41))),to 43 (aPick (.tmp 38) (.tmp 42) (.const (.bool false)))]
def ZjD(O:HI H)(ro:Nat):RL' H:=[mv' 44 5,mv' 45 0,nl' 46 45,fl' 7 47 46,ld' O 48 47,mv' 49 6,ix' 1 50 48 49,ld' O 51 50,ik' .xor 52 51 1,to 53 (aMkSl O 1 1 #[.int .i64 0] [(0,.tmp 52)]),to 54 (aApp O ro 1 8 (.tmp 44) (.tmp 53)),mv' 5 54]
def ZjE:RL' H:=[mv' 20 6,ik' .add 21 20 1,mv' 6 21]
def ZjF:RL' H:=[mv' 55 5,mv' 4 55]
def W223_0:RC' H:=λO P ro=>cSeq (cSeq (cReg ZjA) (cIf (.tmp 19) (cSkip) (cExit 0))) (cSeq (cBlk 1 (cSeq (cReg (ZjB O)) (cSeq (cReg (ZjC O)) (cIf (.tmp 43) (cReg (ZjD O ro)) (cSkip))))) (cReg ZjE))
def F223:RC' H:=λO P ro=>cSeq (cReg Zjx) (cSeq (cReg (Zjy O)) (cSeq (cSeq (cReg Zjz) (cBlk 0 (cLoop (W223_0 O P ro)))) (cSeq (cReg ZjF) (cRet))))
theorem F223_fn:FN' 223 @F223 [.tmp 4] Tryz.f223:=f'n Tryz.func223
def ZjG:RL' H:=[mk' 4 0]
def ZjH:RL' H:=[mk' 5 1]
def ZjI:RL' H:=[mk' 6 0]
def ZjJ:RL' H:=[mk' 7 1]
def ZjK:RL' H:=[mv' 9 7,mv' 10 1,ln' 11 10,ia' .lss 12 9 11]
def ZjL(O:HI H):RL' H:=[mv' 15 0,nl' 16 15,fl' 6 17 16,ld' O 18 17,mv' 19 1,mv' 20 7,ix' 1 21 19 20,ld' O 22 21,to 23 (aShift .shr (.tmp 22) (.const (.int .u64 1))),ix' 5 24 18 23,fl' 0 25 24,ld' O 26 25,mv' 8 26]
def ZjM:RL' H:=[mv' 27 8,mv' 28 6,ia' .neq 29 27 28]
def ZjN:RL' H:=[mv' 30 5,ik' .add 31 30 1,mv' 5 31]
def ZjO:RL' H:=[mv' 32 8,mv' 6 32]
def ZjP:RL' H:=[mv' 13 7,ik' .add 14 13 1,mv' 7 14]
def ZjQ:RL' H:=[mv' 33 5,mv' 4 33]
def W224_0:RC' H:=λO P ro=>cSeq (cSeq (cReg ZjK) (cIf (.tmp 12) (cSkip) (cExit 0))) (cSeq (cBlk 1 (cSeq (cReg (ZjL O)) (cSeq (cSeq (cReg ZjM) (cIf (.tmp 29) (cReg ZjN) (cSkip))) (cReg ZjO)))) (cReg ZjP))
def F224:RC' H:=λO P ro=>cSeq (cReg ZjG) (cSeq (cReg ZjH) (cSeq (cReg ZjI) (cSeq (cSeq (cReg ZjJ) (cBlk 0 (cLoop (W224_0 O P ro)))) (cSeq (cReg ZjQ) (cRet)))))
theorem F224_fn:FN' 224 @F224 [.tmp 4] Tryz.f224:=f'n Tryz.func224
def ZjR:RL' H:=[mk' 2 0]
def ZjS(O:HI H):RL' H:=[mv' 3 2,mv' 4 0,nl' 5 4,fl' 6 6 5,ld' O 7 6,ln' 8 7,ia' .lss 9 3 8]
def ZjT(O:HI H)(ro:Nat):RL' H:=[mv' 12 0,nl' 13 12,fl' 6 14 13,ld' O 15 14,mv' 16 2,ix' 5 17 15 16,fl' 2 18 17,too (aSt O ro 1 (.tmp 18) (.const (.bool false)))]
def ZjU:RL' H:=[mv' 10 2,ik' .add 11 10 1,mv' 2 11]
def W225_0:RC' H:=λO P ro=>cSeq (cSeq (cReg (ZjS O)) (cIf (.tmp 9) (cSkip) (cExit 0))) (cSeq (cBlk 1 (cReg (ZjT O ro))) (cReg ZjU))
def F225:RC' H:=λO P ro=>cSeq (cReg ZjR) (cBlk 0 (cLoop (W225_0 O P ro)))
theorem F225_fn:FN' 225 @F225 [] Tryz.f225:=f'n Tryz.func225
def ZjV(O:HI H)(ro:Nat):RL' H:=[mv' 3 0,nl' 4 3,fl' 10 5 4,ld' O 6 5,mv' 7 0,nl' 8 7,fl' 10 9 8,ld' O 10 9,ik' .quo 11 10 16,ia' .add 12 6 11,nl' 13 3,fl' 10 14 13,too (aSt O ro 1 (.tmp 14) (.tmp 12))]
def ZjW(O:HI H):RL' H:=[mv' 15 0,nl' 16 15,fl' 10 17 16,ld' O 18 17,ik' .leq 19 18 1099511627776]
def ZjX(O:HI H)(ro:Nat):RL' H:=[mv' 20 0,nl' 21 20,fl' 10 22 21,ld' O 23 22,ik' .quo 24 23 68719476736,nl' 25 20,fl' 10 26 25,too (aSt O ro 1 (.tmp 26) (.tmp 24))]
def ZjY:RL' H:=[mk' 2 0]
def ZjZ(O:HI H):RL' H:=[mv' 27 2,mv' 28 0,nl' 29 28,fl' 6 30 29,ld' O 31 30,ln' 32 31,ia' .lss 33 27 32]
def Zj0(O:HI H)(ro:Nat):RL' H:=[mv' 36 0,nl' 37 36,fl' 6 38 37,ld' O 39 38,mv' 40 2,ix' 5 41 39 40,fl' 3 42 41,ld' O 43 42,ik' .quo 44 43 68719476736,ix' 5 45 39 40,fl' 3 46 45,too (aSt O ro 1 (.tmp 46) (.tmp 44))]
def Zj1:RL' H:=[mv' 34 2,ik' .add 35 34 1,mv' 2 35]
def W226_0:RC' H:=λO P ro=>cSeq (cSeq (cReg (ZjZ O)) (cIf (.tmp 33) (cSkip) (cExit 0))) (cSeq (cBlk 1 (cReg (Zj0 O ro))) (cReg Zj1))
def F226:RC' H:=λO P ro=>cSeq (cReg (ZjV O ro)) (cSeq (cSeq (cReg (ZjW O)) (cIf (.tmp 19) (cRet) (cSkip))) (cSeq (cReg (ZjX O ro)) (cSeq (cReg ZjY) (cBlk 0 (cLoop (W226_0 O P ro))))))
theorem F226_fn:FN' 226 @F226 [] Tryz.f226:=f'n Tryz.func226
def Zj2(O:HI H):RL' H:=[mv' 6 1,mv' 7 0,nl' 8 7,fl' 8 9 8,ld' O 10 9,ln' 11 10,ia' .geq 12 6 11]
def Zj3(O:HI H):RL' H:=[mv' 13 0,nl' 14 13,fl' 8 15 14,ld' O 16 15,mv' 17 1,ix' 1 18 16 17,ld' O 19 18,mv' 4 19]
def Zj4:RL' H:=[mv' 20 4,mv' 5 20]
def Zj5(O:HI H):RL' H:=[mv' 21 5,mv' 22 0,nl' 23 22,fl' 7 24 23,ld' O 25 24,ln' 26 25,ia' .lss 27 21 26]
def Zj6(O:HI H)(ro:Nat):RL' H:=[mv' 30 0,nl' 31 30,fl' 5 32 31,ld' O 33 32,mv' 34 0,nl' 35 34,fl' 7 36 35,ld' O 37 36,mv' 38 5,ix' 1 39 37 38,ld' O 40 39,ix' 1 41 33 40,too (aSt O ro 1 (.tmp 41) (.const (.bool false)))]
def Zj7:RL' H:=[mv' 28 5,ik' .add 29 28 1,mv' 5 29]
def Zj8(O:HI H)(ro:Nat):RL' H:=[mv' 42 0,mv' 43 0,nl' 44 43,fl' 7 45 44,ld' O 46 45,mv' 47 4,to 48 (aSliceSl 1 (.tmp 46) none (some (.tmp 47))),nl' 49 42,fl' 7 50 49,too (aSt O ro 1 (.tmp 50) (.tmp 48))]
def Zj9(O:HI H)(ro:Nat):RL' H:=[mv' 51 0,mv' 52 0,nl' 53 52,fl' 8 54 53,ld' O 55 54,mv' 56 1,to 57 (aSliceSl 1 (.tmp 55) none (some (.tmp 56))),nl' 58 51,fl' 8 59 58,too (aSt O ro 1 (.tmp 59) (.tmp 57))]
def Zka(O:HI H)(ro:Nat):RL' H:=[mv' 60 0,mv' 61 4,nl' 62 60,fl' 9 63 62,too (aSt O ro 1 (.tmp 63) (.tmp 61))]
def W227_0:RC' H:=λO P ro=>cSeq (cSeq (cReg (Zj5 O)) (cIf (.tmp 27) (cSkip) (cExit 0))) (cSeq (cBlk 1 (cReg (Zj6 O ro))) (cReg Zj7))
def F227:RC' H:=λO P ro=>cSeq (cSeq (cReg (Zj2 O)) (cIf (.tmp 12) (cRet) (cSkip))) (cSeq (cReg (Zj3 O)) (cSeq (cSeq (cReg Zj4) (cBlk 0 (cLoop (W227_0 O P ro)))) (cSeq (cReg (Zj8 O ro)) (cSeq (cReg (Zj9 O ro)) (cReg (Zka O ro))))))
theorem F227_fn:FN' 227 @F227 [] Tryz.f227:=f'n Tryz.func227
def Zkb(O:HI H):RL' H:=[mv' 8 0,nl' 9 8,fl' 1 10 9,ld' O 11 10,ln' 12 11,mv' 13 0,nl' 14 13,fl' 2 15 14,ld' O 16 15,ia' .sub 17 12 16,mv' 18 0,nl' 19 18,fl' 3 20 19,ld' O 21 20,ia' .lss 22 17 21]
def Zkc:RL' H:=[mv' 23 0,to 24 (aCall 235 [.tmp 23]),mv' 2 24]
def Zkd(O:HI H):RL' H:=[mv' 25 0,nl' 26 25,fl' 1 27 26,ld' O 28 27,ln' 29 28,to 30 (aMake O 1 8 #[.int .i64 0] (.tmp 29) (.tmp 29)),mv' 3 30]
def Zke:RL' H:=[mk' 4 0]
def Zkf:RL' H:=[mk' 5 0]
def Zkg(O:HI H):RL' H:=[mv' 31 5,mv' 32 0,nl' 33 32,fl' 1 34 33,ld' O 35 34,ln' 36 35,ia' .lss 37 31 36]
def Zkh(O:HI H):RL' H:=[mv' 40 2,mv' 41 5,ix' 1 42 40 41,ld' O 43 42]
def Zki(O:HI H)(ro:Nat):RL' H:=[mv' 44 0,nl' 45 44,fl' 1 46 45,ld' O 47 46,mv' 48 4,mv' 49 0,nl' 50 49,fl' 1 51 50,ld' O 52 51,mv' 53 5,ix' 4 54 52 53,to 55 (aLdN O 4 (.tmp 54)),ix' 4 56 47 48,too (aSt O ro 4 (.tmp 56) (.tmp 55))]
def Zkj(O:HI H)(ro:Nat):RL' H:=[mv' 57 3,mv' 58 5,mv' 59 4,ix' 1 60 57 58,too (aSt O ro 1 (.tmp 60) (.tmp 59))]
def Zkk:RL' H:=[mv' 61 4,ik' .add 62 61 1,mv' 4 62]
def Zkl:RL' H:=[mv' 38 5,ik' .add 39 38 1,mv' 5 39]
def Zkm(O:HI H)(ro:Nat):RL' H:=[mv' 63 0,mv' 64 0,nl' 65 64,fl' 1 66 65,ld' O 67 66,mv' 68 4,to 69 (aSliceSl 4 (.tmp 67) none (some (.tmp 68))),nl' 70 63,fl' 1 71 70,too (aSt O ro 1 (.tmp 71) (.tmp 69))]
def Zkn:RL' H:=[mk' 6 0]
def Zko(O:HI H):RL' H:=[mv' 72 6,mv' 73 0,nl' 74 73,fl' 7 75 74,ld' O 76 75,ln' 77 76,ia' .lss 78 72 77]
def Zkp(O:HI H):RL' H:=[mv' 81 0,nl' 82 81,fl' 7 83 82,ld' O 84 83,mv' 85 6,ix' 1 86 84 85,ld' O 87 86,to 88 (aShift .shr (.tmp 87) (.const (.int .u64 1))),mv' 7 88]
def Zkq(O:HI H):RL' H:=[mv' 89 0,nl' 90 89,fl' 6 91 90,ld' O 92 91,mv' 93 7,ix' 5 94 92 93,fl' 1 95 94,ld' O 96 95,to 97 (aInt .neq (.tmp 96) (.const (.int .i64 (-1))))]
def Zkr(O:HI H)(ro:Nat):RL' H:=[mv' 98 0,nl' 99 98,fl' 6 100 99,ld' O 101 100,mv' 102 7,mv' 103 3,mv' 104 0,nl' 105 104,fl' 6 106 105,ld' O 107 106,mv' 108 7,ix' 5 109 107 108,fl' 1 110 109,ld' O 111 110,ix' 1 112 103 111,ld' O 113 112,ix' 5 114 101 102,fl' 1 115 114,too (aSt O ro 1 (.tmp 115) (.tmp 113))]
def Zks:RL' H:=[mv' 79 6,ik' .add 80 79 1,mv' 6 80]
def Zkt:RL' H:=[mv' 116 0,to 117 (aCall 236 [.tmp 116])]
def W228_0:RC' H:=λO P ro=>cSeq (cSeq (cReg (Zkg O)) (cIf (.tmp 37) (cSkip) (cExit 0))) (cSeq (cBlk 1 (cSeq (cReg (Zkh O)) (cIf (.tmp 43) (cSeq (cReg (Zki O ro)) (cSeq (cReg (Zkj O ro)) (cReg Zkk))) (cSkip)))) (cReg Zkl))
def W228_1:RC' H:=λO P ro=>cSeq (cSeq (cReg (Zko O)) (cIf (.tmp 78) (cSkip) (cExit 2))) (cSeq (cBlk 3 (cSeq (cReg (Zkp O)) (cSeq (cReg (Zkq O)) (cIf (.tmp 97) (cReg (Zkr O ro)) (cSkip))))) (cReg Zks))
def F228:RC' H:=λO P ro=>cSeq (cSeq (cReg (Zkb O)) (cIf (.tmp 22) (cRet) (cSkip))) (cSeq (cReg Zkc) (cSeq (cReg (Zkd O)) (cSeq (cReg Zke) (cSeq (cSeq (cReg Zkf) (cBlk 0 (cLoop (W228_0 O P ro)))) (cSeq (cReg (Zkm O ro)) (cSeq (cSeq (cReg Zkn) (cBlk 2 (cLoop (W228_1 O P ro)))) (cReg Zkt)))))))
theorem F228_fn:FN' 228 @F228 [] Tryz.f228:=f'n Tryz.func228
def Zku:RL' H:=[to 4 (aMove (.const (.bool false)))]
def Zkv(O:HI H):RL' H:=[mv' 8 0,nl' 9 8,fl' 6 10 9,ld' O 11 10,mv' 12 1,ix' 5 13 11 12,fl' 1 14 13,ld' O 15 14,to 16 (aInt .eql (.tmp 15) (.const (.int .i64 (-1))))]
def Zkw:RL' H:=[to 4 (aMove (.const (.bool false)))]
def Zkx(O:HI H):RL' H:=[mv' 17 0,nl' 18 17,fl' 1 19 18,ld' O 20 19,mv' 21 0,nl' 22 21,fl' 6 23 22,ld' O 24 23,mv' 25 1,ix' 5 26 24 25,fl' 1 27 26,ld' O 28 27,ix' 4 29 20 28,fl' 0 30 29,ld' O 31 30,mv' 5 31]
def Zky:RL' H:=[mk' 6 0]
def Zkz:RL' H:=[mv' 32 6,mv' 33 5,ln' 34 33,ia' .lss 35 32 34]
def ZkA(O:HI H)(ro:Nat):RL' H:=[mv' 38 0,nl' 39 38,fl' 6 40 39,ld' O 41 40,mv' 42 5,mv' 43 6,ix' 1 44 42 43,ld' O 45 44,to 46 (aShift .shr (.tmp 45) (.const (.int .u64 1))),ix' 5 47 41 46,to 48 (aLdN O 5 (.tmp 47)),to 7 (aNew O [.int .i64 0,.int .i64 0,.bool false,.int .i64 0,.bool false]),too (aSt O ro 5 (.tmp 7) (.tmp 48))]
def ZkB(O:HI H):RL' H:=[fl' 2 49 7,ld' O 50 49,to 51 (aUn .not (.tmp 50)),mv' 52 51,onlyIf 52 true 53 (fl' 0 53 7),onlyIf 52 true 54 (ld' O 54 53),onlyIf 52 true 55 (ik' .gtr 55 54 0),to 56 (aPick (.tmp 52) (.tmp 55) (.const (.bool false)))]
def ZkC:RL' H:=[to 4 (aMove (.const (.bool false)))]
def ZkD:RL' H:=[mv' 36 6,ik' .add 37 36 1,mv' 6 37]
def ZkE:RL' H:=[to 4 (aMove (.const (.bool true)))]
def W234_0:RC' H:=λO P ro=>cSeq (cSeq (cReg Zkz) (cIf (.tmp 35) (cSkip) (cExit 0))) (cSeq (cBlk 1 (cSeq (cReg (ZkA O ro)) (cSeq (cReg (ZkB O)) (cIf (.tmp 56) (cSeq (cReg ZkC) (cRet)) (cSkip))))) (cReg ZkD))
def F234:RC' H:=λO P ro=>cSeq (cReg Zku) (cSeq (cSeq (cReg (Zkv O)) (cIf (.tmp 16) (cSeq (cReg Zkw) (cRet)) (cSkip))) (cSeq (cReg (Zkx O)) (cSeq (cSeq (cReg Zky) (cBlk 0 (cLoop (W234_0 O P ro)))) (cSeq (cReg ZkE) (cRet)))))
theorem F234_fn:FN' 234 @F234 [.tmp 4] Tryz.f234:=f'n Tryz.func234
end
end Go.Proofs.YtimdkminagnhgaaGreatDoor
