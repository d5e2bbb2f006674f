import Derived.Test.YtimdkminagnhgaaGreatDoorQ04
import Derived.Test.YtimdkminagnhgaaGreatDoorProg
import Derived.KernelRfl
import Derived.Test.YtimdkminagnhgaaGreatDoorQ05
set_option linter.all false
namespace Go.Proofs.YtimdkminagnhgaaGreatDoor
open Go.Vm Go.Proofs
set_option maxRecDepth 100000
section
variable {H:Type}
def ZkF:RL' H:=[mk' 2 0]
def ZkG:RL' H:=[mv' 3 0,to 4 (aPtrNil false (.tmp 3) (.const (.pointer none)))]
def ZkH:RL' H:=[mk' 2 0]
def ZkI(O:HI H):RL' H:=[mv' 5 0,nl' 6 5,fl' 0 7 6,ld' O 8 7,to 9 (aInt .add (.const (.int .i64 1)) (.tmp 8)),mv' 10 0,nl' 11 10,fl' 1 12 11,ld' O 13 12,ln' 14 13,ia' .add 15 9 14,mv' 16 0,nl' 17 16,fl' 2 18 17,ld' O 19 18,ln' 20 19,ia' .add 21 15 20,mv' 2 21]
def F103:RC' H:=λO P ro=>cSeq (cReg ZkF) (cSeq (cSeq (cReg ZkG) (cIf (.tmp 4) (cSeq (cReg ZkH) (cRet)) (cSkip))) (cSeq (cReg (ZkI O)) (cRet)))
theorem F103_fn:FN' 103 @F103 [.tmp 2] Tryz.f103:=f'n Tryz.func103
def ZkJ:RL' H:=[mk' 4 0]
def ZkK(O:HI H):RL' H:=[mv' 5 0,nl' 6 5,fl' 0 7 6,ld' O 8 7,to 9 (aInt .add (.const (.int .i64 1)) (.tmp 8)),mv' 10 0,nl' 11 10,fl' 1 12 11,ld' O 13 12,ln' 14 13,ia' .add 15 9 14,mv' 16 1,ia' .add 17 15 16,to 18 (aInt .mul (.const (.int .i64 2)) (.tmp 17)),mv' 4 18]
def F106:RC' H:=λO P ro=>cSeq (cReg ZkJ) (cSeq (cReg (ZkK O)) (cRet))
theorem F106_fn:FN' 106 @F106 [.tmp 4] Tryz.f106:=f'n Tryz.func106
def ZkL:RL' H:=[mk' 4 0]
def ZkM(O:HI H):RL' H:=[mv' 5 0,nl' 6 5,fl' 0 7 6,ld' O 8 7,to 9 (aInt .add (.const (.int .i64 1)) (.tmp 8)),mv' 10 1,ia' .add 11 9 10,to 12 (aInt .mul (.const (.int .i64 2)) (.tmp 11)),mv' 4 12]
def F107:RC' H:=λO P ro=>cSeq (cReg ZkL) (cSeq (cReg (ZkM O)) (cRet))
theorem F107_fn:FN' 107 @F107 [.tmp 4] Tryz.f107:=f'n Tryz.func107
def ZkN:RL' H:=[to 4 (aMove (.const (.bool false)))]
def ZkO:RL' H:=[mv' 7 0,to 8 (aPtrNil false (.tmp 7) (.const (.pointer none)))]
def ZkP:RL' H:=[to 4 (aMove (.const (.bool false)))]
def ZkQ:RL' H:=[mk' 5 0]
def ZkR(O:HI H):RL' H:=[mv' 9 5,mv' 10 0,nl' 11 10,fl' 1 12 11,ld' O 13 12,ln' 14 13,ia' .lss 15 9 14]
def ZkS(O:HI H):RL' H:=[mv' 18 0,nl' 19 18,fl' 1 20 19,ld' O 21 20,mv' 22 5,ix' 2 23 21 22,fl' 1 24 23,ld' O 25 24,mv' 6 25]
def ZkT:RL' H:=[mv' 26 6,ik' .neq 27 26 2,mv' 28 27,onlyIf 28 true 29 (mv' 29 6),onlyIf 28 true 30 (mv' 30 1),onlyIf 28 true 31 (mv' 31 5),onlyIf 28 true 32 (to 32 (aShift .shr (.tmp 30) (.tmp 31))),onlyIf 28 true 33 (ik' .and 33 32 1),onlyIf 28 true 34 (ia' .neq 34 29 33),to 35 (aPick (.tmp 28) (.tmp 34) (.const (.bool false)))]
def ZkU:RL' H:=[to 4 (aMove (.const (.bool false)))]
def ZkV:RL' H:=[mv' 16 5,ik' .add 17 16 1,mv' 5 17]
def ZkW:RL' H:=[to 4 (aMove (.const (.bool true)))]
def W139_0:RC' H:=λO P ro=>cSeq (cSeq (cReg (ZkR O)) (cIf (.tmp 15) (cSkip) (cExit 0))) (cSeq (cBlk 1 (cSeq (cReg (ZkS O)) (cSeq (cReg ZkT) (cIf (.tmp 35) (cSeq (cReg ZkU) (cRet)) (cSkip))))) (cReg ZkV))
def F139:RC' H:=λO P ro=>cSeq (cReg ZkN) (cSeq (cSeq (cReg ZkO) (cIf (.tmp 8) (cSeq (cReg ZkP) (cRet)) (cSkip))) (cSeq (cSeq (cReg ZkQ) (cBlk 0 (cLoop (W139_0 O P ro)))) (cSeq (cReg ZkW) (cRet))))
theorem F139_fn:FN' 139 @F139 [.tmp 4] Tryz.f139:=f'n Tryz.func139
def ZkX:RL' H:=[to 2 (aMove (.const (.string { data:=#[] })))]
def ZkY:RL' H:=[mv' 3 0,to 4 (aCall 194 [.tmp 3]),mv' 2 4]
def F166:RC' H:=λO P ro=>cSeq (cReg ZkX) (cSeq (cReg ZkY) (cRet))
theorem F166_fn:FN' 166 @F166 [.tmp 2] Tryz.f166:=f'n Tryz.func166
def ZkZ:RL' H:=[to 2 (aMove (.const (.string { data:=#[] })))]
def Zk0:RL' H:=[mv' 3 0,to 4 (aCall 204 [.tmp 3,.const (.int .i64 10)]),mv' 2 4]
def F194:RC' H:=λO P ro=>cSeq (cReg ZkZ) (cSeq (cReg Zk0) (cRet))
theorem F194_fn:FN' 194 @F194 [.tmp 2] Tryz.f194:=f'n Tryz.func194
end
end Go.Proofs.YtimdkminagnhgaaGreatDoor
namespace Go.Proofs.YtimdkminagnhgaaGreatDoor
open Go.Vm Go.Proofs
set_option maxRecDepth 100000
section
variable {H:Type}
def Zk1:RL' H:=[to 4 (aMove (.const (.pointer none)))]
def Zk2:RL' H:=[mv' 9 1,ik' .lss 10 9 0]
def Zk3(O:HI H):RL' H:=[to 11 (aBuild #[.int .i64 0,.int .i64 0] [(0,1),(1,1)] [(0,.const (.int .i64 13))]),to 12 (aBuild #[.int .i64 0,.int .i64 0,.int .i64 0,.slice none 0 0,.int .i64 0,.slice none 0 0,.int .i64 0,.string ⟨#[]⟩] [(0,1),(1,2),(3,1),(4,1),(5,1),(6,1),(7,1)] [(1,.tmp 11)]),to 13 (aBox O (.tmp 12)),mv' 4 13]
def Zk4(O:HI H)(ro:Nat):RL' H:=[mv' 15 0,to 16 (aCall 25 [.tmp 15]),mv' 14 16,to 17 (aExt (.tmp 14) 0),to 18 (aExt (.tmp 14) 1),to 6 (aNew O [.int .i64 0,.int .i64 0]),mv' 5 17,too (aSt O ro 2 (.tmp 6) (.tmp 18))]
def Zk5(O:HI H):RL' H:=[fl' 0 19 6,ld' O 20 19,ik' .neq 21 20 0]
def Zk6(O:HI H):RL' H:=[to 22 (aLdN O 2 (.tmp 6)),to 23 (aBuild #[.int .i64 0,.int .i64 0,.int .i64 0,.slice none 0 0,.int .i64 0,.slice none 0 0,.int .i64 0,.string ⟨#[]⟩] [(0,1),(1,2),(3,1),(4,1),(5,1),(6,1),(7,1)] [(1,.tmp 22)]),to 24 (aBox O (.tmp 23)),mv' 4 24]
def Zk7:RL' H:=[mv' 25 5,mv' 26 1,to 27 (aCall 26 [.tmp 25,.tmp 26]),mv' 7 27]
def Zk8:RL' H:=[mv' 28 7,to 29 (aCall 27 [.tmp 28]),mv' 8 29]
def Zk9:RL' H:=[mv' 30 7,mv' 31 8,to 32 (aCall 28 [.tmp 30,.tmp 31]),mv' 4 32]
def F16:RC' H:=λO P ro=>cSeq (cReg Zk1) (cSeq (cSeq (cReg Zk2) (cIf (.tmp 10) (cSeq (cReg (Zk3 O)) (cRet)) (cSkip))) (cSeq (cReg (Zk4 O ro)) (cSeq (cSeq (cReg (Zk5 O)) (cIf (.tmp 21) (cSeq (cReg (Zk6 O)) (cRet)) (cSkip))) (cSeq (cReg Zk7) (cSeq (cReg Zk8) (cSeq (cReg Zk9) (cRet)))))))
theorem F16_fn:FN' 16 @F16 [.tmp 4] Tryz.f16:=f'n Tryz.func16
def Zla:RL' H:=[to 4 (aMove (.const (.pointer none)))]
def Zlb(O:HI H):RL' H:=[mv' 7 0,mv' 8 1,to 9 (aBuild #[.pointer none,.int .i64 0,.int .i64 0,.slice none 0 0,.slice none 0 0,.slice none 0 0] [(0,1),(1,1),(2,1),(3,1),(4,1),(5,1)] [(0,.tmp 7),(1,.tmp 8)]),to 10 (aBox O (.tmp 9)),mv' 5 10]
def Zlc(O:HI H)(ro:Nat):RL' H:=[mv' 11 0,to 12 (aCall 54 [.tmp 11]),to 6 (aNew O [.pointer none,.slice none 0 0]),too (aSt O ro 2 (.tmp 6) (.tmp 12))]
def Zld:RL' H:=[mv' 13 0,to 14 (aCall 55 [.tmp 6,.tmp 13])]
def Zle(O:HI H)(ro:Nat):RL' H:=[mv' 15 5,to 16 (aLdN O 2 (.tmp 6)),to 17 (aMkSl O 2 1 #[.pointer none,.slice none 0 0] [(0,.tmp 16)]),nl' 18 15,fl' 3 19 18,too (aSt O ro 1 (.tmp 19) (.tmp 17))]
def Zlf:RL' H:=[mv' 20 5,mv' 4 20]
def F26:RC' H:=λO P ro=>cSeq (cReg Zla) (cSeq (cReg (Zlb O)) (cSeq (cReg (Zlc O ro)) (cSeq (cReg Zld) (cSeq (cReg (Zle O ro)) (cSeq (cReg Zlf) (cRet))))))
theorem F26_fn:FN' 26 @F26 [.tmp 4] Tryz.f26:=f'n Tryz.func26
def Zlg:RL' H:=[mk' 2 0]
def Zlh:RL' H:=[mk' 3 0]
def Zli:RL' H:=[mv' 4 3,ik' .eql 5 4 0]
def Zlj:RL' H:=[mv' 6 0,to 7 (aCall 56 [.tmp 6]),mv' 3 7]
def Zlk:RL' H:=[mv' 8 3,ik' .eql 9 8 0]
def Zll:RL' H:=[mv' 10 0,to 11 (aCall 57 [.tmp 10]),mv' 3 11]
def Zlm:RL' H:=[mv' 12 3,mv' 2 12]
def W27_0:RC' H:=λO P ro=>cSeq (cSeq (cReg Zli) (cIf (.tmp 5) (cSkip) (cExit 0))) (cBlk 1 (cSeq (cReg Zlj) (cSeq (cReg Zlk) (cIf (.tmp 9) (cReg Zll) (cSkip)))))
def F27:RC' H:=λO P ro=>cSeq (cReg Zlg) (cSeq (cReg Zlh) (cSeq (cBlk 0 (cLoop (W27_0 O P ro))) (cSeq (cReg Zlm) (cRet))))
theorem F27_fn:FN' 27 @F27 [.tmp 2] Tryz.f27:=f'n Tryz.func27
def Zln:RL' H:=[to 4 (aMove (.const (.pointer none)))]
def Zlo(O:HI H):RL' H:=[mv' 6 1,mv' 7 0,nl' 8 7,fl' 2 9 8,ld' O 10 9,to 11 (aBuild #[.int .i64 0,.int .i64 0,.int .i64 0,.slice none 0 0,.int .i64 0,.slice none 0 0,.int .i64 0,.string ⟨#[]⟩] [(0,1),(1,2),(3,1),(4,1),(5,1),(6,1),(7,1)] [(0,.tmp 6),(5,.tmp 10)]),to 12 (aBox O (.tmp 11)),mv' 5 12]
def Zlp:RL' H:=[mv' 13 1]
def Zlq:RL' H:=[ik' .eql 15 13 1,mv' 14 15]
def Zlr(O:HI H)(ro:Nat):RL' H:=[mv' 16 5,mv' 17 0,nl' 18 17,fl' 5 19 18,ld' O 20 19,nl' 21 16,fl' 3 22 21,too (aSt O ro 1 (.tmp 22) (.tmp 20))]
def Zls(O:HI H)(ro:Nat):RL' H:=[mv' 23 5,mv' 24 0,to 25 (aCall 58 [.tmp 24]),nl' 26 23,fl' 7 27 26,too (aSt O ro 1 (.tmp 27) (.tmp 25))]
def Zlt:RL' H:=[ik' .eql 29 13 2,mv' 28 29]
def Zlu(O:HI H)(ro:Nat):RL' H:=[mv' 30 5,mv' 31 0,to 32 (aCall 59 [.tmp 31]),nl' 33 30,fl' 4 34 33,too (aSt O ro 1 (.tmp 34) (.tmp 32))]
def Zlv(O:HI H)(ro:Nat):RL' H:=[mv' 35 5,mv' 36 0,to 37 (aCall 60 [.tmp 36]),nl' 38 35,fl' 5 39 38,too (aSt O ro 1 (.tmp 39) (.tmp 37))]
def Zlw(O:HI H)(ro:Nat):RL' H:=[mv' 40 5,mv' 41 0,to 42 (aCall 61 [.tmp 41]),nl' 43 40,fl' 7 44 43,too (aSt O ro 1 (.tmp 44) (.tmp 42))]
def Zlx:RL' H:=[ik' .eql 46 13 3,mv' 45 46]
def Zly(O:HI H)(ro:Nat):RL' H:=[mv' 47 5,nl' 48 47,fl' 7 49 48,too (aSt O ro 1 (.tmp 49) (.const (.string { data:=#[50,10,98,48,10,46,10] })))]
def Zlz:RL' H:=[mv' 50 5,mv' 4 50]
def F28:RC' H:=λO P ro=>cSeq (cReg Zln) (cSeq (cReg (Zlo O)) (cSeq (cSeq (cReg Zlp) (cBlk 0 (cSeq (cReg Zlq) (cIf (.tmp 14) (cSeq (cReg (Zlr O ro)) (cReg (Zls O ro))) (cSeq (cReg Zlt) (cIf (.tmp 28) (cSeq (cReg (Zlu O ro)) (cSeq (cReg (Zlv O ro)) (cReg (Zlw O ro)))) (cSeq (cReg Zlx) (cIf (.tmp 45) (cReg (Zly O ro)) (cSkip))))))))) (cSeq (cReg Zlz) (cRet))))
theorem F28_fn:FN' 28 @F28 [.tmp 4] Tryz.f28:=f'n Tryz.func28
def ZlA(O:HI H):RL' H:=[to 2 (aNew O [.pointer none,.slice none 0 0])]
def ZlB:RL' H:=[to 8 (aCall 81 []),mv' 3 8]
def ZlC:RL' H:=[mk' 4 0]
def ZlD:RL' H:=[mv' 9 4,mv' 10 0,to 11 (aCall 103 [.tmp 10]),ia' .lss 12 9 11]
def ZlE(O:HI H):RL' H:=[mv' 15 3,mv' 16 4,mv' 17 0,nl' 18 17,fl' 0 19 18,ld' O 20 19,mv' 21 0,nl' 22 21,fl' 1 23 22,ld' O 24 23,ln' 25 24,ia' .add 26 20 25,ia' .leq 27 16 26,to 28 (aCall 104 [.tmp 15,.tmp 27])]
def ZlF:RL' H:=[mv' 13 4,ik' .add 14 13 1,mv' 4 14]
def ZlG(O:HI H):RL' H:=[mv' 29 3,to 30 (aMkSl O 1 1 #[.int .i64 0] [(0,.const (.int .i64 1))]),to 31 (aCall 105 [.tmp 29,.tmp 30])]
def ZlH:RL' H:=[mk' 5 0]
def ZlI(O:HI H):RL' H:=[mv' 32 5,mv' 33 0,nl' 34 33,fl' 2 35 34,ld' O 36 35,ln' 37 36,ia' .lss 38 32 37]
def ZlJ:RL' H:=[mv' 41 0,mv' 42 5,to 43 (aCall 106 [.tmp 41,.tmp 42]),mv' 6 43]
def ZlK(O:HI H)(ro:Nat):RL' H:=[mv' 44 0,nl' 45 44,fl' 2 46 45,ld' O 47 46,mv' 48 5,ix' 2 49 47 48,to 50 (aLdN O 2 (.tmp 49)),to 7 (aNew O [.int .i64 0,.int .i64 0]),too (aSt O ro 2 (.tmp 7) (.tmp 50))]
def ZlL(O:HI H):RL' H:=[mv' 51 3,mv' 52 6,ik' .xor 53 52 1,fl' 0 54 7,ld' O 55 54,to 56 (aMkSl O 1 2 #[.int .i64 0] [(0,.tmp 53),(1,.tmp 55)]),to 57 (aCall 105 [.tmp 51,.tmp 56])]
def ZlM(O:HI H):RL' H:=[mv' 58 3,mv' 59 6,ik' .xor 60 59 1,fl' 1 61 7,ld' O 62 61,to 63 (aMkSl O 1 2 #[.int .i64 0] [(0,.tmp 60),(1,.tmp 62)]),to 64 (aCall 105 [.tmp 58,.tmp 63])]
def ZlN(O:HI H):RL' H:=[mv' 65 3,mv' 66 6,fl' 0 67 7,ld' O 68 67,ik' .xor 69 68 1,fl' 1 70 7,ld' O 71 70,ik' .xor 72 71 1,to 73 (aMkSl O 1 3 #[.int .i64 0] [(0,.tmp 66),(1,.tmp 69),(2,.tmp 72)]),to 74 (aCall 105 [.tmp 65,.tmp 73])]
def ZlO:RL' H:=[mv' 39 5,ik' .add 40 39 1,mv' 5 40]
def ZlP(O:HI H)(ro:Nat):RL' H:=[mv' 75 3,to 76 (aBuild #[.pointer none,.slice none 0 0] [(0,1),(1,1)] [(0,.tmp 75)]),too (aSt O ro 2 (.tmp 2) (.tmp 76))]
def W54_0:RC' H:=λO P ro=>cSeq (cSeq (cReg ZlD) (cIf (.tmp 12) (cSkip) (cExit 0))) (cSeq (cBlk 1 (cReg (ZlE O))) (cReg ZlF))
def W54_1:RC' H:=λO P ro=>cSeq (cSeq (cReg (ZlI O)) (cIf (.tmp 38) (cSkip) (cExit 2))) (cSeq (cBlk 3 (cSeq (cReg ZlJ) (cSeq (cReg (ZlK O ro)) (cSeq (cReg (ZlL O)) (cSeq (cReg (ZlM O)) (cReg (ZlN O))))))) (cReg ZlO))
def F54:RC' H:=λO P ro=>cSeq (cReg (ZlA O)) (cSeq (cReg ZlB) (cSeq (cSeq (cReg ZlC) (cBlk 0 (cLoop (W54_0 O P ro)))) (cSeq (cReg (ZlG O)) (cSeq (cSeq (cReg ZlH) (cBlk 2 (cLoop (W54_1 O P ro)))) (cSeq (cReg (ZlP O ro)) (cRet))))))
theorem F54_fn:FN' 54 @F54 [.cell 2 92] Tryz.f54:=f'n Tryz.func54
def ZlQ:RL' H:=[mk' 4 0]
def ZlR(O:HI H):RL' H:=[mv' 6 4,mv' 7 1,nl' 8 7,fl' 1 9 8,ld' O 10 9,ln' 11 10,ia' .lss 12 6 11]
def ZlS:RL' H:=[mv' 15 1,mv' 16 4,to 17 (aCall 107 [.tmp 15,.tmp 16]),mv' 5 17]
def ZlT(O:HI H):RL' H:=[mv' 18 1,nl' 19 18,fl' 1 20 19,ld' O 21 20,mv' 22 4,ix' 2 23 21 22,fl' 1 24 23,ld' O 25 24]
def ZlU:RL' H:=[ik' .eql 27 25 0,mv' 26 27]
def ZlV(O:HI H):RL' H:=[mv' 28 0,nl' 29 28,fl' 0 30 29,ld' O 31 30,mv' 32 5,ik' .xor 33 32 1,to 34 (aMkSl O 1 1 #[.int .i64 0] [(0,.tmp 33)]),to 35 (aCall 105 [.tmp 31,.tmp 34])]
def ZlW:RL' H:=[ik' .eql 37 25 1,mv' 36 37]
def ZlX(O:HI H):RL' H:=[mv' 38 0,nl' 39 38,fl' 0 40 39,ld' O 41 40,mv' 42 5,to 43 (aMkSl O 1 1 #[.int .i64 0] [(0,.tmp 42)]),to 44 (aCall 105 [.tmp 41,.tmp 43])]
def ZlY:RL' H:=[mv' 13 4,ik' .add 14 13 1,mv' 4 14]
def W55_0:RC' H:=λO P ro=>cSeq (cSeq (cReg (ZlR O)) (cIf (.tmp 12) (cSkip) (cExit 0))) (cSeq (cBlk 1 (cSeq (cReg ZlS) (cSeq (cReg (ZlT O)) (cBlk 2 (cSeq (cReg ZlU) (cIf (.tmp 26) (cReg (ZlV O)) (cSeq (cReg ZlW) (cIf (.tmp 36) (cReg (ZlX O)) (cSkip))))))))) (cReg ZlY))
def F55:RC' H:=λO P ro=>cSeq (cReg ZlQ) (cBlk 0 (cLoop (W55_0 O P ro)))
theorem F55_fn:FN' 55 @F55 [] Tryz.f55:=f'n Tryz.func55
def ZlZ:RL' H:=[mk' 2 0]
def Zl0(O:HI H):RL' H:=[mv' 6 0,nl' 7 6,fl' 3 8 7,ld' O 9 8,ln' 10 9,ik' .sub 11 10 1,mv' 3 11]
def Zl1(O:HI H):RL' H:=[mv' 12 0,mv' 13 3,mv' 14 0,nl' 15 14,fl' 0 16 15,ld' O 17 16,nl' 18 17,fl' 3 19 18,ld' O 20 19,to 21 (aMkSl O 1 1 #[.int .i64 0] [(0,.tmp 20)]),to 22 (aCall 108 [.tmp 12,.tmp 13,.tmp 21]),mv' 4 22]
def Zl2:RL' H:=[mv' 23 4]
def Zl3:RL' H:=[ik' .eql 25 23 3,mv' 24 25]
def Zl4:RL' H:=[mk' 2 3]
def Zl5:RL' H:=[ik' .eql 27 23 2,mv' 26 27]
def Zl6:RL' H:=[mk' 2 0]
def Zl7:RL' H:=[mv' 28 0,mv' 29 3,to 30 (aCall 109 [.tmp 28,.tmp 29])]
def Zl8:RL' H:=[mv' 31 0,to 32 (aCall 110 [.tmp 31]),mv' 5 32]
def Zl9:RL' H:=[mv' 33 5,ik' .neq 34 33 0]
def Zma:RL' H:=[mv' 35 5,mv' 2 35]
def W56_0:RC' H:=λO P ro=>cBlk 1 (cSeq (cReg (Zl1 O)) (cSeq (cSeq (cReg Zl2) (cBlk 2 (cSeq (cReg Zl3) (cIf (.tmp 24) (cSeq (cReg Zl4) (cRet)) (cSeq (cReg Zl5) (cIf (.tmp 26) (cSeq (cReg Zl6) (cRet)) (cSkip))))))) (cSeq (cReg Zl7) (cSeq (cReg Zl8) (cSeq (cReg Zl9) (cIf (.tmp 34) (cSeq (cReg Zma) (cRet)) (cSkip)))))))
def F56:RC' H:=λO P ro=>cSeq (cReg ZlZ) (cSeq (cReg (Zl0 O)) (cBlk 0 (cLoop (W56_0 O P ro))))
theorem F56_fn:FN' 56 @F56 [.tmp 2] Tryz.f56:=f'n Tryz.func56
def Zmb:RL' H:=[mk' 2 0]
def Zmc(O:HI H)(ro:Nat):RL' H:=[mv' 6 0,nl' 7 6,fl' 0 8 7,ld' O 9 8,to 10 (aCall 54 [.tmp 9]),to 3 (aNew O [.pointer none,.slice none 0 0]),too (aSt O ro 2 (.tmp 3) (.tmp 10))]
def Zmd(O:HI H)(ro:Nat):RL' H:=[mv' 11 0,mv' 12 0,nl' 13 12,fl' 3 14 13,ld' O 15 14,to 16 (aLdN O 2 (.tmp 3)),to 17 (aMkSl O 2 1 #[.pointer none,.slice none 0 0] [(0,.tmp 16)]),to 18 (aApp O ro 2 32 (.tmp 15) (.tmp 17)),nl' 19 11,fl' 3 20 19,too (aSt O ro 1 (.tmp 20) (.tmp 18))]
def Zme:RL' H:=[mk' 4 1]
def Zmf(O:HI H):RL' H:=[mv' 21 4,mv' 22 0,nl' 23 22,fl' 3 24 23,ld' O 25 24,ln' 26 25,ik' .sub 27 26 1,ia' .lss 28 21 27]
def Zmg:RL' H:=[mv' 31 0,mv' 32 4,to 33 (aCall 111 [.tmp 31,.tmp 32]),mv' 5 33]
def Zmh:RL' H:=[mv' 34 5]
def Zmi:RL' H:=[ik' .eql 36 34 3,mv' 35 36]
def Zmj:RL' H:=[mk' 2 3]
def Zmk:RL' H:=[ik' .eql 38 34 2,mv' 37 38]
def Zml(O:HI H)(ro:Nat):RL' H:=[mv' 39 0,mv' 40 0,mv' 41 4,to 42 (aCall 112 [.tmp 40,.tmp 41]),nl' 43 39,fl' 5 44 43,too (aSt O ro 1 (.tmp 44) (.tmp 42))]
def Zmm:RL' H:=[mk' 2 1]
def Zmn:RL' H:=[mv' 29 4,ik' .add 30 29 1,mv' 4 30]
def Zmo:RL' H:=[mk' 2 0]
def W57_0:RC' H:=λO P ro=>cSeq (cSeq (cReg (Zmf O)) (cIf (.tmp 28) (cSkip) (cExit 0))) (cSeq (cBlk 1 (cSeq (cReg Zmg) (cSeq (cReg Zmh) (cBlk 2 (cSeq (cReg Zmi) (cIf (.tmp 35) (cSeq (cReg Zmj) (cRet)) (cSeq (cReg Zmk) (cIf (.tmp 37) (cSeq (cReg (Zml O ro)) (cSeq (cReg Zmm) (cRet))) (cSkip))))))))) (cReg Zmn))
def F57:RC' H:=λO P ro=>cSeq (cReg Zmb) (cSeq (cReg (Zmc O ro)) (cSeq (cReg (Zmd O ro)) (cSeq (cSeq (cReg Zme) (cBlk 0 (cLoop (W57_0 O P ro)))) (cSeq (cReg Zmo) (cRet)))))
theorem F57_fn:FN' 57 @F57 [.tmp 2] Tryz.f57:=f'n Tryz.func57
def Zmp:RL' H:=[to 2 (aMove (.const (.string { data:=#[] })))]
def Zmq:RL' H:=[to 3 (aMove (.const (.string { data:=#[48,10,98,48,10] })))]
def Zmr:RL' H:=[mk' 4 0]
def Zms(O:HI H):RL' H:=[mv' 5 4,mv' 6 0,nl' 7 6,fl' 5 8 7,ld' O 9 8,ln' 10 9,ia' .lss 11 5 10]
def Zmt(O:HI H):RL' H:=[mv' 14 3,mv' 15 0,nl' 16 15,fl' 5 17 16,ld' O 18 17,mv' 19 4,ix' 1 20 18 19,ld' O 21 20,to 22 (aCall 113 [.tmp 21]),to 23 (aStr .add (.tmp 14) (.tmp 22)),mv' 3 23]
def Zmu:RL' H:=[mv' 12 4,ik' .add 13 12 1,mv' 4 13]
def Zmv:RL' H:=[mv' 24 3,to 25 (aStr .add (.tmp 24) (.const (.string { data:=#[46,10] }))),mv' 2 25]
def W58_0:RC' H:=λO P ro=>cSeq (cSeq (cReg (Zms O)) (cIf (.tmp 11) (cSkip) (cExit 0))) (cSeq (cBlk 1 (cReg (Zmt O))) (cReg Zmu))
def F58:RC' H:=λO P ro=>cSeq (cReg Zmp) (cSeq (cReg Zmq) (cSeq (cSeq (cReg Zmr) (cBlk 0 (cLoop (W58_0 O P ro)))) (cSeq (cReg Zmv) (cRet))))
theorem F58_fn:FN' 58 @F58 [.tmp 2] Tryz.f58:=f'n Tryz.func58
def Zmw:RL' H:=[mk' 2 0]
def Zmx(O:HI H):RL' H:=[mv' 3 0,nl' 4 3,fl' 4 5 4,ld' O 6 5,ln' 7 6,ik' .eql 8 7 0]
def Zmy:RL' H:=[mk' 2 0]
def Zmz(O:HI H):RL' H:=[mv' 9 0,nl' 10 9,fl' 4 11 10,ld' O 12 11,mv' 13 0,nl' 14 13,fl' 4 15 14,ld' O 16 15,ln' 17 16,ik' .sub 18 17 1,ix' 2 19 12 18,fl' 0 20 19,ld' O 21 20,mv' 2 21]
def F59:RC' H:=λO P ro=>cSeq (cReg Zmw) (cSeq (cSeq (cReg (Zmx O)) (cIf (.tmp 8) (cSeq (cReg Zmy) (cRet)) (cSkip))) (cSeq (cReg (Zmz O)) (cRet)))
theorem F59_fn:FN' 59 @F59 [.tmp 2] Tryz.f59:=f'n Tryz.func59
def ZmA:RL' H:=[to 2 (aMove (.const (.slice none 0 0)))]
def ZmB(O:HI H):RL' H:=[to 5 (aMkSl O 1 0 #[.int .i64 0] []),mv' 3 5]
def ZmC(O:HI H):RL' H:=[mv' 6 0,nl' 7 6,fl' 4 8 7,ld' O 9 8,ln' 10 9,ik' .sub 11 10 1,mv' 4 11]
def ZmD:RL' H:=[mv' 12 4,ik' .geq 13 12 0]
def ZmE(O:HI H)(ro:Nat):RL' H:=[mv' 16 3,mv' 17 0,nl' 18 17,fl' 4 19 18,ld' O 20 19,mv' 21 4,ix' 2 22 20 21,fl' 1 23 22,ld' O 24 23,to 25 (aMkSl O 1 1 #[.int .i64 0] [(0,.tmp 24)]),to 26 (aApp O ro 1 8 (.tmp 16) (.tmp 25)),mv' 3 26]
def ZmF:RL' H:=[mv' 14 4,ik' .sub 15 14 1,mv' 4 15]
def ZmG:RL' H:=[mv' 27 3,mv' 2 27]
def W60_0:RC' H:=λO P ro=>cSeq (cSeq (cReg ZmD) (cIf (.tmp 13) (cSkip) (cExit 0))) (cSeq (cBlk 1 (cReg (ZmE O ro))) (cReg ZmF))
def F60:RC' H:=λO P ro=>cSeq (cReg ZmA) (cSeq (cReg (ZmB O)) (cSeq (cSeq (cReg (ZmC O)) (cBlk 0 (cLoop (W60_0 O P ro)))) (cSeq (cReg ZmG) (cRet))))
theorem F60_fn:FN' 60 @F60 [.tmp 2] Tryz.f60:=f'n Tryz.func60
def ZmH:RL' H:=[to 2 (aMove (.const (.string { data:=#[] })))]
def ZmI:RL' H:=[mv' 7 0,to 8 (aCall 59 [.tmp 7]),mv' 3 8]
def ZmJ:RL' H:=[mv' 9 0,to 10 (aCall 60 [.tmp 9]),mv' 4 10]
def ZmK(O:HI H):RL' H:=[mv' 11 3,mv' 12 0,nl' 13 12,fl' 0 14 13,ld' O 15 14,nl' 16 15,fl' 1 17 16,ld' O 18 17,ln' 19 18,to 20 (aCall 114 [.tmp 11,.tmp 19]),to 21 (aStr .add (.const (.string { data:=#[49,10,98,48,10] })) (.tmp 20)),mv' 5 21]
def ZmL:RL' H:=[mk' 6 0]
def ZmM:RL' H:=[mv' 22 6,mv' 23 4,ln' 24 23,ia' .lss 25 22 24]
def ZmN(O:HI H):RL' H:=[mv' 28 5,mv' 29 4,mv' 30 6,ix' 1 31 29 30,ld' O 32 31,mv' 33 0,nl' 34 33,fl' 0 35 34,ld' O 36 35,nl' 37 36,fl' 0 38 37,ld' O 39 38,to 40 (aCall 114 [.tmp 32,.tmp 39]),to 41 (aStr .add (.tmp 28) (.tmp 40)),mv' 5 41]
def ZmO:RL' H:=[mv' 26 6,ik' .add 27 26 1,mv' 6 27]
def ZmP:RL' H:=[mv' 42 5,to 43 (aStr .add (.tmp 42) (.const (.string { data:=#[46,10] }))),mv' 2 43]
def W61_0:RC' H:=λO P ro=>cSeq (cSeq (cReg ZmM) (cIf (.tmp 25) (cSkip) (cExit 0))) (cSeq (cBlk 1 (cReg (ZmN O))) (cReg ZmO))
def F61:RC' H:=λO P ro=>cSeq (cReg ZmH) (cSeq (cReg ZmI) (cSeq (cReg ZmJ) (cSeq (cReg (ZmK O)) (cSeq (cSeq (cReg ZmL) (cBlk 0 (cLoop (W61_0 O P ro)))) (cSeq (cReg ZmP) (cRet))))))
theorem F61_fn:FN' 61 @F61 [.tmp 2] Tryz.f61:=f'n Tryz.func61
def ZmQ:RL' H:=[mk' 6 0]
def ZmR(O:HI H):RL' H:=[mv' 10 0,nl' 11 10,fl' 3 12 11,ld' O 13 12,mv' 14 1,ix' 2 15 13 14,fl' 0 16 15,ld' O 17 16,mv' 7 17]
def ZmS:RL' H:=[mv' 18 7,to 19 (aCall 146 [.tmp 18]),mv' 8 19]
def ZmT(O:HI H):RL' H:=[mv' 20 7,mv' 21 2,mv' 22 0,nl' 23 22,fl' 1 24 23,ld' O 25 24,mv' 26 0,nl' 27 26,fl' 2 28 27,ld' O 29 28,ia' .sub 30 25 29,to 31 (aCall 160 [.tmp 20,.tmp 21,.tmp 30]),mv' 9 31]
def ZmU(O:HI H)(ro:Nat):RL' H:=[mv' 32 0,nl' 33 32,fl' 2 34 33,ld' O 35 34,mv' 36 7,to 37 (aCall 146 [.tmp 36]),mv' 38 8,ia' .sub 39 37 38,ia' .add 40 35 39,nl' 41 32,fl' 2 42 41,too (aSt O ro 1 (.tmp 42) (.tmp 40))]
def ZmV(O:HI H):RL' H:=[mv' 43 0,nl' 44 43,fl' 2 45 44,ld' O 46 45,mv' 47 0,nl' 48 47,fl' 1 49 48,ld' O 50 49,ia' .gtr 51 46 50]
def ZmW:RL' H:=[mk' 6 3]
def ZmX:RL' H:=[mv' 52 9,mv' 6 52]
def F108:RC' H:=λO P ro=>cSeq (cReg ZmQ) (cSeq (cReg (ZmR O)) (cSeq (cReg ZmS) (cSeq (cReg (ZmT O)) (cSeq (cReg (ZmU O ro)) (cSeq (cSeq (cReg (ZmV O)) (cIf (.tmp 51) (cSeq (cReg ZmW) (cRet)) (cSkip))) (cSeq (cReg ZmX) (cRet)))))))
theorem F108_fn:FN' 108 @F108 [.tmp 6] Tryz.f108:=f'n Tryz.func108
def ZmY(O:HI H)(ro:Nat):RL' H:=[mv' 5 0,nl' 6 5,fl' 3 7 6,ld' O 8 7,mv' 9 1,ix' 2 10 8 9,mv' 11 0,nl' 12 11,fl' 0 13 12,ld' O 14 13,to 15 (aCall 161 [.tmp 10,.tmp 14]),to 4 (aNew O [.int .i64 0,.int .i64 0]),too (aSt O ro 2 (.tmp 4) (.tmp 15))]
def ZmZ(O:HI H)(ro:Nat):RL' H:=[mv' 16 0,mv' 17 0,nl' 18 17,fl' 4 19 18,ld' O 20 19,to 21 (aLdN O 2 (.tmp 4)),to 22 (aMkSl O 2 1 #[.int .i64 0,.int .i64 0] [(0,.tmp 21)]),to 23 (aApp O ro 2 16 (.tmp 20) (.tmp 22)),nl' 24 16,fl' 4 25 24,too (aSt O ro 1 (.tmp 25) (.tmp 23))]
def Zm0(O:HI H)(ro:Nat):RL' H:=[mv' 26 0,nl' 27 26,fl' 2 28 27,ld' O 29 28,ik' .add 30 29 1,nl' 31 26,fl' 2 32 31,too (aSt O ro 1 (.tmp 32) (.tmp 30))]
def F109:RC' H:=λO P ro=>cSeq (cReg (ZmY O ro)) (cSeq (cReg (ZmZ O ro)) (cReg (Zm0 O ro)))
theorem F109_fn:FN' 109 @F109 [] Tryz.f109:=f'n Tryz.func109
def Zm1:RL' H:=[mk' 2 0]
def Zm2(O:HI H):RL' H:=[mv' 10 0,nl' 11 10,fl' 4 12 11,ld' O 13 12,ln' 14 13,ik' .gtr 15 14 0]
def Zm3(O:HI H):RL' H:=[mv' 16 0,nl' 17 16,fl' 2 18 17,ld' O 19 18,mv' 20 0,nl' 21 20,fl' 1 22 21,ld' O 23 22,ia' .gtr 24 19 23]
def Zm4:RL' H:=[mk' 2 3]
def Zm5(O:HI H):RL' H:=[mv' 25 0,nl' 26 25,fl' 3 27 26,ld' O 28 27,ln' 29 28,mv' 30 0,nl' 31 30,fl' 4 32 31,ld' O 33 32,ln' 34 33,ia' .sub 35 29 34,mv' 3 35]
def Zm6(O:HI H):RL' H:=[mv' 36 0,nl' 37 36,fl' 4 38 37,ld' O 39 38,mv' 40 0,nl' 41 40,fl' 4 42 41,ld' O 43 42,ln' 44 43,ik' .sub 45 44 1,ix' 2 46 39 45,fl' 0 47 46,ld' O 48 47,mv' 4 48]
def Zm7(O:HI H):RL' H:=[mv' 49 3,ik' .leq 50 49 0,mv' 51 50,onlyIf 51 false 52 (mv' 52 0),onlyIf 51 false 53 (nl' 53 52),onlyIf 51 false 54 (fl' 0 54 53),onlyIf 51 false 55 (ld' O 55 54),onlyIf 51 false 56 (mv' 56 4),onlyIf 51 false 57 (to 57 (aCall 139 [.tmp 55,.tmp 56])),to 58 (aPick (.tmp 51) (.const (.bool true)) (.tmp 57))]
def Zm8:RL' H:=[mk' 2 2]
def Zm9(O:HI H):RL' H:=[mv' 59 0,nl' 60 59,fl' 0 61 60,ld' O 62 61,mv' 63 4,to 64 (aCall 162 [.tmp 62,.tmp 63]),mv' 5 64]
def Zna(O:HI H):RL' H:=[mv' 65 0,nl' 66 65,fl' 0 67 66,ld' O 68 67,mv' 69 5,to 70 (aCall 163 [.tmp 68,.tmp 69]),mv' 6 70]
def Znb:RL' H:=[mv' 71 0,mv' 72 3,ik' .sub 73 72 1,mv' 74 6,to 75 (aCall 108 [.tmp 71,.tmp 73,.tmp 74]),mv' 7 75]
def Znc:RL' H:=[mv' 76 7]
def Znd:RL' H:=[ik' .eql 78 76 3,mv' 77 78]
def Zne:RL' H:=[mk' 2 3]
def Znf:RL' H:=[ik' .eql 80 76 1,mv' 79 80]
def Zng:RL' H:=[mv' 81 0,mv' 82 3,ik' .sub 83 82 1,to 84 (aCall 109 [.tmp 81,.tmp 83])]
def Znh:RL' H:=[ik' .eql 86 76 2,mv' 85 86]
def Zni(O:HI H):RL' H:=[mv' 87 0,nl' 88 87,fl' 3 89 88,ld' O 90 89,mv' 91 3,ik' .sub 92 91 1,ix' 2 93 90 92,fl' 0 94 93,ld' O 95 94,to 96 (aCall 145 [.tmp 95]),mv' 8 96]
def Znj(O:HI H):RL' H:=[mv' 97 0,nl' 98 97,fl' 0 99 98,ld' O 100 99,mv' 101 5,mv' 102 8,to 103 (aCall 164 [.tmp 100,.tmp 101,.tmp 102]),mv' 9 103]
def Znk:RL' H:=[mv' 104 0,mv' 105 3,mv' 106 9,to 107 (aCall 165 [.tmp 104,.tmp 105,.tmp 106])]
def Znl(O:HI H)(ro:Nat):RL' H:=[mv' 108 0,mv' 109 0,nl' 110 109,fl' 4 111 110,ld' O 112 111,mv' 113 0,nl' 114 113,fl' 4 115 114,ld' O 116 115,ln' 117 116,ik' .sub 118 117 1,to 119 (aSliceSl 2 (.tmp 112) none (some (.tmp 118))),nl' 120 108,fl' 4 121 120,too (aSt O ro 1 (.tmp 121) (.tmp 119))]
def Znm:RL' H:=[mk' 2 0]
def W110_0:RC' H:=λO P ro=>cSeq (cSeq (cReg (Zm2 O)) (cIf (.tmp 15) (cSkip) (cExit 0))) (cBlk 1 (cSeq (cSeq (cReg (Zm3 O)) (cIf (.tmp 24) (cSeq (cReg Zm4) (cRet)) (cSkip))) (cSeq (cReg (Zm5 O)) (cSeq (cReg (Zm6 O)) (cSeq (cSeq (cReg (Zm7 O)) (cIf (.tmp 58) (cSeq (cReg Zm8) (cRet)) (cSkip))) (cSeq (cReg (Zm9 O)) (cSeq (cReg (Zna O)) (cSeq (cReg Znb) (cSeq (cReg Znc) (cBlk 2 (cSeq (cReg Znd) (cIf (.tmp 77) (cSeq (cReg Zne) (cRet)) (cSeq (cReg Znf) (cIf (.tmp 79) (cReg Zng) (cSeq (cReg Znh) (cIf (.tmp 85) (cSeq (cReg (Zni O)) (cSeq (cReg (Znj O)) (cSeq (cReg Znk) (cReg (Znl O ro))))) (cSkip)))))))))))))))))
def F110:RC' H:=λO P ro=>cSeq (cReg Zm1) (cSeq (cBlk 0 (cLoop (W110_0 O P ro))) (cSeq (cReg Znm) (cRet)))
theorem F110_fn:FN' 110 @F110 [.tmp 2] Tryz.f110:=f'n Tryz.func110
def Znn:RL' H:=[mk' 4 0]
def Zno(O:HI H):RL' H:=[mv' 8 0,nl' 9 8,fl' 3 10 9,ld' O 11 10,mv' 12 1,ix' 2 13 11 12,fl' 1 14 13,ld' O 15 14,ln' 16 15,ik' .gtr 17 16 0]
def Znp(O:HI H):RL' H:=[mv' 18 0,nl' 19 18,fl' 3 20 19,ld' O 21 20,mv' 22 1,ix' 2 23 21 22,fl' 1 24 23,ld' O 25 24,to 26 (aIdx 1 (.tmp 25) (.const (.int .i64 0))),ld' O 27 26,mv' 5 27]
def Znq(O:HI H):RL' H:=[mv' 28 0,nl' 29 28,fl' 0 30 29,ld' O 31 30,mv' 32 5,to 33 (aCall 163 [.tmp 31,.tmp 32]),mv' 6 33]
def Znr:RL' H:=[mv' 34 0,mv' 35 1,mv' 36 6,to 37 (aCall 108 [.tmp 34,.tmp 35,.tmp 36]),mv' 7 37]
def Zns:RL' H:=[mv' 38 7,ik' .neq 39 38 2]
def Znt:RL' H:=[mv' 40 7,mv' 4 40]
def Znu:RL' H:=[mv' 41 0,mv' 42 1,ik' .add 43 42 1,mv' 44 5,to 45 (aCall 165 [.tmp 41,.tmp 43,.tmp 44])]
def Znv:RL' H:=[mk' 4 2]
def W111_0:RC' H:=λO P ro=>cSeq (cSeq (cReg (Zno O)) (cIf (.tmp 17) (cSkip) (cExit 0))) (cBlk 1 (cSeq (cReg (Znp O)) (cSeq (cReg (Znq O)) (cSeq (cReg Znr) (cSeq (cSeq (cReg Zns) (cIf (.tmp 39) (cSeq (cReg Znt) (cRet)) (cSkip))) (cReg Znu))))))
def F111:RC' H:=λO P ro=>cSeq (cReg Znn) (cSeq (cBlk 0 (cLoop (W111_0 O P ro))) (cSeq (cReg Znv) (cRet)))
theorem F111_fn:FN' 111 @F111 [.tmp 4] Tryz.f111:=f'n Tryz.func111
def Znw:RL' H:=[to 4 (aMove (.const (.slice none 0 0)))]
def Znx(O:HI H):RL' H:=[to 7 (aMkSl O 1 0 #[.slice none 0 0] []),mv' 5 7]
def Zny:RL' H:=[mv' 8 1,ik' .add 9 8 1,mv' 6 9]
def Znz(O:HI H):RL' H:=[mv' 10 6,mv' 11 0,nl' 12 11,fl' 3 13 12,ld' O 14 13,ln' 15 14,ia' .lss 16 10 15]
def ZnA(O:HI H)(ro:Nat):RL' H:=[mv' 19 5,mv' 20 0,nl' 21 20,fl' 3 22 21,ld' O 23 22,mv' 24 6,ix' 2 25 23 24,fl' 1 26 25,ld' O 27 26,to 28 (aApp O ro 1 24 (.tmp 19) (.tmp 27)),mv' 5 28]
def ZnB:RL' H:=[mv' 17 6,ik' .add 18 17 1,mv' 6 18]
def ZnC:RL' H:=[mv' 29 5,mv' 4 29]
def W112_0:RC' H:=λO P ro=>cSeq (cSeq (cReg (Znz O)) (cIf (.tmp 16) (cSkip) (cExit 0))) (cSeq (cBlk 1 (cReg (ZnA O ro))) (cReg ZnB))
def F112:RC' H:=λO P ro=>cSeq (cReg Znw) (cSeq (cReg (Znx O)) (cSeq (cSeq (cReg Zny) (cBlk 0 (cLoop (W112_0 O P ro)))) (cSeq (cReg ZnC) (cRet))))
theorem F112_fn:FN' 112 @F112 [.tmp 4] Tryz.f112:=f'n Tryz.func112
def ZnD:RL' H:=[to 2 (aMove (.const (.string { data:=#[] })))]
def ZnE:RL' H:=[to 3 (aMove (.const (.string { data:=#[] })))]
def ZnF:RL' H:=[mk' 4 0]
def ZnG:RL' H:=[mv' 5 4,mv' 6 0,ln' 7 6,ia' .lss 8 5 7]
def ZnH:RL' H:=[mv' 11 4,ik' .gtr 12 11 0]
def ZnI:RL' H:=[mv' 13 3,to 14 (aStr .add (.tmp 13) (.const (.string { data:=#[32] }))),mv' 3 14]
def ZnJ(O:HI H):RL' H:=[mv' 15 0,mv' 16 4,ix' 1 17 15 16,ld' O 18 17,ik' .and 19 18 1,ik' .eql 20 19 1]
def ZnK:RL' H:=[mv' 21 3,to 22 (aStr .add (.tmp 21) (.const (.string { data:=#[45] }))),mv' 3 22]
def ZnL(O:HI H):RL' H:=[mv' 23 3,mv' 24 0,mv' 25 4,ix' 1 26 24 25,ld' O 27 26,to 28 (aShift .shr (.tmp 27) (.const (.int .u64 1))),to 29 (aCall 166 [.tmp 28]),to 30 (aStr .add (.const (.string { data:=#[108] })) (.tmp 29)),to 31 (aStr .add (.tmp 23) (.tmp 30)),mv' 3 31]
def ZnM:RL' H:=[mv' 9 4,ik' .add 10 9 1,mv' 4 10]
def ZnN:RL' H:=[mv' 32 3,to 33 (aStr .add (.tmp 32) (.const (.string { data:=#[10] }))),mv' 2 33]
def W113_0:RC' H:=λO P ro=>cSeq (cSeq (cReg ZnG) (cIf (.tmp 8) (cSkip) (cExit 0))) (cSeq (cBlk 1 (cSeq (cSeq (cReg ZnH) (cIf (.tmp 12) (cReg ZnI) (cSkip))) (cSeq (cSeq (cReg (ZnJ O)) (cIf (.tmp 20) (cReg ZnK) (cSkip))) (cReg (ZnL O))))) (cReg ZnM))
def F113:RC' H:=λO P ro=>cSeq (cReg ZnD) (cSeq (cReg ZnE) (cSeq (cSeq (cReg ZnF) (cBlk 0 (cLoop (W113_0 O P ro)))) (cSeq (cReg ZnN) (cRet))))
theorem F113_fn:FN' 113 @F113 [.tmp 2] Tryz.f113:=f'n Tryz.func113
def ZnO:RL' H:=[to 4 (aMove (.const (.string { data:=#[] })))]
def ZnP:RL' H:=[to 5 (aMove (.const (.string { data:=#[] })))]
def ZnQ:RL' H:=[mk' 6 0]
def ZnR:RL' H:=[mv' 7 6,mv' 8 1,ia' .lss 9 7 8]
def ZnS:RL' H:=[mv' 12 5,mv' 13 0,mv' 14 6,to 15 (aShift .shr (.tmp 13) (.tmp 14)),ik' .and 16 15 1,to 17 (aCall 166 [.tmp 16]),to 18 (aStr .add (.tmp 12) (.tmp 17)),mv' 5 18]
def ZnT:RL' H:=[mv' 10 6,ik' .add 11 10 1,mv' 6 11]
def ZnU:RL' H:=[mv' 19 5,to 20 (aStr .add (.tmp 19) (.const (.string { data:=#[10] }))),mv' 4 20]
def W114_0:RC' H:=λO P ro=>cSeq (cSeq (cReg ZnR) (cIf (.tmp 9) (cSkip) (cExit 0))) (cSeq (cBlk 1 (cReg ZnS)) (cReg ZnT))
def F114:RC' H:=λO P ro=>cSeq (cReg ZnO) (cSeq (cReg ZnP) (cSeq (cSeq (cReg ZnQ) (cBlk 0 (cLoop (W114_0 O P ro)))) (cSeq (cReg ZnU) (cRet))))
theorem F114_fn:FN' 114 @F114 [.tmp 4] Tryz.f114:=f'n Tryz.func114
def ZnV(O:HI H):RL' H:=[to 4 (aNew O [.int .i64 0,.int .i64 0])]
def ZnW(O:HI H):RL' H:=[mv' 7 0,mv' 8 1,nl' 9 8,fl' 0 10 9,ld' O 11 10,to 12 (aCall 189 [.tmp 7,.const (.int .i64 1),.tmp 11]),mv' 5 12]
def ZnX(O:HI H):RL' H:=[mv' 13 0,mv' 14 1,nl' 15 14,fl' 0 16 15,ld' O 17 16,to 18 (aInt .add (.const (.int .i64 1)) (.tmp 17)),mv' 19 1,nl' 20 19,fl' 1 21 20,ld' O 22 21,ln' 23 22,to 24 (aCall 189 [.tmp 13,.tmp 18,.tmp 23]),mv' 6 24]
def ZnY(O:HI H)(ro:Nat):RL' H:=[mv' 25 6,mv' 26 5,to 27 (aBuild #[.int .i64 0,.int .i64 0] [(0,1),(1,1)] [(0,.tmp 25),(1,.tmp 26)]),too (aSt O ro 2 (.tmp 4) (.tmp 27))]
def F161:RC' H:=λO P ro=>cSeq (cReg (ZnV O)) (cSeq (cReg (ZnW O)) (cSeq (cReg (ZnX O)) (cSeq (cReg (ZnY O ro)) (cRet))))
theorem F161_fn:FN' 161 @F161 [.cell 4 159] Tryz.f161:=f'n Tryz.func161
def ZnZ:RL' H:=[to 4 (aMove (.const (.slice none 0 0)))]
def Zn0(O:HI H):RL' H:=[to 7 (aMkSl O 1 0 #[.int .i64 0] []),mv' 5 7]
def Zn1:RL' H:=[mk' 6 0]
def Zn2(O:HI H):RL' H:=[mv' 8 6,mv' 9 0,nl' 10 9,fl' 1 11 10,ld' O 12 11,ln' 13 12,ia' .lss 14 8 13]
def Zn3(O:HI H)(ro:Nat):RL' H:=[mv' 17 5,mv' 18 6,to 19 (aInt .mul (.const (.int .i64 2)) (.tmp 18)),mv' 20 1,mv' 21 6,to 22 (aShift .shr (.tmp 20) (.tmp 21)),ik' .and 23 22 1,ia' .add 24 19 23,to 25 (aMkSl O 1 1 #[.int .i64 0] [(0,.tmp 24)]),to 26 (aApp O ro 1 8 (.tmp 17) (.tmp 25)),mv' 5 26]
def Zn4:RL' H:=[mv' 15 6,ik' .add 16 15 1,mv' 6 16]
def Zn5:RL' H:=[mv' 27 5,mv' 4 27]
def W162_0:RC' H:=λO P ro=>cSeq (cSeq (cReg (Zn2 O)) (cIf (.tmp 14) (cSkip) (cExit 0))) (cSeq (cBlk 1 (cReg (Zn3 O ro))) (cReg Zn4))
def F162:RC' H:=λO P ro=>cSeq (cReg ZnZ) (cSeq (cReg (Zn0 O)) (cSeq (cSeq (cReg Zn1) (cBlk 0 (cLoop (W162_0 O P ro)))) (cSeq (cReg Zn5) (cRet))))
theorem F162_fn:FN' 162 @F162 [.tmp 4] Tryz.f162:=f'n Tryz.func162
def Zn6:RL' H:=[to 4 (aMove (.const (.slice none 0 0)))]
def Zn7(O:HI H):RL' H:=[to 8 (aMkSl O 1 0 #[.int .i64 0] []),mv' 5 8]
def Zn8:RL' H:=[mk' 6 0]
def Zn9:RL' H:=[mv' 9 6,mv' 10 1,ln' 11 10,ia' .lss 12 9 11]
def Zoa(O:HI H):RL' H:=[mv' 15 0,nl' 16 15,fl' 1 17 16,ld' O 18 17,mv' 19 1,mv' 20 6,ix' 1 21 19 20,ld' O 22 21,to 23 (aShift .shr (.tmp 22) (.const (.int .u64 1))),ix' 2 24 18 23,fl' 0 25 24,ld' O 26 25,mv' 7 26]
def Zob(O:HI H)(ro:Nat):RL' H:=[mv' 27 5,mv' 28 7,ik' .xor 29 28 1,mv' 30 1,mv' 31 6,ix' 1 32 30 31,ld' O 33 32,ik' .and 34 33 1,ia' .xor 35 29 34,to 36 (aMkSl O 1 1 #[.int .i64 0] [(0,.tmp 35)]),to 37 (aApp O ro 1 8 (.tmp 27) (.tmp 36)),mv' 5 37]
def Zoc:RL' H:=[mv' 13 6,ik' .add 14 13 1,mv' 6 14]
def Zod:RL' H:=[mv' 38 5,mv' 4 38]
def W163_0:RC' H:=λO P ro=>cSeq (cSeq (cReg Zn9) (cIf (.tmp 12) (cSkip) (cExit 0))) (cSeq (cBlk 1 (cSeq (cReg (Zoa O)) (cReg (Zob O ro)))) (cReg Zoc))
def F163:RC' H:=λO P ro=>cSeq (cReg Zn6) (cSeq (cReg (Zn7 O)) (cSeq (cSeq (cReg Zn8) (cBlk 0 (cLoop (W163_0 O P ro)))) (cSeq (cReg Zod) (cRet))))
theorem F163_fn:FN' 163 @F163 [.tmp 4] Tryz.f163:=f'n Tryz.func163
def Zoe:RL' H:=[to 6 (aMove (.const (.slice none 0 0)))]
def Zof:RL' H:=[mv' 13 0,mv' 14 1,to 15 (aCall 163 [.tmp 13,.tmp 14]),mv' 7 15]
def Zog:RL' H:=[mv' 16 7,mv' 17 2,to 18 (aCall 190 [.tmp 16,.tmp 17]),mv' 8 18]
def Zoh:RL' H:=[to 9 (aMove (.const (.bool true)))]
def Zoi:RL' H:=[mk' 10 0]
def Zoj:RL' H:=[mv' 19 10,mv' 20 1,ln' 21 20,ia' .lss 22 19 21]
def Zok(O:HI H):RL' H:=[mv' 25 8,mv' 26 10,ix' 1 27 25 26,ld' O 28 27,mv' 29 28,onlyIf 29 true 30 (mv' 30 0),onlyIf 29 true 31 (mv' 31 1),onlyIf 29 true 32 (mv' 32 10),onlyIf 29 true 33 (ix' 1 33 31 32),onlyIf 29 true 34 (ld' O 34 33),onlyIf 29 true 35 (to 35 (aCall 191 [.tmp 30,.tmp 34])),to 36 (aPick (.tmp 29) (.tmp 35) (.const (.bool false)))]
def Zol:RL' H:=[to 9 (aMove (.const (.bool false)))]
def Zom:RL' H:=[mv' 23 10,ik' .add 24 23 1,mv' 10 24]
def Zon(O:HI H):RL' H:=[to 37 (aMkSl O 1 0 #[.int .i64 0] []),mv' 11 37]
def Zoo:RL' H:=[mk' 12 0]
def Zop:RL' H:=[mv' 38 12,mv' 39 1,ln' 40 39,ia' .lss 41 38 40]
def Zoq(O:HI H):RL' H:=[mv' 44 8,mv' 45 12,ix' 1 46 44 45,ld' O 47 46,to 48 (aUn .not (.tmp 47)),mv' 49 48,onlyIf 49 true 50 (mv' 50 9),to 51 (aPick (.tmp 49) (.tmp 50) (.const (.bool false))),mv' 52 51,onlyIf 52 true 53 (mv' 53 0),onlyIf 52 true 54 (mv' 54 1),onlyIf 52 true 55 (mv' 55 12),onlyIf 52 true 56 (ix' 1 56 54 55),onlyIf 52 true 57 (ld' O 57 56),onlyIf 52 true 58 (to 58 (aCall 191 [.tmp 53,.tmp 57])),to 59 (aPick (.tmp 52) (.tmp 58) (.const (.bool false)))]
def Zor(O:HI H)(ro:Nat):RL' H:=[mv' 60 8,mv' 61 12,ix' 1 62 60 61,too (aSt O ro 1 (.tmp 62) (.const (.bool true)))]
def Zos:RL' H:=[to 9 (aMove (.const (.bool false)))]
def Zot(O:HI H):RL' H:=[mv' 63 8,mv' 64 12,ix' 1 65 63 64,ld' O 66 65]
def Zou(O:HI H)(ro:Nat):RL' H:=[mv' 67 11,mv' 68 1,mv' 69 12,ix' 1 70 68 69,ld' O 71 70,to 72 (aMkSl O 1 1 #[.int .i64 0] [(0,.tmp 71)]),to 73 (aApp O ro 1 8 (.tmp 67) (.tmp 72)),mv' 11 73]
def Zov:RL' H:=[mv' 42 12,ik' .add 43 42 1,mv' 12 43]
def Zow:RL' H:=[mv' 74 11,mv' 6 74]
def W164_0:RC' H:=λO P ro=>cSeq (cSeq (cReg Zoj) (cIf (.tmp 22) (cSkip) (cExit 0))) (cSeq (cBlk 1 (cSeq (cReg (Zok O)) (cIf (.tmp 36) (cReg Zol) (cSkip)))) (cReg Zom))
def W164_1:RC' H:=λO P ro=>cSeq (cSeq (cReg Zop) (cIf (.tmp 41) (cSkip) (cExit 2))) (cSeq (cBlk 3 (cSeq (cSeq (cReg (Zoq O)) (cIf (.tmp 59) (cSeq (cReg (Zor O ro)) (cReg Zos)) (cSkip))) (cSeq (cReg (Zot O)) (cIf (.tmp 66) (cReg (Zou O ro)) (cSkip))))) (cReg Zov))
def F164:RC' H:=λO P ro=>cSeq (cReg Zoe) (cSeq (cReg Zof) (cSeq (cReg Zog) (cSeq (cReg Zoh) (cSeq (cSeq (cReg Zoi) (cBlk 0 (cLoop (W164_0 O P ro)))) (cSeq (cReg (Zon O)) (cSeq (cSeq (cReg Zoo) (cBlk 2 (cLoop (W164_1 O P ro)))) (cSeq (cReg Zow) (cRet))))))))
theorem F164_fn:FN' 164 @F164 [.tmp 6] Tryz.f164:=f'n Tryz.func164
def Zox:RL' H:=[mv' 8 1,mv' 6 8]
def Zoy:RL' H:=[mv' 9 6,ik' .gtr 10 9 0]
def Zoz(O:HI H):RL' H:=[mv' 13 0,nl' 14 13,fl' 3 15 14,ld' O 16 15,mv' 17 6,ix' 2 18 16 17,mv' 19 2,to 20 (aCall 192 [.tmp 18,.tmp 19]),mv' 7 20]
def ZoA:RL' H:=[mv' 21 7]
def ZoB(O:HI H):RL' H:=[mv' 22 0,nl' 23 22,fl' 3 24 23,ld' O 25 24,mv' 26 6,ix' 2 27 25 26,mv' 28 0,nl' 29 28,fl' 0 30 29,ld' O 31 30,mv' 32 2,to 33 (aCall 193 [.tmp 27,.tmp 31,.tmp 32])]
def ZoC:RL' H:=[mv' 11 6,ik' .sub 12 11 1,mv' 6 12]
def ZoD(O:HI H)(ro:Nat):RL' H:=[mv' 34 0,nl' 35 34,fl' 3 36 35,ld' O 37 36,mv' 38 1,mv' 39 0,nl' 40 39,fl' 3 41 40,ld' O 42 41,mv' 43 1,ix' 2 44 42 43,fl' 1 45 44,ld' O 46 45,mv' 47 2,to 48 (aMkSl O 1 1 #[.slice none 0 0] [(0,.tmp 47)]),to 49 (aApp O ro 1 24 (.tmp 46) (.tmp 48)),ix' 2 50 37 38,fl' 1 51 50,too (aSt O ro 1 (.tmp 51) (.tmp 49)),chk (.tmp 36) (.tmp 46)]
def W165_0:RC' H:=λO P ro=>cSeq (cSeq (cReg Zoy) (cIf (.tmp 10) (cSkip) (cExit 0))) (cSeq (cBlk 1 (cSeq (cReg (Zoz O)) (cSeq (cSeq (cReg ZoA) (cIf (.tmp 21) (cExit 0) (cSkip))) (cReg (ZoB O))))) (cReg ZoC))
def F165:RC' H:=λO P ro=>cSeq (cSeq (cReg Zox) (cBlk 0 (cLoop (W165_0 O P ro)))) (cReg (ZoD O ro))
theorem F165_fn:FN' 165 @F165 [] Tryz.f165:=f'n Tryz.func165
def ZoE:RL' H:=[mk' 6 0]
def ZoF:RL' H:=[mk' 7 0]
def ZoG:RL' H:=[mk' 8 0]
def ZoH:RL' H:=[mv' 11 8,mv' 12 2,ia' .lss 13 11 12]
def ZoI(O:HI H):RL' H:=[mv' 17 0,nl' 18 17,fl' 0 19 18,ld' O 20 19,mv' 21 1,mv' 22 8,ia' .add 23 21 22,to 24 (aCall 183 [.tmp 20,.tmp 23]),mv' 16 24,to 25 (aExt (.tmp 16) 0),to 26 (aExt (.tmp 16) 1),mv' 9 25,mv' 10 26]
def ZoJ:RL' H:=[mv' 27 9]
def ZoK:RL' H:=[mv' 28 7,mv' 29 8,to 30 (aShift .shl (.const (.int .i64 1)) (.tmp 29)),ia' .or 31 28 30,mv' 7 31]
def ZoL:RL' H:=[mv' 14 8,ik' .add 15 14 1,mv' 8 15]
def ZoM:RL' H:=[mv' 32 7,mv' 6 32]
def W189_0:RC' H:=λO P ro=>cSeq (cSeq (cReg ZoH) (cIf (.tmp 13) (cSkip) (cExit 0))) (cSeq (cBlk 1 (cSeq (cReg (ZoI O)) (cSeq (cReg ZoJ) (cIf (.tmp 27) (cReg ZoK) (cSkip))))) (cReg ZoL))
def F189:RC' H:=λO P ro=>cSeq (cReg ZoE) (cSeq (cReg ZoF) (cSeq (cSeq (cReg ZoG) (cBlk 0 (cLoop (W189_0 O P ro)))) (cSeq (cReg ZoM) (cRet))))
theorem F189_fn:FN' 189 @F189 [.tmp 6] Tryz.f189:=f'n Tryz.func189
def ZoN:RL' H:=[to 4 (aMove (.const (.slice none 0 0)))]
def ZoO(O:HI H):RL' H:=[mv' 8 0,ln' 9 8,to 10 (aMake O 1 1 #[.bool false] (.tmp 9) (.tmp 9)),mv' 5 10]
def ZoP:RL' H:=[mk' 6 0]
def ZoQ:RL' H:=[mv' 11 6,mv' 12 1,ln' 13 12,ia' .lss 14 11 13]
def ZoR:RL' H:=[mk' 7 0]
def ZoS:RL' H:=[mv' 17 7,mv' 18 0,ln' 19 18,ia' .lss 20 17 19]
def ZoT(O:HI H):RL' H:=[mv' 23 0,mv' 24 7,ix' 1 25 23 24,ld' O 26 25,mv' 27 1,mv' 28 6,ix' 1 29 27 28,ld' O 30 29,ia' .eql 31 26 30]
def ZoU(O:HI H)(ro:Nat):RL' H:=[mv' 32 5,mv' 33 7,ix' 1 34 32 33,too (aSt O ro 1 (.tmp 34) (.const (.bool true)))]
def ZoV:RL' H:=[mv' 21 7,ik' .add 22 21 1,mv' 7 22]
def ZoW:RL' H:=[mv' 15 6,ik' .add 16 15 1,mv' 6 16]
def ZoX:RL' H:=[mv' 35 5,mv' 4 35]
def W190_0:RC' H:=λO P ro=>cSeq (cSeq (cReg ZoS) (cIf (.tmp 20) (cSkip) (cExit 2))) (cSeq (cBlk 3 (cSeq (cReg (ZoT O)) (cIf (.tmp 31) (cSeq (cReg (ZoU O ro)) (cExit 2)) (cSkip)))) (cReg ZoV))
def W190_1:RC' H:=λO P ro=>cSeq (cSeq (cReg ZoQ) (cIf (.tmp 14) (cSkip) (cExit 0))) (cSeq (cBlk 1 (cSeq (cReg ZoR) (cBlk 2 (cLoop (W190_0 O P ro))))) (cReg ZoW))
def F190:RC' H:=λO P ro=>cSeq (cReg ZoN) (cSeq (cReg (ZoO O)) (cSeq (cSeq (cReg ZoP) (cBlk 0 (cLoop (W190_1 O P ro)))) (cSeq (cReg ZoX) (cRet))))
theorem F190_fn:FN' 190 @F190 [.tmp 4] Tryz.f190:=f'n Tryz.func190
def ZoY:RL' H:=[to 4 (aMove (.const (.bool false)))]
def ZoZ(O:HI H):RL' H:=[mv' 6 0,nl' 7 6,fl' 1 8 7,ld' O 9 8,mv' 10 1,to 11 (aShift .shr (.tmp 10) (.const (.int .u64 1))),ix' 2 12 9 11,fl' 1 13 12,ld' O 14 13,mv' 5 14]
def Zo0:RL' H:=[mv' 15 5,ik' .neq 16 15 2,mv' 17 16,onlyIf 17 true 18 (mv' 18 5),onlyIf 17 true 19 (mv' 19 1),onlyIf 17 true 20 (ik' .and 20 19 1),onlyIf 17 true 21 (ia' .neq 21 18 20),to 22 (aPick (.tmp 17) (.tmp 21) (.const (.bool false))),mv' 4 22]
def F191:RC' H:=λO P ro=>cSeq (cReg ZoY) (cSeq (cReg (ZoZ O)) (cSeq (cReg Zo0) (cRet)))
theorem F191_fn:FN' 191 @F191 [.tmp 4] Tryz.f191:=f'n Tryz.func191
def Zo1:RL' H:=[to 4 (aMove (.const (.bool false)))]
def Zo2(O:HI H):RL' H:=[to 8 (aMkSl O 1 0 #[.slice none 0 0] []),mv' 5 8]
def Zo3:RL' H:=[mk' 6 0]
def Zo4(O:HI H):RL' H:=[mv' 9 6,mv' 10 0,nl' 11 10,fl' 1 12 11,ld' O 13 12,ln' 14 13,ia' .lss 15 9 14]
def Zo5(O:HI H):RL' H:=[mv' 18 0,nl' 19 18,fl' 1 20 19,ld' O 21 20,mv' 22 6,ix' 1 23 21 22,ld' O 24 23,mv' 25 1,to 26 (aCall 203 [.tmp 24,.tmp 25]),to 27 (aUn .not (.tmp 26))]
def Zo6(O:HI H)(ro:Nat):RL' H:=[mv' 28 5,mv' 29 0,nl' 30 29,fl' 1 31 30,ld' O 32 31,mv' 33 6,ix' 1 34 32 33,ld' O 35 34,to 36 (aMkSl O 1 1 #[.slice none 0 0] [(0,.tmp 35)]),to 37 (aApp O ro 1 24 (.tmp 28) (.tmp 36)),mv' 5 37]
def Zo7:RL' H:=[mv' 16 6,ik' .add 17 16 1,mv' 6 17]
def Zo8(O:HI H):RL' H:=[mv' 38 5,ln' 39 38,mv' 40 0,nl' 41 40,fl' 1 42 41,ld' O 43 42,ln' 44 43,ia' .lss 45 39 44,mv' 7 45]
def Zo9(O:HI H)(ro:Nat):RL' H:=[mv' 46 0,mv' 47 5,nl' 48 46,fl' 1 49 48,too (aSt O ro 1 (.tmp 49) (.tmp 47))]
def Zpa:RL' H:=[mv' 50 7,mv' 4 50]
def W192_0:RC' H:=λO P ro=>cSeq (cSeq (cReg (Zo4 O)) (cIf (.tmp 15) (cSkip) (cExit 0))) (cSeq (cBlk 1 (cSeq (cReg (Zo5 O)) (cIf (.tmp 27) (cReg (Zo6 O ro)) (cSkip)))) (cReg Zo7))
def F192:RC' H:=λO P ro=>cSeq (cReg Zo1) (cSeq (cReg (Zo2 O)) (cSeq (cSeq (cReg Zo3) (cBlk 0 (cLoop (W192_0 O P ro)))) (cSeq (cReg (Zo8 O)) (cSeq (cReg (Zo9 O ro)) (cSeq (cReg Zpa) (cRet))))))
theorem F192_fn:FN' 192 @F192 [.tmp 4] Tryz.f192:=f'n Tryz.func192
def Zpb(O:HI H):RL' H:=[to 9 (aMkSl O 1 0 #[.int .i64 0] []),mv' 6 9]
def Zpc:RL' H:=[mk' 7 0]
def Zpd:RL' H:=[mv' 10 7,mv' 11 2,ln' 12 11,ia' .lss 13 10 12]
def Zpe(O:HI H):RL' H:=[mv' 16 1,mv' 17 2,mv' 18 7,ix' 1 19 17 18,ld' O 20 19,to 21 (aShift .shr (.tmp 20) (.const (.int .u64 1))),to 22 (aCall 107 [.tmp 16,.tmp 21]),mv' 8 22]
def Zpf(O:HI H)(ro:Nat):RL' H:=[mv' 23 6,mv' 24 8,mv' 25 2,mv' 26 7,ix' 1 27 25 26,ld' O 28 27,ik' .and 29 28 1,ia' .xor 30 24 29,to 31 (aMkSl O 1 1 #[.int .i64 0] [(0,.tmp 30)]),to 32 (aApp O ro 1 8 (.tmp 23) (.tmp 31)),mv' 6 32]
def Zpg:RL' H:=[mv' 14 7,ik' .add 15 14 1,mv' 7 15]
def Zph(O:HI H):RL' H:=[mv' 33 0,nl' 34 33,fl' 0 35 34,ld' O 36 35,mv' 37 6,to 38 (aCall 105 [.tmp 36,.tmp 37])]
def W193_0:RC' H:=λO P ro=>cSeq (cSeq (cReg Zpd) (cIf (.tmp 13) (cSkip) (cExit 0))) (cSeq (cBlk 1 (cSeq (cReg (Zpe O)) (cReg (Zpf O ro)))) (cReg Zpg))
def F193:RC' H:=λO P ro=>cSeq (cReg (Zpb O)) (cSeq (cSeq (cReg Zpc) (cBlk 0 (cLoop (W193_0 O P ro)))) (cReg (Zph O)))
theorem F193_fn:FN' 193 @F193 [] Tryz.f193:=f'n Tryz.func193
def Zpi:RL' H:=[to 4 (aMove (.const (.bool false)))]
def Zpj:RL' H:=[mv' 6 0,ln' 7 6,mv' 8 1,ln' 9 8,ia' .neq 10 7 9]
def Zpk:RL' H:=[to 4 (aMove (.const (.bool false)))]
def Zpl:RL' H:=[mk' 5 0]
def Zpm:RL' H:=[mv' 11 5,mv' 12 0,ln' 13 12,ia' .lss 14 11 13]
def Zpn(O:HI H):RL' H:=[mv' 17 0,mv' 18 5,ix' 1 19 17 18,ld' O 20 19,mv' 21 1,mv' 22 5,ix' 1 23 21 22,ld' O 24 23,ia' .neq 25 20 24]
def Zpo:RL' H:=[to 4 (aMove (.const (.bool false)))]
def Zpp:RL' H:=[mv' 15 5,ik' .add 16 15 1,mv' 5 16]
def Zpq:RL' H:=[to 4 (aMove (.const (.bool true)))]
def W203_0:RC' H:=λO P ro=>cSeq (cSeq (cReg Zpm) (cIf (.tmp 14) (cSkip) (cExit 0))) (cSeq (cBlk 1 (cSeq (cReg (Zpn O)) (cIf (.tmp 25) (cSeq (cReg Zpo) (cRet)) (cSkip)))) (cReg Zpp))
def F203:RC' H:=λO P ro=>cSeq (cReg Zpi) (cSeq (cSeq (cReg Zpj) (cIf (.tmp 10) (cSeq (cReg Zpk) (cRet)) (cSkip))) (cSeq (cSeq (cReg Zpl) (cBlk 0 (cLoop (W203_0 O P ro)))) (cSeq (cReg Zpq) (cRet))))
theorem F203_fn:FN' 203 @F203 [.tmp 4] Tryz.f203:=f'n Tryz.func203
end
end Go.Proofs.YtimdkminagnhgaaGreatDoor
